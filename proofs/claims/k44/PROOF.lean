import PyProof.Rows.All
import Wide.All
import OpenK.AllK
import Wide.FinOn
import Lean
import PyProof.EqAt
import PyProof.EqKinds
import PyProof.TupleCall
import PyProof.ReprRoads
import PyProof.ReprBulk
import PyProof.EnumMake
import PyProof.EnumFor
import KE.KRevSl
import KE.KDictList
import PyProof.ZipIter
import PyProof.AttrMissHeap
import KE.KDictOf
import KE.KItemsList
import PyProof.Rows.ZipGen
import PyProof.CallFns
import PyProof.NsDelKeeps
import PyProof.StrWalks
import PyProof.FString5
import KE.KSortTup
import PyProof.SetRoads
import PyProof.SetNew
import PyProof.Rows.SetFrom
import PyProof.WalksMore
import PyProof.ForAny
import PyProof.DictWalks
import PyProof.MeetsDict
import KE.KEqDict
import PyProof.AutoSeq1
import PyProof.DictItemsLoops
import KE.KPairComp
import PyProof.ListMulRoad
import PyProof.FactsAll.list
import PyProof.FactsAll.list_2
import PySem.Challenge.RW_parentlines_k44_whole_asked_as_reckoned
set_option Elab.async false
set_option linter.all false
set_option maxRecDepth 100000
set_option maxHeartbeats 4000000
set_option compiler.extract_closed false
abbrev ac:=@List
abbrev ad:=@Option
open Option renaming some->ih,map->aaa,getD_none->aat,none->aa8
open PySem renaming Value->i',Addr->E8,Str->FF,Shared->UN,sizeLine->UP,wpAny->UQ,PyData->UR,model->U4,mainGlobals->U9,starEach->Ve,Stmt->Vj,bootBuiltins->Vv,Expr->VD,compareOp->VW,Paired->VX,FuncData->Ye,Heap->Yl,Builtin->Yo,Program->Yq,World->Yw,Str->Yx,Around->Yy,binaryOp->YB,NameKind->YC,Value->YK,Obj->YO,Within->YS,IsItemIter->YT,DictEntry->YU,Addr->YW,ExceptHandler->Y9,cLine->Y',Scope->Zf,Sem->Zr,SetTable->Zs,Env->Zz,IsPart->ZC,Shared->ZF,Result->ZL,Heap->ZO,frameOf->ZR,Model->ZT,Fin->ZU,BindsTo->Z0,CmpOp->Z4,GenState->Z5,call->aai,IsItemIterOut->aak,seqSlot_of->aax,ElemsOf->abg,World->abj,Stmt->abt,Expr->abu,Obj->abM,Env->abN,Operator->ach
open Sum renaming inr->n',inl->ZH
open PySem.W renaming Frag->U3,emptyDict->Yg,findIn->Yn,findIn->Yt,instObj->Yu,fnOf->Yv,Frag->YA,keepIn->YF,keepIn->YG,codeIn->Y7,plainGet->Zl,lookIn->Zp,methodObj->Zv,hasDictIn->Zw,takerIn->ZI,isFn->ZS,plainOver->aab,handedIn->aam,Looks->aaq,makesIn->aas,OpenLaw->aav
open PySem.Value renaming ref->U6,none->VQ,type->Ys,isStrOf->YQ,bool->YV,builtin->YZ,str->Y8,int->Zn,isInt->Z7,float->Z8,isInt_shape->aar,bytes->abi
open PySem.NameKind renaming free->Vh,cell->Yf
open False renaming elim->Vr
open PySem.PyData renaming depthAll->Vs,str->Vz,strOk->VH,eqv->Yh,canLayAll0->Yj,depth->Yr,eqvAll->YN,leavesShortAll->ZY,showableAll->aac,hasDictAll->aan,bulkAll->aay,bulk->aa7
open True renaming intro->VI
open List renaming lookup->VP,range->VS,replicate->YL,getD->Zg,length->Zk,nodup_range->aaA,mem_reverse->aaB,getElem_inj->aaC,append_inj'->aaD,range_succ->aaN,length_set->aaO,forIn_cons->aaP,map_take->aa9,all_cons->aba,map_nil->abk,not_lt->abw
open PySem.Obj renaming mapSeq->V0,putSet->ZD,mapFields->ZX
open ForInStep renaming yield->Yi,done->acQ
open PySem.Heap renaming SameBut->Yk,FlyingW->YM,get?->acj
open PySem.Txt renaming slice->Ym,join->aa6
open PySem.Builtin.List renaming listExtendWith->Yp,listTooLong->YI,listLengthHint->Zy,listSameRef->ZG
open PyProof.Rows renaming StrsAre->Yz,IsTup->YJ,AllBare->Zo,Subscript_->Z6,IntsAre->aaw,lt_str->ab4,iadd_int->ab5,floordiv_int->ab6,Constant_none->acq
open PySem.Str renaming ofString->YD,empty->Z1,length->aci
open PySem.Builtin.Slice renaming slicePlaces->YE,sliceAdjust->Y2,sliceApplied->Zx,slicePartIndex->abI,sliceFields->abJ
open PySem.Builtin.Tuple renaming tupleExact->YH,tupleItemsOf->YX
open PySem.Builtin.Dict_items renaming ownsTuple->YR,ownedTupleIsFree->Zh,ownedTupleFields->Zi,pairFromOwner->Zm,newIterator->aaG,dictOf->aaH
open PySem.Builtin.Str renaming strSliceIndices->YY,glued->aco
open Int renaming toNat->Y0
open PySem.SetTable.below renaming go->Y1
open Or renaming inr->Y3,inl->abf
open List.Perm renaming swap->Y4,of_eq->aad,trans->acO,map->acP
open PySem.SetTable renaming grown->Y5,below->Y6
open PySem.Shared renaming TypeIs->Zj
open List.Pairwise renaming nil->Zq,and_mem->abH
open PySem.pickOrder renaming go->Zt
open And renaming intro->Zu
open PySem.Around renaming under->ZA
open PySem.SeqAt renaming readOf->ZE,list_indexAt->aal,EqAt->abr
open PySem.Builtin.Dict renaming updateFrom->ZJ,pairItems->ZK,showsAll->ZM,selfAndRest->aca,noArgs->acb,addKeywords->acd
open PySem.Heap.IsSliceOf renaming new->ZN
open Nat renaming strongRecOn->ZP,mod_eq_of_lt->aaJ,min_eq_right->aaK,le_max_right->aaL,le_add_right->aaM,min_eq_left->aaY,le_max_left->aaZ,le_of_eq->abv,one_mul->abO
open PySem.AutoSeq1 renaming sub_list_list->ZQ,idx_int->aaf
open PySem.SeqAt.EqAt renaming str_int->ZV,int_str->ZW,str_str->acs,str_none->acu,str_bool->acv,same->acw,none_str->acx,none_int->acy,none_bool->acz,int_none->acA,int_int->acB,int_bool->acC,bool_str->acD,bool_none->acE,bool_int->acF,bool_bool->acG
open PySem.Calls renaming callWith_builtin->ZZ,spliced_cons->aap,spliced_nil->aau
open PySem.Code renaming isFrame->Z2,isGuard->abo,frames->abx
open PySem.Heap.DictOf renaming new->Z3
open PySem.Heap.Ns1 renaming of_empty->Z9
open Classical renaming choose->Z',not_forall->acS,choose_spec->acT
open PyProof.Rows.F renaming entry_set_update_loop->aae
open PySem.Walks renaming list->aah,dictKeys->aaI
open PySem.W.Looks renaming here->aaj,here->aby
open PySem.F renaming slot_dict_items_iter->aao,args_list_index_2->aaE,args_dict_items_1->aaF,entry_list_index->aaQ,entry_dict_items->aaR,type_dict_items->aa0,slot_list_index->aa1,plainAttrs_dict->aa2,entry_list_pop->abb,entry_any_loop->abc,slot_set_iter->abl,slot_list_pop->abm,plain_set_new->abn
open Prod.mk renaming injEq->aaz,inj->aaX
open PySem.Builtin.Frozenset renaming updateFrom->aaS,slot0->aaT,sizeOf->aaU,newClass->aaV
open Array renaming mem_def->aa3,toList->abe,ext->abP
open Std.Legacy.Range renaming size->aa4,forIn_eq_forIn_range'->aa5
open Bool renaming and_true->abd,true_or->abq
open PySem.W.WShape renaming has->abh
open PySem.CmpOp renaming NotIn->abp,In->acm
open PySem.EqMixed renaming ne_str_int->abz,ne_str_bool->abA,ne_int_str->abB,ne_bool_str->abC,eq_str_int->abD,eq_str_bool->abE,eq_int_str->abF,eq_bool_str->abG
open PySem.Builtin.Range renaming rangeSize->abK
open PySem.W.WData renaming int->abL
open PySem.EqNone renaming ne_str_none->abQ,ne_none_str->abR,ne_none_none->abS,ne_none_int->abT,ne_none_bool->abU,ne_int_none->abV,ne_bool_none->abW,eq_str_none->abX,eq_none_str->abY,eq_none_none->abZ,eq_none_int->ab0,eq_none_bool->ab1,eq_int_none->ab2,eq_bool_none->ab3
open List.Sublist renaming refl->ab7,map->ab8
open PySem.Heap.SameBut renaming refl->ab9
open PySem.Flow renaming next->ack
open Option.some renaming injEq->acn
open PySem.Data renaming seq->acp
open Std.Legacy renaming Range->acr
open PySem.EntryCells renaming newEntry->acH
open PySem.Value.ref renaming inj->acL
open PySem.IsL renaming update->acM
open PySem.PassesOwn renaming leaving->acN
open PySem.DictEntry renaming refKey->acR
open PySem renaming wpAny_bind->ae,wpAny_pure->ao,sizeLine_eq->aW,wpAny_holding->er,boot_len->eI,wpAny_newObj_type->fQ,wpAny_truthy_bool->hg,wpAny_setState_of->hB,wpAny_mono->h8,wpAny_call_entry->h9,codeAny_builtin->ia,wpAny_askSetting->iL,wpAny_setField_rec->iO,wpAny_rule->ji,mem_of_lookup->jk,wpAny_typeOf->jm,plainId_quiet->jr,wpAny_standAt->j7,wpAny_call->j9,call_meets->kf,codeAny_mono->ly,wpAny_field->lz,wpAny_passesOwn->mU,wpAny_Call_Name_kw->mV,wpAny_execs_nil->oN,wpAny_load->oO,wpAny_pyIter_list->rO,wpAny_callSpecial?_slot->rQ,wpAny_loadPart_at->rR,wpAny_attempt->rV,wpAny_loadPart->vX,seqIndex_of->v7,codeAny_of_tree->v9,wpAny_getItem_str_slice->wg,post_val_or_str->wj,tupleKind_room_in1->wC,wpAny_throw->wD,wpAny_newList->wH,fits_of_scanBound->wI,wpAny_pyIter_slot->wL,wpAny_typeNameOfWhole_itemiter->wR,wpAny_typeNameOf_itemiter->wU,wpAny_eqBool_str->EW,noFill_tuple_add->E9,evalPart_none->Fe,slot_list_getitem->Ff,evalArgs_none->Fh,wpAny_noRaise->Fl,wpAny_comprehension_free->Fn,typeLookup_type->Fz,builtinLookup_eq_fast->FC,wpAny_runValue->FJ,isSubtype_type->FK,wpAny_fieldsOf->FL,wpAny_isInstance->FO,wpAny_ite_split->FQ,wpAny_updateSeq->FR,wpAny_dictEntries->FW,wpAny_dictEpoch->FX,wpAny_isOneOf_itemiter->FY,plainObj_wpAny_Assign_Attribute->UX,wpAny_getItem_list_slice->U5
open List renaming length_map->aE,mem_cons_self->aY,mem_map->a6,mem_cons_of_mem->bc,getElem?_eq_getElem->bz,mem_cons->bJ,mem_append->bK,mem_singleton->bN,length_append->bX,size_toArray->b2,getElem?_eq_some_iff->b3,map_cons->b4,take_length->cB,length_take->cK,getElem?_map->cL,length_cons->cV,map_map->c7,lookup_cons->dt,nodup_append->dw,take_succ->dM,mem_append_right->d7,nodup_cons->d8,mem_of_getElem?->eO,getElem_mem->eP,append_nil->eZ,nodup_nil->fc,mem_filter->fj,mem_append_left->fM,getD_eq_getElem?_getD->gA,length_filter_le->gR,filter_append->gS,mem_range->jh,take_sublist->jl,any_cons->jn,length_singleton->jo,length_nil->jq,not_mem_nil->js,drop_eq_getElem_cons->lB,any_eq_true->lC,eq_nil_of_length_eq_zero->lF,nodup_iff_pairwise_ne->lG,map_drop->lH,length_pos_iff->lI,length_drop->mW,append_assoc->mX,all_eq_true->mY,map_congr_left->m1,pairwise_map->m2,filter_cons->m5,mem_filterMap->oL,find?_cons->oU,filter_cons_of_pos->oW,mem_of_mem_take->oX,mem_of_mem_drop->oY,mem_flatMap->oZ,flatMap_append->o1,getElem?_eq_none->rY,filter_nil->r3,filter_cons_of_neg->r4,head?_map->r6,any_eq_false->vW,length_replicate->vY,any_map->wq,getElem_of_mem->wy,drop_zero->wz,getElem_toArray->wB,take_append_drop->wG,mem_iff_getElem->wN,map_id->wQ,sum_cons->wV,drop_length->wW,filterMap_cons->EX,getElem?_set_self->EY,getElem?_set_ne->EZ,of_mem_zip->E5,getElem?_append_left->E6,length_dropLast->Fi,lookup_append->Fj,length_range->Fp,length_erase_of_mem->Fq,length_pos_of_mem->Fs,mem_erase_of_ne->Ft,length_reverse->Fv,cons_append->Fw,ext_getElem->FE,getElem?_inj->FT,length_eq_one_iff->F0,take_of_length_le->F1,replicate_succ'->F2,flatMap_cons->F5,getElem?_append_right->U2,reverse_cons->U7,eraseIdxIfInBounds_toArray->U8,drop_of_length_le->Vc,length_eraseIdx->Vk,cons_lt_cons_iff->VJ,countP_eq_length_filter->VL,perm_ext_iff_of_nodup->VM,filter_eq_self->VN,drop_sublist->VR,prefix_cons_inj->VZ
open Nat renaming le_refl->aQ,zero_le->bD,ne_of_lt->bM,le_trans->en,lt_of_lt_of_le->eY,le_succ->gc,lt_irrefl->jg,ne_of_gt->jj,lt_succ_self->j8,lt_trans->lA,lt_succ_of_lt->lE,le_of_lt->oM,not_lt_zero->oV,add_mul->r5,mod_lt->wJ,lt_of_succ_lt_succ->wK,mul_le_mul->w0,not_lt->Fu,sub_zero->Fx,le_antisymm->Fy,le_succ_of_le->FG,le_of_succ_le->Vd,lt_of_le_of_lt->Vy
open Ne renaming symm->aT
open PySem.Heap renaming get?_push_of_some->a7,lt_size->bx,get?_push_size->bW,size_push->hj,get?_update_other->kc,get?_update_self->oQ,get?_none_of_le->rN
open Bool renaming false_ne_true->cc,and_eq_true->gP,eq_iff_iff->lx,and_eq_true_iff->oT,false_eq_true->v8,false_or->wu,or_false->Fg
open Option.some renaming inj->cJ
open PySem.Paired renaming length->cN,snoc->gQ
open PySem.PassesOwn renaming never->d9
open Array renaming length_toList->gb,getD_eq_getD_getElem?->iN,getElem?_eq_getElem->mZ,getElem?_toList->oR,size_append->rW,getElem?_eq_none->r0,toList_inj->wk,getElem?_eq_some_iff->wm,find?_toList->UT,mem_of_getElem?->Vf,perm_iff_toList_perm->Vg,toList_push->Vi
open Sum.inr renaming inj->gx
open Int renaming toNat_natCast->gy,eq_ofNat_of_zero_le->gT,emod_nonneg->wY,emod_lt_of_pos->wZ,natCast_add->F6,fdiv_eq_ediv_of_nonneg->US,lt_of_lt_of_le->VF
open Option renaming map_eq_some_iff->gz,map_some->rM,isSome_iff_exists->rP,isSome_map->rX,bind_some->we,map_map->wX,map_eq_none_iff->VO
open PySem.F renaming plainAttrs_list->hC,called_set->lD,slot_list_append->m3,type_list_append->m4,store_object->rT,slot_dict_itemiterator_next->r1,plain_any_loop->wx,plain_list_iadd->wM,slot_dict_items->wO,slot_tuple_add->Fb,entry_tuple_add->Fc,args_tuple_add_2->Fd,slot_tuple_getattribute->FD,slot_list_mul->FZ,slot_list_pop->F3,type_list_pop->F4,attrBase_ValueError->Va,excBase_ValueError->Vb,plain_extend_loop->Vm,entry_proto_collect->Vn,plain_proto_collect->Vo,entry_list_iadd->Vp,slot_tuple_index->Vt,entry_dict_itemiterator_next->VA,args_dict_itemiterator_next_1->VB,slot_list_rmul->VC,slot_int_rmul->VE,slot_list_index->VT,type_list_index->VU
open PySem.W renaming kia_one->iK,mg_of->ju,any_some->rS,looks_mroIn->wc,plainGet_of->E3,callWith_K->E4,set_plain->UU,kitx_list->UY,kitx_dict->UZ,methodCall_KW->U0,cellsFrom_some->U1
open PySem.Around renaming under_plainId->iM
open List.Perm renaming refl->kg,append_left->Vl
open PyProof.Rows renaming slot_tuple_getitem->oP,callWith_type1->vV,assignInOrder_cons->E1,callWith_builtin1->E7
open PySem.Heap.SameBut renaming update->rZ
open Prod renaming ext->vZ
open PySem.Heap.UpToSlots renaming trans->wF
open PySem.Value renaming isStrOf_shape->EV
open PySem.Code renaming quiet_builtin->Fo
open PyProof.Rows.F renaming plain_set_update_loop->FH
open PySem.AutoSeq1 renaming wpAny_loadPart'->FU,sub_tuple_tuple->Vu,sub_tuple_list->Vw,sub_list_tuple->Vx
open List.cons renaming inj->FV
open PySem.Calls renaming Name_function_global->UO,call_function_entry->Vq
open PySem.Within renaming cons->UW
open List.Pairwise renaming map->VG
open PySem.SeqAt renaming eqv_refl->VY
def aq:=@if_neg
def aF:=@if_pos
def a':=@List.map_append
def cf:=@decide_eq_true
def c6:=@congrArg
def dJ:=@beq_iff_eq
def dQ:=@of_decide_eq_true
def ej:=@decide_eq_false
def hA:=@if_true
def iJ:=@beq_eq_false_iff_ne
def jt:=@or_false
def kb:=@if_false
def oS:=@beq_self_eq_true
def v':=@PySem.codeAny_call_builtin
def E':=@PySem.seq_tuple_add
def U':=@Option.isSome_some
def VV:=@not_false_eq_true
variable{us its:ac YK}{x n name qual q cn wh:Yx}{u cd Qc pm Qa ct oc vl vu dv:YK}{a b l it D p C f R sl B fI d I fL fD fN fS fE tt fC ow fT M fG dk td db:YW}{o ox ol:abM}{i t' j n1 ep U:Nat}{h h' g base h0:ZO}{items:Array YK}{P prog:PySem.Program}{w:abj}{e c tg iter value Qn:abu}{L Ps:Yx->List Yx}{J:ac (YW×abM)}{s s' s1 s2:ZF}{ch fp:ac YW}{N ys ns ps Qr N' ks r line NU rn NS:ac Yx}{A:PySem.Around}{E Q:YK->ZF->Prop}{pos Qh Qe Qi tp:PySem.Pos}{K:U3}{st:abt}{es Qf Qv:ac abu}{body:ac abt}{lo m z bg:Int}{dx an od:ad YW}{mA mg:Yx->Option YK}{Qs:Bool}{kw:ac (Yx×YK)}{env:abN}{outer:ac abN}{fd dL dD dN dS dI dW dE dC dT dG dR:PySem.FuncData}{kindOf:Yx->Option PySem.NameKind}{sc scope:PySem.Scope}{Qm:Array (Option YK)}{T:String}{hi:ad Int}{XP:(Yx->Option YK)->ZO->Prop}{YP:abj->ZO->Prop}{cells:ac (Yx×YW)}{Qd:ac (Option Nat)}{tn:Nat->ZO->Prop}{RR:YK->YW->PySem.Result->ZF->Prop}{tk:PySem.Tok}{rest rows:ac (List Yx)}{av:YW->Prop}{Qb:ac (Yx×List Yx)}{dn:Yx->Bool}
open PySem
namespace L2
open Spec PyProof.Rows
abbrev Key:=Sum Int FF
def mj:Key->i'->Bool
 |.inl k,v=>Z7 k v
 |.inr x,v=>YQ x v
def Ob(w:Yw):Key->Int
 |.inl k=>hashInt k
 |.inr x=>hashStr w x
theorem iQ:∀{k:Key}{v:i'},mj k v=true->(∃i t,k=ZH i/\v=Zn i t)\/(∃x t,k=n' x/\v=Y8 x t)
 |.inl i,v,h=>by
  obtain⟨t,e⟩:=aar (k:=i) (v:=v) h;exact .inl ⟨i,t,rfl,e⟩
 |.inr x,v,h=>by
  obtain⟨t,e⟩:=EV (x:=x) (v:=v) h;exact .inr ⟨x,t,rfl,e⟩
theorem HR(i:Int)(t:Tok):mj (.inl i) (.int i t)=true:=by simp[mj,Z7]
theorem HU(x:FF)(t:Tok):mj (.inr x) (.str x t)=true:=by simp[mj,YQ]
theorem LF(a b:Int):decide ((ZH a:Key)=ZH b)=(a==b):=by
 by_cases e:a=b
 ·subst e;simp
 ·have h : ¬ (ZH a:Key)=ZH b:=λq=>e (Sum.inl.inj q)
  rw[ej h];exact(iJ.mpr e).symm
theorem LG(a b:FF):decide ((n' a:Key)=n' b)=decide (a=b):=by
 by_cases e:a=b
 ·subst e;simp
 ·have h : ¬ (n' a:Key)=n' b:=λq=>e (gx q)
  rw[ej h,ej e]
theorem LH(a:Int)(b:FF):decide ((ZH a:Key)=n' b)=false:=ej (λq=>nomatch q)
theorem LJ(a:FF)(b:Int):decide ((n' a:Key)=ZH b)=false:=ej (λq=>nomatch q)
def cm(prog:Yq)(w:Yw):PySem.KeyKind prog w Key where
 is:=mj
 hash:=Ob w
 inj:=λv a b ha hb=>by
  rcases iQ ha with⟨i,t,rfl,rfl⟩|⟨x,t,rfl,rfl⟩
  ·rcases iQ hb with⟨j,u,rfl,e⟩|⟨y,u,rfl,e⟩
   ·injection e with e1 _;rw[e1]
   ·exact nomatch e
  ·rcases iQ hb with⟨j,u,rfl,e⟩|⟨y,u,rfl,e⟩
   ·exact nomatch e
   ·injection e with e1 _;rw[e1]
 byValue:=λk v h=>by
  rcases iQ h with⟨i,t,rfl,rfl⟩|⟨x,t,rfl,rfl⟩ <;> rfl
 pyHash:=λhv h=>by
  rcases iQ hv with⟨i,t,rfl,rfl⟩|⟨x,t,rfl,rfl⟩
  ·exact wpAny_pyHash_int h
  ·exact wpAny_pyHash_str h
 eqBool:=λhu hv h=>by
  rcases iQ hu with⟨i,t,rfl,rfl⟩|⟨x,t,rfl,rfl⟩
  ·rcases iQ hv with⟨j,u,rfl,rfl⟩|⟨y,u,rfl,rfl⟩
   ·rw[LF]at h;exact wpAny_eqBool_int h
   ·rw[LH]at h;exact ZW i t y u _ _ _ _ h
  ·rcases iQ hv with⟨j,u,rfl,rfl⟩|⟨y,u,rfl,rfl⟩
   ·rw[LJ]at h;exact ZV x t j u _ _ _ _ h
   ·rw[LG]at h;exact EW h
 «strs» :=λk x t v h=>by
  rcases iQ h with⟨i,u,rfl,e⟩|⟨y,u,rfl,e⟩
  ·exact nomatch e
  ·injection e with e1 _
   subst e1;cases v <;> rfl
theorem GJ(prog:Yq)(w:Yw)(i:Int)(t:Tok):(cm prog w).is (.inl i) (.int i t)=true:=HR i t
theorem GL(prog:Yq)(w:Yw)(x:FF)(t:Tok):(cm prog w).is (.inr x) (.str x t)=true:=HU x t
inductive V where
 |aO|bl (b:Bool)|int (i:Int)|str (x:FF)|f7 (b:Array UInt8)|jW (b:UInt64)|ref (a:E8)|ty (n:String)
 deriving DecidableEq
def RelV:V->i'->Prop
 |.aO,u=>u=VQ
 |.bl b,u=>u=YV b
 |.int i,u=>∃t,u=Zn i t
 |.str x,u=>∃t,u=Y8 x t
 |.f7 b,u=>∃t,u=abi b t
 |.jW b,u=>∃t,u=Z8 b t
 |.ref a,u=>u=U6 a
 |.ty n,u=>u=Ys n
abbrev Vals:List V->List i'->Prop:=VX RelV
theorem Vals.length{xs:ac V}(r:Vals xs us):xs.length=us.length:=cN r
theorem Vals.get:∀{xs:ac V}{us:ac i'}{i:Nat}{x:V},Vals xs us->xs[i]?=ih x ->∃u,us[i]?=ih u/\RelV x u
 |_,_,_,_,.nil,e=>by simp at e
 |_,_,0,_,.cons r _,e=>by simp at e;subst e;exact⟨_,rfl,r⟩
 |_,_,i+1,x,.cons _ t,e=>by
  obtain⟨u,h1,h2⟩:=Vals.get (i:=i) (x:=x) t (by simpa using e)
  exact⟨u,by simpa using h1,h2⟩
theorem Vals.set{x:V}{u:i'}(r:RelV x u):∀{xs:ac V}{us:ac i'} (i:Nat),Vals xs us->Vals (xs.set i x) (us.set i u)
 |_,_,_,.nil=>.nil
 |_,_,0,.cons _ t=>.cons r t
 |_,_,i+1,.cons q t=>.cons q (Vals.set r i t)
theorem Vals.append:∀{xs ys:ac V}{us ws:ac i'},Vals xs us->Vals ys ws->Vals (xs++ys) (us++ws)
 |_,_,_,_,.nil,s=>s
 |_,_,_,_,.cons r t,s=>.cons r (Vals.append t s)
theorem Vals.take:∀{xs:ac V}{us:ac i'} (n:Nat),Vals xs us->Vals (xs.take n) (us.take n)
 |_,_,0,_=>.nil
 |_,_,_+1,.nil=>.nil
 |_,_,n+1,.cons r t=>.cons r (Vals.take n t)
theorem Vals.drop:∀{xs:ac V}{us:ac i'} (n:Nat),Vals xs us->Vals (xs.drop n) (us.drop n)
 |_,_,0,r=>r
 |_,_,_+1,.nil=>.nil
 |_,_,n+1,.cons _ t=>Vals.drop n t
def ey:Option V->Option i'->Prop
 |some v,ih u=>RelV v u
 |none,none=>True
 |_,_=>False
def KV{κ:Type}:List (κ×V)->List (κ×i')->Prop:=VX λ(p:κ×V) (q:κ×i')=>p.1=q.1/\RelV p.2 q.2
def kV:Key->V
 |.inl i=>.int i
 |.inr x=>.str x
inductive HO where
 |lst (xs:List V)
 |tup (xs:List V)
 |dK (kvs:List (Key×V))|dT (kvs:List (List Key×V))
 |set (S:Int->Bool) (n:Nat)
 |ins (C dx:E8) (fs:List (FF×V))
 |own (x:E8)
 |xd (fs:List (FF×V))
 |met (f x:E8)
 |oz (lo hi:Int)
 |bw (o:YO) (u:HO)
 |jd (ps:Array i')
 |ext (φ:Yl->Prop)
abbrev a2(x:List V):Option HO:=ih (.tup x)
abbrev bd(x:List V):Option HO:=ih (.lst x)
abbrev bn(x:List (Key×V)):Option HO:=ih (.dK x)
abbrev ce(x:List (List Key×V)):Option HO:=ih (.dT x)
abbrev am(x:E8):Option V:=ih (.ref x)
abbrev Hp:=E8->Option HO
def upd(H:Hp)(a:E8)(o:HO):Hp:=λb=>if b=a then ih o else H b
theorem af{H:Hp}{o:HO}:upd H a o a=ih o:=by unfold upd;rw[aF rfl]
theorem ag{H:Hp}{o:HO}(h:b≠a):upd H a o b=H b:=by unfold upd;rw[aq h]
theorem fu{H:Hp}{o u:HO}:upd (upd H a o) a u=upd H a u:=by
 funext b;unfold upd;split <;> rfl
theorem jC{l:ac FF}{x:V}(h:(l.map V.str)[i]?=ih x):∃h:i<l.length,V.str l[i]=x:=by
 have a:i<l.length:=by simpa using (b3.mp h).1
 exact⟨a,by simpa [a] using h⟩
theorem ar{H:Hp}{o u:HO}(h:H a=ih o)(h':H b=ih u)(d:o≠u:=by intro z;cases z):a≠b:=by
 intro e;subst e;rw[h]at h';exact d (cJ h')
theorem ay{H:Hp}{o:HO}(h:H a=ih o)(h':H b=none):a≠b:=by
 intro e;subst e;rw[h]at h';cases h'
def i8(h:Yl)(a:E8)(items:Array i'):Prop:= ∃o,h.get? a=ih o/\o.cls=.type "tuple" /\∃n,o.data=.seq items n/\o.dict=none
theorem i8.is(x:i8 h a items):YJ h a items:=let ⟨o,e,c,n,d,_⟩:=x;⟨o,e,c,n,d⟩
theorem i8.new(h:Yl)(items:Array i'):i8 (h.push { cls:=.type "tuple",data:=.seq items }) h.objs.size items:=⟨_,bW _ rfl,rfl,_,rfl,rfl⟩
section
variable(P:Yq)(w:Yw)
def bF(H:Hp)(h:Yl)(a:E8):HO->Prop
 |.lst xs=>xs.length<=UP /\∃(its:List i') (n:Nat),Vals xs its/\h.get? a=ih { cls:=.type "list",data:=.seq its.toArray n }
 |.tup xs=>xs.length<=UP /\∃its:List i',Vals xs its/\i8 h a its.toArray
 |.dK kvs=>kvs.length<=UP/\(a==sysModules)=false /\∃vs,KV kvs vs/\h.DictOf (cm P w) a vs
 |.dT kvs=>kvs.length<=UP/\(a==sysModules)=false /\∃xs:List (List Key×E8×i'),
   VX (λ(p:List Key×V) (q:List Key×E8×i')=>p.1=q.1/\H q.2.1=ih (.tup (p.1.map kV))/\RelV p.2 q.2.2) kvs xs /\
   ∃o es ep,h.get? a=ih o/\o.ExactDict/\o.data=.dict es ep/\es.toList=xs.map (entryOfKey (tupleKind (cm P w)))/\(xs.map (·.1)).Nodup
 |.set S n=>h.SetOf (intKind P w) a S n
 |.ins C dx fs=>H dx=ih (.own a)/\fs.length<=1000/\dx≠a/\h.get? a=ih (Yu C dx) /\
   ∃mA,h.Ns1 dx mA/\(∀f,ey (fs.lookup f) (mA f))/\YS mA (fs.map (·.1))
 |.own _=>∃o,h.get? a=ih o
 |.xd fs=>∃mA,h.Ns1 a mA /\∀f,ey (fs.lookup f) (mA f)
 |.oz lo hi=>∃t u v,h.get? a=ih { cls:=.type "range",data:=.fields #[.int lo t,.int hi u,.int 1 v] }
 |.bw o u=>h.get? a=ih o/\bF H h a u
 |.jd ps=>h.get? a=ih { cls:=.none,data:=.fields ps }
 |.met f x=>h.get? a=ih (Zv (.ref f) (.ref x))
 |.ext φ=>φ h/\(∃o,h.get? a=ih o) /\∀h1 h2:Yl,φ h1->(∀o,h1.get? a=ih o->h2.get? a=ih o)->φ h2
def cq(H:Hp)(h:Yl):Prop:= ∀a o,H a=ih o->bF P w H h a o
end
section
variable{H H':Hp}{o:HO}
theorem bF.lt(x:bF P w H h a o):a<h.objs.size:=by
 cases o with
 |lst xs=>obtain⟨_,_,_,_,e⟩:=x;exact bx e
 |tup xs=>obtain⟨_,_,_,p⟩:=x;exact p.is.lt
 |dK kvs=>obtain⟨_,_,_,_,o,_,_,e,_⟩:=x;exact bx e
 |dT kvs=>obtain⟨_,_,_,_,o,_,_,e,_⟩:=x;exact bx e
 |set S n=>obtain⟨o,_,_,_,e,_⟩:=x;exact bx e
 |ins C dx fs=>obtain⟨_,_,_,e,_⟩:=x;exact bx e
 |own y=>obtain⟨_,e⟩:=x;exact bx e
 |xd fs=>obtain⟨_,⟨_,_,_,e,_⟩,_⟩:=x;exact bx e
 |oz lo hi=>obtain⟨_,_,_,e⟩:=x;exact bx e
 |bw b u=>obtain⟨e,_⟩:=x;exact bx e
 |jd ps=>exact bx (show h.get? a=ih _ from x)
 |met f y=>exact bx (show h.get? a=ih _ from x)
 |ext c=>obtain⟨_,⟨_,e⟩,_⟩:=x;exact bx e
theorem Paired.qB{α β:Type}{F G:α->β->Prop}:∀{c:ac α}{d:ac β},VX F c d->(∀a b,F a b->G a b)->VX G c d
 |_,_,.nil,_=>.nil
 |_,_,.cons r t,f=>.cons (f _ _ r) (Paired.qB t f)
theorem Paired.imp'{α β:Type}{F G:α->β->Prop}(f:∀a b,F a b->G a b){c:ac α}{d:ac β}(r:VX F c d):VX G c d:=Paired.qB r f
theorem bF.ez(x:bF P w H h a o)(k:∀b u,(b=a\/H b=ih (.own a))->h.get? b=ih u->h'.get? b=ih u)
  (i:∀b,H b=ih (.own a)->H' b=ih (.own a)) (j:∀b xs,H b=a2 xs->H' b=a2 xs):bF P w H' h' a o:=by
 induction o with
 |lst xs=>obtain⟨z,its,n,r,e⟩:=x;exact⟨z,its,n,r,k _ _ (.inl rfl) e⟩
 |tup xs=>obtain⟨z,its,r,g,e,c⟩:=x;exact⟨z,its,r,g,k _ _ (.inl rfl) e,c⟩
 |dK kvs=>obtain⟨z,y,vs,r,g,es,ep,e,c⟩:=x;exact⟨z,y,vs,r,g,es,ep,k _ _ (.inl rfl) e,c⟩
 |dT kvs =>
  obtain⟨z,y,xs,r,g,es,ep,e,c⟩:=x;exact⟨z,y,xs,Paired.qB r λp q z=>⟨z.1,j _ _ z.2.1,z.2.2⟩,g,es,ep,k _ _ (.inl rfl) e,c⟩
 |set S n=>obtain⟨g,es,ep,t,e,c⟩:=x;exact⟨g,es,ep,t,k _ _ (.inl rfl) e,c⟩
 |ins C dx fs =>
  obtain⟨d,z,ne,e,mA,⟨od,es,ep,e2,c⟩,r⟩:=x;exact⟨i _ d,z,ne,k _ _ (.inl rfl) e,mA,⟨od,es,ep,k _ _ (.inr d) e2,c⟩,r⟩
 |own y=>obtain⟨g,e⟩:=x;exact⟨g,k _ _ (.inl rfl) e⟩
 |xd fs=>obtain⟨mA,⟨od,es,ep,e,c⟩,r⟩:=x;exact⟨mA,⟨od,es,ep,k _ _ (.inl rfl) e,c⟩,r⟩
 |oz lo hi=>obtain⟨t,u,v,e⟩:=x;exact⟨t,u,v,k _ _ (.inl rfl) e⟩
 |bw g u l=>obtain⟨e,q⟩:=x;exact⟨k _ _ (.inl rfl) e,l q⟩
 |jd ps =>
  have e:h.get? a=ih { cls:=.none,data:=.fields ps }:=x;show h'.get? a=ih { cls:=.none,data:=.fields ps };exact k a _ (.inl rfl) e
 |met f y =>
  have e:h.get? a=ih (Zv (.ref f) (.ref y)):=x;show h'.get? a=ih (Zv (.ref f) (.ref y));exact k a _ (.inl rfl) e
 |ext m=>obtain⟨p,⟨o,e⟩,st⟩:=x;exact⟨st _ _ p λo q=>k _ _ (.inl rfl) q,⟨o,k _ _ (.inl rfl) e⟩,st⟩
theorem cq.lt(x:cq P w H h)(e:H a=ih o):a<h.objs.size:=(x a o e).lt
theorem cq.fresh(x:cq P w H h)(e:h.objs.size<=a):H a=none:=by
 cases q:H a with
 |none=>rfl
 |some u=>exact absurd (eY (x.lt q) e) (jg _)
theorem cq.kept(x:cq P w H h)(k:∀b u,h.get? b=ih u->h'.get? b=ih u):cq P w H h':=λa o e =>
 (x a o e).ez (λb u _ q=>k b u q) (λ_ q=>q) λ_ _ q=>q
theorem cq.laid(x:cq P w H h)(k:∀b u,h.get? b=ih u->h'.get? b=ih u)(g:h.objs.size<=a)(new:bF P w (upd H a o) h' a o):cq P w (upd H a o) h':=λb u e=>by
 have d:=x.fresh g
 by_cases f:b=a
 ·subst f;rw[af]at e;cases e;exact new
 ·rw[ag f]at e
  exact(x b u e).ez (λc v _ q=>k c v q) (λc q=>by rw[ag (ay q d)];exact q) λc xs q=>by rw[ag (ay q d)];exact q
end
def Rd(H:Hp)(a:E8)(u:HO):Prop:=H a=ih u \/∃o,H a=ih (.bw o u)
theorem Rd.of{H:Hp}{u:HO}(h:H a=ih u):Rd H a u:=.inl h
theorem Rd.ok{H:Hp}{u:HO}(r:Rd H a u)(x:cq P w H h):bF P w H h a u:=by
 rcases r with r|⟨o,r⟩
 ·exact x a u r
 ·obtain⟨_,q⟩:=x a _ r
  exact q
def oA:Option HO->Prop
 |some (.lst _)=>True
 |some (.dK _)=>True
 |some (.dT _)=>True
 |some (.set _ _)=>True
 |some (.ins _ _ _)=>True
 |some (.ext _)=>True
 |_=>False
section
variable{H:Hp}{x e:E8}{o':HO}
theorem cq.write(ok:cq P w H h)(d:oA (H x))(i:e=x\/H e=ih (.own x))(k:∀b u,b≠e->h.get? b=ih u->h'.get? b=ih u)(m:∃u,h'.get? e=ih u)
  (new:bF P w (upd H x o') h' x o'):cq P w (upd H x o') h':=λb u q=>by
 have g:∀c y,H c=ih (.own y)->c≠x:=λc y r z=>by subst z;rw[r]at d;exact d
 have l:∀c xs,H c=a2 xs->c≠x:=λc xs r z=>by subst z;rw[r]at d;exact d
 by_cases f:b=x
 ·subst f;rw[af]at q;cases q;exact new
 ·rw[ag f]at q
  by_cases a:b=e
  ·have j:H b=ih (.own x):=by
    rcases i with z|z
    ·exact absurd (a.trans z) f
    ·rw[a];exact z
   rw[q]at j;cases j;obtain⟨v,n⟩:=m;exact⟨v,by rw[a];exact n⟩
  ·refine(ok b u q).ez (λc v hc r=>k c v ?_ r) (λc r=>by rw[ag (g c b r)];exact r) λc xs r=>by rw[ag (l c xs r)];exact r
   rcases hc with rfl|hc
   ·exact a
   ·rintro rfl
    rcases i with z|z
    ·exact g c b hc z
    ·rw[hc]at z;cases z;exact f rfl
end
structure Un(fs ex:List E8)(H H':Hp)(h h':Yl):Prop where
 keep:∀b o,h.get? b=ih o->H b=none->b ∉ fs->b ∉ ex->h'.get? b=ih o
 slot:∀b o,h.get? b=ih o->H b=none->b∈fs->b ∉ ex ->∃sl,h'.get? b=ih { o with slots:=sl }
 free:∀b o,h.get? b=ih o->H b=none->b ∉ ex->H' b=none
 there:∀b o,h.get? b=ih o->b ∉ ex ->∃o',h'.get? b=ih o'
 gm:∀b xs,H b=ih (.tup xs)->H' b=ih (.tup xs)
 gH:∀b o u,H b=ih (.bw o u)->H' b=ih (.bw o u)
 gW:∀b ps,H b=ih (.jd ps) ->∃Oc,H' b=ih (.jd (ps++Oc))
section
variable{fs Qo ex Ze:ac E8}{H Y H2:Hp}{h1 h2:Yl}{x e:E8}{o:HO}
theorem Un.any(u:Un fs ex H Y h h1){a:YO}(q:h.get? b=ih a)(n:H b=none)(c:b ∉ ex):∃sl,h1.get? b=ih { a with slots:=sl }:=by
 by_cases d:b∈fs
 ·exact u.slot b a q n d c
 ·exact⟨a.slots,u.keep b a q n d c⟩
theorem Un.kept(k:∀b u,h.get? b=ih u->h'.get? b=ih u):Un fs ex H H h h':=
 ⟨λb a q _ _ _=>k b a q,λb a q _ _ _=>⟨a.slots,k b a q⟩,λ_ _ _ n _=>n,λb a q _=>⟨a,k b a q⟩,λ_ _ q=>q,λ_ _ _ q=>q,λ_ ps q=>⟨#[],by rw[q];simp⟩⟩
theorem Un.refl:Un fs ex H H h h:=Un.kept λ_ _ q=>q
theorem Un.laid(k:∀b u,h.get? b=ih u->h'.get? b=ih u)(d:h.objs.size<=a)(c:H a=none):Un fs ex H (upd H a o) h h' where
 keep:=λb u q _ _ _=>k b u q
 slot:=λb u q _ _ _=>⟨u.slots,k b u q⟩
 free:=λb u q n _=>by rw[ag (bM (eY (bx q) d))];exact n
 there:=λb u q _=>⟨u,k b u q⟩
 gm:=λb xs q=>by rw[ag (ay q c)];exact q
 gH:=λb u xs q=>by rw[ag (ay q c)];exact q
 gW:=λb ps q=>⟨#[],by rw[ag (ay q c),q];simp⟩
theorem Un.write(a:oA (H x))(j:e=x\/H e=ih (.own x))(k:∀b u,b≠e->h.get? b=ih u->h'.get? b=ih u)(i:∃u,h'.get? e=ih u):Un fs ex H (upd H x o) h h':=by
 have f:∀b,H b=none->b≠x:=λb n z=>by subst z;rw[n]at a;exact a
 have g:∀b,H b=none->b≠e:=λb n z=>by
  subst z;rcases j with r|r
  ·exact f b n r
  ·rw[n]at r;cases r
 have c:∀b u,H b=ih u ->¬ oA (ih u)->b≠x:=λb u q l z=>by subst z;rw[q]at a;exact l a
 refine⟨λb u q n _ _=>k b u (g b n) q,λb u q n _ _=>⟨u.slots,k b u (g b n) q⟩,λb u q n _=>by rw[ag (f b n)];exact n,λb u q _=>?_,
  λb xs q=>by rw[ag (c b _ q λz=>z)];exact q,λb u xs q=>by rw[ag (c b _ q λz=>z)];exact q,λb ps q=>⟨#[],by rw[ag (c b _ q λz=>z),q];simp⟩⟩
 by_cases d:b=e
 ·subst d;exact i
 ·exact⟨u,k b u d q⟩
end
def g5(h:Yl)(H:Hp):List E8:=(VS h.objs.size).filter λa=>(H a).isSome
def i9(h:Yl)(H:Hp):Yl:=PySem.W.hideAll h (g5 h H)
theorem HV(h:Yl)(H:Hp):(i9 h H).objs.size=h.objs.size:=PySem.W.hideAll_size _ _
theorem I0{H:Hp}(e:h.get? b=ih o)(n:H b=none):(i9 h H).get? b=ih o:=
 PySem.W.hideAll_get _ e λa=>by
  have q:(H b).isSome=true:=(fj.mp a).2;rw[n]at q;simp at q
theorem Ke{H:Hp}(e:(i9 h H).get? b=ih o):h.get? b=ih o/\H b=none:=by
 have a:h.get? b=ih o:=PySem.W.of_hideAll (g5 h H) e;refine⟨a,?_⟩;cases q:H b with
 |none=>rfl
 |some x =>
  have c:b∈g5 h H:=fj.mpr ⟨jh.mpr (bx a),by simp[q]⟩
  have z:(i9 h H).get? b=none:=PySem.W.hideAll_none (g5 h H) c;rw[z]at e;cases e
def tx(g h:Yl)(L:E8):List (E8×YO):=(VS h.objs.size).filterMap λa=>if a=L\/(g.get? a).isSome=true then none else (h.get? a).map λo=>(a,o)
theorem z'{L:E8}(h1:a≠L)(h2:g.get? a=none)(b:h.get? a=ih o):(a,o)∈tx g h L:=
 oL.mpr ⟨a,jh.mpr (bx b),by simp[h1,h2,b]⟩
theorem r8{L:E8}{p:E8×YO}(c:p∈tx g h L):p.1≠L/\g.get? p.1=none/\h.get? p.1=ih p.2:=by
 obtain⟨b,_,e⟩:=oL.mp c;split at e
 ·cases e
 ·rename_i a
  cases q:h.get? b with
  |none=>rw[q]at e;simp at e
  |some u =>
   rw[q]at e;simp only[rM,acn]at e;subst e;refine⟨λz=>a (.inl z),?_,q⟩;show g.get? b=none;cases r:g.get? b with
   |none=>rfl
   |some v=>exact(a (.inr (by simp[r]))).elim
theorem I1{L:E8}:News g L h (tx g h L):=λp d=>let ⟨a,b,c⟩:=r8 d;⟨c,a,b⟩
structure Mod(K:U3)(mg:FF->Option i')(base:Yl):Prop where
 lb:K.In base
 glob:base.Ns U9 mg
 blt:∃mb,base.Ns builtinsNs mb /\∀x:FF,x ≠ "__name__" -> mb x=Vv x
 nolimit:base.NoLimit
structure Cx where
 prog:Yq
 w:Yw
 K:U3
 mg:FF->Option i'
 base:Yl
 A:Yy
 N:List FF
 ec:UN
 gX:Hp
 env:Zz
 outer:List Zz
 stack:List Zz
 ex:List E8
 fn:FF->Bool
 calm:Bool
 pn:List (E8×YO)
 xe:i'->UN->Prop
abbrev Cx.c5(X:Cx):=U4 X.prog X.w
abbrev wA{α:Type}(X:Cx):=UQ (α:=α) X.c5 X.A
end L2
abbrev PySem.Shared.aj(s:ZF):YW:=s.heap.objs.size
namespace L2
open Spec PyProof.Rows W
def ef(l:List Zz):List E8:=l.filterMap (·.frame)
abbrev Cx.fs(X:Cx):List E8:=ef X.outer
def vo(sc:Zf)(x:FF):Prop:=sc.names.lookup x=ih .local\/sc.names.lookup x=ih .cell\/sc.names.lookup x=ih .free
def Loc(sc:Zf)(x:FF):Prop:=sc.names.lookup x=ih .local\/sc.names.lookup x=ih .cell
def Look(env:Zz)(h:Yl)(m:FF->Option i')(x:FF)(u:i'):Prop:=
 (env.kindOf x=ih .local/\m x=ih u)\/((env.kindOf x=ih .cell\/env.kindOf x=ih .free) /\∃c,env.cells.lookup x=ih c/\h.IsCell c (ih u))
structure Cx.Ok(X:Cx):Prop where
 mod:Mod X.K X.mg X.base
 kind:X.env.scope.kind=.function
 glob:X.env.globals=U9
 blt:X.env.builtins=builtinsNs
 above:X.ec.heap.objs.size<=X.env.locals
 inj:∀x y c,X.env.cells.lookup x=ih c->X.env.cells.lookup y=ih c->x=y
 has:∀x,(X.env.kindOf x=ih .cell\/X.env.kindOf x=ih .free) ->∃c,X.env.cells.lookup x=ih c
 jX:∀x c,X.fn x=true->X.env.cells.lookup x=ih c->X.ec.heap.objs.size<=c
 hd:X.calm=true->X.A.handled=none
 frames:X.A.frames=ih X.stack
 lg:X.stack=X.outer\/(X.stack=X.env::X.outer/\X.env.frame=ih X.env.locals)
 lj:∀b∈X.ex,b≠X.env.locals /\∀x c,X.env.cells.lookup x=ih c->c≠b
 bs:∀b o,X.base.get? b=ih o->X.ec.heap.get? b=ih o/\X.gX b=none
 hY:X.base.objs.size<=X.ec.heap.objs.size
 jO:∀b o,X.base.get? b=ih o->b ∉ X.ex
 jP:∀b∈X.ex,b ∉ X.fs
 fA:X.ec.heap.FunFrames X.base X.outer
 iE:∀b∈X.fs,X.gX b=none
structure Inv(X:Cx)(J:List (E8×YO))(σ:List (Option V))(H:Hp)(s:UN):Prop where
 ok:X.Ok
 os:s.os=X.ec.os
 bare:Zo s.gens
 base:Un X.fs X.ex X.gX H X.ec.heap s.heap
 loc:∃m,s.heap.Ns X.env.locals m /\∀(i:Nat) (x:FF) (v:V),X.N[i]?=ih x->σ[i]?=ih (ih v)->vo X.env.scope x ->∃u,RelV v u/\Look X.env s.heap m x u
 cell:∀x c,X.env.cells.lookup x=ih c ->∃v,s.heap.IsCell c v
 free:H X.env.locals=none
 eT:∀x c,X.env.cells.lookup x=ih c->H c=none
 pin:∀p∈X.pn++J,s.heap.get? p.1=ih p.2/\H p.1=none/\p.1≠X.env.locals/\p.1 ∉ X.fs /\∀v,p.2.data ≠ .cell v
 aI:cq X.prog X.w H s.heap
 len:σ.length=X.N.length
section
variable{X:Cx}{σ:ac (Option V)}{H H':Hp}
theorem Cx.Ok.qC(ok:X.Ok)(e:X.base.get? b=ih o):b ∉ X.fs:=λa=>by
 have:=(ok.fA.mem a).1;rw[e]at this;cases this
theorem Inv.bs(I:Inv X J σ H s):∀b o,X.base.get? b=ih o->s.heap.get? b=ih o/\H b=none:=λb o e =>
 ⟨I.base.keep b o (I.ok.bs b o e).1 (I.ok.bs b o e).2 (I.ok.qC e) (I.ok.jO b o e),I.base.free b o (I.ok.bs b o e).1 (I.ok.bs b o e).2 (I.ok.jO b o e)⟩
theorem Inv.bk(I:Inv X J σ H s):∀b o,X.base.get? b=ih o->s.heap.get? b=ih o:=λb o e=>(I.bs b o e).1
theorem Inv.mod(I:Inv X J σ H s):Mod X.K X.mg X.base:=I.ok.mod
theorem Inv.bU(I:Inv X J σ H s):X.K.In s.heap:=I.ok.mod.lb.keeps I.bk
theorem Inv.lt(I:Inv X J σ H s):X.env.locals<s.aj:=let ⟨_,a,_⟩:=I.loc;a.lt
theorem Inv.sz(I:Inv X J σ H s):X.ec.heap.objs.size<=s.aj:=en I.ok.above (oM I.lt)
theorem Inv.Od(I:Inv X J σ H s)(h:s.aj<=a):a ∉ X.fs:=λb=>by
 obtain⟨_,o,c,_⟩:=I.ok.fA.mem b;exact absurd (eY (bx c) (en I.sz h)) (jg _)
theorem Inv.hZ(I:Inv X J σ H s):∀x c,X.env.cells.lookup x=ih c->c≠X.env.locals:=λx c e z=>by
 obtain⟨v,o,a,b⟩:=I.cell x c e;obtain⟨m,⟨o',es,ep,d,f,_⟩,_⟩:=I.loc;rw[z,d]at a;cases a;rw[f]at b;cases b
theorem Inv.fA(I:Inv X J σ H s):s.heap.FunFrames X.base X.outer:=by
 have all:∀(l:ac Zz),(∀b∈ef l,b∈X.fs)->X.ec.heap.FunFrames X.base l->s.heap.FunFrames X.base l:=by
  intro l
  induction l with
  |nil=>intro _ _;trivial
  |cons env r g =>
   rintro f ⟨i,⟨L,o,a,j,k,m⟩,n⟩;have c:L∈X.fs:=f L (by unfold ef;rw[EX,a];exact aY)
   obtain⟨sl,e⟩:=I.base.slot L o k (I.ok.iE L c) c λz=>I.ok.jP L z c;exact⟨i,⟨L,_,a,j,e,m⟩,g (λb d=>f b (by unfold ef;rw[EX,a];exact bc _ d)) n⟩
 exact all X.outer (λ_ d=>d) I.ok.fA
theorem Inv.stack(I:Inv X J σ H s):s.heap.FunFrames X.base X.stack:=by
 rcases I.ok.lg with e|⟨e,a⟩
 ·rw[e];exact I.fA
 ·rw[e]
  obtain⟨m,b,_⟩:=I.loc;refine .cons (by rw[I.ok.kind];decide) a b ?_ I.fA
  exact rN (en I.ok.hY I.ok.above)
theorem Inv.p8(I:Inv X J σ H s):∀b∈ef X.stack,b∈X.env.locals::X.fs:=λb a=>by
 rcases I.ok.lg with e|⟨e,c⟩
 ·rw[e]at a;exact bc _ a
 ·rw[e]at a
  unfold ef at a;rw[EX,c]at a;exact a
theorem Inv.tD(I:Inv X J σ H s):∀b∈ef X.stack,H b=none:=λb hb=>by
 rcases bJ.mp (I.p8 b hb) with e|hb
 ·rw[e];exact I.free
 ·obtain⟨_,o,a,_⟩:=I.ok.fA.mem hb
  exact I.base.free b o a (I.ok.iE b hb) λz=>I.ok.jP b z hb
theorem Inv.step{g':Array Z5}{d':Drawn}(I:Inv X J σ H s)
  (h:∀b∈ch,(b∈X.ex\/X.ec.heap.objs.size<=b)/\b≠X.env.locals/\(∀x c,X.env.cells.lookup x=ih c->c≠b) /\∀p∈X.pn++J,p.1≠b)
  (keep:∀b o,b≠X.env.locals->b ∉ X.fs->b ∉ ch->s.heap.get? b=ih o->H b=none->h'.get? b=ih o)
  (B:∀b o,b≠X.env.locals->b∈X.fs->b ∉ ch->s.heap.get? b=ih o->H b=none ->∃sl,h'.get? b=ih { o with slots:=sl }) (free:∀b o,b ∉ ch->s.heap.get? b=ih o->H b=none->H' b=none)
  (there:∀b o,b ∉ ch->s.heap.get? b=ih o ->∃o',h'.get? b=ih o')
  (G:∀b xs,H b=a2 xs->H' b=a2 xs) (K:∀b o u,H b=ih (.bw o u)->H' b=ih (.bw o u)) (L:∀b ps,H b=ih (.jd ps) ->∃M,H' b=ih (.jd (ps++M)))
  (ns:∀m,s.heap.Ns X.env.locals m->h'.Ns X.env.locals m) (N:cq X.prog X.w H' h') (P:Zo g') :
  Inv X J σ H' { s with heap:=h',gens:=g',drawn:=d',toks:=t' }:=by
 have C:∀b o,X.ec.heap.get? b=ih o->b≠X.env.locals:=λb o e=>bM (eY (bx e) I.ok.above);have t:∀b o,X.ec.heap.get? b=ih o->b ∉ X.ex->b ∉ ch:=λb o e a f=>by
  rcases (h b f).1 with z|z
  ·exact a z
  ·exact absurd (eY (bx e) z) (jg _)
 have A:∀x c,X.env.cells.lookup x=ih c ->∀v,s.heap.IsCell c v->h'.IsCell c v:=λx c e v ⟨o,g,y⟩=>by
  have j:c ∉ ch:=λz=>(h c z).2.2.1 x c e rfl
  by_cases D:c∈X.fs
  ·obtain⟨sl,q⟩:=B c o (I.hZ x c e) D j g (I.eT x c e)
   exact⟨_,q,y⟩
  ·exact⟨o,keep c o (I.hZ x c e) D j g (I.eT x c e),y⟩
 refine⟨I.ok,I.os,P,⟨λb o e n f a=>?_,λb o e n f a=>?_,λb o e n a=>?_,λb o e a=>?_,λb xs e=>G b xs (I.base.gm b xs e),λb o xs e=>K b o xs (I.base.gH b o xs e),λb ps e=>?_⟩,?_,λx c e=>?_,?_,λx c e=>?_,λp E=>?_,N,I.len⟩
 ·exact keep b o (C b o e) f (t b o e a) (I.base.keep b o e n f a) (I.base.free b o e n a)
 ·obtain⟨sl,e1⟩:=I.base.slot b o e n f a
  obtain⟨O,e2⟩:=B b _ (C b o e) f (t b o e a) e1 (I.base.free b o e n a);exact⟨O,e2⟩
 ·obtain⟨o',e1⟩:=I.base.there b o e a
  exact free b o' (t b o e a) e1 (I.base.free b o e n a)
 ·obtain⟨o',e1⟩:=I.base.there b o e a
  exact there b o' (t b o e a) e1
 ·obtain⟨Q,e1⟩:=I.base.gW b ps e
  obtain⟨R,e2⟩:=L b _ e1;exact⟨Q++R,by rw[e2,Array.append_assoc]⟩
 ·obtain⟨m,S,T⟩:=I.loc
  refine⟨m,ns m S,λi x v e1 e2 e3=>?_⟩;obtain⟨u,r,l⟩:=T i x v e1 e2 e3;refine⟨u,r,?_⟩;rcases l with l|⟨k,c,e,z⟩
  ·exact .inl l
  ·exact .inr ⟨k,c,e,A x c e _ z⟩
 ·obtain⟨v,z⟩:=I.cell x c e
  exact⟨v,A x c e v z⟩
 ·obtain⟨m,⟨o,_,_,g,_⟩,_⟩:=I.loc
  exact free _ o (λz=>(h _ z).2.1 rfl) g I.free
 ·obtain⟨v,o,g,y⟩:=I.cell x c e
  exact free c o (λz=>(h c z).2.2.1 x c e rfl) g (I.eT x c e)
 ·obtain⟨e,n,ne,F,d⟩:=I.pin p E
  have j:p.1 ∉ ch:=λz=>(h p.1 z).2.2.2 p E rfl;exact⟨keep p.1 p.2 ne F j e n,free p.1 p.2 j e n,ne,F,d⟩
theorem Inv.un(I:Inv X J σ H s)(u:Un X.fs [] H H' s.heap h')(f:cq X.prog X.w H' h'):Inv X J σ H' { s with heap:=h',toks:=t' }:=by
 obtain⟨m,⟨o,es,ep,d,r⟩,_⟩:=id I.loc;obtain⟨sl,i⟩:=u.any d I.free (by simp)
 exact I.step (g':=s.gens) (d':=s.drawn) (ch:=[]) (λ_ z=>nomatch z) (λb o _ a _ e n=>u.keep b o e n a (by simp)) (λb o _ a _ e n=>u.slot b o e n a (by simp)) (λb o _ e n=>u.free b o e n (by simp)) (λb o _ e=>u.there b o e (by simp)) u.gm u.gH u.gW (λl j=>by
  obtain⟨o',g,h,c,k⟩:=j;rw[d]at c;cases c;exact⟨_,g,h,i,k⟩) f I.bare
theorem Inv.call{g':Array Z5}{d':Drawn}(I:Inv X J σ H s)(u:Un (ef X.stack) ch H H' s.heap h')(i:cq X.prog X.w H' h')(l:Zo g')
  (f:∀b∈ch,(b∈X.ex\/X.ec.heap.objs.size<=b)/\b≠X.env.locals/\(∀x c,X.env.cells.lookup x=ih c->c≠b) /\∀p∈X.pn++J,p.1≠b) :
  Inv X J σ H' { s with heap:=h',gens:=g',drawn:=d',toks:=t' }:=by
 obtain⟨m,⟨o,es,ep,h,r⟩,_⟩:=id I.loc;obtain⟨sl,d⟩:=u.any h I.free λz=>(f _ z).2.1 rfl;exact I.step (ch:=ch) f (λb o d q a e n=>u.keep b o e n (λz=>(bJ.mp (I.p8 b z)).elim d q) a) (λb o _ _ a e n=>u.any e n a) (λb o a e n=>u.free b o e n a) (λb o a e=>u.there b o e a) u.gm u.gH u.gW (λy t=>by
  obtain⟨o',j,k,g,v⟩:=t;rw[h]at g;cases g;exact⟨_,j,k,d,v⟩) i l
theorem Inv.turned(I:Inv X J σ H s)(k:∀b o,b≠it->s.heap.get? b=ih o->h'.get? b=ih o)(g:H it=none)(f:it≠X.env.locals)
  (h1:it∈X.ex\/X.ec.heap.objs.size<=it) (h2:∀x c,X.env.cells.lookup x=ih c->c≠it) (h:∀p∈X.pn++J,p.1≠it):Inv X J σ H { s with heap:=h',toks:=t' }:=by
 have d:∀b u,H b=ih u->b≠it:=λb u e z=>by rw[z,g]at e;cases e
 refine I.step (g':=s.gens) (d':=s.drawn) (ch:=[it]) (λb i=>?_) (λb o _ _ a e _=>k b o (λz=>a (by simp[z])) e) (λb o _ _ a e _=>⟨o.slots,k b o (λz=>a (by simp[z])) e⟩) (λ_ _ _ _ n=>n)
  (λb o a e=>⟨o,k b o (λz=>a (by simp[z])) e⟩) (λ_ _ e=>e) (λ_ _ _ e=>e) (λb ps e=>⟨#[],by rw[e];simp⟩) (λm j=>?_) (λb u e=>?_) I.bare
 ·have e:b=it:=by simpa using i
  subst e;exact⟨h1,f,h2,h⟩
 ·obtain⟨o,es,ep,l,r⟩:=j
  exact⟨o,es,ep,k _ o (aT f) l,r⟩
 ·refine(I.aI b u e).ez (λc v a q=>k c v ?_ q) (λ_ q=>q) λ_ _ q=>q
  rcases a with z|z
  ·rw[z];exact d b u e
  ·exact d c _ z
theorem Inv.tok(I:Inv X J σ H s)(t:Nat):Inv X J σ H { s with toks:=t }:=I.un (h':=s.heap) (t':=t) Un.refl I.aI
theorem Inv.kept(I:Inv X J σ H s)(k:∀b u,s.heap.get? b=ih u->h'.get? b=ih u):Inv X J σ H { s with heap:=h',toks:=t' }:=I.un (Un.kept k) (I.aI.kept k)
theorem Inv.laid{o:HO}(I:Inv X J σ H s)(k:∀b u,s.heap.get? b=ih u->h'.get? b=ih u)(c:s.aj<=a)(new:bF X.prog X.w (upd H a o) h' a o) :
  Inv X J σ (upd H a o) { s with heap:=h',toks:=t' }:=I.un (Un.laid k c (I.aI.fresh c)) (I.aI.laid k c new)
theorem Inv.write{x e:E8}{o:HO}(I:Inv X J σ H s)(c:oA (H x))(d:e=x\/H e=ih (.own x))(k:∀b u,b≠e->s.heap.get? b=ih u->h'.get? b=ih u)(a:∃u,h'.get? e=ih u)
  (new:bF X.prog X.w (upd H x o) h' x o):Inv X J σ (upd H x o) { s with heap:=h',toks:=t' }:=I.un (Un.write c d k a) (I.aI.write c d k a new)
theorem Inv.Cn{Qp:ac (E8×YO)}(I:Inv X J σ H s)(h:∀p∈Qp,s.heap.get? p.1=ih p.2/\H p.1=none/\p.1≠X.env.locals/\p.1 ∉ X.fs /\∀v,p.2.data ≠ .cell v):Inv X Qp σ H s:=
 ⟨I.ok,I.os,I.bare,I.base,I.loc,I.cell,I.free,I.eT,λp a=>(bK.mp a).elim (λz=>I.pin p (fM _ z)) (h p),I.aI,I.len⟩
theorem sT(c:N.Nodup)(a:N[i]?=ih x)(b:N[j]?=ih x):i=j:=by
 obtain⟨h1,e1⟩:=b3.mp a;obtain⟨h2,e2⟩:=b3.mp b;exact(aaC c).mp (e1.trans e2.symm)
theorem AO{M:ZT}{v:V}{Q:Unit->UN->Prop}(I:Inv X J σ H s)(Z:X.N.Nodup)(hi:X.N[i]?=ih x)(g:Loc X.env.scope x)(r:RelV v u)
  (h:∀s',Inv X J (σ.set i (ih v)) H s'->(∃a,Yk a s.heap s'.heap/\(a=X.env.locals\/X.env.cells.lookup x=ih a))->Q () s') (zb:X.fn x=true\/X.env.scope.names.lookup x=ih .local:=by first|exact .inl rfl|exact .inr rfl|assumption):UQ M A (storeName X.env x u) Q E s:=by
 obtain⟨m,F,xa⟩:=id I.loc;have ya:(X.env.scope.kind == .class||(X.env.scope.kind == .module&&X.env.locals != X.env.globals))=false:=by rw[I.ok.kind];rfl
 have T:i<σ.length:=by rw[I.len];exact(b3.mp hi).1
 have hZ:=I.hZ;have R:∀{a:E8}{h':Yl},(∃o,s.heap.get? a=ih o/\H a=none)->Yk a s.heap h'->cq X.prog X.w H h':=λ{a h'} xc f b yc e=>by
  obtain⟨_,_,S⟩:=xc;refine(I.aI b yc e).ez (λc B hc q=>(f.2 c ?_).trans q) (λ_ q=>q) λ_ _ q=>q;rintro rfl;rcases hc with rfl|hc
  ·rw[S]at e;cases e
  ·rw[S]at hc;cases hc
 rcases g with hk|hk
 ·refine wpAny_storeName_local hk F (λh' xb f=>?_) ya
  obtain⟨zc,_,_,yb,_⟩:=id F;refine h _ ⟨I.ok,I.os,I.bare,⟨λb o e n l g=>?_,λb o e n l g=>?_,I.base.free,λb o e g=>?_,I.base.gm,I.base.gH,I.base.gW⟩,⟨_,xb,λj y G e1 e2 e3=>?_⟩,λy c e=>?_,I.free,I.eT,λp K=>?_,R ⟨zc,yb,I.free⟩ f,by simpa using I.len⟩ ⟨_,f,.inl rfl⟩
  ·exact(f.2 b (bM (eY (bx e) I.ok.above))).trans (I.base.keep b o e n l g)
  ·obtain⟨sl,e1⟩:=I.base.slot b o e n l g
   exact⟨sl,(f.2 b (bM (eY (bx e) I.ok.above))).trans e1⟩
  ·obtain⟨o',e1⟩:=I.base.there b o e g
   exact⟨o',(f.2 b (bM (eY (bx e) I.ok.above))).trans e1⟩
  ·by_cases t:j=i
   ·subst t
    rw[hi]at e1;cases e1;rw[EY T]at e2;cases e2
    exact⟨u,r,.inl ⟨hk,by simp⟩⟩
   ·rw[EZ (aT t)]at e2
    obtain⟨L,O,q⟩:=xa j y G e1 e2 e3;refine⟨L,O,?_⟩;rcases q with⟨k,e⟩|⟨k,c,e,z⟩
    ·refine .inl ⟨k,?_⟩
     have:y≠x:=λe=>t (sT Z e1 (e ▸ hi));simp[this,e]
    ·exact .inr ⟨k,c,e,z.sameBut f (hZ y c e)⟩
  ·obtain⟨B,z⟩:=I.cell y c e
   exact⟨B,z.sameBut f (hZ y c e)⟩
  ·obtain⟨e,n,ne,P,d⟩:=I.pin p K
   exact⟨(f.2 p.1 ne).trans e,n,ne,P,d⟩
 ·have D:X.fn x=true:=by
   rcases zb with z|z
   ·exact z
   ·rw[z]at hk;cases hk
  obtain⟨c,hc⟩:=I.ok.has x (.inl hk);obtain⟨B,z⟩:=I.cell x c hc;refine wpAny_storeName_cell I.ok.kind hk hc z (λh' U f=>?_);obtain⟨oc,W,za⟩:=id z;refine h { s with heap:=h' } ⟨I.ok,I.os,I.bare,⟨λb o e n l g=>?_,λb o e n l g=>?_,I.base.free,λb o e g=>?_,I.base.gm,I.base.gH,I.base.gW⟩,⟨m,F.sameBut f (aT (hZ x c hc)),λj y G e1 e2 e3=>?_⟩,λy C e=>?_,I.free,I.eT,λp K=>?_,R ⟨oc,W,I.eT x c hc⟩ f,by simpa using I.len⟩ ⟨c,f,.inr hc⟩
  ·exact(f.2 b (bM (eY (bx e) (I.ok.jX x c D hc)))).trans (I.base.keep b o e n l g)
  ·obtain⟨sl,e1⟩:=I.base.slot b o e n l g
   exact⟨sl,(f.2 b (bM (eY (bx e) (I.ok.jX x c D hc)))).trans e1⟩
  ·obtain⟨o',e1⟩:=I.base.there b o e g
   exact⟨o',(f.2 b (bM (eY (bx e) (I.ok.jX x c D hc)))).trans e1⟩
  ·by_cases t:j=i
   ·subst t
    rw[hi]at e1;cases e1;rw[EY T]at e2;cases e2
    exact⟨u,r,.inr ⟨.inl hk,c,hc,U⟩⟩
   ·rw[EZ (aT t)]at e2
    obtain⟨L,O,q⟩:=xa j y G e1 e2 e3;refine⟨L,O,?_⟩;rcases q with q|⟨k,C,e,xd⟩
    ·exact .inl q
    ·refine .inr ⟨k,C,e,xd.sameBut f ?_⟩
     rintro rfl;exact t (sT Z e1 (I.ok.inj _ _ _ e hc ▸ hi))
  ·by_cases Y:C=c
   ·subst Y;exact⟨_,U⟩
   ·obtain⟨yd,z2⟩:=I.cell y C e
    exact⟨yd,z2.sameBut f Y⟩
  ·obtain⟨e,n,ne,P,d⟩:=I.pin p K
   refine⟨(f.2 p.1 ?_).trans e,n,ne,P,d⟩;intro q;rw[q,W]at e;have zd:oc=p.2:=cJ e;exact d B (by rw[<-zd];exact za)
theorem ny{M:ZT}{v:V}{Q:Unit->UN->Prop}(I:Inv X J σ H s)(a:X.N.Nodup)(hi:X.N[i]?=ih x)(b:Loc X.env.scope x)(r:RelV v u)
  (h:∀s',Inv X J (σ.set i (ih v)) H s'->Q () s') (c:X.fn x=true\/X.env.scope.names.lookup x=ih .local:=by first|exact .inl rfl|exact .inr rfl|assumption):UQ M A (storeName X.env x u) Q E s:=
 AO I a hi b r (λs' d _=>h s' d) c
theorem Inv.uv(I:Inv X J σ H s)(f:s'.os=s.os)(u:Un (ef X.stack) ch H H' s.heap s'.heap)(a:cq X.prog X.w H' s'.heap)(g:Zo s'.gens)
  (d:∀b∈ch,(b∈X.ex\/X.ec.heap.objs.size<=b)/\b≠X.env.locals/\(∀x c,X.env.cells.lookup x=ih c->c≠b) /\∀p∈X.pn++J,p.1≠b):Inv X J σ H' s':=by
 obtain⟨h',g',d',t',o'⟩:=s';have e:o'=s.os:=f;subst e;exact I.call (g':=g') (t':=t') (d':=d') u a g d
end
abbrev XK:=i'->Option E8->Hp->Prop
abbrev St:=List (Option V)
abbrev VK:=V->Hp->Prop
abbrev TE:=St->Hp->VK->Prop
abbrev TT:=St->Hp->(Bool->Hp->Prop)->Prop
abbrev TA:=St->Hp->(List V->Hp->Prop)->Prop
structure Ends where
 nx:St->Hp->Prop
 rt:VK
 bk:St->Hp->Prop:=λ_ _=>False
 ct:St->Hp->Prop:=λ_ _=>False
abbrev TS:=Ends->St->Hp->Prop
end L2
variable{xs vs ws wb wt lv:ac L2.V}{H H' Y H2 H0:L2.Hp}{X:L2.Cx}{σ e6:L2.St}{v y:L2.V}{ta te tl tv:L2.TE}{tb:L2.TS}{ti:L2.TT}{kvs Ql:ac (L2.Key×L2.V)}{O:L2.HO}{kh kk kq:ac (List L2.Key×L2.V)}
namespace L2
open Spec PyProof.Rows W
def EP(X:Cx)(J:List (E8×YO))(σ:St)(Q:VK)(u:i')(s':UN):Prop:= ∃v H',Inv X J σ H' s'/\RelV v u/\Q v H'
def TP(X:Cx)(J:List (E8×YO))(σ:St)(Q:Bool->Hp->Prop)(b:Bool)(s':UN):Prop:= ∃H',Inv X J σ H' s'/\Q b H'
def AP(X:Cx)(J:List (E8×YO))(σ:St)(Q:List V->Hp->Prop)(us:List i')(s':UN):Prop:= ∃vs H',Inv X J σ H' s'/\Vals vs us/\Q vs H'
def SP(X:Cx)(J:List (E8×YO))(D:Ends)(f:Flow)(s':UN):Prop:=
 match f with
 |.next=>∃cI H',Inv X J cI H' s'/\D.nx cI H'
 |.brk=>∃cI H',Inv X J cI H' s'/\D.bk cI H'
 |.cont=>∃cI H',Inv X J cI H' s'/\D.ct cI H'
 |.ret u=>∃v cI H',Inv X J cI H' s'/\RelV v u/\D.rt v H'
def PE(X:Cx)(e:VD)(t:TE):Prop:=
 ∀J s σ H (Q:VK),Inv X J σ H s->t σ H Q->wA X (eval e X.env) (EP X J σ Q) X.xe s
def PT(X:Cx)(e:VD)(t:TT):Prop:=
 ∀J s σ H (Q:Bool->Hp->Prop),Inv X J σ H s->t σ H Q->wA X (isTrue e X.env (eval e X.env)) (TP X J σ Q) X.xe s
def PW(X:Cx)(e:VD)(t:TT):Prop:=
 ∀(MG:Zr i') J s σ H (Q:Bool->Hp->Prop),Inv X J σ H s->t σ H Q->wA X (isTrue e X.env MG) (TP X J σ Q) X.xe s
theorem PW.pt{t:TT}(h:PW X e t):PT X e t:=h _
def PA(X:Cx)(es:List VD)(t:TA):Prop:=
 ∀(pos:Pos) J s σ H (Q:List V->Hp->Prop),Inv X J σ H s->t σ H Q->wA X (spliced (backTo pos (Ve es X.env))) (AP X J σ Q) X.xe s
def PS(X:Cx)(st:Vj)(t:TS):Prop:=
 ∀J s σ H (D:Ends),Inv X J σ H s->t D σ H->wA X (exec st X.env) (SP X J D) X.xe s
def di(X:Cx)(st:List Vj)(t:TS):Prop:=
 ∀J s σ H (D:Ends),Inv X J σ H s->t D σ H->wA X (execs st X.env) (SP X J D) X.xe s
theorem aG{α:Type}{t:Zr α}{Q b:α->UN->Prop}{M:ZT}(h:UQ M A t Q E s)(c:∀a s,Q a s->b a s):UQ M A t b E s:=h8 h c λ_ _ x=>x
end L2
namespace L2
open Spec PyProof.Rows
section
def gI(i:Nat):TE:=λσ H Q=>∃v,σ[i]?=ih (ih v)/\Q v H
def tC(v:V):TE:=λ_ H Q=>Q v H
theorem LK(j:X.N[i]?=ih x)(k:vo X.env.scope x)(b:(x==("__debug__" : FF))=false:=by decide)(g:(x==("__classdict__" : FF))=false:=by decide):PE X (.Name x pos) (gI i):=by
 rintro J s σ H Q I ⟨v,e,h⟩;obtain⟨m,n,o⟩:=I.loc;obtain⟨u,r,l⟩:=o i x v j e k;have a:EP X J σ Q u s:=⟨v,H,I,r,h⟩;rcases l with⟨hk,p⟩|⟨hk,c,f,d⟩
 ·exact wpAny_Name (wpAny_loadName_local I.ok.kind hk n p a) b
 ·rcases hk with hk|hk
  ·exact wpAny_Name (wpAny_loadName_cell I.ok.kind hk f d a) b
  ·exact wpAny_Name (wpAny_loadName_free I.ok.kind hk f d a g) b
theorem au{i j pos}:PE X (.Constant (.int i) j pos) (tC (.int i)):=λ_ _ _ H _ I h=>wpAny_Constant_int ⟨.int i,H,I.tok _,⟨_,rfl⟩,h⟩
theorem jJ{b j pos}:PE X (.Constant (.bool b) j pos) (tC (.bl b)):=λ_ _ _ H _ I h=>Constant_bool ⟨.bl b,H,I,rfl,h⟩
theorem dV{j pos}:PE X (.Constant .none j pos) (tC .aO):=λ_ _ _ H _ I h=>acq ⟨.aO,H,I,rfl,h⟩
theorem bt{x j pos}:PE X (.Constant (.str x) j pos) (tC (.str x)):=λ_ _ _ H _ I h=>Calls.Constant_str ⟨.str x,H,I.tok _,⟨_,rfl⟩,h⟩
def Gl(X:Cx)(x:FF):Prop:=X.env.kindOf x=ih .globalImplicit
theorem l2(I:Inv X J σ H s)(a:Gl X x)(b:X.mg x=ih u)(h:Q u s)
  (c:(x==("__debug__" : FF))=false:=by decide):wA X (eval (.Name x pos) X.env) Q E s:=
 UO I.ok.kind a (Calls.loadGlobal_global (by rw[I.ok.glob];exact I.mod.glob.keeps I.bk) b h) c
theorem kG(I:Inv X J σ H s)(a:Gl X x)(b:X.mg x=none)(c:Vv x=ih u)(h:Q u s)
  (d:x ≠ "__name__" :=by decide) (e:(x==("__debug__" : FF))=false:=by decide):wA X (eval (.Name x pos) X.env) Q E s:=by
 obtain⟨f,h1,h2⟩:=I.mod.blt;exact UO I.ok.kind a (Calls.loadGlobal_builtin (by rw[I.ok.glob];exact I.mod.glob.keeps I.bk) b (by rw[I.ok.blt];exact h1.keeps I.bk) ((h2 x d).trans c) h) e
theorem l3(a:Gl X x)(b:X.mg x=none)(c:Vv x=ih u)(r:RelV v u)(d:x ≠ "__name__" :=by decide)(e:(x==("__debug__" : FF))=false:=by decide):PE X (.Name x pos) (tC v):=
 λ_ _ _ H _ I h=>kG I a b c ⟨v,H,I,r,h⟩ d e
variable{a b:VD}{tb:TE}
def PC(X:Cx)(op:Z4)(a b:VD)(t:TE):Prop:=
 ∀J s σ H (Q:VK),Inv X J σ H s->t σ H Q ->
  wA X (eval a X.env) (λv Oe=>wA X (eval b X.env) (λu Of=>wA X (VW op v u) (EP X J σ Q) X.xe Of) X.xe Oe) X.xe s
theorem BB(b:VD){op:Z4}(h:op ≠ .In)(h2:op ≠ .NotIn):behindInMarks op b=false:=by
 have e1:(op==acm)=false:=by cases op <;> first|rfl|exact absurd rfl h
 have e2:(op==abp)=false:=by cases op <;> first|rfl|exact absurd rfl h2
 cases b <;> simp[behindInMarks,e1,e2]
def MH(ta:TE):TE:=λσ H Q=>ta σ H λx Y=>Q (.bl (!decide (x=.aO))) Y
theorem RelV.I2{x:V}{v:i'}(r:RelV x v):(v==VQ)=decide (x=.aO):=by
 cases x with
 |aO=>cases r;rfl
 |bl _=>cases r;rfl
 |int _=>obtain⟨t,rfl⟩:=r;rfl
 |str _=>obtain⟨t,rfl⟩:=r;rfl
 |f7 _=>obtain⟨t,rfl⟩:=r;rfl
 |jW _=>obtain⟨t,rfl⟩:=r;rfl
 |ref _=>cases r;rfl
 |ty _=>cases r;rfl
theorem tE{j Qh}(b:PE X a ta):PC X .IsNot a (.Constant .none j Qh) (MH ta):=by
 intro J s σ H Q I h;refine aG (b J s σ H _ I h) λv s1 f=>?_;obtain⟨x,Y,c,d,e⟩:=f;exact acq (isnot_none_gen ⟨.bl _,Y,c,by rw[d.I2];rfl,e⟩)
def tB(t:TE):TT:=λσ H Q=>t σ H λx Y=>∃c,x=.bl c/\Q c Y
theorem LL{op:Z4}{t:TE}(h:PC X op a b t)(h1:behindInMarks op b=false:=by first|exact BB _ (by decide) (by decide)|rfl):PE X (.Compare a [op] [b] pos) t:=λJ s σ H Q I c=>wpAny_Compare1 (h J s σ H Q I c) h1
theorem fX{op:Z4}{t:TE}(h:PC X op a b t)(h1:behindInMarks op b=false:=by first|exact BB _ (by decide) (by decide)|rfl):PT X (.Compare a [op] [b] pos) (tB t):=by
 intro J s σ H Q I e;refine wpAny_isTrue_Compare1 (aG (h J s σ H _ I e) λv s1 h1=>aG h1 λu s2 h2=>aG h2 λc j k=>?_) h1;obtain⟨x,Y,f,g,i⟩:=k;obtain⟨d,rfl,q⟩:=i;cases g
 exact hg ⟨Y,f,q⟩
theorem hI{t:TE}(h:PE X e t)(b:∀a,isTrue e X.env a=(do let v <- a;standAt e.pos;holding [v] (truthy v)):=by intro _;rfl):PT X e (tB t):=by
 intro J s σ H Q I c;refine isTrue_plain (aG (h J s σ H _ I c) λv s1 j=>?_) (b _);obtain⟨x,Y,f,g,i⟩:=j;obtain⟨d,rfl,q⟩:=i;cases g
 exact hg ⟨Y,f,q⟩
variable{tA Q3:TT}{rest:ac VD}
def uV(t u:TT):TT:=λσ H Q=>t σ H λc Y=>if c=true then u σ Y Q else Q false Y
def vp(t u:TT):TT:=λσ H Q=>t σ H λc Y=>if c=true then Q true Y else u σ Y Q
def Og(t:TT):TT:=λσ H Q=>t σ H λc Y=>Q (!c) Y
theorem pw_and1(b:PT X a tA):PW X (.BoolOp .And [a] pos) tA:=by
 intro wh J s σ H Q I h;refine isTrue_and (aG (b J s σ H Q I h) λc s1 e=>?_);cases c with
 |true=>exact isTrue_and_nil e
 |false=>exact e
theorem pw_or1(b:PT X a tA):PW X (.BoolOp .Or [a] pos) tA:=by
 intro wh J s σ H Q I h;refine isTrue_or (aG (b J s σ H Q I h) λc s1 e=>?_);cases c with
 |false=>exact isTrue_or_nil e
 |true=>exact e
theorem pw_and(f:PT X a tA)(g:PW X (.BoolOp .And (b::rest) pos) Q3):PW X (.BoolOp .And (a::b::rest) pos) (uV tA Q3):=by
 intro wh J s σ H Q I h;refine isTrue_and (aG (f J s σ H _ I h) λc s1 i=>?_);obtain⟨Y,d,e⟩:=i;cases c with
 |true=>exact g wh J s1 σ Y Q d e
 |false=>exact⟨Y,d,e⟩
theorem pw_or(f:PT X a tA)(g:PW X (.BoolOp .Or (b::rest) pos) Q3):PW X (.BoolOp .Or (a::b::rest) pos) (vp tA Q3):=by
 intro wh J s σ H Q I h;refine isTrue_or (aG (f J s σ H _ I h) λc s1 i=>?_);obtain⟨Y,d,e⟩:=i;cases c with
 |true=>exact⟨Y,d,e⟩
 |false=>exact g wh J s1 σ Y Q d e
theorem hJ(b:PT X a tA):PT X (.UnaryOp .Not a pos) (Og tA):=by
 intro J s σ H Q I h;exact isTrue_not (b J s σ H (λc Y=>Q (!c) Y) I h)
def MI(ta tb:TE):TE:=λσ H Q=>ta σ H λx Y=>∃c,x=.bl c/\if c=true then tb σ Y Q else Q (.bl false) Y
def Oh(ta tb:TE):TE:=λσ H Q=>ta σ H λx Y=>∃c,x=.bl c/\if c=true then Q (.bl true) Y else tb σ Y Q
def MJ(ta:TE):TE:=λσ H Q=>ta σ H λx Y=>∃c,x=.bl c/\Q (.bl (!c)) Y
theorem p9{op}{t:TE}(h:PE X a t):PE X (.BoolOp op [a] pos) t:=λJ s σ H Q I b=>BoolOp_one (h J s σ H Q I b)
theorem t8(f:PE X a ta)(g:PE X (.BoolOp .And (b::rest) pos) tb):PE X (.BoolOp .And (a::b::rest) pos) (MI ta tb):=by
 intro J s σ H Q I h;refine BoolOp_and (aG (f J s σ H _ I h) λv s1 j=>?_);obtain⟨x,Y,e,i,d⟩:=j;obtain⟨c,rfl,d⟩:=d;cases i
 refine hg ?_;cases c with
 |true=>exact g J s1 σ Y Q e d
 |false=>exact⟨.bl false,Y,e,rfl,d⟩
theorem MK(f:PE X a ta)(g:PE X (.BoolOp .Or (b::rest) pos) tb):PE X (.BoolOp .Or (a::b::rest) pos) (Oh ta tb):=by
 intro J s σ H Q I h;refine BoolOp_or (aG (f J s σ H _ I h) λv s1 j=>?_);obtain⟨x,Y,e,i,d⟩:=j;obtain⟨c,rfl,d⟩:=d;cases i
 refine hg ?_;cases c with
 |false=>exact g J s1 σ Y Q e d
 |true=>exact⟨.bl true,Y,e,rfl,d⟩
theorem LM(d:PE X a ta):PE X (.UnaryOp .Not a pos) (MJ ta):=by
 intro J s σ H Q I h;refine UnaryOp_ (aG (d J s σ H _ I h) λv s1 g=>?_);obtain⟨x,Y,e,f,b⟩:=g;obtain⟨c,rfl,b⟩:=b;cases f
 exact not_of (hg ⟨.bl (!c),Y,e,rfl,b⟩)
def PB(t:TT)(ta tb:TE):TE:=λσ H Q=>t σ H λc Y=>if c=true then ta σ Y Q else tb σ Y Q
theorem I3(g:PT X c tA)(i:PE X a ta)(j:PE X b tb):PE X (.IfExp c a b pos) (PB tA ta tb):=by
 intro J s σ H Q I h;refine wpAny_IfExp (aG (g J s σ H _ I h) λd s1 k=>?_);obtain⟨Y,e,f⟩:=k;cases d with
 |true=>exact i J s1 σ Y Q e f
 |false=>exact j J s1 σ Y Q e f
end
def ak(K:U3)(H:Hp)(a:E8)(xs:List V):Prop:=
 Rd H a (.lst xs) \/
  ∃(o:YO) (its:Array i') (n:Nat),K.lookup a=ih o/\o.cls=.type "list" /\ o.dict=none/\o.data=.seq its n/\its.size<=UP/\Vals xs its.toList
def aA(K:U3)(H:Hp)(a:E8)(xs:List V):Prop:=
 Rd H a (.tup xs) \/
  ∃(o:YO) (its:Array i') (n:Nat),K.lookup a=ih o/\o.cls=.type "tuple" /\ o.data=.seq its n/\its.size<=UP/\Vals xs its.toList
def Oi:i'->Option V
 |.none=>ih .aO
 |.bool b=>ih (.bl b)
 |.int i _=>ih (.int i)
 |.str x _=>ih (.str x)
 |.bytes b _=>ih (.f7 b)
 |.float b _=>ih (.jW b)
 |.ref a=>ih (.ref a)
 |.type n=>ih (.ty n)
 |_=>none
theorem RelV.abs{x:V}(r:RelV x u):Oi u=ih x:=by
 cases x with
 |aO=>cases r;rfl
 |bl _=>cases r;rfl
 |int _=>obtain⟨t,rfl⟩:=r;rfl
 |str _=>obtain⟨t,rfl⟩:=r;rfl
 |f7 _=>obtain⟨t,rfl⟩:=r;rfl
 |jW _=>obtain⟨t,rfl⟩:=r;rfl
 |ref _=>cases r;rfl
 |ty _=>cases r;rfl
theorem RelV.inj{x:V}(r:RelV x u)(q:RelV y u):x=y:=cJ (r.abs.symm.trans q.abs)
theorem Vals.inj:∀{xs ys:ac V}{us:ac i'},Vals xs us->Vals ys us->xs=ys
 |_,_,_,.nil,.nil=>rfl
 |_,_,_,.cons r t,.cons a t'=>by rw[r.inj a,Vals.inj t t']
section
variable{ys:ac V}
theorem ak.of(h:H a=bd xs):ak K H a xs:=.inl (.inl h)
theorem aA.of(h:H a=a2 xs):aA K H a xs:=.inl (.inl h)
theorem Inv.list(I:Inv X J σ H s)(h:ak X.K H a xs):∃its:ac i',Vals xs its/\PlainL s.heap a its.toArray/\xs.length<=UP:=by
 rcases h with h|⟨o,its,n,b,c,d,f,g,r⟩
 ·obtain⟨z,its,n,r,e⟩:=h.ok I.aI
  exact⟨its,r,⟨_,n,e,rfl,rfl,rfl⟩,z⟩
 ·refine⟨its.toList,r,⟨o,n,I.bU a o b,c,d,by simpa using f⟩,?_⟩
  have e:=r.length;simp only[gb]at e;omega
theorem Inv.tuple(I:Inv X J σ H s)(h:aA X.K H a xs):∃its:ac i',Vals xs its/\YJ s.heap a its.toArray/\xs.length<=UP:=by
 rcases h with h|⟨o,its,n,b,c,d,f,r⟩
 ·obtain⟨z,its,r,p⟩:=h.ok I.aI
  exact⟨its,r,p.is,z⟩
 ·refine⟨its.toList,r,⟨o,I.bU a o b,c,n,by simpa using d⟩,?_⟩
  have e:=r.length;simp only[gb]at e;omega
theorem Inv.BC(I:Inv X J σ H s)(h:ak X.K H a xs)(h':ak X.K H a ys):xs=ys:=by
 obtain⟨its,r,⟨o,n,e,_,_,d⟩,_⟩:=I.list h;obtain⟨f,g,⟨o',j,b,_,_,c⟩,_⟩:=I.list h';rw[e]at b;cases b;rw[d]at c;injection c with i _;have:its=f:=by simpa using c6 abe i
 subst this;exact r.inj g
theorem Inv.HW(I:Inv X J σ H s)(h:aA X.K H a xs)(h':aA X.K H a ys):xs=ys:=by
 obtain⟨its,r,⟨o,e,_,n,d⟩,_⟩:=I.tuple h;obtain⟨f,g,⟨o',b,_,j,c⟩,_⟩:=I.tuple h';rw[e]at b;cases b;rw[d]at c;injection c with i _;have:its=f:=by simpa using c6 abe i
 subst this;exact r.inj g
end
abbrev Cx.iy(X:Cx)(E:i'->UN->Prop):Cx:={ X with xe:=E }
abbrev Cx.ll(X:Cx):Cx:=X.iy λ_ _=>False
theorem Cx.Ok.iy(ok:X.Ok)(E:i'->UN->Prop):(X.iy E).Ok:=
 ⟨ok.mod,ok.kind,ok.glob,ok.blt,ok.above,ok.inj,ok.has,ok.jX,ok.hd,ok.frames,ok.lg,ok.lj,ok.bs,ok.hY,ok.jO,ok.jP,ok.fA,ok.iE⟩
theorem Cx.Ok.jH(ok:(X.iy E).Ok):X.Ok:=
 ⟨ok.mod,ok.kind,ok.glob,ok.blt,ok.above,ok.inj,ok.has,ok.jX,ok.hd,ok.frames,ok.lg,ok.lj,ok.bs,ok.hY,ok.jO,ok.jP,ok.fA,ok.iE⟩
theorem Inv.iy(I:Inv X J σ H s)(E:i'->UN->Prop):Inv (X.iy E) J σ H s:=⟨I.ok.iy E,I.os,I.bare,I.base,I.loc,I.cell,I.free,I.eT,I.pin,I.aI,I.len⟩
theorem Inv.jH(I:Inv (X.iy E) J σ H s):Inv X J σ H s:=⟨I.ok.jH,I.os,I.bare,I.base,I.loc,I.cell,I.free,I.eT,I.pin,I.aI,I.len⟩
theorem SP.jH{D:Ends}{f:Flow}(h:SP (X.iy E) J D f s'):SP X J D f s':=by
 cases f with
 |next=>obtain⟨a,H',I,q⟩:=h;exact⟨a,H',I.jH,q⟩
 |brk=>obtain⟨a,H',I,q⟩:=h;exact⟨a,H',I.jH,q⟩
 |cont=>obtain⟨a,H',I,q⟩:=h;exact⟨a,H',I.jH,q⟩
 |ret u=>obtain⟨v,a,H',I,r,q⟩:=h;exact⟨v,a,H',I.jH,r,q⟩
theorem di.ll{st:ac Vj}{t:TS}(h:di X.ll st t):di X st t:=λJ s σ H D I a =>
 h8 (h J s σ H D (I.iy _) a) (λ_ _ q=>q.jH) λ_ _ z=>Vr z
section
variable{rest:ac Vj}{t u:TS}
def ML:TS:=λD σ H=>D.nx σ H
def qD(t u:TS):TS:=λD σ H=>t { D with nx:=u D } σ H
theorem bG:di X [] ML:=λ_ _ σ H _ I h=>oN ⟨σ,H,I,h⟩
theorem aw(h1:PS X st t)(h2:di X rest u):di X (st::rest) (qD t u):=by
 intro J s σ H D I h;refine wpAny_execs_cons (aG (h1 J s σ H { D with nx:=u D } I h) λf s1 q=>?_);cases f with
 |next =>
  obtain⟨a,H',b,q⟩:=q;exact h2 J s1 a H' D b q
 |ret v=>exact q
 |brk=>exact q
 |cont=>exact q
theorem aB(h1:PS X st t):di X [st] t:=by
 intro J s σ H D I h;refine wpAny_execs_cons (aG (h1 J s σ H D I h) λf s1 q=>?_);cases f with
 |next=>exact oN q
 |ret v=>exact q
 |brk=>exact q
 |cont=>exact q
theorem Inv.quiet(I:Inv X J σ H s):interactive X.env=false:=by simp[interactive,I.ok.kind]
def MM(te:TE):TS:=λD σ H=>te σ H λ_ Y=>D.nx σ Y
theorem eJ(a:PE X e te)(b:swapsWith e none pos.line X.env=pure false:=by rfl):PS X (.Expr e pos) (MM te):=by
 intro J s σ H D I h;exact wpAny_Expr_any (aG (a J s σ H _ I h) λv s1 ⟨x,Y,c,f,d⟩=>⟨σ,Y,c,d⟩) I.quiet b
def Oj(te:TE):TS:=λD σ H=>te σ H D.rt
theorem aZ(a:PE X e te):PS X (.Return (ih e) pos) (Oj te):=by
 intro J s σ H D I h;exact wpAny_Return_some (aG (a J s σ H _ I h) λv s1 ⟨x,Y,b,c,d⟩=>⟨x,σ,Y,b,c,d⟩)
def MN:TS:=λD _ H=>D.rt .aO H
theorem Kf:PS X (.Return none pos) MN:=λ_ _ σ H _ I h=>wpAny_Return_none ⟨.aO,σ,H,I,rfl,h⟩
def uW(c:TT)(t u:TS):TS:=λD σ H=>c σ H λb Y=>if b=true then t D σ Y else u D σ Y
theorem bo{a b:ac Vj}{tc:TT}(g:PT X c tc)(i:di X a t)(j:di X b u):PS X (.If c a b pos) (uW tc t u):=by
 intro J s σ H D I h;refine wpAny_If (aG (g J s σ H _ I h) λd s1 k=>?_);obtain⟨Y,e,f⟩:=k;cases d with
 |true=>exact i J s1 σ Y D e f
 |false=>exact j J s1 σ Y D e f
def CY:TS:=λ_ _ _=>False
theorem I4:PS X st CY:=λ_ _ _ _ _ _ h=>h.elim
theorem sH{a:ac Vj}:di X a CY:=λ_ _ _ _ _ _ h=>h.elim
end
abbrev TG:=V->St->Hp->(St->Hp->Prop)->Prop
abbrev jY:=List V->St->Hp->(St->Hp->Prop)->Prop
def PG(X:Cx)(LN:VD)(t:TG):Prop:=
 ∀J s σ H (v:V) (u:i') (Q:St->Hp->Prop),Inv X J σ H s->RelV v u->t v σ H Q ->
  wA X (assign LN X.env u) (λ_ s'=>∃cI H',Inv X J cI H' s'/\Q cI H') X.xe s
def oB(X:Cx)(ts:List VD)(t:jY):Prop:=
 ∀J s σ H (vs:List V) (us:List i') (Q:St->Hp->Prop),Inv X J σ H s->Vals vs us->t vs σ H Q ->
  wA X (assignInOrder ((assignEach ts X.env).map (·.2)) us) (λ_ s'=>∃cI H',Inv X J cI H' s'/\Q cI H') X.xe s
abbrev uX:=V->V->V->Hp->(Hp->Prop)->Prop
def DI(X:Cx)(t:uX):Prop:=
 ∀J s σ H (o i v:V) (ov iv u:i') (Q:Hp->Prop),Inv X J σ H s->RelV o ov->RelV i iv->RelV v u->t o i v H Q ->
  wA X (setItem ov iv u) (λ_ s'=>∃H',Inv X J σ H' s'/\Q H') X.xe s
def iu(i:Nat):TG:=λv σ H Q=>Q (σ.set i (ih v)) H
theorem pQ(a:X.N.Nodup)(hi:X.N[i]?=ih x)(b:Loc X.env.scope x)(c:X.fn x=true\/X.env.scope.names.lookup x=ih .local:=by first|exact .inl rfl|exact .inr rfl|assumption):PG X (.Name x pos) (iu i):=by
 intro J s σ H v u Q I r h;exact wpAny_assign_Name (ny I a hi b r (λs' d=>⟨_,H,d,h⟩) c)
theorem bf(i:Nat)(a:X.N.Nodup)(hi:X.N[i]?=ih x:=by exact rfl)(b:Loc X.env.scope x:=by exact abf rfl)(c:X.fn x=true\/X.env.scope.names.lookup x=ih .local:=by first|exact .inl rfl|exact .inr rfl|assumption):PG X (.Name x pos) (iu i):=pQ a hi b c
def Ol:jY:=λvs σ H Q=>vs=[]/\Q σ H
def MO(t:TG)(u:jY):jY:=λvs σ H Q=>∃v r,vs=v::r/\t v σ H λcI H'=>u r cI H' Q
theorem gB:oB X [] Ol:=by
 rintro J s σ H vs us Q I r ⟨e,h⟩;subst e;cases r
 exact assignInOrder_nil ⟨σ,H,I,h⟩
theorem c2{t:TG}{u:jY}(h1:PG X e t)(h2:oB X es u)
  (b:(assignEach (e::es) X.env).map (·.2)=assign e X.env::(assignEach es X.env).map (·.2):=by rfl):oB X (e::es) (MO t u):=by
 rintro J s σ H vs us Q I r ⟨v,g,e1,h⟩;subst e1;cases r with
 |cons r c =>
  rw[b];refine E1 (aG (h1 J s σ H _ _ _ I r h) λ_ s1 i=>?_);obtain⟨a,Y,d,f⟩:=i;exact h2 J s1 a Y _ _ Q d c f
def DJ(K:U3)(n:Nat)(t:jY):TG:=λv σ H Q=>∃a xs,v=.ref a/\aA K H a xs/\xs.length=n/\t xs σ H Q
theorem ik{k:Nat}{t:jY}{n:Nat}(g:X.calm=true)(h:oB X es t)
  (i:(assignEach es X.env).length=n:=by rfl) (f:(assignEach es X.env).findIdx? (·.1)=none:=by rfl):PG X (.Tuple es k pos) (DJ X.K n t):=by
 rintro J s σ H v u Q I r ⟨a,xs,e1,j,l,c⟩;subst e1;cases r
 obtain⟨its,d,m,w⟩:=I.tuple j;refine assign_Tuple_tuple (I.ok.hd g) m (by simp[i,<-l,d.length]) f λh' p=>?_
 have q:Inv X J σ H { s with heap:=h' }:=I.kept (t':=s.toks) λb o e=>p b o (bM (bx e)) e;exact h J _ σ H xs _ Q q (by simpa using d) c
def Om(to ti:TE)(t:uX):TG:=λv σ H Q=>to σ H λo Y=>ti σ Y λi H2=>t o i v H2 λH3=>Q σ H3
theorem CZ{o i:VD}{to ti:TE}{t:uX}(c:PE X o to)(hi:PE X i ti)(d:DI X t)
  (e:∀v,assign (.Subscript o i pos) X.env v=(do
   let a <- holding [v] (eval o X.env)
   let b <- holding [v,a] (eval i X.env)
   standAt pos
   holding [v,a,b] (setItem a b v)
   release [v,a,b] []):=by intro _;rfl):PG X (.Subscript o i pos) (Om to ti t):=by
 intro J s σ H v u Q I r h;rw[e];refine ae (er (aG (c J s σ H _ I h) λa s1 z=>?_));obtain⟨x,Y,f,g,j⟩:=z;refine ae (er (aG (hi J s1 σ Y _ f j) λb s2 z=>?_));obtain⟨y,H2,k,l,m⟩:=z;refine ae (j7 (ae (er (aG (d J s2 σ H2 x y v a b u _ k g l r m) λ_ w z=>?_))));obtain⟨n,p,q⟩:=z;exact wpAny_release ⟨σ,n,p,q⟩
def qE(te:TE)(g:TG):TS:=λD σ H=>te σ H λx Y=>g x σ Y D.nx
theorem i0{g:TG}(a:PE X e te)(b:PG X tg g)(c:swapsWithSole [tg] e pos.line X.env=pure false:=by rfl)(d:swappedStores [tg] e X.env=pure none:=by rfl)
  (h1:(assignEach [tg] X.env).map (·.2)=[assign tg X.env]:=by rfl):PS X (.Assign [tg] e pos) (qE te g):=by
 intro J s σ H D I h;refine wpAny_Assign_stores (aG (a J s σ H _ I h) λv s1 k=>?_) c d;obtain⟨x,Y,f,i,j⟩:=k;rw[h1];exact aG (b J s1 σ Y x v _ f i j) λ_ s2 q=>q
theorem il(a:X.N.Nodup)(hi:X.N[i]?=ih x)(b:Loc X.env.scope x)(c:PE X e te)(d:swapsWith e (ih (.Name x Qh)) pos.line X.env=pure false:=by rfl)(f:X.fn x=true\/X.env.scope.names.lookup x=ih .local:=by first|exact .inl rfl|exact .inr rfl|assumption) :
  PS X (.Assign [.Name x Qh] e pos) (qE te (iu i)):=by
 intro J s σ H D I h;refine wpAny_Assign_Name (aG (c J s σ H _ I h) λv s1 m=>?_) d;obtain⟨y,Y,g,j,k⟩:=m;exact ny g a hi b j (λs2 l=>⟨_,Y,l,k⟩) f
theorem a3(i:Nat)(a:X.N.Nodup)(b:PE X e te)(hi:X.N[i]?=ih x:=by exact rfl)(c:Loc X.env.scope x:=by exact abf rfl)(d:swapsWith e (ih (.Name x Qh)) pos.line X.env=pure false:=by rfl)(f:X.fn x=true\/X.env.scope.names.lookup x=ih .local:=by first|exact .inl rfl|exact .inr rfl|assumption):PS X (.Assign [.Name x Qh] e pos) (qE te (iu i)):=il a hi c b d f
def Oo(i j:Nat)(ta:TA):TS:=λD σ H=>ta σ H λvs Y=>∃v w,vs=[v,w]/\D.nx ((σ.set i (ih v)).set j (ih w)) Y
theorem LO{y:FF}{a b:VD}{ta:TA}{g k pt:Pos}{l m f}(E:X.calm=true)(r:X.N.Nodup)(hi:X.N[i]?=ih x)(F:X.N[j]?=ih y)(A:i≠j)
  (t:X.env.scope.names.lookup x=ih .local) (u:X.env.scope.names.lookup y=ih .local) (G:PA X [a,b] ta)
  (K:swappedStores [.Tuple [.Name x g,.Name y k] l pt] (.Tuple [a,b] m f) X.env=pure (ih [x,y]))
  (L:swapsWithSole [.Tuple [.Name x g,.Name y k] l pt] (.Tuple [a,b] m f) pos.line X.env=pure false:=by rfl) :
  PS X (.Assign [.Tuple [.Name x g,.Name y k] l pt] (.Tuple [a,b] m f) pos) (Oo i j ta):=by
 intro J s σ H D I h;rw[exec_Assign_arm];refine ae (j7 ?_);rw[L];refine ae (ao ?_);rw[aq (by decide)]
 refine ae (Tuple_ (aG (G _ J s σ H _ I h) λus s1 W=>?_));obtain⟨vs,Y,M,O,n⟩:=W;obtain⟨v,w,e1,n⟩:=n;subst e1;obtain⟨c,d,rfl,P,B⟩:∃c d,us=[c,d]/\RelV v c/\RelV w d:=by
  cases O with
  |cons p q =>
   cases q with
   |cons Q R =>
    cases R
    exact⟨_,_,rfl,p,Q⟩
 refine fQ ?_ (by show 2<=UP;decide)
 have S:Inv X J σ Y { s1 with heap:=s1.heap.push { cls:=.type "tuple",data:=.seq [c,d].toArray } }:=M.kept (t':=s1.toks) λb o e=>a7 _ e;rw[K];refine ae (ao ?_);show wA X (do rule "assign.swapped-stores"; let items <- unpackItems (.ref s1.aj) 2 none;assignInOrder [λv=>bindName X.env y v,λv=>bindName X.env x v] items.reverse;pure ack) _ _ _;refine ae (ji (ae (unpackItems_tuple (items:= #[c,d]) (I.ok.hd E) (IsTup.new s1.heap _) λh' C=>?_)));have T:=S.kept (h':=h') (t':=s1.toks) λb o e=>C b o (bM (bx e)) e;show UQ _ _ (assignInOrder [λv=>bindName X.env y v,λv=>bindName X.env x v] [d,c] >>= λ_=>pure ack) _ _ _;refine ae (E1 (wpAny_bindName (ny T r F (.inl u) B (λs2 U=>?_) (.inr u))));refine E1 (wpAny_bindName (ny U r hi (.inl t) P (λV z=>assignInOrder_nil (ao ?_)) (.inr t)));rw[List.set_comm _ _ (aT A)]at z;exact⟨_,Y,z,n⟩
def LP(c:TT)(tb:TS):TS:=λD σ H=>∃W:Nat->St->Hp->Prop,(∃m,W m σ H) /\∀m σ H,W m σ H ->
 c σ H λb Y=>if b=true then ∃N:St->Hp->Prop,(∀cI H',N cI H' ->∃m',m'<m/\W m' cI H')/\tb { D with nx:=N,ct:=N,bk:=D.nx } σ Y else D.nx σ Y
theorem nz{tc:TT}(q:PassesOwn X.c5 X.A X.env X.xe)(w:PT X c tc)(x:di X body tb):PS X (.While c body [] pos) (LP tc tb):=by
 rintro J s σ H D I ⟨W,⟨y,z⟩,u⟩;refine wpAny_While (codeAny_whileLoop (λn s'=>∃p H',Inv X J p H' s'/\W n p H') ?_ y ⟨σ,H,I,z⟩);rintro n s1 ⟨e,Y,B,C⟩;refine mU q (aG (w J s1 e Y _ B (u n e Y C)) λb s2 F=>?_);obtain⟨H2,r,g⟩:=F;cases b with
 |true =>
  obtain⟨N,t,g⟩:=g;rw[aF rfl];refine mU q (aG (x J s2 e H2 _ r g) λf E i=>?_);cases f with
  |next =>
   obtain⟨a,d,j,k⟩:=i;obtain⟨l,m,o⟩:=t a d k;exact⟨l,m,a,d,j,o⟩
  |cont =>
   obtain⟨a,d,j,k⟩:=i;obtain⟨l,m,o⟩:=t a d k;exact⟨l,m,a,d,j,o⟩
  |brk=>exact i
  |ret v=>exact i
 |false =>
  rw[aq cc];exact oN ⟨e,H2,r,g⟩
structure It where
 go:Nat->Hp->Prop
 iF:Nat->Hp->V->Hp->Prop
 stop:Nat->Hp->Prop
def f3(X:Cx)(J:List (E8×YO))(H:Hp)(b:E8):Prop:=
 H b=none/\b≠X.env.locals/\b ∉ X.fs/\(b∈X.ex\/X.ec.heap.objs.size<=b)/\(∀x c,X.env.cells.lookup x=ih c->c≠b) /\∀p∈X.pn++J,p.1≠b
theorem Inv.hS(I:Inv X J σ H s)(a:s.aj<=b)(d:H' b=none):f3 X J H' b:=by
 refine⟨d,jj (eY I.lt a),I.Od a,.inr (en I.sz a),λx c e z=>?_,λp f z=>?_⟩
 ·obtain⟨v,q⟩:=I.cell x c e
  exact absurd (eY q.lt (by rw[z];exact a)) (jg _)
 ·exact absurd (eY (bx (I.pin p f).1) (by rw[z];exact a)) (jg _)
structure Turn(P:Yq)(w:Yw)(K:U3)(tg:VD)(Jz:It)(fp:List E8)(it:E8)(tn:Nat->Yl->Prop):Prop where
 mem:it∈fp
 obj:∀i h,tn i h ->∀b∈fp,∃o,h.get? b=ih o /\∀v,o.data ≠ .cell v
 keep:∀i h h',tn i h->(∀b∈fp,∀o,h.get? b=ih o->h'.get? b=ih o)->tn i h'
 item:∀(X:Cx),X.prog=P->X.w=w->X.K=K->X.calm=true ->∀(i:Nat) J s σ H (E:i'->UN->Prop),Inv X J σ H s->(∀b∈fp,f3 X J H b)->tn i s.heap->Jz.go i H ->
  UQ (U4 P w) X.A (pyNext (.ref it)) (λr s1=>∃u,r=ih u /\
   UQ (U4 P w) X.A (letOwnedTupleGo tg (.ref it) u) (λ_ s2=>∃x H',Inv X J σ H' s2/\RelV x u/\Jz.iF i H x H'/\tn (i+1) s2.heap /\∀b∈fp,H' b=none) E s1) E s
 done:∀(X:Cx),X.prog=P->X.w=w->X.K=K->X.calm=true ->∀(i:Nat) J s σ H (E:i'->UN->Prop),Inv X J σ H s->(∀b∈fp,f3 X J H b)->tn i s.heap->Jz.stop i H ->
  UQ (U4 P w) X.A (pyNext (.ref it)) (λr s1=>r=none/\Inv X J σ H s1) E s
 self:∀(A:Yy) (i:Nat) (s:UN) (Q:i'->UN->Prop) (E:i'->UN->Prop),tn i s.heap->Q (.ref it) s->UQ (U4 P w) A (pyIter (.ref it)) Q E s
abbrev TI:=St->Hp->(It->Hp->Prop)->Prop
def vq(X:Cx)(J:List (E8×YO))(σ:St)(tg:VD)(R:It->Hp->Prop)(PD:i')(s2:UN):Prop:=
 ∃(it:E8) (fp:List E8) (tn:Nat->Yl->Prop) (Jz:It) (H':Hp),PD=.ref it/\Inv X J σ H' s2/\Turn X.prog X.w X.K tg Jz fp it tn/\tn 0 s2.heap/\(∀b∈fp,f3 X J H' b)/\R Jz H'
def PI(X:Cx)(tg iter:VD)(wi:TI):Prop:=
 ∀J s σ H (R:It->Hp->Prop),Inv X J σ H s->wi σ H R ->
  wA X (eval iter X.env) (λv s1=>wA X (pyIter v) (vq X J σ tg R) X.xe s1) X.xe s
theorem n4{M:ZT}{n:String}{vs:Array i'}{Q:Unit->UN->Prop}(b:s.heap.get? it=ih o)(c:o.cls=.type n)(d:o.data=.fields vs)
  (e : ["enumerate","zip","dict_itemiterator","dict_reverseitemiterator","odict_iterator","itertools.zip_longest","itertools.pairwise"].contains n=false) (a:Q () s):UQ M A (letOwnedTupleGo tg (.ref it) u) Q E s:=by
 unfold letOwnedTupleGo;cases tg <;> first
  |exact ao a
  |(cases u <;> first
    |exact ao a
    |(refine ae (oO b ?_);rw[c,d];show UQ M A (if (["enumerate","zip","dict_itemiterator","dict_reverseitemiterator","odict_iterator","itertools.zip_longest","itertools.pairwise"].contains n&&vs[0]? == ih (rawInt _))=true then _ else _) Q E s;rw[aq (by intro h;rw[e,Bool.false_and]at h;cases h)];exact ao a))
def jZ(K:U3)(a:E8):It:=
 ⟨λi H=>∃xs x,ak K H a xs/\xs[i]?=ih x,λi H x H'=>H'=H /\∀xs,ak K H a xs->xs[i]?=ih x,λi H=>∃xs,ak K H a xs/\xs.length<=i⟩
def je(K:U3)(a:E8):It:=
 ⟨λi H=>∃xs x,aA K H a xs/\xs[i]?=ih x,λi H x H'=>H'=H /\∀xs,aA K H a xs->xs[i]?=ih x,λi H=>∃xs,aA K H a xs/\xs.length<=i⟩
def j0(lo:Int)(n:Nat):It:=⟨λi _=>i<n,λi H x H'=>H'=H/\x=.int (lo+i),λi _=>n<=i⟩
theorem HX(a it:E8):Turn P w K tg (jZ K a) [it] it (λi h=>h.IsListIter it a i) where
 mem:=by simp
 obj:=λi h st b f=>by
  have e:b=it:=by simpa using f
  subst e;obtain⟨o,e,c,d⟩:=st;exact⟨o,e,λv z=>by rw[d]at z;cases z⟩
 keep:=λi h h' st k=>st.at λo e=>k it (by simp) o e
 item:=by
  intro X l m n F i J s σ H E I g st q;subst l m n;obtain⟨xs,x,j,r⟩:=q;obtain⟨its,t,p,G⟩:=I.list j;obtain⟨u,L,M⟩:=t.get r;obtain⟨f0,y,N,A,B,C⟩:=g it (by simp)
  refine wpAny_pyNext_list_item st p.isList (x:=u) (by simpa using L) λh' D O=>?_
  have Q:Inv X J σ H { s with heap:=h' }:=I.turned (t':=s.toks) (λb o f e=>(O.2 b f).trans e) f0 y A B C;obtain⟨o,e,c,d⟩:=id D;exact⟨u,rfl,n4 (s:={ s with heap:=h' }) e c d (by decide) ⟨x,H,Q,M,⟨rfl,λys R=>by rw[I.BC R j];exact r⟩,D,λb f=>(g b f).1⟩⟩
 done:=by
  intro X l m n F i J s σ H E I g st q;subst l m n;obtain⟨xs,j,r⟩:=q;obtain⟨its,t,p,G⟩:=I.list j;obtain⟨f0,y,N,A,B,C⟩:=g it (by simp)
  have T:=t.length;exact wpAny_pyNext_list_end (I.ok.hd F) st p.isList (by simp;omega) λh' S=>⟨rfl,I.turned (t':=s.toks) (λb o f e=>S b o f e) f0 y A B C⟩
 self:=λ_ _ _ _ _ st h=>wpAny_pyIter_listiter st h
theorem Hg(a it:E8):Turn P w K tg (je K a) [it] it (λi h=>h.IsTupleIter it a i) where
 mem:=by simp
 obj:=λi h st b f=>by
  have e:b=it:=by simpa using f
  subst e;obtain⟨o,e,c,d⟩:=st;exact⟨o,e,λv z=>by rw[d]at z;cases z⟩
 keep:=λi h h' st k=>st.at λo e=>k it (by simp) o e
 item:=by
  intro X l m n F i J s σ H E I g st q;subst l m n;obtain⟨xs,x,j,r⟩:=q;obtain⟨its,t,p,G⟩:=I.tuple j;obtain⟨u,L,M⟩:=t.get r;obtain⟨f0,y,N,A,B,C⟩:=g it (by simp)
  refine wpAny_pyNext_tuple_item st (show s.heap.IsTuple a its.toArray from p) (x:=u) (by simpa using L) λh' D O=>?_
  have Q:Inv X J σ H { s with heap:=h' }:=I.turned (t':=s.toks) (λb o f e=>(O.2 b f).trans e) f0 y A B C;obtain⟨o,e,c,d⟩:=id D;exact⟨u,rfl,n4 (s:={ s with heap:=h' }) e c d (by decide) ⟨x,H,Q,M,⟨rfl,λys R=>by rw[I.HW R j];exact r⟩,D,λb f=>(g b f).1⟩⟩
 done:=by
  intro X l m n F i J s σ H E I g st q;subst l m n;obtain⟨xs,j,r⟩:=q;obtain⟨its,t,p,G⟩:=I.tuple j;obtain⟨f0,y,N,A,B,C⟩:=g it (by simp)
  have T:=t.length;exact wpAny_pyNext_tuple_end (I.ok.hd F) st (show s.heap.IsTuple a its.toArray from p) (by simp;omega) λh' S=>⟨rfl,I.turned (t':=s.toks) (λb o f e=>S b o f e) f0 y A B C⟩
 self:=λ_ _ _ _ _ st h=>wpAny_pyIter_tupleiter st h
theorem Hh(it:E8)(lo:Int)(n:Nat):Turn P w K tg (j0 lo n) [it] it (λi h=>IsRangeIter h it (lo+(i:Nat) * 1) ((n:Int) - (i:Nat)) 1) where
 mem:=by simp
 obj:=λi h st b a=>by
  have e:b=it:=by simpa using a
  subst e;exact⟨_,st,λv z=>by
   have x:Data.fields _=Data.cell v:=z;cases x⟩
 keep:=λi h h' st k=>k it (by simp) _ st
 item:=by
  intro X d f g j i J s σ H E I c st l;subst d f g;obtain⟨f0,m,y,p,q,r⟩:=c it (by simp)
  have W:=Walks.range (prog:=X.prog) (w:=X.w) (I.ok.hd j) it lo 1 n;refine W.item i s _ _ l st λv h' tk A u kk=>?_;obtain⟨t,rfl⟩:=A;have B:Inv X J σ H { s with heap:=h',toks:=tk }:=I.turned (λb o a e=>kk b o (by simpa using a) e) f0 m p q r
  refine⟨_,rfl,n4 (s:={ s with heap:=h',toks:=tk }) (n:= "range_iterator") u rfl rfl (by decide) ⟨.int (lo+i),H,B,⟨t,?_⟩,⟨rfl,rfl⟩,u,λb a=>(c b a).1⟩⟩
  rw[Int.mul_one]
 done:=by
  intro X d f g j i J s σ H E I c st l;subst d f g;obtain⟨f0,m,y,p,q,r⟩:=c it (by simp)
  exact wpAny_pyNext_range_end (I.ok.hd j) st (by have:n<=i:=l;omega) λh' C=>⟨rfl,I.turned (t':=s.toks) (λb o a e=>C b o a e) f0 m p q r⟩
 self:=λ_ _ _ _ _ st h=>wpAny_pyIter_rangeiter st h
def Di(K:U3)(tl:TE):TI:=λσ H R=>tl σ H λx Y=>∃a,x=.ref a/\(∃xs,ak K Y a xs)/\R (jZ K a) Y
def DK(K:U3)(tl:TE):TI:=λσ H R=>tl σ H λx Y=>∃a,x=.ref a/\(∃xs,aA K Y a xs)/\R (je K a) Y
theorem c8{l:VD}(d:PE X l tl):PI X tg l (Di X.K tl):=by
 intro J s σ H R I h;refine aG (d J s σ H _ I h) λv s1 n=>?_;obtain⟨x,Y,c,f,g⟩:=n;obtain⟨a,e,⟨xs,i⟩,q⟩:=g;subst e;cases f
 obtain⟨its,k,p,m⟩:=c.list i;refine rO p.isList ?_;refine⟨s1.aj,[s1.aj],_,_,Y,rfl,c.kept (t':=s1.toks) λb o e=>a7 _ e,HX a _,⟨_,bW _ rfl,rfl,rfl⟩,λb j=>?_,q⟩;have e:b=s1.aj:=by simpa using j
 subst e;exact c.hS (aQ _) (c.aI.fresh (aQ _))
theorem kH{l:VD}(d:PE X l tl):PI X tg l (DK X.K tl):=by
 intro J s σ H R I h;refine aG (d J s σ H _ I h) λv s1 n=>?_;obtain⟨x,Y,c,f,g⟩:=n;obtain⟨a,e,⟨xs,i⟩,q⟩:=g;subst e;cases f
 obtain⟨its,k,p,m⟩:=c.tuple i;refine wpAny_pyIter_tuple (show s1.heap.IsTuple a its.toArray from p) ?_;refine⟨s1.aj,[s1.aj],_,_,Y,rfl,c.kept (t':=s1.toks) λb o e=>a7 _ e,Hg a _,⟨_,bW _ rfl,rfl,rfl⟩,λb j=>?_,q⟩;have e:b=s1.aj:=by simpa using j
 subst e;exact c.hS (aQ _) (c.aI.fresh (aQ _))
theorem BD{R:It->Hp->Prop}{hi:Int}{t u v:Tok}{tk:Nat}(I:Inv X J σ H s)(h1 : -(2 ^ 62)<=lo)(h2:lo<2 ^ 62)(c : -(2 ^ 62)<=hi)(d:hi<2 ^ 62)
  (q:R (j0 lo (hi - lo).toNat) H):wA X (pyIter (.ref s.heap.objs.size)) (vq X J σ tg R) E { s with heap:=s.heap.push { cls:=.type "range",data:=.fields #[.int lo t,.int hi u,.int 1 v] },toks:=tk }:=by
 refine wpAny_pyIter_range (IsRange.new ..) (small_one h1 h2 c d) ?_;have a:Inv X J σ H { s with heap:=s.heap.push { cls:=.type "range",data:=.fields #[.int lo t,.int hi u,.int 1 v] },toks:=tk }:=I.kept λb o e=>a7 _ e;refine⟨(s.heap.push { cls:=.type "range",data:=.fields #[.int lo t,.int hi u,.int 1 v] }).objs.size,[(s.heap.push { cls:=.type "range",data:=.fields #[.int lo t,.int hi u,.int 1 v] }).objs.size],_,_,H,rfl,
  a.kept (t':=tk) λb o e=>a7 _ e,Hh _ lo (hi - lo).toNat,?_,λb f=>?_,q⟩
 ·have e1:lo+((0:Nat):Int) * 1=lo:=by simp
  have e2:(((hi - lo).toNat:Nat):Int) - ((0:Nat):Int)=abK lo hi 1:=by rw[rangeSize_one];split <;> omega
  show IsRangeIter _ _ (lo+((0:Nat):Int) * 1) ((((hi - lo).toNat:Nat):Int) - ((0:Nat):Int)) 1;rw[e1,e2];exact bW _ rfl
 ·have e:b=(s.heap.push { cls:=.type "range",data:=.fields #[.int lo t,.int hi u,.int 1 v] }).objs.size:=by simpa using f
  subst e;exact a.hS (aQ _) (a.aI.fresh (aQ _))
def MP(ta:TA):TI:=λσ H R=>ta σ H λvs Y=>∃j:Int,vs=[.int j] /\ -(2 ^ 62)<=j/\j<2 ^ 62/\R (j0 0 j.toNat) Y
def MQ(ta:TA):TI:=λσ H R=>ta σ H λvs Y=>∃i j:Int,vs=[.int i,.int j]/\(-(2 ^ 62)<=i/\i<2 ^ 62 /\ -(2 ^ 62)<=j/\j<2 ^ 62)/\R (j0 i (j - i).toNat) Y
theorem ib{a:VD}{ta:TA}{p:Pos}(c:Gl X "range")(d:X.mg "range" = none)(f:PA X [a] ta)(g:Ve [a] X.env=[(false,eval a X.env)]:=by rfl):PI X tg (.Call (.Name "range" p) [a] [] pos) (MP ta):=by
 intro J s σ H R I h;refine Call_ (kG I c d boot_range (vV (aG (f pos J s σ H _ I h) λus s1 n=>?_) g rfl));obtain⟨vs,Y,i,k,b⟩:=n;obtain⟨j,e,b,l,q⟩:=b;subst e;cases k with
 |cons r m =>
  cases m
  obtain⟨t,rfl⟩:=r;exact call_range_1 (BD i (by omega) (by omega) b l (by simpa using q))
theorem HY{a b:VD}{ta:TA}{p:Pos}(g:Gl X "range")(k:X.mg "range" = none)(l:PA X [a,b] ta)(m:Ve [a,b] X.env=[(false,eval a X.env),(false,eval b X.env)]:=by rfl)(f:Ve [b] X.env=[(false,eval b X.env)]:=by rfl) :
  PI X tg (.Call (.Name "range" p) [a,b] [] pos) (MQ ta):=by
 intro J s σ H R I h;refine Call_ (kG I g k boot_range (vV (aG (l pos J s σ H _ I h) λus s1 ⟨vs,Y,n,o,c⟩=>?_) (by rw[m,f]) (by rw[f];rfl)))
 obtain⟨i,j,e,⟨c,u,v,w⟩,q⟩:=c;subst e;cases o with
 |cons r d =>
  cases d with
  |cons x d =>
   cases d
   obtain⟨t,rfl⟩:=r;obtain⟨t',rfl⟩:=x;exact call_range_2 (BD n c u v w q)
def Oq(wi:TI)(g:TG)(tb:TS):TS:=λD σ H=>wi σ H λJz Y=>∃W:Nat->Nat->St->Hp->Prop,(∃m,W 0 m σ Y) /\∀i m σ H,W i m σ H ->
 (Jz.stop i H/\D.nx σ H)\/(Jz.go i H /\∃N:St->Hp->Prop,(∀cI H',N cI H' ->∃m',m'<m/\W (i+1) m' cI H') /\∀x H',Jz.iF i H x H'->g x σ H' λPF H2=>tb { D with nx:=N,ct:=N,bk:=D.nx } PF H2)
def nP(fp:List E8)(h:Yl):List (E8×YO):=fp.filterMap λb=>(h.get? b).map λo=>(b,o)
theorem o7(a:b∈fp)(e:h.get? b=ih o):(b,o)∈nP fp h:=oL.mpr ⟨b,a,by rw[e];rfl⟩
theorem HZ{p:E8×YO}(a:p∈nP fp h):p.1∈fp/\h.get? p.1=ih p.2:=by
 obtain⟨b,c,e⟩:=oL.mp a;cases q:h.get? b with
 |none=>rw[q]at e;cases e
 |some o =>
  rw[q]at e;have d:(b,o)=p:=cJ e;subst d;exact⟨c,q⟩
theorem Inv.pinned(I:Inv X J σ H s)(f:∀b∈fp,f3 X J H b)(g:∀b∈fp,∃o,s.heap.get? b=ih o /\∀v,o.data ≠ .cell v):Inv X (J++nP fp s.heap) σ H s:=
 I.Cn λp h=>(bK.mp h).elim (λz=>I.pin p (d7 _ z)) λz=>by
  obtain⟨a,e⟩:=HZ z;obtain⟨f0,i,j,_⟩:=f p.1 a;obtain⟨o,c,d⟩:=g p.1 a;rw[e]at c;cases c;exact⟨e,f0,i,j,d⟩
theorem Inv.pC{pl:ac (E8×YO)}(I:Inv X (J++pl) σ H s):Inv X J σ H s:=I.Cn λp a=>I.pin p (d7 _ (fM _ a))
theorem eK{wi:TI}{g:TG}(t:PassesOwn X.c5 X.A X.env X.xe)(K:X.calm=true)(hi:PI X tg iter wi)(Z:PG X tg g)(c:di X body tb)
  (xa:∀x,foldedSetIterable iter X.env x=pure x:=by intro _;rfl):PS X (.For tg iter body [] pos) (Oq wi g tb):=by
 intro J s σ H D I h;refine wpAny_For (aG (hi J s σ H _ I h) λv s1 h1=>aG h1 λxh s2 h2=>?_) xa;obtain⟨it,fp,tn,yh,H2,e,ya,T,S,L,W,⟨za,xb⟩,R⟩:=h2;subst e;have z:∀{H':Hp},(∀b∈fp,H' b=none) ->∀b∈fp,f3 X J H' b:=λyb b c=>⟨yb b c,(L b c).2⟩;refine codeAny_forLoop_any (λn s'=>∃i p H',Inv X J p H' s'/\tn i s'.heap/\(∀b∈fp,H' b=none)/\W i n p H') ?_ za ⟨0,σ,H2,ya,S,λb c=>(L b c).1,xb⟩;rintro n M ⟨i,q,y,O,F,G,zb⟩;rcases R i n q y zb with⟨stop,qn⟩|⟨go,N,xc,step⟩
 ·refine mU t (aG (T.done X rfl rfl rfl K i J M q y X.xe O (z G) F stop) λr yc ⟨C,zc⟩=>?_)
  subst C;exact oN ⟨q,y,zc,qn⟩
 ·refine mU t (aG (T.item X rfl rfl rfl K i J M q y X.xe O (z G) F go) λr yc aa=>?_);obtain⟨u,C,xd⟩:=aa
  subst C;refine mU t (aG xd λ_ P aa=>?_);obtain⟨x,Q,yd,zd,y5,B,U⟩:=aa;have V:=yd.pinned (z U) (T.obj _ _ B);refine mU t (aG (Z _ P q Q x u _ V zd (step x Q y5)) λ_ ye aa=>?_);obtain⟨Y,ze,xf,yf⟩:=aa;refine mU t (aG (c _ ye Y ze _ xf yf) λf E l=>?_);have again:∀{a:St}{j:Hp},Inv X (J++nP fp P.heap) a j E->N a j ->∃m,m<n /\∃i p H',Inv X J p H' E/\tn i E.heap/\(∀b∈fp,H' b=none)/\W i m p H':=λ{a j} k w=>by
   obtain⟨zf,xg,yg⟩:=xc a j w;refine⟨zf,xg,i+1,a,j,k.pC,T.keep _ _ _ B λb c o e=>(k.pin (b,o) (d7 _ (d7 _ (o7 c e)))).1,λb c=>?_,yg⟩;obtain⟨o,e,d⟩:=T.obj _ _ B b c;exact(k.pin (b,o) (d7 _ (d7 _ (o7 c e)))).2.1
  cases f with
  |next=>obtain⟨a,j,k,w⟩:=l;exact again k w
  |cont=>obtain⟨a,j,k,w⟩:=l;exact again k w
  |brk=>obtain⟨a,j,k,l⟩:=l;exact⟨a,j,k.pC,l⟩
  |ret v=>obtain⟨x7,a,j,k,zg,l⟩:=l;exact⟨x7,a,j,k.pC,zg,l⟩
theorem ie{g:TG}{D:Ends}(Pv:Nat->St->Hp->Prop)(h0:Pv 0 σ H)(h:∀i σ H,i<=xs.length->Pv i σ H->ak K H a xs)
  (j:∀i x σ H,xs[i]?=ih x->Pv i σ H->g x σ H λb H2=>tb { D with nx:=Pv (i+1),ct:=Pv (i+1),bk:=D.nx } b H2) (k:∀σ H,Pv xs.length σ H->D.nx σ H) :
  ∃W:Nat->Nat->St->Hp->Prop,(∃m,W 0 m σ H) /\∀i m σ H,W i m σ H ->
   ((jZ K a).stop i H/\D.nx σ H)\/((jZ K a).go i H /\∃N:St->Hp->Prop,(∀c H',N c H' ->∃f,f<m/\W (i+1) f c H') /\∀x H',(jZ K a).iF i H x H'->g x σ H' λb H2=>tb { D with nx:=N,ct:=N,bk:=D.nx } b H2):=by
 refine⟨λi m σ H=>m=xs.length - i/\i<=xs.length/\Pv i σ H,⟨xs.length,by simp,bD _,h0⟩,?_⟩
 rintro i m σ H ⟨rfl,hi,p⟩;have q:=h i σ H hi p
 by_cases d:i<xs.length
 ·refine .inr ⟨⟨xs,xs[i],q,by simp[d]⟩,Pv (i+1),λc H' l=>⟨xs.length - (i+1),by omega,rfl,d,l⟩,λx H' y=>?_⟩
  obtain⟨e,y⟩:=y;subst e;exact j i x σ _ (y xs q) p
 ·have e:i=xs.length:=by omega
  subst e;exact .inl ⟨⟨xs,q,aQ _⟩,k σ H p⟩
theorem Kg{g:TG}{D:Ends}(Pv:Nat->St->Hp->Prop)(h0:Pv 0 σ H)(h:∀i σ H,i<=xs.length->Pv i σ H->aA K H a xs)
  (j:∀i x σ H,xs[i]?=ih x->Pv i σ H->g x σ H λb H2=>tb { D with nx:=Pv (i+1),ct:=Pv (i+1),bk:=D.nx } b H2) (k:∀σ H,Pv xs.length σ H->D.nx σ H) :
  ∃W:Nat->Nat->St->Hp->Prop,(∃m,W 0 m σ H) /\∀i m σ H,W i m σ H ->
   ((je K a).stop i H/\D.nx σ H)\/((je K a).go i H /\∃N:St->Hp->Prop,(∀c H',N c H' ->∃f,f<m/\W (i+1) f c H') /\∀x H',(je K a).iF i H x H'->g x σ H' λb H2=>tb { D with nx:=N,ct:=N,bk:=D.nx } b H2):=by
 refine⟨λi m σ H=>m=xs.length - i/\i<=xs.length/\Pv i σ H,⟨xs.length,by simp,bD _,h0⟩,?_⟩
 rintro i m σ H ⟨rfl,hi,p⟩;have q:=h i σ H hi p
 by_cases d:i<xs.length
 ·refine .inr ⟨⟨xs,xs[i],q,by simp[d]⟩,Pv (i+1),λc H' l=>⟨xs.length - (i+1),by omega,rfl,d,l⟩,λx H' y=>?_⟩
  obtain⟨e,y⟩:=y;subst e;exact j i x σ _ (y xs q) p
 ·have e:i=xs.length:=by omega
  subst e;exact .inl ⟨⟨xs,q,aQ _⟩,k σ H p⟩
theorem kx{n:Nat}{g:TG}{D:Ends}(Pv:Nat->St->Hp->Prop)(h0:Pv 0 σ H)
  (f:∀i σ H,i<n->Pv i σ H->g (.int (lo+i)) σ H λa H2=>tb { D with nx:=Pv (i+1),ct:=Pv (i+1),bk:=D.nx } a H2) (h:∀σ H,Pv n σ H->D.nx σ H) :
  ∃W:Nat->Nat->St->Hp->Prop,(∃m,W 0 m σ H) /\∀i m σ H,W i m σ H ->
   ((j0 lo n).stop i H/\D.nx σ H)\/((j0 lo n).go i H /\∃N:St->Hp->Prop,(∀b H',N b H' ->∃d,d<m/\W (i+1) d b H') /\∀x H',(j0 lo n).iF i H x H'->g x σ H' λa H2=>tb { D with nx:=N,ct:=N,bk:=D.nx } a H2):=by
 refine⟨λi m σ H=>m=n - i/\i<=n/\Pv i σ H,⟨n,by simp,bD _,h0⟩,?_⟩
 rintro i m σ H ⟨rfl,hi,p⟩
 by_cases c:i<n
 ·refine .inr ⟨c,Pv (i+1),λb H' j=>⟨n - (i+1),by omega,rfl,c,j⟩,λx H' y=>?_⟩
  obtain⟨e,y⟩:=y;subst e y;exact f i σ _ c p
 ·have e:i=n:=by omega
  subst e;exact .inl ⟨aQ _,h σ H p⟩
abbrev R2:=V->V->Hp->VK->Prop
def cu(X:Cx)(f:i'->i'->Zr i')(r:R2):Prop:=
 ∀J s σ H (x y:V) (v u:i') (Q:VK),Inv X J σ H s->RelV x v->RelV y u->r x y H Q ->
  wA X (f v u) (EP X J σ Q) X.xe s
def vr(X:Cx)(f:i'->Zr i')(r:V->Hp->VK->Prop):Prop:=
 ∀J s σ H (x:V) (v:i') (Q:VK),Inv X J σ H s->RelV x v->r x H Q ->
  wA X (f v) (EP X J σ Q) X.xe s
def cX(X:Cx)(f:i')(r:List V->Hp->VK->Prop):Prop:=
 ∀J s σ H (xs:List V) (us:List i') (Q:VK),Inv X J σ H s->Vals xs us->r xs H Q ->
  wA X (call f us) (EP X J σ Q) X.xe s
def Ot(X:Cx)(r:V->Hp->(Bool->Hp->Prop)->Prop):Prop:=
 ∀J s σ H (x:V) (v:i') (Q:Bool->Hp->Prop),Inv X J σ H s->RelV x v->r x H Q ->
  wA X (truthy v) (TP X J σ Q) X.xe s
def j1(r:R2)(ta tb:TE):TE:=λσ H Q=>ta σ H λx Y=>tb σ Y λy H2=>r x y H2 Q
def PH(r:V->Hp->VK->Prop)(ta:TE):TE:=λσ H Q=>ta σ H λx Y=>r x Y Q
def rI(C:Int->Int->Prop)(g:Int->Int->V):R2:=λx y H Q=>∃i j,x=.int i/\y=.int j/\C i j/\Q (g i j) H
def lp(g:Int->Int->V):R2:=λx y H Q=>∃i j,x=.int i/\y=.int j/\Q (g i j) H
def rU(g:Int->V):V->Hp->VK->Prop:=λx H Q=>∃i,x=.int i/\Q (g i) H
section
variable{a b:VD}{tb tc:TE}
theorem uY(e:PE X a ta)(g:PE X b tb){R:V->V->Hp->Prop}(I:Inv X J σ H s)
  (h:ta σ H λx Y=>tb σ Y λy H2=>R x y H2) {f:i'->i'->Zr i'}
  (i:∀v u s2 x y H2,Inv X J σ H2 s2->RelV x v->RelV y u->R x y H2->wA X (f v u) Q X.xe s2) :
  wA X (eval a X.env) (λv c=>wA X (eval b X.env) (λu d=>wA X (f v u) Q X.xe d) X.xe c) X.xe s:=by
 refine aG (e J s σ H _ I h) λv s1 p=>?_;obtain⟨x,Y,j,k,l⟩:=p;refine aG (g J s1 σ Y _ j l) λu s2 p=>?_;obtain⟨y,H2,m,n,o⟩:=p;exact i v u s2 x y H2 m k n o
theorem bA{op:ach}{r:R2}(c:cu X (YB op) r)(d:PE X a ta)(e:PE X b tb):PE X (.BinOp a op b pos) (j1 r ta tb):=by
 intro J s σ H Q I h;exact wpAny_BinOp (uY d e I h λv u s2 x y H2 f g i q=>c J s2 σ H2 x y v u Q f g i q)
theorem uw{op:UnaryOp}{r:V->Hp->VK->Prop}(b:vr X (unaryOp op) r)(c:PE X a ta):PE X (.UnaryOp op a pos) (PH r ta):=by
 intro J s σ H Q I h;exact UnaryOp_ (aG (c J s σ H _ I h) λv s1 ⟨x,Y,d,e,f⟩=>b J s1 σ Y x v Q d e f)
theorem mI{f:i'->i'->Zr i'}{C:Int->Int->Prop}{g:Int->Int->Int}
  (rule:∀(i j:Int) (t u:Tok) (s:UN) (Q:i'->UN->Prop) (E:i'->UN->Prop),C i j->Q (.int (g i j) s.toks) { s with toks:=s.toks+1 }->wA X (f (.int i t) (.int j u)) Q E s) :
  cu X f (rI C λi j=>.int (g i j)):=by
 rintro J s σ H x y v u Q I a b ⟨i,j,rfl,rfl,c,q⟩;obtain⟨t,rfl⟩:=a;obtain⟨t',rfl⟩:=b;exact rule i j t t' s _ _ c ⟨.int (g i j),H,I.tok _,⟨_,rfl⟩,q⟩
theorem DL{f:i'->i'->Zr i'}{g:Int->Int->Int}
  (rule:∀(i j:Int) (t u:Tok) (s:UN) (Q:i'->UN->Prop) (E:i'->UN->Prop),Q (.int (g i j) s.toks) { s with toks:=s.toks+1 }->wA X (f (.int i t) (.int j u)) Q E s) :
  cu X f (lp λi j=>.int (g i j)):=by
 rintro J s σ H x y v u Q I a b ⟨i,j,rfl,rfl,q⟩;obtain⟨t,rfl⟩:=a;obtain⟨t',rfl⟩:=b;exact rule i j t t' s _ _ ⟨.int (g i j),H,I.tok _,⟨_,rfl⟩,q⟩
theorem uZ{f:i'->i'->Zr i'}{g:Int->Int->Bool}
  (rule:∀(i j:Int) (t u:Tok) (s:UN) (Q:i'->UN->Prop) (E:i'->UN->Prop),Q (.bool (g i j)) s->wA X (f (.int i t) (.int j u)) Q E s) :
  cu X f (lp λi j=>.bl (g i j)):=by
 rintro J s σ H x y v u Q I a b ⟨i,j,rfl,rfl,q⟩;obtain⟨t,rfl⟩:=a;obtain⟨t',rfl⟩:=b;exact rule i j t t' s _ _ ⟨.bl (g i j),H,I,rfl,q⟩
def Ou(i j:Int):Prop:=0<j/\j<1073741824
def Ov(i j:Int):Prop:=0<=j/\j<=1000000/\i.natAbs<2 ^ 64
def og(i j:Int):Prop:=(-(2 ^ 64)<i/\i<2 ^ 64)\/(-(2 ^ 64)<j/\j<2 ^ 64)
theorem og.ok{i j:Int}(h:og i j):IntMulOk i j:=by
 rcases h with⟨h1,h2⟩|⟨h1,h2⟩
 ·exact .of_left (intBits_le_64 h1 h2)
 ·exact .of_right (intBits_le_64 h1 h2)
theorem e4:cu X (YB .Add) (lp λi j=>.int (i+j)):=DL λ_ _ _ _ _ _ _ q=>add_int q
theorem kI:cu X (YB .Sub) (lp λi j=>.int (i - j)):=DL λ_ _ _ _ _ _ _ q=>sub_int q
theorem nQ:cu X (YB .Mult) (rI og λi j=>.int (i * j)):=mI λ_ _ _ _ _ _ _ a q=>mul_int q a.ok
theorem Kh:cu X (YB .FloorDiv) (rI Ou λi j=>.int (i / j)):=mI λi j _ _ _ _ _ a q=>by
 have h1:(0:Int)<j:=a.1;have h2:j<1073741824:=a.2;exact floordiv_int (by omega) (by rw[US i (by omega)];exact q) (.inl (PyProof.noPylong_small (by omega)))
theorem kJ:cu X (YB .Mod) (rI (λ_ j=>0<j) λi j=>.int (i % j)):=mI λi j _ _ _ _ _ a q=>by
 have h1:(0:Int)<j:=a;exact mod_int' (by omega) (by rw[Int.fmod_eq_emod_of_nonneg i (by omega)];exact q)
theorem t9:cu X (YB .Pow) (rI Ov λi j=>.int (i ^ j.toNat)):=mI λ_ _ _ _ _ _ _ a q=>pow_int_small a.1 a.2.1 a.2.2 q
theorem Ki:cu X (inplaceOp .Mult) (rI og λi j=>.int (i * j)):=mI λ_ _ _ _ _ _ _ a q=>imul_int q a.ok
theorem PK{f:i'->Zr i'}{g:Int->Int}
  (rule:∀(i:Int) (t:Tok) (s:UN) (Q:i'->UN->Prop) (E:i'->UN->Prop),Q (.int (g i) s.toks) { s with toks:=s.toks+1 }->wA X (f (.int i t)) Q E s) :
  vr X f (rU λi=>.int (g i)):=by
 rintro J s σ H x v Q I a ⟨i,rfl,q⟩;obtain⟨t,rfl⟩:=a;exact rule i t s _ _ ⟨.int (g i),H,I.tok _,⟨_,rfl⟩,q⟩
theorem ub:vr X (unaryOp .USub) (rU λi=>.int (-i)):=PK λ_ _ _ _ _ q=>neg_int q
end
def DM:V->V->Bool
 |.aO,.aO=>true|.aO,.int _=>true|.int _,.aO=>true|.aO,.bl _=>true|.bl _,.aO=>true|.aO,.str _=>true|.str _,.aO=>true
 |.int _,.int _=>true|.bl _,.bl _=>true|.str _,.str _=>true|.f7 _,.f7 _=>true
 |.int _,.str _=>true|.str _,.int _=>true|.bl _,.str _=>true|.str _,.bl _=>true
 |_,_=>false
def PL:R2:=λx y H Q=>DM x y=true/\Q (.bl (decide (x=y))) H
def PM:R2:=λx y H Q=>DM x y=true/\Q (.bl (!decide (x=y))) H
theorem Co{i j:Int}:decide (V.int i=V.int j)=(i==j):=by
 rw[lx];simp
theorem C0{i j:Bool}:decide (V.bl i=V.bl j)=(i==j):=by
 rw[lx];simp
theorem Cp{i j:FF}:decide (V.str i=V.str j)=(i==j):=by
 rw[lx];simp
theorem Cq{i j:Array UInt8}:decide (V.f7 i=V.f7 j)=(i.toList==j.toList):=by
 rw[lx];cases i
 cases j
 simp
section
variable{a b:VD}{tb tc:TE}
theorem cE{Q:VK}{k a:Bool}(I:Inv X J σ H s)(q:Q (.bl k) H)(e:k=a):EP X J σ Q (.bool a) s:=by
 subst e;exact⟨.bl k,H,I,rfl,q⟩
theorem c':cu X (VW .Eq) PL:=by
 rintro J s σ H x y v u Q I c a ⟨b,q⟩;cases x with
 |aO =>
  cases c
  cases y with
  |aO=>cases a;exact abZ (cE I q (by simp))
  |bl j=>cases a;exact ab1 (cE I q (by simp))
  |int j=>obtain⟨t',rfl⟩:=a;exact ab0 (cE I q (by simp))
  |str j=>obtain⟨t',rfl⟩:=a;exact abY (cE I q (by simp))
  |_=>exact absurd (show false=true from b) cc
 |bl i =>
  cases c
  cases y with
  |aO=>cases a;exact ab3 (cE I q (by simp))
  |bl j=>cases a;exact eq_bool (cE I q C0)
  |str j=>obtain⟨t',rfl⟩:=a;exact abG (cE I q (by simp))
  |_=>exact absurd (show false=true from b) cc
 |int i =>
  obtain⟨t,rfl⟩:=c;cases y with
  |aO=>cases a;exact ab2 (cE I q (by simp))
  |int j=>obtain⟨t',rfl⟩:=a;exact eq_int (cE I q Co)
  |str j=>obtain⟨t',rfl⟩:=a;exact abF (cE I q (by simp))
  |_=>exact absurd (show false=true from b) cc
 |str i =>
  obtain⟨t,rfl⟩:=c;cases y with
  |aO=>cases a;exact abX (cE I q (by simp))
  |bl j=>cases a;exact abE (cE I q (by simp))
  |int j=>obtain⟨t',rfl⟩:=a;exact abD (cE I q (by simp))
  |str j=>obtain⟨t',rfl⟩:=a;exact eq_str (cE I q Cp)
  |_=>exact absurd (show false=true from b) cc
 |f7 i =>
  obtain⟨t,rfl⟩:=c;cases y with
  |f7 j=>obtain⟨t',rfl⟩:=a;exact PySem.W.eq_bytes (cE I q Cq)
  |_=>exact absurd (show false=true from b) cc
 |_=>cases y <;> exact absurd (show false=true from b) cc
theorem jK:cu X (VW .NotEq) PM:=by
 rintro J s σ H x y v u Q I c a ⟨b,q⟩;cases x with
 |aO =>
  cases c
  cases y with
  |aO=>cases a;exact abS (cE I q (by simp))
  |bl j=>cases a;exact abU (cE I q (by simp))
  |int j=>obtain⟨t',rfl⟩:=a;exact abT (cE I q (by simp))
  |str j=>obtain⟨t',rfl⟩:=a;exact abR (cE I q (by simp))
  |_=>exact absurd (show false=true from b) cc
 |bl i =>
  cases c
  cases y with
  |aO=>cases a;exact abW (cE I q (by simp))
  |bl j=>cases a;exact ne_bool (cE I q (c6 not C0))
  |str j=>obtain⟨t',rfl⟩:=a;exact abC (cE I q (by simp))
  |_=>exact absurd (show false=true from b) cc
 |int i =>
  obtain⟨t,rfl⟩:=c;cases y with
  |aO=>cases a;exact abV (cE I q (by simp))
  |int j=>obtain⟨t',rfl⟩:=a;exact ne_int (cE I q (c6 not Co))
  |str j=>obtain⟨t',rfl⟩:=a;exact abB (cE I q (by simp))
  |_=>exact absurd (show false=true from b) cc
 |str i =>
  obtain⟨t,rfl⟩:=c;cases y with
  |aO=>cases a;exact abQ (cE I q (by simp))
  |bl j=>cases a;exact abA (cE I q (by simp))
  |int j=>obtain⟨t',rfl⟩:=a;exact abz (cE I q (by simp))
  |str j=>obtain⟨t',rfl⟩:=a;exact ne_str (cE I q (c6 not Cp))
  |_=>exact absurd (show false=true from b) cc
 |f7 i =>
  obtain⟨t,rfl⟩:=c;cases y with
  |f7 j=>obtain⟨t',rfl⟩:=a;exact PySem.W.ne_bytes (cE I q (c6 not Cq))
  |_=>exact absurd (show false=true from b) cc
 |_=>cases y <;> exact absurd (show false=true from b) cc
theorem Dj:cu X (VW .Lt) (lp λi j=>.bl (decide (i<j))):=uZ λ_ _ _ _ _ _ _ q=>lt_int q
theorem Dk:cu X (VW .LtE) (lp λi j=>.bl (decide (i<=j))):=uZ λ_ _ _ _ _ _ _ q=>le_int q
theorem Dl:cu X (VW .Gt) (lp λi j=>.bl (decide (j<i))):=uZ λ_ _ _ _ _ _ _ q=>gt_int q
theorem gD:cu X (VW .Is) (λx y H Q=>y=.aO/\Q (.bl (decide (x=.aO))) H):=by
 rintro J s σ H x y v u Q I a b ⟨rfl,q⟩;cases b
 refine is_none_gen (cE I q ?_);cases x <;> first
  |(cases a;rfl)
  |(obtain⟨t,rfl⟩:=a;rfl)
theorem bC(b:VD){op:Z4}(h:op ≠ .In:=by decide)(h2:op ≠ .NotIn:=by decide):behindInMarks op b=false:=by
 have e1:(op==acm)=false:=by cases op <;> first|rfl|exact absurd rfl h
 have e2:(op==abp)=false:=by cases op <;> first|rfl|exact absurd rfl h2
 cases b <;> simp[behindInMarks,e1,e2]
theorem jD{op:Z4}{r:R2}(c:cu X (VW op) r)(d:PE X a ta)(e:PE X b tb)(f:behindInMarks op b=false):PE X (.Compare a [op] [b] pos) (j1 r ta tb):=by
 intro J s σ H Q I h;exact wpAny_Compare1 (uY d e I h λv u s2 x y H2 g i j q=>c J s2 σ H2 x y v u Q g i j q) f
def qo(t:TE):TT:=λσ H Q=>t σ H λx H'=>∃k,x=.bl k/\Q k H'
theorem br{op:Z4}{r:R2}(d:cu X (VW op) r)(f:PE X a ta)(g:PE X b tb)(i:behindInMarks op b=false):PT X (.Compare a [op] [b] pos) (qo (j1 r ta tb)):=by
 intro J s σ H Q I h;refine wpAny_isTrue_Compare1 (aG (f J s σ H _ I h) λv s1 ⟨x,Y,j,l,m⟩=>aG (g J s1 σ Y _ j m) λu s2 ⟨y,H2,n,o,p⟩ =>
  aG (d J s2 σ H2 x y v u _ n l o p) λc B ⟨z,q,t,w,k,e,A⟩=>?_) i
 subst e;cases w
 exact hg ⟨q,t,A⟩
def C1(r r':R2)(ta tb tc:TE):TE:=λσ H Q=>ta σ H λx Y=>tb σ Y λy H2=>r x y H2 λz H3=>∃k,z=.bl k /\
 (if k=true then tc σ H3 λw' H4=>r' y w' H4 Q else Q (.bl false) H3)
theorem I5{op f:Z4}{r g:R2}(o:cu X (VW op) r)(n:cu X (VW f) g)(p:PE X a ta)(q:PE X b tb)(t:PE X c tc)
  (w:lastMarks [op,f] [b,c]=false:=by with_unfolding_all rfl):PE X (.Compare a [op,f] [b,c] pos) (C1 r g ta tb tc):=by
 intro J s σ H Q I h;refine Compare_chain (aG (p J s σ H _ I h) λv s1 ⟨x,Y,A,B,C⟩=>chain_link (aG (q J s1 σ Y _ A C) λu s2 ⟨y,H2,D,i,E⟩ =>
  aG (o J s2 σ H2 x y v u _ D B i E) λd F ⟨z,j,l,G,k,e,m⟩=>?_)) w
 subst e;cases G
 refine hg ?_;cases k with
 |false=>exact ite_ff ⟨.bl false,j,l,rfl,m⟩
 |true=>exact ite_tt (chain_last (aG (t J F σ j _ l m) λK L ⟨M,N,O,P,R⟩=>n J L σ N y M u K Q O i P R))
theorem I6{op f:Z4}{r g:R2}(o:cu X (VW op) r)(n:cu X (VW f) g)(p:PE X a ta)(q:PE X b tb)(t:PE X c tc)
  (w:lastMarks [op,f] [b,c]=false:=by with_unfolding_all rfl):PT X (.Compare a [op,f] [b,c] pos) (qo (C1 r g ta tb tc)):=by
 intro J s σ H Q I h;refine isTrue_chain (aG (p J s σ H _ I h) λv s1 ⟨x,Y,A,B,C⟩=>test_link (aG (q J s1 σ Y _ A C) λu s2 ⟨y,H2,D,i,E⟩ =>
  aG (o J s2 σ H2 x y v u _ D B i E) λd F ⟨z,j,l,G,k,e,m⟩=>?_)) w
 subst e;cases G
 refine hg ?_;cases k with
 |false =>
  obtain⟨xa,K,L⟩:=m;cases K
  exact ite_ff ⟨j,l,L⟩
 |true =>
  refine ite_tt (test_last (aG (t J F σ j _ l m) λM N ⟨O,P,R,S,T⟩=>aG (n J N σ P y O u M _ R i S T) λya za aa=>?_));obtain⟨z2,U,V,W,xb,e2,Z⟩:=aa;subst e2;cases W
  exact hg ⟨U,V,Z⟩
def DN(K:U3)(x:V)(H:Hp)(k:Bool):Prop:=
 match x with
 |.aO=>k=false
 |.bl b=>k=b
 |.int i=>k=(i != 0)
 |.str y=>y.length<=UP/\k=((y.length:Int) != 0)
 |.f7 y=>y.size<=UP/\k=((y.size:Int) != 0)
 |.ref p=>(∃xs,ak K H p xs/\k = !xs.isEmpty)\/(∃xs,aA K H p xs/\k = !xs.isEmpty) \/∃kvs,H p=ih (.dK kvs)/\k = !kvs.isEmpty
 |_=>False
theorem Hi{κ:Type}{kvs:ac (κ×V)}{vs:ac (κ×i')}(r:KV kvs vs):(!vs.isEmpty) = !kvs.isEmpty:=by
 cases r <;> rfl
theorem so(r:Vals xs its):(!its.toArray.isEmpty) = !xs.isEmpty:=by
 cases r <;> simp
theorem kK:(UP:Nat)<2 ^ 63:=by rw[aW];decide
theorem LQ:Ot X (λx H Q=>∃k,DN X.K x H k/\Q k H):=by
 rintro J s σ H x v Q I c ⟨k,e,q⟩;have o:=kK;have u:UP=16777216:=aW;cases x with
 |aO =>
  cases c
  have a:k=false:=e;subst a;exact truthy_none ⟨H,I,q⟩
 |bl b =>
  cases c
  have a:k=b:=e;subst a;exact hg ⟨H,I,q⟩
 |int i =>
  obtain⟨t,rfl⟩:=c;have a:k=(i != 0):=e;subst a;exact PySem.P.truthy_int ⟨H,I,q⟩
 |str y =>
  obtain⟨t,rfl⟩:=c;obtain⟨l,a⟩:y.length<=UP/\k=((y.length:Int) != 0):=e;subst a;exact PySem.P.truthy_str (by omega) ⟨H,I.tok _,q⟩
 |f7 y =>
  obtain⟨t,rfl⟩:=c;obtain⟨l,a⟩:y.size<=UP/\k=((y.size:Int) != 0):=e;subst a;exact PySem.W.truthy_bytes (by omega) ⟨H,I.tok _,q⟩
 |ref p =>
  cases c
  have a:(∃xs,ak X.K H p xs/\k = !xs.isEmpty)\/(∃xs,aA X.K H p xs/\k = !xs.isEmpty) \/∃kvs,H p=bn kvs/\k = !kvs.isEmpty:=e;rcases a with⟨xs,d,a⟩|⟨xs,d,a⟩|⟨kvs,d,a⟩
  ·subst a
   obtain⟨its,r,f,j⟩:=I.list d;have g:=r.length;exact wpAny_truthy_list f.isList (by simp only[b2];omega) ⟨H,I.tok _,by rw[so r];exact q⟩
  ·subst a
   obtain⟨its,r,f,j⟩:=I.tuple d;have g:=r.length;exact truthy_tuple f (by simp only[b2];omega) ⟨H,I.tok _,by rw[so r];exact q⟩
  ·subst a
   obtain⟨j,n,vs,r,m⟩:kvs.length<=UP/\(p==sysModules)=false /\∃vs,KV kvs vs/\s.heap.DictOf (cm X.prog X.w) p vs:=I.aI p _ d;have g:kvs.length=vs.length:=cN r;exact wpAny_truthy_dict n m (by omega) ⟨H,I.tok _,by rw[Hi r];exact q⟩
 |_=>exact(show False from e).elim
theorem kz(c:PE X a ta)(d:∀b,isTrue a X.env b=(do let v <- b;standAt a.pos;holding [v] (truthy v))) :
  PT X a (λσ H Q=>ta σ H λx H'=>∃k,DN X.K x H' k/\Q k H'):=by
 intro J s σ H Q I h;exact isTrue_plain (aG (c J s σ H _ I h) λv s1 ⟨x,Y,e,f,g⟩=>LQ J s1 σ Y x v Q e f g) (d _)
theorem Ak:cu X (YB .Add) (λx y H Q=>∃i j,x=.str i/\y=.str j/\i.length+j.length<=UP/\Q (.str (i++j)) H):=by
 rintro J s σ H x y v u Q I a b ⟨i,j,rfl,rfl,c,q⟩;obtain⟨t,rfl⟩:=a;obtain⟨t',rfl⟩:=b;exact add_str (λt' tk=>⟨.str (i++j),H,I.tok _,⟨_,rfl⟩,q⟩) c
theorem vals1{x:V}(r:Vals [x] us):∃u,us=[u]/\RelV x u:=by
 cases r with
 |cons a b=>cases b;exact⟨_,rfl,a⟩
theorem vals2{x:V}(r:Vals [x,y] us):∃u a,us=[u,a]/\RelV x u/\RelV y a:=by
 cases r with
 |cons b c =>
  cases c with
  |cons d e=>cases e;exact⟨_,_,rfl,b,d⟩
theorem BE:cX X (.builtin "abs") (λxs H Q=>∃i,xs=[.int i]/\Q (.int (if i<0 then -i else i)) H):=by
 rintro J s σ H xs us Q I r ⟨i,rfl,q⟩;obtain⟨u,rfl,t,rfl⟩:=vals1 r;exact call_abs_int λu tk=>⟨.int (if i<0 then -i else i),H,I.tok _,⟨_,rfl⟩,q⟩
theorem AQ(b:X.calm=true):cX X (.builtin "max") (λxs H Q=>∃i j,xs=[.int i,.int j]/\Q (.int (if j>i then j else i)) H):=by
 rintro J s σ H xs us Q I r ⟨i,j,rfl,q⟩;obtain⟨u,c,rfl,⟨t,rfl⟩,⟨t',rfl⟩⟩:=vals2 r;refine max_two_ints (I.ok.hd b) λh' tk k=>⟨_,H,I.kept k,?_,q⟩
 by_cases a:j>i
 ·rw[aF a,aF a];exact⟨_,rfl⟩
 ·rw[aq a,aq a];exact⟨_,rfl⟩
theorem AR(b:X.calm=true):cX X (.builtin "min") (λxs H Q=>∃i j,xs=[.int i,.int j]/\Q (.int (if j<i then j else i)) H):=by
 rintro J s σ H xs us Q I r ⟨i,j,rfl,q⟩;obtain⟨u,c,rfl,⟨t,rfl⟩,⟨t',rfl⟩⟩:=vals2 r;refine min_two_ints (I.ok.hd b) λh' tk k=>⟨_,H,I.kept k,?_,q⟩
 by_cases a:j<i
 ·rw[aF a,aF a];exact⟨_,rfl⟩
 ·rw[aq a,aq a];exact⟨_,rfl⟩
end
structure kT(h:Yl)(x dx C:E8)(mA:FF->Option i'):Prop where
 obj:h.get? x=ih (Yu C dx)
 ns:h.Ns1 dx mA
 ne:dx≠x
theorem pb{dx:E8}(n:h.Ns1 dx mA):∃od,h.get? dx=ih od /\∀name,Zp name od=ih (mA name):=by
 obtain⟨o,es,ep,c,d,f,_,g⟩:=n;refine⟨o,c,λname=>?_⟩;have e:=g name;unfold nsFind findBy at e;rw[<-UT]at e;unfold Zp;rw[d]
 dsimp only
 split
 ·rename_i y q
  rw[q]at e;exact c6 ih e
 ·rename_i q
  rw[q]at e;have a:es.toList.any (·.refKey)=false:=by
   rw[vW];intro y i;obtain⟨z,t,b⟩:=f y (Array.mem_toList_iff.mp i);simp[acR,b]
  have j : ¬ es.toList.any (·.refKey)=true:=by rw[a];exact cc
  rw[aq j];exact c6 ih e
theorem kT.look{x dx:E8}(I:kT h x dx C mA):∃od,PySem.W.InstAt h x (Yu C dx) C (ih od) /\∀name,Zp name od=ih (mA name):=
 let ⟨od,a,b⟩:=pb I.ns
 ⟨od,⟨I.obj,rfl,rfl,a⟩,b⟩
section
variable{x dx:E8}{v:i'}
theorem get_map(X:K.In s.heap)(I:kT s.heap x dx C mA)(b:Zl K C name=true)(c:Zw K C=true)
  (d:Yn K (.ref C) name=ih none) (e:mA name=ih v) (a:aam v=true) (h:Q v { s with toks:=s.toks+1 }) :
  UQ (U4 prog w) A (getAttr (.ref x) name Qs) Q E s:=by
 obtain⟨od,f,g⟩:=I.look;exact PySem.W.get_value X f (E3 b).1 (PySem.W.findObj_own c d rfl (by rw[g,e])) a h
theorem I7{pl:Zr Bool}{Q:i'×List i'->UN->Prop}(X:K.In s.heap)(I:kT s.heap x dx C mA)(a:Zl K C name=true)
  (b:Yn K (.ref C) name=ih (ih (.ref f))) (c:ZS K (.ref f)=true) (d:mA name=none) (h:Q (.ref f,[.ref x]) s) :
  UQ (U4 prog w) A (getMethod (.ref x) name pl) Q E s:=by
 obtain⟨od,e,g⟩:=I.look;exact PySem.W.method_fn X e (E3 a).1 (E3 a).2 b (dJ.mp c) (by show(Zp name od).map (·.isSome)=ih false;rw[g,d];rfl) h
theorem Kj{Q:Unit->UN->Prop}(X:K.In s.heap)(I:kT s.heap x dx C mA)
  (k:Yn K (.ref C) "__setattr__" = ih (ih (.builtin "object.__setattr__"))) (l:aab K C=true) (m:ZI K C name=ih none) (n:Zw K C=true)
  (o:YS mA ns) (hsz:ns.length<=UP)
  (h:∀h',kT h' x dx C (λy=>if y=name then ih v else mA y)->Yk dx s.heap h'->Q () { s with heap:=h',toks:=s.toks+2 }) :
  UQ (U4 prog w) A (setAttr (.ref x) name v) Q E s:=by
 obtain⟨od,e,z⟩:=I.look;refine UU X e k (PySem.W.osa_open (s:={ s with toks:=s.toks+1 }) (r:=none) X e l m λb=>?_);obtain⟨cd,p,f⟩:=PySem.W.any_some n;have q:s.heap.get? x=ih ⟨.ref C,ih dx,.plain,#[]⟩:=I.obj;refine ae (ao (ae (ae (vX q (ae (aby (s:={ s with toks:=s.toks+1 }) (PySem.W.looks_clsIn X p) ?_))))));rw[f];refine ao (a:=ih dx) (ae (ao (ae ?_)));refine wpAny_nsSet1 (s:={ s with toks:=s.toks+1 }) I.ns λh' c d=>?_;obtain⟨B,t,u,g,i,j⟩:=c.count (UW name v o);refine ae (wpAny_lookBehind g (by rw[i];exact pastItsLine_dict (en j (by rw[cV];omega))) ?_)
 exact ao (h _ ⟨(d.2 _ (aT I.ne)).trans I.obj,c,I.ne⟩ d)
theorem I8{R:ZL->UN->Prop}{vs:ac i'}(X:K.In s.heap)(a:aas K C=true)
  (hi:Yn K (.ref C) "__init__" = ih (ih (.ref f))) (b:PySem.W.typeIn K (.ref f)=ih (.type "function"))
  (h:codeAny (U4 prog w) (A.under (.builtin "type.__call__" ⟨.ref C::vs,kw⟩)) (.call (.ref f) ⟨.ref (s.aj+1)::vs,kw⟩) (PySem.W.InitBack (s.aj+1) R)
   { s with heap:=(s.heap.push Yg).push (Yu C s.aj) }) :
  codeAny (U4 prog w) A (.call (.ref C) ⟨vs,kw⟩) R s:=by
 obtain⟨c,g,d,t,os⟩:=s;exact PySem.W.make_core (PySem.W.makes_of X a) (PySem.W.looks_findIn X hi) (λself=>PySem.W.bind_fn X self b) (.inl rfl) h
end
def b6(f:FF)(v:V):List (FF×V)->List (FF×V)
 |[]=>[(f,v)]
 |(g,x)::r=>if g=f then (g,v)::r else (g,x)::b6 f v r
theorem Aa(f g:FF)(v:V):∀fs:ac (FF×V),(b6 f v fs).lookup g=if g=f then ih v else fs.lookup g
 |[]=>by
  show VP g [(f,v)]=_
  by_cases h:g=f
  ·have a:(g==f)=true:=dJ.mpr h
   simp only[VP,a,aF h]
  ·have a:(g==f)=false:=iJ.mpr h
   simp only[VP,a,aq h]
 |(k,x)::r=>by
  have c:=Aa f g v r;rw[show b6 f v ((k,x)::r)=(if k=f then (k,v)::r else (k,x)::b6 f v r) from rfl]
  by_cases b:k=f
  ·rw[aF b]
   by_cases h:g=k
   ·have a:(g==k)=true:=dJ.mpr h
    simp only[VP,a,aF (h.trans b)]
   ·have a:(g==k)=false:=iJ.mpr h
    simp only[VP,a,aq (λe:g=f=>h (e.trans b.symm))]
  ·rw[aq b]
   by_cases h:g=k
   ·have a:(g==k)=true:=dJ.mpr h
    simp only[VP,a,aq (λe:g=f=>b (h.symm.trans e))]
   ·have a:(g==k)=false:=iJ.mpr h
    simp only[VP,a];exact c
theorem sI(f:FF)(v:V):∀fs:ac (FF×V),f∈(b6 f v fs).map (·.1) /\∀g,g∈fs.map (·.1)->g∈(b6 f v fs).map (·.1)
 |[]=>⟨by simp[b6],λg h=>by simp at h⟩
 |(k,x)::r=>by
  obtain⟨b,c⟩:=sI f v r;rw[show b6 f v ((k,x)::r)=(if k=f then (k,v)::r else (k,x)::b6 f v r) from rfl]
  by_cases a:k=f
  ·rw[aF a]
   subst a;exact⟨by simp,λg h=>by simpa using h⟩
  ·rw[aq a]
   refine⟨?_,λg h=>?_⟩
   ·rw[b4]
    exact bc _ b
   ·rw[b4]at h⊢
    rcases bJ.mp h with e|e
    ·exact bJ.mpr (.inl e)
    ·exact bc _ (c g e)
theorem Ab(f:FF)(v:V):∀fs:ac (FF×V),(b6 f v fs).length<=fs.length+1
 |[]=>by simp[b6]
 |(k,x)::r=>by
  have b:=Ab f v r;rw[show b6 f v ((k,x)::r)=(if k=f then (k,v)::r else (k,x)::b6 f v r) from rfl]
  by_cases a:k=f
  ·rw[aF a,cV,cV];omega
  ·rw[aq a,cV,cV];omega
theorem ey.some_of{o:ad i'}(r:ey (ih v) o):∃u,o=ih u/\RelV v u:=by
 cases o with
 |none=>exact(show False from r).elim
 |some u=>exact⟨u,rfl,r⟩
theorem ey.none_of{o:ad i'}(r:ey none o):o=none:=by
 cases o with
 |none=>rfl
 |some u=>exact(show False from r).elim
theorem AS(r:RelV v u):aam u=true:=by
 cases v with
 |aO=>cases (show u=VQ from r);rfl
 |bl b=>cases (show u=YV b from r);rfl
 |int i=>obtain⟨t,e⟩:=(show ∃t,u=Zn i t from r);cases e;rfl
 |str x=>obtain⟨t,e⟩:=(show ∃t,u=Y8 x t from r);cases e;rfl
 |f7 b=>obtain⟨t,e⟩:=(show ∃t,u=abi b t from r);cases e;rfl
 |jW b=>obtain⟨t,e⟩:=(show ∃t,u=Z8 b t from r);cases e;rfl
 |ref a=>cases (show u=U6 a from r);rfl
 |ty n=>cases (show u=Ys n from r);rfl
section
variable{dx:E8}{fs Qo:ac (FF×V)}
theorem pR(b:cq P w H h)(e:H a=ih (.ins C dx fs)):∃mA,kT h a dx C mA/\(∀f,ey (fs.lookup f) (mA f))/\YS mA (fs.map (·.1))/\fs.length<=1000/\H dx=ih (.own a):=by
 obtain⟨d,z,ne,c,mA,n,r,q⟩:=(show bF P w H h a (.ins C dx fs) from b a _ e);exact⟨mA,⟨c,n,ne⟩,r,q,z,d⟩
end
structure gu(K:U3)(C:E8):Prop where
 pg:Zl K C Z1=true
 hd:Zw K C=true
 po:aab K C=true
 sa:Yn K (.ref C) "__setattr__" = ih (ih (.builtin "object.__setattr__"))
theorem gu.get(c:gu K C)(f:FF):Zl K C f=true:=c.pg
def ea(K:U3)(C:E8)(f:FF):Prop:=Yn K (.ref C) f=ih none
theorem ea.MR{f:FF}(n:ea K C f):ZI K C f=ih none:=by
 unfold ZI;rw[show Yn K (.ref C) f=ih none from n]
 rfl
structure Meth(K:U3)(C:E8)(m:FF)(f:E8):Prop where
 at_:Yn K (.ref C) m=ih (ih (.ref f))
 fn:ZS K (.ref f)=true
 kp:YG K (.ref f)=true
section
variable{dx:E8}{fs:ac (FF×V)}{f:FF}
theorem Al{b:Bool}(I:Inv X J σ H s)(e:H a=ih (.ins C dx fs))(c:gu X.K C)(n:ea X.K C f)(l:fs.lookup f=ih v)
  (h:∀u s',Inv X J σ H s'->RelV v u->Q u s'):UQ X.c5 A (getAttr (.ref a) f b) Q E s:=by
 obtain⟨mA,O,r,_,_,_⟩:=pR I.aI e;obtain⟨u,g,d⟩:=ey.some_of (v:=v) (o:=mA f) (by rw[<-l];exact r f)
 exact get_map I.bU O (c.get f) c.hd n g (AS d) (h u _ (I.tok _) d)
theorem Am{m:FF}{g:E8}{pl:Zr Bool}{Q:i'×List i'->UN->Prop}(I:Inv X J σ H s)(e:H a=ih (.ins C dx fs))(c:gu X.K C)(k:Meth X.K C m g)(l:fs.lookup m=none)
  (h:Q (.ref g,[.ref a]) s):UQ X.c5 A (getMethod (.ref a) m pl) Q E s:=by
 obtain⟨mA,O,r,_,_,_⟩:=pR I.aI e;have b:mA m=none:=ey.none_of (by rw[<-l];exact r m)
 exact I7 I.bU O (c.get m) k.at_ k.fn b h
theorem An{Q:Unit->UN->Prop}(I:Inv X J σ H s)(e:H a=ih (.ins C dx fs))(c:gu X.K C)(n:ea X.K C f)(w:fs.length<1000)(j:RelV y u)
  (h:∀s',Inv X J σ (upd H a (.ins C dx (b6 f y fs))) s'->Q () s'):UQ X.c5 A (setAttr (.ref a) f u) Q E s:=by
 obtain⟨mA,O,r,wi,_,i⟩:=pR I.aI e;have k:(fs.map (·.1)).length<=UP:=by rw[aE,aW];omega
 refine Kj I.bU O c.sa c.po n.MR c.hd wi k λh' d l=>h _ ?_;have m:∃o,h'.get? dx=ih o:=let ⟨o,_,_,p,_⟩:=d.ns;⟨o,p⟩;refine I.write (x:=a) (e:=dx) (by rw[e];exact VI) (.inr i) (λb q t z=>(l.2 b t).trans z) m ?_
 refine⟨by rw[ag O.ne];exact i,?_,O.ne,d.obj,_,d.ns,λg=>?_,λg v=>?_⟩
 ·have:=Ab f y fs;omega
 ·show ey ((b6 f y fs).lookup g) (if g=f then ih u else mA g)
  rw[Aa]
  by_cases q:g=f
  ·rw[aF q,aF q];exact j
  ·rw[aq q,aq q];exact r g
 ·by_cases q:g=f
  ·rw[q];exact(sI f y fs).1
  ·refine(sI f y fs).2 g (wi g λz=>v ?_)
   show(if g=f then ih u else mA g)=none;rw[aq q];exact z
theorem Inv.made(I:Inv X J σ H s):Inv X J σ (upd (upd H s.aj (.own (s.aj+1))) (s.aj+1) (.ins C s.aj []))
  { s with heap:=(s.heap.push Yg).push (Yu C s.aj) }:=by
 have e1:(s.heap.push Yg).get? s.aj=ih Yg:=bW s.heap rfl;have e2:((s.heap.push Yg).push (Yu C s.aj)).get? (s.aj+1)=ih (Yu C s.aj):=by
  have:=bW (s.heap.push Yg) (o:=Yu C s.aj) rfl
  rwa [hj]at this
 have e3:(s.heap.push Yg).Ns s.aj (λ_=>none):=⟨Yg,#[],_,e1,rfl,(λe c=>absurd c (by simp)),λ_=>rfl⟩
 have d:=I.laid (a:=s.aj) (o:=.own (s.aj+1)) (h':=s.heap.push Yg) (t':=s.toks) (λb u q=>a7 _ q) (aQ _) ⟨_,e1⟩;refine d.laid (a:=s.aj+1) (o:=.ins C s.aj []) (t':=s.toks) (λb u q=>a7 _ q) (abv (hj _ _)) ?_;have ne:s.aj≠s.aj+1:=bM (j8 _);refine⟨by rw[ag ne,af],bD _,ne,e2,λ_=>none,(Z9 e3).at λo q=>a7 _ q,λ_=>VI,λy f=>absurd rfl f⟩
theorem Cr{f:FF}(b:attributeBase e f env (eval e env)=eval e env)
  (h:UQ (U4 prog w) A (eval e env) (λo a=>UQ (U4 prog w) A (getAttr o f true) Q E a) E s):UQ (U4 prog w) A (eval (.Attribute e f pos) env) Q E s:=
 Attribute_any_ h (by rw[arm_eval_Attribute,b])
end
def u0(K:U3)(ta:TE)(f:FF):TE:=λσ H Q=>ta σ H λx Y=>∃a C dx fs v,x=.ref a/\Y a=ih (.ins C dx fs)/\gu K C/\ea K C f/\fs.lookup f=ih v/\Q v Y
def Ow(K:U3)(ta tv:TE)(f:FF):TS:=λD σ H=>tv σ H λy Y=>ta σ Y λx H2=>∃a C dx fs,x=.ref a/\H2 a=ih (.ins C dx fs)/\gu K C/\ea K C f/\fs.length<1000 /\
 D.nx σ (upd H2 a (.ins C dx (b6 f y fs)))
def u1(X:Cx)(op:ach)(rd:V->V->Hp->VK->Prop):Prop:=
 ∀J s σ H (x y:V) (u v:i') (Q:VK),Inv X J σ H s->RelV x u->RelV y v->rd x y H Q->wA X (inplaceOp op u v) (EP X J σ Q) X.xe s
def Kk(K:U3)(ta tv:TE)(rd:V->V->Hp->VK->Prop)(f:FF):TS:=λD σ H=>ta σ H λx Y=>∃a C dx fs v,x=.ref a/\Y a=ih (.ins C dx fs)/\gu K C/\ea K C f/\fs.lookup f=ih v /\
 tv σ Y λy H2=>rd v y H2 λz H3=>∃Et Qo,H3 a=ih (.ins C Et Qo)/\Qo.length<1000/\D.nx σ (upd H3 a (.ins C Et (b6 f z Qo)))
section
variable{o:VD}{f:FF}{Qx:Pos}
theorem cp(b:PE X e ta)(d:attributeBase e f X.env (eval e X.env)=eval e X.env):PE X (.Attribute e f pos) (u0 X.K ta f):=by
 intro J s σ H Q I h;refine Cr d (aG (b J s σ H _ I h) λu s1 p=>?_);obtain⟨x,Y,g,i,a,C,dx,fs,v,ex,j,c,n,l,q⟩:=p;subst ex;obtain rfl:u=U6 a:=i;exact Al g j c n l λo s2 k m=>⟨v,Y,k,m,q⟩
theorem fY(b:PE X o ta)(d:PE X value tv)(e:swapsWith value (ih (.Attribute o f Qh)) pos.line X.env=pure false):PS X (.Assign [.Attribute o f Qh] value pos) (Ow X.K ta tv f):=by
 intro J s σ H D I h;refine UX (aG (d J s σ H _ I h) λu s1 ⟨y,Y,g,i,q⟩=>aG (b J s1 σ Y _ g q) λj s2 w=>?_) e;obtain⟨x,H2,k,m,a,C,dx,fs,ex,p,c,n,l,r⟩:=w;subst ex;obtain rfl:j=U6 a:=m;exact An k p c n l i λv t=>⟨σ,_,t,r⟩
theorem ni{op:ach}{b:V->V->Hp->VK->Prop}(g:PE X o ta)(i:PE X value tv)(d:u1 X op b):PS X (.AugAssign (.Attribute o f Qx) op value pos) (Kk X.K ta tv b f):=by
 intro J s σ H D I h;refine wpAny_AugAssign_AttributeAny (aG (g J s σ H _ I h) λj s1 U=>?_);obtain⟨x,Y,k,m,a,C,dx,fs,v,ex,p,c,n,l,q⟩:=U;subst ex;obtain rfl:j=U6 a:=m;refine Al k p c n l λu s2 r t=>aG (i J s2 σ Y _ r q) λw A ⟨y,H2,B,E,F⟩=>aG (d J A σ H2 v y u w _ B t E F) λQ R U=>?_;obtain⟨z,S,G,L,P,Qo,e,M,N⟩:=U;exact An G e c n M L λT O=>⟨σ,_,O,N⟩
def Ox:V->V->Hp->VK->Prop:=λx y H Q=>∃i j,x=.int i/\y=.int j/\Q (.int (i+j)) H
theorem qa:u1 X .Add Ox:=by
 rintro J s σ H x y u v Q I a b ⟨i,j,rfl,rfl,q⟩;obtain⟨t,rfl⟩:=(show ∃t,u=Zn i t from a);obtain⟨t',rfl⟩:=(show ∃t',v=Zn j t' from b);exact ab5 ⟨.int (i+j),H,I.tok _,⟨_,rfl⟩,q⟩
end
section
variable{c:i'}{b:Bool}
inductive gJ(K:U3)(H:Hp):V->i'->Prop where
 |aO:gJ K H .aO (.type "NoneType")
 |bl (x:Bool):gJ K H (.bl x) (.type "bool")
 |int (i:Int):gJ K H (.int i) (.type "int")
 |str (x:FF):gJ K H (.str x) (.type "str")
 |jW (x:UInt64):gJ K H (.jW x) (.type "float")
 |lst {a:E8}{xs:List V} (e:H a=ih (.lst xs)):gJ K H (.ref a) (.type "list")
 |bw {a:E8}{o:YO}{xs:List V} (e:H a=ih (.bw o (.lst xs))):gJ K H (.ref a) (.type "list")
 |tup {a:E8}{xs:List V} (e:H a=ih (.tup xs)):gJ K H (.ref a) (.type "tuple")
 |dK {a:E8}{kvs:List (Key×V)} (e:H a=ih (.dK kvs)):gJ K H (.ref a) (.type "dict")
 |dT {a:E8}{kvs:List (List Key×V)} (e:H a=ih (.dT kvs)):gJ K H (.ref a) (.type "dict")
 |ins {a C dx:E8}{fs:List (FF×V)} (e:H a=ih (.ins C dx fs)) (cl:gu K C) (ha:Yn K (.ref C) "__class__" = ih (ih (.builtin "object.__class__")))
   (hn:PySem.W.specialIn K (.builtin "object.__class__") "__get__" = ih (ih (.builtin "getset_descriptor.__get__"))) (V2:PySem.W.takesIn K (.builtin "object.__class__")=ih true)
   (hm:PySem.W.mroIn K C (.type "object")=ih true):gJ K H (.ref a) (.ref C)
theorem H9{x:V}{t:i'}(I:Inv X J σ H s)(d:RelV x u)(ty:gJ X.K H x t)(e:PySem.W.kitOne X.K t c=ih b)(h:∀tk,Q (.bool b) { s with toks:=tk }) :
  UQ X.c5 A (call (.builtin "isinstance") [u,c]) Q E s:=by
 cases ty with
 |aO=>cases (show u=VQ from d);exact iK PySem.W.kitx_none I.bU VI e (λz=>nomatch z) h
 |bl y=>cases (show u=YV y from d);exact iK PySem.W.kitx_bool I.bU VI e (λz=>nomatch z) h
 |int i=>obtain⟨t,q⟩:=(show ∃t,u=Zn i t from d);cases q;exact iK PySem.W.kitx_int I.bU VI e (λz=>nomatch z) h
 |str y=>obtain⟨t,q⟩:=(show ∃t,u=Y8 y t from d);cases q;exact iK PySem.W.kitx_str I.bU VI e (λz=>nomatch z) h
 |jW y=>obtain⟨t,q⟩:=(show ∃t,u=Z8 y t from d);cases q;exact iK PySem.W.kitx_float I.bU VI e (λz=>nomatch z) h
 |@lst a xs f =>
  cases (show u=U6 a from d)
  obtain⟨_,_,n,_,h1⟩:=(show bF X.prog X.w H s.heap a (.lst xs) from I.aI a _ f);exact iK UY I.bU ⟨_,h1,rfl⟩ e (λz=>nomatch z) h
 |@bw a k xs f =>
  cases (show u=U6 a from d)
  obtain⟨_,_,_,n,_,h1⟩:=(show bF X.prog X.w H s.heap a (.bw k (.lst xs)) from I.aI a _ f);exact iK UY I.bU ⟨_,h1,rfl⟩ e (λz=>nomatch z) h
 |@tup a xs f =>
  cases (show u=U6 a from d)
  obtain⟨_,_,_,p⟩:=(show bF X.prog X.w H s.heap a (.tup xs) from I.aI a _ f);obtain⟨o,h1,h2,_⟩:=p;exact iK PySem.W.kitx_tuple I.bU ⟨o,h1,h2⟩ e (λz=>nomatch z) h
 |@dK a kvs f =>
  cases (show u=U6 a from d)
  obtain⟨_,_,vs,_,p⟩:=(show bF X.prog X.w H s.heap a (.dK kvs) from I.aI a _ f);obtain⟨o,es,ep,h1,h2,_⟩:=p;exact iK UZ I.bU ⟨o,h1,h2.1⟩ e (λz=>nomatch z) h
 |@dT a kvs f =>
  cases (show u=U6 a from d)
  obtain⟨_,_,xs,_,o,es,ep,h1,h2,_⟩:=(show bF X.prog X.w H s.heap a (.dT kvs) from I.aI a _ f);exact iK UZ I.bU ⟨o,h1,h2.1⟩ e (λz=>nomatch z) h
 |@ins a C dx fs f g l m j r =>
  cases (show u=U6 a from d)
  obtain⟨mA,O,_⟩:=pR I.aI f;obtain⟨od,v,_⟩:=O.look;exact iK (PySem.W.kitx_own (g.get _) g.hd l m j r) I.bU v e (λz=>nomatch z) h
end
structure a4(k:Nat)(A:Yy):Prop where
 hd:A.handled=none
 dp:A.depth+3 * k+5<recursionLimit
 un:A.units+16 * k+200<Y'
 gd:A.guards=ih []
theorem a4.mono{k:Nat}(r:a4 k A)(h:j<=k):a4 j A:=⟨r.hd,by have:=r.dp;omega,by have:=r.un;omega,r.gd⟩
theorem a4.deeper{k:Nat}(r:a4 (k+1) A)(env:Zz):a4 k (A.deeper env):=
 ⟨r.hd,by have:=r.dp;show A.depth+1+3 * k+5<_;omega,by have:=r.un;show A.units+3+16 * k+200<_;omega,by first|exact r.gd|simp[Around.deeper,r.gd]⟩
theorem Hj:(A.under (.builtin "type.__call__" ⟨.ref C::us,kw⟩)).depth=A.depth+1:=by
 first|rfl|simp[ZA,Code.weight,Code.isCreation,abo,Code.isCaller,abx,Z2,guardIds]
theorem Hk:(A.under (.builtin "type.__call__" ⟨.ref C::us,kw⟩)).units=A.units+1:=by
 first|rfl|simp[ZA,Code.cUnits,abx,Z2]
theorem GN(h:A.guards=ih []):(A.under (.builtin "type.__call__" ⟨.ref C::us,kw⟩)).guards=ih []:=by
 first|exact h|(simp[ZA,Code.guards,abo,guardIds,pushGuards,h])
theorem a4.make{k:Nat}(r:a4 (k+1) A)(C:E8)(us:ac i')(kw:ac (FF×i')):a4 k (A.under (.builtin "type.__call__" ⟨.ref C::us,kw⟩)):=
 ⟨r.hd,by have:=r.dp;rw[Hj];omega,by have:=r.un;rw[Hk];omega,GN r.gd⟩
theorem a4.depth{k:Nat}(r:a4 k A):A.depth<recursionLimit:=by have:=r.dp;omega
theorem a4.units{k:Nat}(r:a4 k A):A.units+64<Y':=by have:=r.un;omega
def u2:TA:=λ_ H Q=>Q [] H
def ux(ta:TE)(tr:TA):TA:=λσ H Q=>ta σ H λx Y=>tr σ Y λxs H2=>Q (x::xs) H2
section
variable{t:TA}
theorem ai:PA X [] u2:=λ_ _ _ _ H Q I h=>aau ⟨[],H,I,.nil,h⟩
theorem aa(a:PE X e te)(b:PA X es t)(c:Ve (e::es) X.env=(false,eval e X.env)::Ve es X.env:=by rfl):PA X (e::es) (ux te t):=by
 intro pos J s σ H Q I h;rw[c];show UQ _ _ (spliced ((false,eval e X.env)::backTo pos (Ve es X.env))) _ _ s;refine aap (aG (a J s σ H _ I h) λu s1 l=>?_);obtain⟨x,Y,d,f,g⟩:=l;exact aG (b pos J s1 σ Y _ d g) λus s2 ⟨xs,H2,i,j,k⟩=>⟨x::xs,H2,i,.cons f j,k⟩
def Oy(t:TA):TE:=λσ H Q=>t σ H λxs Y=>xs.length<=UP /\∀p,Y p=none->Q (.ref p) (upd Y p (.tup xs))
def Oz(t:TA):TE:=λσ H Q=>t σ H λxs Y=>xs.length<=UP /\∀p,Y p=none->Q (.ref p) (upd Y p (.lst xs))
theorem b9{c}(h:PA X es t):PE X (.Tuple es c pos) (Oy t):=by
 intro J s σ H Q I d;refine wpAny_Tuple_spliced (aG (h pos J s σ H _ I d) λus s1 ⟨xs,Y,a,r,z,q⟩=>⟨by rw[<-r.length];exact z,?_⟩)
 have f:Y s1.aj=none:=a.aI.fresh (aQ _);refine⟨.ref s1.aj,upd Y s1.aj (.tup xs),a.laid (t':=s1.toks) (λb u e=>a7 _ e) (aQ _) ?_,rfl,q _ f⟩;exact⟨z,us,r,⟨_,bW _ rfl,rfl,_,rfl,rfl⟩⟩
theorem eu(h:PA X es t):PE X (.List es pos) (Oz t):=by
 intro J s σ H Q I c;refine wpAny_List_spliced (aG (h pos J s σ H _ I c) λus s1 ⟨xs,Y,a,r,z,q⟩=>⟨by rw[<-r.length];exact z,?_⟩)
 have d:Y s1.aj=none:=a.aI.fresh (aQ _);refine⟨.ref s1.aj,upd Y s1.aj (.lst xs),a.laid (t':=s1.toks) (λb u e=>a7 _ e) (aQ _) ?_,rfl,q _ d⟩;exact⟨z,us,0,r,bW _ rfl⟩
end
abbrev Sp:=List V->Hp->VK->XK->Prop
end L2
variable{sp:L2.Sp}
namespace L2
open Spec PyProof.Rows
abbrev gL:=List Zz->Hp->UN->XK->i'->UN->Prop
structure kU(P:Yq)(w:Yw)(K:U3)(mg:FF->Option i')(base:Yl)(A:Yy)(outer:List Zz)(s:UN)(H:Hp):Prop where
 frames:A.frames=ih outer
 mod:Mod K mg base
 bs:∀b o,base.get? b=ih o->s.heap.get? b=ih o/\H b=none
 hY:base.objs.size<=s.aj
 fA:s.heap.FunFrames base outer
 iE:∀b∈ef outer,H b=none
 aI:cq P w H s.heap
 bare:Zo s.gens
def CE(outer:List Zz)(P:Yq)(w:Yw)(H:Hp)(s:UN)(Q:VK)(u:i')(s':UN):Prop:=
 ∃v H',s'.os=s.os/\Zo s'.gens/\Un (ef outer) [] H H' s.heap s'.heap/\cq P w H' s'.heap/\RelV v u/\Q v H'
def CR(CX:gL)(outer:List Zz)(P:Yq)(w:Yw)(H:Hp)(s:UN)(Q:VK)(E:XK)(r:ZL)(s':UN):Prop:=
 match r with
 |.ok (.ret u)=>CE outer P w H s Q u s'
 |.ok _=>False
 |.error e=>CX outer H s E e s'
structure aU(P:Yq)(w:Yw)(K:U3)(mg:FF->Option i')(base:Yl)(CX:gL)(k:Nat)(f:E8)(fd:Ye)(ps:List FF)(sp:Sp):Prop where
 len:∀vs H Q E,sp vs H Q E->vs.length=ps.length
 run:∀(A:Yy) (outer:List Zz) (s:UN) (H:Hp) (args:Args) (us:List i') (vs:List V) (Q:VK) (E:XK),a4 k A->kU P w K mg base A outer s H->Z0 s fd args (ps.zip us)->Vals vs us->sp vs H Q E ->
  codeAny (U4 P w) A (.call (.ref f) args) (CR CX outer P w H s Q E) s
theorem kU.make(e:kU P w K mg base A outer s H)(C:E8)(us:ac i')(kw:ac (FF×i')) :
  kU P w K mg base (A.under (.builtin "type.__call__" ⟨.ref C::us,kw⟩)) outer s H:=⟨by first|exact e.frames|(simpa [ZA,Code.envs,Z2,pushEnvs] using e.frames),e.mod,e.bs,e.hY,e.fA,e.iE,e.aI,e.bare⟩
theorem Inv.qF(I:Inv X J σ H s):kU X.prog X.w X.K X.mg X.base X.A X.stack s H:=
 ⟨I.ok.frames,I.ok.mod,I.bs,en I.ok.hY I.sz,I.stack,I.tD,I.aI,I.bare⟩
theorem Inv.after{Q:VK}(I:Inv X J σ H s)(h:CE X.stack X.prog X.w H s Q u s'):EP X J σ Q u s':=by
 obtain⟨v,H',os,a,un,c,r,q⟩:=h;obtain⟨f,g,d,t,e⟩:=s';obtain rfl:e=s.os:=os;exact⟨v,H',I.call (h':=f) (g':=g) (d':=d) (t':=t) (ch:=[]) un c a (λb z=>absurd z (by simp)),r,q⟩
def uy(sp:Sp)(Qj:List V)(E:XK)(t:TA):TE:=λσ H Q=>t σ H λvs Y=>sp (vs++Qj) Y Q E
def Dm(C:E8)(m:FF)(sp:Sp)(Qj:List V)(E:XK)(ta:TE)(t:TA):TE:=λσ H Q=>ta σ H λx Y=>∃a dx fs,x=.ref a/\Y a=ih (.ins C dx fs)/\fs.lookup m=none /\
 t σ Y λvs H2=>sp (x::(vs++Qj)) H2 Q E
def MS(C:E8)(sp:Sp)(Qj:List V)(E:XK)(t:TA):TE:=λσ H Q=>t σ H λvs Y=>∀x dx,Y x=none->Y dx=none->dx≠x ->
 sp (.ref x::(vs++Qj)) (upd (upd Y dx (.own x)) x (.ins C dx [])) (λv H2=>v=.aO/\Q (.ref x) H2) E
def Binds(K:U3)(fd:Ye)(ps:List FF)(ds:List i'):Prop:=
 ∀(s:UN) (us:List i'),K.In s.heap->(us++ds).length=ps.length->Z0 s fd ⟨us,[]⟩ (ps.zip (us++ds))
theorem Binds.all(h:∀us:ac i',us.length=ps.length->bindArgs fd ⟨us,[]⟩=pure (ps.zip us)):Binds K fd ps []:=λs us _ a=>by
 rw[eZ]at a⊢;exact .of_eq (h us a)
def Passes(CX:gL)(X:Cx)(E:XK):Prop:= ∀(J:List (E8×YO)) (σ:St) (H:Hp) (s:UN) (e:i') (s':UN),Inv X J σ H s->CX X.stack H s E e s'->X.xe e s'
section
variable{CX:gL}{k:Nat}{Qj:ac V}{ds:ac i'}{E:XK}{m:FF}{p:Pos}{o:VD}{t:TA}
theorem uc{Q:VK}(F:aU X.prog X.w X.K X.mg X.base CX k f fd ps sp)(c:a4 k X.A)(d:Binds X.K fd ps ds)(g:Vals Qj ds)(i:Passes CX X E)
  (I:Inv X J σ H s) (r:Vals vs us) (h:sp (vs++Qj) H Q E):wA X (call (.ref f) us) (EP X J σ Q) X.xe s:=by
 have b:Vals (vs++Qj) (us++ds):=r.append g;have j:(us++ds).length=ps.length:=by rw[<-b.length];exact F.len _ _ _ _ h
 refine j9 (ly (F.run X.A X.stack s H ⟨us,[]⟩ (us++ds) (vs++Qj) Q E c I.qF (d s us I.bU j) b h) λr s' a=>?_);cases r with
 |error e=>exact i J σ H s e s' I a
 |ok l =>
  cases l with
  |ret u=>exact I.after a
  |next=>exact Vr a
  |brk=>exact Vr a
  |cont=>exact Vr a
theorem fV(F:aU X.prog X.w X.K X.mg X.base CX k f fd ps sp)(d:a4 k X.A)(g:Gl X x)(i:X.mg x=ih (.ref f))(j:YG X.K (.ref f)=true)(l:Binds X.K fd ps ds)(m:Vals Qj ds)(n:Passes CX X E)
  (o:PA X (e::es) t) (b:(x==("__debug__" : FF))=false:=by decide) (u:Ve (e::es) X.env=(false,eval e X.env)::Ve es X.env:=by rfl) (c:(backTo pos (Ve es X.env)).any (·.1)=false:=by rfl) :
  PE X (.Call (.Name x p) (e::es) [] pos) (uy sp Qj E t):=by
 intro J s σ H Q I h;refine mV (l2 I g i ?_ b);refine E4 (h₀:=X.base) I.ok.mod.lb j (aG (o pos J s σ H _ I h) λus s1 ⟨vs,Y,a,r,q⟩=>⟨a.bU,?_⟩) u c;exact uc F d l m n a r q
theorem hF{pl:Zr Bool}(p:PE X o ta)(c:gu X.K C)(b:Meth X.K C m f)(F:aU X.prog X.w X.K X.mg X.base CX k f fd ps sp)(v:a4 k X.A)(y:Binds X.K fd ps ds)(z:Vals Qj ds)(B:Passes CX X E)(D:PA X (e::es) t)
  (j:Ve (e::es) X.env=(false,eval e X.env)::Ve es X.env:=by rfl) (n:(backTo pos (Ve es X.env)).any (·.1)=false:=by rfl)
  (G:eval (.Call (.Attribute o m Qe) (e::es) [] pos) X.env=(do
   let d <- eval o X.env
   standAt Qe.atName
   let (f,first) <- holding [d] (getMethod d m pl)
   callWith pos f first (backTo pos (Ve (e::es) X.env)) (backToKw pos (keywordEach [] X.env))):=by rfl) :
  PE X (.Call (.Attribute o m Qe) (e::es) [] pos) (Dm C m sp Qj E ta t):=by
 intro J s σ H Q I h;refine U0 (pl:=pl) (aG (p J s σ H _ I h) λu s1 O=>?_) G;obtain⟨x,Y,g,L,a,dx,fs,ex,M,l,q⟩:=O;subst ex;obtain rfl:u=U6 a:=L;refine Am g M c b l ?_;refine E4 (first:=[.ref a]) (h₀:=X.base) I.ok.mod.lb b.kp (aG (D pos J s1 σ Y _ g q) λus s2 ⟨vs,H2,i,r,N⟩=>⟨i.bU,?_⟩) j n;exact uc (us:=.ref a::us) (vs:=.ref a::vs) F v y z B i (.cons rfl r) N
theorem I9{pl:Zr Bool}(g:PE X o ta)(c:gu X.K C)(d:Meth X.K C m f)(F:aU X.prog X.w X.K X.mg X.base CX k f fd ps sp)(i:a4 k X.A)(j:Binds X.K fd ps ds)(n:Vals Qj ds)(p:Passes CX X E)
  (r:eval (.Call (.Attribute o m Qe) [] [] pos) X.env=(do
   let e <- eval o X.env
   standAt Qe.atName
   let (f,first) <- holding [e] (getMethod e m pl)
   callWith pos f first (backTo pos (Ve [] X.env)) (backToKw pos (keywordEach [] X.env))):=by rfl) :
  PE X (.Call (.Attribute o m Qe) [] [] pos) (Dm C m sp Qj E ta u2):=by
 intro J s σ H Q I h;refine U0 (pl:=pl) (aG (g J s σ H _ I h) λu s1 y=>?_) r;obtain⟨x,Y,b,t,a,dx,fs,ex,v,l,q⟩:=y;subst ex;obtain rfl:u=U6 a:=t;refine Am b v c d l ?_;exact PySem.W.callWith_K0 (first:=[.ref a]) b.bU d.kp (uc (us:=[.ref a]) (vs:=[.ref a]) F i j n p b (.cons rfl .nil) q)
structure Mk(K:U3)(C f:E8):Prop where
 makes:aas K C=true
 init:Yn K (.ref C) "__init__" = ih (ih (.ref f))
 fn:ZS K (.ref f)=true
 kp:YG K (.ref C)=true
theorem I'{Q:VK}(M:Mk X.K C f)(F:aU X.prog X.w X.K X.mg X.base CX k f fd ps sp)(g:a4 (k+1) X.A)(i:Binds X.K fd ps ds)(j:Vals Qj ds)
  (l:Passes CX X E) (I:Inv X J σ H s) (r:Vals vs us)
  (h:∀x dx,H x=none->H dx=none->dx≠x->sp (.ref x::(vs++Qj)) (upd (upd H dx (.own x)) x (.ins C dx [])) (λv H2=>v=.aO/\Q (.ref x) H2) E) :
  wA X (call (.ref C) us) (EP X J σ Q) X.xe s:=by
 have c:=h (s.aj+1) s.aj (I.aI.fresh (gc _)) (I.aI.fresh (aQ _)) (bM (j8 _));have b:=Inv.made (C:=C) I;have d:Vals (V.ref (s.aj+1)::(vs++Qj)) (U6 (s.aj+1)::(us++ds)):=.cons rfl (r.append j);have m:(U6 (s.aj+1)::us++ds).length=ps.length:=by
  have e:=d.length;rw[F.len _ _ _ _ c]at e;exact e.symm
 refine j9 (I8 (f:=f) I.bU M.makes M.init (dJ.mp M.fn) (ly (F.run _ X.stack _ _ ⟨U6 (s.aj+1)::us,[]⟩ (U6 (s.aj+1)::(us++ds)) _ _ E (g.make C us [])
  (b.qF.make C us []) (i _ (U6 (s.aj+1)::us) b.bU m) d c) λr s' a=>?_))
 cases r with
 |error e=>exact l J σ _ _ e s' b a
 |ok n =>
  cases n with
  |ret u =>
   obtain⟨v,H',o,p,q,t⟩:=b.after a;subst q;exact⟨p,⟨V.ref (s.aj+1),H',o,rfl,t⟩⟩
  |next=>exact Vr a
  |brk=>exact Vr a
  |cont=>exact Vr a
theorem tF(M:Mk X.K C f)(F:aU X.prog X.w X.K X.mg X.base CX k f fd ps sp)(d:a4 (k+1) X.A)(g:Gl X x)(i:X.mg x=ih (.ref C))(j:Binds X.K fd ps ds)(l:Vals Qj ds)(m:Passes CX X E)
  (n:PA X (e::es) t) (b:(x==("__debug__" : FF))=false:=by decide) (o:Ve (e::es) X.env=(false,eval e X.env)::Ve es X.env:=by rfl) (c:(backTo pos (Ve es X.env)).any (·.1)=false:=by rfl) :
  PE X (.Call (.Name x p) (e::es) [] pos) (MS C sp Qj E t):=by
 intro J s σ H Q I h;refine mV (l2 I g i ?_ b);refine E4 (h₀:=X.base) I.ok.mod.lb M.kp (aG (n pos J s σ H _ I h) λus s1 ⟨vs,Y,a,r,q⟩=>⟨a.bU,?_⟩) o c;exact I' M F d j l m a r q
end
structure bj(N P:List FF)(sc:Zf):Prop where
 kind:sc.kind=.function
 co:sc.isCoroutine=false
 gen:sc.isGenerator=false
 nd:N.Nodup
 pre:N.take P.length=P
 par:∀x∈P,sc.names.lookup x=ih .local\/sc.names.lookup x=ih .cell
 LR:∀y∈sc.names,y.2 ≠ .free
theorem AU{kindOf:FF->Option YC}{x:FF}:∀{binds:ac (FF×i')}{m:FF->Option i'},(∀v,(x,v)∉ binds)->bindL kindOf binds m x=m x
 |[],_,_=>rfl
 |(n,v)::r,m,h=>by
  unfold bindL;rw[AU λw a=>h w (bc _ a)];split
  ·have:x≠n:=by rintro rfl;exact h v aY
   simp[this]
  ·rfl
theorem AV{kindOf:FF->Option YC}{x:FF}:∀{binds:ac (FF×i')}{m:FF->Option i'},(∀v,(x,v)∉ binds)->bindC kindOf binds m x=m x
 |[],_,_=>rfl
 |(n,v)::r,m,h=>by
  unfold bindC;rw[AV λw a=>h w (bc _ a)];split
  ·rfl
  ·have:x≠n:=by rintro rfl;exact h v aY
   simp[this]
theorem AW{kindOf:FF->Option YC}{x:FF}{v:i'}:∀{P:ac FF}{vs:ac i'}{i:Nat}{m:FF->Option i'},P.Nodup->P[i]?=ih x->vs[i]?=ih v->kindOf x=ih .local ->
  bindL kindOf (P.zip vs) m x=ih v
 |[],_,_,_,_,h,_,_=>by simp at h
 |_::_,[],_,_,_,_,h,_=>by simp at h
 |p::P,w::vs,0,m,a,h1,h2,b=>by
  simp at h1 h2;subst h1;subst h2;show bindL kindOf ((p,w)::P.zip vs) m p=_;unfold bindL;rw[AU λv c=>(d8.mp a).1 (E5 c).1,aF b];simp
 |p::P,w::vs,i+1,m,a,h1,h2,b=>by
  show bindL kindOf ((p,w)::P.zip vs) m x=_;unfold bindL;exact AW (i:=i) (d8.mp a).2 (by simpa using h1) (by simpa using h2) b
theorem AX{kindOf:FF->Option YC}{x:FF}{v:i'}:∀{P:ac FF}{vs:ac i'}{i:Nat}{m:FF->Option i'},P.Nodup->P[i]?=ih x->vs[i]?=ih v->kindOf x≠ih .local ->
  bindC kindOf (P.zip vs) m x=ih v
 |[],_,_,_,_,h,_,_=>by simp at h
 |_::_,[],_,_,_,_,h,_=>by simp at h
 |p::P,w::vs,0,m,a,h1,h2,b=>by
  simp at h1 h2;subst h1;subst h2;show bindC kindOf ((p,w)::P.zip vs) m p=_;unfold bindC;rw[AV λv c=>(d8.mp a).1 (E5 c).1,aq b];simp
 |p::P,w::vs,i+1,m,a,h1,h2,b=>by
  show bindC kindOf ((p,w)::P.zip vs) m x=_;unfold bindC;exact AX (i:=i) (d8.mp a).2 (by simpa using h1) (by simpa using h2) b
def start(N:List FF)(vs:List V):St:=vs.map ih++YL (N.length - vs.length) none
def d5(CX:gL)(P:Yq)(w:Yw)(K:U3)(mg:FF->Option i')(base:Yl)(N:List FF)(qual:FF)(scope:Zf)(f:E8)(cd:i')(A:Yy)(outer:List Zz)(s:UN)(H:Hp)(E:XK):Cx where
 prog:=P
 w:=w
 K:=K
 mg:=mg
 base:=base
 A:=A.deeper (envOfC qual scope s.aj f cd)
 N:=N
 ec:=s
 gX:=H
 env:=envOfC qual scope s.aj f cd
 outer:=outer
 stack:=envOfC qual scope s.aj f cd::outer
 ex:=[]
 calm:=true
 fn:=λ_=>true
 pn:=[]
 xe:=λe s'=>UQ (U4 P w) (A.deeper (envOfC qual scope s.aj f cd)) (leaving (envOfC qual scope s.aj f cd) e) (λ_ vt=>CX outer H s E e vt) (λe' vt=>CX outer H s E e' vt) s'
theorem sU{n:Nat}(h:sc.names.lookup x=ih .cell):∃c,(cellsFrom n sc.names []).lookup x=ih c:=by
 have q:=U1 sc.names n [] (.inl h);exact rP.mp q
theorem Ia{CX:gL}{E:XK}
  (S:bj N ps scope) (o:A.handled=none) (e0:kU P w K mg base A outer s H) (D:vs.length=ps.length) (r:Vals vs us)
  (x:InCallC s s.heap.objs.size (bindL (envOfC qual scope s.heap.objs.size f cd).kindOf (ps.zip us) λ_=>none) (cellsFrom (s.heap.objs.size+1) scope.names []) (bindC (envOfC qual scope s.heap.objs.size f cd).kindOf (ps.zip us) λ_=>none) s1) :
  Inv (d5 CX P w K mg base N qual scope f cd A outer s H E) [] (start N vs) H s1:=by
 have C:ps.length<=N.length:=by have:=c6 Zk S.pre;rw[cK]at this;omega
 obtain⟨h1,tk,rfl,l⟩:=x.done;have g:∀b:E8,b ∉ (d5 CX P w K mg base N qual scope f cd A outer s H E).ex:=λb z=>absurd (show b∈([]:ac E8) from z) (by simp)
 refine⟨⟨e0.mod,S.kind,rfl,rfl,aQ _,λy z c h1 h2=>?_,λy hy=>?_,λy c _ h=>?_,λ_=>o,Around.frames_deeper e0.frames,.inr ⟨rfl,rfl⟩,λb z=>absurd z (g b),e0.bs,e0.hY,λb _ _=>g b,λb z=>absurd z (g b),e0.fA,e0.iE⟩,
  rfl,e0.bare,Un.kept l,⟨_,x.toInCall.ns,λi y v h1 h2 F=>?_⟩,λy c h=>⟨_,x.cell y c h⟩,e0.aI.fresh (aQ _),λy c h=>?_,λp d=>absurd (show p∈([]:ac (E8×YO)) from d) (by simp),e0.aI.kept l,?_⟩
 ·exact name_of_addr x.apart (jk h1) (jk h2)
 ·have hy:scope.names.lookup y=ih .cell\/scope.names.lookup y=ih .free:=hy
  rcases hy with hy|hy
  ·exact sU hy
  ·exact absurd rfl (S.LR _ (jk hy))
 ·exact oM (x.above y c (jk h))
 ·have hi:i<vs.length:=by
   unfold start at h2
   by_cases hi:i<vs.length
   ·exact hi
   ·rw[U2 (by simpa using hi)]at h2
    rw[List.getElem?_replicate]at h2;split at h2 <;> cases h2
  have t:vs[i]?=ih v:=by
   unfold start at h2;rw[E6 (by simpa using hi),cL]at h2
   cases e:vs[i]? with
   |none=>rw[e]at h2;cases h2
   |some a=>rw[e]at h2;cases h2;rfl
  obtain⟨u,m,B⟩:=r.get t;have d:ps[i]?=ih y:=by
   rw[<-S.pre,List.getElem?_take_of_lt (by omega)];exact h1
  have j:ps.Nodup:=by rw[<-S.pre];exact S.nd.sublist (jl _ _)
  refine⟨u,B,?_⟩;rcases S.par y (eO d) with k|k
  ·exact .inl ⟨k,AW j d m k⟩
  ·obtain⟨c,e⟩:=sU (n:=s.heap.objs.size+1) k
   refine .inr ⟨.inl k,c,e,?_⟩;have q:=x.cell y c e;rw[AX j d m (by show scope.names.lookup y≠_;rw[k];decide)]at q
   exact q
 ·exact e0.aI.fresh (oM (x.above y c (jk h)))
 ·unfold start
  show _=N.length;rw[bX,aE,vY];omega
theorem uz{CX:gL}{k:Nat}{i:Arguments}{p kV:i'}(lk:K.lookup f=ih ⟨oc,od,.func (Yv name qual i body scope p kV Qc pm an Qa ct),Qm⟩)(D:Y7 K Qa qual=true)(S:bj N ps scope)
  (j:∀vs H Q E,sp vs H Q E->vs.length=ps.length)
  (B:∀(A:Yy) (outer:ac Zz) (s:UN) (H:Hp) (vs:ac V) (Q:VK) (E:XK),a4 k (A.deeper (envOfC qual scope s.aj f Qa))->sp vs H Q E ->
   ∃t,di (d5 CX P w K mg base N qual scope f Qa A outer s H E) body t/\t { nx:=λ_ H'=>Q .aO H',rt:=Q } (start N vs) H) :
  aU P w K mg base CX (k+1) f (Yv name qual i body scope p kV Qc pm an Qa ct) ps sp:=by
 refine⟨j,λA outer s H args us vs Q E g e0 G r l=>?_⟩;have J:=j _ _ _ _ l;have z:K.In s.heap:=e0.mod.lb.keeps λb o e=>(e0.bs b o e).1;have F:s.heap.NoLimit:=e0.mod.nolimit.keeps λb o e=>(e0.bs b o e).1;have C:∀y∈ps.zip us,scope.names.lookup y.1=ih .local\/(scope.names.lookup y.1=ih .cell/\((cellsFrom (s.aj+1) scope.names []).lookup y.1).isSome=true):=λ⟨n,v⟩ L=>by
  rcases S.par n (E5 L).1 with q|q
  ·exact .inl q
  ·exact .inr ⟨q,U1 _ _ _ (.inl q)⟩
 refine codeAny_call_function g.depth (z _ _ lk) rfl S.co S.gen rfl (PySem.W.codeRec_of z D) (G _ _ _ _ ?_);refine wpAny_newFunctionEnv_cells S.kind C λenv M s1 x=>?_;subst M;refine⟨F.keeps x.toInCall.keep,codeAny_func ?_⟩;obtain⟨t,O,R⟩:=B A outer s H vs Q E (g.deeper _) l;have I:Inv (d5 CX P w K mg base N qual scope f Qa A outer s H E) [] (start N vs) H s1:=Ia S g.hd e0 J r x;refine h8 (O [] s1 (start N vs) H _ I R) (λT s' c=>?_) λe s' c=>c;have m:∀{d:St}{H':Hp}{v:V}{u:i'},Inv (d5 CX P w K mg base N qual scope f Qa A outer s H E) [] d H' s'->RelV v u->Q v H'->CE outer P w H s Q u s':=
  λ{d H' v u} a h q=>⟨v,H',a.os,a.bare,a.base,a.aI,h,q⟩
 cases T with
 |ret u =>
  obtain⟨v,d,H',a,h,q⟩:=c;exact m a h q
 |next =>
  obtain⟨d,H',a,q⟩:=c;exact m (v:=V.aO) (u:=VQ) a rfl q
 |brk =>
  obtain⟨_,_,_,q⟩:=c;exact Vr q
 |cont =>
  obtain⟨_,_,_,q⟩:=c;exact Vr q
section
variable{p:Pos}{t:TA}{id:String}{r:ac V->Hp->VK->Prop}
def Eu(r:List V->Hp->VK->Prop)(t:TA):TE:=λσ H Q=>t σ H λvs Y=>r vs Y Q
theorem bV(c:cX X (.builtin id) r)(d:Gl X x)(f:X.mg x=none)(g:Vv x=ih (.builtin id))(i:PA X (e::es) t)(j:x ≠ "__name__" :=by decide)(a:(x==("__debug__" : FF))=false:=by decide)
  (k:Ve (e::es) X.env=(false,eval e X.env)::Ve es X.env:=by rfl) (b:(backTo pos (Ve es X.env)).any (·.1)=false:=by rfl):PE X (.Call (.Name x p) (e::es) [] pos) (Eu r t):=by
 intro J s σ H Q I h;refine mV (kG I d f g ?_ j a);exact E7 (aG (i pos J s σ H _ I h) λus s1 ⟨vs,Y,l,m,n⟩=>c J s1 σ Y vs us Q l m n) k b
theorem dy(c:cX X (.type T) r)(d:Gl X x)(f:X.mg x=none)(g:Vv x=ih (.type T))(i:PA X (e::es) t)(j:x ≠ "__name__" :=by decide)(a:(x==("__debug__" : FF))=false:=by decide)
  (k:Ve (e::es) X.env=(false,eval e X.env)::Ve es X.env:=by rfl) (b:(backTo pos (Ve es X.env)).any (·.1)=false:=by rfl):PE X (.Call (.Name x p) (e::es) [] pos) (Eu r t):=by
 intro J s σ H Q I h;refine mV (kG I d f g ?_ j a);exact vV (aG (i pos J s σ H _ I h) λus s1 ⟨vs,Y,l,m,n⟩=>c J s1 σ Y vs us Q l m n) k b
end
end L2
namespace HT
open PyProof.Rows
section
open SeqAt
open AutoSeq1 (wpAny_loadPart')
open MeetsSeq MeetsSeq2 MeetsSeq3
end
theorem Kl{t:E8}{vs ws:ac i'}(p:YJ s.heap t vs.toArray)(q:YJ s.heap b ws.toArray)(j:vs ≠ [])
  (h1:ws=[]->Q (.ref t) s) (h2:ws ≠ []->Q (.ref s.aj) { s with heap:=s.heap.push { cls:=.type "tuple",data:=.seq (vs++ws).toArray } })
  (hsz:vs.length+ws.length<=UP):UQ (U4 prog w) A (YB .Add (.ref t) (.ref b)) Q E s:=by
 obtain⟨⟨cls,k,data,sl⟩,c,l,n,m⟩:=id p;obtain⟨⟨r,f,data2,g⟩,a,h,o,i⟩:=id q;simp only at l m h i;subst l m h i;have e:vs.toArray++ws.toArray=(vs++ws).toArray:=by simp
 by_cases d:ws=[]
 ·exact concat_meets ⟨_,c,rfl⟩ ⟨_,a,rfl⟩ E9 E' Fb Fc (Fd _ _)
   (tuple_addW1 t b vs.toArray ws.toArray n o k f sl g (by simpa using j) (by simp[d])) ⟨c,a,h1 d⟩
 ·refine concat_meets ⟨_,c,rfl⟩ ⟨_,a,rfl⟩ E9 E' Fb Fc (Fd _ _)
   (tuple_addW2 t b vs.toArray ws.toArray n o k f sl g (by simpa using j) (by simpa using d) (by rw[b2,b2];exact hsz)) ⟨c,a,?_⟩
  rw[e];exact h2 d
def bq(n d:Nat):Option Int->Nat
 |none=>d
 |some v=>if v<0 then (v+(n:Int)).toNat else min v.toNat n
theorem Ja(n d:Nat):bq n d none=d:=rfl
theorem Km(n d k:Nat):bq n d (ih (k:Int))=min k n:=by
 show(if (k:Int)<0 then ((k:Int)+(n:Int)).toNat else min (k:Int).toNat n)=min k n;rw[aq (by omega),gy]
theorem LS(n d:Nat)(b:d<=n)(o:ad Int):bq n d o<=n:=by
 cases o with
 |none=>exact b
 |some v =>
  show(if v<0 then (v+(n:Int)).toNat else min v.toNat n)<=n
  by_cases a:v<0
  ·rw[aF a];omega
  ·rw[aq a];exact Nat.min_le_right _ _
theorem Cs(v:Int)(n d:Nat):(if v<0 then max (v+(n:Int)) 0 else min v (n:Int))=((bq n d (ih v):Nat):Int):=by
 show(if v<0 then max (v+(n:Int)) 0 else min v (n:Int))=(((if v<0 then (v+(n:Int)).toNat else min v.toNat n):Nat):Int)
 by_cases a:v<0
 ·simp only[aF a];omega
 ·simp only[aq a];omega
theorem Hl(lo hi:ad Int)(n:Nat):Y2 lo hi 1 (n:Int)=(((bq n 0 lo:Nat):Int),((bq n n hi:Nat):Int)):=by
 have h1 : ¬ ((1:Int)<0):=by omega
 unfold Y2;simp only[h1,kb];refine vZ ?_ ?_
 ·cases lo with
  |none=>rfl
  |some v=>exact Cs v n 0
 ·cases hi with
  |none=>rfl
  |some v=>exact Cs v n n
theorem Hm(i j:Nat):YE (i:Int) (j:Int) 1=j - i:=by
 unfold YE;have h1:(1:Int)>0:=by omega
 simp only[h1,hA,Int.ediv_one];split <;> omega
theorem Ao{v:i'}{o:ad Int}{Q:ad Int->UN->Prop}(p:ZC v o)(h:Q o s):UQ (U4 prog w) A (abI v) Q E s:=by
 cases p with
 |none=>exact slicePart_none h
 |int i t=>exact slicePart_int h
theorem w1{lo:ad Int}{n:Nat}{Q:Int×Int×Nat->UN->Prop}(c:s.heap.IsSliceOf sl vl vu .none)(pl:ZC vl lo)(d:ZC vu hi)
  (h:Q (((bq n 0 lo:Nat):Int),1,bq n n hi - bq n 0 lo) s):UQ (U4 prog w) A (Zx (.ref sl) (pure (n:Int))) Q E s:=by
 obtain⟨os,a,e,b⟩:=id c;unfold Zx abJ;refine ae (ae (lz a b (x:=vl) rfl (ae (lz a b (x:=vu) rfl (ae (lz a b (x:=.none) rfl (ao ?_)))))));refine ae (slicePart_none ?_);show UQ _ _ (if ((1:Int)==0)=true then _ else _) _ _ s;rw[aq (by decide)]
 refine ae (Ao pl (ae (Ao d (ae (ao ?_)))));show UQ _ _ (match Y2 lo hi 1 (n:Int) with|(lo,hi)=>pure (lo,(1:Int),YE lo hi 1)) _ _ s;rw[Hl lo hi n];show UQ _ _ (pure (((bq n 0 lo:Nat):Int),(1:Int),YE ((bq n 0 lo:Nat):Int) ((bq n n hi:Nat):Int) 1)) _ _ s;rw[Hm];exact ao h
theorem Jb(xs:Array i')(i k:Nat):((VS k).filterMap λ(m:Nat)=>xs[((i:Int)+(m:Int) * 1).toNat]?).toArray=((xs.toList.drop i).take k).toArray:=by
 have e:(λ(m:Nat)=>xs[((i:Int)+(m:Int) * 1).toNat]?)=λm=>xs[i+m]?:=by
  funext m
  have:((i:Int)+(m:Int) * 1).toNat=i+m:=by omega
  rw[this]
 rw[e];have:=pick_run xs i k;rw[List.filterMap_map]at this;have e2:((λx=>xs[x]?) ∘ λx=>i+x)=λm=>xs[i+m]?:=rfl;rw[e2]at this;rw[this]
theorem F8{t:E8}{lo:ad Int}(b:YJ s.heap t items)(c:s.heap.IsSliceOf sl vl vu .none)(pl:ZC vl lo)(i:ZC vu hi)
  (j : ¬ (bq items.size 0 lo=0/\bq items.size items.size hi=items.size))
  (h:Q (.ref s.heap.objs.size) { s with heap:=s.heap.push { cls:=.type "tuple",data:=.seq ((items.toList.drop (bq items.size 0 lo)).take (bq items.size items.size hi - bq items.size 0 lo)).toArray } })
  (hsz:items.size<=UP):UQ (U4 prog w) A (getItem (.ref t) (.ref sl)) Q E s:=by
 have a:sizeOk (.seq ((items.toList.drop (bq items.size 0 lo)).take (bq items.size items.size hi - bq items.size 0 lo)).toArray):=by
  show((items.toList.drop (bq items.size 0 lo)).take (bq items.size items.size hi - bq items.size 0 lo)).toArray.size<=UP;rw[b2,cK,mW,gb];omega
 have l:bq items.size items.size hi<=items.size:=LS _ _ (aQ _) hi;obtain⟨os,d,e,k⟩:=id c;have f:s.TypeIs (.ref sl) "slice" :=⟨os,d,e⟩;unfold getItem
 try with_reducible refine er ?_
 first|refine ae (ao ?_)|skip
 refine ae (wpAny_sequenceKey b.typeIs (by decide) ?_)
 refine ae (rQ (name:=YD "__getitem__") b.typeIs oP
  (h9 oP b.typeIs entry_tuple_getitem ?_ (args_tuple_getitem _ _)))
 show UQ _ _ (YX (.ref t) >>= _) _ _ s;refine ae (tupleItemsOf_ b ?_);refine ae (jm f ?_);rw[aF (by decide)]
 refine ae (w1 c pl i ?_);have g : ¬ ((((bq items.size 0 lo:Nat):Int)==0&&(1:Int)==1&&(bq items.size items.size hi - bq items.size 0 lo)==items.size)=true):=by
  intro q;rw[gP,gP]at q;have n:((bq items.size 0 lo:Nat):Int)=0:=eq_of_beq q.1.1;have o:bq items.size items.size hi - bq items.size 0 lo=items.size:=eq_of_beq q.2;exact j ⟨by omega,by omega⟩
 show UQ _ _ (if (((bq items.size 0 lo:Nat):Int)==0&&(1:Int)==1&&(bq items.size items.size hi - bq items.size 0 lo)==items.size)=true then _ else _) _ _ s;rw[aq g,Jb]
 first
  |exact ae (m:=YH _) (fQ (ao ⟨_,rfl,ao h⟩) a)
  |exact ae (m:=YH _) (fQ (ae (ao (ao ⟨_,rfl,ao h⟩))) a)
  |exact ae (ae (m:=YH _) (fQ (ao (ao ⟨_,rfl,ao h⟩)) a))
  |exact ae (ae (m:=YH _) (fQ (ao ⟨_,rfl,ao h⟩) a))
end HT
namespace L2
open Spec PyProof.Rows
abbrev TO:=St->Hp->(Option Int->Hp->Prop)->Prop
def PO(X:Cx)(e:Option VD)(t:TO):Prop:=
 ∀J s σ H (Q:Option Int->Hp->Prop),Inv X J σ H s->t σ H Q ->
  wA X (evalPart e X.env) (λu s'=>∃o H',Inv X J σ H' s'/\ZC u o/\Q o H') X.xe s
def Kn:TO:=λ_ H Q=>Q none H
def MT(t:TE):TO:=λσ H Q=>t σ H λx Y=>∃i,x=.int i/\Q (ih i) Y
section
variable{lo hi:ad VD}{tl th:TO}{p2:Pos}
theorem iX:PO X none Kn:=by
 intro J s σ H Q I h;rw[Fe];exact ao ⟨none,H,I,.none,h⟩
theorem ij(h:PE X e te):PO X (ih e) (MT te):=by
 intro J s σ H Q I a;rw[evalPart_some];refine aG (h J s σ H _ I a) λu s1 f=>?_;obtain⟨x,Y,b,c,d⟩:=f;obtain⟨i,rfl,q⟩:=d;obtain⟨t,rfl⟩:=c;exact⟨ih i,Y,b,.int i t,q⟩
def mJ(X:Cx)(r:V->Option Int->Option Int->Hp->VK->Prop):Prop:=
 ∀J s σ H (x:V) (v vl vu:i') (lo hi:Option Int) (sl:E8) (Q:VK),Inv X J σ H s->RelV x v->s.heap.IsSliceOf sl vl vu .none->ZC vl lo->ZC vu hi->r x lo hi H Q ->
  ∃T id,typeLookup (.type T) "__getitem__" = pure (ih (.builtin id))/\s.TypeIs v T/\wA X (getItem v (.ref sl)) (EP X J σ Q) X.xe s
def PN(r:V->Option Int->Option Int->Hp->VK->Prop)(te:TE)(tl th:TO):TE:=λσ H Q=>te σ H λx Y=>tl σ Y λl H2=>th σ H2 λu H3=>r x l u H3 Q
theorem iR{r:V->Option Int->Option Int->Hp->VK->Prop}(d:mJ X r)(f:PE X e te)(g:PO X lo tl)(i:PO X hi th):PE X (.Subscript e (.Slice lo hi none p2) pos) (PN r te tl th):=by
 intro J s σ H Q I h;refine Z6 (aG (f J s σ H _ I h) λv s1 E=>?_);obtain⟨x,Y,j,k,m⟩:=E;refine wpAny_Slice (aG (g J s1 σ Y _ j m) λvl s2 ⟨l,H2,n,o,p⟩=>aG (i J s2 σ H2 _ n p) λvu a E=>?_);obtain⟨u,c,t,w,y⟩:=E;rw[Fe];refine ao ?_;have z:Inv X J σ c { a with heap:=a.heap.push { cls:=.type "slice",data:=.fields #[vl,vu,.none] } }:=t.kept (t':=a.toks) λb D q=>a7 _ q;obtain⟨T,id,A,B,C⟩:=d J { a with heap:=a.heap.push { cls:=.type "slice",data:=.fields #[vl,vu,.none] } } σ c x v vl vu l u a.aj Q z k (ZN ..) o w y;show wA X (subscriptTail e (.Slice lo hi none p2) v (.ref a.aj)) (EP X J σ Q) X.xe { a with heap:=a.heap.push { cls:=.type "slice",data:=.fields #[vl,vu,.none] } };exact tail_any (ops:=[.ref a.aj,v]) B A C (by with_unfolding_all rfl)
def fH(xs:List V)(lo hi:Option Int):List V:=(xs.drop (HT.bq xs.length 0 lo)).take (HT.bq xs.length xs.length hi - HT.bq xs.length 0 lo)
theorem Ac(xs:ac V)(lo hi:ad Int):(fH xs lo hi).length<=xs.length:=by
 unfold fH;rw[cK,mW];omega
def OA(K:U3):V->Option Int->Option Int->Hp->VK->Prop:=λx lo hi H Q=>∃a xs,x=.ref a/\aA K H a xs /\
 ¬ (HT.bq xs.length 0 lo=0/\HT.bq xs.length xs.length hi=xs.length) /\∀p,H p=none->Q (.ref p) (upd H p (.tup (fH xs lo hi)))
theorem LU:mJ X (OA X.K):=by
 rintro J s σ H x v vl vu lo hi sl Q I f g i j ⟨a,xs,rfl,k,l,q⟩;cases f
 obtain⟨its,r,d,e⟩:=I.tuple k;have c:its.toArray.size=xs.length:=by rw[b2];exact r.length.symm
 refine⟨"tuple",_,oP.lookup,d.typeIs,?_⟩;refine HT.F8 d g i j (by rw[c];exact l) ?_ (by rw[c];exact e)
 rw[c];refine⟨.ref s.aj,_,I.laid (t':=s.toks) (o:=.tup (fH xs lo hi)) (λb m q=>a7 _ q) (aQ _) ?_,rfl,q _ (I.aI.fresh (aQ _))⟩;exact⟨en (Ac xs lo hi) e,_,(r.drop (HT.bq xs.length 0 lo)).take (HT.bq xs.length xs.length hi - HT.bq xs.length 0 lo),i8.new _ _⟩
def MU(K:U3):R2:=λx y H Q=>∃a b xs ys,x=.ref a/\y=.ref b/\aA K H a xs/\aA K H b ys/\xs ≠ []/\xs.length+ys.length<=UP /\
 (ys=[]->Q (.ref a) H)/\(ys ≠ [] ->∀p,H p=none->Q (.ref p) (upd H p (.tup (xs++ys))))
theorem Vals.tG(r:Vals xs us):us=[] ↔ xs=[]:=by
 cases r with
 |nil=>simp
 |cons _ _=>simp
theorem Ko:cu X (YB .Add) (MU X.K):=by
 rintro J s σ H x y v u Q I f g ⟨a,b,xs,ys,rfl,rfl,i,j,k,e,l,m⟩;cases f
 cases g
 obtain⟨its,d,n,_⟩:=I.tuple i;obtain⟨p,c,p2,_⟩:=I.tuple j;refine HT.Kl n p2 (λz=>k (d.tG.mp z)) (λz=>⟨.ref a,H,I,rfl,l (c.tG.mp z)⟩) (λz=>?_) (by rw[<-d.length,<-c.length];exact e)
 refine⟨.ref s.aj,_,I.laid (t':=s.toks) (o:=.tup (xs++ys)) (λb r q=>a7 _ q) (aQ _) ?_,rfl,m (λw=>z (c.tG.mpr w)) _ (I.aI.fresh (aQ _))⟩;exact⟨by rw[bX];exact e,_,d.append c,i8.new _ _⟩
end
def jf(n:Nat)(i:Int):Option Nat:=if 0<=i then (if i<n then ih i.toNat else none) else if -(n:Int)<=i then ih (i+n).toNat else none
def cZ{α:Type}(xs:List α)(i:Int):Option α:=(jf xs.length i).bind λj=>xs[j]?
theorem Ct{n:Nat}{i:Int}(h:jf n i=ih j):seqIndex? i n=ih j/\j<n /\ -(n:Int)<=i/\i<n:=by
 unfold jf at h
 by_cases h0:0<=i
 ·rw[aF h0]at h
  by_cases h1:i<n
  ·rw[aF h1]at h
   have e:i.toNat=j:=cJ h;exact⟨by rw[v7 h0 h1,e],by omega,by omega,h1⟩
  ·rw[aq h1]at h;cases h
 ·rw[aq h0]at h
  by_cases h1 : -(n:Int)<=i
  ·rw[aF h1]at h
   have e:(i+n).toNat=j:=cJ h;exact⟨by rw[seqIndex_neg (by omega) h1,e],by omega,h1,by omega⟩
  ·rw[aq h1]at h;cases h
theorem tH{α:Type}{xs:ac α}{i:Int}{v:α}(h:cZ xs i=ih v):∃j,seqIndex? i xs.length=ih j/\xs[j]?=ih v/\j<xs.length /\ -(xs.length:Int)<=i/\i<xs.length:=by
 unfold cZ at h;cases e:jf xs.length i with
 |none=>rw[e]at h;cases h
 |some j =>
  rw[e]at h;obtain⟨h1,h2,a,b⟩:=Ct e;exact⟨j,h1,h,h2,a,b⟩
theorem cw{α:Type}{xs:ac α}{v:α}(h:xs[j]?=ih v):cZ xs (j:Int)=ih v:=by
 have a:j<xs.length:=(b3.mp h).1;have e:jf xs.length (j:Int)=ih j:=by
  unfold jf;rw[aF (by omega),aF (by omega)];simp
 unfold cZ;rw[e];exact h
theorem Jc{α:Type}(xs:ac α)(v:α):cZ (xs++[v]) (-1)=ih v:=by
 have a:(xs++[v]).length=xs.length+1:=by simp
 have e:jf (xs++[v]).length (-1)=ih xs.length:=by
  unfold jf;rw[a,aq (by decide),aF (by omega)]
  congr 1
  omega
 unfold cZ;rw[e];show(xs++[v])[xs.length]?=ih v;simp
def Kq(b:VD):Prop:= ∀o i,subscripted b false o i=operate [o,i] (getItem o i)
def mK(X:Cx)(r:R2):Prop:=
 ∀(value slice:VD) J s σ H (x y:V) (v u:i') (Q:VK),Inv X J σ H s->RelV x v->RelV y u->r x y H Q ->
  subscripted slice false v u=operate [v,u] (getItem v u)->wA X (subscriptTail value slice v u) (EP X J σ Q) X.xe s
def vw(X:Cx)(id:String)(r:V->List V->Hp->VK->Prop):Prop:=
 ∀J s σ H (x:V) (xs:List V) (v:i') (us:List i') (Q:VK),Inv X J σ H s->RelV x v->Vals xs us->r x xs H Q ->
  wA X (call (.builtin id) (v::us)) (EP X J σ Q) X.xe s
section
variable{a b:VD}{tb:TE}
theorem aV{r:R2}(c:mK X r)(d:PE X a ta)(e:PE X b tb)(f:Kq b:=by exact λ_ _=>rfl):PE X (.Subscript a b pos) (j1 r ta tb):=by
 intro J s σ H Q I h;exact Z6 (uY d e I h λv u s2 x y H2 g i j q=>c a b J s2 σ H2 x y v u Q g i j q (f _ _))
def DO(K:U3):R2:=λx y H Q=>∃p xs i v,x=.ref p/\y=.int i/\ak K H p xs/\cZ xs i=ih v/\Q v H
def qG(K:U3):R2:=λx y H Q=>∃p xs i v,x=.ref p/\y=.int i/\aA K H p xs/\cZ xs i=ih v/\Q v H
def OB:R2:=λx y H Q=>∃z i c,x=.str z/\y=.int i/\z.length<=UP/\cZ z.cps.toList i=ih c/\Q (.str ⟨#[c]⟩) H
theorem dA:mK X (DO X.K):=by
 intro value B J s σ H x y v u Q I g k h d;obtain⟨p,xs,i,z,rfl,rfl,l,m,q⟩:=h;cases g
 obtain⟨t,rfl⟩:=k;obtain⟨its,r,a,C⟩:=I.list l;obtain⟨j,h1,h2,D,n,o⟩:=tH m;obtain⟨w,e,f⟩:=r.get h2;have A:=r.length;have E:=kK;have c:EP X J σ Q w s:=⟨z,H,I,f,q⟩
 by_cases h0:0<=i
 ·have b:i.toNat=j:=by
   rw[v7 h0 o]at h1;exact cJ h1
  exact item_listR a.isList h0 (by omega) (by rw[b];simpa using e) c d
 ·have b:(i+(its.toArray.size:Int)).toNat=j:=by
   rw[seqIndex_neg (by omega) n]at h1
   rw[b2,<-A];exact cJ h1
  exact subscriptTail_builtinR (x:=w) a.isList.typeIs Ff.lookup
   (wpAny_getItem_list_neg (Q:=λr s'=>r=w/\EP X J σ Q r s') a.isList (by omega) (by rw[b2] <;> omega) (by omega) (by rw[b];simpa using e) ⟨rfl,c⟩) d
theorem bp:mK X (qG X.K):=by
 intro value n J s σ H x y v u Q I d e h f;obtain⟨p,xs,i,z,rfl,rfl,g,k,q⟩:=h;cases d
 obtain⟨t,rfl⟩:=e;obtain⟨its,r,a,o⟩:=I.tuple g;obtain⟨j,h1,h2,A,B,C⟩:=tH k;obtain⟨w,l,b⟩:=r.get h2;have m:=r.length;have D:=kK;have c:EP X J σ Q w s:=⟨z,H,I,b,q⟩;exact subscriptTail_builtinR (x:=w) a.typeIs slot_tuple_getitem.lookup
  (getItem_tuple (j:=j) (Q:=λr s'=>r=w/\EP X J σ Q r s') a (by omega) (by omega) (by rw[b2,<-m];exact h1) (by simpa using l) ⟨rfl,c⟩) f
theorem C2:mK X OB:=by
 intro value l J s σ H x y v u Q I a b h d;obtain⟨z,i,c,rfl,rfl,m,e,q⟩:=h;obtain⟨t,rfl⟩:=a;obtain⟨t',rfl⟩:=b;obtain⟨j,h1,h2,n,f,g⟩:=tH e;have k:z.cps.toList.length=z.length:=by simp[aci]
 rw[k]at h1 f g;have o:=kK;exact tail_any (typeIs_str s z t) slot_str_getitem.lookup (getItem_str (c:=c) (by
  have e1:decide (i < -(2 ^ 63:Int))=false:=ej (by omega)
  have e2:decide (i ≥ 2 ^ 63)=false:=ej (by omega)
  rw[e1,e2,Fg]) (by rw[h1];simpa using h2) ⟨.str ⟨#[c]⟩,H,I.tok _,⟨_,rfl⟩,q⟩) d
theorem Hn(its:ac i')(n j:Nat)(u:i'):V0 (·.setIfInBounds j u) { cls:=.type "list",data:=.seq its.toArray n }={ cls:=.type "list",data:=.seq (its.set j u).toArray n }:=by
 simp[V0]
theorem Inv.lst{J:ac (E8×YO)}{σ:St}{H:Hp}{s:UN}{p:E8}{xs:ac V}(I:Inv X J σ H s)(h:H p=bd xs) :
  ∃(its:ac i') (n:Nat),Vals xs its/\s.heap.get? p=ih { cls:=.type "list",data:=.seq its.toArray n }/\xs.length<=UP:=by
 obtain⟨z,its,n,r,e⟩:=I.aI p _ h;exact⟨its,n,r,e,z⟩
theorem Inv.LV{ys:ac V}{its':ac i'}{n a:Nat}{f:YO->YO}(I:Inv X J σ H s)(h:H p=bd xs)
  (d:s.heap.get? p=ih { cls:=.type "list",data:=.seq its.toArray n }) (c:f { cls:=.type "list",data:=.seq its.toArray n }={ cls:=.type "list",data:=.seq its'.toArray a }) (r:Vals ys its') (hz:ys.length<=UP) (t:Nat) :
  Inv X J σ (upd H p (.lst ys)) { s with heap:=s.heap.update p f,toks:=t }:=by
 have e:(s.heap.update p f).get? p=ih { cls:=.type "list",data:=.seq its'.toArray a }:=by
  rw[oQ f d (by rw[c] <;> rfl),c]
 refine I.write (x:=p) (e:=p) (by rw[h];trivial) (.inl rfl) (λb u g q=>(kc _ _ (aT g)).trans q) ⟨_,e⟩ ?_
 exact⟨hz,its',a,r,e⟩
def MV:V->V->V->Hp->(Hp->Prop)->Prop:=λo i v H Q=>∃p xs k j,o=.ref p/\i=.int k/\H p=ih (.lst xs)/\jf xs.length k=ih j/\Q (upd H p (.lst (xs.set j v)))
theorem set_list:DI X MV:=by
 rintro J s σ H o i v z A u Q I l m w ⟨p,xs,k,j,rfl,rfl,d,x,q⟩;cases l
 obtain⟨t,rfl⟩:=m;obtain⟨its,n,r,a,y⟩:=I.lst d;obtain⟨h1,h2,e,f⟩:=Ct x;have b:=r.length;have B:=kK;have g:Inv X J σ (upd H p (.lst (xs.set j v))) { s with heap:=s.heap.update p (V0 (·.setIfInBounds j u)) }:=
  I.LV d a (Hn its n j u) (r.set w j) (by rw[aaO];exact y) s.toks
 by_cases h0:0<=k
 ·have c:k.toNat=j:=by
   rw[v7 h0 f]at h1;exact cJ h1
  exact PySem.W.ki_setAt a h0 (by omega) (by rw[b2,<-b];exact f) (by rw[c];exact⟨_,g,q⟩)
 ·have c:(k+(its.toArray.size:Int)).toNat=j:=by
   rw[seqIndex_neg (by omega) e]at h1
   rw[b2,<-b];exact cJ h1
  exact PySem.W.ki_setBack a (by omega) (by rw[b2,<-b];exact e) (by omega) (by rw[c];exact⟨_,g,q⟩)
theorem Gr(lo hi:ad Int)(n:Nat):(sliceBounds lo hi none n).1=((HT.bq n 0 lo:Nat):Int)/\(sliceBounds lo hi none n).2.1=((HT.bq n n hi:Nat):Int)/\(sliceBounds lo hi none n).2.2=1:=by
 refine⟨?_,?_,rfl⟩
 ·cases lo with
  |none=>simp[sliceBounds,HT.bq]
  |some i =>
   simp only[sliceBounds,HT.bq,aat,show(1:Int)>0 by decide,hA]
   by_cases h:i<0
   ·simp only[h,hA] <;> omega
   ·simp only[h,kb] <;> omega
 ·cases hi with
  |none=>simp[sliceBounds,HT.bq]
  |some i =>
   simp only[sliceBounds,HT.bq,aat,show(1:Int)>0 by decide,hA]
   by_cases h:i<0
   ·simp only[h,hA] <;> omega
   ·simp only[h,kb] <;> omega
theorem Gj(its:ac i')(lo hi:ad Int):slicePick its.toArray lo hi none=((its.drop (HT.bq its.length 0 lo)).take (HT.bq its.length its.length hi - HT.bq its.length 0 lo)).toArray:=by
 obtain⟨h1,h2,a⟩:=Gr lo hi its.toArray.size;unfold slicePick;rw[h1,h2,a];simp only[sliceRange_one,pick_run,b2] <;> rfl
def DP(K:U3):V->Option Int->Option Int->Hp->VK->Prop:=λx lo hi H Q=>∃a xs,x=.ref a/\ak K H a xs /\∀p,H p=none->Q (.ref p) (upd H p (.lst (fH xs lo hi)))
theorem l4:mJ X (DP X.K):=by
 rintro J s σ H x v vl vu lo hi sl Q I e f g i ⟨a,xs,rfl,j,q⟩;cases e
 obtain⟨its,r,c,k⟩:=I.list j;have d:=r.length;refine⟨"list",_,Ff.lookup,c.isList.typeIs,?_⟩;refine U5 c.isList f g i .none (by simp) ?_ (by rw[b2] <;> omega)
 rw[Gj,<-d];refine⟨.ref s.heap.objs.size,_,I.laid (t':=s.toks) (o:=.lst (fH xs lo hi)) (λb l q=>a7 _ q) (aQ _) ?_,rfl,q _ (I.aI.fresh (aQ _))⟩;exact⟨en (Ac xs lo hi) k,_,0,(r.drop (HT.bq xs.length 0 lo)).take (HT.bq xs.length xs.length hi - HT.bq xs.length 0 lo),bW _ rfl⟩
def iw:V->Bool
 |.aO=>true
 |.bl _=>true
 |.int _=>true
 |.str _=>true
 |_=>false
def j2:V->V->Bool
 |.aO,.aO=>true
 |.bl a,.bl b=>a==b
 |.bl a,.int b=>(if a then 1 else 0)==b
 |.int a,.bl b=>a==(if b then 1 else 0)
 |.int a,.int b=>a==b
 |.str a,.str b=>a==b
 |_,_=>false
theorem LW{x:V}{v:i'}(d:RelV y u)(c:RelV x v)(f:iw y=true)(e:iw x=true):abr A s u v (j2 y x):=by
 cases y with
 |aO =>
  cases d
  cases x with
  |aO=>cases c;exact acw _
  |bl b=>cases c;exact acz b
  |int b=>obtain⟨t,rfl⟩:=c;exact acy b t
  |str b=>obtain⟨t,rfl⟩:=c;exact acx b t
  |_=>exact absurd (show false=true from e) cc
 |bl a =>
  cases d
  cases x with
  |aO=>cases c;exact acE a
  |bl b=>cases c;exact acG a b
  |int b=>obtain⟨t,rfl⟩:=c;exact acF a b t
  |str b=>obtain⟨t,rfl⟩:=c;exact acD a b t
  |_=>exact absurd (show false=true from e) cc
 |int a =>
  obtain⟨t',rfl⟩:=d;cases x with
  |aO=>cases c;exact acA a t'
  |bl b=>cases c;exact acC a t' b
  |int b=>obtain⟨t,rfl⟩:=c;exact acB a t' b t
  |str b=>obtain⟨t,rfl⟩:=c;exact ZW a t' b t
  |_=>exact absurd (show false=true from e) cc
 |str a =>
  obtain⟨t',rfl⟩:=d;cases x with
  |aO=>cases c;exact acu a t'
  |bl b=>cases c;exact acv a t' b
  |int b=>obtain⟨t,rfl⟩:=c;exact ZV a t' b t
  |str b=>obtain⟨t,rfl⟩:=c;exact acs a t' b t
  |_=>exact absurd (show false=true from e) cc
 |_=>exact absurd (show false=true from f) cc
def e7(x:V)(u:i'):Bool:=match u with
 |.none=>j2 .aO x
 |.bool b=>j2 (.bl b) x
 |.int i _=>j2 (.int i) x
 |.str z _=>j2 (.str z) x
 |_=>false
theorem qb{x:V}(r:RelV y u)(f:iw y=true):e7 x u=j2 y x:=by
 cases y with
 |aO=>cases r;rfl
 |bl b=>cases r;rfl
 |int i=>obtain⟨t,rfl⟩:=r;rfl
 |str z=>obtain⟨t,rfl⟩:=r;rfl
 |_=>exact absurd (show false=true from f) cc
theorem nI{x:V}:∀{xs:ac V}{us:ac i'},Vals xs us->xs.all iw=true->us.any (e7 x)=xs.any λy=>j2 y x
 |_,_,.nil,_=>rfl
 |y::xs,u::us,.cons r t,f=>by
  rw[aba,gP]at f;rw[jn,jn,qb r f.1,nI t f.2]
theorem lT{A:Yy}{s:UN}{x:V}{v:i'}(a:RelV x v)(b:iw x=true):∀{xs:ac V}{us:ac i'},Vals xs us->xs.all iw=true ->∀u∈us,abr A s u v (e7 x u)
 |_,_,.nil,_=>λu hu=>by cases hu
 |y::xs,u::us,.cons r t,f=>λc hu=>by
  rw[aba,gP]at f;rcases bJ.mp hu with rfl|hu
  ·rw[qb r f.1];exact LW r a f.1 b
  ·exact lT a b t f.2 c hu
def lq(x:V)(xs:List V):Bool:=xs.any λy=>j2 y x
def oC(K:U3)(vx:Bool):R2:=λx y H Q=>∃p xs,y=.ref p/\(ak K H p xs\/aA K H p xs)/\iw x=true/\xs.all iw=true/\Q (.bl (if vx then !lq x xs else lq x xs)) H
theorem jw:cu X (VW .In) (oC X.K false):=by
 rintro J s σ H x y v u Q I c e ⟨p,xs,rfl,hq,d,fs,q⟩;cases e
 rcases hq with hq|hq
 ·obtain⟨its,r,a,f⟩:=I.list hq
  refine SeqAt.in_listAt (e7 x) a.isList (λw b=>lT c d r fs w (by simpa using b)) ⟨.bl _,H,I,rfl,?_⟩
  rw[show its.toArray.any (e7 x)=its.any (e7 x) by simp,nI r fs]
  exact q
 ·obtain⟨its,r,a,f⟩:=I.tuple hq
  refine SeqAt.in_tupleAt (e7 x) a (λw b=>lT c d r fs w (by simpa using b)) ⟨.bl _,H,I,rfl,?_⟩
  rw[show its.toArray.any (e7 x)=its.any (e7 x) by simp,nI r fs]
  exact q
theorem Gs:cu X (VW .NotIn) (oC X.K true):=by
 rintro J s σ H x y v u Q I c e ⟨p,xs,rfl,hq,d,fs,q⟩;cases e
 rcases hq with hq|hq
 ·obtain⟨its,r,a,f⟩:=I.list hq
  refine SeqAt.notIn_listAt (e7 x) a.isList (λw b=>lT c d r fs w (by simpa using b)) ⟨.bl _,H,I,rfl,?_⟩
  rw[show its.toArray.any (e7 x)=its.any (e7 x) by simp,nI r fs]
  exact q
 ·obtain⟨its,r,a,f⟩:=I.tuple hq
  refine SeqAt.notIn_tupleAt (e7 x) a (λw b=>lT c d r fs w (by simpa using b)) ⟨.bl _,H,I,rfl,?_⟩
  rw[show its.toArray.any (e7 x)=its.any (e7 x) by simp,nI r fs]
  exact q
theorem eQ:cX X (.builtin "len") (λxs H Q=>∃p ys,xs=[.ref p]/\(ak X.K H p ys\/aA X.K H p ys)/\Q (.int ys.length) H):=by
 rintro J s σ H xs us Q I r ⟨p,ys,rfl,hq,q⟩;obtain⟨u,rfl,d⟩:=vals1 r;cases d
 have f:=kK;rcases hq with hq|hq
 ·obtain⟨its,b,c,e⟩:=I.list hq
  have a:=b.length;exact Calls.call_len_list c.isList (by simp only[b2] <;> omega) ⟨.int ys.length,H,I.tok _,⟨s.toks+1,by rw[b2,a]⟩,q⟩
 ·obtain⟨its,b,c,e⟩:=I.tuple hq
  have a:=b.length;exact len_tuple c (by simp only[b2] <;> omega) ⟨.int ys.length,H,I.tok _,⟨s.toks+1,by rw[b2,a]⟩,q⟩
theorem Gu:cX X (.builtin "len") (λxs H Q=>∃z,xs=[.str z]/\z.length<=UP/\Q (.int z.length) H):=by
 rintro J s σ H xs us Q I r ⟨z,rfl,a,q⟩;obtain⟨u,rfl,t,rfl⟩:=vals1 r;have b:=kK;exact len_str (by omega) ⟨.int z.length,H,I.tok _,⟨_,rfl⟩,q⟩
theorem ki:cX X (.type "list") (λxs H Q=>∃p ys,xs=[.ref p]/\(ak X.K H p ys\/aA X.K H p ys) /\∀l,H l=none->Q (.ref l) (upd H l (.lst ys))):=by
 rintro J s σ H xs us Q I r ⟨p,ys,rfl,hq,q⟩;obtain⟨u,rfl,t⟩:=vals1 r;cases t
 have k:∀(its:ac i'),Vals ys its->ys.length<=UP ->∀(h':Yl) (a:Nat),(∀b o',s.heap.get? b=ih o'->h'.get? b=ih o') ->
   h'.get? s.heap.objs.size=ih { cls:=.type "list",dict:=none,data:=.seq its.toArray a,slots:= #[] }->EP X J σ Q (.ref s.heap.objs.size) { s with heap:=h' }:=λits c d h' a kp e =>
  ⟨.ref s.heap.objs.size,_,I.laid (t':=s.toks) kp (aQ _) (show bF X.prog X.w _ h' _ (.lst ys) from⟨d,its,a,c,e⟩),rfl,q _ (I.aI.fresh (aQ _))⟩
 rcases hq with hq|hq
 ·obtain⟨its,c,f,d⟩:=I.list hq
  have m:=c.length;obtain⟨o,g,i,n,j⟩:=f.isList;exact call_list_seq p (.inl rfl) g i j (λh' a kp e=>k its c d h' a kp e) (by simp only[b2] <;> omega)
 ·obtain⟨its,c,f,d⟩:=I.tuple hq
  have m:=c.length;obtain⟨o,g,i,n,j⟩:=f;exact call_list_seq p (.inr rfl) g i j (λh' a kp e=>k its c d h' a kp e) (by simp only[b2] <;> omega)
theorem iP:cX X (.type "tuple") (λxs H Q=>∃p ys,xs=[.ref p]/\((ak X.K H p ys /\∀l,H l=none->Q (.ref l) (upd H l (.tup ys)))\/(aA X.K H p ys/\Q (.ref p) H))):=by
 rintro J s σ H xs us Q I r ⟨p,ys,rfl,h⟩;obtain⟨u,rfl,i⟩:=vals1 r;cases i
 rcases h with⟨a,q⟩|⟨a,q⟩
 ·obtain⟨its,c,d,f⟩:=I.list a
  have k:=c.length;refine call_tuple_list d.isList (λh' kp=>?_) (by simp only[b2] <;> omega)
  have g:Inv X J σ H { s with heap:=h' }:=I.kept (t':=s.toks) kp;have j:Inv X J σ (upd H h'.objs.size (.tup ys)) { s with heap:=h'.push { cls:=.type "tuple",data:=.seq its.toArray } }:=
   g.laid (t':=s.toks) (λb o e=>a7 _ e) (aQ _) (show bF X.prog X.w _ _ _ (.tup ys) from⟨f,its,c,i8.new _ _⟩)
  exact⟨.ref h'.objs.size,_,j,rfl,q _ (g.aI.fresh (aQ _))⟩
 ·obtain⟨its,c,d,f⟩:=I.tuple a
  exact call_tuple_same d ⟨.ref p,H,I,rfl,q⟩
def vy(K:U3)(T:String)(x:V)(H:Hp):Prop:=match x with
 |.str _=>T = "str"
 |.int _=>T = "int"
 |.ref p=>(T = "list" /\∃xs,ak K H p xs)\/(T = "tuple" /\∃o,K.lookup p=ih o/\o.cls=.type "tuple" /\ o.dict=none) \/
   (T = "dict" /\ ((∃kvs,H p=ih (.dK kvs)) \/∃kvs,H p=ih (.dT kvs)))\/(T = "set" /\∃S n,H p=ih (.set S n))\/(T = "tuple" /\∃xs,Rd H p (.tup xs))
 |_=>False
theorem C3{x:V}{v:i'}(I:Inv X J σ H s)(r:RelV x v)(ty:vy X.K T x H) :
  s.TypeIs v T /\∀a,v=.ref a ->∃g,s.heap.get? a=ih g/\g.dict=none:=by
 cases x with
 |str z =>
  obtain⟨t,rfl⟩:=r;cases (show T = "str" from ty)
  exact⟨typeIs_str s z t,λ_ e=>nomatch e⟩
 |int i =>
  obtain⟨t,rfl⟩:=r;cases (show T = "int" from ty)
  exact⟨typeIs_int s i t,λ_ e=>nomatch e⟩
 |ref p =>
  cases r
  rcases ty with⟨rfl,xs,f⟩|⟨rfl,o,b,j,d⟩|⟨rfl,b⟩|⟨rfl,S,n,b⟩|⟨rfl,xs,f⟩
  ·obtain⟨its,_,h,_⟩:=I.list f
   refine⟨h.isList.typeIs,λa e=>?_⟩;cases e
   obtain⟨o,n,e,c,d,_⟩:=h;exact⟨o,e,d⟩
  ·refine⟨⟨o,I.bU p o b,j⟩,λa e=>?_⟩
   cases e
   exact⟨o,I.bU _ o b,d⟩
  ·have z:∃o,s.heap.get? p=ih o/\o.ExactDict:=by
    rcases b with⟨kvs,b⟩|⟨kvs,b⟩
    ·obtain⟨_,_,_,_,o,_,_,e,ex,_⟩:=I.aI p _ b
     exact⟨o,e,ex⟩
    ·obtain⟨_,_,_,_,o,_,_,e,ex,_⟩:=I.aI p _ b
     exact⟨o,e,ex⟩
   obtain⟨o,e,ex⟩:=z;refine⟨⟨o,e,ex.1⟩,λa e2=>?_⟩;cases e2
   exact⟨o,e,ex.2.1⟩
  ·obtain⟨o,_,_,_,e,ex,_⟩:=I.aI p _ b
   refine⟨⟨o,e,ex.1⟩,λa e2=>?_⟩;cases e2
   exact⟨o,e,ex.2.1⟩
  ·obtain⟨_,_,_,o,e,c,_,_,d⟩:=f.ok I.aI
   refine⟨⟨o,e,c⟩,λa e2=>?_⟩;cases e2
   exact⟨o,e,d⟩
 |_=>exact Vr ty
def OC(K:U3)(T:String)(r:V->List V->Hp->VK->Prop)(to:TE):TE:=λσ H Q=>to σ H λx Y=>vy K T x Y/\r x [] Y Q
def PQ(K:U3)(T:String)(r:V->List V->Hp->VK->Prop)(to:TE)(t:TA):TE:=λσ H Q=>to σ H λx Y=>vy K T x Y/\t σ Y λxs H2=>r x xs H2 Q
variable{o:VD}{to:TE}{t:TA}{id:String}{r:V->List V->Hp->VK->Prop}
theorem LX(g:PlainAttrs T)(e:Slot T name id)(f:typeOf (.builtin id)=pure (.type "method_descriptor"))(i:vw X id r)(j:PE X o to)
  (c:attributeBase o name X.env (eval o X.env)=eval o X.env:=by rfl) (d:(Qe.endLine==Qi.line)=true:=by rfl):PE X (.Call (.Attribute o name Qe) [] [] Qi) (OC X.K T r to):=by
 intro J s σ H Q I h;refine wpAny_Call_method0_late c d (aG (j J s σ H _ I h) λv s1 l=>?_);obtain⟨x,Y,a,b,ty,k⟩:=l;obtain⟨h1,h2⟩:=C3 a b ty;exact⟨T,id,g,e,f,h1,h2,ZZ rfl (Fh (i J s1 σ Y x [] v [] Q a b .nil k))⟩
theorem gj(l:PlainAttrs T)(i:Slot T name id)(k:typeOf (.builtin id)=pure (.type "method_descriptor"))(m:vw X id r)(n:PE X o to)(p:PA X (e::es) t)
  (f:attributeBase o name X.env (eval o X.env)=eval o X.env:=by rfl)
  (j:((backTo Qi (Ve (e::es) X.env)).all (λx=>!x.1)&&(backToKw Qi (keywordEach [] X.env)).all (λx=>x.1.isSome)
   && decide ((e::es).length+([]:ac Keyword).length+(if ([]:ac Keyword).isEmpty then 0 else 1)<30))=true:=by rfl)
  (g:(Qe.endLine==Qi.line)=true:=by rfl) (q:Ve (e::es) X.env=(false,eval e X.env)::Ve es X.env:=by rfl) (d:(backTo Qi (Ve es X.env)).any (·.1)=false:=by rfl) :
  PE X (.Call (.Attribute o name Qe) (e::es) [] Qi) (PQ X.K T r to t):=by
 intro J s σ H Q I h;refine wpAny_Call_method_late f j g rfl (aG (n J s σ H _ I h) λv s1 A=>?_);obtain⟨x,Y,a,b,ty,u⟩:=A;obtain⟨h1,h2⟩:=C3 a b ty;refine⟨T,id,l,i,k,h1,h2,?_⟩;have c:=p Qi J s1 σ Y _ a u;rw[q]at c⊢;refine ZZ (by show(false||(backTo Qi (Ve es X.env)).any (·.1))=false;rw[d] <;> rfl) (Calls.evalArgs_plain ?_)
 exact aG c λus s2 ⟨vs,H2,w,y,z⟩=>m J s2 σ H2 x vs v us Q w b y z
end
def lr(X:Cx)(id:String)(r:V->List V->Hp->VK->Prop):Prop:=
 ∀J s σ H (x:V) (xs:List V) (v:i') (us:List i') (Q:VK),Inv X J σ H s->RelV x v->Vals xs us->r x xs H Q ->
  wA X (call (.builtin id) (v::us)) (EP X J σ Q) X.xe s
theorem Vals.one:∀{x:V}{us:ac i'},Vals [x] us ->∃u,us=[u]/\RelV x u:=by
 intro _ _ h;cases h with|cons r h=>cases h;exact⟨_,rfl,r⟩
theorem Vals.two:∀{x y:V}{us:ac i'},Vals [x,y] us ->∃u v,us=[u,v]/\RelV x u/\RelV y v:=by
 intro _ _ _ h;cases h with|cons r h=>cases h with|cons q h=>cases h;exact⟨_,_,rfl,r,q⟩
theorem Vals.zero:∀{us:ac i'},Vals [] us->us=[]
 |_,.nil=>rfl
theorem Vals.dropLast(h:Vals xs us):Vals xs.dropLast us.dropLast:=by
 induction h with
 |nil=>exact .nil
 |cons r t a =>
  cases t with
  |nil=>exact .nil
  |cons q t'=>exact .cons r a
theorem Vals.eraseIdx:∀{xs:ac V}{us:ac i'} (i:Nat),Vals xs us->Vals (xs.eraseIdx i) (us.eraseIdx i)
 |_,_,_,.nil=>.nil
 |_,_,0,.cons _ t=>t
 |_,_,i+1,.cons r t=>.cons r (Vals.eraseIdx i t)
theorem Vals.reverse(h:Vals xs us):Vals xs.reverse us.reverse:=by
 induction h with
 |nil=>exact .nil
 |cons r t a=>rw[U7,U7];exact Vals.append a (.cons r .nil)
theorem Ho{α:Type}(l:ac α):l.eraseIdx (l.length - 1)=l.dropLast:=by
 induction l with
 |nil=>rfl
 |cons a r c =>
  cases r with
  |nil=>rfl
  |cons b r =>
   have e:(a::b::r).length - 1=((b::r).length - 1)+1:=by
    have h1:(a::b::r).length=r.length+2:=rfl;have h2:(b::r).length=r.length+1:=rfl;omega
   rw[e,List.eraseIdx_cons_succ,c]
   all_goals rfl
theorem AY{α:Type}:∀(l:ac α) (i:Nat),(l.eraseIdx i).length<=l.length
 |[],_=>aQ _
 |_::_,0=>gc _
 |_::r,i+1=>Nat.succ_le_succ (AY r i)
section
variable{ys zs:ac V}
theorem Inv.qH{its':ac i'}{n:Nat}{f:Array i'->Array i'}(I:Inv X J σ H s)(a:H l=bd xs)
  (e:s.heap.get? l=ih { cls:=.type "list",data:=.seq its.toArray n }) (b:f its.toArray=its'.toArray) (c:Vals ys its') (hz:ys.length<=UP) :
  Inv X J σ (upd H l (.lst ys)) { s with heap:=s.heap.update l (V0 f),toks:=t' }:=by
 have q:=acM e f;rw[b]at q;refine I.write (x:=l) (e:=l) (by rw[a];exact trivial) (.inl rfl) (λh u d g=>(kc s.heap (V0 f) (aT d)).trans g) ⟨_,q⟩ ?_
 exact⟨hz,its',_,c,q⟩
theorem Inv.DQ(I:Inv X J σ H s)(a:Vals ys its)(hz:ys.length<=UP) :
  Inv X J σ (upd H s.aj (.lst ys)) { s with heap:=s.heap.push { cls:=.type "list",data:=.seq its.toArray },toks:=t' }:=
 I.laid (λ_ _ q=>a7 _ q) (aQ _) ⟨hz,its,0,a,bW _ rfl⟩
theorem Inv.fresh(I:Inv X J σ H s):H s.aj=none:=I.aI.fresh (aQ _)
theorem Inv.jQ(I:Inv X J σ H s)(a:H l=bd xs):xs.length<=UP /\∃(its:ac i') (n:Nat),Vals xs its/\xs.length=its.length/\s.heap.get? l=ih { cls:=.type "list",data:=.seq its.toArray n }:=by
 obtain⟨z,its,n,r,e⟩:=I.aI l _ a;exact⟨z,its,n,r,r.length,e⟩
theorem Jd{n:Nat}(h:n<=UP):YI n=false:=by
 unfold YI;exact ej (by omega)
end
def Ks:V->List V->Hp->VK->Prop:=λx vs H Q=>∃l xs y,x=.ref l/\vs=[y]/\H l=ih (.lst xs)/\xs.length<UP/\Q .aO (upd H l (.lst (xs++[y])))
theorem jx:lr X "list.append" Ks:=by
 rintro J s σ H x vs v us Q I b c ⟨l,xs,y,rfl,rfl,a,f,q⟩;cases b
 obtain⟨u,rfl,d⟩:=c.one;obtain⟨z,its,n,r,g,e⟩:=I.jQ a;refine kf F.slot_list_append ⟨_,e,rfl⟩ F.entry_list_append (F.args_list_append_2 _ _) (PySem.list_append l its.toArray n u (by rw[b2];omega)) ⟨e,?_⟩
 refine⟨.aO,_,I.qH (its':=its++[u]) a e (by simp) (r.append (.cons d .nil)) ?_,rfl,q⟩
 rw[bX,jo];omega
def OD:V->List V->Hp->VK->Prop:=λx vs H Q=>∃l xs y,x=.ref l/\vs=[]/\H l=ih (.lst xs)/\xs[xs.length - 1]?=ih y/\Q y (upd H l (.lst xs.dropLast))
theorem LY:lr X "list.pop" OD:=by
 rintro J s σ H x vs v us Q I d f ⟨l,xs,y,rfl,rfl,a,g,q⟩;cases d
 have b:=f.zero;subst b;obtain⟨z,its,n,r,i,e⟩:=I.jQ a;obtain⟨u,j,k⟩:=r.get g;have c:its.toArray[its.toArray.size - 1]?=ih u:=by
  show its.toArray[its.length - 1]?=ih u;rw[<-oR,<-i];exact j
 refine kf abm ⟨_,e,rfl⟩ abb (F.args_list_pop_1 _) (MeetsSeq.list_pop_last l its.toArray n u c (by rw[b2];omega)) ⟨e,?_⟩
 refine⟨y,_,I.qH (its':=its.dropLast) a e ?_ r.dropLast ?_,k,q⟩
 ·show its.toArray.eraseIdxIfInBounds (its.toArray.size - 1)=its.dropLast.toArray
  rw[b2,U8,Ho]
 ·rw[Fi]
  omega
def LZ:V->List V->Hp->VK->Prop:=λx vs H Q=>∃l xs i k y,x=.ref l/\vs=[.int i]/\H l=ih (.lst xs) /\ -(2 ^ 63)<=i/\i<2 ^ 63/\seqIndex? i xs.length=ih k/\xs[k]?=ih y/\Q y (upd H l (.lst (xs.eraseIdx k)))
theorem BF:lr X "list.pop" LZ:=by
 rintro J s σ H x vs v us Q I c d ⟨l,xs,i,k,y,rfl,rfl,a,h1,h2,f,g,q⟩;cases c
 obtain⟨u,rfl,j⟩:=d.one;obtain⟨t,rfl⟩:=j;obtain⟨z,its,n,r,m,e⟩:=I.jQ a;obtain⟨w,o,b⟩:=r.get g;refine kf abm ⟨_,e,rfl⟩ abb (F.args_list_pop_2 _ _)
  (MeetsSeq.list_pop_at l its.toArray n i t k w (fitsIndex_both h1 h2) (by rw[b2,<-m];exact f) (by rw[<-oR];exact o) (by rw[b2];omega)) ⟨e,?_⟩
 refine⟨y,_,I.qH (its':=its.eraseIdx k) a e ?_ (r.eraseIdx k) ?_,b,q⟩
 ·show its.toArray.eraseIdxIfInBounds k=(its.eraseIdx k).toArray
  rw[U8]
 ·have:=AY xs k
  omega
def OE:R2:=λx y H Q=>∃l b xs zs,x=.ref l/\y=.ref b/\H l=ih (.lst xs)/\H b=ih (.lst zs)/\xs.length+zs.length<=UP /\∀p,H p=none->Q (.ref p) (upd H p (.lst (xs++zs)))
theorem hK:cu X (YB .Add) OE:=by
 rintro J s σ H x y v u Q I c d ⟨l,b,xs,zs,rfl,rfl,f,g,m,q⟩;cases c
 cases d
 obtain⟨z,its,n,r,o,e⟩:=I.jQ f;obtain⟨p,a,t,i,k,e2⟩:=I.jQ g;refine PySem.P.add_list e e2 ?_ (by rw[b2,b2];omega)
 have j:its.toArray++a.toArray=(its++a).toArray:=by simp
 rw[j];exact⟨.ref _,_,I.DQ (t':=s.toks) (r.append i) (by rw[bX];omega),rfl,q _ I.fresh⟩
section
set_option maxRecDepth 100000 in
end
end L2
namespace Ew
open W Calls PyProof.Rows
theorem F'{P:Params}:∀(ns:ac Int) (vs:ac i'),WellAll P h vs (ns.map abL)->aaw vs ns:=by
 intro ns
 induction ns with
 |nil =>
  intro vs w;rw[abk]at w;cases w
  exact .nil
 |cons n ns c =>
  intro vs w;rw[b4]at w;cases w with
  |cons a b =>
   cases a
   exact .cons _ _ (c _ b)
theorem Ib{l:aav}{n:Nat}(o:l.most=ih n){P:Params}{args:ac WData}{e:ac i'}
  (f:l.row.toRowW.claim.pre args=true) (k:WellAll P h e args) :
  ∃a vs ns,e=[U6 a]/\args=[WData.list (ns.map abL)]/\h.get? a=ih { cls:=.type "list",data:=.seq vs.toArray }/\aaw vs ns/\ns.length<=n:=by
 have m:WShape.hasAll [] args [.list .int]=true:=(pre_splitW f).1;have g:l.pre.holds [] { args:=args }=true:=(pre_splitW f).2;obtain⟨d,r,rfl,h1,h2⟩:=hasAllW_cons m;obtain rfl:=hasAllW_nil h2;obtain⟨xs,rfl,p⟩:=hasW_list h1;obtain⟨ns,rfl⟩:=items_int p;have i:ns.length<=n:=by
  unfold OpenLaw.pre at g;have b:(WTm.not (.lt (.lit (.int (n:Int))) (.len (.arg 0)))).holds [] { args:=[.list (ns.map .int)] }=true:=by
   have b:=(holds_andW g).1;rw[o]at b;exact b
  have c:=condW_of b (w_not (w_lt w_lit (w_len_list (w_arg rfl))));rw[aE]at c;refine Nat.le_of_not_lt λq=>?_;have s:(n:Int)<((ns.length:Nat):Int):=by omega
  first
   |(rw[cf s]at c;exact absurd c (by decide))
   |(simp at c;omega)
 cases k with
 |cons t u =>
  cases u
  cases t with
  |list v j=>exact⟨_,_,ns,rfl,rfl,v,F' ns _ j,i⟩
theorem Ic(l:aav)(args:ac WData):l.row.toRowW.claim.post args (.bool true) args=true:=
 postW_of (r:=l.row.toRowW) (X:=(true==true))
  (show abh [] (.bool true) .bool=true by first|rfl|decide|simp[abh,WShape.arms,WShape.armsAll])
  (show(WTm.eq .res (.lit (.bool true))).value [] { args:=args,res:=ih (.bool true),after:=args }=ih (.bool (true==true)) from w_eq_bool (w_res rfl) w_lit) rfl
theorem GO{l:aav}{n:Nat}{q:Yq}{d:DefRec}
  (v:l.most=ih n) (p:d.params.defaults=[])
  (call:∀(w:Yw) (e b:UN) (mg g:FF->Option i') (c:E8) (o:YO) (pm cd Qc:i') (a:E8) (vs:ac i') (ns:ac Int),
   Ground q Qr [] XP w e mg g b.heap->YP w b.heap ->
   b.heap.get? c=ih o->o.data=.func (docDef d.name d.params d.body d.scope pm cd Qc)->b.heap.CodeRec cd d.name->mg d.name=ih (.ref c) ->
   b.heap.get? a=ih { cls:=.type "list",data:=.seq vs.toArray }->aaw vs ns->ns.length<=n->b.gens = #[] ->
   codeAny (U4 l.prog w) callerA (.call (.ref c) ⟨[.ref a],[]⟩) (λr s'=>r=.ok (.ret (.bool true))/\OldK b.heap s'.heap/\s'.os=b.os/\Zo s'.gens) b) :
  WalkO q Qr XP YP l.row.toRowW d [] (λf vs=>aai f vs):=by
 intro w e b mg g G x c o pm cd Qc y kV z A s h t B args H L j I J u K;obtain rfl:y=.none:=Dflts.none h p;obtain rfl:kV=.none:=Dflts.noKw h;obtain⟨a,vs,ns,rfl,rfl,k,i,m⟩:=Ib v j u;refine enter_call (ly (call w e b mg g c o pm cd Qc a vs ns G x z (fd_plain A) s t k i m B) λr s' C=>?_);obtain⟨rfl,h2,D,E⟩:=C;exact⟨.inl ⟨.bool true,.bool true,[],rfl,λ_=>rfl,.bool true,Ic l _,λ_=>⟨Zq,λ_ F=>(nomatch F)⟩⟩,h2,D,E⟩
end Ew
namespace L2
open Spec PyProof.Rows
theorem AZ:∀{vs:ac i'}{ns:ac Int},aaw vs ns->Vals (ns.map V.int) vs
 |_,_,.nil=>.nil
 |_,_,.cons n t h=>.cons ⟨t,rfl⟩ (AZ h)
def u3(H:Hp):Prop:= ∀b,H b=none \/∃o xs,H b=ih (.bw o (.lst xs))
theorem Je{l:FF->Option i'}{CX:gL}{k:Nat}{p:E8}{c:UN}{vs:ac i'}{ns:ac Int}
  (E:K.In c.heap) (B:c.heap.Ns U9 mg) (f:c.heap.Ns builtinsNs l) (S:∀x:FF,x ≠ "__name__" -> l x=Vv x) (N:c.heap.NoLimit) (X:c.gens = #[])
  (j:c.heap.get? a=ih { cls:=.type "list",data:=.seq vs.toArray }) (hi:aaw vs ns) (G:ns.length<=UP) (Y:a4 k callerA)
  (F:∀base:Yl,K.In base->base.Ns U9 mg->aU P w K mg base CX k p fd [x] sp) (M:∀(s:UN) (u:i'),Z0 s fd ⟨[u],[]⟩ [(x,u)])
  (T:∀H:Hp,u3 H->ak K H a (ns.map V.int)->sp [.ref a] H (λv _=>v=.bl true) λ_ _ _=>False)
  (U:∀H e s',CX [] H c (λ_ _ _=>False) e s'->False) :
  codeAny (U4 P w) callerA (.call (.ref p) ⟨[.ref a],[]⟩) (λr s'=>r=.ok (.ret (.bool true))/\OldK c.heap s'.heap/\s'.os=c.os/\Zo s'.gens) c:=by
 have I:=AZ hi;have O:=hi.length;have core:∀H:Hp,u3 H->ak K H a (ns.map V.int)->cq P w H c.heap->(∀b,H b≠none->b=a)->(H a≠none->K.lookup a=none) ->
   codeAny (U4 P w) callerA (.call (.ref p) ⟨[.ref a],[]⟩) (λr s'=>r=.ok (.ret (.bool true))/\OldK c.heap s'.heap/\s'.os=c.os/\Zo s'.gens) c:=by
  intro H J Z C L xa;have A:∀{b:E8}{o:YO},c.heap.get? b=ih o->H b=none->(i9 c.heap H).get? b=ih o:=λe n=>I0 e n;have W:∀{b:E8}{o:YO}{es:Array YU}{ep:Nat},c.heap.get? b=ih o->o.data=.dict es ep->H b=none:=λ{b o es ep} e d=>by
   cases q:H b with
   |none=>rfl
   |some u =>
    have t:b=a:=L b (by rw[q];simp)
    subst t;rw[j]at e;cases e;have ya:acp vs.toArray _=Data.dict es ep:=d;cases ya
  have i:∀{b:E8}{m:FF->Option i'},c.heap.Ns b m->(i9 c.heap H).Ns b m:=λ{b m} ⟨o,es,ep,e,d,r⟩=>⟨o,es,ep,A e (W e d),d,r⟩;have D:K.In (i9 c.heap H):=λb o e=>A (E b o e) (by
   cases q:H b with
   |none=>rfl
   |some u =>
    have t:b=a:=L b (by rw[q];simp)
    subst t;rw[xa (by rw[q];simp)]at e;cases e)
  have za:Mod K mg (i9 c.heap H):=⟨D,i B,⟨l,i f,S⟩,let ⟨xb,h1,h2⟩:=N;⟨xb,i h1,h2⟩⟩;have e0:kU P w K mg (i9 c.heap H) callerA [] c H:=⟨rfl,za,λb o e=>Ke e,abv (HV _ _),trivial,λb f=>absurd (show b∈([]:ac E8) from f) (by simp),C,.of_eq X⟩
  refine ly ((F _ D (i B)).run callerA [] c H ⟨[.ref a],[]⟩ [.ref a] [.ref a] _ _ Y e0 (M c (.ref a)) (.cons rfl .nil) (T H J Z)) λr s' h=>?_;cases r with
  |error e=>exact(U H e s' h).elim
  |ok yb =>
   cases yb with
   |next=>exact Vr h
   |brk=>exact Vr h
   |cont=>exact Vr h
   |ret u =>
    obtain⟨v,H',os,Q,un,R,zb,q⟩:=h;have xc:v=.bl true:=q;subst xc;obtain rfl:u=YV true:=zb;refine⟨rfl,OldK.of_keep λb o e=>?_,os,Q⟩;cases q:H b with
    |none=>exact un.keep b o e q (by intro z;exact absurd (show b∈([]:ac E8) from z) (by simp)) (by simp)
    |some u =>
     rcases J b with z|⟨yc,xs,z⟩
     ·rw[q]at z;cases z
     ·have z2:=un.gH b yc _ z
      obtain⟨e1,_⟩:=C b _ z;obtain⟨e2,_⟩:=R b _ z2;rw[e]at e1;cases e1;exact e2
 cases y:K.lookup a with
 |some o =>
  have e:=E a o y;rw[j]at e;cases e
  refine core (λ_=>none) (λ_=>.inl rfl) (.inr ⟨_,vs.toArray,_,y,rfl,rfl,rfl,by rw[b2,O];exact G,by simpa using I⟩) (λb u z=>by have g:(none:ad HO)=ih u:=z;cases g) (λb z=>absurd rfl z) λz=>absurd rfl z
 |none =>
  refine core (λb=>if b=a then ih (.bw { cls:=.type "list",data:=.seq vs.toArray } (.lst (ns.map V.int))) else none) (λb=>?_) (.inl (.inr ⟨{ cls:=.type "list",data:=.seq vs.toArray },aF rfl⟩)) (λb u z=>?_) (λb z=>?_) λ_=>y
  ·by_cases f:b=a
   ·exact .inr ⟨_,_,aF f⟩
   ·exact .inl (aq f)
  ·by_cases f:b=a
   ·have g:=(aF f).symm.trans z
    cases g
    subst f;exact⟨j,by rw[aE];exact G,vs,_,I,j⟩
   ·have g:=(aq f).symm.trans z
    cases g
  ·by_cases f:b=a
   ·exact f
   ·exact absurd (aq f) z
theorem Kt{l:PySem.W.OpenLaw}{n k:Nat}{q:Yq}{d:DefRec}{K:Params->U3}{CX:Yw->gL}{sp:Yw->Sp}
  (C:l.most=ih n) (t:n<=UP) (y:d.params.defaults=[]) (D:a4 k callerA)
  (E:∀(w:Yw) (h:Yl),YP w h->(K w.params).In h)
  (F:∀(w:Yw) (mg:FF->Option i') (c:E8) (h:Yl),(K w.params).In h->h.Ns U9 mg->mg d.name=ih (.ref c) ->
   ∃fd:Ye,(∀(s:UN) (u:i'),Z0 s fd ⟨[u],[]⟩ [(x,u)]) /\
    ∀base:Yl,(K w.params).In base->base.Ns U9 mg->aU l.prog w (K w.params) mg base (CX w) k c fd [x] (sp w))
  (z:∀(w:Yw) (H:Hp) (a:E8) (ns:ac Int),ns.length<=n->u3 H->ak (K w.params) H a (ns.map V.int)->sp w [.ref a] H (λv _=>v=.bl true) λ_ _ _=>False)
  (A:∀(w:Yw) (H:Hp) (s:UN) (e:i') (s':UN),CX w [] H s (λ_ _ _=>False) e s'->False) :
  PySem.W.WalkO q Qr XP YP l.row.toRowW d [] (λf vs=>aai f vs):=by
 refine Ew.GO C y λw P p mg R c o pm cd Qc a vs ns G I S U Q B r m i J=>?_;have j:=E w _ I;obtain⟨fd,L,M⟩:=F w mg c _ j G.T.g B;exact Je j G.T.g G.T.b G.T.builtins G.T.nolimit J r m (en i t) D M L (λH N O=>z w H a ns i N O) λH e s'=>A w H p e s'
def inClass(s:Vj)(j:Nat):Vj:=match s with
 |.ClassDef _ _ _ body _ _ _ _ _ _ _=>body.getD j (.Pass ⟨0,0,0,0⟩)
 |_=>.Pass ⟨0,0,0,0⟩
def c9(s:Vj):Arguments:=match s with
 |.FunctionDef _ a _ _ _ _ _ _ _ _=>a
 |_=>{ posonlyargs:=[],args:=[],vararg:=none,kwonlyargs:=[],kw_defaults:=[],kwarg:=none,defaults:=[] }
def bE(s:Vj):List Vj:=match s with
 |.FunctionDef _ _ b _ _ _ _ _ _ _=>b
 |_=>[]
def aJ(s:Vj):Zf:=match s with
 |.FunctionDef _ _ _ _ _ _ sc _ _ _=>sc
 |_=>{ kind:=.function,names:=[],isGenerator:=false,isCoroutine:=false }
abbrev aH:gL:=λ_ _ _ _ _ _=>False
abbrev E0:XK:=λ_ _ _=>False
theorem cY:Passes aH X E0:=λ_ _ _ _ _ _ _ h=>h.elim
structure aS(K:U3)(x qual:FF)(st:Vj)(f:E8)(fd:Ye):Prop where
 ex:∃(oc:i') (od:Option E8) (kV Qc pm:i') (an:Option E8) (Qa ct:i') (Qm:Array (Option i')),
  fd=Yv x qual (c9 st) (bE st) (aJ st) .none kV Qc pm an Qa ct/\K.lookup f=ih ⟨oc,od,.func fd,Qm⟩/\Y7 K Qa qual=true
 kp:YG K (.ref f)=true
theorem aS.ok{k:Nat}(F:aS K x qual st f fd)(S:bj N ps (aJ st))(b:∀vs H Q E,sp vs H Q E->vs.length=ps.length)
  (a:∀(Qa:i') (A:Yy) (outer:ac Zz) (s:UN) (H:Hp) (vs:ac V) (Q:VK) (E:XK),a4 k (A.deeper (envOfC qual (aJ st) s.aj f Qa))->sp vs H Q E ->
   ∃t,di (d5 aH P w K mg base N qual (aJ st) f Qa A outer s H E).ll (bE st) t/\t { nx:=λ_ H'=>Q .aO H',rt:=Q } (start N vs) H):aU P w K mg base aH (k+1) f fd ps sp:=by
 obtain⟨oc,od,kV,Qc,pm,an,Qa,ct,Qm,rfl,lk,c⟩:=F.ex;refine uz lk c S b λA outer s H vs Q E e d=>?_;obtain⟨t,h,q⟩:=a Qa A outer s H vs Q E e d;exact⟨t,h.ll,q⟩
theorem aS.binds(F:aS K x qual st f fd)
  (h:∀(kV Qc pm:i') (an:ad E8) (Qa ct:i') (us:ac i'),us.length=ps.length->bindArgs (Yv x qual (c9 st) (bE st) (aJ st) .none kV Qc pm an Qa ct) ⟨us,[]⟩=pure (ps.zip us)):Binds K fd ps []:=by
 obtain⟨oc,od,kV,Qc,pm,an,Qa,ct,Qm,rfl,lk,a⟩:=F.ex;exact .all (h kV Qc pm an Qa ct)
theorem ud{kV:i'}(l:K.lookup f=ih ⟨oc,od,.func (Yv x qual (c9 st) (bE st) (aJ st) .none kV Qc pm an Qa ct),Qm⟩)
  (c:Y7 K Qa qual=true) (k:YG K (.ref f)=true):aS K x qual st f (Yv x qual (c9 st) (bE st) (aJ st) .none kV Qc pm an Qa ct):=⟨⟨oc,od,kV,Qc,pm,an,Qa,ct,Qm,rfl,l,c⟩,k⟩
theorem pv(i:Nat)(b:X.N[i]?=ih x:=by rfl)(c:vo X.env.scope x:=by first|exact abf rfl|exact Y3 (abf rfl)|exact Y3 (Y3 rfl))(d:(x==("__debug__" : FF))=false:=by decide)
  (a:(x==("__classdict__" : FF))=false:=by decide):PE X (.Name x pos) (gI i):=LK b c d a
theorem bY{c A B:Prop} [Decidable c](h1:c->A)(h2 : ¬ c->B):if c then A else B:=by
 by_cases h:c
 ·rw[aF h]
  exact h1 h
 ·rw[aq h]
  exact h2 h
def ax(H H':Hp):Prop:= ∀b o,H b=ih o->H' b=ih o
theorem ax.refl(H:Hp):ax H H:=λ_ _ h=>h
theorem ax.trans(a:ax H Y)(b:ax Y H2):ax H H2:=λc o h=>b c o (a c o h)
theorem ax.free(e:ax H H')(h:H' l=aa8):H l=aa8:=by
 cases q:H l with
 |none=>rfl
 |some o =>
  rw[e l o q]at h;cases h
end L2
namespace L2
theorem Paired.DR{α β:Type}{F G:α->β->Prop}{l:ac α}{m:ac β}(h:VX F l m):(∀a b,b∈m->F a b->G a b)->VX G l m:=by
 induction h with
 |nil=>exact λ_=>.nil
 |cons p _ c=>exact λk=>.cons (k _ _ aY p) (c λa b e=>k a b (bc _ e))
end L2
namespace L2
open Spec PyProof.Rows
def eU(cells:List (FF×E8)):List (FF×YC)->List (FF×E8)->List (FF×E8)
 |[],cA=>cA
 |(n,k)::r,cA=>if k == .free then eU cells r ((n,(cells.lookup n).getD 0)::cA) else eU cells r cA
theorem sb(h:∀n,(n,Vh)∈scope.names ->∃c,env.cells.lookup n=ih c) :
  closureFor scope env=pure (eU env.cells scope.names []):=by
 have p:∀(b:ac (FF×YC)) (d:ac (FF×E8)),(∀n,(n,Vh)∈b ->∃c,env.cells.lookup n=ih c) ->
   (forIn (m:=Zr) b d λx r=>match x with|(name,f)=>if (f==Vh)=true then (do let a <- cellOf env name;pure (Yi ((name,a)::r))) else pure (Yi r))=pure (eU env.cells b d):=by
  intro b
  induction b with
  |nil=>intro d _;rfl
  |cons x r j =>
   intro d g;obtain⟨n,k⟩:=x;rw[aaP];unfold eU
   by_cases l:k=.free
   ·subst l
    obtain⟨c,o⟩:=g n aY;simp only[oS,hA];have e:cellOf env n=pure c:=by unfold cellOf;rw[o]
    rw[e,o];exact j _ λm i=>g m (bc _ i)
   ·have q:(k==Vh)=false:=by simpa using l
    simp only[q,v8,kb];exact j _ λm i=>g m (bc _ i)
 unfold closureFor;have:=p scope.names [] h;show((forIn (m:=Zr) scope.names [] λx r=>match x with|(name,f)=>if (f==Vh)=true then (do let a <- cellOf env name;pure (Yi ((name,a)::r))) else pure (Yi r)) >>= λs=>pure s)=_;rw[this]
 rfl
theorem lL:∀(b:ac (FF×YC)) (n:Nat) (a:ac (FF×E8)),cellsFrom n b a=cellsFrom n b []++a
 |[],_,_=>rfl
 |(name,c)::r,n,a=>by
  unfold cellsFrom;split
  ·rw[lL r (n+1) ((name,n)::a),lL r (n+1) [(name,n)],mX];rfl
  ·exact lL r n a
theorem o3{cells:ac (FF×E8)}:∀(d:ac (FF×YC)) (a:ac (FF×E8)) (x:FF) (c:E8),(eU cells d a).lookup x=ih c ->
  (a.lookup x=ih c)\/((x,Vh)∈d/\c=(cells.lookup x).getD 0)
 |[],a,x,c,h=>.inl h
 |(n,k)::r,a,x,c,h=>by
  unfold eU at h;split at h
  ·rename_i g
   have f:k=.free:=by simpa using g
   subst f;rcases o3 r _ x c h with z|⟨z,e⟩
   ·rw[dt]at z
    cases b:x==n with
    |true=>rw[b]at z;cases z;rw[dJ.mp b];exact .inr ⟨aY,rfl⟩
    |false=>rw[b]at z;exact .inl z
   ·exact .inr ⟨bc _ z,e⟩
  ·rcases o3 r _ x c h with z|⟨z,e⟩
   ·exact .inl z
   ·exact .inr ⟨bc _ z,e⟩
theorem sJ{cells:ac (FF×E8)}:∀(b:ac (FF×YC)) (a:ac (FF×E8)) (x:FF),(∃c,a.lookup x=ih c) ->∃c,(eU cells b a).lookup x=ih c
 |[],a,x,h=>h
 |(n,k)::r,a,x,h=>by
  unfold eU;split
  ·refine sJ r _ x ?_
   obtain⟨c,h⟩:=h;rw[dt];cases d:x==n with
   |true=>exact⟨_,rfl⟩
   |false=>exact⟨c,h⟩
  ·exact sJ r _ x h
theorem pd{cells:ac (FF×E8)}:∀(b:ac (FF×YC)) (a:ac (FF×E8)) (x:FF),(x,Vh)∈b ->∃c,(eU cells b a).lookup x=ih c
 |[],a,x,h=>by simp at h
 |(n,k)::r,a,x,h=>by
  unfold eU;rcases bJ.mp h with e|h
  ·cases e
   simp only[oS,hA];exact sJ r _ _ ⟨(cells.lookup n).getD 0,by rw[dt];simp⟩
  ·split
   ·exact pd r _ x h
   ·exact pd r _ x h
theorem o2:∀(b:ac (FF×YC)) (n:Nat) (a:ac (FF×E8)) (x:FF) (c:E8),(x,c)∈cellsFrom n b a->(x,c)∈a\/(x,Yf)∈b
 |[],_,_,_,_,h=>.inl h
 |(name,d)::r,n,a,x,c,h=>by
  unfold cellsFrom at h;split at h
  ·rename_i g
   have f:d=.cell:=by simpa using g
   subst f;rcases o2 r _ _ x c h with z|z
   ·rcases bJ.mp z with e|z
    ·cases e;exact .inr aY
    ·exact .inl z
   ·exact .inr (bc _ z)
  ·rcases o2 r _ _ x c h with z|z
   ·exact .inl z
   ·exact .inr (bc _ z)
structure b5(N:List FF)(Ex:Zf)(N':List FF)(Qd:List (Option Nat))(sc:Zf):Prop where
 kind:sc.kind=.function
 keys:(sc.names.map (·.1)).Nodup
 nd:N'.Nodup
 len:Qd.length=N'.length
 fv:∀(j i:Nat),Qd[j]?=ih (ih i) ->∃x,N[i]?=ih x/\N'[j]?=ih x/\sc.names.lookup x=ih .free
 free:∀p∈sc.names,p.2=.free->Ex.names.lookup p.1=ih .cell\/Ex.names.lookup p.1=ih .free
theorem lM{α:Type}:∀{l:ac (FF×α)},(l.map (·.1)).Nodup ->∀{x:FF}{k:α},(x,k)∈l->l.lookup x=ih k
 |(n,v)::r,a,x,k,h=>by
  obtain⟨h1,h2⟩:=d8.mp a;rw[dt];rcases bJ.mp h with e|hm
  ·cases e;simp
  ·have:(x==n)=false:=by
    rw[iJ];intro e;exact h1 (a6.mpr ⟨_,hm,e⟩)
   rw[this];exact lM h2 hm
def BG(scope:Zf)(L:E8)(env:Zz):Zz:=
 { scope:=relabel scope env,locals:=L,globals:=env.globals,cells:=cellsFrom (L+1) scope.names (eU env.cells scope.names []),qual:=env.qual,func:=none,code:=env.code,frame:=env.frame,builtins:=env.builtins }
theorem GQ{M:ZT}{globals:E8}{d:ac (FF×E8)}{Q:Zz->UN->Prop}
  (h:∀h',h'.Ns s.aj (λ_=>none)->(∀b o,s.heap.get? b=ih o->h'.get? b=ih o)->(∀x c,(x,c)∈cellsFrom (s.aj+1) scope.names []->h'.IsCell c none/\s.aj<c) ->
   ((cellsFrom (s.aj+1) scope.names []).Pairwise λx y=>x.2≠y.2) ->
   Q { scope:=scope,locals:=s.aj,globals:=globals,cells:=cellsFrom (s.aj+1) scope.names d,qual:=qual,func:=none,code:=env.code,frame:=env.frame,builtins:=env.builtins } { s with heap:=h' }) :
  UQ M A (newFunctionEnv scope globals d [] qual none .none (ih env)) Q E s:=by
 simp only[newFunctionEnv,U',hA];refine ae (wpAny_alloc ?_);refine ae (wpAny_layCells _ (λname f cells=>by cases g:f==Yf <;> simp[g]) _ _ _ _ ?_)
 have ok:=cellsFrom_ok scope.names (s.heap.push { cls:=.type "dict",data:=.dict #[] }) (s.aj+1) [] ⟨λ_ _ a=>(nomatch a),Zq⟩ (by rw[hj];exact aQ _)
 rw[hj]at ok;rw[show({ s with heap:=s.heap.push { cls:=.type "dict",data:=.dict #[] } }:UN).heap.objs.size=s.aj+1 from hj ..];rw[List.forIn_nil];refine ae (ao (ao ?_));exact h _ ((Heap.Ns.new s.heap (.type "dict")).keeps (pushCells_keeps _ _)) (λb o e=>pushCells_keeps _ _ b o (a7 _ e)) (λx c a=>⟨(ok.empty x c a).1,(ok.empty x c a).2⟩) ok.apart
def cF(X:Cx)(N':List FF)(scope:Zf)(s2:UN)(H2:Hp)(fp:List E8):Cx:=
 { X with N:=N',ec:=s2,gX:=H2,env:=BG scope s2.aj X.env,outer:=X.stack,stack:=X.stack,ex:=fp,fn:=λx=>scope.names.lookup x==ih .cell,pn:=[],xe:=λ_ _=>False }
theorem r9{env:Zz}:∀{d:ac (FF×YC)}{x:FF}{k:YC},
  (d.map λ(n,k)=>if (k==Vh&&env.scope.kind == .function&&env.kindOf n==ih .cell) then (n,Yf) else (n,k)).lookup x=ih k ->
  ∃a,d.lookup x=ih a/\(k=a\/(a=.free/\k=.cell))
 |[],_,_,h=>by simp at h
 |(n,a)::r,x,k,h=>by
  have e:=@r9 env r x k;have h':VP x ((if (a==Vh&&env.scope.kind == .function&&env.kindOf n==ih .cell)=true then (n,Yf) else (n,a))::_)=ih k:=h;rw[dt]
  by_cases c:(a==Vh&&env.scope.kind == .function&&env.kindOf n==ih .cell)=true
  ·rw[aF c,dt]at h'
   cases b:x==n with
   |true =>
    rw[b]at h';cases h';have:a=.free:=by
     have z:=c;rw[gP,gP]at z
     simpa using z.1.1
    exact⟨a,rfl,.inr ⟨this,rfl⟩⟩
   |false=>rw[b]at h';exact e h'
  ·rw[aq c,dt]at h'
   cases b:x==n with
   |true=>rw[b]at h';cases h';exact⟨a,rfl,.inl rfl⟩
   |false=>rw[b]at h';exact e h'
theorem r7{env:Zz}:∀{d:ac (FF×YC)}{x:FF},d.lookup x=ih .free ->
  (d.map λ(n,k)=>if (k==Vh&&env.scope.kind == .function&&env.kindOf n==ih .cell) then (n,Yf) else (n,k)).lookup x=ih .cell \/
  (d.map λ(n,k)=>if (k==Vh&&env.scope.kind == .function&&env.kindOf n==ih .cell) then (n,Yf) else (n,k)).lookup x=ih .free
 |[],_,h=>by simp at h
 |(n,b)::r,x,h=>by
  have e:=@r7 env r x;show VP x ((if (b==Vh&&env.scope.kind == .function&&env.kindOf n==ih .cell)=true then (n,Yf) else (n,b))::_)=_\/VP x ((if (b==Vh&&env.scope.kind == .function&&env.kindOf n==ih .cell)=true then (n,Yf) else (n,b))::_)=_;rw[dt]at h;cases a:x==n with
  |true =>
   rw[a]at h;cases h
   by_cases c:(Vh==Vh&&env.scope.kind == .function&&env.kindOf n==ih .cell)=true
   ·rw[aF c,dt,a];exact .inl rfl
   ·rw[aq c,dt,a];exact .inr rfl
  |false =>
   rw[a]at h
   by_cases c:(b==Vh&&env.scope.kind == .function&&env.kindOf n==ih .cell)=true
   ·rw[aF c,dt,a];exact e h
   ·rw[aq c,dt,a];exact e h
def pick(Qd:List (Option Nat))(σ:St):St:=Qd.map λo=>o.bind λi=>(σ[i]?).join
theorem pe(I:Inv X J σ H s2)(S:b5 X.N X.env.scope N' Qd scope)(a:(x,Vh)∈scope.names):∃c,X.env.cells.lookup x=ih c:=
 I.ok.has x (S.free _ a rfl)
theorem Hq(I:Inv X J σ H s2)(S:b5 X.N X.env.scope N' Qd scope){n:Nat}{c:E8}(h:(cellsFrom n scope.names (eU X.env.cells scope.names [])).lookup x=ih c) :
  ((x,c)∈cellsFrom n scope.names []/\(x,Yf)∈scope.names)\/((x,Vh)∈scope.names/\X.env.cells.lookup x=ih c):=by
 rw[lL,Fj]at h;cases e:(cellsFrom n scope.names []).lookup x with
 |some d =>
  rw[e]at h;have z:d=c:=by simpa using h
  subst z;have m:=jk e;rcases o2 _ _ _ _ _ m with z|z
  ·simp at z
  ·exact .inl ⟨m,z⟩
 |none =>
  rw[e]at h;have h':(eU X.env.cells scope.names []).lookup x=ih c:=by simpa using h
  rcases o3 _ _ _ _ h' with z|⟨z,e2⟩
  ·simp at z
  ·obtain⟨a,h0⟩:=pe I S z
   rw[h0]at e2;exact .inr ⟨z,by rw[h0,e2];rfl⟩
theorem Jf(I:Inv X J σ H s2)(S:b5 X.N X.env.scope N' Qd scope)(B:∀b∈fp,f3 X J H b)(U:∀b∈fp,∃o,s2.heap.get? b=ih o)
  (za:h'.Ns s2.aj (λ_=>none)) (D:∀b o,s2.heap.get? b=ih o->h'.get? b=ih o)
  (h:∀x c,(x,c)∈cellsFrom (s2.aj+1) scope.names []->h'.IsCell c none/\s2.aj<c) (E:(cellsFrom (s2.aj+1) scope.names []).Pairwise λx y=>x.2≠y.2) :
  Inv (cF X N' scope s2 H fp) [] (pick Qd σ) H { s2 with heap:=h' }:=by
 have F:∀{x:FF}{c:E8},X.env.cells.lookup x=ih c->c<s2.aj:=λ{x c} e=>let ⟨_,q⟩:=I.cell x c e;q.lt;have l:∀{x:FF}{c:E8},(cF X N' scope s2 H fp).env.cells.lookup x=ih c->((x,c)∈cellsFrom (s2.aj+1) scope.names []/\(x,Yf)∈scope.names)\/((x,Vh)∈scope.names/\X.env.cells.lookup x=ih c):=
  λ{x c} e=>Hq I S e
 have V:∀{x:FF}{c:E8},(cF X N' scope s2 H fp).env.cells.lookup x=ih c ->∃v,h'.IsCell c v:=λ{x c} e=>by
  rcases l e with⟨m,_⟩|⟨_,e0⟩
  ·exact⟨_,(h x c m).1⟩
  ·obtain⟨v,q⟩:=I.cell x c e0
   exact⟨v,q.keeps D⟩
 have G:∀b∈fp,b<s2.aj:=λb a=>let ⟨_,e⟩:=U b a;bx e;refine⟨⟨I.ok.mod,S.kind,I.ok.glob,I.ok.blt,aQ _,λx y c e1 e2=>?_,λx hx=>?_,λx c hx e=>?_,I.ok.hd,I.ok.frames,.inl rfl,λb a=>⟨bM (G b a),λx c e z=>?_⟩,I.bs,?_,λb o e a=>?_,λb a W=>?_,I.stack,I.tD⟩,
  rfl,I.bare,Un.kept D,⟨_,za,λj x v e1 e2 e3=>?_⟩,λx c e=>V e,I.aI.fresh (aQ _),λx c e=>?_,λp E=>absurd (show p∈([]:ac (E8×YO)) from E) (by simp),I.aI.kept D,?_⟩
 ·rcases l e1 with⟨M,_⟩|⟨_,s⟩ <;> rcases l e2 with⟨O,_⟩|⟨_,P⟩
  ·exact name_of_addr E M O
  ·exact absurd (lA (h _ _ M).2 (F P)) (jg _)
  ·exact absurd (lA (h _ _ O).2 (F s)) (jg _)
  ·exact I.ok.inj x y c s P
 ·have Y:∃f,scope.names.lookup x=ih f/\(f=.cell\/f=.free):=by
   rcases hx with hx|hx
   ·obtain⟨f,e,z⟩:=r9 (env:=X.env) hx
    refine⟨f,e,?_⟩;rcases z with z|z
    ·exact .inl z.symm
    ·exact .inr z.1
   ·obtain⟨f,e,z⟩:=r9 (env:=X.env) hx
    refine⟨f,e,?_⟩;rcases z with z|z
    ·exact .inr z.symm
    ·exact .inr z.1
  obtain⟨f,e,z⟩:=Y;show ∃c,(cellsFrom (s2.aj+1) scope.names (eU X.env.cells scope.names [])).lookup x=ih c;rw[lL,Fj];rcases z with rfl|rfl
  ·obtain⟨c,g⟩:=sU (n:=s2.aj+1) e
   exact⟨c,by rw[g];rfl⟩
  ·cases q:(cellsFrom (s2.aj+1) scope.names []).lookup x with
   |some d=>exact⟨d,rfl⟩
   |none =>
    obtain⟨c,g⟩:=pd (cells:=X.env.cells) scope.names [] x (jk e);exact⟨c,by rw[g];rfl⟩
 ·have K:scope.names.lookup x=ih .cell:=by simpa [cF] using hx
  rcases l e with⟨m,_⟩|⟨m,_⟩
  ·exact oM (h _ _ m).2
  ·rw[lM S.keys m]at K;cases K
 ·rcases l e with⟨m,_⟩|⟨_,s⟩
  ·have:=G b a
   rw[<-z]at this;exact absurd (lA (h _ _ m).2 this) (jg _)
  ·exact(B b a).2.2.2.2.1 x c s z
 ·exact en I.ok.hY I.sz
 ·rcases (B b a).2.2.2.1 with z|z
  ·exact I.ok.jO b o e z
  ·exact absurd (eY (bx (I.ok.bs b o e).1) z) (jg _)
 ·have:=I.p8 b W
  rcases bJ.mp this with z|z
  ·exact(B b a).2.1 z
  ·exact(B b a).2.2.1 z
 ·
  have t:(Qd[j]?).bind (λo=>ih (o.bind λi=>(σ[i]?).join))=ih (ih v):=by
   have w:(Qd.map λo=>o.bind λi=>(σ[i]?).join)[j]?=ih (ih v):=e2;rw[cL]at w;cases q:Qd[j]? with
   |none=>rw[q]at w;cases w
   |some o=>rw[q]at w;exact w
  cases q:Qd[j]? with
  |none=>rw[q]at t;cases t
  |some o =>
   rw[q]at t;cases o with
   |none=>simp at t
   |some i =>
    have C:(σ[i]?).join=ih v:=by simpa using t
    have xb:σ[i]?=ih (ih v):=by
     cases Q:σ[i]? with
     |none=>rw[Q]at C;cases C
     |some z=>rw[Q]at C;rw[show z=ih v from C]
    obtain⟨y,Z,xa,A⟩:=S.fv j i q;have ya:x=y:=by
     have L:N'[j]?=ih x:=e1;rw[xa]at L;exact(cJ L).symm
    subst ya;obtain⟨m,zd,yb⟩:=I.loc;have R:=S.free _ (jk A) rfl;obtain⟨u,r,lk⟩:=yb i x v Z xb (by rcases R with z|z;exact .inr (.inl z);exact .inr (.inr z))
    refine⟨u,r,.inr ⟨r7 A,?_⟩⟩;rcases lk with⟨k,_⟩|⟨_,c,zb,xc⟩
    ·have T:X.env.scope.names.lookup x=ih .local:=k
     rcases R with z|z <;> (rw[z]at T;cases T)
    ·refine⟨c,?_,xc.keeps D⟩
     show(cellsFrom (s2.aj+1) scope.names (eU X.env.cells scope.names [])).lookup x=ih c;rw[lL,Fj];cases yc:(cellsFrom (s2.aj+1) scope.names []).lookup x with
     |some d =>
      rcases o2 _ _ _ _ _ (jk yc) with z|z
      ·simp at z
      ·rw[lM S.keys z]at A;cases A
     |none =>
      obtain⟨xe,g⟩:=pd (cells:=X.env.cells) scope.names [] x (jk A);rcases o3 _ _ _ _ g with z|⟨_,e5⟩
      ·simp at z
      ·rw[zb]at e5
       rw[g,e5];rfl
 ·rcases l e with⟨m,_⟩|⟨_,s⟩
  ·exact I.aI.fresh (oM (h _ _ m).2)
  ·exact I.eT x c s
 ·show(Qd.map _).length=N'.length
  rw[aE,S.len]
def ja(X:Cx)(Qf:List VD)(t:TT):Prop:=
 ∀J s σ H (Q:Bool->Hp->Prop),Inv X J σ H s->t σ H Q ->
  wA X (forIn Qf true λc r=>if r=true then do let ok <- isTrue c X.env (eval c X.env);pure (Yi ok) else pure (Yi r)) (TP X J σ Q) X.xe s
def n5:TT:=λ_ H Q=>Q true H
theorem et:ja X [] n5:=λ_ _ _ H _ I h=>wpAny_tests_nil ⟨H,I,h⟩
theorem iS{t:TT}(h:PT X c t):ja X [c] t:=λJ s σ H Q I a=>wpAny_tests_one (h J s σ H Q I a)
structure kA(e tg iter:VD)(Qf:List VD)(Qg:i'->Zz->Zr Unit):Prop where
 cl:clausesOf e=[⟨tg,iter,Qf,0⟩]
 turn:∀it cA env,compTurn e 0 it cA env=(do
   standAt iter.pos
   match <- pyNext it with
   |none=>pure (.done .next)
   |some v =>
    letOwnedTupleGo tg it v
    assign tg env v
    let mut ok:=true
    for c in Qf do
     if ok then ok <- isTrue c env (eval c env)
    if ok then Qg cA env
    again (.compLoop e 0 it cA env))
 loop:∀(prog:Yq) (w:Yw) (A:Yy) it cA env,A.under (.compLoop e 0 it cA env)=A/\(U4 prog w).den (.compLoop e 0 it cA env)=(compTurn e 0 it cA env).onRaise (λx=>do noteFrame x env;theTreesLotGoes x)
 begin_:∀(prog:Yq) (w:Yw) (A:Yy) it cA env,A.under (.compStart e 0 it cA env)=A/\(U4 prog w).den (.compStart e 0 it cA env)=(compStart e 0 it cA env).onRaise (λx=>do noteFrame x env;standAt theWindowsPlace)
theorem Gb{R:ZL->UN->Prop}{Qg:i'->Zz->Zr Unit}{it a:i'}(F:kA e tg iter Qf Qg)(I:Nat->UN->Prop)
  (g:∀n s,I n s->UQ (U4 prog w) A (pyNext it) (λr s1=>match r with
   |none=>R (.ok .next) s1
   |some v=>UQ (U4 prog w) A (letOwnedTupleGo tg it v) (λ_ s2=>UQ (U4 prog w) A (assign tg env v) (λ_ d =>
     UQ (U4 prog w) A (forIn Qf true λc r=>if r=true then do let ok <- isTrue c env (eval c env);pure (Yi ok) else pure (Yi r)) (λok b =>
      if ok=true then UQ (U4 prog w) A (Qg a env) (λ_ i=>∃m,m<n/\I m i) (λ_ _=>False) b
      else ∃m,m<n/\I m b) (λ_ _=>False) d) (λ_ _=>False) s2) (λ_ _=>False) s1) (λ_ _=>False) s)
  (n:Nat) (h:I n s) :
  codeAny (U4 prog w) A (.compLoop e 0 it a env) R s:=by
 refine codeAny_loop rfl I (λn s j=>?_) n h;rw[(F.loop prog w A it a env).1,(F.loop prog w A it a env).2];refine wpAny_noted (Fl ?_);rw[F.turn];refine ae (j7 (ae (aG (g n s j) λr s1 h1=>?_)));cases r with
 |none=>exact ao h1
 |some v =>
  refine ae (aG h1 λ_ s2 h2=>ae (aG h2 λ_ d k=>ae (aG k λok b f=>?_)));cases ok with
  |false=>exact ao ⟨rfl,f⟩
  |true=>exact ae (aG f λx o l=>ao ⟨rfl,l⟩)
theorem Ga{R:ZL->UN->Prop}{Qg:i'->Zz->Zr Unit}{it a:i'}(F:kA e tg iter Qf Qg)
  (h0:codeAny (U4 prog w) A (.compLoop e 0 it a env) R s)
  (h:UQ (U4 prog w) A (pyIter it) (λb s'=>codeAny (U4 prog w) A (.compLoop e 0 b a env) R s')
   (notedBy (U4 prog w) A env λx s'=>R (.error x) s') s) :
  codeAny (U4 prog w) A (.compStart e 0 it a env) R s:=by
 refine v9 ?_;rw[(F.begin_ prog w A it a env).1,(F.begin_ prog w A it a env).2];refine wpAny_notedAt ?_;unfold compStart;rw[F.cl];show UQ _ _ (ask >>= _) _ _ s;refine ae (iL (wpAny_ite ?_));split
 ·first
   |exact ae (ao (ao (Zu rfl h0)))
   |exact ao (Zu rfl h0)
 ·first
   |exact ae (ji (ae (j7 (ae (h8 h (λb s' h'=>ao (Zu rfl h')) λ_ _ x=>x)))))
   |(refine ae (ji ?_);show UQ _ _ (standAt iter.pos >>= _) _ _ s;exact ae (j7 (ae (h8 h (λb s' h'=>ao (Zu rfl h')) λ_ _ x=>x))))
def L0{ι:Type}(Jz:It)(g:TG)(ti:TT)(Qk:ι->E8->St->Hp->(ι->Hp->Prop)->Prop)(y0:ι)(e6:St)(Q:VK)(p:E8)(Y:Hp):Prop:=
 ∃W:Nat->Nat->ι->St->Hp->Prop,(∃m,W 0 m y0 e6 Y) /\∀i m y τ H2,W i m y τ H2 ->
  ((Jz.stop i H2/\Q (.ref p) H2)\/(Jz.go i H2 /\∀x H3,Jz.iF i H2 x H3->g x τ H3 λgv H4=>ti gv H4 λb H5 =>
   if b=true then Qk y p gv H5 λy' H6=>∃m',m'<m/\W (i+1) m' y' gv H6
   else ∃m',m'<m/\W (i+1) m' y gv H5))
def DS{ι:Type}(X:Cx)(Qg:i'->Zz->Zr Unit)(Qk:ι->E8->St->Hp->(ι->Hp->Prop)->Prop):Prop:=
 ∀J s σ H (p:E8) (y:ι) (Q:ι->Hp->Prop),Inv X J σ H s->Qk y p σ H Q->wA X (Qg (.ref p) X.env) (λ_ s'=>∃y' H',Inv X J σ H' s'/\Q y' H') X.xe s
structure nR(X:Cx)(L1:Zr i')(start:E8->HO):Prop where
 run:∀J s σ H (E:i'->UN->Prop) (Q:i'->UN->Prop),Inv X J σ H s ->
  (∀s',Inv X J σ (upd H s.aj (start s.aj)) s'->(∀b o,s.heap.get? b=ih o->s'.heap.get? b=ih o)->Q (.ref s.aj) s')->wA X L1 Q E s
def BH(Qn:VD)(cA:i')(env:Zz):Zr Unit:=do
 let v <- eval Qn env
 let _ <- call (.builtin "list.append") [cA,v]
theorem Ie:kA (.ListComp Qn [⟨tg,iter,Qf,0⟩] scope pos) tg iter Qf (BH Qn):=⟨rfl,λ_ _ _=>rfl,λ_ _ _ _ _ _=>⟨rfl,rfl⟩,λ_ _ _ _ _ _=>⟨rfl,rfl⟩⟩
theorem Jg:nR X (newList []) (λ_=>.lst []):=⟨λJ s σ H E Q I h=>fQ (h _ (I.DQ (its:=[]) (t':=s.toks) .nil (bD _)) λb o e=>a7 _ e)⟩
def L3(te:TE)(ys:List V)(p:E8)(σ:St)(H:Hp)(Q:List V->Hp->Prop):Prop:=te σ H λy H6=>H6 p=ih (.lst ys)/\ys.length<UP/\Q (ys++[y]) (upd H6 p (.lst (ys++[y])))
theorem Ku(j:PE X Qn te):DS X (BH Qn) (L3 te):=λJ s σ H p ys Q I h=>by
 refine ae (aG (j J s σ H _ I h) λy d n=>?_);obtain⟨z,a,e,f,b,c,k⟩:=n;refine ae (aG (jx _ d σ a (.ref p) [z] (.ref p) [y] (λ_ H'=>H'=upd a p (.lst (ys++[z]))) e rfl (.cons f .nil) ⟨_,_,_,rfl,rfl,b,c,rfl⟩) λ_ l n=>?_);obtain⟨_,m,g,_,i⟩:=n;subst i;exact ao ⟨_,_,g,k⟩
def hQ(Jz:It)(g:TG)(ti:TT)(te:TE)(e6:St)(Q:VK)(p:E8)(Y:Hp):Prop:=
 ∃W:Nat->Nat->List V->St->Hp->Prop,(∃m,W 0 m [] e6 (upd Y p (.lst []))) /\∀i m ys τ H2,W i m ys τ H2->H2 p=ih (.lst ys) /\
  ((Jz.stop i H2/\Q (.ref p) H2)\/(Jz.go i H2 /\∀x H3,Jz.iF i H2 x H3->g x τ H3 λgv H4=>ti gv H4 λb H5 =>
   if b=true then te gv H5 λy H6=>H6 p=ih (.lst ys)/\ys.length<UP /\∃m',m'<m/\W (i+1) m' (ys++[y]) gv (upd H6 p (.lst (ys++[y])))
   else ∃m',m'<m/\W (i+1) m' ys gv H5))
def Dn(wi:TI)(Qd:List (Option Nat))(g:TG)(ti:TT)(te:TE):TE:=λσ H Q=>wi σ H λJz Y=>∀p,Y p=none->hQ Jz g ti te (pick Qd σ) Q p Y
section
def CompEnd(X:Cx)(J:List (E8×YO))(σ:St)(Q:VK)(cA:i')(C:E8)(s':UN):Prop:=
 ∃(p:E8) (H':Hp),cA=.ref p/\Inv X J σ H' s'/\f3 X J H' C/\(∃m,s'.heap.Ns C m)/\Q (.ref p) H'
variable{Qg:i'->Zz->Zr Unit}
theorem Ap{D:Type}{y0:D}{temI:D->E8->St->Hp->(D->Hp->Prop)->Prop}{xd:It}{g:TG}{Q:VK}{ya:Zr i'}{start:E8->HO}(F:kA e tg iter Qf Qg)(yd:X.calm=true)(S:b5 X.N X.env.scope N' Qd scope)
  (zd:Inv X J σ H2 s2) (T:Turn X.prog X.w X.K tg xd fp it tn) (st:tn 0 s2.heap) (xe:∀b∈fp,f3 X J H2 b) (xh:nR X ya start)
  (a:∀s H fp,PG (cF X N' scope s H fp) tg g/\ja (cF X N' scope s H fp) Qf ti/\DS (cF X N' scope s H fp) Qg temI)
  (yk:∀p,H2 p=none->L0 xd g ti temI y0 (pick Qd σ) Q p (upd H2 p (start p))) (zk:∀v C s',CompEnd X J σ Q v C s'->RR v C (.ok .next) s') :
  wA X ya (λv f=>wA X (newFunctionEnv scope X.env.globals (eU X.env.cells scope.names []) [] X.env.qual none .none (ih X.env)) (λza xl =>
   codeAny X.c5 X.A (.compStart e 0 (.ref it) v { za with scope:=relabel scope X.env }) (RR v za.locals) xl) E f) E s2:=by
 refine xh.run J s2 σ H2 E _ zd λf G yh=>?_;have I:=yk s2.aj zd.fresh;generalize yl:upd H2 s2.aj (start s2.aj)=h at G I;have xi:∀b∈fp,b<s2.aj:=λb a=>let ⟨_,e,_⟩:=T.obj _ _ st b a;bx e;have yb:tn 0 f.heap:=T.keep _ _ _ st λb _ o e=>yh b o e;have l:∀b∈fp,f3 X J h b:=λb a=>⟨by rw[<-yl,ag (bM (xi b a))];exact(xe b a).1,(xe b a).2⟩
 have yi:∀b∈fp,∃o,f.heap.get? b=ih o:=λb a=>let ⟨o,e,_⟩:=T.obj _ _ yb b a;⟨o,e⟩;refine GQ λR U ye zi xj=>?_;have L:Inv (cF X N' scope f h fp) [] (pick Qd σ) h { f with heap:=R }:=Jf G S l yi U ye zi xj;have zb:tn 0 ({ f with heap:=R }:UN).heap:=T.keep _ _ _ yb λb _ o e=>ye b o e;obtain⟨zl,xm,ym⟩:=a f h fp;obtain⟨W,⟨zm,xn⟩,zh⟩:=I;have O:∀{H':Hp},(∀b∈fp,H' b=none) ->∀b∈fp,f3 (cF X N' scope f h fp) [] H' b:=λU b a =>
  ⟨U b a,(L.ok.lj b a).1,L.ok.jP b a,.inl a,λx c e=>(L.ok.lj b a).2 x c e,λp I=>absurd (show p∈([]:ac (E8×YO)) from I) (by simp)⟩
 have xb:codeAny X.c5 X.A (.compLoop e 0 (.ref it) (.ref s2.aj) (BG scope f.aj X.env))
   (RR (.ref s2.aj) f.aj) { f with heap:=R }:=by
  refine Gb F (λn s'=>∃i y j H',Inv (cF X N' scope f h fp) [] j H' s'/\tn i s'.heap/\(∀b∈fp,H' b=none)/\W i n y j H') ?_ zm ⟨0,_,_,h,L,zb,λb a=>(l b a).1,xn⟩;rintro n ze ⟨i,y,j,M,xf,xc,yc,V⟩;have V:=zh i n y j M V;rcases V with⟨stop,qn⟩|⟨go,step⟩
  ·refine aG (T.done (cF X N' scope f h fp) rfl rfl rfl yd i [] ze j M _ xf (O yc) xc stop) λr yf ⟨Y,q⟩=>?_
   subst Y;refine zk _ _ _ ⟨_,M,rfl,?_,?_,?_,qn⟩
   ·exact G.uv (s':=yf) (ch:=fp) q.os q.base q.aI q.bare λb a=>⟨(l b a).2.2.2.1,(l b a).2.1,(l b a).2.2.2.2.1,(l b a).2.2.2.2.2⟩
   ·exact G.hS (aQ _) q.free
   ·obtain⟨m,k,_⟩:=q.loc
    exact⟨m,k⟩
  ·refine aG (T.item (cF X N' scope f h fp) rfl rfl rfl yd i [] ze j M _ xf (O yc) xc go) λr yf aa=>?_;obtain⟨u,Y,yn⟩:=aa
   subst Y;refine aG yn λ_ zf aa=>?_;obtain⟨x,xg,zn,xo,y7,P,yj⟩:=aa;have zj:=zn.pinned (O yj) (T.obj _ _ P);refine aG (zl _ zf j xg x u _ zj xo (step x xg y7)) λ_ yo aa=>?_;obtain⟨zc,zo,xp,yp⟩:=aa;refine aG (xm _ yo zc zo _ xp yp) λb zp aa=>?_;obtain⟨xq,yg,zg⟩:=aa;have again:∀{Z:D}{B:St}{H':Hp}{s':UN}{t:Nat},Inv (cF X N' scope f h fp) ([]++nP fp zf.heap) B H' s'->t<n->W (i+1) t Z B H' ->
     ∃m,m<n /\∃i y j H',Inv (cF X N' scope f h fp) [] j H' s'/\tn i s'.heap/\(∀b∈fp,H' b=none)/\W i m y j H':=λ{Z B H' s' t} xa k z=>by
    refine⟨t,k,i+1,Z,B,H',xa.pC,T.keep _ _ _ P λb a o e=>(xa.pin (b,o) (d7 _ (d7 _ (o7 a e)))).1,λb a=>?_,z⟩;obtain⟨o,e,d⟩:=T.obj _ _ P b a;exact(xa.pin (b,o) (d7 _ (d7 _ (o7 a e)))).2.1
   cases b with
   |false =>
    obtain⟨t,k,z⟩:=zg;exact again yg k z
   |true=>exact aG (ym _ zp zc xq _ y _ yg zg) λ_ yq ⟨zq,xr,xk,t,k,z⟩=>again xk k z
 exact Ga F xb (T.self X.A 0 _ _ _ zb xb)
theorem A0{e:It}{g:TG}{Q:VK}(f:X.calm=true)(S:b5 X.N X.env.scope N' Qd scope)
  (h:Inv X J σ H2 s2) (T:Turn X.prog X.w X.K tg e fp it tn) (st:tn 0 s2.heap) (j:∀b∈fp,f3 X J H2 b)
  (c:∀s H fp,PG (cF X N' scope s H fp) tg g/\ja (cF X N' scope s H fp) Qf ti/\PE (cF X N' scope s H fp) Qn te)
  (k:∀p,H2 p=none->hQ e g ti te (pick Qd σ) Q p H2) (l:∀a C s',CompEnd X J σ Q a C s'->RR a C (.ok .next) s') :
  wA X (newList []) (λa n=>wA X (newFunctionEnv scope X.env.globals (eU X.env.cells scope.names []) [] X.env.qual none .none (ih X.env)) (λd o =>
   codeAny X.c5 X.A (.compStart (.ListComp Qn [⟨tg,iter,Qf,0⟩] scope pos) 0 (.ref it) a { d with scope:=relabel scope X.env }) (RR a d.locals) o) E n) E s2:=by
 refine Ap (y0:=[]) Ie f S h T st j Jg (λs H fp=>⟨(c s H fp).1,(c s H fp).2.1,Ku (c s H fp).2.2⟩) (λp q=>?_) l;obtain⟨W,h0,st⟩:=k p q;exact⟨W,h0,λi m ys r H w=>(st i m ys r H w).2⟩
theorem d3{wi:TI}{g:TG}(i:X.calm=true)(S:b5 X.N X.env.scope N' Qd scope)(hi:PI X tg iter wi)
  (a:∀s H fp,PG (cF X N' scope s H fp) tg g/\ja (cF X N' scope s H fp) Qf ti/\PE (cF X N' scope s H fp) Qn te)
  (j:∀x,foldedSetIterable iter X.env x=pure x:=by intro _;rfl):PE X (.ListComp Qn [⟨tg,iter,Qf,0⟩] scope pos) (Dn wi Qd g ti te):=by
 intro J s σ H Q I h;rw[eval_ListComp];refine Fn (use:=none) rfl j (sb λn k=>pe I S k) S.kind (λx l r=>lM S.keys (by rw[<-r];exact l)) ?_
 refine aG (hi J s σ H _ I h) λv s1 h1=>aG h1 λB s2 h2=>?_;obtain⟨it,fp,tn,D,H2,e,t,T,d,u,w⟩:=h2;subst e;refine A0 (RR:=λc C=>compPost X.c5 X.A X.xe none (EP X J σ Q) c C) i S t T d u a w ?_;rintro c C s' ⟨p,H',rfl,y,fC,⟨m,z⟩,q⟩;refine⟨m,z,λh' f=>⟨.ref p,H',?_,rfl,q⟩⟩;exact y.turned (it:=C) (t':=s'.toks) (λb o a e=>(f.2 b a).trans e) fC.1 fC.2.1 fC.2.2.2.1 fC.2.2.2.2.1 fC.2.2.2.2.2
theorem lP{wi:TI}{g:TG}{j:Pos}(E:X.calm=true)(S:b5 X.N X.env.scope N' Qd scope)(F:X.N.Nodup)(d:X.N[i]?=ih x)(c:X.env.scope.names.lookup x=ih .local)(hi:PI X tg iter wi)
  (f:∀s H fp,PG (cF X N' scope s H fp) tg g/\ja (cF X N' scope s H fp) Qf ti/\PE (cF X N' scope s H fp) Qn te)
  (l:swapsWith (.ListComp Qn [⟨tg,iter,Qf,0⟩] scope pos) (ih (.Name x Qh)) j.line X.env=pure true:=by rfl)
  (G:∀x,foldedSetIterable iter X.env x=pure x:=by intro _;rfl):PS X (.Assign [.Name x Qh] (.ListComp Qn [⟨tg,iter,Qf,0⟩] scope pos) j) (qE (Dn wi Qd g ti te) (iu i)):=by
 intro J s σ H D I h;rw[exec_Assign_Name_used _ _ _ _ l];refine ae (j7 (ae ?_));show UQ _ X.A (do let _ <- comprehension (.ListComp Qn [⟨tg,iter,Qf,0⟩] scope pos) scope X.env _ (newList []) false (eval iter X.env) (ih (assign (.Name x Qh) X.env))) _ _ s;refine ae (aG (Fn (use:=ih (assign (.Name x Qh) X.env)) (Q:=λ_ s'=>SP X J D .next s') rfl G (sb λn K=>pe I S K) S.kind (λx d c=>lM S.keys (by rw[<-c];exact d)) ?_) λ_ s' L=>ao (ao L))
 refine aG (hi J s σ H _ I h) λv s1 h1=>aG h1 λV s2 h2=>?_;obtain⟨it,fp,tn,W,H2,e,M,T,r,O,P⟩:=h2;subst e;refine A0 (Q:=λv H'=>D.nx (σ.set i (ih v)) H') (RR:=λk C=>compPost X.c5 X.A X.xe (ih (assign (.Name x Qh) X.env)) (λ_ s'=>SP X J D .next s') k C) E S M T r O f P ?_;rintro k C s' ⟨p,H',rfl,R,fC,⟨m,U⟩,q⟩;show wA X (assign (.Name x Qh) X.env (.ref p)) _ _ s';refine wpAny_assign_Name (AO (v:=.ref p) R F d (.inl c) rfl (λt u Y=>?_) (.inr c));obtain⟨a,w,ha⟩:=Y;have y:C≠a:=by
  rcases ha with ha|ha
  ·rw[ha];exact fC.2.1
  ·exact λz=>fC.2.2.2.2.1 _ _ ha z.symm
 refine⟨m,U.sameBut w y,λh' B=>⟨_,H',?_,q⟩⟩;exact u.turned (it:=C) (t':=t.toks) (λb o f e=>(B.2 b f).trans e) fC.1 fC.2.1 fC.2.2.2.1 fC.2.2.2.2.1 fC.2.2.2.2.2
end
end L2
namespace L2
open Spec PyProof.Rows W Builtin.ObjectAttr
def ip(h:Yl)(C:E8)(us:List i'):Yl:=(h.push { cls:=.type "tuple",data:=.seq us.toArray }).push { cls:=.ref C,data:=.fields #[.ref h.objs.size,.none,.none,.none,.bool false,.none] }
theorem m6(e:h.get? b=ih o):(ip h C us).get? b=ih o:=a7 _ (a7 _ e)
theorem A1:(ip h C us).get? (h.objs.size+1)=ih { cls:=.ref C,data:=.fields #[.ref h.objs.size,.none,.none,.none,.bool false,.none] }:=by
 unfold ip;heap_get
section
variable{gs:Array Z5}{dr:Drawn}{tk:Nat}{os:OsState}
variable{qn:FF}{N:E8}{Qw up Qz:ac i'}{Qu:Bool}{sl:ac FF}{Zc:ac i'}{Zb:Bool}{Za:ad Bool}{e0 e1 e2 e3 e5:ad i'}{B Qy Zd:String}
variable{mN:FF->Option i'}{oI:YO}
theorem F7{Q:Fin->UN->Prop}(F:ExcBaseFacts B Qy Zd Qz)(T:OwnTail h Qz up)(a:h.get? C=ih (excClassObj cn qn C N Qw up Qu sl Zc Zb Za od e0 e1 e2 e3 e5 Qy))(c:h.Ns N mN)
  (hi:mN "__init__" = ih (.ref fI)) (cZ:h.get? fI=ih oI) (d:oI.cls=.type "function") (a5:us.length<=UP)
  (run:UQ (U4 P w) A (call (.ref fI) (.ref (h.objs.size+1)::us)) (λr s'=>r=.none/\Q (.done (.ret (.ref (h.objs.size+1)))) s') E ⟨ip h C us,gs,dr,tk,os⟩) :
  UQ (U4 P w) A (Yo.«type.__call__» ⟨.ref C::us,[]⟩) Q E ⟨h,gs,dr,tk,os⟩:=by
 repeat (first|with_reducible refine rR a ?_|with_reducible refine wpAny_madeBy_exc a ?_|wp_step)
 refine codeAny_call_builtin_code (Fo _ F.quiet) (wpAny_check_new_subT F T a (codeAny_exc_new_subT F T a ?_ a5));show UQ _ _ _ _ _ (⟨ip h C us,gs,dr,tk,os⟩:UN);have b:(ip h C us).get? C=_:=m6 a;have f:(ip h C us).get? (h.objs.size+1)=_:=A1;have g:(U6 C::up).contains (.ref C)=true:=List.contains_iff_mem.mpr aY;unfold isInstance
 repeat (first|with_reducible refine rR f ?_|(with_reducible refine wpAny_isSubtype_exc b ?_;rw[g])|wp_step)
 refine wpAny_typeLookup_tail (mN:=mN) b (c.keeps λ_ _ e=>m6 e) (T.keeps λ_ _ e=>m6 e) F.mroIs F.init.lookup ?_;rw[hi];refine er (ae (show UQ _ _ (bindSpecial _ _) _ _ _ from ?_));unfold bindSpecial;refine ae (jm (T:= "function") ⟨oI,m6 cZ,d⟩ ?_);rw[aF (show _ from by decide)]
 refine ao (ae (aG run λr s' i=>?_));obtain⟨rfl,q⟩:=i
 wp_walk
 exact q
theorem Gd(F:ExcBaseFacts B Qy Zd Qz)(T:OwnTail h Qz up)(a:h.get? C=ih (excClassObj cn qn C N Qw up Qu sl Zc Zb Za od e0 e1 e2 e3 e5 Qy))(b:h.Ns N mN)
  (hi:mN "__init__" = ih (.ref fI)) (cZ:h.get? fI=ih oI) (c:oI.cls=.type "function") (a5:us.length<=UP)
  (run:UQ (U4 P w) (A.under (.builtin "type.__call__" ⟨.ref C::us,[]⟩)) (call (.ref fI) (.ref (h.objs.size+1)::us)) (λr s'=>r=.none/\Q (.ref (h.objs.size+1)) s') E ⟨ip h C us,gs,dr,tk,os⟩) :
  UQ (U4 P w) A (call (.ref C) us) Q E ⟨h,gs,dr,tk,os⟩:=by
 have d:=tc_lookup;have e:=tc_bind (.ref C);have ty:(⟨h,gs,dr,tk,os⟩:UN).TypeIs (.ref C) "type" :=⟨_,a,rfl⟩;refine j9 (v9 (show UQ _ _ (callAny (.ref C) _) _ _ _ from ?_))
 repeat (any_goals (first|assumption|with_reducible refine rR a ?_|wp_step))
 exact⟨rfl,codeAny_call_builtin_at (Fo _ (by decide +kernel)) entry_typeCall (wpAny_check_type_call_sub a (F7 F T a b hi cZ c a5 run))⟩
end
abbrev rz:List i':=[.type "ValueError",.type "Exception",.type "BaseException",.type "object"]
def fZ(K:YA)(C:E8)(i:Option i'):Bool:=
  match K.lookup C with
  |some ⟨.type "type",_,.cls cls,slots⟩ =>
    (match cls.mro with
     |.ref C'::up=>C'==C&&((slots.toList.length==6&&slots.toList[4]?==ih (ih (.builtin "ValueError.__new__")))&&(!cls.hasDel&&(tailIn K rz up&&(nsOkIn K cls.ns&&nsIn K cls.ns "__init__" == ih i))))
     |_=>false)
  |_=>false
theorem l6'{α:Type}{l:List α}(h:l.length=6):∃a b c d e f,l=[a,b,c,d,e,f]:=by
 rcases l with _|⟨a,_|⟨b,_|⟨c,_|⟨d,_|⟨e,_|⟨f,_|⟨g,l⟩⟩⟩⟩⟩⟩⟩ <;> simp at h
 exact⟨a,b,c,d,e,f,rfl⟩
theorem Hr{N:E8}{a:FF->Option i'}{v:i'}(X:K.In h)(G:h.Ns N a)(e:nsIn K N n=ih (ih v)):a n=ih v:=by
 obtain⟨g,f,_,b,c,_,look⟩:=G;unfold nsIn at e;split at e
 next _ _ _ _ _ q =>
  have two:=X _ _ q;rw[b]at two;cases two;cases c
  split at e
  next i d =>
   cases e
   rw[<-look,nsFind,findBy,<-UT,d];rfl
  next=>split at e <;> cases e
 next=>cases e
structure ExcAt(h:Yl)(C:E8)(i:Option i'):Prop where
 ex:∃bm N nm q bs OF sn sub ab PR dd k0 k1 k2 k3 k5 mN,h.get? C=ih (excClassObj nm q C N bs bm OF sn sub ab PR dd k0 k1 k2 k3 k5 "ValueError.__new__")/\h.Ns N mN/\mN "__init__" = i/\OwnTail h rz bm
theorem pf{i:ad i'}(X:K.In h)(q:fZ K C i=true):ExcAt h C i:=by
 unfold fZ at q;split at q
 next od b a k =>
  split at q
  next A up s =>
   obtain⟨t,q⟩:=oT.mp q;obtain⟨p2,q⟩:=oT.mp q;obtain⟨p3,q⟩:=oT.mp q;obtain⟨p4,q⟩:=oT.mp q;obtain⟨p5,p6⟩:=oT.mp q;have e1:=dJ.mp t;obtain⟨p7,p8⟩:=oT.mp p2;obtain⟨c,d,e,f,y0,g,es⟩:=l6' (dJ.mp p7);have e2:=dJ.mp p8;rw[es]at e2;have e3:b.hasDel=false:=by simpa using p3
   have j:=dJ.mp p6;subst e1;cases e2;obtain⟨u,bs,l,ns,qn,w,x,y,z,m,o⟩:=b;have p:l=_:=s;have r:o=false:=e3;subst p r;obtain rfl:a = #[c,d,e,f,ih (.builtin "ValueError.__new__"),g]:=by cases a;exact c6 Array.mk es
   refine⟨⟨up,ns,u,qn,bs,w,x,y,z,m,od,c,d,e,f,g,h.nsMap ns,X _ _ k,.of_isNs (isNs_of_in X p5),?_,tail_of_in X p4⟩⟩;cases i with
   |none=>exact nsMap_none_of_in X p5 j
   |some v=>exact Hr X (.of_isNs (isNs_of_in X p5)) j
  next=>cases q
 next=>cases q
def mq:List i'->Bool
 |.ref _::r=>mq r
 |l=>l==rz
theorem GR:∀{l:ac i'},mq l=true->l=rz \/∃a r,l=.ref a::r/\mq r=true
 |[],e=>.inl (dJ.mp e)
 |.ref a::r,e=>.inr ⟨a,r,rfl,e⟩
 |.none::r,e=>.inl (dJ.mp e)
 |.bool b::r,e=>.inl (dJ.mp e)
 |.int i t::r,e=>.inl (dJ.mp e)
 |.float i t::r,e=>.inl (dJ.mp e)
 |.str i t::r,e=>.inl (dJ.mp e)
 |.bytes i t::r,e=>.inl (dJ.mp e)
 |.type i::r,e=>.inl (dJ.mp e)
 |.builtin i::r,e=>.inl (dJ.mp e)
theorem Jh(self:i')(l:ac i'):mq l=true->refuseLoop self "__setattr__" l=pure ():=by
 induction l with
 |nil=>intro e;exact absurd e (by decide)
 |cons v r b =>
  intro e;rcases GR e with q|⟨a,d,q,c⟩
  ·rw[q];kernel_rfl
  ·cases q
   rw[refuseLoop_ref];exact b c
structure eV(K:YA)(C:E8):Prop where
 ga:Yt K (.ref C) "__getattribute__" = ih (ih (.builtin "BaseException.__getattribute__"))
 gh:Yt K (.ref C) "__getattr__" = ih none
 sa:Yt K (.ref C) "__setattr__" = ih (ih (.builtin "object.__setattr__"))
 hd:hasDictIn K C=true
 ov:((clsIn K C).any λcd=>mq cd.mro)=true
 be:mroIn K C (.type "BaseException")=ih true
 ve:mroIn K C (.type "ValueError")=ih true
 ob:mroIn K C (.type "object")=ih true
 ka:Yt K (.ref C) "__class__" = ih (ih (.builtin "object.__class__"))
 kn:specialIn K (.builtin "object.__class__") "__get__" = ih (ih (.builtin "getset_descriptor.__get__"))
 kt:takesIn K (.builtin "object.__class__")=ih true
section
variable{x:E8}{od:ad YO}
theorem Ig{R:ZL->UN->Prop}{v:i'}(X:K.In s.heap)(I:InstAt s.heap x ox C od)(c:eV K C)(no:Yt K (.ref C) name=ih none)
  (go:UQ (U4 prog w) A.in1 (storeInOwnDict (.ref x) (.ref C) (.str name tk) name v false) (λd s'=>match d with|.done f=>R (.ok f) s'|.again a=>a.quiet=true/\codeAny (U4 prog w) A a R s') (λe s'=>R (.error e) s') s) :
  codeAny (U4 prog w) A (.call (.builtin "object.__setattr__") ⟨[.ref x,.str name tk,v],[]⟩) R s:=by
 obtain⟨g,h,ok⟩:=rS c.ov;have ty:aaq (U4 prog w) s.heap (typeOf (.ref x)) (.ref C):=I.type;have up:aaq (U4 prog w) s.heap (mroOf (.ref C)) g.mro:=Looks.andThen (looks_clsIn X h) Looks.now;have b:aaq (U4 prog w) s.heap (typeLookup (.ref C) name) none:=looks_findIn X no;refine v' rT.slot.plain rT.entry (@check_slot (U4 prog w) _ _ s _ _ _ (.ref x) [.str name tk,v] [] _ rT.kind rT.split (ty.andThen (wc X c.ob)) (rT.args _ _ _) ?_);rw[osa_eq,refuse_eq];refine ae (ae (ty.here (ae (up.here ?_))));rw[Jh _ _ ok];refine ao (show UQ _ _ _ _ _ s from ?_);exact ae (ty.here (ae (b.here (ae (ao go)))))
theorem A2{fill:Bool}(X:K.In s.heap)(I:InstAt s.heap x ox C od)(c:eV K C)
  (h:UQ (U4 prog w) A.in1 (Yo.«object.__getattribute__» ⟨[.ref x,.str name tk],[]⟩) (λa s'=>match a with|.done (.ret v)=>UQ (U4 prog w) A (handedOut v) Q E s'|_=>False) (λ_ _=>False) s) :
  UQ (U4 prog w) A (getAttrBy (.ref x) (.str name tk) fill Qs) Q E s:=by
 have f:=I.type (M:=U4 prog w);have g:=looks_findIn (M:=U4 prog w) X c.ga;have L2:=looks_findIn (M:=U4 prog w) X c.gh;have sub:aaq (U4 prog w) s.heap (isInstance (.ref x) (.type "BaseException")) true:=I.type.andThen (wc X c.be);have d:(YZ "BaseException.__getattribute__" == YZ "object.__getattribute__")=false:=by decide +kernel
 have e:(onTheHeap (U6 C)&&YZ "BaseException.__getattribute__" == YZ "object.__getattribute__")=false:=by rw[d];rfl
 have i:builtinKind "BaseException.__getattribute__" = ih .slot:=by decide +kernel
 have b:splitId "BaseException.__getattribute__" = ih ("BaseException","__getattribute__"):=by decide +kernel
 unfold getAttrBy;refine er (ae (f.here (ae (g.here ?_))))
 dsimp only
 rw[e];show UQ _ _ (getAttrByItsOwn _ _ _ _ _ _) _ _ _;unfold getAttrByItsOwn hookBefore;refine ae ?_;rw[aF (show onTheHeap (U6 C)=true from rfl)];refine L2.here (ae (rV (er ?_)));unfold callGetattribute;rw[aq (show ¬ (Qs&&onTheHeap (YZ "BaseException.__getattribute__"))=true by cases Qs <;> decide)]
 unfold boundAndCalled;rw[Va.ga.bind];refine ae (ao (j9 (v' Va.ga.plain PySem.F.entry_bexc_ga (@check_slot (U4 prog w) _ _ s "BaseException.__getattribute__" "BaseException" "__getattribute__" (.ref x) [.str name tk] [] _ i b sub (PySem.F.args_bexc_ga _ _) ?_))));refine h8 h (λa s' z=>?_) λ_ _ z=>z.elim;rcases a with(_|_|_|_)|_ <;> first|exact z|exact z.elim
theorem Ih{v:i'}{Q:Fin->UN->Prop}(X:K.In s.heap)(I:InstAt s.heap x ox C od)(a:findObj K C od name=ih (.value v))(h:Q (.done (.ret v)) s) :
  UQ (U4 prog w) A (Yo.«object.__getattribute__» ⟨[.ref x,.str name tk],[]⟩) Q E s:=by
 have b:=I.type (M:=U4 prog w);have c:=looks_find (M:=U4 prog w) X I a;refine ae (ao (ae (ao (ae (b.here (ae (c.here ?_)))))));exact ao h
theorem Kv{v:i'}(X:K.In s.heap)(I:InstAt s.heap x ox C od)(c:eV K C)(a:findObj K C od name=ih (.value v))(b:handedIn v=true)
  (h:Q v { s with toks:=s.toks+1 }):UQ (U4 prog w) A (getAttr (.ref x) name Qs) Q E s:=by
 unfold getAttr;refine ae (wpAny_mkText ?_);exact A2 (s:={ s with toks:=s.toks+1 }) X I c (Ih (s:={ s with toks:=s.toks+1 }) X I a (handed_on b h))
theorem Ii{Q:ad i'->UN->Prop}(X:K.In s.heap)(I:InstAt s.heap x ox C od)(c:eV K C)(h:Q (ih (.ref C)) { s with toks:=s.toks+1 }):UQ (U4 prog w) A (getAttr? (.ref x) "__class__") Q E s:=by
 have a:findObj K C od "__class__" = ih (.bind (.builtin "getset_descriptor.__get__") (.builtin "object.__class__")):=by
  obtain⟨cd,b,_⟩:=rS c.hd;unfold findObj;rw[b,we,c.ka,we]
  dsimp only
  rw[c.kn,we]
  dsimp only
  rw[c.kt,we]
 unfold getAttr? getAttrBy?;refine ae (wpAny_mkText (ae (rV ?_)));have d:=I.type (M:=U4 prog w);have e:=looks_find (M:=U4 prog w) X I a;refine A2 (s:={ s with toks:=s.toks+1 }) X I c ?_;refine ae (ao (ae (ao (ae (aaj (s:={ s with toks:=s.toks+1 }) d (ae (aaj (s:={ s with toks:=s.toks+1 }) e ?_)))))));show UQ _ _ (holding [.builtin "object.__class__"] (call (.builtin "getset_descriptor.__get__") [.builtin "object.__class__",.ref x,.ref C]) >>= ret) _ _ _;refine ae (er (j9 (class_get (s:={ s with toks:=s.toks+1 }) (ox:=ox) (od:=od) X I c.ob ?_)));exact ao (handed_on rfl (ao h))
theorem Hs{M:ZT}(X:K.In h)(c:eV K C):aaq M h (isType (.ref C)) true:=by
 obtain⟨d,a,_⟩:=rS c.hd;unfold clsIn at a;split at a
 next b =>
  intro e f g s' k q;exact ae (vX (part:=ih headPart) (k _ _ (X _ _ b)) (ao q))
 next=>cases a
theorem BJ(c:eV K C):KitX K (.ref x) (.ref C) (λh=>InstAt h x ox C od) where
 ty:=λ_ _ _ I=>I.type
 it:=λ_ _ X _=>Hs X c
 ne:=λh tp _ _ _ _ X b=>by
  obtain⟨f,a,_⟩:=rS c.hd;cases q:(U6 C == .ref tp) with
  |false=>rfl
  |true =>
   have e:C=tp:=acL (dJ.mp q);unfold clsIn at a;split at a
   next d =>
    have two:=(X _ _ d).symm;rw[e,b]at two;cases two
   next=>cases a
 ca:=λX I k=>Ii X I c k
end
theorem bF.there{o:HO}(x:bF P w H h a o):∃b,h.get? a=ih b:=by
 cases o with
 |lst xs=>obtain⟨_,_,_,_,e⟩:=x;exact⟨_,e⟩
 |tup xs=>obtain⟨_,_,_,b,e,_⟩:=x;exact⟨_,e⟩
 |dK kvs=>obtain⟨_,_,_,_,o,_,_,e,_⟩:=x;exact⟨_,e⟩
 |dT kvs=>obtain⟨_,_,_,_,o,_,_,e,_⟩:=x;exact⟨_,e⟩
 |set S n=>obtain⟨o,_,_,_,e,_⟩:=x;exact⟨_,e⟩
 |ins C dx fs=>obtain⟨_,_,_,e,_⟩:=x;exact⟨_,e⟩
 |own y=>exact x
 |xd fs=>obtain⟨_,⟨_,_,_,e,_⟩,_⟩:=x;exact⟨_,e⟩
 |oz lo hi=>obtain⟨_,_,_,e⟩:=x;exact⟨_,e⟩
 |bw b u=>obtain⟨e,_⟩:=x;exact⟨_,e⟩
 |jd ps=>exact⟨_,x⟩
 |met f y=>exact⟨_,x⟩
 |ext c=>exact x.2.1
section
variable{o:HO}
theorem Inv.ue(I:Inv X J σ H s)(e:s.heap.get? a=none):H a=none:=by
 cases q:H a with
 |none=>rfl
 |some u =>
  obtain⟨b,z⟩:=(I.aI a u q).there;rw[e]at z;cases z
theorem Inv.put(I:Inv X J σ H s)(k:∀b u,s.heap.get? b=ih u->h'.get? b=ih u)(e:s.heap.get? a=none)(new:bF X.prog X.w (upd H a o) h' a o):Inv X J σ (upd H a o) { s with heap:=h' }:=by
 have d:=I.ue e;have ne:∀b u,s.heap.get? b=ih u->b≠a:=λb u q z=>by rw[z,e]at q;cases q
 refine I.un (t':=s.toks) ⟨λb u q n _ _=>k b u q,λb u q n _ _=>⟨u.slots,k b u q⟩,λb u q n _=>by rw[ag (ne b u q)];exact n,λb u q _=>⟨u,k b u q⟩,λb xs q=>by rw[ag (ay q d)];exact q,
  λb u v q=>by rw[ag (ay q d)];exact q,λb ps q=>⟨#[],by rw[ag (ay q d),q];simp⟩⟩ λb u q=>?_
 by_cases f:b=a
 ·subst f;rw[af]at q;cases q;exact new
 ·rw[ag f]at q
  exact(I.aI b u q).ez (λc v _ z=>k c v z) (λc z=>by rw[ag (ay z d)];exact z) λc xs z=>by rw[ag (ay z d)];exact z
end
def cH(C:E8)(dx:Option E8)(a:E8):HO:=.ext λh=>∃t,h.get? a=ih { cls:=.ref C,dict:=dx,data:=.fields #[.ref t,.none,.none,.none,.bool false,.none] }
def ff(d:E8)(fs:List (FF×V)):HO:=.ext λh=>fs.length<=100 /\∃mA,h.Ns1 d mA/\(∀f,ey (fs.lookup f) (mA f))/\YS mA (fs.map (·.1))
section
variable{fs:ac (FF×V)}
theorem tI{t:E8}(e:h.get? a=ih { cls:=.ref C,dict:=dx,data:=.fields #[.ref t,.none,.none,.none,.bool false,.none] }):bF P w H h a (cH C dx a):=
 ⟨⟨t,e⟩,⟨_,e⟩,λ_ _ ⟨t,q⟩ k=>⟨t,k _ q⟩⟩
theorem Kw(z:fs.length<=100)(n:h.Ns1 d mA)(r:∀f,ey (fs.lookup f) (mA f))(wi:YS mA (fs.map (·.1))):bF P w H h d (ff d fs):=
 ⟨⟨z,mA,n,r,wi⟩,(let ⟨o,_,_,e,_⟩:=n;⟨o,e⟩),λ_ _ ⟨z,mA,n,r⟩ k=>⟨z,mA,n.at k,r⟩⟩
end
section
variable{fs:ac (FF×V)}{f:FF}
theorem Inv.excAt(I:Inv X J σ H s)(e:H a=ih (cH C dx a)):∃t,s.heap.get? a=ih { cls:=.ref C,dict:=dx,data:=.fields #[.ref t,.none,.none,.none,.bool false,.none] }:=(I.aI a _ e).1
theorem Inv.tJ(I:Inv X J σ H s)(e:H d=ih (ff d fs)):fs.length<=100 /\∃mA,s.heap.Ns1 d mA/\(∀f,ey (fs.lookup f) (mA f))/\YS mA (fs.map (·.1)):=(I.aI d _ e).1
theorem Ht{Q:Unit->UN->Prop}(I:Inv X J σ H s)(e:H a=ih (cH C none a))(c:eV X.K C)(no:Yt X.K (.ref C) f=ih none)(Z:RelV y u)
  (h:∀d s',H d=none->d≠a->Inv X J σ (upd (upd H d (ff d [(f,y)])) a (cH C (ih d) a)) s'->Q () s'):UQ X.c5 A (setAttr (.ref a) f u) Q E s:=by
 obtain⟨t,r⟩:=I.excAt e;have N:InstAt s.heap a _ C none:=⟨r,rfl,rfl,VI⟩;refine UU I.bU N c.sa (Ig (s:={ s with toks:=s.toks+1 }) I.bU N c no ?_);obtain⟨cls,W,Qu⟩:=rS c.hd;refine ae (ao (ae (show UQ _ _ (instanceDict a true) _ _ _ from ?_)));refine ae (vX (s:={ s with toks:=s.toks+1 }) r (ae (aaj (s:={ s with toks:=s.toks+1 }) (looks_clsIn I.bU W) ?_)));rw[Qu];refine ae (wpAny_alloc ?_);have fresh:s.heap.get? s.aj=none:=rN (aQ _);have l:a≠s.aj:=bM (bx r);have L:(s.heap.push { cls:=.type "dict",data:=.dict #[] }).get? a=_:=a7 _ r;refine ae (wpAny_update (s:={ s with heap:=s.heap.push { cls:=.type "dict",data:=.dict #[] },toks:=s.toks+1 }) L (ao ?_));generalize D:(s.heap.push { cls:=.type "dict",data:=.dict #[] }).update a (λo=>{ o with dict:=ih s.aj })=h1;have w:h1.get? a=ih { cls:=.ref C,dict:=ih s.aj,data:=.fields #[.ref t,.none,.none,.none,.bool false,.none] }:=by
  rw[<-D];exact oQ _ L rfl
 have M:∀b o,b≠a->s.heap.get? b=ih o->h1.get? b=ih o:=λb o j q=>by
  rw[<-D,kc _ _ (aT j)];exact a7 _ q
 have S:h1.get? s.aj=ih { cls:=.type "dict",data:=.dict #[] }:=by
  rw[<-D,kc _ _ l];exact bW _ rfl
 have ya:h1.Ns1 s.aj (λ_=>none):=Z9 ⟨_,#[],_,S,rfl,(λe za=>absurd za (by simp)),λ_=>rfl⟩
 refine ae (ao (ae (wpAny_nsSet1 (s:={ s with heap:=h1,toks:=s.toks+1 }) ya λh2 O F=>?_)));have xb:YS (λ_=>none) ([]:ac FF):=λg G=>absurd rfl G;obtain⟨ze,xd,yd,T,U,V⟩:=O.count (UW f u xb);refine ae (wpAny_lookBehind T (by rw[U];exact pastItsLine_dict (en V (by rw[cV,jq,aW];decide))) (ao ?_))
 refine h s.aj _ (I.ue fresh) (aT l) ?_;have Y:=I.ue fresh;have zc:∀b o,b≠a->s.heap.get? b=ih o->h2.get? b=ih o:=λb o j q=>(F.2 b (λz=>by rw[z,fresh]at q;cases q)).trans (M b o j q)
 have zd:h2.get? a=_:=(F.2 a l).trans w;have xe:upd H s.aj (ff s.aj [(f,y)]) a=ih (cH C none a):=by rw[ag l];exact e
 have yb:Inv X J σ (upd H a (cH C (ih s.aj) a)) { s with heap:=h1,toks:=s.toks+1 }:=by
  refine I.write (x:=a) (e:=a) (by rw[e];exact VI) (.inl rfl) (λb u j q=>M b u j q) ⟨_,w⟩ (tI w)
 have k:upd H a (cH C (ih s.aj) a) s.aj=none:=by rw[ag (aT l)];exact Y
 have zb:upd (upd H s.aj (ff s.aj [(f,y)])) a (cH C (ih s.aj) a)=upd (upd H a (cH C (ih s.aj) a)) s.aj (ff s.aj [(f,y)]):=by
  funext b
  unfold upd
  by_cases h1:b=a
  ·subst h1;rw[aF rfl,aq l,aF rfl]
  ·rw[aq h1]
   by_cases h2:b=s.aj
   ·rw[aF h2,aF h2]
   ·rw[aq h2,aq h2,aq h1]
 rw[zb];have ye:upd H a (cH C (ih s.aj) a) a=ih (cH C (ih s.aj) a):=af;have fp:f3 X J (upd H a (cH C (ih s.aj) a)) s.aj:=by
  have z:=I.hS (H':=upd H a (cH C (ih s.aj) a)) (aQ _) k;exact z
 have i:Inv X J σ (upd H a (cH C (ih s.aj) a)) { s with heap:=h2,toks:=s.toks+2 }:=
  Inv.turned (s:={ s with heap:=h1,toks:=s.toks+1 }) (h':=h2) yb (it:=s.aj) (t':=s.toks+2) (λb o j q=>(F.2 b j).trans q) fp.1 fp.2.1 fp.2.2.2.1 fp.2.2.2.2.1 fp.2.2.2.2.2
 refine⟨i.ok,i.os,i.bare,?_,i.loc,i.cell,?_,?_,?_,?_,i.len⟩
 ·have B:=i.base
  have xc:∀b o,X.ec.heap.get? b=ih o->b ∉ X.ex->b≠s.aj:=λb o q v z=>by
   obtain⟨o',P⟩:=I.base.there b o q v;rw[z,fresh]at P;cases P
  refine⟨B.keep,B.slot,λb o q n v=>by rw[ag (xc b o q v)];exact B.free b o q n v,B.there,λb xs q=>?_,λb o u q=>?_,λb ps q=>?_⟩
  ·have z:=B.gm b xs q;rw[ag (ay z k)];exact z
  ·have z:=B.gH b o u q;rw[ag (ay z k)];exact z
  ·obtain⟨m,z⟩:=B.gW b ps q;exact⟨m,by rw[ag (ay z k)];exact z⟩
 ·rw[ag (aT fp.2.1)];exact i.free
 ·intro x c q;rw[ag (fp.2.2.2.2.1 x c q)];exact i.eT x c q
 ·intro p R
  obtain⟨yc,p2,p3,p4,p5⟩:=i.pin p R;exact⟨yc,by rw[ag (fp.2.2.2.2.2 p R)];exact p2,p3,p4,p5⟩
 ·intro b o q
  by_cases j:b=s.aj
  ·subst j
   rw[af]at q;cases q;refine Kw (by simp) O (λg=>?_) (λg G=>?_)
   ·show ey (VP g [(f,y)]) (if g=f then ih u else none)
    rw[dt]
    by_cases q:g=f
    ·rw[aF q,dJ.mpr q];exact Z
    ·rw[aq q,iJ.mpr q];exact VI
   ·by_cases q:g=f
    ·rw[q];simp
    ·exact absurd (aq q) G
  ·rw[ag j]at q
   exact(i.aI b o q).ez (λ_ _ _ z=>z) (λc z=>by rw[ag (ay z k)];exact z) λc xs z=>by rw[ag (ay z k)];exact z
end
end L2
namespace L2
open Spec PyProof.Rows W
mutual
inductive Rep(H:Hp):V->UR->Prop where
 |aO:Rep H .aO .none
 |bl (b:Bool):Rep H (.bl b) (.bool b)
 |int (i:Int):Rep H (.int i) (.int i)
 |str (x:FF):Rep H (.str x) (.str x)
 |lst {a:E8}{xs:List V}{ds:List UR}:H a=ih (.lst xs)->bL H xs ds->Rep H (.ref a) (.list ds)
 |tup {a:E8}{xs:List V}{ds:List UR}:H a=ih (.tup xs)->bL H xs ds->Rep H (.ref a) (.tuple ds)
inductive bL(H:Hp):List V->List UR->Prop where
 |nil:bL H [] []
 |cons {x:V}{d:UR}{xs:List V}{ds:List UR}:Rep H x d->bL H xs ds->bL H (x::xs) (d::ds)
end
section
mutual
theorem Rep.reads(I:Inv X J σ H s):∀{v:V}{d:UR}{u:i'},Rep H v d->RelV v u ->∃f,Reads s.heap u d f
 |_,_,_,.aO,r=>by cases r;exact⟨_,.none⟩
 |_,_,_,.bl b,r=>by cases r;exact⟨_,.bool b⟩
 |_,_,_,.int i,r=>by obtain⟨t,rfl⟩:=r;exact⟨_,.int i t⟩
 |_,_,_,.str x,r=>by obtain⟨t,rfl⟩:=r;exact⟨_,.str x t⟩
 |_,_,_,.lst (a:=a) (xs:=xs) e rs,r=>by
  cases r
  obtain⟨_,its,n,g,c⟩:=(show bF X.prog X.w H s.heap a (.lst xs) from I.aI a _ e);obtain⟨f,h⟩:=bL.reads I rs g;exact⟨_,.list c rfl rfl h⟩
 |_,_,_,.tup (a:=a) (xs:=xs) e rs,r=>by
  cases r
  obtain⟨_,its,g,l,c,j,n,k,_⟩:=(show bF X.prog X.w H s.heap a (.tup xs) from I.aI a _ e);obtain⟨f,h⟩:=bL.reads I rs g;exact⟨_,.tuple c j k h⟩
theorem bL.reads(I:Inv X J σ H s):∀{vs:ac V}{ds:ac UR}{us:ac i'},bL H vs ds->Vals vs us ->∃a,ReadsAll s.heap us ds a
 |_,_,_,.nil,r=>by cases r;exact⟨_,.nil⟩
 |_,_,_,.cons r rs,b=>by
  cases b with
  |cons q c =>
   obtain⟨a,h1⟩:=Rep.reads I r q;obtain⟨bs,h2⟩:=bL.reads I rs c;exact⟨_,.cons h1 h2⟩
end
mutual
theorem Rep.same:∀{v:V}{d:UR},Rep H v d->ax H H'->Rep H' v d
 |_,_,.aO,_=>.aO
 |_,_,.bl b,_=>.bl b
 |_,_,.int i,_=>.int i
 |_,_,.str x,_=>.str x
 |_,_,.lst e rs,k=>.lst (k _ _ e) (bL.same rs k)
 |_,_,.tup e rs,k=>.tup (k _ _ e) (bL.same rs k)
theorem bL.same:∀{vs:ac V}{ds:ac UR},bL H vs ds->ax H H'->bL H' vs ds
 |_,_,.nil,_=>.nil
 |_,_,.cons r rs,k=>.cons (Rep.same r k) (bL.same rs k)
end
end
def DT:R2:=λx y H Q=>∃da db,Rep H x da/\Rep H y db/\da.canLay0=true/\db.canLay0=true/\da.depth<=60/\Q (.bl (Yh da db)) H
def DU:R2:=λx y H Q=>∃da db,Rep H x da/\Rep H y db/\da.canLay0=true/\db.canLay0=true/\da.depth<=60/\Q (.bl (!Yh da db)) H
theorem uf(g:X.A.units+64<Y'):cu X (VW .Eq) DT:=by
 rintro J s σ H x y v u Q I a b ⟨i,db,c,d,e,f,j,q⟩;obtain⟨k,h1⟩:=c.reads I a;obtain⟨bs,h2⟩:=d.reads I b;exact SeqAt.compareEq_reads h1 h2 e f (by omega) ⟨.bl _,H,I,rfl,q⟩
theorem qc(g:X.A.units+64<Y'):cu X (VW .NotEq) DU:=by
 rintro J s σ H x y v u Q I a b ⟨i,db,c,d,e,f,j,q⟩;obtain⟨k,h1⟩:=c.reads I a;obtain⟨bs,h2⟩:=d.reads I b;exact SeqAt.compareNe_reads h1 h2 e f (by omega) ⟨.bl _,H,I,rfl,q⟩
def OG(vx:Bool):R2:=λx y H Q=>∃d ds,Rep H x d/\(Rep H y (.list ds)\/Rep H y (.tuple ds))/\d.canLay0=true/\Yj ds=true/\d.depth<=60 /\
 Q (.bl (if vx then !(ds.any λy=>Yh y d) else ds.any λy=>Yh y d)) H
theorem C4(g:X.A.units+64<Y'):cu X (VW .In) (OG false):=by
 rintro J s σ H x y v u Q I e a ⟨d,ds,f,r2,b,c,i,q⟩;obtain⟨j,h1⟩:=f.reads I e;rcases r2 with r2|r2
 ·obtain⟨bs,h2⟩:=r2.reads I a
  exact SeqAt.in_list_reads h2 h1 c b (by omega) ⟨.bl _,H,I,rfl,q⟩
 ·obtain⟨bs,h2⟩:=r2.reads I a
  exact SeqAt.in_tuple_reads h2 h1 c b (by omega) ⟨.bl _,H,I,rfl,q⟩
def uA(H:Hp)(x:V):Prop:=(∃z:FF,x=.str z/\z.length<=100000)\/x=.aO \/∃a d,x=.ref a/\Rep H x d/\d.showable=true/\d.hasDict=false/\d.depth<=50/\d.shown.length<=100000
def OH(te:TE):TE:=λσ H Q=>te σ H λx Y=>uA Y x /\∀y:FF,y.length<=100000->Q (.str y) Y
theorem C5(p:X.A.units+64<Y')(i:X.A.guards=ih [])(j:PE X e te):PE X (.FormattedValue e (-1) none pos) (OH te):=by
 intro J s σ H Q I h;refine wpAny_FormattedValue_plain (aG (j J s σ H _ I h) λv s1 B=>?_);obtain⟨x,Y,b,c,f,q⟩:=B;rcases f with⟨z,rfl,g⟩|rfl|⟨a,d,rfl,l,m,n,w,o⟩
 ·obtain⟨t,rfl⟩:=c
  exact wpAny_formatField_str ⟨.str z,Y,b,⟨_,rfl⟩,q z g⟩ ⟨.str z,Y,b.tok _,⟨_,rfl⟩,q z g⟩ (by rw[aW];omega)
 ·cases c
  exact wpAny_formatField_none ⟨.str "None",Y,b.tok _,⟨_,rfl⟩,q _ (by decide)⟩
 ·obtain⟨y,r⟩:=l.reads b c
  cases c
  exact formatField_of_reads r m (λz=>by rw[n]at z;cases z) i (by omega) (λ_ _ z=>z) (λh' u tk k=>⟨.str d.shown,Y,b.kept k,⟨_,rfl⟩,q _ o⟩) (by rw[aW];omega)
def PJ(X:Cx)(vs:List VD)(n:Nat)(t:St->Hp->(Hp->Prop)->Prop):Prop:=
 ∀J s σ H (cA:FF) (Q:Hp->Prop),cA.length+n * 100000<=2000000->Inv X J σ H s->t σ H Q ->
  Joins X.c5 X.A X.xe (evalEach vs X.env) cA (λout s1=>out.length<=2000000 /\∃Y,Inv X J σ Y s1/\Q Y) s
def L4(te:TE)(tr:St->Hp->(Hp->Prop)->Prop):St->Hp->(Hp->Prop)->Prop:=λσ H Q=>te σ H λx Y=>(∃y:FF,x=.str y/\y.length<=100000)/\tr σ Y Q
def L5:St->Hp->(Hp->Prop)->Prop:=λ_ H Q=>Q H
theorem C6:PJ X [] 0 L5:=λJ s σ H a Q b I h=>⟨by omega,H,I,h⟩
theorem pS{v:VD}{vs:ac VD}{n:Nat}{tr:St->Hp->(Hp->Prop)->Prop}(c:PE X v te)(d:PJ X vs n tr):PJ X (v::vs) (n+1) (L4 te tr):=by
 intro J s σ H a Q i I h;refine aG (c J s σ H _ I h) λu s1 ⟨x,Y,f,g,⟨y,e,j⟩,q⟩=>?_;subst e;obtain⟨t,rfl⟩:=g;have b:(a++y).length=a.length+y.length:=strLen_append ..;exact⟨y,t,rfl,by rw[b,aW];omega,d J s1 σ Y (a++y) Q (by rw[b];omega) f q⟩
def MW(tr:St->Hp->(Hp->Prop)->Prop):TE:=λσ H Q=>tr σ H λY=>∀y:FF,y.length<=2000000->Q (.str y) Y
theorem Cu{f g:VD}{rest:ac VD}{n:Nat}{tr:St->Hp->(Hp->Prop)->Prop}(i:PJ X (f::g::rest) n tr)(r:n<=20:=by decide):PE X (.JoinedStr (f::g::rest) pos) (MW tr):=by
 intro J s σ H Q I h;have z:=i J s σ H Z1 _ (by have:Z1.length=0:=rfl;omega) I h
 refine wpAny_JoinedStr ?_;have mono:∀(l:ac (Zr i')) (c:FF) (P b:FF->UN->Prop) (s:UN),(∀o s,P o s->b o s)->Joins X.c5 X.A X.xe l c P s->Joins X.c5 X.A X.xe l c b s:=by
  intro l
  induction l with
  |nil=>intro c P b s k q;exact k _ _ q
  |cons a l j=>intro c P b s k q;exact aG q λv s1 ⟨y,t,e,d,m⟩=>⟨y,t,e,d,j _ P b s1 k m⟩
 refine mono _ _ _ _ _ ?_ z;rintro o s1 ⟨d,Y,p,q⟩;exact⟨by rw[aW];omega,.str o,Y,p.tok _,⟨_,rfl⟩,q o d⟩
end L2
namespace L2
open Spec PyProof.Rows W
section
variable{Q:VK}{CX:gL}{k:Nat}{E:XK}{p:Pos}{t:TA}
theorem Ji(q:fZ X.K C (ih (.ref fI))=true)(l:isFn X.K (.ref fI)=true)(F:aU X.prog X.w X.K X.mg X.base CX k fI fd ps sp)(m:a4 (k+1) X.A)(n:Binds X.K fd ps [])(o:Passes CX X E)(I:Inv X J σ H s)(r:Vals vs us)(a5:us.length<=100)
  (h:∀e,H e=none->sp (.ref e::vs) (upd H e (cH C none e)) (λv H2=>v=.aO/\Q (.ref e) H2) E):wA X (call (.ref C) us) (EP X J σ Q) X.xe s:=by
 obtain⟨⟨up,N,O,qn,bs,P,R,S,U,M,od,W,Y,Z,xa,ya,mN,i,ns,p,T⟩⟩:=pf I.bU q;obtain⟨oI,lk,oc⟩:=gz.mp (show(X.K.lookup fI).map (·.cls)=ih (.type "function") from dJ.mp l);have h1:=h (s.heap.objs.size+1) (I.aI.fresh (gc _));have bU:=I.bU;have b:Inv X J σ (upd H (s.heap.objs.size+1) (cH C none (s.heap.objs.size+1))) { s with heap:=ip s.heap C us }:=I.put (λ_ _ z=>m6 z) (rN (gc _)) (tI A1);have e0:=b.qF.make C us [];have j:=m.make C us [];have f:Vals (V.ref (s.heap.objs.size+1)::vs) (U6 (s.heap.objs.size+1)::us):=.cons rfl r;have t:(U6 (s.heap.objs.size+1)::us).length=ps.length:=by rw[<-f.length];exact F.len _ _ _ _ h1
 have c:=n { s with heap:=ip s.heap C us } (U6 (s.heap.objs.size+1)::us) b.bU (by rw[eZ];exact t)
 rw[eZ]at c;have run:=F.run _ X.stack _ _ ⟨U6 (s.heap.objs.size+1)::us,[]⟩ (U6 (s.heap.objs.size+1)::us) _ _ E j e0 c f h1;obtain⟨x,g,d,tk,os⟩:=s;refine Gd Vb T i ns p (bU _ _ lk) oc (by rw[aW];omega) (j9 (ly run λr s' a=>?_))
 cases r with
 |error e=>exact o J σ _ _ e s' b a
 |ok y =>
  cases y with
  |ret u =>
   obtain⟨v,H',B,D,G,L⟩:=b.after a;subst G;exact⟨D,.ref (x.objs.size+1),H',B,rfl,L⟩
  |next=>exact Vr a
  |brk=>exact Vr a
  |cont=>exact Vr a
def MX(C:E8)(sp:Sp)(E:XK)(t:TA):TE:=λσ H Q=>t σ H λvs Y=>vs.length<=100 /\∀e,Y e=none->sp (.ref e::vs) (upd Y e (cH C none e)) (λv H2=>v=.aO/\Q (.ref e) H2) E
theorem Cv(q:fZ X.K C (ih (.ref fI))=true)(d:isFn X.K (.ref fI)=true)(kp:YF X.K (.ref C)=true)(F:aU X.prog X.w X.K X.mg X.base CX k fI fd ps sp)(f:a4 (k+1) X.A)(g:Binds X.K fd ps [])(i:Passes CX X E)
  (j:Gl X x) (l:X.mg x=ih (.ref C)) (m:PA X (e::es) t) (b:(x==("__debug__" : FF))=false:=by decide)
  (n:Ve (e::es) X.env=(false,eval e X.env)::Ve es X.env:=by rfl) (c:(backTo pos (Ve es X.env)).any (·.1)=false:=by rfl):PE X (.Call (.Name x p) (e::es) [] pos) (MX C sp E t):=by
 intro J s σ H Q I h;refine mV (l2 I j l ?_ b);refine callWith_K (h₀:=X.base) I.ok.mod.lb kp (aG (m pos J s σ H _ I h) λus s1 ⟨vs,Y,a,r,a5,o⟩=>⟨a.bU,?_⟩) n c;exact Ji q d F f g i a r (by show us.length<=100;rw[<-r.length];exact a5) o
structure nS(K:YA)(B:E8):Prop where
 rd:readsIn K B (.type "type")=true
 ga:specialIn K (.ref B) "__getattribute__" = ih (ih (.builtin "type.__getattribute__"))
 fi:findCls K (.ref B) (.type "type") "__init__" = ih (.val (.builtin "ValueError.__init__"))
theorem Gv{i:ad i'}(c:eV X.K C)(q:fZ X.K C i=true)(I:Inv X J σ H s)(e:H a=ih (cH C dx a))(h:Q .aO H) :
  wA X (call (.builtin "ValueError.__init__") [.ref a,u]) (EP X J σ Q) X.xe s:=by
 obtain⟨t,l⟩:=I.excAt e;obtain⟨⟨up,N,w,qn,bs,y,A,B,D,v,od,E,G,L,M,O,mN,n,ns,P,T⟩⟩:=pf I.bU q;have FI:=Vb;obtain⟨f,g,d,tk,os⟩:=s;refine j9 (v' FI.init.plain FI.initEntry (wpAny_check_init_subT (rest:=[u]) FI T n l rfl ?_));have p:(f.push { cls:=.type "tuple",data:=.seq #[u] }).get? a=ih { cls:=.ref C,dict:=dx,data:=.fields #[.ref t,.none,.none,.none,.bool false,.none] }:=a7 _ l;have m:((f.push { cls:=.type "tuple",data:=.seq #[u] }).update a (ZX λz=>z.setIfInBounds 0 (.ref f.objs.size))).get? a=ih { cls:=.ref C,dict:=dx,data:=.fields #[.ref f.objs.size,.none,.none,.none,.bool false,.none] }:=oQ _ p rfl;have r:∀k,EP X J σ Q .none ⟨(f.push { cls:=.type "tuple",data:=.seq #[u] }).update a (ZX λz=>z.setIfInBounds 0 (.ref f.objs.size)),g,d,k,os⟩:=λk=>by
  refine⟨.aO,upd H a (cH C dx a),?_,rfl,?_⟩
  ·exact Inv.write (s:=⟨f,g,d,tk,os⟩) I (x:=a) (e:=a) (t':=k) (by rw[e];exact VI) (.inl rfl) (λb o j z=>by rw[kc _ _ (aT j)];exact a7 _ z) ⟨_,m⟩ (tI m)
  ·have:upd H a (cH C dx a)=H:=by
    funext b;unfold upd
    by_cases j:b=a
    ·rw[aF j,j,e]
    ·rw[aq j]
   rw[this];exact h
 wp_walk
 exact r _
def Ij(X:Cx)(t:TA):TE:=λσ H Q=>t σ H λvs Y=>∃a C dx y i,vs=[.ref a,y]/\Y a=ih (cH C dx a)/\eV X.K C/\fZ X.K C i=true/\Q .aO Y
theorem Ad{pl:Zr Bool}(b:nS X.K B)(k:Gl X x)(l:X.mg x=ih (.ref B))(m:PA X (e::es) t)(g:(x==("__debug__" : FF))=false:=by decide)
  (n:Ve (e::es) X.env=(false,eval e X.env)::Ve es X.env:=by rfl) (j:(backTo pos (Ve es X.env)).any (·.1)=false:=by rfl)
  (o:eval (.Call (.Attribute (.Name x p) "__init__" Qe) (e::es) [] pos) X.env=(do
   let d <- eval (.Name x p) X.env
   standAt Qe.atName
   let (f,first) <- holding [d] (getMethod d "__init__" pl)
   callWith pos f first (backTo pos (Ve (e::es) X.env)) (backToKw pos (keywordEach [] X.env))):=by rfl) :
  PE X (.Call (.Attribute (.Name x p) "__init__" Qe) (e::es) [] pos) (Ij X t):=by
 intro J s σ H Q I h;refine methodCall_KW (pl:=pl) (l2 I k l ?_ g) o;refine method_cls I.bU b.ga (cls_value I.bU b.rd b.fi rfl ?_);refine E7 (aG (m pos J { s with toks:=s.toks+1 } σ H _ (I.tok _) h) λus s1 G=>?_) n j;obtain⟨vs,Y,r,u,v⟩:=G;obtain⟨a,C,dx,y,i,rfl,w,c,z,q⟩:=v;obtain⟨D,E,rfl,A,F⟩:=u.two;cases A
 exact Gv c z r w q
end
section
variable{o:VD}{f:FF}
def MY(X:Cx)(ta tv:TE)(f:FF):TS:=λD σ H=>tv σ H λy Y=>ta σ Y λx H2=>∃a C,x=.ref a/\H2 a=ih (cH C none a)/\eV X.K C/\Yt X.K (.ref C) f=ih none /\
 ∀d,H2 d=none->d≠a->D.nx σ (upd (upd H2 d (ff d [(f,y)])) a (cH C (ih d) a))
theorem Cw(b:PE X o ta)(e:PE X value tv)(g:swapsWith value (ih (.Attribute o f Qh)) pos.line X.env=pure false:=by rfl):PS X (.Assign [.Attribute o f Qh] value pos) (MY X ta tv f):=by
 intro J s σ H D I h;refine UX (aG (e J s σ H _ I h) λu s1 ⟨y,Y,i,j,q⟩=>aG (b J s1 σ Y _ i q) λk s2 w=>?_) g;obtain⟨x,H2,l,m,a,C,ex,p,c,n,r⟩:=w;subst ex;obtain rfl:k=U6 a:=m;exact Ht l p c n j λd v h1 h2 t=>⟨σ,_,t,r d h1 h2⟩
def DV(K:YA):List V->Hp->VK->Prop:=λxs H Q=>∃x c t cv b,xs=[x,c]/\RelV c cv/\(gJ K H x t \/∃a C dx,x=.ref a/\t=.ref C/\H a=ih (cH C dx a)/\eV K C/\(∀d,dx=ih d ->∃fs,H d=ih (ff d fs)))/\kitOne K t cv=ih b/\Q (.bl b) H
theorem lU:cX X (.builtin "isinstance") (λxs H Q=>(∃x,(∃C,xs=[x,.ref C])\/(∃T,xs=[x,.ty T]))/\DV X.K xs H Q):=by
 rintro J s σ H xs us Q I r ⟨o,x,c,t,p,b,rfl,j,ty,e,q⟩;obtain⟨u,v,rfl,k,g⟩:=r.two;have l:v=p:=by
  obtain⟨B,⟨C,z⟩|⟨T,z⟩⟩:=o
  ·cases z;cases j;cases g;rfl
  ·cases z;cases j;cases g;rfl
 subst l;rcases ty with ty|⟨a,C,dx,rfl,rfl,w,c,y⟩
 ·exact H9 I k ty e λtk=>⟨.bl b,H,I.tok _,rfl,q⟩
 ·cases k
  obtain⟨t,i⟩:=I.excAt w;cases dx with
  |none =>
   have f:InstAt s.heap a _ C none:=⟨i,rfl,rfl,VI⟩;exact kia_one (BJ c) I.bU f e (λz=>nomatch z) λtk=>⟨.bl b,H,I.tok _,rfl,q⟩
  |some d =>
   obtain⟨fs,A⟩:=y d rfl;obtain⟨_,mA,n,_⟩:=I.tJ A;obtain⟨od,m,_⟩:=pb n;have f:InstAt s.heap a _ C (ih od):=⟨i,rfl,rfl,m⟩;exact kia_one (BJ c) I.bU f e (λz=>nomatch z) λtk=>⟨.bl b,H,I.tok _,rfl,q⟩
end
def oD(K:YA)(l:E8):It:=
 ⟨λi H=>∃xs x,ak K H l xs/\xs[i]?=ih x,λi H x H'=>∃t v,H t=none/\x=.ref t/\(∀xs,ak K H l xs->xs[i]?=ih v)/\H'=upd H t (.tup [.int i,v]),λi H=>∃xs,ak K H l xs/\xs.length<=i⟩
theorem Ik(l e it:E8)(R:e≠it) :
  Turn P w K (.Tuple Qv n1 tp) (oD K l) [e,it] e (λi h=>(∃f,IsEnum h e it i f)/\h.IsListIter it l i) where
 mem:=by simp
 obj:=λi h st b a=>by
  obtain⟨⟨f,h1⟩,h2⟩:=st;rcases bJ.mp a with z|z
  ·subst z;exact⟨_,h1,λv q=>by cases q⟩
  ·have A:b=it:=by simpa using z
   subst A;obtain⟨o,q,_,d⟩:=h2;exact⟨o,q,λv z=>by rw[d]at z;cases z⟩
 keep:=λi h h' st k=>by
  obtain⟨⟨f,h1⟩,h2⟩:=st;exact⟨⟨f,k e (by simp) _ h1⟩,h2.at λo q=>k it (by simp) o q⟩
 item:=by
  intro X F G L hc i J s σ H E I B st M;subst F G L;obtain⟨xs,x,C,N⟩:=M;obtain⟨its,O,p,T⟩:=I.list C;obtain⟨u,U,V⟩:=O.get N;obtain⟨⟨f,h1⟩,h2⟩:=st;have j:=B e (by simp)
  have fi:=B it (by simp)
  refine wpAny_pyNext_enum_item h1 h2 p.isList (x:=u) (by simpa using U) R λh' e1 W Y z1 Z=>⟨_,rfl,?_⟩
  refine wpAny_letOwnedTupleGo_enum (s:={ s with heap:=h',toks:=s.toks+1 }) e1 λD e2 Q=>?_;have S:e≠s.heap.objs.size:=bM (bx h1);have t:∀b o,b≠e->b≠it->s.heap.get? b=ih o->D.get? b=ih o:=λb o n1 xa q=>(Q.2 b n1).trans (Z b o n1 xa q);have ya:D.get? s.heap.objs.size=ih { cls:=.type "tuple",data:=.seq #[.int i s.toks,u] }:=(Q.2 _ (aT S)).trans Y;have y:H s.heap.objs.size=none:=I.aI.fresh (aQ _);have lt:∀b o,s.heap.get? b=ih o->b≠s.heap.objs.size:=λb o q=>bM (bx q);have g5:∀b o,H b=ih o->b≠e/\b≠it:=λb o q=>⟨(λz=>by rw[z,j.1]at q;cases q),(λz=>by rw[z,fi.1]at q;cases q)⟩
  have g:∀b,b ∉ [e,it]->b≠e/\b≠it:=λb a=>⟨λz=>a (by simp[z]),λz=>a (by simp[z])⟩
  have za:Inv X J σ (upd H s.heap.objs.size (.tup [.int i,x])) { s with heap:=D,toks:=s.toks+1 }:=by
   refine I.step (g':=s.gens) (d':=s.drawn) (t':=s.toks+1) (ch:=[e,it]) (λb a=>?_) (λb o _ _ hc q _=>t b o (g b hc).1 (g b hc).2 q) (λb o _ _ hc q _=>⟨o.slots,t b o (g b hc).1 (g b hc).2 q⟩)
    (λb o _ q n=>by rw[ag (lt b o q)];exact n) (λb o hc q=>⟨o,t b o (g b hc).1 (g b hc).2 q⟩) (λb ys q=>by rw[ag (ay q y)];exact q) (λb o v q=>by rw[ag (ay q y)];exact q)
    (λb ps q=>⟨#[],by rw[ag (ay q y),q];simp⟩) (λm xb=>?_) (λb o q=>?_) I.bare
   ·rcases bJ.mp a with z|z
    ·subst z;exact⟨j.2.2.2.1,j.2.1,j.2.2.2.2.1,j.2.2.2.2.2⟩
    ·have A:b=it:=by simpa using z
     subst A;exact⟨fi.2.2.2.1,fi.2.1,fi.2.2.2.2.1,fi.2.2.2.2.2⟩
   ·obtain⟨o,es,ep,yb,r⟩:=xb
    exact⟨o,es,ep,t _ o (aT j.2.1) (aT fi.2.1) yb,r⟩
   ·by_cases a:b=s.heap.objs.size
    ·subst a
     rw[af]at q;cases q;exact⟨by rw[aW];show 2<=_;decide,[.int i s.toks,u],.cons ⟨_,rfl⟩ (.cons V .nil),_,ya,rfl,_,rfl,rfl⟩
    ·rw[ag a]at q
     refine(I.aI b o q).ez (λc v hc z=>?_) (λc z=>by rw[ag (ay z y)];exact z) λc ys z=>by rw[ag (ay z y)];exact z
     rcases hc with hc|hc
     ·subst hc;exact t _ v (g5 _ _ q).1 (g5 _ _ q).2 z
     ·exact t c v (g5 _ _ hc).1 (g5 _ _ hc).2 z
  refine⟨.ref s.heap.objs.size,_,za,rfl,⟨s.heap.objs.size,x,y,rfl,λys zb=>by rw[I.BC zb C];exact N,rfl⟩,⟨⟨u,e2⟩,?_⟩,λb a=>?_⟩
  ·exact W.extBut Q.extBut (aT R)
  ·have:b≠s.heap.objs.size:=by
    rcases bJ.mp a with z|z
    ·rw[z];exact S
    ·have A:b=it:=by simpa using z
     obtain⟨o,q,_⟩:=h2;rw[A];exact lt _ _ q
   rw[ag this];exact(B b a).1
 done:=by
  intro X F G L hc i J s σ H E I B st M;subst F G L;obtain⟨xs,C,N⟩:=M;obtain⟨its,O,p,T⟩:=I.list C;obtain⟨⟨f,h1⟩,h2⟩:=st;have fi:=B it (by simp)
  have yc:=O.length;exact wpAny_pyNext_enum_end (I.ok.hd hc) h1 h2 p.isList (by simp;omega) λh' xc=>⟨rfl,I.turned (t':=s.toks) (λb o a q=>xc b o a q) fi.1 fi.2.1 fi.2.2.2.1 fi.2.2.2.2.1 fi.2.2.2.2.2⟩
 self:=λ_ _ _ _ _ st h=>let ⟨⟨_,h1⟩,_⟩:=st;wpAny_pyIter_enum h1 h
def MZ(K:YA)(ta:TA):TI:=λσ H R=>ta σ H λvs Y=>∃a,vs=[.ref a]/\(∃xs,ak K Y a xs)/\R (oD K a) Y
theorem Kx{a:VD}{ta:TA}{p:Pos}(d:Gl X "enumerate")(f:X.mg "enumerate" = none)(g:PA X [a] ta)(i:Ve [a] X.env=[(false,eval a X.env)]:=by rfl) :
  PI X (.Tuple Qv n1 tp) (.Call (.Name "enumerate" p) [a] [] pos) (MZ X.K ta):=by
 intro J s σ H R I h;refine Call_ (kG I d f (show Vv "enumerate" = ih (.type "enumerate") by decide +kernel) (vV (aG (g pos J s σ H _ I h) λus s1 C=>?_) i rfl));obtain⟨vs,Y,c,j,k⟩:=C
 obtain⟨l,e,⟨xs,m⟩,q⟩:=k;subst e;obtain⟨u,rfl,n⟩:=j.one;cases n
 obtain⟨its,y,o,A⟩:=c.list m;refine call_enumerate_list o.isList λh' e1 r B t=>?_;have v:Inv X J σ Y { s1 with heap:=h' }:=c.kept (t':=s1.toks) t;refine wpAny_pyIter_enum (s:={ s1 with heap:=h' }) e1 ?_;refine⟨s1.aj+1,[s1.aj+1,s1.aj],_,_,Y,rfl,v,Ik l (s1.aj+1) s1.aj (Nat.succ_ne_self _),⟨⟨.none,e1⟩,r⟩,λb w=>?_,q⟩;rcases bJ.mp w with z|z
 ·subst z;exact c.hS (gc _) (c.aI.fresh (gc _))
 ·have x:b=s1.aj:=by simpa using z
  subst x;exact c.hS (aQ _) (c.aI.fresh (aQ _))
theorem o8:∀{ys:ac FF}{us:ac i'},Vals (ys.map V.str) us->Yz us ys:=by
 intro ys
 induction ys with
 |nil=>intro us r;cases r;exact .nil
 |cons y ys a =>
  intro us r;cases r with
  |cons q b =>
   obtain⟨t,rfl⟩:=q;exact .cons _ _ (a b)
def rJoin(K:YA):V->List V->Hp->VK->Prop:=λx vs H Q=>∃(z:FF) (p:E8) (ys:List FF),x=.str z/\vs=[.ref p]/\(ak K H p (ys.map V.str)\/aA K H p (ys.map V.str))/\(ys.map (·.length)).sum+ys.length * z.length<=1000000/\Q (.str (aa6 z ys)) H
theorem Ky:vw X "str.join" (rJoin X.K):=by
 rintro J s σ H x xs v us Q I b c ⟨z,p,ys,rfl,rfl,hp,e,q⟩;obtain⟨t,rfl⟩:=b;obtain⟨u,rfl,d⟩:=c.one;cases d
 rcases hp with hp|hp
 ·obtain⟨its,r,a,_⟩:=I.list hp
  exact join_list a.isList (by simpa using o8 r) (by omega) λt' k=>⟨.str _,H,I.tok _,⟨_,rfl⟩,q⟩
 ·obtain⟨its,r,a,_⟩:=I.tuple hp
  exact join_tuple a (by simpa using o8 r) (by omega) λt' k=>⟨.str _,H,I.tok _,⟨_,rfl⟩,q⟩
def OI:V->Option Int->Option Int->Hp->VK->Prop:=λx lo hi H Q=>∃z:FF,x=.str z/\z.length<=1000000/\Q (.str (Ym z lo hi)) H
theorem L6:mJ X OI:=by
 rintro J s σ H x v vl vu lo hi sl Q I e a f d ⟨z,rfl,g,q⟩;obtain⟨t,rfl⟩:=e;have b:(Ym z lo hi).length<=UP:=en (Txt.slice_le z _ _) (by rw[aW];omega)
 refine⟨"str",_,PySem.F.slot_str_getitem.lookup,typeIs_str _ _ _,?_⟩;cases f with
 |none =>
  cases d with
  |none=>exact wg (l:=none) (u:=none) (st:=none) a rfl (wj ⟨b,λt' k=>⟨.str _,H,I.tok _,⟨_,rfl⟩,q⟩⟩)
  |int j c=>exact wg (l:=none) (u:=ih (j,c)) (st:=none) a rfl (wj ⟨b,λt' k=>⟨.str _,H,I.tok _,⟨_,rfl⟩,q⟩⟩)
 |int i ti =>
  cases d with
  |none=>exact wg (l:=ih (i,ti)) (u:=none) (st:=none) a rfl (wj ⟨b,λt' k=>⟨.str _,H,I.tok _,⟨_,rfl⟩,q⟩⟩)
  |int j c=>exact wg (l:=ih (i,ti)) (u:=ih (j,c)) (st:=none) a rfl (wj ⟨b,λt' k=>⟨.str _,H,I.tok _,⟨_,rfl⟩,q⟩⟩)
def CW(Pv:Nat->List V->St->Hp->Prop)(n i m:Nat)(ys:List V)(τ:St)(H:Hp):Prop:=m=n - i/\i<=n/\Pv i ys τ H
theorem cw_next{Pv:Nat->List V->St->Hp->Prop}{n:Nat}{ys:ac V}{a:St}(h:i<n)(p:Pv (i+1) ys a H):∃b,b<n - i/\CW Pv n (i+1) b ys a H:=⟨n - (i+1),by omega,rfl,h,p⟩
theorem o9{n:Nat}{g:TG}{Q:VK}(Pv:Nat->List V->St->Hp->Prop)(h0:Pv 0 [] e6 (upd Y p (.lst [])))(k:∀i ys a H,Pv i ys a H->H p=bd ys)
  (l:∀i ys a H,i<n->Pv i ys a H->g (.int (lo+i)) a H λd o=>ti d o λb h=>if b=true then te d h λy j=>j p=bd ys/\ys.length<UP /\∃c,c<n - i/\CW Pv n (i+1) c (ys++[y]) d (upd j p (.lst (ys++[y]))) else ∃c,c<n - i/\CW Pv n (i+1) c ys d h)
  (q:∀ys a H,Pv n ys a H->Q (.ref p) H):hQ (j0 lo n) g ti te e6 Q p Y:=by
 refine⟨CW Pv n,⟨n,by simp,bD _,h0⟩,?_⟩
 rintro i m ys a H ⟨rfl,hi,pv⟩;refine⟨k i ys a H pv,?_⟩
 by_cases f:i<n
 ·refine .inr ⟨f,λx s r=>?_⟩
  obtain⟨e3,ex⟩:=r;subst e3 ex;exact l i ys a _ f pv
 ·have e:i=n:=by omega
  subst e;exact .inl ⟨aQ _,q ys a H pv⟩
theorem fk{g:TG}{Q:VK}(Pv:Nat->List V->St->Hp->Prop)(h0:Pv 0 [] e6 (upd Y p (.lst [])))(n:∀i ys c H,Pv i ys c H->H p=bd ys/\ak K H a xs)
  (o:∀i x ys c H,xs[i]?=ih x->Pv i ys c H->g x c H λf q=>ti f q λb j=>if b=true then te f j λy k=>k p=bd ys/\ys.length<UP /\∃d,d<xs.length - i/\CW Pv xs.length (i+1) d (ys++[y]) f (upd k p (.lst (ys++[y]))) else ∃d,d<xs.length - i/\CW Pv xs.length (i+1) d ys f j)
  (r:∀ys c H,Pv xs.length ys c H->Q (.ref p) H):hQ (jZ K a) g ti te e6 Q p Y:=by
 refine⟨CW Pv xs.length,⟨xs.length,by simp,bD _,h0⟩,?_⟩
 rintro i m ys c H ⟨rfl,hi,pv⟩;obtain⟨s,h⟩:=n i ys c H pv;refine⟨s,?_⟩
 by_cases l:i<xs.length
 ·refine .inr ⟨⟨xs,xs[i],h,by simp[l]⟩,λx u t=>?_⟩
  obtain⟨e3,ex⟩:=t;subst e3;exact o i x ys c _ (ex xs h) pv
 ·have e:i=xs.length:=by omega
  subst e;exact .inl ⟨⟨xs,h,aQ _⟩,r ys c H pv⟩
theorem lV{g:TG}{Q:VK}(Pv:Nat->List V->St->Hp->Prop)(h0:Pv 0 [] e6 (upd Y p (.lst [])))(n:∀i ys c H,Pv i ys c H->H p=bd ys/\aA K H a xs)
  (o:∀i x ys c H,xs[i]?=ih x->Pv i ys c H->g x c H λf q=>ti f q λb j=>if b=true then te f j λy k=>k p=bd ys/\ys.length<UP /\∃d,d<xs.length - i/\CW Pv xs.length (i+1) d (ys++[y]) f (upd k p (.lst (ys++[y]))) else ∃d,d<xs.length - i/\CW Pv xs.length (i+1) d ys f j)
  (r:∀ys c H,Pv xs.length ys c H->Q (.ref p) H):hQ (je K a) g ti te e6 Q p Y:=by
 refine⟨CW Pv xs.length,⟨xs.length,by simp,bD _,h0⟩,?_⟩
 rintro i m ys c H ⟨rfl,hi,pv⟩;obtain⟨s,h⟩:=n i ys c H pv;refine⟨s,?_⟩
 by_cases l:i<xs.length
 ·refine .inr ⟨⟨xs,xs[i],h,by simp[l]⟩,λx u t=>?_⟩
  obtain⟨e3,ex⟩:=t;subst e3;exact o i x ys c _ (ex xs h) pv
 ·have e:i=xs.length:=by omega
  subst e;exact .inl ⟨⟨xs,h,aQ _⟩,r ys c H pv⟩
def u4(N N':List FF)(Qd:List (Option Nat))(sc:Zf):Bool:=(VS Qd.length).all λj=>match Qd[j]? with
 |some (ih i)=>(match N[i]? with|some x=>N'[j]? == ih x&&sc.names.lookup x==ih .free|none=>false)
 |_=>true
theorem Dp(h:u4 N N' Qd sc=true)(j i:Nat)(e:Qd[j]?=ih (ih i)):∃x,N[i]?=ih x/\N'[j]?=ih x/\sc.names.lookup x=ih .free:=by
 have a:j<Qd.length:=(b3.mp e).1;have z:=mY.mp h j (jh.mpr a);rw[e]at z
 dsimp only at z
 split at z
 ·rename_i x q
  obtain⟨b,c⟩:=oT.mp z;exact⟨x,q,dJ.mp b,dJ.mp c⟩
 ·cases z
structure Nm(x:FF):Prop where
 lo:1<=x.length
 hi:x.length<=8
 az:∀c∈x.cps.toList,97<=c/\c<=122
def sign(c:Nat):FF:=⟨#[c]⟩
theorem Aq:∀(b:ac Nat) (a:Array Nat),(b.map sign).foldl (λa p=>a++("" : FF).cps++p.cps) a=a++b.toArray
 |[],a=>by simp
 |c::b,a=>by
  rw[b4,List.foldl_cons,Aq b];have e:("" : FF).cps = #[]:=rfl;rw[e]
  apply wk.mp
  simp[sign]
theorem Hu(a:ac Nat):aa6 ("" : FF) (a.map sign)=⟨a.toArray⟩:=by
 unfold aa6 aco;cases a with
 |nil=>rfl
 |cons c a =>
  rw[b4];show(⟨(a.map sign).foldl _ (sign c).cps⟩:FF)=_;rw[Aq]
  apply c6 Str.mk
  apply wk.mp
  simp[sign]
theorem Hv{z:FF}{c:Nat}(h:c∈(Ym z none (ih 6)).cps.toList):c∈z.cps.toList:=by
 unfold Ym at h;split at h
 ·exact h
 ·simp only[oL]at h
  obtain⟨i,_,e⟩:=h;obtain⟨_,e2⟩:=wm.mp e;rw[<-e2];simp
theorem Ar(z:FF):(Ym z none (ih 6)).length<=6:=by
 have hi:(YY none (ih 6) 1 z.length).length<=6:=by
  unfold YY sliceRange;simp only[show(1:Int)>0 by decide,hA,aE,Fp]
  split <;> (try split) <;> omega
 unfold Ym;split
 ·rename_i h
  have e:(YY none (ih 6) 1 z.length).length=z.length:=by simpa using h
  omega
 ·show(List.filterMap _ _).toArray.size<=6
  rw[b2];exact en (List.length_filterMap_le _ _) hi
theorem nT(a b:FF):(a++b).cps=a.cps++b.cps:=rfl
theorem Kz{z:FF}{c:Nat}(hz:∀c∈z.cps.toList,97<=c/\c<=122)(g:97<=c/\c<=122):Nm (Ym z none (ih 6)++sign c++("q" : FF)):=by
 have a:("q" : FF).cps = #[113]:=by decide +kernel
 have i:=Ar z;have e:(Ym z none (ih 6)++sign c++("q" : FF)).length=(Ym z none (ih 6)).length+2:=by
  show(_:Array Nat).size=_;rw[nT,nT,a];show(_ ++ #[c] ++ #[113]).size=_;rw[rW,rW];rfl
 refine⟨by omega,by omega,λd b=>?_⟩
 rw[nT,nT,a]at b;have f:d∈(Ym z none (ih 6)).cps.toList\/d=c\/d=113:=by
  have:d∈((Ym z none (ih 6)).cps ++ #[c] ++ #[113]).toList:=b;simp at this;rcases this with h|h|h
  ·exact .inl (by simpa using h)
  ·exact .inr (.inl h)
  ·exact .inr (.inr h)
 rcases f with h|h|h
 ·exact hz d (Hv h)
 ·rw[h];exact g
 ·rw[h];omega
theorem Jj{p:FF}{c d:Nat}(h:p++sign c++("q" : FF)=p++sign d++("q" : FF)):c=d:=by
 have h1:=c6 (λs:FF=>s.cps.toList) h;simp only[nT]at h1;have h2:p.cps.toList++([c]++("q" : FF).cps.toList)=p.cps.toList++([d]++("q" : FF).cps.toList):=by
  simpa [sign,Array.toList_append] using h1
 have a:=List.append_cancel_left h2
 simpa using a
theorem ug:∀{ys found:ac FF},ys.Nodup->found.length<ys.length ->∃y∈ys,y ∉ found
 |[],found,_,h=>by simp at h
 |y::ys,found,c,h=>by
  obtain⟨n1,d⟩:=d8.mp c
  by_cases a:y∈found
  ·have f:=Fq a
   have i:=Fs a;obtain⟨z,b,g⟩:=ug (found:=found.erase y) d (by rw[f];rw[cV]at h;omega)
   refine⟨z,bc _ b,λq=>g ?_⟩;have ne:z≠y:=λe=>n1 (by rw[<-e];exact b)
   exact(Ft ne).mpr q
  ·exact⟨y,aY,a⟩
theorem Cy(K:YA)(h:X.K=K):cu X (VW .In) (oC K false):=by subst h;exact jw
theorem Hw(K:YA)(h:X.K=K):cu X (VW .NotIn) (oC K true):=by subst h;exact Gs
theorem sL(K:YA)(h:X.K=K):mK X (DO K):=by subst h;exact dA
theorem jA(K:YA)(h:X.K=K):mK X (qG K):=by subst h;exact bp
theorem A3{l:VD}(K:YA)(h:X.K=K)(a:PE X l tl):PI X tg l (Di K tl):=by subst h;exact c8 a
theorem BK{l:VD}(K:YA)(h:X.K=K)(a:PE X l tl):PI X tg l (DK K tl):=by subst h;exact kH a
theorem Hx(K:YA)(h:X.K=K):cX X (.builtin "len") (λxs H Q=>∃p ys,xs=[.ref p]/\(ak K H p ys\/aA K H p ys)/\Q (.int ys.length) H):=by subst h;exact eQ
theorem Hy(K:YA)(h:X.K=K):cX X (.builtin "isinstance") (λxs H Q=>(∃x,(∃C,xs=[x,.ref C])\/(∃T,xs=[x,.ty T]))/\DV K xs H Q):=by subst h;exact lU
theorem iT(x:FF)(ys:ac FF):lq (.str x) (ys.map V.str)=decide (x∈ys):=by
 unfold lq;rw[wq]
 induction ys with
 |nil=>simp
 |cons y ys a =>
  rw[jn,a];show((y==x)||decide (x∈ys))=decide (x∈y::ys)
  by_cases h:y=x
  ·subst h;simp
  ·have h':(y==x)=false:=iJ.mpr h
   rw[h',wu];have:x∈y::ys ↔ x∈ys:=by simp[aT h]
   simp[this]
theorem jy(ys:ac FF):(ys.map V.str).all iw=true:=by
 rw[mY];intro v a;obtain⟨y,_,rfl⟩:=a6.mp a
 rfl
def hR(H:Hp)(a:E8):Hp:=λb=>if b=a then none else H b
theorem lW(n:b≠a):hR H a b=H b:=by unfold hR;rw[aq n]
theorem Hz{o:HO}(e:hR H a b=ih o):b≠a/\H b=ih o:=by
 unfold hR at e;split at e
 ·cases e
 next n=>exact⟨n,e⟩
theorem HA(e:H b=none):hR H a b=none:=by
 unfold hR;split
 ·rfl
 ·exact e
theorem Inv.KA(I:Inv X J σ H s)(e:H a=ih (cH C dx a))(f:∀d,dx=ih d ->∃fs,H d=ih (ff d fs)):∃ox od t,InstAt s.heap a ox C od/\ox={ cls:=.ref C,dict:=dx,data:=.fields #[.ref t,.none,.none,.none,.bool false,.none] }:=by
 obtain⟨t,b⟩:=I.excAt e;cases dx with
 |none=>exact⟨_,none,t,⟨b,rfl,rfl,VI⟩,rfl⟩
 |some d =>
  obtain⟨fs,g⟩:=f d rfl;obtain⟨_,mA,n,r,_⟩:=I.tJ g;obtain⟨od,c,_⟩:=pb n;exact⟨_,ih od,t,⟨b,rfl,rfl,c⟩,rfl⟩
theorem Inv.hidden(I:Inv X J σ H s)(p:X.ex=[])(A:X.stack=X.env::X.outer)(B:X.env.frame=ih X.env.locals)(f:H a=ih (cH C dx a))(h0:X.gX a=none)
  (k:(hideAll s.heap (a::ef X.stack)).StaysIn h') (up:s.heap.UpToSlots h'):Un X.fs [] X.gX (hR H a) X.ec.heap h'/\cq X.prog X.w (hR H a) h':=by
 have d:Un X.fs [] X.gX H X.ec.heap s.heap:=by have:=I.base;rw[p]at this;exact this
 have h:∀b,b∈ef X.stack->b=X.env.locals\/b∈X.fs:=λb r=>by
  have:=I.p8 b r;rcases bJ.mp this with z|z
  ·exact .inl z
  ·exact .inr z
 have t:∀{b:E8},H b=none->b≠a:=λe z=>by subst z;rw[f]at e;cases e
 have get:∀b o,s.heap.get? b=ih o->b≠a->b ∉ ef X.stack->h'.get? b=ih o:=λb o e n m=>k b o (hideAll_get _ e λz=>by
  rcases bJ.mp z with z|z
  ·exact n z
  ·exact m z)
 have i:∀b o,X.ec.heap.get? b=ih o->b≠X.env.locals:=λb o e z=>by
  have h1:=bx e;have h2:=I.ok.above;subst z;exact absurd h1 (Fu.mpr h2)
 have g:∀b o,b∈X.fs->s.heap.get? b=ih o ->∃sl,h'.get? b=ih { o with slots:=sl }:=λb o m e=>by
  obtain⟨_,o',j,v⟩:=(I.fA).mem m;rw[e]at j;cases j
  exact up b o e v
 refine⟨⟨λb o e n m _=>?_,λb o e n m _=>?_,λb o e n _=>HA (d.free b o e n (by simp)),λb o e _=>?_,λb xs e=>?_,λb o u e=>?_,λb ps e=>?_⟩,λb o e=>?_⟩
 ·have e1:=d.keep b o e n m (by simp)
  refine get b o e1 (t (d.free b o e n (by simp))) λz=>?_
  rcases h b z with z|z
  ·exact i b o e z
  ·exact m z
 ·obtain⟨sl,e1⟩:=d.slot b o e n m (by simp)
  obtain⟨l,e2⟩:=g b _ m e1;exact⟨l,e2⟩
 ·obtain⟨o',e1⟩:=d.there b o e (by simp)
  by_cases m:b∈X.fs
  ·obtain⟨sl,e2⟩:=g b _ m e1
   exact⟨_,e2⟩
  ·refine⟨o',get b o' e1 (λz=>?_) λz=>?_⟩
   ·subst z
    have:=d.free b o e h0 (by simp)
    rw[f]at this;cases this
   ·rcases h b z with z|z
    ·exact i b o e z
    ·exact m z
 ·have e1:=d.gm b xs e
  rw[lW (ar e1 f)];exact e1
 ·have e1:=d.gH b o u e
  rw[lW (ar e1 f)];exact e1
 ·obtain⟨x,e1⟩:=d.gW b ps e
  exact⟨x,by rw[lW (ar e1 f)];exact e1⟩
 ·obtain⟨n,e1⟩:=Hz e
  have qC:∀{c:E8}{u:HO},H c=ih u->c ∉ ef X.stack:=λq m=>by
   have:=I.tD _ m;rw[q]at this;cases this
  refine(I.aI b o e1).ez (λc u y q=>?_) (λc q=>?_) λc xs q=>?_
  ·rcases y with rfl|q1
   ·exact get _ u q n (qC e1)
   ·exact get c u q (ar q1 f) (qC q1)
  ·rw[lW (ar q f)];exact q
  ·rw[lW (ar q f)];exact q
def Cx.kL(X:Cx)(a:E8):Cx:={ X with A:=X.A.mark (ih (.ref a)),calm:=false,xe:=λ_ _=>False }
theorem Inv.kL(I:Inv X J σ H s)(a:E8):Inv (X.kL a) J σ H s:=
 ⟨⟨I.ok.mod,I.ok.kind,I.ok.glob,I.ok.blt,I.ok.above,I.ok.inj,I.ok.has,I.ok.jX,(λz=>Bool.noConfusion (show false=true from z)),I.ok.frames,I.ok.lg,I.ok.lj,I.ok.bs,I.ok.hY,I.ok.jO,I.ok.jP,I.ok.fA,I.ok.iE⟩,I.os,I.bare,I.base,I.loc,I.cell,I.free,I.eT,I.pin,I.aI,I.len⟩
theorem Inv.uncaught{Jy:Cx}(ok:X.Ok)(I:Inv (X.kL a) J σ H s):Inv X J σ H s:=
 ⟨ok,I.os,I.bare,I.base,I.loc,I.cell,I.free,I.eT,I.pin,I.aI,I.len⟩
section
variable{R:ZL->UN->Prop}
theorem Jk{its:Array i'}(tr:Nat->Bool)(D:A.in1.handled=none)(m:l≠it)(p:g.IsList l its)
  (E:∀i v,its[i]?=ih v ->∃a ws,v=.ref a/\a≠it/\YJ g a ws/\ws.size<=UP/\tr i = !ws.isEmpty):∀(k i:Nat) (s:UN),its.size - i=k->i<=its.size->(∀b o,b≠it->g.get? b=ih o->s.heap.get? b=ih o)->s.heap.IsListIter it l i ->
  (∀h' tk,(∀b o,b≠it->g.get? b=ih o->h'.get? b=ih o)->R (.ok (.ret (.bool (((VS its.size).drop i).any tr)))) { s with heap:=h',toks:=tk }) ->
  codeAny (U4 P w) A (.builtin "any.loop" ⟨[.ref it],[]⟩) R s:=by
 intro k
 induction k with
 |zero =>
  intro i s G hi kp d c;obtain rfl:i=its.size:=by omega
  refine ia abc (?_:UQ _ _ _ _ _ _);rw[show A.under (.builtin "any.loop" ⟨[.ref it],[]⟩)=A.in1 from iM wx _];show UQ _ _ (pyNext (.ref it) >>= _) _ _ s;have f:s.heap.IsList l its:=p.at λo e=>kp l o m e;refine ae (wpAny_pyNext_list_end D d f (by simp) λh' ex=>ae (ji (ao ?_)))
  have:=c h' s.toks λb o n e=>ex b o n (kp b o n e);rw[Vc (by simp)]at this
  exact this
 |succ k H =>
  intro i s G hi kp d c;have h:i<its.size:=by omega
  have q:(VS its.size).drop i=i::(VS its.size).drop (i+1):=by rw[lB (by simpa using h),List.getElem_range]
  refine ia abc (?_:UQ _ _ _ _ _ _);rw[show A.under (.builtin "any.loop" ⟨[.ref it],[]⟩)=A.in1 from iM wx _];show UQ _ _ (pyNext (.ref it) >>= _) _ _ s;have f:s.heap.IsList l its:=p.at λo e=>kp l o m e;have t:its[i]?=ih its[i]:=by simp[h]
  obtain⟨a,ws,I,J,y,K,B⟩:=E i _ t;refine ae (wpAny_pyNext_list_item d f t λh' z L=>?_);have j:∀b o,b≠it->g.get? b=ih o->h'.get? b=ih o:=λb o n e=>L.extBut b o n (kp b o n e);have x:YJ h' a ws:=by
   obtain⟨o,M,r⟩:=y;exact⟨o,j a o J M,r⟩
  rw[I];refine ae (er (truthy_tuple (s:={ s with heap:=h' }) x (by rw[aW]at K;omega) (ae (wpAny_letGo ?_))))
  rw[<-B];cases u:tr i with
  |false =>
   refine ao ⟨jr wx _,H (i+1) _ (by omega) h j z λh2 C N=>?_⟩
   have:=c h2 C N;rw[q,jn,u,wu]at this;exact this
  |true =>
   refine ae (ji (ao ?_));have:=c h' (s.toks+1+1) j;rw[q,jn,u,abq]at this;exact this
end
theorem Il(A:X.calm=true):cX X (.builtin "any") (λxs H Q=>∃(p:E8) (ys:ac V) (rs:ac (List V)),xs=[.ref p]/\ak X.K H p ys/\VX (λy r=>∃a,y=V.ref a/\aA X.K H a r) ys rs/\Q (.bl (rs.any λr=>!r.isEmpty)) H):=by
 rintro J s σ H xs us Q I r ⟨p,ys,rs,rfl,k,pr,q⟩;obtain⟨u,rfl,B⟩:=vals1 r;cases B
 obtain⟨its,l,c,C⟩:=I.list k;have f:=l.length;have all:∀i v,its[i]?=ih v ->∃a ws,v=.ref a/\YJ s.heap a ws/\ws.size<=UP/\(rs.map λr=>!r.isEmpty).getD i false = !ws.isEmpty:=by
  intro i v e;clear q k c C r
  induction l generalizing rs i with
  |nil=>simp at e
  |cons D R E =>
   cases pr with
   |cons G pt =>
    cases i with
    |zero =>
     simp at e;subst e;obtain⟨a,rfl,L⟩:=G;cases D
     obtain⟨ws,t,d,j⟩:=I.tuple L;have P:=t.length;exact⟨a,_,rfl,d,by rw[b2];omega,by rw[so t];rfl⟩
    |succ i=>exact E _ pt (by simpa using f) i (by simpa using e)
 have w:its.toArray.size=rs.length:=by rw[b2,<-f];exact cN pr
 have x:(VS its.toArray.size).any (λi=>(rs.map λr=>!r.isEmpty).getD i false)=rs.any λr=>!r.isEmpty:=by
  rw[w]
  apply lx.mpr
  simp only[lC,jh]
  constructor
  ·rintro⟨i,hi,e⟩
   refine⟨rs[i],eP hi,?_⟩
   simpa [Zg,hi] using e
  ·rintro⟨r,M,e⟩
   obtain⟨i,hi,rfl⟩:=wy M;exact⟨i,hi,by simpa [Zg,hi] using e⟩
 refine call_function_tree F.kind_any F.plain_any F.entry_any (F.args_any1 (.ref p)) (?_:UQ _ _ _ _ _ _);unfold Yo.«any»;refine ae (m:=oneArg "any" _) (ao (ae (rO c.isList ?_)));have new:∀b o,s.heap.get? b=ih o->b≠s.heap.objs.size:=λb o e=>bM (bx e);obtain⟨ol,z,_⟩:=id c.isList;refine ao ⟨jr wx _,Jk (g:=s.heap) (λi=>(rs.map λr=>!r.isEmpty).getD i false) (I.ok.hd A) (new p ol z) c.isList (λi v e=>?_) _ 0 _ rfl (bD _) (λb o n e=>a7 _ e) ⟨_,bW _ rfl,rfl,rfl⟩ λh' tk kp=>?_⟩
 ·obtain⟨a,ws,N,d,j,e2⟩:=all i v (by simpa using e)
  obtain⟨o,O,_⟩:=id d;exact⟨a,ws,N,new a o O,d,j,e2⟩
 ·rw[wz,x]
  exact⟨.bl _,H,I.kept (t':=tk) λb o e=>kp b o (new b o e) e,rfl,q⟩
theorem ph(t:X.calm=true):cX X (.builtin "all") (λxs H Q=>∃(p:E8) (bs:ac Bool),xs=[.ref p]/\ak X.K H p (bs.map V.bl)/\Q (.bl (bs.all id)) H):=by
 rintro J s σ H xs us Q I r ⟨p,bs,rfl,g,q⟩;obtain⟨u,rfl,w⟩:=vals1 r;cases w
 obtain⟨its,c,a,x⟩:=I.list g;have k:=c.length;have f:its=bs.map YV:=by
  clear q g a x r k
  induction bs generalizing its with
  |nil=>cases c;rfl
  |cons b bs y =>
   cases c with
   |cons z B=>cases z;rw[y _ B];rfl
 have new:∀b o,s.heap.get? b=ih o->b≠s.aj:=λb o e=>bM (bx e);obtain⟨ol,l,_⟩:=id a.isList;refine call_all_walk (rO a.isList ?_);refine⟨s.aj,_,_,_,_,_,λi=>bs.getD i true,rfl,aah (A:=X.A.in1) (I.ok.hd t) s.aj p (new p ol l) its.toArray,⟨⟨_,bW _ rfl,rfl,rfl⟩,a.isList.at λo e=>a7 _ e⟩,λi v s2 D E j m=>?_,λh' tk kp=>?_⟩
 ·rw[f]at j
  have:bs[i]?.map YV=ih v:=by simpa using j
  obtain⟨b,d,rfl⟩:=gz.mp this;refine hg ?_;have e:bs.getD i true=b:=by rw[gA,d];rfl
  exact e ▸ m
 ·have n:(VS its.toArray.size).all (λi=>bs.getD i true)=bs.all id:=by
   have C:its.toArray.size=bs.length:=by rw[f];simp
   rw[C]
   apply lx.mpr
   simp only[mY,jh]
   constructor
   ·intro h b d
    obtain⟨i,hi,rfl⟩:=wy d
    simpa [Zg,hi] using h i hi
   ·intro h i hi
    simpa [Zg,hi] using h bs[i] (eP hi)
  rw[n];exact⟨.bl _,H,I.kept (t':=tk) λb o e=>kp b o (by simpa using new b o e) (a7 _ e),rfl,q⟩
def KC:V->List V->Hp->VK->Prop:=λx vs H Q=>∃(l:E8) (ys:List FF) (y:FF) (j:Nat),x=.ref l/\vs=[.str y]/\H l=ih (.lst (ys.map V.str))/\ys[j]?=ih y/\(∀m,m<j->ys[m]? ≠ ih y)/\Q (.int j) H
theorem Jl:lr X "list.index" KC:=by
 rintro J s σ H x vs v us Q I C D ⟨l,ys,y,j,rfl,rfl,E,p,A,q⟩;cases C
 obtain⟨u,rfl,t,rfl⟩:=D.one;obtain⟨z,its,n,r,f,e⟩:=I.jQ E;have k:j<its.length:=by
  have:=(b3.mp p).1;rw[<-f,aE];exact this
 have o:∀m (a:m<its.length),∃(w:FF) (t':Tok),ys[m]?=ih w/\its[m]=.str w t':=λm a=>by
  have b:m<ys.length:=by rw[<-f,aE]at a;exact a
  obtain⟨u,c,t',G⟩:=r.get (i:=m) (x:=.str ys[m]) (by rw[cL,bz b];rfl)
  rw[bz a]at c;exact⟨ys[m],t',bz b,by rw[cJ c];exact G⟩
 have K:(ys.map V.str).all iw=true:=jy ys;refine kf aa1 ⟨_,e,rfl⟩ aaQ (aaE _ _) (aal l its.toArray n none #[] (.str y t) (e7 (.str y)) j (by simpa using k) ?_ ?_ ?_) ⟨e,?_,?_⟩
 ·rw[aW]at z;have:=f;omega
 ·obtain⟨w,t',d,g⟩:=o j k
  rw[p]at d;cases d;show e7 (.str y) (its.toArray[j])=true;rw[wB,g,qb (y:=.str y) ⟨t',rfl⟩ rfl];show decide _=true;exact cf rfl
 ·intro m a B
  have b:m<its.length:=by simpa using a
  obtain⟨w,t',d,g⟩:=o m b;show e7 (.str y) (its.toArray[m])=false;rw[wB,g,qb (y:=.str w) ⟨t',rfl⟩ rfl];have ne:=A m B;rw[d]at ne;show decide _=false;exact ej λz=>ne (by rw[z])
 ·intro u c
  exact lT (x:=.str y) ⟨t,rfl⟩ rfl r K u (by simpa using c)
 ·exact⟨.int j,H,I.tok _,⟨_,rfl⟩,q⟩
section
variable{p2 p3 p4:Pos}{k:Nat}
def OJ(K:YA)(te:TE):TE:=λσ H Q=>te σ H λx H2=>∃(l:E8) (xs:List V),x=.ref l/\ak K H2 l xs /\∀p,H2 p=none->Q (.ref p) (upd H2 p (.lst xs.reverse))
theorem L7(f:PE X e te):PE X (.Subscript e (.Slice none none (ih (.UnaryOp .USub (.Constant (.int 1) k p3) p4)) p2) pos) (OJ X.K te):=by
 intro J s σ H Q I h;refine Z6 (aG (f J s σ H _ I h) λv s1 A=>?_);obtain⟨x,Y,g,i,l,xs,ex,j,q⟩:=A;subst ex;cases i
 refine wpAny_Slice ?_;rw[Fe];refine ao (ao ?_);refine aG (ij (uw ub au) J s1 σ Y (λo H'=>o=ih (-1)/\H'=Y) g ⟨_,rfl,_,rfl,rfl,rfl⟩) λvs a A=>?_;obtain⟨o,m,n,ps,p,t⟩:=A;subst p t;have c:Inv X J σ m { a with heap:=a.heap.push { cls:=.type "slice",data:=.fields #[.none,.none,vs] } }:=n.kept (t':=a.toks) λb u z=>a7 _ z;obtain⟨its,r,d,w⟩:=c.list j;have y:=r.length;refine tail_any (ops:=_) d.isList.typeIs Ff.lookup ?_ (by with_unfolding_all rfl)
 refine U5 d.isList (ZN ..) .none .none ps (by decide) ?_ (by rw[b2];omega)
 rw[krv_pick];refine⟨.ref _,_,c.laid (t':=a.toks) (o:=.lst xs.reverse) (λb u z=>a7 _ z) (aQ _) ?_,rfl,q _ (c.aI.fresh (aQ _))⟩;exact⟨by rw[Fv];exact w,its.reverse,0,r.reverse,bW _ rfl⟩
end
end L2
namespace L2
section
variable{α β γ δ ε ζ:Type}
theorem ah{F P:α->Prop}{a:α}(f:F a)(h:P a):∃x,F x/\P x:=⟨a,f,h⟩
theorem aX{F:α->Prop}{G:α->β->Prop}{P:α->β->Prop}{a:α}{b:β}(f:F a)(g:G a b)(h:P a b):∃x,F x /\∃y,G x y/\P x y:=⟨a,f,b,g,h⟩
theorem dZ{F:α->Prop}{G:α->β->Prop}{I:α->β->γ->Prop}{P:α->β->γ->Prop}{a:α}{b:β}{c:γ}(f:F a)(g:G a b)(i:I a b c)(h:P a b c):∃x,F x /\∃y,G x y /\∃z,I x y z/\P x y z:=⟨a,f,b,g,c,i,h⟩
theorem iz{F:α->Prop}{G:α->β->Prop}{I:α->β->γ->Prop}{e:α->β->γ->δ->Prop}{P:α->β->γ->δ->Prop}{a:α}{b:β}{c:γ}{d:δ}(f:F a)(g:G a b)(i:I a b c)(j:e a b c d)(h:P a b c d):∃x,F x /\∃y,G x y /\∃z,I x y z /\∃u,e x y z u/\P x y z u:=⟨a,f,b,g,c,i,d,j,h⟩
theorem DW{F:α->Prop}{G:α->β->Prop}{I:α->β->γ->Prop}{l:α->β->γ->δ->Prop}{K:α->β->γ->δ->ε->Prop}{P:α->β->γ->δ->ε->Prop}{a:α}{b:β}{c:γ}{d:δ}{e:ε}(f:F a)(g:G a b)(i:I a b c)(j:l a b c d)(k:K a b c d e)(h:P a b c d e):∃x,F x /\∃y,G x y /\∃z,I x y z /\∃u,l x y z u /\∃v,K x y z u v/\P x y z u v:=⟨a,f,b,g,c,i,d,j,e,k,h⟩
end
end L2
namespace L2
open Spec PyProof.Rows
section
variable{κ:Type} [DecidableEq κ]
def bb(kvs:List (κ×V))(k:κ):Option V:=(kvs.find? λkv=>decide (kv.1=k)).map (·.2)
def putK(kvs:List (κ×V))(k:κ)(v:V):List (κ×V):=
 if (kvs.any λkv=>decide (kv.1=k))=true then kvs.map (λkv=>if kv.1=k then (kv.1,v) else kv) else kvs++[(k,v)]
theorem ft{p:κ×V}{r:ac (κ×V)}{k:κ}(e:p.1=k):bb (p::r) k=ih p.2:=by simp[bb,oU,e]
theorem eR{p:κ×V}{r:ac (κ×V)}{k:κ}(e : ¬ p.1=k):bb (p::r) k=bb r k:=by simp[bb,oU,e]
theorem jB(k:κ):∀kvs:ac (κ×V),(kvs.any λkv=>decide (kv.1=k))=(bb kvs k).isSome
 |[]=>rfl
 |p::r=>by
  rw[jn]
  by_cases e:p.1=k
  ·simp only[ft e,cf e,abq,U']
  ·rw[eR e,ej e,wu];exact jB k r
theorem BL(k j:κ)(y:V):∀kvs:ac (κ×V),bb (kvs.map λkv=>if kv.1=k then (kv.1,y) else kv) j=(bb kvs j).map λx=>if j=k then y else x
 |[]=>rfl
 |p::r=>by
  have a:=BL k j y r;rw[b4]
  by_cases h:p.1=k
  ·rw[aF h]
   by_cases e:p.1=j
   ·rw[ft (p:=(p.1,y)) e,ft e,rM,aF (e.symm.trans h)]
   ·rw[eR (p:=(p.1,y)) e,eR e,a]
  ·rw[aq h]
   by_cases e:p.1=j
   ·rw[ft (p:=p) e,ft e,rM,aq (λz=>h (e.trans z))]
   ·rw[eR (p:=p) e,eR e,a]
theorem pj(k j:κ)(y:V):∀kvs:ac (κ×V),bb kvs k=none->bb (kvs++[(k,y)]) j=if j=k then ih y else bb kvs j
 |[],_=>by
  by_cases e:k=j
  ·rw[aF e.symm];exact ft (p:=(k,y)) e
  ·rw[aq (λz=>e z.symm)];exact eR (p:=(k,y)) e
 |p::r,a=>by
  rw[Fw];have b : ¬ p.1=k:=λz=>by rw[ft z]at a;cases a
  rw[eR b]at a;have c:=pj k j y r a
  by_cases e:p.1=j
  ·rw[ft e,ft e,aq (λz=>b (e.trans z))]
  ·rw[eR e,eR e,c]
theorem kB(kvs:ac (κ×V))(k j:κ)(y:V):bb (putK kvs k y) j=if j=k then ih y else bb kvs j:=by
 unfold putK
 by_cases a:(kvs.any λb=>decide (b.1=k))=true
 ·rw[aF a,BL]
  rw[jB]at a
  by_cases e:j=k
  ·obtain⟨x,c⟩:=rP.mp a
   rw[aF e,e,c,rM,aF rfl]
  ·rw[aq e]
   cases bb kvs j with
   |none=>rfl
   |some x=>rw[rM,aq e]
 ·rw[aq a]
  refine pj k j y kvs ?_;rw[jB]at a;cases q:bb kvs k with
  |none=>rfl
  |some x=>rw[q]at a;exact(a rfl).elim
theorem lO(kvs:ac (κ×V))(k:κ)(v:V):(putK kvs k v).length<=kvs.length+1:=by
 unfold putK;split
 ·rw[aE];omega
 ·rw[bX,cV,jq];omega
theorem iU{kvs:ac (κ×V)}{k:κ}(v:V)(h:bb kvs k=none):putK kvs k v=kvs++[(k,v)]:=by
 unfold putK;rw[jB,h];exact aq (by decide)
theorem ey.nj{o:ad V}{u:ad i'}(r:ey o u):o.isSome=u.isSome:=by
 cases o with
 |none=>cases u with
  |none=>rfl
  |some _=>exact(show False from r).elim
 |some _=>cases u with
  |none=>exact(show False from r).elim
  |some _=>rfl
theorem KV.val{kvs:ac (κ×V)}{vs:ac (κ×i')}(r:KV kvs vs)(k:κ):ey (bb kvs k) (valueAt vs k):=by
 unfold KV at r
 induction r with
 |nil=>exact VI
 |@cons p q ps a h t d =>
  obtain⟨h1,h2⟩:=h
  by_cases e:p.1=k
  ·have c:q.1=k:=h1.symm.trans e
   have b:valueAt (q::a) k=ih q.2:=by simp[valueAt,oU,c]
   rw[ft e,b];exact h2
  ·have c : ¬ q.1=k:=λz=>e (h1.trans z)
   have b:valueAt (q::a) k=valueAt a k:=by simp[valueAt,oU,c]
   rw[eR e,b];exact d
theorem KV.any{kvs:ac (κ×V)}{vs:ac (κ×i')}(r:KV kvs vs)(k:κ):(kvs.any λkv=>decide (kv.1=k))=vs.any λkv=>decide (kv.1=k):=by
 unfold KV at r
 induction r with
 |nil=>rfl
 |cons h t a=>rw[jn,jn,a,h.1]
theorem KV.u5{kvs:ac (κ×V)}{vs:ac (κ×i')}(r:KV kvs vs)(k:κ)(a:RelV y u) :
  KV (kvs.map λkv=>if kv.1=k then (kv.1,y) else kv) (vs.map λkv=>if kv.1=k then (kv.1,u) else kv):=by
 unfold KV at r⊢
 induction r with
 |nil=>exact .nil
 |@cons p q ps c h t b =>
  rw[b4,b4];refine .cons ?_ b;obtain⟨h1,h2⟩:=h
  by_cases e:p.1=k
  ·rw[aF e,aF (h1.symm.trans e)];exact⟨h1,a⟩
  ·rw[aq e,aq (λz=>e (h1.trans z))];exact⟨h1,h2⟩
theorem KV.put{kvs:ac (κ×V)}{vs:ac (κ×i')}(r:KV kvs vs)(k:κ)(a:RelV y u):KV (putK kvs k y) (stored vs k u):=by
 unfold putK stored;rw[r.any k]
 by_cases e:(vs.any λb=>decide (b.1=k))=true
 ·rw[aF e,aF e];exact r.u5 k a
 ·rw[aq e,aq e];exact gQ r ⟨rfl,a⟩
theorem KV.keys{kvs:ac (κ×V)}{vs:ac (κ×i')}(r:KV kvs vs):kvs.map (·.1)=vs.map (·.1):=by
 unfold KV at r
 induction r with
 |nil=>rfl
 |cons h t a=>rw[b4,b4,a,h.1]
theorem KV.length{kvs:ac (κ×V)}{vs:ac (κ×i')}(r:KV kvs vs):kvs.length=vs.length:=cN r
end
theorem mr{k:Key}(r:RelV (kV k) u):(cm P w).is k u=true:=by
 cases k with
 |inl i=>obtain⟨t,e⟩:=(show ∃t,u=Zn i t from r);subst e;exact GJ P w i t
 |inr x=>obtain⟨t,e⟩:=(show ∃t,u=Y8 x t from r);subst e;exact GL P w x t
theorem A4{P:Yq}{w:Yw}:∀{ks:ac Key}{us:ac i'},Vals (ks.map kV) us->ItemsAre (cm P w) ks us
 |[],_,r=>by rw[abk]at r;cases r;exact .nil
 |k::ks,_,r=>by
  rw[b4]at r;cases r with
  |cons h t=>exact .cons (mr h) (A4 t)
abbrev KT(H:Hp):List (List Key×V)->List (List Key×E8×i')->Prop:=VX λp q=>p.1=q.1/\H q.2.1=ih (.tup (p.1.map kV))/\RelV p.2 q.2.2
theorem KT.val{kvs:ac (List Key×V)}{xs:ac (List Key×E8×i')}(r:KT H kvs xs)(k:ac Key):ey (bb kvs k) ((atKey xs k).map (·.2)):=by
 induction r with
 |nil=>exact VI
 |@cons p q ps a h t d =>
  obtain⟨h1,_,h2⟩:=h
  by_cases e:p.1=k
  ·have c:q.1=k:=h1.symm.trans e
   have b:atKey (q::a) k=ih q.2:=by simp[atKey,oU,c]
   rw[ft e,b];exact h2
  ·have c : ¬ q.1=k:=λz=>e (h1.trans z)
   have b:atKey (q::a) k=atKey a k:=by simp[atKey,oU,c]
   rw[eR e,b];exact d
theorem KT.u5{kvs:ac (List Key×V)}{xs:ac (List Key×E8×i')}(r:KT H kvs xs)(k:ac Key)(a:RelV y u) :
  KT H (kvs.map λkv=>if kv.1=k then (kv.1,y) else kv) (xs.map (putAt k u)):=by
 induction r with
 |nil=>exact .nil
 |@cons p q ps d h t b =>
  rw[b4,b4];refine .cons ?_ b;obtain⟨h1,h2,c⟩:=h;unfold putAt
  by_cases e:p.1=k
  ·rw[aF e,aF (h1.symm.trans e)];exact⟨h1,h2,a⟩
  ·rw[aq e,aq (λz=>e (h1.trans z))];exact⟨h1,h2,c⟩
theorem KT.put{kvs:ac (List Key×V)}{xs:ac (List Key×E8×i')}(r:KT H kvs xs)(k:ac Key)(c:H b=a2 (k.map kV))(a:RelV y u) :
  KT H (putK kvs k y) (storedH xs k b u):=by
 have e:(kvs.any λd=>decide (d.1=k))=(atKey xs k).isSome:=by
  rw[jB,(r.val k).nj,rX]
 unfold putK storedH;rw[e]
 by_cases q:(atKey xs k).isSome=true
 ·rw[aF q,aF q];exact r.u5 k a
 ·rw[aq q,aq q];exact gQ r ⟨rfl,c,a⟩
theorem KT.keeps{kvs:ac (List Key×V)}{xs:ac (List Key×E8×i')}(r:KT H kvs xs)(a:∀b ys,H b=a2 ys->H' b=a2 ys):KT H' kvs xs:=
 Paired.qB r λ_ _ z=>⟨z.1,a _ _ z.2.1,z.2.2⟩
theorem Dq{u:HO}(ok:cq P w H h)(e:Rd H a u):bF P w H h a u:=e.ok ok
theorem kO(ok:cq P w H h)(e:Rd H a (.dK kvs)):kvs.length<=UP/\(a==sysModules)=false /\∃vs,KV kvs vs/\h.DictOf (cm P w) a vs:=
 show bF P w H h a (.dK kvs) from Dq ok e
theorem uB(ok:cq P w H h)(e:H a=bn kvs):kvs.length<=UP/\(a==sysModules)=false /\∃vs,KV kvs vs/\h.DictOf (cm P w) a vs:=kO ok (.inl e)
theorem l'{ks:ac Key}(ok:cq P w H h)(e:H a=a2 (ks.map kV)):(tupleKind (cm P w)).is h ks a:=by
 obtain⟨_,its,r,o,h1,h2,n,b,_⟩:=(show bF P w H h a (.tup (ks.map kV)) from ok a _ e);exact⟨o,its.toArray,n,h1,h2,b,by simpa using A4 r⟩
theorem n7{kvs:ac (List Key×V)}(ok:cq P w H h)(e:Rd H a (.dT kvs)):kvs.length<=UP/\(a==sysModules)=false /\
  ∃xs,KT H kvs xs/\h.DictOfH (tupleKind (cm P w)) a xs:=by
 obtain⟨z,y,xs,r,o,es,ep,h1,h2,c,d,f⟩:=(show bF P w H h a (.dT kvs) from Dq ok e);refine⟨z,y,xs,r,o,es,ep,h1,h2,c,d,λx hx=>?_,f⟩;have all:∀{l:ac (List Key×V)}{m:ac (List Key×E8×i')},KT H l m ->∀x∈m,(tupleKind (cm P w)).is h x.1 x.2.1:=by
  intro l m q
  induction q with
  |nil=>intro x hx;exact nomatch hx
  |@cons p q ps i b t g =>
   intro x hx;rcases bJ.mp hx with e|hx
   ·subst e
    exact l' ok (by rw[<-b.1];exact b.2.1)
   ·exact g x hx
 exact all r x hx
theorem Dr{kvs:ac (List Key×V)}(ok:cq P w H h)(e:H a=ce kvs):kvs.length<=UP/\(a==sysModules)=false /\
  ∃xs,KT H kvs xs/\h.DictOfH (tupleKind (cm P w)) a xs:=n7 ok (.inl e)
def b7(H:Hp)(a:E8)(y:V)(r:Option V):Prop:=
 (∃kvs k,Rd H a (.dK kvs)/\y=kV k/\r=bb kvs k) \/∃kvs k b,Rd H a (.dT kvs)/\y=.ref b/\H b=ih (.tup (k.map kV))/\r=bb kvs k
def eW(H:Hp)(a:E8)(y v:V)(H':Hp):Prop:=
 (∃kvs k,H a=ih (.dK kvs)/\y=kV k/\kvs.length<UP/\H'=upd H a (.dK (putK kvs k v))) \/
 ∃kvs k b,H a=ih (.dT kvs)/\y=.ref b/\H b=ih (.tup (k.map kV))/\kvs.length<UP/\H'=upd H a (.dT (putK kvs k v))
theorem b7.k{k:Key}(e:H a=bn kvs):b7 H a (kV k) (bb kvs k):=.inl ⟨kvs,k,.inl e,rfl,rfl⟩
theorem b7.t{kvs:ac (List Key×V)}{k:ac Key}(e:H a=ce kvs)(c:H b=a2 (k.map kV)):b7 H a (.ref b) (bb kvs k):=.inr ⟨kvs,k,b,.inl e,rfl,c,rfl⟩
theorem eW.k{k:Key}(e:H a=bn kvs)(b:kvs.length<UP):eW H a (kV k) v (upd H a (.dK (putK kvs k v))):=.inl ⟨kvs,k,e,rfl,b,rfl⟩
theorem eW.t{kvs:ac (List Key×V)}{k:ac Key}(e:H a=ce kvs)(c:H b=a2 (k.map kV))(d:kvs.length<UP) :
  eW H a (.ref b) v (upd H a (.dT (putK kvs k v))):=.inr ⟨kvs,k,b,e,rfl,c,d,rfl⟩
section
variable{r:i'}{o:ad V}
theorem Inv.big(I:Inv X J σ H s):sysModules<s.aj:=by
 have h:U9<s.aj:=(I.mod.glob.keeps I.bk).lt;exact lA (by decide) h
theorem Im(r:A.units+1<Y')(I:Inv X J σ H s)(g:b7 H a y (ih v))(n:RelV y u)(h:∀c s',Inv X J σ H s'->RelV v c->Q c s') :
  UQ X.c5 A (getItem (.ref a) u) Q E s:=by
 rcases g with⟨kvs,k,e,i,l⟩|⟨kvs,k,b,e,i,t,l⟩
 ·subst i
  obtain⟨z,w,vs,d,j⟩:=kO I.aI e;obtain⟨c,m,f⟩:=ey.some_of (v:=v) (o:=valueAt vs k) (by rw[l];exact d.val k)
  exact wpAny_getItem_of (mr n) j.mapOf m (h c _ (I.tok _) f)
 ·subst i
  cases (show u=U6 b from n)
  obtain⟨z,w,xs,d,j⟩:=n7 I.aI e;obtain⟨c,m,f⟩:=ey.some_of (v:=v) (o:=(atKey xs k).map (·.2)) (by rw[l];exact d.val k)
  obtain⟨p,x,q⟩:=gz.mp m;refine wpAny_getItem_heap (wC r) (l' I.aI t) j x ?_;rw[q];exact h c _ (I.tok _) f
theorem OK(m:A.units+1<Y')(I:Inv X J σ H s)(g:b7 H a y o)(j:RelV y u)(h:∀s',Inv X J σ H s'->Q (.bool o.isSome) s') :
  UQ X.c5 A (VW .In u (.ref a)) Q E s:=by
 rcases g with⟨kvs,k,e,d,l⟩|⟨kvs,k,b,e,d,n,l⟩
 ·subst d
  obtain⟨z,f,vs,c,i⟩:=kO I.aI e;refine wpAny_in_of (mr j) f i.mapOf ?_;rw[<-(c.val k).nj,<-l];exact h _ (I.tok _)
 ·subst d
  cases (show u=U6 b from j)
  obtain⟨z,f,xs,c,i⟩:=n7 I.aI e;refine wpAny_in_heap (wC m) (l' I.aI n) f i ?_;have q:=(c.val k).nj;rw[rX]at q;rw[<-q,<-l];exact h _ (I.tok _)
theorem KG(m:A.units+1<Y')(I:Inv X J σ H s)(g:b7 H a y o)(j:RelV y u)(h:∀s',Inv X J σ H s'->Q (.bool (!o.isSome)) s') :
  UQ X.c5 A (VW .NotIn u (.ref a)) Q E s:=by
 rcases g with⟨kvs,k,e,d,l⟩|⟨kvs,k,b,e,d,n,l⟩
 ·subst d
  obtain⟨z,f,vs,c,i⟩:=kO I.aI e;refine wpAny_notIn_of (mr j) f i.mapOf ?_;rw[<-(c.val k).nj,<-l];exact h _ (I.tok _)
 ·subst d
  cases (show u=U6 b from j)
  obtain⟨z,f,xs,c,i⟩:=n7 I.aI e;refine wpAny_notIn_heap (wC m) (l' I.aI n) f i ?_;have q:=(c.val k).nj;rw[rX]at q;rw[<-q,<-l];exact h _ (I.tok _)
theorem tK{c:HO}(I:Inv X J σ H s)(d:oA (H a))(f:Yk a s.heap h')(g:∃q,h'.get? a=ih q)(new:bF X.prog X.w (upd H a c) h' a c) :
  Inv X J σ (upd H a c) { s with heap:=h',toks:=t' }:=
 I.write (x:=a) (e:=a) d (.inl rfl) (λb q h z=>(f.2 b h).trans z) g new
theorem C7{vs:ac (Key×i')}(z:kvs.length<=UP)(c:(a==sysModules)=false)(b:KV kvs vs)(d:h'.DictOf (cm P w) a vs) :
  bF P w H' h' a (.dK kvs):=⟨z,c,vs,b,d⟩
theorem Io{Q:Unit->UN->Prop}(F:A.units+1<Y')(I:Inv X J σ H s)(g:eW H a y v H')(x:RelV y u)(B:RelV v r)(h:∀s',Inv X J σ H' s'->Q () s') :
  UQ X.c5 A (setItem (.ref a) u r) Q E s:=by
 rcases g with⟨kvs,k,e,j,l,m⟩|⟨kvs,k,b,e,j,C,l,m⟩
 ·subst j m
  obtain⟨z,n,vs,d,o⟩:=uB I.aI e;have p:vs.length<=UP:=by rw[<-d.length];exact z
  have t:(putK kvs k v).length<=UP:=by have:=lO kvs k v;omega
  refine wpAny_setItem_pairs (hsz:=p) (mr x) o λh' f w=>h _ ?_;have G:∃q,h'.get? a=ih q:=let ⟨q,_,_,i,_⟩:=f;⟨q,i⟩;exact tK I (by rw[e];exact VI) w G (C7 t n (d.put k B) f)
 ·subst j m
  cases (show u=U6 b from x)
  obtain⟨z,n,xs,d,o⟩:=Dr I.aI e;have p:xs.length<=UP:=by rw[<-cN d];exact z
  have t:(putK kvs k v).length<=UP:=by have:=lO kvs k v;omega
  refine wpAny_setItem_heap (hsz:=p) (wC F) (l' I.aI C) o λh' f w=>h _ ?_;obtain⟨q,es,ep,i,h2,K,L,_,M⟩:=f;refine tK I (by rw[e];exact VI) w ⟨q,i⟩ ⟨t,n,_,(d.put k C B).keeps λc ys D=>?_,q,es,ep,i,h2,K,L,M⟩
  rw[ag (ar D e (λz=>nomatch z))];exact D
end
section
variable{k:Key}
theorem M0(I:Inv X J σ H s)(e:Rd H a (.dK kvs))(h:∀t s',Inv X J σ H s'->Q (.int kvs.length t) s'):UQ X.c5 A (call (.builtin "len") [.ref a]) Q E s:=by
 obtain⟨z,c,vs,b,d⟩:=kO I.aI e;refine call_len_dict c d (by rw[<-b.length];rw[aW]at z;omega) ?_
 rw[<-b.length];exact h _ _ (I.tok _)
end
def DX(i:VD):Prop:= ∀ov iv,subscripted i false ov iv=operate [ov,iv] (getItem ov iv)
theorem KH{a:VD}{id:String}
  (l:typeLookup (.type T) "__getitem__" = pure (ih (.builtin id))) (m:DX a)
  (h:UQ (U4 prog w) A (eval value env) (λo e=>UQ (U4 prog w) A (eval a env) (λi b=>b.TypeIs o T/\UQ (U4 prog w) A (getItem o i) Q E b) E e) E s) :
  UQ (U4 prog w) A (eval (.Subscript value a pos) env) Q E s:=by
 refine Z6 (h8 h (λo e j=>h8 j (λi b c=>?_) λ_ _ x=>x) λ_ _ x=>x);obtain⟨g,c⟩:=c;unfold subscriptTail;refine ae ?_;rw[getitemInPython_of_ne g.not_modules];refine ae (wpAny_specialOf g l ?_);have d:UQ (U4 prog w) A (subscripted a false o i) (λr f=>UQ (U4 prog w) A (letTemporaryGo value o r >>= λ_=>pure r) Q E f) E b:=by
  rw[m o i];exact wpAny_operating (h8 c (λr f k=>ae (wpAny_letTemporaryGo (ao k))) λ_ _ x=>x)
 first
  |exact ao (ae d)
  |exact ae (ao (ae d))
  |exact ae d
theorem GS{o:ad V}(I:Inv X J σ H s)(g:b7 H a y o):s.TypeIs (.ref a) "dict" :=by
 rcases g with⟨kvs,k,e,_,_⟩|⟨kvs,k,b,e,_,_,_⟩
 ·obtain⟨_,_,vs,_,c⟩:=kO I.aI e
  exact c.typeIs
 ·obtain⟨_,_,xs,_,c⟩:=n7 I.aI e
  exact c.typeIs
def uC(td ty:TE):TE:=λσ H Q=>td σ H λx Y=>ty σ Y λy H2=>∃a v,x=.ref a/\b7 H2 a y (ih v)/\Q v H2
def u6(ty td:TE):TE:=λσ H Q=>ty σ H λy Y=>td σ Y λx H2=>∃a o,x=.ref a/\b7 H2 a y o/\Q (.bl o.isSome) H2
def KJ(ty td:TE):TE:=λσ H Q=>ty σ H λy Y=>td σ Y λx H2=>∃a o,x=.ref a/\b7 H2 a y o/\Q (.bl (!o.isSome)) H2
def M1(td ty tv:TE):TS:=λD σ H=>tv σ H λv Y=>td σ Y λx H2=>ty σ H2 λy H3=>∃a H4,x=.ref a/\eW H3 a y v H4/\D.nx σ H4
section
variable{o i:VD}{Qx:Pos}{td ty:TE}
theorem d4(d:X.A.units+1<Y')(e:PE X o td)(hi:PE X i ty)(f:DX i:=by exact λ_ _=>rfl):PE X (.Subscript o i pos) (uC td ty):=by
 intro J s σ H Q I h;refine KH PySem.F.slot_dict_getitem.lookup f (aG (e J s σ H _ I h) λu s1 ⟨x,Y,j,k,l⟩=>aG (hi J s1 σ Y _ j l) λq s2 w=>?_);obtain⟨y,H2,b,m,a,v,ex,g,n⟩:=w;subst ex;obtain rfl:u=U6 a:=k;exact⟨GS b g,Im d b g m λr t p c=>⟨v,H2,p,c,n⟩⟩
theorem i1(b:X.A.units+1<Y')(hi:PE X i ty)(c:PE X o td):PC X .In i o (u6 ty td):=by
 intro J s σ H Q I h;refine aG (hi J s σ H _ I h) λp s1 ⟨y,Y,d,e,f⟩=>aG (c J s1 σ Y _ d f) λu s2 r=>?_;obtain⟨x,H2,j,k,a,l,ex,g,m⟩:=r;subst ex;obtain rfl:u=U6 a:=k;exact OK b j g e λq n=>⟨.bl l.isSome,H2,n,rfl,m⟩
theorem pq(b:X.A.units+1<Y')(hi:PE X i ty)(c:PE X o td):PC X .NotIn i o (KJ ty td):=by
 intro J s σ H Q I h;refine aG (hi J s σ H _ I h) λp s1 ⟨y,Y,d,e,f⟩=>aG (c J s1 σ Y _ d f) λu s2 r=>?_;obtain⟨x,H2,j,k,a,l,ex,g,m⟩:=r;subst ex;obtain rfl:u=U6 a:=k;exact KG b j g e λq n=>⟨.bl (!l.isSome),H2,n,rfl,m⟩
theorem gC(b:X.A.units+1<Y')(c:PE X o td)(hi:PE X i ty)(d:PE X value tv)(e:swapsWith value (ih (.Subscript o i Qh)) pos.line X.env=pure false) :
  PS X (.Assign [.Subscript o i Qh] value pos) (M1 td ty tv):=by
 intro J s σ H D I h;refine wpAny_Assign_Subscript (aG (d J s σ H _ I h) λr s1 ⟨v,Y,f,j,k⟩=>aG (c J s1 σ Y _ f k) λu s2 ⟨x,H2,l,m,n⟩=>aG (hi J s2 σ H2 _ l n) λB C G=>?_) e;obtain⟨y,E,p,q,a,t,ex,g,w⟩:=G;subst ex;obtain rfl:u=U6 a:=m;exact Io b p g q j λF z=>⟨σ,t,z,w⟩
end
theorem Jm(h:Yl)(a:sysModules<h.objs.size):bF P w H (h.push { cls:=.type "dict",data:=.dict #[] }) h.objs.size (.dK []):=
 ⟨bD _,iJ.mpr (aT (bM a)),[],.nil,Z3 h⟩
theorem BM(h:Yl)(a:sysModules<h.objs.size):bF P w H (h.push { cls:=.type "dict",data:=.dict #[] }) h.objs.size (.dT []):=
 ⟨bD _,iJ.mpr (aT (bM a)),[],.nil,_,#[],0,bW _ rfl,⟨rfl,rfl,rfl⟩,rfl,rfl,fc⟩
def L8:TE:=λ_ H Q=>∀p,H p=none->Q (.ref p) (upd H p (.dK []))
def L9:TE:=λ_ H Q=>∀p,H p=none->Q (.ref p) (upd H p (.dT []))
theorem lX:PE X (.Dict [] [] pos) L8:=λJ s σ H Q I h =>
 wpAny_Dict_empty ⟨.ref s.aj,_,I.laid (a:=s.aj) (o:=.dK []) (t':=s.toks) (λ_ _ q=>a7 _ q) (aQ _) (Jm s.heap I.big),rfl,h _ (I.aI.fresh (aQ _))⟩
theorem pD:PE X (.Dict [] [] pos) L9:=λJ s σ H Q I h =>
 wpAny_Dict_empty ⟨.ref s.aj,_,I.laid (a:=s.aj) (o:=.dT []) (t':=s.toks) (λ_ _ q=>a7 _ q) (aQ _) (BM s.heap I.big),rfl,h _ (I.aI.fresh (aQ _))⟩
end L2
namespace HT
open PyProof.Rows
theorem F9{t:E8}{lo:ad Int}(a:YJ s.heap t items)(b:s.heap.IsSliceOf sl vl vu .none)(pl:ZC vl lo)(g:ZC vu hi)
  (h0:bq items.size 0 lo=0) (h1:bq items.size items.size hi=items.size) (h:Q (.ref t) s):UQ (U4 prog w) A (getItem (.ref t) (.ref sl)) Q E s:=by
 obtain⟨os,d,e,i⟩:=id b;have f:s.TypeIs (.ref sl) "slice" :=⟨os,d,e⟩;unfold getItem
 try with_reducible refine er ?_
 first|refine ae (ao ?_)|skip
 refine ae (wpAny_sequenceKey a.typeIs (by decide) ?_)
 refine ae (rQ (name:=YD "__getitem__") a.typeIs oP
  (h9 oP a.typeIs entry_tuple_getitem ?_ (args_tuple_getitem _ _)))
 show UQ _ _ (YX (.ref t) >>= _) _ _ s;refine ae (tupleItemsOf_ a ?_);refine ae (jm f ?_);rw[aF (by decide)]
 refine ae (w1 b pl g ?_);rw[h0,h1];have c:((((0:Nat):Int)==0&&(1:Int)==1&&(items.size - 0)==items.size)=true):=by simp
 show UQ _ _ (if ((((0:Nat):Int)==0&&(1:Int)==1&&(items.size - 0)==items.size)=true) then _ else _) _ _ s;rw[aF c];refine ae (ae (jm a.typeIs (ao ?_)));rw[aF (by decide)]
 exact ae (ji (ao ⟨_,rfl,ao h⟩))
theorem Jn{t:E8}{ws:ac i'}(m:YJ s.heap t ([]:ac i').toArray)(o:YJ s.heap b ws.toArray)(h:Q (.ref b) s):UQ (U4 prog w) A (YB .Add (.ref t) (.ref b)) Q E s:=by
 obtain⟨⟨g,p,e,sl⟩,c,q,n,r⟩:=id m;obtain⟨⟨f,i,data2,j⟩,a,k,d,l⟩:=id o;obtain rfl:g=.type "tuple" :=q;obtain rfl:e=.seq #[] n:=r;obtain rfl:f=.type "tuple" :=k;obtain rfl:data2=.seq ws.toArray d:=l;exact concat_meets ⟨_,c,rfl⟩ ⟨_,a,rfl⟩ E9 E' Fb Fc (Fd _ _) (tuple_addW0 t b #[] ws.toArray n d p i sl j rfl) ⟨c,a,h⟩
end HT
namespace L2
open Spec PyProof.Rows W
theorem BN{q:E8}{o:HO}(a:H q=none):ax H (upd H q o):=λb u e=>by rw[ag (ay e a)];exact e
def OL:V->Option Int->Option Int->Hp->VK->Prop:=λx lo hi H Q=>∃a xs,x=.ref a/\H a=ih (.tup xs) /\∀p H',ax H H'->H' p=ih (.tup (fH xs lo hi))->Q (.ref p) H'
theorem Cz:mJ X OL:=by
 intro J s σ H x v vl vu lo hi sl Q I e f g i h;obtain⟨a,xs,rfl,c,q⟩:=h
 by_cases b:HT.bq xs.length 0 lo=0/\HT.bq xs.length xs.length hi=xs.length
 ·cases e
  obtain⟨its,r,j,l⟩:=I.tuple (aA.of c);have d:its.toArray.size=xs.length:=by rw[b2];exact r.length.symm
  refine⟨"tuple",_,oP.lookup,j.typeIs,HT.F9 j f g i (by rw[d];exact b.1) (by rw[d];exact b.2) ?_⟩
  refine⟨.ref a,H,I,rfl,q a H (ax.refl _) ?_⟩;unfold fH;rw[b.1,b.2,wz,Fx,cB];exact c
 ·exact LU J s σ H (.ref a) v vl vu lo hi sl Q I e f g i ⟨a,xs,rfl,aA.of c,b,λp k=>q p _ (BN k) af⟩
def M3:R2:=λx y H Q=>∃a b xs ys,x=.ref a/\y=.ref b/\H a=ih (.tup xs)/\H b=ih (.tup ys)/\xs.length+ys.length<=UP /\∀p H',ax H H'->H' p=ih (.tup (xs++ys))->Q (.ref p) H'
theorem CA:cu X (YB .Add) M3:=by
 rintro J s σ H x y v u Q I f g ⟨a,b,xs,ys,rfl,rfl,c,d,i,q⟩;cases xs with
 |nil =>
  cases f
  cases g
  obtain⟨its,j,k,_⟩:=I.tuple (aA.of c);obtain⟨m,n,p2,_⟩:=I.tuple (aA.of d);cases j
  exact HT.Jn k p2 ⟨.ref b,H,I,rfl,q b H (ax.refl _) d⟩
 |cons z xs=>exact Ko J s σ H (.ref a) (.ref b) v u Q I f g ⟨a,b,_,ys,rfl,rfl,aA.of c,aA.of d,by simp,i,λe=>q a H (ax.refl _) (by rw[e,eZ];exact c),λ_ p l=>q p _ (BN l) af⟩
theorem tL{k:Key}(h:(cm P w).is k u=true):RelV (kV k) u:=by
 cases k with
 |inl i=>exact aar (show Z7 i u=true from h)
 |inr x=>exact EV (show YQ x u=true from h)
theorem CB:∀{xs:ac V}{us:ac i'},xs.length=us.length->(∀(i:Nat) x u,xs[i]?=ih x->us[i]?=ih u->RelV x u)->Vals xs us
 |[],[],_,_=>.nil
 |[],_::_,h,_=>by simp at h
 |_::_,[],h,_=>by simp at h
 |x::xs,u::us,h,f=>.cons (f 0 x u rfl rfl) (CB (by simpa using h) λi y v a b=>f (i+1) y v (by simpa using a) (by simpa using b))
theorem sq(B:X.calm=true):cX X (.type "list") (λxs H Q=>∃d kvs,xs=[.ref d]/\H d=bn kvs /\∀l,H l=none->Q (.ref l) (upd H l (.lst (kvs.map λkv=>kV kv.1)))):=by
 rintro J s σ H xs us Q I r ⟨d,kvs,rfl,j,q⟩;obtain⟨u,rfl,C⟩:=vals1 r;cases C
 obtain⟨f,lo,vs,kv,m⟩:=uB I.aI j;obtain⟨ep,n⟩:=m.dictAt;have b:kvs.length=vs.length:=kv.length;refine kdl_call (kdl_dict (kvs:=vs) (ep:=ep) lo) (I.ok.hd B) n (by rw[<-b];exact f) λh' tk z c kp e it=>?_
 refine⟨.ref s.aj,_,I.laid (t':=tk) kp (aQ _) (show bF X.prog X.w _ h' _ (.lst (kvs.map λkv=>kV kv.1)) from⟨by rw[aE];exact f,z.toList,c,?_,by rw[Array.toArray_toList];exact e⟩),rfl,q _ (I.aI.fresh (aQ _))⟩
 refine CB (by rw[aE,gb];exact b.trans it.1.symm) λi x v o t=>?_
 obtain⟨k,y,g,hi⟩:=it.2 i v (by rw[<-oR];exact t)
 obtain⟨A,a,rfl⟩:=gz.mp (by rw[<-cL];exact o)
 have e:A.1=k:=by
  clear it o t b n m q f j
  induction kv generalizing i with
  |nil=>simp at a
  |cons p _ D =>
   cases i with
   |zero =>
    simp at a g;subst a;rw[p.1,g]
   |succ i=>exact D i (by simpa using g) (by simpa using a)
 rw[e];exact tL hi
end L2
namespace HT
open PyProof.Rows
section
open SeqAt
open AutoSeq1 (wpAny_loadPart')
open MeetsSeq MeetsSeq2 MeetsSeq3
end
end HT
namespace L2
open Spec PyProof.Rows W HT
theorem l5{α β:Type}{F:α->β->Prop}:∀{l:ac α}{m:ac β}{i:Nat}{x:α},VX F l m->l[i]?=ih x ->∃y,m[i]?=ih y/\F x y
 |_,_,i,x,.nil,e=>by simp at e
 |_,_,0,x,.cons p _,e=>by simp at e;subst e;exact⟨_,rfl,p⟩
 |_,_,i+1,x,.cons _ t,e=>by simpa using l5 (i:=i) t (by simpa using e)
end L2
namespace HT
open PyProof.Rows
open AutoSeq1 (wpAny_loadPart')
end HT
namespace L2
open Spec PyProof.Rows W HT
end L2
namespace HT
open PyProof.Rows
end HT
namespace HT
open PyProof.Rows W
end HT
namespace HT
open PyProof.Rows W L2
theorem pw:plainId "dict.update.loop" = true:=by decide +kernel
theorem A5:entryFor table "dict.update.loop" = ih Yo.«dict.update.loop» :=entryFor_of_fast (by kernel_rfl)
theorem stored_new{K:Type} [DecidableEq K]{kvs:ac (K×i')}{k:K}{v:i'}(h:k ∉ kvs.map (·.1)):stored kvs k v=kvs++[(k,v)]:=by
 unfold stored;rw[aq];intro z;obtain⟨p,a,e⟩:=lC.mp z;exact h (a6.mpr ⟨p,a,by simpa using e⟩)
end HT
namespace HT
open PyProof.Rows
section
open SeqAt
open AutoSeq1 (wpAny_loadPart')
open MeetsSeq MeetsSeq2 MeetsSeq3
end
end HT
namespace L2
open Spec PyProof.Rows W HT
theorem dc{c:Zf}(h:(sc.names.map (·.1)).Nodup/\N'.Nodup/\u4 N N' Qd sc=true /\∀p∈sc.names,p.2=.free->c.names.lookup p.1=ih .cell\/c.names.lookup p.1=ih .free:=by decide +kernel)(a:sc.kind=.function:=by rfl)(b:Qd.length=N'.length:=by rfl):b5 N c N' Qd sc:=⟨a,h.1,h.2.1,b,Dp h.2.2.1,h.2.2.2⟩
theorem bB{P:ac FF}(h:N.Nodup/\(∀x∈P,sc.names.lookup x=ih .local\/sc.names.lookup x=ih .cell) /\∀y∈sc.names,y.2 ≠ .free:=by decide +kernel)(a:sc.kind=.function:=by rfl)(b:sc.isCoroutine=false:=by rfl)(c:sc.isGenerator=false:=by rfl)(d:N.take P.length=P:=by rfl):bj N P sc:=⟨a,b,c,h.1,d,h.2.1,h.2.2⟩
theorem uh{xs:ac FF}(h:(xs.map V.str)[i]?=ih v):i<(xs.map V.str).length /\∃a:i<xs.length,V.str xs[i]=v/\xs.take (i+1)=xs.take i++[xs[i]]:=by
 have h1:=(b3.mp h).1;have h2:i<xs.length:=by simpa using h1
 exact⟨h1,h2,by simpa [h2] using h,by rw[dM,bz h2];rfl⟩
theorem eF{n:Nat}(h:n+64<Y'):n+1<Y':=by omega
theorem g6:3<=UP:=by rw[aW];decide
theorem bS:2<=UP:=Vd g6
theorem eM:1<=UP:=Vd bS
end L2
namespace L2
open W
structure bH(P:Yq)(w:Yw)(K:YA)(mg:FF->Option i')(base:Yl)(CX:gL)(k:Nat)(f:E8)(fd:Ye)(ps:List FF)(sp:Sp)(x:FF):Prop where
 G:aU P w K mg base CX k f fd ps sp
 k:YF K (.ref f)=true
 b:Binds K fd ps []
 m:mg x=ih (.ref f)
section
variable{k:Nat}{p:Pos}{t:TA}
theorem ba(C:bH X.prog X.w X.K X.mg X.base aH k f fd ps sp x)(d:a4 k X.A)(g:PA X (e::es) t)(h:Gl X x:=by rfl)(a:(x==("__debug__" : FF))=false:=by decide)(i:Ve (e::es) X.env=(false,eval e X.env)::Ve es X.env:=by rfl)(c:(backTo pos (Ve es X.env)).any (·.1)=false:=by rfl):PE X (.Call (.Name x p) (e::es) [] pos) (uy sp [] E0 t):=fV C.G d h C.m C.k C.b .nil cY g a i c
end
end L2
namespace L2
open Spec PyProof.Rows W
def n8(o:YO):Option i':=match o.data with|.fields vs=>vs[2]? | _=>none
def Kp(o o':YO):Prop:=o'.dict=o.dict/\n8 o'=n8 o
def KD{α:Type}:Zr α->Prop
 |.pure _=>True
 |.raise _=>True
 |.unsupported _=>True
 |.finish _=>True
 |.rule _ k=>KD (k ())
 |.at _ k=>KD (k ())
 |.load _ _ k=>∀o,KD (k o)
 |.update _ _ f k=>(∀o,Kp o (f o))/\KD (k ())
 |.alloc _ k=>∀a,KD (k a)
 |.loadIfAlive _ k=>∀o,KD (k o)
 |.point _ k=>KD (k ())
 |.register _ _=>False
 |.fresh k=>∀t,KD (k t)
 |.ask k=>∀x,KD (k x)
 |.choose _ _ k=>∀n,KD (k n)
 |.os _ _ k=>∀r,KD (k r)
 |.call _ _ _ _ _=>False
 |.handled _ k=>∀v,KD (k v)
 |.newGen _ k=>∀n,KD (k n)
 |.genState _ k=>∀x,KD (k x)
 |.resume _ _ _ _=>False
 |.yield _ _ _ _=>False
 |.stack k=>∀l,KD (k l)
 |.fork _ _=>False
 |.thread k=>∀n,KD (k n)
 |.await _ _ _ _ _=>False
def RD(h h':Yl):Prop:= ∀(a:E8) (o:YO),h.objs[a]?=ih o ->∃o',h'.objs[a]?=ih o'/\Kp o o'
theorem RD.refl(h:Yl):RD h h:=λa o e=>⟨o,e,rfl,rfl⟩
theorem RD.trans{h1 h2 c:Yl}(a:RD h1 h2)(b:RD h2 c):RD h1 c:=λx o e=>by
 obtain⟨g,e1,d⟩:=a x o e;obtain⟨h,e2,f⟩:=b x g e1;exact⟨h,e2,f.1.trans d.1,f.2.trans d.2⟩
theorem RD.push(r:RD h0 h)(o:YO):RD h0 (h.push o):=r.trans λx u e=>⟨u,by
 obtain⟨a,l⟩:=h;show(a.push o)[x]?=ih u;have b:x<a.size:=(wm.mp e).1;rw[Array.getElem?_push,aq (bM b)];exact e,rfl,rfl⟩
theorem RD.update(r:RD h0 h){f:YO->YO}(g:∀o,Kp o (f o)):RD h0 (h.update a f):=r.trans λx u e=>by
 obtain⟨b,l⟩:=h;show ∃o',(b.modify a f)[x]?=ih o'/\_;rw[Array.getElem?_modify];have d:b[x]?=ih u:=e
 by_cases c:a=x
 ·rw[aF c,d];exact⟨f u,rfl,g u⟩
 ·rw[aq c];exact⟨u,d,rfl,rfl⟩
theorem RD.dict(r:RD h h'){o':YO}(e:h.get? a=ih o)(c:h'.get? a=ih o'):Kp o o':=by
 have b:∀{g:Yl}{u:YO},g.get? a=ih u->g.objs[a]?=ih u:=λ{g u} q=>by
  unfold acj at q;split at q
  ·cases q
  ·exact q
 obtain⟨f,e2,d⟩:=r a o (b e);rw[b c]at e2;cases e2
 exact d
theorem M4{α:Type}{M:ZT}{Γ:PySem.Ctx}:∀{t:Zr α}{Q:α->Pos->UN->Prop}{E:i'->Pos->UN->Prop}{p:Pos}{s:UN},KD t->RD h0 s.heap->Sem.wp M Γ t Q E p s ->
  Sem.wp M Γ t (λv p s'=>Q v p s'/\RD h0 s'.heap) (λv p s'=>E v p s'/\RD h0 s'.heap) p s:=by
 intro t
 induction t with
 |pure a=>intro Q E p s _ r h;exact⟨h,r⟩
 |raise e=>intro Q E p s _ r h;exact⟨h,r⟩
 |unsupported w=>intro Q E p s _ r h;exact h
 |finish e=>intro Q E p s _ r h;exact h
 |rule t k d=>intro Q E p s kd r h;exact d () kd r h
 |«at» q k d=>intro Q E p s kd r h;exact d () kd r h
 |load a q k d=>intro Q E p s kd r h;obtain⟨o,e,h⟩:=h;exact⟨o,e,d o (kd o) r h⟩
 |update a q f k d=>intro Q E p s kd r h;exact⟨h.1,d () kd.2 (r.update kd.1) h.2⟩
 |alloc o k d=>intro Q E p s kd r h;exact d _ (kd _) (r.push o) h
 |loadIfAlive a k d=>intro Q E p s kd r h;exact d _ (kd _) r h
 |point l k d=>intro Q E p s kd r h;exact d () kd r h
 |register a k d=>intro Q E p s kd r h;exact h
 |fresh k d=>intro Q E p s kd r h;exact d _ (kd _) r h
 |ask k d=>intro Q E p s kd r h;exact d _ (kd _) r h
 |choose i n k d=>intro Q E p s kd r h;exact⟨h.1,d _ (kd _) r h.2⟩
 |os q l k d=>intro Q E p s kd r h;exact d _ (kd _) r h
 |call c j g l k d=>intro Q E p s kd r h;exact Vr kd
 |handled own k d=>intro Q E p s kd r h;exact d _ (kd _) r h
 |newGen c k d=>intro Q E p s kd r h;exact d _ (kd _) r h
 |genState g k d=>intro Q E p s kd r h;obtain⟨st,e,h⟩:=h;exact⟨st,e,d _ (kd _) r h⟩
 |resume g rs l k d=>intro Q E p s kd r h;exact Vr kd
 |yield v g l k d=>intro Q E p s kd r h;exact Vr kd
 |stack k d=>intro Q E p s kd r h;exact d _ (kd _) r h
 |fork c k d=>intro Q E p s kd r h;exact Vr kd
 |thread k d=>intro Q E p s kd r h;exact d _ (kd _) r h
 |await a t b l k d=>intro Q E p s kd r h;exact Vr kd
theorem L'{α:Type}{M:ZT}{t:Zr α}{Q:α->UN->Prop}(k:KD t)(h:UQ M A t Q E s) :
  UQ M A t (λv s'=>Q v s'/\RD s.heap s'.heap) (λv s'=>E v s'/\RD s.heap s'.heap) s:=λΓ p hi=>M4 k (RD.refl _) (h Γ p hi)
theorem KD.bind{α β:Type}{f:α->Zr β}(h:∀x,KD (f x)):∀{t:Zr α},KD t->KD (t.bind f):=by
 intro t
 induction t with
 |pure a=>intro _;exact h a
 |raise e=>intro _;trivial
 |unsupported w=>intro _;trivial
 |finish e=>intro _;trivial
 |rule t k d=>intro kd;exact d () kd
 |«at» q k d=>intro kd;exact d () kd
 |load a q k d=>intro kd o;exact d o (kd o)
 |update a q g k d=>intro kd;exact⟨kd.1,d () kd.2⟩
 |alloc o k d=>intro kd a;exact d a (kd a)
 |loadIfAlive a k d=>intro kd o;exact d o (kd o)
 |point l k d=>intro kd;exact d () kd
 |register a k d=>intro kd;exact Vr kd
 |fresh k d=>intro kd o;exact d o (kd o)
 |ask k d=>intro kd o;exact d o (kd o)
 |choose i n k d=>intro kd o;exact d o (kd o)
 |os q l k d=>intro kd o;exact d o (kd o)
 |call c j g l k d=>intro kd;exact Vr kd
 |handled own k d=>intro kd o;exact d o (kd o)
 |newGen c k d=>intro kd o;exact d o (kd o)
 |genState g k d=>intro kd o;exact d o (kd o)
 |resume g rs l k d=>intro kd;exact Vr kd
 |yield v g l k d=>intro kd;exact Vr kd
 |stack k d=>intro kd o;exact d o (kd o)
 |fork c k d=>intro kd;exact Vr kd
 |thread k d=>intro kd o;exact d o (kd o)
 |await a t b l k d=>intro kd;exact Vr kd
theorem KD.cz{α β:Type}{t:Zr α}{f:α->Zr β}(h:KD t)(a:∀x,KD (f x)):KD (t >>= f):=KD.bind a h
theorem KD.pure{α:Type}{x:α}:KD (Pure.pure x:Zr α):=VI
theorem KD.iG{α:Type}{w:String}:KD (PySem.unsupported w:Zr α):=VI
theorem sV:KD PySem.stack:=λ_=>VI
theorem tM:KD (PySem.load a):=λ_=>VI
theorem A6{f:YO->YO}(h:∀o,Kp o (f o)):KD (PySem.update a f):=⟨h,VI⟩
theorem GU{v:i'}:KD (fieldsOf v):=by
 unfold fieldsOf;split
 ·refine KD.cz tM λo=>?_
  split
  ·exact KD.pure
  ·exact KD.iG
 ·exact KD.iG
theorem pE{v:i'}:KD (field v i):=by
 unfold field;refine KD.cz GU λo=>?_;split
 ·exact KD.pure
 ·exact KD.iG
theorem Ge{x:i'}(hi:i≠2):∀o:YO,Kp o (ZX (·.setIfInBounds i x) o):=λ⟨c,d,a,s⟩=>by
 cases a <;> first|exact⟨rfl,rfl⟩|exact⟨rfl,Array.getElem?_setIfInBounds_ne hi⟩
theorem m7{v x:i'}(hi:i≠2:=by decide):KD (setField v i x):=by
 unfold setField;split
 ·unfold updateField
  refine KD.cz tM λo=>?_;split
  ·split
   ·exact A6 (Ge hi)
   ·exact KD.iG
  ·exact KD.iG
 ·exact KD.iG
theorem se{ty:String}{vs:ac i'}:KD (newFields ty vs):=by
 unfold newFields newObj
 dsimp only
 split
 ·exact KD.iG
 ·show KD (newObjAsIs _ _ _)
  unfold newObjAsIs;exact KD.cz (λ_=>VI) λ_=>KD.pure
theorem GV{b:Bool}{l:ac Zz}:KD (keptBack env b l):=by
 unfold keptBack;split
 ·split
  ·exact KD.pure
  ·unfold underTheClaimsCaller
   exact KD.cz (KD.cz sV λ_=>KD.pure) λ_=>by split <;> exact KD.pure
 ·exact KD.pure
theorem Ip{l:ac Zz}:KD (behindIsImport env l):=by
 unfold behindIsImport;split
 ·exact KD.pure
 ·split
  ·exact KD.pure
  ·exact KD.cz pE λ_=>KD.pure
theorem BO:∀l:ac Zz,KD (readyFrames l)
 |[]=>by unfold readyFrames;exact KD.pure
 |env::outer=>by
  unfold readyFrames;split
  ·refine KD.cz tM λo=>?_
   split
   ·exact KD.pure
   ·exact KD.cz Ip λ_=>KD.cz GV λ_=>KD.cz (A6 λ_=>⟨rfl,rfl⟩) λ_=>BO outer
  ·exact KD.iG
theorem sr:KD (ZR env):=by
 unfold ZR;refine KD.cz ?_ λl=>KD.cz ?_ λr=>?_
 ·unfold frameEnvs
  exact KD.cz sV λ_=>KD.pure
 ·unfold frameObject
  split
  ·exact KD.pure
  ·exact KD.cz (BO _) λ_=>KD.pure
 ·split
  ·exact KD.pure
  ·exact KD.iG
theorem sX{b:Bool}:KD (entryPlaceOf f b):=by
 unfold entryPlaceOf;refine KD.cz sV λl=>?_;split
 ·exact KD.pure
 ·exact KD.pure
theorem CC{e:i'}:KD (noteFrame e env):=by
 unfold noteFrame;split
 ·refine KD.cz pE λa=>?_
  have c:∀f b,KD (setField e 1 =<< (do acH a (<- ZR env) .none (rawInt f) .none (<- entryPlaceOf f b))):=λf b=>KD.cz (KD.cz sr λ_=>KD.cz sX λ_=>se) λ_=>m7;split
  ·refine KD.cz pE λx=>?_
   split
   ·exact KD.pure
   ·exact KD.cz m7 λ_=>KD.cz sr λ_=>KD.cz sX λ_=>KD.cz se λ_=>m7
  ·exact KD.cz sr λ_=>KD.cz sX λ_=>KD.cz se λ_=>m7
 ·exact KD.iG
theorem sf{e:i'}{f:ad E8}:KD (setFlight e f):=by
 unfold setFlight;refine KD.cz pE λtb=>?_;split
 ·exact m7
 ·exact KD.pure
theorem As{e:i'}:KD (leaving env e):=by
 unfold leaving;exact KD.cz CC λ_=>sf
def gY(n:Option i')(C:E8)(dx:Option E8)(a:E8):HO:=.ext λh=>∃ox vs,h.get? a=ih ox/\ox.cls=.ref C/\ox.dict=dx/\ox.data=.fields vs/\(∀y,n=ih y->vs[2]?=ih y)
section
variable{n:ad i'}
theorem KL{vs:Array i'}(e:h.get? a=ih ox)(c:ox.cls=.ref C)(d:ox.dict=dx)(f:ox.data=.fields vs)(z:∀y,n=ih y->vs[2]?=ih y):bF P w H h a (gY n C dx a):=
 ⟨⟨ox,vs,e,c,d,f,z⟩,⟨_,e⟩,λ_ _ ⟨ox,vs,q,r⟩ k=>⟨ox,vs,k _ q,r⟩⟩
theorem KN{B:Yl}{l:ac Zz}{a0:i'}(f:YM B l a (.ref C) a0 h)(r:∃ox,h.get? a=ih ox/\ox.dict=dx/\(∀y,n=ih y->n8 ox=ih y)):bF P w H h a (gY n C dx a):=by
 obtain⟨_,_,_,i,vs,_,_,_,b,g,c,_⟩:=f;obtain⟨ox,e,d,z⟩:=r;rw[b]at e;cases e;exact KL b g.1 d c λy=>by have:=z y;unfold n8 at this;rw[c]at this;exact this
theorem CD(ok:cq P w H h)(n:H a=none)(o:bF P w (upd H a O) h a O):cq P w (upd H a O) h:=λb u e=>by
 by_cases c:b=a
 ·subst c
  rw[af]at e;cases e;exact o
 ·rw[ag c]at e
  exact(ok b u e).ez (λ_ _ _ q=>q) (λx q=>by rw[ag (ay q n)];exact q) λx xs q=>by rw[ag (ay q n)];exact q
theorem Un.add{fs ex:ac E8}(u:Un fs ex H H' h h')(c:H' a=none)(n:h.get? a=none):Un fs ex H (upd H' a O) h h':=
 ⟨u.keep,u.slot,λb o e q x=>by
  have:b≠a:=by rintro rfl;rw[n]at e;cases e
  rw[ag this];exact u.free b o e q x,u.there,λb xs e=>by
  have q:=u.gm b xs e;rw[ag (ay q c)];exact q,λb o v e=>by
  have q:=u.gH b o v e;rw[ag (ay q c)];exact q,λb ps e=>by
  obtain⟨m,q⟩:=u.gW b ps e;exact⟨m,by rw[ag (ay q c)];exact q⟩⟩
theorem Jo:upd (hR H a) a O=upd H a O:=by
 funext b;unfold upd
 by_cases c:b=a
 ·rw[aF c,aF c]
 ·rw[aq c,aq c,lW c]
end
section
variable{fs:ac (FF×V)}{f:FF}{n:ad i'}
theorem Iq{b:Bool}(I:Inv X J σ H s)(e:H a=ih (gY n C (ih d) a))(m:H d=ih (ff d fs))(c:eV X.K C)(no:Yt X.K (.ref C) f=ih none)(l:fs.lookup f=ih v)
  (h:∀u s',Inv X J σ H s'->RelV v u->Q u s'):UQ X.c5 A (getAttr (.ref a) f b) Q E s:=by
 obtain⟨ox,vs,j,o,p,q,_⟩:=(I.aI a _ e).1;obtain⟨_,mA,t,r,_⟩:=I.tJ m;obtain⟨od,k,look⟩:=pb t;have g:=r f;rw[l]at g;obtain⟨u,w,i⟩:=ey.some_of g;have x:InstAt s.heap a ox C (ih od):=⟨j,o,by unfold notCls;rw[q],by rw[p];exact k⟩
 exact Kv I.bU x c (findObj_own c.hd no rfl (by rw[look,w])) (AS i) (h u _ (I.tok _) i)
end
section
variable{f:FF}
def M5(X:Cx)(ta:TE)(f:FF):TE:=λσ H Q=>ta σ H λx Y=>∃a n C d fs v,x=.ref a/\Y a=ih (gY n C (ih d) a)/\Y d=ih (ff d fs)/\eV X.K C/\Yt X.K (.ref C) f=ih none/\fs.lookup f=ih v/\Q v Y
theorem CF(b:PE X e ta)(g:attributeBase e f X.env (eval e X.env)=eval e X.env:=by rfl):PE X (.Attribute e f pos) (M5 X ta f):=by
 intro J s σ H Q I h;refine Cr g (aG (b J s σ H _ I h) λu s1 t=>?_);obtain⟨x,Y,i,j,a,_,C,d,fs,v,ex,k,m,c,n,l,q⟩:=t;subst ex;obtain rfl:u=U6 a:=j;exact Iq i k m c n l λr s2 o p=>⟨v,Y,o,p,q⟩
end
theorem GX{D:Ends}{R:E8->E8->Option E8->Hp->Prop}(I:Inv X J σ H s)(o:X.calm=true)(p:PE X e te)
  (h:te σ H λv Y=>∃a C dx i,v=.ref a/\Y a=ih (cH C dx a)/\(∀d,dx=ih d ->∃fs,Y d=ih (ff d fs))/\eV X.K C/\fZ X.K C i=true/\R a C dx Y)
  (j:∀a C dx Y s1,Inv X J σ Y s1->Y a=ih (cH C dx a)->R a C dx Y->X.xe (.ref a) s1) :
  wA X (exec (.Raise (ih e) none pos) X.env) (SP X J D) X.xe s:=by
 rw[arm_exec_Raise];refine ae (j7 (show UQ _ _ (raiseStmt X.env (ih (do let v <- eval e X.env;standAt pos;pure v)) none) _ _ _ from ?_));unfold raiseStmt;refine ae (ae (aG (p J s σ H _ I h) λu s1 aa=>?_));obtain⟨v,Y,b,r,a,C,dx,i,w,f,y,c,q,l⟩:=aa;refine ae (j7 (ao ?_));subst w;obtain rfl:u=.ref a:=r;obtain⟨ox,od,t,inst,rfl⟩:=b.KA f y;have g:aaq X.c5 s1.heap (isType (.ref a)) false:=λF G L s' k z=>by
  simp only[isType,loadHead];exact ae (vX (k _ _ inst.at_) (ao z))
 have m:aaq X.c5 s1.heap (isInstance (.ref a) (.type "BaseException")) true:=inst.type.andThen (wc b.bU c.be);obtain⟨M,N,O,qn,bs,B,P,sub,Q,E,S,T,U,V,W,Z,mN,A,_⟩:=(pf b.bU q).ex;have n:s1.TypeIs (.ref C) "type" :=⟨_,A,rfl⟩;refine ae (ao (ae (er ?_)));unfold excFromValue isExcClass;refine ae (ae (g.here (ao ?_)));refine ae (m.here (ao ?_));refine ae (g.here ?_);unfold raisedInstance;refine ae (ae (inst.type.here (ae (jm n ?_))));rw[aF (show(Ys "type" == Ys "type")=true from by decide)]
 refine ao ?_;unfold setFlight raiseNew;refine ae (ae (lz inst.at_ rfl (x:=.none) rfl ?_));rw[aq (show ¬ ((VQ != VQ)=true) from by decide)]
 refine ao (ae (wpAny_handled_none (b.ok.hd o) ?_))
 first
  |exact wD (j a C dx Y s1 b f l)
  |exact ae (ao (wD (j a C dx Y s1 b f l)))
def cO(P:Yq)(w:Yw):gL:=λouter H s E e s'=>∃(a:E8) (n:Option i') (C:E8) (a0:i') (dx:Option E8) (H':Hp) (B:Yl),e=.ref a/\s'.os=s.os/\Zo s'.gens/\YM B outer a (.ref C) a0 s'.heap /\
 (∃ox,s'.heap.get? a=ih ox/\ox.dict=dx/\(∀y,n=ih y->n8 ox=ih y))/\(∀h',B.StaysIn h'->s'.heap.UpToSlots h'->Un (ef outer) [] H H' s.heap h'/\cq P w H' h')/\H' a=none/\s.heap.get? a=none/\E (.ref C) (ih a) (upd H' a (gY n C dx a))
theorem nJ{α:Type}{M:ZT}{t:Zr α}{Q a:α->UN->Prop}(k:KD t)(h:UQ M A t Q E s)(q:∀v s',Q v s'->RD s.heap s'.heap->a v s'):UQ M A t a E s:=
 h8 (L' k h) (λv s' z=>q v s' z.1 z.2) λ_ _ z=>z.1
section
variable{E:XK}
def KO(K:YA)(H0:Hp)(E:XK)(te:TE):TS:=λ_ σ H=>te σ H λv Y=>∃a C dx i,v=.ref a/\Y a=ih (cH C dx a)/\(∀d,dx=ih d ->∃fs,Y d=ih (ff d fs))/\eV K C/\fZ K C i=true/\H0 a=none/\E (.ref C) (ih a) (upd Y a (gY (ih .none) C dx a))
theorem A7(n:PE (d5 (cO P w) P w K mg base N qual scope f cd A outer s H E) e te) :
  PS (d5 (cO P w) P w K mg base N qual scope f cd A outer s H E) (.Raise (ih e) none pos) (KO K H E te):=by
 intro J s1 σ Y D I h;refine GX (R:=λa C dx H2=>H a=none/\E (.ref C) (ih a) (upd H2 a (gY (ih .none) C dx a))) I rfl n h λa C dx H2 s2 c i ⟨h0,p⟩=>?_;have fr:s2.heap.FunFrames base (envOfC qual scope s.aj f cd::outer):=c.stack;have all:∀env∈(envOfC qual scope s.aj f cd::outer),∀b,env.frame=ih b->b∈a::ef (envOfC qual scope s.aj f cd::outer):=λenv m b r=>bc _ (oL.mpr ⟨env,m,r⟩);obtain⟨t,d⟩:=c.excAt i;have new:s.heap.get? a=none:=by
  have u:Un (ef outer) [] H H2 s.heap s2.heap:=c.base;cases q:s.heap.get? a with
  |none=>rfl
  |some o =>
   have:=u.free a o q h0 (by simp)
   rw[i]at this;cases this
 show UQ (U4 P w) _ (leaving _ (.ref a)) _ _ _;refine nJ As (wpAny_leaving_firstW (Q:=λ_ s'=>∃h',s'={ s2 with heap:=h' }/\Heap.LeftW (hideAll s2.heap (a::ef (envOfC qual scope s.aj f cd::outer))) (envOfC qual scope s.aj f cd::outer) a (.ref C) (.ref t) s2.heap h') (base:=hideAll s2.heap (a::ef (envOfC qual scope s.aj f cd::outer))) (L:=s.aj) (a0:=.ref t) c.ok.frames (funFrames_hide fr all) rfl d (λb o q=>of_hideAll _ q) (hideAll_none _ aY) rfl rfl rfl λh' j=>⟨h',rfl,j⟩) λ_ s' ⟨h',es,j⟩ k=>?_;subst es;obtain⟨v,⟨_,_,x⟩,z,B⟩:=j;have l:YM (hideAll s2.heap (a::ef (envOfC qual scope s.aj f cd::outer))) outer a (.ref C) (.ref t) h':=⟨v,hideAll_none _ aY,x,z⟩;obtain⟨ox,g,_⟩:=l.there;refine⟨a,ih .none,C,.ref t,dx,hR H2 a,hideAll s2.heap (a::ef (envOfC qual scope s.aj f cd::outer)),rfl,c.os,c.bare,l,⟨ox,g,(k.dict d g).1,λy F=>by cases F;exact(k.dict d g).2⟩,λM G up=>?_,by unfold hR;rw[aF rfl],new,by rw[Jo];exact p⟩
 exact c.hidden rfl rfl rfl i h0 G (wF B up)
end
theorem aS.PU{k:Nat}(F:aS K x qual st f fd)(S:bj N ps (aJ st))(b:∀vs H Q E,sp vs H Q E->vs.length=ps.length)
  (a:∀(Qa:i') (A:Yy) (outer:ac Zz) (s:UN) (H:Hp) (vs:ac V) (Q:VK) (E:XK),a4 k (A.deeper (envOfC qual (aJ st) s.aj f Qa))->sp vs H Q E ->
   ∃t,di (d5 (cO P w) P w K mg base N qual (aJ st) f Qa A outer s H E) (bE st) t/\t { nx:=λ_ H'=>Q .aO H',rt:=Q } (start N vs) H):aU P w K mg base (cO P w) (k+1) f fd ps sp:=by
 obtain⟨oc,od,kV,Qc,pm,an,Qa,ct,Qm,rfl,lk,c⟩:=F.ex;exact uz lk c S b λA outer s H vs Q E e d=>a Qa A outer s H vs Q E e d
theorem w6{Q:Bool->UN->Prop}{i:ad i'}{r:Bool}(X:K.In s.heap)(q:fZ K B i=true)(k:mroIn K C (.ref B)=ih r)(e:s.heap.get? a=ih ox)(l:ox.cls=.ref C)(h:Q r s) :
  UQ (U4 P w) A (excMatches (.ref a) (.ref B)) Q E s:=by
 obtain⟨b,N,p,qn,bs,n,t,sub,u,o,v,x,y,z,D,F,mN,c,_,_,T⟩:=(pf X q).ex;have L:aaq (U4 P w) s.heap (isSubtype (.ref C) (.ref B)) r:=wc X k;obtain⟨G,g,d,tk,os⟩:=s;have m:b.contains (.type "BaseException")=true:=T.hasType (by decide)
 have j:(U6 B::b).contains (.type "BaseException")=true:=by rw[List.contains_cons,m,Bool.or_true]
 have f:=tc_notTuple;unfold excMatches
 repeat (first|(with_reducible refine rR e ?_;rw[l])|with_reducible refine rR c ?_|(with_reducible refine wpAny_isSubtype_exc c ?_;rw[j])|(with_reducible refine L.here ?_)|wp_step)
 cases r <;> (wp_walk;exact h)
def Cx.hM(X:Cx)(J:List (E8×YO))(E:St->XK):Cx:={ X with pn:=X.pn++J,xe:=λe s'=>∃cI H s1,Inv X J cI H s1/\cO X.prog X.w X.stack H s1 (E cI) e s' }
section
variable{Qp:ac (E8×YO)}{E:St->XK}{D:Ends}
theorem Inv.hM(I:Inv X J σ H s):Inv (X.hM J E) [] σ H s:=
 ⟨⟨I.ok.mod,I.ok.kind,I.ok.glob,I.ok.blt,I.ok.above,I.ok.inj,I.ok.has,I.ok.jX,I.ok.hd,I.ok.frames,I.ok.lg,I.ok.lj,I.ok.bs,I.ok.hY,I.ok.jO,I.ok.jP,I.ok.fA,I.ok.iE⟩,I.os,I.bare,I.base,I.loc,I.cell,I.free,I.eT,(λp a=>I.pin p (by rw[eZ]at a;exact a)),I.aI,I.len⟩
theorem Inv.kQ(ok:X.Ok)(I:Inv (X.hM J E) Qp σ H s):Inv X J σ H s:=
 ⟨ok,I.os,I.bare,I.base,I.loc,I.cell,I.free,I.eT,(λp a=>I.pin p (fM _ a)),I.aI,I.len⟩
theorem Cx.Ok.M6(ok:(X.hM J E).Ok):X.Ok:=⟨ok.mod,ok.kind,ok.glob,ok.blt,ok.above,ok.inj,ok.has,ok.jX,ok.hd,ok.frames,ok.lg,ok.lj,ok.bs,ok.hY,ok.jO,ok.jP,ok.fA,ok.iE⟩
theorem SP.kQ{f:Flow}(ok:X.Ok)(h:SP (X.hM J E) Qp D f s):SP X J D f s:=by
 cases f with
 |next=>obtain⟨a,H',I,q⟩:=h;exact⟨a,H',I.kQ ok,q⟩
 |brk=>obtain⟨a,H',I,q⟩:=h;exact⟨a,H',I.kQ ok,q⟩
 |cont=>obtain⟨a,H',I,q⟩:=h;exact⟨a,H',I.kQ ok,q⟩
 |ret u=>obtain⟨v,a,H',I,r,q⟩:=h;exact⟨v,a,H',I.kQ ok,r,q⟩
end
section
variable{Qq:ac (E8×YO)}{EE:St->XK}{k:Nat}{p:Pos}{t:TA}
def C8(sp:Sp)(EE:St->XK)(t:TA):TE:=λσ H Q=>t σ H λvs Y=>sp vs Y Q (EE σ)
theorem Jp(F:aU X.prog X.w X.K X.mg X.base (cO X.prog X.w) k f fd ps sp)(j:a4 k X.A)(l:Gl X x)(m:X.mg x=ih (.ref f))(n:YF X.K (.ref f)=true)(o:Binds X.K fd ps [])
  (v:PA (X.hM Qq EE) (e::es) t) (d:(x==("__debug__" : FF))=false:=by decide) (y:Ve (e::es) X.env=(false,eval e X.env)::Ve es X.env:=by rfl) (g:(backTo pos (Ve es X.env)).any (·.1)=false:=by rfl) :
  PE (X.hM Qq EE) (.Call (.Name x p) (e::es) [] pos) (C8 sp EE t):=by
 intro J s σ H Q I h;refine mV (l2 I l m ?_ d);refine callWith_K (h₀:=X.base) I.ok.mod.lb n (aG (v pos J s σ H _ I h) λus s1 ⟨vs,Y,a,r,q⟩=>⟨a.bU,?_⟩) y g;have z:us.length=ps.length:=by rw[<-r.length];exact F.len _ _ _ _ q
 have c:=o s1 us a.bU (by rw[eZ];exact z)
 rw[eZ]at c;refine j9 (ly (F.run X.A X.stack s1 Y ⟨us,[]⟩ us vs _ _ j a.qF c r q) λi s2 b=>?_);cases i with
 |ok B =>
  cases B with
  |ret u=>exact a.after b
  |next=>exact Vr b
  |brk=>exact Vr b
  |cont=>exact Vr b
 |error C=>exact⟨σ,Y,s1,a.kQ a.ok.M6,b⟩
end
theorem pT{M:ZT}{Q:Unit->UN->Prop}(I:Inv X J σ H s)(F:X.N.Nodup)(hi:X.N[i]?=ih x)(G:X.env.scope.names.lookup x=ih .local)
  (h:∀s',Inv X J (σ.set i none) H s'->Q () s'):UQ M A (do bindName X.env x .none;unbindBehindTheSuite X.env x pos) Q E s:=by
 obtain⟨m,r,K⟩:=id I.loc;have B:(X.env.scope.kind == .class||(X.env.scope.kind == .module&&X.env.locals != X.env.globals))=false:=by rw[I.ok.kind];rfl
 have hZ:=I.hZ;refine wpAny_nameGoes_keeps G r B λh' v C a=>?_;obtain⟨V,_,_,U,_⟩:=id r;have u:cq X.prog X.w H h':=λb L e=>by
  refine(I.aI b L e).ez (λc t hc q=>(a.2 c ?_).trans q) (λ_ q=>q) λ_ _ q=>q;rintro rfl;rcases hc with rfl|hc
  ·rw[I.free]at e;cases e
  ·rw[I.free]at hc;cases hc
 refine h _ ⟨I.ok,I.os,I.bare,⟨λb o e n g f=>?_,λb o e n g f=>?_,I.base.free,λb o e f=>?_,I.base.gm,I.base.gH,I.base.gW⟩,⟨_,C,λj y O e1 e2 e3=>?_⟩,λy c e=>?_,I.free,I.eT,λp P=>?_,u,by simpa using I.len⟩
 ·exact(a.2 b (bM (eY (bx e) I.ok.above))).trans (I.base.keep b o e n g f)
 ·obtain⟨sl,e1⟩:=I.base.slot b o e n g f
  exact⟨sl,(a.2 b (bM (eY (bx e) I.ok.above))).trans e1⟩
 ·obtain⟨o',e1⟩:=I.base.there b o e f
  exact⟨o',(a.2 b (bM (eY (bx e) I.ok.above))).trans e1⟩
 ·by_cases l:j=i
  ·subst l
   by_cases D:j<σ.length
   ·rw[EY D]at e2;cases e2
   ·rw[rY (by rw[aaO];omega)]at e2;cases e2
  ·rw[EZ (aT l)]at e2
   obtain⟨R,S,q⟩:=K j y O e1 e2 e3;refine⟨R,S,?_⟩;rcases q with⟨k,e⟩|⟨k,c,e,z⟩
   ·refine .inl ⟨k,?_⟩
    have:y≠x:=λe=>l (sT F e1 (e ▸ hi));simp[this,e]
   ·exact .inr ⟨k,c,e,z.sameBut a (hZ y c e)⟩
 ·obtain⟨t,z⟩:=I.cell y c e
  exact⟨t,z.sameBut a (hZ y c e)⟩
 ·obtain⟨e,n,ne,T,d⟩:=I.pin p P
  exact⟨(a.2 p.1 ne).trans e,n,ne,T,d⟩
def Ey(j:Nat)(D:Ends):Ends:={ nx:=λσ H=>D.nx (σ.set j none) H,rt:=D.rt,bk:=λσ H=>D.bk (σ.set j none) H,ct:=λσ H=>D.ct (σ.set j none) H }
section
variable{p5 p6 p7:Pos}{b0 b1:Vj}{Qt:ac Vj}{tb:Ends->TS}{th:E8->TS}{ci:ad i'}
def Ma(tb:Ends->TS):TS:=λD σ H=>tb D D σ H
end
section
variable{E:XK}
theorem qp:Passes (cO P w) (d5 (cO P w) P w K mg base N qual scope f cd A outer s H E) E:=by
 rintro J σ Y s1 e s2 I ⟨a,n,C,j,dx,H',B,rfl,os,g,m,⟨ox,h,t,v⟩,p,x,new,D⟩;show UQ (U4 P w) _ (leaving _ (.ref a)) _ _ _;have r:s1.os=s.os:=I.os;refine nJ As (wpAny_leaves_onW (Q:=λ_ s'=>∃h',s'={ s2 with heap:=h' }/\YM B outer a (.ref C) j h'/\s2.heap.UpToSlots h') I.ok.frames rfl m λh' c up=>⟨h',rfl,c,up⟩) λ_ s' ⟨h',es,c,up⟩ k=>?_;subst es;obtain⟨o',d,_⟩:=c.there;refine⟨a,n,C,j,dx,H',B,rfl,os.trans r,g,c,⟨o',d,(k.dict h d).1.trans t,λy F=>(k.dict h d).2.trans (v y F)⟩,λi G L=>?_,x,?_,D⟩
 ·obtain⟨u,ok⟩:=p i G (wF up L)
  have l:=I.uv (s':={ s2 with heap:=i }) os u ok g (λb z=>absurd z (by simp))
  exact⟨l.base,l.aI⟩
 ·cases q:s.heap.get? a with
  |none=>rfl
  |some o =>
   obtain⟨M,e2⟩:=I.base.there a o q (by show a ∉ ([]:ac E8);simp)
   rw[new]at e2;cases e2
end
end L2
namespace L2
open W
section
variable{f0:E8}{E:XK}{k:Nat}{p:Pos}{t:TA}
theorem KP(C:bH P w K mg base (cO P w) k f fd ps sp x)(d:a4 k (d5 (cO P w) P w K mg base N qual scope f0 cd A outer s H E).A)(g:PA (d5 (cO P w) P w K mg base N qual scope f0 cd A outer s H E) (e::es) t)(h:Gl (d5 (cO P w) P w K mg base N qual scope f0 cd A outer s H E) x:=by rfl)(a:(x==("__debug__" : FF))=false:=by decide)(i:Ve (e::es) (d5 (cO P w) P w K mg base N qual scope f0 cd A outer s H E).env=(false,eval e (d5 (cO P w) P w K mg base N qual scope f0 cd A outer s H E).env)::Ve es (d5 (cO P w) P w K mg base N qual scope f0 cd A outer s H E).env:=by rfl)(c:(backTo pos (Ve es (d5 (cO P w) P w K mg base N qual scope f0 cd A outer s H E).env)).any (·.1)=false:=by rfl):PE (d5 (cO P w) P w K mg base N qual scope f0 cd A outer s H E) (.Call (.Name x p) (e::es) [] pos) (uy sp [] E t):=fV C.G d h C.m C.k C.b .nil qp g a i c
end
section
variable{Qq:ac (E8×YO)}{EE:St->XK}{k:Nat}{p:Pos}{t:TA}
theorem KQ(C:bH X.prog X.w X.K X.mg X.base (cO X.prog X.w) k f fd ps sp x)(d:a4 k X.A)(g:PA (X.hM Qq EE) (e::es) t)(h:Gl X x:=by rfl)(a:(x==("__debug__" : FF))=false:=by decide)(i:Ve (e::es) X.env=(false,eval e X.env)::Ve es X.env:=by rfl)(c:(backTo pos (Ve es X.env)).any (·.1)=false:=by rfl):PE (X.hM Qq EE) (.Call (.Name x p) (e::es) [] pos) (C8 sp EE t):=Jp C.G d h C.m C.k C.b g a i c
end
end L2
namespace L2
open Spec PyProof.Rows W HT
theorem gf{t u:TS}{D:Ends}(h:∀U:TS,U=u->let a:=σ;let E:Ends:={ D with nx:=U D };t E a H):qD t u D σ H:=h u rfl
theorem b8{U t u:TS}{D:Ends}{a:VK}{bk ct:St->Hp->Prop}(b:U=qD t u)(h:∀U:TS,U=u->let c:=σ;let E:Ends:={ D with nx:=U D };t E c H):(Ends.mk (U D) a bk ct).nx σ H:=by subst b;exact h u rfl
theorem gn{U t:TS}{D:Ends}{a:VK}{bk ct:St->Hp->Prop}(b:U=t)(h:let c:=σ;t D c H):(Ends.mk (U D) a bk ct).nx σ H:=by subst b;exact h
theorem iV{g:TG}{x:V}{D:Ends}(h:let b:=σ;let E:=D;g x b H λa H2=>tb E a H2):g x σ H λa H2=>tb D a H2:=h
def M7(t:TA):TE:=λσ H Q=>t σ H λxs Y=>xs.length<=UP /\∀p H',ax Y H'->Y p=none->H' p=ih (.tup xs)->Q (.ref p) H'
def Ds(t:TA):TE:=λσ H Q=>t σ H λxs Y=>xs.length<=UP /\∀p H',ax Y H'->Y p=none->H' p=ih (.lst xs)->Q (.ref p) H'
theorem dz{o:HO}(a:H p=none):ax H (upd H p o):=λb u e=>by rw[ag (ay e a)];exact e
section
variable{t:TA}{k:Nat}
theorem fy(h:PA X es t):PE X (.Tuple es k pos) (M7 t):=by
 intro J s σ H Q I d;refine wpAny_Tuple_spliced (aG (h pos J s σ H _ I d) λus s1 ⟨xs,Y,a,r,z,q⟩=>⟨by rw[<-r.length];exact z,?_⟩)
 have c:Y s1.aj=none:=a.aI.fresh (aQ _);refine⟨.ref s1.aj,upd Y s1.aj (.tup xs),a.laid (t':=s1.toks) (λb u e=>a7 _ e) (aQ _) ?_,rfl,q _ _ (dz c) c af⟩;exact⟨z,us,r,⟨_,bW _ rfl,rfl,_,rfl,rfl⟩⟩
theorem jL(h:PA X es t):PE X (.List es pos) (Ds t):=by
 intro J s σ H Q I d;refine wpAny_List_spliced (aG (h pos J s σ H _ I d) λus s1 ⟨xs,Y,a,r,z,q⟩=>⟨by rw[<-r.length];exact z,?_⟩)
 have c:Y s1.aj=none:=a.aI.fresh (aQ _);refine⟨.ref s1.aj,upd Y s1.aj (.lst xs),a.laid (t':=s1.toks) (λb u e=>a7 _ e) (aQ _) ?_,rfl,q _ _ (dz c) c af⟩;exact⟨z,us,0,r,bW _ rfl⟩
end
theorem aS.bI{k:Nat}(F:aS K x qual st f fd)(S:bj N ps (aJ st))
  (a:∀(Qa:i') (A:Yy) (outer:ac Zz) (s:UN) (H:Hp) (vs:ac V) (Q:VK) (E:XK),a4 k (A.deeper (envOfC qual (aJ st) s.aj f Qa))->sp vs H Q E ->
   let X:=(d5 aH P w K mg base N qual (aJ st) f Qa A outer s H E).ll
   ∃t,di X (bE st) t/\t { nx:=λ_ H'=>Q .aO H',rt:=Q } (start N vs) H)
  (b:∀vs H Q E,sp vs H Q E->vs.length=ps.length:=by intro _ _ _ _ h;obtain⟨rfl,_⟩:=h;rfl):aU P w K mg base aH (k+1) f fd ps sp:=F.ok S b a
theorem aS.u7{k:Nat}(F:aS K x qual st f fd)(S:bj N ps (aJ st))
  (a:∀(Qa:i') (A:Yy) (outer:ac Zz) (s:UN) (H:Hp) (vs:ac V) (Q:VK) (E:XK),a4 k (A.deeper (envOfC qual (aJ st) s.aj f Qa))->sp vs H Q E ->
   let X:=d5 (cO P w) P w K mg base N qual (aJ st) f Qa A outer s H E
   ∃t,di X (bE st) t/\t { nx:=λ_ H'=>Q .aO H',rt:=Q } (start N vs) H)
  (b:∀vs H Q E,sp vs H Q E->vs.length=ps.length:=by intro _ _ _ _ h;obtain⟨rfl,_⟩:=h;rfl):aU P w K mg base (cO P w) (k+1) f fd ps sp:=F.PU S b a
theorem Jq{h0:Y9}{a:ac Y9}{t:TS}(h:di X body t)(b:X.xe=λ_ _=>False):PS X (.Try body (h0::a) [] [] pos) t:=by
 intro J s σ H D I c;have d:∀{α:Type}{tt:Zr α}{Q:α->UN->Prop}{E:i'->UN->Prop}{s':UN},wA X tt Q X.xe s'->wA X tt Q E s':=λz=>by rw[b]at z;exact Fl z
 refine wpAny_Try_except (aG (d (h J s σ H D I c)) λf s1 z=>?_);cases f with
 |next=>exact oN z
 |brk=>exact z
 |cont=>exact z
 |ret u=>exact z
theorem A8(t:X.calm=true):cX X (.builtin "any") (λxs H Q=>∃(p:E8) (bs:ac Bool),xs=[.ref p]/\ak X.K H p (bs.map V.bl)/\Q (.bl (bs.any id)) H):=by
 rintro J s σ H xs us Q I r ⟨p,bs,rfl,g,q⟩;obtain⟨u,rfl,w⟩:=vals1 r;cases w
 obtain⟨its,c,a,x⟩:=I.list g;have k:=c.length;have f:its=bs.map YV:=by
  clear q g a x r k
  induction bs generalizing its with
  |nil=>cases c;rfl
  |cons b bs y =>
   cases c with
   |cons z B=>cases z;rw[y _ B];rfl
 have new:∀b o,s.heap.get? b=ih o->b≠s.aj:=λb o e=>bM (bx e);obtain⟨ol,l,_⟩:=id a.isList;refine call_any_walk (rO a.isList ?_);refine⟨s.aj,_,_,_,_,_,λi=>bs.getD i false,rfl,aah (A:=X.A.in1) (I.ok.hd t) s.aj p (new p ol l) its.toArray,⟨⟨_,bW _ rfl,rfl,rfl⟩,a.isList.at λo e=>a7 _ e⟩,λi v s2 D E j m=>?_,λh' tk kp=>?_⟩
 ·rw[f]at j
  have:bs[i]?.map YV=ih v:=by simpa using j
  obtain⟨b,d,rfl⟩:=gz.mp this;refine hg ?_;have e:bs.getD i false=b:=by rw[gA,d];rfl
  exact e ▸ m
 ·have n:(VS its.toArray.size).any (λi=>bs.getD i false)=bs.any id:=by
   have C:its.toArray.size=bs.length:=by rw[f];simp
   rw[C]
   apply lx.mpr
   simp only[lC,jh]
   constructor
   ·rintro⟨i,hi,e⟩
    exact⟨bs[i],eP hi,by simpa [Zg,hi] using e⟩
   ·rintro⟨b,d,e⟩
    obtain⟨i,hi,rfl⟩:=wy d;exact⟨i,hi,by simpa [Zg,hi] using e⟩
  rw[n];exact⟨.bl _,H,I.kept (t':=tk) λb o e=>kp b o (by simpa using new b o e) (a7 _ e),rfl,q⟩
def vz(x:FF):It:=⟨λi _=>i<x.cps.size,λi H v H'=>H'=H /\∃c,x.cps[i]?=ih c/\v=.str ⟨#[c]⟩,λi _=>x.cps.size<=i⟩
theorem BP(it:E8)(x:FF)(t:Tok)(T:String)(L : ["enumerate","zip","dict_itemiterator","dict_reverseitemiterator","odict_iterator","itertools.zip_longest","itertools.pairwise"].contains T=false)
  (W:∀F:Yy,F.handled=none->Walks P w F it [it] [it] x.cps.size (SignAt x) (λi h=>h.IsStrIter it T x t i))
  (M:∀(A:Yy) (i:Nat) (s:UN) (Q:i'->UN->Prop) (E:i'->UN->Prop),s.heap.IsStrIter it T x t i->Q (.ref it) s->UQ (U4 P w) A (pyIter (.ref it)) Q E s):Turn P w K tg (vz x) [it] it (λi h=>i<=x.cps.size/\h.IsStrIter it T x t i) where
 mem:=by simp
 obj:=λi h st b a=>by
  obtain rfl:b=it:=by simpa using a
  obtain⟨_,o,e,c,d⟩:=st;exact⟨o,e,λv z=>by rw[d]at z;cases z⟩
 keep:=λi h h' st k=>by
  obtain⟨l,o,e,r⟩:=st;exact⟨l,o,k it (by simp) _ e,r⟩
 item:=by
  intro X j m n p i J s σ H E I f st g;subst j m n;obtain⟨f0,q,N,y,B,C⟩:=f it (by simp)
  refine(W X.A (I.ok.hd p)).item i s _ _ g st.2 λv h' tk O D kk=>?_;obtain⟨c,u,G,rfl⟩:=O;have R:Inv X J σ H { s with heap:=h',toks:=tk }:=I.turned (λb o a e=>kk b o (by simpa using a) e) f0 q y B C
  obtain⟨o,e,S,d⟩:=id D;exact⟨_,rfl,n4 (s:={ s with heap:=h',toks:=tk }) e S d L ⟨.str ⟨#[c]⟩,H,R,⟨u,rfl⟩,⟨rfl,c,G,rfl⟩,⟨g,D⟩,λb a=>(f b a).1⟩⟩
 done:=by
  intro X j m n p i J s σ H E I f st g;subst j m n;obtain⟨f0,q,N,y,B,C⟩:=f it (by simp)
  have U:i=x.cps.size:=Fy st.1 g;subst U;exact(W X.A (I.ok.hd p)).done s _ _ st.2 λh' tk kk=>⟨rfl,I.turned (λb o a e=>kk b o (by simpa using a) e) f0 q y B C⟩
 self:=λA i s Q E st h=>M A i s Q E st.2 h
def OM(te:TE):TI:=λσ H R=>te σ H λv Y=>∃x,v=.str x/\R (vz x) Y
theorem Mb(g:PE X e te):PI X tg e (OM te):=by
 intro J s σ H R I h;refine aG (g J s σ H _ I h) λv s1 n=>?_;obtain⟨y,Y,a,i,x,j,q⟩:=n;subst j;obtain⟨t,rfl⟩:=i;have d:∀o:YO,Inv X J σ Y { s1 with heap:=s1.heap.push o }:=λo=>a.kept (t':=s1.toks) λb m z=>a7 _ z;have fp:∀b ∈ [s1.aj],f3 X J Y b:=λb k=>by
  obtain rfl:b=s1.aj:=by simpa using k
  exact a.hS (aQ _) (a.aI.fresh (aQ _))
 cases f:x.cps.all (· < 128)
 ·refine wpAny_pyIter_wide f ?_
  exact⟨s1.aj,[s1.aj],_,_,Y,rfl,d _,BP s1.aj x t "str_iterator" (by decide) (λl c=>Walks.strWide c _ x t) (λ_ _ _ _ _ st h=>wpAny_pyIter_striter_wide st h),⟨bD _,_,bW _ rfl,rfl,rfl⟩,fp,q⟩
 ·refine wpAny_pyIter_ascii f ?_
  exact⟨s1.aj,[s1.aj],_,_,Y,rfl,d _,BP s1.aj x t "str_ascii_iterator" (by decide) (λl c=>Walks.strAscii c _ x t) (λ_ _ _ _ _ st h=>wpAny_pyIter_striter_ascii st h),⟨bD _,_,bW _ rfl,rfl,rfl⟩,fp,q⟩
theorem Jr{g:TG}{Q:VK}(Pv:Nat->List V->St->Hp->Prop)(h0:Pv 0 [] e6 (upd Y p (.lst [])))(l:∀i ys a H,Pv i ys a H->H p=bd ys)
  (n:∀i c ys a H,x.cps[i]?=ih c->Pv i ys a H->g (.str ⟨#[c]⟩) a H λf o=>ti f o λb h=>if b=true then te f h λy j=>j p=bd ys/\ys.length<UP /\∃d,d<x.cps.size - i/\CW Pv x.cps.size (i+1) d (ys++[y]) f (upd j p (.lst (ys++[y]))) else ∃d,d<x.cps.size - i/\CW Pv x.cps.size (i+1) d ys f h)
  (q:∀ys a H,Pv x.cps.size ys a H->Q (.ref p) H):hQ (vz x) g ti te e6 Q p Y:=by
 refine⟨CW Pv x.cps.size,⟨x.cps.size,by simp,bD _,h0⟩,?_⟩
 rintro i m ys a H ⟨rfl,hi,pv⟩;refine⟨l i ys a H pv,?_⟩
 by_cases k:i<x.cps.size
 ·refine .inr ⟨k,λv t r=>?_⟩
  obtain⟨e3,c,s,rfl⟩:=r;subst e3;exact n i c ys a _ s pv
 ·have e:i=x.cps.size:=by omega
  subst e;exact .inl ⟨aQ _,q ys a H pv⟩
end L2
namespace HT
open PyProof.Rows W L2
theorem Gf(a:E8)(vs:Array i')(n:Nat)(u:Tok)(sl:Array (Option i')) :
  Meets (Yo.«object.__getattribute__» ⟨[.ref a,.str "keys" u],[]⟩) (λA R s=>s.heap.get? a=ih { cls:=.type "tuple",dict:=none,data:=.seq vs n,slots:=sl }/\raisesAttr (.ref a) "keys" A R s):=
 meets_getattribute_miss_tuple a vs n sl "keys" u (by rw[Fz,FC];kernel_rfl) (by decide +kernel) (by rw[aW];decide +kernel)
theorem Js{vs:Array i'}{n:Nat}{sl:Array (Option i')}{Q:ad i'->UN->Prop}(i:s.heap.get? a=ih { cls:=.type "tuple",dict:=none,data:=.seq vs n,slots:=sl })(k:A.handled=none)
  (h:∀h' tk,(∀b o,s.heap.get? b=ih o->h'.get? b=ih o)->Q none { s with heap:=h',toks:=tk }):UQ (U4 prog w) A (getAttr? (.ref a) "keys") Q E s:=by
 obtain⟨l,g,d,tk,os⟩:=s;have j:∀c,(⟨l,g,d,c,os⟩:UN).TypeIs (.ref a) "tuple" :=λ_=>⟨_,i,rfl⟩;have m:=sub_AttributeError;have p:=FD.lookup;have q:=FD.bind (.ref a);have r:=am_tuple_getattr_none;unfold getAttr? getAttrBy? getAttrBy
 repeat (any_goals (first|assumption|exact j _|((with_reducible show UQ _ _ (call (YZ "tuple.__getattribute__") _ _) _ _ _);refine kf FD (j _) am_entry_tuple_getattribute (F.args_tuple_getattribute_2 _ _) (Gf a vs n _ sl) ⟨i,k,λh' c e f=>?_⟩)|wp_step))
 obtain⟨t',t,u⟩:=f.there;show UQ _ _ (getattributeRaised _ _ _ _ _ _ _) _ _ _;unfold getattributeRaised
 repeat (any_goals (first|assumption|wp_step))
 exact h h' c f.keeps
section
variable{R:ZL->UN->Prop}{t:E8}{vs:Array i'}
theorem Jt{Q:Unit->UN->Prop}{T:E8}{x y:i'}{k:Key}{kvs:ac (Key×i')}{i:Int}(a:YJ s.heap T #[x,y])(g:(cm prog w).is k x=true)(h:s.heap.DictOf (cm prog w) d kvs)(new:k ∉ kvs.map (·.1))(hz:kvs.length<=UP)
  (q:∀h' tk,h'.DictOf (cm prog w) d (kvs++[(k,y)])->Yk d s.heap h'->Q () { s with heap:=h',toks:=tk }) :
  UQ (U4 prog w) A (holding [U6 T] (do
   let c <- (ZK (.ref T)).tryCatch λe=>do
    if !(<- isInstance e (.type "TypeError")) then throw e
    rule "dict.update.element-no-sequence"
    raiseError "TypeError" s!"cannot convert dictionary update sequence element #{i} to a sequence"
   match c with
   |[k,v]=>holding [k,v] (dictSet d k v)
   |l =>
    rule "dict.update.element-length"
    raiseError "ValueError" s!"dictionary update sequence element #{i} has length {l.length}; 2 is required")) Q E s:=by
 refine er (ae (wpAny_tryCatch ?_));unfold ZK;refine ae (jm a.typeIs ?_);rw[aF (by decide)]
 obtain⟨o,j,_,n,f⟩:=a;refine ae (wpAny_seqItems j f (ao ?_));show UQ _ _ (holding [x,y] (dictSet d x y)) _ _ _;refine er (wpAny_dictSet_pairs (hsz:=hz) g h λh' b m=>?_);rw[stored_new new]at b;exact q h' _ b m
theorem KR(S:A.in1.handled=none)(l:d≠it)(y:d≠t)(z:t≠it)(ps:ac (Key×i'))(D:(ps.map (·.1)).Nodup)(hz:ps.length<=UP)(hsz:vs.size=ps.length)(E:YJ g t vs)
  (L:∀(i:Nat) p,ps[i]?=ih p ->∃a x,vs[i]?=ih (.ref a)/\a≠it/\a≠d/\YJ g a #[x,p.2]/\(cm prog w).is p.1 x=true) :
  ∀(m k:Nat) (s:UN),ps.length - k=m->k<=ps.length->IsTupIter s.heap it t k->s.heap.DictOf (cm prog w) d (ps.take k) ->
   (∀b o,b≠it->b≠d->g.get? b=ih o->s.heap.get? b=ih o) ->
   (∀h' tk,h'.DictOf (cm prog w) d ps->(∀b o,b≠it->b≠d->g.get? b=ih o->h'.get? b=ih o)->R (.ok (.ret .none)) { s with heap:=h',toks:=tk }) ->
   codeAny (U4 prog w) A (.builtin "dict.update.loop" ⟨[.ref d,.ref it,rawInt k,.none],[]⟩) R s:=by
 have up:∀{b:E8}{us:Array i'}{h:Yl},b≠it->b≠d->(∀b o,b≠it->b≠d->g.get? b=ih o->h.get? b=ih o)->YJ g b us->YJ h b us:=λn1 T kp ⟨o,U,r⟩=>⟨o,kp _ _ n1 T U,r⟩;intro m
 induction m with
 |zero =>
  intro k s V W q u kp v;have X:k=ps.length:=by omega
  refine ia A5 (?_:UQ _ _ _ _ _ _);rw[iM pw _];show UQ _ A.in1 (pyNext (.ref it) >>= _) _ _ s;refine ae (next_tuple_end S q (up z y.symm kp E) (by simp;omega) λh' F=>?_)
  refine ae (m:=acd d []) (ao (ao ?_));have j:h'.DictOf (cm prog w) d (ps.take k):=u.at λo e=>F d o l e;rw[X,cB]at j;exact v h' s.toks j λb o c f e=>F b o c (kp b o c f e)
 |succ m Y =>
  intro k s V W q u kp v;have n:k<ps.length:=by omega
  have G:ps[k]?=ih ps[k]:=bz n;obtain⟨a,x,M,N,O,I,J⟩:=L k _ G;have P:ps.take (k+1)=ps.take k++[ps[k]]:=by rw[dM,G];rfl
  have new:ps[k].1 ∉ (ps.take k).map (·.1):=λw=>by
   have e:ps.map (·.1)=(ps.take k).map (·.1)++(ps.drop k).map (·.1):=by rw[<-a',wG]
   rw[e,dw]at D;refine D.2.2 _ w _ ?_ rfl;rw[lB n];exact aY
  refine ia A5 (?_:UQ _ _ _ _ _ _);rw[iM pw _];show UQ _ A.in1 (pyNext (.ref it) >>= _) _ _ s;refine ae (next_tuple_item q (up z y.symm kp E) M λh' Q H=>?_);have B:∀b o,b≠it->b≠d->g.get? b=ih o->h'.get? b=ih o:=λb o c f e=>H.extBut b o c (kp b o c f e);have j:h'.DictOf (cm prog w) d (ps.take k):=u.at λo e=>H.extBut d o l e;refine ae (Jt (s:={ s with heap:=h' }) (k:=ps[k].1) (up N O B I) J j new (by rw[cK];omega) λZ tk K C=>?_)
  rw[show((k:Int)+1)=((k+1:Nat):Int) from rfl];exact ao ⟨jr pw _,Y (k+1) _ (by omega) n (Q.extBut C.extBut l.symm) (by rw[P];exact K) (λb o c f e=>C.extBut b o f (B b o c f e)) v⟩
theorem Gk(y:A.handled=none)(ps:ac (Key×i'))(G:(ps.map (·.1)).Nodup)(hz:ps.length<=UP)(hsz:vs.size=ps.length){n:Nat}{sl:Array (Option i')}
  (h:s.heap.get? t=ih { cls:=.type "tuple",dict:=none,data:=.seq vs n,slots:=sl })
  (z:∀(i:Nat) p,ps[i]?=ih p ->∃a x,vs[i]?=ih (.ref a)/\YJ s.heap a #[x,p.2]/\(cm prog w).is p.1 x=true)
  (q:∀d h' tk,s.aj<=d->h'.DictOf (cm prog w) d ps->(∀b o,s.heap.get? b=ih o->h'.get? b=ih o)->Q (.ref d) { s with heap:=h',toks:=tk }) :
  UQ (U4 prog w) A (call (.type "dict") [.ref t]) Q E s:=by
 refine callType_codes (Q₁:=λu r=>u=.ref s.aj/\r={ s with heap:=s.heap.push { cls:=.type "dict",data:=.dict #[] } }) F.kt_called_dict (F.kt_typeCall_dict_1 _) F.entry_dict_init (kt_code_dict_new _ ⟨rfl,rfl⟩) ?_;rintro u r ⟨rfl,rfl⟩;have dn:(s.heap.push { cls:=.type "dict",data:=.dict #[] }).DictOf (cm prog w) s.aj []:=Z3 s.heap;have l:∀b o,s.heap.get? b=ih o->(s.heap.push { cls:=.type "dict",data:=.dict #[] }).get? b=ih o:=λb o e=>a7 _ e;generalize s.heap.push { cls:=.type "dict",data:=.dict #[] }=h2 at dn l⊢;refine⟨dn.typeIs,F.args_dict_init_2 _ _,?_⟩;unfold Yo.«dict.__init__»;refine ae ?_;unfold aca;refine ae (wpAny_notOrdered_dict dn.typeIs ?_);refine(ao ?_:UQ _ _ (pure (s.aj,[U6 t])) _ _ _);show UQ _ _ (ZJ "dict.__init__" s.aj (.ref t) [] .none) _ _ _;unfold ZJ;have m:=l _ _ h;refine ae (jm (T:= "tuple") ⟨_,m,rfl⟩ ?_);rw[aF (by decide)]
 refine ae (Js m y λc J j=>?_);rw[aF (by decide)]
 have B:YJ c t vs:=⟨_,j _ _ m,rfl,n,rfl⟩;refine ae (ji (ae (iter_tuple B ?_)));refine ao ⟨jr pw _,?_⟩;have up:∀b o,s.heap.get? b=ih o->c.get? b=ih o:=λb o e=>j b o (l b o e);have f:s.aj<c.objs.size:=by
  obtain⟨o,_,_,k,_⟩:=dn;exact bx (j _ _ k)
 have C:c.DictOf (cm prog w) s.aj []:=dn.at λo e=>j _ o e;have lt:∀{b:E8}{o:YO},s.heap.get? b=ih o->b<s.aj:=λe=>bx e;refine KR (A:=A.in1) (g:=s.heap) (it:=c.objs.size) y (bM f) (jj (lt h)) (bM (lA (lt h) f)) ps G hz hsz ⟨_,h,rfl,n,rfl⟩ (λi p H=>?_) _ 0 _ rfl (bD _) ⟨_,bW _ rfl,rfl,rfl⟩ (C.at λo e=>a7 _ e) (λb o _ _ e=>a7 _ (up b o e)) λh' tk I kp=>?_
 ·obtain⟨a,x,h1,v,D⟩:=z i p H
  obtain⟨o,k,_⟩:=id v;exact⟨a,x,h1,bM (lA (lt k) f),bM (lt k),v,D⟩
 ·exact⟨rfl,q _ h' tk (aQ _) I λb o e=>kp b o (bM (lA (lt e) f)) (bM (lt e)) e⟩
end
end HT
namespace L2
open Spec PyProof.Rows W HT
theorem A9:cu X (VW .LtE) (λx y H Q=>∃i j,x=.str i/\y=.str j/\Q (.bl (!decide (j.cps.toList<i.cps.toList))) H):=by
 rintro J s σ H x y v u Q I a b ⟨i,j,ex,c,q⟩;subst ex c;obtain⟨t,rfl⟩:=a;obtain⟨t',rfl⟩:=b;exact P.le_str (cE I q rfl)
def kM(H:Hp)(vs:List V)(kvs:List (FF×V)):Prop:=VX (λy p=>∃a,y=V.ref a/\H a=ih (.tup [.str p.1,p.2])) vs kvs
def gi(kvs:List (FF×V)):List (Key×V):=kvs.map λp=>(n' p.1,p.2)
theorem CG:∀(kvs:ac (FF×V)) (ys:ac i'),ys.length=kvs.length->(∀(i:Nat) (hi:i<kvs.length),∃y,ys[i]?=ih y/\RelV kvs[i].2 y)->KV (gi kvs) ((kvs.map λp=>(n' p.1:Key)).zip ys)
 |[],ys,h,_=>.nil
 |p::kvs,[],h,_=>by simp at h
 |p::kvs,y::ys,h,f=>by
  obtain⟨a,e,r⟩:=f 0 (by simp)
  obtain rfl:y=a:=by simpa using e
  exact .cons ⟨rfl,r⟩ (CG kvs ys (by simpa using h) λi hi=>by
   obtain⟨b,e2,c⟩:=f (i+1) (Nat.succ_lt_succ hi);exact⟨b,by simpa using e2,c⟩)
theorem Gg:cX X (.type "tuple") (λxs H Q=>∃p ys,xs=[.ref p]/\ak X.K H p ys /\∀l o,H l=none->o.dict=none->Q (.ref l) (upd H l (.bw o (.tup ys)))):=by
 rintro J s σ H xs us Q I r ⟨p,ys,ex,d,q⟩;subst ex;obtain⟨u,rfl,f⟩:=vals1 r;cases f
 obtain⟨its,a,g,h⟩:=I.list d;have i:=a.length;refine call_tuple_list g.isList (λh' kp=>?_) (by simp only[b2] <;> omega)
 have c:Inv X J σ H { s with heap:=h' }:=I.kept (t':=s.toks) kp;refine⟨.ref h'.objs.size,_,c.laid (o:=.bw { cls:=.type "tuple",data:=.seq its.toArray } (.tup ys)) (t':=s.toks) (λb o e=>a7 _ e) (aQ _) ⟨bW _ rfl,h,its,a,i8.new _ _⟩,rfl,q _ _ (c.aI.fresh (aQ _)) rfl⟩
end L2
namespace L2
open W
def M8(_ j:Int):Prop:=0<j/\j<4611686018427387904
theorem Ju:cu X (YB .FloorDiv) (rI M8 λi j=>.int (i / j)):=mI λi j _ _ _ _ _ a q=>by
 have h1:(0:Int)<j:=a.1;have h2:j<4611686018427387904:=a.2;refine ab6 (by omega) (by rw[US i (by omega)];exact q) (.inl (PyProof.noPylong_of_log2 ?_))
 have b:j.natAbs<2 ^ 62:=by omega
 have c:j.natAbs.log2<62:=(Nat.log2_lt (by omega)).mpr b
 omega
end L2
namespace L2
open W Calls PyProof.Rows
section
variable{α β:Type}{n:Nat}
def Pm(n:Nat)(p:Array Nat):Prop:=p.toList.Perm (VS n)
theorem Pm.lt{p:Array Nat}(h:Pm n p)(a:0<n)(i:Nat):p.getD i 0<n:=by
 rw[iN];cases e:p[i]? with
 |none=>exact a
 |some x =>
  have:x∈p.toList:=aa3.mp (Vf e);exact jh.mp (h.mem_iff.mp this)
theorem Pm.rev{p:Array Nat}(h:Pm n p)(i j:Nat):Pm n (kas_rev p i j):=(Vg.mp (mirror_perm p i j _)).trans h
theorem Pm.PV{p:Array Nat}(h:Pm n p)(i j:Nat):Pm n (bubble p i j):=(Vg.mp (bubble_perm p i j)).trans h
theorem C9{γ:Type}{p:Array Nat}{vs:ac γ}(d:γ)(h:Pm vs.length p):(p.toList.map λi=>vs.getD i d).Perm vs:=by
 have h1:=acP (λi=>vs.getD i d) h;refine h1.trans (aad ?_)
 apply FE
 ·simp
 ·intro i h1 h2
  simp[Zg,h2]
end
theorem si{α β:Type}{F:α->β->Prop}{l b:ac α}(h:b.Perm l):∀{m:ac β},VX F l m ->∃a,a.Perm m/\VX F b a:=by
 induction h with
 |nil=>intro m p;exact⟨m,.refl _,p⟩
 |cons x _ f =>
  intro m p;cases p with
  |cons q t =>
   obtain⟨a,e,r⟩:=f t;exact⟨_::a,e.cons _,.cons q r⟩
 |swap x y l =>
  intro m p;cases p with
  |cons q t =>
   cases t with
   |cons g t=>exact⟨_,Y4 _ _ _,.cons g (.cons q t)⟩
 |trans _ _ c d =>
  intro m p;obtain⟨k,e2,p2⟩:=d p;obtain⟨i,e1,j⟩:=c p2;exact⟨i,e1.trans e2,j⟩
theorem Mc{o:HO}(x:bF P w H h a o):∃q,h.get? a=ih q:=by
 cases o with
 |lst xs=>obtain⟨_,_,_,_,e⟩:=x;exact⟨_,e⟩
 |tup xs=>obtain⟨_,_,_,q,e,_⟩:=x;exact⟨q,e⟩
 |dK kvs=>obtain⟨_,_,_,_,o,_,_,e,_⟩:=x;exact⟨o,e⟩
 |dT kvs=>obtain⟨_,_,_,_,o,_,_,e,_⟩:=x;exact⟨o,e⟩
 |set S n=>obtain⟨o,_,_,_,e,_⟩:=x;exact⟨o,e⟩
 |ins C dx fs=>obtain⟨_,_,_,e,_⟩:=x;exact⟨_,e⟩
 |own y=>exact x
 |xd fs=>obtain⟨_,⟨o,_,_,e,_⟩,_⟩:=x;exact⟨o,e⟩
 |oz lo hi=>obtain⟨_,_,_,e⟩:=x;exact⟨_,e⟩
 |bw q u=>exact⟨q,x.1⟩
 |jd ps=>exact⟨_,x⟩
 |met f y=>exact⟨_,x⟩
 |ext b=>exact x.2.1
theorem Inv.sorted{σ:ac (Option V)}{m:FF->Option i'}{ys:ac V}{out:ac i'}{c:Nat}(I:Inv X J σ H s)(A:s.heap.Ns X.env.locals m)(i:h'.Ns X.env.locals m)
  (k:∀b o,b≠X.env.locals->s.heap.get? b=ih o->h'.get? b=ih o) (t:∀b o,s.heap.get? b=ih o->b≠D) (new:h'.get? D=ih (listOf out.toArray c)) (r:Vals ys out) (hz:ys.length<=UP) :
  H D=none/\Inv X J σ (upd H D (.lst ys)) { s with heap:=h',toks:=t' }:=by
 have there:∀b u,H b=ih u ->∃o,s.heap.get? b=ih o:=λb u e=>Mc (I.aI b u e);have w:H D=none:=by
  cases q:H D with
  |none=>rfl
  |some u =>
   obtain⟨o,e⟩:=there D u q;exact absurd rfl (t D o e)
 have d:∀b u,H b=ih u->b≠D:=λb u e z=>by rw[z,w]at e;cases e
 have j:∀b u,H b=ih u->b≠X.env.locals:=λb u e z=>by rw[z,I.free]at e;cases e
 refine⟨w,I.step (g':=s.gens) (d':=s.drawn) (ch:=[]) (λ_ z=>nomatch z) (λb o g _ _ e _=>k b o g e) (λb o g _ _ e _=>⟨o.slots,k b o g e⟩) (λb o _ e n=>by rw[ag (t b o e)];exact n) (λb o _ e=>?_)
  (λb xs e=>by rw[ag (d b _ e)];exact e) (λb o u e=>by rw[ag (d b _ e)];exact e) (λb ps e=>⟨#[],by rw[ag (d b _ e),e];simp⟩) (λB q=>?_) (λb u e=>?_) I.bare⟩
 ·by_cases f:b=X.env.locals
  ·obtain⟨o',es,ep,h,_⟩:=i
   exact⟨o',by rw[f];exact h⟩
  ·exact⟨o,k b o f e⟩
 ·obtain⟨o,es,ep,h,C,M,E⟩:=A
  obtain⟨N,G,K,l,p,L,y⟩:=q;rw[h]at l;cases l;rw[C]at p;cases p;have:B=m:=funext λx=>(y x).symm.trans (E x);rw[this];exact i
 ·by_cases f:b=D
  ·subst f
   rw[af]at e;cases e;exact⟨hz,out,c,r,new⟩
  ·rw[ag f]at e
   refine(I.aI b u e).ez (λa v F q=>k a v ?_ q) (λa q=>by rw[ag (d a _ q)];exact q) λa xs q=>by rw[ag (d a _ q)];exact q
   rcases F with z|z
   ·rw[z];exact j b u e
   ·exact j a _ z
theorem Ir{B:Yy}{n:Nat}{R:ZU->UN->Prop}(h:s.heap.get? a=ih (seqObj "list" us.toArray n))(a5:us.length<2)
  (k:∀c g,(∀b o,b≠a->s.heap.get? b=ih o->g.get? b=ih o)->g.get? a=ih (listOf us.toArray c)->R (.done (.ret .none)) { s with heap:=g }):UQ (U4 P w) B (Yo.«list.sort» ⟨[.ref a],[]⟩) R E s:=by
 obtain⟨ep,j⟩:∃ep,(s.heap.update a (V0 λ_=>(#[]:Array i'))).get? a=ih (seqObj "list" #[] ep):=⟨_,get?_update_seq h λ_=>#[]⟩;have f:us.toArray.size<=UP:=by rw[aW,b2];omega
 have small:us.toArray.size<2:=by simpa using a5
 rw[list_sort_plain];refine ae (listItems_at h rfl (ae (listUpdate_at h rfl (ae (seqEpoch_at j rfl (ae (wpAny_newTuple (ae (wH (er ?_) (bD _))) (by simpa using f))))) f (bD _))))
 have two:∀b o,(s.heap.update a (V0 λ_=>(#[]:Array i'))).get? b=ih o->(((s.heap.update a (V0 λ_=>(#[]:Array i'))).push (seqObj "tuple" us.toArray 0)).push (seqObj "list" #[] 0)).get? b=ih o:=λb o q=>a7 _ (a7 _ q)
 change UQ (U4 P w) B _ R E { s with heap:=((s.heap.update a (V0 λ_=>(#[]:Array i'))).push (seqObj "tuple" us.toArray 0)).push (seqObj "list" #[] 0) }
 have d:=two _ _ j;have i:∀b o,b≠a->s.heap.get? b=ih o->(((s.heap.update a (V0 λ_=>(#[]:Array i'))).push (seqObj "tuple" us.toArray 0)).push (seqObj "list" #[] 0)).get? b=ih o:=λb o e q=>two b o (((rZ s.heap a _).2 b e).trans q);generalize (((s.heap.update a (V0 λ_=>(#[]:Array i'))).push (seqObj "tuple" us.toArray 0)).push (seqObj "list" #[] 0))=g at d i⊢
 dsimp only
 rw[aF small,aF small];refine ae (ao (ae (ao ?_)));have same:(arrOf (SortSt.mk' general' (us.toArray.zip us.toArray) #[] 7 none)).map (·.2)=us.toArray:=wk.mp (by show((us.toArray.zip us.toArray).map (·.2)).toList=_;simp[List.map_snd_zip])
 dsimp only
 rw[same];refine ae (seqEpoch_at d rfl (ae (listUpdate_at d rfl ?_ (bD _) (FG f))));obtain⟨c,l⟩:∃c,(g.update a (V0 λ_=>us.toArray)).get? a=ih (seqObj "list" us.toArray c):=⟨_,get?_update_seq d λ_=>us.toArray⟩;simp only[bne_self_eq_false,kb,v8];exact ao (k c _ (λb o e q=>((rZ g a _).2 b e).trans (i b o e q)) l)
theorem A'{γ:Type}{f:γ->V}{g:γ->i'}(h:∀x,RelV (f x) (g x)):∀l:ac γ,Vals (l.map f) (l.map g)
 |[]=>.nil
 |x::l=>.cons (h x) (A' h l)
end L2
namespace L2
open W Spec PyProof.Rows
def mL(d:E8)(o:YO)(kvs:List (Key×V)):It:=⟨λi H=>H d=ih (.bw o (.dK kvs))/\i<kvs.length,λi H v H'=>H'=H /\∃kv,kvs[i]?=ih kv/\v=kV kv.1,λi H=>H d=ih (.bw o (.dK kvs))/\kvs.length<=i⟩
theorem Ba(d it:E8)(D:d≠it)(o:YO)(kvs:ac (Key×V))(vs:ac (Key×i'))(ep:Nat)(j:KV kvs vs)(M:∀h:Yl,h.get? d=ih o->h.DictAt (cm P w) d vs ep) :
  Turn P w K tg (mL d o kvs) [it] it (λi h=>i<=kvs.length/\h.IsKeyIter it d i vs.length ep) where
 mem:=by simp
 obj:=λi h st b a=>by
  obtain rfl:b=it:=by simpa using a
  obtain⟨_,o,e,c,d⟩:=st;exact⟨o,e,λv z=>by rw[d]at z;cases z⟩
 keep:=λi h h' st k=>by
  obtain⟨l,o,e,r⟩:=st;exact⟨l,o,k it (by simp) _ e,r⟩
 item:=by
  intro X m n p q i J s σ H E I g st f;subst m n p;obtain⟨f0,t,R,u,y,B⟩:=g it (by simp)
  have N:kvs.length=vs.length:=j.length;have C:=M s.heap (show bF X.prog X.w H s.heap d (.bw o (.dK kvs)) from I.aI d _ f.1).1;refine(aaI (knd:=cm X.prog X.w) (I.ok.hd q) it d D vs ep).item i s _ _ (by have:=f.2;omega) ⟨st.2,C⟩ λv h' tk S F kk=>?_
  obtain⟨k,x,T,U⟩:=S;have W:Inv X J σ H { s with heap:=h',toks:=tk }:=I.turned (λb o a e=>kk b o (by simpa using a) e) f0 t u y B
  obtain⟨za,e,Y,Z⟩:=id F.1;have O:i<kvs.length:=f.2;have G:kvs[i]?=ih kvs[i]:=bz O;have xa:kvs[i].1=k:=by
   have h1:=c6 (λl=>l[i]?) j.keys;simp only[cL,G,T]at h1;exact cJ h1
  exact⟨_,rfl,n4 (s:={ s with heap:=h',toks:=tk }) e Y Z (by decide) ⟨kV k,H,W,tL U,⟨rfl,kvs[i],G,by rw[xa]⟩,⟨f.2,F.1⟩,λb a=>(g b a).1⟩⟩
 done:=by
  intro X m n p q i J s σ H E I g st f;subst m n p;obtain⟨f0,t,R,u,y,B⟩:=g it (by simp)
  have ya:i=kvs.length:=Fy st.1 f.2;have N:kvs.length=vs.length:=j.length;have C:=M s.heap (show bF X.prog X.w H s.heap d (.bw o (.dK kvs)) from I.aI d _ f.1).1;have L:=st.2;rw[ya,N]at L;exact(aaI (knd:=cm X.prog X.w) (I.ok.hd q) it d D vs ep).done s _ _ ⟨L,C⟩ λh' tk kk=>⟨rfl,I.turned (λb o a e=>kk b o (by simpa using a) e) f0 t u y B⟩
 self:=λA i s Q E st h=>wpAny_pyIter_keyiter st.2 h
theorem Inv.freeze{σ:ac (Option V)}(I:Inv X J σ H s)(g:H d=bn kvs)(i:s.heap.get? d=ih o):Inv X J σ (upd H d (.bw o (.dK kvs))) s:=by
 have ok:bF X.prog X.w H s.heap d (.dK kvs):=I.aI d _ g;have a:∀{b:E8}{u:HO},H b=ih u->u ≠ .dK kvs->b≠d:=λe n z=>by rw[z,g]at e;exact n (cJ e).symm
 refine I.un (h':=s.heap) (t':=s.toks) ⟨λb f q _ _ _=>q,λb f q _ _ _=>⟨f.slots,q⟩,λb f q n _=>?_,λb f q _=>⟨f,q⟩,λb xs e=>?_,λb f u e=>?_,λb ps e=>⟨#[],?_⟩⟩ λb u e=>?_
 ·rw[ag (λz=>by rw[z,g]at n;cases n)];exact n
 ·rw[ag (a e (by intro z;cases z))];exact e
 ·rw[ag (a e (by intro z;cases z))];exact e
 ·rw[ag (a e (by intro z;cases z)),e];simp
 ·by_cases h:b=d
  ·subst h
   rw[af]at e;cases e
   exact⟨i,ok.ez (λ_ _ _ q=>q) (λc q=>by rw[ag (a q (by intro z;cases z))];exact q) λc xs q=>by rw[ag (a q (by intro z;cases z))];exact q⟩
  ·rw[ag h]at e
   exact(I.aI b u e).ez (λ_ _ _ q=>q) (λc q=>by rw[ag (a q (by intro z;cases z))];exact q) λc xs q=>by rw[ag (a q (by intro z;cases z))];exact q
def M9(te:TE):TI:=λσ H R=>te σ H λv Y=>∃d kvs,v=.ref d/\((Y d=ih (.dK kvs) /\∀o,R (mL d o kvs) (upd Y d (.bw o (.dK kvs)))) \/∃o,Y d=ih (.bw o (.dK kvs))/\R (mL d o kvs) Y)
theorem KS(x:PE X e te):PI X tg e (M9 te):=by
 intro J s σ H R I h;refine aG (x J s σ H _ I h) λv s1 G=>?_;obtain⟨y,Y,a,A,d,kvs,B,q⟩:=G;subst B;cases A
 have C:Rd Y d (.dK kvs):=by
  rcases q with⟨e,_⟩|⟨o,e,_⟩
  ·exact .inl e
  ·exact .inr ⟨o,e⟩
 obtain⟨E,D,vs,k,u⟩:=kO a.aI C;obtain⟨o,es,ep,c,l,i,m,n,p⟩:=id u;refine wpAny_pyIter_dict (knd:=cm X.prog X.w) (kvs:=vs) (ep:=ep) D ⟨o,es,c,l,i,m,n,p⟩ ?_;have f:d≠s1.aj:=bM (bx c);have r:∀h:Yl,h.get? d=ih o->h.DictAt (cm X.prog X.w) d vs ep:=λh e=>⟨o,es,e,l,i,m,n,p⟩;have t:Inv X J σ Y { s1 with heap:=s1.heap.push { cls:=.type "dict_keyiterator",data:=.fields #[.ref d,.int 0 0,.int vs.length 0,.int ep 0] } }:=a.kept (t':=s1.toks) λb F z=>a7 _ z;have st:0<=kvs.length/\Heap.IsKeyIter (s1.heap.push { cls:=.type "dict_keyiterator",data:=.fields #[.ref d,.int 0 0,.int vs.length 0,.int ep 0] }) s1.aj d 0 vs.length ep:=⟨bD _,_,bW _ rfl,rfl,rfl⟩;have j:Y s1.aj=none:=a.aI.fresh (aQ _);rcases q with⟨e,q⟩|⟨o',e,q⟩
 ·refine⟨s1.aj,[s1.aj],_,_,_,rfl,t.freeze e (a7 _ c),Ba d s1.aj f o kvs vs ep k r,st,λb g=>?_,q o⟩
  obtain rfl:b=s1.aj:=by simpa using g
  exact a.hS (aQ _) (by rw[ag (aT f)];exact j)
 ·obtain rfl:o'=o:=by
   have:=(show bF X.prog X.w Y s1.heap d (.bw o' (.dK kvs)) from a.aI d _ e).1;rw[c]at this;exact(cJ this).symm
  refine⟨s1.aj,[s1.aj],_,_,Y,rfl,t,Ba d s1.aj f o' kvs vs ep k r,st,λb g=>?_,q⟩;obtain rfl:b=s1.aj:=by simpa using g
  exact a.hS (aQ _) j
theorem Jv{g:TG}{D:Ends}(Pv:Nat->St->Hp->Prop)(h0:Pv 0 σ H)(j:∀i σ H,i<=kvs.length->Pv i σ H->H d=ih (.bw o (.dK kvs)))
  (k:∀i kv σ H,kvs[i]?=ih kv->Pv i σ H->g (kV kv.1) σ H λa H2=>tb { D with nx:=Pv (i+1),ct:=Pv (i+1),bk:=D.nx } a H2) (l:∀σ H,Pv kvs.length σ H->D.nx σ H) :
  ∃W:Nat->Nat->St->Hp->Prop,(∃m,W 0 m σ H) /\∀i m σ H,W i m σ H ->
   ((mL d o kvs).stop i H/\D.nx σ H)\/((mL d o kvs).go i H /\∃N:St->Hp->Prop,(∀b H',N b H' ->∃f,f<m/\W (i+1) f b H') /\∀x H',(mL d o kvs).iF i H x H'->g x σ H' λa H2=>tb { D with nx:=N,ct:=N,bk:=D.nx } a H2):=by
 refine⟨λi m σ H=>m=kvs.length - i/\i<=kvs.length/\Pv i σ H,⟨kvs.length,by simp,bD _,h0⟩,?_⟩
 rintro i m σ H ⟨rfl,hi,p⟩;have q:=j i σ H hi p
 by_cases c:i<kvs.length
 ·refine .inr ⟨⟨q,c⟩,Pv (i+1),λb H' n=>⟨kvs.length - (i+1),by omega,rfl,c,n⟩,λx H' y=>?_⟩
  obtain⟨e,kv,h,ex⟩:=y;subst e;subst ex;exact k i kv σ _ h p
 ·have e:i=kvs.length:=by omega
  subst e;exact .inl ⟨⟨q,aQ _⟩,l σ H p⟩
def Ez(a b:FF):Prop:=a.cps.toList<=b.cps.toList
theorem Jw{a b:FF}(h1:Ez a b)(h2:Ez b a):a=b:=by
 have e:a.cps.toList=b.cps.toList:=List.le_antisymm h1 h2;cases a;cases b
 exact c6 Str.mk (wk.mp e)
theorem Bb:∀{us:ac i'}{a:ac FF},Yz us a->Vals (a.map V.str) us
 |_,_,.nil=>.nil
 |_,_,.cons _ t r=>.cons ⟨t,rfl⟩ (Bb r)
end L2
namespace HS
open Spec PyProof.Rows
theorem KU(t:Zs)(es:Array (Int×i'))(z:Int)(x:i'):(layNew t es z x).2.1.led=t.led:=by
 unfold layNew;split
 ·dsimp only
  unfold SetTable.orStandIn;split <;> rfl
 ·rfl
theorem HB{t u:Zs}{zs:Array Int}{n:Nat}{a:Array Nat}(e:t.relaid zs n=ih (u,a)):u.led=t.led/\u.plain=t.plain:=by
 unfold SetTable.relaid SetTable.laid at e;cases c:SetTable.layClean (SetTable.sizeAbove n - 1) zs with
 |none=>rw[c]at e;cases e
 |some ow =>
  rw[c]at e;have e2:=cJ e;have e3:=c6 Prod.fst e2
  dsimp only at e3
  rw[<-e3];exact⟨rfl,rfl⟩
theorem GY(t:Zs)(es:Array (Int×i'))(n:Nat):(relayAll t es n).2.1.led=t.led/\(t.plain=false->(relayAll t es n).2.1.plain=false):=by
 unfold relayAll;split
 ·rename_i u a e
  obtain⟨h1,h2⟩:=HB e
  dsimp only
  split
  ·exact⟨h1,λz=>h2.trans z⟩
  ·exact⟨rfl,λ_=>rfl⟩
 ·exact⟨rfl,λ_=>rfl⟩
def ed(P:Yq)(w:Yw)(h:Yl)(a:E8)(xs:List FF):Prop:=
 ∃o es ep t,h.get? a=ih o/\o.ExactSet/\o.data=.set es ep t/\abg (strKind P w) es.toList/\(∀k,k∈xs ↔ ∃e∈es.toList,(strKind P w).is k e.2=true) /\
  es.size<scanBound/\t.fits es.size=true/\es.size=xs.length/\t.led=(!w.params.followText "set-order")/\(es.size≠0->t.plain=false)
theorem ed.keep{xs:ac FF}(x:ed P w h a xs)(k:∀o,h.get? a=ih o->h'.get? a=ih o):ed P w h' a xs:=let ⟨o,es,ep,t,e,r⟩:=x;⟨o,es,ep,t,k o e,r⟩
theorem ed.lt{xs:ac FF}(x:ed P w h a xs):a<h.objs.size:=let ⟨_,_,_,_,e,_⟩:=x;bx e
theorem ed.typeIs{xs:ac FF}(x:ed P w s.heap a xs):s.TypeIs (.ref a) "set" :=let ⟨o,_,_,_,e,c,_⟩:=x;⟨o,e,c.1⟩
theorem Jx(e:h.get? a=ih { cls:=.type "set",dict:=none,data:=.set #[] 0 (.fresh 0 0 (!w.params.followText "set-order")) }):ed P w h a []:=
 ⟨_,#[],0,_,e,⟨rfl,rfl,rfl⟩,rfl,λz b=>(by simp at b),λk=>(by simp),by decide,by rfl,rfl,rfl,λz=>absurd rfl z⟩
def f5(xs:List FF)(k:FF):List FF:=if k∈xs then xs else xs++[k]
section
variable{xs:ac FF}
theorem BQ{es b:Array (Int×i')}{t t':Zs}(g:h.get? a=ih o)(i:o.ExactSet)(c:o.data=.set es ep t)(f:abg (strKind P w) b.toList)
  (j:∀k,k∈ys ↔ ∃e∈b.toList,(strKind P w).is k e.2=true) (l:b.size<scanBound) (m:t'.fits b.size=true) (n:b.size=ys.length) (p:t'.led=(!w.params.followText "set-order")) (q:t'.plain=false) :
  (h.update a (ZD b t')).get? a=ih { o with data:=.set b (ep+1) t' }/\ed P w (h.update a (ZD b t')) a ys:=by
 have d:(h.update a (ZD b t')).get? a=ih { o with data:=.set b (ep+1) t' }:=by
  have z:=oQ (ZD b t') g (by rw[putSet_of b t' c];rfl)
  rw[putSet_of b t' c]at z;exact z
 exact⟨d,_,b,ep+1,t',d,i,rfl,f,j,l,m,n,p,λ_=>q⟩
theorem JA{k:FF}{Q:Bool->UN->Prop}(xe:ed P w s.heap a xs)(room:xs.length+1<scanBound)(h:∀h',Yk a s.heap h'->ed P w h' a (f5 xs k) ->∀b,Q b { s with heap:=h' }) :
  UQ (U4 P w) A (setAddHashed a (.str k tk) (hashStr w k)) Q E s:=by
 obtain⟨o,es,ep,t,m,H,n,B,v,xa,K,ye,F,zb⟩:=xe;have x:(strKind P w).is k (.str k tk)=true:=by show YQ k (.str k tk)=true;simp[YQ]
 have I:(Y8 k tk).scannable=true:=rfl;have zf:es.size+1<scanBound:=by omega
 unfold setAddHashed setAddHashedIn;refine er (ae (hB m n K ?_));dsimp only;rw[byScan_of (knd:=strKind P w) I xa B,aF rfl];refine ae ?_;unfold setAddByScan;refine ae (ji (ae (wpAny_setScan_of (knd:=strKind P w) (k:=k) x m n K B ?_)));cases ya:List.findIdx? (λe=>(strKind P w).is k e.2) es.toList with
 |some j =>
  obtain⟨ze,xc,_⟩:=List.findIdx?_eq_some_iff_getElem.mp ya;have C:k∈xs:=(v k).mpr ⟨es.toList[j],eP ze,xc⟩;refine ao (ao ?_);have e0:s={ s with heap:=s.heap }:=by cases s;rfl
  rw[e0];refine h s.heap (ab9 a s.heap) ?_ _;unfold f5;rw[aF C];exact⟨o,es,ep,t,m,H,n,B,v,xa,K,ye,F,zb⟩
 |none =>
  dsimp only
  have C:k ∉ xs:=λz=>by
   obtain⟨e,he,i⟩:=(v k).mp z;have:=List.findIdx?_eq_none_iff.mp ya e he;rw[i]at this;cases this
  have za:∀(b:Bool) {G:UN}{M:Unit->UN->Prop},M () G->UQ (U4 P w) A (match b with|true=>rule "set.scan.the-table-gave-way" | false=>pure ()) M E G:=λb G M xb=>by
   cases b
   ·exact ao xb
   ·exact ji xb
  have g:=layNew_perm t es ((strKind P w).hash k) (.str k tk);have u:=layNew_fits t es ((strKind P w).hash k) (.str k tk);have y:=KU t es ((strKind P w).hash k) (.str k tk);generalize xf:layNew t es (hashStr w k) (.str k tk)=L;rw[show(strKind P w).hash k=hashStr w k from rfl,xf]at g u y;obtain⟨c,p,yf,xg⟩:=L
  dsimp only at g u y⊢
  rw[Vi]at g;have S:abg (strKind P w) c.toList:=(B.push (k:=k) x I).perm g;have yg:c.size=es.size+1:=by rw[<-gb,g.length_eq,bX,gb];rfl
  have O:∀f,f∈f5 xs k ↔ ∃e∈c.toList,(strKind P w).is f e.2=true:=λf=>by
   unfold f5;rw[aq C,bK,bN,v f]
   constructor
   ·rintro(⟨e,he,i⟩|rfl)
    ·exact⟨e,g.mem_iff.mpr (fM _ he),i⟩
    ·exact⟨_,g.mem_iff.mpr (d7 _ (bN.mpr rfl)),x⟩
   ·rintro⟨e,he,i⟩
    rcases bK.mp (g.mem_iff.mp he) with he|he
    ·exact .inl ⟨e,he,i⟩
    ·rw[bN]at he;subst he
     exact .inr ((strKind P w).inj _ f k i x)
  have yc:c.size=(f5 xs k).length:=by unfold f5;rw[aq C,bX,jo];omega
  have U:c.size<scanBound:=by omega
  refine ae (za _ ?_);have T:∀d:Zs,d.fits c.size=true->d.led=t.led->d.plain=false->UQ (U4 P w) A (do
    storeSet a c d
    if (!yf&&d.tooFull)=true then do
      let r:=relayAll d c (Y5 c.size)
      (match r.2.2 with|true=>rule "set.scan.the-table-gave-way" | false=>pure ())
      storeSet a r.1 r.2.1
      pure (ih true)
     else pure (ih true)) (λr s'=>UQ (U4 P w) A (match r with|some yb=>pure yb|none=>setAddHashedIn a (.str k tk) (hashStr w k) 99999) Q E s') E s:=by
   intro d zc V W;obtain⟨X,xd⟩:=BQ (P:=P) (w:=w) m H n S O U zc yc (V.trans F) W;have Y:=rZ s.heap a (ZD c d);refine ae (wpAny_storeSet_of m n ?_ (wI U));split
   ·have l:=relayAll_perm d c (Y5 c.size)
    have N:=relayAll_fits d c (Y5 c.size);have D:=GY d c (Y5 c.size)
    dsimp only
    generalize relayAll d c (Y5 c.size)=R at l N D⊢;obtain⟨Z,zg,xh⟩:=R
    dsimp only at l N D⊢
    have bS:Z.size=c.size:=by rw[<-gb,l.length_eq,gb]
    have yd:∀f,f∈f5 xs k ↔ ∃e∈Z.toList,(strKind P w).is f e.2=true:=λf=>(O f).trans ⟨λ⟨e,he,q⟩=>⟨e,l.mem_iff.mpr he,q⟩,λ⟨e,he,q⟩=>⟨e,l.mem_iff.mp he,q⟩⟩;obtain⟨_,zd⟩:=BQ (P:=P) (w:=w) X H rfl (S.perm l) yd (by omega) N (by omega) (D.1.trans (V.trans F)) (D.2 W)
    refine ae (za _ (ae (wpAny_storeSet_of X rfl ?_ (wI (by omega)))))
    exact ao (ao (h _ (Y.trans (rZ _ a _)) zd _))
   ·exact ao (ao (h _ Y xd _))
  by_cases J:p.plain=true
  ·rw[aF J]
   refine ae ?_;rw[hashByValue_scannable 8 I];refine ao ?_;show UQ (U4 P w) A (do
    storeSet a c { p with plain:=false }
    _) _ E s
   exact T { p with plain:=false } (SetTable.fits_plain_off u) y rfl
  ·rw[aq J]
   refine ae (ao ?_);show UQ (U4 P w) A (do
    storeSet a c p
    _) _ E s
   exact T p u y (by simpa using J)
end
def gK(val:Nat->FF)(i:Nat):List FF:=((VS i).map val).foldl f5 []
theorem px(val:Nat->FF)(i:Nat):gK val (i+1)=f5 (gK val i) (val i):=by
 unfold gK;rw[aaN,a',List.foldl_append];rfl
theorem JB(xs:ac FF)(k:FF):(f5 xs k).length<=xs.length+1:=by
 unfold f5;split
 ·omega
 ·rw[bX,jo];omega
theorem KW{xs:ac FF}(h:xs.Nodup)(k:FF):(f5 xs k).Nodup:=by
 unfold f5;split
 ·exact h
 ·rename_i c
  rw[dw];exact⟨h,by simp,λa d b f e=>c (by rw[<-(bN.mp f),<-e];exact d)⟩
theorem JC{xs:ac FF}{k y:FF}:y∈f5 xs k ↔ y∈xs\/y=k:=by
 unfold f5;split
 ·rename_i h
  exact⟨.inl,λz=>z.elim id λe=>e ▸ h⟩
 ·rw[bK,bN]
theorem BR(val:Nat->FF):∀i,(gK val i).length<=i
 |0=>aQ _
 |i+1=>by rw[px];have:=JB (gK val i) (val i);have:=BR val i;omega
theorem CH(val:Nat->FF):∀i,(gK val i).Nodup
 |0=>fc
 |i+1=>by rw[px];exact KW (CH val i) _
theorem BS(val:Nat->FF)(y:FF):∀i,y∈gK val i ↔ ∃j,j<i/\val j=y
 |0=>⟨λh=>(by cases h),λ⟨_,h,_⟩=>absurd h (oV _)⟩
 |i+1=>by
  rw[px,JC,BS val y i]
  constructor
  ·rintro(⟨j,h,e⟩|e)
   ·exact⟨j,by omega,e⟩
   ·exact⟨i,by omega,e.symm⟩
  ·rintro⟨j,h,e⟩
   by_cases c:j=i
   ·exact .inr (by rw[<-e,c])
   ·exact .inl ⟨j,by omega,e⟩
section
variable{R:ZL->UN->Prop}{wr:ac E8}{G:Array Z5->Array Z5->Prop}{n:Nat}{Pv:Nat->i'->Prop}{St:Nat->UN->Prop}
theorem JD(W:WalksS P w A.in1 I fp wr G n Pv St)(S:E8)(d:S ∉ fp)(val:Nat->FF)(y:∀i v,Pv i v ->∃t,v=.str (val i) t)(H:n+1<scanBound) :
  ∀(k i:Nat) (s:UN),n - i=k->i<=n->St i s->ed P w s.heap S (gK val i)->(∀s',Moved (S::wr) G s s'->ed P w s'.heap S (gK val n)->R (.ok (.ret .none)) s') ->
   codeAny (U4 P w) A (.builtin "set.update.loop" ⟨[.ref S,.ref I],[]⟩) R s:=by
 have f:S ∉ wr:=λz=>d (W.sub _ z);have up:∀b∈wr,b∈S::wr:=λb z=>bc _ z;intro k
 induction k with
 |zero =>
  intro i s B hi st x q;obtain rfl:i=n:=by omega
  refine ia aae ?_;rw[iM FH _];show UQ _ A.in1 (pyNext (.ref I) >>= _) _ _ s;refine ae (W.done s _ _ st λs' m=>?_);show UQ _ A.in1 (ret VQ) _ _ s';exact ao (q s' (m.mono up) (x.keep λo e=>m.heap S o f e))
 |succ k C =>
  intro i s B hi st x q;have lt:i<n:=by omega
  refine ia aae ?_;rw[iM FH _];show UQ _ A.in1 (pyNext (.ref I) >>= _) _ _ s;refine ae (W.item i s _ _ lt st λv s' D l m=>?_);obtain⟨t,rfl⟩:=y i v D;have E:ed P w s'.heap S (gK val i):=x.keep λo e=>m.heap S o f e;show UQ _ A.in1 (holding [Y8 (val i) t] (setAdd S (.str (val i) t)) >>= _) _ _ s';refine ae (er ?_);unfold setAdd;have j:(strKind P w).is (val i) (.str (val i) t)=true:=by show YQ (val i) (.str (val i) t)=true;simp[YQ]
  refine er (ae ((strKind P w).pyHash (k:=val i) j ?_));have room:(gK val i).length+1<scanBound:=by have:=BR val i;omega
  refine JA (s:={ s' with toks:=s'.toks+1 }) E room λh' g h b=>?_;rw[<-px]at h;refine ao ⟨jr FH _,C (i+1) _ (by omega) lt (W.frame _ s' _ _ l (gc _) λc a o e=>?_) h λp r u=>?_⟩
  ·rw[g.2 c (λz:c=S=>d (by rw[<-z];exact a))];exact e
  ·refine q p (Moved.trans W.gtrans ((m.mono up).then_heap (gc _) λc o a e=>?_) r) u
   rw[g.2 c (λz:c=S=>a (by rw[z];exact aY))];exact e
end
abbrev jb(w:Yw):YO:={ cls:=.type "set",dict:=none,data:=.set #[] 0 (.fresh 0 0 (!w.params.followText "set-order")) }
theorem GZ(a:i'){Q₁:i'->UN->Prop}(h:Q₁ (.ref s.aj) { s with heap:=s.heap.push (jb w) }) :
  codeAny (U4 P w) A (.call (.builtin "set.__new__") ⟨[.type "set",a],[]⟩) (wants Q₁ E) s:=by
 refine v9 ?_;show UQ _ A.in1 (do checkBuiltinCall "set.__new__" ⟨[.type "set",a],[]⟩;again (.builtin "set.__new__" ⟨[.type "set",a],[]⟩)) _ _ s;refine ae (wpAny_of_eq (F.newCall_set_1 a) (ao ⟨jr abn _,ia F.entry_set_new ?_⟩));rw[iM abn _];unfold Yo.«set.__new__» aaV;have b:=sub_set_self;obtain⟨c,g,d,tk,os⟩:=s;dsimp only
 wp_walk
 refine iL (ao ?_);dsimp only;simp only[newObj];refine ae (wpAny_alloc (ao ?_));exact ao h
structure Src(P:Yq)(w:Yw)(T:String)(l:E8)(ol:YO)(n:Nat)(Pv:Nat->i'->Prop):Prop where
 cls:ol.cls=.type T
 ns:isSubtype (.type T) (.type "set")=pure false
 nf:isSubtype (.type T) (.type "frozenset")=pure false
 nd:(Ys T==Ys "dict")=false
 iter:∀(A:Yy) (s:UN),A.handled=none->s.heap.get? l=ih ol ->∃(oI:YO) (St:Nat->Yl->Prop),
  (∀(E:i'->UN->Prop) (Q:i'->UN->Prop),Q (.ref s.aj) { s with heap:=s.heap.push oI }->UQ (U4 P w) A (pyIter (.ref l)) Q E s) /\
  Walks P w A s.aj [s.aj,l] [s.aj] n Pv St/\St 0 (s.heap.push oI)
theorem Iu{n:Nat}{Pv:Nat->i'->Prop}{val:Nat->FF}(I:A.handled=none)(C:Src P w T l ol n Pv)(p:s.heap.get? l=ih ol)(J:∀i v,Pv i v ->∃t,v=.str (val i) t)(a:n+1<scanBound)
  (h:∀(h':Yl) (tk:Nat),ed P w h' s.heap.objs.size (gK val n)->(∀b o,b<s.heap.objs.size->s.heap.get? b=ih o->h'.get? b=ih o)->Q (.ref s.heap.objs.size) { s with heap:=h',toks:=tk }) :
  UQ (U4 P w) A (call (.type "set") [.ref l]) Q E s:=by
 obtain⟨yb,xb,ya⟩:=lD.mro;have Y:=lD.made;have za:=lD.sub;refine j9 (v9 ?_);show UQ _ _ (callAny (.type "set") _) _ _ _;refine ao ⟨Fo _ (by decide +kernel),ia F.entry_type_call ?_⟩;rw[Around.under_plain (weight_type_call_type "set" [.ref l] []) rfl]
 have zb:=lD.notType;have xc:=lD.canCreate;have yc:=F.typeCall_set_1 (.ref l)
 repeat (any_goals (first|assumption|wp_step))
 refine ly (GZ (.ref l) (E:=E) (Q₁:=λk g=>k=.ref s.heap.objs.size/\g={ s with heap:=s.heap.push (jb w) }) ⟨rfl,rfl⟩) λr g d=>?_;cases r with
 |error e=>exact d
 |ok K =>
  cases K with
  |ret k =>
   obtain⟨rfl,rfl⟩:=d;have q:(s.heap.push (jb w)).get? s.heap.objs.size=ih (jb w):=bW _ rfl;have L:Zj { s with heap:=s.heap.push (jb w) } (.ref s.heap.objs.size) "set" :=⟨_,q,rfl⟩;have zc:=lD.init.lookup;have xd:=lD.init.bind (.ref s.heap.objs.size)
   repeat (any_goals (first|assumption|wp_step))
   refine ly (v' (R:=wants (λr j=>r=.none /\∃h' tk,j={ s with heap:=h',toks:=tk }/\ed P w h' s.heap.objs.size (gK val n)/\(∀b o,b<s.heap.objs.size->s.heap.get? b=ih o->h'.get? b=ih o)) E) lD.init.plain F.entry_set_init (check_set_init_1 L ?_)) λx j c=>?_
   ·have B:(s.heap.push (jb w)).get? l=ih ol:=a7 _ p
    obtain⟨y,Z,xa,X⟩:=ol;have z:y=.type T:=C.cls;subst z;have ns:=C.ns;have yd:=C.nf;have zd:=C.nd;unfold Yo.«set.__init__» noKeywords aaS;generalize D:pyIter=PI
    wp_walk
    subst D;obtain⟨oI,St,it,W,st⟩:=C.iter A.in1.in1.in1 { s with heap:=s.heap.push (jb w) } (by simp[I]) B
    refine wpAny_of_in1 (it _ _ ?_);refine ae (FJ ?_);have M:l<s.heap.objs.size:=bx p;have N:s.heap.objs.size ∉ [(s.heap.push (jb w)).objs.size,l]:=by
     rw[hj];simp only[bJ,bN,js,jt,not_or];exact⟨bM (j8 _),jj M⟩
    refine JD W.toS s.heap.objs.size N val J a (n - 0) 0 _ (by omega) (bD _) st (Jx (a7 _ q)) ?_
    intro s' m f;obtain⟨h',O,S,G,H⟩:=s';have e1:O=s.gens:=m.gens;have e2:S=s.drawn:=m.drawn;have e3:H=s.os:=m.os;subst e1;subst e2;subst e3;show UQ _ _ _ _ _ _;refine ao ?_;show UQ _ _ (ret VQ) _ _ _;refine ao ⟨rfl,h',G,rfl,f,λb o a e=>?_⟩;have b1:b≠s.heap.objs.size:=bM a;have U:b≠(s.heap.push (jb w)).objs.size:=by rw[hj];exact bM (lE a)
    exact m.heap b o (by simp only[bJ,bN,js,jt,not_or];exact⟨b1,U⟩) (a7 _ (a7 _ e))
   ·cases x with
    |error e=>exact c
    |ok u =>
     cases u with
     |ret r =>
      obtain⟨rfl,h',tk,rfl,f,V⟩:=c
      repeat (any_goals (first|assumption|wp_step))
      exact h _ _ f V
     |_=>exact c.elim
  |_=>exact d.elim
theorem src_list(a:ol.cls=.type "list")(d:∃n,ol.data=.seq items n):Src P w "list" l ol items.size (λi v=>items[i]?=ih v) where
 cls:=a
 ns:=F.sub_list_set
 nf:=F.sub_list_frozenset
 nd:=by decide
 iter:=λA s e b=>by
  have c:s.heap.IsList l items:=⟨ol,b,a,d⟩;have lt:=bx b;exact⟨_,_,λE Q q=>rO c q,aah e _ l (bM lt) items,⟨_,bW _ rfl,rfl,rfl⟩,c.push _⟩
theorem KY(a:ol.cls=.type "tuple")(d:∃n,ol.data=.seq items n):Src P w "tuple" l ol items.size (λi v=>items[i]?=ih v) where
 cls:=a
 ns:=F.sub_tuple_set
 nf:=F.sub_tuple_frozenset
 nd:=by decide
 iter:=λA s e b=>by
  have c:s.heap.IsTuple l items:=⟨ol,b,a,d⟩;have lt:=bx b;exact⟨_,_,λE Q q=>wpAny_pyIter_tuple c q,Walks.tuple e _ l (bM lt) items,⟨_,bW _ rfl,rfl,rfl⟩,c.push _⟩
theorem lN:Slot "set_iterator" "__next__" "set_iterator.__next__" :=
 Slot.of (owner:= "set_iterator") (n:= "__next__") (by rw[Fz,FC];kernel_rfl) (by decide +kernel) (by decide +kernel) (by decide +kernel) (by first|exact .inl (by decide +kernel)|exact .inr (by decide +kernel)) (by rw[FK];kernel_rfl)
theorem Gm:entryFor table "set_iterator.__next__" = ih Yo.«set_iterator.__next__» :=entryFor_of_tree (by kernel_rfl)
theorem BU:Manifest.owners.lookup (String.ofList "rotareti_tes".toList.reverse)=ih Manifest.sig_set_iterator:=by kernel_rfl
theorem Gw(a:i'):argsOk "set_iterator.__next__" ⟨[a],[]⟩:=by
 unfold argsOk;rw[signature?_of (id:= "set_iterator.__next__") (n:=['_','_','t','x','e','n','_','_']) (o:= "rotareti_tes".toList) (by kernel_rfl) BU];kernel_rfl
theorem o4:Slot "set_iterator" "__iter__" "set_iterator.__iter__" :=
 Slot.of (owner:= "set_iterator") (n:= "__iter__") (by rw[Fz,FC];kernel_rfl) (by decide +kernel) (by decide +kernel) (by decide +kernel) (by first|exact .inl (by decide +kernel)|exact .inr (by decide +kernel)) (by rw[FK];kernel_rfl)
theorem w3:entryFor table "set_iterator.__iter__" = ih Yo.«dict_keyiterator.__iter__» :=entryFor_alias (id':= "dict_keyiterator.__iter__") (by kernel_rfl) rfl (by decide +kernel) (by kernel_rfl)
theorem w7(a:i'):argsOk "set_iterator.__iter__" ⟨[a],[]⟩:=by
 unfold argsOk;rw[signature?_of (id:= "set_iterator.__iter__") (n:=['_','_','r','e','t','i','_','_']) (o:= "rotareti_tes".toList) (by kernel_rfl) BU];kernel_rfl
theorem Gx:entryFor table "set.__iter__" = ih Yo.«frozenset.__iter__» :=entryFor_alias (id':= "frozenset.__iter__") (by kernel_rfl) rfl (by decide +kernel) (by kernel_rfl)
abbrev h3(first:i')(i:Nat)(a:E8)(n ep:Nat):YO:={ cls:=.type "set_iterator",dict:=none,data:=.fields #[first,.int i 0,.ref a,.int n 0,.int ep 0],slots:= #[] }
section
variable{es:Array (Int×i')}{t:Zs}
theorem pF{first:i'}{n:Nat}{Q:ad i'->UN->Prop}(b:s.heap.get? I=ih (h3 first i a n ep))(k:s.heap.get? a=ih o)(l:o.data=.set es ep t)(m:t.fits es.size=true)(p:es.size=n)
  (body:UQ (U4 P w) A.in1 (do
   if let .int j _:=first then
    match <- setNext a j.toNat ((i:Int)).toNat ((ep:Int)).toNat with
    |some (x,next) =>
     setField (.ref I) 0 (rawInt next)
     setField (.ref I) 1 (rawInt ((i:Int)+1))
     ret x
    |none=>setField (.ref I) 2 .none;raiseNew (<- newExc (.type "StopIteration") [])
   else
    let ih f <- seqItems? first|unsupported "internal:set_iterator"
    match f[((i:Int)).toNat]? with
    |some (.int g _) =>
     let x <- setNextDrawn a g.toNat ((ep:Int)).toNat
     setField (.ref I) 1 (rawInt ((i:Int)+1))
     ret x
    |some _=>unsupported "internal:set_iterator"
    |none=>setField (.ref I) 0 (rawInt 0);setField (.ref I) 2 .none;raiseNew (<- newExc (.type "StopIteration") []))
   (λc s'=>∃r,c=.done (.ret r)/\Q (ih r) s') (λe s'=>UQ (U4 P w) A (do if <- isInstance e (.type "StopIteration") then pure none else throw e) Q E s') s):UQ (U4 P w) A (pyNext (.ref I)) Q E s:=by
 have d:s.TypeIs (.ref I) "set_iterator" :=⟨_,b,rfl⟩;unfold pyNext;refine ae (rV (rQ (name:=YD "__next__") d lN (h9 lN d Gm ?_ (Gw _))));unfold Yo.«set_iterator.__next__»;refine ae (ao ?_)
 dsimp only
 refine ae (FL b rfl ?_)
 dsimp only
 refine ae ?_;unfold setEntries;refine ae (hB k l m (ao ?_))
 dsimp only
 rw[aq (by rw[p];simp)]
 refine h8 body (λc s' h=>?_) λe s' h=>?_
 ·obtain⟨r,rfl,q⟩:=h
  exact⟨r,rfl,ao q⟩
 ·exact h
theorem BV{Q:ad i'->UN->Prop}(f:A.handled=none)(q:∀h',(∀b c,s.heap.get? b=ih c->h'.get? b=ih c)->Q none { s with heap:=h' }) :
  UQ (U4 P w) A.in1 (newExc (.type "StopIteration") [] >>= λe=>(raiseNew e:Zr ZU)) (λd s'=>∃r,d=.done (.ret r)/\Q (ih r) s') (λe s'=>UQ (U4 P w) A (do if <- isInstance e (.type "StopIteration") then pure none else throw e) Q E s') s:=by
 refine ae ?_;simp only[newExc,newTuple];refine ae (fQ ?_ (by size_fits))
 refine ae (m:=firstArgMember _ _) (wpAny_of_eq (a:=VQ) (by first|rfl|(simp only[firstArgMember];rfl)) (fQ ?_ (by size_fits)))
 simp only[raiseNew];refine ae (wpAny_handled ?_);rw[show A.in1.handled=none from f];refine ae (ao (wD ?_));refine ae (FO (T:= "StopIteration") (b:=true) (show Zj _ _ _ from⟨_,bW _ rfl,rfl⟩) isSubtype_stop ?_);exact ao (q _ λb c e=>a7 _ (a7 _ e))
theorem Gn{b n d:Nat}{x:i'}{Q:ad i'->UN->Prop}(c:s.heap.get? I=ih (h3 (.int b 0) i a n ep))(f:s.heap.get? a=ih o)(g:o.data=.set es ep t)(h:t.fits es.size=true)(j:es.size=n)
  (b8:∀(k:i'->UN->Prop) (e:ad (i'×Nat)->UN->Prop),e (ih (x,d)) s->UQ (U4 P w) A.in1 (setNext a b i ep) e k s)
  (q:∀h',h'.get? I=ih (h3 (.int d 0) (i+1) a n ep)->Yk I s.heap h'->Q (ih x) { s with heap:=h' }):UQ (U4 P w) A (pyNext (.ref I)) Q E s:=by
 refine pF c f g h j ?_;simp only[gy];refine ae (b8 _ _ ?_);refine ae (iO c (by simp) λh1 l s1=>?_)
 refine ae (iO l (by simp) λh2 m s2=>?_)
 exact ao ⟨x,rfl,q h2 (by rw[m];simp[rawInt]) (s1.trans s2)⟩
theorem Gy{d n:Nat}{Q:ad i'->UN->Prop}(h:A.handled=none)(f:s.heap.get? I=ih (h3 (.int d 0) i a n ep))(j:s.heap.get? a=ih o)(k:o.data=.set es ep t)(l:t.fits es.size=true)(m:es.size=n)
  (b8:∀(p:i'->UN->Prop) (g:ad (i'×Nat)->UN->Prop),g none s->UQ (U4 P w) A.in1 (setNext a d i ep) g p s)
  (q:∀h',(∀b c,b≠I->s.heap.get? b=ih c->h'.get? b=ih c)->Q none { s with heap:=h' }):UQ (U4 P w) A (pyNext (.ref I)) Q E s:=by
 refine pF f j k l m ?_;simp only[gy];refine ae (b8 _ _ ?_);refine ae (iO f (by simp) λh1 v s1=>?_)
 exact BV h λh2 r=>q h2 λb c u e=>r b c (by rw[s1.2 b u];exact e)
theorem Gp{pt:E8}{ps:ac Nat}{n pl:Nat}{x:i'}{Q:ad i'->UN->Prop}(b:s.heap.get? I=ih (h3 (.ref pt) i a n ep))(d:s.heap.get? a=ih o)(e:o.data=.set es ep t)(f:t.fits es.size=true)(k:es.size=n)
  (l:∃op c,s.heap.get? pt=ih op/\op.data=.seq (ps.map λ(j:Nat)=>rawInt j).toArray c) (hi:ps[i]?=ih pl) (m:es[pl]?=ih (z,x))
  (q:∀h',h'.get? I=ih (h3 (.ref pt) (i+1) a n ep)->Yk I s.heap h'->Q (ih x) { s with heap:=h' }):UQ (U4 P w) A (pyNext (.ref I)) Q E s:=by
 refine pF b d e f k ?_;obtain⟨op,c,g,h⟩:=l
 dsimp only
 simp only[gy];refine ae ?_;unfold seqItems?;refine ae (oO g ?_);rw[h];refine ao ?_
 dsimp only
 have e1:(ps.map λ(j:Nat)=>rawInt j).toArray[i]?=ih (rawInt pl):=by simp[hi]
 rw[e1];show UQ _ _ (setNextDrawn a ((pl:Int)).toNat ep >>= _) _ _ s;rw[gy];unfold setNextDrawn;refine ae (ae (hB d e f ?_))
 dsimp only
 rw[aq (by simp),m]
 refine ao ?_;refine ae (iO b (by simp) λh2 p s2=>?_)
 exact ao ⟨x,rfl,q h2 (by rw[p];simp[rawInt]) s2⟩
theorem Gz{pt:E8}{ps:ac Nat}{n:Nat}{Q:ad i'->UN->Prop}(l:A.handled=none)(f:s.heap.get? I=ih (h3 (.ref pt) i a n ep))(m:s.heap.get? a=ih o)(p:o.data=.set es ep t)(r:t.fits es.size=true)(u:es.size=n)
  (v:∃op c,s.heap.get? pt=ih op/\op.data=.seq (ps.map λ(j:Nat)=>rawInt j).toArray c) (hi:ps.length<=i)
  (q:∀h',(∀b d,b≠I->s.heap.get? b=ih d->h'.get? b=ih d)->Q none { s with heap:=h' }):UQ (U4 P w) A (pyNext (.ref I)) Q E s:=by
 refine pF f m p r u ?_;obtain⟨op,c,h,k⟩:=v
 dsimp only
 simp only[gy];refine ae ?_;unfold seqItems?;refine ae (oO h ?_);rw[k];refine ao ?_
 dsimp only
 have e1:(ps.map λ(j:Nat)=>rawInt j).toArray[i]?=none:=by simp;omega
 rw[e1];refine ae (iO f (by simp) λh1 x s1=>?_)
 refine ae (iO x (by simp) λh2 B s2=>?_)
 exact BV l λy z=>q y λb d g e=>z b d (by rw[s2.2 b g,s1.2 b g];exact e)
end
theorem Bc{α:Type}(next:Nat->Nat):∀(fuel k:Nat) (left:ac α) (out:Array α),left.length=fuel->(Zt next fuel k left out).toList.Perm (out.toList++left)
 |0,k,left,out,h=>by
  have:left=[]:=lF h;subst this;unfold Zt;simp
 |fuel+1,k,left,out,h=>by
  have a:next k % left.length<left.length:=wJ _ (by omega)
  unfold Zt;rw[bz a]
  dsimp only
  refine(Bc next fuel (k+1) _ _ (by rw[Vk,aF a];omega)).trans ?_
  rw[Vi,mX];refine Vl _ ?_;generalize next k % left.length=j at a;have b:∀(l:ac α) (j:Nat) (h:j<l.length),(l[j]::l.eraseIdx j).Perm l:=by
   intro l
   induction l with
   |nil=>intro j h;exact absurd h (oV _)
   |cons x l c =>
    intro j h;cases j with
    |zero=>exact kg _
    |succ j=>exact(Y4 _ _ _).trans ((c j (wK h)).cons x)
  exact b left j a
section
variable{xs:ac FF}
theorem CI{α:Type}:∀(m:Nat) (l:ac α) {s:UN}{Q:ac α->UN->Prop},l.length=m->(∀ps d,ps.Perm l->Q ps { s with drawn:=d })->UQ (U4 P w) A (drawOrder m l) Q E s
 |0,l,s,Q,h,q=>by
  have:l=[]:=lF h;subst this;unfold drawOrder;exact ao (q [] s.drawn (kg _))
 |m+1,[],s,Q,h,q=>by simp at h
 |m+1,x::l,s,Q,h,q=>by
  unfold drawOrder;refine ae ?_;have ch:∀{a:Nat->UN->Prop}{s:UN},(∀i d,i<(x::l).length->a i { s with drawn:=d })->UQ (U4 P w) A (choose .order (x::l).length) a E s:=λ{a s} c=>by
   intro Γ p hΓ;exact⟨by simp,c _ _ (wJ _ (by simp))⟩
  refine ch λi d hi=>?_;rw[bz hi]
  dsimp only
  refine ae (CI m _ (by rw[Vk,aF hi];omega) λps g e=>ao ?_)
  refine q _ _ ((e.cons _).trans ?_);have b:∀(l:ac α) (j:Nat) (h:j<l.length),(l[j]::l.eraseIdx j).Perm l:=by
   intro l
   induction l with
   |nil=>intro j h;exact absurd h (oV _)
   |cons x l f =>
    intro j h;cases j with
    |zero=>exact kg _
    |succ j=>exact(Y4 _ _ _).trans ((f j (wK h)).cons x)
  exact b _ i hi
theorem HC{es:ac (Int×i')}(h:abg (strKind P w) es):∃ks:ac FF,Yz (es.map (·.2)) ks /\∀k,k∈ks ↔ ∃e∈es,(strKind P w).is k e.2=true:=by
 induction es with
 |nil=>exact⟨[],.nil,λk=>(by simp)⟩
 |cons e es c =>
  obtain⟨ks,h1,h2⟩:=c h.tail;obtain⟨⟨k,a,_⟩,_⟩:=h.head;obtain⟨t,d⟩:=EV a;refine⟨k::ks,?_,λy=>?_⟩
  ·rw[b4,d];exact .cons k t h1
  ·rw[bJ,h2 y]
   constructor
   ·rintro(rfl|⟨b,he,q⟩)
    ·exact⟨e,aY,a⟩
    ·exact⟨b,bc _ he,q⟩
   ·rintro⟨b,he,q⟩
    rcases bJ.mp he with rfl|he
    ·exact .inl ((strKind P w).inj _ _ _ q a)
    ·exact .inr ⟨b,he,q⟩
theorem Bd{vs:ac i'}(h:Yz us ks)(p:vs.Perm us):∃ys,Yz vs ys/\ys.Perm ks:=by
 induction p generalizing ks with
 |nil=>exact⟨ks,h,kg _⟩
 |cons x _ e =>
  cases h with
  |cons y t r=>obtain⟨ys,h1,h2⟩:=e r;exact⟨y::ys,.cons y t h1,h2.cons y⟩
 |swap x y l =>
  cases h with
  |cons a f g =>
   cases g with
   |cons b i j=>exact⟨b::a::_,.cons b i (.cons a f j),Y4 _ _ _⟩
 |trans _ _ c d =>
  obtain⟨ys,h1,h2⟩:=d h;obtain⟨zs,k,m⟩:=c h1;exact⟨zs,k,m.trans h2⟩
theorem lY{vs:ac i'}(h:Yz vs ys):vs.length=ys.length:=by
 induction h with
 |nil=>rfl
 |cons _ _ _ a=>rw[cV,cV,a]
theorem GA{a b:ac FF}(c:a.Nodup)(d:b.length=a.length)(h:∀x∈a,x∈b):b.Perm a:=by
 induction a generalizing b with
 |nil=>have:b=[]:=lF d;subst this;exact kg _
 |cons x a j =>
  rw[d8]at c;have f:=h x aY;have k:=List.perm_cons_erase f;have i:(b.erase x).length=a.length:=by rw[Fq f,d];rfl
  have h2:∀y∈a,y∈b.erase x:=λy g=>(Ft (show y≠x from λe=>c.1 (by rw[<-e];exact g))).mpr (h y (bc _ g))
  exact k.trans ((j c.2 i h2).cons x)
structure u9(P:Yq)(w:Yw)(a:E8)(vs:List i')(I:E8)(fp:List E8)(h:Yl):Prop where
 go:∃St:Nat->Yl->Prop,(∀A:Yy,A.handled=none->Walks P w A I fp [I] vs.length (λi v=>vs[i]?=ih v) St)/\St 0 h
theorem BW{es:Array (Int×i')}{t:Zs}(j:Nat->Nat){vs:ac i'}(C:a≠I)(n:o.data=.set es ep t)(p:t.fits es.size=true)(r:es.size=vs.length)(h0:j 0=0)(D:h.get? a=ih o)(hi:h.get? I=ih (h3 (.int 0 0) 0 a vs.length ep))
  (B:∀(A:Yy) (s:UN) (i:Nat) (v:i') (d:i'->UN->Prop) (c:ad (i'×Nat)->UN->Prop),s.heap.get? a=ih o->vs[i]?=ih v->c (ih (v,j (i+1))) s->UQ (U4 P w) A (setNext a (j i) i ep) c d s)
  (done:∀(A:Yy) (s:UN) (d:i'->UN->Prop) (c:ad (i'×Nat)->UN->Prop),s.heap.get? a=ih o->c none s->UQ (U4 P w) A (setNext a (j vs.length) vs.length ep) c d s):u9 P w a vs I [I,a] h:=by
 refine⟨λi h=>h.get? a=ih o/\h.get? I=ih (h3 (.int (j i) 0) i a vs.length ep),λA F=>⟨λb f=>(by simp at f;simp[f]),λi h h' st k=>⟨k a (by simp) _ st.1,k I (by simp) _ st.2⟩,λi s Q E hi st q=>?_,λs Q E st q=>?_,λi s Q E st q=>?_⟩,D,by rw[h0];exact hi⟩
 ·have u:vs[i]?=ih vs[i]:=bz hi
  refine Gn st.2 st.1 n p r (λd c l=>B _ _ i _ d c st.1 u l) λh' g x=>?_;exact q _ h' s.toks u ⟨by rw[x.2 a C];exact st.1,g⟩ λb y f e=>by rw[x.2 b (λz=>f (by simp[z]))];exact e
 ·exact Gy F st.2 st.1 n p r (λd c l=>done _ _ d c st.1 l) λh' k=>q h' s.toks λb y f e=>k b y (λz=>f (by simp[z])) e
 ·have m:s.TypeIs (.ref I) "set_iterator" :=⟨_,st.2,rfl⟩
  refine wL m o4 (h9 o4 m w3 ?_ (w7 _));show UQ _ _ (ret (.ref I)) _ _ s;exact ao ⟨_,rfl,"set_iterator",_,m,lN.lookup,q⟩
theorem JE{es:Array (Int×i')}{t:Zs}{pt:E8}{ps:ac Nat}{vs:ac i'}(B:a≠I)(C:pt≠I)(n:o.data=.set es ep t)(p:t.fits es.size=true)(r:es.size=vs.length)(H:ps.length=vs.length)(D:h.get? a=ih o)(hi:h.get? I=ih (h3 (.ref pt) 0 a vs.length ep))
  {op:YO}{c:Nat} (F:h.get? pt=ih op) (m:op.data=.seq (ps.map λ(j:Nat)=>rawInt j).toArray c) (y:∀(i:Nat) (v:i'),vs[i]?=ih v ->∃pl z,ps[i]?=ih pl/\es[pl]?=ih (z,v)):u9 P w a vs I [I,a,pt] h:=by
 refine⟨λi h=>h.get? a=ih o/\h.get? pt=ih op/\h.get? I=ih (h3 (.ref pt) i a vs.length ep),λA G=>⟨λb d=>(by simp at d;simp[d]),λi h h' st k=>⟨k a (by simp) _ st.1,k pt (by simp) _ st.2.1,k I (by simp) _ st.2.2⟩,λi s Q E hi st q=>?_,λs Q E st q=>?_,λi s Q E st q=>?_⟩,D,F,hi⟩
 ·have u:vs[i]?=ih vs[i]:=bz hi
  obtain⟨pl,z,h1,h2⟩:=y i _ u;refine Gp st.2.2 st.1 n p r ⟨op,c,st.2.1,m⟩ h1 h2 λh' g f=>?_;exact q _ h' s.toks u ⟨by rw[f.2 a B];exact st.1,by rw[f.2 pt C];exact st.2.1,g⟩ λb x d e=>by rw[f.2 b (λz=>d (by simp[z]))];exact e
 ·exact Gz G st.2.2 st.1 n p r ⟨op,c,st.2.1,m⟩ (by omega) λh' k=>q h' s.toks λb x d e=>k b x (λz=>d (by simp[z])) e
 ·have l:s.TypeIs (.ref I) "set_iterator" :=⟨_,st.2.2,rfl⟩
  refine wL l o4 (h9 o4 l w3 ?_ (w7 _));show UQ _ _ (ret (.ref I)) _ _ s;exact ao ⟨_,rfl,"set_iterator",_,l,lN.lookup,q⟩
end
theorem Be(j k:Nat):Y6 #[j] k=if j<k then 1 else 0:=by
 unfold Y6;show Y1 #[j] k 1 0 1=_;unfold Y1
 by_cases h:j<k
 ·simp[h,Y1]
 ·simp[h,Y1]
theorem HD(k:Nat):Y6 #[] k=0:=by unfold Y6;rfl
section
variable{xs:ac FF}
theorem JF(X:ed P w s.heap a xs)(xc:xs.Nodup)
  (q:∀(h':Yl) (d':Drawn) (I:E8) (fp:ac E8) (vs:ac i') (ys:ac FF),u9 P w a vs I fp h'->Yz vs ys->ys.Perm xs->(∀b∈fp,b=a\/s.heap.objs.size<=b)->I∈fp->(∀b∈fp,b<h'.objs.size)->s.heap.objs.size<=I->(∀b G,s.heap.get? b=ih G->h'.get? b=ih G)->Q (.ref I) { s with heap:=h',drawn:=d' }) :
  UQ (U4 P w) A (pyIter (.ref a)) Q E s:=by
 have Y:=X.typeIs;obtain⟨o,es,ep,t,m,ye,f,xb,ya,yc,c,zf,za,yb⟩:=X;have D:=bx m;obtain⟨ks,K,zc⟩:=HC xb;have xd:ks.length=xs.length:=by have:=lY K;rw[aE,gb]at this;omega
 have kp:ks.Perm xs:=GA xc xd λx yd=>(zc x).mpr ((ya x).mp yd);refine wL Y abl (h9 abl Y Gx ?_ (F.args_set_iter_1 _));unfold Yo.«frozenset.__iter__» aaT aaU setEntries setDrawn setsByText;refine ae (ae (ao (ao ?_)));refine ae (ae (ae (hB m f c (ao (ao ?_)))))
 dsimp only
 refine ae (ae (hB m f c ?_));dsimp only;refine ae (ae (iL (ao (ao ?_))));show UQ _ _ (if (!w.params.followText "set-order" && (!t.plain&&decide (es.size>1)))=true then _ else _) _ _ s
 by_cases big:(!w.params.followText "set-order" && (!t.plain&&decide (es.size>1)))=true
 ·
  rw[aF big];refine ae (CI es.size (VS es.size) (by simp) λps d M=>?_)
  have h:ps.length=es.size:=by rw[M.length_eq];simp
  refine ae (fQ ?_ (by show(ps.map _).toArray.size<=UP;rw[b2,aE,h];exact wI yc))
  refine ae ?_;unfold setEpoch;refine ae (hB (a7 _ m) f c (ao ?_))
  dsimp only
  refine ae (fQ (ao ⟨_,rfl,"set_iterator",_,⟨_,bW _ rfl,rfl⟩,lN.lookup,?_⟩));have zb:∀p∈ps,p<es.size:=λp C=>jh.mp (M.mem_iff.mp C)
  let vs:ac i':=ps.map λp=>(es.toList.map (·.2)).getD p .none
  have pv:vs.Perm (es.toList.map (·.2)):=by
   have e1:(VS es.size).map (λp=>(es.toList.map (·.2)).getD p .none)=es.toList.map (·.2):=by
    apply FE
    ·simp
    ·intro n h1 h2
     have:n<es.size:=by simpa using h1
     simp[this]
   rw[<-e1];exact M.map _
  obtain⟨ys,N,O⟩:=Bd K pv;have vl:vs.length=es.size:=by show(ps.map _).length=_;rw[aE,h]
  have eM:(s.heap.push { cls:=.type "tuple",data:=.seq (ps.map λ(i:Nat)=>rawInt i).toArray }).objs.size=s.heap.objs.size+1:=hj ..;refine q _ d _ [_,a,s.heap.objs.size] vs ys (JE (o:=o) (op:={ cls:=.type "tuple",data:=.seq (ps.map λ(i:Nat)=>rawInt i).toArray }) (ps:=ps) (by rw[eM];exact bM (lE D)) (by rw[eM];exact bM (j8 _)) f c vl.symm (by rw[vl,h]) (a7 _ (a7 _ m)) ?_ (a7 _ (bW _ rfl)) rfl ?_) N (O.trans kp) ?_ aY ?_ (by rw[eM];omega) λb G e=>a7 _ (a7 _ e)
  ·rw[bW _ rfl,vl];rfl
  ·intro i v y
   have S:(ps.map λp=>(es.toList.map (·.2)).getD p .none)[i]?=ih v:=y;rw[cL]at S;obtain⟨p,C,H⟩:=gz.mp S;have T:=zb p (eO C);refine⟨p,es[p].1,C,?_⟩;rw[mZ T]
   congr 1
   rw[<-H];simp[T]
  ·intro b g
   simp only[bJ,js,jt]at g;rcases g with rfl|rfl|rfl
   ·exact .inr (by rw[eM];omega)
   ·exact .inl rfl
   ·exact .inr (aQ _)
  ·intro b g
   simp only[bJ,js,jt]at g;rw[hj,eM];rcases g with z|z|z
   ·rw[z,eM];exact j8 _
   ·rw[z];exact lE (lE D)
   ·rw[z];exact lE (j8 _)
 ·rw[aq big]
  refine ae (ao ?_);refine ae ?_;unfold setEpoch;refine ae (hB m f c (ao ?_))
  dsimp only
  refine ae (fQ (ao ⟨_,rfl,"set_iterator",_,⟨_,bW _ rfl,rfl⟩,lN.lookup,?_⟩));have U:∀b ∈ [s.heap.objs.size,a],b=a\/s.heap.objs.size<=b:=λb g=>by
   simp only[bJ,js,jt]at g;rcases g with rfl|rfl
   ·exact .inr (aQ _)
   ·exact .inl rfl
  have V:∀(Z:YO),∀b ∈ [s.heap.objs.size,a],b<(s.heap.push Z).objs.size:=λZ b g=>by
   simp only[bJ,js,jt]at g;rw[hj];rcases g with z|z
   ·rw[z];exact j8 _
   ·rw[z];exact lE D
  cases r:w.params.followText "set-order" with
  |true =>
   have xa:∀next:Nat->Nat,((pickOrder next es).toList.map (·.2)).Perm (es.toList.map (·.2)):=λnext=>by
    unfold pickOrder;have:=Bc next es.size 0 es.toList #[] (by simp)
    exact(by simpa using this:(Zt next es.size 0 es.toList #[]).toList.Perm es.toList).map _
   obtain⟨ys,N,O⟩:=Bd K (xa (w.params.setOrder a ep));have vl:=(xa (w.params.setOrder a ep)).length_eq;rw[aE,gb,aE,gb]at vl;refine q _ s.drawn _ [_,a] ((pickOrder (w.params.setOrder a ep) es).toList.map (·.2)) ys (BW (o:=o) (λ_=>0) (bM D) f c (by rw[aE,gb,vl]) rfl (a7 _ m) ?_ ?_ ?_) N (O.trans kp) U aY (V _) (aQ _) λb G e=>a7 _ e
   ·rw[bW _ rfl,aE,gb,vl];rfl
   ·intro A s i v R B l y u
    unfold setNext setsByText;refine ae (hB l f c ?_);dsimp only;refine ae (ae (iL (ao ?_)));show UQ _ _ (if w.params.followText "set-order" = true then _ else _) _ _ _;rw[aF r,aq (by simp)]
    unfold setWalk setsByText;refine ae (ae (hB l f c ?_));dsimp only;refine ae (ae (iL (ao ?_)));show UQ _ _ (if w.params.followText "set-order" = true then _ else _) _ _ _;rw[aF r];refine ae (iL (ao (ao ?_)));show B (((pickOrder (w.params.setOrder a ep) es)[i]?).map λe=>(e.2,0)) s;rw[cL,oR]at y;obtain⟨e,L,H⟩:=gz.mp y;rw[L];show B (ih (e.2,0)) s;rw[H];exact u
   ·intro A s R B l u
    unfold setNext setsByText;refine ae (hB l f c ?_);dsimp only;refine ae (ae (iL (ao ?_)));show UQ _ _ (if w.params.followText "set-order" = true then _ else _) _ _ _;rw[aF r,aq (by simp)]
    unfold setWalk setsByText;refine ae (ae (hB l f c ?_));dsimp only;refine ae (ae (iL (ao ?_)));show UQ _ _ (if w.params.followText "set-order" = true then _ else _) _ _ _;rw[aF r];refine ae (iL (ao (ao ?_)));show B (((pickOrder (w.params.setOrder a ep) es)[((pickOrder (w.params.setOrder a ep) es).toList.map (·.2)).length]?).map λe=>(e.2,0)) s;rw[r0 (by simp)]
    exact u
  |false =>
   have a5:es.size<=1:=by
    rw[r]at big
    by_cases z:es.size<=1
    ·exact z
    ·have C:=yb (by omega)
     rw[C]at big;exact absurd (by simp;omega) big
   have W:t.led=true:=by rw[za,r];rfl
   have yf:t.place.size=es.size:=by
    have:=c;simp only[SetTable.fits,gP,dJ,decide_eq_true_eq]at this;exact this.1
   refine q _ s.drawn _ [_,a] (es.toList.map (·.2)) ks (BW (o:=o) (λi=>if i=0 then 0 else t.place.getD 0 0+1) (bM D) f c (by rw[aE,gb]) rfl (a7 _ m) ?_ ?_ ?_) K kp U aY (V _) (aQ _) λb G e=>a7 _ e
   ·rw[bW _ rfl,aE,gb];rfl
   ·intro A s i v R B l y u
    rw[cL,oR]at y;obtain⟨e,L,H⟩:=gz.mp y;have hi:i<es.size:=(wm.mp L).1;have zd:i=0:=by omega
    subst zd;obtain⟨h,J⟩:∃j,t.place = #[j]:=by
     have:t.place.size=1:=by omega
     exact⟨t.place[0],by
      apply abP
      ·simp[this]
      ·intro k h1 h2;have:k=0:=by omega
       subst this;simp⟩
    unfold setNext setsByText;refine ae (hB l f c ?_);dsimp only;refine ae (ae (iL (ao ?_)));show UQ _ _ (if w.params.followText "set-order" = true then _ else _) _ _ _;rw[aq (by rw[r];exact cc)]
    show UQ _ _ (if (!t.plain&&decide (es.size>1))=true then _ else _) _ _ _;rw[aq (by simp;omega)]
    show UQ _ _ ((if (!t.led && !es.isEmpty)=true then unsupported "set:maker-not-led" else pure ()) >>= _) _ _ _;rw[W,aq (by simp)]
    refine ae (ao ?_);rw[J,aF rfl,Be,aq (by omega),L]
    refine ao ?_;show B (ih (e.2,h+1)) s;rw[H];have:(if 0+1=0 then 0 else t.place.getD 0 0+1)=h+1:=by rw[J];rfl
    rw[this]at u;exact u
   ·intro A s R B l u
    unfold setNext setsByText;refine ae (hB l f c ?_);dsimp only;refine ae (ae (iL (ao ?_)));show UQ _ _ (if w.params.followText "set-order" = true then _ else _) _ _ _;rw[aq (by rw[r];exact cc)]
    show UQ _ _ (if (!t.plain&&decide (es.size>1))=true then _ else _) _ _ _;rw[aq (by simp;omega)]
    show UQ _ _ ((if (!t.led && !es.isEmpty)=true then unsupported "set:maker-not-led" else pure ()) >>= _) _ _ _;rw[W,aq (by simp)]
    refine ae (ao ?_);have out:es[Y6 t.place (if (es.toList.map (·.2)).length=0 then 0 else t.place.getD 0 0+1)]?=none:=by
     rw[aE,gb]
     by_cases z:es.size=0
     ·have:t.place = #[]:=Array.eq_empty_of_size_eq_zero (by omega)
      rw[this,HD];exact r0 (by omega)
     ·have e1:es.size=1:=by omega
      obtain⟨h,J⟩:∃j,t.place = #[j]:=by
       have:t.place.size=1:=by omega
       exact⟨t.place[0],by
        apply abP
        ·simp[this]
        ·intro k h1 h2;have:k=0:=by omega
         subst this;simp⟩
      rw[aq z,J,Be];have : #[h].getD 0 0=h:=rfl;rw[this,aF (by omega)]
      exact r0 (by omega)
    rw[out];exact ao u
end
end HS
namespace HS
open Spec PyProof.Rows W
section
variable{xs:ac FF}
theorem JG{Q:Bool->UN->Prop}(c:s.TypeIs (.ref a) "set")(h:Q false s):UQ (U4 P w) A (Zy (.ref a)) Q E s:=by
 unfold Zy;refine ae (wpAny_specialOf c PySem.F.slot_set_len.lookup ?_);generalize d:("set.__len__" : String)=e
 wp_delta
 rw[show splitId e=ih ("set","__len__") from by subst d;decide +kernel];subst d
 refine ae (FO (T:= "set") (b:=true) c (by rw[FK];kernel_rfl) ?_)
 refine FQ (λz=>absurd z (by decide)) λ_=>FQ (λ_=>?_) λz=>absurd (by decide +kernel) z
 exact ae (jm c (ao h))
theorem HE{R:ZL->UN->Prop}(V:A.handled=none)(p:ed P w s.heap a xs)(X:xs.Nodup)(S:E8)(v:S≠a)(i:i')(r:Nat)(D:s.heap.get? S=ih { cls:=.type "list",data:=.seq #[] r })
  (Y:∀h' d' tk (vs:ac i') (ys:ac FF) g,(∀b o,b≠S->s.heap.get? b=ih o->h'.get? b=ih o)->h'.get? S=ih { cls:=.type "list",dict:=none,data:=.seq vs.toArray g,slots:= #[] }->Yz vs ys->ys.Perm xs->R (.ok (.ret i)) { s with heap:=h',drawn:=d',toks:=tk }) :
  UQ (U4 P w) A.in1 (Yp (.ref S) (.ref a) i)
   (λN s'=>match N with|.done f=>R (.ok f) s'|.again g=>g.quiet=true/\codeAny (U4 P w) A g R s') (λe s'=>R (.error e) s') s:=by
 have E:=p.typeIs;have O:xs.length<scanBound:=by obtain⟨o,es,ep,t,yd,zc,zd,xd,qI,d,xe,ye,_⟩:=p;omega
 unfold Yp;refine ae (jm (T:= "set") E ?_);have h1:ZG (.ref S) (.ref a)=false:=by simp[ZG,v]
 have h2:(Ys "set" == Ys "list")=false:=by decide
 have Z:(Ys "set" == Ys "tuple")=false:=by decide
 simp only[h1,h2,Z,Fg,v8,kb];refine ae (JF p X λh' d' I fp vs ys W G H F ze xf ya k=>?_);obtain⟨St,za,st⟩:=W.go;have J:=za A.in1 (by simpa using V)
 have vl:vs.length=xs.length:=by rw[lY G,H.length_eq]
 have x:S ∉ fp:=λz=>by
  rcases F S z with e|e
  ·exact v e
  ·exact absurd (bx D) (Fu.mpr e)
 have xb:Zj { s with heap:=h',drawn:=d' } (.ref a) "set" :=by
  obtain⟨o,e,c⟩:=E;exact⟨o,k _ _ e,c⟩
 refine ae (er (JG xb ?_));have n:=k _ _ D;have y:∀(h:Yl) (l:Nat),St 0 h->(∀b o,b≠S->s.heap.get? b=ih o->h.get? b=ih o)->h.get? S=ih { cls:=.type "list",data:=.seq #[] l } ->
   codeAny (U4 P w) A (.builtin "list.extend.loop" ⟨[.ref S,.ref I,i],[]⟩) R { s with heap:=h,drawn:=d' }:=by
  intro h l Q yb L;refine codeAny_extend_loopS J.toS (by rw[vl];exact wI O) S x i vs.length 0 _ #[] l rfl (bD _) Q L (ItemsOf.nil _) λs' u g K U m=>?_
  rw[Moved.eq_with K];have zb:u.toList=vs:=by
   apply List.ext_getElem?
   intro j;rw[oR]
   by_cases xc:j<vs.length
   ·have B:j<u.size:=by rw[m.1];exact xc
    rw[mZ B];exact(m.2 j _ (mZ B)).symm
   ·rw[r0 (by rw[m.1];omega),rY (by omega)]
  refine Y s'.heap d' s'.toks vs ys g (λb o d e=>K.heap b o (λqI=>?_) (yb b o d e)) (by rw[U,<-zb]) G H
  rcases bJ.mp qI with yc|qI
  ·exact d yc
  ·exact absurd (bx e) (by rw[bN.mp qI];exact Fu.mpr ya)
 refine FQ (λ_=>?_) (λ_=>ao ⟨jr Vm _,y _ r st (λb o _ e=>k b o e) n⟩);refine ae (ji (ae ?_));show UQ _ _ (updateSeq S (·.push .none) >>= λ_=>updateSeq S (·.pop)) _ _ _;refine ae (FR n rfl ?_);have q:=oQ (V0 (·.push VQ)) n rfl;refine FR (hz:=by seq_fits) q rfl ?_
 have M:=oQ (V0 (·.pop)) q rfl;have C:∀b o,b≠S->h'.get? b=ih o->((h'.update S (V0 (·.push VQ))).update S (V0 (·.pop))).get? b=ih o:=λb o d e=>(kc _ _ (aT d)).trans ((kc _ _ (aT d)).trans e);exact ao ⟨jr Vm _,y _ _ (J.frame 0 _ _ st λb d o e=>C b o (λz=>x (z ▸ d)) e) (λb o d e=>C b o d (k b o e)) M⟩
theorem G0{Q:ac i'->UN->Prop}(d:A.handled=none)(c:ed P w s.heap a xs)(f:xs.Nodup)
  (g:∀h' d' tk (vs:ac i') (ys:ac FF),(∀b o,s.heap.get? b=ih o->h'.get? b=ih o)->Yz vs ys->ys.Perm xs->Q vs { s with heap:=h',drawn:=d',toks:=tk }):UQ (U4 P w) A (collect (.ref a)) Q E s:=by
 unfold collect;refine ae (FJ (ia Vn ?_));rw[iM Vo _];show UQ _ A.in1 (newList [] >>= λl=>again (.builtin "list.__iadd__" ⟨[l,.ref a],[]⟩)) _ _ s;refine ae (fQ (ao ⟨jr wM _,ia Vp ?_⟩));rw[iM wM _];show UQ _ A.in1 (Yp (.ref s.aj) (.ref a) (.ref s.aj)) _ _ _;have h:s.aj≠a:=jj c.lt;refine HE (R:=λr s'=>match r with|.ok (.ret v)=>UQ (U4 P w) A (match v with|.ref a=>(do match (<- load a).data with|.seq xs _=>pure xs.toList|_=>unsupported "internal:collect")|_=>unsupported "internal:collect") Q E s'|.ok _=>False|.error e=>E e s') (s:={ s with heap:=s.heap.push { cls:=.type "list",data:=.seq ([]:ac i').toArray } }) d (c.keep λo e=>a7 _ e) f _ h _ 0 (bW _ rfl) λh' d' tk vs ys n k i j m=>?_;show UQ _ A (load s.aj >>= _) _ _ _;refine ae (oO i (ao ?_));exact g h' d' tk vs ys (λb o e=>k b o (bM (bx e)) (a7 _ e)) j m
theorem HF(l:A.handled=none)(p:ed P w s.heap a xs)(q:xs.Nodup)(G:xs.length<=63)
  (r:∀D c h' d' tk (vs:ac i') (ys:ac FF),(∀b o,s.heap.get? b=ih o->h'.get? b=ih o)->(∀b o,s.heap.get? b=ih o->b≠D)->h'.get? D=ih (listOf vs.toArray c)->Yz vs ys->ys.Perm xs->sortedS ys=true->Q (.ref D) { s with heap:=h',drawn:=d',toks:=tk }) :
  UQ (U4 P w) A (call (.builtin "sorted") [.ref a]) Q E s:=by
 refine Vq kind_sorted plain_sorted entry_sorted (args_sorted1 _) ?_;unfold Yo.«sorted»;refine ae (m:=checkCount "sorted" 1 1 _) (ao (ae (G0 (by simpa using l) p q λh1 t u vs ys h d i=>?_)))
 have vl:vs.length=xs.length:=by rw[lY d,i.length_eq]
 refine ae (wH ?_ (by rw[aW];omega))
 have f:(h1.push (seqObj "list" vs.toArray 0)).get? h1.objs.size=ih (seqObj "list" vs.toArray 0):=bW _ rfl;refine ae (er (h9 slot_list_sort ⟨_,f,rfl⟩ entry_list_sort (list_sort_treeK strKind_oneLt f d.keysOf (λC F rest e=>keyKind_strs (by rw[<-e];exact d)) (by omega) λj v x=>⟨_,rfl,?_⟩) (args_list_sort _)))
 obtain⟨k,b1,y,z⟩:=sorted_out_str d v x;obtain⟨c,B⟩:=sortedHeap_at (n:=0) (vs:=vs) (out:=(arrOf j).map (·.2)) f;refine ao ⟨_,rfl,r _ c _ t u _ k (λb o e=>?_) (λb o e=>bM (bx (h b o e))) (by rw[B]) b1 (y.trans i) z⟩
 have e1:=h b o e;have g:=bx e1;rw[sortedHeap_old (bM g) (by rw[size_push'];exact lE g),Heap.get?_push_ne _ _ _ (bM g)]
 exact e1
end
end HS
namespace L2
open Spec PyProof.Rows W HS
def jc(P:Yq)(w:Yw)(a:E8)(xs:List FF):HO:=.ext λh=>xs.Nodup/\ed P w h a xs
theorem KZ{xs:ac FF}(b:xs.Nodup)(x:ed P w h a xs):bF P w H h a (jc P w a xs):=
 ⟨⟨b,x⟩,(let ⟨o,_,_,_,e,_⟩:=x;⟨o,e⟩),λ_ _ q k=>⟨q.1,q.2.keep k⟩⟩
theorem Inv.draw{σ:ac (Option V)}(I:Inv X J σ H s)(d:Drawn):Inv X J σ H { s with drawn:=d }:=⟨I.ok,I.os,I.bare,I.base,I.loc,I.cell,I.free,I.eT,I.pin,I.aI,I.len⟩
theorem tN:∀{vs:ac i'}{ys:ac FF},Yz vs ys ->∀(i:Nat) (v:i'),vs[i]?=ih v ->∃t,v=.str (ys.getD i "") t
 |_,_,.nil,i,v,h=>by simp at h
 |_,_,.cons y t r,0,v,h=>by simp at h;exact⟨t,by rw[<-h];rfl⟩
 |_,_,.cons y t r,i+1,v,h=>by
  obtain⟨t',e⟩:=tN r i v (by simpa using h)
  exact⟨t',by rw[e];rfl⟩
theorem BX(D:X.calm=true):cX X (.type "set") (λvs H Q=>∃(p:E8) (c:ac FF),vs=[.ref p]/\(ak X.K H p (c.map V.str)\/aA X.K H p (c.map V.str))/\c.length<=1000 /\∀a ds,H a=none->ds.Nodup->(∀y,y∈ds ↔ y∈c)->Q (.ref a) (upd H a (jc X.prog X.w a ds))):=by
 rintro J s σ H vs us Q I r ⟨p,c,rfl,hq,O,q⟩;obtain⟨u,rfl,E⟩:=vals1 r;cases E
 have A:∀(its:ac i') {T:String}{ol:YO},Vals (c.map V.str) its->Src X.prog X.w T p ol its.toArray.size (λi v=>its.toArray[i]?=ih v)->s.heap.get? p=ih ol->wA X (call (.type "set") [.ref p]) (EP X J σ Q) X.xe s:=λits {T ol} F C G=>by
  have st:=o8 F;have z:its.length=c.length:=lY st;refine Iu (val:=λi=>c.getD i "") (I.ok.hd D) C G (λi v L=>tN st i v (by simpa using L)) (by rw[b2,z];unfold scanBound;omega) λh' tk x k=>?_
  have kp:∀b o,s.heap.get? b=ih o->h'.get? b=ih o:=λb o e=>k b o (bx e) e;have B:=CH (λi=>c.getD i "") its.toArray.size;refine⟨.ref s.heap.objs.size,_,I.laid (t':=tk) kp (aQ _) (KZ B x),rfl,q _ _ (I.aI.fresh (aQ _)) B λy=>?_⟩;rw[BS,b2,z]
  constructor
  ·rintro⟨j,d,rfl⟩
   rw[show c.getD j "" = c[j] by simp[d]]
   exact eP d
  ·intro M
   obtain⟨j,d,e⟩:=wN.mp M;exact⟨j,d,by simp[d,e]⟩
 rcases hq with hq|hq
 ·obtain⟨its,g,l,N⟩:=I.list hq
  obtain⟨o,m,f,n,t⟩:=l.isList;exact A its g (src_list f ⟨n,t⟩) m
 ·obtain⟨its,g,l,N⟩:=I.tuple hq
  obtain⟨o,m,f,n,t⟩:=l;exact A its g (KY f ⟨n,t⟩) m
theorem G3:cX X (.builtin "len") (λvs H Q=>∃(a:E8) (ds:ac FF),vs=[.ref a]/\H a=ih (jc X.prog X.w a ds)/\Q (.int ds.length) H):=by
 rintro J s σ H vs us Q I r ⟨a,ds,rfl,c,q⟩;obtain⟨u,rfl,d⟩:=vals1 r;cases d
 obtain⟨⟨m,o,es,ep,t,e,b,f,l,k,g,i,j,_⟩,_⟩:=(show bF X.prog X.w H s.heap a (jc X.prog X.w a ds) from I.aI a _ c);refine call_len_set e b f i (by unfold scanBound at g;omega) ?_
 rw[<-j]at q;exact⟨.int es.size,H,I.tok _,⟨_,rfl⟩,q⟩
theorem Gh(j:X.calm=true):cX X (.builtin "sorted") (λvs H Q=>∃(a:E8) (ds:ac FF),vs=[.ref a]/\H a=ih (jc X.prog X.w a ds)/\ds.length<=63 /\∀D d,H D=none->d.Perm ds->sortedS d=true->Q (.ref D) (upd H D (.lst (d.map V.str)))):=by
 rintro J s σ H vs us Q I r ⟨a,ds,rfl,l,g,q⟩;obtain⟨u,rfl,n⟩:=vals1 r;cases n
 obtain⟨⟨t,x⟩,_⟩:=(show bF X.prog X.w H s.heap a (jc X.prog X.w a ds) from I.aI a _ l);obtain⟨m,f,_⟩:=id I.loc;refine HF (I.ok.hd j) x t g λD c h' v tk out ys k y new st p i=>?_;obtain⟨z,A⟩:=Inv.sorted (t':=tk) (ys:=ys.map V.str) I f (f.at' λo e=>k _ _ e) (λb o _ e=>k b o e) y new (Bb st) (by rw[aE,p.length_eq,aW];omega)
 exact⟨.ref D,_,A.draw v,rfl,q _ ys z p i⟩
end L2
namespace L2
open W Calls PyProof.Rows
section
variable{α β:Type}{n:Nat}{lt:Nat->Nat->Bool}
def h6(lt:Nat->Nat->Bool)(p:Array Nat)(k:Nat):Prop:= ∀i j,i<j->j<k->lt (p.getD i 0) (p.getD j 0)=true
def j3(lt:Nat->Nat->Bool)(p:Array Nat)(k:Nat):Prop:= ∀i j,i<j->j<k->lt (p.getD j 0) (p.getD i 0)=true
theorem Pm.size{p:Array Nat}(h:Pm n p):p.size=n:=by have:=h.length_eq;simpa using this
theorem Pm.ne{p:Array Nat}(h:Pm n p)(hi:i<n)(c:j<n)(e:i≠j):p.getD i 0≠p.getD j 0:=by
 have d:=h.size;have a:p.toList.Nodup:=h.nodup_iff.mpr aaA;intro z;rw[iN,iN,mZ (by omega),mZ (by omega)]at z
 have b:p.toList[i]'(by simp;omega)=p.toList[j]'(by simp;omega):=by simpa using z
 exact e ((aaC a).mp b)
theorem BY{p:Array Nat}{m:Nat}(a:m<=p.size)(k:Nat)(b:k<m):(kas_rev p 0 m).getD k 0=p.getD (m - 1 - k) 0:=by
 unfold kas_rev;rw[iN,getElem?_mirror_all a,aF ⟨bD _,b⟩,iN,Nat.zero_add]
theorem j3.rev{p:Array Nat}{m:Nat}(b:m<=p.size)(a:j3 lt p m):h6 lt (kas_rev p 0 m) m:=λi j d c=>by
 rw[BY b i (by omega),BY b j c]
 exact a _ _ (by omega) (by omega)
theorem BZ{p:Array Nat}{k l:Nat}(c:k<p.size)(d:l<=k)(i:Nat):(bubble p k (k - l)).getD i 0=if i=l then p.getD k 0 else if l<i/\i<=k then p.getD (i - 1) 0 else p.getD i 0:=by
 rw[iN,getElem?_bubble c (k - l) (by omega)]
 have:k - (k - l)=l:=by omega
 rw[this]
 by_cases a:i=l
 ·rw[aF a,aF a];exact(iN ..).symm
 ·rw[aq a,aq a]
  by_cases b:l<i/\i<=k
  ·rw[aF b,aF b];exact(iN ..).symm
  ·rw[aq b,aq b];exact(iN ..).symm
end
def iH(p q:FF):Bool:=decide (p.cps.toList<q.cps.toList)
theorem B0(p:FF):iH p p=false:=ej (List.lt_irrefl _)
theorem Md{p r:FF}(h1:iH p q=true)(h2:iH q r=true):iH p r=true:=cf (List.lt_trans (dQ h1) (dQ h2))
theorem K0{p:FF}(h:p≠q)(f:iH p q=false):iH q p=true:=by
 refine cf ?_;have h1 : ¬ p.cps.toList<q.cps.toList:=of_decide_eq_false f;have h2:q.cps.toList<=p.cps.toList:=abw.mp h1
 by_cases z:q.cps.toList<p.cps.toList
 ·exact z
 ·exact absurd (Jw (a:=p) (b:=q) (abw.mp z) h2) h
theorem Iv{α β:Type}{F:α->β->Prop}{l:ac α}{m:ac β}(h:VX F l m)(dl:α)(a:β)(i:Nat)(hi:i<l.length):F (l.getD i dl) (m.getD i a):=by
 induction h generalizing i with
 |nil=>exact absurd hi (oV _)
 |cons p _ b =>
  cases i with
  |zero=>exact p
  |succ i=>exact b i (wK hi)
theorem Au{α β γ:Type}{F:α->β->Prop}{f:γ->α}{g:γ->β}:∀{l:ac γ},(∀x∈l,F (f x) (g x))->VX F (l.map f) (l.map g)
 |[],_=>.nil
 |x::l,h=>.cons (h x aY) (Au λy a=>h y (bc _ a))
theorem Me{lt:Nat->Nat->Bool}{p:Array Nat}{n:Nat}(d:p.size=n)(a:h6 lt p n):p.toList.Pairwise λi j=>lt i j=true:=by
 rw[List.pairwise_iff_getElem];intro i j hi c b;have h1:i<p.size:=by simpa using hi
 have h2:j<p.size:=by simpa using c
 have:=a i j b (by omega)
 rw[iN,iN,mZ h1,mZ h2]at this
 simpa using this
end L2
namespace HS
open Spec PyProof.Rows W
theorem G4{vs:ac i'}{Q:ac i'->UN->Prop}(c:YJ s.heap l vs.toArray)(hz:vs.length<=UP)(q:∀h',(∀b o,s.heap.get? b=ih o->h'.get? b=ih o)->Q vs { s with heap:=h' }) :
  UQ (U4 P w) A (collect (.ref l)) Q E s:=by
 obtain⟨o,d,f,n,g⟩:=id c;unfold collect;refine ae (FJ (ia Vn ?_));rw[iM Vo _];show UQ _ A.in1 (newList [] >>= λz=>again (.builtin "list.__iadd__" ⟨[z,.ref l],[]⟩)) _ _ s;refine ae (wH (ao ⟨jr wM _,ia Vp ?_⟩));rw[iM wM _];show UQ _ _ (Yp (.ref s.heap.objs.size) (.ref l) (.ref s.heap.objs.size)) _ _ { s with heap:=s.heap.push (seqObj "list" #[] 0) };unfold Yp;have a:(s.heap.push (seqObj "list" #[] 0)).get? l=ih o:=a7 _ d;refine ae (jm (T:= "tuple") ⟨o,a,f⟩ ?_);have h:(Ys "tuple" == Ys "tuple")=true:=by rfl
 rw[aF (by rw[h];simp)]
 refine ae (listItems_at a g (ae (listItems_at (xs:= #[]) (n:=0) (bW _ rfl) rfl ?_)));rw[aq (by simp)]
 refine ae (listUpdate_at (xs:= #[]) (n:=0) (bW _ rfl) rfl (ao ?_) (bD _) (by show(#[]++vs.toArray).size<=UP+1;simp only[rW,b2,jq];omega))
 show UQ (U4 P w) A (load s.heap.objs.size >>= _) Q E { s with heap:=(s.heap.push (seqObj "list" #[] 0)).update s.heap.objs.size (V0 (· ++ vs.toArray)) };refine ae (oO (get?_update_seq (bW _ rfl) _) ?_);show UQ _ _ (pure ((#[]:Array i')++vs.toArray).toList) Q E _;rw[show((#[]:Array i')++vs.toArray).toList=vs by simp]
 refine ao (q _ λb i e=>?_);exact(kc _ _ (jj (bx e))).trans (a7 _ e)
end HS
namespace L2
open Spec PyProof.Rows W HS
end L2
namespace L2
open W Calls PyProof.Rows
structure hT(n:Nat)(lt:Nat->Nat->Bool):Prop where
 tr:∀i j k,i<n->j<n->k<n->lt i j=true->lt j k=true->lt i k=true
 PX:∀i j,i<n->j<n->i≠j->lt i j=false->lt j i=true
def cP{α:Type}(n:Nat)(lt:Nat->Nat->Bool)(φ:α->Prop):KasT α->Prop
 |.ret a=>φ a
 |.ask i j k=>i<n/\j<n/\i≠j/\cP n lt φ (k (lt i j))
section
variable{α β:Type}{n:Nat}{lt:Nat->Nat->Bool}
theorem cP.bind{b:α->Prop}{ψ:β->Prop}{f:α->KasT β}(g:∀a,b a->cP n lt ψ (f a)):∀{t:KasT α},cP n lt b t->cP n lt ψ (t.bind f)
 |.ret a,h=>g a h
 |.ask _ _ _,h=>⟨h.1,h.2.1,h.2.2.1,cP.bind g h.2.2.2⟩
theorem cP.wp{c:α->Prop}{b:Nat->Nat->(Bool->UN->Prop)->UN->Prop}{Q:α->UN->Prop}{s:UN}(d:∀i j C,i<n->j<n->i≠j->C (lt i j) s->b i j C s):∀{t:KasT α},cP n lt c t->(∀a,c a->Q a s)->t.kasWp b Q s
 |.ret a,h,q=>q a h
 |.ask _ _ _,h,q=>d _ _ _ h.1 h.2.1 h.2.2.1 (cP.wp d h.2.2.2 q)
theorem cP.mono{b ψ:α->Prop}(g:∀a,b a->ψ a):∀{t:KasT α},cP n lt b t->cP n lt ψ t
 |.ret a,h=>g a h
 |.ask _ _ _,h=>⟨h.1,h.2.1,h.2.2.1,cP.mono g h.2.2.2⟩
theorem uD{p:Array Nat}(O:hT n lt)(h:Pm n p)(hi:i<n)(a:j<n)(e:i≠j)(f:lt (p.getD i 0) (p.getD j 0)=false):lt (p.getD j 0) (p.getD i 0)=true:=
 O.PX _ _ (h.lt (by omega) i) (h.lt (by omega) j) (h.ne hi a e) f
theorem Iw{p:Array Nat}(O:hT n lt)(h:Pm n p){m:Nat}(h1:1<=m)(c:m<n)(a:h6 lt p m)(l:lt (p.getD (m - 1) 0) (p.getD m 0)=true):h6 lt p (m+1):=λi j b d=>by
 by_cases e:j<m
 ·exact a i j b e
 ·obtain rfl:j=m:=by omega
  by_cases e2:i=j - 1
  ·rw[e2];exact l
  ·exact O.tr _ _ _ (h.lt (by omega) _) (h.lt (by omega) _) (h.lt (by omega) _) (a i (j - 1) (by omega) (by omega)) l
theorem Iy{p:Array Nat}(O:hT n lt)(h:Pm n p){m:Nat}(h1:1<=m)(c:m<n)(a:j3 lt p m)(l:lt (p.getD m 0) (p.getD (m - 1) 0)=true):j3 lt p (m+1):=λi j b d=>by
 by_cases e:j<m
 ·exact a i j b e
 ·obtain rfl:j=m:=by omega
  by_cases e2:i=j - 1
  ·rw[e2];exact l
  ·exact O.tr _ _ _ (h.lt (by omega) _) (h.lt (by omega) _) (h.lt (by omega) _) l (a i (j - 1) (by omega) (by omega))
theorem sY{p:Array Nat}(O:hT n lt)(h:Pm n p):∀(f m:Nat),1<=m->m+f<=n->h6 lt p m->cP n lt (λr=>m<=r/\r<=m+f/\h6 lt p r/\(r<m+f->lt (p.getD r 0) (p.getD (r - 1) 0)=true)) (kas_asc p f m)
 |0,m,h1,h2,a=>⟨aQ _,aQ _,a,λz=>absurd z (by omega)⟩
 |f+1,m,h1,h2,a=>⟨h.lt (by omega) _,h.lt (by omega) _,h.ne (by omega) (by omega) (by omega),by
  cases c:lt (p.getD m 0) (p.getD (m - 1) 0) with
  |true=>exact⟨aQ _,by omega,a,λ_=>c⟩
  |false =>
   refine cP.mono (λr b=>?_) (sY O h f (m+1) (by omega) (by omega) (Iw O h h1 (by omega) a (uD O h (by omega) (by omega) (by omega) c)))
   exact⟨by omega,by omega,b.2.2.1,λz=>b.2.2.2 (by omega)⟩⟩
theorem Bf{p:Array Nat}(O:hT n lt)(h:Pm n p):∀(f m:Nat),1<=m->m+f<=n->j3 lt p m->cP n lt (λr:Array Nat×Nat×Nat=>r.1=p/\r.2.2=0/\m<=r.2.1/\r.2.1<=m+f/\j3 lt p r.2.1) (kas_desc f p m 0)
 |0,m,h1,h2,a=>⟨rfl,rfl,aQ _,aQ _,a⟩
 |f+1,m,h1,h2,a=>⟨h.lt (by omega) _,h.lt (by omega) _,h.ne (by omega) (by omega) (by omega),by
  cases c:lt (p.getD m 0) (p.getD (m - 1) 0) with
  |true =>
   show cP n lt _ (if 0>0 then kas_desc f (kas_rev p (m - (0+1)) m) (m+1) 0 else kas_desc f p (m+1) 0);rw[aq (by omega)]
   refine cP.mono (λr b=>?_) (Bf O h f (m+1) (by omega) (by omega) (Iy O h h1 (by omega) a c))
   exact⟨b.1,b.2.1,by omega,by omega,b.2.2.2.2⟩
  |false =>
   refine⟨h.lt (by omega) _,h.lt (by omega) _,h.ne (by omega) (by omega) (by omega),?_⟩
   rw[uD O h (by omega) (by omega) (by omega) c]
   exact⟨rfl,rfl,aQ _,aaM _ _,a⟩⟩
def qJ(n:Nat)(lt:Nat->Nat->Bool)(r:Nat×Array Nat):Prop:=Pm n r.2/\h6 lt r.2 r.1/\1<=r.1/\r.1<=n
theorem HG{p:Array Nat}(O:hT n lt)(h:Pm n p){m:Nat}(h1:1<=m)(h2:m<=n)(a:j3 lt p m):cP n lt (qJ n lt) (kas_tail3 m n p):=
 cP.bind (ψ:=qJ n lt) (f:=λk=>.ret (k,kas_rev p 0 m)) (λr b=>(show qJ n lt (r,kas_rev p 0 m) from⟨h.rev _ _,b.2.2.1,en h1 b.1,by have:=b.2.1;show r<=n;omega⟩)) (sY O (h.rev 0 m) (n - m) m h1 (by omega) (a.rev (by rw[h.size];exact h2)))
theorem HH{p:Array Nat}(O:hT n lt)(u:2<=n)(h:Pm n p):cP n lt (qJ n lt) (kas_count n p):=
 (sY O h (n - 1) 1 (aQ _) (by omega) (λi j d b=>absurd b (by omega))).bind λm f=>by
  obtain⟨c,v,a,k⟩:=f;show cP n lt _ (if (m==n)=true then _ else if m>1 then _ else _);split
  ·rename_i e
   have:m=n:=by simpa using e
   subst this;exact⟨h,a,c,aQ _⟩
  ·rename_i e
   have ne:m≠n:=by simpa using e
   split
   ·rename_i g
    refine⟨h.lt (by omega) _,h.lt (by omega) _,h.ne (by omega) (by omega) (by omega),?_⟩
    rw[a 0 (m - 1) (by omega) (by omega)]
    exact⟨h,a,c,by omega⟩
   ·obtain rfl:m=1:=by omega
    have l:=k (by omega)
    have o:j3 lt p 2:=λi j d b=>by
     obtain rfl:j=1:=by omega
     obtain rfl:i=0:=by omega
     exact l
    refine cP.bind (λr q=>?_) (Bf O h (n - (1+1)) (1+1) (by omega) (by omega) o)
    obtain⟨s,w,x,y,t⟩:=q;show cP n lt _ (if r.2.2>0 then _ else _);rw[aq (by omega),s]
    exact HG O h (by omega) (by omega) t
theorem su{p:Array Nat}(O:hT n lt)(h:Pm n p){k:Nat}(d:k<n)(a:h6 lt p k):∀(f l r:Nat),r - l<=f->l<=r->r<=k->(∀i,i<l->lt (p.getD i 0) (p.getD k 0)=true)->(∀i,r<=i->i<k->lt (p.getD k 0) (p.getD i 0)=true) ->
  cP n lt (λm=>m<=k/\(∀i,i<m->lt (p.getD i 0) (p.getD k 0)=true) /\∀i,m<=i->i<k->lt (p.getD k 0) (p.getD i 0)=true) (kas_place p k f l r)
 |0,l,r,s,t,b,lo,hi=>by
  obtain rfl:l=r:=by omega
  exact⟨b,lo,hi⟩
 |f+1,l,r,s,t,b,lo,hi=>by
  show cP n lt _ (if l ≥ r then _ else _);split
  ·obtain rfl:l=r:=by omega
   exact⟨b,lo,hi⟩
  ·refine⟨h.lt (by omega) _,h.lt (by omega) _,h.ne (by omega) (by omega) (by omega),?_⟩
   cases c:lt (p.getD k 0) (p.getD ((l+r) / 2) 0) with
   |true =>
    refine su O h d a f l ((l+r) / 2) (by omega) (by omega) (by omega) lo λi o q=>?_
    by_cases e:i=(l+r) / 2
    ·rw[e];exact c
    ·exact O.tr _ _ _ (h.lt (by omega) _) (h.lt (by omega) _) (h.lt (by omega) _) c (a _ i (by omega) q)
   |false =>
    have g:=uD O h (i:=k) (j:=(l+r) / 2) d (by omega) (by omega) c
    refine su O h d a f ((l+r) / 2+1) r (by omega) (by omega) b (λi o=>?_) hi
    by_cases e:i=(l+r) / 2
    ·rw[e];exact g
    ·exact O.tr _ _ _ (h.lt (by omega) _) (h.lt (by omega) _) (h.lt (by omega) _) (a i _ (by omega) (by omega)) g
theorem B1(O:hT n lt):∀(f:Nat) (p:Array Nat) (k:Nat),k+f=n->Pm n p->h6 lt p k->cP n lt (λr=>Pm n r/\h6 lt r n) (kas_bin f p k)
 |0,p,k,e,h,a=>by
  obtain rfl:k=n:=by omega
  exact⟨h,a⟩
 |f+1,p,k,e,h,a=>(su O h (by omega) a k 0 k (by omega) (bD _) (aQ _) (λi hi=>absurd hi (oV _)) (λi h1 h2=>absurd h2 (by omega))).bind λl q=>by
  obtain⟨b,s,t⟩:=q;refine B1 O f _ _ (by omega) (h.PV _ _) λi j o v=>?_
  have u:=h.size;rw[BZ (by omega) b i,BZ (by omega) b j]
  by_cases c:i=l
  ·rw[aF c,aq (by omega),aF (by omega)]
   exact t _ (by omega) (by omega)
  ·rw[aq c]
   by_cases d:l<i/\i<=k
   ·rw[aF d,aq (by omega),aF (by omega)]
    exact a _ _ (by omega) (by omega)
   ·rw[aq d]
    by_cases g:j=l
    ·rw[aF g];exact s i (by omega)
    ·rw[aq g]
     by_cases m:l<j/\j<=k
     ·rw[aF m]
      exact a _ _ (by omega) (by omega)
     ·rw[aq m]
      exact a _ _ o (by omega)
theorem Iz(O:hT n lt)(c:2<=n):cP n lt (λr=>Pm n r/\h6 lt r n) (kas_sort n):=
 (HH O c (kg _)).bind λr d=>by
  obtain⟨b,a,f,g⟩:=d;show cP n lt _ (if r.1<n then _ else _);split
  ·refine B1 O _ _ _ (by omega) b ?_
   rw[show max r.1 1=r.1 by omega];exact a
  ·obtain e:r.1=n:=by omega
   rw[e]at a;exact⟨b,a⟩
end
end L2
namespace L2
open W Calls PyProof.Rows HS
def e8:List FF->List FF->Bool
 |a::as,b::bs=>if a=b then e8 as bs else iH a b
 |_,_=>false
theorem Dc:∀{a b c:ac FF},a.length=b.length->b.length=c.length->e8 a b=true->e8 b c=true->e8 a c=true
 |[],_,_,h1,_,h,_=>by unfold e8 at h;cases h
 |a::f,[],_,h1,_,_,_=>by simp at h1
 |a::f,b::bs,[],_,h2,_,_=>by simp at h2
 |a::f,b::bs,c::g,h1,h2,e,d=>by
  unfold e8 at e d⊢
  by_cases e1:a=b
  ·rw[aF e1]at e
   subst e1
   by_cases e2:a=c
   ·rw[aF e2]at d⊢;exact Dc (by simpa using h1) (by simpa using h2) e d
   ·rw[aq e2]at d⊢;exact d
  ·rw[aq e1]at e
   by_cases e2:b=c
   ·subst e2
    rw[aq e1];exact e
   ·rw[aq e2]at d
    have t:=Md e d
    by_cases e3:a=c
    ·subst e3;rw[B0]at t;cases t
    ·rw[aq e3];exact t
theorem CJ:∀{a b:ac FF},a.length=b.length->a≠b->e8 a b=false->e8 b a=true
 |[],[],_,h,_=>absurd rfl h
 |[],b::bs,h,_,_=>by simp at h
 |a::d,[],h,_,_=>by simp at h
 |a::d,b::bs,h1,h2,c=>by
  unfold e8 at c⊢
  by_cases e:a=b
  ·subst e
   rw[aF rfl]at c⊢;exact CJ (by simpa using h1) (λz=>h2 (by rw[z])) c
  ·rw[aq e]at c;rw[aq (aT e)]
   exact K0 e c
theorem K1(a b:FF):e8 [a] [b]=iH a b:=by
 unfold e8
 by_cases e:a=b
 ·rw[aF e,e,B0];rfl
 ·rw[aq e]
theorem IA{a b:FF}{t u:Tok}{c:Bool}{Q:Bool->UN->Prop}(h:Q (iH a b) s):UQ (U4 P w) A (oneLt' c (.str a t) (.str b u)) Q E s:=by
 cases c with
 |true=>exact oneLt_str h
 |false =>
  rw[oneLt'_eq];simp only[v8,kb];exact ae (ab4 (hg h))
theorem Bg{b g:Bool}{Q:Bool->UN->Prop}:∀{c bs:ac FF}{us vs:ac i'}{d f:ac i'} (i:Nat),Yz us c->Yz vs bs->c.length=bs.length->c≠bs->Q (e8 c bs) s->KatLex P w A b g Q ((us++d).zip (vs++f)) i s
 |[],[],_,_,_,_,_,_,_,_,h,_=>absurd rfl h
 |[],_::_,_,_,_,_,_,_,_,h,_,_=>by simp at h
 |_::_,[],_,_,_,_,_,_,_,h,_,_=>by simp at h
 |a::c,k::bs,_,_,d,f,i,.cons _ t h1,.cons _ u h2,l,j,q=>by
  unfold e8 at q;refine kat_cons (EW ?_)
  by_cases e:a=k
  ·rw[cf e]
   rw[aF e]at q;exact kat_yes (Bg (i+1) h1 h2 (by simpa using l) (λz=>j (by rw[e,z])) q)
  ·rw[ej e]
   rw[aq e]at q;exact kat_no (IA q)
def iq(H:Hp)(m:Nat)(vs:List V)(kvs:List (List FF×List V)):Prop:=VX (λy p=>∃a,y=V.ref a/\H a=ih (.tup (p.1.map V.str++p.2))/\p.1.length=m) vs kvs
theorem Av{H:Hp}:∀{ks:ac FF}{rest:ac V}{its:ac i'},Vals (ks.map V.str++rest) its ->∃us a,its=us++a/\Yz us ks
 |[],rest,its,h=>⟨[],its,rfl,.nil⟩
 |k::ks,rest,its,h=>by
  cases h with
  |cons r t =>
   obtain⟨tk,rfl⟩:=r;obtain⟨us,a,e,st⟩:=Av (H:=H) t;exact⟨.str k tk::us,a,by rw[e];rfl,.cons k tk st⟩
theorem Bh{σ:ac (Option V)}{Q:VK}
  (zi:∀(A:Yy) (E:i'->UN->Prop) (xg:ac i'->UN->Prop),(X.A.handled=none->A.handled=none)->(∀(its:ac i') (s1:UN) (H:Hp) (ys:ac V) (kvs:ac (List FF×List V)) (G:Nat),Inv X J σ H s1->Vals ys its->iq H G ys kvs->1<=G->(kvs.map (·.1)).Nodup->ys.length<=63 ->
   (∀D ya xa,H D=none->ya.Perm ys->iq H G ya xa->xa.Perm kvs->(xa.map (·.1)).Pairwise (λa b=>e8 a b=true)->Q (.ref D) (upd H D (.lst ya)))->xg its s1)->UQ X.c5 A (collect (.ref p)) xg E s) :
  wA X (call (.builtin "sorted") [.ref p]) (EP X J σ Q) X.xe s:=by
 refine Vq kind_sorted plain_sorted entry_sorted (args_sorted1 _) ?_;unfold Yo.«sorted»;refine ae (m:=checkCount "sorted" 1 1 _) (ao (ae (zi _ _ _ (λh=>by simpa using h) λits s H ys kvs G I xb pr yz zp zz q=>?_)))
 have xq:ys.length<=UP:=by rw[aW];omega
 have xj:ys.length=kvs.length:=cN pr;have zd:=xb.length;have S:∀(i:Nat),i<its.length ->∃(ks:ac FF) (a:E8) (w l:ac i'),(kvs.map (·.1))[i]?=ih ks/\its[i]?=ih (.ref a)/\a≠X.env.locals/\YJ s.heap a (w++l).toArray/\Yz w ks/\ks.length=G:=by
  intro i hi;have ye:i<ys.length:=by omega
  obtain⟨yq,yj,a,zq,yb,zj⟩:=l5 pr (show ys[i]?=ih ys[i] from bz ye);obtain⟨u,zb,l⟩:=xb.get (show ys[i]?=ih (V.ref a) by rw[bz ye,zq])
  cases l
  obtain⟨xB,xr,yg,_⟩:=I.tuple (aA.of yb);obtain⟨w,l,e,st⟩:=Av (H:=H) xr;rw[e]at yg;exact⟨yq.1,a,w,l,by rw[cL,yj];rfl,zb,(λz=>by rw[z,I.free]at yb;cases yb),yg,st,zj⟩
 obtain⟨m,W,_⟩:=id I.loc
 let lt:Nat->Nat->Bool:=λi j=>e8 ((kvs.map (·.1)).getD i []) ((kvs.map (·.1)).getD j [])
 have yB:(kvs.map (·.1)).length=its.length:=by rw[aE];omega
 have K:∀i,i<its.length->((kvs.map (·.1)).getD i []).length=G:=λi hi=>by
  obtain⟨ks,_,_,_,h1,_,_,_,_,h2⟩:=S i hi;rw[gA,h1];exact h2
 have ze:∀i j,i<its.length->j<its.length->i≠j->(kvs.map (·.1)).getD i []≠(kvs.map (·.1)).getD j []:=λi j hi y M e=>M ((FT (by omega) zp).mp (by
  rw[gA,gA,bz (by omega),bz (by omega)]at e
  rw[bz (by omega),bz (by omega)]
  exact c6 ih e))
 have O:hT its.length lt:=⟨λi j k hi y yr h1 h2=>Dc ((K i hi).trans (K j y).symm) ((K j y).trans (K k yr).symm) h1 h2,λi j hi y M f=>CJ ((K i hi).trans (K j y).symm) (ze i j hi y M) f⟩;have xf:∀(h':Yl) (D:E8) (c:Nat) (d:Array Nat),(∀b o,b≠X.env.locals->s.heap.get? b=ih o->h'.get? b=ih o)->h'.Ns X.env.locals m->(∀b o,s.heap.get? b=ih o->b≠D)->Pm its.length d->(d.toList.Pairwise λi j=>lt i j=true) ->
   h'.get? D=ih (listOf (d.toList.map λi=>its.getD i VQ).toArray c) ->∃v H',Inv X J σ H' { s with heap:=h' }/\RelV v (.ref D)/\Q v H':=by
  intro h' D c d k xk B x yk new;have yf:∀i∈d.toList,i<its.length:=λi hi=>jh.mp (x.mem_iff.mp hi);have zg:(d.toList.map λi=>ys.getD i V.aO).Perm ys:=C9 V.aO (by rw[zd];exact x)
  have zk:Pm kvs.length d:=by rw[<-xj,zd];exact x
  have zr:(d.toList.map λi=>kvs.getD i (([],[]):ac FF×List V)).Perm kvs:=C9 _ zk;have xt:iq H G (d.toList.map λi=>ys.getD i V.aO) (d.toList.map λi=>kvs.getD i ([],[])):=Au λi hi=>Iv pr V.aO ([],[]) i (by have:=yf i hi;omega)
  have yt:(d.toList.map λi=>kvs.getD i ([],[])).map (·.1)=d.toList.map λi=>(kvs.map (·.1)).getD i []:=by
   rw[c7];refine m1 λi hi=>?_;have:i<kvs.length:=by have:=yf i hi;omega
   show(kvs.getD i ([],[])).1=_;rw[gA,gA,cL,bz this];rfl
  have xl:Vals (d.toList.map λi=>ys.getD i V.aO) (d.toList.map λi=>its.getD i VQ):=A' (λi=>by
   by_cases hi:i<ys.length
   ·obtain⟨u,zb,l⟩:=xb.get (show ys[i]?=ih ys[i] from bz hi)
    rw[gA,gA,zb,bz hi];exact l
   ·rw[gA,gA,rY (by omega),rY (by omega)];trivial) d.toList
  obtain⟨zt,xu⟩:=Inv.sorted (t':=s.toks) I W xk k B new xl (by rw[zg.length_eq];exact xq)
  refine⟨.ref D,_,xu,rfl,q D _ _ zt zg xt zr ?_⟩;rw[yt,m2];exact yk
 refine ae (wH ?_ (by rw[aW];omega))
 have za:(s.heap.push (seqObj "list" its.toArray 0)).get? s.heap.objs.size=ih (seqObj "list" its.toArray 0):=bW _ rfl;have B:∀b o,s.heap.get? b=ih o->b≠s.heap.objs.size:=λb o e=>bM (bx e);refine ae (er (h9 slot_list_sort ⟨_,za,rfl⟩ entry_list_sort ?_ (args_list_sort _)));have keep:∀b o,s.heap.get? b=ih o->(s.heap.push (seqObj "list" its.toArray 0)).get? b=ih o:=λb o e=>a7 _ e
 by_cases h2:its.length<2
 ·refine Ir za h2 λc g xh new=>⟨_,rfl,ao ⟨_,rfl,?_⟩⟩
  refine xf g _ c (VS its.length).toArray (λb o _ e=>xh b o (B b o e) (keep b o e)) (W.at' λo e=>xh _ o (B _ o e) (keep _ o e)) B (kg _) ?_ ?_
  ·show(VS its.length).Pairwise _
   have:its.length=0\/its.length=1:=by omega
   rcases this with z|z <;> rw[z]
   ·exact Zq
   ·exact List.pairwise_singleton _ _
  ·have:(VS its.length).map (λi=>its.getD i VQ)=its:=by
    apply FE
    ·simp
    ·intro i h1 h2;simp[Zg,h2]
   show g.get? s.heap.objs.size=ih (listOf ((VS its.length).map λi=>its.getD i VQ).toArray c);rw[this];exact new
 ·have h2:2<=its.length:=by omega
  obtain⟨P,yl,U⟩:∃P:Yl,P.objs.size=0 /\∀b,P.get? b=none:=⟨{ s.heap with objs:= #[] },rfl,λb=>rN (bD _)⟩;have F:Fr P X.env.locals s.heap m:=⟨W,λb o e=>(by rw[U]at e;cases e),by rw[yl];exact bD _⟩
  have N:=I1 (g:=P) (L:=X.env.locals) (h:=s.heap);have zl:∃o,s.heap.get? X.env.locals=ih o:=let ⟨o,_,_,e,_⟩:=W;⟨o,e⟩;obtain⟨zB,yu⟩:=zl;refine kat_list_sort (s:={ s with heap:=s.heap.push (seqObj "list" its.toArray 0) }) (F.kept keep) (N.grown keep) za (aT (B _ _ yu)) (U _) (λp x=>B p.1 p.2 (r8 x).2.2) h2 (by omega) λe1 h' zu N'=>?_
  have kp:∀b o,b≠X.env.locals->s.heap.get? b=ih o->h'.get? b=ih o:=λb o n e=>(N' (b,o) (bc _ (z' n (U b) e))).1;have tk:∀{a:E8}{zs:Array i'},a≠X.env.locals->YJ s.heap a zs->YJ h' a zs:=λn ⟨o,xc,r⟩=>⟨o,kp _ o n xc,r⟩;have xv:∀(vs:ac i'),(∀v∈vs,∃a w l ks,v=U6 a/\YJ h' a (w++l).toArray/\Yz w ks/\ks.length=G) ->∃fs,fs.length=vs.length/\KatTups h' vs fs /\∀f∈fs,∃k t,f=Y8 k t:=by
   intro vs
   induction vs with
   |nil=>intro _;exact⟨[],rfl,KatTups.nil,λf R=>(by cases R)⟩
   |cons v vs yv =>
    intro Y;obtain⟨fs,zv,xw,yw⟩:=yv λzw h'=>Y zw (bc _ h');obtain⟨a,w,l,ks,rfl,⟨o,xc,xx,n,yx⟩,st,xm⟩:=Y v aY;cases st with
    |nil=>simp at xm;omega
    |cons k t r =>
     refine⟨.str k t::fs,by rw[cV,cV,zv],KatTups.cons xc xx yx (by simp) xw,λf R=>?_⟩
     rcases bJ.mp R with z|z
     ·exact⟨k,t,z⟩
     ·exact yw f z
  obtain⟨fs,xA,ym,zm⟩:=xv its λv Y=>by
   obtain⟨i,hi,rfl⟩:=wy Y;obtain⟨ks,a,w,l,_,Z,yc,zc,xd,yd⟩:=S i hi;rw[bz hi]at Z;exact⟨a,w,l,ks,cJ Z,tk yc zc,xd,yd⟩
  refine kat_kind (T:=.type "str") ym (by omega) (λf R=>?_) (by decide) ?_
  ·obtain⟨k,t,rfl⟩:=zm f R
   exact Looks.of_pure rfl
  ·refine(Iz O h2).wp (λi j C hi y M yh=>?_) λd x=>?_
   ·obtain⟨k,a,w,l,zx,Z,yc,zc,xd,yd⟩:=S i hi
    obtain⟨zh,xC,yA,zA,xn,yn,zn,xo,yo,zo⟩:=S j y;unfold kas_ask;rw[gA,gA,Z,yn];have xi:(kvs.map (·.1)).getD i []=k:=by rw[gA,zx];rfl
    have yi:(kvs.map (·.1)).getD j []=zh:=by rw[gA,xn];rfl
    have xy:lt i j=e8 k zh:=by show e8 ((kvs.map (·.1)).getD i []) ((kvs.map (·.1)).getD j [])=_;rw[xi,yi]
    have ne:=ze i j hi y M;rw[xi,yi]at ne;rw[xy]at yh;obtain⟨ox,yy,_,yC,dx⟩:=tk yc zc;obtain⟨zC,zy,_,xD,xz⟩:=tk zn xo;exact kat_lt yy dx zy xz (Bg 0 xd yo (yd.trans zo.symm) ne yh)
   ·refine KasFin.intro zu N' (UpdF.head λp x=>?_) λxp c yp zf=>?_
    ·exact B p.1 p.2 (r8 x).2.2
    ·refine⟨_,rfl,ao ⟨_,rfl,?_⟩⟩
     exact xf xp _ c d (λb o n e=>(zf (b,o) (bc _ (z' n (U b) e))).1) yp.ns B x.1 (Me x.1.size x.2) (zf _ aY).1
theorem sg:cX X (.builtin "sorted") (λxs H Q=>∃(p:E8) (ys:ac V) (kvs:ac (List FF×List V)) (m:Nat),xs=[.ref p]/\(ak X.K H p ys\/aA X.K H p ys)/\iq H m ys kvs/\1<=m/\(kvs.map (·.1)).Nodup/\ys.length<=63 /\
  ∀D f d,H D=none->f.Perm ys->iq H m f d->d.Perm kvs->(d.map (·.1)).Pairwise (λa b=>e8 a b=true)->Q (.ref D) (upd H D (.lst f))):=by
 rintro J s σ H xs us Q I r ⟨p,ys,kvs,j,ex,hq,pr,h,l,i,q⟩;subst ex;obtain⟨u,rfl,t⟩:=vals1 r;cases t
 refine Bh λA E w _ n=>?_;rcases hq with hq|hq
 ·obtain⟨its,c,g,v⟩:=I.list hq
  have:=c.length;exact collect_list g.isList (n its _ H ys kvs j (I.kept (t':=s.toks) λb o e=>(kc _ _ (jj (bx e))).trans (a7 _ e)) c pr h l i q) (by rw[aW];omega)
 ·obtain⟨its,c,g,v⟩:=I.tuple hq
  have:=c.length;exact G4 g (by rw[aW];omega) λh' k=>n its _ H ys kvs j (I.kept (t':=s.toks) k) c pr h l i q
end L2
namespace L2
open Spec PyProof.Rows W
end L2
namespace HT
open PyProof.Rows
section
open SeqAt
open AutoSeq1 (wpAny_loadPart')
open MeetsSeq MeetsSeq2 MeetsSeq3
end
end HT
namespace L2
open Spec PyProof.Rows W HT
end L2
namespace HS
open Spec PyProof.Rows W
theorem B4{vs:ac i'}{ys:ac FF}{y:FF}{t:Tok}{j:Nat}{Q:ad ZU×Unit->UN->Prop}(st:Yz vs ys)(a:ys[j]?=ih y)(d:∀m,m<j->ys[m]? ≠ ih y)(q:∀tk,Q (ih (.done (.ret (.int j tk))),()) { s with toks:=s.toks+1 }) :
  ∀(k i:Nat),i<=j->j<i+k->UQ (U4 P w) A (forIn (m:=Zr) (List.range' i k) ((none,()):ad ZU×Unit) λ(i:Nat) n=>match vs.toArray[i]? with
      |some f=>do
       let b <- eqBool f (.str y t)
       if b=true then do
         let r <- retInt (i:Int)
         pure (acQ (ih r,()))
        else pure (Yi (none,()))
      |_=>pure (Yi (none,()))) Q E s
 |0,i,h1,h2=>absurd h2 (by omega)
 |k+1,i,h1,h2=>by
  rw[List.range'_succ,aaP];have h:=lY st;have l:j<ys.length:=(b3.mp a).1;have hi:i<vs.length:=by omega
  obtain⟨tk,g⟩:=L2.tN st i vs[i] (bz hi);have c:i<ys.length:=by omega
  have e1:vs.toArray[i]?=ih (.str ys[i] tk):=by
   rw[List.getElem?_toArray,bz hi,g];simp[c]
  rw[e1]
  dsimp only
  refine ae (ae (EW ?_))
  by_cases e:ys[i]=y
  ·rw[cf e,aF rfl]
   have:i=j:=by
    by_cases z:i<j
    ·exact absurd (by rw[bz c,e]) (d i z)
    ·omega
   subst this;refine ae ?_;unfold retInt;exact ae (wpAny_mkInt (ao (ao (ao (q _)))))
  ·rw[ej e,aq cc]
   refine ao ?_;refine B4 st a d q k (i+1) ?_ (by omega)
   by_cases z:i=j
   ·subst z
    rw[bz c]at a;exact absurd (cJ a) e
   ·omega
theorem IB{vs:ac i'}{y:FF}{t:Tok}(d:YJ s.heap l vs.toArray)(st:Yz vs ys)(a:ys[j]?=ih y)(c:∀m,m<j->ys[m]? ≠ ih y)(q:∀tk,Q (.int j tk) { s with toks:=s.toks+1 }) :
  UQ (U4 P w) A (call (.builtin "tuple.index") [.ref l,.str y t]) Q E s:=by
 obtain⟨o,b,e,n,f⟩:=d;have h:j<ys.length:=(b3.mp a).1;have g:=lY st;refine h9 Vt ⟨o,b,e⟩ PySem.F.entry_tuple_index ?_ (PySem.F.args_tuple_index_2 _ _);unfold Yo.«tuple.index»;refine ae (ao ?_)
 dsimp only
 refine ae ?_;unfold YX seqItems?;refine ae (ae (oO b ?_));rw[f];refine ao (ao ?_);refine ae (ao (ae (ao ?_)));rw[aa5];refine ae ?_;have e2:([0:min vs.toArray.size vs.toArray.size]:acr).size=vs.length:=by simp[aa4]
 rw[e2];refine B4 st a c (λtk=>?_) vs.length 0 (bD _) (by omega)
 exact ao ⟨_,rfl,q tk⟩
end HS
namespace L2
open Spec PyProof.Rows W HS
def K2(K:YA):V->List V->Hp->VK->Prop:=λx vs H Q=>∃(l:E8) (ys:List FF) (y:FF) (j:Nat),x=.ref l/\vs=[.str y]/\aA K H l (ys.map V.str)/\ys[j]?=ih y/\(∀m,m<j->ys[m]? ≠ ih y)/\Q (.int j) H
theorem IC:lr X "tuple.index" (K2 X.K):=by
 rintro J s σ H x vs v us Q I b c ⟨l,ys,y,j,rfl,rfl,d,e,a,q⟩;cases b
 obtain⟨u,rfl,t,rfl⟩:=c.one;obtain⟨its,r,f,g⟩:=I.tuple d;exact IB f (o8 r) e a λtk=>⟨.int j,H,I.tok _,⟨tk,rfl⟩,q⟩
end L2
namespace L2
open W Spec PyProof.Rows
end L2
namespace L2
open W
end L2
namespace L2
open W Spec PyProof.Rows
def kW(h:Yl)(d:E8)(es:Array YU)(ep:Nat):Prop:= ∃o,h.get? d=ih o/\o.ExactDict/\o.data=.dict es ep
theorem kW.ty{es:Array YU}(x:kW s.heap d es ep):s.TypeIs (.ref d) "dict" :=let ⟨o,e,c,_⟩:=x;⟨o,e,c.1⟩
theorem Paired.get{α β:Type}{F:α->β->Prop}{l:ac α}{m:ac β}(h:VX F l m):∀{i:Nat}{a:α},l[i]?=ih a ->∃b,m[i]?=ih b/\F a b:=by
 induction h with
 |nil=>intro i a e;cases e
 |cons r _ c =>
  intro i a e;cases i with
  |zero=>cases e;exact⟨_,rfl,r⟩
  |succ i=>exact c (by simpa using e)
theorem Inv.K3{σ:ac (Option V)}{kvs:ac (List Key×V)}(I:Inv X J σ H s)(g:H d=ce kvs)(i:s.heap.get? d=ih o):Inv X J σ (upd H d (.bw o (.dT kvs))) s:=by
 have ok:bF X.prog X.w H s.heap d (.dT kvs):=I.aI d _ g;have a:∀{b:E8}{u:HO},H b=ih u->u ≠ .dT kvs->b≠d:=λe n z=>by rw[z,g]at e;exact n (cJ e).symm
 refine I.un (h':=s.heap) (t':=s.toks) ⟨λb f q _ _ _=>q,λb f q _ _ _=>⟨f.slots,q⟩,λb f q n _=>?_,λb f q _=>⟨f,q⟩,λb xs e=>?_,λb f u e=>?_,λb ps e=>⟨#[],?_⟩⟩ λb u e=>?_
 ·rw[ag (λz=>by rw[z,g]at n;cases n)];exact n
 ·rw[ag (a e (by intro z;cases z))];exact e
 ·rw[ag (a e (by intro z;cases z))];exact e
 ·rw[ag (a e (by intro z;cases z)),e];simp
 ·by_cases h:b=d
  ·subst h
   rw[af]at e;cases e
   exact⟨i,ok.ez (λ_ _ _ q=>q) (λc q=>by rw[ag (a q (by intro z;cases z))];exact q) λc xs q=>by rw[ag (a q (by intro z;cases z))];exact q⟩
  ·rw[ag h]at e
   exact(I.aI b u e).ez (λ_ _ _ q=>q) (λc q=>by rw[ag (a q (by intro z;cases z))];exact q) λc xs q=>by rw[ag (a q (by intro z;cases z))];exact q
theorem Inv.M'{σ:ac (Option V)}{kvs:ac (List Key×V)}(I:Inv X J σ H s)(i:H d=ih (.bw o (.dT kvs)))(h0:∀o u,X.gX d≠ih (.bw o u)):Inv X J σ (upd H d (.dT kvs)) s:=by
 obtain⟨_,ok⟩:=(show bF X.prog X.w H s.heap d (.bw o (.dT kvs)) from I.aI d _ i);have a:∀{b:E8}{u:HO},H b=ih u->u ≠ .bw o (.dT kvs)->b≠d:=λe n z=>by rw[z,i]at e;exact n (cJ e).symm
 have f:∀{b:E8},H b=none->upd H d (.dT kvs) b=none:=λ{b} e=>by rw[ag (λz=>by rw[z,i]at e;cases e)];exact e
 refine⟨I.ok,I.os,I.bare,⟨I.base.keep,I.base.slot,λb g e n k=>f (I.base.free b g e n k),I.base.there,λb xs e=>?_,λb g u e=>?_,λb ps e=>?_⟩,I.loc,I.cell,f I.free,λx c e=>f (I.eT x c e),λp l=>?_,λb u e=>?_,I.len⟩
 ·rw[ag (a (I.base.gm b xs e) (by intro z;cases z))];exact I.base.gm b xs e
 ·have h:b≠d:=λz=>h0 g u (z ▸ e)
  rw[ag h];exact I.base.gH b g u e
 ·obtain⟨j,e2⟩:=I.base.gW b ps e
  exact⟨j,by rw[ag (a e2 (by intro z;cases z))];exact e2⟩
 ·obtain⟨m,r,t⟩:=I.pin p l
  exact⟨m,f r,t⟩
 ·by_cases h:b=d
  ·subst h
   rw[af]at e;cases e
   exact ok.ez (λ_ _ _ q=>q) (λc q=>by rw[ag (a q (by intro z;cases z))];exact q) λc xs q=>by rw[ag (a q (by intro z;cases z))];exact q
  ·rw[ag h]at e
   exact(I.aI b u e).ez (λ_ _ _ q=>q) (λc q=>by rw[ag (a q (by intro z;cases z))];exact q) λc xs q=>by rw[ag (a q (by intro z;cases z))];exact q
def Na(H0:Hp)(t:TE):TE:=λσ H Q=>t σ H λv H'=>∃d o kvs,H' d=ih (.bw o (.dT kvs))/\(∀o u,H0 d≠ih (.bw o u))/\Q v (upd H' d (.dT kvs))
theorem K4(a:PE X e te):PE X e (Na X.gX te):=by
 intro J s σ H Q I h;exact aG (a J s σ H _ I h) λv s1 ⟨y,Y,b,c,d,o,kvs,e1,h0,q⟩=>⟨y,_,b.M' e1 h0,c,q⟩
end L2
namespace HT
open PyProof.Rows W
open AutoSeq1 (wpAny_loadPart')
end HT
namespace L2
open Spec PyProof.Rows W HT
end L2
namespace L2
open W Spec PyProof.Rows
end L2
namespace L2
open Spec PyProof.Rows W HS
def pG(k v:VD)(cA:i')(env:Zz):Zr Unit:=do
 let kv <- eval k env
 let vv <- holding [kv] (eval v env)
 match cA with
 |.ref d=>do
  standAt { k.pos with endLine:=v.pos.endLine,endCol:=v.pos.endCol }
  holding [kv,vv] (dictSet d kv vv)
 |_=>unsupported "internal:dictcomp"
theorem ID{k v:VD}:kA (.DictComp k v [⟨tg,iter,Qf,0⟩] scope pos) tg iter Qf (pG k v):=⟨rfl,λ_ _ _=>rfl,λ_ _ _ _ _ _=>⟨rfl,rfl⟩,λ_ _ _ _ _ _=>⟨rfl,rfl⟩⟩
def ui(Jz:It)(g:TG)(ti:TT)(Qk:E8->St->Hp->(Hp->Prop)->Prop)(e6:St)(Q:VK)(p:E8)(Y:Hp):Prop:=
 ∃W:Nat->Nat->St->Hp->Prop,(∃m,W 0 m e6 Y) /\∀i m τ H2,W i m τ H2 ->
  ((Jz.stop i H2/\Q (.ref p) H2)\/(Jz.go i H2 /\∀x H3,Jz.iF i H2 x H3->g x τ H3 λgv H4=>ti gv H4 λb H5 =>
   if b=true then Qk p gv H5 λH6=>∃m',m'<m/\W (i+1) m' gv H6
   else ∃m',m'<m/\W (i+1) m' gv H5))
def rA(X:Cx)(Qg:i'->Zz->Zr Unit)(Qk:E8->St->Hp->(Hp->Prop)->Prop):Prop:=
 ∀J s σ H (p:E8) (Q:Hp->Prop),Inv X J σ H s->Qk p σ H Q->wA X (Qg (.ref p) X.env) (λ_ s'=>∃H',Inv X J σ H' s'/\Q H') X.xe s
def Dd(wi:TI)(Qd:List (Option Nat))(g:TG)(ti:TT)(Qk:E8->St->Hp->(Hp->Prop)->Prop)(start:E8->HO):TE:=λσ H Q=>wi σ H λJz Y=>∀p,Y p=none->ui Jz g ti Qk (pick Qd σ) Q p (upd Y p (start p))
section
variable{Qg:i'->Zz->Zr Unit}{Qk:E8->St->Hp->(Hp->Prop)->Prop}
theorem HI{k:It}{g:TG}{Q:VK}{f:Zr i'}{start:E8->HO}(F:kA e tg iter Qf Qg)(n:X.calm=true)(S:b5 X.N X.env.scope N' Qd scope)
  (o:Inv X J σ H2 s2) (T:Turn X.prog X.w X.K tg k fp it tn) (st:tn 0 s2.heap) (r:∀b∈fp,f3 X J H2 b) (l:nR X f start)
  (c:∀s H fp,PG (cF X N' scope s H fp) tg g/\ja (cF X N' scope s H fp) Qf ti/\rA (cF X N' scope s H fp) Qg Qk)
  (t:∀p,H2 p=none->ui k g ti Qk (pick Qd σ) Q p (upd H2 p (start p))) (u:∀a C s',CompEnd X J σ Q a C s'->RR a C (.ok .next) s') :
  wA X f (λa v=>wA X (newFunctionEnv scope X.env.globals (eU X.env.cells scope.names []) [] X.env.qual none .none (ih X.env)) (λj x =>
   codeAny X.c5 X.A (.compStart e 0 (.ref it) a { j with scope:=relabel scope X.env }) (RR a j.locals) x) E v) E s2:=by
 refine Ap (y0:=()) (temI:=λ_ p σ H R=>Qk p σ H λH'=>R () H') F n S o T st r l (λs H fp=>⟨(c s H fp).1,(c s H fp).2.1,λJ s σ H p y Q I h=>aG ((c _ _ _).2.2 J s σ H p _ I h) λ_ s' ⟨H',z,q⟩=>⟨(),H',z,q⟩⟩) (λp B=>?_) u;obtain⟨W,h0,st⟩:=t p B;exact⟨λi m _ d H=>W i m d H,h0,λi m _ d H w=>st i m d H w⟩
theorem JH{wi:TI}{g:TG}{c:Zr i'}{start:E8->HO}(F:kA e tg iter Qf Qg)(i:eval e X.env=comprehension e scope X.env pos c false (eval iter X.env))(f:nR X c start)(l:X.calm=true)(S:b5 X.N X.env.scope N' Qd scope)(hi:PI X tg iter wi)
  (a:∀s H fp,PG (cF X N' scope s H fp) tg g/\ja (cF X N' scope s H fp) Qf ti/\rA (cF X N' scope s H fp) Qg Qk)
  (r:∀x,foldedSetIterable iter X.env x=pure x:=by intro _;rfl):PE X e (Dd wi Qd g ti Qk start):=by
 intro J s σ H Q I h;rw[i];refine Fn (use:=none) F.cl r (sb λn t=>pe I S t) S.kind (λx u w=>lM S.keys (by rw[<-w];exact u)) ?_
 refine aG (hi J s σ H _ I h) λv s1 h1=>aG h1 λG s2 h2=>?_;obtain⟨it,fp,tn,K,H2,e,y,T,j,z,B⟩:=h2;subst e;refine HI (RR:=λd C=>compPost X.c5 X.A X.xe none (EP X J σ Q) d C) F l S y T j z f a B ?_;rintro d C s' ⟨p,H',rfl,D,fC,⟨m,E⟩,q⟩;refine⟨m,E,λh' k=>⟨.ref p,H',?_,rfl,q⟩⟩;exact D.turned (it:=C) (t':=s'.toks) (λb o a e=>(k.2 b a).trans e) fC.1 fC.2.1 fC.2.2.2.1 fC.2.2.2.2.1 fC.2.2.2.2.2
end
section
variable{k v:VD}{tk:TE}
def u'(tk tv:TE)(p:E8)(σ:St)(H:Hp)(Q:Hp->Prop):Prop:=tk σ H λy Y=>tv σ Y λz H2=>∃kvs ks b,y=.ref b/\H2 b=ih (.tup (ks.map kV))/\H2 p=ih (.dT kvs)/\kvs.length<UP/\Q (upd H2 p (.dT (putK kvs ks z)))
theorem Nb(R:X.A.units+1<Y')(n:PE X k tk)(o:PE X v tv):rA X (pG k v) (u' tk tv):=by
 intro J s σ H p Q I h;unfold pG;refine ae (aG (n J s σ H _ I h) λu s1 ⟨y,Y,t,x,B⟩=>ae (er (aG (o J s1 σ Y _ t B) λr s2 S=>?_)));obtain⟨z,H2,a,C,kvs,ks,b,D,f,e,l,q⟩:=S;subst D;cases (show u=U6 b from x)
 refine ae (j7 (er ?_));obtain⟨E,F,xs,d,G⟩:=Dr a.aI e;have K:xs.length<=UP:=by rw[<-cN d];exact E
 have L:(putK kvs ks z).length<=UP:=by have:=lO kvs ks z;omega
 refine wpAny_dictSet_heap (hsz:=K) (knd:=tupleKind (cm X.prog X.w)) (k:=ks) (show X.A.units<Y' by omega) (l' a.aI f) G λh' m M=>⟨_,?_,q⟩
 obtain⟨g,es,ep,i,h2,N,O,_,P⟩:=m;refine tK a (by rw[e];exact VI) M ⟨g,i⟩ ⟨L,F,_,(d.put ks f C).keeps λc ys j=>?_,g,es,ep,i,h2,N,O,P⟩
 rw[ag (ar j e (λz=>nomatch z))];exact j
theorem Mf:nR X (newDict) (λ_=>.dT []):=⟨λJ s σ H E Q I h=>by
 refine fQ ?_;exact h _ (I.laid (a:=s.aj) (o:=.dT []) (t':=s.toks) (λ_ _ q=>a7 _ q) (aQ _) (BM s.heap I.big)) λb o e=>a7 _ e⟩
variable{wi:TI}{g:TG}
theorem IE(a:X.calm=true)(S:b5 X.N X.env.scope N' Qd scope)(hi:PI X tg iter wi)
  (b:∀s H fp,PG (cF X N' scope s H fp) tg g/\ja (cF X N' scope s H fp) Qf ti/\rA (cF X N' scope s H fp) (pG k v) (u' tk tv))
  (c:∀x,foldedSetIterable iter X.env x=pure x:=by intro _;rfl):PE X (.DictComp k v [⟨tg,iter,Qf,0⟩] scope pos) (Dd wi Qd g ti (u' tk tv) λ_=>.dT []):=
 JH ID rfl Mf a S hi b c
end
def rB(Pv:Nat->St->Hp->Prop)(n i m:Nat)(τ:St)(H:Hp):Prop:=m=n - i/\i<=n/\Pv i τ H
theorem JI{Pv:Nat->St->Hp->Prop}{n:Nat}{a:St}(h:i<n)(p:Pv (i+1) a H):∃b,b<n - i/\rB Pv n (i+1) b a H:=⟨n - (i+1),by omega,rfl,h,p⟩
theorem IF{g:TG}{Qk:E8->St->Hp->(Hp->Prop)->Prop}{Q:VK}(Pv:Nat->St->Hp->Prop)(h0:Pv 0 e6 Y)(l:∀i c H,Pv i c H->aA K H a xs)
  (n:∀i x c H,xs[i]?=ih x->Pv i c H->g x c H λf o=>ti f o λb j=>if b=true then Qk p f j λq=>∃d,d<xs.length - i/\rB Pv xs.length (i+1) d f q else ∃d,d<xs.length - i/\rB Pv xs.length (i+1) d f j)
  (r:∀c H,Pv xs.length c H->Q (.ref p) H):ui (je K a) g ti Qk e6 Q p Y:=by
 refine⟨rB Pv xs.length,⟨xs.length,by simp,bD _,h0⟩,?_⟩
 rintro i m c H ⟨rfl,hi,pv⟩;have h:=l i c H pv
 by_cases k:i<xs.length
 ·refine .inr ⟨⟨xs,xs[i],h,by simp[k]⟩,λx t s=>?_⟩
  obtain⟨e3,ex⟩:=s;subst e3;exact n i x c _ (ex xs h) pv
 ·have e:i=xs.length:=by omega
  subst e;exact .inl ⟨⟨xs,h,aQ _⟩,r c H pv⟩
end L2
namespace L2
open Spec PyProof.Rows
structure oh(K:U3)(x qual:FF)(st:Vj)(dv:i')(f:E8)(fd:Ye):Prop where
 ex:∃(oc:i') (od:Option E8) (kV Qc pm:i') (an:Option E8) (Qa ct:i') (Qm:Array (Option i')),
  fd=Yv x qual (c9 st) (bE st) (aJ st) dv kV Qc pm an Qa ct/\K.lookup f=ih ⟨oc,od,.func fd,Qm⟩/\Y7 K Qa qual=true
 kp:YG K (.ref f)=true
theorem oh.binds{T:E8}{ds:ac i'}{n:Nat}(F:oh K x qual st (.ref T) f fd)(a:K.lookup T=ih ⟨oc,od,.seq items n,Qm⟩)
  (h:∀(kV Qc pm:i') (an:ad E8) (Qa ct:i') (us:ac i'),(us++ds).length=ps.length ->∃k:ad (Array i')->Zr (List (FF×i')),(bindArgs (Yv x qual (c9 st) (bE st) (aJ st) (.ref T) kV Qc pm an Qa ct) ⟨us,[]⟩=seqItems? (.ref T) >>= k)/\k (ih items)=pure (ps.zip (us++ds))):Binds K fd ps ds:=by
 obtain⟨e,g,kV,Qc,pm,an,Qa,ct,d,rfl,lk,i⟩:=F.ex;intro s us b c;obtain⟨k,h1,h2⟩:=h kV Qc pm an Qa ct us c;exact .of_defaults (T:=T) rfl (b _ _ a) rfl h1 h2
theorem K5{kV:i'}(l:K.lookup f=ih ⟨oc,od,.func (Yv x qual (c9 st) (bE st) (aJ st) dv kV Qc pm an Qa ct),Qm⟩)
  (c:Y7 K Qa qual=true) (k:YG K (.ref f)=true):oh K x qual st dv f (Yv x qual (c9 st) (bE st) (aJ st) dv kV Qc pm an Qa ct):=⟨⟨oc,od,kV,Qc,pm,an,Qa,ct,Qm,rfl,l,c⟩,k⟩
end L2
namespace L2
open Spec PyProof.Rows W HT
theorem HJ(G:X.calm=true):cX X (.type "dict") (λxs H Q=>∃t vs kvs,xs=[.ref t]/\H t=a2 vs/\kM H vs kvs/\(kvs.map (·.1)).Nodup /\∀d,H d=none->Q (.ref d) (upd H d (.dK (gi kvs)))):=by
 rintro J s σ H xs us Q I r ⟨t,vs,kvs,rfl,K,pr,L,q⟩;obtain⟨u,rfl,c⟩:=vals1 r;cases c
 obtain⟨yc,its,m,⟨M,e,N,sl⟩,O,A,n,B,C⟩:=(show bF X.prog X.w H s.heap t (.tup vs) from I.aI t _ K);obtain rfl:M=.type "tuple" :=A;obtain rfl:e=none:=C;obtain rfl:N=.seq its.toArray n:=B;have D:vs.length=kvs.length:=cN pr;have xc:=m.length;have pairs:∀(i:Nat) p,kvs[i]?=ih p ->∃a x y,its.toArray[i]?=ih (.ref a)/\YJ s.heap a #[x,y]/\RelV (.str p.1) x/\RelV p.2 y:=by
  intro i p b;have hi:i<vs.length:=by rw[D];exact(b3.mp b).1
  obtain⟨zc,g,a,P,R⟩:=l5 pr (show vs[i]?=ih vs[i] from bz hi);rw[b]at g;cases g;obtain⟨u,S,c⟩:=m.get (show vs[i]?=ih (V.ref a) by rw[bz hi,P])
  cases c
  obtain⟨xd,T,U,_⟩:=I.tuple (aA.of R);obtain⟨x,y,rfl,W,Y⟩:=T.two;exact⟨a,x,y,by simpa using S,U,W,Y⟩
 have ch:∀i:Fin kvs.length,∃y,∃a x,its.toArray[i.1]?=ih (.ref a)/\YJ s.heap a #[x,y]/\RelV (.str kvs[i].1) x/\RelV kvs[i].2 y:=λi=>by
  obtain⟨a,x,y,h1,h2,Z,xa⟩:=pairs i.1 kvs[i] (bz i.2);exact⟨y,a,x,h1,h2,Z,xa⟩
 obtain⟨ys,E,j⟩:∃ys:ac i',ys.length=kvs.length /\∀(i:Nat) (hi:i<kvs.length),∃y,ys[i]?=ih y /\∃a x,its.toArray[i]?=ih (.ref a)/\YJ s.heap a #[x,y]/\RelV (.str kvs[i].1) x/\RelV kvs[i].2 y:=
  ⟨List.ofFn λi=>Z' (ch i),List.length_ofFn,λi hi=>⟨Z' (ch ⟨i,hi⟩),by simp[List.getElem?_ofFn,hi],acT (ch ⟨i,hi⟩)⟩⟩
 have F:((kvs.map λp=>(n' p.1:Key)).zip ys).map (·.1)=kvs.map λp=>(n' p.1:Key):=by
  rw[List.map_fst_zip];rw[aE];omega
 have l:((kvs.map λp=>(n' p.1:Key)).zip ys).length=kvs.length:=by rw[List.length_zip,aE];omega
 have inj:(kvs.map λp=>(n' p.1:Key)).Nodup:=by
  have:(kvs.map λp=>(n' p.1:Key))=(kvs.map (·.1)).map n':=by rw[c7];rfl
  rw[this,lG,m2];exact(lG.mp L).imp λh z=>h (gx z)
 refine Gk (I.ok.hd G) ((kvs.map λp=>(n' p.1:Key)).zip ys) (by rw[F];exact inj) (by rw[l];omega) (by rw[b2,l];omega) O (λi p b=>?_) λd h' tk dl e kp=>?_
 ·obtain⟨h1,h2⟩:=List.getElem?_zip_eq_some.mp b
  rw[cL]at h1;obtain⟨yd,ya,za⟩:=gz.mp h1;obtain⟨hi,rfl⟩:=b3.mp ya;obtain⟨y,f,a,x,xb,yb,zb,v⟩:=j i hi;rw[f]at h2;cases h2
  exact⟨a,x,xb,yb,by rw[<-za];exact mr (k:=n' kvs[i].1) zb⟩
 ·have big:=I.big
  refine⟨.ref d,_,I.laid (a:=d) (o:=.dK (gi kvs)) (t':=tk) kp dl (C7 (by unfold gi;rw[aE];omega) (iJ.mpr (aT (bM (eY big dl)))) ?_ e),rfl,q d (I.aI.fresh dl)⟩
  exact CG kvs ys E λi hi=>by
   obtain⟨y,f,a,x,_,_,_,v⟩:=j i hi;exact⟨y,f,v⟩
theorem IG:cX X (.builtin "len") (λxs H Q=>∃a kvs,xs=[.ref a]/\H a=bn kvs/\Q (.int kvs.length) H):=by
 rintro J s σ H xs us Q I r ⟨a,kvs,rfl,e,q⟩;obtain⟨u,rfl,b⟩:=vals1 r;cases b
 exact M0 I (.inl e) λt s' c=>⟨.int _,H,c,⟨_,rfl⟩,q⟩
theorem HK:cX X (.type "dict") (λxs H Q=>∃a,xs=[.ref a]/\H a=ce [] /\∀d,H d=none->Q (.ref d) (upd H d (.dT []))):=by
 rintro J s σ H xs us Q I r ⟨a,rfl,e,q⟩;obtain⟨u,rfl,p⟩:=vals1 r;cases p
 obtain⟨z,t,F,v,o,es,ep,x,y,i,A,K⟩:=(show bF X.prog X.w H s.heap a (.dT []) from I.aI a _ e);cases v
 have e0:es = #[]:=by simpa using A
 subst e0;have B:s.heap.DictOf (cm X.prog X.w) a []:=⟨o,#[],ep,x,y,i,by intro e C;simp at C,by first|exact .nil|trivial|constructor,fc⟩
 have big:=I.big;refine kt_call_dict t B (bD _) λh' j D=>?_;obtain⟨o',c,k,l,m,g,G,n,_⟩:=j;have e1:c.toList=[]:=List.length_eq_zero_iff.mp n.length;refine⟨.ref s.aj,_,I.laid (a:=s.aj) (o:=.dT []) (t':=s.toks) (λb o f=>?_) (aQ _) ⟨bD _,iJ.mpr (aT (bM big)),[],.nil,o',c,k,l,m,g,e1,fc⟩,rfl,q _ (I.aI.fresh (aQ _))⟩;have E:b≠s.aj:=bM (bx f);rw[D.2 b E];exact a7 _ f
end L2
namespace L2
open Spec PyProof.Rows W
theorem HL(l:E8)(items:Array i')(n:Nat)(b:E8)(a:Array i')(j:Nat)(k:ad E8)(sl:Array (Option i'))(o : ¬(!items.isEmpty&&YI (items.size+a.size))=true)(e:items.size<=UP)(f:items.size+a.size<=UP+1) :
  Meets (Yo.«list.extend» ⟨[.ref l,.ref b],[]⟩) (λ_ R s=>s.heap.get? l=ih { cls:=.type "list",dict:=none,data:=.seq items n,slots:= #[] }/\s.heap.get? b=ih { cls:=.type "tuple",dict:=k,data:=.seq a j,slots:=sl }/\R (.ok (.ret VQ)) { s with heap:=s.heap.update l (V0 λx=>x++a),toks:=s.toks }):=
 .of_wp λprog w A R s h=>by
  obtain⟨p,g,d,tk,os⟩:=s;obtain⟨c,m,h⟩:=h;have q:=aaf;have r:=Vu;have t:=ZQ;have u:=Vw;have v:=Vx;have i:(items++a).size<=UP+1:=by rw[rW];exact f
  wp_walk using (FR c rfl (hz:=e) (_hz':=i)),FU c,FU m
  exact⟨_,rfl,h⟩
def JJ:V->List V->Hp->VK->Prop:=λx vs H Q=>∃l b xs zs,x=.ref l/\vs=[.ref b]/\H l=ih (.lst xs)/\H b=ih (.tup zs)/\xs.length+zs.length<=UP/\Q .aO (upd H l (.lst (xs++zs)))
theorem HM:lr X "list.extend" JJ:=by
 rintro J s σ H x vs v us Q I m o ⟨l,b,xs,zs,rfl,rfl,d,p,D,q⟩;cases m
 obtain⟨u,rfl,t⟩:=o.one;cases t
 obtain⟨z,its,n,r,E,e⟩:=I.jQ d;obtain⟨G,a,f,⟨B,K,A,sl⟩,e2,g,y,i,c⟩:=(show bF X.prog X.w H s.heap b (.tup zs) from I.aI b _ p);simp only at g i c;subst g i c;have C:=f.length;have k:its.toArray.size+a.toArray.size<=UP:=by rw[b2,b2];omega
 have j : ¬ (!its.toArray.isEmpty&&YI (its.toArray.size+a.toArray.size))=true:=by
  rw[Jd k,Bool.and_false];exact cc
 refine kf F.slot_list_extend ⟨_,e,rfl⟩ F.entry_list_extend (F.args_list_extend_2 _ _)
  (HL l its.toArray n b a.toArray y none sl j (by rw[b2];omega) (by omega)) ⟨e,e2,?_⟩
 refine⟨.aO,_,I.qH (its':=its++a) d e (by simp) (r.append f) ?_,rfl,q⟩
 rw[bX];omega
end L2
namespace L2
open Spec PyProof.Rows W HT
def K6:V->List V->Hp->VK->Prop:=λx vs H Q=>∃(l:E8) (ys:List V) (ds:List UR) (y:V) (d dj:UR) (j:Nat),x=.ref l/\vs=[y]/\H l=ih (.lst ys)/\bL H ys ds/\Rep H y d/\Yj ds=true/\d.canLay0=true/\d.depth<=60/\ds[j]?=ih dj/\Yh dj d=true/\(∀m dm,m<j->ds[m]?=ih dm->Yh dm d=false)/\Q (.int j) H
theorem IH(S:X.A.units+64<Y'):lr X "list.index" K6:=by
 rintro J s σ H x vs v us Q I k G ⟨l,ys,ds,y,d,T,j,rfl,rfl,o,rs,K,p,L,U,t,B,C,q⟩;obtain⟨c,M⟩:=(Rep.lst o rs).reads I k;cases k
 obtain⟨u,rfl,N⟩:=G.one;obtain⟨bs,O⟩:=K.reads I N;obtain⟨z,its,n,r,P,e⟩:=I.jQ o;have a:∃c,ReadsAll s.heap its ds c:=by
  cases M with
  |list h1 h2 R a =>
   rw[e]at h1;cases h1
   cases R
   exact⟨_,by simpa using a⟩
 obtain⟨c,a⟩:=a;have w:=SeqAt.readsAll_map ds its c p a;have g:∀m (f:m<its.length),∃b,ds[m]?=ih b/\ZE s.heap its[m]=b:=λm f=>⟨_,by rw[<-w,cL,bz f];rfl,rfl⟩
 have i:j<its.length:=by
  have:=(b3.mp t).1;rw[<-w,aE]at this;exact this
 refine kf aa1 ⟨_,e,rfl⟩ aaQ (aaE _ _) (aal l its.toArray n none #[] u (λy=>Yh (ZE s.heap y) d) j (by simpa using i) ?_ ?_ ?_) ⟨e,?_,?_⟩
 ·rw[aW]at z;have:=P;omega
 ·obtain⟨b,h1,h2⟩:=g j i
  show Yh (ZE s.heap (its.toArray[j])) d=true;rw[wB,h2];rw[t]at h1;cases h1;exact B
 ·intro m f D
  have E:m<its.length:=by simpa using f
  obtain⟨b,h1,h2⟩:=g m E;show Yh (ZE s.heap (its.toArray[m])) d=false;rw[wB,h2];exact C m b D h1
 ·exact SeqAt.items_eqAt (by simpa using a) O p L (by omega)
 ·exact⟨.int j,H,I.tok _,⟨_,rfl⟩,q⟩
end L2
namespace L2
open Spec PyProof.Rows W
section
variable{p5 p6 p7:Pos}{b0 b1:Vj}{Qt:ac Vj}{tb:Ends->TS}{th:E8->TS}{ci:ad i'}
def pU(X:Cx)(hs:List Y9)(Eh:E8->E8->TS):Prop:= ∀(J:List (E8×YO)) (cI:St) (D:Ends) (s2:UN) (h4:Yl) (B:Yl) (a C':E8) (a0:i') (nn:Option i') (dx:Option E8) (H':Hp),
 YM B (X.env::X.outer) a (.ref C') a0 h4->s2.heap.UpToSlots h4->RD s2.heap h4->(∀h5,YM B (X.env::X.outer) a (.ref C') a0 h5->s2.heap.UpToSlots h5->RD s2.heap h5->Inv X J cI (upd H' a (gY nn C' dx a)) { s2 with heap:=h5 }) ->
 Eh a C' D cI (upd H' a (gY nn C' dx a))->wA X (handleBy (.ref a) X.env hs) (SP X J D) X.xe { s2 with heap:=h4 }
theorem II:pU X [] λ_ _ _ _ _=>False:=λ_ _ _ _ _ _ _ _ _ _ _ _ _ _ _ _ h=>h.elim
theorem Aw{F:ac Y9}{L:E8->E8->TS}(g:X.N.Nodup)(h:X.N[j]?=ih n)(e:X.env.scope.names.lookup n=ih .local)(h0:X.xe=λ_ _=>False)(za:X.env.frame=ih X.env.locals)
  (U:Gl X cn) (V:X.mg cn=ih (.ref C)) (M:fZ X.K C ci=true) (W:∀a,di (X.kL a) (b0::Qt) (th a)) (Y:pU X F L) (P:(cn==("__debug__" : FF))=false:=by decide) :
  pU X (.ExceptHandler (ih (.Name cn p5)) (ih n) (b0::Qt) p6::F) λa f D σ H=>(mroIn X.K f (.ref C)=ih true/\th a (Ey j D) (σ.set j (ih (.ref a))) H)\/(mroIn X.K f (.ref C)=ih false/\L a f D σ H):=by
 intro J R D s2 s B a f O Z dx H' k up t m w;have x:=m s k up t;obtain⟨xb,G,I⟩:=k.there;refine wpAny_handleBy_cons (codeAny_handlers_test ?_) (by intro z;cases z)
 refine l2 (x.kL a) U V ?_ P;rcases w with⟨y,S⟩|⟨y,w⟩
 ·refine w6 (K:=X.K) x.bU M y G I ?_
  refine codeAny_handlers_suite_as ?_;refine nJ sf (lands_againW (Q:=λ_ s'=>∃h',s'={ s2 with heap:=h' }/\YM B (X.env::X.outer) a (.ref f) O h'/\s.UpToSlots h') k λA l o=>⟨A,rfl,l,o⟩) λ_ yb ⟨A,e5,l,o⟩ T=>?_;subst e5;have i:=m A l (wF up o) (t.trans T);refine ny (X:=X.kL a) (v:=.ref a) (i.kL a) g h (.inl e) rfl (λzb xa=>?_) (.inr e);refine Fl (aG (W a J _ _ _ (Ey j D) xa S) λya xc z=>?_);cases ya with
  |next=>obtain⟨p,b,c,q⟩:=z;exact pT (c.uncaught (Jy:=X) i.ok) g h e λE d=>⟨_,b,d,q⟩
  |brk=>obtain⟨p,b,c,q⟩:=z;exact pT (c.uncaught (Jy:=X) i.ok) g h e λE d=>⟨_,b,d,q⟩
  |cont=>obtain⟨p,b,c,q⟩:=z;exact pT (c.uncaught (Jy:=X) i.ok) g h e λE d=>⟨_,b,d,q⟩
  |ret u=>obtain⟨v,p,b,c,r,q⟩:=z;exact pT (c.uncaught (Jy:=X) i.ok) g h e λE d=>⟨v,_,b,d,r,q⟩
 ·refine w6 (K:=X.K) x.bU M y G I ?_
  exact Y J R D s2 s B a f O Z dx H' k up t m w
def PY(Eh:E8->E8->TS)(D:Ends):St->XK:=λcI cls oa H2=>∃C a,cls=.ref C/\oa=ih a/\Eh a C D cI H2
theorem K7{h0:Y9}{q:ac Y9}{r:E8->E8->TS}(K:∀J D,di (X.hM J (PY r D)) (b1::body) (tb D))
  (n:X.stack=X.env::X.outer) (L:X.env.frame=ih X.env.locals) (M:pU X (h0::q) r):PS X (.Try (b1::body) (h0::q) [] [] p7) (Ma tb):=by
 intro J s σ H D I h;refine wpAny_Try_except ?_;refine h8 (K J D [] s σ H D I.hM h) (λN s1 z=>?_) λZ s2 z=>?_
 ·have c:=SP.kQ I.ok z
  cases N with
  |next=>exact oN c
  |brk=>exact c
  |cont=>exact c
  |ret u=>exact c
 ·obtain⟨C,H0,s1,t,a,O,i,j,dx,H',B,rfl,os,A,o,⟨ox,p,P,R⟩,E,v,new,xa,ya,eC,S,T⟩:=z
  cases eC
  cases S
  rw[n]at o;refine nJ CC (wpAny_looks_onW (Q:=λ_ s'=>∃h',s'={ s2 with heap:=h' }/\Heap.HeldW B (X.env::X.outer) a (.ref i) j X.env.locals h'/\s2.heap.UpToSlots h') (by rw[<-n];exact t.ok.frames) L o λk d f=>⟨k,rfl,d,f⟩) λ_ za ⟨k,e3,d,f⟩ F=>?_
  subst e3;refine nJ sf (wpAny_landsW (Q:=λ_ s'=>∃h',s'={ s2 with heap:=h' }/\YM B (X.env::X.outer) a (.ref i) j h'/\k.UpToSlots h') d λl e g=>⟨l,rfl,e,g⟩) λ_ xb ⟨l,U,e,g⟩ G=>?_;subst U;refine M J C D s2 l B a i j O dx H' e (wF f g) (F.trans G) (λw m V x=>?_) T;obtain⟨u,ok⟩:=E w m.1 V;obtain⟨W,e5,_⟩:=m.there;exact t.uv (s':={ s2 with heap:=w }) os (u.add v new) (CD ok v (KN m ⟨W,e5,(x.dict p e5).1.trans P,λy Y=>(x.dict p e5).2.trans (R y Y)⟩)) A (λb z=>absurd z (by simp))
end
end L2
namespace L2
open Spec PyProof.Rows W HT
theorem KV.get{vs:ac (Key×i')}(r:KV kvs vs){kv:Key×V}(h:kvs[i]?=ih kv):∃v,vs[i]?=ih (kv.1,v)/\RelV kv.2 v:=by
 induction r generalizing i with
 |nil=>cases h
 |@cons p q _ _ a _ b =>
  cases i with
  |zero=>cases h;exact⟨q.2,by rw[a.1];rfl,a.2⟩
  |succ i=>exact b h
end L2
namespace L2
open Spec PyProof.Rows W HS HT
section
variable{fs:ac E8}
theorem IJ(l:cq P w H h')(u:Un fs [] H H h h'):∀{d:ac E8}{ks:ac (FF×V)},VX (λa p=>h.get? a=none/\H a=none /\∃f x,h'.get? a=ih ({ cls:=.type "tuple",data:=.seq #[f,x] }:YO)/\RelV (.str p.1) f/\RelV p.2 x) d ks->d.Nodup ->
  ∃H2,Un fs [] H H2 h h'/\cq P w H2 h'/\ax H H2/\kM H2 (d.map V.ref) ks /\∀b,b ∉ d->H2 b=H b:=by
 intro d ks r
 induction r with
 |nil=>exact λ_=>⟨H,u,l,ax.refl _,.nil,λ_ _=>rfl⟩
 |@cons a p d ks e _ n =>
  intro g;obtain⟨s,g⟩:=d8.mp g;obtain⟨H2,t,m,v,pv,i⟩:=n g;obtain⟨n1,y,f,x,A,B,C⟩:=e;have h2:H2 a=none:=(i a s).trans y;have j:ax H2 (upd H2 a (.tup [.str p.1,p.2])):=λb o e=>by rw[ag (ay e h2)];exact e
  refine⟨upd H2 a (.tup [.str p.1,p.2]),t.add h2 n1,CD m h2 ⟨by rw[aW];show 2<=_;decide,[f,x],.cons B (.cons C .nil),_,A,rfl,_,rfl,rfl⟩,λb o e=>j _ _ (v _ _ e),.cons ⟨a,rfl,af⟩ (Paired.imp' (λ_ _ D=>by obtain⟨c,e,q⟩:=D;exact ⟨c,e,j _ _ q⟩) pv),λb k=>?_⟩
  rw[ag (show b≠a from λz=>k (by rw[z];exact aY)),i b λz=>k (bc _ z)]
end
theorem G7{ks:ac (FF×V)}(h:kM H vs ks):iq H 1 vs (ks.map λp=>([p.1],[p.2])):=by
 induction h with
 |nil=>exact .nil
 |cons e _ b=>obtain⟨a,e,q⟩:=e;exact .cons ⟨a,e,q,rfl⟩ b
theorem G8{kvs:ac (List FF×List V)}(h:iq H 1 vs kvs)(b:∀p∈kvs,∃k v,p=([k],[v])):∃ks,kM H vs ks/\kvs=ks.map λp=>([p.1],[p.2]):=by
 induction h with
 |nil=>exact⟨[],.nil,rfl⟩
 |cons e _ c =>
  obtain⟨a,e,q,_⟩:=e;obtain⟨k,v,rfl⟩:=b _ aY;obtain⟨ks,pv,d⟩:=c λp f=>b p (bc _ f);exact⟨(k,v)::ks,.cons ⟨a,e,q⟩ pv,by rw[d];rfl⟩
theorem Bi{α β:Type}{R:α->β->Prop}:∀{c:ac α}{bs:ac β},c.length=bs.length->(∀(i:Nat) a b,c[i]?=ih a->bs[i]?=ih b->R a b)->VX R c bs
 |[],[],_,_=>.nil
 |[],_::_,h,_=>by simp at h
 |_::_,[],h,_=>by simp at h
 |a::c,b::bs,h,f=>.cons (f 0 a b rfl rfl) (Bi (by simpa using h) λi x y d e=>f (i+1) x y (by simpa using d) (by simpa using e))
theorem Bj:∀a:ac E8,Vals (a.map V.ref) (a.map U6)
 |[]=>.nil
 |_::a=>.cons rfl (Bj a)
def Mg(te:TE):TE:=λσ H Q=>te σ H λv Y=>∃d ks,v=.ref d/\Y d=ih (.dK (gi ks))/\(ks.map (·.1)).Nodup/\ks.length<=63 /\∀D ys vA H2,Y D=none->ax Y H2->H2 D=ih (.lst ys)->kM H2 ys vA->vA.Perm ks->(vA.map (·.1)).Pairwise (λa b=>iH a b=true)->Q (.ref D) H2
theorem Gi{p:Pos}(xc:X.calm=true)(yc:Gl X "sorted")(zc:X.mg "sorted" = none)(xd:PE X e te)(h1:Ve [.Call (.Attribute e "items" Qe) [] [] Qi] X.env=[(false,eval (.Call (.Attribute e "items" Qe) [] [] Qi) X.env)]:=by rfl)
  (O:attributeBase e "items" X.env (eval e X.env)=eval e X.env:=by rfl) (P:(Qe.endLine==Qi.line)=true:=by rfl):PE X (.Call (.Name "sorted" p) [.Call (.Attribute e "items" Qe) [] [] Qi] [] pos) (Mg te):=by
 intro J s σ H Q I h;refine mV (kG I yc zc (show Vv "sorted" = ih (.builtin "sorted") by decide +kernel) ?_)
 refine E7 ?_ h1 rfl;rw[h1];refine aap (?_:UQ _ _ (eval (.Call (.Attribute e "items" Qe) [] [] Qi) X.env) _ _ _);refine wpAny_Call_method (T:= "dict") (id:= "dict.items") O rfl P aa2 wO aa0 (aG (xd J s σ H _ I h) λv s1 F=>?_);obtain⟨y,Y,j,yd,d,ks,zd,xe,ye,zi,q⟩:=F;subst zd;cases yd
 obtain⟨xj,ze,vs,B,g⟩:=uB j.aI xe;obtain⟨ep,R⟩:=g.dictAt;refine⟨g.typeIs,g.mapOf.noDict,?_⟩;refine method_meetsIn wO aaR rfl (Fh ⟨rfl,g.typeIs,aaF _,_,meets_dict_items (cm X.prog X.w) d ze,⟨vs,g⟩,?_⟩);refine aau ?_;have xf:(gi ks).length=vs.length:=B.length;have S:ks.length=vs.length:=by rw[<-xf];unfold gi;rw[aE]
 have yf:∀b f,s1.heap.get? b=ih f->(s1.heap.push { cls:=.type "dict_items",data:=.fields #[.ref d] }).get? b=ih f:=λb f z=>a7 _ z;have U:(s1.heap.push { cls:=.type "dict_items",data:=.fields #[.ref d] }).DictAt (cm X.prog X.w) d vs ep:=R.push _;have W:(s1.heap.push { cls:=.type "dict_items",data:=.fields #[.ref d] }).IsItemsView s1.heap.objs.size d:=⟨_,bW _ rfl,rfl,rfl⟩;have Z:s1.heap.objs.size<=(s1.heap.push { cls:=.type "dict_items",data:=.fields #[.ref d] }).objs.size:=by rw[hj];exact gc _
 refine Bh λA E yj zf xg=>?_;refine kdx_collect (knd:=cm X.prog X.w) (s:={ s1 with heap:=s1.heap.push { cls:=.type "dict_items",data:=.fields #[.ref d] } }) (zf (j.ok.hd xc)) W U (by rw[aW];omega) λh' tk l kp yg G=>?_
 have C:∀b f,s1.heap.get? b=ih f->h'.get? b=ih f:=λb f z=>kp _ _ (yf _ _ z);have fr:∀a∈l,s1.heap.get? a=none/\Y a=none:=λa n=>by
  have:s1.heap.objs.size<=a:=oM (Vy Z (G.above a n));exact⟨rN this,j.aI.fresh this⟩
 have pr:VX (λa (p:FF×V)=>s1.heap.get? a=none/\Y a=none /\∃m x,h'.get? a=ih ({ cls:=.type "tuple",data:=.seq #[m,x] }:YO)/\RelV (.str p.1) m/\RelV p.2 x) l ks:=by
  refine Bi (yg.trans S.symm) λi a p n r=>?_;obtain⟨zg,xh⟩:=fr a (eO n);obtain⟨m,k,x,e1,e2,e3⟩:=G.pairs i a n;obtain⟨v,yh,zh⟩:=B.get (i:=i) (kv:=(n' p.1,p.2)) (by unfold gi;rw[cL,r];rfl)
  rw[yh]at e1;cases e1
  exact⟨zg,xh,m,_,e3,tL (k:=n' p.1) e2,zh⟩
 obtain⟨H2,xi,xa,K,ya,_⟩:=IJ (j.aI.kept C) (Un.kept (fs:=X.fs) C) pr (G.rise.imp λh=>bM h);have za:((ks.map λp=>(([p.1],[p.2]):ac FF×List V)).map (·.1)).Nodup:=by
  rw[c7];have e:(ks.map ((λx=>x.1) ∘ λp=>(([p.1],[p.2]):ac FF×List V)))=(ks.map (·.1)).map λx=>[x]:=by rw[c7];rfl
  rw[e,lG,m2];exact(lG.mp ye).imp λh z=>h (FV z).1
 refine xg (l.map U6) _ H2 (l.map V.ref) _ 1 (j.un (t':=tk) xi xa) (Bj l) (G7 ya) (aQ _) za (by rw[aE];omega) λD t yi L pm xb M u=>?_
 obtain⟨yb,zb,rfl⟩:=G8 xb λp r=>by
  obtain⟨x,_,rfl⟩:=a6.mp (M.mem_iff.mp r);exact⟨_,_,rfl⟩
 have N:ax H2 (upd H2 D (.lst t)):=λb o e=>by rw[ag (ay e L)];exact e
 refine q D t yb _ (K.free L) (λb o e=>N _ _ (K _ _ e)) af (Paired.imp' (λ_ _ F=>by obtain⟨c,e,q⟩:=F;exact ⟨c,e,N _ _ q⟩) zb) ?_ ?_
 ·have:=M.map λp:ac FF×List V=>((p.1.headD "",p.2.headD V.aO):FF×V)
  rw[c7,c7,show((λp:ac FF×List V=>((p.1.headD "",p.2.headD V.aO):FF×V)) ∘ λp:FF×V=>(([p.1],[p.2]):ac FF×List V))=id from rfl,wQ,wQ]at this;exact this
 ·rw[c7,m2]at u
  rw[m2];exact u.imp λ{a b} h=>by rw[<-K1];exact h
end L2
namespace L2
open Spec PyProof.Rows W HT
theorem GD(d:E8)(a:(d==sysModules)=false) :
  MeetsIn P w (Yo.«dict.items» ⟨[.ref d],[]⟩) (λ_ R s=>(∃es ep,kW s.heap d es ep)/\R (.ok (.ret (.ref s.aj))) { s with heap:=s.heap.push { cls:=.type "dict_items",data:=.fields #[.ref d] } }):=
 .of_wp λA R s ⟨⟨es,ep,b⟩,h⟩=>by
  unfold Yo.«dict.items»;refine ae ?_;unfold acb;refine ae (wpAny_notOrdered_dict b.ty ?_);show UQ _ _ (pure d) _ _ s;refine ao ?_;show UQ _ _ (ZM d >>= _) _ _ s;unfold ZM;rw[aq (by rw[a];exact cc)]
  exact ae (ao (ae (fQ (ao ⟨_,rfl,h⟩))))
theorem G9{v:E8}{es:Array YU}(a:s.heap.IsItemsView v d)(x:kW s.heap d es ep)
  (g:Q (.ref s.heap.objs.size) { s with heap:=s.heap.push { cls:=.type "dict_itemiterator",data:=.fields #[.none,.bool false,.ref d,.int 0 0,.int es.size 0,.int ep 0,.none,.none] } }):UQ (U4 P w) A (pyIter (.ref v)) Q E s:=by
 obtain⟨i,e,h,f⟩:=id a;obtain⟨o,c,j,b⟩:=id x;refine wL a.typeIs aao (h9 aao a.typeIs F.entry_dict_items_iter ?_ (F.args_dict_items_iter_1 _));unfold Yo.«dict_items.__iter__»;refine ae (ao (ae ?_));unfold aaH;refine ae (lz e f (x:=.ref d) rfl (ao (ae ?_)));unfold aaG;refine ae (FW c b (ae (FX c b ?_)));simp only[show YR "dict_itemiterator" = true by decide,hA]
 refine fQ (ao ⟨_,rfl,"dict_itemiterator",_,⟨_,bW _ rfl,rfl⟩,r1.lookup,?_⟩) (by simp only[sizeOk,Zi,b2,bX,cV,jq,aW];omega)
 simpa [rawInt,Zi] using g
theorem G'{es:Array YU}{e:YU}{ok t:i'}{Q:ad i'->UN->Prop}(z:YT s.heap it d i es.size ep ok t)(x:kW s.heap d es ep)(T:es[i]?=ih e)
  (U:∀h',aak h' it d (i+1) es.size ep e.key e.val s.heap.objs.size->h'.get? s.heap.objs.size=ih { cls:=.type "tuple",data:=.seq #[e.key,e.val] }->h'.objs.size=s.heap.objs.size+1 ->
   (∀b o,b≠it->s.heap.get? b=ih o->h'.get? b=ih o)->Q (ih (.ref s.heap.objs.size)) { s with heap:=h' }):UQ (U4 P w) A (pyNext (.ref it)) Q E s:=by
 obtain⟨a,g,dr,tk,os⟩:=s;obtain⟨od,M,V,N⟩:=id x;have f:Zj ⟨a,g,dr,tk,os⟩ (.ref it) "dict_itemiterator" :=⟨_,z,rfl⟩;unfold pyNext;refine ae (rV (rQ (name:=YD "__next__") f r1
  (h9 r1 f VA ?_ (VB _))))
 refine ae (ao (ae (ae ?_)))
 first|refine ae (wR f (ao ?_))|refine ae (wU f (ao ?_))
 refine ae (FL z rfl ?_);simp only[show YR "dict_itemiterator" = true by decide,hA]
 show UQ _ _ (if (U6 d==VQ)=true then _ else _) _ _ _;rw[aq (show ¬ ((U6 d==VQ)=true) from cc)];refine ae (ao (ae (FW M N ?_)));rw[aq (by simp)]
 refine ae (ao (ae (FX M N ?_)));rw[aq (by simp)]
 refine ao ?_;simp only[show ¬ ((i:Int)<0) from by omega,kb,gy,T]
 refine ae ?_
 first|refine ae (wR f (ao ?_))|refine ae (wU f (ao ?_))
 refine ae (FY f ?_);show UQ _ _ (setField (.ref it) 3 (rawInt ((i:Int)+1)) >>= _) _ _ ⟨a,g,dr,tk,os⟩;refine ae (iO z (by simp) λc j k=>?_)
 replace k:Yk it a c:=k;replace j:YT c it d (i+1) es.size ep ok t:=by
  have e:((i+1:Nat):Int)=(i:Int)+1:=by omega
  unfold YT;rw[e];simpa [rawInt] using j
 have C:Zj ⟨c,g,dr,tk,os⟩ (.ref it) "dict_itemiterator" :=⟨_,j,rfl⟩;refine ae (er ?_);refine ae (FY C (ae (FY C ?_)));show UQ _ _ (Zm (.ref it) 6 e.key e.val) _ _ ⟨c,g,dr,tk,os⟩;unfold Zm;refine ae (wpAny_newTuple ?_);have l:YT (c.push { cls:=.type "tuple",data:=.seq #[e.key,e.val] }) it d (i+1) es.size ep ok t:=a7 _ j;generalize u:c.push { cls:=.type "tuple",data:=.seq #[e.key,e.val] }=r at l;have v:c.objs.size=a.objs.size:=k.1;have B:it<a.objs.size:=bx z;have O:r.get? a.objs.size=ih { cls:=.type "tuple",data:=.seq #[e.key,e.val] }:=by rw[<-u,<-v];exact bW _ rfl
 have R:r.objs.size=a.objs.size+1:=by rw[<-u,hj,v]
 have S:∀b o,b≠it->a.get? b=ih o->r.get? b=ih o:=λb o h e=>by rw[<-u];exact a7 _ (k.extBut b o h e)
 show UQ _ _ (Zh (.ref it) >>= _) _ _ ⟨r,g,dr,tk,os⟩;rw[v];clear u j k C v c;refine ae ?_;unfold Zh;refine ae (lz l rfl (x:=.none) rfl (ao ?_));simp only[hA];refine ae (lz l rfl (x:=ok) rfl (ae (lz l rfl (x:=t) rfl ?_)));refine ae (iO l (by simp) λJ D m=>?_)
 replace m:Yk it r J:=m;replace D:YT J it d (i+1) es.size ep e.key t:=D;refine ae (iO D (by simp) λK G n=>?_)
 replace n:Yk it J K:=n;replace G:YT K it d (i+1) es.size ep e.key e.val:=G;refine ae (iO G (by simp) λL H p=>?_)
 replace p:Yk it K L:=p;replace H:aak L it d (i+1) es.size ep e.key e.val a.objs.size:=H;refine ae (iO H (by simp) λy I q=>?_)
 replace q:Yk it L y:=q;replace I:aak y it d (i+1) es.size ep e.key e.val a.objs.size:=I;refine ae (wpAny_letGo (ao (ao ⟨_,rfl,ao (U y I ?_ ?_ ?_)⟩)))
 ·exact q.extBut _ _ (jj B) (p.extBut _ _ (jj B) (n.extBut _ _ (jj B) (m.extBut _ _ (jj B) O)))
 ·show y.objs.size=a.objs.size+1
  rw[q.1,p.1,n.1,m.1,R]
 ·exact λb o h e=>q.extBut b o h (p.extBut b o h (n.extBut b o h (m.extBut b o h (S b o h e))))
theorem Ha{es:Array YU}{ok h:i'}{Q:ad i'->UN->Prop}(i:A.handled=none)(e:YT s.heap it d es.size es.size ep ok h)(x:kW s.heap d es ep)
  (j:∀h',Heap.ExtBut it s.heap h'->Q none { s with heap:=h' }):UQ (U4 P w) A (pyNext (.ref it)) Q E s:=by
 obtain⟨od,f,k,g⟩:=id x;have c:s.TypeIs (.ref it) "dict_itemiterator" :=⟨_,e,rfl⟩;unfold pyNext;refine ae (rV (rQ (name:=YD "__next__") c r1
  (h9 r1 c VA ?_ (VB _))))
 refine ae (ao (ae (ae ?_)))
 first|refine ae (wR c (ao ?_))|refine ae (wU c (ao ?_))
 refine ae (FL e rfl ?_);simp only[show YR "dict_itemiterator" = true by decide,hA]
 show UQ _ _ (if (U6 d==VQ)=true then _ else _) _ _ s;rw[aq (show ¬ ((U6 d==VQ)=true) from cc)];refine ae (ao (ae (FW f g ?_)));rw[aq (by simp)]
 refine ae (ao (ae (FX f g ?_)));rw[aq (by simp)]
 refine ao ?_;simp only[show ¬ ((es.size:Int)<0) from by omega,kb,gy,r0 (aQ es.size)]
 refine ae ?_
 first|refine ae (wR c (ao ?_))|refine ae (wU c (ao ?_))
 show UQ _ _ (setField (.ref it) 2 .none >>= _) _ _ s;refine ae (wpAny_setField e rfl (by simp) ?_)
 show UQ _ _ (newExc (.type "StopIteration") [] >>= _) _ _ _;refine ae ?_;simp only[newExc,newTuple];refine ae (fQ ?_ (by size_fits))
 refine ae (m:=firstArgMember _ _) (wpAny_of_eq (a:=VQ) (by first|rfl|(simp only[firstArgMember];rfl)) ?_)
 refine fQ ?_ (by size_fits)
 simp only[raiseNew];refine ae (wpAny_handled ?_);rw[show A.in1.handled=none from i];refine ae (ao (wD ?_));refine ae (FO (T:= "StopIteration") (b:=true) ⟨_,bW _ rfl,rfl⟩ isSubtype_stop ?_);exact ao (j _ (((rZ ..).extBut.push _).push _))
def vB(d:E8)(o:YO)(kvs:List (List Key×V)):It:=⟨λi H=>H d=ih (.bw o (.dT kvs))/\i<kvs.length,λi H x H'=>∃t kv b,H t=none/\x=.ref t/\kvs[i]?=ih kv/\H b=ih (.tup (kv.1.map kV))/\H'=upd H t (.tup [.ref b,kv.2]),λi H=>H d=ih (.bw o (.dT kvs))/\kvs.length<=i⟩
theorem B5{kvs:ac (List Key×V)}{es:Array YU}(I:Inv X J σ H s)(g:H d=ih (.bw o (.dT kvs)))(f:o.data=.dict es ep) :
  s.heap.get? d=ih o/\o.ExactDict/\es.size=kvs.length /\∀(i:Nat) (kv:ac Key×V),kvs[i]?=ih kv ->∃(b:E8) (e:YU),es[i]?=ih e/\e.key=.ref b/\H b=a2 (kv.1.map kV)/\RelV kv.2 e.val:=by
 obtain⟨h1,z,y,xs,r,o',l,m,h2,h,a,c,n⟩:=(show bF X.prog X.w H s.heap d (.bw o (.dT kvs)) from I.aI d _ g);rw[h1]at h2;cases h2
 rw[f]at a;cases a
 refine⟨h1,h,by rw[size_of_entries c];exact(cN r).symm,λi kv j=>?_⟩
 obtain⟨x,k,e1,e2,e3⟩:=Paired.get r j;exact⟨x.2.1,_,by rw[entry_at c,k];rfl,rfl,e2,e3⟩
theorem JK(d it:E8)(yb:d≠it)(o:YO)(kvs:ac (List Key×V))(es:Array YU)(ep:Nat)(t:o.data=.dict es ep) :
  Turn P w K (.Tuple Qv n1 tp) (vB d o kvs) [it] it (λi h=>i<=kvs.length /\∃ok f,YT h it d i es.size ep ok f) where
 mem:=by simp
 obj:=λi h st b a=>by
  obtain rfl:b=it:=by simpa using a
  obtain⟨_,ok,f,h1⟩:=st;exact⟨_,h1,λv q=>by cases q⟩
 keep:=λi h h' st k=>by
  obtain⟨l,ok,f,h1⟩:=st;exact⟨l,ok,f,k it (by simp) _ h1⟩
 item:=by
  intro X y A B hc i J s σ H E I C st g;subst y A B;have fi:=C it (by simp)
  obtain⟨G,ok,f,h1⟩:=st;obtain⟨D,F,M,N⟩:=B5 I g.1 t;have zb:i<kvs.length:=g.2;have L:kvs[i]?=ih kvs[i]:=bz g.2;obtain⟨b,e,R,S,a,T⟩:=N i _ L;refine G' h1 ⟨o,D,F,t⟩ R λh' e1 U z1 W=>⟨_,rfl,?_⟩;refine wpAny_letOwnedTupleGo_items (s:={ s with heap:=h' }) e1 λu e2 O=>?_;have Q:it≠s.aj:=bM (bx h1);have j:∀b o,b≠it->s.heap.get? b=ih o->u.get? b=ih o:=λb o n1 q=>(O.2 b n1).trans (W b o n1 q);have Y:u.get? s.aj=ih { cls:=.type "tuple",data:=.seq #[e.key,e.val] }:=(O.2 _ (aT Q)).trans U;have p:H s.aj=none:=I.aI.fresh (aQ _);have lt:∀b o,s.heap.get? b=ih o->b≠s.aj:=λb o q=>bM (bx q);have g5:∀b o,H b=ih o->b≠it:=λb o q z=>by rw[z,fi.1]at q;cases q
  have x:∀b,b ∉ [it]->b≠it:=λb a z=>a (by simp[z])
  have Z:Inv X J σ (upd H s.aj (.tup [.ref b,kvs[i].2])) { s with heap:=u }:=by
   refine I.step (g':=s.gens) (d':=s.drawn) (t':=s.toks) (ch:=[it]) (λb a=>?_) (λb o _ _ hc q _=>j b o (x b hc) q) (λb o _ _ hc q _=>⟨o.slots,j b o (x b hc) q⟩)
    (λb o _ q n=>by rw[ag (lt b o q)];exact n) (λb o hc q=>⟨o,j b o (x b hc) q⟩) (λb ys q=>by rw[ag (ay q p)];exact q) (λb o v q=>by rw[ag (ay q p)];exact q)
    (λb ps q=>⟨#[],by rw[ag (ay q p),q];simp⟩) (λm xa=>?_) (λb o q=>?_) I.bare
   ·obtain rfl:b=it:=by simpa using a
    exact⟨fi.2.2.2.1,fi.2.1,fi.2.2.2.2.1,fi.2.2.2.2.2⟩
   ·obtain⟨o,es,ep,ya,r⟩:=xa
    exact⟨o,es,ep,j _ o (aT fi.2.1) ya,r⟩
   ·by_cases a:b=s.aj
    ·subst a
     rw[af]at q;cases q;exact⟨by rw[aW];show 2<=_;decide,[e.key,e.val],.cons (by rw[S];rfl) (.cons T .nil),_,Y,rfl,_,rfl,rfl⟩
    ·rw[ag a]at q
     refine(I.aI b o q).ez (λc v hc z=>?_) (λc z=>by rw[ag (ay z p)];exact z) λc ys z=>by rw[ag (ay z p)];exact z
     rcases hc with hc|hc
     ·subst hc;exact j _ v (g5 _ _ q) z
     ·exact j c v (g5 _ _ hc) z
  refine⟨.ref s.aj,_,Z,rfl,⟨s.aj,kvs[i],b,p,rfl,L,a,rfl⟩,⟨g.2,_,_,e2⟩,λb a=>?_⟩;obtain rfl:b=it:=by simpa using a
  rw[ag Q];exact fi.1
 done:=by
  intro X y A B hc i J s σ H E I C st g;subst y A B;have fi:=C it (by simp)
  obtain⟨G,ok,f,h1⟩:=st;obtain⟨D,F,M,N⟩:=B5 I g.1 t;have za:i=es.size:=by rw[M];exact Fy G g.2
  rw[za]at h1;exact Ha (I.ok.hd hc) h1 ⟨o,D,F,t⟩ λh' xb=>⟨rfl,I.turned (t':=s.toks) (λb o a q=>xb b o a q) fi.1 fi.2.1 fi.2.2.2.1 fi.2.2.2.2.1 fi.2.2.2.2.2⟩
 self:=λ_ _ _ _ _ st h=>by
  obtain⟨_,ok,f,h1⟩:=st;exact kcp_self h1 h
def K8(te:TE):TI:=λσ H R=>te σ H λv Y=>∃d kvs,v=.ref d/\Y d=ih (.dT kvs) /\∀o,R (vB d o kvs) (upd Y d (.bw o (.dT kvs)))
theorem IK(u:PE X e te)(n:attributeBase e "items" X.env (eval e X.env)=eval e X.env:=by rfl)(p:(Qe.endLine==Qi.line)=true:=by rfl) :
  PI X (.Tuple Qv n1 tp) (.Call (.Attribute e "items" Qe) [] [] Qi) (K8 te):=by
 intro J s σ H R I h;refine wpAny_Call_method (T:= "dict") (id:= "dict.items") n rfl p aa2 wO aa0 (aG (u J s σ H _ I h) λv s1 F=>?_);obtain⟨y,Y,g,x,d,kvs,A,e,q⟩:=F;subst A;cases x
 obtain⟨z,B,xs,r,o,es,ep,c,l,i,G,K⟩:=(show bF X.prog X.w Y s1.heap d (.dT kvs) from g.aI d _ e);have f:∀h:Yl,h.get? d=ih o->kW h d es ep:=λh e=>⟨o,e,l,i⟩;refine⟨(f s1.heap c).ty,?_,?_⟩
 ·intro a e
  cases e
  exact⟨o,c,l.2.1⟩
 refine method_meetsIn wO aaR rfl (Fh ⟨rfl,(f s1.heap c).ty,aaF _,_,GD d B,⟨es,ep,f _ c⟩,?_⟩);have j:d≠s1.aj+1:=λz=>absurd (bx c) (by rw[z];exact Nat.not_lt_of_le (gc _))
 have k:=a7 { cls:=.type "dict_items",data:=.fields #[.ref d] } c;refine G9 (s:={ s1 with heap:=s1.heap.push { cls:=.type "dict_items",data:=.fields #[.ref d] } }) ⟨_,bW _ rfl,rfl,rfl⟩ (f _ k) ?_;have m:(s1.heap.push { cls:=.type "dict_items",data:=.fields #[.ref d] }).objs.size=s1.aj+1:=hj ..;have C:Inv X J σ Y { s1 with heap:=(s1.heap.push { cls:=.type "dict_items",data:=.fields #[.ref d] }).push { cls:=.type "dict_itemiterator",data:=.fields #[.none,.bool false,.ref d,.int 0 0,.int es.size 0,.int ep 0,.none,.none] } }:=g.kept (t':=s1.toks) λb L z=>a7 _ (a7 _ z);have st:0<=kvs.length /\∃ok D,YT ((s1.heap.push { cls:=.type "dict_items",data:=.fields #[.ref d] }).push { cls:=.type "dict_itemiterator",data:=.fields #[.none,.bool false,.ref d,.int 0 0,.int es.size 0,.int ep 0,.none,.none] }) (s1.aj+1) d 0 es.size ep ok D:=
  ⟨bD _,.none,.none,by show acj _ (s1.aj+1)=_;rw[<-m];exact bW _ rfl⟩
 have t:Y (s1.aj+1)=none:=g.aI.fresh (gc _);show vq X J σ _ R (.ref (s1.heap.push { cls:=.type "dict_items",data:=.fields #[.ref d] }).objs.size) _;rw[m];refine⟨s1.aj+1,[s1.aj+1],_,_,_,rfl,C.K3 e (a7 _ k),JK d (s1.aj+1) j o kvs es ep i,st,λb E=>?_,q o⟩;obtain rfl:b=s1.aj+1:=by simpa using E
 exact g.hS (gc _) (by rw[ag (aT j)];exact t)
theorem Hb{kvs:ac (List Key×V)}{g:TG}{Q:VK}(Pv:Nat->List V->St->Hp->Prop)(h0:Pv 0 [] e6 (upd Y p (.lst [])))(q:∀i ys a H,Pv i ys a H->H p=bd ys/\H d=ih (.bw o (.dT kvs)))
  (r:∀i kv t b ys a H,kvs[i]?=ih kv->H t=none->H b=a2 (kv.1.map kV)->Pv i ys a H->g (.ref t) a (upd H t (.tup [.ref b,kv.2])) λf s=>ti f s λb h=>if b=true then te f h λy j=>j p=bd ys/\ys.length<UP /\∃c,c<kvs.length - i/\CW Pv kvs.length (i+1) c (ys++[y]) f (upd j p (.lst (ys++[y]))) else ∃c,c<kvs.length - i/\CW Pv kvs.length (i+1) c ys f h)
  (u:∀ys a H,Pv kvs.length ys a H->Q (.ref p) H):hQ (vB d o kvs) g ti te e6 Q p Y:=by
 refine⟨CW Pv kvs.length,⟨kvs.length,by simp,bD _,h0⟩,?_⟩
 rintro i m ys a H ⟨rfl,hi,pv⟩;obtain⟨v,k⟩:=q i ys a H pv;refine⟨v,?_⟩
 by_cases l:i<kvs.length
 ·refine .inr ⟨⟨k,l⟩,λx B w=>?_⟩
  obtain⟨t,kv,b,z,ex,n,A,e3⟩:=w;subst e3;subst ex;exact r i kv t b ys a _ n z A pv
 ·have e:i=kvs.length:=by omega
  subst e;exact .inl ⟨⟨k,aQ _⟩,u ys a H pv⟩
theorem Inv.Nc{σ:ac (Option V)}(I:Inv X J σ H s)(i:H d=ih (.bw o (.dK kvs)))(h0:∀o u,X.gX d≠ih (.bw o u)):Inv X J σ (upd H d (.dK kvs)) s:=by
 obtain⟨_,ok⟩:=(show bF X.prog X.w H s.heap d (.bw o (.dK kvs)) from I.aI d _ i);have a:∀{b:E8}{u:HO},H b=ih u->u ≠ .bw o (.dK kvs)->b≠d:=λe n z=>by rw[z,i]at e;exact n (cJ e).symm
 have f:∀{b:E8},H b=none->upd H d (.dK kvs) b=none:=λ{b} e=>by rw[ag (λz=>by rw[z,i]at e;cases e)];exact e
 refine⟨I.ok,I.os,I.bare,⟨I.base.keep,I.base.slot,λb g e n k=>f (I.base.free b g e n k),I.base.there,λb xs e=>?_,λb g u e=>?_,λb ps e=>?_⟩,I.loc,I.cell,f I.free,λx c e=>f (I.eT x c e),λp l=>?_,λb u e=>?_,I.len⟩
 ·rw[ag (a (I.base.gm b xs e) (by intro z;cases z))];exact I.base.gm b xs e
 ·have h:b≠d:=λz=>h0 g u (z ▸ e)
  rw[ag h];exact I.base.gH b g u e
 ·obtain⟨j,e2⟩:=I.base.gW b ps e
  exact⟨j,by rw[ag (a e2 (by intro z;cases z))];exact e2⟩
 ·obtain⟨m,r,t⟩:=I.pin p l
  exact⟨m,f r,t⟩
 ·by_cases h:b=d
  ·subst h
   rw[af]at e;cases e
   exact ok.ez (λ_ _ _ q=>q) (λc q=>by rw[ag (a q (by intro z;cases z))];exact q) λc xs q=>by rw[ag (a q (by intro z;cases z))];exact q
  ·rw[ag h]at e
   exact(I.aI b u e).ez (λ_ _ _ q=>q) (λc q=>by rw[ag (a q (by intro z;cases z))];exact q) λc xs q=>by rw[ag (a q (by intro z;cases z))];exact q
def Mh(H0:Hp)(t:TE):TE:=λσ H Q=>t σ H λv H'=>∃d o kvs,H' d=ih (.bw o (.dK kvs))/\(∀o u,H0 d≠ih (.bw o u))/\Q v (upd H' d (.dK kvs))
theorem JL(a:PE X e te):PE X e (Mh X.gX te):=by
 intro J s σ H Q I h;exact aG (a J s σ H _ I h) λv s1 ⟨y,Y,b,c,d,o,kvs,e1,h0,q⟩=>⟨y,_,b.Nc e1 h0,c,q⟩
end L2
namespace L2
open Spec PyProof.Rows W
theorem noFill_list_mul:fillsNumberSlot (.type "list") "mul" = pure false:=
 PySem.fillsNumberSlot_seq (id:= "list.__mul__") (r:=ih (.builtin "list.__rmul__")) FZ.lookup (by decide +kernel) VC.lookup (by decide +kernel)
theorem repeat_list:seqRepeat? (.type "list")=pure (ih (.builtin "list.__mul__")):=by
 unfold seqRepeat?;rw[aax (T:= "list") (name:= "__mul__") (id:= "list.__mul__") FZ.lookup (by decide +kernel),aax (T:= "list") (name:= "__rmul__") (id:= "list.__rmul__") VC.lookup (by decide +kernel)]
 rfl
theorem GG(a:Int)(t:Tok)(l:E8)(items:Array i')(n:Nat)(b:ad E8)(sl:Array (Option i')) :
  Meets (Yo.«int.__rmul__» ⟨[.int a t,.ref l],[]⟩) (λ_ R s=>s.heap.get? l=ih { cls:=.type "list",dict:=b,data:=.seq items n,slots:=sl }/\R (.ok (.ret Value.notImplemented)) s):=
 .of_wp λprog w A R s h=>by obtain⟨c,g,d,tk,os⟩:=s;obtain⟨e,h⟩:=h;wp_walk;exact⟨_,rfl,h⟩
theorem IL(l:E8)(v:i')(n:Nat)(a:ad E8)(sl:Array (Option i'))(t:Tok) :
  Meets (Yo.«list.__mul__» ⟨[.ref l,.int 8 t],[]⟩) (λ_ R s=>s.heap.get? l=ih { cls:=.type "list",dict:=a,data:=.seq #[v] n,slots:=sl }/\R (.ok (.ret (U6 s.aj))) { s with heap:=s.heap.push { cls:=Ys "list",data:=acp #[v,v,v,v,v,v,v,v] },toks:=s.toks }):=
 .of_wp λprog w A R s h=>by
  obtain⟨c,g,d,tk,os⟩:=s;obtain⟨b,h⟩:=h;have e:=aaf;have f:=Vu;have i:=ZQ;have j:=Vw;have k:=Vx
  wp_walk using FU b
  exact⟨_,rfl,h⟩
def Mi(K:U3):R2:=λx y H Q=>∃a v,x=.ref a/\y=.int 8/\ak K H a [v] /\∀p,H p=none->Q (.ref p) (upd H p (.lst [v,v,v,v,v,v,v,v]))
theorem JM:cu X (YB .Mult) (Mi X.K):=by
 rintro J s σ H x y v u Q I j k ⟨a,z,rfl,rfl,l,q⟩;cases j
 obtain⟨t,rfl⟩:=k;obtain⟨its,m,p,_⟩:=I.list l;obtain⟨c,rfl,d⟩:=vals1 m;obtain⟨⟨w,A,r,sl⟩,n,e,g,f,i⟩:=id p;simp only at g i f;subst g i f;refine wpAny_binaryOp_repeat_ref (T:= "list") (U:= "int") (by decide) ⟨_,e,rfl⟩ (λs'=>typeIs_int s' 8 t) noFill_list_mul PySem.F.fills_int_mul VE repeat_list PySem.F.slot_int_index.lookup
  (kf VE (typeIs_int s 8 t) PySem.F.entry_int_rmul (PySem.F.args_int_rmul_2 _ _) (GG 8 t a #[c] n none sl)
   ⟨e,rfl,⟨_,e,rfl⟩,kf FZ ⟨_,e,rfl⟩ PySem.F.entry_list_mul (PySem.F.args_list_mul_2 _ _) (IL a c n none sl t) ⟨e,?_⟩⟩)
 refine⟨.ref s.aj,_,I.laid (t':=s.toks) (o:=.lst [z,z,z,z,z,z,z,z]) (λb B q=>a7 _ q) (aQ _) ?_,rfl,q _ (I.aI.fresh (aQ _))⟩;exact⟨by show 8<=UP;rw[aW];decide,[c,c,c,c,c,c,c,c],_,.cons d (.cons d (.cons d (.cons d (.cons d (.cons d (.cons d (.cons d .nil))))))),bW _ rfl⟩
end L2
namespace L2
open W
abbrev pr(x:FF)(s:Vj):FF×Vj:=(x,s)
def rC(K:YA):List (FF×Vj)->Prop
 |[]=>True
 |p::r=>(∃f fd,aS K p.1 p.1 p.2 f fd/\nsIn K U9 p.1=ih (ih (.ref f)))/\rC K r
def va(K:YA):List FF->Prop
 |[]=>True
 |x::r=>nsIn K U9 x=ih none/\va K r
theorem Nd{p:FF×Vj}{r:ac (FF×Vj)}{kV:i'}(a:nsIn K U9 p.1=ih (ih (.ref f)))
  (l:K.lookup f=ih ⟨oc,od,.func (fnOf p.1 p.1 (c9 p.2) (bE p.2) (aJ p.2) .none kV Qc pm an Qa ct),Qm⟩) (c:codeIn K Qa p.1=true) (k:YF K (.ref f)=true) (g:rC K r):rC K (p::r):=⟨⟨f,_,ud l c k,a⟩,g⟩
theorem ma{p:FF×Vj}(X:K.In h)(G:h.Ns U9 mg)(d:∃f fd,aS K p.1 p.1 p.2 f fd/\nsIn K U9 p.1=ih (ih (.ref f)))(ps:ac FF)
  (b:∀(kV Qc pm:i') (an:ad E8) (Qa ct:i') (us:ac i'),us.length=ps.length->bindArgs (fnOf p.1 p.1 (c9 p.2) (bE p.2) (aJ p.2) .none kV Qc pm an Qa ct) ⟨us,[]⟩=pure (ps.zip us)) :
  ∃f fd,aS K p.1 p.1 p.2 f fd/\YF K (.ref f)=true/\Binds K fd ps []/\mg p.1=ih (.ref f):=by
 obtain⟨f,fd,F,a⟩:=d;exact⟨f,fd,F,F.kp,F.binds b,ju X G a⟩
theorem kR{n:Nat}(h:us.length=n+1):∃u r,us=u::r/\r.length=n:=by
 cases us with
 |nil=>cases h
 |cons u r=>exact⟨u,r,rfl,Nat.succ.inj h⟩
theorem qK(h:us.length=2):∃a b,us=[a,b]:=by
 obtain⟨a,r,rfl,h2⟩:=kR h;obtain⟨b,rfl⟩:=F0.mp h2;exact⟨a,b,rfl⟩
theorem vb(h:us.length=3):∃a b c,us=[a,b,c]:=by
 obtain⟨a,r,rfl,h2⟩:=kR h;obtain⟨b,c,rfl⟩:=qK h2;exact⟨a,b,c,rfl⟩
theorem mx(h:us.length=4):∃a b c d,us=[a,b,c,d]:=by
 obtain⟨a,r,rfl,h2⟩:=kR h;obtain⟨b,c,d,rfl⟩:=vb h2;exact⟨a,b,c,d,rfl⟩
theorem hG{p:FF×Vj}(X:K.In h)(G:h.Ns U9 mg)(d:∃f fd,aS K p.1 p.1 p.2 f fd/\nsIn K U9 p.1=ih (ih (.ref f)))(c:FF)
  (b:∀(kV Qc pm:i') (an:ad E8) (Qa ct a:i'),bindArgs (fnOf p.1 p.1 (c9 p.2) (bE p.2) (aJ p.2) .none kV Qc pm an Qa ct) ⟨[a],[]⟩=pure ([c].zip [a]):=by intros;rfl) :
  ∃f fd,aS K p.1 p.1 p.2 f fd/\YF K (.ref f)=true/\Binds K fd [c] []/\mg p.1=ih (.ref f):=ma X G d _ λkV Qc pm an Qa ct us h=>by obtain⟨a,rfl⟩:=F0.mp h;exact b _ _ _ _ _ _ _
theorem gg{p:FF×Vj}(X:K.In h)(G:h.Ns U9 mg)(d:∃f fd,aS K p.1 p.1 p.2 f fd/\nsIn K U9 p.1=ih (ih (.ref f)))(e g:FF)
  (b:∀(kV Qc pm:i') (an:ad E8) (Qa ct a c:i'),bindArgs (fnOf p.1 p.1 (c9 p.2) (bE p.2) (aJ p.2) .none kV Qc pm an Qa ct) ⟨[a,c],[]⟩=pure ([e,g].zip [a,c]):=by intros;rfl) :
  ∃f fd,aS K p.1 p.1 p.2 f fd/\YF K (.ref f)=true/\Binds K fd [e,g] []/\mg p.1=ih (.ref f):=ma X G d _ λkV Qc pm an Qa ct us h=>by obtain⟨a,c,rfl⟩:=qK h;exact b _ _ _ _ _ _ _ _
theorem l6{p:FF×Vj}(X:K.In h)(G:h.Ns U9 mg)(d:∃f fd,aS K p.1 p.1 p.2 f fd/\nsIn K U9 p.1=ih (ih (.ref f)))(g i j:FF)
  (b:∀(kV Qc pm:i') (an:ad E8) (Qa ct a c e:i'),bindArgs (fnOf p.1 p.1 (c9 p.2) (bE p.2) (aJ p.2) .none kV Qc pm an Qa ct) ⟨[a,c,e],[]⟩=pure ([g,i,j].zip [a,c,e]):=by intros;rfl) :
  ∃f fd,aS K p.1 p.1 p.2 f fd/\YF K (.ref f)=true/\Binds K fd [g,i,j] []/\mg p.1=ih (.ref f):=ma X G d _ λkV Qc pm an Qa ct us h=>by obtain⟨a,c,e,rfl⟩:=vb h;exact b _ _ _ _ _ _ _ _ _
theorem jE{p:FF×Vj}(X:K.In h)(G:h.Ns U9 mg)(d:∃f fd,aS K p.1 p.1 p.2 f fd/\nsIn K U9 p.1=ih (ih (.ref f)))(i j k l:FF)
  (b:∀(kV Qc pm:i') (an:ad E8) (Qa ct a c e g:i'),bindArgs (fnOf p.1 p.1 (c9 p.2) (bE p.2) (aJ p.2) .none kV Qc pm an Qa ct) ⟨[a,c,e,g],[]⟩=pure ([i,j,k,l].zip [a,c,e,g]):=by intros;rfl) :
  ∃f fd,aS K p.1 p.1 p.2 f fd/\YF K (.ref f)=true/\Binds K fd [i,j,k,l] []/\mg p.1=ih (.ref f):=ma X G d _ λkV Qc pm an Qa ct us h=>by obtain⟨a,c,e,g,rfl⟩:=mx h;exact b _ _ _ _ _ _ _ _ _ _
theorem K9{p:FF×Vj}(X:K.In h)(G:h.Ns U9 mg)(d:∃f fd,aS K p.1 p.1 p.2 f fd/\nsIn K U9 p.1=ih (ih (.ref f)))(j k l m n:FF)
  (b:∀(kV Qc pm:i') (an:ad E8) (Qa ct a c e g i:i'),bindArgs (fnOf p.1 p.1 (c9 p.2) (bE p.2) (aJ p.2) .none kV Qc pm an Qa ct) ⟨[a,c,e,g,i],[]⟩=pure ([j,k,l,m,n].zip [a,c,e,g,i]):=by intros;rfl) :
  ∃f fd,aS K p.1 p.1 p.2 f fd/\YF K (.ref f)=true/\Binds K fd [j,k,l,m,n] []/\mg p.1=ih (.ref f):=ma X G d _ λkV Qc pm an Qa ct us h=>by obtain⟨a,r,rfl,h2⟩:=kR h;obtain⟨c,e,g,i,rfl⟩:=mx h2;exact b _ _ _ _ _ _ _ _ _ _ _
theorem K'{p:FF×Vj}(X:K.In h)(G:h.Ns U9 mg)(d:∃f fd,aS K p.1 p.1 p.2 f fd/\nsIn K U9 p.1=ih (ih (.ref f)))(j k l m n o:FF)
  (b:∀(kV Qc pm:i') (an:ad E8) (Qa ct a c e g i q:i'),bindArgs (fnOf p.1 p.1 (c9 p.2) (bE p.2) (aJ p.2) .none kV Qc pm an Qa ct) ⟨[a,c,e,g,i,q],[]⟩=pure ([j,k,l,m,n,o].zip [a,c,e,g,i,q]):=by intros;rfl) :
  ∃f fd,aS K p.1 p.1 p.2 f fd/\YF K (.ref f)=true/\Binds K fd [j,k,l,m,n,o] []/\mg p.1=ih (.ref f):=ma X G d _ λkV Qc pm an Qa ct us h=>by obtain⟨u,s,rfl,t⟩:=kR h;obtain⟨a,r,rfl,h2⟩:=kR t;obtain⟨c,e,g,i,rfl⟩:=mx h2;exact b _ _ _ _ _ _ _ _ _ _ _ _
theorem CK(X:K.In h)(G:h.Ns U9 mg):∀{xs:ac FF},va K xs ->∀x∈xs,mg x=none
 |y::r,z,x,m=>by
  rcases bJ.mp m with rfl|q
  ·exact mg_none_of X G z.1
  ·exact CK X G z.2 x q
end L2
namespace L2
open Spec PyProof.Rows W
end L2
namespace L2
open W
abbrev tr(x q:FF)(s:Vj):FF×FF×Vj:=(x,q,s)
def rD(K:YA)(C:E8):List (FF×FF×Vj)->Prop
 |[]=>True
 |p::r=>(∃f fd,aS K p.1 p.2.1 p.2.2 f fd/\Meth K C p.1 f)/\rD K C r
def vC(K:YA)(C:E8):List FF->Prop
 |[]=>True
 |x::r=>Yt K (.ref C) x=ih none/\vC K C r
def CO(K:YA)(x:FF)(C:E8)(fl:List FF)(ms:List (FF×FF×Vj)):Prop:=(nsIn K U9 x=ih (ih (.ref C))/\plainGet K C Z1=true/\hasDictIn K C=true/\plainOver K C=true/\Yt K (.ref C) "__setattr__" = ih (ih (.builtin "object.__setattr__"))/\makesIn K C=true/\YF K (.ref C)=true/\vC K C fl)/\rD K C ms
def XO(K:YA)(x q fl:FF)(M:E8)(st:Vj):Prop:= ∃f fd,aS K "__init__" q st f fd/\Meth K M "__init__" f/\nsIn K U9 x=ih (ih (.ref M))/\fZ K M (ih (.ref f))=true
theorem Nf{p:FF×FF×Vj}{r:ac (FF×FF×Vj)}{kV:i'}(a:Yt K (.ref C) p.1=ih (ih (.ref f)))(i:isFn K (.ref f)=true)
  (l:K.lookup f=ih ⟨oc,od,.func (fnOf p.1 p.2.1 (c9 p.2.2) (bE p.2.2) (aJ p.2.2) .none kV Qc pm an Qa ct),Qm⟩) (c:codeIn K Qa p.2.1=true) (k:YF K (.ref f)=true) (g:rD K C r):rD K C (p::r):=⟨⟨f,_,ud l c k,a,i,k⟩,g⟩
theorem Ng{b:FF}{kV:i'}(n:nsIn K U9 x=ih (ih (.ref C)))(a:Yt K (.ref C) "__init__" = ih (ih (.ref f)))(i:isFn K (.ref f)=true)
  (l:K.lookup f=ih ⟨oc,od,.func (fnOf "__init__" q (c9 st) (bE st) (aJ st) .none kV Qc pm an Qa ct),Qm⟩) (c:codeIn K Qa q=true) (k:YF K (.ref f)=true) (e:fZ K C (ih (.ref f))=true):XO K x q b C st:=⟨f,_,ud l c k,⟨a,i,k⟩,n,e⟩
theorem cm_get(d:∃f fd,aS K x q st f fd/\Meth K C x f)(ps:ac FF)
  (b:∀(kV Qc pm:i') (an:ad E8) (Qa ct:i') (us:ac i'),us.length=ps.length->bindArgs (fnOf x q (c9 st) (bE st) (aJ st) .none kV Qc pm an Qa ct) ⟨us,[]⟩=pure (ps.zip us)) :
  ∃f fd,aS K x q st f fd/\Meth K C x f/\Binds K fd ps []:=by
 obtain⟨f,fd,F,a⟩:=d;exact⟨f,fd,F,a,F.binds b⟩
theorem La(d:∃f fd,aS K x q st f fd/\Meth K C x f)(c:FF)(b:∀(kV Qc pm:i') (an:ad E8) (Qa ct a:i'),bindArgs (fnOf x q (c9 st) (bE st) (aJ st) .none kV Qc pm an Qa ct) ⟨[a],[]⟩=pure ([c].zip [a]):=by intros;rfl):∃f fd,aS K x q st f fd/\Meth K C x f/\Binds K fd [c] []:=cm_get d _ λkV Qc pm an Qa ct us h=>by obtain⟨a,rfl⟩:=F0.mp h;exact b _ _ _ _ _ _ _
theorem nK(d:∃f fd,aS K x q st f fd/\Meth K C x f)(e g:FF)(b:∀(kV Qc pm:i') (an:ad E8) (Qa ct a c:i'),bindArgs (fnOf x q (c9 st) (bE st) (aJ st) .none kV Qc pm an Qa ct) ⟨[a,c],[]⟩=pure ([e,g].zip [a,c]):=by intros;rfl):∃f fd,aS K x q st f fd/\Meth K C x f/\Binds K fd [e,g] []:=cm_get d _ λkV Qc pm an Qa ct us h=>by obtain⟨a,c,rfl⟩:=qK h;exact b _ _ _ _ _ _ _ _
theorem tO(d:∃f fd,aS K x q st f fd/\Meth K C x f)(g i j:FF)(b:∀(kV Qc pm:i') (an:ad E8) (Qa ct a c e:i'),bindArgs (fnOf x q (c9 st) (bE st) (aJ st) .none kV Qc pm an Qa ct) ⟨[a,c,e],[]⟩=pure ([g,i,j].zip [a,c,e]):=by intros;rfl):∃f fd,aS K x q st f fd/\Meth K C x f/\Binds K fd [g,i,j] []:=cm_get d _ λkV Qc pm an Qa ct us h=>by obtain⟨a,c,e,rfl⟩:=vb h;exact b _ _ _ _ _ _ _ _ _
theorem tP(d:∃f fd,aS K x q st f fd/\Meth K C x f)(i j k l:FF)(b:∀(kV Qc pm:i') (an:ad E8) (Qa ct a c e g:i'),bindArgs (fnOf x q (c9 st) (bE st) (aJ st) .none kV Qc pm an Qa ct) ⟨[a,c,e,g],[]⟩=pure ([i,j,k,l].zip [a,c,e,g]):=by intros;rfl):∃f fd,aS K x q st f fd/\Meth K C x f/\Binds K fd [i,j,k,l] []:=cm_get d _ λkV Qc pm an Qa ct us h=>by obtain⟨a,c,e,g,rfl⟩:=mx h;exact b _ _ _ _ _ _ _ _ _ _
theorem Lb(d:∃f fd,aS K x q st f fd/\Meth K C x f)(i j k l m:FF)(b:∀(kV Qc pm:i') (an:ad E8) (Qa ct a c e g n:i'),bindArgs (fnOf x q (c9 st) (bE st) (aJ st) .none kV Qc pm an Qa ct) ⟨[a,c,e,g,n],[]⟩=pure ([i,j,k,l,m].zip [a,c,e,g,n]):=by intros;rfl):∃f fd,aS K x q st f fd/\Meth K C x f/\Binds K fd [i,j,k,l,m] []:=cm_get d _ λkV Qc pm an Qa ct us h=>by obtain⟨p,s,rfl,o⟩:=kR h;obtain⟨a,c,e,g,rfl⟩:=mx o;exact b _ _ _ _ _ _ _ _ _ _ _
theorem DY(F:aS K x q st f fd)(d e:FF)(b:∀(kV Qc pm:i') (an:ad E8) (Qa ct a c:i'),bindArgs (fnOf x q (c9 st) (bE st) (aJ st) .none kV Qc pm an Qa ct) ⟨[a,c],[]⟩=pure ([d,e].zip [a,c]):=by intros;rfl):Binds K fd [d,e] []:=F.binds λkV Qc pm an Qa ct us h=>by obtain⟨a,c,rfl⟩:=qK h;exact b _ _ _ _ _ _ _ _
theorem pV:∀{xs:ac FF},vC K C xs ->∀{x},x∈xs->Yt K (.ref C) x=ih none
 |y::r,z,x,m=>by
  rcases bJ.mp m with rfl|q
  ·exact z.1
  ·exact pV z.2 q
end L2
namespace L2
def dU(k:Nat):List (List FF)->FF->Option (Nat×FF)
 |[],_=>none
 |[]::rest,n=>dU (k+1) rest n
 |(x::r)::rest,n=>if n∈x::r/\x≠n then ih (k,x) else dU (k+1) rest n
theorem w4{k:Nat}(h : ¬ (n∈r/\r.head? ≠ ih n)):dU k (r::rest) n=dU (k+1) rest n:=by
 cases r with
 |nil=>rfl
 |cons x r=>exact aq λz=>h ⟨z.1,by simpa using z.2⟩
theorem GH{k:Nat}(h:n∈x::r/\x≠n):dU k ((x::r)::rest) n=ih (k,x):=by
 exact aF h
def hE(all:List (List FF)):List (List FF)->Option FF
 |[]=>none
 |[]::rest=>hE all rest
 |(x::_)::rest=>if (dU 0 all x).isNone then ih x else hE all rest
def fq(rest:List (List FF)):Option FF:=hE rest rest
def without(n:FF)(rest:List (List FF)):List (List FF):=rest.map λr=>r.filter λy=>!decide (y=n)
def total(rest:List (List FF)):Nat:=(rest.map Zk).sum
def cx:Nat->List (List FF)->Option (List FF)
 |0,_=>ih []
 |k+1,rest=>if (rest.any λr=>!r.isEmpty)=true then (match fq rest with|none=>none|some n=>(cx k (without n rest)).map (n :: ·)) else ih []
theorem sd{all:ac (List FF)}{n:FF}:∀{rest:ac (List FF)},hE all rest=ih n ->∃r∈rest,r.head?=ih n
 |[],h=>by cases h
 |[]::rest,h=>let ⟨r,a,e⟩:=sd (rest:=rest) h;⟨r,bc _ a,e⟩
 |(x::t)::rest,h=>by
  have h:(if (dU 0 all x).isNone then ih x else hE all rest)=ih n:=h;split at h
  ·cases h;exact⟨n::t,aY,rfl⟩
  ·obtain⟨r,a,e⟩:=sd (rest:=rest) h
   exact⟨r,bc _ a,e⟩
theorem w2(n:FF):∀rest:ac (List FF),total (without n rest)<=total rest
 |[]=>aQ _
 |r::rest=>by
  have h1:=w2 n rest;have h2:=gR (λy=>!decide (y=n)) r;simp only[total,without,b4,wV]at *;omega
theorem lK{n:FF}:∀{rest:ac (List FF)},(∃r∈rest,n∈r)->total (without n rest)<total rest
 |[],⟨_,h,_⟩=>by simp at h
 |r::rest,⟨q,hq,a⟩=>by
  have h1:=w2 n rest;have h2:=gR (λy=>!decide (y=n)) r;rcases bJ.mp hq with rfl|hq
  ·have b:(q.filter λy=>!decide (y=n)).length<q.length:=by
    exact List.length_filter_lt_length_iff_exists.mpr ⟨n,a,by simp⟩
   simp only[total,without,b4,wV]at *;omega
  ·have b:=lK ⟨q,hq,a⟩
   simp only[total,without,b4,wV]at *;omega
theorem le_total{r:ac FF}:∀{rest:ac (List FF)},r∈rest->r.length<=total rest
 |[],h=>by simp at h
 |q::rest,h=>by
  have e:total (q::rest)=q.length+total rest:=by simp[total]
  rcases bJ.mp h with rfl|h
  ·omega
  ·have:=le_total h
   omega
theorem Bl(h:(rest.any λr=>!r.isEmpty)=true):0<total rest:=by
 obtain⟨r,a,e⟩:=lC.mp h;have h1:0<r.length:=by cases r with
  |nil=>simp at e
  |cons _ _=>simp
 have h2:r.length<=total rest:=le_total a;omega
def dY(H:Hp)(vs:List V)(rows:List (List FF)):Prop:=VX (λy r=>∃a,y=V.ref a/\H a=ih (.tup (r.map V.str))) vs rows
theorem dY.same(h:dY H vs rows)(s:ax H H'):dY H' vs rows:=Paired.imp' (λ_ _ b=>by obtain⟨a,e,q⟩:=b;exact ⟨a,e,s _ _ q⟩) h
theorem dY.length(h:dY H vs rows):vs.length=rows.length:=cN h
theorem dY.get{H:Hp}:∀{vs:ac V}{rows:ac (List FF)}{i:Nat}{v:V},dY H vs rows->vs[i]?=ih v ->∃a r,v=V.ref a/\rows[i]?=ih r/\H a=a2 (r.map V.str)
 |_,_,i,v,.nil,e=>by simp at e
 |_,_,0,v,.cons p _,e=>by
  obtain⟨a,rfl,q⟩:=p;simp at e;subst e;exact⟨a,_,rfl,rfl,q⟩
 |_,_,i+1,v,.cons _ t,e=>by
  obtain⟨a,r,e1,e2,q⟩:=dY.get (i:=i) t (by simpa using e)
  exact⟨a,r,e1,by simpa using e2,q⟩
theorem dY.append{H:Hp}{vs:ac V}{rows:ac (List FF)}{a:E8}{r:ac FF}:dY H vs rows->H a=a2 (r.map V.str)->dY H (vs++[.ref a]) (rows++[r])
 |.nil,q=>.cons ⟨a,rfl,q⟩ .nil
 |.cons p t,q=>.cons p (dY.append t q)
end L2
namespace eG
open L2 W
def top(i:Nat):Vj:=PySem.Challenge.pw_parentlines_k44_whole_asked_as_reckoned.main.body.getD i (.Pass ⟨0,0,0,0⟩)
abbrev pH:Vj:=inClass (top 7) 0
abbrev pI:Vj:=inClass (top 8) 0
abbrev nL:Vj:=top 10
abbrev tQ:Vj:=top 11
abbrev sv:Vj:=top 13
abbrev sZ:Vj:=top 14
abbrev nM:Vj:=top 16
abbrev qd:Vj:=top 17
abbrev n9:Vj:=top 18
abbrev mc:Vj:=top 21
abbrev nq:Vj:=top 22
abbrev s6:Vj:=top 24
abbrev sM:Vj:=top 25
abbrev tR:Vj:=top 26
abbrev nA:Vj:=top 27
abbrev uj:Vj:=top 28
abbrev nB:Vj:=top 30
abbrev tS:Vj:=top 31
abbrev nC:Vj:=top 32
abbrev lQ:Vj:=top 34
abbrev sj:Vj:=top 35
abbrev s7:Vj:=top 36
abbrev kN:Vj:=top 37
abbrev uE:Vj:=top 38
abbrev kr:Vj:=top 39
abbrev vc:Vj:=top 41
abbrev nU:Vj:=top 42
abbrev i2:Vj:=top 43
abbrev ig:Vj:=top 44
abbrev nV:Vj:=top 45
abbrev sN:Vj:=top 46
abbrev nD:Vj:=top 47
abbrev tT:Vj:=top 48
abbrev tU:Vj:=top 49
abbrev uF:Vj:=top 50
abbrev nW:Vj:=top 51
abbrev uG:Vj:=top 52
abbrev tV:Vj:=top 53
abbrev nX:Vj:=top 54
abbrev uH:Vj:=top 55
abbrev tW:Vj:=top 56
abbrev vD:Vj:=top 57
abbrev nY:Vj:=top 58
abbrev nZ:Vj:=top 59
abbrev kC:Vj:=top 60
abbrev uI:Vj:=top 61
abbrev vE:Vj:=top 62
abbrev qL:Vj:=top 63
abbrev uJ:Vj:=inClass uj 0
abbrev uK:Vj:=inClass uj 1
abbrev uL:Vj:=inClass uj 2
abbrev uk:Vj:=inClass kN 0
abbrev sx:Vj:=inClass kN 1
abbrev uM:Vj:=inClass kN 2
abbrev n0:Vj:=inClass kN 4
abbrev uN:Vj:=inClass kN 5
abbrev tX:Vj:=inClass kN 6
abbrev nN:Vj:=inClass kN 7
abbrev um:Vj:=inClass uE 0
abbrev tY:Vj:=inClass uE 1
abbrev tZ:Vj:=inClass uE 2
structure dq(mg:FF->Option i'):Prop where
 len:mg "len" = none
 max:mg "max" = none
 min:mg "min" = none
 abs:mg "abs" = none
 range:mg "range" = none
 any:mg "any" = none
 all:mg "all" = none
 list:mg "list" = none
 tuple:mg "tuple" = none
 PZ:mg "enumerate" = none
theorem j4{y:FF}:cZ ((y::r).map V.str) 0=ih (V.str y):=(show cZ ((y::r).map V.str) ((0:Nat):Int)=ih (V.str y) from cw rfl)
theorem aK{q:E8}{o:HO}(a:H q=none):ax H (upd H q o):=λb u e=>by rw[ag (ay e a)];exact e
theorem JN{g:TG}{D:Ends}(Pv:Nat->St->Hp->Prop)(h0:Pv 0 σ H)(h:∀i σ H,i<=xs.length->Pv i σ H->ak K H a xs)
  (j:∀i x σ H t,xs[i]?=ih x->Pv i σ H->H t=none->g (.ref t) σ (upd H t (.tup [.int i,x])) λb H2=>tb { D with nx:=Pv (i+1),ct:=Pv (i+1),bk:=D.nx } b H2) (k:∀σ H,Pv xs.length σ H->D.nx σ H) :
  ∃W:Nat->Nat->St->Hp->Prop,(∃m,W 0 m σ H) /\∀i m σ H,W i m σ H ->
   ((oD K a).stop i H/\D.nx σ H)\/((oD K a).go i H /\∃N:St->Hp->Prop,(∀c H',N c H' ->∃f,f<m/\W (i+1) f c H') /\∀x H',(oD K a).iF i H x H'->g x σ H' λb H2=>tb { D with nx:=N,ct:=N,bk:=D.nx } b H2):=by
 refine⟨λi m σ H=>m=xs.length - i/\i<=xs.length/\Pv i σ H,⟨xs.length,by simp,bD _,h0⟩,?_⟩
 rintro i m σ H ⟨rfl,hi,p⟩;have q:=h i σ H hi p
 by_cases d:i<xs.length
 ·refine .inr ⟨⟨xs,xs[i],q,by simp[d]⟩,Pv (i+1),λc H' l=>⟨xs.length - (i+1),by omega,rfl,d,l⟩,λx H' y=>?_⟩
  obtain⟨t,v,n,rfl,o,rfl⟩:=y;exact j i v σ _ t (o xs q) p n
 ·have e:i=xs.length:=by omega
  subst e;exact .inl ⟨⟨xs,q,aQ _⟩,k σ H p⟩
inductive qe(vs:List V)(H:Hp)(Q:VK)(E:XK):Prop
 |mk{l:E8}{ws:List V}{rows:List (List FF)}{n:FF}(_:vs=[.ref l,.str n])(_:H l=ih (.lst ws))(_:dY H ws rows)(_:(dU 0 rows n=none ->∀H',ax H H'->Q .aO H'))(_:(∀i x,dU 0 rows n=ih (i,x) ->∀p H',H p=none->ax H H'->H' p=ih (.tup [.int i,.str x,.str n])->Q (.ref p) H')):qe vs H Q E
theorem uo:bj ["rest","name","at","row"] ["rest","name"] (aJ n9):=bB
theorem Lc(F:aS K "wish_against" "wish_against" n9 f fd)(B:dq mg):aU P w K mg base aH 1 f fd ["rest","name"] qe:=by
 refine F.bI uo λQa A outer s H vs Q E R h=>?_
 ·obtain @⟨l,ws,rows,n,rfl,q,u,qn,L⟩:=h
  intro X;refine⟨_,aw (eK d9 rfl (Kx rfl B.PZ (aa (pv 0) ai)) (ik rfl (c2 (bf 2 uo.nd) (c2 (bf 3 uo.nd) gB)))
    (aB (bo (PW.pt (pw_and (br jw (pv 1) (pv 3) rfl) (pw_and1 (br jK (aV bp (pv 3) au) (pv 1) (bC _)))))
     (aB (aZ (b9 (aa (pv 2) (aa (aV bp (pv 3) au) (aa (pv 1) ai)))))) bG)))
   (aB (aZ dV)),?_⟩
  refine ah rfl ⟨l,rfl,⟨_,ak.of q⟩,JN (xs:=ws) (λi σ Y=>∃j k:ad V,σ=[am l,ih (.str n),j,k]/\ax H Y/\dU i (rows.drop i) n=dU 0 rows n) ⟨none,none,rfl,ax.refl _,by simp⟩ (λi σ Y _ S=>by obtain⟨_,_,_,z,_⟩:=S;exact ak.of (z _ _ q)) ?_ ?_⟩
  ·rintro i x σ Y t M ⟨j,k,rfl,m,b⟩ N
   obtain⟨a,r,rfl,D,G⟩:=u.get M;have c:ax H (upd Y t (.tup [.int i,.ref a])):=m.trans (aK N);have d:=c _ _ G;have I:rows.drop i=r::rows.drop (i+1):=by
    have hi:=(b3.mp D);obtain⟨J,rfl⟩:=hi;exact lB J
   rw[I]at b;refine⟨t,_,rfl,aA.of af,rfl,_,_,rfl,_,_,rfl,rfl,?_⟩;refine aX rfl rfl ⟨a,_,rfl,.inr (aA.of d),rfl,jy _,_,rfl,?_⟩;rw[aq cc,iT];refine bY (λe=>?_) (λe=>?_)
   ·have o:n∈r:=by simpa using e
    cases r with
    |nil=>simp at o
    |cons y r =>
     refine ah rfl ⟨a,_,0,.str y,rfl,rfl,aA.of d,j4,_,rfl,rfl,_,rfl,?_⟩;refine bY (λg=>?_) (λg=>?_)
     ·have C:y≠n:=λz=>by subst z;simp at g
      refine aX rfl rfl ⟨a,_,0,.str y,rfl,rfl,aA.of d,j4,_,rfl,g6,λp v=>?_⟩;rw[GH ⟨o,C⟩]at b;exact L i y b.symm p _ (c.free v) (c.trans (aK v)) af
     ·have O:y=n:=by
       by_cases z:y=n
       ·exact z
       ·exact absurd (by simp[z]) g
      refine⟨_,_,rfl,c,?_⟩;rw[<-b,w4 λz=>z.2 (by rw[O];rfl)]
   ·refine⟨_,_,rfl,c,?_⟩
    rw[<-b,w4 λz=>e (by simpa using z.1)]
  ·rintro σ Y ⟨j,k,rfl,m,b⟩
   rw[u.length,wW]at b;exact qn b.symm Y m
def DZ:Option FF->V
 |none=>.aO
 |some n=>.str n
inductive pW(vs:List V)(H:Hp)(Q:VK)(E:XK):Prop
 |mk{l:E8}{ws:List V}{rows:List (List FF)}(_:vs=[.ref l])(_:H l=ih (.lst ws))(_:dY H ws rows)(_:∀H',ax H H'->Q (DZ (fq rows)) H'):pW vs H Q E
theorem CL:bj ["rest","row"] ["rest"] (aJ qd):=bB
theorem JO{fW:E8}{g:Ye}(F:aS K "least_free" "least_free" qd f fd)(B:dq mg)(t:aS K "wish_against" "wish_against" n9 fW g)(I:Binds K g ["rest","name"] [])(J:mg "wish_against" = ih (.ref fW)) :
  aU P w K mg base aH 2 f fd ["rest"] pW:=by
 have L:aU P w K mg base aH 1 fW g ["rest","name"] qe:=Lc t B;refine F.bI CL λQa A outer s H vs Q E M h=>?_
 ·obtain @⟨l,ws,rows,rfl,m,n,q⟩:=h
  have u:a4 1 _:=M;intro X;refine⟨_,aw (eK d9 rfl (c8 (pv 0)) (bf 1 CL.nd)
    (aB (bo (PW.pt (pw_and (kz (pv 1) (λ_=>rfl)) (pw_and1 (br gD (fV L u rfl J t.kp I .nil cY (aa (pv 0) (aa (aV bp (pv 1) au) ai))) dV (bC _)))))
     (aB (aZ (aV bp (pv 1) au))) bG)))
   (aB (aZ dV)),?_⟩
  refine ah rfl ⟨l,rfl,⟨_,ak.of m⟩,ie (xs:=ws) (λi σ Y=>∃o:ad V,σ=[am l,o]/\ax H Y/\hE rows (rows.drop i)=fq rows) ⟨none,rfl,ax.refl _,by simp[fq]⟩ (λi σ Y _ S=>by obtain⟨_,_,z,_⟩:=S;exact ak.of (z _ _ m)) ?_ ?_⟩
  ·rintro i x σ Y N ⟨o,rfl,c,b⟩
   obtain⟨a,r,rfl,v,C⟩:=n.get N;have k:=c _ _ C;have D:rows.drop i=r::rows.drop (i+1):=by
    obtain⟨G,rfl⟩:=b3.mp v;exact lB G
   rw[D]at b;refine ah rfl ⟨!(r.map V.str).isEmpty,.inr (.inl ⟨_,aA.of k,rfl⟩),?_⟩;cases r with
   |nil=>exact ah rfl ⟨c,b⟩
   |cons y r =>
    have b:(if (dU 0 rows y).isNone then ih y else hE rows (rows.drop (i+1)))=fq rows:=b;refine aX rfl rfl ⟨a,_,0,.str y,rfl,rfl,aA.of k,j4,?_⟩;refine qe.mk rfl (c _ _ m) (n.same c) (λO H2 d=>?_) (λj z es p H2 R d h2=>?_)
    ·refine⟨rfl,_,rfl,?_⟩
     refine ah rfl ⟨a,_,0,.str y,rfl,rfl,aA.of (d _ _ k),j4,?_⟩;rw[O]at b;have e:fq rows=ih y:=b.symm;have:=q H2 (c.trans d);rw[e]at this;exact this
    ·refine⟨rfl,_,rfl,?_⟩
     rw[es]at b;exact ah rfl ⟨c.trans d,b⟩
  ·rintro σ Y ⟨o,rfl,c,b⟩
   rw[n.length,wW]at b;have e:fq rows=none:=b.symm;have:=q Y c;rw[e]at this;exact this
theorem IM(h:Nm x):(x.cps.toList.all λc=>decide (c<16 ^ 8))=true:=by
 rw[mY];intro c a;have:=(h.az c a).2;exact cf (by omega)
def l7(s:Vj):List Vj:=match s with|.For _ _ b _ _=>b|_=>[]
def nu(s:Vj):List Vj:=match s with|.While _ b _ _=>b|_=>[]
def bT(l:List Vj)(i:Nat):Vj:=l.getD i (.Pass ⟨0,0,0,0⟩)
def fg(s:Vj):VD:=match s with|.Assign _ v _=>v|_=>.Constant .none 0 ⟨0,0,0,0⟩
def my(s:Vj):VD:=match s with|.Return (ih v) _=>v|_=>.Constant .none 0 ⟨0,0,0,0⟩
def gp(e:VD):VD:=match e with|.Call _ (a::_) _ _=>a|_=>.Constant .none 0 ⟨0,0,0,0⟩
def ON(e:VD):VD:=match e with|.Subscript a _ _=>a|_=>.Constant .none 0 ⟨0,0,0,0⟩
def Dt(e:VD):VD:=match e with|.ListComp x _ _ _=>x|_=>.Constant .none 0 ⟨0,0,0,0⟩
def cG(e:VD):Zf:=match e with|.ListComp _ _ sc _=>sc|_=>{ kind:=.function,names:=[],isGenerator:=false,isCoroutine:=false }
theorem boot_tuple:Vv "tuple" = ih (.type "tuple"):=by decide +kernel
theorem boot_list:Vv "list" = ih (.type "list"):=by decide +kernel
structure Small(rows:List (List FF)):Prop where
 a5:rows.length<=10
 short:∀r∈rows,r.length<=20
 nm:∀r∈rows,∀n∈r,Nm n
theorem Mj{a:ac FF}(b:ps.Nodup)(h:∀n∈ps,n∈a):ps.length<=a.length:=by
 by_cases z:ps.length<=a.length
 ·exact z
 ·obtain⟨y,c,d⟩:=ug (found:=a) b (by omega)
  exact absurd (h y c) d
theorem Ax(h:total rest=0):(rest.any λr=>!r.isEmpty)=false:=by
 cases e:rest.any λr=>!r.isEmpty with
 |false=>rfl
 |true=>have:=Bl e;omega
theorem lR(h:fq rest=ih n):∃r∈rest,n∈r:=by
 obtain⟨r,a,e⟩:=sd h;exact⟨r,a,List.mem_of_head? e⟩
theorem Ay:∀(k:Nat) (r:ac (List FF)),total r<=k ->∀j,total r<=j->cx k r=cx j r
 |0,r,h,j,_=>by
  have z:=Ax (show total r=0 by omega)
  cases j with
  |zero=>rfl
  |succ j=>unfold cx;rw[aq (by rw[z];exact cc)]
 |k+1,r,h,0,a=>by
  have z:=Ax (show total r=0 by omega)
  unfold cx;rw[aq (by rw[z];exact cc)]
 |k+1,r,h,j+1,a=>by
  unfold cx;split
  ·cases e:fq r with
   |none=>rfl
   |some n =>
    have:=lK (lR e);show aaa _ _=aaa _ _;rw[Ay k (without n r) (by omega) j (by omega)]
  ·rfl
theorem sy{r:ac (List FF)}(h:(r.any λr=>!r.isEmpty)=false):cx (total r) r=ih []:=by
 cases total r with
 |zero=>rfl
 |succ k=>unfold cx;rw[aq (by rw[h];exact cc)]
theorem sA{r:ac (List FF)}(h:(r.any λr=>!r.isEmpty)=true)(e:fq r=none):cx (total r) r=none:=by
 have:=Bl h;cases q:total r with
 |zero=>omega
 |succ k=>unfold cx;rw[aF h,e]
theorem sC{r:ac (List FF)}(h:(r.any λr=>!r.isEmpty)=true)(e:fq r=ih n):cx (total r) r=(cx (total (without n r)) (without n r)).map (n :: ·):=by
 have:=lK (lR e);cases q:total r with
 |zero=>omega
 |succ k =>
  show(if (r.any λr=>!r.isEmpty)=true then _ else _)=_;rw[aF h,e];show aaa _ _=_;rw[Ay k (without n r) (by omega) _ (aQ _)]
theorem w8{env:Zz}:∀{c:ac (FF×YC)}{x:FF},c.lookup x=ih .cell ->
  (c.map λ(n,k)=>if (k==Vh&&env.scope.kind == .function&&env.kindOf n==ih .cell) then (n,Yf) else (n,k)).lookup x=ih .cell
 |[],_,h=>by simp at h
 |(n,b)::r,x,h=>by
  have d:=@w8 env r x;show VP x ((if (b==Vh&&env.scope.kind == .function&&env.kindOf n==ih .cell)=true then (n,Yf) else (n,b))::_)=_;rw[dt]at h;cases a:x==n with
  |true =>
   rw[a]at h;cases h
   rw[aq (by simp),dt,a]
  |false =>
   rw[a]at h
   by_cases e:(b==Vh&&env.scope.kind == .function&&env.kindOf n==ih .cell)=true
   ·rw[aF e,dt,a];exact d h
   ·rw[aq e,dt,a];exact d h
theorem nest{mM:Zf}(a:sc.kind=.function)(keys:(sc.names.map (·.1)).Nodup)(c:N'.Nodup)(b:Qd.length=N'.length)(d:u4 N N' Qd sc=true)
  (free:∀p∈sc.names,p.2=.free->mM.names.lookup p.1=ih .cell\/mM.names.lookup p.1=ih .free):b5 N (relabel mM env) N' Qd sc:=
 ⟨a,keys,c,b,Dp d,λp f e=>by
  rcases free p f e with z|z
  ·exact .inl (w8 z)
  ·exact r7 z⟩
theorem w9(K:YA)(h:X.K=K):cX X (.type "tuple") (λxs H Q=>∃p ys,xs=[.ref p]/\((ak K H p ys /\∀l,H l=none->Q (.ref l) (upd H l (.tup ys)))\/(aA K H p ys/\Q (.ref p) H))):=by subst h;exact iP
theorem boot_any:Vv "any" = ih (.builtin "any"):=by decide +kernel
def qf(K:YA)(C:E8):Bool:=
 Yt K (.ref C) "__getattribute__" == ih (ih (.builtin "BaseException.__getattribute__"))&&(Yt K (.ref C) "__getattr__" == ih none&&(Yt K (.ref C) "__setattr__" == ih (ih (.builtin "object.__setattr__"))&&(hasDictIn K C &&
 (((clsIn K C).any λcd=>mq cd.mro)&&(mroIn K C (.type "BaseException")==ih true&&(mroIn K C (.type "ValueError")==ih true&&(mroIn K C (.type "object")==ih true&&(Yt K (.ref C) "__class__" == ih (ih (.builtin "object.__class__")) &&
 (specialIn K (.builtin "object.__class__") "__get__" == ih (ih (.builtin "getset_descriptor.__get__"))&&takesIn K (.builtin "object.__class__")==ih true)))))))))
theorem CM(h:qf K C=true):eV K C:=by
 unfold qf at h;simp only[gP,dJ]at h;obtain⟨a,b,c,d,e,f,g,i,j,k,l⟩:=h;exact⟨a,b,c,d,e,f,g,i,j,k,l⟩
def D0(a:E8)(H H':Hp):Prop:= ∀b o,H b=ih o->b≠a->H' b=ih o
theorem B6{fs:ac (FF×V)}(c:H d=none):D0 a H (upd (upd H d (ff d fs)) a (cH C (ih d) a)):=λb o e n=>by
 rw[ag n,ag (ay e c)];exact e
abbrev CN:List FF:=["rows","order","rest","name"]
theorem nE:bj CN ["rows"] (aJ nM):=bB
abbrev D1:VD:=fg (bT (nu (bT (bE nM) 2)) 3)
abbrev mM:Zf:=cG D1
abbrev P0:Zf:=cG (gp (Dt D1))
theorem EA:b5 CN (aJ nM) ["row","name"] [none,ih 3] mM:=dc
theorem P1:b5 ["row","name"] (relabel mM env) ["other","name"] [none,ih 1] P0:=nest rfl (by decide +kernel) (by decide +kernel) rfl (by decide +kernel) (by decide +kernel)
theorem P2:(["other","name"]:ac FF).Nodup:=by decide +kernel
theorem Bm(h:dY H vs rows)(s:∀b xs,H b=a2 xs->H' b=a2 xs):dY H' vs rows:=Paired.imp' (λ_ _ c=>by obtain⟨a,e,q⟩:=c;exact ⟨a,e,s _ _ q⟩) h
theorem w5(S:Small rest):Small (without n rest):=by
 refine⟨by unfold L2.without;rw[aE];exact S.a5,λr a=>?_,λr a y c=>?_⟩
 ·obtain⟨q,b,rfl⟩:=a6.mp a
  exact en (gR _ _) (S.short q b)
 ·obtain⟨q,b,rfl⟩:=a6.mp a
  exact S.nm q b y (fj.mp c).1
structure D2(H:Hp)(rows:List (List FF))(t oa:E8)(m:Nat)(σ:St)(Y:Hp)(rest:List (List FF))(ws:List V)(cA:List FF)(rl:E8):Prop where
 st:∃v3:Option V,σ=[ih (.ref t),ih (.ref oa),ih (.ref rl),v3]
 mm:m=total rest
 EB:Y oa=ih (.lst (cA.map V.str))
 vF:Y rl=ih (.lst ws)
 rr:dY Y ws rest
 sm:Small rest
 ne:rl≠oa
 same:ax H Y
 lim:cA.length+total rest<=1000
 eq:cx (total rows) rows=(cx (total rest) rest).map (cA ++ ·)
theorem o5:∀{rows:ac (List FF)},(∀r∈rows,r.length<=20)->total rows<=20 * rows.length
 |[],_=>bD _
 |r::rows,h=>by
  have h1:=o5 λq a=>h q (bc _ a);have h2:=h r aY;have e:total (r::rows)=r.length+total rows:=by simp[total]
  rw[e,cV];omega
theorem JP(h:dY H ws rows):VX (λy r=>∃a,y=V.ref a/\aA K H a r) ws (rows.map λr=>r.map V.str):=by
 induction h with
 |nil=>exact .nil
 |cons p _ b=>obtain⟨a,e,q⟩:=p;exact .cons ⟨a,e,aA.of q⟩ b
theorem any_map(rows:ac (List FF)):((rows.map λr=>r.map V.str).any λr=>!r.isEmpty)=rows.any λr=>!r.isEmpty:=by
 rw[wq];congr 1;funext r;cases r <;> rfl
inductive pJ(vs:List V)(H:Hp)(Q:VK)(E:XK):Prop
 |mk{t:E8}{ws:List V}{rows:List (List FF)}{o:List FF}(_:vs=[.ref t])(_:H t=ih (.tup ws))(_:dY H ws rows)(_:Small rows)(_:cx (total rows) rows=ih o)(_:∀p H',H p=none->ax H H'->H' p=ih (.tup (o.map V.str))->Q (.ref p) H'):pJ vs H Q E
theorem IP{fW:E8}{xa xe:Ye}(F:aS K "merged" "merged" nM f fd)(D:dq mg)
  (xm:aS K "wish_against" "wish_against" n9 fW xe) (ym:Binds K xe ["rest","name"] []) (zm:mg "wish_against" = ih (.ref fW))
  (xg:aS K "least_free" "least_free" qd fL xa) (xn:Binds K xa ["rest"] []) (yn:mg "least_free" = ih (.ref fL)) :
  aU P w K mg base aH 3 f fd ["rows"] pJ:=by
 have zn:aU P w K mg base aH 2 fL xa ["rest"] pW:=JO xg D xm ym zm;refine F.bI nE λQa A outer s H vs Q E xo h=>?_
 ·obtain @⟨t,ws,rows,o,rfl,yg,yo,xc,S,zo⟩:=h
  have yj:a4 2 _:=xo;intro X;refine⟨_,aw (a3 1 nE.nd (eu ai))
   (aw (a3 2 nE.nd (dy ki rfl D.list boot_list (aa (pv 0) ai)))
   (aw (nz d9 (kz (bV (Il rfl) rfl D.any boot_any (aa (pv 2) ai)) (λ_=>rfl))
    (aw (il (i:=3) nE.nd rfl (Y3 rfl) (fV zn yj rfl yn xg.kp xn .nil cY (aa (pv 2) ai)))
    (aw (bo (br gD (pv 3) dV (bC _)) (aB I4) bG)
    (aw (eJ (gj hC m3 m4 jx (pv 1) (aa (pv 3) ai)))
    (aB (lP (i:=2) rfl EA nE.nd rfl rfl (c8 (pv 2)) (λs H fp=>⟨bf 0 EA.nd,et,
     dy (w9 K rfl) rfl D.tuple boot_tuple (aa (d3 rfl P1 (BK K rfl (pv 0)) (λs H fp=>⟨bf 0 P2,iS (br jK (pv 0) (pv 1) rfl),pv 0⟩)) ai)⟩)))))))
   (aB (aZ (dy iP rfl D.tuple boot_tuple (aa (pv 1) ai)))))),?_⟩
  refine⟨bD _,λc ya=>ah rfl ⟨t,ws,rfl,.inr (aA.of (by rw[ag (ay yg ya)];exact yg)),λd za=>?_⟩⟩
  have zi:(upd (upd H c (.lst [])) d (.lst ws)) c=bd []:=by rw[ag (ay af za)];exact af
  have zg:ax H (upd (upd H c (.lst [])) d (.lst ws)):=(aK ya).trans (aK za);refine⟨λm σ Y=>∃rest g k d,D2 H rows t c m σ Y rest g k d,⟨_,rows,ws,[],d,⟨none,rfl⟩,rfl,zi,af,yo.same zg,xc,aT (ay af za),zg,by have:=o5 xc.short;have:=xc.a5;simp only[jq];omega,by cases cx (total rows) rows <;> rfl⟩,?_⟩
  rintro m σ Y ⟨rest,g,k,d,R⟩;obtain⟨xq,rfl⟩:=R.st;refine ah rfl ⟨d,g,_,rfl,ak.of R.vF,JP R.rr,_,rfl,?_⟩;rw[any_map];refine bY (λT=>?_) (λT=>?_)
  ·refine⟨λzj H'=>∃xh,xh<m /\∃rest g k d,D2 H rows t c xh zj H' rest g k d,λ_ _ z=>z,?_⟩
   refine ah rfl (pW.mk rfl R.vF R.rr λH2 G=>?_);cases e:fq rest with
   |none =>
    refine ah rfl ⟨rfl,_,rfl,?_⟩;rw[R.eq,sA T e]at S;cases S
   |some n =>
    refine ah rfl ⟨rfl,_,rfl,?_⟩;have Z:H2 c=bd (k.map V.str):=G _ _ R.EB;refine ah rfl ⟨.inl ⟨rfl,_,ak.of Z⟩,_,rfl,c,_,_,rfl,rfl,Z,by have:=R.lim;rw[aE,aW];omega,?_⟩
    generalize L:upd H2 c (.lst (k.map V.str++[DZ (ih n)]))=I;have xp:ax H I:=λb o yh=>by rw[<-L,ag (ay yh ya)];exact G _ _ (R.same b o yh)
    have xk:d≠c:=R.ne;have yd:I d=bd g:=by rw[<-L,ag xk];exact G _ _ R.vF
    have ye:dY I g rest:=Bm R.rr λb xs u=>by rw[<-L,ag (ar (G _ _ u) Z)];exact G _ _ u
    have zd:I c=bd ((k++[n]).map V.str):=by rw[<-L,af,a'];rfl
    refine ah rfl ⟨d,rfl,⟨_,ak.of yd⟩,λJ M=>?_⟩;have yk:J≠c:=λz=>by rw[z,zd]at M;cases M
    refine fk (xs:=g) (λi ys U q=>∃yc:ad V,U=[yc,ih (.str n)]/\q J=bd ys/\ax I q/\dY q ys (L2.without n (rest.take i))) ⟨none,rfl,af,aK M,.nil⟩ (λi ys U q ab=>by obtain⟨_,_,h1,h2,_⟩:=ab;exact ⟨h1,ak.of (h2 _ _ yd)⟩) ?_ ?_
    ·rintro i x ys U q zh ⟨yc,rfl,B,v,C⟩
     obtain⟨a,r,rfl,ze,xb⟩:=ye.get zh;have zk:i<g.length:=(b3.mp zh).1;have tk:rest.take (i+1)=rest.take i++[r]:=by rw[dM,ze];rfl
     refine ah rfl ⟨a,rfl,⟨_,aA.of (v _ _ xb)⟩,λb1 yb=>?_⟩;have xl:a≠b1:=ay (v _ _ xb) yb;refine lV (xs:=r.map V.str) (λj zs N W=>∃zc:ad V,N=[zc,ih (.str n)]/\zs=((r.take j).filter λy=>!decide (y=n)).map V.str/\W=upd q b1 (.lst zs)) ⟨none,rfl,rfl,rfl⟩ (λj zs N W ⟨_,_,_,z⟩=>by rw[z];exact⟨af,aA.of (by rw[ag xl];exact v _ _ xb)⟩) ?_ ?_
     ·rintro j x zs N W xf ⟨zc,rfl,rfl,rfl⟩
      have zb:j<(r.map V.str).length:=(b3.mp xf).1;have yf:j<r.length:=by simpa using zb
      obtain rfl:V.str r[j]=x:=by simpa [yf] using xf
      have zf:r.take (j+1)=r.take j++[r[j]]:=by rw[dM,bz yf];rfl
      refine aX rfl rfl ⟨rfl,_,rfl,?_⟩;refine bY (λO=>?_) (λO=>?_)
      ·have xj:r[j]≠n:=λz=>by rw[z]at O;simp at O
       refine ah rfl ⟨af,?_,cw_next zb (ah rfl ⟨?_,by rw[fu]⟩)⟩
       ·have h1:=gR (λy=>!decide (y=n)) (r.take j)
        have h2:(r.take j).length<=r.length:=by rw[cK];omega
        have yp:=R.sm.short r (eO ze);rw[aE,aW];omega
       ·rw[zf,gS,a',oW (by simpa using xj)];rfl
      ·have zp:r[j]=n:=by
        by_cases z:r[j]=n
        ·exact z
        ·exact absurd (by simp[z]) O
       refine cw_next zb (ah rfl ⟨?_,rfl⟩);rw[zf];simp[zp]
     ·rintro zs N W ⟨zc,rfl,rfl,rfl⟩
      rw[aE,cB];refine⟨b1,_,rfl,.inl ⟨ak.of af,λl xi=>?_⟩⟩;have yl:J≠b1:=ay B yb;have xd:ax q (upd (upd q b1 (.lst ((r.filter λy=>!decide (y=n)).map V.str))) l (.tup ((r.filter λy=>!decide (y=n)).map V.str))):=(aK yb).trans (aK xi);have zl:J≠l:=ay (by rw[ag yl];exact B) xi
      refine⟨xd _ _ B,?_,cw_next zk ⟨_,rfl,af,λb o u=>?_,?_⟩⟩
      ·have h1:=C.length
       have h2:(L2.without n (rest.take i)).length<=rest.length:=by unfold L2.without;rw[aE,cK];omega
       have yp:=R.sm.a5;rw[aW];omega
      ·rw[ag (ay u M)];exact xd _ _ (v b o u)
      ·have e1:L2.without n (rest.take (i+1))=L2.without n (rest.take i)++[r.filter λy=>!decide (y=n)]:=by rw[tk];unfold L2.without;rw[a'];rfl
       rw[e1];refine dY.append (Bm C λb xs u=>?_) ?_
       ·rw[ag (ar u B)];exact xd _ _ u
       ·rw[ag (aT zl)];exact af
    ·rintro ys U q ⟨yc,rfl,B,v,C⟩
     rw[ye.length,cB]at C;have lt:=lK (lR e);refine⟨_,by rw[R.mm];exact lt,L2.without n rest,ys,k++[n],J,⟨_,rfl⟩,rfl,v _ _ zd,B,C,w5 R.sm,yk,xp.trans v,?_,?_⟩
     ·have:=R.lim;rw[bX,jo];omega
     ·rw[R.eq,sC T e,wX]
      congr 1
      funext z
      simp
  ·refine ah rfl ⟨c,_,rfl,.inl ⟨ak.of R.EB,λp yi=>?_⟩⟩
   rw[R.eq,sy (by simpa using T)]at S
   have e:k++[]=o:=cJ S;rw[eZ]at e;subst e;exact zo p _ (R.same.free yi) (R.same.trans (aK yi)) af
end eG
namespace eG
open L2
theorem boot_max:Vv "max" = ih (.builtin "max"):=by decide +kernel
theorem boot_abs:Vv "abs" = ih (.builtin "abs"):=by decide +kernel
inductive qq(K:U3)(vs:List V)(H:Hp)(Q:VK)(E:XK):Prop
 |mk{a:E8}{ns:List Int}{k:Int}(_:vs=[.ref a,.int k])(_:ak K H a (ns.map V.int))(_:0<=k)(_:k<=100)(_:ns.length<=63)(_:∀(p:E8) (x y:Int),H p=none->0<=x->0<=y->y<4294967296->Q (.ref p) (upd H p (.lst [.int x,.int y]))):qq K vs H Q E
theorem uO:bj ["_law_script","_law_k","_law_cell"] ["_law_script","_law_k"] (aJ vc):=bB
theorem Ld{ns:ac Int}(h:i<ns.length):∃z,(ns.map V.int)[i]?=ih (V.int z):=⟨ns[i],by rw[cL,bz h];rfl⟩
theorem Ml(F:aS K "_law_pot" "_law_pot" vc f fd)(B:dq mg):aU P w K mg base aH 1 f fd ["_law_script","_law_k"] (qq K):=by
 refine F.bI uO λQa A outer s H vs Q E n h=>?_
 ·obtain @⟨a,ns,k,rfl,g,o,r,t,q⟩:=h
  intro X;refine⟨_,aw (a3 2 uO.nd au)
   (aw (bo (br Dj (pv 1) (bV eQ (by rfl) B.len eI (aa (pv 0) ai)) (bC _))
     (aB (a3 2 uO.nd (aV dA (pv 0) (pv 1)))) bG)
   (aB (aZ (eu (aa (bV (AQ rfl) (by rfl) B.max boot_max (aa au (aa (bA kI (bV BE (by rfl) B.abs boot_abs (aa (pv 2) ai)) (bA t9 au au)) ai)))
    (aa (bA e4 (bA e4 (bA kJ (bV BE (by rfl) B.abs boot_abs (aa (pv 2) ai)) au) (bA nQ au (pv 1))) au) ai)))))),?_⟩
  refine aX rfl rfl ⟨a,_,rfl,.inl g,_,_,rfl,rfl,_,rfl,?_⟩;have e:∀c:Int,∀p,H p=none->Q (.ref p) (upd H p (.lst [.int (if (if c<0 then -c else c) - 10 ^ (18:Int).toNat>0 then (if c<0 then -c else c) - 10 ^ (18:Int).toNat else 0),.int ((if c<0 then -c else c) % 2147483587+101 * k+3)])):=λc p b=>by
   refine q p _ _ b ?_ (by omega) (by omega)
   generalize (if c<0 then -c else c) - 10 ^ (18:Int).toNat=d;split <;> omega
  refine bY (λj=>?_) (λj=>?_)
  ·have l:k<((ns.map V.int).length:Int):=dQ j
   rw[aE]at l;obtain⟨z,m⟩:=Ld (ns:=ns) (i:=k.toNat) (by omega)
   refine aX rfl rfl ⟨a,_,_,_,rfl,rfl,g,(by rw[show k=((k.toNat:Nat):Int) by omega];exact cw m),?_⟩
   refine ah rfl ⟨z,rfl,_,_,rfl,rfl,⟨by decide,by decide,by decide⟩,_,_,rfl,rfl,_,_,rfl,?_⟩
   refine ah rfl ⟨z,rfl,_,_,rfl,rfl,(by show(0:Int)<2147483587;decide),_,rfl,_,_,rfl,rfl,.inl ⟨by decide,by decide⟩,_,_,rfl,rfl,_,_,rfl,rfl,bS,λp b=>e z p b⟩
  ·refine ah rfl ⟨0,rfl,_,_,rfl,rfl,⟨by decide,by decide,by decide⟩,_,_,rfl,rfl,_,_,rfl,?_⟩
   refine ah rfl ⟨0,rfl,_,_,rfl,rfl,(by show(0:Int)<2147483587;decide),_,rfl,_,_,rfl,rfl,.inl ⟨by decide,by decide⟩,_,_,rfl,rfl,_,_,rfl,rfl,bS,λp b=>e 0 p b⟩
inductive hH(vs:List V)(H:Hp)(Q:VK)(E:XK):Prop
 |mk{p:E8}{m x y:Int}(_:vs=[.ref p,.int m])(_:H p=ih (.lst [.int x,.int y]))(_:0<=x)(_:0<=y)(_:y<4294967296)(_:0<m)(_:m<4611686018427387904)(_:∀(d x' y':Int),0<=d->d<m->0<=x'->0<=y'->y'<4294967296->Q (.int d) (upd H p (.lst [.int x',.int y']))):hH vs H Q E
theorem CP:bj ["_law_pot_here","_law_many","_law_digit_here"] ["_law_pot_here","_law_many"] (aJ nU):=bB
theorem s8(F:aS K "_law_digit" "_law_digit" nU f fd):aU P w K mg base aH 1 f fd ["_law_pot_here","_law_many"] hH:=by
 refine F.bI CP λQa A outer s H vs Q E j h=>?_
 ·obtain @⟨p,m,x,y,rfl,c,d,e,g,a,k,q⟩:=h
  intro X;refine⟨_,aw (bo (br Dl (aV dA (pv 0) au) au (bC _))
    (aw (a3 2 CP.nd (bA kJ (aV dA (pv 0) au) (pv 1)))
    (aw (i0 (bA Ju (aV dA (pv 0) au) (pv 1)) (CZ (pv 0) au set_list))
    (aB (aZ (pv 2))))) bG)
   (aw (i0 (bA kJ (bA e4 (bA nQ (aV dA (pv 0) au) au) au) au) (CZ (pv 0) au set_list))
   (aB (aZ (bA kJ (bA Kh (bA kJ (bA nQ (aV dA (pv 0) au) (aV dA (pv 0) au)) au) au) (pv 1))))),?_⟩
  have b:ak K H p [.int x,.int y]:=ak.of c;refine ah rfl ⟨p,_,0,_,rfl,rfl,b,rfl,_,_,rfl,rfl,_,rfl,?_⟩;refine bY (λi=>?_) (λi=>?_)
  ·refine ah rfl ⟨p,_,0,_,rfl,rfl,b,rfl,_,rfl,_,_,rfl,rfl,a,?_⟩
   refine ah rfl ⟨p,_,0,_,rfl,rfl,b,rfl,_,rfl,_,_,rfl,rfl,⟨a,by omega⟩,_,rfl,p,_,0,0,rfl,rfl,c,rfl,?_⟩
   refine ah rfl ?_;exact q _ _ _ (wY _ (by omega)) (wZ _ a) (Int.ediv_nonneg d (by omega)) e g
  ·refine ah rfl ⟨p,_,1,_,rfl,rfl,b,rfl,_,_,rfl,rfl,.inr ⟨by decide,by decide⟩,_,_,rfl,rfl,_,_,rfl,rfl,(by show(0:Int)<2147483647;decide),_,rfl,p,_,1,1,rfl,rfl,c,rfl,?_⟩
   have h1:=wY (y * 39373+20011) (show(2147483647:Int)≠0 by decide)
   have h2:=wZ (y * 39373+20011) (show(0:Int)<2147483647 by decide)
   refine ah rfl ⟨p,_,1,_,rfl,rfl,ak.of af,rfl,_,rfl,p,_,1,_,rfl,rfl,ak.of af,rfl,_,_,rfl,rfl,.inl ⟨VF (by decide) h1,VF h2 (by decide)⟩,_,_,rfl,rfl,(by show(0:Int)<2147483563;decide),_,_,rfl,rfl,⟨by decide,by decide⟩,_,rfl,_,_,rfl,rfl,a,?_⟩
   exact q _ x _ (wY _ (by omega)) (wZ _ a) d h1 (by omega)
def df(p:E8)(H:Hp):Prop:= ∃x y:Int,H p=ih (.lst [.int x,.int y])/\0<=x/\0<=y/\y<4294967296
structure bu(p:E8)(H H':Hp):Prop where
 ok:df p H'
 kp:∀b o,H b=ih o->b≠p->H' b=ih o
section
variable{q:E8}{o:HO}
theorem bu.refl(h:df p H):bu p H H:=⟨h,λ_ _ e _=>e⟩
theorem bu.trans(a:bu p H Y)(b:bu p Y H2):bu p H H2:=⟨b.ok,λc o e n=>b.kp c o (a.kp c o e n) n⟩
theorem df.ne(h:df p H)(a:H q=none):p≠q:=let ⟨_,_,e,_⟩:=h;ay e a
theorem bu.new(a:bu p H Y)(c:Y q=none):bu p H (upd Y q o):=by
 refine⟨?_,λb u e n=>?_⟩
 ·obtain⟨x,y,e,r⟩:=id a.ok
  exact⟨x,y,by rw[ag (a.ok.ne c)];exact e,r⟩
 ·rw[ag (ay (a.kp b u e n) c)];exact a.kp b u e n
theorem bu.free(a:bu p H Y)(b:Y q=none):H q=none:=by
 cases e:H q with
 |none=>rfl
 |some u =>
  by_cases h:q=p
  ·subst h;obtain⟨_,_,z,_⟩:=a.ok;rw[z]at b;cases b
  ·rw[a.kp q u e h]at b;cases b
theorem bu.write(a:bu p H Y)(c:H q=none)(d:p≠q):bu p H (upd Y q o):=by
 refine⟨?_,λb u e n=>?_⟩
 ·obtain⟨x,y,e,r⟩:=id a.ok
  exact⟨x,y,by rw[ag d];exact e,r⟩
 ·rw[ag (ay e c)];exact a.kp b u e n
theorem cW{Q:VK}{E:XK}(h:df p H)(a:0<m)(c:m<4611686018427387904)(k:∀d H',0<=d->d<m->bu p H H'->Q (.int d) H'):hH [.ref p,.int m] H Q E:=by
 obtain⟨x,y,e,f,g,i⟩:=h;exact⟨rfl,e,f,g,i,a,c,λd j l q r h1 h2 s=>k d _ q r ⟨⟨j,l,af,h1,h2,s⟩,λb o z n=>by rw[ag n];exact z⟩⟩
end
theorem Bn:∀a:ac Nat,((a.map sign).map (·.length)).sum=a.length
 |[]=>rfl
 |c::a=>by
  have e:(sign c).length=1:=rfl;simp only[b4,wV,Bn a,cV,e];omega
abbrev kD:FF:= "abcdefghijklmnopqrstuvwxyz"
theorem Bo{d:Int}(h0:0<=d)(h1:d<26):∃c:Nat,cZ kD.cps.toList d=ih c/\97<=c/\c<=122/\c=97+d.toNat:=by
 have all:∀i:Nat,i<26->kD.cps.toList[i]?=ih (97+i):=by decide +kernel
 refine⟨97+d.toNat,?_,by omega,by omega,rfl⟩
 rw[show d=((d.toNat:Nat):Int) by omega]
 exact cw (all d.toNat (by omega))
inductive iY(vs:List V)(H:Hp)(Q:VK)(E:XK):Prop
 |mk{p:E8}{m:Nat}(_:vs=[.ref p,.int m])(_:df p H)(_:m<=20)(_:∀(l:E8) (ys:List FF) (H':Hp),H l=none->ys.length=m->(∀y∈ys,Nm y)->ys.Nodup->bu p H H'->H' l=ih (.lst (ys.map V.str))->Q (.ref l) H'):iY vs H Q E
noncomputable abbrev qg:List FF:=["_law_pot_here","_law_many","_law_letters","_law_found","_law_k","_law_size","_law_name","_law_some"]
theorem jF:bj qg ["_law_pot_here","_law_many"] (aJ i2):=bB
def uq(s:Vj):List Vj:=match s with|.If _ b _ _=>b|_=>[]
abbrev OO:Zf:=cG (gp (fg (bT (l7 (bT (bE i2) 2)) 1)))
abbrev OP:Zf:=cG (fg (bT (uq (bT (l7 (bT (bE i2) 2)) 2)) 0))
abbrev OQ:Zf:=cG (ON (fg (bT (uq (bT (l7 (bT (bE i2) 2)) 2)) 1)))
theorem EC:b5 qg (aJ i2) ["_law_turn","_law_letters","_law_pot_here"] [none,ih 2,ih 0] OO:=dc
theorem ED:b5 qg (aJ i2) ["_law_turn","_law_letters","_law_name"] [none,ih 2,ih 6] OP:=dc
theorem EF:b5 qg (aJ i2) ["_law_one","_law_found"] [none,ih 3] OQ:=dc
theorem JQ{xd:Ye}(F:aS K "_law_names" "_law_names" i2 f fd)(B:dq mg)(xb:aS K "_law_digit" "_law_digit" nU fD xd)(xf:Binds K xd ["_law_pot_here","_law_many"] [])(yf:mg "_law_digit" = ih (.ref fD)) :
  aU P w K mg base aH 3 f fd ["_law_pot_here","_law_many"] iY:=by
 have zf:aU P w K mg base aH 1 fD xd ["_law_pot_here","_law_many"] hH:=s8 xb;refine F.bI jF λQa A outer s H vs Q E zw h=>?_
 ·obtain @⟨p,m,rfl,xm,zx,q⟩:=h
  have yd:a4 1 _:=zw.mono (by decide)
  intro X;refine⟨_,aw (il (i:=2) jF.nd rfl (Y3 rfl) bt)
   (aw (il (i:=3) jF.nd rfl (Y3 rfl) (eu ai))
   (aw (eK d9 rfl (ib rfl B.range (aa (pv 1) ai)) (bf 4 jF.nd)
    (aw (a3 5 jF.nd (bA e4 au (fV zf yd rfl yf xb.kp xf .nil cY (aa (pv 0) (aa (aV dA (eu (aa au (aa au (aa au ai))))
      (fV zf yd rfl yf xb.kp xf .nil cY (aa (pv 0) (aa au ai)))) ai)))))
    (aw (il (i:=6) jF.nd rfl (Y3 rfl) (gj PySem.F.plainAttrs_str PySem.F.slot_str_join PySem.F.type_str_join Ky bt
      (aa (d3 rfl EC (ib rfl B.range (aa (pv 5) ai)) (λs H fp=>⟨bf 0 EC.nd,et,aV C2 (pv 1) (fV zf yd rfl yf xb.kp xf .nil cY (aa (pv 2) (aa au ai))) (λ_ _=>rfl)⟩)) ai)))
    (aw (bo (br jw (pv 6) (pv 3) rfl)
      (aw (lP (i:=7) rfl ED jF.nd rfl rfl (ib rfl B.range (aa (bA e4 (pv 1) au) ai)) (λs H fp=>⟨bf 0 ED.nd,et,
        bA Ak (bA Ak (iR L6 (pv 2) iX (ij au)) (aV C2 (pv 1) (pv 0))) bt⟩))
      (aB (il (i:=6) jF.nd rfl (Y3 rfl) (aV dA (d3 rfl EF (c8 (pv 7)) (λs H fp=>⟨bf 0 EF.nd,iS (br (Hw K rfl) (pv 0) (pv 1) rfl),pv 0⟩)) au))))
      bG)
    (aB (eJ (gj hC m3 m4 jx (pv 3) (aa (pv 6) ai))))))))
   (aB (aZ (pv 3))))),?_⟩
  refine⟨bD _,λl L=>?_⟩;have T:p≠l:=xm.ne L;have ym:((m:Int)).toNat=m:=gy m;refine⟨_,rfl,(m:Int),rfl,by omega,by omega,kx (λi σ Y=>∃(ys:ac FF) (xg yg zg xh:ad V),σ=[am p,ih (.int m),ih (.str kD),am l,xg,yg,zg,xh]/\ys.length=i/\(∀y∈ys,Nm y)/\ys.Nodup/\bu p H Y/\Y l=bd (ys.map V.str))
   ⟨[],none,none,none,none,rfl,rfl,(λy r=>by simp at r),fc,(bu.refl xm).new L,af⟩ ?_ ?_⟩
  ·rintro i σ Y hi ⟨ys,xg,yg,zg,xh,rfl,I,U,W,C,zd⟩
   rw[ym]at hi;refine ah rfl ⟨g6,λa yh=>ah rfl ?_⟩;have xq:a≠p:=aT (C.ok.ne yh);refine cW (p:=p) (m:=3) ((bu.refl C.ok).new yh).ok (by decide) (by decide) λd H2 zm xn zh=>?_
   obtain⟨M,yq,zq,yx⟩:∃M:Int,cZ [V.int 1,V.int 2,V.int 8] d=ih (V.int M)/\0<M/\M<=8:=by
    have:d=0\/d=1\/d=2:=by omega
    rcases this with rfl|rfl|rfl
    ·exact⟨1,rfl,by decide,by decide⟩
    ·exact⟨2,rfl,by decide,by decide⟩
    ·exact⟨8,rfl,by decide,by decide⟩
   refine⟨a,_,d,_,rfl,rfl,ak.of (zh.kp a _ af xq),yq,?_⟩;refine cW (p:=p) (m:=M) zh.ok zq (by omega) λe xi e0 e1 yb=>⟨_,_,rfl,rfl,?_⟩
   have yn:bu p Y xi:=(((bu.refl C.ok).new yh).trans zh).trans yb;have xr:xi l=bd (ys.map V.str):=yn.kp l _ zd (aT T);refine⟨rfl,_,rfl,1+e,rfl,by omega,by omega,λN xe=>?_⟩
   have zk:p≠N:=yb.ok.ne xe;refine o9 (λi zs k n=>∃(o:ac Nat) (t:ad V),zs=(o.map sign).map V.str/\o.length=i/\(∀c∈o,97<=c/\c<=122)/\k=[t,ih (.str kD),am p]/\bu p xi n/\n N=bd zs)
    ⟨[],none,rfl,rfl,(λc v=>by simp at v),rfl,(bu.refl yb.ok).new xe,af⟩ (λi zs k n ab=>by obtain⟨_,_,_,_,_,_,_,z⟩:=ab;exact z) ?_ ?_
   ·rintro j zs k n O ⟨o,t,rfl,Z,ye,rfl,R,yi⟩
    refine aX rfl rfl (cW (p:=p) (m:=26) R.ok (by decide) (by decide) λd G zm xn xo=>?_)
    obtain⟨c,v,yo,zo,_⟩:=Bo zm xn;have yr:G N=_:=xo.kp N _ yi (aT zk);refine⟨kD,d,c,rfl,rfl,(by rw[aW];decide +kernel),v,yr,?_,cw_next O ⟨o++[c],_,?_,?_,?_,rfl,?_,af⟩⟩
    ·rw[aE,aE,Z,aW];omega
    ·rw[a',a'];rfl
    ·rw[bX,Z];rfl
    ·intro x zb
     rcases bK.mp zb with h|h
     ·exact ye x h
     ·have:x=c:=by simpa using h
      rw[this];exact⟨yo,zo⟩
    ·exact(R.trans xo).write ((bu.refl yb.ok).free xe) zk
   ·rintro zs k n ⟨o,t,rfl,Z,ye,rfl,R,yi⟩
    have xt:((o.map sign).map (·.length)).sum=o.length:=by
     exact Bn o
    refine⟨("" : FF),N,o.map sign,rfl,rfl,.inl (ak.of yi),?_,?_⟩
    ·have:(aci ("" : FF))=0:=rfl
     rw[xt,this,Z];omega
    rw[Hu];generalize xk:(⟨o.toArray⟩:FF)=g;have yc:Nm g:=by
     have xy:g.length=o.length:=by rw[<-xk];show o.toArray.size=_;simp
     refine⟨by omega,by omega,λc v=>ye c ?_⟩
     rw[<-xk]at v;simpa using v
    have xp:bu p Y n:=yn.trans R;have J:n l=bd (ys.map V.str):=R.kp l _ xr (aT T);refine aX rfl rfl ⟨l,_,rfl,.inl (ak.of J),rfl,jy _,_,rfl,?_⟩;rw[aq cc,iT];refine bY (λxl=>?_) (λxl=>?_)
    ·
     refine ah rfl ⟨_,_,rfl,rfl,(m:Int)+1,rfl,by omega,by omega,λD yl=>?_⟩
     refine o9 (λi zs k G=>∃t:ad V,zs=((VS i).map λj=>Ym g none (ih 6)++sign (97+j)++("q" : FF)).map V.str/\k=[t,ih (.str kD),ih (.str g)]/\G=upd n D (.lst zs))
      ⟨none,rfl,rfl,rfl⟩ (λi zs k G ⟨_,_,_,z⟩=>by rw[z];exact af) ?_ ?_
     ·rintro j zs k G O ⟨t,rfl,rfl,rfl⟩
      obtain⟨c,v,yo,zo,yt⟩:=Bo (d:=0+(j:Int)) (by omega) (by omega)
      have zp:c=97+j:=by rw[yt];omega
      have yy:(Ym g none (ih 6)).length<=6:=Ar g;refine aX rfl rfl ⟨g,rfl,by have:=yc.hi;omega,_,rfl,_,rfl,kD,_,c,rfl,rfl,(by rw[aW];decide +kernel),v,_,_,rfl,rfl,?_,_,_,rfl,rfl,?_,af,?_,cw_next O ⟨_,?_,rfl,?_⟩⟩
      ·show _+1<=UP;rw[aW];omega
      ·have e1:(Ym g none (ih 6)++(⟨#[c]⟩:FF)).length=(Ym g none (ih 6)).length+1:=by
        show(_ ++ #[c]:Array Nat).size=_;rw[rW];rfl
       have e2:(("q" : FF)).length=1:=by decide +kernel
       show(Ym g none (ih 6)++(⟨#[c]⟩:FF)).length+_<=UP;rw[e1,e2,aW];omega
      ·rw[aE,aE,Fp,aW];omega
      ·rw[aaN,a',a',zp];rfl
      ·rw[fu]
     ·rintro zs k G ⟨t,rfl,rfl,rfl⟩
      have zt:((m:Int)+1).toNat=m+1:=by omega
      generalize ze:(VS ((m:Int)+1).toNat).map (λj=>Ym g none (ih 6)++sign (97+j)++("q" : FF))=cands;have xu:cands.Nodup:=by
       rw[<-ze];refine VG _ (λa b yu h=>yu ?_) aaA;have:=Jj h;omega
      have zu:∀y∈cands,Nm y:=by
       intro y r;rw[<-ze]at r;obtain⟨j,O,rfl⟩:=a6.mp r;have:=jh.mp O;exact Kz yc.az ⟨by omega,by omega⟩
      have xx:cands.length=m+1:=by rw[<-ze,aE,Fp,zt]
      have xa:upd n D (.lst (cands.map V.str)) l=bd (ys.map V.str):=by rw[ag (ay J yl)];exact J
      refine ah rfl ⟨D,rfl,⟨_,ak.of af⟩,λS ya=>?_⟩;refine fk (xs:=cands.map V.str) (λi zs k xc=>∃t:ad V,zs=((cands.take i).filter (λy=>!decide (y∈ys))).map V.str/\k=[t,am l]/\xc=upd (upd n D (.lst (cands.map V.str))) S (.lst zs))
       ⟨none,rfl,rfl,rfl⟩ (λi zs k xc ⟨_,_,_,z⟩=>by rw[z];exact⟨af,ak.of (by rw[ag (ay af ya)];exact af)⟩) ?_ ?_
      ·rintro j x zs k xc zb ⟨t,rfl,rfl,rfl⟩
       rw[cL]at zb;obtain⟨y,r,rfl⟩:=gz.mp zb;have zl:j<(cands.map V.str).length:=by rw[aE];exact(b3.mp r).1
       have tk:cands.take (j+1)=cands.take j++[y]:=by rw[dM,r];rfl
       have za:(upd (upd n D (.lst (cands.map V.str))) S (.lst (((cands.take j).filter (λy=>!decide (y∈ys))).map V.str))) l=bd (ys.map V.str):=by rw[ag (ay xa ya)];exact xa
       refine aX rfl rfl ⟨l,_,rfl,.inl (ak.of za),rfl,jy _,_,rfl,?_⟩;rw[aF rfl,iT];refine bY (λzi=>?_) (λzi=>?_)
       ·refine ah rfl ⟨af,?_,cw_next zl ⟨_,?_,rfl,?_⟩⟩
        ·have h1:=gR (λy=>!decide (y∈ys)) (cands.take j)
         have h2:(cands.take j).length<=cands.length:=by rw[cK];omega
         rw[aE,aW];omega
        ·rw[tk,gS,a',m5,aF zi];rfl
        ·rw[fu]
       ·refine cw_next zl ⟨_,?_,rfl,rfl⟩
        rw[tk,gS,m5,aq zi,r3,eZ]
      ·rintro zs k xc ⟨t,rfl,rfl,rfl⟩
       rw[aE,cB];obtain⟨y0,xv,yv⟩:=ug (found:=ys) xu (by omega)
       have yk:y0∈cands.filter (λy=>!decide (y∈ys)):=fj.mpr ⟨xv,by simpa using yv⟩
       cases yp:cands.filter (λy=>!decide (y∈ys)) with
       |nil=>rw[yp]at yk;simp at yk
       |cons u zr =>
        have zv:u∈cands.filter (λy=>!decide (y∈ys)):=by rw[yp];exact aY
        obtain⟨zc,zn⟩:=fj.mp zv;have xw:u ∉ ys:=by simpa using zn
        have za:(upd (upd n D (.lst (cands.map V.str))) S (.lst ((u::zr).map V.str))) l=bd (ys.map V.str):=by rw[ag (ay xa ya)];exact xa
        have xj:bu p H (upd (upd n D (.lst (cands.map V.str))) S (.lst ((u::zr).map V.str))):=((C.trans xp).new yl).new ya;refine⟨S,_,0,V.str u,rfl,rfl,ak.of af,(show cZ ((u::zr).map V.str) ((0:Nat):Int)=ih (V.str u) from cw rfl),?_⟩;refine ah rfl ⟨.inl ⟨rfl,_,ak.of za⟩,_,rfl,l,_,_,rfl,rfl,za,?_,?_⟩
        ·rw[aE,aW];omega
        ·refine⟨ys++[u],_,_,_,_,rfl,by rw[bX,I];rfl,?_,?_,?_,?_⟩
         ·intro y r
          rcases bK.mp r with h|h
          ·exact U y h
          ·have:y=u:=by simpa using h
           rw[this];exact zu u zc
         ·rw[dw]
          exact⟨W,by simp,λa yj b zj=>by rw[show b=u by simpa using zj];exact λh=>xw (h ▸ yj)⟩
         ·exact xj.write L T
         ·rw[af,a'];rfl
    ·have yw:g ∉ ys:=by simpa using xl
     have xj:bu p H n:=C.trans xp;refine ah rfl ⟨.inl ⟨rfl,_,ak.of J⟩,_,rfl,l,_,_,rfl,rfl,J,?_,?_⟩
     ·rw[aE,aW];omega
     ·refine⟨ys++[g],_,_,_,_,rfl,by rw[bX,I];rfl,?_,?_,?_,?_⟩
      ·intro y r
       rcases bK.mp r with h|h
       ·exact U y h
       ·have:y=g:=by simpa using h
        rw[this];exact yc
      ·rw[dw]
       exact⟨W,by simp,λa yj b zj=>by rw[show b=g by simpa using zj];exact λh=>yw (h ▸ yj)⟩
      ·exact xj.write L T
      ·rw[af,a'];rfl
  ·rintro σ Y ⟨ys,xg,yg,zg,xh,rfl,I,U,W,C,zd⟩
   rw[ym]at I;exact ah rfl (q l ys Y L I U W C zd)
end eG
namespace eG
open L2 W HT
theorem Hc(K:YA)(h:X.K=K):cX X (.type "list") (λxs H Q=>∃p ys,xs=[.ref p]/\(ak K H p ys\/aA K H p ys) /\∀l,H l=none->Q (.ref l) (upd H l (.lst ys))):=by subst h;exact ki
theorem Hd(K:YA)(h:X.K=K)(a:X.calm=true):cX X (.builtin "any") (λxs H Q=>∃(p:E8) (bs:ac Bool),xs=[.ref p]/\ak K H p (bs.map V.bl)/\Q (.bl (bs.any id)) H):=by subst h;exact A8 a
theorem IQ(K:YA)(h:X.K=K):mJ X (DP K):=by subst h;exact l4
def gk(av:E8->Prop)(H:Hp)(vs:List V)(rows:List (List FF)):Prop:=VX (λy r=>∃a,y=V.ref a/\av a/\H a=ih (.lst (r.map V.str))) vs rows
theorem lS{av:E8->Prop}{H:Hp}:∀{vs:ac V}{rows:ac (List FF)}{i:Nat}{v:V},gk av H vs rows->vs[i]?=ih v ->∃a r,v=V.ref a/\rows[i]?=ih r/\av a/\H a=bd (r.map V.str)
 |_,_,i,v,.nil,e=>by simp at e
 |_,_,0,v,.cons p _,e=>by
  obtain⟨a,rfl,n,q⟩:=p;simp at e;subst e;exact⟨a,_,rfl,rfl,n,q⟩
 |_,_,i+1,v,.cons _ t,e=>by
  obtain⟨a,r,e1,e2,n,q⟩:=lS (i:=i) t (by simpa using e)
  exact⟨a,r,e1,by simpa using e2,n,q⟩
theorem jv{b:E8->Prop}(h:gk av H vs rows)(f:∀a xs,av a->H a=bd xs->b a/\H' a=bd xs):gk b H' vs rows:=
 Paired.imp' (λ_ _ c=>by obtain⟨a,e,n,q⟩:=c;exact ⟨a,e,(f a _ n q).1,(f a _ n q).2⟩) h
theorem sh(h:gk av H vs rows)(n:av a)(q:H a=bd (r.map V.str)):gk av H (vs++[.ref a]) (rows++[r]):=gQ h ⟨a,rfl,n,q⟩
theorem kj(h:gk av H vs rows):vs.length=rows.length:=cN h
theorem mu(h:Nm x):VH x=true:=by
 unfold VH;rw[<-Array.all_toList,mY];intro c a;have:=(h.az c a).2;exact cf (by omega)
theorem lZ(H:Hp):∀xs:ac FF,bL H (xs.map V.str) (xs.map Vz)
 |[]=>.nil
 |x::xs=>.cons (.str x) (lZ H xs)
theorem nF:∀{xs:ac FF},(∀x∈xs,Nm x)->Yj (xs.map Vz)=true
 |[],_=>rfl
 |x::xs,h=>by
  show(VH x&&Yj (xs.map Vz))=true;rw[mu (h x aY),nF λy a=>h y (bc _ a)];rfl
theorem m8:∀xs:ac FF,Vs (xs.map Vz)=0
 |[]=>rfl
 |x::xs=>by rw[b4];simp only[Vs,Yr,m8 xs,Nat.max_self]
theorem ne_nil{xs:ac FF}{Q:VK}(c:H a=bd (xs.map V.str))(d:H b=bd [])(e:∀x∈xs,Nm x)(q:Q (.bl (!xs.isEmpty)) H):DU (.ref a) (.ref b) H Q:=by
 refine⟨.list (xs.map Vz),.list [],.lst c (lZ _ _),.lst d .nil,nF e,rfl,by show Vs _+1<=60;rw[m8];decide,?_⟩
 cases xs with
 |nil=>exact q
 |cons x xs=>exact q
theorem eq_nil{xs:ac FF}{Q:VK}(c:H a=bd (xs.map V.str))(d:H b=bd [])(e:∀x∈xs,Nm x)(q:Q (.bl xs.isEmpty) H):DT (.ref a) (.ref b) H Q:=by
 refine⟨.list (xs.map Vz),.list [],.lst c (lZ _ _),.lst d .nil,nF e,rfl,by show Vs _+1<=60;rw[m8];decide,?_⟩
 cases xs with
 |nil=>exact q
 |cons x xs=>exact q
theorem nG(xs:ac V)(k:Nat):fH xs (ih (k:Int)) none=xs.drop k:=by
 unfold fH;rw[HT.Ja,HT.Km]
 by_cases h:k<=xs.length
 ·rw[aaY h,F1 (by rw[mW];omega)]
 ·rw[aaK (by omega),wW,Vc (by omega)];simp
def busy(rest:List (List FF))(x:FF):Bool:=rest.any λo=>decide (x∈o.drop 1)
def cQ(all:List (List FF)):List (List FF)->List FF
 |[]=>[]
 |[]::rest=>cQ all rest
 |(x::_)::rest=>if busy all x then cQ all rest else x::cQ all rest
theorem pz{n:FF}:∀{k:Nat}{rest:ac (List FF)},dU k rest n=none ↔ ∀r∈rest,n∈r->r.head?=ih n
 |k,[]=>by simp[dU]
 |k,[]::rest=>by
  show dU (k+1) rest n=none ↔ _;rw[pz (k:=k+1) (rest:=rest)];simp
 |k,(x::r)::rest=>by
  show(if n∈x::r/\x≠n then ih (k,x) else dU (k+1) rest n)=none ↔ _
  by_cases h:n∈x::r/\x≠n
  ·rw[aF h]
   constructor
   ·intro z;cases z
   ·intro z
    have:=z _ aY h.1;exact absurd (by simpa using this) h.2
  ·rw[aq h,pz (k:=k+1) (rest:=rest)]
   constructor
   ·intro z q hq a
    rcases bJ.mp hq with rfl|hq
    ·by_cases e:x=n
     ·rw[e];rfl
     ·exact absurd ⟨a,e⟩ h
    ·exact z q hq a
   ·exact λz q hq=>z q (bc _ hq)
theorem B7{all:ac (List FF)}(b:∀r∈all,r.Nodup)(x:FF):busy all x=false ↔ dU 0 all x=none:=by
 rw[pz];unfold busy;rw[vW]
 constructor
 ·intro h q c hx
  have h1:=h q c;cases q with
  |nil=>simp at hx
  |cons y t =>
   rcases bJ.mp hx with rfl|hx
   ·rfl
   ·exact absurd (by simpa using hx) h1
 ·intro h r a
  cases r with
  |nil=>simp
  |cons y t =>
   intro hx;have hx:x∈t:=by simpa using hx
   obtain rfl:y=x:=by simpa using h _ a (bc _ hx)
   exact(d8.mp (b _ a)).1 hx
theorem sD{all:ac (List FF)}(a:∀r∈all,r.Nodup):∀rest:ac (List FF),(cQ all rest).head?=hE all rest
 |[]=>rfl
 |[]::rest=>sD a rest
 |(x::t)::rest=>by
  show(if busy all x then cQ all rest else x::cQ all rest).head?=if (dU 0 all x).isNone then ih x else hE all rest;cases b:busy all x with
  |false=>rw[(B7 a x).mp b];rfl
  |true =>
   have c:(dU 0 all x).isNone=false:=by
    cases z:dU 0 all x with
    |none=>rw[(B7 a x).mpr z]at b;cases b
    |some _=>rfl
   rw[c];exact sD a rest
theorem m9(all:ac (List FF))(r:ac FF):∀rest:ac (List FF),cQ all (rest++[r])=cQ all rest++cQ all [r]
 |[]=>rfl
 |[]::rest=>m9 all r rest
 |(x::t)::rest=>by
  show(if busy all x then cQ all (rest++[r]) else x::cQ all (rest++[r]))=(if busy all x then cQ all rest else x::cQ all rest)++cQ all [r];rw[m9 all r rest];split <;> rfl
theorem sO(all:ac (List FF)):∀rest:ac (List FF),(cQ all rest).length<=rest.length
 |[]=>aQ _
 |[]::rest=>FG (sO all rest)
 |(x::t)::rest=>by
  have:=sO all rest;show(if busy all x then cQ all rest else x::cQ all rest).length<=rest.length+1;split
  ·omega
  ·rw[cV];omega
theorem pA{all:ac (List FF)}{n:FF}:∀{rest:ac (List FF)},n∈cQ all rest ->∃r∈rest,n∈r
 |[],h=>by simp[cQ]at h
 |[]::rest,h=>let ⟨r,a,e⟩:=pA (rest:=rest) h;⟨r,bc _ a,e⟩
 |(x::t)::rest,h=>by
  have h:n∈(if busy all x then cQ all rest else x::cQ all rest):=h;split at h
  ·obtain⟨r,a,e⟩:=pA (rest:=rest) h
   exact⟨r,bc _ a,e⟩
  ·rcases bJ.mp h with rfl|h
   ·exact⟨_,aY,aY⟩
   ·obtain⟨r,a,e⟩:=pA (rest:=rest) h
    exact⟨r,bc _ a,e⟩
theorem Az(h:∀r∈rest,r.Nodup):∀r∈L2.without n rest,r.Nodup:=by
 intro r a;obtain⟨q,b,rfl⟩:=a6.mp a;exact(h q b).filter _
structure D3(H:Hp)(rows:List (List FF))(l fa:E8)(m:Nat)(σ:St)(Y:Hp)(rest:List (List FF))(lv:List V)(cA:List FF)(la:E8):Prop where
 st:∃v3:Option V,σ=[ih (.ref l),ih (.ref la),ih (.ref fa),v3]
 mm:m=total rest
 vG:Y la=ih (.lst lv)
 rr:gk (λa=>a≠fa) Y lv rest
 ne:la≠fa
 P4:Y fa=ih (.lst (cA.map V.str))
 sm:Small rest
 nd:∀r∈rest,r.Nodup
 same:ax H Y
 lim:cA.length+total rest<=1000
 eq:cx (total rows) rows=(cx (total rest) rest).map (cA ++ ·)
abbrev oE:List FF:=["_law_rows","_law_left","_law_found","_law_free"]
theorem oi:bj oE ["_law_rows"] (aJ ig):=bB
def IS(s:Vj):VD:=match s with|.While t _ _ _=>t|_=>.Constant .none 0 ⟨0,0,0,0⟩
def De(e:VD):VD:=match e with|.ListComp _ (⟨_,_,i::_,_⟩::_) _ _=>i|_=>.Constant .none 0 ⟨0,0,0,0⟩
def ur(e:VD)(i:Nat):VD:=match e with|.BoolOp _ es _=>es.getD i (.Constant .none 0 ⟨0,0,0,0⟩)|_=>.Constant .none 0 ⟨0,0,0,0⟩
def D4(e:VD):VD:=match e with|.UnaryOp _ x _=>x|_=>.Constant .none 0 ⟨0,0,0,0⟩
abbrev sW:Vj:=bT (bE ig) 2
abbrev eA:VD:=fg (bT (bE ig) 0)
abbrev eB:VD:=gp (IS sW)
abbrev eC:VD:=fg (bT (nu sW) 0)
abbrev eD:VD:=gp (D4 (ur (De eC) 1))
abbrev eE:VD:=fg (bT (nu sW) 3)
theorem EG:b5 oE (aJ ig) ["_law_row"] [none] (cG eA):=dc
theorem EH:b5 oE (aJ ig) ["_law_row"] [none] (cG eB):=dc
theorem EI:b5 oE (aJ ig) ["_law_row","_law_left"] [none,ih 1] (cG eC):=dc
theorem P5:b5 ["_law_row","_law_left"] (relabel (cG eC) env) ["_law_other","_law_row"] [none,ih 0] (cG eD):=nest rfl (by decide +kernel) (by decide +kernel) rfl (by decide +kernel) (by decide +kernel)
theorem P6:(["_law_other","_law_row"]:ac FF).Nodup:=by decide +kernel
theorem EJ:b5 oE (aJ ig) ["_law_row","_law_free"] [none,ih 3] (cG eE):=dc
theorem P7:b5 ["_law_row","_law_free"] (relabel (cG eE) env) ["_law_name","_law_free"] [none,ih 1] (cG (Dt eE)):=nest rfl (by decide +kernel) (by decide +kernel) rfl (by decide +kernel) (by decide +kernel)
theorem P8:(["_law_name","_law_free"]:ac FF).Nodup:=by decide +kernel
inductive qM(vs:List V)(H:Hp)(Q:VK)(E:XK):Prop
 |mk{l:E8}{ws:List V}{rows:List (List FF)}(_:vs=[.ref l])(_:H l=ih (.lst ws))(_:gk (λ_=>True) H ws rows)(_:Small rows)(_:(∀r∈rows,r.Nodup))(_:(cx (total rows) rows=none ->∀H',ax H H'->Q .aO H'))(_:(∀o,cx (total rows) rows=ih o ->∀p H',H p=none->ax H H'->H' p=ih (.lst (o.map V.str))->Q (.ref p) H')):qM vs H Q E
theorem Nh(F:aS K "_law_merged" "_law_merged" ig f fd)(B:dq mg):aU P w K mg base aH 1 f fd ["_law_rows"] qM:=by
 refine F.bI oi λQa A outer s H vs Q E yn h=>?_
 ·obtain @⟨l,ws,rows,rfl,yv,zv,zi,zx,qn,yC⟩:=h
  have zn:=yn.units;intro X;refine⟨_,aw (il (i:=1) oi.nd rfl (Y3 rfl) (d3 rfl EG (c8 (pv 0)) (λs H fp=>⟨bf 0 EG.nd,et,dy (Hc K rfl) rfl B.list boot_list (aa (pv 0) ai)⟩)))
   (aw (a3 2 oi.nd (eu ai))
   (aw (nz d9 (kz (bV (A8 rfl) rfl B.any boot_any (aa (d3 rfl EH (c8 (pv 1)) (λs H fp=>⟨bf 0 EH.nd,et,jD (qc zn) (pv 0) (eu ai) (bC _)⟩)) ai)) (λ_=>rfl))
    (aw (il (i:=3) oi.nd rfl (Y3 rfl) (d3 rfl EI (c8 (pv 1)) (λs H fp=>⟨pQ (i:=0) EI.nd rfl (Y3 rfl),
      iS (PW.pt (pw_and (br (qc zn) (pv 0) (eu ai) (bC _)) (pw_and1 (hJ (hI (bV (Hd K rfl rfl) rfl B.any boot_any (aa (d3 rfl P5 (A3 K rfl (pv 1)) (λs H fp=>⟨bf 0 P6,et,jD (Cy K rfl) (aV (sL K rfl) (pv 1) au) (iR (IQ K rfl) (pv 0) (ij au) iX) rfl⟩)) ai))))))),
      aV (sL K rfl) (pv 0) au (λ_ _=>rfl)⟩)))
    (aw (bo (br (uf zn) (pv 3) (eu ai) (bC _)) (aB (aZ dV)) bG)
    (aw (eJ (gj hC m3 m4 jx (pv 2) (aa (aV dA (pv 3) au) ai)))
    (aB (il (i:=1) oi.nd rfl (Y3 rfl) (d3 rfl EJ (c8 (pv 1)) (λs H fp=>⟨bf 0 EJ.nd,et,
      d3 rfl P7 (A3 K rfl (pv 0)) (λs H fp=>⟨bf 0 P8,iS (br jK (pv 0) (aV (sL K rfl) (pv 1) au) (bC _)),pv 0⟩)⟩))))))))
   (aB (aZ (pv 2))))),?_⟩
  refine ah rfl ⟨l,rfl,⟨_,ak.of yv⟩,λxh xp=>?_⟩;refine fk (xs:=ws) (λi ys g Y=>∃v:ad V,g=[v]/\Y xh=bd ys/\ax H Y/\gk (λa=>a≠xh) Y ys (rows.take i)) ⟨none,rfl,af,aK xp,.nil⟩ (λi ys g Y ab=>by obtain⟨_,_,O,S,_⟩:=ab;exact ⟨O,ak.of (S _ _ yv)⟩) ?_ ?_
  ·rintro i x ys g Y D ⟨v,rfl,h1,yf,yd⟩
   obtain⟨a,r,rfl,J,_,T⟩:=lS zv D;have N:i<ws.length:=(b3.mp D).1;have tk:rows.take (i+1)=rows.take i++[r]:=by rw[dM,J];rfl
   refine ah rfl ⟨a,_,rfl,.inl (ak.of (yf _ _ T)),λc U=>?_⟩;have xo:=aK (o:=.lst (r.map V.str)) U;have zq:c≠xh:=aT (ay h1 U);refine⟨xo _ _ h1,?_,cw_next N ⟨_,rfl,af,λb o d=>?_,?_⟩⟩
   ·have h2:=kj yd
    have ya:=zi.a5;rw[cK]at h2;rw[aW];omega
   ·rw[ag (ay d xp)];exact xo _ _ (yf b o d)
   ·rw[tk]
    refine sh (jv yd λb xs C d=>⟨C,by rw[ag C];exact xo _ _ d⟩) zq ?_
    rw[ag zq];exact af
  ·rintro xy g Y ⟨v,rfl,h1,yf,yd⟩
   rw[kj zv,cB]at yd;refine⟨bD _,λk yh=>?_⟩;have yo:=aK (o:=.lst []) yh;have yp:H k=none:=yf.free yh;refine⟨λm σ H2=>∃rest lv q L,D3 H rows l k m σ H2 rest lv q L,⟨_,rows,xy,[],xh,⟨none,rfl⟩,rfl,yo _ _ h1,jv yd λb xs C d=>⟨ay d yh,yo _ _ d⟩,ay h1 yh,af,zi,zx,yf.trans yo,by have:=o5 zi.short;have:=zi.a5;simp only[jq];omega,by cases cx (total rows) rows <;> rfl⟩,?_⟩
   rintro m σ H2 ⟨rest,lv,q,L,R⟩;obtain⟨zE,rfl⟩:=R.st;refine ah rfl ⟨L,rfl,⟨_,ak.of R.vG⟩,λxw xr=>?_⟩;refine fk (xs:=lv) (λi ys g W=>∃v:ad V,g=[v]/\ys=((rest.take i).map λr=>!r.isEmpty).map V.bl/\W xw=bd ys/\ax H2 W) ⟨none,rfl,rfl,af,aK xr⟩ (λi ys g W ab=>by obtain⟨_,_,_,O,S⟩:=ab;exact ⟨O,ak.of (S _ _ R.vG)⟩) ?_ ?_
   ·rintro i x ys g W D ⟨v,rfl,rfl,ya,za⟩
    obtain⟨a,r,rfl,J,_,T⟩:=lS R.rr D;have N:i<lv.length:=(b3.mp D).1;have tk:rest.take (i+1)=rest.take i++[r]:=by rw[dM,J];rfl
    have zd:=eO J;refine ah rfl ⟨bD _,λz zf=>?_⟩;have p:=aK (o:=.lst []) zf;refine ne_nil (p _ _ (za _ _ T)) af (R.sm.nm r zd) ?_;refine⟨p _ _ ya,?_,cw_next N (ah rfl ⟨by rw[tk,a',a'];rfl,af,λb o d=>by rw[ag (ay d xr)];exact p _ _ (za b o d)⟩)⟩
    have yc:=R.sm.a5;rw[aE,aE,cK,aW];omega
   ·rintro bs g W ⟨v,rfl,rfl,ya,za⟩
    rw[kj R.rr,cB]at ya;refine⟨xw,_,rfl,ak.of ya,_,rfl,?_⟩;have yy:((rest.map λr=>!r.isEmpty).any id)=rest.any λr=>!r.isEmpty:=by rw[wq];rfl
    rw[yy];have xd:=za _ _ R.vG;have xk:=za _ _ R.P4;have xe:gk (λa=>a≠k) W lv rest:=jv R.rr λb xs C d=>⟨C,za _ _ d⟩;have yr:=R.same.trans za;refine bY (λxj=>?_) (λxj=>?_)
    ·refine⟨λzy H'=>∃yw,yw<m /\∃rest lv q L,D3 H rows l k yw zy H' rest lv q L,λ_ _ z=>z,?_⟩
     refine ah rfl ⟨L,rfl,⟨_,ak.of xd⟩,λZ yl=>?_⟩;refine fk (xs:=lv) (λi ys g xb=>∃v:ad V,g=[v,am L]/\ys=(cQ rest (rest.take i)).map V.str/\xb Z=bd ys/\ax W xb) ⟨none,rfl,rfl,af,aK yl⟩ (λi ys g xb ab=>by obtain⟨_,_,_,O,S⟩:=ab;exact ⟨O,ak.of (S _ _ xd)⟩) ?_ ?_
     ·rintro i x ys g xb D ⟨v,rfl,rfl,yc,I⟩
      obtain⟨a,r,rfl,J,_,T⟩:=lS xe D;have N:i<lv.length:=(b3.mp D).1;have tk:rest.take (i+1)=rest.take i++[r]:=by rw[dM,J];rfl
      have zd:=eO J;have zp:=I _ _ T;refine ah rfl ⟨bD _,λz zf=>?_⟩;have p:=aK (o:=.lst []) zf;refine ne_nil (p _ _ zp) af (R.sm.nm r zd) (ah rfl ?_);have xa:=p _ _ yc;cases r with
      |nil=>exact cw_next N (ah rfl ⟨by rw[tk,m9];show _=(_++[]).map _;rw[eZ],xa,I.trans p⟩)
      |cons y t =>
       refine ah rfl ⟨L,rfl,⟨_,ak.of (p _ _ (I _ _ xd))⟩,λzw zr=>?_⟩;refine fk (xs:=lv) (λj ys g xg=>∃yb:ad V,g=[yb,am a]/\ys=((rest.take j).map λo=>decide (y∈o.drop 1)).map V.bl/\xg zw=bd ys/\ax (upd xb z (.lst [])) xg) ⟨none,rfl,rfl,af,aK zr⟩ (λj ys g xg ab=>by obtain⟨_,_,_,O,S⟩:=ab;exact ⟨O,ak.of (S _ _ (p _ _ (I _ _ xd)))⟩) ?_ ?_
       ·rintro j x ys g xg xt ⟨yb,rfl,rfl,zb,zc⟩
        obtain⟨b,o,rfl,xz,_,yz⟩:=lS xe xt;have ye:j<lv.length:=(b3.mp xt).1;have zh:rest.take (j+1)=rest.take j++[o]:=by rw[dM,xz];rfl
        have yt:=I.trans (p.trans zc);refine ah rfl ⟨a,_,0,.str y,rfl,rfl,ak.of (yt _ _ T),j4,?_⟩;refine aX rfl rfl ⟨b,_,rfl,ak.of (yt _ _ yz),λp2 zz=>?_⟩;have zC:fH (o.map V.str) (ih 1) none=(o.drop 1).map V.str:=by
         rw[show(1:Int)=((1:Nat):Int) from rfl,nG,lH]
        rw[zC];have M:=aK (o:=.lst ((o.drop 1).map V.str)) zz;refine⟨p2,_,rfl,.inl (ak.of af),rfl,jy _,?_⟩;rw[aq cc,iT];refine⟨M _ _ zb,?_,cw_next ye (ah rfl ⟨by rw[zh,a',a'];rfl,af,λc u U=>by rw[ag (ay U zr)];exact M _ _ (zc c u U)⟩)⟩
        have xx:=R.sm.a5;rw[aE,aE,cK,aW];omega
       ·rintro yE g xg ⟨yb,rfl,rfl,zb,zc⟩
        rw[kj xe,cB]at zb;refine⟨zw,_,rfl,ak.of zb,_,rfl,?_⟩;have xD:((rest.map λo=>decide (y∈o.drop 1)).any id)=busy rest y:=by unfold busy;rw[wq];rfl
        rw[xD];have zl:=p.trans zc;cases d:busy rest y with
        |true =>
         refine cw_next N (ah rfl ⟨?_,zc _ _ xa,I.trans zl⟩);rw[tk,m9];show _=(_++(if busy rest y then cQ rest [] else y::cQ rest [])).map _;rw[d];show _=(_++[]).map _;rw[eZ]
        |false =>
         refine ah rfl ⟨a,_,0,.str y,rfl,rfl,ak.of (zl _ _ zp),j4,zc _ _ xa,?_,cw_next N (ah rfl ⟨?_,af,λc u U=>by rw[ag (ay U yl)];exact zl _ _ (I c u U)⟩)⟩
         ·have xx:=sO rest (rest.take i)
          have xF:=R.sm.a5;rw[cK]at xx;rw[aE,aW];omega
         ·rw[tk,m9]
          show _=(_++(if busy rest y then cQ rest [] else y::cQ rest [])).map _;rw[d,a'];rfl
     ·rintro fr g xb ⟨v,rfl,rfl,yc,I⟩
      rw[kj xe,cB]at yc;have zt:∀x∈cQ rest rest,Nm x:=λx D=>by
       obtain⟨r,yn,e⟩:=pA D;exact R.sm.nm r yn x e
      have xA:=sD R.nd rest;refine ah rfl ⟨bD _,λz zf=>?_⟩;have p:=aK (o:=.lst []) zf;refine eq_nil (p _ _ yc) af zt (ah rfl ?_);have xm:fq rest=(cQ rest rest).head?:=xA.symm;have ym:=yr.trans (I.trans p);have xa:=p _ _ yc;have xq:=p _ _ (I _ _ xd);have yk:=p _ _ (I _ _ xk);generalize cQ rest rest=fr at xm xa zt⊢;cases fr with
      |nil =>
       refine qn ?_ _ ym;rw[R.eq,sA xj xm];rfl
      |cons n yD =>
       have e:fq rest=ih n:=xm;have lt:=lK (lR e);generalize yF:upd xb z (.lst [])=G at ym xa xq yk p⊢;have yA:gk (λa=>a≠k) G lv rest:=jv xe λb xs C d=>⟨C,p _ _ (I _ _ d)⟩;refine ah rfl ⟨.inl ⟨rfl,_,ak.of yk⟩,_,rfl,Z,_,0,.str n,rfl,rfl,ak.of xa,j4,k,_,_,rfl,rfl,yk,by have:=R.lim;rw[aE,aW];omega,?_⟩
       have zA:Z≠k:=aT (ay xk yl);have zb:(upd G k (.lst (q.map V.str++[.str n]))) Z=bd ((n::yD).map V.str):=by rw[ag zA];exact xa
       have zk:(upd G k (.lst (q.map V.str++[.str n]))) L=bd lv:=by rw[ag R.ne];exact xq
       have zg:(upd G k (.lst (q.map V.str++[.str n]))) k=bd ((q++[n]).map V.str):=by rw[af,a'];rfl
       have xu:ax H (upd G k (.lst (q.map V.str++[.str n]))):=λb o d=>by rw[ag (ay d yp)];exact ym b o d
       have zm:gk (λa=>a≠k) (upd G k (.lst (q.map V.str++[.str n]))) lv rest:=jv yA λb xs C d=>⟨C,by rw[ag C];exact d⟩
       generalize upd G k (.lst (q.map V.str++[.str n]))=zD at zb zk zg xu zm⊢;refine ah rfl ⟨L,rfl,⟨_,ak.of zk⟩,λyg xn=>?_⟩;have xB:yg≠k:=aT (ay zg xn);refine fk (xs:=lv) (λi ys g xc=>∃v:ad V,g=[v,am Z]/\xc yg=bd ys/\ax zD xc/\gk (λa=>a≠k/\a≠yg) xc ys (L2.without n (rest.take i))) ⟨none,rfl,af,aK xn,.nil⟩ (λi ys g xc ab=>by obtain⟨_,_,O,S,_⟩:=ab;exact ⟨O,ak.of (S _ _ zk)⟩) ?_ ?_
       ·rintro i x ys g xc D ⟨v,rfl,yj,M,ze⟩
        obtain⟨a,r,rfl,J,_,T⟩:=lS zm D;have N:i<lv.length:=(b3.mp D).1;have tk:rest.take (i+1)=rest.take i++[r]:=by rw[dM,J];rfl
        have zd:=eO J;have xl:=M _ _ T;have yq:=M _ _ zb;refine ah rfl ⟨a,rfl,⟨_,ak.of xl⟩,λb1 xf=>?_⟩;have yB:a≠b1:=ay xl xf;have zB:Z≠b1:=ay yq xf;have yu:b1≠yg:=aT (ay yj xf);have xC:b1≠k:=aT (ay (M _ _ zg) xf);refine fk (xs:=r.map V.str) (λj zs xi zj=>∃yb:ad V,xi=[yb,am Z]/\zs=((r.take j).filter λy=>!decide (y=n)).map V.str/\zj=upd xc b1 (.lst zs)) ⟨none,rfl,rfl,rfl⟩ (λj zs xi zj ⟨_,_,_,z⟩=>by rw[z];exact⟨af,ak.of (by rw[ag yB];exact xl)⟩) ?_ ?_
        ·rintro j x zs xi zj zu ⟨yb,rfl,rfl,rfl⟩
         have ye:j<(r.map V.str).length:=(b3.mp zu).1;have xv:j<r.length:=by simpa using ye
         obtain rfl:V.str r[j]=x:=by simpa [xv] using zu
         have zh:r.take (j+1)=r.take j++[r[j]]:=by rw[dM,bz xv];rfl
         refine aX rfl rfl ⟨Z,_,0,.str n,rfl,rfl,ak.of (by rw[ag zB];exact yq),j4,rfl,_,rfl,?_⟩
         refine bY (λyi=>?_) (λyi=>?_)
         ·have yx:r[j]≠n:=λz=>by rw[z]at yi;simp at yi
          refine ah rfl ⟨af,?_,cw_next ye (ah rfl ⟨?_,by rw[fu]⟩)⟩
          ·have h1:=gR (λy=>!decide (y=n)) (r.take j)
           have h2:(r.take j).length<=r.length:=by rw[cK];omega
           have ya:=R.sm.short r zd;rw[aE,aW];omega
          ·rw[zh,gS,a',oW (by simpa using yx)];rfl
         ·have xE:r[j]=n:=by
           by_cases z:r[j]=n
           ·exact z
           ·exact absurd (by simp[z]) yi
          refine cw_next ye (ah rfl ⟨?_,rfl⟩);rw[zh];simp[xE]
        ·rintro zs xi zj ⟨yb,rfl,rfl,rfl⟩
         rw[aE,cB];have zo:=aK (o:=.lst ((r.filter λy=>!decide (y=n)).map V.str)) xf;refine⟨zo _ _ yj,?_,cw_next N ⟨_,rfl,af,λb o d=>?_,?_⟩⟩
         ·have h1:=kj ze
          have h2:(L2.without n (rest.take i)).length<=rest.length:=by unfold L2.without;rw[aE,cK];omega
          have ya:=R.sm.a5;rw[aW];omega
         ·rw[ag (ay d xn)];exact zo _ _ (M b o d)
         ·have e1:L2.without n (rest.take (i+1))=L2.without n (rest.take i)++[r.filter λy=>!decide (y=n)]:=by rw[tk];unfold L2.without;rw[a'];rfl
          rw[e1];refine sh (jv ze λb xs C d=>⟨C,by rw[ag C.2];exact zo _ _ d⟩) ⟨xC,yu⟩ ?_
          rw[ag yu];exact af
       ·rintro ys g xc ⟨v,rfl,yj,M,ze⟩
        rw[kj zm,cB]at ze;refine⟨_,by rw[R.mm];exact lt,L2.without n rest,ys,q++[n],yg,⟨_,rfl⟩,rfl,yj,jv ze λb xs C d=>⟨C.1,d⟩,xB,M _ _ zg,w5 R.sm,Az R.nd,xu.trans M,?_,?_⟩
        ·have:=R.lim;rw[bX,jo];omega
        ·rw[R.eq,sC xj e,wX]
         congr 1
         funext z
         simp
    ·refine ah rfl (yC q ?_ k W yp yr xk)
     rw[R.eq,sy (by simpa using xj)]
     show ih (q++[])=ih q;rw[eZ]
structure hU(mg:FF->Option i'):Prop where
 mO:mg "isinstance" = none
 str:mg "str" = none
 dict:mg "dict" = none
 sorted:mg "sorted" = none
theorem l0:Vv "isinstance" = ih (.builtin "isinstance"):=by decide +kernel
theorem boot_str:Vv "str" = ih (.type "str"):=by decide +kernel
theorem boot_dict:Vv "dict" = ih (.type "dict"):=by decide +kernel
theorem boot_sorted:Vv "sorted" = ih (.builtin "sorted"):=by decide +kernel
theorem boot_all:Vv "all" = ih (.builtin "all"):=by decide +kernel
theorem He(K:YA)(h:X.K=K)(a:X.calm=true):cX X (.builtin "all") (λxs H Q=>∃(p:E8) (bs:ac Bool),xs=[.ref p]/\ak K H p (bs.map V.bl)/\Q (.bl (bs.all id)) H):=by subst h;exact ph a
theorem ite_ff{A B:Prop}{k:Bool}(a:k=false)(h:B):if k=true then A else B:=by subst a;exact h
theorem ite_tt{A B:Prop}{k:Bool}(a:k=true)(h:A):if k=true then A else B:=by subst a;exact h
inductive md(vs:List V)(H:Hp)(Q:VK)(E:XK):Prop
 |mk{x:FF}(_:vs=[.str x])(_:Nm x)(_:∀H',ax H H'->Q (.bl true) H'):md vs H Q E
theorem Mm:bj ["thing"] ["thing"] (aJ nL):=bB
abbrev OR:VD:=gp (my (bT (bE nL) 1))
theorem Du:b5 ["thing"] (aJ nL) ["sign"] [none] (cG OR):=dc
theorem Le(F:aS K "is_name" "is_name" nL f fd)(B:dq mg)(g:hU mg):aU P w K mg base aH 1 f fd ["thing"] md:=by
 refine F.bI Mm λQa A outer s H vs Q E u h=>?_
 ·obtain @⟨x,rfl,a,q⟩:=h
  intro X;refine⟨_,aw (bo (PW.pt (pw_or (hJ (hI (bV lU rfl g.mO l0 (aa (pv 0) (aa (l3 (v:=.ty "str") rfl g.str boot_str rfl) ai)))))
     (pw_or1 (hJ (I6 Dk Dk au (bV Gu rfl B.len eI (aa (pv 0) ai)) au))))) (aB (aZ jJ)) bG)
   (aB (aZ (bV (ph rfl) rfl B.all boot_all (aa (d3 rfl Du (Mb (pv 0)) (λs H fp=>⟨bf 0 Du.nd,et,I5 A9 A9 bt (pv 0) bt⟩)) ai)))),?_⟩
  have n:=a.lo;have o:=a.hi;have r:x.cps.size<=8:=a.hi;refine ah rfl ⟨⟨_,.inr ⟨"str",rfl⟩⟩,.str x,.ty "str",.type "str",.type "str",true,rfl,rfl,.inl (.str x),rfl,true,rfl,?_⟩;refine ah rfl ⟨x,rfl,by rw[aW];omega,1,x.length,rfl,rfl,_,rfl,?_⟩
  refine ite_tt (cf (by omega)) ?_
  refine⟨x.length,8,rfl,rfl,_,rfl,?_⟩;have l:decide ((x.length:Int)<=8)=true:=cf (by omega)
  rw[l];refine ah rfl ⟨x,rfl,λp m=>?_⟩;refine Jr (λi ys b Y=>∃d:ad V,b=[d]/\ys=(YL i true).map V.bl/\Y=upd H p (.lst ys)) ⟨none,rfl,rfl,rfl⟩ (λi ys b Y ⟨_,_,_,z⟩=>by rw[z];exact af) ?_ ?_
  ·rintro i c ys b Y j ⟨d,rfl,rfl,rfl⟩
   have k:i<x.cps.size:=by
    obtain⟨h,_⟩:=wm.mp j;exact h
   have t:=a.az c (aa3.mp (Vf j));have e1:(!decide ((⟨#[c]⟩:FF).cps.toList<(YD "a").cps.toList))=true:=by
    have : ¬ ([c] < [97]):=by simp[VJ];omega
    have e:(YD "a").cps.toList=[97]:=by decide +kernel
    rw[e];simpa using this
   have e2:(!decide ((YD "z").cps.toList<(⟨#[c]⟩:FF).cps.toList))=true:=by
    have : ¬ ([122] < [c]):=by simp[VJ];omega
    have e:(YD "z").cps.toList=[122]:=by decide +kernel
    rw[e];simpa using this
   refine ah rfl ⟨_,_,rfl,rfl,_,rfl,ite_tt e1 ⟨_,_,rfl,rfl,af,by rw[aE,vY,aW];omega,cw_next k (ah rfl ⟨?_,?_⟩)⟩⟩
   ·rw[e2,F2,a'];rfl
   ·rw[fu]
  ·rintro ys b Y ⟨d,rfl,rfl,rfl⟩
   refine⟨p,_,rfl,ak.of af,?_⟩;have:(YL x.cps.size true).all id=true:=by simp
   rw[this];exact q _ (aK m)
theorem IT{g:FF->V}{Q:VK}(e:H a=a2 (ps.map V.str))(f:H d=bn kvs)(r:∀x∈ps,bb kvs (n' x)=ih (g x))(h:H p=none)(t:ps.length<=100)
  (q:Q (.ref p) (upd H p (.lst (ps.map g)))):hQ (je K a) (iu 0) n5 (uC (gI 1) (gI 0)) [none,am d] Q p H:=by
 have i:a≠p:=ay e h;have l:d≠p:=ay f h;refine lV (xs:=ps.map V.str) (λj zs b H2=>∃c:ad V,b=[c,am d]/\zs=(ps.take j).map g/\H2=upd H p (.lst zs)) ⟨none,rfl,rfl,rfl⟩ (λj zs b H2 ⟨_,_,_,z⟩=>by rw[z];exact⟨af,aA.of (by rw[ag i];exact e)⟩) ?_ ?_
 ·rintro j x zs b H2 s ⟨c,rfl,rfl,rfl⟩
  obtain⟨m,n,rfl,o⟩:=uh s;refine aX rfl rfl ⟨d,g ps[j],rfl,?_,af,?_,cw_next m (ah rfl ⟨?_,by rw[fu]⟩)⟩
  ·rw[<-r _ (eP n)];exact b7.k (k:=n' ps[j]) (by rw[ag l];exact f)
  ·rw[aE,cK,aW];omega
  ·rw[o,a'];rfl
 ·rintro zs b H2 ⟨c,rfl,rfl,rfl⟩
  rw[aE,cB];exact q
theorem IU{g:FF->V}{Q:VK}(e:H a=bd (ps.map V.str))(f:H d=bn kvs)(r:∀x∈ps,bb kvs (n' x)=ih (g x))(h:H p=none)(t:ps.length<=100)
  (q:Q (.ref p) (upd H p (.lst (ps.map g)))):hQ (jZ K a) (iu 0) n5 (uC (gI 1) (gI 0)) [none,am d] Q p H:=by
 have i:a≠p:=ay e h;have l:d≠p:=ay f h;refine fk (xs:=ps.map V.str) (λj zs b H2=>∃c:ad V,b=[c,am d]/\zs=(ps.take j).map g/\H2=upd H p (.lst zs)) ⟨none,rfl,rfl,rfl⟩ (λj zs b H2 ⟨_,_,_,z⟩=>by rw[z];exact⟨af,ak.of (by rw[ag i];exact e)⟩) ?_ ?_
 ·rintro j x zs b H2 s ⟨c,rfl,rfl,rfl⟩
  obtain⟨m,n,rfl,o⟩:=uh s;refine aX rfl rfl ⟨d,g ps[j],rfl,?_,af,?_,cw_next m (ah rfl ⟨?_,by rw[fu]⟩)⟩
  ·rw[<-r _ (eP n)];exact b7.k (k:=n' ps[j]) (by rw[ag l];exact f)
  ·rw[aE,cK,aW];omega
  ·rw[o,a'];rfl
 ·rintro zs b H2 ⟨c,rfl,rfl,rfl⟩
  rw[aE,cB];exact q
def rowsOf(L:FF->List FF)(ps:List FF):List (List FF):=ps.map L++[ps]
def gM(H:Hp)(kvs:List (Key×V))(L:FF->List FF)(x:FF):Prop:= ∃a,bb kvs (n' x)=ih (.ref a)/\H a=ih (.tup ((L x).map V.str))
theorem gM.same(h:gM H kvs L x)(s:ax H H'):gM H' kvs L x:=let ⟨a,e,q⟩:=h;⟨a,e,s _ _ q⟩
theorem Lf(h:∀x∈ps,gM H kvs L x):∃g:FF->V,(∀x∈ps,bb kvs (n' x)=ih (g x))/\dY H (ps.map g) (ps.map L):=by
 refine⟨λx=>(bb kvs (n' x)).getD .aO,λx b=>?_,?_⟩
 ·obtain⟨a,e,_⟩:=h x b;show _=ih ((bb kvs (n' x)).getD V.aO);rw[e];rfl
 ·induction ps with
  |nil=>exact .nil
  |cons x ps c =>
   obtain⟨a,e,q⟩:=h x aY;exact .cons ⟨a,by show(bb kvs (n' x)).getD V.aO=_;rw[e];rfl,q⟩ (c λy d=>h y (bc _ d))
inductive qN(vs:List V)(H:Hp)(Q:VK)(E:XK):Prop
 |mk{d pa:E8}{kvs:List (Key×V)}{L:FF->List FF}{k:FF}{ps o:List FF}(_:vs=[.ref d,.str k,.ref pa])(_:H d=ih (.dK kvs))(_:H pa=ih (.tup (ps.map V.str)))(_:(∀x∈ps,gM H kvs L x))(_:Small (rowsOf L ps))(_:cx (total (rowsOf L ps)) (rowsOf L ps)=ih o)(_:o.length<=100)(_:∀p H',ax H H'->H' p=ih (.tup ((k::o).map V.str))->Q (.ref p) H'):qN vs H Q E
abbrev EK:List FF:=["lines","kind","parents","rows","refusal"]
theorem D5:bj EK ["lines","kind","parents"] (aJ nq):=bB
def D6(e:VD):VD:=match e with|.BinOp a _ _ _=>a|_=>.Constant .none 0 ⟨0,0,0,0⟩
abbrev P9:VD:=D6 (gp (fg (bT (bE nq) 0)))
theorem D7:b5 EK (aJ nq) ["parent","lines"] [none,ih 0] (cG P9):=dc
theorem Ni{z:E8}{v:Ye}(F:aS K "line_from" "line_from" nq f fd)(B:dq mg)(C:bH P w K mg base aH 3 z v ["rows"] pJ "merged") :
  aU P w K mg base aH 4 f fd ["lines","kind","parents"] qN:=by
 refine F.bI D5 λQa A outer s H vs Q E a h=>?_
 ·obtain @⟨d,b,kvs,L,k,ps,o,rfl,D,e,G,n,I,xb,q⟩:=h
  have J:=a.units;have x:=eF J;intro X;refine⟨_,aw (a3 3 D5.nd (dy iP rfl B.tuple boot_tuple (aa (bA hK (d3 rfl D7 (kH (pv 2)) (λs H fp=>⟨bf 0 D7.nd,et,d4 x (pv 1) (pv 0) (λ_ _=>rfl)⟩)) (eu (aa (pv 2) ai))) ai)))
   (aB (Jq (aB (aZ (bA CA (b9 (aa (pv 1) ai)) (ba C a (aa (pv 3) ai))))) rfl)),?_⟩
  obtain⟨g,M,N⟩:=Lf G;have yb:ps.length<=20:=n.short ps (d7 _ aY);refine ah rfl ⟨b,rfl,⟨_,aA.of e⟩,λc t=>IT e D M t (by omega) ?_⟩
  have O:=aK (o:=.lst (ps.map g)) t;refine ah rfl ⟨eM,λR j=>?_⟩;have S:=O.trans (aK (o:=.lst [V.ref b]) j);refine⟨c,R,_,_,rfl,rfl,by rw[ag (ay af j)];exact af,af,by rw[aE,aW];show _+1<=_;omega,λT y=>?_⟩
  have U:=S.trans (aK (o:=.lst (ps.map g++[V.ref b])) y);refine⟨T,_,rfl,.inl ⟨ak.of af,λr a=>?_⟩⟩;have W:=U.trans (aK (o:=.tup (ps.map g++[V.ref b])) a);refine ah rfl ⟨eM,λY l=>?_⟩;have i:=W.trans (aK (o:=.tup [V.str k]) l);refine ah rfl (pJ.mk rfl (rows:=rowsOf L ps) (by rw[ag (ay af l)];exact af) (dY.append (N.same i) (i _ _ e)) n I λm xc zb u Z=>?_)
  refine⟨Y,m,_,_,rfl,rfl,u _ _ af,Z,by rw[aE,aW];show 1+_<=_;omega,λp xa ya za=>?_⟩
  exact q p xa (i.trans (u.trans ya)) za
def dg(H:Hp)(vs:List V)(Qb:List (FF×List FF)):Prop:=VX (λy p=>∃a b,y=V.ref a/\H a=ih (.tup [.str p.1,.ref b])/\H b=ih (.tup (p.2.map V.str))) vs Qb
theorem dg.keep(h:dg H vs Qb)(s:∀b xs,H b=a2 xs->H' b=a2 xs):dg H' vs Qb:=Paired.imp' (λ_ _ c=>by obtain⟨a,b,e,q,r⟩:=c;exact ⟨a,b,e,s _ _ q,s _ _ r⟩) h
theorem dg.same(h:dg H vs Qb)(s:ax H H'):dg H' vs Qb:=h.keep λ_ _ e=>s _ _ e
theorem dg.length(h:dg H vs Qb):vs.length=Qb.length:=cN h
theorem dg.append{p:FF×List FF}(h:dg H vs Qb)(q:H a=a2 [.str p.1,.ref b])(r:H b=a2 (p.2.map V.str)):dg H (vs++[.ref a]) (Qb++[p]):=gQ h ⟨a,b,rfl,q,r⟩
structure jM(Qb:List (FF×List FF))(L:FF->List FF):Prop where
 nd:(Qb.map (·.1)).Nodup
 a5:Qb.length<=8
 nm:∀p∈Qb,Nm p.1
 up:∀p∈Qb,∀x∈p.2,∃q∈Qb,q.1=x
 rank:∃r:FF->Nat,∀p∈Qb,∀x∈p.2,r x<r p.1
 line:∀p∈Qb,Small (rowsOf L p.2) /\∃o,cx (total (rowsOf L p.2)) (rowsOf L p.2)=ih o/\L p.1=p.1::o/\o.length<=100
theorem jM.perm{b:ac (FF×List FF)}(h:jM Qb L)(p:b.Perm Qb):jM b L:=by
 have m:∀{q},q∈b ↔ q∈Qb:=λ{q}=>p.mem_iff;obtain⟨r,c⟩:=h.rank;exact⟨(p.map _).nodup_iff.mpr h.nd,by rw[p.length_eq];exact h.a5,λq a=>h.nm q (m.mp a),λq a x d=>let ⟨z,f,e⟩:=h.up q (m.mp a) x d;⟨z,m.mpr f,e⟩,⟨r,λq a=>c q (m.mp a)⟩,λq a=>h.line q (m.mp a)⟩
def isDone(kvs:List (Key×V))(x:FF):Bool:=(bb kvs (n' x)).isSome
theorem JR{rest:ac (FF×List FF)}(ok:jM Qb L)(sub:∀p∈rest,p∈Qb)(all:∀p∈Qb,dn p.1=true\/p∈rest)(ne:rest ≠ []):∃p∈rest,∀x∈p.2,dn x=true:=by
 obtain⟨r,f⟩:=ok.rank;have c:∀n,∀p∈rest,r p.1=n ->∃q∈rest,∀x∈q.2,dn x=true:=by
  intro n
  induction n using ZP with
  |_ n g =>
   intro p a e
   by_cases h:∀x∈p.2,dn x=true
   ·exact⟨p,a,h⟩
   ·simp only[acS]at h
    obtain⟨x,b,d⟩:=h;obtain⟨q,i,rfl⟩:=ok.up p (sub p a) x b;have lt:=f p (sub p a) q.1 b;rcases all q i with z|z
    ·exact absurd z d
    ·exact g _ (by omega) q z rfl
 cases rest with
 |nil=>exact absurd rfl ne
 |cons p t=>exact c _ p aY rfl
def fw(dn:FF->Bool)(rest:List (FF×List FF)):List (FF×List FF):=rest.filter λp=>(p.2.map dn).all id
theorem Bp{rest:ac (FF×List FF)}{p:FF×List FF}:p∈fw dn rest ↔ p∈rest /\∀x∈p.2,dn x=true:=by
 unfold fw;rw[fj,List.all_map,mY];rfl
theorem AA{α:Type}(f:α->Bool):∀l:ac α,(l.filter f).length+(l.filter λx=>!f x).length=l.length
 |[]=>rfl
 |x::l=>by
  have a:=AA f l;cases h:f x <;> simp[m5,h] <;> omega
theorem IV{rE:FF->Bool}{rest:ac (FF×List FF)}(h:∀p∈fw dn rest,rE p.1=true):(rest.filter λp=>!rE p.1).length+(fw dn rest).length<=rest.length:=by
 have e:rest.length=(rest.filter λp=>(p.2.map dn).all id).length+(rest.filter λp=>!(p.2.map dn).all id).length:=by
  exact(AA (λp:FF×List FF=>(p.2.map dn).all id) rest).symm
 have b:(rest.filter λp=>!rE p.1).length<=(rest.filter λp=>!(p.2.map dn).all id).length:=by
  rw[<-VL,<-VL];refine List.countP_mono_left λp a h1=>?_;cases z:(p.2.map dn).all id with
  |false=>rfl
  |true =>
   have:=h p (fj.mpr ⟨a,z⟩);rw[this]at h1;cases h1
 unfold fw;omega
theorem JS{Q:VK}(e:H a=a2 (ps.map V.str))(f:H d=bn kvs)(g:H p=none)(r:ps.length<=100)
  (q:Q (.ref p) (upd H p (.lst ((ps.map (isDone kvs)).map V.bl)))):hQ (je K a) (iu 0) n5 (u6 (gI 0) (gI 1)) [none,am d] Q p H:=by
 have h:a≠p:=ay e g;have i:d≠p:=ay f g;refine lV (xs:=ps.map V.str) (λj zs b H2=>∃c:ad V,b=[c,am d]/\zs=((ps.take j).map (isDone kvs)).map V.bl/\H2=upd H p (.lst zs)) ⟨none,rfl,rfl,rfl⟩ (λj zs b H2 ⟨_,_,_,z⟩=>by rw[z];exact⟨af,aA.of (by rw[ag h];exact e)⟩) ?_ ?_
 ·rintro j x zs b H2 n ⟨c,rfl,rfl,rfl⟩
  obtain⟨l,o,rfl,m⟩:=uh n;refine aX rfl rfl ⟨d,_,rfl,b7.k (k:=n' ps[j]) (by rw[ag i];exact f),af,?_,cw_next l (ah rfl ⟨?_,by rw[fu]⟩)⟩
  ·rw[aE,aE,cK,aW];omega
  ·rw[m,a',a'];rfl
 ·rintro zs b H2 ⟨c,rfl,rfl,rfl⟩
  rw[aE,cB];exact q
def kS(Qb:List (FF×List FF))(kvs:List (Key×V)):Prop:=(kvs.map (·.1)).Nodup /\∀k∈kvs.map (·.1),∃p∈Qb,k=n' p.1
theorem Bq(kvs:ac (Key×V))(k:Key)(v:V):(k∈kvs.map (·.1)/\(putK kvs k v).map (·.1)=kvs.map (·.1))\/(k ∉ kvs.map (·.1)/\(putK kvs k v).map (·.1)=kvs.map (·.1)++[k]):=by
 have e:(kvs.any λa=>decide (a.1=k))=true ↔ k∈kvs.map (·.1):=by
  rw[lC,a6];exact⟨λ⟨x,h,d⟩=>⟨x,h,dQ d⟩,λ⟨x,h,d⟩=>⟨x,h,cf d⟩⟩
 unfold putK
 by_cases h:k∈kvs.map (·.1)
 ·refine .inl ⟨h,?_⟩
  rw[aF (e.mpr h),c7];refine m1 λa _=>?_;show(if a.1=k then (a.1,v) else a).1=a.1;split <;> rfl
 ·refine .inr ⟨h,?_⟩
  rw[aq λz=>h (e.mp z),a'];rfl
theorem JT{k j:Key}:j∈(putK kvs k v).map (·.1) ↔ j=k\/j∈kvs.map (·.1):=by
 rcases Bq kvs k v with⟨h,e⟩|⟨h,e⟩
 ·rw[e];exact⟨.inr,λz=>z.elim (λe=>e ▸ h) id⟩
 ·rw[e,bK,bN];exact Or.comm
theorem Lg{k:Key}(h:(kvs.map (·.1)).Nodup):((putK kvs k v).map (·.1)).Nodup:=by
 rcases Bq kvs k v with⟨_,e⟩|⟨c,e⟩
 ·rw[e];exact h
 ·rw[e,dw]
  exact⟨h,by simp,λa d b f e=>c (by rw[<-(bN.mp f),<-e];exact d)⟩
theorem kS.put{p:FF×List FF}(h:kS Qb kvs)(a:p∈Qb):kS Qb (putK kvs (n' p.1) v):=by
 refine⟨Lg h.1,λk b=>?_⟩;rcases JT.mp b with z|z
 ·exact⟨p,a,z⟩
 ·exact h.2 k z
theorem B8:∀{kvs:ac (Key×V)}{x:FF},isDone kvs x=true->n' x∈kvs.map (·.1)
 |[],x,h=>by cases h
 |(a,b)::kvs,x,h=>by
  by_cases e:a=n' x
  ·rw[e];exact aY
  ·unfold isDone at h;rw[eR e]at h
   exact bc _ (B8 h)
theorem HN{α:Type}{a b:ac α}(c:a.Nodup)(d:b.Nodup)(h:∀x,x∈a ↔ x∈b):a.Perm b:=(VM c d).mpr h
theorem Mn{l:ac FF}(h:l.Nodup):(l.map (n':FF->Key)).Nodup:=by
 induction l with
 |nil=>exact fc
 |cons x l a =>
  rw[d8]at h;rw[b4,d8];refine⟨λz=>?_,a h.2⟩;obtain⟨y,b,e⟩:=a6.mp z;exact h.1 (gx e ▸ b)
theorem kS.perm(h:kS Qb kvs)(ok:jM Qb L)(all:∀p∈Qb,isDone kvs p.1=true):(kvs.map (·.1)).Perm ((Qb.map (·.1)).map n'):=by
 refine HN h.1 (Mn ok.nd) λx=>⟨λa=>?_,λa=>?_⟩
 ·obtain⟨p,b,rfl⟩:=h.2 x a
  exact a6.mpr ⟨p.1,a6.mpr ⟨p,b,rfl⟩,rfl⟩
 ·obtain⟨y,c,rfl⟩:=a6.mp a
  obtain⟨p,b,rfl⟩:=a6.mp c;exact B8 (all p b)
structure D8(H:Hp)(Qb:List (FF×List FF))(L:FF->List FF)(t d:E8)(m:Nat)(σ:St)(Y:Hp)(kvs:List (Key×V))(rest:List (FF×List FF))(wv:List V)(wa:E8):Prop where
 st:∃v3 v4 v5:Option V,σ=[ih (.ref t),ih (.ref d),ih (.ref wa),v3,v4,v5]
 mm:m=rest.length
 hd:Y d=ih (.dK kvs)
 hw:Y wa=ih (.lst wv)
 fv:dg Y wv rest
 sub:∀p∈rest,p∈Qb
 all:∀p∈Qb,isDone kvs p.1=true\/p∈rest
 ln:∀x,isDone kvs x=true->gM Y kvs L x
 same:ax H Y
 lim:kvs.length+rest.length<=8
 ky:kS Qb kvs
inductive pX(vs:List V)(H:Hp)(Q:VK)(E:XK):Prop
 |mk{t:E8}{o:YO}{ws:List V}{Qb:List (FF×List FF)}{L:FF->List FF}(_:vs=[.ref t])(_:H t=ih (.bw o (.tup ws)))(_:dg H ws Qb)(_:jM Qb L)(_:∀d kvs H',H d=none->ax H H'->H' d=ih (.dK kvs)->(∀p∈Qb,gM H' kvs L p.1)->(kvs.map (·.1)).Perm ((Qb.map (·.1)).map n')->Q (.ref d) H'):pX vs H Q E
noncomputable abbrev vH:List FF:=["family","lines","waiting","ready","kind","parents"]
theorem kX:bj vH ["family"] (aJ mc):=bB
abbrev D9:Vj:=bT (bE mc) 2
abbrev vd:VD:=fg (bT (nu D9) 0)
abbrev OS:VD:=gp (De vd)
abbrev OT:VD:=fg (bT (nu D9) 3)
theorem Dv:b5 vH (aJ mc) ["pair","lines"] [none,ih 1] (cG vd):=dc
theorem Nj:b5 ["pair","lines"] (relabel (cG vd) env) ["parent","lines"] [none,ih 1] (cG OS):=nest rfl (by decide +kernel) (by decide +kernel) rfl (by decide +kernel) (by decide +kernel)
theorem Nk:(["parent","lines"]:ac FF).Nodup:=by decide +kernel
theorem Dw:b5 vH (aJ mc) ["pair","lines"] [none,ih 1] (cG OT):=dc
theorem JU{fF:E8}{yp:Ye}(F:aS K "lines_of" "lines_of" mc f fd)(B:dq mg)(yw:bH P w K mg base aH 4 fF yp ["lines","kind","parents"] qN "line_from") :
  aU P w K mg base aH 5 f fd ["family"] pX:=by
 refine F.bI kX λQa A outer s H vs Q E zl h=>?_
 ·obtain @⟨t,o,ws,Qb,L,rfl,zw,xo,ok,q⟩:=h
  have xx:=zl.units;have xg:=eF xx;intro X;refine⟨_,aw (il (i:=1) kX.nd rfl (Y3 rfl) lX)
   (aw (a3 2 kX.nd (dy ki rfl B.list boot_list (aa (pv 0) ai)))
   (aw (nz d9 (kz (pv 2) (λ_=>rfl))
    (aw (lP rfl Dv kX.nd (i:=3) rfl rfl (c8 (pv 2)) (λs H fp=>⟨bf 0 Dv.nd,
      iS (hI (bV (He K rfl rfl) rfl B.all boot_all (aa (d3 rfl Nj (BK K rfl (aV (jA K rfl) (pv 0) au)) (λs H fp=>⟨bf 0 Nk,et,LL (i1 xg (pv 0) (pv 1))⟩)) ai))),
      pv 0⟩))
    (aw (bo (hJ (kz (pv 3) (λ_=>rfl))) (aB (aZ (pv 1))) bG)
    (aw (eK d9 rfl (c8 (pv 3)) (ik rfl (c2 (bf 4 kX.nd) (c2 (bf 5 kX.nd) gB)))
     (aB (gC xg (pv 1) (pv 4) (ba yw zl (aa (pv 1) (aa (pv 4) (aa (pv 5) ai)))) rfl)))
    (aB (lP rfl Dw kX.nd (i:=2) rfl rfl (c8 (pv 2)) (λs H fp=>⟨bf 0 Dw.nd,
      iS (fX (pq xg (aV (jA K rfl) (pv 0) au) (pv 1))),pv 0⟩)))))))
   (aB (aZ (pv 1))))),?_⟩
  intro d zi;have xm:=aK (o:=.dK []) zi;refine ah rfl ⟨t,ws,rfl,.inr (.inl (.inr ⟨o,xm _ _ zw⟩)),λG zj=>?_⟩;have ym:=xm.trans (aK (o:=.lst ws) zj);have zp:d≠G:=ay af zj;refine⟨λm σ Y=>∃kvs rest v G,D8 H Qb L t d m σ Y kvs rest v G,⟨_,[],Qb,ws,G,⟨none,none,none,rfl⟩,rfl,by rw[ag zp];exact af,af,xo.same ym,λ_ h=>h,λ_ h=>.inr h,λx h=>(by cases h),ym,by have:=ok.a5;rw[jq];omega,⟨fc,λ_ h=>(by cases h)⟩⟩,?_⟩
  rintro m σ Y ⟨kvs,rest,v,G,R⟩;obtain⟨zz,xc,yc,rfl⟩:=R.st;have yb:=R.fv.length;refine ah rfl ⟨_,.inl ⟨_,ak.of R.hw,rfl⟩,?_⟩;refine bY (λzc=>?_) (λzc=>?_)
  ·refine⟨λxq H'=>∃zm,zm<m /\∃kvs rest v G,D8 H Qb L t d zm xq H' kvs rest v G,λ_ _ z=>z,?_⟩
   refine ah rfl ⟨G,rfl,⟨_,ak.of R.hw⟩,λyf yg=>?_⟩;have yq:∀{b:E8}{u:HO},H b=ih u->b≠d:=λe=>ay e zi;have zq:d≠yf:=ay R.hd yg;refine fk (xs:=v) (λi ys J N=>∃W:ad V,J=[W,am d]/\N yf=bd ys/\ax Y N/\dg N ys (fw (isDone kvs) (rest.take i))) ⟨none,rfl,af,aK yg,.nil⟩ (λi ys J N ab=>by obtain⟨_,_,z1,z2,_⟩:=ab;exact ⟨z1,ak.of (z2 _ _ R.hw)⟩) ?_ ?_
   ·rintro i x ys J N g ⟨W,rfl,C,D,O⟩
    have ya:i<v.length:=(b3.mp g).1;obtain⟨p,n,a,b,rfl,za,j⟩:=l5 R.fv g;have tk:rest.take (i+1)=rest.take i++[p]:=by rw[dM,n];rfl
    have xd:=R.sub p (eO n);have xz:p.2.length<=20:=(ok.line p xd).1.short p.2 (d7 _ aY);have zg:=D _ _ za;have yd:=D _ _ j;refine ah rfl ⟨a,_,1,.ref b,rfl,rfl,aA.of zg,(show cZ [V.str p.1,V.ref b] ((1:Nat):Int)=ih (.ref b) from cw rfl),?_⟩;refine⟨b,rfl,⟨_,aA.of yd⟩,λc xn=>JS yd (D _ _ R.hd) xn (by omega) ?_⟩
    have S:=aK (o:=.lst ((p.2.map (isDone kvs)).map V.bl)) xn;refine⟨c,_,rfl,ak.of af,_,rfl,?_⟩;refine bY (λxh=>?_) (λxh=>?_)
    ·refine ah rfl ⟨S _ _ C,?_,cw_next ya ⟨_,rfl,af,λb o j=>by rw[ag (ay j yg)];exact S _ _ (D b o j),?_⟩⟩
     ·have h1:=O.length
      have h2:(fw (isDone kvs) (rest.take i)).length<=(rest.take i).length:=gR _ _;have C:=R.lim;rw[cK]at h2;rw[aW];omega
     ·have e1:fw (isDone kvs) (rest.take (i+1))=fw (isDone kvs) (rest.take i)++[p]:=by
       rw[tk];unfold fw;rw[gS,oW (by exact xh)];rfl
      rw[e1];refine dg.append (O.keep λb xs j=>?_) ?_ ?_ (b:=b)
      ·rw[ag (ar j C)];exact S _ _ j
      ·rw[ag (ar zg C)];exact S _ _ zg
      ·rw[ag (ar yd C)];exact S _ _ yd
    ·refine cw_next ya (ah rfl ⟨S _ _ C,D.trans S,?_⟩)
     have e1:fw (isDone kvs) (rest.take (i+1))=fw (isDone kvs) (rest.take i):=by
      rw[tk];unfold fw;rw[gS,r4 (by exact xh)];simp
     rw[e1];exact O.same S
   ·rintro zf J N ⟨W,rfl,C,D,O⟩
    rw[yb,cB]at O;have yh:=O.length;have zb:=D _ _ R.hd;have xk:=D _ _ R.hw;have xr:dg N v rest:=R.fv.same D;have yo:rest ≠ []:=λz=>by
     rw[z]at yb;have:v=[]:=lF yb;rw[this]at zc;cases zc
    obtain⟨yx,yr,zo⟩:=JR ok R.sub R.all yo;have zd:yx∈fw (isDone kvs) rest:=Bp.mpr ⟨yr,zo⟩;generalize xe:fw (isDone kvs) rest=xa at O yh zd;have xp:(!zf.isEmpty)=true:=by
     cases zf with
     |nil =>
      have:xa=[]:=lF yh.symm;rw[this]at zd;cases zd
     |cons _ _=>rfl
    refine ah rfl ⟨_,.inl ⟨_,ak.of C,rfl⟩,?_⟩;rw[xp];refine⟨_,rfl,yf,rfl,⟨_,ak.of C⟩,ie (xs:=zf) (λi σ M=>∃(l:ac (Key×V)) (xc yc:ad V),σ=[am t,am d,am G,am yf,xc,yc]/\M d=bn l/\l.length<=kvs.length+i /\
     (∀b u,b≠d->N b=ih u->M b=ih u)/\(∀x,isDone l x=true->gM M l L x)/\(∀x,isDone kvs x=true->isDone l x=true)/\(∀p∈xa.take i,isDone l p.1=true)/\kS Qb l)
     ⟨kvs,xc,yc,rfl,zb,aQ _,λ_ _ _ e=>e,λx g=>(R.ln x g).same D,λ_ h=>h,λp n=>(by cases n),R.ky⟩ (λi σ M _ ab=>by obtain⟨_,_,_,_,_,_,z,_⟩:=ab;exact ak.of (z _ _ (aT zq) C)) ?_ ?_⟩
    ·rintro i x σ M g ⟨l,xc,yc,rfl,T,zr,U,ye,ze,xf,zh⟩
     have ya:i<zf.length:=(b3.mp g).1;obtain⟨p,n,a,b,rfl,za,j⟩:=l5 O g;have tk:xa.take (i+1)=xa.take i++[p]:=by rw[dM,n];rfl
     have xt:p∈fw (isDone kvs) rest:=by rw[xe];exact eO n
     obtain⟨xd,yt⟩:=Bp.mp xt;obtain⟨zt,xA,xu,zx,yu⟩:=ok.line p (R.sub p xd);have zu:=U _ _ (ar za zb) za
     have xv:=U _ _ (ar j zb) j
     refine⟨a,_,rfl,aA.of zu,rfl,_,_,rfl,_,_,rfl,rfl,?_⟩;refine dZ rfl rfl rfl (qN.mk rfl T xv (λx g=>ye x (ze x (yt x g))) zt xu yu λxj Z r I=>?_);refine aX rfl rfl ⟨d,_,rfl,eW.k (k:=n' p.1) (r _ _ T) ?_,?_⟩
     ·have h1:=R.lim
      have h2:xa.length<=rest.length:=by rw[<-xe];exact gR _ _
      rw[aW];omega
     ·have xy:xj≠d:=ar I (r _ _ T)
      refine⟨_,_,_,rfl,af,?_,λb u yn e=>?_,λx g=>?_,λx g=>?_,λy zn=>?_,zh.put (R.sub p xd)⟩
      ·have:=lO l (n' p.1) (V.ref xj);omega
      ·rw[ag yn];exact r _ _ (U b u yn e)
      ·unfold gM
       rw[kB]
       by_cases e:x=p.1
       ·subst e
        refine⟨xj,by rw[aF rfl],?_⟩
        rw[ag xy,zx];exact I
       ·have e2 : ¬ ((n' x:Key)=n' p.1):=λz=>e (gx z)
        have yv:isDone l x=true:=by unfold isDone at g⊢;rw[kB,aq e2]at g;exact g
        obtain⟨yy,zy,yk⟩:=ye x yv;refine⟨yy,by rw[aq e2];exact zy,?_⟩
        rw[ag (ar yk T)];exact r _ _ yk
      ·unfold isDone;rw[kB]
       split
       ·rfl
       ·exact ze x g
      ·unfold isDone;rw[kB]
       split
       ·rfl
       ·rename_i yj
        rw[tk]at zn;rcases bK.mp zn with z|z
        ·exact xf _ z
        ·have:y=p:=by simpa using z
         exact absurd (by rw[this]) yj
    ·rintro σ M ⟨l,xc,yc,rfl,T,zr,U,ye,ze,xf,zh⟩
     rw[yh,cB]at xf;have zv:dg M v rest:=xr.keep λb xs e=>U _ _ (ar e zb) e
     have zk:=U _ _ (ar xk zb) xk
     have xw:ax H M:=λb u e=>U b u (yq e) (D _ _ (R.same b u e));refine ah rfl ⟨G,rfl,⟨_,ak.of zk⟩,λwb xl=>?_⟩;refine fk (xs:=v) (λi ys J Z=>∃W:ad V,J=[W,am d]/\Z wb=bd ys/\ax M Z/\dg Z ys ((rest.take i).filter λp=>!isDone l p.1)) ⟨none,rfl,af,aK xl,.nil⟩ (λi ys J Z ab=>by obtain⟨_,_,z1,z2,_⟩:=ab;exact ⟨z1,ak.of (z2 _ _ zk)⟩) ?_ ?_
     ·rintro i x ys J Z g ⟨W,rfl,I,r,xb⟩
      have ya:i<v.length:=(b3.mp g).1;obtain⟨p,n,a,b,rfl,za,j⟩:=l5 zv g;have tk:rest.take (i+1)=rest.take i++[p]:=by rw[dM,n];rfl
      have xi:=r _ _ za;have yl:=r _ _ j;refine ah rfl ⟨a,_,0,.str p.1,rfl,rfl,aA.of xi,(show cZ [V.str p.1,V.ref b] ((0:Nat):Int)=ih (.str p.1) from cw rfl),?_⟩;refine ah rfl ⟨d,_,rfl,b7.k (k:=n' p.1) (r _ _ T),_,rfl,?_⟩;refine bY (λyi=>?_) (λyi=>?_)
      ·refine ah rfl ⟨I,?_,cw_next ya ⟨_,rfl,af,λb o j=>by rw[ag (ay j xl)];exact r b o j,?_⟩⟩
       ·have h1:=xb.length
        have h2:=gR (λp:FF×List FF=>!isDone l p.1) (rest.take i);have C:=R.lim;rw[cK]at h2;rw[aW];omega
       ·rw[tk,gS,oW (by exact yi)]
        refine dg.append (xb.keep λb xs j=>?_) ?_ ?_ (b:=b)
        ·rw[ag (ar j I)];exact j
        ·rw[ag (ar xi I)];exact xi
        ·rw[ag (ar yl I)];exact yl
      ·refine cw_next ya (ah rfl ⟨I,r,?_⟩)
       rw[tk,gS,r4 (by exact yi),r3,eZ]
       exact xb
     ·rintro ys J Z ⟨W,rfl,I,r,xb⟩
      rw[yb,cB]at xb;have less:=IV (dn:=isDone kvs) (rE:=isDone l) (rest:=rest) (by rw[xe];exact xf)
      rw[xe]at less;have yz:0<xa.length:=Fs zd;refine⟨_,by rw[R.mm];omega,l,rest.filter λp=>!isDone l p.1,ys,wb,⟨_,_,_,rfl⟩,rfl,r _ _ T,I,xb,λp n=>R.sub p (fj.mp n).1,λp n=>?_,λx g=>(ye x g).same r,xw.trans r,?_,?_⟩
      ·cases e:isDone l p.1 with
       |true=>exact .inl rfl
       |false =>
        refine .inr ?_;rcases R.all p n with z|z
        ·rw[ze _ z]at e;cases e
        ·exact fj.mpr ⟨z,by rw[e];rfl⟩
      ·have h1:=R.lim
       omega
      ·exact zh
  ·have yj:rest=[]:=by
    cases v with
    |nil=>exact lF yb.symm
    |cons _ _=>exact absurd rfl zc
   have dn:∀p∈Qb,isDone kvs p.1=true:=λp n=>by
    rcases R.all p n with z|z
    ·exact z
    ·rw[yj]at z;cases z
   exact ah rfl (q d kvs Y zi R.same R.hd (λp n=>R.ln p.1 (dn p n)) (R.ky.perm ok dn))
def eg(H:Hp)(kvs:List (Key×V))(L:FF->List FF)(x:FF):Prop:= ∃a,bb kvs (n' x)=ih (.ref a)/\H a=ih (.lst ((L x).map V.str))
theorem eg.same(h:eg H kvs L x)(s:ax H H'):eg H' kvs L x:=let ⟨a,e,q⟩:=h;⟨a,e,s _ _ q⟩
theorem Lh(h:∀x∈ps,eg H kvs L x):∃g:FF->V,(∀x∈ps,bb kvs (n' x)=ih (g x))/\gk (λ_=>True) H (ps.map g) (ps.map L):=by
 refine⟨λx=>(bb kvs (n' x)).getD .aO,λx b=>?_,?_⟩
 ·obtain⟨a,e,_⟩:=h x b;show _=ih ((bb kvs (n' x)).getD V.aO);rw[e];rfl
 ·induction ps with
  |nil=>exact .nil
  |cons x ps c =>
   obtain⟨a,e,q⟩:=h x aY;exact .cons ⟨a,by show(bb kvs (n' x)).getD V.aO=_;rw[e];rfl,trivial,q⟩ (c λy d=>h y (bc _ d))
theorem Br:∀{m:Nat}{rows:ac (List FF)}{o:ac FF},cx m rows=ih o->o.length<=m
 |0,rows,o,h=>by
  unfold cx at h
  first
   |(cases h;exact aQ _)
   |(split at h <;> first|(cases h;exact aQ _)|cases h)
 |m+1,rows,o,h=>by
  unfold cx at h;split at h
  ·cases e:fq rows with
   |none=>rw[e]at h;cases h
   |some n =>
    rw[e]at h;obtain⟨o',h',rfl⟩:=gz.mp h;have:=Br h';rw[cV];omega
  ·cases h;exact bD _
inductive oj(vs:List V)(H:Hp)(Q:VK)(E:XK):Prop
 |mk{d oa:E8}{kvs:List (Key×V)}{L:FF->List FF}{k:FF}{own:List FF}(_:vs=[.ref d,.str k,.ref oa])(_:H d=ih (.dK kvs))(_:H oa=ih (.lst (own.map V.str)))(_:(∀x∈own,eg H kvs L x))(_:Small (rowsOf L own))(_:(∀r∈rowsOf L own,r.Nodup))(_:(cx (total (rowsOf L own)) (rowsOf L own)=none ->∀H',ax H H'->Q .aO H'))(_:(∀o,cx (total (rowsOf L own)) (rowsOf L own)=ih o ->∀p H',H p=none->ax H H'->H' p=ih (.lst ((k::o).map V.str))->Q (.ref p) H')):oj vs H Q E
abbrev EL:List FF:=["_law_lines","_law_kind","_law_own","_law_found"]
theorem D':bj EL ["_law_lines","_law_kind","_law_own"] (aJ nV):=bB
abbrev P':VD:=D6 (gp (fg (bT (bE nV) 0)))
theorem Ea:b5 EL (aJ nV) ["_law_one","_law_lines"] [none,ih 0] (cG P'):=dc
theorem Nl{n:E8}{l:Ye}(F:aS K "_law_line" "_law_line" nV f fd)(B:dq mg)(z:aS K "_law_merged" "_law_merged" ig n l)(U:Binds K l ["_law_rows"] [])(W:mg "_law_merged" = ih (.ref n)) :
  aU P w K mg base aH 2 f fd ["_law_lines","_law_kind","_law_own"] oj:=by
 have Y:aU P w K mg base aH 1 n l ["_law_rows"] qM:=Nh z B;refine F.bI D' λQa A outer s H vs Q E C h=>?_
 ·obtain @⟨d,D,kvs,L,k,own,rfl,Z,q,xa,i,S,qn,ya⟩:=h
  have za:=C.units;have T:=eF za;intro X;refine⟨_,aw (a3 3 D'.nd (fV Y C rfl W z.kp U .nil cY (aa (bA hK (d3 rfl Ea (c8 (pv 2)) (λs H fp=>⟨bf 0 Ea.nd,et,d4 T (pv 1) (pv 0) (λ_ _=>rfl)⟩)) (eu (aa (dy ki rfl B.list boot_list (aa (pv 2) ai)) ai))) ai)))
   (aw (bo (br gD (pv 3) dV (bC _)) (aB (aZ dV)) bG)
   (aB (aZ (bA hK (eu (aa (pv 1) ai)) (pv 3))))),?_⟩
  obtain⟨g,xb,yb⟩:=Lh xa;have zd:own.length<=20:=i.short own (d7 _ aY);refine ah rfl ⟨D,rfl,⟨_,ak.of q⟩,λc G=>IU q Z xb G (by omega) ?_⟩
  have I:=aK (o:=.lst (own.map g)) G;refine ah rfl ⟨D,_,rfl,.inl (ak.of (I _ _ q)),λb u=>?_⟩;have zb:=I.trans (aK (o:=.lst (own.map V.str)) u);refine⟨eM,λr m=>?_⟩;have xc:=zb.trans (aK (o:=.lst [V.ref b]) m);have J:upd (upd H c (.lst (own.map g))) b (.lst (own.map V.str)) c=bd (own.map g):=by rw[ag (ay af u)];exact af
  refine⟨c,r,_,_,rfl,rfl,by rw[ag (ay J m)];exact J,af,by rw[aE,aW];show _+1<=_;omega,λyc v=>?_⟩
  have j:=xc.trans (aK (o:=.lst (own.map g++[V.ref b])) v);have zc:upd (upd (upd (upd H c (.lst (own.map g))) b (.lst (own.map V.str))) r (.lst [V.ref b])) yc (.lst (own.map g++[V.ref b])) b=bd (own.map V.str):=by
   have M:upd (upd (upd H c (.lst (own.map g))) b (.lst (own.map V.str))) r (.lst [V.ref b]) b=bd (own.map V.str):=by rw[ag (ay af m)];exact af
   rw[ag (ay M v)];exact M
  refine qM.mk rfl (rows:=rowsOf L own) af (sh (jv yb λa xs _ e=>⟨trivial,j _ _ e⟩) trivial zc) i S (λe N t=>?_) (λo e p N ye t O=>?_)
  ·exact ah rfl ⟨rfl,_,rfl,qn e N (j.trans t)⟩
  ·refine ah rfl ⟨rfl,_,rfl,?_⟩
   refine ah rfl ⟨eM,λxd x=>?_⟩;have R:=t.trans (aK (o:=.lst [V.str k]) x);have ze:=(Br e);have xf:=o5 i.short;have xe:=i.a5;refine ah rfl ⟨xd,p,_,_,rfl,rfl,af,by rw[ag (ay O x)];exact O,by rw[aE,aW];show 1+_<=_;omega,λyd y=>?_⟩
   exact ya o e yd _ (j.free (R.free y)) (j.trans (R.trans (aK y))) af
theorem AB{α:Type}:∀(l:ac α) (k:Nat) (h:k<l.length),(l[k]::l.eraseIdx k).Perm l
 |[],k,h=>absurd h (oV _)
 |x::l,0,_=>kg _
 |x::l,k+1,h=>(Y4 _ _ _).trans ((AB l k (wK h)).cons x)
theorem Bs{α β:Type}(f:α->β):∀(l:ac α) (k:Nat),(l.map f).eraseIdx k=(l.eraseIdx k).map f
 |[],_=>rfl
 |_::_,0=>rfl
 |x::l,k+1=>c6 (f x :: ·) (Bs f l k)
theorem boot_min:Vv "min" = ih (.builtin "min"):=by decide +kernel
theorem Nn{d:Int}(h0:0<=d)(h1:d<7):∃v:Int,cZ [V.int 0,.int 1,.int 1,.int 2,.int 2,.int 3,.int 4] d=ih (.int v)/\0<=v/\v<=4:=by
 obtain⟨n,rfl⟩:=gT h0
 match n,(show n<7 by omega) with
 |0,_=>exact⟨0,cw rfl,by decide,by decide⟩
 |1,_=>exact⟨1,cw rfl,by decide,by decide⟩
 |2,_=>exact⟨1,cw rfl,by decide,by decide⟩
 |3,_=>exact⟨2,cw rfl,by decide,by decide⟩
 |4,_=>exact⟨2,cw rfl,by decide,by decide⟩
 |5,_=>exact⟨3,cw rfl,by decide,by decide⟩
 |6,_=>exact⟨4,cw rfl,by decide,by decide⟩
theorem two_at{d a b:Int}(h0:0<=d)(h1:d<2)(c:0<=a/\a<m)(e:0<=b/\b<m):∃v:Int,cZ [V.int a,.int b] d=ih (.int v)/\0<=v/\v<m:=by
 obtain⟨n,rfl⟩:=gT h0
 match n,(show n<2 by omega) with
 |0,_=>exact⟨a,cw rfl,c⟩
 |1,_=>exact⟨b,cw rfl,e⟩
inductive qr(vs:List V)(H:Hp)(Q:VK)(E:XK):Prop
 |mk{p n:E8}{ys:List FF}(_:vs=[.ref p,.ref n])(_:df p H)(_:p≠n)(_:H n=ih (.lst (ys.map V.str)))(_:ys.length<=20)(_:∀(l:E8) (own rest:List FF) (H':Hp),H l=none->(own++rest).Perm ys->own.length<=4->bu p H H'->H' l=ih (.lst (own.map V.str))->Q (.ref l) H'):qr vs H Q E
noncomputable abbrev OU:List FF:=["_law_pot_here","_law_made","_law_left","_law_own","_law_turn","_law_at"]
theorem oe:bj OU ["_law_pot_here","_law_made"] (aJ sN):=bB
theorem Mo{W:Ye}(F:aS K "_law_parents" "_law_parents" sN f fd)(B:dq mg)(D:aS K "_law_digit" "_law_digit" nU fD W)(za:Binds K W ["_law_pot_here","_law_many"] [])(xb:mg "_law_digit" = ih (.ref fD)) :
  aU P w K mg base aH 2 f fd ["_law_pot_here","_law_made"] qr:=by
 have yb:aU P w K mg base aH 1 fD W ["_law_pot_here","_law_many"] hH:=s8 D;refine F.bI oe λQa A outer s H vs Q E xi h=>?_
 ·obtain @⟨p,n,ys,rfl,zb,yk,yi,xk,q⟩:=h
  have Z:a4 1 _:=xi;intro X;refine⟨_,aw (a3 2 oe.nd (dy ki rfl B.list boot_list (aa (pv 1) ai)))
   (aw (a3 3 oe.nd (eu ai))
   (aw (eK d9 rfl (ib rfl B.range (aa (bV (AR rfl) rfl B.min boot_min (aa (bV eQ rfl B.len eI (aa (pv 2) ai))
     (aa (aV dA (eu (aa au (aa au (aa au (aa au (aa au (aa au (aa au ai)))))))) (fV yb Z rfl xb D.kp za .nil cY (aa (pv 0) (aa au ai)))) ai))) ai)) (bf 4 oe.nd)
    (aw (a3 5 oe.nd (aV dA (eu (aa (fV yb Z rfl xb D.kp za .nil cY (aa (pv 0) (aa (bV eQ rfl B.len eI (aa (pv 2) ai)) ai)))
      (aa (bA kI (bV eQ rfl B.len eI (aa (pv 2) ai)) au) ai))) (fV yb Z rfl xb D.kp za .nil cY (aa (pv 0) (aa au ai)))))
    (aB (eJ (gj hC m3 m4 jx (pv 3)
     (aa (gj hC F3 F4 BF (pv 2) (aa (pv 5) ai)) ai))))))
   (aB (aZ (pv 3))))),?_⟩
  refine ah rfl ⟨n,_,rfl,.inl (ak.of yi),λg u=>?_⟩;refine⟨bD _,λj xa=>?_⟩;have x:p≠g:=zb.ne u;have ya:g≠j:=ay af xa;have S:H j=none:=(aK u).free xa;have y:p≠j:=zb.ne S;have xc:bu p H (upd (upd H g (.lst (ys.map V.str))) j (.lst [])):=((bu.refl zb).new u).new xa;have t:(upd (upd H g (.lst (ys.map V.str))) j (.lst [])) g=bd (ys.map V.str):=by rw[ag ya];exact af
  have T:(upd (upd H g (.lst (ys.map V.str))) j (.lst [])) j=bd []:=af;generalize upd (upd H g (.lst (ys.map V.str))) j (.lst [])=H0 at xc t T⊢;refine ah rfl ⟨g,_,rfl,.inl (ak.of t),?_⟩;refine⟨by show 7<=UP;rw[aW];decide,λc G=>?_⟩
  have xf:=xc.new (o:=.lst [V.int 0,.int 1,.int 1,.int 2,.int 2,.int 3,.int 4]) G;refine ah rfl (cW (p:=p) (m:=7) xf.ok (by decide) (by decide) λd Y yc I z=>?_)
  have zh:p≠c:=xc.ok.ne G;obtain⟨v,zc,yf,J⟩:=Nn yc I;refine⟨c,_,d,.int v,rfl,rfl,ak.of (z.kp _ _ af (aT zh)),zc,?_⟩;have zi:=xf.trans z;have l:Y g=bd (ys.map V.str):=z.kp _ _ (by rw[ag (ay t G)];exact t) (aT x)
  have r:Y j=bd []:=z.kp _ _ (by rw[ag (ay T G)];exact T) (aT y)
  refine⟨_,v,rfl,?_⟩;rw[aE];obtain⟨N,xj,zk,xl⟩:∃N:Nat,(if v<(ys.length:Int) then v else (ys.length:Int))=N/\N<=4/\N<=ys.length:=by
   split
   ·exact⟨v.toNat,by omega,by omega,by omega⟩
   ·exact⟨ys.length,rfl,by omega,aQ _⟩
  rw[xj];refine⟨(N:Int),rfl,by omega,by omega,kx (λi σ Y=>∃(zs k:ac FF) (J xd:ad V),σ=[am p,am n,am g,am j,J,xd]/\zs.length=i/\(zs++k).Perm ys/\bu p H Y/\Y g=bd (k.map V.str)/\Y j=bd (zs.map V.str))
   ⟨[],ys,none,none,rfl,rfl,kg _,zi,l,r⟩ ?_ ?_⟩
  ·rintro i σ Y hi ⟨zs,k,J,xd,rfl,zf,L,M,l,r⟩
   have zg:=L.length_eq;rw[bX]at zg;refine aX rfl rfl ⟨g,_,rfl,.inl (ak.of l),?_⟩;refine cW (p:=p) M.ok (by rw[aE];omega) (by rw[aE];omega) λd H2 yc I O=>?_
   have U:=O.kp _ _ l (aT x);have zd:=O.kp _ _ r (aT y);rw[aE]at I;refine ah rfl ⟨g,_,rfl,.inl (ak.of U),_,1,rfl,rfl,?_⟩;rw[aE];refine⟨bS,λxg C=>?_⟩;have ze:=(M.trans O).new (o:=.lst [V.int d,.int ((k.length:Int) - 1)]) C;have xh:p≠xg:=O.ok.ne C;refine ah rfl (cW (p:=p) (m:=2) ze.ok (by decide) (by decide) λe yd e0 e1 R=>?_)
   obtain⟨v,zc,yf,yj⟩:=two_at (a:=d) (b:=(k.length:Int) - 1) (m:=(k.length:Int)) e0 e1 ⟨yc,I⟩ ⟨by omega,by omega⟩
   have xe:yd g=bd (k.map V.str):=R.kp _ _ (by rw[ag (ay U C)];exact U) (aT x)
   have ye:yd j=bd (zs.map V.str):=R.kp _ _ (by rw[ag (ay zd C)];exact zd) (aT y)
   have zj:=ze.trans R;refine⟨xg,_,e,.int v,rfl,rfl,ak.of (R.kp _ _ af (aT xh)),zc,?_⟩;have yg:v.toNat<k.length:=by omega
   refine ah rfl ⟨.inl ⟨rfl,_,ak.of ye⟩,_,rfl,.inl ⟨rfl,_,ak.of xe⟩,_,rfl,?_⟩;refine⟨g,_,v,v.toNat,.str k[v.toNat],rfl,rfl,xe,by omega,by omega,v7 yf (by rw[aE];exact yj),by rw[cL,bz yg];rfl,?_⟩
   have yh:(upd yd g (.lst ((k.map V.str).eraseIdx v.toNat))) j=bd (zs.map V.str):=by rw[ag (aT ya)];exact ye
   refine⟨j,_,_,rfl,rfl,yh,by rw[aE,aW];omega,?_⟩
   refine⟨zs++[k[v.toNat]],k.eraseIdx v.toNat,_,_,rfl,by rw[bX];simp[zf],?_,(zj.write u x).write S y,?_,?_⟩
   ·refine acO ?_ L
    rw[mX];exact Vl zs (AB k _ yg)
   ·rw[ag ya,af,Bs]
   ·rw[af,a'];rfl
  ·rintro σ Y ⟨zs,k,J,xd,rfl,zf,L,M,l,r⟩
   exact ah rfl (q j zs k Y S L (by omega) M r)
end eG
namespace eG
open L2 HT
def kept(rows:List (List FF))(o:List FF):Bool:=rows.all λr=>decide ((o.filter λn=>decide (n∈r))=r)
theorem sE{all:ac (List FF)}{n:FF}:∀{rest:ac (List FF)},hE all rest=ih n->dU 0 all n=none /\∃(i:Nat) (r:ac FF),rest[i]?=ih r/\r.head?=ih n /\∀(j:Nat) (q:ac FF) (y:FF),rest[j]?=ih q->q.head?=ih y->dU 0 all y=none->i<=j
 |[],h=>by cases h
 |[]::rest,h=>by
  obtain⟨h1,i,r,e1,e2,e3⟩:=sE (rest:=rest) h;refine⟨h1,i+1,r,by simpa using e1,e2,λj q y a b d=>?_⟩
  cases j with
  |zero =>
   obtain rfl : []=q:=by simpa using a
   simp at b
  |succ j=>have:=e3 j q y (by simpa using a) b d;omega
 |(x::t)::rest,h=>by
  have h:(if (dU 0 all x).isNone then ih x else hE all rest)=ih n:=h
  by_cases c:(dU 0 all x).isNone=true
  ·rw[aF c]at h
   cases h
   exact⟨by simpa using c,0,_,rfl,rfl,λ_ _ _ _ _ _=>bD _⟩
  ·rw[aq c]at h
   obtain⟨h1,i,r,e1,e2,e3⟩:=sE (rest:=rest) h;refine⟨h1,i+1,r,by simpa using e1,e2,λj q y a b d=>?_⟩
   cases j with
   |zero =>
    obtain rfl:x::t=q:=by simpa using a
    obtain rfl:x=y:=by simpa using b
    exact absurd (by rw[d];rfl) c
   |succ j=>have:=e3 j q y (by simpa using a) b d;omega
def Li(rest:List (List FF))(q:List FF):Prop:=q.Nodup /\∀x,x∈q ↔ ∃r∈rest,x∈r
theorem s9{q:ac FF}:kept rest q=true ↔ ∀r∈rest,(q.filter λn=>decide (n∈r))=r:=by
 unfold kept;rw[mY];simp
theorem Ae:(∃r∈L2.without n rest,x∈r) ↔ x≠n /\∃r∈rest,x∈r:=by
 constructor
 ·rintro⟨r,c,a⟩
  obtain⟨q,b,rfl⟩:=a6.mp c;have:=fj.mp a;exact⟨by simpa using this.2,q,b,this.1⟩
 ·rintro⟨h,q,b,a⟩
  exact⟨_,a6.mpr ⟨q,b,rfl⟩,fj.mpr ⟨a,by simpa using h⟩⟩
theorem Lj:(rest.any λr=>!r.isEmpty)=true ↔ ∃r∈rest,∃x,x∈r:=by
 rw[lC]
 constructor
 ·rintro⟨r,a,e⟩
  cases r with
  |nil=>simp at e
  |cons x t=>exact⟨_,a,x,aY⟩
 ·rintro⟨r,a,x,b⟩
  refine⟨r,a,?_⟩;cases r with
  |nil=>simp at b
  |cons y t=>rfl
theorem sound:∀(m:Nat) (rest:ac (List FF)),total rest=m->(∀r∈rest,r.Nodup) ->∀o,cx (total rest) rest=ih o->Li rest o/\kept rest o=true:=by
 intro m
 induction m using ZP with
 |_ m u =>
  intro rest D j o b;cases d:rest.any λr=>!r.isEmpty with
  |false =>
   rw[sy d]at b;cases b
   have k:∀r∈rest,∀x,x ∉ r:=λr a x g=>by
    have:=Lj.mpr ⟨r,a,x,g⟩;rw[d]at this;cases this
   refine⟨⟨fc,λx=>⟨λh=>by simp at h,λ⟨r,a,g⟩=>absurd g (k r a x)⟩⟩,s9.mpr λr a=>?_⟩
   cases r with
   |nil=>rfl
   |cons y t=>exact absurd aY (k _ a y)
  |true =>
   cases e:fq rest with
   |none=>rw[sA d e]at b;cases b
   |some n =>
    rw[sC d e]at b;obtain⟨o',s,rfl⟩:=gz.mp b;have lt:=lK (lR e);obtain⟨⟨h1,h2⟩,q⟩:=u _ (by omega) (L2.without n rest) rfl (Az j) o' s
    rw[s9]at q;have l:n ∉ o':=λz=>((Ae.mp ((h2 n).mp z)).1 rfl);obtain⟨i,_⟩:=sE e;rw[pz]at i;refine⟨⟨d8.mpr ⟨l,h1⟩,λx=>?_⟩,s9.mpr λr a=>?_⟩
    ·rw[bJ,h2,Ae]
     constructor
     ·rintro(rfl|h)
      ·exact lR e
      ·exact h.2
     ·intro h
      by_cases z:x=n
      ·exact .inl z
      ·exact .inr ⟨z,h⟩
    ·have p:=q _ (a6.mpr ⟨r,a,rfl⟩)
     have same:(o'.filter λy=>decide (y∈r))=o'.filter λy=>decide (y∈r.filter λy=>!decide (y=n)):=by
      apply List.filter_congr
      intro y c;have:y≠n:=λz=>l (z ▸ c);simp[this]
     by_cases f:n∈r
     ·have v:=i r a f
      cases r with
      |nil=>simp at f
      |cons z t =>
       obtain rfl:z=n:=by simpa using v
       have A:z ∉ t:=(d8.mp (j _ a)).1;have B:((z::t).filter λy=>!decide (y=z))=t:=by
        rw[r4 (by simp)]
        exact VN.mpr λy c=>by
         have:y≠z:=λw=>A (w ▸ c)
         simpa using this
       rw[oW (by simp),same,p,B]
     ·have C:(r.filter λy=>!decide (y=n))=r:=VN.mpr λy c=>by
       have:y≠n:=λw=>f (w ▸ c)
       simpa using this
      rw[r4 (by simpa using f),same,p,C]
end eG
namespace eG
open L2 W HT
theorem len_sub{a b:ac FF}(c:a.Nodup)(h:∀x∈a,x∈b):a.length<=b.length:=Mj c h
structure Fm(done:List FF)(L Ps:FF->List FF):Prop where
 ps:∀x∈done,(Ps x).Nodup/\(Ps x).length<=4 /\∀y∈Ps x,y∈done
 ln:∀x∈done,∃o,cx (total (rowsOf L (Ps x))) (rowsOf L (Ps x))=ih o/\L x=x::o
 ld:∀x∈done,(L x).Nodup /\∀y∈L x,y∈done
theorem AD{own:ac FF}:r∈rowsOf L own ↔ (∃y∈own,r=L y)\/r=own:=by
 unfold rowsOf;rw[bK,a6,bN]
 constructor
 ·rintro(⟨y,h,rfl⟩|h)
  ·exact .inl ⟨y,h,rfl⟩
  ·exact .inr h
 ·rintro(⟨y,h,rfl⟩|h)
  ·exact .inl ⟨y,h,rfl⟩
  ·exact .inr h
theorem Fm.me{done:ac FF}(F:Fm done L Ps){own:ac FF}(a:own.Nodup)(sub:∀y∈own,y∈done):∀r∈rowsOf L own,r.Nodup /\∀y∈r,y∈done:=λr b=>by
 rcases AD.mp b with⟨y,c,rfl⟩|rfl
 ·exact F.ld y (sub y c)
 ·exact⟨a,sub⟩
theorem Fm.small{done:ac FF}(F:Fm done L Ps)(c:∀x∈done,Nm x)(e:done.length<=8){own:ac FF}(b:own.Nodup)(f:own.length<=4)(sub:∀y∈own,y∈done):Small (rowsOf L own):=by
 refine⟨?_,λr a=>?_,λr a y d=>?_⟩
 ·unfold rowsOf;rw[bX,aE,jo];omega
 ·obtain⟨h1,h2⟩:=F.me b sub r a
  have:=len_sub h1 h2;omega
 ·exact c y ((F.me b sub r a).2 y d)
theorem Fm.order{done:ac FF}(F:Fm done L Ps){own o:ac FF}(c:own.Nodup)(sub:∀y∈own,y∈done)(d:cx (total (rowsOf L own)) (rowsOf L own)=ih o):o.Nodup/\(∀y∈o,y∈done) /\∀r∈rowsOf L own,∀y∈r,y∈o:=by
 obtain⟨⟨h1,h2⟩,_⟩:=sound _ _ rfl (λr a=>(F.me c sub r a).1) o d;refine⟨h1,λy b=>?_,λr a y b=>(h2 y).mpr ⟨r,a,b⟩⟩;obtain⟨r,a,h⟩:=(h2 y).mp b;exact(F.me c sub r a).2 y h
theorem HP{a:FF->List FF}{own:ac FF}(h:∀y∈own,a y=L y):rowsOf a own=rowsOf L own:=by
 unfold rowsOf;rw[m1 h]
theorem Fm.add{done:ac FF}(F:Fm done L Ps){k:FF}{own o:ac FF}(i:k ∉ done)(j:own.Nodup)(n:own.length<=4)(sub:∀y∈own,y∈done)(l:cx (total (rowsOf L own)) (rowsOf L own)=ih o) :
  Fm (done++[k]) (λx=>if x=k then k::o else L x) (λx=>if x=k then own else Ps x):=by
 have p:∀{y},y∈done->y≠k:=λh z=>i (z ▸ h);have ext:∀{ps:ac FF},(∀y∈ps,y∈done)->rowsOf (λx=>if x=k then k::o else L x) ps=rowsOf L ps:=λh=>HP λy d=>aq (p (h y d));obtain⟨q,m,_⟩:=F.order j sub l;refine⟨λx f=>?_,λx f=>?_,λx f=>?_⟩
 ·by_cases e:x=k
  ·rw[aF e];exact⟨j,n,λy d=>fM _ (sub y d)⟩
  ·rw[aq e]
   obtain⟨a,b,c⟩:=F.ps x (by rcases bK.mp f with z|z;exact z;exact absurd (by simpa using z) e)
   exact⟨a,b,λy d=>fM _ (c y d)⟩
 ·by_cases e:x=k
  ·refine⟨o,?_,by rw[aF e,e]⟩
   rw[aF e,ext sub];exact l
  ·have g:x∈done:=by rcases bK.mp f with z|z;exact z;exact absurd (by simpa using z) e
   obtain⟨o',h1,h2⟩:=F.ln x g;refine⟨o',?_,by rw[aq e];exact h2⟩
   rw[aq e,ext (F.ps x g).2.2];exact h1
 ·by_cases e:x=k
  ·rw[aF e]
   refine⟨d8.mpr ⟨λz=>i (m k z),q⟩,λy d=>?_⟩;rcases bJ.mp d with z|z
   ·rw[z];exact d7 _ aY
   ·exact fM _ (m y z)
  ·rw[aq e]
   have g:x∈done:=by rcases bK.mp f with z|z;exact z;exact absurd (by simpa using z) e
   obtain⟨a,b⟩:=F.ld x g;exact⟨a,λy d=>fM _ (b y d)⟩
def gF(Ps:FF->List FF)(ks:List FF):List (FF×List FF):=ks.map λx=>(x,Ps x)
theorem AE(Ps:FF->List FF)(ks:ac FF):(gF Ps ks).map (·.1)=ks:=by
 unfold gF;rw[c7];exact List.map_id' _
theorem Fm.Np(F:Fm ks L Ps)(i:ks.Nodup)(g:∀x∈ks,Nm x)(h:ks.length<=8):jM (gF Ps ks) L:=by
 have d:∀{p:FF×List FF},p∈gF Ps ks->p.1∈ks/\p.2=Ps p.1:=λ{p} a=>by
  obtain⟨x,b,rfl⟩:=a6.mp a;exact⟨b,rfl⟩
 refine⟨by rw[AE];exact i,by unfold gF;rw[aE];exact h,λp a=>g _ (d a).1,λp a x b=>?_,⟨λx=>(L x).length,λp a x b=>?_⟩,λp a=>?_⟩
 ·obtain⟨h1,h2⟩:=d a
  rw[h2]at b;exact⟨(x,Ps x),a6.mpr ⟨x,(F.ps _ h1).2.2 x b,rfl⟩,rfl⟩
 ·obtain⟨h1,h2⟩:=d a
  rw[h2]at b;obtain⟨o,e,f⟩:=F.ln _ h1;obtain⟨n1,_,c⟩:=F.ps _ h1;obtain⟨_,_,j⟩:=F.order n1 c e;have:=len_sub (F.ld x (c x b)).1 λy k=>j (L x) (AD.mpr (.inl ⟨x,b,rfl⟩)) y k;show(L x).length<(L p.1).length;rw[f,cV];omega
 ·obtain⟨h1,h2⟩:=d a
  rw[h2];obtain⟨o,e,f⟩:=F.ln _ h1;obtain⟨n1,l,c⟩:=F.ps _ h1;obtain⟨m,n,_⟩:=F.order n1 c e;exact⟨F.small g h n1 l c,o,e,f,by have:=len_sub m n;omega⟩
theorem JV(xs:ac FF):fH (xs.map V.str) none (ih (-1))=xs.dropLast.map V.str:=by
 unfold fH;have e1:HT.bq (xs.map V.str).length 0 none=0:=rfl;have e2:HT.bq (xs.map V.str).length (xs.map V.str).length (ih (-1))=xs.length - 1:=by
  rw[aE];unfold HT.bq;simp;omega
 rw[e1,e2,wz,Fx,<-aa9,List.dropLast_eq_take]
theorem fU{xs:ac FF}(h:df p H)(e:H a=bd (xs.map V.str)):a≠p:=by
 rintro rfl;obtain⟨x,y,e2,_⟩:=h;rw[e]at e2;have e3:xs.map V.str=[.int x,.int y]:=HO.lst.inj (cJ e2);cases xs with
 |nil=>cases e3
 |cons z t=>cases e3
theorem eg.d2(h:eg H kvs L x)(ok:df p H)(s:bu p H H'):eg H' kvs L x:=let ⟨a,e,q⟩:=h;⟨a,e,s.kp _ _ q (fU ok q)⟩
theorem eg.write{b:ac (Key×V)}{u:HO}(h:eg H kvs L x)(c:H d=bn b)(e:H'=upd H d u):eg H' kvs L x:=let ⟨a,e1,q⟩:=h;⟨a,e1,by rw[e,ag (ar q c)];exact q⟩
theorem kE(ok:df p H)(s:bu p H H')(e:H d=bn kvs):H' d=bn kvs:=by
 obtain⟨x,y,ep,_⟩:=ok;exact s.kp _ _ e (ar e ep)
theorem pK(h:df p H)(s:ax H H'):bu p H H':=by
 obtain⟨x,y,e,r⟩:=h;exact⟨⟨x,y,s _ _ e,r⟩,λb o e _=>s b o e⟩
theorem CQ{k:FF}{l:ac FF}(c:H d=bn kvs)(f:H a=bd (l.map V.str))(h:x≠k->eg H kvs L x) :
  eg (upd H d (.dK (putK kvs (n' k) (.ref a)))) (putK kvs (n' k) (.ref a)) (λx=>if x=k then l else L x) x:=by
 unfold eg;rw[kB]
 by_cases e:x=k
 ·subst e
  refine⟨a,by rw[aF rfl],?_⟩
  rw[ag (ar f c)];show H a=bd ((if x=x then l else L x).map V.str);rw[aF rfl];exact f
 ·obtain⟨b,e1,e2⟩:=h e
  refine⟨b,by rw[aq (λz=>e (gx z))];exact e1,?_⟩
  rw[ag (ar e2 c)];show H b=bd ((if x=k then l else L x).map V.str);rw[aq e];exact e2
theorem B9{done:ac FF}{k:FF}(h:kvs.map (·.1)=done.map n')(c:k ∉ done):(putK kvs (n' k) v).map (·.1)=(done++[k]).map n':=by
 have d:bb kvs (n' k)=none:=by
  have:(bb kvs (n' k)).isSome=false:=by
   rw[<-jB,vW];intro a b f;have e:a.1=n' k:=dQ f;have:a.1∈kvs.map (·.1):=a6.mpr ⟨a,b,rfl⟩;rw[h,e]at this;obtain⟨y,g,i⟩:=a6.mp this;exact c (gx i ▸ g)
  cases e:bb kvs (n' k) with
  |none=>rfl
  |some _=>rw[e]at this;cases this
 rw[iU _ d,a',a',h];rfl
noncomputable abbrev Eb:List FF:=["_law_pot_here","_law_kinds","_law_lines","_law_parents_here","_law_kind","_law_own","_law_turn","_law_family_here"]
theorem jN:bj Eb ["_law_pot_here","_law_kinds"] (aJ nD):=bB
abbrev OV:VD:=gp (gp (fg (bT (bE nD) 2)))
theorem dg.keyed(h:dg H vs Qb):∃kvs,iq H 1 vs kvs/\kvs.map (·.1)=(Qb.map (·.1)).map λx=>[x]:=by
 induction h with
 |nil=>exact⟨[],.nil,rfl⟩
 |@cons _ p _ _ h _ c =>
  obtain⟨a,b,e,q,r⟩:=h;obtain⟨kvs,h1,h2⟩:=c;exact⟨([p.1],[.ref b])::kvs,.cons ⟨a,e,q,rfl⟩ h1,by rw[b4,h2];rfl⟩
structure OW(p:E8)(H:Hp)(ks:List FF)(r t d1:E8)(o:YO)(ws:List V)(jR:List (Key×V))(L Ps:FF->List FF)(Qb:List (FF×List FF))(H':Hp):Prop where
 hr:H' r=ih (.tup [.ref t,.ref d1])
 ht:H' t=ih (.bw o (.tup ws))
 od:o.dict=none
 fv:dg H' ws Qb
 pm:Qb.Perm (gF Ps ks)
 fm:Fm ks L Ps
 h1:H' d1=ih (.dK jR)
 k1:jR.map (·.1)=ks.map n'
 l1:∀x∈ks,eg H' jR L x
 pa:bu p H H'
 n1:H d1=none
inductive qO(vs:List V)(H:Hp)(Q:VK)(E:XK):Prop
 |mk{p n:E8}{ks:List FF}(_:vs=[.ref p,.ref n])(_:df p H)(_:H n=ih (.lst (ks.map V.str)))(_:ks.Nodup)(_:(∀x∈ks,Nm x))(_:ks.length<=8)(_:∀r t d1 o ws jR L Ps Qb H',OW p H ks r t d1 o ws jR L Ps Qb H'->Q (.ref r) H'):qO vs H Q E
theorem Dx:b5 Eb (aJ nD) ["_law_kind","_law_parents_here"] [none,ih 3] (cG OV):=dc
theorem Nq{zm:E8}{yt:Ye}(F:aS K "_law_family" "_law_family" nD f fd)(B:dq mg)(yC:hU mg)
  (zC:aU P w K mg base aH 2 zm yt ["_law_pot_here","_law_made"] qr) (xD:YF K (.ref zm)=true) (yD:Binds K yt ["_law_pot_here","_law_made"] []) (zD:mg "_law_parents" = ih (.ref zm))
  (zt:aU P w K mg base aH 2 fL dL ["_law_lines","_law_kind","_law_own"] oj) (xu:YF K (.ref fL)=true) (yu:Binds K dL ["_law_lines","_law_kind","_law_own"] []) (zu:mg "_law_line" = ih (.ref fL)) :
  aU P w K mg base aH 3 f fd ["_law_pot_here","_law_kinds"] qO:=by
 refine F.bI jN λQa A outer s H vs Q E I h=>?_
 ·obtain @⟨p,n,ks,rfl,ye,ze,xi,zx,yL,q⟩:=h
  have xE:=I.units;have yi:=Vy (Nat.add_le_add_left (show 1<=64 by decide) _) xE
  intro X;refine⟨_,aw (i0 (b9 (aa lX (aa lX ai))) (ik rfl (c2 (bf 2 jN.nd) (c2 (pQ (i:=3) jN.nd rfl (Y3 rfl)) gB))))
   (aw (eK d9 rfl (c8 (pv 1)) (bf 4 jN.nd)
    (aw (a3 5 jN.nd (fV zC I rfl zD xD yD .nil cY (aa (pv 0) (aa (dy (sq rfl) rfl B.list boot_list (aa (pv 2) ai)) ai))))
    (aw (eK d9 rfl (ib rfl B.range (aa au ai)) (bf 6 jN.nd)
     (aB (bo (br gD (fV zt I rfl zu xu yu .nil cY (aa (pv 2) (aa (pv 4) (aa (pv 5) ai)))) dV (bC _))
      (aB (a3 5 jN.nd (iR l4 (pv 5) iX (ij (uw ub au))))) bG)))
    (aw (gC yi (pv 2) (pv 4) (fV zt I rfl zu xu yu .nil cY (aa (pv 2) (aa (pv 4) (aa (pv 5) ai)))) rfl)
    (aB (gC yi (pv 3) (pv 4) (pv 5) rfl))))))
   (aw (a3 7 jN.nd (dy Gg rfl B.tuple boot_tuple (aa (bV sg rfl yC.sorted boot_sorted (aa (d3 rfl Dx (c8 (pv 1)) (λs H fp=>⟨bf 0 Dx.nd,et,
     b9 (aa (pv 0) (aa (dy (w9 K rfl) rfl B.tuple boot_tuple (aa (d4 yi (pv 1) (pv 0)) ai)) ai))⟩)) ai)) ai)))
   (aB (aZ (b9 (aa (pv 7) (aa (pv 2) ai))))))),?_⟩
  intro g yb m zi;have yE:ax H (upd (upd H g (.dK [])) m (.dK [])):=(aK yb).trans (aK zi);have xj:g≠m:=ay af zi;have zp:H m=none:=(aK yb).free zi;refine⟨by show 2<=UP;rw[aW];decide,λtp yj=>?_⟩
  have xv:(upd (upd H g (.dK [])) m (.dK [])) g=bn []:=by rw[ag xj];exact af
  have yv:=yE.trans (aK (o:=.tup [V.ref g,.ref m]) yj);have xq:upd (upd (upd H g (.dK [])) m (.dK [])) tp (.tup [V.ref g,.ref m]) g=bn []:=by rw[ag (ay xv yj)];exact xv
  have yq:upd (upd (upd H g (.dK [])) m (.dK [])) tp (.tup [V.ref g,.ref m]) m=bn []:=by rw[ag (ay af yj)];exact af
  refine⟨tp,_,rfl,aA.of af,rfl,_,_,rfl,_,_,rfl,rfl,?_⟩;generalize upd (upd (upd H g (.dK [])) m (.dK [])) tp (.tup [V.ref g,.ref m])=H0 at yv xq yq⊢;have zv:bu p H H0:=pK ye yv;have xy:p≠g:=ye.ne yb;have yy:p≠m:=ye.ne zp;have zj:n≠p:=fU ye ze;refine⟨_,rfl,n,rfl,⟨_,ak.of (zv.kp _ _ ze zj)⟩,ie (xs:=ks.map V.str) (λi σ Y=>∃(v O:ac (Key×V)) (L Ps:FF->List FF) (xn yn U:ad V),σ=[am p,am n,am g,am m,xn,yn,U,none]/\bu p H Y /\
   Y g=bn v/\Y m=bn O/\v.map (·.1)=(ks.take i).map n'/\O.map (·.1)=(ks.take i).map n'/\(∀x∈ks.take i,eg Y v L x)/\(∀x∈ks.take i,eg Y O Ps x)/\Fm (ks.take i) L Ps)
   ⟨[],[],λ_=>[],λ_=>[],none,none,none,rfl,zv,xq,yq,rfl,rfl,λx d=>(by cases d),λx d=>(by cases d),⟨λx d=>(by cases d),λx d=>(by cases d),λx d=>(by cases d)⟩⟩ (λi σ Y _ ab=>by obtain⟨_,_,_,_,_,_,_,_,z,_⟩:=ab;exact ak.of (z.kp _ _ ze zj)) ?_ ?_⟩
  ·rintro i x σ Y d ⟨v,O,L,Ps,xn,yn,U,rfl,ya,yd,xk,e1,e2,xf,yf,S⟩
   obtain⟨zb,rfl⟩:=jC d;have R:ks.take (i+1)=ks.take i++[ks[i]]:=by rw[dM,bz zb];rfl
   have yh:ks[i]∉ ks.take i:=by
    have:(ks.take (i+1)).Nodup:=xi.sublist (jl _ _);rw[R]at this;exact λz=>(dw.mp this).2.2 _ z _ aY rfl
   have zy:(ks.take i).Nodup:=xi.sublist (jl _ _);have zq:∀x∈ks.take i,Nm x:=λx d=>zx x (oX d);have xw:(ks.take i).length<=8:=by rw[cK];omega
   have xJ:v.length=(ks.take i).length:=by have:=c6 Zk e1;simpa using this
   have yJ:O.length=(ks.take i).length:=by have:=c6 Zk e2;simpa using this
   refine aX rfl rfl ⟨g,v,rfl,yd,λl zn=>?_⟩;have zE:v.map (λxo=>kV xo.1)=(ks.take i).map V.str:=by
    have:v.map (λxo=>kV xo.1)=(v.map (·.1)).map kV:=by rw[c7];rfl
    rw[this,e1,c7];rfl
   rw[zE];have za:=ya.new (o:=.lst ((ks.take i).map V.str)) zn;have zf:=aK (o:=.lst ((ks.take i).map V.str)) zn;refine qr.mk rfl za.ok (ya.ok.ne zn) af (by omega) λM own rest yo xr xa J zc zo=>?_
   have yw:=za.trans zc;have G:own.Nodup:=(dw.mp (xa.nodup_iff.mpr zy)).1;have C:∀y∈own,y∈ks.take i:=λy xp=>xa.mem_iff.mp (fM _ xp);have yk:=kE za.ok zc (zf _ _ yd);have xz:=kE za.ok zc (zf _ _ xk);have zk:∀x∈ks.take i,eg yo v L x:=λx d=>((xf x d).same zf).d2 za.ok zc;have yz:∀x∈ks.take i,eg yo O Ps x:=λx d=>((yf x d).same zf).d2 za.ok zc;refine⟨5,rfl,by decide,by decide,kx (λj σ xg=>∃(M:E8) (own:ac FF) (U:ad V),σ=[am p,am n,am g,am m,ih (.str ks[i]),am M,U,none]/\ax yo xg/\xg M=bd (own.map V.str)/\own.Nodup/\(∀y∈own,y∈ks.take i)/\own.length<=4/\(cx (total (rowsOf L own)) (rowsOf L own)≠none\/own.length+j<=4))
    ⟨M,own,_,rfl,ax.refl _,zo,G,C,J,.inr J⟩ ?_ ?_⟩
   ·clear xa J G C zo xr
    rintro j σ xg zL ⟨M,own,U,rfl,T,W,G,C,J,xl⟩;have yl:=S.small zq xw G J C;have zl:=λr I=>(S.me G C r I).1;refine dZ rfl rfl rfl (oj.mk rfl (T _ _ yk) W (λx d=>(zk x (C x d)).same T) yl zl (λe xb N=>?_) (λo e xd xb zz N zw=>?_))
    ·refine⟨rfl,_,rfl,?_⟩
     refine ah rfl ?_;have xA:own ≠ []:=λz=>by rw[z]at e;cases e
     have yI:0<own.length:=lI.mpr xA;refine⟨1,rfl,_,rfl,M,_,rfl,ak.of (N _ _ W),λc yg=>?_⟩;refine⟨c,own.dropLast,_,rfl,(T.trans N).trans (aK yg),?_,G.sublist (List.dropLast_sublist _),λy xp=>C y (List.dropLast_subset _ xp),by rw[Fi];omega,.inr ?_⟩
     ·have:=JV own
      rw[af];exact c6 ih (c6 HO.lst this)
     ·rcases xl with z|z
      ·exact absurd e z
      ·rw[Fi];omega
    ·refine⟨rfl,_,rfl,?_⟩
     exact⟨M,own,_,rfl,T.trans N,N _ _ W,G,C,J,.inl (by rw[e];exact Option.some_ne_none _)⟩
   ·clear xa J G C zo xr
    rintro σ xg ⟨M,own,U,rfl,T,W,G,C,J,xl⟩;have yl:=S.small zq xw G J C;have zl:=λr I=>(S.me G C r I).1;have yA:cx (total (rowsOf L own)) (rowsOf L own)≠none:=by
     rcases xl with z|z
     ·exact z
     ·exact absurd z (by show ¬ (own.length+Y0 5<=4);have:Y0 5=5:=rfl;omega)
    refine dZ rfl rfl rfl (oj.mk rfl (T _ _ yk) W (λx d=>(zk x (C x d)).same T) yl zl (λe=>absurd e yA) (λo e xd xb zz N zw=>?_));have xc:=T.trans N;have zd:=xc _ _ yk;have zA:=xc _ _ xz;refine aX rfl rfl ⟨g,_,rfl,eW.k (k:=n' ks[i]) zd (by rw[aW];omega),?_⟩
    have xm:upd xb g (.dK (putK v (n' ks[i]) (.ref xd))) m=bn O:=by rw[ag (aT xj)];exact zA
    refine dZ rfl rfl rfl ⟨m,_,rfl,eW.k (k:=n' ks[i]) xm (by rw[aW];omega),?_⟩
    have xF:bu p H xb:=yw.trans (pK yw.ok xc);have xB:∀x∈ks.take (i+1),eg (upd xb g (.dK (putK v (n' ks[i]) (.ref xd)))) (putK v (n' ks[i]) (.ref xd)) (λx=>if x=ks[i] then ks[i]::o else L x) x:=λx d=>CQ zd zw λne=>(zk x (by
     rw[R]at d;rcases bK.mp d with z|z
     ·exact z
     ·exact absurd (by simpa using z) ne)).same xc
    have yB:upd xb g (.dK (putK v (n' ks[i]) (.ref xd))) M=bd (own.map V.str):=by rw[ag (ar (N _ _ W) zd)];exact N _ _ W
    refine⟨_,_,_,_,_,_,_,rfl,(xF.write yb xy).write zp yy,by rw[ag xj];exact af,af,by rw[R];exact B9 e1 yh,by rw[R];exact B9 e2 yh,λx d=>(xB x d).write xm rfl,λx d=>?_,by rw[R];exact S.add yh G J C e⟩
    refine CQ xm yB λne=>?_;exact((yz x (by
     rw[R]at d;rcases bK.mp d with z|z
     ·exact z
     ·exact absurd (by simpa using z) ne)).same xc).write zd rfl
  ·rintro σ Y ⟨v,O,L,Ps,xn,yn,U,rfl,ya,yd,xk,e1,e2,xf,yf,S⟩
   rw[aE,cB]at e1 xf yf S;have yr:=ya.kp _ _ ze zj;refine ah rfl ⟨n,rfl,⟨_,ak.of yr⟩,λc yg=>?_⟩;refine fk (xs:=ks.map V.str) (λi ys zg H2=>∃yp:ad V,zg=[yp,am m]/\H2 c=bd ys/\ax Y H2/\dg H2 ys (gF Ps (ks.take i))) ⟨none,rfl,af,aK yg,.nil⟩ (λi ys zg H2 ab=>by obtain⟨_,_,z1,z2,_⟩:=ab;exact ⟨z1,ak.of (z2 _ _ yr)⟩) ?_ ?_
   ·rintro i x ys zg H2 d ⟨yp,rfl,h2,yc,Z⟩
    have zr:i<(ks.map V.str).length:=(b3.mp d).1;have zb:i<ks.length:=by simpa using zr
    obtain rfl:V.str ks[i]=x:=by simpa [zb] using d
    have R:ks.take (i+1)=ks.take i++[ks[i]]:=by rw[dM,bz zb];rfl
    obtain⟨a,yF,zF⟩:=(yf ks[i] (eP zb)).same yc;refine dZ rfl rfl rfl ⟨m,.ref a,rfl,by rw[<-yF];exact b7.k (k:=n' ks[i]) (yc _ _ xk),?_⟩
    refine⟨a,_,rfl,.inl ⟨ak.of zF,λb xG=>?_⟩⟩;have yG:=aK (o:=.tup ((Ps ks[i]).map V.str)) xG;refine⟨by show 2<=UP;rw[aW];decide,λt xh=>?_⟩
    have St:=yG.trans (aK (o:=.tup [V.str ks[i],.ref b]) xh);have xt:upd (upd H2 b (.tup ((Ps ks[i]).map V.str))) t (.tup [V.str ks[i],.ref b]) b=a2 ((Ps ks[i]).map V.str):=by rw[ag (ay af xh)];exact af
    have ym:=St _ _ h2;refine⟨ym,?_,cw_next zr ⟨_,rfl,af,λx u d=>by rw[ag (ay d yg)];exact St _ _ (yc x u d),?_⟩⟩
    ·have:=Z.length
     unfold gF at this;rw[aE,cK]at this;rw[aW];omega
    ·have zG:gF Ps (ks.take (i+1))=gF Ps (ks.take i)++[(ks[i],Ps ks[i])]:=by rw[R];unfold gF;rw[a'];rfl
     rw[zG];refine dg.append (Z.keep λx xs d=>?_) ?_ ?_ (b:=b)
     ·rw[ag (ar d h2)];exact St _ _ d
     ·rw[ag (ar af ym)];exact af
     ·rw[ag (ar xt ym)];exact xt
   ·rintro ys zg H2 ⟨yp,rfl,h2,yc,Z⟩
    rw[aE,cB]at Z;obtain⟨kvs,pv,zB⟩:=Z.keyed;have zJ:=Z.length;have xK:(gF Ps ks).length=ks.length:=by unfold gF;exact aE ..
    refine⟨c,ys,kvs,1,rfl,.inl (ak.of h2),pv,aQ _,by rw[zB,AE];exact xi.map _ λa b n e=>n (FV e).1,by omega,λD xe zI xH xa yK zK xL=>?_⟩
    have yH:=aK (o:=.lst xe) xH;refine⟨D,xe,rfl,ak.of af,λt o xh zH=>?_⟩;have St:=yH.trans (aK (o:=.bw o (.tup xe)) xh);obtain⟨yx,xC,xI⟩:=si xa Z;refine aX rfl rfl ⟨bS,λr I=>?_⟩;have xx:=St.trans (aK (o:=.tup [V.ref t,.ref g]) I);have zh:=yc.trans xx;refine q r t g o xe v L Ps yx _ ⟨af,by rw[ag (ay af I)];exact af,zH,dg.same xI xx,xC,S,zh _ _ yd,e1,λx d=>(xf x d).same zh,ya.trans (pK ya.ok zh),yb⟩
theorem boot_int:Vv "int" = ih (.type "int"):=by decide +kernel
theorem boot_bool:Vv "bool" = ih (.type "bool"):=by decide +kernel
structure vf(mg:FF->Option i'):Prop where
 int:mg "int" = none
 bool:mg "bool" = none
theorem b'{x:V}:cZ (x::xs) 0=ih x:=(show cZ (x::xs) ((0:Nat):Int)=ih x from cw rfl)
theorem cT{x:V}:cZ (x::y::xs) 1=ih y:=(show cZ (x::y::xs) ((1:Nat):Int)=ih y from cw rfl)
theorem om{x z:V}:cZ (x::y::z::xs) 2=ih z:=(show cZ (x::y::z::xs) ((2:Nat):Int)=ih z from cw rfl)
end eG
namespace L2
open W
theorem Rep.tupI{ds:ac UR}(r:Rep H v (.tuple ds)):∃a vs,v=.ref a/\H a=a2 vs/\bL H vs ds:=by
 cases r with
 |tup e rs=>exact⟨_,_,rfl,e,rs⟩
theorem Rep.gZ(r:Rep H v (.str x)):v=.str x:=by cases r;rfl
theorem Rep.iA{x:Int}(r:Rep H v (.int x)):v=.int x:=by cases r;rfl
theorem bL.fe{d:UR}{ds:ac UR}(r:bL H vs (d::ds)):∃v ws,vs=v::ws/\Rep H v d/\bL H ws ds:=by
 cases r with
 |cons a b=>exact⟨_,_,rfl,a,b⟩
theorem bL.mz(r:bL H vs []):vs=[]:=by cases r;rfl
theorem bL.length{H:Hp}:∀{vs:ac V}{ds:ac UR},bL H vs ds->vs.length=ds.length
 |_,_,.nil=>rfl
 |_,_,.cons _ rs=>by rw[cV,cV,bL.length rs]
theorem bL.get{H:Hp}{v:V}:∀{vs:ac V}{ds:ac UR}{i:Nat} (_:bL H vs ds) (_:vs[i]?=ih v),∃d,ds[i]?=ih d/\Rep H v d
 |_,_,_,.nil,e=>by cases e
 |_,_,0,.cons r _,e=>by cases e;exact ah rfl r
 |_,_,i+1,.cons _ rs,e=>by have:=bL.get (i:=i) rs (by simpa using e);simpa using this
end L2
namespace eG
open L2 W HT
def a9:UR->FF|.tuple (.str s::_)=>s|_ => ""
def kY:UR->Int|.tuple [_,.int n]=>n|_=>0
def d0:UR->FF|.tuple [_,.str x]=>x|_ => ""
def cg:UR->List UR
 |.tuple [_,.tuple ds]=>ds
 |.tuple [_,.str x,.int n]=>[.tuple [.str "ask",.str x],.tuple [.str "add",.int n]]
 |.tuple [_,.int n]=>[.tuple [.str "add",.int n]]
 |_=>[]
inductive eh:UR->Prop where
 |add (n:Int) (h:n.natAbs<=10 ^ 18):eh (.tuple [.str "add",.int n])
 |times (n:Int) (lo : -9<=n) (hi:n<=9):eh (.tuple [.str "times",.int n])
 |mf:eh (.tuple [.str "onward"])
 |ask (x:FF) (h:Nm x):eh (.tuple [.str "ask",.str x])
inductive Ent:UR->Prop where
 |plain (n:Int) (h:n.natAbs<=10 ^ 18):Ent (.tuple [.str "plain",.int n])
 |ahead (x:FF) (n:Int) (h:Nm x) (hn:n.natAbs<=10 ^ 18):Ent (.tuple [.str "ahead",.str x,.int n])
 |behind (ds:List UR) (h4:ds.length<=4) (hs:∀d∈ds,eh d):Ent (.tuple [.str "behind",.tuple ds])
 |jS (ds:List UR) (h4:ds.length<=4) (hs:∀d∈ds,eh d):Ent (.tuple [.str "shut",.tuple ds])
theorem two1{s:FF}{d:UR}(r:Rep H v (.tuple [.str s,d])):∃a u,v=.ref a/\H a=a2 [.str s,u]/\Rep H u d:=by
 obtain⟨a,vs,rfl,b,rs⟩:=r.tupI;obtain⟨g,h,rfl,c,rs⟩:=rs.fe;obtain⟨e,i,rfl,f,rs⟩:=rs.fe;obtain rfl:=rs.mz;obtain rfl:=c.gZ;exact⟨a,e,rfl,b,f⟩
theorem eh.keep{d:UR}(s:eh d)(r:Rep H v d)(k:∀b xs,H b=a2 xs->H' b=a2 xs):Rep H' v d:=by
 cases s with
 |add n =>
  obtain⟨a,u,rfl,c,e⟩:=two1 r;obtain rfl:=e.iA;exact .tup (k _ _ c) (.cons (.str _) (.cons (.int _) .nil))
 |times n =>
  obtain⟨a,u,rfl,c,e⟩:=two1 r;obtain rfl:=e.iA;exact .tup (k _ _ c) (.cons (.str _) (.cons (.int _) .nil))
 |ask x =>
  obtain⟨a,u,rfl,c,e⟩:=two1 r;obtain rfl:=e.gZ;exact .tup (k _ _ c) (.cons (.str _) (.cons (.str _) .nil))
 |mf =>
  obtain⟨a,vs,rfl,c,rs⟩:=r.tupI;obtain⟨g,h,rfl,f,rs⟩:=rs.fe;obtain rfl:=rs.mz;obtain rfl:=f.gZ;exact .tup (k _ _ c) (.cons (.str _) .nil)
theorem ic(k:∀b xs,H b=a2 xs->H' b=a2 xs){ds:ac UR}(r:bL H vs ds)(h:∀d∈ds,eh d):bL H' vs ds:=by
 induction vs generalizing ds with
 |nil=>cases r;exact .nil
 |cons x xs a=>cases r with|cons r rs=>exact .cons ((h _ aY).keep r k) (a rs λd c=>h d (bc _ c))
theorem Ent.keep{d:UR}(s:Ent d)(r:Rep H v d)(k:∀b xs,H b=a2 xs->H' b=a2 xs):Rep H' v d:=by
 cases s with
 |plain n =>
  obtain⟨a,u,rfl,c,e⟩:=two1 r;obtain rfl:=e.iA;exact .tup (k _ _ c) (.cons (.str _) (.cons (.int _) .nil))
 |ahead x n =>
  obtain⟨a,vs,rfl,c,rs⟩:=r.tupI;obtain⟨l,m,rfl,h,rs⟩:=rs.fe;obtain⟨o,p,rfl,e,rs⟩:=rs.fe;obtain⟨q,t,rfl,i,rs⟩:=rs.fe;obtain rfl:=rs.mz;obtain rfl:=h.gZ;obtain rfl:=e.gZ;obtain rfl:=i.iA;exact .tup (k _ _ c) (.cons (.str _) (.cons (.str _) (.cons (.int _) .nil)))
 |behind ds j f =>
  obtain⟨a,u,rfl,c,e⟩:=two1 r;obtain⟨b,vs,rfl,g,rs⟩:=e.tupI;exact .tup (k _ _ c) (.cons (.str _) (.cons (.tup (k _ _ g) (ic k rs f)) .nil))
 |jS ds j f =>
  obtain⟨a,u,rfl,c,e⟩:=two1 r;obtain⟨b,vs,rfl,g,rs⟩:=e.tupI;exact .tup (k _ _ c) (.cons (.str _) (.cons (.tup (k _ _ g) (ic k rs f)) .nil))
theorem Lk(a:df p H)(c:bu p H H'):∀b xs,H b=a2 xs->H' b=a2 xs:=λb xs e=>by
 obtain⟨x,y,e0,_⟩:=a;exact c.kp b _ e (ar e e0)
theorem Gq{ds:ac UR}{d:UR}(h:bL H vs ds)(r:Rep H v d):bL H (vs++[v]) (ds++[d]):=by
 induction vs generalizing ds with
 |nil=>cases h;exact .cons r .nil
 |cons x xs b=>cases h with|cons a c=>exact .cons a (b c)
inductive i7(vs:List V)(H:Hp)(Q:VK)(E:XK):Prop
 |mk{p:E8}(_:vs=[.ref p])(_:df p H)(_:∀(n:Int) (H':Hp),n.natAbs<=10 ^ 18->bu p H H'->Q (.int n) H'):i7 vs H Q E
abbrev OX:List FF:=["_law_pot_here","_law_near","_law_far"]
theorem uP:bj OX ["_law_pot_here"] (aJ tU):=bB
theorem Mp(F:aS K "_law_number" "_law_number" tU f fd)
  (g:bH P w K mg base aH 1 fD dD ["_law_pot_here","_law_many"] hH "_law_digit"):aU P w K mg base aH 2 f fd ["_law_pot_here"] i7:=by
 refine F.bI uP λQa A outer s H vs Q E u h=>?_
 ·obtain @⟨p,rfl,v,q⟩:=h
  have e:a4 1 _:=u;intro X;refine⟨_,aw (a3 1 uP.nd (bA kI (ba g e (aa (pv 0) (aa au ai))) au))
   (aw (a3 2 uP.nd (bA e4 (bA kI (ba g e (aa (pv 0) (aa (bA kI (bA nQ au (bA t9 au au)) au) ai))) (bA t9 au au)) au))
   (aB (aZ (aV dA (eu (aa (pv 1) (aa (pv 1) (aa au (aa (pv 2) ai))))) (ba g e (aa (pv 0) (aa au ai))))))),?_⟩
  refine ah rfl (cW (p:=p) (m:=41) v (by decide) (by decide) λk Y C D i=>⟨_,_,rfl,rfl,?_⟩)
  refine ah rfl ⟨_,_,rfl,rfl,⟨by decide,by decide,by decide⟩,_,_,rfl,rfl,.inl ⟨by decide,by decide⟩,_,_,rfl,rfl,?_⟩
  refine cW (p:=p) (m:=2 * 10 ^ (18:Int).toNat - 1) i.ok (by decide) (by decide) λx H2 b0 b1 p2=>⟨_,_,rfl,rfl,⟨by decide,by decide,by decide⟩,_,_,rfl,rfl,_,_,rfl,rfl,?_⟩
  refine dZ rfl rfl rfl ⟨by show 4<=UP;rw[aW];decide,λc l=>?_⟩
  have p3:=(i.trans p2).new (o:=.lst [.int (k - 20),.int (k - 20),.int 0,.int (x - 10 ^ (18:Int).toNat+1)]) l;refine ah rfl (cW (p:=p) (m:=4) p3.ok (by decide) (by decide) λG r y I p4=>?_)
  have t:c≠p:=aT ((i.trans p2).ok.ne l);have d:=p4.kp _ _ af t;obtain⟨j,rfl⟩:=gT y;have a:(10:Int) ^ (18:Int).toNat=1000000000000000000:=rfl;have b:∀n:Int,n.natAbs<=10 ^ 18->Q (.int n) r:=λn z=>q n r z (p3.trans p4);have B:j=0\/j=1\/j=2\/j=3:=by omega
  rcases B with rfl|rfl|rfl|rfl
  ·exact⟨c,_,((0:Nat):Int),_,rfl,rfl,ak.of d,cw rfl,b _ (by first|omega|(rw[a]at b1⊢;omega))⟩
  ·exact⟨c,_,((1:Nat):Int),_,rfl,rfl,ak.of d,cw rfl,b _ (by first|omega|(rw[a]at b1⊢;omega))⟩
  ·exact⟨c,_,((2:Nat):Int),_,rfl,rfl,ak.of d,cw rfl,b _ (by first|omega|(rw[a]at b1⊢;omega))⟩
  ·exact⟨c,_,((3:Nat):Int),_,rfl,rfl,ak.of d,cw rfl,b _ (by first|omega|(rw[a]at b1⊢;omega))⟩
inductive qs(vs:List V)(H:Hp)(Q:VK)(E:XK):Prop
 |mk{p l:E8}{ys:List FF}{k:Nat}(_:vs=[.ref p,.ref l,.int k])(_:df p H)(_:H l=ih (.lst (ys.map V.str)))(_:ys ≠ [])(_:ys.length<=20)(_:(∀y∈ys,Nm y))(_:∀(v:V) (d:UR) (H':Hp),bu p H H'->Rep H' v d->eh d->(a9 d = "ask" -> d0 d∈ys)->Q v H'):qs vs H Q E
abbrev OY:List FF:=["_law_pot_here","_law_names_here","_law_at","_law_way","_law_later"]
theorem qt:bj OY ["_law_pot_here","_law_names_here","_law_at"] (aJ uF):=bB
theorem Mq(F:aS K "_law_step" "_law_step" uF f fd)(B:dq mg)
  (x:bH P w K mg base aH 1 fD dD ["_law_pot_here","_law_many"] hH "_law_digit")
  (xd:bH P w K mg base aH 2 fN dN ["_law_pot_here"] i7 "_law_number"):aU P w K mg base aH 3 f fd ["_law_pot_here","_law_names_here","_law_at"] qs:=by
 refine F.bI qt λQa A outer s H vs Q E Z h=>?_
 ·obtain @⟨p,l,ys,k,rfl,xa,C,ne,S,M,q⟩:=h
  have yd:=Z.units;have T:a4 2 _:=Z;have r:a4 1 _:=T.mono (by decide)
  intro X;refine⟨_,aw (a3 3 qt.nd (ba x r (aa (pv 0) (aa au ai))))
   (aw (bo (br c' (pv 3) au (bC _)) (aB (aZ (b9 (aa bt (aa (ba xd T (aa (pv 0) ai)) ai))))) bG)
   (aw (bo (br c' (pv 3) au (bC _)) (aB (aZ (b9 (aa bt (aa (bA kI (ba x r (aa (pv 0) (aa au ai))) au) ai))))) bG)
   (aw (bo (br Dj (pv 3) au (bC _)) (aB (aZ (b9 (aa bt ai)))) bG)
   (aw (a3 4 qt.nd (iR l4 (pv 1) (ij (bA e4 (pv 2) au)) iX))
   (aw (bo (PW.pt (pw_or (br (uf yd) (pv 4) (eu ai) (bC _)) (pw_or1 (br c' (ba x r (aa (pv 0) (aa au ai))) au (bC _))))) (aB (a3 4 qt.nd (pv 1))) bG)
   (aB (aZ (b9 (aa bt (aa (aV dA (pv 4) (ba x r (aa (pv 0) (aa (bV eQ rfl B.len eI (aa (pv 4) ai)) ai)))) ai)))))))))),?_⟩
  refine ah rfl (cW (p:=p) (m:=6) xa (by decide) (by decide) λye Y ze xf d=>?_)
  refine ah rfl ⟨rfl,_,rfl,?_⟩;refine bY (λh0=>?_) (λh0=>?_)
  ·refine ah rfl (i7.mk rfl d.ok λn H2 zd p2=>⟨bS,λt a=>?_⟩)
   exact q _ _ _ ((d.trans p2).new a) (.tup af (.cons (.str _) (.cons (.int _) .nil))) (.add n zd) (λz=>absurd z (by show ¬ ((("add" : FF)) = "ask");decide +kernel))
  refine ah rfl ⟨rfl,_,rfl,?_⟩;refine bY (λh1=>?_) (λh1=>?_)
  ·refine ah rfl (cW (p:=p) (m:=19) d.ok (by decide) (by decide) λn H2 b0 b1 p2=>⟨_,_,rfl,rfl,bS,λt a=>?_⟩)
   exact q _ _ _ ((d.trans p2).new a) (.tup af (.cons (.str _) (.cons (.int _) .nil))) (.times (n - 9) (by omega) (by omega)) (λz=>absurd z (by show ¬ ((("times" : FF)) = "ask");decide +kernel))
  refine ah rfl ⟨_,_,rfl,rfl,_,rfl,?_⟩;refine bY (λh2=>?_) (λh2=>?_)
  ·refine⟨eM,λt a=>?_⟩
   exact q _ _ _ (d.new a) (.tup af (.cons (.str _) .nil)) .mf (λz=>absurd z (by show ¬ ((("onward" : FF)) = "ask");decide +kernel))
  have D:l≠p:=fU xa C;refine aX rfl rfl ⟨_,_,rfl,rfl,_,rfl,l,_,rfl,ak.of (d.kp _ _ C D),λc xe=>?_⟩;have zb:fH (ys.map V.str) (ih ((k:Int)+1)) none=(ys.drop (k+1)).map V.str:=by
   rw[lH];exact nG (ys.map V.str) (k+1)
  rw[zb];have p2:=d.new (o:=.lst ((ys.drop (k+1)).map V.str)) xe;have u:upd Y c (.lst ((ys.drop (k+1)).map V.str)) c=bd ((ys.drop (k+1)).map V.str):=af;generalize upd Y c (.lst ((ys.drop (k+1)).map V.str))=H2 at p2 u⊢;have G:∀y∈ys.drop (k+1),Nm y:=λy N=>M y (oY N);have dl:(ys.drop (k+1)).length<=ys.length:=by rw[mW];omega
  have O:∀y∈ys.drop (k+1),y∈ys:=λy N=>oY N;generalize ys.drop (k+1)=zs at u G dl O;refine ah rfl ⟨bD _,λe0 U=>?_⟩;have p3:=p2.new (o:=.lst []) U;have v:upd H2 e0 (.lst []) c=bd (zs.map V.str):=by rw[ag (ay u U)];exact u
  have W:upd H2 e0 (.lst []) e0=bd []:=af;generalize upd H2 e0 (.lst [])=yf at p3 v W⊢;refine eq_nil v W G (ah rfl ?_);have I:=p3.kp _ _ C D;refine bY (λya=>?_) (λya=>?_)
  ·refine ah rfl ?_
   refine dZ rfl rfl rfl ⟨l,_,rfl,.inl (ak.of I),?_⟩;rw[aE];have R:0<ys.length:=lI.mpr ne;have xc:ys.length<=20:=S;refine cW (p:=p) (m:=(ys.length:Int)) p3.ok (by omega) (by omega) λza xb g yb p5=>?_
   obtain⟨j,rfl⟩:=gT g;have b:j<ys.length:=by omega
   have i:=p5.kp _ _ I (fU p3.ok I);refine⟨l,_,(j:Int),.str ys[j],rfl,rfl,ak.of i,cw (by rw[cL,bz b];rfl),bS,λt a=>?_⟩
   exact q _ _ _ ((p3.trans p5).new a) (.tup af (.cons (.str _) (.cons (.str _) .nil))) (.ask _ (M _ (eP b))) (λ_=>eP b)
  have yc:zs ≠ []:=λz=>ya (by simp[z])
  refine ah rfl (cW (p:=p) (m:=4) p3.ok (by decide) (by decide) λzf xg b0 b1 p4=>⟨rfl,_,rfl,?_⟩)
  have e:=p3.trans p4;have J:=e.kp _ _ C D;have L:=p4.kp _ _ v (fU p3.ok v);refine bY (λzc=>?_) (λzc=>?_)
  ·refine ah rfl ?_
   refine dZ rfl rfl rfl ⟨l,_,rfl,.inl (ak.of J),?_⟩;rw[aE];have R:0<ys.length:=lI.mpr ne;have xc:ys.length<=20:=S;refine cW (p:=p) (m:=(ys.length:Int)) e.ok (by omega) (by omega) λza xb g yb p5=>?_
   obtain⟨j,rfl⟩:=gT g;have b:j<ys.length:=by omega
   have i:=p5.kp _ _ J (fU e.ok J);refine⟨l,_,(j:Int),.str ys[j],rfl,rfl,ak.of i,cw (by rw[cL,bz b];rfl),bS,λt a=>?_⟩
   exact q _ _ _ ((e.trans p5).new a) (.tup af (.cons (.str _) (.cons (.str _) .nil))) (.ask _ (M _ (eP b))) (λ_=>eP b)
  ·refine dZ rfl rfl rfl ⟨c,_,rfl,.inl (ak.of L),?_⟩
   rw[aE];have R:0<zs.length:=lI.mpr yc;refine cW (p:=p) (m:=(zs.length:Int)) e.ok (by omega) (by omega) λza xb g yb p5=>?_
   obtain⟨j,rfl⟩:=gT g;have b:j<zs.length:=by omega
   have i:=p5.kp _ _ L (fU e.ok L);refine⟨c,_,(j:Int),.str zs[j],rfl,rfl,ak.of i,cw (by rw[cL,bz b];rfl),bS,λt a=>?_⟩
   exact q _ _ _ ((e.trans p5).new a) (.tup af (.cons (.str _) (.cons (.str _) .nil))) (.ask _ (G _ (eP b))) (λ_=>O _ (eP b))
inductive qu(vs:List V)(H:Hp)(Q:VK)(E:XK):Prop
 |mk{p l:E8}{ys:List FF}{k:Nat}(_:vs=[.ref p,.ref l,.int k])(_:df p H)(_:H l=ih (.lst (ys.map V.str)))(_:ys ≠ [])(_:ys.length<=20)(_:(∀y∈ys,Nm y))(_:∀(v:V) (d:UR) (H':Hp),bu p H H'->Rep H' v d->Ent d->(∀s∈cg d,a9 s = "ask" -> d0 s∈ys)->Q v H'):qu vs H Q E
abbrev Ec:List FF:=["_law_pot_here","_law_names_here","_law_at","_law_way","_law_steps_here"]
theorem uQ:bj Ec ["_law_pot_here","_law_names_here","_law_at"] (aJ nW):=bB
abbrev OZ:VD:=gp (fg (bT (bE nW) 3))
theorem Dy:b5 Ec (aJ nW) ["_law_turn","_law_pot_here","_law_names_here","_law_at"] [none,ih 0,ih 1,ih 2] (cG OZ):=dc
theorem Mr(F:aS K "_law_entry" "_law_entry" nW f fd)(B:dq mg)
  (Z:bH P w K mg base aH 1 fD dD ["_law_pot_here","_law_many"] hH "_law_digit")
  (xg:bH P w K mg base aH 2 fN dN ["_law_pot_here"] i7 "_law_number")
  (zi:bH P w K mg base aH 3 fS dS ["_law_pot_here","_law_names_here","_law_at"] qs "_law_step"):aU P w K mg base aH 4 f fd ["_law_pot_here","_law_names_here","_law_at"] qu:=by
 refine F.bI uQ λQa A outer s H vs Q E xj h=>?_
 ·obtain @⟨p,l,ys,k,rfl,yg,xa,ne,yi,zg,q⟩:=h
  have zd:a4 3 _:=xj;have U:a4 2 _:=zd.mono (by decide)
  have W:a4 1 _:=U.mono (by decide)
  intro X;refine⟨_,aw (a3 3 uQ.nd (ba Z W (aa (pv 0) (aa au ai))))
   (aw (bo (br c' (pv 3) au (bC _)) (aB (aZ (b9 (aa bt (aa (ba xg U (aa (pv 0) ai)) ai))))) bG)
   (aw (bo (br c' (pv 3) au (bC _)) (aB (aZ (b9 (aa bt (aa (aV dA (pv 1) (bA kJ (bA e4 (bA e4 (pv 2) au) (ba Z W (aa (pv 0) (aa (bV eQ rfl B.len eI (aa (pv 1) ai)) ai)))) (bV eQ rfl B.len eI (aa (pv 1) ai)))) (aa (ba xg U (aa (pv 0) ai)) ai)))))) bG)
   (aw (a3 4 uQ.nd (dy iP rfl B.tuple boot_tuple (aa (d3 rfl Dy (ib rfl B.range (aa (ba Z W (aa (pv 0) (aa au ai))) ai)) (λs H fp=>⟨bf 0 Dy.nd,et,ba zi zd (aa (pv 1) (aa (pv 2) (aa (pv 3) ai)))⟩)) ai)))
   (aB (aZ (b9 (aa (aV dA (eu (aa bt (aa bt (aa bt ai)))) (bA kI (pv 3) au)) (aa (pv 4) ai)))))))),?_⟩
  have L:l≠p:=fU yg xa;have xl:0<ys.length:=lI.mpr ne;refine ah rfl (cW (p:=p) (m:=5) yg (by decide) (by decide) λG Y yl zl r=>?_)
  refine ah rfl ⟨rfl,_,rfl,?_⟩;refine bY (λh0=>?_) (λh0=>?_)
  ·refine ah rfl (i7.mk rfl r.ok λn H2 ya p2=>⟨bS,λt a=>?_⟩)
   exact q _ _ _ ((r.trans p2).new a) (.tup af (.cons (.str _) (.cons (.int _) .nil))) (.plain n ya) (λs za=>by rw[bN.mp za];exact λz=>absurd z (by show ¬ ((("add" : FF)) = "ask");decide +kernel))
  have xe:=r.kp _ _ xa L;refine ah rfl ⟨rfl,_,rfl,?_⟩;refine bY (λh1=>?_) (λh1=>?_)
  ·refine aX rfl rfl ⟨_,_,rfl,rfl,_,rfl,_,rfl,l,_,rfl,.inl (ak.of xe),?_⟩
   rw[aE];refine cW (p:=p) (m:=(ys.length:Int)) r.ok (by omega) (by omega) λxb H2 b0 b1 p2=>?_
   have M:=p2.kp _ _ xe L;refine⟨_,_,rfl,rfl,_,rfl,l,_,rfl,.inl (ak.of M),_,_,rfl,rfl,by rw[aE];omega,?_⟩
   rw[aE];obtain⟨j,xh⟩:=gT (wY ((k:Int)+1+xb) (show(ys.length:Int)≠0 by omega))
   have I:j<ys.length:=by
    have:=wZ ((k:Int)+1+xb) (show(0:Int)<(ys.length:Int) by omega)
    rw[xh]at this;omega
   refine⟨l,_,(j:Int),.str ys[j],rfl,(c6 V.int xh:V.int (((k:Int)+1+xb) % (ys.length:Int))=V.int (j:Int)),ak.of M,cw (by rw[cL,bz I];rfl),_,rfl,i7.mk rfl p2.ok λn xm ya p3=>⟨g6,λt a=>?_⟩⟩
   exact q _ _ _ (((r.trans p2).trans p3).new a) (.tup af (.cons (.str _) (.cons (.str _) (.cons (.int _) .nil)))) (.ahead _ n (zg _ (eP I)) ya) (λs za=>by
    rcases bJ.mp za with z|z
    ·rw[z];exact λ_=>eP I
    ·rw[bN.mp z];exact λz=>absurd z (by show ¬ ((("add" : FF)) = "ask");decide +kernel))
  have yj:G=2\/G=3\/G=4:=by
   have e0:G≠0:=λz=>h0 (by rw[z];rfl)
   have e1:G≠1:=λz=>h1 (by rw[z];rfl)
   omega
  refine ah rfl (cW (p:=p) (m:=5) r.ok (by decide) (by decide) λdn H2 b0 b1 p2=>⟨dn,rfl,by omega,by omega,λc yb=>?_⟩)
  have S:=r.trans p2;have ye:p≠c:=S.ok.ne yb;have M:=S.kp _ _ xa L;refine o9 (λi zs T g=>∃(ds:ac UR) (zb:ad V),T=[zb,am p,am l,ih (.int (k:Int))]/\bL g zs ds/\ds.length=i/\(∀d∈ds,eh d)/\(∀d∈ds,a9 d = "ask" -> d0 d∈ys)/\bu p H2 g/\g c=bd zs)
   ⟨[],none,rfl,.nil,rfl,(λd xc=>by cases xc),(λd xc=>by cases xc),(bu.refl S.ok).new yb,af⟩ (λi zs T g ab=>by obtain⟨_,_,_,_,_,_,_,_,z⟩:=ab;exact z) ?_ ?_
  ·rintro j zs T g I ⟨ds,zb,rfl,rs,dl,u,D,y,yc⟩
   refine dZ rfl rfl rfl (qs.mk rfl y.ok (y.kp _ _ M L) ne yi zg λv d J zc zj yh xk=>?_);have ze:=zc.kp _ _ yc (aT ye);have up:∀b xs,J b=a2 xs->upd J c (.lst (zs++[v])) b=a2 xs:=λb xs e=>by rw[ag (ar e ze)];exact e
   refine⟨ze,by rw[rs.length,dl,aW];omega,cw_next I ⟨ds++[d],_,rfl,Gq (ic (λb xs e=>up b xs (Lk y.ok zc b xs e)) rs u) (yh.keep zj up),by rw[bX,dl];rfl,λx xd=>?_,λx xd=>?_,(y.trans zc).write yb ye,af⟩⟩
   ·rcases bK.mp xd with z|z
    ·exact u x z
    ·rw[bN.mp z];exact yh
   ·rcases bK.mp xd with z|z
    ·exact D x z
    ·rw[bN.mp z];exact xk
  rintro zs T g ⟨ds,zb,rfl,rs,dl,u,D,y,yc⟩;refine⟨c,_,rfl,.inl ⟨ak.of yc,λb zh=>?_⟩⟩;have yk:=S.trans y;have p5:=yk.new (o:=.tup zs) zh;have zk:=aK (o:=.tup zs) zh;have xf:upd g b (.tup zs) b=a2 zs:=af;have yf:=bL.same rs zk;generalize upd g b (.tup zs)=J at p5 xf yf⊢;refine⟨g6,λC zf=>?_⟩;have p6:=p5.new (o:=.lst [V.str "behind",V.str "behind",V.str "shut"]) zf;have xi:=aK (o:=.lst [V.str "behind",V.str "behind",V.str "shut"]) zf;have N:upd J C (.lst [V.str "behind",V.str "behind",V.str "shut"]) C=bd [V.str "behind",V.str "behind",V.str "shut"]:=af;have O:=xi _ _ xf;have R:=bL.same yf xi;generalize upd J C (.lst [V.str "behind",V.str "behind",V.str "shut"])=ym at p6 N O R⊢;have yd:ds.length<=4:=by omega
  refine ah rfl ⟨_,_,rfl,rfl,?_⟩;rcases yj with rfl|rfl|rfl
  ·refine⟨C,_,((0:Nat):Int),.str "behind",rfl,rfl,ak.of N,cw rfl,_,rfl,bS,λt a=>?_⟩
   exact q _ _ _ (p6.new a) (.tup af (.cons (.str _) (.cons (.tup ((aK a) _ _ O) (bL.same R (aK a))) .nil))) (.behind ds yd u) D
  ·refine⟨C,_,((1:Nat):Int),.str "behind",rfl,rfl,ak.of N,cw rfl,_,rfl,bS,λt a=>?_⟩
   exact q _ _ _ (p6.new a) (.tup af (.cons (.str _) (.cons (.tup ((aK a) _ _ O) (bL.same R (aK a))) .nil))) (.behind ds yd u) D
  ·refine⟨C,_,((2:Nat):Int),.str "shut",rfl,rfl,ak.of N,cw rfl,_,rfl,bS,λt a=>?_⟩
   exact q _ _ _ (p6.new a) (.tup af (.cons (.str _) (.cons (.tup ((aK a) _ _ O) (bL.same R (aK a))) .nil))) (.jS ds yd u) D
theorem tf:∀xs ys:ac FF,YN (xs.map Vz) (ys.map Vz)=decide (xs=ys)
 |[],[]=>rfl
 |[],y::ys=>rfl
 |x::xs,[]=>rfl
 |x::xs,y::ys=>by
  show((x==y)&&YN (xs.map Vz) (ys.map Vz))=_;rw[tf xs ys]
  by_cases e:x=y
  ·by_cases f:xs=ys <;> simp[e,f]
  ·simp[e]
abbrev Bk:=List (FF×FF×UR)
def c3(p:FF×FF×UR):List FF:=[p.1,p.2.1]
def cS(H:Hp)(vs:List V)(bk:Bk):Prop:=VX (λv p=>∃a u,v=V.ref a/\H a=ih (.tup [.str p.1,.str p.2.1,u])/\Rep H u p.2.2) vs bk
structure gq(bk:Bk):Prop where
 nm:∀p∈bk,Nm p.1/\Nm p.2.1
 ent:∀p∈bk,Ent p.2.2
 nd:(bk.map c3).Nodup
 a5:bk.length<=48
theorem cS.keep(k:∀b xs,H b=a2 xs->H' b=a2 xs){bk:Bk}(h:cS H vs bk)(c:∀p∈bk,Ent p.2.2):cS H' vs bk:=L2.Paired.DR h λv p d x=>by obtain⟨a,u,e,h,r⟩:=x;exact⟨a,u,e,k _ _ h,(c p d).keep r k⟩
theorem cS.same(S:ax H H'){bk:Bk}(h:cS H vs bk):cS H' vs bk:=Paired.imp' (λv p x=>by obtain⟨a,u,e,h,r⟩:=x;exact⟨a,u,e,S _ _ h,r.same S⟩) h
theorem cS.length{bk:Bk}(h:cS H vs bk):vs.length=bk.length:=cN h
theorem cS.append{u:V}{p:FF×FF×UR}(b:H a=a2 [.str p.1,.str p.2.1,u])(r:Rep H u p.2.2){bk:Bk}(h:cS H vs bk):cS H (vs++[.ref a]) (bk++[p]):=gQ h ⟨a,u,rfl,b,r⟩
theorem cS.keyed{bk:Bk}(h:cS H vs bk):∃kvs,iq H 2 vs kvs/\kvs.map (·.1)=bk.map c3:=by
 induction h with
 |nil=>exact⟨[],.nil,rfl⟩
 |cons x _ b =>
  obtain⟨a,u,e,h,r⟩:=x;obtain⟨kvs,h1,h2⟩:=b;exact⟨(c3 _,[u])::kvs,.cons ⟨a,e,h,rfl⟩ h1,by rw[b4,b4,h2]⟩
theorem Ll{d:UR}(s:eh d):d.canLay0=true/\d.depth<=1:=by
 cases s with
 |add n=>exact⟨by show(VH "add" && (true&&true))=true;decide +kernel,by simp[Yr,Vs]⟩
 |times n=>exact⟨by show(VH "times" && (true&&true))=true;decide +kernel,by simp[Yr,Vs]⟩
 |mf=>exact⟨by decide +kernel,by decide +kernel⟩
 |ask x h =>
  refine⟨?_,by simp[Yr,Vs]⟩
  show(VH "ask" && (VH x&&true))=true;rw[mu h];decide +kernel
theorem B':∀{ds:ac UR},(∀d∈ds,eh d)->Yj ds=true/\Vs ds<=1
 |[],_=>⟨rfl,by decide⟩
 |d::ds,h=>by
  obtain⟨a,c⟩:=Ll (h d aY);obtain⟨b1,e⟩:=B' λx b=>h x (bc _ b);refine⟨?_,?_⟩
  ·show(d.canLay0&&Yj ds)=true
   rw[a,b1];rfl
  ·simp only[Vs];omega
inductive qv(vs:List V)(H:Hp)(Q:VK)(E:XK):Prop
 |mk{x:FF}(_:vs=[.str x])(_:Nm x)(_:∀H',ax H H'->Q .aO H'):qv vs H Q E
theorem cS.perm{a:ac V}{bk:Bk}(p:a.Perm vs)(h:cS H vs bk):∃b,b.Perm bk/\cS H a b:=si p h
def kZ(p:FF×FF×UR):List Key:=[n' p.1,n' p.2.1]
def cy(H:Hp)(kvs:List (List Key×V))(bO:Bk):Prop:=VX (λkv p=>kv.1=kZ p/\Rep H kv.2 p.2.2) kvs bO
theorem cy.keep(k:∀b xs,H b=a2 xs->H' b=a2 xs){kvs:ac (List Key×V)}{bO:Bk}(h:cy H kvs bO)(a:∀p∈bO,Ent p.2.2):cy H' kvs bO:=L2.Paired.DR h λv p c x=>⟨x.1,(a p c).keep x.2 k⟩
theorem cy.same(S:ax H H'){kvs:ac (List Key×V)}{bO:Bk}(h:cy H kvs bO):cy H' kvs bO:=by
 induction h with
 |nil=>exact .nil
 |cons x _ a=>exact .cons ⟨x.1,x.2.same S⟩ a
theorem cy.length{kvs:ac (List Key×V)}{bO:Bk}(h:cy H kvs bO):kvs.length=bO.length:=cN h
theorem Ca{p:FF×FF×UR}{k:FF}:kZ p=[n' k,n' n] ↔ c3 p=[k,n]:=by
 unfold kZ c3
 constructor
 ·intro h
  injection h with h1 h2;injection h2 with a _;rw[gx h1,gx a]
 ·intro h
  injection h with h1 h2;injection h2 with a _;rw[h1,a]
theorem cy.val{H:Hp}{k n:FF}:∀{kvs:ac (List Key×V)}{bO:Bk},cy H kvs bO->(bb kvs [n' k,n' n]=none /\ [k,n]∉ bO.map c3) \/∃v d,bb kvs [n' k,n' n]=ih v/\(k,n,d)∈bO/\Rep H v d
 |_,_,.nil=>.inl ⟨rfl,by simp⟩
 |_,_,.cons (a:=kv) (b:=p) ⟨e,r⟩ t=>by
  by_cases f:kv.1=[n' k,n' n]
  ·have g:=Ca.mp (e.symm.trans f)
   have e1:p.1=k:=by injection g
   have e2:p.2.1=n:=by injection g with _ z;injection z
   exact .inr ⟨kv.2,p.2.2,ft f,by rw[<-e1,<-e2];exact aY,r⟩
  ·have g:c3 p ≠ [k,n]:=λz=>f (e.trans (Ca.mpr z))
   rcases cy.val (k:=k) (n:=n) t with⟨a,b⟩|⟨v,d,a,b,c⟩
   ·refine .inl ⟨(eR f).trans a,λz=>?_⟩
    rw[b4]at z;rcases bJ.mp z with z|z
    ·exact g z.symm
    ·exact b z
   ·exact .inr ⟨v,d,(eR f).trans a,bc _ b,c⟩
theorem cy.snoc{k:FF}{d:UR}(r:Rep H v d){kvs:ac (List Key×V)}{bO:Bk}(h:cy H kvs bO):cy H (kvs++[([n' k,n' n],v)]) (bO++[(k,n,d)]):=gQ h ⟨rfl,r⟩
theorem CS{a b:Bk}(p:a.Perm b)(ok:gq b):gq a:=
 ⟨λq c=>ok.nm q (p.mem_iff.mp c),λq c=>ok.ent q (p.mem_iff.mp c),(p.map c3).nodup_iff.mpr ok.nd,by rw[p.length_eq];exact ok.a5⟩
theorem Df:∀{bk:Bk}{p q:FF×FF×UR},(bk.map c3).Nodup->p∈bk->q∈bk->p≠q->c3 p≠c3 q
 |[],_,_,_,h,_,_=>by cases h
 |x::bk,p,q,a,c,b,ne=>by
  rw[b4,d8]at a;rcases bJ.mp c with e1|rF
  ·rcases bJ.mp b with e2|vI
   ·exact absurd (e1.trans e2.symm) ne
   ·intro z
    exact a.1 (e1 ▸ z ▸ a6.mpr ⟨q,vI,rfl⟩)
  ·rcases bJ.mp b with e2|vI
   ·intro z
    exact a.1 (e2 ▸ z ▸ a6.mpr ⟨p,rF,rfl⟩)
   ·exact Df a.2 rF vI ne
theorem pL(K:YA)(h:X.K=K){k:Nat}{t:jY}{n:Nat}(b:X.calm=true)(c:oB X es t)
  (d:(assignEach es X.env).length=n:=by rfl) (a:(assignEach es X.env).findIdx? (·.1)=none:=by rfl):PG X (.Tuple es k pos) (DJ K n t):=by subst h;exact ik b c d a
def dX(bk:Bk)(k n:FF):Option UR:=(bk.find? λp=>decide (c3 p=[k,n])).map (·.2.2)
def c0(bk:Bk)(n:FF):List FF->Option (FF×UR)
 |[]=>none
 |x::r=>match dX bk x n with
  |some d=>ih (x,d)
  |none=>c0 bk n r
theorem o6{k:FF}{bk:Bk}:dX bk k n=none ↔ [k,n]∉ bk.map c3:=by
 unfold dX;rw[VO,List.find?_eq_none]
 constructor
 ·intro h z
  obtain⟨p,a,e⟩:=a6.mp z;exact h p a (cf e)
 ·intro h p a z
  exact h (a6.mpr ⟨p,a,dQ z⟩)
theorem km{k:FF}{d:UR}{bk:Bk}(h:dX bk k n=ih d):(k,n,d)∈bk:=by
 unfold dX at h;obtain⟨p,e,rfl⟩:=gz.mp h;have f:=List.mem_of_find?_eq_some e;have g:c3 p=[k,n]:=dQ (List.find?_some (p:=λq=>decide (c3 q=[k,n])) e);obtain⟨a,b,c⟩:=p;injection g with e1 e2;injection e2 with e2 _;subst e1 e2;exact f
theorem AF{k:FF}{d:UR}{bk:Bk}(b:(bk.map c3).Nodup)(h:(k,n,d)∈bk):dX bk k n=ih d:=by
 cases e:dX bk k n with
 |none=>exact absurd (a6.mpr ⟨_,h,rfl⟩) (o6.mp e)
 |some a =>
  have h':=km e
  by_cases z:d=a
  ·rw[z]
  ·exact absurd (show c3 (k,n,d)=c3 (k,n,a) from rfl) (Df b h h' (λw=>z (by injection w with _ w;injection w)))
theorem Hf{k:FF}{a b:Bk}(p:a.Perm b)(c:(b.map c3).Nodup):dX a k n=dX b k n:=by
 cases e:dX a k n with
 |none =>
  exact(o6.mpr λz=>o6.mp e ((p.map c3).mem_iff.mpr z)).symm
 |some d=>exact(AF c (p.mem_iff.mp (km e))).symm
theorem Cb{n:FF}{a b:Bk}(p:a.Perm b)(c:(b.map c3).Nodup):∀l:ac FF,c0 a n l=c0 b n l
 |[]=>rfl
 |x::r=>by unfold c0;rw[Hf p c,Cb p c r]
theorem Ms{bk:Bk}(h:dX bk x n=none):c0 bk n (x::r)=c0 bk n r:=by
 show(match dX bk x n with|some d=>ih (x,d)|none=>c0 bk n r)=_;rw[h]
theorem CT{bk:Bk}{d:UR}(h:dX bk x n=ih d):c0 bk n (x::r)=ih (x,d):=by
 show(match dX bk x n with|some d=>ih (x,d)|none=>c0 bk n r)=_;rw[h]
theorem nc{bk:Bk}{n:FF}{x:FF}:∀(l:ac FF),(∀y∈l,dX bk y n=none) ->∀r,c0 bk n (l++r)=c0 bk n r
 |[],_,_=>rfl
 |y::l,h,r=>by
  show c0 bk n (y::(l++r))=_;rw[Ms (h y aY)];exact nc (x:=x) l (λz hz=>h z (bc _ hz)) r
theorem jG{bk:Bk}{n x:FF}{d:UR}:∀{l:ac FF},c0 bk n l=ih (x,d)->x∈l/\dX bk x n=ih d
 |[],h=>by cases h
 |y::l,h=>by
  unfold c0 at h;cases e:dX bk y n with
  |some d'=>rw[e]at h;cases h;exact⟨aY,e⟩
  |none =>
   rw[e]at h;obtain⟨a,b⟩:=jG (l:=l) h;exact⟨bc _ a,b⟩
theorem cy.look{k:FF}{kvs:ac (List Key×V)}{bO:Bk}(h:cy H kvs bO)(e:(bO.map c3).Nodup):(dX bO k n=none/\bb kvs [n' k,n' n]=none) \/∃v d,dX bO k n=ih d/\bb kvs [n' k,n' n]=ih v/\Rep H v d:=by
 rcases h.val (k:=k) (n:=n) with⟨a,b⟩|⟨v,d,a,b,c⟩
 ·exact .inl ⟨o6.mpr b,a⟩
 ·exact .inr ⟨v,d,AF e b,a,c⟩
def eL(H:Hp)(v:V):Option (FF×UR)->Prop
 |none=>v=.aO
 |some (x,d)=>∃t u,v=.ref t/\H t=ih (.tup [.str x,u])/\Rep H u d
theorem eL.keep(k:∀b xs,H b=a2 xs->H' b=a2 xs){r:ad (FF×UR)}(h:eL H v r)(a:∀x d,r=ih (x,d)->Ent d):eL H' v r:=by
 cases r with
 |none=>exact h
 |some p =>
  obtain⟨t,u,rfl,c,r⟩:=h;exact⟨t,u,rfl,k _ _ c,(a _ _ rfl).keep r k⟩
def Lm(e:VD):Zf:=match e with|.DictComp _ _ _ sc _=>sc|.SetComp _ _ sc _=>sc|_=>{ kind:=.function,names:=[],isGenerator:=false,isCoroutine:=false }
def ee(line:List FF)(b:FF):List FF:=if b = "" then line else line.drop (line.idxOf b+1)
def fF(dl de dh:E8)(m:Int):List (FF×V):=[("lines",.ref dl),("entries",.ref de),("hits",.ref dh),("met",.int m)]
theorem iZ{f g:FF}{x:V}{r:ac (FF×V)}(h:g≠f):b6 f v ((g,x)::r)=(g,x)::b6 f v r:=aq h
theorem Ln{f:FF}{x:V}{r:ac (FF×V)}:b6 f v ((f,x)::r)=(f,v)::r:=aF rfl
theorem pM{f:FF}:b6 f v []=[(f,v)]:=rfl
theorem Lo(dl de dh:E8):b6 "met" (.int 0) (b6 "hits" (.ref dh) (b6 "entries" (.ref de) (b6 "lines" (.ref dl) [])))=fF dl de dh 0:=by
 rw[pM,iZ (f:= "entries") (by decide +kernel),pM,iZ (f:= "hits") (by decide +kernel),iZ (f:= "hits") (by decide +kernel),pM,iZ (f:= "met") (by decide +kernel),iZ (f:= "met") (by decide +kernel),iZ (f:= "met") (by decide +kernel),pM]
 rfl
theorem Mt(dl de dh:E8)(m a:Int):b6 "met" (.int a) (fF dl de dh m)=fF dl de dh a:=by
 unfold fF;rw[iZ (f:= "met") (by decide +kernel),iZ (f:= "met") (by decide +kernel),iZ (f:= "met") (by decide +kernel),Ln]
theorem ix{α:Type}{y:FF}{v:α}{r:ac (FF×α)}(h:x≠y):VP x ((y,v)::r)=VP x r:=by
 rw[dt];have:(x==y)=false:=by simpa using h
 rw[this]
theorem qw{α:Type}{v:α}{r:ac (FF×α)}:VP x ((x,v)::r)=ih v:=by
 rw[dt,oS]
section
variable{dl de dh:E8}
theorem Cc:(fF dl de dh m).lookup ("lines" : FF)=ih (V.ref dl):=qw
theorem AG:(fF dl de dh m).lookup ("entries" : FF)=ih (V.ref de):=by unfold fF;rw[ix (by decide +kernel)];exact qw
theorem pY:(fF dl de dh m).lookup ("hits" : FF)=ih (V.ref dh):=by unfold fF;rw[ix (by decide +kernel),ix (by decide +kernel)];exact qw
theorem Mu:(fF dl de dh m).lookup ("met" : FF)=ih (V.int m):=by unfold fF;rw[ix (by decide +kernel),ix (by decide +kernel),ix (by decide +kernel)];exact qw
theorem uR(h1:x ≠ "lines")(h2:x ≠ "entries")(a:x ≠ "hits")(b:x ≠ "met"):(fF dl de dh m).lookup x=none:=by unfold fF;rw[ix h1,ix h2,ix a,ix b];rfl
end
structure jT(K:YA)(mg:FF->Option i')(C:E8):Prop where
 cl:gu K C
 nl:ea K C "lines"
 ne:ea K C "entries"
 nh:ea K C "hits"
 nm:ea K C "met"
 oF:mg "Finds" = ih (.ref C)
structure FI(C x dx dl de dh:E8)(kl:List (Key×V))(ke kh:List (List Key×V))(m:Int)(bk:Bk)(H:Hp):Prop where
 hx:H x=ih (.ins C dx (fF dl de dh m))
 hl:H dl=ih (.dK kl)
 he:H de=ih (.dT ke)
 hh:H dh=ih (.dT kh)
 du:cy H ke bk
 ok:gq bk
 nn:de≠dh
inductive qP(vs:List V)(H:Hp)(Q:VK)(E:XK):Prop
 |mk{t:E8}{ws:List V}{bk:Bk}(_:vs=[.ref t])(_:H t=ih (.tup ws))(_:cS H ws bk)(_:gq bk)(_:∀d kvs H',H d=none->ax H H'->H' d=ih (.dT kvs)->cy H' kvs bk->Q (.ref d) H'):qP vs H Q E
theorem O0:bj ["book"] ["book"] (aJ nA):=bB
abbrev QA:VD:=my (bT (bE nA) 0)
theorem qQ:b5 ["book"] (aJ nA) ["kind","name","entry"] [none,none,none] (Lm QA):=dc
theorem Nr(F:aS K "entries_by_place" "entries_by_place" nA f fd):aU P w K mg base aH 1 f fd ["book"] qP:=by
 refine F.bI O0 λQa A outer s H vs Q E xb h=>?_
 ·obtain @⟨t,ws,bk,rfl,L,M,ok,q⟩:=h
  have yb:=xb.units;have W:=eF yb;intro X;refine⟨_,aB (aZ (IE rfl qQ (kH (pv 0)) (λs H fp=>⟨pL (n:=3) K rfl rfl (c2 (bf 0 qQ.nd) (c2 (bf 1 qQ.nd) (c2 (bf 2 qQ.nd) gB))),et,Nb W (b9 (aa (pv 0) (aa (pv 1) ai))) (pv 2)⟩))),?_⟩;have U:=M.length;have a5:=ok.a5;refine ah rfl ⟨t,rfl,⟨_,aA.of L⟩,λc B=>?_⟩;refine IF (xs:=ws) (λi g Y=>∃(C D G:ad V) (kvs:ac (List Key×V)),g=[C,D,G]/\ax H Y/\Y c=ce kvs/\cy Y kvs (bk.take i)) ⟨none,none,none,[],rfl,aK B,af,.nil⟩ (λi g Y ab=>by obtain⟨_,_,_,_,_,z,_⟩:=ab;exact aA.of (z _ _ L)) ?_ ?_
  ·rintro i x g Y N ⟨C,D,G,kvs,rfl,j,h1,l⟩
   have Z:i<ws.length:=(b3.mp N).1;obtain⟨p,O,a,u,rfl,R,zb⟩:=L2.Paired.get (cS.same j M) N;have pm:=eO O;have tk:bk.take (i+1)=bk.take i++[p]:=by rw[dM,O];rfl
   refine⟨a,_,rfl,aA.of R,rfl,_,_,rfl,_,_,rfl,_,_,rfl,rfl,?_⟩;refine aX rfl rfl ⟨bS,λm xa=>?_⟩;have d:=aK (o:=.tup [V.str p.1,V.str p.2.1]) xa;have I:upd Y m (.tup [V.str p.1,V.str p.2.1]) m=a2 ((kZ p).map kV):=af;have ya:=d _ _ R;have J:=zb.same d;have r:=cy.same d l;have y:=d _ _ h1;generalize upd Y m (.tup [V.str p.1,V.str p.2.1])=S at d I ya J r y⊢;have xc:=r.length;have za:bb kvs (kZ p)=none:=by
    rcases r.val (k:=p.1) (n:=p.2.1) with⟨z,_⟩|⟨v,zc,_,z2,_⟩
    ·exact z
    ·exfalso
     have T:((bk.take (i+1)).map c3).Nodup:=ok.nd.sublist (ab8 _ (jl _ _));rw[tk,a']at T;exact(dw.mp T).2.2 _ (a6.mpr ⟨_,z2,rfl⟩) (c3 p) (by simp) rfl
   refine ah rfl ⟨kvs,kZ p,m,rfl,I,y,?_,JI Z ⟨_,_,_,_,rfl,λb v e=>?_,af,?_⟩⟩
   ·rw[cK]at xc
    rw[aW];omega
   ·rw[ag (ay e B)];exact d _ _ (j _ _ e)
   ·rw[tk,iU _ za]
    have up:∀b xs,S b=a2 xs->upd S c (.dT (kvs++[(kZ p,u)])) b=a2 xs:=λb xs e=>by rw[ag (ar e y)];exact e
    exact cy.snoc (k:=p.1) (n:=p.2.1) ((ok.ent p pm).keep J up) (r.keep up λq yc=>ok.ent q (oX yc))
  ·rintro g Y ⟨C,D,G,kvs,rfl,j,h1,l⟩
   rw[U,cB]at l;exact q c kvs Y B j h1 l
theorem IW{b:FF}:lq (.str b) ((("" : FF)::line).map V.str)=decide (b = "" \/ b∈line):=by
 rw[iT]
 by_cases e:b = "" \/ b∈line
 ·rw[cf e]
  exact cf (by rcases e with z|z;rw[z];exact aY;exact bc _ z)
 ·rw[ej e]
  exact ej (λz=>e (by rcases bJ.mp z with y|y;exact .inl y;exact .inr y))
inductive qR(vs:List V)(H:Hp)(Q:VK)(E:XK):Prop
 |mk{t:E8}{line:List FF}{b:FF}(_:vs=[.ref t,.str b])(_:H t=ih (.tup (line.map V.str)))(_:line.length<=200)(_:(b = "" \/ b∈line))(_:∀H',ax H H'->Q (.bl true) H'):qR vs H Q E
theorem O1:bj ["line","thing"] ["line","thing"] (aJ sM):=bB
theorem Nt(F:aS K "is_behind" "is_behind" sM f fd)(a:hU mg):aU P w K mg base aH 1 f fd ["line","thing"] qR:=by
 refine F.bI O1 λQa A outer s H vs Q E l h=>?_
 ·obtain @⟨t,line,b,rfl,g,m,i,q⟩:=h
  intro X;refine⟨_,aB (aZ (t8 (bV lU rfl a.mO l0 (aa (pv 1) (aa (l3 (v:=.ty "str") rfl a.str boot_str rfl) ai))) (p9 (jD jw (pv 1) (bA CA (b9 (aa bt ai)) (pv 0)) rfl)))),?_⟩;refine ah rfl ⟨⟨_,.inr ⟨"str",rfl⟩⟩,.str b,.ty "str",.type "str",.type "str",true,rfl,rfl,.inl (.str b),rfl,true,rfl,?_⟩;refine ah rfl ⟨eM,λc j=>?_⟩;have d:=aK (o:=.tup [V.str ""]) j;refine ah rfl ⟨c,t,_,_,rfl,rfl,af,d _ _ g,by rw[aE,aW];show 1+_<=_;omega,λp H' k h'=>?_⟩
  have e:H' p=a2 ((("" : FF)::line).map V.str):=h';refine⟨p,_,rfl,.inr (aA.of e),rfl,jy _,?_⟩;rw[aq cc,IW,cf i];exact q H' (d.trans k)
inductive qS(vs:List V)(H:Hp)(Q:VK)(E:XK):Prop
 |mk{t:E8}{line:List FF}{b:FF}(_:vs=[.ref t,.str b])(_:H t=ih (.tup (line.map V.str)))(_:line.length<=200)(_:(b = "" \/ b∈line))(_:∀H',ax H H'->Q .aO H'):qS vs H Q E
theorem O2:bj ["line","thing"] ["line","thing"] (aJ tR):=bB
theorem Nu(F:aS K "check_behind" "check_behind" tR f fd)(a:bH P w K mg base aH 1 fI dI ["line","thing"] qR "is_behind"):aU P w K mg base aH 2 f fd ["line","thing"] qS:=by
 refine F.bI O2 λQa A outer s H vs Q E c h=>?_
 ·obtain @⟨t,line,b,rfl,d,e,g,q⟩:=h
  intro X;refine⟨_,aB (bo (hJ (hI (ba a c (aa (pv 0) (aa (pv 1) ai))))) sH bG),?_⟩;exact aX rfl rfl (qR.mk rfl d e g λY i=>⟨true,rfl,q Y i⟩)
inductive qx(C:E8)(vs:List V)(H:Hp)(Q:VK)(E:XK):Prop
 |mk{x dl de dx:E8}(_:vs=[.ref x,.ref dl,.ref de])(_:H x=ih (.ins C dx []))(_:∀dh,H dh=none->Q .aO (upd (upd H dh (.dT [])) x (.ins C dx (fF dl de dh 0)))):qx C vs H Q E
theorem Nv:bj ["self","lines","entries"] ["self","lines","entries"] (aJ uJ):=bB
theorem Mv(F:aS K "__init__" "Finds.__init__" uJ f fd)(T:jT K mg C):aU P w K mg base aH 1 f fd ["self","lines","entries"] (qx C):=by
 refine F.bI Nv λQa A outer s H vs Q E i h=>?_
 ·obtain @⟨x,dl,de,dx,rfl,g,q⟩:=h
  intro X;refine⟨_,aw (fY (pv 0) (pv 1) rfl) (aw (fY (pv 0) (pv 2) rfl) (aw (fY (pv 0) pD rfl) (aB (fY (pv 0) au rfl)))),?_⟩;refine aX rfl rfl ⟨x,C,dx,[],rfl,g,T.cl,T.nl,(by show 0<1000;decide),?_⟩
  refine aX rfl rfl ⟨x,C,dx,_,rfl,af,T.cl,T.ne,(by show 1<1000;decide),?_⟩
  rw[fu];intro dh a;have c:x≠dh:=ay af a;refine ah rfl ⟨x,C,dx,_,rfl,by rw[ag c];exact af,T.cl,T.nh,(by show 2<1000;decide),?_⟩
  refine ah rfl ⟨x,C,dx,_,rfl,af,T.cl,T.nm,(by show 3<1000;decide),?_⟩
  rw[fu,Lo];have d:H dh=none:=by
   cases e:H dh with
   |none=>rfl
   |some u=>rw[ag (aT c),e]at a;cases a
  have e:∀o o':HO,upd (upd (upd H x o) dh (.dT [])) x o'=upd (upd H dh (.dT [])) x o':=λo o'=>by
   funext b
   by_cases h1:b=x
   ·subst h1;rw[af,af]
   ·rw[ag h1,ag h1]
    by_cases h2:b=dh
    ·subst h2;rw[af,af]
    ·rw[ag h2,ag h2,ag h1]
  rw[e];exact q dh d
theorem Lp{c:Bool}{a:Int}{tb:TE}{Q:VK}(hV:Nat->Prop)(h1:c=true ->∃s:Nat,a=s/\hV s)(h2:c=false->(∀s:Nat,hV s->Q (.int s) H)->tb σ H Q)(b:∀s:Nat,hV s->Q (.int s) H):if c=true then tC (.int a) σ H Q else tb σ H Q:=by
 cases c with
 |false=>exact h2 rfl b
 |true =>
  obtain⟨s,e,d⟩:=h1 rfl;show Q (.int a) H;rw[e];exact b s d
theorem tj{α:Type} [BEq α] [LawfulBEq α]{b:α}{line:ac α}(h:b∈line):line[line.idxOf b]?=ih b /\∀m,m<line.idxOf b->line[m]? ≠ ih b:=by
 have a:=List.idxOf_lt_length_iff.mpr h;refine⟨by rw[bz a,List.getElem_idxOf],λm c z=>?_⟩
 obtain⟨d,e⟩:=b3.mp z;have:=List.not_of_lt_findIdx (p:=λx=>x==b) (xs:=line) (i:=m) c;simp[e]at this
theorem kF{bk:Bk}{l:ac FF}(ok:gq bk):∀x d,c0 bk n l=ih (x,d)->Nm x/\Ent d:=λx d h=>by
 have a:=km (jG h).2;exact⟨(ok.nm _ a).1,ok.ent _ a⟩
inductive qh(C:E8)(vs:List V)(H:Hp)(Q:VK)(E:XK):Prop
 |mk{x dx dl de dh a:E8}{kl:List (Key×V)}{ke kh:List (List Key×V)}{m:Int}{bk:Bk}{kind name gw:FF}{line:List FF}(_:vs=[.ref x,.str kind,.str name,.str gw])(_:FI C x dx dl de dh kl ke kh m bk H)(_:bb kl (n' kind)=ih (.ref a))(_:H a=ih (.tup (line.map V.str)))(_:line.length<=200)(_:(gw = "" \/ gw∈line))(_:∀v m' H',(∀b u,b≠x->H b=ih u->H' b=ih u)->H' x=ih (.ins C dx (fF dl de dh m'))->eL H' v (c0 bk name (ee line gw))->Q v H'):qh C vs H Q E
noncomputable abbrev QB:List FF:=["self","kind","name","behind","line","start","other"]
theorem qT:bj QB ["self","kind","name","behind"] (aJ uL):=bB
theorem Lq(F:aS K "walk" "Finds.walk" uL f fd)(T:jT K mg C):aU P w K mg base aH 1 f fd ["self","kind","name","behind"] (qh C):=by
 refine F.bI qT λQa A outer s H vs Q E xh h=>?_
 ·obtain @⟨x,dx,dl,de,dh,a,yh,ye,kh,m,bk,ya,name,g,line,rfl,fi,zh,O,zk,xi,q⟩:=h
  have yi:=xh.units;have N:=eF yi;intro X;refine⟨_,aw (a3 4 qT.nd (d4 N (cp (pv 0) rfl) (pv 1)))
   (aw (a3 5 qT.nd (I3 (br c' (pv 3) bt (bC _)) au (bA e4 (gj PySem.F.plainAttrs_tuple Vt PySem.F.type_tuple_index IC (pv 4) (aa (pv 3) ai)) au)))
   (aw (eK d9 rfl (kH (iR Cz (pv 4) (ij (pv 5)) iX)) (bf 6 qT.nd)
    (aw (ni (pv 0) au qa)
    (aB (bo (fX (i1 N (b9 (aa (pv 6) (aa (pv 2) ai))) (cp (pv 0) rfl))) (aB (aZ (b9 (aa (pv 6) (aa (d4 N (cp (pv 0) rfl) (b9 (aa (pv 6) (aa (pv 2) ai)))) ai))))) bG))))
   (aB (aZ dV)))),?_⟩
  refine ah rfl ⟨x,C,dx,_,.ref dl,rfl,fi.hx,T.cl,T.nl,Cc,_,rfl,dl,.ref a,rfl,.inl ⟨yh,n' ya,.inl fi.hl,rfl,zh.symm⟩,?_⟩;refine ah rfl ⟨rfl,_,rfl,?_⟩;refine Lp (λR=>ee line g=line.drop R) (λe=>⟨0,rfl,?_⟩) (λe k=>?_) ?_
  ·have e:=dQ e
   injection e with e;unfold ee;rw[aF e];rfl
  ·have za:g ≠ "" :=λz=>by rw[z]at e;exact absurd e (by rw[cf rfl];intro y;cases y)
   have zi:g∈line:=xi.resolve_left za;obtain⟨xj,yj⟩:=tj zi;exact ah rfl ⟨.inr (.inr (.inr (.inr ⟨rfl,_,Rd.of O⟩))),_,rfl,a,line,g,line.idxOf g,rfl,rfl,aA.of O,xj,yj,_,_,rfl,rfl,k (line.idxOf g+1) (by unfold ee;rw[aq za])⟩
  intro R yf;refine dZ rfl rfl rfl ⟨a,_,rfl,O,λsp H0 B l=>?_⟩;rw[nG,<-lH,<-yf]at l;obtain⟨rest,xf⟩:∃rest,ee line g=rest:=⟨_,rfl⟩;rw[xf]at l q;have xb:=B _ _ fi.hx;refine⟨sp,rfl,⟨_,aA.of l⟩,Kg (xs:=rest.map V.str) (λi σ Y=>∃(c:Int) (S:ad V),σ=[am x,ih (.str ya),ih (.str name),ih (.str g),am a,ih (.int R),S]/\(∀b u,b≠x->H0 b=ih u->Y b=ih u)/\Y x=ih (.ins C dx (fF dl de dh c)) /\∀y∈rest.take i,dX bk y name=none)
   ⟨m,none,rfl,λb u _ e=>e,xb,λy j=>(by cases j)⟩ (λi σ Y _ ab=>by obtain⟨_,_,_,z,_⟩:=ab;exact aA.of (z _ _ (ar l xb (by intro y;cases y)) l)) ?_ ?_⟩
  ·rintro i y σ Y j ⟨c,S,rfl,kp,I,no⟩
   obtain⟨yb,rfl⟩:=jC j;have zf:rest.take (i+1)=rest.take i++[rest[i]]:=by rw[dM,bz yb];rfl
   refine ah rfl ⟨x,C,dx,_,.int c,rfl,I,T.cl,T.nm,Mu,_,_,rfl,rfl,dx,_,I,by show 4<1000;decide,?_⟩
   rw[Mt];have zb:∀b u,b≠x->H0 b=ih u->upd Y x (.ins C dx (fF dl de dh (c+1))) b=ih u:=λb u n e=>by rw[ag n];exact kp b u n e
   have xc:upd Y x (.ins C dx (fF dl de dh (c+1))) x=ih (.ins C dx (fF dl de dh (c+1))):=af;generalize upd Y x (.ins C dx (fF dl de dh (c+1)))=H2 at zb xc⊢;refine aX rfl rfl ⟨bS,λJ xg=>?_⟩;have U:=aK (o:=.tup [V.str rest[i],V.str name]) xg;have yc:upd H2 J (.tup [V.str rest[i],V.str name]) J=a2 (([n' rest[i],n' name]:ac Key).map kV):=af;have p:=U _ _ xc;have r:∀b u,b≠x->H0 b=ih u->upd H2 J (.tup [V.str rest[i],V.str name]) b=ih u:=λb u n e=>U _ _ (zb b u n e);generalize upd H2 J (.tup [V.str rest[i],V.str name])=D at U yc p r⊢;have yg:de≠x:=ar fi.he fi.hx
   have zc:D de=ce ye:=r _ _ yg (B _ _ fi.he);have zj:cy D ye bk:=fi.du.keep (λb xs e=>r _ _ (ar e fi.hx) (B _ _ e)) fi.ok.ent
   refine ah rfl ⟨x,C,dx,_,.ref de,rfl,p,T.cl,T.ne,AG,de,_,rfl,b7.t (k:=[n' rest[i],n' name]) zc yc,_,rfl,?_⟩;rcases zj.look (k:=rest[i]) (n:=name) fi.ok.nd with⟨W,L⟩|⟨v,d,W,L,xk⟩
   ·rw[L]
    refine⟨c+1,_,rfl,r,p,λy j=>?_⟩;rw[zf]at j;rcases bK.mp j with z|z
    ·exact no y z
    ·rw[bN.mp z];exact W
   ·rw[L]
    refine aX rfl rfl ⟨x,C,dx,_,.ref de,rfl,p,T.cl,T.ne,AG,_,rfl,_,rfl,bS,λM zg=>?_⟩;have G:=aK (o:=.tup [V.str rest[i],V.str name]) zg;have xd:upd D M (.tup [V.str rest[i],V.str name]) M=a2 (([n' rest[i],n' name]:ac Key).map kV):=af;have yd:=G _ _ zc;have zd:=G _ _ p;have ze:=xk.same G;have xe:∀b u,b≠x->H0 b=ih u->upd D M (.tup [V.str rest[i],V.str name]) b=ih u:=λb u n e=>G _ _ (r b u n e);generalize upd D M (.tup [V.str rest[i],V.str name])=xl at G xd yd zd ze xe⊢;refine⟨de,v,rfl,by rw[<-L];exact b7.t (k:=[n' rest[i],n' name]) yd xd,bS,λt yk=>?_⟩
    have Z:=aK (o:=.tup [V.str rest[i],v]) yk;have xa:c0 bk name rest=ih (rest[i],d):=by
     conv=>lhs;rw[<-wG i rest,lB yb]
     rw[nc (x:=rest[i]) _ no];exact CT W
    refine q (.ref t) (c+1) _ (λb u n e=>Z _ _ (xe b u n (B _ _ e))) (Z _ _ zd) ?_;rw[xa];exact⟨t,v,rfl,af,ze.same Z⟩
  ·rintro σ Y ⟨c,S,rfl,kp,I,no⟩
   rw[aE,cB]at no;refine q .aO c Y (λb u n e=>kp b u n (B _ _ e)) I ?_;have xa:c0 bk name rest=none:=by
    have:=nc (x:=name) rest no [];rw[eZ]at this;exact this
   rw[xa];rfl
def i3(H:Hp)(kh:List (List Key×V))(bk:Bk)(L:FF->List FF):Prop:= ∀k n b v,bb kh [n' k,n' n,n' b]=ih v->eL H v (c0 bk n (ee (L k) b))
theorem i3.keep{bk:Bk}(h:i3 H kh bk L)(ok:gq bk)(k:∀b xs,H b=a2 xs->H' b=a2 xs):i3 H' kh bk L:=λa n b v e=>(h a n b v e).keep k λx d z=>(kF ok x d z).2
inductive mh(C:E8)(vs:List V)(H:Hp)(Q:VK)(E:XK):Prop
 |mk{x dx dl de dh:E8}{kl:List (Key×V)}{ke kh:List (List Key×V)}{m:Int}{bk:Bk}{kind name gw:FF}{L:FF->List FF}(_:vs=[.ref x,.str kind,.str name,.str gw])(_:FI C x dx dl de dh kl ke kh m bk H)(_:gM H kl L kind)(_:(L kind).length<=200)(_:(gw = "" \/ gw∈L kind))(_:i3 H kh bk L)(_:kh.length<=1000000)(_:∀v eH m' H',(∀b u,b≠x->b≠dh->H b=ih u->H' b=ih u)->FI C x dx dl de dh kl ke eH m' bk H'->i3 H' eH bk L->eH.length<=kh.length+1->eL H' v (c0 bk name (ee (L kind) gw))->Q v H'):mh C vs H Q E
abbrev QC:List FF:=["self","kind","name","behind","place"]
theorem Ed:bj QC ["self","kind","name","behind"] (aJ uK):=bB
theorem Lr{fW:E8}(F:aS K "look" "Finds.look" uK f fd)(T:jT K mg C)(zd:aU P w K mg base aH 1 fW dW ["self","kind","name","behind"] (qh C))(xe:Meth K C "walk" fW)(ye:Binds K dW ["self","kind","name","behind"] []):aU P w K mg base aH 2 f fd ["self","kind","name","behind"] (mh C):=by
 refine F.bI Ed λQa A outer s H vs Q E za h=>?_
 ·obtain @⟨x,dx,dl,de,dh,xb,M,kh,m,bk,c,name,g,L,rfl,fi,⟨a,ze,xf⟩,yf,zf,xg,yh,q⟩:=h
  have yg:=za.units;have D:=eF yg;intro X;refine⟨_,aw (a3 4 Ed.nd (b9 (aa (pv 1) (aa (pv 2) (aa (pv 3) ai)))))
   (aw (bo (fX (pq D (pv 4) (cp (pv 0) rfl))) (aB (gC D (cp (pv 0) rfl) (pv 4) (hF (pv 0) T.cl xe zd za ye .nil cY (aa (pv 1) (aa (pv 2) (aa (pv 3) ai)))) rfl)) bG)
   (aB (aZ (d4 D (cp (pv 0) rfl) (pv 4))))),?_⟩
  refine dZ rfl rfl rfl ⟨g6,λpt xc=>?_⟩;have j:=aK (o:=.tup [V.str c,V.str name,V.str g]) xc;have y:upd H pt (.tup [V.str c,V.str name,V.str g]) pt=a2 (([n' c,n' name,n' g]:ac Key).map kV):=af;generalize upd H pt (.tup [V.str c,V.str name,V.str g])=Y at j y⊢;have i:FI C x dx dl de dh xb M kh m bk Y:=⟨j _ _ fi.hx,j _ _ fi.hl,j _ _ fi.he,j _ _ fi.hh,fi.du.same j,fi.ok,fi.nn⟩;have G:i3 Y kh bk L:=xg.keep fi.ok λb xs e=>j _ _ e;have S:x≠dh:=ar fi.hx fi.hh
  have yc:dl≠dh:=ar fi.hl fi.hh
  refine aX rfl rfl ⟨x,C,dx,_,.ref dh,rfl,i.hx,T.cl,T.nh,pY,dh,_,rfl,b7.t (k:=[n' c,n' name,n' g]) i.hh y,_,rfl,?_⟩;cases yb:bb kh [n' c,n' name,n' g] with
  |some v =>
   refine ah rfl ⟨x,C,dx,_,.ref dh,rfl,i.hx,T.cl,T.nh,pY,_,rfl,dh,v,rfl,by rw[<-yb];exact b7.t (k:=[n' c,n' name,n' g]) i.hh y,?_⟩
   exact q v kh m Y (λb u _ _ e=>j _ _ e) i G (gc _) (G c name g v yb)
  |none =>
   refine ah rfl ⟨x,dx,_,rfl,i.hx,uR (by decide +kernel) (by decide +kernel) (by decide +kernel) (by decide +kernel),_,rfl,_,rfl,_,rfl,qh.mk rfl i ze (j _ _ xf) yf zf λv zb H2 p U zc=>?_⟩
   have I:∀b xs,Y b=a2 xs->H2 b=a2 xs:=λb xs e=>p _ _ (ar e i.hx) e
   have W:=p _ _ (aT S) i.hh;have Z:=I _ _ y;have zg:cy H2 M bk:=i.du.keep I fi.ok.ent;refine ah rfl ⟨x,C,dx,_,.ref dh,rfl,U,T.cl,T.nh,pY,_,rfl,dh,_,rfl,eW.t (k:=[n' c,n' name,n' g]) W Z (by rw[aW];omega),?_⟩
   have J:upd H2 dh (.dT (putK kh [n' c,n' name,n' g] v)) dh=ce (putK kh [n' c,n' name,n' g] v):=af;have l:∀b u,b≠dh->H2 b=ih u->upd H2 dh (.dT (putK kh [n' c,n' name,n' g] v)) b=ih u:=λb u n e=>by rw[ag n];exact e
   generalize upd H2 dh (.dT (putK kh [n' c,n' name,n' g] v))=r at J l⊢;have B:∀b xs,H2 b=a2 xs->r b=a2 xs:=λb xs e=>l _ _ (ar e W) e
   have xa:=l _ _ S U;have xd:FI C x dx dl de dh xb M (putK kh [n' c,n' name,n' g] v) zb bk r:=⟨xa,l _ _ yc (p _ _ (ar i.hl i.hx) i.hl),l _ _ fi.nn (p _ _ (ar i.he i.hx) i.he),J,zg.keep B fi.ok.ent,fi.ok,fi.nn⟩
   have ya:eL r v (c0 bk name (ee (L c) g)):=zc.keep B λx d z=>(kF fi.ok x d z).2;have yd:i3 r (putK kh [n' c,n' name,n' g] v) bk L:=λk n b u e=>by
    rw[kB]at e
    by_cases z:([n' k,n' n,n' b]:ac Key)=[n' c,n' name,n' g]
    ·rw[aF z]at e
     cases e
     injection z with N z;injection z with O z;injection z with R z;injection N with N;injection O with O;injection R with R;rw[N,O,R];exact ya
    ·rw[aq z]at e
     exact((G k n b u e).keep I λx d z=>(kF fi.ok x d z).2).keep B λx d z=>(kF fi.ok x d z).2
   refine ah rfl ⟨x,C,dx,_,.ref dh,rfl,xa,T.cl,T.nh,pY,_,rfl,dh,v,rfl,?_,?_⟩
   ·have:=b7.t (k:=[n' c,n' name,n' g]) J (B _ _ Z)
    rw[kB,aF rfl]at this;exact this
   ·exact q v _ zb r (λb u n1 xh e=>l _ _ xh (p _ _ n1 (j _ _ e))) xd yd (lO _ _ _) ya
structure FB(H:Hp)(t tb:E8)(o:YO)(ws wb:List V)(Qb:List (FF×List FF))(L:FF->List FF)(bk:Bk):Prop where
 ht:H t=ih (.bw o (.tup ws))
 od:o.dict=none
 fv:dg H ws Qb
 fo:jM Qb L
 hb:H tb=ih (.tup wb)
 bv:cS H wb bk
 ok:gq bk
theorem FB.same{t tb:E8}{bk:Bk}(h:FB H t tb o ws wb Qb L bk)(S:ax H H'):FB H' t tb o ws wb Qb L bk:=
 ⟨S _ _ h.ht,h.od,h.fv.same S,h.fo,S _ _ h.hb,cS.same S h.bv,h.ok⟩
theorem FB.a5{t tb:E8}{bk:Bk}(h:FB H t tb o ws wb Qb L bk){k:FF}(a:k∈Qb.map (·.1)):(L k).length<=200:=by
 obtain⟨p,b,rfl⟩:=a6.mp a;obtain⟨_,q,_,e,c⟩:=h.fo.line p b;rw[e,cV];omega
inductive qU(C:E8)(vs:List V)(H:Hp)(Q:VK)(E:XK):Prop
 |mk{t tb:E8}{o:YO}{ws wb:List V}{Qb:List (FF×List FF)}{L:FF->List FF}{bk:Bk}(_:vs=[.ref t,.ref tb])(_:FB H t tb o ws wb Qb L bk)(_:∀x dx dl de dh kl ke H',ax H H'->FI C x dx dl de dh kl ke [] 0 bk H'->(∀p∈Qb,gM H' kl L p.1)->H x=none->H dh=none->Q (.ref x) H'):qU C vs H Q E
theorem O3:bj ["family","book"] ["family","book"] (aJ s6):=bB
theorem Nw(F:aS K "finds_in" "finds_in" s6 f fd)(T:jT K mg C)
  (R:bH P w K mg base aH 5 fL dL ["family"] pX "lines_of")
  (S:bH P w K mg base aH 1 fE dE ["book"] qP "entries_by_place")
  (M:Mk K C fI) (U:aU P w K mg base aH 1 fI dI ["self","lines","entries"] (qx C)) (V:Binds K dI ["self","lines","entries"] []):aU P w K mg base aH 6 f fd ["family","book"] (qU C):=by
 refine F.bI O3 λQa A outer s H vs Q E W h=>?_
 ·obtain @⟨t,tb,o,ws,wb,Qb,L,bk,rfl,c,q⟩:=h
  have i:a4 5 _:=W;have B:a4 2 _:=i.mono (by decide)
  have D:a4 1 _:=i.mono (by decide)
  intro X;refine⟨_,aB (aZ (tF M U B rfl T.oF V .nil cY (aa (ba R i (aa (pv 0) ai)) (aa (ba S D (aa (pv 1) ai)) ai)))),?_⟩;refine ah rfl (pX.mk rfl c.ht c.fv c.fo λdl Z Y zb v h1 G _=>?_);have j:=c.same v;refine ah rfl (qP.mk rfl j.hb j.bv j.ok λde xa H2 xc m h2 ya=>?_);intro x dx n I ne;have za:=aK (o:=.own x) I;have J:upd H2 dx (.own x) x=none:=by rw[ag (aT ne)];exact n
  have g:=za.trans (aK (o:=.ins C dx []) J);have k:upd (upd H2 dx (.own x)) x (.ins C dx []) x=ih (.ins C dx []):=af;generalize upd (upd H2 dx (.own x)) x (.ins C dx [])=y at g k⊢;refine qx.mk rfl k λdh d=>⟨rfl,?_⟩;have z:=aK (o:=.dT []) d;have N:x≠dh:=ay k d;have r:upd y dh (.dT []) dh=ce []:=af;generalize upd y dh (.dT [])=xb at z r⊢;have l:=v.trans m;have O:=g.trans z;have a:∀b u,H2 b=ih u->upd xb x (.ins C dx (fF dl de dh 0)) b=ih u:=λb u e=>by rw[ag (ay e n)];exact O _ _ e
  refine q x dx dl de dh Z xa _ (λb u e=>a _ _ (l _ _ e)) ⟨af,a _ _ (m _ _ h1),a _ _ h2,by rw[ag (aT N)];exact r,ya.same a,c.ok,?_⟩ (λp yb=>(G p yb).same λb u e=>a _ _ (m _ _ e)) (l.free n) ((l.trans g).free d)
  exact ay (g _ _ h2) d
abbrev Own:=List (FF×Int)
abbrev Ask:=FF×FF
inductive Rs where
 |told (z:Int):Rs
 |miss (n:FF):Rs
def jI(d:UR):Bool:=decide (a9 d = "ahead" \/ a9 d = "shut")
structure aP where
 line:List FF
 bk:Bk
 own:Own
namespace aP
variable(W:aP)
def look(a:Ask):Option (FF×UR):=c0 W.bk a.1 (ee W.line a.2)
def eX(a:Ask):Bool:=match W.look a with|none=>true|some p=>!jI p.2
def cU(a:Ask):Option Int:=if a.2 = "" /\ W.eX a=true then W.own.lookup a.1 else none
def need(n w:FF)(d:UR):Option Ask:=if a9 d = "ask" then ih (d0 d,"") else if a9 d = "onward" then (if (W.look (n,w)).isSome then ih (n,w) else none) else none
end aP
def stepT(t:Int)(d:UR):Int:=if a9 d = "add" then t+kY d else if a9 d = "times" then t * kY d else t
def aP.dH(W:aP)(f:Ask->Option Rs)(n w:FF):List UR->Int->Option Rs
 |[],t=>ih (.told t)
 |d::ds,t=>match W.need n w d with
  |none=>W.dH f n w ds (stepT t d)
  |some b=>match f b with
   |none=>none
   |some (.miss m)=>ih (.miss m)
   |some (.told z)=>W.dH f n w ds (t+z)
def aP.ck(W:aP)(f:Ask->Option Rs)(a:Ask):Option Rs:=match W.cU a with
 |some z=>ih (.told z)
 |none=>match W.look a with
  |none=>ih (.miss a.1)
  |some (w,d)=>W.dH f a.1 w (cg d) 0
def aP.out(W:aP):Nat->Ask->Option Rs
 |0,_=>none
 |k+1,a=>W.ck (W.out k) a
def aP.Out(W:aP)(a:Ask)(r:Rs):Prop:= ∃k,W.out k a=ih r
section
variable{W:aP}{f g:Ask->Option Rs}{w:FF}
theorem nH(h:∀a r,f a=ih r->g a=ih r):∀{ds:ac UR}{t:Int}{r:Rs},W.dH f n w ds t=ih r->W.dH g n w ds t=ih r
 |[],t,r,e=>e
 |d::ds,t,r,e=>by
  unfold aP.dH at e⊢;cases i:W.need n w d with
  |none=>rw[i]at e;exact nH h e
  |some b =>
   rw[i]at e
   dsimp only at e⊢
   cases c:f b with
   |none=>rw[c]at e;cases e
   |some x =>
    have j:=h b x c;rw[j];rw[c]at e;cases x with
    |miss m=>exact e
    |told z=>exact nH h e
theorem HQ(h:∀a r,f a=ih r->g a=ih r){a:Ask}{r:Rs}(e:W.ck f a=ih r):W.ck g a=ih r:=by
 unfold aP.ck at e⊢;cases b:W.cU a with
 |some z=>rw[b]at e;exact e
 |none =>
  rw[b]at e;cases c:W.look a with
  |none=>rw[c]at e;exact e
  |some p=>rw[c]at e;exact nH h e
theorem Cd:∀{k:Nat}{a:Ask}{r:Rs},W.out k a=ih r->W.out (k+1) a=ih r
 |0,_,_,h=>by cases h
 |k+1,_,_,h=>HQ (λ_ _=>Cd) h
theorem mi{k m:Nat}{a:Ask}{r:Rs}(b:k<=m)(h:W.out k a=ih r):W.out m a=ih r:=by
 induction b with
 |refl=>exact h
 |step _ c=>exact Cd c
theorem Out.uniq{a:Ask}{r b:Rs}(h:W.Out a r)(h':W.Out a b):r=b:=by
 obtain⟨k,c⟩:=h;obtain⟨m,d⟩:=h';rcases Nat.le_total k m with z|z
 ·have:=mi z c;rw[d]at this;exact(cJ this).symm
 ·have:=mi z d;rw[c]at this;exact cJ this
theorem Out.own{a:Ask}(h:W.cU a=ih z):W.Out a (.told z):=⟨1,by show W.ck _ a=_;unfold aP.ck;rw[h]⟩
theorem Out.none{a:Ask}(h:W.cU a=none)(b:W.look a=none):W.Out a (.miss a.1):=⟨1,by show W.ck _ a=_;unfold aP.ck;rw[h,b]⟩
structure bh where
 a:Ask
 w:FF
 left:List UR
 t:Int
structure bR(W:aP)(f:bh):Prop where
 up:∀k r,W.dH (W.out k) f.a.1 f.w f.left f.t=ih r->W.Out f.a r
 dn:∀k r,W.out (k+1) f.a=ih r->W.dH (W.out k) f.a.1 f.w f.left f.t=ih r
 lk:W.cU f.a=none /\∃d pre,W.look f.a=ih (f.w,d)/\cg d=pre++f.left /\∀s∈pre,∀b,W.need f.a.1 f.w s=ih b ->∃r,W.Out b r
theorem bR.new{a:Ask}{w:FF}{d:UR}(h:W.cU a=none)(b:W.look a=ih (w,d)):bR W ⟨a,w,cg d,0⟩:=by
 have e:∀k,W.out (k+1) a=W.dH (W.out k) a.1 w (cg d) 0:=λk=>by show W.ck _ a=_;unfold aP.ck;rw[h,b]
 exact⟨λk r z=>⟨k+1,(e k).trans z⟩,λk r z=>(e k).symm.trans z,h,d,[],b,rfl,λ_ c=>(by cases c)⟩
theorem bR.behind{f:bh}{d:UR}{ds:ac UR}(h:bR W f)(e:f.left=d::ds)(i:∀b,W.need f.a.1 f.w d=ih b ->∃r,W.Out b r):W.cU f.a=none /\∃c pre,W.look f.a=ih (f.w,c)/\cg c=pre++ds /\∀s∈pre,∀b,W.need f.a.1 f.w s=ih b ->∃r,W.Out b r:=by
 obtain⟨h1,c,pre,h2,j,k⟩:=h.lk;exact⟨h1,c,pre++[d],h2,by rw[j,e,mX];rfl,λs l b g=>by
  rcases bK.mp l with z|z
  ·exact k s z b g
  ·rw[bN.mp z]at g;exact i b g⟩
theorem bR.step{f:bh}{d:UR}{ds:ac UR}(h:bR W f)(e:f.left=d::ds)(c:W.need f.a.1 f.w d=none):bR W ⟨f.a,f.w,ds,stepT f.t d⟩:=by
 have e1:∀k,W.dH (W.out k) f.a.1 f.w f.left f.t=W.dH (W.out k) f.a.1 f.w ds (stepT f.t d):=λk=>by rw[e];show(match W.need f.a.1 f.w d with|none=>_|some b=>_)=_;rw[c]
 exact⟨λk r z=>h.up k r ((e1 k).trans z),λk r z=>(e1 k).symm.trans (h.dn k r z),h.behind e λb g=>(by rw[c]at g;cases g)⟩
theorem gU{a:Ask->Option Rs}{d:UR}{ds:ac UR}{t:Int}{b:Ask}(c:W.need n w d=ih b):W.dH a n w (d::ds) t=match a b with|none=>none|some (.miss m)=>ih (.miss m)|some (.told z)=>W.dH a n w ds (t+z):=by
 show(match W.need n w d with|none=>_|some b=>_)=_;rw[c]
theorem bR.take{f:bh}{d:UR}{ds:ac UR}{b:Ask}(h:bR W f)(e:f.left=d::ds)(i:W.need f.a.1 f.w d=ih b)(l:W.Out b (.told z)):bR W ⟨f.a,f.w,ds,f.t+z⟩:=by
 obtain⟨m,j⟩:=l;refine⟨λk r y=>h.up (max k m) r ?_,λk r y=>?_,h.behind e λn c=>(by rw[i]at c;cases c;exact⟨_,m,j⟩)⟩
 ·rw[e,gU i,mi (aaL k m) j]
  exact nH (λ_ _ q=>mi (aaZ k m) q) y
 ·have g:=h.dn k r y
  rw[e,gU i]at g;cases c:W.out k b with
  |none=>rw[c]at g;cases g
  |some x =>
   have:=Out.uniq (W:=W) ⟨k,c⟩ ⟨m,j⟩;subst this;rw[c]at g;exact g
theorem bR.miss{f:bh}{d:UR}{ds:ac UR}{b:Ask}{m:FF}(h:bR W f)(e:f.left=d::ds)(c:W.need f.a.1 f.w d=ih b)(g:W.Out b (.miss m)):W.Out f.a (.miss m):=by
 obtain⟨k,i⟩:=g;exact h.up k _ (by rw[e,gU c,i])
theorem bR.done{f:bh}(h:bR W f)(e:f.left=[]):W.Out f.a (.told f.t):=h.up 0 _ (by rw[e];rfl)
theorem bR.Dz{f:bh}{d:UR}{ds:ac UR}{b:Ask}(h:bR W f)(e:f.left=d::ds)(c:W.need f.a.1 f.w d=ih b){k:Nat}{r:Rs}(g:W.out (k+1) f.a=ih r):∃i,W.out k b=ih i:=by
 have y:=h.dn k r g;rw[e,gU c]at y;cases j:W.out k b with
 |none=>rw[j]at y;cases y
 |some x=>exact⟨x,rfl⟩
def gG(W:aP)(f:bh):Option Ask:=match f.left with | []=>none|d::_=>W.need f.a.1 f.w d
def Chain(W:aP):List bh->Ask->Prop
 |[],_=>True
 |[f],b=>gG W f=ih b
 |f::g::r,b=>gG W f=ih g.a/\Chain W (g::r) b
theorem ku{W:aP}{f:bh}{b:Ask}(h:gG W f=ih b):∃d ds,f.left=d::ds/\W.need f.a.1 f.w d=ih b:=by
 unfold gG at h;cases e:f.left with
 |nil=>rw[e]at h;cases h
 |cons d ds=>rw[e]at h;exact⟨d,ds,rfl,h⟩
theorem AH{m:FF}:∀{fs:ac bh}{b a:Ask},(∀f∈fs,bR W f)->Chain W fs b->(fs.head?.map (·.a)).getD b=a->W.Out b (.miss m)->W.Out a (.miss m)
 |[],b,a,_,_,e,h=>by cases e;exact h
 |[f],b,a,ok,c,e,h=>by
  cases e
  obtain⟨d,ds,e1,e2⟩:=ku c;exact(ok f aY).miss e1 e2 h
 |f::g::r,b,a,ok,c,e,h=>by
  cases e
  obtain⟨d,ds,e1,e2⟩:=ku c.1;exact(ok f aY).miss e1 e2 (AH (λx i=>ok x (bc _ i)) c.2 rfl h)
theorem sF:∀{fs:ac bh}{b:Ask},(∀f∈fs,bR W f)->Chain W fs b ->∀{f:bh}{k:Nat}{r:Rs},fs.head?=ih f->W.out k f.a=ih r ->∃i j,i<k/\W.out i b=ih j
 |[],_,_,_,_,_,_,h,_=>by cases h
 |[f],b,ok,c,_,k,r,h,e=>by
  cases h
  obtain⟨d,ds,e1,e2⟩:=ku c;cases k with
  |zero=>cases e
  |succ k=>obtain⟨j,m⟩:=(ok f aY).Dz e1 e2 e;exact⟨k,j,j8 _,m⟩
 |f::g::l,b,ok,c,_,k,r,h,e=>by
  cases h
  obtain⟨d,ds,e1,e2⟩:=ku c.1;cases k with
  |zero=>cases e
  |succ k =>
   obtain⟨j,m⟩:=(ok f aY).Dz e1 e2 e;obtain⟨i,n,p,o⟩:=sF (λx q=>ok x (bc _ q)) c.2 rfl m;exact⟨i,n,lE p,o⟩
theorem JW{fs:ac bh}{f:bh}{b:Ask}(ok:∀f∈fs,bR W f)(c:Chain W fs b)(h:fs.head?=ih f)(e:f.a=b):∀k,W.out k b=none:=by
 intro k
 induction k using ZP with
 |_ k g =>
  cases i:W.out k b with
  |none=>rfl
  |some r =>
   obtain⟨j,m,l,d⟩:=sF ok c h (e ▸ i);rw[g j l]at d;cases d
theorem AI:∀{fs gs:ac bh}{b:Ask},Chain W (fs++gs) b->Chain W gs b
 |[],_,_,c=>c
 |[f],[],_,_=>trivial
 |[f],g::gs,b,c=>c.2
 |f::g::r,gs,b,c=>AI (fs:=g::r) c.2
theorem ng:∀{fs:ac bh}{b a:Ask},(∀f∈fs,bR W f)->Chain W fs b->(fs.head?.map (·.a)).getD b=a->(∀k,W.out k b=none) ->∀k,W.out k a=none
 |[],b,a,_,_,e,d,k=>by cases e;exact d k
 |f::l,b,a,ok,c,e,d,k=>by
  cases e
  cases g:W.out k f.a with
  |none=>exact g
  |some r =>
   obtain⟨i,j,_,h⟩:=sF ok c rfl g;rw[d i]at h;cases h
end
def cb(as:List Ask):List FF:=(as.filter λa=>decide (a.2=("" : FF))).map (·.1)
def eS(W:aP)(a:Ask)(ns:List FF):Prop:= ∃(fs:List bh) (b:Ask) (i:Nat),(∀f∈fs,bR W f)/\Chain W fs b/\(fs.head?.map (·.a)).getD b=a/\(fs.map (·.a)).Nodup/\(fs.map (·.a))[i]?=ih b/\ns=cb ((fs.map (·.a)).drop i)
theorem JX{W:aP}{fs:ac bh}{a b:Ask}(ok:∀f∈fs,bR W f)(c:Chain W fs b)(e:(fs.head?.map (·.a)).getD b=a)(d:(fs.map (·.a)).Nodup)(hi:(fs.map (·.a))[i]?=ih b):eS W a (cb ((fs.map (·.a)).drop i)):=⟨fs,b,i,ok,c,e,d,hi,rfl⟩
theorem t2{W:aP}{fs:ac bh}{b:Ask}(ok:∀f∈fs,bR W f)(c:Chain W fs b)(hi:(fs.map (·.a))[i]?=ih b):(fs.drop i).head?.map (·.a)=ih b/\(∀f∈fs.drop i,bR W f)/\Chain W (fs.drop i) b /\∀k,W.out k b=none:=by
 have e:Chain W (fs.drop i) b:=AI (fs:=fs.take i) (by rw[wG];exact c)
 have d:∀f∈fs.drop i,bR W f:=λf h=>ok f (oY h);have h2:(fs.drop i).head?.map (·.a)=ih b:=by rw[List.head?_drop,<-cL];exact hi
 obtain⟨g,j,l⟩:=gz.mp h2;exact⟨h2,d,e,JW d e j l⟩
theorem eS.core{W:aP}{a:Ask}(h:eS W a ns):(∀k,W.out k a=none) /\∃(fs:ac bh) (b:Ask),fs.head?.map (·.a)=ih b/\(∀f∈fs,bR W f)/\Chain W fs b/\(fs.map (·.a)).Nodup/\ns=cb (fs.map (·.a)):=by
 obtain⟨fs,b,i,ok,c,e,g,hi,rfl⟩:=h;obtain⟨h2,d,j,l⟩:=t2 ok c hi;exact⟨ng ok c e l,fs.drop i,b,h2,d,j,by rw[lH];exact g.sublist (VR _ _),by rw[lH]⟩
abbrev Th:=FF×FF×Own
def iB(H:Hp)(vs:List V)(own:Own):Prop:=VX (λv q=>∃c,v=V.ref c/\H c=ih (.tup [.str q.1,.int q.2])) vs own
def g4(H:Hp)(vs:List V)(bQ:List Th):Prop:=VX (λv p=>∃a b us,v=V.ref a/\H a=ih (.tup [.str p.1,.str p.2.1,.ref b])/\H b=ih (.tup us)/\iB H us p.2.2) vs bQ
theorem iB.keep{own:Own}(h:iB H vs own)(k:∀b xs,H b=a2 xs->H' b=a2 xs):iB H' vs own:=Paired.imp' (λ_ _ a=>by obtain⟨c,e,q⟩:=a;exact ⟨c,e,k _ _ q⟩) h
theorem g4.keep{c:ac Th}(h:g4 H vs c)(k:∀b xs,H b=a2 xs->H' b=a2 xs):g4 H' vs c:=Paired.imp' (λ_ _ d=>by obtain⟨a,b,us,e,q,r,o⟩:=d;exact ⟨a,b,us,e,k _ _ q,k _ _ r,o.keep k⟩) h
theorem g4.same{a:ac Th}(h:g4 H vs a)(S:ax H H'):g4 H' vs a:=h.keep λ_ _ e=>S _ _ e
structure iI(H:Hp)(w t tb tt:E8)(wt:List V)(bQ:List Th):Prop where
 hw:H w=ih (.tup [.ref t,.ref tb,.ref tt])
 ht:H tt=ih (.tup wt)
 tv:g4 H wt bQ
 a5:bQ.length<=5
 nm:∀p∈bQ,Nm p.1
 nd:(bQ.map (·.1)).Nodup
theorem iI.same{w t tb:E8}{a:ac Th}(h:iI H w t tb tt wt a)(S:ax H H'):iI H' w t tb tt wt a:=⟨S _ _ h.hw,S _ _ h.ht,h.tv.same S,h.a5,h.nm,h.nd⟩
inductive qV(vs:List V)(H:Hp)(Q:VK)(E:XK):Prop
 |mk{x t tb tt:E8}{wt:List V}{bQ:List Th}{th:FF}(_:vs=[.ref x,.str th])(_:iI H x t tb tt wt bQ)(_:Nm th)(_:∀H',ax H H'->Q (.bl (decide (th∈bQ.map (·.1)))) H'):qV vs H Q E
theorem O4:bj ["world","thing"] ["world","thing"] (aJ nB):=bB
def DA(e:VD):VD:=match e with|.Compare _ _ (r::_) _=>r|_=>.Constant .none 0 ⟨0,0,0,0⟩
abbrev QD:VD:=DA (ur (my (bT (bE nB) 0)) 1)
theorem Ee:b5 ["world","thing"] (aJ nB) ["triple"] [none] (cG QD):=dc
theorem Nx(F:aS K "is_thing" "is_thing" nB f fd)(z:bH P w K mg base aH 1 fN dN ["thing"] md "is_name"):aU P w K mg base aH 2 f fd ["world","thing"] qV:=by
 refine F.bI O4 λQa A outer s H vs Q E B h=>?_
 ·obtain @⟨x,t,tb,tt,wt,u,th,rfl,h,n,q⟩:=h
  intro X;refine⟨_,aB (aZ (t8 (ba z B (aa (pv 1) ai)) (p9 (jD jw (pv 1) (d3 rfl Ee (kH (aV bp (pv 0) au)) (λs H fp=>⟨bf 0 Ee.nd,et,aV (jA K rfl) (pv 0) au (λ_ _=>rfl)⟩)) rfl)))),?_⟩;refine ah rfl (md.mk rfl n λY k=>⟨true,rfl,ite_tt rfl ?_⟩);have h1:=h.same k;have a5:=h.a5;have r:=cN h.tv;refine aX rfl rfl ⟨x,_,2,_,rfl,rfl,aA.of h1.hw,om,tt,rfl,⟨_,aA.of h1.ht⟩,λc l=>?_⟩;refine lV (xs:=wt) (λi ys d H2=>∃j:ad V,d=[j]/\ax Y H2/\H2 c=bd ys/\ys=((u.take i).map (·.1)).map V.str) ⟨none,rfl,aK l,af,rfl⟩ (λi ys d H2 J=>by obtain⟨_,_,C,D,_⟩:=J;exact ⟨D,aA.of (C _ _ h1.ht)⟩) ?_ ?_
  ·rintro i y ys d H2 m ⟨j,rfl,g,h2,rfl⟩
   have v:i<wt.length:=(b3.mp m).1;obtain⟨p,G,a,b,us,rfl,I,_⟩:=L2.Paired.get (h1.tv.same g) m;refine ah rfl ⟨a,_,0,_,rfl,rfl,aA.of I,b',h2,by rw[aE,aE,cK,aW];omega,cw_next v ⟨_,rfl,λb o e=>by rw[ag (ay e l)];exact g _ _ e,af,?_⟩⟩
   rw[dM,G,a',a'];rfl
  ·rintro ys d H2 ⟨j,rfl,g,h2,rfl⟩
   rw[r,cB]at h2;refine⟨c,_,rfl,.inl (ak.of h2),rfl,jy _,?_⟩;rw[aq cc,iT];exact q _ (k.trans g)
inductive qW(vs:List V)(H:Hp)(Q:VK)(E:XK):Prop
 |mk{x t tb tt:E8}{wt:List V}{bQ:List Th}{th:FF}(_:vs=[.ref x,.str th])(_:iI H x t tb tt wt bQ)(_:th∈bQ.map (·.1))(_:∀H',ax H H'->Q .aO H'):qW vs H Q E
theorem O5:bj ["world","thing"] ["world","thing"] (aJ tS):=bB
theorem Ny(F:aS K "check_thing" "check_thing" tS f fd)(b:bH P w K mg base aH 2 fI dI ["world","thing"] qV "is_thing"):aU P w K mg base aH 3 f fd ["world","thing"] qW:=by
 refine F.bI O5 λQa A outer s H vs Q E c h=>?_
 ·obtain @⟨x,t,tb,tt,wt,i,th,rfl,h,a,q⟩:=h
  intro X;refine⟨_,aB (bo (hJ (hI (ba b c (aa (pv 0) (aa (pv 1) ai))))) sH bG),?_⟩;obtain⟨p,d,e⟩:=a6.mp a;refine aX rfl rfl (qV.mk rfl h (e ▸ h.nm p d) λY g=>⟨true,?_,q Y g⟩);rw[cf a]
def rG(H:Hp)(vs:List V)(bQ:List Th):Prop:=VX (λv p=>∃r b us,v=V.ref r/\H r=ih (.tup [.str p.2.1,.ref b])/\H b=ih (.tup us)/\iB H us p.2.2) vs bQ
theorem rG.keep{c:ac Th}(h:rG H vs c)(k:∀b xs,H b=a2 xs->H' b=a2 xs):rG H' vs c:=Paired.imp' (λ_ _ d=>by obtain⟨a,b,us,e,q,r,o⟩:=d;exact ⟨a,b,us,e,k _ _ q,k _ _ r,o.keep k⟩) h
inductive qX(vs:List V)(H:Hp)(Q:VK)(E:XK):Prop
 |mk{x t tb tt:E8}{wt:List V}{bQ:List Th}{th:Th}(_:vs=[.ref x,.str th.1])(_:iI H x t tb tt wt bQ)(_:th∈bQ)(_:∀r b us H',ax H H'->H' r=ih (.tup [.str th.2.1,.ref b])->H' b=ih (.tup us)->iB H' us th.2.2->Q (.ref r) H'):qX vs H Q E
theorem O6:bj ["world","thing"] ["world","thing"] (aJ nC):=bB
def O7(e:VD):VD:=match e with|.Subscript o _ _=>o|_=>.Constant .none 0 ⟨0,0,0,0⟩
abbrev QE:VD:=O7 (my (bT (bE nC) 1))
theorem Ef:b5 ["world","thing"] (aJ nC) ["triple","thing"] [none,ih 1] (cG QE):=dc
theorem Nz{a:ac Th}(b:(a.map (·.1)).Nodup){p q:Th}(c:p∈a)(d:q∈a)(e:p.1=q.1):p=q:=by
 induction a with
 |nil=>cases c
 |cons x a f =>
  rw[b4,d8]at b;rcases bJ.mp c with h1|rH
  ·rcases bJ.mp d with h2|vJ
   ·rw[h1,h2]
   ·exact absurd (a6.mpr ⟨q,vJ,by rw[<-e,h1]⟩) b.1
  ·rcases bJ.mp d with h2|vJ
   ·exact absurd (a6.mpr ⟨p,rH,by rw[e,h2]⟩) b.1
   ·exact f b.2 rH vJ
theorem NA(F:aS K "kind_and_own" "kind_and_own" nC f fd)(Z:bH P w K mg base aH 3 fC dC ["world","thing"] qW "check_thing"):aU P w K mg base aH 4 f fd ["world","thing"] qX:=by
 refine F.bI O6 λQa A outer s H vs Q E xa h=>?_
 ·obtain @⟨x,t,tb,tt,wt,d,th,rfl,h,m,q⟩:=h
  intro X;refine⟨_,aw (eJ (ba Z xa (aa (pv 0) (aa (pv 1) ai))))
   (aB (aZ (aV dA (d3 rfl Ef (kH (aV bp (pv 0) au)) (λs H fp=>⟨bf 0 Ef.nd,iS (br c' (aV (jA K rfl) (pv 0) au) (pv 1) (bC _)),iR Cz (pv 0) (ij au) iX⟩)) au))),?_⟩
  refine aX rfl rfl (qW.mk rfl h (a6.mpr ⟨th,m,rfl⟩) λY L=>?_);have h1:=h.same L;have a5:=h.a5;have S:=cN h.tv;refine ah rfl ⟨x,_,2,_,rfl,rfl,aA.of h1.hw,om,tt,rfl,⟨_,aA.of h1.ht⟩,λc M=>?_⟩;refine lV (xs:=wt) (λi ys l H2=>∃n:ad V,l=[n,ih (.str th.1)]/\ax Y H2/\H2 c=bd ys/\rG H2 ys ((d.take i).filter λp=>decide (p.1=th.1))) ⟨none,rfl,aK M,af,.nil⟩ (λi ys l H2 ab=>by obtain⟨_,_,z1,z2,_⟩:=ab;exact ⟨z2,aA.of (z1 _ _ h1.ht)⟩) ?_ ?_
  ·rintro i y ys l H2 N ⟨n,rfl,j,h2,g⟩
   have G:i<wt.length:=(b3.mp N).1;obtain⟨p,u,a,b,us,rfl,O,B,ow⟩:=L2.Paired.get (h1.tv.same j) N;have tk:d.take (i+1)=d.take i++[p]:=by rw[dM,u];rfl
   have yl:=cN g;have R:((d.take i).filter λp=>decide (p.1=th.1)).length<=(d.take i).length:=gR _ _;rw[cK]at R;refine ah rfl ⟨a,_,0,_,rfl,rfl,aA.of O,b',_,rfl,rfl,_,rfl,?_⟩;refine bY (λe=>?_) (λe=>?_)
   ·have e:p.1=th.1:=by
     have:=dQ e;injection this
    refine ah rfl ⟨1,rfl,a,_,rfl,O,λr C k D=>?_⟩;have D:C r=a2 [.str p.2.1,.ref b]:=D;have I:=k _ _ h2;have up:∀{zs:ac V} b xs,C b=a2 xs->upd C c (.lst zs) b=a2 xs:=λb xs e=>by rw[ag (ar e I)];exact e
    refine⟨I,by rw[aW];omega,cw_next G ⟨_,rfl,λb o e=>by rw[ag (ay e M)];exact k _ _ (j _ _ e),af,?_⟩⟩
    rw[tk,gS,oW (by simp[e])]
    exact gQ ((g.keep λb xs e=>k _ _ e).keep up) ⟨r,b,us,rfl,up _ _ D,up _ _ (k _ _ B),(ow.keep λb xs e=>k _ _ e).keep up⟩
   ·have e : ¬ p.1=th.1:=λz=>e (cf (by rw[z]))
    refine cw_next G (ah rfl ⟨j,h2,?_⟩);rw[tk,gS,r4 (by simp[e])]
    simpa using g
  ·rintro ys l H2 ⟨n,rfl,j,h2,g⟩
   rw[S,cB]at g;have J:th∈d.filter λp=>decide (p.1=th.1):=fj.mpr ⟨m,cf rfl⟩;generalize ya:(d.filter λp=>decide (p.1=th.1))=R at g J;cases g with
   |nil=>cases J
   |@cons v p vs fs za _ =>
    have u:p∈d.filter λp=>decide (p.1=th.1):=by rw[ya];exact aY
    obtain⟨T,U⟩:=fj.mp u;obtain rfl:=Nz h.nd T m (dQ U);obtain⟨r,b,us,rfl,W,B,ow⟩:=za;exact⟨c,_,0,.ref r,rfl,rfl,ak.of h2,b',q r b us H2 (L.trans j) W B ow⟩
def fW(fi ow kp kn:E8)(kd:FF)(bg:Int):List (FF×V):=[("finds",.ref fi),("kind",.str kd),("own",.ref ow),("kept",.ref kp),("known",.ref kn),("begun",.int bg)]
section
variable{fi kp kn:E8}{kd:FF}
theorem Ls:b6 "begun" (.int 0) (b6 "known" (.ref kn) (b6 "kept" (.ref kp) (b6 "own" (.ref ow) (b6 "kind" (.str kd) (b6 "finds" (.ref fi) [])))))=fW fi ow kp kn kd 0:=rfl
theorem tm:(fW fi ow kp kn kd bg).lookup ("finds" : FF)=ih (V.ref fi):=rfl
theorem t4:(fW fi ow kp kn kd bg).lookup ("kind" : FF)=ih (V.str kd):=rfl
theorem Dg:(fW fi ow kp kn kd bg).lookup ("own" : FF)=ih (V.ref ow):=rfl
theorem iW:(fW fi ow kp kn kd bg).lookup ("known" : FF)=ih (V.ref kn):=rfl
theorem Lu:(fW fi ow kp kn kd bg).lookup ("forebears" : FF)=none:=rfl
theorem Lv:(fW fi ow kp kn kd bg).lookup ("tell" : FF)=none:=rfl
end
structure hW(K:YA)(mg:FF->Option i')(C:E8):Prop where
 cl:gu K C
 nf:ea K C "finds"
 nk:ea K C "kind"
 no:ea K C "own"
 np:ea K C "kept"
 nn:ea K C "known"
 nb:ea K C "begun"
 oF:mg "Whole" = ih (.ref C)
inductive qy(C:E8)(vs:List V)(H:Hp)(Q:VK)(E:XK):Prop
 |mk{x fi ow kp dx:E8}{kd:FF}(_:vs=[.ref x,.ref fi,.str kd,.ref ow,.ref kp])(_:H x=ih (.ins C dx []))(_:H kp=ih (.dT []))(_:∀kn,H kn=none->Q .aO (upd (upd H kn (.dT [])) x (.ins C dx (fW fi ow kp kn kd 0)))):qy C vs H Q E
abbrev oo:List FF:=["self","finds","kind","own","kept"]
theorem NB:bj oo oo (aJ uk):=bB
theorem Mw(F:aS K "__init__" "Whole.__init__" uk f fd)(k:hU mg)(T:hW K mg C):aU P w K mg base aH 1 f fd oo (qy C):=by
 refine F.bI NB λQa A outer s H vs Q E l h=>?_
 ·obtain @⟨x,fi,ow,kp,dx,kd,rfl,c,d,q⟩:=h
  have i:kp≠x:=ar d c
  intro X;refine⟨_,aw (fY (pv 0) (pv 1) rfl) (aw (fY (pv 0) (pv 2) rfl) (aw (fY (pv 0) (pv 3) rfl) (aw (fY (pv 0) (pv 4) rfl) (aw (fY (pv 0) (dy HK rfl k.dict boot_dict (aa (pv 4) ai)) rfl) (aB (fY (pv 0) au rfl)))))),?_⟩;refine aX rfl rfl ⟨x,C,dx,[],rfl,c,T.cl,T.nf,(by show 0<1000;decide),?_⟩
  refine aX rfl rfl ⟨x,C,dx,_,rfl,af,T.cl,T.nk,(by show 1<1000;decide),?_⟩
  rw[fu];refine aX rfl rfl ⟨x,C,dx,_,rfl,af,T.cl,T.no,(by show 2<1000;decide),?_⟩
  rw[fu];refine aX rfl rfl ⟨x,C,dx,_,rfl,af,T.cl,T.np,(by show 3<1000;decide),?_⟩
  rw[fu];refine ah rfl ⟨kp,rfl,by rw[ag i];exact d,λkn a=>?_⟩
  have g:x≠kn:=ay af a;refine ah rfl ⟨x,C,dx,_,rfl,by rw[ag g];exact af,T.cl,T.nn,(by show 4<1000;decide),?_⟩
  refine ah rfl ⟨x,C,dx,_,rfl,af,T.cl,T.nb,(by show 5<1000;decide),?_⟩
  rw[fu,Ls];have j:H kn=none:=by
   cases e:H kn with
   |none=>rfl
   |some u=>rw[ag (aT g),e]at a;cases a
  have e:∀o o':HO,upd (upd (upd H x o) kn (.dT [])) x o'=upd (upd H kn (.dT [])) x o':=λo o'=>by
   funext b
   by_cases h1:b=x
   ·subst h1;rw[af,af]
   ·rw[ag h1,ag h1]
    by_cases h2:b=kn
    ·subst h2;rw[af,af]
    ·rw[ag h2,ag h2,ag h1]
  rw[e];exact q kn j
structure WI(C D x dx fi fx dl de dh ow kp kn:E8)(kd:FF)(bg:Int)(kl ko:List (Key×V))(ke kh kk:List (List Key×V))(m:Int)(bk:Bk)(H:Hp):Prop where
 n3:x≠fi
 hx:H x=ih (.ins C dx (fW fi ow kp kn kd bg))
 fi:FI D fi fx dl de dh kl ke kh m bk H
 ho:H ow=ih (.dK ko)
 hk:H kn=ih (.dT kk)
 n1:kn≠de
 n2:kn≠dh
inductive qi(C D:E8)(vs:List V)(H:Hp)(Q:VK)(E:XK):Prop
 |mk{x dx fi fx dl de dh ow kp kn a:E8}{kd:FF}{bg:Int}{kl ko:List (Key×V)}{ke kh kk:List (List Key×V)}{m:Int}{bk:Bk}(_:vs=[.ref x])(_:WI C D x dx fi fx dl de dh ow kp kn kd bg kl ko ke kh kk m bk H)(_:bb kl (n' kd)=ih (.ref a))(_:Q (.ref a) H):qi C D vs H Q E
theorem Mx:bj ["self"] ["self"] (aJ sx):=bB
theorem Lw(F:aS K "forebears" "Whole.forebears" sx f fd)(T:hW K mg C)(b:jT K mg D):aU P w K mg base aH 1 f fd ["self"] (qi C D):=by
 refine F.bI Mx λQa A outer s H vs Q E c h=>?_
 ·obtain @⟨x,dx,fi,d,dl,de,dh,ow,kp,kn,a,kd,bg,g,j,k,kh,kk,m,bk,rfl,h,e,q⟩:=h
  have i:=c.units;intro X;refine⟨_,aB (aZ (d4 (eF i) (cp (cp (pv 0) rfl) rfl) (cp (pv 0) rfl))),?_⟩;refine ah rfl ⟨x,C,dx,_,.ref fi,rfl,h.hx,T.cl,T.nf,tm,fi,D,d,_,.ref dl,rfl,h.fi.hx,b.cl,b.nl,Cc,_,rfl,x,C,dx,_,.str kd,rfl,h.hx,T.cl,T.nk,t4,dl,.ref a,rfl,.inl ⟨g,n' kd,.inl h.fi.hl,rfl,e.symm⟩,q⟩
end eG
namespace L2
open W
theorem My:u1 X .Mult (rI og λi j=>.int (i * j)):=λJ s σ H x y u v Q I a b h=>Ki J s σ H x y u v Q I a b h
end L2
namespace eG
open L2 W HT
theorem t6{u:V}{d:UR}(e:Ent d)(r:Rep H u d):∃a xs,u=.ref a/\H a=a2 (.str (a9 d)::xs):=by
 cases e with
 |plain n=>obtain⟨a,u,rfl,b,_⟩:=two1 r;exact⟨a,_,rfl,b⟩
 |behind ds=>obtain⟨a,u,rfl,b,_⟩:=two1 r;exact⟨a,_,rfl,b⟩
 |jS ds=>obtain⟨a,u,rfl,b,_⟩:=two1 r;exact⟨a,_,rfl,b⟩
 |ahead x n =>
  obtain⟨a,vs,rfl,b,rs⟩:=r.tupI;obtain⟨f,g,rfl,c,rs⟩:=rs.fe;obtain rfl:=c.gZ;exact⟨a,_,rfl,b⟩
theorem tq{d:UR}(e:Ent d):(∀s∈cg d,eh s)/\(cg d).length<=4:=by
 cases e with
 |plain n h=>exact⟨λs a=>by rw[bN.mp a];exact .add n h,by show 1<=4;decide⟩
 |ahead x n h c =>
  refine⟨λs a=>?_,by show 2<=4;decide⟩
  rcases bJ.mp a with z|z
  ·rw[z];exact .ask x h
  ·rw[bN.mp z];exact .add n c
 |behind ds b a=>exact⟨a,b⟩
 |jS ds b a=>exact⟨a,b⟩
theorem pZ{u:V}{d:UR}(e:eh d)(r:Rep H u d):∃a xs,u=.ref a/\H a=a2 (.str (a9 d)::xs)/\(a9 d = "add" \/ a9 d = "times" -> xs=[.int (kY d)])/\(a9 d = "ask" -> xs=[.str (d0 d)])/\(a9 d = "times" -> -9<=kY d/\kY d<=9):=by
 cases e with
 |add n =>
  obtain⟨a,u,rfl,b,c⟩:=two1 r;obtain rfl:=c.iA;exact⟨a,_,rfl,b,λ_=>rfl,λz=>absurd z (by show ¬ ((("add" : FF)) = "ask");decide +kernel),λz=>absurd z (by show ¬ ((("add" : FF)) = "times");decide +kernel)⟩
 |times n lo hi =>
  obtain⟨a,u,rfl,b,c⟩:=two1 r;obtain rfl:=c.iA;exact⟨a,_,rfl,b,λ_=>rfl,λz=>absurd z (by show ¬ ((("times" : FF)) = "ask");decide +kernel),λ_=>⟨lo,hi⟩⟩
 |ask x =>
  obtain⟨a,u,rfl,b,c⟩:=two1 r;obtain rfl:=c.gZ;exact⟨a,_,rfl,b,λz=>absurd z (by show ¬ ((("ask" : FF)) = "add" \/ (("ask" : FF)) = "times");decide +kernel),λ_=>rfl,λz=>absurd z (by show ¬ ((("ask" : FF)) = "times");decide +kernel)⟩
 |mf =>
  obtain⟨a,vs,rfl,b,rs⟩:=r.tupI;obtain⟨g,h,rfl,f,rs⟩:=rs.fe;obtain rfl:=rs.mz;obtain rfl:=f.gZ;exact⟨a,_,rfl,b,λz=>absurd z (by show ¬ ((("onward" : FF)) = "add" \/ (("onward" : FF)) = "times");decide +kernel),λz=>absurd z (by show ¬ ((("onward" : FF)) = "ask");decide +kernel),λz=>absurd z (by show ¬ ((("onward" : FF)) = "times");decide +kernel)⟩
inductive qY(vs:List V)(H:Hp)(Q:VK)(E:XK):Prop
 |mk{u:V}{d:UR}(_:vs=[u])(_:Ent d)(_:Rep H u d)(_:∀H',ax H H'->Q (.bl (jI d)) H'):qY vs H Q E
theorem O8:bj ["entry"] ["entry"] (aJ sv):=bB
theorem NC(F:aS K "goes_first" "goes_first" sv f fd):aU P w K mg base aH 1 f fd ["entry"] qY:=by
 refine F.bI O8 λQa A outer s H vs Q E j h=>?_
 ·obtain @⟨u,d,rfl,b,r,q⟩:=h
  intro X;refine⟨_,aB (aZ (jD jw (aV bp (pv 0) au) (b9 (aa bt (aa bt ai))) rfl)),?_⟩;obtain⟨a,xs,rfl,g⟩:=t6 b r;refine ah rfl ⟨a,_,0,_,rfl,rfl,aA.of g,b',bS,λc i=>?_⟩;refine⟨c,_,rfl,.inr (aA.of af),rfl,rfl,?_⟩;have e:lq (.str (a9 d)) ((["ahead","shut"]:ac FF).map V.str)=jI d:=by rw[iT];unfold jI;exact decide_eq_decide.mpr (by simp)
  have:=q _ (aK (o:=.tup [V.str "ahead",V.str "shut"]) i);rw[<-e]at this;exact this
inductive qZ(vs:List V)(H:Hp)(Q:VK)(E:XK):Prop
 |mk{u:V}{d:UR}(_:vs=[u])(_:Ent d)(_:Rep H u d)(_:a9 d ≠ "plain")(_:∀r us H',ax H H'->H' r=ih (.tup us)->bL H' us (cg d)->Q (.ref r) H'):qZ vs H Q E
theorem O9:bj ["entry"] ["entry"] (aJ sZ):=bB
theorem ND(F:aS K "steps_of" "steps_of" sZ f fd):aU P w K mg base aH 1 f fd ["entry"] qZ:=by
 refine F.bI O9 λQa A outer s H vs Q E G h=>?_
 ·obtain @⟨u,d,rfl,l,r,m,q⟩:=h
  intro X;refine⟨_,aw (bo (br c' (aV bp (pv 0) au) bt (bC _)) (aB (aZ (b9 (aa (b9 (aa bt (aa (aV bp (pv 0) au) ai))) (aa (b9 (aa bt (aa (aV bp (pv 0) au) ai))) ai))))) bG)
   (aB (aZ (aV bp (pv 0) au))),?_⟩
  cases l with
  |plain n=>exact absurd rfl m
  |ahead x n h I =>
   obtain⟨a,vs,rfl,c,rs⟩:=r.tupI;obtain⟨J,L,rfl,p,rs⟩:=rs.fe;obtain⟨M,N,rfl,e,rs⟩:=rs.fe;obtain⟨O,R,rfl,t,rs⟩:=rs.fe;obtain rfl:=rs.mz;obtain rfl:=p.gZ;obtain rfl:=e.gZ;obtain rfl:=t.iA;refine ah rfl ⟨a,_,0,_,rfl,rfl,aA.of c,b',rfl,_,rfl,?_⟩;refine ah rfl ⟨a,_,1,_,rfl,rfl,aA.of c,cT,bS,λv h1=>?_⟩;have j:=aK (o:=.tup [V.str "ask",.str x]) h1;refine ah rfl ⟨a,_,2,_,rfl,rfl,aA.of (j _ _ c),om,bS,λy h2=>⟨bS,λz B=>?_⟩⟩;have k:=aK (o:=.tup [V.str "add",.int n]) h2;have g:=aK (o:=.tup [V.ref v,.ref y]) B;exact q z _ _ (j.trans (k.trans g)) af (.cons (.tup (g _ _ (k _ _ af)) (.cons (.str _) (.cons (.str _) .nil))) (.cons (.tup (g _ _ af) (.cons (.str _) (.cons (.int _) .nil))) .nil))
  |behind ds C D =>
   obtain⟨a,u,rfl,c,e⟩:=two1 r;obtain⟨b,vs,rfl,i,rs⟩:=e.tupI;exact ah rfl ⟨a,_,0,_,rfl,rfl,aA.of c,b',rfl,_,rfl,_,rfl,a,_,1,_,rfl,rfl,aA.of c,cT,q b vs H (ax.refl _) i rs⟩
  |jS ds C D =>
   obtain⟨a,u,rfl,c,e⟩:=two1 r;obtain⟨b,vs,rfl,i,rs⟩:=e.tupI;exact ah rfl ⟨a,_,0,_,rfl,rfl,aA.of c,b',rfl,_,rfl,_,rfl,a,_,1,_,rfl,rfl,aA.of c,cT,q b vs H (ax.refl _) i rs⟩
def fR(ta lf rs:E8)(wh:FF)(t:Int):List (FF×V):=[("asking",.ref ta),("where",.str wh),("left",.ref lf),("total",.int t),("rested",.ref rs)]
section
variable{ta lf rs:E8}{t t':Int}
theorem uu:b6 "total" (.int t') (fR ta lf rs wh t)=fR ta lf rs wh t':=rfl
theorem qj:(fR ta lf rs wh t).lookup ("asking" : FF)=ih (V.ref ta):=rfl
theorem Ce:(fR ta lf rs wh t).lookup ("where" : FF)=ih (V.str wh):=rfl
theorem p0:(fR ta lf rs wh t).lookup ("left" : FF)=ih (V.ref lf):=rfl
theorem pN:(fR ta lf rs wh t).lookup ("total" : FF)=ih (V.int t):=rfl
theorem Bt:(fR ta lf rs wh t).lookup ("rested" : FF)=ih (V.ref rs):=rfl
end
structure iC(K:YA)(mg:FF->Option i')(C:E8):Prop where
 cl:gu K C
 na:ea K C "asking"
 nw:ea K C "where"
 nl:ea K C "left"
 nt:ea K C "total"
 nr:ea K C "rested"
 oF:mg "Reckoning" = ih (.ref C)
inductive q0(C:E8)(vs:List V)(H:Hp)(Q:VK)(E:XK):Prop
 |mk{x ta ts dx:E8}{wh n b:FF}{us:List V}(_:vs=[.ref x,.ref ta,.str wh,.ref ts])(_:H x=ih (.ins C dx []))(_:H ta=ih (.tup [.str n,.str b]))(_:H ts=ih (.tup us))
  (_:∀lf rs H',H lf=none->H rs=none->lf≠rs->(∀y u,y≠x->H y=ih u->H' y=ih u)->H' x=ih (.ins C dx (fR ta lf rs wh 0))->H' lf=ih (.lst us)->H' rs=ih (.lst [.str n])->Q .aO H'):q0 C vs H Q E
abbrev oG:List FF:=["self","asking","where","steps"]
theorem O':bj oG oG (aJ um):=bB
theorem NF(F:aS K "__init__" "Reckoning.__init__" um f fd)(B:dq mg)(T:iC K mg C):aU P w K mg base aH 1 f fd oG (q0 C):=by
 refine F.bI O' λQa A outer s H vs Q E L h=>?_
 ·obtain @⟨x,ta,D,dx,wh,n,b,us,rfl,j,r,t,q⟩:=h
  intro X;refine⟨_,aw (fY (pv 0) (pv 1) rfl) (aw (fY (pv 0) (pv 2) rfl) (aw (fY (pv 0) (dy ki rfl B.list boot_list (aa (pv 3) ai)) rfl) (aw (fY (pv 0) au rfl) (aB (fY (pv 0) (eu (aa (aV bp (pv 1) au) ai)) rfl))))),?_⟩;have I:D≠x:=ar t j
  have J:ta≠x:=ar r j
  refine aX rfl rfl ⟨x,C,dx,[],rfl,j,T.cl,T.na,(by show 0<1000;decide),?_⟩
  refine aX rfl rfl ⟨x,C,dx,_,rfl,af,T.cl,T.nw,(by show 1<1000;decide),?_⟩
  rw[fu];refine ah rfl ⟨D,us,rfl,.inr (aA.of (by rw[ag I];exact t)),λlf g=>?_⟩
  have c:x≠lf:=ay af g;have m:H lf=none:=by rw[ag (aT c)]at g;exact g
  refine ah rfl ⟨x,C,dx,_,rfl,by rw[ag c];exact af,T.cl,T.nl,(by show 2<1000;decide),?_⟩
  refine ah rfl ⟨x,C,dx,_,rfl,af,T.cl,T.nt,(by show 3<1000;decide),?_⟩
  rw[fu];have k:∀u,upd (upd (upd H x (.ins C dx (b6 "where" (.str wh) (b6 "asking" (.ref ta) [])))) lf (.lst us)) x u x=ih u:=λu=>af;have l:∀u,upd (upd (upd H x (.ins C dx (b6 "where" (.str wh) (b6 "asking" (.ref ta) [])))) lf (.lst us)) x u lf=bd us:=λu=>by rw[ag (aT c)];exact af
  have d:∀u y o,y≠x->H y=ih o->upd (upd (upd H x (.ins C dx (b6 "where" (.str wh) (b6 "asking" (.ref ta) [])))) lf (.lst us)) x u y=ih o:=λu y o n e=>by rw[ag n,ag (ay e m),ag n];exact e
  generalize (upd (upd (upd H x (.ins C dx (b6 "where" (.str wh) (b6 "asking" (.ref ta) [])))) lf (.lst us)) x)=G at k l d⊢;refine ah rfl ⟨ta,_,0,_,rfl,rfl,aA.of (d _ _ _ J r),b',eM,λrs a=>?_⟩;have i:x≠rs:=ay (k _) a;have v:lf≠rs:=ay (l _) a;have p:H rs=none:=by
   cases e:H rs with
   |none=>rfl
   |some o=>rw[d _ _ _ (aT i) e]at a;cases a
  refine ah rfl ⟨x,C,dx,_,rfl,by rw[ag i];exact k _,T.cl,T.nr,(by show 4<1000;decide),?_⟩
  refine q lf rs _ m p v (λy u n e=>?_) (by rw[af];rfl) (by rw[ag (aT c),ag v];exact l _) (by rw[ag (aT i)];exact af)
  rw[ag n,ag (ay e p)];exact d _ _ _ n e
inductive q2(C:E8)(vs:List V)(H:Hp)(Q:VK)(E:XK):Prop
 |mk{x ta lf rs dx:E8}{wh:FF}{t:Int}{u:V}{d:UR}(_:vs=[.ref x,u])(_:H x=ih (.ins C dx (fR ta lf rs wh t)))(_:eh d)(_:Rep H u d)(_:∀H',(∀y o,y≠x->H y=ih o->H' y=ih o)->H' x=ih (.ins C dx (fR ta lf rs wh (stepT t d)))->Q .aO H'):q2 C vs H Q E
theorem Pa:bj ["self","step"] ["self","step"] (aJ tY):=bB
theorem NG(F:aS K "step_by" "Reckoning.step_by" tY f fd)(T:iC K mg C):aU P w K mg base aH 1 f fd ["self","step"] (q2 C):=by
 refine F.bI Pa λQa A outer s H vs Q E k h=>?_
 ·obtain @⟨x,ta,lf,rs,dx,wh,t,u,d,rfl,b,st,r,q⟩:=h
  intro X;refine⟨_,aw (bo (br c' (aV bp (pv 1) au) bt (bC _)) (aB (ni (pv 0) (aV bp (pv 1) au) qa)) bG)
   (aB (bo (br c' (aV bp (pv 1) au) bt (bC _)) (aB (ni (pv 0) (aV bp (pv 1) au) My)) bG)),?_⟩
  obtain⟨a,xs,rfl,c,h1,h2,j⟩:=pZ st r;have i:a≠x:=ar c b
  refine ah rfl ⟨a,_,0,_,rfl,rfl,aA.of c,b',rfl,_,rfl,?_⟩;refine bY (λe=>?_) (λe=>?_)
  ·have e:a9 d = "add" :=by
    have:=dQ e;injection this
   obtain rfl:=h1 (.inl e);have g:stepT t d=t+kY d:=by unfold stepT;rw[aF e]
   rw[g]at q;refine ah rfl ⟨x,C,dx,_,.int t,rfl,b,T.cl,T.nt,pN,_,rfl,a,_,1,_,rfl,rfl,aA.of c,cT,_,_,rfl,rfl,dx,_,b,by show 5<1000;decide,?_⟩
   rw[uu];refine ah rfl ⟨a,_,0,_,rfl,rfl,aA.of (by rw[ag i];exact c),b',rfl,_,rfl,?_⟩
   exact bY (λz=>absurd z (by rw[e];decide +kernel)) (λ_=>q _ (λy o n z=>by rw[ag n];exact z) af)
  ·have e : ¬ a9 d = "add" :=λz=>e (by rw[z];exact cf rfl)
   refine ah rfl ⟨a,_,0,_,rfl,rfl,aA.of c,b',rfl,_,rfl,?_⟩;refine bY (λe2=>?_) (λe2=>?_)
   ·have e2:a9 d = "times" :=by
     have:=dQ e2;injection this
    obtain rfl:=h1 (.inr e2);have g:stepT t d=t * kY d:=by unfold stepT;rw[aq e,aF e2]
    rw[g]at q;have l:=j e2;refine ah rfl ⟨x,C,dx,_,.int t,rfl,b,T.cl,T.nt,pN,_,rfl,a,_,1,_,rfl,rfl,aA.of c,cT,_,_,rfl,rfl,.inr ⟨by omega,by omega⟩,dx,_,b,by show 5<1000;decide,?_⟩
    rw[uu];exact q _ (λy o n z=>by rw[ag n];exact z) af
   ·have e2 : ¬ a9 d = "times" :=λz=>e2 (by rw[z];exact cf rfl)
    have g:stepT t d=t:=by unfold stepT;rw[aq e,aq e2]
    rw[g]at q;exact q _ (λy o n z=>z) b
inductive q3(C:E8)(vs:List V)(H:Hp)(Q:VK)(E:XK):Prop
 |mk{x ta lf rs dx tt ns:E8}{wh:FF}{t z:Int}{y:V}{rv nv:List V}(_:vs=[.ref x,.ref tt])(_:H x=ih (.ins C dx (fR ta lf rs wh t)))(_:H rs=ih (.lst rv))(_:H tt=ih (.tup [y,.int z,.ref ns]))(_:H ns=ih (.tup nv))(_:rv.length+nv.length<=1000)
  (_:∀H',(∀y o,y≠x->y≠rs->H y=ih o->H' y=ih o)->H' x=ih (.ins C dx (fR ta lf rs wh (t+z)))->H' rs=ih (.lst (rv++nv))->Q .aO H'):q3 C vs H Q E
theorem Pb:bj ["self","told"] ["self","told"] (aJ tZ):=bB
theorem NH(F:aS K "take_in" "Reckoning.take_in" tZ f fd)(T:iC K mg C):aU P w K mg base aH 1 f fd ["self","told"] (q3 C):=by
 refine F.bI Pb λQa A outer s H vs Q E p h=>?_
 ·obtain @⟨x,ta,lf,rs,dx,tt,ns,wh,t,z,y,i,j,rfl,a,d,b,g,r,q⟩:=h
  intro X;refine⟨_,aw (ni (pv 0) (aV bp (pv 1) au) qa)
   (aB (eJ (gj hC PySem.F.slot_list_extend PySem.F.type_list_extend HM (cp (pv 0) rfl) (aa (aV bp (pv 1) au) ai)))),?_⟩
  have n1:rs≠x:=ar d a
  have k:tt≠x:=ar b a
  have l:ns≠x:=ar g a
  refine ah rfl ⟨x,C,dx,_,.int t,rfl,a,T.cl,T.nt,pN,_,rfl,tt,_,1,_,rfl,rfl,aA.of b,cT,_,_,rfl,rfl,dx,_,a,by show 5<1000;decide,?_⟩
  rw[uu];have c:upd H x (.ins C dx (fR ta lf rs wh (t+z))) rs=bd i:=by rw[ag n1];exact d
  refine ah rfl ⟨x,C,dx,_,.ref rs,rfl,af,T.cl,T.nr,Bt,.inl ⟨rfl,_,ak.of c⟩,_,rfl,tt,_,2,_,rfl,rfl,aA.of (by rw[ag k];exact b),om,rs,ns,i,j,rfl,rfl,c,by rw[ag l];exact g,by rw[aW];omega,?_⟩
  exact q _ (λy o m n e=>by rw[ag n,ag m];exact e) (by rw[ag (aT n1)];exact af) af
def c4(own:Own):List (Key×V):=gi (own.map λq=>(q.1,V.int q.2))
theorem nO(n:FF):∀own:Own,bb (c4 own) (n' n)=(own.lookup n).map V.int:=by
 intro own
 induction own with
 |nil=>rfl
 |cons p own a =>
  show bb ((n' p.1,V.int p.2)::c4 own) (n' n)=(((p.1,p.2)::own).lookup n).map V.int
  by_cases e:p.1=n
  ·rw[ft (by rw[e]),dt,show(n==p.1)=true by simp[e]];rfl
  ·rw[eR (λz=>e (gx z)),a,dt,show(n==p.1)=false by simp[aT e]]
def bZ(a:Ask):List Key:=[n' a.1,n' a.2]
theorem Cf{a b:Ask}(h:bZ a=bZ b):a=b:=by
 unfold bZ at h;injection h with h1 h2;injection h2 with c _;exact vZ (gx h1) (gx c)
def j5(H:Hp)(NU:List FF)(kk:List (List Key×V))(ka:List (Ask×Int)):Prop:=VX (λkv p=>kv.1=bZ p.1 /\∃(t:E8) (y:V) (ns:E8) (nv:List FF),kv.2=V.ref t/\H t=ih (.tup [y,.int p.2,.ref ns])/\H ns=ih (.tup (nv.map V.str))/\nv.Nodup /\∀y∈nv,y∈NU) kk ka
theorem j5.keep{ka:ac (Ask×Int)}(h:j5 H NU kk ka)(k:∀b xs,H b=a2 xs->H' b=a2 xs):j5 H' NU kk ka:=Paired.imp' (λ_ _ d=>by obtain⟨e,t,y,ns,a,e1,e2,e3,c⟩:=d;exact ⟨e,t,y,ns,a,e1,k _ _ e2,k _ _ e3,c⟩) h
theorem j5.val{ka:ac (Ask×Int)}(h:j5 H NU kk ka)(a:Ask):(bb kk (bZ a)=none /\∀z,(a,z)∉ ka) \/∃(v:V) (z:Int) (t:E8) (y:V) (ns:E8) (b:ac FF),bb kk (bZ a)=ih v/\(a,z)∈ka/\v=V.ref t/\H t=a2 [y,.int z,.ref ns]/\H ns=a2 (b.map V.str)/\b.Nodup /\∀y∈b,y∈NU:=by
 induction h with
 |nil=>exact .inl ⟨rfl,λz h=>by cases h⟩
 |@cons g p kk ka e _ j =>
  obtain⟨i,t,y,ns,b,e1,e2,e3,k,e5⟩:=e
  by_cases c:p.1=a
  ·exact .inr ⟨g.2,p.2,t,y,ns,b,ft (by rw[i,c]),by rw[<-c];exact aY,e1,e2,e3,k,e5⟩
  ·have ne : ¬ g.1=bZ a:=λz=>c (Cf (i.symm.trans z))
   rcases j with⟨d,f⟩|⟨v,z,t,y,ns,b,d,f,l⟩
   ·refine .inl ⟨by rw[eR ne];exact d,λz m=>?_⟩
    rcases bJ.mp m with y|y
    ·exact c (by rw[<-y])
    ·exact f z y
   ·exact .inr ⟨v,z,t,y,ns,b,by rw[eR ne];exact d,bc _ f,l⟩
def UA(W:aP)(NU:List FF)(a:Ask):Prop:=a.1∈NU/\(a.2 = "" \/ a.2∈W.line)
structure g7(W:aP)(NU:List FF):Prop where
 bk:gq W.bk
 ask:∀p∈W.bk,∀s∈cg p.2.2,a9 s = "ask" -> d0 s∈NU
 nm:∀n∈NU,Nm n
 a5:NU.length<=20
 ln:W.line.length<=9
 lm:∀k∈W.line,Nm k
structure Wh where
 (x dx fi fx dl de dh ow kp kn:E8)
 (kd:FF)
 (kl:List (Key×V))
 (ke:List (List Key×V))
 (W:aP)
 (L:FF->List FF)
 (NU:List FF)
structure cj(C D:E8)(S:Wh)(bg m:Int)(kh kk kq:List (List Key×V))(ka:List (Ask×Int))(H:Hp):Prop where
 n3:S.x≠S.fi
 hx:H S.x=ih (.ins C S.dx (fW S.fi S.ow S.kp S.kn S.kd bg))
 fi:FI D S.fi S.fx S.dl S.de S.dh S.kl S.ke kh m S.W.bk H
 ho:H S.ow=ih (.dK (c4 S.W.own))
 hk:H S.kn=ih (.dT kk)
 hq:H S.kp=ih (.dT kq)
 n1:S.kn≠S.de/\S.kn≠S.dh/\S.kp≠S.de/\S.kp≠S.dh/\S.kn≠S.kp
 ln:gM H S.kl S.L S.kd
 el:S.L S.kd=S.W.line
 mQ:i3 H kh S.W.bk S.L
 kv:j5 H S.NU kk ka
 ok:∀p∈ka,S.W.Out p.1 (.told p.2)
 nd:(ka.map (·.1)).Nodup
 ei:∀p∈ka,UA S.W S.NU p.1
 ql:kq.length<=kk.length
def Kp(S:Wh)(H H':Hp):Prop:= ∀b o,b≠S.fi->b≠S.dh->H b=ih o->H' b=ih o
theorem cj.same{S:Wh}{ka:ac (Ask×Int)}(h:cj C D S bg m kh kk kq ka H)(s:ax H H'):cj C D S bg m kh kk kq ka H':=
 ⟨h.n3,s _ _ h.hx,⟨s _ _ h.fi.hx,s _ _ h.fi.hl,s _ _ h.fi.he,s _ _ h.fi.hh,h.fi.du.same s,h.fi.ok,h.fi.nn⟩,s _ _ h.ho,s _ _ h.hk,s _ _ h.hq,h.n1,h.ln.same s,h.el,h.mQ.keep h.fi.ok λb xs e=>s _ _ e,h.kv.keep λb xs e=>s _ _ e,h.ok,h.nd,h.ei,h.ql⟩
theorem cj.write{S:Wh}{ka:ac (Ask×Int)}(h:cj C D S bg m kh kk kq ka H)(k:∀b o,(∀xs,o≠HO.lst xs)->(∀dx fs,(b=S.x\/b=S.fi) \/∀c,o≠HO.ins c dx fs)->H b=ih o->H' b=ih o):cj C D S bg m kh kk kq ka H':=by
 have a:∀b xs,H b=a2 xs->H' b=a2 xs:=λb xs e=>k b _ (by intro _ z;cases z) (λ_ _=>.inr (by intro _ z;cases z)) e
 have d:∀b xs,H b=ce xs->H' b=ce xs:=λb xs e=>k b _ (by intro _ z;cases z) (λ_ _=>.inr (by intro _ z;cases z)) e
 have f:∀b xs,H b=bn xs->H' b=bn xs:=λb xs e=>k b _ (by intro _ z;cases z) (λ_ _=>.inr (by intro _ z;cases z)) e
 obtain⟨g,e1,e2⟩:=h.ln;exact⟨h.n3,k _ _ (by intro _ z;cases z) (λ_ _=>.inl (.inl rfl)) h.hx,⟨k _ _ (by intro _ z;cases z) (λ_ _=>.inl (.inr rfl)) h.fi.hx,f _ _ h.fi.hl,d _ _ h.fi.he,d _ _ h.fi.hh,h.fi.du.keep a h.fi.ok.ent,h.fi.ok,h.fi.nn⟩,f _ _ h.ho,d _ _ h.hk,d _ _ h.hq,h.n1,⟨g,e1,a _ _ e2⟩,h.el,h.mQ.keep h.fi.ok a,h.kv.keep a,h.ok,h.nd,h.ei,h.ql⟩
theorem cj.looked{S:Wh}{c:Int}{a:ac (List Key×V)}{ka:ac (Ask×Int)}(h:cj C D S bg m kh kk kq ka H)(k:Kp S H H')(fi:FI D S.fi S.fx S.dl S.de S.dh S.kl S.ke a c S.W.bk H')(f:i3 H' a S.W.bk S.L):cj C D S bg c a kk kq ka H':=by
 have d:∀b xs,H b=a2 xs->H' b=a2 xs:=λb xs e=>k _ _ (ar e h.fi.hx) (ar e h.fi.hh) e
 obtain⟨g,e1,e2⟩:=h.ln;exact⟨h.n3,k _ _ h.n3 (ar h.hx h.fi.hh) h.hx,fi,k _ _ (ar h.ho h.fi.hx) (ar h.ho h.fi.hh) h.ho,k _ _ (ar h.hk h.fi.hx) h.n1.2.1 h.hk,k _ _ (ar h.hq h.fi.hx) h.n1.2.2.2.1 h.hq,h.n1,⟨g,e1,d _ _ e2⟩,h.el,f,h.kv.keep d,h.ok,h.nd,h.ei,h.ql⟩
theorem IX{W:aP}{a:Ask}(h:W.Out a (.told z))(ne:a.2 ≠ ""):(W.look a).isSome=true:=by
 obtain⟨k,b⟩:=h;cases k with
 |zero=>cases b
 |succ k =>
  have b:W.ck (W.out k) a=ih (.told z):=b;unfold aP.ck at b;rw[show W.cU a=none by unfold aP.cU;exact aq λy=>ne y.1]at b
  cases e:W.look a with
  |none=>rw[e]at b;cases b
  |some p=>rfl
theorem l9{W:aP}{a:Ask}{d:UR}(h:W.look a=ih (wh,d)):wh∈W.line:=by
 have:=(jG h).1;unfold ee at this;split at this
 ·exact this
 ·exact oY this
inductive q4(C D R:E8)(vs:List V)(H:Hp)(Q:VK)(E:XK):Prop
 |mk{S:Wh}{bg m:Int}{kh kk kq:List (List Key×V)}{ka:List (Ask×Int)}{r QF ta lf rs:E8}{wh:FF}{t:Int}{a:Ask}{u:V}{d:UR}(_:vs=[.ref S.x,.ref r,u])(_:g7 S.W S.NU)(_:cj C D S bg m kh kk kq ka H)(_:kh.length<=1000000)(_:H r=ih (.ins R QF (fR ta lf rs wh t)))(_:H ta=ih (.tup [.str a.1,.str a.2]))(_:wh∈S.W.line)(_:eh d)(_:Rep H u d)
  (_:S.W.need a.1 wh d=none ->∀eH m' H',Kp S H H'->cj C D S bg m' eH kk kq ka H'->eH.length<=kh.length+1->Q .aO H')
  (_:∀b,S.W.need a.1 wh d=ih b ->∀tn eH m' H',Kp S H H'->cj C D S bg m' eH kk kq ka H'->eH.length<=kh.length+1->H' tn=ih (.tup [.str b.1,.str b.2])->Q (.ref tn) H'):q4 C D R vs H Q E
noncomputable abbrev QG:List FF:=["self","reckoning","step","name","where"]
theorem Eg:bj QG ["self","reckoning","step"] (aJ tX):=bB
theorem NI(F:aS K "come_to" "Whole.come_to" tX f fd)(T:hW K mg C)(xh:jT K mg D)(I:iC K mg R)(yh:aU P w K mg base aH 2 fL dL ["self","kind","name","behind"] (mh D))(zh:Meth K D "look" fL)(xi:Binds K dL ["self","kind","name","behind"] []):aU P w K mg base aH 3 f fd ["self","reckoning","step"] (q4 C D R):=by
 refine F.bI Eg λQa A outer s H vs Q E xc h=>?_
 ·obtain @⟨S,bg,m,kh,kk,kq,ka,r,xa,ta,lf,rs,wh,t,a,u,d,rfl,yc,h,ye,ya,ze,za,st,yi,zc,xd⟩:=h
  have xf:a4 2 _:=xc;have yf:=eF xc.units;intro X;refine⟨_,aw (bo (br c' (aV bp (pv 2) au) bt (bC _)) (aB (aZ (b9 (aa (aV bp (pv 2) au) (aa bt ai))))) bG)
   (aw (bo (br jK (aV bp (pv 2) au) bt (bC _)) (aB (aZ dV)) bG)
   (aw (LO (i:=3) (j:=4) rfl Eg.nd rfl rfl (by decide) rfl rfl (aa (aV bp (cp (pv 1) rfl) au) (aa (cp (pv 1) rfl) ai)) rfl)
   (aw (bo (PW.pt (pw_or (fX (i1 yf (b9 (aa (pv 3) (aa (pv 4) ai))) (cp (pv 0) rfl))) (pw_or1 (fX (tE (hF (cp (pv 0) rfl) xh.cl zh yh xf xi .nil cY (aa (cp (pv 0) rfl) (aa (pv 3) (aa (pv 4) ai))))))))) (aB (aZ (b9 (aa (pv 3) (aa (pv 4) ai))))) bG)
   (aB (aZ dV))))),?_⟩
  obtain⟨O,xs,rfl,U,h1,h2,zj⟩:=pZ st yi;refine ah rfl ⟨O,_,0,_,rfl,rfl,aA.of U,b',rfl,_,rfl,?_⟩;refine bY (λe=>?_) (λe=>?_)
  ·have e:a9 d = "ask" :=by
    have:=dQ e;injection this
   obtain rfl:=h2 e;refine ah rfl ⟨O,_,1,_,rfl,rfl,aA.of U,cT,bS,λc zi=>?_⟩;have yd:=aK (o:=.tup [V.str (d0 d),V.str ""]) zi;exact xd (d0 d,"") (by unfold aP.need;rw[aF e]) c kh m _ (λb o _ _ z=>yd _ _ z) (h.same yd) (gc _) af
  have e : ¬ a9 d = "ask" :=λz=>e (by rw[z];exact cf rfl)
  refine ah rfl ⟨O,_,0,_,rfl,rfl,aA.of U,b',rfl,_,rfl,?_⟩;refine bY (λe2=>?_) (λe2=>?_)
  ·have e2 : ¬ a9 d = "onward" :=λz=>by rw[z]at e2;revert e2;decide +kernel
   exact zc (by unfold aP.need;rw[aq e,aq e2]) kh m H (λb o _ _ z=>z) h (gc _)
  have e2:a9 d = "onward" :=by
   by_cases z:a9 d = "onward"
   ·exact z
   ·exact absurd (by simpa using λy=>z y) e2
  have zd:S.W.need a.1 wh d=if (S.W.look (a.1,wh)).isSome=true then ih (a.1,wh) else none:=by unfold aP.need;rw[aq e,aF e2]
  refine ah rfl ⟨r,R,xa,_,.ref ta,rfl,ya,I.cl,I.na,qj,ta,_,0,_,rfl,rfl,aA.of ze,b',_,rfl,r,R,xa,_,.str wh,rfl,ya,I.cl,I.nw,Ce,_,_,rfl,?_⟩;refine aX rfl rfl ⟨bS,λY zf=>?_⟩;have J:=aK (o:=.tup [V.str a.1,V.str wh]) zf;have xb:upd H Y (.tup [V.str a.1,V.str wh]) Y=a2 ((bZ (a.1,wh)).map kV):=af;have g:=h.same J;generalize upd H Y (.tup [V.str a.1,V.str wh])=xk at J xb g⊢;refine ah rfl ⟨S.x,C,S.dx,_,.ref S.kn,rfl,g.hx,T.cl,T.nn,iW,S.kn,_,rfl,b7.t (k:=bZ (a.1,wh)) g.hk xb,_,rfl,?_⟩;have xg:wh ≠ "" :=λz=>by have:=(yc.lm wh za).lo;rw[z]at this;revert this;decide +kernel
  have yb:∀{l:Hp}{q:ac (List Key×V)}{G:Int},(S.W.look (a.1,wh)).isSome=true->Kp S H l->cj C D S bg G q kk kq ka l->q.length<=kh.length+1 ->∀tn,l tn=none->Q (.ref tn) (upd l tn (.tup [V.str a.1,V.str wh])):=λ{l q G} xj kp L M tn B=>by
   have xe:=aK (o:=.tup [V.str a.1,V.str wh]) B;exact xd (a.1,wh) (by rw[zd,aF xj]) tn q G _ (λb o n1 Z z=>xe _ _ (kp b o n1 Z z)) (L.same xe) M af
  rcases h.kv.val (a.1,wh) with⟨e1,e3⟩|⟨v,z,yj,y,ns,yk,e1,e3,_⟩
  ·rw[e1]
   refine ah rfl ⟨S.x,C,S.dx,_,.ref S.fi,rfl,g.hx,T.cl,T.nf,tm,S.fi,S.fx,_,rfl,g.fi.hx,uR (by decide +kernel) (by decide +kernel) (by decide +kernel) (by decide +kernel),_,rfl,S.x,C,S.dx,_,.str S.kd,rfl,g.hx,T.cl,T.nk,t4,_,rfl,_,rfl,mh.mk rfl g.fi g.ln (by rw[h.el];have:=yc.ln;omega) (.inr (by rw[h.el];exact za)) g.mQ ye λv q G l zb yg zg M n=>?_⟩
   have L:=g.looked zb yg zg;have kp:Kp S H l:=λb o n1 Z z=>zb b o n1 Z (J _ _ z);rw[h.el]at n;have n:eL l v (S.W.look (a.1,wh)):=n;cases N:S.W.look (a.1,wh) with
   |none =>
    rw[N]at n;have n:v=V.aO:=n;subst n;refine ah rfl ?_;exact zc (by rw[zd,N];rfl) q G l kp L M
   |some p =>
    rw[N]at n;obtain⟨yj,zk,rfl,_,_⟩:=n;refine ah rfl ?_;exact aX rfl rfl ⟨bS,λtn B=>yb (by rw[N];rfl) kp L M tn B⟩
  ·rw[e1]
   exact aX rfl rfl ⟨bS,λtn B=>yb (IX (h.ok _ e3) xg) (λb o _ _ z=>J _ _ z) g (gc _) tn B⟩
theorem Pc{G:Prop}{hV C:Hp->Prop}(h1:(∀a,hV a->C a)->G)(h2:∀a,hV a->C a):G:=h1 h2
theorem EM:seqIndex? 0 (v::vs).length=ih 0:=by simp[seqIndex?]
structure FA where
 (x dx ta lf rs:E8)
structure c1(R:E8)(S:Wh)(H:Hp)(A:FA)(f:bh)(lv:List V)(rn:List FF):Prop where
 hx:H A.x=ih (.ins R A.dx (fR A.ta A.lf A.rs f.w f.t))
 eN:H A.ta=ih (.tup [.str f.a.1,.str f.a.2])
 hl:H A.lf=ih (.lst lv)
 rl:bL H lv f.left
 st:∀s∈f.left,eh s
 an:∀s∈f.left,a9 s = "ask" -> d0 s∈S.NU
 hr:H A.rs=ih (.lst (rn.map V.str))
 rm:∀y∈rn,y∈S.NU
 a5:rn.length+f.left.length * 20<=99
 h7:A.lf≠A.rs
 nx:A.x≠S.x
 nf:A.x≠S.fi
def Kr(S:Wh)(A:FA)(H H':Hp):Prop:= ∀b o,b≠S.fi->b≠S.dh->b≠A.x->b≠A.lf->b≠A.rs->H b=ih o->H' b=ih o
theorem c1.keep{S:Wh}{A:FA}{f:bh}(h:c1 R S H A f lv rn)(k:∀b o,b=A.x\/b=A.lf\/b=A.rs\/(∃xs,o=HO.tup xs)->H b=ih o->H' b=ih o):c1 R S H' A f lv rn:=
 ⟨k _ _ (.inl rfl) h.hx,k _ _ (.inr (.inr (.inr ⟨_,rfl⟩))) h.eN,k _ _ (.inr (.inl rfl)) h.hl,ic (λb xs e=>k _ _ (.inr (.inr (.inr ⟨_,rfl⟩))) e) h.rl h.st,h.st,h.an,k _ _ (.inr (.inr (.inl rfl))) h.hr,h.rm,h.a5,h.h7,h.nx,h.nf⟩
theorem c1.kp{S:Wh}{ka:ac (Ask×Int)}{A:FA}{f:bh}(h:c1 R S H A f lv rn)(w:cj C D S bg m kh kk kq ka H)(k:Kp S H H'):c1 R S H' A f lv rn:=by
 have a:∀b xs,H b=bd xs->H' b=bd xs:=λb xs e=>k _ _ (ar e w.fi.hx) (ar e w.fi.hh) e
 have c:∀b xs,H b=a2 xs->H' b=a2 xs:=λb xs e=>k _ _ (ar e w.fi.hx) (ar e w.fi.hh) e
 exact⟨k _ _ h.nf (ar h.hx w.fi.hh) h.hx,c _ _ h.eN,a _ _ h.hl,ic c h.rl h.st,h.st,h.an,a _ _ h.hr,h.rm,h.a5,h.h7,h.nx,h.nf⟩
theorem cj.wr{S:Wh}{ka:ac (Ask×Int)}{A:FA}{f:bh}(h:cj C D S bg m kh kk kq ka H)(r:c1 R S H A f lv rn)(k:∀b o,b≠A.x->b≠A.lf->b≠A.rs->H b=ih o->H' b=ih o):cj C D S bg m kh kk kq ka H':=
 h.write λb o a c e=>k b o (λz=>by
  rw[z]at e c;rw[r.hx]at e;cases e;rcases c A.dx _ with y|y
  ·rcases y with y|y
   ·exact r.nx y
   ·exact r.nf y
  ·exact y _ rfl) (λz=>by rw[z,r.hl]at e;cases e;exact a _ rfl) (λz=>by rw[z,r.hr]at e;cases e;exact a _ rfl) e
inductive q5(C D R:E8)(vs:List V)(H:Hp)(Q:VK)(E:XK):Prop
 |mk{S:Wh}{bg m:Int}{kh kk kq:List (List Key×V)}{ka:List (Ask×Int)}{A:FA}{fr:bh}{lv:List V}{rn:List FF}(_:vs=[.ref S.x,.ref A.x])(_:g7 S.W S.NU)(_:cj C D S bg m kh kk kq ka H)(_:kh.length<=900000)(_:c1 R S H A fr lv rn)(_:bR S.W fr)(_:fr.w∈S.W.line)
  (_:∀t' vK vL eH m' H',Kr S A H H'->cj C D S bg m' eH kk kq ka H'->eH.length<=kh.length+5->c1 R S H' A ⟨fr.a,fr.w,[],t'⟩ vK vL->bR S.W ⟨fr.a,fr.w,[],t'⟩->Q .aO H')
  (_:∀t' d ds vK vL eH m' b tn H',Kr S A H H'->cj C D S bg m' eH kk kq ka H'->eH.length<=kh.length+5->c1 R S H' A ⟨fr.a,fr.w,d::ds,t'⟩ vK vL->bR S.W ⟨fr.a,fr.w,d::ds,t'⟩->S.W.need fr.a.1 fr.w d=ih b->(∀z,(b,z)∉ ka)->H' tn=ih (.tup [.str b.1,.str b.2])->Q (.ref tn) H'):q5 C D R vs H Q E
abbrev QH:List FF:=["self","reckoning","step","needed"]
theorem vg:bj QH ["self","reckoning"] (aJ uN):=bB
theorem NJ(F:aS K "go_on" "Whole.go_on" uN f fd)(T:hW K mg C)(n:iC K mg R)(xn:aU P w K mg base aH 3 fC dC ["self","reckoning","step"] (q4 C D R))(yn:Meth K C "come_to" fC)(zn:Binds K dC ["self","reckoning","step"] [])
  (xo:aU P w K mg base aH 1 fS dS ["self","step"] (q2 R)) (yo:Meth K R "step_by" fS) (zo:Binds K dS ["self","step"] []) (xp:aU P w K mg base aH 1 fT dT ["self","told"] (q3 R)) (yp:Meth K R "take_in" fT) (zp:Binds K dT ["self","told"] []):aU P w K mg base aH 4 f fd ["self","reckoning"] (q5 C D R):=by
 refine F.bI vg λQa A outer s H vs Q E xj h=>?_
 ·obtain @⟨S,bg,m,kh,kk,kq,ka,A,fr,lv,rn,rfl,yj,h,yw,ze,xq,zk,yq,zq⟩:=h
  have yg:a4 3 _:=xj;have zg:a4 1 _:=yg.mono (by decide)
  have xh:=eF xj.units;intro X;refine⟨_,aw (nz d9 (kz (cp (pv 1) rfl) (λ_=>rfl))
    (aw (a3 2 vg.nd (aV dA (cp (pv 1) rfl) au))
    (aw (a3 3 vg.nd (hF (pv 0) T.cl yn xn yg zn .nil cY (aa (pv 1) (aa (pv 2) ai))))
    (aw (bo (br gD (pv 3) dV (bC _)) (aB (eJ (hF (pv 1) n.cl yo xo zg zo .nil cY (aa (pv 2) ai))))
     (aB (bo (fX (i1 xh (pv 3) (cp (pv 0) rfl))) (aB (eJ (hF (pv 1) n.cl yp xp zg zp .nil cY (aa (d4 xh (cp (pv 0) rfl) (pv 3)) ai)))) (aB (aZ (pv 3))))))
    (aB (eJ (gj hC F3 F4 BF (cp (pv 1) rfl) (aa au ai))))))))
   (aB (aZ dV)),?_⟩
  refine⟨λzj σ Y=>∃(left:ac UR) (t':Int) (O:ac V) (U:ac FF) (G:ac (List Key×V)) (xb:Int) (L M:ad V),σ=[am S.x,am A.x,L,M]/\zj=left.length/\left.length<=4/\bR S.W ⟨fr.a,fr.w,left,t'⟩/\c1 R S Y A ⟨fr.a,fr.w,left,t'⟩ O U/\cj C D S bg xb G kk kq ka Y/\G.length+left.length<=kh.length+4/\Kr S A H Y,
   ⟨_,fr.left,fr.t,lv,rn,kh,m,none,none,rfl,rfl,?_,xq,ze,h,?_,λb o _ _ _ _ _ z=>z⟩,?_⟩
  ·have:=ze.a5;omega
  ·have:=ze.a5;omega
  rintro zj σ Y ⟨left,N,xl,I,xe,xr,L,M,rfl,rfl,yr,xc,g,yb,xf,ye⟩;refine ah rfl ⟨A.x,R,A.dx,_,.ref A.lf,rfl,g.hx,n.cl,n.nl,p0,_,.inl ⟨_,ak.of g.hl,rfl⟩,?_⟩;cases left with
  |nil =>
   have zr:=g.rl;have e:=bL.length zr;have e0:xl=[]:=lF e;subst e0;refine bY (λz=>by cases z) (λ_=>?_)
   exact yq N [] I xe xr Y ye yb (by have:xe.length+0<=kh.length+4:=xf;omega) g xc
  |cons d ds =>
   obtain⟨v,vs,rfl,xt,zw⟩:=g.rl.fe;refine bY (λ_=>?_) (λz=>absurd rfl z);have xf:xe.length+(ds.length+1)<=kh.length+4:=xf;refine⟨λyh H'=>∃(t':Int) (O:ac V) (U:ac FF) (G:ac (List Key×V)) (xb:Int) (L M:ad V),yh=[am S.x,am A.x,L,M]/\bR S.W ⟨fr.a,fr.w,ds,t'⟩/\c1 R S H' A ⟨fr.a,fr.w,ds,t'⟩ O U/\cj C D S bg xb G kk kq ka H'/\G.length+ds.length<=kh.length+4/\Kr S A H H',λyh H' ⟨t',O,U,G,xb,L,M,e,yt,zt,xu,yu,zu⟩=>⟨ds.length,j8 _,ds,t',O,U,G,xb,L,M,e,rfl,by simp only[cV]at yr;omega,yt,zt,xu,yu,zu⟩,?_⟩
   refine ah rfl ⟨A.x,R,A.dx,_,.ref A.lf,rfl,g.hx,n.cl,n.nl,p0,A.lf,_,0,v,rfl,rfl,ak.of g.hl,b',?_⟩;refine ah rfl ⟨S.x,S.dx,_,rfl,yb.hx,rfl,_,rfl,_,rfl,q4.mk rfl yj yb (by omega) g.hx g.eN zk (g.st d aY) xt (λxd yc yd H2 Z p xv=>?_) λb xd tn yc yd H2 Z p xv zh=>?_⟩
   ·have c:c1 R S H2 A ⟨fr.a,fr.w,d::ds,N⟩ (v::vs) I:=g.kp yb Z
    have zc:Kr S A H H2:=λb o n1 j i u B e=>Z b o n1 j (ye b o n1 j i u B e);obtain⟨yv,yl,yf,xi,zd⟩:=c.rl.fe;cases yf
    refine ah rfl ⟨rfl,_,rfl,_,rfl,A.x,A.dx,_,rfl,c.hx,rfl,_,rfl,q2.mk rfl c.hx (g.st d aY) xi λJ q zb=>?_⟩;have xa:A.lf≠A.x:=ar c.hl c.hx
    have zl:A.rs≠A.x:=ar c.hr c.hx
    have r:=q _ _ xa c.hl;have zf:=p.wr c λb o n1 j i e=>q b o n1 e;have ya:∀b xs,H2 b=a2 xs->J b=a2 xs:=λb xs e=>q _ _ (ar e c.hx) e
    refine ah rfl ⟨A.x,R,A.dx,_,.ref A.lf,rfl,zb,n.cl,n.nl,p0,.inl ⟨rfl,_,ak.of r⟩,A.lf,_,0,0,v,rfl,rfl,r,by decide,by decide,EM,rfl,?_⟩
    have za:∀b xs,J b=a2 xs->upd J A.lf (.lst vs) b=a2 xs:=λb xs e=>by rw[ag (ar e r)];exact e
    have a5:=c.a5;refine⟨stepT N d,vs,I,yc,yd,_,_,rfl,xc.step rfl xd,⟨by rw[ag (aT xa)];exact zb,za _ _ (ya _ _ c.eN),af,ic (λb xs e=>za _ _ (ya _ _ e)) zd λs l=>g.st s (bc _ l),λs l=>g.st s (bc _ l),λs l=>g.an s (bc _ l),by rw[ag (aT c.h7)];exact q _ _ zl c.hr,c.rm,by simp only[cV]at a5;show I.length+ds.length * 20<=99;omega,c.h7,c.nx,c.nf⟩,?_,by omega,λb o n1 j i u B e=>by rw[ag u];exact q _ _ i (zc b o n1 j i u B e)⟩
    exact zf.write λb o xg _ e=>by rw[ag (λz=>by rw[z,r]at e;cases e;exact xg _ rfl)];exact e
   ·have c:c1 R S H2 A ⟨fr.a,fr.w,d::ds,N⟩ (v::vs) I:=g.kp yb Z
    have zc:Kr S A H H2:=λb o n1 j i u B e=>Z b o n1 j (ye b o n1 j i u B e);obtain⟨yv,yl,yf,xi,zd⟩:=c.rl.fe;cases yf
    have yi:H2 tn=a2 ((bZ b).map kV):=zh;refine ah rfl ⟨rfl,_,rfl,_,rfl,_,rfl,S.x,C,S.dx,_,.ref S.kn,rfl,p.hx,T.cl,T.nn,iW,S.kn,_,rfl,b7.t (k:=bZ b) p.hk yi,_,rfl,?_⟩;rcases p.kv.val b with⟨e1,e3⟩|⟨yx,z,zv,y,ns,xk,e1,e3,rfl,xm,ym,zm,zi⟩
    ·rw[e1]
     exact ah rfl (zq N d ds (v::vs) I yc yd b tn H2 zc p (by omega) c xc xd e3 zh)
    ·rw[e1]
     have xx:xk.length<=20:=en (len_sub zm zi) yj.a5;have a5:=c.a5;simp only[cV]at a5;refine ah rfl ⟨A.x,A.dx,_,rfl,c.hx,rfl,_,rfl,S.x,C,S.dx,_,.ref S.kn,rfl,p.hx,T.cl,T.nn,iW,_,rfl,S.kn,.ref zv,rfl,by rw[<-e1];exact b7.t (k:=bZ b) p.hk yi,q3.mk rfl c.hx c.hr xm ym (by rw[aE,aE];omega) λJ q zb yk=>?_⟩
     have xa:A.lf≠A.x:=ar c.hl c.hx
     have r:=q _ _ xa c.h7 c.hl;have zf:=p.wr c λb o n1 j i e=>q b o n1 i e;have ya:∀b xs,H2 b=a2 xs->J b=a2 xs:=λb xs e=>q _ _ (ar e c.hx) (ar e c.hr) e
     refine ah rfl ⟨A.x,R,A.dx,_,.ref A.lf,rfl,zb,n.cl,n.nl,p0,.inl ⟨rfl,_,ak.of r⟩,A.lf,_,0,0,v,rfl,rfl,r,by decide,by decide,EM,rfl,?_⟩
     have za:∀b xs,J b=a2 xs->upd J A.lf (.lst vs) b=a2 xs:=λb xs e=>by rw[ag (ar e r)];exact e
     refine⟨N+z,vs,I++xk,yc,yd,_,_,rfl,xc.take rfl xd (p.ok _ e3),⟨by rw[ag (aT xa)];exact zb,za _ _ (ya _ _ c.eN),af,ic (λb xs e=>za _ _ (ya _ _ e)) zd λs l=>g.st s (bc _ l),λs l=>g.st s (bc _ l),λs l=>g.an s (bc _ l),by rw[ag (aT c.h7),a'];exact yk,λy xw=>?_,by rw[bX];show _+ds.length * 20<=99;omega,c.h7,c.nx,c.nf⟩,?_,by omega,λb o n1 j i u B e=>by rw[ag u];exact q _ _ i B (zc b o n1 j i u B e)⟩
     ·rcases bK.mp xw with y'|y'
      ·exact c.rm y y'
      ·exact zi y y'
     ·exact zf.write λb o xg _ e=>by rw[ag (λz=>by rw[z,r]at e;cases e;exact xg _ rfl)];exact e
theorem Bu:Vv "set" = ih (.type "set"):=by decide +kernel
theorem cj.DB{S:Wh}{g:ac (List Key×V)}{ka:ac (Ask×Int)}{a:Ask}(h:cj C D S bg m kh kk kq ka H)(l:∀z,(a,z)∉ ka)(n:S.W.Out a (.told z))(q:UA S.W S.NU a)
  (k:∀b o,b≠S.kn->b≠S.kp->H b=ih o->H' b=ih o) (r:H' S.kn=ce (kk++[(bZ a,.ref tt)])) (s:H' S.kp=ce g) (t:g.length<=kk.length+1) (w:∃(y:V) (ns:E8) (c:ac FF),H' tt=a2 [y,.int z,.ref ns]/\H' ns=a2 (c.map V.str)/\c.Nodup /\∀y∈c,y∈S.NU) :
  cj C D S bg m kh (kk++[(bZ a,.ref tt)]) g (ka++[(a,z)]) H':=by
 have f:∀b xs,H b=a2 xs->H' b=a2 xs:=λb xs e=>k _ _ (ar e h.hk) (ar e h.hq) e
 have j:∀b xs,H b=bn xs->H' b=bn xs:=λb xs e=>k _ _ (ar e h.hk) (ar e h.hq) e
 obtain⟨x,e1,e2⟩:=h.ln;obtain⟨y,ns,c,h1,h2,A,B⟩:=w;refine⟨h.n3,k _ _ (ar h.hx h.hk) (ar h.hx h.hq) h.hx,⟨k _ _ (ar h.fi.hx h.hk) (ar h.fi.hx h.hq) h.fi.hx,j _ _ h.fi.hl,k _ _ (aT h.n1.1) (aT h.n1.2.2.1) h.fi.he,k _ _ (aT h.n1.2.1) (aT h.n1.2.2.2.1) h.fi.hh,h.fi.du.keep f h.fi.ok.ent,h.fi.ok,h.fi.nn⟩,j _ _ h.ho,r,s,h.n1,⟨x,e1,f _ _ e2⟩,h.el,h.mQ.keep h.fi.ok f,gQ (h.kv.keep f) ⟨rfl,tt,y,ns,c,rfl,h1,h2,A,B⟩,λp d=>?_,?_,λp d=>?_,by rw[bX];exact t⟩
 ·rcases bK.mp d with e|e
  ·exact h.ok p e
  ·rw[bN.mp e];exact n
 ·rw[a']
  refine dw.mpr ⟨h.nd,by simp,λu E v i e=>?_⟩
  have i:v=a:=bN.mp i;obtain⟨p,d,rfl⟩:=a6.mp E;exact l p.2 (by rw[<-i,<-e];exact d)
 ·rcases bK.mp d with e|e
  ·exact h.ei p e
  ·rw[bN.mp e];exact q
theorem j5.no{ka:ac (Ask×Int)}(h:j5 H NU kk ka){a:Ask}(b:∀z,(a,z)∉ ka):bb kk (bZ a)=none:=by
 rcases h.val a with⟨e,_⟩|⟨v,z,_,_,_,_,_,e,_⟩
 ·exact e
 ·exact absurd e (b z)
inductive q6(C D R:E8)(vs:List V)(H:Hp)(Q:VK)(E:XK):Prop
 |mk{S:Wh}{bg m:Int}{kh kk kq:List (List Key×V)}{ka:List (Ask×Int)}{A:FA}{fr:bh}{lv:List V}{rn:List FF}(_:vs=[.ref S.x,.ref A.x])(_:g7 S.W S.NU)(_:cj C D S bg m kh kk kq ka H)(_:kk.length<=10000)(_:c1 R S H A fr lv rn)(_:S.W.Out fr.a (.told fr.t))(_:∀z,(fr.a,z)∉ ka)(_:UA S.W S.NU fr.a)
  (_:∀mR QI H',(∀b o,b≠S.kn->b≠S.kp->H b=ih o->H' b=ih o)->cj C D S bg m kh mR QI (ka++[(fr.a,fr.t)]) H'->Q .aO H'):q6 C D R vs H Q E
theorem Ei:bj ["self","reckoning","told"] ["self","reckoning"] (aJ nN):=bB
theorem NK(F:aS K "settle" "Whole.settle" nN f fd)(B:dq mg)(xd:hU mg)(xc:mg "set" = none)(T:hW K mg C)(i:iC K mg R):aU P w K mg base aH 1 f fd ["self","reckoning"] (q6 C D R):=by
 refine F.bI Ei λQa A outer s H vs Q E yd h=>?_
 ·obtain @⟨S,bg,m,kh,kk,kq,ka,c,fr,lv,rn,rfl,zd,h,xf,j,xe,Z,ye,q⟩:=h
  have z:=eF yd.units;intro X;refine⟨_,aw (a3 2 Ei.nd (b9 (aa (cp (pv 1) rfl) (aa (cp (pv 1) rfl) (aa (dy iP rfl B.tuple boot_tuple (aa (bV (Gh rfl) rfl xd.sorted boot_sorted (aa (dy (BX rfl) rfl xc Bu (aa (cp (pv 1) rfl) ai)) ai)) ai)) ai)))))
   (aw (gC z (cp (pv 0) rfl) (cp (pv 1) rfl) (pv 2) rfl)
   (aB (gC z (cp (pv 0) rfl) (cp (pv 1) rfl) (pv 2) rfl))),?_⟩
  have a5:=j.a5;refine ah rfl ⟨c.x,R,c.dx,_,.str fr.w,rfl,j.hx,i.cl,i.nw,Ce,_,rfl,c.x,R,c.dx,_,.int fr.t,rfl,j.hx,i.cl,i.nt,pN,_,rfl,c.x,R,c.dx,_,.ref c.rs,rfl,j.hx,i.cl,i.nr,Bt,c.rs,rn,rfl,.inl (ak.of j.hr),by omega,λl ds yc ya O=>?_⟩
  have dl:ds.length<=20:=en (len_sub ya λy L=>j.rm y ((O y).mp L)) zd.a5;refine⟨l,ds,rfl,af,by omega,λv g zb pm yf=>⟨v,_,rfl,.inl ⟨ak.of af,λns za=>⟨g6,λtt I=>?_⟩⟩⟩⟩
  generalize jc (d5 aH P w K mg base ["self","reckoning","told"] "Whole.settle" (aJ nN) f Qa A outer s H E).ll.prog (d5 aH P w K mg base ["self","reckoning","told"] "Whole.settle" (aJ nN) f Qa A outer s H E).ll.w l ds=G at zb za I⊢;have p:=(aK (o:=G) yc).trans ((aK (o:=.lst (g.map V.str)) zb).trans ((aK (o:=.tup (g.map V.str)) za).trans (aK (o:=.tup [V.str fr.w,.int fr.t,.ref ns]) I)));have U:upd (upd (upd (upd H l G) v (.lst (g.map V.str))) ns (.tup (g.map V.str))) tt (.tup [V.str fr.w,.int fr.t,.ref ns]) tt=a2 [V.str fr.w,.int fr.t,.ref ns]:=af;have W:upd (upd (upd (upd H l G) v (.lst (g.map V.str))) ns (.tup (g.map V.str))) tt (.tup [V.str fr.w,.int fr.t,.ref ns]) ns=a2 (g.map V.str):=by rw[ag (ay af I)];exact af
  generalize upd (upd (upd (upd H l G) v (.lst (g.map V.str))) ns (.tup (g.map V.str))) tt (.tup [V.str fr.w,.int fr.t,.ref ns])=Y at p U W⊢;have d:=h.same p;have J:=p _ _ j.hx;have xb:Y c.ta=a2 ((bZ fr.a).map kV):=p _ _ j.eN;have zf:=h.ql;refine aX rfl rfl ⟨S.x,C,S.dx,_,.ref S.kn,rfl,d.hx,T.cl,T.nn,iW,_,rfl,c.x,R,c.dx,_,.ref c.ta,rfl,J,i.cl,i.na,qj,S.kn,_,rfl,eW.t (k:=bZ fr.a) d.hk xb (by rw[aW];omega),?_⟩
  rw[iU _ (d.kv.no Z)];have up:∀{u:HO} b o,b≠S.kn->Y b=ih o->upd Y S.kn u b=ih o:=λb o n e=>by rw[ag n];exact e
  have ze:∀{u:HO} b xs,Y b=a2 xs->upd Y S.kn u b=a2 xs:=λb xs e=>up _ _ (ar e d.hk) e
  have zc:∀{u:HO},upd Y S.kn u S.kp=ce kq:=λ{u}=>up _ _ (aT h.n1.2.2.2.2) d.hq;refine aX rfl rfl ⟨S.x,C,S.dx,_,.ref S.kp,rfl,up _ _ (ar d.hx d.hk) d.hx,T.cl,T.np,rfl,_,rfl,c.x,R,c.dx,_,.ref c.ta,rfl,up _ _ (ar J d.hk) J,i.cl,i.na,qj,S.kp,_,rfl,eW.t (k:=bZ fr.a) zc (ze _ _ xb) (by rw[aW];omega),?_⟩
  have M:∀{u N:HO} b o,b≠S.kn->b≠S.kp->Y b=ih o->upd (upd Y S.kn u) S.kp N b=ih o:=λb o n1 r e=>by rw[ag r,ag n1];exact e
  have yb:∀{u N:HO} b xs,Y b=a2 xs->upd (upd Y S.kn u) S.kp N b=a2 xs:=λb xs e=>M _ _ (ar e d.hk) (ar e d.hq) e
  refine q _ _ _ (λb o n1 r e=>M _ _ n1 r (p _ _ e)) (d.DB Z xe ye (λb o n1 r e=>M _ _ n1 r e) (by rw[ag h.n1.2.2.2.2];exact af) af (by have:=lO kq (bZ fr.a) (V.ref tt);omega) ⟨_,ns,g,yb _ _ U,yb _ _ W,pm.nodup_iff.mpr ya,λy L=>j.rm y ((O y).mp (pm.mem_iff.mp L))⟩)
def Tells(t:TT)(σ:St)(H:Hp)(b:Bool):Prop:= ∀R:Bool->Hp->Prop,(∀Y,ax H Y->R b Y)->t σ H R
theorem Tells.and{t u:TT}{a b:Bool}(h:Tells t σ H a)(k:a=true ->∀Y,ax H Y->Tells u σ Y b):Tells (uV t u) σ H (a&&b):=λR q=>h _ λY c=>by
 cases a with
 |false=>exact q _ c
 |true=>exact k rfl Y c R λH2 d=>q _ (c.trans d)
theorem JY{t:TT}{a te:TS}{D:Ends}{c:_}{bk:_}{ct:_}{b:Bool}(h:Tells t (σ.set i (ih v)) H b)(k:∀Y,ax H Y->if b=true then a D (σ.set i (ih v)) Y else te D (σ.set i (ih v)) Y):iu i v σ H (Ends.nx (Ends.mk (uW t a te D) c bk ct)):=h _ k
structure uS(K:YA)(mg:FF->Option i')(B C fI:E8)(oH:Ye):Prop where
 mC:mg "Missing" = ih (.ref C)
 q:fZ K C (ih (.ref fI))=true
 fn:isFn K (.ref fI)=true
 kp:YF K (.ref C)=true
 F:aS K "__init__" "Missing.__init__" pH fI oH
 b:nS K B
 mB:mg "LineError" = ih (.ref B)
 bi:Binds K oH ["self","name"] []
 x:eV K C
 nk:Yt K (.ref C) "name" = ih none
def qz(C:E8)(n:FF)(H:Hp)(a:E8):Prop:= ∃d,H a=ih (gY (ih .none) C (ih d) a)/\H d=ih (ff d [("name",.str n)])
inductive k4(K:YA)(fl:FF)(vs:List V)(H:Hp)(Q:VK)(E:XK):Prop
 |mk{a C:E8}{k:V}{i:Option i'}(_:vs=[.ref a,k])(_:H a=ih (cH C none a))(_:eV K C)(_:fZ K C i=true)(_:uA H k)(_:Yt K (.ref C) fl=ih none)(_:∀d H',H d=none->d≠a->H' a=ih (cH C (ih d) a)->H' d=ih (ff d [(fl,k)])->D0 a H H'->Q .aO H'):k4 K fl vs H Q E
structure vh(K:YA)(mg:FF->Option i')(B C fI:E8)(oH:Ye):Prop where
 mC:mg "Endless" = ih (.ref C)
 q:fZ K C (ih (.ref fI))=true
 fn:isFn K (.ref fI)=true
 kp:YF K (.ref C)=true
 F:aS K "__init__" "Endless.__init__" pI fI oH
 b:nS K B
 mB:mg "LineError" = ih (.ref B)
 bi:Binds K oH ["self","names"] []
 x:eV K C
 nk:Yt K (.ref C) "names" = ih none
def q7(C:E8)(ns:List FF)(H:Hp)(a:E8):Prop:= ∃d t,H a=ih (gY (ih .none) C (ih d) a)/\H d=ih (ff d [("names",.ref t)])/\H t=ih (.tup (ns.map V.str))
theorem JZ{xs:ac FF}(e:H p=a2 (xs.map V.str))(f:∀x∈xs,Nm x)(a5:xs.length<=300):uA H (.ref p):=by
 have d:∀l:ac FF,(∀x∈l,Nm x)->aac (l.map Vz)=true/\aan (l.map Vz)=false/\ZY 13 (l.map Vz)=true/\aay (l.map Vz)<=9 * l.length/\Vs (l.map Vz)=0:=by
  intro l
  induction l with
  |nil=>intro _;exact⟨rfl,rfl,rfl,aQ _,rfl⟩
  |cons x l g =>
   intro h;obtain⟨h1,h2,a,i,b⟩:=g λy j=>h y (bc _ j);have c:=h x aY;have k:x.cps.size<=8:=c.hi;refine⟨?_,?_,?_,?_,?_⟩
   ·simp only[b4,aac,PyData.showable,h1,abd]
   ·simp only[b4,aan,PyData.hasDict,h2,Fg]
   ·simp only[b4,ZY,PyData.leavesShort,a,IM c,abd]
   ·simp only[b4,aay,aa7,cV];omega
   ·simp only[b4,Vs,Yr,b];rfl
 obtain⟨h1,h2,a,i,b⟩:=d xs f;refine .inr (.inr ⟨p,.tuple (xs.map Vz),rfl,.tup e (lZ _ xs),h1,h2,?_,?_⟩)
 ·simp only[Yr];rw[b];decide
 ·have:=PyData.shown_le_bulk 13 (by decide) (.tuple (xs.map Vz)) a
  simp only[aa7]at this;omega
theorem Cg(K:YA)(h:X.K=K){f:FF}(a:PE X e ta)(b:attributeBase e f X.env (eval e X.env)=eval e X.env):PE X (.Attribute e f pos) (u0 K ta f):=by subst h;exact cp a b
structure oq(R:E8)(S:Wh)(H:Hp)(a8:List (FA×bh)):Prop where
 fr:∀p∈a8,∃lv rn,c1 R S H p.1 p.2 lv rn
 nd:(a8.flatMap λp=>[p.1.x,p.1.lf,p.1.rs]).Nodup
def refs(a8:List (FA×bh)):List V:=a8.map λp=>V.ref p.1.x
def fJ(a:Ask):UR:=.tuple [.str a.1,.str a.2]
theorem p1{a b:Ask}:Yh (fJ a) (fJ b)=decide (a=b):=by
 have:=tf [a.1,a.2] [b.1,b.2];have e:Yh (fJ a) (fJ b)=YN ([a.1,a.2].map Vz) ([b.1,b.2].map Vz):=by first|rfl|simp[fJ,Yh]
 rw[e,this];exact decide_eq_decide.mpr ⟨λh=>by injection h with h1 h2;injection h2 with c _;exact vZ h1 c,λh=>by rw[h]⟩
theorem UA.str{W:aP}(b:g7 W NU){a:Ask}(u:UA W NU a):VH a.1=true/\VH a.2=true:=by
 refine⟨mu (b.nm _ u.1),?_⟩;rcases u.2 with z|z
 ·rw[z];decide +kernel
 ·exact mu (b.lm _ z)
theorem Pd:bj ["self","name"] ["self","name"] (aJ pH):=bB
theorem NL(F:aS K "__init__" "Missing.__init__" pH f fd)(b:nS K B)(n:mg "LineError" = ih (.ref B)):aU P w K mg base aH 1 f fd ["self","name"] (k4 K "name"):=by
 refine F.bI Pd λQa A outer s H vs Q E g h=>?_
 ·obtain @⟨a,C,k,i,rfl,j,c,o,p,r,q⟩:=h
  have t:=g.units;have u:=g.gd;intro X;refine⟨_,aw (eJ (Ad b rfl n (aa (pv 0) (aa (Cu (pS bt (pS (C5 t u (pv 1)) C6))) ai)))) (aB (Cw (pv 0) (pv 1))),?_⟩;refine ah rfl ⟨ah rfl (by decide +kernel),_,rfl,p,λv m=>⟨ah rfl m,λy x=>?_⟩⟩
  refine⟨a,C,none,_,i,rfl,j,c,o,?_⟩;refine aX rfl rfl ⟨a,C,rfl,j,c,r,λd l e=>?_⟩;exact q d _ l e af (by rw[ag e];exact af) (B6 l)
theorem Pe:bj ["self","names"] ["self","names"] (aJ pI):=bB
theorem NM(F:aS K "__init__" "Endless.__init__" pI f fd)(b:nS K B)(n:mg "LineError" = ih (.ref B)):aU P w K mg base aH 1 f fd ["self","names"] (k4 K "names"):=by
 refine F.bI Pe λQa A outer s H vs Q E g h=>?_
 ·obtain @⟨a,C,k,i,rfl,j,c,o,p,r,q⟩:=h
  have t:=g.units;have u:=g.gd;intro X;refine⟨_,aw (eJ (Ad b rfl n (aa (pv 0) (aa (Cu (pS bt (pS (C5 t u (pv 1)) C6))) ai)))) (aB (Cw (pv 0) (pv 1))),?_⟩;refine ah rfl ⟨ah rfl (by decide +kernel),_,rfl,p,λv m=>⟨ah rfl m,λy x=>?_⟩⟩
  refine⟨a,C,none,_,i,rfl,j,c,o,?_⟩;refine aX rfl rfl ⟨a,C,rfl,j,c,r,λd l e=>?_⟩;exact q d _ l e af (by rw[ag e];exact af) (B6 l)
theorem Bv{S:Wh}{a8:ac (FA×bh)}{st c:E8}{Q:VK}(j:iC K mg R)(m:H st=bd (refs a8))(fs:oq R S H a8)(w:a8.length<=1000)(k:H c=none)(q:∀Y,ax H Y->Y c=bd (a8.map λp=>V.ref p.1.ta)->Q (.ref c) Y) :
  hQ (jZ K st) (iu 0) n5 (u0 K (gI 0) "asking") [none] Q c H:=by
 refine fk (xs:=refs a8) (λi ys a H2=>∃g:ad V,a=[g]/\ax H H2/\H2 c=bd ys/\ys=(a8.take i).map λp=>V.ref p.1.ta) ⟨none,rfl,aK k,af,rfl⟩ (λi ys a H2 z=>by obtain⟨_,_,r,s,_⟩:=z;exact ⟨s,ak.of (r _ _ m)⟩) ?_ ?_
 ·rintro i y ys a H2 h ⟨g,rfl,l,h2,rfl⟩
  have d:i<(refs a8).length:=(b3.mp h).1;have f:i<a8.length:=by unfold refs at d;rwa [aE]at d
  obtain rfl:V.ref a8[i].1.x=y:=by unfold refs at h;simpa [f] using h
  have n:a8.take (i+1)=a8.take i++[a8[i]]:=by rw[dM,bz f];rfl
  obtain⟨lv,rn,t⟩:=fs.fr a8[i] (eP f);refine ah rfl ⟨a8[i].1.x,R,_,_,.ref a8[i].1.ta,rfl,l _ _ t.hx,j.cl,j.na,qj,h2,by rw[aE,cK,aW];omega,cw_next d ⟨_,rfl,λb o e=>by rw[ag (ay e k)];exact l _ _ e,af,?_⟩⟩
  rw[n,a'];rfl
 rintro ys a Y ⟨g,rfl,u,h1,rfl⟩;have v:(refs a8).length=a8.length:=by unfold refs;rw[aE]
 rw[v,cB]at h1;exact q Y u h1
theorem Ci{S:Wh}(d:g7 S.W S.NU):∀{a8:ac (FA×bh)},(∀p∈a8,∃lv rn,c1 R S H p.1 p.2 lv rn)->(∀p∈a8,UA S.W S.NU p.2.a)->bL H (a8.map λp=>V.ref p.1.ta) (a8.map λp=>fJ p.2.a)/\Yj (a8.map λp=>fJ p.2.a)=true:=by
 intro a8
 induction a8 with
 |nil=>exact λ_ _=>⟨.nil,rfl⟩
 |cons p l e =>
  intro fr c;obtain⟨f,g⟩:=e (λq b=>fr q (bc _ b)) λq b=>c q (bc _ b);obtain⟨lv,rn,h⟩:=fr p aY;obtain⟨s1,s2⟩:=(c p aY).str d;refine⟨.cons (.tup h.eN (.cons (.str _) (.cons (.str _) .nil))) f,?_⟩;show((VH p.2.a.1&&(VH p.2.a.2&&true))&&Yj _)=true;rw[s1,s2,g];rfl
theorem CU{W:aP}(b:g7 W NU){a:Ask}(u:UA W NU a):(fJ a).canLay0=true/\(fJ a).depth<=60:=by
 obtain⟨s1,s2⟩:=u.str b;exact⟨by show(VH a.1&&(VH a.2&&true))=true;rw[s1,s2];rfl,by simp[fJ,Yr,Vs]⟩
inductive q8(R:E8)(vs:List V)(H:Hp)(Q:VK)(E:XK):Prop
 |mk{S:Wh}{st ta:E8}{a8:List (FA×bh)}{b:Ask}{i:Nat}(_:vs=[.ref st,.ref ta])(_:g7 S.W S.NU)(_:H st=ih (.lst (refs a8)))(_:a8.length<=1000)(_:oq R S H a8)(_:∀p∈a8,UA S.W S.NU p.2.a)(_:H ta=ih (.tup [.str b.1,.str b.2]))(_:UA S.W S.NU b)(_:(a8.map (·.2.a))[i]?=ih b)(_:∀m,m<i->(a8.map (·.2.a))[m]? ≠ ih b)
  (_:∀t H',ax H H'->H t=none->H' t=ih (.tup ((cb ((a8.map (·.2.a)).drop i)).map V.str))->Q (.ref t) H'):q8 R vs H Q E
abbrev vM:List FF:=["standing","again","askings"]
theorem Ej:bj vM ["standing","again"] (aJ kr):=bB
abbrev Pf:VD:=fg (bT (bE kr) 0)
abbrev Pg:VD:=gp (my (bT (bE kr) 1))
theorem DC:b5 vM (aJ kr) ["reckoning"] [none] (cG Pf):=dc
theorem uT:b5 vM (aJ kr) ["name","behind"] [none,none] (cG Pg):=dc
theorem NN(F:aS K "round_from" "round_from" kr f fd)(B:dq mg)(xe:iC K mg R):aU P w K mg base aH 1 f fd ["standing","again"] (q8 R):=by
 refine F.bI Ej λQa A outer s H vs Q E ye h=>?_
 ·obtain @⟨S,st,ta,d,b,i,rfl,Z,T,zb,fs,ze,xc,xf,hi,yc,q⟩:=h
  have yf:=ye.units;intro X;refine⟨_,aw (lP rfl DC Ej.nd (i:=2) rfl rfl (c8 (pv 0)) (λs H fp=>⟨bf 0 DC.nd,et,Cg K rfl (pv 0) rfl⟩))
   (aB (aZ (dy iP rfl B.tuple boot_tuple (aa (d3 rfl uT (c8 (iR l4 (pv 2) (ij (gj hC VT VU (IH yf) (pv 2) (aa (pv 1) ai))) iX)) (λs H fp=>⟨pL (n:=2) K rfl rfl (c2 (bf 0 uT.nd) (c2 (bf 1 uT.nd) gB)),iS (br c' (pv 1) bt (bC _)),pv 0⟩)) ai)))),?_⟩
  refine ah rfl ⟨st,rfl,⟨_,ak.of T⟩,λc zf=>Bv xe T fs zb zf λY I h1=>?_⟩;have zc:=I _ _ xc;obtain⟨xg,yg⟩:=Ci Z (λp J=>let ⟨lv,rn,x⟩:=fs.fr p J;⟨lv,rn,x.keep λb o _ e=>I _ _ e⟩) ze;obtain⟨b1,zg⟩:=CU Z xf;have xa:∀m:Nat,(d.map λp=>fJ p.2.a)[m]?=((d.map (·.2.a))[m]?).map fJ:=λm=>by rw[cL,cL,wX];rfl
  refine⟨_,rfl,_,rfl,.inl ⟨rfl,_,ak.of h1⟩,_,rfl,c,_,_,_,fJ b,_,i,rfl,rfl,h1,xg,.tup zc (.cons (.str _) (.cons (.str _) .nil)),yg,b1,zg,by rw[xa,hi];rfl,by rw[p1];exact cf rfl,λm L xh e=>?_,_,rfl,c,_,rfl,ak.of h1,λu xd=>?_⟩
  ·rw[xa]at e
   obtain⟨a,yh,rfl⟩:=gz.mp e;rw[p1];exact ej λz=>yc m xh (by rw[yh,z])
  rw[nG,<-lH];have M:=I.trans (aK (o:=.lst ((d.drop i).map λp=>V.ref p.1.ta)) xd);have h2:upd Y u (.lst ((d.drop i).map λp=>V.ref p.1.ta)) u=bd ((d.drop i).map λp=>V.ref p.1.ta):=af;generalize upd Y u (.lst ((d.drop i).map λp=>V.ref p.1.ta))=H2 at M h2⊢;refine⟨u,rfl,⟨_,ak.of h2⟩,λya U=>?_⟩;have yd:(d.map (·.2.a)).drop i=(d.drop i).map (·.2.a):=by rw[lH]
  rw[yd]at q;have L:∀p∈d.drop i,p∈d:=λp J=>oY J;have dl:(d.drop i).length<=1000:=by rw[mW];omega
  generalize d.drop i=gs at h2 q L dl;have zh:∀l:ac (FA×bh),(cb (l.map (·.2.a))).length<=l.length:=λl=>by unfold cb;rw[aE];exact en (gR _ _) (by rw[aE];exact aQ _)
  refine fk (xs:=gs.map λp=>V.ref p.1.ta) (λj ys v g=>∃N O:ad V,v=[N,O]/\ax H2 g/\g ya=bd ys/\ys=(cb ((gs.take j).map (·.2.a))).map V.str) ⟨none,none,rfl,aK U,af,rfl⟩ (λj ys v g ab=>by obtain⟨_,_,_,z1,z2,_⟩:=ab;exact ⟨z2,ak.of (z1 _ _ h2)⟩) ?_ ?_
  ·rintro j y ys v g za ⟨N,O,rfl,k,r,rfl⟩
   have D:=(b3.mp za).1;have G:j<gs.length:=by rwa [aE]at D
   obtain rfl:V.ref gs[j].1.ta=y:=by simpa [G] using za
   have zd:gs.take (j+1)=gs.take j++[gs[j]]:=by rw[dM,bz G];rfl
   obtain⟨lv,rn,xi⟩:=fs.fr gs[j] (L _ (eP G));have yb:=k _ _ (M _ _ xi.eN);have C:cb ((gs.take (j+1)).map (·.2.a))=cb ((gs.take j).map (·.2.a))++(if decide (gs[j].2.a.2=("" : FF))=true then [gs[j].2.a.1] else []):=by
    rw[zd];unfold cb;rw[a',gS,a'];congr 1;show((List.filter _ [gs[j].2.a]).map _)=_;rw[m5,r3];split <;> rfl
   refine⟨gs[j].1.ta,_,rfl,aA.of yb,rfl,_,_,rfl,_,_,rfl,rfl,_,rfl,rfl,_,rfl,?_⟩
   by_cases e:gs[j].2.a.2=("" : FF)
   ·rw[cf e,aF rfl]at C
    refine ite_tt (by rw[e];rfl) ?_
    have:=zh (gs.take j);rw[cK]at this;exact ah rfl ⟨r,by rw[aE,aW];omega,cw_next D ⟨_,_,rfl,λb o e=>by rw[ag (ay e U)];exact k _ _ e,af,by rw[C,a'];rfl⟩⟩
   ·rw[ej e,aq cc,eZ]at C
    refine ite_ff (ej λz=>e (by injection z)) ?_
    exact cw_next D ⟨_,_,rfl,k,r,by rw[C]⟩
  rintro ys v g ⟨N,O,rfl,k,r,rfl⟩;rw[aE,cB]at r;refine⟨ya,_,rfl,.inl ⟨ak.of r,λt xb=>?_⟩⟩;have W:=M.trans k;exact q t _ (W.trans (aK xb)) (W.free xb) af
inductive ot(C D R M N:E8)(vs:List V)(H:Hp)(Q:VK)(E:XK):Prop
 |mk{S:Wh}{bg m:Int}{kh kk kq:List (List Key×V)}{ka:List (Ask×Int)}{st ta:E8}{a8:List (FA×bh)}{b:Ask}(_:vs=[.ref S.x,.ref st,.ref ta])(_:g7 S.W S.NU)(_:cj C D S bg m kh kk kq ka H)(_:kh.length<=900000)(_:kk.length<=10000)(_:H st=ih (.lst (refs a8)))(_:a8.length<=300)(_:oq R S H a8)(_:∀p∈a8,UA S.W S.NU p.2.a)(_:H ta=ih (.tup [.str b.1,.str b.2]))(_:UA S.W S.NU b)
  (_:∀i,(∀z,(b,z)∉ ka)->(a8.map (·.2.a))[i]?=ih b->(∀m,m<i->(a8.map (·.2.a))[m]? ≠ ih b) ->∀a H',ax H H'->H a=none->q7 N (cb ((a8.map (·.2.a)).drop i)) H' a->E (.ref N) (ih a) H')
  (_:∀z,(b,z)∈ka->Q .aO H)
  (_:(∀z,(b,z)∉ ka)->S.W.Out b (.miss b.1) ->∀a H',Kp S H H'->H a=none->qz M b.1 H' a->E (.ref M) (ih a) H')
  (_:∀z mR eH m' H',(∀z,(b,z)∉ ka)->(∀p∈a8,p.2.a≠b)->S.W.Out b (.told z)->(∀y o,y≠S.fi->y≠S.dh->y≠S.kn->H y=ih o->H' y=ih o)->cj C D S bg m' eH mR kq (ka++[(b,z)]) H'->eH.length<=kh.length+1->Q .aO H')
  (_:∀fa fr lv rn eH m' H',(∀z,(b,z)∉ ka)->(∀p∈a8,p.2.a≠b)->fr.a=b->bR S.W fr->fr.w∈S.W.line->(∀y o,y≠S.fi->y≠S.dh->y≠S.x->y≠st->H y=ih o->H' y=ih o)->cj C D S (bg+1) m' eH kk kq ka H'->eH.length<=kh.length+1->H' st=ih (.lst (refs (a8++[(fa,fr)])))->c1 R S H' fa fr lv rn->H fa.x=none->H fa.lf=none->H fa.rs=none->fa.x≠fa.lf->fa.x≠fa.rs->Q .aO H'):ot C D R M N vs H Q E
noncomputable abbrev EN:List FF:=["self","standing","asking","name","behind","hit"]
theorem q9:bj EN ["self","standing","asking"] (aJ n0):=bB
def DD(s:Vj):VD:=match s with|.If t _ _ _=>t|_=>.Constant .none 0 ⟨0,0,0,0⟩
abbrev QJ:VD:=DA (DD (bT (bE n0) 1))
theorem Ek:b5 EN (aJ n0) ["reckoning"] [none] (cG QJ):=dc
theorem NO{N xA fR zL:E8}{yA xM:Ye}(F:aS K "enter" "Whole.enter" n0 f fd)(T:hW K mg C)(yM:jT K mg D)(zA:iC K mg R)(O:uS K mg B M fI dI)(U:vh K mg B N xA yA)(zM:bH P w K mg base aH 1 zL xM ["standing","again"] (q8 R) "round_from")(xN:aU P w K mg base aH 2 fL dL ["self","kind","name","behind"] (mh D))(yN:Meth K D "look" fL)(zN:Binds K dL ["self","kind","name","behind"] [])(xO:bH P w K mg base aH 1 fG dG ["entry"] qY "goes_first")(yO:bH P w K mg base aH 1 fS dS ["entry"] qZ "steps_of")
  (zO:Mk K R fR) (xP:aU P w K mg base aH 1 fR dR oG (q0 R)) (yP:Binds K dR oG []):aU P w K mg base (cO P w) 3 f fd ["self","standing","asking"] (ot C D R M N):=by
 have zP:aU P w K mg base aH 1 fI dI ["self","name"] (k4 K "name"):=NL O.F O.b O.mB;have xQ:aU P w K mg base aH 1 xA yA ["self","names"] (k4 K "names"):=NM U.F U.b U.mB;refine F.u7 q9 λQa A outer s H vs Q E xB h=>?_
 ·obtain @⟨S,bg,m,kh,kk,kq,ka,st,ta,ze,b,rfl,ya,h,yW,zW,xl,xX,fs,zt,yl,zd,yQ,zQ,xR,yR,zR⟩:=h
  have yg:a4 2 _:=xB;have zo:a4 1 _:=yg.mono (by decide)
  have yB:=xB.units;have zg:=eF yB;intro X;refine⟨_,aw (bo (fX (i1 zg (pv 2) (cp (pv 0) rfl))) (aB Kf) bG)
   (aw (bo (br (C4 yB) (pv 2) (d3 rfl Ek (c8 (pv 1)) (λs H fp=>⟨bf 0 Ek.nd,et,Cg K rfl (pv 0) rfl⟩)) rfl) (aB (A7 (Cv U.q U.fn U.kp xQ yg U.bi cY rfl U.mC (aa (ba zM zo (aa (pv 1) (aa (pv 2) ai))) ai)))) bG)
   (aw (i0 (pv 2) (ik rfl (c2 (bf 3 q9.nd) (c2 (bf 4 q9.nd) gB))))
   (aw (a3 5 q9.nd (hF (cp (pv 0) rfl) yM.cl yN xN yg zN .nil cY (aa (cp (pv 0) rfl) (aa (pv 3) (aa (pv 4) ai)))))
   (aB (bo (PW.pt (pw_and (br c' (pv 4) bt (bC _)) (pw_and (fX (i1 zg (pv 3) (cp (pv 0) rfl))) (pw_and1 (PW.pt (pw_or (br gD (pv 5) dV (bC _)) (pw_or1 (hJ (hI (ba xO zo (aa (aV bp (pv 5) au) ai)))))))))))
    (aB (gC zg (cp (pv 0) rfl) (pv 2) (b9 (aa bt (aa (d4 zg (cp (pv 0) rfl) (pv 3)) (aa (b9 (aa (pv 3) ai)) ai)))) rfl))
    (aB (bo (br gD (pv 5) dV (bC _)) (aB (A7 (Cv O.q O.fn O.kp zP yg O.bi cY rfl O.mC (aa (pv 3) ai))))
     (aB (bo (br c' (aV bp (aV bp (pv 5) au) au) bt (bC _))
      (aB (gC zg (cp (pv 0) rfl) (pv 2) (b9 (aa (aV bp (pv 5) au) (aa (aV bp (aV bp (pv 5) au) au) (aa (b9 (aa (pv 3) ai)) ai)))) rfl))
      (aw (ni (pv 0) au qa) (aB (eJ (gj hC m3 m4 jx (pv 1) (aa (tF zO xP yg rfl zA.oF yP .nil cY (aa (pv 2) (aa (aV bp (pv 5) au) (aa (ba yO zo (aa (aV bp (pv 5) au) ai)) ai)))) ai)))))))))))))),?_⟩
  have xF:H ta=a2 ((bZ b).map kV):=yl;refine aX rfl rfl ⟨S.x,C,S.dx,_,.ref S.kn,rfl,h.hx,T.cl,T.nn,iW,S.kn,_,rfl,b7.t (k:=bZ b) h.hk xF,_,rfl,?_⟩;rcases h.kv.val b with⟨e1,xf⟩|⟨v,z,yY,y,ns,zY,e1,e3,_⟩
  ·rw[e1]
   refine aX rfl rfl ⟨st,rfl,⟨_,ak.of xl⟩,λc xS=>Bv zA xl fs (by omega) xS λY Z h1=>?_⟩
   obtain⟨zB,yS⟩:=Ci ya (λp za=>let ⟨lv,rn,x⟩:=fs.fr p za;⟨lv,rn,x.keep λb o _ e=>Z _ _ e⟩) zt;obtain⟨b1,zS⟩:=CU ya zd;refine⟨fJ b,_,.tup (Z _ _ yl) (.cons (.str _) (.cons (.str _) .nil)),.inl (.lst h1 zB),b1,yS,zS,_,rfl,?_⟩;rw[aq cc];have zD:((ze.map λp=>fJ p.2.a).any λy=>Yh y (fJ b))=decide (b∈ze.map (·.2.a)):=by
    rw[lx,lC,decide_eq_true_iff,a6]
    constructor
    ·rintro⟨y,yi,e⟩
     obtain⟨p,za,rfl⟩:=a6.mp yi;rw[p1]at e;exact⟨p,za,dQ e⟩
    ·rintro⟨p,za,e⟩
     exact⟨_,a6.mpr ⟨p,za,rfl⟩,by rw[p1];exact cf e⟩
   rw[zD];refine bY (λxh=>?_) (λxh=>?_)
   ·have xh:=dQ xh
    obtain⟨xu,yu⟩:=tj xh;generalize (ze.map (·.2.a)).idxOf b=i at xu yu;refine aX rfl rfl (q8.mk (i:=i) rfl ya (Z _ _ xl) (by omega) ⟨λp za=>let ⟨lv,rn,x⟩:=fs.fr p za;⟨lv,rn,x.keep λb o _ e=>Z _ _ e⟩,fs.nd⟩ zt (Z _ _ yl) zd xu yu λt H2 zu yX yc=>⟨by show 1<=100;decide,λa zc=>k4.mk rfl af U.x U.q (JZ (aK zc _ _ yc) ?_ ?_) U.nk λd xb xT xp I yh yp=>⟨rfl,a,N,ih d,_,rfl,I,λyT xv=>by cases xv;exact⟨_,yh⟩,U.x,U.q,(Z.trans zu).free zc,?_⟩⟩)
    ·intro x xd
     unfold cb at xd;obtain⟨y,yi,rfl⟩:=a6.mp xd;obtain⟨p,za,rfl⟩:=a6.mp (oY (fj.mp yi).1);exact ya.nm _ (zt p za).1
    ·unfold cb;rw[aE];have h1:=gR (λa:Ask=>decide (a.2=("" : FF))) ((ze.map (·.2.a)).drop i);rw[mW,aE]at h1;omega
    ·have xC:ax H2 (upd xb a (gY (ih .none) N (ih d) a)):=λb o e=>by
      have xe:b≠a:=ay e zc;rw[ag xe];exact yp b o (by rw[ag xe];exact e) xe
     exact yQ i xf xu yu a _ ((Z.trans zu).trans xC) ((Z.trans zu).free zc) ⟨d,t,af,by rw[ag xp];exact yh,xC _ _ yc⟩
   have zx:∀p∈ze,p.2.a≠b:=λp za e=>xh (cf (a6.mpr ⟨p,za,e⟩));have yk:=Z _ _ yl;have I:=h.same Z;have zn:=Z _ _ xl;clear h1 zB;refine ah rfl ⟨ta,_,rfl,aA.of yk,rfl,_,_,rfl,_,_,rfl,rfl,?_⟩;refine ah rfl ⟨S.x,C,S.dx,_,.ref S.fi,rfl,I.hx,T.cl,T.nf,tm,S.fi,S.fx,_,rfl,I.fi.hx,uR (by decide +kernel) (by decide +kernel) (by decide +kernel) (by decide +kernel),_,rfl,S.x,C,S.dx,_,.str S.kd,rfl,I.hx,T.cl,T.nk,t4,_,rfl,_,rfl,mh.mk rfl I.fi I.ln (by rw[h.el];have:=ya.ln;omega) (by rw[h.el];exact zd.2) I.mQ (by omega) λv zp yv H2 zl yF zF yC J=>?_⟩
   have yf:=I.looked zl yF zF;have kp:Kp S H H2:=λb o n1 yd z=>zl b o n1 yd (Z _ _ z);rw[h.el]at J;have J:eL H2 v (S.W.look b):=J;have xE:=zl _ _ (ar yk I.fi.hx) (ar yk I.fi.hh) yk
   have yE:=zl _ _ (ar zn I.fi.hx) (ar zn I.fi.hh) zn
   have xq:∀y,H2 y=none->H y=none:=λy e=>by
    cases e0:H y with
    |none=>rfl
    |some u =>
     by_cases z1:y=S.fi
     ·rw[z1,yf.fi.hx]at e;cases e
     ·by_cases z2:y=S.dh
      ·rw[z2,yf.fi.hh]at e;cases e
      ·rw[kp y u z1 z2 e0]at e;cases e
   have xy:∀wh d,S.W.look b=ih (wh,d)->Ent d:=λwh d e=>(kF ya.bk wh d e).2;have yy:∀z j tt ns,ax H2 j->S.W.Out b (.told z)->(∃y,j tt=a2 [y,.int z,.ref ns])->j ns=a2 [.str b.1]->Q .aO (upd j S.kn (.dT (putK kk (bZ b) (.ref tt)))):=λz j tt ns r zm ⟨y,xG⟩ yG=>by
    have g:=yf.same r;rw[iU _ (g.kv.no xf)];have up:∀{u:HO} x o,x≠S.kn->j x=ih o->upd j S.kn u x=ih o:=λx o n e=>by rw[ag n];exact e
    have zi:∀{u:HO} x xs,j x=a2 xs->upd j S.kn u x=a2 xs:=λx xs e=>up _ _ (ar e g.hk) e
    refine yR z _ zp yv _ xf zx zm (λx o n1 yd zv e=>up _ _ zv (r _ _ (kp x o n1 yd e))) (g.DB xf zm zd (λx o n1 yd e=>up _ _ n1 e) af (up _ _ (aT h.n1.2.2.2.2) g.hq) (FG h.ql) ⟨y,ns,[b.1],zi _ _ xG,zi _ _ yG,by simp,λy yi=>by rw[bN.mp yi];exact zd.1⟩) yC
   refine JY (b:=decide (V.str b.2=V.str "")&&((bb (c4 S.W.own) (n' b.1)).isSome&&S.W.eX b)) (.and (λR k=>ah rfl ⟨rfl,_,rfl,k _ λ_ _ e=>e⟩) λ_ j r=>.and (λR k=>aX rfl rfl ⟨S.x,C,S.dx,_,.ref S.ow,rfl,r _ _ yf.hx,T.cl,T.no,Dg,S.ow,_,rfl,b7.k (k:=n' b.1) (r _ _ yf.ho),_,rfl,k _ λ_ _ e=>e⟩) λ_ xb G R k=>?_) λj r=>?_
   ·have G:=r.trans G
    cases L:S.W.look b with
    |none =>
     rw[L]at J;rw[show S.W.eX b=true by unfold aP.eX;rw[L]]at k
     have J:v=V.aO:=J;subst J;exact ah rfl ⟨rfl,_,rfl,k _ λ_ _ e=>e⟩
    |some p =>
     obtain⟨y,d⟩:=p;rw[L]at J;rw[show S.W.eX b = !jI d by unfold aP.eX;rw[L]]at k
     obtain⟨t,u,rfl,yc,xw⟩:=J;refine ah rfl ⟨rfl,_,rfl,_,rfl,t,_,1,_,rfl,rfl,aA.of (G _ _ yc),cT,qY.mk rfl (xy _ _ L) (xw.same G) λxj zb=>ah rfl (k _ zb)⟩
   have g:=yf.same r;have xo:=r _ _ xE
   by_cases yw:b.2 = "" /\ (S.W.own.lookup b.1).isSome=true/\S.W.eX b=true
   ·obtain⟨zy,zG,xz⟩:=yw
    obtain⟨z,xn⟩:=rP.mp zG;have zC:bb (c4 S.W.own) (n' b.1)=ih (.int z):=by rw[nO,xn];rfl
    have yj:S.W.cU b=ih z:=by unfold aP.cU;rw[aF ⟨zy,xz⟩,xn]
    rw[aF (by rw[zC,xz,zy];rfl)]
    refine ah rfl ⟨S.x,C,S.dx,_,.ref S.ow,rfl,g.hx,T.cl,T.no,Dg,_,rfl,S.ow,.int z,rfl,by rw[<-zC];exact b7.k (k:=n' b.1) g.ho,_,rfl,eM,λl yq=>⟨g6,λyb zh=>?_⟩⟩
    have G:=(aK (o:=.tup [V.str b.1]) yq).trans (aK (o:=.tup [V.str "",.int z,.ref l]) zh);have zf:upd (upd j l (.tup [V.str b.1])) yb (.tup [V.str "",.int z,.ref l]) yb=a2 [V.str "",.int z,.ref l]:=af;have xg:upd (upd j l (.tup [V.str b.1])) yb (.tup [V.str "",.int z,.ref l]) l=a2 [V.str b.1]:=by rw[ag (ay af zh)];exact af
    generalize upd (upd j l (.tup [V.str b.1])) yb (.tup [V.str "",.int z,.ref l])=xb at G zf xg⊢;refine ah rfl ⟨S.x,C,S.dx,_,.ref S.kn,rfl,G _ _ g.hx,T.cl,T.nn,iW,_,rfl,S.kn,_,rfl,eW.t (k:=bZ b) (G _ _ g.hk) (G _ _ xo) (by rw[aW];omega),?_⟩
    exact yy z xb yb l (r.trans G) (Out.own yj) ⟨_,zf⟩ xg
   have yj:S.W.cU b=none:=by
    unfold aP.cU
    by_cases yn:b.2 = "" /\ S.W.eX b=true
    ·rw[aF yn]
     cases e:S.W.own.lookup b.1 with
     |none=>rfl
     |some z=>exact absurd ⟨yn.1,by rw[e];rfl,yn.2⟩ yw
    ·rw[aq yn]
   rw[aq (λz=>yw (by
    rw[gP,gP,nO,rX]at z;refine⟨?_,z.2.1,z.2.2⟩;have e:=dQ z.1;injection e))]
   cases L:S.W.look b with
   |none =>
    rw[L]at J;have J:v=V.aO:=J;subst J;refine ah rfl ⟨rfl,_,rfl,_,rfl,by show 1<=100;decide,λa zc=>k4.mk rfl af O.x O.q (.inl (ah rfl (by have:=(ya.nm _ zd.1).hi;omega))) O.nk λd xb xT xp I yh yp=>⟨rfl,a,M,ih d,_,rfl,I,λyT xv=>by cases xv;exact⟨_,yh⟩,O.x,O.q,xq _ (r.free zc),?_⟩⟩
    refine xR xf (Out.none yj L) a _ (λy u n1 yd e=>?_) (xq _ (r.free zc)) ⟨d,af,by rw[ag xp];exact yh⟩
    have e3:=r _ _ (kp y u n1 yd e);have xe:y≠a:=ay e3 zc;rw[ag xe];exact yp y u (by rw[ag xe];exact e3) xe
   |some p =>
    obtain⟨y,d⟩:=p;rw[L]at J;obtain⟨t,u,rfl,yc,xw⟩:=J;have zj:=xy _ _ L;have xi:=r _ _ yc;have zq:=xw.same r;obtain⟨xD,xs,rfl,xH⟩:=t6 zj zq;refine ah rfl ⟨rfl,_,rfl,_,rfl,t,_,1,_,rfl,rfl,aA.of xi,cT,xD,_,0,_,rfl,rfl,aA.of xH,b',rfl,_,rfl,?_⟩;refine bY (λe=>?_) (λe=>?_)
    ·have e:a9 d = "plain" :=by
      have:=dQ e;injection this
     cases zj with
     |ahead x n=>exact absurd e (by show ¬ ((("ahead" : FF)) = "plain");decide +kernel)
     |behind ds=>exact absurd e (by show ¬ ((("behind" : FF)) = "plain");decide +kernel)
     |jS ds=>exact absurd e (by show ¬ ((("shut" : FF)) = "plain");decide +kernel)
     |plain n xZ =>
      obtain⟨zX,yZ,yH,zE,zH⟩:=two1 zq;cases yH
      obtain rfl:=zH.iA;have zm:S.W.Out b (.told n):=by
       have:=(bR.new (W:=S.W) yj L).up 0 (.told n) (by show ih (Rs.told (stepT 0 (.tuple [.str "add",.int n])))=_;rw[show stepT 0 (.tuple [.str "add",.int n])=n from(by show 0+n=n;omega)])
       exact this
      refine ah rfl ⟨t,_,0,_,rfl,rfl,aA.of xi,b',_,rfl,t,_,1,_,rfl,rfl,aA.of xi,cT,xD,_,1,_,rfl,rfl,aA.of zE,cT,_,rfl,eM,λl yq=>⟨g6,λyb zh=>?_⟩⟩;have G:=(aK (o:=.tup [V.str b.1]) yq).trans (aK (o:=.tup [V.str y,.int n,.ref l]) zh);have zf:upd (upd j l (.tup [V.str b.1])) yb (.tup [V.str y,.int n,.ref l]) yb=a2 [V.str y,.int n,.ref l]:=af;have xg:upd (upd j l (.tup [V.str b.1])) yb (.tup [V.str y,.int n,.ref l]) l=a2 [V.str b.1]:=by rw[ag (ay af zh)];exact af
      generalize upd (upd j l (.tup [V.str b.1])) yb (.tup [V.str y,.int n,.ref l])=xb at G zf xg⊢;refine ah rfl ⟨S.x,C,S.dx,_,.ref S.kn,rfl,G _ _ g.hx,T.cl,T.nn,iW,_,rfl,S.kn,_,rfl,eW.t (k:=bZ b) (G _ _ g.hk) (G _ _ xo) (by rw[aW];omega),?_⟩
      exact yy n xb yb l (r.trans G) zm ⟨_,zf⟩ xg
    ·have e:a9 d ≠ "plain" :=λz=>e (by rw[z];exact cf rfl)
     have zw:=r _ _ yE;refine ah rfl ⟨S.x,C,S.dx,_,.int bg,rfl,g.hx,T.cl,T.nb,rfl,_,_,rfl,rfl,S.dx,_,g.hx,by show 6<1000;decide,?_⟩
     rw[show b6 "begun" (.int (bg+1)) (fW S.fi S.ow S.kp S.kn S.kd bg)=fW S.fi S.ow S.kp S.kn S.kd (bg+1) from rfl];have xa:∀x o,x≠S.x->j x=ih o->upd j S.x (.ins C S.dx (fW S.fi S.ow S.kp S.kn S.kd (bg+1))) x=ih o:=λx o n e=>by rw[ag n];exact e
     have xm:upd j S.x (.ins C S.dx (fW S.fi S.ow S.kp S.kn S.kd (bg+1))) S.x=ih (.ins C S.dx (fW S.fi S.ow S.kp S.kn S.kd (bg+1))):=af;generalize upd j S.x (.ins C S.dx (fW S.fi S.ow S.kp S.kn S.kd (bg+1)))=xb at xa xm⊢;have zT:∀{x:E8}{xs:ac V},j x=a2 xs->x≠S.x:=λe=>ar e g.hx
     have xc:∀x xs,j x=a2 xs->xb x=a2 xs:=λx xs e=>xa _ _ (zT e) e;have yD:cj C D S (bg+1) yv zp kk kq ka xb:=by
      obtain⟨xU,yU,zU⟩:=g.ln;exact⟨h.n3,xm,⟨xa _ _ (aT h.n3) g.fi.hx,xa _ _ (ar g.fi.hl g.hx) g.fi.hl,xa _ _ (ar g.fi.he g.hx) g.fi.he,xa _ _ (ar g.fi.hh g.hx) g.fi.hh,g.fi.du.keep xc ya.bk.ent,ya.bk,g.fi.nn⟩,xa _ _ (ar g.ho g.hx) g.ho,xa _ _ (ar g.hk g.hx) g.hk,xa _ _ (ar g.hq g.hx) g.hq,h.n1,⟨xU,yU,xc _ _ zU⟩,h.el,g.mQ.keep ya.bk xc,g.kv.keep xc,h.ok,h.nd,h.ei,h.ql⟩
     have yo:=xa _ _ (ar zw g.hx) zw
     refine ah rfl ⟨.inl ⟨rfl,_,ak.of yo⟩,_,rfl,_,rfl,t,_,0,_,rfl,rfl,aA.of (xc _ _ xi),b',_,rfl,t,_,1,_,rfl,rfl,aA.of (xc _ _ xi),cT,qZ.mk rfl zj (zj.keep zq xc) e λzZ us xj zb xI yI=>?_⟩;intro x dx xd zI ne;have xJ:upd xj dx (.own x) x=none:=by rw[ag (aT ne)];exact xd
     have ye:=(aK (o:=.own x) zI).trans (aK (o:=.ins R dx []) xJ);have ym:upd (upd xj dx (.own x)) x (.ins R dx []) x=ih (.ins R dx []):=af;generalize upd (upd xj dx (.own x)) x (.ins R dx [])=x0 at ye ym⊢;have xx:=zb _ _ (xc _ _ xo);refine q0.mk rfl ym (ye _ _ xx) (ye _ _ xI) λlf rs xk xr yr yJ xV yz zJ xK=>⟨rfl,?_⟩;have zr:ax xj xk:=λc o e=>xV _ _ (ay e xd) (ye _ _ e);have xt:=zb.trans zr;have zk:=xt _ _ yo;refine⟨st,refs ze,_,rfl,rfl,zk,by unfold refs;rw[aE,aW];omega,?_⟩
     have yt:∀c,xb c=none->H c=none:=λc e=>xq _ (r.free (by
      cases e0:j c with
      |none=>rfl
      |some u =>
       by_cases z:c=S.x
       ·rw[z,xm]at e;cases e
       ·rw[xa _ _ z e0]at e;cases e))
     have up:∀{u:HO} c o,c≠st->xk c=ih o->upd xk st u c=ih o:=λc o n e=>by rw[ag n];exact e
     have zi:∀{u:HO} c xs,xk c=a2 xs->upd xk st u c=a2 xs:=λc xs e=>up _ _ (ar e zk) e
     have yx:=ye _ _ (zb _ _ yo);have yK:lf≠st:=aT (ay yx xr);have zK:rs≠st:=aT (ay yx yr);have xL:x≠lf:=ay ym xr;have yL:x≠rs:=ay ym yr;obtain⟨zz,xY⟩:=tq zj;refine zR ⟨x,dx,ta,lf,rs⟩ ⟨b,y,cg d,0⟩ us [b.1] zp yv _ xf zx rfl (bR.new yj L) (l9 L) (λc o n1 yd zv yV e=>up _ _ yV (xt _ _ (xa _ _ zv (r _ _ (kp c o n1 yd e))))) ((yD.same xt).write λc o zV _ e=>up _ _ (λz=>by rw[z,zk]at e;cases e;exact zV _ rfl) e) yC (by rw[af];unfold refs;rw[a'];rfl) ⟨up _ _ (ar yz zk) yz,zi _ _ (zr _ _ xx),up _ _ yK zJ,ic (λc xs e=>zi _ _ (zr _ _ e)) yI zz,zz,λs xW yc=>ya.ask _ (km (jG L).2) s xW yc,up _ _ zK xK,λz xn=>by rw[bN.mp xn];exact zd.1,by show 1+(cg d).length * 20<=99;omega,yJ,aT (ay (zb _ _ xm) xd),aT (ay (zb _ _ yD.fi.hx) xd)⟩ (yt _ (zb.free xd)) (yt _ (zb.free (ye.free xr))) (yt _ (zb.free (ye.free yr))) xL yL
  ·rw[e1]
   exact zQ z e3
theorem mv{α:Type} [DecidableEq α]:∀{a b:ac α},a.Nodup->(∀x∈a,x∈b)->a.length<=b.length
 |[],_,_,_=>bD _
 |x::a,b,f,h=>by
  obtain⟨n1,g⟩:=d8.mp f;have c:=h x aY;have:=mv (b:=b.erase x) g λy d=>(Ft (λe=>n1 (by rw[<-e];exact d))).mpr (h y (bc _ d))
  rw[Fq c]at this;have:=Fs c;rw[cV];omega
def fh(W:aP)(NU:List FF):List Ask:=NU.flatMap λn=>(("" : FF)::W.line).map λk=>(n,k)
theorem Cj{W:aP}{a:Ask}(h:UA W NU a):a∈fh W NU:=by
 unfold fh;refine oZ.mpr ⟨a.1,h.1,a6.mpr ⟨a.2,?_,rfl⟩⟩;rcases h.2 with z|z
 ·rw[z];exact aY
 ·exact bc _ z
theorem J0{W:aP}(a:g7 W NU):(fh W NU).length<=200:=by
 have:∀l:ac FF,(l.flatMap λn=>(("" : FF)::W.line).map λk=>((n,k):Ask)).length=l.length * (W.line.length+1):=by
  intro l
  induction l with
  |nil=>simp
  |cons x l b=>rw[F5,bX,b,aE,cV,cV,r5 (l.length) 1];omega
 unfold fh;rw[this];have h1:=a.a5;have h2:=a.ln
 calc NU.length * (W.line.length+1)<=20 * 10:=w0 h1 (by omega)
  _=200:=rfl
def gN(U k s:Nat):Nat:=(U - k) * (U+2)+(U - s)
theorem J'{k s:Nat}(h:s+1<=U):gN U k (s+1)<gN U k s:=by unfold gN;omega
theorem sP{k s s':Nat}(h:k+1<=U):gN U (k+1) s'<gN U k s:=by
 unfold gN;have e:U - k=(U - (k+1))+1:=by omega
 rw[e,r5,abO];generalize (U - (k+1)) * (U+2)=x;omega
theorem c1.fr{S:Wh}{ka:ac (Ask×Int)}{A:FA}{f:bh}{g:ac V}{st:E8}(h:c1 R S H A f lv rn)(w:cj C D S bg m kh kk kq ka H)(a:H st=bd g)(n:A.lf≠st/\A.rs≠st)(k:∀b o,b≠S.fi->b≠S.dh->b≠S.kn->b≠S.kp->b≠S.x->b≠st->H b=ih o->H' b=ih o):c1 R S H' A f lv rn:=by
 have c:∀b xs,b≠st->H b=bd xs->H' b=bd xs:=λb xs n e=>k _ _ (ar e w.fi.hx) (ar e w.fi.hh) (ar e w.hk) (ar e w.hq) (ar e w.hx) n e
 have d:∀b xs,H b=a2 xs->H' b=a2 xs:=λb xs e=>k _ _ (ar e w.fi.hx) (ar e w.fi.hh) (ar e w.hk) (ar e w.hq) (ar e w.hx) (ar e a) e
 exact⟨k _ _ h.nf (ar h.hx w.fi.hh) (ar h.hx w.hk) (ar h.hx w.hq) h.nx (ar h.hx a) h.hx,d _ _ h.eN,c _ _ n.1 h.hl,ic d h.rl h.st,h.st,h.an,c _ _ n.2 h.hr,h.rm,h.a5,h.h7,h.nx,h.nf⟩
theorem c1.go{S:Wh}{ka:ac (Ask×Int)}{A a:FA}{f:bh}(h:c1 R S H A f lv rn)(w:cj C D S bg m kh kk kq ka H)(d:∃c dx fs,H a.x=ih (.ins c dx fs))(g:∃xs,H a.lf=bd xs)(i:∃xs,H a.rs=bd xs)(n:A.x≠a.x/\A.lf≠a.lf/\A.lf≠a.rs/\A.rs≠a.lf/\A.rs≠a.rs)(k:Kr S a H H'):c1 R S H' A f lv rn:=by
 obtain⟨c,dx,fs,d⟩:=d;obtain⟨p,g⟩:=g;obtain⟨q,i⟩:=i;have j:∀b xs,H b=a2 xs->H' b=a2 xs:=λb xs e=>k _ _ (ar e w.fi.hx) (ar e w.fi.hh) (ar e d) (ar e g) (ar e i) e
 have l:∀b xs,b≠a.lf->b≠a.rs->H b=bd xs->H' b=bd xs:=λb xs n1 o e=>k _ _ (ar e w.fi.hx) (ar e w.fi.hh) (ar e d) n1 o e
 exact⟨k _ _ h.nf (ar h.hx w.fi.hh) n.1 (ar h.hx g) (ar h.hx i) h.hx,j _ _ h.eN,l _ _ n.2.1 n.2.2.1 h.hl,ic j h.rl h.st,h.st,h.an,l _ _ n.2.2.2.1 n.2.2.2.2 h.hr,h.rm,h.a5,h.h7,h.nx,h.nf⟩
abbrev adr(l:List (FA×bh)):List E8:=l.flatMap λp=>[p.1.x,p.1.lf,p.1.rs]
theorem IY{l:ac (FA×bh)}{p q:FA×bh}(b:(adr (l++[q])).Nodup)(d:p∈l):p.1.x≠q.1.x/\p.1.lf≠q.1.lf/\p.1.lf≠q.1.rs/\p.1.rs≠q.1.lf/\p.1.rs≠q.1.rs:=by
 unfold adr at b;rw[o1]at b;have a:=(dw.mp b).2.2;have m:∀y,y=p.1.x\/y=p.1.lf\/y=p.1.rs->y∈l.flatMap λp=>[p.1.x,p.1.lf,p.1.rs]:=λy c=>oZ.mpr ⟨p,d,by simpa using c⟩
 have n:∀y,y=q.1.x\/y=q.1.lf\/y=q.1.rs->y ∈ [q].flatMap λp=>[p.1.x,p.1.lf,p.1.rs]:=λy c=>oZ.mpr ⟨q,aY,by simpa using c⟩
 exact⟨a _ (m _ (.inl rfl)) _ (n _ (.inl rfl)),a _ (m _ (.inr (.inl rfl))) _ (n _ (.inr (.inl rfl))),a _ (m _ (.inr (.inl rfl))) _ (n _ (.inr (.inr rfl))),a _ (m _ (.inr (.inr rfl))) _ (n _ (.inr (.inl rfl))),a _ (m _ (.inr (.inr rfl))) _ (n _ (.inr (.inr rfl)))⟩
theorem chain_snoc{W:aP}{b:Ask}{g:bh}:∀{l:ac bh},Chain W l g.a->gG W g=ih b->Chain W (l++[g]) b
 |[],_,h=>h
 |[f],c,h=>⟨c,h⟩
 |f::d::l,c,h=>⟨c.1,chain_snoc (l:=d::l) c.2 h⟩
theorem chain_last{W:aP}{b:Ask}{g:bh}:∀{l:ac bh},Chain W (l++[g]) b->Chain W l g.a
 |[],_=>trivial
 |[f],c=>c.1
 |f::d::l,c=>⟨c.1,chain_last (l:=d::l) c.2⟩
def KT(S:Wh)(H H':Hp):Prop:= ∀b o,b≠S.fi->b≠S.dh->b≠S.kn->b≠S.kp->b≠S.x->H b=ih o->H' b=ih o
inductive q'(C D R M N:E8)(vs:List V)(H:Hp)(Q:VK)(E:XK):Prop
 |mk{S:Wh}{bg m:Int}{kh kq:List (List Key×V)}{ta:E8}{a:Ask}(_:vs=[.ref S.x,.ref ta])(_:g7 S.W S.NU)(_:cj C D S bg m kh [] kq [] H)(_:kh.length<=1000)(_:H ta=ih (.tup [.str a.1,.str a.2]))(_:UA S.W S.NU a)
  (_:∀ns,eS S.W a ns ->∀e H',KT S H H'->H e=none->q7 N ns H' e->E (.ref N) (ih e) H')
  (_:∀n,S.W.Out a (.miss n) ->∀e H',KT S H H'->H e=none->qz M n H' e->E (.ref M) (ih e) H')
  (_:∀z,S.W.Out a (.told z) ->∀t y u QK mR H',KT S H H'->H' S.x=ih (.ins C S.dx (fW S.fi S.ow S.kp S.kn S.kd QK))->H' S.kn=ih (.dT mR)->bb mR (bZ a)=ih (.ref t)->H' t=ih (.tup [y,.int z,u])->Q (.ref t) H'):q' C D R M N vs H Q E
structure TI(C D R:E8)(S:Wh)(H0:Hp)(a:Ask)(ta st:E8)(U:Nat)(mm:Nat)(H:Hp)(a8:List (FA×bh))(bg m:Int)(kh kk kq:List (List Key×V))(ka:List (Ask×Int)):Prop where
 w:cj C D S bg m kh kk kq ka H
 em:mm=gN U ka.length a8.length
 lh:kh.length+8 * mm<=400000
 EO:H st=ih (.lst (refs a8))
 fs:oq R S H a8
 ua:∀p∈a8,UA S.W S.NU p.2.a
 ok:∀p∈a8,bR S.W p.2
 wl:∀p∈a8,p.2.w∈S.W.line
 nk:∀p∈a8,∀z,(p.2.a,z)∉ ka
 nd:(a8.map (·.2.a)).Nodup
 ap:∀p∈a8,(p.1.lf≠st/\p.1.rs≠st)/\H0 p.1.x=none/\H0 p.1.lf=none/\H0 p.1.rs=none
 ch:(a8=[] /\∃z,(a,z)∈ka) \/∃l top,a8=l++[top]/\Chain S.W (l.map (·.2)) top.2.a/\(a8.head?.map (·.2.a))=ih a
 eN:H ta=ih (.tup [.str a.1,.str a.2])
 kt:KT S H0 H
theorem TI.a5{S:Wh}{a:Ask}{ta st:E8}{d:Nat}{a8:ac (FA×bh)}{ka:ac (Ask×Int)}(j:g7 S.W S.NU)(h:TI C D R S H0 a ta st U d H a8 bg m kh kk kq ka):ka.length+a8.length<=(fh S.W S.NU).length/\kk.length=ka.length:=by
 refine⟨?_,cN h.w.kv⟩;have f:(ka.map (·.1)++a8.map (·.2.a)).Nodup:=dw.mpr ⟨h.w.nd,h.nd,λx c y g e=>by
  obtain⟨p,b,rfl⟩:=a6.mp c;obtain⟨q,i,rfl⟩:=a6.mp g;exact h.nk q i p.2 (by rw[<-e];exact b)⟩
 have:=mv f λx c=>Cj (W:=S.W) (NU:=S.NU) (by
  rcases bK.mp c with z|z
  ·obtain⟨p,b,rfl⟩:=a6.mp z;exact h.w.ei p b
  ·obtain⟨p,b,rfl⟩:=a6.mp z;exact h.ua p b)
 rw[bX,aE,aE]at this;exact this
abbrev QL:List FF:=["self","first","standing","needed"]
theorem vi:bj QL ["self","first"] (aJ uM):=bB
theorem NP{N:E8}(F:aS K "tell" "Whole.tell" uM f fd)(T:hW K mg C)(xC:aU P w K mg base (cO P w) 3 fE dE ["self","standing","asking"] (ot C D R M N))(yC:Meth K C "enter" fE)(zC:Binds K dE ["self","standing","asking"] [])
  (yP:aU P w K mg base aH 4 fG dG ["self","reckoning"] (q5 C D R)) (zP:Meth K C "go_on" fG) (xQ:Binds K dG ["self","reckoning"] []) (yQ:aU P w K mg base aH 1 fS dS ["self","reckoning"] (q6 C D R)) (zQ:Meth K C "settle" fS) (xR:Binds K dS ["self","reckoning"] []):aU P w K mg base (cO P w) 5 f fd ["self","first"] (q' C D R M N):=by
 refine F.u7 vi λQa A outer s H vs Q E xD h=>?_
 ·obtain @⟨S,bg,m,kh,kq,ta,a,rfl,xi,h,yX,zG,yD,yR,qn,q⟩:=h
  have yq:a4 4 _:=xD;have xy:a4 3 _:=yq.mono (by decide)
  have xH:a4 1 _:=yq.mono (by decide)
  have yH:=eF xD.units;intro X;refine⟨_,aw (a3 2 vi.nd (eu ai))
   (aw (eJ (hF (pv 0) T.cl yC xC xy zC .nil qp (aa (pv 2) (aa (pv 1) ai))))
   (aw (nz acN (kz (pv 2) (λ_=>rfl))
    (aw (a3 3 vi.nd (hF (pv 0) T.cl zP yP yq xQ .nil cY (aa (aV dA (pv 2) (uw ub au)) ai)))
    (aB (bo (br gD (pv 3) dV (bC _)) (aB (eJ (hF (pv 0) T.cl zQ yQ xH xR .nil cY (aa (LX hC F3 F4 LY (pv 2)) ai))))
     (aB (eJ (hF (pv 0) T.cl yC xC xy zC .nil qp (aa (pv 2) (aa (pv 3) ai)))))))))
   (aB (aZ (d4 yH (cp (pv 0) rfl) (pv 1)))))),?_⟩
  refine⟨bD _,λst zl=>?_⟩;have xd:=aK (o:=.lst []) zl;have Z:=h.same xd;have zd:upd H st (.lst []) st=bd []:=af;have xa:=xd _ _ zG;generalize upd H st (.lst [])=Y at xd Z zd xa⊢;have zX:=J0 xi;have zw:∀k s,8 * gN (fh S.W S.NU).length k s<=8 * (200 * 202+200):=λk s=>by
   unfold gN;have:((fh S.W S.NU).length - k) * ((fh S.W S.NU).length+2)<=200 * 202:=w0 (by omega) (by omega)
   omega
  refine Pc (hV:=λzD=>∃ze a8 bg m kh kk kq ka,TI C D R S H a ta st (fh S.W S.NU).length ze zD a8 bg m kh kk kq ka) (λxx=>ah rfl ⟨S.x,S.dx,_,rfl,Z.hx,rfl,_,rfl,_,rfl,ot.mk (a8:=[]) (b:=a) rfl xi Z (by omega) (bD _) zd (bD _) ⟨λp c=>(by cases c),fc⟩ (λp c=>(by cases c)) xa yD (λi _ e=>(by simp at e)) (λz za=>(by cases za)) (λ_ zk e H' k U zu=>qn _ zk e H' (λb o n1 j _ _ _ z=>k _ _ n1 j (xd _ _ z)) (xd.free U) zu) (λz zj zf xh H' _ _ zk k xv lk=>xx H' ?_) (λO fr lv rn zf xh H' _ _ xE zR xS k xv lk zH xb n1 j B L I=>xx H' ?_)⟩) ?_
  ·refine⟨_,[],bg,xh,zf,zj,kq,[]++[(a,z)],⟨xv,rfl,by have:=zw ([]++[(a,z)]).length ([]:ac (FA×bh)).length;omega,k _ _ (ar zd Z.fi.hx) (ar zd Z.fi.hh) (ar zd Z.hk) zd,⟨λp c=>(by cases c),fc⟩,λp c=>(by cases c),λp c=>(by cases c),λp c=>(by cases c),λp c=>(by cases c),fc,λp c=>(by cases c),.inl ⟨rfl,z,aY⟩,k _ _ (ar xa Z.fi.hx) (ar xa Z.fi.hh) (ar xa Z.hk) xa,λb o n1 j B _ _ e=>k _ _ n1 j B (xd _ _ e)⟩⟩
  ·have only:∀p ∈ []++[(O,fr)],p=(O,fr):=λp c=>bN.mp c
   have zq:O.lf≠st/\O.rs≠st:=⟨aT (ay zd j),aT (ay zd B)⟩;refine⟨_,[]++[(O,fr)],bg+1,xh,zf,[],kq,[],⟨xv,rfl,by have:=zw ([]:ac (Ask×Int)).length ([]++[(O,fr)]).length;omega,zH,⟨λp c=>?_,?_⟩,λp c=>?_,λp c=>?_,λp c=>?_,λp c z za=>(by cases za),by simp,λp c=>?_,.inr ⟨[],(O,fr),rfl,trivial,by rw[<-xE];rfl⟩,k _ _ (ar xa Z.fi.hx) (ar xa Z.fi.hh) (ar xa Z.hx) (ar xa zd) xa,λb o n1 j B L I e=>k _ _ n1 j I (ay e zl) (xd _ _ e)⟩⟩
   ·rw[only p c];exact⟨lv,rn,xb⟩
   ·show [O.x,O.lf,O.rs].Nodup
    simp only[d8,bJ,js,jt,not_or,VV,fc,and_true];exact⟨⟨L,I⟩,xb.h7⟩
   ·rw[only p c];show UA S.W S.NU fr.a;rw[xE];exact yD
   ·rw[only p c];exact zR
   ·rw[only p c];exact xS
   ·rw[only p c];exact⟨zq,xd.free n1,xd.free j,xd.free B⟩
  rintro H2 ⟨xI,xG,yI,yS,zI,xJ,yJ,zJ,yy⟩;refine⟨λze σ yi=>∃(yp:ad V) (a8:ac (FA×bh)) (bg m:Int) (kh kk kq:ac (List Key×V)) (ka:ac (Ask×Int)),σ=[am S.x,am ta,am st,yp]/\TI C D R S H a ta st (fh S.W S.NU).length ze yi a8 bg m kh kk kq ka,⟨xI,none,xG,yI,yS,zI,xJ,yJ,zJ,rfl,yy⟩,?_⟩;clear yy;rintro ze σ yi ⟨yp,a8,bg,m,kh,kk,kq,ka,rfl,ti⟩;obtain⟨yE,tk⟩:=ti.a5 xi;refine ah rfl ⟨_,.inl ⟨_,ak.of ti.EO,rfl⟩,?_⟩;rcases ti.ch with⟨rfl,z,za⟩|⟨l,top,rfl,xm,zi⟩
  ·refine bY (λy=>by cases y) (λ_=>?_)
   have xK:yi ta=a2 ((bZ a).map kV):=ti.eN;rcases ti.w.kv.val a with⟨_,e2⟩|⟨v,yv,t,y,ns,xY,e1,e2,rfl,zS,_⟩
   ·exact absurd za (e2 z)
   ·refine ah rfl ⟨S.x,C,S.dx,_,.ref S.kn,rfl,ti.w.hx,T.cl,T.nn,iW,_,rfl,S.kn,.ref t,rfl,by rw[<-e1];exact b7.t (k:=bZ a) ti.w.hk xK,?_⟩
    exact q yv (ti.w.ok _ e2) t _ _ bg kk yi ti.kt ti.w.hx ti.w.hk e1 zS
  ·refine bY (λ_=>?_) (λy=>absurd (by unfold refs;rw[a'];simp) y)
   have xe:top∈l++[top]:=d7 _ aY;have yb:∀p∈l,p∈l++[top]:=λp c=>fM _ c;obtain⟨lv,rn,xb⟩:=ti.fs.fr top xe;have yY:ka.length+(l.length+1)<=(fh S.W S.NU).length:=by rw[bX]at yE;exact yE
   have xl:=ti.em;rw[bX,jo]at xl;have zY:=ti.lh;refine⟨λyK H'=>∃zy,zy<ze /\∃(yp:ad V) (a8:ac (FA×bh)) (bg m:Int) (kh kk kq:ac (List Key×V)) (ka:ac (Ask×Int)),yK=[am S.x,am ta,am st,yp]/\TI C D R S H a ta st (fh S.W S.NU).length zy H' a8 bg m kh kk kq ka,λ_ _ z=>z,?_⟩;have yx:∀g:bh,refs (l++[(top.1,g)])=refs l++[V.ref top.1.x]:=λg=>by unfold refs;rw[a'];rfl
   have xj:yi st=bd (refs l++[V.ref top.1.x]):=by rw[<-yx top.2];exact ti.EO
   obtain⟨⟨xz,yz⟩,zK,xL,yL⟩:=ti.ap top xe;have zL:st≠top.1.x:=ar xj xb.hx
   have zz:∀{G:Hp},Kr S top.1 yi G->G st=bd (refs l++[V.ref top.1.x])/\G ta=a2 [.str a.1,.str a.2]/\KT S H G /\∀p∈l,∃lv rn,c1 R S G p.1 p.2 lv rn:=λ{G} xf=>by
    refine⟨xf _ _ (ar xj ti.w.fi.hx) (ar xj ti.w.fi.hh) zL (aT xz) (aT yz) xj,xf _ _ (ar ti.eN ti.w.fi.hx) (ar ti.eN ti.w.fi.hh) (ar ti.eN xb.hx) (ar ti.eN xb.hl) (ar ti.eN xb.hr) ti.eN,λb o n1 j B L I e=>xf _ _ n1 j (ay e zK) (ay e xL) (ay e yL) (ti.kt b o n1 j B L I e),λp c=>?_⟩
    obtain⟨ym,zm,fp⟩:=ti.fs.fr p (yb p c);exact⟨ym,zm,fp.go ti.w ⟨_,_,_,xb.hx⟩ ⟨_,xb.hl⟩ ⟨_,xb.hr⟩ (IY ti.fs.nd c) xf⟩
   refine ah rfl ⟨S.x,S.dx,_,rfl,ti.w.hx,rfl,_,rfl,1,rfl,st,_,-1,_,rfl,rfl,ak.of xj,Jc _ _,q5.mk (A:=top.1) (fr:=top.2) rfl xi ti.w (by omega) xb (ti.ok top xe) (ti.wl top xe) (λt' ym zm zf xh G xf J xT xn xr=>?_) (λt' d ds ym zm zf xh b tn G xf J xT xn xr zb yr xM=>?_)⟩
   ·obtain⟨yf,ya,xg,zr⟩:=zz xf
    refine ah rfl ⟨rfl,_,rfl,_,rfl,S.x,S.dx,_,rfl,J.hx,rfl,_,rfl,.inl ⟨rfl,_,ak.of yf⟩,st,_,V.ref top.1.x,rfl,rfl,yf,by simp,?_⟩
    have yT:(refs l++[V.ref top.1.x]).dropLast=refs l:=by simp
    rw[yT];have up:∀{u:HO} b o,b≠st->G b=ih o->upd G st u b=ih o:=λb o n e=>by rw[ag n];exact e
    have zT:∀{u:HO} b xs,G b=a2 xs->upd G st u b=a2 xs:=λb xs e=>up _ _ (ar e yf) e
    have xc:cj C D S bg xh zf kk kq ka (upd G st (.lst (refs l))):=J.write λb o xU _ e=>up _ _ (λz=>by rw[z,yf]at e;cases e;exact xU _ rfl) e
    have xt:∀{A:FA}{g:bh}{lv:ac V}{rn:ac FF},A.lf≠st->A.rs≠st->c1 R S G A g lv rn->c1 R S (upd G st (.lst (refs l))) A g lv rn:=λn1 j q=>q.fr J yf ⟨n1,j⟩ λb o _ _ _ _ _ n e=>up _ _ n e;have yj:upd G st (.lst (refs l)) st=bd (refs l):=af;have yl:upd G st (.lst (refs l)) ta=a2 [.str a.1,.str a.2]:=zT _ _ ya;have xA:KT S H (upd G st (.lst (refs l))):=λb o n1 j B L I e=>up _ _ (ay e zl) (xg b o n1 j B L I e);have yA:∀p∈l,∃lv rn,c1 R S (upd G st (.lst (refs l))) p.1 p.2 lv rn:=λp c=>by
     obtain⟨lv,rn,q⟩:=zr p c;exact⟨lv,rn,xt (ti.ap p (yb p c)).1.1 (ti.ap p (yb p c)).1.2 q⟩
    have xk:=xt xz yz xn;generalize upd G st (.lst (refs l))=zE at xc xt yj yl xA yA xk⊢;refine q6.mk (A:=top.1) (fr:=⟨top.2.a,top.2.w,[],t'⟩) rfl xi xc (by omega) xk (xr.done rfl) (ti.nk top xe) (ti.ua top xe) λzj yM zD zp yU=>?_
    have zM:∀p∈l,p.2.a≠top.2.a:=λp c e=>by
     have:=ti.nd;rw[a']at this;exact(dw.mp this).2.2 _ (a6.mpr ⟨p,c,rfl⟩) _ (a6.mpr ⟨top,aY,rfl⟩) e
    refine⟨gN (fh S.W S.NU).length (ka.length+1) l.length,by rw[xl];exact sP (by omega),_,l,bg,xh,zf,zj,yM,ka++[(top.2.a,t')],rfl,⟨yU,by rw[bX];rfl,?_,zp _ _ (ar yj xc.hk) (ar yj xc.hq) yj,⟨λp c=>?_,?_⟩,λp c=>ti.ua p (yb p c),λp c=>ti.ok p (yb p c),λp c=>ti.wl p (yb p c),λp c z za=>?_,?_,λp c=>ti.ap p (yb p c),?_,zp _ _ (ar yl xc.hk) (ar yl xc.hq) yl,λb o n1 j B L I e=>zp _ _ B L (xA b o n1 j B L I e)⟩⟩
    ·have:gN (fh S.W S.NU).length (ka.length+1) l.length<ze:=by rw[xl];exact sP (by omega)
     omega
    ·obtain⟨lv,rn,q⟩:=yA p c
     exact⟨lv,rn,q.fr xc yj (ti.ap p (yb p c)).1 λb o _ _ B L _ _ e=>zp _ _ B L e⟩
    ·have:=ti.fs.nd
     rw[o1]at this;exact(dw.mp this).1
    ·rcases bK.mp za with y|y
     ·exact ti.nk p (yb p c) z y
     ·have y:=bN.mp y
      exact zM p c (by injection y)
    ·have:=ti.nd
     rw[a']at this;exact(dw.mp this).1
    ·cases zA:l.getLast? with
     |none =>
      have:l=[]:=List.getLast?_eq_none_iff.mp zA;subst this;refine .inl ⟨rfl,t',d7 _ ?_⟩;have zi:ih top.2.a=ih a:=zi;rw[cJ zi];exact aY
     |some g =>
      obtain⟨xF,rfl⟩:=List.getLast?_eq_some_iff.mp zA;refine .inr ⟨xF,g,rfl,?_,?_⟩
      ·rw[a']at xm;exact chain_last xm
      ·rw[<-zi];cases xF with
       |nil=>rfl
       |cons _ _=>rfl
   ·obtain⟨yf,ya,xg,zr⟩:=zz xf
    have xN:gG S.W ⟨top.2.a,top.2.w,d::ds,t'⟩=ih b:=zb;have zv:UA S.W S.NU b:=by
     unfold aP.need at zb
     by_cases xw:a9 d = "ask"
     ·rw[aF xw]at zb;cases zb;exact⟨xn.an d aY xw,.inl rfl⟩
     ·rw[aq xw]at zb
      by_cases yF:a9 d = "onward"
      ·rw[aF yF]at zb
       split at zb
       ·cases zb;exact⟨(ti.ua top xe).1,.inr (ti.wl top xe)⟩
       ·cases zb
      ·rw[aq yF]at zb;cases zb
    obtain⟨r,yg⟩:∃r,l++[(top.1,(⟨top.2.a,top.2.w,d::ds,t'⟩:bh))]=r:=⟨_,rfl⟩;have xq:∀p∈r,p∈l\/p=(top.1,⟨top.2.a,top.2.w,d::ds,t'⟩):=λp c=>by
     rw[<-yg]at c;rcases bK.mp c with z|z
     ·exact .inl z
     ·exact .inr (bN.mp z)
    have yt:r.map (·.2.a)=(l++[top]).map (·.2.a):=by rw[<-yg,a',a'];rfl
    have zx:r.length=l.length+1:=by rw[<-yg,bX];rfl
    have yn:∀p∈r,∃q∈l++[top],q.1=p.1/\q.2.a=p.2.a/\q.2.w=p.2.w:=λp c=>by
     rcases xq p c with z|z
     ·exact⟨p,yb p z,rfl,rfl,rfl⟩
     ·rw[z];exact⟨top,xe,rfl,rfl,rfl⟩
    have zn:∀g∈r.map (·.2),bR S.W g:=λg zU=>by
     obtain⟨p,c,rfl⟩:=a6.mp zU;rcases xq p c with z|z
     ·exact ti.ok p (yb p z)
     ·rw[z];exact xr
    have zt:Chain S.W (r.map (·.2)) b:=by rw[<-yg,a'];exact chain_snoc (g:=⟨top.2.a,top.2.w,d::ds,t'⟩) xm xN
    have xB:((r.map (·.2)).head?.map (·.a)).getD b=a:=by
     have e1:(r.map (·.2)).head?.map (·.a)=(r.map (·.2.a)).head?:=by rw[r6,r6,wX];rfl
     rw[e1,yt,r6,zi];rfl
    have Qo:oq R S G r:=by
     refine⟨λp c=>?_,?_⟩
     ·rcases xq p c with z|z
      ·exact zr p z
      ·rw[z];exact⟨ym,zm,xn⟩
     ·have:=ti.fs.nd
      rw[<-yg,o1];rw[o1]at this;exact this
    have xo:∀p∈r,(p.1.lf≠st/\p.1.rs≠st)/\H p.1.x=none/\H p.1.lf=none/\H p.1.rs=none:=λp c=>by
     obtain⟨q,ye,e,_⟩:=yn p c;rw[<-e];exact ti.ap q ye
    have yo:∀p∈r,UA S.W S.NU p.2.a:=λp c=>by
     obtain⟨q,ye,_,e,_⟩:=yn p c;rw[<-e];exact ti.ua q ye
    have yB:∀p∈r,p.2.w∈S.W.line:=λp c=>by
     obtain⟨q,ye,_,_,e⟩:=yn p c;rw[<-e];exact ti.wl q ye
    have xu:∀p∈r,∀z,(p.2.a,z)∉ ka:=λp c=>by
     obtain⟨q,ye,_,e,_⟩:=yn p c;rw[<-e];exact ti.nk q ye
    have zo:(r.map (·.2.a)).Nodup:=by rw[yt];exact ti.nd
    have zc:G st=bd (refs r):=by rw[<-yg,yx];exact yf
    have zB:r.head?.map (·.2.a)=ih a:=by rw[<-r6,yt,r6];exact zi
    have yG:∃l top,r=l++[top]/\Chain S.W (l.map (·.2)) top.2.a/\(r.head?.map (·.2.a))=ih a:=⟨l,_,yg.symm,xm,zB⟩;have yk:∀e,G e=none->H e=none:=λe U=>by
     cases e0:H e with
     |none=>rfl
     |some u =>
      exfalso
      by_cases z1:e=S.fi
      ·rw[z1,J.fi.hx]at U;cases U
      ·by_cases z2:e=S.dh
       ·rw[z2,J.fi.hh]at U;cases U
       ·by_cases z3:e=S.kn
        ·rw[z3,J.hk]at U;cases U
        ·by_cases z4:e=S.kp
         ·rw[z4,J.hq]at U;cases U
         ·by_cases z5:e=S.x
          ·rw[z5,J.hx]at U;cases U
          ·rw[xg e u z1 z2 z3 z4 z5 e0]at U;cases U
    have big:(∀p∈r,p.2.a≠b)->ka.length+(l.length+1)+1<=(fh S.W S.NU).length:=λzg=>by
     have xV:(b::(ka.map (·.1)++r.map (·.2.a))).Nodup:=by
      refine d8.mpr ⟨λyV=>?_,dw.mpr ⟨ti.w.nd,zo,λx yd y yc e=>?_⟩⟩
      ·rcases bK.mp yV with z|z
       ·obtain⟨p,c,e⟩:=a6.mp z;exact yr p.2 (by rw[<-e];exact c)
       ·obtain⟨p,c,e⟩:=a6.mp z;exact zg p c e
      ·obtain⟨p,c,rfl⟩:=a6.mp yd
       obtain⟨q,ye,rfl⟩:=a6.mp yc;exact xu q ye p.2 (by rw[<-e];exact c)
     have:=mv xV λx yd=>Cj (W:=S.W) (NU:=S.NU) (by
      rcases bJ.mp yd with z|z
      ·rw[z];exact zv
      ·rcases bK.mp z with z|z
       ·obtain⟨p,c,rfl⟩:=a6.mp z;exact ti.w.ei p c
       ·obtain⟨p,c,rfl⟩:=a6.mp z;exact yo p c)
     rw[cV,bX,aE,aE,zx]at this;omega
    refine⟨_,rfl,rfl,_,rfl,_,rfl,S.x,S.dx,_,rfl,J.hx,rfl,_,rfl,_,rfl,ot.mk (a8:=r) (b:=b) rfl xi J (by omega) (by omega) zc (by omega) Qo yo xM zv (λi _ hi _ e H' zV U xW=>yR _ (by
     have:=JX zn zt xB (by rw[c7];exact zo) (by rw[c7];exact hi)
     rw[c7]at this;exact this) e H' (λb o n1 j B L I z=>zV _ _ (xg b o n1 j B L I z)) (yk e U) xW) (λz za=>absurd za (yr z)) (λ_ zk e H' k U zu=>qn _ (AH zn zt xB zk) e H' (λb o n1 j B L I z=>k _ _ n1 j (xg b o n1 j B L I z)) (yk e U) zu) (λz zj yu yw zE _ zg zk k xc yW=>?_) (λO fr yN zN yu yw zE _ zg xp xO yO k xc yW zO xk n1 j B L I=>?_)⟩
    ·have big:=big zg
     have lt:gN (fh S.W S.NU).length (ka.length+1) r.length<ze:=by rw[xl];exact sP (by omega)
     refine⟨_,lt,_,r,bg,yw,yu,zj,kq,ka++[(b,z)],rfl,⟨xc,by rw[bX];rfl,by omega,k _ _ (ar zc J.fi.hx) (ar zc J.fi.hh) (ar zc J.hk) zc,⟨λp c=>?_,Qo.nd⟩,yo,λp c=>zn _ (a6.mpr ⟨p,c,rfl⟩),yB,λp c yv za=>?_,zo,xo,.inr yG,k _ _ (ar ya J.fi.hx) (ar ya J.fi.hh) (ar ya J.hk) ya,λb o n1 j B L I e=>k _ _ n1 j B (xg b o n1 j B L I e)⟩⟩
     ·obtain⟨lv,rn,q⟩:=Qo.fr p c
      exact⟨lv,rn,q.fr J zc (xo p c).1 λb o n1 j B _ _ _ e=>k _ _ n1 j B e⟩
     ·rcases bK.mp za with y|y
      ·exact xu p c yv y
      ·have y:=bN.mp y
       exact zg p c (by injection y)
    ·have big:=big zg
     have lt:gN (fh S.W S.NU).length ka.length (r.length+1)<ze:=by rw[xl,zx];exact J' (by omega)
     have zq:O.lf≠st/\O.rs≠st:=⟨aT (ay zc j),aT (ay zc B)⟩;have zh:∀p∈r++[(O,fr)],p∈r\/p=(O,fr):=λp c=>by
      rcases bK.mp c with z|z
      ·exact .inl z
      ·exact .inr (bN.mp z)
     refine⟨_,lt,_,r++[(O,fr)],bg+1,yw,yu,kk,kq,ka,rfl,⟨xc,by rw[bX];rfl,by omega,zO,⟨λp c=>?_,?_⟩,λp c=>?_,λp c=>?_,λp c=>?_,λp c=>?_,?_,λp c=>?_,.inr ⟨r,(O,fr),rfl,by show Chain S.W _ fr.a;rw[xp];exact zt,?_⟩,k _ _ (ar ya J.fi.hx) (ar ya J.fi.hh) (ar ya J.hx) (ar ya zc) ya,λb o n1 j B L I e=>k _ _ n1 j I (ay e zl) (xg b o n1 j B L I e)⟩⟩
     ·rcases zh p c with z|z
      ·obtain⟨lv,rn,q⟩:=Qo.fr p z
       exact⟨lv,rn,q.fr J zc (xo p z).1 λb o n1 j _ _ I zW e=>k _ _ n1 j I zW e⟩
      ·rw[z];exact⟨yN,zN,xk⟩
     ·rw[o1]
      refine dw.mpr ⟨Qo.nd,?_,λx yd y yc e=>?_⟩
      ·show [O.x,O.lf,O.rs].Nodup
       simp only[d8,bJ,js,jt,not_or,VV,fc,and_true];exact⟨⟨L,I⟩,xk.h7⟩
      ·obtain⟨p,c,yd⟩:=oZ.mp yd
       obtain⟨lv,rn,q⟩:=Qo.fr p c;have xX:∃o,G x=ih o:=by
        simp only[bJ,js,jt]at yd;rcases yd with z|z|z
        ·rw[z];exact⟨_,q.hx⟩
        ·rw[z];exact⟨_,q.hl⟩
        ·rw[z];exact⟨_,q.hr⟩
       obtain⟨o,yh⟩:=xX;obtain⟨xZ,xP,yc⟩:=oZ.mp yc;rw[bN.mp xP]at yc;simp only[bJ,js,jt]at yc;rw[e]at yh;rcases yc with z|z|z
       ·rw[z,n1]at yh;cases yh
       ·rw[z,j]at yh;cases yh
       ·rw[z,B]at yh;cases yh
     ·rcases zh p c with z|z
      ·exact yo p z
      ·rw[z];show UA S.W S.NU fr.a;rw[xp];exact zv
     ·rcases zh p c with z|z
      ·exact zn _ (a6.mpr ⟨p,z,rfl⟩)
      ·rw[z];exact xO
     ·rcases zh p c with z|z
      ·exact yB p z
      ·rw[z];exact yO
     ·rcases zh p c with z|z
      ·exact xu p z
      ·rw[z];show ∀z,(fr.a,z)∉ ka;rw[xp];exact yr
     ·rw[a']
      refine dw.mpr ⟨zo,by simp,λx yd y yc e=>?_⟩
      obtain⟨p,c,rfl⟩:=a6.mp yd;have yc:y=fr.a:=bN.mp yc;exact zg p c (by rw[e,yc,xp])
     ·rcases zh p c with z|z
      ·exact xo p z
      ·rw[z];exact⟨zq,yk _ n1,yk _ j,yk _ B⟩
     ·rw[List.head?_append]
      have:r.head?.map (·.2.a)=ih a:=zB;cases zF:r.head? with
      |none=>rw[zF]at this;cases this
      |some g=>rw[zF]at this;exact this
end eG
namespace eG
open L2 W HT PyProof.Rows
theorem iB.pairs{own:Own}(h:iB H vs own):kM H vs (own.map λq=>(q.1,V.int q.2)):=by
 induction h with
 |nil=>exact .nil
 |cons h _ a=>exact .cons h a
inductive ra(C D:E8)(vs:List V)(H:Hp)(Q:VK)(E:XK):Prop
 |mk{wd t tb tt:E8}{wt:List V}{bQ:List Th}{th:Th}{o:YO}{ws wb:List V}{Qb:List (FF×List FF)}{L:FF->List FF}{bk:Bk}{NU:List FF}(_:vs=[.ref wd,.str th.1])(_:iI H wd t tb tt wt bQ)(_:FB H t tb o ws wb Qb L bk)(_:th∈bQ)(_:th.2.1∈Qb.map (·.1))(_:(th.2.2.map (·.1)).Nodup)
  (_:∀(S:Wh) H',S.W=⟨L th.2.1,bk,th.2.2⟩->S.NU=NU->ax H H'->cj C D S 0 0 [] [] [] [] H'->H S.x=none->H S.fi=none->H S.dh=none->H S.kn=none->H S.kp=none->Q (.ref S.x) H'):ra C D vs H Q E
abbrev QM:List FF:=["world","thing","kind","own"]
theorem vj:bj QM ["world","thing"] (aJ s7):=bB
theorem NQ{yh fF:E8}{zh xi:Ye}(F:aS K "whole_of" "whole_of" s7 f fd)(yi:hU mg)(T:hW K mg C)(zi:bH P w K mg base aH 4 yh zh ["world","thing"] qX "kind_and_own")(xj:bH P w K mg base aH 6 fF xi ["family","book"] (qU D) "finds_in")
  (M:Mk K C fI) (yj:aU P w K mg base aH 1 fI dI oo (qy C)) (zj:Binds K dI oo []):aU P w K mg base aH 7 f fd ["world","thing"] (ra C D):=by
 refine F.bI vj λQa A outer s H vs Q E xk h=>?_
 ·obtain @⟨ya,t,tb,tt,wt,zm,th,o,ws,wb,Qb,L,bk,NU,rfl,h,yk,zk,yc,xl,q⟩:=h
  have N:a4 6 _:=xk;have zc:a4 4 _:=N.mono (by decide)
  have xd:a4 2 _:=N.mono (by decide)
  intro X;refine⟨_,aw (i0 (ba zi zc (aa (pv 0) (aa (pv 1) ai))) (ik rfl (c2 (bf 2 vj.nd) (c2 (bf 3 vj.nd) gB))))
   (aB (aZ (tF M yj xd rfl T.oF zj .nil cY (aa (ba xj N (aa (aV bp (pv 0) au) (aa (aV bp (pv 0) au) ai))) (aa (pv 2) (aa (dy (HJ rfl) rfl yi.dict boot_dict (aa (pv 3) ai)) (aa pD ai))))))),?_⟩
  refine aX rfl rfl (qX.mk rfl h zk λr b us Y j yd zd xe=>?_);refine⟨r,_,rfl,aA.of yd,rfl,_,_,rfl,_,_,rfl,rfl,?_⟩;have h1:=h.same j;refine ah rfl ⟨ya,_,0,_,rfl,rfl,aA.of h1.hw,b',_,rfl,ya,_,1,_,rfl,rfl,aA.of h1.hw,cT,qU.mk rfl (yk.same j) λfi yl dl de dh za zl H2 S a ye ze xf=>?_⟩;have yf:iB H2 us th.2.2:=xe.keep λb xs e=>S _ _ e;refine aX rfl rfl ⟨b,us,_,rfl,S _ _ zd,yf.pairs,by rw[c7];exact xl,λow zf=>?_⟩
  intro kp g;intro x dx c z ne;have l:=aK (o:=.dK (c4 th.2.2)) zf;have Z:upd H2 ow (.dK (c4 th.2.2)) ow=bn (c4 th.2.2):=af;have xm:HO.dK (gi (th.2.2.map λq=>(q.1,V.int q.2)))=.dK (c4 th.2.2):=rfl;rw[xm]at g c z⊢;generalize upd H2 ow (.dK (c4 th.2.2))=xb at l Z g c z⊢;have U:=aK (o:=.dT []) g;have B:upd xb kp (.dT []) kp=ce []:=af;generalize upd xb kp (.dT [])=m at U B c z⊢;have ym:=aK (o:=.own x) z;have xg:upd m dx (.own x) x=none:=by rw[ag (aT ne)];exact c
  have J:=ym.trans (aK (o:=.ins C dx []) xg);have O:upd (upd m dx (.own x)) x (.ins C dx []) x=ih (.ins C dx []):=af;generalize upd (upd m dx (.own x)) x (.ins C dx [])=yb at J O⊢;refine qy.mk rfl O (J _ _ B) λkn R=>⟨rfl,?_⟩;have zb:=aK (o:=.dT []) R;have yg:x≠kn:=ay O R;have xa:upd yb kn (.dT []) kn=ce []:=af;generalize upd yb kn (.dT [])=xc at zb xa⊢;have i:=l.trans U;have zg:=J.trans zb;have G:=j.trans S;have W:∀b u,m b=ih u->upd xc x (.ins C dx (fW fi ow kp kn th.2.1 0)) b=ih u:=λb u e=>by rw[ag (ay e c)];exact zg _ _ e
  have d:∀b u,H2 b=ih u->upd xc x (.ins C dx (fW fi ow kp kn th.2.1 0)) b=ih u:=λb u e=>W _ _ (i _ _ e);have I:m kn=none:=J.free R;obtain⟨p,y,ep⟩:=a6.mp yc;have xh:gM H2 za L th.2.1:=ep ▸ ye p y;refine q ⟨x,dx,fi,yl,dl,de,dh,ow,kp,kn,th.2.1,za,zl,⟨L th.2.1,bk,th.2.2⟩,L,NU⟩ _ rfl rfl (λb u e=>d _ _ (G _ _ e)) ⟨aT (ay (i _ _ a.hx) c),af,⟨d _ _ a.hx,d _ _ a.hl,d _ _ a.he,d _ _ a.hh,a.du.same d,a.ok,a.nn⟩,W _ _ (U _ _ Z),by rw[ag (aT yg)];exact xa,W _ _ B,⟨aT (ay (i _ _ a.he) I),aT (ay (i _ _ a.hh) I),aT (ay (l _ _ a.he) g),aT (ay (l _ _ a.hh) g),aT (ay B I)⟩,xh.same d,rfl,λk n b v e=>(by cases e),.nil,λp y=>(by cases y),fc,λp y=>(by cases y),aQ _⟩ ((G.trans i).free c) (j.free ze) (j.free xf) ((G.trans i).free I) ((G.trans l).free g)
structure k6(wd t tb tt:E8)(wt:List V)(bQ:List Th)(th:Th)(o:YO)(ws wb:List V)(Qb:List (FF×List FF))(L:FF->List FF)(bk:Bk)(NU:List FF)(a:Ask)(H:Hp):Prop where
 h:iI H wd t tb tt wt bQ
 fb:FB H t tb o ws wb Qb L bk
 hm:th∈bQ
 hk:th.2.1∈Qb.map (·.1)
 nd:(th.2.2.map (·.1)).Nodup
 wo:g7 ⟨L th.2.1,bk,th.2.2⟩ NU
 ua:UA ⟨L th.2.1,bk,th.2.2⟩ NU a
theorem k6.same{c t tb:E8}{b:ac Th}{th:Th}{bk:Bk}{a:Ask}(h:k6 c t tb tt wt b th o ws wb Qb L bk NU a H)(S:ax H H'):k6 c t tb tt wt b th o ws wb Qb L bk NU a H':=⟨h.h.same S,h.fb.same S,h.hm,h.hk,h.nd,h.wo,h.ua⟩
inductive rb(C D M N:E8)(vs:List V)(H:Hp)(Q:VK)(E:XK):Prop
 |mk{wd t tb tt:E8}{wt:List V}{bQ:List Th}{th:Th}{o:YO}{ws wb:List V}{Qb:List (FF×List FF)}{L:FF->List FF}{bk:Bk}{NU:List FF}{a:Ask}(_:vs=[.ref wd,.str th.1,.str a.1,.str a.2])(_:k6 wd t tb tt wt bQ th o ws wb Qb L bk NU a H)
  (_:∀ns,eS ⟨L th.2.1,bk,th.2.2⟩ a ns ->∀e H',ax H H'->q7 N ns H' e->E (.ref N) (ih e) H')
  (_:∀n,aP.Out ⟨L th.2.1,bk,th.2.2⟩ a (.miss n) ->∀e H',ax H H'->qz M n H' e->E (.ref M) (ih e) H')
  (_:∀z,aP.Out ⟨L th.2.1,bk,th.2.2⟩ a (.told z) ->∀x dx fi ow kp kn kd bg t y u kk H',ax H H'->H' x=ih (.ins C dx (fW fi ow kp kn kd bg))->H' kn=ih (.dT kk)->bb kk (bZ a)=ih (.ref t)->H' t=ih (.tup [y,.int z,u])->Q (.ref x) H'):rb C D M N vs H Q E
abbrev j6:List FF:=["world","thing","name","behind"]
noncomputable abbrev QN:List FF:=["world","thing","name","behind","whole"]
theorem El:bj QN j6 (aJ sj):=bB
theorem NR:bj ["thing"] ["thing"] (aJ tQ):=bB
theorem Mz(F:aS K "check_name" "check_name" tQ f fd)(a:bH P w K mg base aH 1 fN dN ["thing"] md "is_name"):aU P w K mg base aH 2 f fd ["thing"] qv:=by
 refine F.bI NR λQa A outer s H vs Q E b h=>?_
 ·obtain @⟨x,rfl,n,q⟩:=h
  intro X;exact⟨_,aB (bo (hJ (hI (ba a b (aa (pv 0) ai)))) sH bG),_,rfl,md.mk rfl n λY c=>⟨true,rfl,q Y c⟩⟩
theorem cj.wi{S:Wh}{ka:ac (Ask×Int)}(h:cj C D S bg m kh kk kq ka H):WI C D S.x S.dx S.fi S.fx S.dl S.de S.dh S.ow S.kp S.kn S.kd bg S.kl (c4 S.W.own) S.ke kh kk m S.W.bk H:=⟨h.n3,h.hx,h.fi,h.ho,h.hk,h.n1.1,h.n1.2.1⟩
theorem NT{N yd zd fR:E8}{xe ye:Ye}(F:aS K "whole_asked" "whole_asked" sj f fd)(T:hW K mg C)(ze:bH P w K mg base aH 7 yd xe ["world","thing"] (ra C D) "whole_of")(xf:bH P w K mg base aH 2 fN dN ["thing"] qv "check_name")(yf:bH P w K mg base aH 2 zd ye ["line","thing"] qS "check_behind")
  (zf:aU P w K mg base aH 1 fR dR ["self"] (qi C D)) (xg:Meth K C "forebears" fR) (yg:Binds K dR ["self"] []) (zg:aU P w K mg base (cO P w) 5 fT dT ["self","first"] (q' C D R M N)) (xh:Meth K C "tell" fT) (yh:Binds K dT ["self","first"] []):aU P w K mg base (cO P w) 8 f fd j6 (rb C D M N):=by
 refine F.u7 El λQa A outer s H vs Q E zh h=>?_
 ·obtain @⟨zl,t,tb,tt,wt,yl,th,o,ws,wb,Qb,L,bk,NU,a,rfl,h,xi,qn,q⟩:=h
  have g:a4 7 _:=zh;have U:a4 5 _:=g.mono (by decide)
  have p:a4 2 _:=g.mono (by decide)
  have W:a4 1 _:=g.mono (by decide)
  intro X;refine⟨_,aw (a3 4 El.nd (ba ze g (aa (pv 0) (aa (pv 1) ai))))
   (aw (eJ (ba xf p (aa (pv 2) ai)))
   (aw (eJ (ba yf p (aa (I9 (pv 4) T.cl xg zf W yg .nil cY) (aa (pv 3) ai))))
   (aw (eJ (hF (pv 4) T.cl xh zg U yh .nil qp (aa (b9 (aa (pv 2) (aa (pv 3) ai))) ai)))
   (aB (aZ (pv 4)))))),?_⟩
  refine aX rfl rfl (ra.mk (NU:=NU) rfl h.h h.fb h.hm h.hk h.nd λS Y c v yi j Z xa ya za xb=>?_);refine ah rfl (qv.mk rfl (h.wo.nm _ h.ua.1) λH2 B=>?_);have i:=j.same B;obtain⟨xm,zi,G⟩:=i.ln;have xj:S.L S.kd=L th.2.1:=by rw[j.el,c]
  rw[xj]at G;refine ah rfl ⟨S.x,S.dx,_,rfl,i.hx,Lu,qi.mk rfl i.wi zi (ah rfl (qS.mk rfl G (h.fb.a5 h.hk) h.ua.2 λI J=>?_))⟩;refine ah rfl ⟨S.x,S.dx,_,rfl,J _ _ i.hx,Lv,_,rfl,_,rfl,bS,λta yb=>?_⟩;have O:=aK (o:=.tup [V.str a.1,V.str a.2]) yb;have m:upd I ta (.tup [V.str a.1,V.str a.2]) ta=a2 [V.str a.1,V.str a.2]:=af;generalize upd I ta (.tup [V.str a.1,V.str a.2])=yj at O m⊢;have r:=B.trans (J.trans O);have zj:=j.same r;have zb:=yi.trans r;have l:∀H',KT S yj H'->ax H H':=λH' k b u e=>k b u (ay e xa) (ay e ya) (ay e za) (ay e xb) (ay e Z) (zb _ _ e);refine q'.mk (S:=S) (a:=a) rfl (by rw[c,v];exact h.wo) zj (bD _) m (by rw[c,v];exact h.ua) (λns d e H' k _ xk=>xi ns (by rw[<-c];exact d) e H' (l H' k) xk) (λn d e H' k _ yk=>qn n (by rw[<-c];exact d) e H' (l H' k) yk) λz d t y u xc yc H' k zc xd zk xl=>?_
  exact ah rfl (q z (by rw[<-c];exact d) S.x S.dx S.fi S.ow S.kp S.kn S.kd xc t y u yc H' (l H' k) zc xd zk xl)
inductive rf(M N:E8)(vs:List V)(H:Hp)(Q:VK)(E:XK):Prop
 |mk{wd t tb tt:E8}{wt:List V}{bQ:List Th}{th:Th}{o:YO}{ws wb:List V}{Qb:List (FF×List FF)}{L:FF->List FF}{bk:Bk}{NU:List FF}{a:Ask}(_:vs=[.ref wd,.str th.1,.str a.1,.str a.2])(_:k6 wd t tb tt wt bQ th o ws wb Qb L bk NU a H)
  (_:∀ns,eS ⟨L th.2.1,bk,th.2.2⟩ a ns ->∀e H',ax H H'->q7 N ns H' e->E (.ref N) (ih e) H')
  (_:∀n,aP.Out ⟨L th.2.1,bk,th.2.2⟩ a (.miss n) ->∀e H',ax H H'->qz M n H' e->E (.ref M) (ih e) H')
  (_:∀z,aP.Out ⟨L th.2.1,bk,th.2.2⟩ a (.told z) ->∀H',ax H H'->Q (.int z) H'):rf M N vs H Q E
theorem Ph:bj j6 j6 (aJ lQ):=bB
theorem Ka{k:Nat}(F:oh K x qual st dv f fd)(S:bj N ps (aJ st))(b:∀vs H Q E,sp vs H Q E->vs.length=ps.length)
  (a:∀(Qa:i') (A:Yy) (outer:ac Zz) (s:UN) (H:Hp) (vs:ac V) (Q:VK) (E:XK),a4 k (A.deeper (envOfC qual (aJ st) s.aj f Qa))->sp vs H Q E ->
   ∃t,di (d5 (cO P w) P w K mg base N qual (aJ st) f Qa A outer s H E) (bE st) t/\t { nx:=λ_ H'=>Q .aO H',rt:=Q } (start N vs) H):aU P w K mg base (cO P w) (k+1) f fd ps sp:=by
 obtain⟨oc,od,kV,Qc,pm,an,Qa,ct,Qm,rfl,lk,c⟩:=F.ex;exact uz lk c S b λA outer s H vs Q E e d=>a Qa A outer s H vs Q E e d
theorem NV{N fW:E8}(F:oh K "number_asked" "number_asked" lQ dv f fd)(T:hW K mg C)(n:bH P w K mg base (cO P w) 8 fW dW j6 (rb C D M N) "whole_asked"):aU P w K mg base (cO P w) 9 f fd j6 (rf M N):=by
 refine Ka F Ph (λvs H Q E h=>?_) (λQa A outer s H vs Q E c h=>?_)
 ·obtain⟨rfl,_⟩:=h;rfl
 ·obtain @⟨G,t,tb,tt,wt,B,th,o,ws,wb,Qb,L,bk,NU,a,rfl,h,p,qn,q⟩:=h
  have d:a4 8 _:=c;have e:=eF c.units;refine⟨_,aB (aZ (aV bp (d4 e (cp (KP n d (aa (pv 0) (aa (pv 1) (aa (pv 2) (aa (pv 3) ai))))) rfl) (b9 (aa (pv 2) (aa (pv 3) ai)))) au)),?_⟩;refine iz rfl rfl rfl rfl (rb.mk rfl h p qn λz r x dx fi ow kp kn kd bg t y u kk Y v g i j k=>?_);refine⟨x,C,dx,_,.ref kn,rfl,g,T.cl,T.nn,iW,_,rfl,_,rfl,bS,λta l=>?_⟩;have b:=aK (o:=.tup [V.str a.1,V.str a.2]) l;have m:upd Y ta (.tup [V.str a.1,V.str a.2]) ta=a2 ((bZ a).map kV):=af;refine⟨kn,.ref t,rfl,?_,t,_,1,_,rfl,rfl,aA.of (b _ _ k),cT,q z r _ (v.trans b)⟩;rw[<-j];exact b7.t (b _ _ i) m
end eG
namespace eG
open L2 W HT
inductive gO where
 |told (z:Int):gO
 |miss (n:FF):gO
 |gr (ns:List FF):gO
def aP.Comes(W:aP)(a:Ask):gO->Prop
 |.told z=>W.Out a (.told z)
 |.miss n=>W.Out a (.miss n)
 |.gr ns=>eS W a ns
def mD(H:Hp)(p:E8):gO->Prop
 |.told z=>H p=ih (.tup [V.str "told",.int z])
 |.miss n=>H p=ih (.tup [V.str "missing",.str n])
 |.gr ns=>∃t,H p=ih (.tup [V.str "endless",.ref t])/\H t=ih (.tup (ns.map V.str))
inductive ou(vs:List V)(H:Hp)(Q:VK)(E:XK):Prop
 |mk{wd t tb tt:E8}{wt:List V}{bQ:List Th}{th:Th}{o:YO}{ws wb:List V}{Qb:List (FF×List FF)}{L:FF->List FF}{bk:Bk}{NU:List FF}{a:Ask}(_:vs=[.ref wd,.str th.1,.str a.1,.str a.2])(_:k6 wd t tb tt wt bQ th o ws wb Qb L bk NU a H)
  (_:∀r,aP.Comes ⟨L th.2.1,bk,th.2.2⟩ a r ->∀p H',ax H H'->mD H' p r->Q (.ref p) H'):ou vs H Q E
abbrev vN:List FF:=["_law_world_here","_law_thing","_law_name","_law_behind"]
noncomputable abbrev QO:List FF:=["_law_world_here","_law_thing","_law_name","_law_behind","_law_told_here","e"]
theorem k7:bj QO vN (aJ uI):=bB
theorem NW{N y C:E8}{G I:Ye}(F:aS K "_law_told" "_law_told" uI f fd)(k:uS K mg B M fI dI)(l:vh K mg B N y G)(O:mroIn K M (.ref M)=ih true)(R:mroIn K N (.ref M)=ih false)(S:mroIn K N (.ref N)=ih true)(T:bH P w K mg base (cO P w) 9 C I j6 (rf M N) "number_asked"):aU P w K mg base aH 10 f fd vN ou:=by
 refine F.bI k7 λQa A outer s H vs Q E U h=>?_
 ·obtain @⟨yb,t,tb,tt,wt,xb,th,o,ws,wb,Qb,L,bk,NU,a,rfl,h,q⟩:=h
  have u:a4 9 _:=U;intro X;refine⟨_,aw (a3 4 k7.nd (b9 ai))
   (aw (K7 (λJ D=>aB (a3 4 k7.nd (b9 (aa bt (aa (KQ T u (aa (pv 0) (aa (pv 1) (aa (pv 2) (aa (pv 3) ai))))) ai)))))
     rfl rfl (Aw (j:=5) k7.nd rfl rfl rfl rfl rfl k.mC k.q (λa=>aB (a3 4 k7.nd (b9 (aa bt (aa (CF (pv 5)) ai)))))
      (Aw (j:=5) k7.nd rfl rfl rfl rfl rfl l.mC l.q (λa=>aB (a3 4 k7.nd (b9 (aa bt (aa (CF (pv 5)) ai))))) II)))
   (aB (aZ (pv 4)))),?_⟩
  refine⟨bD _,λW v=>?_⟩;have c:=aK (o:=.tup []) v;generalize upd H W (.tup [])=H0 at c⊢;refine iz rfl rfl rfl rfl (rf.mk rfl (h.same c) (λns e a Y g Z=>?_) (λn e a Y g xa=>?_) λz ya Y g=>?_)
  ·refine⟨N,a,rfl,rfl,.inr ⟨R,.inl ⟨S,?_⟩⟩⟩
   obtain⟨d,t,m,p,za⟩:=Z;refine ah rfl ⟨a,_,_,d,_,.ref t,rfl,m,p,l.x,l.nk,rfl,bS,λi b=>?_⟩;have r:=aK (o:=.tup [V.str "endless",.ref t]) b;exact ah rfl (q (.gr ns) e i _ (c.trans (g.trans r)) ⟨t,af,r _ _ za⟩)
  ·refine⟨M,a,rfl,rfl,.inl ⟨O,?_⟩⟩
   obtain⟨d,m,p⟩:=xa;refine ah rfl ⟨a,_,_,d,_,.str n,rfl,m,p,k.x,k.nk,rfl,bS,λi b=>?_⟩;exact ah rfl (q (.miss n) e i _ (c.trans (g.trans (aK b))) af)
  ·refine⟨bS,λi b=>?_⟩
   exact ah rfl (q (.told z) ya i _ (c.trans (g.trans (aK b))) af)
theorem uU{b:Bool}{A:Prop}{T:St->Hp->Prop}(hV:St->Hp->Prop)(h1:b=true->(∀a H',hV a H'->T a H')->A)(h2:b≠true->hV σ H)(c:∀a H',hV a H'->T a H'):if b=true then A else T σ H:=by
 cases b with
 |true=>exact h1 rfl c
 |false=>exact c _ _ (h2 cc)
theorem ir{α:Type}{xs:ac α}(h:i<xs.length):xs.take (i+1)=xs.take i++[xs[i]]:=by rw[dM,bz h];rfl
theorem Kb{bk:Bk}{l:ac FF}(h:∀y∈l,dX bk y n=none):c0 bk n l=none:=by
 have:=nc (x:=n) l h [];rw[eZ]at this;exact this
theorem Lx{bk:Bk}{l:ac FF}{d:UR}(hi:i<l.length)(h:∀y∈l.take i,dX bk y n=none)(e:dX bk l[i] n=ih d):c0 bk n l=ih (l[i],d):=by
 have:=nc (x:=n) (l.take i) h (l.drop i);rw[wG,lB hi,CT e]at this;exact this
inductive jU(vs:List V)(H:Hp)(Q:VK)(E:XK):Prop
 |mk{la db:E8}{line:List FF}{kvs:List (List Key×V)}{bk:Bk}{name gw:FF}(_:vs=[.ref la,.ref db,.str name,.str gw])(_:H la=ih (.lst (line.map V.str)))(_:H db=ih (.dT kvs))(_:cy H kvs bk)(_:gq bk)(_:gw = "" \/ gw∈line)
  (_:∀v H',ax H H'->eL H' v (c0 bk name (ee line gw))->Q v H'):jU vs H Q E
abbrev rJ:List FF:=["_law_line_here","_law_book_here","_law_name","_law_behind"]
noncomputable abbrev QP:List FF:=["_law_line_here","_law_book_here","_law_name","_law_behind","_law_here","_law_kind"]
theorem rg:bj QP rJ (aJ uH):=bB
theorem NX(F:aS K "_law_spot" "_law_spot" uH f fd):aU P w K mg base aH 1 f fd rJ jU:=by
 refine F.bI rg λQa A outer s H vs Q E S h=>?_
 ·obtain @⟨g,db,line,kvs,bk,name,a,rfl,j,C,dv,ok,T,q⟩:=h
  have D:=eF S.units;intro X;refine⟨_,aw (a3 4 rg.nd (pv 0))
   (aw (bo (br jK (pv 3) bt (bC _)) (aB (a3 4 rg.nd (iR l4 (pv 0) (ij (bA e4 (gj hC VT VU Jl (pv 0) (aa (pv 3) ai)) au)) iX))) bG)
   (aw (eK d9 rfl (c8 (pv 4)) (bf 5 rg.nd)
    (aB (bo (fX (i1 D (fy (aa (pv 5) (aa (pv 2) ai))) (pv 1)))
     (aB (aZ (fy (aa (pv 5) (aa (d4 D (pv 1) (fy (aa (pv 5) (aa (pv 2) ai)))) ai))))) bG)))
   (aB (aZ dV)))),?_⟩
  refine aX rfl rfl ⟨rfl,_,rfl,uU (λR H'=>∃b,R=[am g,am db,ih (.str name),ih (.str a),am b,none]/\ax H H'/\H' b=bd ((ee line a).map V.str)) (λe k=>?_) (λe=>⟨g,rfl,ax.refl _,?_⟩) ?_⟩
  ·have G:a ≠ "" :=λz=>by rw[z]at e;revert e;decide +kernel
   have U:a∈line:=T.resolve_left G;obtain⟨W,Z⟩:=tj U;refine aX rfl rfl ⟨.inl ⟨rfl,_,ak.of j⟩,_,rfl,g,line,a,line.idxOf a,rfl,rfl,j,W,Z,_,_,rfl,rfl,_,rfl,g,_,rfl,ak.of j,λc xa=>?_⟩;have e1:ee line a=line.drop (line.idxOf a+1):=by unfold ee;rw[aq G]
   refine k _ _ ⟨c,rfl,dz xa,?_⟩;rw[af,e1,lH];exact c6 ih (c6 HO.lst (nG (line.map V.str) (line.idxOf a+1)))
  ·have:a = "" :=by
    by_cases z:a = ""
    ·exact z
    ·exact absurd (by simpa using z) e
   rw[show ee line a=line from aF this];exact j
  ·rintro σ Y ⟨b,rfl,ya,o⟩
   generalize ee line a=rest at q o;refine⟨_,rfl,b,rfl,⟨_,ak.of o⟩,ie (xs:=rest.map V.str) (λi σ H2=>∃u:ad V,σ=[am g,am db,ih (.str name),ih (.str a),am b,u]/\ax H H2/\H2 b=bd (rest.map V.str) /\∀y∈rest.take i,dX bk y name=none)
    ⟨none,rfl,ya,o,λy m=>(by cases m)⟩ (λi σ H2 _ ab=>by obtain⟨_,_,_,z,_⟩:=ab;exact ak.of z) ?_ ?_⟩
   ·rintro i x σ H2 za ⟨u,rfl,B,I,no⟩
    refine iV ?_;intro yd E;obtain⟨J,rfl⟩:=jC za;refine aX rfl rfl ⟨bS,λxb yb M _ p=>?_⟩;have p:yb xb=a2 (([n' rest[i],n' name]:ac Key).map kV):=p;have l:=B.trans M;refine ah rfl ⟨db,_,rfl,b7.t (k:=[n' rest[i],n' name]) (l _ _ C) p,_,rfl,?_⟩;rcases (dv.same l).look (k:=rest[i]) (n:=name) ok.nd with⟨e1,e2⟩|⟨v,d,e1,e2,zb⟩
    ·rw[e2]
     refine ah rfl ⟨l,M _ _ I,λy m=>?_⟩;rw[ir J]at m;rcases bK.mp m with z|z
     ·exact no y z
     ·rw[bN.mp z];exact e1
    ·rw[e2]
     refine iz rfl rfl rfl rfl ⟨bS,λxc yc N _ r=>?_⟩;have r:yc xc=a2 (([n' rest[i],n' name]:ac Key).map kV):=r;have L:=l.trans N;refine⟨db,v,rfl,by rw[<-e2];exact b7.t (L _ _ C) r,bS,λt zc O _ xd=>?_⟩
     exact q _ zc (L.trans O) (by rw[Lx J no e1];exact⟨t,v,rfl,xd,(zb.same N).same O⟩)
   ·rintro σ H2 ⟨u,rfl,B,I,no⟩
    rw[aE,cB]at no;exact q _ H2 B (by rw[Kb no];rfl)
inductive mE(vs:List V)(H:Hp)(Q:VK)(E:XK):Prop
 |mk{u:V}{d:UR}(_:vs=[u])(_:Ent d)(_:Rep H u d)(_:∀r us H',ax H H'->H' r=ih (.lst us)->bL H' us (cg d)->Q (.ref r) H'):mE vs H Q E
theorem Pj:bj ["_law_entry_here"] ["_law_entry_here"] (aJ tW):=bB
theorem NY(F:aS K "_law_steps" "_law_steps" tW f fd)(B:dq mg):aU P w K mg base aH 1 f fd ["_law_entry_here"] mE:=by
 refine F.bI Pj λQa A outer s H vs Q E L h=>?_
 ·obtain @⟨u,d,rfl,p,r,q⟩:=h
  intro X;refine⟨_,aw (bo (br c' (aV bp (pv 0) au) bt (bC _)) (aB (aZ (jL (aa (fy (aa bt (aa (aV bp (pv 0) au) ai))) ai)))) bG)
   (aw (bo (br c' (aV bp (pv 0) au) bt (bC _)) (aB (aZ (jL (aa (fy (aa bt (aa (aV bp (pv 0) au) ai))) (aa (fy (aa bt (aa (aV bp (pv 0) au) ai))) ai))))) bG)
   (aB (aZ (dy ki rfl B.list boot_list (aa (aV bp (pv 0) au) ai))))),?_⟩
  cases p with
  |plain n t =>
   obtain⟨a,u,rfl,e,g⟩:=two1 r;obtain rfl:=g.iA;refine ah rfl ⟨a,_,0,_,rfl,rfl,aA.of e,b',rfl,_,rfl,_,rfl,a,_,1,_,rfl,rfl,aA.of e,cT,bS,λv Y k _ h1=>⟨eM,λo H2 i _ h2=>?_⟩⟩;exact q o _ H2 (k.trans i) h2 (.cons (.tup (i _ _ h1) (.cons (.str _) (.cons (.int _) .nil))) .nil)
  |ahead x n h t =>
   obtain⟨a,vs,rfl,e,rs⟩:=r.tupI;obtain⟨M,N,rfl,y,rs⟩:=rs.fe;obtain⟨O,R,rfl,g,rs⟩:=rs.fe;obtain⟨S,T,rfl,z,rs⟩:=rs.fe;obtain rfl:=rs.mz;obtain rfl:=y.gZ;obtain rfl:=g.gZ;obtain rfl:=z.iA;refine ah rfl ⟨a,_,0,_,rfl,rfl,aA.of e,b',rfl,_,rfl,_,rfl,a,_,0,_,rfl,rfl,aA.of e,b',rfl,_,rfl,?_⟩;refine ah rfl ⟨a,_,1,_,rfl,rfl,aA.of e,cT,bS,λv Y k _ h1=>ah rfl ⟨a,_,2,_,rfl,rfl,aA.of (k _ _ e),om,bS,λo H2 i _ h2=>⟨bS,λC D l _ G=>?_⟩⟩⟩;exact q C _ D (k.trans (i.trans l)) G (.cons (.tup (l _ _ (i _ _ h1)) (.cons (.str _) (.cons (.str _) .nil))) (.cons (.tup (l _ _ h2) (.cons (.str _) (.cons (.int _) .nil))) .nil))
  |behind ds I J =>
   obtain⟨a,u,rfl,e,g⟩:=two1 r;obtain⟨b,vs,rfl,m,rs⟩:=g.tupI;refine ah rfl ⟨a,_,0,_,rfl,rfl,aA.of e,b',rfl,_,rfl,_,rfl,a,_,0,_,rfl,rfl,aA.of e,b',rfl,_,rfl,_,rfl,a,_,1,_,rfl,rfl,aA.of e,cT,b,_,rfl,.inr (aA.of m),λc j=>q c _ _ (dz j) af (rs.same (dz j))⟩
  |jS ds I J =>
   obtain⟨a,u,rfl,e,g⟩:=two1 r;obtain⟨b,vs,rfl,m,rs⟩:=g.tupI;refine ah rfl ⟨a,_,0,_,rfl,rfl,aA.of e,b',rfl,_,rfl,_,rfl,a,_,0,_,rfl,rfl,aA.of e,b',rfl,_,rfl,_,rfl,a,_,1,_,rfl,rfl,aA.of e,cT,b,_,rfl,.inr (aA.of m),λc j=>q c _ _ (dz j) af (rs.same (dz j))⟩
theorem Tells.or{t u:TT}{a b:Bool}(h:Tells t σ H a)(k:a=false ->∀Y,ax H Y->Tells u σ Y b):Tells (vp t u) σ H (a||b):=λR q=>h _ λY c=>by
 cases a with
 |true=>exact q _ c
 |false=>exact k rfl Y c R λH2 d=>q _ (c.trans d)
theorem vk{t:TT}{a te:TS}{D:L2.Ends}{b:Bool}(h:Tells t σ H b)(k:∀Y,ax H Y->if b=true then a D σ Y else te D σ Y):uW t a te D σ H:=h _ k
def mS:Rs->List V
 |.told z=>[.str "told",.int z]
 |.miss n=>[.str "missing",.str n]
def QQ(H:Hp)(v:V):Option Rs->Prop
 |none=>v=.aO
 |some r=>∃t,v=.ref t/\H t=ih (.tup (mS r))
def f9(H:Hp)(kk:List (List Key×V))(ka:List (Ask×Rs)):Prop:=VX (λkv p=>kv.1=bZ p.1 /\∃t,kv.2=V.ref t/\H t=ih (.tup (mS p.2))) kk ka
theorem f9.keep{ka:ac (Ask×Rs)}(h:f9 H kk ka)(k:∀b xs,H b=a2 xs->H' b=a2 xs):f9 H' kk ka:=Paired.imp' (λ_ _ a=>by obtain⟨e,t,e1,e2⟩:=a;exact ⟨e,t,e1,k _ _ e2⟩) h
theorem f9.same{ka:ac (Ask×Rs)}(h:f9 H kk ka)(S:ax H H'):f9 H' kk ka:=h.keep λ_ _ e=>S _ _ e
theorem f9.val{ka:ac (Ask×Rs)}(h:f9 H kk ka)(a:Ask):(bb kk (bZ a)=none/\ka.lookup a=none) \/∃t r,bb kk (bZ a)=ih (.ref t)/\ka.lookup a=ih r/\H t=a2 (mS r):=by
 induction h with
 |nil=>exact .inl ⟨rfl,rfl⟩
 |@cons d p kk ka e _ f =>
  obtain⟨b,t,e1,e2⟩:=e
  by_cases c:p.1=a
  ·exact .inr ⟨t,p.2,by rw[ft (by rw[b,c]),e1],by rw[<-c];show VP p.1 ((p.1,p.2)::ka)=_;rw[dt,oS],e2⟩
  ·have ne : ¬ d.1=bZ a:=λz=>c (Cf (b.symm.trans z))
   have g:VP a (p::ka)=ka.lookup a:=by show VP a ((p.1,p.2)::ka)=_;rw[dt,show(a==p.1)=false by simp[aT c]]
   rw[eR ne,g];exact f
theorem Ly{d:UR}(e:Ent d):decide (a9 d∈(["plain","behind"]:ac FF)) = !jI d:=by
 cases e with
 |plain n=>show decide (("plain" : FF)∈(["plain","behind"]:ac FF)) = !decide (("plain" : FF) = "ahead" \/ ("plain" : FF) = "shut");decide +kernel
 |ahead x n=>show decide (("ahead" : FF)∈(["plain","behind"]:ac FF)) = !decide (("ahead" : FF) = "ahead" \/ ("ahead" : FF) = "shut");decide +kernel
 |behind ds=>show decide (("behind" : FF)∈(["plain","behind"]:ac FF)) = !decide (("behind" : FF) = "ahead" \/ ("behind" : FF) = "shut");decide +kernel
 |jS ds=>show decide (("shut" : FF)∈(["plain","behind"]:ac FF)) = !decide (("shut" : FF) = "ahead" \/ ("shut" : FF) = "shut");decide +kernel
theorem i4{W:aP}{a:Ask->Option Rs}{w:FF}{d:UR}{ds:ac UR}{t:Int}(c:W.need n w d=none):W.dH a n w (d::ds) t=W.dH a n w ds (stepT t d):=by
 show(match W.need n w d with|none=>_|some b=>_)=_;rw[c]
theorem Kc{d:UR}(e:eh d):a9 d = "add" \/ a9 d = "times" \/ a9 d = "ask" \/ a9 d = "onward" :=by
 cases e with
 |add n=>exact .inl rfl
 |times n=>exact .inr (.inl rfl)
 |ask x=>exact .inr (.inr (.inl rfl))
 |mf=>exact .inr (.inr (.inr rfl))
theorem eL.same{r:ad (FF×UR)}(h:eL H v r)(S:ax H H'):eL H' v r:=by
 cases r with
 |none=>exact h
 |some p=>obtain⟨t,u,e,a,b⟩:=h;exact⟨t,u,e,S _ _ a,b.same S⟩
theorem Bw{i j g:Nat}{W:aP}{a:Ask}(h1:σ[i]?=ih (ih (.str n)))(h2:σ[j]?=ih (ih (.ref ow)))(h:σ[g]?=ih (ih v))(r:H ow=bn (c4 W.own))(b:eL H v (W.look a))(o:∀wh d,W.look a=ih (wh,d)->Ent d) :
  Tells (uV (tB (u6 (gI i) (gI j))) (vp (qo (j1 (λx y H Q=>y=.aO/\Q (.bl (decide (x=.aO))) H) (gI g) (tC .aO))) (qo (j1 (oC K false) (j1 (qG K) (j1 (qG K) (gI g) (tC (.int 1))) (tC (.int 0))) (Ds (ux (tC (.str "plain")) (ux (tC (.str "behind")) u2))))))) σ H ((W.own.lookup n).isSome&&W.eX a):=by
 refine .and (λR k=>⟨_,h1,_,h2,ow,_,rfl,b7.k (k:=n' n) r,_,rfl,by rw[nO,rX];exact k _ (ax.refl _)⟩) λ_ C l R k=>?_
 cases f:W.look a with
 |none =>
  rw[f]at b;rw[show W.eX a=true by unfold aP.eX;rw[f]]at k
  have b:v=V.aO:=b;subst b;exact⟨_,h,rfl,_,rfl,k _ (ax.refl _)⟩
 |some p =>
  obtain⟨y,d⟩:=p;rw[f]at b;rw[show W.eX a = !jI d by unfold aP.eX;rw[f]]at k
  obtain⟨t,u,rfl,s,w⟩:=b;have m:=o y d f;obtain⟨z,xs,rfl,q⟩:=t6 m (w.same l);refine⟨_,h,rfl,_,rfl,_,h,t,_,1,_,rfl,rfl,aA.of (l _ _ s),cT,z,_,0,_,rfl,rfl,aA.of q,b',bS,λc D A _ B=>⟨c,_,rfl,.inl (ak.of B),rfl,rfl,?_⟩⟩;have e:lq (.str (a9 d)) ((["plain","behind"]:ac FF).map V.str) = !jI d:=by
   rw[iT];exact Ly m
  have:=k _ A;rw[<-e]at this;exact ah rfl this
inductive mF(vs:List V)(H:Hp)(Q:VK)(E:XK):Prop
 |mk{la db ow dk ky:E8}{line:List FF}{kvs kk:List (List Key×V)}{bk:Bk}{own:Own}{ka:List (Ask×Rs)}{a:Ask}(_:vs=[.ref la,.ref db,.ref ow,.ref dk,.ref ky])(_:H la=ih (.lst (line.map V.str)))(_:H db=ih (.dT kvs))(_:cy H kvs bk)(_:gq bk)(_:H ow=ih (.dK (c4 own)))(_:H dk=ih (.dT kk))(_:f9 H kk ka)(_:H ky=ih (.tup [.str a.1,.str a.2]))(_:a.2 = "" \/ a.2∈line)
  (_:∀v H',ax H H'->QQ H' v (aP.ck ⟨line,bk,own⟩ (λb=>ka.lookup b) a)->Q v H'):mF vs H Q E
noncomputable abbrev rK:List FF:=["_law_line_here","_law_book_here","_law_own","_law_known_here","_law_key"]
noncomputable abbrev QR:List FF:=["_law_line_here","_law_book_here","_law_own","_law_known_here","_law_key","_law_name","_law_behind","_law_spot_here","_law_total","_law_step_here","_law_here"]
theorem hX:bj QR rK (aJ vD):=bB
theorem NZ(F:aS K "_law_go" "_law_go" vD f fd)(yq:bH P w K mg base aH 1 fS dS rJ jU "_law_spot")(zA:bH P w K mg base aH 1 fL dL ["_law_entry_here"] mE "_law_steps"):aU P w K mg base aH 2 f fd rK mF:=by
 refine F.bI hX λQa A outer s H vs Q E N h=>?_
 ·obtain @⟨zq,db,ow,dk,yf,line,kvs,kk,bk,own,ka,a,rfl,yj,zj,dv,ok,xk,zt,xB,xu,yB,q⟩:=h
  have ye:a4 1 _:=N;have G:=eF N.units;intro X;refine⟨_,aw (i0 (pv 4) (ik rfl (c2 (bf 5 hX.nd) (c2 (bf 6 hX.nd) gB))))
   (aw (a3 7 hX.nd (ba yq ye (aa (pv 0) (aa (pv 1) (aa (pv 5) (aa (pv 6) ai))))))
   (aw (bo (PW.pt (pw_and (br c' (pv 6) bt (bC _)) (pw_and (fX (i1 G (pv 5) (pv 2))) (pw_and1 (PW.pt (pw_or (br gD (pv 7) dV (bC _)) (pw_or1 (br jw (aV bp (aV bp (pv 7) au) au) (jL (aa bt (aa bt ai))) rfl))))))))
    (aB (aZ (fy (aa bt (aa (d4 G (pv 2) (pv 5)) ai))))) bG)
   (aw (bo (br gD (pv 7) dV (bC _)) (aB (aZ (fy (aa bt (aa (pv 5) ai))))) bG)
   (aw (a3 8 hX.nd au)
   (aw (eK d9 rfl (c8 (ba zA ye (aa (aV bp (pv 7) au) ai))) (bf 9 hX.nd)
    (aw (a3 10 hX.nd (fy (aa (pv 5) (aa (aV bp (pv 7) au) ai))))
    (aw (bo (br c' (aV bp (pv 9) au) bt (bC _)) (aB (a3 10 hX.nd (fy (aa (aV bp (pv 9) au) (aa bt ai))))) bG)
    (aB (bo (br c' (aV bp (pv 9) au) bt (bC _)) (aB (a3 8 hX.nd (bA e4 (pv 8) (aV bp (pv 9) au))))
     (aB (bo (br c' (aV bp (pv 9) au) bt (bC _)) (aB (a3 8 hX.nd (bA nQ (pv 8) (aV bp (pv 9) au))))
      (aB (bo (PW.pt (pw_or (br c' (aV bp (pv 9) au) bt (bC _)) (pw_or1 (fX (tE (ba yq ye (aa (pv 0) (aa (pv 1) (aa (pv 5) (aa (aV bp (pv 7) au) ai))))))))))
       (aw (bo (fX (pq G (pv 10) (pv 3))) (aB (aZ dV)) bG)
       (aw (bo (br c' (aV bp (d4 G (pv 3) (pv 10)) au) bt (bC _)) (aB (aZ (d4 G (pv 3) (pv 10)))) bG)
       (aB (a3 8 hX.nd (bA e4 (pv 8) (aV bp (d4 G (pv 3) (pv 10)) au))))))
       bG)))))))))
   (aB (aZ (fy (aa bt (aa (pv 8) ai)))))))))),?_⟩
  generalize zf:(⟨line,bk,own⟩:aP)=W at q;have xg:W.line=line:=by rw[<-zf]
  have eB:W.bk=bk:=by rw[<-zf]
  have yg:W.own=own:=by rw[<-zf]
  refine gf λU j=>?_;intro o I;refine ah rfl ⟨yf,_,rfl,aA.of xu,rfl,_,_,rfl,_,_,rfl,rfl,?_⟩;refine b8 j λU j=>?_;intro o I;refine iz rfl rfl rfl rfl (jU.mk rfl yj zj dv ok yB λv Y xr l=>?_);have yk:W.look a=c0 bk a.1 (ee line a.2):=by unfold aP.look;rw[eB,xg]
  rw[<-yk]at l;have xt:=xr _ _ xk;have zk:∀wh d,W.look a=ih (wh,d)->Ent d:=λwh d e=>by rw[yk]at e;exact(kF ok wh d e).2
  have yu:∀wh d,W.look a=ih (wh,d)->wh∈line:=λwh d e=>by rw[<-xg];exact l9 e
  refine b8 j λU j=>?_;intro o I;have yt:Y ow=bn (c4 W.own):=by rw[yg];exact xt
  refine vk (b:=decide (V.str a.2=V.str "")&&((W.own.lookup a.1).isSome&&W.eX a)) (.and (λR k=>ah rfl ⟨rfl,_,rfl,k _ (ax.refl _)⟩) λ_ zB J=>Bw rfl rfl rfl (J _ _ yt) (eL.same l J) zk) λzB J=>?_;have ya:=xr.trans J
  by_cases zg:a.2 = "" /\ (W.own.lookup a.1).isSome=true/\W.eX a=true
  ·obtain⟨xl,yl,zl⟩:=zg
   obtain⟨z,xh⟩:=rP.mp yl;rw[yg]at xh;have xC:bb (c4 own) (n' a.1)=ih (.int z):=by rw[nO,xh];rfl
   have xc:W.cU a=ih z:=by unfold aP.cU;rw[aF ⟨xl,zl⟩,yg,xh]
   rw[aF (by rw[yl,zl,xl];rfl)]
   refine aX rfl rfl ⟨ow,.int z,rfl,by rw[<-xC];exact b7.k (k:=n' a.1) (ya _ _ xk),bS,λt yh zh _ O=>?_⟩
   exact q _ yh (ya.trans zh) (by unfold aP.ck;rw[xc];exact⟨t,rfl,O⟩)
  have xc:W.cU a=none:=by
   unfold aP.cU
   by_cases yc:a.2 = "" /\ W.eX a=true
   ·rw[aF yc]
    cases e:W.own.lookup a.1 with
    |none=>rfl
    |some z=>exact absurd ⟨yc.1,by rw[e];rfl,yc.2⟩ zg
   ·rw[aq yc]
  rw[aq (λz=>zg (by
   rw[gP,gP]at z;refine⟨?_,z.2.1,z.2.2⟩;have e:=dQ z.1;injection e))]
  refine b8 j λU j=>?_;intro o I;cases L:W.look a with
  |none =>
   rw[L]at l;have l:v=V.aO:=l;subst l;refine ah rfl ⟨rfl,_,rfl,_,rfl,bS,λt yh zh _ O=>?_⟩;exact q _ yh (ya.trans zh) (by unfold aP.ck;rw[xc,L];exact⟨t,rfl,O⟩)
  |some p =>
  obtain⟨wh,d⟩:=p;rw[L]at l;obtain⟨t,u,rfl,O,yC⟩:=l;have S:=zk wh d L;have zu:=yu wh d L;have xv:W.ck (λb=>ka.lookup b) a=W.dH (λb=>ka.lookup b) a.1 wh (cg d) 0:=by unfold aP.ck;rw[xc,L]
  rw[xv]at q;obtain⟨yv,yF⟩:=tq S;have xm:=J _ _ O;refine ah rfl ⟨rfl,_,rfl,?_⟩;refine b8 j λU j=>?_;intro o I;refine ?_;refine b8 j λU j=>?_;intro o I;refine ah rfl ⟨t,_,1,_,rfl,rfl,aA.of xm,cT,mE.mk rfl S (yC.same J) λzC us xD yr ym zm=>?_⟩;have xn:=ya.trans yr;have yn:=yr _ _ xm;have zv:=bL.length zm;refine⟨zC,rfl,⟨_,ak.of ym⟩,ie (xs:=us) (λi σ zc=>∃(z:Int) (xi ze:ad V),σ=[am zq,am db,am ow,am dk,am yf,ih (.str a.1),ih (.str a.2),am t,ih (.int z),xi,ze]/\ax xD zc/\W.dH (λb=>ka.lookup b) a.1 wh ((cg d).drop i) z=W.dH (λb=>ka.lookup b) a.1 wh (cg d) 0)
   ⟨0,none,none,rfl,ax.refl _,rfl⟩ (λi σ zc _ ab=>by obtain⟨_,_,_,_,z,_⟩:=ab;exact ak.of (z _ _ ym)) ?_ ?_⟩
  ·rintro i x σ zc yD ⟨z,xi,ze,rfl,T,n⟩
   refine iV ?_;intro o I;obtain⟨g,zn,zD⟩:=bL.get (bL.same zm T) yD;have zr:eh g:=yv g (eO zn);have xw:(cg d).drop i=g::(cg d).drop (i+1):=by
    obtain⟨hi,e⟩:=b3.mp zn;rw[<-e];exact lB hi
   rw[xw]at n;obtain⟨B,xs,rfl,yw,xo,zw,xx⟩:=pZ zr zD;refine gf λU j=>?_;intro o xE;refine aX rfl rfl ⟨t,_,0,_,rfl,rfl,aA.of (T _ _ yn),b',bS,λh1 yi xd _ yx=>?_⟩;refine b8 j λU j=>?_;intro o xE;have xa:=xd _ _ yw;obtain⟨b,za⟩:∃b:Ask,b=if a9 g = "ask" then (d0 g,("" : FF)) else (a.1,wh):=⟨_,rfl⟩;refine ah rfl ⟨B,_,0,_,rfl,rfl,aA.of xa,b',rfl,_,rfl,uU (λzx H'=>∃N,zx=[am zq,am db,am ow,am dk,am yf,ih (.str a.1),ih (.str a.2),am t,ih (.int z),am B,am N]/\ax yi H'/\H' N=a2 [.str b.1,.str b.2]) (λe k=>?_) (λe=>⟨h1,rfl,ax.refl _,?_⟩) ?_⟩
   ·have e:a9 g = "ask" :=by
     have:=dQ e;injection this
    have ex:=zw e;rw[ex]at xa;refine ah rfl ⟨B,_,1,_,rfl,rfl,aA.of xa,cT,bS,λh2 yE yd _ xy=>k _ _ ⟨h2,rfl,yd,?_⟩⟩;rw[za,aF e];exact xy
   ·have e:a9 g ≠ "ask" :=λz=>e (by rw[z];exact cf rfl)
    rw[za,aq e];exact yx
   rintro σ yE ⟨yo,rfl,yd,zE⟩;have yy:=xd.trans yd;have M:=T.trans yy;have xb:=xn.trans M;have D:=yd _ _ xa;have zy:=M _ _ yn;refine gn j ?_;intro o;refine ah rfl ⟨B,_,0,_,rfl,rfl,aA.of D,b',rfl,_,rfl,bY (λe=>?_) (λe=>?_)⟩
   ·have e:a9 g = "add" :=by
     have:=dQ e;injection this
    have ex:=xo (.inl e);rw[ex]at D;refine aX rfl rfl ⟨B,_,1,_,rfl,rfl,aA.of D,cT,_,_,rfl,rfl,_,_,_,rfl,M,?_⟩;rw[<-n,i4 (by unfold aP.need;rw[aq (by rw[e];decide +kernel),aq (by rw[e];decide +kernel)])]
    unfold stepT;rw[aF e]
   have xf:a9 g ≠ "add" :=λz=>e (by rw[z];exact cf rfl)
   refine ah rfl ⟨B,_,0,_,rfl,rfl,aA.of D,b',rfl,_,rfl,bY (λe=>?_) (λe=>?_)⟩
   ·have e:a9 g = "times" :=by
     have:=dQ e;injection this
    have ex:=xo (.inr e);obtain⟨lo,hi⟩:=xx e;rw[ex]at D;refine aX rfl rfl ⟨B,_,1,_,rfl,rfl,aA.of D,cT,_,_,rfl,rfl,.inr ⟨by omega,by omega⟩,_,_,_,rfl,M,?_⟩
    rw[<-n,i4 (by unfold aP.need;rw[aq (by rw[e];decide +kernel),aq (by rw[e];decide +kernel)])]
    unfold stepT;rw[aq xf,aF e]
   have zo:a9 g ≠ "times" :=λz=>e (by rw[z];exact cf rfl)
   refine vk (b:=decide (V.str (a9 g)=V.str "ask")||(W.look (a.1,wh)).isSome) (.or (λR k=>ah rfl ⟨B,_,0,_,rfl,rfl,aA.of D,b',rfl,_,rfl,k _ (ax.refl _)⟩) λ_ Z C R k=>?_) λZ C=>?_
   ·refine iz rfl rfl rfl rfl ⟨t,_,0,_,rfl,rfl,aA.of (C _ _ zy),b',jU.mk rfl ((xb.trans C) _ _ yj) ((xb.trans C) _ _ zj) (dv.same (xb.trans C)) ok (.inr zu) λv zF xp l=>?_⟩
    have:c0 bk a.1 (ee line wh)=W.look (a.1,wh):=by unfold aP.look;rw[eB,xg]
    rw[this]at l;cases yp:W.look (a.1,wh) with
    |none =>
     rw[yp]at l k;have l:v=V.aO:=l;subst l;exact ah rfl (k _ xp)
    |some p =>
     rw[yp]at l k;obtain⟨t',xG,rfl,_⟩:=l;exact ah rfl (k _ xp)
   have zp:=M.trans C;have yb:=xb.trans C;have xz:=C _ _ zE;have xq:Z yo=a2 ((bZ b).map kV):=xz;have tg:a9 g = "ask" \/ a9 g = "onward" :=by
    rcases Kc zr with e|e|e|e
    ·exact absurd e xf
    ·exact absurd e zo
    ·exact .inl e
    ·exact .inr e
   have an:∀c:Bool,c=(decide (V.str (a9 g)=V.str "ask")||(W.look (a.1,wh)).isSome)->(c=true->W.need a.1 wh g=ih b)/\(c=false->W.need a.1 wh g=none/\a9 g = "onward"):=λc zd=>by
    rcases tg with e|e
    ·have:c=true:=by rw[zd,e];simp
     exact⟨λ_=>by unfold aP.need;rw[aF e,za,aF e],λz=>by rw[this]at z;cases z⟩
    ·have n1:a9 g ≠ "ask" :=by rw[e];decide +kernel
     have e1:decide (V.str (a9 g)=V.str "ask")=false:=ej λz=>n1 (by injection z)
     rw[e1,wu]at zd;have S:W.need a.1 wh g=if (W.look (a.1,wh)).isSome=true then ih (a.1,wh) else none:=by unfold aP.need;rw[aq n1,aF e]
     exact⟨λz=>by rw[S,<-zd,aF z,za,aq n1],λz=>⟨by rw[S,<-zd,aq (by rw[z];exact cc)],e⟩⟩
   obtain⟨yz,zz⟩:=an _ rfl;refine bY (λc=>?_) (λc=>?_)
   ·have zi:=yz c
    rw[gU zi]at n;refine gf λU j=>?_;intro o xF;have xA:=xB.same yb;have xj:=yb _ _ zt;refine aX rfl rfl ⟨dk,_,rfl,b7.t (k:=bZ b) xj xq,_,rfl,?_⟩;rcases xA.val b with⟨e1,e2⟩|⟨y,r,e1,e2,zb⟩
    ·rw[e1]
     rw[e2]at n;exact q _ Z yb (by rw[<-n];rfl)
    ·rw[e1]
     rw[e2]at n;refine b8 j λU j=>?_;intro o xF;have xe:b7 Z dk (.ref yo) (ih (.ref y)):=by rw[<-e1];exact b7.t (k:=bZ b) xj xq
     cases r with
     |miss m =>
      refine aX rfl rfl ⟨dk,.ref y,rfl,xe,y,_,0,_,rfl,rfl,aA.of zb,b',rfl,_,rfl,?_⟩;refine bY (λ_=>?_) (λz=>absurd (cf rfl) z);exact aX rfl rfl ⟨dk,.ref y,rfl,xe,q _ Z yb (by rw[<-n];exact⟨y,rfl,zb⟩)⟩
     |told z2 =>
      refine aX rfl rfl ⟨dk,.ref y,rfl,xe,y,_,0,_,rfl,rfl,aA.of zb,b',rfl,_,rfl,?_⟩;refine bY (λz=>absurd z (by decide +kernel)) (λ_=>?_)
      refine gn j ?_;intro o;exact dZ rfl rfl rfl ⟨dk,.ref y,rfl,xe,y,_,1,_,rfl,rfl,aA.of zb,cT,_,_,rfl,rfl,_,_,_,rfl,zp,n⟩
   ·obtain⟨zi,e⟩:=zz (by simpa using c)
    rw[i4 zi]at n;have:stepT z g=z:=by unfold stepT;rw[aq xf,aq zo]
    rw[this]at n;exact⟨_,_,_,rfl,zp,n⟩
  ·rintro σ zc ⟨z,xi,ze,rfl,T,n⟩
   rw[zv,wW]at n;refine gn j ?_;intro o;refine ah rfl ⟨bS,λt' yi xd _ yA=>?_⟩;exact q _ yi (xn.trans (T.trans xd)) (by rw[<-n];exact⟨t',rfl,yA⟩)
def Em(W:aP)(ka:List (Ask×Rs)):Prop:= ∀p∈ka,W.Out p.1 p.2
theorem lookup_mem{a:Ask}{r:Rs}:∀{ka:ac (Ask×Rs)},ka.lookup a=ih r->(a,r)∈ka
 |[],e=>by cases e
 |p::ka,e=>by
  by_cases c:a=p.1
  ·subst c
   have e:VP p.1 ((p.1,p.2)::ka)=ih r:=e;rw[dt,oS]at e;cases e;exact aY
  ·have e:VP a ((p.1,p.2)::ka)=ih r:=e
   rw[dt,show(a==p.1)=false by simp[c]]at e
   exact bc _ (lookup_mem e)
theorem lookup_none{a:Ask}:∀{ka:ac (Ask×Rs)},ka.lookup a=none ↔ a ∉ ka.map (·.1)
 |[]=>by simp
 |p::ka=>by
  have b:=lookup_none (a:=a) (ka:=ka);show VP a ((p.1,p.2)::ka)=none ↔ _;rw[dt,b4,bJ]
  by_cases c:a=p.1
  ·simp[c]
  ·rw[show(a==p.1)=false by simp[c]]
   simp only[c,false_or];exact b
section
variable{W:aP}{f g:Ask->Option Rs}{w:FF}{ka:ac (Ask×Rs)}
theorem sQ(h:∀b r,f b=ih r->W.Out b r):∀{ds:ac UR}{t:Int}{r:Rs},W.dH f n w ds t=ih r ->∃k,W.dH (W.out k) n w ds t=ih r
 |[],t,r,e=>⟨0,e⟩
 |d::ds,t,r,e=>by
  cases a:W.need n w d with
  |none =>
   rw[i4 a]at e;obtain⟨k,c⟩:=sQ h e;exact⟨k,by rw[i4 a];exact c⟩
  |some b =>
   rw[gU a]at e;cases g:f b with
   |none=>rw[g]at e;cases e
   |some x =>
    obtain⟨k,c⟩:=h b x g;rw[g]at e;cases x with
    |miss m=>exact⟨k,by rw[gU a,c];exact e⟩
    |told z =>
     obtain⟨m,i⟩:=sQ h e;refine⟨max k m,?_⟩;rw[gU a,mi (aaZ k m) c];exact nH (λ_ _ q=>mi (aaL k m) q) i
theorem Af(h:∀b r,f b=ih r->W.Out b r){a:Ask}{r:Rs}(e:W.ck f a=ih r):W.Out a r:=by
 unfold aP.ck at e;cases c:W.cU a with
 |some z=>rw[c]at e;cases e;exact Out.own c
 |none =>
  rw[c]at e;cases d:W.look a with
  |none=>rw[d]at e;cases e;exact Out.none c d
  |some p =>
   rw[d]at e;obtain⟨k,g⟩:=sQ h e;exact⟨k+1,by show W.ck _ a=_;unfold aP.ck;rw[c,d];exact g⟩
theorem sR{k:Ask->Prop}(h:∀b r,k b->f b=ih r->g b=ih r):∀{ds:ac UR}{t:Int}{r:Rs},(∀s∈ds,∀b,W.need n w s=ih b->k b)->W.dH f n w ds t=ih r->W.dH g n w ds t=ih r
 |[],t,r,_,e=>e
 |d::ds,t,r,a,e=>by
  cases c:W.need n w d with
  |none=>rw[i4 c]at e⊢;exact sR h (λs i=>a s (bc _ i)) e
  |some b =>
   rw[gU c]at e⊢;cases j:f b with
   |none=>rw[j]at e;cases e
   |some x =>
    rw[h b x (a d aY b c) j];rw[j]at e;cases x with
    |miss m=>exact e
    |told z=>exact sR h (λs i=>a s (bc _ i)) e
def Within(W:aP)(Uv:Ask->Prop)(a:Ask):Prop:= ∀wh d,W.look a=ih (wh,d) ->∀s∈cg d,∀b,W.need a.1 wh s=ih b->Uv b
theorem Ag{d:Ask->Prop}(h:∀b r,d b->f b=ih r->g b=ih r){a:Ask}(wi:Within W d a){r:Rs}(e:W.ck f a=ih r):W.ck g a=ih r:=by
 unfold aP.ck at e⊢;cases i:W.cU a with
 |some z=>rw[i]at e;exact e
 |none =>
  rw[i]at e;cases c:W.look a with
  |none=>rw[c]at e;exact e
  |some p=>rw[c]at e;exact sR h (wi p.1 p.2 c) e
structure Table(W:aP)(Uv:Ask->Prop)(ka:List (Ask×Rs)):Prop where
 ok:Em W ka
 cl:∀a,Uv a->ka.lookup a=none->W.ck (λb=>ka.lookup b) a=none
 wi:∀a,Uv a->Within W Uv a
theorem Table.all{d:Ask->Prop}(T:Table W d ka):∀(k:Nat) (a:Ask) (r:Rs),d a->W.out k a=ih r->ka.lookup a=ih r
 |0,_,_,_,e=>by cases e
 |k+1,a,r,u,e=>by
  have e2:W.ck (λb=>ka.lookup b) a=ih r:=Ag (λb c g=>T.all k b c g) (T.wi a u) e;cases f:ka.lookup a with
  |none=>rw[T.cl a u f]at e2;cases e2
  |some c=>exact c6 ih (Out.uniq (T.ok (a,c) (lookup_mem f)) ⟨k+1,e⟩)
theorem Table.bO{d:Ask->Prop}(T:Table W d ka){a:Ask}(wi:Within W d a)(r:Rs):W.ck (λb=>ka.lookup b) a=ih r ↔ W.Out a r:=by
 constructor
 ·exact Af λb c e=>T.ok (b,c) (lookup_mem e)
 ·rintro⟨k,f⟩
  cases k with
  |zero=>cases f
  |succ k=>exact Ag (λb c g=>T.all k b c g) wi f
end
def lu(W:aP)(ns:List FF)(a:Ask):Prop:=a.1∈ns/\(a.2 = "" \/ a.2∈W.line)
theorem within{W:aP}(i:∀p∈W.bk,∀s∈cg p.2.2,a9 s = "ask" -> d0 s∈ns)(j:∀p∈W.bk,p.2.1∈ns)(a:Ask):Within W (lu W ns) a:=by
 intro wh d f s k b e;have g:(wh,a.1,d)∈W.bk:=km (jG f).2;unfold aP.need at e
 by_cases c:a9 s = "ask"
 ·rw[aF c]at e;cases e;exact⟨i _ g s k c,.inl rfl⟩
 ·rw[aq c]at e
  by_cases h:a9 s = "onward"
  ·rw[aF h]at e
   split at e
   ·cases e;exact⟨j _ g,.inr (l9 f)⟩
   ·cases e
  ·rw[aq h]at e;cases e
def fz(H:Hp)(vs:List V)(as:List Ask):Prop:=VX (λv a=>∃t,v=V.ref t/\H t=ih (.tup [.str a.1,.str a.2])) vs as
theorem fz.keep{a:ac Ask}(h:fz H vs a)(k:∀b xs,H b=a2 xs->H' b=a2 xs):fz H' vs a:=Paired.imp' (λ_ _ c=>by obtain⟨t,e,q⟩:=c;exact ⟨t,e,k _ _ q⟩) h
theorem fz.same{a:ac Ask}(h:fz H vs a)(S:ax H H'):fz H' vs a:=h.keep λ_ _ e=>S _ _ e
theorem fz.append{a bs:ac Ask}(h:fz H vs a)(g:fz H ws bs):fz H (vs++ws) (a++bs):=by
 induction h with
 |nil=>exact g
 |cons e _ b=>exact .cons e b
def gV(ns bs:List FF):List Ask:=bs.flatMap λb=>ns.map λn=>(n,b)
theorem Ah{bs:ac FF}{a:Ask}:a∈gV ns bs ↔ a.1∈ns/\a.2∈bs:=by
 unfold gV;rw[oZ]
 constructor
 ·rintro⟨b,c,h⟩
  obtain⟨n,d,rfl⟩:=a6.mp h;exact⟨d,c⟩
 ·rintro⟨h1,h2⟩
  exact⟨a.2,h2,a6.mpr ⟨a.1,h1,rfl⟩⟩
theorem Ai(ns:ac FF):∀bs:ac FF,(gV ns bs).length=bs.length * ns.length
 |[]=>by simp[gV]
 |b::bs=>by
  have a:=Ai ns bs;unfold gV at a⊢;rw[F5,bX,a,aE,cV,r5,abO,Nat.add_comm]
theorem AJ{ns:ac FF}(a:ns.Nodup):∀{bs:ac FF},bs.Nodup->(gV ns bs).Nodup
 |[],_=>fc
 |b::bs,d=>by
  obtain⟨h1,h2⟩:=d8.mp d;have f:=AJ a h2;show((ns.map λn=>((n,b):Ask))++gV ns bs).Nodup;refine dw.mpr ⟨a.map _ λx y n e=>n (aaX e).1,f,λx g y c e=>?_⟩;obtain⟨n,_,rfl⟩:=a6.mp g;exact h1 (by rw[<-e]at c;exact(Ah.mp c).2)
structure KI(H0:Hp)(W:aP)(all:List Ask)(dk:E8)(kk:List (List Key×V))(ka:List (Ask×Rs))(H:Hp):Prop where
 S:ax H0 H
 hd:H dk=ih (.dT kk)
 kt:f9 H kk ka
 ok:Em W ka
 nd:(ka.map (·.1)).Nodup
 ei:∀p∈ka,p.1∈all
theorem KI.a5{W:aP}{all:ac Ask}{ka:ac (Ask×Rs)}(h:KI H0 W all dk kk ka H):kk.length<=all.length:=by
 have:=mv h.nd λx a=>(by obtain⟨p,b,rfl⟩:=a6.mp a;exact h.ei p b:x∈all)
 rw[aE]at this;rw[cN h.kt];exact this
theorem KI.same{W:aP}{all:ac Ask}{ka:ac (Ask×Rs)}(h:KI H0 W all dk kk ka H)(S:ax H H'):KI H0 W all dk kk ka H':=⟨h.S.trans S,S _ _ h.hd,h.kt.same S,h.ok,h.nd,h.ei⟩
theorem KI.wr{W:aP}{all:ac Ask}{ka:ac (Ask×Rs)}(h:KI H0 W all dk kk ka H)(k:∀b o,b≠l->H b=ih o->H' b=ih o)(n:dk≠l)(f:H0 l=none)(a:H l=bd xs):KI H0 W all dk kk ka H':=⟨λb o e=>k _ _ (ay e f) (h.S _ _ e),k _ _ n h.hd,h.kt.keep λb ys e=>k _ _ (ar e a) e,h.ok,h.nd,h.ei⟩
theorem KI.put{W:aP}{all:ac Ask}{t:E8}{ka:ac (Ask×Rs)}{a:Ask}{r:Rs}(h:KI H0 W all dk kk ka H)(f:H0 dk=none)(g:a ∉ ka.map (·.1))(i:a∈all)(o:W.Out a r)(j:H t=a2 (mS r)):KI H0 W all dk (kk++[(bZ a,.ref t)]) (ka++[(a,r)]) (upd H dk (.dT (kk++[(bZ a,.ref t)]))):=by
 have up:∀b xs,H b=a2 xs->upd H dk (.dT (kk++[(bZ a,.ref t)])) b=a2 xs:=λb xs e=>by rw[ag (ar e h.hd)];exact e
 refine⟨λb o e=>by rw[ag (ay e f)];exact h.S _ _ e,af,gQ (h.kt.keep up) ⟨rfl,t,rfl,up _ _ j⟩,λp c=>?_,?_,λp c=>?_⟩
 ·rcases bK.mp c with z|z
  ·exact h.ok p z
  ·rw[bN.mp z];exact o
 ·rw[a']
  exact dw.mpr ⟨h.nd,by simp,λx k y d e=>g (by have d:y=a:=bN.mp d;rw[<-d,<-e];exact k)⟩
 ·rcases bK.mp c with z|z
  ·exact h.ei p z
  ·rw[bN.mp z];exact i
inductive rh(vs:List V)(H:Hp)(Q:VK)(E:XK):Prop
 |mk{la db ow ln:E8}{line ns:List FF}{kvs:List (List Key×V)}{bk:Bk}{own:Own}(_:vs=[.ref la,.ref db,.ref ow,.ref ln])(_:H la=ih (.lst (line.map V.str)))(_:H db=ih (.dT kvs))(_:cy H kvs bk)(_:gq bk)(_:H ow=ih (.dK (c4 own)))(_:H ln=ih (.lst (ns.map V.str)))(_:ns.Nodup)(_:line.Nodup)(_:∀k∈line,k ≠ "")(_:ns.length<=8)(_:line.length<=8)
  (_:∀p∈bk,∀s∈cg p.2.2,a9 s = "ask" -> d0 s∈ns) (_:∀p∈bk,p.2.1∈ns)
  (_:∀dk kk ka H',ax H H'->H dk=none->H' dk=ih (.dT kk)->f9 H' kk ka->Table ⟨line,bk,own⟩ (lu ⟨line,bk,own⟩ ns) ka->Q (.ref dk) H'):rh vs H Q E
abbrev vO:List FF:=["_law_line_here","_law_book_here","_law_own","_law_names_here"]
noncomputable abbrev ER:List FF:=["_law_line_here","_law_book_here","_law_own","_law_names_here","_law_left","_law_behind","_law_known_here","_law_turn","_law_rest","_law_key","_law_told_here"]
theorem iD:bj ER vO (aJ nY):=bB
def En(e:VD):VD:=match e with|.BinOp _ _ r _=>r|_=>.Constant .none 0 ⟨0,0,0,0⟩
abbrev QS:VD:=En (fg (bT (l7 (bT (bE nY) 1)) 0))
theorem Eo:b5 ER (aJ nY) ["_law_name","_law_behind"] [none,ih 5] (cG QS):=dc
theorem N0(F:aS K "_law_known" "_law_known" nY f fd)(B:dq mg)(zJ:bH P w K mg base aH 2 fG dG rK mF "_law_go"):aU P w K mg base aH 3 f fd vO rh:=by
 refine F.bI iD λQa A outer s H vs Q E yB h=>?_
 ·obtain @⟨xk,db,ow,yk,line,ns,kvs,bk,own,rfl,zw,zD,dv,ok,xE,yE,zE,xF,yF,xK,zN,za,yK,q⟩:=h
  have zF:a4 2 _:=yB;have xG:=eF yB.units;intro X;refine⟨_,aw (a3 4 iD.nd (jL ai))
   (aw (eK d9 rfl (c8 (bA hK (L7 (pv 0)) (jL (aa bt ai)))) (pQ (i:=5) iD.nd rfl (Y3 rfl))
    (aB (a3 4 iD.nd (bA hK (pv 4) (d3 rfl Eo (c8 (pv 3)) (λs H fp=>⟨bf 0 Eo.nd,et,fy (aa (pv 0) (aa (pv 1) ai))⟩))))))
   (aw (a3 6 iD.nd pD)
   (aw (eK d9 rfl (ib rfl B.range (aa (bV eQ rfl B.len eI (aa (pv 4) ai)) ai)) (bf 7 iD.nd)
    (aw (a3 8 iD.nd (jL ai))
    (aw (eK d9 rfl (c8 (pv 4)) (bf 9 iD.nd)
     (aw (a3 10 iD.nd (ba zJ zF (aa (pv 0) (aa (pv 1) (aa (pv 2) (aa (pv 6) (aa (pv 9) ai)))))))
     (aB (bo (br gD (pv 10) dV (bC _)) (aB (eJ (gj hC m3 m4 jx (pv 8) (aa (pv 9) ai)))) (aB (gC xG (pv 6) (pv 9) (pv 10) rfl))))))
    (aw (bo (br c' (bV eQ rfl B.len eI (aa (pv 8) ai)) (bV eQ rfl B.len eI (aa (pv 4) ai)) (bC _)) (aB (aZ (pv 6))) bG)
    (aB (a3 4 iD.nd (pv 8)))))))
   (aB (aZ (pv 6)))))),?_⟩
  generalize zq:(⟨line,bk,own⟩:aP)=W at q;have zB:W.line=line:=by rw[<-zq]
  have eB:W.bk=bk:=by rw[<-zq]
  refine gf λU C=>?_;intro l xr;refine⟨bD _,λyG Y yr xN xx=>?_⟩;refine b8 C λU C=>?_;intro l xr;refine ah rfl ⟨xk,_,rfl,ak.of (yr _ _ zw),λx1 yn=>⟨by show 1<=UP;exact eM,λx2 H2 zk yN yx=>⟨x1,x2,_,_,rfl,rfl,zk _ _ af,yx,by rw[Fv,aE,aW];show _+1<=_;omega,λx3 zn=>?_⟩⟩⟩
  have zi:=(yr.trans (dz (o:=.lst ((line.map V.str).reverse)) yn)).trans (zk.trans (dz (o:=.lst ((line.map V.str).reverse++[V.str ""])) zn));have xo:=(zk.trans (dz (o:=.lst ((line.map V.str).reverse++[V.str ""])) zn)) _ _ (dz (o:=.lst ((line.map V.str).reverse)) yn _ _ xx);have e3:(line.map V.str).reverse++[V.str ""]=(line.reverse++[("" : FF)]).map V.str:=by rw[a',List.map_reverse];rfl
  have ze:upd H2 x3 (.lst ((line.map V.str).reverse++[V.str ""])) x3=bd ((line.reverse++[("" : FF)]).map V.str):=by rw[e3];exact af
  generalize upd H2 x3 (.lst ((line.map V.str).reverse++[V.str ""]))=zK at zi ze xo⊢;have cz:(line.reverse++[("" : FF)]).Nodup:=dw.mpr ⟨(List.reverse_perm line).nodup_iff.mpr xF,by simp,λx xf y d e=>yF x (aaB.mp xf) (by rw[e];exact bN.mp d)⟩
  have zl:∀b,b∈line.reverse++[("" : FF)] ↔ b = "" \/ b∈line:=λb=>by rw[bK,aaB,bN];exact Or.comm
  have xw:(line.reverse++[("" : FF)]).length<=9:=by rw[bX,Fv];show _+1<=9;omega
  generalize line.reverse++[("" : FF)]=bs at ze cz zl xw;clear e3 zn;have xm:∀i,(gV ns (bs.take i)).length<=72:=λi=>by
   rw[Ai];have h1:(bs.take i).length<=9:=by rw[cK];omega
   exact en (w0 h1 xK) (by decide)
  refine⟨_,rfl,⟨_,ak.of ze⟩,ie (xs:=bs.map V.str) (λi σ G=>∃(lf:E8) (vs:ac V) (xa:ad V),σ=[am xk,am db,am ow,am yk,am lf,xa,none,none,none,none,none]/\ax zK G/\G lf=bd vs/\fz G vs (gV ns (bs.take i)))
   ⟨yG,[],none,rfl,ax.refl _,xo,.nil⟩ (λi σ G _ ab=>by obtain⟨_,_,_,_,z,_⟩:=ab;exact ak.of (z _ _ ze)) ?_ ?_⟩
  ·rintro i x σ G xf ⟨lf,vs,xa,rfl,yf,D,av⟩
   refine iV ?_;intro l xL;obtain⟨zG,rfl⟩:=jC xf;have yw:=(zi.trans yf) _ _ yE;refine aX rfl rfl ⟨yk,rfl,⟨_,ak.of yw⟩,λc xC=>?_⟩;refine fk (xs:=ns.map V.str) (λm ys l I=>∃zr:ad V,l=[zr,ih (.str bs[i])]/\ax G I/\I c=bd ys/\fz I ys ((ns.take m).map λn=>(n,bs[i]))) ⟨none,rfl,dz xC,af,.nil⟩ (λm ys l I ab=>by obtain⟨_,_,z1,z2,_⟩:=ab;exact ⟨z2,ak.of (z1 _ _ yw)⟩) ?_ ?_
   ·rintro m y ys l I d ⟨zr,rfl,zd,yo,zc⟩
    obtain⟨xH,rfl⟩:=jC d;refine aX rfl rfl ⟨bS,λt xt O _ zf=>?_⟩;have zx:=O _ _ yo;have up:∀b xs,xt b=a2 xs->upd xt c (.lst (ys++[V.ref t])) b=a2 xs:=λb xs e=>by rw[ag (ar e zx)];exact e
    have yl:=cN zc;rw[aE,cK]at yl;refine⟨zx,by rw[aW];omega,cw_next (b3.mp d).1 ⟨_,rfl,λb o e=>by rw[ag (ay e xC)];exact O _ _ (zd _ _ e),af,?_⟩⟩
    rw[ir xH,a'];exact gQ ((zc.same O).keep up) ⟨t,rfl,up _ _ zf⟩
   ·rintro ys l I ⟨zr,rfl,zd,yo,zc⟩
    rw[aE,cB]at zc;have lv:=cN av;have xO:=xm i;have yL:=cN zc;rw[aE]at yL;refine⟨lf,c,vs,ys,rfl,rfl,zd _ _ D,yo,by rw[aW];omega,λr zo=>?_⟩
    refine⟨r,vs++ys,_,rfl,yf.trans (zd.trans (dz zo)),af,?_⟩;rw[ir zG];show fz _ _ ((bs.take i++[bs[i]]).flatMap _);rw[o1];refine((av.same zd).same (dz zo)).append ?_;rw[F5,List.flatMap_nil,eZ];exact zc.same (dz zo)
  rintro σ G ⟨lf,vs,xa,rfl,yf,D,av⟩;rw[aE,cB]at av;have xy:=xm bs.length;rw[cB]at xy;have yy:(gV ns bs).Nodup:=AJ zE cz;have zg:∀a,a∈gV ns bs ↔ lu W ns a:=λa=>by rw[Ah,zl,<-zB];rfl
  have yt:ax H G:=zi.trans yf;clear xm ze xx xo yn yx yr zk zi yf cz zl xw;generalize gV ns bs=all at av xy yy zg;refine b8 C λU C=>?_;intro l xr;intro dk xe;have yC:=yt.trans (dz (o:=.dT []) xe);have xp:KI H W all dk [] [] (upd G dk (.dT [])):=⟨yC,af,.nil,λp zt=>(by cases zt),fc,λp zt=>(by cases zt)⟩
  have xh:=dz (o:=.dT []) xe _ _ D;have xj:=av.same (dz (o:=.dT []) xe);have yp:H dk=none:=yt.free xe;generalize upd G dk (.dT [])=yO at xp xh xj⊢;clear yC D av yt xe;refine b8 C λU C=>?_;intro l xr;refine ah rfl ⟨lf,vs,rfl,.inl (ak.of xh),_,rfl,?_⟩;have lv:=cN xj;have zy:=within (W:=W) (ns:=ns) (by rw[eB];exact za) (by rw[eB];exact yK)
  refine⟨by omega,by omega,kx (λi σ I=>∃(lf:E8) (vs:ac V) (left:ac Ask) (kk:ac (List Key×V)) (ka:ac (Ask×Rs)) (xa xb xu yb ya:ad V),σ=[am xk,am db,am ow,am yk,am lf,xa,am dk,xb,xu,yb,ya]/\KI H W all dk kk ka I/\I lf=bd vs/\fz I vs left/\left.Nodup/\(∀a∈left,a∈all)/\left.length+i<=all.length/\(∀a∈all,a∈left\/a∈ka.map (·.1)) /\∀a∈left,a ∉ ka.map (·.1))
   ⟨lf,vs,all,[],[],_,none,none,none,none,rfl,xp,xh,xj,yy,λa za=>za,aQ _,λa za=>.inl za,λa _ h=>(by cases h)⟩ ?_ ?_⟩
  ·clear xp xh xj lv
   rintro i σ I hi ⟨lf,vs,left,kk,ka,xa,xb,xu,yb,ya,rfl,g,D,av,yh,zh,ym,yj,fresh⟩;refine iV ?_;intro l xL;have lv:=cN av;refine gf λU C=>?_;intro l zL;refine⟨bD _,λJ xt O xz M=>?_⟩;have zj:=g.same O;have xi:=O _ _ D;have zp:=av.same O;have yz:dk≠J:=ar zj.hd M
   have yH:lf≠J:=ay D xz;have zH:H J=none:=g.S.free xz;refine b8 C λU C=>?_;intro l zL;refine⟨_,rfl,lf,rfl,⟨_,ak.of xi⟩,ie (xs:=vs) (λj σ R=>∃(L:ac V) (rest:ac Ask) (N:ac (List Key×V)) (u:ac (Ask×Rs)) (xb yb ya:ad V),σ=[am xk,am db,am ow,am yk,am lf,xa,am dk,xb,am J,yb,ya]/\KI H W all dk N u R/\R lf=bd vs/\fz R vs left/\R J=bd L/\fz R L rest/\rest.Sublist (left.take j)/\(∀a∈left.take j,a∈rest\/a∈u.map (·.1))/\(∀a∈rest,a ∉ u.map (·.1))/\(∀a∈left.drop j,a ∉ u.map (·.1))/\(∀a∈ka.map (·.1),a∈u.map (·.1))/\(rest.length=j->u=ka /\∀a∈left.take j,W.ck (λb=>ka.lookup b) a=none))
    ⟨[],[],kk,ka,_,_,_,rfl,zj,xi,zp,M,.nil,.refl _,λa h=>(by cases h),λa h=>(by cases h),λa h=>fresh a h,λa h=>h,λ_=>⟨rfl,λa h=>(by cases h)⟩⟩ (λj σ R _ ab=>by obtain⟨_,_,_,_,_,_,_,_,_,z,_⟩:=ab;exact ak.of z) ?_ ?_⟩
   ·clear zj xi zp M g D av O
    rintro j x σ R xf ⟨L,rest,N,u,xb,yb,ya,rfl,g,D,av,M,ye,sub,xc,yg,xl,yi,same⟩;refine iV ?_;intro l xM;obtain⟨a,zm,t,rfl,zf⟩:=L2.Paired.get av xf;have zz:j<left.length:=(b3.mp zm).1;have xA:left[j]=a:=(b3.mp zm).2;have zC:a∈left:=eO zm;have xg:=(zg a).mp (zh a zC);have yc:left.take (j+1)=left.take j++[a]:=by rw[ir zz,xA]
    have xq:left.drop j=a::left.drop (j+1):=by rw[lB zz,xA]
    have yu:a ∉ u.map (·.1):=xl a (by rw[xq];exact aY)
    have zv:∀y∈left.drop (j+1),y ∉ u.map (·.1):=λy d=>xl y (by rw[xq];exact bc _ d)
    have yM:=sub.length_le;rw[cK]at yM;have yA:=cN ye;refine gf λU C=>?_;intro l zO;refine DW rfl rfl rfl rfl rfl (mF.mk rfl (g.S _ _ zw) (g.S _ _ zD) (dv.same g.S) ok (g.S _ _ xE) g.hd g.kt zf (by rw[<-zB];exact xg.2) λv T zb rs=>?_)
    rw[zq]at rs;have Z:=g.same zb;have xn:=zb _ _ D;have yd:=zb _ _ M;have zA:=av.same zb;have xB:=ye.same zb;refine gn C ?_;intro l;cases es:W.ck (λb=>u.lookup b) a with
    |none =>
     rw[es]at rs;have rs:v=V.aO:=rs;subst rs;refine ah rfl ⟨rfl,_,rfl,?_⟩;refine ah rfl ⟨.inl ⟨rfl,_,ak.of yd⟩,_,rfl,J,L,_,rfl,rfl,yd,by rw[aW];omega,?_⟩
     have up:∀b o,b≠J->T b=ih o->upd T J (.lst (L++[V.ref t])) b=ih o:=λb o n e=>by rw[ag n];exact e
     have xd:∀b xs,T b=a2 xs->upd T J (.lst (L++[V.ref t])) b=a2 xs:=λb xs e=>up _ _ (ar e yd) e
     refine⟨L++[V.ref t],rest++[a],N,u,_,_,_,rfl,Z.wr up yz zH yd,up _ _ yH xn,zA.keep xd,af,gQ (xB.keep xd) ⟨t,rfl,xd _ _ (zb _ _ zf)⟩,by rw[yc];exact sub.append (ab7 _),λy d=>?_,λy d=>?_,zv,yi,λzu=>?_⟩
     ·rw[yc]at d
      rcases bK.mp d with z|z
      ·exact(xc y z).imp (λz=>fM _ z) id
      ·exact .inl (d7 _ z)
     ·rcases bK.mp d with z|z
      ·exact yg y z
      ·rw[bN.mp z];exact yu
     ·obtain⟨e1,e2⟩:=same (by rw[bX]at zu;simpa using zu)
      refine⟨e1,λy d=>?_⟩;rw[yc]at d;rcases bK.mp d with z|z
      ·exact e2 y z
      ·rw[bN.mp z,<-e1];exact es
    |some r =>
     rw[es]at rs;obtain⟨xD,rfl,xI⟩:=rs;refine ah rfl ⟨rfl,_,rfl,?_⟩;have yI:T t=a2 ((bZ a).map kV):=zb _ _ zf;have a5:=Z.a5;refine dZ rfl rfl rfl ⟨dk,_,rfl,eW.t (k:=bZ a) Z.hd yI (by rw[aW];omega),?_⟩
     have zI:bb N (bZ a)=none:=by
      rcases Z.kt.val a with⟨e1,_⟩|⟨_,_,_,e2,_⟩
      ·exact e1
      ·exact absurd (a6.mpr ⟨_,lookup_mem e2,rfl⟩) yu
     rw[iU _ zI];have xJ:W.Out a r:=Af (λb zM e=>Z.ok (b,zM) (lookup_mem e)) es;have up:∀b o,b≠dk->T b=ih o->upd T dk (.dT (N++[(bZ a,.ref xD)])) b=ih o:=λb o n e=>by rw[ag n];exact e
     have xd:∀b xs,T b=a2 xs->upd T dk (.dT (N++[(bZ a,.ref xD)])) b=a2 xs:=λb xs e=>up _ _ (ar e Z.hd) e
     refine⟨L,rest,_,u++[(a,r)],_,_,_,rfl,Z.put yp yu (zh a zC) xJ xI,up _ _ (ar xn Z.hd) xn,zA.keep xd,up _ _ (aT yz) yd,xB.keep xd,by rw[yc];exact sub.trans (List.sublist_append_left _ _),λy d=>?_,λy d=>?_,λy d=>?_,λy d=>by rw[a'];exact fM _ (yi y d),λzu=>?_⟩
     ·rw[a']
      rw[yc]at d;rcases bK.mp d with z|z
      ·exact(xc y z).imp id (λz=>fM _ z)
      ·exact .inr (d7 _ (by rw[bN.mp z];exact aY))
     ·rw[a']
      intro z;rcases bK.mp z with z|z
      ·exact yg y d z
      ·have xv:y=a:=bN.mp z
       have:a∈left.take j:=sub.subset (xv ▸ d);have yq:(left.take j++[a]).Nodup:=by rw[<-yc];exact yh.sublist (jl _ _)
       exact(dw.mp yq).2.2 _ this _ aY rfl
     ·rw[a']
      intro z;rcases bK.mp z with z|z
      ·exact zv y d z
      ·have xv:y=a:=bN.mp z
       have yq:(a::left.drop (j+1)).Nodup:=by rw[<-xq];exact yh.sublist (VR _ _)
       exact(d8.mp yq).1 (xv ▸ d)
     ·omega
   ·clear zj xi zp M g D av O
    rintro σ R ⟨L,rest,N,u,xb,yb,ya,rfl,g,D,av,M,ye,sub,xc,yg,xl,yi,same⟩;rw[lv]at same sub xc;rw[cB]at sub xc same;have yA:=cN ye;refine b8 C λU C=>?_;intro l xM;refine ah rfl ⟨J,L,rfl,.inl (ak.of M),_,rfl,lf,vs,rfl,.inl (ak.of D),rfl,_,rfl,?_⟩;refine bY (λe=>?_) (λe=>?_)
    ·have e:rest.length=left.length:=by
      have e:=dQ e;injection e with e;omega
     obtain⟨rfl,yD⟩:=same e;refine ah rfl (q dk N u R g.S yp g.hd g.kt ⟨g.ok,λa xg yv=>?_,λa _=>zy a⟩);rcases yj a ((zg a).mpr xg) with z|z
     ·exact yD a z
     ·exact absurd z (lookup_none.mp yv)
    ·have ne:rest.length≠left.length:=λz=>e (by rw[yA,lv,z];exact cf rfl)
     have xP:=sub.length_le;refine gn C ?_;intro l;refine⟨_,rfl,J,L,rest,N,u,_,_,_,_,_,rfl,g,M,ye,yh.sublist sub,λa za=>zh a (sub.subset za),by omega,λa yJ=>?_,yg⟩
     rcases yj a yJ with z|z
     ·exact xc a z
     ·exact .inr (yi a z)
  ·rintro σ I ⟨lf,vs,left,kk,ka,xa,xb,xu,yb,ya,rfl,g,D,av,yh,zh,ym,yj,fresh⟩
   have e0:left=[]:=lF (by rw[lv]at ym;have:Y0 ((all.length:Nat):Int)=all.length:=gy _;rw[this]at ym;omega)
   subst e0;refine gn C ?_;intro l;refine ah rfl (q dk kk ka I g.S yp g.hd g.kt ⟨g.ok,λa xg yv=>?_,λa _=>zy a⟩);rcases yj a ((zg a).mpr xg) with z|z
   ·cases z
   ·exact absurd z (lookup_none.mp yv)
theorem MA(xs:ac V)(k:Nat):fH xs none (ih (k:Int))=xs.take k:=by
 unfold fH;have e1:HT.bq xs.length 0 none=0:=rfl;rw[e1,wz,Fx];have e2:HT.bq xs.length xs.length (ih (k:Int))=min k xs.length:=by
  unfold HT.bq;simp;omega
 rw[e2]
 by_cases h:k<=xs.length
 ·rw[aaY h]
 ·rw[aaK (by omega),F1 (aQ _),F1 (by omega)]
structure d6(H:Hp)(l:E8)(ys:List FF):Prop where
 hl:H l=ih (.lst (ys.map V.str))
 ne:ys ≠ []
 a5:ys.length<=20
 nm:∀y∈ys,Nm y
 nd:ys.Nodup
theorem d6.d2(h:d6 H l ys)(a:df p H)(b:bu p H H'):d6 H' l ys:=⟨b.kp _ _ h.hl (fU a h.hl),h.ne,h.a5,h.nm,h.nd⟩
theorem d6.same(h:d6 H l ys)(S:ax H H'):d6 H' l ys:=⟨S _ _ h.hl,h.ne,h.a5,h.nm,h.nd⟩
inductive mG(vs:List V)(H:Hp)(Q:VK)(E:XK):Prop
 |mk{p lk:E8}{m:Nat}{al:Bool}{ks:List FF}(_:vs=[.ref p,.int m,.bl al,.ref lk])(_:df p H)(_:1<=m)(_:m<=20)(_:d6 H lk ks)(_:∀(l:E8) (ys:List FF) (H':Hp),bu p H H'->d6 H' l ys->ys.length<=m->Q (.ref l) H'):mG vs H Q E
abbrev rL:List FF:=["_law_pot_here","_law_many","_law_alike","_law_kinds"]
noncomputable abbrev QT:List FF:=["_law_pot_here","_law_many","_law_alike","_law_kinds","_law_found"]
theorem Ep:bj QT rL (aJ tT):=bB
theorem N1(F:aS K "_law_called" "_law_called" tT f fd)(n:bH P w K mg base aH 3 fN dN ["_law_pot_here","_law_many"] iY "_law_names"):aU P w K mg base aH 4 f fd rL mG:=by
 refine F.bI Ep λQa A outer s H vs Q E o h=>?_
 ·obtain @⟨p,lk,m,v,ks,rfl,d,x,g,a,q⟩:=h
  intro X;refine⟨_,aw (a3 4 Ep.nd (ba n o (aa (pv 0) (aa (pv 1) ai))))
   (aw (bo (hI (pv 2)) (aB (aZ (iR l4 (pv 3) iX (ij (pv 1))))) bG)
   (aB (aZ (pv 4)))),?_⟩
  refine aX rfl rfl (iY.mk rfl d g λl ys Y B r i j b h1=>?_);refine aX rfl rfl ?_;refine bY (λe=>?_) (λe=>?_)
  ·have k:=a.d2 d b
   refine dZ rfl rfl rfl ⟨lk,_,rfl,ak.of k.hl,λc t=>?_⟩;rw[MA,<-aa9];have kp:0<ks.length:=lI.mpr a.ne;have tl:(ks.take m).length=min m ks.length:=cK ..;refine q c (ks.take m) _ (b.new t) ⟨af,λz=>?_,by have:=a.a5;omega,λy u=>a.nm y (oX u),a.nd.sublist (jl _ _)⟩ (by omega)
   rw[z,jq]at tl;omega
  ·exact ah rfl (q l ys Y b ⟨h1,λz=>by rw[z,jq]at r;omega,by omega,i,j⟩ (by omega))
structure qA(own:Own):Prop where
 nd:(own.map (·.1)).Nodup
 nm:∀q∈own,Nm q.1
theorem Lz{own:Own}(h:qA own)(l:Nm n)(z:Int):∃f,c4 f=putK (c4 own) (n' n) (.int z)/\qA f/\f.length<=own.length+1:=by
 cases e:bb (c4 own) (n' n) with
 |none =>
  have j:n ∉ own.map (·.1):=λm=>by
   rw[nO,VO,List.lookup_eq_none_iff]at e;obtain⟨q,d,rfl⟩:=a6.mp m;exact absurd (e q d) (by simp)
  refine⟨own++[(n,z)],?_,⟨?_,λq d=>?_⟩,by simp⟩
  ·rw[iU _ e];unfold c4 gi;rw[a',a'];rfl
  ·rw[a']
   exact dw.mpr ⟨h.nd,by simp,λa o b g y=>j (by have g:b=n:=bN.mp g;rw[<-g,<-y];exact o)⟩
  ·rcases bK.mp d with z|z
   ·exact h.nm q z
   ·rw[bN.mp z];exact l
 |some v =>
  have i:(own.map λq=>if q.1=n then (q.1,z) else q).map (·.1)=own.map (·.1):=by
   rw[c7];exact m1 λq _=>by show(if q.1=n then (q.1,z) else q).1=q.1;split <;> rfl
  refine⟨own.map λq=>if q.1=n then (q.1,z) else q,?_,⟨by rw[i];exact h.nd,λq d=>?_⟩,by simp⟩
  ·unfold putK
   rw[aF (by rw[jB,e];rfl)]
   unfold c4 gi;rw[c7,c7,c7,c7];refine m1 λq _=>?_;show((n' (if q.1=n then (q.1,z) else q).1,V.int (if q.1=n then (q.1,z) else q).2):Key×V)=if (n' q.1:Key)=n' n then (n' q.1,V.int z) else (n' q.1,V.int q.2)
   by_cases c:q.1=n
   ·rw[aF c,aF (by rw[c])]
   ·rw[aq c,aq (λz=>c (gx z))]
  ·have:q.1∈own.map (·.1):=by rw[<-i];exact a6.mpr ⟨q,d,rfl⟩
   obtain⟨p,k,r⟩:=a6.mp this;rw[<-r];exact h.nm p k
def e9(H:Hp)(td:E8)(kvs:List (Key×V))(bQ:List Th):Prop:=VX (λkv p=>kv.1=n' p.1 /\∃a b,kv.2=V.ref a/\a≠td/\b≠td/\H a=ih (.tup [.str p.2.1,.ref b])/\H b=ih (.dK (c4 p.2.2))) kvs bQ
theorem e9.keep{c:ac Th}(h:e9 H td kvs c)(k:∀b u,b≠td->(∀xs,u≠HO.lst xs)->H b=ih u->H' b=ih u):e9 H' td kvs c:=Paired.imp' (λ_ _ f=>by obtain⟨e1,a,b,e2,n1,d,e3,e⟩:=f;exact ⟨e1,a,b,e2,n1,d,k _ _ n1 (by intro xs z;cases z) e3,k _ _ d (by intro xs z;cases z) e⟩) h
theorem e9.same{a:ac Th}(h:e9 H td kvs a)(S:ax H H'):e9 H' td kvs a:=h.keep λb u _ _ e=>S _ _ e
theorem e9.d2{a:ac Th}(h:e9 H td kvs a)(c:df p H)(d:bu p H H'):e9 H' td kvs a:=h.keep λb u _ f e=>d.kp _ _ e (by
 obtain⟨x,y,e0,_⟩:=c;intro z;rw[z,e0]at e;cases e;exact f _ rfl)
theorem e9.keys{a:ac Th}(h:e9 H td kvs a):kvs.map (·.1)=(a.map (·.1)).map n':=by
 induction h with
 |nil=>rfl
 |cons e _ b=>rw[b4,b4,b4,b,e.1]
structure vm(ks:List FF)(bQ:List Th):Prop where
 nm:∀p∈bQ,Nm p.1
 nd:(bQ.map (·.1)).Nodup
 kd:∀p∈bQ,p.2.1∈ks
 ow:∀p∈bQ,qA p.2.2/\p.2.2.length<=22
inductive ri(vs:List V)(H:Hp)(Q:VK)(E:XK):Prop
 |mk{p lk ln:E8}{al:Bool}{ks ns:List FF}(_:vs=[.ref p,.bl al,.ref lk,.ref ln])(_:df p H)(_:d6 H lk ks)(_:d6 H ln ns)(_:∀(td:E8) (kvs:List (Key×V)) (bQ:List Th) (H':Hp),bu p H H'->H td=none->H' td=ih (.dK kvs)->e9 H' td kvs bQ->vm ks bQ->bQ ≠ []->bQ.length<=5->Q (.ref td) H'):ri vs H Q E
abbrev vP:List FF:=["_law_pot_here","_law_alike","_law_kinds","_law_names_here"]
noncomputable abbrev QU:List FF:=["_law_pot_here","_law_alike","_law_kinds","_law_names_here","_law_called_here","_law_things_here","_law_thing","_law_own","_law_kind","_law_name"]
theorem k8:bj QU vP (aJ tV):=bB
theorem N2{xC:E8}{yC:Ye}(F:aS K "_law_things" "_law_things" tV f fd)(B:dq mg)(zC:bH P w K mg base aH 4 fC dC rL mG "_law_called")(zh:bH P w K mg base aH 1 fD dD ["_law_pot_here","_law_many"] hH "_law_digit")
  (xD:bH P w K mg base aH 3 fN dN ["_law_pot_here","_law_many"] iY "_law_names") (yD:bH P w K mg base aH 2 xC yC ["_law_pot_here"] i7 "_law_number"):aU P w K mg base aH 5 f fd vP ri:=by
 refine F.bI k8 λQa A outer s H vs Q E I h=>?_
 ·obtain @⟨p,lk,zc,al,ks,ns,rfl,xd,yd,xi,q⟩:=h
  have xb:a4 4 _:=I;have yw:a4 3 _:=xb.mono (by decide)
  have zw:a4 2 _:=xb.mono (by decide)
  have zf:a4 1 _:=xb.mono (by decide)
  have zm:=eF I.units;intro X;refine⟨_,aw (a3 4 k8.nd (ba zC xb (aa (pv 0) (aa (bA e4 au (ba zh zf (aa (pv 0) (aa au ai)))) (aa (pv 1) (aa (pv 2) ai))))))
   (aw (a3 5 k8.nd lX)
   (aw (eK d9 rfl (c8 (pv 4)) (bf 6 k8.nd)
    (aw (a3 7 k8.nd lX)
    (aw (a3 8 k8.nd (aV dA (pv 2) (ba zh zf (aa (pv 0) (aa (bV eQ rfl B.len eI (aa (pv 2) ai)) ai)))))
    (aw (eK d9 rfl (c8 (bA hK (pv 3) (ba xD yw (aa (pv 0) (aa au ai))))) (bf 9 k8.nd)
     (aB (bo (br c' (ba zh zf (aa (pv 0) (aa au ai))) au (bC _)) (aB (gC zm (pv 7) (pv 9) (ba yD zw (aa (pv 0) ai)) rfl)) bG)))
    (aB (gC zm (pv 5) (pv 6) (b9 (aa (pv 8) (aa (pv 7) ai))) rfl))))))
   (aB (aZ (pv 5))))),?_⟩
  refine aX rfl rfl (cW (p:=p) (m:=5) xd (by decide) (by decide) λxJ Y zD yJ yi=>⟨_,_,rfl,rfl,_,rfl,_,rfl,?_⟩)
  obtain⟨j,rfl⟩:=gT zD;refine mG.mk (m:=1+j) (al:=al) (by rw[F6];rfl) yi.ok (by omega) (by omega) (yd.d2 xd yi) λzd a H2 p2 W yH=>?_
  have S:=yi.trans p2;have xx:=yd.d2 xd S;have yx:=xi.d2 xd S;intro td yb;have xm:=S.free yb;have zi:=S.new (o:=.dK []) yb;have xe:=aK (o:=.dK []) yb;have zx:p≠td:=S.ok.ne yb;have xn:upd H2 td (.dK []) td=bn []:=af;have xg:=W.same xe;have yn:=xx.same xe;have zn:=yx.same xe;have xy:=zi.ok;generalize upd H2 td (.dK [])=zJ at zi xe xn xg yn zn xy⊢;refine⟨_,rfl,zd,rfl,⟨_,ak.of xg.hl⟩,ie (xs:=a.map V.str) (λi σ d=>∃(kvs:ac (Key×V)) (G:ac Th) (xj yj zj J:ad V),σ=[am p,ih (.bl al),am lk,am zc,am zd,am td,xj,yj,zj,J]/\bu p H d/\d6 d lk ks/\d6 d zc ns/\d6 d zd a/\d td=bn kvs/\e9 d td kvs G/\vm ks G/\G.map (·.1)=a.take i)
   ⟨[],[],none,none,none,none,rfl,zi,yn,zn,xg,xn,.nil,⟨λx C=>(by cases C),fc,λx C=>(by cases C),λx C=>(by cases C)⟩,rfl⟩ (λi σ d _ ab=>by obtain⟨_,_,_,_,_,_,_,_,_,_,z,_⟩:=ab;exact ak.of z.hl) ?_ ?_⟩
  ·rintro i x σ d C ⟨kvs,G,xj,yj,zj,J,rfl,g,xk,yk,yr,ye,Z,xa,D⟩
   obtain⟨xo,rfl⟩:=jC C;have yg:a.take (i+1)=a.take i++[a[i]]:=by rw[dM,bz xo];rfl
   have zv:a[i]∉ a.take i:=by
    have:(a.take (i+1)).Nodup:=W.nd.sublist (jl _ _);rw[yg]at this;exact λz=>(dw.mp this).2.2 _ z _ aY rfl
   intro c ya;have yy:p≠c:=g.ok.ne ya;have zr:=aK (o:=.dK []) ya;have za:bu p d (upd d c (.dK [])):=(bu.refl g.ok).new ya;have xt:upd d c (.dK []) c=bn []:=af;generalize upd d c (.dK [])=xK at zr za xt⊢;have yt:=xk.same zr;have kp:0<ks.length:=lI.mpr yd.ne;have yK:=yd.a5;refine dZ rfl rfl rfl ⟨lk,_,rfl,.inl (ak.of yt.hl),?_⟩;rw[aE];refine cW (p:=p) (m:=(ks.length:Int)) za.ok (by omega) (by omega) λzK xL b0 b1 p6=>?_
   obtain⟨v,rfl⟩:=gT b0;have yo:v<ks.length:=by omega
   have xE:=yt.d2 za.ok p6;have zk:=za.trans p6;refine⟨lk,_,(v:Int),V.str ks[v],rfl,rfl,ak.of xE.hl,cw (by rw[cL,bz yo];rfl),?_⟩
   have yE:=kE za.ok p6 xt;refine aX rfl rfl (iY.mk (m:=2) rfl zk.ok (by decide) λzE M zt zH yL zy xI p7 xF=>?_)
   have xu:=zk.trans p7;have yF:=(yk.d2 g.ok xu);have xz:=kE zk.ok p7 yE;have zL:=xi.a5;refine⟨zc,zE,_,_,rfl,rfl,yF.hl,xF,by rw[aE,aE,aW];omega,λN zo=>?_⟩
   rw[<-a'];have ze:=xu.new (o:=.lst ((ns++M).map V.str)) zo;have zb:=aK (o:=.lst ((ns++M).map V.str)) zo _ _ xz;have R:upd zt N (.lst ((ns++M).map V.str)) N=bd ((ns++M).map V.str):=af;have xp:∀y∈ns++M,Nm y:=λy xl=>by
    rcases bK.mp xl with z|z
    ·exact xi.nm y z
    ·exact zy y z
   have yz:(ns++M).length<=22:=by rw[bX];omega
   generalize ns++M=xc at ze zb R xp yz⊢;generalize upd zt N (.lst (xc.map V.str))=xM at ze zb R⊢;have yp:N≠p:=fU ze.ok R;have zz:N≠c:=ar R zb
   refine⟨N,rfl,⟨_,ak.of R⟩,ie (xs:=xc.map V.str) (λk σ L=>∃(own:Own) (J:ad V),σ=[am p,ih (.bl al),am lk,am zc,am zd,am td,ih (.str a[i]),am c,ih (.str ks[v]),J]/\bu p d L/\L N=bd (xc.map V.str)/\L c=bn (c4 own)/\qA own/\own.length<=k)
    ⟨[],J,rfl,ze,R,zb,⟨fc,λq zF=>(by cases zF)⟩,aQ _⟩ (λk σ L _ ab=>by obtain⟨_,_,_,_,z,_⟩:=ab;exact ak.of z) ?_ ?_⟩
   ·rintro k x σ L C ⟨own,J,rfl,O,yu,yl,xf,zp⟩
    obtain⟨xA,rfl⟩:=jC C;refine ah rfl (cW (p:=p) (m:=3) O.ok (by decide) (by decide) λyM zg zM xN xh=>⟨rfl,_,rfl,?_⟩)
    have l:=O.trans xh;have xq:=xh.kp _ _ yu yp;have T:=kE O.ok xh yl;refine bY (λ_=>?_) (λ_=>?_)
    ·refine ah rfl (i7.mk rfl l.ok λz yI _ yh=>?_)
     have yA:=l.trans yh;have zA:=yh.kp _ _ xq yp;have xB:=kE l.ok yh T;obtain⟨xw,xG,yG,zI⟩:=Lz xf (xp _ (eP xA)) z;refine aX rfl rfl ⟨c,_,rfl,eW.k (k:=n' xc[k]) xB (by unfold c4 gi;rw[aE,aE,aW];omega),?_⟩
     exact⟨xw,_,rfl,yA.write ya yy,by rw[ag zz];exact zA,by rw[xG];exact af,yG,by omega⟩
    ·exact⟨own,_,rfl,l,xq,T,xf,by omega⟩
   ·rintro σ L ⟨own,J,rfl,O,yu,yl,xf,zp⟩
    rw[aE]at zp;have zu:=kE g.ok O ye;have zG:=Z.d2 g.ok O;have yq:c≠td:=aT (ay ye ya);refine aX rfl rfl ⟨bS,λt zl=>?_⟩;have yc:=aK (o:=.tup [V.str ks[v],.ref c]) zl;have ym:upd L t (.tup [V.str ks[v],.ref c]) t=a2 [V.str ks[v],.ref c]:=af;have l:=O.new (o:=.tup [V.str ks[v],.ref c]) zl;have U:=yc _ _ zu;have T:=yc _ _ yl;have zq:=zG.same yc;have xr:t≠td:=aT (ay zu zl);generalize upd L t (.tup [V.str ks[v],.ref c])=zg at yc ym l U T zq⊢;have yf:bb kvs (n' a[i])=none:=by
     have:(bb kvs (n' a[i])).isSome=false:=by
      rw[<-jB,vW];intro yf yB z;have xv:yf.1∈kvs.map (·.1):=a6.mpr ⟨yf,yB,rfl⟩;rw[Z.keys,D]at xv;obtain⟨y,xl,yv⟩:=a6.mp xv;rw[dQ z]at yv;exact zv (gx yv ▸ xl)
     simpa using this
    have zB:kvs.length=(a.take i).length:=by
     have:=c6 Zk Z.keys;rw[D,aE,aE]at this;exact this
    rw[cK]at zB;refine aX rfl rfl ⟨td,_,rfl,eW.k (k:=n' a[i]) U (by rw[aW];omega),?_⟩
    rw[iU _ yf];have xH:=(g.trans l).write (o:=.dK (kvs++[(n' a[i],.ref t)])) xm zx;have up:∀b u,b≠td->zg b=ih u->upd zg td (.dK (kvs++[(n' a[i],.ref t)])) b=ih u:=λb u n e=>by rw[ag n];exact e
    refine⟨_,G++[(a[i],ks[v],own)],_,_,_,_,rfl,xH,?_,?_,?_,af,?_,⟨λr I=>?_,?_,λr I=>?_,λr I=>?_⟩,?_⟩
    ·have z:=xk.d2 g.ok l;exact⟨up _ _ (ar z.hl U) z.hl,z.ne,z.a5,z.nm,z.nd⟩
    ·have z:=yk.d2 g.ok l;exact⟨up _ _ (ar z.hl U) z.hl,z.ne,z.a5,z.nm,z.nd⟩
    ·have z:=yr.d2 g.ok l;exact⟨up _ _ (ar z.hl U) z.hl,z.ne,z.a5,z.nm,z.nd⟩
    ·exact gQ (zq.keep λb u n _ e=>up _ _ n e) ⟨rfl,t,c,rfl,xr,yq,up _ _ xr ym,up _ _ yq T⟩
    ·rcases bK.mp I with z|z
     ·exact xa.nm r z
     ·rw[bN.mp z];exact W.nm _ (eP xo)
    ·rw[a',D]
     show(a.take i++[a[i]]).Nodup;rw[<-yg];exact W.nd.sublist (jl _ _)
    ·rcases bK.mp I with z|z
     ·exact xa.kd r z
     ·rw[bN.mp z];exact eP yo
    ·rcases bK.mp I with z|z
     ·exact xa.ow r z
     ·rw[bN.mp z];exact⟨xf,by show own.length<=22;omega⟩
    ·rw[a',D,yg];rfl
  ·rintro σ d ⟨kvs,G,xj,yj,zj,J,rfl,g,xk,yk,yr,ye,Z,xa,D⟩
   rw[aE,cB]at D;have yN:G.length=a.length:=by have:=c6 Zk D;rwa [aE]at this
   exact ah rfl (q td kvs G d g xm ye Z xa (λz=>by rw[z]at D;exact W.ne D.symm) (by omega))
def oJ(p q:Th):Prop:=q.1=p.1/\q.2.1=p.2.1/\q.2.2.Perm p.2.2
theorem g4.keyed{c:ac Th}(h:g4 H vs c):∃kvs,iq H 1 vs kvs/\kvs.map (·.1)=(c.map (·.1)).map λx=>[x]:=by
 induction h with
 |nil=>exact⟨[],.nil,rfl⟩
 |@cons _ p _ _ h _ d =>
  obtain⟨a,b,us,e,q,_⟩:=h;obtain⟨kvs,h1,h2⟩:=d;exact⟨([p.1],[.str p.2.1,.ref b])::kvs,.cons ⟨a,e,q,rfl⟩ h1,by rw[b4,h2];rfl⟩
theorem ints_of{own:Own}{a:ac (FF×V)}(p:a.Perm (own.map λq=>(q.1,V.int q.2))):∃b:Own,a=b.map (λq=>(q.1,V.int q.2))/\b.Perm own:=by
 have e:a=(a.map λq=>((q.1,match q.2 with|.int z=>z|_=>0):FF×Int)).map λq=>(q.1,V.int q.2):=by
  rw[c7];refine((m1 (g:=id) λq c=>?_).trans (wQ _)).symm;obtain⟨x,_,rfl⟩:=a6.mp (p.mem_iff.mp c)
  rfl
 refine⟨_,e,?_⟩;have:=p.map λq=>((q.1,match q.2 with|.int z=>z|_=>0):FF×Int);rw[c7]at this;refine this.trans (aad ((m1 (g:=id) λq _=>rfl).trans (wQ _)))
theorem IZ{own:Own}(h:kM H vs (own.map λq=>(q.1,V.int q.2))):iB H vs own:=by
 induction own generalizing vs with
 |nil=>cases h;exact .nil
 |cons q own a=>cases h with|cons e r=>exact .cons e (a r)
theorem sS{b a:ac Th}(h:VX oJ b a):a.map (·.1)=b.map (·.1):=by
 induction h with
 |nil=>rfl
 |cons e _ c=>rw[b4,b4,c,e.1]
theorem LA{b a:ac Th}(h:VX oJ b a){p:Th}(c:p∈b):∃q∈a,oJ p q:=by
 induction h with
 |nil=>cases c
 |cons e _ d =>
  rcases bJ.mp c with z|z
  ·exact⟨_,aY,z ▸ e⟩
  ·obtain⟨q,f,r⟩:=d z;exact⟨q,bc _ f,r⟩
theorem t7{kv:Key×V}:∀{kvs:ac (Key×V)}{i:Nat},(kvs.map (·.1)).Nodup->kvs[i]?=ih kv->bb kvs kv.1=ih kv.2
 |[],i,_,h=>by simp at h
 |p::kvs,0,_,h=>by cases h;exact ft rfl
 |p::kvs,i+1,a,h=>by
  rw[b4,d8]at a;rw[eR (λz=>a.1 (by rw[z];exact a6.mpr ⟨kv,eO (by simpa using h),rfl⟩))]
  exact t7 a.2 (by simpa using h)
theorem e9.nodup{a:ac Th}(h:e9 H td kvs a)(b:(a.map (·.1)).Nodup):(kvs.map (·.1)).Nodup:=by
 rw[h.keys,lG,m2];exact(lG.mp b).imp λh z=>h (gx z)
inductive rj(vs:List V)(H:Hp)(Q:VK)(E:XK):Prop
 |mk{t db td:E8}{kvs:List (List Key×V)}{bO:Bk}{kt:List (Key×V)}{bQ:List Th}{ks:List FF}(_:vs=[.ref t,.ref db,.ref td])(_:H db=ih (.dT kvs))(_:cy H kvs bO)(_:gq bO)(_:H td=ih (.dK kt))(_:e9 H td kt bQ)(_:vm ks bQ)(_:bQ.length<=5)
  (_:∀r tb tt wb wt bk rk H',ax H H'->iI H' r t tb tt wt rk->H' tb=ih (.tup wb)->cS H' wb bk->bk.Perm bO->(∀p∈bQ,∃q∈rk,oJ p q)->Q (.ref r) H'):rj vs H Q E
abbrev vQ:List FF:=["_law_family_here","_law_book_here","_law_things_here"]
noncomputable abbrev ES:List FF:=["_law_family_here","_law_book_here","_law_things_here","_law_rows","_law_thing","_law_kind","_law_own","_law_triples"]
theorem mH:bj ES vQ (aJ nX):=bB
abbrev QV:VD:=fg (bT (bE nX) 2)
theorem ro:b5 ES (aJ nX) ["_law_kind","_law_name","_law_entry_here"] [none,none,none] (cG QV):=dc
theorem N3(F:aS K "_law_world" "_law_world" nX f fd)(B:dq mg)(zk:hU mg):aU P w K mg base aH 1 f fd vQ rj:=by
 refine F.bI mH λQa A outer s H vs Q E zf h=>?_
 ·obtain @⟨t,db,td,kvs,bO,j,T,ks,rfl,ye,dv,ok,U,tv,to,yM,q⟩:=h
  have yA:=eF zf.units;intro X;refine⟨_,aw (a3 3 mH.nd (eu ai))
   (aw (eK d9 rfl (KS (pv 2)) (bf 4 mH.nd)
    (aw (i0 (d4 yA (pv 2) (pv 4)) (ik rfl (c2 (bf 5 mH.nd) (c2 (bf 6 mH.nd) gB))))
    (aB (eJ (gj hC m3 m4 jx (pv 3) (aa (b9 (aa (pv 4) (aa (pv 5) (aa (dy iP rfl B.tuple boot_tuple (aa (Gi rfl rfl zk.sorted (pv 6)) ai)) ai)))) ai))))))
   (aw (lP rfl ro mH.nd (i:=7) rfl rfl (IK (pv 1)) (λs H fp=>⟨pL (n:=2) K rfl rfl (c2 (pL (n:=2) K rfl rfl (c2 (bf 0 ro.nd) (c2 (bf 1 ro.nd) gB))) (c2 (bf 2 ro.nd) gB)),et,b9 (aa (pv 0) (aa (pv 1) (aa (pv 2) ai)))⟩))
   (aB (aZ (JL (K4 (b9 (aa (pv 0) (aa (dy iP rfl B.tuple boot_tuple (aa (bV sg rfl zk.sorted boot_sorted (aa (pv 7) ai)) ai)) (aa (dy iP rfl B.tuple boot_tuple (aa (bV sg rfl zk.sorted boot_sorted (aa (pv 3) ai)) ai)) ai)))))))))),?_⟩
  refine⟨bD _,λl zi=>?_⟩;have xg:=aK (o:=.lst []) zi;have ze:td≠l:=ay U zi;have xj:db≠td:=ar ye U
  have xo:upd H l (.lst []) l=bd []:=af;have xr:=tv.same xg;have yo:=xg _ _ U;generalize upd H l (.lst [])=Y at xg xo xr yo⊢;have yF:j.length=T.length:=cN tv;refine ah rfl ⟨td,j,rfl,.inl ⟨yo,λo=>?_⟩⟩;have xf:∀b u,b≠td->Y b=ih u->upd Y td (.bw o (.dK j)) b=ih u:=λb u n e=>by rw[ag n];exact e
  have xd:upd Y td (.bw o (.dK j)) td=ih (.bw o (.dK j)):=af;have yr:e9 (upd Y td (.bw o (.dK j))) td j T:=xr.keep λb u n _ e=>xf b u n e;have yd:=xf _ _ (aT ze) xo;generalize upd Y td (.bw o (.dK j))=H2 at xf xd yr yd⊢;refine Jv (o:=o) (λi σ d=>∃(J:ac V) (S:ac Th) (xl yl zl:ad V),σ=[am t,am db,am td,am l,xl,yl,zl,none]/\(∀b u,b≠l->H2 b=ih u->d b=ih u)/\d l=bd J/\g4 d J S/\VX oJ (T.take i) S)
   ⟨[],[],none,none,none,rfl,λb u _ e=>e,yd,.nil,.nil⟩ (λi σ d _ ab=>by obtain⟨_,_,_,_,_,_,z,_⟩:=ab;exact z _ _ ze xd) ?_ ?_
  ·rintro i v σ d ya ⟨J,S,xl,yl,zl,rfl,G,xa,yb,y⟩
   obtain⟨p,k,zb,a,b,zF,zM,xN,yw,L⟩:=L2.Paired.get yr ya;have pm:=eO k;have yj:T.take (i+1)=T.take i++[p]:=by rw[dM,k];rfl
   have zA:=G _ _ (ar yw yd) yw
   have xB:=G _ _ (ar L yd) L
   have zh:=G _ _ ze xd;have xm:=t7 (tv.nodup to.nd) ya;rw[zF]at xm;rw[zb]at xm⊢;rw[show kV (n' p.1)=V.str p.1 from rfl];refine aX rfl rfl ⟨td,.ref a,rfl,.inl ⟨j,n' p.1,.inr ⟨o,zh⟩,rfl,xm.symm⟩,?_⟩;refine⟨a,_,rfl,aA.of zA,rfl,_,_,rfl,_,_,rfl,rfl,?_⟩;refine ah rfl ⟨.inl ⟨rfl,_,ak.of xa⟩,_,rfl,_,rfl,_,rfl,b,_,rfl,xB,by rw[c7];exact(to.ow p pm).1.nd,by rw[aE];have:=(to.ow p pm).2;omega,λD ys zK xc zw xG yG pv zG yN=>?_⟩
   obtain⟨yz,rfl,xH⟩:=ints_of zG;refine⟨D,ys,rfl,.inl ⟨ak.of yG,λc Z=>⟨g6,λtt I=>?_⟩⟩⟩;have C:=xG.trans ((aK (o:=.tup ys) Z).trans (aK (o:=.tup [V.str p.1,.str p.2.1,.ref c]) I));have zr:=(aK (o:=.tup ys) Z).trans (aK (o:=.tup [V.str p.1,.str p.2.1,.ref c]) I);have zo:upd (upd xc c (.tup ys)) tt (.tup [V.str p.1,.str p.2.1,.ref c]) tt=a2 [V.str p.1,.str p.2.1,.ref c]:=af;have xt:upd (upd xc c (.tup ys)) tt (.tup [V.str p.1,.str p.2.1,.ref c]) c=a2 ys:=by rw[ag (ay af I)];exact af
   generalize upd (upd xc c (.tup ys)) tt (.tup [V.str p.1,.str p.2.1,.ref c])=g at C zr zo xt⊢;have xp:=C _ _ xa;have zN:J.length<=5:=by have h1:=cN yb;have h2:=cN y;rw[cK]at h2;omega
   refine⟨l,J,_,rfl,rfl,xp,by rw[aW];omega,?_⟩
   have up:∀{zs:ac V} b xs,g b=a2 xs->upd g l (.lst zs) b=a2 xs:=λb xs e=>by rw[ag (ar e xp)];exact e
   refine⟨_,S++[(p.1,p.2.1,yz)],_,_,_,rfl,λb u n e=>by rw[ag n];exact C _ _ (G b u n e),af,?_,?_⟩
   ·exact gQ ((yb.same C).keep up) ⟨tt,c,ys,rfl,up _ _ zo,up _ _ xt,((IZ pv).keep λb xs e=>zr _ _ e).keep up⟩
   ·rw[yj];exact gQ y ⟨rfl,rfl,xH⟩
  ·rintro σ d ⟨J,S,xl,yl,zl,rfl,G,xa,yb,y⟩
   rw[yF,cB]at y;have xO:=cN yb;have yO:=cN y;have zj:∀b u,b≠td->H b=ih u->d b=ih u:=λb u n e=>G _ _ (ay e zi) (xf _ _ n (xg _ _ e));have zd:=zj _ _ xj ye;have zh:=G _ _ ze xd;have yB:cy d kvs bO:=dv.keep (λb xs e=>zj _ _ (ar e U) e) ok.ent
   have lk:=dv.length;have a5:=ok.a5;refine ah rfl ⟨db,kvs,rfl,zd,λM c Z=>?_⟩;have W:∀b u,b≠db->d b=ih u->upd d db (.bw M (.dT kvs)) b=ih u:=λb u n e=>by rw[ag n];exact e
   have xe:upd d db (.bw M (.dT kvs)) db=ih (.bw M (.dT kvs)):=af;have yt:cy (upd d db (.bw M (.dT kvs))) kvs bO:=yB.keep (λb xs e=>W _ _ (ar e zd) e) ok.ent
   have xx:g4 (upd d db (.bw M (.dT kvs))) J S:=yb.keep λb xs e=>W _ _ (ar e zd) e
   have xi:=W _ _ (aT xj) zh;have yp:=W _ _ (ar xa zd) xa
   generalize upd d db (.bw M (.dT kvs))=xc at W xe yt xx xi yp Z⊢;refine Hb (λi ys yg g=>∃ym zm xn:ad V,yg=[ym,zm,xn]/\g c=bd ys/\ax xc g/\cS g ys (bO.take i)) ⟨none,none,none,rfl,af,aK Z,.nil⟩ (λi ys yg g ab=>by obtain⟨_,_,_,_,z1,z2,_⟩:=ab;exact ⟨z1,z2 _ _ xe⟩) ?_ ?_
   ·rintro i v tp b ys yg g ya zB L ⟨ym,zm,xn,rfl,yn,C,N⟩
    have xC:i<kvs.length:=(b3.mp ya).1;obtain⟨p,k,zb,yH⟩:=L2.Paired.get (yt.same C) ya;have pm:=eO k;have yj:bO.take (i+1)=bO.take i++[p]:=by rw[dM,k];rfl
    replace L:g b=a2 [V.str p.1,V.str p.2.1]:=by rw[zb]at L;exact L
    have zg:=aK (o:=.tup [V.ref b,v.2]) zB;have zp:upd g tp (.tup [V.ref b,v.2]) tp=a2 [V.ref b,v.2]:=af;have zt:=zg _ _ L;have xu:=yH.same zg;generalize upd g tp (.tup [V.ref b,v.2])=yx at zg zp zt xu⊢;refine⟨tp,_,rfl,aA.of zp,rfl,_,_,rfl,b,_,rfl,aA.of zt,rfl,_,_,rfl,_,_,rfl,rfl,_,_,rfl,rfl,?_⟩;refine dZ rfl rfl rfl ⟨g6,λtt I=>?_⟩;have O:=aK (o:=.tup [V.str p.1,V.str p.2.1,v.2]) I;have xq:upd yx tt (.tup [V.str p.1,V.str p.2.1,v.2]) tt=a2 [V.str p.1,V.str p.2.1,v.2]:=af;have yu:=xu.same O;generalize upd yx tt (.tup [V.str p.1,V.str p.2.1,v.2])=R at O xq yu⊢;have xk:=zg.trans O;have zu:=xk _ _ yn;have up:∀{zs:ac V} b xs,R b=a2 xs->upd R c (.lst zs) b=a2 xs:=λb xs e=>by rw[ag (ar e zu)];exact e
    refine⟨zu,?_,cw_next xC ⟨_,_,_,rfl,af,λx u zx=>by rw[ag (ay zx Z)];exact xk _ _ (C x u zx),?_⟩⟩
    ·have:=N.length
     rw[cK]at this;rw[aW];omega
    ·rw[yj]
     exact cS.append (up _ _ xq) ((ok.ent p pm).keep yu up) (cS.keep up (cS.same xk N) λq zH=>ok.ent q (oX zH))
   ·rintro ys yg g ⟨ym,zm,xn,rfl,yn,C,N⟩
    rw[lk,cB]at N;obtain⟨yC,xI,zb⟩:=N.keyed;have zO:=N.length;refine aX rfl rfl ⟨c,_,yC,2,rfl,.inl (ak.of yn),xI,by decide,by rw[zb];exact ok.nd,by omega,λD m xL zw xz xP yL zL=>?_⟩
    obtain⟨zC,xv,yI⟩:=cS.perm xz N;have zI:=aK (o:=.lst m) zw;refine⟨D,m,rfl,.inl ⟨ak.of af,λtb xD=>?_⟩⟩;have O:=zI.trans (aK (o:=.tup m) xD);have yq:upd (upd g D (.lst m)) tb (.tup m) tb=a2 m:=af;have xy:=cS.same O yI;generalize upd (upd g D (.lst m)) tb (.tup m)=R at O yq xy⊢;have yk:=C.trans O;have yy:=xx.same yk;obtain⟨yv,xJ,yD⟩:=yy.keyed;have zD:(yv.map (·.1)).Nodup:=by
     rw[yD,sS y,lG,m2];exact(lG.mp to.nd).imp λh z=>h (FV z).1
    refine ah rfl ⟨l,_,yv,1,rfl,.inl (ak.of (yk _ _ yp)),xJ,aQ _,zD,by omega,λxh wt xM xE zy _ _ _=>?_⟩
    obtain⟨yi,yf,zn⟩:=si zy yy;have zn:g4 R wt yi:=zn;have yE:=aK (o:=.lst wt) xE;refine⟨xh,wt,rfl,.inl ⟨ak.of af,λtt I=>⟨g6,λr zf=>?_⟩⟩⟩;have za:=yE.trans ((aK (o:=.tup wt) I).trans (aK (o:=.tup [V.ref t,.ref tb,.ref tt]) zf));have zq:upd (upd (upd R xh (.lst wt)) tt (.tup wt)) r (.tup [V.ref t,.ref tb,.ref tt]) tt=a2 wt:=by rw[ag (ay af zf)];exact af
    have zv:upd (upd (upd R xh (.lst wt)) tt (.tup wt)) r (.tup [V.ref t,.ref tb,.ref tt]) r=a2 [V.ref t,.ref tb,.ref tt]:=af;generalize upd (upd (upd R xh (.lst wt)) tt (.tup wt)) r (.tup [V.ref t,.ref tb,.ref tt])=yh at za zq zv⊢;have xb:=yk.trans za;refine⟨db,M,kvs,xb _ _ xe,(λo u z=>by cases ye.symm.trans z),td,o,j,?_,(λo u z=>by cases U.symm.trans z),?_⟩
    ·rw[ag (aT xj)];exact xb _ _ xi
    ·have xw:∀b u,b≠db->b≠td->yh b=ih u->upd (upd yh db (.dT kvs)) td (.dK j) b=ih u:=λb u n1 yc e=>by rw[ag yc,ag n1];exact e
     have zz:=xb _ _ xe;have xA:=xb _ _ xi;have zc:∀b xs,yh b=a2 xs->upd (upd yh db (.dT kvs)) td (.dK j) b=a2 xs:=λb xs e=>xw _ _ (ar e zz) (ar e xA) e
     have zE:∀p∈yi,Nm p.1:=λp k=>by
      have yJ:p.1∈T.map (·.1):=by rw[<-sS y];exact a6.mpr ⟨p,yf.mem_iff.mp k,rfl⟩
      obtain⟨zJ,h0,e0⟩:=a6.mp yJ;rw[<-e0];exact to.nm zJ h0
     refine q r tb tt m wt zC yi _ (λb u e=>?_) ⟨zc _ _ zv,zc _ _ zq,(zn.keep λb xs e=>za _ _ e).keep zc,by rw[yf.length_eq];omega,zE,by rw[(yf.map (·.1)).nodup_iff,sS y];exact to.nd⟩ (zc _ _ (za _ _ yq)) (cS.keep zc (cS.same za xy) λp k=>ok.ent p (xv.mem_iff.mp k)) xv (λp k=>?_)
     ·by_cases n1:b=td
      ·subst n1;rw[U]at e;cases e;exact af
      ·by_cases yc:b=db
       ·subst yc;rw[ye]at e;cases e;rw[ag n1];exact af
       ·exact xw _ _ yc n1 (xb _ _ (W _ _ yc (zj _ _ n1 e)))
     ·obtain⟨xK,xF,yK⟩:=LA y k
      exact⟨xK,yf.mem_iff.mpr xF,yK⟩
structure BI(H:Hp)(db:E8)(kvs:List (List Key×V))(bk:Bk)(ks ns:List FF)(i j:Nat):Prop where
 hd:H db=ih (.dT kvs)
 dv:cy H kvs bk
 ent:∀p∈bk,Ent p.2.2
 ask:∀p∈bk,∀s∈cg p.2.2,a9 s = "ask" -> d0 s∈ns
 nd:(bk.map c3).Nodup
 ei:∀p∈bk,(p.1∈ks.take i/\p.2.1∈ns)\/(ih p.1=ks[i]? /\ p.2.1∈ns.take j)
 a5:bk.length<=i * ns.length+j
theorem BI.keep{kvs:ac (List Key×V)}{bk:Bk}(h:BI H db kvs bk ks ns i j)(k:∀b o,(∃xs,o=HO.tup xs)\/b=db->H b=ih o->H' b=ih o):BI H' db kvs bk ks ns i j:=⟨k _ _ (.inr rfl) h.hd,h.dv.keep (λb xs e=>k _ _ (.inl ⟨_,rfl⟩) e) h.ent,h.ent,h.ask,h.nd,h.ei,h.a5⟩
inductive rp(vs:List V)(H:Hp)(Q:VK)(E:XK):Prop
 |mk{p lk ln:E8}{ks ns:List FF}(_:vs=[.ref p,.ref lk,.ref ln])(_:df p H)(_:d6 H lk ks)(_:d6 H ln ns)(_:ks.length<=8)(_:ns.length<=6)
  (_:∀db kvs bk H',bu p H H'->H db=none->H' db=ih (.dT kvs)->cy H' kvs bk->gq bk->(∀q∈bk,∀s∈cg q.2.2,a9 s = "ask" -> d0 s∈ns)->(∀q∈bk,q.1∈ks/\q.2.1∈ns)->Q (.ref db) H'):rp vs H Q E
abbrev vR:List FF:=["_law_pot_here","_law_kinds","_law_names_here"]
noncomputable abbrev QW:List FF:=["_law_pot_here","_law_kinds","_law_names_here","_law_book_here","_law_kind","_law_at"]
theorem rq:bj QW vR (aJ uG):=bB
theorem N4(F:aS K "_law_book" "_law_book" uG f fd)(B:dq mg)(xm:bH P w K mg base aH 1 fD dD ["_law_pot_here","_law_many"] hH "_law_digit")(ym:bH P w K mg base aH 4 fE dE ["_law_pot_here","_law_names_here","_law_at"] qu "_law_entry"):aU P w K mg base aH 5 f fd vR rp:=by
 refine F.bI rq λQa A outer s H vs Q E zg h=>?_
 ·obtain @⟨p,lk,N,ks,ns,rfl,xh,zb,O,zm,xn,q⟩:=h
  have ze:a4 4 _:=zg;have xj:a4 1 _:=ze.mono (by decide)
  have yj:=eF zg.units;intro X;refine⟨_,aw (a3 3 rq.nd pD)
   (aw (eK d9 rfl (c8 (pv 1)) (bf 4 rq.nd)
    (aB (eK d9 rfl (ib rfl B.range (aa (bV eQ rfl B.len eI (aa (pv 2) ai)) ai)) (bf 5 rq.nd)
     (aB (bo (br Dl (ba xm xj (aa (pv 0) (aa au ai))) au (bC _)) (aB (gC yj (pv 3) (fy (aa (pv 4) (aa (aV dA (pv 2) (pv 5)) ai))) (ba ym ze (aa (pv 0) (aa (pv 2) (aa (pv 5) ai)))) rfl)) bG)))))
   (aB (aZ (pv 3)))),?_⟩
  refine gf λU xc=>?_;intro Z yn;intro db L;have xf:p≠db:=xh.ne L;have yc:=(bu.refl xh).new (o:=.dT []) L;have T:=zb.same (dz (o:=.dT []) L);have za:=O.same (dz (o:=.dT []) L);have h0:upd H db (.dT []) db=ce []:=af;generalize upd H db (.dT [])=H0 at yc T za h0⊢;refine b8 xc λU xc=>?_;intro Z yn;refine⟨_,rfl,lk,rfl,⟨_,ak.of T.hl⟩,ie (xs:=ks.map V.str) (λi σ G=>∃(kvs:ac (List Key×V)) (bk:Bk) (zc I:ad V),σ=[am p,am lk,am N,am db,zc,I]/\bu p H G/\d6 G lk ks/\d6 G N ns/\BI G db kvs bk ks ns i 0)
   ⟨[],[],none,none,rfl,yc,T,za,⟨h0,.nil,λx c=>(by cases c),λx c=>(by cases c),fc,λx c=>(by cases c),bD _⟩⟩ (λi σ G _ ab=>by obtain⟨_,_,_,_,_,_,z,_⟩:=ab;exact ak.of z.hl) ?_ ?_⟩
  ·clear yc T za h0
   rintro i x σ G c ⟨kvs,bk,zc,I,rfl,PG,J,D,a⟩;refine iV ?_;intro Z zr;obtain⟨W,rfl⟩:=jC c;have zi:ks[i]∉ ks.take i:=by
    have:(ks.take (i+1)).Nodup:=zb.nd.sublist (jl _ _);rw[ir W]at this;exact λz=>(dw.mp this).2.2 _ z _ aY rfl
   refine⟨_,rfl,N,_,rfl,.inl (ak.of D.hl),_,rfl,by omega,by rw[aE];omega,kx (λj σ G=>∃(kvs:ac (List Key×V)) (bk:Bk) (I:ad V),σ=[am p,am lk,am N,am db,ih (.str ks[i]),I]/\bu p H G/\d6 G lk ks/\d6 G N ns/\BI G db kvs bk ks ns i j)
    ⟨kvs,bk,I,rfl,PG,J,D,a⟩ ?_ ?_⟩
   ·clear a J D PG
    rintro j σ G xd ⟨kvs,bk,I,rfl,PG,J,D,a⟩;refine iV ?_;intro Z xt;have zn:(0:Int)+(j:Int)=(j:Int):=by omega
    rw[zn];have Y:j<ns.length:=by rw[aE]at xd;have:Y0 ((ns.length:Nat):Int)=ns.length:=gy _;rw[this]at xd;exact xd
    have zj:ns[j]∉ ns.take j:=by
     have:(ns.take (j+1)).Nodup:=O.nd.sublist (jl _ _);rw[ir Y]at this;exact λz=>(dw.mp this).2.2 _ z _ aY rfl
    have yr:i * ns.length+j<48:=by
     have h1:(i+1) * ns.length<=8 * ns.length:=Nat.mul_le_mul_right _ (by omega)
     rw[r5]at h1;omega
    have xe:∀{G yh:Hp}{kvs:ac (List Key×V)}{bk:Bk}{j:Nat},df p G->bu p G yh->BI G db kvs bk ks ns i j->BI yh db kvs bk ks ns i j:=λxk xo m=>m.keep λb o yo e=>xo.kp _ _ e (by
     rcases yo with⟨xs,rfl⟩|rfl
     ·obtain⟨x,y,e0,_⟩:=xk;exact ar e e0
     ·exact aT xf)
    refine ah rfl (cW (p:=p) (m:=5) PG.ok (by decide) (by decide) λyt zt e0 e1 xa=>⟨_,_,rfl,rfl,_,rfl,?_⟩)
    have b1:=xe PG.ok xa a;have M:=PG.trans xa;have yf:=J.d2 PG.ok xa;have xb:=D.d2 PG.ok xa;have ye:∀q∈bk,(q.1∈ks.take i/\q.2.1∈ns)\/(ih q.1=ks[i]? /\ q.2.1∈ns.take (j+1)):=λq zo=>by
     rcases b1.ei q zo with z|⟨r,C⟩
     ·exact .inl z
     ·exact .inr ⟨r,by rw[ir Y];exact fM _ C⟩
    refine bY (λ_=>?_) (λ_=>⟨_,_,_,rfl,M,yf,xb,⟨b1.hd,b1.dv,b1.ent,b1.ask,b1.nd,ye,by have:=b1.a5;omega⟩⟩)
    refine dZ rfl rfl rfl (qu.mk (k:=j) rfl M.ok xb.hl O.ne (by omega) O.nm λv d xu ya xp zh yp=>?_)
    have zp:=xe M.ok ya b1;have zf:=M.trans ya;have yk:=yf.d2 M.ok ya;have xg:=xb.d2 M.ok ya;refine iz rfl rfl rfl rfl ⟨N,_,(j:Int),.str ns[j],rfl,rfl,ak.of xg.hl,cw (by rw[cL,bz Y];rfl),bS,λxq R S _ zk=>?_⟩
    have xl:R xq=a2 (([n' ks[i],n' ns[j]]:ac Key).map kV):=zk;have g:=zp.keep λb o _ e=>S _ _ e;have a5:=g.a5;have lk:=g.dv.length;have yg : [ks[i],ns[j]]∉ bk.map c3:=λyq=>by
     obtain⟨yd,yl,e⟩:=a6.mp yq;have e1:yd.1=ks[i]:=by injection e
     have e2:yd.2.1=ns[j]:=by injection e with _ z;injection z
     rcases g.ei yd yl with⟨z,_⟩|⟨_,z⟩
     ·exact zi (e1 ▸ z)
     ·exact zj (e2 ▸ z)
    have zl:bb kvs [n' ks[i],n' ns[j]]=none:=by
     rcases g.dv.val (k:=ks[i]) (n:=ns[j]) with⟨z,_⟩|⟨yu,zu,_,C,_⟩
     ·exact z
     ·exact absurd (a6.mpr ⟨_,C,rfl⟩) yg
    refine⟨db,_,rfl,eW.t (k:=[n' ks[i],n' ns[j]]) g.hd xl (by rw[aW];omega),?_⟩
    rw[iU _ zl];have xi:∀{zs:ac (List Key×V)} b xs,R b=a2 xs->upd R db (.dT zs) b=a2 xs:=λb xs e=>by rw[ag (ar e g.hd)];exact e
    have yi:∀{zs:ac (List Key×V)}{l:E8}{ys:ac FF},d6 R l ys->d6 (upd R db (.dT zs)) l ys:=λh=>⟨by rw[ag (ar h.hl g.hd)];exact h.hl,h.ne,h.a5,h.nm,h.nd⟩
    refine⟨_,bk++[(ks[i],ns[j],d)],_,rfl,(zf.trans (pK zf.ok S)).write L xf,yi (yk.same S),yi (xg.same S),⟨af,cy.snoc (zh.keep (xp.same S) xi) (g.dv.keep xi g.ent),λx c=>?_,λx c=>?_,?_,λx c=>?_,by rw[bX,jo];omega⟩⟩
    ·rcases bK.mp c with z|z
     ·exact g.ent x z
     ·rw[bN.mp z];exact zh
    ·rcases bK.mp c with z|z
     ·exact g.ask x z
     ·rw[bN.mp z];exact yp
    ·rw[a']
     exact dw.mpr ⟨g.nd,by simp,λu zq v zd y=>yg (by have zd:v=[ks[i],ns[j]]:=bN.mp zd;rw[<-zd,<-y];exact zq)⟩
    ·rcases bK.mp c with z|z
     ·exact ye x z
     ·rw[bN.mp z]
      exact .inr ⟨(bz W).symm,by rw[ir Y];exact d7 _ aY⟩
   ·clear a J D PG
    rintro σ G ⟨kvs,bk,I,rfl,PG,J,D,a⟩;have xr:Y0 (((ns.map V.str).length:Nat):Int)=ns.length:=by rw[aE];exact gy _
    rw[xr]at a;refine⟨kvs,bk,_,_,rfl,PG,J,D,⟨a.hd,a.dv,a.ent,a.ask,a.nd,λx c=>.inl ?_,by have:=a.a5;rw[r5];omega⟩⟩
    rw[ir W];rcases a.ei x c with⟨r,C⟩|⟨r,C⟩
    ·exact⟨fM _ r,C⟩
    ·rw[bz W]at r
     exact⟨d7 _ (by rw[cJ r];exact aY),oX C⟩
  ·rintro σ G ⟨kvs,bk,zc,I,rfl,PG,J,D,a⟩
   rw[aE]at a;refine gn xc ?_;intro Z;have yb:∀x∈bk,x.1∈ks/\x.2.1∈ns:=λx c=>by
    rcases a.ei x c with⟨r,C⟩|⟨r,C⟩
    ·exact⟨oX r,C⟩
    ·rw[rY (aQ _)]at r;cases r
   exact ah rfl (q db kvs bk G PG L a.hd a.dv ⟨λx c=>⟨zb.nm _ (yb x c).1,O.nm _ (yb x c).2⟩,a.ent,a.nd,by have:=a.a5;have h1:ks.length * ns.length<=8 * 6:=w0 zm xn;omega⟩ a.ask yb)
def hO(d:UR):List FF:=((cg d).filter λs=>decide (a9 s = "ask")).map d0
def k9(d:UR):Bool:=(cg d).any λs=>decide (a9 s = "onward")
def gE(W:aP)(n:FF):Nat->Option (FF×UR)->List FF
 |0,_=>[]
 |_+1,none=>[]
 |k+1,ih (w,d)=>hO d++gE W n k (if k9 d=true then W.look (n,w) else none)
def i5(W:aP)(n:FF):List FF:=if (W.cU (n,"")).isSome=true then [] else gE W n W.line.length (W.look (n,""))
def vn:UR:=.tuple [.str "onward"]
theorem LC{s:UR}(h:eh s):Yh s vn=decide (a9 s = "onward"):=by
 cases h with
 |add n=>show YN [.str "add",.int n] [.str "onward"]=decide (("add" : FF) = "onward");rfl
 |times n=>show YN [.str "times",.int n] [.str "onward"]=decide (("times" : FF) = "onward");rfl
 |ask x=>show YN [.str "ask",.str x] [.str "onward"]=decide (("ask" : FF) = "onward");rfl
 |mf=>rfl
theorem AK{W:aP}:∀k,gE W n k none=[]
 |0=>rfl
 |_+1=>rfl
theorem any_congr{α:Type}{l:ac α}{p q:α->Bool}(h:∀x∈l,p x=q x):l.any p=l.any q:=by
 induction l with
 |nil=>rfl
 |cons x l a=>rw[jn,jn,h x aY,a λy b=>h y (bc _ b)]
theorem Aj{W:aP}{w:FF}{k:Nat}{d:UR}:gE W n (k+1) (ih (w,d))=hO d++gE W n k (if k9 d=true then W.look (n,w) else none):=rfl
structure LB(H:Hp)(la db ow:E8)(line:List FF)(kvs:List (List Key×V))(bk:Bk)(own:Own):Prop where
 hl:H la=ih (.lst (line.map V.str))
 hd:H db=ih (.dT kvs)
 dv:cy H kvs bk
 ok:gq bk
 ho:H ow=ih (.dK (c4 own))
 l8:line.length<=8
theorem LB.same{a:E8}{kvs:ac (List Key×V)}{bk:Bk}{own:Own}(h:LB H a db ow line kvs bk own)(S:ax H H'):LB H' a db ow line kvs bk own:=⟨S _ _ h.hl,S _ _ h.hd,h.dv.same S,h.ok,S _ _ h.ho,h.l8⟩
inductive ru(vs:List V)(H:Hp)(Q:VK)(E:XK):Prop
 |mk{la db ow:E8}{line:List FF}{kvs:List (List Key×V)}{bk:Bk}{own:Own}{name:FF}(_:vs=[.ref la,.ref db,.ref ow,.str name])(_:LB H la db ow line kvs bk own)
  (_:∀r H',ax H H'->H' r=ih (.lst ((i5 ⟨line,bk,own⟩ name).map V.str))->Q (.ref r) H'):ru vs H Q E
abbrev vS:List FF:=["_law_line_here","_law_book_here","_law_own","_law_name"]
noncomputable abbrev ET:List FF:=["_law_line_here","_law_book_here","_law_own","_law_name","_law_spot_here","_law_found","_law_turn","_law_steps_here"]
theorem jV:bj ET vS (aJ nZ):=bB
abbrev QX:VD:=En (fg (bT (uq (bT (l7 (bT (bE nZ) 3)) 0)) 1))
theorem Er:b5 ET (aJ nZ) ["_law_step_here"] [none] (cG QX):=dc
theorem N5(F:aS K "_law_leads" "_law_leads" nZ f fd)(B:dq mg)(xl:bH P w K mg base aH 1 fS dS rJ jU "_law_spot")(xw:bH P w K mg base aH 1 fL dL ["_law_entry_here"] mE "_law_steps"):aU P w K mg base aH 2 f fd vS ru:=by
 refine F.bI jV λQa A outer s H vs Q E yl h=>?_
 ·obtain @⟨S,db,ow,line,kvs,bk,own,name,rfl,I,q⟩:=h
  have zb:a4 1 _:=yl;have zl:=yl.units;have zp:=eF zl;intro X;refine⟨_,aw (a3 4 jV.nd (ba xl zb (aa (pv 0) (aa (pv 1) (aa (pv 3) (aa bt ai))))))
   (aw (a3 5 jV.nd (jL ai))
   (aw (bo (PW.pt (pw_and (fX (i1 zp (pv 3) (pv 2))) (pw_and1 (PW.pt (pw_or (br gD (pv 4) dV (bC _)) (pw_or1 (br jw (aV bp (aV bp (pv 4) au) au) (jL (aa bt (aa bt ai))) rfl)))))))
    (aB (aZ (pv 5))) bG)
   (aw (eK d9 rfl (ib rfl B.range (aa (bV eQ rfl B.len eI (aa (pv 0) ai)) ai)) (bf 6 jV.nd)
    (aB (bo (fX (tE (pv 4)))
     (aw (a3 7 jV.nd (ba xw zb (aa (aV bp (pv 4) au) ai)))
     (aw (a3 5 jV.nd (bA hK (pv 5) (d3 rfl Er (c8 (pv 7)) (λs H fp=>⟨bf 0 Er.nd,iS (br c' (aV (jA K rfl) (pv 0) au) bt (bC _)),aV (jA K rfl) (pv 0) au (λ_ _=>rfl)⟩))))
     (aB (bo (br (C4 zl) (fy (aa bt ai)) (pv 7) rfl) (aB (a3 4 jV.nd (ba xl zb (aa (pv 0) (aa (pv 1) (aa (pv 3) (aa (aV bp (pv 4) au) ai)))))))
      (aB (a3 4 jV.nd dV))))))
     bG)))
   (aB (aZ (pv 5)))))),?_⟩
  generalize ye:(⟨line,bk,own⟩:aP)=W at q;have ze:W.line=line:=by rw[<-ye]
  have eB:W.bk=bk:=by rw[<-ye]
  have yw:W.own=own:=by rw[<-ye]
  have lk:∀b,W.look (name,b)=c0 bk name (ee line b):=λb=>by unfold aP.look;rw[eB,ze]
  have xc:∀b wh d,W.look (name,b)=ih (wh,d)->Ent d/\wh∈line:=λb wh d e=>⟨by rw[lk]at e;exact(kF I.ok wh d e).2,by rw[<-ze];exact l9 e⟩
  refine gf λU j=>?_;intro g xf;refine dZ rfl rfl rfl (jU.mk rfl I.hl I.hd I.dv I.ok (.inl rfl) λv Y zw yf=>?_);rw[<-lk]at yf;refine b8 j λU j=>?_;intro g xf;refine⟨bD _,λlf H2 zf _ xq=>?_⟩;have xi:=zw.trans zf;have yi:=I.same xi;refine b8 j λU j=>?_;intro g xf;refine vk (Bw rfl rfl rfl (W:=W) (a:=(name,"")) (by rw[yw];exact yi.ho) (eL.same yf zf) λwh d e=>(xc _ wh d e).1) λxg T=>?_
  have zi:=xi.trans T;have zh:=T _ _ xq;have xj:=yi.same T
  by_cases J:(W.own.lookup name).isSome=true/\W.eX (name,"")=true
  ·rw[aF (by rw[J.1,J.2];rfl)]
   obtain⟨z,xx⟩:=rP.mp J.1;have yg:W.cU (name,"")=ih z:=by unfold aP.cU;rw[aF ⟨rfl,J.2⟩,xx]
   exact ah rfl (q lf xg zi (by unfold i5;rw[yg];exact zh))
  rw[aq (λz=>J (by rw[gP]at z;exact z))]
  have yg:W.cU (name,"")=none:=by
   unfold aP.cU
   by_cases Z:W.eX (name,"")=true
   ·rw[aF ⟨rfl,Z⟩]
    cases e:W.own.lookup name with
    |none=>rfl
    |some z=>exact absurd ⟨by rw[e];rfl,Z⟩ J
   ·rw[aq (λz=>Z z.2)]
  have yq:i5 W name=gE W name line.length (W.look (name,"")):=by unfold i5;rw[yg,aq (by simp),ze]
  rw[yq]at q;refine b8 j λU j=>?_;intro g xf;have xB:=I.l8;refine⟨_,rfl,S,_,rfl,.inl (ak.of xj.hl),_,rfl,by omega,by rw[aE];omega,kx (λi σ G=>∃(lf:E8) (fs:ac FF) (k:ad (FF×UR)) (n:V) (zg xh:ad V),σ=[am S,am db,am ow,ih (.str name),ih n,am lf,zg,xh]/\ax xg G/\G lf=bd (fs.map V.str)/\eL G n k/\(∀wh d,k=ih (wh,d)->Ent d/\wh∈line)/\fs++gE W name (line.length - i) k=gE W name line.length (W.look (name,""))/\fs.length<=4 * i)
   ⟨lf,[],_,v,none,none,rfl,ax.refl _,zh,(eL.same yf zf).same T,xc "",rfl,bD _⟩ ?_ ?_⟩
  ·rintro i σ G hi ⟨lf,fs,k,n,zg,xh,rfl,N,xa,oc,xm,l,yx⟩
   refine iV ?_;intro g yB;have zA:i<line.length:=by rw[aE]at hi;have:Y0 ((line.length:Nat):Int)=line.length:=gy _;rw[this]at hi;exact hi
   have vT:=xj.same N;cases k with
   |none =>
    have oc:n=V.aO:=oc;subst oc;refine aX rfl rfl ?_;refine bY (λz=>absurd z (by decide)) (λ_=>?_)
    exact⟨lf,fs,none,_,_,_,rfl,N,xa,rfl,λwh d e=>(by cases e),by rw[AK]at l⊢;exact l,by omega⟩
   |some p =>
    obtain⟨wh,d⟩:=p;obtain⟨ym,zq⟩:=xm wh d rfl;obtain⟨t,u,rfl,zm,zx⟩:=oc;obtain⟨yc,xr⟩:=tq ym;have xy:line.length - i=(line.length - (i+1))+1:=by omega
    rw[xy,Aj]at l;refine aX rfl rfl ?_;refine bY (λ_=>?_) (λz=>absurd (by rw[ej (by intro z;cases z)];rfl) z)
    refine gf λU j=>?_;intro g yy;refine ah rfl ⟨t,_,1,_,rfl,rfl,aA.of zm,cT,mE.mk rfl ym zx λxn us zy xz zc xd=>?_⟩;refine b8 j λU j=>?_;intro g yy;have yr:=bL.length xd;refine aX rfl rfl ⟨xn,rfl,⟨_,ak.of zc⟩,λc yn=>?_⟩;refine fk (xs:=us) (λm ys g r=>∃yh:ad V,g=[yh]/\ax zy r/\r c=bd ys/\ys=((((cg d).take m).filter λs=>decide (a9 s = "ask")).map d0).map V.str) ⟨none,rfl,dz yn,af,rfl⟩ (λm ys g r ab=>by obtain⟨_,_,z1,z2,_⟩:=ab;exact ⟨z2,ak.of (z1 _ _ zc)⟩) ?_ ?_
    ·rintro m y ys g r zn ⟨yh,rfl,C,D,rfl⟩
     have yj:=(b3.mp zn).1;obtain⟨ya,yd,yz⟩:=bL.get (bL.same xd C) zn;have zr:m<(cg d).length:=(b3.mp yd).1;have zo:eh ya:=yc ya (eO yd);obtain⟨xo,xs,rfl,zd,_,xt,_⟩:=pZ zo yz;have zj:(cg d).take (m+1)=(cg d).take m++[ya]:=by rw[ir zr,(b3.mp yd).2]
     refine ah rfl ⟨xo,_,0,_,rfl,rfl,aA.of zd,b',rfl,_,rfl,?_⟩;have a5:(((cg d).take m).filter λs=>decide (a9 s = "ask")).length<=4:=en (gR _ _) (by rw[cK];omega)
     by_cases e:a9 ya = "ask"
     ·refine ite_tt (by rw[e];rfl) ?_
      have ex:=xt e;rw[ex]at zd;refine ah rfl ⟨xo,_,1,_,rfl,rfl,aA.of zd,cT,D,by rw[aE,aE,aW];omega,cw_next yj ⟨_,rfl,λb o e=>by rw[ag (ay e yn)];exact C _ _ e,af,?_⟩⟩
      rw[zj,gS,m5,aF (cf e),r3,a',a'];rfl
     ·refine ite_ff (ej λz=>e (by injection z)) ?_
      refine cw_next yj (ah rfl ⟨C,D,?_⟩);rw[zj,gS,m5,aq (by simp[e]),r3,eZ]
    ·rintro ys g r ⟨yh,rfl,C,D,rfl⟩
     rw[yr,cB]at D;have a5:(hO d).length<=4:=by unfold hO;rw[aE];exact en (gR _ _) xr
     have D:r c=bd ((hO d).map V.str):=D;have xk:=xz.trans C;refine⟨lf,c,_,_,rfl,rfl,xk _ _ xa,D,by rw[aE,aE,aW];omega,λO yt=>?_⟩
     rw[<-a'];have za:=dz (o:=.lst ((fs++hO d).map V.str)) yt;have yk:upd r O (.lst ((fs++hO d).map V.str)) O=bd ((fs++hO d).map V.str):=af;generalize upd r O (.lst ((fs++hO d).map V.str))=zB at za yk⊢;have zt:=xk.trans za;have xp:=(C.trans za) _ _ zc;have yp:=bL.same xd (C.trans za);refine gn j ?_;intro g;refine⟨eM,λZ yo xb _ xu=>ah rfl ⟨vn,cg d,.tup xu (.cons (.str _) .nil),.inl (.lst (xb _ _ xp) (bL.same yp xb)),by decide +kernel,(B' yc).1,by decide +kernel,_,rfl,?_⟩⟩
     rw[aq cc];have xe:=zt.trans xb;have R:=vT.same xe;have yu:=xe _ _ zm;have zu:((cg d).any λy=>Yh y vn)=k9 d:=by
      unfold k9;exact any_congr λs zz=>LC (yc s zz)
     rw[zu];have zk:∀(L:V) (M:ad (FF×UR)) (x:Hp),ax yo x->eL x L M->(∀wh d,M=ih (wh,d)->Ent d/\wh∈line)->M=(if k9 d=true then W.look (name,wh) else none) ->∃(lf:E8) (fs:ac FF) (k:ad (FF×UR)) (n:V) (xv yv:ad V),[am S,am db,am ow,ih (.str name),ih L,am O,ih (V.int (0+(i:Int))),am xn]=[ih (V.ref S),am db,am ow,ih (.str name),ih n,am lf,xv,yv]/\ax xg x/\x lf=bd (fs.map V.str)/\eL x n k/\(∀wh d,k=ih (wh,d)->Ent d/\wh∈line)/\fs++gE W name (line.length - (i+1)) k=gE W name line.length (W.look (name,""))/\fs.length<=4 * (i+1):=λL M x yb o' xA zv=>⟨O,fs++hO d,M,L,_,_,rfl,N.trans (xe.trans yb),(xb.trans yb) _ _ yk,o',xA,by rw[zv,mX];exact l,by rw[bX];omega⟩
     refine bY (λc=>?_) (λc=>?_)
     ·refine iz rfl rfl rfl rfl ⟨t,_,0,_,rfl,rfl,aA.of yu,b',jU.mk rfl R.hl R.hd R.dv R.ok (.inr zq) λL x yb o'=>?_⟩
      rw[<-lk]at o';exact zk L _ x yb o' (xc wh) (by rw[aF c])
     ·exact zk .aO none yo (ax.refl _) rfl (λwh d e=>(by cases e)) (by rw[aq c])
  ·rintro σ G ⟨lf,fs,k,n,zg,xh,rfl,N,xa,oc,xm,l,yx⟩
   have yA:Y0 (((line.map V.str).length:Nat):Int)=line.length:=by rw[aE];exact gy _
   rw[yA,Nat.sub_self]at l;have l:fs++[]=_:=l;rw[eZ]at l;refine gn j ?_;intro g;exact ah rfl (q lf G (zi.trans N) (by rw[<-l];exact xa))
def f6(line:List FF)(b:FF):Nat:=if b = "" then 0 else line.idxOf b+1
theorem Bx{W:aP}(c:W.line.Nodup){b:FF}{d:UR}(h:W.look (n,b)=ih (wh,d))(ne:wh ≠ ""):f6 W.line b<f6 W.line wh/\f6 W.line wh<=W.line.length:=by
 have e:ee W.line b=W.line.drop (f6 W.line b):=by unfold ee f6;split <;> rfl
 have a:wh∈ee W.line b:=(jG h).1;rw[e]at a;obtain⟨i,hi,rfl⟩:=wN.mp a;rw[mW]at hi;have f:f6 W.line (W.line.drop (f6 W.line b))[i]=f6 W.line b+i+1:=by
  rw[show f6 W.line (W.line.drop (f6 W.line b))[i]=W.line.idxOf (W.line.drop (f6 W.line b))[i]+1 from aq ne,List.getElem_drop,c.idxOf_getElem]
 omega
section
variable{W:aP}
theorem sG{w:FF}{d:UR}{b:Ask}(h:W.need n w d=ih b):(a9 d = "ask" /\ b=(d0 d,("" : FF)))\/(a9 d = "onward" /\ b=(n,w)):=by
 unfold aP.need at h
 by_cases c:a9 d = "ask"
 ·rw[aF c]at h;cases h;exact .inl ⟨c,rfl⟩
 ·rw[aq c]at h
  by_cases a:a9 d = "onward"
  ·rw[aF a]at h
   split at h
   ·cases h;exact .inr ⟨a,rfl⟩
   ·cases h
  ·rw[aq a]at h;cases h
theorem Ck{f:bh}(ok:bR W f){b:Ask}(h:gG W f=ih b):∃d s,W.look f.a=ih (f.w,d)/\s∈cg d/\W.need f.a.1 f.w s=ih b:=by
 obtain⟨s,ds,e1,e2⟩:=ku h;obtain⟨_,d,pre,h2,c,_⟩:=ok.lk;exact⟨d,s,h2,by rw[c,e1];exact d7 _ aY,e2⟩
theorem jz{a:Ask}{b:ac Ask}:cb (a::b)=if a.2 = "" then a.1::cb b else cb b:=by
 unfold cb;rw[m5]
 by_cases c:a.2 = ""
 ·rw[aF (cf c),aF c];rfl
 ·rw[aq (by simp[c]),aq c]
theorem tu{a bs:ac Ask}:cb (a++bs)=cb a++cb bs:=by unfold cb;rw[gS,a']
theorem AL{f:bh}{l:ac bh}{b:Ask}(c:Chain W (f::l) b):∃x,gG W f=ih x/\(l.map (·.a)++[b]).head?=ih x /\∀g d,l=g::d->Chain W (g::d) b:=by
 cases l with
 |nil=>exact⟨b,c,rfl,λ_ _ e=>(by cases e)⟩
 |cons g d=>exact⟨g.a,c.1,rfl,λ_ _ e=>by cases e;exact c.2⟩
theorem AM(m:W.line.Nodup)(ne:∀k∈W.line,k ≠ ""){b:Ask}{y:FF}:∀{l:ac bh}{f:bh}{k:Nat},(∀g∈f::l,bR W g)->Chain W (f::l) b->(cb (l.map (·.a)++[b])).head?=ih y->W.line.length<=k+f6 W.line f.a.2->y∈gE W f.a.1 k (W.look f.a)
 |l,f,k,ok,c,h,B=>by
  obtain⟨x,u,i,cn⟩:=AL c;obtain⟨d,s,e1,e2,e3⟩:=Ck (ok f aY) u;have o:=l9 e1;obtain⟨C,p2⟩:=Bx m (n:=f.a.1) (b:=f.a.2) e1 (ne _ o);obtain⟨k,rfl⟩:∃v,k=v+1:=⟨k - 1,by omega⟩
  rw[e1,Aj];rcases sG e3 with⟨t,rfl⟩|⟨t,rfl⟩
  ·refine fM _ ?_
   have:cb (l.map (·.a)++[b])=d0 s::cb ((l.map (·.a)++[b]).drop 1):=by
    cases e:l.map (·.a)++[b] with
    |nil=>simp at e
    |cons z r=>rw[e]at i;cases i;rw[jz,aF rfl];rfl
   rw[this]at h;cases h
   exact a6.mpr ⟨s,fj.mpr ⟨e2,cf t⟩,rfl⟩
  ·refine d7 _ ?_
   rw[aF (show k9 d=true from lC.mpr ⟨s,e2,cf t⟩)];have p:=ne _ o;cases l with
   |nil =>
    cases i
    rw[show cb (([]:ac bh).map (·.a)++[(f.a.1,f.w)])=[] from by show cb [(f.a.1,f.w)]=[];rw[jz,aq p];rfl]at h
    cases h
   |cons g q =>
    have j:g.a=(f.a.1,f.w):=cJ i;have:=AM m ne (l:=q) (f:=g) (k:=k) (b:=b) (y:=y) (λz A=>ok z (bc _ A)) (cn g q rfl) (by
     rw[b4,Fw,jz,aq (by rw[j];exact p)]at h;exact h) (by rw[j];show _<=_+f6 W.line f.w;omega)
    rw[j]at this;exact this
theorem AN(j:W.line.Nodup)(ne:∀k∈W.line,k ≠ ""){b:Ask}:∀{l:ac bh}{f:bh},(∀g∈f::l,bR W g)->Chain W (f::l) b->cb (l.map (·.a)++[b])=[]->f6 W.line f.a.2<f6 W.line b.2
 |l,f,ok,c,h=>by
  obtain⟨x,u,i,cn⟩:=AL c;obtain⟨d,s,e1,e2,e3⟩:=Ck (ok f aY) u;have m:=l9 e1;obtain⟨o,p2⟩:=Bx j (n:=f.a.1) (b:=f.a.2) e1 (ne _ m);have:x=(f.a.1,f.w):=by
   rcases sG e3 with⟨t,rfl⟩|⟨t,rfl⟩
   ·cases e:l.map (·.a)++[b] with
    |nil=>simp at e
    |cons z r=>rw[e]at i h;cases i;rw[jz,aF rfl]at h;cases h
   ·rfl
  cases l with
  |nil=>cases i;rw[this];exact o
  |cons g p =>
   have q:g.a=(f.a.1,f.w):=by cases i;exact this
   have:=AN j ne (l:=p) (f:=g) (b:=b) (λz v=>ok z (bc _ v)) (cn g p rfl) (by
    rw[b4,Fw,jz,aq (by rw[q];exact ne _ m)]at h;exact h)
   rw[q]at this;exact lA o this
theorem By{b:Ask}:∀{l m:ac bh}{c:Ask},Chain W l c->m.head?.map (·.a)=ih c->Chain W m b->Chain W (l++m) b
 |[],m,c,_,_,h=>h
 |[f],[],c,_,e,_=>by cases e
 |[f],g::m,c,h1,e,h2=>by cases e;exact⟨h1,h2⟩
 |f::g::l,m,c,h1,e,h2=>⟨h1.1,By (l:=g::l) h1.2 e h2⟩
theorem sk(i:W.line.Nodup)(ne:∀k∈W.line,k ≠ ""){b:Ask}:∀{l:ac bh}{k:Nat}{x y:FF},(∀g∈l,bR W g)->Chain W l b->(cb (l.map (·.a)))[k]?=ih x->(cb (l.map (·.a)))[k+1]?=ih y->y∈i5 W x
 |[],k,x,y,_,_,e,_=>by cases e
 |f::l,k,x,y,ok,c,ex,d=>by
  have m:Chain W l b:=by
   cases l with
   |nil=>trivial
   |cons g s=>exact c.2
  have j:∀g∈l,bR W g:=λz p=>ok z (bc _ p);rw[b4,jz]at ex d
  by_cases h:f.a.2 = ""
  ·rw[aF h]at ex d
   cases k with
   |succ k=>exact sk i ne j m ex d
   |zero =>
    have ex:f.a.1=x:=by simpa using ex
    subst ex;have d:(cb (l.map (·.a)))[0]?=ih y:=by simpa using d
    have q:(cb (l.map (·.a)++[b])).head?=ih y:=by
     rw[tu];cases e:cb (l.map (·.a)) with
     |nil=>rw[e]at d;cases d
     |cons z r=>rw[e]at d;simpa using d
    have:=AM i ne (k:=W.line.length) ok c q (aaM _ _);have n:f.a=(f.a.1,("" : FF)):=by rw[<-h]
    have o:=(ok f aY).lk.1;rw[n]at o;unfold i5;rw[o,aq (by simp)]
    rw[n]at this;exact this
  ·rw[aq h]at ex d
   exact sk i ne j m ex d
theorem Bz{n x:FF}{NS:ac FF}(c:∀p∈W.bk,∀s∈cg p.2.2,a9 s = "ask" -> d0 s∈NS):∀{k:Nat}{b:FF},x∈gE W n k (W.look (n,b))->x∈NS
 |0,_,h=>by cases h
 |k+1,b,h=>by
  cases e:W.look (n,b) with
  |none=>rw[e]at h;cases h
  |some p =>
   rw[e]at h;have h:x∈hO p.2++gE W n k (if k9 p.2=true then W.look (n,p.1) else none):=h;rcases bK.mp h with z|z
   ·obtain⟨s,a,rfl⟩:=a6.mp z
    obtain⟨a,d⟩:=fj.mp a;exact c _ (km (jG e).2) s a (dQ d)
   ·split at z
    ·exact Bz c z
    ·rw[AK]at z;cases z
structure DE(W:aP)(NS ns:List FF):Prop where
 ne:ns ≠ []
 nd:ns.Nodup
 ld:∀k,k<ns.length ->∃x y,ns[k]?=ih x/\ns[(k+1) % ns.length]?=ih y/\y∈i5 W x
 ei:∀n∈ns,n∈NS
theorem eS.is{a:Ask}(h:eS W a ns)(q:W.line.Nodup)(ne:∀k∈W.line,k ≠ "")(u:∀p∈W.bk,∀s∈cg p.2.2,a9 s = "ask" -> d0 s∈NS):DE W NS ns:=by
 obtain⟨_,fs,b,d,ok,c,v,rfl⟩:=h.core;cases fs with
 |nil=>cases d
 |cons f l =>
  have d:f.a=b:=by simpa using d
  have h1:cb ((f::l).map (·.a))≠ []:=λz=>by
   have:=AN q ne ok c (by
    rw[tu];rw[b4,jz]at z
    by_cases e:f.a.2 = ""
    ·rw[aF e]at z;cases z
    ·rw[aq e]at z;rw[z,<-d,jz,aq e];rfl)
   rw[d]at this;exact jg _ this
  have h2:(cb ((f::l).map (·.a))).Nodup:=by
   have w:(((f::l).map (·.a)).filter λa=>decide (a.2=("" : FF))).Nodup:=v.filter _;refine VG _ ?_ (abH.mp w);rintro x y ⟨A,B,n⟩ e;have e1:=dQ (fj.mp A).2;have e2:=dQ (fj.mp B).2;exact n (vZ e (e1.trans e2.symm))
  have C:Chain W ((f::l)++(f::l)) b:=By c (by simp[d]) c
  have ld:∀k,k<(cb ((f::l).map (·.a))).length ->∃x y,(cb ((f::l).map (·.a)))[k]?=ih x/\(cb ((f::l).map (·.a)))[(k+1) % (cb ((f::l).map (·.a))).length]?=ih y/\y∈i5 W x:=by
   have m:=λ{k x y}=>sk q ne (l:=(f::l)++(f::l)) (k:=k) (x:=x) (y:=y) (λg D=>(bK.mp D).elim (ok g) (ok g)) C;rw[a',tu]at m;generalize cb ((f::l).map (·.a))=ns at m h1;intro k o;have E:(k+1) % ns.length<ns.length:=wJ _ (by omega)
   refine⟨ns[k],ns[(k+1) % ns.length],bz o,bz E,m (k:=k) ?_ ?_⟩
   ·rw[E6 o,bz o]
   ·rcases Nat.lt_or_ge (k+1) ns.length with z|z
    ·rw[E6 z,bz z];congr 1;simp only[aaJ z]
    ·have e:k+1=ns.length:=by omega
     have e2:(k+1) % ns.length=0:=by rw[e,Nat.mod_self]
     rw[U2 z,show k+1 - ns.length=0 by omega,bz (by omega)]
     congr 1;simp only[e2]
  refine⟨h1,h2,ld,λn r=>?_⟩;generalize cb ((f::l).map (·.a))=ns at h1 h2 ld r;obtain⟨i,hi,rfl⟩:=wN.mp r;have F:(i+(ns.length - 1)) % ns.length<ns.length:=wJ _ (by omega)
  obtain⟨x,y,_,t,j⟩:=ld ((i+(ns.length - 1)) % ns.length) F;have:((i+(ns.length - 1)) % ns.length+1) % ns.length=i:=by
   rw[Nat.mod_add_mod,show i+(ns.length - 1)+1=i+ns.length by omega,Nat.add_mod_right,aaJ hi]
  rw[this,bz hi]at t;cases t
  unfold i5 at j;split at j
  ·cases j
  ·exact Bz u j
end
inductive rx(vs:List V)(H:Hp)(Q:VK)(E:XK):Prop
 |mk{la db ow t:E8}{line NS ns:List FF}{kvs:List (List Key×V)}{bk:Bk}{own:Own}(_:vs=[.ref la,.ref db,.ref ow,.ref t])(_:LB H la db ow line kvs bk own)(_:H t=ih (.tup (ns.map V.str)))(_:DE ⟨line,bk,own⟩ NS ns)(_:ns.length<=100)(_:∀n∈ns,Nm n)
  (_:∀H',ax H H'->Q (.bl true) H'):rx vs H Q E
abbrev mT:List FF:=["_law_line_here","_law_book_here","_law_own","_law_names_here"]
theorem Pk:bj mT mT (aJ kC):=bB
abbrev Pl:VD:=gp (D4 (ur (DD (bT (bE kC) 0)) 2))
abbrev Pn:VD:=gp (my (bT (bE kC) 2))
theorem DF:b5 mT (aJ kC) ["_law_name"] [none] (cG Pl):=dc
theorem DH:b5 mT (aJ kC) ["_law_k","_law_names_here","_law_line_here","_law_book_here","_law_own"] [none,ih 3,ih 0,ih 1,ih 2] (cG Pn):=dc
theorem N6(F:aS K "_law_is_round" "_law_is_round" kC f fd)(B:dq mg)(L:hU mg)(bs:mg "set" = none)(D:bH P w K mg base aH 2 fL dL vS ru "_law_leads"):aU P w K mg base aH 3 f fd mT rx:=by
 refine F.bI Pk λQa A outer s H vs Q E za h=>?_
 ·obtain @⟨xf,db,ow,t,line,NS,ns,kvs,bk,own,rfl,yf,j,M,xj,zf,q⟩:=h
  have xg:=za.units;have xd:a4 2 _:=za;intro X;refine⟨_,aw (bo (PW.pt (pw_or (hJ (hI (bV lU rfl L.mO l0 (aa (pv 3) (aa (l3 (v:=.ty "tuple") rfl B.tuple boot_tuple rfl) ai)))))
    (pw_or (br (uf xg) (pv 3) (fy ai) (bC _))
    (pw_or1 (hJ (hI (bV (ph rfl) rfl B.all boot_all (aa (d3 rfl DF (kH (pv 3)) (λs H fp=>⟨bf 0 DF.nd,et,bV (Hy K rfl) rfl L.mO l0 (aa (pv 0) (aa (l3 (v:=.ty "str") rfl L.str boot_str rfl) ai))⟩)) ai)))))))) (aB (aZ jJ)) bG)
   (aw (bo (br jK (bV G3 rfl B.len eI (aa (dy (BX rfl) rfl bs Bu (aa (pv 3) ai)) ai)) (bV eQ rfl B.len eI (aa (pv 3) ai)) (bC _)) (aB (aZ jJ)) bG)
   (aB (aZ (bV (ph rfl) rfl B.all boot_all (aa (d3 rfl DH (ib rfl B.range (aa (bV eQ rfl B.len eI (aa (pv 3) ai)) ai)) (λs H fp=>⟨bf 0 DH.nd,et,
    jD (Cy K rfl) (aV (jA K rfl) (pv 1) (bA kJ (bA e4 (pv 0) au) (bV (Hx K rfl) rfl B.len eI (aa (pv 1) ai)))) (fV D.G xd rfl D.m D.k D.b .nil cY (aa (pv 2) (aa (pv 3) (aa (pv 4) (aa (aV (jA K rfl) (pv 1) (pv 0)) ai))))) rfl⟩)) ai))))),?_⟩
  have zc : ¬ ns=[]:=M.ne;have yd:(PyData.tuple (ns.map Vz)).canLay0=true:=nF zf;refine gf λU N=>?_;intro d yg;refine ah rfl ⟨⟨_,.inr ⟨"tuple",rfl⟩⟩,.ref t,.ty "tuple",.type "tuple",.type "tuple",true,rfl,rfl,.inl (.tup j),rfl,true,rfl,?_⟩;refine ah rfl ⟨bD _,λe Y O _ zg=>⟨.tuple (ns.map Vz),.tuple [],.tup (O _ _ j) (lZ _ _),.tup zg .nil,yd,rfl,by show Vs _+1<=60;rw[m8];decide,_,rfl,?_⟩⟩
  have e0:Yh (.tuple (ns.map Vz)) (.tuple [])=false:=by
   show YN _ (List.map Vz [])=false;rw[tf];exact ej zc
  rw[e0];have T:=O _ _ j;refine ah rfl ⟨t,rfl,⟨_,aA.of T⟩,λp xb=>?_⟩;refine lV (xs:=ns.map V.str) (λi ys d H2=>∃g:ad V,d=[g]/\ys=(YL i true).map V.bl/\ax Y H2/\H2 p=bd ys) ⟨none,rfl,rfl,dz xb,af⟩ (λi ys d H2 ab=>by obtain⟨_,_,_,z,z2⟩:=ab;exact ⟨z2,aA.of (z _ _ T)⟩) ?_ ?_
  ·rintro i x ys d H2 yb ⟨g,rfl,rfl,R,h2⟩
   have W:i<(ns.map V.str).length:=(b3.mp yb).1;have I:i<ns.length:=by simpa using W
   obtain rfl:V.str ns[i]=x:=by simpa [I] using yb
   refine ah rfl ⟨⟨_,.inr ⟨"str",rfl⟩⟩,.str ns[i],.ty "str",.type "str",.type "str",true,rfl,rfl,.inl (.str _),rfl,h2,by rw[aE,vY,aW];omega,cw_next W ⟨_,rfl,?_,λb u e=>?_,af⟩⟩
   ·rw[F2,a'];rfl
   ·rw[ag (ay e xb)];exact R _ _ e
  ·rintro ys d H2 ⟨g,rfl,rfl,R,h2⟩
   refine⟨p,_,rfl,ak.of h2,_,rfl,?_⟩;have:(YL (ns.map V.str).length true).all id=true:=by simp
   rw[this];have Z:=O.trans R;have xa:=Z _ _ j;refine b8 N λU N=>?_;intro d yg;refine ah rfl ⟨t,ns,rfl,.inr (aA.of xa),by omega,λa ds xh zd xe=>?_⟩
   have zb:=dz (o:=jc X.prog X.w a ds) xh;refine⟨a,ds,rfl,af,_,rfl,t,_,rfl,.inr (aA.of (zb _ _ xa)),rfl,?_⟩;rw[aE,((VM zd M.nd).mpr xe).length_eq];refine ah rfl (ite_ff (by rw[cf rfl];rfl) ?_)
   have C:=Z.trans zb;generalize upd H2 a (jc X.prog X.w a ds)=yh at C⊢;have ya:=C _ _ j;have ye:=yf.same C;refine gn N ?_;intro d;refine ah rfl ⟨t,_,rfl,.inr (aA.of ya),_,rfl,by omega,by rw[aE];omega,λc xc=>?_⟩
   refine o9 (λi ys d l=>∃g:ad V,d=[g,am t,am xf,am db,am ow]/\ys=(YL i true).map V.bl/\ax yh l/\l c=bd ys) ⟨none,rfl,rfl,dz xc,af⟩ (λi ys d l ab=>by obtain⟨_,_,_,_,z⟩:=ab;exact z) ?_ ?_
   ·rintro i ys d l hi ⟨g,rfl,rfl,n,S⟩
    have I:i<ns.length:=by rw[aE]at hi;have:Y0 ((ns.length:Nat):Int)=ns.length:=gy _;rw[this]at hi;exact hi
    rw[show(0:Int)+(i:Int)=i by omega]
    obtain⟨x,y,ex,zh,xi⟩:=M.ld i I;have J:=n _ _ ya;have yi:(ns.map V.str).length=ns.length:=aE _;have zi:((i:Int)+1) % ((ns.map V.str).length:Nat)=(((i+1) % ns.length:Nat):Int):=by rw[yi];exact(Int.natCast_emod (i+1) ns.length).symm
    refine aX rfl rfl ⟨_,_,rfl,rfl,_,rfl,t,_,rfl,.inr (aA.of J),_,_,rfl,rfl,by omega,?_⟩
    refine⟨t,_,_,_,rfl,c6 V.int zi,aA.of J,cw (by rw[cL,zh];rfl),_,rfl,_,rfl,_,rfl,_,rfl,_,rfl,t,_,_,_,rfl,rfl,aA.of J,cw (by rw[cL,ex];rfl),ru.mk rfl (ye.same n) λr yj yc ze=>?_⟩
    refine⟨r,_,rfl,.inl (ak.of ze),rfl,jy _,?_⟩;rw[aq cc,iT,cf xi];refine⟨yc _ _ S,by rw[aE,vY,aW];omega,cw_next hi ⟨_,rfl,?_,λb u e=>?_,af⟩⟩
    ·rw[F2,a'];rfl
    ·rw[ag (ay e xc)];exact yc _ _ (n _ _ e)
   ·rintro ys d l ⟨g,rfl,rfl,n,S⟩
    refine⟨c,_,rfl,ak.of S,?_⟩;rw[show(YL (Y0 (((ns.map V.str).length:Nat):Int)) true).all id=true by simp]
    exact q _ (C.trans n)
section
variable{W:aP}
theorem tw{f:Ask->Option Rs}{n w m:FF}:∀{ds:ac UR}{t:Int},W.dH f n w ds t=ih (.miss m) ->∃s∈ds,∃b,W.need n w s=ih b/\f b=ih (.miss m)
 |[],t,h=>by cases h
 |d::ds,t,h=>by
  cases a:W.need n w d with
  |none =>
   rw[i4 a]at h;obtain⟨s,c,r⟩:=tw h;exact⟨s,bc _ c,r⟩
  |some b =>
   rw[gU a]at h;cases e:f b with
   |none=>rw[e]at h;cases h
   |some x =>
    rw[e]at h;cases x with
    |miss g=>cases h;exact⟨d,aY,b,a,e⟩
    |told z =>
     obtain⟨s,c,r⟩:=tw h;exact⟨s,bc _ c,r⟩
theorem pO{NS:ac FF}(c:∀p∈W.bk,∀s∈cg p.2.2,a9 s = "ask" -> d0 s∈NS){m:FF}:∀{k:Nat}{a:Ask},W.out k a=ih (.miss m)->m=a.1\/m∈NS
 |0,_,h=>by cases h
 |k+1,a,h=>by
  have h:W.ck (W.out k) a=ih (.miss m):=h;unfold aP.ck at h;cases f:W.cU a with
  |some z=>rw[f]at h;cases h
  |none =>
   rw[f]at h;cases d:W.look a with
   |none=>rw[d]at h;cases h;exact .inl rfl
   |some p =>
    rw[d]at h;obtain⟨s,i,b,j,g⟩:=tw h;rcases sG j with⟨t,rfl⟩|⟨t,rfl⟩
    ·rcases pO c g with e|e
     ·exact .inr (by rw[e];exact c _ (km (jG d).2) s i t)
     ·exact .inr e
    ·exact pO (a:=(a.1,p.1)) c g
end
def oK:Rs->UR
 |.told z=>.tuple [.str "told",.int z]
 |.miss n=>.tuple [.str "missing",.str n]
theorem Dh{t:E8}{r:Rs}(h:H t=a2 (mS r)):Rep H (.ref t) (oK r):=by
 cases r with
 |told z=>exact .tup h (.cons (.str _) (.cons (.int _) .nil))
 |miss n=>exact .tup h (.cons (.str _) (.cons (.str _) .nil))
theorem MB{r:Rs}(h:∀n,r=.miss n->Nm n):(oK r).canLay0=true/\(oK r).depth<=60:=by
 cases r with
 |told z=>exact⟨by show(VH "told" && (true&&true))=true;decide +kernel,by simp[oK,Yr,Vs]⟩
 |miss n=>exact⟨by show(VH "missing" && (VH n&&true))=true;rw[mu (h n rfl)];decide +kernel,by simp[oK,Yr,Vs]⟩
inductive ry(vs:List V)(H:Hp)(Q:VK)(E:XK):Prop
 |mk{la db ow dk ky p:E8}{line NS:List FF}{kvs kk:List (List Key×V)}{bk:Bk}{own:Own}{ka:List (Ask×Rs)}{a:Ask}{r:gO}(_:vs=[.ref la,.ref db,.ref ow,.ref dk,.ref ky,.ref p])(_:LB H la db ow line kvs bk own)(_:H dk=ih (.dT kk))(_:f9 H kk ka)(_:Table ⟨line,bk,own⟩ (lu ⟨line,bk,own⟩ NS) ka)(_:H ky=ih (.tup [.str a.1,.str a.2]))(_:a.2 = "" \/ a.2∈line)(_:Nm a.1)
  (_:mD H p r) (_:aP.Comes ⟨line,bk,own⟩ a r) (_:line.Nodup) (_:∀k∈line,k ≠ "") (_:NS.length<=8) (_:∀n∈NS,Nm n)
  (_:∀q∈bk,∀s∈cg q.2.2,a9 s = "ask" -> d0 s∈NS) (_:∀q∈bk,q.2.1∈NS) (_:∀H',ax H H'->Q (.bl true) H'):ry vs H Q E
noncomputable abbrev vU:List FF:=["_law_line_here","_law_book_here","_law_own","_law_known_here","_law_key","_law_told_here"]
noncomputable abbrev QY:List FF:=["_law_line_here","_law_book_here","_law_own","_law_known_here","_law_key","_law_told_here","_law_due"]
theorem Es:bj QY vU (aJ vE):=bB
theorem N7{fR:E8}(F:aS K "_law_is" "_law_is" vE f fd)(I:hU mg)(J:vf mg)(xa:bH P w K mg base aH 2 fG dG rK mF "_law_go")(ya:bH P w K mg base aH 3 fR dR mT rx "_law_is_round"):aU P w K mg base aH 4 f fd vU ry:=by
 refine F.bI Es λQa A outer s H vs Q E L h=>?_
 ·obtain @⟨ye,db,ow,dk,ze,p,line,NS,kvs,kk,bk,own,ka,a,r,rfl,g,O,za,T,R,xb,yb,av,y,zb,ne,xf,M,B,S,q⟩:=h
  have xc:=L.units;have D:a4 3 _:=L;have W:a4 2 _:=D.mono (by decide)
  intro X;refine⟨_,aw (a3 6 Es.nd (ba xa W (aa (pv 0) (aa (pv 1) (aa (pv 2) (aa (pv 3) (aa (pv 4) ai)))))))
   (aw (bo (br gD (pv 6) dV (bC _))
    (aw (bo (br jK (aV bp (pv 5) au) bt (bC _)) (aB (aZ jJ)) bG)
    (aB (aZ (ba ya D (aa (pv 0) (aa (pv 1) (aa (pv 2) (aa (aV bp (pv 5) au) ai)))))))) bG)
   (aw (bo (br (qc xc) (pv 5) (pv 6) (bC _)) (aB (aZ jJ)) bG)
   (aB (aZ (MK (jD jK (aV bp (pv 6) au) bt (bC _)) (p9 (t8 (bV lU rfl I.mO l0 (aa (aV bp (pv 5) au) (aa (l3 (v:=.ty "int") rfl J.int boot_int rfl) ai))) (p9 (LM (bV lU rfl I.mO l0 (aa (aV bp (pv 5) au) (aa (l3 (v:=.ty "bool") rfl J.bool boot_bool rfl) ai)))))))))))),?_⟩
  have wi:Within ⟨line,bk,own⟩ (lu ⟨line,bk,own⟩ NS) a:=within B S a;refine gf λU c=>?_;intro j N;refine DW rfl rfl rfl rfl rfl (mF.mk rfl g.hl g.hd g.dv g.ok g.ho O za R xb λv Y d i=>?_);refine b8 c λU c=>?_;intro j N;have Z:=g.same d;obtain⟨x,ox,yc⟩|⟨ns,t,rn,zc,l⟩:(∃x,aP.Out ⟨line,bk,own⟩ a x/\H p=a2 (mS x)) \/∃ns t,eS ⟨line,bk,own⟩ a ns/\H p=a2 [V.str "endless",.ref t]/\H t=a2 (ns.map V.str):=by
   cases r with
   |told z=>exact .inl ⟨_,y,av⟩
   |miss n=>exact .inl ⟨_,y,av⟩
   |gr ns=>obtain⟨t,h1,h2⟩:=av;exact .inr ⟨ns,t,y,h1,h2⟩
  ·rw[(T.bO wi x).mpr ox]at i
   obtain⟨t,rfl,l⟩:=i;have u:=d _ _ yc;obtain⟨C,xd⟩:=MB (r:=x) λn e=>by
    subst e;obtain⟨k,m⟩:=ox;rcases pO B m with e|e
    ·rw[e];exact yb
    ·exact M n e
   refine ah rfl ⟨rfl,_,rfl,ite_ff (ej λz=>by cases z) ?_⟩
   refine b8 c λU c=>?_;intro j N;refine aX rfl rfl ⟨_,_,Dh u,Dh l,C,C,xd,_,rfl,ite_ff (by rw[VY _ C];rfl) ?_⟩
   refine gn c ?_;intro j;cases x with
   |told z=>exact ah rfl ⟨t,_,0,_,rfl,rfl,aA.of l,b',rfl,false,rfl,_,rfl,p,_,1,_,rfl,rfl,aA.of u,cT,⟨_,.inr ⟨"int",rfl⟩⟩,.int z,.ty "int",.type "int",.type "int",true,rfl,rfl,.inl (.int z),rfl,true,rfl,_,rfl,p,_,1,_,rfl,rfl,aA.of u,cT,⟨_,.inr ⟨"bool",rfl⟩⟩,.int z,.ty "bool",.type "int",.type "bool",false,rfl,rfl,.inl (.int z),rfl,false,rfl,q _ d⟩
   |miss n=>exact ah rfl ⟨t,_,0,_,rfl,rfl,aA.of l,b',rfl,true,rfl,q _ d⟩
  ·have yd:aP.ck ⟨line,bk,own⟩ (λb=>ka.lookup b) a=none:=by
    cases e:aP.ck ⟨line,bk,own⟩ (λb=>ka.lookup b) a with
    |none=>rfl
    |some x =>
     obtain⟨k,m⟩:=(T.bO wi x).mp e;rw[rn.core.1 k]at m;cases m
   rw[yd]at i;have i:v=V.aO:=i;subst i;have o:=rn.is zb ne B;have G:=d _ _ zc;refine ah rfl ⟨rfl,_,rfl,ite_tt (cf rfl) ?_⟩;refine gf λU c=>?_;intro j yf;refine ah rfl ⟨p,_,0,_,rfl,rfl,aA.of G,b',rfl,_,rfl,ite_ff (by rw[cf rfl];rfl) ?_⟩
   refine gn c ?_;intro j;exact iz rfl rfl rfl rfl ⟨p,_,1,_,rfl,rfl,aA.of G,cT,rx.mk rfl Z (d _ _ l) o (en (mv o.nd o.ei) (by omega)) (λn zd=>M n (o.ei n zd)) λH2 xe=>q _ (d.trans xe)⟩
section
variable{W W':aP}
theorem pB{f g:bh}{x y:Ask}(o:bR W f)(p:bR W g)(e:f.a=g.a)(h1:gG W f=ih x)(h2:gG W g=ih y)(q:∀k,W.out k x=none)(u:∀k,W.out k y=none):x=y:=by
 obtain⟨s,ds,v,n1⟩:=ku h1;obtain⟨s',E,w,b⟩:=ku h2;obtain⟨_,d,pre,i,j,c⟩:=o.lk;obtain⟨_,F,D,l,m,A⟩:=p.lk;rw[e]at i c n1;rw[i]at l;obtain⟨B,C⟩:=aaX (cJ l);subst C;rw[B]at n1 c;rw[v]at j;rw[w]at m;have no:∀{z:Ask},(∀k,W.out k z=none) ->¬ ∃r,W.Out z r:=λh ⟨r,k,n⟩=>by rw[h k]at n;cases n
 rcases List.append_eq_append_iff.mp (j.symm.trans m) with⟨t,e1,e2⟩|⟨t,e1,e2⟩
 ·cases t with
  |nil=>cases e2;rw[n1]at b;exact cJ b
  |cons z t=>cases e2;exact absurd (A s (by rw[e1];simp) x n1) (no q)
 ·cases t with
  |nil=>cases e2;rw[n1]at b;exact cJ b
  |cons z t=>cases e2;exact absurd (c s' (by rw[e1];simp) y b) (no u)
theorem BA{b c:Ask}(q:∀k,W.out k b=none)(r:∀k,W.out k c=none):∀{l m:ac bh}{f g:bh},(∀x∈f::l,bR W x)->(∀x∈g::m,bR W x)->Chain W (f::l) b->Chain W (g::m) c->f.a=g.a->((f::l).map (·.a)++[b]) <+: ((g::m).map (·.a)++[c])\/((g::m).map (·.a)++[c]) <+: ((f::l).map (·.a)++[b])
 |[],[],f,g,j,n,d,i,e=>by
  have:=pB (j f aY) (n g aY) e d i q r;subst this
  left
  show [f.a,b] <+: [g.a,b];rw[e];exact List.prefix_refl _
 |[],o::m,f,g,j,n,d,i,e=>by
  have:=pB (j f aY) (n g aY) e d i.1 q (ng (fs:=o::m) (λx p=>n x (bc _ p)) i.2 rfl r);subst this
  left
  exact⟨m.map (·.a)++[c],by show f.a::o.a::_=g.a::o.a::_;rw[e];rfl⟩
 |f'::l,[],f,g,j,n,d,i,e=>by
  have:=pB (j f aY) (n g aY) e d.1 i (ng (fs:=f'::l) (λx p=>j x (bc _ p)) d.2 rfl q) r;subst this
  right
  exact⟨l.map (·.a)++[b],by show g.a::f'.a::_=f.a::f'.a::_;rw[e];rfl⟩
 |f'::l,o::m,f,g,j,n,d,i,e=>by
  have s:∀x∈f'::l,bR W x:=λx p=>j x (bc _ p);have t:∀x∈o::m,bR W x:=λx p=>n x (bc _ p);have:=pB (j f aY) (n g aY) e d.1 i.1 (ng (fs:=f'::l) s d.2 rfl q) (ng (fs:=o::m) t i.2 rfl r);rcases BA q r s t d.2 i.2 this with h|h
  ·left
   show f.a::((f'::l).map (·.a)++[b]) <+: g.a::((o::m).map (·.a)++[c]);rw[e];exact(VZ _).mpr h
  ·right
   show g.a::((o::m).map (·.a)++[c]) <+: f.a::((f'::l).map (·.a)++[b]);rw[e];exact(VZ _).mpr h
theorem Cm{α:Type}{xs ys:ac α}{b c:α}(h:xs++[b] <+: ys++[c])(e:b∈xs)(d:ys.Nodup):xs=ys/\b=c:=by
 obtain⟨t,a⟩:=h;rcases List.eq_nil_or_concat t with rfl|⟨t',y,rfl⟩
 ·rw[eZ]at a
  obtain⟨e1,e2⟩:=aaD a rfl;cases e2;exact⟨e1,rfl⟩
 ·rw[List.concat_eq_append,<-mX]at a
  obtain⟨e1,e2⟩:=aaD a rfl;rw[<-e1,mX]at d;exact absurd rfl ((dw.mp d).2.2 b e b (by simp))
theorem eS.uniq{a:Ask}{j:ac FF}(h:eS W a ns)(h':eS W a j):ns=j:=by
 obtain⟨fs,b,i,ok,c,e,n,hi,rfl⟩:=h;obtain⟨gs,t,u,k,o,v,r,d,rfl⟩:=h';have w:=(t2 ok c hi).2.2.2;have s:=(t2 k o d).2.2.2;have p:=eO hi;have q:=eO d;cases fs with
 |nil=>cases p
 |cons f l =>
  cases gs with
  |nil=>cases q
  |cons g m =>
   have x:f.a=g.a:=by
    have e1:f.a=a:=e;have e2:g.a=a:=v;rw[e1,e2]
   obtain⟨e1,e2⟩:(f::l).map (·.a)=(g::m).map (·.a)/\b=t:=by
    rcases BA w s ok k c o x with h|h
    ·exact Cm h p r
    ·obtain⟨y,z⟩:=Cm h q n;exact⟨y.symm,z.symm⟩
   rw[<-e1]at d⊢;subst e2;have:i=u:=(FT (b3.mp hi).1 n).mp (hi.trans d.symm);rw[this]
theorem Comes.uniq{a:Ask}{r c:gO}(h:W.Comes a r)(h':W.Comes a c):r=c:=by
 cases r with
 |told z =>
  cases c with
  |told y=>cases Out.uniq h h';rfl
  |miss n=>cases Out.uniq h h'
  |gr ns=>obtain⟨k,b⟩:=h;rw[(eS.core h').1 k]at b;cases b
 |miss n =>
  cases c with
  |told y=>cases Out.uniq h h'
  |miss m=>cases Out.uniq h h';rfl
  |gr ns=>obtain⟨k,b⟩:=h;rw[(eS.core h').1 k]at b;cases b
 |gr ns =>
  cases c with
  |told y=>obtain⟨k,b⟩:=h';rw[(eS.core h).1 k]at b;cases b
  |miss m=>obtain⟨k,b⟩:=h';rw[(eS.core h).1 k]at b;cases b
  |gr d=>rw[eS.uniq h h']
structure Alike(W' W:aP):Prop where
 lk:∀a,W'.look a=W.look a
 ow:∀a,W'.cU a=W.cU a
theorem Alike.need(h:Alike W' W)(n w:FF)(d:UR):W'.need n w d=W.need n w d:=by simp only[aP.need,h.lk]
theorem Alike.go(h:Alike W' W)(f:Ask->Option Rs)(n w:FF):∀(ds:ac UR) (t:Int),W'.dH f n w ds t=W.dH f n w ds t
 |[],t=>rfl
 |d::ds,t=>by
  cases e:W.need n w d with
  |none=>rw[i4 e,i4 ((h.need n w d).trans e)];exact h.go f n w ds _
  |some b =>
   rw[gU e,gU ((h.need n w d).trans e)];cases f b with
   |none=>rfl
   |some x=>cases x with
    |miss m=>rfl
    |told z=>exact h.go f n w ds _
theorem Alike.step(h:Alike W' W)(f:Ask->Option Rs)(a:Ask):W'.ck f a=W.ck f a:=by
 unfold aP.ck;rw[h.ow,h.lk];cases W.cU a with
 |some z=>rfl
 |none=>cases W.look a with
  |none=>rfl
  |some p=>exact h.go f _ _ _ _
theorem Alike.out(h:Alike W' W):∀k,W'.out k=W.out k
 |0=>rfl
 |k+1=>by funext a;show W'.ck (W'.out k) a=W.ck (W.out k) a;rw[h.out k,h.step]
theorem Alike.Out(h:Alike W' W){a:Ask}{r:Rs}:W'.Out a r ↔ W.Out a r:=by unfold aP.Out;simp only[h.out]
theorem Alike.fr(h:Alike W' W){f:bh}(o:bR W' f):bR W f:=by
 obtain⟨h1,d,pre,h2,a,c⟩:=o.lk;exact⟨λk r e=>h.Out.mp (o.up k r (by rw[h.out,h.go];exact e)),λk r e=>by have:=o.dn k r (by rw[h.out];exact e);rw[h.out,h.go]at this;exact this,
  (h.ow _).symm.trans h1,d,pre,(h.lk _).symm.trans h2,a,λs g b i=>by obtain⟨r,j⟩:=c s g b ((h.need _ _ _).trans i);exact⟨r,h.Out.mp j⟩⟩
theorem Alike.head(h:Alike W' W)(f:bh):gG W' f=gG W f:=by
 unfold gG;cases f.left with
 |nil=>rfl
 |cons d ds=>exact h.need _ _ _
theorem Alike.chain(h:Alike W' W){b:Ask}:∀{fs:ac bh},Chain W' fs b->Chain W fs b
 |[],c=>trivial
 |[f],c=>(h.head f).symm.trans c
 |f::g::r,c=>⟨(h.head f).symm.trans c.1,h.chain c.2⟩
theorem Alike.comes(h:Alike W' W){a:Ask}{r:gO}(c:W'.Comes a r):W.Comes a r:=by
 cases r with
 |told z=>exact h.Out.mp c
 |miss n=>exact h.Out.mp c
 |gr ns =>
  obtain⟨fs,b,i,ok,c,e,d,hi,q⟩:=c;exact⟨fs,b,i,λf g=>h.fr (ok f g),h.chain c,e,d,hi,q⟩
end
theorem Kd{own b:Own}(a:(own.map (·.1)).Nodup)(p:b.Perm own):b.lookup n=own.lookup n:=by
 have c:∀{l:Own} (_:(l.map (·.1)).Nodup) {m:FF}{z:Int},l.lookup m=ih z ↔ (m,z)∈l:=λ{l} a {m z}=>by
  induction l with
  |nil=>simp
  |cons q l f =>
   obtain⟨x,y⟩:=q;rw[b4,d8]at a;rw[dt]
   by_cases e:m=x
   ·subst e
    simp only[oS,bJ,aaz,true_and]
    constructor
    ·intro h;cases h;exact .inl rfl
    ·rintro(h|h)
     ·rw[h]
     ·exact absurd (a6.mpr ⟨(m,z),h,rfl⟩) a.1
   ·rw[show(m==x)=false by simp[e]]
    simp only[bJ,aaz,e,false_and,false_or];exact f a.2
 have d:(b.map (·.1)).Nodup:=(p.map (·.1)).nodup_iff.mpr a;cases e:own.lookup n with
 |some z=>exact(c d).mpr (p.mem_iff.mpr ((c a).mp e))
 |none =>
  cases g:b.lookup n with
  |none=>rfl
  |some z=>rw[(c a).mpr (p.mem_iff.mp ((c d).mp g))]at e;cases e
theorem alike{bk c:Bk}{own b:Own}(p:c.Perm bk)(d:(bk.map c3).Nodup)(q:b.Perm own)(no:(own.map (·.1)).Nodup):Alike ⟨line,c,b⟩ ⟨line,bk,own⟩:=by
 have lk:∀a,aP.look ⟨line,c,b⟩ a=aP.look ⟨line,bk,own⟩ a:=λa=>Cb p d _;refine⟨lk,λa=>?_⟩;unfold aP.cU aP.eX;rw[lk];show(if _ then b.lookup a.1 else none)=if _ then own.lookup a.1 else none;rw[Kd no q]
def k':gO->UR
 |.told z=>.tuple [.str "told",.int z]
 |.miss n=>.tuple [.str "missing",.str n]
 |.gr ns=>.tuple [.str "endless",.tuple (ns.map Vz)]
theorem CV{r:gO}(h:mD H p r):Rep H (.ref p) (k' r):=by
 cases r with
 |told z=>exact .tup h (.cons (.str _) (.cons (.int _) .nil))
 |miss n=>exact .tup h (.cons (.str _) (.cons (.str _) .nil))
 |gr ns=>obtain⟨t,h1,h2⟩:=h;exact .tup h1 (.cons (.str _) (.cons (.tup h2 (lZ _ _)) .nil))
theorem mD.same{r:gO}(h:mD H p r)(S:ax H H'):mD H' p r:=by
 cases r with
 |told z=>exact S _ _ h
 |miss n=>exact S _ _ h
 |gr ns=>obtain⟨t,h1,h2⟩:=h;exact⟨t,S _ _ h1,S _ _ h2⟩
theorem LD{r:gO}(a:∀n,r=.miss n->Nm n)(b:∀ns,r=.gr ns ->∀n∈ns,Nm n):(k' r).canLay0=true/\(k' r).depth<=60:=by
 cases r with
 |told z=>exact⟨by show(VH "told" && (true&&true))=true;decide +kernel,by simp[k',Yr,Vs]⟩
 |miss n=>exact⟨by show(VH "missing" && (VH n&&true))=true;rw[mu (a n rfl)];decide +kernel,by simp[k',Yr,Vs]⟩
 |gr ns =>
  refine⟨?_,?_⟩
  ·show(VH "endless" && (Yj (ns.map Vz)&&true))=true
   rw[nF (b ns rfl)];decide +kernel
  ·show max 0 (max (Vs (ns.map Vz)+1) 0)+1<=60
   rw[m8];decide
theorem MC{W:aP}{a:Ask}{r:gO}(c:W.Comes a r)(f:Nm a.1)(b:∀n∈NS,Nm n)(g:W.line.Nodup)(ne:∀k∈W.line,k ≠ "")(d:∀p∈W.bk,∀s∈cg p.2.2,a9 s = "ask" -> d0 s∈NS):(k' r).canLay0=true/\(k' r).depth<=60:=by
 refine LD (λn e=>?_) (λns e=>?_)
 ·subst e
  obtain⟨k,i⟩:=c;rcases pO d i with e|e
  ·rw[e];exact f
  ·exact b n e
 ·subst e
  exact λn h=>b n ((eS.is c g ne d).ei n h)
def g8(Wf:Th->aP)(ns:List FF)(bQ:List Th)(H:Hp)(Ql:List (Key×V)):Prop:= ∀x v,bb Ql (n' x)=ih v ->∃th∈bQ,th.1=x /\∃dk kk ka,v=V.ref dk/\H dk=ih (.dT kk)/\f9 H kk ka/\Table (Wf th) (lu (Wf th) ns) ka
theorem g8.keep{c:Th->aP}{a:ac Th}(h:g8 c ns a H Ql)(d:∀b xs,H b=a2 xs->H' b=a2 xs)(f:∀b xs,H b=ce xs->H' b=ce xs):g8 c ns a H' Ql:=λx v e=>by
 obtain⟨th,g,i,dk,kk,ka,j,k,kn,T⟩:=h x v e;exact⟨th,g,i,dk,kk,ka,j,f _ _ k,kn.keep d,T⟩
theorem g8.same{c:Th->aP}{a:ac Th}(h:g8 c ns a H Ql)(S:ax H H'):g8 c ns a H' Ql:=h.keep (λb xs e=>S _ _ e) λb xs e=>S _ _ e
theorem qk{o:HO}(h:df p H)(e:H b=ih o)(a:∀xs,o ≠ .lst xs):b≠p:=by
 rintro rfl;obtain⟨x,y,e2,_⟩:=h;rw[e]at e2;exact a _ (cJ e2)
theorem g8.d2{c:Th->aP}{a:ac Th}(h:g8 c ns a H Ql)(d:df p H)(f:bu p H H'):g8 c ns a H' Ql:=h.keep (λb xs e=>f.kp _ _ e (qk d e λ_ z=>by cases z)) λb xs e=>f.kp _ _ e (qk d e λ_ z=>by cases z)
theorem N8(b:ks.length<=8)(c:line.Nodup)(a:∀k∈line,k∈ks):line.length<=8:=en (mv c a) b
theorem pP(h:ak K H a xs)(s:ax H H'):ak K H' a xs:=by
 rcases h with(h|⟨o,h⟩)|h
 ·exact .inl (.inl (s _ _ h))
 ·exact .inl (.inr ⟨o,s _ _ h⟩)
 ·exact .inr h
theorem oy{a:Hp}(S:ax Y H2)(c:Y p=none)(d:bu p H2 a):ax Y a:=λb u e=>d.kp _ _ (S _ _ e) (ay e c)
theorem qm{ns:ac Int}{k:Int}{Q:VK}{E:XK}(h:ak K H a (ns.map V.int))(c:0<=k)(d:k<=100)(e:ns.length<=63)(q:∀p H',H p=none->df p H'->ax H H'->Q (.ref p) H'):qq K [.ref a,.int k] H Q E:=⟨rfl,h,c,d,e,λp x y b f g i=>q p _ b ⟨x,y,af,f,g,i⟩ (aK b)⟩
structure LI(K:YA)(H:Hp)(a d1 ln db td wd t tb tt:E8)(sc:List Int)(ks ns:List FF)(jR:List (Key×V))(L:FF->List FF)(kvs:List (List Key×V))(bO:Bk)(kt:List (Key×V))(bQ:List Th)(wt:List V)(rk:List Th)(o:YO)(ws wb:List V)(Qb:List (FF×List FF))(bk:Bk):Prop where
 sc:ak K H a (sc.map V.int)
 nn:d6 H ln ns
 h1:H d1=ih (.dK jR)
 l1:∀x∈ks,eg H jR L x
 hb:H db=ih (.dT kvs)
 dv:cy H kvs bO
 ht:H td=ih (.dK kt)
 tv:e9 H td kt bQ
 wd:iI H wd t tb tt wt rk
 fb:FB H t tb o ws wb Qb L bk
theorem LI.same{e f g t tb:E8}{sc:ac Int}{b:ac (Key×V)}{kvs:ac (List Key×V)}{bO:Bk}{i:ac (Key×V)}{d:ac Th}{c:ac Th}{bk:Bk}(h:LI K H a e f db td g t tb tt sc ks ns b L kvs bO i d wt c o ws wb Qb bk)(S:ax H H'):LI K H' a e f db td g t tb tt sc ks ns b L kvs bO i d wt c o ws wb Qb bk:=
 ⟨pP h.sc S,h.nn.same S,S _ _ h.h1,λx j=>(h.l1 x j).same S,S _ _ h.hb,h.dv.same S,S _ _ h.ht,h.tv.same S,h.wd.same S,h.fb.same S⟩
noncomputable abbrev Po:List FF:=["_law_script","_law_pot_here","_law_alike","_law_kinds","_law_family_here","_law_lines","_law_names_here","_law_book_here","_law_things_here","_law_world_here","_law_tables","_law_k","_law_thing","_law_kind","_law_own","_law_some","_law_name","_law_behind","_law_told_here"]
theorem ew:bj Po ["_law_script"] (aJ qL):=bB
abbrev g9:List Vj:=l7 (bT (bE qL) 10)
@[irreducible] def cM(k:Nat):List Vj:=g9.drop k
theorem QZ:g9=cM 0:=by unfold cM;rfl
theorem Q0:cM 0=bT g9 0::cM 1:=by unfold cM;rfl
theorem Q1:cM 1=bT g9 1::cM 2:=by unfold cM;rfl
theorem Q2:cM 2=bT g9 2::cM 3:=by unfold cM;rfl
theorem Q5:cM 3=bT g9 3::cM 4:=by unfold cM;rfl
theorem Q6:cM 4=bT g9 4::cM 5:=by unfold cM;rfl
theorem Q7:cM 5=bT g9 5::cM 6:=by unfold cM;rfl
theorem vT:cM 6=bT g9 6::cM 7:=by unfold cM;rfl
theorem Q8:cM 7=bT g9 7::cM 8:=by unfold cM;rfl
theorem Q':cM 8=bT g9 8::cM 9:=by unfold cM;rfl
theorem Ra:cM 9=[bT g9 9]:=by unfold cM;rfl
theorem MD{l a:ac Vj}{t:TS}(h:l=a)(p:di X a t):di X l t:=h ▸ p
theorem i6{l c:ac Vj}{s:Vj}{t u:TS}(h:l=s::c)(a:PS X s t)(b:di X c u):di X l (qD t u):=by rw[h];exact aw a b
theorem ME{l:ac Vj}{s:Vj}{t:TS}(h:l=[s])(a:PS X s t):di X l t:=by rw[h];exact aB a
inductive mw(K:YA)(vs:List V)(H:Hp)(Q:VK)(E:XK):Prop
 |mk{a:E8}{ns:List Int}(_:vs=[.ref a])(_:ak K H a (ns.map V.int))(_:ns.length<=63)(_:∀H',Q (.bl true) H'):mw K vs H Q E
theorem MF{fP fF fB fW fO fK:E8}{dP dF dB dO dK:Ye}(F:aS K "law" "law" qL f fd)(B:dq mg)(B2:hU mg)(B3:vf mg)
  (xv:bH P w K mg base aH 1 fP dP ["_law_script","_law_k"] (qq K) "_law_pot")
  (yi:bH P w K mg base aH 1 fD dD ["_law_pot_here","_law_many"] hH "_law_digit")
  (z5:bH P w K mg base aH 3 fN dN ["_law_pot_here","_law_many"] iY "_law_names")
  (GF:bH P w K mg base aH 3 fF dF ["_law_pot_here","_law_kinds"] qO "_law_family")
  (GC:bH P w K mg base aH 4 fC dC rL mG "_law_called")
  (GB:bH P w K mg base aH 5 fB dB vR rp "_law_book")
  (GT:bH P w K mg base aH 5 fT dT vP ri "_law_things")
  (GW:bH P w K mg base aH 1 fW dW vQ rj "_law_world")
  (GK:bH P w K mg base aH 3 fK dK vO rh "_law_known")
  (x6:bH P w K mg base aH 10 fO dO vN ou "_law_told")
  (GI:bH P w K mg base aH 4 fI dI vU ry "_law_is") :
  aU P w K mg base aH 11 f fd ["_law_script"] (mw K):=by
 refine F.bI ew λQa A outer s H vs Q E y6 h=>?_
 ·obtain @⟨a,sc,rfl,xM,yp,q⟩:=h
  have z6:=y6.units;have xb:=eF z6;have zg:a4 10 _:=y6;have yU:a4 5 _:=zg.mono (by decide)
  have zU:a4 4 _:=zg.mono (by decide)
  have zp:a4 3 _:=zg.mono (by decide)
  have J:a4 1 _:=zg.mono (by decide)
  intro X;refine⟨_,aw (a3 1 ew.nd (ba xv J (aa (pv 0) (aa au ai))))
   (aw (a3 2 ew.nd (jD c' (ba yi J (aa (pv 1) (aa au ai))) au (bC _)))
   (aw (a3 3 ew.nd (ba z5 zp (aa (pv 1) (aa (bA e4 au (ba yi J (aa (pv 1) (aa au ai)))) ai))))
   (aw (i0 (ba GF zp (aa (pv 1) (aa (pv 3) ai))) (ik rfl (c2 (bf 4 ew.nd) (c2 (bf 5 ew.nd) gB))))
   (aw (a3 1 ew.nd (ba xv J (aa (pv 0) (aa au ai))))
   (aw (a3 6 ew.nd (ba GC zU (aa (pv 1) (aa (bA e4 au (ba yi J (aa (pv 1) (aa au ai)))) (aa (pv 2) (aa (pv 3) ai))))))
   (aw (a3 7 ew.nd (ba GB yU (aa (pv 1) (aa (pv 3) (aa (pv 6) ai)))))
   (aw (a3 8 ew.nd (ba GT yU (aa (ba xv J (aa (pv 0) (aa au ai))) (aa (pv 2) (aa (pv 3) (aa (pv 6) ai))))))
   (aw (a3 9 ew.nd (ba GW J (aa (pv 4) (aa (pv 7) (aa (pv 8) ai)))))
   (aw (a3 10 ew.nd lX)
   (aw (eK d9 rfl (HY rfl B.range (aa au (aa (bV (AQ rfl) rfl B.max boot_max (aa au (aa (bV (AR rfl) rfl B.min boot_min (aa au (aa (bV eQ rfl B.len eI (aa (pv 0) ai)) ai))) ai))) ai))) (bf 11 ew.nd) (MD QZ
    (i6 Q0 (a3 1 ew.nd (ba xv J (aa (pv 0) (aa (pv 11) ai))))
    (i6 Q1 (a3 12 ew.nd (aV dA (dy (sq rfl) rfl B.list boot_list (aa (pv 8) ai)) (ba yi J (aa (pv 1) (aa (bV IG rfl B.len eI (aa (pv 8) ai)) ai)))))
    (i6 Q2 (i0 (d4 xb (pv 8) (pv 12)) (ik rfl (c2 (bf 13 ew.nd) (c2 (bf 14 ew.nd) gB))))
    (i6 Q5 (bo (fX (pq xb (pv 12) (pv 10))) (aB (gC xb (pv 10) (pv 12) (ba GK zp (aa (d4 xb (pv 5) (pv 13)) (aa (pv 7) (aa (pv 14) (aa (pv 6) ai))))) rfl)) bG)
    (i6 Q6 (a3 15 ew.nd (bA hK (bA hK (bA hK (pv 6) (pv 6)) (dy (sq rfl) rfl B.list boot_list (aa (pv 14) ai))) (ba z5 zp (aa (pv 1) (aa au ai)))))
    (i6 Q7 (a3 16 ew.nd (aV dA (pv 15) (ba yi J (aa (pv 1) (aa (bV eQ rfl B.len eI (aa (pv 15) ai)) ai)))))
    (i6 vT (a3 17 ew.nd (aV dA (bA hK (bA JM (eu (aa bt ai)) au) (d4 xb (pv 5) (pv 13))) (ba yi J (aa (pv 1) (aa (bA e4 au (bV eQ rfl B.len eI (aa (d4 xb (pv 5) (pv 13)) ai))) ai)))))
    (i6 Q8 (a3 18 ew.nd (ba x6 zg (aa (pv 9) (aa (pv 12) (aa (pv 16) (aa (pv 17) ai))))))
    (i6 Q' (bo (hJ (hI (ba GI zU (aa (d4 xb (pv 5) (pv 13)) (aa (pv 7) (aa (pv 14) (aa (d4 xb (pv 10) (pv 12)) (aa (fy (aa (pv 16) (aa (pv 17) ai))) (aa (pv 18) ai)))))))))
     (aB (aZ jJ)) bG)
    (ME Ra (bo (br (qc z6) (ba x6 zg (aa (pv 9) (aa (pv 12) (aa (pv 16) (aa (pv 17) ai))))) (pv 18) (bC _))
     (aB (aZ jJ)) bG)))))))))))))
   (aB (aZ jJ)))))))))))),?_⟩
  refine gf λU d=>?_;intro g N;refine ah rfl (qm (k:=0) xM (by decide) (by decide) yp λp Y hp pk x7=>?_)
  refine b8 d λU d=>?_;intro g N;refine ah rfl (cW (p:=p) (m:=4) pk (by decide) (by decide) λal H2 a0 a1 p2=>⟨rfl,?_⟩)
  generalize decide (V.int al=V.int 0)=yM;refine b8 d λU d=>?_;intro g N;refine aX rfl rfl (cW (p:=p) (m:=8) p2.ok (by decide) (by decide) λdk H3 b0 b1 p3=>⟨1,dk,rfl,rfl,?_⟩)
  obtain⟨mk,rfl⟩:=gT b0;have zM:=p2.trans p3;refine iY.mk (m:=1+mk) (by rw[F6];rfl) zM.ok (by omega) λlk ks H4 V4 kl xq yD p4 xe=>?_
  have yv:ks.length<=8:=by omega
  have Rb:ks ≠ []:=λz=>by rw[z,jq]at kl;omega
  have zv:=zM.trans p4;refine b8 d λU d=>?_;intro g N;refine aX rfl rfl (qO.mk rfl zv.ok xe yD xq yv λr t xa o ws xC L Ps Qb xN D=>⟨r,_,rfl,aA.of D.hr,rfl,_,_,rfl,_,_,rfl,rfl,?_⟩);have y7:=zv.trans D.pa;have yN:ax H xN:=oy x7 hp y7;have xV:d6 xN lk ks:=⟨D.pa.kp _ _ xe (fU zv.ok xe),Rb,by omega,xq,yD⟩
  refine b8 d λU d=>?_;intro g N;refine ah rfl (qm (k:=1) (pP xM yN) (by decide) (by decide) yp λp' H6 rH zD O=>?_)
  have xE:=xV.same O;refine b8 d λU d=>?_;intro g N;refine aX rfl rfl (cW (p:=p') (m:=6) zD (by decide) (by decide) λdn H7 zi zl p7=>⟨1,dn,rfl,rfl,_,rfl,_,rfl,?_⟩)
  obtain⟨mn,rfl⟩:=gT zi;refine mG.mk (m:=1+mn) (al:=yM) (by rw[F6];rfl) p7.ok (by omega) (by omega) (xE.d2 zD p7) λxm ns H8 z7 yE nl=>?_
  have xj:=p7.trans z7;have n6:ns.length<=6:=by omega
  have zE:=xE.d2 zD xj;refine b8 d λU d=>?_;intro g N;refine dZ rfl rfl rfl (rp.mk rfl xj.ok zE yE yv n6 λdb kvs bO xw yw V5 xF dv xh xp Pp=>?_);have x8:=xj.trans yw;have yj:ax xN xw:=oy O rH x8;have yq:=zE.d2 xj.ok yw;have zk:=yE.d2 xj.ok yw;have xS:∀x∈ks,eg xw xC L x:=λx C=>(D.l1 x C).same yj;have yS:=yj _ _ D.h1;have zS:=yj _ _ D.ht;have xT:=D.fv.same yj;have Pq:=(D.fm.Np yD xq yv).perm D.pm;have Rc:=D.od;have fld:=D.fm.ld;have N9:∀x∈ks,x∈Qb.map (·.1):=λx C=>a6.mpr ⟨(x,Ps x),D.pm.mem_iff.mpr (a6.mpr ⟨x,C,rfl⟩),rfl⟩;have yF:=pP xM (yN.trans yj);clear D y7 zv zM xj x8 yw z7 p7 p4 p3 p2 zE xE xV yE xe O yj yN x7;refine b8 d λU d=>?_;intro g N;refine ah rfl (qm (k:=2) yF (by decide) (by decide) yp λV6 G1 rF Rf zq=>?_)
  refine dZ rfl rfl rfl (ri.mk rfl Rf (yq.same zq) (zk.same zq) λtd R j G2 y8 V7 zF tv to Rg t5=>?_);have zw:ax xw G2:=oy zq rF y8;refine b8 d λU d=>?_;intro g N;refine dZ rfl rfl rfl (rj.mk rfl (zw _ _ xF) (dv.same zw) xh zF tv to t5 λxx tb tt wb wt bk yT ya yx yV zV z8 pm ts=>?_);have Z:ax xw ya:=zw.trans yx;have I:LI K ya a xa xm db td xx t tb tt sc ks ns xC L kvs bO R j wt yT o ws wb Qb bk:=
   ⟨pP yF Z,zk.same Z,Z _ _ yS,λx C=>(xS x C).same Z,Z _ _ xF,dv.same Z,yx _ _ zF,tv.same yx,yV,⟨Z _ _ zS,Rc,xT.same Z,Pq,zV,z8,CS pm xh⟩⟩
  have xW:∀x∈ks,∀y∈L x,Nm y:=λx C y ye=>xq y ((fld x C).2 y ye);have xG:∀x∈ks,∀y∈L x,y ≠ "" :=λx C y ye z=>by have:=(xW x C y ye).lo;rw[z]at this;exact absurd this (by decide)
  have x9:∀x∈ks,(L x).length<=8:=λx C=>N8 yv (fld x C).1 (fld x C).2;have yW:∀q∈bO,q.2.1∈ns:=λq ym=>(Pp q ym).2;have xl:=zk.nm;have Rh:=zk.nd;have Ri:=CS pm xh;have Pr:∀q∈bk,∀s∈cg q.2.2,a9 s = "ask" -> d0 s∈ns:=λq ym=>xp q (pm.mem_iff.mp ym);clear yV zV z8 zF tv yx Z zw y8 zq dv xF yF xT zS yS xS zk yq;refine b8 d λU d=>?_;intro g N;intro l zW;have zN:=aK (o:=.dK []) zW;have xX:upd ya l (.dK []) l=bn []:=af;generalize upd ya l (.dK [])=xO at zN xX⊢;refine b8 d λU d=>?_;intro g N;refine⟨_,rfl,a,_,rfl,.inl (I.same zN).sc,_,_,rfl,_,_,rfl,_,_,rfl,?_,kx (λi σ G=>∃(yO yG zG xH yH xr yr zr xt:ad V) (Ql:ac (Key×V)),σ=[am a,yO,ih (.bl yM),am lk,am t,am xa,am xm,am db,am td,am xx,am l,yG,zG,xH,yH,xr,yr,zr,xt]/\ax ya G/\G l=bn Ql/\g8 (λth=>⟨L th.2.1,bO,th.2.2⟩) ns j G Ql/\Ql.length<=i)
   ⟨_,none,none,none,none,none,none,none,none,[],rfl,zN,xX,λx v e=>(by cases e),aQ _⟩ ?_ ?_⟩
  ·refine⟨by decide,by decide,?_,?_⟩ <;> (rw[aE];repeat' split <;> omega)
  ·rintro i σ G hi ⟨yO,yG,zG,xH,yH,xr,yr,zr,xt,Ql,rfl,zx,yt,zH,Rj⟩
   refine iV ?_;intro g E2;have V1:i<10:=by
    refine eY hi ?_;rw[aE];repeat' split <;> omega
   have xy:=I.same zx;refine gf λU d=>?_;intro g xc;refine aX rfl rfl (qm xy.sc (by omega) (by omega) yp λyc xO xI yX zO=>?_)
   have xP:=xy.same zO;refine b8 d λU d=>?_;intro g xc;have Rk:R.length=j.length:=cN I.tv;have Qx:0<j.length:=lI.mpr Rg;have ek:R.map (λzc=>kV zc.1)=(j.map (·.1)).map V.str:=by
    have:R.map (λzc=>kV zc.1)=(R.map (·.1)).map kV:=by rw[c7];rfl
    rw[this,I.tv.keys,c7];rfl
   refine ah rfl ⟨td,R,rfl,xP.ht,λlt zX=>?_⟩;rw[ek];have zm:=(bu.refl yX).new (o:=.lst ((j.map (·.1)).map V.str)) zX;have W:upd xO lt (.lst ((j.map (·.1)).map V.str)) lt=bd ((j.map (·.1)).map V.str):=af;have yP:=xP.same (aK (o:=.lst ((j.map (·.1)).map V.str)) zX);generalize upd xO lt (.lst ((j.map (·.1)).map V.str))=G5 at zm W yP⊢;refine aX rfl rfl ⟨td,R,rfl,yP.ht,?_⟩;rw[Rk];refine cW (p:=yc) (m:=(j.length:Int)) zm.ok (by omega) (by omega) λV8 G6 e0 e1 ze=>?_
   obtain⟨xf,rfl⟩:=gT e0;have Rl:xf<j.length:=by omega
   obtain⟨th,yh⟩:∃th,j[xf]?=ih th:=⟨j[xf],bz Rl⟩;have zt:=eO yh;have yf:=zm.trans ze;have xn:ax G G6:=oy zO xI yf;have zj:=xy.same xn;refine⟨lt,_,(xf:Int),V.str th.1,rfl,rfl,ak.of (ze.kp _ _ W (fU zm.ok W)),cw (by rw[cL,cL,yh];rfl),?_⟩
   refine b8 d λU d=>?_;intro g xc;obtain⟨zc,xY⟩:∃zc,R[xf]?=ih zc:=⟨R[xf],bz (by omega)⟩
   obtain⟨V9,zT,Rm,ta,y9,zf,V',Wa,eN,yI⟩:=L2.Paired.get I.tv xY;rw[yh]at zT;cases zT
   have z9:=t7 (I.tv.nodup to.nd) xY;rw[zf,Rm]at z9;have DG:∀{xd:Hp},xd td=bn R->b7 xd td (.str th.1) (ih (.ref ta)):=λe=>by rw[<-z9];exact b7.k (k:=n' th.1) e
   have M:=to.kd th zt;have zI:=to.ow th zt;obtain⟨xg,Rn,xu⟩:=I.l1 th.2.1 M;have yy:∀{xd:Hp},xd xa=bn xC->b7 xd xa (.str th.2.1) (ih (.ref xg)):=λe=>by rw[<-Rn];exact b7.k (k:=n' th.2.1) e
   have O:=zx.trans xn;refine aX rfl rfl ⟨td,.ref ta,rfl,DG zj.ht,ta,_,rfl,aA.of (O _ _ eN),rfl,_,_,rfl,_,_,rfl,rfl,?_⟩;refine b8 d λU d=>?_;intro g xc;have yu:=zH.same xn;have zu:=xn _ _ yt;have yY:l≠yc:=ay yt xI;refine aX rfl rfl ⟨l,_,rfl,b7.k (k:=n' th.1) zu,?_⟩;refine ah rfl (uU (λzY H'=>∃(za:ac (Key×V)) (dk:E8) (kk:ac (List Key×V)) (ka:ac (Ask×Rs)),zY=[am a,am yc,ih (.bl yM),am lk,am t,am xa,am xm,am db,am td,am xx,am l,ih (V.int (3+(i:Int))),ih (.str th.1),ih (.str th.2.1),am y9,xr,yr,zr,xt]/\ax ya H'/\df yc H'/\H' l=bn za/\g8 (λth=>⟨L th.2.1,bO,th.2.2⟩) ns j H' za/\za.length<=i+1/\bb za (n' th.1)=ih (.ref dk)/\H' dk=ce kk/\f9 H' kk ka/\Table ⟨L th.2.1,bO,th.2.2⟩ (lu ⟨L th.2.1,bO,th.2.2⟩ ns) ka) (λe k=>?_) (λe=>?_) ?_)
   ·have e0:bb Ql (n' th.1)=none:=by
     cases z:bb Ql (n' th.1) with
     |none=>rfl
     |some v=>rw[z]at e;cases e
    refine aX rfl rfl ⟨xa,.ref xg,rfl,yy zj.h1,_,rfl,_,rfl,_,rfl,rh.mk rfl (O _ _ xu) zj.hb zj.dv xh (O _ _ yI) zj.nn.hl Rh (fld _ M).1 (xG _ M) (by omega) (x9 _ M) xp yW λdk kk ka xk zy Wb yb kn T=>?_⟩
    have xJ:=zy _ _ zu;refine aX rfl rfl ⟨l,_,rfl,eW.k (k:=n' th.1) xJ (by rw[aW];omega),?_⟩
    rw[iU _ e0];have up:∀{zs:ac (Key×V)} b u,b≠l->xk b=ih u->upd xk l (.dK zs) b=ih u:=λb u n e=>by rw[ag n];exact e
    have zP:∀{zs:ac (Key×V)} b xs,xk b=a2 xs->upd xk l (.dK zs) b=a2 xs:=λb xs e=>up _ _ (ar e xJ) e
    have xQ:∀{zs:ac (Key×V)} b xs,xk b=ce xs->upd xk l (.dK zs) b=ce xs:=λb xs e=>up _ _ (ar e xJ) e
    refine k _ _ ⟨_,dk,kk,ka,rfl,λb u e=>up _ _ (ay e zW) (zy _ _ (O _ _ e)),?_,af,λx v zf=>?_,?_,?_,xQ _ _ yb,kn.keep zP,T⟩
    ·obtain⟨x,y,h,r⟩:=yf.ok
     exact⟨x,y,up _ _ (aT yY) (zy _ _ h),r⟩
    ·rw[pj _ _ _ _ e0]at zf
     by_cases c:x=th.1
     ·subst c
      rw[aF rfl]at zf;cases zf
      exact⟨th,zt,rfl,dk,kk,ka,rfl,xQ _ _ yb,kn.keep zP,T⟩
     ·rw[aq (λz=>c (gx z))]at zf
      exact((yu.same zy).keep zP xQ) x v zf
    ·rw[bX,jo];omega
    ·rw[pj _ _ _ _ e0,aF rfl]
   ·cases z:bb Ql (n' th.1) with
    |none=>rw[z]at e;exact absurd rfl e
    |some v =>
     obtain⟨xZ,Ro,Rp,dk,kk,ka,Rq,yb,kn,T⟩:=yu _ _ z;have:xZ=th:=by
      obtain⟨j',yJ,yZ⟩:=wN.mp Ro;have e1:(j.map (·.1))[j']?=(j.map (·.1))[xf]?:=by rw[cL,cL,yh,bz yJ,yZ];show ih xZ.1=ih th.1;rw[Rp]
      have:=(FT (by rw[aE];exact yJ) to.nd).mp e1
      subst this;rw[bz yJ,yZ]at yh;exact cJ yh
     subst this;exact⟨Ql,dk,kk,ka,rfl,O,yf.ok,zu,yu,by omega,by rw[z,Rq],yb,kn,T⟩
   rintro zY yQ ⟨za,dk,kk,ka,rfl,SJ,xz,zZ,x0,Wc,Rr,yb,kn,T⟩;clear yu zu zj O xn yf ze W zm yP xP zO zH yt xy yX;have Pt:ya yc=none:=zx.free xI;have zd:∀{yk:Hp},bu yc yQ yk->ax ya yk/\yk l=bn za/\yk dk=ce kk/\f9 yk kk ka/\g8 (λth=>⟨L th.2.1,bO,th.2.2⟩) ns j yk za:=λyn=>⟨oy SJ Pt yn,yn.kp _ _ zZ yY,yn.kp _ _ yb (qk xz yb λ_ z=>by cases z),kn.keep λb xs e=>yn.kp _ _ e (qk xz e λ_ z=>by cases z),x0.d2 xz yn⟩
   have zJ:∀n:Nat,n<=200->n<=UP:=λn h=>by rw[aW];omega
   refine b8 d λU d=>?_;intro g xc;have lJ:=I.same SJ;refine aX rfl rfl ⟨xm,xm,_,_,rfl,rfl,lJ.nn.hl,lJ.nn.hl,zJ _ (by rw[aE];omega),λzi Rt=>?_⟩
   rw[<-a'];have yz:=(bu.refl xz).new (o:=.lst ((ns++ns).map V.str)) Rt;have h0:upd yQ zi (.lst ((ns++ns).map V.str)) zi=bd ((ns++ns).map V.str):=af;generalize upd yQ zi (.lst ((ns++ns).map V.str))=J1 at yz h0⊢;refine ah rfl ⟨y9,_,rfl,(zd yz).1 _ _ yI,λlo y0=>?_⟩;have eo:(c4 th.2.2).map (λzc=>kV zc.1)=(th.2.2.map (·.1)).map V.str:=by unfold c4 gi;rw[c7,c7,c7];rfl
   rw[eo];have xK:=aK (o:=.lst ((th.2.2.map (·.1)).map V.str)) y0 _ _ h0;have zQ:=yz.new (o:=.lst ((th.2.2.map (·.1)).map V.str)) y0;have h1:upd J1 lo (.lst ((th.2.2.map (·.1)).map V.str)) lo=bd ((th.2.2.map (·.1)).map V.str):=af;generalize upd J1 lo (.lst ((th.2.2.map (·.1)).map V.str))=J2 at zQ xK h1⊢;refine⟨zi,lo,_,_,rfl,rfl,xK,h1,zJ _ (by rw[aE,aE,aE,bX];omega),λzl Ru=>?_⟩
   rw[<-a'];have zn:=zQ.new (o:=.lst ((ns++ns++th.2.2.map (·.1)).map V.str)) Ru;have h2:upd J2 zl (.lst ((ns++ns++th.2.2.map (·.1)).map V.str)) zl=bd ((ns++ns++th.2.2.map (·.1)).map V.str):=af;generalize upd J2 zl (.lst ((ns++ns++th.2.2.map (·.1)).map V.str))=J3 at zn h2⊢;refine ah rfl (iY.mk (m:=1) rfl zn.ok (by decide) λlm zz J4 Wd ml Rv We xR xe=>?_)
   have Q4:=zn.trans xR;have z0:=xR.kp _ _ h2 (fU zn.ok h2);refine⟨zl,lm,_,_,rfl,rfl,z0,xe,zJ _ (by rw[aE,aE,bX,bX,aE];omega),λxo Rw=>?_⟩
   rw[<-a'];have yK:∀y∈ns++ns++th.2.2.map (·.1)++zz,Nm y:=λy ye=>by
    rcases bK.mp ye with z|z
    ·rcases bK.mp z with z|z
     ·rcases bK.mp z with z|z
      ·exact xl y z
      ·exact xl y z
     ·obtain⟨x,C,rfl⟩:=a6.mp z;exact zI.1.nm x C
    ·exact Rv y z
   have z1:0<(ns++ns++th.2.2.map (·.1)++zz).length:=by rw[bX];omega
   have z2:(ns++ns++th.2.2.map (·.1)++zz).length<=100:=by rw[bX,bX,bX,aE];omega
   generalize ns++ns++th.2.2.map (·.1)++zz=yd at yK z1 z2⊢;have yo:=Q4.new (o:=.lst (yd.map V.str)) Rw;have W:upd J4 xo (.lst (yd.map V.str)) xo=bd (yd.map V.str):=af;generalize upd J4 xo (.lst (yd.map V.str))=J5 at yo W⊢;clear z0 xe xR Q4 h2 zn h1 xK zQ h0 yz;refine b8 d λU d=>?_;intro g xc;refine dZ rfl rfl rfl ⟨xo,_,rfl,.inl (ak.of W),?_⟩;rw[aE];refine cW (p:=yc) (m:=(yd.length:Int)) yo.ok (by omega) (by omega) λdm J6 f0 f1 ze=>?_
   obtain⟨xA,rfl⟩:=gT f0;have Rx:xA<yd.length:=by omega
   obtain⟨name,zB⟩:∃x,yd[xA]?=ih x:=⟨yd[xA],bz Rx⟩;have zK:=yK name (eO zB);refine⟨xo,_,(xA:Int),V.str name,rfl,rfl,ak.of (ze.kp _ _ W (fU yo.ok W)),cw (by rw[cL,zB];rfl),?_⟩
   have yf:=yo.trans ze;clear W ze yo zB yK z1 z2;refine b8 d λU d=>?_;intro g xc;have Oa:=x9 _ M;refine⟨eM,λx1 Ry=>⟨x1,_,rfl,rfl,ak.of af,λx2 Rz=>?_⟩⟩;have zo:=(yf.new (o:=.lst [V.str ""]) Ry).new (o:=.lst [V.str "",.str "",.str "",.str "",.str "",.str "",.str "",.str ""]) Rz;have yR:upd (upd J6 x1 (.lst [V.str ""])) x2 (.lst [V.str "",.str "",.str "",.str "",.str "",.str "",.str "",.str ""]) x2=bd [V.str "",.str "",.str "",.str "",.str "",.str "",.str "",.str ""]:=af;generalize upd (upd J6 x1 (.lst [V.str ""])) x2 (.lst [V.str "",.str "",.str "",.str "",.str "",.str "",.str "",.str ""])=J7 at zo yR⊢;refine aX rfl rfl ⟨xa,.ref xg,rfl,yy (I.same (zd zo).1).h1,x2,xg,_,_,rfl,rfl,yR,(zd zo).1 _ _ xu,by rw[aE,aW];show 8+_<=_;omega,λx3 RA=>?_⟩
   have eb:([V.str "",.str "",.str "",.str "",.str "",.str "",.str "",.str ""]:ac V)++(L th.2.1).map V.str=((["","","","","","","",""]:ac FF)++L th.2.1).map V.str:=by rw[a'];rfl
   rw[eb];have bl:((["","","","","","","",""]:ac FF)++L th.2.1).length=8+(L th.2.1).length:=by rw[bX];rfl
   have yC:∀y∈((["","","","","","","",""]:ac FF)++L th.2.1),y = "" \/ y∈L th.2.1:=λy ye=>by
    rcases bK.mp ye with z|z
    ·left;simpa using z
    ·exact .inr z
   generalize ((["","","","","","","",""]:ac FF)++L th.2.1)=bs at bl yC⊢;have yg:=zo.new (o:=.lst (bs.map V.str)) RA;have yA:upd J7 x3 (.lst (bs.map V.str)) x3=bd (bs.map V.str):=af;generalize upd J7 x3 (.lst (bs.map V.str))=J8 at yg yA⊢;refine dZ rfl rfl rfl ⟨xa,.ref xg,rfl,yy (I.same (zd yg).1).h1,xg,_,rfl,.inl (ak.of ((zd yg).1 _ _ xu)),_,_,rfl,rfl,?_⟩
   dsimp only
   rw[aE];refine cW (p:=yc) (m:=8+((L th.2.1).length:Int)) yg.ok (by omega) (by omega) λWg J9 g0 g1 zR=>?_
   obtain⟨zA,rfl⟩:=gT g0;have RB:zA<bs.length:=by omega
   obtain⟨zh,zC⟩:∃x,bs[zA]?=ih x:=⟨bs[zA],bz RB⟩;have y3:=yC zh (eO zC);refine⟨x3,_,(zA:Int),V.str zh,rfl,rfl,ak.of (zR.kp _ _ yA (fU yg.ok yA)),cw (by rw[cL,zC];rfl),?_⟩
   have Q9:=yg.trans zR;obtain⟨S9,z3,yq,RC,RE⟩:=zd Q9;clear yA zR yg yR zo yf zd zC bl yC kn yb x0 zZ;refine b8 d λU d=>?_;intro g xc;obtain⟨xB,RF,x4,xi,y4⟩:=ts th zt;have al:Alike ⟨L th.2.1,bk,xB.2.2⟩ ⟨L th.2.1,bO,th.2.2⟩:=alike pm xh.nd y4 zI.1.nd;have ask:∀{xd:Hp},ax ya xd->k6 xx t tb tt wt yT xB o ws wb Qb L bk (ns++[name]) (name,zh) xd:=λS=>⟨(I.same S).wd,(I.same S).fb,RF,by rw[xi];exact N9 _ M,(y4.map (·.1)).nodup_iff.mpr zI.1.nd,⟨Ri,λq ym s hs e=>fM _ (Pr q ym s hs e),λn hn=>(bK.mp hn).elim (xl n) λz=>by rw[bN.mp z];exact zK,by rw[bX,jo];omega,by rw[xi];show(L th.2.1).length<=9;omega,by rw[xi];exact xW _ M⟩,⟨d7 _ aY,by rw[xi];exact y3⟩⟩
   refine iz rfl rfl rfl rfl (ou.mk (th:=xB) (a:=(name,zh)) (by rw[x4];rfl) (ask S9) λr z4 p2 Wi yl av=>?_)
   rw[xi]at z4;have xD:=al.comes z4;have yB:=S9.trans yl;have xL:=I.same yB;refine b8 d λU d=>?_;intro g xc;refine aX rfl rfl ⟨xa,.ref xg,rfl,yy xL.h1,_,rfl,_,rfl,_,rfl,_,rfl,l,.ref dk,rfl,by rw[<-Rr];exact b7.k (k:=n' th.1) (yl _ _ z3),_,rfl,_,rfl,bS,λky Wj zb _ RG=>ah rfl (ry.mk (NS:=ns) (a:=(name,zh)) rfl ⟨(yB.trans zb) _ _ xu,(xL.same zb).hb,(xL.same zb).dv,xh,(yB.trans zb) _ _ yI,Oa⟩ ((yl.trans zb) _ _ yq) (RC.same (yl.trans zb)) T RG y3 zK (av.same zb) xD (fld _ M).1 (xG _ M) (by omega) xl xp yW λWk RH=>?_)⟩
   refine ah rfl (ite_ff rfl ?_);have yL:=zb.trans RH;have x5:=yB.trans yL;refine gn d ?_;intro g;refine iz rfl rfl rfl rfl (ou.mk (th:=xB) (a:=(name,zh)) (by rw[x4];rfl) (ask x5) λr' xU p3 Wl zL RI=>?_)
   rw[xi]at xU;have:=Comes.uniq xD (al.comes xU);subst this;obtain⟨y1,y2⟩:=MC (NS:=ns) xD zK xl (fld _ M).1 (xG _ M) xp;refine ah rfl ⟨_,_,CV RI,CV (av.same (yL.trans zL)),y1,y1,y2,_,rfl,ite_ff (by rw[VY _ y1];rfl) ?_⟩
   have y5:=yl.trans (yL.trans zL);exact⟨_,_,_,_,_,_,_,_,_,za,rfl,x5.trans zL,y5 _ _ z3,RE.same y5,by omega⟩
  ·rintro σ G ⟨yO,yG,zG,xH,yH,xr,yr,zr,xt,Ql,rfl,zx,yt,zH,Rj⟩
   refine gn d ?_;intro g;exact q G
end eG
namespace eG
open L2 W
def EU(K:YA)(LE M N:E8):Bool:=qf K M&&(mroIn K M (.ref M)==ih true&&(Yt K (.ref M) "name" == ih none&&(YF K (.ref M)&&(readsIn K LE (.type "type")&&(specialIn K (.ref LE) "__getattribute__" == ih (ih (.builtin "type.__getattribute__"))&&(qf K N&&(mroIn K N (.ref M)==ih false&&(mroIn K N (.ref N)==ih true&&(Yt K (.ref N) "names" == ih none&&YF K (.ref N))))))))))
theorem all_mk{l:aav}{xh:E8}(X:K.In h)(G:h.Ns U9 mg)(zo:mg "law" = ih (.ref xh)){LE N L q:E8}{xp:Tok}{zi:ad E8}{xj:Array (Option i')}{yj:i'}{zj:Nat}{xk yk:ad E8}{zk:Array (Option i')}{xl yl zl xm I ym:i'}
  (hd:rC K [pr "is_name" nL,pr "check_name" tQ,pr "goes_first" sv,pr "steps_of" sZ,pr "merged" nM,pr "least_free" qd,pr "wish_against" n9,pr "lines_of" mc,pr "line_from" nq,pr "finds_in" s6,pr "is_behind" sM,pr "check_behind" tR,pr "entries_by_place" nA,pr "is_thing" nB,pr "check_thing" tS,pr "kind_and_own" nC,pr "whole_asked" sj,pr "whole_of" s7,pr "round_from" kr,pr "_law_pot" vc,pr "_law_digit" nU,pr "_law_names" i2,pr "_law_merged" ig,pr "_law_line" nV,pr "_law_parents" sN,pr "_law_family" nD,pr "_law_called" tT,pr "_law_number" tU,pr "_law_step" uF,pr "_law_entry" nW,pr "_law_book" uG,pr "_law_things" tV,pr "_law_world" nX,pr "_law_spot" uH,pr "_law_steps" tW,pr "_law_go" vD,pr "_law_known" nY,pr "_law_leads" nZ,pr "_law_is_round" kC,pr "_law_told" uI,pr "_law_is" vE,pr "law" qL])
  (hz:va K ["len","max","min","abs","range","any","all","list","tuple","enumerate","isinstance","str","dict","sorted","int","bool","set"])
  (O:nsIn K U9 "LineError" = ih (ih (.ref LE)))
  (cD:CO K "Finds" D ["lines","entries","hits","met"] [tr "__init__" "Finds.__init__" uJ,tr "look" "Finds.look" uK,tr "walk" "Finds.walk" uL])
  (cC:CO K "Whole" C ["finds","kind","own","kept","known","begun"] [tr "__init__" "Whole.__init__" uk,tr "forebears" "Whole.forebears" sx,tr "tell" "Whole.tell" uM,tr "enter" "Whole.enter" n0,tr "go_on" "Whole.go_on" uN,tr "come_to" "Whole.come_to" tX,tr "settle" "Whole.settle" nN])
  (cR:CO K "Reckoning" R ["asking","where","left","total","rested"] [tr "__init__" "Reckoning.__init__" um,tr "step_by" "Reckoning.step_by" tY,tr "take_in" "Reckoning.take_in" tZ])
  (xM:XO K "Missing" "Missing.__init__" "name" M pH)
  (xN:XO K "Endless" "Endless.__init__" "names" N pI)
  (zm:nsIn K U9 "number_asked" = ih (ih (.ref q)))
  (xn:K.lookup q=ih ⟨xl,xk,.func (fnOf "number_asked" "number_asked" (c9 lQ) (bE lQ) (aJ lQ) (.ref L) yl zl xm yk I ym),zk⟩)
  (yn:codeIn K I "number_asked" = true)
  (J:YF K (.ref q)=true)
  (zn:K.lookup L=ih ⟨yj,zi,.seq #[.str "" xp] zj,xj⟩)
  (A:EU K LE M N=true)
  (P:findCls K (.ref LE) (.type "type") "__init__" = ih (.val (.builtin "ValueError.__init__"))) :
  ∃fd:Ye,(∀(s:UN) (v:i'),Z0 s fd ⟨[v],[]⟩ [("_law_script",v)]) /\∀base:Yl,K.In base->base.Ns U9 mg->aU l.prog w K mg base aH 11 xh fd ["_law_script"] (mw K):=by
 have z:∀x∈_,mg x=none:=CK X G hz;obtain⟨yp,zp,xq,yq,zq,xr,yr,zr,xt,yt,zt,xu,yu,zu,xv,yv,zv,xw,yw,hP,hD,hN,zw,xx,yx,zx,xy,yy,zy,xz,yz,zz,xA,yA,zA,xB,yB,zB,xC,yC,zC,hL,-⟩:=hd;obtain⟨Wm,Wn,xD,Q,S,T⟩:=hG X G yp "thing";obtain⟨Wo,Wq,yD,zD,xE,yE⟩:=hG X G zp "thing";obtain⟨Wr,Ws,zE,xF,yF,zF⟩:=hG X G xq "entry";obtain⟨Wt,Wu,xG,yG,zG,xH⟩:=hG X G yq "entry";obtain⟨Wv,Ww,yH,zH,xI,yI⟩:=hG X G zq "rows";obtain⟨Wx,Wy,zI,Wz,xJ,yJ⟩:=hG X G xr "rest";obtain⟨WA,WB,zJ,WC,xK,yK⟩:=gg X G yr "rest" "name";obtain⟨WD,WE,zK,xL,yL,zL⟩:=hG X G zr "family";obtain⟨WG,WH,yM,zM,yN,zN⟩:=l6 X G xt "lines" "kind" "parents";obtain⟨WJ,WK,xO,yO,zO,xP⟩:=gg X G yt "family" "book";obtain⟨WL,WM,yP,zP,xQ,yQ⟩:=gg X G zt "line" "thing";obtain⟨WN,WO,zQ,xR,yR,zR⟩:=gg X G xu "line" "thing";obtain⟨WQ,WR,xS,yS,zS,xT⟩:=hG X G yu "book";obtain⟨WS,WT,yT,zT,xU,yU⟩:=gg X G zu "world" "thing";obtain⟨WU,WV,zU,xV,yV,zV⟩:=gg X G xv "world" "thing";obtain⟨WW,WX,xW,yW,zW,xX⟩:=gg X G yv "world" "thing";obtain⟨WY,WZ,yX,zX,xY,yY⟩:=jE X G zv "world" "thing" "name" "behind";obtain⟨W0,W2,zY,xZ,yZ,zZ⟩:=gg X G xw "world" "thing";obtain⟨W3,W4,x0,y0,z0,z1⟩:=gg X G yw "standing" "again";obtain⟨fP,dP,FP,kP,bP,mP⟩:=gg X G hP "_law_script" "_law_k";obtain⟨fD,dD,B,j,e,f⟩:=gg X G hD "_law_pot_here" "_law_many";obtain⟨fN,dN,FN,E,F,mN⟩:=gg X G hN "_law_pot_here" "_law_many";obtain⟨W5,W6,z2,W7,y3,z3⟩:=hG X G zw "_law_rows";obtain⟨W8,W9,y4,z4,y5,z5⟩:=l6 X G xx "_law_lines" "_law_kind" "_law_own";obtain⟨Xa,Xb,y6,z6,y7,z7⟩:=gg X G yx "_law_pot_here" "_law_made";obtain⟨Xc,Xd,y8,z8,y9,z9⟩:=gg X G zx "_law_pot_here" "_law_kinds";obtain⟨Xe,Xf,RJ,U,V,W⟩:=jE X G xy "_law_pot_here" "_law_many" "_law_alike" "_law_kinds";obtain⟨Xg,Xh,RK,r,t,u⟩:=hG X G yy "_law_pot_here";obtain⟨Xi,Xj,RL,RM,RN,RO⟩:=l6 X G zy "_law_pot_here" "_law_names_here" "_law_at";obtain⟨Xk,Xl,RP,RQ,RS,RT⟩:=l6 X G xz "_law_pot_here" "_law_names_here" "_law_at";obtain⟨Xm,Xn,RU,RV,RW,RX⟩:=l6 X G yz "_law_pot_here" "_law_kinds" "_law_names_here";obtain⟨Xo,Xp,RY,RZ,R0,R1⟩:=jE X G zz "_law_pot_here" "_law_alike" "_law_kinds" "_law_names_here";obtain⟨Xq,Xr,R3,R4,R5,R6⟩:=l6 X G xA "_law_family_here" "_law_book_here" "_law_things_here";obtain⟨Xs,Xt,R7,Y,Z,xa⟩:=jE X G yA "_law_line_here" "_law_book_here" "_law_name" "_law_behind";obtain⟨Xu,Xv,R8,ya,za,xb⟩:=hG X G zA "_law_entry_here";obtain⟨Xw,Xx,R9,yb,zb,xc⟩:=K9 X G xB "_law_line_here" "_law_book_here" "_law_own" "_law_known_here" "_law_key";obtain⟨Xy,Xz,R',Sa,Sb,Sd⟩:=jE X G yB "_law_line_here" "_law_book_here" "_law_own" "_law_names_here";obtain⟨XA,XB,Se,Sf,Sg,Sh⟩:=jE X G zB "_law_line_here" "_law_book_here" "_law_own" "_law_name";obtain⟨XC,XD,Si,Sj,Sk,Sl⟩:=jE X G xC "_law_line_here" "_law_book_here" "_law_own" "_law_names_here";obtain⟨XE,XF,Sm,Sn,So,Sq⟩:=jE X G yC "_law_world_here" "_law_thing" "_law_name" "_law_behind";obtain⟨XG,XH,Sr,Ss,Su,Sv⟩:=K' X G zC "_law_line_here" "_law_book_here" "_law_own" "_law_known_here" "_law_key" "_law_told_here";obtain⟨fL,dL,yh,aL⟩:=hL;cases zo.symm.trans (ju X G aL)
 have b:∀{x:FF},x∈_->mg x=none:=λ{x} m=>z x m;have a:dq mg:=⟨b (by decide),b (by decide),b (by decide),b (by decide),b (by decide),b (by decide),b (by decide),b (by decide),b (by decide),b (by decide)⟩
 have c:hU mg:=⟨b (by decide),b (by decide),b (by decide),b (by decide)⟩
 have zh:vf mg:=⟨b (by decide),b (by decide)⟩
 obtain⟨⟨aD,Sw,Sx,Sy,Sz,SA,SD,SE⟩,SF,SG,SH,-⟩:=cD;obtain⟨XI,XJ,SI,yc,SK⟩:=tO SF "self" "lines" "entries";obtain⟨XM,XN,SM,zc,xd⟩:=tP SG "self" "kind" "name" "behind";obtain⟨XQ,XR,SN,SO,SQ⟩:=tP SH "self" "kind" "name" "behind";obtain⟨⟨aC,SR,SS,SU,SV,SW,SX,SY⟩,S0,S1,S2,S3,S4,S5,S6,-⟩:=cC;obtain⟨XS,XT,S7,yd,S8⟩:=Lb S0 "self" "finds" "kind" "own" "kept";obtain⟨XU,XW,S',Ta,Tb⟩:=La S1 "self";obtain⟨XX,XY,Tc,Td,Te⟩:=nK S2 "self" "first";obtain⟨XZ,X0,Tf,Tg,Ti⟩:=tO S3 "self" "standing" "asking";obtain⟨X1,X2,Tj,Tn,To⟩:=nK S4 "self" "reckoning";obtain⟨X3,X4,Tp,Tq,Tr⟩:=tO S5 "self" "reckoning" "step";obtain⟨X5,X6,Ts,Tt,Tu⟩:=nK S6 "self" "reckoning";obtain⟨⟨aR,Tv,Tw,Tx,Tz,TB,TC,TF⟩,TH,TJ,TK,-⟩:=cR;obtain⟨X7,X8,TL,zd,TM⟩:=tP TH "self" "asking" "where" "steps";obtain⟨X9,X',TN,TQ,TR⟩:=nK TJ "self" "step";obtain⟨Ya,Yb,TU,TV,TX⟩:=nK TK "self" "told";have p:∀{x:FF},x∈_->Yt K (.ref D) x=ih none:=λ{x} m=>pV SE m;have k:∀{x:FF},x∈_->Yt K (.ref C) x=ih none:=λ{x} m=>pV SY m;have o:∀{x:FF},x∈_->Yt K (.ref R) x=ih none:=λ{x} m=>pV TF m;have i:jT K mg D:=⟨⟨Sw,Sx,Sy,Sz⟩,p (by decide),p (by decide),p (by decide),p (by decide),ju X G aD⟩
 have g:iC K mg R:=⟨⟨Tv,Tw,Tx,Tz⟩,o (by decide),o (by decide),o (by decide),o (by decide),o (by decide),ju X G aR⟩
 have d:hW K mg C:=⟨⟨SR,SS,SU,SV⟩,k (by decide),k (by decide),k (by decide),k (by decide),k (by decide),k (by decide),ju X G aC⟩
 obtain⟨TY,Yc,xe,TZ,aM,xo⟩:=xM;obtain⟨T1,Yd,ye,T2,aN,yo⟩:=xN;have T3:=DY xe "self" "name";have T4:=DY ye "self" "names";have ze:=K5 (st:=lQ) xn yn J;have T5:=ze.binds (ps:=j6) (ds:=[]) zn λ_ _ _ _ _ _ us hl=>by
  have h4:us.length=4:=by simpa using hl
  obtain⟨_,_,_,_,rfl⟩:=mx h4;exact⟨_,rfl,rfl⟩
 have T6:=ju X G zm;unfold EU at A;simp only[gP,dJ]at A;obtain⟨x1,x2,x3,x4,x5,x6,x7,x8,x9,y1,y2⟩:=A;have xi:uS K mg LE M TY _:=⟨ju X G aM,xo,TZ.fn,x4,xe,⟨x5,x6,P⟩,ju X G O,T3,CM x1,x3⟩;have yi:vh K mg LE N T1 _:=⟨ju X G aN,yo,T2.fn,y2,ye,⟨x5,x6,P⟩,ju X G O,T4,CM x7,y1⟩;obtain⟨_,_,_,_,_,_,_,_,_,rfl,_,_⟩:=yh.ex;exact⟨_,λs v=>.of_eq rfl,λbase _ _ =>
  let xf:=Le xD a c
  let T7:=Mz yD ⟨xf,Q,S,T⟩
  let T8:=NC zE
  let T9:=IP yH a zJ xK yK zI xJ yJ
  let T':=Ni yM a ⟨T9,zH,xI,yI⟩
  let Ua:=JU zK a ⟨T',zM,yN,zN⟩
  let Ub:=Nr xS
  let Uc:=Lq SN i
  let yf:=Lr SM i Uc SO SQ
  let Ud:=Nw xO i ⟨Ua,xL,yL,zL⟩ ⟨Ub,yS,zS,xT⟩ ⟨SA,yc.at_,yc.fn,SD⟩ (Mv SI i) SK
  let Ue:=Nt yP c
  let Ug:=Nu zQ ⟨Ue,zP,xQ,yQ⟩
  let Uh:=Nx yT ⟨xf,Q,S,T⟩
  let Ui:=Ny zU ⟨Uh,zT,xU,yU⟩
  let Uj:=NA xW ⟨Ui,xV,yV,zV⟩
  let Uk:=NQ zY c d ⟨Uj,yW,zW,xX⟩ ⟨Ud,yO,zO,xP⟩ ⟨SW,yd.at_,yd.fn,SX⟩ (Mw S7 c d) S8
  let Ul:=ND xG
  let Um:=NF TL a g
  let Uo:=NI Tp d i g yf zc xd
  let Up:=NJ Tj d g Uo Tq Tr (NG TN g) TQ TR (NH TU g) TV TX
  let Uq:=NK Ts a c (b (by decide)) d g
  let Ur:=NN x0 a g
  let Us:=NO Tf d i g xi yi ⟨Ur,y0,z0,z1⟩ yf zc xd ⟨T8,xF,yF,zF⟩ ⟨Ul,yG,zG,xH⟩ ⟨TB,zd.at_,zd.fn,TC⟩ Um TM
  let Ut:=NP Tc d Us Tg Ti Up Tn To Uq Tt Tu
  let Uu:=NT yX d ⟨Uk,xZ,yZ,zZ⟩ ⟨T7,zD,xE,yE⟩ ⟨Ug,xR,yR,zR⟩ (Lw S' d i) Ta Tb Ut Td Te
  let Uw:=NV ze d ⟨Uu,zX,xY,yY⟩
  let n:=s8 B
  let Ux:=Nq y8 a c (Mo y6 a B e f) z6 y7 z7 (Nl y4 a z2 y3 z3) z4 y5 z5
  let GP:=Ml FP a
  let H:=JQ FN a B e f
  let zf:=N1 RJ ⟨H,E,F,mN⟩
  let y:=Mp RK ⟨n,j,e,f⟩
  let Uy:=Mq RL a ⟨n,j,e,f⟩ ⟨y,r,t,u⟩
  let Uz:=Mr RP a ⟨n,j,e,f⟩ ⟨y,r,t,u⟩ ⟨Uy,RM,RN,RO⟩
  let UB:=N4 RU a ⟨n,j,e,f⟩ ⟨Uz,RQ,RS,RT⟩
  let UC:=N2 RY a ⟨zf,U,V,W⟩ ⟨n,j,e,f⟩ ⟨H,E,F,mN⟩ ⟨y,r,t,u⟩
  let UD:=N3 R3 a c
  let xg:=NX R7
  let yg:=NY R8 a
  let zg:=NZ R9 ⟨xg,Y,Z,xa⟩ ⟨yg,ya,za,xb⟩
  let UE:=N0 R' a ⟨zg,yb,zb,xc⟩
  let UG:=N5 Se a ⟨xg,Y,Z,xa⟩ ⟨yg,ya,za,xb⟩
  let UH:=N6 Si a c (b (by decide)) ⟨UG,Sf,Sg,Sh⟩
  let UI:=N7 Sr c zh ⟨zg,yb,zb,xc⟩ ⟨UH,Sj,Sk,Sl⟩
  let UJ:=NW Sm xi yi x2 x8 x9 ⟨Uw,J,T5,T6⟩
  MF yh a c zh ⟨GP,kP,bP,mP⟩ ⟨n,j,e,f⟩ ⟨H,E,F,mN⟩ ⟨Ux,z8,y9,z9⟩ ⟨zf,U,V,W⟩ ⟨UB,RV,RW,RX⟩ ⟨UC,RZ,R0,R1⟩ ⟨UD,R4,R5,R6⟩ ⟨UE,Sa,Sb,Sd⟩ ⟨UJ,Sn,So,Sq⟩ ⟨UI,Ss,Su,Sv⟩⟩
theorem walk{l:aav}{q:Yq}{d:DefRec}{K:Params->YA}(e:l.most=ih 63)(c:d.params.defaults=[])
  (g:∀(w:Yw) (h:Yl),YP w h->(K w.params).In h)
  (F:∀(w:Yw) (mg:FF->Option i') (b:E8) (h:Yl),(K w.params).In h->h.Ns U9 mg->mg d.name=ih (.ref b) ->
   ∃fd:Ye,(∀(s:UN) (u:i'),Z0 s fd ⟨[u],[]⟩ [("_law_script",u)]) /\∀base:Yl,(K w.params).In base->base.Ns U9 mg->aU l.prog w (K w.params) mg base aH 11 b fd ["_law_script"] (mw (K w.params))) :
  WalkO q Qr XP YP l.row.toRowW d [] (λf vs=>aai f vs):=
 L2.Kt (n:=63) (k:=11) (x:= "_law_script") (CX:=λ_=>aH) (sp:=λw=>mw (K w.params)) e (by decide) c ⟨rfl,by decide,by decide,rfl⟩ g F (λ_ _ a ns i _ j=>mw.mk rfl j i λ_=>rfl) λ_ _ _ _ _ z=>z
end eG
structure PySem.W.Fast:Prop where
 (tw11883939954921233745 tw6775483856182488093 tw7301836143177917241 tw11145692931519480463 tw16760470476553641334 tw10856214400125886103 tw15516554869757935624 tw15460330817072730221 tw12357964347797199225 tw14301613968161440758 tw17463065048503863722 tw16701137916883238073 tw12525259179202985895 tw10253651772031049059 tw5983472306942988467 tw6321739651641611525 tw729770446508045031 tw6995151153482699986 tw11641984110301443314 tw9537962501635833967 tw8872990974495123387 tw12040905572440052976 tw12088016059561996201 tw8942123020767525692 tw3845848309275139234 tw12416881705179319486 tw7781694548155646052 tw8239229174425036264 tw14156846206505692625 tw4318534540038874908 tw15820773712495584465 tw5213159692897454795 tw9239955823433022201 tw16909881196412594476 tw31280704796453205 tw9762456880409514602 tw7319808264581336513 tw2911643003984160561 tw4522866704209637348 tw13695160152224644383 tw3905165319332776781 tw7836743502730576955 tw1200538923078899966 tw9978103321166925281 tw16737851142195489979 tw7446571606573379347 tw5063230076884715825 tw15664630485101225317 tw7787689756319409262 tw2056466783574016875 tw12247468943283784944 tw13801089817449329817 tw2752904253318676623 tw12303591973950608638 tw9021799743969512906 tw9791003844114474301 tw15823437611452451147 tw7635198315378037287 tw14346189777626387210 tw9451031693418551343 tw17026078547402311908 tw5361182596580332877 tw17322738147916229863 tw14651393949000485676 tw7228663966688649853 tw2468829183574209410 tw9137049196014049061 tw13522313695870552823 tw27329281169999685 tw6125951853606213539 tw16207215248114777292 tw850200436238735856 tw11361570800271733950 tw16670255784045773206 tw6136228660757274345 tw11834391778292917413 tw9968213105970267108 tw6282029401901342600 tw14463440262833358201 tw1846785616654023482 tw4568909839737786065 tw8395046230132174465 tw303330378650778316 tw4924132103609246634 tw5082923018788884935 tw5473472812254131118 tw2927822529649979301 tw4404631926371625606 tw8593703706757138775 tw4883951688455418030 tw17838213097782641445 tw1421358324125255963 tw13003216307500599872 tw10171546374959639118 tw15710532519084892700 tw10461327469061025294 tw7713815831155581367 tw15928798595649102585 tw2508149388917674492 tw10066391719982437087 tw5142526264406834501 tw15620134021286162796 tw13843704450014748343 tw16853750090293704039 tw251657385391191628 tw3014692058945150704 tw18396270897889866180 tw11665074152635342933 tw12968569185676224446 tw16945517577500535302 tw11546413382276843845 tw7788924039498224248 tw1248452448414265983 tw13063824843211833956 tw13266361247429244944 tw7755340358910656534 tw536455901869860754 tw15894145689048915835 tw1226078272034877704 tw2863643975275509823 tw13126792782646819106 tw18248538800852149522 tw4422793284940479858 tw2171574596407136462 tw11014464874891285268 tw1893389842393483718 tw15905025472368633179 tw12462409207954357664 tw1647410086473785019 tw2025439631112062421 tw4437219976335154429 tw1635485043739318650 tw18375242347883147568 tw11763763129536878275 tw10813737349692311774 tw768072623382640208 tw7855222265072207251 tw10958525623956048475 tw5183254065006150276 tw3998547455190905675 tw11132077369560432046 tw15905280752010584000 tw8880774440223157323 tw5470419021325103951 tw1474487933474698739 tw3536175452255253210 tw12335233736688030302 tw9882320358732340128 tw9337071392186659899 tw5793052464339136732 tw6800741692885718899 tw7934817121900849773 tw16431146690026965450 tw10707104595545991041 tw2117960359663642128 tw4447105522570429145 tw4988365487998036201 tw18431753380348691441 tw6715292585950958594 tw13319137702143604116 tw9722481530932836625 tw13613842966926791211 tw16241200582727266078 tw16048258554956833088 tw4265093322985063706 tw15623037167607051271 tw1146234820276955429 tw5617444369209716633 tw9018118553810608145 tw15309219162493338860 tw10811953447111442160 tw5264430095716272809 tw10163732308890663579 tw9826981351653523908 tw6198886355331094719 tw4943384369448198756 tw2234945584105899921 tw8344883126409258259 tw254762340981486212 tw1331106899243874806 tw3408972754975286202 tw2261404071652987142 tw9104577871741080729 tw855547211469832724 tw6446216756208358690 tw7563840987575666288 tw12022889654874733222 tw8753190013921538136 tw6872058196705830145 tw6055059453513266533 tw9075968720405338366 tw15382664475036483157 tw15914961374381806177 tw2352587213986476935 tw12781567730548690749 tw11004418097346986241 tw10876770735651447386 tw16555780922621551668 tw7584917937289540815 tw15843298373285330458 tw319882236113711689 tw3098954123442344700 tw4616917151101851449 tw9349108139357850579 tw784512782253514743 tw16137583611073075658 tw5759411209134097878 tw8347526305390108039 tw17069055602268128367 tw6350832564458250199 tw618791292549949503 tw14209280495577253799 tw4895761230832909647 tw14144538522068866740 tw16410623189745385662 tw14447353387498016758 tw17429597116213678849 tw12129063464265962924 tw1290088852204889169 tw3375124260768222875 tw17349113869962120968 tw12495633890866593755 tw2694411642036778363 tw15116327342409772016 tw11180507286408313242 tw15120137209526462904 tw5190126508768869456 tw2529738546800002197 tw15161590184165976114 tw638509863669626703 tw7311734427770112682 tw11483472205512075944 tw15182001730745090608 tw2235001364062965086 tw8136908474035220422 tw16286479360729390162 tw14982635229138137654 tw6238312491380496682 tw17102490876827344556 tw8072402779731980309 tw1443554916168971596 tw5849527914371984223 tw9241541972872613574 tw8180992728522784459 tw8703251780109357834 tw8678920489730420545 tw3780830774302075280 tw12253299655482046466 tw17557480527495582119 tw8179510525598408791 tw11599002676978259529 tw5906116008483143088 tw8396328066325611924 tw5791880955291407094 tw4813872735638427898 tw3093317586800113465 tw1756338468220420320 tw15311789182197998731 tw14085751047353383871 tw17621504276524156945 tw15085454231623564271 tw1855040562801490956 tw1027235870836401418 tw13047309059024036673 tw7977574013048137330 tw8041237541355608449 tw12579603466017160831 tw5211495837015454346 tw12935526895784600951 tw6950954558283005746 tw13507925759743630212 tw6334881223289731001 tw9414031923509480543 tw12159460378718381977 tw6658043398057474545 tw13831892758321449742 tw3735391911179111713 tw6306172484127927756 tw17643379300147169569 tw7094395014380843392 tw4145843730500293484 tw10014000381010512308 tw5849526576102272314 tw18391754124070688342 tw1750815325275183703 tw1130072387024547410 tw7798732581641580583 tw17895579520516608127 tw11080030690551446240 tw1986176715815123348 tw359815016379082650 tw16173425674819681918 tw14472293569378702611 tw15380976382895051858 tw18141870501243597268 tw14374832228793630528 tw9125131832026112865 tw6518954546002707113 tw3196031145050068524 tw10914412841492654981 tw11339799438106933270 tw10572992505852606382 tw12605535577688132736 tw18007511114542179305 tw5953301750824513304 tw13764027082929353054 tw6128113230397120071 tw5494233146613976387 tw196047838159967992 tw2470980182888612407 tw17603581144046111639 tw11702032235427311553 tw2600884662280592941:True)
open W PyProof.Rows
set_option maxRecDepth 100000 in
set_option maxHeartbeats 0 in
theorem PySem.Challenge.cw_parentlines_k44_whole_asked_as_reckoned_holds : PySem.Challenge.rw_parentlines_k44_whole_asked_as_reckoned.Holds := by
 w_on;o_law;k_head;(case hw=>w_witness2)
 k_fill
 refine eG.walk (l:=PySem.Challenge.rw_parentlines_k44_whole_asked_as_reckoned) rfl rfl (λw h Y=>PySem.W.kIn_of Y) ?F
 case F =>
  intro w mg fa h KX G UK;refine' eG.all_mk KX G UK ?d ?z ?UL ?cD ?cC ?cR ?xM ?xN ?Pu ?Pw ?Px ?Py ?Pz ?hx ?UM
  (case d=>(repeat (refine' L2.Nd ?a ?l ?c ?k ?_;(case a=>k_is);(case l=>k_is);(case c=>k_is);(case k=>k_is)));exact trivial)
  (case z=>(repeat' first|exact trivial|refine Zu ?_ ?_) <;> k_is)
  (case cD|cC|cR=>refine' ⟨⟨?a,?_,?_,?_,?_,?_,?_,?n⟩,?m⟩;(case a=>k_is);(case n=>(repeat' first|exact trivial|refine Zu ?_ ?_) <;> k_is);(case m=>(repeat (refine' L2.Nf ?a ?i ?l ?c ?k ?_;(case a=>k_is);(case i=>k_is);(case l=>k_is);(case c=>k_is);(case k=>k_is)));exact trivial);all_goals k_is)
  (case xM|xN=>refine' L2.Ng ?n ?a ?i ?l ?c ?k ?e;(case n=>k_is);(case a=>k_is);(case i=>k_is);(case l=>k_is);(case c=>k_is);(case k=>k_is);(case e=>kernel_rfl))
  (case UL=>k_is)
  (case Pu=>k_is)
  (case Pw=>k_is)
  (case Px=>k_is)
  (case Py=>k_is)
  (case Pz=>k_is)
  (case UM=>k_is)
  (case hx=>kernel_rfl)
