import PyProof.Rows.All
import Wide.All
import OpenK.AllK
import Wide.FinOn
import Lean
import PyProof.EqAt
import PyProof.EqKinds
import PyProof.TupleCall
import PyProof.ReprRoads
import PyProof.ReprBulk
import PyProof.EnumMake
import PyProof.EnumFor
import KE.KRevSl
import KE.KDictList
import PyProof.ZipIter
import PyProof.AttrMissHeap
import KE.KDictOf
import KE.KItemsList
import PyProof.Rows.ZipGen
import PyProof.CallFns
import PyProof.NsDelKeeps
import PyProof.StrWalks
import PyProof.FString5
import KE.KSortTup
import PyProof.SetRoads
import PyProof.SetNew
import PyProof.Rows.SetFrom
import PyProof.WalksMore
import PyProof.ForAny
import PyProof.DictWalks
import PyProof.MeetsDict
import KE.KEqDict
import PyProof.AutoSeq1
import PyProof.DictItemsLoops
import KE.KPairComp
import PyProof.ListMulRoad
import PyProof.FactsAll.list
import PyProof.FactsAll.list_2
import PySem.Challenge.RW_parentlines_k44_whole_asked_as_reckoned
set_option Elab.async false
set_option linter.all false
set_option maxRecDepth 100000
set_option maxHeartbeats 4000000
abbrev ac:=@List
abbrev ad:=@Option
open Option renaming some->ih,map->ZX,getD_none->aag,none->aaV
open PySem renaming Value->i',Addr->EZ,Str->Fv,Shared->Ux,wpAny->Uz,sizeLine->UB,PyData->UC,model->UO,mainGlobals->UU,starEach->U1,Stmt->U6,bootBuiltins->Vh,Expr->Vp,compareOp->VH,Paired->VM,FuncData->X2,Heap->X8,Builtin->Ya,Program->Yc,World->Yi,Str->Yj,Around->Yk,binaryOp->Yn,NameKind->Yo,Obj->Yy,Value->YC,Within->YD,IsItemIter->YE,DictEntry->YF,ExceptHandler->YU,cLine->YV,Scope->YW,Addr->YY,Result->Y7,SetTable->Y',Sem->Zh,IsPart->Zo,Env->Zs,frameOf->ZC,Model->ZE,Fin->ZF,Shared->ZI,BindsTo->ZM,CmpOp->ZQ,GenState->ZR,Pos->Z3,call->Z5,Heap->Z6,IsItemIterOut->Z8,seqSlot_of->aak,ElemsOf->aa3,World->aa6,Stmt->abf,Expr->abg,Obj->abz,Env->abA,Operator->ab3
open Sum renaming inr->n',inl->Zt
open PySem.W renaming Frag->UP,emptyDict->X4,findIn->X',findIn->Yf,instObj->Yg,fnOf->Yh,Frag->Ym,keepIn->Yr,keepIn->Ys,codeIn->YS,plainGet->Y3,lookIn->Y8,methodObj->Zj,hasDictIn->Zk,takerIn->Zu,isFn->ZD,plainOver->ZY,handedIn->Z',Looks->aad,makesIn->aaf,OpenLaw->aai
open PySem.Value renaming ref->UR,none->VB,type->Ye,isStrOf->YA,bool->YG,builtin->YJ,str->YT,int->Y5,isInt->ZT,float->ZU,isInt_shape->aae,bytes->aa5
open PySem.NameKind renaming free->U4,cell->X3
open False renaming elim->Vd
open PySem.PyData renaming depthAll->Ve,str->Vl,strOk->Vt,eqv->X5,canLayAll0->X6,depth->Yd,eqvAll->Yz,leavesShortAll->ZK,showableAll->ZZ,hasDictAll->aaa,bulkAll->aal,bulk->aaU
open True renaming intro->Vu
open List renaming lookup->VA,range->VD,replicate->Yw,getD->YX,length->Y2,nodup_range->aan,mem_reverse->aao,getElem_inj->aap,append_inj'->aaq,range_succ->aaA,length_set->aaB,forIn_cons->aaC,map_take->aaW,all_cons->aaX,map_nil->aa7,not_lt->abi
open ForInStep renaming yield->VI,done->acD
open PySem.Obj renaming mapSeq->X1,putSet->Zp,mapFields->ZJ
open PySem.Heap renaming SameBut->X7,FlyingW->Yx,get?->ab5
open PySem.Txt renaming slice->X9,join->aaT
open PySem.Builtin.List renaming listExtendWith->Yb,listTooLong->Yu,listLengthHint->Zm,listSameRef->Zr
open PyProof.Rows renaming StrsAre->Yl,IsTup->Yv,AllBare->Y6,Subscript_->ZS,IntsAre->aaj,lt_str->abR,iadd_int->abS,floordiv_int->abT,Constant_none->acb
open PySem.Str renaming ofString->Yp,empty->ZN,length->ab4
open PySem.Builtin.Slice renaming slicePlaces->Yq,sliceAdjust->YM,sliceApplied->Zl,slicePartIndex->abv,sliceFields->abw
open PySem.Builtin.Tuple renaming tupleExact->Yt,tupleItemsOf->YH
open PySem.Builtin.Dict_items renaming ownsTuple->YB,ownedTupleIsFree->YZ,ownedTupleFields->Y0,pairFromOwner->Y4,newIterator->aat,dictOf->aau
open PySem.Builtin.Str renaming strSliceIndices->YI,glued->ab9
open Int renaming toNat->YK
open PySem.SetTable.below renaming go->YL
open Or renaming inr->YN,inl->aa2
open List.Perm renaming swap->YO,of_eq->Z0,trans->acB,map->acC
open PySem.SetTable renaming grown->YQ,below->YR
open PySem.Shared renaming TypeIs->Y1
open List.Pairwise renaming nil->Y9,and_mem->abu
open PySem.pickOrder renaming go->Zg
open And renaming intro->Zi
open PySem.Around renaming under->Zn
open PySem.SeqAt renaming readOf->Zq,list_indexAt->Z9,EqAt->abe
open PySem.Builtin.Dict renaming updateFrom->Zv,pairItems->Zw,showsAll->Zx,selfAndRest->abX,noArgs->abY,addKeywords->abZ
open PySem.Heap.IsSliceOf renaming new->Zy
open Nat renaming strongRecOn->Zz,mod_eq_of_lt->aaw,min_eq_right->aax,le_max_right->aay,le_add_right->aaz,min_eq_left->aaL,le_max_left->aaM,le_of_eq->abh,one_mul->abB
open PySem.AutoSeq1 renaming sub_list_list->ZA,idx_int->Z2
open PySem.SeqAt.EqAt renaming str_int->ZG,int_str->ZH,str_str->ace,str_none->acf,str_bool->acg,same->ach,none_str->aci,none_int->acj,none_bool->ack,int_none->acm,int_int->acn,int_bool->aco,bool_str->acp,bool_none->acq,bool_int->acr,bool_bool->acs
open PySem.Calls renaming callWith_builtin->ZL,spliced_cons->aac,spliced_nil->aah
open PySem.Code renaming isFrame->ZO,isGuard->abb,frames->abj
open PySem.Heap.DictOf renaming new->ZP
open PySem.Heap.Ns1 renaming of_empty->ZV
open Classical renaming choose->ZW,not_forall->acF,choose_spec->acG
open PyProof.Rows.F renaming entry_set_update_loop->Z1
open PySem.Walks renaming list->Z4,dictKeys->aav
open PySem.W.Looks renaming here->Z7,here->abk
open PySem.F renaming slot_dict_items_iter->aab,args_list_index_2->aar,args_dict_items_1->aas,entry_list_index->aaD,entry_dict_items->aaE,type_dict_items->aaN,slot_list_index->aaO,plainAttrs_dict->aaP,entry_list_pop->aaY,entry_any_loop->aaZ,slot_set_iter->aa8,slot_list_pop->aa9,plain_set_new->aba
open Prod.mk renaming injEq->aam,inj->aaK
open PySem.Builtin.Frozenset renaming updateFrom->aaF,slot0->aaG,sizeOf->aaH,newClass->aaI
open Array renaming mem_def->aaQ,toList->aa1,ext->abC
open Std.Legacy.Range renaming size->aaR,forIn_eq_forIn_range'->aaS
open Bool renaming and_true->aa0,true_or->abd
open PySem.W.WShape renaming has->aa4
open PySem.CmpOp renaming NotIn->abc,In->ab7
open PySem.EqMixed renaming ne_str_int->abl,ne_str_bool->abm,ne_int_str->abn,ne_bool_str->abo,eq_str_int->abp,eq_str_bool->abq,eq_int_str->abr,eq_bool_str->abt
open PySem.Builtin.Range renaming rangeSize->abx
open PySem.W.WData renaming int->aby
open PySem.EqNone renaming ne_str_none->abD,ne_none_str->abE,ne_none_none->abF,ne_none_int->abG,ne_none_bool->abH,ne_int_none->abI,ne_bool_none->abJ,eq_str_none->abK,eq_none_str->abL,eq_none_none->abM,eq_none_int->abN,eq_none_bool->abO,eq_int_none->abP,eq_bool_none->abQ
open List.Sublist renaming refl->abU,map->abV
open PySem.Heap.SameBut renaming refl->abW
open PySem.Flow renaming next->ab6
open Option.some renaming injEq->ab8
open PySem.Data renaming seq->aca
open Std.Legacy renaming Range->acd
open PySem.EntryCells renaming newEntry->acu
open PySem.Value.ref renaming inj->acy
open PySem.IsL renaming update->acz
open PySem.PassesOwn renaming leaving->acA
open PySem.DictEntry renaming refKey->acE
open PySem renaming wpAny_bind->ae,wpAny_pure->ak,sizeLine_eq->aV,wpAny_holding->eh,boot_len->ez,wpAny_newObj_type->fH,wpAny_truthy_bool->g6,wpAny_setState_of->g9,wpAny_mono->hY,wpAny_call_entry->hZ,codeAny_builtin->h3,wpAny_askSetting->iG,wpAny_setField_rec->iH,wpAny_standAt->je,wpAny_rule->jf,mem_of_lookup->jh,wpAny_typeOf->jj,plainId_quiet->jn,wpAny_call->j5,call_meets->j8,codeAny_mono->ll,wpAny_field->lp,wpAny_passesOwn->mO,wpAny_Call_Name_kw->mQ,wpAny_execs_nil->oJ,wpAny_load->oK,wpAny_pyIter_list->rH,wpAny_callSpecial?_slot->rK,wpAny_loadPart_at->rL,wpAny_attempt->rO,wpAny_loadPart->vT,seqIndex_of->vW,wpAny_noRaise->vY,codeAny_of_tree->vZ,codeAny_call_builtin->v7,post_val_or_str->wc,tupleKind_room_in1->wy,wpAny_throw->wz,wpAny_newList->wD,fits_of_scanBound->wF,wpAny_pyIter_slot->wI,wpAny_typeNameOfWhole_itemiter->wN,wpAny_typeNameOf_itemiter->wO,wpAny_eqBool_str->EN,noFill_tuple_add->E1,seq_tuple_add->E3,evalPart_none->E7,slot_list_getitem->E8,wpAny_comprehension_free->Fd,typeLookup_type->Fq,builtinLookup_eq_fast->Fs,wpAny_runValue->Fy,isSubtype_type->Fz,wpAny_fieldsOf->FC,wpAny_isInstance->FD,wpAny_ite_split->FE,wpAny_updateSeq->FF,wpAny_dictEntries->FK,wpAny_dictEpoch->FL,wpAny_isOneOf_itemiter->FO,plainObj_wpAny_Assign_Attribute->UI,wpAny_getItem_list_slice->UQ
open List renaming length_map->aB,mem_cons_self->aW,mem_map->a4,map_append->a8,mem_cons_of_mem->ba,getElem?_eq_getElem->bw,mem_cons->bH,mem_append->bI,mem_singleton->bL,length_append->bV,size_toArray->bY,getElem?_eq_some_iff->bZ,map_cons->b2,take_length->cz,length_take->cH,getElem?_map->cI,length_cons->cS,mem_append_right->c4,map_map->c5,lookup_cons->dg,nodup_append->di,take_succ->dH,nodup_cons->d4,mem_of_getElem?->eK,getElem_mem->eL,append_nil->eU,nodup_nil->e4,mem_filter->fc,mem_append_left->fA,getD_eq_getElem?_getD->gv,length_filter_le->gM,filter_append->gN,mem_range->jd,take_sublist->ji,any_cons->jk,length_singleton->jl,length_nil->jm,not_mem_nil->jo,drop_eq_getElem_cons->lr,any_eq_true->lu,eq_nil_of_length_eq_zero->lz,nodup_iff_pairwise_ne->lA,map_drop->lB,length_pos_iff->lC,length_drop->mR,append_assoc->mS,all_eq_true->mT,map_congr_left->mV,pairwise_map->mW,filter_cons->mZ,mem_filterMap->oG,find?_cons->oQ,filter_cons_of_pos->oS,mem_of_mem_take->oT,mem_of_mem_drop->oU,mem_flatMap->oV,flatMap_append->oW,getElem?_eq_none->rR,filter_nil->rW,filter_cons_of_neg->rX,head?_map->rZ,any_eq_false->vS,length_replicate->vU,any_map->wj,getElem_of_mem->wq,drop_zero->wu,getElem_toArray->wx,take_append_drop->wC,mem_iff_getElem->wK,map_id->wM,sum_cons->wQ,drop_length->wR,filterMap_cons->EO,getElem?_set_self->ER,getElem?_set_ne->ES,of_mem_zip->EW,getElem?_append_left->EX,length_dropLast->Fb,lookup_append->Fc,length_range->Ff,length_erase_of_mem->Fg,length_pos_of_mem->Fh,mem_erase_of_ne->Fi,length_reverse->Fl,cons_append->Fn,ext_getElem->Fu,getElem?_inj->FG,length_eq_one_iff->FR,take_of_length_le->FT,replicate_succ'->FU,flatMap_cons->FX,getElem?_append_right->UN,reverse_cons->US,eraseIdxIfInBounds_toArray->UT,drop_of_length_le->UZ,length_eraseIdx->U7,cons_lt_cons_iff->Vv,countP_eq_length_filter->Vw,perm_ext_iff_of_nodup->Vx,filter_eq_self->Vy,drop_sublist->VC,prefix_cons_inj->VL
open Nat renaming le_refl->aP,zero_le->bB,ne_of_lt->bK,le_trans->eg,lt_of_lt_of_le->eT,le_succ->f6,lt_irrefl->jc,ne_of_gt->jg,lt_succ_self->j4,lt_trans->lq,lt_succ_of_lt->ly,le_of_lt->oH,not_lt_zero->oR,add_mul->rY,mod_lt->wG,lt_of_succ_lt_succ->wH,mul_le_mul->wX,not_lt->Fj,sub_zero->Fo,le_antisymm->Fp,le_succ_of_le->Fw,le_of_succ_le->U0,lt_of_le_of_lt->Vk
open Ne renaming symm->aS
open PySem.Heap renaming get?_push_of_some->a5,lt_size->bt,get?_push_size->bU,size_push->g7,get?_update_other->j7,get?_update_self->oM,get?_none_of_le->rG
open Option.some renaming inj->cG
open PySem.Paired renaming length->cK,snoc->gL
open PySem.PassesOwn renaming never->d5
open Array renaming length_toList->f5,getD_eq_getD_getElem?->iF,getElem?_eq_getElem->mU,getElem?_toList->oN,size_append->rP,getElem?_eq_none->rT,toList_inj->we,getElem?_eq_some_iff->wg,find?_toList->UE,mem_of_getElem?->U2,perm_iff_toList_perm->U3,toList_push->U5
open Sum.inr renaming inj->gq
open Int renaming toNat_natCast->gr,eq_ofNat_of_zero_le->gO,emod_nonneg->wV,emod_lt_of_pos->wW,natCast_add->FY,fdiv_eq_ediv_of_nonneg->UD,lt_of_lt_of_le->Vr
open Option renaming map_eq_some_iff->gu,map_some->rF,isSome_iff_exists->rJ,isSome_map->rQ,bind_some->v9,map_map->wU,isSome_some->UW,map_eq_none_iff->Vz
open Bool renaming and_eq_true->gK,eq_iff_iff->lj,and_eq_true_iff->oP,false_eq_true->vX,false_or->wk,or_false->E9
open PySem.F renaming plainAttrs_list->hg,called_set->lx,slot_list_append->mX,type_list_append->mY,store_object->rN,slot_dict_itemiterator_next->rV,plain_any_loop->wm,plain_list_iadd->wJ,slot_dict_items->wL,slot_tuple_add->E4,entry_tuple_add->E5,args_tuple_add_2->E6,slot_tuple_getattribute->Ft,slot_list_mul->FQ,slot_list_pop->FV,type_list_pop->FW,attrBase_ValueError->UX,excBase_ValueError->UY,plain_extend_loop->U9,plain_proto_collect->Va,entry_list_iadd->Vb,slot_tuple_index->Vf,entry_dict_itemiterator_next->Vm,args_dict_itemiterator_next_1->Vn,slot_list_rmul->Vo,slot_int_rmul->Vq,slot_list_index->VE,type_list_index->VF
open PySem.W renaming kia_one->iD,mg_of->jr,any_some->rM,looks_mroIn->v8,plainGet_of->EU,callWith_K->EV,set_plain->UG,kitx_list->UJ,kitx_dict->UK,methodCall_KW->UL,cellsFrom_some->UM
open PySem.Around renaming under_plainId->iE
open List.Perm renaming refl->j9,append_left->U8
open PyProof.Rows renaming slot_tuple_getitem->oL,callWith_type1->vR,assignInOrder_cons->ET,callWith_builtin1->EY
open PySem.Heap.SameBut renaming update->rS
open Prod renaming ext->vV
open PySem.Heap.UpToSlots renaming trans->wB
open PySem.Value renaming isStrOf_shape->EM
open PySem.Code renaming quiet_builtin->Fe
open PyProof.Rows.F renaming plain_set_update_loop->Fx
open PySem.AutoSeq1 renaming wpAny_loadPart'->FH,sub_tuple_tuple->Vg,sub_tuple_list->Vi,sub_list_tuple->Vj
open List.cons renaming inj->FJ
open PySem.Calls renaming Name_function_global->Uy,call_function_entry->Vc
open PySem.Within renaming cons->UH
open List.Pairwise renaming map->Vs
open PySem.SeqAt renaming eqv_refl->VJ
def ao:=@if_neg
def aE:=@if_pos
def b':=@Bool.false_ne_true
def cb:=@decide_eq_true
def c3:=@congrArg
def dA:=@beq_iff_eq
def dJ:=@of_decide_eq_true
def ef:=@decide_eq_false
def g8:=@if_true
def iC:=@beq_eq_false_iff_ne
def jq:=@or_false
def j6:=@if_false
def oO:=@beq_self_eq_true
def v':=@PySem.wpAny_getItem_str_slice
def E':=@PySem.evalArgs_none
def U':=@PySem.F.entry_proto_collect
def VG:=@not_false_eq_true
variable{us its:ac YC}{x n name qual q cn wh:Yj}{u cd Qd pm Qa ct oc vl vu Qb dv:YC}{a b l it D p C f R sl B fI d I fL fD fN fS fE tt fC ow fT M fG dk td db:YY}{o ox ol:abz}{i t' j n1 ep U:Nat}{h h' g base h0:Z6}{items:Array YC}{P prog:PySem.Program}{w:aa6}{e c tg iter value Qp:abg}{L Ps:Yj->List Yj}{J:ac (YY×abz)}{s s' s1 s2:ZI}{ch fp:ac YY}{N ys ns ps Qs N' ks r line NU rn NS:ac Yj}{A:PySem.Around}{E Q:YC->ZI->Prop}{pos Qh Qf Qi tp:PySem.Pos}{K:UP}{st:abf}{es Qg Qv:ac abg}{body:ac abf}{lo m z bg:Int}{dx an od:ad YY}{mA mg:Yj->Option YC}{Qt:Bool}{kw:ac (Yj×YC)}{env:abA}{outer:ac abA}{fd dL dD dN dS dI dW dE dC dT dG dR:PySem.FuncData}{kindOf:Yj->Option PySem.NameKind}{sc scope:PySem.Scope}{Qm:Array (Option YC)}{T:String}{hi:ad Int}{XP:(Yj->Option YC)->Z6->Prop}{YP:aa6->Z6->Prop}{cells:ac (Yj×YY)}{Qe:ac (Option Nat)}{tk:PySem.Tok}{rest rows:ac (List Yj)}{av:YY->Prop}{Qc:ac (Yj×List Yj)}{dn:Yj->Bool}
open PySem
namespace L2
open Spec PyProof.Rows
abbrev Key:=Sum Int Fv
def me:Key->i'->Bool
 |.inl k,v=>ZT k v
 |.inr x,v=>YA x v
def NX(w:Yi):Key->Int
 |.inl k=>hashInt k
 |.inr x=>hashStr w x
theorem iJ:∀{k:Key}{v:i'},me k v=true->(∃i t,k=Zt i/\v=Y5 i t)\/(∃x t,k=n' x/\v=YT x t)
 |.inl i,v,h=>by
  obtain⟨t,e⟩:=aae (k:=i) (v:=v) h;exact .inl ⟨i,t,rfl,e⟩
 |.inr x,v,h=>by
  obtain⟨t,e⟩:=EM (x:=x) (v:=v) h;exact .inr ⟨x,t,rfl,e⟩
theorem HI(i:Int)(t:Tok):me (.inl i) (.int i t)=true:=by simp[me,ZT]
theorem HJ(x:Fv)(t:Tok):me (.inr x) (.str x t)=true:=by simp[me,YA]
theorem Lq(a b:Int):decide ((Zt a:Key)=Zt b)=(a==b):=by
 by_cases e:a=b
 ·subst e;simp
 ·have h : ¬ (Zt a:Key)=Zt b:=λq=>e (Sum.inl.inj q)
  rw[ef h];exact(iC.mpr e).symm
theorem Lr(a b:Fv):decide ((n' a:Key)=n' b)=decide (a=b):=by
 by_cases e:a=b
 ·subst e;simp
 ·have h : ¬ (n' a:Key)=n' b:=λq=>e (gq q)
  rw[ef h,ef e]
theorem Ls(a:Int)(b:Fv):decide ((Zt a:Key)=n' b)=false:=ef (λq=>nomatch q)
theorem Lu(a:Fv)(b:Int):decide ((n' a:Key)=Zt b)=false:=ef (λq=>nomatch q)
def cj(prog:Yc)(w:Yi):PySem.KeyKind prog w Key where
 is:=me
 hash:=NX w
 inj:=λv a b ha hb=>by
  rcases iJ ha with⟨i,t,rfl,rfl⟩|⟨x,t,rfl,rfl⟩
  ·rcases iJ hb with⟨j,u,rfl,e⟩|⟨y,u,rfl,e⟩
   ·injection e with e1 _;rw[e1]
   ·exact nomatch e
  ·rcases iJ hb with⟨j,u,rfl,e⟩|⟨y,u,rfl,e⟩
   ·exact nomatch e
   ·injection e with e1 _;rw[e1]
 byValue:=λk v h=>by
  rcases iJ h with⟨i,t,rfl,rfl⟩|⟨x,t,rfl,rfl⟩ <;> rfl
 pyHash:=λhv h=>by
  rcases iJ hv with⟨i,t,rfl,rfl⟩|⟨x,t,rfl,rfl⟩
  ·exact wpAny_pyHash_int h
  ·exact wpAny_pyHash_str h
 eqBool:=λhu hv h=>by
  rcases iJ hu with⟨i,t,rfl,rfl⟩|⟨x,t,rfl,rfl⟩
  ·rcases iJ hv with⟨j,u,rfl,rfl⟩|⟨y,u,rfl,rfl⟩
   ·rw[Lq]at h;exact wpAny_eqBool_int h
   ·rw[Ls]at h;exact ZH i t y u _ _ _ _ h
  ·rcases iJ hv with⟨j,u,rfl,rfl⟩|⟨y,u,rfl,rfl⟩
   ·rw[Lu]at h;exact ZG x t j u _ _ _ _ h
   ·rw[Lr]at h;exact EN h
 «strs» :=λk x t v h=>by
  rcases iJ h with⟨i,u,rfl,e⟩|⟨y,u,rfl,e⟩
  ·exact nomatch e
  ·injection e with e1 _
   subst e1;cases v <;> rfl
theorem Gx(prog:Yc)(w:Yi)(i:Int)(t:Tok):(cj prog w).is (.inl i) (.int i t)=true:=HI i t
theorem Gy(prog:Yc)(w:Yi)(x:Fv)(t:Tok):(cj prog w).is (.inr x) (.str x t)=true:=HJ x t
inductive V where
 |aK|bl (b:Bool)|int (i:Int)|str (x:Fv)|fZ (b:Array UInt8)|jT (b:UInt64)|ref (a:EZ)|ty (n:String)
 deriving DecidableEq
def RelV:V->i'->Prop
 |.aK,u=>u=VB
 |.bl b,u=>u=YG b
 |.int i,u=>∃t,u=Y5 i t
 |.str x,u=>∃t,u=YT x t
 |.fZ b,u=>∃t,u=aa5 b t
 |.jT b,u=>∃t,u=ZU b t
 |.ref a,u=>u=UR a
 |.ty n,u=>u=Ye n
abbrev Vals:List V->List i'->Prop:=VM RelV
theorem Vals.length{xs:ac V}(r:Vals xs us):xs.length=us.length:=cK r
theorem Vals.get:∀{xs:ac V}{us:ac i'}{i:Nat}{x:V},Vals xs us->xs[i]?=ih x ->∃u,us[i]?=ih u/\RelV x u
 |_,_,_,_,.nil,e=>by simp at e
 |_,_,0,_,.cons r _,e=>by simp at e;subst e;exact⟨_,rfl,r⟩
 |_,_,i+1,x,.cons _ t,e=>by
  obtain⟨u,h1,h2⟩:=Vals.get (i:=i) (x:=x) t (by simpa using e)
  exact⟨u,by simpa using h1,h2⟩
theorem Vals.set{x:V}{u:i'}(r:RelV x u):∀{xs:ac V}{us:ac i'} (i:Nat),Vals xs us->Vals (xs.set i x) (us.set i u)
 |_,_,_,.nil=>.nil
 |_,_,0,.cons _ t=>.cons r t
 |_,_,i+1,.cons q t=>.cons q (Vals.set r i t)
theorem Vals.append:∀{xs ys:ac V}{us ws:ac i'},Vals xs us->Vals ys ws->Vals (xs++ys) (us++ws)
 |_,_,_,_,.nil,s=>s
 |_,_,_,_,.cons r t,s=>.cons r (Vals.append t s)
theorem Vals.take:∀{xs:ac V}{us:ac i'} (n:Nat),Vals xs us->Vals (xs.take n) (us.take n)
 |_,_,0,_=>.nil
 |_,_,_+1,.nil=>.nil
 |_,_,n+1,.cons r t=>.cons r (Vals.take n t)
theorem Vals.drop:∀{xs:ac V}{us:ac i'} (n:Nat),Vals xs us->Vals (xs.drop n) (us.drop n)
 |_,_,0,r=>r
 |_,_,_+1,.nil=>.nil
 |_,_,n+1,.cons _ t=>Vals.drop n t
def er:Option V->Option i'->Prop
 |some v,ih u=>RelV v u
 |none,none=>True
 |_,_=>False
def KV{κ:Type}:List (κ×V)->List (κ×i')->Prop:=VM λ(p:κ×V) (q:κ×i')=>p.1=q.1/\RelV p.2 q.2
def kV:Key->V
 |.inl i=>.int i
 |.inr x=>.str x
inductive HO where
 |lst (xs:List V)
 |tup (xs:List V)
 |dK (kvs:List (Key×V))|dT (kvs:List (List Key×V))
 |set (S:Int->Bool) (n:Nat)
 |ins (C dx:EZ) (fs:List (Fv×V))
 |own (x:EZ)
 |xd (fs:List (Fv×V))
 |met (f x:EZ)
 |oq (lo hi:Int)
 |bu (o:Yy) (u:HO)
 |i6 (ps:Array i')
 |ext (φ:X8->Prop)
abbrev a2(x:List V):Option HO:=ih (.tup x)
abbrev bd(x:List V):Option HO:=ih (.lst x)
abbrev bn(x:List (Key×V)):Option HO:=ih (.dK x)
abbrev ce(x:List (List Key×V)):Option HO:=ih (.dT x)
abbrev am(x:EZ):Option V:=ih (.ref x)
abbrev Hp:=EZ->Option HO
def upd(H:Hp)(a:EZ)(o:HO):Hp:=λb=>if b=a then ih o else H b
theorem af{H:Hp}{o:HO}:upd H a o a=ih o:=by unfold upd;rw[aE rfl]
theorem ag{H:Hp}{o:HO}(h:b≠a):upd H a o b=H b:=by unfold upd;rw[ao h]
theorem fh{H:Hp}{o u:HO}:upd (upd H a o) a u=upd H a u:=by
 funext b;unfold upd;split <;> rfl
theorem jz{l:ac Fv}{x:V}(h:(l.map V.str)[i]?=ih x):∃h:i<l.length,V.str l[i]=x:=by
 have a:i<l.length:=by simpa using (bZ.mp h).1
 exact⟨a,by simpa [a] using h⟩
theorem aq{H:Hp}{o u:HO}(h:H a=ih o)(h':H b=ih u)(d:o≠u:=by intro z;cases z):a≠b:=by
 intro e;subst e;rw[h]at h';exact d (cG h')
theorem ax{H:Hp}{o:HO}(h:H a=ih o)(h':H b=none):a≠b:=by
 intro e;subst e;rw[h]at h';cases h'
def i1(h:X8)(a:EZ)(items:Array i'):Prop:= ∃o,h.get? a=ih o/\o.cls=.type "tuple" /\∃n,o.data=.seq items n/\o.dict=none
theorem i1.is(x:i1 h a items):Yv h a items:=let ⟨o,e,c,n,d,_⟩:=x;⟨o,e,c,n,d⟩
theorem i1.new(h:X8)(items:Array i'):i1 (h.push { cls:=.type "tuple",data:=.seq items }) h.objs.size items:=⟨_,bU _ rfl,rfl,_,rfl,rfl⟩
section
variable(P:Yc)(w:Yi)
def bC(H:Hp)(h:X8)(a:EZ):HO->Prop
 |.lst xs=>xs.length<=UB /\∃(its:List i') (n:Nat),Vals xs its/\h.get? a=ih { cls:=.type "list",data:=.seq its.toArray n }
 |.tup xs=>xs.length<=UB /\∃its:List i',Vals xs its/\i1 h a its.toArray
 |.dK kvs=>kvs.length<=UB/\(a==sysModules)=false /\∃vs,KV kvs vs/\h.DictOf (cj P w) a vs
 |.dT kvs=>kvs.length<=UB/\(a==sysModules)=false /\∃xs:List (List Key×EZ×i'),
   VM (λ(p:List Key×V) (q:List Key×EZ×i')=>p.1=q.1/\H q.2.1=ih (.tup (p.1.map kV))/\RelV p.2 q.2.2) kvs xs /\
   ∃o es ep,h.get? a=ih o/\o.ExactDict/\o.data=.dict es ep/\es.toList=xs.map (entryOfKey (tupleKind (cj P w)))/\(xs.map (·.1)).Nodup
 |.set S n=>h.SetOf (intKind P w) a S n
 |.ins C dx fs=>H dx=ih (.own a)/\fs.length<=1000/\dx≠a/\h.get? a=ih (Yg C dx) /\
   ∃mA,h.Ns1 dx mA/\(∀f,er (fs.lookup f) (mA f))/\YD mA (fs.map (·.1))
 |.own _=>∃o,h.get? a=ih o
 |.xd fs=>∃mA,h.Ns1 a mA /\∀f,er (fs.lookup f) (mA f)
 |.oq lo hi=>∃t u v,h.get? a=ih { cls:=.type "range",data:=.fields #[.int lo t,.int hi u,.int 1 v] }
 |.bu o u=>h.get? a=ih o/\bC H h a u
 |.i6 ps=>h.get? a=ih { cls:=.none,data:=.fields ps }
 |.met f x=>h.get? a=ih (Zj (.ref f) (.ref x))
 |.ext φ=>φ h/\(∃o,h.get? a=ih o) /\∀h1 h2:X8,φ h1->(∀o,h1.get? a=ih o->h2.get? a=ih o)->φ h2
def cm(H:Hp)(h:X8):Prop:= ∀a o,H a=ih o->bC P w H h a o
end
section
variable{H H':Hp}{o:HO}
theorem bC.lt(x:bC P w H h a o):a<h.objs.size:=by
 cases o with
 |lst xs=>obtain⟨_,_,_,_,e⟩:=x;exact bt e
 |tup xs=>obtain⟨_,_,_,p⟩:=x;exact p.is.lt
 |dK kvs=>obtain⟨_,_,_,_,o,_,_,e,_⟩:=x;exact bt e
 |dT kvs=>obtain⟨_,_,_,_,o,_,_,e,_⟩:=x;exact bt e
 |set S n=>obtain⟨o,_,_,_,e,_⟩:=x;exact bt e
 |ins C dx fs=>obtain⟨_,_,_,e,_⟩:=x;exact bt e
 |own y=>obtain⟨_,e⟩:=x;exact bt e
 |xd fs=>obtain⟨_,⟨_,_,_,e,_⟩,_⟩:=x;exact bt e
 |oq lo hi=>obtain⟨_,_,_,e⟩:=x;exact bt e
 |bu b u=>obtain⟨e,_⟩:=x;exact bt e
 |i6 ps=>exact bt (show h.get? a=ih _ from x)
 |met f y=>exact bt (show h.get? a=ih _ from x)
 |ext c=>obtain⟨_,⟨_,e⟩,_⟩:=x;exact bt e
theorem Paired.qw{α β:Type}{F G:α->β->Prop}:∀{c:ac α}{d:ac β},VM F c d->(∀a b,F a b->G a b)->VM G c d
 |_,_,.nil,_=>.nil
 |_,_,.cons r t,f=>.cons (f _ _ r) (Paired.qw t f)
theorem Paired.imp'{α β:Type}{F G:α->β->Prop}(f:∀a b,F a b->G a b){c:ac α}{d:ac β}(r:VM F c d):VM G c d:=Paired.qw r f
theorem bC.et(x:bC P w H h a o)(k:∀b u,(b=a\/H b=ih (.own a))->h.get? b=ih u->h'.get? b=ih u)
  (i:∀b,H b=ih (.own a)->H' b=ih (.own a)) (j:∀b xs,H b=a2 xs->H' b=a2 xs):bC P w H' h' a o:=by
 induction o with
 |lst xs=>obtain⟨z,its,n,r,e⟩:=x;exact⟨z,its,n,r,k _ _ (.inl rfl) e⟩
 |tup xs=>obtain⟨z,its,r,g,e,c⟩:=x;exact⟨z,its,r,g,k _ _ (.inl rfl) e,c⟩
 |dK kvs=>obtain⟨z,y,vs,r,g,es,ep,e,c⟩:=x;exact⟨z,y,vs,r,g,es,ep,k _ _ (.inl rfl) e,c⟩
 |dT kvs =>
  obtain⟨z,y,xs,r,g,es,ep,e,c⟩:=x;exact⟨z,y,xs,Paired.qw r λp q z=>⟨z.1,j _ _ z.2.1,z.2.2⟩,g,es,ep,k _ _ (.inl rfl) e,c⟩
 |set S n=>obtain⟨g,es,ep,t,e,c⟩:=x;exact⟨g,es,ep,t,k _ _ (.inl rfl) e,c⟩
 |ins C dx fs =>
  obtain⟨d,z,ne,e,mA,⟨od,es,ep,e2,c⟩,r⟩:=x;exact⟨i _ d,z,ne,k _ _ (.inl rfl) e,mA,⟨od,es,ep,k _ _ (.inr d) e2,c⟩,r⟩
 |own y=>obtain⟨g,e⟩:=x;exact⟨g,k _ _ (.inl rfl) e⟩
 |xd fs=>obtain⟨mA,⟨od,es,ep,e,c⟩,r⟩:=x;exact⟨mA,⟨od,es,ep,k _ _ (.inl rfl) e,c⟩,r⟩
 |oq lo hi=>obtain⟨t,u,v,e⟩:=x;exact⟨t,u,v,k _ _ (.inl rfl) e⟩
 |bu g u l=>obtain⟨e,q⟩:=x;exact⟨k _ _ (.inl rfl) e,l q⟩
 |i6 ps =>
  have e:h.get? a=ih { cls:=.none,data:=.fields ps }:=x;show h'.get? a=ih { cls:=.none,data:=.fields ps };exact k a _ (.inl rfl) e
 |met f y =>
  have e:h.get? a=ih (Zj (.ref f) (.ref y)):=x;show h'.get? a=ih (Zj (.ref f) (.ref y));exact k a _ (.inl rfl) e
 |ext m=>obtain⟨p,⟨o,e⟩,st⟩:=x;exact⟨st _ _ p λo q=>k _ _ (.inl rfl) q,⟨o,k _ _ (.inl rfl) e⟩,st⟩
theorem cm.lt(x:cm P w H h)(e:H a=ih o):a<h.objs.size:=(x a o e).lt
theorem cm.fresh(x:cm P w H h)(e:h.objs.size<=a):H a=none:=by
 cases q:H a with
 |none=>rfl
 |some u=>exact absurd (eT (x.lt q) e) (jc _)
theorem cm.kept(x:cm P w H h)(k:∀b u,h.get? b=ih u->h'.get? b=ih u):cm P w H h':=λa o e =>
 (x a o e).et (λb u _ q=>k b u q) (λ_ q=>q) λ_ _ q=>q
theorem cm.laid(x:cm P w H h)(k:∀b u,h.get? b=ih u->h'.get? b=ih u)(g:h.objs.size<=a)(new:bC P w (upd H a o) h' a o):cm P w (upd H a o) h':=λb u e=>by
 have d:=x.fresh g
 by_cases f:b=a
 ·subst f;rw[af]at e;cases e;exact new
 ·rw[ag f]at e
  exact(x b u e).et (λc v _ q=>k c v q) (λc q=>by rw[ag (ax q d)];exact q) λc xs q=>by rw[ag (ax q d)];exact q
end
def Rd(H:Hp)(a:EZ)(u:HO):Prop:=H a=ih u \/∃o,H a=ih (.bu o u)
theorem Rd.of{H:Hp}{u:HO}(h:H a=ih u):Rd H a u:=.inl h
theorem Rd.ok{H:Hp}{u:HO}(r:Rd H a u)(x:cm P w H h):bC P w H h a u:=by
 rcases r with r|⟨o,r⟩
 ·exact x a u r
 ·obtain⟨_,q⟩:=x a _ r
  exact q
def ot:Option HO->Prop
 |some (.lst _)=>True
 |some (.dK _)=>True
 |some (.dT _)=>True
 |some (.set _ _)=>True
 |some (.ins _ _ _)=>True
 |some (.ext _)=>True
 |_=>False
section
variable{H:Hp}{x e:EZ}{o':HO}
theorem cm.write(ok:cm P w H h)(d:ot (H x))(i:e=x\/H e=ih (.own x))(k:∀b u,b≠e->h.get? b=ih u->h'.get? b=ih u)(m:∃u,h'.get? e=ih u)
  (new:bC P w (upd H x o') h' x o'):cm P w (upd H x o') h':=λb u q=>by
 have g:∀c y,H c=ih (.own y)->c≠x:=λc y r z=>by subst z;rw[r]at d;exact d
 have l:∀c xs,H c=a2 xs->c≠x:=λc xs r z=>by subst z;rw[r]at d;exact d
 by_cases f:b=x
 ·subst f;rw[af]at q;cases q;exact new
 ·rw[ag f]at q
  by_cases a:b=e
  ·have j:H b=ih (.own x):=by
    rcases i with z|z
    ·exact absurd (a.trans z) f
    ·rw[a];exact z
   rw[q]at j;cases j;obtain⟨v,n⟩:=m;exact⟨v,by rw[a];exact n⟩
  ·refine(ok b u q).et (λc v hc r=>k c v ?_ r) (λc r=>by rw[ag (g c b r)];exact r) λc xs r=>by rw[ag (l c xs r)];exact r
   rcases hc with rfl|hc
   ·exact a
   ·rintro rfl
    rcases i with z|z
    ·exact g c b hc z
    ·rw[hc]at z;cases z;exact f rfl
end
structure Un(fs ex:List EZ)(H H':Hp)(h h':X8):Prop where
 keep:∀b o,h.get? b=ih o->H b=none->b ∉ fs->b ∉ ex->h'.get? b=ih o
 slot:∀b o,h.get? b=ih o->H b=none->b∈fs->b ∉ ex ->∃sl,h'.get? b=ih { o with slots:=sl }
 free:∀b o,h.get? b=ih o->H b=none->b ∉ ex->H' b=none
 there:∀b o,h.get? b=ih o->b ∉ ex ->∃o',h'.get? b=ih o'
 gg:∀b xs,H b=ih (.tup xs)->H' b=ih (.tup xs)
 gC:∀b o u,H b=ih (.bu o u)->H' b=ih (.bu o u)
 gR:∀b ps,H b=ih (.i6 ps) ->∃NY,H' b=ih (.i6 (ps++NY))
section
variable{fs Qo ex Zf:ac EZ}{H Y H2:Hp}{h1 h2:X8}{x e:EZ}{o:HO}
theorem Un.any(u:Un fs ex H Y h h1){a:Yy}(q:h.get? b=ih a)(n:H b=none)(c:b ∉ ex):∃sl,h1.get? b=ih { a with slots:=sl }:=by
 by_cases d:b∈fs
 ·exact u.slot b a q n d c
 ·exact⟨a.slots,u.keep b a q n d c⟩
theorem Un.kept(k:∀b u,h.get? b=ih u->h'.get? b=ih u):Un fs ex H H h h':=
 ⟨λb a q _ _ _=>k b a q,λb a q _ _ _=>⟨a.slots,k b a q⟩,λ_ _ _ n _=>n,λb a q _=>⟨a,k b a q⟩,λ_ _ q=>q,λ_ _ _ q=>q,λ_ ps q=>⟨#[],by rw[q];simp⟩⟩
theorem Un.refl:Un fs ex H H h h:=Un.kept λ_ _ q=>q
theorem Un.laid(k:∀b u,h.get? b=ih u->h'.get? b=ih u)(d:h.objs.size<=a)(c:H a=none):Un fs ex H (upd H a o) h h' where
 keep:=λb u q _ _ _=>k b u q
 slot:=λb u q _ _ _=>⟨u.slots,k b u q⟩
 free:=λb u q n _=>by rw[ag (bK (eT (bt q) d))];exact n
 there:=λb u q _=>⟨u,k b u q⟩
 gg:=λb xs q=>by rw[ag (ax q c)];exact q
 gC:=λb u xs q=>by rw[ag (ax q c)];exact q
 gR:=λb ps q=>⟨#[],by rw[ag (ax q c),q];simp⟩
theorem Un.write(a:ot (H x))(j:e=x\/H e=ih (.own x))(k:∀b u,b≠e->h.get? b=ih u->h'.get? b=ih u)(i:∃u,h'.get? e=ih u):Un fs ex H (upd H x o) h h':=by
 have f:∀b,H b=none->b≠x:=λb n z=>by subst z;rw[n]at a;exact a
 have g:∀b,H b=none->b≠e:=λb n z=>by
  subst z;rcases j with r|r
  ·exact f b n r
  ·rw[n]at r;cases r
 have c:∀b u,H b=ih u ->¬ ot (ih u)->b≠x:=λb u q l z=>by subst z;rw[q]at a;exact l a
 refine⟨λb u q n _ _=>k b u (g b n) q,λb u q n _ _=>⟨u.slots,k b u (g b n) q⟩,λb u q n _=>by rw[ag (f b n)];exact n,λb u q _=>?_,
  λb xs q=>by rw[ag (c b _ q λz=>z)];exact q,λb u xs q=>by rw[ag (c b _ q λz=>z)];exact q,λb ps q=>⟨#[],by rw[ag (c b _ q λz=>z),q];simp⟩⟩
 by_cases d:b=e
 ·subst d;exact i
 ·exact⟨u,k b u d q⟩
end
def gX(h:X8)(H:Hp):List EZ:=(VD h.objs.size).filter λa=>(H a).isSome
def i2(h:X8)(H:Hp):X8:=PySem.W.hideAll h (gX h H)
theorem HK(h:X8)(H:Hp):(i2 h H).objs.size=h.objs.size:=PySem.W.hideAll_size _ _
theorem IQ{H:Hp}(e:h.get? b=ih o)(n:H b=none):(i2 h H).get? b=ih o:=
 PySem.W.hideAll_get _ e λa=>by
  have q:(H b).isSome=true:=(fc.mp a).2;rw[n]at q;simp at q
theorem JV{H:Hp}(e:(i2 h H).get? b=ih o):h.get? b=ih o/\H b=none:=by
 have a:h.get? b=ih o:=PySem.W.of_hideAll (gX h H) e;refine⟨a,?_⟩;cases q:H b with
 |none=>rfl
 |some x =>
  have c:b∈gX h H:=fc.mpr ⟨jd.mpr (bt a),by simp[q]⟩
  have z:(i2 h H).get? b=none:=PySem.W.hideAll_none (gX h H) c;rw[z]at e;cases e
def tj(g h:X8)(L:EZ):List (EZ×Yy):=(VD h.objs.size).filterMap λa=>if a=L\/(g.get? a).isSome=true then none else (h.get? a).map λo=>(a,o)
theorem w7{L:EZ}(h1:a≠L)(h2:g.get? a=none)(b:h.get? a=ih o):(a,o)∈tj g h L:=
 oG.mpr ⟨a,jd.mpr (bt b),by simp[h1,h2,b]⟩
theorem r1{L:EZ}{p:EZ×Yy}(c:p∈tj g h L):p.1≠L/\g.get? p.1=none/\h.get? p.1=ih p.2:=by
 obtain⟨b,_,e⟩:=oG.mp c;split at e
 ·cases e
 ·rename_i a
  cases q:h.get? b with
  |none=>rw[q]at e;simp at e
  |some u =>
   rw[q]at e;simp only[rF,ab8]at e;subst e;refine⟨λz=>a (.inl z),?_,q⟩;show g.get? b=none;cases r:g.get? b with
   |none=>rfl
   |some v=>exact(a (.inr (by simp[r]))).elim
theorem IS{L:EZ}:News g L h (tj g h L):=λp d=>let ⟨a,b,c⟩:=r1 d;⟨c,a,b⟩
structure Mod(K:UP)(mg:Fv->Option i')(base:X8):Prop where
 k6:K.In base
 glob:base.Ns UU mg
 blt:∃mb,base.Ns builtinsNs mb /\∀x:Fv,x ≠ "__name__" -> mb x=Vh x
 nolimit:base.NoLimit
structure Cx where
 prog:Yc
 w:Yi
 K:UP
 mg:Fv->Option i'
 base:X8
 A:Yk
 N:List Fv
 d7:Ux
 gS:Hp
 env:Zs
 outer:List Zs
 stack:List Zs
 ex:List EZ
 fn:Fv->Bool
 calm:Bool
 pn:List (EZ×Yy)
 xe:i'->Ux->Prop
abbrev Cx.c2(X:Cx):=UO X.prog X.w
abbrev wA{α:Type}(X:Cx):=Uz (α:=α) X.c2 X.A
end L2
abbrev PySem.Shared.ai(s:ZI):YY:=s.heap.objs.size
namespace L2
open Spec PyProof.Rows W
def ea(l:List Zs):List EZ:=l.filterMap (·.frame)
abbrev Cx.fs(X:Cx):List EZ:=ea X.outer
def vj(sc:YW)(x:Fv):Prop:=sc.names.lookup x=ih .local\/sc.names.lookup x=ih .cell\/sc.names.lookup x=ih .free
def Loc(sc:YW)(x:Fv):Prop:=sc.names.lookup x=ih .local\/sc.names.lookup x=ih .cell
def Look(env:Zs)(h:X8)(m:Fv->Option i')(x:Fv)(u:i'):Prop:=
 (env.kindOf x=ih .local/\m x=ih u)\/((env.kindOf x=ih .cell\/env.kindOf x=ih .free) /\∃c,env.cells.lookup x=ih c/\h.IsCell c (ih u))
structure Cx.Ok(X:Cx):Prop where
 mod:Mod X.K X.mg X.base
 kind:X.env.scope.kind=.function
 glob:X.env.globals=UU
 blt:X.env.builtins=builtinsNs
 above:X.d7.heap.objs.size<=X.env.locals
 inj:∀x y c,X.env.cells.lookup x=ih c->X.env.cells.lookup y=ih c->x=y
 has:∀x,(X.env.kindOf x=ih .cell\/X.env.kindOf x=ih .free) ->∃c,X.env.cells.lookup x=ih c
 jU:∀x c,X.fn x=true->X.env.cells.lookup x=ih c->X.d7.heap.objs.size<=c
 hd:X.calm=true->X.A.handled=none
 frames:X.A.frames=ih X.stack
 k7:X.stack=X.outer\/(X.stack=X.env::X.outer/\X.env.frame=ih X.env.locals)
 i7:∀b∈X.ex,b≠X.env.locals /\∀x c,X.env.cells.lookup x=ih c->c≠b
 bs:∀b o,X.base.get? b=ih o->X.d7.heap.get? b=ih o/\X.gS b=none
 hT:X.base.objs.size<=X.d7.heap.objs.size
 jL:∀b o,X.base.get? b=ih o->b ∉ X.ex
 i3:∀b∈X.ex,b ∉ X.fs
 ft:X.d7.heap.FunFrames X.base X.outer
 iy:∀b∈X.fs,X.gS b=none
structure Inv(X:Cx)(J:List (EZ×Yy))(σ:List (Option V))(H:Hp)(s:Ux):Prop where
 ok:X.Ok
 os:s.os=X.d7.os
 bare:Y6 s.gens
 base:Un X.fs X.ex X.gS H X.d7.heap s.heap
 loc:∃m,s.heap.Ns X.env.locals m /\∀(i:Nat) (x:Fv) (v:V),X.N[i]?=ih x->σ[i]?=ih (ih v)->vj X.env.scope x ->∃u,RelV v u/\Look X.env s.heap m x u
 cell:∀x c,X.env.cells.lookup x=ih c ->∃v,s.heap.IsCell c v
 free:H X.env.locals=none
 eP:∀x c,X.env.cells.lookup x=ih c->H c=none
 pin:∀p∈X.pn++J,s.heap.get? p.1=ih p.2/\H p.1=none/\p.1≠X.env.locals/\p.1 ∉ X.fs /\∀v,p.2.data ≠ .cell v
 aH:cm X.prog X.w H s.heap
 len:σ.length=X.N.length
section
variable{X:Cx}{σ:ac (Option V)}{H H':Hp}
theorem Cx.Ok.qx(ok:X.Ok)(e:X.base.get? b=ih o):b ∉ X.fs:=λa=>by
 have:=(ok.ft.mem a).1;rw[e]at this;cases this
theorem Inv.bs(I:Inv X J σ H s):∀b o,X.base.get? b=ih o->s.heap.get? b=ih o/\H b=none:=λb o e =>
 ⟨I.base.keep b o (I.ok.bs b o e).1 (I.ok.bs b o e).2 (I.ok.qx e) (I.ok.jL b o e),I.base.free b o (I.ok.bs b o e).1 (I.ok.bs b o e).2 (I.ok.jL b o e)⟩
theorem Inv.bk(I:Inv X J σ H s):∀b o,X.base.get? b=ih o->s.heap.get? b=ih o:=λb o e=>(I.bs b o e).1
theorem Inv.mod(I:Inv X J σ H s):Mod X.K X.mg X.base:=I.ok.mod
theorem Inv.bS(I:Inv X J σ H s):X.K.In s.heap:=I.ok.mod.k6.keeps I.bk
theorem Inv.lt(I:Inv X J σ H s):X.env.locals<s.ai:=let ⟨_,a,_⟩:=I.loc;a.lt
theorem Inv.sz(I:Inv X J σ H s):X.d7.heap.objs.size<=s.ai:=eg I.ok.above (oH I.lt)
theorem Inv.NZ(I:Inv X J σ H s)(h:s.ai<=a):a ∉ X.fs:=λb=>by
 obtain⟨_,o,c,_⟩:=I.ok.ft.mem b;exact absurd (eT (bt c) (eg I.sz h)) (jc _)
theorem Inv.hU(I:Inv X J σ H s):∀x c,X.env.cells.lookup x=ih c->c≠X.env.locals:=λx c e z=>by
 obtain⟨v,o,a,b⟩:=I.cell x c e;obtain⟨m,⟨o',es,ep,d,f,_⟩,_⟩:=I.loc;rw[z,d]at a;cases a;rw[f]at b;cases b
theorem Inv.ft(I:Inv X J σ H s):s.heap.FunFrames X.base X.outer:=by
 have all:∀(l:ac Zs),(∀b∈ea l,b∈X.fs)->X.d7.heap.FunFrames X.base l->s.heap.FunFrames X.base l:=by
  intro l
  induction l with
  |nil=>intro _ _;trivial
  |cons env r g =>
   intro f h;obtain⟨i,⟨L,o,a,j,k,m⟩,n⟩:=h;have c:L∈X.fs:=f L (by unfold ea;rw[EO,a];exact aW)
   obtain⟨sl,e⟩:=I.base.slot L o k (I.ok.iy L c) c λz=>I.ok.i3 L z c;exact⟨i,⟨L,_,a,j,e,m⟩,g (λb d=>f b (by unfold ea;rw[EO,a];exact ba _ d)) n⟩
 exact all X.outer (λ_ d=>d) I.ok.ft
theorem Inv.stack(I:Inv X J σ H s):s.heap.FunFrames X.base X.stack:=by
 rcases I.ok.k7 with e|⟨e,a⟩
 ·rw[e];exact I.ft
 ·rw[e]
  obtain⟨m,b,_⟩:=I.loc;refine .cons (by rw[I.ok.kind];decide) a b ?_ I.ft
  exact rG (eg I.ok.hT I.ok.above)
theorem Inv.pW(I:Inv X J σ H s):∀b∈ea X.stack,b∈X.env.locals::X.fs:=λb a=>by
 rcases I.ok.k7 with e|⟨e,c⟩
 ·rw[e]at a;exact ba _ a
 ·rw[e]at a
  unfold ea at a;rw[EO,c]at a;exact a
theorem Inv.tm(I:Inv X J σ H s):∀b∈ea X.stack,H b=none:=λb hb=>by
 rcases bH.mp (I.pW b hb) with e|hb
 ·rw[e];exact I.free
 ·obtain⟨_,o,a,_⟩:=I.ok.ft.mem hb
  exact I.base.free b o a (I.ok.iy b hb) λz=>I.ok.i3 b z hb
theorem Inv.step{g':Array ZR}{d':Drawn}(I:Inv X J σ H s)
  (h:∀b∈ch,(b∈X.ex\/X.d7.heap.objs.size<=b)/\b≠X.env.locals/\(∀x c,X.env.cells.lookup x=ih c->c≠b) /\∀p∈X.pn++J,p.1≠b)
  (keep:∀b o,b≠X.env.locals->b ∉ X.fs->b ∉ ch->s.heap.get? b=ih o->H b=none->h'.get? b=ih o)
  (B:∀b o,b≠X.env.locals->b∈X.fs->b ∉ ch->s.heap.get? b=ih o->H b=none ->∃sl,h'.get? b=ih { o with slots:=sl }) (free:∀b o,b ∉ ch->s.heap.get? b=ih o->H b=none->H' b=none)
  (there:∀b o,b ∉ ch->s.heap.get? b=ih o ->∃o',h'.get? b=ih o')
  (G:∀b xs,H b=a2 xs->H' b=a2 xs) (K:∀b o u,H b=ih (.bu o u)->H' b=ih (.bu o u)) (L:∀b ps,H b=ih (.i6 ps) ->∃M,H' b=ih (.i6 (ps++M)))
  (ns:∀m,s.heap.Ns X.env.locals m->h'.Ns X.env.locals m) (N:cm X.prog X.w H' h') (P:Y6 g') :
  Inv X J σ H' { s with heap:=h',gens:=g',drawn:=d',toks:=t' }:=by
 have C:∀b o,X.d7.heap.get? b=ih o->b≠X.env.locals:=λb o e=>bK (eT (bt e) I.ok.above);have t:∀b o,X.d7.heap.get? b=ih o->b ∉ X.ex->b ∉ ch:=λb o e a f=>by
  rcases (h b f).1 with z|z
  ·exact a z
  ·exact absurd (eT (bt e) z) (jc _)
 have A:∀x c,X.env.cells.lookup x=ih c ->∀v,s.heap.IsCell c v->h'.IsCell c v:=λx c e v ⟨o,g,y⟩=>by
  have j:c ∉ ch:=λz=>(h c z).2.2.1 x c e rfl
  by_cases D:c∈X.fs
  ·obtain⟨sl,q⟩:=B c o (I.hU x c e) D j g (I.eP x c e)
   exact⟨_,q,y⟩
  ·exact⟨o,keep c o (I.hU x c e) D j g (I.eP x c e),y⟩
 refine⟨I.ok,I.os,P,⟨λb o e n f a=>?_,λb o e n f a=>?_,λb o e n a=>?_,λb o e a=>?_,λb xs e=>G b xs (I.base.gg b xs e),λb o xs e=>K b o xs (I.base.gC b o xs e),λb ps e=>?_⟩,?_,λx c e=>?_,?_,λx c e=>?_,λp E=>?_,N,I.len⟩
 ·exact keep b o (C b o e) f (t b o e a) (I.base.keep b o e n f a) (I.base.free b o e n a)
 ·obtain⟨sl,e1⟩:=I.base.slot b o e n f a
  obtain⟨O,e2⟩:=B b _ (C b o e) f (t b o e a) e1 (I.base.free b o e n a);exact⟨O,e2⟩
 ·obtain⟨o',e1⟩:=I.base.there b o e a
  exact free b o' (t b o e a) e1 (I.base.free b o e n a)
 ·obtain⟨o',e1⟩:=I.base.there b o e a
  exact there b o' (t b o e a) e1
 ·obtain⟨Q,e1⟩:=I.base.gR b ps e
  obtain⟨R,e2⟩:=L b _ e1;exact⟨Q++R,by rw[e2,Array.append_assoc]⟩
 ·obtain⟨m,S,T⟩:=I.loc
  refine⟨m,ns m S,λi x v e1 e2 e3=>?_⟩;obtain⟨u,r,l⟩:=T i x v e1 e2 e3;refine⟨u,r,?_⟩;rcases l with l|⟨k,c,e,z⟩
  ·exact .inl l
  ·exact .inr ⟨k,c,e,A x c e _ z⟩
 ·obtain⟨v,z⟩:=I.cell x c e
  exact⟨v,A x c e v z⟩
 ·obtain⟨m,⟨o,_,_,g,_⟩,_⟩:=I.loc
  exact free _ o (λz=>(h _ z).2.1 rfl) g I.free
 ·obtain⟨v,o,g,y⟩:=I.cell x c e
  exact free c o (λz=>(h c z).2.2.1 x c e rfl) g (I.eP x c e)
 ·obtain⟨e,n,ne,F,d⟩:=I.pin p E
  have j:p.1 ∉ ch:=λz=>(h p.1 z).2.2.2 p E rfl;exact⟨keep p.1 p.2 ne F j e n,free p.1 p.2 j e n,ne,F,d⟩
theorem Inv.un(I:Inv X J σ H s)(u:Un X.fs [] H H' s.heap h')(f:cm X.prog X.w H' h'):Inv X J σ H' { s with heap:=h',toks:=t' }:=by
 obtain⟨m,⟨o,es,ep,d,r⟩,_⟩:=id I.loc;obtain⟨sl,i⟩:=u.any d I.free (by simp)
 exact I.step (g':=s.gens) (d':=s.drawn) (ch:=[]) (λ_ z=>nomatch z) (λb o _ a _ e n=>u.keep b o e n a (by simp)) (λb o _ a _ e n=>u.slot b o e n a (by simp)) (λb o _ e n=>u.free b o e n (by simp)) (λb o _ e=>u.there b o e (by simp)) u.gg u.gC u.gR (λl j=>by
  obtain⟨o',g,h,c,k⟩:=j;rw[d]at c;cases c;exact⟨_,g,h,i,k⟩) f I.bare
theorem Inv.call{g':Array ZR}{d':Drawn}(I:Inv X J σ H s)(u:Un (ea X.stack) ch H H' s.heap h')(i:cm X.prog X.w H' h')(l:Y6 g')
  (f:∀b∈ch,(b∈X.ex\/X.d7.heap.objs.size<=b)/\b≠X.env.locals/\(∀x c,X.env.cells.lookup x=ih c->c≠b) /\∀p∈X.pn++J,p.1≠b) :
  Inv X J σ H' { s with heap:=h',gens:=g',drawn:=d',toks:=t' }:=by
 obtain⟨m,⟨o,es,ep,h,r⟩,_⟩:=id I.loc;obtain⟨sl,d⟩:=u.any h I.free λz=>(f _ z).2.1 rfl;exact I.step (ch:=ch) f (λb o d q a e n=>u.keep b o e n (λz=>(bH.mp (I.pW b z)).elim d q) a) (λb o _ _ a e n=>u.any e n a) (λb o a e n=>u.free b o e n a) (λb o a e=>u.there b o e a) u.gg u.gC u.gR (λy t=>by
  obtain⟨o',j,k,g,v⟩:=t;rw[h]at g;cases g;exact⟨_,j,k,d,v⟩) i l
theorem Inv.turned(I:Inv X J σ H s)(k:∀b o,b≠it->s.heap.get? b=ih o->h'.get? b=ih o)(g:H it=none)(f:it≠X.env.locals)
  (h1:it∈X.ex\/X.d7.heap.objs.size<=it) (h2:∀x c,X.env.cells.lookup x=ih c->c≠it) (h:∀p∈X.pn++J,p.1≠it):Inv X J σ H { s with heap:=h',toks:=t' }:=by
 have d:∀b u,H b=ih u->b≠it:=λb u e z=>by rw[z,g]at e;cases e
 refine I.step (g':=s.gens) (d':=s.drawn) (ch:=[it]) (λb i=>?_) (λb o _ _ a e _=>k b o (λz=>a (by simp[z])) e) (λb o _ _ a e _=>⟨o.slots,k b o (λz=>a (by simp[z])) e⟩) (λ_ _ _ _ n=>n)
  (λb o a e=>⟨o,k b o (λz=>a (by simp[z])) e⟩) (λ_ _ e=>e) (λ_ _ _ e=>e) (λb ps e=>⟨#[],by rw[e];simp⟩) (λm j=>?_) (λb u e=>?_) I.bare
 ·have e:b=it:=by simpa using i
  subst e;exact⟨h1,f,h2,h⟩
 ·obtain⟨o,es,ep,l,r⟩:=j
  exact⟨o,es,ep,k _ o (aS f) l,r⟩
 ·refine(I.aH b u e).et (λc v a q=>k c v ?_ q) (λ_ q=>q) λ_ _ q=>q
  rcases a with z|z
  ·rw[z];exact d b u e
  ·exact d c _ z
theorem Inv.tok(I:Inv X J σ H s)(t:Nat):Inv X J σ H { s with toks:=t }:=I.un (h':=s.heap) (t':=t) Un.refl I.aH
theorem Inv.kept(I:Inv X J σ H s)(k:∀b u,s.heap.get? b=ih u->h'.get? b=ih u):Inv X J σ H { s with heap:=h',toks:=t' }:=I.un (Un.kept k) (I.aH.kept k)
theorem Inv.laid{o:HO}(I:Inv X J σ H s)(k:∀b u,s.heap.get? b=ih u->h'.get? b=ih u)(c:s.ai<=a)(new:bC X.prog X.w (upd H a o) h' a o) :
  Inv X J σ (upd H a o) { s with heap:=h',toks:=t' }:=I.un (Un.laid k c (I.aH.fresh c)) (I.aH.laid k c new)
theorem Inv.write{x e:EZ}{o:HO}(I:Inv X J σ H s)(c:ot (H x))(d:e=x\/H e=ih (.own x))(k:∀b u,b≠e->s.heap.get? b=ih u->h'.get? b=ih u)(a:∃u,h'.get? e=ih u)
  (new:bC X.prog X.w (upd H x o) h' x o):Inv X J σ (upd H x o) { s with heap:=h',toks:=t' }:=I.un (Un.write c d k a) (I.aH.write c d k a new)
theorem Inv.Ci{Qq:ac (EZ×Yy)}(I:Inv X J σ H s)(h:∀p∈Qq,s.heap.get? p.1=ih p.2/\H p.1=none/\p.1≠X.env.locals/\p.1 ∉ X.fs /\∀v,p.2.data ≠ .cell v):Inv X Qq σ H s:=
 ⟨I.ok,I.os,I.bare,I.base,I.loc,I.cell,I.free,I.eP,λp a=>(bI.mp a).elim (λz=>I.pin p (fA _ z)) (h p),I.aH,I.len⟩
theorem sN(c:N.Nodup)(a:N[i]?=ih x)(b:N[j]?=ih x):i=j:=by
 obtain⟨h1,e1⟩:=bZ.mp a;obtain⟨h2,e2⟩:=bZ.mp b;exact(aap c).mp (e1.trans e2.symm)
theorem AL{M:ZE}{v:V}{Q:Unit->Ux->Prop}(I:Inv X J σ H s)(Z:X.N.Nodup)(hi:X.N[i]?=ih x)(g:Loc X.env.scope x)(r:RelV v u)
  (h:∀s',Inv X J (σ.set i (ih v)) H s'->(∃a,X7 a s.heap s'.heap/\(a=X.env.locals\/X.env.cells.lookup x=ih a))->Q () s') (zb:X.fn x=true\/X.env.scope.names.lookup x=ih .local:=by first|exact .inl rfl|exact .inr rfl|assumption):Uz M A (storeName X.env x u) Q E s:=by
 obtain⟨m,F,xa⟩:=id I.loc;have ya:(X.env.scope.kind == .class||(X.env.scope.kind == .module&&X.env.locals != X.env.globals))=false:=by rw[I.ok.kind];rfl
 have T:i<σ.length:=by rw[I.len];exact(bZ.mp hi).1
 have hU:=I.hU;have R:∀{a:EZ}{h':X8},(∃o,s.heap.get? a=ih o/\H a=none)->X7 a s.heap h'->cm X.prog X.w H h':=λ{a h'} xc f b yc e=>by
  obtain⟨_,_,S⟩:=xc;refine(I.aH b yc e).et (λc B hc q=>(f.2 c ?_).trans q) (λ_ q=>q) λ_ _ q=>q;rintro rfl;rcases hc with rfl|hc
  ·rw[S]at e;cases e
  ·rw[S]at hc;cases hc
 rcases g with hk|hk
 ·refine wpAny_storeName_local hk F (λh' xb f=>?_) ya
  obtain⟨zc,_,_,yb,_⟩:=id F;refine h _ ⟨I.ok,I.os,I.bare,⟨λb o e n l g=>?_,λb o e n l g=>?_,I.base.free,λb o e g=>?_,I.base.gg,I.base.gC,I.base.gR⟩,⟨_,xb,λj y G e1 e2 e3=>?_⟩,λy c e=>?_,I.free,I.eP,λp K=>?_,R ⟨zc,yb,I.free⟩ f,by simpa using I.len⟩ ⟨_,f,.inl rfl⟩
  ·exact(f.2 b (bK (eT (bt e) I.ok.above))).trans (I.base.keep b o e n l g)
  ·obtain⟨sl,e1⟩:=I.base.slot b o e n l g
   exact⟨sl,(f.2 b (bK (eT (bt e) I.ok.above))).trans e1⟩
  ·obtain⟨o',e1⟩:=I.base.there b o e g
   exact⟨o',(f.2 b (bK (eT (bt e) I.ok.above))).trans e1⟩
  ·by_cases t:j=i
   ·subst t
    rw[hi]at e1;cases e1;rw[ER T]at e2;cases e2
    exact⟨u,r,.inl ⟨hk,by simp⟩⟩
   ·rw[ES (aS t)]at e2
    obtain⟨L,O,q⟩:=xa j y G e1 e2 e3;refine⟨L,O,?_⟩;rcases q with⟨k,e⟩|⟨k,c,e,z⟩
    ·refine .inl ⟨k,?_⟩
     have:y≠x:=λe=>t (sN Z e1 (e ▸ hi));simp[this,e]
    ·exact .inr ⟨k,c,e,z.sameBut f (hU y c e)⟩
  ·obtain⟨B,z⟩:=I.cell y c e
   exact⟨B,z.sameBut f (hU y c e)⟩
  ·obtain⟨e,n,ne,P,d⟩:=I.pin p K
   exact⟨(f.2 p.1 ne).trans e,n,ne,P,d⟩
 ·have D:X.fn x=true:=by
   rcases zb with z|z
   ·exact z
   ·rw[z]at hk;cases hk
  obtain⟨c,hc⟩:=I.ok.has x (.inl hk);obtain⟨B,z⟩:=I.cell x c hc;refine wpAny_storeName_cell I.ok.kind hk hc z (λh' U f=>?_);obtain⟨oc,W,za⟩:=id z;refine h { s with heap:=h' } ⟨I.ok,I.os,I.bare,⟨λb o e n l g=>?_,λb o e n l g=>?_,I.base.free,λb o e g=>?_,I.base.gg,I.base.gC,I.base.gR⟩,⟨m,F.sameBut f (aS (hU x c hc)),λj y G e1 e2 e3=>?_⟩,λy C e=>?_,I.free,I.eP,λp K=>?_,R ⟨oc,W,I.eP x c hc⟩ f,by simpa using I.len⟩ ⟨c,f,.inr hc⟩
  ·exact(f.2 b (bK (eT (bt e) (I.ok.jU x c D hc)))).trans (I.base.keep b o e n l g)
  ·obtain⟨sl,e1⟩:=I.base.slot b o e n l g
   exact⟨sl,(f.2 b (bK (eT (bt e) (I.ok.jU x c D hc)))).trans e1⟩
  ·obtain⟨o',e1⟩:=I.base.there b o e g
   exact⟨o',(f.2 b (bK (eT (bt e) (I.ok.jU x c D hc)))).trans e1⟩
  ·by_cases t:j=i
   ·subst t
    rw[hi]at e1;cases e1;rw[ER T]at e2;cases e2
    exact⟨u,r,.inr ⟨.inl hk,c,hc,U⟩⟩
   ·rw[ES (aS t)]at e2
    obtain⟨L,O,q⟩:=xa j y G e1 e2 e3;refine⟨L,O,?_⟩;rcases q with q|⟨k,C,e,xd⟩
    ·exact .inl q
    ·refine .inr ⟨k,C,e,xd.sameBut f ?_⟩
     rintro rfl;exact t (sN Z e1 (I.ok.inj _ _ _ e hc ▸ hi))
  ·by_cases Y:C=c
   ·subst Y;exact⟨_,U⟩
   ·obtain⟨yd,z2⟩:=I.cell y C e
    exact⟨yd,z2.sameBut f Y⟩
  ·obtain⟨e,n,ne,P,d⟩:=I.pin p K
   refine⟨(f.2 p.1 ?_).trans e,n,ne,P,d⟩;intro q;rw[q,W]at e;have zd:oc=p.2:=cG e;exact d B (by rw[<-zd];exact za)
theorem ng{M:ZE}{v:V}{Q:Unit->Ux->Prop}(I:Inv X J σ H s)(a:X.N.Nodup)(hi:X.N[i]?=ih x)(b:Loc X.env.scope x)(r:RelV v u)
  (h:∀s',Inv X J (σ.set i (ih v)) H s'->Q () s') (c:X.fn x=true\/X.env.scope.names.lookup x=ih .local:=by first|exact .inl rfl|exact .inr rfl|assumption):Uz M A (storeName X.env x u) Q E s:=
 AL I a hi b r (λs' d _=>h s' d) c
theorem Inv.qg(I:Inv X J σ H s)(f:s'.os=s.os)(u:Un (ea X.stack) ch H H' s.heap s'.heap)(a:cm X.prog X.w H' s'.heap)(g:Y6 s'.gens)
  (d:∀b∈ch,(b∈X.ex\/X.d7.heap.objs.size<=b)/\b≠X.env.locals/\(∀x c,X.env.cells.lookup x=ih c->c≠b) /\∀p∈X.pn++J,p.1≠b):Inv X J σ H' s':=by
 obtain⟨h',g',d',t',o'⟩:=s';have e:o'=s.os:=f;subst e;exact I.call (g':=g') (t':=t') (d':=d') u a g d
end
abbrev XK:=i'->Option EZ->Hp->Prop
abbrev St:=List (Option V)
abbrev VK:=V->Hp->Prop
abbrev TE:=St->Hp->VK->Prop
abbrev TT:=St->Hp->(Bool->Hp->Prop)->Prop
abbrev TA:=St->Hp->(List V->Hp->Prop)->Prop
structure Ends where
 nx:St->Hp->Prop
 rt:VK
 bk:St->Hp->Prop:=λ_ _=>False
 ct:St->Hp->Prop:=λ_ _=>False
abbrev TS:=Ends->St->Hp->Prop
end L2
variable{xs vs ws wb wt lv:ac L2.V}{H H' Y H2 H0:L2.Hp}{X:L2.Cx}{σ fz:L2.St}{v y:L2.V}{ta te tl tv:L2.TE}{tb:L2.TS}{ti:L2.TT}{kvs Ql:ac (L2.Key×L2.V)}{O:L2.HO}{kh kk kq:ac (List L2.Key×L2.V)}
namespace L2
open Spec PyProof.Rows W
def EP(X:Cx)(J:List (EZ×Yy))(σ:St)(Q:VK)(u:i')(s':Ux):Prop:= ∃v H',Inv X J σ H' s'/\RelV v u/\Q v H'
def TP(X:Cx)(J:List (EZ×Yy))(σ:St)(Q:Bool->Hp->Prop)(b:Bool)(s':Ux):Prop:= ∃H',Inv X J σ H' s'/\Q b H'
def AP(X:Cx)(J:List (EZ×Yy))(σ:St)(Q:List V->Hp->Prop)(us:List i')(s':Ux):Prop:= ∃vs H',Inv X J σ H' s'/\Vals vs us/\Q vs H'
def SP(X:Cx)(J:List (EZ×Yy))(D:Ends)(f:Flow)(s':Ux):Prop:=
 match f with
 |.next=>∃cF H',Inv X J cF H' s'/\D.nx cF H'
 |.brk=>∃cF H',Inv X J cF H' s'/\D.bk cF H'
 |.cont=>∃cF H',Inv X J cF H' s'/\D.ct cF H'
 |.ret u=>∃v cF H',Inv X J cF H' s'/\RelV v u/\D.rt v H'
def PE(X:Cx)(e:Vp)(t:TE):Prop:=
 ∀J s σ H (Q:VK),Inv X J σ H s->t σ H Q->wA X (eval e X.env) (EP X J σ Q) X.xe s
def PT(X:Cx)(e:Vp)(t:TT):Prop:=
 ∀J s σ H (Q:Bool->Hp->Prop),Inv X J σ H s->t σ H Q->wA X (isTrue e X.env (eval e X.env)) (TP X J σ Q) X.xe s
def PW(X:Cx)(e:Vp)(t:TT):Prop:=
 ∀(Ms:Zh i') J s σ H (Q:Bool->Hp->Prop),Inv X J σ H s->t σ H Q->wA X (isTrue e X.env Ms) (TP X J σ Q) X.xe s
theorem PW.pt{t:TT}(h:PW X e t):PT X e t:=h _
def PA(X:Cx)(es:List Vp)(t:TA):Prop:=
 ∀(pos:Z3) J s σ H (Q:List V->Hp->Prop),Inv X J σ H s->t σ H Q->wA X (spliced (backTo pos (U1 es X.env))) (AP X J σ Q) X.xe s
def PS(X:Cx)(st:U6)(t:TS):Prop:=
 ∀J s σ H (D:Ends),Inv X J σ H s->t D σ H->wA X (exec st X.env) (SP X J D) X.xe s
def dc(X:Cx)(st:List U6)(t:TS):Prop:=
 ∀J s σ H (D:Ends),Inv X J σ H s->t D σ H->wA X (execs st X.env) (SP X J D) X.xe s
theorem aF{α:Type}{t:Zh α}{Q b:α->Ux->Prop}{M:ZE}(h:Uz M A t Q E s)(c:∀a s,Q a s->b a s):Uz M A t b E s:=hY h c λ_ _ x=>x
end L2
namespace L2
open Spec PyProof.Rows
section
def gD(i:Nat):TE:=λσ H Q=>∃v,σ[i]?=ih (ih v)/\Q v H
def tC(v:V):TE:=λ_ H Q=>Q v H
theorem Lv(j:X.N[i]?=ih x)(k:vj X.env.scope x)(b:(x==("__debug__" : Fv))=false:=by decide)(g:(x==("__classdict__" : Fv))=false:=by decide):PE X (.Name x pos) (gD i):=by
 intro J s σ H Q I h;obtain⟨v,e,h⟩:=h;obtain⟨m,n,o⟩:=I.loc;obtain⟨u,r,l⟩:=o i x v j e k;have a:EP X J σ Q u s:=⟨v,H,I,r,h⟩;rcases l with⟨hk,p⟩|⟨hk,c,f,d⟩
 ·exact wpAny_Name (wpAny_loadName_local I.ok.kind hk n p a) b
 ·rcases hk with hk|hk
  ·exact wpAny_Name (wpAny_loadName_cell I.ok.kind hk f d a) b
  ·exact wpAny_Name (wpAny_loadName_free I.ok.kind hk f d a g) b
theorem ar{i j pos}:PE X (.Constant (.int i) j pos) (tC (.int i)):=λ_ _ _ H _ I h=>wpAny_Constant_int ⟨.int i,H,I.tok _,⟨_,rfl⟩,h⟩
theorem jG{b j pos}:PE X (.Constant (.bool b) j pos) (tC (.bl b)):=λ_ _ _ H _ I h=>Constant_bool ⟨.bl b,H,I,rfl,h⟩
theorem dQ{j pos}:PE X (.Constant .none j pos) (tC .aK):=λ_ _ _ H _ I h=>acb ⟨.aK,H,I,rfl,h⟩
theorem bq{x j pos}:PE X (.Constant (.str x) j pos) (tC (.str x)):=λ_ _ _ H _ I h=>Calls.Constant_str ⟨.str x,H,I.tok _,⟨_,rfl⟩,h⟩
def Gl(X:Cx)(x:Fv):Prop:=X.env.kindOf x=ih .globalImplicit
theorem lW(I:Inv X J σ H s)(a:Gl X x)(b:X.mg x=ih u)(h:Q u s)
  (c:(x==("__debug__" : Fv))=false:=by decide):wA X (eval (.Name x pos) X.env) Q E s:=
 Uy I.ok.kind a (Calls.loadGlobal_global (by rw[I.ok.glob];exact I.mod.glob.keeps I.bk) b h) c
theorem kB(I:Inv X J σ H s)(a:Gl X x)(b:X.mg x=none)(c:Vh x=ih u)(h:Q u s)
  (d:x ≠ "__name__" :=by decide) (e:(x==("__debug__" : Fv))=false:=by decide):wA X (eval (.Name x pos) X.env) Q E s:=by
 obtain⟨f,h1,h2⟩:=I.mod.blt;exact Uy I.ok.kind a (Calls.loadGlobal_builtin (by rw[I.ok.glob];exact I.mod.glob.keeps I.bk) b (by rw[I.ok.blt];exact h1.keeps I.bk) ((h2 x d).trans c) h) e
theorem lX(a:Gl X x)(b:X.mg x=none)(c:Vh x=ih u)(r:RelV v u)(d:x ≠ "__name__" :=by decide)(e:(x==("__debug__" : Fv))=false:=by decide):PE X (.Name x pos) (tC v):=
 λ_ _ _ H _ I h=>kB I a b c ⟨v,H,I,r,h⟩ d e
variable{a b:Vp}{tb:TE}
def PC(X:Cx)(op:ZQ)(a b:Vp)(t:TE):Prop:=
 ∀J s σ H (Q:VK),Inv X J σ H s->t σ H Q ->
  wA X (eval a X.env) (λv N0=>wA X (eval b X.env) (λu N1=>wA X (VH op v u) (EP X J σ Q) X.xe N1) X.xe N0) X.xe s
theorem By(b:Vp){op:ZQ}(h:op ≠ .In)(h2:op ≠ .NotIn):behindInMarks op b=false:=by
 have e1:(op==ab7)=false:=by cases op <;> first|rfl|exact absurd rfl h
 have e2:(op==abc)=false:=by cases op <;> first|rfl|exact absurd rfl h2
 cases b <;> simp[behindInMarks,e1,e2]
def Mt(ta:TE):TE:=λσ H Q=>ta σ H λx Y=>Q (.bl (!decide (x=.aK))) Y
theorem RelV.IT{x:V}{v:i'}(r:RelV x v):(v==VB)=decide (x=.aK):=by
 cases x with
 |aK=>cases r;rfl
 |bl _=>cases r;rfl
 |int _=>obtain⟨t,rfl⟩:=r;rfl
 |str _=>obtain⟨t,rfl⟩:=r;rfl
 |fZ _=>obtain⟨t,rfl⟩:=r;rfl
 |jT _=>obtain⟨t,rfl⟩:=r;rfl
 |ref _=>cases r;rfl
 |ty _=>cases r;rfl
theorem tq{j Qh}(b:PE X a ta):PC X .IsNot a (.Constant .none j Qh) (Mt ta):=by
 intro J s σ H Q I h;refine aF (b J s σ H _ I h) λv s1 f=>?_;obtain⟨x,Y,c,d,e⟩:=f;exact acb (isnot_none_gen ⟨.bl _,Y,c,by rw[d.IT];rfl,e⟩)
def tB(t:TE):TT:=λσ H Q=>t σ H λx Y=>∃c,x=.bl c/\Q c Y
theorem Lw{op:ZQ}{t:TE}(h:PC X op a b t)(h1:behindInMarks op b=false:=by first|exact By _ (by decide) (by decide)|rfl):PE X (.Compare a [op] [b] pos) t:=λJ s σ H Q I c=>wpAny_Compare1 (h J s σ H Q I c) h1
theorem fQ{op:ZQ}{t:TE}(h:PC X op a b t)(h1:behindInMarks op b=false:=by first|exact By _ (by decide) (by decide)|rfl):PT X (.Compare a [op] [b] pos) (tB t):=by
 intro J s σ H Q I e;refine wpAny_isTrue_Compare1 (aF (h J s σ H _ I e) λv s1 h1=>aF h1 λu s2 h2=>aF h2 λc j k=>?_) h1;obtain⟨x,Y,f,g,i⟩:=k;obtain⟨d,rfl,q⟩:=i;cases g
 exact g6 ⟨Y,f,q⟩
theorem hE{t:TE}(h:PE X e t)(b:∀a,isTrue e X.env a=(do let v <- a;standAt e.pos;holding [v] (truthy v)):=by intro _;rfl):PT X e (tB t):=by
 intro J s σ H Q I c;refine isTrue_plain (aF (h J s σ H _ I c) λv s1 j=>?_) (b _);obtain⟨x,Y,f,g,i⟩:=j;obtain⟨d,rfl,q⟩:=i;cases g
 exact g6 ⟨Y,f,q⟩
variable{tA Qz:TT}{rest:ac Vp}
def uQ(t u:TT):TT:=λσ H Q=>t σ H λc Y=>if c=true then u σ Y Q else Q false Y
def vk(t u:TT):TT:=λσ H Q=>t σ H λc Y=>if c=true then Q true Y else u σ Y Q
def N2(t:TT):TT:=λσ H Q=>t σ H λc Y=>Q (!c) Y
theorem pw_and1(b:PT X a tA):PW X (.BoolOp .And [a] pos) tA:=by
 intro wh J s σ H Q I h;refine isTrue_and (aF (b J s σ H Q I h) λc s1 e=>?_);cases c with
 |true=>exact isTrue_and_nil e
 |false=>exact e
theorem pw_or1(b:PT X a tA):PW X (.BoolOp .Or [a] pos) tA:=by
 intro wh J s σ H Q I h;refine isTrue_or (aF (b J s σ H Q I h) λc s1 e=>?_);cases c with
 |false=>exact isTrue_or_nil e
 |true=>exact e
theorem pw_and(f:PT X a tA)(g:PW X (.BoolOp .And (b::rest) pos) Qz):PW X (.BoolOp .And (a::b::rest) pos) (uQ tA Qz):=by
 intro wh J s σ H Q I h;refine isTrue_and (aF (f J s σ H _ I h) λc s1 ⟨Y,d,e⟩=>?_);cases c with
 |true=>exact g wh J s1 σ Y Q d e
 |false=>exact⟨Y,d,e⟩
theorem pw_or(f:PT X a tA)(g:PW X (.BoolOp .Or (b::rest) pos) Qz):PW X (.BoolOp .Or (a::b::rest) pos) (vk tA Qz):=by
 intro wh J s σ H Q I h;refine isTrue_or (aF (f J s σ H _ I h) λc s1 ⟨Y,d,e⟩=>?_);cases c with
 |true=>exact⟨Y,d,e⟩
 |false=>exact g wh J s1 σ Y Q d e
theorem hF(b:PT X a tA):PT X (.UnaryOp .Not a pos) (N2 tA):=by
 intro J s σ H Q I h;exact isTrue_not (b J s σ H (λc Y=>Q (!c) Y) I h)
def Mu(ta tb:TE):TE:=λσ H Q=>ta σ H λx Y=>∃c,x=.bl c/\if c=true then tb σ Y Q else Q (.bl false) Y
def N3(ta tb:TE):TE:=λσ H Q=>ta σ H λx Y=>∃c,x=.bl c/\if c=true then Q (.bl true) Y else tb σ Y Q
def Mv(ta:TE):TE:=λσ H Q=>ta σ H λx Y=>∃c,x=.bl c/\Q (.bl (!c)) Y
theorem pX{op}{t:TE}(h:PE X a t):PE X (.BoolOp op [a] pos) t:=λJ s σ H Q I b=>BoolOp_one (h J s σ H Q I b)
theorem tZ(f:PE X a ta)(g:PE X (.BoolOp .And (b::rest) pos) tb):PE X (.BoolOp .And (a::b::rest) pos) (Mu ta tb):=by
 intro J s σ H Q I h;refine BoolOp_and (aF (f J s σ H _ I h) λv s1 j=>?_);obtain⟨x,Y,e,i,d⟩:=j;obtain⟨c,rfl,d⟩:=d;cases i
 refine g6 ?_;cases c with
 |true=>exact g J s1 σ Y Q e d
 |false=>exact⟨.bl false,Y,e,rfl,d⟩
theorem Mw(f:PE X a ta)(g:PE X (.BoolOp .Or (b::rest) pos) tb):PE X (.BoolOp .Or (a::b::rest) pos) (N3 ta tb):=by
 intro J s σ H Q I h;refine BoolOp_or (aF (f J s σ H _ I h) λv s1 j=>?_);obtain⟨x,Y,e,i,d⟩:=j;obtain⟨c,rfl,d⟩:=d;cases i
 refine g6 ?_;cases c with
 |false=>exact g J s1 σ Y Q e d
 |true=>exact⟨.bl true,Y,e,rfl,d⟩
theorem Lx(d:PE X a ta):PE X (.UnaryOp .Not a pos) (Mv ta):=by
 intro J s σ H Q I h;refine UnaryOp_ (aF (d J s σ H _ I h) λv s1 g=>?_);obtain⟨x,Y,e,f,b⟩:=g;obtain⟨c,rfl,b⟩:=b;cases f
 exact not_of (g6 ⟨.bl (!c),Y,e,rfl,b⟩)
def Pj(t:TT)(ta tb:TE):TE:=λσ H Q=>t σ H λc Y=>if c=true then ta σ Y Q else tb σ Y Q
theorem IU(g:PT X c tA)(i:PE X a ta)(j:PE X b tb):PE X (.IfExp c a b pos) (Pj tA ta tb):=by
 intro J s σ H Q I h;refine wpAny_IfExp (aF (g J s σ H _ I h) λd s1 ⟨Y,e,f⟩=>?_);cases d with
 |true=>exact i J s1 σ Y Q e f
 |false=>exact j J s1 σ Y Q e f
end
def aj(K:UP)(H:Hp)(a:EZ)(xs:List V):Prop:=
 Rd H a (.lst xs) \/
  ∃(o:Yy) (its:Array i') (n:Nat),K.lookup a=ih o/\o.cls=.type "list" /\ o.dict=none/\o.data=.seq its n/\its.size<=UB/\Vals xs its.toList
def ay(K:UP)(H:Hp)(a:EZ)(xs:List V):Prop:=
 Rd H a (.tup xs) \/
  ∃(o:Yy) (its:Array i') (n:Nat),K.lookup a=ih o/\o.cls=.type "tuple" /\ o.data=.seq its n/\its.size<=UB/\Vals xs its.toList
def N4:i'->Option V
 |.none=>ih .aK
 |.bool b=>ih (.bl b)
 |.int i _=>ih (.int i)
 |.str x _=>ih (.str x)
 |.bytes b _=>ih (.fZ b)
 |.float b _=>ih (.jT b)
 |.ref a=>ih (.ref a)
 |.type n=>ih (.ty n)
 |_=>none
theorem RelV.abs{x:V}(r:RelV x u):N4 u=ih x:=by
 cases x with
 |aK=>cases r;rfl
 |bl _=>cases r;rfl
 |int _=>obtain⟨t,rfl⟩:=r;rfl
 |str _=>obtain⟨t,rfl⟩:=r;rfl
 |fZ _=>obtain⟨t,rfl⟩:=r;rfl
 |jT _=>obtain⟨t,rfl⟩:=r;rfl
 |ref _=>cases r;rfl
 |ty _=>cases r;rfl
theorem RelV.inj{x:V}(r:RelV x u)(q:RelV y u):x=y:=cG (r.abs.symm.trans q.abs)
theorem Vals.inj:∀{xs ys:ac V}{us:ac i'},Vals xs us->Vals ys us->xs=ys
 |_,_,_,.nil,.nil=>rfl
 |_,_,_,.cons r t,.cons a t'=>by rw[r.inj a,Vals.inj t t']
section
variable{ys:ac V}
theorem aj.of(h:H a=bd xs):aj K H a xs:=.inl (.inl h)
theorem ay.of(h:H a=a2 xs):ay K H a xs:=.inl (.inl h)
theorem Inv.list(I:Inv X J σ H s)(h:aj X.K H a xs):∃its:ac i',Vals xs its/\PlainL s.heap a its.toArray/\xs.length<=UB:=by
 rcases h with h|⟨o,its,n,b,c,d,f,g,r⟩
 ·obtain⟨z,its,n,r,e⟩:=h.ok I.aH
  exact⟨its,r,⟨_,n,e,rfl,rfl,rfl⟩,z⟩
 ·refine⟨its.toList,r,⟨o,n,I.bS a o b,c,d,by simpa using f⟩,?_⟩
  have e:=r.length;simp only[f5]at e;omega
theorem Inv.tuple(I:Inv X J σ H s)(h:ay X.K H a xs):∃its:ac i',Vals xs its/\Yv s.heap a its.toArray/\xs.length<=UB:=by
 rcases h with h|⟨o,its,n,b,c,d,f,r⟩
 ·obtain⟨z,its,r,p⟩:=h.ok I.aH
  exact⟨its,r,p.is,z⟩
 ·refine⟨its.toList,r,⟨o,I.bS a o b,c,n,by simpa using d⟩,?_⟩
  have e:=r.length;simp only[f5]at e;omega
theorem Inv.Bz(I:Inv X J σ H s)(h:aj X.K H a xs)(h':aj X.K H a ys):xs=ys:=by
 obtain⟨its,r,⟨o,n,e,_,_,d⟩,_⟩:=I.list h;obtain⟨f,g,⟨o',j,b,_,_,c⟩,_⟩:=I.list h';rw[e]at b;cases b;rw[d]at c;injection c with i _;have:its=f:=by simpa using c3 aa1 i
 subst this;exact r.inj g
theorem Inv.HL(I:Inv X J σ H s)(h:ay X.K H a xs)(h':ay X.K H a ys):xs=ys:=by
 obtain⟨its,r,⟨o,e,_,n,d⟩,_⟩:=I.tuple h;obtain⟨f,g,⟨o',b,_,j,c⟩,_⟩:=I.tuple h';rw[e]at b;cases b;rw[d]at c;injection c with i _;have:its=f:=by simpa using c3 aa1 i
 subst this;exact r.inj g
end
abbrev Cx.iq(X:Cx)(E:i'->Ux->Prop):Cx:={ X with xe:=E }
abbrev Cx.k8(X:Cx):Cx:=X.iq λ_ _=>False
theorem Cx.Ok.iq(ok:X.Ok)(E:i'->Ux->Prop):(X.iq E).Ok:=
 ⟨ok.mod,ok.kind,ok.glob,ok.blt,ok.above,ok.inj,ok.has,ok.jU,ok.hd,ok.frames,ok.k7,ok.i7,ok.bs,ok.hT,ok.jL,ok.i3,ok.ft,ok.iy⟩
theorem Cx.Ok.jE(ok:(X.iq E).Ok):X.Ok:=
 ⟨ok.mod,ok.kind,ok.glob,ok.blt,ok.above,ok.inj,ok.has,ok.jU,ok.hd,ok.frames,ok.k7,ok.i7,ok.bs,ok.hT,ok.jL,ok.i3,ok.ft,ok.iy⟩
theorem Inv.iq(I:Inv X J σ H s)(E:i'->Ux->Prop):Inv (X.iq E) J σ H s:=⟨I.ok.iq E,I.os,I.bare,I.base,I.loc,I.cell,I.free,I.eP,I.pin,I.aH,I.len⟩
theorem Inv.jE(I:Inv (X.iq E) J σ H s):Inv X J σ H s:=⟨I.ok.jE,I.os,I.bare,I.base,I.loc,I.cell,I.free,I.eP,I.pin,I.aH,I.len⟩
theorem SP.jE{D:Ends}{f:Flow}(h:SP (X.iq E) J D f s'):SP X J D f s':=by
 cases f with
 |next=>obtain⟨a,H',I,q⟩:=h;exact⟨a,H',I.jE,q⟩
 |brk=>obtain⟨a,H',I,q⟩:=h;exact⟨a,H',I.jE,q⟩
 |cont=>obtain⟨a,H',I,q⟩:=h;exact⟨a,H',I.jE,q⟩
 |ret u=>obtain⟨v,a,H',I,r,q⟩:=h;exact⟨v,a,H',I.jE,r,q⟩
theorem dc.k8{st:ac U6}{t:TS}(h:dc X.k8 st t):dc X st t:=λJ s σ H D I a =>
 hY (h J s σ H D (I.iq _) a) (λ_ _ q=>q.jE) λ_ _ z=>Vd z
section
variable{rest:ac U6}{t u:TS}
def Mx:TS:=λD σ H=>D.nx σ H
def qy(t u:TS):TS:=λD σ H=>t { D with nx:=u D } σ H
theorem bD:dc X [] Mx:=λ_ _ σ H _ I h=>oJ ⟨σ,H,I,h⟩
theorem au(h1:PS X st t)(h2:dc X rest u):dc X (st::rest) (qy t u):=by
 intro J s σ H D I h;refine wpAny_execs_cons (aF (h1 J s σ H { D with nx:=u D } I h) λf s1 q=>?_);cases f with
 |next =>
  obtain⟨a,H',b,q⟩:=q;exact h2 J s1 a H' D b q
 |ret v=>exact q
 |brk=>exact q
 |cont=>exact q
theorem aA(h1:PS X st t):dc X [st] t:=by
 intro J s σ H D I h;refine wpAny_execs_cons (aF (h1 J s σ H D I h) λf s1 q=>?_);cases f with
 |next=>exact oJ q
 |ret v=>exact q
 |brk=>exact q
 |cont=>exact q
theorem Inv.quiet(I:Inv X J σ H s):interactive X.env=false:=by simp[interactive,I.ok.kind]
def My(te:TE):TS:=λD σ H=>te σ H λ_ Y=>D.nx σ Y
theorem eF(a:PE X e te)(b:swapsWith e none pos.line X.env=pure false:=by rfl):PS X (.Expr e pos) (My te):=by
 intro J s σ H D I h;exact wpAny_Expr_any (aF (a J s σ H _ I h) λv s1 ⟨x,Y,c,f,d⟩=>⟨σ,Y,c,d⟩) I.quiet b
def N5(te:TE):TS:=λD σ H=>te σ H D.rt
theorem aX(a:PE X e te):PS X (.Return (ih e) pos) (N5 te):=by
 intro J s σ H D I h;exact wpAny_Return_some (aF (a J s σ H _ I h) λv s1 ⟨x,Y,b,c,d⟩=>⟨x,σ,Y,b,c,d⟩)
def Mz:TS:=λD _ H=>D.rt .aK H
theorem JW:PS X (.Return none pos) Mz:=λ_ _ σ H _ I h=>wpAny_Return_none ⟨.aK,σ,H,I,rfl,h⟩
def uR(c:TT)(t u:TS):TS:=λD σ H=>c σ H λb Y=>if b=true then t D σ Y else u D σ Y
theorem bh{a b:ac U6}{tc:TT}(g:PT X c tc)(i:dc X a t)(j:dc X b u):PS X (.If c a b pos) (uR tc t u):=by
 intro J s σ H D I h;refine wpAny_If (aF (g J s σ H _ I h) λd s1 ⟨Y,e,f⟩=>?_);cases d with
 |true=>exact i J s1 σ Y D e f
 |false=>exact j J s1 σ Y D e f
def CS:TS:=λ_ _ _=>False
theorem IV:PS X st CS:=λ_ _ _ _ _ _ h=>h.elim
theorem sA{a:ac U6}:dc X a CS:=λ_ _ _ _ _ _ h=>h.elim
end
abbrev TG:=V->St->Hp->(St->Hp->Prop)->Prop
abbrev jV:=List V->St->Hp->(St->Hp->Prop)->Prop
def PG(X:Cx)(Ly:Vp)(t:TG):Prop:=
 ∀J s σ H (v:V) (u:i') (Q:St->Hp->Prop),Inv X J σ H s->RelV v u->t v σ H Q ->
  wA X (assign Ly X.env u) (λ_ s'=>∃cF H',Inv X J cF H' s'/\Q cF H') X.xe s
def ou(X:Cx)(ts:List Vp)(t:jV):Prop:=
 ∀J s σ H (vs:List V) (us:List i') (Q:St->Hp->Prop),Inv X J σ H s->Vals vs us->t vs σ H Q ->
  wA X (assignInOrder ((assignEach ts X.env).map (·.2)) us) (λ_ s'=>∃cF H',Inv X J cF H' s'/\Q cF H') X.xe s
abbrev uS:=V->V->V->Hp->(Hp->Prop)->Prop
def DD(X:Cx)(t:uS):Prop:=
 ∀J s σ H (o i v:V) (ov iv u:i') (Q:Hp->Prop),Inv X J σ H s->RelV o ov->RelV i iv->RelV v u->t o i v H Q ->
  wA X (setItem ov iv u) (λ_ s'=>∃H',Inv X J σ H' s'/\Q H') X.xe s
def ik(i:Nat):TG:=λv σ H Q=>Q (σ.set i (ih v)) H
theorem pK(a:X.N.Nodup)(hi:X.N[i]?=ih x)(b:Loc X.env.scope x)(c:X.fn x=true\/X.env.scope.names.lookup x=ih .local:=by first|exact .inl rfl|exact .inr rfl|assumption):PG X (.Name x pos) (ik i):=by
 intro J s σ H v u Q I r h;exact wpAny_assign_Name (ng I a hi b r (λs' d=>⟨_,H,d,h⟩) c)
theorem bb(i:Nat)(a:X.N.Nodup)(hi:X.N[i]?=ih x:=by exact rfl)(b:Loc X.env.scope x:=by exact aa2 rfl)(c:X.fn x=true\/X.env.scope.names.lookup x=ih .local:=by first|exact .inl rfl|exact .inr rfl|assumption):PG X (.Name x pos) (ik i):=pK a hi b c
def N6:jV:=λvs σ H Q=>vs=[]/\Q σ H
def MA(t:TG)(u:jV):jV:=λvs σ H Q=>∃v r,vs=v::r/\t v σ H λcF H'=>u r cF H' Q
theorem gw:ou X [] N6:=by
 intro J s σ H vs us Q I r h;obtain⟨e,h⟩:=h;subst e;cases r
 exact assignInOrder_nil ⟨σ,H,I,h⟩
theorem cZ{t:TG}{u:jV}(h1:PG X e t)(h2:ou X es u)
  (b:(assignEach (e::es) X.env).map (·.2)=assign e X.env::(assignEach es X.env).map (·.2):=by rfl):ou X (e::es) (MA t u):=by
 intro J s σ H vs us Q I r h;obtain⟨v,g,e1,h⟩:=h;subst e1;cases r with
 |cons r c =>
  rw[b];refine ET (aF (h1 J s σ H _ _ _ I r h) λ_ s1 ⟨a,Y,d,f⟩=>?_);exact h2 J s1 a Y _ _ Q d c f
def DE(K:UP)(n:Nat)(t:jV):TG:=λv σ H Q=>∃a xs,v=.ref a/\ay K H a xs/\xs.length=n/\t xs σ H Q
theorem ib{k:Nat}{t:jV}{n:Nat}(g:X.calm=true)(h:ou X es t)
  (i:(assignEach es X.env).length=n:=by rfl) (f:(assignEach es X.env).findIdx? (·.1)=none:=by rfl):PG X (.Tuple es k pos) (DE X.K n t):=by
 intro J s σ H v u Q I r c;obtain⟨a,xs,e1,j,l,c⟩:=c;subst e1;cases r
 obtain⟨its,d,m,w⟩:=I.tuple j;refine assign_Tuple_tuple (I.ok.hd g) m (by simp[i,<-l,d.length]) f λh' p=>?_
 have q:Inv X J σ H { s with heap:=h' }:=I.kept (t':=s.toks) λb o e=>p b o (bK (bt e)) e;exact h J _ σ H xs _ Q q (by simpa using d) c
def N7(to ti:TE)(t:uS):TG:=λv σ H Q=>to σ H λo Y=>ti σ Y λi H2=>t o i v H2 λH3=>Q σ H3
theorem CT{o i:Vp}{to ti:TE}{t:uS}(c:PE X o to)(hi:PE X i ti)(d:DD X t)
  (e:∀v,assign (.Subscript o i pos) X.env v=(do
   let a <- holding [v] (eval o X.env)
   let b <- holding [v,a] (eval i X.env)
   standAt pos
   holding [v,a,b] (setItem a b v)
   release [v,a,b] []):=by intro _;rfl):PG X (.Subscript o i pos) (N7 to ti t):=by
 intro J s σ H v u Q I r h;rw[e];refine ae (eh (aF (c J s σ H _ I h) λa s1 z=>?_));obtain⟨x,Y,f,g,j⟩:=z;refine ae (eh (aF (hi J s1 σ Y _ f j) λb s2 z=>?_));obtain⟨y,H2,k,l,m⟩:=z;refine ae (je (ae (eh (aF (d J s2 σ H2 x y v a b u _ k g l r m) λ_ w ⟨n,p,q⟩=>?_))));exact wpAny_release ⟨σ,n,p,q⟩
def qz(te:TE)(g:TG):TS:=λD σ H=>te σ H λx Y=>g x σ Y D.nx
theorem iT{g:TG}(a:PE X e te)(b:PG X tg g)(c:swapsWithSole [tg] e pos.line X.env=pure false:=by rfl)(d:swappedStores [tg] e X.env=pure none:=by rfl)
  (h1:(assignEach [tg] X.env).map (·.2)=[assign tg X.env]:=by rfl):PS X (.Assign [tg] e pos) (qz te g):=by
 intro J s σ H D I h;refine wpAny_Assign_stores (aF (a J s σ H _ I h) λv s1 k=>?_) c d;obtain⟨x,Y,f,i,j⟩:=k;rw[h1];exact aF (b J s1 σ Y x v _ f i j) λ_ s2 q=>q
theorem ic(a:X.N.Nodup)(hi:X.N[i]?=ih x)(b:Loc X.env.scope x)(c:PE X e te)(d:swapsWith e (ih (.Name x Qh)) pos.line X.env=pure false:=by rfl)(f:X.fn x=true\/X.env.scope.names.lookup x=ih .local:=by first|exact .inl rfl|exact .inr rfl|assumption) :
  PS X (.Assign [.Name x Qh] e pos) (qz te (ik i)):=by
 intro J s σ H D I h;refine wpAny_Assign_Name (aF (c J s σ H _ I h) λv s1 m=>?_) d;obtain⟨y,Y,g,j,k⟩:=m;exact ng g a hi b j (λs2 l=>⟨_,Y,l,k⟩) f
theorem aY(i:Nat)(a:X.N.Nodup)(b:PE X e te)(hi:X.N[i]?=ih x:=by exact rfl)(c:Loc X.env.scope x:=by exact aa2 rfl)(d:swapsWith e (ih (.Name x Qh)) pos.line X.env=pure false:=by rfl)(f:X.fn x=true\/X.env.scope.names.lookup x=ih .local:=by first|exact .inl rfl|exact .inr rfl|assumption):PS X (.Assign [.Name x Qh] e pos) (qz te (ik i)):=ic a hi c b d f
def N8(i j:Nat)(ta:TA):TS:=λD σ H=>ta σ H λvs Y=>∃v w,vs=[v,w]/\D.nx ((σ.set i (ih v)).set j (ih w)) Y
theorem Lz{y:Fv}{a b:Vp}{ta:TA}{g k pt:Z3}{l m f}(E:X.calm=true)(r:X.N.Nodup)(hi:X.N[i]?=ih x)(F:X.N[j]?=ih y)(A:i≠j)
  (t:X.env.scope.names.lookup x=ih .local) (u:X.env.scope.names.lookup y=ih .local) (G:PA X [a,b] ta)
  (K:swappedStores [.Tuple [.Name x g,.Name y k] l pt] (.Tuple [a,b] m f) X.env=pure (ih [x,y]))
  (L:swapsWithSole [.Tuple [.Name x g,.Name y k] l pt] (.Tuple [a,b] m f) pos.line X.env=pure false:=by rfl) :
  PS X (.Assign [.Tuple [.Name x g,.Name y k] l pt] (.Tuple [a,b] m f) pos) (N8 i j ta):=by
 intro J s σ H D I h;rw[exec_Assign_arm];refine ae (je ?_);rw[L];refine ae (ak ?_);rw[ao (by decide)]
 refine ae (Tuple_ (aF (G _ J s σ H _ I h) λus s1 W=>?_));obtain⟨vs,Y,M,O,n⟩:=W;obtain⟨v,w,e1,n⟩:=n;subst e1;obtain⟨c,d,rfl,P,B⟩:∃c d,us=[c,d]/\RelV v c/\RelV w d:=by
  cases O with
  |cons p q =>
   cases q with
   |cons Q R =>
    cases R
    exact⟨_,_,rfl,p,Q⟩
 refine fH ?_ (by show 2<=UB;decide)
 have S:Inv X J σ Y { s1 with heap:=s1.heap.push { cls:=.type "tuple",data:=.seq [c,d].toArray } }:=M.kept (t':=s1.toks) λb o e=>a5 _ e;rw[K];refine ae (ak ?_);show wA X (do rule "assign.swapped-stores"; let items <- unpackItems (.ref s1.ai) 2 none;assignInOrder [λv=>bindName X.env y v,λv=>bindName X.env x v] items.reverse;pure ab6) _ _ _;refine ae (jf (ae (unpackItems_tuple (items:= #[c,d]) (I.ok.hd E) (IsTup.new s1.heap _) λh' C=>?_)));have T:=S.kept (h':=h') (t':=s1.toks) λb o e=>C b o (bK (bt e)) e;show Uz _ _ (assignInOrder [λv=>bindName X.env y v,λv=>bindName X.env x v] [d,c] >>= λ_=>pure ab6) _ _ _;refine ae (ET (wpAny_bindName (ng T r F (.inl u) B (λs2 U=>?_) (.inr u))));refine ET (wpAny_bindName (ng U r hi (.inl t) P (λV z=>assignInOrder_nil (ak ?_)) (.inr t)));rw[List.set_comm _ _ (aS A)]at z;exact⟨_,Y,z,n⟩
def LA(c:TT)(tb:TS):TS:=λD σ H=>∃W:Nat->St->Hp->Prop,(∃m,W m σ H) /\∀m σ H,W m σ H ->
 c σ H λb Y=>if b=true then ∃N:St->Hp->Prop,(∀cF H',N cF H' ->∃m',m'<m/\W m' cF H')/\tb { D with nx:=N,ct:=N,bk:=D.nx } σ Y else D.nx σ Y
theorem ni{tc:TT}(q:PassesOwn X.c2 X.A X.env X.xe)(w:PT X c tc)(x:dc X body tb):PS X (.While c body [] pos) (LA tc tb):=by
 intro J s σ H D I h;obtain⟨W,⟨y,z⟩,u⟩:=h;refine wpAny_While (codeAny_whileLoop (λn s'=>∃p H',Inv X J p H' s'/\W n p H') ?_ y ⟨σ,H,I,z⟩);rintro n s1 ⟨e,Y,B,C⟩;refine mO q (aF (w J s1 e Y _ B (u n e Y C)) λb s2 ⟨H2,r,g⟩=>?_);cases b with
 |true =>
  obtain⟨N,t,g⟩:=g;rw[aE rfl];refine mO q (aF (x J s2 e H2 _ r g) λf E i=>?_);cases f with
  |next =>
   obtain⟨a,d,j,k⟩:=i;obtain⟨l,m,o⟩:=t a d k;exact⟨l,m,a,d,j,o⟩
  |cont =>
   obtain⟨a,d,j,k⟩:=i;obtain⟨l,m,o⟩:=t a d k;exact⟨l,m,a,d,j,o⟩
  |brk=>exact i
  |ret v=>exact i
 |false =>
  rw[ao b'];exact oJ ⟨e,H2,r,g⟩
structure It where
 go:Nat->Hp->Prop
 i8:Nat->Hp->V->Hp->Prop
 stop:Nat->Hp->Prop
def fu(X:Cx)(J:List (EZ×Yy))(H:Hp)(b:EZ):Prop:=
 H b=none/\b≠X.env.locals/\b ∉ X.fs/\(b∈X.ex\/X.d7.heap.objs.size<=b)/\(∀x c,X.env.cells.lookup x=ih c->c≠b) /\∀p∈X.pn++J,p.1≠b
theorem Inv.gT(I:Inv X J σ H s)(a:s.ai<=b)(d:H' b=none):fu X J H' b:=by
 refine⟨d,jg (eT I.lt a),I.NZ a,.inr (eg I.sz a),λx c e z=>?_,λp f z=>?_⟩
 ·obtain⟨v,q⟩:=I.cell x c e
  exact absurd (eT q.lt (by rw[z];exact a)) (jc _)
 ·exact absurd (eT (bt (I.pin p f).1) (by rw[z];exact a)) (jc _)
structure Turn(P:Yc)(w:Yi)(K:UP)(tg:Vp)(Jz:It)(fp:List EZ)(it:EZ)(tn:Nat->X8->Prop):Prop where
 mem:it∈fp
 obj:∀i h,tn i h ->∀b∈fp,∃o,h.get? b=ih o /\∀v,o.data ≠ .cell v
 keep:∀i h h',tn i h->(∀b∈fp,∀o,h.get? b=ih o->h'.get? b=ih o)->tn i h'
 item:∀(X:Cx),X.prog=P->X.w=w->X.K=K->X.calm=true ->∀(i:Nat) J s σ H (E:i'->Ux->Prop),Inv X J σ H s->(∀b∈fp,fu X J H b)->tn i s.heap->Jz.go i H ->
  Uz (UO P w) X.A (pyNext (.ref it)) (λr s1=>∃u,r=ih u /\
   Uz (UO P w) X.A (letOwnedTupleGo tg (.ref it) u) (λ_ s2=>∃x H',Inv X J σ H' s2/\RelV x u/\Jz.i8 i H x H'/\tn (i+1) s2.heap /\∀b∈fp,H' b=none) E s1) E s
 done:∀(X:Cx),X.prog=P->X.w=w->X.K=K->X.calm=true ->∀(i:Nat) J s σ H (E:i'->Ux->Prop),Inv X J σ H s->(∀b∈fp,fu X J H b)->tn i s.heap->Jz.stop i H ->
  Uz (UO P w) X.A (pyNext (.ref it)) (λr s1=>r=none/\Inv X J σ H s1) E s
 self:∀(A:Yk) (i:Nat) (s:Ux) (Q:i'->Ux->Prop) (E:i'->Ux->Prop),tn i s.heap->Q (.ref it) s->Uz (UO P w) A (pyIter (.ref it)) Q E s
abbrev TI:=St->Hp->(It->Hp->Prop)->Prop
def vm(X:Cx)(J:List (EZ×Yy))(σ:St)(tg:Vp)(R:It->Hp->Prop)(Pk:i')(s2:Ux):Prop:=
 ∃(it:EZ) (fp:List EZ) (tn:Nat->X8->Prop) (Jz:It) (H':Hp),Pk=.ref it/\Inv X J σ H' s2/\Turn X.prog X.w X.K tg Jz fp it tn/\tn 0 s2.heap/\(∀b∈fp,fu X J H' b)/\R Jz H'
def PI(X:Cx)(tg iter:Vp)(wi:TI):Prop:=
 ∀J s σ H (R:It->Hp->Prop),Inv X J σ H s->wi σ H R ->
  wA X (eval iter X.env) (λv s1=>wA X (pyIter v) (vm X J σ tg R) X.xe s1) X.xe s
theorem nW{M:ZE}{n:String}{vs:Array i'}{Q:Unit->Ux->Prop}(b:s.heap.get? it=ih o)(c:o.cls=.type n)(d:o.data=.fields vs)
  (e : ["enumerate","zip","dict_itemiterator","dict_reverseitemiterator","odict_iterator","itertools.zip_longest","itertools.pairwise"].contains n=false) (a:Q () s):Uz M A (letOwnedTupleGo tg (.ref it) u) Q E s:=by
 unfold letOwnedTupleGo;cases tg <;> first
  |exact ak a
  |(cases u <;> first
    |exact ak a
    |(refine ae (oK b ?_);rw[c,d];show Uz M A (if (["enumerate","zip","dict_itemiterator","dict_reverseitemiterator","odict_iterator","itertools.zip_longest","itertools.pairwise"].contains n&&vs[0]? == ih (rawInt _))=true then _ else _) Q E s;rw[ao (by intro h;rw[e,Bool.false_and]at h;cases h)];exact ak a))
def jW(K:UP)(a:EZ):It:=
 ⟨λi H=>∃xs x,aj K H a xs/\xs[i]?=ih x,λi H x H'=>H'=H /\∀xs,aj K H a xs->xs[i]?=ih x,λi H=>∃xs,aj K H a xs/\xs.length<=i⟩
def i9(K:UP)(a:EZ):It:=
 ⟨λi H=>∃xs x,ay K H a xs/\xs[i]?=ih x,λi H x H'=>H'=H /\∀xs,ay K H a xs->xs[i]?=ih x,λi H=>∃xs,ay K H a xs/\xs.length<=i⟩
def jX(lo:Int)(n:Nat):It:=⟨λi _=>i<n,λi H x H'=>H'=H/\x=.int (lo+i),λi _=>n<=i⟩
theorem HM(a it:EZ):Turn P w K tg (jW K a) [it] it (λi h=>h.IsListIter it a i) where
 mem:=by simp
 obj:=λi h st b f=>by
  have e:b=it:=by simpa using f
  subst e;obtain⟨o,e,c,d⟩:=st;exact⟨o,e,λv z=>by rw[d]at z;cases z⟩
 keep:=λi h h' st k=>st.at λo e=>k it (by simp) o e
 item:=by
  intro X l m n F i J s σ H E I g st q;subst l m n;obtain⟨xs,x,j,r⟩:=q;obtain⟨its,t,p,G⟩:=I.list j;obtain⟨u,L,M⟩:=t.get r;obtain⟨f0,y,N,A,B,C⟩:=g it (by simp)
  refine wpAny_pyNext_list_item st p.isList (x:=u) (by simpa using L) λh' D O=>?_
  have Q:Inv X J σ H { s with heap:=h' }:=I.turned (t':=s.toks) (λb o f e=>(O.2 b f).trans e) f0 y A B C;obtain⟨o,e,c,d⟩:=id D;exact⟨u,rfl,nW (s:={ s with heap:=h' }) e c d (by decide) ⟨x,H,Q,M,⟨rfl,λys R=>by rw[I.Bz R j];exact r⟩,D,λb f=>(g b f).1⟩⟩
 done:=by
  intro X l m n F i J s σ H E I g st q;subst l m n;obtain⟨xs,j,r⟩:=q;obtain⟨its,t,p,G⟩:=I.list j;obtain⟨f0,y,N,A,B,C⟩:=g it (by simp)
  have T:=t.length;exact wpAny_pyNext_list_end (I.ok.hd F) st p.isList (by simp;omega) λh' S=>⟨rfl,I.turned (t':=s.toks) (λb o f e=>S b o f e) f0 y A B C⟩
 self:=λ_ _ _ _ _ st h=>wpAny_pyIter_listiter st h
theorem G9(a it:EZ):Turn P w K tg (i9 K a) [it] it (λi h=>h.IsTupleIter it a i) where
 mem:=by simp
 obj:=λi h st b f=>by
  have e:b=it:=by simpa using f
  subst e;obtain⟨o,e,c,d⟩:=st;exact⟨o,e,λv z=>by rw[d]at z;cases z⟩
 keep:=λi h h' st k=>st.at λo e=>k it (by simp) o e
 item:=by
  intro X l m n F i J s σ H E I g st q;subst l m n;obtain⟨xs,x,j,r⟩:=q;obtain⟨its,t,p,G⟩:=I.tuple j;obtain⟨u,L,M⟩:=t.get r;obtain⟨f0,y,N,A,B,C⟩:=g it (by simp)
  refine wpAny_pyNext_tuple_item st (show s.heap.IsTuple a its.toArray from p) (x:=u) (by simpa using L) λh' D O=>?_
  have Q:Inv X J σ H { s with heap:=h' }:=I.turned (t':=s.toks) (λb o f e=>(O.2 b f).trans e) f0 y A B C;obtain⟨o,e,c,d⟩:=id D;exact⟨u,rfl,nW (s:={ s with heap:=h' }) e c d (by decide) ⟨x,H,Q,M,⟨rfl,λys R=>by rw[I.HL R j];exact r⟩,D,λb f=>(g b f).1⟩⟩
 done:=by
  intro X l m n F i J s σ H E I g st q;subst l m n;obtain⟨xs,j,r⟩:=q;obtain⟨its,t,p,G⟩:=I.tuple j;obtain⟨f0,y,N,A,B,C⟩:=g it (by simp)
  have T:=t.length;exact wpAny_pyNext_tuple_end (I.ok.hd F) st (show s.heap.IsTuple a its.toArray from p) (by simp;omega) λh' S=>⟨rfl,I.turned (t':=s.toks) (λb o f e=>S b o f e) f0 y A B C⟩
 self:=λ_ _ _ _ _ st h=>wpAny_pyIter_tupleiter st h
theorem G'(it:EZ)(lo:Int)(n:Nat):Turn P w K tg (jX lo n) [it] it (λi h=>IsRangeIter h it (lo+(i:Nat) * 1) ((n:Int) - (i:Nat)) 1) where
 mem:=by simp
 obj:=λi h st b a=>by
  have e:b=it:=by simpa using a
  subst e;exact⟨_,st,λv z=>by
   have x:Data.fields _=Data.cell v:=z;cases x⟩
 keep:=λi h h' st k=>k it (by simp) _ st
 item:=by
  intro X d f g j i J s σ H E I c st l;subst d f g;obtain⟨f0,m,y,p,q,r⟩:=c it (by simp)
  have W:=Walks.range (prog:=X.prog) (w:=X.w) (I.ok.hd j) it lo 1 n;refine W.item i s _ _ l st λv h' tk A u kk=>?_;obtain⟨t,rfl⟩:=A;have B:Inv X J σ H { s with heap:=h',toks:=tk }:=I.turned (λb o a e=>kk b o (by simpa using a) e) f0 m p q r
  refine⟨_,rfl,nW (s:={ s with heap:=h',toks:=tk }) (n:= "range_iterator") u rfl rfl (by decide) ⟨.int (lo+i),H,B,⟨t,?_⟩,⟨rfl,rfl⟩,u,λb a=>(c b a).1⟩⟩
  rw[Int.mul_one]
 done:=by
  intro X d f g j i J s σ H E I c st l;subst d f g;obtain⟨f0,m,y,p,q,r⟩:=c it (by simp)
  exact wpAny_pyNext_range_end (I.ok.hd j) st (by have:n<=i:=l;omega) λh' C=>⟨rfl,I.turned (t':=s.toks) (λb o a e=>C b o a e) f0 m p q r⟩
 self:=λ_ _ _ _ _ st h=>wpAny_pyIter_rangeiter st h
def De(K:UP)(tl:TE):TI:=λσ H R=>tl σ H λx Y=>∃a,x=.ref a/\(∃xs,aj K Y a xs)/\R (jW K a) Y
def DF(K:UP)(tl:TE):TI:=λσ H R=>tl σ H λx Y=>∃a,x=.ref a/\(∃xs,ay K Y a xs)/\R (i9 K a) Y
theorem c6{l:Vp}(d:PE X l tl):PI X tg l (De X.K tl):=by
 intro J s σ H R I h;refine aF (d J s σ H _ I h) λv s1 n=>?_;obtain⟨x,Y,c,f,g⟩:=n;obtain⟨a,e,⟨xs,i⟩,q⟩:=g;subst e;cases f
 obtain⟨its,k,p,m⟩:=c.list i;refine rH p.isList ?_;refine⟨s1.ai,[s1.ai],_,_,Y,rfl,c.kept (t':=s1.toks) λb o e=>a5 _ e,HM a _,⟨_,bU _ rfl,rfl,rfl⟩,λb j=>?_,q⟩;have e:b=s1.ai:=by simpa using j
 subst e;exact c.gT (aP _) (c.aH.fresh (aP _))
theorem kC{l:Vp}(d:PE X l tl):PI X tg l (DF X.K tl):=by
 intro J s σ H R I h;refine aF (d J s σ H _ I h) λv s1 n=>?_;obtain⟨x,Y,c,f,g⟩:=n;obtain⟨a,e,⟨xs,i⟩,q⟩:=g;subst e;cases f
 obtain⟨its,k,p,m⟩:=c.tuple i;refine wpAny_pyIter_tuple (show s1.heap.IsTuple a its.toArray from p) ?_;refine⟨s1.ai,[s1.ai],_,_,Y,rfl,c.kept (t':=s1.toks) λb o e=>a5 _ e,G9 a _,⟨_,bU _ rfl,rfl,rfl⟩,λb j=>?_,q⟩;have e:b=s1.ai:=by simpa using j
 subst e;exact c.gT (aP _) (c.aH.fresh (aP _))
theorem BA{R:It->Hp->Prop}{hi:Int}{t u v:Tok}{tk:Nat}(I:Inv X J σ H s)(h1 : -(2 ^ 62)<=lo)(h2:lo<2 ^ 62)(c : -(2 ^ 62)<=hi)(d:hi<2 ^ 62)
  (q:R (jX lo (hi - lo).toNat) H):wA X (pyIter (.ref s.heap.objs.size)) (vm X J σ tg R) E { s with heap:=s.heap.push { cls:=.type "range",data:=.fields #[.int lo t,.int hi u,.int 1 v] },toks:=tk }:=by
 refine wpAny_pyIter_range (IsRange.new ..) (small_one h1 h2 c d) ?_;have a:Inv X J σ H { s with heap:=s.heap.push { cls:=.type "range",data:=.fields #[.int lo t,.int hi u,.int 1 v] },toks:=tk }:=I.kept λb o e=>a5 _ e;refine⟨(s.heap.push { cls:=.type "range",data:=.fields #[.int lo t,.int hi u,.int 1 v] }).objs.size,[(s.heap.push { cls:=.type "range",data:=.fields #[.int lo t,.int hi u,.int 1 v] }).objs.size],_,_,H,rfl,
  a.kept (t':=tk) λb o e=>a5 _ e,G' _ lo (hi - lo).toNat,?_,λb f=>?_,q⟩
 ·have e1:lo+((0:Nat):Int) * 1=lo:=by simp
  have e2:(((hi - lo).toNat:Nat):Int) - ((0:Nat):Int)=abx lo hi 1:=by rw[rangeSize_one];split <;> omega
  show IsRangeIter _ _ (lo+((0:Nat):Int) * 1) ((((hi - lo).toNat:Nat):Int) - ((0:Nat):Int)) 1;rw[e1,e2];exact bU _ rfl
 ·have e:b=(s.heap.push { cls:=.type "range",data:=.fields #[.int lo t,.int hi u,.int 1 v] }).objs.size:=by simpa using f
  subst e;exact a.gT (aP _) (a.aH.fresh (aP _))
def MB(ta:TA):TI:=λσ H R=>ta σ H λvs Y=>∃j:Int,vs=[.int j] /\ -(2 ^ 62)<=j/\j<2 ^ 62/\R (jX 0 j.toNat) Y
def MC(ta:TA):TI:=λσ H R=>ta σ H λvs Y=>∃i j:Int,vs=[.int i,.int j]/\(-(2 ^ 62)<=i/\i<2 ^ 62 /\ -(2 ^ 62)<=j/\j<2 ^ 62)/\R (jX i (j - i).toNat) Y
theorem h6{a:Vp}{ta:TA}{p:Z3}(c:Gl X "range")(d:X.mg "range" = none)(f:PA X [a] ta)(g:U1 [a] X.env=[(false,eval a X.env)]:=by rfl):PI X tg (.Call (.Name "range" p) [a] [] pos) (MB ta):=by
 intro J s σ H R I h;refine Call_ (kB I c d boot_range (vR (aF (f pos J s σ H _ I h) λus s1 n=>?_) g rfl));obtain⟨vs,Y,i,k,b⟩:=n;obtain⟨j,e,b,l,q⟩:=b;subst e;cases k with
 |cons r m =>
  cases m
  obtain⟨t,rfl⟩:=r;exact call_range_1 (BA i (by omega) (by omega) b l (by simpa using q))
theorem HN{a b:Vp}{ta:TA}{p:Z3}(g:Gl X "range")(k:X.mg "range" = none)(l:PA X [a,b] ta)(m:U1 [a,b] X.env=[(false,eval a X.env),(false,eval b X.env)]:=by rfl)(f:U1 [b] X.env=[(false,eval b X.env)]:=by rfl) :
  PI X tg (.Call (.Name "range" p) [a,b] [] pos) (MC ta):=by
 intro J s σ H R I h;refine Call_ (kB I g k boot_range (vR (aF (l pos J s σ H _ I h) λus s1 ⟨vs,Y,n,o,c⟩=>?_) (by rw[m,f]) (by rw[f];rfl)))
 obtain⟨i,j,e,⟨c,u,v,w⟩,q⟩:=c;subst e;cases o with
 |cons r d =>
  cases d with
  |cons x d =>
   cases d
   obtain⟨t,rfl⟩:=r;obtain⟨t',rfl⟩:=x;exact call_range_2 (BA n c u v w q)
def N9(wi:TI)(g:TG)(tb:TS):TS:=λD σ H=>wi σ H λJz Y=>∃W:Nat->Nat->St->Hp->Prop,(∃m,W 0 m σ Y) /\∀i m σ H,W i m σ H ->
 (Jz.stop i H/\D.nx σ H)\/(Jz.go i H /\∃N:St->Hp->Prop,(∀cF H',N cF H' ->∃m',m'<m/\W (i+1) m' cF H') /\∀x H',Jz.i8 i H x H'->g x σ H' λPl H2=>tb { D with nx:=N,ct:=N,bk:=D.nx } Pl H2)
def l4(fp:List EZ)(h:X8):List (EZ×Yy):=fp.filterMap λb=>(h.get? b).map λo=>(b,o)
theorem lI(a:b∈fp)(e:h.get? b=ih o):(b,o)∈l4 fp h:=oG.mpr ⟨b,a,by rw[e];rfl⟩
theorem HP{p:EZ×Yy}(a:p∈l4 fp h):p.1∈fp/\h.get? p.1=ih p.2:=by
 obtain⟨b,c,e⟩:=oG.mp a;cases q:h.get? b with
 |none=>rw[q]at e;cases e
 |some o =>
  rw[q]at e;have d:(b,o)=p:=cG e;subst d;exact⟨c,q⟩
theorem Inv.pinned(I:Inv X J σ H s)(f:∀b∈fp,fu X J H b)(g:∀b∈fp,∃o,s.heap.get? b=ih o /\∀v,o.data ≠ .cell v):Inv X (J++l4 fp s.heap) σ H s:=
 I.Ci λp h=>(bI.mp h).elim (λz=>I.pin p (c4 _ z)) λz=>by
  obtain⟨a,e⟩:=HP z;obtain⟨f0,i,j,_⟩:=f p.1 a;obtain⟨o,c,d⟩:=g p.1 a;rw[e]at c;cases c;exact⟨e,f0,i,j,d⟩
theorem Inv.nj{pl:ac (EZ×Yy)}(I:Inv X (J++pl) σ H s):Inv X J σ H s:=I.Ci λp a=>I.pin p (c4 _ (fA _ a))
theorem eG{wi:TI}{g:TG}(t:PassesOwn X.c2 X.A X.env X.xe)(K:X.calm=true)(hi:PI X tg iter wi)(xa:PG X tg g)(c:dc X body tb)
  (ya:∀x,foldedSetIterable iter X.env x=pure x:=by intro _;rfl):PS X (.For tg iter body [] pos) (N9 wi g tb):=by
 intro J s σ H D I h;refine wpAny_For (aF (hi J s σ H _ I h) λv s1 h1=>aF h1 λyh s2 h2=>?_) ya;obtain⟨it,fp,L,zh,H2,e,za,T,U,M,W,⟨xb,yb⟩,S⟩:=h2;subst e;have z:∀{H':Hp},(∀b∈fp,H' b=none) ->∀b∈fp,fu X J H' b:=λzb b c=>⟨zb b c,(M b c).2⟩;refine codeAny_forLoop_any (λn s'=>∃i p H',Inv X J p H' s'/\L i s'.heap/\(∀b∈fp,H' b=none)/\W i n p H') ?_ xb ⟨0,σ,H2,za,U,λb c=>(M b c).1,yb⟩;rintro n O ⟨i,q,y,P,F,G,xc⟩;rcases S i n q y xc with⟨stop,qn⟩|⟨go,N,yc,step⟩
 ·refine mO t (aF (T.done X rfl rfl rfl K i J O q y X.xe P (z G) F stop) λr zc ⟨C,xd⟩=>?_)
  subst C;exact oJ ⟨q,y,xd,qn⟩
 ·refine mO t (aF (T.item X rfl rfl rfl K i J O q y X.xe P (z G) F go) λr zc ⟨u,C,yd⟩=>?_)
  subst C;refine mO t (aF yd λ_ Q aa=>?_);obtain⟨x,R,zd,ye,y5,B,V⟩:=aa;have Y:=zd.pinned (z V) (T.obj _ _ B);refine mO t (aF (xa _ Q q R x u _ Y ye (step x R y5)) λ_ ze ⟨Z,xf,yf,zf⟩=>?_);refine mO t (aF (c _ ze Z xf _ yf zf) λf E l=>?_);have again:∀{a:St}{j:Hp},Inv X (J++l4 fp Q.heap) a j E->N a j ->∃m,m<n /\∃i p H',Inv X J p H' E/\L i E.heap/\(∀b∈fp,H' b=none)/\W i m p H':=λ{a j} k w=>by
   obtain⟨xg,yg,zg⟩:=yc a j w;refine⟨xg,yg,i+1,a,j,k.nj,T.keep _ _ _ B λb c o e=>(k.pin (b,o) (c4 _ (c4 _ (lI c e)))).1,λb c=>?_,zg⟩;obtain⟨o,e,d⟩:=T.obj _ _ B b c;exact(k.pin (b,o) (c4 _ (c4 _ (lI c e)))).2.1
  cases f with
  |next=>obtain⟨a,j,k,w⟩:=l;exact again k w
  |cont=>obtain⟨a,j,k,w⟩:=l;exact again k w
  |brk=>obtain⟨a,j,k,l⟩:=l;exact⟨a,j,k.nj,l⟩
  |ret v=>obtain⟨x7,a,j,k,xh,l⟩:=l;exact⟨x7,a,j,k.nj,xh,l⟩
theorem h8{g:TG}{D:Ends}(Pv:Nat->St->Hp->Prop)(h0:Pv 0 σ H)(h:∀i σ H,i<=xs.length->Pv i σ H->aj K H a xs)
  (j:∀i x σ H,xs[i]?=ih x->Pv i σ H->g x σ H λb H2=>tb { D with nx:=Pv (i+1),ct:=Pv (i+1),bk:=D.nx } b H2) (k:∀σ H,Pv xs.length σ H->D.nx σ H) :
  ∃W:Nat->Nat->St->Hp->Prop,(∃m,W 0 m σ H) /\∀i m σ H,W i m σ H ->
   ((jW K a).stop i H/\D.nx σ H)\/((jW K a).go i H /\∃N:St->Hp->Prop,(∀c H',N c H' ->∃f,f<m/\W (i+1) f c H') /\∀x H',(jW K a).i8 i H x H'->g x σ H' λb H2=>tb { D with nx:=N,ct:=N,bk:=D.nx } b H2):=by
 refine⟨λi m σ H=>m=xs.length - i/\i<=xs.length/\Pv i σ H,⟨xs.length,by simp,bB _,h0⟩,?_⟩
 rintro i m σ H ⟨rfl,hi,p⟩;have q:=h i σ H hi p
 by_cases d:i<xs.length
 ·refine .inr ⟨⟨xs,xs[i],q,by simp[d]⟩,Pv (i+1),λc H' l=>⟨xs.length - (i+1),by omega,rfl,d,l⟩,λx H' y=>?_⟩
  obtain⟨e,y⟩:=y;subst e;exact j i x σ _ (y xs q) p
 ·have e:i=xs.length:=by omega
  subst e;exact .inl ⟨⟨xs,q,aP _⟩,k σ H p⟩
theorem JX{g:TG}{D:Ends}(Pv:Nat->St->Hp->Prop)(h0:Pv 0 σ H)(h:∀i σ H,i<=xs.length->Pv i σ H->ay K H a xs)
  (j:∀i x σ H,xs[i]?=ih x->Pv i σ H->g x σ H λb H2=>tb { D with nx:=Pv (i+1),ct:=Pv (i+1),bk:=D.nx } b H2) (k:∀σ H,Pv xs.length σ H->D.nx σ H) :
  ∃W:Nat->Nat->St->Hp->Prop,(∃m,W 0 m σ H) /\∀i m σ H,W i m σ H ->
   ((i9 K a).stop i H/\D.nx σ H)\/((i9 K a).go i H /\∃N:St->Hp->Prop,(∀c H',N c H' ->∃f,f<m/\W (i+1) f c H') /\∀x H',(i9 K a).i8 i H x H'->g x σ H' λb H2=>tb { D with nx:=N,ct:=N,bk:=D.nx } b H2):=by
 refine⟨λi m σ H=>m=xs.length - i/\i<=xs.length/\Pv i σ H,⟨xs.length,by simp,bB _,h0⟩,?_⟩
 rintro i m σ H ⟨rfl,hi,p⟩;have q:=h i σ H hi p
 by_cases d:i<xs.length
 ·refine .inr ⟨⟨xs,xs[i],q,by simp[d]⟩,Pv (i+1),λc H' l=>⟨xs.length - (i+1),by omega,rfl,d,l⟩,λx H' y=>?_⟩
  obtain⟨e,y⟩:=y;subst e;exact j i x σ _ (y xs q) p
 ·have e:i=xs.length:=by omega
  subst e;exact .inl ⟨⟨xs,q,aP _⟩,k σ H p⟩
theorem kj{n:Nat}{g:TG}{D:Ends}(Pv:Nat->St->Hp->Prop)(h0:Pv 0 σ H)
  (f:∀i σ H,i<n->Pv i σ H->g (.int (lo+i)) σ H λa H2=>tb { D with nx:=Pv (i+1),ct:=Pv (i+1),bk:=D.nx } a H2) (h:∀σ H,Pv n σ H->D.nx σ H) :
  ∃W:Nat->Nat->St->Hp->Prop,(∃m,W 0 m σ H) /\∀i m σ H,W i m σ H ->
   ((jX lo n).stop i H/\D.nx σ H)\/((jX lo n).go i H /\∃N:St->Hp->Prop,(∀b H',N b H' ->∃d,d<m/\W (i+1) d b H') /\∀x H',(jX lo n).i8 i H x H'->g x σ H' λa H2=>tb { D with nx:=N,ct:=N,bk:=D.nx } a H2):=by
 refine⟨λi m σ H=>m=n - i/\i<=n/\Pv i σ H,⟨n,by simp,bB _,h0⟩,?_⟩
 rintro i m σ H ⟨rfl,hi,p⟩
 by_cases c:i<n
 ·refine .inr ⟨c,Pv (i+1),λb H' j=>⟨n - (i+1),by omega,rfl,c,j⟩,λx H' y=>?_⟩
  obtain⟨e,y⟩:=y;subst e y;exact f i σ _ c p
 ·have e:i=n:=by omega
  subst e;exact .inl ⟨aP _,h σ H p⟩
abbrev R2:=V->V->Hp->VK->Prop
def cp(X:Cx)(f:i'->i'->Zh i')(r:R2):Prop:=
 ∀J s σ H (x y:V) (v u:i') (Q:VK),Inv X J σ H s->RelV x v->RelV y u->r x y H Q ->
  wA X (f v u) (EP X J σ Q) X.xe s
def vn(X:Cx)(f:i'->Zh i')(r:V->Hp->VK->Prop):Prop:=
 ∀J s σ H (x:V) (v:i') (Q:VK),Inv X J σ H s->RelV x v->r x H Q ->
  wA X (f v) (EP X J σ Q) X.xe s
def cU(X:Cx)(f:i')(r:List V->Hp->VK->Prop):Prop:=
 ∀J s σ H (xs:List V) (us:List i') (Q:VK),Inv X J σ H s->Vals xs us->r xs H Q ->
  wA X (call f us) (EP X J σ Q) X.xe s
def Oa(X:Cx)(r:V->Hp->(Bool->Hp->Prop)->Prop):Prop:=
 ∀J s σ H (x:V) (v:i') (Q:Bool->Hp->Prop),Inv X J σ H s->RelV x v->r x H Q ->
  wA X (truthy v) (TP X J σ Q) X.xe s
def jY(r:R2)(ta tb:TE):TE:=λσ H Q=>ta σ H λx Y=>tb σ Y λy H2=>r x y H2 Q
def Pn(r:V->Hp->VK->Prop)(ta:TE):TE:=λσ H Q=>ta σ H λx Y=>r x Y Q
def rI(C:Int->Int->Prop)(g:Int->Int->V):R2:=λx y H Q=>∃i j,x=.int i/\y=.int j/\C i j/\Q (g i j) H
def k9(g:Int->Int->V):R2:=λx y H Q=>∃i j,x=.int i/\y=.int j/\Q (g i j) H
def rU(g:Int->V):V->Hp->VK->Prop:=λx H Q=>∃i,x=.int i/\Q (g i) H
section
variable{a b:Vp}{tb tc:TE}
theorem uT(e:PE X a ta)(g:PE X b tb){R:V->V->Hp->Prop}(I:Inv X J σ H s)
  (h:ta σ H λx Y=>tb σ Y λy H2=>R x y H2) {f:i'->i'->Zh i'}
  (i:∀v u s2 x y H2,Inv X J σ H2 s2->RelV x v->RelV y u->R x y H2->wA X (f v u) Q X.xe s2) :
  wA X (eval a X.env) (λv c=>wA X (eval b X.env) (λu d=>wA X (f v u) Q X.xe d) X.xe c) X.xe s:=by
 refine aF (e J s σ H _ I h) λv s1 p=>?_;obtain⟨x,Y,j,k,l⟩:=p;refine aF (g J s1 σ Y _ j l) λu s2 p=>?_;obtain⟨y,H2,m,n,o⟩:=p;exact i v u s2 x y H2 m k n o
theorem bx{op:ab3}{r:R2}(c:cp X (Yn op) r)(d:PE X a ta)(e:PE X b tb):PE X (.BinOp a op b pos) (jY r ta tb):=by
 intro J s σ H Q I h;exact wpAny_BinOp (uT d e I h λv u s2 x y H2 f g i q=>c J s2 σ H2 x y v u Q f g i q)
theorem uo{op:UnaryOp}{r:V->Hp->VK->Prop}(b:vn X (unaryOp op) r)(c:PE X a ta):PE X (.UnaryOp op a pos) (Pn r ta):=by
 intro J s σ H Q I h;exact UnaryOp_ (aF (c J s σ H _ I h) λv s1 ⟨x,Y,d,e,f⟩=>b J s1 σ Y x v Q d e f)
theorem mD{f:i'->i'->Zh i'}{C:Int->Int->Prop}{g:Int->Int->Int}
  (rule:∀(i j:Int) (t u:Tok) (s:Ux) (Q:i'->Ux->Prop) (E:i'->Ux->Prop),C i j->Q (.int (g i j) s.toks) { s with toks:=s.toks+1 }->wA X (f (.int i t) (.int j u)) Q E s) :
  cp X f (rI C λi j=>.int (g i j)):=by
 intro J s σ H x y v u Q I a b h;obtain⟨i,j,rfl,rfl,c,q⟩:=h;obtain⟨t,rfl⟩:=a;obtain⟨t',rfl⟩:=b;exact rule i j t t' s _ _ c ⟨.int (g i j),H,I.tok _,⟨_,rfl⟩,q⟩
theorem DH{f:i'->i'->Zh i'}{g:Int->Int->Int}
  (rule:∀(i j:Int) (t u:Tok) (s:Ux) (Q:i'->Ux->Prop) (E:i'->Ux->Prop),Q (.int (g i j) s.toks) { s with toks:=s.toks+1 }->wA X (f (.int i t) (.int j u)) Q E s) :
  cp X f (k9 λi j=>.int (g i j)):=by
 intro J s σ H x y v u Q I a b h;obtain⟨i,j,rfl,rfl,q⟩:=h;obtain⟨t,rfl⟩:=a;obtain⟨t',rfl⟩:=b;exact rule i j t t' s _ _ ⟨.int (g i j),H,I.tok _,⟨_,rfl⟩,q⟩
theorem uU{f:i'->i'->Zh i'}{g:Int->Int->Bool}
  (rule:∀(i j:Int) (t u:Tok) (s:Ux) (Q:i'->Ux->Prop) (E:i'->Ux->Prop),Q (.bool (g i j)) s->wA X (f (.int i t) (.int j u)) Q E s) :
  cp X f (k9 λi j=>.bl (g i j)):=by
 intro J s σ H x y v u Q I a b h;obtain⟨i,j,rfl,rfl,q⟩:=h;obtain⟨t,rfl⟩:=a;obtain⟨t',rfl⟩:=b;exact rule i j t t' s _ _ ⟨.bl (g i j),H,I,rfl,q⟩
def Ob(i j:Int):Prop:=0<j/\j<1073741824
def Oc(i j:Int):Prop:=0<=j/\j<=1000000/\i.natAbs<2 ^ 64
def n5(i j:Int):Prop:=(-(2 ^ 64)<i/\i<2 ^ 64)\/(-(2 ^ 64)<j/\j<2 ^ 64)
theorem n5.ok{i j:Int}(h:n5 i j):IntMulOk i j:=by
 rcases h with⟨h1,h2⟩|⟨h1,h2⟩
 ·exact .of_left (intBits_le_64 h1 h2)
 ·exact .of_right (intBits_le_64 h1 h2)
theorem eV:cp X (Yn .Add) (k9 λi j=>.int (i+j)):=DH λ_ _ _ _ _ _ _ q=>add_int q
theorem kD:cp X (Yn .Sub) (k9 λi j=>.int (i - j)):=DH λ_ _ _ _ _ _ _ q=>sub_int q
theorem nM:cp X (Yn .Mult) (rI n5 λi j=>.int (i * j)):=mD λ_ _ _ _ _ _ _ a q=>mul_int q a.ok
theorem JY:cp X (Yn .FloorDiv) (rI Ob λi j=>.int (i / j)):=mD λi j _ _ _ _ _ a q=>by
 have h1:(0:Int)<j:=a.1;have h2:j<1073741824:=a.2;exact floordiv_int (by omega) (by rw[UD i (by omega)];exact q) (.inl (PyProof.noPylong_small (by omega)))
theorem kE:cp X (Yn .Mod) (rI (λ_ j=>0<j) λi j=>.int (i % j)):=mD λi j _ _ _ _ _ a q=>by
 have h1:(0:Int)<j:=a;exact mod_int' (by omega) (by rw[Int.fmod_eq_emod_of_nonneg i (by omega)];exact q)
theorem t2:cp X (Yn .Pow) (rI Oc λi j=>.int (i ^ j.toNat)):=mD λ_ _ _ _ _ _ _ a q=>pow_int_small a.1 a.2.1 a.2.2 q
theorem JZ:cp X (inplaceOp .Mult) (rI n5 λi j=>.int (i * j)):=mD λ_ _ _ _ _ _ _ a q=>imul_int q a.ok
theorem Po{f:i'->Zh i'}{g:Int->Int}
  (rule:∀(i:Int) (t:Tok) (s:Ux) (Q:i'->Ux->Prop) (E:i'->Ux->Prop),Q (.int (g i) s.toks) { s with toks:=s.toks+1 }->wA X (f (.int i t)) Q E s) :
  vn X f (rU λi=>.int (g i)):=by
 intro J s σ H x v Q I a h;obtain⟨i,rfl,q⟩:=h;obtain⟨t,rfl⟩:=a;exact rule i t s _ _ ⟨.int (g i),H,I.tok _,⟨_,rfl⟩,q⟩
theorem t4:vn X (unaryOp .USub) (rU λi=>.int (-i)):=Po λ_ _ _ _ _ q=>neg_int q
end
def DI:V->V->Bool
 |.aK,.aK=>true|.aK,.int _=>true|.int _,.aK=>true|.aK,.bl _=>true|.bl _,.aK=>true|.aK,.str _=>true|.str _,.aK=>true
 |.int _,.int _=>true|.bl _,.bl _=>true|.str _,.str _=>true|.fZ _,.fZ _=>true
 |.int _,.str _=>true|.str _,.int _=>true|.bl _,.str _=>true|.str _,.bl _=>true
 |_,_=>false
def Pp:R2:=λx y H Q=>DI x y=true/\Q (.bl (decide (x=y))) H
def Pq:R2:=λx y H Q=>DI x y=true/\Q (.bl (!decide (x=y))) H
theorem Cj{i j:Int}:decide (V.int i=V.int j)=(i==j):=by
 rw[lj];simp
theorem CU{i j:Bool}:decide (V.bl i=V.bl j)=(i==j):=by
 rw[lj];simp
theorem Ck{i j:Fv}:decide (V.str i=V.str j)=(i==j):=by
 rw[lj];simp
theorem Cm{i j:Array UInt8}:decide (V.fZ i=V.fZ j)=(i.toList==j.toList):=by
 rw[lj];cases i
 cases j
 simp
section
variable{a b:Vp}{tb tc:TE}
theorem cA{Q:VK}{k a:Bool}(I:Inv X J σ H s)(q:Q (.bl k) H)(e:k=a):EP X J σ Q (.bool a) s:=by
 subst e;exact⟨.bl k,H,I,rfl,q⟩
theorem c7:cp X (VH .Eq) Pp:=by
 intro J s σ H x y v u Q I c a h;obtain⟨b,q⟩:=h;cases x with
 |aK =>
  cases c
  cases y with
  |aK=>cases a;exact abM (cA I q (by simp))
  |bl j=>cases a;exact abO (cA I q (by simp))
  |int j=>obtain⟨t',rfl⟩:=a;exact abN (cA I q (by simp))
  |str j=>obtain⟨t',rfl⟩:=a;exact abL (cA I q (by simp))
  |_=>exact absurd (show false=true from b) b'
 |bl i =>
  cases c
  cases y with
  |aK=>cases a;exact abQ (cA I q (by simp))
  |bl j=>cases a;exact eq_bool (cA I q CU)
  |str j=>obtain⟨t',rfl⟩:=a;exact abt (cA I q (by simp))
  |_=>exact absurd (show false=true from b) b'
 |int i =>
  obtain⟨t,rfl⟩:=c;cases y with
  |aK=>cases a;exact abP (cA I q (by simp))
  |int j=>obtain⟨t',rfl⟩:=a;exact eq_int (cA I q Cj)
  |str j=>obtain⟨t',rfl⟩:=a;exact abr (cA I q (by simp))
  |_=>exact absurd (show false=true from b) b'
 |str i =>
  obtain⟨t,rfl⟩:=c;cases y with
  |aK=>cases a;exact abK (cA I q (by simp))
  |bl j=>cases a;exact abq (cA I q (by simp))
  |int j=>obtain⟨t',rfl⟩:=a;exact abp (cA I q (by simp))
  |str j=>obtain⟨t',rfl⟩:=a;exact eq_str (cA I q Ck)
  |_=>exact absurd (show false=true from b) b'
 |fZ i =>
  obtain⟨t,rfl⟩:=c;cases y with
  |fZ j=>obtain⟨t',rfl⟩:=a;exact PySem.W.eq_bytes (cA I q Cm)
  |_=>exact absurd (show false=true from b) b'
 |_=>cases y <;> exact absurd (show false=true from b) b'
theorem jH:cp X (VH .NotEq) Pq:=by
 intro J s σ H x y v u Q I c a h;obtain⟨b,q⟩:=h;cases x with
 |aK =>
  cases c
  cases y with
  |aK=>cases a;exact abF (cA I q (by simp))
  |bl j=>cases a;exact abH (cA I q (by simp))
  |int j=>obtain⟨t',rfl⟩:=a;exact abG (cA I q (by simp))
  |str j=>obtain⟨t',rfl⟩:=a;exact abE (cA I q (by simp))
  |_=>exact absurd (show false=true from b) b'
 |bl i =>
  cases c
  cases y with
  |aK=>cases a;exact abJ (cA I q (by simp))
  |bl j=>cases a;exact ne_bool (cA I q (c3 not CU))
  |str j=>obtain⟨t',rfl⟩:=a;exact abo (cA I q (by simp))
  |_=>exact absurd (show false=true from b) b'
 |int i =>
  obtain⟨t,rfl⟩:=c;cases y with
  |aK=>cases a;exact abI (cA I q (by simp))
  |int j=>obtain⟨t',rfl⟩:=a;exact ne_int (cA I q (c3 not Cj))
  |str j=>obtain⟨t',rfl⟩:=a;exact abn (cA I q (by simp))
  |_=>exact absurd (show false=true from b) b'
 |str i =>
  obtain⟨t,rfl⟩:=c;cases y with
  |aK=>cases a;exact abD (cA I q (by simp))
  |bl j=>cases a;exact abm (cA I q (by simp))
  |int j=>obtain⟨t',rfl⟩:=a;exact abl (cA I q (by simp))
  |str j=>obtain⟨t',rfl⟩:=a;exact ne_str (cA I q (c3 not Ck))
  |_=>exact absurd (show false=true from b) b'
 |fZ i =>
  obtain⟨t,rfl⟩:=c;cases y with
  |fZ j=>obtain⟨t',rfl⟩:=a;exact PySem.W.ne_bytes (cA I q (c3 not Cm))
  |_=>exact absurd (show false=true from b) b'
 |_=>cases y <;> exact absurd (show false=true from b) b'
theorem Df:cp X (VH .Lt) (k9 λi j=>.bl (decide (i<j))):=uU λ_ _ _ _ _ _ _ q=>lt_int q
theorem Dg:cp X (VH .LtE) (k9 λi j=>.bl (decide (i<=j))):=uU λ_ _ _ _ _ _ _ q=>le_int q
theorem Dh:cp X (VH .Gt) (k9 λi j=>.bl (decide (j<i))):=uU λ_ _ _ _ _ _ _ q=>gt_int q
theorem gy:cp X (VH .Is) (λx y H Q=>y=.aK/\Q (.bl (decide (x=.aK))) H):=by
 intro J s σ H x y v u Q I a b h;obtain⟨rfl,q⟩:=h;cases b
 refine is_none_gen (cA I q ?_);cases x <;> first
  |(cases a;rfl)
  |(obtain⟨t,rfl⟩:=a;rfl)
theorem bA(b:Vp){op:ZQ}(h:op ≠ .In:=by decide)(h2:op ≠ .NotIn:=by decide):behindInMarks op b=false:=by
 have e1:(op==ab7)=false:=by cases op <;> first|rfl|exact absurd rfl h
 have e2:(op==abc)=false:=by cases op <;> first|rfl|exact absurd rfl h2
 cases b <;> simp[behindInMarks,e1,e2]
theorem jA{op:ZQ}{r:R2}(c:cp X (VH op) r)(d:PE X a ta)(e:PE X b tb)(f:behindInMarks op b=false):PE X (.Compare a [op] [b] pos) (jY r ta tb):=by
 intro J s σ H Q I h;exact wpAny_Compare1 (uT d e I h λv u s2 x y H2 g i j q=>c J s2 σ H2 x y v u Q g i j q) f
def qh(t:TE):TT:=λσ H Q=>t σ H λx H'=>∃k,x=.bl k/\Q k H'
theorem bp{op:ZQ}{r:R2}(d:cp X (VH op) r)(f:PE X a ta)(g:PE X b tb)(i:behindInMarks op b=false):PT X (.Compare a [op] [b] pos) (qh (jY r ta tb)):=by
 intro J s σ H Q I h;refine wpAny_isTrue_Compare1 (aF (f J s σ H _ I h) λv s1 ⟨x,Y,j,l,m⟩=>aF (g J s1 σ Y _ j m) λu s2 ⟨y,H2,n,o,p⟩ =>
  aF (d J s2 σ H2 x y v u _ n l o p) λc B ⟨z,q,t,w,k,e,A⟩=>?_) i
 subst e;cases w
 exact g6 ⟨q,t,A⟩
def CV(r r':R2)(ta tb tc:TE):TE:=λσ H Q=>ta σ H λx Y=>tb σ Y λy H2=>r x y H2 λz H3=>∃k,z=.bl k /\
 (if k=true then tc σ H3 λw' H4=>r' y w' H4 Q else Q (.bl false) H3)
theorem IW{op f:ZQ}{r g:R2}(o:cp X (VH op) r)(n:cp X (VH f) g)(p:PE X a ta)(q:PE X b tb)(t:PE X c tc)
  (w:lastMarks [op,f] [b,c]=false:=by with_unfolding_all rfl):PE X (.Compare a [op,f] [b,c] pos) (CV r g ta tb tc):=by
 intro J s σ H Q I h;refine Compare_chain (aF (p J s σ H _ I h) λv s1 ⟨x,Y,A,B,C⟩=>chain_link (aF (q J s1 σ Y _ A C) λu s2 ⟨y,H2,D,i,E⟩ =>
  aF (o J s2 σ H2 x y v u _ D B i E) λd F ⟨z,j,l,G,k,e,m⟩=>?_)) w
 subst e;cases G
 refine g6 ?_;cases k with
 |false=>exact ite_ff ⟨.bl false,j,l,rfl,m⟩
 |true=>exact ite_tt (chain_last (aF (t J F σ j _ l m) λK L ⟨M,N,O,P,R⟩=>n J L σ N y M u K Q O i P R))
theorem IX{op f:ZQ}{r g:R2}(o:cp X (VH op) r)(n:cp X (VH f) g)(p:PE X a ta)(q:PE X b tb)(t:PE X c tc)
  (w:lastMarks [op,f] [b,c]=false:=by with_unfolding_all rfl):PT X (.Compare a [op,f] [b,c] pos) (qh (CV r g ta tb tc)):=by
 intro J s σ H Q I h;refine isTrue_chain (aF (p J s σ H _ I h) λv s1 ⟨x,Y,A,B,C⟩=>test_link (aF (q J s1 σ Y _ A C) λu s2 ⟨y,H2,D,i,E⟩ =>
  aF (o J s2 σ H2 x y v u _ D B i E) λd F ⟨z,j,l,G,k,e,m⟩=>?_)) w
 subst e;cases G
 refine g6 ?_;cases k with
 |false =>
  obtain⟨xa,K,L⟩:=m;cases K
  exact ite_ff ⟨j,l,L⟩
 |true =>
  refine ite_tt (test_last (aF (t J F σ j _ l m) λM N ⟨O,P,R,S,T⟩=>aF (n J N σ P y O u M _ R i S T) λya za aa=>?_));obtain⟨z2,U,V,W,xb,e2,Z⟩:=aa;subst e2;cases W
  exact g6 ⟨U,V,Z⟩
def DJ(K:UP)(x:V)(H:Hp)(k:Bool):Prop:=
 match x with
 |.aK=>k=false
 |.bl b=>k=b
 |.int i=>k=(i != 0)
 |.str y=>y.length<=UB/\k=((y.length:Int) != 0)
 |.fZ y=>y.size<=UB/\k=((y.size:Int) != 0)
 |.ref p=>(∃xs,aj K H p xs/\k = !xs.isEmpty)\/(∃xs,ay K H p xs/\k = !xs.isEmpty) \/∃kvs,H p=ih (.dK kvs)/\k = !kvs.isEmpty
 |_=>False
theorem Ha{κ:Type}{kvs:ac (κ×V)}{vs:ac (κ×i')}(r:KV kvs vs):(!vs.isEmpty) = !kvs.isEmpty:=by
 cases r <;> rfl
theorem sf(r:Vals xs its):(!its.toArray.isEmpty) = !xs.isEmpty:=by
 cases r <;> simp
theorem kF:(UB:Nat)<2 ^ 63:=by rw[aV];decide
theorem LC:Oa X (λx H Q=>∃k,DJ X.K x H k/\Q k H):=by
 intro J s σ H x v Q I c h;obtain⟨k,e,q⟩:=h;have o:=kF;have u:UB=16777216:=aV;cases x with
 |aK =>
  cases c
  have a:k=false:=e;subst a;exact truthy_none ⟨H,I,q⟩
 |bl b =>
  cases c
  have a:k=b:=e;subst a;exact g6 ⟨H,I,q⟩
 |int i =>
  obtain⟨t,rfl⟩:=c;have a:k=(i != 0):=e;subst a;exact PySem.P.truthy_int ⟨H,I,q⟩
 |str y =>
  obtain⟨t,rfl⟩:=c;obtain⟨l,a⟩:y.length<=UB/\k=((y.length:Int) != 0):=e;subst a;exact PySem.P.truthy_str (by omega) ⟨H,I.tok _,q⟩
 |fZ y =>
  obtain⟨t,rfl⟩:=c;obtain⟨l,a⟩:y.size<=UB/\k=((y.size:Int) != 0):=e;subst a;exact PySem.W.truthy_bytes (by omega) ⟨H,I.tok _,q⟩
 |ref p =>
  cases c
  have a:(∃xs,aj X.K H p xs/\k = !xs.isEmpty)\/(∃xs,ay X.K H p xs/\k = !xs.isEmpty) \/∃kvs,H p=bn kvs/\k = !kvs.isEmpty:=e;rcases a with⟨xs,d,a⟩|⟨xs,d,a⟩|⟨kvs,d,a⟩
  ·subst a
   obtain⟨its,r,f,j⟩:=I.list d;have g:=r.length;exact wpAny_truthy_list f.isList (by simp only[bY];omega) ⟨H,I.tok _,by rw[sf r];exact q⟩
  ·subst a
   obtain⟨its,r,f,j⟩:=I.tuple d;have g:=r.length;exact truthy_tuple f (by simp only[bY];omega) ⟨H,I.tok _,by rw[sf r];exact q⟩
  ·subst a
   obtain⟨j,n,vs,r,m⟩:kvs.length<=UB/\(p==sysModules)=false /\∃vs,KV kvs vs/\s.heap.DictOf (cj X.prog X.w) p vs:=I.aH p _ d;have g:kvs.length=vs.length:=cK r;exact wpAny_truthy_dict n m (by omega) ⟨H,I.tok _,by rw[Ha r];exact q⟩
 |_=>exact(show False from e).elim
theorem km(c:PE X a ta)(d:∀b,isTrue a X.env b=(do let v <- b;standAt a.pos;holding [v] (truthy v))) :
  PT X a (λσ H Q=>ta σ H λx H'=>∃k,DJ X.K x H' k/\Q k H'):=by
 intro J s σ H Q I h;exact isTrue_plain (aF (c J s σ H _ I h) λv s1 ⟨x,Y,e,f,g⟩=>LC J s1 σ Y x v Q e f g) (d _)
theorem Ai:cp X (Yn .Add) (λx y H Q=>∃i j,x=.str i/\y=.str j/\i.length+j.length<=UB/\Q (.str (i++j)) H):=by
 intro J s σ H x y v u Q I a b h;obtain⟨i,j,rfl,rfl,c,q⟩:=h;obtain⟨t,rfl⟩:=a;obtain⟨t',rfl⟩:=b;exact add_str (λt' tk=>⟨.str (i++j),H,I.tok _,⟨_,rfl⟩,q⟩) c
theorem vals1{x:V}(r:Vals [x] us):∃u,us=[u]/\RelV x u:=by
 cases r with
 |cons a b=>cases b;exact⟨_,rfl,a⟩
theorem vals2{x:V}(r:Vals [x,y] us):∃u a,us=[u,a]/\RelV x u/\RelV y a:=by
 cases r with
 |cons b c =>
  cases c with
  |cons d e=>cases e;exact⟨_,_,rfl,b,d⟩
theorem BB:cU X (.builtin "abs") (λxs H Q=>∃i,xs=[.int i]/\Q (.int (if i<0 then -i else i)) H):=by
 intro J s σ H xs us Q I r h;obtain⟨i,rfl,q⟩:=h;obtain⟨u,rfl,t,rfl⟩:=vals1 r;exact call_abs_int λu tk=>⟨.int (if i<0 then -i else i),H,I.tok _,⟨_,rfl⟩,q⟩
theorem AM(b:X.calm=true):cU X (.builtin "max") (λxs H Q=>∃i j,xs=[.int i,.int j]/\Q (.int (if j>i then j else i)) H):=by
 intro J s σ H xs us Q I r h;obtain⟨i,j,rfl,q⟩:=h;obtain⟨u,c,rfl,⟨t,rfl⟩,⟨t',rfl⟩⟩:=vals2 r;refine max_two_ints (I.ok.hd b) λh' tk k=>⟨_,H,I.kept k,?_,q⟩
 by_cases a:j>i
 ·rw[aE a,aE a];exact⟨_,rfl⟩
 ·rw[ao a,ao a];exact⟨_,rfl⟩
theorem AN(b:X.calm=true):cU X (.builtin "min") (λxs H Q=>∃i j,xs=[.int i,.int j]/\Q (.int (if j<i then j else i)) H):=by
 intro J s σ H xs us Q I r h;obtain⟨i,j,rfl,q⟩:=h;obtain⟨u,c,rfl,⟨t,rfl⟩,⟨t',rfl⟩⟩:=vals2 r;refine min_two_ints (I.ok.hd b) λh' tk k=>⟨_,H,I.kept k,?_,q⟩
 by_cases a:j<i
 ·rw[aE a,aE a];exact⟨_,rfl⟩
 ·rw[ao a,ao a];exact⟨_,rfl⟩
end
structure kN(h:X8)(x dx C:EZ)(mA:Fv->Option i'):Prop where
 obj:h.get? x=ih (Yg C dx)
 ns:h.Ns1 dx mA
 ne:dx≠x
theorem o5{dx:EZ}(n:h.Ns1 dx mA):∃od,h.get? dx=ih od /\∀name,Y8 name od=ih (mA name):=by
 obtain⟨o,es,ep,c,d,f,_,g⟩:=n;refine⟨o,c,λname=>?_⟩;have e:=g name;unfold nsFind findBy at e;rw[<-UE]at e;unfold Y8;rw[d]
 dsimp only
 split
 ·rename_i y q
  rw[q]at e;exact c3 ih e
 ·rename_i q
  rw[q]at e;have a:es.toList.any (·.refKey)=false:=by
   rw[vS];intro y i;obtain⟨z,t,b⟩:=f y (Array.mem_toList_iff.mp i);simp[acE,b]
  have j : ¬ es.toList.any (·.refKey)=true:=by rw[a];exact b'
  rw[ao j];exact c3 ih e
theorem kN.look{x dx:EZ}(I:kN h x dx C mA):∃od,PySem.W.InstAt h x (Yg C dx) C (ih od) /\∀name,Y8 name od=ih (mA name):=
 let ⟨od,a,b⟩:=o5 I.ns
 ⟨od,⟨I.obj,rfl,rfl,a⟩,b⟩
section
variable{x dx:EZ}{v:i'}
theorem get_map(X:K.In s.heap)(I:kN s.heap x dx C mA)(b:Y3 K C name=true)(c:Zk K C=true)
  (d:X' K (.ref C) name=ih none) (e:mA name=ih v) (a:Z' v=true) (h:Q v { s with toks:=s.toks+1 }) :
  Uz (UO prog w) A (getAttr (.ref x) name Qt) Q E s:=by
 obtain⟨od,f,g⟩:=I.look;exact PySem.W.get_value X f (EU b).1 (PySem.W.findObj_own c d rfl (by rw[g,e])) a h
theorem IY{pl:Zh Bool}{Q:i'×List i'->Ux->Prop}(X:K.In s.heap)(I:kN s.heap x dx C mA)(a:Y3 K C name=true)
  (b:X' K (.ref C) name=ih (ih (.ref f))) (c:ZD K (.ref f)=true) (d:mA name=none) (h:Q (.ref f,[.ref x]) s) :
  Uz (UO prog w) A (getMethod (.ref x) name pl) Q E s:=by
 obtain⟨od,e,g⟩:=I.look;exact PySem.W.method_fn X e (EU a).1 (EU a).2 b (dA.mp c) (by show(Y8 name od).map (·.isSome)=ih false;rw[g,d];rfl) h
theorem J0{Q:Unit->Ux->Prop}(X:K.In s.heap)(I:kN s.heap x dx C mA)
  (k:X' K (.ref C) "__setattr__" = ih (ih (.builtin "object.__setattr__"))) (l:ZY K C=true) (m:Zu K C name=ih none) (n:Zk K C=true)
  (o:YD mA ns) (hsz:ns.length<=UB)
  (h:∀h',kN h' x dx C (λy=>if y=name then ih v else mA y)->X7 dx s.heap h'->Q () { s with heap:=h',toks:=s.toks+2 }) :
  Uz (UO prog w) A (setAttr (.ref x) name v) Q E s:=by
 obtain⟨od,e,z⟩:=I.look;refine UG X e k (PySem.W.osa_open (s:={ s with toks:=s.toks+1 }) (r:=none) X e l m λb=>?_);obtain⟨cd,p,f⟩:=PySem.W.any_some n;have q:s.heap.get? x=ih ⟨.ref C,ih dx,.plain,#[]⟩:=I.obj;refine ae (ak (ae (ae (vT q (ae (abk (s:={ s with toks:=s.toks+1 }) (PySem.W.looks_clsIn X p) ?_))))));rw[f];refine ak (a:=ih dx) (ae (ak (ae ?_)));refine wpAny_nsSet1 (s:={ s with toks:=s.toks+1 }) I.ns λh' c d=>?_;obtain⟨B,t,u,g,i,j⟩:=c.count (UH name v o);refine ae (wpAny_lookBehind g (by rw[i];exact pastItsLine_dict (eg j (by rw[cS];omega))) ?_)
 exact ak (h _ ⟨(d.2 _ (aS I.ne)).trans I.obj,c,I.ne⟩ d)
theorem IZ{R:Y7->Ux->Prop}{vs:ac i'}(X:K.In s.heap)(a:aaf K C=true)
  (hi:X' K (.ref C) "__init__" = ih (ih (.ref f))) (b:PySem.W.typeIn K (.ref f)=ih (.type "function"))
  (h:codeAny (UO prog w) (A.under (.builtin "type.__call__" ⟨.ref C::vs,kw⟩)) (.call (.ref f) ⟨.ref (s.ai+1)::vs,kw⟩) (PySem.W.InitBack (s.ai+1) R)
   { s with heap:=(s.heap.push X4).push (Yg C s.ai) }) :
  codeAny (UO prog w) A (.call (.ref C) ⟨vs,kw⟩) R s:=by
 obtain⟨c,g,d,t,os⟩:=s;exact PySem.W.make_core (PySem.W.makes_of X a) (PySem.W.looks_findIn X hi) (λself=>PySem.W.bind_fn X self b) (.inl rfl) h
end
def b3(f:Fv)(v:V):List (Fv×V)->List (Fv×V)
 |[]=>[(f,v)]
 |(g,x)::r=>if g=f then (g,v)::r else (g,x)::b3 f v r
theorem w8(f g:Fv)(v:V):∀fs:ac (Fv×V),(b3 f v fs).lookup g=if g=f then ih v else fs.lookup g
 |[]=>by
  show VA g [(f,v)]=_
  by_cases h:g=f
  ·have a:(g==f)=true:=dA.mpr h
   simp only[VA,a,aE h]
  ·have a:(g==f)=false:=iC.mpr h
   simp only[VA,a,ao h]
 |(k,x)::r=>by
  have c:=w8 f g v r;rw[show b3 f v ((k,x)::r)=(if k=f then (k,v)::r else (k,x)::b3 f v r) from rfl]
  by_cases b:k=f
  ·rw[aE b]
   by_cases h:g=k
   ·have a:(g==k)=true:=dA.mpr h
    simp only[VA,a,aE (h.trans b)]
   ·have a:(g==k)=false:=iC.mpr h
    simp only[VA,a,ao (λe:g=f=>h (e.trans b.symm))]
  ·rw[ao b]
   by_cases h:g=k
   ·have a:(g==k)=true:=dA.mpr h
    simp only[VA,a,ao (λe:g=f=>b (h.symm.trans e))]
   ·have a:(g==k)=false:=iC.mpr h
    simp only[VA,a];exact c
theorem sC(f:Fv)(v:V):∀fs:ac (Fv×V),f∈(b3 f v fs).map (·.1) /\∀g,g∈fs.map (·.1)->g∈(b3 f v fs).map (·.1)
 |[]=>⟨by simp[b3],λg h=>by simp at h⟩
 |(k,x)::r=>by
  obtain⟨b,c⟩:=sC f v r;rw[show b3 f v ((k,x)::r)=(if k=f then (k,v)::r else (k,x)::b3 f v r) from rfl]
  by_cases a:k=f
  ·rw[aE a]
   subst a;exact⟨by simp,λg h=>by simpa using h⟩
  ·rw[ao a]
   refine⟨?_,λg h=>?_⟩
   ·rw[b2]
    exact ba _ b
   ·rw[b2]at h⊢
    rcases bH.mp h with e|e
    ·exact bH.mpr (.inl e)
    ·exact ba _ (c g e)
theorem w9(f:Fv)(v:V):∀fs:ac (Fv×V),(b3 f v fs).length<=fs.length+1
 |[]=>by simp[b3]
 |(k,x)::r=>by
  have b:=w9 f v r;rw[show b3 f v ((k,x)::r)=(if k=f then (k,v)::r else (k,x)::b3 f v r) from rfl]
  by_cases a:k=f
  ·rw[aE a,cS,cS];omega
  ·rw[ao a,cS,cS];omega
theorem er.some_of{o:ad i'}(r:er (ih v) o):∃u,o=ih u/\RelV v u:=by
 cases o with
 |none=>exact(show False from r).elim
 |some u=>exact⟨u,rfl,r⟩
theorem er.none_of{o:ad i'}(r:er none o):o=none:=by
 cases o with
 |none=>rfl
 |some u=>exact(show False from r).elim
theorem AO(r:RelV v u):Z' u=true:=by
 cases v with
 |aK=>cases (show u=VB from r);rfl
 |bl b=>cases (show u=YG b from r);rfl
 |int i=>obtain⟨t,e⟩:=(show ∃t,u=Y5 i t from r);cases e;rfl
 |str x=>obtain⟨t,e⟩:=(show ∃t,u=YT x t from r);cases e;rfl
 |fZ b=>obtain⟨t,e⟩:=(show ∃t,u=aa5 b t from r);cases e;rfl
 |jT b=>obtain⟨t,e⟩:=(show ∃t,u=ZU b t from r);cases e;rfl
 |ref a=>cases (show u=UR a from r);rfl
 |ty n=>cases (show u=Ye n from r);rfl
section
variable{dx:EZ}{fs Qo:ac (Fv×V)}
theorem pL(b:cm P w H h)(e:H a=ih (.ins C dx fs)):∃mA,kN h a dx C mA/\(∀f,er (fs.lookup f) (mA f))/\YD mA (fs.map (·.1))/\fs.length<=1000/\H dx=ih (.own a):=by
 obtain⟨d,z,ne,c,mA,n,r,q⟩:=(show bC P w H h a (.ins C dx fs) from b a _ e);exact⟨mA,⟨c,n,ne⟩,r,q,z,d⟩
end
structure gn(K:UP)(C:EZ):Prop where
 pg:Y3 K C ZN=true
 hd:Zk K C=true
 po:ZY K C=true
 sa:X' K (.ref C) "__setattr__" = ih (ih (.builtin "object.__setattr__"))
theorem gn.get(c:gn K C)(f:Fv):Y3 K C f=true:=c.pg
def d6(K:UP)(C:EZ)(f:Fv):Prop:=X' K (.ref C) f=ih none
theorem d6.MD{f:Fv}(n:d6 K C f):Zu K C f=ih none:=by
 unfold Zu;rw[show X' K (.ref C) f=ih none from n]
 rfl
structure Meth(K:UP)(C:EZ)(m:Fv)(f:EZ):Prop where
 at_:X' K (.ref C) m=ih (ih (.ref f))
 fn:ZD K (.ref f)=true
 kp:Ys K (.ref f)=true
section
variable{dx:EZ}{fs:ac (Fv×V)}{f:Fv}
theorem Aj{b:Bool}(I:Inv X J σ H s)(e:H a=ih (.ins C dx fs))(c:gn X.K C)(n:d6 X.K C f)(l:fs.lookup f=ih v)
  (h:∀u s',Inv X J σ H s'->RelV v u->Q u s'):Uz X.c2 A (getAttr (.ref a) f b) Q E s:=by
 obtain⟨mA,O,r,_,_,_⟩:=pL I.aH e;obtain⟨u,g,d⟩:=er.some_of (v:=v) (o:=mA f) (by rw[<-l];exact r f)
 exact get_map I.bS O (c.get f) c.hd n g (AO d) (h u _ (I.tok _) d)
theorem Ak{m:Fv}{g:EZ}{pl:Zh Bool}{Q:i'×List i'->Ux->Prop}(I:Inv X J σ H s)(e:H a=ih (.ins C dx fs))(c:gn X.K C)(k:Meth X.K C m g)(l:fs.lookup m=none)
  (h:Q (.ref g,[.ref a]) s):Uz X.c2 A (getMethod (.ref a) m pl) Q E s:=by
 obtain⟨mA,O,r,_,_,_⟩:=pL I.aH e;have b:mA m=none:=er.none_of (by rw[<-l];exact r m)
 exact IY I.bS O (c.get m) k.at_ k.fn b h
theorem Al{Q:Unit->Ux->Prop}(I:Inv X J σ H s)(e:H a=ih (.ins C dx fs))(c:gn X.K C)(n:d6 X.K C f)(w:fs.length<1000)(j:RelV y u)
  (h:∀s',Inv X J σ (upd H a (.ins C dx (b3 f y fs))) s'->Q () s'):Uz X.c2 A (setAttr (.ref a) f u) Q E s:=by
 obtain⟨mA,O,r,wi,_,i⟩:=pL I.aH e;have k:(fs.map (·.1)).length<=UB:=by rw[aB,aV];omega
 refine J0 I.bS O c.sa c.po n.MD c.hd wi k λh' d l=>h _ ?_;have m:∃o,h'.get? dx=ih o:=let ⟨o,_,_,p,_⟩:=d.ns;⟨o,p⟩;refine I.write (x:=a) (e:=dx) (by rw[e];exact Vu) (.inr i) (λb q t z=>(l.2 b t).trans z) m ?_
 refine⟨by rw[ag O.ne];exact i,?_,O.ne,d.obj,_,d.ns,λg=>?_,λg v=>?_⟩
 ·have:=w9 f y fs;omega
 ·show er ((b3 f y fs).lookup g) (if g=f then ih u else mA g)
  rw[w8]
  by_cases q:g=f
  ·rw[aE q,aE q];exact j
  ·rw[ao q,ao q];exact r g
 ·by_cases q:g=f
  ·rw[q];exact(sC f y fs).1
  ·refine(sC f y fs).2 g (wi g λz=>v ?_)
   show(if g=f then ih u else mA g)=none;rw[ao q];exact z
theorem Inv.made(I:Inv X J σ H s):Inv X J σ (upd (upd H s.ai (.own (s.ai+1))) (s.ai+1) (.ins C s.ai []))
  { s with heap:=(s.heap.push X4).push (Yg C s.ai) }:=by
 have e1:(s.heap.push X4).get? s.ai=ih X4:=bU s.heap rfl;have e2:((s.heap.push X4).push (Yg C s.ai)).get? (s.ai+1)=ih (Yg C s.ai):=by
  have:=bU (s.heap.push X4) (o:=Yg C s.ai) rfl
  rwa [g7]at this
 have e3:(s.heap.push X4).Ns s.ai (λ_=>none):=⟨X4,#[],_,e1,rfl,(λe c=>absurd c (by simp)),λ_=>rfl⟩
 have d:=I.laid (a:=s.ai) (o:=.own (s.ai+1)) (h':=s.heap.push X4) (t':=s.toks) (λb u q=>a5 _ q) (aP _) ⟨_,e1⟩;refine d.laid (a:=s.ai+1) (o:=.ins C s.ai []) (t':=s.toks) (λb u q=>a5 _ q) (abh (g7 _ _)) ?_;have ne:s.ai≠s.ai+1:=bK (j4 _);refine⟨by rw[ag ne,af],bB _,ne,e2,λ_=>none,(ZV e3).at λo q=>a5 _ q,λ_=>Vu,λy f=>absurd rfl f⟩
theorem Cn{f:Fv}(b:attributeBase e f env (eval e env)=eval e env)
  (h:Uz (UO prog w) A (eval e env) (λo a=>Uz (UO prog w) A (getAttr o f true) Q E a) E s):Uz (UO prog w) A (eval (.Attribute e f pos) env) Q E s:=
 Attribute_any_ h (by rw[arm_eval_Attribute,b])
end
def uV(K:UP)(ta:TE)(f:Fv):TE:=λσ H Q=>ta σ H λx Y=>∃a C dx fs v,x=.ref a/\Y a=ih (.ins C dx fs)/\gn K C/\d6 K C f/\fs.lookup f=ih v/\Q v Y
def Od(K:UP)(ta tv:TE)(f:Fv):TS:=λD σ H=>tv σ H λy Y=>ta σ Y λx H2=>∃a C dx fs,x=.ref a/\H2 a=ih (.ins C dx fs)/\gn K C/\d6 K C f/\fs.length<1000 /\
 D.nx σ (upd H2 a (.ins C dx (b3 f y fs)))
def uW(X:Cx)(op:ab3)(rd:V->V->Hp->VK->Prop):Prop:=
 ∀J s σ H (x y:V) (u v:i') (Q:VK),Inv X J σ H s->RelV x u->RelV y v->rd x y H Q->wA X (inplaceOp op u v) (EP X J σ Q) X.xe s
def J'(K:UP)(ta tv:TE)(rd:V->V->Hp->VK->Prop)(f:Fv):TS:=λD σ H=>ta σ H λx Y=>∃a C dx fs v,x=.ref a/\Y a=ih (.ins C dx fs)/\gn K C/\d6 K C f/\fs.lookup f=ih v /\
 tv σ Y λy H2=>rd v y H2 λz H3=>∃El Qo,H3 a=ih (.ins C El Qo)/\Qo.length<1000/\D.nx σ (upd H3 a (.ins C El (b3 f z Qo)))
section
variable{o:Vp}{f:Fv}{Qy:Z3}
theorem ck(b:PE X e ta)(d:attributeBase e f X.env (eval e X.env)=eval e X.env):PE X (.Attribute e f pos) (uV X.K ta f):=by
 intro J s σ H Q I h;refine Cn d (aF (b J s σ H _ I h) λu s1 p=>?_);obtain⟨x,Y,g,i,a,C,dx,fs,v,ex,j,c,n,l,q⟩:=p;subst ex;obtain rfl:u=UR a:=i;exact Aj g j c n l λo s2 k m=>⟨v,Y,k,m,q⟩
theorem fU(b:PE X o ta)(d:PE X value tv)(e:swapsWith value (ih (.Attribute o f Qh)) pos.line X.env=pure false):PS X (.Assign [.Attribute o f Qh] value pos) (Od X.K ta tv f):=by
 intro J s σ H D I h;refine UI (aF (d J s σ H _ I h) λu s1 ⟨y,Y,g,i,q⟩=>aF (b J s1 σ Y _ g q) λj s2 w=>?_) e;obtain⟨x,H2,k,m,a,C,dx,fs,ex,p,c,n,l,r⟩:=w;subst ex;obtain rfl:j=UR a:=m;exact Al k p c n l i λv t=>⟨σ,_,t,r⟩
theorem m7{op:ab3}{b:V->V->Hp->VK->Prop}(g:PE X o ta)(i:PE X value tv)(d:uW X op b):PS X (.AugAssign (.Attribute o f Qy) op value pos) (J' X.K ta tv b f):=by
 intro J s σ H D I h;refine wpAny_AugAssign_AttributeAny (aF (g J s σ H _ I h) λj s1 U=>?_);obtain⟨x,Y,k,m,a,C,dx,fs,v,ex,p,c,n,l,q⟩:=U;subst ex;obtain rfl:j=UR a:=m;refine Aj k p c n l λu s2 r t=>aF (i J s2 σ Y _ r q) λw A ⟨y,H2,B,E,F⟩=>aF (d J A σ H2 v y u w _ B t E F) λQ R U=>?_;obtain⟨z,S,G,L,P,Qo,e,M,N⟩:=U;exact Al G e c n M L λT O=>⟨σ,_,O,N⟩
def Oe:V->V->Hp->VK->Prop:=λx y H Q=>∃i j,x=.int i/\y=.int j/\Q (.int (i+j)) H
theorem pY:uW X .Add Oe:=by
 rintro J s σ H x y u v Q I a b ⟨i,j,rfl,rfl,q⟩;obtain⟨t,rfl⟩:=(show ∃t,u=Y5 i t from a);obtain⟨t',rfl⟩:=(show ∃t',v=Y5 j t' from b);exact abS ⟨.int (i+j),H,I.tok _,⟨_,rfl⟩,q⟩
end
section
variable{c:i'}{b:Bool}
inductive gE(K:UP)(H:Hp):V->i'->Prop where
 |aK:gE K H .aK (.type "NoneType")
 |bl (x:Bool):gE K H (.bl x) (.type "bool")
 |int (i:Int):gE K H (.int i) (.type "int")
 |str (x:Fv):gE K H (.str x) (.type "str")
 |jT (x:UInt64):gE K H (.jT x) (.type "float")
 |lst {a:EZ}{xs:List V} (e:H a=ih (.lst xs)):gE K H (.ref a) (.type "list")
 |bu {a:EZ}{o:Yy}{xs:List V} (e:H a=ih (.bu o (.lst xs))):gE K H (.ref a) (.type "list")
 |tup {a:EZ}{xs:List V} (e:H a=ih (.tup xs)):gE K H (.ref a) (.type "tuple")
 |dK {a:EZ}{kvs:List (Key×V)} (e:H a=ih (.dK kvs)):gE K H (.ref a) (.type "dict")
 |dT {a:EZ}{kvs:List (List Key×V)} (e:H a=ih (.dT kvs)):gE K H (.ref a) (.type "dict")
 |ins {a C dx:EZ}{fs:List (Fv×V)} (e:H a=ih (.ins C dx fs)) (cl:gn K C) (ha:X' K (.ref C) "__class__" = ih (ih (.builtin "object.__class__")))
   (hn:PySem.W.specialIn K (.builtin "object.__class__") "__get__" = ih (ih (.builtin "getset_descriptor.__get__"))) (VO:PySem.W.takesIn K (.builtin "object.__class__")=ih true)
   (hm:PySem.W.mroIn K C (.type "object")=ih true):gE K H (.ref a) (.ref C)
theorem HQ{x:V}{t:i'}(I:Inv X J σ H s)(d:RelV x u)(ty:gE X.K H x t)(e:PySem.W.kitOne X.K t c=ih b)(h:∀tk,Q (.bool b) { s with toks:=tk }) :
  Uz X.c2 A (call (.builtin "isinstance") [u,c]) Q E s:=by
 cases ty with
 |aK=>cases (show u=VB from d);exact iD PySem.W.kitx_none I.bS Vu e (λz=>nomatch z) h
 |bl y=>cases (show u=YG y from d);exact iD PySem.W.kitx_bool I.bS Vu e (λz=>nomatch z) h
 |int i=>obtain⟨t,q⟩:=(show ∃t,u=Y5 i t from d);cases q;exact iD PySem.W.kitx_int I.bS Vu e (λz=>nomatch z) h
 |str y=>obtain⟨t,q⟩:=(show ∃t,u=YT y t from d);cases q;exact iD PySem.W.kitx_str I.bS Vu e (λz=>nomatch z) h
 |jT y=>obtain⟨t,q⟩:=(show ∃t,u=ZU y t from d);cases q;exact iD PySem.W.kitx_float I.bS Vu e (λz=>nomatch z) h
 |@lst a xs f =>
  cases (show u=UR a from d)
  obtain⟨_,_,n,_,h1⟩:=(show bC X.prog X.w H s.heap a (.lst xs) from I.aH a _ f);exact iD UJ I.bS ⟨_,h1,rfl⟩ e (λz=>nomatch z) h
 |@bu a k xs f =>
  cases (show u=UR a from d)
  obtain⟨_,_,_,n,_,h1⟩:=(show bC X.prog X.w H s.heap a (.bu k (.lst xs)) from I.aH a _ f);exact iD UJ I.bS ⟨_,h1,rfl⟩ e (λz=>nomatch z) h
 |@tup a xs f =>
  cases (show u=UR a from d)
  obtain⟨_,_,_,p⟩:=(show bC X.prog X.w H s.heap a (.tup xs) from I.aH a _ f);obtain⟨o,h1,h2,_⟩:=p;exact iD PySem.W.kitx_tuple I.bS ⟨o,h1,h2⟩ e (λz=>nomatch z) h
 |@dK a kvs f =>
  cases (show u=UR a from d)
  obtain⟨_,_,vs,_,p⟩:=(show bC X.prog X.w H s.heap a (.dK kvs) from I.aH a _ f);obtain⟨o,es,ep,h1,h2,_⟩:=p;exact iD UK I.bS ⟨o,h1,h2.1⟩ e (λz=>nomatch z) h
 |@dT a kvs f =>
  cases (show u=UR a from d)
  obtain⟨_,_,xs,_,o,es,ep,h1,h2,_⟩:=(show bC X.prog X.w H s.heap a (.dT kvs) from I.aH a _ f);exact iD UK I.bS ⟨o,h1,h2.1⟩ e (λz=>nomatch z) h
 |@ins a C dx fs f g l m j r =>
  cases (show u=UR a from d)
  obtain⟨mA,O,_⟩:=pL I.aH f;obtain⟨od,v,_⟩:=O.look;exact iD (PySem.W.kitx_own (g.get _) g.hd l m j r) I.bS v e (λz=>nomatch z) h
end
structure aZ(k:Nat)(A:Yk):Prop where
 hd:A.handled=none
 dp:A.depth+3 * k+5<recursionLimit
 un:A.units+16 * k+200<YV
 gd:A.guards=ih []
theorem aZ.mono{k:Nat}(r:aZ k A)(h:j<=k):aZ j A:=⟨r.hd,by have:=r.dp;omega,by have:=r.un;omega,r.gd⟩
theorem aZ.deeper{k:Nat}(r:aZ (k+1) A)(env:Zs):aZ k (A.deeper env):=
 ⟨r.hd,by have:=r.dp;show A.depth+1+3 * k+5<_;omega,by have:=r.un;show A.units+3+16 * k+200<_;omega,by first|exact r.gd|simp[Around.deeper,r.gd]⟩
theorem Hb:(A.under (.builtin "type.__call__" ⟨.ref C::us,kw⟩)).depth=A.depth+1:=by
 first|rfl|simp[Zn,Code.weight,Code.isCreation,abb,Code.isCaller,abj,ZO,guardIds]
theorem Hc:(A.under (.builtin "type.__call__" ⟨.ref C::us,kw⟩)).units=A.units+1:=by
 first|rfl|simp[Zn,Code.cUnits,abj,ZO]
theorem Gz(h:A.guards=ih []):(A.under (.builtin "type.__call__" ⟨.ref C::us,kw⟩)).guards=ih []:=by
 first|exact h|(simp[Zn,Code.guards,abb,guardIds,pushGuards,h])
theorem aZ.make{k:Nat}(r:aZ (k+1) A)(C:EZ)(us:ac i')(kw:ac (Fv×i')):aZ k (A.under (.builtin "type.__call__" ⟨.ref C::us,kw⟩)):=
 ⟨r.hd,by have:=r.dp;rw[Hb];omega,by have:=r.un;rw[Hc];omega,Gz r.gd⟩
theorem aZ.depth{k:Nat}(r:aZ k A):A.depth<recursionLimit:=by have:=r.dp;omega
theorem aZ.units{k:Nat}(r:aZ k A):A.units+64<YV:=by have:=r.un;omega
def uX:TA:=λ_ H Q=>Q [] H
def uq(ta:TE)(tr:TA):TA:=λσ H Q=>ta σ H λx Y=>tr σ Y λxs H2=>Q (x::xs) H2
section
variable{t:TA}
theorem ah:PA X [] uX:=λ_ _ _ _ H Q I h=>aah ⟨[],H,I,.nil,h⟩
theorem aa(a:PE X e te)(b:PA X es t)(c:U1 (e::es) X.env=(false,eval e X.env)::U1 es X.env:=by rfl):PA X (e::es) (uq te t):=by
 intro pos J s σ H Q I h;rw[c];show Uz _ _ (spliced ((false,eval e X.env)::backTo pos (U1 es X.env))) _ _ s;refine aac (aF (a J s σ H _ I h) λu s1 l=>?_);obtain⟨x,Y,d,f,g⟩:=l;exact aF (b pos J s1 σ Y _ d g) λus s2 ⟨xs,H2,i,j,k⟩=>⟨x::xs,H2,i,.cons f j,k⟩
def Of(t:TA):TE:=λσ H Q=>t σ H λxs Y=>xs.length<=UB /\∀p,Y p=none->Q (.ref p) (upd Y p (.tup xs))
def Og(t:TA):TE:=λσ H Q=>t σ H λxs Y=>xs.length<=UB /\∀p,Y p=none->Q (.ref p) (upd Y p (.lst xs))
theorem b7{c}(h:PA X es t):PE X (.Tuple es c pos) (Of t):=by
 intro J s σ H Q I d;refine wpAny_Tuple_spliced (aF (h pos J s σ H _ I d) λus s1 ⟨xs,Y,a,r,z,q⟩=>⟨by rw[<-r.length];exact z,?_⟩)
 have f:Y s1.ai=none:=a.aH.fresh (aP _);refine⟨.ref s1.ai,upd Y s1.ai (.tup xs),a.laid (t':=s1.toks) (λb u e=>a5 _ e) (aP _) ?_,rfl,q _ f⟩;exact⟨z,us,r,⟨_,bU _ rfl,rfl,_,rfl,rfl⟩⟩
theorem ej(h:PA X es t):PE X (.List es pos) (Og t):=by
 intro J s σ H Q I c;refine wpAny_List_spliced (aF (h pos J s σ H _ I c) λus s1 ⟨xs,Y,a,r,z,q⟩=>⟨by rw[<-r.length];exact z,?_⟩)
 have d:Y s1.ai=none:=a.aH.fresh (aP _);refine⟨.ref s1.ai,upd Y s1.ai (.lst xs),a.laid (t':=s1.toks) (λb u e=>a5 _ e) (aP _) ?_,rfl,q _ d⟩;exact⟨z,us,0,r,bU _ rfl⟩
end
abbrev Sp:=List V->Hp->VK->XK->Prop
end L2
variable{sp:L2.Sp}
namespace L2
open Spec PyProof.Rows
abbrev gG:=List Zs->Hp->Ux->XK->i'->Ux->Prop
structure kO(P:Yc)(w:Yi)(K:UP)(mg:Fv->Option i')(base:X8)(A:Yk)(outer:List Zs)(s:Ux)(H:Hp):Prop where
 frames:A.frames=ih outer
 mod:Mod K mg base
 bs:∀b o,base.get? b=ih o->s.heap.get? b=ih o/\H b=none
 hT:base.objs.size<=s.ai
 ft:s.heap.FunFrames base outer
 iy:∀b∈ea outer,H b=none
 aH:cm P w H s.heap
 bare:Y6 s.gens
def CE(outer:List Zs)(P:Yc)(w:Yi)(H:Hp)(s:Ux)(Q:VK)(u:i')(s':Ux):Prop:=
 ∃v H',s'.os=s.os/\Y6 s'.gens/\Un (ea outer) [] H H' s.heap s'.heap/\cm P w H' s'.heap/\RelV v u/\Q v H'
def CR(CX:gG)(outer:List Zs)(P:Yc)(w:Yi)(H:Hp)(s:Ux)(Q:VK)(E:XK)(r:Y7)(s':Ux):Prop:=
 match r with
 |.ok (.ret u)=>CE outer P w H s Q u s'
 |.ok _=>False
 |.error e=>CX outer H s E e s'
structure aT(P:Yc)(w:Yi)(K:UP)(mg:Fv->Option i')(base:X8)(CX:gG)(k:Nat)(f:EZ)(fd:X2)(ps:List Fv)(sp:Sp):Prop where
 len:∀vs H Q E,sp vs H Q E->vs.length=ps.length
 run:∀(A:Yk) (outer:List Zs) (s:Ux) (H:Hp) (args:Args) (us:List i') (vs:List V) (Q:VK) (E:XK),aZ k A->kO P w K mg base A outer s H->ZM s fd args (ps.zip us)->Vals vs us->sp vs H Q E ->
  codeAny (UO P w) A (.call (.ref f) args) (CR CX outer P w H s Q E) s
theorem kO.make(e:kO P w K mg base A outer s H)(C:EZ)(us:ac i')(kw:ac (Fv×i')) :
  kO P w K mg base (A.under (.builtin "type.__call__" ⟨.ref C::us,kw⟩)) outer s H:=⟨by first|exact e.frames|(simpa [Zn,Code.envs,ZO,pushEnvs] using e.frames),e.mod,e.bs,e.hT,e.ft,e.iy,e.aH,e.bare⟩
theorem Inv.qA(I:Inv X J σ H s):kO X.prog X.w X.K X.mg X.base X.A X.stack s H:=
 ⟨I.ok.frames,I.ok.mod,I.bs,eg I.ok.hT I.sz,I.stack,I.tm,I.aH,I.bare⟩
theorem Inv.after{Q:VK}(I:Inv X J σ H s)(h:CE X.stack X.prog X.w H s Q u s'):EP X J σ Q u s':=by
 obtain⟨v,H',os,a,un,c,r,q⟩:=h;obtain⟨f,g,d,t,e⟩:=s';obtain rfl:e=s.os:=os;exact⟨v,H',I.call (h':=f) (g':=g) (d':=d) (t':=t) (ch:=[]) un c a (λb z=>absurd z (by simp)),r,q⟩
def ur(sp:Sp)(Qj:List V)(E:XK)(t:TA):TE:=λσ H Q=>t σ H λvs Y=>sp (vs++Qj) Y Q E
def Di(C:EZ)(m:Fv)(sp:Sp)(Qj:List V)(E:XK)(ta:TE)(t:TA):TE:=λσ H Q=>ta σ H λx Y=>∃a dx fs,x=.ref a/\Y a=ih (.ins C dx fs)/\fs.lookup m=none /\
 t σ Y λvs H2=>sp (x::(vs++Qj)) H2 Q E
def ME(C:EZ)(sp:Sp)(Qj:List V)(E:XK)(t:TA):TE:=λσ H Q=>t σ H λvs Y=>∀x dx,Y x=none->Y dx=none->dx≠x ->
 sp (.ref x::(vs++Qj)) (upd (upd Y dx (.own x)) x (.ins C dx [])) (λv H2=>v=.aK/\Q (.ref x) H2) E
def Binds(K:UP)(fd:X2)(ps:List Fv)(ds:List i'):Prop:=
 ∀(s:Ux) (us:List i'),K.In s.heap->(us++ds).length=ps.length->ZM s fd ⟨us,[]⟩ (ps.zip (us++ds))
theorem Binds.all(h:∀us:ac i',us.length=ps.length->bindArgs fd ⟨us,[]⟩=pure (ps.zip us)):Binds K fd ps []:=λs us _ a=>by
 rw[eU]at a⊢;exact .of_eq (h us a)
def Passes(CX:gG)(X:Cx)(E:XK):Prop:= ∀(J:List (EZ×Yy)) (σ:St) (H:Hp) (s:Ux) (e:i') (s':Ux),Inv X J σ H s->CX X.stack H s E e s'->X.xe e s'
section
variable{CX:gG}{k:Nat}{Qj:ac V}{ds:ac i'}{E:XK}{m:Fv}{p:Z3}{o:Vp}{t:TA}
theorem t6{Q:VK}(F:aT X.prog X.w X.K X.mg X.base CX k f fd ps sp)(c:aZ k X.A)(d:Binds X.K fd ps ds)(g:Vals Qj ds)(i:Passes CX X E)
  (I:Inv X J σ H s) (r:Vals vs us) (h:sp (vs++Qj) H Q E):wA X (call (.ref f) us) (EP X J σ Q) X.xe s:=by
 have b:Vals (vs++Qj) (us++ds):=r.append g;have j:(us++ds).length=ps.length:=by rw[<-b.length];exact F.len _ _ _ _ h
 refine j5 (ll (F.run X.A X.stack s H ⟨us,[]⟩ (us++ds) (vs++Qj) Q E c I.qA (d s us I.bS j) b h) λr s' a=>?_);cases r with
 |error e=>exact i J σ H s e s' I a
 |ok l =>
  cases l with
  |ret u=>exact I.after a
  |next=>exact Vd a
  |brk=>exact Vd a
  |cont=>exact Vd a
theorem fM(F:aT X.prog X.w X.K X.mg X.base CX k f fd ps sp)(d:aZ k X.A)(g:Gl X x)(i:X.mg x=ih (.ref f))(j:Ys X.K (.ref f)=true)(l:Binds X.K fd ps ds)(m:Vals Qj ds)(n:Passes CX X E)
  (o:PA X (e::es) t) (b:(x==("__debug__" : Fv))=false:=by decide) (u:U1 (e::es) X.env=(false,eval e X.env)::U1 es X.env:=by rfl) (c:(backTo pos (U1 es X.env)).any (·.1)=false:=by rfl) :
  PE X (.Call (.Name x p) (e::es) [] pos) (ur sp Qj E t):=by
 intro J s σ H Q I h;refine mQ (lW I g i ?_ b);refine EV (h₀:=X.base) I.ok.mod.k6 j (aF (o pos J s σ H _ I h) λus s1 ⟨vs,Y,a,r,q⟩=>⟨a.bS,?_⟩) u c;exact t6 F d l m n a r q
theorem hA{pl:Zh Bool}(p:PE X o ta)(c:gn X.K C)(b:Meth X.K C m f)(F:aT X.prog X.w X.K X.mg X.base CX k f fd ps sp)(v:aZ k X.A)(y:Binds X.K fd ps ds)(z:Vals Qj ds)(B:Passes CX X E)(D:PA X (e::es) t)
  (j:U1 (e::es) X.env=(false,eval e X.env)::U1 es X.env:=by rfl) (n:(backTo pos (U1 es X.env)).any (·.1)=false:=by rfl)
  (G:eval (.Call (.Attribute o m Qf) (e::es) [] pos) X.env=(do
   let d <- eval o X.env
   standAt Qf.atName
   let (f,first) <- holding [d] (getMethod d m pl)
   callWith pos f first (backTo pos (U1 (e::es) X.env)) (backToKw pos (keywordEach [] X.env))):=by rfl) :
  PE X (.Call (.Attribute o m Qf) (e::es) [] pos) (Di C m sp Qj E ta t):=by
 intro J s σ H Q I h;refine UL (pl:=pl) (aF (p J s σ H _ I h) λu s1 O=>?_) G;obtain⟨x,Y,g,L,a,dx,fs,ex,M,l,q⟩:=O;subst ex;obtain rfl:u=UR a:=L;refine Ak g M c b l ?_;refine EV (first:=[.ref a]) (h₀:=X.base) I.ok.mod.k6 b.kp (aF (D pos J s1 σ Y _ g q) λus s2 ⟨vs,H2,i,r,N⟩=>⟨i.bS,?_⟩) j n;exact t6 (us:=.ref a::us) (vs:=.ref a::vs) F v y z B i (.cons rfl r) N
theorem I0{pl:Zh Bool}(g:PE X o ta)(c:gn X.K C)(d:Meth X.K C m f)(F:aT X.prog X.w X.K X.mg X.base CX k f fd ps sp)(i:aZ k X.A)(j:Binds X.K fd ps ds)(n:Vals Qj ds)(p:Passes CX X E)
  (r:eval (.Call (.Attribute o m Qf) [] [] pos) X.env=(do
   let e <- eval o X.env
   standAt Qf.atName
   let (f,first) <- holding [e] (getMethod e m pl)
   callWith pos f first (backTo pos (U1 [] X.env)) (backToKw pos (keywordEach [] X.env))):=by rfl) :
  PE X (.Call (.Attribute o m Qf) [] [] pos) (Di C m sp Qj E ta uX):=by
 intro J s σ H Q I h;refine UL (pl:=pl) (aF (g J s σ H _ I h) λu s1 y=>?_) r;obtain⟨x,Y,b,t,a,dx,fs,ex,v,l,q⟩:=y;subst ex;obtain rfl:u=UR a:=t;refine Ak b v c d l ?_;exact PySem.W.callWith_K0 (first:=[.ref a]) b.bS d.kp (t6 (us:=[.ref a]) (vs:=[.ref a]) F i j n p b (.cons rfl .nil) q)
structure Mk(K:UP)(C f:EZ):Prop where
 makes:aaf K C=true
 init:X' K (.ref C) "__init__" = ih (ih (.ref f))
 fn:ZD K (.ref f)=true
 kp:Ys K (.ref C)=true
theorem I1{Q:VK}(M:Mk X.K C f)(F:aT X.prog X.w X.K X.mg X.base CX k f fd ps sp)(g:aZ (k+1) X.A)(i:Binds X.K fd ps ds)(j:Vals Qj ds)
  (l:Passes CX X E) (I:Inv X J σ H s) (r:Vals vs us)
  (h:∀x dx,H x=none->H dx=none->dx≠x->sp (.ref x::(vs++Qj)) (upd (upd H dx (.own x)) x (.ins C dx [])) (λv H2=>v=.aK/\Q (.ref x) H2) E) :
  wA X (call (.ref C) us) (EP X J σ Q) X.xe s:=by
 have c:=h (s.ai+1) s.ai (I.aH.fresh (f6 _)) (I.aH.fresh (aP _)) (bK (j4 _));have b:=Inv.made (C:=C) I;have d:Vals (V.ref (s.ai+1)::(vs++Qj)) (UR (s.ai+1)::(us++ds)):=.cons rfl (r.append j);have m:(UR (s.ai+1)::us++ds).length=ps.length:=by
  have e:=d.length;rw[F.len _ _ _ _ c]at e;exact e.symm
 refine j5 (IZ (f:=f) I.bS M.makes M.init (dA.mp M.fn) (ll (F.run _ X.stack _ _ ⟨UR (s.ai+1)::us,[]⟩ (UR (s.ai+1)::(us++ds)) _ _ E (g.make C us [])
  (b.qA.make C us []) (i _ (UR (s.ai+1)::us) b.bS m) d c) λr s' a=>?_))
 cases r with
 |error e=>exact l J σ _ _ e s' b a
 |ok n =>
  cases n with
  |ret u =>
   obtain⟨v,H',o,p,q,t⟩:=b.after a;subst q;exact⟨p,⟨V.ref (s.ai+1),H',o,rfl,t⟩⟩
  |next=>exact Vd a
  |brk=>exact Vd a
  |cont=>exact Vd a
theorem tu(M:Mk X.K C f)(F:aT X.prog X.w X.K X.mg X.base CX k f fd ps sp)(d:aZ (k+1) X.A)(g:Gl X x)(i:X.mg x=ih (.ref C))(j:Binds X.K fd ps ds)(l:Vals Qj ds)(m:Passes CX X E)
  (n:PA X (e::es) t) (b:(x==("__debug__" : Fv))=false:=by decide) (o:U1 (e::es) X.env=(false,eval e X.env)::U1 es X.env:=by rfl) (c:(backTo pos (U1 es X.env)).any (·.1)=false:=by rfl) :
  PE X (.Call (.Name x p) (e::es) [] pos) (ME C sp Qj E t):=by
 intro J s σ H Q I h;refine mQ (lW I g i ?_ b);refine EV (h₀:=X.base) I.ok.mod.k6 M.kp (aF (n pos J s σ H _ I h) λus s1 ⟨vs,Y,a,r,q⟩=>⟨a.bS,?_⟩) o c;exact I1 M F d j l m a r q
end
structure bf(N P:List Fv)(sc:YW):Prop where
 kind:sc.kind=.function
 co:sc.isCoroutine=false
 gen:sc.isGenerator=false
 nd:N.Nodup
 pre:N.take P.length=P
 par:∀x∈P,sc.names.lookup x=ih .local\/sc.names.lookup x=ih .cell
 LD:∀y∈sc.names,y.2 ≠ .free
theorem AQ{kindOf:Fv->Option Yo}{x:Fv}:∀{binds:ac (Fv×i')}{m:Fv->Option i'},(∀v,(x,v)∉ binds)->bindL kindOf binds m x=m x
 |[],_,_=>rfl
 |(n,v)::r,m,h=>by
  unfold bindL;rw[AQ λw a=>h w (ba _ a)];split
  ·have:x≠n:=by rintro rfl;exact h v aW
   simp[this]
  ·rfl
theorem AR{kindOf:Fv->Option Yo}{x:Fv}:∀{binds:ac (Fv×i')}{m:Fv->Option i'},(∀v,(x,v)∉ binds)->bindC kindOf binds m x=m x
 |[],_,_=>rfl
 |(n,v)::r,m,h=>by
  unfold bindC;rw[AR λw a=>h w (ba _ a)];split
  ·rfl
  ·have:x≠n:=by rintro rfl;exact h v aW
   simp[this]
theorem AS{kindOf:Fv->Option Yo}{x:Fv}{v:i'}:∀{P:ac Fv}{vs:ac i'}{i:Nat}{m:Fv->Option i'},P.Nodup->P[i]?=ih x->vs[i]?=ih v->kindOf x=ih .local ->
  bindL kindOf (P.zip vs) m x=ih v
 |[],_,_,_,_,h,_,_=>by simp at h
 |_::_,[],_,_,_,_,h,_=>by simp at h
 |p::P,w::vs,0,m,a,h1,h2,b=>by
  simp at h1 h2;subst h1;subst h2;show bindL kindOf ((p,w)::P.zip vs) m p=_;unfold bindL;rw[AQ λv c=>(d4.mp a).1 (EW c).1,aE b];simp
 |p::P,w::vs,i+1,m,a,h1,h2,b=>by
  show bindL kindOf ((p,w)::P.zip vs) m x=_;unfold bindL;exact AS (i:=i) (d4.mp a).2 (by simpa using h1) (by simpa using h2) b
theorem AU{kindOf:Fv->Option Yo}{x:Fv}{v:i'}:∀{P:ac Fv}{vs:ac i'}{i:Nat}{m:Fv->Option i'},P.Nodup->P[i]?=ih x->vs[i]?=ih v->kindOf x≠ih .local ->
  bindC kindOf (P.zip vs) m x=ih v
 |[],_,_,_,_,h,_,_=>by simp at h
 |_::_,[],_,_,_,_,h,_=>by simp at h
 |p::P,w::vs,0,m,a,h1,h2,b=>by
  simp at h1 h2;subst h1;subst h2;show bindC kindOf ((p,w)::P.zip vs) m p=_;unfold bindC;rw[AR λv c=>(d4.mp a).1 (EW c).1,ao b];simp
 |p::P,w::vs,i+1,m,a,h1,h2,b=>by
  show bindC kindOf ((p,w)::P.zip vs) m x=_;unfold bindC;exact AU (i:=i) (d4.mp a).2 (by simpa using h1) (by simpa using h2) b
def start(N:List Fv)(vs:List V):St:=vs.map ih++Yw (N.length - vs.length) none
def d2(CX:gG)(P:Yc)(w:Yi)(K:UP)(mg:Fv->Option i')(base:X8)(N:List Fv)(qual:Fv)(scope:YW)(f:EZ)(cd:i')(A:Yk)(outer:List Zs)(s:Ux)(H:Hp)(E:XK):Cx where
 prog:=P
 w:=w
 K:=K
 mg:=mg
 base:=base
 A:=A.deeper (envOfC qual scope s.ai f cd)
 N:=N
 d7:=s
 gS:=H
 env:=envOfC qual scope s.ai f cd
 outer:=outer
 stack:=envOfC qual scope s.ai f cd::outer
 ex:=[]
 calm:=true
 fn:=λ_=>true
 pn:=[]
 xe:=λe s'=>Uz (UO P w) (A.deeper (envOfC qual scope s.ai f cd)) (leaving (envOfC qual scope s.ai f cd) e) (λ_ vo=>CX outer H s E e vo) (λe' vo=>CX outer H s E e' vo) s'
theorem sO{n:Nat}(h:sc.names.lookup x=ih .cell):∃c,(cellsFrom n sc.names []).lookup x=ih c:=by
 have q:=UM sc.names n [] (.inl h);exact rJ.mp q
theorem HR{CX:gG}{E:XK}
  (S:bf N ps scope) (o:A.handled=none) (e0:kO P w K mg base A outer s H) (D:vs.length=ps.length) (r:Vals vs us)
  (x:InCallC s s.heap.objs.size (bindL (envOfC qual scope s.heap.objs.size f cd).kindOf (ps.zip us) λ_=>none) (cellsFrom (s.heap.objs.size+1) scope.names []) (bindC (envOfC qual scope s.heap.objs.size f cd).kindOf (ps.zip us) λ_=>none) s1) :
  Inv (d2 CX P w K mg base N qual scope f cd A outer s H E) [] (start N vs) H s1:=by
 have C:ps.length<=N.length:=by have:=c3 Y2 S.pre;rw[cH]at this;omega
 obtain⟨h1,tk,rfl,l⟩:=x.done;have g:∀b:EZ,b ∉ (d2 CX P w K mg base N qual scope f cd A outer s H E).ex:=λb z=>absurd (show b∈([]:ac EZ) from z) (by simp)
 refine⟨⟨e0.mod,S.kind,rfl,rfl,aP _,λy z c h1 h2=>?_,λy hy=>?_,λy c _ h=>?_,λ_=>o,Around.frames_deeper e0.frames,.inr ⟨rfl,rfl⟩,λb z=>absurd z (g b),e0.bs,e0.hT,λb _ _=>g b,λb z=>absurd z (g b),e0.ft,e0.iy⟩,
  rfl,e0.bare,Un.kept l,⟨_,x.toInCall.ns,λi y v h1 h2 F=>?_⟩,λy c h=>⟨_,x.cell y c h⟩,e0.aH.fresh (aP _),λy c h=>?_,λp d=>absurd (show p∈([]:ac (EZ×Yy)) from d) (by simp),e0.aH.kept l,?_⟩
 ·exact name_of_addr x.apart (jh h1) (jh h2)
 ·have hy:scope.names.lookup y=ih .cell\/scope.names.lookup y=ih .free:=hy
  rcases hy with hy|hy
  ·exact sO hy
  ·exact absurd rfl (S.LD _ (jh hy))
 ·exact oH (x.above y c (jh h))
 ·have hi:i<vs.length:=by
   unfold start at h2
   by_cases hi:i<vs.length
   ·exact hi
   ·rw[UN (by simpa using hi)]at h2
    rw[List.getElem?_replicate]at h2;split at h2 <;> cases h2
  have t:vs[i]?=ih v:=by
   unfold start at h2;rw[EX (by simpa using hi),cI]at h2
   cases e:vs[i]? with
   |none=>rw[e]at h2;cases h2
   |some a=>rw[e]at h2;cases h2;rfl
  obtain⟨u,m,B⟩:=r.get t;have d:ps[i]?=ih y:=by
   rw[<-S.pre,List.getElem?_take_of_lt (by omega)];exact h1
  have j:ps.Nodup:=by rw[<-S.pre];exact S.nd.sublist (ji _ _)
  refine⟨u,B,?_⟩;rcases S.par y (eK d) with k|k
  ·exact .inl ⟨k,AS j d m k⟩
  ·obtain⟨c,e⟩:=sO (n:=s.heap.objs.size+1) k
   refine .inr ⟨.inl k,c,e,?_⟩;have q:=x.cell y c e;rw[AU j d m (by show scope.names.lookup y≠_;rw[k];decide)]at q
   exact q
 ·exact e0.aH.fresh (oH (x.above y c (jh h)))
 ·unfold start
  show _=N.length;rw[bV,aB,vU];omega
theorem uu{CX:gG}{k:Nat}{i:Arguments}{p kV:i'}(lk:K.lookup f=ih ⟨oc,od,.func (Yh name qual i body scope p kV Qd pm an Qa ct),Qm⟩)(D:YS K Qa qual=true)(S:bf N ps scope)
  (j:∀vs H Q E,sp vs H Q E->vs.length=ps.length)
  (B:∀(A:Yk) (outer:ac Zs) (s:Ux) (H:Hp) (vs:ac V) (Q:VK) (E:XK),aZ k (A.deeper (envOfC qual scope s.ai f Qa))->sp vs H Q E ->
   ∃t,dc (d2 CX P w K mg base N qual scope f Qa A outer s H E) body t/\t { nx:=λ_ H'=>Q .aK H',rt:=Q } (start N vs) H) :
  aT P w K mg base CX (k+1) f (Yh name qual i body scope p kV Qd pm an Qa ct) ps sp:=by
 refine⟨j,λA outer s H args us vs Q E g e0 G r l=>?_⟩;have J:=j _ _ _ _ l;have z:K.In s.heap:=e0.mod.k6.keeps λb o e=>(e0.bs b o e).1;have F:s.heap.NoLimit:=e0.mod.nolimit.keeps λb o e=>(e0.bs b o e).1;have C:∀y∈ps.zip us,scope.names.lookup y.1=ih .local\/(scope.names.lookup y.1=ih .cell/\((cellsFrom (s.ai+1) scope.names []).lookup y.1).isSome=true):=λ⟨n,v⟩ L=>by
  rcases S.par n (EW L).1 with q|q
  ·exact .inl q
  ·exact .inr ⟨q,UM _ _ _ (.inl q)⟩
 refine codeAny_call_function g.depth (z _ _ lk) rfl S.co S.gen rfl (PySem.W.codeRec_of z D) (G _ _ _ _ ?_);refine wpAny_newFunctionEnv_cells S.kind C λenv M s1 x=>?_;subst M;refine⟨F.keeps x.toInCall.keep,codeAny_func ?_⟩;obtain⟨t,O,R⟩:=B A outer s H vs Q E (g.deeper _) l;have I:Inv (d2 CX P w K mg base N qual scope f Qa A outer s H E) [] (start N vs) H s1:=HR S g.hd e0 J r x;refine hY (O [] s1 (start N vs) H _ I R) (λT s' c=>?_) λe s' c=>c;have m:∀{d:St}{H':Hp}{v:V}{u:i'},Inv (d2 CX P w K mg base N qual scope f Qa A outer s H E) [] d H' s'->RelV v u->Q v H'->CE outer P w H s Q u s':=
  λ{d H' v u} a h q=>⟨v,H',a.os,a.bare,a.base,a.aH,h,q⟩
 cases T with
 |ret u =>
  obtain⟨v,d,H',a,h,q⟩:=c;exact m a h q
 |next =>
  obtain⟨d,H',a,q⟩:=c;exact m (v:=V.aK) (u:=VB) a rfl q
 |brk =>
  obtain⟨_,_,_,q⟩:=c;exact Vd q
 |cont =>
  obtain⟨_,_,_,q⟩:=c;exact Vd q
section
variable{p:Z3}{t:TA}{id:String}{r:ac V->Hp->VK->Prop}
def Em(r:List V->Hp->VK->Prop)(t:TA):TE:=λσ H Q=>t σ H λvs Y=>r vs Y Q
theorem bT(c:cU X (.builtin id) r)(d:Gl X x)(f:X.mg x=none)(g:Vh x=ih (.builtin id))(i:PA X (e::es) t)(j:x ≠ "__name__" :=by decide)(a:(x==("__debug__" : Fv))=false:=by decide)
  (k:U1 (e::es) X.env=(false,eval e X.env)::U1 es X.env:=by rfl) (b:(backTo pos (U1 es X.env)).any (·.1)=false:=by rfl):PE X (.Call (.Name x p) (e::es) [] pos) (Em r t):=by
 intro J s σ H Q I h;refine mQ (kB I d f g ?_ j a);exact EY (aF (i pos J s σ H _ I h) λus s1 ⟨vs,Y,l,m,n⟩=>c J s1 σ Y vs us Q l m n) k b
theorem dq(c:cU X (.type T) r)(d:Gl X x)(f:X.mg x=none)(g:Vh x=ih (.type T))(i:PA X (e::es) t)(j:x ≠ "__name__" :=by decide)(a:(x==("__debug__" : Fv))=false:=by decide)
  (k:U1 (e::es) X.env=(false,eval e X.env)::U1 es X.env:=by rfl) (b:(backTo pos (U1 es X.env)).any (·.1)=false:=by rfl):PE X (.Call (.Name x p) (e::es) [] pos) (Em r t):=by
 intro J s σ H Q I h;refine mQ (kB I d f g ?_ j a);exact vR (aF (i pos J s σ H _ I h) λus s1 ⟨vs,Y,l,m,n⟩=>c J s1 σ Y vs us Q l m n) k b
end
end L2
namespace HT
open PyProof.Rows
section
open SeqAt
open AutoSeq1 (wpAny_loadPart')
open MeetsSeq MeetsSeq2 MeetsSeq3
end
theorem Ka{t:EZ}{vs ws:ac i'}(p:Yv s.heap t vs.toArray)(q:Yv s.heap b ws.toArray)(j:vs ≠ [])
  (h1:ws=[]->Q (.ref t) s) (h2:ws ≠ []->Q (.ref s.ai) { s with heap:=s.heap.push { cls:=.type "tuple",data:=.seq (vs++ws).toArray } })
  (hsz:vs.length+ws.length<=UB):Uz (UO prog w) A (Yn .Add (.ref t) (.ref b)) Q E s:=by
 obtain⟨⟨cls,k,data,sl⟩,c,l,n,m⟩:=id p;obtain⟨⟨r,f,data2,g⟩,a,h,o,i⟩:=id q;simp only at l m h i;subst l m h i;have e:vs.toArray++ws.toArray=(vs++ws).toArray:=by simp
 by_cases d:ws=[]
 ·exact concat_meets ⟨_,c,rfl⟩ ⟨_,a,rfl⟩ E1 E3 E4 E5 (E6 _ _)
   (tuple_addW1 t b vs.toArray ws.toArray n o k f sl g (by simpa using j) (by simp[d])) ⟨c,a,h1 d⟩
 ·refine concat_meets ⟨_,c,rfl⟩ ⟨_,a,rfl⟩ E1 E3 E4 E5 (E6 _ _)
   (tuple_addW2 t b vs.toArray ws.toArray n o k f sl g (by simpa using j) (by simpa using d) (by rw[bY,bY];exact hsz)) ⟨c,a,?_⟩
  rw[e];exact h2 d
def bo(n d:Nat):Option Int->Nat
 |none=>d
 |some v=>if v<0 then (v+(n:Int)).toNat else min v.toNat n
theorem I2(n d:Nat):bo n d none=d:=rfl
theorem Kb(n d k:Nat):bo n d (ih (k:Int))=min k n:=by
 show(if (k:Int)<0 then ((k:Int)+(n:Int)).toNat else min (k:Int).toNat n)=min k n;rw[ao (by omega),gr]
theorem LF(n d:Nat)(b:d<=n)(o:ad Int):bo n d o<=n:=by
 cases o with
 |none=>exact b
 |some v =>
  show(if v<0 then (v+(n:Int)).toNat else min v.toNat n)<=n
  by_cases a:v<0
  ·rw[aE a];omega
  ·rw[ao a];exact Nat.min_le_right _ _
theorem Co(v:Int)(n d:Nat):(if v<0 then max (v+(n:Int)) 0 else min v (n:Int))=((bo n d (ih v):Nat):Int):=by
 show(if v<0 then max (v+(n:Int)) 0 else min v (n:Int))=(((if v<0 then (v+(n:Int)).toNat else min v.toNat n):Nat):Int)
 by_cases a:v<0
 ·simp only[aE a];omega
 ·simp only[ao a];omega
theorem Hd(lo hi:ad Int)(n:Nat):YM lo hi 1 (n:Int)=(((bo n 0 lo:Nat):Int),((bo n n hi:Nat):Int)):=by
 have h1 : ¬ ((1:Int)<0):=by omega
 unfold YM;simp only[h1,j6];refine vV ?_ ?_
 ·cases lo with
  |none=>rfl
  |some v=>exact Co v n 0
 ·cases hi with
  |none=>rfl
  |some v=>exact Co v n n
theorem He(i j:Nat):Yq (i:Int) (j:Int) 1=j - i:=by
 unfold Yq;have h1:(1:Int)>0:=by omega
 simp only[h1,g8,Int.ediv_one];split <;> omega
theorem Am{v:i'}{o:ad Int}{Q:ad Int->Ux->Prop}(p:Zo v o)(h:Q o s):Uz (UO prog w) A (abv v) Q E s:=by
 cases p with
 |none=>exact slicePart_none h
 |int i t=>exact slicePart_int h
theorem wY{lo:ad Int}{n:Nat}{Q:Int×Int×Nat->Ux->Prop}(c:s.heap.IsSliceOf sl vl vu .none)(pl:Zo vl lo)(d:Zo vu hi)
  (h:Q (((bo n 0 lo:Nat):Int),1,bo n n hi - bo n 0 lo) s):Uz (UO prog w) A (Zl (.ref sl) (pure (n:Int))) Q E s:=by
 obtain⟨os,a,e,b⟩:=id c;unfold Zl abw;refine ae (ae (lp a b (x:=vl) rfl (ae (lp a b (x:=vu) rfl (ae (lp a b (x:=.none) rfl (ak ?_)))))));refine ae (slicePart_none ?_);show Uz _ _ (if ((1:Int)==0)=true then _ else _) _ _ s;rw[ao (by decide)]
 refine ae (Am pl (ae (Am d (ae (ak ?_)))));show Uz _ _ (match YM lo hi 1 (n:Int) with|(lo,hi)=>pure (lo,(1:Int),Yq lo hi 1)) _ _ s;rw[Hd lo hi n];show Uz _ _ (pure (((bo n 0 lo:Nat):Int),(1:Int),Yq ((bo n 0 lo:Nat):Int) ((bo n n hi:Nat):Int) 1)) _ _ s;rw[He];exact ak h
theorem I3(xs:Array i')(i k:Nat):((VD k).filterMap λ(m:Nat)=>xs[((i:Int)+(m:Int) * 1).toNat]?).toArray=((xs.toList.drop i).take k).toArray:=by
 have e:(λ(m:Nat)=>xs[((i:Int)+(m:Int) * 1).toNat]?)=λm=>xs[i+m]?:=by
  funext m
  have:((i:Int)+(m:Int) * 1).toNat=i+m:=by omega
  rw[this]
 rw[e];have:=pick_run xs i k;rw[List.filterMap_map]at this;have e2:((λx=>xs[x]?) ∘ λx=>i+x)=λm=>xs[i+m]?:=rfl;rw[e2]at this;rw[this]
theorem F0{t:EZ}{lo:ad Int}(b:Yv s.heap t items)(c:s.heap.IsSliceOf sl vl vu .none)(pl:Zo vl lo)(i:Zo vu hi)
  (j : ¬ (bo items.size 0 lo=0/\bo items.size items.size hi=items.size))
  (h:Q (.ref s.heap.objs.size) { s with heap:=s.heap.push { cls:=.type "tuple",data:=.seq ((items.toList.drop (bo items.size 0 lo)).take (bo items.size items.size hi - bo items.size 0 lo)).toArray } })
  (hsz:items.size<=UB):Uz (UO prog w) A (getItem (.ref t) (.ref sl)) Q E s:=by
 have a:sizeOk (.seq ((items.toList.drop (bo items.size 0 lo)).take (bo items.size items.size hi - bo items.size 0 lo)).toArray):=by
  show((items.toList.drop (bo items.size 0 lo)).take (bo items.size items.size hi - bo items.size 0 lo)).toArray.size<=UB;rw[bY,cH,mR,f5];omega
 have l:bo items.size items.size hi<=items.size:=LF _ _ (aP _) hi;obtain⟨os,d,e,k⟩:=id c;have f:s.TypeIs (.ref sl) "slice" :=⟨os,d,e⟩;unfold getItem
 try with_reducible refine eh ?_
 first|refine ae (ak ?_)|skip
 refine ae (wpAny_sequenceKey b.typeIs (by decide) ?_)
 refine ae (rK (name:=Yp "__getitem__") b.typeIs oL
  (hZ oL b.typeIs entry_tuple_getitem ?_ (args_tuple_getitem _ _)))
 show Uz _ _ (YH (.ref t) >>= _) _ _ s;refine ae (tupleItemsOf_ b ?_);refine ae (jj f ?_);rw[aE (by decide)]
 refine ae (wY c pl i ?_);have g : ¬ ((((bo items.size 0 lo:Nat):Int)==0&&(1:Int)==1&&(bo items.size items.size hi - bo items.size 0 lo)==items.size)=true):=by
  intro q;rw[gK,gK]at q;have n:((bo items.size 0 lo:Nat):Int)=0:=eq_of_beq q.1.1;have o:bo items.size items.size hi - bo items.size 0 lo=items.size:=eq_of_beq q.2;exact j ⟨by omega,by omega⟩
 show Uz _ _ (if (((bo items.size 0 lo:Nat):Int)==0&&(1:Int)==1&&(bo items.size items.size hi - bo items.size 0 lo)==items.size)=true then _ else _) _ _ s;rw[ao g,I3]
 first
  |exact ae (m:=Yt _) (fH (ak ⟨_,rfl,ak h⟩) a)
  |exact ae (m:=Yt _) (fH (ae (ak (ak ⟨_,rfl,ak h⟩))) a)
  |exact ae (ae (m:=Yt _) (fH (ak (ak ⟨_,rfl,ak h⟩)) a))
  |exact ae (ae (m:=Yt _) (fH (ak ⟨_,rfl,ak h⟩) a))
end HT
namespace L2
open Spec PyProof.Rows
abbrev TO:=St->Hp->(Option Int->Hp->Prop)->Prop
def PO(X:Cx)(e:Option Vp)(t:TO):Prop:=
 ∀J s σ H (Q:Option Int->Hp->Prop),Inv X J σ H s->t σ H Q ->
  wA X (evalPart e X.env) (λu s'=>∃o H',Inv X J σ H' s'/\Zo u o/\Q o H') X.xe s
def Kc:TO:=λ_ H Q=>Q none H
def MF(t:TE):TO:=λσ H Q=>t σ H λx Y=>∃i,x=.int i/\Q (ih i) Y
section
variable{lo hi:ad Vp}{tl th:TO}{p2:Z3}
theorem iQ:PO X none Kc:=by
 intro J s σ H Q I h;rw[E7];exact ak ⟨none,H,I,.none,h⟩
theorem ia(h:PE X e te):PO X (ih e) (MF te):=by
 intro J s σ H Q I a;rw[evalPart_some];refine aF (h J s σ H _ I a) λu s1 f=>?_;obtain⟨x,Y,b,c,d⟩:=f;obtain⟨i,rfl,q⟩:=d;obtain⟨t,rfl⟩:=c;exact⟨ih i,Y,b,.int i t,q⟩
def mE(X:Cx)(r:V->Option Int->Option Int->Hp->VK->Prop):Prop:=
 ∀J s σ H (x:V) (v vl vu:i') (lo hi:Option Int) (sl:EZ) (Q:VK),Inv X J σ H s->RelV x v->s.heap.IsSliceOf sl vl vu .none->Zo vl lo->Zo vu hi->r x lo hi H Q ->
  ∃T id,typeLookup (.type T) "__getitem__" = pure (ih (.builtin id))/\s.TypeIs v T/\wA X (getItem v (.ref sl)) (EP X J σ Q) X.xe s
def Pr(r:V->Option Int->Option Int->Hp->VK->Prop)(te:TE)(tl th:TO):TE:=λσ H Q=>te σ H λx Y=>tl σ Y λl H2=>th σ H2 λu H3=>r x l u H3 Q
theorem iK{r:V->Option Int->Option Int->Hp->VK->Prop}(d:mE X r)(f:PE X e te)(g:PO X lo tl)(i:PO X hi th):PE X (.Subscript e (.Slice lo hi none p2) pos) (Pr r te tl th):=by
 intro J s σ H Q I h;refine ZS (aF (f J s σ H _ I h) λv s1 E=>?_);obtain⟨x,Y,j,k,m⟩:=E;refine wpAny_Slice (aF (g J s1 σ Y _ j m) λvl s2 ⟨l,H2,n,o,p⟩=>aF (i J s2 σ H2 _ n p) λvu a E=>?_);obtain⟨u,c,t,w,y⟩:=E;rw[E7];refine ak ?_;have z:Inv X J σ c { a with heap:=a.heap.push { cls:=.type "slice",data:=.fields #[vl,vu,.none] } }:=t.kept (t':=a.toks) λb D q=>a5 _ q;obtain⟨T,id,A,B,C⟩:=d J { a with heap:=a.heap.push { cls:=.type "slice",data:=.fields #[vl,vu,.none] } } σ c x v vl vu l u a.ai Q z k (Zy ..) o w y;show wA X (subscriptTail e (.Slice lo hi none p2) v (.ref a.ai)) (EP X J σ Q) X.xe { a with heap:=a.heap.push { cls:=.type "slice",data:=.fields #[vl,vu,.none] } };exact tail_any (ops:=[.ref a.ai,v]) B A C (by with_unfolding_all rfl)
def fw(xs:List V)(lo hi:Option Int):List V:=(xs.drop (HT.bo xs.length 0 lo)).take (HT.bo xs.length xs.length hi - HT.bo xs.length 0 lo)
theorem z'(xs:ac V)(lo hi:ad Int):(fw xs lo hi).length<=xs.length:=by
 unfold fw;rw[cH,mR];omega
def Oh(K:UP):V->Option Int->Option Int->Hp->VK->Prop:=λx lo hi H Q=>∃a xs,x=.ref a/\ay K H a xs /\
 ¬ (HT.bo xs.length 0 lo=0/\HT.bo xs.length xs.length hi=xs.length) /\∀p,H p=none->Q (.ref p) (upd H p (.tup (fw xs lo hi)))
theorem LG:mE X (Oh X.K):=by
 intro J s σ H x v vl vu lo hi sl Q I f g i j h;obtain⟨a,xs,rfl,k,l,q⟩:=h;cases f
 obtain⟨its,r,d,e⟩:=I.tuple k;have c:its.toArray.size=xs.length:=by rw[bY];exact r.length.symm
 refine⟨"tuple",_,oL.lookup,d.typeIs,?_⟩;refine HT.F0 d g i j (by rw[c];exact l) ?_ (by rw[c];exact e)
 rw[c];refine⟨.ref s.ai,_,I.laid (t':=s.toks) (o:=.tup (fw xs lo hi)) (λb m q=>a5 _ q) (aP _) ?_,rfl,q _ (I.aH.fresh (aP _))⟩;exact⟨eg (z' xs lo hi) e,_,(r.drop (HT.bo xs.length 0 lo)).take (HT.bo xs.length xs.length hi - HT.bo xs.length 0 lo),i1.new _ _⟩
def MG(K:UP):R2:=λx y H Q=>∃a b xs ys,x=.ref a/\y=.ref b/\ay K H a xs/\ay K H b ys/\xs ≠ []/\xs.length+ys.length<=UB /\
 (ys=[]->Q (.ref a) H)/\(ys ≠ [] ->∀p,H p=none->Q (.ref p) (upd H p (.tup (xs++ys))))
theorem Vals.tw(r:Vals xs us):us=[] ↔ xs=[]:=by
 cases r with
 |nil=>simp
 |cons _ _=>simp
theorem Kd:cp X (Yn .Add) (MG X.K):=by
 intro J s σ H x y v u Q I f g h;obtain⟨a,b,xs,ys,rfl,rfl,i,j,k,e,l,m⟩:=h;cases f
 cases g
 obtain⟨its,d,n,_⟩:=I.tuple i;obtain⟨p,c,p2,_⟩:=I.tuple j;refine HT.Ka n p2 (λz=>k (d.tw.mp z)) (λz=>⟨.ref a,H,I,rfl,l (c.tw.mp z)⟩) (λz=>?_) (by rw[<-d.length,<-c.length];exact e)
 refine⟨.ref s.ai,_,I.laid (t':=s.toks) (o:=.tup (xs++ys)) (λb r q=>a5 _ q) (aP _) ?_,rfl,m (λw=>z (c.tw.mpr w)) _ (I.aH.fresh (aP _))⟩;exact⟨by rw[bV];exact e,_,d.append c,i1.new _ _⟩
end
def ja(n:Nat)(i:Int):Option Nat:=if 0<=i then (if i<n then ih i.toNat else none) else if -(n:Int)<=i then ih (i+n).toNat else none
def cW{α:Type}(xs:List α)(i:Int):Option α:=(ja xs.length i).bind λj=>xs[j]?
theorem Cp{n:Nat}{i:Int}(h:ja n i=ih j):seqIndex? i n=ih j/\j<n /\ -(n:Int)<=i/\i<n:=by
 unfold ja at h
 by_cases h0:0<=i
 ·rw[aE h0]at h
  by_cases h1:i<n
  ·rw[aE h1]at h
   have e:i.toNat=j:=cG h;exact⟨by rw[vW h0 h1,e],by omega,by omega,h1⟩
  ·rw[ao h1]at h;cases h
 ·rw[ao h0]at h
  by_cases h1 : -(n:Int)<=i
  ·rw[aE h1]at h
   have e:(i+n).toNat=j:=cG h;exact⟨by rw[seqIndex_neg (by omega) h1,e],by omega,h1,by omega⟩
  ·rw[ao h1]at h;cases h
theorem tx{α:Type}{xs:ac α}{i:Int}{v:α}(h:cW xs i=ih v):∃j,seqIndex? i xs.length=ih j/\xs[j]?=ih v/\j<xs.length /\ -(xs.length:Int)<=i/\i<xs.length:=by
 unfold cW at h;cases e:ja xs.length i with
 |none=>rw[e]at h;cases h
 |some j =>
  rw[e]at h;obtain⟨h1,h2,a,b⟩:=Cp e;exact⟨j,h1,h,h2,a,b⟩
theorem cq{α:Type}{xs:ac α}{v:α}(h:xs[j]?=ih v):cW xs (j:Int)=ih v:=by
 have a:j<xs.length:=(bZ.mp h).1;have e:ja xs.length (j:Int)=ih j:=by
  unfold ja;rw[aE (by omega),aE (by omega)];simp
 unfold cW;rw[e];exact h
theorem I4{α:Type}(xs:ac α)(v:α):cW (xs++[v]) (-1)=ih v:=by
 have a:(xs++[v]).length=xs.length+1:=by simp
 have e:ja (xs++[v]).length (-1)=ih xs.length:=by
  unfold ja;rw[a,ao (by decide),aE (by omega)]
  congr 1
  omega
 unfold cW;rw[e];show(xs++[v])[xs.length]?=ih v;simp
def Ke(b:Vp):Prop:= ∀o i,subscripted b false o i=operate [o,i] (getItem o i)
def mF(X:Cx)(r:R2):Prop:=
 ∀(value slice:Vp) J s σ H (x y:V) (v u:i') (Q:VK),Inv X J σ H s->RelV x v->RelV y u->r x y H Q ->
  subscripted slice false v u=operate [v,u] (getItem v u)->wA X (subscriptTail value slice v u) (EP X J σ Q) X.xe s
def vp(X:Cx)(id:String)(r:V->List V->Hp->VK->Prop):Prop:=
 ∀J s σ H (x:V) (xs:List V) (v:i') (us:List i') (Q:VK),Inv X J σ H s->RelV x v->Vals xs us->r x xs H Q ->
  wA X (call (.builtin id) (v::us)) (EP X J σ Q) X.xe s
section
variable{a b:Vp}{tb:TE}
theorem aU{r:R2}(c:mF X r)(d:PE X a ta)(e:PE X b tb)(f:Ke b:=by exact λ_ _=>rfl):PE X (.Subscript a b pos) (jY r ta tb):=by
 intro J s σ H Q I h;exact ZS (uT d e I h λv u s2 x y H2 g i j q=>c a b J s2 σ H2 x y v u Q g i j q (f _ _))
def DK(K:UP):R2:=λx y H Q=>∃p xs i v,x=.ref p/\y=.int i/\aj K H p xs/\cW xs i=ih v/\Q v H
def qB(K:UP):R2:=λx y H Q=>∃p xs i v,x=.ref p/\y=.int i/\ay K H p xs/\cW xs i=ih v/\Q v H
def Oi:R2:=λx y H Q=>∃z i c,x=.str z/\y=.int i/\z.length<=UB/\cW z.cps.toList i=ih c/\Q (.str ⟨#[c]⟩) H
theorem dw:mF X (DK X.K):=by
 intro value B J s σ H x y v u Q I g k h d;obtain⟨p,xs,i,z,rfl,rfl,l,m,q⟩:=h;cases g
 obtain⟨t,rfl⟩:=k;obtain⟨its,r,a,C⟩:=I.list l;obtain⟨j,h1,h2,D,n,o⟩:=tx m;obtain⟨w,e,f⟩:=r.get h2;have A:=r.length;have E:=kF;have c:EP X J σ Q w s:=⟨z,H,I,f,q⟩
 by_cases h0:0<=i
 ·have b:i.toNat=j:=by
   rw[vW h0 o]at h1;exact cG h1
  exact item_listR a.isList h0 (by omega) (by rw[b];simpa using e) c d
 ·have b:(i+(its.toArray.size:Int)).toNat=j:=by
   rw[seqIndex_neg (by omega) n]at h1
   rw[bY,<-A];exact cG h1
  exact subscriptTail_builtinR (x:=w) a.isList.typeIs E8.lookup
   (wpAny_getItem_list_neg (Q:=λr s'=>r=w/\EP X J σ Q r s') a.isList (by omega) (by rw[bY] <;> omega) (by omega) (by rw[b];simpa using e) ⟨rfl,c⟩) d
theorem bj:mF X (qB X.K):=by
 intro value n J s σ H x y v u Q I d e h f;obtain⟨p,xs,i,z,rfl,rfl,g,k,q⟩:=h;cases d
 obtain⟨t,rfl⟩:=e;obtain⟨its,r,a,o⟩:=I.tuple g;obtain⟨j,h1,h2,A,B,C⟩:=tx k;obtain⟨w,l,b⟩:=r.get h2;have m:=r.length;have D:=kF;have c:EP X J σ Q w s:=⟨z,H,I,b,q⟩;exact subscriptTail_builtinR (x:=w) a.typeIs slot_tuple_getitem.lookup
  (getItem_tuple (j:=j) (Q:=λr s'=>r=w/\EP X J σ Q r s') a (by omega) (by omega) (by rw[bY,<-m];exact h1) (by simpa using l) ⟨rfl,c⟩) f
theorem CY:mF X Oi:=by
 intro value l J s σ H x y v u Q I a b h d;obtain⟨z,i,c,rfl,rfl,m,e,q⟩:=h;obtain⟨t,rfl⟩:=a;obtain⟨t',rfl⟩:=b;obtain⟨j,h1,h2,n,f,g⟩:=tx e;have k:z.cps.toList.length=z.length:=by simp[ab4]
 rw[k]at h1 f g;have o:=kF;exact tail_any (typeIs_str s z t) slot_str_getitem.lookup (getItem_str (c:=c) (by
  have e1:decide (i < -(2 ^ 63:Int))=false:=ef (by omega)
  have e2:decide (i ≥ 2 ^ 63)=false:=ef (by omega)
  rw[e1,e2,E9]) (by rw[h1];simpa using h2) ⟨.str ⟨#[c]⟩,H,I.tok _,⟨_,rfl⟩,q⟩) d
theorem Hf(its:ac i')(n j:Nat)(u:i'):X1 (·.setIfInBounds j u) { cls:=.type "list",data:=.seq its.toArray n }={ cls:=.type "list",data:=.seq (its.set j u).toArray n }:=by
 simp[X1]
theorem Inv.lst{J:ac (EZ×Yy)}{σ:St}{H:Hp}{s:Ux}{p:EZ}{xs:ac V}(I:Inv X J σ H s)(h:H p=bd xs) :
  ∃(its:ac i') (n:Nat),Vals xs its/\s.heap.get? p=ih { cls:=.type "list",data:=.seq its.toArray n }/\xs.length<=UB:=by
 obtain⟨z,its,n,r,e⟩:=I.aH p _ h;exact⟨its,n,r,e,z⟩
theorem Inv.LH{ys:ac V}{its':ac i'}{n a:Nat}{f:Yy->Yy}(I:Inv X J σ H s)(h:H p=bd xs)
  (d:s.heap.get? p=ih { cls:=.type "list",data:=.seq its.toArray n }) (c:f { cls:=.type "list",data:=.seq its.toArray n }={ cls:=.type "list",data:=.seq its'.toArray a }) (r:Vals ys its') (hz:ys.length<=UB) (t:Nat) :
  Inv X J σ (upd H p (.lst ys)) { s with heap:=s.heap.update p f,toks:=t }:=by
 have e:(s.heap.update p f).get? p=ih { cls:=.type "list",data:=.seq its'.toArray a }:=by
  rw[oM f d (by rw[c] <;> rfl),c]
 refine I.write (x:=p) (e:=p) (by rw[h];trivial) (.inl rfl) (λb u g q=>(j7 _ _ (aS g)).trans q) ⟨_,e⟩ ?_
 exact⟨hz,its',a,r,e⟩
def MH:V->V->V->Hp->(Hp->Prop)->Prop:=λo i v H Q=>∃p xs k j,o=.ref p/\i=.int k/\H p=ih (.lst xs)/\ja xs.length k=ih j/\Q (upd H p (.lst (xs.set j v)))
theorem set_list:DD X MH:=by
 intro J s σ H o i v z A u Q I l m w h;obtain⟨p,xs,k,j,rfl,rfl,d,x,q⟩:=h;cases l
 obtain⟨t,rfl⟩:=m;obtain⟨its,n,r,a,y⟩:=I.lst d;obtain⟨h1,h2,e,f⟩:=Cp x;have b:=r.length;have B:=kF;have g:Inv X J σ (upd H p (.lst (xs.set j v))) { s with heap:=s.heap.update p (X1 (·.setIfInBounds j u)) }:=
  I.LH d a (Hf its n j u) (r.set w j) (by rw[aaB];exact y) s.toks
 by_cases h0:0<=k
 ·have c:k.toNat=j:=by
   rw[vW h0 f]at h1;exact cG h1
  exact PySem.W.ki_setAt a h0 (by omega) (by rw[bY,<-b];exact f) (by rw[c];exact⟨_,g,q⟩)
 ·have c:(k+(its.toArray.size:Int)).toNat=j:=by
   rw[seqIndex_neg (by omega) e]at h1
   rw[bY,<-b];exact cG h1
  exact PySem.W.ki_setBack a (by omega) (by rw[bY,<-b];exact e) (by omega) (by rw[c];exact⟨_,g,q⟩)
theorem Gi(lo hi:ad Int)(n:Nat):(sliceBounds lo hi none n).1=((HT.bo n 0 lo:Nat):Int)/\(sliceBounds lo hi none n).2.1=((HT.bo n n hi:Nat):Int)/\(sliceBounds lo hi none n).2.2=1:=by
 refine⟨?_,?_,rfl⟩
 ·cases lo with
  |none=>simp[sliceBounds,HT.bo]
  |some i =>
   simp only[sliceBounds,HT.bo,aag,show(1:Int)>0 by decide,g8]
   by_cases h:i<0
   ·simp only[h,g8] <;> omega
   ·simp only[h,j6] <;> omega
 ·cases hi with
  |none=>simp[sliceBounds,HT.bo]
  |some i =>
   simp only[sliceBounds,HT.bo,aag,show(1:Int)>0 by decide,g8]
   by_cases h:i<0
   ·simp only[h,g8] <;> omega
   ·simp only[h,j6] <;> omega
theorem Gb(its:ac i')(lo hi:ad Int):slicePick its.toArray lo hi none=((its.drop (HT.bo its.length 0 lo)).take (HT.bo its.length its.length hi - HT.bo its.length 0 lo)).toArray:=by
 obtain⟨h1,h2,a⟩:=Gi lo hi its.toArray.size;unfold slicePick;rw[h1,h2,a];simp only[sliceRange_one,pick_run,bY] <;> rfl
def DL(K:UP):V->Option Int->Option Int->Hp->VK->Prop:=λx lo hi H Q=>∃a xs,x=.ref a/\aj K H a xs /\∀p,H p=none->Q (.ref p) (upd H p (.lst (fw xs lo hi)))
theorem lY:mE X (DL X.K):=by
 intro J s σ H x v vl vu lo hi sl Q I e f g i h;obtain⟨a,xs,rfl,j,q⟩:=h;cases e
 obtain⟨its,r,c,k⟩:=I.list j;have d:=r.length;refine⟨"list",_,E8.lookup,c.isList.typeIs,?_⟩;refine UQ c.isList f g i .none (by simp) ?_ (by rw[bY] <;> omega)
 rw[Gb,<-d];refine⟨.ref s.heap.objs.size,_,I.laid (t':=s.toks) (o:=.lst (fw xs lo hi)) (λb l q=>a5 _ q) (aP _) ?_,rfl,q _ (I.aH.fresh (aP _))⟩;exact⟨eg (z' xs lo hi) k,_,0,(r.drop (HT.bo xs.length 0 lo)).take (HT.bo xs.length xs.length hi - HT.bo xs.length 0 lo),bU _ rfl⟩
def il:V->Bool
 |.aK=>true
 |.bl _=>true
 |.int _=>true
 |.str _=>true
 |_=>false
def jZ:V->V->Bool
 |.aK,.aK=>true
 |.bl a,.bl b=>a==b
 |.bl a,.int b=>(if a then 1 else 0)==b
 |.int a,.bl b=>a==(if b then 1 else 0)
 |.int a,.int b=>a==b
 |.str a,.str b=>a==b
 |_,_=>false
theorem LJ{x:V}{v:i'}(d:RelV y u)(c:RelV x v)(f:il y=true)(e:il x=true):abe A s u v (jZ y x):=by
 cases y with
 |aK =>
  cases d
  cases x with
  |aK=>cases c;exact ach _
  |bl b=>cases c;exact ack b
  |int b=>obtain⟨t,rfl⟩:=c;exact acj b t
  |str b=>obtain⟨t,rfl⟩:=c;exact aci b t
  |_=>exact absurd (show false=true from e) b'
 |bl a =>
  cases d
  cases x with
  |aK=>cases c;exact acq a
  |bl b=>cases c;exact acs a b
  |int b=>obtain⟨t,rfl⟩:=c;exact acr a b t
  |str b=>obtain⟨t,rfl⟩:=c;exact acp a b t
  |_=>exact absurd (show false=true from e) b'
 |int a =>
  obtain⟨t',rfl⟩:=d;cases x with
  |aK=>cases c;exact acm a t'
  |bl b=>cases c;exact aco a t' b
  |int b=>obtain⟨t,rfl⟩:=c;exact acn a t' b t
  |str b=>obtain⟨t,rfl⟩:=c;exact ZH a t' b t
  |_=>exact absurd (show false=true from e) b'
 |str a =>
  obtain⟨t',rfl⟩:=d;cases x with
  |aK=>cases c;exact acf a t'
  |bl b=>cases c;exact acg a t' b
  |int b=>obtain⟨t,rfl⟩:=c;exact ZG a t' b t
  |str b=>obtain⟨t,rfl⟩:=c;exact ace a t' b t
  |_=>exact absurd (show false=true from e) b'
 |_=>exact absurd (show false=true from f) b'
def eX(x:V)(u:i'):Bool:=match u with
 |.none=>jZ .aK x
 |.bool b=>jZ (.bl b) x
 |.int i _=>jZ (.int i) x
 |.str z _=>jZ (.str z) x
 |_=>false
theorem pZ{x:V}(r:RelV y u)(f:il y=true):eX x u=jZ y x:=by
 cases y with
 |aK=>cases r;rfl
 |bl b=>cases r;rfl
 |int i=>obtain⟨t,rfl⟩:=r;rfl
 |str z=>obtain⟨t,rfl⟩:=r;rfl
 |_=>exact absurd (show false=true from f) b'
theorem nF{x:V}:∀{xs:ac V}{us:ac i'},Vals xs us->xs.all il=true->us.any (eX x)=xs.any λy=>jZ y x
 |_,_,.nil,_=>rfl
 |y::xs,u::us,.cons r t,f=>by
  rw[aaX,gK]at f;rw[jk,jk,pZ r f.1,nF t f.2]
theorem lO{A:Yk}{s:Ux}{x:V}{v:i'}(a:RelV x v)(b:il x=true):∀{xs:ac V}{us:ac i'},Vals xs us->xs.all il=true ->∀u∈us,abe A s u v (eX x u)
 |_,_,.nil,_=>λu hu=>by cases hu
 |y::xs,u::us,.cons r t,f=>λc hu=>by
  rw[aaX,gK]at f;rcases bH.mp hu with rfl|hu
  ·rw[pZ r f.1];exact LJ r a f.1 b
  ·exact lO a b t f.2 c hu
def k'(x:V)(xs:List V):Bool:=xs.any λy=>jZ y x
def oy(K:UP)(vq:Bool):R2:=λx y H Q=>∃p xs,y=.ref p/\(aj K H p xs\/ay K H p xs)/\il x=true/\xs.all il=true/\Q (.bl (if vq then !k' x xs else k' x xs)) H
theorem jt:cp X (VH .In) (oy X.K false):=by
 intro J s σ H x y v u Q I c e h;obtain⟨p,xs,rfl,hq,d,fs,q⟩:=h;cases e
 rcases hq with hq|hq
 ·obtain⟨its,r,a,f⟩:=I.list hq
  refine SeqAt.in_listAt (eX x) a.isList (λw b=>lO c d r fs w (by simpa using b)) ⟨.bl _,H,I,rfl,?_⟩
  rw[show its.toArray.any (eX x)=its.any (eX x) by simp,nF r fs]
  exact q
 ·obtain⟨its,r,a,f⟩:=I.tuple hq
  refine SeqAt.in_tupleAt (eX x) a (λw b=>lO c d r fs w (by simpa using b)) ⟨.bl _,H,I,rfl,?_⟩
  rw[show its.toArray.any (eX x)=its.any (eX x) by simp,nF r fs]
  exact q
theorem Gj:cp X (VH .NotIn) (oy X.K true):=by
 intro J s σ H x y v u Q I c e h;obtain⟨p,xs,rfl,hq,d,fs,q⟩:=h;cases e
 rcases hq with hq|hq
 ·obtain⟨its,r,a,f⟩:=I.list hq
  refine SeqAt.notIn_listAt (eX x) a.isList (λw b=>lO c d r fs w (by simpa using b)) ⟨.bl _,H,I,rfl,?_⟩
  rw[show its.toArray.any (eX x)=its.any (eX x) by simp,nF r fs]
  exact q
 ·obtain⟨its,r,a,f⟩:=I.tuple hq
  refine SeqAt.notIn_tupleAt (eX x) a (λw b=>lO c d r fs w (by simpa using b)) ⟨.bl _,H,I,rfl,?_⟩
  rw[show its.toArray.any (eX x)=its.any (eX x) by simp,nF r fs]
  exact q
theorem eM:cU X (.builtin "len") (λxs H Q=>∃p ys,xs=[.ref p]/\(aj X.K H p ys\/ay X.K H p ys)/\Q (.int ys.length) H):=by
 intro J s σ H xs us Q I r h;obtain⟨p,ys,rfl,hq,q⟩:=h;obtain⟨u,rfl,d⟩:=vals1 r;cases d
 have f:=kF;rcases hq with hq|hq
 ·obtain⟨its,b,c,e⟩:=I.list hq
  have a:=b.length;exact Calls.call_len_list c.isList (by simp only[bY] <;> omega) ⟨.int ys.length,H,I.tok _,⟨s.toks+1,by rw[bY,a]⟩,q⟩
 ·obtain⟨its,b,c,e⟩:=I.tuple hq
  have a:=b.length;exact len_tuple c (by simp only[bY] <;> omega) ⟨.int ys.length,H,I.tok _,⟨s.toks+1,by rw[bY,a]⟩,q⟩
theorem Gk:cU X (.builtin "len") (λxs H Q=>∃z,xs=[.str z]/\z.length<=UB/\Q (.int z.length) H):=by
 intro J s σ H xs us Q I r h;obtain⟨z,rfl,a,q⟩:=h;obtain⟨u,rfl,t,rfl⟩:=vals1 r;have b:=kF;exact len_str (by omega) ⟨.int z.length,H,I.tok _,⟨_,rfl⟩,q⟩
theorem kb:cU X (.type "list") (λxs H Q=>∃p ys,xs=[.ref p]/\(aj X.K H p ys\/ay X.K H p ys) /\∀l,H l=none->Q (.ref l) (upd H l (.lst ys))):=by
 intro J s σ H xs us Q I r h;obtain⟨p,ys,rfl,hq,q⟩:=h;obtain⟨u,rfl,t⟩:=vals1 r;cases t
 have k:∀(its:ac i'),Vals ys its->ys.length<=UB ->∀(h':X8) (a:Nat),(∀b o',s.heap.get? b=ih o'->h'.get? b=ih o') ->
   h'.get? s.heap.objs.size=ih { cls:=.type "list",dict:=none,data:=.seq its.toArray a,slots:= #[] }->EP X J σ Q (.ref s.heap.objs.size) { s with heap:=h' }:=λits c d h' a kp e =>
  ⟨.ref s.heap.objs.size,_,I.laid (t':=s.toks) kp (aP _) (show bC X.prog X.w _ h' _ (.lst ys) from⟨d,its,a,c,e⟩),rfl,q _ (I.aH.fresh (aP _))⟩
 rcases hq with hq|hq
 ·obtain⟨its,c,f,d⟩:=I.list hq
  have m:=c.length;obtain⟨o,g,i,n,j⟩:=f.isList;exact call_list_seq p (.inl rfl) g i j (λh' a kp e=>k its c d h' a kp e) (by simp only[bY] <;> omega)
 ·obtain⟨its,c,f,d⟩:=I.tuple hq
  have m:=c.length;obtain⟨o,g,i,n,j⟩:=f;exact call_list_seq p (.inr rfl) g i j (λh' a kp e=>k its c d h' a kp e) (by simp only[bY] <;> omega)
theorem iI:cU X (.type "tuple") (λxs H Q=>∃p ys,xs=[.ref p]/\((aj X.K H p ys /\∀l,H l=none->Q (.ref l) (upd H l (.tup ys)))\/(ay X.K H p ys/\Q (.ref p) H))):=by
 intro J s σ H xs us Q I r h;obtain⟨p,ys,rfl,h⟩:=h;obtain⟨u,rfl,i⟩:=vals1 r;cases i
 rcases h with⟨a,q⟩|⟨a,q⟩
 ·obtain⟨its,c,d,f⟩:=I.list a
  have k:=c.length;refine call_tuple_list d.isList (λh' kp=>?_) (by simp only[bY] <;> omega)
  have g:Inv X J σ H { s with heap:=h' }:=I.kept (t':=s.toks) kp;have j:Inv X J σ (upd H h'.objs.size (.tup ys)) { s with heap:=h'.push { cls:=.type "tuple",data:=.seq its.toArray } }:=
   g.laid (t':=s.toks) (λb o e=>a5 _ e) (aP _) (show bC X.prog X.w _ _ _ (.tup ys) from⟨f,its,c,i1.new _ _⟩)
  exact⟨.ref h'.objs.size,_,j,rfl,q _ (g.aH.fresh (aP _))⟩
 ·obtain⟨its,c,d,f⟩:=I.tuple a
  exact call_tuple_same d ⟨.ref p,H,I,rfl,q⟩
def vr(K:UP)(T:String)(x:V)(H:Hp):Prop:=match x with
 |.str _=>T = "str"
 |.int _=>T = "int"
 |.ref p=>(T = "list" /\∃xs,aj K H p xs)\/(T = "tuple" /\∃o,K.lookup p=ih o/\o.cls=.type "tuple" /\ o.dict=none) \/
   (T = "dict" /\ ((∃kvs,H p=ih (.dK kvs)) \/∃kvs,H p=ih (.dT kvs)))\/(T = "set" /\∃S n,H p=ih (.set S n))\/(T = "tuple" /\∃xs,Rd H p (.tup xs))
 |_=>False
theorem CZ{x:V}{v:i'}(I:Inv X J σ H s)(r:RelV x v)(ty:vr X.K T x H) :
  s.TypeIs v T /\∀a,v=.ref a ->∃g,s.heap.get? a=ih g/\g.dict=none:=by
 cases x with
 |str z =>
  obtain⟨t,rfl⟩:=r;cases (show T = "str" from ty)
  exact⟨typeIs_str s z t,λ_ e=>nomatch e⟩
 |int i =>
  obtain⟨t,rfl⟩:=r;cases (show T = "int" from ty)
  exact⟨typeIs_int s i t,λ_ e=>nomatch e⟩
 |ref p =>
  cases r
  rcases ty with⟨rfl,xs,f⟩|⟨rfl,o,b,j,d⟩|⟨rfl,b⟩|⟨rfl,S,n,b⟩|⟨rfl,xs,f⟩
  ·obtain⟨its,_,h,_⟩:=I.list f
   refine⟨h.isList.typeIs,λa e=>?_⟩;cases e
   obtain⟨o,n,e,c,d,_⟩:=h;exact⟨o,e,d⟩
  ·refine⟨⟨o,I.bS p o b,j⟩,λa e=>?_⟩
   cases e
   exact⟨o,I.bS _ o b,d⟩
  ·have z:∃o,s.heap.get? p=ih o/\o.ExactDict:=by
    rcases b with⟨kvs,b⟩|⟨kvs,b⟩
    ·obtain⟨_,_,_,_,o,_,_,e,ex,_⟩:=I.aH p _ b
     exact⟨o,e,ex⟩
    ·obtain⟨_,_,_,_,o,_,_,e,ex,_⟩:=I.aH p _ b
     exact⟨o,e,ex⟩
   obtain⟨o,e,ex⟩:=z;refine⟨⟨o,e,ex.1⟩,λa e2=>?_⟩;cases e2
   exact⟨o,e,ex.2.1⟩
  ·obtain⟨o,_,_,_,e,ex,_⟩:=I.aH p _ b
   refine⟨⟨o,e,ex.1⟩,λa e2=>?_⟩;cases e2
   exact⟨o,e,ex.2.1⟩
  ·obtain⟨_,_,_,o,e,c,_,_,d⟩:=f.ok I.aH
   refine⟨⟨o,e,c⟩,λa e2=>?_⟩;cases e2
   exact⟨o,e,d⟩
 |_=>exact Vd ty
def Oj(K:UP)(T:String)(r:V->List V->Hp->VK->Prop)(to:TE):TE:=λσ H Q=>to σ H λx Y=>vr K T x Y/\r x [] Y Q
def Pt(K:UP)(T:String)(r:V->List V->Hp->VK->Prop)(to:TE)(t:TA):TE:=λσ H Q=>to σ H λx Y=>vr K T x Y/\t σ Y λxs H2=>r x xs H2 Q
variable{o:Vp}{to:TE}{t:TA}{id:String}{r:V->List V->Hp->VK->Prop}
theorem LK(g:PlainAttrs T)(e:Slot T name id)(f:typeOf (.builtin id)=pure (.type "method_descriptor"))(i:vp X id r)(j:PE X o to)
  (c:attributeBase o name X.env (eval o X.env)=eval o X.env:=by rfl) (d:(Qf.endLine==Qi.line)=true:=by rfl):PE X (.Call (.Attribute o name Qf) [] [] Qi) (Oj X.K T r to):=by
 intro J s σ H Q I h;refine wpAny_Call_method0_late c d (aF (j J s σ H _ I h) λv s1 l=>?_);obtain⟨x,Y,a,b,ty,k⟩:=l;obtain⟨h1,h2⟩:=CZ a b ty;exact⟨T,id,g,e,f,h1,h2,ZL rfl (E' (i J s1 σ Y x [] v [] Q a b .nil k))⟩
theorem gc(l:PlainAttrs T)(i:Slot T name id)(k:typeOf (.builtin id)=pure (.type "method_descriptor"))(m:vp X id r)(n:PE X o to)(p:PA X (e::es) t)
  (f:attributeBase o name X.env (eval o X.env)=eval o X.env:=by rfl)
  (j:((backTo Qi (U1 (e::es) X.env)).all (λx=>!x.1)&&(backToKw Qi (keywordEach [] X.env)).all (λx=>x.1.isSome)
   && decide ((e::es).length+([]:ac Keyword).length+(if ([]:ac Keyword).isEmpty then 0 else 1)<30))=true:=by rfl)
  (g:(Qf.endLine==Qi.line)=true:=by rfl) (q:U1 (e::es) X.env=(false,eval e X.env)::U1 es X.env:=by rfl) (d:(backTo Qi (U1 es X.env)).any (·.1)=false:=by rfl) :
  PE X (.Call (.Attribute o name Qf) (e::es) [] Qi) (Pt X.K T r to t):=by
 intro J s σ H Q I h;refine wpAny_Call_method_late f j g rfl (aF (n J s σ H _ I h) λv s1 A=>?_);obtain⟨x,Y,a,b,ty,u⟩:=A;obtain⟨h1,h2⟩:=CZ a b ty;refine⟨T,id,l,i,k,h1,h2,?_⟩;have c:=p Qi J s1 σ Y _ a u;rw[q]at c⊢;refine ZL (by show(false||(backTo Qi (U1 es X.env)).any (·.1))=false;rw[d] <;> rfl) (Calls.evalArgs_plain ?_)
 exact aF c λus s2 ⟨vs,H2,w,y,z⟩=>m J s2 σ H2 x vs v us Q w b y z
end
def lb(X:Cx)(id:String)(r:V->List V->Hp->VK->Prop):Prop:=
 ∀J s σ H (x:V) (xs:List V) (v:i') (us:List i') (Q:VK),Inv X J σ H s->RelV x v->Vals xs us->r x xs H Q ->
  wA X (call (.builtin id) (v::us)) (EP X J σ Q) X.xe s
theorem Vals.one:∀{x:V}{us:ac i'},Vals [x] us ->∃u,us=[u]/\RelV x u:=by
 intro _ _ h;cases h with|cons r h=>cases h;exact⟨_,rfl,r⟩
theorem Vals.two:∀{x y:V}{us:ac i'},Vals [x,y] us ->∃u v,us=[u,v]/\RelV x u/\RelV y v:=by
 intro _ _ _ h;cases h with|cons r h=>cases h with|cons q h=>cases h;exact⟨_,_,rfl,r,q⟩
theorem Vals.zero:∀{us:ac i'},Vals [] us->us=[]
 |_,.nil=>rfl
theorem Vals.dropLast(h:Vals xs us):Vals xs.dropLast us.dropLast:=by
 induction h with
 |nil=>exact .nil
 |cons r t a =>
  cases t with
  |nil=>exact .nil
  |cons q t'=>exact .cons r a
theorem Vals.eraseIdx:∀{xs:ac V}{us:ac i'} (i:Nat),Vals xs us->Vals (xs.eraseIdx i) (us.eraseIdx i)
 |_,_,_,.nil=>.nil
 |_,_,0,.cons _ t=>t
 |_,_,i+1,.cons r t=>.cons r (Vals.eraseIdx i t)
theorem Vals.reverse(h:Vals xs us):Vals xs.reverse us.reverse:=by
 induction h with
 |nil=>exact .nil
 |cons r t a=>rw[US,US];exact Vals.append a (.cons r .nil)
theorem Hg{α:Type}(l:ac α):l.eraseIdx (l.length - 1)=l.dropLast:=by
 induction l with
 |nil=>rfl
 |cons a r c =>
  cases r with
  |nil=>rfl
  |cons b r =>
   have e:(a::b::r).length - 1=((b::r).length - 1)+1:=by
    have h1:(a::b::r).length=r.length+2:=rfl;have h2:(b::r).length=r.length+1:=rfl;omega
   rw[e,List.eraseIdx_cons_succ,c]
   all_goals rfl
theorem AV{α:Type}:∀(l:ac α) (i:Nat),(l.eraseIdx i).length<=l.length
 |[],_=>aP _
 |_::_,0=>f6 _
 |_::r,i+1=>Nat.succ_le_succ (AV r i)
section
variable{ys zs:ac V}
theorem Inv.qC{its':ac i'}{n:Nat}{f:Array i'->Array i'}(I:Inv X J σ H s)(a:H l=bd xs)
  (e:s.heap.get? l=ih { cls:=.type "list",data:=.seq its.toArray n }) (b:f its.toArray=its'.toArray) (c:Vals ys its') (hz:ys.length<=UB) :
  Inv X J σ (upd H l (.lst ys)) { s with heap:=s.heap.update l (X1 f),toks:=t' }:=by
 have q:=acz e f;rw[b]at q;refine I.write (x:=l) (e:=l) (by rw[a];exact trivial) (.inl rfl) (λh u d g=>(j7 s.heap (X1 f) (aS d)).trans g) ⟨_,q⟩ ?_
 exact⟨hz,its',_,c,q⟩
theorem Inv.DM(I:Inv X J σ H s)(a:Vals ys its)(hz:ys.length<=UB) :
  Inv X J σ (upd H s.ai (.lst ys)) { s with heap:=s.heap.push { cls:=.type "list",data:=.seq its.toArray },toks:=t' }:=
 I.laid (λ_ _ q=>a5 _ q) (aP _) ⟨hz,its,0,a,bU _ rfl⟩
theorem Inv.fresh(I:Inv X J σ H s):H s.ai=none:=I.aH.fresh (aP _)
theorem Inv.jM(I:Inv X J σ H s)(a:H l=bd xs):xs.length<=UB /\∃(its:ac i') (n:Nat),Vals xs its/\xs.length=its.length/\s.heap.get? l=ih { cls:=.type "list",data:=.seq its.toArray n }:=by
 obtain⟨z,its,n,r,e⟩:=I.aH l _ a;exact⟨z,its,n,r,r.length,e⟩
theorem I5{n:Nat}(h:n<=UB):Yu n=false:=by
 unfold Yu;exact ef (by omega)
end
def Kf:V->List V->Hp->VK->Prop:=λx vs H Q=>∃l xs y,x=.ref l/\vs=[y]/\H l=ih (.lst xs)/\xs.length<UB/\Q .aK (upd H l (.lst (xs++[y])))
theorem ju:lb X "list.append" Kf:=by
 intro J s σ H x vs v us Q I b c h;obtain⟨l,xs,y,rfl,rfl,a,f,q⟩:=h;cases b
 obtain⟨u,rfl,d⟩:=c.one;obtain⟨z,its,n,r,g,e⟩:=I.jM a;refine j8 F.slot_list_append ⟨_,e,rfl⟩ F.entry_list_append (F.args_list_append_2 _ _) (PySem.list_append l its.toArray n u (by rw[bY];omega)) ⟨e,?_⟩
 refine⟨.aK,_,I.qC (its':=its++[u]) a e (by simp) (r.append (.cons d .nil)) ?_,rfl,q⟩
 rw[bV,jl];omega
def Ol:V->List V->Hp->VK->Prop:=λx vs H Q=>∃l xs y,x=.ref l/\vs=[]/\H l=ih (.lst xs)/\xs[xs.length - 1]?=ih y/\Q y (upd H l (.lst xs.dropLast))
theorem LL:lb X "list.pop" Ol:=by
 intro J s σ H x vs v us Q I d f h;obtain⟨l,xs,y,rfl,rfl,a,g,q⟩:=h;cases d
 have b:=f.zero;subst b;obtain⟨z,its,n,r,i,e⟩:=I.jM a;obtain⟨u,j,k⟩:=r.get g;have c:its.toArray[its.toArray.size - 1]?=ih u:=by
  show its.toArray[its.length - 1]?=ih u;rw[<-oN,<-i];exact j
 refine j8 aa9 ⟨_,e,rfl⟩ aaY (F.args_list_pop_1 _) (MeetsSeq.list_pop_last l its.toArray n u c (by rw[bY];omega)) ⟨e,?_⟩
 refine⟨y,_,I.qC (its':=its.dropLast) a e ?_ r.dropLast ?_,k,q⟩
 ·show its.toArray.eraseIdxIfInBounds (its.toArray.size - 1)=its.dropLast.toArray
  rw[bY,UT,Hg]
 ·rw[Fb]
  omega
def LM:V->List V->Hp->VK->Prop:=λx vs H Q=>∃l xs i k y,x=.ref l/\vs=[.int i]/\H l=ih (.lst xs) /\ -(2 ^ 63)<=i/\i<2 ^ 63/\seqIndex? i xs.length=ih k/\xs[k]?=ih y/\Q y (upd H l (.lst (xs.eraseIdx k)))
theorem BC:lb X "list.pop" LM:=by
 intro J s σ H x vs v us Q I c d h;obtain⟨l,xs,i,k,y,rfl,rfl,a,h1,h2,f,g,q⟩:=h;cases c
 obtain⟨u,rfl,j⟩:=d.one;obtain⟨t,rfl⟩:=j;obtain⟨z,its,n,r,m,e⟩:=I.jM a;obtain⟨w,o,b⟩:=r.get g;refine j8 aa9 ⟨_,e,rfl⟩ aaY (F.args_list_pop_2 _ _)
  (MeetsSeq.list_pop_at l its.toArray n i t k w (fitsIndex_both h1 h2) (by rw[bY,<-m];exact f) (by rw[<-oN];exact o) (by rw[bY];omega)) ⟨e,?_⟩
 refine⟨y,_,I.qC (its':=its.eraseIdx k) a e ?_ (r.eraseIdx k) ?_,b,q⟩
 ·show its.toArray.eraseIdxIfInBounds k=(its.eraseIdx k).toArray
  rw[UT]
 ·have:=AV xs k
  omega
def Om:R2:=λx y H Q=>∃l b xs zs,x=.ref l/\y=.ref b/\H l=ih (.lst xs)/\H b=ih (.lst zs)/\xs.length+zs.length<=UB /\∀p,H p=none->Q (.ref p) (upd H p (.lst (xs++zs)))
theorem hG:cp X (Yn .Add) Om:=by
 intro J s σ H x y v u Q I c d h;obtain⟨l,b,xs,zs,rfl,rfl,f,g,m,q⟩:=h;cases c
 cases d
 obtain⟨z,its,n,r,o,e⟩:=I.jM f;obtain⟨p,a,t,i,k,e2⟩:=I.jM g;refine PySem.P.add_list e e2 ?_ (by rw[bY,bY];omega)
 have j:its.toArray++a.toArray=(its++a).toArray:=by simp
 rw[j];exact⟨.ref _,_,I.DM (t':=s.toks) (r.append i) (by rw[bV];omega),rfl,q _ I.fresh⟩
section
set_option maxRecDepth 100000 in
end
end L2
namespace En
open W Calls PyProof.Rows
theorem F3{P:Params}:∀(ns:ac Int) (vs:ac i'),WellAll P h vs (ns.map aby)->aaj vs ns:=by
 intro ns
 induction ns with
 |nil =>
  intro vs w;rw[aa7]at w;cases w
  exact .nil
 |cons n ns c =>
  intro vs w;rw[b2]at w;cases w with
  |cons a b =>
   cases a
   exact .cons _ _ (c _ b)
theorem HU{l:aai}{n:Nat}(o:l.most=ih n){P:Params}{args:ac WData}{e:ac i'}
  (f:l.row.toRowW.claim.pre args=true) (k:WellAll P h e args) :
  ∃a vs ns,e=[UR a]/\args=[WData.list (ns.map aby)]/\h.get? a=ih { cls:=.type "list",data:=.seq vs.toArray }/\aaj vs ns/\ns.length<=n:=by
 have m:WShape.hasAll [] args [.list .int]=true:=(pre_splitW f).1;have g:l.pre.holds [] { args:=args }=true:=(pre_splitW f).2;obtain⟨d,r,rfl,h1,h2⟩:=hasAllW_cons m;obtain rfl:=hasAllW_nil h2;obtain⟨xs,rfl,p⟩:=hasW_list h1;obtain⟨ns,rfl⟩:=items_int p;have i:ns.length<=n:=by
  unfold OpenLaw.pre at g;have b:(WTm.not (.lt (.lit (.int (n:Int))) (.len (.arg 0)))).holds [] { args:=[.list (ns.map .int)] }=true:=by
   have b:=(holds_andW g).1;rw[o]at b;exact b
  have c:=condW_of b (w_not (w_lt w_lit (w_len_list (w_arg rfl))));rw[aB]at c;refine Nat.le_of_not_lt λq=>?_;have s:(n:Int)<((ns.length:Nat):Int):=by omega
  first
   |(rw[cb s]at c;exact absurd c (by decide))
   |(simp at c;omega)
 cases k with
 |cons t u =>
  cases u
  cases t with
  |list v j=>exact⟨_,_,ns,rfl,rfl,v,F3 ns _ j,i⟩
theorem HV(l:aai)(args:ac WData):l.row.toRowW.claim.post args (.bool true) args=true:=
 postW_of (r:=l.row.toRowW) (X:=(true==true))
  (show aa4 [] (.bool true) .bool=true by first|rfl|decide|simp[aa4,WShape.arms,WShape.armsAll])
  (show(WTm.eq .res (.lit (.bool true))).value [] { args:=args,res:=ih (.bool true),after:=args }=ih (.bool (true==true)) from w_eq_bool (w_res rfl) w_lit) rfl
theorem GA{l:aai}{n:Nat}{q:Yc}{d:DefRec}
  (v:l.most=ih n) (p:d.params.defaults=[])
  (call:∀(w:Yi) (e b:Ux) (mg g:Fv->Option i') (c:EZ) (o:Yy) (pm cd Qd:i') (a:EZ) (vs:ac i') (ns:ac Int),
   Ground q Qs [] XP w e mg g b.heap->YP w b.heap ->
   b.heap.get? c=ih o->o.data=.func (docDef d.name d.params d.body d.scope pm cd Qd)->b.heap.CodeRec cd d.name->mg d.name=ih (.ref c) ->
   b.heap.get? a=ih { cls:=.type "list",data:=.seq vs.toArray }->aaj vs ns->ns.length<=n->b.gens = #[] ->
   codeAny (UO l.prog w) callerA (.call (.ref c) ⟨[.ref a],[]⟩) (λr s'=>r=.ok (.ret (.bool true))/\OldK b.heap s'.heap/\s'.os=b.os/\Y6 s'.gens) b) :
  WalkO q Qs XP YP l.row.toRowW d [] (λf vs=>Z5 f vs):=by
 intro w e b mg g G x c o pm cd Qd y kV z A s h t B args H L j I J u K;obtain rfl:y=.none:=Dflts.none h p;obtain rfl:kV=.none:=Dflts.noKw h;obtain⟨a,vs,ns,rfl,rfl,k,i,m⟩:=HU v j u;refine enter_call (ll (call w e b mg g c o pm cd Qd a vs ns G x z (fd_plain A) s t k i m B) λr s' C=>?_);obtain⟨rfl,h2,D,E⟩:=C;exact⟨.inl ⟨.bool true,.bool true,[],rfl,λ_=>rfl,.bool true,HV l _,λ_=>⟨Y9,λ_ F=>(nomatch F)⟩⟩,h2,D,E⟩
end En
namespace L2
open Spec PyProof.Rows
theorem AW:∀{vs:ac i'}{ns:ac Int},aaj vs ns->Vals (ns.map V.int) vs
 |_,_,.nil=>.nil
 |_,_,.cons n t h=>.cons ⟨t,rfl⟩ (AW h)
def uY(H:Hp):Prop:= ∀b,H b=none \/∃o xs,H b=ih (.bu o (.lst xs))
theorem I6{l:Fv->Option i'}{CX:gG}{k:Nat}{p:EZ}{c:Ux}{vs:ac i'}{ns:ac Int}
  (E:K.In c.heap) (B:c.heap.Ns UU mg) (f:c.heap.Ns builtinsNs l) (S:∀x:Fv,x ≠ "__name__" -> l x=Vh x) (N:c.heap.NoLimit) (X:c.gens = #[])
  (j:c.heap.get? a=ih { cls:=.type "list",data:=.seq vs.toArray }) (hi:aaj vs ns) (G:ns.length<=UB) (Y:aZ k callerA)
  (F:∀base:X8,K.In base->base.Ns UU mg->aT P w K mg base CX k p fd [x] sp) (M:∀(s:Ux) (u:i'),ZM s fd ⟨[u],[]⟩ [(x,u)])
  (T:∀H:Hp,uY H->aj K H a (ns.map V.int)->sp [.ref a] H (λv _=>v=.bl true) λ_ _ _=>False)
  (U:∀H e s',CX [] H c (λ_ _ _=>False) e s'->False) :
  codeAny (UO P w) callerA (.call (.ref p) ⟨[.ref a],[]⟩) (λr s'=>r=.ok (.ret (.bool true))/\OldK c.heap s'.heap/\s'.os=c.os/\Y6 s'.gens) c:=by
 have I:=AW hi;have O:=hi.length;have core:∀H:Hp,uY H->aj K H a (ns.map V.int)->cm P w H c.heap->(∀b,H b≠none->b=a)->(H a≠none->K.lookup a=none) ->
   codeAny (UO P w) callerA (.call (.ref p) ⟨[.ref a],[]⟩) (λr s'=>r=.ok (.ret (.bool true))/\OldK c.heap s'.heap/\s'.os=c.os/\Y6 s'.gens) c:=by
  intro H J Z C L xa;have A:∀{b:EZ}{o:Yy},c.heap.get? b=ih o->H b=none->(i2 c.heap H).get? b=ih o:=λe n=>IQ e n;have W:∀{b:EZ}{o:Yy}{es:Array YF}{ep:Nat},c.heap.get? b=ih o->o.data=.dict es ep->H b=none:=λ{b o es ep} e d=>by
   cases q:H b with
   |none=>rfl
   |some u =>
    have t:b=a:=L b (by rw[q];simp)
    subst t;rw[j]at e;cases e;have ya:aca vs.toArray _=Data.dict es ep:=d;cases ya
  have i:∀{b:EZ}{m:Fv->Option i'},c.heap.Ns b m->(i2 c.heap H).Ns b m:=λ{b m} ⟨o,es,ep,e,d,r⟩=>⟨o,es,ep,A e (W e d),d,r⟩;have D:K.In (i2 c.heap H):=λb o e=>A (E b o e) (by
   cases q:H b with
   |none=>rfl
   |some u =>
    have t:b=a:=L b (by rw[q];simp)
    subst t;rw[xa (by rw[q];simp)]at e;cases e)
  have za:Mod K mg (i2 c.heap H):=⟨D,i B,⟨l,i f,S⟩,let ⟨xb,h1,h2⟩:=N;⟨xb,i h1,h2⟩⟩;have e0:kO P w K mg (i2 c.heap H) callerA [] c H:=⟨rfl,za,λb o e=>JV e,abh (HK _ _),trivial,λb f=>absurd (show b∈([]:ac EZ) from f) (by simp),C,.of_eq X⟩
  refine ll ((F _ D (i B)).run callerA [] c H ⟨[.ref a],[]⟩ [.ref a] [.ref a] _ _ Y e0 (M c (.ref a)) (.cons rfl .nil) (T H J Z)) λr s' h=>?_;cases r with
  |error e=>exact(U H e s' h).elim
  |ok yb =>
   cases yb with
   |next=>exact Vd h
   |brk=>exact Vd h
   |cont=>exact Vd h
   |ret u =>
    obtain⟨v,H',os,Q,un,R,zb,q⟩:=h;have xc:v=.bl true:=q;subst xc;obtain rfl:u=YG true:=zb;refine⟨rfl,OldK.of_keep λb o e=>?_,os,Q⟩;cases q:H b with
    |none=>exact un.keep b o e q (by intro z;exact absurd (show b∈([]:ac EZ) from z) (by simp)) (by simp)
    |some u =>
     rcases J b with z|⟨yc,xs,z⟩
     ·rw[q]at z;cases z
     ·have z2:=un.gC b yc _ z
      obtain⟨e1,_⟩:=C b _ z;obtain⟨e2,_⟩:=R b _ z2;rw[e]at e1;cases e1;exact e2
 cases y:K.lookup a with
 |some o =>
  have e:=E a o y;rw[j]at e;cases e
  refine core (λ_=>none) (λ_=>.inl rfl) (.inr ⟨_,vs.toArray,_,y,rfl,rfl,rfl,by rw[bY,O];exact G,by simpa using I⟩) (λb u z=>by have g:(none:ad HO)=ih u:=z;cases g) (λb z=>absurd rfl z) λz=>absurd rfl z
 |none =>
  refine core (λb=>if b=a then ih (.bu { cls:=.type "list",data:=.seq vs.toArray } (.lst (ns.map V.int))) else none) (λb=>?_) (.inl (.inr ⟨{ cls:=.type "list",data:=.seq vs.toArray },aE rfl⟩)) (λb u z=>?_) (λb z=>?_) λ_=>y
  ·by_cases f:b=a
   ·exact .inr ⟨_,_,aE f⟩
   ·exact .inl (ao f)
  ·by_cases f:b=a
   ·have g:=(aE f).symm.trans z
    cases g
    subst f;exact⟨j,by rw[aB];exact G,vs,_,I,j⟩
   ·have g:=(ao f).symm.trans z
    cases g
  ·by_cases f:b=a
   ·exact f
   ·exact absurd (ao f) z
theorem Kg{l:PySem.W.OpenLaw}{n k:Nat}{q:Yc}{d:DefRec}{K:Params->UP}{CX:Yi->gG}{sp:Yi->Sp}
  (C:l.most=ih n) (t:n<=UB) (y:d.params.defaults=[]) (D:aZ k callerA)
  (E:∀(w:Yi) (h:X8),YP w h->(K w.params).In h)
  (F:∀(w:Yi) (mg:Fv->Option i') (c:EZ) (h:X8),(K w.params).In h->h.Ns UU mg->mg d.name=ih (.ref c) ->
   ∃fd:X2,(∀(s:Ux) (u:i'),ZM s fd ⟨[u],[]⟩ [(x,u)]) /\
    ∀base:X8,(K w.params).In base->base.Ns UU mg->aT l.prog w (K w.params) mg base (CX w) k c fd [x] (sp w))
  (z:∀(w:Yi) (H:Hp) (a:EZ) (ns:ac Int),ns.length<=n->uY H->aj (K w.params) H a (ns.map V.int)->sp w [.ref a] H (λv _=>v=.bl true) λ_ _ _=>False)
  (A:∀(w:Yi) (H:Hp) (s:Ux) (e:i') (s':Ux),CX w [] H s (λ_ _ _=>False) e s'->False) :
  PySem.W.WalkO q Qs XP YP l.row.toRowW d [] (λf vs=>Z5 f vs):=by
 refine En.GA C y λw P p mg R c o pm cd Qd a vs ns G I S U Q B r m i J=>?_;have j:=E w _ I;obtain⟨fd,L,M⟩:=F w mg c _ j G.T.g B;exact I6 j G.T.g G.T.b G.T.builtins G.T.nolimit J r m (eg i t) D M L (λH N O=>z w H a ns i N O) λH e s'=>A w H p e s'
def inClass(s:U6)(j:Nat):U6:=match s with
 |.ClassDef _ _ _ body _ _ _ _ _ _ _=>body.getD j (.Pass ⟨0,0,0,0⟩)
 |_=>.Pass ⟨0,0,0,0⟩
def dy(s:U6):Arguments:=match s with
 |.FunctionDef _ a _ _ _ _ _ _ _ _=>a
 |_=>{ posonlyargs:=[],args:=[],vararg:=none,kwonlyargs:=[],kw_defaults:=[],kwarg:=none,defaults:=[] }
def bE(s:U6):List U6:=match s with
 |.FunctionDef _ _ b _ _ _ _ _ _ _=>b
 |_=>[]
def aI(s:U6):YW:=match s with
 |.FunctionDef _ _ _ _ _ _ sc _ _ _=>sc
 |_=>{ kind:=.function,names:=[],isGenerator:=false,isCoroutine:=false }
abbrev aG:gG:=λ_ _ _ _ _ _=>False
abbrev E0:XK:=λ_ _ _=>False
theorem cV:Passes aG X E0:=λ_ _ _ _ _ _ _ h=>h.elim
structure aQ(K:UP)(x qual:Fv)(st:U6)(f:EZ)(fd:X2):Prop where
 ex:∃(oc:i') (od:Option EZ) (kV Qd pm:i') (an:Option EZ) (Qa ct:i') (Qm:Array (Option i')),
  fd=Yh x qual (dy st) (bE st) (aI st) .none kV Qd pm an Qa ct/\K.lookup f=ih ⟨oc,od,.func fd,Qm⟩/\YS K Qa qual=true
 kp:Ys K (.ref f)=true
theorem aQ.ok{k:Nat}(F:aQ K x qual st f fd)(S:bf N ps (aI st))(b:∀vs H Q E,sp vs H Q E->vs.length=ps.length)
  (a:∀(Qa:i') (A:Yk) (outer:ac Zs) (s:Ux) (H:Hp) (vs:ac V) (Q:VK) (E:XK),aZ k (A.deeper (envOfC qual (aI st) s.ai f Qa))->sp vs H Q E ->
   ∃t,dc (d2 aG P w K mg base N qual (aI st) f Qa A outer s H E).k8 (bE st) t/\t { nx:=λ_ H'=>Q .aK H',rt:=Q } (start N vs) H):aT P w K mg base aG (k+1) f fd ps sp:=by
 obtain⟨oc,od,kV,Qd,pm,an,Qa,ct,Qm,rfl,lk,c⟩:=F.ex;refine uu lk c S b λA outer s H vs Q E e d=>?_;obtain⟨t,h,q⟩:=a Qa A outer s H vs Q E e d;exact⟨t,h.k8,q⟩
theorem aQ.binds(F:aQ K x qual st f fd)
  (h:∀(kV Qd pm:i') (an:ad EZ) (Qa ct:i') (us:ac i'),us.length=ps.length->bindArgs (Yh x qual (dy st) (bE st) (aI st) .none kV Qd pm an Qa ct) ⟨us,[]⟩=pure (ps.zip us)):Binds K fd ps []:=by
 obtain⟨oc,od,kV,Qd,pm,an,Qa,ct,Qm,rfl,lk,a⟩:=F.ex;exact .all (h kV Qd pm an Qa ct)
theorem t7{kV:i'}(l:K.lookup f=ih ⟨oc,od,.func (Yh x qual (dy st) (bE st) (aI st) .none kV Qd pm an Qa ct),Qm⟩)
  (c:YS K Qa qual=true) (k:Ys K (.ref f)=true):aQ K x qual st f (Yh x qual (dy st) (bE st) (aI st) .none kV Qd pm an Qa ct):=⟨⟨oc,od,kV,Qd,pm,an,Qa,ct,Qm,rfl,l,c⟩,k⟩
theorem pv(i:Nat)(b:X.N[i]?=ih x:=by rfl)(c:vj X.env.scope x:=by first|exact aa2 rfl|exact YN (aa2 rfl)|exact YN (YN rfl))(d:(x==("__debug__" : Fv))=false:=by decide)
  (a:(x==("__classdict__" : Fv))=false:=by decide):PE X (.Name x pos) (gD i):=Lv b c d a
theorem bW{c A B:Prop} [Decidable c](h1:c->A)(h2 : ¬ c->B):if c then A else B:=by
 by_cases h:c
 ·rw[aE h]
  exact h1 h
 ·rw[ao h]
  exact h2 h
def aw(H H':Hp):Prop:= ∀b o,H b=ih o->H' b=ih o
theorem aw.refl(H:Hp):aw H H:=λ_ _ h=>h
theorem aw.trans(a:aw H Y)(b:aw Y H2):aw H H2:=λc o h=>b c o (a c o h)
theorem aw.free(e:aw H H')(h:H' l=aaV):H l=aaV:=by
 cases q:H l with
 |none=>rfl
 |some o =>
  rw[e l o q]at h;cases h
end L2
namespace L2
theorem Paired.DN{α β:Type}{F G:α->β->Prop}{l:ac α}{m:ac β}(h:VM F l m):(∀a b,b∈m->F a b->G a b)->VM G l m:=by
 induction h with
 |nil=>exact λ_=>.nil
 |cons p _ c=>exact λk=>.cons (k _ _ aW p) (c λa b e=>k a b (ba _ e))
end L2
namespace L2
open Spec PyProof.Rows
def eW(cells:List (Fv×EZ)):List (Fv×Yo)->List (Fv×EZ)->List (Fv×EZ)
 |[],Qb=>Qb
 |(n,k)::r,Qb=>if k == .free then eW cells r ((n,(cells.lookup n).getD 0)::Qb) else eW cells r Qb
theorem r4(h:∀n,(n,U4)∈scope.names ->∃c,env.cells.lookup n=ih c) :
  closureFor scope env=pure (eW env.cells scope.names []):=by
 have o:∀(b:ac (Fv×Yo)) (Qb:ac (Fv×EZ)),(∀n,(n,U4)∈b ->∃c,env.cells.lookup n=ih c) ->
   (forIn (m:=Zh) b Qb λx r=>match x with|(name,d)=>if (d==U4)=true then (do let a <- cellOf env name;pure (VI ((name,a)::r))) else pure (VI r))=pure (eW env.cells b Qb):=by
  intro b
  induction b with
  |nil=>intro Qb _;rfl
  |cons x r i =>
   intro Qb f;obtain⟨n,k⟩:=x;rw[aaC];unfold eW
   by_cases j:k=.free
   ·subst j
    obtain⟨c,l⟩:=f n aW;simp only[oO,g8];have e:cellOf env n=pure c:=by unfold cellOf;rw[l]
    rw[e,l];exact i _ λm g=>f m (ba _ g)
   ·have p:(k==U4)=false:=by simpa using j
    simp only[p,vX,j6];exact i _ λm g=>f m (ba _ g)
 unfold closureFor;have:=o scope.names [] h;show((forIn (m:=Zh) scope.names [] λx r=>match x with|(name,d)=>if (d==U4)=true then (do let a <- cellOf env name;pure (VI ((name,a)::r))) else pure (VI r)) >>= λq=>pure q)=_;rw[this]
 rfl
theorem lE:∀(a:ac (Fv×Yo)) (n:Nat) (Qb:ac (Fv×EZ)),cellsFrom n a Qb=cellsFrom n a []++Qb
 |[],_,_=>rfl
 |(name,b)::r,n,Qb=>by
  unfold cellsFrom;split
  ·rw[lE r (n+1) ((name,n)::Qb),lE r (n+1) [(name,n)],mS];rfl
  ·exact lE r n Qb
theorem oY{cells:ac (Fv×EZ)}:∀(b:ac (Fv×Yo)) (Qb:ac (Fv×EZ)) (x:Fv) (c:EZ),(eW cells b Qb).lookup x=ih c ->
  (Qb.lookup x=ih c)\/((x,U4)∈b/\c=(cells.lookup x).getD 0)
 |[],Qb,x,c,h=>.inl h
 |(n,k)::r,Qb,x,c,h=>by
  unfold eW at h;split at h
  ·rename_i f
   have d:k=.free:=by simpa using f
   subst d;rcases oY r _ x c h with z|⟨z,e⟩
   ·rw[dg]at z
    cases a:x==n with
    |true=>rw[a]at z;cases z;rw[dA.mp a];exact .inr ⟨aW,rfl⟩
    |false=>rw[a]at z;exact .inl z
   ·exact .inr ⟨ba _ z,e⟩
  ·rcases oY r _ x c h with z|⟨z,e⟩
   ·exact .inl z
   ·exact .inr ⟨ba _ z,e⟩
theorem sD{cells:ac (Fv×EZ)}:∀(a:ac (Fv×Yo)) (Qb:ac (Fv×EZ)) (x:Fv),(∃c,Qb.lookup x=ih c) ->∃c,(eW cells a Qb).lookup x=ih c
 |[],Qb,x,h=>h
 |(n,k)::r,Qb,x,h=>by
  unfold eW;split
  ·refine sD r _ x ?_
   obtain⟨c,h⟩:=h;rw[dg];cases b:x==n with
   |true=>exact⟨_,rfl⟩
   |false=>exact⟨c,h⟩
  ·exact sD r _ x h
theorem o6{cells:ac (Fv×EZ)}:∀(a:ac (Fv×Yo)) (Qb:ac (Fv×EZ)) (x:Fv),(x,U4)∈a ->∃c,(eW cells a Qb).lookup x=ih c
 |[],Qb,x,h=>by simp at h
 |(n,k)::r,Qb,x,h=>by
  unfold eW;rcases bH.mp h with e|h
  ·cases e
   simp only[oO,g8];exact sD r _ _ ⟨(cells.lookup n).getD 0,by rw[dg];simp⟩
  ·split
   ·exact o6 r _ x h
   ·exact o6 r _ x h
theorem oX:∀(a:ac (Fv×Yo)) (n:Nat) (Qb:ac (Fv×EZ)) (x:Fv) (c:EZ),(x,c)∈cellsFrom n a Qb->(x,c)∈Qb\/(x,X3)∈a
 |[],_,_,_,_,h=>.inl h
 |(name,b)::r,n,Qb,x,c,h=>by
  unfold cellsFrom at h;split at h
  ·rename_i f
   have d:b=.cell:=by simpa using f
   subst d;rcases oX r _ _ x c h with z|z
   ·rcases bH.mp z with e|z
    ·cases e;exact .inr aW
    ·exact .inl z
   ·exact .inr (ba _ z)
  ·rcases oX r _ _ x c h with z|z
   ·exact .inl z
   ·exact .inr (ba _ z)
structure b6(N:List Fv)(Eo:YW)(N':List Fv)(Qe:List (Option Nat))(sc:YW):Prop where
 kind:sc.kind=.function
 keys:(sc.names.map (·.1)).Nodup
 nd:N'.Nodup
 len:Qe.length=N'.length
 fv:∀(j i:Nat),Qe[j]?=ih (ih i) ->∃x,N[i]?=ih x/\N'[j]?=ih x/\sc.names.lookup x=ih .free
 free:∀p∈sc.names,p.2=.free->Eo.names.lookup p.1=ih .cell\/Eo.names.lookup p.1=ih .free
theorem lF{α:Type}:∀{l:ac (Fv×α)},(l.map (·.1)).Nodup ->∀{x:Fv}{k:α},(x,k)∈l->l.lookup x=ih k
 |(n,v)::r,a,x,k,h=>by
  obtain⟨h1,h2⟩:=d4.mp a;rw[dg];rcases bH.mp h with e|hm
  ·cases e;simp
  ·have:(x==n)=false:=by
    rw[iC];intro e;exact h1 (a4.mpr ⟨_,hm,e⟩)
   rw[this];exact lF h2 hm
def sP(scope:YW)(L:EZ)(env:Zs):Zs:=
 { scope:=relabel scope env,locals:=L,globals:=env.globals,cells:=cellsFrom (L+1) scope.names (eW env.cells scope.names []),qual:=env.qual,func:=none,code:=env.code,frame:=env.frame,builtins:=env.builtins }
theorem Aa{M:ZE}{globals:EZ}{d:ac (Fv×EZ)}{Q:Zs->Ux->Prop}
  (h:∀h',h'.Ns s.ai (λ_=>none)->(∀b o,s.heap.get? b=ih o->h'.get? b=ih o)->(∀x c,(x,c)∈cellsFrom (s.ai+1) scope.names []->h'.IsCell c none/\s.ai<c) ->
   ((cellsFrom (s.ai+1) scope.names []).Pairwise λx y=>x.2≠y.2) ->
   Q { scope:=scope,locals:=s.ai,globals:=globals,cells:=cellsFrom (s.ai+1) scope.names d,qual:=qual,func:=none,code:=env.code,frame:=env.frame,builtins:=env.builtins } { s with heap:=h' }) :
  Uz M A (newFunctionEnv scope globals d [] qual none .none (ih env)) Q E s:=by
 simp only[newFunctionEnv,UW,g8];refine ae (wpAny_alloc ?_);refine ae (wpAny_layCells _ (λname f cells=>by cases g:f==X3 <;> simp[g]) _ _ _ _ ?_)
 have ok:=cellsFrom_ok scope.names (s.heap.push { cls:=.type "dict",data:=.dict #[] }) (s.ai+1) [] ⟨λ_ _ a=>(nomatch a),Y9⟩ (by rw[g7];exact aP _)
 rw[g7]at ok;rw[show({ s with heap:=s.heap.push { cls:=.type "dict",data:=.dict #[] } }:Ux).heap.objs.size=s.ai+1 from g7 ..];rw[List.forIn_nil];refine ae (ak (ak ?_));exact h _ ((Heap.Ns.new s.heap (.type "dict")).keeps (pushCells_keeps _ _)) (λb o e=>pushCells_keeps _ _ b o (a5 _ e)) (λx c a=>⟨(ok.empty x c a).1,(ok.empty x c a).2⟩) ok.apart
def cu(X:Cx)(N':List Fv)(scope:YW)(s2:Ux)(H2:Hp)(fp:List EZ):Cx:=
 { X with N:=N',d7:=s2,gS:=H2,env:=sP scope s2.ai X.env,outer:=X.stack,stack:=X.stack,ex:=fp,fn:=λx=>scope.names.lookup x==ih .cell,pn:=[],xe:=λ_ _=>False }
theorem r3{env:Zs}:∀{d:ac (Fv×Yo)}{x:Fv}{k:Yo},
  (d.map λ(n,k)=>if (k==U4&&env.scope.kind == .function&&env.kindOf n==ih .cell) then (n,X3) else (n,k)).lookup x=ih k ->
  ∃a,d.lookup x=ih a/\(k=a\/(a=.free/\k=.cell))
 |[],_,_,h=>by simp at h
 |(n,a)::r,x,k,h=>by
  have e:=@r3 env r x k;have h':VA x ((if (a==U4&&env.scope.kind == .function&&env.kindOf n==ih .cell)=true then (n,X3) else (n,a))::_)=ih k:=h;rw[dg]
  by_cases c:(a==U4&&env.scope.kind == .function&&env.kindOf n==ih .cell)=true
  ·rw[aE c,dg]at h'
   cases b:x==n with
   |true =>
    rw[b]at h';cases h';have:a=.free:=by
     have z:=c;rw[gK,gK]at z
     simpa using z.1.1
    exact⟨a,rfl,.inr ⟨this,rfl⟩⟩
   |false=>rw[b]at h';exact e h'
  ·rw[ao c,dg]at h'
   cases b:x==n with
   |true=>rw[b]at h';cases h';exact⟨a,rfl,.inl rfl⟩
   |false=>rw[b]at h';exact e h'
theorem r0{env:Zs}:∀{d:ac (Fv×Yo)}{x:Fv},d.lookup x=ih .free ->
  (d.map λ(n,k)=>if (k==U4&&env.scope.kind == .function&&env.kindOf n==ih .cell) then (n,X3) else (n,k)).lookup x=ih .cell \/
  (d.map λ(n,k)=>if (k==U4&&env.scope.kind == .function&&env.kindOf n==ih .cell) then (n,X3) else (n,k)).lookup x=ih .free
 |[],_,h=>by simp at h
 |(n,b)::r,x,h=>by
  have e:=@r0 env r x;show VA x ((if (b==U4&&env.scope.kind == .function&&env.kindOf n==ih .cell)=true then (n,X3) else (n,b))::_)=_\/VA x ((if (b==U4&&env.scope.kind == .function&&env.kindOf n==ih .cell)=true then (n,X3) else (n,b))::_)=_;rw[dg]at h;cases a:x==n with
  |true =>
   rw[a]at h;cases h
   by_cases c:(U4==U4&&env.scope.kind == .function&&env.kindOf n==ih .cell)=true
   ·rw[aE c,dg,a];exact .inl rfl
   ·rw[ao c,dg,a];exact .inr rfl
  |false =>
   rw[a]at h
   by_cases c:(b==U4&&env.scope.kind == .function&&env.kindOf n==ih .cell)=true
   ·rw[aE c,dg,a];exact e h
   ·rw[ao c,dg,a];exact e h
def pick(Qe:List (Option Nat))(σ:St):St:=Qe.map λo=>o.bind λi=>(σ[i]?).join
theorem o7(I:Inv X J σ H s2)(S:b6 X.N X.env.scope N' Qe scope)(a:(x,U4)∈scope.names):∃c,X.env.cells.lookup x=ih c:=
 I.ok.has x (S.free _ a rfl)
theorem Hh(I:Inv X J σ H s2)(S:b6 X.N X.env.scope N' Qe scope){n:Nat}{c:EZ}(h:(cellsFrom n scope.names (eW X.env.cells scope.names [])).lookup x=ih c) :
  ((x,c)∈cellsFrom n scope.names []/\(x,X3)∈scope.names)\/((x,U4)∈scope.names/\X.env.cells.lookup x=ih c):=by
 rw[lE,Fc]at h;cases e:(cellsFrom n scope.names []).lookup x with
 |some d =>
  rw[e]at h;have z:d=c:=by simpa using h
  subst z;have m:=jh e;rcases oX _ _ _ _ _ m with z|z
  ·simp at z
  ·exact .inl ⟨m,z⟩
 |none =>
  rw[e]at h;have h':(eW X.env.cells scope.names []).lookup x=ih c:=by simpa using h
  rcases oY _ _ _ _ h' with z|⟨z,e2⟩
  ·simp at z
  ·obtain⟨a,h0⟩:=o7 I S z
   rw[h0]at e2;exact .inr ⟨z,by rw[h0,e2];rfl⟩
theorem BD(I:Inv X J σ H s2)(S:b6 X.N X.env.scope N' Qe scope)(B:∀b∈fp,fu X J H b)(U:∀b∈fp,∃o,s2.heap.get? b=ih o)
  (za:h'.Ns s2.ai (λ_=>none)) (D:∀b o,s2.heap.get? b=ih o->h'.get? b=ih o)
  (h:∀x c,(x,c)∈cellsFrom (s2.ai+1) scope.names []->h'.IsCell c none/\s2.ai<c) (E:(cellsFrom (s2.ai+1) scope.names []).Pairwise λx y=>x.2≠y.2) :
  Inv (cu X N' scope s2 H fp) [] (pick Qe σ) H { s2 with heap:=h' }:=by
 have F:∀{x:Fv}{c:EZ},X.env.cells.lookup x=ih c->c<s2.ai:=λ{x c} e=>let ⟨_,q⟩:=I.cell x c e;q.lt;have l:∀{x:Fv}{c:EZ},(cu X N' scope s2 H fp).env.cells.lookup x=ih c->((x,c)∈cellsFrom (s2.ai+1) scope.names []/\(x,X3)∈scope.names)\/((x,U4)∈scope.names/\X.env.cells.lookup x=ih c):=
  λ{x c} e=>Hh I S e
 have V:∀{x:Fv}{c:EZ},(cu X N' scope s2 H fp).env.cells.lookup x=ih c ->∃v,h'.IsCell c v:=λ{x c} e=>by
  rcases l e with⟨m,_⟩|⟨_,e0⟩
  ·exact⟨_,(h x c m).1⟩
  ·obtain⟨v,q⟩:=I.cell x c e0
   exact⟨v,q.keeps D⟩
 have G:∀b∈fp,b<s2.ai:=λb a=>let ⟨_,e⟩:=U b a;bt e;refine⟨⟨I.ok.mod,S.kind,I.ok.glob,I.ok.blt,aP _,λx y c e1 e2=>?_,λx hx=>?_,λx c hx e=>?_,I.ok.hd,I.ok.frames,.inl rfl,λb a=>⟨bK (G b a),λx c e z=>?_⟩,I.bs,?_,λb o e a=>?_,λb a W=>?_,I.stack,I.tm⟩,
  rfl,I.bare,Un.kept D,⟨_,za,λj x v e1 e2 e3=>?_⟩,λx c e=>V e,I.aH.fresh (aP _),λx c e=>?_,λp E=>absurd (show p∈([]:ac (EZ×Yy)) from E) (by simp),I.aH.kept D,?_⟩
 ·rcases l e1 with⟨M,_⟩|⟨_,s⟩ <;> rcases l e2 with⟨O,_⟩|⟨_,P⟩
  ·exact name_of_addr E M O
  ·exact absurd (lq (h _ _ M).2 (F P)) (jc _)
  ·exact absurd (lq (h _ _ O).2 (F s)) (jc _)
  ·exact I.ok.inj x y c s P
 ·have Y:∃f,scope.names.lookup x=ih f/\(f=.cell\/f=.free):=by
   rcases hx with hx|hx
   ·obtain⟨f,e,z⟩:=r3 (env:=X.env) hx
    refine⟨f,e,?_⟩;rcases z with z|z
    ·exact .inl z.symm
    ·exact .inr z.1
   ·obtain⟨f,e,z⟩:=r3 (env:=X.env) hx
    refine⟨f,e,?_⟩;rcases z with z|z
    ·exact .inr z.symm
    ·exact .inr z.1
  obtain⟨f,e,z⟩:=Y;show ∃c,(cellsFrom (s2.ai+1) scope.names (eW X.env.cells scope.names [])).lookup x=ih c;rw[lE,Fc];rcases z with rfl|rfl
  ·obtain⟨c,g⟩:=sO (n:=s2.ai+1) e
   exact⟨c,by rw[g];rfl⟩
  ·cases q:(cellsFrom (s2.ai+1) scope.names []).lookup x with
   |some d=>exact⟨d,rfl⟩
   |none =>
    obtain⟨c,g⟩:=o6 (cells:=X.env.cells) scope.names [] x (jh e);exact⟨c,by rw[g];rfl⟩
 ·have K:scope.names.lookup x=ih .cell:=by simpa [cu] using hx
  rcases l e with⟨m,_⟩|⟨m,_⟩
  ·exact oH (h _ _ m).2
  ·rw[lF S.keys m]at K;cases K
 ·rcases l e with⟨m,_⟩|⟨_,s⟩
  ·have:=G b a
   rw[<-z]at this;exact absurd (lq (h _ _ m).2 this) (jc _)
  ·exact(B b a).2.2.2.2.1 x c s z
 ·exact eg I.ok.hT I.sz
 ·rcases (B b a).2.2.2.1 with z|z
  ·exact I.ok.jL b o e z
  ·exact absurd (eT (bt (I.ok.bs b o e).1) z) (jc _)
 ·have:=I.pW b W
  rcases bH.mp this with z|z
  ·exact(B b a).2.1 z
  ·exact(B b a).2.2.1 z
 ·
  have t:(Qe[j]?).bind (λo=>ih (o.bind λi=>(σ[i]?).join))=ih (ih v):=by
   have w:(Qe.map λo=>o.bind λi=>(σ[i]?).join)[j]?=ih (ih v):=e2;rw[cI]at w;cases q:Qe[j]? with
   |none=>rw[q]at w;cases w
   |some o=>rw[q]at w;exact w
  cases q:Qe[j]? with
  |none=>rw[q]at t;cases t
  |some o =>
   rw[q]at t;cases o with
   |none=>simp at t
   |some i =>
    have C:(σ[i]?).join=ih v:=by simpa using t
    have xb:σ[i]?=ih (ih v):=by
     cases Q:σ[i]? with
     |none=>rw[Q]at C;cases C
     |some z=>rw[Q]at C;rw[show z=ih v from C]
    obtain⟨y,Z,xa,A⟩:=S.fv j i q;have ya:x=y:=by
     have L:N'[j]?=ih x:=e1;rw[xa]at L;exact(cG L).symm
    subst ya;obtain⟨m,zd,yb⟩:=I.loc;have R:=S.free _ (jh A) rfl;obtain⟨u,r,lk⟩:=yb i x v Z xb (by rcases R with z|z;exact .inr (.inl z);exact .inr (.inr z))
    refine⟨u,r,.inr ⟨r0 A,?_⟩⟩;rcases lk with⟨k,_⟩|⟨_,c,zb,xc⟩
    ·have T:X.env.scope.names.lookup x=ih .local:=k
     rcases R with z|z <;> (rw[z]at T;cases T)
    ·refine⟨c,?_,xc.keeps D⟩
     show(cellsFrom (s2.ai+1) scope.names (eW X.env.cells scope.names [])).lookup x=ih c;rw[lE,Fc];cases yc:(cellsFrom (s2.ai+1) scope.names []).lookup x with
     |some d =>
      rcases oX _ _ _ _ _ (jh yc) with z|z
      ·simp at z
      ·rw[lF S.keys z]at A;cases A
     |none =>
      obtain⟨xe,g⟩:=o6 (cells:=X.env.cells) scope.names [] x (jh A);rcases oY _ _ _ _ g with z|⟨_,e5⟩
      ·simp at z
      ·rw[zb]at e5
       rw[g,e5];rfl
 ·rcases l e with⟨m,_⟩|⟨_,s⟩
  ·exact I.aH.fresh (oH (h _ _ m).2)
  ·exact I.eP x c s
 ·show(Qe.map _).length=N'.length
  rw[aB,S.len]
def jN(X:Cx)(Qg:List Vp)(t:TT):Prop:=
 ∀J s σ H (Q:Bool->Hp->Prop),Inv X J σ H s->t σ H Q ->
  wA X (forIn Qg true λc r=>if r=true then do let ok <- isTrue c X.env (eval c X.env);pure (VI ok) else pure (VI r)) (TP X J σ Q) X.xe s
def nX:TT:=λ_ H Q=>Q true H
theorem ei:jN X [] nX:=λ_ _ _ H _ I h=>wpAny_tests_nil ⟨H,I,h⟩
theorem iL{t:TT}(h:PT X c t):jN X [c] t:=λJ s σ H Q I a=>wpAny_tests_one (h J s σ H Q I a)
theorem F1{R:Y7->Ux->Prop}{a:Vp}{it:i'}(I:Nat->Ux->Prop)
  (i:∀n s,I n s->Uz (UO prog w) A (pyNext it) (λr s1=>match r with
   |none=>R (.ok .next) s1
   |some v=>Uz (UO prog w) A (letOwnedTupleGo a it v) (λ_ s2=>Uz (UO prog w) A (assign a env v) (λ_ d =>
     Uz (UO prog w) A (forIn Qg true λc r=>if r=true then do let ok <- isTrue c env (eval c env);pure (VI ok) else pure (VI r)) (λok b =>
      if ok=true then Uz (UO prog w) A (eval Qp env) (λx e =>
       Uz (UO prog w) A (call (.builtin "list.append") [Qb,x]) (λ_ f=>∃m,m<n/\I m f) (λ_ _=>False) e) (λ_ _=>False) b
      else ∃m,m<n/\I m b) (λ_ _=>False) d) (λ_ _=>False) s2) (λ_ _=>False) s1) (λ_ _=>False) s)
  (n:Nat) (h:I n s) :
  codeAny (UO prog w) A (.compLoop (.ListComp Qp [⟨a,iter,Qg,0⟩] scope pos) 0 it Qb env) R s:=by
 refine codeAny_loop rfl I (λn s j=>?_) n h;show Uz _ A ((compTurn (.ListComp Qp [⟨a,iter,Qg,0⟩] scope pos) 0 it Qb env).onRaise (λx=>do noteFrame x env;theTreesLotGoes x)) _ _ s;refine wpAny_noted (vY ?_);rw[compTurn_list];refine ae (je (ae (aF (i n s j) λr s1 h1=>?_)));cases r with
 |none=>exact ak h1
 |some v =>
  refine ae (aF h1 λ_ s2 h2=>ae (aF h2 λ_ d k=>ae (aF k λok b g=>?_)));cases ok with
  |false=>exact ak ⟨rfl,g⟩
  |true=>exact ae (ae (aF g λx e l=>ae (aF l λ_ f o=>ak (ak ⟨rfl,o⟩))))
def hJ(Jz:It)(g:TG)(ti:TT)(te:TE)(fz:St)(Q:VK)(p:EZ)(Y:Hp):Prop:=
 ∃W:Nat->Nat->List V->St->Hp->Prop,(∃m,W 0 m [] fz (upd Y p (.lst []))) /\∀i m ys τ H2,W i m ys τ H2->H2 p=ih (.lst ys) /\
  ((Jz.stop i H2/\Q (.ref p) H2)\/(Jz.go i H2 /\∀x H3,Jz.i8 i H2 x H3->g x τ H3 λjb H4=>ti jb H4 λb H5 =>
   if b=true then te jb H5 λy H6=>H6 p=ih (.lst ys)/\ys.length<UB /\∃m',m'<m/\W (i+1) m' (ys++[y]) jb (upd H6 p (.lst (ys++[y])))
   else ∃m',m'<m/\W (i+1) m' ys jb H5))
def Dj(wi:TI)(Qe:List (Option Nat))(g:TG)(ti:TT)(te:TE):TE:=λσ H Q=>wi σ H λJz Y=>∀p,Y p=none->hJ Jz g ti te (pick Qe σ) Q p Y
def CompEnd(X:Cx)(J:List (EZ×Yy))(σ:St)(Q:VK)(Qb:i')(C:EZ)(s':Ux):Prop:=
 ∃(p:EZ) (H':Hp),Qb=.ref p/\Inv X J σ H' s'/\fu X J H' C/\(∃m,s'.heap.Ns C m)/\Q (.ref p) H'
theorem AX{xd:It}{q:Nat->X8->Prop}{g:TG}{Q:VK}{RR:i'->EZ->Y7->Ux->Prop}(yd:X.calm=true)(S:b6 X.N X.env.scope N' Qe scope)
  (zd:Inv X J σ H2 s2) (T:Turn X.prog X.w X.K tg xd fp it q) (st:q 0 s2.heap) (xe:∀b∈fp,fu X J H2 b)
  (a:∀s H fp,PG (cu X N' scope s H fp) tg g/\jN (cu X N' scope s H fp) Qg ti/\PE (cu X N' scope s H fp) Qp te)
  (zm:∀p,H2 p=none->hJ xd g ti te (pick Qe σ) Q p H2) (xn:∀Qb C s',CompEnd X J σ Q Qb C s'->RR Qb C (.ok .next) s') :
  wA X (newList []) (λQb f=>wA X (newFunctionEnv scope X.env.globals (eW X.env.cells scope.names []) [] X.env.qual none .none (ih X.env)) (λza yn =>
   codeAny X.c2 X.A (.compStart (.ListComp Qp [⟨tg,iter,Qg,0⟩] scope pos) 0 (.ref it) Qb { za with scope:=relabel scope X.env }) (RR Qb za.locals) yn) E f) E s2:=by
 refine fH ?_;have B:Inv X J σ (upd H2 s2.ai (.lst [])) { s2 with heap:=s2.heap.push { cls:=.type "list",data:=.seq ([]:ac i').toArray } }:=
  zd.DM (its:=[]) (t':=s2.toks) .nil (bB _)
 have G:=zm s2.ai zd.fresh;generalize e3:({ s2 with heap:=s2.heap.push { cls:=.type "list",data:=.seq ([]:ac i').toArray } }:Ux)=f at B⊢;generalize ye:upd H2 s2.ai (.lst [])=h at B G;have xj:∀b∈fp,b<s2.ai:=λb a=>let ⟨_,e,_⟩:=T.obj _ _ st b a;bt e;have zh:∀b o,s2.heap.get? b=ih o->f.heap.get? b=ih o:=λb o e=>by rw[<-e3];exact a5 _ e
 have yb:q 0 f.heap:=T.keep _ _ _ st λb _ o e=>zh b o e;have l:∀b∈fp,fu X J h b:=λb a=>⟨by rw[<-ye,ag (bK (xj b a))];exact(xe b a).1,(xe b a).2⟩
 have yj:∀b∈fp,∃o,f.heap.get? b=ih o:=λb a=>let ⟨o,e,_⟩:=T.obj _ _ yb b a;⟨o,e⟩;refine Aa λU Y ze zj xk=>?_;have I:Inv (cu X N' scope f h fp) [] (pick Qe σ) h { f with heap:=U }:=BD B S l yj Y ze zj xk;have zb:q 0 ({ f with heap:=U }:Ux).heap:=T.keep _ _ _ yb λb _ o e=>ze b o e;obtain⟨zn,xo,yo⟩:=a f h fp;obtain⟨W,⟨zo,xf⟩,xi⟩:=G;rw[ye]at xf;have M:∀{H':Hp},(∀b∈fp,H' b=none) ->∀b∈fp,fu (cu X N' scope f h fp) [] H' b:=λY b a =>
  ⟨Y b a,(I.ok.i7 b a).1,I.ok.i3 b a,.inl a,λx c e=>(I.ok.i7 b a).2 x c e,λp G=>absurd (show p∈([]:ac (EZ×Yy)) from G) (by simp)⟩
 have xb:codeAny X.c2 X.A (.compLoop (.ListComp Qp [⟨tg,iter,Qg,0⟩] scope pos) 0 (.ref it) (.ref s2.ai) (sP scope f.ai X.env))
   (RR (.ref s2.ai) f.ai) { f with heap:=U }:=by
  refine F1 (λn s'=>∃i ys j H',Inv (cu X N' scope f h fp) [] j H' s'/\q i s'.heap/\(∀b∈fp,H' b=none)/\W i n ys j H') ?_ zo ⟨0,[],_,h,I,zb,λb a=>(l b a).1,xf⟩;rintro n yf ⟨i,ys,j,L,zf,xc,yc,Z⟩;obtain⟨xt,Z⟩:=xi i n ys j L Z;rcases Z with⟨stop,qn⟩|⟨go,step⟩
  ·refine aF (T.done (cu X N' scope f h fp) rfl rfl rfl yd i [] yf j L _ zf (M yc) xc stop) λr xg ⟨xa,t⟩=>?_
   subst xa;refine xn _ _ _ ⟨_,L,rfl,?_,?_,?_,qn⟩
   ·exact B.qg (s':=xg) (ch:=fp) t.os t.base t.aH t.bare λb a=>⟨(l b a).2.2.2.1,(l b a).2.1,(l b a).2.2.2.2.1,(l b a).2.2.2.2.2⟩
   ·exact B.gT (aP _) t.free
   ·obtain⟨m,k,_⟩:=t.loc
    exact⟨m,k⟩
  ·refine aF (T.item (cu X N' scope f h fp) rfl rfl rfl yd i [] yf j L _ zf (M yc) xc go) λr xg ⟨u,xa,xp⟩=>?_
   subst xa;refine aF xp λ_ yg aa=>?_;obtain⟨x,zg,yp,zp,y7,O,yk⟩:=aa;have zk:=yp.pinned (M yk) (T.obj _ _ O);refine aF (zn _ yg j zg x u _ zk zp (step x zg y7)) λ_ xq ⟨P,yq,zq,xr⟩=>?_;refine aF (xo _ xq P yq _ zq xr) λb yr ⟨zr,xh,yh⟩=>?_;have again:∀{F:St}{H':Hp}{s':Ux}{R:ac V}{v:Nat},Inv (cu X N' scope f h fp) ([]++l4 fp yg.heap) F H' s'->v<n->W (i+1) v R F H' ->
     ∃m,m<n /\∃i ys j H',Inv (cu X N' scope f h fp) [] j H' s'/\q i s'.heap/\(∀b∈fp,H' b=none)/\W i m ys j H':=λ{F H' s' R v} ya k D=>by
    refine⟨v,k,i+1,R,F,H',ya.nj,T.keep _ _ _ O λb a o e=>(ya.pin (b,o) (c4 _ (c4 _ (lI a e)))).1,λb a=>?_,D⟩;obtain⟨o,e,d⟩:=T.obj _ _ O b a;exact(ya.pin (b,o) (c4 _ (c4 _ (lI a e)))).2.1
   cases b with
   |false =>
    obtain⟨v,k,D⟩:=yh;exact again xh k D
   |true =>
    refine aF (yo _ yr P zr _ xh yh) λy xl aa=>?_;obtain⟨z,zc,yl,zl,yi,zi,v,k,D⟩:=aa;refine aF (ju _ xl P zc (.ref s2.ai) [z] (.ref s2.ai) [y] (λ_ H'=>H'=upd zc s2.ai (.lst (ys++[z]))) yl rfl (.cons zl .nil) ⟨_,_,_,rfl,rfl,yi,zi,rfl⟩) λ_ yt aa=>?_;obtain⟨_,zt,xm,_,ym⟩:=aa;subst ym;exact again xm k D
 exact codeAny_compStart_list xb (T.self X.A 0 _ _ _ zb xb)
theorem dZ{wi:TI}{g:TG}(f:X.calm=true)(S:b6 X.N X.env.scope N' Qe scope)(hi:PI X tg iter wi)
  (a:∀s H fp,PG (cu X N' scope s H fp) tg g/\jN (cu X N' scope s H fp) Qg ti/\PE (cu X N' scope s H fp) Qp te)
  (i:∀x,foldedSetIterable iter X.env x=pure x:=by intro _;rfl):PE X (.ListComp Qp [⟨tg,iter,Qg,0⟩] scope pos) (Dj wi Qe g ti te):=by
 intro J s σ H Q I h;rw[eval_ListComp];refine Fd (use:=none) rfl i (r4 λn j=>o7 I S j) S.kind (λx k l=>lF S.keys (by rw[<-l];exact k)) ?_
 refine aF (hi J s σ H _ I h) λv s1 h1=>aF h1 λz s2 h2=>?_;obtain⟨it,fp,B,D,H2,e,r,T,c,t,u⟩:=h2;subst e;refine AX (RR:=λQb C=>compPost X.c2 X.A X.xe none (EP X J σ Q) Qb C) f S r T c t a u ?_;rintro Qb C s' ⟨p,H',rfl,w,fC,⟨m,y⟩,q⟩;refine⟨m,y,λh' d=>⟨.ref p,H',?_,rfl,q⟩⟩;exact w.turned (it:=C) (t':=s'.toks) (λb o a e=>(d.2 b a).trans e) fC.1 fC.2.1 fC.2.2.2.1 fC.2.2.2.2.1 fC.2.2.2.2.2
theorem lK{wi:TI}{g:TG}{j:Z3}(B:X.calm=true)(S:b6 X.N X.env.scope N' Qe scope)(E:X.N.Nodup)(d:X.N[i]?=ih x)(c:X.env.scope.names.lookup x=ih .local)(hi:PI X tg iter wi)
  (f:∀s H fp,PG (cu X N' scope s H fp) tg g/\jN (cu X N' scope s H fp) Qg ti/\PE (cu X N' scope s H fp) Qp te)
  (k:swapsWith (.ListComp Qp [⟨tg,iter,Qg,0⟩] scope pos) (ih (.Name x Qh)) j.line X.env=pure true:=by rfl)
  (F:∀x,foldedSetIterable iter X.env x=pure x:=by intro _;rfl):PS X (.Assign [.Name x Qh] (.ListComp Qp [⟨tg,iter,Qg,0⟩] scope pos) j) (qz (Dj wi Qe g ti te) (ik i)):=by
 intro J s σ H D I h;rw[exec_Assign_Name_used _ _ _ _ k];refine ae (je (ae ?_));show Uz _ X.A (do let _ <- comprehension (.ListComp Qp [⟨tg,iter,Qg,0⟩] scope pos) scope X.env _ (newList []) false (eval iter X.env) (ih (assign (.Name x Qh) X.env))) _ _ s;refine ae (aF (Fd (use:=ih (assign (.Name x Qh) X.env)) (Q:=λ_ s'=>SP X J D .next s') rfl F (r4 λn G=>o7 I S G) S.kind (λx d c=>lF S.keys (by rw[<-c];exact d)) ?_) λ_ s' K=>ak (ak K))
 refine aF (hi J s σ H _ I h) λv s1 h1=>aF h1 λU s2 h2=>?_;obtain⟨it,fp,V,W,H2,e,L,T,l,M,O⟩:=h2;subst e;refine AX (Q:=λv H'=>D.nx (σ.set i (ih v)) H') (RR:=λQb C=>compPost X.c2 X.A X.xe (ih (assign (.Name x Qh) X.env)) (λ_ s'=>SP X J D .next s') Qb C) B S L T l M f O ?_;rintro Qb C s' ⟨p,H',rfl,P,fC,⟨m,R⟩,q⟩;show wA X (assign (.Name x Qh) X.env (.ref p)) _ _ s';refine wpAny_assign_Name (AL (v:=.ref p) P E d (.inl c) rfl (λr t ⟨a,u,ha⟩=>?_) (.inr c));have w:C≠a:=by
  rcases ha with ha|ha
  ·rw[ha];exact fC.2.1
  ·exact λz=>fC.2.2.2.2.1 _ _ ha z.symm
 refine⟨m,R.sameBut u w,λh' y=>⟨_,H',?_,q⟩⟩;exact t.turned (it:=C) (t':=r.toks) (λb o f e=>(y.2 b f).trans e) fC.1 fC.2.1 fC.2.2.2.1 fC.2.2.2.2.1 fC.2.2.2.2.2
end L2
namespace L2
open Spec PyProof.Rows W Builtin.ObjectAttr
def ie(h:X8)(C:EZ)(us:List i'):X8:=(h.push { cls:=.type "tuple",data:=.seq us.toArray }).push { cls:=.ref C,data:=.fields #[.ref h.objs.size,.none,.none,.none,.bool false,.none] }
theorem m1(e:h.get? b=ih o):(ie h C us).get? b=ih o:=a5 _ (a5 _ e)
theorem AY:(ie h C us).get? (h.objs.size+1)=ih { cls:=.ref C,data:=.fields #[.ref h.objs.size,.none,.none,.none,.bool false,.none] }:=by
 unfold ie;heap_get
section
variable{gs:Array ZR}{dr:Drawn}{tk:Nat}{os:OsState}
variable{qn:Fv}{N:EZ}{Qx up Q3:ac i'}{Qw:Bool}{sl:ac Fv}{Zc:ac i'}{Zd:Bool}{Zb:ad Bool}{e0 e1 e2 e3 e5:ad i'}{B Za Ze:String}
variable{mN:Fv->Option i'}{oI:Yy}
theorem FZ{Q:Fin->Ux->Prop}(F:ExcBaseFacts B Za Ze Q3)(T:OwnTail h Q3 up)(a:h.get? C=ih (excClassObj cn qn C N Qx up Qw sl Zc Zd Zb od e0 e1 e2 e3 e5 Za))(c:h.Ns N mN)
  (hi:mN "__init__" = ih (.ref fI)) (cW:h.get? fI=ih oI) (d:oI.cls=.type "function") (a3:us.length<=UB)
  (run:Uz (UO P w) A (call (.ref fI) (.ref (h.objs.size+1)::us)) (λr s'=>r=.none/\Q (.done (.ret (.ref (h.objs.size+1)))) s') E ⟨ie h C us,gs,dr,tk,os⟩) :
  Uz (UO P w) A (Ya.«type.__call__» ⟨.ref C::us,[]⟩) Q E ⟨h,gs,dr,tk,os⟩:=by
 repeat (first|with_reducible refine rL a ?_|with_reducible refine wpAny_madeBy_exc a ?_|wp_step)
 refine codeAny_call_builtin_code (Fe _ F.quiet) (wpAny_check_new_subT F T a (codeAny_exc_new_subT F T a ?_ a3));show Uz _ _ _ _ _ (⟨ie h C us,gs,dr,tk,os⟩:Ux);have b:(ie h C us).get? C=_:=m1 a;have f:(ie h C us).get? (h.objs.size+1)=_:=AY;have g:(UR C::up).contains (.ref C)=true:=List.contains_iff_mem.mpr aW;unfold isInstance
 repeat (first|with_reducible refine rL f ?_|(with_reducible refine wpAny_isSubtype_exc b ?_;rw[g])|wp_step)
 refine wpAny_typeLookup_tail (mN:=mN) b (c.keeps λ_ _ e=>m1 e) (T.keeps λ_ _ e=>m1 e) F.mroIs F.init.lookup ?_;rw[hi];refine eh (ae (show Uz _ _ (bindSpecial _ _) _ _ _ from ?_));unfold bindSpecial;refine ae (jj (T:= "function") ⟨oI,m1 cW,d⟩ ?_);rw[aE (show _ from by decide)]
 refine ak (ae (aF run λr s' i=>?_));obtain⟨rfl,q⟩:=i
 wp_walk
 exact q
theorem F5(F:ExcBaseFacts B Za Ze Q3)(T:OwnTail h Q3 up)(a:h.get? C=ih (excClassObj cn qn C N Qx up Qw sl Zc Zd Zb od e0 e1 e2 e3 e5 Za))(b:h.Ns N mN)
  (hi:mN "__init__" = ih (.ref fI)) (cW:h.get? fI=ih oI) (c:oI.cls=.type "function") (a3:us.length<=UB)
  (run:Uz (UO P w) (A.under (.builtin "type.__call__" ⟨.ref C::us,[]⟩)) (call (.ref fI) (.ref (h.objs.size+1)::us)) (λr s'=>r=.none/\Q (.ref (h.objs.size+1)) s') E ⟨ie h C us,gs,dr,tk,os⟩) :
  Uz (UO P w) A (call (.ref C) us) Q E ⟨h,gs,dr,tk,os⟩:=by
 have d:=tc_lookup;have e:=tc_bind (.ref C);have ty:(⟨h,gs,dr,tk,os⟩:Ux).TypeIs (.ref C) "type" :=⟨_,a,rfl⟩;refine j5 (vZ (show Uz _ _ (callAny (.ref C) _) _ _ _ from ?_))
 repeat (any_goals (first|assumption|with_reducible refine rL a ?_|wp_step))
 exact⟨rfl,codeAny_call_builtin_at (Fe _ (by decide +kernel)) entry_typeCall (wpAny_check_type_call_sub a (FZ F T a b hi cW c a3 run))⟩
end
abbrev ro:List i':=[.type "ValueError",.type "Exception",.type "BaseException",.type "object"]
def fV(K:Ym)(C:EZ)(i:Option i'):Bool:=
  match K.lookup C with
  |some ⟨.type "type",_,.cls cls,slots⟩ =>
    (match cls.mro,slots.toList with
     |.ref C'::up,[_,_,_,_,ih (.builtin n),_]=>C'==C&&(n == "ValueError.__new__" && (!cls.hasDel&&(tailIn K ro up&&(nsOkIn K cls.ns&&nsIn K cls.ns "__init__" == ih i))))
     |_,_=>false)
  |_=>false
theorem Hi{N:EZ}{a:Fv->Option i'}{v:i'}(X:K.In h)(G:h.Ns N a)(e:nsIn K N n=ih (ih v)):a n=ih v:=by
 obtain⟨g,f,_,b,c,_,look⟩:=G;unfold nsIn at e;split at e
 next _ _ _ _ _ q =>
  have two:=X _ _ q;rw[b]at two;cases two;cases c
  split at e
  next i d =>
   cases e
   rw[<-look,nsFind,findBy,<-UE,d];rfl
  next=>split at e <;> cases e
 next=>cases e
structure ExcAt(h:X8)(C:EZ)(i:Option i'):Prop where
 ex:∃bm N nm q bs Oo sn sub ab Pu dd k0 k1 k2 k3 k5 mN,h.get? C=ih (excClassObj nm q C N bs bm Oo sn sub ab Pu dd k0 k1 k2 k3 k5 "ValueError.__new__")/\h.Ns N mN/\mN "__init__" = i/\OwnTail h ro bm
theorem o8{i:ad i'}(X:K.In h)(q:fV K C i=true):ExcAt h C i:=by
 unfold fV at q;split at q
 next od b a k =>
  split at q
  next A up c d e f n g s es =>
   obtain⟨t,q⟩:=oP.mp q;obtain⟨p2,q⟩:=oP.mp q;obtain⟨p3,q⟩:=oP.mp q;obtain⟨p4,q⟩:=oP.mp q;obtain⟨p5,p6⟩:=oP.mp q;have e1:=dA.mp t;have e2:=dA.mp p2;have e3:b.hasDel=false:=by simpa using p3
   have j:=dA.mp p6;subst e1 e2;obtain⟨u,bs,l,ns,qn,w,x,y,z,m,o⟩:=b;have p:l=_:=s;have r:o=false:=e3;subst p r;obtain rfl:a = #[c,d,e,f,ih (.builtin "ValueError.__new__"),g]:=by cases a;exact c3 Array.mk es
   refine⟨⟨up,ns,u,qn,bs,w,x,y,z,m,od,c,d,e,f,g,h.nsMap ns,X _ _ k,.of_isNs (isNs_of_in X p5),?_,tail_of_in X p4⟩⟩;cases i with
   |none=>exact nsMap_none_of_in X p5 j
   |some v=>exact Hi X (.of_isNs (isNs_of_in X p5)) j
  next=>cases q
 next=>cases q
def mf:List i'->Bool
 |.ref _::r=>mf r
 |l=>l==ro
theorem GD:∀{l:ac i'},mf l=true->l=ro \/∃a r,l=.ref a::r/\mf r=true
 |[],e=>.inl (dA.mp e)
 |.ref a::r,e=>.inr ⟨a,r,rfl,e⟩
 |.none::r,e=>.inl (dA.mp e)
 |.bool b::r,e=>.inl (dA.mp e)
 |.int i t::r,e=>.inl (dA.mp e)
 |.float i t::r,e=>.inl (dA.mp e)
 |.str i t::r,e=>.inl (dA.mp e)
 |.bytes i t::r,e=>.inl (dA.mp e)
 |.type i::r,e=>.inl (dA.mp e)
 |.builtin i::r,e=>.inl (dA.mp e)
theorem I7(self:i')(l:ac i'):mf l=true->refuseLoop self "__setattr__" l=pure ():=by
 induction l with
 |nil=>intro e;exact absurd e (by decide)
 |cons v r b =>
  intro e;rcases GD e with q|⟨a,d,q,c⟩
  ·rw[q];kernel_rfl
  ·cases q
   rw[refuseLoop_ref];exact b c
structure eQ(K:Ym)(C:EZ):Prop where
 ga:Yf K (.ref C) "__getattribute__" = ih (ih (.builtin "BaseException.__getattribute__"))
 gh:Yf K (.ref C) "__getattr__" = ih none
 sa:Yf K (.ref C) "__setattr__" = ih (ih (.builtin "object.__setattr__"))
 hd:hasDictIn K C=true
 ov:((clsIn K C).any λcd=>mf cd.mro)=true
 be:mroIn K C (.type "BaseException")=ih true
 ve:mroIn K C (.type "ValueError")=ih true
 ob:mroIn K C (.type "object")=ih true
 ka:Yf K (.ref C) "__class__" = ih (ih (.builtin "object.__class__"))
 kn:specialIn K (.builtin "object.__class__") "__get__" = ih (ih (.builtin "getset_descriptor.__get__"))
 kt:takesIn K (.builtin "object.__class__")=ih true
section
variable{x:EZ}{od:ad Yy}
theorem HW{R:Y7->Ux->Prop}{v:i'}(X:K.In s.heap)(I:InstAt s.heap x ox C od)(c:eQ K C)(no:Yf K (.ref C) name=ih none)
  (go:Uz (UO prog w) A.in1 (storeInOwnDict (.ref x) (.ref C) (.str name tk) name v false) (λd s'=>match d with|.done f=>R (.ok f) s'|.again a=>a.quiet=true/\codeAny (UO prog w) A a R s') (λe s'=>R (.error e) s') s) :
  codeAny (UO prog w) A (.call (.builtin "object.__setattr__") ⟨[.ref x,.str name tk,v],[]⟩) R s:=by
 obtain⟨g,h,ok⟩:=rM c.ov;have ty:aad (UO prog w) s.heap (typeOf (.ref x)) (.ref C):=I.type;have up:aad (UO prog w) s.heap (mroOf (.ref C)) g.mro:=Looks.andThen (looks_clsIn X h) Looks.now;have b:aad (UO prog w) s.heap (typeLookup (.ref C) name) none:=looks_findIn X no;refine v7 rN.slot.plain rN.entry (@check_slot (UO prog w) _ _ s _ _ _ (.ref x) [.str name tk,v] [] _ rN.kind rN.split (ty.andThen (v8 X c.ob)) (rN.args _ _ _) ?_);rw[osa_eq,refuse_eq];refine ae (ae (ty.here (ae (up.here ?_))));rw[I7 _ _ ok];refine ak (show Uz _ _ _ _ _ s from ?_);exact ae (ty.here (ae (b.here (ae (ak go)))))
theorem AZ{fill:Bool}(X:K.In s.heap)(I:InstAt s.heap x ox C od)(c:eQ K C)
  (h:Uz (UO prog w) A.in1 (Ya.«object.__getattribute__» ⟨[.ref x,.str name tk],[]⟩) (λa s'=>match a with|.done (.ret v)=>Uz (UO prog w) A (handedOut v) Q E s'|_=>False) (λ_ _=>False) s) :
  Uz (UO prog w) A (getAttrBy (.ref x) (.str name tk) fill Qt) Q E s:=by
 have f:=I.type (M:=UO prog w);have g:=looks_findIn (M:=UO prog w) X c.ga;have L2:=looks_findIn (M:=UO prog w) X c.gh;have sub:aad (UO prog w) s.heap (isInstance (.ref x) (.type "BaseException")) true:=I.type.andThen (v8 X c.be);have d:(YJ "BaseException.__getattribute__" == YJ "object.__getattribute__")=false:=by decide +kernel
 have e:(onTheHeap (UR C)&&YJ "BaseException.__getattribute__" == YJ "object.__getattribute__")=false:=by rw[d];rfl
 have i:builtinKind "BaseException.__getattribute__" = ih .slot:=by decide +kernel
 have b:splitId "BaseException.__getattribute__" = ih ("BaseException","__getattribute__"):=by decide +kernel
 unfold getAttrBy;refine eh (ae (f.here (ae (g.here ?_))))
 dsimp only
 rw[e];show Uz _ _ (getAttrByItsOwn _ _ _ _ _ _) _ _ _;unfold getAttrByItsOwn hookBefore;refine ae ?_;rw[aE (show onTheHeap (UR C)=true from rfl)];refine L2.here (ae (rO (eh ?_)));unfold callGetattribute;rw[ao (show ¬ (Qt&&onTheHeap (YJ "BaseException.__getattribute__"))=true by cases Qt <;> decide)]
 unfold boundAndCalled;rw[UX.ga.bind];refine ae (ak (j5 (v7 UX.ga.plain PySem.F.entry_bexc_ga (@check_slot (UO prog w) _ _ s "BaseException.__getattribute__" "BaseException" "__getattribute__" (.ref x) [.str name tk] [] _ i b sub (PySem.F.args_bexc_ga _ _) ?_))));refine hY h (λa s' z=>?_) λ_ _ z=>z.elim;rcases a with(_|_|_|_)|_ <;> first|exact z|exact z.elim
theorem HX{v:i'}{Q:Fin->Ux->Prop}(X:K.In s.heap)(I:InstAt s.heap x ox C od)(a:findObj K C od name=ih (.value v))(h:Q (.done (.ret v)) s) :
  Uz (UO prog w) A (Ya.«object.__getattribute__» ⟨[.ref x,.str name tk],[]⟩) Q E s:=by
 have b:=I.type (M:=UO prog w);have c:=looks_find (M:=UO prog w) X I a;refine ae (ak (ae (ak (ae (b.here (ae (c.here ?_)))))));exact ak h
theorem Kh{v:i'}(X:K.In s.heap)(I:InstAt s.heap x ox C od)(c:eQ K C)(a:findObj K C od name=ih (.value v))(b:handedIn v=true)
  (h:Q v { s with toks:=s.toks+1 }):Uz (UO prog w) A (getAttr (.ref x) name Qt) Q E s:=by
 unfold getAttr;refine ae (wpAny_mkText ?_);exact AZ (s:={ s with toks:=s.toks+1 }) X I c (HX (s:={ s with toks:=s.toks+1 }) X I a (handed_on b h))
theorem HY{Q:ad i'->Ux->Prop}(X:K.In s.heap)(I:InstAt s.heap x ox C od)(c:eQ K C)(h:Q (ih (.ref C)) { s with toks:=s.toks+1 }):Uz (UO prog w) A (getAttr? (.ref x) "__class__") Q E s:=by
 have a:findObj K C od "__class__" = ih (.bind (.builtin "getset_descriptor.__get__") (.builtin "object.__class__")):=by
  obtain⟨cd,b,_⟩:=rM c.hd;unfold findObj;rw[b,v9,c.ka,v9]
  dsimp only
  rw[c.kn,v9]
  dsimp only
  rw[c.kt,v9]
 unfold getAttr? getAttrBy?;refine ae (wpAny_mkText (ae (rO ?_)));have d:=I.type (M:=UO prog w);have e:=looks_find (M:=UO prog w) X I a;refine AZ (s:={ s with toks:=s.toks+1 }) X I c ?_;refine ae (ak (ae (ak (ae (Z7 (s:={ s with toks:=s.toks+1 }) d (ae (Z7 (s:={ s with toks:=s.toks+1 }) e ?_)))))));show Uz _ _ (holding [.builtin "object.__class__"] (call (.builtin "getset_descriptor.__get__") [.builtin "object.__class__",.ref x,.ref C]) >>= ret) _ _ _;refine ae (eh (j5 (class_get (s:={ s with toks:=s.toks+1 }) (ox:=ox) (od:=od) X I c.ob ?_)));exact ak (handed_on rfl (ak h))
theorem Hj{M:ZE}(X:K.In h)(c:eQ K C):aad M h (isType (.ref C)) true:=by
 obtain⟨d,a,_⟩:=rM c.hd;unfold clsIn at a;split at a
 next b =>
  intro e f g s' k q;exact ae (vT (part:=ih headPart) (k _ _ (X _ _ b)) (ak q))
 next=>cases a
theorem BE(c:eQ K C):KitX K (.ref x) (.ref C) (λh=>InstAt h x ox C od) where
 ty:=λ_ _ _ I=>I.type
 it:=λ_ _ X _=>Hj X c
 ne:=λh tp _ _ _ _ X b=>by
  obtain⟨f,a,_⟩:=rM c.hd;cases q:(UR C == .ref tp) with
  |false=>rfl
  |true =>
   have e:C=tp:=acy (dA.mp q);unfold clsIn at a;split at a
   next d =>
    have two:=(X _ _ d).symm;rw[e,b]at two;cases two
   next=>cases a
 ca:=λX I k=>HY X I c k
end
theorem bC.there{o:HO}(x:bC P w H h a o):∃b,h.get? a=ih b:=by
 cases o with
 |lst xs=>obtain⟨_,_,_,_,e⟩:=x;exact⟨_,e⟩
 |tup xs=>obtain⟨_,_,_,b,e,_⟩:=x;exact⟨_,e⟩
 |dK kvs=>obtain⟨_,_,_,_,o,_,_,e,_⟩:=x;exact⟨_,e⟩
 |dT kvs=>obtain⟨_,_,_,_,o,_,_,e,_⟩:=x;exact⟨_,e⟩
 |set S n=>obtain⟨o,_,_,_,e,_⟩:=x;exact⟨_,e⟩
 |ins C dx fs=>obtain⟨_,_,_,e,_⟩:=x;exact⟨_,e⟩
 |own y=>exact x
 |xd fs=>obtain⟨_,⟨_,_,_,e,_⟩,_⟩:=x;exact⟨_,e⟩
 |oq lo hi=>obtain⟨_,_,_,e⟩:=x;exact⟨_,e⟩
 |bu b u=>obtain⟨e,_⟩:=x;exact⟨_,e⟩
 |i6 ps=>exact⟨_,x⟩
 |met f y=>exact⟨_,x⟩
 |ext c=>exact x.2.1
section
variable{o:HO}
theorem Inv.t8(I:Inv X J σ H s)(e:s.heap.get? a=none):H a=none:=by
 cases q:H a with
 |none=>rfl
 |some u =>
  obtain⟨b,z⟩:=(I.aH a u q).there;rw[e]at z;cases z
theorem Inv.put(I:Inv X J σ H s)(k:∀b u,s.heap.get? b=ih u->h'.get? b=ih u)(e:s.heap.get? a=none)(new:bC X.prog X.w (upd H a o) h' a o):Inv X J σ (upd H a o) { s with heap:=h' }:=by
 have d:=I.t8 e;have ne:∀b u,s.heap.get? b=ih u->b≠a:=λb u q z=>by rw[z,e]at q;cases q
 refine I.un (t':=s.toks) ⟨λb u q n _ _=>k b u q,λb u q n _ _=>⟨u.slots,k b u q⟩,λb u q n _=>by rw[ag (ne b u q)];exact n,λb u q _=>⟨u,k b u q⟩,λb xs q=>by rw[ag (ax q d)];exact q,
  λb u v q=>by rw[ag (ax q d)];exact q,λb ps q=>⟨#[],by rw[ag (ax q d),q];simp⟩⟩ λb u q=>?_
 by_cases f:b=a
 ·subst f;rw[af]at q;cases q;exact new
 ·rw[ag f]at q
  exact(I.aH b u q).et (λc v _ z=>k c v z) (λc z=>by rw[ag (ax z d)];exact z) λc xs z=>by rw[ag (ax z d)];exact z
end
def cE(C:EZ)(dx:Option EZ)(a:EZ):HO:=.ext λh=>∃t,h.get? a=ih { cls:=.ref C,dict:=dx,data:=.fields #[.ref t,.none,.none,.none,.bool false,.none] }
def e7(d:EZ)(fs:List (Fv×V)):HO:=.ext λh=>fs.length<=100 /\∃mA,h.Ns1 d mA/\(∀f,er (fs.lookup f) (mA f))/\YD mA (fs.map (·.1))
section
variable{fs:ac (Fv×V)}
theorem tD{t:EZ}(e:h.get? a=ih { cls:=.ref C,dict:=dx,data:=.fields #[.ref t,.none,.none,.none,.bool false,.none] }):bC P w H h a (cE C dx a):=
 ⟨⟨t,e⟩,⟨_,e⟩,λ_ _ ⟨t,q⟩ k=>⟨t,k _ q⟩⟩
theorem Ki(z:fs.length<=100)(n:h.Ns1 d mA)(r:∀f,er (fs.lookup f) (mA f))(wi:YD mA (fs.map (·.1))):bC P w H h d (e7 d fs):=
 ⟨⟨z,mA,n,r,wi⟩,(let ⟨o,_,_,e,_⟩:=n;⟨o,e⟩),λ_ _ ⟨z,mA,n,r⟩ k=>⟨z,mA,n.at k,r⟩⟩
end
section
variable{fs:ac (Fv×V)}{f:Fv}
theorem Inv.excAt(I:Inv X J σ H s)(e:H a=ih (cE C dx a)):∃t,s.heap.get? a=ih { cls:=.ref C,dict:=dx,data:=.fields #[.ref t,.none,.none,.none,.bool false,.none] }:=(I.aH a _ e).1
theorem Inv.tE(I:Inv X J σ H s)(e:H d=ih (e7 d fs)):fs.length<=100 /\∃mA,s.heap.Ns1 d mA/\(∀f,er (fs.lookup f) (mA f))/\YD mA (fs.map (·.1)):=(I.aH d _ e).1
theorem Hk{Q:Unit->Ux->Prop}(I:Inv X J σ H s)(e:H a=ih (cE C none a))(c:eQ X.K C)(no:Yf X.K (.ref C) f=ih none)(Z:RelV y u)
  (h:∀d s',H d=none->d≠a->Inv X J σ (upd (upd H d (e7 d [(f,y)])) a (cE C (ih d) a)) s'->Q () s'):Uz X.c2 A (setAttr (.ref a) f u) Q E s:=by
 obtain⟨t,r⟩:=I.excAt e;have N:InstAt s.heap a _ C none:=⟨r,rfl,rfl,Vu⟩;refine UG I.bS N c.sa (HW (s:={ s with toks:=s.toks+1 }) I.bS N c no ?_);obtain⟨cls,W,Qw⟩:=rM c.hd;refine ae (ak (ae (show Uz _ _ (instanceDict a true) _ _ _ from ?_)));refine ae (vT (s:={ s with toks:=s.toks+1 }) r (ae (Z7 (s:={ s with toks:=s.toks+1 }) (looks_clsIn I.bS W) ?_)));rw[Qw];refine ae (wpAny_alloc ?_);have fresh:s.heap.get? s.ai=none:=rG (aP _);have l:a≠s.ai:=bK (bt r);have L:(s.heap.push { cls:=.type "dict",data:=.dict #[] }).get? a=_:=a5 _ r;refine ae (wpAny_update (s:={ s with heap:=s.heap.push { cls:=.type "dict",data:=.dict #[] },toks:=s.toks+1 }) L (ak ?_));generalize D:(s.heap.push { cls:=.type "dict",data:=.dict #[] }).update a (λo=>{ o with dict:=ih s.ai })=h1;have w:h1.get? a=ih { cls:=.ref C,dict:=ih s.ai,data:=.fields #[.ref t,.none,.none,.none,.bool false,.none] }:=by
  rw[<-D];exact oM _ L rfl
 have M:∀b o,b≠a->s.heap.get? b=ih o->h1.get? b=ih o:=λb o j q=>by
  rw[<-D,j7 _ _ (aS j)];exact a5 _ q
 have S:h1.get? s.ai=ih { cls:=.type "dict",data:=.dict #[] }:=by
  rw[<-D,j7 _ _ l];exact bU _ rfl
 have ya:h1.Ns1 s.ai (λ_=>none):=ZV ⟨_,#[],_,S,rfl,(λe za=>absurd za (by simp)),λ_=>rfl⟩
 refine ae (ak (ae (wpAny_nsSet1 (s:={ s with heap:=h1,toks:=s.toks+1 }) ya λh2 O F=>?_)));have xb:YD (λ_=>none) ([]:ac Fv):=λg G=>absurd rfl G;obtain⟨ze,xd,yd,T,U,V⟩:=O.count (UH f u xb);refine ae (wpAny_lookBehind T (by rw[U];exact pastItsLine_dict (eg V (by rw[cS,jm,aV];decide))) (ak ?_))
 refine h s.ai _ (I.t8 fresh) (aS l) ?_;have Y:=I.t8 fresh;have zc:∀b o,b≠a->s.heap.get? b=ih o->h2.get? b=ih o:=λb o j q=>(F.2 b (λz=>by rw[z,fresh]at q;cases q)).trans (M b o j q)
 have zd:h2.get? a=_:=(F.2 a l).trans w;have xe:upd H s.ai (e7 s.ai [(f,y)]) a=ih (cE C none a):=by rw[ag l];exact e
 have yb:Inv X J σ (upd H a (cE C (ih s.ai) a)) { s with heap:=h1,toks:=s.toks+1 }:=by
  refine I.write (x:=a) (e:=a) (by rw[e];exact Vu) (.inl rfl) (λb u j q=>M b u j q) ⟨_,w⟩ (tD w)
 have k:upd H a (cE C (ih s.ai) a) s.ai=none:=by rw[ag (aS l)];exact Y
 have zb:upd (upd H s.ai (e7 s.ai [(f,y)])) a (cE C (ih s.ai) a)=upd (upd H a (cE C (ih s.ai) a)) s.ai (e7 s.ai [(f,y)]):=by
  funext b
  unfold upd
  by_cases h1:b=a
  ·subst h1;rw[aE rfl,ao l,aE rfl]
  ·rw[ao h1]
   by_cases h2:b=s.ai
   ·rw[aE h2,aE h2]
   ·rw[ao h2,ao h2,ao h1]
 rw[zb];have ye:upd H a (cE C (ih s.ai) a) a=ih (cE C (ih s.ai) a):=af;have fp:fu X J (upd H a (cE C (ih s.ai) a)) s.ai:=by
  have z:=I.gT (H':=upd H a (cE C (ih s.ai) a)) (aP _) k;exact z
 have i:Inv X J σ (upd H a (cE C (ih s.ai) a)) { s with heap:=h2,toks:=s.toks+2 }:=
  Inv.turned (s:={ s with heap:=h1,toks:=s.toks+1 }) (h':=h2) yb (it:=s.ai) (t':=s.toks+2) (λb o j q=>(F.2 b j).trans q) fp.1 fp.2.1 fp.2.2.2.1 fp.2.2.2.2.1 fp.2.2.2.2.2
 refine⟨i.ok,i.os,i.bare,?_,i.loc,i.cell,?_,?_,?_,?_,i.len⟩
 ·have B:=i.base
  have xc:∀b o,X.d7.heap.get? b=ih o->b ∉ X.ex->b≠s.ai:=λb o q v z=>by
   obtain⟨o',P⟩:=I.base.there b o q v;rw[z,fresh]at P;cases P
  refine⟨B.keep,B.slot,λb o q n v=>by rw[ag (xc b o q v)];exact B.free b o q n v,B.there,λb xs q=>?_,λb o u q=>?_,λb ps q=>?_⟩
  ·have z:=B.gg b xs q;rw[ag (ax z k)];exact z
  ·have z:=B.gC b o u q;rw[ag (ax z k)];exact z
  ·obtain⟨m,z⟩:=B.gR b ps q;exact⟨m,by rw[ag (ax z k)];exact z⟩
 ·rw[ag (aS fp.2.1)];exact i.free
 ·intro x c q;rw[ag (fp.2.2.2.2.1 x c q)];exact i.eP x c q
 ·intro p R
  obtain⟨yc,p2,p3,p4,p5⟩:=i.pin p R;exact⟨yc,by rw[ag (fp.2.2.2.2.2 p R)];exact p2,p3,p4,p5⟩
 ·intro b o q
  by_cases j:b=s.ai
  ·subst j
   rw[af]at q;cases q;refine Ki (by simp) O (λg=>?_) (λg G=>?_)
   ·show er (VA g [(f,y)]) (if g=f then ih u else none)
    rw[dg]
    by_cases q:g=f
    ·rw[aE q,dA.mpr q];exact Z
    ·rw[ao q,iC.mpr q];exact Vu
   ·by_cases q:g=f
    ·rw[q];simp
    ·exact absurd (ao q) G
  ·rw[ag j]at q
   exact(i.aH b o q).et (λ_ _ _ z=>z) (λc z=>by rw[ag (ax z k)];exact z) λc xs z=>by rw[ag (ax z k)];exact z
end
end L2
namespace L2
open Spec PyProof.Rows W
mutual
inductive Rep(H:Hp):V->UC->Prop where
 |aK:Rep H .aK .none
 |bl (b:Bool):Rep H (.bl b) (.bool b)
 |int (i:Int):Rep H (.int i) (.int i)
 |str (x:Fv):Rep H (.str x) (.str x)
 |lst {a:EZ}{xs:List V}{ds:List UC}:H a=ih (.lst xs)->bJ H xs ds->Rep H (.ref a) (.list ds)
 |tup {a:EZ}{xs:List V}{ds:List UC}:H a=ih (.tup xs)->bJ H xs ds->Rep H (.ref a) (.tuple ds)
inductive bJ(H:Hp):List V->List UC->Prop where
 |nil:bJ H [] []
 |cons {x:V}{d:UC}{xs:List V}{ds:List UC}:Rep H x d->bJ H xs ds->bJ H (x::xs) (d::ds)
end
section
mutual
theorem Rep.reads(I:Inv X J σ H s):∀{v:V}{d:UC}{u:i'},Rep H v d->RelV v u ->∃f,Reads s.heap u d f
 |_,_,_,.aK,r=>by cases r;exact⟨_,.none⟩
 |_,_,_,.bl b,r=>by cases r;exact⟨_,.bool b⟩
 |_,_,_,.int i,r=>by obtain⟨t,rfl⟩:=r;exact⟨_,.int i t⟩
 |_,_,_,.str x,r=>by obtain⟨t,rfl⟩:=r;exact⟨_,.str x t⟩
 |_,_,_,.lst (a:=a) (xs:=xs) e rs,r=>by
  cases r
  obtain⟨_,its,n,g,c⟩:=(show bC X.prog X.w H s.heap a (.lst xs) from I.aH a _ e);obtain⟨f,h⟩:=bJ.reads I rs g;exact⟨_,.list c rfl rfl h⟩
 |_,_,_,.tup (a:=a) (xs:=xs) e rs,r=>by
  cases r
  obtain⟨_,its,g,l,c,j,n,k,_⟩:=(show bC X.prog X.w H s.heap a (.tup xs) from I.aH a _ e);obtain⟨f,h⟩:=bJ.reads I rs g;exact⟨_,.tuple c j k h⟩
theorem bJ.reads(I:Inv X J σ H s):∀{vs:ac V}{ds:ac UC}{us:ac i'},bJ H vs ds->Vals vs us ->∃a,ReadsAll s.heap us ds a
 |_,_,_,.nil,r=>by cases r;exact⟨_,.nil⟩
 |_,_,_,.cons r rs,b=>by
  cases b with
  |cons q c =>
   obtain⟨a,h1⟩:=Rep.reads I r q;obtain⟨bs,h2⟩:=bJ.reads I rs c;exact⟨_,.cons h1 h2⟩
end
mutual
theorem Rep.same:∀{v:V}{d:UC},Rep H v d->aw H H'->Rep H' v d
 |_,_,.aK,_=>.aK
 |_,_,.bl b,_=>.bl b
 |_,_,.int i,_=>.int i
 |_,_,.str x,_=>.str x
 |_,_,.lst e rs,k=>.lst (k _ _ e) (bJ.same rs k)
 |_,_,.tup e rs,k=>.tup (k _ _ e) (bJ.same rs k)
theorem bJ.same:∀{vs:ac V}{ds:ac UC},bJ H vs ds->aw H H'->bJ H' vs ds
 |_,_,.nil,_=>.nil
 |_,_,.cons r rs,k=>.cons (Rep.same r k) (bJ.same rs k)
end
end
def DO:R2:=λx y H Q=>∃da db,Rep H x da/\Rep H y db/\da.canLay0=true/\db.canLay0=true/\da.depth<=60/\Q (.bl (X5 da db)) H
def DP:R2:=λx y H Q=>∃da db,Rep H x da/\Rep H y db/\da.canLay0=true/\db.canLay0=true/\da.depth<=60/\Q (.bl (!X5 da db)) H
theorem t9(g:X.A.units+64<YV):cp X (VH .Eq) DO:=by
 intro J s σ H x y v u Q I a b h;obtain⟨i,db,c,d,e,f,j,q⟩:=h;obtain⟨k,h1⟩:=c.reads I a;obtain⟨bs,h2⟩:=d.reads I b;exact SeqAt.compareEq_reads h1 h2 e f (by omega) ⟨.bl _,H,I,rfl,q⟩
theorem p0(g:X.A.units+64<YV):cp X (VH .NotEq) DP:=by
 intro J s σ H x y v u Q I a b h;obtain⟨i,db,c,d,e,f,j,q⟩:=h;obtain⟨k,h1⟩:=c.reads I a;obtain⟨bs,h2⟩:=d.reads I b;exact SeqAt.compareNe_reads h1 h2 e f (by omega) ⟨.bl _,H,I,rfl,q⟩
def Oq(vq:Bool):R2:=λx y H Q=>∃d ds,Rep H x d/\(Rep H y (.list ds)\/Rep H y (.tuple ds))/\d.canLay0=true/\X6 ds=true/\d.depth<=60 /\
 Q (.bl (if vq then !(ds.any λy=>X5 y d) else ds.any λy=>X5 y d)) H
theorem C0(g:X.A.units+64<YV):cp X (VH .In) (Oq false):=by
 intro J s σ H x y v u Q I e a h;obtain⟨d,ds,f,r2,b,c,i,q⟩:=h;obtain⟨j,h1⟩:=f.reads I e;rcases r2 with r2|r2
 ·obtain⟨bs,h2⟩:=r2.reads I a
  exact SeqAt.in_list_reads h2 h1 c b (by omega) ⟨.bl _,H,I,rfl,q⟩
 ·obtain⟨bs,h2⟩:=r2.reads I a
  exact SeqAt.in_tuple_reads h2 h1 c b (by omega) ⟨.bl _,H,I,rfl,q⟩
def uv(H:Hp)(x:V):Prop:=(∃z:Fv,x=.str z/\z.length<=100000)\/x=.aK \/∃a d,x=.ref a/\Rep H x d/\d.showable=true/\d.hasDict=false/\d.depth<=50/\d.shown.length<=100000
def Ot(te:TE):TE:=λσ H Q=>te σ H λx Y=>uv Y x /\∀y:Fv,y.length<=100000->Q (.str y) Y
theorem C1(p:X.A.units+64<YV)(i:X.A.guards=ih [])(j:PE X e te):PE X (.FormattedValue e (-1) none pos) (Ot te):=by
 intro J s σ H Q I h;refine wpAny_FormattedValue_plain (aF (j J s σ H _ I h) λv s1 B=>?_);obtain⟨x,Y,b,c,f,q⟩:=B;rcases f with⟨z,rfl,g⟩|rfl|⟨a,d,rfl,l,m,n,w,o⟩
 ·obtain⟨t,rfl⟩:=c
  exact wpAny_formatField_str ⟨.str z,Y,b,⟨_,rfl⟩,q z g⟩ ⟨.str z,Y,b.tok _,⟨_,rfl⟩,q z g⟩ (by rw[aV];omega)
 ·cases c
  exact wpAny_formatField_none ⟨.str "None",Y,b.tok _,⟨_,rfl⟩,q _ (by decide)⟩
 ·obtain⟨y,r⟩:=l.reads b c
  cases c
  exact formatField_of_reads r m (λz=>by rw[n]at z;cases z) i (by omega) (λ_ _ z=>z) (λh' u tk k=>⟨.str d.shown,Y,b.kept k,⟨_,rfl⟩,q _ o⟩) (by rw[aV];omega)
def PJ(X:Cx)(vs:List Vp)(n:Nat)(t:St->Hp->(Hp->Prop)->Prop):Prop:=
 ∀J s σ H (Qb:Fv) (Q:Hp->Prop),Qb.length+n * 100000<=2000000->Inv X J σ H s->t σ H Q ->
  Joins X.c2 X.A X.xe (evalEach vs X.env) Qb (λout s1=>out.length<=2000000 /\∃Y,Inv X J σ Y s1/\Q Y) s
def LN(te:TE)(tr:St->Hp->(Hp->Prop)->Prop):St->Hp->(Hp->Prop)->Prop:=λσ H Q=>te σ H λx Y=>(∃y:Fv,x=.str y/\y.length<=100000)/\tr σ Y Q
def LO:St->Hp->(Hp->Prop)->Prop:=λ_ H Q=>Q H
theorem C2:PJ X [] 0 LO:=λJ s σ H Qb Q a I h=>⟨by omega,H,I,h⟩
theorem pM{v:Vp}{vs:ac Vp}{n:Nat}{tr:St->Hp->(Hp->Prop)->Prop}(b:PE X v te)(c:PJ X vs n tr):PJ X (v::vs) (n+1) (LN te tr):=by
 intro J s σ H Qb Q g I h;refine aF (b J s σ H _ I h) λu s1 ⟨x,Y,d,f,⟨y,e,i⟩,q⟩=>?_;subst e;obtain⟨t,rfl⟩:=f;have a:(Qb++y).length=Qb.length+y.length:=strLen_append ..;exact⟨y,t,rfl,by rw[a,aV];omega,c J s1 σ Y (Qb++y) Q (by rw[a];omega) d q⟩
def MI(tr:St->Hp->(Hp->Prop)->Prop):TE:=λσ H Q=>tr σ H λY=>∀y:Fv,y.length<=2000000->Q (.str y) Y
theorem Cq{d f:Vp}{rest:ac Vp}{n:Nat}{tr:St->Hp->(Hp->Prop)->Prop}(g:PJ X (d::f::rest) n tr)(p:n<=20:=by decide):PE X (.JoinedStr (d::f::rest) pos) (MI tr):=by
 intro J s σ H Q I h;have z:=g J s σ H ZN _ (by have:ZN.length=0:=rfl;omega) I h
 refine wpAny_JoinedStr ?_;have mono:∀(l:ac (Zh i')) (Qb:Fv) (P b:Fv->Ux->Prop) (s:Ux),(∀o s,P o s->b o s)->Joins X.c2 X.A X.xe l Qb P s->Joins X.c2 X.A X.xe l Qb b s:=by
  intro l
  induction l with
  |nil=>intro Qb P b s k q;exact k _ _ q
  |cons a l i=>intro Qb P b s k q;exact aF q λv s1 ⟨y,t,e,c,j⟩=>⟨y,t,e,c,i _ P b s1 k j⟩
 refine mono _ _ _ _ _ ?_ z;rintro o s1 ⟨c,Y,m,q⟩;exact⟨by rw[aV];omega,.str o,Y,m.tok _,⟨_,rfl⟩,q o c⟩
end L2
namespace L2
open Spec PyProof.Rows W
section
variable{Q:VK}{CX:gG}{k:Nat}{E:XK}{p:Z3}{t:TA}
theorem I8(q:fV X.K C (ih (.ref fI))=true)(l:isFn X.K (.ref fI)=true)(F:aT X.prog X.w X.K X.mg X.base CX k fI fd ps sp)(m:aZ (k+1) X.A)(n:Binds X.K fd ps [])(o:Passes CX X E)(I:Inv X J σ H s)(r:Vals vs us)(a3:us.length<=100)
  (h:∀e,H e=none->sp (.ref e::vs) (upd H e (cE C none e)) (λv H2=>v=.aK/\Q (.ref e) H2) E):wA X (call (.ref C) us) (EP X J σ Q) X.xe s:=by
 obtain⟨⟨up,N,O,qn,bs,P,R,S,U,M,od,W,Y,Z,xa,ya,mN,i,ns,p,T⟩⟩:=o8 I.bS q;obtain⟨oI,lk,oc⟩:=gu.mp (show(X.K.lookup fI).map (·.cls)=ih (.type "function") from dA.mp l);have h1:=h (s.heap.objs.size+1) (I.aH.fresh (f6 _));have bS:=I.bS;have b:Inv X J σ (upd H (s.heap.objs.size+1) (cE C none (s.heap.objs.size+1))) { s with heap:=ie s.heap C us }:=I.put (λ_ _ z=>m1 z) (rG (f6 _)) (tD AY);have e0:=b.qA.make C us [];have j:=m.make C us [];have f:Vals (V.ref (s.heap.objs.size+1)::vs) (UR (s.heap.objs.size+1)::us):=.cons rfl r;have t:(UR (s.heap.objs.size+1)::us).length=ps.length:=by rw[<-f.length];exact F.len _ _ _ _ h1
 have c:=n { s with heap:=ie s.heap C us } (UR (s.heap.objs.size+1)::us) b.bS (by rw[eU];exact t)
 rw[eU]at c;have run:=F.run _ X.stack _ _ ⟨UR (s.heap.objs.size+1)::us,[]⟩ (UR (s.heap.objs.size+1)::us) _ _ E j e0 c f h1;obtain⟨x,g,d,tk,os⟩:=s;refine F5 UY T i ns p (bS _ _ lk) oc (by rw[aV];omega) (j5 (ll run λr s' a=>?_))
 cases r with
 |error e=>exact o J σ _ _ e s' b a
 |ok y =>
  cases y with
  |ret u =>
   obtain⟨v,H',B,D,G,L⟩:=b.after a;subst G;exact⟨D,.ref (x.objs.size+1),H',B,rfl,L⟩
  |next=>exact Vd a
  |brk=>exact Vd a
  |cont=>exact Vd a
def MJ(C:EZ)(sp:Sp)(E:XK)(t:TA):TE:=λσ H Q=>t σ H λvs Y=>vs.length<=100 /\∀e,Y e=none->sp (.ref e::vs) (upd Y e (cE C none e)) (λv H2=>v=.aK/\Q (.ref e) H2) E
theorem Cr(q:fV X.K C (ih (.ref fI))=true)(d:isFn X.K (.ref fI)=true)(kp:Yr X.K (.ref C)=true)(F:aT X.prog X.w X.K X.mg X.base CX k fI fd ps sp)(f:aZ (k+1) X.A)(g:Binds X.K fd ps [])(i:Passes CX X E)
  (j:Gl X x) (l:X.mg x=ih (.ref C)) (m:PA X (e::es) t) (b:(x==("__debug__" : Fv))=false:=by decide)
  (n:U1 (e::es) X.env=(false,eval e X.env)::U1 es X.env:=by rfl) (c:(backTo pos (U1 es X.env)).any (·.1)=false:=by rfl):PE X (.Call (.Name x p) (e::es) [] pos) (MJ C sp E t):=by
 intro J s σ H Q I h;refine mQ (lW I j l ?_ b);refine callWith_K (h₀:=X.base) I.ok.mod.k6 kp (aF (m pos J s σ H _ I h) λus s1 ⟨vs,Y,a,r,a3,o⟩=>⟨a.bS,?_⟩) n c;exact I8 q d F f g i a r (by show us.length<=100;rw[<-r.length];exact a3) o
structure nN(K:Ym)(B:EZ):Prop where
 rd:readsIn K B (.type "type")=true
 ga:specialIn K (.ref B) "__getattribute__" = ih (ih (.builtin "type.__getattribute__"))
 fi:findCls K (.ref B) (.type "type") "__init__" = ih (.val (.builtin "ValueError.__init__"))
theorem Gm{i:ad i'}(c:eQ X.K C)(q:fV X.K C i=true)(I:Inv X J σ H s)(e:H a=ih (cE C dx a))(h:Q .aK H) :
  wA X (call (.builtin "ValueError.__init__") [.ref a,u]) (EP X J σ Q) X.xe s:=by
 obtain⟨t,l⟩:=I.excAt e;obtain⟨⟨up,N,w,qn,bs,y,A,B,D,v,od,E,G,L,M,O,mN,n,ns,P,T⟩⟩:=o8 I.bS q;have FI:=UY;obtain⟨f,g,d,tk,os⟩:=s;refine j5 (v7 FI.init.plain FI.initEntry (wpAny_check_init_subT (rest:=[u]) FI T n l rfl ?_));have p:(f.push { cls:=.type "tuple",data:=.seq #[u] }).get? a=ih { cls:=.ref C,dict:=dx,data:=.fields #[.ref t,.none,.none,.none,.bool false,.none] }:=a5 _ l;have m:((f.push { cls:=.type "tuple",data:=.seq #[u] }).update a (ZJ λz=>z.setIfInBounds 0 (.ref f.objs.size))).get? a=ih { cls:=.ref C,dict:=dx,data:=.fields #[.ref f.objs.size,.none,.none,.none,.bool false,.none] }:=oM _ p rfl;have r:∀k,EP X J σ Q .none ⟨(f.push { cls:=.type "tuple",data:=.seq #[u] }).update a (ZJ λz=>z.setIfInBounds 0 (.ref f.objs.size)),g,d,k,os⟩:=λk=>by
  refine⟨.aK,upd H a (cE C dx a),?_,rfl,?_⟩
  ·exact Inv.write (s:=⟨f,g,d,tk,os⟩) I (x:=a) (e:=a) (t':=k) (by rw[e];exact Vu) (.inl rfl) (λb o j z=>by rw[j7 _ _ (aS j)];exact a5 _ z) ⟨_,m⟩ (tD m)
  ·have:upd H a (cE C dx a)=H:=by
    funext b;unfold upd
    by_cases j:b=a
    ·rw[aE j,j,e]
    ·rw[ao j]
   rw[this];exact h
 wp_walk
 exact r _
def HZ(X:Cx)(t:TA):TE:=λσ H Q=>t σ H λvs Y=>∃a C dx y i,vs=[.ref a,y]/\Y a=ih (cE C dx a)/\eQ X.K C/\fV X.K C i=true/\Q .aK Y
theorem Ab{pl:Zh Bool}(b:nN X.K B)(k:Gl X x)(l:X.mg x=ih (.ref B))(m:PA X (e::es) t)(g:(x==("__debug__" : Fv))=false:=by decide)
  (n:U1 (e::es) X.env=(false,eval e X.env)::U1 es X.env:=by rfl) (j:(backTo pos (U1 es X.env)).any (·.1)=false:=by rfl)
  (o:eval (.Call (.Attribute (.Name x p) "__init__" Qf) (e::es) [] pos) X.env=(do
   let d <- eval (.Name x p) X.env
   standAt Qf.atName
   let (f,first) <- holding [d] (getMethod d "__init__" pl)
   callWith pos f first (backTo pos (U1 (e::es) X.env)) (backToKw pos (keywordEach [] X.env))):=by rfl) :
  PE X (.Call (.Attribute (.Name x p) "__init__" Qf) (e::es) [] pos) (HZ X t):=by
 intro J s σ H Q I h;refine methodCall_KW (pl:=pl) (lW I k l ?_ g) o;refine method_cls I.bS b.ga (cls_value I.bS b.rd b.fi rfl ?_);refine EY (aF (m pos J { s with toks:=s.toks+1 } σ H _ (I.tok _) h) λus s1 G=>?_) n j;obtain⟨vs,Y,r,u,v⟩:=G;obtain⟨a,C,dx,y,i,rfl,w,c,z,q⟩:=v;obtain⟨D,E,rfl,A,F⟩:=u.two;cases A
 exact Gm c z r w q
end
section
variable{o:Vp}{f:Fv}
def MK(X:Cx)(ta tv:TE)(f:Fv):TS:=λD σ H=>tv σ H λy Y=>ta σ Y λx H2=>∃a C,x=.ref a/\H2 a=ih (cE C none a)/\eQ X.K C/\Yf X.K (.ref C) f=ih none /\
 ∀d,H2 d=none->d≠a->D.nx σ (upd (upd H2 d (e7 d [(f,y)])) a (cE C (ih d) a))
theorem Cs(b:PE X o ta)(e:PE X value tv)(g:swapsWith value (ih (.Attribute o f Qh)) pos.line X.env=pure false:=by rfl):PS X (.Assign [.Attribute o f Qh] value pos) (MK X ta tv f):=by
 intro J s σ H D I h;refine UI (aF (e J s σ H _ I h) λu s1 ⟨y,Y,i,j,q⟩=>aF (b J s1 σ Y _ i q) λk s2 w=>?_) g;obtain⟨x,H2,l,m,a,C,ex,p,c,n,r⟩:=w;subst ex;obtain rfl:k=UR a:=m;exact Hk l p c n j λd v h1 h2 t=>⟨σ,_,t,r d h1 h2⟩
def DQ(K:Ym):List V->Hp->VK->Prop:=λxs H Q=>∃x c t cv b,xs=[x,c]/\RelV c cv/\(gE K H x t \/∃a C dx,x=.ref a/\t=.ref C/\H a=ih (cE C dx a)/\eQ K C/\(∀d,dx=ih d ->∃fs,H d=ih (e7 d fs)))/\kitOne K t cv=ih b/\Q (.bl b) H
theorem lP:cU X (.builtin "isinstance") (λxs H Q=>(∃x,(∃C,xs=[x,.ref C])\/(∃T,xs=[x,.ty T]))/\DQ X.K xs H Q):=by
 intro J s σ H xs us Q I r h;obtain⟨o,x,c,t,p,b,rfl,j,ty,e,q⟩:=h;obtain⟨u,v,rfl,k,g⟩:=r.two;have l:v=p:=by
  obtain⟨B,⟨C,z⟩|⟨T,z⟩⟩:=o
  ·cases z;cases j;cases g;rfl
  ·cases z;cases j;cases g;rfl
 subst l;rcases ty with ty|⟨a,C,dx,rfl,rfl,w,c,y⟩
 ·exact HQ I k ty e λtk=>⟨.bl b,H,I.tok _,rfl,q⟩
 ·cases k
  obtain⟨t,i⟩:=I.excAt w;cases dx with
  |none =>
   have f:InstAt s.heap a _ C none:=⟨i,rfl,rfl,Vu⟩;exact kia_one (BE c) I.bS f e (λz=>nomatch z) λtk=>⟨.bl b,H,I.tok _,rfl,q⟩
  |some d =>
   obtain⟨fs,A⟩:=y d rfl;obtain⟨_,mA,n,_⟩:=I.tE A;obtain⟨od,m,_⟩:=o5 n;have f:InstAt s.heap a _ C (ih od):=⟨i,rfl,rfl,m⟩;exact kia_one (BE c) I.bS f e (λz=>nomatch z) λtk=>⟨.bl b,H,I.tok _,rfl,q⟩
end
def oz(K:Ym)(l:EZ):It:=
 ⟨λi H=>∃xs x,aj K H l xs/\xs[i]?=ih x,λi H x H'=>∃t v,H t=none/\x=.ref t/\(∀xs,aj K H l xs->xs[i]?=ih v)/\H'=upd H t (.tup [.int i,v]),λi H=>∃xs,aj K H l xs/\xs.length<=i⟩
theorem H9(l e it:EZ)(R:e≠it) :
  Turn P w K (.Tuple Qv n1 tp) (oz K l) [e,it] e (λi h=>(∃f,IsEnum h e it i f)/\h.IsListIter it l i) where
 mem:=by simp
 obj:=λi h st b a=>by
  obtain⟨⟨f,h1⟩,h2⟩:=st;rcases bH.mp a with z|z
  ·subst z;exact⟨_,h1,λv q=>by cases q⟩
  ·have A:b=it:=by simpa using z
   subst A;obtain⟨o,q,_,d⟩:=h2;exact⟨o,q,λv z=>by rw[d]at z;cases z⟩
 keep:=λi h h' st k=>by
  obtain⟨⟨f,h1⟩,h2⟩:=st;exact⟨⟨f,k e (by simp) _ h1⟩,h2.at λo q=>k it (by simp) o q⟩
 item:=by
  intro X F G L hc i J s σ H E I B st M;subst F G L;obtain⟨xs,x,C,N⟩:=M;obtain⟨its,O,p,T⟩:=I.list C;obtain⟨u,U,V⟩:=O.get N;obtain⟨⟨f,h1⟩,h2⟩:=st;have j:=B e (by simp)
  have fi:=B it (by simp)
  refine wpAny_pyNext_enum_item h1 h2 p.isList (x:=u) (by simpa using U) R λh' e1 W Y z1 Z=>⟨_,rfl,?_⟩
  refine wpAny_letOwnedTupleGo_enum (s:={ s with heap:=h',toks:=s.toks+1 }) e1 λD e2 Q=>?_;have S:e≠s.heap.objs.size:=bK (bt h1);have t:∀b o,b≠e->b≠it->s.heap.get? b=ih o->D.get? b=ih o:=λb o n1 xa q=>(Q.2 b n1).trans (Z b o n1 xa q);have ya:D.get? s.heap.objs.size=ih { cls:=.type "tuple",data:=.seq #[.int i s.toks,u] }:=(Q.2 _ (aS S)).trans Y;have y:H s.heap.objs.size=none:=I.aH.fresh (aP _);have lt:∀b o,s.heap.get? b=ih o->b≠s.heap.objs.size:=λb o q=>bK (bt q);have gX:∀b o,H b=ih o->b≠e/\b≠it:=λb o q=>⟨(λz=>by rw[z,j.1]at q;cases q),(λz=>by rw[z,fi.1]at q;cases q)⟩
  have g:∀b,b ∉ [e,it]->b≠e/\b≠it:=λb a=>⟨λz=>a (by simp[z]),λz=>a (by simp[z])⟩
  have za:Inv X J σ (upd H s.heap.objs.size (.tup [.int i,x])) { s with heap:=D,toks:=s.toks+1 }:=by
   refine I.step (g':=s.gens) (d':=s.drawn) (t':=s.toks+1) (ch:=[e,it]) (λb a=>?_) (λb o _ _ hc q _=>t b o (g b hc).1 (g b hc).2 q) (λb o _ _ hc q _=>⟨o.slots,t b o (g b hc).1 (g b hc).2 q⟩)
    (λb o _ q n=>by rw[ag (lt b o q)];exact n) (λb o hc q=>⟨o,t b o (g b hc).1 (g b hc).2 q⟩) (λb ys q=>by rw[ag (ax q y)];exact q) (λb o v q=>by rw[ag (ax q y)];exact q)
    (λb ps q=>⟨#[],by rw[ag (ax q y),q];simp⟩) (λm xb=>?_) (λb o q=>?_) I.bare
   ·rcases bH.mp a with z|z
    ·subst z;exact⟨j.2.2.2.1,j.2.1,j.2.2.2.2.1,j.2.2.2.2.2⟩
    ·have A:b=it:=by simpa using z
     subst A;exact⟨fi.2.2.2.1,fi.2.1,fi.2.2.2.2.1,fi.2.2.2.2.2⟩
   ·obtain⟨o,es,ep,yb,r⟩:=xb
    exact⟨o,es,ep,t _ o (aS j.2.1) (aS fi.2.1) yb,r⟩
   ·by_cases a:b=s.heap.objs.size
    ·subst a
     rw[af]at q;cases q;exact⟨by rw[aV];show 2<=_;decide,[.int i s.toks,u],.cons ⟨_,rfl⟩ (.cons V .nil),_,ya,rfl,_,rfl,rfl⟩
    ·rw[ag a]at q
     refine(I.aH b o q).et (λc v hc z=>?_) (λc z=>by rw[ag (ax z y)];exact z) λc ys z=>by rw[ag (ax z y)];exact z
     rcases hc with hc|hc
     ·subst hc;exact t _ v (gX _ _ q).1 (gX _ _ q).2 z
     ·exact t c v (gX _ _ hc).1 (gX _ _ hc).2 z
  refine⟨.ref s.heap.objs.size,_,za,rfl,⟨s.heap.objs.size,x,y,rfl,λys zb=>by rw[I.Bz zb C];exact N,rfl⟩,⟨⟨u,e2⟩,?_⟩,λb a=>?_⟩
  ·exact W.extBut Q.extBut (aS R)
  ·have:b≠s.heap.objs.size:=by
    rcases bH.mp a with z|z
    ·rw[z];exact S
    ·have A:b=it:=by simpa using z
     obtain⟨o,q,_⟩:=h2;rw[A];exact lt _ _ q
   rw[ag this];exact(B b a).1
 done:=by
  intro X F G L hc i J s σ H E I B st M;subst F G L;obtain⟨xs,C,N⟩:=M;obtain⟨its,O,p,T⟩:=I.list C;obtain⟨⟨f,h1⟩,h2⟩:=st;have fi:=B it (by simp)
  have yc:=O.length;exact wpAny_pyNext_enum_end (I.ok.hd hc) h1 h2 p.isList (by simp;omega) λh' xc=>⟨rfl,I.turned (t':=s.toks) (λb o a q=>xc b o a q) fi.1 fi.2.1 fi.2.2.2.1 fi.2.2.2.2.1 fi.2.2.2.2.2⟩
 self:=λ_ _ _ _ _ st h=>let ⟨⟨_,h1⟩,_⟩:=st;wpAny_pyIter_enum h1 h
def ML(K:Ym)(ta:TA):TI:=λσ H R=>ta σ H λvs Y=>∃a,vs=[.ref a]/\(∃xs,aj K Y a xs)/\R (oz K a) Y
theorem Kj{a:Vp}{ta:TA}{p:Z3}(d:Gl X "enumerate")(f:X.mg "enumerate" = none)(g:PA X [a] ta)(i:U1 [a] X.env=[(false,eval a X.env)]:=by rfl) :
  PI X (.Tuple Qv n1 tp) (.Call (.Name "enumerate" p) [a] [] pos) (ML X.K ta):=by
 intro J s σ H R I h;refine Call_ (kB I d f (show Vh "enumerate" = ih (.type "enumerate") by decide +kernel) (vR (aF (g pos J s σ H _ I h) λus s1 C=>?_) i rfl));obtain⟨vs,Y,c,j,k⟩:=C
 obtain⟨l,e,⟨xs,m⟩,q⟩:=k;subst e;obtain⟨u,rfl,n⟩:=j.one;cases n
 obtain⟨its,y,o,A⟩:=c.list m;refine call_enumerate_list o.isList λh' e1 r B t=>?_;have v:Inv X J σ Y { s1 with heap:=h' }:=c.kept (t':=s1.toks) t;refine wpAny_pyIter_enum (s:={ s1 with heap:=h' }) e1 ?_;refine⟨s1.ai+1,[s1.ai+1,s1.ai],_,_,Y,rfl,v,H9 l (s1.ai+1) s1.ai (Nat.succ_ne_self _),⟨⟨.none,e1⟩,r⟩,λb w=>?_,q⟩;rcases bH.mp w with z|z
 ·subst z;exact c.gT (f6 _) (c.aH.fresh (f6 _))
 ·have x:b=s1.ai:=by simpa using z
  subst x;exact c.gT (aP _) (c.aH.fresh (aP _))
theorem o3:∀{ys:ac Fv}{us:ac i'},Vals (ys.map V.str) us->Yl us ys:=by
 intro ys
 induction ys with
 |nil=>intro us r;cases r;exact .nil
 |cons y ys a =>
  intro us r;cases r with
  |cons q b =>
   obtain⟨t,rfl⟩:=q;exact .cons _ _ (a b)
def rJoin(K:Ym):V->List V->Hp->VK->Prop:=λx vs H Q=>∃(z:Fv) (p:EZ) (ys:List Fv),x=.str z/\vs=[.ref p]/\(aj K H p (ys.map V.str)\/ay K H p (ys.map V.str))/\(ys.map (·.length)).sum+ys.length * z.length<=1000000/\Q (.str (aaT z ys)) H
theorem Kk:vp X "str.join" (rJoin X.K):=by
 intro J s σ H x xs v us Q I b c h;obtain⟨z,p,ys,rfl,rfl,hp,e,q⟩:=h;obtain⟨t,rfl⟩:=b;obtain⟨u,rfl,d⟩:=c.one;cases d
 rcases hp with hp|hp
 ·obtain⟨its,r,a,_⟩:=I.list hp
  exact join_list a.isList (by simpa using o3 r) (by omega) λt' k=>⟨.str _,H,I.tok _,⟨_,rfl⟩,q⟩
 ·obtain⟨its,r,a,_⟩:=I.tuple hp
  exact join_tuple a (by simpa using o3 r) (by omega) λt' k=>⟨.str _,H,I.tok _,⟨_,rfl⟩,q⟩
def Ou:V->Option Int->Option Int->Hp->VK->Prop:=λx lo hi H Q=>∃z:Fv,x=.str z/\z.length<=1000000/\Q (.str (X9 z lo hi)) H
theorem LP:mE X Ou:=by
 intro J s σ H x v vl vu lo hi sl Q I e a f d h;obtain⟨z,rfl,g,q⟩:=h;obtain⟨t,rfl⟩:=e;have b:(X9 z lo hi).length<=UB:=eg (Txt.slice_le z _ _) (by rw[aV];omega)
 refine⟨"str",_,PySem.F.slot_str_getitem.lookup,typeIs_str _ _ _,?_⟩;cases f with
 |none =>
  cases d with
  |none=>exact v' (l:=none) (u:=none) (st:=none) a rfl (wc ⟨b,λt' k=>⟨.str _,H,I.tok _,⟨_,rfl⟩,q⟩⟩)
  |int j c=>exact v' (l:=none) (u:=ih (j,c)) (st:=none) a rfl (wc ⟨b,λt' k=>⟨.str _,H,I.tok _,⟨_,rfl⟩,q⟩⟩)
 |int i ti =>
  cases d with
  |none=>exact v' (l:=ih (i,ti)) (u:=none) (st:=none) a rfl (wc ⟨b,λt' k=>⟨.str _,H,I.tok _,⟨_,rfl⟩,q⟩⟩)
  |int j c=>exact v' (l:=ih (i,ti)) (u:=ih (j,c)) (st:=none) a rfl (wc ⟨b,λt' k=>⟨.str _,H,I.tok _,⟨_,rfl⟩,q⟩⟩)
def CW(Pv:Nat->List V->St->Hp->Prop)(n i m:Nat)(ys:List V)(τ:St)(H:Hp):Prop:=m=n - i/\i<=n/\Pv i ys τ H
theorem cw_next{Pv:Nat->List V->St->Hp->Prop}{n:Nat}{ys:ac V}{a:St}(h:i<n)(p:Pv (i+1) ys a H):∃b,b<n - i/\CW Pv n (i+1) b ys a H:=⟨n - (i+1),by omega,rfl,h,p⟩
theorem o4{n:Nat}{g:TG}{Q:VK}(Pv:Nat->List V->St->Hp->Prop)(h0:Pv 0 [] fz (upd Y p (.lst [])))(k:∀i ys a H,Pv i ys a H->H p=bd ys)
  (l:∀i ys a H,i<n->Pv i ys a H->g (.int (lo+i)) a H λd o=>ti d o λb h=>if b=true then te d h λy j=>j p=bd ys/\ys.length<UB /\∃c,c<n - i/\CW Pv n (i+1) c (ys++[y]) d (upd j p (.lst (ys++[y]))) else ∃c,c<n - i/\CW Pv n (i+1) c ys d h)
  (q:∀ys a H,Pv n ys a H->Q (.ref p) H):hJ (jX lo n) g ti te fz Q p Y:=by
 refine⟨CW Pv n,⟨n,by simp,bB _,h0⟩,?_⟩
 rintro i m ys a H ⟨rfl,hi,pv⟩;refine⟨k i ys a H pv,?_⟩
 by_cases f:i<n
 ·refine .inr ⟨f,λx s r=>?_⟩
  obtain⟨e3,ex⟩:=r;subst e3 ex;exact l i ys a _ f pv
 ·have e:i=n:=by omega
  subst e;exact .inl ⟨aP _,q ys a H pv⟩
theorem fe{g:TG}{Q:VK}(Pv:Nat->List V->St->Hp->Prop)(h0:Pv 0 [] fz (upd Y p (.lst [])))(n:∀i ys c H,Pv i ys c H->H p=bd ys/\aj K H a xs)
  (o:∀i x ys c H,xs[i]?=ih x->Pv i ys c H->g x c H λf q=>ti f q λb j=>if b=true then te f j λy k=>k p=bd ys/\ys.length<UB /\∃d,d<xs.length - i/\CW Pv xs.length (i+1) d (ys++[y]) f (upd k p (.lst (ys++[y]))) else ∃d,d<xs.length - i/\CW Pv xs.length (i+1) d ys f j)
  (r:∀ys c H,Pv xs.length ys c H->Q (.ref p) H):hJ (jW K a) g ti te fz Q p Y:=by
 refine⟨CW Pv xs.length,⟨xs.length,by simp,bB _,h0⟩,?_⟩
 rintro i m ys c H ⟨rfl,hi,pv⟩;obtain⟨s,h⟩:=n i ys c H pv;refine⟨s,?_⟩
 by_cases l:i<xs.length
 ·refine .inr ⟨⟨xs,xs[i],h,by simp[l]⟩,λx u t=>?_⟩
  obtain⟨e3,ex⟩:=t;subst e3;exact o i x ys c _ (ex xs h) pv
 ·have e:i=xs.length:=by omega
  subst e;exact .inl ⟨⟨xs,h,aP _⟩,r ys c H pv⟩
theorem lQ{g:TG}{Q:VK}(Pv:Nat->List V->St->Hp->Prop)(h0:Pv 0 [] fz (upd Y p (.lst [])))(n:∀i ys c H,Pv i ys c H->H p=bd ys/\ay K H a xs)
  (o:∀i x ys c H,xs[i]?=ih x->Pv i ys c H->g x c H λf q=>ti f q λb j=>if b=true then te f j λy k=>k p=bd ys/\ys.length<UB /\∃d,d<xs.length - i/\CW Pv xs.length (i+1) d (ys++[y]) f (upd k p (.lst (ys++[y]))) else ∃d,d<xs.length - i/\CW Pv xs.length (i+1) d ys f j)
  (r:∀ys c H,Pv xs.length ys c H->Q (.ref p) H):hJ (i9 K a) g ti te fz Q p Y:=by
 refine⟨CW Pv xs.length,⟨xs.length,by simp,bB _,h0⟩,?_⟩
 rintro i m ys c H ⟨rfl,hi,pv⟩;obtain⟨s,h⟩:=n i ys c H pv;refine⟨s,?_⟩
 by_cases l:i<xs.length
 ·refine .inr ⟨⟨xs,xs[i],h,by simp[l]⟩,λx u t=>?_⟩
  obtain⟨e3,ex⟩:=t;subst e3;exact o i x ys c _ (ex xs h) pv
 ·have e:i=xs.length:=by omega
  subst e;exact .inl ⟨⟨xs,h,aP _⟩,r ys c H pv⟩
def uZ(N N':List Fv)(Qe:List (Option Nat))(sc:YW):Bool:=(VD Qe.length).all λj=>match Qe[j]? with
 |some (ih i)=>(match N[i]? with|some x=>N'[j]? == ih x&&sc.names.lookup x==ih .free|none=>false)
 |_=>true
theorem Dk(h:uZ N N' Qe sc=true)(j i:Nat)(e:Qe[j]?=ih (ih i)):∃x,N[i]?=ih x/\N'[j]?=ih x/\sc.names.lookup x=ih .free:=by
 have a:j<Qe.length:=(bZ.mp e).1;have z:=mT.mp h j (jd.mpr a);rw[e]at z
 dsimp only at z
 split at z
 ·rename_i x q
  obtain⟨b,c⟩:=oP.mp z;exact⟨x,q,dA.mp b,dA.mp c⟩
 ·cases z
structure Nm(x:Fv):Prop where
 lo:1<=x.length
 hi:x.length<=8
 az:∀c∈x.cps.toList,97<=c/\c<=122
def sign(c:Nat):Fv:=⟨#[c]⟩
theorem An:∀(a:ac Nat) (Qb:Array Nat),(a.map sign).foldl (λQb p=>Qb++("" : Fv).cps++p.cps) Qb=Qb++a.toArray
 |[],Qb=>by simp
 |c::a,Qb=>by
  rw[b2,List.foldl_cons,An a];have e:("" : Fv).cps = #[]:=rfl;rw[e]
  apply we.mp
  simp[sign]
theorem Hl(a:ac Nat):aaT ("" : Fv) (a.map sign)=⟨a.toArray⟩:=by
 unfold aaT ab9;cases a with
 |nil=>rfl
 |cons c a =>
  rw[b2];show(⟨(a.map sign).foldl _ (sign c).cps⟩:Fv)=_;rw[An]
  apply c3 Str.mk
  apply we.mp
  simp[sign]
theorem Hm{z:Fv}{c:Nat}(h:c∈(X9 z none (ih 6)).cps.toList):c∈z.cps.toList:=by
 unfold X9 at h;split at h
 ·exact h
 ·simp only[oG]at h
  obtain⟨i,_,e⟩:=h;obtain⟨_,e2⟩:=wg.mp e;rw[<-e2];simp
theorem Ao(z:Fv):(X9 z none (ih 6)).length<=6:=by
 have hi:(YI none (ih 6) 1 z.length).length<=6:=by
  unfold YI sliceRange;simp only[show(1:Int)>0 by decide,g8,aB,Ff]
  split <;> (try split) <;> omega
 unfold X9;split
 ·rename_i h
  have e:(YI none (ih 6) 1 z.length).length=z.length:=by simpa using h
  omega
 ·show(List.filterMap _ _).toArray.size<=6
  rw[bY];exact eg (List.length_filterMap_le _ _) hi
theorem nO(a b:Fv):(a++b).cps=a.cps++b.cps:=rfl
theorem Kl{z:Fv}{c:Nat}(hz:∀c∈z.cps.toList,97<=c/\c<=122)(g:97<=c/\c<=122):Nm (X9 z none (ih 6)++sign c++("q" : Fv)):=by
 have a:("q" : Fv).cps = #[113]:=by decide +kernel
 have i:=Ao z;have e:(X9 z none (ih 6)++sign c++("q" : Fv)).length=(X9 z none (ih 6)).length+2:=by
  show(_:Array Nat).size=_;rw[nO,nO,a];show(_ ++ #[c] ++ #[113]).size=_;rw[rP,rP];rfl
 refine⟨by omega,by omega,λd b=>?_⟩
 rw[nO,nO,a]at b;have f:d∈(X9 z none (ih 6)).cps.toList\/d=c\/d=113:=by
  have:d∈((X9 z none (ih 6)).cps ++ #[c] ++ #[113]).toList:=b;simp at this;rcases this with h|h|h
  ·exact .inl (by simpa using h)
  ·exact .inr (.inl h)
  ·exact .inr (.inr h)
 rcases f with h|h|h
 ·exact hz d (Hm h)
 ·rw[h];exact g
 ·rw[h];omega
theorem I9{p:Fv}{c d:Nat}(h:p++sign c++("q" : Fv)=p++sign d++("q" : Fv)):c=d:=by
 have h1:=c3 (λs:Fv=>s.cps.toList) h;simp only[nO]at h1;have h2:p.cps.toList++([c]++("q" : Fv).cps.toList)=p.cps.toList++([d]++("q" : Fv).cps.toList):=by
  simpa [sign,Array.toList_append] using h1
 have a:=List.append_cancel_left h2
 simpa using a
theorem ub:∀{ys found:ac Fv},ys.Nodup->found.length<ys.length ->∃y∈ys,y ∉ found
 |[],found,_,h=>by simp at h
 |y::ys,found,c,h=>by
  obtain⟨n1,d⟩:=d4.mp c
  by_cases a:y∈found
  ·have f:=Fg a
   have i:=Fh a;obtain⟨z,b,g⟩:=ub (found:=found.erase y) d (by rw[f];rw[cS]at h;omega)
   refine⟨z,ba _ b,λq=>g ?_⟩;have ne:z≠y:=λe=>n1 (by rw[<-e];exact b)
   exact(Fi ne).mpr q
  ·exact⟨y,aW,a⟩
theorem Ct(K:Ym)(h:X.K=K):cp X (VH .In) (oy K false):=by subst h;exact jt
theorem Hn(K:Ym)(h:X.K=K):cp X (VH .NotIn) (oy K true):=by subst h;exact Gj
theorem sE(K:Ym)(h:X.K=K):mF X (DK K):=by subst h;exact dw
theorem jx(K:Ym)(h:X.K=K):mF X (qB K):=by subst h;exact bj
theorem A0{l:Vp}(K:Ym)(h:X.K=K)(a:PE X l tl):PI X tg l (De K tl):=by subst h;exact c6 a
theorem BF{l:Vp}(K:Ym)(h:X.K=K)(a:PE X l tl):PI X tg l (DF K tl):=by subst h;exact kC a
theorem Ho(K:Ym)(h:X.K=K):cU X (.builtin "len") (λxs H Q=>∃p ys,xs=[.ref p]/\(aj K H p ys\/ay K H p ys)/\Q (.int ys.length) H):=by subst h;exact eM
theorem Hq(K:Ym)(h:X.K=K):cU X (.builtin "isinstance") (λxs H Q=>(∃x,(∃C,xs=[x,.ref C])\/(∃T,xs=[x,.ty T]))/\DQ K xs H Q):=by subst h;exact lP
theorem iM(x:Fv)(ys:ac Fv):k' (.str x) (ys.map V.str)=decide (x∈ys):=by
 unfold k';rw[wj]
 induction ys with
 |nil=>simp
 |cons y ys a =>
  rw[jk,a];show((y==x)||decide (x∈ys))=decide (x∈y::ys)
  by_cases h:y=x
  ·subst h;simp
  ·have h':(y==x)=false:=iC.mpr h
   rw[h',wk];have:x∈y::ys ↔ x∈ys:=by simp[aS h]
   simp[this]
theorem jv(ys:ac Fv):(ys.map V.str).all il=true:=by
 rw[mT];intro v a;obtain⟨y,_,rfl⟩:=a4.mp a
 rfl
def hK(H:Hp)(a:EZ):Hp:=λb=>if b=a then none else H b
theorem lR(n:b≠a):hK H a b=H b:=by unfold hK;rw[ao n]
theorem Hr{o:HO}(e:hK H a b=ih o):b≠a/\H b=ih o:=by
 unfold hK at e;split at e
 ·cases e
 next n=>exact⟨n,e⟩
theorem Hs(e:H b=none):hK H a b=none:=by
 unfold hK;split
 ·rfl
 ·exact e
theorem Inv.Km(I:Inv X J σ H s)(e:H a=ih (cE C dx a))(f:∀d,dx=ih d ->∃fs,H d=ih (e7 d fs)):∃ox od t,InstAt s.heap a ox C od/\ox={ cls:=.ref C,dict:=dx,data:=.fields #[.ref t,.none,.none,.none,.bool false,.none] }:=by
 obtain⟨t,b⟩:=I.excAt e;cases dx with
 |none=>exact⟨_,none,t,⟨b,rfl,rfl,Vu⟩,rfl⟩
 |some d =>
  obtain⟨fs,g⟩:=f d rfl;obtain⟨_,mA,n,r,_⟩:=I.tE g;obtain⟨od,c,_⟩:=o5 n;exact⟨_,ih od,t,⟨b,rfl,rfl,c⟩,rfl⟩
theorem Inv.hidden(I:Inv X J σ H s)(p:X.ex=[])(A:X.stack=X.env::X.outer)(B:X.env.frame=ih X.env.locals)(f:H a=ih (cE C dx a))(h0:X.gS a=none)
  (k:(hideAll s.heap (a::ea X.stack)).StaysIn h') (up:s.heap.UpToSlots h'):Un X.fs [] X.gS (hK H a) X.d7.heap h'/\cm X.prog X.w (hK H a) h':=by
 have d:Un X.fs [] X.gS H X.d7.heap s.heap:=by have:=I.base;rw[p]at this;exact this
 have h:∀b,b∈ea X.stack->b=X.env.locals\/b∈X.fs:=λb r=>by
  have:=I.pW b r;rcases bH.mp this with z|z
  ·exact .inl z
  ·exact .inr z
 have t:∀{b:EZ},H b=none->b≠a:=λe z=>by subst z;rw[f]at e;cases e
 have get:∀b o,s.heap.get? b=ih o->b≠a->b ∉ ea X.stack->h'.get? b=ih o:=λb o e n m=>k b o (hideAll_get _ e λz=>by
  rcases bH.mp z with z|z
  ·exact n z
  ·exact m z)
 have i:∀b o,X.d7.heap.get? b=ih o->b≠X.env.locals:=λb o e z=>by
  have h1:=bt e;have h2:=I.ok.above;subst z;exact absurd h1 (Fj.mpr h2)
 have g:∀b o,b∈X.fs->s.heap.get? b=ih o ->∃sl,h'.get? b=ih { o with slots:=sl }:=λb o m e=>by
  obtain⟨_,o',j,v⟩:=(I.ft).mem m;rw[e]at j;cases j
  exact up b o e v
 refine⟨⟨λb o e n m _=>?_,λb o e n m _=>?_,λb o e n _=>Hs (d.free b o e n (by simp)),λb o e _=>?_,λb xs e=>?_,λb o u e=>?_,λb ps e=>?_⟩,λb o e=>?_⟩
 ·have e1:=d.keep b o e n m (by simp)
  refine get b o e1 (t (d.free b o e n (by simp))) λz=>?_
  rcases h b z with z|z
  ·exact i b o e z
  ·exact m z
 ·obtain⟨sl,e1⟩:=d.slot b o e n m (by simp)
  obtain⟨l,e2⟩:=g b _ m e1;exact⟨l,e2⟩
 ·obtain⟨o',e1⟩:=d.there b o e (by simp)
  by_cases m:b∈X.fs
  ·obtain⟨sl,e2⟩:=g b _ m e1
   exact⟨_,e2⟩
  ·refine⟨o',get b o' e1 (λz=>?_) λz=>?_⟩
   ·subst z
    have:=d.free b o e h0 (by simp)
    rw[f]at this;cases this
   ·rcases h b z with z|z
    ·exact i b o e z
    ·exact m z
 ·have e1:=d.gg b xs e
  rw[lR (aq e1 f)];exact e1
 ·have e1:=d.gC b o u e
  rw[lR (aq e1 f)];exact e1
 ·obtain⟨x,e1⟩:=d.gR b ps e
  exact⟨x,by rw[lR (aq e1 f)];exact e1⟩
 ·obtain⟨n,e1⟩:=Hr e
  have qx:∀{c:EZ}{u:HO},H c=ih u->c ∉ ea X.stack:=λq m=>by
   have:=I.tm _ m;rw[q]at this;cases this
  refine(I.aH b o e1).et (λc u y q=>?_) (λc q=>?_) λc xs q=>?_
  ·rcases y with rfl|q1
   ·exact get _ u q n (qx e1)
   ·exact get c u q (aq q1 f) (qx q1)
  ·rw[lR (aq q f)];exact q
  ·rw[lR (aq q f)];exact q
def Cx.kG(X:Cx)(a:EZ):Cx:={ X with A:=X.A.mark (ih (.ref a)),calm:=false,xe:=λ_ _=>False }
theorem Inv.kG(I:Inv X J σ H s)(a:EZ):Inv (X.kG a) J σ H s:=
 ⟨⟨I.ok.mod,I.ok.kind,I.ok.glob,I.ok.blt,I.ok.above,I.ok.inj,I.ok.has,I.ok.jU,(λz=>Bool.noConfusion (show false=true from z)),I.ok.frames,I.ok.k7,I.ok.i7,I.ok.bs,I.ok.hT,I.ok.jL,I.ok.i3,I.ok.ft,I.ok.iy⟩,I.os,I.bare,I.base,I.loc,I.cell,I.free,I.eP,I.pin,I.aH,I.len⟩
theorem Inv.uncaught{Jy:Cx}(ok:X.Ok)(I:Inv (X.kG a) J σ H s):Inv X J σ H s:=
 ⟨ok,I.os,I.bare,I.base,I.loc,I.cell,I.free,I.eP,I.pin,I.aH,I.len⟩
section
variable{R:Y7->Ux->Prop}
theorem I'{its:Array i'}(tr:Nat->Bool)(D:A.in1.handled=none)(m:l≠it)(p:g.IsList l its)
  (E:∀i v,its[i]?=ih v ->∃a ws,v=.ref a/\a≠it/\Yv g a ws/\ws.size<=UB/\tr i = !ws.isEmpty):∀(k i:Nat) (s:Ux),its.size - i=k->i<=its.size->(∀b o,b≠it->g.get? b=ih o->s.heap.get? b=ih o)->s.heap.IsListIter it l i ->
  (∀h' tk,(∀b o,b≠it->g.get? b=ih o->h'.get? b=ih o)->R (.ok (.ret (.bool (((VD its.size).drop i).any tr)))) { s with heap:=h',toks:=tk }) ->
  codeAny (UO P w) A (.builtin "any.loop" ⟨[.ref it],[]⟩) R s:=by
 intro k
 induction k with
 |zero =>
  intro i s G hi kp d c;obtain rfl:i=its.size:=by omega
  refine h3 aaZ (?_:Uz _ _ _ _ _ _);rw[show A.under (.builtin "any.loop" ⟨[.ref it],[]⟩)=A.in1 from iE wm _];show Uz _ _ (pyNext (.ref it) >>= _) _ _ s;have f:s.heap.IsList l its:=p.at λo e=>kp l o m e;refine ae (wpAny_pyNext_list_end D d f (by simp) λh' ex=>ae (jf (ak ?_)))
  have:=c h' s.toks λb o n e=>ex b o n (kp b o n e);rw[UZ (by simp)]at this
  exact this
 |succ k H =>
  intro i s G hi kp d c;have h:i<its.size:=by omega
  have q:(VD its.size).drop i=i::(VD its.size).drop (i+1):=by rw[lr (by simpa using h),List.getElem_range]
  refine h3 aaZ (?_:Uz _ _ _ _ _ _);rw[show A.under (.builtin "any.loop" ⟨[.ref it],[]⟩)=A.in1 from iE wm _];show Uz _ _ (pyNext (.ref it) >>= _) _ _ s;have f:s.heap.IsList l its:=p.at λo e=>kp l o m e;have t:its[i]?=ih its[i]:=by simp[h]
  obtain⟨a,ws,I,J,y,K,B⟩:=E i _ t;refine ae (wpAny_pyNext_list_item d f t λh' z L=>?_);have j:∀b o,b≠it->g.get? b=ih o->h'.get? b=ih o:=λb o n e=>L.extBut b o n (kp b o n e);have x:Yv h' a ws:=by
   obtain⟨o,M,r⟩:=y;exact⟨o,j a o J M,r⟩
  rw[I];refine ae (eh (truthy_tuple (s:={ s with heap:=h' }) x (by rw[aV]at K;omega) (ae (wpAny_letGo ?_))))
  rw[<-B];cases u:tr i with
  |false =>
   refine ak ⟨jn wm _,H (i+1) _ (by omega) h j z λh2 C N=>?_⟩
   have:=c h2 C N;rw[q,jk,u,wk]at this;exact this
  |true =>
   refine ae (jf (ak ?_));have:=c h' (s.toks+1+1) j;rw[q,jk,u,abd]at this;exact this
end
theorem Ia(A:X.calm=true):cU X (.builtin "any") (λxs H Q=>∃(p:EZ) (ys:ac V) (rs:ac (List V)),xs=[.ref p]/\aj X.K H p ys/\VM (λy r=>∃a,y=V.ref a/\ay X.K H a r) ys rs/\Q (.bl (rs.any λr=>!r.isEmpty)) H):=by
 intro J s σ H xs us Q I r h;obtain⟨p,ys,rs,rfl,k,pr,q⟩:=h;obtain⟨u,rfl,B⟩:=vals1 r;cases B
 obtain⟨its,l,c,C⟩:=I.list k;have f:=l.length;have all:∀i v,its[i]?=ih v ->∃a ws,v=.ref a/\Yv s.heap a ws/\ws.size<=UB/\(rs.map λr=>!r.isEmpty).getD i false = !ws.isEmpty:=by
  intro i v e;clear q k c C r
  induction l generalizing rs i with
  |nil=>simp at e
  |cons D R E =>
   cases pr with
   |cons G pt =>
    cases i with
    |zero =>
     simp at e;subst e;obtain⟨a,rfl,L⟩:=G;cases D
     obtain⟨ws,t,d,j⟩:=I.tuple L;have P:=t.length;exact⟨a,_,rfl,d,by rw[bY];omega,by rw[sf t];rfl⟩
    |succ i=>exact E _ pt (by simpa using f) i (by simpa using e)
 have w:its.toArray.size=rs.length:=by rw[bY,<-f];exact cK pr
 have x:(VD its.toArray.size).any (λi=>(rs.map λr=>!r.isEmpty).getD i false)=rs.any λr=>!r.isEmpty:=by
  rw[w]
  apply lj.mpr
  simp only[lu,jd]
  constructor
  ·rintro⟨i,hi,e⟩
   refine⟨rs[i],eL hi,?_⟩
   simpa [YX,hi] using e
  ·rintro⟨r,M,e⟩
   obtain⟨i,hi,rfl⟩:=wq M;exact⟨i,hi,by simpa [YX,hi] using e⟩
 refine call_function_tree F.kind_any F.plain_any F.entry_any (F.args_any1 (.ref p)) (?_:Uz _ _ _ _ _ _);unfold Ya.«any»;refine ae (m:=oneArg "any" _) (ak (ae (rH c.isList ?_)));have new:∀b o,s.heap.get? b=ih o->b≠s.heap.objs.size:=λb o e=>bK (bt e);obtain⟨ol,z,_⟩:=id c.isList;refine ak ⟨jn wm _,I' (g:=s.heap) (λi=>(rs.map λr=>!r.isEmpty).getD i false) (I.ok.hd A) (new p ol z) c.isList (λi v e=>?_) _ 0 _ rfl (bB _) (λb o n e=>a5 _ e) ⟨_,bU _ rfl,rfl,rfl⟩ λh' tk kp=>?_⟩
 ·obtain⟨a,ws,N,d,j,e2⟩:=all i v (by simpa using e)
  obtain⟨o,O,_⟩:=id d;exact⟨a,ws,N,new a o O,d,j,e2⟩
 ·rw[wu,x]
  exact⟨.bl _,H,I.kept (t':=tk) λb o e=>kp b o (new b o e) e,rfl,q⟩
theorem o9(t:X.calm=true):cU X (.builtin "all") (λxs H Q=>∃(p:EZ) (bs:ac Bool),xs=[.ref p]/\aj X.K H p (bs.map V.bl)/\Q (.bl (bs.all id)) H):=by
 intro J s σ H xs us Q I r h;obtain⟨p,bs,rfl,g,q⟩:=h;obtain⟨u,rfl,w⟩:=vals1 r;cases w
 obtain⟨its,c,a,x⟩:=I.list g;have k:=c.length;have f:its=bs.map YG:=by
  clear q g a x r k
  induction bs generalizing its with
  |nil=>cases c;rfl
  |cons b bs y =>
   cases c with
   |cons z B=>cases z;rw[y _ B];rfl
 have new:∀b o,s.heap.get? b=ih o->b≠s.ai:=λb o e=>bK (bt e);obtain⟨ol,l,_⟩:=id a.isList;refine call_all_walk (rH a.isList ?_);refine⟨s.ai,_,_,_,_,_,λi=>bs.getD i true,rfl,Z4 (A:=X.A.in1) (I.ok.hd t) s.ai p (new p ol l) its.toArray,⟨⟨_,bU _ rfl,rfl,rfl⟩,a.isList.at λo e=>a5 _ e⟩,λi v s2 D E j m=>?_,λh' tk kp=>?_⟩
 ·rw[f]at j
  have:bs[i]?.map YG=ih v:=by simpa using j
  obtain⟨b,d,rfl⟩:=gu.mp this;refine g6 ?_;have e:bs.getD i true=b:=by rw[gv,d];rfl
  exact e ▸ m
 ·have n:(VD its.toArray.size).all (λi=>bs.getD i true)=bs.all id:=by
   have C:its.toArray.size=bs.length:=by rw[f];simp
   rw[C]
   apply lj.mpr
   simp only[mT,jd]
   constructor
   ·intro h b d
    obtain⟨i,hi,rfl⟩:=wq d
    simpa [YX,hi] using h i hi
   ·intro h i hi
    simpa [YX,hi] using h bs[i] (eL hi)
  rw[n];exact⟨.bl _,H,I.kept (t':=tk) λb o e=>kp b o (by simpa using new b o e) (a5 _ e),rfl,q⟩
def Kn:V->List V->Hp->VK->Prop:=λx vs H Q=>∃(l:EZ) (ys:List Fv) (y:Fv) (j:Nat),x=.ref l/\vs=[.str y]/\H l=ih (.lst (ys.map V.str))/\ys[j]?=ih y/\(∀m,m<j->ys[m]? ≠ ih y)/\Q (.int j) H
theorem Ja:lb X "list.index" Kn:=by
 intro J s σ H x vs v us Q I C D h;obtain⟨l,ys,y,j,rfl,rfl,E,p,A,q⟩:=h;cases C
 obtain⟨u,rfl,t,rfl⟩:=D.one;obtain⟨z,its,n,r,f,e⟩:=I.jM E;have k:j<its.length:=by
  have:=(bZ.mp p).1;rw[<-f,aB];exact this
 have o:∀m (a:m<its.length),∃(w:Fv) (t':Tok),ys[m]?=ih w/\its[m]=.str w t':=λm a=>by
  have b:m<ys.length:=by rw[<-f,aB]at a;exact a
  obtain⟨u,c,t',G⟩:=r.get (i:=m) (x:=.str ys[m]) (by rw[cI,bw b];rfl)
  rw[bw a]at c;exact⟨ys[m],t',bw b,by rw[cG c];exact G⟩
 have K:(ys.map V.str).all il=true:=jv ys;refine j8 aaO ⟨_,e,rfl⟩ aaD (aar _ _) (Z9 l its.toArray n none #[] (.str y t) (eX (.str y)) j (by simpa using k) ?_ ?_ ?_) ⟨e,?_,?_⟩
 ·rw[aV]at z;have:=f;omega
 ·obtain⟨w,t',d,g⟩:=o j k
  rw[p]at d;cases d;show eX (.str y) (its.toArray[j])=true;rw[wx,g,pZ (y:=.str y) ⟨t',rfl⟩ rfl];show decide _=true;exact cb rfl
 ·intro m a B
  have b:m<its.length:=by simpa using a
  obtain⟨w,t',d,g⟩:=o m b;show eX (.str y) (its.toArray[m])=false;rw[wx,g,pZ (y:=.str w) ⟨t',rfl⟩ rfl];have ne:=A m B;rw[d]at ne;show decide _=false;exact ef λz=>ne (by rw[z])
 ·intro u c
  exact lO (x:=.str y) ⟨t,rfl⟩ rfl r K u (by simpa using c)
 ·exact⟨.int j,H,I.tok _,⟨_,rfl⟩,q⟩
section
variable{p2 p3 p4:Z3}{k:Nat}
def Ov(K:Ym)(te:TE):TE:=λσ H Q=>te σ H λx H2=>∃(l:EZ) (xs:List V),x=.ref l/\aj K H2 l xs /\∀p,H2 p=none->Q (.ref p) (upd H2 p (.lst xs.reverse))
theorem LQ(f:PE X e te):PE X (.Subscript e (.Slice none none (ih (.UnaryOp .USub (.Constant (.int 1) k p3) p4)) p2) pos) (Ov X.K te):=by
 intro J s σ H Q I h;refine ZS (aF (f J s σ H _ I h) λv s1 A=>?_);obtain⟨x,Y,g,i,l,xs,ex,j,q⟩:=A;subst ex;cases i
 refine wpAny_Slice ?_;rw[E7];refine ak (ak ?_);refine aF (ia (uo t4 ar) J s1 σ Y (λo H'=>o=ih (-1)/\H'=Y) g ⟨_,rfl,_,rfl,rfl,rfl⟩) λvs a A=>?_;obtain⟨o,m,n,ps,p,t⟩:=A;subst p t;have c:Inv X J σ m { a with heap:=a.heap.push { cls:=.type "slice",data:=.fields #[.none,.none,vs] } }:=n.kept (t':=a.toks) λb u z=>a5 _ z;obtain⟨its,r,d,w⟩:=c.list j;have y:=r.length;refine tail_any (ops:=_) d.isList.typeIs E8.lookup ?_ (by with_unfolding_all rfl)
 refine UQ d.isList (Zy ..) .none .none ps (by decide) ?_ (by rw[bY];omega)
 rw[krv_pick];refine⟨.ref _,_,c.laid (t':=a.toks) (o:=.lst xs.reverse) (λb u z=>a5 _ z) (aP _) ?_,rfl,q _ (c.aH.fresh (aP _))⟩;exact⟨by rw[Fl];exact w,its.reverse,0,r.reverse,bU _ rfl⟩
end
end L2
namespace L2
open Spec PyProof.Rows
section
variable{κ:Type} [DecidableEq κ]
def a'(kvs:List (κ×V))(k:κ):Option V:=(kvs.find? λkv=>decide (kv.1=k)).map (·.2)
def putK(kvs:List (κ×V))(k:κ)(v:V):List (κ×V):=
 if (kvs.any λkv=>decide (kv.1=k))=true then kvs.map (λkv=>if kv.1=k then (kv.1,v) else kv) else kvs++[(k,v)]
theorem fg{p:κ×V}{r:ac (κ×V)}{k:κ}(e:p.1=k):a' (p::r) k=ih p.2:=by simp[a',oQ,e]
theorem eN{p:κ×V}{r:ac (κ×V)}{k:κ}(e : ¬ p.1=k):a' (p::r) k=a' r k:=by simp[a',oQ,e]
theorem jy(k:κ):∀kvs:ac (κ×V),(kvs.any λkv=>decide (kv.1=k))=(a' kvs k).isSome
 |[]=>rfl
 |p::r=>by
  rw[jk]
  by_cases e:p.1=k
  ·simp only[fg e,cb e,abd,UW]
  ·rw[eN e,ef e,wk];exact jy k r
theorem BG(k j:κ)(y:V):∀kvs:ac (κ×V),a' (kvs.map λkv=>if kv.1=k then (kv.1,y) else kv) j=(a' kvs j).map λx=>if j=k then y else x
 |[]=>rfl
 |p::r=>by
  have a:=BG k j y r;rw[b2]
  by_cases h:p.1=k
  ·rw[aE h]
   by_cases e:p.1=j
   ·rw[fg (p:=(p.1,y)) e,fg e,rF,aE (e.symm.trans h)]
   ·rw[eN (p:=(p.1,y)) e,eN e,a]
  ·rw[ao h]
   by_cases e:p.1=j
   ·rw[fg (p:=p) e,fg e,rF,ao (λz=>h (e.trans z))]
   ·rw[eN (p:=p) e,eN e,a]
theorem pb(k j:κ)(y:V):∀kvs:ac (κ×V),a' kvs k=none->a' (kvs++[(k,y)]) j=if j=k then ih y else a' kvs j
 |[],_=>by
  by_cases e:k=j
  ·rw[aE e.symm];exact fg (p:=(k,y)) e
  ·rw[ao (λz=>e z.symm)];exact eN (p:=(k,y)) e
 |p::r,a=>by
  rw[Fn];have b : ¬ p.1=k:=λz=>by rw[fg z]at a;cases a
  rw[eN b]at a;have c:=pb k j y r a
  by_cases e:p.1=j
  ·rw[fg e,fg e,ao (λz=>b (e.trans z))]
  ·rw[eN e,eN e,c]
theorem kr(kvs:ac (κ×V))(k j:κ)(y:V):a' (putK kvs k y) j=if j=k then ih y else a' kvs j:=by
 unfold putK
 by_cases a:(kvs.any λb=>decide (b.1=k))=true
 ·rw[aE a,BG]
  rw[jy]at a
  by_cases e:j=k
  ·obtain⟨x,c⟩:=rJ.mp a
   rw[aE e,e,c,rF,aE rfl]
  ·rw[ao e]
   cases a' kvs j with
   |none=>rfl
   |some x=>rw[rF,ao e]
 ·rw[ao a]
  refine pb k j y kvs ?_;rw[jy]at a;cases q:a' kvs k with
  |none=>rfl
  |some x=>rw[q]at a;exact(a rfl).elim
theorem lH(kvs:ac (κ×V))(k:κ)(v:V):(putK kvs k v).length<=kvs.length+1:=by
 unfold putK;split
 ·rw[aB];omega
 ·rw[bV,cS,jm];omega
theorem iN{kvs:ac (κ×V)}{k:κ}(v:V)(h:a' kvs k=none):putK kvs k v=kvs++[(k,v)]:=by
 unfold putK;rw[jy,h];exact ao (by decide)
theorem er.m8{o:ad V}{u:ad i'}(r:er o u):o.isSome=u.isSome:=by
 cases o with
 |none=>cases u with
  |none=>rfl
  |some _=>exact(show False from r).elim
 |some _=>cases u with
  |none=>exact(show False from r).elim
  |some _=>rfl
theorem KV.val{kvs:ac (κ×V)}{vs:ac (κ×i')}(r:KV kvs vs)(k:κ):er (a' kvs k) (valueAt vs k):=by
 unfold KV at r
 induction r with
 |nil=>exact Vu
 |@cons p q ps a h t d =>
  obtain⟨h1,h2⟩:=h
  by_cases e:p.1=k
  ·have c:q.1=k:=h1.symm.trans e
   have b:valueAt (q::a) k=ih q.2:=by simp[valueAt,oQ,c]
   rw[fg e,b];exact h2
  ·have c : ¬ q.1=k:=λz=>e (h1.trans z)
   have b:valueAt (q::a) k=valueAt a k:=by simp[valueAt,oQ,c]
   rw[eN e,b];exact d
theorem KV.any{kvs:ac (κ×V)}{vs:ac (κ×i')}(r:KV kvs vs)(k:κ):(kvs.any λkv=>decide (kv.1=k))=vs.any λkv=>decide (kv.1=k):=by
 unfold KV at r
 induction r with
 |nil=>rfl
 |cons h t a=>rw[jk,jk,a,h.1]
theorem KV.u0{kvs:ac (κ×V)}{vs:ac (κ×i')}(r:KV kvs vs)(k:κ)(a:RelV y u) :
  KV (kvs.map λkv=>if kv.1=k then (kv.1,y) else kv) (vs.map λkv=>if kv.1=k then (kv.1,u) else kv):=by
 unfold KV at r⊢
 induction r with
 |nil=>exact .nil
 |@cons p q ps c h t b =>
  rw[b2,b2];refine .cons ?_ b;obtain⟨h1,h2⟩:=h
  by_cases e:p.1=k
  ·rw[aE e,aE (h1.symm.trans e)];exact⟨h1,a⟩
  ·rw[ao e,ao (λz=>e (h1.trans z))];exact⟨h1,h2⟩
theorem KV.put{kvs:ac (κ×V)}{vs:ac (κ×i')}(r:KV kvs vs)(k:κ)(a:RelV y u):KV (putK kvs k y) (stored vs k u):=by
 unfold putK stored;rw[r.any k]
 by_cases e:(vs.any λb=>decide (b.1=k))=true
 ·rw[aE e,aE e];exact r.u0 k a
 ·rw[ao e,ao e];exact gL r ⟨rfl,a⟩
theorem KV.keys{kvs:ac (κ×V)}{vs:ac (κ×i')}(r:KV kvs vs):kvs.map (·.1)=vs.map (·.1):=by
 unfold KV at r
 induction r with
 |nil=>rfl
 |cons h t a=>rw[b2,b2,a,h.1]
theorem KV.length{kvs:ac (κ×V)}{vs:ac (κ×i')}(r:KV kvs vs):kvs.length=vs.length:=cK r
end
theorem mh{k:Key}(r:RelV (kV k) u):(cj P w).is k u=true:=by
 cases k with
 |inl i=>obtain⟨t,e⟩:=(show ∃t,u=Y5 i t from r);subst e;exact Gx P w i t
 |inr x=>obtain⟨t,e⟩:=(show ∃t,u=YT x t from r);subst e;exact Gy P w x t
theorem A1{P:Yc}{w:Yi}:∀{ks:ac Key}{us:ac i'},Vals (ks.map kV) us->ItemsAre (cj P w) ks us
 |[],_,r=>by rw[aa7]at r;cases r;exact .nil
 |k::ks,_,r=>by
  rw[b2]at r;cases r with
  |cons h t=>exact .cons (mh h) (A1 t)
abbrev KT(H:Hp):List (List Key×V)->List (List Key×EZ×i')->Prop:=VM λp q=>p.1=q.1/\H q.2.1=ih (.tup (p.1.map kV))/\RelV p.2 q.2.2
theorem KT.val{kvs:ac (List Key×V)}{xs:ac (List Key×EZ×i')}(r:KT H kvs xs)(k:ac Key):er (a' kvs k) ((atKey xs k).map (·.2)):=by
 induction r with
 |nil=>exact Vu
 |@cons p q ps a h t d =>
  obtain⟨h1,_,h2⟩:=h
  by_cases e:p.1=k
  ·have c:q.1=k:=h1.symm.trans e
   have b:atKey (q::a) k=ih q.2:=by simp[atKey,oQ,c]
   rw[fg e,b];exact h2
  ·have c : ¬ q.1=k:=λz=>e (h1.trans z)
   have b:atKey (q::a) k=atKey a k:=by simp[atKey,oQ,c]
   rw[eN e,b];exact d
theorem KT.u0{kvs:ac (List Key×V)}{xs:ac (List Key×EZ×i')}(r:KT H kvs xs)(k:ac Key)(a:RelV y u) :
  KT H (kvs.map λkv=>if kv.1=k then (kv.1,y) else kv) (xs.map (putAt k u)):=by
 induction r with
 |nil=>exact .nil
 |@cons p q ps d h t b =>
  rw[b2,b2];refine .cons ?_ b;obtain⟨h1,h2,c⟩:=h;unfold putAt
  by_cases e:p.1=k
  ·rw[aE e,aE (h1.symm.trans e)];exact⟨h1,h2,a⟩
  ·rw[ao e,ao (λz=>e (h1.trans z))];exact⟨h1,h2,c⟩
theorem KT.put{kvs:ac (List Key×V)}{xs:ac (List Key×EZ×i')}(r:KT H kvs xs)(k:ac Key)(c:H b=a2 (k.map kV))(a:RelV y u) :
  KT H (putK kvs k y) (storedH xs k b u):=by
 have e:(kvs.any λd=>decide (d.1=k))=(atKey xs k).isSome:=by
  rw[jy,(r.val k).m8,rQ]
 unfold putK storedH;rw[e]
 by_cases q:(atKey xs k).isSome=true
 ·rw[aE q,aE q];exact r.u0 k a
 ·rw[ao q,ao q];exact gL r ⟨rfl,c,a⟩
theorem KT.keeps{kvs:ac (List Key×V)}{xs:ac (List Key×EZ×i')}(r:KT H kvs xs)(a:∀b ys,H b=a2 ys->H' b=a2 ys):KT H' kvs xs:=
 Paired.qw r λ_ _ z=>⟨z.1,a _ _ z.2.1,z.2.2⟩
theorem Dl{u:HO}(ok:cm P w H h)(e:Rd H a u):bC P w H h a u:=e.ok ok
theorem kJ(ok:cm P w H h)(e:Rd H a (.dK kvs)):kvs.length<=UB/\(a==sysModules)=false /\∃vs,KV kvs vs/\h.DictOf (cj P w) a vs:=
 show bC P w H h a (.dK kvs) from Dl ok e
theorem uw(ok:cm P w H h)(e:H a=bn kvs):kvs.length<=UB/\(a==sysModules)=false /\∃vs,KV kvs vs/\h.DictOf (cj P w) a vs:=kJ ok (.inl e)
theorem l5{ks:ac Key}(ok:cm P w H h)(e:H a=a2 (ks.map kV)):(tupleKind (cj P w)).is h ks a:=by
 obtain⟨_,its,r,o,h1,h2,n,b,_⟩:=(show bC P w H h a (.tup (ks.map kV)) from ok a _ e);exact⟨o,its.toArray,n,h1,h2,b,by simpa using A1 r⟩
theorem nY{kvs:ac (List Key×V)}(ok:cm P w H h)(e:Rd H a (.dT kvs)):kvs.length<=UB/\(a==sysModules)=false /\
  ∃xs,KT H kvs xs/\h.DictOfH (tupleKind (cj P w)) a xs:=by
 obtain⟨z,y,xs,r,o,es,ep,h1,h2,c,d,f⟩:=(show bC P w H h a (.dT kvs) from Dl ok e);refine⟨z,y,xs,r,o,es,ep,h1,h2,c,d,λx hx=>?_,f⟩;have all:∀{l:ac (List Key×V)}{m:ac (List Key×EZ×i')},KT H l m ->∀x∈m,(tupleKind (cj P w)).is h x.1 x.2.1:=by
  intro l m q
  induction q with
  |nil=>intro x hx;exact nomatch hx
  |@cons p q ps i b t g =>
   intro x hx;rcases bH.mp hx with e|hx
   ·subst e
    exact l5 ok (by rw[<-b.1];exact b.2.1)
   ·exact g x hx
 exact all r x hx
theorem Dm{kvs:ac (List Key×V)}(ok:cm P w H h)(e:H a=ce kvs):kvs.length<=UB/\(a==sysModules)=false /\
  ∃xs,KT H kvs xs/\h.DictOfH (tupleKind (cj P w)) a xs:=nY ok (.inl e)
def b4(H:Hp)(a:EZ)(y:V)(r:Option V):Prop:=
 (∃kvs k,Rd H a (.dK kvs)/\y=kV k/\r=a' kvs k) \/∃kvs k b,Rd H a (.dT kvs)/\y=.ref b/\H b=ih (.tup (k.map kV))/\r=a' kvs k
def eR(H:Hp)(a:EZ)(y v:V)(H':Hp):Prop:=
 (∃kvs k,H a=ih (.dK kvs)/\y=kV k/\kvs.length<UB/\H'=upd H a (.dK (putK kvs k v))) \/
 ∃kvs k b,H a=ih (.dT kvs)/\y=.ref b/\H b=ih (.tup (k.map kV))/\kvs.length<UB/\H'=upd H a (.dT (putK kvs k v))
theorem b4.k{k:Key}(e:H a=bn kvs):b4 H a (kV k) (a' kvs k):=.inl ⟨kvs,k,.inl e,rfl,rfl⟩
theorem b4.t{kvs:ac (List Key×V)}{k:ac Key}(e:H a=ce kvs)(c:H b=a2 (k.map kV)):b4 H a (.ref b) (a' kvs k):=.inr ⟨kvs,k,b,.inl e,rfl,c,rfl⟩
theorem eR.k{k:Key}(e:H a=bn kvs)(b:kvs.length<UB):eR H a (kV k) v (upd H a (.dK (putK kvs k v))):=.inl ⟨kvs,k,e,rfl,b,rfl⟩
theorem eR.t{kvs:ac (List Key×V)}{k:ac Key}(e:H a=ce kvs)(c:H b=a2 (k.map kV))(d:kvs.length<UB) :
  eR H a (.ref b) v (upd H a (.dT (putK kvs k v))):=.inr ⟨kvs,k,b,e,rfl,c,d,rfl⟩
section
variable{r:i'}{o:ad V}
theorem Inv.big(I:Inv X J σ H s):sysModules<s.ai:=by
 have h:UU<s.ai:=(I.mod.glob.keeps I.bk).lt;exact lq (by decide) h
theorem Ib(r:A.units+1<YV)(I:Inv X J σ H s)(g:b4 H a y (ih v))(n:RelV y u)(h:∀c s',Inv X J σ H s'->RelV v c->Q c s') :
  Uz X.c2 A (getItem (.ref a) u) Q E s:=by
 rcases g with⟨kvs,k,e,i,l⟩|⟨kvs,k,b,e,i,t,l⟩
 ·subst i
  obtain⟨z,w,vs,d,j⟩:=kJ I.aH e;obtain⟨c,m,f⟩:=er.some_of (v:=v) (o:=valueAt vs k) (by rw[l];exact d.val k)
  exact wpAny_getItem_of (mh n) j.mapOf m (h c _ (I.tok _) f)
 ·subst i
  cases (show u=UR b from n)
  obtain⟨z,w,xs,d,j⟩:=nY I.aH e;obtain⟨c,m,f⟩:=er.some_of (v:=v) (o:=(atKey xs k).map (·.2)) (by rw[l];exact d.val k)
  obtain⟨p,x,q⟩:=gu.mp m;refine wpAny_getItem_heap (wy r) (l5 I.aH t) j x ?_;rw[q];exact h c _ (I.tok _) f
theorem Ow(m:A.units+1<YV)(I:Inv X J σ H s)(g:b4 H a y o)(j:RelV y u)(h:∀s',Inv X J σ H s'->Q (.bool o.isSome) s') :
  Uz X.c2 A (VH .In u (.ref a)) Q E s:=by
 rcases g with⟨kvs,k,e,d,l⟩|⟨kvs,k,b,e,d,n,l⟩
 ·subst d
  obtain⟨z,f,vs,c,i⟩:=kJ I.aH e;refine wpAny_in_of (mh j) f i.mapOf ?_;rw[<-(c.val k).m8,<-l];exact h _ (I.tok _)
 ·subst d
  cases (show u=UR b from j)
  obtain⟨z,f,xs,c,i⟩:=nY I.aH e;refine wpAny_in_heap (wy m) (l5 I.aH n) f i ?_;have q:=(c.val k).m8;rw[rQ]at q;rw[<-q,<-l];exact h _ (I.tok _)
theorem Ko(m:A.units+1<YV)(I:Inv X J σ H s)(g:b4 H a y o)(j:RelV y u)(h:∀s',Inv X J σ H s'->Q (.bool (!o.isSome)) s') :
  Uz X.c2 A (VH .NotIn u (.ref a)) Q E s:=by
 rcases g with⟨kvs,k,e,d,l⟩|⟨kvs,k,b,e,d,n,l⟩
 ·subst d
  obtain⟨z,f,vs,c,i⟩:=kJ I.aH e;refine wpAny_notIn_of (mh j) f i.mapOf ?_;rw[<-(c.val k).m8,<-l];exact h _ (I.tok _)
 ·subst d
  cases (show u=UR b from j)
  obtain⟨z,f,xs,c,i⟩:=nY I.aH e;refine wpAny_notIn_heap (wy m) (l5 I.aH n) f i ?_;have q:=(c.val k).m8;rw[rQ]at q;rw[<-q,<-l];exact h _ (I.tok _)
theorem tF{c:HO}(I:Inv X J σ H s)(d:ot (H a))(f:X7 a s.heap h')(g:∃q,h'.get? a=ih q)(new:bC X.prog X.w (upd H a c) h' a c) :
  Inv X J σ (upd H a c) { s with heap:=h',toks:=t' }:=
 I.write (x:=a) (e:=a) d (.inl rfl) (λb q h z=>(f.2 b h).trans z) g new
theorem C3{vs:ac (Key×i')}(z:kvs.length<=UB)(c:(a==sysModules)=false)(b:KV kvs vs)(d:h'.DictOf (cj P w) a vs) :
  bC P w H' h' a (.dK kvs):=⟨z,c,vs,b,d⟩
theorem Ic{Q:Unit->Ux->Prop}(F:A.units+1<YV)(I:Inv X J σ H s)(g:eR H a y v H')(x:RelV y u)(B:RelV v r)(h:∀s',Inv X J σ H' s'->Q () s') :
  Uz X.c2 A (setItem (.ref a) u r) Q E s:=by
 rcases g with⟨kvs,k,e,j,l,m⟩|⟨kvs,k,b,e,j,C,l,m⟩
 ·subst j m
  obtain⟨z,n,vs,d,o⟩:=uw I.aH e;have p:vs.length<=UB:=by rw[<-d.length];exact z
  have t:(putK kvs k v).length<=UB:=by have:=lH kvs k v;omega
  refine wpAny_setItem_pairs (hsz:=p) (mh x) o λh' f w=>h _ ?_;have G:∃q,h'.get? a=ih q:=let ⟨q,_,_,i,_⟩:=f;⟨q,i⟩;exact tF I (by rw[e];exact Vu) w G (C3 t n (d.put k B) f)
 ·subst j m
  cases (show u=UR b from x)
  obtain⟨z,n,xs,d,o⟩:=Dm I.aH e;have p:xs.length<=UB:=by rw[<-cK d];exact z
  have t:(putK kvs k v).length<=UB:=by have:=lH kvs k v;omega
  refine wpAny_setItem_heap (hsz:=p) (wy F) (l5 I.aH C) o λh' f w=>h _ ?_;obtain⟨q,es,ep,i,h2,K,L,_,M⟩:=f;refine tF I (by rw[e];exact Vu) w ⟨q,i⟩ ⟨t,n,_,(d.put k C B).keeps λc ys D=>?_,q,es,ep,i,h2,K,L,M⟩
  rw[ag (aq D e (λz=>nomatch z))];exact D
end
section
variable{k:Key}
theorem MM(I:Inv X J σ H s)(e:Rd H a (.dK kvs))(h:∀t s',Inv X J σ H s'->Q (.int kvs.length t) s'):Uz X.c2 A (call (.builtin "len") [.ref a]) Q E s:=by
 obtain⟨z,c,vs,b,d⟩:=kJ I.aH e;refine call_len_dict c d (by rw[<-b.length];rw[aV]at z;omega) ?_
 rw[<-b.length];exact h _ _ (I.tok _)
end
def DR(i:Vp):Prop:= ∀ov iv,subscripted i false ov iv=operate [ov,iv] (getItem ov iv)
theorem Kq{a:Vp}{id:String}
  (l:typeLookup (.type T) "__getitem__" = pure (ih (.builtin id))) (m:DR a)
  (h:Uz (UO prog w) A (eval value env) (λo e=>Uz (UO prog w) A (eval a env) (λi b=>b.TypeIs o T/\Uz (UO prog w) A (getItem o i) Q E b) E e) E s) :
  Uz (UO prog w) A (eval (.Subscript value a pos) env) Q E s:=by
 refine ZS (hY h (λo e j=>hY j (λi b c=>?_) λ_ _ x=>x) λ_ _ x=>x);obtain⟨g,c⟩:=c;unfold subscriptTail;refine ae ?_;rw[getitemInPython_of_ne g.not_modules];refine ae (wpAny_specialOf g l ?_);have d:Uz (UO prog w) A (subscripted a false o i) (λr f=>Uz (UO prog w) A (letTemporaryGo value o r >>= λ_=>pure r) Q E f) E b:=by
  rw[m o i];exact wpAny_operating (hY c (λr f k=>ae (wpAny_letTemporaryGo (ak k))) λ_ _ x=>x)
 first
  |exact ak (ae d)
  |exact ae (ak (ae d))
  |exact ae d
theorem GG{o:ad V}(I:Inv X J σ H s)(g:b4 H a y o):s.TypeIs (.ref a) "dict" :=by
 rcases g with⟨kvs,k,e,_,_⟩|⟨kvs,k,b,e,_,_,_⟩
 ·obtain⟨_,_,vs,_,c⟩:=kJ I.aH e
  exact c.typeIs
 ·obtain⟨_,_,xs,_,c⟩:=nY I.aH e
  exact c.typeIs
def ux(td ty:TE):TE:=λσ H Q=>td σ H λx Y=>ty σ Y λy H2=>∃a v,x=.ref a/\b4 H2 a y (ih v)/\Q v H2
def u1(ty td:TE):TE:=λσ H Q=>ty σ H λy Y=>td σ Y λx H2=>∃a o,x=.ref a/\b4 H2 a y o/\Q (.bl o.isSome) H2
def Ks(ty td:TE):TE:=λσ H Q=>ty σ H λy Y=>td σ Y λx H2=>∃a o,x=.ref a/\b4 H2 a y o/\Q (.bl (!o.isSome)) H2
def MN(td ty tv:TE):TS:=λD σ H=>tv σ H λv Y=>td σ Y λx H2=>ty σ H2 λy H3=>∃a H4,x=.ref a/\eR H3 a y v H4/\D.nx σ H4
section
variable{o i:Vp}{Qy:Z3}{td ty:TE}
theorem d0(d:X.A.units+1<YV)(e:PE X o td)(hi:PE X i ty)(f:DR i:=by exact λ_ _=>rfl):PE X (.Subscript o i pos) (ux td ty):=by
 intro J s σ H Q I h;refine Kq PySem.F.slot_dict_getitem.lookup f (aF (e J s σ H _ I h) λu s1 ⟨x,Y,j,k,l⟩=>aF (hi J s1 σ Y _ j l) λq s2 w=>?_);obtain⟨y,H2,b,m,a,v,ex,g,n⟩:=w;subst ex;obtain rfl:u=UR a:=k;exact⟨GG b g,Ib d b g m λr t p c=>⟨v,H2,p,c,n⟩⟩
theorem iU(b:X.A.units+1<YV)(hi:PE X i ty)(c:PE X o td):PC X .In i o (u1 ty td):=by
 intro J s σ H Q I h;refine aF (hi J s σ H _ I h) λp s1 ⟨y,Y,d,e,f⟩=>aF (c J s1 σ Y _ d f) λu s2 r=>?_;obtain⟨x,H2,j,k,a,l,ex,g,m⟩:=r;subst ex;obtain rfl:u=UR a:=k;exact Ow b j g e λq n=>⟨.bl l.isSome,H2,n,rfl,m⟩
theorem pd(b:X.A.units+1<YV)(hi:PE X i ty)(c:PE X o td):PC X .NotIn i o (Ks ty td):=by
 intro J s σ H Q I h;refine aF (hi J s σ H _ I h) λp s1 ⟨y,Y,d,e,f⟩=>aF (c J s1 σ Y _ d f) λu s2 r=>?_;obtain⟨x,H2,j,k,a,l,ex,g,m⟩:=r;subst ex;obtain rfl:u=UR a:=k;exact Ko b j g e λq n=>⟨.bl (!l.isSome),H2,n,rfl,m⟩
theorem gx(b:X.A.units+1<YV)(c:PE X o td)(hi:PE X i ty)(d:PE X value tv)(e:swapsWith value (ih (.Subscript o i Qh)) pos.line X.env=pure false) :
  PS X (.Assign [.Subscript o i Qh] value pos) (MN td ty tv):=by
 intro J s σ H D I h;refine wpAny_Assign_Subscript (aF (d J s σ H _ I h) λr s1 ⟨v,Y,f,j,k⟩=>aF (c J s1 σ Y _ f k) λu s2 ⟨x,H2,l,m,n⟩=>aF (hi J s2 σ H2 _ l n) λB C G=>?_) e;obtain⟨y,E,p,q,a,t,ex,g,w⟩:=G;subst ex;obtain rfl:u=UR a:=m;exact Ic b p g q j λF z=>⟨σ,t,z,w⟩
end
theorem Jb(h:X8)(a:sysModules<h.objs.size):bC P w H (h.push { cls:=.type "dict",data:=.dict #[] }) h.objs.size (.dK []):=
 ⟨bB _,iC.mpr (aS (bK a)),[],.nil,ZP h⟩
theorem BH(h:X8)(a:sysModules<h.objs.size):bC P w H (h.push { cls:=.type "dict",data:=.dict #[] }) h.objs.size (.dT []):=
 ⟨bB _,iC.mpr (aS (bK a)),[],.nil,_,#[],0,bU _ rfl,⟨rfl,rfl,rfl⟩,rfl,rfl,e4⟩
def LR:TE:=λ_ H Q=>∀p,H p=none->Q (.ref p) (upd H p (.dK []))
def LS:TE:=λ_ H Q=>∀p,H p=none->Q (.ref p) (upd H p (.dT []))
theorem lS:PE X (.Dict [] [] pos) LR:=λJ s σ H Q I h =>
 wpAny_Dict_empty ⟨.ref s.ai,_,I.laid (a:=s.ai) (o:=.dK []) (t':=s.toks) (λ_ _ q=>a5 _ q) (aP _) (Jb s.heap I.big),rfl,h _ (I.aH.fresh (aP _))⟩
theorem pw:PE X (.Dict [] [] pos) LS:=λJ s σ H Q I h =>
 wpAny_Dict_empty ⟨.ref s.ai,_,I.laid (a:=s.ai) (o:=.dT []) (t':=s.toks) (λ_ _ q=>a5 _ q) (aP _) (BH s.heap I.big),rfl,h _ (I.aH.fresh (aP _))⟩
end L2
namespace HT
open PyProof.Rows
theorem F2{t:EZ}{lo:ad Int}(a:Yv s.heap t items)(b:s.heap.IsSliceOf sl vl vu .none)(pl:Zo vl lo)(g:Zo vu hi)
  (h0:bo items.size 0 lo=0) (h1:bo items.size items.size hi=items.size) (h:Q (.ref t) s):Uz (UO prog w) A (getItem (.ref t) (.ref sl)) Q E s:=by
 obtain⟨os,d,e,i⟩:=id b;have f:s.TypeIs (.ref sl) "slice" :=⟨os,d,e⟩;unfold getItem
 try with_reducible refine eh ?_
 first|refine ae (ak ?_)|skip
 refine ae (wpAny_sequenceKey a.typeIs (by decide) ?_)
 refine ae (rK (name:=Yp "__getitem__") a.typeIs oL
  (hZ oL a.typeIs entry_tuple_getitem ?_ (args_tuple_getitem _ _)))
 show Uz _ _ (YH (.ref t) >>= _) _ _ s;refine ae (tupleItemsOf_ a ?_);refine ae (jj f ?_);rw[aE (by decide)]
 refine ae (wY b pl g ?_);rw[h0,h1];have c:((((0:Nat):Int)==0&&(1:Int)==1&&(items.size - 0)==items.size)=true):=by simp
 show Uz _ _ (if ((((0:Nat):Int)==0&&(1:Int)==1&&(items.size - 0)==items.size)=true) then _ else _) _ _ s;rw[aE c];refine ae (ae (jj a.typeIs (ak ?_)));rw[aE (by decide)]
 exact ae (jf (ak ⟨_,rfl,ak h⟩))
theorem Jc{t:EZ}{ws:ac i'}(m:Yv s.heap t ([]:ac i').toArray)(o:Yv s.heap b ws.toArray)(h:Q (.ref b) s):Uz (UO prog w) A (Yn .Add (.ref t) (.ref b)) Q E s:=by
 obtain⟨⟨g,p,e,sl⟩,c,q,n,r⟩:=id m;obtain⟨⟨f,i,data2,j⟩,a,k,d,l⟩:=id o;obtain rfl:g=.type "tuple" :=q;obtain rfl:e=.seq #[] n:=r;obtain rfl:f=.type "tuple" :=k;obtain rfl:data2=.seq ws.toArray d:=l;exact concat_meets ⟨_,c,rfl⟩ ⟨_,a,rfl⟩ E1 E3 E4 E5 (E6 _ _) (tuple_addW0 t b #[] ws.toArray n d p i sl j rfl) ⟨c,a,h⟩
end HT
namespace L2
open Spec PyProof.Rows W
theorem BJ{q:EZ}{o:HO}(a:H q=none):aw H (upd H q o):=λb u e=>by rw[ag (ax e a)];exact e
def Ox:V->Option Int->Option Int->Hp->VK->Prop:=λx lo hi H Q=>∃a xs,x=.ref a/\H a=ih (.tup xs) /\∀p H',aw H H'->H' p=ih (.tup (fw xs lo hi))->Q (.ref p) H'
theorem Cu:mE X Ox:=by
 intro J s σ H x v vl vu lo hi sl Q I e f g i h;obtain⟨a,xs,rfl,c,q⟩:=h
 by_cases b:HT.bo xs.length 0 lo=0/\HT.bo xs.length xs.length hi=xs.length
 ·cases e
  obtain⟨its,r,j,l⟩:=I.tuple (ay.of c);have d:its.toArray.size=xs.length:=by rw[bY];exact r.length.symm
  refine⟨"tuple",_,oL.lookup,j.typeIs,HT.F2 j f g i (by rw[d];exact b.1) (by rw[d];exact b.2) ?_⟩
  refine⟨.ref a,H,I,rfl,q a H (aw.refl _) ?_⟩;unfold fw;rw[b.1,b.2,wu,Fo,cz];exact c
 ·exact LG J s σ H (.ref a) v vl vu lo hi sl Q I e f g i ⟨a,xs,rfl,ay.of c,b,λp k=>q p _ (BJ k) af⟩
def MO:R2:=λx y H Q=>∃a b xs ys,x=.ref a/\y=.ref b/\H a=ih (.tup xs)/\H b=ih (.tup ys)/\xs.length+ys.length<=UB /\∀p H',aw H H'->H' p=ih (.tup (xs++ys))->Q (.ref p) H'
theorem Cv:cp X (Yn .Add) MO:=by
 intro J s σ H x y v u Q I f g h;obtain⟨a,b,xs,ys,rfl,rfl,c,d,i,q⟩:=h;cases xs with
 |nil =>
  cases f
  cases g
  obtain⟨its,j,k,_⟩:=I.tuple (ay.of c);obtain⟨m,n,p2,_⟩:=I.tuple (ay.of d);cases j
  exact HT.Jc k p2 ⟨.ref b,H,I,rfl,q b H (aw.refl _) d⟩
 |cons z xs=>exact Kd J s σ H (.ref a) (.ref b) v u Q I f g ⟨a,b,_,ys,rfl,rfl,ay.of c,ay.of d,by simp,i,λe=>q a H (aw.refl _) (by rw[e,eU];exact c),λ_ p l=>q p _ (BJ l) af⟩
theorem tG{k:Key}(h:(cj P w).is k u=true):RelV (kV k) u:=by
 cases k with
 |inl i=>exact aae (show ZT i u=true from h)
 |inr x=>exact EM (show YA x u=true from h)
theorem Cw:∀{xs:ac V}{us:ac i'},xs.length=us.length->(∀(i:Nat) x u,xs[i]?=ih x->us[i]?=ih u->RelV x u)->Vals xs us
 |[],[],_,_=>.nil
 |[],_::_,h,_=>by simp at h
 |_::_,[],h,_=>by simp at h
 |x::xs,u::us,h,f=>.cons (f 0 x u rfl rfl) (Cw (by simpa using h) λi y v a b=>f (i+1) y v (by simpa using a) (by simpa using b))
theorem sg(A:X.calm=true):cU X (.type "list") (λxs H Q=>∃d kvs,xs=[.ref d]/\H d=bn kvs /\∀l,H l=none->Q (.ref l) (upd H l (.lst (kvs.map λkv=>kV kv.1)))):=by
 intro J s σ H xs us Q I r h;obtain⟨d,kvs,rfl,j,q⟩:=h;obtain⟨u,rfl,B⟩:=vals1 r;cases B
 obtain⟨f,lo,vs,kv,m⟩:=uw I.aH j;obtain⟨ep,n⟩:=m.dictAt;have b:kvs.length=vs.length:=kv.length;refine kdl_call (kdl_dict (kvs:=vs) (ep:=ep) lo) (I.ok.hd A) n (by rw[<-b];exact f) λh' tk Qb c kp e it=>?_
 refine⟨.ref s.ai,_,I.laid (t':=tk) kp (aP _) (show bC X.prog X.w _ h' _ (.lst (kvs.map λkv=>kV kv.1)) from⟨by rw[aB];exact f,Qb.toList,c,?_,by rw[Array.toArray_toList];exact e⟩),rfl,q _ (I.aH.fresh (aP _))⟩
 refine Cw (by rw[aB,f5];exact b.trans it.1.symm) λi x v o t=>?_
 obtain⟨k,y,g,hi⟩:=it.2 i v (by rw[<-oN];exact t)
 obtain⟨z,a,rfl⟩:=gu.mp (by rw[<-cI];exact o)
 have e:z.1=k:=by
  clear it o t b n m q f j
  induction kv generalizing i with
  |nil=>simp at a
  |cons p _ C =>
   cases i with
   |zero =>
    simp at a g;subst a;rw[p.1,g]
   |succ i=>exact C i (by simpa using g) (by simpa using a)
 rw[e];exact tG hi
end L2
namespace HT
open PyProof.Rows
section
open SeqAt
open AutoSeq1 (wpAny_loadPart')
open MeetsSeq MeetsSeq2 MeetsSeq3
end
end HT
namespace L2
open Spec PyProof.Rows W HT
theorem lZ{α β:Type}{F:α->β->Prop}:∀{l:ac α}{m:ac β}{i:Nat}{x:α},VM F l m->l[i]?=ih x ->∃y,m[i]?=ih y/\F x y
 |_,_,i,x,.nil,e=>by simp at e
 |_,_,0,x,.cons p _,e=>by simp at e;subst e;exact⟨_,rfl,p⟩
 |_,_,i+1,x,.cons _ t,e=>by simpa using lZ (i:=i) t (by simpa using e)
end L2
namespace HT
open PyProof.Rows
open AutoSeq1 (wpAny_loadPart')
end HT
namespace L2
open Spec PyProof.Rows W HT
end L2
namespace HT
open PyProof.Rows
end HT
namespace HT
open PyProof.Rows W
end HT
namespace HT
open PyProof.Rows W L2
theorem pe:plainId "dict.update.loop" = true:=by decide +kernel
theorem A2:entryFor table "dict.update.loop" = ih Ya.«dict.update.loop» :=entryFor_of_fast (by kernel_rfl)
theorem stored_new{K:Type} [DecidableEq K]{kvs:ac (K×i')}{k:K}{v:i'}(h:k ∉ kvs.map (·.1)):stored kvs k v=kvs++[(k,v)]:=by
 unfold stored;rw[ao];intro z;obtain⟨p,a,e⟩:=lu.mp z;exact h (a4.mpr ⟨p,a,by simpa using e⟩)
end HT
namespace HT
open PyProof.Rows
section
open SeqAt
open AutoSeq1 (wpAny_loadPart')
open MeetsSeq MeetsSeq2 MeetsSeq3
end
end HT
namespace L2
open Spec PyProof.Rows W HT
theorem c8{c:YW}(h:(sc.names.map (·.1)).Nodup/\N'.Nodup/\uZ N N' Qe sc=true /\∀p∈sc.names,p.2=.free->c.names.lookup p.1=ih .cell\/c.names.lookup p.1=ih .free:=by decide +kernel)(a:sc.kind=.function:=by rfl)(b:Qe.length=N'.length:=by rfl):b6 N c N' Qe sc:=⟨a,h.1,h.2.1,b,Dk h.2.2.1,h.2.2.2⟩
theorem bz{P:ac Fv}(h:N.Nodup/\(∀x∈P,sc.names.lookup x=ih .local\/sc.names.lookup x=ih .cell) /\∀y∈sc.names,y.2 ≠ .free:=by decide +kernel)(a:sc.kind=.function:=by rfl)(b:sc.isCoroutine=false:=by rfl)(c:sc.isGenerator=false:=by rfl)(d:N.take P.length=P:=by rfl):bf N P sc:=⟨a,b,c,h.1,d,h.2.1,h.2.2⟩
theorem uc{xs:ac Fv}(h:(xs.map V.str)[i]?=ih v):i<(xs.map V.str).length /\∃a:i<xs.length,V.str xs[i]=v/\xs.take (i+1)=xs.take i++[xs[i]]:=by
 have h1:=(bZ.mp h).1;have h2:i<xs.length:=by simpa using h1
 exact⟨h1,h2,by simpa [h2] using h,by rw[dH,bw h2];rfl⟩
theorem eu{n:Nat}(h:n+64<YV):n+1<YV:=by omega
theorem gY:3<=UB:=by rw[aV];decide
theorem bQ:2<=UB:=U0 gY
theorem eI:1<=UB:=U0 bQ
end L2
namespace L2
open W
structure bF(P:Yc)(w:Yi)(K:Ym)(mg:Fv->Option i')(base:X8)(CX:gG)(k:Nat)(f:EZ)(fd:X2)(ps:List Fv)(sp:Sp)(x:Fv):Prop where
 G:aT P w K mg base CX k f fd ps sp
 k:Yr K (.ref f)=true
 b:Binds K fd ps []
 m:mg x=ih (.ref f)
section
variable{k:Nat}{p:Z3}{t:TA}
theorem a9(C:bF X.prog X.w X.K X.mg X.base aG k f fd ps sp x)(d:aZ k X.A)(g:PA X (e::es) t)(h:Gl X x:=by rfl)(a:(x==("__debug__" : Fv))=false:=by decide)(i:U1 (e::es) X.env=(false,eval e X.env)::U1 es X.env:=by rfl)(c:(backTo pos (U1 es X.env)).any (·.1)=false:=by rfl):PE X (.Call (.Name x p) (e::es) [] pos) (ur sp [] E0 t):=fM C.G d h C.m C.k C.b .nil cV g a i c
end
end L2
namespace L2
open Spec PyProof.Rows W
def nZ(o:Yy):Option i':=match o.data with|.fields vs=>vs[2]? | _=>none
def Kp(o o':Yy):Prop:=o'.dict=o.dict/\nZ o'=nZ o
def KD{α:Type}:Zh α->Prop
 |.pure _=>True
 |.raise _=>True
 |.unsupported _=>True
 |.finish _=>True
 |.rule _ k=>KD (k ())
 |.at _ k=>KD (k ())
 |.load _ _ k=>∀o,KD (k o)
 |.update _ _ f k=>(∀o,Kp o (f o))/\KD (k ())
 |.alloc _ k=>∀a,KD (k a)
 |.loadIfAlive _ k=>∀o,KD (k o)
 |.point _ k=>KD (k ())
 |.register _ _=>False
 |.fresh k=>∀t,KD (k t)
 |.ask k=>∀x,KD (k x)
 |.choose _ _ k=>∀n,KD (k n)
 |.os _ _ k=>∀r,KD (k r)
 |.call _ _ _ _ _=>False
 |.handled _ k=>∀v,KD (k v)
 |.newGen _ k=>∀n,KD (k n)
 |.genState _ k=>∀x,KD (k x)
 |.resume _ _ _ _=>False
 |.yield _ _ _ _=>False
 |.stack k=>∀l,KD (k l)
 |.fork _ _=>False
 |.thread k=>∀n,KD (k n)
 |.await _ _ _ _ _=>False
def RD(h h':X8):Prop:= ∀(a:EZ) (o:Yy),h.objs[a]?=ih o ->∃o',h'.objs[a]?=ih o'/\Kp o o'
theorem RD.refl(h:X8):RD h h:=λa o e=>⟨o,e,rfl,rfl⟩
theorem RD.trans{h1 h2 c:X8}(a:RD h1 h2)(b:RD h2 c):RD h1 c:=λx o e=>by
 obtain⟨g,e1,d⟩:=a x o e;obtain⟨h,e2,f⟩:=b x g e1;exact⟨h,e2,f.1.trans d.1,f.2.trans d.2⟩
theorem RD.push(r:RD h0 h)(o:Yy):RD h0 (h.push o):=r.trans λx u e=>⟨u,by
 obtain⟨a,l⟩:=h;show(a.push o)[x]?=ih u;have b:x<a.size:=(wg.mp e).1;rw[Array.getElem?_push,ao (bK b)];exact e,rfl,rfl⟩
theorem RD.update(r:RD h0 h){f:Yy->Yy}(g:∀o,Kp o (f o)):RD h0 (h.update a f):=r.trans λx u e=>by
 obtain⟨b,l⟩:=h;show ∃o',(b.modify a f)[x]?=ih o'/\_;rw[Array.getElem?_modify];have d:b[x]?=ih u:=e
 by_cases c:a=x
 ·rw[aE c,d];exact⟨f u,rfl,g u⟩
 ·rw[ao c];exact⟨u,d,rfl,rfl⟩
theorem RD.dict(r:RD h h'){o':Yy}(e:h.get? a=ih o)(c:h'.get? a=ih o'):Kp o o':=by
 have b:∀{g:X8}{u:Yy},g.get? a=ih u->g.objs[a]?=ih u:=λ{g u} q=>by
  unfold ab5 at q;split at q
  ·cases q
  ·exact q
 obtain⟨f,e2,d⟩:=r a o (b e);rw[b c]at e2;cases e2
 exact d
theorem MP{α:Type}{M:ZE}{Γ:PySem.Ctx}:∀{t:Zh α}{Q:α->Z3->Ux->Prop}{E:i'->Z3->Ux->Prop}{p:Z3}{s:Ux},KD t->RD h0 s.heap->Sem.wp M Γ t Q E p s ->
  Sem.wp M Γ t (λv p s'=>Q v p s'/\RD h0 s'.heap) (λv p s'=>E v p s'/\RD h0 s'.heap) p s:=by
 intro t
 induction t with
 |pure a=>intro Q E p s _ r h;exact⟨h,r⟩
 |raise e=>intro Q E p s _ r h;exact⟨h,r⟩
 |unsupported w=>intro Q E p s _ r h;exact h
 |finish e=>intro Q E p s _ r h;exact h
 |rule t k d=>intro Q E p s kd r h;exact d () kd r h
 |«at» q k d=>intro Q E p s kd r h;exact d () kd r h
 |load a q k d=>intro Q E p s kd r h;obtain⟨o,e,h⟩:=h;exact⟨o,e,d o (kd o) r h⟩
 |update a q f k d=>intro Q E p s kd r h;exact⟨h.1,d () kd.2 (r.update kd.1) h.2⟩
 |alloc o k d=>intro Q E p s kd r h;exact d _ (kd _) (r.push o) h
 |loadIfAlive a k d=>intro Q E p s kd r h;exact d _ (kd _) r h
 |point l k d=>intro Q E p s kd r h;exact d () kd r h
 |register a k d=>intro Q E p s kd r h;exact h
 |fresh k d=>intro Q E p s kd r h;exact d _ (kd _) r h
 |ask k d=>intro Q E p s kd r h;exact d _ (kd _) r h
 |choose i n k d=>intro Q E p s kd r h;exact⟨h.1,d _ (kd _) r h.2⟩
 |os q l k d=>intro Q E p s kd r h;exact d _ (kd _) r h
 |call c j g l k d=>intro Q E p s kd r h;exact Vd kd
 |handled own k d=>intro Q E p s kd r h;exact d _ (kd _) r h
 |newGen c k d=>intro Q E p s kd r h;exact d _ (kd _) r h
 |genState g k d=>intro Q E p s kd r h;obtain⟨st,e,h⟩:=h;exact⟨st,e,d _ (kd _) r h⟩
 |resume g rs l k d=>intro Q E p s kd r h;exact Vd kd
 |yield v g l k d=>intro Q E p s kd r h;exact Vd kd
 |stack k d=>intro Q E p s kd r h;exact d _ (kd _) r h
 |fork c k d=>intro Q E p s kd r h;exact Vd kd
 |thread k d=>intro Q E p s kd r h;exact d _ (kd _) r h
 |await a t b l k d=>intro Q E p s kd r h;exact Vd kd
theorem LU{α:Type}{M:ZE}{t:Zh α}{Q:α->Ux->Prop}(k:KD t)(h:Uz M A t Q E s) :
  Uz M A t (λv s'=>Q v s'/\RD s.heap s'.heap) (λv s'=>E v s'/\RD s.heap s'.heap) s:=λΓ p hi=>MP k (RD.refl _) (h Γ p hi)
theorem KD.bind{α β:Type}{f:α->Zh β}(h:∀x,KD (f x)):∀{t:Zh α},KD t->KD (t.bind f):=by
 intro t
 induction t with
 |pure a=>intro _;exact h a
 |raise e=>intro _;trivial
 |unsupported w=>intro _;trivial
 |finish e=>intro _;trivial
 |rule t k d=>intro kd;exact d () kd
 |«at» q k d=>intro kd;exact d () kd
 |load a q k d=>intro kd o;exact d o (kd o)
 |update a q g k d=>intro kd;exact⟨kd.1,d () kd.2⟩
 |alloc o k d=>intro kd a;exact d a (kd a)
 |loadIfAlive a k d=>intro kd o;exact d o (kd o)
 |point l k d=>intro kd;exact d () kd
 |register a k d=>intro kd;exact Vd kd
 |fresh k d=>intro kd o;exact d o (kd o)
 |ask k d=>intro kd o;exact d o (kd o)
 |choose i n k d=>intro kd o;exact d o (kd o)
 |os q l k d=>intro kd o;exact d o (kd o)
 |call c j g l k d=>intro kd;exact Vd kd
 |handled own k d=>intro kd o;exact d o (kd o)
 |newGen c k d=>intro kd o;exact d o (kd o)
 |genState g k d=>intro kd o;exact d o (kd o)
 |resume g rs l k d=>intro kd;exact Vd kd
 |yield v g l k d=>intro kd;exact Vd kd
 |stack k d=>intro kd o;exact d o (kd o)
 |fork c k d=>intro kd;exact Vd kd
 |thread k d=>intro kd o;exact d o (kd o)
 |await a t b l k d=>intro kd;exact Vd kd
theorem KD.cy{α β:Type}{t:Zh α}{f:α->Zh β}(h:KD t)(a:∀x,KD (f x)):KD (t >>= f):=KD.bind a h
theorem KD.pure{α:Type}{x:α}:KD (Pure.pure x:Zh α):=Vu
theorem KD.iz{α:Type}{w:String}:KD (PySem.unsupported w:Zh α):=Vu
theorem sQ:KD PySem.stack:=λ_=>Vu
theorem tH:KD (PySem.load a):=λ_=>Vu
theorem A3{f:Yy->Yy}(h:∀o,Kp o (f o)):KD (PySem.update a f):=⟨h,Vu⟩
theorem GH{v:i'}:KD (fieldsOf v):=by
 unfold fieldsOf;split
 ·refine KD.cy tH λo=>?_
  split
  ·exact KD.pure
  ·exact KD.iz
 ·exact KD.iz
theorem px{v:i'}:KD (field v i):=by
 unfold field;refine KD.cy GH λo=>?_;split
 ·exact KD.pure
 ·exact KD.iz
theorem F6{x:i'}(hi:i≠2):∀o:Yy,Kp o (ZJ (·.setIfInBounds i x) o):=λ⟨c,d,a,s⟩=>by
 cases a <;> first|exact⟨rfl,rfl⟩|exact⟨rfl,Array.getElem?_setIfInBounds_ne hi⟩
theorem m2{v x:i'}(hi:i≠2:=by decide):KD (setField v i x):=by
 unfold setField;split
 ·unfold updateField
  refine KD.cy tH λo=>?_;split
  ·split
   ·exact A3 (F6 hi)
   ·exact KD.iz
  ·exact KD.iz
 ·exact KD.iz
theorem r6{ty:String}{vs:ac i'}:KD (newFields ty vs):=by
 unfold newFields newObj
 dsimp only
 split
 ·exact KD.iz
 ·show KD (newObjAsIs _ _ _)
  unfold newObjAsIs;exact KD.cy (λ_=>Vu) λ_=>KD.pure
theorem GJ{b:Bool}{l:ac Zs}:KD (keptBack env b l):=by
 unfold keptBack;split
 ·split
  ·exact KD.pure
  ·unfold underTheClaimsCaller
   exact KD.cy (KD.cy sQ λ_=>KD.pure) λ_=>by split <;> exact KD.pure
 ·exact KD.pure
theorem Ie{l:ac Zs}:KD (behindIsImport env l):=by
 unfold behindIsImport;split
 ·exact KD.pure
 ·split
  ·exact KD.pure
  ·exact KD.cy px λ_=>KD.pure
theorem BK:∀l:ac Zs,KD (readyFrames l)
 |[]=>by unfold readyFrames;exact KD.pure
 |env::outer=>by
  unfold readyFrames;split
  ·refine KD.cy tH λo=>?_
   split
   ·exact KD.pure
   ·exact KD.cy Ie λ_=>KD.cy GJ λ_=>KD.cy (A3 λ_=>⟨rfl,rfl⟩) λ_=>BK outer
  ·exact KD.iz
theorem sh:KD (ZC env):=by
 unfold ZC;refine KD.cy ?_ λl=>KD.cy ?_ λr=>?_
 ·unfold frameEnvs
  exact KD.cy sQ λ_=>KD.pure
 ·unfold frameObject
  split
  ·exact KD.pure
  ·exact KD.cy (BK _) λ_=>KD.pure
 ·split
  ·exact KD.pure
  ·exact KD.iz
theorem sR{b:Bool}:KD (entryPlaceOf f b):=by
 unfold entryPlaceOf;refine KD.cy sQ λl=>?_;split
 ·exact KD.pure
 ·exact KD.pure
theorem Cy{e:i'}:KD (noteFrame e env):=by
 unfold noteFrame;split
 ·refine KD.cy px λa=>?_
  have c:∀f b,KD (setField e 1 =<< (do acu a (<- ZC env) .none (rawInt f) .none (<- entryPlaceOf f b))):=λf b=>KD.cy (KD.cy sh λ_=>KD.cy sR λ_=>r6) λ_=>m2;split
  ·refine KD.cy px λx=>?_
   split
   ·exact KD.pure
   ·exact KD.cy m2 λ_=>KD.cy sh λ_=>KD.cy sR λ_=>KD.cy r6 λ_=>m2
  ·exact KD.cy sh λ_=>KD.cy sR λ_=>KD.cy r6 λ_=>m2
 ·exact KD.iz
theorem r7{e:i'}{f:ad EZ}:KD (setFlight e f):=by
 unfold setFlight;refine KD.cy px λtb=>?_;split
 ·exact m2
 ·exact KD.pure
theorem Ap{e:i'}:KD (leaving env e):=by
 unfold leaving;exact KD.cy Cy λ_=>r7
def gU(n:Option i')(C:EZ)(dx:Option EZ)(a:EZ):HO:=.ext λh=>∃ox vs,h.get? a=ih ox/\ox.cls=.ref C/\ox.dict=dx/\ox.data=.fields vs/\(∀y,n=ih y->vs[2]?=ih y)
section
variable{n:ad i'}
theorem Kt{vs:Array i'}(e:h.get? a=ih ox)(c:ox.cls=.ref C)(d:ox.dict=dx)(f:ox.data=.fields vs)(z:∀y,n=ih y->vs[2]?=ih y):bC P w H h a (gU n C dx a):=
 ⟨⟨ox,vs,e,c,d,f,z⟩,⟨_,e⟩,λ_ _ ⟨ox,vs,q,r⟩ k=>⟨ox,vs,k _ q,r⟩⟩
theorem Ku{B:X8}{l:ac Zs}{a0:i'}(f:Yx B l a (.ref C) a0 h)(r:∃ox,h.get? a=ih ox/\ox.dict=dx/\(∀y,n=ih y->nZ ox=ih y)):bC P w H h a (gU n C dx a):=by
 obtain⟨_,_,_,i,vs,_,_,_,b,g,c,_⟩:=f;obtain⟨ox,e,d,z⟩:=r;rw[b]at e;cases e;exact Kt b g.1 d c λy=>by have:=z y;unfold nZ at this;rw[c]at this;exact this
theorem Cz(ok:cm P w H h)(n:H a=none)(o:bC P w (upd H a O) h a O):cm P w (upd H a O) h:=λb u e=>by
 by_cases c:b=a
 ·subst c
  rw[af]at e;cases e;exact o
 ·rw[ag c]at e
  exact(ok b u e).et (λ_ _ _ q=>q) (λx q=>by rw[ag (ax q n)];exact q) λx xs q=>by rw[ag (ax q n)];exact q
theorem Un.add{fs ex:ac EZ}(u:Un fs ex H H' h h')(c:H' a=none)(n:h.get? a=none):Un fs ex H (upd H' a O) h h':=
 ⟨u.keep,u.slot,λb o e q x=>by
  have:b≠a:=by rintro rfl;rw[n]at e;cases e
  rw[ag this];exact u.free b o e q x,u.there,λb xs e=>by
  have q:=u.gg b xs e;rw[ag (ax q c)];exact q,λb o v e=>by
  have q:=u.gC b o v e;rw[ag (ax q c)];exact q,λb ps e=>by
  obtain⟨m,q⟩:=u.gR b ps e;exact⟨m,by rw[ag (ax q c)];exact q⟩⟩
theorem Jd:upd (hK H a) a O=upd H a O:=by
 funext b;unfold upd
 by_cases c:b=a
 ·rw[aE c,aE c]
 ·rw[ao c,ao c,lR c]
end
section
variable{fs:ac (Fv×V)}{f:Fv}{n:ad i'}
theorem Ig{b:Bool}(I:Inv X J σ H s)(e:H a=ih (gU n C (ih d) a))(m:H d=ih (e7 d fs))(c:eQ X.K C)(no:Yf X.K (.ref C) f=ih none)(l:fs.lookup f=ih v)
  (h:∀u s',Inv X J σ H s'->RelV v u->Q u s'):Uz X.c2 A (getAttr (.ref a) f b) Q E s:=by
 obtain⟨ox,vs,j,o,p,q,_⟩:=(I.aH a _ e).1;obtain⟨_,mA,t,r,_⟩:=I.tE m;obtain⟨od,k,look⟩:=o5 t;have g:=r f;rw[l]at g;obtain⟨u,w,i⟩:=er.some_of g;have x:InstAt s.heap a ox C (ih od):=⟨j,o,by unfold notCls;rw[q],by rw[p];exact k⟩
 exact Kh I.bS x c (findObj_own c.hd no rfl (by rw[look,w])) (AO i) (h u _ (I.tok _) i)
end
section
variable{f:Fv}
def MQ(X:Cx)(ta:TE)(f:Fv):TE:=λσ H Q=>ta σ H λx Y=>∃a n C d fs v,x=.ref a/\Y a=ih (gU n C (ih d) a)/\Y d=ih (e7 d fs)/\eQ X.K C/\Yf X.K (.ref C) f=ih none/\fs.lookup f=ih v/\Q v Y
theorem CA(b:PE X e ta)(g:attributeBase e f X.env (eval e X.env)=eval e X.env:=by rfl):PE X (.Attribute e f pos) (MQ X ta f):=by
 intro J s σ H Q I h;refine Cn g (aF (b J s σ H _ I h) λu s1 t=>?_);obtain⟨x,Y,i,j,a,_,C,d,fs,v,ex,k,m,c,n,l,q⟩:=t;subst ex;obtain rfl:u=UR a:=j;exact Ig i k m c n l λr s2 o p=>⟨v,Y,o,p,q⟩
end
theorem GL{D:Ends}{R:EZ->EZ->Option EZ->Hp->Prop}(I:Inv X J σ H s)(o:X.calm=true)(p:PE X e te)
  (h:te σ H λv Y=>∃a C dx i,v=.ref a/\Y a=ih (cE C dx a)/\(∀d,dx=ih d ->∃fs,Y d=ih (e7 d fs))/\eQ X.K C/\fV X.K C i=true/\R a C dx Y)
  (j:∀a C dx Y s1,Inv X J σ Y s1->Y a=ih (cE C dx a)->R a C dx Y->X.xe (.ref a) s1) :
  wA X (exec (.Raise (ih e) none pos) X.env) (SP X J D) X.xe s:=by
 rw[arm_exec_Raise];refine ae (je (show Uz _ _ (raiseStmt X.env (ih (do let v <- eval e X.env;standAt pos;pure v)) none) _ _ _ from ?_));unfold raiseStmt;refine ae (ae (aF (p J s σ H _ I h) λu s1 aa=>?_));obtain⟨v,Y,b,r,a,C,dx,i,w,f,y,c,q,l⟩:=aa;refine ae (je (ak ?_));subst w;obtain rfl:u=.ref a:=r;obtain⟨ox,od,t,inst,rfl⟩:=b.Km f y;have g:aad X.c2 s1.heap (isType (.ref a)) false:=λF G L s' k z=>by
  simp only[isType,loadHead];exact ae (vT (k _ _ inst.at_) (ak z))
 have m:aad X.c2 s1.heap (isInstance (.ref a) (.type "BaseException")) true:=inst.type.andThen (v8 b.bS c.be);obtain⟨M,N,O,qn,bs,B,P,sub,Q,E,S,T,U,V,W,Z,mN,A,_⟩:=(o8 b.bS q).ex;have n:s1.TypeIs (.ref C) "type" :=⟨_,A,rfl⟩;refine ae (ak (ae (eh ?_)));unfold excFromValue isExcClass;refine ae (ae (g.here (ak ?_)));refine ae (m.here (ak ?_));refine ae (g.here ?_);unfold raisedInstance;refine ae (ae (inst.type.here (ae (jj n ?_))));rw[aE (show(Ye "type" == Ye "type")=true from by decide)]
 refine ak ?_;unfold setFlight raiseNew;refine ae (ae (lp inst.at_ rfl (x:=.none) rfl ?_));rw[ao (show ¬ ((VB != VB)=true) from by decide)]
 refine ak (ae (wpAny_handled_none (b.ok.hd o) ?_))
 first
  |exact wz (j a C dx Y s1 b f l)
  |exact ae (ak (wz (j a C dx Y s1 b f l)))
def cL(P:Yc)(w:Yi):gG:=λouter H s E e s'=>∃(a:EZ) (n:Option i') (C:EZ) (a0:i') (dx:Option EZ) (H':Hp) (B:X8),e=.ref a/\s'.os=s.os/\Y6 s'.gens/\Yx B outer a (.ref C) a0 s'.heap /\
 (∃ox,s'.heap.get? a=ih ox/\ox.dict=dx/\(∀y,n=ih y->nZ ox=ih y))/\(∀h',B.StaysIn h'->s'.heap.UpToSlots h'->Un (ea outer) [] H H' s.heap h'/\cm P w H' h')/\H' a=none/\s.heap.get? a=none/\E (.ref C) (ih a) (upd H' a (gU n C dx a))
theorem nG{α:Type}{M:ZE}{t:Zh α}{Q a:α->Ux->Prop}(k:KD t)(h:Uz M A t Q E s)(q:∀v s',Q v s'->RD s.heap s'.heap->a v s'):Uz M A t a E s:=
 hY (LU k h) (λv s' z=>q v s' z.1 z.2) λ_ _ z=>z.1
section
variable{E:XK}
def Kv(K:Ym)(H0:Hp)(E:XK)(te:TE):TS:=λ_ σ H=>te σ H λv Y=>∃a C dx i,v=.ref a/\Y a=ih (cE C dx a)/\(∀d,dx=ih d ->∃fs,Y d=ih (e7 d fs))/\eQ K C/\fV K C i=true/\H0 a=none/\E (.ref C) (ih a) (upd Y a (gU (ih .none) C dx a))
theorem A4(n:PE (d2 (cL P w) P w K mg base N qual scope f cd A outer s H E) e te) :
  PS (d2 (cL P w) P w K mg base N qual scope f cd A outer s H E) (.Raise (ih e) none pos) (Kv K H E te):=by
 intro J s1 σ Y D I h;refine GL (R:=λa C dx H2=>H a=none/\E (.ref C) (ih a) (upd H2 a (gU (ih .none) C dx a))) I rfl n h λa C dx H2 s2 c i ⟨h0,p⟩=>?_;have fr:s2.heap.FunFrames base (envOfC qual scope s.ai f cd::outer):=c.stack;have all:∀env∈(envOfC qual scope s.ai f cd::outer),∀b,env.frame=ih b->b∈a::ea (envOfC qual scope s.ai f cd::outer):=λenv m b r=>ba _ (oG.mpr ⟨env,m,r⟩);obtain⟨t,d⟩:=c.excAt i;have new:s.heap.get? a=none:=by
  have u:Un (ea outer) [] H H2 s.heap s2.heap:=c.base;cases q:s.heap.get? a with
  |none=>rfl
  |some o =>
   have:=u.free a o q h0 (by simp)
   rw[i]at this;cases this
 show Uz (UO P w) _ (leaving _ (.ref a)) _ _ _;refine nG Ap (wpAny_leaving_firstW (Q:=λ_ s'=>∃h',s'={ s2 with heap:=h' }/\Heap.LeftW (hideAll s2.heap (a::ea (envOfC qual scope s.ai f cd::outer))) (envOfC qual scope s.ai f cd::outer) a (.ref C) (.ref t) s2.heap h') (base:=hideAll s2.heap (a::ea (envOfC qual scope s.ai f cd::outer))) (L:=s.ai) (a0:=.ref t) c.ok.frames (funFrames_hide fr all) rfl d (λb o q=>of_hideAll _ q) (hideAll_none _ aW) rfl rfl rfl λh' j=>⟨h',rfl,j⟩) λ_ s' ⟨h',es,j⟩ k=>?_;subst es;obtain⟨v,⟨_,_,x⟩,z,B⟩:=j;have l:Yx (hideAll s2.heap (a::ea (envOfC qual scope s.ai f cd::outer))) outer a (.ref C) (.ref t) h':=⟨v,hideAll_none _ aW,x,z⟩;obtain⟨ox,g,_⟩:=l.there;refine⟨a,ih .none,C,.ref t,dx,hK H2 a,hideAll s2.heap (a::ea (envOfC qual scope s.ai f cd::outer)),rfl,c.os,c.bare,l,⟨ox,g,(k.dict d g).1,λy F=>by cases F;exact(k.dict d g).2⟩,λM G up=>?_,by unfold hK;rw[aE rfl],new,by rw[Jd];exact p⟩
 exact c.hidden rfl rfl rfl i h0 G (wB B up)
end
theorem aQ.Pw{k:Nat}(F:aQ K x qual st f fd)(S:bf N ps (aI st))(b:∀vs H Q E,sp vs H Q E->vs.length=ps.length)
  (a:∀(Qa:i') (A:Yk) (outer:ac Zs) (s:Ux) (H:Hp) (vs:ac V) (Q:VK) (E:XK),aZ k (A.deeper (envOfC qual (aI st) s.ai f Qa))->sp vs H Q E ->
   ∃t,dc (d2 (cL P w) P w K mg base N qual (aI st) f Qa A outer s H E) (bE st) t/\t { nx:=λ_ H'=>Q .aK H',rt:=Q } (start N vs) H):aT P w K mg base (cL P w) (k+1) f fd ps sp:=by
 obtain⟨oc,od,kV,Qd,pm,an,Qa,ct,Qm,rfl,lk,c⟩:=F.ex;exact uu lk c S b λA outer s H vs Q E e d=>a Qa A outer s H vs Q E e d
theorem w3{Q:Bool->Ux->Prop}{i:ad i'}{r:Bool}(X:K.In s.heap)(q:fV K B i=true)(k:mroIn K C (.ref B)=ih r)(e:s.heap.get? a=ih ox)(l:ox.cls=.ref C)(h:Q r s) :
  Uz (UO P w) A (excMatches (.ref a) (.ref B)) Q E s:=by
 obtain⟨b,N,p,qn,bs,n,t,sub,u,o,v,x,y,z,D,F,mN,c,_,_,T⟩:=(o8 X q).ex;have L:aad (UO P w) s.heap (isSubtype (.ref C) (.ref B)) r:=v8 X k;obtain⟨G,g,d,tk,os⟩:=s;have m:b.contains (.type "BaseException")=true:=T.hasType (by decide)
 have j:(UR B::b).contains (.type "BaseException")=true:=by rw[List.contains_cons,m,Bool.or_true]
 have f:=tc_notTuple;unfold excMatches
 repeat (first|(with_reducible refine rL e ?_;rw[l])|with_reducible refine rL c ?_|(with_reducible refine wpAny_isSubtype_exc c ?_;rw[j])|(with_reducible refine L.here ?_)|wp_step)
 cases r <;> (wp_walk;exact h)
def Cx.hH(X:Cx)(J:List (EZ×Yy))(E:St->XK):Cx:={ X with pn:=X.pn++J,xe:=λe s'=>∃cF H s1,Inv X J cF H s1/\cL X.prog X.w X.stack H s1 (E cF) e s' }
section
variable{Qq:ac (EZ×Yy)}{E:St->XK}{D:Ends}
theorem Inv.hH(I:Inv X J σ H s):Inv (X.hH J E) [] σ H s:=
 ⟨⟨I.ok.mod,I.ok.kind,I.ok.glob,I.ok.blt,I.ok.above,I.ok.inj,I.ok.has,I.ok.jU,I.ok.hd,I.ok.frames,I.ok.k7,I.ok.i7,I.ok.bs,I.ok.hT,I.ok.jL,I.ok.i3,I.ok.ft,I.ok.iy⟩,I.os,I.bare,I.base,I.loc,I.cell,I.free,I.eP,(λp a=>I.pin p (by rw[eU]at a;exact a)),I.aH,I.len⟩
theorem Inv.kK(ok:X.Ok)(I:Inv (X.hH J E) Qq σ H s):Inv X J σ H s:=
 ⟨ok,I.os,I.bare,I.base,I.loc,I.cell,I.free,I.eP,(λp a=>I.pin p (fA _ a)),I.aH,I.len⟩
theorem Cx.Ok.MR(ok:(X.hH J E).Ok):X.Ok:=⟨ok.mod,ok.kind,ok.glob,ok.blt,ok.above,ok.inj,ok.has,ok.jU,ok.hd,ok.frames,ok.k7,ok.i7,ok.bs,ok.hT,ok.jL,ok.i3,ok.ft,ok.iy⟩
theorem SP.kK{f:Flow}(ok:X.Ok)(h:SP (X.hH J E) Qq D f s):SP X J D f s:=by
 cases f with
 |next=>obtain⟨a,H',I,q⟩:=h;exact⟨a,H',I.kK ok,q⟩
 |brk=>obtain⟨a,H',I,q⟩:=h;exact⟨a,H',I.kK ok,q⟩
 |cont=>obtain⟨a,H',I,q⟩:=h;exact⟨a,H',I.kK ok,q⟩
 |ret u=>obtain⟨v,a,H',I,r,q⟩:=h;exact⟨v,a,H',I.kK ok,r,q⟩
end
section
variable{Qr:ac (EZ×Yy)}{EE:St->XK}{k:Nat}{p:Z3}{t:TA}
def C4(sp:Sp)(EE:St->XK)(t:TA):TE:=λσ H Q=>t σ H λvs Y=>sp vs Y Q (EE σ)
theorem Je(F:aT X.prog X.w X.K X.mg X.base (cL X.prog X.w) k f fd ps sp)(j:aZ k X.A)(l:Gl X x)(m:X.mg x=ih (.ref f))(n:Yr X.K (.ref f)=true)(o:Binds X.K fd ps [])
  (v:PA (X.hH Qr EE) (e::es) t) (d:(x==("__debug__" : Fv))=false:=by decide) (y:U1 (e::es) X.env=(false,eval e X.env)::U1 es X.env:=by rfl) (g:(backTo pos (U1 es X.env)).any (·.1)=false:=by rfl) :
  PE (X.hH Qr EE) (.Call (.Name x p) (e::es) [] pos) (C4 sp EE t):=by
 intro J s σ H Q I h;refine mQ (lW I l m ?_ d);refine callWith_K (h₀:=X.base) I.ok.mod.k6 n (aF (v pos J s σ H _ I h) λus s1 ⟨vs,Y,a,r,q⟩=>⟨a.bS,?_⟩) y g;have z:us.length=ps.length:=by rw[<-r.length];exact F.len _ _ _ _ q
 have c:=o s1 us a.bS (by rw[eU];exact z)
 rw[eU]at c;refine j5 (ll (F.run X.A X.stack s1 Y ⟨us,[]⟩ us vs _ _ j a.qA c r q) λi s2 b=>?_);cases i with
 |ok B =>
  cases B with
  |ret u=>exact a.after b
  |next=>exact Vd b
  |brk=>exact Vd b
  |cont=>exact Vd b
 |error C=>exact⟨σ,Y,s1,a.kK a.ok.MR,b⟩
end
theorem pN{M:ZE}{Q:Unit->Ux->Prop}(I:Inv X J σ H s)(F:X.N.Nodup)(hi:X.N[i]?=ih x)(G:X.env.scope.names.lookup x=ih .local)
  (h:∀s',Inv X J (σ.set i none) H s'->Q () s'):Uz M A (do bindName X.env x .none;unbindBehindTheSuite X.env x pos) Q E s:=by
 obtain⟨m,r,K⟩:=id I.loc;have B:(X.env.scope.kind == .class||(X.env.scope.kind == .module&&X.env.locals != X.env.globals))=false:=by rw[I.ok.kind];rfl
 have hU:=I.hU;refine wpAny_nameGoes_keeps G r B λh' v C a=>?_;obtain⟨V,_,_,U,_⟩:=id r;have u:cm X.prog X.w H h':=λb L e=>by
  refine(I.aH b L e).et (λc t hc q=>(a.2 c ?_).trans q) (λ_ q=>q) λ_ _ q=>q;rintro rfl;rcases hc with rfl|hc
  ·rw[I.free]at e;cases e
  ·rw[I.free]at hc;cases hc
 refine h _ ⟨I.ok,I.os,I.bare,⟨λb o e n g f=>?_,λb o e n g f=>?_,I.base.free,λb o e f=>?_,I.base.gg,I.base.gC,I.base.gR⟩,⟨_,C,λj y O e1 e2 e3=>?_⟩,λy c e=>?_,I.free,I.eP,λp P=>?_,u,by simpa using I.len⟩
 ·exact(a.2 b (bK (eT (bt e) I.ok.above))).trans (I.base.keep b o e n g f)
 ·obtain⟨sl,e1⟩:=I.base.slot b o e n g f
  exact⟨sl,(a.2 b (bK (eT (bt e) I.ok.above))).trans e1⟩
 ·obtain⟨o',e1⟩:=I.base.there b o e f
  exact⟨o',(a.2 b (bK (eT (bt e) I.ok.above))).trans e1⟩
 ·by_cases l:j=i
  ·subst l
   by_cases D:j<σ.length
   ·rw[ER D]at e2;cases e2
   ·rw[rR (by rw[aaB];omega)]at e2;cases e2
  ·rw[ES (aS l)]at e2
   obtain⟨R,S,q⟩:=K j y O e1 e2 e3;refine⟨R,S,?_⟩;rcases q with⟨k,e⟩|⟨k,c,e,z⟩
   ·refine .inl ⟨k,?_⟩
    have:y≠x:=λe=>l (sN F e1 (e ▸ hi));simp[this,e]
   ·exact .inr ⟨k,c,e,z.sameBut a (hU y c e)⟩
 ·obtain⟨t,z⟩:=I.cell y c e
  exact⟨t,z.sameBut a (hU y c e)⟩
 ·obtain⟨e,n,ne,T,d⟩:=I.pin p P
  exact⟨(a.2 p.1 ne).trans e,n,ne,T,d⟩
def Ep(j:Nat)(D:Ends):Ends:={ nx:=λσ H=>D.nx (σ.set j none) H,rt:=D.rt,bk:=λσ H=>D.bk (σ.set j none) H,ct:=λσ H=>D.ct (σ.set j none) H }
section
variable{p5 p6 p7:Z3}{b0 b1:U6}{Qu:ac U6}{tb:Ends->TS}{th:EZ->TS}{ci:ad i'}
def LV(tb:Ends->TS):TS:=λD σ H=>tb D D σ H
end
section
variable{E:XK}
theorem qi:Passes (cL P w) (d2 (cL P w) P w K mg base N qual scope f cd A outer s H E) E:=by
 rintro J σ Y s1 e s2 I ⟨a,n,C,j,dx,H',B,rfl,os,g,m,⟨ox,h,t,v⟩,p,x,new,D⟩;show Uz (UO P w) _ (leaving _ (.ref a)) _ _ _;have r:s1.os=s.os:=I.os;refine nG Ap (wpAny_leaves_onW (Q:=λ_ s'=>∃h',s'={ s2 with heap:=h' }/\Yx B outer a (.ref C) j h'/\s2.heap.UpToSlots h') I.ok.frames rfl m λh' c up=>⟨h',rfl,c,up⟩) λ_ s' ⟨h',es,c,up⟩ k=>?_;subst es;obtain⟨o',d,_⟩:=c.there;refine⟨a,n,C,j,dx,H',B,rfl,os.trans r,g,c,⟨o',d,(k.dict h d).1.trans t,λy F=>(k.dict h d).2.trans (v y F)⟩,λi G L=>?_,x,?_,D⟩
 ·obtain⟨u,ok⟩:=p i G (wB up L)
  have l:=I.qg (s':={ s2 with heap:=i }) os u ok g (λb z=>absurd z (by simp))
  exact⟨l.base,l.aH⟩
 ·cases q:s.heap.get? a with
  |none=>rfl
  |some o =>
   obtain⟨M,e2⟩:=I.base.there a o q (by show a ∉ ([]:ac EZ);simp)
   rw[new]at e2;cases e2
end
end L2
namespace L2
open W
section
variable{f0:EZ}{E:XK}{k:Nat}{p:Z3}{t:TA}
theorem Kw(C:bF P w K mg base (cL P w) k f fd ps sp x)(d:aZ k (d2 (cL P w) P w K mg base N qual scope f0 cd A outer s H E).A)(g:PA (d2 (cL P w) P w K mg base N qual scope f0 cd A outer s H E) (e::es) t)(h:Gl (d2 (cL P w) P w K mg base N qual scope f0 cd A outer s H E) x:=by rfl)(a:(x==("__debug__" : Fv))=false:=by decide)(i:U1 (e::es) (d2 (cL P w) P w K mg base N qual scope f0 cd A outer s H E).env=(false,eval e (d2 (cL P w) P w K mg base N qual scope f0 cd A outer s H E).env)::U1 es (d2 (cL P w) P w K mg base N qual scope f0 cd A outer s H E).env:=by rfl)(c:(backTo pos (U1 es (d2 (cL P w) P w K mg base N qual scope f0 cd A outer s H E).env)).any (·.1)=false:=by rfl):PE (d2 (cL P w) P w K mg base N qual scope f0 cd A outer s H E) (.Call (.Name x p) (e::es) [] pos) (ur sp [] E t):=fM C.G d h C.m C.k C.b .nil qi g a i c
end
section
variable{Qr:ac (EZ×Yy)}{EE:St->XK}{k:Nat}{p:Z3}{t:TA}
theorem Kx(C:bF X.prog X.w X.K X.mg X.base (cL X.prog X.w) k f fd ps sp x)(d:aZ k X.A)(g:PA (X.hH Qr EE) (e::es) t)(h:Gl X x:=by rfl)(a:(x==("__debug__" : Fv))=false:=by decide)(i:U1 (e::es) X.env=(false,eval e X.env)::U1 es X.env:=by rfl)(c:(backTo pos (U1 es X.env)).any (·.1)=false:=by rfl):PE (X.hH Qr EE) (.Call (.Name x p) (e::es) [] pos) (C4 sp EE t):=Je C.G d h C.m C.k C.b g a i c
end
end L2
namespace L2
open Spec PyProof.Rows W HT
theorem f7{t u:TS}{D:Ends}(h:∀U:TS,U=u->let a:=σ;let E:Ends:={ D with nx:=U D };t E a H):qy t u D σ H:=h u rfl
theorem b5{U t u:TS}{D:Ends}{a:VK}{bk ct:St->Hp->Prop}(b:U=qy t u)(h:∀U:TS,U=u->let c:=σ;let E:Ends:={ D with nx:=U D };t E c H):(Ends.mk (U D) a bk ct).nx σ H:=by subst b;exact h u rfl
theorem gi{U t:TS}{D:Ends}{a:VK}{bk ct:St->Hp->Prop}(b:U=t)(h:let c:=σ;t D c H):(Ends.mk (U D) a bk ct).nx σ H:=by subst b;exact h
theorem iO{g:TG}{x:V}{D:Ends}(h:let b:=σ;let E:=D;g x b H λa H2=>tb E a H2):g x σ H λa H2=>tb D a H2:=h
def MS(t:TA):TE:=λσ H Q=>t σ H λxs Y=>xs.length<=UB /\∀p H',aw Y H'->Y p=none->H' p=ih (.tup xs)->Q (.ref p) H'
def Dn(t:TA):TE:=λσ H Q=>t σ H λxs Y=>xs.length<=UB /\∀p H',aw Y H'->Y p=none->H' p=ih (.lst xs)->Q (.ref p) H'
theorem dt{o:HO}(a:H p=none):aw H (upd H p o):=λb u e=>by rw[ag (ax e a)];exact e
section
variable{t:TA}{k:Nat}
theorem fk(h:PA X es t):PE X (.Tuple es k pos) (MS t):=by
 intro J s σ H Q I d;refine wpAny_Tuple_spliced (aF (h pos J s σ H _ I d) λus s1 ⟨xs,Y,a,r,z,q⟩=>⟨by rw[<-r.length];exact z,?_⟩)
 have c:Y s1.ai=none:=a.aH.fresh (aP _);refine⟨.ref s1.ai,upd Y s1.ai (.tup xs),a.laid (t':=s1.toks) (λb u e=>a5 _ e) (aP _) ?_,rfl,q _ _ (dt c) c af⟩;exact⟨z,us,r,⟨_,bU _ rfl,rfl,_,rfl,rfl⟩⟩
theorem jI(h:PA X es t):PE X (.List es pos) (Dn t):=by
 intro J s σ H Q I d;refine wpAny_List_spliced (aF (h pos J s σ H _ I d) λus s1 ⟨xs,Y,a,r,z,q⟩=>⟨by rw[<-r.length];exact z,?_⟩)
 have c:Y s1.ai=none:=a.aH.fresh (aP _);refine⟨.ref s1.ai,upd Y s1.ai (.lst xs),a.laid (t':=s1.toks) (λb u e=>a5 _ e) (aP _) ?_,rfl,q _ _ (dt c) c af⟩;exact⟨z,us,0,r,bU _ rfl⟩
end
theorem aQ.bG{k:Nat}(F:aQ K x qual st f fd)(S:bf N ps (aI st))
  (a:∀(Qa:i') (A:Yk) (outer:ac Zs) (s:Ux) (H:Hp) (vs:ac V) (Q:VK) (E:XK),aZ k (A.deeper (envOfC qual (aI st) s.ai f Qa))->sp vs H Q E ->
   let X:=(d2 aG P w K mg base N qual (aI st) f Qa A outer s H E).k8
   ∃t,dc X (bE st) t/\t { nx:=λ_ H'=>Q .aK H',rt:=Q } (start N vs) H)
  (b:∀vs H Q E,sp vs H Q E->vs.length=ps.length:=by intro _ _ _ _ h;obtain⟨rfl,_⟩:=h;rfl):aT P w K mg base aG (k+1) f fd ps sp:=F.ok S b a
theorem aQ.u2{k:Nat}(F:aQ K x qual st f fd)(S:bf N ps (aI st))
  (a:∀(Qa:i') (A:Yk) (outer:ac Zs) (s:Ux) (H:Hp) (vs:ac V) (Q:VK) (E:XK),aZ k (A.deeper (envOfC qual (aI st) s.ai f Qa))->sp vs H Q E ->
   let X:=d2 (cL P w) P w K mg base N qual (aI st) f Qa A outer s H E
   ∃t,dc X (bE st) t/\t { nx:=λ_ H'=>Q .aK H',rt:=Q } (start N vs) H)
  (b:∀vs H Q E,sp vs H Q E->vs.length=ps.length:=by intro _ _ _ _ h;obtain⟨rfl,_⟩:=h;rfl):aT P w K mg base (cL P w) (k+1) f fd ps sp:=F.Pw S b a
theorem Jf{h0:YU}{a:ac YU}{t:TS}(h:dc X body t)(b:X.xe=λ_ _=>False):PS X (.Try body (h0::a) [] [] pos) t:=by
 intro J s σ H D I c;have d:∀{α:Type}{tt:Zh α}{Q:α->Ux->Prop}{E:i'->Ux->Prop}{s':Ux},wA X tt Q X.xe s'->wA X tt Q E s':=λz=>by rw[b]at z;exact vY z
 refine wpAny_Try_except (aF (d (h J s σ H D I c)) λf s1 z=>?_);cases f with
 |next=>exact oJ z
 |brk=>exact z
 |cont=>exact z
 |ret u=>exact z
theorem A5(t:X.calm=true):cU X (.builtin "any") (λxs H Q=>∃(p:EZ) (bs:ac Bool),xs=[.ref p]/\aj X.K H p (bs.map V.bl)/\Q (.bl (bs.any id)) H):=by
 intro J s σ H xs us Q I r h;obtain⟨p,bs,rfl,g,q⟩:=h;obtain⟨u,rfl,w⟩:=vals1 r;cases w
 obtain⟨its,c,a,x⟩:=I.list g;have k:=c.length;have f:its=bs.map YG:=by
  clear q g a x r k
  induction bs generalizing its with
  |nil=>cases c;rfl
  |cons b bs y =>
   cases c with
   |cons z B=>cases z;rw[y _ B];rfl
 have new:∀b o,s.heap.get? b=ih o->b≠s.ai:=λb o e=>bK (bt e);obtain⟨ol,l,_⟩:=id a.isList;refine call_any_walk (rH a.isList ?_);refine⟨s.ai,_,_,_,_,_,λi=>bs.getD i false,rfl,Z4 (A:=X.A.in1) (I.ok.hd t) s.ai p (new p ol l) its.toArray,⟨⟨_,bU _ rfl,rfl,rfl⟩,a.isList.at λo e=>a5 _ e⟩,λi v s2 D E j m=>?_,λh' tk kp=>?_⟩
 ·rw[f]at j
  have:bs[i]?.map YG=ih v:=by simpa using j
  obtain⟨b,d,rfl⟩:=gu.mp this;refine g6 ?_;have e:bs.getD i false=b:=by rw[gv,d];rfl
  exact e ▸ m
 ·have n:(VD its.toArray.size).any (λi=>bs.getD i false)=bs.any id:=by
   have C:its.toArray.size=bs.length:=by rw[f];simp
   rw[C]
   apply lj.mpr
   simp only[lu,jd]
   constructor
   ·rintro⟨i,hi,e⟩
    exact⟨bs[i],eL hi,by simpa [YX,hi] using e⟩
   ·rintro⟨b,d,e⟩
    obtain⟨i,hi,rfl⟩:=wq d;exact⟨i,hi,by simpa [YX,hi] using e⟩
  rw[n];exact⟨.bl _,H,I.kept (t':=tk) λb o e=>kp b o (by simpa using new b o e) (a5 _ e),rfl,q⟩
def vt(x:Fv):It:=⟨λi _=>i<x.cps.size,λi H v H'=>H'=H /\∃c,x.cps[i]?=ih c/\v=.str ⟨#[c]⟩,λi _=>x.cps.size<=i⟩
theorem BL(it:EZ)(x:Fv)(t:Tok)(T:String)(L : ["enumerate","zip","dict_itemiterator","dict_reverseitemiterator","odict_iterator","itertools.zip_longest","itertools.pairwise"].contains T=false)
  (W:∀F:Yk,F.handled=none->Walks P w F it [it] [it] x.cps.size (SignAt x) (λi h=>h.IsStrIter it T x t i))
  (M:∀(A:Yk) (i:Nat) (s:Ux) (Q:i'->Ux->Prop) (E:i'->Ux->Prop),s.heap.IsStrIter it T x t i->Q (.ref it) s->Uz (UO P w) A (pyIter (.ref it)) Q E s):Turn P w K tg (vt x) [it] it (λi h=>i<=x.cps.size/\h.IsStrIter it T x t i) where
 mem:=by simp
 obj:=λi h st b a=>by
  obtain rfl:b=it:=by simpa using a
  obtain⟨_,o,e,c,d⟩:=st;exact⟨o,e,λv z=>by rw[d]at z;cases z⟩
 keep:=λi h h' st k=>by
  obtain⟨l,o,e,r⟩:=st;exact⟨l,o,k it (by simp) _ e,r⟩
 item:=by
  intro X j m n p i J s σ H E I f st g;subst j m n;obtain⟨f0,q,N,y,B,C⟩:=f it (by simp)
  refine(W X.A (I.ok.hd p)).item i s _ _ g st.2 λv h' tk O D kk=>?_;obtain⟨c,u,G,rfl⟩:=O;have R:Inv X J σ H { s with heap:=h',toks:=tk }:=I.turned (λb o a e=>kk b o (by simpa using a) e) f0 q y B C
  obtain⟨o,e,S,d⟩:=id D;exact⟨_,rfl,nW (s:={ s with heap:=h',toks:=tk }) e S d L ⟨.str ⟨#[c]⟩,H,R,⟨u,rfl⟩,⟨rfl,c,G,rfl⟩,⟨g,D⟩,λb a=>(f b a).1⟩⟩
 done:=by
  intro X j m n p i J s σ H E I f st g;subst j m n;obtain⟨f0,q,N,y,B,C⟩:=f it (by simp)
  have U:i=x.cps.size:=Fp st.1 g;subst U;exact(W X.A (I.ok.hd p)).done s _ _ st.2 λh' tk kk=>⟨rfl,I.turned (λb o a e=>kk b o (by simpa using a) e) f0 q y B C⟩
 self:=λA i s Q E st h=>M A i s Q E st.2 h
def Oy(te:TE):TI:=λσ H R=>te σ H λv Y=>∃x,v=.str x/\R (vt x) Y
theorem LW(g:PE X e te):PI X tg e (Oy te):=by
 intro J s σ H R I h;refine aF (g J s σ H _ I h) λv s1 n=>?_;obtain⟨y,Y,a,i,x,j,q⟩:=n;subst j;obtain⟨t,rfl⟩:=i;have d:∀o:Yy,Inv X J σ Y { s1 with heap:=s1.heap.push o }:=λo=>a.kept (t':=s1.toks) λb m z=>a5 _ z;have fp:∀b ∈ [s1.ai],fu X J Y b:=λb k=>by
  obtain rfl:b=s1.ai:=by simpa using k
  exact a.gT (aP _) (a.aH.fresh (aP _))
 cases f:x.cps.all (· < 128)
 ·refine wpAny_pyIter_wide f ?_
  exact⟨s1.ai,[s1.ai],_,_,Y,rfl,d _,BL s1.ai x t "str_iterator" (by decide) (λl c=>Walks.strWide c _ x t) (λ_ _ _ _ _ st h=>wpAny_pyIter_striter_wide st h),⟨bB _,_,bU _ rfl,rfl,rfl⟩,fp,q⟩
 ·refine wpAny_pyIter_ascii f ?_
  exact⟨s1.ai,[s1.ai],_,_,Y,rfl,d _,BL s1.ai x t "str_ascii_iterator" (by decide) (λl c=>Walks.strAscii c _ x t) (λ_ _ _ _ _ st h=>wpAny_pyIter_striter_ascii st h),⟨bB _,_,bU _ rfl,rfl,rfl⟩,fp,q⟩
theorem Jg{g:TG}{Q:VK}(Pv:Nat->List V->St->Hp->Prop)(h0:Pv 0 [] fz (upd Y p (.lst [])))(l:∀i ys a H,Pv i ys a H->H p=bd ys)
  (n:∀i c ys a H,x.cps[i]?=ih c->Pv i ys a H->g (.str ⟨#[c]⟩) a H λf o=>ti f o λb h=>if b=true then te f h λy j=>j p=bd ys/\ys.length<UB /\∃d,d<x.cps.size - i/\CW Pv x.cps.size (i+1) d (ys++[y]) f (upd j p (.lst (ys++[y]))) else ∃d,d<x.cps.size - i/\CW Pv x.cps.size (i+1) d ys f h)
  (q:∀ys a H,Pv x.cps.size ys a H->Q (.ref p) H):hJ (vt x) g ti te fz Q p Y:=by
 refine⟨CW Pv x.cps.size,⟨x.cps.size,by simp,bB _,h0⟩,?_⟩
 rintro i m ys a H ⟨rfl,hi,pv⟩;refine⟨l i ys a H pv,?_⟩
 by_cases k:i<x.cps.size
 ·refine .inr ⟨k,λv t r=>?_⟩
  obtain⟨e3,c,s,rfl⟩:=r;subst e3;exact n i c ys a _ s pv
 ·have e:i=x.cps.size:=by omega
  subst e;exact .inl ⟨aP _,q ys a H pv⟩
end L2
namespace HT
open PyProof.Rows W L2
theorem F7(a:EZ)(vs:Array i')(n:Nat)(u:Tok)(sl:Array (Option i')) :
  Meets (Ya.«object.__getattribute__» ⟨[.ref a,.str "keys" u],[]⟩) (λA R s=>s.heap.get? a=ih { cls:=.type "tuple",dict:=none,data:=.seq vs n,slots:=sl }/\raisesAttr (.ref a) "keys" A R s):=
 meets_getattribute_miss_tuple a vs n sl "keys" u (by rw[Fq,Fs];kernel_rfl) (by decide +kernel) (by rw[aV];decide +kernel)
theorem Jh{vs:Array i'}{n:Nat}{sl:Array (Option i')}{Q:ad i'->Ux->Prop}(i:s.heap.get? a=ih { cls:=.type "tuple",dict:=none,data:=.seq vs n,slots:=sl })(k:A.handled=none)
  (h:∀h' tk,(∀b o,s.heap.get? b=ih o->h'.get? b=ih o)->Q none { s with heap:=h',toks:=tk }):Uz (UO prog w) A (getAttr? (.ref a) "keys") Q E s:=by
 obtain⟨l,g,d,tk,os⟩:=s;have j:∀c,(⟨l,g,d,c,os⟩:Ux).TypeIs (.ref a) "tuple" :=λ_=>⟨_,i,rfl⟩;have m:=sub_AttributeError;have p:=Ft.lookup;have q:=Ft.bind (.ref a);have r:=am_tuple_getattr_none;unfold getAttr? getAttrBy? getAttrBy
 repeat (any_goals (first|assumption|exact j _|((with_reducible show Uz _ _ (call (YJ "tuple.__getattribute__") _ _) _ _ _);refine j8 Ft (j _) am_entry_tuple_getattribute (F.args_tuple_getattribute_2 _ _) (F7 a vs n _ sl) ⟨i,k,λh' c e f=>?_⟩)|wp_step))
 obtain⟨t',t,u⟩:=f.there;show Uz _ _ (getattributeRaised _ _ _ _ _ _ _) _ _ _;unfold getattributeRaised
 repeat (any_goals (first|assumption|wp_step))
 exact h h' c f.keeps
section
variable{R:Y7->Ux->Prop}{t:EZ}{vs:Array i'}
theorem Ji{Q:Unit->Ux->Prop}{T:EZ}{x y:i'}{k:Key}{kvs:ac (Key×i')}{i:Int}(a:Yv s.heap T #[x,y])(g:(cj prog w).is k x=true)(h:s.heap.DictOf (cj prog w) d kvs)(new:k ∉ kvs.map (·.1))(hz:kvs.length<=UB)
  (q:∀h' tk,h'.DictOf (cj prog w) d (kvs++[(k,y)])->X7 d s.heap h'->Q () { s with heap:=h',toks:=tk }) :
  Uz (UO prog w) A (holding [UR T] (do
   let c <- (Zw (.ref T)).tryCatch λe=>do
    if !(<- isInstance e (.type "TypeError")) then throw e
    rule "dict.update.element-no-sequence"
    raiseError "TypeError" s!"cannot convert dictionary update sequence element #{i} to a sequence"
   match c with
   |[k,v]=>holding [k,v] (dictSet d k v)
   |l =>
    rule "dict.update.element-length"
    raiseError "ValueError" s!"dictionary update sequence element #{i} has length {l.length}; 2 is required")) Q E s:=by
 refine eh (ae (wpAny_tryCatch ?_));unfold Zw;refine ae (jj a.typeIs ?_);rw[aE (by decide)]
 obtain⟨o,j,_,n,f⟩:=a;refine ae (wpAny_seqItems j f (ak ?_));show Uz _ _ (holding [x,y] (dictSet d x y)) _ _ _;refine eh (wpAny_dictSet_pairs (hsz:=hz) g h λh' b m=>?_);rw[stored_new new]at b;exact q h' _ b m
theorem Ky(S:A.in1.handled=none)(l:d≠it)(y:d≠t)(z:t≠it)(ps:ac (Key×i'))(D:(ps.map (·.1)).Nodup)(hz:ps.length<=UB)(hsz:vs.size=ps.length)(E:Yv g t vs)
  (L:∀(i:Nat) p,ps[i]?=ih p ->∃a x,vs[i]?=ih (.ref a)/\a≠it/\a≠d/\Yv g a #[x,p.2]/\(cj prog w).is p.1 x=true) :
  ∀(m k:Nat) (s:Ux),ps.length - k=m->k<=ps.length->IsTupIter s.heap it t k->s.heap.DictOf (cj prog w) d (ps.take k) ->
   (∀b o,b≠it->b≠d->g.get? b=ih o->s.heap.get? b=ih o) ->
   (∀h' tk,h'.DictOf (cj prog w) d ps->(∀b o,b≠it->b≠d->g.get? b=ih o->h'.get? b=ih o)->R (.ok (.ret .none)) { s with heap:=h',toks:=tk }) ->
   codeAny (UO prog w) A (.builtin "dict.update.loop" ⟨[.ref d,.ref it,rawInt k,.none],[]⟩) R s:=by
 have up:∀{b:EZ}{us:Array i'}{h:X8},b≠it->b≠d->(∀b o,b≠it->b≠d->g.get? b=ih o->h.get? b=ih o)->Yv g b us->Yv h b us:=λn1 T kp ⟨o,U,r⟩=>⟨o,kp _ _ n1 T U,r⟩;intro m
 induction m with
 |zero =>
  intro k s V W q u kp v;have X:k=ps.length:=by omega
  refine h3 A2 (?_:Uz _ _ _ _ _ _);rw[iE pe _];show Uz _ A.in1 (pyNext (.ref it) >>= _) _ _ s;refine ae (next_tuple_end S q (up z y.symm kp E) (by simp;omega) λh' F=>?_)
  refine ae (m:=abZ d []) (ak (ak ?_));have j:h'.DictOf (cj prog w) d (ps.take k):=u.at λo e=>F d o l e;rw[X,cz]at j;exact v h' s.toks j λb o c f e=>F b o c (kp b o c f e)
 |succ m Y =>
  intro k s V W q u kp v;have n:k<ps.length:=by omega
  have G:ps[k]?=ih ps[k]:=bw n;obtain⟨a,x,M,N,O,I,J⟩:=L k _ G;have P:ps.take (k+1)=ps.take k++[ps[k]]:=by rw[dH,G];rfl
  have new:ps[k].1 ∉ (ps.take k).map (·.1):=λw=>by
   have e:ps.map (·.1)=(ps.take k).map (·.1)++(ps.drop k).map (·.1):=by rw[<-a8,wC]
   rw[e,di]at D;refine D.2.2 _ w _ ?_ rfl;rw[lr n];exact aW
  refine h3 A2 (?_:Uz _ _ _ _ _ _);rw[iE pe _];show Uz _ A.in1 (pyNext (.ref it) >>= _) _ _ s;refine ae (next_tuple_item q (up z y.symm kp E) M λh' Q H=>?_);have B:∀b o,b≠it->b≠d->g.get? b=ih o->h'.get? b=ih o:=λb o c f e=>H.extBut b o c (kp b o c f e);have j:h'.DictOf (cj prog w) d (ps.take k):=u.at λo e=>H.extBut d o l e;refine ae (Ji (s:={ s with heap:=h' }) (k:=ps[k].1) (up N O B I) J j new (by rw[cH];omega) λZ tk K C=>?_)
  rw[show((k:Int)+1)=((k+1:Nat):Int) from rfl];exact ak ⟨jn pe _,Y (k+1) _ (by omega) n (Q.extBut C.extBut l.symm) (by rw[P];exact K) (λb o c f e=>C.extBut b o f (B b o c f e)) v⟩
theorem Gd(y:A.handled=none)(ps:ac (Key×i'))(G:(ps.map (·.1)).Nodup)(hz:ps.length<=UB)(hsz:vs.size=ps.length){n:Nat}{sl:Array (Option i')}
  (h:s.heap.get? t=ih { cls:=.type "tuple",dict:=none,data:=.seq vs n,slots:=sl })
  (z:∀(i:Nat) p,ps[i]?=ih p ->∃a x,vs[i]?=ih (.ref a)/\Yv s.heap a #[x,p.2]/\(cj prog w).is p.1 x=true)
  (q:∀d h' tk,s.ai<=d->h'.DictOf (cj prog w) d ps->(∀b o,s.heap.get? b=ih o->h'.get? b=ih o)->Q (.ref d) { s with heap:=h',toks:=tk }) :
  Uz (UO prog w) A (call (.type "dict") [.ref t]) Q E s:=by
 refine callType_codes (Q₁:=λu r=>u=.ref s.ai/\r={ s with heap:=s.heap.push { cls:=.type "dict",data:=.dict #[] } }) F.kt_called_dict (F.kt_typeCall_dict_1 _) F.entry_dict_init (kt_code_dict_new _ ⟨rfl,rfl⟩) ?_;rintro u r ⟨rfl,rfl⟩;have dn:(s.heap.push { cls:=.type "dict",data:=.dict #[] }).DictOf (cj prog w) s.ai []:=ZP s.heap;have l:∀b o,s.heap.get? b=ih o->(s.heap.push { cls:=.type "dict",data:=.dict #[] }).get? b=ih o:=λb o e=>a5 _ e;generalize s.heap.push { cls:=.type "dict",data:=.dict #[] }=h2 at dn l⊢;refine⟨dn.typeIs,F.args_dict_init_2 _ _,?_⟩;unfold Ya.«dict.__init__»;refine ae ?_;unfold abX;refine ae (wpAny_notOrdered_dict dn.typeIs ?_);refine(ak ?_:Uz _ _ (pure (s.ai,[UR t])) _ _ _);show Uz _ _ (Zv "dict.__init__" s.ai (.ref t) [] .none) _ _ _;unfold Zv;have m:=l _ _ h;refine ae (jj (T:= "tuple") ⟨_,m,rfl⟩ ?_);rw[aE (by decide)]
 refine ae (Jh m y λc J j=>?_);rw[aE (by decide)]
 have B:Yv c t vs:=⟨_,j _ _ m,rfl,n,rfl⟩;refine ae (jf (ae (iter_tuple B ?_)));refine ak ⟨jn pe _,?_⟩;have up:∀b o,s.heap.get? b=ih o->c.get? b=ih o:=λb o e=>j b o (l b o e);have f:s.ai<c.objs.size:=by
  obtain⟨o,_,_,k,_⟩:=dn;exact bt (j _ _ k)
 have C:c.DictOf (cj prog w) s.ai []:=dn.at λo e=>j _ o e;have lt:∀{b:EZ}{o:Yy},s.heap.get? b=ih o->b<s.ai:=λe=>bt e;refine Ky (A:=A.in1) (g:=s.heap) (it:=c.objs.size) y (bK f) (jg (lt h)) (bK (lq (lt h) f)) ps G hz hsz ⟨_,h,rfl,n,rfl⟩ (λi p H=>?_) _ 0 _ rfl (bB _) ⟨_,bU _ rfl,rfl,rfl⟩ (C.at λo e=>a5 _ e) (λb o _ _ e=>a5 _ (up b o e)) λh' tk I kp=>?_
 ·obtain⟨a,x,h1,v,D⟩:=z i p H
  obtain⟨o,k,_⟩:=id v;exact⟨a,x,h1,bK (lq (lt k) f),bK (lt k),v,D⟩
 ·exact⟨rfl,q _ h' tk (aP _) I λb o e=>kp b o (bK (lq (lt e) f)) (bK (lt e)) e⟩
end
end HT
namespace L2
open Spec PyProof.Rows W HT
theorem A6:cp X (VH .LtE) (λx y H Q=>∃i j,x=.str i/\y=.str j/\Q (.bl (!decide (j.cps.toList<i.cps.toList))) H):=by
 rintro J s σ H x y v u Q I a b ⟨i,j,ex,c,q⟩;subst ex c;obtain⟨t,rfl⟩:=a;obtain⟨t',rfl⟩:=b;exact P.le_str (cA I q rfl)
def kH(H:Hp)(vs:List V)(kvs:List (Fv×V)):Prop:=VM (λy p=>∃a,y=V.ref a/\H a=ih (.tup [.str p.1,p.2])) vs kvs
def gb(kvs:List (Fv×V)):List (Key×V):=kvs.map λp=>(n' p.1,p.2)
theorem CB:∀(kvs:ac (Fv×V)) (ys:ac i'),ys.length=kvs.length->(∀(i:Nat) (hi:i<kvs.length),∃y,ys[i]?=ih y/\RelV kvs[i].2 y)->KV (gb kvs) ((kvs.map λp=>(n' p.1:Key)).zip ys)
 |[],ys,h,_=>.nil
 |p::kvs,[],h,_=>by simp at h
 |p::kvs,y::ys,h,f=>by
  obtain⟨a,e,r⟩:=f 0 (by simp)
  obtain rfl:y=a:=by simpa using e
  exact .cons ⟨rfl,r⟩ (CB kvs ys (by simpa using h) λi hi=>by
   obtain⟨b,e2,c⟩:=f (i+1) (Nat.succ_lt_succ hi);exact⟨b,by simpa using e2,c⟩)
theorem F8:cU X (.type "tuple") (λxs H Q=>∃p ys,xs=[.ref p]/\aj X.K H p ys /\∀l o,H l=none->o.dict=none->Q (.ref l) (upd H l (.bu o (.tup ys)))):=by
 rintro J s σ H xs us Q I r ⟨p,ys,ex,d,q⟩;subst ex;obtain⟨u,rfl,f⟩:=vals1 r;cases f
 obtain⟨its,a,g,h⟩:=I.list d;have i:=a.length;refine call_tuple_list g.isList (λh' kp=>?_) (by simp only[bY] <;> omega)
 have c:Inv X J σ H { s with heap:=h' }:=I.kept (t':=s.toks) kp;refine⟨.ref h'.objs.size,_,c.laid (o:=.bu { cls:=.type "tuple",data:=.seq its.toArray } (.tup ys)) (t':=s.toks) (λb o e=>a5 _ e) (aP _) ⟨bU _ rfl,h,its,a,i1.new _ _⟩,rfl,q _ _ (c.aH.fresh (aP _)) rfl⟩
end L2
namespace L2
open W
def MT(_ j:Int):Prop:=0<j/\j<4611686018427387904
theorem Jj:cp X (Yn .FloorDiv) (rI MT λi j=>.int (i / j)):=mD λi j _ _ _ _ _ a q=>by
 have h1:(0:Int)<j:=a.1;have h2:j<4611686018427387904:=a.2;refine abT (by omega) (by rw[UD i (by omega)];exact q) (.inl (PyProof.noPylong_of_log2 ?_))
 have b:j.natAbs<2 ^ 62:=by omega
 have c:j.natAbs.log2<62:=(Nat.log2_lt (by omega)).mpr b
 omega
end L2
namespace L2
open W Calls PyProof.Rows
section
variable{α β:Type}{n:Nat}
def Pm(n:Nat)(p:Array Nat):Prop:=p.toList.Perm (VD n)
theorem Pm.lt{p:Array Nat}(h:Pm n p)(a:0<n)(i:Nat):p.getD i 0<n:=by
 rw[iF];cases e:p[i]? with
 |none=>exact a
 |some x =>
  have:x∈p.toList:=aaQ.mp (U2 e);exact jd.mp (h.mem_iff.mp this)
theorem Pm.rev{p:Array Nat}(h:Pm n p)(i j:Nat):Pm n (kas_rev p i j):=(U3.mp (mirror_perm p i j _)).trans h
theorem Pm.Px{p:Array Nat}(h:Pm n p)(i j:Nat):Pm n (bubble p i j):=(U3.mp (bubble_perm p i j)).trans h
theorem C5{a:Type}{p:Array Nat}{vs:ac a}(d:a)(h:Pm vs.length p):(p.toList.map λi=>vs.getD i d).Perm vs:=by
 have h1:=acC (λi=>vs.getD i d) h;refine h1.trans (Z0 ?_)
 apply Fu
 ·simp
 ·intro i h1 h2
  simp[YX,h2]
end
theorem sb{α β:Type}{F:α->β->Prop}{l b:ac α}(h:b.Perm l):∀{m:ac β},VM F l m ->∃a,a.Perm m/\VM F b a:=by
 induction h with
 |nil=>intro m p;exact⟨m,.refl _,p⟩
 |cons x _ f =>
  intro m p;cases p with
  |cons q t =>
   obtain⟨a,e,r⟩:=f t;exact⟨_::a,e.cons _,.cons q r⟩
 |swap x y l =>
  intro m p;cases p with
  |cons q t =>
   cases t with
   |cons g t=>exact⟨_,YO _ _ _,.cons g (.cons q t)⟩
 |trans _ _ c d =>
  intro m p;obtain⟨k,e2,p2⟩:=d p;obtain⟨i,e1,j⟩:=c p2;exact⟨i,e1.trans e2,j⟩
theorem LX{o:HO}(x:bC P w H h a o):∃q,h.get? a=ih q:=by
 cases o with
 |lst xs=>obtain⟨_,_,_,_,e⟩:=x;exact⟨_,e⟩
 |tup xs=>obtain⟨_,_,_,q,e,_⟩:=x;exact⟨q,e⟩
 |dK kvs=>obtain⟨_,_,_,_,o,_,_,e,_⟩:=x;exact⟨o,e⟩
 |dT kvs=>obtain⟨_,_,_,_,o,_,_,e,_⟩:=x;exact⟨o,e⟩
 |set S n=>obtain⟨o,_,_,_,e,_⟩:=x;exact⟨o,e⟩
 |ins C dx fs=>obtain⟨_,_,_,e,_⟩:=x;exact⟨_,e⟩
 |own y=>exact x
 |xd fs=>obtain⟨_,⟨o,_,_,e,_⟩,_⟩:=x;exact⟨o,e⟩
 |oq lo hi=>obtain⟨_,_,_,e⟩:=x;exact⟨_,e⟩
 |bu q u=>exact⟨q,x.1⟩
 |i6 ps=>exact⟨_,x⟩
 |met f y=>exact⟨_,x⟩
 |ext b=>exact x.2.1
theorem Inv.sorted{σ:ac (Option V)}{m:Fv->Option i'}{ys:ac V}{out:ac i'}{c:Nat}(I:Inv X J σ H s)(A:s.heap.Ns X.env.locals m)(i:h'.Ns X.env.locals m)
  (k:∀b o,b≠X.env.locals->s.heap.get? b=ih o->h'.get? b=ih o) (t:∀b o,s.heap.get? b=ih o->b≠D) (new:h'.get? D=ih (listOf out.toArray c)) (r:Vals ys out) (hz:ys.length<=UB) :
  H D=none/\Inv X J σ (upd H D (.lst ys)) { s with heap:=h',toks:=t' }:=by
 have there:∀b u,H b=ih u ->∃o,s.heap.get? b=ih o:=λb u e=>LX (I.aH b u e);have w:H D=none:=by
  cases q:H D with
  |none=>rfl
  |some u =>
   obtain⟨o,e⟩:=there D u q;exact absurd rfl (t D o e)
 have d:∀b u,H b=ih u->b≠D:=λb u e z=>by rw[z,w]at e;cases e
 have j:∀b u,H b=ih u->b≠X.env.locals:=λb u e z=>by rw[z,I.free]at e;cases e
 refine⟨w,I.step (g':=s.gens) (d':=s.drawn) (ch:=[]) (λ_ z=>nomatch z) (λb o g _ _ e _=>k b o g e) (λb o g _ _ e _=>⟨o.slots,k b o g e⟩) (λb o _ e n=>by rw[ag (t b o e)];exact n) (λb o _ e=>?_)
  (λb xs e=>by rw[ag (d b _ e)];exact e) (λb o u e=>by rw[ag (d b _ e)];exact e) (λb ps e=>⟨#[],by rw[ag (d b _ e),e];simp⟩) (λB q=>?_) (λb u e=>?_) I.bare⟩
 ·by_cases f:b=X.env.locals
  ·obtain⟨o',es,ep,h,_⟩:=i
   exact⟨o',by rw[f];exact h⟩
  ·exact⟨o,k b o f e⟩
 ·obtain⟨o,es,ep,h,C,M,E⟩:=A
  obtain⟨N,G,K,l,p,L,y⟩:=q;rw[h]at l;cases l;rw[C]at p;cases p;have:B=m:=funext λx=>(y x).symm.trans (E x);rw[this];exact i
 ·by_cases f:b=D
  ·subst f
   rw[af]at e;cases e;exact⟨hz,out,c,r,new⟩
  ·rw[ag f]at e
   refine(I.aH b u e).et (λa v F q=>k a v ?_ q) (λa q=>by rw[ag (d a _ q)];exact q) λa xs q=>by rw[ag (d a _ q)];exact q
   rcases F with z|z
   ·rw[z];exact j b u e
   ·exact j a _ z
theorem Ih{B:Yk}{n:Nat}{R:ZF->Ux->Prop}(h:s.heap.get? a=ih (seqObj "list" us.toArray n))(a3:us.length<2)
  (k:∀c g,(∀b o,b≠a->s.heap.get? b=ih o->g.get? b=ih o)->g.get? a=ih (listOf us.toArray c)->R (.done (.ret .none)) { s with heap:=g }):Uz (UO P w) B (Ya.«list.sort» ⟨[.ref a],[]⟩) R E s:=by
 obtain⟨ep,j⟩:∃ep,(s.heap.update a (X1 λ_=>(#[]:Array i'))).get? a=ih (seqObj "list" #[] ep):=⟨_,get?_update_seq h λ_=>#[]⟩;have f:us.toArray.size<=UB:=by rw[aV,bY];omega
 have small:us.toArray.size<2:=by simpa using a3
 rw[list_sort_plain];refine ae (listItems_at h rfl (ae (listUpdate_at h rfl (ae (seqEpoch_at j rfl (ae (wpAny_newTuple (ae (wD (eh ?_) (bB _))) (by simpa using f))))) f (bB _))))
 have two:∀b o,(s.heap.update a (X1 λ_=>(#[]:Array i'))).get? b=ih o->(((s.heap.update a (X1 λ_=>(#[]:Array i'))).push (seqObj "tuple" us.toArray 0)).push (seqObj "list" #[] 0)).get? b=ih o:=λb o q=>a5 _ (a5 _ q)
 change Uz (UO P w) B _ R E { s with heap:=((s.heap.update a (X1 λ_=>(#[]:Array i'))).push (seqObj "tuple" us.toArray 0)).push (seqObj "list" #[] 0) }
 have d:=two _ _ j;have i:∀b o,b≠a->s.heap.get? b=ih o->(((s.heap.update a (X1 λ_=>(#[]:Array i'))).push (seqObj "tuple" us.toArray 0)).push (seqObj "list" #[] 0)).get? b=ih o:=λb o e q=>two b o (((rS s.heap a _).2 b e).trans q);generalize (((s.heap.update a (X1 λ_=>(#[]:Array i'))).push (seqObj "tuple" us.toArray 0)).push (seqObj "list" #[] 0))=g at d i⊢
 dsimp only
 rw[aE small,aE small];refine ae (ak (ae (ak ?_)));have same:(arrOf (SortSt.mk' general' (us.toArray.zip us.toArray) #[] 7 none)).map (·.2)=us.toArray:=we.mp (by show((us.toArray.zip us.toArray).map (·.2)).toList=_;simp[List.map_snd_zip])
 dsimp only
 rw[same];refine ae (seqEpoch_at d rfl (ae (listUpdate_at d rfl ?_ (bB _) (Fw f))));obtain⟨c,l⟩:∃c,(g.update a (X1 λ_=>us.toArray)).get? a=ih (seqObj "list" us.toArray c):=⟨_,get?_update_seq d λ_=>us.toArray⟩;simp only[bne_self_eq_false,j6,vX];exact ak (k c _ (λb o e q=>((rS g a _).2 b e).trans (i b o e q)) l)
theorem A7{a:Type}{f:a->V}{g:a->i'}(h:∀x,RelV (f x) (g x)):∀l:ac a,Vals (l.map f) (l.map g)
 |[]=>.nil
 |x::l=>.cons (h x) (A7 h l)
end L2
namespace L2
open W Spec PyProof.Rows
def mG(d:EZ)(o:Yy)(kvs:List (Key×V)):It:=⟨λi H=>H d=ih (.bu o (.dK kvs))/\i<kvs.length,λi H v H'=>H'=H /\∃kv,kvs[i]?=ih kv/\v=kV kv.1,λi H=>H d=ih (.bu o (.dK kvs))/\kvs.length<=i⟩
theorem A8(d it:EZ)(D:d≠it)(o:Yy)(kvs:ac (Key×V))(vs:ac (Key×i'))(ep:Nat)(j:KV kvs vs)(M:∀h:X8,h.get? d=ih o->h.DictAt (cj P w) d vs ep) :
  Turn P w K tg (mG d o kvs) [it] it (λi h=>i<=kvs.length/\h.IsKeyIter it d i vs.length ep) where
 mem:=by simp
 obj:=λi h st b a=>by
  obtain rfl:b=it:=by simpa using a
  obtain⟨_,o,e,c,d⟩:=st;exact⟨o,e,λv z=>by rw[d]at z;cases z⟩
 keep:=λi h h' st k=>by
  obtain⟨l,o,e,r⟩:=st;exact⟨l,o,k it (by simp) _ e,r⟩
 item:=by
  intro X m n p q i J s σ H E I g st f;subst m n p;obtain⟨f0,t,R,u,y,B⟩:=g it (by simp)
  have N:kvs.length=vs.length:=j.length;have C:=M s.heap (show bC X.prog X.w H s.heap d (.bu o (.dK kvs)) from I.aH d _ f.1).1;refine(aav (knd:=cj X.prog X.w) (I.ok.hd q) it d D vs ep).item i s _ _ (by have:=f.2;omega) ⟨st.2,C⟩ λv h' tk S F kk=>?_
  obtain⟨k,x,T,U⟩:=S;have W:Inv X J σ H { s with heap:=h',toks:=tk }:=I.turned (λb o a e=>kk b o (by simpa using a) e) f0 t u y B
  obtain⟨za,e,Y,Z⟩:=id F.1;have O:i<kvs.length:=f.2;have G:kvs[i]?=ih kvs[i]:=bw O;have xa:kvs[i].1=k:=by
   have h1:=c3 (λl=>l[i]?) j.keys;simp only[cI,G,T]at h1;exact cG h1
  exact⟨_,rfl,nW (s:={ s with heap:=h',toks:=tk }) e Y Z (by decide) ⟨kV k,H,W,tG U,⟨rfl,kvs[i],G,by rw[xa]⟩,⟨f.2,F.1⟩,λb a=>(g b a).1⟩⟩
 done:=by
  intro X m n p q i J s σ H E I g st f;subst m n p;obtain⟨f0,t,R,u,y,B⟩:=g it (by simp)
  have ya:i=kvs.length:=Fp st.1 f.2;have N:kvs.length=vs.length:=j.length;have C:=M s.heap (show bC X.prog X.w H s.heap d (.bu o (.dK kvs)) from I.aH d _ f.1).1;have L:=st.2;rw[ya,N]at L;exact(aav (knd:=cj X.prog X.w) (I.ok.hd q) it d D vs ep).done s _ _ ⟨L,C⟩ λh' tk kk=>⟨rfl,I.turned (λb o a e=>kk b o (by simpa using a) e) f0 t u y B⟩
 self:=λA i s Q E st h=>wpAny_pyIter_keyiter st.2 h
theorem Inv.freeze{σ:ac (Option V)}(I:Inv X J σ H s)(g:H d=bn kvs)(i:s.heap.get? d=ih o):Inv X J σ (upd H d (.bu o (.dK kvs))) s:=by
 have ok:bC X.prog X.w H s.heap d (.dK kvs):=I.aH d _ g;have a:∀{b:EZ}{u:HO},H b=ih u->u ≠ .dK kvs->b≠d:=λe n z=>by rw[z,g]at e;exact n (cG e).symm
 refine I.un (h':=s.heap) (t':=s.toks) ⟨λb f q _ _ _=>q,λb f q _ _ _=>⟨f.slots,q⟩,λb f q n _=>?_,λb f q _=>⟨f,q⟩,λb xs e=>?_,λb f u e=>?_,λb ps e=>⟨#[],?_⟩⟩ λb u e=>?_
 ·rw[ag (λz=>by rw[z,g]at n;cases n)];exact n
 ·rw[ag (a e (by intro z;cases z))];exact e
 ·rw[ag (a e (by intro z;cases z))];exact e
 ·rw[ag (a e (by intro z;cases z)),e];simp
 ·by_cases h:b=d
  ·subst h
   rw[af]at e;cases e
   exact⟨i,ok.et (λ_ _ _ q=>q) (λc q=>by rw[ag (a q (by intro z;cases z))];exact q) λc xs q=>by rw[ag (a q (by intro z;cases z))];exact q⟩
  ·rw[ag h]at e
   exact(I.aH b u e).et (λ_ _ _ q=>q) (λc q=>by rw[ag (a q (by intro z;cases z))];exact q) λc xs q=>by rw[ag (a q (by intro z;cases z))];exact q
def MU(te:TE):TI:=λσ H R=>te σ H λv Y=>∃d kvs,v=.ref d/\((Y d=ih (.dK kvs) /\∀o,R (mG d o kvs) (upd Y d (.bu o (.dK kvs)))) \/∃o,Y d=ih (.bu o (.dK kvs))/\R (mG d o kvs) Y)
theorem Kz(x:PE X e te):PI X tg e (MU te):=by
 intro J s σ H R I h;refine aF (x J s σ H _ I h) λv s1 G=>?_;obtain⟨y,Y,a,A,d,kvs,B,q⟩:=G;subst B;cases A
 have C:Rd Y d (.dK kvs):=by
  rcases q with⟨e,_⟩|⟨o,e,_⟩
  ·exact .inl e
  ·exact .inr ⟨o,e⟩
 obtain⟨E,D,vs,k,u⟩:=kJ a.aH C;obtain⟨o,es,ep,c,l,i,m,n,p⟩:=id u;refine wpAny_pyIter_dict (knd:=cj X.prog X.w) (kvs:=vs) (ep:=ep) D ⟨o,es,c,l,i,m,n,p⟩ ?_;have f:d≠s1.ai:=bK (bt c);have r:∀h:X8,h.get? d=ih o->h.DictAt (cj X.prog X.w) d vs ep:=λh e=>⟨o,es,e,l,i,m,n,p⟩;have t:Inv X J σ Y { s1 with heap:=s1.heap.push { cls:=.type "dict_keyiterator",data:=.fields #[.ref d,.int 0 0,.int vs.length 0,.int ep 0] } }:=a.kept (t':=s1.toks) λb F z=>a5 _ z;have st:0<=kvs.length/\Heap.IsKeyIter (s1.heap.push { cls:=.type "dict_keyiterator",data:=.fields #[.ref d,.int 0 0,.int vs.length 0,.int ep 0] }) s1.ai d 0 vs.length ep:=⟨bB _,_,bU _ rfl,rfl,rfl⟩;have j:Y s1.ai=none:=a.aH.fresh (aP _);rcases q with⟨e,q⟩|⟨o',e,q⟩
 ·refine⟨s1.ai,[s1.ai],_,_,_,rfl,t.freeze e (a5 _ c),A8 d s1.ai f o kvs vs ep k r,st,λb g=>?_,q o⟩
  obtain rfl:b=s1.ai:=by simpa using g
  exact a.gT (aP _) (by rw[ag (aS f)];exact j)
 ·obtain rfl:o'=o:=by
   have:=(show bC X.prog X.w Y s1.heap d (.bu o' (.dK kvs)) from a.aH d _ e).1;rw[c]at this;exact(cG this).symm
  refine⟨s1.ai,[s1.ai],_,_,Y,rfl,t,A8 d s1.ai f o' kvs vs ep k r,st,λb g=>?_,q⟩;obtain rfl:b=s1.ai:=by simpa using g
  exact a.gT (aP _) j
theorem Jk{g:TG}{D:Ends}(Pv:Nat->St->Hp->Prop)(h0:Pv 0 σ H)(j:∀i σ H,i<=kvs.length->Pv i σ H->H d=ih (.bu o (.dK kvs)))
  (k:∀i kv σ H,kvs[i]?=ih kv->Pv i σ H->g (kV kv.1) σ H λa H2=>tb { D with nx:=Pv (i+1),ct:=Pv (i+1),bk:=D.nx } a H2) (l:∀σ H,Pv kvs.length σ H->D.nx σ H) :
  ∃W:Nat->Nat->St->Hp->Prop,(∃m,W 0 m σ H) /\∀i m σ H,W i m σ H ->
   ((mG d o kvs).stop i H/\D.nx σ H)\/((mG d o kvs).go i H /\∃N:St->Hp->Prop,(∀b H',N b H' ->∃f,f<m/\W (i+1) f b H') /\∀x H',(mG d o kvs).i8 i H x H'->g x σ H' λa H2=>tb { D with nx:=N,ct:=N,bk:=D.nx } a H2):=by
 refine⟨λi m σ H=>m=kvs.length - i/\i<=kvs.length/\Pv i σ H,⟨kvs.length,by simp,bB _,h0⟩,?_⟩
 rintro i m σ H ⟨rfl,hi,p⟩;have q:=j i σ H hi p
 by_cases c:i<kvs.length
 ·refine .inr ⟨⟨q,c⟩,Pv (i+1),λb H' n=>⟨kvs.length - (i+1),by omega,rfl,c,n⟩,λx H' y=>?_⟩
  obtain⟨e,kv,h,ex⟩:=y;subst e;subst ex;exact k i kv σ _ h p
 ·have e:i=kvs.length:=by omega
  subst e;exact .inl ⟨⟨q,aP _⟩,l σ H p⟩
def Er(a b:Fv):Prop:=a.cps.toList<=b.cps.toList
theorem Jl{a b:Fv}(h1:Er a b)(h2:Er b a):a=b:=by
 have e:a.cps.toList=b.cps.toList:=List.le_antisymm h1 h2;cases a;cases b
 exact c3 Str.mk (we.mp e)
theorem A9:∀{us:ac i'}{a:ac Fv},Yl us a->Vals (a.map V.str) us
 |_,_,.nil=>.nil
 |_,_,.cons _ t r=>.cons ⟨t,rfl⟩ (A9 r)
end L2
namespace HS
open Spec PyProof.Rows
theorem KA(t:Y')(es:Array (Int×i'))(z:Int)(x:i'):(layNew t es z x).2.1.led=t.led:=by
 unfold layNew;split
 ·dsimp only
  unfold SetTable.orStandIn;split <;> rfl
 ·rfl
theorem Ht{t u:Y'}{zs:Array Int}{n:Nat}{a:Array Nat}(e:t.relaid zs n=ih (u,a)):u.led=t.led/\u.plain=t.plain:=by
 unfold SetTable.relaid SetTable.laid at e;cases c:SetTable.layClean (SetTable.sizeAbove n - 1) zs with
 |none=>rw[c]at e;cases e
 |some ow =>
  rw[c]at e;have e2:=cG e;have e3:=c3 Prod.fst e2
  dsimp only at e3
  rw[<-e3];exact⟨rfl,rfl⟩
theorem GN(t:Y')(es:Array (Int×i'))(n:Nat):(relayAll t es n).2.1.led=t.led/\(t.plain=false->(relayAll t es n).2.1.plain=false):=by
 unfold relayAll;split
 ·rename_i u a e
  obtain⟨h1,h2⟩:=Ht e
  dsimp only
  split
  ·exact⟨h1,λz=>h2.trans z⟩
  ·exact⟨rfl,λ_=>rfl⟩
 ·exact⟨rfl,λ_=>rfl⟩
def d8(P:Yc)(w:Yi)(h:X8)(a:EZ)(xs:List Fv):Prop:=
 ∃o es ep t,h.get? a=ih o/\o.ExactSet/\o.data=.set es ep t/\aa3 (strKind P w) es.toList/\(∀k,k∈xs ↔ ∃e∈es.toList,(strKind P w).is k e.2=true) /\
  es.size<scanBound/\t.fits es.size=true/\es.size=xs.length/\t.led=(!w.params.followText "set-order")/\(es.size≠0->t.plain=false)
theorem d8.keep{xs:ac Fv}(x:d8 P w h a xs)(k:∀o,h.get? a=ih o->h'.get? a=ih o):d8 P w h' a xs:=let ⟨o,es,ep,t,e,r⟩:=x;⟨o,es,ep,t,k o e,r⟩
theorem d8.lt{xs:ac Fv}(x:d8 P w h a xs):a<h.objs.size:=let ⟨_,_,_,_,e,_⟩:=x;bt e
theorem d8.typeIs{xs:ac Fv}(x:d8 P w s.heap a xs):s.TypeIs (.ref a) "set" :=let ⟨o,_,_,_,e,c,_⟩:=x;⟨o,e,c.1⟩
theorem Jm(e:h.get? a=ih { cls:=.type "set",dict:=none,data:=.set #[] 0 (.fresh 0 0 (!w.params.followText "set-order")) }):d8 P w h a []:=
 ⟨_,#[],0,_,e,⟨rfl,rfl,rfl⟩,rfl,λz b=>(by simp at b),λk=>(by simp),by decide,by rfl,rfl,rfl,λz=>absurd rfl z⟩
def fX(xs:List Fv)(k:Fv):List Fv:=if k∈xs then xs else xs++[k]
section
variable{xs:ac Fv}
theorem BM{es b:Array (Int×i')}{t t':Y'}(g:h.get? a=ih o)(i:o.ExactSet)(c:o.data=.set es ep t)(f:aa3 (strKind P w) b.toList)
  (j:∀k,k∈ys ↔ ∃e∈b.toList,(strKind P w).is k e.2=true) (l:b.size<scanBound) (m:t'.fits b.size=true) (n:b.size=ys.length) (p:t'.led=(!w.params.followText "set-order")) (q:t'.plain=false) :
  (h.update a (Zp b t')).get? a=ih { o with data:=.set b (ep+1) t' }/\d8 P w (h.update a (Zp b t')) a ys:=by
 have d:(h.update a (Zp b t')).get? a=ih { o with data:=.set b (ep+1) t' }:=by
  have z:=oM (Zp b t') g (by rw[putSet_of b t' c];rfl)
  rw[putSet_of b t' c]at z;exact z
 exact⟨d,_,b,ep+1,t',d,i,rfl,f,j,l,m,n,p,λ_=>q⟩
theorem Jn{k:Fv}{Q:Bool->Ux->Prop}(xe:d8 P w s.heap a xs)(room:xs.length+1<scanBound)(h:∀h',X7 a s.heap h'->d8 P w h' a (fX xs k) ->∀b,Q b { s with heap:=h' }) :
  Uz (UO P w) A (setAddHashed a (.str k tk) (hashStr w k)) Q E s:=by
 obtain⟨o,es,ep,t,m,H,n,B,v,xa,K,ye,F,zb⟩:=xe;have x:(strKind P w).is k (.str k tk)=true:=by show YA k (.str k tk)=true;simp[YA]
 have I:(YT k tk).scannable=true:=rfl;have zf:es.size+1<scanBound:=by omega
 unfold setAddHashed setAddHashedIn;refine eh (ae (g9 m n K ?_));dsimp only;rw[byScan_of (knd:=strKind P w) I xa B,aE rfl];refine ae ?_;unfold setAddByScan;refine ae (jf (ae (wpAny_setScan_of (knd:=strKind P w) (k:=k) x m n K B ?_)));cases ya:List.findIdx? (λe=>(strKind P w).is k e.2) es.toList with
 |some j =>
  obtain⟨ze,xc,_⟩:=List.findIdx?_eq_some_iff_getElem.mp ya;have C:k∈xs:=(v k).mpr ⟨es.toList[j],eL ze,xc⟩;refine ak (ak ?_);have e0:s={ s with heap:=s.heap }:=by cases s;rfl
  rw[e0];refine h s.heap (abW a s.heap) ?_ _;unfold fX;rw[aE C];exact⟨o,es,ep,t,m,H,n,B,v,xa,K,ye,F,zb⟩
 |none =>
  dsimp only
  have C:k ∉ xs:=λz=>by
   obtain⟨e,he,i⟩:=(v k).mp z;have:=List.findIdx?_eq_none_iff.mp ya e he;rw[i]at this;cases this
  have za:∀(b:Bool) {G:Ux}{M:Unit->Ux->Prop},M () G->Uz (UO P w) A (match b with|true=>rule "set.scan.the-table-gave-way" | false=>pure ()) M E G:=λb G M xb=>by
   cases b
   ·exact ak xb
   ·exact jf xb
  have g:=layNew_perm t es ((strKind P w).hash k) (.str k tk);have u:=layNew_fits t es ((strKind P w).hash k) (.str k tk);have y:=KA t es ((strKind P w).hash k) (.str k tk);generalize xf:layNew t es (hashStr w k) (.str k tk)=L;rw[show(strKind P w).hash k=hashStr w k from rfl,xf]at g u y;obtain⟨c,p,yf,xg⟩:=L
  dsimp only at g u y⊢
  rw[U5]at g;have S:aa3 (strKind P w) c.toList:=(B.push (k:=k) x I).perm g;have yg:c.size=es.size+1:=by rw[<-f5,g.length_eq,bV,f5];rfl
  have O:∀f,f∈fX xs k ↔ ∃e∈c.toList,(strKind P w).is f e.2=true:=λf=>by
   unfold fX;rw[ao C,bI,bL,v f]
   constructor
   ·rintro(⟨e,he,i⟩|rfl)
    ·exact⟨e,g.mem_iff.mpr (fA _ he),i⟩
    ·exact⟨_,g.mem_iff.mpr (c4 _ (bL.mpr rfl)),x⟩
   ·rintro⟨e,he,i⟩
    rcases bI.mp (g.mem_iff.mp he) with he|he
    ·exact .inl ⟨e,he,i⟩
    ·rw[bL]at he;subst he
     exact .inr ((strKind P w).inj _ f k i x)
  have yc:c.size=(fX xs k).length:=by unfold fX;rw[ao C,bV,jl];omega
  have U:c.size<scanBound:=by omega
  refine ae (za _ ?_);have T:∀d:Y',d.fits c.size=true->d.led=t.led->d.plain=false->Uz (UO P w) A (do
    storeSet a c d
    if (!yf&&d.tooFull)=true then do
      let r:=relayAll d c (YQ c.size)
      (match r.2.2 with|true=>rule "set.scan.the-table-gave-way" | false=>pure ())
      storeSet a r.1 r.2.1
      pure (ih true)
     else pure (ih true)) (λr s'=>Uz (UO P w) A (match r with|some yb=>pure yb|none=>setAddHashedIn a (.str k tk) (hashStr w k) 99999) Q E s') E s:=by
   intro d zc V W;obtain⟨X,xd⟩:=BM (P:=P) (w:=w) m H n S O U zc yc (V.trans F) W;have Y:=rS s.heap a (Zp c d);refine ae (wpAny_storeSet_of m n ?_ (wF U));split
   ·have l:=relayAll_perm d c (YQ c.size)
    have N:=relayAll_fits d c (YQ c.size);have D:=GN d c (YQ c.size)
    dsimp only
    generalize relayAll d c (YQ c.size)=R at l N D⊢;obtain⟨Z,zg,xh⟩:=R
    dsimp only at l N D⊢
    have bQ:Z.size=c.size:=by rw[<-f5,l.length_eq,f5]
    have yd:∀f,f∈fX xs k ↔ ∃e∈Z.toList,(strKind P w).is f e.2=true:=λf=>(O f).trans ⟨λ⟨e,he,q⟩=>⟨e,l.mem_iff.mpr he,q⟩,λ⟨e,he,q⟩=>⟨e,l.mem_iff.mp he,q⟩⟩;obtain⟨_,zd⟩:=BM (P:=P) (w:=w) X H rfl (S.perm l) yd (by omega) N (by omega) (D.1.trans (V.trans F)) (D.2 W)
    refine ae (za _ (ae (wpAny_storeSet_of X rfl ?_ (wF (by omega)))))
    exact ak (ak (h _ (Y.trans (rS _ a _)) zd _))
   ·exact ak (ak (h _ Y xd _))
  by_cases J:p.plain=true
  ·rw[aE J]
   refine ae ?_;rw[hashByValue_scannable 8 I];refine ak ?_;show Uz (UO P w) A (do
    storeSet a c { p with plain:=false }
    _) _ E s
   exact T { p with plain:=false } (SetTable.fits_plain_off u) y rfl
  ·rw[ao J]
   refine ae (ak ?_);show Uz (UO P w) A (do
    storeSet a c p
    _) _ E s
   exact T p u y (by simpa using J)
end
def gF(val:Nat->Fv)(i:Nat):List Fv:=((VD i).map val).foldl fX []
theorem pf(val:Nat->Fv)(i:Nat):gF val (i+1)=fX (gF val i) (val i):=by
 unfold gF;rw[aaA,a8,List.foldl_append];rfl
theorem Jo(xs:ac Fv)(k:Fv):(fX xs k).length<=xs.length+1:=by
 unfold fX;split
 ·omega
 ·rw[bV,jl];omega
theorem KC{xs:ac Fv}(h:xs.Nodup)(k:Fv):(fX xs k).Nodup:=by
 unfold fX;split
 ·exact h
 ·rename_i c
  rw[di];exact⟨h,by simp,λa d b f e=>c (by rw[<-(bL.mp f),<-e];exact d)⟩
theorem Jp{xs:ac Fv}{k y:Fv}:y∈fX xs k ↔ y∈xs\/y=k:=by
 unfold fX;split
 ·rename_i h
  exact⟨.inl,λz=>z.elim id λe=>e ▸ h⟩
 ·rw[bI,bL]
theorem BN(val:Nat->Fv):∀i,(gF val i).length<=i
 |0=>aP _
 |i+1=>by rw[pf];have:=Jo (gF val i) (val i);have:=BN val i;omega
theorem CC(val:Nat->Fv):∀i,(gF val i).Nodup
 |0=>e4
 |i+1=>by rw[pf];exact KC (CC val i) _
theorem BO(val:Nat->Fv)(y:Fv):∀i,y∈gF val i ↔ ∃j,j<i/\val j=y
 |0=>⟨λh=>(by cases h),λ⟨_,h,_⟩=>absurd h (oR _)⟩
 |i+1=>by
  rw[pf,Jp,BO val y i]
  constructor
  ·rintro(⟨j,h,e⟩|e)
   ·exact⟨j,by omega,e⟩
   ·exact⟨i,by omega,e.symm⟩
  ·rintro⟨j,h,e⟩
   by_cases c:j=i
   ·exact .inr (by rw[<-e,c])
   ·exact .inl ⟨j,by omega,e⟩
section
variable{R:Y7->Ux->Prop}{wr:ac EZ}{G:Array ZR->Array ZR->Prop}{n:Nat}{Pv:Nat->i'->Prop}{St:Nat->Ux->Prop}
theorem Jq(W:WalksS P w A.in1 I fp wr G n Pv St)(S:EZ)(d:S ∉ fp)(val:Nat->Fv)(y:∀i v,Pv i v ->∃t,v=.str (val i) t)(H:n+1<scanBound) :
  ∀(k i:Nat) (s:Ux),n - i=k->i<=n->St i s->d8 P w s.heap S (gF val i)->(∀s',Moved (S::wr) G s s'->d8 P w s'.heap S (gF val n)->R (.ok (.ret .none)) s') ->
   codeAny (UO P w) A (.builtin "set.update.loop" ⟨[.ref S,.ref I],[]⟩) R s:=by
 have f:S ∉ wr:=λz=>d (W.sub _ z);have up:∀b∈wr,b∈S::wr:=λb z=>ba _ z;intro k
 induction k with
 |zero =>
  intro i s B hi st x q;obtain rfl:i=n:=by omega
  refine h3 Z1 ?_;rw[iE Fx _];show Uz _ A.in1 (pyNext (.ref I) >>= _) _ _ s;refine ae (W.done s _ _ st λs' m=>?_);show Uz _ A.in1 (ret VB) _ _ s';exact ak (q s' (m.mono up) (x.keep λo e=>m.heap S o f e))
 |succ k C =>
  intro i s B hi st x q;have lt:i<n:=by omega
  refine h3 Z1 ?_;rw[iE Fx _];show Uz _ A.in1 (pyNext (.ref I) >>= _) _ _ s;refine ae (W.item i s _ _ lt st λv s' D l m=>?_);obtain⟨t,rfl⟩:=y i v D;have E:d8 P w s'.heap S (gF val i):=x.keep λo e=>m.heap S o f e;show Uz _ A.in1 (holding [YT (val i) t] (setAdd S (.str (val i) t)) >>= _) _ _ s';refine ae (eh ?_);unfold setAdd;have j:(strKind P w).is (val i) (.str (val i) t)=true:=by show YA (val i) (.str (val i) t)=true;simp[YA]
  refine eh (ae ((strKind P w).pyHash (k:=val i) j ?_));have room:(gF val i).length+1<scanBound:=by have:=BN val i;omega
  refine Jn (s:={ s' with toks:=s'.toks+1 }) E room λh' g h b=>?_;rw[<-pf]at h;refine ak ⟨jn Fx _,C (i+1) _ (by omega) lt (W.frame _ s' _ _ l (f6 _) λc a o e=>?_) h λp r u=>?_⟩
  ·rw[g.2 c (λz:c=S=>d (by rw[<-z];exact a))];exact e
  ·refine q p (Moved.trans W.gtrans ((m.mono up).then_heap (f6 _) λc o a e=>?_) r) u
   rw[g.2 c (λz:c=S=>a (by rw[z];exact aW))];exact e
end
abbrev i4(w:Yi):Yy:={ cls:=.type "set",dict:=none,data:=.set #[] 0 (.fresh 0 0 (!w.params.followText "set-order")) }
theorem GO(a:i'){Q₁:i'->Ux->Prop}(h:Q₁ (.ref s.ai) { s with heap:=s.heap.push (i4 w) }) :
  codeAny (UO P w) A (.call (.builtin "set.__new__") ⟨[.type "set",a],[]⟩) (wants Q₁ E) s:=by
 refine vZ ?_;show Uz _ A.in1 (do checkBuiltinCall "set.__new__" ⟨[.type "set",a],[]⟩;again (.builtin "set.__new__" ⟨[.type "set",a],[]⟩)) _ _ s;refine ae (wpAny_of_eq (F.newCall_set_1 a) (ak ⟨jn aba _,h3 F.entry_set_new ?_⟩));rw[iE aba _];unfold Ya.«set.__new__» aaI;have b:=sub_set_self;obtain⟨c,g,d,tk,os⟩:=s;dsimp only
 wp_walk
 refine iG (ak ?_);dsimp only;simp only[newObj];refine ae (wpAny_alloc (ak ?_));exact ak h
structure Src(P:Yc)(w:Yi)(T:String)(l:EZ)(ol:Yy)(n:Nat)(Pv:Nat->i'->Prop):Prop where
 cls:ol.cls=.type T
 ns:isSubtype (.type T) (.type "set")=pure false
 nf:isSubtype (.type T) (.type "frozenset")=pure false
 nd:(Ye T==Ye "dict")=false
 iter:∀(A:Yk) (s:Ux),A.handled=none->s.heap.get? l=ih ol ->∃(oI:Yy) (St:Nat->X8->Prop),
  (∀(E:i'->Ux->Prop) (Q:i'->Ux->Prop),Q (.ref s.ai) { s with heap:=s.heap.push oI }->Uz (UO P w) A (pyIter (.ref l)) Q E s) /\
  Walks P w A s.ai [s.ai,l] [s.ai] n Pv St/\St 0 (s.heap.push oI)
theorem Ii{n:Nat}{Pv:Nat->i'->Prop}{val:Nat->Fv}(I:A.handled=none)(C:Src P w T l ol n Pv)(p:s.heap.get? l=ih ol)(J:∀i v,Pv i v ->∃t,v=.str (val i) t)(a:n+1<scanBound)
  (h:∀(h':X8) (tk:Nat),d8 P w h' s.heap.objs.size (gF val n)->(∀b o,b<s.heap.objs.size->s.heap.get? b=ih o->h'.get? b=ih o)->Q (.ref s.heap.objs.size) { s with heap:=h',toks:=tk }) :
  Uz (UO P w) A (call (.type "set") [.ref l]) Q E s:=by
 obtain⟨yb,xb,ya⟩:=lx.mro;have Y:=lx.made;have za:=lx.sub;refine j5 (vZ ?_);show Uz _ _ (callAny (.type "set") _) _ _ _;refine ak ⟨Fe _ (by decide +kernel),h3 F.entry_type_call ?_⟩;rw[Around.under_plain (weight_type_call_type "set" [.ref l] []) rfl]
 have zb:=lx.notType;have xc:=lx.canCreate;have yc:=F.typeCall_set_1 (.ref l)
 repeat (any_goals (first|assumption|wp_step))
 refine ll (GO (.ref l) (E:=E) (Q₁:=λk g=>k=.ref s.heap.objs.size/\g={ s with heap:=s.heap.push (i4 w) }) ⟨rfl,rfl⟩) λr g d=>?_;cases r with
 |error e=>exact d
 |ok K =>
  cases K with
  |ret k =>
   obtain⟨rfl,rfl⟩:=d;have q:(s.heap.push (i4 w)).get? s.heap.objs.size=ih (i4 w):=bU _ rfl;have L:Y1 { s with heap:=s.heap.push (i4 w) } (.ref s.heap.objs.size) "set" :=⟨_,q,rfl⟩;have zc:=lx.init.lookup;have xd:=lx.init.bind (.ref s.heap.objs.size)
   repeat (any_goals (first|assumption|wp_step))
   refine ll (v7 (R:=wants (λr j=>r=.none /\∃h' tk,j={ s with heap:=h',toks:=tk }/\d8 P w h' s.heap.objs.size (gF val n)/\(∀b o,b<s.heap.objs.size->s.heap.get? b=ih o->h'.get? b=ih o)) E) lx.init.plain F.entry_set_init (check_set_init_1 L ?_)) λx j c=>?_
   ·have B:(s.heap.push (i4 w)).get? l=ih ol:=a5 _ p
    obtain⟨y,Z,xa,X⟩:=ol;have z:y=.type T:=C.cls;subst z;have ns:=C.ns;have yd:=C.nf;have zd:=C.nd;unfold Ya.«set.__init__» noKeywords aaF;generalize D:pyIter=PI
    wp_walk
    subst D;obtain⟨oI,St,it,W,st⟩:=C.iter A.in1.in1.in1 { s with heap:=s.heap.push (i4 w) } (by simp[I]) B
    refine wpAny_of_in1 (it _ _ ?_);refine ae (Fy ?_);have M:l<s.heap.objs.size:=bt p;have N:s.heap.objs.size ∉ [(s.heap.push (i4 w)).objs.size,l]:=by
     rw[g7];simp only[bH,bL,jo,jq,not_or];exact⟨bK (j4 _),jg M⟩
    refine Jq W.toS s.heap.objs.size N val J a (n - 0) 0 _ (by omega) (bB _) st (Jm (a5 _ q)) ?_
    intro s' m f;obtain⟨h',O,S,G,H⟩:=s';have e1:O=s.gens:=m.gens;have e2:S=s.drawn:=m.drawn;have e3:H=s.os:=m.os;subst e1;subst e2;subst e3;show Uz _ _ _ _ _ _;refine ak ?_;show Uz _ _ (ret VB) _ _ _;refine ak ⟨rfl,h',G,rfl,f,λb o a e=>?_⟩;have b1:b≠s.heap.objs.size:=bK a;have U:b≠(s.heap.push (i4 w)).objs.size:=by rw[g7];exact bK (ly a)
    exact m.heap b o (by simp only[bH,bL,jo,jq,not_or];exact⟨b1,U⟩) (a5 _ (a5 _ e))
   ·cases x with
    |error e=>exact c
    |ok u =>
     cases u with
     |ret r =>
      obtain⟨rfl,h',tk,rfl,f,V⟩:=c
      repeat (any_goals (first|assumption|wp_step))
      exact h _ _ f V
     |_=>exact c.elim
  |_=>exact d.elim
theorem src_list(a:ol.cls=.type "list")(d:∃n,ol.data=.seq items n):Src P w "list" l ol items.size (λi v=>items[i]?=ih v) where
 cls:=a
 ns:=F.sub_list_set
 nf:=F.sub_list_frozenset
 nd:=by decide
 iter:=λA s e b=>by
  have c:s.heap.IsList l items:=⟨ol,b,a,d⟩;have lt:=bt b;exact⟨_,_,λE Q q=>rH c q,Z4 e _ l (bK lt) items,⟨_,bU _ rfl,rfl,rfl⟩,c.push _⟩
theorem KG(a:ol.cls=.type "tuple")(d:∃n,ol.data=.seq items n):Src P w "tuple" l ol items.size (λi v=>items[i]?=ih v) where
 cls:=a
 ns:=F.sub_tuple_set
 nf:=F.sub_tuple_frozenset
 nd:=by decide
 iter:=λA s e b=>by
  have c:s.heap.IsTuple l items:=⟨ol,b,a,d⟩;have lt:=bt b;exact⟨_,_,λE Q q=>wpAny_pyIter_tuple c q,Walks.tuple e _ l (bK lt) items,⟨_,bU _ rfl,rfl,rfl⟩,c.push _⟩
theorem lG:Slot "set_iterator" "__next__" "set_iterator.__next__" :=
 Slot.of (owner:= "set_iterator") (n:= "__next__") (by rw[Fq,Fs];kernel_rfl) (by decide +kernel) (by decide +kernel) (by decide +kernel) (by first|exact .inl (by decide +kernel)|exact .inr (by decide +kernel)) (by rw[Fz];kernel_rfl)
theorem Ge:entryFor table "set_iterator.__next__" = ih Ya.«set_iterator.__next__» :=entryFor_of_tree (by kernel_rfl)
theorem BP:Manifest.owners.lookup (String.ofList "rotareti_tes".toList.reverse)=ih Manifest.sig_set_iterator:=by kernel_rfl
theorem Gn(a:i'):argsOk "set_iterator.__next__" ⟨[a],[]⟩:=by
 unfold argsOk;rw[signature?_of (id:= "set_iterator.__next__") (n:=['_','_','t','x','e','n','_','_']) (o:= "rotareti_tes".toList) (by kernel_rfl) BP];kernel_rfl
theorem oZ:Slot "set_iterator" "__iter__" "set_iterator.__iter__" :=
 Slot.of (owner:= "set_iterator") (n:= "__iter__") (by rw[Fq,Fs];kernel_rfl) (by decide +kernel) (by decide +kernel) (by decide +kernel) (by first|exact .inl (by decide +kernel)|exact .inr (by decide +kernel)) (by rw[Fz];kernel_rfl)
theorem w0:entryFor table "set_iterator.__iter__" = ih Ya.«dict_keyiterator.__iter__» :=entryFor_alias (id':= "dict_keyiterator.__iter__") (by kernel_rfl) rfl (by decide +kernel) (by kernel_rfl)
theorem w4(a:i'):argsOk "set_iterator.__iter__" ⟨[a],[]⟩:=by
 unfold argsOk;rw[signature?_of (id:= "set_iterator.__iter__") (n:=['_','_','r','e','t','i','_','_']) (o:= "rotareti_tes".toList) (by kernel_rfl) BP];kernel_rfl
theorem Gp:entryFor table "set.__iter__" = ih Ya.«frozenset.__iter__» :=entryFor_alias (id':= "frozenset.__iter__") (by kernel_rfl) rfl (by decide +kernel) (by kernel_rfl)
abbrev hV(first:i')(i:Nat)(a:EZ)(n ep:Nat):Yy:={ cls:=.type "set_iterator",dict:=none,data:=.fields #[first,.int i 0,.ref a,.int n 0,.int ep 0],slots:= #[] }
section
variable{es:Array (Int×i')}{t:Y'}
theorem pz{first:i'}{n:Nat}{Q:ad i'->Ux->Prop}(b:s.heap.get? I=ih (hV first i a n ep))(k:s.heap.get? a=ih o)(l:o.data=.set es ep t)(m:t.fits es.size=true)(p:es.size=n)
  (body:Uz (UO P w) A.in1 (do
   if let .int j _:=first then
    match <- setNext a j.toNat ((i:Int)).toNat ((ep:Int)).toNat with
    |some (x,next) =>
     setField (.ref I) 0 (rawInt next)
     setField (.ref I) 1 (rawInt ((i:Int)+1))
     ret x
    |none=>setField (.ref I) 2 .none;raiseNew (<- newExc (.type "StopIteration") [])
   else
    let ih f <- seqItems? first|unsupported "internal:set_iterator"
    match f[((i:Int)).toNat]? with
    |some (.int g _) =>
     let x <- setNextDrawn a g.toNat ((ep:Int)).toNat
     setField (.ref I) 1 (rawInt ((i:Int)+1))
     ret x
    |some _=>unsupported "internal:set_iterator"
    |none=>setField (.ref I) 0 (rawInt 0);setField (.ref I) 2 .none;raiseNew (<- newExc (.type "StopIteration") []))
   (λc s'=>∃r,c=.done (.ret r)/\Q (ih r) s') (λe s'=>Uz (UO P w) A (do if <- isInstance e (.type "StopIteration") then pure none else throw e) Q E s') s):Uz (UO P w) A (pyNext (.ref I)) Q E s:=by
 have d:s.TypeIs (.ref I) "set_iterator" :=⟨_,b,rfl⟩;unfold pyNext;refine ae (rO (rK (name:=Yp "__next__") d lG (hZ lG d Ge ?_ (Gn _))));unfold Ya.«set_iterator.__next__»;refine ae (ak ?_)
 dsimp only
 refine ae (FC b rfl ?_)
 dsimp only
 refine ae ?_;unfold setEntries;refine ae (g9 k l m (ak ?_))
 dsimp only
 rw[ao (by rw[p];simp)]
 refine hY body (λc s' h=>?_) λe s' h=>?_
 ·obtain⟨r,rfl,q⟩:=h
  exact⟨r,rfl,ak q⟩
 ·exact h
theorem BQ{Q:ad i'->Ux->Prop}(f:A.handled=none)(q:∀h',(∀b c,s.heap.get? b=ih c->h'.get? b=ih c)->Q none { s with heap:=h' }) :
  Uz (UO P w) A.in1 (newExc (.type "StopIteration") [] >>= λe=>(raiseNew e:Zh ZF)) (λd s'=>∃r,d=.done (.ret r)/\Q (ih r) s') (λe s'=>Uz (UO P w) A (do if <- isInstance e (.type "StopIteration") then pure none else throw e) Q E s') s:=by
 refine ae ?_;simp only[newExc,newTuple];refine ae (fH ?_ (by size_fits))
 refine ae (m:=firstArgMember _ _) (wpAny_of_eq (a:=VB) (by first|rfl|(simp only[firstArgMember];rfl)) (fH ?_ (by size_fits)))
 simp only[raiseNew];refine ae (wpAny_handled ?_);rw[show A.in1.handled=none from f];refine ae (ak (wz ?_));refine ae (FD (T:= "StopIteration") (b:=true) (show Y1 _ _ _ from⟨_,bU _ rfl,rfl⟩) isSubtype_stop ?_);exact ak (q _ λb c e=>a5 _ (a5 _ e))
theorem Gf{b n d:Nat}{x:i'}{Q:ad i'->Ux->Prop}(c:s.heap.get? I=ih (hV (.int b 0) i a n ep))(f:s.heap.get? a=ih o)(g:o.data=.set es ep t)(h:t.fits es.size=true)(j:es.size=n)
  (b5:∀(k:i'->Ux->Prop) (e:ad (i'×Nat)->Ux->Prop),e (ih (x,d)) s->Uz (UO P w) A.in1 (setNext a b i ep) e k s)
  (q:∀h',h'.get? I=ih (hV (.int d 0) (i+1) a n ep)->X7 I s.heap h'->Q (ih x) { s with heap:=h' }):Uz (UO P w) A (pyNext (.ref I)) Q E s:=by
 refine pz c f g h j ?_;simp only[gr];refine ae (b5 _ _ ?_);refine ae (iH c (by simp) λh1 l s1=>?_)
 refine ae (iH l (by simp) λh2 m s2=>?_)
 exact ak ⟨x,rfl,q h2 (by rw[m];simp[rawInt]) (s1.trans s2)⟩
theorem Gq{d n:Nat}{Q:ad i'->Ux->Prop}(h:A.handled=none)(f:s.heap.get? I=ih (hV (.int d 0) i a n ep))(j:s.heap.get? a=ih o)(k:o.data=.set es ep t)(l:t.fits es.size=true)(m:es.size=n)
  (b5:∀(p:i'->Ux->Prop) (g:ad (i'×Nat)->Ux->Prop),g none s->Uz (UO P w) A.in1 (setNext a d i ep) g p s)
  (q:∀h',(∀b c,b≠I->s.heap.get? b=ih c->h'.get? b=ih c)->Q none { s with heap:=h' }):Uz (UO P w) A (pyNext (.ref I)) Q E s:=by
 refine pz f j k l m ?_;simp only[gr];refine ae (b5 _ _ ?_);refine ae (iH f (by simp) λh1 v s1=>?_)
 exact BQ h λh2 r=>q h2 λb c u e=>r b c (by rw[s1.2 b u];exact e)
theorem Gg{pt:EZ}{ps:ac Nat}{n pl:Nat}{x:i'}{Q:ad i'->Ux->Prop}(b:s.heap.get? I=ih (hV (.ref pt) i a n ep))(d:s.heap.get? a=ih o)(e:o.data=.set es ep t)(f:t.fits es.size=true)(k:es.size=n)
  (l:∃op c,s.heap.get? pt=ih op/\op.data=.seq (ps.map λ(j:Nat)=>rawInt j).toArray c) (hi:ps[i]?=ih pl) (m:es[pl]?=ih (z,x))
  (q:∀h',h'.get? I=ih (hV (.ref pt) (i+1) a n ep)->X7 I s.heap h'->Q (ih x) { s with heap:=h' }):Uz (UO P w) A (pyNext (.ref I)) Q E s:=by
 refine pz b d e f k ?_;obtain⟨op,c,g,h⟩:=l
 dsimp only
 simp only[gr];refine ae ?_;unfold seqItems?;refine ae (oK g ?_);rw[h];refine ak ?_
 dsimp only
 have e1:(ps.map λ(j:Nat)=>rawInt j).toArray[i]?=ih (rawInt pl):=by simp[hi]
 rw[e1];show Uz _ _ (setNextDrawn a ((pl:Int)).toNat ep >>= _) _ _ s;rw[gr];unfold setNextDrawn;refine ae (ae (g9 d e f ?_))
 dsimp only
 rw[ao (by simp),m]
 refine ak ?_;refine ae (iH b (by simp) λh2 p s2=>?_)
 exact ak ⟨x,rfl,q h2 (by rw[p];simp[rawInt]) s2⟩
theorem Gr{pt:EZ}{ps:ac Nat}{n:Nat}{Q:ad i'->Ux->Prop}(l:A.handled=none)(f:s.heap.get? I=ih (hV (.ref pt) i a n ep))(m:s.heap.get? a=ih o)(p:o.data=.set es ep t)(r:t.fits es.size=true)(u:es.size=n)
  (v:∃op c,s.heap.get? pt=ih op/\op.data=.seq (ps.map λ(j:Nat)=>rawInt j).toArray c) (hi:ps.length<=i)
  (q:∀h',(∀b d,b≠I->s.heap.get? b=ih d->h'.get? b=ih d)->Q none { s with heap:=h' }):Uz (UO P w) A (pyNext (.ref I)) Q E s:=by
 refine pz f m p r u ?_;obtain⟨op,c,h,k⟩:=v
 dsimp only
 simp only[gr];refine ae ?_;unfold seqItems?;refine ae (oK h ?_);rw[k];refine ak ?_
 dsimp only
 have e1:(ps.map λ(j:Nat)=>rawInt j).toArray[i]?=none:=by simp;omega
 rw[e1];refine ae (iH f (by simp) λh1 x s1=>?_)
 refine ae (iH x (by simp) λh2 B s2=>?_)
 exact BQ l λy z=>q y λb d g e=>z b d (by rw[s2.2 b g,s1.2 b g];exact e)
end
theorem A'{α:Type}(next:Nat->Nat):∀(fuel k:Nat) (left:ac α) (out:Array α),left.length=fuel->(Zg next fuel k left out).toList.Perm (out.toList++left)
 |0,k,left,out,h=>by
  have:left=[]:=lz h;subst this;unfold Zg;simp
 |fuel+1,k,left,out,h=>by
  have a:next k % left.length<left.length:=wG _ (by omega)
  unfold Zg;rw[bw a]
  dsimp only
  refine(A' next fuel (k+1) _ _ (by rw[U7,aE a];omega)).trans ?_
  rw[U5,mS];refine U8 _ ?_;generalize next k % left.length=j at a;have b:∀(l:ac α) (j:Nat) (h:j<l.length),(l[j]::l.eraseIdx j).Perm l:=by
   intro l
   induction l with
   |nil=>intro j h;exact absurd h (oR _)
   |cons x l c =>
    intro j h;cases j with
    |zero=>exact j9 _
    |succ j=>exact(YO _ _ _).trans ((c j (wH h)).cons x)
  exact b left j a
section
variable{xs:ac Fv}
theorem CD{α:Type}:∀(m:Nat) (l:ac α) {s:Ux}{Q:ac α->Ux->Prop},l.length=m->(∀ps d,ps.Perm l->Q ps { s with drawn:=d })->Uz (UO P w) A (drawOrder m l) Q E s
 |0,l,s,Q,h,q=>by
  have:l=[]:=lz h;subst this;unfold drawOrder;exact ak (q [] s.drawn (j9 _))
 |m+1,[],s,Q,h,q=>by simp at h
 |m+1,x::l,s,Q,h,q=>by
  unfold drawOrder;refine ae ?_;have ch:∀{a:Nat->Ux->Prop}{s:Ux},(∀i d,i<(x::l).length->a i { s with drawn:=d })->Uz (UO P w) A (choose .order (x::l).length) a E s:=λ{a s} c=>by
   intro Γ p hΓ;exact⟨by simp,c _ _ (wG _ (by simp))⟩
  refine ch λi d hi=>?_;rw[bw hi]
  dsimp only
  refine ae (CD m _ (by rw[U7,aE hi];omega) λps g e=>ak ?_)
  refine q _ _ ((e.cons _).trans ?_);have b:∀(l:ac α) (j:Nat) (h:j<l.length),(l[j]::l.eraseIdx j).Perm l:=by
   intro l
   induction l with
   |nil=>intro j h;exact absurd h (oR _)
   |cons x l f =>
    intro j h;cases j with
    |zero=>exact j9 _
    |succ j=>exact(YO _ _ _).trans ((f j (wH h)).cons x)
  exact b _ i hi
theorem Hu{es:ac (Int×i')}(h:aa3 (strKind P w) es):∃ks:ac Fv,Yl (es.map (·.2)) ks /\∀k,k∈ks ↔ ∃e∈es,(strKind P w).is k e.2=true:=by
 induction es with
 |nil=>exact⟨[],.nil,λk=>(by simp)⟩
 |cons e es c =>
  obtain⟨ks,h1,h2⟩:=c h.tail;obtain⟨⟨k,a,_⟩,_⟩:=h.head;obtain⟨t,d⟩:=EM a;refine⟨k::ks,?_,λy=>?_⟩
  ·rw[b2,d];exact .cons k t h1
  ·rw[bH,h2 y]
   constructor
   ·rintro(rfl|⟨b,he,q⟩)
    ·exact⟨e,aW,a⟩
    ·exact⟨b,ba _ he,q⟩
   ·rintro⟨b,he,q⟩
    rcases bH.mp he with rfl|he
    ·exact .inl ((strKind P w).inj _ _ _ q a)
    ·exact .inr ⟨b,he,q⟩
theorem Ba{vs:ac i'}(h:Yl us ks)(p:vs.Perm us):∃ys,Yl vs ys/\ys.Perm ks:=by
 induction p generalizing ks with
 |nil=>exact⟨ks,h,j9 _⟩
 |cons x _ e =>
  cases h with
  |cons y t r=>obtain⟨ys,h1,h2⟩:=e r;exact⟨y::ys,.cons y t h1,h2.cons y⟩
 |swap x y l =>
  cases h with
  |cons a f g =>
   cases g with
   |cons b i j=>exact⟨b::a::_,.cons b i (.cons a f j),YO _ _ _⟩
 |trans _ _ c d =>
  obtain⟨ys,h1,h2⟩:=d h;obtain⟨zs,k,m⟩:=c h1;exact⟨zs,k,m.trans h2⟩
theorem lT{vs:ac i'}(h:Yl vs ys):vs.length=ys.length:=by
 induction h with
 |nil=>rfl
 |cons _ _ _ a=>rw[cS,cS,a]
theorem Gs{a b:ac Fv}(c:a.Nodup)(d:b.length=a.length)(h:∀x∈a,x∈b):b.Perm a:=by
 induction a generalizing b with
 |nil=>have:b=[]:=lz d;subst this;exact j9 _
 |cons x a j =>
  rw[d4]at c;have f:=h x aW;have k:=List.perm_cons_erase f;have i:(b.erase x).length=a.length:=by rw[Fg f,d];rfl
  have h2:∀y∈a,y∈b.erase x:=λy g=>(Fi (show y≠x from λe=>c.1 (by rw[<-e];exact g))).mpr (h y (ba _ g))
  exact k.trans ((j c.2 i h2).cons x)
structure u3(P:Yc)(w:Yi)(a:EZ)(vs:List i')(I:EZ)(fp:List EZ)(h:X8):Prop where
 go:∃St:Nat->X8->Prop,(∀A:Yk,A.handled=none->Walks P w A I fp [I] vs.length (λi v=>vs[i]?=ih v) St)/\St 0 h
theorem BR{es:Array (Int×i')}{t:Y'}(j:Nat->Nat){vs:ac i'}(C:a≠I)(n:o.data=.set es ep t)(p:t.fits es.size=true)(r:es.size=vs.length)(h0:j 0=0)(D:h.get? a=ih o)(hi:h.get? I=ih (hV (.int 0 0) 0 a vs.length ep))
  (B:∀(A:Yk) (s:Ux) (i:Nat) (v:i') (d:i'->Ux->Prop) (c:ad (i'×Nat)->Ux->Prop),s.heap.get? a=ih o->vs[i]?=ih v->c (ih (v,j (i+1))) s->Uz (UO P w) A (setNext a (j i) i ep) c d s)
  (done:∀(A:Yk) (s:Ux) (d:i'->Ux->Prop) (c:ad (i'×Nat)->Ux->Prop),s.heap.get? a=ih o->c none s->Uz (UO P w) A (setNext a (j vs.length) vs.length ep) c d s):u3 P w a vs I [I,a] h:=by
 refine⟨λi h=>h.get? a=ih o/\h.get? I=ih (hV (.int (j i) 0) i a vs.length ep),λA F=>⟨λb f=>(by simp at f;simp[f]),λi h h' st k=>⟨k a (by simp) _ st.1,k I (by simp) _ st.2⟩,λi s Q E hi st q=>?_,λs Q E st q=>?_,λi s Q E st q=>?_⟩,D,by rw[h0];exact hi⟩
 ·have u:vs[i]?=ih vs[i]:=bw hi
  refine Gf st.2 st.1 n p r (λd c l=>B _ _ i _ d c st.1 u l) λh' g x=>?_;exact q _ h' s.toks u ⟨by rw[x.2 a C];exact st.1,g⟩ λb y f e=>by rw[x.2 b (λz=>f (by simp[z]))];exact e
 ·exact Gq F st.2 st.1 n p r (λd c l=>done _ _ d c st.1 l) λh' k=>q h' s.toks λb y f e=>k b y (λz=>f (by simp[z])) e
 ·have m:s.TypeIs (.ref I) "set_iterator" :=⟨_,st.2,rfl⟩
  refine wI m oZ (hZ oZ m w0 ?_ (w4 _));show Uz _ _ (ret (.ref I)) _ _ s;exact ak ⟨_,rfl,"set_iterator",_,m,lG.lookup,q⟩
theorem Jr{es:Array (Int×i')}{t:Y'}{pt:EZ}{ps:ac Nat}{vs:ac i'}(B:a≠I)(C:pt≠I)(n:o.data=.set es ep t)(p:t.fits es.size=true)(r:es.size=vs.length)(H:ps.length=vs.length)(D:h.get? a=ih o)(hi:h.get? I=ih (hV (.ref pt) 0 a vs.length ep))
  {op:Yy}{c:Nat} (F:h.get? pt=ih op) (m:op.data=.seq (ps.map λ(j:Nat)=>rawInt j).toArray c) (y:∀(i:Nat) (v:i'),vs[i]?=ih v ->∃pl z,ps[i]?=ih pl/\es[pl]?=ih (z,v)):u3 P w a vs I [I,a,pt] h:=by
 refine⟨λi h=>h.get? a=ih o/\h.get? pt=ih op/\h.get? I=ih (hV (.ref pt) i a vs.length ep),λA G=>⟨λb d=>(by simp at d;simp[d]),λi h h' st k=>⟨k a (by simp) _ st.1,k pt (by simp) _ st.2.1,k I (by simp) _ st.2.2⟩,λi s Q E hi st q=>?_,λs Q E st q=>?_,λi s Q E st q=>?_⟩,D,F,hi⟩
 ·have u:vs[i]?=ih vs[i]:=bw hi
  obtain⟨pl,z,h1,h2⟩:=y i _ u;refine Gg st.2.2 st.1 n p r ⟨op,c,st.2.1,m⟩ h1 h2 λh' g f=>?_;exact q _ h' s.toks u ⟨by rw[f.2 a B];exact st.1,by rw[f.2 pt C];exact st.2.1,g⟩ λb x d e=>by rw[f.2 b (λz=>d (by simp[z]))];exact e
 ·exact Gr G st.2.2 st.1 n p r ⟨op,c,st.2.1,m⟩ (by omega) λh' k=>q h' s.toks λb x d e=>k b x (λz=>d (by simp[z])) e
 ·have l:s.TypeIs (.ref I) "set_iterator" :=⟨_,st.2.2,rfl⟩
  refine wI l oZ (hZ oZ l w0 ?_ (w4 _));show Uz _ _ (ret (.ref I)) _ _ s;exact ak ⟨_,rfl,"set_iterator",_,l,lG.lookup,q⟩
end
theorem Bb(j k:Nat):YR #[j] k=if j<k then 1 else 0:=by
 unfold YR;show YL #[j] k 1 0 1=_;unfold YL
 by_cases h:j<k
 ·simp[h,YL]
 ·simp[h,YL]
theorem Hv(k:Nat):YR #[] k=0:=by unfold YR;rfl
section
variable{xs:ac Fv}
theorem Js(X:d8 P w s.heap a xs)(xc:xs.Nodup)
  (q:∀(h':X8) (d':Drawn) (I:EZ) (fp:ac EZ) (vs:ac i') (ys:ac Fv),u3 P w a vs I fp h'->Yl vs ys->ys.Perm xs->(∀b∈fp,b=a\/s.heap.objs.size<=b)->I∈fp->(∀b∈fp,b<h'.objs.size)->s.heap.objs.size<=I->(∀b G,s.heap.get? b=ih G->h'.get? b=ih G)->Q (.ref I) { s with heap:=h',drawn:=d' }) :
  Uz (UO P w) A (pyIter (.ref a)) Q E s:=by
 have Y:=X.typeIs;obtain⟨o,es,ep,t,m,ye,f,xb,ya,yc,c,zf,za,yb⟩:=X;have D:=bt m;obtain⟨ks,K,zc⟩:=Hu xb;have xd:ks.length=xs.length:=by have:=lT K;rw[aB,f5]at this;omega
 have kp:ks.Perm xs:=Gs xc xd λx yd=>(zc x).mpr ((ya x).mp yd);refine wI Y aa8 (hZ aa8 Y Gp ?_ (F.args_set_iter_1 _));unfold Ya.«frozenset.__iter__» aaG aaH setEntries setDrawn setsByText;refine ae (ae (ak (ak ?_)));refine ae (ae (ae (g9 m f c (ak (ak ?_)))))
 dsimp only
 refine ae (ae (g9 m f c ?_));dsimp only;refine ae (ae (iG (ak (ak ?_))));show Uz _ _ (if (!w.params.followText "set-order" && (!t.plain&&decide (es.size>1)))=true then _ else _) _ _ s
 by_cases big:(!w.params.followText "set-order" && (!t.plain&&decide (es.size>1)))=true
 ·
  rw[aE big];refine ae (CD es.size (VD es.size) (by simp) λps d M=>?_)
  have h:ps.length=es.size:=by rw[M.length_eq];simp
  refine ae (fH ?_ (by show(ps.map _).toArray.size<=UB;rw[bY,aB,h];exact wF yc))
  refine ae ?_;unfold setEpoch;refine ae (g9 (a5 _ m) f c (ak ?_))
  dsimp only
  refine ae (fH (ak ⟨_,rfl,"set_iterator",_,⟨_,bU _ rfl,rfl⟩,lG.lookup,?_⟩));have zb:∀p∈ps,p<es.size:=λp C=>jd.mp (M.mem_iff.mp C)
  let vs:ac i':=ps.map λp=>(es.toList.map (·.2)).getD p .none
  have pv:vs.Perm (es.toList.map (·.2)):=by
   have e1:(VD es.size).map (λp=>(es.toList.map (·.2)).getD p .none)=es.toList.map (·.2):=by
    apply Fu
    ·simp
    ·intro n h1 h2
     have:n<es.size:=by simpa using h1
     simp[this]
   rw[<-e1];exact M.map _
  obtain⟨ys,N,O⟩:=Ba K pv;have vl:vs.length=es.size:=by show(ps.map _).length=_;rw[aB,h]
  have eI:(s.heap.push { cls:=.type "tuple",data:=.seq (ps.map λ(i:Nat)=>rawInt i).toArray }).objs.size=s.heap.objs.size+1:=g7 ..;refine q _ d _ [_,a,s.heap.objs.size] vs ys (Jr (o:=o) (op:={ cls:=.type "tuple",data:=.seq (ps.map λ(i:Nat)=>rawInt i).toArray }) (ps:=ps) (by rw[eI];exact bK (ly D)) (by rw[eI];exact bK (j4 _)) f c vl.symm (by rw[vl,h]) (a5 _ (a5 _ m)) ?_ (a5 _ (bU _ rfl)) rfl ?_) N (O.trans kp) ?_ aW ?_ (by rw[eI];omega) λb G e=>a5 _ (a5 _ e)
  ·rw[bU _ rfl,vl];rfl
  ·intro i v y
   have S:(ps.map λp=>(es.toList.map (·.2)).getD p .none)[i]?=ih v:=y;rw[cI]at S;obtain⟨p,C,H⟩:=gu.mp S;have T:=zb p (eK C);refine⟨p,es[p].1,C,?_⟩;rw[mU T]
   congr 1
   rw[<-H];simp[T]
  ·intro b g
   simp only[bH,jo,jq]at g;rcases g with rfl|rfl|rfl
   ·exact .inr (by rw[eI];omega)
   ·exact .inl rfl
   ·exact .inr (aP _)
  ·intro b g
   simp only[bH,jo,jq]at g;rw[g7,eI];rcases g with z|z|z
   ·rw[z,eI];exact j4 _
   ·rw[z];exact ly (ly D)
   ·rw[z];exact ly (j4 _)
 ·rw[ao big]
  refine ae (ak ?_);refine ae ?_;unfold setEpoch;refine ae (g9 m f c (ak ?_))
  dsimp only
  refine ae (fH (ak ⟨_,rfl,"set_iterator",_,⟨_,bU _ rfl,rfl⟩,lG.lookup,?_⟩));have U:∀b ∈ [s.heap.objs.size,a],b=a\/s.heap.objs.size<=b:=λb g=>by
   simp only[bH,jo,jq]at g;rcases g with rfl|rfl
   ·exact .inr (aP _)
   ·exact .inl rfl
  have V:∀(Z:Yy),∀b ∈ [s.heap.objs.size,a],b<(s.heap.push Z).objs.size:=λZ b g=>by
   simp only[bH,jo,jq]at g;rw[g7];rcases g with z|z
   ·rw[z];exact j4 _
   ·rw[z];exact ly D
  cases r:w.params.followText "set-order" with
  |true =>
   have xa:∀next:Nat->Nat,((pickOrder next es).toList.map (·.2)).Perm (es.toList.map (·.2)):=λnext=>by
    unfold pickOrder;have:=A' next es.size 0 es.toList #[] (by simp)
    exact(by simpa using this:(Zg next es.size 0 es.toList #[]).toList.Perm es.toList).map _
   obtain⟨ys,N,O⟩:=Ba K (xa (w.params.setOrder a ep));have vl:=(xa (w.params.setOrder a ep)).length_eq;rw[aB,f5,aB,f5]at vl;refine q _ s.drawn _ [_,a] ((pickOrder (w.params.setOrder a ep) es).toList.map (·.2)) ys (BR (o:=o) (λ_=>0) (bK D) f c (by rw[aB,f5,vl]) rfl (a5 _ m) ?_ ?_ ?_) N (O.trans kp) U aW (V _) (aP _) λb G e=>a5 _ e
   ·rw[bU _ rfl,aB,f5,vl];rfl
   ·intro A s i v R B l y u
    unfold setNext setsByText;refine ae (g9 l f c ?_);dsimp only;refine ae (ae (iG (ak ?_)));show Uz _ _ (if w.params.followText "set-order" = true then _ else _) _ _ _;rw[aE r,ao (by simp)]
    unfold setWalk setsByText;refine ae (ae (g9 l f c ?_));dsimp only;refine ae (ae (iG (ak ?_)));show Uz _ _ (if w.params.followText "set-order" = true then _ else _) _ _ _;rw[aE r];refine ae (iG (ak (ak ?_)));show B (((pickOrder (w.params.setOrder a ep) es)[i]?).map λe=>(e.2,0)) s;rw[cI,oN]at y;obtain⟨e,L,H⟩:=gu.mp y;rw[L];show B (ih (e.2,0)) s;rw[H];exact u
   ·intro A s R B l u
    unfold setNext setsByText;refine ae (g9 l f c ?_);dsimp only;refine ae (ae (iG (ak ?_)));show Uz _ _ (if w.params.followText "set-order" = true then _ else _) _ _ _;rw[aE r,ao (by simp)]
    unfold setWalk setsByText;refine ae (ae (g9 l f c ?_));dsimp only;refine ae (ae (iG (ak ?_)));show Uz _ _ (if w.params.followText "set-order" = true then _ else _) _ _ _;rw[aE r];refine ae (iG (ak (ak ?_)));show B (((pickOrder (w.params.setOrder a ep) es)[((pickOrder (w.params.setOrder a ep) es).toList.map (·.2)).length]?).map λe=>(e.2,0)) s;rw[rT (by simp)]
    exact u
  |false =>
   have a3:es.size<=1:=by
    rw[r]at big
    by_cases z:es.size<=1
    ·exact z
    ·have C:=yb (by omega)
     rw[C]at big;exact absurd (by simp;omega) big
   have W:t.led=true:=by rw[za,r];rfl
   have yf:t.place.size=es.size:=by
    have:=c;simp only[SetTable.fits,gK,dA,decide_eq_true_eq]at this;exact this.1
   refine q _ s.drawn _ [_,a] (es.toList.map (·.2)) ks (BR (o:=o) (λi=>if i=0 then 0 else t.place.getD 0 0+1) (bK D) f c (by rw[aB,f5]) rfl (a5 _ m) ?_ ?_ ?_) K kp U aW (V _) (aP _) λb G e=>a5 _ e
   ·rw[bU _ rfl,aB,f5];rfl
   ·intro A s i v R B l y u
    rw[cI,oN]at y;obtain⟨e,L,H⟩:=gu.mp y;have hi:i<es.size:=(wg.mp L).1;have zd:i=0:=by omega
    subst zd;obtain⟨h,J⟩:∃j,t.place = #[j]:=by
     have:t.place.size=1:=by omega
     exact⟨t.place[0],by
      apply abC
      ·simp[this]
      ·intro k h1 h2;have:k=0:=by omega
       subst this;simp⟩
    unfold setNext setsByText;refine ae (g9 l f c ?_);dsimp only;refine ae (ae (iG (ak ?_)));show Uz _ _ (if w.params.followText "set-order" = true then _ else _) _ _ _;rw[ao (by rw[r];exact b')]
    show Uz _ _ (if (!t.plain&&decide (es.size>1))=true then _ else _) _ _ _;rw[ao (by simp;omega)]
    show Uz _ _ ((if (!t.led && !es.isEmpty)=true then unsupported "set:maker-not-led" else pure ()) >>= _) _ _ _;rw[W,ao (by simp)]
    refine ae (ak ?_);rw[J,aE rfl,Bb,ao (by omega),L]
    refine ak ?_;show B (ih (e.2,h+1)) s;rw[H];have:(if 0+1=0 then 0 else t.place.getD 0 0+1)=h+1:=by rw[J];rfl
    rw[this]at u;exact u
   ·intro A s R B l u
    unfold setNext setsByText;refine ae (g9 l f c ?_);dsimp only;refine ae (ae (iG (ak ?_)));show Uz _ _ (if w.params.followText "set-order" = true then _ else _) _ _ _;rw[ao (by rw[r];exact b')]
    show Uz _ _ (if (!t.plain&&decide (es.size>1))=true then _ else _) _ _ _;rw[ao (by simp;omega)]
    show Uz _ _ ((if (!t.led && !es.isEmpty)=true then unsupported "set:maker-not-led" else pure ()) >>= _) _ _ _;rw[W,ao (by simp)]
    refine ae (ak ?_);have out:es[YR t.place (if (es.toList.map (·.2)).length=0 then 0 else t.place.getD 0 0+1)]?=none:=by
     rw[aB,f5]
     by_cases z:es.size=0
     ·have:t.place = #[]:=Array.eq_empty_of_size_eq_zero (by omega)
      rw[this,Hv];exact rT (by omega)
     ·have e1:es.size=1:=by omega
      obtain⟨h,J⟩:∃j,t.place = #[j]:=by
       have:t.place.size=1:=by omega
       exact⟨t.place[0],by
        apply abC
        ·simp[this]
        ·intro k h1 h2;have:k=0:=by omega
         subst this;simp⟩
      rw[ao z,J,Bb];have : #[h].getD 0 0=h:=rfl;rw[this,aE (by omega)]
      exact rT (by omega)
    rw[out];exact ak u
end
end HS
namespace HS
open Spec PyProof.Rows W
section
variable{xs:ac Fv}
theorem Jt{Q:Bool->Ux->Prop}(c:s.TypeIs (.ref a) "set")(h:Q false s):Uz (UO P w) A (Zm (.ref a)) Q E s:=by
 unfold Zm;refine ae (wpAny_specialOf c PySem.F.slot_set_len.lookup ?_);generalize d:("set.__len__" : String)=e
 wp_delta
 rw[show splitId e=ih ("set","__len__") from by subst d;decide +kernel];subst d
 refine ae (FD (T:= "set") (b:=true) c (by rw[Fz];kernel_rfl) ?_)
 refine FE (λz=>absurd z (by decide)) λ_=>FE (λ_=>?_) λz=>absurd (by decide +kernel) z
 exact ae (jj c (ak h))
theorem Hw{R:Y7->Ux->Prop}(V:A.handled=none)(p:d8 P w s.heap a xs)(X:xs.Nodup)(S:EZ)(v:S≠a)(i:i')(r:Nat)(D:s.heap.get? S=ih { cls:=.type "list",data:=.seq #[] r })
  (Y:∀h' d' tk (vs:ac i') (ys:ac Fv) g,(∀b o,b≠S->s.heap.get? b=ih o->h'.get? b=ih o)->h'.get? S=ih { cls:=.type "list",dict:=none,data:=.seq vs.toArray g,slots:= #[] }->Yl vs ys->ys.Perm xs->R (.ok (.ret i)) { s with heap:=h',drawn:=d',toks:=tk }) :
  Uz (UO P w) A.in1 (Yb (.ref S) (.ref a) i)
   (λN s'=>match N with|.done f=>R (.ok f) s'|.again g=>g.quiet=true/\codeAny (UO P w) A g R s') (λe s'=>R (.error e) s') s:=by
 have E:=p.typeIs;have O:xs.length<scanBound:=by obtain⟨o,es,ep,t,yd,zc,zd,xd,qD,d,xe,ye,_⟩:=p;omega
 unfold Yb;refine ae (jj (T:= "set") E ?_);have h1:Zr (.ref S) (.ref a)=false:=by simp[Zr,v]
 have h2:(Ye "set" == Ye "list")=false:=by decide
 have Z:(Ye "set" == Ye "tuple")=false:=by decide
 simp only[h1,h2,Z,E9,vX,j6];refine ae (Js p X λh' d' I fp vs ys W G H F ze xf ya k=>?_);obtain⟨St,za,st⟩:=W.go;have J:=za A.in1 (by simpa using V)
 have vl:vs.length=xs.length:=by rw[lT G,H.length_eq]
 have x:S ∉ fp:=λz=>by
  rcases F S z with e|e
  ·exact v e
  ·exact absurd (bt D) (Fj.mpr e)
 have xb:Y1 { s with heap:=h',drawn:=d' } (.ref a) "set" :=by
  obtain⟨o,e,c⟩:=E;exact⟨o,k _ _ e,c⟩
 refine ae (eh (Jt xb ?_));have n:=k _ _ D;have y:∀(h:X8) (l:Nat),St 0 h->(∀b o,b≠S->s.heap.get? b=ih o->h.get? b=ih o)->h.get? S=ih { cls:=.type "list",data:=.seq #[] l } ->
   codeAny (UO P w) A (.builtin "list.extend.loop" ⟨[.ref S,.ref I,i],[]⟩) R { s with heap:=h,drawn:=d' }:=by
  intro h l Q yb L;refine codeAny_extend_loopS J.toS (by rw[vl];exact wF O) S x i vs.length 0 _ #[] l rfl (bB _) Q L (ItemsOf.nil _) λs' u g K U m=>?_
  rw[Moved.eq_with K];have zb:u.toList=vs:=by
   apply List.ext_getElem?
   intro j;rw[oN]
   by_cases xc:j<vs.length
   ·have B:j<u.size:=by rw[m.1];exact xc
    rw[mU B];exact(m.2 j _ (mU B)).symm
   ·rw[rT (by rw[m.1];omega),rR (by omega)]
  refine Y s'.heap d' s'.toks vs ys g (λb o d e=>K.heap b o (λqD=>?_) (yb b o d e)) (by rw[U,<-zb]) G H
  rcases bH.mp qD with yc|qD
  ·exact d yc
  ·exact absurd (bt e) (by rw[bL.mp qD];exact Fj.mpr ya)
 refine FE (λ_=>?_) (λ_=>ak ⟨jn U9 _,y _ r st (λb o _ e=>k b o e) n⟩);refine ae (jf (ae ?_));show Uz _ _ (updateSeq S (·.push .none) >>= λ_=>updateSeq S (·.pop)) _ _ _;refine ae (FF n rfl ?_);have q:=oM (X1 (·.push VB)) n rfl;refine FF (hz:=by seq_fits) q rfl ?_
 have M:=oM (X1 (·.pop)) q rfl;have C:∀b o,b≠S->h'.get? b=ih o->((h'.update S (X1 (·.push VB))).update S (X1 (·.pop))).get? b=ih o:=λb o d e=>(j7 _ _ (aS d)).trans ((j7 _ _ (aS d)).trans e);exact ak ⟨jn U9 _,y _ _ (J.frame 0 _ _ st λb d o e=>C b o (λz=>x (z ▸ d)) e) (λb o d e=>C b o d (k b o e)) M⟩
theorem GQ{Q:ac i'->Ux->Prop}(d:A.handled=none)(c:d8 P w s.heap a xs)(f:xs.Nodup)
  (g:∀h' d' tk (vs:ac i') (ys:ac Fv),(∀b o,s.heap.get? b=ih o->h'.get? b=ih o)->Yl vs ys->ys.Perm xs->Q vs { s with heap:=h',drawn:=d',toks:=tk }):Uz (UO P w) A (collect (.ref a)) Q E s:=by
 unfold collect;refine ae (Fy (h3 U' ?_));rw[iE Va _];show Uz _ A.in1 (newList [] >>= λl=>again (.builtin "list.__iadd__" ⟨[l,.ref a],[]⟩)) _ _ s;refine ae (fH (ak ⟨jn wJ _,h3 Vb ?_⟩));rw[iE wJ _];show Uz _ A.in1 (Yb (.ref s.ai) (.ref a) (.ref s.ai)) _ _ _;have h:s.ai≠a:=jg c.lt;refine Hw (R:=λr s'=>match r with|.ok (.ret v)=>Uz (UO P w) A (match v with|.ref a=>(do match (<- load a).data with|.seq xs _=>pure xs.toList|_=>unsupported "internal:collect")|_=>unsupported "internal:collect") Q E s'|.ok _=>False|.error e=>E e s') (s:={ s with heap:=s.heap.push { cls:=.type "list",data:=.seq ([]:ac i').toArray } }) d (c.keep λo e=>a5 _ e) f _ h _ 0 (bU _ rfl) λh' d' tk vs ys n k i j m=>?_;show Uz _ A (load s.ai >>= _) _ _ _;refine ae (oK i (ak ?_));exact g h' d' tk vs ys (λb o e=>k b o (bK (bt e)) (a5 _ e)) j m
theorem Hx(l:A.handled=none)(p:d8 P w s.heap a xs)(q:xs.Nodup)(G:xs.length<=63)
  (r:∀D c h' d' tk (vs:ac i') (ys:ac Fv),(∀b o,s.heap.get? b=ih o->h'.get? b=ih o)->(∀b o,s.heap.get? b=ih o->b≠D)->h'.get? D=ih (listOf vs.toArray c)->Yl vs ys->ys.Perm xs->sortedS ys=true->Q (.ref D) { s with heap:=h',drawn:=d',toks:=tk }) :
  Uz (UO P w) A (call (.builtin "sorted") [.ref a]) Q E s:=by
 refine Vc kind_sorted plain_sorted entry_sorted (args_sorted1 _) ?_;unfold Ya.«sorted»;refine ae (m:=checkCount "sorted" 1 1 _) (ak (ae (GQ (by simpa using l) p q λh1 t u vs ys h d i=>?_)))
 have vl:vs.length=xs.length:=by rw[lT d,i.length_eq]
 refine ae (wD ?_ (by rw[aV];omega))
 have f:(h1.push (seqObj "list" vs.toArray 0)).get? h1.objs.size=ih (seqObj "list" vs.toArray 0):=bU _ rfl;refine ae (eh (hZ slot_list_sort ⟨_,f,rfl⟩ entry_list_sort (list_sort_treeK strKind_oneLt f d.keysOf (λC F rest e=>keyKind_strs (by rw[<-e];exact d)) (by omega) λj v x=>⟨_,rfl,?_⟩) (args_list_sort _)))
 obtain⟨k,b1,y,z⟩:=sorted_out_str d v x;obtain⟨c,B⟩:=sortedHeap_at (n:=0) (vs:=vs) (out:=(arrOf j).map (·.2)) f;refine ak ⟨_,rfl,r _ c _ t u _ k (λb o e=>?_) (λb o e=>bK (bt (h b o e))) (by rw[B]) b1 (y.trans i) z⟩
 have e1:=h b o e;have g:=bt e1;rw[sortedHeap_old (bK g) (by rw[size_push'];exact ly g),Heap.get?_push_ne _ _ _ (bK g)]
 exact e1
end
end HS
namespace L2
open Spec PyProof.Rows W HS
def i5(P:Yc)(w:Yi)(a:EZ)(xs:List Fv):HO:=.ext λh=>xs.Nodup/\d8 P w h a xs
theorem KH{xs:ac Fv}(b:xs.Nodup)(x:d8 P w h a xs):bC P w H h a (i5 P w a xs):=
 ⟨⟨b,x⟩,(let ⟨o,_,_,_,e,_⟩:=x;⟨o,e⟩),λ_ _ q k=>⟨q.1,q.2.keep k⟩⟩
theorem Inv.draw{σ:ac (Option V)}(I:Inv X J σ H s)(d:Drawn):Inv X J σ H { s with drawn:=d }:=⟨I.ok,I.os,I.bare,I.base,I.loc,I.cell,I.free,I.eP,I.pin,I.aH,I.len⟩
theorem tI:∀{vs:ac i'}{ys:ac Fv},Yl vs ys ->∀(i:Nat) (v:i'),vs[i]?=ih v ->∃t,v=.str (ys.getD i "") t
 |_,_,.nil,i,v,h=>by simp at h
 |_,_,.cons y t r,0,v,h=>by simp at h;exact⟨t,by rw[<-h];rfl⟩
 |_,_,.cons y t r,i+1,v,h=>by
  obtain⟨t',e⟩:=tI r i v (by simpa using h)
  exact⟨t',by rw[e];rfl⟩
theorem BS(D:X.calm=true):cU X (.type "set") (λvs H Q=>∃(p:EZ) (c:ac Fv),vs=[.ref p]/\(aj X.K H p (c.map V.str)\/ay X.K H p (c.map V.str))/\c.length<=1000 /\∀a ds,H a=none->ds.Nodup->(∀y,y∈ds ↔ y∈c)->Q (.ref a) (upd H a (i5 X.prog X.w a ds))):=by
 intro J s σ H vs us Q I r h;obtain⟨p,c,rfl,hq,O,q⟩:=h;obtain⟨u,rfl,E⟩:=vals1 r;cases E
 have A:∀(its:ac i') {T:String}{ol:Yy},Vals (c.map V.str) its->Src X.prog X.w T p ol its.toArray.size (λi v=>its.toArray[i]?=ih v)->s.heap.get? p=ih ol->wA X (call (.type "set") [.ref p]) (EP X J σ Q) X.xe s:=λits {T ol} F C G=>by
  have st:=o3 F;have z:its.length=c.length:=lT st;refine Ii (val:=λi=>c.getD i "") (I.ok.hd D) C G (λi v L=>tI st i v (by simpa using L)) (by rw[bY,z];unfold scanBound;omega) λh' tk x k=>?_
  have kp:∀b o,s.heap.get? b=ih o->h'.get? b=ih o:=λb o e=>k b o (bt e) e;have B:=CC (λi=>c.getD i "") its.toArray.size;refine⟨.ref s.heap.objs.size,_,I.laid (t':=tk) kp (aP _) (KH B x),rfl,q _ _ (I.aH.fresh (aP _)) B λy=>?_⟩;rw[BO,bY,z]
  constructor
  ·rintro⟨j,d,rfl⟩
   rw[show c.getD j "" = c[j] by simp[d]]
   exact eL d
  ·intro M
   obtain⟨j,d,e⟩:=wK.mp M;exact⟨j,d,by simp[d,e]⟩
 rcases hq with hq|hq
 ·obtain⟨its,g,l,N⟩:=I.list hq
  obtain⟨o,m,f,n,t⟩:=l.isList;exact A its g (src_list f ⟨n,t⟩) m
 ·obtain⟨its,g,l,N⟩:=I.tuple hq
  obtain⟨o,m,f,n,t⟩:=l;exact A its g (KG f ⟨n,t⟩) m
theorem GR:cU X (.builtin "len") (λvs H Q=>∃(a:EZ) (ds:ac Fv),vs=[.ref a]/\H a=ih (i5 X.prog X.w a ds)/\Q (.int ds.length) H):=by
 intro J s σ H vs us Q I r h;obtain⟨a,ds,rfl,c,q⟩:=h;obtain⟨u,rfl,d⟩:=vals1 r;cases d
 obtain⟨⟨m,o,es,ep,t,e,b,f,l,k,g,i,j,_⟩,_⟩:=(show bC X.prog X.w H s.heap a (i5 X.prog X.w a ds) from I.aH a _ c);refine call_len_set e b f i (by unfold scanBound at g;omega) ?_
 rw[<-j]at q;exact⟨.int es.size,H,I.tok _,⟨_,rfl⟩,q⟩
theorem F9(j:X.calm=true):cU X (.builtin "sorted") (λvs H Q=>∃(a:EZ) (ds:ac Fv),vs=[.ref a]/\H a=ih (i5 X.prog X.w a ds)/\ds.length<=63 /\∀D d,H D=none->d.Perm ds->sortedS d=true->Q (.ref D) (upd H D (.lst (d.map V.str)))):=by
 intro J s σ H vs us Q I r h;obtain⟨a,ds,rfl,l,g,q⟩:=h;obtain⟨u,rfl,n⟩:=vals1 r;cases n
 obtain⟨⟨t,x⟩,_⟩:=(show bC X.prog X.w H s.heap a (i5 X.prog X.w a ds) from I.aH a _ l);obtain⟨m,f,_⟩:=id I.loc;refine Hx (I.ok.hd j) x t g λD c h' v tk out ys k y new st p i=>?_;obtain⟨z,A⟩:=Inv.sorted (t':=tk) (ys:=ys.map V.str) I f (f.at' λo e=>k _ _ e) (λb o _ e=>k b o e) y new (A9 st) (by rw[aB,p.length_eq,aV];omega)
 exact⟨.ref D,_,A.draw v,rfl,q _ ys z p i⟩
end L2
namespace L2
open W Calls PyProof.Rows
section
variable{α β:Type}{n:Nat}{lt:Nat->Nat->Bool}
def hW(lt:Nat->Nat->Bool)(p:Array Nat)(k:Nat):Prop:= ∀i j,i<j->j<k->lt (p.getD i 0) (p.getD j 0)=true
def j0(lt:Nat->Nat->Bool)(p:Array Nat)(k:Nat):Prop:= ∀i j,i<j->j<k->lt (p.getD j 0) (p.getD i 0)=true
theorem Pm.size{p:Array Nat}(h:Pm n p):p.size=n:=by have:=h.length_eq;simpa using this
theorem Pm.ne{p:Array Nat}(h:Pm n p)(hi:i<n)(c:j<n)(e:i≠j):p.getD i 0≠p.getD j 0:=by
 have d:=h.size;have a:p.toList.Nodup:=h.nodup_iff.mpr aan;intro z;rw[iF,iF,mU (by omega),mU (by omega)]at z
 have b:p.toList[i]'(by simp;omega)=p.toList[j]'(by simp;omega):=by simpa using z
 exact e ((aap a).mp b)
theorem BU{p:Array Nat}{m:Nat}(a:m<=p.size)(k:Nat)(b:k<m):(kas_rev p 0 m).getD k 0=p.getD (m - 1 - k) 0:=by
 unfold kas_rev;rw[iF,getElem?_mirror_all a,aE ⟨bB _,b⟩,iF,Nat.zero_add]
theorem j0.rev{p:Array Nat}{m:Nat}(b:m<=p.size)(a:j0 lt p m):hW lt (kas_rev p 0 m) m:=λi j d c=>by
 rw[BU b i (by omega),BU b j c]
 exact a _ _ (by omega) (by omega)
theorem BV{p:Array Nat}{k l:Nat}(c:k<p.size)(d:l<=k)(i:Nat):(bubble p k (k - l)).getD i 0=if i=l then p.getD k 0 else if l<i/\i<=k then p.getD (i - 1) 0 else p.getD i 0:=by
 rw[iF,getElem?_bubble c (k - l) (by omega)]
 have:k - (k - l)=l:=by omega
 rw[this]
 by_cases a:i=l
 ·rw[aE a,aE a];exact(iF ..).symm
 ·rw[ao a,ao a]
  by_cases b:l<i/\i<=k
  ·rw[aE b,aE b];exact(iF ..).symm
  ·rw[ao b,ao b];exact(iF ..).symm
end
def iA(p q:Fv):Bool:=decide (p.cps.toList<q.cps.toList)
theorem BW(p:Fv):iA p p=false:=ef (List.lt_irrefl _)
theorem LY{p r:Fv}(h1:iA p q=true)(h2:iA q r=true):iA p r=true:=cb (List.lt_trans (dJ h1) (dJ h2))
theorem KJ{p:Fv}(h:p≠q)(f:iA p q=false):iA q p=true:=by
 refine cb ?_;have h1 : ¬ p.cps.toList<q.cps.toList:=of_decide_eq_false f;have h2:q.cps.toList<=p.cps.toList:=abi.mp h1
 by_cases z:q.cps.toList<p.cps.toList
 ·exact z
 ·exact absurd (Jl (a:=p) (b:=q) (abi.mp z) h2) h
theorem Ij{α β:Type}{F:α->β->Prop}{l:ac α}{m:ac β}(h:VM F l m)(dl:α)(a:β)(i:Nat)(hi:i<l.length):F (l.getD i dl) (m.getD i a):=by
 induction h generalizing i with
 |nil=>exact absurd hi (oR _)
 |cons p _ b =>
  cases i with
  |zero=>exact p
  |succ i=>exact b i (wH hi)
theorem Aq{α β a:Type}{F:α->β->Prop}{f:a->α}{g:a->β}:∀{l:ac a},(∀x∈l,F (f x) (g x))->VM F (l.map f) (l.map g)
 |[],_=>.nil
 |x::l,h=>.cons (h x aW) (Aq λy b=>h y (ba _ b))
theorem LZ{lt:Nat->Nat->Bool}{p:Array Nat}{n:Nat}(d:p.size=n)(a:hW lt p n):p.toList.Pairwise λi j=>lt i j=true:=by
 rw[List.pairwise_iff_getElem];intro i j hi c b;have h1:i<p.size:=by simpa using hi
 have h2:j<p.size:=by simpa using c
 have:=a i j b (by omega)
 rw[iF,iF,mU h1,mU h2]at this
 simpa using this
end L2
namespace HS
open Spec PyProof.Rows W
theorem GS{vs:ac i'}{Q:ac i'->Ux->Prop}(c:Yv s.heap l vs.toArray)(hz:vs.length<=UB)(q:∀h',(∀b o,s.heap.get? b=ih o->h'.get? b=ih o)->Q vs { s with heap:=h' }) :
  Uz (UO P w) A (collect (.ref l)) Q E s:=by
 obtain⟨o,d,f,n,g⟩:=id c;unfold collect;refine ae (Fy (h3 U' ?_));rw[iE Va _];show Uz _ A.in1 (newList [] >>= λz=>again (.builtin "list.__iadd__" ⟨[z,.ref l],[]⟩)) _ _ s;refine ae (wD (ak ⟨jn wJ _,h3 Vb ?_⟩));rw[iE wJ _];show Uz _ _ (Yb (.ref s.heap.objs.size) (.ref l) (.ref s.heap.objs.size)) _ _ { s with heap:=s.heap.push (seqObj "list" #[] 0) };unfold Yb;have a:(s.heap.push (seqObj "list" #[] 0)).get? l=ih o:=a5 _ d;refine ae (jj (T:= "tuple") ⟨o,a,f⟩ ?_);have h:(Ye "tuple" == Ye "tuple")=true:=by rfl
 rw[aE (by rw[h];simp)]
 refine ae (listItems_at a g (ae (listItems_at (xs:= #[]) (n:=0) (bU _ rfl) rfl ?_)));rw[ao (by simp)]
 refine ae (listUpdate_at (xs:= #[]) (n:=0) (bU _ rfl) rfl (ak ?_) (bB _) (by show(#[]++vs.toArray).size<=UB+1;simp only[rP,bY,jm];omega))
 show Uz (UO P w) A (load s.heap.objs.size >>= _) Q E { s with heap:=(s.heap.push (seqObj "list" #[] 0)).update s.heap.objs.size (X1 (· ++ vs.toArray)) };refine ae (oK (get?_update_seq (bU _ rfl) _) ?_);show Uz _ _ (pure ((#[]:Array i')++vs.toArray).toList) Q E _;rw[show((#[]:Array i')++vs.toArray).toList=vs by simp]
 refine ak (q _ λb i e=>?_);exact(j7 _ _ (jg (bt e))).trans (a5 _ e)
end HS
namespace L2
open Spec PyProof.Rows W HS
end L2
namespace L2
open W Calls PyProof.Rows
structure hM(n:Nat)(lt:Nat->Nat->Bool):Prop where
 tr:∀i j k,i<n->j<n->k<n->lt i j=true->lt j k=true->lt i k=true
 Py:∀i j,i<n->j<n->i≠j->lt i j=false->lt j i=true
def cM{α:Type}(n:Nat)(lt:Nat->Nat->Bool)(φ:α->Prop):KasT α->Prop
 |.ret a=>φ a
 |.ask i j k=>i<n/\j<n/\i≠j/\cM n lt φ (k (lt i j))
section
variable{α β:Type}{n:Nat}{lt:Nat->Nat->Bool}
theorem cM.bind{b:α->Prop}{ψ:β->Prop}{f:α->KasT β}(g:∀a,b a->cM n lt ψ (f a)):∀{t:KasT α},cM n lt b t->cM n lt ψ (t.bind f)
 |.ret a,h=>g a h
 |.ask _ _ _,h=>⟨h.1,h.2.1,h.2.2.1,cM.bind g h.2.2.2⟩
theorem cM.wp{c:α->Prop}{b:Nat->Nat->(Bool->Ux->Prop)->Ux->Prop}{Q:α->Ux->Prop}{s:Ux}(d:∀i j C,i<n->j<n->i≠j->C (lt i j) s->b i j C s):∀{t:KasT α},cM n lt c t->(∀a,c a->Q a s)->t.kasWp b Q s
 |.ret a,h,q=>q a h
 |.ask _ _ _,h,q=>d _ _ _ h.1 h.2.1 h.2.2.1 (cM.wp d h.2.2.2 q)
theorem cM.mono{b ψ:α->Prop}(g:∀a,b a->ψ a):∀{t:KasT α},cM n lt b t->cM n lt ψ t
 |.ret a,h=>g a h
 |.ask _ _ _,h=>⟨h.1,h.2.1,h.2.2.1,cM.mono g h.2.2.2⟩
theorem uy{p:Array Nat}(O:hM n lt)(h:Pm n p)(hi:i<n)(a:j<n)(e:i≠j)(f:lt (p.getD i 0) (p.getD j 0)=false):lt (p.getD j 0) (p.getD i 0)=true:=
 O.Py _ _ (h.lt (by omega) i) (h.lt (by omega) j) (h.ne hi a e) f
theorem Ik{p:Array Nat}(O:hM n lt)(h:Pm n p){m:Nat}(h1:1<=m)(c:m<n)(a:hW lt p m)(l:lt (p.getD (m - 1) 0) (p.getD m 0)=true):hW lt p (m+1):=λi j b d=>by
 by_cases e:j<m
 ·exact a i j b e
 ·obtain rfl:j=m:=by omega
  by_cases e2:i=j - 1
  ·rw[e2];exact l
  ·exact O.tr _ _ _ (h.lt (by omega) _) (h.lt (by omega) _) (h.lt (by omega) _) (a i (j - 1) (by omega) (by omega)) l
theorem Il{p:Array Nat}(O:hM n lt)(h:Pm n p){m:Nat}(h1:1<=m)(c:m<n)(a:j0 lt p m)(l:lt (p.getD m 0) (p.getD (m - 1) 0)=true):j0 lt p (m+1):=λi j b d=>by
 by_cases e:j<m
 ·exact a i j b e
 ·obtain rfl:j=m:=by omega
  by_cases e2:i=j - 1
  ·rw[e2];exact l
  ·exact O.tr _ _ _ (h.lt (by omega) _) (h.lt (by omega) _) (h.lt (by omega) _) l (a i (j - 1) (by omega) (by omega))
theorem sS{p:Array Nat}(O:hM n lt)(h:Pm n p):∀(f m:Nat),1<=m->m+f<=n->hW lt p m->cM n lt (λr=>m<=r/\r<=m+f/\hW lt p r/\(r<m+f->lt (p.getD r 0) (p.getD (r - 1) 0)=true)) (kas_asc p f m)
 |0,m,h1,h2,a=>⟨aP _,aP _,a,λz=>absurd z (by omega)⟩
 |f+1,m,h1,h2,a=>⟨h.lt (by omega) _,h.lt (by omega) _,h.ne (by omega) (by omega) (by omega),by
  cases c:lt (p.getD m 0) (p.getD (m - 1) 0) with
  |true=>exact⟨aP _,by omega,a,λ_=>c⟩
  |false =>
   refine cM.mono (λr b=>?_) (sS O h f (m+1) (by omega) (by omega) (Ik O h h1 (by omega) a (uy O h (by omega) (by omega) (by omega) c)))
   exact⟨by omega,by omega,b.2.2.1,λz=>b.2.2.2 (by omega)⟩⟩
theorem Bc{p:Array Nat}(O:hM n lt)(h:Pm n p):∀(f m:Nat),1<=m->m+f<=n->j0 lt p m->cM n lt (λr:Array Nat×Nat×Nat=>r.1=p/\r.2.2=0/\m<=r.2.1/\r.2.1<=m+f/\j0 lt p r.2.1) (kas_desc f p m 0)
 |0,m,h1,h2,a=>⟨rfl,rfl,aP _,aP _,a⟩
 |f+1,m,h1,h2,a=>⟨h.lt (by omega) _,h.lt (by omega) _,h.ne (by omega) (by omega) (by omega),by
  cases c:lt (p.getD m 0) (p.getD (m - 1) 0) with
  |true =>
   show cM n lt _ (if 0>0 then kas_desc f (kas_rev p (m - (0+1)) m) (m+1) 0 else kas_desc f p (m+1) 0);rw[ao (by omega)]
   refine cM.mono (λr b=>?_) (Bc O h f (m+1) (by omega) (by omega) (Il O h h1 (by omega) a c))
   exact⟨b.1,b.2.1,by omega,by omega,b.2.2.2.2⟩
  |false =>
   refine⟨h.lt (by omega) _,h.lt (by omega) _,h.ne (by omega) (by omega) (by omega),?_⟩
   rw[uy O h (by omega) (by omega) (by omega) c]
   exact⟨rfl,rfl,aP _,aaz _ _,a⟩⟩
def qE(n:Nat)(lt:Nat->Nat->Bool)(r:Nat×Array Nat):Prop:=Pm n r.2/\hW lt r.2 r.1/\1<=r.1/\r.1<=n
theorem Hy{p:Array Nat}(O:hM n lt)(h:Pm n p){m:Nat}(h1:1<=m)(h2:m<=n)(a:j0 lt p m):cM n lt (qE n lt) (kas_tail3 m n p):=
 cM.bind (ψ:=qE n lt) (f:=λk=>.ret (k,kas_rev p 0 m)) (λr b=>(show qE n lt (r,kas_rev p 0 m) from⟨h.rev _ _,b.2.2.1,eg h1 b.1,by have:=b.2.1;show r<=n;omega⟩)) (sS O (h.rev 0 m) (n - m) m h1 (by omega) (a.rev (by rw[h.size];exact h2)))
theorem Hz{p:Array Nat}(O:hM n lt)(u:2<=n)(h:Pm n p):cM n lt (qE n lt) (kas_count n p):=
 (sS O h (n - 1) 1 (aP _) (by omega) (λi j d b=>absurd b (by omega))).bind λm f=>by
  obtain⟨c,v,a,k⟩:=f;show cM n lt _ (if (m==n)=true then _ else if m>1 then _ else _);split
  ·rename_i e
   have:m=n:=by simpa using e
   subst this;exact⟨h,a,c,aP _⟩
  ·rename_i e
   have ne:m≠n:=by simpa using e
   split
   ·rename_i g
    refine⟨h.lt (by omega) _,h.lt (by omega) _,h.ne (by omega) (by omega) (by omega),?_⟩
    rw[a 0 (m - 1) (by omega) (by omega)]
    exact⟨h,a,c,by omega⟩
   ·obtain rfl:m=1:=by omega
    have l:=k (by omega)
    have o:j0 lt p 2:=λi j d b=>by
     obtain rfl:j=1:=by omega
     obtain rfl:i=0:=by omega
     exact l
    refine cM.bind (λr q=>?_) (Bc O h (n - (1+1)) (1+1) (by omega) (by omega) o)
    obtain⟨s,w,x,y,t⟩:=q;show cM n lt _ (if r.2.2>0 then _ else _);rw[ao (by omega),s]
    exact Hy O h (by omega) (by omega) t
theorem si{p:Array Nat}(O:hM n lt)(h:Pm n p){k:Nat}(d:k<n)(a:hW lt p k):∀(f l r:Nat),r - l<=f->l<=r->r<=k->(∀i,i<l->lt (p.getD i 0) (p.getD k 0)=true)->(∀i,r<=i->i<k->lt (p.getD k 0) (p.getD i 0)=true) ->
  cM n lt (λm=>m<=k/\(∀i,i<m->lt (p.getD i 0) (p.getD k 0)=true) /\∀i,m<=i->i<k->lt (p.getD k 0) (p.getD i 0)=true) (kas_place p k f l r)
 |0,l,r,s,t,b,lo,hi=>by
  obtain rfl:l=r:=by omega
  exact⟨b,lo,hi⟩
 |f+1,l,r,s,t,b,lo,hi=>by
  show cM n lt _ (if l ≥ r then _ else _);split
  ·obtain rfl:l=r:=by omega
   exact⟨b,lo,hi⟩
  ·refine⟨h.lt (by omega) _,h.lt (by omega) _,h.ne (by omega) (by omega) (by omega),?_⟩
   cases c:lt (p.getD k 0) (p.getD ((l+r) / 2) 0) with
   |true =>
    refine si O h d a f l ((l+r) / 2) (by omega) (by omega) (by omega) lo λi o q=>?_
    by_cases e:i=(l+r) / 2
    ·rw[e];exact c
    ·exact O.tr _ _ _ (h.lt (by omega) _) (h.lt (by omega) _) (h.lt (by omega) _) c (a _ i (by omega) q)
   |false =>
    have g:=uy O h (i:=k) (j:=(l+r) / 2) d (by omega) (by omega) c
    refine si O h d a f ((l+r) / 2+1) r (by omega) (by omega) b (λi o=>?_) hi
    by_cases e:i=(l+r) / 2
    ·rw[e];exact g
    ·exact O.tr _ _ _ (h.lt (by omega) _) (h.lt (by omega) _) (h.lt (by omega) _) (a i _ (by omega) (by omega)) g
theorem BX(O:hM n lt):∀(f:Nat) (p:Array Nat) (k:Nat),k+f=n->Pm n p->hW lt p k->cM n lt (λr=>Pm n r/\hW lt r n) (kas_bin f p k)
 |0,p,k,e,h,a=>by
  obtain rfl:k=n:=by omega
  exact⟨h,a⟩
 |f+1,p,k,e,h,a=>(si O h (by omega) a k 0 k (by omega) (bB _) (aP _) (λi hi=>absurd hi (oR _)) (λi h1 h2=>absurd h2 (by omega))).bind λl q=>by
  obtain⟨b,s,t⟩:=q;refine BX O f _ _ (by omega) (h.Px _ _) λi j o v=>?_
  have u:=h.size;rw[BV (by omega) b i,BV (by omega) b j]
  by_cases c:i=l
  ·rw[aE c,ao (by omega),aE (by omega)]
   exact t _ (by omega) (by omega)
  ·rw[ao c]
   by_cases d:l<i/\i<=k
   ·rw[aE d,ao (by omega),aE (by omega)]
    exact a _ _ (by omega) (by omega)
   ·rw[ao d]
    by_cases g:j=l
    ·rw[aE g];exact s i (by omega)
    ·rw[ao g]
     by_cases m:l<j/\j<=k
     ·rw[aE m]
      exact a _ _ (by omega) (by omega)
     ·rw[ao m]
      exact a _ _ o (by omega)
theorem Im(O:hM n lt)(c:2<=n):cM n lt (λr=>Pm n r/\hW lt r n) (kas_sort n):=
 (Hz O c (j9 _)).bind λr d=>by
  obtain⟨b,a,f,g⟩:=d;show cM n lt _ (if r.1<n then _ else _);split
  ·refine BX O _ _ _ (by omega) b ?_
   rw[show max r.1 1=r.1 by omega];exact a
  ·obtain e:r.1=n:=by omega
   rw[e]at a;exact⟨b,a⟩
end
end L2
namespace L2
open W Calls PyProof.Rows HS
def eY:List Fv->List Fv->Bool
 |a::as,b::bs=>if a=b then eY as bs else iA a b
 |_,_=>false
theorem C6:∀{a b c:ac Fv},a.length=b.length->b.length=c.length->eY a b=true->eY b c=true->eY a c=true
 |[],_,_,h1,_,h,_=>by unfold eY at h;cases h
 |a::f,[],_,h1,_,_,_=>by simp at h1
 |a::f,b::bs,[],_,h2,_,_=>by simp at h2
 |a::f,b::bs,c::g,h1,h2,e,d=>by
  unfold eY at e d⊢
  by_cases e1:a=b
  ·rw[aE e1]at e
   subst e1
   by_cases e2:a=c
   ·rw[aE e2]at d⊢;exact C6 (by simpa using h1) (by simpa using h2) e d
   ·rw[ao e2]at d⊢;exact d
  ·rw[ao e1]at e
   by_cases e2:b=c
   ·subst e2
    rw[ao e1];exact e
   ·rw[ao e2]at d
    have t:=LY e d
    by_cases e3:a=c
    ·subst e3;rw[BW]at t;cases t
    ·rw[ao e3];exact t
theorem CF:∀{a b:ac Fv},a.length=b.length->a≠b->eY a b=false->eY b a=true
 |[],[],_,h,_=>absurd rfl h
 |[],b::bs,h,_,_=>by simp at h
 |a::d,[],h,_,_=>by simp at h
 |a::d,b::bs,h1,h2,c=>by
  unfold eY at c⊢
  by_cases e:a=b
  ·subst e
   rw[aE rfl]at c⊢;exact CF (by simpa using h1) (λz=>h2 (by rw[z])) c
  ·rw[ao e]at c;rw[ao (aS e)]
   exact KJ e c
theorem KL(a b:Fv):eY [a] [b]=iA a b:=by
 unfold eY
 by_cases e:a=b
 ·rw[aE e,e,BW];rfl
 ·rw[ao e]
theorem Io{a b:Fv}{t u:Tok}{c:Bool}{Q:Bool->Ux->Prop}(h:Q (iA a b) s):Uz (UO P w) A (oneLt' c (.str a t) (.str b u)) Q E s:=by
 cases c with
 |true=>exact oneLt_str h
 |false =>
  rw[oneLt'_eq];simp only[vX,j6];exact ae (abR (g6 h))
theorem Bd{b g:Bool}{Q:Bool->Ux->Prop}:∀{c bs:ac Fv}{us vs:ac i'}{d f:ac i'} (i:Nat),Yl us c->Yl vs bs->c.length=bs.length->c≠bs->Q (eY c bs) s->KatLex P w A b g Q ((us++d).zip (vs++f)) i s
 |[],[],_,_,_,_,_,_,_,_,h,_=>absurd rfl h
 |[],_::_,_,_,_,_,_,_,_,h,_,_=>by simp at h
 |_::_,[],_,_,_,_,_,_,_,h,_,_=>by simp at h
 |a::c,k::bs,_,_,d,f,i,.cons _ t h1,.cons _ u h2,l,j,q=>by
  unfold eY at q;refine kat_cons (EN ?_)
  by_cases e:a=k
  ·rw[cb e]
   rw[aE e]at q;exact kat_yes (Bd (i+1) h1 h2 (by simpa using l) (λz=>j (by rw[e,z])) q)
  ·rw[ef e]
   rw[ao e]at q;exact kat_no (Io q)
def ig(H:Hp)(m:Nat)(vs:List V)(kvs:List (List Fv×List V)):Prop:=VM (λy p=>∃a,y=V.ref a/\H a=ih (.tup (p.1.map V.str++p.2))/\p.1.length=m) vs kvs
theorem Ar{H:Hp}:∀{ks:ac Fv}{rest:ac V}{its:ac i'},Vals (ks.map V.str++rest) its ->∃us a,its=us++a/\Yl us ks
 |[],rest,its,h=>⟨[],its,rfl,.nil⟩
 |k::ks,rest,its,h=>by
  cases h with
  |cons r t =>
   obtain⟨tk,rfl⟩:=r;obtain⟨us,a,e,st⟩:=Ar (H:=H) t;exact⟨.str k tk::us,a,by rw[e];rfl,.cons k tk st⟩
theorem Be{σ:ac (Option V)}{Q:VK}
  (zi:∀(A:Yk) (E:i'->Ux->Prop) (xg:ac i'->Ux->Prop),(X.A.handled=none->A.handled=none)->(∀(its:ac i') (s1:Ux) (H:Hp) (ys:ac V) (kvs:ac (List Fv×List V)) (G:Nat),Inv X J σ H s1->Vals ys its->ig H G ys kvs->1<=G->(kvs.map (·.1)).Nodup->ys.length<=63 ->
   (∀D ya xa,H D=none->ya.Perm ys->ig H G ya xa->xa.Perm kvs->(xa.map (·.1)).Pairwise (λa b=>eY a b=true)->Q (.ref D) (upd H D (.lst ya)))->xg its s1)->Uz X.c2 A (collect (.ref p)) xg E s) :
  wA X (call (.builtin "sorted") [.ref p]) (EP X J σ Q) X.xe s:=by
 refine Vc kind_sorted plain_sorted entry_sorted (args_sorted1 _) ?_;unfold Ya.«sorted»;refine ae (m:=checkCount "sorted" 1 1 _) (ak (ae (zi _ _ _ (λh=>by simpa using h) λits s H ys kvs G I xb pr yz zp zz q=>?_)))
 have xq:ys.length<=UB:=by rw[aV];omega
 have xj:ys.length=kvs.length:=cK pr;have zd:=xb.length;have S:∀(i:Nat),i<its.length ->∃(ks:ac Fv) (a:EZ) (w l:ac i'),(kvs.map (·.1))[i]?=ih ks/\its[i]?=ih (.ref a)/\a≠X.env.locals/\Yv s.heap a (w++l).toArray/\Yl w ks/\ks.length=G:=by
  intro i hi;have ye:i<ys.length:=by omega
  obtain⟨yq,yj,a,zq,yb,zj⟩:=lZ pr (show ys[i]?=ih ys[i] from bw ye);obtain⟨u,zb,l⟩:=xb.get (show ys[i]?=ih (V.ref a) by rw[bw ye,zq])
  cases l
  obtain⟨xB,xr,yg,_⟩:=I.tuple (ay.of yb);obtain⟨w,l,e,st⟩:=Ar (H:=H) xr;rw[e]at yg;exact⟨yq.1,a,w,l,by rw[cI,yj];rfl,zb,(λz=>by rw[z,I.free]at yb;cases yb),yg,st,zj⟩
 obtain⟨m,W,_⟩:=id I.loc
 let lt:Nat->Nat->Bool:=λi j=>eY ((kvs.map (·.1)).getD i []) ((kvs.map (·.1)).getD j [])
 have yB:(kvs.map (·.1)).length=its.length:=by rw[aB];omega
 have K:∀i,i<its.length->((kvs.map (·.1)).getD i []).length=G:=λi hi=>by
  obtain⟨ks,_,_,_,h1,_,_,_,_,h2⟩:=S i hi;rw[gv,h1];exact h2
 have ze:∀i j,i<its.length->j<its.length->i≠j->(kvs.map (·.1)).getD i []≠(kvs.map (·.1)).getD j []:=λi j hi y M e=>M ((FG (by omega) zp).mp (by
  rw[gv,gv,bw (by omega),bw (by omega)]at e
  rw[bw (by omega),bw (by omega)]
  exact c3 ih e))
 have O:hM its.length lt:=⟨λi j k hi y yr h1 h2=>C6 ((K i hi).trans (K j y).symm) ((K j y).trans (K k yr).symm) h1 h2,λi j hi y M f=>CF ((K i hi).trans (K j y).symm) (ze i j hi y M) f⟩;have xf:∀(h':X8) (D:EZ) (c:Nat) (d:Array Nat),(∀b o,b≠X.env.locals->s.heap.get? b=ih o->h'.get? b=ih o)->h'.Ns X.env.locals m->(∀b o,s.heap.get? b=ih o->b≠D)->Pm its.length d->(d.toList.Pairwise λi j=>lt i j=true) ->
   h'.get? D=ih (listOf (d.toList.map λi=>its.getD i VB).toArray c) ->∃v H',Inv X J σ H' { s with heap:=h' }/\RelV v (.ref D)/\Q v H':=by
  intro h' D c d k xk B x yk new;have yf:∀i∈d.toList,i<its.length:=λi hi=>jd.mp (x.mem_iff.mp hi);have zg:(d.toList.map λi=>ys.getD i V.aK).Perm ys:=C5 V.aK (by rw[zd];exact x)
  have zk:Pm kvs.length d:=by rw[<-xj,zd];exact x
  have zr:(d.toList.map λi=>kvs.getD i (([],[]):ac Fv×List V)).Perm kvs:=C5 _ zk;have xt:ig H G (d.toList.map λi=>ys.getD i V.aK) (d.toList.map λi=>kvs.getD i ([],[])):=Aq λi hi=>Ij pr V.aK ([],[]) i (by have:=yf i hi;omega)
  have yt:(d.toList.map λi=>kvs.getD i ([],[])).map (·.1)=d.toList.map λi=>(kvs.map (·.1)).getD i []:=by
   rw[c5];refine mV λi hi=>?_;have:i<kvs.length:=by have:=yf i hi;omega
   show(kvs.getD i ([],[])).1=_;rw[gv,gv,cI,bw this];rfl
  have xl:Vals (d.toList.map λi=>ys.getD i V.aK) (d.toList.map λi=>its.getD i VB):=A7 (λi=>by
   by_cases hi:i<ys.length
   ·obtain⟨u,zb,l⟩:=xb.get (show ys[i]?=ih ys[i] from bw hi)
    rw[gv,gv,zb,bw hi];exact l
   ·rw[gv,gv,rR (by omega),rR (by omega)];trivial) d.toList
  obtain⟨zt,xu⟩:=Inv.sorted (t':=s.toks) I W xk k B new xl (by rw[zg.length_eq];exact xq)
  refine⟨.ref D,_,xu,rfl,q D _ _ zt zg xt zr ?_⟩;rw[yt,mW];exact yk
 refine ae (wD ?_ (by rw[aV];omega))
 have za:(s.heap.push (seqObj "list" its.toArray 0)).get? s.heap.objs.size=ih (seqObj "list" its.toArray 0):=bU _ rfl;have B:∀b o,s.heap.get? b=ih o->b≠s.heap.objs.size:=λb o e=>bK (bt e);refine ae (eh (hZ slot_list_sort ⟨_,za,rfl⟩ entry_list_sort ?_ (args_list_sort _)));have keep:∀b o,s.heap.get? b=ih o->(s.heap.push (seqObj "list" its.toArray 0)).get? b=ih o:=λb o e=>a5 _ e
 by_cases h2:its.length<2
 ·refine Ih za h2 λc g xh new=>⟨_,rfl,ak ⟨_,rfl,?_⟩⟩
  refine xf g _ c (VD its.length).toArray (λb o _ e=>xh b o (B b o e) (keep b o e)) (W.at' λo e=>xh _ o (B _ o e) (keep _ o e)) B (j9 _) ?_ ?_
  ·show(VD its.length).Pairwise _
   have:its.length=0\/its.length=1:=by omega
   rcases this with z|z <;> rw[z]
   ·exact Y9
   ·exact List.pairwise_singleton _ _
  ·have:(VD its.length).map (λi=>its.getD i VB)=its:=by
    apply Fu
    ·simp
    ·intro i h1 h2;simp[YX,h2]
   show g.get? s.heap.objs.size=ih (listOf ((VD its.length).map λi=>its.getD i VB).toArray c);rw[this];exact new
 ·have h2:2<=its.length:=by omega
  obtain⟨P,yl,U⟩:∃P:X8,P.objs.size=0 /\∀b,P.get? b=none:=⟨{ s.heap with objs:= #[] },rfl,λb=>rG (bB _)⟩;have F:Fr P X.env.locals s.heap m:=⟨W,λb o e=>(by rw[U]at e;cases e),by rw[yl];exact bB _⟩
  have N:=IS (g:=P) (L:=X.env.locals) (h:=s.heap);have zl:∃o,s.heap.get? X.env.locals=ih o:=let ⟨o,_,_,e,_⟩:=W;⟨o,e⟩;obtain⟨zB,yu⟩:=zl;refine kat_list_sort (s:={ s with heap:=s.heap.push (seqObj "list" its.toArray 0) }) (F.kept keep) (N.grown keep) za (aS (B _ _ yu)) (U _) (λp x=>B p.1 p.2 (r1 x).2.2) h2 (by omega) λe1 h' zu N'=>?_
  have kp:∀b o,b≠X.env.locals->s.heap.get? b=ih o->h'.get? b=ih o:=λb o n e=>(N' (b,o) (ba _ (w7 n (U b) e))).1;have tk:∀{a:EZ}{zs:Array i'},a≠X.env.locals->Yv s.heap a zs->Yv h' a zs:=λn ⟨o,xc,r⟩=>⟨o,kp _ o n xc,r⟩;have xv:∀(vs:ac i'),(∀v∈vs,∃a w l ks,v=UR a/\Yv h' a (w++l).toArray/\Yl w ks/\ks.length=G) ->∃fs,fs.length=vs.length/\KatTups h' vs fs /\∀f∈fs,∃k t,f=YT k t:=by
   intro vs
   induction vs with
   |nil=>intro _;exact⟨[],rfl,KatTups.nil,λf R=>(by cases R)⟩
   |cons v vs yv =>
    intro Y;obtain⟨fs,zv,xw,yw⟩:=yv λzw h'=>Y zw (ba _ h');obtain⟨a,w,l,ks,rfl,⟨o,xc,xx,n,yx⟩,st,xm⟩:=Y v aW;cases st with
    |nil=>simp at xm;omega
    |cons k t r =>
     refine⟨.str k t::fs,by rw[cS,cS,zv],KatTups.cons xc xx yx (by simp) xw,λf R=>?_⟩
     rcases bH.mp R with z|z
     ·exact⟨k,t,z⟩
     ·exact yw f z
  obtain⟨fs,xA,ym,zm⟩:=xv its λv Y=>by
   obtain⟨i,hi,rfl⟩:=wq Y;obtain⟨ks,a,w,l,_,Z,yc,zc,xd,yd⟩:=S i hi;rw[bw hi]at Z;exact⟨a,w,l,ks,cG Z,tk yc zc,xd,yd⟩
  refine kat_kind (T:=.type "str") ym (by omega) (λf R=>?_) (by decide) ?_
  ·obtain⟨k,t,rfl⟩:=zm f R
   exact Looks.of_pure rfl
  ·refine(Im O h2).wp (λi j C hi y M yh=>?_) λd x=>?_
   ·obtain⟨k,a,w,l,zx,Z,yc,zc,xd,yd⟩:=S i hi
    obtain⟨zh,xC,yA,zA,xn,yn,zn,xo,yo,zo⟩:=S j y;unfold kas_ask;rw[gv,gv,Z,yn];have xi:(kvs.map (·.1)).getD i []=k:=by rw[gv,zx];rfl
    have yi:(kvs.map (·.1)).getD j []=zh:=by rw[gv,xn];rfl
    have xy:lt i j=eY k zh:=by show eY ((kvs.map (·.1)).getD i []) ((kvs.map (·.1)).getD j [])=_;rw[xi,yi]
    have ne:=ze i j hi y M;rw[xi,yi]at ne;rw[xy]at yh;obtain⟨ox,yy,_,yC,dx⟩:=tk yc zc;obtain⟨zC,zy,_,xD,xz⟩:=tk zn xo;exact kat_lt yy dx zy xz (Bd 0 xd yo (yd.trans zo.symm) ne yh)
   ·refine KasFin.intro zu N' (UpdF.head λp x=>?_) λxp c yp zf=>?_
    ·exact B p.1 p.2 (r1 x).2.2
    ·refine⟨_,rfl,ak ⟨_,rfl,?_⟩⟩
     exact xf xp _ c d (λb o n e=>(zf (b,o) (ba _ (w7 n (U b) e))).1) yp.ns B x.1 (LZ x.1.size x.2) (zf _ aW).1
theorem r8:cU X (.builtin "sorted") (λxs H Q=>∃(p:EZ) (ys:ac V) (kvs:ac (List Fv×List V)) (m:Nat),xs=[.ref p]/\(aj X.K H p ys\/ay X.K H p ys)/\ig H m ys kvs/\1<=m/\(kvs.map (·.1)).Nodup/\ys.length<=63 /\
  ∀D f d,H D=none->f.Perm ys->ig H m f d->d.Perm kvs->(d.map (·.1)).Pairwise (λa b=>eY a b=true)->Q (.ref D) (upd H D (.lst f))):=by
 rintro J s σ H xs us Q I r ⟨p,ys,kvs,j,ex,hq,pr,h,l,i,q⟩;subst ex;obtain⟨u,rfl,t⟩:=vals1 r;cases t
 refine Be λA E w _ n=>?_;rcases hq with hq|hq
 ·obtain⟨its,c,g,v⟩:=I.list hq
  have:=c.length;exact collect_list g.isList (n its _ H ys kvs j (I.kept (t':=s.toks) λb o e=>(j7 _ _ (jg (bt e))).trans (a5 _ e)) c pr h l i q) (by rw[aV];omega)
 ·obtain⟨its,c,g,v⟩:=I.tuple hq
  have:=c.length;exact GS g (by rw[aV];omega) λh' k=>n its _ H ys kvs j (I.kept (t':=s.toks) k) c pr h l i q
end L2
namespace L2
open Spec PyProof.Rows W
end L2
namespace HT
open PyProof.Rows
section
open SeqAt
open AutoSeq1 (wpAny_loadPart')
open MeetsSeq MeetsSeq2 MeetsSeq3
end
end HT
namespace L2
open Spec PyProof.Rows W HT
end L2
namespace HS
open Spec PyProof.Rows W
theorem BY{vs:ac i'}{ys:ac Fv}{y:Fv}{t:Tok}{j:Nat}{Q:ad ZF×Unit->Ux->Prop}(st:Yl vs ys)(a:ys[j]?=ih y)(d:∀m,m<j->ys[m]? ≠ ih y)(q:∀tk,Q (ih (.done (.ret (.int j tk))),()) { s with toks:=s.toks+1 }) :
  ∀(k i:Nat),i<=j->j<i+k->Uz (UO P w) A (forIn (m:=Zh) (List.range' i k) ((none,()):ad ZF×Unit) λ(i:Nat) n=>match vs.toArray[i]? with
      |some f=>do
       let b <- eqBool f (.str y t)
       if b=true then do
         let r <- retInt (i:Int)
         pure (acD (ih r,()))
        else pure (VI (none,()))
      |_=>pure (VI (none,()))) Q E s
 |0,i,h1,h2=>absurd h2 (by omega)
 |k+1,i,h1,h2=>by
  rw[List.range'_succ,aaC];have h:=lT st;have l:j<ys.length:=(bZ.mp a).1;have hi:i<vs.length:=by omega
  obtain⟨tk,g⟩:=L2.tI st i vs[i] (bw hi);have c:i<ys.length:=by omega
  have e1:vs.toArray[i]?=ih (.str ys[i] tk):=by
   rw[List.getElem?_toArray,bw hi,g];simp[c]
  rw[e1]
  dsimp only
  refine ae (ae (EN ?_))
  by_cases e:ys[i]=y
  ·rw[cb e,aE rfl]
   have:i=j:=by
    by_cases z:i<j
    ·exact absurd (by rw[bw c,e]) (d i z)
    ·omega
   subst this;refine ae ?_;unfold retInt;exact ae (wpAny_mkInt (ak (ak (ak (q _)))))
  ·rw[ef e,ao b']
   refine ak ?_;refine BY st a d q k (i+1) ?_ (by omega)
   by_cases z:i=j
   ·subst z
    rw[bw c]at a;exact absurd (cG a) e
   ·omega
theorem Ip{vs:ac i'}{y:Fv}{t:Tok}(d:Yv s.heap l vs.toArray)(st:Yl vs ys)(a:ys[j]?=ih y)(c:∀m,m<j->ys[m]? ≠ ih y)(q:∀tk,Q (.int j tk) { s with toks:=s.toks+1 }) :
  Uz (UO P w) A (call (.builtin "tuple.index") [.ref l,.str y t]) Q E s:=by
 obtain⟨o,b,e,n,f⟩:=d;have h:j<ys.length:=(bZ.mp a).1;have g:=lT st;refine hZ Vf ⟨o,b,e⟩ PySem.F.entry_tuple_index ?_ (PySem.F.args_tuple_index_2 _ _);unfold Ya.«tuple.index»;refine ae (ak ?_)
 dsimp only
 refine ae ?_;unfold YH seqItems?;refine ae (ae (oK b ?_));rw[f];refine ak (ak ?_);refine ae (ak (ae (ak ?_)));rw[aaS];refine ae ?_;have e2:([0:min vs.toArray.size vs.toArray.size]:acd).size=vs.length:=by simp[aaR]
 rw[e2];refine BY st a c (λtk=>?_) vs.length 0 (bB _) (by omega)
 exact ak ⟨_,rfl,q tk⟩
end HS
namespace L2
open Spec PyProof.Rows W HS
def KN(K:Ym):V->List V->Hp->VK->Prop:=λx vs H Q=>∃(l:EZ) (ys:List Fv) (y:Fv) (j:Nat),x=.ref l/\vs=[.str y]/\ay K H l (ys.map V.str)/\ys[j]?=ih y/\(∀m,m<j->ys[m]? ≠ ih y)/\Q (.int j) H
theorem Iq:lb X "tuple.index" (KN X.K):=by
 intro J s σ H x vs v us Q I b c h;obtain⟨l,ys,y,j,rfl,rfl,d,e,a,q⟩:=h;cases b
 obtain⟨u,rfl,t,rfl⟩:=c.one;obtain⟨its,r,f,g⟩:=I.tuple d;exact Ip f (o3 r) e a λtk=>⟨.int j,H,I.tok _,⟨tk,rfl⟩,q⟩
end L2
namespace L2
open W Spec PyProof.Rows
end L2
namespace L2
open W
end L2
namespace L2
open W Spec PyProof.Rows
def kQ(h:X8)(d:EZ)(es:Array YF)(ep:Nat):Prop:= ∃o,h.get? d=ih o/\o.ExactDict/\o.data=.dict es ep
theorem kQ.ty{es:Array YF}(x:kQ s.heap d es ep):s.TypeIs (.ref d) "dict" :=let ⟨o,e,c,_⟩:=x;⟨o,e,c.1⟩
theorem Paired.get{α β:Type}{F:α->β->Prop}{l:ac α}{m:ac β}(h:VM F l m):∀{i:Nat}{a:α},l[i]?=ih a ->∃b,m[i]?=ih b/\F a b:=by
 induction h with
 |nil=>intro i a e;cases e
 |cons r _ c =>
  intro i a e;cases i with
  |zero=>cases e;exact⟨_,rfl,r⟩
  |succ i=>exact c (by simpa using e)
theorem Inv.KO{σ:ac (Option V)}{kvs:ac (List Key×V)}(I:Inv X J σ H s)(g:H d=ce kvs)(i:s.heap.get? d=ih o):Inv X J σ (upd H d (.bu o (.dT kvs))) s:=by
 have ok:bC X.prog X.w H s.heap d (.dT kvs):=I.aH d _ g;have a:∀{b:EZ}{u:HO},H b=ih u->u ≠ .dT kvs->b≠d:=λe n z=>by rw[z,g]at e;exact n (cG e).symm
 refine I.un (h':=s.heap) (t':=s.toks) ⟨λb f q _ _ _=>q,λb f q _ _ _=>⟨f.slots,q⟩,λb f q n _=>?_,λb f q _=>⟨f,q⟩,λb xs e=>?_,λb f u e=>?_,λb ps e=>⟨#[],?_⟩⟩ λb u e=>?_
 ·rw[ag (λz=>by rw[z,g]at n;cases n)];exact n
 ·rw[ag (a e (by intro z;cases z))];exact e
 ·rw[ag (a e (by intro z;cases z))];exact e
 ·rw[ag (a e (by intro z;cases z)),e];simp
 ·by_cases h:b=d
  ·subst h
   rw[af]at e;cases e
   exact⟨i,ok.et (λ_ _ _ q=>q) (λc q=>by rw[ag (a q (by intro z;cases z))];exact q) λc xs q=>by rw[ag (a q (by intro z;cases z))];exact q⟩
  ·rw[ag h]at e
   exact(I.aH b u e).et (λ_ _ _ q=>q) (λc q=>by rw[ag (a q (by intro z;cases z))];exact q) λc xs q=>by rw[ag (a q (by intro z;cases z))];exact q
theorem Inv.MV{σ:ac (Option V)}{kvs:ac (List Key×V)}(I:Inv X J σ H s)(i:H d=ih (.bu o (.dT kvs)))(h0:∀o u,X.gS d≠ih (.bu o u)):Inv X J σ (upd H d (.dT kvs)) s:=by
 obtain⟨_,ok⟩:=(show bC X.prog X.w H s.heap d (.bu o (.dT kvs)) from I.aH d _ i);have a:∀{b:EZ}{u:HO},H b=ih u->u ≠ .bu o (.dT kvs)->b≠d:=λe n z=>by rw[z,i]at e;exact n (cG e).symm
 have f:∀{b:EZ},H b=none->upd H d (.dT kvs) b=none:=λ{b} e=>by rw[ag (λz=>by rw[z,i]at e;cases e)];exact e
 refine⟨I.ok,I.os,I.bare,⟨I.base.keep,I.base.slot,λb g e n k=>f (I.base.free b g e n k),I.base.there,λb xs e=>?_,λb g u e=>?_,λb ps e=>?_⟩,I.loc,I.cell,f I.free,λx c e=>f (I.eP x c e),λp l=>?_,λb u e=>?_,I.len⟩
 ·rw[ag (a (I.base.gg b xs e) (by intro z;cases z))];exact I.base.gg b xs e
 ·have h:b≠d:=λz=>h0 g u (z ▸ e)
  rw[ag h];exact I.base.gC b g u e
 ·obtain⟨j,e2⟩:=I.base.gR b ps e
  exact⟨j,by rw[ag (a e2 (by intro z;cases z))];exact e2⟩
 ·obtain⟨m,r,t⟩:=I.pin p l
  exact⟨m,f r,t⟩
 ·by_cases h:b=d
  ·subst h
   rw[af]at e;cases e
   exact ok.et (λ_ _ _ q=>q) (λc q=>by rw[ag (a q (by intro z;cases z))];exact q) λc xs q=>by rw[ag (a q (by intro z;cases z))];exact q
  ·rw[ag h]at e
   exact(I.aH b u e).et (λ_ _ _ q=>q) (λc q=>by rw[ag (a q (by intro z;cases z))];exact q) λc xs q=>by rw[ag (a q (by intro z;cases z))];exact q
def MW(H0:Hp)(t:TE):TE:=λσ H Q=>t σ H λv H'=>∃d o kvs,H' d=ih (.bu o (.dT kvs))/\(∀o u,H0 d≠ih (.bu o u))/\Q v (upd H' d (.dT kvs))
theorem KP(a:PE X e te):PE X e (MW X.gS te):=by
 intro J s σ H Q I h;exact aF (a J s σ H _ I h) λv s1 ⟨y,Y,b,c,d,o,kvs,e1,h0,q⟩=>⟨y,_,b.MV e1 h0,c,q⟩
end L2
namespace HT
open PyProof.Rows W
open AutoSeq1 (wpAny_loadPart')
end HT
namespace L2
open Spec PyProof.Rows W HT
end L2
namespace L2
open W Spec PyProof.Rows
end L2
namespace L2
open Spec PyProof.Rows W HS
structure nq(e tg iter:Vp)(Qg:List Vp)(Qk:i'->Zs->Zh Unit):Prop where
 cl:clausesOf e=[⟨tg,iter,Qg,0⟩]
 turn:∀it Qb env,compTurn e 0 it Qb env=(do
   standAt iter.pos
   match <- pyNext it with
   |none=>pure (.done .next)
   |some v =>
    letOwnedTupleGo tg it v
    assign tg env v
    let mut ok:=true
    for c in Qg do
     if ok then ok <- isTrue c env (eval c env)
    if ok then Qk Qb env
    again (.compLoop e 0 it Qb env))
 loop:∀(prog:Yc) (w:Yi) (A:Yk) it Qb env,A.under (.compLoop e 0 it Qb env)=A/\(UO prog w).den (.compLoop e 0 it Qb env)=(compTurn e 0 it Qb env).onRaise (λx=>do noteFrame x env;theTreesLotGoes x)
 begin_:∀(prog:Yc) (w:Yi) (A:Yk) it Qb env,A.under (.compStart e 0 it Qb env)=A/\(UO prog w).den (.compStart e 0 it Qb env)=(compStart e 0 it Qb env).onRaise (λx=>do noteFrame x env;standAt theWindowsPlace)
def pA(k v:Vp)(Qb:i')(env:Zs):Zh Unit:=do
 let kv <- eval k env
 let vv <- holding [kv] (eval v env)
 match Qb with
 |.ref d=>do
  standAt { k.pos with endLine:=v.pos.endLine,endCol:=v.pos.endCol }
  holding [kv,vv] (dictSet d kv vv)
 |_=>unsupported "internal:dictcomp"
theorem Ir{k v:Vp}:nq (.DictComp k v [⟨tg,iter,Qg,0⟩] scope pos) tg iter Qg (pA k v):=⟨rfl,λ_ _ _=>rfl,λ_ _ _ _ _ _=>⟨rfl,rfl⟩,λ_ _ _ _ _ _=>⟨rfl,rfl⟩⟩
theorem F'{R:Y7->Ux->Prop}{Qk:i'->Zs->Zh Unit}{it:i'}(F:nq e tg iter Qg Qk)(I:Nat->Ux->Prop)
  (f:∀n s,I n s->Uz (UO prog w) A (pyNext it) (λr s1=>match r with
   |none=>R (.ok .next) s1
   |some v=>Uz (UO prog w) A (letOwnedTupleGo tg it v) (λ_ s2=>Uz (UO prog w) A (assign tg env v) (λ_ b =>
     Uz (UO prog w) A (forIn Qg true λc r=>if r=true then do let ok <- isTrue c env (eval c env);pure (VI ok) else pure (VI r)) (λok a =>
      if ok=true then Uz (UO prog w) A (Qk Qb env) (λ_ g=>∃m,m<n/\I m g) (λ_ _=>False) a
      else ∃m,m<n/\I m a) (λ_ _=>False) b) (λ_ _=>False) s2) (λ_ _=>False) s1) (λ_ _=>False) s)
  (n:Nat) (h:I n s) :
  codeAny (UO prog w) A (.compLoop e 0 it Qb env) R s:=by
 refine codeAny_loop rfl I (λn s i=>?_) n h;rw[(F.loop prog w A it Qb env).1,(F.loop prog w A it Qb env).2];refine wpAny_noted (vY ?_);rw[F.turn];refine ae (je (ae (aF (f n s i) λr s1 h1=>?_)));cases r with
 |none=>exact ak h1
 |some v =>
  refine ae (aF h1 λ_ s2 h2=>ae (aF h2 λ_ b j=>ae (aF j λok a d=>?_)));cases ok with
  |false=>exact ak ⟨rfl,d⟩
  |true=>exact ae (aF d λx l k=>ak ⟨rfl,k⟩)
theorem F4{R:Y7->Ux->Prop}{Qk:i'->Zs->Zh Unit}{it:i'}(F:nq e tg iter Qg Qk)
  (h0:codeAny (UO prog w) A (.compLoop e 0 it Qb env) R s)
  (h:Uz (UO prog w) A (pyIter it) (λa s'=>codeAny (UO prog w) A (.compLoop e 0 a Qb env) R s')
   (notedBy (UO prog w) A env λx s'=>R (.error x) s') s) :
  codeAny (UO prog w) A (.compStart e 0 it Qb env) R s:=by
 refine vZ ?_;rw[(F.begin_ prog w A it Qb env).1,(F.begin_ prog w A it Qb env).2];refine wpAny_notedAt ?_;unfold compStart;rw[F.cl];show Uz _ _ (ask >>= _) _ _ s;refine ae (iG (wpAny_ite ?_));split
 ·first
   |exact ae (ak (ak (Zi rfl h0)))
   |exact ak (Zi rfl h0)
 ·first
   |exact ae (jf (ae (je (ae (hY h (λa s' h'=>ak (Zi rfl h')) λ_ _ x=>x)))))
   |(refine ae (jf ?_);show Uz _ _ (standAt iter.pos >>= _) _ _ s;exact ae (je (ae (hY h (λa s' h'=>ak (Zi rfl h')) λ_ _ x=>x))))
def ud(Jz:It)(g:TG)(ti:TT)(Qn:EZ->St->Hp->(Hp->Prop)->Prop)(fz:St)(Q:VK)(p:EZ)(Y:Hp):Prop:=
 ∃W:Nat->Nat->St->Hp->Prop,(∃m,W 0 m fz Y) /\∀i m τ H2,W i m τ H2 ->
  ((Jz.stop i H2/\Q (.ref p) H2)\/(Jz.go i H2 /\∀x H3,Jz.i8 i H2 x H3->g x τ H3 λjb H4=>ti jb H4 λb H5 =>
   if b=true then Qn p jb H5 λH6=>∃m',m'<m/\W (i+1) m' jb H6
   else ∃m',m'<m/\W (i+1) m' jb H5))
def rp(X:Cx)(Qk:i'->Zs->Zh Unit)(Qn:EZ->St->Hp->(Hp->Prop)->Prop):Prop:=
 ∀J s σ H (p:EZ) (Q:Hp->Prop),Inv X J σ H s->Qn p σ H Q->wA X (Qk (.ref p) X.env) (λ_ s'=>∃H',Inv X J σ H' s'/\Q H') X.xe s
structure ue(X:Cx)(L0:Zh i')(start:EZ->HO):Prop where
 run:∀J s σ H (E:i'->Ux->Prop) (Q:i'->Ux->Prop),Inv X J σ H s ->
  (∀s',Inv X J σ (upd H s.ai (start s.ai)) s'->(∀b o,s.heap.get? b=ih o->s'.heap.get? b=ih o)->Q (.ref s.ai) s')->wA X L0 Q E s
def C7(wi:TI)(Qe:List (Option Nat))(g:TG)(ti:TT)(Qn:EZ->St->Hp->(Hp->Prop)->Prop)(start:EZ->HO):TE:=λσ H Q=>wi σ H λJz Y=>∀p,Y p=none->ud Jz g ti Qn (pick Qe σ) Q p (upd Y p (start p))
section
variable{Qk:i'->Zs->Zh Unit}{Qn:EZ->St->Hp->(Hp->Prop)->Prop}
theorem HA{xc:It}{q:Nat->X8->Prop}{g:TG}{Q:VK}{RR:i'->EZ->Y7->Ux->Prop}{Y:Zh i'}{start:EZ->HO}(F:nq e tg iter Qg Qk)(yc:X.calm=true)(S:b6 X.N X.env.scope N' Qe scope)
  (zc:Inv X J σ H2 s2) (T:Turn X.prog X.w X.K tg xc fp it q) (st:q 0 s2.heap) (xd:∀b∈fp,fu X J H2 b) (xg:ue X Y start)
  (a:∀s H fp,PG (cu X N' scope s H fp) tg g/\jN (cu X N' scope s H fp) Qg ti/\rp (cu X N' scope s H fp) Qk Qn)
  (yj:∀p,H2 p=none->ud xc g ti Qn (pick Qe σ) Q p (upd H2 p (start p))) (zj:∀Qb C s',CompEnd X J σ Q Qb C s'->RR Qb C (.ok .next) s') :
  wA X Y (λQb f=>wA X (newFunctionEnv scope X.env.globals (eW X.env.cells scope.names []) [] X.env.qual none .none (ih X.env)) (λZ xk =>
   codeAny X.c2 X.A (.compStart e 0 (.ref it) Qb { Z with scope:=relabel scope X.env }) (RR Qb Z.locals) xk) E f) E s2:=by
 refine xg.run J s2 σ H2 E _ zc λf B yg=>?_;have D:=yj s2.ai zc.fresh;generalize yk:upd H2 s2.ai (start s2.ai)=h at B D;have xh:∀b∈fp,b<s2.ai:=λb a=>let ⟨_,e,_⟩:=T.obj _ _ st b a;bt e;have ya:q 0 f.heap:=T.keep _ _ _ st λb _ o e=>yg b o e;have l:∀b∈fp,fu X J h b:=λb a=>⟨by rw[<-yk,ag (bK (xh b a))];exact(xd b a).1,(xd b a).2⟩
 have yh:∀b∈fp,∃o,f.heap.get? b=ih o:=λb a=>let ⟨o,e,_⟩:=T.obj _ _ ya b a;⟨o,e⟩;refine Aa λO P yd zh xi=>?_;have G:Inv (cu X N' scope f h fp) [] (pick Qe σ) h { f with heap:=O }:=BD B S l yh P yd zh xi;have za:q 0 ({ f with heap:=O }:Ux).heap:=T.keep _ _ _ ya λb _ o e=>yd b o e;obtain⟨zk,xl,yl⟩:=a f h fp;obtain⟨W,⟨zl,xm⟩,zg⟩:=D;have L:∀{H':Hp},(∀b∈fp,H' b=none) ->∀b∈fp,fu (cu X N' scope f h fp) [] H' b:=λP b a =>
  ⟨P b a,(G.ok.i7 b a).1,G.ok.i3 b a,.inl a,λx c e=>(G.ok.i7 b a).2 x c e,λp D=>absurd (show p∈([]:ac (EZ×Yy)) from D) (by simp)⟩
 have xa:codeAny X.c2 X.A (.compLoop e 0 (.ref it) (.ref s2.ai) (sP scope f.ai X.env))
   (RR (.ref s2.ai) f.ai) { f with heap:=O }:=by
  refine F' F (λn s'=>∃i j H',Inv (cu X N' scope f h fp) [] j H' s'/\q i s'.heap/\(∀b∈fp,H' b=none)/\W i n j H') ?_ zl ⟨0,_,h,G,za,λb a=>(l b a).1,xm⟩;rintro n zd ⟨i,j,I,xe,xb,yb,R⟩;have R:=zg i n j I R;rcases R with⟨stop,qn⟩|⟨go,step⟩
  ·refine aF (T.done (cu X N' scope f h fp) rfl rfl rfl yc i [] zd j I _ xe (L yb) xb stop) λr ye ⟨U,t⟩=>?_
   subst U;refine zj _ _ _ ⟨_,I,rfl,?_,?_,?_,qn⟩
   ·exact B.qg (s':=ye) (ch:=fp) t.os t.base t.aH t.bare λb a=>⟨(l b a).2.2.2.1,(l b a).2.1,(l b a).2.2.2.2.1,(l b a).2.2.2.2.2⟩
   ·exact B.gT (aP _) t.free
   ·obtain⟨m,k,_⟩:=t.loc
    exact⟨m,k⟩
  ·refine aF (T.item (cu X N' scope f h fp) rfl rfl rfl yc i [] zd j I _ xe (L yb) xb go) λr ye ⟨u,U,ym⟩=>?_
   subst U;refine aF ym λ_ ze aa=>?_;obtain⟨x,xf,zm,xn,y7,M,yi⟩:=aa;have zi:=zm.pinned (L yi) (T.obj _ _ M);refine aF (zk _ ze j xf x u _ zi xn (step x xf y7)) λ_ yn ⟨zb,zn,xo,yo⟩=>?_;refine aF (xl _ yn zb zn _ xo yo) λb zo ⟨xp,yf,zf⟩=>?_;have again:∀{z:St}{H':Hp}{s':Ux}{v:Nat},Inv (cu X N' scope f h fp) ([]++l4 fp ze.heap) z H' s'->v<n->W (i+1) v z H' ->
     ∃m,m<n /\∃i j H',Inv (cu X N' scope f h fp) [] j H' s'/\q i s'.heap/\(∀b∈fp,H' b=none)/\W i m j H':=λ{z H' s' v} V k y=>by
    refine⟨v,k,i+1,z,H',V.nj,T.keep _ _ _ M λb a o e=>(V.pin (b,o) (c4 _ (c4 _ (lI a e)))).1,λb a=>?_,y⟩;obtain⟨o,e,d⟩:=T.obj _ _ M b a;exact(V.pin (b,o) (c4 _ (c4 _ (lI a e)))).2.1
   cases b with
   |false =>
    obtain⟨v,k,y⟩:=zf;exact again yf k y
   |true=>exact aF (yl _ zo zb xp _ _ yf zf) λ_ yp ⟨zp,xj,v,k,y⟩=>again xj k y
 exact F4 F xa (T.self X.A 0 _ _ _ za xa)
theorem Ju{wi:TI}{g:TG}{c:Zh i'}{start:EZ->HO}(F:nq e tg iter Qg Qk)(f:eval e X.env=comprehension e scope X.env pos c false (eval iter X.env))(d:ue X c start)(k:X.calm=true)(S:b6 X.N X.env.scope N' Qe scope)(hi:PI X tg iter wi)
  (a:∀s H fp,PG (cu X N' scope s H fp) tg g/\jN (cu X N' scope s H fp) Qg ti/\rp (cu X N' scope s H fp) Qk Qn)
  (l:∀x,foldedSetIterable iter X.env x=pure x:=by intro _;rfl):PE X e (C7 wi Qe g ti Qn start):=by
 intro J s σ H Q I h;rw[f];refine Fd (use:=none) F.cl l (r4 λn r=>o7 I S r) S.kind (λx t u=>lF S.keys (by rw[<-u];exact t)) ?_
 refine aF (hi J s σ H _ I h) λv s1 h1=>aF h1 λE s2 h2=>?_;obtain⟨it,fp,G,K,H2,e,w,T,i,y,z⟩:=h2;subst e;refine HA (RR:=λQb C=>compPost X.c2 X.A X.xe none (EP X J σ Q) Qb C) F k S w T i y d a z ?_;rintro Qb C s' ⟨p,H',rfl,B,fC,⟨m,D⟩,q⟩;refine⟨m,D,λh' j=>⟨.ref p,H',?_,rfl,q⟩⟩;exact B.turned (it:=C) (t':=s'.toks) (λb o a e=>(j.2 b a).trans e) fC.1 fC.2.1 fC.2.2.2.1 fC.2.2.2.2.1 fC.2.2.2.2.2
end
section
variable{k v:Vp}{tk:TE}
def u4(tk tv:TE)(p:EZ)(σ:St)(H:Hp)(Q:Hp->Prop):Prop:=tk σ H λy Y=>tv σ Y λz H2=>∃kvs ks b,y=.ref b/\H2 b=ih (.tup (ks.map kV))/\H2 p=ih (.dT kvs)/\kvs.length<UB/\Q (upd H2 p (.dT (putK kvs ks z)))
theorem MX(R:X.A.units+1<YV)(n:PE X k tk)(o:PE X v tv):rp X (pA k v) (u4 tk tv):=by
 intro J s σ H p Q I h;unfold pA;refine ae (aF (n J s σ H _ I h) λu s1 ⟨y,Y,t,x,B⟩=>ae (eh (aF (o J s1 σ Y _ t B) λr s2 S=>?_)));obtain⟨z,H2,a,C,kvs,ks,b,D,f,e,l,q⟩:=S;subst D;cases (show u=UR b from x)
 refine ae (je (eh ?_));obtain⟨E,F,xs,d,G⟩:=Dm a.aH e;have K:xs.length<=UB:=by rw[<-cK d];exact E
 have L:(putK kvs ks z).length<=UB:=by have:=lH kvs ks z;omega
 refine wpAny_dictSet_heap (hsz:=K) (knd:=tupleKind (cj X.prog X.w)) (k:=ks) (show X.A.units<YV by omega) (l5 a.aH f) G λh' m M=>⟨_,?_,q⟩
 obtain⟨g,es,ep,i,h2,N,O,_,P⟩:=m;refine tF a (by rw[e];exact Vu) M ⟨g,i⟩ ⟨L,F,_,(d.put ks f C).keeps λc ys j=>?_,g,es,ep,i,h2,N,O,P⟩
 rw[ag (aq j e (λz=>nomatch z))];exact j
theorem L1:ue X (newDict) (λ_=>.dT []):=⟨λJ s σ H E Q I h=>by
 refine fH ?_;exact h _ (I.laid (a:=s.ai) (o:=.dT []) (t':=s.toks) (λ_ _ q=>a5 _ q) (aP _) (BH s.heap I.big)) λb o e=>a5 _ e⟩
variable{wi:TI}{g:TG}
theorem Iu(a:X.calm=true)(S:b6 X.N X.env.scope N' Qe scope)(hi:PI X tg iter wi)
  (b:∀s H fp,PG (cu X N' scope s H fp) tg g/\jN (cu X N' scope s H fp) Qg ti/\rp (cu X N' scope s H fp) (pA k v) (u4 tk tv))
  (c:∀x,foldedSetIterable iter X.env x=pure x:=by intro _;rfl):PE X (.DictComp k v [⟨tg,iter,Qg,0⟩] scope pos) (C7 wi Qe g ti (u4 tk tv) λ_=>.dT []):=
 Ju Ir rfl L1 a S hi b c
end
def rq(Pv:Nat->St->Hp->Prop)(n i m:Nat)(τ:St)(H:Hp):Prop:=m=n - i/\i<=n/\Pv i τ H
theorem Jv{Pv:Nat->St->Hp->Prop}{n:Nat}{a:St}(h:i<n)(p:Pv (i+1) a H):∃b,b<n - i/\rq Pv n (i+1) b a H:=⟨n - (i+1),by omega,rfl,h,p⟩
theorem Iv{g:TG}{Qn:EZ->St->Hp->(Hp->Prop)->Prop}{Q:VK}(Pv:Nat->St->Hp->Prop)(h0:Pv 0 fz Y)(l:∀i c H,Pv i c H->ay K H a xs)
  (n:∀i x c H,xs[i]?=ih x->Pv i c H->g x c H λf o=>ti f o λb j=>if b=true then Qn p f j λq=>∃d,d<xs.length - i/\rq Pv xs.length (i+1) d f q else ∃d,d<xs.length - i/\rq Pv xs.length (i+1) d f j)
  (r:∀c H,Pv xs.length c H->Q (.ref p) H):ud (i9 K a) g ti Qn fz Q p Y:=by
 refine⟨rq Pv xs.length,⟨xs.length,by simp,bB _,h0⟩,?_⟩
 rintro i m c H ⟨rfl,hi,pv⟩;have h:=l i c H pv
 by_cases k:i<xs.length
 ·refine .inr ⟨⟨xs,xs[i],h,by simp[k]⟩,λx t s=>?_⟩
  obtain⟨e3,ex⟩:=s;subst e3;exact n i x c _ (ex xs h) pv
 ·have e:i=xs.length:=by omega
  subst e;exact .inl ⟨⟨xs,h,aP _⟩,r c H pv⟩
end L2
namespace L2
open Spec PyProof.Rows
structure n7(K:UP)(x qual:Fv)(st:U6)(dv:i')(f:EZ)(fd:X2):Prop where
 ex:∃(oc:i') (od:Option EZ) (kV Qd pm:i') (an:Option EZ) (Qa ct:i') (Qm:Array (Option i')),
  fd=Yh x qual (dy st) (bE st) (aI st) dv kV Qd pm an Qa ct/\K.lookup f=ih ⟨oc,od,.func fd,Qm⟩/\YS K Qa qual=true
 kp:Ys K (.ref f)=true
theorem n7.binds{T:EZ}{ds:ac i'}{n:Nat}(F:n7 K x qual st (.ref T) f fd)(a:K.lookup T=ih ⟨oc,od,.seq items n,Qm⟩)
  (h:∀(kV Qd pm:i') (an:ad EZ) (Qa ct:i') (us:ac i'),(us++ds).length=ps.length ->∃k:ad (Array i')->Zh (List (Fv×i')),(bindArgs (Yh x qual (dy st) (bE st) (aI st) (.ref T) kV Qd pm an Qa ct) ⟨us,[]⟩=seqItems? (.ref T) >>= k)/\k (ih items)=pure (ps.zip (us++ds))):Binds K fd ps ds:=by
 obtain⟨e,g,kV,Qd,pm,an,Qa,ct,d,rfl,lk,i⟩:=F.ex;intro s us b c;obtain⟨k,h1,h2⟩:=h kV Qd pm an Qa ct us c;exact .of_defaults (T:=T) rfl (b _ _ a) rfl h1 h2
theorem KQ{kV:i'}(l:K.lookup f=ih ⟨oc,od,.func (Yh x qual (dy st) (bE st) (aI st) dv kV Qd pm an Qa ct),Qm⟩)
  (c:YS K Qa qual=true) (k:Ys K (.ref f)=true):n7 K x qual st dv f (Yh x qual (dy st) (bE st) (aI st) dv kV Qd pm an Qa ct):=⟨⟨oc,od,kV,Qd,pm,an,Qa,ct,Qm,rfl,l,c⟩,k⟩
end L2
namespace L2
open Spec PyProof.Rows W HT
theorem HB(G:X.calm=true):cU X (.type "dict") (λxs H Q=>∃t vs kvs,xs=[.ref t]/\H t=a2 vs/\kH H vs kvs/\(kvs.map (·.1)).Nodup /\∀d,H d=none->Q (.ref d) (upd H d (.dK (gb kvs)))):=by
 intro J s σ H xs us Q I r h;obtain⟨t,vs,kvs,rfl,K,pr,L,q⟩:=h;obtain⟨u,rfl,c⟩:=vals1 r;cases c
 obtain⟨yc,its,m,⟨M,e,N,sl⟩,O,A,n,B,C⟩:=(show bC X.prog X.w H s.heap t (.tup vs) from I.aH t _ K);obtain rfl:M=.type "tuple" :=A;obtain rfl:e=none:=C;obtain rfl:N=.seq its.toArray n:=B;have D:vs.length=kvs.length:=cK pr;have xc:=m.length;have pairs:∀(i:Nat) p,kvs[i]?=ih p ->∃a x y,its.toArray[i]?=ih (.ref a)/\Yv s.heap a #[x,y]/\RelV (.str p.1) x/\RelV p.2 y:=by
  intro i p b;have hi:i<vs.length:=by rw[D];exact(bZ.mp b).1
  obtain⟨zc,g,a,P,R⟩:=lZ pr (show vs[i]?=ih vs[i] from bw hi);rw[b]at g;cases g;obtain⟨u,S,c⟩:=m.get (show vs[i]?=ih (V.ref a) by rw[bw hi,P])
  cases c
  obtain⟨xd,T,U,_⟩:=I.tuple (ay.of R);obtain⟨x,y,rfl,W,Y⟩:=T.two;exact⟨a,x,y,by simpa using S,U,W,Y⟩
 have ch:∀i:Fin kvs.length,∃y,∃a x,its.toArray[i.1]?=ih (.ref a)/\Yv s.heap a #[x,y]/\RelV (.str kvs[i].1) x/\RelV kvs[i].2 y:=λi=>by
  obtain⟨a,x,y,h1,h2,Z,xa⟩:=pairs i.1 kvs[i] (bw i.2);exact⟨y,a,x,h1,h2,Z,xa⟩
 obtain⟨ys,E,j⟩:∃ys:ac i',ys.length=kvs.length /\∀(i:Nat) (hi:i<kvs.length),∃y,ys[i]?=ih y /\∃a x,its.toArray[i]?=ih (.ref a)/\Yv s.heap a #[x,y]/\RelV (.str kvs[i].1) x/\RelV kvs[i].2 y:=
  ⟨List.ofFn λi=>ZW (ch i),List.length_ofFn,λi hi=>⟨ZW (ch ⟨i,hi⟩),by simp[List.getElem?_ofFn,hi],acG (ch ⟨i,hi⟩)⟩⟩
 have F:((kvs.map λp=>(n' p.1:Key)).zip ys).map (·.1)=kvs.map λp=>(n' p.1:Key):=by
  rw[List.map_fst_zip];rw[aB];omega
 have l:((kvs.map λp=>(n' p.1:Key)).zip ys).length=kvs.length:=by rw[List.length_zip,aB];omega
 have inj:(kvs.map λp=>(n' p.1:Key)).Nodup:=by
  have:(kvs.map λp=>(n' p.1:Key))=(kvs.map (·.1)).map n':=by rw[c5];rfl
  rw[this,lA,mW];exact(lA.mp L).imp λh z=>h (gq z)
 refine Gd (I.ok.hd G) ((kvs.map λp=>(n' p.1:Key)).zip ys) (by rw[F];exact inj) (by rw[l];omega) (by rw[bY,l];omega) O (λi p b=>?_) λd h' tk dl e kp=>?_
 ·obtain⟨h1,h2⟩:=List.getElem?_zip_eq_some.mp b
  rw[cI]at h1;obtain⟨yd,ya,za⟩:=gu.mp h1;obtain⟨hi,rfl⟩:=bZ.mp ya;obtain⟨y,f,a,x,xb,yb,zb,v⟩:=j i hi;rw[f]at h2;cases h2
  exact⟨a,x,xb,yb,by rw[<-za];exact mh (k:=n' kvs[i].1) zb⟩
 ·have big:=I.big
  refine⟨.ref d,_,I.laid (a:=d) (o:=.dK (gb kvs)) (t':=tk) kp dl (C3 (by unfold gb;rw[aB];omega) (iC.mpr (aS (bK (eT big dl)))) ?_ e),rfl,q d (I.aH.fresh dl)⟩
  exact CB kvs ys E λi hi=>by
   obtain⟨y,f,a,x,_,_,_,v⟩:=j i hi;exact⟨y,f,v⟩
theorem Iw:cU X (.builtin "len") (λxs H Q=>∃a kvs,xs=[.ref a]/\H a=bn kvs/\Q (.int kvs.length) H):=by
 intro J s σ H xs us Q I r h;obtain⟨a,kvs,rfl,e,q⟩:=h;obtain⟨u,rfl,b⟩:=vals1 r;cases b
 exact MM I (.inl e) λt s' c=>⟨.int _,H,c,⟨_,rfl⟩,q⟩
theorem HC:cU X (.type "dict") (λxs H Q=>∃a,xs=[.ref a]/\H a=ce [] /\∀d,H d=none->Q (.ref d) (upd H d (.dT []))):=by
 intro J s σ H xs us Q I r h;obtain⟨a,rfl,e,q⟩:=h;obtain⟨u,rfl,p⟩:=vals1 r;cases p
 obtain⟨z,t,F,v,o,es,ep,x,y,i,A,K⟩:=(show bC X.prog X.w H s.heap a (.dT []) from I.aH a _ e);cases v
 have e0:es = #[]:=by simpa using A
 subst e0;have B:s.heap.DictOf (cj X.prog X.w) a []:=⟨o,#[],ep,x,y,i,by intro e C;simp at C,by first|exact .nil|trivial|constructor,e4⟩
 have big:=I.big;refine kt_call_dict t B (bB _) λh' j D=>?_;obtain⟨o',c,k,l,m,g,G,n,_⟩:=j;have e1:c.toList=[]:=List.length_eq_zero_iff.mp n.length;refine⟨.ref s.ai,_,I.laid (a:=s.ai) (o:=.dT []) (t':=s.toks) (λb o f=>?_) (aP _) ⟨bB _,iC.mpr (aS (bK big)),[],.nil,o',c,k,l,m,g,e1,e4⟩,rfl,q _ (I.aH.fresh (aP _))⟩;have E:b≠s.ai:=bK (bt f);rw[D.2 b E];exact a5 _ f
end L2
namespace L2
open Spec PyProof.Rows W
theorem HD(l:EZ)(items:Array i')(n:Nat)(b:EZ)(a:Array i')(j:Nat)(k:ad EZ)(sl:Array (Option i'))(o : ¬(!items.isEmpty&&Yu (items.size+a.size))=true)(e:items.size<=UB)(f:items.size+a.size<=UB+1) :
  Meets (Ya.«list.extend» ⟨[.ref l,.ref b],[]⟩) (λ_ R s=>s.heap.get? l=ih { cls:=.type "list",dict:=none,data:=.seq items n,slots:= #[] }/\s.heap.get? b=ih { cls:=.type "tuple",dict:=k,data:=.seq a j,slots:=sl }/\R (.ok (.ret VB)) { s with heap:=s.heap.update l (X1 λx=>x++a),toks:=s.toks }):=
 .of_wp λprog w A R s h=>by
  obtain⟨p,g,d,tk,os⟩:=s;obtain⟨c,m,h⟩:=h;have q:=Z2;have r:=Vg;have t:=ZA;have u:=Vi;have v:=Vj;have i:(items++a).size<=UB+1:=by rw[rP];exact f
  wp_walk using (FF c rfl (hz:=e) (_hz':=i)),FH c,FH m
  exact⟨_,rfl,h⟩
def Jw:V->List V->Hp->VK->Prop:=λx vs H Q=>∃l b xs zs,x=.ref l/\vs=[.ref b]/\H l=ih (.lst xs)/\H b=ih (.tup zs)/\xs.length+zs.length<=UB/\Q .aK (upd H l (.lst (xs++zs)))
theorem HE:lb X "list.extend" Jw:=by
 intro J s σ H x vs v us Q I m o h;obtain⟨l,b,xs,zs,rfl,rfl,d,p,D,q⟩:=h;cases m
 obtain⟨u,rfl,t⟩:=o.one;cases t
 obtain⟨z,its,n,r,E,e⟩:=I.jM d;obtain⟨G,a,f,⟨B,K,A,sl⟩,e2,g,y,i,c⟩:=(show bC X.prog X.w H s.heap b (.tup zs) from I.aH b _ p);simp only at g i c;subst g i c;have C:=f.length;have k:its.toArray.size+a.toArray.size<=UB:=by rw[bY,bY];omega
 have j : ¬ (!its.toArray.isEmpty&&Yu (its.toArray.size+a.toArray.size))=true:=by
  rw[I5 k,Bool.and_false];exact b'
 refine j8 F.slot_list_extend ⟨_,e,rfl⟩ F.entry_list_extend (F.args_list_extend_2 _ _)
  (HD l its.toArray n b a.toArray y none sl j (by rw[bY];omega) (by omega)) ⟨e,e2,?_⟩
 refine⟨.aK,_,I.qC (its':=its++a) d e (by simp) (r.append f) ?_,rfl,q⟩
 rw[bV];omega
end L2
namespace L2
open Spec PyProof.Rows W HT
def KR:V->List V->Hp->VK->Prop:=λx vs H Q=>∃(l:EZ) (ys:List V) (ds:List UC) (y:V) (d dj:UC) (j:Nat),x=.ref l/\vs=[y]/\H l=ih (.lst ys)/\bJ H ys ds/\Rep H y d/\X6 ds=true/\d.canLay0=true/\d.depth<=60/\ds[j]?=ih dj/\X5 dj d=true/\(∀m dm,m<j->ds[m]?=ih dm->X5 dm d=false)/\Q (.int j) H
theorem Iy(S:X.A.units+64<YV):lb X "list.index" KR:=by
 intro J s σ H x vs v us Q I k G h;obtain⟨l,ys,ds,y,d,T,j,rfl,rfl,o,rs,K,p,L,U,t,B,C,q⟩:=h;obtain⟨c,M⟩:=(Rep.lst o rs).reads I k;cases k
 obtain⟨u,rfl,N⟩:=G.one;obtain⟨bs,O⟩:=K.reads I N;obtain⟨z,its,n,r,P,e⟩:=I.jM o;have a:∃c,ReadsAll s.heap its ds c:=by
  cases M with
  |list h1 h2 R a =>
   rw[e]at h1;cases h1
   cases R
   exact⟨_,by simpa using a⟩
 obtain⟨c,a⟩:=a;have w:=SeqAt.readsAll_map ds its c p a;have g:∀m (f:m<its.length),∃b,ds[m]?=ih b/\Zq s.heap its[m]=b:=λm f=>⟨_,by rw[<-w,cI,bw f];rfl,rfl⟩
 have i:j<its.length:=by
  have:=(bZ.mp t).1;rw[<-w,aB]at this;exact this
 refine j8 aaO ⟨_,e,rfl⟩ aaD (aar _ _) (Z9 l its.toArray n none #[] u (λy=>X5 (Zq s.heap y) d) j (by simpa using i) ?_ ?_ ?_) ⟨e,?_,?_⟩
 ·rw[aV]at z;have:=P;omega
 ·obtain⟨b,h1,h2⟩:=g j i
  show X5 (Zq s.heap (its.toArray[j])) d=true;rw[wx,h2];rw[t]at h1;cases h1;exact B
 ·intro m f D
  have E:m<its.length:=by simpa using f
  obtain⟨b,h1,h2⟩:=g m E;show X5 (Zq s.heap (its.toArray[m])) d=false;rw[wx,h2];exact C m b D h1
 ·exact SeqAt.items_eqAt (by simpa using a) O p L (by omega)
 ·exact⟨.int j,H,I.tok _,⟨_,rfl⟩,q⟩
end L2
namespace L2
open Spec PyProof.Rows W
section
variable{p5 p6 p7:Z3}{b0 b1:U6}{Qu:ac U6}{tb:Ends->TS}{th:EZ->TS}{ci:ad i'}
def pO(X:Cx)(hs:List YU)(Eh:EZ->EZ->TS):Prop:= ∀(J:List (EZ×Yy)) (cF:St) (D:Ends) (s2:Ux) (h4:X8) (B:X8) (a C':EZ) (a0:i') (nn:Option i') (dx:Option EZ) (H':Hp),
 Yx B (X.env::X.outer) a (.ref C') a0 h4->s2.heap.UpToSlots h4->RD s2.heap h4->(∀h5,Yx B (X.env::X.outer) a (.ref C') a0 h5->s2.heap.UpToSlots h5->RD s2.heap h5->Inv X J cF (upd H' a (gU nn C' dx a)) { s2 with heap:=h5 }) ->
 Eh a C' D cF (upd H' a (gU nn C' dx a))->wA X (handleBy (.ref a) X.env hs) (SP X J D) X.xe { s2 with heap:=h4 }
theorem Iz:pO X [] λ_ _ _ _ _=>False:=λ_ _ _ _ _ _ _ _ _ _ _ _ _ _ _ _ h=>h.elim
theorem As{F:ac YU}{L:EZ->EZ->TS}(g:X.N.Nodup)(h:X.N[j]?=ih n)(e:X.env.scope.names.lookup n=ih .local)(h0:X.xe=λ_ _=>False)(za:X.env.frame=ih X.env.locals)
  (U:Gl X cn) (V:X.mg cn=ih (.ref C)) (M:fV X.K C ci=true) (W:∀a,dc (X.kG a) (b0::Qu) (th a)) (Y:pO X F L) (P:(cn==("__debug__" : Fv))=false:=by decide) :
  pO X (.ExceptHandler (ih (.Name cn p5)) (ih n) (b0::Qu) p6::F) λa f D σ H=>(mroIn X.K f (.ref C)=ih true/\th a (Ep j D) (σ.set j (ih (.ref a))) H)\/(mroIn X.K f (.ref C)=ih false/\L a f D σ H):=by
 intro J R D s2 s B a f O Z dx H' k up t m w;have x:=m s k up t;obtain⟨xb,G,I⟩:=k.there;refine wpAny_handleBy_cons (codeAny_handlers_test ?_) (by intro z;cases z)
 refine lW (x.kG a) U V ?_ P;rcases w with⟨y,S⟩|⟨y,w⟩
 ·refine w3 (K:=X.K) x.bS M y G I ?_
  refine codeAny_handlers_suite_as ?_;refine nG r7 (lands_againW (Q:=λ_ s'=>∃h',s'={ s2 with heap:=h' }/\Yx B (X.env::X.outer) a (.ref f) O h'/\s.UpToSlots h') k λA l o=>⟨A,rfl,l,o⟩) λ_ yb ⟨A,e5,l,o⟩ T=>?_;subst e5;have i:=m A l (wB up o) (t.trans T);refine ng (X:=X.kG a) (v:=.ref a) (i.kG a) g h (.inl e) rfl (λzb xa=>?_) (.inr e);refine vY (aF (W a J _ _ _ (Ep j D) xa S) λya xc z=>?_);cases ya with
  |next=>obtain⟨p,b,c,q⟩:=z;exact pN (c.uncaught (Jy:=X) i.ok) g h e λE d=>⟨_,b,d,q⟩
  |brk=>obtain⟨p,b,c,q⟩:=z;exact pN (c.uncaught (Jy:=X) i.ok) g h e λE d=>⟨_,b,d,q⟩
  |cont=>obtain⟨p,b,c,q⟩:=z;exact pN (c.uncaught (Jy:=X) i.ok) g h e λE d=>⟨_,b,d,q⟩
  |ret u=>obtain⟨v,p,b,c,r,q⟩:=z;exact pN (c.uncaught (Jy:=X) i.ok) g h e λE d=>⟨v,_,b,d,r,q⟩
 ·refine w3 (K:=X.K) x.bS M y G I ?_
  exact Y J R D s2 s B a f O Z dx H' k up t m w
def Pz(Eh:EZ->EZ->TS)(D:Ends):St->XK:=λcF cls oa H2=>∃C a,cls=.ref C/\oa=ih a/\Eh a C D cF H2
theorem KS{h0:YU}{q:ac YU}{r:EZ->EZ->TS}(K:∀J D,dc (X.hH J (Pz r D)) (b1::body) (tb D))
  (n:X.stack=X.env::X.outer) (L:X.env.frame=ih X.env.locals) (M:pO X (h0::q) r):PS X (.Try (b1::body) (h0::q) [] [] p7) (LV tb):=by
 intro J s σ H D I h;refine wpAny_Try_except ?_;refine hY (K J D [] s σ H D I.hH h) (λN s1 z=>?_) λZ s2 z=>?_
 ·have c:=SP.kK I.ok z
  cases N with
  |next=>exact oJ c
  |brk=>exact c
  |cont=>exact c
  |ret u=>exact c
 ·obtain⟨C,H0,s1,t,a,O,i,j,dx,H',B,rfl,os,A,o,⟨ox,p,P,R⟩,E,v,new,xa,ya,eC,S,T⟩:=z
  cases eC
  cases S
  rw[n]at o;refine nG Cy (wpAny_looks_onW (Q:=λ_ s'=>∃h',s'={ s2 with heap:=h' }/\Heap.HeldW B (X.env::X.outer) a (.ref i) j X.env.locals h'/\s2.heap.UpToSlots h') (by rw[<-n];exact t.ok.frames) L o λk d f=>⟨k,rfl,d,f⟩) λ_ za ⟨k,e3,d,f⟩ F=>?_
  subst e3;refine nG r7 (wpAny_landsW (Q:=λ_ s'=>∃h',s'={ s2 with heap:=h' }/\Yx B (X.env::X.outer) a (.ref i) j h'/\k.UpToSlots h') d λl e g=>⟨l,rfl,e,g⟩) λ_ xb ⟨l,U,e,g⟩ G=>?_;subst U;refine M J C D s2 l B a i j O dx H' e (wB f g) (F.trans G) (λw m V x=>?_) T;obtain⟨u,ok⟩:=E w m.1 V;obtain⟨W,e5,_⟩:=m.there;exact t.qg (s':={ s2 with heap:=w }) os (u.add v new) (Cz ok v (Ku m ⟨W,e5,(x.dict p e5).1.trans P,λy Y=>(x.dict p e5).2.trans (R y Y)⟩)) A (λb z=>absurd z (by simp))
end
end L2
namespace L2
open Spec PyProof.Rows W HT
theorem KV.get{vs:ac (Key×i')}(r:KV kvs vs){kv:Key×V}(h:kvs[i]?=ih kv):∃v,vs[i]?=ih (kv.1,v)/\RelV kv.2 v:=by
 induction r generalizing i with
 |nil=>cases h
 |@cons p q _ _ a _ b =>
  cases i with
  |zero=>cases h;exact⟨q.2,by rw[a.1];rfl,a.2⟩
  |succ i=>exact b h
end L2
namespace L2
open Spec PyProof.Rows W HS HT
section
variable{fs:ac EZ}
theorem IA(l:cm P w H h')(u:Un fs [] H H h h'):∀{d:ac EZ}{ks:ac (Fv×V)},VM (λa p=>h.get? a=none/\H a=none /\∃f x,h'.get? a=ih ({ cls:=.type "tuple",data:=.seq #[f,x] }:Yy)/\RelV (.str p.1) f/\RelV p.2 x) d ks->d.Nodup ->
  ∃H2,Un fs [] H H2 h h'/\cm P w H2 h'/\aw H H2/\kH H2 (d.map V.ref) ks /\∀b,b ∉ d->H2 b=H b:=by
 intro d ks r
 induction r with
 |nil=>exact λ_=>⟨H,u,l,aw.refl _,.nil,λ_ _=>rfl⟩
 |@cons a p d ks e _ n =>
  intro g;obtain⟨s,g⟩:=d4.mp g;obtain⟨H2,t,m,v,pv,i⟩:=n g;obtain⟨n1,y,f,x,A,B,C⟩:=e;have h2:H2 a=none:=(i a s).trans y;have j:aw H2 (upd H2 a (.tup [.str p.1,p.2])):=λb o e=>by rw[ag (ax e h2)];exact e
  refine⟨upd H2 a (.tup [.str p.1,p.2]),t.add h2 n1,Cz m h2 ⟨by rw[aV];show 2<=_;decide,[f,x],.cons B (.cons C .nil),_,A,rfl,_,rfl,rfl⟩,λb o e=>j _ _ (v _ _ e),.cons ⟨a,rfl,af⟩ (Paired.imp' (λ_ _ ⟨c,e,q⟩=>⟨c,e,j _ _ q⟩) pv),λb k=>?_⟩
  rw[ag (show b≠a from λz=>k (by rw[z];exact aW)),i b λz=>k (ba _ z)]
end
theorem GU{ks:ac (Fv×V)}(h:kH H vs ks):ig H 1 vs (ks.map λp=>([p.1],[p.2])):=by
 induction h with
 |nil=>exact .nil
 |cons e _ b=>obtain⟨a,e,q⟩:=e;exact .cons ⟨a,e,q,rfl⟩ b
theorem GV{kvs:ac (List Fv×List V)}(h:ig H 1 vs kvs)(b:∀p∈kvs,∃k v,p=([k],[v])):∃ks,kH H vs ks/\kvs=ks.map λp=>([p.1],[p.2]):=by
 induction h with
 |nil=>exact⟨[],.nil,rfl⟩
 |cons e _ c =>
  obtain⟨a,e,q,_⟩:=e;obtain⟨k,v,rfl⟩:=b _ aW;obtain⟨ks,pv,d⟩:=c λp f=>b p (ba _ f);exact⟨(k,v)::ks,.cons ⟨a,e,q⟩ pv,by rw[d];rfl⟩
theorem Bf{α β:Type}{R:α->β->Prop}:∀{c:ac α}{bs:ac β},c.length=bs.length->(∀(i:Nat) a b,c[i]?=ih a->bs[i]?=ih b->R a b)->VM R c bs
 |[],[],_,_=>.nil
 |[],_::_,h,_=>by simp at h
 |_::_,[],h,_=>by simp at h
 |a::c,b::bs,h,f=>.cons (f 0 a b rfl rfl) (Bf (by simpa using h) λi x y d e=>f (i+1) x y (by simpa using d) (by simpa using e))
theorem Bg:∀a:ac EZ,Vals (a.map V.ref) (a.map UR)
 |[]=>.nil
 |_::a=>.cons rfl (Bg a)
def L3(te:TE):TE:=λσ H Q=>te σ H λv Y=>∃d ks,v=.ref d/\Y d=ih (.dK (gb ks))/\(ks.map (·.1)).Nodup/\ks.length<=63 /\∀D ys vw H2,Y D=none->aw Y H2->H2 D=ih (.lst ys)->kH H2 ys vw->vw.Perm ks->(vw.map (·.1)).Pairwise (λa b=>iA a b=true)->Q (.ref D) H2
theorem Ga{p:Z3}(xc:X.calm=true)(yc:Gl X "sorted")(zc:X.mg "sorted" = none)(xd:PE X e te)(h1:U1 [.Call (.Attribute e "items" Qf) [] [] Qi] X.env=[(false,eval (.Call (.Attribute e "items" Qf) [] [] Qi) X.env)]:=by rfl)
  (O:attributeBase e "items" X.env (eval e X.env)=eval e X.env:=by rfl) (P:(Qf.endLine==Qi.line)=true:=by rfl):PE X (.Call (.Name "sorted" p) [.Call (.Attribute e "items" Qf) [] [] Qi] [] pos) (L3 te):=by
 intro J s σ H Q I h;refine mQ (kB I yc zc (show Vh "sorted" = ih (.builtin "sorted") by decide +kernel) ?_)
 refine EY ?_ h1 rfl;rw[h1];refine aac (?_:Uz _ _ (eval (.Call (.Attribute e "items" Qf) [] [] Qi) X.env) _ _ _);refine wpAny_Call_method (T:= "dict") (id:= "dict.items") O rfl P aaP wL aaN (aF (xd J s σ H _ I h) λv s1 F=>?_);obtain⟨y,Y,j,yd,d,ks,zd,xe,ye,zi,q⟩:=F;subst zd;cases yd
 obtain⟨xj,ze,vs,B,g⟩:=uw j.aH xe;obtain⟨ep,R⟩:=g.dictAt;refine⟨g.typeIs,g.mapOf.noDict,?_⟩;refine method_meetsIn wL aaE rfl (E' ⟨rfl,g.typeIs,aas _,_,meets_dict_items (cj X.prog X.w) d ze,⟨vs,g⟩,?_⟩);refine aah ?_;have xf:(gb ks).length=vs.length:=B.length;have S:ks.length=vs.length:=by rw[<-xf];unfold gb;rw[aB]
 have yf:∀b f,s1.heap.get? b=ih f->(s1.heap.push { cls:=.type "dict_items",data:=.fields #[.ref d] }).get? b=ih f:=λb f z=>a5 _ z;have U:(s1.heap.push { cls:=.type "dict_items",data:=.fields #[.ref d] }).DictAt (cj X.prog X.w) d vs ep:=R.push _;have W:(s1.heap.push { cls:=.type "dict_items",data:=.fields #[.ref d] }).IsItemsView s1.heap.objs.size d:=⟨_,bU _ rfl,rfl,rfl⟩;have Z:s1.heap.objs.size<=(s1.heap.push { cls:=.type "dict_items",data:=.fields #[.ref d] }).objs.size:=by rw[g7];exact f6 _
 refine Be λA E yj zf xg=>?_;refine kdx_collect (knd:=cj X.prog X.w) (s:={ s1 with heap:=s1.heap.push { cls:=.type "dict_items",data:=.fields #[.ref d] } }) (zf (j.ok.hd xc)) W U (by rw[aV];omega) λh' tk l kp yg G=>?_
 have C:∀b f,s1.heap.get? b=ih f->h'.get? b=ih f:=λb f z=>kp _ _ (yf _ _ z);have fr:∀a∈l,s1.heap.get? a=none/\Y a=none:=λa n=>by
  have:s1.heap.objs.size<=a:=oH (Vk Z (G.above a n));exact⟨rG this,j.aH.fresh this⟩
 have pr:VM (λa (p:Fv×V)=>s1.heap.get? a=none/\Y a=none /\∃m x,h'.get? a=ih ({ cls:=.type "tuple",data:=.seq #[m,x] }:Yy)/\RelV (.str p.1) m/\RelV p.2 x) l ks:=by
  refine Bf (yg.trans S.symm) λi a p n r=>?_;obtain⟨zg,xh⟩:=fr a (eK n);obtain⟨m,k,x,e1,e2,e3⟩:=G.pairs i a n;obtain⟨v,yh,zh⟩:=B.get (i:=i) (kv:=(n' p.1,p.2)) (by unfold gb;rw[cI,r];rfl)
  rw[yh]at e1;cases e1
  exact⟨zg,xh,m,_,e3,tG (k:=n' p.1) e2,zh⟩
 obtain⟨H2,xi,xa,K,ya,_⟩:=IA (j.aH.kept C) (Un.kept (fs:=X.fs) C) pr (G.rise.imp λh=>bK h);have za:((ks.map λp=>(([p.1],[p.2]):ac Fv×List V)).map (·.1)).Nodup:=by
  rw[c5];have e:(ks.map ((λx=>x.1) ∘ λp=>(([p.1],[p.2]):ac Fv×List V)))=(ks.map (·.1)).map λx=>[x]:=by rw[c5];rfl
  rw[e,lA,mW];exact(lA.mp ye).imp λh z=>h (FJ z).1
 refine xg (l.map UR) _ H2 (l.map V.ref) _ 1 (j.un (t':=tk) xi xa) (Bg l) (GU ya) (aP _) za (by rw[aB];omega) λD t yi L pm xb M u=>?_
 obtain⟨yb,zb,rfl⟩:=GV xb λp r=>by
  obtain⟨x,_,rfl⟩:=a4.mp (M.mem_iff.mp r);exact⟨_,_,rfl⟩
 have N:aw H2 (upd H2 D (.lst t)):=λb o e=>by rw[ag (ax e L)];exact e
 refine q D t yb _ (K.free L) (λb o e=>N _ _ (K _ _ e)) af (Paired.imp' (λ_ _ ⟨c,e,q⟩=>⟨c,e,N _ _ q⟩) zb) ?_ ?_
 ·have:=M.map λp:ac Fv×List V=>((p.1.headD "",p.2.headD V.aK):Fv×V)
  rw[c5,c5,show((λp:ac Fv×List V=>((p.1.headD "",p.2.headD V.aK):Fv×V)) ∘ λp:Fv×V=>(([p.1],[p.2]):ac Fv×List V))=id from rfl,wM,wM]at this;exact this
 ·rw[c5,mW]at u
  rw[mW];exact u.imp λ{a b} h=>by rw[<-KL];exact h
end L2
namespace L2
open Spec PyProof.Rows W HT
theorem Gu(d:EZ)(a:(d==sysModules)=false) :
  MeetsIn P w (Ya.«dict.items» ⟨[.ref d],[]⟩) (λ_ R s=>(∃es ep,kQ s.heap d es ep)/\R (.ok (.ret (.ref s.ai))) { s with heap:=s.heap.push { cls:=.type "dict_items",data:=.fields #[.ref d] } }):=
 .of_wp λA R s ⟨⟨es,ep,b⟩,h⟩=>by
  unfold Ya.«dict.items»;refine ae ?_;unfold abY;refine ae (wpAny_notOrdered_dict b.ty ?_);show Uz _ _ (pure d) _ _ s;refine ak ?_;show Uz _ _ (Zx d >>= _) _ _ s;unfold Zx;rw[ao (by rw[a];exact b')]
  exact ae (ak (ae (fH (ak ⟨_,rfl,h⟩))))
theorem GX{v:EZ}{es:Array YF}(a:s.heap.IsItemsView v d)(x:kQ s.heap d es ep)
  (g:Q (.ref s.heap.objs.size) { s with heap:=s.heap.push { cls:=.type "dict_itemiterator",data:=.fields #[.none,.bool false,.ref d,.int 0 0,.int es.size 0,.int ep 0,.none,.none] } }):Uz (UO P w) A (pyIter (.ref v)) Q E s:=by
 obtain⟨i,e,h,f⟩:=id a;obtain⟨o,c,j,b⟩:=id x;refine wI a.typeIs aab (hZ aab a.typeIs F.entry_dict_items_iter ?_ (F.args_dict_items_iter_1 _));unfold Ya.«dict_items.__iter__»;refine ae (ak (ae ?_));unfold aau;refine ae (lp e f (x:=.ref d) rfl (ak (ae ?_)));unfold aat;refine ae (FK c b (ae (FL c b ?_)));simp only[show YB "dict_itemiterator" = true by decide,g8]
 refine fH (ak ⟨_,rfl,"dict_itemiterator",_,⟨_,bU _ rfl,rfl⟩,rV.lookup,?_⟩) (by simp only[sizeOk,Y0,bY,bV,cS,jm,aV];omega)
 simpa [rawInt,Y0] using g
theorem GY{es:Array YF}{e:YF}{ok t:i'}{Q:ad i'->Ux->Prop}(z:YE s.heap it d i es.size ep ok t)(x:kQ s.heap d es ep)(T:es[i]?=ih e)
  (U:∀h',Z8 h' it d (i+1) es.size ep e.key e.val s.heap.objs.size->h'.get? s.heap.objs.size=ih { cls:=.type "tuple",data:=.seq #[e.key,e.val] }->h'.objs.size=s.heap.objs.size+1 ->
   (∀b o,b≠it->s.heap.get? b=ih o->h'.get? b=ih o)->Q (ih (.ref s.heap.objs.size)) { s with heap:=h' }):Uz (UO P w) A (pyNext (.ref it)) Q E s:=by
 obtain⟨a,g,dr,tk,os⟩:=s;obtain⟨od,M,V,N⟩:=id x;have f:Y1 ⟨a,g,dr,tk,os⟩ (.ref it) "dict_itemiterator" :=⟨_,z,rfl⟩;unfold pyNext;refine ae (rO (rK (name:=Yp "__next__") f rV
  (hZ rV f Vm ?_ (Vn _))))
 refine ae (ak (ae (ae ?_)))
 first|refine ae (wN f (ak ?_))|refine ae (wO f (ak ?_))
 refine ae (FC z rfl ?_);simp only[show YB "dict_itemiterator" = true by decide,g8]
 show Uz _ _ (if (UR d==VB)=true then _ else _) _ _ _;rw[ao (show ¬ ((UR d==VB)=true) from b')];refine ae (ak (ae (FK M N ?_)));rw[ao (by simp)]
 refine ae (ak (ae (FL M N ?_)));rw[ao (by simp)]
 refine ak ?_;simp only[show ¬ ((i:Int)<0) from by omega,j6,gr,T]
 refine ae ?_
 first|refine ae (wN f (ak ?_))|refine ae (wO f (ak ?_))
 refine ae (FO f ?_);show Uz _ _ (setField (.ref it) 3 (rawInt ((i:Int)+1)) >>= _) _ _ ⟨a,g,dr,tk,os⟩;refine ae (iH z (by simp) λc j k=>?_)
 replace k:X7 it a c:=k;replace j:YE c it d (i+1) es.size ep ok t:=by
  have e:((i+1:Nat):Int)=(i:Int)+1:=by omega
  unfold YE;rw[e];simpa [rawInt] using j
 have C:Y1 ⟨c,g,dr,tk,os⟩ (.ref it) "dict_itemiterator" :=⟨_,j,rfl⟩;refine ae (eh ?_);refine ae (FO C (ae (FO C ?_)));show Uz _ _ (Y4 (.ref it) 6 e.key e.val) _ _ ⟨c,g,dr,tk,os⟩;unfold Y4;refine ae (wpAny_newTuple ?_);have l:YE (c.push { cls:=.type "tuple",data:=.seq #[e.key,e.val] }) it d (i+1) es.size ep ok t:=a5 _ j;generalize u:c.push { cls:=.type "tuple",data:=.seq #[e.key,e.val] }=r at l;have v:c.objs.size=a.objs.size:=k.1;have B:it<a.objs.size:=bt z;have O:r.get? a.objs.size=ih { cls:=.type "tuple",data:=.seq #[e.key,e.val] }:=by rw[<-u,<-v];exact bU _ rfl
 have R:r.objs.size=a.objs.size+1:=by rw[<-u,g7,v]
 have S:∀b o,b≠it->a.get? b=ih o->r.get? b=ih o:=λb o h e=>by rw[<-u];exact a5 _ (k.extBut b o h e)
 show Uz _ _ (YZ (.ref it) >>= _) _ _ ⟨r,g,dr,tk,os⟩;rw[v];clear u j k C v c;refine ae ?_;unfold YZ;refine ae (lp l rfl (x:=.none) rfl (ak ?_));simp only[g8];refine ae (lp l rfl (x:=ok) rfl (ae (lp l rfl (x:=t) rfl ?_)));refine ae (iH l (by simp) λJ D m=>?_)
 replace m:X7 it r J:=m;replace D:YE J it d (i+1) es.size ep e.key t:=D;refine ae (iH D (by simp) λK G n=>?_)
 replace n:X7 it J K:=n;replace G:YE K it d (i+1) es.size ep e.key e.val:=G;refine ae (iH G (by simp) λL H p=>?_)
 replace p:X7 it K L:=p;replace H:Z8 L it d (i+1) es.size ep e.key e.val a.objs.size:=H;refine ae (iH H (by simp) λy I q=>?_)
 replace q:X7 it L y:=q;replace I:Z8 y it d (i+1) es.size ep e.key e.val a.objs.size:=I;refine ae (wpAny_letGo (ak (ak ⟨_,rfl,ak (U y I ?_ ?_ ?_)⟩)))
 ·exact q.extBut _ _ (jg B) (p.extBut _ _ (jg B) (n.extBut _ _ (jg B) (m.extBut _ _ (jg B) O)))
 ·show y.objs.size=a.objs.size+1
  rw[q.1,p.1,n.1,m.1,R]
 ·exact λb o h e=>q.extBut b o h (p.extBut b o h (n.extBut b o h (m.extBut b o h (S b o h e))))
theorem GZ{es:Array YF}{ok h:i'}{Q:ad i'->Ux->Prop}(i:A.handled=none)(e:YE s.heap it d es.size es.size ep ok h)(x:kQ s.heap d es ep)
  (j:∀h',Heap.ExtBut it s.heap h'->Q none { s with heap:=h' }):Uz (UO P w) A (pyNext (.ref it)) Q E s:=by
 obtain⟨od,f,k,g⟩:=id x;have c:s.TypeIs (.ref it) "dict_itemiterator" :=⟨_,e,rfl⟩;unfold pyNext;refine ae (rO (rK (name:=Yp "__next__") c rV
  (hZ rV c Vm ?_ (Vn _))))
 refine ae (ak (ae (ae ?_)))
 first|refine ae (wN c (ak ?_))|refine ae (wO c (ak ?_))
 refine ae (FC e rfl ?_);simp only[show YB "dict_itemiterator" = true by decide,g8]
 show Uz _ _ (if (UR d==VB)=true then _ else _) _ _ s;rw[ao (show ¬ ((UR d==VB)=true) from b')];refine ae (ak (ae (FK f g ?_)));rw[ao (by simp)]
 refine ae (ak (ae (FL f g ?_)));rw[ao (by simp)]
 refine ak ?_;simp only[show ¬ ((es.size:Int)<0) from by omega,j6,gr,rT (aP es.size)]
 refine ae ?_
 first|refine ae (wN c (ak ?_))|refine ae (wO c (ak ?_))
 show Uz _ _ (setField (.ref it) 2 .none >>= _) _ _ s;refine ae (wpAny_setField e rfl (by simp) ?_)
 show Uz _ _ (newExc (.type "StopIteration") [] >>= _) _ _ _;refine ae ?_;simp only[newExc,newTuple];refine ae (fH ?_ (by size_fits))
 refine ae (m:=firstArgMember _ _) (wpAny_of_eq (a:=VB) (by first|rfl|(simp only[firstArgMember];rfl)) ?_)
 refine fH ?_ (by size_fits)
 simp only[raiseNew];refine ae (wpAny_handled ?_);rw[show A.in1.handled=none from i];refine ae (ak (wz ?_));refine ae (FD (T:= "StopIteration") (b:=true) ⟨_,bU _ rfl,rfl⟩ isSubtype_stop ?_);exact ak (j _ (((rS ..).extBut.push _).push _))
def vx(d:EZ)(o:Yy)(kvs:List (List Key×V)):It:=⟨λi H=>H d=ih (.bu o (.dT kvs))/\i<kvs.length,λi H x H'=>∃t kv b,H t=none/\x=.ref t/\kvs[i]?=ih kv/\H b=ih (.tup (kv.1.map kV))/\H'=upd H t (.tup [.ref b,kv.2]),λi H=>H d=ih (.bu o (.dT kvs))/\kvs.length<=i⟩
theorem BZ{kvs:ac (List Key×V)}{es:Array YF}(I:Inv X J σ H s)(g:H d=ih (.bu o (.dT kvs)))(f:o.data=.dict es ep) :
  s.heap.get? d=ih o/\o.ExactDict/\es.size=kvs.length /\∀(i:Nat) (kv:ac Key×V),kvs[i]?=ih kv ->∃(b:EZ) (e:YF),es[i]?=ih e/\e.key=.ref b/\H b=a2 (kv.1.map kV)/\RelV kv.2 e.val:=by
 obtain⟨h1,z,y,xs,r,o',l,m,h2,h,a,c,n⟩:=(show bC X.prog X.w H s.heap d (.bu o (.dT kvs)) from I.aH d _ g);rw[h1]at h2;cases h2
 rw[f]at a;cases a
 refine⟨h1,h,by rw[size_of_entries c];exact(cK r).symm,λi kv j=>?_⟩
 obtain⟨x,k,e1,e2,e3⟩:=Paired.get r j;exact⟨x.2.1,_,by rw[entry_at c,k];rfl,rfl,e2,e3⟩
theorem Jx(d it:EZ)(yb:d≠it)(o:Yy)(kvs:ac (List Key×V))(es:Array YF)(ep:Nat)(t:o.data=.dict es ep) :
  Turn P w K (.Tuple Qv n1 tp) (vx d o kvs) [it] it (λi h=>i<=kvs.length /\∃ok f,YE h it d i es.size ep ok f) where
 mem:=by simp
 obj:=λi h st b a=>by
  obtain rfl:b=it:=by simpa using a
  obtain⟨_,ok,f,h1⟩:=st;exact⟨_,h1,λv q=>by cases q⟩
 keep:=λi h h' st k=>by
  obtain⟨l,ok,f,h1⟩:=st;exact⟨l,ok,f,k it (by simp) _ h1⟩
 item:=by
  intro X y A B hc i J s σ H E I C st g;subst y A B;have fi:=C it (by simp)
  obtain⟨G,ok,f,h1⟩:=st;obtain⟨D,F,M,N⟩:=BZ I g.1 t;have zb:i<kvs.length:=g.2;have L:kvs[i]?=ih kvs[i]:=bw g.2;obtain⟨b,e,R,S,a,T⟩:=N i _ L;refine GY h1 ⟨o,D,F,t⟩ R λh' e1 U z1 W=>⟨_,rfl,?_⟩;refine wpAny_letOwnedTupleGo_items (s:={ s with heap:=h' }) e1 λu e2 O=>?_;have Q:it≠s.ai:=bK (bt h1);have j:∀b o,b≠it->s.heap.get? b=ih o->u.get? b=ih o:=λb o n1 q=>(O.2 b n1).trans (W b o n1 q);have Y:u.get? s.ai=ih { cls:=.type "tuple",data:=.seq #[e.key,e.val] }:=(O.2 _ (aS Q)).trans U;have p:H s.ai=none:=I.aH.fresh (aP _);have lt:∀b o,s.heap.get? b=ih o->b≠s.ai:=λb o q=>bK (bt q);have gX:∀b o,H b=ih o->b≠it:=λb o q z=>by rw[z,fi.1]at q;cases q
  have x:∀b,b ∉ [it]->b≠it:=λb a z=>a (by simp[z])
  have Z:Inv X J σ (upd H s.ai (.tup [.ref b,kvs[i].2])) { s with heap:=u }:=by
   refine I.step (g':=s.gens) (d':=s.drawn) (t':=s.toks) (ch:=[it]) (λb a=>?_) (λb o _ _ hc q _=>j b o (x b hc) q) (λb o _ _ hc q _=>⟨o.slots,j b o (x b hc) q⟩)
    (λb o _ q n=>by rw[ag (lt b o q)];exact n) (λb o hc q=>⟨o,j b o (x b hc) q⟩) (λb ys q=>by rw[ag (ax q p)];exact q) (λb o v q=>by rw[ag (ax q p)];exact q)
    (λb ps q=>⟨#[],by rw[ag (ax q p),q];simp⟩) (λm xa=>?_) (λb o q=>?_) I.bare
   ·obtain rfl:b=it:=by simpa using a
    exact⟨fi.2.2.2.1,fi.2.1,fi.2.2.2.2.1,fi.2.2.2.2.2⟩
   ·obtain⟨o,es,ep,ya,r⟩:=xa
    exact⟨o,es,ep,j _ o (aS fi.2.1) ya,r⟩
   ·by_cases a:b=s.ai
    ·subst a
     rw[af]at q;cases q;exact⟨by rw[aV];show 2<=_;decide,[e.key,e.val],.cons (by rw[S];rfl) (.cons T .nil),_,Y,rfl,_,rfl,rfl⟩
    ·rw[ag a]at q
     refine(I.aH b o q).et (λc v hc z=>?_) (λc z=>by rw[ag (ax z p)];exact z) λc ys z=>by rw[ag (ax z p)];exact z
     rcases hc with hc|hc
     ·subst hc;exact j _ v (gX _ _ q) z
     ·exact j c v (gX _ _ hc) z
  refine⟨.ref s.ai,_,Z,rfl,⟨s.ai,kvs[i],b,p,rfl,L,a,rfl⟩,⟨g.2,_,_,e2⟩,λb a=>?_⟩;obtain rfl:b=it:=by simpa using a
  rw[ag Q];exact fi.1
 done:=by
  intro X y A B hc i J s σ H E I C st g;subst y A B;have fi:=C it (by simp)
  obtain⟨G,ok,f,h1⟩:=st;obtain⟨D,F,M,N⟩:=BZ I g.1 t;have za:i=es.size:=by rw[M];exact Fp G g.2
  rw[za]at h1;exact GZ (I.ok.hd hc) h1 ⟨o,D,F,t⟩ λh' xb=>⟨rfl,I.turned (t':=s.toks) (λb o a q=>xb b o a q) fi.1 fi.2.1 fi.2.2.2.1 fi.2.2.2.2.1 fi.2.2.2.2.2⟩
 self:=λ_ _ _ _ _ st h=>by
  obtain⟨_,ok,f,h1⟩:=st;exact kcp_self h1 h
def KU(te:TE):TI:=λσ H R=>te σ H λv Y=>∃d kvs,v=.ref d/\Y d=ih (.dT kvs) /\∀o,R (vx d o kvs) (upd Y d (.bu o (.dT kvs)))
theorem IB(u:PE X e te)(n:attributeBase e "items" X.env (eval e X.env)=eval e X.env:=by rfl)(p:(Qf.endLine==Qi.line)=true:=by rfl) :
  PI X (.Tuple Qv n1 tp) (.Call (.Attribute e "items" Qf) [] [] Qi) (KU te):=by
 intro J s σ H R I h;refine wpAny_Call_method (T:= "dict") (id:= "dict.items") n rfl p aaP wL aaN (aF (u J s σ H _ I h) λv s1 F=>?_);obtain⟨y,Y,g,x,d,kvs,A,e,q⟩:=F;subst A;cases x
 obtain⟨z,B,xs,r,o,es,ep,c,l,i,G,K⟩:=(show bC X.prog X.w Y s1.heap d (.dT kvs) from g.aH d _ e);have f:∀h:X8,h.get? d=ih o->kQ h d es ep:=λh e=>⟨o,e,l,i⟩;refine⟨(f s1.heap c).ty,?_,?_⟩
 ·intro a e
  cases e
  exact⟨o,c,l.2.1⟩
 refine method_meetsIn wL aaE rfl (E' ⟨rfl,(f s1.heap c).ty,aas _,_,Gu d B,⟨es,ep,f _ c⟩,?_⟩);have j:d≠s1.ai+1:=λz=>absurd (bt c) (by rw[z];exact Nat.not_lt_of_le (f6 _))
 have k:=a5 { cls:=.type "dict_items",data:=.fields #[.ref d] } c;refine GX (s:={ s1 with heap:=s1.heap.push { cls:=.type "dict_items",data:=.fields #[.ref d] } }) ⟨_,bU _ rfl,rfl,rfl⟩ (f _ k) ?_;have m:(s1.heap.push { cls:=.type "dict_items",data:=.fields #[.ref d] }).objs.size=s1.ai+1:=g7 ..;have C:Inv X J σ Y { s1 with heap:=(s1.heap.push { cls:=.type "dict_items",data:=.fields #[.ref d] }).push { cls:=.type "dict_itemiterator",data:=.fields #[.none,.bool false,.ref d,.int 0 0,.int es.size 0,.int ep 0,.none,.none] } }:=g.kept (t':=s1.toks) λb L z=>a5 _ (a5 _ z);have st:0<=kvs.length /\∃ok D,YE ((s1.heap.push { cls:=.type "dict_items",data:=.fields #[.ref d] }).push { cls:=.type "dict_itemiterator",data:=.fields #[.none,.bool false,.ref d,.int 0 0,.int es.size 0,.int ep 0,.none,.none] }) (s1.ai+1) d 0 es.size ep ok D:=
  ⟨bB _,.none,.none,by show ab5 _ (s1.ai+1)=_;rw[<-m];exact bU _ rfl⟩
 have t:Y (s1.ai+1)=none:=g.aH.fresh (f6 _);show vm X J σ _ R (.ref (s1.heap.push { cls:=.type "dict_items",data:=.fields #[.ref d] }).objs.size) _;rw[m];refine⟨s1.ai+1,[s1.ai+1],_,_,_,rfl,C.KO e (a5 _ k),Jx d (s1.ai+1) j o kvs es ep i,st,λb E=>?_,q o⟩;obtain rfl:b=s1.ai+1:=by simpa using E
 exact g.gT (f6 _) (by rw[ag (aS j)];exact t)
theorem G0{kvs:ac (List Key×V)}{g:TG}{Q:VK}(Pv:Nat->List V->St->Hp->Prop)(h0:Pv 0 [] fz (upd Y p (.lst [])))(q:∀i ys a H,Pv i ys a H->H p=bd ys/\H d=ih (.bu o (.dT kvs)))
  (r:∀i kv t b ys a H,kvs[i]?=ih kv->H t=none->H b=a2 (kv.1.map kV)->Pv i ys a H->g (.ref t) a (upd H t (.tup [.ref b,kv.2])) λf s=>ti f s λb h=>if b=true then te f h λy j=>j p=bd ys/\ys.length<UB /\∃c,c<kvs.length - i/\CW Pv kvs.length (i+1) c (ys++[y]) f (upd j p (.lst (ys++[y]))) else ∃c,c<kvs.length - i/\CW Pv kvs.length (i+1) c ys f h)
  (u:∀ys a H,Pv kvs.length ys a H->Q (.ref p) H):hJ (vx d o kvs) g ti te fz Q p Y:=by
 refine⟨CW Pv kvs.length,⟨kvs.length,by simp,bB _,h0⟩,?_⟩
 rintro i m ys a H ⟨rfl,hi,pv⟩;obtain⟨v,k⟩:=q i ys a H pv;refine⟨v,?_⟩
 by_cases l:i<kvs.length
 ·refine .inr ⟨⟨k,l⟩,λx B w=>?_⟩
  obtain⟨t,kv,b,z,ex,n,A,e3⟩:=w;subst e3;subst ex;exact r i kv t b ys a _ n z A pv
 ·have e:i=kvs.length:=by omega
  subst e;exact .inl ⟨⟨k,aP _⟩,u ys a H pv⟩
theorem Inv.MY{σ:ac (Option V)}(I:Inv X J σ H s)(i:H d=ih (.bu o (.dK kvs)))(h0:∀o u,X.gS d≠ih (.bu o u)):Inv X J σ (upd H d (.dK kvs)) s:=by
 obtain⟨_,ok⟩:=(show bC X.prog X.w H s.heap d (.bu o (.dK kvs)) from I.aH d _ i);have a:∀{b:EZ}{u:HO},H b=ih u->u ≠ .bu o (.dK kvs)->b≠d:=λe n z=>by rw[z,i]at e;exact n (cG e).symm
 have f:∀{b:EZ},H b=none->upd H d (.dK kvs) b=none:=λ{b} e=>by rw[ag (λz=>by rw[z,i]at e;cases e)];exact e
 refine⟨I.ok,I.os,I.bare,⟨I.base.keep,I.base.slot,λb g e n k=>f (I.base.free b g e n k),I.base.there,λb xs e=>?_,λb g u e=>?_,λb ps e=>?_⟩,I.loc,I.cell,f I.free,λx c e=>f (I.eP x c e),λp l=>?_,λb u e=>?_,I.len⟩
 ·rw[ag (a (I.base.gg b xs e) (by intro z;cases z))];exact I.base.gg b xs e
 ·have h:b≠d:=λz=>h0 g u (z ▸ e)
  rw[ag h];exact I.base.gC b g u e
 ·obtain⟨j,e2⟩:=I.base.gR b ps e
  exact⟨j,by rw[ag (a e2 (by intro z;cases z))];exact e2⟩
 ·obtain⟨m,r,t⟩:=I.pin p l
  exact⟨m,f r,t⟩
 ·by_cases h:b=d
  ·subst h
   rw[af]at e;cases e
   exact ok.et (λ_ _ _ q=>q) (λc q=>by rw[ag (a q (by intro z;cases z))];exact q) λc xs q=>by rw[ag (a q (by intro z;cases z))];exact q
  ·rw[ag h]at e
   exact(I.aH b u e).et (λ_ _ _ q=>q) (λc q=>by rw[ag (a q (by intro z;cases z))];exact q) λc xs q=>by rw[ag (a q (by intro z;cases z))];exact q
def L4(H0:Hp)(t:TE):TE:=λσ H Q=>t σ H λv H'=>∃d o kvs,H' d=ih (.bu o (.dK kvs))/\(∀o u,H0 d≠ih (.bu o u))/\Q v (upd H' d (.dK kvs))
theorem JA(a:PE X e te):PE X e (L4 X.gS te):=by
 intro J s σ H Q I h;exact aF (a J s σ H _ I h) λv s1 ⟨y,Y,b,c,d,o,kvs,e1,h0,q⟩=>⟨y,_,b.MY e1 h0,c,q⟩
end L2
namespace L2
open Spec PyProof.Rows W
theorem noFill_list_mul:fillsNumberSlot (.type "list") "mul" = pure false:=
 PySem.fillsNumberSlot_seq (id:= "list.__mul__") (r:=ih (.builtin "list.__rmul__")) FQ.lookup (by decide +kernel) Vo.lookup (by decide +kernel)
theorem repeat_list:seqRepeat? (.type "list")=pure (ih (.builtin "list.__mul__")):=by
 unfold seqRepeat?;rw[aak (T:= "list") (name:= "__mul__") (id:= "list.__mul__") FQ.lookup (by decide +kernel),aak (T:= "list") (name:= "__rmul__") (id:= "list.__rmul__") Vo.lookup (by decide +kernel)]
 rfl
theorem Gv(a:Int)(t:Tok)(l:EZ)(items:Array i')(n:Nat)(b:ad EZ)(sl:Array (Option i')) :
  Meets (Ya.«int.__rmul__» ⟨[.int a t,.ref l],[]⟩) (λ_ R s=>s.heap.get? l=ih { cls:=.type "list",dict:=b,data:=.seq items n,slots:=sl }/\R (.ok (.ret Value.notImplemented)) s):=
 .of_wp λprog w A R s h=>by obtain⟨c,g,d,tk,os⟩:=s;obtain⟨e,h⟩:=h;wp_walk;exact⟨_,rfl,h⟩
theorem IC(l:EZ)(v:i')(n:Nat)(a:ad EZ)(sl:Array (Option i'))(t:Tok) :
  Meets (Ya.«list.__mul__» ⟨[.ref l,.int 8 t],[]⟩) (λ_ R s=>s.heap.get? l=ih { cls:=.type "list",dict:=a,data:=.seq #[v] n,slots:=sl }/\R (.ok (.ret (UR s.ai))) { s with heap:=s.heap.push { cls:=Ye "list",data:=aca #[v,v,v,v,v,v,v,v] },toks:=s.toks }):=
 .of_wp λprog w A R s h=>by
  obtain⟨c,g,d,tk,os⟩:=s;obtain⟨b,h⟩:=h;have e:=Z2;have f:=Vg;have i:=ZA;have j:=Vi;have k:=Vj
  wp_walk using FH b
  exact⟨_,rfl,h⟩
def L5(K:UP):R2:=λx y H Q=>∃a v,x=.ref a/\y=.int 8/\aj K H a [v] /\∀p,H p=none->Q (.ref p) (upd H p (.lst [v,v,v,v,v,v,v,v]))
theorem JB:cp X (Yn .Mult) (L5 X.K):=by
 intro J s σ H x y v u Q I j k h;obtain⟨a,z,rfl,rfl,l,q⟩:=h;cases j
 obtain⟨t,rfl⟩:=k;obtain⟨its,m,p,_⟩:=I.list l;obtain⟨c,rfl,d⟩:=vals1 m;obtain⟨⟨w,A,r,sl⟩,n,e,g,f,i⟩:=id p;simp only at g i f;subst g i f;refine wpAny_binaryOp_repeat_ref (T:= "list") (U:= "int") (by decide) ⟨_,e,rfl⟩ (λs'=>typeIs_int s' 8 t) noFill_list_mul PySem.F.fills_int_mul Vq repeat_list PySem.F.slot_int_index.lookup
  (j8 Vq (typeIs_int s 8 t) PySem.F.entry_int_rmul (PySem.F.args_int_rmul_2 _ _) (Gv 8 t a #[c] n none sl)
   ⟨e,rfl,⟨_,e,rfl⟩,j8 FQ ⟨_,e,rfl⟩ PySem.F.entry_list_mul (PySem.F.args_list_mul_2 _ _) (IC a c n none sl t) ⟨e,?_⟩⟩)
 refine⟨.ref s.ai,_,I.laid (t':=s.toks) (o:=.lst [z,z,z,z,z,z,z,z]) (λb B q=>a5 _ q) (aP _) ?_,rfl,q _ (I.aH.fresh (aP _))⟩;exact⟨by show 8<=UB;rw[aV];decide,[c,c,c,c,c,c,c,c],_,.cons d (.cons d (.cons d (.cons d (.cons d (.cons d (.cons d (.cons d .nil))))))),bU _ rfl⟩
end L2
namespace L2
open W
abbrev pr(x:Fv)(s:U6):Fv×U6:=(x,s)
def ru(K:Ym):List (Fv×U6)->Prop
 |[]=>True
 |p::r=>(∃f fd,aQ K p.1 p.1 p.2 f fd/\nsIn K UU p.1=ih (ih (.ref f)))/\ru K r
def u5(K:Ym):List Fv->Prop
 |[]=>True
 |x::r=>nsIn K UU x=ih none/\u5 K r
theorem MZ{p:Fv×U6}{r:ac (Fv×U6)}{kV:i'}(a:nsIn K UU p.1=ih (ih (.ref f)))
  (l:K.lookup f=ih ⟨oc,od,.func (fnOf p.1 p.1 (dy p.2) (bE p.2) (aI p.2) .none kV Qd pm an Qa ct),Qm⟩) (c:codeIn K Qa p.1=true) (k:Yr K (.ref f)=true) (g:ru K r):ru K (p::r):=⟨⟨f,_,t7 l c k,a⟩,g⟩
theorem l6{p:Fv×U6}(X:K.In h)(G:h.Ns UU mg)(d:∃f fd,aQ K p.1 p.1 p.2 f fd/\nsIn K UU p.1=ih (ih (.ref f)))(ps:ac Fv)
  (b:∀(kV Qd pm:i') (an:ad EZ) (Qa ct:i') (us:ac i'),us.length=ps.length->bindArgs (fnOf p.1 p.1 (dy p.2) (bE p.2) (aI p.2) .none kV Qd pm an Qa ct) ⟨us,[]⟩=pure (ps.zip us)) :
  ∃f fd,aQ K p.1 p.1 p.2 f fd/\Yr K (.ref f)=true/\Binds K fd ps []/\mg p.1=ih (.ref f):=by
 obtain⟨f,fd,F,a⟩:=d;exact⟨f,fd,F,F.kp,F.binds b,jr X G a⟩
theorem kL{n:Nat}(h:us.length=n+1):∃u r,us=u::r/\r.length=n:=by
 cases us with
 |nil=>cases h
 |cons u r=>exact⟨u,r,rfl,Nat.succ.inj h⟩
theorem u6(h:us.length=2):∃a b,us=[a,b]:=by
 obtain⟨a,r,rfl,h2⟩:=kL h;obtain⟨b,rfl⟩:=FR.mp h2;exact⟨a,b,rfl⟩
theorem u7(h:us.length=3):∃a b c,us=[a,b,c]:=by
 obtain⟨a,r,rfl,h2⟩:=kL h;obtain⟨b,c,rfl⟩:=u6 h2;exact⟨a,b,c,rfl⟩
theorem n8(h:us.length=4):∃a b c d,us=[a,b,c,d]:=by
 obtain⟨a,r,rfl,h2⟩:=kL h;obtain⟨b,c,d,rfl⟩:=u7 h2;exact⟨a,b,c,d,rfl⟩
theorem hB{p:Fv×U6}(X:K.In h)(G:h.Ns UU mg)(d:∃f fd,aQ K p.1 p.1 p.2 f fd/\nsIn K UU p.1=ih (ih (.ref f)))(c:Fv)
  (b:∀(kV Qd pm:i') (an:ad EZ) (Qa ct a:i'),bindArgs (fnOf p.1 p.1 (dy p.2) (bE p.2) (aI p.2) .none kV Qd pm an Qa ct) ⟨[a],[]⟩=pure ([c].zip [a]):=by intros;rfl) :
  ∃f fd,aQ K p.1 p.1 p.2 f fd/\Yr K (.ref f)=true/\Binds K fd [c] []/\mg p.1=ih (.ref f):=l6 X G d _ λkV Qd pm an Qa ct us h=>by obtain⟨a,rfl⟩:=FR.mp h;exact b _ _ _ _ _ _ _
theorem f9{p:Fv×U6}(X:K.In h)(G:h.Ns UU mg)(d:∃f fd,aQ K p.1 p.1 p.2 f fd/\nsIn K UU p.1=ih (ih (.ref f)))(e g:Fv)
  (b:∀(kV Qd pm:i') (an:ad EZ) (Qa ct a c:i'),bindArgs (fnOf p.1 p.1 (dy p.2) (bE p.2) (aI p.2) .none kV Qd pm an Qa ct) ⟨[a,c],[]⟩=pure ([e,g].zip [a,c]):=by intros;rfl) :
  ∃f fd,aQ K p.1 p.1 p.2 f fd/\Yr K (.ref f)=true/\Binds K fd [e,g] []/\mg p.1=ih (.ref f):=l6 X G d _ λkV Qd pm an Qa ct us h=>by obtain⟨a,c,rfl⟩:=u6 h;exact b _ _ _ _ _ _ _ _
theorem l0{p:Fv×U6}(X:K.In h)(G:h.Ns UU mg)(d:∃f fd,aQ K p.1 p.1 p.2 f fd/\nsIn K UU p.1=ih (ih (.ref f)))(g i j:Fv)
  (b:∀(kV Qd pm:i') (an:ad EZ) (Qa ct a c e:i'),bindArgs (fnOf p.1 p.1 (dy p.2) (bE p.2) (aI p.2) .none kV Qd pm an Qa ct) ⟨[a,c,e],[]⟩=pure ([g,i,j].zip [a,c,e]):=by intros;rfl) :
  ∃f fd,aQ K p.1 p.1 p.2 f fd/\Yr K (.ref f)=true/\Binds K fd [g,i,j] []/\mg p.1=ih (.ref f):=l6 X G d _ λkV Qd pm an Qa ct us h=>by obtain⟨a,c,e,rfl⟩:=u7 h;exact b _ _ _ _ _ _ _ _ _
theorem jB{p:Fv×U6}(X:K.In h)(G:h.Ns UU mg)(d:∃f fd,aQ K p.1 p.1 p.2 f fd/\nsIn K UU p.1=ih (ih (.ref f)))(i j k l:Fv)
  (b:∀(kV Qd pm:i') (an:ad EZ) (Qa ct a c e g:i'),bindArgs (fnOf p.1 p.1 (dy p.2) (bE p.2) (aI p.2) .none kV Qd pm an Qa ct) ⟨[a,c,e,g],[]⟩=pure ([i,j,k,l].zip [a,c,e,g]):=by intros;rfl) :
  ∃f fd,aQ K p.1 p.1 p.2 f fd/\Yr K (.ref f)=true/\Binds K fd [i,j,k,l] []/\mg p.1=ih (.ref f):=l6 X G d _ λkV Qd pm an Qa ct us h=>by obtain⟨a,c,e,g,rfl⟩:=n8 h;exact b _ _ _ _ _ _ _ _ _ _
theorem KW{p:Fv×U6}(X:K.In h)(G:h.Ns UU mg)(d:∃f fd,aQ K p.1 p.1 p.2 f fd/\nsIn K UU p.1=ih (ih (.ref f)))(j k l m n:Fv)
  (b:∀(kV Qd pm:i') (an:ad EZ) (Qa ct a c e g i:i'),bindArgs (fnOf p.1 p.1 (dy p.2) (bE p.2) (aI p.2) .none kV Qd pm an Qa ct) ⟨[a,c,e,g,i],[]⟩=pure ([j,k,l,m,n].zip [a,c,e,g,i]):=by intros;rfl) :
  ∃f fd,aQ K p.1 p.1 p.2 f fd/\Yr K (.ref f)=true/\Binds K fd [j,k,l,m,n] []/\mg p.1=ih (.ref f):=l6 X G d _ λkV Qd pm an Qa ct us h=>by obtain⟨a,r,rfl,h2⟩:=kL h;obtain⟨c,e,g,i,rfl⟩:=n8 h2;exact b _ _ _ _ _ _ _ _ _ _ _
theorem KY{p:Fv×U6}(X:K.In h)(G:h.Ns UU mg)(d:∃f fd,aQ K p.1 p.1 p.2 f fd/\nsIn K UU p.1=ih (ih (.ref f)))(j k l m n o:Fv)
  (b:∀(kV Qd pm:i') (an:ad EZ) (Qa ct a c e g i q:i'),bindArgs (fnOf p.1 p.1 (dy p.2) (bE p.2) (aI p.2) .none kV Qd pm an Qa ct) ⟨[a,c,e,g,i,q],[]⟩=pure ([j,k,l,m,n,o].zip [a,c,e,g,i,q]):=by intros;rfl) :
  ∃f fd,aQ K p.1 p.1 p.2 f fd/\Yr K (.ref f)=true/\Binds K fd [j,k,l,m,n,o] []/\mg p.1=ih (.ref f):=l6 X G d _ λkV Qd pm an Qa ct us h=>by obtain⟨u,s,rfl,t⟩:=kL h;obtain⟨a,r,rfl,h2⟩:=kL t;obtain⟨c,e,g,i,rfl⟩:=n8 h2;exact b _ _ _ _ _ _ _ _ _ _ _ _
theorem CG(X:K.In h)(G:h.Ns UU mg):∀{xs:ac Fv},u5 K xs ->∀x∈xs,mg x=none
 |y::r,z,x,m=>by
  rcases bH.mp m with rfl|q
  ·exact mg_none_of X G z.1
  ·exact CG X G z.2 x q
end L2
namespace L2
open Spec PyProof.Rows W
end L2
namespace L2
open W
abbrev tr(x q:Fv)(s:U6):Fv×Fv×U6:=(x,q,s)
def rx(K:Ym)(C:EZ):List (Fv×Fv×U6)->Prop
 |[]=>True
 |p::r=>(∃f fd,aQ K p.1 p.2.1 p.2.2 f fd/\Meth K C p.1 f)/\rx K C r
def vy(K:Ym)(C:EZ):List Fv->Prop
 |[]=>True
 |x::r=>Yf K (.ref C) x=ih none/\vy K C r
def CO(K:Ym)(x:Fv)(C:EZ)(fl:List Fv)(ms:List (Fv×Fv×U6)):Prop:=(nsIn K UU x=ih (ih (.ref C))/\plainGet K C ZN=true/\hasDictIn K C=true/\plainOver K C=true/\Yf K (.ref C) "__setattr__" = ih (ih (.builtin "object.__setattr__"))/\makesIn K C=true/\Yr K (.ref C)=true/\vy K C fl)/\rx K C ms
def XO(K:Ym)(x q fl:Fv)(M:EZ)(st:U6):Prop:= ∃f fd,aQ K "__init__" q st f fd/\Meth K M "__init__" f/\nsIn K UU x=ih (ih (.ref M))/\fV K M (ih (.ref f))=true
theorem M0{p:Fv×Fv×U6}{r:ac (Fv×Fv×U6)}{kV:i'}(a:Yf K (.ref C) p.1=ih (ih (.ref f)))(i:isFn K (.ref f)=true)
  (l:K.lookup f=ih ⟨oc,od,.func (fnOf p.1 p.2.1 (dy p.2.2) (bE p.2.2) (aI p.2.2) .none kV Qd pm an Qa ct),Qm⟩) (c:codeIn K Qa p.2.1=true) (k:Yr K (.ref f)=true) (g:rx K C r):rx K C (p::r):=⟨⟨f,_,t7 l c k,a,i,k⟩,g⟩
theorem M1{b:Fv}{kV:i'}(n:nsIn K UU x=ih (ih (.ref C)))(a:Yf K (.ref C) "__init__" = ih (ih (.ref f)))(i:isFn K (.ref f)=true)
  (l:K.lookup f=ih ⟨oc,od,.func (fnOf "__init__" q (dy st) (bE st) (aI st) .none kV Qd pm an Qa ct),Qm⟩) (c:codeIn K Qa q=true) (k:Yr K (.ref f)=true) (e:fV K C (ih (.ref f))=true):XO K x q b C st:=⟨f,_,t7 l c k,⟨a,i,k⟩,n,e⟩
theorem cm_get(d:∃f fd,aQ K x q st f fd/\Meth K C x f)(ps:ac Fv)
  (b:∀(kV Qd pm:i') (an:ad EZ) (Qa ct:i') (us:ac i'),us.length=ps.length->bindArgs (fnOf x q (dy st) (bE st) (aI st) .none kV Qd pm an Qa ct) ⟨us,[]⟩=pure (ps.zip us)) :
  ∃f fd,aQ K x q st f fd/\Meth K C x f/\Binds K fd ps []:=by
 obtain⟨f,fd,F,a⟩:=d;exact⟨f,fd,F,a,F.binds b⟩
theorem KZ(d:∃f fd,aQ K x q st f fd/\Meth K C x f)(c:Fv)(b:∀(kV Qd pm:i') (an:ad EZ) (Qa ct a:i'),bindArgs (fnOf x q (dy st) (bE st) (aI st) .none kV Qd pm an Qa ct) ⟨[a],[]⟩=pure ([c].zip [a]):=by intros;rfl):∃f fd,aQ K x q st f fd/\Meth K C x f/\Binds K fd [c] []:=cm_get d _ λkV Qd pm an Qa ct us h=>by obtain⟨a,rfl⟩:=FR.mp h;exact b _ _ _ _ _ _ _
theorem nH(d:∃f fd,aQ K x q st f fd/\Meth K C x f)(e g:Fv)(b:∀(kV Qd pm:i') (an:ad EZ) (Qa ct a c:i'),bindArgs (fnOf x q (dy st) (bE st) (aI st) .none kV Qd pm an Qa ct) ⟨[a,c],[]⟩=pure ([e,g].zip [a,c]):=by intros;rfl):∃f fd,aQ K x q st f fd/\Meth K C x f/\Binds K fd [e,g] []:=cm_get d _ λkV Qd pm an Qa ct us h=>by obtain⟨a,c,rfl⟩:=u6 h;exact b _ _ _ _ _ _ _ _
theorem tJ(d:∃f fd,aQ K x q st f fd/\Meth K C x f)(g i j:Fv)(b:∀(kV Qd pm:i') (an:ad EZ) (Qa ct a c e:i'),bindArgs (fnOf x q (dy st) (bE st) (aI st) .none kV Qd pm an Qa ct) ⟨[a,c,e],[]⟩=pure ([g,i,j].zip [a,c,e]):=by intros;rfl):∃f fd,aQ K x q st f fd/\Meth K C x f/\Binds K fd [g,i,j] []:=cm_get d _ λkV Qd pm an Qa ct us h=>by obtain⟨a,c,e,rfl⟩:=u7 h;exact b _ _ _ _ _ _ _ _ _
theorem tK(d:∃f fd,aQ K x q st f fd/\Meth K C x f)(i j k l:Fv)(b:∀(kV Qd pm:i') (an:ad EZ) (Qa ct a c e g:i'),bindArgs (fnOf x q (dy st) (bE st) (aI st) .none kV Qd pm an Qa ct) ⟨[a,c,e,g],[]⟩=pure ([i,j,k,l].zip [a,c,e,g]):=by intros;rfl):∃f fd,aQ K x q st f fd/\Meth K C x f/\Binds K fd [i,j,k,l] []:=cm_get d _ λkV Qd pm an Qa ct us h=>by obtain⟨a,c,e,g,rfl⟩:=n8 h;exact b _ _ _ _ _ _ _ _ _ _
theorem K0(d:∃f fd,aQ K x q st f fd/\Meth K C x f)(i j k l m:Fv)(b:∀(kV Qd pm:i') (an:ad EZ) (Qa ct a c e g n:i'),bindArgs (fnOf x q (dy st) (bE st) (aI st) .none kV Qd pm an Qa ct) ⟨[a,c,e,g,n],[]⟩=pure ([i,j,k,l,m].zip [a,c,e,g,n]):=by intros;rfl):∃f fd,aQ K x q st f fd/\Meth K C x f/\Binds K fd [i,j,k,l,m] []:=cm_get d _ λkV Qd pm an Qa ct us h=>by obtain⟨p,s,rfl,o⟩:=kL h;obtain⟨a,c,e,g,rfl⟩:=n8 o;exact b _ _ _ _ _ _ _ _ _ _ _
theorem pP:∀{xs:ac Fv},vy K C xs ->∀{x},x∈xs->Yf K (.ref C) x=ih none
 |y::r,z,x,m=>by
  rcases bH.mp m with rfl|q
  ·exact z.1
  ·exact pP z.2 q
end L2
namespace L2
def dM(k:Nat):List (List Fv)->Fv->Option (Nat×Fv)
 |[],_=>none
 |[]::rest,n=>dM (k+1) rest n
 |(x::r)::rest,n=>if n∈x::r/\x≠n then ih (k,x) else dM (k+1) rest n
theorem w1{k:Nat}(h : ¬ (n∈r/\r.head? ≠ ih n)):dM k (r::rest) n=dM (k+1) rest n:=by
 cases r with
 |nil=>rfl
 |cons x r=>exact ao λz=>h ⟨z.1,by simpa using z.2⟩
theorem Gw{k:Nat}(h:n∈x::r/\x≠n):dM k ((x::r)::rest) n=ih (k,x):=by
 exact aE h
def hj(all:List (List Fv)):List (List Fv)->Option Fv
 |[]=>none
 |[]::rest=>hj all rest
 |(x::_)::rest=>if (dM 0 all x).isNone then ih x else hj all rest
def ff(rest:List (List Fv)):Option Fv:=hj rest rest
def without(n:Fv)(rest:List (List Fv)):List (List Fv):=rest.map λr=>r.filter λy=>!decide (y=n)
def total(rest:List (List Fv)):Nat:=(rest.map Y2).sum
def cw:Nat->List (List Fv)->Option (List Fv)
 |0,_=>ih []
 |k+1,rest=>if (rest.any λr=>!r.isEmpty)=true then (match ff rest with|none=>none|some n=>(cw k (without n rest)).map (n :: ·)) else ih []
theorem r5{all:ac (List Fv)}{n:Fv}:∀{rest:ac (List Fv)},hj all rest=ih n ->∃r∈rest,r.head?=ih n
 |[],h=>by cases h
 |[]::rest,h=>let ⟨r,a,e⟩:=r5 (rest:=rest) h;⟨r,ba _ a,e⟩
 |(x::t)::rest,h=>by
  have h:(if (dM 0 all x).isNone then ih x else hj all rest)=ih n:=h;split at h
  ·cases h;exact⟨n::t,aW,rfl⟩
  ·obtain⟨r,a,e⟩:=r5 (rest:=rest) h
   exact⟨r,ba _ a,e⟩
theorem wZ(n:Fv):∀rest:ac (List Fv),total (without n rest)<=total rest
 |[]=>aP _
 |r::rest=>by
  have h1:=wZ n rest;have h2:=gM (λy=>!decide (y=n)) r;simp only[total,without,b2,wQ]at *;omega
theorem lD{n:Fv}:∀{rest:ac (List Fv)},(∃r∈rest,n∈r)->total (without n rest)<total rest
 |[],⟨_,h,_⟩=>by simp at h
 |r::rest,⟨q,hq,a⟩=>by
  have h1:=wZ n rest;have h2:=gM (λy=>!decide (y=n)) r;rcases bH.mp hq with rfl|hq
  ·have b:(q.filter λy=>!decide (y=n)).length<q.length:=by
    exact List.length_filter_lt_length_iff_exists.mpr ⟨n,a,by simp⟩
   simp only[total,without,b2,wQ]at *;omega
  ·have b:=lD ⟨q,hq,a⟩
   simp only[total,without,b2,wQ]at *;omega
theorem le_total{r:ac Fv}:∀{rest:ac (List Fv)},r∈rest->r.length<=total rest
 |[],h=>by simp at h
 |q::rest,h=>by
  have e:total (q::rest)=q.length+total rest:=by simp[total]
  rcases bH.mp h with rfl|h
  ·omega
  ·have:=le_total h
   omega
theorem Bh(h:(rest.any λr=>!r.isEmpty)=true):0<total rest:=by
 obtain⟨r,a,e⟩:=lu.mp h;have h1:0<r.length:=by cases r with
  |nil=>simp at e
  |cons _ _=>simp
 have h2:r.length<=total rest:=le_total a;omega
def dV(H:Hp)(vs:List V)(rows:List (List Fv)):Prop:=VM (λy r=>∃a,y=V.ref a/\H a=ih (.tup (r.map V.str))) vs rows
theorem dV.same(h:dV H vs rows)(s:aw H H'):dV H' vs rows:=Paired.imp' (λ_ _ ⟨a,e,q⟩=>⟨a,e,s _ _ q⟩) h
theorem dV.length(h:dV H vs rows):vs.length=rows.length:=cK h
theorem dV.get{H:Hp}:∀{vs:ac V}{rows:ac (List Fv)}{i:Nat}{v:V},dV H vs rows->vs[i]?=ih v ->∃a r,v=V.ref a/\rows[i]?=ih r/\H a=a2 (r.map V.str)
 |_,_,i,v,.nil,e=>by simp at e
 |_,_,0,v,.cons p _,e=>by
  obtain⟨a,rfl,q⟩:=p;simp at e;subst e;exact⟨a,_,rfl,rfl,q⟩
 |_,_,i+1,v,.cons _ t,e=>by
  obtain⟨a,r,e1,e2,q⟩:=dV.get (i:=i) t (by simpa using e)
  exact⟨a,r,e1,by simpa using e2,q⟩
theorem dV.append{H:Hp}{vs:ac V}{rows:ac (List Fv)}{a:EZ}{r:ac Fv}:dV H vs rows->H a=a2 (r.map V.str)->dV H (vs++[.ref a]) (rows++[r])
 |.nil,q=>.cons ⟨a,rfl,q⟩ .nil
 |.cons p t,q=>.cons p (dV.append t q)
end L2
namespace ew
open L2 W
def top(i:Nat):U6:=PySem.Challenge.pw_parentlines_k44_whole_asked_as_reckoned.main.body.getD i (.Pass ⟨0,0,0,0⟩)
abbrev pB:U6:=inClass (top 7) 0
abbrev pC:U6:=inClass (top 8) 0
abbrev nI:U6:=top 10
abbrev tL:U6:=top 11
abbrev sj:U6:=top 13
abbrev sT:U6:=top 14
abbrev nJ:U6:=top 16
abbrev p1:U6:=top 17
abbrev n0:U6:=top 18
abbrev l7:U6:=top 21
abbrev m9:U6:=top 22
abbrev sU:U6:=top 24
abbrev sF:U6:=top 25
abbrev tM:U6:=top 26
abbrev nu:U6:=top 27
abbrev uf:U6:=top 28
abbrev ny:U6:=top 30
abbrev tN:U6:=top 31
abbrev nz:U6:=top 32
abbrev lL:U6:=top 34
abbrev sd:U6:=top 35
abbrev sV:U6:=top 36
abbrev kI:U6:=top 37
abbrev uz:U6:=top 38
abbrev kg:U6:=top 39
abbrev u9:U6:=top 41
abbrev nP:U6:=top 42
abbrev iV:U6:=top 43
abbrev h9:U6:=top 44
abbrev nQ:U6:=top 45
abbrev sG:U6:=top 46
abbrev nA:U6:=top 47
abbrev tO:U6:=top 48
abbrev tP:U6:=top 49
abbrev uA:U6:=top 50
abbrev nR:U6:=top 51
abbrev uB:U6:=top 52
abbrev tQ:U6:=top 53
abbrev nS:U6:=top 54
abbrev uC:U6:=top 55
abbrev tR:U6:=top 56
abbrev vz:U6:=top 57
abbrev nT:U6:=top 58
abbrev nU:U6:=top 59
abbrev ku:U6:=top 60
abbrev uD:U6:=top 61
abbrev vA:U6:=top 62
abbrev qF:U6:=top 63
abbrev uE:U6:=inClass uf 0
abbrev uF:U6:=inClass uf 1
abbrev uG:U6:=inClass uf 2
abbrev ug:U6:=inClass kI 0
abbrev sk:U6:=inClass kI 1
abbrev uH:U6:=inClass kI 2
abbrev nV:U6:=inClass kI 4
abbrev uI:U6:=inClass kI 5
abbrev tS:U6:=inClass kI 6
abbrev nK:U6:=inClass kI 7
abbrev uh:U6:=inClass uz 0
abbrev tT:U6:=inClass uz 1
abbrev tU:U6:=inClass uz 2
structure df(mg:Fv->Option i'):Prop where
 len:mg "len" = none
 max:mg "max" = none
 min:mg "min" = none
 abs:mg "abs" = none
 range:mg "range" = none
 any:mg "any" = none
 all:mg "all" = none
 list:mg "list" = none
 tuple:mg "tuple" = none
 PB:mg "enumerate" = none
theorem j1{y:Fv}:cW ((y::r).map V.str) 0=ih (V.str y):=(show cW ((y::r).map V.str) ((0:Nat):Int)=ih (V.str y) from cq rfl)
theorem aJ{q:EZ}{o:HO}(a:H q=none):aw H (upd H q o):=λb u e=>by rw[ag (ax e a)];exact e
theorem JC{g:TG}{D:Ends}(Pv:Nat->St->Hp->Prop)(h0:Pv 0 σ H)(h:∀i σ H,i<=xs.length->Pv i σ H->aj K H a xs)
  (j:∀i x σ H t,xs[i]?=ih x->Pv i σ H->H t=none->g (.ref t) σ (upd H t (.tup [.int i,x])) λb H2=>tb { D with nx:=Pv (i+1),ct:=Pv (i+1),bk:=D.nx } b H2) (k:∀σ H,Pv xs.length σ H->D.nx σ H) :
  ∃W:Nat->Nat->St->Hp->Prop,(∃m,W 0 m σ H) /\∀i m σ H,W i m σ H ->
   ((oz K a).stop i H/\D.nx σ H)\/((oz K a).go i H /\∃N:St->Hp->Prop,(∀c H',N c H' ->∃f,f<m/\W (i+1) f c H') /\∀x H',(oz K a).i8 i H x H'->g x σ H' λb H2=>tb { D with nx:=N,ct:=N,bk:=D.nx } b H2):=by
 refine⟨λi m σ H=>m=xs.length - i/\i<=xs.length/\Pv i σ H,⟨xs.length,by simp,bB _,h0⟩,?_⟩
 rintro i m σ H ⟨rfl,hi,p⟩;have q:=h i σ H hi p
 by_cases d:i<xs.length
 ·refine .inr ⟨⟨xs,xs[i],q,by simp[d]⟩,Pv (i+1),λc H' l=>⟨xs.length - (i+1),by omega,rfl,d,l⟩,λx H' y=>?_⟩
  obtain⟨t,v,n,rfl,o,rfl⟩:=y;exact j i v σ _ t (o xs q) p n
 ·have e:i=xs.length:=by omega
  subst e;exact .inl ⟨⟨xs,q,aP _⟩,k σ H p⟩
inductive p8(vs:List V)(H:Hp)(Q:VK)(E:XK):Prop
 |mk{l:EZ}{ws:List V}{rows:List (List Fv)}{n:Fv}(_:vs=[.ref l,.str n])(_:H l=ih (.lst ws))(_:dV H ws rows)(_:(dM 0 rows n=none ->∀H',aw H H'->Q .aK H'))(_:(∀i x,dM 0 rows n=ih (i,x) ->∀p H',H p=none->aw H H'->H' p=ih (.tup [.int i,.str x,.str n])->Q (.ref p) H')):p8 vs H Q E
theorem ui:bf ["rest","name","at","row"] ["rest","name"] (aI n0):=bz
theorem K1(F:aQ K "wish_against" "wish_against" n0 f fd)(B:df mg):aT P w K mg base aG 1 f fd ["rest","name"] p8:=by
 refine F.bG ui λQa A outer s H vs Q E R h=>?_
 ·obtain @⟨l,ws,rows,n,rfl,q,u,qn,L⟩:=h
  intro X;refine⟨_,au (eG d5 rfl (Kj rfl B.PB (aa (pv 0) ah)) (ib rfl (cZ (bb 2 ui.nd) (cZ (bb 3 ui.nd) gw)))
    (aA (bh (PW.pt (pw_and (bp jt (pv 1) (pv 3) rfl) (pw_and1 (bp jH (aU bj (pv 3) ar) (pv 1) (bA _)))))
     (aA (aX (b7 (aa (pv 2) (aa (aU bj (pv 3) ar) (aa (pv 1) ah)))))) bD)))
   (aA (aX dQ)),?_⟩
  refine⟨_,rfl,l,rfl,⟨_,aj.of q⟩,JC (xs:=ws) (λi σ Y=>∃j k:ad V,σ=[am l,ih (.str n),j,k]/\aw H Y/\dM i (rows.drop i) n=dM 0 rows n) ⟨none,none,rfl,aw.refl _,by simp⟩ (λi σ Y _ ⟨_,_,_,z,_⟩=>aj.of (z _ _ q)) ?_ ?_⟩
  ·rintro i x σ Y t M ⟨j,k,rfl,m,b⟩ N
   obtain⟨a,r,rfl,D,G⟩:=u.get M;have c:aw H (upd Y t (.tup [.int i,.ref a])):=m.trans (aJ N);have d:=c _ _ G;have I:rows.drop i=r::rows.drop (i+1):=by
    have hi:=(bZ.mp D);obtain⟨J,rfl⟩:=hi;exact lr J
   rw[I]at b;refine⟨t,_,rfl,ay.of af,rfl,_,_,rfl,_,_,rfl,rfl,?_⟩;refine⟨_,rfl,_,rfl,a,_,rfl,.inr (ay.of d),rfl,jv _,_,rfl,?_⟩;rw[ao b',iM];refine bW (λe=>?_) (λe=>?_)
   ·have o:n∈r:=by simpa using e
    cases r with
    |nil=>simp at o
    |cons y r =>
     refine⟨_,rfl,a,_,0,.str y,rfl,rfl,ay.of d,j1,_,rfl,rfl,_,rfl,?_⟩;refine bW (λg=>?_) (λg=>?_)
     ·have C:y≠n:=λz=>by subst z;simp at g
      refine⟨_,rfl,_,rfl,a,_,0,.str y,rfl,rfl,ay.of d,j1,_,rfl,gY,λp v=>?_⟩;rw[Gw ⟨o,C⟩]at b;exact L i y b.symm p _ (c.free v) (c.trans (aJ v)) af
     ·have O:y=n:=by
       by_cases z:y=n
       ·exact z
       ·exact absurd (by simp[z]) g
      refine⟨_,_,rfl,c,?_⟩;rw[<-b,w1 λz=>z.2 (by rw[O];rfl)]
   ·refine⟨_,_,rfl,c,?_⟩
    rw[<-b,w1 λz=>e (by simpa using z.1)]
  ·rintro σ Y ⟨j,k,rfl,m,b⟩
   rw[u.length,wR]at b;exact qn b.symm Y m
def DS:Option Fv->V
 |none=>.aK
 |some n=>.str n
inductive pQ(vs:List V)(H:Hp)(Q:VK)(E:XK):Prop
 |mk{l:EZ}{ws:List V}{rows:List (List Fv)}(_:vs=[.ref l])(_:H l=ih (.lst ws))(_:dV H ws rows)(_:∀H',aw H H'->Q (DS (ff rows)) H'):pQ vs H Q E
theorem CH:bf ["rest","row"] ["rest"] (aI p1):=bz
theorem JD{fW:EZ}{g:X2}(F:aQ K "least_free" "least_free" p1 f fd)(B:df mg)(t:aQ K "wish_against" "wish_against" n0 fW g)(I:Binds K g ["rest","name"] [])(J:mg "wish_against" = ih (.ref fW)) :
  aT P w K mg base aG 2 f fd ["rest"] pQ:=by
 have L:aT P w K mg base aG 1 fW g ["rest","name"] p8:=K1 t B;refine F.bG CH λQa A outer s H vs Q E M h=>?_
 ·obtain @⟨l,ws,rows,rfl,m,n,q⟩:=h
  have u:aZ 1 _:=M;intro X;refine⟨_,au (eG d5 rfl (c6 (pv 0)) (bb 1 CH.nd)
    (aA (bh (PW.pt (pw_and (km (pv 1) (λ_=>rfl)) (pw_and1 (bp gy (fM L u rfl J t.kp I .nil cV (aa (pv 0) (aa (aU bj (pv 1) ar) ah))) dQ (bA _)))))
     (aA (aX (aU bj (pv 1) ar))) bD)))
   (aA (aX dQ)),?_⟩
  refine⟨_,rfl,l,rfl,⟨_,aj.of m⟩,h8 (xs:=ws) (λi σ Y=>∃o:ad V,σ=[am l,o]/\aw H Y/\hj rows (rows.drop i)=ff rows) ⟨none,rfl,aw.refl _,by simp[ff]⟩ (λi σ Y _ ⟨_,_,z,_⟩=>aj.of (z _ _ m)) ?_ ?_⟩
  ·rintro i x σ Y N ⟨o,rfl,c,b⟩
   obtain⟨a,r,rfl,v,C⟩:=n.get N;have k:=c _ _ C;have D:rows.drop i=r::rows.drop (i+1):=by
    obtain⟨G,rfl⟩:=bZ.mp v;exact lr G
   rw[D]at b;refine⟨_,rfl,!(r.map V.str).isEmpty,.inr (.inl ⟨_,ay.of k,rfl⟩),?_⟩;cases r with
   |nil=>exact⟨_,rfl,c,b⟩
   |cons y r =>
    have b:(if (dM 0 rows y).isNone then ih y else hj rows (rows.drop (i+1)))=ff rows:=b;refine⟨_,rfl,_,rfl,a,_,0,.str y,rfl,rfl,ay.of k,j1,?_⟩;refine p8.mk rfl (c _ _ m) (n.same c) (λO H2 d=>?_) (λj z es p H2 R d h2=>?_)
    ·refine⟨rfl,_,rfl,?_⟩
     refine⟨_,rfl,a,_,0,.str y,rfl,rfl,ay.of (d _ _ k),j1,?_⟩;rw[O]at b;have e:ff rows=ih y:=b.symm;have:=q H2 (c.trans d);rw[e]at this;exact this
    ·refine⟨rfl,_,rfl,?_⟩
     rw[es]at b;exact⟨_,rfl,c.trans d,b⟩
  ·rintro σ Y ⟨o,rfl,c,b⟩
   rw[n.length,wR]at b;have e:ff rows=none:=b.symm;have:=q Y c;rw[e]at this;exact this
theorem ID(h:Nm x):(x.cps.toList.all λc=>decide (c<16 ^ 8))=true:=by
 rw[mT];intro c a;have:=(h.az c a).2;exact cb (by omega)
def l2(s:U6):List U6:=match s with|.For _ _ b _ _=>b|_=>[]
def nc(s:U6):List U6:=match s with|.While _ b _ _=>b|_=>[]
def bR(l:List U6)(i:Nat):U6:=l.getD i (.Pass ⟨0,0,0,0⟩)
def e8(s:U6):Vp:=match s with|.Assign _ v _=>v|_=>.Constant .none 0 ⟨0,0,0,0⟩
def mr(s:U6):Vp:=match s with|.Return (ih v) _=>v|_=>.Constant .none 0 ⟨0,0,0,0⟩
def gj(e:Vp):Vp:=match e with|.Call _ (a::_) _ _=>a|_=>.Constant .none 0 ⟨0,0,0,0⟩
def Oz(e:Vp):Vp:=match e with|.Subscript a _ _=>a|_=>.Constant .none 0 ⟨0,0,0,0⟩
def Dp(e:Vp):Vp:=match e with|.ListComp x _ _ _=>x|_=>.Constant .none 0 ⟨0,0,0,0⟩
def cB(e:Vp):YW:=match e with|.ListComp _ _ sc _=>sc|_=>{ kind:=.function,names:=[],isGenerator:=false,isCoroutine:=false }
theorem boot_tuple:Vh "tuple" = ih (.type "tuple"):=by decide +kernel
theorem boot_list:Vh "list" = ih (.type "list"):=by decide +kernel
structure Small(rows:List (List Fv)):Prop where
 a3:rows.length<=10
 short:∀r∈rows,r.length<=20
 nm:∀r∈rows,∀n∈r,Nm n
theorem L6{a:ac Fv}(b:ps.Nodup)(h:∀n∈ps,n∈a):ps.length<=a.length:=by
 by_cases z:ps.length<=a.length
 ·exact z
 ·obtain⟨y,c,d⟩:=ub (found:=a) b (by omega)
  exact absurd (h y c) d
theorem Au(h:total rest=0):(rest.any λr=>!r.isEmpty)=false:=by
 cases e:rest.any λr=>!r.isEmpty with
 |false=>rfl
 |true=>have:=Bh e;omega
theorem lM(h:ff rest=ih n):∃r∈rest,n∈r:=by
 obtain⟨r,a,e⟩:=r5 h;exact⟨r,a,List.mem_of_head? e⟩
theorem Av:∀(k:Nat) (r:ac (List Fv)),total r<=k ->∀j,total r<=j->cw k r=cw j r
 |0,r,h,j,_=>by
  have z:=Au (show total r=0 by omega)
  cases j with
  |zero=>rfl
  |succ j=>unfold cw;rw[ao (by rw[z];exact b')]
 |k+1,r,h,0,a=>by
  have z:=Au (show total r=0 by omega)
  unfold cw;rw[ao (by rw[z];exact b')]
 |k+1,r,h,j+1,a=>by
  unfold cw;split
  ·cases e:ff r with
   |none=>rfl
   |some n =>
    have:=lD (lM e);show ZX _ _=ZX _ _;rw[Av k (without n r) (by omega) j (by omega)]
  ·rfl
theorem so{r:ac (List Fv)}(h:(r.any λr=>!r.isEmpty)=false):cw (total r) r=ih []:=by
 cases total r with
 |zero=>rfl
 |succ k=>unfold cw;rw[ao (by rw[h];exact b')]
theorem sq{r:ac (List Fv)}(h:(r.any λr=>!r.isEmpty)=true)(e:ff r=none):cw (total r) r=none:=by
 have:=Bh h;cases q:total r with
 |zero=>omega
 |succ k=>unfold cw;rw[aE h,e]
theorem sr{r:ac (List Fv)}(h:(r.any λr=>!r.isEmpty)=true)(e:ff r=ih n):cw (total r) r=(cw (total (without n r)) (without n r)).map (n :: ·):=by
 have:=lD (lM e);cases q:total r with
 |zero=>omega
 |succ k =>
  show(if (r.any λr=>!r.isEmpty)=true then _ else _)=_;rw[aE h,e];show ZX _ _=_;rw[Av k (without n r) (by omega) _ (aP _)]
theorem w5{env:Zs}:∀{c:ac (Fv×Yo)}{x:Fv},c.lookup x=ih .cell ->
  (c.map λ(n,k)=>if (k==U4&&env.scope.kind == .function&&env.kindOf n==ih .cell) then (n,X3) else (n,k)).lookup x=ih .cell
 |[],_,h=>by simp at h
 |(n,b)::r,x,h=>by
  have d:=@w5 env r x;show VA x ((if (b==U4&&env.scope.kind == .function&&env.kindOf n==ih .cell)=true then (n,X3) else (n,b))::_)=_;rw[dg]at h;cases a:x==n with
  |true =>
   rw[a]at h;cases h
   rw[ao (by simp),dg,a]
  |false =>
   rw[a]at h
   by_cases e:(b==U4&&env.scope.kind == .function&&env.kindOf n==ih .cell)=true
   ·rw[aE e,dg,a];exact d h
   ·rw[ao e,dg,a];exact d h
theorem nest{mH:YW}(a:sc.kind=.function)(keys:(sc.names.map (·.1)).Nodup)(c:N'.Nodup)(b:Qe.length=N'.length)(d:uZ N N' Qe sc=true)
  (free:∀p∈sc.names,p.2=.free->mH.names.lookup p.1=ih .cell\/mH.names.lookup p.1=ih .free):b6 N (relabel mH env) N' Qe sc:=
 ⟨a,keys,c,b,Dk d,λp f e=>by
  rcases free p f e with z|z
  ·exact .inl (w5 z)
  ·exact r0 z⟩
theorem w6(K:Ym)(h:X.K=K):cU X (.type "tuple") (λxs H Q=>∃p ys,xs=[.ref p]/\((aj K H p ys /\∀l,H l=none->Q (.ref l) (upd H l (.tup ys)))\/(ay K H p ys/\Q (.ref p) H))):=by subst h;exact iI
theorem boot_any:Vh "any" = ih (.builtin "any"):=by decide +kernel
def p9(K:Ym)(C:EZ):Bool:=
 Yf K (.ref C) "__getattribute__" == ih (ih (.builtin "BaseException.__getattribute__"))&&(Yf K (.ref C) "__getattr__" == ih none&&(Yf K (.ref C) "__setattr__" == ih (ih (.builtin "object.__setattr__"))&&(hasDictIn K C &&
 (((clsIn K C).any λcd=>mf cd.mro)&&(mroIn K C (.type "BaseException")==ih true&&(mroIn K C (.type "ValueError")==ih true&&(mroIn K C (.type "object")==ih true&&(Yf K (.ref C) "__class__" == ih (ih (.builtin "object.__class__")) &&
 (specialIn K (.builtin "object.__class__") "__get__" == ih (ih (.builtin "getset_descriptor.__get__"))&&takesIn K (.builtin "object.__class__")==ih true)))))))))
theorem CI(h:p9 K C=true):eQ K C:=by
 unfold p9 at h;simp only[gK,dA]at h;obtain⟨a,b,c,d,e,f,g,i,j,k,l⟩:=h;exact⟨a,b,c,d,e,f,g,i,j,k,l⟩
def DT(a:EZ)(H H':Hp):Prop:= ∀b o,H b=ih o->b≠a->H' b=ih o
theorem B0{fs:ac (Fv×V)}(c:H d=none):DT a H (upd (upd H d (e7 d fs)) a (cE C (ih d) a)):=λb o e n=>by
 rw[ag n,ag (ax e c)];exact e
abbrev CJ:List Fv:=["rows","order","rest","name"]
theorem nB:bf CJ ["rows"] (aI nJ):=bz
abbrev DU:Vp:=e8 (bR (nc (bR (bE nJ) 2)) 3)
abbrev mH:YW:=cB DU
abbrev PD:YW:=cB (gj (Dp DU))
theorem Es:b6 CJ (aI nJ) ["row","name"] [none,ih 3] mH:=c8
theorem PF:b6 ["row","name"] (relabel mH env) ["other","name"] [none,ih 1] PD:=nest rfl (by decide +kernel) (by decide +kernel) rfl (by decide +kernel) (by decide +kernel)
theorem PH:(["other","name"]:ac Fv).Nodup:=by decide +kernel
theorem Bi(h:dV H vs rows)(s:∀b xs,H b=a2 xs->H' b=a2 xs):dV H' vs rows:=Paired.imp' (λ_ _ ⟨a,e,q⟩=>⟨a,e,s _ _ q⟩) h
theorem w2(S:Small rest):Small (without n rest):=by
 refine⟨by unfold L2.without;rw[aB];exact S.a3,λr a=>?_,λr a y c=>?_⟩
 ·obtain⟨q,b,rfl⟩:=a4.mp a
  exact eg (gM _ _) (S.short q b)
 ·obtain⟨q,b,rfl⟩:=a4.mp a
  exact S.nm q b y (fc.mp c).1
structure DV(H:Hp)(rows:List (List Fv))(t oa:EZ)(m:Nat)(σ:St)(Y:Hp)(rest:List (List Fv))(ws:List V)(Qb:List Fv)(rl:EZ):Prop where
 st:∃v3:Option V,σ=[ih (.ref t),ih (.ref oa),ih (.ref rl),v3]
 mm:m=total rest
 Et:Y oa=ih (.lst (Qb.map V.str))
 vB:Y rl=ih (.lst ws)
 rr:dV Y ws rest
 sm:Small rest
 ne:rl≠oa
 same:aw H Y
 lim:Qb.length+total rest<=1000
 eq:cw (total rows) rows=(cw (total rest) rest).map (Qb ++ ·)
theorem o1:∀{rows:ac (List Fv)},(∀r∈rows,r.length<=20)->total rows<=20 * rows.length
 |[],_=>bB _
 |r::rows,h=>by
  have h1:=o1 λq a=>h q (ba _ a);have h2:=h r aW;have e:total (r::rows)=r.length+total rows:=by simp[total]
  rw[e,cS];omega
theorem JE(h:dV H ws rows):VM (λy r=>∃a,y=V.ref a/\ay K H a r) ws (rows.map λr=>r.map V.str):=by
 induction h with
 |nil=>exact .nil
 |cons p _ b=>obtain⟨a,e,q⟩:=p;exact .cons ⟨a,e,ay.of q⟩ b
theorem any_map(rows:ac (List Fv)):((rows.map λr=>r.map V.str).any λr=>!r.isEmpty)=rows.any λr=>!r.isEmpty:=by
 rw[wj];congr 1;funext r;cases r <;> rfl
inductive pD(vs:List V)(H:Hp)(Q:VK)(E:XK):Prop
 |mk{t:EZ}{ws:List V}{rows:List (List Fv)}{o:List Fv}(_:vs=[.ref t])(_:H t=ih (.tup ws))(_:dV H ws rows)(_:Small rows)(_:cw (total rows) rows=ih o)(_:∀p H',H p=none->aw H H'->H' p=ih (.tup (o.map V.str))->Q (.ref p) H'):pD vs H Q E
theorem IE{fW:EZ}{Z zd:X2}(F:aQ K "merged" "merged" nJ f fd)(C:df mg)
  (zl:aQ K "wish_against" "wish_against" n0 fW zd) (xm:Binds K zd ["rest","name"] []) (ym:mg "wish_against" = ih (.ref fW))
  (zf:aQ K "least_free" "least_free" p1 fL Z) (zm:Binds K Z ["rest"] []) (xn:mg "least_free" = ih (.ref fL)) :
  aT P w K mg base aG 3 f fd ["rows"] pD:=by
 have yn:aT P w K mg base aG 2 fL Z ["rest"] pQ:=JD zf C zl xm ym;refine F.bG nB λQa A outer s H vs Q E zn h=>?_
 ·obtain @⟨t,ws,rows,o,rfl,xg,xo,zb,O,yo⟩:=h
  have xj:aZ 2 _:=zn;intro X;refine⟨_,au (aY 1 nB.nd (ej ah))
   (au (aY 2 nB.nd (dq kb rfl C.list boot_list (aa (pv 0) ah)))
   (au (ni d5 (km (bT (Ia rfl) rfl C.any boot_any (aa (pv 2) ah)) (λ_=>rfl))
    (au (ic (i:=3) nB.nd rfl (YN rfl) (fM yn xj rfl xn zf.kp zm .nil cV (aa (pv 2) ah)))
    (au (bh (bp gy (pv 3) dQ (bA _)) (aA IV) bD)
    (au (eF (gc hg mX mY ju (pv 1) (aa (pv 3) ah)))
    (aA (lK (i:=2) rfl Es nB.nd rfl rfl (c6 (pv 2)) (λs H fp=>⟨bb 0 Es.nd,ei,
     dq (w6 K rfl) rfl C.tuple boot_tuple (aa (dZ rfl PF (BF K rfl (pv 0)) (λs H fp=>⟨bb 0 PH,iL (bp jH (pv 0) (pv 1) rfl),pv 0⟩)) ah)⟩)))))))
   (aA (aX (dq iI rfl C.tuple boot_tuple (aa (pv 1) ah)))))),?_⟩
  refine⟨bB _,λc xa=>⟨_,rfl,t,ws,rfl,.inr (ay.of (by rw[ag (ax xg xa)];exact xg)),λd ya=>?_⟩⟩
  have yi:(upd (upd H c (.lst [])) d (.lst ws)) c=bd []:=by rw[ag (ax af ya)];exact af
  have yg:aw H (upd (upd H c (.lst [])) d (.lst ws)):=(aJ xa).trans (aJ ya);refine⟨λm σ Y=>∃rest g Qb d,DV H rows t c m σ Y rest g Qb d,⟨_,rows,ws,[],d,⟨none,rfl⟩,rfl,yi,af,xo.same yg,zb,aS (ax af ya),yg,by have:=o1 zb.short;have:=zb.a3;simp only[jm];omega,by cases cw (total rows) rows <;> rfl⟩,?_⟩
  rintro m σ Y ⟨rest,g,Qb,d,R⟩;obtain⟨zp,rfl⟩:=R.st;refine⟨_,rfl,d,g,_,rfl,aj.of R.vB,JE R.rr,_,rfl,?_⟩;rw[any_map];refine bW (λS=>?_) (λS=>?_)
  ·refine⟨λyj H'=>∃zg,zg<m /\∃rest g Qb d,DV H rows t c zg yj H' rest g Qb d,λ_ _ z=>z,?_⟩
   refine⟨_,rfl,pQ.mk rfl R.vB R.rr λH2 D=>?_⟩;cases e:ff rest with
   |none =>
    refine⟨_,rfl,rfl,_,rfl,?_⟩;rw[R.eq,sq S e]at O;cases O
   |some n =>
    refine⟨_,rfl,rfl,_,rfl,?_⟩;have W:H2 c=bd (Qb.map V.str):=D _ _ R.Et;refine⟨_,rfl,.inl ⟨rfl,_,aj.of W⟩,_,rfl,c,_,_,rfl,rfl,W,by have:=R.lim;rw[aB,aV];omega,?_⟩
    generalize J:upd H2 c (.lst (Qb.map V.str++[DS (ih n)]))=G;have zo:aw H G:=λb o xh=>by rw[<-J,ag (ax xh xa)];exact D _ _ (R.same b o xh)
    have zj:d≠c:=R.ne;have xd:G d=bd g:=by rw[<-J,ag zj];exact D _ _ R.vB
    have xe:dV G g rest:=Bi R.rr λb xs q=>by rw[<-J,ag (aq (D _ _ q) W)];exact D _ _ q
    have yd:G c=bd ((Qb++[n]).map V.str):=by rw[<-J,af,a8];rfl
    refine⟨_,rfl,d,rfl,⟨_,aj.of xd⟩,λI L=>?_⟩;have xk:I≠c:=λz=>by rw[z,yd]at L;cases L
    refine fe (xs:=g) (λi ys T k=>∃xc:ad V,T=[xc,ih (.str n)]/\k I=bd ys/\aw G k/\dV k ys (L2.without n (rest.take i))) ⟨none,rfl,af,aJ L,.nil⟩ (λi ys T k ⟨_,_,h1,h2,_⟩=>⟨h1,aj.of (h2 _ _ xd)⟩) ?_ ?_
    ·rintro i x ys T k yh ⟨xc,rfl,v,u,B⟩
     obtain⟨a,r,rfl,ye,za⟩:=xe.get yh;have yk:i<g.length:=(bZ.mp yh).1;have tk:rest.take (i+1)=rest.take i++[r]:=by rw[dH,ye];rfl
     refine⟨_,rfl,a,rfl,⟨_,ay.of (u _ _ za)⟩,λb1 xb=>?_⟩;have zk:a≠b1:=ax (u _ _ za) xb;refine lQ (xs:=r.map V.str) (λj zs M U=>∃yc:ad V,M=[yc,ih (.str n)]/\zs=((r.take j).filter λy=>!decide (y=n)).map V.str/\U=upd k b1 (.lst zs)) ⟨none,rfl,rfl,rfl⟩ (λj zs M U ⟨_,_,_,z⟩=>by rw[z];exact⟨af,ay.of (by rw[ag zk];exact u _ _ za)⟩) ?_ ?_
     ·rintro j x zs M U ze ⟨yc,rfl,rfl,rfl⟩
      have yb:j<(r.map V.str).length:=(bZ.mp ze).1;have xf:j<r.length:=by simpa using yb
      obtain rfl:V.str r[j]=x:=by simpa [xf] using ze
      have yf:r.take (j+1)=r.take j++[r[j]]:=by rw[dH,bw xf];rfl
      refine⟨_,rfl,_,rfl,rfl,_,rfl,?_⟩;refine bW (λN=>?_) (λN=>?_)
      ·have zi:r[j]≠n:=λz=>by rw[z]at N;simp at N
       refine⟨_,rfl,af,?_,cw_next yb ⟨_,rfl,?_,by rw[fh]⟩⟩
       ·have h1:=gM (λy=>!decide (y=n)) (r.take j)
        have h2:(r.take j).length<=r.length:=by rw[cH];omega
        have xp:=R.sm.short r (eK ye);rw[aB,aV];omega
       ·rw[yf,gN,a8,oS (by simpa using zi)];rfl
      ·have yp:r[j]=n:=by
        by_cases z:r[j]=n
        ·exact z
        ·exact absurd (by simp[z]) N
       refine cw_next yb ⟨_,rfl,?_,rfl⟩;rw[yf];simp[yp]
     ·rintro zs M U ⟨yc,rfl,rfl,rfl⟩
      rw[aB,cz];refine⟨b1,_,rfl,.inl ⟨aj.of af,λl zh=>?_⟩⟩;have xl:I≠b1:=ax v xb;have zc:aw k (upd (upd k b1 (.lst ((r.filter λy=>!decide (y=n)).map V.str))) l (.tup ((r.filter λy=>!decide (y=n)).map V.str))):=(aJ xb).trans (aJ zh);have yl:I≠l:=ax (by rw[ag xl];exact v) zh
      refine⟨zc _ _ v,?_,cw_next yk ⟨_,rfl,af,λb o q=>?_,?_⟩⟩
      ·have h1:=B.length
       have h2:(L2.without n (rest.take i)).length<=rest.length:=by unfold L2.without;rw[aB,cH];omega
       have xp:=R.sm.a3;rw[aV];omega
      ·rw[ag (ax q L)];exact zc _ _ (u b o q)
      ·have e1:L2.without n (rest.take (i+1))=L2.without n (rest.take i)++[r.filter λy=>!decide (y=n)]:=by rw[tk];unfold L2.without;rw[a8];rfl
       rw[e1];refine dV.append (Bi B λb xs q=>?_) ?_
       ·rw[ag (aq q v)];exact zc _ _ q
       ·rw[ag (aS yl)];exact af
    ·rintro ys T k ⟨xc,rfl,v,u,B⟩
     rw[xe.length,cz]at B;have lt:=lD (lM e);refine⟨_,by rw[R.mm];exact lt,L2.without n rest,ys,Qb++[n],I,⟨_,rfl⟩,rfl,u _ _ yd,v,B,w2 R.sm,xk,zo.trans u,?_,?_⟩
     ·have:=R.lim;rw[bV,jl];omega
     ·rw[R.eq,sr S e,wU]
      congr 1
      funext z
      simp
  ·refine⟨_,rfl,c,_,rfl,.inl ⟨aj.of R.Et,λp xi=>?_⟩⟩
   rw[R.eq,so (by simpa using S)]at O
   have e:Qb++[]=o:=cG O;rw[eU]at e;subst e;exact yo p _ (R.same.free xi) (R.same.trans (aJ xi)) af
end ew
namespace ew
open L2
theorem boot_max:Vh "max" = ih (.builtin "max"):=by decide +kernel
theorem boot_abs:Vh "abs" = ih (.builtin "abs"):=by decide +kernel
inductive qj(K:UP)(vs:List V)(H:Hp)(Q:VK)(E:XK):Prop
 |mk{a:EZ}{ns:List Int}{k:Int}(_:vs=[.ref a,.int k])(_:aj K H a (ns.map V.int))(_:0<=k)(_:k<=100)(_:ns.length<=63)(_:∀(p:EZ) (x y:Int),H p=none->0<=x->0<=y->y<4294967296->Q (.ref p) (upd H p (.lst [.int x,.int y]))):qj K vs H Q E
theorem uJ:bf ["_law_script","_law_k","_law_cell"] ["_law_script","_law_k"] (aI u9):=bz
theorem K2{ns:ac Int}(h:i<ns.length):∃z,(ns.map V.int)[i]?=ih (V.int z):=⟨ns[i],by rw[cI,bw h];rfl⟩
theorem L7(F:aQ K "_law_pot" "_law_pot" u9 f fd)(B:df mg):aT P w K mg base aG 1 f fd ["_law_script","_law_k"] (qj K):=by
 refine F.bG uJ λQa A outer s H vs Q E n h=>?_
 ·obtain @⟨a,ns,k,rfl,g,o,r,t,q⟩:=h
  intro X;refine⟨_,au (aY 2 uJ.nd ar)
   (au (bh (bp Df (pv 1) (bT eM (by rfl) B.len ez (aa (pv 0) ah)) (bA _))
     (aA (aY 2 uJ.nd (aU dw (pv 0) (pv 1)))) bD)
   (aA (aX (ej (aa (bT (AM rfl) (by rfl) B.max boot_max (aa ar (aa (bx kD (bT BB (by rfl) B.abs boot_abs (aa (pv 2) ah)) (bx t2 ar ar)) ah)))
    (aa (bx eV (bx eV (bx kE (bT BB (by rfl) B.abs boot_abs (aa (pv 2) ah)) ar) (bx nM ar (pv 1))) ar) ah)))))),?_⟩
  refine⟨_,rfl,_,rfl,a,_,rfl,.inl g,_,_,rfl,rfl,_,rfl,?_⟩;have e:∀c:Int,∀p,H p=none->Q (.ref p) (upd H p (.lst [.int (if (if c<0 then -c else c) - 10 ^ (18:Int).toNat>0 then (if c<0 then -c else c) - 10 ^ (18:Int).toNat else 0),.int ((if c<0 then -c else c) % 2147483587+101 * k+3)])):=λc p b=>by
   refine q p _ _ b ?_ (by omega) (by omega)
   generalize (if c<0 then -c else c) - 10 ^ (18:Int).toNat=d;split <;> omega
  refine bW (λj=>?_) (λj=>?_)
  ·have l:k<((ns.map V.int).length:Int):=dJ j
   rw[aB]at l;obtain⟨z,m⟩:=K2 (ns:=ns) (i:=k.toNat) (by omega)
   refine⟨_,rfl,_,rfl,a,_,_,_,rfl,rfl,g,(by rw[show k=((k.toNat:Nat):Int) by omega];exact cq m),?_⟩
   refine⟨_,rfl,z,rfl,_,_,rfl,rfl,⟨by decide,by decide,by decide⟩,_,_,rfl,rfl,_,_,rfl,?_⟩
   refine⟨_,rfl,z,rfl,_,_,rfl,rfl,(by show(0:Int)<2147483587;decide),_,rfl,_,_,rfl,rfl,.inl ⟨by decide,by decide⟩,_,_,rfl,rfl,_,_,rfl,rfl,bQ,λp b=>e z p b⟩
  ·refine⟨_,rfl,0,rfl,_,_,rfl,rfl,⟨by decide,by decide,by decide⟩,_,_,rfl,rfl,_,_,rfl,?_⟩
   refine⟨_,rfl,0,rfl,_,_,rfl,rfl,(by show(0:Int)<2147483587;decide),_,rfl,_,_,rfl,rfl,.inl ⟨by decide,by decide⟩,_,_,rfl,rfl,_,_,rfl,rfl,bQ,λp b=>e 0 p b⟩
inductive hC(vs:List V)(H:Hp)(Q:VK)(E:XK):Prop
 |mk{p:EZ}{m x y:Int}(_:vs=[.ref p,.int m])(_:H p=ih (.lst [.int x,.int y]))(_:0<=x)(_:0<=y)(_:y<4294967296)(_:0<m)(_:m<4611686018427387904)(_:∀(d x' y':Int),0<=d->d<m->0<=x'->0<=y'->y'<4294967296->Q (.int d) (upd H p (.lst [.int x',.int y']))):hC vs H Q E
theorem CK:bf ["_law_pot_here","_law_many","_law_digit_here"] ["_law_pot_here","_law_many"] (aI nP):=bz
theorem sX(F:aQ K "_law_digit" "_law_digit" nP f fd):aT P w K mg base aG 1 f fd ["_law_pot_here","_law_many"] hC:=by
 refine F.bG CK λQa A outer s H vs Q E j h=>?_
 ·obtain @⟨p,m,x,y,rfl,c,d,e,g,a,k,q⟩:=h
  intro X;refine⟨_,au (bh (bp Dh (aU dw (pv 0) ar) ar (bA _))
    (au (aY 2 CK.nd (bx kE (aU dw (pv 0) ar) (pv 1)))
    (au (iT (bx Jj (aU dw (pv 0) ar) (pv 1)) (CT (pv 0) ar set_list))
    (aA (aX (pv 2))))) bD)
   (au (iT (bx kE (bx eV (bx nM (aU dw (pv 0) ar) ar) ar) ar) (CT (pv 0) ar set_list))
   (aA (aX (bx kE (bx JY (bx kE (bx nM (aU dw (pv 0) ar) (aU dw (pv 0) ar)) ar) ar) (pv 1))))),?_⟩
  have b:aj K H p [.int x,.int y]:=aj.of c;refine⟨_,rfl,p,_,0,_,rfl,rfl,b,rfl,_,_,rfl,rfl,_,rfl,?_⟩;refine bW (λi=>?_) (λi=>?_)
  ·refine⟨_,rfl,p,_,0,_,rfl,rfl,b,rfl,_,rfl,_,_,rfl,rfl,a,?_⟩
   refine⟨_,rfl,p,_,0,_,rfl,rfl,b,rfl,_,rfl,_,_,rfl,rfl,⟨a,by omega⟩,_,rfl,p,_,0,0,rfl,rfl,c,rfl,?_⟩
   refine⟨_,rfl,?_⟩;exact q _ _ _ (wV _ (by omega)) (wW _ a) (Int.ediv_nonneg d (by omega)) e g
  ·refine⟨_,rfl,p,_,1,_,rfl,rfl,b,rfl,_,_,rfl,rfl,.inr ⟨by decide,by decide⟩,_,_,rfl,rfl,_,_,rfl,rfl,(by show(0:Int)<2147483647;decide),_,rfl,p,_,1,1,rfl,rfl,c,rfl,?_⟩
   have h1:=wV (y * 39373+20011) (show(2147483647:Int)≠0 by decide)
   have h2:=wW (y * 39373+20011) (show(0:Int)<2147483647 by decide)
   refine⟨_,rfl,p,_,1,_,rfl,rfl,aj.of af,rfl,_,rfl,p,_,1,_,rfl,rfl,aj.of af,rfl,_,_,rfl,rfl,.inl ⟨Vr (by decide) h1,Vr h2 (by decide)⟩,_,_,rfl,rfl,(by show(0:Int)<2147483563;decide),_,_,rfl,rfl,⟨by decide,by decide⟩,_,rfl,_,_,rfl,rfl,a,?_⟩
   exact q _ x _ (wV _ (by omega)) (wW _ a) d h1 (by omega)
def c9(p:EZ)(H:Hp):Prop:= ∃x y:Int,H p=ih (.lst [.int x,.int y])/\0<=x/\0<=y/\y<4294967296
structure br(p:EZ)(H H':Hp):Prop where
 ok:c9 p H'
 kp:∀b o,H b=ih o->b≠p->H' b=ih o
section
variable{q:EZ}{o:HO}
theorem br.refl(h:c9 p H):br p H H:=⟨h,λ_ _ e _=>e⟩
theorem br.trans(a:br p H Y)(b:br p Y H2):br p H H2:=⟨b.ok,λc o e n=>b.kp c o (a.kp c o e n) n⟩
theorem c9.ne(h:c9 p H)(a:H q=none):p≠q:=let ⟨_,_,e,_⟩:=h;ax e a
theorem br.new(a:br p H Y)(c:Y q=none):br p H (upd Y q o):=by
 refine⟨?_,λb u e n=>?_⟩
 ·obtain⟨x,y,e,r⟩:=id a.ok
  exact⟨x,y,by rw[ag (a.ok.ne c)];exact e,r⟩
 ·rw[ag (ax (a.kp b u e n) c)];exact a.kp b u e n
theorem br.free(a:br p H Y)(b:Y q=none):H q=none:=by
 cases e:H q with
 |none=>rfl
 |some u =>
  by_cases h:q=p
  ·subst h;obtain⟨_,_,z,_⟩:=a.ok;rw[z]at b;cases b
  ·rw[a.kp q u e h]at b;cases b
theorem br.write(a:br p H Y)(c:H q=none)(d:p≠q):br p H (upd Y q o):=by
 refine⟨?_,λb u e n=>?_⟩
 ·obtain⟨x,y,e,r⟩:=id a.ok
  exact⟨x,y,by rw[ag d];exact e,r⟩
 ·rw[ag (ax e c)];exact a.kp b u e n
theorem cT{Q:VK}{E:XK}(h:c9 p H)(a:0<m)(c:m<4611686018427387904)(k:∀d H',0<=d->d<m->br p H H'->Q (.int d) H'):hC [.ref p,.int m] H Q E:=by
 obtain⟨x,y,e,f,g,i⟩:=h;exact⟨rfl,e,f,g,i,a,c,λd j l q r h1 h2 s=>k d _ q r ⟨⟨j,l,af,h1,h2,s⟩,λb o z n=>by rw[ag n];exact z⟩⟩
end
theorem Bj:∀a:ac Nat,((a.map sign).map (·.length)).sum=a.length
 |[]=>rfl
 |c::a=>by
  have e:(sign c).length=1:=rfl;simp only[b2,wQ,Bj a,cS,e];omega
abbrev kx:Fv:= "abcdefghijklmnopqrstuvwxyz"
theorem Bl{d:Int}(h0:0<=d)(h1:d<26):∃c:Nat,cW kx.cps.toList d=ih c/\97<=c/\c<=122/\c=97+d.toNat:=by
 have all:∀i:Nat,i<26->kx.cps.toList[i]?=ih (97+i):=by decide +kernel
 refine⟨97+d.toNat,?_,by omega,by omega,rfl⟩
 rw[show d=((d.toNat:Nat):Int) by omega]
 exact cq (all d.toNat (by omega))
inductive iR(vs:List V)(H:Hp)(Q:VK)(E:XK):Prop
 |mk{p:EZ}{m:Nat}(_:vs=[.ref p,.int m])(_:c9 p H)(_:m<=20)(_:∀(l:EZ) (ys:List Fv) (H':Hp),H l=none->ys.length=m->(∀y∈ys,Nm y)->ys.Nodup->br p H H'->H' l=ih (.lst (ys.map V.str))->Q (.ref l) H'):iR vs H Q E
abbrev qa:List Fv:=["_law_pot_here","_law_many","_law_letters","_law_found","_law_k","_law_size","_law_name","_law_some"]
theorem jC:bf qa ["_law_pot_here","_law_many"] (aI iV):=bz
def uj(s:U6):List U6:=match s with|.If _ b _ _=>b|_=>[]
abbrev OA:YW:=cB (gj (e8 (bR (l2 (bR (bE iV) 2)) 1)))
abbrev OB:YW:=cB (e8 (bR (uj (bR (l2 (bR (bE iV) 2)) 2)) 0))
abbrev OC:YW:=cB (Oz (e8 (bR (uj (bR (l2 (bR (bE iV) 2)) 2)) 1)))
theorem Eu:b6 qa (aI iV) ["_law_turn","_law_letters","_law_pot_here"] [none,ih 2,ih 0] OA:=c8
theorem Ew:b6 qa (aI iV) ["_law_turn","_law_letters","_law_name"] [none,ih 2,ih 6] OB:=c8
theorem Ex:b6 qa (aI iV) ["_law_one","_law_found"] [none,ih 3] OC:=c8
theorem JF{xd:X2}(F:aQ K "_law_names" "_law_names" iV f fd)(B:df mg)(xb:aQ K "_law_digit" "_law_digit" nP fD xd)(xf:Binds K xd ["_law_pot_here","_law_many"] [])(yf:mg "_law_digit" = ih (.ref fD)) :
  aT P w K mg base aG 3 f fd ["_law_pot_here","_law_many"] iR:=by
 have zf:aT P w K mg base aG 1 fD xd ["_law_pot_here","_law_many"] hC:=sX xb;refine F.bG jC λQa A outer s H vs Q E zw h=>?_
 ·obtain @⟨p,m,rfl,xm,zx,q⟩:=h
  have yd:aZ 1 _:=zw.mono (by decide)
  intro X;refine⟨_,au (ic (i:=2) jC.nd rfl (YN rfl) bq)
   (au (ic (i:=3) jC.nd rfl (YN rfl) (ej ah))
   (au (eG d5 rfl (h6 rfl B.range (aa (pv 1) ah)) (bb 4 jC.nd)
    (au (aY 5 jC.nd (bx eV ar (fM zf yd rfl yf xb.kp xf .nil cV (aa (pv 0) (aa (aU dw (ej (aa ar (aa ar (aa ar ah))))
      (fM zf yd rfl yf xb.kp xf .nil cV (aa (pv 0) (aa ar ah)))) ah)))))
    (au (ic (i:=6) jC.nd rfl (YN rfl) (gc PySem.F.plainAttrs_str PySem.F.slot_str_join PySem.F.type_str_join Kk bq
      (aa (dZ rfl Eu (h6 rfl B.range (aa (pv 5) ah)) (λs H fp=>⟨bb 0 Eu.nd,ei,aU CY (pv 1) (fM zf yd rfl yf xb.kp xf .nil cV (aa (pv 2) (aa ar ah))) (λ_ _=>rfl)⟩)) ah)))
    (au (bh (bp jt (pv 6) (pv 3) rfl)
      (au (lK (i:=7) rfl Ew jC.nd rfl rfl (h6 rfl B.range (aa (bx eV (pv 1) ar) ah)) (λs H fp=>⟨bb 0 Ew.nd,ei,
        bx Ai (bx Ai (iK LP (pv 2) iQ (ia ar)) (aU CY (pv 1) (pv 0))) bq⟩))
      (aA (ic (i:=6) jC.nd rfl (YN rfl) (aU dw (dZ rfl Ex (c6 (pv 7)) (λs H fp=>⟨bb 0 Ex.nd,iL (bp (Hn K rfl) (pv 0) (pv 1) rfl),pv 0⟩)) ar))))
      bD)
    (aA (eF (gc hg mX mY ju (pv 3) (aa (pv 6) ah))))))))
   (aA (aX (pv 3))))),?_⟩
  refine⟨bB _,λl L=>?_⟩;have T:p≠l:=xm.ne L;have ym:((m:Int)).toNat=m:=gr m;refine⟨_,rfl,(m:Int),rfl,by omega,by omega,kj (λi σ Y=>∃(ys:ac Fv) (xg yg zg xh:ad V),σ=[am p,ih (.int m),ih (.str kx),am l,xg,yg,zg,xh]/\ys.length=i/\(∀y∈ys,Nm y)/\ys.Nodup/\br p H Y/\Y l=bd (ys.map V.str))
   ⟨[],none,none,none,none,rfl,rfl,(λy r=>by simp at r),e4,(br.refl xm).new L,af⟩ ?_ ?_⟩
  ·rintro i σ Y hi ⟨ys,xg,yg,zg,xh,rfl,I,U,W,C,zd⟩
   rw[ym]at hi;refine⟨_,rfl,gY,λa yh=>⟨_,rfl,?_⟩⟩;have xq:a≠p:=aS (C.ok.ne yh);refine cT (p:=p) (m:=3) ((br.refl C.ok).new yh).ok (by decide) (by decide) λd H2 zm xn zh=>?_
   obtain⟨M,yq,zq,yx⟩:∃M:Int,cW [V.int 1,V.int 2,V.int 8] d=ih (V.int M)/\0<M/\M<=8:=by
    have:d=0\/d=1\/d=2:=by omega
    rcases this with rfl|rfl|rfl
    ·exact⟨1,rfl,by decide,by decide⟩
    ·exact⟨2,rfl,by decide,by decide⟩
    ·exact⟨8,rfl,by decide,by decide⟩
   refine⟨a,_,d,_,rfl,rfl,aj.of (zh.kp a _ af xq),yq,?_⟩;refine cT (p:=p) (m:=M) zh.ok zq (by omega) λe xi e0 e1 yb=>⟨_,_,rfl,rfl,?_⟩
   have yn:br p Y xi:=(((br.refl C.ok).new yh).trans zh).trans yb;have xr:xi l=bd (ys.map V.str):=yn.kp l _ zd (aS T);refine⟨rfl,_,rfl,1+e,rfl,by omega,by omega,λN xe=>?_⟩
   have zk:p≠N:=yb.ok.ne xe;refine o4 (λi zs k n=>∃(o:ac Nat) (t:ad V),zs=(o.map sign).map V.str/\o.length=i/\(∀c∈o,97<=c/\c<=122)/\k=[t,ih (.str kx),am p]/\br p xi n/\n N=bd zs)
    ⟨[],none,rfl,rfl,(λc v=>by simp at v),rfl,(br.refl yb.ok).new xe,af⟩ (λi zs k n ab=>by obtain⟨_,_,_,_,_,_,_,z⟩:=ab;exact z) ?_ ?_
   ·rintro j zs k n O ⟨o,t,rfl,Z,ye,rfl,R,yi⟩
    refine⟨_,rfl,_,rfl,cT (p:=p) (m:=26) R.ok (by decide) (by decide) λd G zm xn xo=>?_⟩
    obtain⟨c,v,yo,zo,_⟩:=Bl zm xn;have yr:G N=_:=xo.kp N _ yi (aS zk);refine⟨kx,d,c,rfl,rfl,(by rw[aV];decide +kernel),v,yr,?_,cw_next O ⟨o++[c],_,?_,?_,?_,rfl,?_,af⟩⟩
    ·rw[aB,aB,Z,aV];omega
    ·rw[a8,a8];rfl
    ·rw[bV,Z];rfl
    ·intro x zb
     rcases bI.mp zb with h|h
     ·exact ye x h
     ·have:x=c:=by simpa using h
      rw[this];exact⟨yo,zo⟩
    ·exact(R.trans xo).write ((br.refl yb.ok).free xe) zk
   ·rintro zs k n ⟨o,t,rfl,Z,ye,rfl,R,yi⟩
    have xt:((o.map sign).map (·.length)).sum=o.length:=by
     exact Bj o
    refine⟨("" : Fv),N,o.map sign,rfl,rfl,.inl (aj.of yi),?_,?_⟩
    ·have:(ab4 ("" : Fv))=0:=rfl
     rw[xt,this,Z];omega
    rw[Hl];generalize xk:(⟨o.toArray⟩:Fv)=g;have yc:Nm g:=by
     have xy:g.length=o.length:=by rw[<-xk];show o.toArray.size=_;simp
     refine⟨by omega,by omega,λc v=>ye c ?_⟩
     rw[<-xk]at v;simpa using v
    have xp:br p Y n:=yn.trans R;have J:n l=bd (ys.map V.str):=R.kp l _ xr (aS T);refine⟨_,rfl,_,rfl,l,_,rfl,.inl (aj.of J),rfl,jv _,_,rfl,?_⟩;rw[ao b',iM];refine bW (λxl=>?_) (λxl=>?_)
    ·
     refine⟨_,rfl,_,_,rfl,rfl,(m:Int)+1,rfl,by omega,by omega,λD yl=>?_⟩
     refine o4 (λi zs k G=>∃t:ad V,zs=((VD i).map λj=>X9 g none (ih 6)++sign (97+j)++("q" : Fv)).map V.str/\k=[t,ih (.str kx),ih (.str g)]/\G=upd n D (.lst zs))
      ⟨none,rfl,rfl,rfl⟩ (λi zs k G ⟨_,_,_,z⟩=>by rw[z];exact af) ?_ ?_
     ·rintro j zs k G O ⟨t,rfl,rfl,rfl⟩
      obtain⟨c,v,yo,zo,yt⟩:=Bl (d:=0+(j:Int)) (by omega) (by omega)
      have zp:c=97+j:=by rw[yt];omega
      have yy:(X9 g none (ih 6)).length<=6:=Ao g;refine⟨_,rfl,_,rfl,g,rfl,by have:=yc.hi;omega,_,rfl,_,rfl,kx,_,c,rfl,rfl,(by rw[aV];decide +kernel),v,_,_,rfl,rfl,?_,_,_,rfl,rfl,?_,af,?_,cw_next O ⟨_,?_,rfl,?_⟩⟩
      ·show _+1<=UB;rw[aV];omega
      ·have e1:(X9 g none (ih 6)++(⟨#[c]⟩:Fv)).length=(X9 g none (ih 6)).length+1:=by
        show(_ ++ #[c]:Array Nat).size=_;rw[rP];rfl
       have e2:(("q" : Fv)).length=1:=by decide +kernel
       show(X9 g none (ih 6)++(⟨#[c]⟩:Fv)).length+_<=UB;rw[e1,e2,aV];omega
      ·rw[aB,aB,Ff,aV];omega
      ·rw[aaA,a8,a8,zp];rfl
      ·rw[fh]
     ·rintro zs k G ⟨t,rfl,rfl,rfl⟩
      have zt:((m:Int)+1).toNat=m+1:=by omega
      generalize ze:(VD ((m:Int)+1).toNat).map (λj=>X9 g none (ih 6)++sign (97+j)++("q" : Fv))=cands;have xu:cands.Nodup:=by
       rw[<-ze];refine Vs _ (λa b yu h=>yu ?_) aan;have:=I9 h;omega
      have zu:∀y∈cands,Nm y:=by
       intro y r;rw[<-ze]at r;obtain⟨j,O,rfl⟩:=a4.mp r;have:=jd.mp O;exact Kl yc.az ⟨by omega,by omega⟩
      have xx:cands.length=m+1:=by rw[<-ze,aB,Ff,zt]
      have xa:upd n D (.lst (cands.map V.str)) l=bd (ys.map V.str):=by rw[ag (ax J yl)];exact J
      refine⟨_,rfl,D,rfl,⟨_,aj.of af⟩,λS ya=>?_⟩;refine fe (xs:=cands.map V.str) (λi zs k xc=>∃t:ad V,zs=((cands.take i).filter (λy=>!decide (y∈ys))).map V.str/\k=[t,am l]/\xc=upd (upd n D (.lst (cands.map V.str))) S (.lst zs))
       ⟨none,rfl,rfl,rfl⟩ (λi zs k xc ⟨_,_,_,z⟩=>by rw[z];exact⟨af,aj.of (by rw[ag (ax af ya)];exact af)⟩) ?_ ?_
      ·rintro j x zs k xc zb ⟨t,rfl,rfl,rfl⟩
       rw[cI]at zb;obtain⟨y,r,rfl⟩:=gu.mp zb;have zl:j<(cands.map V.str).length:=by rw[aB];exact(bZ.mp r).1
       have tk:cands.take (j+1)=cands.take j++[y]:=by rw[dH,r];rfl
       have za:(upd (upd n D (.lst (cands.map V.str))) S (.lst (((cands.take j).filter (λy=>!decide (y∈ys))).map V.str))) l=bd (ys.map V.str):=by rw[ag (ax xa ya)];exact xa
       refine⟨_,rfl,_,rfl,l,_,rfl,.inl (aj.of za),rfl,jv _,_,rfl,?_⟩;rw[aE rfl,iM];refine bW (λzi=>?_) (λzi=>?_)
       ·refine⟨_,rfl,af,?_,cw_next zl ⟨_,?_,rfl,?_⟩⟩
        ·have h1:=gM (λy=>!decide (y∈ys)) (cands.take j)
         have h2:(cands.take j).length<=cands.length:=by rw[cH];omega
         rw[aB,aV];omega
        ·rw[tk,gN,a8,mZ,aE zi];rfl
        ·rw[fh]
       ·refine cw_next zl ⟨_,?_,rfl,rfl⟩
        rw[tk,gN,mZ,ao zi,rW,eU]
      ·rintro zs k xc ⟨t,rfl,rfl,rfl⟩
       rw[aB,cz];obtain⟨y0,xv,yv⟩:=ub (found:=ys) xu (by omega)
       have yk:y0∈cands.filter (λy=>!decide (y∈ys)):=fc.mpr ⟨xv,by simpa using yv⟩
       cases yp:cands.filter (λy=>!decide (y∈ys)) with
       |nil=>rw[yp]at yk;simp at yk
       |cons u zr =>
        have zv:u∈cands.filter (λy=>!decide (y∈ys)):=by rw[yp];exact aW
        obtain⟨zc,zn⟩:=fc.mp zv;have xw:u ∉ ys:=by simpa using zn
        have za:(upd (upd n D (.lst (cands.map V.str))) S (.lst ((u::zr).map V.str))) l=bd (ys.map V.str):=by rw[ag (ax xa ya)];exact xa
        have xj:br p H (upd (upd n D (.lst (cands.map V.str))) S (.lst ((u::zr).map V.str))):=((C.trans xp).new yl).new ya;refine⟨S,_,0,V.str u,rfl,rfl,aj.of af,(show cW ((u::zr).map V.str) ((0:Nat):Int)=ih (V.str u) from cq rfl),?_⟩;refine⟨_,rfl,.inl ⟨rfl,_,aj.of za⟩,_,rfl,l,_,_,rfl,rfl,za,?_,?_⟩
        ·rw[aB,aV];omega
        ·refine⟨ys++[u],_,_,_,_,rfl,by rw[bV,I];rfl,?_,?_,?_,?_⟩
         ·intro y r
          rcases bI.mp r with h|h
          ·exact U y h
          ·have:y=u:=by simpa using h
           rw[this];exact zu u zc
         ·rw[di]
          exact⟨W,by simp,λa yj b zj=>by rw[show b=u by simpa using zj];exact λh=>xw (h ▸ yj)⟩
         ·exact xj.write L T
         ·rw[af,a8];rfl
    ·have yw:g ∉ ys:=by simpa using xl
     have xj:br p H n:=C.trans xp;refine⟨_,rfl,.inl ⟨rfl,_,aj.of J⟩,_,rfl,l,_,_,rfl,rfl,J,?_,?_⟩
     ·rw[aB,aV];omega
     ·refine⟨ys++[g],_,_,_,_,rfl,by rw[bV,I];rfl,?_,?_,?_,?_⟩
      ·intro y r
       rcases bI.mp r with h|h
       ·exact U y h
       ·have:y=g:=by simpa using h
        rw[this];exact yc
      ·rw[di]
       exact⟨W,by simp,λa yj b zj=>by rw[show b=g by simpa using zj];exact λh=>yw (h ▸ yj)⟩
      ·exact xj.write L T
      ·rw[af,a8];rfl
  ·rintro σ Y ⟨ys,xg,yg,zg,xh,rfl,I,U,W,C,zd⟩
   rw[ym]at I;exact⟨_,rfl,q l ys Y L I U W C zd⟩
end ew
namespace ew
open L2 W HT
theorem G3(K:Ym)(h:X.K=K):cU X (.type "list") (λxs H Q=>∃p ys,xs=[.ref p]/\(aj K H p ys\/ay K H p ys) /\∀l,H l=none->Q (.ref l) (upd H l (.lst ys))):=by subst h;exact kb
theorem G4(K:Ym)(h:X.K=K)(a:X.calm=true):cU X (.builtin "any") (λxs H Q=>∃(p:EZ) (bs:ac Bool),xs=[.ref p]/\aj K H p (bs.map V.bl)/\Q (.bl (bs.any id)) H):=by subst h;exact A5 a
theorem IF(K:Ym)(h:X.K=K):mE X (DL K):=by subst h;exact lY
def gf(av:EZ->Prop)(H:Hp)(vs:List V)(rows:List (List Fv)):Prop:=VM (λy r=>∃a,y=V.ref a/\av a/\H a=ih (.lst (r.map V.str))) vs rows
theorem lN{av:EZ->Prop}{H:Hp}:∀{vs:ac V}{rows:ac (List Fv)}{i:Nat}{v:V},gf av H vs rows->vs[i]?=ih v ->∃a r,v=V.ref a/\rows[i]?=ih r/\av a/\H a=bd (r.map V.str)
 |_,_,i,v,.nil,e=>by simp at e
 |_,_,0,v,.cons p _,e=>by
  obtain⟨a,rfl,n,q⟩:=p;simp at e;subst e;exact⟨a,_,rfl,rfl,n,q⟩
 |_,_,i+1,v,.cons _ t,e=>by
  obtain⟨a,r,e1,e2,n,q⟩:=lN (i:=i) t (by simpa using e)
  exact⟨a,r,e1,by simpa using e2,n,q⟩
theorem js{b:EZ->Prop}(h:gf av H vs rows)(f:∀a xs,av a->H a=bd xs->b a/\H' a=bd xs):gf b H' vs rows:=
 Paired.imp' (λ_ _ ⟨a,e,n,q⟩=>⟨a,e,(f a _ n q).1,(f a _ n q).2⟩) h
theorem r9(h:gf av H vs rows)(n:av a)(q:H a=bd (r.map V.str)):gf av H (vs++[.ref a]) (rows++[r]):=gL h ⟨a,rfl,n,q⟩
theorem kc(h:gf av H vs rows):vs.length=rows.length:=cK h
theorem mi(h:Nm x):Vt x=true:=by
 unfold Vt;rw[<-Array.all_toList,mT];intro c a;have:=(h.az c a).2;exact cb (by omega)
theorem lU(H:Hp):∀xs:ac Fv,bJ H (xs.map V.str) (xs.map Vl)
 |[]=>.nil
 |x::xs=>.cons (.str x) (lU H xs)
theorem nC:∀{xs:ac Fv},(∀x∈xs,Nm x)->X6 (xs.map Vl)=true
 |[],_=>rfl
 |x::xs,h=>by
  show(Vt x&&X6 (xs.map Vl))=true;rw[mi (h x aW),nC λy a=>h y (ba _ a)];rfl
theorem m3:∀xs:ac Fv,Ve (xs.map Vl)=0
 |[]=>rfl
 |x::xs=>by rw[b2];simp only[Ve,Yd,m3 xs,Nat.max_self]
theorem ne_nil{xs:ac Fv}{Q:VK}(c:H a=bd (xs.map V.str))(d:H b=bd [])(e:∀x∈xs,Nm x)(q:Q (.bl (!xs.isEmpty)) H):DP (.ref a) (.ref b) H Q:=by
 refine⟨.list (xs.map Vl),.list [],.lst c (lU _ _),.lst d .nil,nC e,rfl,by show Ve _+1<=60;rw[m3];decide,?_⟩
 cases xs with
 |nil=>exact q
 |cons x xs=>exact q
theorem eq_nil{xs:ac Fv}{Q:VK}(c:H a=bd (xs.map V.str))(d:H b=bd [])(e:∀x∈xs,Nm x)(q:Q (.bl xs.isEmpty) H):DO (.ref a) (.ref b) H Q:=by
 refine⟨.list (xs.map Vl),.list [],.lst c (lU _ _),.lst d .nil,nC e,rfl,by show Ve _+1<=60;rw[m3];decide,?_⟩
 cases xs with
 |nil=>exact q
 |cons x xs=>exact q
theorem nD(xs:ac V)(k:Nat):fw xs (ih (k:Int)) none=xs.drop k:=by
 unfold fw;rw[HT.I2,HT.Kb]
 by_cases h:k<=xs.length
 ·rw[aaL h,FT (by rw[mR];omega)]
 ·rw[aax (by omega),wR,UZ (by omega)];simp
def busy(rest:List (List Fv))(x:Fv):Bool:=rest.any λo=>decide (x∈o.drop 1)
def cN(all:List (List Fv)):List (List Fv)->List Fv
 |[]=>[]
 |[]::rest=>cN all rest
 |(x::_)::rest=>if busy all x then cN all rest else x::cN all rest
theorem ph{n:Fv}:∀{k:Nat}{rest:ac (List Fv)},dM k rest n=none ↔ ∀r∈rest,n∈r->r.head?=ih n
 |k,[]=>by simp[dM]
 |k,[]::rest=>by
  show dM (k+1) rest n=none ↔ _;rw[ph (k:=k+1) (rest:=rest)];simp
 |k,(x::r)::rest=>by
  show(if n∈x::r/\x≠n then ih (k,x) else dM (k+1) rest n)=none ↔ _
  by_cases h:n∈x::r/\x≠n
  ·rw[aE h]
   constructor
   ·intro z;cases z
   ·intro z
    have:=z _ aW h.1;exact absurd (by simpa using this) h.2
  ·rw[ao h,ph (k:=k+1) (rest:=rest)]
   constructor
   ·intro z q hq a
    rcases bH.mp hq with rfl|hq
    ·by_cases e:x=n
     ·rw[e];rfl
     ·exact absurd ⟨a,e⟩ h
    ·exact z q hq a
   ·exact λz q hq=>z q (ba _ hq)
theorem B1{all:ac (List Fv)}(b:∀r∈all,r.Nodup)(x:Fv):busy all x=false ↔ dM 0 all x=none:=by
 rw[ph];unfold busy;rw[vS]
 constructor
 ·intro h q c hx
  have h1:=h q c;cases q with
  |nil=>simp at hx
  |cons y t =>
   rcases bH.mp hx with rfl|hx
   ·rfl
   ·exact absurd (by simpa using hx) h1
 ·intro h r a
  cases r with
  |nil=>simp
  |cons y t =>
   intro hx;have hx:x∈t:=by simpa using hx
   obtain rfl:y=x:=by simpa using h _ a (ba _ hx)
   exact(d4.mp (b _ a)).1 hx
theorem su{all:ac (List Fv)}(a:∀r∈all,r.Nodup):∀rest:ac (List Fv),(cN all rest).head?=hj all rest
 |[]=>rfl
 |[]::rest=>su a rest
 |(x::t)::rest=>by
  show(if busy all x then cN all rest else x::cN all rest).head?=if (dM 0 all x).isNone then ih x else hj all rest;cases b:busy all x with
  |false=>rw[(B1 a x).mp b];rfl
  |true =>
   have c:(dM 0 all x).isNone=false:=by
    cases z:dM 0 all x with
    |none=>rw[(B1 a x).mpr z]at b;cases b
    |some _=>rfl
   rw[c];exact su a rest
theorem m4(all:ac (List Fv))(r:ac Fv):∀rest:ac (List Fv),cN all (rest++[r])=cN all rest++cN all [r]
 |[]=>rfl
 |[]::rest=>m4 all r rest
 |(x::t)::rest=>by
  show(if busy all x then cN all (rest++[r]) else x::cN all (rest++[r]))=(if busy all x then cN all rest else x::cN all rest)++cN all [r];rw[m4 all r rest];split <;> rfl
theorem sH(all:ac (List Fv)):∀rest:ac (List Fv),(cN all rest).length<=rest.length
 |[]=>aP _
 |[]::rest=>Fw (sH all rest)
 |(x::t)::rest=>by
  have:=sH all rest;show(if busy all x then cN all rest else x::cN all rest).length<=rest.length+1;split
  ·omega
  ·rw[cS];omega
theorem pj{all:ac (List Fv)}{n:Fv}:∀{rest:ac (List Fv)},n∈cN all rest ->∃r∈rest,n∈r
 |[],h=>by simp[cN]at h
 |[]::rest,h=>let ⟨r,a,e⟩:=pj (rest:=rest) h;⟨r,ba _ a,e⟩
 |(x::t)::rest,h=>by
  have h:n∈(if busy all x then cN all rest else x::cN all rest):=h;split at h
  ·obtain⟨r,a,e⟩:=pj (rest:=rest) h
   exact⟨r,ba _ a,e⟩
  ·rcases bH.mp h with rfl|h
   ·exact⟨_,aW,aW⟩
   ·obtain⟨r,a,e⟩:=pj (rest:=rest) h
    exact⟨r,ba _ a,e⟩
theorem Aw(h:∀r∈rest,r.Nodup):∀r∈L2.without n rest,r.Nodup:=by
 intro r a;obtain⟨q,b,rfl⟩:=a4.mp a;exact(h q b).filter _
structure DW(H:Hp)(rows:List (List Fv))(l fa:EZ)(m:Nat)(σ:St)(Y:Hp)(rest:List (List Fv))(lv:List V)(Qb:List Fv)(la:EZ):Prop where
 st:∃v3:Option V,σ=[ih (.ref l),ih (.ref la),ih (.ref fa),v3]
 mm:m=total rest
 vC:Y la=ih (.lst lv)
 rr:gf (λa=>a≠fa) Y lv rest
 ne:la≠fa
 PK:Y fa=ih (.lst (Qb.map V.str))
 sm:Small rest
 nd:∀r∈rest,r.Nodup
 same:aw H Y
 lim:Qb.length+total rest<=1000
 eq:cw (total rows) rows=(cw (total rest) rest).map (Qb ++ ·)
abbrev oA:List Fv:=["_law_rows","_law_left","_law_found","_law_free"]
theorem n9:bf oA ["_law_rows"] (aI h9):=bz
def IG(s:U6):Vp:=match s with|.While t _ _ _=>t|_=>.Constant .none 0 ⟨0,0,0,0⟩
def C8(e:Vp):Vp:=match e with|.ListComp _ (⟨_,_,i::_,_⟩::_) _ _=>i|_=>.Constant .none 0 ⟨0,0,0,0⟩
def uk(e:Vp)(i:Nat):Vp:=match e with|.BoolOp _ es _=>es.getD i (.Constant .none 0 ⟨0,0,0,0⟩)|_=>.Constant .none 0 ⟨0,0,0,0⟩
def DX(e:Vp):Vp:=match e with|.UnaryOp _ x _=>x|_=>.Constant .none 0 ⟨0,0,0,0⟩
abbrev sW:U6:=bR (bE h9) 2
abbrev eA:Vp:=e8 (bR (bE h9) 0)
abbrev eB:Vp:=gj (IG sW)
abbrev eC:Vp:=e8 (bR (nc sW) 0)
abbrev eD:Vp:=gj (DX (uk (C8 eC) 1))
abbrev eE:Vp:=e8 (bR (nc sW) 3)
theorem Ey:b6 oA (aI h9) ["_law_row"] [none] (cB eA):=c8
theorem Ez:b6 oA (aI h9) ["_law_row"] [none] (cB eB):=c8
theorem EA:b6 oA (aI h9) ["_law_row","_law_left"] [none,ih 1] (cB eC):=c8
theorem PL:b6 ["_law_row","_law_left"] (relabel (cB eC) env) ["_law_other","_law_row"] [none,ih 0] (cB eD):=nest rfl (by decide +kernel) (by decide +kernel) rfl (by decide +kernel) (by decide +kernel)
theorem PM:(["_law_other","_law_row"]:ac Fv).Nodup:=by decide +kernel
theorem EB:b6 oA (aI h9) ["_law_row","_law_free"] [none,ih 3] (cB eE):=c8
theorem PN:b6 ["_law_row","_law_free"] (relabel (cB eE) env) ["_law_name","_law_free"] [none,ih 1] (cB (Dp eE)):=nest rfl (by decide +kernel) (by decide +kernel) rfl (by decide +kernel) (by decide +kernel)
theorem PQ:(["_law_name","_law_free"]:ac Fv).Nodup:=by decide +kernel
inductive qG(vs:List V)(H:Hp)(Q:VK)(E:XK):Prop
 |mk{l:EZ}{ws:List V}{rows:List (List Fv)}(_:vs=[.ref l])(_:H l=ih (.lst ws))(_:gf (λ_=>True) H ws rows)(_:Small rows)(_:(∀r∈rows,r.Nodup))(_:(cw (total rows) rows=none ->∀H',aw H H'->Q .aK H'))(_:(∀o,cw (total rows) rows=ih o ->∀p H',H p=none->aw H H'->H' p=ih (.lst (o.map V.str))->Q (.ref p) H')):qG vs H Q E
theorem M3(F:aQ K "_law_merged" "_law_merged" h9 f fd)(B:df mg):aT P w K mg base aG 1 f fd ["_law_rows"] qG:=by
 refine F.bG n9 λQa A outer s H vs Q E xn h=>?_
 ·obtain @⟨l,ws,rows,rfl,xv,yv,yi,yx,qn,xC⟩:=h
  have yn:=xn.units;intro X;refine⟨_,au (ic (i:=1) n9.nd rfl (YN rfl) (dZ rfl Ey (c6 (pv 0)) (λs H fp=>⟨bb 0 Ey.nd,ei,dq (G3 K rfl) rfl B.list boot_list (aa (pv 0) ah)⟩)))
   (au (aY 2 n9.nd (ej ah))
   (au (ni d5 (km (bT (A5 rfl) rfl B.any boot_any (aa (dZ rfl Ez (c6 (pv 1)) (λs H fp=>⟨bb 0 Ez.nd,ei,jA (p0 yn) (pv 0) (ej ah) (bA _)⟩)) ah)) (λ_=>rfl))
    (au (ic (i:=3) n9.nd rfl (YN rfl) (dZ rfl EA (c6 (pv 1)) (λs H fp=>⟨pK (i:=0) EA.nd rfl (YN rfl),
      iL (PW.pt (pw_and (bp (p0 yn) (pv 0) (ej ah) (bA _)) (pw_and1 (hF (hE (bT (G4 K rfl rfl) rfl B.any boot_any (aa (dZ rfl PL (A0 K rfl (pv 1)) (λs H fp=>⟨bb 0 PM,ei,jA (Ct K rfl) (aU (sE K rfl) (pv 1) ar) (iK (IF K rfl) (pv 0) (ia ar) iQ) rfl⟩)) ah))))))),
      aU (sE K rfl) (pv 0) ar (λ_ _=>rfl)⟩)))
    (au (bh (bp (t9 yn) (pv 3) (ej ah) (bA _)) (aA (aX dQ)) bD)
    (au (eF (gc hg mX mY ju (pv 2) (aa (aU dw (pv 3) ar) ah)))
    (aA (ic (i:=1) n9.nd rfl (YN rfl) (dZ rfl EB (c6 (pv 1)) (λs H fp=>⟨bb 0 EB.nd,ei,
      dZ rfl PN (A0 K rfl (pv 0)) (λs H fp=>⟨bb 0 PQ,iL (bp jH (pv 0) (aU (sE K rfl) (pv 1) ar) (bA _)),pv 0⟩)⟩))))))))
   (aA (aX (pv 2))))),?_⟩
  refine⟨_,rfl,l,rfl,⟨_,aj.of xv⟩,λzg zo=>?_⟩;refine fe (xs:=ws) (λi ys g Y=>∃q:ad V,g=[q]/\Y zg=bd ys/\aw H Y/\gf (λa=>a≠zg) Y ys (rows.take i)) ⟨none,rfl,af,aJ zo,.nil⟩ (λi ys g Y ⟨_,_,N,O,_⟩=>⟨N,aj.of (O _ _ xv)⟩) ?_ ?_
  ·rintro i x ys g Y C ⟨q,rfl,h1,xf,xd⟩
   obtain⟨a,r,rfl,I,_,S⟩:=lN yv C;have M:i<ws.length:=(bZ.mp C).1;have tk:rows.take (i+1)=rows.take i++[r]:=by rw[dH,I];rfl
   refine⟨_,rfl,a,_,rfl,.inl (aj.of (xf _ _ S)),λc T=>?_⟩;have zn:=aJ (o:=.lst (r.map V.str)) T;have yq:c≠zg:=aS (ax h1 T);refine⟨zn _ _ h1,?_,cw_next M ⟨_,rfl,af,λb o d=>?_,?_⟩⟩
   ·have h2:=kc xd
    have xa:=yi.a3;rw[cH]at h2;rw[aV];omega
   ·rw[ag (ax d zo)];exact zn _ _ (xf b o d)
   ·rw[tk]
    refine r9 (js xd λb xs v d=>⟨v,by rw[ag v];exact zn _ _ d⟩) yq ?_
    rw[ag yq];exact af
  ·rintro zx g Y ⟨q,rfl,h1,xf,xd⟩
   rw[kc yv,cz]at xd;refine⟨bB _,λk xh=>?_⟩;have xo:=aJ (o:=.lst []) xh;have xp:H k=none:=xf.free xh;refine⟨λm σ H2=>∃rest lv Qb J,DW H rows l k m σ H2 rest lv Qb J,⟨_,rows,zx,[],zg,⟨none,rfl⟩,rfl,xo _ _ h1,js xd λb xs v d=>⟨ax d xh,xo _ _ d⟩,ax h1 xh,af,yi,yx,xf.trans xo,by have:=o1 yi.short;have:=yi.a3;simp only[jm];omega,by cases cw (total rows) rows <;> rfl⟩,?_⟩
   rintro m σ H2 ⟨rest,lv,Qb,J,R⟩;obtain⟨yE,rfl⟩:=R.st;refine⟨_,rfl,J,rfl,⟨_,aj.of R.vC⟩,λzv zq=>?_⟩;refine fe (xs:=lv) (λi ys g U=>∃q:ad V,g=[q]/\ys=((rest.take i).map λr=>!r.isEmpty).map V.bl/\U zv=bd ys/\aw H2 U) ⟨none,rfl,rfl,af,aJ zq⟩ (λi ys g U ⟨_,_,_,N,O⟩=>⟨N,aj.of (O _ _ R.vC)⟩) ?_ ?_
   ·rintro i x ys g U C ⟨q,rfl,rfl,xa,ya⟩
    obtain⟨a,r,rfl,I,_,S⟩:=lN R.rr C;have M:i<lv.length:=(bZ.mp C).1;have tk:rest.take (i+1)=rest.take i++[r]:=by rw[dH,I];rfl
    have yd:=eK I;refine⟨_,rfl,bB _,λz yf=>?_⟩;have p:=aJ (o:=.lst []) yf;refine ne_nil (p _ _ (ya _ _ S)) af (R.sm.nm r yd) ?_;refine⟨p _ _ xa,?_,cw_next M ⟨_,rfl,by rw[tk,a8,a8];rfl,af,λb o d=>by rw[ag (ax d zq)];exact p _ _ (ya b o d)⟩⟩
    have xc:=R.sm.a3;rw[aB,aB,cH,aV];omega
   ·rintro bs g U ⟨q,rfl,rfl,xa,ya⟩
    rw[kc R.rr,cz]at xa;refine⟨zv,_,rfl,aj.of xa,_,rfl,?_⟩;have xy:((rest.map λr=>!r.isEmpty).any id)=rest.any λr=>!r.isEmpty:=by rw[wj];rfl
    rw[xy];have zc:=ya _ _ R.vC;have zj:=ya _ _ R.PK;have zd:gf (λa=>a≠k) U lv rest:=js R.rr λb xs v d=>⟨v,ya _ _ d⟩;have xr:=R.same.trans ya;refine bW (λzi=>?_) (λzi=>?_)
    ·refine⟨λyy H'=>∃xw,xw<m /\∃rest lv Qb J,DW H rows l k xw yy H' rest lv Qb J,λ_ _ z=>z,?_⟩
     refine⟨_,rfl,J,rfl,⟨_,aj.of zc⟩,λW xl=>?_⟩;refine fe (xs:=lv) (λi ys g za=>∃q:ad V,g=[q,am J]/\ys=(cN rest (rest.take i)).map V.str/\za W=bd ys/\aw U za) ⟨none,rfl,rfl,af,aJ xl⟩ (λi ys g za ⟨_,_,_,N,O⟩=>⟨N,aj.of (O _ _ zc)⟩) ?_ ?_
     ·rintro i x ys g za C ⟨q,rfl,rfl,xc,D⟩
      obtain⟨a,r,rfl,I,_,S⟩:=lN zd C;have M:i<lv.length:=(bZ.mp C).1;have tk:rest.take (i+1)=rest.take i++[r]:=by rw[dH,I];rfl
      have yd:=eK I;have yp:=D _ _ S;refine⟨_,rfl,bB _,λz yf=>?_⟩;have p:=aJ (o:=.lst []) yf;refine ne_nil (p _ _ yp) af (R.sm.nm r yd) ⟨_,rfl,?_⟩;have Z:=p _ _ xc;cases r with
      |nil=>exact cw_next M ⟨_,rfl,by rw[tk,m4];show _=(_++[]).map _;rw[eU],Z,D.trans p⟩
      |cons y t =>
       refine⟨_,rfl,J,rfl,⟨_,aj.of (p _ _ (D _ _ zc))⟩,λyw yr=>?_⟩;refine fe (xs:=lv) (λj ys g zf=>∃xb:ad V,g=[xb,am a]/\ys=((rest.take j).map λo=>decide (y∈o.drop 1)).map V.bl/\zf yw=bd ys/\aw (upd za z (.lst [])) zf) ⟨none,rfl,rfl,af,aJ yr⟩ (λj ys g zf ⟨_,_,_,N,O⟩=>⟨N,aj.of (O _ _ (p _ _ (D _ _ zc)))⟩) ?_ ?_
       ·rintro j x ys g zf zr ⟨xb,rfl,rfl,yb,yc⟩
        obtain⟨b,o,rfl,zy,_,xz⟩:=lN zd zr;have xe:j<lv.length:=(bZ.mp zr).1;have yh:rest.take (j+1)=rest.take j++[o]:=by rw[dH,zy];rfl
        have xt:=D.trans (p.trans yc);refine⟨_,rfl,a,_,0,.str y,rfl,rfl,aj.of (xt _ _ S),j1,?_⟩;refine⟨_,rfl,_,rfl,b,_,rfl,aj.of (xt _ _ xz),λp2 yz=>?_⟩;have yC:fw (o.map V.str) (ih 1) none=(o.drop 1).map V.str:=by
         rw[show(1:Int)=((1:Nat):Int) from rfl,nD,lB]
        rw[yC];have L:=aJ (o:=.lst ((o.drop 1).map V.str)) yz;refine⟨p2,_,rfl,.inl (aj.of af),rfl,jv _,?_⟩;rw[ao b',iM];refine⟨L _ _ yb,?_,cw_next xe ⟨_,rfl,by rw[yh,a8,a8];rfl,af,λc u T=>by rw[ag (ax T yr)];exact L _ _ (yc c u T)⟩⟩
        have zw:=R.sm.a3;rw[aB,aB,cH,aV];omega
       ·rintro xE g zf ⟨xb,rfl,rfl,yb,yc⟩
        rw[kc zd,cz]at yb;refine⟨yw,_,rfl,aj.of yb,_,rfl,?_⟩;have zC:((rest.map λo=>decide (y∈o.drop 1)).any id)=busy rest y:=by unfold busy;rw[wj];rfl
        rw[zC];have yl:=p.trans yc;cases d:busy rest y with
        |true =>
         refine cw_next M ⟨_,rfl,?_,yc _ _ Z,D.trans yl⟩;rw[tk,m4];show _=(_++(if busy rest y then cN rest [] else y::cN rest [])).map _;rw[d];show _=(_++[]).map _;rw[eU]
        |false =>
         refine⟨_,rfl,a,_,0,.str y,rfl,rfl,aj.of (yl _ _ yp),j1,yc _ _ Z,?_,cw_next M ⟨_,rfl,?_,af,λc u T=>by rw[ag (ax T xl)];exact yl _ _ (D c u T)⟩⟩
         ·have zw:=sH rest (rest.take i)
          have zE:=R.sm.a3;rw[cH]at zw;rw[aB,aV];omega
         ·rw[tk,m4]
          show _=(_++(if busy rest y then cN rest [] else y::cN rest [])).map _;rw[d,a8];rfl
     ·rintro fr g za ⟨q,rfl,rfl,xc,D⟩
      rw[kc zd,cz]at xc;have yt:∀x∈cN rest rest,Nm x:=λx C=>by
       obtain⟨r,xn,e⟩:=pj C;exact R.sm.nm r xn x e
      have zz:=su R.nd rest;refine⟨_,rfl,bB _,λz yf=>?_⟩;have p:=aJ (o:=.lst []) yf;refine eq_nil (p _ _ xc) af yt ⟨_,rfl,?_⟩;have zl:ff rest=(cN rest rest).head?:=zz.symm;have xm:=xr.trans (D.trans p);have Z:=p _ _ xc;have zp:=p _ _ (D _ _ zc);have xk:=p _ _ (D _ _ zj);generalize cN rest rest=fr at zl Z yt⊢;cases fr with
      |nil =>
       refine qn ?_ _ xm;rw[R.eq,sq zi zl];rfl
      |cons n xD =>
       have e:ff rest=ih n:=zl;have lt:=lD (lM e);generalize xF:upd za z (.lst [])=G at xm Z zp xk p⊢;have xA:gf (λa=>a≠k) G lv rest:=js zd λb xs v d=>⟨v,p _ _ (D _ _ d)⟩;refine⟨_,rfl,.inl ⟨rfl,_,aj.of xk⟩,_,rfl,W,_,0,.str n,rfl,rfl,aj.of Z,j1,k,_,_,rfl,rfl,xk,by have:=R.lim;rw[aB,aV];omega,?_⟩
       have yA:W≠k:=aS (ax zj xl);have yb:(upd G k (.lst (Qb.map V.str++[.str n]))) W=bd ((n::xD).map V.str):=by rw[ag yA];exact Z
       have yk:(upd G k (.lst (Qb.map V.str++[.str n]))) J=bd lv:=by rw[ag R.ne];exact zp
       have yg:(upd G k (.lst (Qb.map V.str++[.str n]))) k=bd ((Qb++[n]).map V.str):=by rw[af,a8];rfl
       have zt:aw H (upd G k (.lst (Qb.map V.str++[.str n]))):=λb o d=>by rw[ag (ax d xp)];exact xm b o d
       have ym:gf (λa=>a≠k) (upd G k (.lst (Qb.map V.str++[.str n]))) lv rest:=js xA λb xs v d=>⟨v,by rw[ag v];exact d⟩
       generalize upd G k (.lst (Qb.map V.str++[.str n]))=yD at yb yk yg zt ym⊢;refine⟨_,rfl,J,rfl,⟨_,aj.of yk⟩,λxg zm=>?_⟩;have zA:xg≠k:=aS (ax yg zm);refine fe (xs:=lv) (λi ys g zb=>∃q:ad V,g=[q,am W]/\zb xg=bd ys/\aw yD zb/\gf (λa=>a≠k/\a≠xg) zb ys (L2.without n (rest.take i))) ⟨none,rfl,af,aJ zm,.nil⟩ (λi ys g zb ⟨_,_,N,O,_⟩=>⟨N,aj.of (O _ _ yk)⟩) ?_ ?_
       ·rintro i x ys g zb C ⟨q,rfl,xj,L,ye⟩
        obtain⟨a,r,rfl,I,_,S⟩:=lN ym C;have M:i<lv.length:=(bZ.mp C).1;have tk:rest.take (i+1)=rest.take i++[r]:=by rw[dH,I];rfl
        have yd:=eK I;have zk:=L _ _ S;have xq:=L _ _ yb;refine⟨_,rfl,a,rfl,⟨_,aj.of zk⟩,λb1 ze=>?_⟩;have xB:a≠b1:=ax zk ze;have yB:W≠b1:=ax xq ze;have xu:b1≠xg:=aS (ax xj ze);have zB:b1≠k:=aS (ax (L _ _ yg) ze);refine fe (xs:=r.map V.str) (λj zs zh yj=>∃xb:ad V,zh=[xb,am W]/\zs=((r.take j).filter λy=>!decide (y=n)).map V.str/\yj=upd zb b1 (.lst zs)) ⟨none,rfl,rfl,rfl⟩ (λj zs zh yj ⟨_,_,_,z⟩=>by rw[z];exact⟨af,aj.of (by rw[ag xB];exact zk)⟩) ?_ ?_
        ·rintro j x zs zh yj yu ⟨xb,rfl,rfl,rfl⟩
         have xe:j<(r.map V.str).length:=(bZ.mp yu).1;have zu:j<r.length:=by simpa using xe
         obtain rfl:V.str r[j]=x:=by simpa [zu] using yu
         have yh:r.take (j+1)=r.take j++[r[j]]:=by rw[dH,bw zu];rfl
         refine⟨_,rfl,_,rfl,W,_,0,.str n,rfl,rfl,aj.of (by rw[ag yB];exact xq),j1,rfl,_,rfl,?_⟩
         refine bW (λxi=>?_) (λxi=>?_)
         ·have xx:r[j]≠n:=λz=>by rw[z]at xi;simp at xi
          refine⟨_,rfl,af,?_,cw_next xe ⟨_,rfl,?_,by rw[fh]⟩⟩
          ·have h1:=gM (λy=>!decide (y=n)) (r.take j)
           have h2:(r.take j).length<=r.length:=by rw[cH];omega
           have xa:=R.sm.short r yd;rw[aB,aV];omega
          ·rw[yh,gN,a8,oS (by simpa using xx)];rfl
         ·have zD:r[j]=n:=by
           by_cases z:r[j]=n
           ·exact z
           ·exact absurd (by simp[z]) xi
          refine cw_next xe ⟨_,rfl,?_,rfl⟩;rw[yh];simp[zD]
        ·rintro zs zh yj ⟨xb,rfl,rfl,rfl⟩
         rw[aB,cz];have yo:=aJ (o:=.lst ((r.filter λy=>!decide (y=n)).map V.str)) ze;refine⟨yo _ _ xj,?_,cw_next M ⟨_,rfl,af,λb o d=>?_,?_⟩⟩
         ·have h1:=kc ye
          have h2:(L2.without n (rest.take i)).length<=rest.length:=by unfold L2.without;rw[aB,cH];omega
          have xa:=R.sm.a3;rw[aV];omega
         ·rw[ag (ax d zm)];exact yo _ _ (L b o d)
         ·have e1:L2.without n (rest.take (i+1))=L2.without n (rest.take i)++[r.filter λy=>!decide (y=n)]:=by rw[tk];unfold L2.without;rw[a8];rfl
          rw[e1];refine r9 (js ye λb xs v d=>⟨v,by rw[ag v.2];exact yo _ _ d⟩) ⟨zB,xu⟩ ?_
          rw[ag xu];exact af
       ·rintro ys g zb ⟨q,rfl,xj,L,ye⟩
        rw[kc ym,cz]at ye;refine⟨_,by rw[R.mm];exact lt,L2.without n rest,ys,Qb++[n],xg,⟨_,rfl⟩,rfl,xj,js ye λb xs v d=>⟨v.1,d⟩,zA,L _ _ yg,w2 R.sm,Aw R.nd,zt.trans L,?_,?_⟩
        ·have:=R.lim;rw[bV,jl];omega
        ·rw[R.eq,sr zi e,wU]
         congr 1
         funext z
         simp
    ·refine⟨_,rfl,xC Qb ?_ k U xp xr zj⟩
     rw[R.eq,so (by simpa using zi)]
     show ih (Qb++[])=ih Qb;rw[eU]
structure hO(mg:Fv->Option i'):Prop where
 mI:mg "isinstance" = none
 str:mg "str" = none
 dict:mg "dict" = none
 sorted:mg "sorted" = none
theorem lV:Vh "isinstance" = ih (.builtin "isinstance"):=by decide +kernel
theorem boot_str:Vh "str" = ih (.type "str"):=by decide +kernel
theorem boot_dict:Vh "dict" = ih (.type "dict"):=by decide +kernel
theorem boot_sorted:Vh "sorted" = ih (.builtin "sorted"):=by decide +kernel
theorem boot_all:Vh "all" = ih (.builtin "all"):=by decide +kernel
theorem G7(K:Ym)(h:X.K=K)(a:X.calm=true):cU X (.builtin "all") (λxs H Q=>∃(p:EZ) (bs:ac Bool),xs=[.ref p]/\aj K H p (bs.map V.bl)/\Q (.bl (bs.all id)) H):=by subst h;exact o9 a
theorem ite_ff{A B:Prop}{k:Bool}(a:k=false)(h:B):if k=true then A else B:=by subst a;exact h
theorem ite_tt{A B:Prop}{k:Bool}(a:k=true)(h:A):if k=true then A else B:=by subst a;exact h
inductive l9(vs:List V)(H:Hp)(Q:VK)(E:XK):Prop
 |mk{x:Fv}(_:vs=[.str x])(_:Nm x)(_:∀H',aw H H'->Q (.bl true) H'):l9 vs H Q E
theorem L8:bf ["thing"] ["thing"] (aI nI):=bz
abbrev OD:Vp:=gj (mr (bR (bE nI) 1))
theorem Dq:b6 ["thing"] (aI nI) ["sign"] [none] (cB OD):=c8
theorem K3(F:aQ K "is_name" "is_name" nI f fd)(B:df mg)(g:hO mg):aT P w K mg base aG 1 f fd ["thing"] l9:=by
 refine F.bG L8 λQa A outer s H vs Q E u h=>?_
 ·obtain @⟨x,rfl,a,q⟩:=h
  intro X;refine⟨_,au (bh (PW.pt (pw_or (hF (hE (bT lP rfl g.mI lV (aa (pv 0) (aa (lX (v:=.ty "str") rfl g.str boot_str rfl) ah)))))
     (pw_or1 (hF (IX Dg Dg ar (bT Gk rfl B.len ez (aa (pv 0) ah)) ar))))) (aA (aX jG)) bD)
   (aA (aX (bT (o9 rfl) rfl B.all boot_all (aa (dZ rfl Dq (LW (pv 0)) (λs H fp=>⟨bb 0 Dq.nd,ei,IW A6 A6 bq (pv 0) bq⟩)) ah)))),?_⟩
  have n:=a.lo;have o:=a.hi;have r:x.cps.size<=8:=a.hi;refine⟨_,rfl,⟨_,.inr ⟨"str",rfl⟩⟩,.str x,.ty "str",.type "str",.type "str",true,rfl,rfl,.inl (.str x),rfl,true,rfl,?_⟩;refine⟨_,rfl,x,rfl,by rw[aV];omega,1,x.length,rfl,rfl,_,rfl,?_⟩
  refine ite_tt (cb (by omega)) ?_
  refine⟨x.length,8,rfl,rfl,_,rfl,?_⟩;have l:decide ((x.length:Int)<=8)=true:=cb (by omega)
  rw[l];refine⟨_,rfl,x,rfl,λp m=>?_⟩;refine Jg (λi ys b Y=>∃d:ad V,b=[d]/\ys=(Yw i true).map V.bl/\Y=upd H p (.lst ys)) ⟨none,rfl,rfl,rfl⟩ (λi ys b Y ⟨_,_,_,z⟩=>by rw[z];exact af) ?_ ?_
  ·rintro i c ys b Y j ⟨d,rfl,rfl,rfl⟩
   have k:i<x.cps.size:=by
    obtain⟨h,_⟩:=wg.mp j;exact h
   have t:=a.az c (aaQ.mp (U2 j));have e1:(!decide ((⟨#[c]⟩:Fv).cps.toList<(Yp "a").cps.toList))=true:=by
    have : ¬ ([c] < [97]):=by simp[Vv];omega
    have e:(Yp "a").cps.toList=[97]:=by decide +kernel
    rw[e];simpa using this
   have e2:(!decide ((Yp "z").cps.toList<(⟨#[c]⟩:Fv).cps.toList))=true:=by
    have : ¬ ([122] < [c]):=by simp[Vv];omega
    have e:(Yp "z").cps.toList=[122]:=by decide +kernel
    rw[e];simpa using this
   refine⟨_,rfl,_,_,rfl,rfl,_,rfl,ite_tt e1 ⟨_,_,rfl,rfl,af,by rw[aB,vU,aV];omega,cw_next k ⟨_,rfl,?_,?_⟩⟩⟩
   ·rw[e2,FU,a8];rfl
   ·rw[fh]
  ·rintro ys b Y ⟨d,rfl,rfl,rfl⟩
   refine⟨p,_,rfl,aj.of af,?_⟩;have:(Yw x.cps.size true).all id=true:=by simp
   rw[this];exact q _ (aJ m)
theorem IH{g:Fv->V}{Q:VK}(e:H a=a2 (ps.map V.str))(f:H d=bn kvs)(r:∀x∈ps,a' kvs (n' x)=ih (g x))(h:H p=none)(t:ps.length<=100)
  (q:Q (.ref p) (upd H p (.lst (ps.map g)))):hJ (i9 K a) (ik 0) nX (ux (gD 1) (gD 0)) [none,am d] Q p H:=by
 have i:a≠p:=ax e h;have l:d≠p:=ax f h;refine lQ (xs:=ps.map V.str) (λj zs b H2=>∃c:ad V,b=[c,am d]/\zs=(ps.take j).map g/\H2=upd H p (.lst zs)) ⟨none,rfl,rfl,rfl⟩ (λj zs b H2 ⟨_,_,_,z⟩=>by rw[z];exact⟨af,ay.of (by rw[ag i];exact e)⟩) ?_ ?_
 ·rintro j x zs b H2 s ⟨c,rfl,rfl,rfl⟩
  obtain⟨m,n,rfl,o⟩:=uc s;refine⟨_,rfl,_,rfl,d,g ps[j],rfl,?_,af,?_,cw_next m ⟨_,rfl,?_,by rw[fh]⟩⟩
  ·rw[<-r _ (eL n)];exact b4.k (k:=n' ps[j]) (by rw[ag l];exact f)
  ·rw[aB,cH,aV];omega
  ·rw[o,a8];rfl
 ·rintro zs b H2 ⟨c,rfl,rfl,rfl⟩
  rw[aB,cz];exact q
theorem II{g:Fv->V}{Q:VK}(e:H a=bd (ps.map V.str))(f:H d=bn kvs)(r:∀x∈ps,a' kvs (n' x)=ih (g x))(h:H p=none)(t:ps.length<=100)
  (q:Q (.ref p) (upd H p (.lst (ps.map g)))):hJ (jW K a) (ik 0) nX (ux (gD 1) (gD 0)) [none,am d] Q p H:=by
 have i:a≠p:=ax e h;have l:d≠p:=ax f h;refine fe (xs:=ps.map V.str) (λj zs b H2=>∃c:ad V,b=[c,am d]/\zs=(ps.take j).map g/\H2=upd H p (.lst zs)) ⟨none,rfl,rfl,rfl⟩ (λj zs b H2 ⟨_,_,_,z⟩=>by rw[z];exact⟨af,aj.of (by rw[ag i];exact e)⟩) ?_ ?_
 ·rintro j x zs b H2 s ⟨c,rfl,rfl,rfl⟩
  obtain⟨m,n,rfl,o⟩:=uc s;refine⟨_,rfl,_,rfl,d,g ps[j],rfl,?_,af,?_,cw_next m ⟨_,rfl,?_,by rw[fh]⟩⟩
  ·rw[<-r _ (eL n)];exact b4.k (k:=n' ps[j]) (by rw[ag l];exact f)
  ·rw[aB,cH,aV];omega
  ·rw[o,a8];rfl
 ·rintro zs b H2 ⟨c,rfl,rfl,rfl⟩
  rw[aB,cz];exact q
def rowsOf(L:Fv->List Fv)(ps:List Fv):List (List Fv):=ps.map L++[ps]
def gH(H:Hp)(kvs:List (Key×V))(L:Fv->List Fv)(x:Fv):Prop:= ∃a,a' kvs (n' x)=ih (.ref a)/\H a=ih (.tup ((L x).map V.str))
theorem gH.same(h:gH H kvs L x)(s:aw H H'):gH H' kvs L x:=let ⟨a,e,q⟩:=h;⟨a,e,s _ _ q⟩
theorem K4(h:∀x∈ps,gH H kvs L x):∃g:Fv->V,(∀x∈ps,a' kvs (n' x)=ih (g x))/\dV H (ps.map g) (ps.map L):=by
 refine⟨λx=>(a' kvs (n' x)).getD .aK,λx b=>?_,?_⟩
 ·obtain⟨a,e,_⟩:=h x b;show _=ih ((a' kvs (n' x)).getD V.aK);rw[e];rfl
 ·induction ps with
  |nil=>exact .nil
  |cons x ps c =>
   obtain⟨a,e,q⟩:=h x aW;exact .cons ⟨a,by show(a' kvs (n' x)).getD V.aK=_;rw[e];rfl,q⟩ (c λy d=>h y (ba _ d))
inductive qH(vs:List V)(H:Hp)(Q:VK)(E:XK):Prop
 |mk{d pa:EZ}{kvs:List (Key×V)}{L:Fv->List Fv}{k:Fv}{ps o:List Fv}(_:vs=[.ref d,.str k,.ref pa])(_:H d=ih (.dK kvs))(_:H pa=ih (.tup (ps.map V.str)))(_:(∀x∈ps,gH H kvs L x))(_:Small (rowsOf L ps))(_:cw (total (rowsOf L ps)) (rowsOf L ps)=ih o)(_:o.length<=100)(_:∀p H',aw H H'->H' p=ih (.tup ((k::o).map V.str))->Q (.ref p) H'):qH vs H Q E
abbrev EC:List Fv:=["lines","kind","parents","rows","refusal"]
theorem DY:bf EC ["lines","kind","parents"] (aI m9):=bz
def DZ(e:Vp):Vp:=match e with|.BinOp a _ _ _=>a|_=>.Constant .none 0 ⟨0,0,0,0⟩
abbrev PR:Vp:=DZ (gj (e8 (bR (bE m9) 0)))
theorem D0:b6 EC (aI m9) ["parent","lines"] [none,ih 0] (cB PR):=c8
theorem M4{z:EZ}{v:X2}(F:aQ K "line_from" "line_from" m9 f fd)(B:df mg)(C:bF P w K mg base aG 3 z v ["rows"] pD "merged") :
  aT P w K mg base aG 4 f fd ["lines","kind","parents"] qH:=by
 refine F.bG DY λQa A outer s H vs Q E a h=>?_
 ·obtain @⟨d,b,kvs,L,k,ps,o,rfl,D,e,G,n,I,xb,q⟩:=h
  have J:=a.units;have x:=eu J;intro X;refine⟨_,au (aY 3 DY.nd (dq iI rfl B.tuple boot_tuple (aa (bx hG (dZ rfl D0 (kC (pv 2)) (λs H fp=>⟨bb 0 D0.nd,ei,d0 x (pv 1) (pv 0) (λ_ _=>rfl)⟩)) (ej (aa (pv 2) ah))) ah)))
   (aA (Jf (aA (aX (bx Cv (b7 (aa (pv 1) ah)) (a9 C a (aa (pv 3) ah))))) rfl)),?_⟩
  obtain⟨g,M,N⟩:=K4 G;have yb:ps.length<=20:=n.short ps (c4 _ aW);refine⟨_,rfl,b,rfl,⟨_,ay.of e⟩,λc t=>IH e D M t (by omega) ?_⟩
  have O:=aJ (o:=.lst (ps.map g)) t;refine⟨_,rfl,eI,λR j=>?_⟩;have S:=O.trans (aJ (o:=.lst [V.ref b]) j);refine⟨c,R,_,_,rfl,rfl,by rw[ag (ax af j)];exact af,af,by rw[aB,aV];show _+1<=_;omega,λT y=>?_⟩
  have U:=S.trans (aJ (o:=.lst (ps.map g++[V.ref b])) y);refine⟨T,_,rfl,.inl ⟨aj.of af,λr a=>?_⟩⟩;have W:=U.trans (aJ (o:=.tup (ps.map g++[V.ref b])) a);refine⟨_,rfl,eI,λY l=>?_⟩;have i:=W.trans (aJ (o:=.tup [V.str k]) l);refine⟨_,rfl,pD.mk rfl (rows:=rowsOf L ps) (by rw[ag (ax af l)];exact af) (dV.append (N.same i) (i _ _ e)) n I λm xc zb u Z=>?_⟩
  refine⟨Y,m,_,_,rfl,rfl,u _ _ af,Z,by rw[aB,aV];show 1+_<=_;omega,λp xa ya za=>?_⟩
  exact q p xa (i.trans (u.trans ya)) za
def c'(H:Hp)(vs:List V)(Qc:List (Fv×List Fv)):Prop:=VM (λy p=>∃a b,y=V.ref a/\H a=ih (.tup [.str p.1,.ref b])/\H b=ih (.tup (p.2.map V.str))) vs Qc
theorem c'.keep(h:c' H vs Qc)(s:∀b xs,H b=a2 xs->H' b=a2 xs):c' H' vs Qc:=Paired.imp' (λ_ _ ⟨a,b,e,q,r⟩=>⟨a,b,e,s _ _ q,s _ _ r⟩) h
theorem c'.same(h:c' H vs Qc)(s:aw H H'):c' H' vs Qc:=h.keep λ_ _ e=>s _ _ e
theorem c'.length(h:c' H vs Qc):vs.length=Qc.length:=cK h
theorem c'.append{p:Fv×List Fv}(h:c' H vs Qc)(q:H a=a2 [.str p.1,.ref b])(r:H b=a2 (p.2.map V.str)):c' H (vs++[.ref a]) (Qc++[p]):=gL h ⟨a,b,rfl,q,r⟩
structure jJ(Qc:List (Fv×List Fv))(L:Fv->List Fv):Prop where
 nd:(Qc.map (·.1)).Nodup
 a3:Qc.length<=8
 nm:∀p∈Qc,Nm p.1
 up:∀p∈Qc,∀x∈p.2,∃q∈Qc,q.1=x
 rank:∃r:Fv->Nat,∀p∈Qc,∀x∈p.2,r x<r p.1
 line:∀p∈Qc,Small (rowsOf L p.2) /\∃o,cw (total (rowsOf L p.2)) (rowsOf L p.2)=ih o/\L p.1=p.1::o/\o.length<=100
theorem jJ.perm{b:ac (Fv×List Fv)}(h:jJ Qc L)(p:b.Perm Qc):jJ b L:=by
 have m:∀{q},q∈b ↔ q∈Qc:=λ{q}=>p.mem_iff;obtain⟨r,c⟩:=h.rank;exact⟨(p.map _).nodup_iff.mpr h.nd,by rw[p.length_eq];exact h.a3,λq a=>h.nm q (m.mp a),λq a x d=>let ⟨z,f,e⟩:=h.up q (m.mp a) x d;⟨z,m.mpr f,e⟩,⟨r,λq a=>c q (m.mp a)⟩,λq a=>h.line q (m.mp a)⟩
def isDone(kvs:List (Key×V))(x:Fv):Bool:=(a' kvs (n' x)).isSome
theorem JG{rest:ac (Fv×List Fv)}(ok:jJ Qc L)(sub:∀p∈rest,p∈Qc)(all:∀p∈Qc,dn p.1=true\/p∈rest)(ne:rest ≠ []):∃p∈rest,∀x∈p.2,dn x=true:=by
 obtain⟨r,f⟩:=ok.rank;have c:∀n,∀p∈rest,r p.1=n ->∃q∈rest,∀x∈q.2,dn x=true:=by
  intro n
  induction n using Zz with
  |_ n g =>
   intro p a e
   by_cases h:∀x∈p.2,dn x=true
   ·exact⟨p,a,h⟩
   ·simp only[acF]at h
    obtain⟨x,b,d⟩:=h;obtain⟨q,i,rfl⟩:=ok.up p (sub p a) x b;have lt:=f p (sub p a) q.1 b;rcases all q i with z|z
    ·exact absurd z d
    ·exact g _ (by omega) q z rfl
 cases rest with
 |nil=>exact absurd rfl ne
 |cons p t=>exact c _ p aW rfl
def fj(dn:Fv->Bool)(rest:List (Fv×List Fv)):List (Fv×List Fv):=rest.filter λp=>(p.2.map dn).all id
theorem Bm{rest:ac (Fv×List Fv)}{p:Fv×List Fv}:p∈fj dn rest ↔ p∈rest /\∀x∈p.2,dn x=true:=by
 unfold fj;rw[fc,List.all_map,mT];rfl
theorem Ax{α:Type}(f:α->Bool):∀l:ac α,(l.filter f).length+(l.filter λx=>!f x).length=l.length
 |[]=>rfl
 |x::l=>by
  have a:=Ax f l;cases h:f x <;> simp[mZ,h] <;> omega
theorem IJ{ry:Fv->Bool}{rest:ac (Fv×List Fv)}(h:∀p∈fj dn rest,ry p.1=true):(rest.filter λp=>!ry p.1).length+(fj dn rest).length<=rest.length:=by
 have e:rest.length=(rest.filter λp=>(p.2.map dn).all id).length+(rest.filter λp=>!(p.2.map dn).all id).length:=by
  exact(Ax (λp:Fv×List Fv=>(p.2.map dn).all id) rest).symm
 have b:(rest.filter λp=>!ry p.1).length<=(rest.filter λp=>!(p.2.map dn).all id).length:=by
  rw[<-Vw,<-Vw];refine List.countP_mono_left λp a h1=>?_;cases z:(p.2.map dn).all id with
  |false=>rfl
  |true =>
   have:=h p (fc.mpr ⟨a,z⟩);rw[this]at h1;cases h1
 unfold fj;omega
theorem JH{Q:VK}(e:H a=a2 (ps.map V.str))(f:H d=bn kvs)(g:H p=none)(r:ps.length<=100)
  (q:Q (.ref p) (upd H p (.lst ((ps.map (isDone kvs)).map V.bl)))):hJ (i9 K a) (ik 0) nX (u1 (gD 0) (gD 1)) [none,am d] Q p H:=by
 have h:a≠p:=ax e g;have i:d≠p:=ax f g;refine lQ (xs:=ps.map V.str) (λj zs b H2=>∃c:ad V,b=[c,am d]/\zs=((ps.take j).map (isDone kvs)).map V.bl/\H2=upd H p (.lst zs)) ⟨none,rfl,rfl,rfl⟩ (λj zs b H2 ⟨_,_,_,z⟩=>by rw[z];exact⟨af,ay.of (by rw[ag h];exact e)⟩) ?_ ?_
 ·rintro j x zs b H2 n ⟨c,rfl,rfl,rfl⟩
  obtain⟨l,o,rfl,m⟩:=uc n;refine⟨_,rfl,_,rfl,d,_,rfl,b4.k (k:=n' ps[j]) (by rw[ag i];exact f),af,?_,cw_next l ⟨_,rfl,?_,by rw[fh]⟩⟩
  ·rw[aB,aB,cH,aV];omega
  ·rw[m,a8,a8];rfl
 ·rintro zs b H2 ⟨c,rfl,rfl,rfl⟩
  rw[aB,cz];exact q
def kM(Qc:List (Fv×List Fv))(kvs:List (Key×V)):Prop:=(kvs.map (·.1)).Nodup /\∀k∈kvs.map (·.1),∃p∈Qc,k=n' p.1
theorem Bn(kvs:ac (Key×V))(k:Key)(v:V):(k∈kvs.map (·.1)/\(putK kvs k v).map (·.1)=kvs.map (·.1))\/(k ∉ kvs.map (·.1)/\(putK kvs k v).map (·.1)=kvs.map (·.1)++[k]):=by
 have e:(kvs.any λa=>decide (a.1=k))=true ↔ k∈kvs.map (·.1):=by
  rw[lu,a4];exact⟨λ⟨x,h,d⟩=>⟨x,h,dJ d⟩,λ⟨x,h,d⟩=>⟨x,h,cb d⟩⟩
 unfold putK
 by_cases h:k∈kvs.map (·.1)
 ·refine .inl ⟨h,?_⟩
  rw[aE (e.mpr h),c5];refine mV λa _=>?_;show(if a.1=k then (a.1,v) else a).1=a.1;split <;> rfl
 ·refine .inr ⟨h,?_⟩
  rw[ao λz=>h (e.mp z),a8];rfl
theorem JI{k j:Key}:j∈(putK kvs k v).map (·.1) ↔ j=k\/j∈kvs.map (·.1):=by
 rcases Bn kvs k v with⟨h,e⟩|⟨h,e⟩
 ·rw[e];exact⟨.inr,λz=>z.elim (λe=>e ▸ h) id⟩
 ·rw[e,bI,bL];exact Or.comm
theorem K5{k:Key}(h:(kvs.map (·.1)).Nodup):((putK kvs k v).map (·.1)).Nodup:=by
 rcases Bn kvs k v with⟨_,e⟩|⟨c,e⟩
 ·rw[e];exact h
 ·rw[e,di]
  exact⟨h,by simp,λa d b f e=>c (by rw[<-(bL.mp f),<-e];exact d)⟩
theorem kM.put{p:Fv×List Fv}(h:kM Qc kvs)(a:p∈Qc):kM Qc (putK kvs (n' p.1) v):=by
 refine⟨K5 h.1,λk b=>?_⟩;rcases JI.mp b with z|z
 ·exact⟨p,a,z⟩
 ·exact h.2 k z
theorem B4:∀{kvs:ac (Key×V)}{x:Fv},isDone kvs x=true->n' x∈kvs.map (·.1)
 |[],x,h=>by cases h
 |(a,b)::kvs,x,h=>by
  by_cases e:a=n' x
  ·rw[e];exact aW
  ·unfold isDone at h;rw[eN e]at h
   exact ba _ (B4 h)
theorem HF{α:Type}{a b:ac α}(c:a.Nodup)(d:b.Nodup)(h:∀x,x∈a ↔ x∈b):a.Perm b:=(Vx c d).mpr h
theorem L9{l:ac Fv}(h:l.Nodup):(l.map (n':Fv->Key)).Nodup:=by
 induction l with
 |nil=>exact e4
 |cons x l a =>
  rw[d4]at h;rw[b2,d4];refine⟨λz=>?_,a h.2⟩;obtain⟨y,b,e⟩:=a4.mp z;exact h.1 (gq e ▸ b)
theorem kM.perm(h:kM Qc kvs)(ok:jJ Qc L)(all:∀p∈Qc,isDone kvs p.1=true):(kvs.map (·.1)).Perm ((Qc.map (·.1)).map n'):=by
 refine HF h.1 (L9 ok.nd) λx=>⟨λa=>?_,λa=>?_⟩
 ·obtain⟨p,b,rfl⟩:=h.2 x a
  exact a4.mpr ⟨p.1,a4.mpr ⟨p,b,rfl⟩,rfl⟩
 ·obtain⟨y,c,rfl⟩:=a4.mp a
  obtain⟨p,b,rfl⟩:=a4.mp c;exact B4 (all p b)
structure D1(H:Hp)(Qc:List (Fv×List Fv))(L:Fv->List Fv)(t d:EZ)(m:Nat)(σ:St)(Y:Hp)(kvs:List (Key×V))(rest:List (Fv×List Fv))(wv:List V)(wa:EZ):Prop where
 st:∃v3 v4 v5:Option V,σ=[ih (.ref t),ih (.ref d),ih (.ref wa),v3,v4,v5]
 mm:m=rest.length
 hd:Y d=ih (.dK kvs)
 hw:Y wa=ih (.lst wv)
 fv:c' Y wv rest
 sub:∀p∈rest,p∈Qc
 all:∀p∈Qc,isDone kvs p.1=true\/p∈rest
 ln:∀x,isDone kvs x=true->gH Y kvs L x
 same:aw H Y
 lim:kvs.length+rest.length<=8
 ky:kM Qc kvs
inductive pR(vs:List V)(H:Hp)(Q:VK)(E:XK):Prop
 |mk{t:EZ}{o:Yy}{ws:List V}{Qc:List (Fv×List Fv)}{L:Fv->List Fv}(_:vs=[.ref t])(_:H t=ih (.bu o (.tup ws)))(_:c' H ws Qc)(_:jJ Qc L)(_:∀d kvs H',H d=none->aw H H'->H' d=ih (.dK kvs)->(∀p∈Qc,gH H' kvs L p.1)->(kvs.map (·.1)).Perm ((Qc.map (·.1)).map n')->Q (.ref d) H'):pR vs H Q E
abbrev vD:List Fv:=["family","lines","waiting","ready","kind","parents"]
theorem kR:bf vD ["family"] (aI l7):=bz
abbrev D2:U6:=bR (bE l7) 2
abbrev u':Vp:=e8 (bR (nc D2) 0)
abbrev OE:Vp:=gj (C8 u')
abbrev OF:Vp:=e8 (bR (nc D2) 3)
theorem Dr:b6 vD (aI l7) ["pair","lines"] [none,ih 1] (cB u'):=c8
theorem M5:b6 ["pair","lines"] (relabel (cB u') env) ["parent","lines"] [none,ih 1] (cB OE):=nest rfl (by decide +kernel) (by decide +kernel) rfl (by decide +kernel) (by decide +kernel)
theorem M6:(["parent","lines"]:ac Fv).Nodup:=by decide +kernel
theorem Ds:b6 vD (aI l7) ["pair","lines"] [none,ih 1] (cB OF):=c8
theorem JJ{fF:EZ}{yp:X2}(F:aQ K "lines_of" "lines_of" l7 f fd)(B:df mg)(yw:bF P w K mg base aG 4 fF yp ["lines","kind","parents"] qH "line_from") :
  aT P w K mg base aG 5 f fd ["family"] pR:=by
 refine F.bG kR λQa A outer s H vs Q E zl h=>?_
 ·obtain @⟨t,o,ws,Qc,L,rfl,zw,xo,ok,q⟩:=h
  have xx:=zl.units;have xg:=eu xx;intro X;refine⟨_,au (ic (i:=1) kR.nd rfl (YN rfl) lS)
   (au (aY 2 kR.nd (dq kb rfl B.list boot_list (aa (pv 0) ah)))
   (au (ni d5 (km (pv 2) (λ_=>rfl))
    (au (lK rfl Dr kR.nd (i:=3) rfl rfl (c6 (pv 2)) (λs H fp=>⟨bb 0 Dr.nd,
      iL (hE (bT (G7 K rfl rfl) rfl B.all boot_all (aa (dZ rfl M5 (BF K rfl (aU (jx K rfl) (pv 0) ar)) (λs H fp=>⟨bb 0 M6,ei,Lw (iU xg (pv 0) (pv 1))⟩)) ah))),
      pv 0⟩))
    (au (bh (hF (km (pv 3) (λ_=>rfl))) (aA (aX (pv 1))) bD)
    (au (eG d5 rfl (c6 (pv 3)) (ib rfl (cZ (bb 4 kR.nd) (cZ (bb 5 kR.nd) gw)))
     (aA (gx xg (pv 1) (pv 4) (a9 yw zl (aa (pv 1) (aa (pv 4) (aa (pv 5) ah)))) rfl)))
    (aA (lK rfl Ds kR.nd (i:=2) rfl rfl (c6 (pv 2)) (λs H fp=>⟨bb 0 Ds.nd,
      iL (fQ (pd xg (aU (jx K rfl) (pv 0) ar) (pv 1))),pv 0⟩)))))))
   (aA (aX (pv 1))))),?_⟩
  intro d zi;have xm:=aJ (o:=.dK []) zi;refine⟨_,rfl,t,ws,rfl,.inr (.inl (.inr ⟨o,xm _ _ zw⟩)),λG zj=>?_⟩;have ym:=xm.trans (aJ (o:=.lst ws) zj);have zp:d≠G:=ax af zj;refine⟨λm σ Y=>∃kvs rest v G,D1 H Qc L t d m σ Y kvs rest v G,⟨_,[],Qc,ws,G,⟨none,none,none,rfl⟩,rfl,by rw[ag zp];exact af,af,xo.same ym,λ_ h=>h,λ_ h=>.inr h,λx h=>(by cases h),ym,by have:=ok.a3;rw[jm];omega,⟨e4,λ_ h=>(by cases h)⟩⟩,?_⟩
  rintro m σ Y ⟨kvs,rest,v,G,R⟩;obtain⟨zz,xc,yc,rfl⟩:=R.st;have yb:=R.fv.length;refine⟨_,rfl,_,.inl ⟨_,aj.of R.hw,rfl⟩,?_⟩;refine bW (λzc=>?_) (λzc=>?_)
  ·refine⟨λxq H'=>∃zm,zm<m /\∃kvs rest v G,D1 H Qc L t d zm xq H' kvs rest v G,λ_ _ z=>z,?_⟩
   refine⟨_,rfl,G,rfl,⟨_,aj.of R.hw⟩,λyf yg=>?_⟩;have yq:∀{b:EZ}{u:HO},H b=ih u->b≠d:=λe=>ax e zi;have zq:d≠yf:=ax R.hd yg;refine fe (xs:=v) (λi ys J N=>∃W:ad V,J=[W,am d]/\N yf=bd ys/\aw Y N/\c' N ys (fj (isDone kvs) (rest.take i))) ⟨none,rfl,af,aJ yg,.nil⟩ (λi ys J N ⟨_,_,z1,z2,_⟩=>⟨z1,aj.of (z2 _ _ R.hw)⟩) ?_ ?_
   ·rintro i x ys J N g ⟨W,rfl,C,D,O⟩
    have ya:i<v.length:=(bZ.mp g).1;obtain⟨p,n,a,b,rfl,za,j⟩:=lZ R.fv g;have tk:rest.take (i+1)=rest.take i++[p]:=by rw[dH,n];rfl
    have xd:=R.sub p (eK n);have xz:p.2.length<=20:=(ok.line p xd).1.short p.2 (c4 _ aW);have zg:=D _ _ za;have yd:=D _ _ j;refine⟨_,rfl,a,_,1,.ref b,rfl,rfl,ay.of zg,(show cW [V.str p.1,V.ref b] ((1:Nat):Int)=ih (.ref b) from cq rfl),?_⟩;refine⟨b,rfl,⟨_,ay.of yd⟩,λc xn=>JH yd (D _ _ R.hd) xn (by omega) ?_⟩
    have S:=aJ (o:=.lst ((p.2.map (isDone kvs)).map V.bl)) xn;refine⟨c,_,rfl,aj.of af,_,rfl,?_⟩;refine bW (λxh=>?_) (λxh=>?_)
    ·refine⟨_,rfl,S _ _ C,?_,cw_next ya ⟨_,rfl,af,λb o j=>by rw[ag (ax j yg)];exact S _ _ (D b o j),?_⟩⟩
     ·have h1:=O.length
      have h2:(fj (isDone kvs) (rest.take i)).length<=(rest.take i).length:=gM _ _;have C:=R.lim;rw[cH]at h2;rw[aV];omega
     ·have e1:fj (isDone kvs) (rest.take (i+1))=fj (isDone kvs) (rest.take i)++[p]:=by
       rw[tk];unfold fj;rw[gN,oS (by exact xh)];rfl
      rw[e1];refine c'.append (O.keep λb xs j=>?_) ?_ ?_ (b:=b)
      ·rw[ag (aq j C)];exact S _ _ j
      ·rw[ag (aq zg C)];exact S _ _ zg
      ·rw[ag (aq yd C)];exact S _ _ yd
    ·refine cw_next ya ⟨_,rfl,S _ _ C,D.trans S,?_⟩
     have e1:fj (isDone kvs) (rest.take (i+1))=fj (isDone kvs) (rest.take i):=by
      rw[tk];unfold fj;rw[gN,rX (by exact xh)];simp
     rw[e1];exact O.same S
   ·rintro zf J N ⟨W,rfl,C,D,O⟩
    rw[yb,cz]at O;have yh:=O.length;have zb:=D _ _ R.hd;have xk:=D _ _ R.hw;have xr:c' N v rest:=R.fv.same D;have yo:rest ≠ []:=λz=>by
     rw[z]at yb;have:v=[]:=lz yb;rw[this]at zc;cases zc
    obtain⟨yx,yr,zo⟩:=JG ok R.sub R.all yo;have zd:yx∈fj (isDone kvs) rest:=Bm.mpr ⟨yr,zo⟩;generalize xe:fj (isDone kvs) rest=xa at O yh zd;have xp:(!zf.isEmpty)=true:=by
     cases zf with
     |nil =>
      have:xa=[]:=lz yh.symm;rw[this]at zd;cases zd
     |cons _ _=>rfl
    refine⟨_,rfl,_,.inl ⟨_,aj.of C,rfl⟩,?_⟩;rw[xp];refine⟨_,rfl,yf,rfl,⟨_,aj.of C⟩,h8 (xs:=zf) (λi σ M=>∃(l:ac (Key×V)) (xc yc:ad V),σ=[am t,am d,am G,am yf,xc,yc]/\M d=bn l/\l.length<=kvs.length+i /\
     (∀b u,b≠d->N b=ih u->M b=ih u)/\(∀x,isDone l x=true->gH M l L x)/\(∀x,isDone kvs x=true->isDone l x=true)/\(∀p∈xa.take i,isDone l p.1=true)/\kM Qc l)
     ⟨kvs,xc,yc,rfl,zb,aP _,λ_ _ _ e=>e,λx g=>(R.ln x g).same D,λ_ h=>h,λp n=>(by cases n),R.ky⟩ (λi σ M _ ab=>by obtain⟨_,_,_,_,_,_,z,_⟩:=ab;exact aj.of (z _ _ (aS zq) C)) ?_ ?_⟩
    ·rintro i x σ M g ⟨l,xc,yc,rfl,T,zr,U,ye,ze,xf,zh⟩
     have ya:i<zf.length:=(bZ.mp g).1;obtain⟨p,n,a,b,rfl,za,j⟩:=lZ O g;have tk:xa.take (i+1)=xa.take i++[p]:=by rw[dH,n];rfl
     have xt:p∈fj (isDone kvs) rest:=by rw[xe];exact eK n
     obtain⟨xd,yt⟩:=Bm.mp xt;obtain⟨zt,xA,xu,zx,yu⟩:=ok.line p (R.sub p xd);have zu:=U _ _ (aq za zb) za
     have xv:=U _ _ (aq j zb) j
     refine⟨a,_,rfl,ay.of zu,rfl,_,_,rfl,_,_,rfl,rfl,?_⟩;refine⟨_,rfl,_,rfl,_,rfl,qH.mk rfl T xv (λx g=>ye x (ze x (yt x g))) zt xu yu λxj Z r I=>?_⟩;refine⟨_,rfl,_,rfl,d,_,rfl,eR.k (k:=n' p.1) (r _ _ T) ?_,?_⟩
     ·have h1:=R.lim
      have h2:xa.length<=rest.length:=by rw[<-xe];exact gM _ _
      rw[aV];omega
     ·have xy:xj≠d:=aq I (r _ _ T)
      refine⟨_,_,_,rfl,af,?_,λb u yn e=>?_,λx g=>?_,λx g=>?_,λy zn=>?_,zh.put (R.sub p xd)⟩
      ·have:=lH l (n' p.1) (V.ref xj);omega
      ·rw[ag yn];exact r _ _ (U b u yn e)
      ·unfold gH
       rw[kr]
       by_cases e:x=p.1
       ·subst e
        refine⟨xj,by rw[aE rfl],?_⟩
        rw[ag xy,zx];exact I
       ·have e2 : ¬ ((n' x:Key)=n' p.1):=λz=>e (gq z)
        have yv:isDone l x=true:=by unfold isDone at g⊢;rw[kr,ao e2]at g;exact g
        obtain⟨yy,zy,yk⟩:=ye x yv;refine⟨yy,by rw[ao e2];exact zy,?_⟩
        rw[ag (aq yk T)];exact r _ _ yk
      ·unfold isDone;rw[kr]
       split
       ·rfl
       ·exact ze x g
      ·unfold isDone;rw[kr]
       split
       ·rfl
       ·rename_i yj
        rw[tk]at zn;rcases bI.mp zn with z|z
        ·exact xf _ z
        ·have:y=p:=by simpa using z
         exact absurd (by rw[this]) yj
    ·rintro σ M ⟨l,xc,yc,rfl,T,zr,U,ye,ze,xf,zh⟩
     rw[yh,cz]at xf;have zv:c' M v rest:=xr.keep λb xs e=>U _ _ (aq e zb) e
     have zk:=U _ _ (aq xk zb) xk
     have xw:aw H M:=λb u e=>U b u (yq e) (D _ _ (R.same b u e));refine⟨_,rfl,G,rfl,⟨_,aj.of zk⟩,λwb xl=>?_⟩;refine fe (xs:=v) (λi ys J Z=>∃W:ad V,J=[W,am d]/\Z wb=bd ys/\aw M Z/\c' Z ys ((rest.take i).filter λp=>!isDone l p.1)) ⟨none,rfl,af,aJ xl,.nil⟩ (λi ys J Z ⟨_,_,z1,z2,_⟩=>⟨z1,aj.of (z2 _ _ zk)⟩) ?_ ?_
     ·rintro i x ys J Z g ⟨W,rfl,I,r,xb⟩
      have ya:i<v.length:=(bZ.mp g).1;obtain⟨p,n,a,b,rfl,za,j⟩:=lZ zv g;have tk:rest.take (i+1)=rest.take i++[p]:=by rw[dH,n];rfl
      have xi:=r _ _ za;have yl:=r _ _ j;refine⟨_,rfl,a,_,0,.str p.1,rfl,rfl,ay.of xi,(show cW [V.str p.1,V.ref b] ((0:Nat):Int)=ih (.str p.1) from cq rfl),?_⟩;refine⟨_,rfl,d,_,rfl,b4.k (k:=n' p.1) (r _ _ T),_,rfl,?_⟩;refine bW (λyi=>?_) (λyi=>?_)
      ·refine⟨_,rfl,I,?_,cw_next ya ⟨_,rfl,af,λb o j=>by rw[ag (ax j xl)];exact r b o j,?_⟩⟩
       ·have h1:=xb.length
        have h2:=gM (λp:Fv×List Fv=>!isDone l p.1) (rest.take i);have C:=R.lim;rw[cH]at h2;rw[aV];omega
       ·rw[tk,gN,oS (by exact yi)]
        refine c'.append (xb.keep λb xs j=>?_) ?_ ?_ (b:=b)
        ·rw[ag (aq j I)];exact j
        ·rw[ag (aq xi I)];exact xi
        ·rw[ag (aq yl I)];exact yl
      ·refine cw_next ya ⟨_,rfl,I,r,?_⟩
       rw[tk,gN,rX (by exact yi),rW,eU]
       exact xb
     ·rintro ys J Z ⟨W,rfl,I,r,xb⟩
      rw[yb,cz]at xb;have less:=IJ (dn:=isDone kvs) (ry:=isDone l) (rest:=rest) (by rw[xe];exact xf)
      rw[xe]at less;have yz:0<xa.length:=Fh zd;refine⟨_,by rw[R.mm];omega,l,rest.filter λp=>!isDone l p.1,ys,wb,⟨_,_,_,rfl⟩,rfl,r _ _ T,I,xb,λp n=>R.sub p (fc.mp n).1,λp n=>?_,λx g=>(ye x g).same r,xw.trans r,?_,?_⟩
      ·cases e:isDone l p.1 with
       |true=>exact .inl rfl
       |false =>
        refine .inr ?_;rcases R.all p n with z|z
        ·rw[ze _ z]at e;cases e
        ·exact fc.mpr ⟨z,by rw[e];rfl⟩
      ·have h1:=R.lim
       omega
      ·exact zh
  ·have yj:rest=[]:=by
    cases v with
    |nil=>exact lz yb.symm
    |cons _ _=>exact absurd rfl zc
   have dn:∀p∈Qc,isDone kvs p.1=true:=λp n=>by
    rcases R.all p n with z|z
    ·exact z
    ·rw[yj]at z;cases z
   exact⟨_,rfl,q d kvs Y zi R.same R.hd (λp n=>R.ln p.1 (dn p n)) (R.ky.perm ok dn)⟩
def ec(H:Hp)(kvs:List (Key×V))(L:Fv->List Fv)(x:Fv):Prop:= ∃a,a' kvs (n' x)=ih (.ref a)/\H a=ih (.lst ((L x).map V.str))
theorem ec.same(h:ec H kvs L x)(s:aw H H'):ec H' kvs L x:=let ⟨a,e,q⟩:=h;⟨a,e,s _ _ q⟩
theorem K6(h:∀x∈ps,ec H kvs L x):∃g:Fv->V,(∀x∈ps,a' kvs (n' x)=ih (g x))/\gf (λ_=>True) H (ps.map g) (ps.map L):=by
 refine⟨λx=>(a' kvs (n' x)).getD .aK,λx b=>?_,?_⟩
 ·obtain⟨a,e,_⟩:=h x b;show _=ih ((a' kvs (n' x)).getD V.aK);rw[e];rfl
 ·induction ps with
  |nil=>exact .nil
  |cons x ps c =>
   obtain⟨a,e,q⟩:=h x aW;exact .cons ⟨a,by show(a' kvs (n' x)).getD V.aK=_;rw[e];rfl,trivial,q⟩ (c λy d=>h y (ba _ d))
theorem Bo:∀{m:Nat}{rows:ac (List Fv)}{o:ac Fv},cw m rows=ih o->o.length<=m
 |0,rows,o,h=>by
  unfold cw at h
  first
   |(cases h;exact aP _)
   |(split at h <;> first|(cases h;exact aP _)|cases h)
 |m+1,rows,o,h=>by
  unfold cw at h;split at h
  ·cases e:ff rows with
   |none=>rw[e]at h;cases h
   |some n =>
    rw[e]at h;obtain⟨o',h',rfl⟩:=gu.mp h;have:=Bo h';rw[cS];omega
  ·cases h;exact bB _
inductive oe(vs:List V)(H:Hp)(Q:VK)(E:XK):Prop
 |mk{d oa:EZ}{kvs:List (Key×V)}{L:Fv->List Fv}{k:Fv}{own:List Fv}(_:vs=[.ref d,.str k,.ref oa])(_:H d=ih (.dK kvs))(_:H oa=ih (.lst (own.map V.str)))(_:(∀x∈own,ec H kvs L x))(_:Small (rowsOf L own))(_:(∀r∈rowsOf L own,r.Nodup))(_:(cw (total (rowsOf L own)) (rowsOf L own)=none ->∀H',aw H H'->Q .aK H'))(_:(∀o,cw (total (rowsOf L own)) (rowsOf L own)=ih o ->∀p H',H p=none->aw H H'->H' p=ih (.lst ((k::o).map V.str))->Q (.ref p) H')):oe vs H Q E
abbrev ED:List Fv:=["_law_lines","_law_kind","_law_own","_law_found"]
theorem D3:bf ED ["_law_lines","_law_kind","_law_own"] (aI nQ):=bz
abbrev PU:Vp:=DZ (gj (e8 (bR (bE nQ) 0)))
theorem D4:b6 ED (aI nQ) ["_law_one","_law_lines"] [none,ih 0] (cB PU):=c8
theorem M7{n:EZ}{l:X2}(F:aQ K "_law_line" "_law_line" nQ f fd)(B:df mg)(z:aQ K "_law_merged" "_law_merged" h9 n l)(U:Binds K l ["_law_rows"] [])(W:mg "_law_merged" = ih (.ref n)) :
  aT P w K mg base aG 2 f fd ["_law_lines","_law_kind","_law_own"] oe:=by
 have Y:aT P w K mg base aG 1 n l ["_law_rows"] qG:=M3 z B;refine F.bG D3 λQa A outer s H vs Q E C h=>?_
 ·obtain @⟨d,D,kvs,L,k,own,rfl,Z,q,xa,i,S,qn,ya⟩:=h
  have za:=C.units;have T:=eu za;intro X;refine⟨_,au (aY 3 D3.nd (fM Y C rfl W z.kp U .nil cV (aa (bx hG (dZ rfl D4 (c6 (pv 2)) (λs H fp=>⟨bb 0 D4.nd,ei,d0 T (pv 1) (pv 0) (λ_ _=>rfl)⟩)) (ej (aa (dq kb rfl B.list boot_list (aa (pv 2) ah)) ah))) ah)))
   (au (bh (bp gy (pv 3) dQ (bA _)) (aA (aX dQ)) bD)
   (aA (aX (bx hG (ej (aa (pv 1) ah)) (pv 3))))),?_⟩
  obtain⟨g,xb,yb⟩:=K6 xa;have zd:own.length<=20:=i.short own (c4 _ aW);refine⟨_,rfl,D,rfl,⟨_,aj.of q⟩,λc G=>II q Z xb G (by omega) ?_⟩
  have I:=aJ (o:=.lst (own.map g)) G;refine⟨_,rfl,D,_,rfl,.inl (aj.of (I _ _ q)),λb u=>?_⟩;have zb:=I.trans (aJ (o:=.lst (own.map V.str)) u);refine⟨eI,λr m=>?_⟩;have xc:=zb.trans (aJ (o:=.lst [V.ref b]) m);have J:upd (upd H c (.lst (own.map g))) b (.lst (own.map V.str)) c=bd (own.map g):=by rw[ag (ax af u)];exact af
  refine⟨c,r,_,_,rfl,rfl,by rw[ag (ax J m)];exact J,af,by rw[aB,aV];show _+1<=_;omega,λyc v=>?_⟩
  have j:=xc.trans (aJ (o:=.lst (own.map g++[V.ref b])) v);have zc:upd (upd (upd (upd H c (.lst (own.map g))) b (.lst (own.map V.str))) r (.lst [V.ref b])) yc (.lst (own.map g++[V.ref b])) b=bd (own.map V.str):=by
   have M:upd (upd (upd H c (.lst (own.map g))) b (.lst (own.map V.str))) r (.lst [V.ref b]) b=bd (own.map V.str):=by rw[ag (ax af m)];exact af
   rw[ag (ax M v)];exact M
  refine qG.mk rfl (rows:=rowsOf L own) af (r9 (js yb λa xs _ e=>⟨trivial,j _ _ e⟩) trivial zc) i S (λe N t=>?_) (λo e p N ye t O=>?_)
  ·exact⟨_,rfl,rfl,_,rfl,qn e N (j.trans t)⟩
  ·refine⟨_,rfl,rfl,_,rfl,?_⟩
   refine⟨_,rfl,eI,λxd x=>?_⟩;have R:=t.trans (aJ (o:=.lst [V.str k]) x);have ze:=(Bo e);have xf:=o1 i.short;have xe:=i.a3;refine⟨_,rfl,xd,p,_,_,rfl,rfl,af,by rw[ag (ax O x)];exact O,by rw[aB,aV];show 1+_<=_;omega,λyd y=>?_⟩
   exact ya o e yd _ (j.free (R.free y)) (j.trans (R.trans (aJ y))) af
theorem Ay{α:Type}:∀(l:ac α) (k:Nat) (h:k<l.length),(l[k]::l.eraseIdx k).Perm l
 |[],k,h=>absurd h (oR _)
 |x::l,0,_=>j9 _
 |x::l,k+1,h=>(YO _ _ _).trans ((Ay l k (wH h)).cons x)
theorem Bp{α β:Type}(f:α->β):∀(l:ac α) (k:Nat),(l.map f).eraseIdx k=(l.eraseIdx k).map f
 |[],_=>rfl
 |_::_,0=>rfl
 |x::l,k+1=>c3 (f x :: ·) (Bp f l k)
theorem boot_min:Vh "min" = ih (.builtin "min"):=by decide +kernel
theorem M8{d:Int}(h0:0<=d)(h1:d<7):∃v:Int,cW [V.int 0,.int 1,.int 1,.int 2,.int 2,.int 3,.int 4] d=ih (.int v)/\0<=v/\v<=4:=by
 obtain⟨n,rfl⟩:=gO h0
 match n,(show n<7 by omega) with
 |0,_=>exact⟨0,cq rfl,by decide,by decide⟩
 |1,_=>exact⟨1,cq rfl,by decide,by decide⟩
 |2,_=>exact⟨1,cq rfl,by decide,by decide⟩
 |3,_=>exact⟨2,cq rfl,by decide,by decide⟩
 |4,_=>exact⟨2,cq rfl,by decide,by decide⟩
 |5,_=>exact⟨3,cq rfl,by decide,by decide⟩
 |6,_=>exact⟨4,cq rfl,by decide,by decide⟩
theorem two_at{d a b:Int}(h0:0<=d)(h1:d<2)(c:0<=a/\a<m)(e:0<=b/\b<m):∃v:Int,cW [V.int a,.int b] d=ih (.int v)/\0<=v/\v<m:=by
 obtain⟨n,rfl⟩:=gO h0
 match n,(show n<2 by omega) with
 |0,_=>exact⟨a,cq rfl,c⟩
 |1,_=>exact⟨b,cq rfl,e⟩
inductive qk(vs:List V)(H:Hp)(Q:VK)(E:XK):Prop
 |mk{p n:EZ}{ys:List Fv}(_:vs=[.ref p,.ref n])(_:c9 p H)(_:p≠n)(_:H n=ih (.lst (ys.map V.str)))(_:ys.length<=20)(_:∀(l:EZ) (own rest:List Fv) (H':Hp),H l=none->(own++rest).Perm ys->own.length<=4->br p H H'->H' l=ih (.lst (own.map V.str))->Q (.ref l) H'):qk vs H Q E
abbrev OG:List Fv:=["_law_pot_here","_law_made","_law_left","_law_own","_law_turn","_law_at"]
theorem n4:bf OG ["_law_pot_here","_law_made"] (aI sG):=bz
theorem L'{W:X2}(F:aQ K "_law_parents" "_law_parents" sG f fd)(B:df mg)(D:aQ K "_law_digit" "_law_digit" nP fD W)(za:Binds K W ["_law_pot_here","_law_many"] [])(xb:mg "_law_digit" = ih (.ref fD)) :
  aT P w K mg base aG 2 f fd ["_law_pot_here","_law_made"] qk:=by
 have yb:aT P w K mg base aG 1 fD W ["_law_pot_here","_law_many"] hC:=sX D;refine F.bG n4 λQa A outer s H vs Q E xi h=>?_
 ·obtain @⟨p,n,ys,rfl,zb,yk,yi,xk,q⟩:=h
  have Z:aZ 1 _:=xi;intro X;refine⟨_,au (aY 2 n4.nd (dq kb rfl B.list boot_list (aa (pv 1) ah)))
   (au (aY 3 n4.nd (ej ah))
   (au (eG d5 rfl (h6 rfl B.range (aa (bT (AN rfl) rfl B.min boot_min (aa (bT eM rfl B.len ez (aa (pv 2) ah))
     (aa (aU dw (ej (aa ar (aa ar (aa ar (aa ar (aa ar (aa ar (aa ar ah)))))))) (fM yb Z rfl xb D.kp za .nil cV (aa (pv 0) (aa ar ah)))) ah))) ah)) (bb 4 n4.nd)
    (au (aY 5 n4.nd (aU dw (ej (aa (fM yb Z rfl xb D.kp za .nil cV (aa (pv 0) (aa (bT eM rfl B.len ez (aa (pv 2) ah)) ah)))
      (aa (bx kD (bT eM rfl B.len ez (aa (pv 2) ah)) ar) ah))) (fM yb Z rfl xb D.kp za .nil cV (aa (pv 0) (aa ar ah)))))
    (aA (eF (gc hg mX mY ju (pv 3)
     (aa (gc hg FV FW BC (pv 2) (aa (pv 5) ah)) ah))))))
   (aA (aX (pv 3))))),?_⟩
  refine⟨_,rfl,n,_,rfl,.inl (aj.of yi),λg u=>?_⟩;refine⟨bB _,λj xa=>?_⟩;have x:p≠g:=zb.ne u;have ya:g≠j:=ax af xa;have S:H j=none:=(aJ u).free xa;have y:p≠j:=zb.ne S;have xc:br p H (upd (upd H g (.lst (ys.map V.str))) j (.lst [])):=((br.refl zb).new u).new xa;have t:(upd (upd H g (.lst (ys.map V.str))) j (.lst [])) g=bd (ys.map V.str):=by rw[ag ya];exact af
  have T:(upd (upd H g (.lst (ys.map V.str))) j (.lst [])) j=bd []:=af;generalize upd (upd H g (.lst (ys.map V.str))) j (.lst [])=H0 at xc t T⊢;refine⟨_,rfl,g,_,rfl,.inl (aj.of t),?_⟩;refine⟨by show 7<=UB;rw[aV];decide,λc G=>?_⟩
  have xf:=xc.new (o:=.lst [V.int 0,.int 1,.int 1,.int 2,.int 2,.int 3,.int 4]) G;refine⟨_,rfl,cT (p:=p) (m:=7) xf.ok (by decide) (by decide) λd Y yc I z=>?_⟩
  have zh:p≠c:=xc.ok.ne G;obtain⟨v,zc,yf,J⟩:=M8 yc I;refine⟨c,_,d,.int v,rfl,rfl,aj.of (z.kp _ _ af (aS zh)),zc,?_⟩;have zi:=xf.trans z;have l:Y g=bd (ys.map V.str):=z.kp _ _ (by rw[ag (ax t G)];exact t) (aS x)
  have r:Y j=bd []:=z.kp _ _ (by rw[ag (ax T G)];exact T) (aS y)
  refine⟨_,v,rfl,?_⟩;rw[aB];obtain⟨N,xj,zk,xl⟩:∃N:Nat,(if v<(ys.length:Int) then v else (ys.length:Int))=N/\N<=4/\N<=ys.length:=by
   split
   ·exact⟨v.toNat,by omega,by omega,by omega⟩
   ·exact⟨ys.length,rfl,by omega,aP _⟩
  rw[xj];refine⟨(N:Int),rfl,by omega,by omega,kj (λi σ Y=>∃(zs k:ac Fv) (J xd:ad V),σ=[am p,am n,am g,am j,J,xd]/\zs.length=i/\(zs++k).Perm ys/\br p H Y/\Y g=bd (k.map V.str)/\Y j=bd (zs.map V.str))
   ⟨[],ys,none,none,rfl,rfl,j9 _,zi,l,r⟩ ?_ ?_⟩
  ·rintro i σ Y hi ⟨zs,k,J,xd,rfl,zf,L,M,l,r⟩
   have zg:=L.length_eq;rw[bV]at zg;refine⟨_,rfl,_,rfl,g,_,rfl,.inl (aj.of l),?_⟩;refine cT (p:=p) M.ok (by rw[aB];omega) (by rw[aB];omega) λd H2 yc I O=>?_
   have U:=O.kp _ _ l (aS x);have zd:=O.kp _ _ r (aS y);rw[aB]at I;refine⟨_,rfl,g,_,rfl,.inl (aj.of U),_,1,rfl,rfl,?_⟩;rw[aB];refine⟨bQ,λxg C=>?_⟩;have ze:=(M.trans O).new (o:=.lst [V.int d,.int ((k.length:Int) - 1)]) C;have xh:p≠xg:=O.ok.ne C;refine⟨_,rfl,cT (p:=p) (m:=2) ze.ok (by decide) (by decide) λe yd e0 e1 R=>?_⟩
   obtain⟨v,zc,yf,yj⟩:=two_at (a:=d) (b:=(k.length:Int) - 1) (m:=(k.length:Int)) e0 e1 ⟨yc,I⟩ ⟨by omega,by omega⟩
   have xe:yd g=bd (k.map V.str):=R.kp _ _ (by rw[ag (ax U C)];exact U) (aS x)
   have ye:yd j=bd (zs.map V.str):=R.kp _ _ (by rw[ag (ax zd C)];exact zd) (aS y)
   have zj:=ze.trans R;refine⟨xg,_,e,.int v,rfl,rfl,aj.of (R.kp _ _ af (aS xh)),zc,?_⟩;have yg:v.toNat<k.length:=by omega
   refine⟨_,rfl,.inl ⟨rfl,_,aj.of ye⟩,_,rfl,.inl ⟨rfl,_,aj.of xe⟩,_,rfl,?_⟩;refine⟨g,_,v,v.toNat,.str k[v.toNat],rfl,rfl,xe,by omega,by omega,vW yf (by rw[aB];exact yj),by rw[cI,bw yg];rfl,?_⟩
   have yh:(upd yd g (.lst ((k.map V.str).eraseIdx v.toNat))) j=bd (zs.map V.str):=by rw[ag (aS ya)];exact ye
   refine⟨j,_,_,rfl,rfl,yh,by rw[aB,aV];omega,?_⟩
   refine⟨zs++[k[v.toNat]],k.eraseIdx v.toNat,_,_,rfl,by rw[bV];simp[zf],?_,(zj.write u x).write S y,?_,?_⟩
   ·refine acB ?_ L
    rw[mS];exact U8 zs (Ay k _ yg)
   ·rw[ag ya,af,Bp]
   ·rw[af,a8];rfl
  ·rintro σ Y ⟨zs,k,J,xd,rfl,zf,L,M,l,r⟩
   exact⟨_,rfl,q j zs k Y S L (by omega) M r⟩
end ew
namespace ew
open L2 HT
def kept(rows:List (List Fv))(o:List Fv):Bool:=rows.all λr=>decide ((o.filter λn=>decide (n∈r))=r)
theorem sv{all:ac (List Fv)}{n:Fv}:∀{rest:ac (List Fv)},hj all rest=ih n->dM 0 all n=none /\∃(i:Nat) (r:ac Fv),rest[i]?=ih r/\r.head?=ih n /\∀(j:Nat) (q:ac Fv) (y:Fv),rest[j]?=ih q->q.head?=ih y->dM 0 all y=none->i<=j
 |[],h=>by cases h
 |[]::rest,h=>by
  obtain⟨h1,i,r,e1,e2,e3⟩:=sv (rest:=rest) h;refine⟨h1,i+1,r,by simpa using e1,e2,λj q y a b d=>?_⟩
  cases j with
  |zero =>
   obtain rfl : []=q:=by simpa using a
   simp at b
  |succ j=>have:=e3 j q y (by simpa using a) b d;omega
 |(x::t)::rest,h=>by
  have h:(if (dM 0 all x).isNone then ih x else hj all rest)=ih n:=h
  by_cases c:(dM 0 all x).isNone=true
  ·rw[aE c]at h
   cases h
   exact⟨by simpa using c,0,_,rfl,rfl,λ_ _ _ _ _ _=>bB _⟩
  ·rw[ao c]at h
   obtain⟨h1,i,r,e1,e2,e3⟩:=sv (rest:=rest) h;refine⟨h1,i+1,r,by simpa using e1,e2,λj q y a b d=>?_⟩
   cases j with
   |zero =>
    obtain rfl:x::t=q:=by simpa using a
    obtain rfl:x=y:=by simpa using b
    exact absurd (by rw[d];rfl) c
   |succ j=>have:=e3 j q y (by simpa using a) b d;omega
def K7(rest:List (List Fv))(q:List Fv):Prop:=q.Nodup /\∀x,x∈q ↔ ∃r∈rest,x∈r
theorem sY{q:ac Fv}:kept rest q=true ↔ ∀r∈rest,(q.filter λn=>decide (n∈r))=r:=by
 unfold kept;rw[mT];simp
theorem Ac:(∃r∈L2.without n rest,x∈r) ↔ x≠n /\∃r∈rest,x∈r:=by
 constructor
 ·rintro⟨r,c,a⟩
  obtain⟨q,b,rfl⟩:=a4.mp c;have:=fc.mp a;exact⟨by simpa using this.2,q,b,this.1⟩
 ·rintro⟨h,q,b,a⟩
  exact⟨_,a4.mpr ⟨q,b,rfl⟩,fc.mpr ⟨a,by simpa using h⟩⟩
theorem K8:(rest.any λr=>!r.isEmpty)=true ↔ ∃r∈rest,∃x,x∈r:=by
 rw[lu]
 constructor
 ·rintro⟨r,a,e⟩
  cases r with
  |nil=>simp at e
  |cons x t=>exact⟨_,a,x,aW⟩
 ·rintro⟨r,a,x,b⟩
  refine⟨r,a,?_⟩;cases r with
  |nil=>simp at b
  |cons y t=>rfl
theorem sound:∀(m:Nat) (rest:ac (List Fv)),total rest=m->(∀r∈rest,r.Nodup) ->∀o,cw (total rest) rest=ih o->K7 rest o/\kept rest o=true:=by
 intro m
 induction m using Zz with
 |_ m u =>
  intro rest D j o b;cases d:rest.any λr=>!r.isEmpty with
  |false =>
   rw[so d]at b;cases b
   have k:∀r∈rest,∀x,x ∉ r:=λr a x g=>by
    have:=K8.mpr ⟨r,a,x,g⟩;rw[d]at this;cases this
   refine⟨⟨e4,λx=>⟨λh=>by simp at h,λ⟨r,a,g⟩=>absurd g (k r a x)⟩⟩,sY.mpr λr a=>?_⟩
   cases r with
   |nil=>rfl
   |cons y t=>exact absurd aW (k _ a y)
  |true =>
   cases e:ff rest with
   |none=>rw[sq d e]at b;cases b
   |some n =>
    rw[sr d e]at b;obtain⟨o',s,rfl⟩:=gu.mp b;have lt:=lD (lM e);obtain⟨⟨h1,h2⟩,q⟩:=u _ (by omega) (L2.without n rest) rfl (Aw j) o' s
    rw[sY]at q;have l:n ∉ o':=λz=>((Ac.mp ((h2 n).mp z)).1 rfl);obtain⟨i,_⟩:=sv e;rw[ph]at i;refine⟨⟨d4.mpr ⟨l,h1⟩,λx=>?_⟩,sY.mpr λr a=>?_⟩
    ·rw[bH,h2,Ac]
     constructor
     ·rintro(rfl|h)
      ·exact lM e
      ·exact h.2
     ·intro h
      by_cases z:x=n
      ·exact .inl z
      ·exact .inr ⟨z,h⟩
    ·have p:=q _ (a4.mpr ⟨r,a,rfl⟩)
     have same:(o'.filter λy=>decide (y∈r))=o'.filter λy=>decide (y∈r.filter λy=>!decide (y=n)):=by
      apply List.filter_congr
      intro y c;have:y≠n:=λz=>l (z ▸ c);simp[this]
     by_cases f:n∈r
     ·have v:=i r a f
      cases r with
      |nil=>simp at f
      |cons z t =>
       obtain rfl:z=n:=by simpa using v
       have A:z ∉ t:=(d4.mp (j _ a)).1;have B:((z::t).filter λy=>!decide (y=z))=t:=by
        rw[rX (by simp)]
        exact Vy.mpr λy c=>by
         have:y≠z:=λw=>A (w ▸ c)
         simpa using this
       rw[oS (by simp),same,p,B]
     ·have C:(r.filter λy=>!decide (y=n))=r:=Vy.mpr λy c=>by
       have:y≠n:=λw=>f (w ▸ c)
       simpa using this
      rw[rX (by simpa using f),same,p,C]
end ew
namespace ew
open L2 W HT
theorem len_sub{a b:ac Fv}(c:a.Nodup)(h:∀x∈a,x∈b):a.length<=b.length:=L6 c h
structure Fm(done:List Fv)(L Ps:Fv->List Fv):Prop where
 ps:∀x∈done,(Ps x).Nodup/\(Ps x).length<=4 /\∀y∈Ps x,y∈done
 ln:∀x∈done,∃o,cw (total (rowsOf L (Ps x))) (rowsOf L (Ps x))=ih o/\L x=x::o
 ld:∀x∈done,(L x).Nodup /\∀y∈L x,y∈done
theorem Az{own:ac Fv}:r∈rowsOf L own ↔ (∃y∈own,r=L y)\/r=own:=by
 unfold rowsOf;rw[bI,a4,bL]
 constructor
 ·rintro(⟨y,h,rfl⟩|h)
  ·exact .inl ⟨y,h,rfl⟩
  ·exact .inr h
 ·rintro(⟨y,h,rfl⟩|h)
  ·exact .inl ⟨y,h,rfl⟩
  ·exact .inr h
theorem Fm.l'{done:ac Fv}(F:Fm done L Ps){own:ac Fv}(a:own.Nodup)(sub:∀y∈own,y∈done):∀r∈rowsOf L own,r.Nodup /\∀y∈r,y∈done:=λr b=>by
 rcases Az.mp b with⟨y,c,rfl⟩|rfl
 ·exact F.ld y (sub y c)
 ·exact⟨a,sub⟩
theorem Fm.small{done:ac Fv}(F:Fm done L Ps)(c:∀x∈done,Nm x)(e:done.length<=8){own:ac Fv}(b:own.Nodup)(f:own.length<=4)(sub:∀y∈own,y∈done):Small (rowsOf L own):=by
 refine⟨?_,λr a=>?_,λr a y d=>?_⟩
 ·unfold rowsOf;rw[bV,aB,jl];omega
 ·obtain⟨h1,h2⟩:=F.l' b sub r a
  have:=len_sub h1 h2;omega
 ·exact c y ((F.l' b sub r a).2 y d)
theorem Fm.order{done:ac Fv}(F:Fm done L Ps){own o:ac Fv}(c:own.Nodup)(sub:∀y∈own,y∈done)(d:cw (total (rowsOf L own)) (rowsOf L own)=ih o):o.Nodup/\(∀y∈o,y∈done) /\∀r∈rowsOf L own,∀y∈r,y∈o:=by
 obtain⟨⟨h1,h2⟩,_⟩:=sound _ _ rfl (λr a=>(F.l' c sub r a).1) o d;refine⟨h1,λy b=>?_,λr a y b=>(h2 y).mpr ⟨r,a,b⟩⟩;obtain⟨r,a,h⟩:=(h2 y).mp b;exact(F.l' c sub r a).2 y h
theorem HG{a:Fv->List Fv}{own:ac Fv}(h:∀y∈own,a y=L y):rowsOf a own=rowsOf L own:=by
 unfold rowsOf;rw[mV h]
theorem Fm.add{done:ac Fv}(F:Fm done L Ps){k:Fv}{own o:ac Fv}(i:k ∉ done)(j:own.Nodup)(n:own.length<=4)(sub:∀y∈own,y∈done)(l:cw (total (rowsOf L own)) (rowsOf L own)=ih o) :
  Fm (done++[k]) (λx=>if x=k then k::o else L x) (λx=>if x=k then own else Ps x):=by
 have p:∀{y},y∈done->y≠k:=λh z=>i (z ▸ h);have ext:∀{ps:ac Fv},(∀y∈ps,y∈done)->rowsOf (λx=>if x=k then k::o else L x) ps=rowsOf L ps:=λh=>HG λy d=>ao (p (h y d));obtain⟨q,m,_⟩:=F.order j sub l;refine⟨λx f=>?_,λx f=>?_,λx f=>?_⟩
 ·by_cases e:x=k
  ·rw[aE e];exact⟨j,n,λy d=>fA _ (sub y d)⟩
  ·rw[ao e]
   obtain⟨a,b,c⟩:=F.ps x (by rcases bI.mp f with z|z;exact z;exact absurd (by simpa using z) e)
   exact⟨a,b,λy d=>fA _ (c y d)⟩
 ·by_cases e:x=k
  ·refine⟨o,?_,by rw[aE e,e]⟩
   rw[aE e,ext sub];exact l
  ·have g:x∈done:=by rcases bI.mp f with z|z;exact z;exact absurd (by simpa using z) e
   obtain⟨o',h1,h2⟩:=F.ln x g;refine⟨o',?_,by rw[ao e];exact h2⟩
   rw[ao e,ext (F.ps x g).2.2];exact h1
 ·by_cases e:x=k
  ·rw[aE e]
   refine⟨d4.mpr ⟨λz=>i (m k z),q⟩,λy d=>?_⟩;rcases bH.mp d with z|z
   ·rw[z];exact c4 _ aW
   ·exact fA _ (m y z)
  ·rw[ao e]
   have g:x∈done:=by rcases bI.mp f with z|z;exact z;exact absurd (by simpa using z) e
   obtain⟨a,b⟩:=F.ld x g;exact⟨a,λy d=>fA _ (b y d)⟩
def gA(Ps:Fv->List Fv)(ks:List Fv):List (Fv×List Fv):=ks.map λx=>(x,Ps x)
theorem AA(Ps:Fv->List Fv)(ks:ac Fv):(gA Ps ks).map (·.1)=ks:=by
 unfold gA;rw[c5];exact List.map_id' _
theorem Fm.M9(F:Fm ks L Ps)(i:ks.Nodup)(g:∀x∈ks,Nm x)(h:ks.length<=8):jJ (gA Ps ks) L:=by
 have d:∀{p:Fv×List Fv},p∈gA Ps ks->p.1∈ks/\p.2=Ps p.1:=λ{p} a=>by
  obtain⟨x,b,rfl⟩:=a4.mp a;exact⟨b,rfl⟩
 refine⟨by rw[AA];exact i,by unfold gA;rw[aB];exact h,λp a=>g _ (d a).1,λp a x b=>?_,⟨λx=>(L x).length,λp a x b=>?_⟩,λp a=>?_⟩
 ·obtain⟨h1,h2⟩:=d a
  rw[h2]at b;exact⟨(x,Ps x),a4.mpr ⟨x,(F.ps _ h1).2.2 x b,rfl⟩,rfl⟩
 ·obtain⟨h1,h2⟩:=d a
  rw[h2]at b;obtain⟨o,e,f⟩:=F.ln _ h1;obtain⟨n1,_,c⟩:=F.ps _ h1;obtain⟨_,_,j⟩:=F.order n1 c e;have:=len_sub (F.ld x (c x b)).1 λy k=>j (L x) (Az.mpr (.inl ⟨x,b,rfl⟩)) y k;show(L x).length<(L p.1).length;rw[f,cS];omega
 ·obtain⟨h1,h2⟩:=d a
  rw[h2];obtain⟨o,e,f⟩:=F.ln _ h1;obtain⟨n1,l,c⟩:=F.ps _ h1;obtain⟨m,n,_⟩:=F.order n1 c e;exact⟨F.small g h n1 l c,o,e,f,by have:=len_sub m n;omega⟩
theorem JK(xs:ac Fv):fw (xs.map V.str) none (ih (-1))=xs.dropLast.map V.str:=by
 unfold fw;have e1:HT.bo (xs.map V.str).length 0 none=0:=rfl;have e2:HT.bo (xs.map V.str).length (xs.map V.str).length (ih (-1))=xs.length - 1:=by
  rw[aB];unfold HT.bo;simp;omega
 rw[e1,e2,wu,Fo,<-aaW,List.dropLast_eq_take]
theorem fJ{xs:ac Fv}(h:c9 p H)(e:H a=bd (xs.map V.str)):a≠p:=by
 rintro rfl;obtain⟨x,y,e2,_⟩:=h;rw[e]at e2;have e3:xs.map V.str=[.int x,.int y]:=HO.lst.inj (cG e2);cases xs with
 |nil=>cases e3
 |cons z t=>cases e3
theorem ec.dY(h:ec H kvs L x)(ok:c9 p H)(s:br p H H'):ec H' kvs L x:=let ⟨a,e,q⟩:=h;⟨a,e,s.kp _ _ q (fJ ok q)⟩
theorem ec.write{b:ac (Key×V)}{u:HO}(h:ec H kvs L x)(c:H d=bn b)(e:H'=upd H d u):ec H' kvs L x:=let ⟨a,e1,q⟩:=h;⟨a,e1,by rw[e,ag (aq q c)];exact q⟩
theorem kz(ok:c9 p H)(s:br p H H')(e:H d=bn kvs):H' d=bn kvs:=by
 obtain⟨x,y,ep,_⟩:=ok;exact s.kp _ _ e (aq e ep)
theorem pE(h:c9 p H)(s:aw H H'):br p H H':=by
 obtain⟨x,y,e,r⟩:=h;exact⟨⟨x,y,s _ _ e,r⟩,λb o e _=>s b o e⟩
theorem CL{k:Fv}{l:ac Fv}(c:H d=bn kvs)(f:H a=bd (l.map V.str))(h:x≠k->ec H kvs L x) :
  ec (upd H d (.dK (putK kvs (n' k) (.ref a)))) (putK kvs (n' k) (.ref a)) (λx=>if x=k then l else L x) x:=by
 unfold ec;rw[kr]
 by_cases e:x=k
 ·subst e
  refine⟨a,by rw[aE rfl],?_⟩
  rw[ag (aq f c)];show H a=bd ((if x=x then l else L x).map V.str);rw[aE rfl];exact f
 ·obtain⟨b,e1,e2⟩:=h e
  refine⟨b,by rw[ao (λz=>e (gq z))];exact e1,?_⟩
  rw[ag (aq e2 c)];show H b=bd ((if x=k then l else L x).map V.str);rw[ao e];exact e2
theorem B5{done:ac Fv}{k:Fv}(h:kvs.map (·.1)=done.map n')(c:k ∉ done):(putK kvs (n' k) v).map (·.1)=(done++[k]).map n':=by
 have d:a' kvs (n' k)=none:=by
  have:(a' kvs (n' k)).isSome=false:=by
   rw[<-jy,vS];intro a b f;have e:a.1=n' k:=dJ f;have:a.1∈kvs.map (·.1):=a4.mpr ⟨a,b,rfl⟩;rw[h,e]at this;obtain⟨y,g,i⟩:=a4.mp this;exact c (gq i ▸ g)
  cases e:a' kvs (n' k) with
  |none=>rfl
  |some _=>rw[e]at this;cases this
 rw[iN _ d,a8,a8,h];rfl
abbrev D5:List Fv:=["_law_pot_here","_law_kinds","_law_lines","_law_parents_here","_law_kind","_law_own","_law_turn","_law_family_here"]
theorem jK:bf D5 ["_law_pot_here","_law_kinds"] (aI nA):=bz
abbrev OH:Vp:=gj (gj (e8 (bR (bE nA) 2)))
theorem c'.keyed(h:c' H vs Qc):∃kvs,ig H 1 vs kvs/\kvs.map (·.1)=(Qc.map (·.1)).map λx=>[x]:=by
 induction h with
 |nil=>exact⟨[],.nil,rfl⟩
 |@cons _ p _ _ h _ c =>
  obtain⟨a,b,e,q,r⟩:=h;obtain⟨kvs,h1,h2⟩:=c;exact⟨([p.1],[.ref b])::kvs,.cons ⟨a,e,q,rfl⟩ h1,by rw[b2,h2];rfl⟩
structure OI(p:EZ)(H:Hp)(ks:List Fv)(r t d1:EZ)(o:Yy)(ws:List V)(jO:List (Key×V))(L Ps:Fv->List Fv)(Qc:List (Fv×List Fv))(H':Hp):Prop where
 hr:H' r=ih (.tup [.ref t,.ref d1])
 ht:H' t=ih (.bu o (.tup ws))
 od:o.dict=none
 fv:c' H' ws Qc
 pm:Qc.Perm (gA Ps ks)
 fm:Fm ks L Ps
 h1:H' d1=ih (.dK jO)
 k1:jO.map (·.1)=ks.map n'
 l1:∀x∈ks,ec H' jO L x
 pa:br p H H'
 n1:H d1=none
inductive qI(vs:List V)(H:Hp)(Q:VK)(E:XK):Prop
 |mk{p n:EZ}{ks:List Fv}(_:vs=[.ref p,.ref n])(_:c9 p H)(_:H n=ih (.lst (ks.map V.str)))(_:ks.Nodup)(_:(∀x∈ks,Nm x))(_:ks.length<=8)(_:∀r t d1 o ws jO L Ps Qc H',OI p H ks r t d1 o ws jO L Ps Qc H'->Q (.ref r) H'):qI vs H Q E
theorem Dt:b6 D5 (aI nA) ["_law_kind","_law_parents_here"] [none,ih 3] (cB OH):=c8
theorem M'{zm:EZ}{yt:X2}(F:aQ K "_law_family" "_law_family" nA f fd)(B:df mg)(yC:hO mg)
  (zC:aT P w K mg base aG 2 zm yt ["_law_pot_here","_law_made"] qk) (xD:Yr K (.ref zm)=true) (yD:Binds K yt ["_law_pot_here","_law_made"] []) (zD:mg "_law_parents" = ih (.ref zm))
  (zt:aT P w K mg base aG 2 fL dL ["_law_lines","_law_kind","_law_own"] oe) (xu:Yr K (.ref fL)=true) (yu:Binds K dL ["_law_lines","_law_kind","_law_own"] []) (zu:mg "_law_line" = ih (.ref fL)) :
  aT P w K mg base aG 3 f fd ["_law_pot_here","_law_kinds"] qI:=by
 refine F.bG jK λQa A outer s H vs Q E I h=>?_
 ·obtain @⟨p,n,ks,rfl,ye,ze,xi,zx,yL,q⟩:=h
  have xE:=I.units;have yi:=Vk (Nat.add_le_add_left (show 1<=64 by decide) _) xE
  intro X;refine⟨_,au (iT (b7 (aa lS (aa lS ah))) (ib rfl (cZ (bb 2 jK.nd) (cZ (pK (i:=3) jK.nd rfl (YN rfl)) gw))))
   (au (eG d5 rfl (c6 (pv 1)) (bb 4 jK.nd)
    (au (aY 5 jK.nd (fM zC I rfl zD xD yD .nil cV (aa (pv 0) (aa (dq (sg rfl) rfl B.list boot_list (aa (pv 2) ah)) ah))))
    (au (eG d5 rfl (h6 rfl B.range (aa ar ah)) (bb 6 jK.nd)
     (aA (bh (bp gy (fM zt I rfl zu xu yu .nil cV (aa (pv 2) (aa (pv 4) (aa (pv 5) ah)))) dQ (bA _))
      (aA (aY 5 jK.nd (iK lY (pv 5) iQ (ia (uo t4 ar))))) bD)))
    (au (gx yi (pv 2) (pv 4) (fM zt I rfl zu xu yu .nil cV (aa (pv 2) (aa (pv 4) (aa (pv 5) ah)))) rfl)
    (aA (gx yi (pv 3) (pv 4) (pv 5) rfl))))))
   (au (aY 7 jK.nd (dq F8 rfl B.tuple boot_tuple (aa (bT r8 rfl yC.sorted boot_sorted (aa (dZ rfl Dt (c6 (pv 1)) (λs H fp=>⟨bb 0 Dt.nd,ei,
     b7 (aa (pv 0) (aa (dq (w6 K rfl) rfl B.tuple boot_tuple (aa (d0 yi (pv 1) (pv 0)) ah)) ah))⟩)) ah)) ah)))
   (aA (aX (b7 (aa (pv 7) (aa (pv 2) ah))))))),?_⟩
  intro g yb m zi;have yE:aw H (upd (upd H g (.dK [])) m (.dK [])):=(aJ yb).trans (aJ zi);have xj:g≠m:=ax af zi;have zp:H m=none:=(aJ yb).free zi;refine⟨by show 2<=UB;rw[aV];decide,λtp yj=>?_⟩
  have xv:(upd (upd H g (.dK [])) m (.dK [])) g=bn []:=by rw[ag xj];exact af
  have yv:=yE.trans (aJ (o:=.tup [V.ref g,.ref m]) yj);have xq:upd (upd (upd H g (.dK [])) m (.dK [])) tp (.tup [V.ref g,.ref m]) g=bn []:=by rw[ag (ax xv yj)];exact xv
  have yq:upd (upd (upd H g (.dK [])) m (.dK [])) tp (.tup [V.ref g,.ref m]) m=bn []:=by rw[ag (ax af yj)];exact af
  refine⟨tp,_,rfl,ay.of af,rfl,_,_,rfl,_,_,rfl,rfl,?_⟩;generalize upd (upd (upd H g (.dK [])) m (.dK [])) tp (.tup [V.ref g,.ref m])=H0 at yv xq yq⊢;have zv:br p H H0:=pE ye yv;have xy:p≠g:=ye.ne yb;have yy:p≠m:=ye.ne zp;have zj:n≠p:=fJ ye ze;refine⟨_,rfl,n,rfl,⟨_,aj.of (zv.kp _ _ ze zj)⟩,h8 (xs:=ks.map V.str) (λi σ Y=>∃(v O:ac (Key×V)) (L Ps:Fv->List Fv) (xn yn U:ad V),σ=[am p,am n,am g,am m,xn,yn,U,none]/\br p H Y /\
   Y g=bn v/\Y m=bn O/\v.map (·.1)=(ks.take i).map n'/\O.map (·.1)=(ks.take i).map n'/\(∀x∈ks.take i,ec Y v L x)/\(∀x∈ks.take i,ec Y O Ps x)/\Fm (ks.take i) L Ps)
   ⟨[],[],λ_=>[],λ_=>[],none,none,none,rfl,zv,xq,yq,rfl,rfl,λx d=>(by cases d),λx d=>(by cases d),⟨λx d=>(by cases d),λx d=>(by cases d),λx d=>(by cases d)⟩⟩ (λi σ Y _ ab=>by obtain⟨_,_,_,_,_,_,_,_,z,_⟩:=ab;exact aj.of (z.kp _ _ ze zj)) ?_ ?_⟩
  ·rintro i x σ Y d ⟨v,O,L,Ps,xn,yn,U,rfl,ya,yd,xk,e1,e2,xf,yf,S⟩
   obtain⟨zb,rfl⟩:=jz d;have R:ks.take (i+1)=ks.take i++[ks[i]]:=by rw[dH,bw zb];rfl
   have yh:ks[i]∉ ks.take i:=by
    have:(ks.take (i+1)).Nodup:=xi.sublist (ji _ _);rw[R]at this;exact λz=>(di.mp this).2.2 _ z _ aW rfl
   have zy:(ks.take i).Nodup:=xi.sublist (ji _ _);have zq:∀x∈ks.take i,Nm x:=λx d=>zx x (oT d);have xw:(ks.take i).length<=8:=by rw[cH];omega
   have xJ:v.length=(ks.take i).length:=by have:=c3 Y2 e1;simpa using this
   have yJ:O.length=(ks.take i).length:=by have:=c3 Y2 e2;simpa using this
   refine⟨_,rfl,_,rfl,g,v,rfl,yd,λl zn=>?_⟩;have zE:v.map (λxo=>kV xo.1)=(ks.take i).map V.str:=by
    have:v.map (λxo=>kV xo.1)=(v.map (·.1)).map kV:=by rw[c5];rfl
    rw[this,e1,c5];rfl
   rw[zE];have za:=ya.new (o:=.lst ((ks.take i).map V.str)) zn;have zf:=aJ (o:=.lst ((ks.take i).map V.str)) zn;refine qk.mk rfl za.ok (ya.ok.ne zn) af (by omega) λM own rest yo xr xa J zc zo=>?_
   have yw:=za.trans zc;have G:own.Nodup:=(di.mp (xa.nodup_iff.mpr zy)).1;have C:∀y∈own,y∈ks.take i:=λy xp=>xa.mem_iff.mp (fA _ xp);have yk:=kz za.ok zc (zf _ _ yd);have xz:=kz za.ok zc (zf _ _ xk);have zk:∀x∈ks.take i,ec yo v L x:=λx d=>((xf x d).same zf).dY za.ok zc;have yz:∀x∈ks.take i,ec yo O Ps x:=λx d=>((yf x d).same zf).dY za.ok zc;refine⟨5,rfl,by decide,by decide,kj (λj σ xg=>∃(M:EZ) (own:ac Fv) (U:ad V),σ=[am p,am n,am g,am m,ih (.str ks[i]),am M,U,none]/\aw yo xg/\xg M=bd (own.map V.str)/\own.Nodup/\(∀y∈own,y∈ks.take i)/\own.length<=4/\(cw (total (rowsOf L own)) (rowsOf L own)≠none\/own.length+j<=4))
    ⟨M,own,_,rfl,aw.refl _,zo,G,C,J,.inr J⟩ ?_ ?_⟩
   ·clear xa J G C zo xr
    rintro j σ xg zL ⟨M,own,U,rfl,T,W,G,C,J,xl⟩;have yl:=S.small zq xw G J C;have zl:=λr I=>(S.l' G C r I).1;refine⟨_,rfl,_,rfl,_,rfl,oe.mk rfl (T _ _ yk) W (λx d=>(zk x (C x d)).same T) yl zl (λe xb N=>?_) (λo e xd xb zz N zw=>?_)⟩
    ·refine⟨rfl,_,rfl,?_⟩
     refine⟨_,rfl,?_⟩;have xA:own ≠ []:=λz=>by rw[z]at e;cases e
     have yI:0<own.length:=lC.mpr xA;refine⟨1,rfl,_,rfl,M,_,rfl,aj.of (N _ _ W),λc yg=>?_⟩;refine⟨c,own.dropLast,_,rfl,(T.trans N).trans (aJ yg),?_,G.sublist (List.dropLast_sublist _),λy xp=>C y (List.dropLast_subset _ xp),by rw[Fb];omega,.inr ?_⟩
     ·have:=JK own
      rw[af];exact c3 ih (c3 HO.lst this)
     ·rcases xl with z|z
      ·exact absurd e z
      ·rw[Fb];omega
    ·refine⟨rfl,_,rfl,?_⟩
     exact⟨M,own,_,rfl,T.trans N,N _ _ W,G,C,J,.inl (by rw[e];exact Option.some_ne_none _)⟩
   ·clear xa J G C zo xr
    rintro σ xg ⟨M,own,U,rfl,T,W,G,C,J,xl⟩;have yl:=S.small zq xw G J C;have zl:=λr I=>(S.l' G C r I).1;have yA:cw (total (rowsOf L own)) (rowsOf L own)≠none:=by
     rcases xl with z|z
     ·exact z
     ·exact absurd z (by show ¬ (own.length+YK 5<=4);have:YK 5=5:=rfl;omega)
    refine⟨_,rfl,_,rfl,_,rfl,oe.mk rfl (T _ _ yk) W (λx d=>(zk x (C x d)).same T) yl zl (λe=>absurd e yA) (λo e xd xb zz N zw=>?_)⟩;have xc:=T.trans N;have zd:=xc _ _ yk;have zA:=xc _ _ xz;refine⟨_,rfl,_,rfl,g,_,rfl,eR.k (k:=n' ks[i]) zd (by rw[aV];omega),?_⟩
    have xm:upd xb g (.dK (putK v (n' ks[i]) (.ref xd))) m=bn O:=by rw[ag (aS xj)];exact zA
    refine⟨_,rfl,_,rfl,_,rfl,m,_,rfl,eR.k (k:=n' ks[i]) xm (by rw[aV];omega),?_⟩
    have xF:br p H xb:=yw.trans (pE yw.ok xc);have xB:∀x∈ks.take (i+1),ec (upd xb g (.dK (putK v (n' ks[i]) (.ref xd)))) (putK v (n' ks[i]) (.ref xd)) (λx=>if x=ks[i] then ks[i]::o else L x) x:=λx d=>CL zd zw λne=>(zk x (by
     rw[R]at d;rcases bI.mp d with z|z
     ·exact z
     ·exact absurd (by simpa using z) ne)).same xc
    have yB:upd xb g (.dK (putK v (n' ks[i]) (.ref xd))) M=bd (own.map V.str):=by rw[ag (aq (N _ _ W) zd)];exact N _ _ W
    refine⟨_,_,_,_,_,_,_,rfl,(xF.write yb xy).write zp yy,by rw[ag xj];exact af,af,by rw[R];exact B5 e1 yh,by rw[R];exact B5 e2 yh,λx d=>(xB x d).write xm rfl,λx d=>?_,by rw[R];exact S.add yh G J C e⟩
    refine CL xm yB λne=>?_;exact((yz x (by
     rw[R]at d;rcases bI.mp d with z|z
     ·exact z
     ·exact absurd (by simpa using z) ne)).same xc).write zd rfl
  ·rintro σ Y ⟨v,O,L,Ps,xn,yn,U,rfl,ya,yd,xk,e1,e2,xf,yf,S⟩
   rw[aB,cz]at e1 xf yf S;have yr:=ya.kp _ _ ze zj;refine⟨_,rfl,n,rfl,⟨_,aj.of yr⟩,λc yg=>?_⟩;refine fe (xs:=ks.map V.str) (λi ys zg H2=>∃yp:ad V,zg=[yp,am m]/\H2 c=bd ys/\aw Y H2/\c' H2 ys (gA Ps (ks.take i))) ⟨none,rfl,af,aJ yg,.nil⟩ (λi ys zg H2 ⟨_,_,z1,z2,_⟩=>⟨z1,aj.of (z2 _ _ yr)⟩) ?_ ?_
   ·rintro i x ys zg H2 d ⟨yp,rfl,h2,yc,Z⟩
    have zr:i<(ks.map V.str).length:=(bZ.mp d).1;have zb:i<ks.length:=by simpa using zr
    obtain rfl:V.str ks[i]=x:=by simpa [zb] using d
    have R:ks.take (i+1)=ks.take i++[ks[i]]:=by rw[dH,bw zb];rfl
    obtain⟨a,yF,zF⟩:=(yf ks[i] (eL zb)).same yc;refine⟨_,rfl,_,rfl,_,rfl,m,.ref a,rfl,by rw[<-yF];exact b4.k (k:=n' ks[i]) (yc _ _ xk),?_⟩
    refine⟨a,_,rfl,.inl ⟨aj.of zF,λb xG=>?_⟩⟩;have yG:=aJ (o:=.tup ((Ps ks[i]).map V.str)) xG;refine⟨by show 2<=UB;rw[aV];decide,λt xh=>?_⟩
    have St:=yG.trans (aJ (o:=.tup [V.str ks[i],.ref b]) xh);have xt:upd (upd H2 b (.tup ((Ps ks[i]).map V.str))) t (.tup [V.str ks[i],.ref b]) b=a2 ((Ps ks[i]).map V.str):=by rw[ag (ax af xh)];exact af
    have ym:=St _ _ h2;refine⟨ym,?_,cw_next zr ⟨_,rfl,af,λx u d=>by rw[ag (ax d yg)];exact St _ _ (yc x u d),?_⟩⟩
    ·have:=Z.length
     unfold gA at this;rw[aB,cH]at this;rw[aV];omega
    ·have zG:gA Ps (ks.take (i+1))=gA Ps (ks.take i)++[(ks[i],Ps ks[i])]:=by rw[R];unfold gA;rw[a8];rfl
     rw[zG];refine c'.append (Z.keep λx xs d=>?_) ?_ ?_ (b:=b)
     ·rw[ag (aq d h2)];exact St _ _ d
     ·rw[ag (aq af ym)];exact af
     ·rw[ag (aq xt ym)];exact xt
   ·rintro ys zg H2 ⟨yp,rfl,h2,yc,Z⟩
    rw[aB,cz]at Z;obtain⟨kvs,pv,zB⟩:=Z.keyed;have zJ:=Z.length;have xK:(gA Ps ks).length=ks.length:=by unfold gA;exact aB ..
    refine⟨c,ys,kvs,1,rfl,.inl (aj.of h2),pv,aP _,by rw[zB,AA];exact xi.map _ λa b n e=>n (FJ e).1,by omega,λD xe zI xH xa yK zK xL=>?_⟩
    have yH:=aJ (o:=.lst xe) xH;refine⟨D,xe,rfl,aj.of af,λt o xh zH=>?_⟩;have St:=yH.trans (aJ (o:=.bu o (.tup xe)) xh);obtain⟨yx,xC,xI⟩:=sb xa Z;refine⟨_,rfl,_,rfl,bQ,λr I=>?_⟩;have xx:=St.trans (aJ (o:=.tup [V.ref t,.ref g]) I);have zh:=yc.trans xx;refine q r t g o xe v L Ps yx _ ⟨af,by rw[ag (ax af I)];exact af,zH,c'.same xI xx,xC,S,zh _ _ yd,e1,λx d=>(xf x d).same zh,ya.trans (pE ya.ok zh),yb⟩
theorem boot_int:Vh "int" = ih (.type "int"):=by decide +kernel
theorem boot_bool:Vh "bool" = ih (.type "bool"):=by decide +kernel
structure va(mg:Fv->Option i'):Prop where
 int:mg "int" = none
 bool:mg "bool" = none
theorem b8{x:V}:cW (x::xs) 0=ih x:=(show cW (x::xs) ((0:Nat):Int)=ih x from cq rfl)
theorem cP{x:V}:cW (x::y::xs) 1=ih y:=(show cW (x::y::xs) ((1:Nat):Int)=ih y from cq rfl)
theorem og{x z:V}:cW (x::y::z::xs) 2=ih z:=(show cW (x::y::z::xs) ((2:Nat):Int)=ih z from cq rfl)
end ew
namespace L2
open W
theorem Rep.tupI{ds:ac UC}(r:Rep H v (.tuple ds)):∃a vs,v=.ref a/\H a=a2 vs/\bJ H vs ds:=by
 cases r with
 |tup e rs=>exact⟨_,_,rfl,e,rs⟩
theorem Rep.gV(r:Rep H v (.str x)):v=.str x:=by cases r;rfl
theorem Rep.ir{x:Int}(r:Rep H v (.int x)):v=.int x:=by cases r;rfl
theorem bJ.e6{d:UC}{ds:ac UC}(r:bJ H vs (d::ds)):∃v ws,vs=v::ws/\Rep H v d/\bJ H ws ds:=by
 cases r with
 |cons a b=>exact⟨_,_,rfl,a,b⟩
theorem bJ.mu(r:bJ H vs []):vs=[]:=by cases r;rfl
theorem bJ.length{H:Hp}:∀{vs:ac V}{ds:ac UC},bJ H vs ds->vs.length=ds.length
 |_,_,.nil=>rfl
 |_,_,.cons _ rs=>by rw[cS,cS,bJ.length rs]
theorem bJ.get{H:Hp}{v:V}:∀{vs:ac V}{ds:ac UC}{i:Nat} (_:bJ H vs ds) (_:vs[i]?=ih v),∃d,ds[i]?=ih d/\Rep H v d
 |_,_,_,.nil,e=>by cases e
 |_,_,0,.cons r _,e=>by cases e;exact⟨_,rfl,r⟩
 |_,_,i+1,.cons _ rs,e=>by have:=bJ.get (i:=i) rs (by simpa using e);simpa using this
end L2
namespace ew
open L2 W HT
def a7:UC->Fv|.tuple (.str s::_)=>s|_ => ""
def kS:UC->Int|.tuple [_,.int n]=>n|_=>0
def dX:UC->Fv|.tuple [_,.str x]=>x|_ => ""
def cc:UC->List UC
 |.tuple [_,.tuple ds]=>ds
 |.tuple [_,.str x,.int n]=>[.tuple [.str "ask",.str x],.tuple [.str "add",.int n]]
 |.tuple [_,.int n]=>[.tuple [.str "add",.int n]]
 |_=>[]
inductive ed:UC->Prop where
 |add (n:Int) (h:n.natAbs<=10 ^ 18):ed (.tuple [.str "add",.int n])
 |times (n:Int) (lo : -9<=n) (hi:n<=9):ed (.tuple [.str "times",.int n])
 |ma:ed (.tuple [.str "onward"])
 |ask (x:Fv) (h:Nm x):ed (.tuple [.str "ask",.str x])
inductive Ent:UC->Prop where
 |plain (n:Int) (h:n.natAbs<=10 ^ 18):Ent (.tuple [.str "plain",.int n])
 |ahead (x:Fv) (n:Int) (h:Nm x) (hn:n.natAbs<=10 ^ 18):Ent (.tuple [.str "ahead",.str x,.int n])
 |behind (ds:List UC) (h4:ds.length<=4) (hs:∀d∈ds,ed d):Ent (.tuple [.str "behind",.tuple ds])
 |jP (ds:List UC) (h4:ds.length<=4) (hs:∀d∈ds,ed d):Ent (.tuple [.str "shut",.tuple ds])
theorem two1{s:Fv}{d:UC}(r:Rep H v (.tuple [.str s,d])):∃a u,v=.ref a/\H a=a2 [.str s,u]/\Rep H u d:=by
 obtain⟨a,vs,rfl,b,rs⟩:=r.tupI;obtain⟨g,h,rfl,c,rs⟩:=rs.e6;obtain⟨e,i,rfl,f,rs⟩:=rs.e6;obtain rfl:=rs.mu;obtain rfl:=c.gV;exact⟨a,e,rfl,b,f⟩
theorem ed.keep{d:UC}(s:ed d)(r:Rep H v d)(k:∀b xs,H b=a2 xs->H' b=a2 xs):Rep H' v d:=by
 cases s with
 |add n =>
  obtain⟨a,u,rfl,c,e⟩:=two1 r;obtain rfl:=e.ir;exact .tup (k _ _ c) (.cons (.str _) (.cons (.int _) .nil))
 |times n =>
  obtain⟨a,u,rfl,c,e⟩:=two1 r;obtain rfl:=e.ir;exact .tup (k _ _ c) (.cons (.str _) (.cons (.int _) .nil))
 |ask x =>
  obtain⟨a,u,rfl,c,e⟩:=two1 r;obtain rfl:=e.gV;exact .tup (k _ _ c) (.cons (.str _) (.cons (.str _) .nil))
 |ma =>
  obtain⟨a,vs,rfl,c,rs⟩:=r.tupI;obtain⟨g,h,rfl,f,rs⟩:=rs.e6;obtain rfl:=rs.mu;obtain rfl:=f.gV;exact .tup (k _ _ c) (.cons (.str _) .nil)
theorem h7(k:∀b xs,H b=a2 xs->H' b=a2 xs){ds:ac UC}(r:bJ H vs ds)(h:∀d∈ds,ed d):bJ H' vs ds:=by
 induction vs generalizing ds with
 |nil=>cases r;exact .nil
 |cons x xs a=>cases r with|cons r rs=>exact .cons ((h _ aW).keep r k) (a rs λd c=>h d (ba _ c))
theorem Ent.keep{d:UC}(s:Ent d)(r:Rep H v d)(k:∀b xs,H b=a2 xs->H' b=a2 xs):Rep H' v d:=by
 cases s with
 |plain n =>
  obtain⟨a,u,rfl,c,e⟩:=two1 r;obtain rfl:=e.ir;exact .tup (k _ _ c) (.cons (.str _) (.cons (.int _) .nil))
 |ahead x n =>
  obtain⟨a,vs,rfl,c,rs⟩:=r.tupI;obtain⟨l,m,rfl,h,rs⟩:=rs.e6;obtain⟨o,p,rfl,e,rs⟩:=rs.e6;obtain⟨q,t,rfl,i,rs⟩:=rs.e6;obtain rfl:=rs.mu;obtain rfl:=h.gV;obtain rfl:=e.gV;obtain rfl:=i.ir;exact .tup (k _ _ c) (.cons (.str _) (.cons (.str _) (.cons (.int _) .nil)))
 |behind ds j f =>
  obtain⟨a,u,rfl,c,e⟩:=two1 r;obtain⟨b,vs,rfl,g,rs⟩:=e.tupI;exact .tup (k _ _ c) (.cons (.str _) (.cons (.tup (k _ _ g) (h7 k rs f)) .nil))
 |jP ds j f =>
  obtain⟨a,u,rfl,c,e⟩:=two1 r;obtain⟨b,vs,rfl,g,rs⟩:=e.tupI;exact .tup (k _ _ c) (.cons (.str _) (.cons (.tup (k _ _ g) (h7 k rs f)) .nil))
theorem K9(a:c9 p H)(c:br p H H'):∀b xs,H b=a2 xs->H' b=a2 xs:=λb xs e=>by
 obtain⟨x,y,e0,_⟩:=a;exact c.kp b _ e (aq e e0)
theorem Gh{ds:ac UC}{d:UC}(h:bJ H vs ds)(r:Rep H v d):bJ H (vs++[v]) (ds++[d]):=by
 induction vs generalizing ds with
 |nil=>cases h;exact .cons r .nil
 |cons x xs b=>cases h with|cons a c=>exact .cons a (b c)
inductive i0(vs:List V)(H:Hp)(Q:VK)(E:XK):Prop
 |mk{p:EZ}(_:vs=[.ref p])(_:c9 p H)(_:∀(n:Int) (H':Hp),n.natAbs<=10 ^ 18->br p H H'->Q (.int n) H'):i0 vs H Q E
abbrev OJ:List Fv:=["_law_pot_here","_law_near","_law_far"]
theorem uK:bf OJ ["_law_pot_here"] (aI tP):=bz
theorem Ma(F:aQ K "_law_number" "_law_number" tP f fd)
  (g:bF P w K mg base aG 1 fD dD ["_law_pot_here","_law_many"] hC "_law_digit"):aT P w K mg base aG 2 f fd ["_law_pot_here"] i0:=by
 refine F.bG uK λQa A outer s H vs Q E u h=>?_
 ·obtain @⟨p,rfl,v,q⟩:=h
  have e:aZ 1 _:=u;intro X;refine⟨_,au (aY 1 uK.nd (bx kD (a9 g e (aa (pv 0) (aa ar ah))) ar))
   (au (aY 2 uK.nd (bx eV (bx kD (a9 g e (aa (pv 0) (aa (bx kD (bx nM ar (bx t2 ar ar)) ar) ah))) (bx t2 ar ar)) ar))
   (aA (aX (aU dw (ej (aa (pv 1) (aa (pv 1) (aa ar (aa (pv 2) ah))))) (a9 g e (aa (pv 0) (aa ar ah))))))),?_⟩
  refine⟨_,rfl,cT (p:=p) (m:=41) v (by decide) (by decide) λk Y C D i=>⟨_,_,rfl,rfl,?_⟩⟩
  refine⟨_,rfl,_,_,rfl,rfl,⟨by decide,by decide,by decide⟩,_,_,rfl,rfl,.inl ⟨by decide,by decide⟩,_,_,rfl,rfl,?_⟩
  refine cT (p:=p) (m:=2 * 10 ^ (18:Int).toNat - 1) i.ok (by decide) (by decide) λx H2 b0 b1 p2=>⟨_,_,rfl,rfl,⟨by decide,by decide,by decide⟩,_,_,rfl,rfl,_,_,rfl,rfl,?_⟩
  refine⟨_,rfl,_,rfl,_,rfl,by show 4<=UB;rw[aV];decide,λc l=>?_⟩
  have p3:=(i.trans p2).new (o:=.lst [.int (k - 20),.int (k - 20),.int 0,.int (x - 10 ^ (18:Int).toNat+1)]) l;refine⟨_,rfl,cT (p:=p) (m:=4) p3.ok (by decide) (by decide) λG r y I p4=>?_⟩
  have t:c≠p:=aS ((i.trans p2).ok.ne l);have d:=p4.kp _ _ af t;obtain⟨j,rfl⟩:=gO y;have a:(10:Int) ^ (18:Int).toNat=1000000000000000000:=rfl;have b:∀n:Int,n.natAbs<=10 ^ 18->Q (.int n) r:=λn z=>q n r z (p3.trans p4);have B:j=0\/j=1\/j=2\/j=3:=by omega
  rcases B with rfl|rfl|rfl|rfl
  ·exact⟨c,_,((0:Nat):Int),_,rfl,rfl,aj.of d,cq rfl,b _ (by first|omega|(rw[a]at b1⊢;omega))⟩
  ·exact⟨c,_,((1:Nat):Int),_,rfl,rfl,aj.of d,cq rfl,b _ (by first|omega|(rw[a]at b1⊢;omega))⟩
  ·exact⟨c,_,((2:Nat):Int),_,rfl,rfl,aj.of d,cq rfl,b _ (by first|omega|(rw[a]at b1⊢;omega))⟩
  ·exact⟨c,_,((3:Nat):Int),_,rfl,rfl,aj.of d,cq rfl,b _ (by first|omega|(rw[a]at b1⊢;omega))⟩
inductive qm(vs:List V)(H:Hp)(Q:VK)(E:XK):Prop
 |mk{p l:EZ}{ys:List Fv}{k:Nat}(_:vs=[.ref p,.ref l,.int k])(_:c9 p H)(_:H l=ih (.lst (ys.map V.str)))(_:ys ≠ [])(_:ys.length<=20)(_:(∀y∈ys,Nm y))(_:∀(v:V) (d:UC) (H':Hp),br p H H'->Rep H' v d->ed d->(a7 d = "ask" -> dX d∈ys)->Q v H'):qm vs H Q E
abbrev OK:List Fv:=["_law_pot_here","_law_names_here","_law_at","_law_way","_law_later"]
theorem qo:bf OK ["_law_pot_here","_law_names_here","_law_at"] (aI uA):=bz
theorem Mb(F:aQ K "_law_step" "_law_step" uA f fd)(B:df mg)
  (x:bF P w K mg base aG 1 fD dD ["_law_pot_here","_law_many"] hC "_law_digit")
  (xd:bF P w K mg base aG 2 fN dN ["_law_pot_here"] i0 "_law_number"):aT P w K mg base aG 3 f fd ["_law_pot_here","_law_names_here","_law_at"] qm:=by
 refine F.bG qo λQa A outer s H vs Q E Z h=>?_
 ·obtain @⟨p,l,ys,k,rfl,xa,C,ne,S,M,q⟩:=h
  have yd:=Z.units;have T:aZ 2 _:=Z;have r:aZ 1 _:=T.mono (by decide)
  intro X;refine⟨_,au (aY 3 qo.nd (a9 x r (aa (pv 0) (aa ar ah))))
   (au (bh (bp c7 (pv 3) ar (bA _)) (aA (aX (b7 (aa bq (aa (a9 xd T (aa (pv 0) ah)) ah))))) bD)
   (au (bh (bp c7 (pv 3) ar (bA _)) (aA (aX (b7 (aa bq (aa (bx kD (a9 x r (aa (pv 0) (aa ar ah))) ar) ah))))) bD)
   (au (bh (bp Df (pv 3) ar (bA _)) (aA (aX (b7 (aa bq ah)))) bD)
   (au (aY 4 qo.nd (iK lY (pv 1) (ia (bx eV (pv 2) ar)) iQ))
   (au (bh (PW.pt (pw_or (bp (t9 yd) (pv 4) (ej ah) (bA _)) (pw_or1 (bp c7 (a9 x r (aa (pv 0) (aa ar ah))) ar (bA _))))) (aA (aY 4 qo.nd (pv 1))) bD)
   (aA (aX (b7 (aa bq (aa (aU dw (pv 4) (a9 x r (aa (pv 0) (aa (bT eM rfl B.len ez (aa (pv 4) ah)) ah)))) ah)))))))))),?_⟩
  refine⟨_,rfl,cT (p:=p) (m:=6) xa (by decide) (by decide) λye Y ze xf d=>?_⟩
  refine⟨_,rfl,rfl,_,rfl,?_⟩;refine bW (λh0=>?_) (λh0=>?_)
  ·refine⟨_,rfl,i0.mk rfl d.ok λn H2 zd p2=>⟨bQ,λt a=>?_⟩⟩
   exact q _ _ _ ((d.trans p2).new a) (.tup af (.cons (.str _) (.cons (.int _) .nil))) (.add n zd) (λz=>absurd z (by show ¬ ((("add" : Fv)) = "ask");decide +kernel))
  refine⟨_,rfl,rfl,_,rfl,?_⟩;refine bW (λh1=>?_) (λh1=>?_)
  ·refine⟨_,rfl,cT (p:=p) (m:=19) d.ok (by decide) (by decide) λn H2 b0 b1 p2=>⟨_,_,rfl,rfl,bQ,λt a=>?_⟩⟩
   exact q _ _ _ ((d.trans p2).new a) (.tup af (.cons (.str _) (.cons (.int _) .nil))) (.times (n - 9) (by omega) (by omega)) (λz=>absurd z (by show ¬ ((("times" : Fv)) = "ask");decide +kernel))
  refine⟨_,rfl,_,_,rfl,rfl,_,rfl,?_⟩;refine bW (λh2=>?_) (λh2=>?_)
  ·refine⟨eI,λt a=>?_⟩
   exact q _ _ _ (d.new a) (.tup af (.cons (.str _) .nil)) .ma (λz=>absurd z (by show ¬ ((("onward" : Fv)) = "ask");decide +kernel))
  have D:l≠p:=fJ xa C;refine⟨_,rfl,_,rfl,_,_,rfl,rfl,_,rfl,l,_,rfl,aj.of (d.kp _ _ C D),λc xe=>?_⟩;have zb:fw (ys.map V.str) (ih ((k:Int)+1)) none=(ys.drop (k+1)).map V.str:=by
   rw[lB];exact nD (ys.map V.str) (k+1)
  rw[zb];have p2:=d.new (o:=.lst ((ys.drop (k+1)).map V.str)) xe;have u:upd Y c (.lst ((ys.drop (k+1)).map V.str)) c=bd ((ys.drop (k+1)).map V.str):=af;generalize upd Y c (.lst ((ys.drop (k+1)).map V.str))=H2 at p2 u⊢;have G:∀y∈ys.drop (k+1),Nm y:=λy N=>M y (oU N);have dl:(ys.drop (k+1)).length<=ys.length:=by rw[mR];omega
  have O:∀y∈ys.drop (k+1),y∈ys:=λy N=>oU N;generalize ys.drop (k+1)=zs at u G dl O;refine⟨_,rfl,bB _,λe0 U=>?_⟩;have p3:=p2.new (o:=.lst []) U;have v:upd H2 e0 (.lst []) c=bd (zs.map V.str):=by rw[ag (ax u U)];exact u
  have W:upd H2 e0 (.lst []) e0=bd []:=af;generalize upd H2 e0 (.lst [])=yf at p3 v W⊢;refine eq_nil v W G ⟨_,rfl,?_⟩;have I:=p3.kp _ _ C D;refine bW (λya=>?_) (λya=>?_)
  ·refine⟨_,rfl,?_⟩
   refine⟨_,rfl,_,rfl,_,rfl,l,_,rfl,.inl (aj.of I),?_⟩;rw[aB];have R:0<ys.length:=lC.mpr ne;have xc:ys.length<=20:=S;refine cT (p:=p) (m:=(ys.length:Int)) p3.ok (by omega) (by omega) λza xb g yb p5=>?_
   obtain⟨j,rfl⟩:=gO g;have b:j<ys.length:=by omega
   have i:=p5.kp _ _ I (fJ p3.ok I);refine⟨l,_,(j:Int),.str ys[j],rfl,rfl,aj.of i,cq (by rw[cI,bw b];rfl),bQ,λt a=>?_⟩
   exact q _ _ _ ((p3.trans p5).new a) (.tup af (.cons (.str _) (.cons (.str _) .nil))) (.ask _ (M _ (eL b))) (λ_=>eL b)
  have yc:zs ≠ []:=λz=>ya (by simp[z])
  refine⟨_,rfl,cT (p:=p) (m:=4) p3.ok (by decide) (by decide) λzf xg b0 b1 p4=>⟨rfl,_,rfl,?_⟩⟩
  have e:=p3.trans p4;have J:=e.kp _ _ C D;have L:=p4.kp _ _ v (fJ p3.ok v);refine bW (λzc=>?_) (λzc=>?_)
  ·refine⟨_,rfl,?_⟩
   refine⟨_,rfl,_,rfl,_,rfl,l,_,rfl,.inl (aj.of J),?_⟩;rw[aB];have R:0<ys.length:=lC.mpr ne;have xc:ys.length<=20:=S;refine cT (p:=p) (m:=(ys.length:Int)) e.ok (by omega) (by omega) λza xb g yb p5=>?_
   obtain⟨j,rfl⟩:=gO g;have b:j<ys.length:=by omega
   have i:=p5.kp _ _ J (fJ e.ok J);refine⟨l,_,(j:Int),.str ys[j],rfl,rfl,aj.of i,cq (by rw[cI,bw b];rfl),bQ,λt a=>?_⟩
   exact q _ _ _ ((e.trans p5).new a) (.tup af (.cons (.str _) (.cons (.str _) .nil))) (.ask _ (M _ (eL b))) (λ_=>eL b)
  ·refine⟨_,rfl,_,rfl,_,rfl,c,_,rfl,.inl (aj.of L),?_⟩
   rw[aB];have R:0<zs.length:=lC.mpr yc;refine cT (p:=p) (m:=(zs.length:Int)) e.ok (by omega) (by omega) λza xb g yb p5=>?_
   obtain⟨j,rfl⟩:=gO g;have b:j<zs.length:=by omega
   have i:=p5.kp _ _ L (fJ e.ok L);refine⟨c,_,(j:Int),.str zs[j],rfl,rfl,aj.of i,cq (by rw[cI,bw b];rfl),bQ,λt a=>?_⟩
   exact q _ _ _ ((e.trans p5).new a) (.tup af (.cons (.str _) (.cons (.str _) .nil))) (.ask _ (G _ (eL b))) (λ_=>O _ (eL b))
inductive qp(vs:List V)(H:Hp)(Q:VK)(E:XK):Prop
 |mk{p l:EZ}{ys:List Fv}{k:Nat}(_:vs=[.ref p,.ref l,.int k])(_:c9 p H)(_:H l=ih (.lst (ys.map V.str)))(_:ys ≠ [])(_:ys.length<=20)(_:(∀y∈ys,Nm y))(_:∀(v:V) (d:UC) (H':Hp),br p H H'->Rep H' v d->Ent d->(∀s∈cc d,a7 s = "ask" -> dX s∈ys)->Q v H'):qp vs H Q E
abbrev D6:List Fv:=["_law_pot_here","_law_names_here","_law_at","_law_way","_law_steps_here"]
theorem uL:bf D6 ["_law_pot_here","_law_names_here","_law_at"] (aI nR):=bz
abbrev OL:Vp:=gj (e8 (bR (bE nR) 3))
theorem Du:b6 D6 (aI nR) ["_law_turn","_law_pot_here","_law_names_here","_law_at"] [none,ih 0,ih 1,ih 2] (cB OL):=c8
theorem Mc(F:aQ K "_law_entry" "_law_entry" nR f fd)(B:df mg)
  (Z:bF P w K mg base aG 1 fD dD ["_law_pot_here","_law_many"] hC "_law_digit")
  (xg:bF P w K mg base aG 2 fN dN ["_law_pot_here"] i0 "_law_number")
  (zi:bF P w K mg base aG 3 fS dS ["_law_pot_here","_law_names_here","_law_at"] qm "_law_step"):aT P w K mg base aG 4 f fd ["_law_pot_here","_law_names_here","_law_at"] qp:=by
 refine F.bG uL λQa A outer s H vs Q E xj h=>?_
 ·obtain @⟨p,l,ys,k,rfl,yg,xa,ne,yi,zg,q⟩:=h
  have zd:aZ 3 _:=xj;have U:aZ 2 _:=zd.mono (by decide)
  have W:aZ 1 _:=U.mono (by decide)
  intro X;refine⟨_,au (aY 3 uL.nd (a9 Z W (aa (pv 0) (aa ar ah))))
   (au (bh (bp c7 (pv 3) ar (bA _)) (aA (aX (b7 (aa bq (aa (a9 xg U (aa (pv 0) ah)) ah))))) bD)
   (au (bh (bp c7 (pv 3) ar (bA _)) (aA (aX (b7 (aa bq (aa (aU dw (pv 1) (bx kE (bx eV (bx eV (pv 2) ar) (a9 Z W (aa (pv 0) (aa (bT eM rfl B.len ez (aa (pv 1) ah)) ah)))) (bT eM rfl B.len ez (aa (pv 1) ah)))) (aa (a9 xg U (aa (pv 0) ah)) ah)))))) bD)
   (au (aY 4 uL.nd (dq iI rfl B.tuple boot_tuple (aa (dZ rfl Du (h6 rfl B.range (aa (a9 Z W (aa (pv 0) (aa ar ah))) ah)) (λs H fp=>⟨bb 0 Du.nd,ei,a9 zi zd (aa (pv 1) (aa (pv 2) (aa (pv 3) ah)))⟩)) ah)))
   (aA (aX (b7 (aa (aU dw (ej (aa bq (aa bq (aa bq ah)))) (bx kD (pv 3) ar)) (aa (pv 4) ah)))))))),?_⟩
  have L:l≠p:=fJ yg xa;have xl:0<ys.length:=lC.mpr ne;refine⟨_,rfl,cT (p:=p) (m:=5) yg (by decide) (by decide) λG Y yl zl r=>?_⟩
  refine⟨_,rfl,rfl,_,rfl,?_⟩;refine bW (λh0=>?_) (λh0=>?_)
  ·refine⟨_,rfl,i0.mk rfl r.ok λn H2 ya p2=>⟨bQ,λt a=>?_⟩⟩
   exact q _ _ _ ((r.trans p2).new a) (.tup af (.cons (.str _) (.cons (.int _) .nil))) (.plain n ya) (λs za=>by rw[bL.mp za];exact λz=>absurd z (by show ¬ ((("add" : Fv)) = "ask");decide +kernel))
  have xe:=r.kp _ _ xa L;refine⟨_,rfl,rfl,_,rfl,?_⟩;refine bW (λh1=>?_) (λh1=>?_)
  ·refine⟨_,rfl,_,rfl,_,_,rfl,rfl,_,rfl,_,rfl,l,_,rfl,.inl (aj.of xe),?_⟩
   rw[aB];refine cT (p:=p) (m:=(ys.length:Int)) r.ok (by omega) (by omega) λxb H2 b0 b1 p2=>?_
   have M:=p2.kp _ _ xe L;refine⟨_,_,rfl,rfl,_,rfl,l,_,rfl,.inl (aj.of M),_,_,rfl,rfl,by rw[aB];omega,?_⟩
   rw[aB];obtain⟨j,xh⟩:=gO (wV ((k:Int)+1+xb) (show(ys.length:Int)≠0 by omega))
   have I:j<ys.length:=by
    have:=wW ((k:Int)+1+xb) (show(0:Int)<(ys.length:Int) by omega)
    rw[xh]at this;omega
   refine⟨l,_,(j:Int),.str ys[j],rfl,(c3 V.int xh:V.int (((k:Int)+1+xb) % (ys.length:Int))=V.int (j:Int)),aj.of M,cq (by rw[cI,bw I];rfl),_,rfl,i0.mk rfl p2.ok λn xm ya p3=>⟨gY,λt a=>?_⟩⟩
   exact q _ _ _ (((r.trans p2).trans p3).new a) (.tup af (.cons (.str _) (.cons (.str _) (.cons (.int _) .nil)))) (.ahead _ n (zg _ (eL I)) ya) (λs za=>by
    rcases bH.mp za with z|z
    ·rw[z];exact λ_=>eL I
    ·rw[bL.mp z];exact λz=>absurd z (by show ¬ ((("add" : Fv)) = "ask");decide +kernel))
  have yj:G=2\/G=3\/G=4:=by
   have e0:G≠0:=λz=>h0 (by rw[z];rfl)
   have e1:G≠1:=λz=>h1 (by rw[z];rfl)
   omega
  refine⟨_,rfl,cT (p:=p) (m:=5) r.ok (by decide) (by decide) λdn H2 b0 b1 p2=>⟨dn,rfl,by omega,by omega,λc yb=>?_⟩⟩
  have S:=r.trans p2;have ye:p≠c:=S.ok.ne yb;have M:=S.kp _ _ xa L;refine o4 (λi zs T g=>∃(ds:ac UC) (zb:ad V),T=[zb,am p,am l,ih (.int (k:Int))]/\bJ g zs ds/\ds.length=i/\(∀d∈ds,ed d)/\(∀d∈ds,a7 d = "ask" -> dX d∈ys)/\br p H2 g/\g c=bd zs)
   ⟨[],none,rfl,.nil,rfl,(λd xc=>by cases xc),(λd xc=>by cases xc),(br.refl S.ok).new yb,af⟩ (λi zs T g ab=>by obtain⟨_,_,_,_,_,_,_,_,z⟩:=ab;exact z) ?_ ?_
  ·rintro j zs T g I ⟨ds,zb,rfl,rs,dl,u,D,y,yc⟩
   refine⟨_,rfl,_,rfl,_,rfl,qm.mk rfl y.ok (y.kp _ _ M L) ne yi zg λv d J zc zj yh xk=>?_⟩;have ze:=zc.kp _ _ yc (aS ye);have up:∀b xs,J b=a2 xs->upd J c (.lst (zs++[v])) b=a2 xs:=λb xs e=>by rw[ag (aq e ze)];exact e
   refine⟨ze,by rw[rs.length,dl,aV];omega,cw_next I ⟨ds++[d],_,rfl,Gh (h7 (λb xs e=>up b xs (K9 y.ok zc b xs e)) rs u) (yh.keep zj up),by rw[bV,dl];rfl,λx xd=>?_,λx xd=>?_,(y.trans zc).write yb ye,af⟩⟩
   ·rcases bI.mp xd with z|z
    ·exact u x z
    ·rw[bL.mp z];exact yh
   ·rcases bI.mp xd with z|z
    ·exact D x z
    ·rw[bL.mp z];exact xk
  rintro zs T g ⟨ds,zb,rfl,rs,dl,u,D,y,yc⟩;refine⟨c,_,rfl,.inl ⟨aj.of yc,λb zh=>?_⟩⟩;have yk:=S.trans y;have p5:=yk.new (o:=.tup zs) zh;have zk:=aJ (o:=.tup zs) zh;have xf:upd g b (.tup zs) b=a2 zs:=af;have yf:=bJ.same rs zk;generalize upd g b (.tup zs)=J at p5 xf yf⊢;refine⟨gY,λC zf=>?_⟩;have p6:=p5.new (o:=.lst [V.str "behind",V.str "behind",V.str "shut"]) zf;have xi:=aJ (o:=.lst [V.str "behind",V.str "behind",V.str "shut"]) zf;have N:upd J C (.lst [V.str "behind",V.str "behind",V.str "shut"]) C=bd [V.str "behind",V.str "behind",V.str "shut"]:=af;have O:=xi _ _ xf;have R:=bJ.same yf xi;generalize upd J C (.lst [V.str "behind",V.str "behind",V.str "shut"])=ym at p6 N O R⊢;have yd:ds.length<=4:=by omega
  refine⟨_,rfl,_,_,rfl,rfl,?_⟩;rcases yj with rfl|rfl|rfl
  ·refine⟨C,_,((0:Nat):Int),.str "behind",rfl,rfl,aj.of N,cq rfl,_,rfl,bQ,λt a=>?_⟩
   exact q _ _ _ (p6.new a) (.tup af (.cons (.str _) (.cons (.tup ((aJ a) _ _ O) (bJ.same R (aJ a))) .nil))) (.behind ds yd u) D
  ·refine⟨C,_,((1:Nat):Int),.str "behind",rfl,rfl,aj.of N,cq rfl,_,rfl,bQ,λt a=>?_⟩
   exact q _ _ _ (p6.new a) (.tup af (.cons (.str _) (.cons (.tup ((aJ a) _ _ O) (bJ.same R (aJ a))) .nil))) (.behind ds yd u) D
  ·refine⟨C,_,((2:Nat):Int),.str "shut",rfl,rfl,aj.of N,cq rfl,_,rfl,bQ,λt a=>?_⟩
   exact q _ _ _ (p6.new a) (.tup af (.cons (.str _) (.cons (.tup ((aJ a) _ _ O) (bJ.same R (aJ a))) .nil))) (.jP ds yd u) D
theorem sZ:∀xs ys:ac Fv,Yz (xs.map Vl) (ys.map Vl)=decide (xs=ys)
 |[],[]=>rfl
 |[],y::ys=>rfl
 |x::xs,[]=>rfl
 |x::xs,y::ys=>by
  show((x==y)&&Yz (xs.map Vl) (ys.map Vl))=_;rw[sZ xs ys]
  by_cases e:x=y
  ·by_cases f:xs=ys <;> simp[e,f]
  ·simp[e]
abbrev Bk:=List (Fv×Fv×UC)
def c0(p:Fv×Fv×UC):List Fv:=[p.1,p.2.1]
def cO(H:Hp)(vs:List V)(bk:Bk):Prop:=VM (λv p=>∃a u,v=V.ref a/\H a=ih (.tup [.str p.1,.str p.2.1,u])/\Rep H u p.2.2) vs bk
structure gk(bk:Bk):Prop where
 nm:∀p∈bk,Nm p.1/\Nm p.2.1
 ent:∀p∈bk,Ent p.2.2
 nd:(bk.map c0).Nodup
 a3:bk.length<=48
theorem cO.keep(k:∀b xs,H b=a2 xs->H' b=a2 xs){bk:Bk}(h:cO H vs bk)(c:∀p∈bk,Ent p.2.2):cO H' vs bk:=L2.Paired.DN h λv p d x=>by obtain⟨a,u,e,h,r⟩:=x;exact⟨a,u,e,k _ _ h,(c p d).keep r k⟩
theorem cO.same(S:aw H H'){bk:Bk}(h:cO H vs bk):cO H' vs bk:=Paired.imp' (λv p x=>by obtain⟨a,u,e,h,r⟩:=x;exact⟨a,u,e,S _ _ h,r.same S⟩) h
theorem cO.length{bk:Bk}(h:cO H vs bk):vs.length=bk.length:=cK h
theorem cO.append{u:V}{p:Fv×Fv×UC}(b:H a=a2 [.str p.1,.str p.2.1,u])(r:Rep H u p.2.2){bk:Bk}(h:cO H vs bk):cO H (vs++[.ref a]) (bk++[p]):=gL h ⟨a,u,rfl,b,r⟩
theorem cO.keyed{bk:Bk}(h:cO H vs bk):∃kvs,ig H 2 vs kvs/\kvs.map (·.1)=bk.map c0:=by
 induction h with
 |nil=>exact⟨[],.nil,rfl⟩
 |cons x _ b =>
  obtain⟨a,u,e,h,r⟩:=x;obtain⟨kvs,h1,h2⟩:=b;exact⟨(c0 _,[u])::kvs,.cons ⟨a,e,h,rfl⟩ h1,by rw[b2,b2,h2]⟩
theorem K'{d:UC}(s:ed d):d.canLay0=true/\d.depth<=1:=by
 cases s with
 |add n=>exact⟨by show(Vt "add" && (true&&true))=true;decide +kernel,by simp[Yd,Ve]⟩
 |times n=>exact⟨by show(Vt "times" && (true&&true))=true;decide +kernel,by simp[Yd,Ve]⟩
 |ma=>exact⟨by decide +kernel,by decide +kernel⟩
 |ask x h =>
  refine⟨?_,by simp[Yd,Ve]⟩
  show(Vt "ask" && (Vt x&&true))=true;rw[mi h];decide +kernel
theorem B6:∀{ds:ac UC},(∀d∈ds,ed d)->X6 ds=true/\Ve ds<=1
 |[],_=>⟨rfl,by decide⟩
 |d::ds,h=>by
  obtain⟨a,c⟩:=K' (h d aW);obtain⟨b1,e⟩:=B6 λx b=>h x (ba _ b);refine⟨?_,?_⟩
  ·show(d.canLay0&&X6 ds)=true
   rw[a,b1];rfl
  ·simp only[Ve];omega
inductive qq(vs:List V)(H:Hp)(Q:VK)(E:XK):Prop
 |mk{x:Fv}(_:vs=[.str x])(_:Nm x)(_:∀H',aw H H'->Q .aK H'):qq vs H Q E
theorem cO.perm{a:ac V}{bk:Bk}(p:a.Perm vs)(h:cO H vs bk):∃b,b.Perm bk/\cO H a b:=sb p h
def kT(p:Fv×Fv×UC):List Key:=[n' p.1,n' p.2.1]
def cx(H:Hp)(kvs:List (List Key×V))(bM:Bk):Prop:=VM (λkv p=>kv.1=kT p/\Rep H kv.2 p.2.2) kvs bM
theorem cx.keep(k:∀b xs,H b=a2 xs->H' b=a2 xs){kvs:ac (List Key×V)}{bM:Bk}(h:cx H kvs bM)(a:∀p∈bM,Ent p.2.2):cx H' kvs bM:=L2.Paired.DN h λv p c x=>⟨x.1,(a p c).keep x.2 k⟩
theorem cx.same(S:aw H H'){kvs:ac (List Key×V)}{bM:Bk}(h:cx H kvs bM):cx H' kvs bM:=by
 induction h with
 |nil=>exact .nil
 |cons x _ a=>exact .cons ⟨x.1,x.2.same S⟩ a
theorem cx.length{kvs:ac (List Key×V)}{bM:Bk}(h:cx H kvs bM):kvs.length=bM.length:=cK h
theorem B7{p:Fv×Fv×UC}{k:Fv}:kT p=[n' k,n' n] ↔ c0 p=[k,n]:=by
 unfold kT c0
 constructor
 ·intro h
  injection h with h1 h2;injection h2 with a _;rw[gq h1,gq a]
 ·intro h
  injection h with h1 h2;injection h2 with a _;rw[h1,a]
theorem cx.val{H:Hp}{k n:Fv}:∀{kvs:ac (List Key×V)}{bM:Bk},cx H kvs bM->(a' kvs [n' k,n' n]=none /\ [k,n]∉ bM.map c0) \/∃v d,a' kvs [n' k,n' n]=ih v/\(k,n,d)∈bM/\Rep H v d
 |_,_,.nil=>.inl ⟨rfl,by simp⟩
 |_,_,.cons (a:=kv) (b:=p) ⟨e,r⟩ t=>by
  by_cases f:kv.1=[n' k,n' n]
  ·have g:=B7.mp (e.symm.trans f)
   have e1:p.1=k:=by injection g
   have e2:p.2.1=n:=by injection g with _ z;injection z
   exact .inr ⟨kv.2,p.2.2,fg f,by rw[<-e1,<-e2];exact aW,r⟩
  ·have g:c0 p ≠ [k,n]:=λz=>f (e.trans (B7.mpr z))
   rcases cx.val (k:=k) (n:=n) t with⟨a,b⟩|⟨v,d,a,b,c⟩
   ·refine .inl ⟨(eN f).trans a,λz=>?_⟩
    rw[b2]at z;rcases bH.mp z with z|z
    ·exact g z.symm
    ·exact b z
   ·exact .inr ⟨v,d,(eN f).trans a,ba _ b,c⟩
theorem cx.snoc{k:Fv}{d:UC}(r:Rep H v d){kvs:ac (List Key×V)}{bM:Bk}(h:cx H kvs bM):cx H (kvs++[([n' k,n' n],v)]) (bM++[(k,n,d)]):=gL h ⟨rfl,r⟩
theorem CM{a b:Bk}(p:a.Perm b)(ok:gk b):gk a:=
 ⟨λq c=>ok.nm q (p.mem_iff.mp c),λq c=>ok.ent q (p.mem_iff.mp c),(p.map c0).nodup_iff.mpr ok.nd,by rw[p.length_eq];exact ok.a3⟩
theorem C9:∀{bk:Bk}{p q:Fv×Fv×UC},(bk.map c0).Nodup->p∈bk->q∈bk->p≠q->c0 p≠c0 q
 |[],_,_,_,h,_,_=>by cases h
 |x::bk,p,q,a,c,b,ne=>by
  rw[b2,d4]at a;rcases bH.mp c with e1|rz
  ·rcases bH.mp b with e2|vE
   ·exact absurd (e1.trans e2.symm) ne
   ·intro z
    exact a.1 (e1 ▸ z ▸ a4.mpr ⟨q,vE,rfl⟩)
  ·rcases bH.mp b with e2|vE
   ·intro z
    exact a.1 (e2 ▸ z ▸ a4.mpr ⟨p,rz,rfl⟩)
   ·exact C9 a.2 rz vE ne
theorem pF(K:Ym)(h:X.K=K){k:Nat}{t:jV}{n:Nat}(b:X.calm=true)(c:ou X es t)
  (d:(assignEach es X.env).length=n:=by rfl) (a:(assignEach es X.env).findIdx? (·.1)=none:=by rfl):PG X (.Tuple es k pos) (DE K n t):=by subst h;exact ib b c d a
def dU(bk:Bk)(k n:Fv):Option UC:=(bk.find? λp=>decide (c0 p=[k,n])).map (·.2.2)
def cX(bk:Bk)(n:Fv):List Fv->Option (Fv×UC)
 |[]=>none
 |x::r=>match dU bk x n with
  |some d=>ih (x,d)
  |none=>cX bk n r
theorem o2{k:Fv}{bk:Bk}:dU bk k n=none ↔ [k,n]∉ bk.map c0:=by
 unfold dU;rw[Vz,List.find?_eq_none]
 constructor
 ·intro h z
  obtain⟨p,a,e⟩:=a4.mp z;exact h p a (cb e)
 ·intro h p a z
  exact h (a4.mpr ⟨p,a,dJ z⟩)
theorem kf{k:Fv}{d:UC}{bk:Bk}(h:dU bk k n=ih d):(k,n,d)∈bk:=by
 unfold dU at h;obtain⟨p,e,rfl⟩:=gu.mp h;have f:=List.mem_of_find?_eq_some e;have g:c0 p=[k,n]:=dJ (List.find?_some (p:=λq=>decide (c0 q=[k,n])) e);obtain⟨a,b,c⟩:=p;injection g with e1 e2;injection e2 with e2 _;subst e1 e2;exact f
theorem AB{k:Fv}{d:UC}{bk:Bk}(b:(bk.map c0).Nodup)(h:(k,n,d)∈bk):dU bk k n=ih d:=by
 cases e:dU bk k n with
 |none=>exact absurd (a4.mpr ⟨_,h,rfl⟩) (o2.mp e)
 |some a =>
  have h':=kf e
  by_cases z:d=a
  ·rw[z]
  ·exact absurd (show c0 (k,n,d)=c0 (k,n,a) from rfl) (C9 b h h' (λw=>z (by injection w with _ w;injection w)))
theorem G8{k:Fv}{a b:Bk}(p:a.Perm b)(c:(b.map c0).Nodup):dU a k n=dU b k n:=by
 cases e:dU a k n with
 |none =>
  exact(o2.mpr λz=>o2.mp e ((p.map c0).mem_iff.mpr z)).symm
 |some d=>exact(AB c (p.mem_iff.mp (kf e))).symm
theorem B8{n:Fv}{a b:Bk}(p:a.Perm b)(c:(b.map c0).Nodup):∀l:ac Fv,cX a n l=cX b n l
 |[]=>rfl
 |x::r=>by unfold cX;rw[G8 p c,B8 p c r]
theorem Md{bk:Bk}(h:dU bk x n=none):cX bk n (x::r)=cX bk n r:=by
 show(match dU bk x n with|some d=>ih (x,d)|none=>cX bk n r)=_;rw[h]
theorem CN{bk:Bk}{d:UC}(h:dU bk x n=ih d):cX bk n (x::r)=ih (x,d):=by
 show(match dU bk x n with|some d=>ih (x,d)|none=>cX bk n r)=_;rw[h]
theorem m5{bk:Bk}{n:Fv}{x:Fv}:∀(l:ac Fv),(∀y∈l,dU bk y n=none) ->∀r,cX bk n (l++r)=cX bk n r
 |[],_,_=>rfl
 |y::l,h,r=>by
  show cX bk n (y::(l++r))=_;rw[Md (h y aW)];exact m5 (x:=x) l (λz hz=>h z (ba _ hz)) r
theorem jD{bk:Bk}{n x:Fv}{d:UC}:∀{l:ac Fv},cX bk n l=ih (x,d)->x∈l/\dU bk x n=ih d
 |[],h=>by cases h
 |y::l,h=>by
  unfold cX at h;cases e:dU bk y n with
  |some d'=>rw[e]at h;cases h;exact⟨aW,e⟩
  |none =>
   rw[e]at h;obtain⟨a,b⟩:=jD (l:=l) h;exact⟨ba _ a,b⟩
theorem cx.look{k:Fv}{kvs:ac (List Key×V)}{bM:Bk}(h:cx H kvs bM)(e:(bM.map c0).Nodup):(dU bM k n=none/\a' kvs [n' k,n' n]=none) \/∃v d,dU bM k n=ih d/\a' kvs [n' k,n' n]=ih v/\Rep H v d:=by
 rcases h.val (k:=k) (n:=n) with⟨a,b⟩|⟨v,d,a,b,c⟩
 ·exact .inl ⟨o2.mpr b,a⟩
 ·exact .inr ⟨v,d,AB e b,a,c⟩
def eH(H:Hp)(v:V):Option (Fv×UC)->Prop
 |none=>v=.aK
 |some (x,d)=>∃t u,v=.ref t/\H t=ih (.tup [.str x,u])/\Rep H u d
theorem eH.keep(k:∀b xs,H b=a2 xs->H' b=a2 xs){r:ad (Fv×UC)}(h:eH H v r)(a:∀x d,r=ih (x,d)->Ent d):eH H' v r:=by
 cases r with
 |none=>exact h
 |some p =>
  obtain⟨t,u,rfl,c,r⟩:=h;exact⟨t,u,rfl,k _ _ c,(a _ _ rfl).keep r k⟩
def La(e:Vp):YW:=match e with|.DictComp _ _ _ sc _=>sc|.SetComp _ _ sc _=>sc|_=>{ kind:=.function,names:=[],isGenerator:=false,isCoroutine:=false }
def d9(line:List Fv)(b:Fv):List Fv:=if b = "" then line else line.drop (line.idxOf b+1)
def fF(dl de dh:EZ)(m:Int):List (Fv×V):=[("lines",.ref dl),("entries",.ref de),("hits",.ref dh),("met",.int m)]
theorem iS{f g:Fv}{x:V}{r:ac (Fv×V)}(h:g≠f):b3 f v ((g,x)::r)=(g,x)::b3 f v r:=ao h
theorem Lb{f:Fv}{x:V}{r:ac (Fv×V)}:b3 f v ((f,x)::r)=(f,v)::r:=aE rfl
theorem pG{f:Fv}:b3 f v []=[(f,v)]:=rfl
theorem Lc(dl de dh:EZ):b3 "met" (.int 0) (b3 "hits" (.ref dh) (b3 "entries" (.ref de) (b3 "lines" (.ref dl) [])))=fF dl de dh 0:=by
 rw[pG,iS (f:= "entries") (by decide +kernel),pG,iS (f:= "hits") (by decide +kernel),iS (f:= "hits") (by decide +kernel),pG,iS (f:= "met") (by decide +kernel),iS (f:= "met") (by decide +kernel),iS (f:= "met") (by decide +kernel),pG]
 rfl
theorem Me(dl de dh:EZ)(m a:Int):b3 "met" (.int a) (fF dl de dh m)=fF dl de dh a:=by
 unfold fF;rw[iS (f:= "met") (by decide +kernel),iS (f:= "met") (by decide +kernel),iS (f:= "met") (by decide +kernel),Lb]
theorem ip{α:Type}{y:Fv}{v:α}{r:ac (Fv×α)}(h:x≠y):VA x ((y,v)::r)=VA x r:=by
 rw[dg];have:(x==y)=false:=by simpa using h
 rw[this]
theorem qr{α:Type}{v:α}{r:ac (Fv×α)}:VA x ((x,v)::r)=ih v:=by
 rw[dg,oO]
section
variable{dl de dh:EZ}
theorem B9:(fF dl de dh m).lookup ("lines" : Fv)=ih (V.ref dl):=qr
theorem AD:(fF dl de dh m).lookup ("entries" : Fv)=ih (V.ref de):=by unfold fF;rw[ip (by decide +kernel)];exact qr
theorem pS:(fF dl de dh m).lookup ("hits" : Fv)=ih (V.ref dh):=by unfold fF;rw[ip (by decide +kernel),ip (by decide +kernel)];exact qr
theorem Mf:(fF dl de dh m).lookup ("met" : Fv)=ih (V.int m):=by unfold fF;rw[ip (by decide +kernel),ip (by decide +kernel),ip (by decide +kernel)];exact qr
theorem uM(h1:x ≠ "lines")(h2:x ≠ "entries")(a:x ≠ "hits")(b:x ≠ "met"):(fF dl de dh m).lookup x=none:=by unfold fF;rw[ip h1,ip h2,ip a,ip b];rfl
end
structure jQ(K:Ym)(mg:Fv->Option i')(C:EZ):Prop where
 cl:gn K C
 nl:d6 K C "lines"
 ne:d6 K C "entries"
 nh:d6 K C "hits"
 nm:d6 K C "met"
 oB:mg "Finds" = ih (.ref C)
structure FI(C x dx dl de dh:EZ)(kl:List (Key×V))(ke kh:List (List Key×V))(m:Int)(bk:Bk)(H:Hp):Prop where
 hx:H x=ih (.ins C dx (fF dl de dh m))
 hl:H dl=ih (.dK kl)
 he:H de=ih (.dT ke)
 hh:H dh=ih (.dT kh)
 du:cx H ke bk
 ok:gk bk
 nn:de≠dh
inductive qJ(vs:List V)(H:Hp)(Q:VK)(E:XK):Prop
 |mk{t:EZ}{ws:List V}{bk:Bk}(_:vs=[.ref t])(_:H t=ih (.tup ws))(_:cO H ws bk)(_:gk bk)(_:∀d kvs H',H d=none->aw H H'->H' d=ih (.dT kvs)->cx H' kvs bk->Q (.ref d) H'):qJ vs H Q E
theorem OM:bf ["book"] ["book"] (aI nu):=bz
abbrev PV:Vp:=mr (bR (bE nu) 0)
theorem qK:b6 ["book"] (aI nu) ["kind","name","entry"] [none,none,none] (La PV):=c8
theorem Na(F:aQ K "entries_by_place" "entries_by_place" nu f fd):aT P w K mg base aG 1 f fd ["book"] qJ:=by
 refine F.bG OM λQa A outer s H vs Q E xb h=>?_
 ·obtain @⟨t,ws,bk,rfl,L,M,ok,q⟩:=h
  have yb:=xb.units;have W:=eu yb;intro X;refine⟨_,aA (aX (Iu rfl qK (kC (pv 0)) (λs H fp=>⟨pF (n:=3) K rfl rfl (cZ (bb 0 qK.nd) (cZ (bb 1 qK.nd) (cZ (bb 2 qK.nd) gw))),ei,MX W (b7 (aa (pv 0) (aa (pv 1) ah))) (pv 2)⟩))),?_⟩;have U:=M.length;have a3:=ok.a3;refine⟨_,rfl,t,rfl,⟨_,ay.of L⟩,λc B=>?_⟩;refine Iv (xs:=ws) (λi g Y=>∃(C D G:ad V) (kvs:ac (List Key×V)),g=[C,D,G]/\aw H Y/\Y c=ce kvs/\cx Y kvs (bk.take i)) ⟨none,none,none,[],rfl,aJ B,af,.nil⟩ (λi g Y ab=>by obtain⟨_,_,_,_,_,z,_⟩:=ab;exact ay.of (z _ _ L)) ?_ ?_
  ·rintro i x g Y N ⟨C,D,G,kvs,rfl,j,h1,l⟩
   have Z:i<ws.length:=(bZ.mp N).1;obtain⟨p,O,a,u,rfl,R,zb⟩:=L2.Paired.get (cO.same j M) N;have pm:=eK O;have tk:bk.take (i+1)=bk.take i++[p]:=by rw[dH,O];rfl
   refine⟨a,_,rfl,ay.of R,rfl,_,_,rfl,_,_,rfl,_,_,rfl,rfl,?_⟩;refine⟨_,rfl,_,rfl,bQ,λm xa=>?_⟩;have d:=aJ (o:=.tup [V.str p.1,V.str p.2.1]) xa;have I:upd Y m (.tup [V.str p.1,V.str p.2.1]) m=a2 ((kT p).map kV):=af;have ya:=d _ _ R;have J:=zb.same d;have r:=cx.same d l;have y:=d _ _ h1;generalize upd Y m (.tup [V.str p.1,V.str p.2.1])=S at d I ya J r y⊢;have xc:=r.length;have za:a' kvs (kT p)=none:=by
    rcases r.val (k:=p.1) (n:=p.2.1) with⟨z,_⟩|⟨v,zc,_,z2,_⟩
    ·exact z
    ·exfalso
     have T:((bk.take (i+1)).map c0).Nodup:=ok.nd.sublist (abV _ (ji _ _));rw[tk,a8]at T;exact(di.mp T).2.2 _ (a4.mpr ⟨_,z2,rfl⟩) (c0 p) (by simp) rfl
   refine⟨_,rfl,kvs,kT p,m,rfl,I,y,?_,Jv Z ⟨_,_,_,_,rfl,λb v e=>?_,af,?_⟩⟩
   ·rw[cH]at xc
    rw[aV];omega
   ·rw[ag (ax e B)];exact d _ _ (j _ _ e)
   ·rw[tk,iN _ za]
    have up:∀b xs,S b=a2 xs->upd S c (.dT (kvs++[(kT p,u)])) b=a2 xs:=λb xs e=>by rw[ag (aq e y)];exact e
    exact cx.snoc (k:=p.1) (n:=p.2.1) ((ok.ent p pm).keep J up) (r.keep up λq yc=>ok.ent q (oT yc))
  ·rintro g Y ⟨C,D,G,kvs,rfl,j,h1,l⟩
   rw[U,cz]at l;exact q c kvs Y B j h1 l
theorem IK{b:Fv}:k' (.str b) ((("" : Fv)::line).map V.str)=decide (b = "" \/ b∈line):=by
 rw[iM]
 by_cases e:b = "" \/ b∈line
 ·rw[cb e]
  exact cb (by rcases e with z|z;rw[z];exact aW;exact ba _ z)
 ·rw[ef e]
  exact ef (λz=>e (by rcases bH.mp z with y|y;exact .inl y;exact .inr y))
inductive qL(vs:List V)(H:Hp)(Q:VK)(E:XK):Prop
 |mk{t:EZ}{line:List Fv}{b:Fv}(_:vs=[.ref t,.str b])(_:H t=ih (.tup (line.map V.str)))(_:line.length<=200)(_:(b = "" \/ b∈line))(_:∀H',aw H H'->Q (.bl true) H'):qL vs H Q E
theorem ON:bf ["line","thing"] ["line","thing"] (aI sF):=bz
theorem Nb(F:aQ K "is_behind" "is_behind" sF f fd)(a:hO mg):aT P w K mg base aG 1 f fd ["line","thing"] qL:=by
 refine F.bG ON λQa A outer s H vs Q E l h=>?_
 ·obtain @⟨t,line,b,rfl,g,m,i,q⟩:=h
  intro X;refine⟨_,aA (aX (tZ (bT lP rfl a.mI lV (aa (pv 1) (aa (lX (v:=.ty "str") rfl a.str boot_str rfl) ah))) (pX (jA jt (pv 1) (bx Cv (b7 (aa bq ah)) (pv 0)) rfl)))),?_⟩;refine⟨_,rfl,⟨_,.inr ⟨"str",rfl⟩⟩,.str b,.ty "str",.type "str",.type "str",true,rfl,rfl,.inl (.str b),rfl,true,rfl,?_⟩;refine⟨_,rfl,eI,λc j=>?_⟩;have d:=aJ (o:=.tup [V.str ""]) j;refine⟨_,rfl,c,t,_,_,rfl,rfl,af,d _ _ g,by rw[aB,aV];show 1+_<=_;omega,λp H' k h'=>?_⟩
  have e:H' p=a2 ((("" : Fv)::line).map V.str):=h';refine⟨p,_,rfl,.inr (ay.of e),rfl,jv _,?_⟩;rw[ao b',IK,cb i];exact q H' (d.trans k)
inductive qM(vs:List V)(H:Hp)(Q:VK)(E:XK):Prop
 |mk{t:EZ}{line:List Fv}{b:Fv}(_:vs=[.ref t,.str b])(_:H t=ih (.tup (line.map V.str)))(_:line.length<=200)(_:(b = "" \/ b∈line))(_:∀H',aw H H'->Q .aK H'):qM vs H Q E
theorem OO:bf ["line","thing"] ["line","thing"] (aI tM):=bz
theorem Nc(F:aQ K "check_behind" "check_behind" tM f fd)(a:bF P w K mg base aG 1 fI dI ["line","thing"] qL "is_behind"):aT P w K mg base aG 2 f fd ["line","thing"] qM:=by
 refine F.bG OO λQa A outer s H vs Q E c h=>?_
 ·obtain @⟨t,line,b,rfl,d,e,g,q⟩:=h
  intro X;refine⟨_,aA (bh (hF (hE (a9 a c (aa (pv 0) (aa (pv 1) ah))))) sA bD),?_⟩;exact⟨_,rfl,_,rfl,qL.mk rfl d e g λY i=>⟨true,rfl,q Y i⟩⟩
inductive qs(C:EZ)(vs:List V)(H:Hp)(Q:VK)(E:XK):Prop
 |mk{x dl de dx:EZ}(_:vs=[.ref x,.ref dl,.ref de])(_:H x=ih (.ins C dx []))(_:∀dh,H dh=none->Q .aK (upd (upd H dh (.dT [])) x (.ins C dx (fF dl de dh 0)))):qs C vs H Q E
theorem Nd:bf ["self","lines","entries"] ["self","lines","entries"] (aI uE):=bz
theorem Mg(F:aQ K "__init__" "Finds.__init__" uE f fd)(T:jQ K mg C):aT P w K mg base aG 1 f fd ["self","lines","entries"] (qs C):=by
 refine F.bG Nd λQa A outer s H vs Q E i h=>?_
 ·obtain @⟨x,dl,de,dx,rfl,g,q⟩:=h
  intro X;refine⟨_,au (fU (pv 0) (pv 1) rfl) (au (fU (pv 0) (pv 2) rfl) (au (fU (pv 0) pw rfl) (aA (fU (pv 0) ar rfl)))),?_⟩;refine⟨_,rfl,_,rfl,x,C,dx,[],rfl,g,T.cl,T.nl,(by show 0<1000;decide),?_⟩
  refine⟨_,rfl,_,rfl,x,C,dx,_,rfl,af,T.cl,T.ne,(by show 1<1000;decide),?_⟩
  rw[fh];intro dh a;have c:x≠dh:=ax af a;refine⟨_,rfl,x,C,dx,_,rfl,by rw[ag c];exact af,T.cl,T.nh,(by show 2<1000;decide),?_⟩
  refine⟨_,rfl,x,C,dx,_,rfl,af,T.cl,T.nm,(by show 3<1000;decide),?_⟩
  rw[fh,Lc];have d:H dh=none:=by
   cases e:H dh with
   |none=>rfl
   |some u=>rw[ag (aS c),e]at a;cases a
  have e:∀o o':HO,upd (upd (upd H x o) dh (.dT [])) x o'=upd (upd H dh (.dT [])) x o':=λo o'=>by
   funext b
   by_cases h1:b=x
   ·subst h1;rw[af,af]
   ·rw[ag h1,ag h1]
    by_cases h2:b=dh
    ·subst h2;rw[af,af]
    ·rw[ag h2,ag h2,ag h1]
  rw[e];exact q dh d
theorem Ld{c:Bool}{a:Int}{tb:TE}{Q:VK}(hQ:Nat->Prop)(h1:c=true ->∃s:Nat,a=s/\hQ s)(h2:c=false->(∀s:Nat,hQ s->Q (.int s) H)->tb σ H Q)(b:∀s:Nat,hQ s->Q (.int s) H):if c=true then tC (.int a) σ H Q else tb σ H Q:=by
 cases c with
 |false=>exact h2 rfl b
 |true =>
  obtain⟨s,e,d⟩:=h1 rfl;show Q (.int a) H;rw[e];exact b s d
theorem s6{α:Type} [BEq α] [LawfulBEq α]{b:α}{line:ac α}(h:b∈line):line[line.idxOf b]?=ih b /\∀m,m<line.idxOf b->line[m]? ≠ ih b:=by
 have a:=List.idxOf_lt_length_iff.mpr h;refine⟨by rw[bw a,List.getElem_idxOf],λm c z=>?_⟩
 obtain⟨d,e⟩:=bZ.mp z;have:=List.not_of_lt_findIdx (p:=λx=>x==b) (xs:=line) (i:=m) c;simp[e]at this
theorem kA{bk:Bk}{l:ac Fv}(ok:gk bk):∀x d,cX bk n l=ih (x,d)->Nm x/\Ent d:=λx d h=>by
 have a:=kf (jD h).2;exact⟨(ok.nm _ a).1,ok.ent _ a⟩
inductive qb(C:EZ)(vs:List V)(H:Hp)(Q:VK)(E:XK):Prop
 |mk{x dx dl de dh a:EZ}{kl:List (Key×V)}{ke kh:List (List Key×V)}{m:Int}{bk:Bk}{kind name gp:Fv}{line:List Fv}(_:vs=[.ref x,.str kind,.str name,.str gp])(_:FI C x dx dl de dh kl ke kh m bk H)(_:a' kl (n' kind)=ih (.ref a))(_:H a=ih (.tup (line.map V.str)))(_:line.length<=200)(_:(gp = "" \/ gp∈line))(_:∀v m' H',(∀b u,b≠x->H b=ih u->H' b=ih u)->H' x=ih (.ins C dx (fF dl de dh m'))->eH H' v (cX bk name (d9 line gp))->Q v H'):qb C vs H Q E
abbrev PX:List Fv:=["self","kind","name","behind","line","start","other"]
theorem qN:bf PX ["self","kind","name","behind"] (aI uG):=bz
theorem Le(F:aQ K "walk" "Finds.walk" uG f fd)(T:jQ K mg C):aT P w K mg base aG 1 f fd ["self","kind","name","behind"] (qb C):=by
 refine F.bG qN λQa A outer s H vs Q E xh h=>?_
 ·obtain @⟨x,dx,dl,de,dh,a,yh,ye,kh,m,bk,ya,name,g,line,rfl,fi,zh,O,zk,xi,q⟩:=h
  have yi:=xh.units;have N:=eu yi;intro X;refine⟨_,au (aY 4 qN.nd (d0 N (ck (pv 0) rfl) (pv 1)))
   (au (aY 5 qN.nd (IU (bp c7 (pv 3) bq (bA _)) ar (bx eV (gc PySem.F.plainAttrs_tuple Vf PySem.F.type_tuple_index Iq (pv 4) (aa (pv 3) ah)) ar)))
   (au (eG d5 rfl (kC (iK Cu (pv 4) (ia (pv 5)) iQ)) (bb 6 qN.nd)
    (au (m7 (pv 0) ar pY)
    (aA (bh (fQ (iU N (b7 (aa (pv 6) (aa (pv 2) ah))) (ck (pv 0) rfl))) (aA (aX (b7 (aa (pv 6) (aa (d0 N (ck (pv 0) rfl) (b7 (aa (pv 6) (aa (pv 2) ah)))) ah))))) bD))))
   (aA (aX dQ)))),?_⟩
  refine⟨_,rfl,x,C,dx,_,.ref dl,rfl,fi.hx,T.cl,T.nl,B9,_,rfl,dl,.ref a,rfl,.inl ⟨yh,n' ya,.inl fi.hl,rfl,zh.symm⟩,?_⟩;refine⟨_,rfl,rfl,_,rfl,?_⟩;refine Ld (λR=>d9 line g=line.drop R) (λe=>⟨0,rfl,?_⟩) (λe k=>?_) ?_
  ·have e:=dJ e
   injection e with e;unfold d9;rw[aE e];rfl
  ·have za:g ≠ "" :=λz=>by rw[z]at e;exact absurd e (by rw[cb rfl];intro y;cases y)
   have zi:g∈line:=xi.resolve_left za;obtain⟨xj,yj⟩:=s6 zi;exact⟨_,rfl,.inr (.inr (.inr (.inr ⟨rfl,_,Rd.of O⟩))),_,rfl,a,line,g,line.idxOf g,rfl,rfl,ay.of O,xj,yj,_,_,rfl,rfl,k (line.idxOf g+1) (by unfold d9;rw[ao za])⟩
  intro R yf;refine⟨_,rfl,_,rfl,_,rfl,a,_,rfl,O,λsp H0 B l=>?_⟩;rw[nD,<-lB,<-yf]at l;obtain⟨rest,xf⟩:∃rest,d9 line g=rest:=⟨_,rfl⟩;rw[xf]at l q;have xb:=B _ _ fi.hx;refine⟨sp,rfl,⟨_,ay.of l⟩,JX (xs:=rest.map V.str) (λi σ Y=>∃(c:Int) (S:ad V),σ=[am x,ih (.str ya),ih (.str name),ih (.str g),am a,ih (.int R),S]/\(∀b u,b≠x->H0 b=ih u->Y b=ih u)/\Y x=ih (.ins C dx (fF dl de dh c)) /\∀y∈rest.take i,dU bk y name=none)
   ⟨m,none,rfl,λb u _ e=>e,xb,λy j=>(by cases j)⟩ (λi σ Y _ ⟨_,_,_,z,_⟩=>ay.of (z _ _ (aq l xb (by intro y;cases y)) l)) ?_ ?_⟩
  ·rintro i y σ Y j ⟨c,S,rfl,kp,I,no⟩
   obtain⟨yb,rfl⟩:=jz j;have zf:rest.take (i+1)=rest.take i++[rest[i]]:=by rw[dH,bw yb];rfl
   refine⟨_,rfl,x,C,dx,_,.int c,rfl,I,T.cl,T.nm,Mf,_,_,rfl,rfl,dx,_,I,by show 4<1000;decide,?_⟩
   rw[Me];have zb:∀b u,b≠x->H0 b=ih u->upd Y x (.ins C dx (fF dl de dh (c+1))) b=ih u:=λb u n e=>by rw[ag n];exact kp b u n e
   have xc:upd Y x (.ins C dx (fF dl de dh (c+1))) x=ih (.ins C dx (fF dl de dh (c+1))):=af;generalize upd Y x (.ins C dx (fF dl de dh (c+1)))=H2 at zb xc⊢;refine⟨_,rfl,_,rfl,bQ,λJ xg=>?_⟩;have U:=aJ (o:=.tup [V.str rest[i],V.str name]) xg;have yc:upd H2 J (.tup [V.str rest[i],V.str name]) J=a2 (([n' rest[i],n' name]:ac Key).map kV):=af;have p:=U _ _ xc;have r:∀b u,b≠x->H0 b=ih u->upd H2 J (.tup [V.str rest[i],V.str name]) b=ih u:=λb u n e=>U _ _ (zb b u n e);generalize upd H2 J (.tup [V.str rest[i],V.str name])=D at U yc p r⊢;have yg:de≠x:=aq fi.he fi.hx
   have zc:D de=ce ye:=r _ _ yg (B _ _ fi.he);have zj:cx D ye bk:=fi.du.keep (λb xs e=>r _ _ (aq e fi.hx) (B _ _ e)) fi.ok.ent
   refine⟨_,rfl,x,C,dx,_,.ref de,rfl,p,T.cl,T.ne,AD,de,_,rfl,b4.t (k:=[n' rest[i],n' name]) zc yc,_,rfl,?_⟩;rcases zj.look (k:=rest[i]) (n:=name) fi.ok.nd with⟨W,L⟩|⟨v,d,W,L,xk⟩
   ·rw[L]
    refine⟨c+1,_,rfl,r,p,λy j=>?_⟩;rw[zf]at j;rcases bI.mp j with z|z
    ·exact no y z
    ·rw[bL.mp z];exact W
   ·rw[L]
    refine⟨_,rfl,_,rfl,x,C,dx,_,.ref de,rfl,p,T.cl,T.ne,AD,_,rfl,_,rfl,bQ,λM zg=>?_⟩;have G:=aJ (o:=.tup [V.str rest[i],V.str name]) zg;have xd:upd D M (.tup [V.str rest[i],V.str name]) M=a2 (([n' rest[i],n' name]:ac Key).map kV):=af;have yd:=G _ _ zc;have zd:=G _ _ p;have ze:=xk.same G;have xe:∀b u,b≠x->H0 b=ih u->upd D M (.tup [V.str rest[i],V.str name]) b=ih u:=λb u n e=>G _ _ (r b u n e);generalize upd D M (.tup [V.str rest[i],V.str name])=xl at G xd yd zd ze xe⊢;refine⟨de,v,rfl,by rw[<-L];exact b4.t (k:=[n' rest[i],n' name]) yd xd,bQ,λt yk=>?_⟩
    have Z:=aJ (o:=.tup [V.str rest[i],v]) yk;have xa:cX bk name rest=ih (rest[i],d):=by
     conv=>lhs;rw[<-wC i rest,lr yb]
     rw[m5 (x:=rest[i]) _ no];exact CN W
    refine q (.ref t) (c+1) _ (λb u n e=>Z _ _ (xe b u n (B _ _ e))) (Z _ _ zd) ?_;rw[xa];exact⟨t,v,rfl,af,ze.same Z⟩
  ·rintro σ Y ⟨c,S,rfl,kp,I,no⟩
   rw[aB,cz]at no;refine q .aK c Y (λb u n e=>kp b u n (B _ _ e)) I ?_;have xa:cX bk name rest=none:=by
    have:=m5 (x:=name) rest no [];rw[eU]at this;exact this
   rw[xa];rfl
def iW(H:Hp)(kh:List (List Key×V))(bk:Bk)(L:Fv->List Fv):Prop:= ∀k n b v,a' kh [n' k,n' n,n' b]=ih v->eH H v (cX bk n (d9 (L k) b))
theorem iW.keep{bk:Bk}(h:iW H kh bk L)(ok:gk bk)(k:∀b xs,H b=a2 xs->H' b=a2 xs):iW H' kh bk L:=λa n b v e=>(h a n b v e).keep k λx d z=>(kA ok x d z).2
inductive mc(C:EZ)(vs:List V)(H:Hp)(Q:VK)(E:XK):Prop
 |mk{x dx dl de dh:EZ}{kl:List (Key×V)}{ke kh:List (List Key×V)}{m:Int}{bk:Bk}{kind name gp:Fv}{L:Fv->List Fv}(_:vs=[.ref x,.str kind,.str name,.str gp])(_:FI C x dx dl de dh kl ke kh m bk H)(_:gH H kl L kind)(_:(L kind).length<=200)(_:(gp = "" \/ gp∈L kind))(_:iW H kh bk L)(_:kh.length<=1000000)(_:∀v ey m' H',(∀b u,b≠x->b≠dh->H b=ih u->H' b=ih u)->FI C x dx dl de dh kl ke ey m' bk H'->iW H' ey bk L->ey.length<=kh.length+1->eH H' v (cX bk name (d9 (L kind) gp))->Q v H'):mc C vs H Q E
abbrev PY:List Fv:=["self","kind","name","behind","place"]
theorem D7:bf PY ["self","kind","name","behind"] (aI uF):=bz
theorem Lf{fW:EZ}(F:aQ K "look" "Finds.look" uF f fd)(T:jQ K mg C)(zd:aT P w K mg base aG 1 fW dW ["self","kind","name","behind"] (qb C))(xe:Meth K C "walk" fW)(ye:Binds K dW ["self","kind","name","behind"] []):aT P w K mg base aG 2 f fd ["self","kind","name","behind"] (mc C):=by
 refine F.bG D7 λQa A outer s H vs Q E za h=>?_
 ·obtain @⟨x,dx,dl,de,dh,xb,M,kh,m,bk,c,name,g,L,rfl,fi,⟨a,ze,xf⟩,yf,zf,xg,yh,q⟩:=h
  have yg:=za.units;have D:=eu yg;intro X;refine⟨_,au (aY 4 D7.nd (b7 (aa (pv 1) (aa (pv 2) (aa (pv 3) ah)))))
   (au (bh (fQ (pd D (pv 4) (ck (pv 0) rfl))) (aA (gx D (ck (pv 0) rfl) (pv 4) (hA (pv 0) T.cl xe zd za ye .nil cV (aa (pv 1) (aa (pv 2) (aa (pv 3) ah)))) rfl)) bD)
   (aA (aX (d0 D (ck (pv 0) rfl) (pv 4))))),?_⟩
  refine⟨_,rfl,_,rfl,_,rfl,gY,λpt xc=>?_⟩;have j:=aJ (o:=.tup [V.str c,V.str name,V.str g]) xc;have y:upd H pt (.tup [V.str c,V.str name,V.str g]) pt=a2 (([n' c,n' name,n' g]:ac Key).map kV):=af;generalize upd H pt (.tup [V.str c,V.str name,V.str g])=Y at j y⊢;have i:FI C x dx dl de dh xb M kh m bk Y:=⟨j _ _ fi.hx,j _ _ fi.hl,j _ _ fi.he,j _ _ fi.hh,fi.du.same j,fi.ok,fi.nn⟩;have G:iW Y kh bk L:=xg.keep fi.ok λb xs e=>j _ _ e;have S:x≠dh:=aq fi.hx fi.hh
  have yc:dl≠dh:=aq fi.hl fi.hh
  refine⟨_,rfl,_,rfl,x,C,dx,_,.ref dh,rfl,i.hx,T.cl,T.nh,pS,dh,_,rfl,b4.t (k:=[n' c,n' name,n' g]) i.hh y,_,rfl,?_⟩;cases yb:a' kh [n' c,n' name,n' g] with
  |some v =>
   refine⟨_,rfl,x,C,dx,_,.ref dh,rfl,i.hx,T.cl,T.nh,pS,_,rfl,dh,v,rfl,by rw[<-yb];exact b4.t (k:=[n' c,n' name,n' g]) i.hh y,?_⟩
   exact q v kh m Y (λb u _ _ e=>j _ _ e) i G (f6 _) (G c name g v yb)
  |none =>
   refine⟨_,rfl,x,dx,_,rfl,i.hx,uM (by decide +kernel) (by decide +kernel) (by decide +kernel) (by decide +kernel),_,rfl,_,rfl,_,rfl,qb.mk rfl i ze (j _ _ xf) yf zf λv zb H2 p U zc=>?_⟩
   have I:∀b xs,Y b=a2 xs->H2 b=a2 xs:=λb xs e=>p _ _ (aq e i.hx) e
   have W:=p _ _ (aS S) i.hh;have Z:=I _ _ y;have zg:cx H2 M bk:=i.du.keep I fi.ok.ent;refine⟨_,rfl,x,C,dx,_,.ref dh,rfl,U,T.cl,T.nh,pS,_,rfl,dh,_,rfl,eR.t (k:=[n' c,n' name,n' g]) W Z (by rw[aV];omega),?_⟩
   have J:upd H2 dh (.dT (putK kh [n' c,n' name,n' g] v)) dh=ce (putK kh [n' c,n' name,n' g] v):=af;have l:∀b u,b≠dh->H2 b=ih u->upd H2 dh (.dT (putK kh [n' c,n' name,n' g] v)) b=ih u:=λb u n e=>by rw[ag n];exact e
   generalize upd H2 dh (.dT (putK kh [n' c,n' name,n' g] v))=r at J l⊢;have B:∀b xs,H2 b=a2 xs->r b=a2 xs:=λb xs e=>l _ _ (aq e W) e
   have xa:=l _ _ S U;have xd:FI C x dx dl de dh xb M (putK kh [n' c,n' name,n' g] v) zb bk r:=⟨xa,l _ _ yc (p _ _ (aq i.hl i.hx) i.hl),l _ _ fi.nn (p _ _ (aq i.he i.hx) i.he),J,zg.keep B fi.ok.ent,fi.ok,fi.nn⟩
   have ya:eH r v (cX bk name (d9 (L c) g)):=zc.keep B λx d z=>(kA fi.ok x d z).2;have yd:iW r (putK kh [n' c,n' name,n' g] v) bk L:=λk n b u e=>by
    rw[kr]at e
    by_cases z:([n' k,n' n,n' b]:ac Key)=[n' c,n' name,n' g]
    ·rw[aE z]at e
     cases e
     injection z with N z;injection z with O z;injection z with R z;injection N with N;injection O with O;injection R with R;rw[N,O,R];exact ya
    ·rw[ao z]at e
     exact((G k n b u e).keep I λx d z=>(kA fi.ok x d z).2).keep B λx d z=>(kA fi.ok x d z).2
   refine⟨_,rfl,x,C,dx,_,.ref dh,rfl,xa,T.cl,T.nh,pS,_,rfl,dh,v,rfl,?_,?_⟩
   ·have:=b4.t (k:=[n' c,n' name,n' g]) J (B _ _ Z)
    rw[kr,aE rfl]at this;exact this
   ·exact q v _ zb r (λb u n1 xh e=>l _ _ xh (p _ _ n1 (j _ _ e))) xd yd (lH _ _ _) ya
structure FB(H:Hp)(t tb:EZ)(o:Yy)(ws wb:List V)(Qc:List (Fv×List Fv))(L:Fv->List Fv)(bk:Bk):Prop where
 ht:H t=ih (.bu o (.tup ws))
 od:o.dict=none
 fv:c' H ws Qc
 fo:jJ Qc L
 hb:H tb=ih (.tup wb)
 bv:cO H wb bk
 ok:gk bk
theorem FB.same{t tb:EZ}{bk:Bk}(h:FB H t tb o ws wb Qc L bk)(S:aw H H'):FB H' t tb o ws wb Qc L bk:=
 ⟨S _ _ h.ht,h.od,h.fv.same S,h.fo,S _ _ h.hb,cO.same S h.bv,h.ok⟩
theorem FB.a3{t tb:EZ}{bk:Bk}(h:FB H t tb o ws wb Qc L bk){k:Fv}(a:k∈Qc.map (·.1)):(L k).length<=200:=by
 obtain⟨p,b,rfl⟩:=a4.mp a;obtain⟨_,q,_,e,c⟩:=h.fo.line p b;rw[e,cS];omega
inductive qO(C:EZ)(vs:List V)(H:Hp)(Q:VK)(E:XK):Prop
 |mk{t tb:EZ}{o:Yy}{ws wb:List V}{Qc:List (Fv×List Fv)}{L:Fv->List Fv}{bk:Bk}(_:vs=[.ref t,.ref tb])(_:FB H t tb o ws wb Qc L bk)(_:∀x dx dl de dh kl ke H',aw H H'->FI C x dx dl de dh kl ke [] 0 bk H'->(∀p∈Qc,gH H' kl L p.1)->H x=none->H dh=none->Q (.ref x) H'):qO C vs H Q E
theorem OP:bf ["family","book"] ["family","book"] (aI sU):=bz
theorem Nf(F:aQ K "finds_in" "finds_in" sU f fd)(T:jQ K mg C)
  (R:bF P w K mg base aG 5 fL dL ["family"] pR "lines_of")
  (S:bF P w K mg base aG 1 fE dE ["book"] qJ "entries_by_place")
  (M:Mk K C fI) (U:aT P w K mg base aG 1 fI dI ["self","lines","entries"] (qs C)) (V:Binds K dI ["self","lines","entries"] []):aT P w K mg base aG 6 f fd ["family","book"] (qO C):=by
 refine F.bG OP λQa A outer s H vs Q E W h=>?_
 ·obtain @⟨t,tb,o,ws,wb,Qc,L,bk,rfl,c,q⟩:=h
  have i:aZ 5 _:=W;have B:aZ 2 _:=i.mono (by decide)
  have D:aZ 1 _:=i.mono (by decide)
  intro X;refine⟨_,aA (aX (tu M U B rfl T.oB V .nil cV (aa (a9 R i (aa (pv 0) ah)) (aa (a9 S D (aa (pv 1) ah)) ah)))),?_⟩;refine⟨_,rfl,pR.mk rfl c.ht c.fv c.fo λdl Z Y zb v h1 G _=>?_⟩;have j:=c.same v;refine⟨_,rfl,qJ.mk rfl j.hb j.bv j.ok λde xa H2 xc m h2 ya=>?_⟩;intro x dx n I ne;have za:=aJ (o:=.own x) I;have J:upd H2 dx (.own x) x=none:=by rw[ag (aS ne)];exact n
  have g:=za.trans (aJ (o:=.ins C dx []) J);have k:upd (upd H2 dx (.own x)) x (.ins C dx []) x=ih (.ins C dx []):=af;generalize upd (upd H2 dx (.own x)) x (.ins C dx [])=y at g k⊢;refine qs.mk rfl k λdh d=>⟨rfl,?_⟩;have z:=aJ (o:=.dT []) d;have N:x≠dh:=ax k d;have r:upd y dh (.dT []) dh=ce []:=af;generalize upd y dh (.dT [])=xb at z r⊢;have l:=v.trans m;have O:=g.trans z;have a:∀b u,H2 b=ih u->upd xb x (.ins C dx (fF dl de dh 0)) b=ih u:=λb u e=>by rw[ag (ax e n)];exact O _ _ e
  refine q x dx dl de dh Z xa _ (λb u e=>a _ _ (l _ _ e)) ⟨af,a _ _ (m _ _ h1),a _ _ h2,by rw[ag (aS N)];exact r,ya.same a,c.ok,?_⟩ (λp yb=>(G p yb).same λb u e=>a _ _ (m _ _ e)) (l.free n) ((l.trans g).free d)
  exact ax (g _ _ h2) d
abbrev Own:=List (Fv×Int)
abbrev Ask:=Fv×Fv
inductive Rs where
 |told (z:Int):Rs
 |miss (n:Fv):Rs
def jF(d:UC):Bool:=decide (a7 d = "ahead" \/ a7 d = "shut")
structure aO where
 line:List Fv
 bk:Bk
 own:Own
namespace aO
variable(W:aO)
def look(a:Ask):Option (Fv×UC):=cX W.bk a.1 (d9 W.line a.2)
def eS(a:Ask):Bool:=match W.look a with|none=>true|some p=>!jF p.2
def cQ(a:Ask):Option Int:=if a.2 = "" /\ W.eS a=true then W.own.lookup a.1 else none
def need(n w:Fv)(d:UC):Option Ask:=if a7 d = "ask" then ih (dX d,"") else if a7 d = "onward" then (if (W.look (n,w)).isSome then ih (n,w) else none) else none
end aO
def stepT(t:Int)(d:UC):Int:=if a7 d = "add" then t+kS d else if a7 d = "times" then t * kS d else t
def aO.dz(W:aO)(f:Ask->Option Rs)(n w:Fv):List UC->Int->Option Rs
 |[],t=>ih (.told t)
 |d::ds,t=>match W.need n w d with
  |none=>W.dz f n w ds (stepT t d)
  |some b=>match f b with
   |none=>none
   |some (.miss m)=>ih (.miss m)
   |some (.told z)=>W.dz f n w ds (t+z)
def aO.cg(W:aO)(f:Ask->Option Rs)(a:Ask):Option Rs:=match W.cQ a with
 |some z=>ih (.told z)
 |none=>match W.look a with
  |none=>ih (.miss a.1)
  |some (w,d)=>W.dz f a.1 w (cc d) 0
def aO.out(W:aO):Nat->Ask->Option Rs
 |0,_=>none
 |k+1,a=>W.cg (W.out k) a
def aO.Out(W:aO)(a:Ask)(r:Rs):Prop:= ∃k,W.out k a=ih r
section
variable{W:aO}{f g:Ask->Option Rs}{w:Fv}
theorem nE(h:∀a r,f a=ih r->g a=ih r):∀{ds:ac UC}{t:Int}{r:Rs},W.dz f n w ds t=ih r->W.dz g n w ds t=ih r
 |[],t,r,e=>e
 |d::ds,t,r,e=>by
  unfold aO.dz at e⊢;cases i:W.need n w d with
  |none=>rw[i]at e;exact nE h e
  |some b =>
   rw[i]at e
   dsimp only at e⊢
   cases c:f b with
   |none=>rw[c]at e;cases e
   |some x =>
    have j:=h b x c;rw[j];rw[c]at e;cases x with
    |miss m=>exact e
    |told z=>exact nE h e
theorem HH(h:∀a r,f a=ih r->g a=ih r){a:Ask}{r:Rs}(e:W.cg f a=ih r):W.cg g a=ih r:=by
 unfold aO.cg at e⊢;cases b:W.cQ a with
 |some z=>rw[b]at e;exact e
 |none =>
  rw[b]at e;cases c:W.look a with
  |none=>rw[c]at e;exact e
  |some p=>rw[c]at e;exact nE h e
theorem B':∀{k:Nat}{a:Ask}{r:Rs},W.out k a=ih r->W.out (k+1) a=ih r
 |0,_,_,h=>by cases h
 |k+1,_,_,h=>HH (λ_ _=>B') h
theorem md{k m:Nat}{a:Ask}{r:Rs}(b:k<=m)(h:W.out k a=ih r):W.out m a=ih r:=by
 induction b with
 |refl=>exact h
 |step _ c=>exact B' c
theorem Out.uniq{a:Ask}{r b:Rs}(h:W.Out a r)(h':W.Out a b):r=b:=by
 obtain⟨k,c⟩:=h;obtain⟨m,d⟩:=h';rcases Nat.le_total k m with z|z
 ·have:=md z c;rw[d]at this;exact(cG this).symm
 ·have:=md z d;rw[c]at this;exact cG this
theorem Out.own{a:Ask}(h:W.cQ a=ih z):W.Out a (.told z):=⟨1,by show W.cg _ a=_;unfold aO.cg;rw[h]⟩
theorem Out.none{a:Ask}(h:W.cQ a=none)(b:W.look a=none):W.Out a (.miss a.1):=⟨1,by show W.cg _ a=_;unfold aO.cg;rw[h,b]⟩
structure bc where
 a:Ask
 w:Fv
 left:List UC
 t:Int
structure bO(W:aO)(f:bc):Prop where
 up:∀k r,W.dz (W.out k) f.a.1 f.w f.left f.t=ih r->W.Out f.a r
 dn:∀k r,W.out (k+1) f.a=ih r->W.dz (W.out k) f.a.1 f.w f.left f.t=ih r
 lk:W.cQ f.a=none /\∃d pre,W.look f.a=ih (f.w,d)/\cc d=pre++f.left /\∀s∈pre,∀b,W.need f.a.1 f.w s=ih b ->∃r,W.Out b r
theorem bO.new{a:Ask}{w:Fv}{d:UC}(h:W.cQ a=none)(b:W.look a=ih (w,d)):bO W ⟨a,w,cc d,0⟩:=by
 have e:∀k,W.out (k+1) a=W.dz (W.out k) a.1 w (cc d) 0:=λk=>by show W.cg _ a=_;unfold aO.cg;rw[h,b]
 exact⟨λk r z=>⟨k+1,(e k).trans z⟩,λk r z=>(e k).symm.trans z,h,d,[],b,rfl,λ_ c=>(by cases c)⟩
theorem bO.behind{f:bc}{d:UC}{ds:ac UC}(h:bO W f)(e:f.left=d::ds)(i:∀b,W.need f.a.1 f.w d=ih b ->∃r,W.Out b r):W.cQ f.a=none /\∃c pre,W.look f.a=ih (f.w,c)/\cc c=pre++ds /\∀s∈pre,∀b,W.need f.a.1 f.w s=ih b ->∃r,W.Out b r:=by
 obtain⟨h1,c,pre,h2,j,k⟩:=h.lk;exact⟨h1,c,pre++[d],h2,by rw[j,e,mS];rfl,λs l b g=>by
  rcases bI.mp l with z|z
  ·exact k s z b g
  ·rw[bL.mp z]at g;exact i b g⟩
theorem bO.step{f:bc}{d:UC}{ds:ac UC}(h:bO W f)(e:f.left=d::ds)(c:W.need f.a.1 f.w d=none):bO W ⟨f.a,f.w,ds,stepT f.t d⟩:=by
 have e1:∀k,W.dz (W.out k) f.a.1 f.w f.left f.t=W.dz (W.out k) f.a.1 f.w ds (stepT f.t d):=λk=>by rw[e];show(match W.need f.a.1 f.w d with|none=>_|some b=>_)=_;rw[c]
 exact⟨λk r z=>h.up k r ((e1 k).trans z),λk r z=>(e1 k).symm.trans (h.dn k r z),h.behind e λb g=>(by rw[c]at g;cases g)⟩
theorem gP{a:Ask->Option Rs}{d:UC}{ds:ac UC}{t:Int}{b:Ask}(c:W.need n w d=ih b):W.dz a n w (d::ds) t=match a b with|none=>none|some (.miss m)=>ih (.miss m)|some (.told z)=>W.dz a n w ds (t+z):=by
 show(match W.need n w d with|none=>_|some b=>_)=_;rw[c]
theorem bO.take{f:bc}{d:UC}{ds:ac UC}{b:Ask}(h:bO W f)(e:f.left=d::ds)(i:W.need f.a.1 f.w d=ih b)(l:W.Out b (.told z)):bO W ⟨f.a,f.w,ds,f.t+z⟩:=by
 obtain⟨m,j⟩:=l;refine⟨λk r y=>h.up (max k m) r ?_,λk r y=>?_,h.behind e λn c=>(by rw[i]at c;cases c;exact⟨_,m,j⟩)⟩
 ·rw[e,gP i,md (aay k m) j]
  exact nE (λ_ _ q=>md (aaM k m) q) y
 ·have g:=h.dn k r y
  rw[e,gP i]at g;cases c:W.out k b with
  |none=>rw[c]at g;cases g
  |some x =>
   have:=Out.uniq (W:=W) ⟨k,c⟩ ⟨m,j⟩;subst this;rw[c]at g;exact g
theorem bO.miss{f:bc}{d:UC}{ds:ac UC}{b:Ask}{m:Fv}(h:bO W f)(e:f.left=d::ds)(c:W.need f.a.1 f.w d=ih b)(g:W.Out b (.miss m)):W.Out f.a (.miss m):=by
 obtain⟨k,i⟩:=g;exact h.up k _ (by rw[e,gP c,i])
theorem bO.done{f:bc}(h:bO W f)(e:f.left=[]):W.Out f.a (.told f.t):=h.up 0 _ (by rw[e];rfl)
theorem bO.Dv{f:bc}{d:UC}{ds:ac UC}{b:Ask}(h:bO W f)(e:f.left=d::ds)(c:W.need f.a.1 f.w d=ih b){k:Nat}{r:Rs}(g:W.out (k+1) f.a=ih r):∃i,W.out k b=ih i:=by
 have y:=h.dn k r g;rw[e,gP c]at y;cases j:W.out k b with
 |none=>rw[j]at y;cases y
 |some x=>exact⟨x,rfl⟩
def gB(W:aO)(f:bc):Option Ask:=match f.left with | []=>none|d::_=>W.need f.a.1 f.w d
def Chain(W:aO):List bc->Ask->Prop
 |[],_=>True
 |[f],b=>gB W f=ih b
 |f::g::r,b=>gB W f=ih g.a/\Chain W (g::r) b
theorem ki{W:aO}{f:bc}{b:Ask}(h:gB W f=ih b):∃d ds,f.left=d::ds/\W.need f.a.1 f.w d=ih b:=by
 unfold gB at h;cases e:f.left with
 |nil=>rw[e]at h;cases h
 |cons d ds=>rw[e]at h;exact⟨d,ds,rfl,h⟩
theorem AE{m:Fv}:∀{fs:ac bc}{b a:Ask},(∀f∈fs,bO W f)->Chain W fs b->(fs.head?.map (·.a)).getD b=a->W.Out b (.miss m)->W.Out a (.miss m)
 |[],b,a,_,_,e,h=>by cases e;exact h
 |[f],b,a,ok,c,e,h=>by
  cases e
  obtain⟨d,ds,e1,e2⟩:=ki c;exact(ok f aW).miss e1 e2 h
 |f::g::r,b,a,ok,c,e,h=>by
  cases e
  obtain⟨d,ds,e1,e2⟩:=ki c.1;exact(ok f aW).miss e1 e2 (AE (λx i=>ok x (ba _ i)) c.2 rfl h)
theorem sx:∀{fs:ac bc}{b:Ask},(∀f∈fs,bO W f)->Chain W fs b ->∀{f:bc}{k:Nat}{r:Rs},fs.head?=ih f->W.out k f.a=ih r ->∃i j,i<k/\W.out i b=ih j
 |[],_,_,_,_,_,_,h,_=>by cases h
 |[f],b,ok,c,_,k,r,h,e=>by
  cases h
  obtain⟨d,ds,e1,e2⟩:=ki c;cases k with
  |zero=>cases e
  |succ k=>obtain⟨j,m⟩:=(ok f aW).Dv e1 e2 e;exact⟨k,j,j4 _,m⟩
 |f::g::l,b,ok,c,_,k,r,h,e=>by
  cases h
  obtain⟨d,ds,e1,e2⟩:=ki c.1;cases k with
  |zero=>cases e
  |succ k =>
   obtain⟨j,m⟩:=(ok f aW).Dv e1 e2 e;obtain⟨i,n,p,o⟩:=sx (λx q=>ok x (ba _ q)) c.2 rfl m;exact⟨i,n,ly p,o⟩
theorem JL{fs:ac bc}{f:bc}{b:Ask}(ok:∀f∈fs,bO W f)(c:Chain W fs b)(h:fs.head?=ih f)(e:f.a=b):∀k,W.out k b=none:=by
 intro k
 induction k using Zz with
 |_ k g =>
  cases i:W.out k b with
  |none=>rfl
  |some r =>
   obtain⟨j,m,l,d⟩:=sx ok c h (e ▸ i);rw[g j l]at d;cases d
theorem AF:∀{fs gs:ac bc}{b:Ask},Chain W (fs++gs) b->Chain W gs b
 |[],_,_,c=>c
 |[f],[],_,_=>trivial
 |[f],g::gs,b,c=>c.2
 |f::g::r,gs,b,c=>AF (fs:=g::r) c.2
theorem m6:∀{fs:ac bc}{b a:Ask},(∀f∈fs,bO W f)->Chain W fs b->(fs.head?.map (·.a)).getD b=a->(∀k,W.out k b=none) ->∀k,W.out k a=none
 |[],b,a,_,_,e,d,k=>by cases e;exact d k
 |f::l,b,a,ok,c,e,d,k=>by
  cases e
  cases g:W.out k f.a with
  |none=>exact g
  |some r =>
   obtain⟨i,j,_,h⟩:=sx ok c rfl g;rw[d i]at h;cases h
end
def b9(as:List Ask):List Fv:=(as.filter λa=>decide (a.2=("" : Fv))).map (·.1)
def eO(W:aO)(a:Ask)(ns:List Fv):Prop:= ∃(fs:List bc) (b:Ask) (i:Nat),(∀f∈fs,bO W f)/\Chain W fs b/\(fs.head?.map (·.a)).getD b=a/\(fs.map (·.a)).Nodup/\(fs.map (·.a))[i]?=ih b/\ns=b9 ((fs.map (·.a)).drop i)
theorem JM{W:aO}{fs:ac bc}{a b:Ask}(ok:∀f∈fs,bO W f)(c:Chain W fs b)(e:(fs.head?.map (·.a)).getD b=a)(d:(fs.map (·.a)).Nodup)(hi:(fs.map (·.a))[i]?=ih b):eO W a (b9 ((fs.map (·.a)).drop i)):=⟨fs,b,i,ok,c,e,d,hi,rfl⟩
theorem tV{W:aO}{fs:ac bc}{b:Ask}(ok:∀f∈fs,bO W f)(c:Chain W fs b)(hi:(fs.map (·.a))[i]?=ih b):(fs.drop i).head?.map (·.a)=ih b/\(∀f∈fs.drop i,bO W f)/\Chain W (fs.drop i) b /\∀k,W.out k b=none:=by
 have e:Chain W (fs.drop i) b:=AF (fs:=fs.take i) (by rw[wC];exact c)
 have d:∀f∈fs.drop i,bO W f:=λf h=>ok f (oU h);have h2:(fs.drop i).head?.map (·.a)=ih b:=by rw[List.head?_drop,<-cI];exact hi
 obtain⟨g,j,l⟩:=gu.mp h2;exact⟨h2,d,e,JL d e j l⟩
theorem eO.core{W:aO}{a:Ask}(h:eO W a ns):(∀k,W.out k a=none) /\∃(fs:ac bc) (b:Ask),fs.head?.map (·.a)=ih b/\(∀f∈fs,bO W f)/\Chain W fs b/\(fs.map (·.a)).Nodup/\ns=b9 (fs.map (·.a)):=by
 obtain⟨fs,b,i,ok,c,e,g,hi,rfl⟩:=h;obtain⟨h2,d,j,l⟩:=tV ok c hi;exact⟨m6 ok c e l,fs.drop i,b,h2,d,j,by rw[lB];exact g.sublist (VC _ _),by rw[lB]⟩
abbrev Th:=Fv×Fv×Own
def iu(H:Hp)(vs:List V)(own:Own):Prop:=VM (λv q=>∃c,v=V.ref c/\H c=ih (.tup [.str q.1,.int q.2])) vs own
def gW(H:Hp)(vs:List V)(bN:List Th):Prop:=VM (λv p=>∃a b us,v=V.ref a/\H a=ih (.tup [.str p.1,.str p.2.1,.ref b])/\H b=ih (.tup us)/\iu H us p.2.2) vs bN
theorem iu.keep{own:Own}(h:iu H vs own)(k:∀b xs,H b=a2 xs->H' b=a2 xs):iu H' vs own:=Paired.imp' (λ_ _ ⟨c,e,q⟩=>⟨c,e,k _ _ q⟩) h
theorem gW.keep{c:ac Th}(h:gW H vs c)(k:∀b xs,H b=a2 xs->H' b=a2 xs):gW H' vs c:=Paired.imp' (λ_ _ d=>by obtain⟨a,b,us,e,q,r,o⟩:=d;exact ⟨a,b,us,e,k _ _ q,k _ _ r,o.keep k⟩) h
theorem gW.same{a:ac Th}(h:gW H vs a)(S:aw H H'):gW H' vs a:=h.keep λ_ _ e=>S _ _ e
structure iB(H:Hp)(w t tb tt:EZ)(wt:List V)(bN:List Th):Prop where
 hw:H w=ih (.tup [.ref t,.ref tb,.ref tt])
 ht:H tt=ih (.tup wt)
 tv:gW H wt bN
 a3:bN.length<=5
 nm:∀p∈bN,Nm p.1
 nd:(bN.map (·.1)).Nodup
theorem iB.same{w t tb:EZ}{a:ac Th}(h:iB H w t tb tt wt a)(S:aw H H'):iB H' w t tb tt wt a:=⟨S _ _ h.hw,S _ _ h.ht,h.tv.same S,h.a3,h.nm,h.nd⟩
inductive qP(vs:List V)(H:Hp)(Q:VK)(E:XK):Prop
 |mk{x t tb tt:EZ}{wt:List V}{bN:List Th}{th:Fv}(_:vs=[.ref x,.str th])(_:iB H x t tb tt wt bN)(_:Nm th)(_:∀H',aw H H'->Q (.bl (decide (th∈bN.map (·.1)))) H'):qP vs H Q E
theorem OQ:bf ["world","thing"] ["world","thing"] (aI ny):=bz
def Dw(e:Vp):Vp:=match e with|.Compare _ _ (r::_) _=>r|_=>.Constant .none 0 ⟨0,0,0,0⟩
abbrev PZ:Vp:=Dw (uk (mr (bR (bE ny) 0)) 1)
theorem D8:b6 ["world","thing"] (aI ny) ["triple"] [none] (cB PZ):=c8
theorem Ng(F:aQ K "is_thing" "is_thing" ny f fd)(z:bF P w K mg base aG 1 fN dN ["thing"] l9 "is_name"):aT P w K mg base aG 2 f fd ["world","thing"] qP:=by
 refine F.bG OQ λQa A outer s H vs Q E B h=>?_
 ·obtain @⟨x,t,tb,tt,wt,u,th,rfl,h,n,q⟩:=h
  intro X;refine⟨_,aA (aX (tZ (a9 z B (aa (pv 1) ah)) (pX (jA jt (pv 1) (dZ rfl D8 (kC (aU bj (pv 0) ar)) (λs H fp=>⟨bb 0 D8.nd,ei,aU (jx K rfl) (pv 0) ar (λ_ _=>rfl)⟩)) rfl)))),?_⟩;refine⟨_,rfl,l9.mk rfl n λY k=>⟨true,rfl,ite_tt rfl ?_⟩⟩;have h1:=h.same k;have a3:=h.a3;have r:=cK h.tv;refine⟨_,rfl,_,rfl,x,_,2,_,rfl,rfl,ay.of h1.hw,og,tt,rfl,⟨_,ay.of h1.ht⟩,λc l=>?_⟩;refine lQ (xs:=wt) (λi ys d H2=>∃j:ad V,d=[j]/\aw Y H2/\H2 c=bd ys/\ys=((u.take i).map (·.1)).map V.str) ⟨none,rfl,aJ l,af,rfl⟩ (λi ys d H2 ⟨_,_,C,D,_⟩=>⟨D,ay.of (C _ _ h1.ht)⟩) ?_ ?_
  ·rintro i y ys d H2 m ⟨j,rfl,g,h2,rfl⟩
   have v:i<wt.length:=(bZ.mp m).1;obtain⟨p,G,a,b,us,rfl,I,_⟩:=L2.Paired.get (h1.tv.same g) m;refine⟨_,rfl,a,_,0,_,rfl,rfl,ay.of I,b8,h2,by rw[aB,aB,cH,aV];omega,cw_next v ⟨_,rfl,λb o e=>by rw[ag (ax e l)];exact g _ _ e,af,?_⟩⟩
   rw[dH,G,a8,a8];rfl
  ·rintro ys d H2 ⟨j,rfl,g,h2,rfl⟩
   rw[r,cz]at h2;refine⟨c,_,rfl,.inl (aj.of h2),rfl,jv _,?_⟩;rw[ao b',iM];exact q _ (k.trans g)
inductive qQ(vs:List V)(H:Hp)(Q:VK)(E:XK):Prop
 |mk{x t tb tt:EZ}{wt:List V}{bN:List Th}{th:Fv}(_:vs=[.ref x,.str th])(_:iB H x t tb tt wt bN)(_:th∈bN.map (·.1))(_:∀H',aw H H'->Q .aK H'):qQ vs H Q E
theorem OR:bf ["world","thing"] ["world","thing"] (aI tN):=bz
theorem Nh(F:aQ K "check_thing" "check_thing" tN f fd)(b:bF P w K mg base aG 2 fI dI ["world","thing"] qP "is_thing"):aT P w K mg base aG 3 f fd ["world","thing"] qQ:=by
 refine F.bG OR λQa A outer s H vs Q E c h=>?_
 ·obtain @⟨x,t,tb,tt,wt,i,th,rfl,h,a,q⟩:=h
  intro X;refine⟨_,aA (bh (hF (hE (a9 b c (aa (pv 0) (aa (pv 1) ah))))) sA bD),?_⟩;obtain⟨p,d,e⟩:=a4.mp a;refine⟨_,rfl,_,rfl,qP.mk rfl h (e ▸ h.nm p d) λY g=>⟨true,?_,q Y g⟩⟩;rw[cb a]
def rA(H:Hp)(vs:List V)(bN:List Th):Prop:=VM (λv p=>∃r b us,v=V.ref r/\H r=ih (.tup [.str p.2.1,.ref b])/\H b=ih (.tup us)/\iu H us p.2.2) vs bN
theorem rA.keep{c:ac Th}(h:rA H vs c)(k:∀b xs,H b=a2 xs->H' b=a2 xs):rA H' vs c:=Paired.imp' (λ_ _ d=>by obtain⟨a,b,us,e,q,r,o⟩:=d;exact ⟨a,b,us,e,k _ _ q,k _ _ r,o.keep k⟩) h
inductive qR(vs:List V)(H:Hp)(Q:VK)(E:XK):Prop
 |mk{x t tb tt:EZ}{wt:List V}{bN:List Th}{th:Th}(_:vs=[.ref x,.str th.1])(_:iB H x t tb tt wt bN)(_:th∈bN)(_:∀r b us H',aw H H'->H' r=ih (.tup [.str th.2.1,.ref b])->H' b=ih (.tup us)->iu H' us th.2.2->Q (.ref r) H'):qR vs H Q E
theorem OS:bf ["world","thing"] ["world","thing"] (aI nz):=bz
def OT(e:Vp):Vp:=match e with|.Subscript o _ _=>o|_=>.Constant .none 0 ⟨0,0,0,0⟩
abbrev P0:Vp:=OT (mr (bR (bE nz) 1))
theorem D9:b6 ["world","thing"] (aI nz) ["triple","thing"] [none,ih 1] (cB P0):=c8
theorem Ni{a:ac Th}(b:(a.map (·.1)).Nodup){p q:Th}(c:p∈a)(d:q∈a)(e:p.1=q.1):p=q:=by
 induction a with
 |nil=>cases c
 |cons x a f =>
  rw[b2,d4]at b;rcases bH.mp c with h1|rB
  ·rcases bH.mp d with h2|vF
   ·rw[h1,h2]
   ·exact absurd (a4.mpr ⟨q,vF,by rw[<-e,h1]⟩) b.1
  ·rcases bH.mp d with h2|vF
   ·exact absurd (a4.mpr ⟨p,rB,by rw[e,h2]⟩) b.1
   ·exact f b.2 rB vF
theorem Nj(F:aQ K "kind_and_own" "kind_and_own" nz f fd)(Z:bF P w K mg base aG 3 fC dC ["world","thing"] qQ "check_thing"):aT P w K mg base aG 4 f fd ["world","thing"] qR:=by
 refine F.bG OS λQa A outer s H vs Q E xa h=>?_
 ·obtain @⟨x,t,tb,tt,wt,d,th,rfl,h,m,q⟩:=h
  intro X;refine⟨_,au (eF (a9 Z xa (aa (pv 0) (aa (pv 1) ah))))
   (aA (aX (aU dw (dZ rfl D9 (kC (aU bj (pv 0) ar)) (λs H fp=>⟨bb 0 D9.nd,iL (bp c7 (aU (jx K rfl) (pv 0) ar) (pv 1) (bA _)),iK Cu (pv 0) (ia ar) iQ⟩)) ar))),?_⟩
  refine⟨_,rfl,_,rfl,qQ.mk rfl h (a4.mpr ⟨th,m,rfl⟩) λY L=>?_⟩;have h1:=h.same L;have a3:=h.a3;have S:=cK h.tv;refine⟨_,rfl,x,_,2,_,rfl,rfl,ay.of h1.hw,og,tt,rfl,⟨_,ay.of h1.ht⟩,λc M=>?_⟩;refine lQ (xs:=wt) (λi ys l H2=>∃n:ad V,l=[n,ih (.str th.1)]/\aw Y H2/\H2 c=bd ys/\rA H2 ys ((d.take i).filter λp=>decide (p.1=th.1))) ⟨none,rfl,aJ M,af,.nil⟩ (λi ys l H2 ⟨_,_,z1,z2,_⟩=>⟨z2,ay.of (z1 _ _ h1.ht)⟩) ?_ ?_
  ·rintro i y ys l H2 N ⟨n,rfl,j,h2,g⟩
   have G:i<wt.length:=(bZ.mp N).1;obtain⟨p,u,a,b,us,rfl,O,B,ow⟩:=L2.Paired.get (h1.tv.same j) N;have tk:d.take (i+1)=d.take i++[p]:=by rw[dH,u];rfl
   have yl:=cK g;have R:((d.take i).filter λp=>decide (p.1=th.1)).length<=(d.take i).length:=gM _ _;rw[cH]at R;refine⟨_,rfl,a,_,0,_,rfl,rfl,ay.of O,b8,_,rfl,rfl,_,rfl,?_⟩;refine bW (λe=>?_) (λe=>?_)
   ·have e:p.1=th.1:=by
     have:=dJ e;injection this
    refine⟨_,rfl,1,rfl,a,_,rfl,O,λr C k D=>?_⟩;have D:C r=a2 [.str p.2.1,.ref b]:=D;have I:=k _ _ h2;have up:∀{zs:ac V} b xs,C b=a2 xs->upd C c (.lst zs) b=a2 xs:=λb xs e=>by rw[ag (aq e I)];exact e
    refine⟨I,by rw[aV];omega,cw_next G ⟨_,rfl,λb o e=>by rw[ag (ax e M)];exact k _ _ (j _ _ e),af,?_⟩⟩
    rw[tk,gN,oS (by simp[e])]
    exact gL ((g.keep λb xs e=>k _ _ e).keep up) ⟨r,b,us,rfl,up _ _ D,up _ _ (k _ _ B),(ow.keep λb xs e=>k _ _ e).keep up⟩
   ·have e : ¬ p.1=th.1:=λz=>e (cb (by rw[z]))
    refine cw_next G ⟨_,rfl,j,h2,?_⟩;rw[tk,gN,rX (by simp[e])]
    simpa using g
  ·rintro ys l H2 ⟨n,rfl,j,h2,g⟩
   rw[S,cz]at g;have J:th∈d.filter λp=>decide (p.1=th.1):=fc.mpr ⟨m,cb rfl⟩;generalize ya:(d.filter λp=>decide (p.1=th.1))=R at g J;cases g with
   |nil=>cases J
   |@cons v p vs fs za _ =>
    have u:p∈d.filter λp=>decide (p.1=th.1):=by rw[ya];exact aW
    obtain⟨T,U⟩:=fc.mp u;obtain rfl:=Ni h.nd T m (dJ U);obtain⟨r,b,us,rfl,W,B,ow⟩:=za;exact⟨c,_,0,.ref r,rfl,rfl,aj.of h2,b8,q r b us H2 (L.trans j) W B ow⟩
def fW(fi ow kp kn:EZ)(kd:Fv)(bg:Int):List (Fv×V):=[("finds",.ref fi),("kind",.str kd),("own",.ref ow),("kept",.ref kp),("known",.ref kn),("begun",.int bg)]
section
variable{fi kp kn:EZ}{kd:Fv}
theorem Lg:b3 "begun" (.int 0) (b3 "known" (.ref kn) (b3 "kept" (.ref kp) (b3 "own" (.ref ow) (b3 "kind" (.str kd) (b3 "finds" (.ref fi) [])))))=fW fi ow kp kn kd 0:=rfl
theorem s7:(fW fi ow kp kn kd bg).lookup ("finds" : Fv)=ih (V.ref fi):=rfl
theorem tW:(fW fi ow kp kn kd bg).lookup ("kind" : Fv)=ih (V.str kd):=rfl
theorem Dc:(fW fi ow kp kn kd bg).lookup ("own" : Fv)=ih (V.ref ow):=rfl
theorem iP:(fW fi ow kp kn kd bg).lookup ("known" : Fv)=ih (V.ref kn):=rfl
theorem Lh:(fW fi ow kp kn kd bg).lookup ("forebears" : Fv)=none:=rfl
theorem Li:(fW fi ow kp kn kd bg).lookup ("tell" : Fv)=none:=rfl
end
structure hR(K:Ym)(mg:Fv->Option i')(C:EZ):Prop where
 cl:gn K C
 nf:d6 K C "finds"
 nk:d6 K C "kind"
 no:d6 K C "own"
 np:d6 K C "kept"
 nn:d6 K C "known"
 nb:d6 K C "begun"
 oB:mg "Whole" = ih (.ref C)
inductive qt(C:EZ)(vs:List V)(H:Hp)(Q:VK)(E:XK):Prop
 |mk{x fi ow kp dx:EZ}{kd:Fv}(_:vs=[.ref x,.ref fi,.str kd,.ref ow,.ref kp])(_:H x=ih (.ins C dx []))(_:H kp=ih (.dT []))(_:∀kn,H kn=none->Q .aK (upd (upd H kn (.dT [])) x (.ins C dx (fW fi ow kp kn kd 0)))):qt C vs H Q E
abbrev oh:List Fv:=["self","finds","kind","own","kept"]
theorem Nk:bf oh oh (aI ug):=bz
theorem Mh(F:aQ K "__init__" "Whole.__init__" ug f fd)(k:hO mg)(T:hR K mg C):aT P w K mg base aG 1 f fd oh (qt C):=by
 refine F.bG Nk λQa A outer s H vs Q E l h=>?_
 ·obtain @⟨x,fi,ow,kp,dx,kd,rfl,c,d,q⟩:=h
  have i:kp≠x:=aq d c
  intro X;refine⟨_,au (fU (pv 0) (pv 1) rfl) (au (fU (pv 0) (pv 2) rfl) (au (fU (pv 0) (pv 3) rfl) (au (fU (pv 0) (pv 4) rfl) (au (fU (pv 0) (dq HC rfl k.dict boot_dict (aa (pv 4) ah)) rfl) (aA (fU (pv 0) ar rfl)))))),?_⟩;refine⟨_,rfl,_,rfl,x,C,dx,[],rfl,c,T.cl,T.nf,(by show 0<1000;decide),?_⟩
  refine⟨_,rfl,_,rfl,x,C,dx,_,rfl,af,T.cl,T.nk,(by show 1<1000;decide),?_⟩
  rw[fh];refine⟨_,rfl,_,rfl,x,C,dx,_,rfl,af,T.cl,T.no,(by show 2<1000;decide),?_⟩
  rw[fh];refine⟨_,rfl,_,rfl,x,C,dx,_,rfl,af,T.cl,T.np,(by show 3<1000;decide),?_⟩
  rw[fh];refine⟨_,rfl,kp,rfl,by rw[ag i];exact d,λkn a=>?_⟩
  have g:x≠kn:=ax af a;refine⟨_,rfl,x,C,dx,_,rfl,by rw[ag g];exact af,T.cl,T.nn,(by show 4<1000;decide),?_⟩
  refine⟨_,rfl,x,C,dx,_,rfl,af,T.cl,T.nb,(by show 5<1000;decide),?_⟩
  rw[fh,Lg];have j:H kn=none:=by
   cases e:H kn with
   |none=>rfl
   |some u=>rw[ag (aS g),e]at a;cases a
  have e:∀o o':HO,upd (upd (upd H x o) kn (.dT [])) x o'=upd (upd H kn (.dT [])) x o':=λo o'=>by
   funext b
   by_cases h1:b=x
   ·subst h1;rw[af,af]
   ·rw[ag h1,ag h1]
    by_cases h2:b=kn
    ·subst h2;rw[af,af]
    ·rw[ag h2,ag h2,ag h1]
  rw[e];exact q kn j
structure WI(C D x dx fi fx dl de dh ow kp kn:EZ)(kd:Fv)(bg:Int)(kl ko:List (Key×V))(ke kh kk:List (List Key×V))(m:Int)(bk:Bk)(H:Hp):Prop where
 n3:x≠fi
 hx:H x=ih (.ins C dx (fW fi ow kp kn kd bg))
 fi:FI D fi fx dl de dh kl ke kh m bk H
 ho:H ow=ih (.dK ko)
 hk:H kn=ih (.dT kk)
 n1:kn≠de
 n2:kn≠dh
inductive qc(C D:EZ)(vs:List V)(H:Hp)(Q:VK)(E:XK):Prop
 |mk{x dx fi fx dl de dh ow kp kn a:EZ}{kd:Fv}{bg:Int}{kl ko:List (Key×V)}{ke kh kk:List (List Key×V)}{m:Int}{bk:Bk}(_:vs=[.ref x])(_:WI C D x dx fi fx dl de dh ow kp kn kd bg kl ko ke kh kk m bk H)(_:a' kl (n' kd)=ih (.ref a))(_:Q (.ref a) H):qc C D vs H Q E
theorem Mi:bf ["self"] ["self"] (aI sk):=bz
theorem Lj(F:aQ K "forebears" "Whole.forebears" sk f fd)(T:hR K mg C)(b:jQ K mg D):aT P w K mg base aG 1 f fd ["self"] (qc C D):=by
 refine F.bG Mi λQa A outer s H vs Q E c h=>?_
 ·obtain @⟨x,dx,fi,d,dl,de,dh,ow,kp,kn,a,kd,bg,g,j,k,kh,kk,m,bk,rfl,h,e,q⟩:=h
  have i:=c.units;intro X;refine⟨_,aA (aX (d0 (eu i) (ck (ck (pv 0) rfl) rfl) (ck (pv 0) rfl))),?_⟩;refine⟨_,rfl,x,C,dx,_,.ref fi,rfl,h.hx,T.cl,T.nf,s7,fi,D,d,_,.ref dl,rfl,h.fi.hx,b.cl,b.nl,B9,_,rfl,x,C,dx,_,.str kd,rfl,h.hx,T.cl,T.nk,tW,dl,.ref a,rfl,.inl ⟨g,n' kd,.inl h.fi.hl,rfl,e.symm⟩,q⟩
end ew
namespace L2
open W
theorem Mj:uW X .Mult (rI n5 λi j=>.int (i * j)):=λJ s σ H x y u v Q I a b h=>JZ J s σ H x y u v Q I a b h
end L2
namespace ew
open L2 W HT
theorem tX{u:V}{d:UC}(e:Ent d)(r:Rep H u d):∃a xs,u=.ref a/\H a=a2 (.str (a7 d)::xs):=by
 cases e with
 |plain n=>obtain⟨a,u,rfl,b,_⟩:=two1 r;exact⟨a,_,rfl,b⟩
 |behind ds=>obtain⟨a,u,rfl,b,_⟩:=two1 r;exact⟨a,_,rfl,b⟩
 |jP ds=>obtain⟨a,u,rfl,b,_⟩:=two1 r;exact⟨a,_,rfl,b⟩
 |ahead x n =>
  obtain⟨a,vs,rfl,b,rs⟩:=r.tupI;obtain⟨f,g,rfl,c,rs⟩:=rs.e6;obtain rfl:=c.gV;exact⟨a,_,rfl,b⟩
theorem s8{d:UC}(e:Ent d):(∀s∈cc d,ed s)/\(cc d).length<=4:=by
 cases e with
 |plain n h=>exact⟨λs a=>by rw[bL.mp a];exact .add n h,by show 1<=4;decide⟩
 |ahead x n h c =>
  refine⟨λs a=>?_,by show 2<=4;decide⟩
  rcases bH.mp a with z|z
  ·rw[z];exact .ask x h
  ·rw[bL.mp z];exact .add n c
 |behind ds b a=>exact⟨a,b⟩
 |jP ds b a=>exact⟨a,b⟩
theorem pT{u:V}{d:UC}(e:ed d)(r:Rep H u d):∃a xs,u=.ref a/\H a=a2 (.str (a7 d)::xs)/\(a7 d = "add" \/ a7 d = "times" -> xs=[.int (kS d)])/\(a7 d = "ask" -> xs=[.str (dX d)])/\(a7 d = "times" -> -9<=kS d/\kS d<=9):=by
 cases e with
 |add n =>
  obtain⟨a,u,rfl,b,c⟩:=two1 r;obtain rfl:=c.ir;exact⟨a,_,rfl,b,λ_=>rfl,λz=>absurd z (by show ¬ ((("add" : Fv)) = "ask");decide +kernel),λz=>absurd z (by show ¬ ((("add" : Fv)) = "times");decide +kernel)⟩
 |times n lo hi =>
  obtain⟨a,u,rfl,b,c⟩:=two1 r;obtain rfl:=c.ir;exact⟨a,_,rfl,b,λ_=>rfl,λz=>absurd z (by show ¬ ((("times" : Fv)) = "ask");decide +kernel),λ_=>⟨lo,hi⟩⟩
 |ask x =>
  obtain⟨a,u,rfl,b,c⟩:=two1 r;obtain rfl:=c.gV;exact⟨a,_,rfl,b,λz=>absurd z (by show ¬ ((("ask" : Fv)) = "add" \/ (("ask" : Fv)) = "times");decide +kernel),λ_=>rfl,λz=>absurd z (by show ¬ ((("ask" : Fv)) = "times");decide +kernel)⟩
 |ma =>
  obtain⟨a,vs,rfl,b,rs⟩:=r.tupI;obtain⟨g,h,rfl,f,rs⟩:=rs.e6;obtain rfl:=rs.mu;obtain rfl:=f.gV;exact⟨a,_,rfl,b,λz=>absurd z (by show ¬ ((("onward" : Fv)) = "add" \/ (("onward" : Fv)) = "times");decide +kernel),λz=>absurd z (by show ¬ ((("onward" : Fv)) = "ask");decide +kernel),λz=>absurd z (by show ¬ ((("onward" : Fv)) = "times");decide +kernel)⟩
inductive qS(vs:List V)(H:Hp)(Q:VK)(E:XK):Prop
 |mk{u:V}{d:UC}(_:vs=[u])(_:Ent d)(_:Rep H u d)(_:∀H',aw H H'->Q (.bl (jF d)) H'):qS vs H Q E
theorem OU:bf ["entry"] ["entry"] (aI sj):=bz
theorem Nl(F:aQ K "goes_first" "goes_first" sj f fd):aT P w K mg base aG 1 f fd ["entry"] qS:=by
 refine F.bG OU λQa A outer s H vs Q E j h=>?_
 ·obtain @⟨u,d,rfl,b,r,q⟩:=h
  intro X;refine⟨_,aA (aX (jA jt (aU bj (pv 0) ar) (b7 (aa bq (aa bq ah))) rfl)),?_⟩;obtain⟨a,xs,rfl,g⟩:=tX b r;refine⟨_,rfl,a,_,0,_,rfl,rfl,ay.of g,b8,bQ,λc i=>?_⟩;refine⟨c,_,rfl,.inr (ay.of af),rfl,rfl,?_⟩;have e:k' (.str (a7 d)) ((["ahead","shut"]:ac Fv).map V.str)=jF d:=by rw[iM];unfold jF;exact decide_eq_decide.mpr (by simp)
  have:=q _ (aJ (o:=.tup [V.str "ahead",V.str "shut"]) i);rw[<-e]at this;exact this
inductive qT(vs:List V)(H:Hp)(Q:VK)(E:XK):Prop
 |mk{u:V}{d:UC}(_:vs=[u])(_:Ent d)(_:Rep H u d)(_:a7 d ≠ "plain")(_:∀r us H',aw H H'->H' r=ih (.tup us)->bJ H' us (cc d)->Q (.ref r) H'):qT vs H Q E
theorem OV:bf ["entry"] ["entry"] (aI sT):=bz
theorem Nn(F:aQ K "steps_of" "steps_of" sT f fd):aT P w K mg base aG 1 f fd ["entry"] qT:=by
 refine F.bG OV λQa A outer s H vs Q E G h=>?_
 ·obtain @⟨u,d,rfl,l,r,m,q⟩:=h
  intro X;refine⟨_,au (bh (bp c7 (aU bj (pv 0) ar) bq (bA _)) (aA (aX (b7 (aa (b7 (aa bq (aa (aU bj (pv 0) ar) ah))) (aa (b7 (aa bq (aa (aU bj (pv 0) ar) ah))) ah))))) bD)
   (aA (aX (aU bj (pv 0) ar))),?_⟩
  cases l with
  |plain n=>exact absurd rfl m
  |ahead x n h I =>
   obtain⟨a,vs,rfl,c,rs⟩:=r.tupI;obtain⟨J,L,rfl,p,rs⟩:=rs.e6;obtain⟨M,N,rfl,e,rs⟩:=rs.e6;obtain⟨O,R,rfl,t,rs⟩:=rs.e6;obtain rfl:=rs.mu;obtain rfl:=p.gV;obtain rfl:=e.gV;obtain rfl:=t.ir;refine⟨_,rfl,a,_,0,_,rfl,rfl,ay.of c,b8,rfl,_,rfl,?_⟩;refine⟨_,rfl,a,_,1,_,rfl,rfl,ay.of c,cP,bQ,λv h1=>?_⟩;have j:=aJ (o:=.tup [V.str "ask",.str x]) h1;refine⟨_,rfl,a,_,2,_,rfl,rfl,ay.of (j _ _ c),og,bQ,λy h2=>⟨bQ,λz B=>?_⟩⟩;have k:=aJ (o:=.tup [V.str "add",.int n]) h2;have g:=aJ (o:=.tup [V.ref v,.ref y]) B;exact q z _ _ (j.trans (k.trans g)) af (.cons (.tup (g _ _ (k _ _ af)) (.cons (.str _) (.cons (.str _) .nil))) (.cons (.tup (g _ _ af) (.cons (.str _) (.cons (.int _) .nil))) .nil))
  |behind ds C D =>
   obtain⟨a,u,rfl,c,e⟩:=two1 r;obtain⟨b,vs,rfl,i,rs⟩:=e.tupI;exact⟨_,rfl,a,_,0,_,rfl,rfl,ay.of c,b8,rfl,_,rfl,_,rfl,a,_,1,_,rfl,rfl,ay.of c,cP,q b vs H (aw.refl _) i rs⟩
  |jP ds C D =>
   obtain⟨a,u,rfl,c,e⟩:=two1 r;obtain⟨b,vs,rfl,i,rs⟩:=e.tupI;exact⟨_,rfl,a,_,0,_,rfl,rfl,ay.of c,b8,rfl,_,rfl,_,rfl,a,_,1,_,rfl,rfl,ay.of c,cP,q b vs H (aw.refl _) i rs⟩
def fR(ta lf rs:EZ)(wh:Fv)(t:Int):List (Fv×V):=[("asking",.ref ta),("where",.str wh),("left",.ref lf),("total",.int t),("rested",.ref rs)]
section
variable{ta lf rs:EZ}{t t':Int}
theorem um:b3 "total" (.int t') (fR ta lf rs wh t)=fR ta lf rs wh t':=rfl
theorem qd:(fR ta lf rs wh t).lookup ("asking" : Fv)=ih (V.ref ta):=rfl
theorem Ca:(fR ta lf rs wh t).lookup ("where" : Fv)=ih (V.str wh):=rfl
theorem pU:(fR ta lf rs wh t).lookup ("left" : Fv)=ih (V.ref lf):=rfl
theorem pH:(fR ta lf rs wh t).lookup ("total" : Fv)=ih (V.int t):=rfl
theorem Bq:(fR ta lf rs wh t).lookup ("rested" : Fv)=ih (V.ref rs):=rfl
end
structure iw(K:Ym)(mg:Fv->Option i')(C:EZ):Prop where
 cl:gn K C
 na:d6 K C "asking"
 nw:d6 K C "where"
 nl:d6 K C "left"
 nt:d6 K C "total"
 nr:d6 K C "rested"
 oB:mg "Reckoning" = ih (.ref C)
inductive qU(C:EZ)(vs:List V)(H:Hp)(Q:VK)(E:XK):Prop
 |mk{x ta ts dx:EZ}{wh n b:Fv}{us:List V}(_:vs=[.ref x,.ref ta,.str wh,.ref ts])(_:H x=ih (.ins C dx []))(_:H ta=ih (.tup [.str n,.str b]))(_:H ts=ih (.tup us))
  (_:∀lf rs H',H lf=none->H rs=none->lf≠rs->(∀y u,y≠x->H y=ih u->H' y=ih u)->H' x=ih (.ins C dx (fR ta lf rs wh 0))->H' lf=ih (.lst us)->H' rs=ih (.lst [.str n])->Q .aK H'):qU C vs H Q E
abbrev oC:List Fv:=["self","asking","where","steps"]
theorem OW:bf oC oC (aI uh):=bz
theorem Np(F:aQ K "__init__" "Reckoning.__init__" uh f fd)(B:df mg)(T:iw K mg C):aT P w K mg base aG 1 f fd oC (qU C):=by
 refine F.bG OW λQa A outer s H vs Q E L h=>?_
 ·obtain @⟨x,ta,D,dx,wh,n,b,us,rfl,j,r,t,q⟩:=h
  intro X;refine⟨_,au (fU (pv 0) (pv 1) rfl) (au (fU (pv 0) (pv 2) rfl) (au (fU (pv 0) (dq kb rfl B.list boot_list (aa (pv 3) ah)) rfl) (au (fU (pv 0) ar rfl) (aA (fU (pv 0) (ej (aa (aU bj (pv 1) ar) ah)) rfl))))),?_⟩;have I:D≠x:=aq t j
  have J:ta≠x:=aq r j
  refine⟨_,rfl,_,rfl,x,C,dx,[],rfl,j,T.cl,T.na,(by show 0<1000;decide),?_⟩
  refine⟨_,rfl,_,rfl,x,C,dx,_,rfl,af,T.cl,T.nw,(by show 1<1000;decide),?_⟩
  rw[fh];refine⟨_,rfl,D,us,rfl,.inr (ay.of (by rw[ag I];exact t)),λlf g=>?_⟩
  have c:x≠lf:=ax af g;have m:H lf=none:=by rw[ag (aS c)]at g;exact g
  refine⟨_,rfl,x,C,dx,_,rfl,by rw[ag c];exact af,T.cl,T.nl,(by show 2<1000;decide),?_⟩
  refine⟨_,rfl,x,C,dx,_,rfl,af,T.cl,T.nt,(by show 3<1000;decide),?_⟩
  rw[fh];have k:∀u,upd (upd (upd H x (.ins C dx (b3 "where" (.str wh) (b3 "asking" (.ref ta) [])))) lf (.lst us)) x u x=ih u:=λu=>af;have l:∀u,upd (upd (upd H x (.ins C dx (b3 "where" (.str wh) (b3 "asking" (.ref ta) [])))) lf (.lst us)) x u lf=bd us:=λu=>by rw[ag (aS c)];exact af
  have d:∀u y o,y≠x->H y=ih o->upd (upd (upd H x (.ins C dx (b3 "where" (.str wh) (b3 "asking" (.ref ta) [])))) lf (.lst us)) x u y=ih o:=λu y o n e=>by rw[ag n,ag (ax e m),ag n];exact e
  generalize (upd (upd (upd H x (.ins C dx (b3 "where" (.str wh) (b3 "asking" (.ref ta) [])))) lf (.lst us)) x)=G at k l d⊢;refine⟨_,rfl,ta,_,0,_,rfl,rfl,ay.of (d _ _ _ J r),b8,eI,λrs a=>?_⟩;have i:x≠rs:=ax (k _) a;have v:lf≠rs:=ax (l _) a;have p:H rs=none:=by
   cases e:H rs with
   |none=>rfl
   |some o=>rw[d _ _ _ (aS i) e]at a;cases a
  refine⟨_,rfl,x,C,dx,_,rfl,by rw[ag i];exact k _,T.cl,T.nr,(by show 4<1000;decide),?_⟩
  refine q lf rs _ m p v (λy u n e=>?_) (by rw[af];rfl) (by rw[ag (aS c),ag v];exact l _) (by rw[ag (aS i)];exact af)
  rw[ag n,ag (ax e p)];exact d _ _ _ n e
inductive qV(C:EZ)(vs:List V)(H:Hp)(Q:VK)(E:XK):Prop
 |mk{x ta lf rs dx:EZ}{wh:Fv}{t:Int}{u:V}{d:UC}(_:vs=[.ref x,u])(_:H x=ih (.ins C dx (fR ta lf rs wh t)))(_:ed d)(_:Rep H u d)(_:∀H',(∀y o,y≠x->H y=ih o->H' y=ih o)->H' x=ih (.ins C dx (fR ta lf rs wh (stepT t d)))->Q .aK H'):qV C vs H Q E
theorem OX:bf ["self","step"] ["self","step"] (aI tT):=bz
theorem Nq(F:aQ K "step_by" "Reckoning.step_by" tT f fd)(T:iw K mg C):aT P w K mg base aG 1 f fd ["self","step"] (qV C):=by
 refine F.bG OX λQa A outer s H vs Q E k h=>?_
 ·obtain @⟨x,ta,lf,rs,dx,wh,t,u,d,rfl,b,st,r,q⟩:=h
  intro X;refine⟨_,au (bh (bp c7 (aU bj (pv 1) ar) bq (bA _)) (aA (m7 (pv 0) (aU bj (pv 1) ar) pY)) bD)
   (aA (bh (bp c7 (aU bj (pv 1) ar) bq (bA _)) (aA (m7 (pv 0) (aU bj (pv 1) ar) Mj)) bD)),?_⟩
  obtain⟨a,xs,rfl,c,h1,h2,j⟩:=pT st r;have i:a≠x:=aq c b
  refine⟨_,rfl,a,_,0,_,rfl,rfl,ay.of c,b8,rfl,_,rfl,?_⟩;refine bW (λe=>?_) (λe=>?_)
  ·have e:a7 d = "add" :=by
    have:=dJ e;injection this
   obtain rfl:=h1 (.inl e);have g:stepT t d=t+kS d:=by unfold stepT;rw[aE e]
   rw[g]at q;refine⟨_,rfl,x,C,dx,_,.int t,rfl,b,T.cl,T.nt,pH,_,rfl,a,_,1,_,rfl,rfl,ay.of c,cP,_,_,rfl,rfl,dx,_,b,by show 5<1000;decide,?_⟩
   rw[um];refine⟨_,rfl,a,_,0,_,rfl,rfl,ay.of (by rw[ag i];exact c),b8,rfl,_,rfl,?_⟩
   exact bW (λz=>absurd z (by rw[e];decide +kernel)) (λ_=>q _ (λy o n z=>by rw[ag n];exact z) af)
  ·have e : ¬ a7 d = "add" :=λz=>e (by rw[z];exact cb rfl)
   refine⟨_,rfl,a,_,0,_,rfl,rfl,ay.of c,b8,rfl,_,rfl,?_⟩;refine bW (λe2=>?_) (λe2=>?_)
   ·have e2:a7 d = "times" :=by
     have:=dJ e2;injection this
    obtain rfl:=h1 (.inr e2);have g:stepT t d=t * kS d:=by unfold stepT;rw[ao e,aE e2]
    rw[g]at q;have l:=j e2;refine⟨_,rfl,x,C,dx,_,.int t,rfl,b,T.cl,T.nt,pH,_,rfl,a,_,1,_,rfl,rfl,ay.of c,cP,_,_,rfl,rfl,.inr ⟨by omega,by omega⟩,dx,_,b,by show 5<1000;decide,?_⟩
    rw[um];exact q _ (λy o n z=>by rw[ag n];exact z) af
   ·have e2 : ¬ a7 d = "times" :=λz=>e2 (by rw[z];exact cb rfl)
    have g:stepT t d=t:=by unfold stepT;rw[ao e,ao e2]
    rw[g]at q;exact q _ (λy o n z=>z) b
inductive qW(C:EZ)(vs:List V)(H:Hp)(Q:VK)(E:XK):Prop
 |mk{x ta lf rs dx tt ns:EZ}{wh:Fv}{t z:Int}{y:V}{rv nv:List V}(_:vs=[.ref x,.ref tt])(_:H x=ih (.ins C dx (fR ta lf rs wh t)))(_:H rs=ih (.lst rv))(_:H tt=ih (.tup [y,.int z,.ref ns]))(_:H ns=ih (.tup nv))(_:rv.length+nv.length<=1000)
  (_:∀H',(∀y o,y≠x->y≠rs->H y=ih o->H' y=ih o)->H' x=ih (.ins C dx (fR ta lf rs wh (t+z)))->H' rs=ih (.lst (rv++nv))->Q .aK H'):qW C vs H Q E
theorem OY:bf ["self","told"] ["self","told"] (aI tU):=bz
theorem Nr(F:aQ K "take_in" "Reckoning.take_in" tU f fd)(T:iw K mg C):aT P w K mg base aG 1 f fd ["self","told"] (qW C):=by
 refine F.bG OY λQa A outer s H vs Q E p h=>?_
 ·obtain @⟨x,ta,lf,rs,dx,tt,ns,wh,t,z,y,i,j,rfl,a,d,b,g,r,q⟩:=h
  intro X;refine⟨_,au (m7 (pv 0) (aU bj (pv 1) ar) pY)
   (aA (eF (gc hg PySem.F.slot_list_extend PySem.F.type_list_extend HE (ck (pv 0) rfl) (aa (aU bj (pv 1) ar) ah)))),?_⟩
  have n1:rs≠x:=aq d a
  have k:tt≠x:=aq b a
  have l:ns≠x:=aq g a
  refine⟨_,rfl,x,C,dx,_,.int t,rfl,a,T.cl,T.nt,pH,_,rfl,tt,_,1,_,rfl,rfl,ay.of b,cP,_,_,rfl,rfl,dx,_,a,by show 5<1000;decide,?_⟩
  rw[um];have c:upd H x (.ins C dx (fR ta lf rs wh (t+z))) rs=bd i:=by rw[ag n1];exact d
  refine⟨_,rfl,x,C,dx,_,.ref rs,rfl,af,T.cl,T.nr,Bq,.inl ⟨rfl,_,aj.of c⟩,_,rfl,tt,_,2,_,rfl,rfl,ay.of (by rw[ag k];exact b),og,rs,ns,i,j,rfl,rfl,c,by rw[ag l];exact g,by rw[aV];omega,?_⟩
  exact q _ (λy o m n e=>by rw[ag n,ag m];exact e) (by rw[ag (aS n1)];exact af) af
def c1(own:Own):List (Key×V):=gb (own.map λq=>(q.1,V.int q.2))
theorem nL(n:Fv):∀own:Own,a' (c1 own) (n' n)=(own.lookup n).map V.int:=by
 intro own
 induction own with
 |nil=>rfl
 |cons p own a =>
  show a' ((n' p.1,V.int p.2)::c1 own) (n' n)=(((p.1,p.2)::own).lookup n).map V.int
  by_cases e:p.1=n
  ·rw[fg (by rw[e]),dg,show(n==p.1)=true by simp[e]];rfl
  ·rw[eN (λz=>e (gq z)),a,dg,show(n==p.1)=false by simp[aS e]]
def bX(a:Ask):List Key:=[n' a.1,n' a.2]
theorem Cb{a b:Ask}(h:bX a=bX b):a=b:=by
 unfold bX at h;injection h with h1 h2;injection h2 with c _;exact vV (gq h1) (gq c)
def j2(H:Hp)(NU:List Fv)(kk:List (List Key×V))(ka:List (Ask×Int)):Prop:=VM (λkv p=>kv.1=bX p.1 /\∃(t:EZ) (y:V) (ns:EZ) (nv:List Fv),kv.2=V.ref t/\H t=ih (.tup [y,.int p.2,.ref ns])/\H ns=ih (.tup (nv.map V.str))/\nv.Nodup /\∀y∈nv,y∈NU) kk ka
theorem j2.keep{ka:ac (Ask×Int)}(h:j2 H NU kk ka)(k:∀b xs,H b=a2 xs->H' b=a2 xs):j2 H' NU kk ka:=Paired.imp' (λ_ _ d=>by obtain⟨e,t,y,ns,a,e1,e2,e3,c⟩:=d;exact ⟨e,t,y,ns,a,e1,k _ _ e2,k _ _ e3,c⟩) h
theorem j2.val{ka:ac (Ask×Int)}(h:j2 H NU kk ka)(a:Ask):(a' kk (bX a)=none /\∀z,(a,z)∉ ka) \/∃(v:V) (z:Int) (t:EZ) (y:V) (ns:EZ) (b:ac Fv),a' kk (bX a)=ih v/\(a,z)∈ka/\v=V.ref t/\H t=a2 [y,.int z,.ref ns]/\H ns=a2 (b.map V.str)/\b.Nodup /\∀y∈b,y∈NU:=by
 induction h with
 |nil=>exact .inl ⟨rfl,λz h=>by cases h⟩
 |@cons g p kk ka e _ j =>
  obtain⟨i,t,y,ns,b,e1,e2,e3,k,e5⟩:=e
  by_cases c:p.1=a
  ·exact .inr ⟨g.2,p.2,t,y,ns,b,fg (by rw[i,c]),by rw[<-c];exact aW,e1,e2,e3,k,e5⟩
  ·have ne : ¬ g.1=bX a:=λz=>c (Cb (i.symm.trans z))
   rcases j with⟨d,f⟩|⟨v,z,t,y,ns,b,d,f,l⟩
   ·refine .inl ⟨by rw[eN ne];exact d,λz m=>?_⟩
    rcases bH.mp m with y|y
    ·exact c (by rw[<-y])
    ·exact f z y
   ·exact .inr ⟨v,z,t,y,ns,b,by rw[eN ne];exact d,ba _ f,l⟩
def UA(W:aO)(NU:List Fv)(a:Ask):Prop:=a.1∈NU/\(a.2 = "" \/ a.2∈W.line)
structure gZ(W:aO)(NU:List Fv):Prop where
 bk:gk W.bk
 ask:∀p∈W.bk,∀s∈cc p.2.2,a7 s = "ask" -> dX s∈NU
 nm:∀n∈NU,Nm n
 a3:NU.length<=20
 ln:W.line.length<=9
 lm:∀k∈W.line,Nm k
structure Wh where
 (x dx fi fx dl de dh ow kp kn:EZ)
 (kd:Fv)
 (kl:List (Key×V))
 (ke:List (List Key×V))
 (W:aO)
 (L:Fv->List Fv)
 (NU:List Fv)
structure cf(C D:EZ)(S:Wh)(bg m:Int)(kh kk kq:List (List Key×V))(ka:List (Ask×Int))(H:Hp):Prop where
 n3:S.x≠S.fi
 hx:H S.x=ih (.ins C S.dx (fW S.fi S.ow S.kp S.kn S.kd bg))
 fi:FI D S.fi S.fx S.dl S.de S.dh S.kl S.ke kh m S.W.bk H
 ho:H S.ow=ih (.dK (c1 S.W.own))
 hk:H S.kn=ih (.dT kk)
 hq:H S.kp=ih (.dT kq)
 n1:S.kn≠S.de/\S.kn≠S.dh/\S.kp≠S.de/\S.kp≠S.dh/\S.kn≠S.kp
 ln:gH H S.kl S.L S.kd
 el:S.L S.kd=S.W.line
 mJ:iW H kh S.W.bk S.L
 kv:j2 H S.NU kk ka
 ok:∀p∈ka,S.W.Out p.1 (.told p.2)
 nd:(ka.map (·.1)).Nodup
 ee:∀p∈ka,UA S.W S.NU p.1
 ql:kq.length<=kk.length
def Kp(S:Wh)(H H':Hp):Prop:= ∀b o,b≠S.fi->b≠S.dh->H b=ih o->H' b=ih o
theorem cf.same{S:Wh}{ka:ac (Ask×Int)}(h:cf C D S bg m kh kk kq ka H)(s:aw H H'):cf C D S bg m kh kk kq ka H':=
 ⟨h.n3,s _ _ h.hx,⟨s _ _ h.fi.hx,s _ _ h.fi.hl,s _ _ h.fi.he,s _ _ h.fi.hh,h.fi.du.same s,h.fi.ok,h.fi.nn⟩,s _ _ h.ho,s _ _ h.hk,s _ _ h.hq,h.n1,h.ln.same s,h.el,h.mJ.keep h.fi.ok λb xs e=>s _ _ e,h.kv.keep λb xs e=>s _ _ e,h.ok,h.nd,h.ee,h.ql⟩
theorem cf.write{S:Wh}{ka:ac (Ask×Int)}(h:cf C D S bg m kh kk kq ka H)(k:∀b o,(∀xs,o≠HO.lst xs)->(∀dx fs,(b=S.x\/b=S.fi) \/∀c,o≠HO.ins c dx fs)->H b=ih o->H' b=ih o):cf C D S bg m kh kk kq ka H':=by
 have a:∀b xs,H b=a2 xs->H' b=a2 xs:=λb xs e=>k b _ (by intro _ z;cases z) (λ_ _=>.inr (by intro _ z;cases z)) e
 have d:∀b xs,H b=ce xs->H' b=ce xs:=λb xs e=>k b _ (by intro _ z;cases z) (λ_ _=>.inr (by intro _ z;cases z)) e
 have f:∀b xs,H b=bn xs->H' b=bn xs:=λb xs e=>k b _ (by intro _ z;cases z) (λ_ _=>.inr (by intro _ z;cases z)) e
 obtain⟨g,e1,e2⟩:=h.ln;exact⟨h.n3,k _ _ (by intro _ z;cases z) (λ_ _=>.inl (.inl rfl)) h.hx,⟨k _ _ (by intro _ z;cases z) (λ_ _=>.inl (.inr rfl)) h.fi.hx,f _ _ h.fi.hl,d _ _ h.fi.he,d _ _ h.fi.hh,h.fi.du.keep a h.fi.ok.ent,h.fi.ok,h.fi.nn⟩,f _ _ h.ho,d _ _ h.hk,d _ _ h.hq,h.n1,⟨g,e1,a _ _ e2⟩,h.el,h.mJ.keep h.fi.ok a,h.kv.keep a,h.ok,h.nd,h.ee,h.ql⟩
theorem cf.looked{S:Wh}{c:Int}{a:ac (List Key×V)}{ka:ac (Ask×Int)}(h:cf C D S bg m kh kk kq ka H)(k:Kp S H H')(fi:FI D S.fi S.fx S.dl S.de S.dh S.kl S.ke a c S.W.bk H')(f:iW H' a S.W.bk S.L):cf C D S bg c a kk kq ka H':=by
 have d:∀b xs,H b=a2 xs->H' b=a2 xs:=λb xs e=>k _ _ (aq e h.fi.hx) (aq e h.fi.hh) e
 obtain⟨g,e1,e2⟩:=h.ln;exact⟨h.n3,k _ _ h.n3 (aq h.hx h.fi.hh) h.hx,fi,k _ _ (aq h.ho h.fi.hx) (aq h.ho h.fi.hh) h.ho,k _ _ (aq h.hk h.fi.hx) h.n1.2.1 h.hk,k _ _ (aq h.hq h.fi.hx) h.n1.2.2.2.1 h.hq,h.n1,⟨g,e1,d _ _ e2⟩,h.el,f,h.kv.keep d,h.ok,h.nd,h.ee,h.ql⟩
theorem IL{W:aO}{a:Ask}(h:W.Out a (.told z))(ne:a.2 ≠ ""):(W.look a).isSome=true:=by
 obtain⟨k,b⟩:=h;cases k with
 |zero=>cases b
 |succ k =>
  have b:W.cg (W.out k) a=ih (.told z):=b;unfold aO.cg at b;rw[show W.cQ a=none by unfold aO.cQ;exact ao λy=>ne y.1]at b
  cases e:W.look a with
  |none=>rw[e]at b;cases b
  |some p=>rfl
theorem l3{W:aO}{a:Ask}{d:UC}(h:W.look a=ih (wh,d)):wh∈W.line:=by
 have:=(jD h).1;unfold d9 at this;split at this
 ·exact this
 ·exact oU this
inductive qX(C D R:EZ)(vs:List V)(H:Hp)(Q:VK)(E:XK):Prop
 |mk{S:Wh}{bg m:Int}{kh kk kq:List (List Key×V)}{ka:List (Ask×Int)}{r P1 ta lf rs:EZ}{wh:Fv}{t:Int}{a:Ask}{u:V}{d:UC}(_:vs=[.ref S.x,.ref r,u])(_:gZ S.W S.NU)(_:cf C D S bg m kh kk kq ka H)(_:kh.length<=1000000)(_:H r=ih (.ins R P1 (fR ta lf rs wh t)))(_:H ta=ih (.tup [.str a.1,.str a.2]))(_:wh∈S.W.line)(_:ed d)(_:Rep H u d)
  (_:S.W.need a.1 wh d=none ->∀ey m' H',Kp S H H'->cf C D S bg m' ey kk kq ka H'->ey.length<=kh.length+1->Q .aK H')
  (_:∀b,S.W.need a.1 wh d=ih b ->∀tn ey m' H',Kp S H H'->cf C D S bg m' ey kk kq ka H'->ey.length<=kh.length+1->H' tn=ih (.tup [.str b.1,.str b.2])->Q (.ref tn) H'):qX C D R vs H Q E
abbrev P2:List Fv:=["self","reckoning","step","name","where"]
theorem D':bf P2 ["self","reckoning","step"] (aI tS):=bz
theorem Nt(F:aQ K "come_to" "Whole.come_to" tS f fd)(T:hR K mg C)(yh:jQ K mg D)(J:iw K mg R)(zh:aT P w K mg base aG 2 fL dL ["self","kind","name","behind"] (mc D))(xi:Meth K D "look" fL)(yi:Binds K dL ["self","kind","name","behind"] []):aT P w K mg base aG 3 f fd ["self","reckoning","step"] (qX C D R):=by
 refine F.bG D' λQa A outer s H vs Q E yc h=>?_
 ·obtain @⟨S,bg,m,kh,kk,kq,ka,r,ya,ta,lf,rs,wh,t,a,u,d,rfl,zc,h,ze,za,xf,xb,st,zi,xd,yd⟩:=h
  have yf:aZ 2 _:=yc;have zf:=eu yc.units;intro X;refine⟨_,au (bh (bp c7 (aU bj (pv 2) ar) bq (bA _)) (aA (aX (b7 (aa (aU bj (pv 2) ar) (aa bq ah))))) bD)
   (au (bh (bp jH (aU bj (pv 2) ar) bq (bA _)) (aA (aX dQ)) bD)
   (au (Lz (i:=3) (j:=4) rfl D'.nd rfl rfl (by decide) rfl rfl (aa (aU bj (ck (pv 1) rfl) ar) (aa (ck (pv 1) rfl) ah)) rfl)
   (au (bh (PW.pt (pw_or (fQ (iU zf (b7 (aa (pv 3) (aa (pv 4) ah))) (ck (pv 0) rfl))) (pw_or1 (fQ (tq (hA (ck (pv 0) rfl) yh.cl xi zh yf yi .nil cV (aa (ck (pv 0) rfl) (aa (pv 3) (aa (pv 4) ah))))))))) (aA (aX (b7 (aa (pv 3) (aa (pv 4) ah))))) bD)
   (aA (aX dQ))))),?_⟩
  obtain⟨U,xs,rfl,Y,h1,h2,xk⟩:=pT st zi;refine⟨_,rfl,U,_,0,_,rfl,rfl,ay.of Y,b8,rfl,_,rfl,?_⟩;refine bW (λe=>?_) (λe=>?_)
  ·have e:a7 d = "ask" :=by
    have:=dJ e;injection this
   obtain rfl:=h2 e;refine⟨_,rfl,U,_,1,_,rfl,rfl,ay.of Y,cP,bQ,λc xj=>?_⟩;have zd:=aJ (o:=.tup [V.str (dX d),V.str ""]) xj;exact yd (dX d,"") (by unfold aO.need;rw[aE e]) c kh m _ (λb o _ _ z=>zd _ _ z) (h.same zd) (f6 _) af
  have e : ¬ a7 d = "ask" :=λz=>e (by rw[z];exact cb rfl)
  refine⟨_,rfl,U,_,0,_,rfl,rfl,ay.of Y,b8,rfl,_,rfl,?_⟩;refine bW (λe2=>?_) (λe2=>?_)
  ·have e2 : ¬ a7 d = "onward" :=λz=>by rw[z]at e2;revert e2;decide +kernel
   exact xd (by unfold aO.need;rw[ao e,ao e2]) kh m H (λb o _ _ z=>z) h (f6 _)
  have e2:a7 d = "onward" :=by
   by_cases z:a7 d = "onward"
   ·exact z
   ·exact absurd (by simpa using λy=>z y) e2
  have xe:S.W.need a.1 wh d=if (S.W.look (a.1,wh)).isSome=true then ih (a.1,wh) else none:=by unfold aO.need;rw[ao e,aE e2]
  refine⟨_,rfl,r,R,ya,_,.ref ta,rfl,za,J.cl,J.na,qd,ta,_,0,_,rfl,rfl,ay.of xf,b8,_,rfl,r,R,ya,_,.str wh,rfl,za,J.cl,J.nw,Ca,_,_,rfl,?_⟩;refine⟨_,rfl,_,rfl,bQ,λZ xg=>?_⟩;have L:=aJ (o:=.tup [V.str a.1,V.str wh]) xg;have yb:upd H Z (.tup [V.str a.1,V.str wh]) Z=a2 ((bX (a.1,wh)).map kV):=af;have g:=h.same L;generalize upd H Z (.tup [V.str a.1,V.str wh])=yk at L yb g⊢;refine⟨_,rfl,S.x,C,S.dx,_,.ref S.kn,rfl,g.hx,T.cl,T.nn,iP,S.kn,_,rfl,b4.t (k:=bX (a.1,wh)) g.hk yb,_,rfl,?_⟩;have yg:wh ≠ "" :=λz=>by have:=(zc.lm wh xb).lo;rw[z]at this;revert this;decide +kernel
  have zb:∀{l:Hp}{B:ac (List Key×V)}{I:Int},(S.W.look (a.1,wh)).isSome=true->Kp S H l->cf C D S bg I B kk kq ka l->B.length<=kh.length+1 ->∀n,l n=none->Q (.ref n) (upd l n (.tup [V.str a.1,V.str wh])):=λ{l B I} yj kp M N n G=>by
   have ye:=aJ (o:=.tup [V.str a.1,V.str wh]) G;exact yd (a.1,wh) (by rw[xe,aE yj]) n B I _ (λb o n1 xa z=>ye _ _ (kp b o n1 xa z)) (M.same ye) N af
  rcases h.kv.val (a.1,wh) with⟨e1,e3⟩|⟨v,z,zj,y,ns,zk,e1,e3,_⟩
  ·rw[e1]
   refine⟨_,rfl,S.x,C,S.dx,_,.ref S.fi,rfl,g.hx,T.cl,T.nf,s7,S.fi,S.fx,_,rfl,g.fi.hx,uM (by decide +kernel) (by decide +kernel) (by decide +kernel) (by decide +kernel),_,rfl,S.x,C,S.dx,_,.str S.kd,rfl,g.hx,T.cl,T.nk,tW,_,rfl,_,rfl,mc.mk rfl g.fi g.ln (by rw[h.el];have:=zc.ln;omega) (.inr (by rw[h.el];exact xb)) g.mJ ze λv B I l xc zg xh N q=>?_⟩
   have M:=g.looked xc zg xh;have kp:Kp S H l:=λb o n1 xa z=>xc b o n1 xa (L _ _ z);rw[h.el]at q;have q:eH l v (S.W.look (a.1,wh)):=q;cases O:S.W.look (a.1,wh) with
   |none =>
    rw[O]at q;have q:v=V.aK:=q;subst q;refine⟨_,rfl,?_⟩;exact xd (by rw[xe,O];rfl) B I l kp M N
   |some p =>
    rw[O]at q;obtain⟨zj,xl,rfl,_,_⟩:=q;refine⟨_,rfl,?_⟩;exact⟨_,rfl,_,rfl,bQ,λn G=>zb (by rw[O];rfl) kp M N n G⟩
  ·rw[e1]
   exact⟨_,rfl,_,rfl,bQ,λn G=>zb (IL (h.ok _ e3) yg) (λb o _ _ z=>L _ _ z) g (f6 _) n G⟩
theorem OZ{G:Prop}{hQ C:Hp->Prop}(h1:(∀a,hQ a->C a)->G)(h2:∀a,hQ a->C a):G:=h1 h2
theorem EF:seqIndex? 0 (v::vs).length=ih 0:=by simp[seqIndex?]
structure FA where
 (x dx ta lf rs:EZ)
structure cY(R:EZ)(S:Wh)(H:Hp)(A:FA)(f:bc)(lv:List V)(rn:List Fv):Prop where
 hx:H A.x=ih (.ins R A.dx (fR A.ta A.lf A.rs f.w f.t))
 eJ:H A.ta=ih (.tup [.str f.a.1,.str f.a.2])
 hl:H A.lf=ih (.lst lv)
 rl:bJ H lv f.left
 st:∀s∈f.left,ed s
 an:∀s∈f.left,a7 s = "ask" -> dX s∈S.NU
 hr:H A.rs=ih (.lst (rn.map V.str))
 rm:∀y∈rn,y∈S.NU
 a3:rn.length+f.left.length * 20<=99
 hX:A.lf≠A.rs
 nx:A.x≠S.x
 nf:A.x≠S.fi
def Kr(S:Wh)(A:FA)(H H':Hp):Prop:= ∀b o,b≠S.fi->b≠S.dh->b≠A.x->b≠A.lf->b≠A.rs->H b=ih o->H' b=ih o
theorem cY.keep{S:Wh}{A:FA}{f:bc}(h:cY R S H A f lv rn)(k:∀b o,b=A.x\/b=A.lf\/b=A.rs\/(∃xs,o=HO.tup xs)->H b=ih o->H' b=ih o):cY R S H' A f lv rn:=
 ⟨k _ _ (.inl rfl) h.hx,k _ _ (.inr (.inr (.inr ⟨_,rfl⟩))) h.eJ,k _ _ (.inr (.inl rfl)) h.hl,h7 (λb xs e=>k _ _ (.inr (.inr (.inr ⟨_,rfl⟩))) e) h.rl h.st,h.st,h.an,k _ _ (.inr (.inr (.inl rfl))) h.hr,h.rm,h.a3,h.hX,h.nx,h.nf⟩
theorem cY.kp{S:Wh}{ka:ac (Ask×Int)}{A:FA}{f:bc}(h:cY R S H A f lv rn)(w:cf C D S bg m kh kk kq ka H)(k:Kp S H H'):cY R S H' A f lv rn:=by
 have a:∀b xs,H b=bd xs->H' b=bd xs:=λb xs e=>k _ _ (aq e w.fi.hx) (aq e w.fi.hh) e
 have c:∀b xs,H b=a2 xs->H' b=a2 xs:=λb xs e=>k _ _ (aq e w.fi.hx) (aq e w.fi.hh) e
 exact⟨k _ _ h.nf (aq h.hx w.fi.hh) h.hx,c _ _ h.eJ,a _ _ h.hl,h7 c h.rl h.st,h.st,h.an,a _ _ h.hr,h.rm,h.a3,h.hX,h.nx,h.nf⟩
theorem cf.wr{S:Wh}{ka:ac (Ask×Int)}{A:FA}{f:bc}(h:cf C D S bg m kh kk kq ka H)(r:cY R S H A f lv rn)(k:∀b o,b≠A.x->b≠A.lf->b≠A.rs->H b=ih o->H' b=ih o):cf C D S bg m kh kk kq ka H':=
 h.write λb o a c e=>k b o (λz=>by
  rw[z]at e c;rw[r.hx]at e;cases e;rcases c A.dx _ with y|y
  ·rcases y with y|y
   ·exact r.nx y
   ·exact r.nf y
  ·exact y _ rfl) (λz=>by rw[z,r.hl]at e;cases e;exact a _ rfl) (λz=>by rw[z,r.hr]at e;cases e;exact a _ rfl) e
inductive qY(C D R:EZ)(vs:List V)(H:Hp)(Q:VK)(E:XK):Prop
 |mk{S:Wh}{bg m:Int}{kh kk kq:List (List Key×V)}{ka:List (Ask×Int)}{A:FA}{fr:bc}{lv:List V}{rn:List Fv}(_:vs=[.ref S.x,.ref A.x])(_:gZ S.W S.NU)(_:cf C D S bg m kh kk kq ka H)(_:kh.length<=900000)(_:cY R S H A fr lv rn)(_:bO S.W fr)(_:fr.w∈S.W.line)
  (_:∀t' vG vH ey m' H',Kr S A H H'->cf C D S bg m' ey kk kq ka H'->ey.length<=kh.length+5->cY R S H' A ⟨fr.a,fr.w,[],t'⟩ vG vH->bO S.W ⟨fr.a,fr.w,[],t'⟩->Q .aK H')
  (_:∀t' d ds vG vH ey m' b tn H',Kr S A H H'->cf C D S bg m' ey kk kq ka H'->ey.length<=kh.length+5->cY R S H' A ⟨fr.a,fr.w,d::ds,t'⟩ vG vH->bO S.W ⟨fr.a,fr.w,d::ds,t'⟩->S.W.need fr.a.1 fr.w d=ih b->(∀z,(b,z)∉ ka)->H' tn=ih (.tup [.str b.1,.str b.2])->Q (.ref tn) H'):qY C D R vs H Q E
abbrev P4:List Fv:=["self","reckoning","step","needed"]
theorem vb:bf P4 ["self","reckoning"] (aI uI):=bz
theorem Nu(F:aQ K "go_on" "Whole.go_on" uI f fd)(T:hR K mg C)(n:iw K mg R)(yn:aT P w K mg base aG 3 fC dC ["self","reckoning","step"] (qX C D R))(zn:Meth K C "come_to" fC)(xo:Binds K dC ["self","reckoning","step"] [])
  (yo:aT P w K mg base aG 1 fS dS ["self","step"] (qV R)) (zo:Meth K R "step_by" fS) (xp:Binds K dS ["self","step"] []) (yp:aT P w K mg base aG 1 fT dT ["self","told"] (qW R)) (zp:Meth K R "take_in" fT) (xq:Binds K dT ["self","told"] []):aT P w K mg base aG 4 f fd ["self","reckoning"] (qY C D R):=by
 refine F.bG vb λQa A outer s H vs Q E xj h=>?_
 ·obtain @⟨S,bg,m,kh,kk,kq,ka,A,fr,lv,rn,rfl,yj,h,zw,ze,yq,xl,zq,xr⟩:=h
  have yg:aZ 3 _:=xj;have zg:aZ 1 _:=yg.mono (by decide)
  have xh:=eu xj.units;intro X;refine⟨_,au (ni d5 (km (ck (pv 1) rfl) (λ_=>rfl))
    (au (aY 2 vb.nd (aU dw (ck (pv 1) rfl) ar))
    (au (aY 3 vb.nd (hA (pv 0) T.cl zn yn yg xo .nil cV (aa (pv 1) (aa (pv 2) ah))))
    (au (bh (bp gy (pv 3) dQ (bA _)) (aA (eF (hA (pv 1) n.cl zo yo zg xp .nil cV (aa (pv 2) ah))))
     (aA (bh (fQ (iU xh (pv 3) (ck (pv 0) rfl))) (aA (eF (hA (pv 1) n.cl zp yp zg xq .nil cV (aa (d0 xh (ck (pv 0) rfl) (pv 3)) ah)))) (aA (aX (pv 3))))))
    (aA (eF (gc hg FV FW BC (ck (pv 1) rfl) (aa ar ah))))))))
   (aA (aX dQ)),?_⟩
  refine⟨λzj σ Y=>∃(left:ac UC) (t':Int) (O:ac V) (U:ac Fv) (G:ac (List Key×V)) (xb:Int) (L M:ad V),σ=[am S.x,am A.x,L,M]/\zj=left.length/\left.length<=4/\bO S.W ⟨fr.a,fr.w,left,t'⟩/\cY R S Y A ⟨fr.a,fr.w,left,t'⟩ O U/\cf C D S bg xb G kk kq ka Y/\G.length+left.length<=kh.length+4/\Kr S A H Y,
   ⟨_,fr.left,fr.t,lv,rn,kh,m,none,none,rfl,rfl,?_,yq,ze,h,?_,λb o _ _ _ _ _ z=>z⟩,?_⟩
  ·have:=ze.a3;omega
  ·have:=ze.a3;omega
  rintro zj σ Y ⟨left,N,yl,I,xe,yr,L,M,rfl,rfl,zr,xc,g,yb,xf,ye⟩;refine⟨_,rfl,A.x,R,A.dx,_,.ref A.lf,rfl,g.hx,n.cl,n.nl,pU,_,.inl ⟨_,aj.of g.hl,rfl⟩,?_⟩;cases left with
  |nil =>
   have xt:=g.rl;have e:=bJ.length xt;have e0:yl=[]:=lz e;subst e0;refine bW (λz=>by cases z) (λ_=>?_)
   exact zq N [] I xe yr Y ye yb (by have:xe.length+0<=kh.length+4:=xf;omega) g xc
  |cons d ds =>
   obtain⟨v,vs,rfl,yt,xx⟩:=g.rl.e6;refine bW (λ_=>?_) (λz=>absurd rfl z);have xf:xe.length+(ds.length+1)<=kh.length+4:=xf;refine⟨λyh H'=>∃(t':Int) (O:ac V) (U:ac Fv) (G:ac (List Key×V)) (xb:Int) (L M:ad V),yh=[am S.x,am A.x,L,M]/\bO S.W ⟨fr.a,fr.w,ds,t'⟩/\cY R S H' A ⟨fr.a,fr.w,ds,t'⟩ O U/\cf C D S bg xb G kk kq ka H'/\G.length+ds.length<=kh.length+4/\Kr S A H H',λyh H' ⟨t',O,U,G,xb,L,M,e,zt,xu,yu,zu,xv⟩=>⟨ds.length,j4 _,ds,t',O,U,G,xb,L,M,e,rfl,by simp only[cS]at zr;omega,zt,xu,yu,zu,xv⟩,?_⟩
   refine⟨_,rfl,A.x,R,A.dx,_,.ref A.lf,rfl,g.hx,n.cl,n.nl,pU,A.lf,_,0,v,rfl,rfl,aj.of g.hl,b8,?_⟩;refine⟨_,rfl,S.x,S.dx,_,rfl,yb.hx,rfl,_,rfl,_,rfl,qX.mk rfl yj yb (by omega) g.hx g.eJ xl (g.st d aW) yt (λxd yc yd H2 Z p yv=>?_) λb xd xk yc yd H2 Z p yv zh=>?_⟩
   ·have c:cY R S H2 A ⟨fr.a,fr.w,d::ds,N⟩ (v::vs) I:=g.kp yb Z
    have zc:Kr S A H H2:=λb o n1 j i u B e=>Z b o n1 j (ye b o n1 j i u B e);obtain⟨zv,zl,yf,xi,zd⟩:=c.rl.e6;cases yf
    refine⟨_,rfl,rfl,_,rfl,_,rfl,A.x,A.dx,_,rfl,c.hx,rfl,_,rfl,qV.mk rfl c.hx (g.st d aW) xi λJ q zb=>?_⟩;have xa:A.lf≠A.x:=aq c.hl c.hx
    have xm:A.rs≠A.x:=aq c.hr c.hx
    have r:=q _ _ xa c.hl;have zf:=p.wr c λb o n1 j i e=>q b o n1 e;have ya:∀b xs,H2 b=a2 xs->J b=a2 xs:=λb xs e=>q _ _ (aq e c.hx) e
    refine⟨_,rfl,A.x,R,A.dx,_,.ref A.lf,rfl,zb,n.cl,n.nl,pU,.inl ⟨rfl,_,aj.of r⟩,A.lf,_,0,0,v,rfl,rfl,r,by decide,by decide,EF,rfl,?_⟩
    have za:∀b xs,J b=a2 xs->upd J A.lf (.lst vs) b=a2 xs:=λb xs e=>by rw[ag (aq e r)];exact e
    have a3:=c.a3;refine⟨stepT N d,vs,I,yc,yd,_,_,rfl,xc.step rfl xd,⟨by rw[ag (aS xa)];exact zb,za _ _ (ya _ _ c.eJ),af,h7 (λb xs e=>za _ _ (ya _ _ e)) zd λs l=>g.st s (ba _ l),λs l=>g.st s (ba _ l),λs l=>g.an s (ba _ l),by rw[ag (aS c.hX)];exact q _ _ xm c.hr,c.rm,by simp only[cS]at a3;show I.length+ds.length * 20<=99;omega,c.hX,c.nx,c.nf⟩,?_,by omega,λb o n1 j i u B e=>by rw[ag u];exact q _ _ i (zc b o n1 j i u B e)⟩
    exact zf.write λb o xg _ e=>by rw[ag (λz=>by rw[z,r]at e;cases e;exact xg _ rfl)];exact e
   ·have c:cY R S H2 A ⟨fr.a,fr.w,d::ds,N⟩ (v::vs) I:=g.kp yb Z
    have zc:Kr S A H H2:=λb o n1 j i u B e=>Z b o n1 j (ye b o n1 j i u B e);obtain⟨zv,zl,yf,xi,zd⟩:=c.rl.e6;cases yf
    have yi:H2 xk=a2 ((bX b).map kV):=zh;refine⟨_,rfl,rfl,_,rfl,_,rfl,_,rfl,S.x,C,S.dx,_,.ref S.kn,rfl,p.hx,T.cl,T.nn,iP,S.kn,_,rfl,b4.t (k:=bX b) p.hk yi,_,rfl,?_⟩;rcases p.kv.val b with⟨e1,e3⟩|⟨zx,z,xw,y,ns,yk,e1,e3,rfl,ym,zm,xn,zi⟩
    ·rw[e1]
     exact⟨_,rfl,xr N d ds (v::vs) I yc yd b xk H2 zc p (by omega) c xc xd e3 zh⟩
    ·rw[e1]
     have yx:yk.length<=20:=eg (len_sub xn zi) yj.a3;have a3:=c.a3;simp only[cS]at a3;refine⟨_,rfl,A.x,A.dx,_,rfl,c.hx,rfl,_,rfl,S.x,C,S.dx,_,.ref S.kn,rfl,p.hx,T.cl,T.nn,iP,_,rfl,S.kn,.ref xw,rfl,by rw[<-e1];exact b4.t (k:=bX b) p.hk yi,qW.mk rfl c.hx c.hr ym zm (by rw[aB,aB];omega) λJ q zb zk=>?_⟩
     have xa:A.lf≠A.x:=aq c.hl c.hx
     have r:=q _ _ xa c.hX c.hl;have zf:=p.wr c λb o n1 j i e=>q b o n1 i e;have ya:∀b xs,H2 b=a2 xs->J b=a2 xs:=λb xs e=>q _ _ (aq e c.hx) (aq e c.hr) e
     refine⟨_,rfl,A.x,R,A.dx,_,.ref A.lf,rfl,zb,n.cl,n.nl,pU,.inl ⟨rfl,_,aj.of r⟩,A.lf,_,0,0,v,rfl,rfl,r,by decide,by decide,EF,rfl,?_⟩
     have za:∀b xs,J b=a2 xs->upd J A.lf (.lst vs) b=a2 xs:=λb xs e=>by rw[ag (aq e r)];exact e
     refine⟨N+z,vs,I++yk,yc,yd,_,_,rfl,xc.take rfl xd (p.ok _ e3),⟨by rw[ag (aS xa)];exact zb,za _ _ (ya _ _ c.eJ),af,h7 (λb xs e=>za _ _ (ya _ _ e)) zd λs l=>g.st s (ba _ l),λs l=>g.st s (ba _ l),λs l=>g.an s (ba _ l),by rw[ag (aS c.hX),a8];exact zk,λy yw=>?_,by rw[bV];show _+ds.length * 20<=99;omega,c.hX,c.nx,c.nf⟩,?_,by omega,λb o n1 j i u B e=>by rw[ag u];exact q _ _ i B (zc b o n1 j i u B e)⟩
     ·rcases bI.mp yw with y'|y'
      ·exact c.rm y y'
      ·exact zi y y'
     ·exact zf.write λb o xg _ e=>by rw[ag (λz=>by rw[z,r]at e;cases e;exact xg _ rfl)];exact e
theorem Br:Vh "set" = ih (.type "set"):=by decide +kernel
theorem cf.Dx{S:Wh}{g:ac (List Key×V)}{ka:ac (Ask×Int)}{a:Ask}(h:cf C D S bg m kh kk kq ka H)(l:∀z,(a,z)∉ ka)(n:S.W.Out a (.told z))(q:UA S.W S.NU a)
  (k:∀b o,b≠S.kn->b≠S.kp->H b=ih o->H' b=ih o) (r:H' S.kn=ce (kk++[(bX a,.ref tt)])) (s:H' S.kp=ce g) (t:g.length<=kk.length+1) (w:∃(y:V) (ns:EZ) (c:ac Fv),H' tt=a2 [y,.int z,.ref ns]/\H' ns=a2 (c.map V.str)/\c.Nodup /\∀y∈c,y∈S.NU) :
  cf C D S bg m kh (kk++[(bX a,.ref tt)]) g (ka++[(a,z)]) H':=by
 have f:∀b xs,H b=a2 xs->H' b=a2 xs:=λb xs e=>k _ _ (aq e h.hk) (aq e h.hq) e
 have j:∀b xs,H b=bn xs->H' b=bn xs:=λb xs e=>k _ _ (aq e h.hk) (aq e h.hq) e
 obtain⟨x,e1,e2⟩:=h.ln;obtain⟨y,ns,c,h1,h2,A,B⟩:=w;refine⟨h.n3,k _ _ (aq h.hx h.hk) (aq h.hx h.hq) h.hx,⟨k _ _ (aq h.fi.hx h.hk) (aq h.fi.hx h.hq) h.fi.hx,j _ _ h.fi.hl,k _ _ (aS h.n1.1) (aS h.n1.2.2.1) h.fi.he,k _ _ (aS h.n1.2.1) (aS h.n1.2.2.2.1) h.fi.hh,h.fi.du.keep f h.fi.ok.ent,h.fi.ok,h.fi.nn⟩,j _ _ h.ho,r,s,h.n1,⟨x,e1,f _ _ e2⟩,h.el,h.mJ.keep h.fi.ok f,gL (h.kv.keep f) ⟨rfl,tt,y,ns,c,rfl,h1,h2,A,B⟩,λp d=>?_,?_,λp d=>?_,by rw[bV];exact t⟩
 ·rcases bI.mp d with e|e
  ·exact h.ok p e
  ·rw[bL.mp e];exact n
 ·rw[a8]
  refine di.mpr ⟨h.nd,by simp,λu E v i e=>?_⟩
  have i:v=a:=bL.mp i;obtain⟨p,d,rfl⟩:=a4.mp E;exact l p.2 (by rw[<-i,<-e];exact d)
 ·rcases bI.mp d with e|e
  ·exact h.ee p e
  ·rw[bL.mp e];exact q
theorem j2.no{ka:ac (Ask×Int)}(h:j2 H NU kk ka){a:Ask}(b:∀z,(a,z)∉ ka):a' kk (bX a)=none:=by
 rcases h.val a with⟨e,_⟩|⟨v,z,_,_,_,_,_,e,_⟩
 ·exact e
 ·exact absurd e (b z)
inductive qZ(C D R:EZ)(vs:List V)(H:Hp)(Q:VK)(E:XK):Prop
 |mk{S:Wh}{bg m:Int}{kh kk kq:List (List Key×V)}{ka:List (Ask×Int)}{A:FA}{fr:bc}{lv:List V}{rn:List Fv}(_:vs=[.ref S.x,.ref A.x])(_:gZ S.W S.NU)(_:cf C D S bg m kh kk kq ka H)(_:kk.length<=10000)(_:cY R S H A fr lv rn)(_:S.W.Out fr.a (.told fr.t))(_:∀z,(fr.a,z)∉ ka)(_:UA S.W S.NU fr.a)
  (_:∀mK P5 H',(∀b o,b≠S.kn->b≠S.kp->H b=ih o->H' b=ih o)->cf C D S bg m kh mK P5 (ka++[(fr.a,fr.t)]) H'->Q .aK H'):qZ C D R vs H Q E
theorem Ea:bf ["self","reckoning","told"] ["self","reckoning"] (aI nK):=bz
theorem Nv(F:aQ K "settle" "Whole.settle" nK f fd)(B:df mg)(xd:hO mg)(xc:mg "set" = none)(T:hR K mg C)(i:iw K mg R):aT P w K mg base aG 1 f fd ["self","reckoning"] (qZ C D R):=by
 refine F.bG Ea λQa A outer s H vs Q E yd h=>?_
 ·obtain @⟨S,bg,m,kh,kk,kq,ka,c,fr,lv,rn,rfl,zd,h,xf,j,xe,Z,ye,q⟩:=h
  have z:=eu yd.units;intro X;refine⟨_,au (aY 2 Ea.nd (b7 (aa (ck (pv 1) rfl) (aa (ck (pv 1) rfl) (aa (dq iI rfl B.tuple boot_tuple (aa (bT (F9 rfl) rfl xd.sorted boot_sorted (aa (dq (BS rfl) rfl xc Br (aa (ck (pv 1) rfl) ah)) ah)) ah)) ah)))))
   (au (gx z (ck (pv 0) rfl) (ck (pv 1) rfl) (pv 2) rfl)
   (aA (gx z (ck (pv 0) rfl) (ck (pv 1) rfl) (pv 2) rfl))),?_⟩
  have a3:=j.a3;refine⟨_,rfl,c.x,R,c.dx,_,.str fr.w,rfl,j.hx,i.cl,i.nw,Ca,_,rfl,c.x,R,c.dx,_,.int fr.t,rfl,j.hx,i.cl,i.nt,pH,_,rfl,c.x,R,c.dx,_,.ref c.rs,rfl,j.hx,i.cl,i.nr,Bq,c.rs,rn,rfl,.inl (aj.of j.hr),by omega,λl ds yc ya O=>?_⟩
  have dl:ds.length<=20:=eg (len_sub ya λy L=>j.rm y ((O y).mp L)) zd.a3;refine⟨l,ds,rfl,af,by omega,λv g zb pm yf=>⟨v,_,rfl,.inl ⟨aj.of af,λns za=>⟨gY,λtt I=>?_⟩⟩⟩⟩
  generalize i5 (d2 aG P w K mg base ["self","reckoning","told"] "Whole.settle" (aI nK) f Qa A outer s H E).k8.prog (d2 aG P w K mg base ["self","reckoning","told"] "Whole.settle" (aI nK) f Qa A outer s H E).k8.w l ds=G at zb za I⊢;have p:=(aJ (o:=G) yc).trans ((aJ (o:=.lst (g.map V.str)) zb).trans ((aJ (o:=.tup (g.map V.str)) za).trans (aJ (o:=.tup [V.str fr.w,.int fr.t,.ref ns]) I)));have U:upd (upd (upd (upd H l G) v (.lst (g.map V.str))) ns (.tup (g.map V.str))) tt (.tup [V.str fr.w,.int fr.t,.ref ns]) tt=a2 [V.str fr.w,.int fr.t,.ref ns]:=af;have W:upd (upd (upd (upd H l G) v (.lst (g.map V.str))) ns (.tup (g.map V.str))) tt (.tup [V.str fr.w,.int fr.t,.ref ns]) ns=a2 (g.map V.str):=by rw[ag (ax af I)];exact af
  generalize upd (upd (upd (upd H l G) v (.lst (g.map V.str))) ns (.tup (g.map V.str))) tt (.tup [V.str fr.w,.int fr.t,.ref ns])=Y at p U W⊢;have d:=h.same p;have J:=p _ _ j.hx;have xb:Y c.ta=a2 ((bX fr.a).map kV):=p _ _ j.eJ;have zf:=h.ql;refine⟨_,rfl,_,rfl,S.x,C,S.dx,_,.ref S.kn,rfl,d.hx,T.cl,T.nn,iP,_,rfl,c.x,R,c.dx,_,.ref c.ta,rfl,J,i.cl,i.na,qd,S.kn,_,rfl,eR.t (k:=bX fr.a) d.hk xb (by rw[aV];omega),?_⟩
  rw[iN _ (d.kv.no Z)];have up:∀{u:HO} b o,b≠S.kn->Y b=ih o->upd Y S.kn u b=ih o:=λb o n e=>by rw[ag n];exact e
  have ze:∀{u:HO} b xs,Y b=a2 xs->upd Y S.kn u b=a2 xs:=λb xs e=>up _ _ (aq e d.hk) e
  have zc:∀{u:HO},upd Y S.kn u S.kp=ce kq:=λ{u}=>up _ _ (aS h.n1.2.2.2.2) d.hq;refine⟨_,rfl,_,rfl,S.x,C,S.dx,_,.ref S.kp,rfl,up _ _ (aq d.hx d.hk) d.hx,T.cl,T.np,rfl,_,rfl,c.x,R,c.dx,_,.ref c.ta,rfl,up _ _ (aq J d.hk) J,i.cl,i.na,qd,S.kp,_,rfl,eR.t (k:=bX fr.a) zc (ze _ _ xb) (by rw[aV];omega),?_⟩
  have M:∀{u N:HO} b o,b≠S.kn->b≠S.kp->Y b=ih o->upd (upd Y S.kn u) S.kp N b=ih o:=λb o n1 r e=>by rw[ag r,ag n1];exact e
  have yb:∀{u N:HO} b xs,Y b=a2 xs->upd (upd Y S.kn u) S.kp N b=a2 xs:=λb xs e=>M _ _ (aq e d.hk) (aq e d.hq) e
  refine q _ _ _ (λb o n1 r e=>M _ _ n1 r (p _ _ e)) (d.Dx Z xe ye (λb o n1 r e=>M _ _ n1 r e) (by rw[ag h.n1.2.2.2.2];exact af) af (by have:=lH kq (bX fr.a) (V.ref tt);omega) ⟨_,ns,g,yb _ _ U,yb _ _ W,pm.nodup_iff.mpr ya,λy L=>j.rm y ((O y).mp (pm.mem_iff.mp L))⟩)
def Tells(t:TT)(σ:St)(H:Hp)(b:Bool):Prop:= ∀R:Bool->Hp->Prop,(∀Y,aw H Y->R b Y)->t σ H R
theorem Tells.and{t u:TT}{a b:Bool}(h:Tells t σ H a)(k:a=true ->∀Y,aw H Y->Tells u σ Y b):Tells (uQ t u) σ H (a&&b):=λR q=>h _ λY c=>by
 cases a with
 |false=>exact q _ c
 |true=>exact k rfl Y c R λH2 d=>q _ (c.trans d)
theorem JN{t:TT}{a te:TS}{D:Ends}{c:_}{bk:_}{ct:_}{b:Bool}(h:Tells t (σ.set i (ih v)) H b)(k:∀Y,aw H Y->if b=true then a D (σ.set i (ih v)) Y else te D (σ.set i (ih v)) Y):ik i v σ H (Ends.nx (Ends.mk (uR t a te D) c bk ct)):=h _ k
structure uN(K:Ym)(mg:Fv->Option i')(B C fI:EZ)(oD:X2):Prop where
 mC:mg "Missing" = ih (.ref C)
 q:fV K C (ih (.ref fI))=true
 fn:isFn K (.ref fI)=true
 kp:Yr K (.ref C)=true
 F:aQ K "__init__" "Missing.__init__" pB fI oD
 b:nN K B
 mB:mg "LineError" = ih (.ref B)
 bi:Binds K oD ["self","name"] []
 x:eQ K C
 nk:Yf K (.ref C) "name" = ih none
def qu(C:EZ)(n:Fv)(H:Hp)(a:EZ):Prop:= ∃d,H a=ih (gU (ih .none) C (ih d) a)/\H d=ih (e7 d [("name",.str n)])
inductive kU(K:Ym)(fl:Fv)(vs:List V)(H:Hp)(Q:VK)(E:XK):Prop
 |mk{a C:EZ}{k:V}{i:Option i'}(_:vs=[.ref a,k])(_:H a=ih (cE C none a))(_:eQ K C)(_:fV K C i=true)(_:uv H k)(_:Yf K (.ref C) fl=ih none)(_:∀d H',H d=none->d≠a->H' a=ih (cE C (ih d) a)->H' d=ih (e7 d [(fl,k)])->DT a H H'->Q .aK H'):kU K fl vs H Q E
structure vc(K:Ym)(mg:Fv->Option i')(B C fI:EZ)(oD:X2):Prop where
 mC:mg "Endless" = ih (.ref C)
 q:fV K C (ih (.ref fI))=true
 fn:isFn K (.ref fI)=true
 kp:Yr K (.ref C)=true
 F:aQ K "__init__" "Endless.__init__" pC fI oD
 b:nN K B
 mB:mg "LineError" = ih (.ref B)
 bi:Binds K oD ["self","names"] []
 x:eQ K C
 nk:Yf K (.ref C) "names" = ih none
def q0(C:EZ)(ns:List Fv)(H:Hp)(a:EZ):Prop:= ∃d t,H a=ih (gU (ih .none) C (ih d) a)/\H d=ih (e7 d [("names",.ref t)])/\H t=ih (.tup (ns.map V.str))
theorem JO{xs:ac Fv}(e:H p=a2 (xs.map V.str))(f:∀x∈xs,Nm x)(a3:xs.length<=300):uv H (.ref p):=by
 have d:∀l:ac Fv,(∀x∈l,Nm x)->ZZ (l.map Vl)=true/\aaa (l.map Vl)=false/\ZK 13 (l.map Vl)=true/\aal (l.map Vl)<=9 * l.length/\Ve (l.map Vl)=0:=by
  intro l
  induction l with
  |nil=>intro _;exact⟨rfl,rfl,rfl,aP _,rfl⟩
  |cons x l g =>
   intro h;obtain⟨h1,h2,a,i,b⟩:=g λy j=>h y (ba _ j);have c:=h x aW;have k:x.cps.size<=8:=c.hi;refine⟨?_,?_,?_,?_,?_⟩
   ·simp only[b2,ZZ,PyData.showable,h1,aa0]
   ·simp only[b2,aaa,PyData.hasDict,h2,E9]
   ·simp only[b2,ZK,PyData.leavesShort,a,ID c,aa0]
   ·simp only[b2,aal,aaU,cS];omega
   ·simp only[b2,Ve,Yd,b];rfl
 obtain⟨h1,h2,a,i,b⟩:=d xs f;refine .inr (.inr ⟨p,.tuple (xs.map Vl),rfl,.tup e (lU _ xs),h1,h2,?_,?_⟩)
 ·simp only[Yd];rw[b];decide
 ·have:=PyData.shown_le_bulk 13 (by decide) (.tuple (xs.map Vl)) a
  simp only[aaU]at this;omega
theorem Cc(K:Ym)(h:X.K=K){f:Fv}(a:PE X e ta)(b:attributeBase e f X.env (eval e X.env)=eval e X.env):PE X (.Attribute e f pos) (uV K ta f):=by subst h;exact ck a b
structure oi(R:EZ)(S:Wh)(H:Hp)(a6:List (FA×bc)):Prop where
 fr:∀p∈a6,∃lv rn,cY R S H p.1 p.2 lv rn
 nd:(a6.flatMap λp=>[p.1.x,p.1.lf,p.1.rs]).Nodup
def refs(a6:List (FA×bc)):List V:=a6.map λp=>V.ref p.1.x
def fy(a:Ask):UC:=.tuple [.str a.1,.str a.2]
theorem pV{a b:Ask}:X5 (fy a) (fy b)=decide (a=b):=by
 have:=sZ [a.1,a.2] [b.1,b.2];have e:X5 (fy a) (fy b)=Yz ([a.1,a.2].map Vl) ([b.1,b.2].map Vl):=by first|rfl|simp[fy,X5]
 rw[e,this];exact decide_eq_decide.mpr ⟨λh=>by injection h with h1 h2;injection h2 with c _;exact vV h1 c,λh=>by rw[h]⟩
theorem UA.str{W:aO}(b:gZ W NU){a:Ask}(u:UA W NU a):Vt a.1=true/\Vt a.2=true:=by
 refine⟨mi (b.nm _ u.1),?_⟩;rcases u.2 with z|z
 ·rw[z];decide +kernel
 ·exact mi (b.lm _ z)
theorem O0:bf ["self","name"] ["self","name"] (aI pB):=bz
theorem Nw(F:aQ K "__init__" "Missing.__init__" pB f fd)(b:nN K B)(n:mg "LineError" = ih (.ref B)):aT P w K mg base aG 1 f fd ["self","name"] (kU K "name"):=by
 refine F.bG O0 λQa A outer s H vs Q E g h=>?_
 ·obtain @⟨a,C,k,i,rfl,j,c,o,p,r,q⟩:=h
  have t:=g.units;have u:=g.gd;intro X;refine⟨_,au (eF (Ab b rfl n (aa (pv 0) (aa (Cq (pM bq (pM (C1 t u (pv 1)) C2))) ah)))) (aA (Cs (pv 0) (pv 1))),?_⟩;refine⟨_,rfl,⟨_,rfl,by decide +kernel⟩,_,rfl,p,λv m=>⟨⟨_,rfl,m⟩,λy x=>?_⟩⟩
  refine⟨a,C,none,_,i,rfl,j,c,o,?_⟩;refine⟨_,rfl,_,rfl,a,C,rfl,j,c,r,λd l e=>?_⟩;exact q d _ l e af (by rw[ag e];exact af) (B0 l)
theorem O1:bf ["self","names"] ["self","names"] (aI pC):=bz
theorem Nx(F:aQ K "__init__" "Endless.__init__" pC f fd)(b:nN K B)(n:mg "LineError" = ih (.ref B)):aT P w K mg base aG 1 f fd ["self","names"] (kU K "names"):=by
 refine F.bG O1 λQa A outer s H vs Q E g h=>?_
 ·obtain @⟨a,C,k,i,rfl,j,c,o,p,r,q⟩:=h
  have t:=g.units;have u:=g.gd;intro X;refine⟨_,au (eF (Ab b rfl n (aa (pv 0) (aa (Cq (pM bq (pM (C1 t u (pv 1)) C2))) ah)))) (aA (Cs (pv 0) (pv 1))),?_⟩;refine⟨_,rfl,⟨_,rfl,by decide +kernel⟩,_,rfl,p,λv m=>⟨⟨_,rfl,m⟩,λy x=>?_⟩⟩
  refine⟨a,C,none,_,i,rfl,j,c,o,?_⟩;refine⟨_,rfl,_,rfl,a,C,rfl,j,c,r,λd l e=>?_⟩;exact q d _ l e af (by rw[ag e];exact af) (B0 l)
theorem Bs{S:Wh}{a6:ac (FA×bc)}{st c:EZ}{Q:VK}(j:iw K mg R)(m:H st=bd (refs a6))(fs:oi R S H a6)(w:a6.length<=1000)(k:H c=none)(q:∀Y,aw H Y->Y c=bd (a6.map λp=>V.ref p.1.ta)->Q (.ref c) Y) :
  hJ (jW K st) (ik 0) nX (uV K (gD 0) "asking") [none] Q c H:=by
 refine fe (xs:=refs a6) (λi ys a H2=>∃g:ad V,a=[g]/\aw H H2/\H2 c=bd ys/\ys=(a6.take i).map λp=>V.ref p.1.ta) ⟨none,rfl,aJ k,af,rfl⟩ (λi ys a H2 ⟨_,_,r,s,_⟩=>⟨s,aj.of (r _ _ m)⟩) ?_ ?_
 ·rintro i y ys a H2 h ⟨g,rfl,l,h2,rfl⟩
  have d:i<(refs a6).length:=(bZ.mp h).1;have f:i<a6.length:=by unfold refs at d;rwa [aB]at d
  obtain rfl:V.ref a6[i].1.x=y:=by unfold refs at h;simpa [f] using h
  have n:a6.take (i+1)=a6.take i++[a6[i]]:=by rw[dH,bw f];rfl
  obtain⟨lv,rn,t⟩:=fs.fr a6[i] (eL f);refine⟨_,rfl,a6[i].1.x,R,_,_,.ref a6[i].1.ta,rfl,l _ _ t.hx,j.cl,j.na,qd,h2,by rw[aB,cH,aV];omega,cw_next d ⟨_,rfl,λb o e=>by rw[ag (ax e k)];exact l _ _ e,af,?_⟩⟩
  rw[n,a8];rfl
 rintro ys a Y ⟨g,rfl,u,h1,rfl⟩;have v:(refs a6).length=a6.length:=by unfold refs;rw[aB]
 rw[v,cz]at h1;exact q Y u h1
theorem Cd{S:Wh}(d:gZ S.W S.NU):∀{a6:ac (FA×bc)},(∀p∈a6,∃lv rn,cY R S H p.1 p.2 lv rn)->(∀p∈a6,UA S.W S.NU p.2.a)->bJ H (a6.map λp=>V.ref p.1.ta) (a6.map λp=>fy p.2.a)/\X6 (a6.map λp=>fy p.2.a)=true:=by
 intro a6
 induction a6 with
 |nil=>exact λ_ _=>⟨.nil,rfl⟩
 |cons p l e =>
  intro fr c;obtain⟨f,g⟩:=e (λq b=>fr q (ba _ b)) λq b=>c q (ba _ b);obtain⟨lv,rn,h⟩:=fr p aW;obtain⟨s1,s2⟩:=(c p aW).str d;refine⟨.cons (.tup h.eJ (.cons (.str _) (.cons (.str _) .nil))) f,?_⟩;show((Vt p.2.a.1&&(Vt p.2.a.2&&true))&&X6 _)=true;rw[s1,s2,g];rfl
theorem CP{W:aO}(b:gZ W NU){a:Ask}(u:UA W NU a):(fy a).canLay0=true/\(fy a).depth<=60:=by
 obtain⟨s1,s2⟩:=u.str b;exact⟨by show(Vt a.1&&(Vt a.2&&true))=true;rw[s1,s2];rfl,by simp[fy,Yd,Ve]⟩
inductive q2(R:EZ)(vs:List V)(H:Hp)(Q:VK)(E:XK):Prop
 |mk{S:Wh}{st ta:EZ}{a6:List (FA×bc)}{b:Ask}{i:Nat}(_:vs=[.ref st,.ref ta])(_:gZ S.W S.NU)(_:H st=ih (.lst (refs a6)))(_:a6.length<=1000)(_:oi R S H a6)(_:∀p∈a6,UA S.W S.NU p.2.a)(_:H ta=ih (.tup [.str b.1,.str b.2]))(_:UA S.W S.NU b)(_:(a6.map (·.2.a))[i]?=ih b)(_:∀m,m<i->(a6.map (·.2.a))[m]? ≠ ih b)
  (_:∀t H',aw H H'->H t=none->H' t=ih (.tup ((b9 ((a6.map (·.2.a)).drop i)).map V.str))->Q (.ref t) H'):q2 R vs H Q E
abbrev vI:List Fv:=["standing","again","askings"]
theorem Eb:bf vI ["standing","again"] (aI kg):=bz
abbrev O2:Vp:=e8 (bR (bE kg) 0)
abbrev O3:Vp:=gj (mr (bR (bE kg) 1))
theorem Dy:b6 vI (aI kg) ["reckoning"] [none] (cB O2):=c8
theorem uO:b6 vI (aI kg) ["name","behind"] [none,none] (cB O3):=c8
theorem Ny(F:aQ K "round_from" "round_from" kg f fd)(B:df mg)(xe:iw K mg R):aT P w K mg base aG 1 f fd ["standing","again"] (q2 R):=by
 refine F.bG Eb λQa A outer s H vs Q E ye h=>?_
 ·obtain @⟨S,st,ta,d,b,i,rfl,Z,T,zb,fs,ze,xc,xf,hi,yc,q⟩:=h
  have yf:=ye.units;intro X;refine⟨_,au (lK rfl Dy Eb.nd (i:=2) rfl rfl (c6 (pv 0)) (λs H fp=>⟨bb 0 Dy.nd,ei,Cc K rfl (pv 0) rfl⟩))
   (aA (aX (dq iI rfl B.tuple boot_tuple (aa (dZ rfl uO (c6 (iK lY (pv 2) (ia (gc hg VE VF (Iy yf) (pv 2) (aa (pv 1) ah))) iQ)) (λs H fp=>⟨pF (n:=2) K rfl rfl (cZ (bb 0 uO.nd) (cZ (bb 1 uO.nd) gw)),iL (bp c7 (pv 1) bq (bA _)),pv 0⟩)) ah)))),?_⟩
  refine⟨_,rfl,st,rfl,⟨_,aj.of T⟩,λc zf=>Bs xe T fs zb zf λY I h1=>?_⟩;have zc:=I _ _ xc;obtain⟨xg,yg⟩:=Cd Z (λp J=>let ⟨lv,rn,x⟩:=fs.fr p J;⟨lv,rn,x.keep λb o _ e=>I _ _ e⟩) ze;obtain⟨b1,zg⟩:=CP Z xf;have xa:∀m:Nat,(d.map λp=>fy p.2.a)[m]?=((d.map (·.2.a))[m]?).map fy:=λm=>by rw[cI,cI,wU];rfl
  refine⟨_,rfl,_,rfl,.inl ⟨rfl,_,aj.of h1⟩,_,rfl,c,_,_,_,fy b,_,i,rfl,rfl,h1,xg,.tup zc (.cons (.str _) (.cons (.str _) .nil)),yg,b1,zg,by rw[xa,hi];rfl,by rw[pV];exact cb rfl,λm L xh e=>?_,_,rfl,c,_,rfl,aj.of h1,λu xd=>?_⟩
  ·rw[xa]at e
   obtain⟨a,yh,rfl⟩:=gu.mp e;rw[pV];exact ef λz=>yc m xh (by rw[yh,z])
  rw[nD,<-lB];have M:=I.trans (aJ (o:=.lst ((d.drop i).map λp=>V.ref p.1.ta)) xd);have h2:upd Y u (.lst ((d.drop i).map λp=>V.ref p.1.ta)) u=bd ((d.drop i).map λp=>V.ref p.1.ta):=af;generalize upd Y u (.lst ((d.drop i).map λp=>V.ref p.1.ta))=H2 at M h2⊢;refine⟨u,rfl,⟨_,aj.of h2⟩,λya U=>?_⟩;have yd:(d.map (·.2.a)).drop i=(d.drop i).map (·.2.a):=by rw[lB]
  rw[yd]at q;have L:∀p∈d.drop i,p∈d:=λp J=>oU J;have dl:(d.drop i).length<=1000:=by rw[mR];omega
  generalize d.drop i=gs at h2 q L dl;have zh:∀l:ac (FA×bc),(b9 (l.map (·.2.a))).length<=l.length:=λl=>by unfold b9;rw[aB];exact eg (gM _ _) (by rw[aB];exact aP _)
  refine fe (xs:=gs.map λp=>V.ref p.1.ta) (λj ys v g=>∃N O:ad V,v=[N,O]/\aw H2 g/\g ya=bd ys/\ys=(b9 ((gs.take j).map (·.2.a))).map V.str) ⟨none,none,rfl,aJ U,af,rfl⟩ (λj ys v g ab=>by obtain⟨_,_,_,z1,z2,_⟩:=ab;exact ⟨z2,aj.of (z1 _ _ h2)⟩) ?_ ?_
  ·rintro j y ys v g za ⟨N,O,rfl,k,r,rfl⟩
   have D:=(bZ.mp za).1;have G:j<gs.length:=by rwa [aB]at D
   obtain rfl:V.ref gs[j].1.ta=y:=by simpa [G] using za
   have zd:gs.take (j+1)=gs.take j++[gs[j]]:=by rw[dH,bw G];rfl
   obtain⟨lv,rn,xi⟩:=fs.fr gs[j] (L _ (eL G));have yb:=k _ _ (M _ _ xi.eJ);have C:b9 ((gs.take (j+1)).map (·.2.a))=b9 ((gs.take j).map (·.2.a))++(if decide (gs[j].2.a.2=("" : Fv))=true then [gs[j].2.a.1] else []):=by
    rw[zd];unfold b9;rw[a8,gN,a8];congr 1;show((List.filter _ [gs[j].2.a]).map _)=_;rw[mZ,rW];split <;> rfl
   refine⟨gs[j].1.ta,_,rfl,ay.of yb,rfl,_,_,rfl,_,_,rfl,rfl,_,rfl,rfl,_,rfl,?_⟩
   by_cases e:gs[j].2.a.2=("" : Fv)
   ·rw[cb e,aE rfl]at C
    refine ite_tt (by rw[e];rfl) ?_
    have:=zh (gs.take j);rw[cH]at this;exact⟨_,rfl,r,by rw[aB,aV];omega,cw_next D ⟨_,_,rfl,λb o e=>by rw[ag (ax e U)];exact k _ _ e,af,by rw[C,a8];rfl⟩⟩
   ·rw[ef e,ao b',eU]at C
    refine ite_ff (ef λz=>e (by injection z)) ?_
    exact cw_next D ⟨_,_,rfl,k,r,by rw[C]⟩
  rintro ys v g ⟨N,O,rfl,k,r,rfl⟩;rw[aB,cz]at r;refine⟨ya,_,rfl,.inl ⟨aj.of r,λt xb=>?_⟩⟩;have W:=M.trans k;exact q t _ (W.trans (aJ xb)) (W.free xb) af
inductive oj(C D R M N:EZ)(vs:List V)(H:Hp)(Q:VK)(E:XK):Prop
 |mk{S:Wh}{bg m:Int}{kh kk kq:List (List Key×V)}{ka:List (Ask×Int)}{st ta:EZ}{a6:List (FA×bc)}{b:Ask}(_:vs=[.ref S.x,.ref st,.ref ta])(_:gZ S.W S.NU)(_:cf C D S bg m kh kk kq ka H)(_:kh.length<=900000)(_:kk.length<=10000)(_:H st=ih (.lst (refs a6)))(_:a6.length<=300)(_:oi R S H a6)(_:∀p∈a6,UA S.W S.NU p.2.a)(_:H ta=ih (.tup [.str b.1,.str b.2]))(_:UA S.W S.NU b)
  (_:∀i,(∀z,(b,z)∉ ka)->(a6.map (·.2.a))[i]?=ih b->(∀m,m<i->(a6.map (·.2.a))[m]? ≠ ih b) ->∀a H',aw H H'->H a=none->q0 N (b9 ((a6.map (·.2.a)).drop i)) H' a->E (.ref N) (ih a) H')
  (_:∀z,(b,z)∈ka->Q .aK H)
  (_:(∀z,(b,z)∉ ka)->S.W.Out b (.miss b.1) ->∀a H',Kp S H H'->H a=none->qu M b.1 H' a->E (.ref M) (ih a) H')
  (_:∀z mK ey m' H',(∀z,(b,z)∉ ka)->(∀p∈a6,p.2.a≠b)->S.W.Out b (.told z)->(∀y o,y≠S.fi->y≠S.dh->y≠S.kn->H y=ih o->H' y=ih o)->cf C D S bg m' ey mK kq (ka++[(b,z)]) H'->ey.length<=kh.length+1->Q .aK H')
  (_:∀fa fr lv rn ey m' H',(∀z,(b,z)∉ ka)->(∀p∈a6,p.2.a≠b)->fr.a=b->bO S.W fr->fr.w∈S.W.line->(∀y o,y≠S.fi->y≠S.dh->y≠S.x->y≠st->H y=ih o->H' y=ih o)->cf C D S (bg+1) m' ey kk kq ka H'->ey.length<=kh.length+1->H' st=ih (.lst (refs (a6++[(fa,fr)])))->cY R S H' fa fr lv rn->H fa.x=none->H fa.lf=none->H fa.rs=none->fa.x≠fa.lf->fa.x≠fa.rs->Q .aK H'):oj C D R M N vs H Q E
abbrev EG:List Fv:=["self","standing","asking","name","behind","hit"]
theorem q3:bf EG ["self","standing","asking"] (aI nV):=bz
def Dz(s:U6):Vp:=match s with|.If t _ _ _=>t|_=>.Constant .none 0 ⟨0,0,0,0⟩
abbrev P6:Vp:=Dw (Dz (bR (bE nV) 1))
theorem Ec:b6 EG (aI nV) ["reckoning"] [none] (cB P6):=c8
theorem Nz{N xA fR zL:EZ}{yA xM:X2}(F:aQ K "enter" "Whole.enter" nV f fd)(T:hR K mg C)(yM:jQ K mg D)(zA:iw K mg R)(O:uN K mg B M fI dI)(U:vc K mg B N xA yA)(zM:bF P w K mg base aG 1 zL xM ["standing","again"] (q2 R) "round_from")(xN:aT P w K mg base aG 2 fL dL ["self","kind","name","behind"] (mc D))(yN:Meth K D "look" fL)(zN:Binds K dL ["self","kind","name","behind"] [])(xO:bF P w K mg base aG 1 fG dG ["entry"] qS "goes_first")(yO:bF P w K mg base aG 1 fS dS ["entry"] qT "steps_of")
  (zO:Mk K R fR) (xP:aT P w K mg base aG 1 fR dR oC (qU R)) (yP:Binds K dR oC []):aT P w K mg base (cL P w) 3 f fd ["self","standing","asking"] (oj C D R M N):=by
 have zP:aT P w K mg base aG 1 fI dI ["self","name"] (kU K "name"):=Nw O.F O.b O.mB;have xQ:aT P w K mg base aG 1 xA yA ["self","names"] (kU K "names"):=Nx U.F U.b U.mB;refine F.u2 q3 λQa A outer s H vs Q E xB h=>?_
 ·obtain @⟨S,bg,m,kh,kk,kq,ka,st,ta,ze,b,rfl,ya,h,yW,zW,xl,xX,fs,zt,yl,zd,yQ,zQ,xR,yR,zR⟩:=h
  have yg:aZ 2 _:=xB;have zo:aZ 1 _:=yg.mono (by decide)
  have yB:=xB.units;have zg:=eu yB;intro X;refine⟨_,au (bh (fQ (iU zg (pv 2) (ck (pv 0) rfl))) (aA JW) bD)
   (au (bh (bp (C0 yB) (pv 2) (dZ rfl Ec (c6 (pv 1)) (λs H fp=>⟨bb 0 Ec.nd,ei,Cc K rfl (pv 0) rfl⟩)) rfl) (aA (A4 (Cr U.q U.fn U.kp xQ yg U.bi cV rfl U.mC (aa (a9 zM zo (aa (pv 1) (aa (pv 2) ah))) ah)))) bD)
   (au (iT (pv 2) (ib rfl (cZ (bb 3 q3.nd) (cZ (bb 4 q3.nd) gw))))
   (au (aY 5 q3.nd (hA (ck (pv 0) rfl) yM.cl yN xN yg zN .nil cV (aa (ck (pv 0) rfl) (aa (pv 3) (aa (pv 4) ah)))))
   (aA (bh (PW.pt (pw_and (bp c7 (pv 4) bq (bA _)) (pw_and (fQ (iU zg (pv 3) (ck (pv 0) rfl))) (pw_and1 (PW.pt (pw_or (bp gy (pv 5) dQ (bA _)) (pw_or1 (hF (hE (a9 xO zo (aa (aU bj (pv 5) ar) ah)))))))))))
    (aA (gx zg (ck (pv 0) rfl) (pv 2) (b7 (aa bq (aa (d0 zg (ck (pv 0) rfl) (pv 3)) (aa (b7 (aa (pv 3) ah)) ah)))) rfl))
    (aA (bh (bp gy (pv 5) dQ (bA _)) (aA (A4 (Cr O.q O.fn O.kp zP yg O.bi cV rfl O.mC (aa (pv 3) ah))))
     (aA (bh (bp c7 (aU bj (aU bj (pv 5) ar) ar) bq (bA _))
      (aA (gx zg (ck (pv 0) rfl) (pv 2) (b7 (aa (aU bj (pv 5) ar) (aa (aU bj (aU bj (pv 5) ar) ar) (aa (b7 (aa (pv 3) ah)) ah)))) rfl))
      (au (m7 (pv 0) ar pY) (aA (eF (gc hg mX mY ju (pv 1) (aa (tu zO xP yg rfl zA.oB yP .nil cV (aa (pv 2) (aa (aU bj (pv 5) ar) (aa (a9 yO zo (aa (aU bj (pv 5) ar) ah)) ah)))) ah)))))))))))))),?_⟩
  have xF:H ta=a2 ((bX b).map kV):=yl;refine⟨_,rfl,_,rfl,S.x,C,S.dx,_,.ref S.kn,rfl,h.hx,T.cl,T.nn,iP,S.kn,_,rfl,b4.t (k:=bX b) h.hk xF,_,rfl,?_⟩;rcases h.kv.val b with⟨e1,xf⟩|⟨v,z,yY,y,ns,zY,e1,e3,_⟩
  ·rw[e1]
   refine⟨_,rfl,_,rfl,st,rfl,⟨_,aj.of xl⟩,λc xS=>Bs zA xl fs (by omega) xS λY Z h1=>?_⟩
   obtain⟨zB,yS⟩:=Cd ya (λp za=>let ⟨lv,rn,x⟩:=fs.fr p za;⟨lv,rn,x.keep λb o _ e=>Z _ _ e⟩) zt;obtain⟨b1,zS⟩:=CP ya zd;refine⟨fy b,_,.tup (Z _ _ yl) (.cons (.str _) (.cons (.str _) .nil)),.inl (.lst h1 zB),b1,yS,zS,_,rfl,?_⟩;rw[ao b'];have zD:((ze.map λp=>fy p.2.a).any λy=>X5 y (fy b))=decide (b∈ze.map (·.2.a)):=by
    rw[lj,lu,decide_eq_true_iff,a4]
    constructor
    ·rintro⟨y,yi,e⟩
     obtain⟨p,za,rfl⟩:=a4.mp yi;rw[pV]at e;exact⟨p,za,dJ e⟩
    ·rintro⟨p,za,e⟩
     exact⟨_,a4.mpr ⟨p,za,rfl⟩,by rw[pV];exact cb e⟩
   rw[zD];refine bW (λxh=>?_) (λxh=>?_)
   ·have xh:=dJ xh
    obtain⟨xu,yu⟩:=s6 xh;generalize (ze.map (·.2.a)).idxOf b=i at xu yu;refine⟨_,rfl,_,rfl,q2.mk (i:=i) rfl ya (Z _ _ xl) (by omega) ⟨λp za=>let ⟨lv,rn,x⟩:=fs.fr p za;⟨lv,rn,x.keep λb o _ e=>Z _ _ e⟩,fs.nd⟩ zt (Z _ _ yl) zd xu yu λt H2 zu yX yc=>⟨by show 1<=100;decide,λa zc=>kU.mk rfl af U.x U.q (JO (aJ zc _ _ yc) ?_ ?_) U.nk λd xb xT xp I yh yp=>⟨rfl,a,N,ih d,_,rfl,I,λyT xv=>by cases xv;exact⟨_,yh⟩,U.x,U.q,(Z.trans zu).free zc,?_⟩⟩⟩
    ·intro x xd
     unfold b9 at xd;obtain⟨y,yi,rfl⟩:=a4.mp xd;obtain⟨p,za,rfl⟩:=a4.mp (oU (fc.mp yi).1);exact ya.nm _ (zt p za).1
    ·unfold b9;rw[aB];have h1:=gM (λa:Ask=>decide (a.2=("" : Fv))) ((ze.map (·.2.a)).drop i);rw[mR,aB]at h1;omega
    ·have xC:aw H2 (upd xb a (gU (ih .none) N (ih d) a)):=λb o e=>by
      have xe:b≠a:=ax e zc;rw[ag xe];exact yp b o (by rw[ag xe];exact e) xe
     exact yQ i xf xu yu a _ ((Z.trans zu).trans xC) ((Z.trans zu).free zc) ⟨d,t,af,by rw[ag xp];exact yh,xC _ _ yc⟩
   have zx:∀p∈ze,p.2.a≠b:=λp za e=>xh (cb (a4.mpr ⟨p,za,e⟩));have yk:=Z _ _ yl;have I:=h.same Z;have zn:=Z _ _ xl;clear h1 zB;refine⟨_,rfl,ta,_,rfl,ay.of yk,rfl,_,_,rfl,_,_,rfl,rfl,?_⟩;refine⟨_,rfl,S.x,C,S.dx,_,.ref S.fi,rfl,I.hx,T.cl,T.nf,s7,S.fi,S.fx,_,rfl,I.fi.hx,uM (by decide +kernel) (by decide +kernel) (by decide +kernel) (by decide +kernel),_,rfl,S.x,C,S.dx,_,.str S.kd,rfl,I.hx,T.cl,T.nk,tW,_,rfl,_,rfl,mc.mk rfl I.fi I.ln (by rw[h.el];have:=ya.ln;omega) (by rw[h.el];exact zd.2) I.mJ (by omega) λv zp yv H2 zl yF zF yC J=>?_⟩
   have yf:=I.looked zl yF zF;have kp:Kp S H H2:=λb o n1 yd z=>zl b o n1 yd (Z _ _ z);rw[h.el]at J;have J:eH H2 v (S.W.look b):=J;have xE:=zl _ _ (aq yk I.fi.hx) (aq yk I.fi.hh) yk
   have yE:=zl _ _ (aq zn I.fi.hx) (aq zn I.fi.hh) zn
   have xq:∀y,H2 y=none->H y=none:=λy e=>by
    cases e0:H y with
    |none=>rfl
    |some u =>
     by_cases z1:y=S.fi
     ·rw[z1,yf.fi.hx]at e;cases e
     ·by_cases z2:y=S.dh
      ·rw[z2,yf.fi.hh]at e;cases e
      ·rw[kp y u z1 z2 e0]at e;cases e
   have xy:∀wh d,S.W.look b=ih (wh,d)->Ent d:=λwh d e=>(kA ya.bk wh d e).2;have yy:∀z j tt ns,aw H2 j->S.W.Out b (.told z)->(∃y,j tt=a2 [y,.int z,.ref ns])->j ns=a2 [.str b.1]->Q .aK (upd j S.kn (.dT (putK kk (bX b) (.ref tt)))):=λz j tt ns r zm ⟨y,xG⟩ yG=>by
    have g:=yf.same r;rw[iN _ (g.kv.no xf)];have up:∀{u:HO} x o,x≠S.kn->j x=ih o->upd j S.kn u x=ih o:=λx o n e=>by rw[ag n];exact e
    have zi:∀{u:HO} x xs,j x=a2 xs->upd j S.kn u x=a2 xs:=λx xs e=>up _ _ (aq e g.hk) e
    refine yR z _ zp yv _ xf zx zm (λx o n1 yd zv e=>up _ _ zv (r _ _ (kp x o n1 yd e))) (g.Dx xf zm zd (λx o n1 yd e=>up _ _ n1 e) af (up _ _ (aS h.n1.2.2.2.2) g.hq) (Fw h.ql) ⟨y,ns,[b.1],zi _ _ xG,zi _ _ yG,by simp,λy yi=>by rw[bL.mp yi];exact zd.1⟩) yC
   refine JN (b:=decide (V.str b.2=V.str "")&&((a' (c1 S.W.own) (n' b.1)).isSome&&S.W.eS b)) (.and (λR k=>⟨_,rfl,rfl,_,rfl,k _ λ_ _ e=>e⟩) λ_ j r=>.and (λR k=>⟨_,rfl,_,rfl,S.x,C,S.dx,_,.ref S.ow,rfl,r _ _ yf.hx,T.cl,T.no,Dc,S.ow,_,rfl,b4.k (k:=n' b.1) (r _ _ yf.ho),_,rfl,k _ λ_ _ e=>e⟩) λ_ xb G R k=>?_) λj r=>?_
   ·have G:=r.trans G
    cases L:S.W.look b with
    |none =>
     rw[L]at J;rw[show S.W.eS b=true by unfold aO.eS;rw[L]]at k
     have J:v=V.aK:=J;subst J;exact⟨_,rfl,rfl,_,rfl,k _ λ_ _ e=>e⟩
    |some p =>
     obtain⟨y,d⟩:=p;rw[L]at J;rw[show S.W.eS b = !jF d by unfold aO.eS;rw[L]]at k
     obtain⟨t,u,rfl,yc,xw⟩:=J;refine⟨_,rfl,rfl,_,rfl,_,rfl,t,_,1,_,rfl,rfl,ay.of (G _ _ yc),cP,qS.mk rfl (xy _ _ L) (xw.same G) λxj zb=>⟨_,rfl,k _ zb⟩⟩
   have g:=yf.same r;have xo:=r _ _ xE
   by_cases yw:b.2 = "" /\ (S.W.own.lookup b.1).isSome=true/\S.W.eS b=true
   ·obtain⟨zy,zG,xz⟩:=yw
    obtain⟨z,xn⟩:=rJ.mp zG;have zC:a' (c1 S.W.own) (n' b.1)=ih (.int z):=by rw[nL,xn];rfl
    have yj:S.W.cQ b=ih z:=by unfold aO.cQ;rw[aE ⟨zy,xz⟩,xn]
    rw[aE (by rw[zC,xz,zy];rfl)]
    refine⟨_,rfl,S.x,C,S.dx,_,.ref S.ow,rfl,g.hx,T.cl,T.no,Dc,_,rfl,S.ow,.int z,rfl,by rw[<-zC];exact b4.k (k:=n' b.1) g.ho,_,rfl,eI,λl yq=>⟨gY,λyb zh=>?_⟩⟩
    have G:=(aJ (o:=.tup [V.str b.1]) yq).trans (aJ (o:=.tup [V.str "",.int z,.ref l]) zh);have zf:upd (upd j l (.tup [V.str b.1])) yb (.tup [V.str "",.int z,.ref l]) yb=a2 [V.str "",.int z,.ref l]:=af;have xg:upd (upd j l (.tup [V.str b.1])) yb (.tup [V.str "",.int z,.ref l]) l=a2 [V.str b.1]:=by rw[ag (ax af zh)];exact af
    generalize upd (upd j l (.tup [V.str b.1])) yb (.tup [V.str "",.int z,.ref l])=xb at G zf xg⊢;refine⟨_,rfl,S.x,C,S.dx,_,.ref S.kn,rfl,G _ _ g.hx,T.cl,T.nn,iP,_,rfl,S.kn,_,rfl,eR.t (k:=bX b) (G _ _ g.hk) (G _ _ xo) (by rw[aV];omega),?_⟩
    exact yy z xb yb l (r.trans G) (Out.own yj) ⟨_,zf⟩ xg
   have yj:S.W.cQ b=none:=by
    unfold aO.cQ
    by_cases yn:b.2 = "" /\ S.W.eS b=true
    ·rw[aE yn]
     cases e:S.W.own.lookup b.1 with
     |none=>rfl
     |some z=>exact absurd ⟨yn.1,by rw[e];rfl,yn.2⟩ yw
    ·rw[ao yn]
   rw[ao (λz=>yw (by
    rw[gK,gK,nL,rQ]at z;refine⟨?_,z.2.1,z.2.2⟩;have e:=dJ z.1;injection e))]
   cases L:S.W.look b with
   |none =>
    rw[L]at J;have J:v=V.aK:=J;subst J;refine⟨_,rfl,rfl,_,rfl,_,rfl,by show 1<=100;decide,λa zc=>kU.mk rfl af O.x O.q (.inl ⟨_,rfl,by have:=(ya.nm _ zd.1).hi;omega⟩) O.nk λd xb xT xp I yh yp=>⟨rfl,a,M,ih d,_,rfl,I,λyT xv=>by cases xv;exact⟨_,yh⟩,O.x,O.q,xq _ (r.free zc),?_⟩⟩
    refine xR xf (Out.none yj L) a _ (λy u n1 yd e=>?_) (xq _ (r.free zc)) ⟨d,af,by rw[ag xp];exact yh⟩
    have e3:=r _ _ (kp y u n1 yd e);have xe:y≠a:=ax e3 zc;rw[ag xe];exact yp y u (by rw[ag xe];exact e3) xe
   |some p =>
    obtain⟨y,d⟩:=p;rw[L]at J;obtain⟨t,u,rfl,yc,xw⟩:=J;have zj:=xy _ _ L;have xi:=r _ _ yc;have zq:=xw.same r;obtain⟨xD,xs,rfl,xH⟩:=tX zj zq;refine⟨_,rfl,rfl,_,rfl,_,rfl,t,_,1,_,rfl,rfl,ay.of xi,cP,xD,_,0,_,rfl,rfl,ay.of xH,b8,rfl,_,rfl,?_⟩;refine bW (λe=>?_) (λe=>?_)
    ·have e:a7 d = "plain" :=by
      have:=dJ e;injection this
     cases zj with
     |ahead x n=>exact absurd e (by show ¬ ((("ahead" : Fv)) = "plain");decide +kernel)
     |behind ds=>exact absurd e (by show ¬ ((("behind" : Fv)) = "plain");decide +kernel)
     |jP ds=>exact absurd e (by show ¬ ((("shut" : Fv)) = "plain");decide +kernel)
     |plain n xZ =>
      obtain⟨zX,yZ,yH,zE,zH⟩:=two1 zq;cases yH
      obtain rfl:=zH.ir;have zm:S.W.Out b (.told n):=by
       have:=(bO.new (W:=S.W) yj L).up 0 (.told n) (by show ih (Rs.told (stepT 0 (.tuple [.str "add",.int n])))=_;rw[show stepT 0 (.tuple [.str "add",.int n])=n from(by show 0+n=n;omega)])
       exact this
      refine⟨_,rfl,t,_,0,_,rfl,rfl,ay.of xi,b8,_,rfl,t,_,1,_,rfl,rfl,ay.of xi,cP,xD,_,1,_,rfl,rfl,ay.of zE,cP,_,rfl,eI,λl yq=>⟨gY,λyb zh=>?_⟩⟩;have G:=(aJ (o:=.tup [V.str b.1]) yq).trans (aJ (o:=.tup [V.str y,.int n,.ref l]) zh);have zf:upd (upd j l (.tup [V.str b.1])) yb (.tup [V.str y,.int n,.ref l]) yb=a2 [V.str y,.int n,.ref l]:=af;have xg:upd (upd j l (.tup [V.str b.1])) yb (.tup [V.str y,.int n,.ref l]) l=a2 [V.str b.1]:=by rw[ag (ax af zh)];exact af
      generalize upd (upd j l (.tup [V.str b.1])) yb (.tup [V.str y,.int n,.ref l])=xb at G zf xg⊢;refine⟨_,rfl,S.x,C,S.dx,_,.ref S.kn,rfl,G _ _ g.hx,T.cl,T.nn,iP,_,rfl,S.kn,_,rfl,eR.t (k:=bX b) (G _ _ g.hk) (G _ _ xo) (by rw[aV];omega),?_⟩
      exact yy n xb yb l (r.trans G) zm ⟨_,zf⟩ xg
    ·have e:a7 d ≠ "plain" :=λz=>e (by rw[z];exact cb rfl)
     have zw:=r _ _ yE;refine⟨_,rfl,S.x,C,S.dx,_,.int bg,rfl,g.hx,T.cl,T.nb,rfl,_,_,rfl,rfl,S.dx,_,g.hx,by show 6<1000;decide,?_⟩
     rw[show b3 "begun" (.int (bg+1)) (fW S.fi S.ow S.kp S.kn S.kd bg)=fW S.fi S.ow S.kp S.kn S.kd (bg+1) from rfl];have xa:∀x o,x≠S.x->j x=ih o->upd j S.x (.ins C S.dx (fW S.fi S.ow S.kp S.kn S.kd (bg+1))) x=ih o:=λx o n e=>by rw[ag n];exact e
     have xm:upd j S.x (.ins C S.dx (fW S.fi S.ow S.kp S.kn S.kd (bg+1))) S.x=ih (.ins C S.dx (fW S.fi S.ow S.kp S.kn S.kd (bg+1))):=af;generalize upd j S.x (.ins C S.dx (fW S.fi S.ow S.kp S.kn S.kd (bg+1)))=xb at xa xm⊢;have zT:∀{x:EZ}{xs:ac V},j x=a2 xs->x≠S.x:=λe=>aq e g.hx
     have xc:∀x xs,j x=a2 xs->xb x=a2 xs:=λx xs e=>xa _ _ (zT e) e;have yD:cf C D S (bg+1) yv zp kk kq ka xb:=by
      obtain⟨xU,yU,zU⟩:=g.ln;exact⟨h.n3,xm,⟨xa _ _ (aS h.n3) g.fi.hx,xa _ _ (aq g.fi.hl g.hx) g.fi.hl,xa _ _ (aq g.fi.he g.hx) g.fi.he,xa _ _ (aq g.fi.hh g.hx) g.fi.hh,g.fi.du.keep xc ya.bk.ent,ya.bk,g.fi.nn⟩,xa _ _ (aq g.ho g.hx) g.ho,xa _ _ (aq g.hk g.hx) g.hk,xa _ _ (aq g.hq g.hx) g.hq,h.n1,⟨xU,yU,xc _ _ zU⟩,h.el,g.mJ.keep ya.bk xc,g.kv.keep xc,h.ok,h.nd,h.ee,h.ql⟩
     have yo:=xa _ _ (aq zw g.hx) zw
     refine⟨_,rfl,.inl ⟨rfl,_,aj.of yo⟩,_,rfl,_,rfl,t,_,0,_,rfl,rfl,ay.of (xc _ _ xi),b8,_,rfl,t,_,1,_,rfl,rfl,ay.of (xc _ _ xi),cP,qT.mk rfl zj (zj.keep zq xc) e λzZ us xj zb xI yI=>?_⟩;intro x dx xd zI ne;have xJ:upd xj dx (.own x) x=none:=by rw[ag (aS ne)];exact xd
     have ye:=(aJ (o:=.own x) zI).trans (aJ (o:=.ins R dx []) xJ);have ym:upd (upd xj dx (.own x)) x (.ins R dx []) x=ih (.ins R dx []):=af;generalize upd (upd xj dx (.own x)) x (.ins R dx [])=x0 at ye ym⊢;have xx:=zb _ _ (xc _ _ xo);refine qU.mk rfl ym (ye _ _ xx) (ye _ _ xI) λlf rs xk xr yr yJ xV yz zJ xK=>⟨rfl,?_⟩;have zr:aw xj xk:=λc o e=>xV _ _ (ax e xd) (ye _ _ e);have xt:=zb.trans zr;have zk:=xt _ _ yo;refine⟨st,refs ze,_,rfl,rfl,zk,by unfold refs;rw[aB,aV];omega,?_⟩
     have yt:∀c,xb c=none->H c=none:=λc e=>xq _ (r.free (by
      cases e0:j c with
      |none=>rfl
      |some u =>
       by_cases z:c=S.x
       ·rw[z,xm]at e;cases e
       ·rw[xa _ _ z e0]at e;cases e))
     have up:∀{u:HO} c o,c≠st->xk c=ih o->upd xk st u c=ih o:=λc o n e=>by rw[ag n];exact e
     have zi:∀{u:HO} c xs,xk c=a2 xs->upd xk st u c=a2 xs:=λc xs e=>up _ _ (aq e zk) e
     have yx:=ye _ _ (zb _ _ yo);have yK:lf≠st:=aS (ax yx xr);have zK:rs≠st:=aS (ax yx yr);have xL:x≠lf:=ax ym xr;have yL:x≠rs:=ax ym yr;obtain⟨zz,xY⟩:=s8 zj;refine zR ⟨x,dx,ta,lf,rs⟩ ⟨b,y,cc d,0⟩ us [b.1] zp yv _ xf zx rfl (bO.new yj L) (l3 L) (λc o n1 yd zv yV e=>up _ _ yV (xt _ _ (xa _ _ zv (r _ _ (kp c o n1 yd e))))) ((yD.same xt).write λc o zV _ e=>up _ _ (λz=>by rw[z,zk]at e;cases e;exact zV _ rfl) e) yC (by rw[af];unfold refs;rw[a8];rfl) ⟨up _ _ (aq yz zk) yz,zi _ _ (zr _ _ xx),up _ _ yK zJ,h7 (λc xs e=>zi _ _ (zr _ _ e)) yI zz,zz,λs xW yc=>ya.ask _ (kf (jD L).2) s xW yc,up _ _ zK xK,λz xn=>by rw[bL.mp xn];exact zd.1,by show 1+(cc d).length * 20<=99;omega,yJ,aS (ax (zb _ _ xm) xd),aS (ax (zb _ _ yD.fi.hx) xd)⟩ (yt _ (zb.free xd)) (yt _ (zb.free (ye.free xr))) (yt _ (zb.free (ye.free yr))) xL yL
  ·rw[e1]
   exact zQ z e3
theorem mj{α:Type} [DecidableEq α]:∀{a b:ac α},a.Nodup->(∀x∈a,x∈b)->a.length<=b.length
 |[],_,_,_=>bB _
 |x::a,b,f,h=>by
  obtain⟨n1,g⟩:=d4.mp f;have c:=h x aW;have:=mj (b:=b.erase x) g λy d=>(Fi (λe=>n1 (by rw[<-e];exact d))).mpr (h y (ba _ d))
  rw[Fg c]at this;have:=Fh c;rw[cS];omega
def e9(W:aO)(NU:List Fv):List Ask:=NU.flatMap λn=>(("" : Fv)::W.line).map λk=>(n,k)
theorem Ce{W:aO}{a:Ask}(h:UA W NU a):a∈e9 W NU:=by
 unfold e9;refine oV.mpr ⟨a.1,h.1,a4.mpr ⟨a.2,?_,rfl⟩⟩;rcases h.2 with z|z
 ·rw[z];exact aW
 ·exact ba _ z
theorem JP{W:aO}(a:gZ W NU):(e9 W NU).length<=200:=by
 have:∀l:ac Fv,(l.flatMap λn=>(("" : Fv)::W.line).map λk=>((n,k):Ask)).length=l.length * (W.line.length+1):=by
  intro l
  induction l with
  |nil=>simp
  |cons x l b=>rw[FX,bV,b,aB,cS,cS,rY (l.length) 1];omega
 unfold e9;rw[this];have h1:=a.a3;have h2:=a.ln
 calc NU.length * (W.line.length+1)<=20 * 10:=wX h1 (by omega)
  _=200:=rfl
def gI(U k s:Nat):Nat:=(U - k) * (U+2)+(U - s)
theorem JQ{k s:Nat}(h:s+1<=U):gI U k (s+1)<gI U k s:=by unfold gI;omega
theorem sI{k s s':Nat}(h:k+1<=U):gI U (k+1) s'<gI U k s:=by
 unfold gI;have e:U - k=(U - (k+1))+1:=by omega
 rw[e,rY,abB];generalize (U - (k+1)) * (U+2)=x;omega
theorem cY.fr{S:Wh}{ka:ac (Ask×Int)}{A:FA}{f:bc}{g:ac V}{st:EZ}(h:cY R S H A f lv rn)(w:cf C D S bg m kh kk kq ka H)(a:H st=bd g)(n:A.lf≠st/\A.rs≠st)(k:∀b o,b≠S.fi->b≠S.dh->b≠S.kn->b≠S.kp->b≠S.x->b≠st->H b=ih o->H' b=ih o):cY R S H' A f lv rn:=by
 have c:∀b xs,b≠st->H b=bd xs->H' b=bd xs:=λb xs n e=>k _ _ (aq e w.fi.hx) (aq e w.fi.hh) (aq e w.hk) (aq e w.hq) (aq e w.hx) n e
 have d:∀b xs,H b=a2 xs->H' b=a2 xs:=λb xs e=>k _ _ (aq e w.fi.hx) (aq e w.fi.hh) (aq e w.hk) (aq e w.hq) (aq e w.hx) (aq e a) e
 exact⟨k _ _ h.nf (aq h.hx w.fi.hh) (aq h.hx w.hk) (aq h.hx w.hq) h.nx (aq h.hx a) h.hx,d _ _ h.eJ,c _ _ n.1 h.hl,h7 d h.rl h.st,h.st,h.an,c _ _ n.2 h.hr,h.rm,h.a3,h.hX,h.nx,h.nf⟩
theorem cY.go{S:Wh}{ka:ac (Ask×Int)}{A a:FA}{f:bc}(h:cY R S H A f lv rn)(w:cf C D S bg m kh kk kq ka H)(d:∃c dx fs,H a.x=ih (.ins c dx fs))(g:∃xs,H a.lf=bd xs)(i:∃xs,H a.rs=bd xs)(n:A.x≠a.x/\A.lf≠a.lf/\A.lf≠a.rs/\A.rs≠a.lf/\A.rs≠a.rs)(k:Kr S a H H'):cY R S H' A f lv rn:=by
 obtain⟨c,dx,fs,d⟩:=d;obtain⟨p,g⟩:=g;obtain⟨q,i⟩:=i;have j:∀b xs,H b=a2 xs->H' b=a2 xs:=λb xs e=>k _ _ (aq e w.fi.hx) (aq e w.fi.hh) (aq e d) (aq e g) (aq e i) e
 have l:∀b xs,b≠a.lf->b≠a.rs->H b=bd xs->H' b=bd xs:=λb xs n1 o e=>k _ _ (aq e w.fi.hx) (aq e w.fi.hh) (aq e d) n1 o e
 exact⟨k _ _ h.nf (aq h.hx w.fi.hh) n.1 (aq h.hx g) (aq h.hx i) h.hx,j _ _ h.eJ,l _ _ n.2.1 n.2.2.1 h.hl,h7 j h.rl h.st,h.st,h.an,l _ _ n.2.2.2.1 n.2.2.2.2 h.hr,h.rm,h.a3,h.hX,h.nx,h.nf⟩
abbrev adr(l:List (FA×bc)):List EZ:=l.flatMap λp=>[p.1.x,p.1.lf,p.1.rs]
theorem IM{l:ac (FA×bc)}{p q:FA×bc}(b:(adr (l++[q])).Nodup)(d:p∈l):p.1.x≠q.1.x/\p.1.lf≠q.1.lf/\p.1.lf≠q.1.rs/\p.1.rs≠q.1.lf/\p.1.rs≠q.1.rs:=by
 unfold adr at b;rw[oW]at b;have a:=(di.mp b).2.2;have m:∀y,y=p.1.x\/y=p.1.lf\/y=p.1.rs->y∈l.flatMap λp=>[p.1.x,p.1.lf,p.1.rs]:=λy c=>oV.mpr ⟨p,d,by simpa using c⟩
 have n:∀y,y=q.1.x\/y=q.1.lf\/y=q.1.rs->y ∈ [q].flatMap λp=>[p.1.x,p.1.lf,p.1.rs]:=λy c=>oV.mpr ⟨q,aW,by simpa using c⟩
 exact⟨a _ (m _ (.inl rfl)) _ (n _ (.inl rfl)),a _ (m _ (.inr (.inl rfl))) _ (n _ (.inr (.inl rfl))),a _ (m _ (.inr (.inl rfl))) _ (n _ (.inr (.inr rfl))),a _ (m _ (.inr (.inr rfl))) _ (n _ (.inr (.inl rfl))),a _ (m _ (.inr (.inr rfl))) _ (n _ (.inr (.inr rfl)))⟩
theorem chain_snoc{W:aO}{b:Ask}{g:bc}:∀{l:ac bc},Chain W l g.a->gB W g=ih b->Chain W (l++[g]) b
 |[],_,h=>h
 |[f],c,h=>⟨c,h⟩
 |f::d::l,c,h=>⟨c.1,chain_snoc (l:=d::l) c.2 h⟩
theorem chain_last{W:aO}{b:Ask}{g:bc}:∀{l:ac bc},Chain W (l++[g]) b->Chain W l g.a
 |[],_=>trivial
 |[f],c=>c.1
 |f::d::l,c=>⟨c.1,chain_last (l:=d::l) c.2⟩
def KT(S:Wh)(H H':Hp):Prop:= ∀b o,b≠S.fi->b≠S.dh->b≠S.kn->b≠S.kp->b≠S.x->H b=ih o->H' b=ih o
inductive q4(C D R M N:EZ)(vs:List V)(H:Hp)(Q:VK)(E:XK):Prop
 |mk{S:Wh}{bg m:Int}{kh kq:List (List Key×V)}{ta:EZ}{a:Ask}(_:vs=[.ref S.x,.ref ta])(_:gZ S.W S.NU)(_:cf C D S bg m kh [] kq [] H)(_:kh.length<=1000)(_:H ta=ih (.tup [.str a.1,.str a.2]))(_:UA S.W S.NU a)
  (_:∀ns,eO S.W a ns ->∀e H',KT S H H'->H e=none->q0 N ns H' e->E (.ref N) (ih e) H')
  (_:∀n,S.W.Out a (.miss n) ->∀e H',KT S H H'->H e=none->qu M n H' e->E (.ref M) (ih e) H')
  (_:∀z,S.W.Out a (.told z) ->∀t y u P7 mK H',KT S H H'->H' S.x=ih (.ins C S.dx (fW S.fi S.ow S.kp S.kn S.kd P7))->H' S.kn=ih (.dT mK)->a' mK (bX a)=ih (.ref t)->H' t=ih (.tup [y,.int z,u])->Q (.ref t) H'):q4 C D R M N vs H Q E
structure TI(C D R:EZ)(S:Wh)(H0:Hp)(a:Ask)(ta st:EZ)(U:Nat)(mm:Nat)(H:Hp)(a6:List (FA×bc))(bg m:Int)(kh kk kq:List (List Key×V))(ka:List (Ask×Int)):Prop where
 w:cf C D S bg m kh kk kq ka H
 em:mm=gI U ka.length a6.length
 lh:kh.length+8 * mm<=400000
 EH:H st=ih (.lst (refs a6))
 fs:oi R S H a6
 ua:∀p∈a6,UA S.W S.NU p.2.a
 ok:∀p∈a6,bO S.W p.2
 wl:∀p∈a6,p.2.w∈S.W.line
 nk:∀p∈a6,∀z,(p.2.a,z)∉ ka
 nd:(a6.map (·.2.a)).Nodup
 ap:∀p∈a6,(p.1.lf≠st/\p.1.rs≠st)/\H0 p.1.x=none/\H0 p.1.lf=none/\H0 p.1.rs=none
 ch:(a6=[] /\∃z,(a,z)∈ka) \/∃l top,a6=l++[top]/\Chain S.W (l.map (·.2)) top.2.a/\(a6.head?.map (·.2.a))=ih a
 eJ:H ta=ih (.tup [.str a.1,.str a.2])
 kt:KT S H0 H
theorem TI.a3{S:Wh}{a:Ask}{ta st:EZ}{d:Nat}{a6:ac (FA×bc)}{ka:ac (Ask×Int)}(j:gZ S.W S.NU)(h:TI C D R S H0 a ta st U d H a6 bg m kh kk kq ka):ka.length+a6.length<=(e9 S.W S.NU).length/\kk.length=ka.length:=by
 refine⟨?_,cK h.w.kv⟩;have f:(ka.map (·.1)++a6.map (·.2.a)).Nodup:=di.mpr ⟨h.w.nd,h.nd,λx c y g e=>by
  obtain⟨p,b,rfl⟩:=a4.mp c;obtain⟨q,i,rfl⟩:=a4.mp g;exact h.nk q i p.2 (by rw[<-e];exact b)⟩
 have:=mj f λx c=>Ce (W:=S.W) (NU:=S.NU) (by
  rcases bI.mp c with z|z
  ·obtain⟨p,b,rfl⟩:=a4.mp z;exact h.w.ee p b
  ·obtain⟨p,b,rfl⟩:=a4.mp z;exact h.ua p b)
 rw[bV,aB,aB]at this;exact this
abbrev P8:List Fv:=["self","first","standing","needed"]
theorem vd:bf P8 ["self","first"] (aI uH):=bz
theorem NA{N:EZ}(F:aQ K "tell" "Whole.tell" uH f fd)(T:hR K mg C)(xC:aT P w K mg base (cL P w) 3 fE dE ["self","standing","asking"] (oj C D R M N))(yC:Meth K C "enter" fE)(zC:Binds K dE ["self","standing","asking"] [])
  (yP:aT P w K mg base aG 4 fG dG ["self","reckoning"] (qY C D R)) (zP:Meth K C "go_on" fG) (xQ:Binds K dG ["self","reckoning"] []) (yQ:aT P w K mg base aG 1 fS dS ["self","reckoning"] (qZ C D R)) (zQ:Meth K C "settle" fS) (xR:Binds K dS ["self","reckoning"] []):aT P w K mg base (cL P w) 5 f fd ["self","first"] (q4 C D R M N):=by
 refine F.u2 vd λQa A outer s H vs Q E xD h=>?_
 ·obtain @⟨S,bg,m,kh,kq,ta,a,rfl,xi,h,yX,zG,yD,yR,qn,q⟩:=h
  have yq:aZ 4 _:=xD;have xy:aZ 3 _:=yq.mono (by decide)
  have xH:aZ 1 _:=yq.mono (by decide)
  have yH:=eu xD.units;intro X;refine⟨_,au (aY 2 vd.nd (ej ah))
   (au (eF (hA (pv 0) T.cl yC xC xy zC .nil qi (aa (pv 2) (aa (pv 1) ah))))
   (au (ni acA (km (pv 2) (λ_=>rfl))
    (au (aY 3 vd.nd (hA (pv 0) T.cl zP yP yq xQ .nil cV (aa (aU dw (pv 2) (uo t4 ar)) ah)))
    (aA (bh (bp gy (pv 3) dQ (bA _)) (aA (eF (hA (pv 0) T.cl zQ yQ xH xR .nil cV (aa (LK hg FV FW LL (pv 2)) ah))))
     (aA (eF (hA (pv 0) T.cl yC xC xy zC .nil qi (aa (pv 2) (aa (pv 3) ah)))))))))
   (aA (aX (d0 yH (ck (pv 0) rfl) (pv 1)))))),?_⟩
  refine⟨bB _,λst zl=>?_⟩;have xd:=aJ (o:=.lst []) zl;have Z:=h.same xd;have zd:upd H st (.lst []) st=bd []:=af;have xa:=xd _ _ zG;generalize upd H st (.lst [])=Y at xd Z zd xa⊢;have zX:=JP xi;have zw:∀k s,8 * gI (e9 S.W S.NU).length k s<=8 * (200 * 202+200):=λk s=>by
   unfold gI;have:((e9 S.W S.NU).length - k) * ((e9 S.W S.NU).length+2)<=200 * 202:=wX (by omega) (by omega)
   omega
  refine OZ (hQ:=λzD=>∃ze a6 bg m kh kk kq ka,TI C D R S H a ta st (e9 S.W S.NU).length ze zD a6 bg m kh kk kq ka) (λxx=>⟨_,rfl,S.x,S.dx,_,rfl,Z.hx,rfl,_,rfl,_,rfl,oj.mk (a6:=[]) (b:=a) rfl xi Z (by omega) (bB _) zd (bB _) ⟨λp c=>(by cases c),e4⟩ (λp c=>(by cases c)) xa yD (λi _ e=>(by simp at e)) (λz za=>(by cases za)) (λ_ zk e H' k U zu=>qn _ zk e H' (λb o n1 j _ _ _ z=>k _ _ n1 j (xd _ _ z)) (xd.free U) zu) (λz zj zf xh H' _ _ zk k xv lk=>xx H' ?_) (λO fr lv rn zf xh H' _ _ xE zR xS k xv lk zH xb n1 j B L I=>xx H' ?_)⟩) ?_
  ·refine⟨_,[],bg,xh,zf,zj,kq,[]++[(a,z)],⟨xv,rfl,by have:=zw ([]++[(a,z)]).length ([]:ac (FA×bc)).length;omega,k _ _ (aq zd Z.fi.hx) (aq zd Z.fi.hh) (aq zd Z.hk) zd,⟨λp c=>(by cases c),e4⟩,λp c=>(by cases c),λp c=>(by cases c),λp c=>(by cases c),λp c=>(by cases c),e4,λp c=>(by cases c),.inl ⟨rfl,z,aW⟩,k _ _ (aq xa Z.fi.hx) (aq xa Z.fi.hh) (aq xa Z.hk) xa,λb o n1 j B _ _ e=>k _ _ n1 j B (xd _ _ e)⟩⟩
  ·have only:∀p ∈ []++[(O,fr)],p=(O,fr):=λp c=>bL.mp c
   have zq:O.lf≠st/\O.rs≠st:=⟨aS (ax zd j),aS (ax zd B)⟩;refine⟨_,[]++[(O,fr)],bg+1,xh,zf,[],kq,[],⟨xv,rfl,by have:=zw ([]:ac (Ask×Int)).length ([]++[(O,fr)]).length;omega,zH,⟨λp c=>?_,?_⟩,λp c=>?_,λp c=>?_,λp c=>?_,λp c z za=>(by cases za),by simp,λp c=>?_,.inr ⟨[],(O,fr),rfl,trivial,by rw[<-xE];rfl⟩,k _ _ (aq xa Z.fi.hx) (aq xa Z.fi.hh) (aq xa Z.hx) (aq xa zd) xa,λb o n1 j B L I e=>k _ _ n1 j I (ax e zl) (xd _ _ e)⟩⟩
   ·rw[only p c];exact⟨lv,rn,xb⟩
   ·show [O.x,O.lf,O.rs].Nodup
    simp only[d4,bH,jo,jq,not_or,VG,e4,and_true];exact⟨⟨L,I⟩,xb.hX⟩
   ·rw[only p c];show UA S.W S.NU fr.a;rw[xE];exact yD
   ·rw[only p c];exact zR
   ·rw[only p c];exact xS
   ·rw[only p c];exact⟨zq,xd.free n1,xd.free j,xd.free B⟩
  rintro H2 ⟨xI,xG,yI,yS,zI,xJ,yJ,zJ,yy⟩;refine⟨λze σ yi=>∃(yp:ad V) (a6:ac (FA×bc)) (bg m:Int) (kh kk kq:ac (List Key×V)) (ka:ac (Ask×Int)),σ=[am S.x,am ta,am st,yp]/\TI C D R S H a ta st (e9 S.W S.NU).length ze yi a6 bg m kh kk kq ka,⟨xI,none,xG,yI,yS,zI,xJ,yJ,zJ,rfl,yy⟩,?_⟩;clear yy;rintro ze σ yi ⟨yp,a6,bg,m,kh,kk,kq,ka,rfl,ti⟩;obtain⟨yE,tk⟩:=ti.a3 xi;refine⟨_,rfl,_,.inl ⟨_,aj.of ti.EH,rfl⟩,?_⟩;rcases ti.ch with⟨rfl,z,za⟩|⟨l,top,rfl,xm,zi⟩
  ·refine bW (λy=>by cases y) (λ_=>?_)
   have xK:yi ta=a2 ((bX a).map kV):=ti.eJ;rcases ti.w.kv.val a with⟨_,e2⟩|⟨v,yv,t,y,ns,xY,e1,e2,rfl,zS,_⟩
   ·exact absurd za (e2 z)
   ·refine⟨_,rfl,S.x,C,S.dx,_,.ref S.kn,rfl,ti.w.hx,T.cl,T.nn,iP,_,rfl,S.kn,.ref t,rfl,by rw[<-e1];exact b4.t (k:=bX a) ti.w.hk xK,?_⟩
    exact q yv (ti.w.ok _ e2) t _ _ bg kk yi ti.kt ti.w.hx ti.w.hk e1 zS
  ·refine bW (λ_=>?_) (λy=>absurd (by unfold refs;rw[a8];simp) y)
   have xe:top∈l++[top]:=c4 _ aW;have yb:∀p∈l,p∈l++[top]:=λp c=>fA _ c;obtain⟨lv,rn,xb⟩:=ti.fs.fr top xe;have yY:ka.length+(l.length+1)<=(e9 S.W S.NU).length:=by rw[bV]at yE;exact yE
   have xl:=ti.em;rw[bV,jl]at xl;have zY:=ti.lh;refine⟨λyK H'=>∃zy,zy<ze /\∃(yp:ad V) (a6:ac (FA×bc)) (bg m:Int) (kh kk kq:ac (List Key×V)) (ka:ac (Ask×Int)),yK=[am S.x,am ta,am st,yp]/\TI C D R S H a ta st (e9 S.W S.NU).length zy H' a6 bg m kh kk kq ka,λ_ _ z=>z,?_⟩;have yx:∀g:bc,refs (l++[(top.1,g)])=refs l++[V.ref top.1.x]:=λg=>by unfold refs;rw[a8];rfl
   have xj:yi st=bd (refs l++[V.ref top.1.x]):=by rw[<-yx top.2];exact ti.EH
   obtain⟨⟨xz,yz⟩,zK,xL,yL⟩:=ti.ap top xe;have zL:st≠top.1.x:=aq xj xb.hx
   have zz:∀{G:Hp},Kr S top.1 yi G->G st=bd (refs l++[V.ref top.1.x])/\G ta=a2 [.str a.1,.str a.2]/\KT S H G /\∀p∈l,∃lv rn,cY R S G p.1 p.2 lv rn:=λ{G} xf=>by
    refine⟨xf _ _ (aq xj ti.w.fi.hx) (aq xj ti.w.fi.hh) zL (aS xz) (aS yz) xj,xf _ _ (aq ti.eJ ti.w.fi.hx) (aq ti.eJ ti.w.fi.hh) (aq ti.eJ xb.hx) (aq ti.eJ xb.hl) (aq ti.eJ xb.hr) ti.eJ,λb o n1 j B L I e=>xf _ _ n1 j (ax e zK) (ax e xL) (ax e yL) (ti.kt b o n1 j B L I e),λp c=>?_⟩
    obtain⟨ym,zm,fp⟩:=ti.fs.fr p (yb p c);exact⟨ym,zm,fp.go ti.w ⟨_,_,_,xb.hx⟩ ⟨_,xb.hl⟩ ⟨_,xb.hr⟩ (IM ti.fs.nd c) xf⟩
   refine⟨_,rfl,S.x,S.dx,_,rfl,ti.w.hx,rfl,_,rfl,1,rfl,st,_,-1,_,rfl,rfl,aj.of xj,I4 _ _,qY.mk (A:=top.1) (fr:=top.2) rfl xi ti.w (by omega) xb (ti.ok top xe) (ti.wl top xe) (λt' ym zm zf xh G xf J xT xn xr=>?_) (λt' d ds ym zm zf xh b xZ G xf J xT xn xr zb yr xM=>?_)⟩
   ·obtain⟨yf,ya,xg,zr⟩:=zz xf
    refine⟨_,rfl,rfl,_,rfl,_,rfl,S.x,S.dx,_,rfl,J.hx,rfl,_,rfl,.inl ⟨rfl,_,aj.of yf⟩,st,_,V.ref top.1.x,rfl,rfl,yf,by simp,?_⟩
    have yT:(refs l++[V.ref top.1.x]).dropLast=refs l:=by simp
    rw[yT];have up:∀{u:HO} b o,b≠st->G b=ih o->upd G st u b=ih o:=λb o n e=>by rw[ag n];exact e
    have zT:∀{u:HO} b xs,G b=a2 xs->upd G st u b=a2 xs:=λb xs e=>up _ _ (aq e yf) e
    have xc:cf C D S bg xh zf kk kq ka (upd G st (.lst (refs l))):=J.write λb o xU _ e=>up _ _ (λz=>by rw[z,yf]at e;cases e;exact xU _ rfl) e
    have xt:∀{A:FA}{g:bc}{lv:ac V}{rn:ac Fv},A.lf≠st->A.rs≠st->cY R S G A g lv rn->cY R S (upd G st (.lst (refs l))) A g lv rn:=λn1 j q=>q.fr J yf ⟨n1,j⟩ λb o _ _ _ _ _ n e=>up _ _ n e;have yj:upd G st (.lst (refs l)) st=bd (refs l):=af;have yl:upd G st (.lst (refs l)) ta=a2 [.str a.1,.str a.2]:=zT _ _ ya;have xA:KT S H (upd G st (.lst (refs l))):=λb o n1 j B L I e=>up _ _ (ax e zl) (xg b o n1 j B L I e);have yA:∀p∈l,∃lv rn,cY R S (upd G st (.lst (refs l))) p.1 p.2 lv rn:=λp c=>by
     obtain⟨lv,rn,q⟩:=zr p c;exact⟨lv,rn,xt (ti.ap p (yb p c)).1.1 (ti.ap p (yb p c)).1.2 q⟩
    have xk:=xt xz yz xn;generalize upd G st (.lst (refs l))=zE at xc xt yj yl xA yA xk⊢;refine qZ.mk (A:=top.1) (fr:=⟨top.2.a,top.2.w,[],t'⟩) rfl xi xc (by omega) xk (xr.done rfl) (ti.nk top xe) (ti.ua top xe) λzj yM zD zp yU=>?_
    have zM:∀p∈l,p.2.a≠top.2.a:=λp c e=>by
     have:=ti.nd;rw[a8]at this;exact(di.mp this).2.2 _ (a4.mpr ⟨p,c,rfl⟩) _ (a4.mpr ⟨top,aW,rfl⟩) e
    refine⟨gI (e9 S.W S.NU).length (ka.length+1) l.length,by rw[xl];exact sI (by omega),_,l,bg,xh,zf,zj,yM,ka++[(top.2.a,t')],rfl,⟨yU,by rw[bV];rfl,?_,zp _ _ (aq yj xc.hk) (aq yj xc.hq) yj,⟨λp c=>?_,?_⟩,λp c=>ti.ua p (yb p c),λp c=>ti.ok p (yb p c),λp c=>ti.wl p (yb p c),λp c z za=>?_,?_,λp c=>ti.ap p (yb p c),?_,zp _ _ (aq yl xc.hk) (aq yl xc.hq) yl,λb o n1 j B L I e=>zp _ _ B L (xA b o n1 j B L I e)⟩⟩
    ·have:gI (e9 S.W S.NU).length (ka.length+1) l.length<ze:=by rw[xl];exact sI (by omega)
     omega
    ·obtain⟨lv,rn,q⟩:=yA p c
     exact⟨lv,rn,q.fr xc yj (ti.ap p (yb p c)).1 λb o _ _ B L _ _ e=>zp _ _ B L e⟩
    ·have:=ti.fs.nd
     rw[oW]at this;exact(di.mp this).1
    ·rcases bI.mp za with y|y
     ·exact ti.nk p (yb p c) z y
     ·have y:=bL.mp y
      exact zM p c (by injection y)
    ·have:=ti.nd
     rw[a8]at this;exact(di.mp this).1
    ·cases zA:l.getLast? with
     |none =>
      have:l=[]:=List.getLast?_eq_none_iff.mp zA;subst this;refine .inl ⟨rfl,t',c4 _ ?_⟩;have zi:ih top.2.a=ih a:=zi;rw[cG zi];exact aW
     |some g =>
      obtain⟨xF,rfl⟩:=List.getLast?_eq_some_iff.mp zA;refine .inr ⟨xF,g,rfl,?_,?_⟩
      ·rw[a8]at xm;exact chain_last xm
      ·rw[<-zi];cases xF with
       |nil=>rfl
       |cons _ _=>rfl
   ·obtain⟨yf,ya,xg,zr⟩:=zz xf
    have xN:gB S.W ⟨top.2.a,top.2.w,d::ds,t'⟩=ih b:=zb;have zv:UA S.W S.NU b:=by
     unfold aO.need at zb
     by_cases xw:a7 d = "ask"
     ·rw[aE xw]at zb;cases zb;exact⟨xn.an d aW xw,.inl rfl⟩
     ·rw[ao xw]at zb
      by_cases yF:a7 d = "onward"
      ·rw[aE yF]at zb
       split at zb
       ·cases zb;exact⟨(ti.ua top xe).1,.inr (ti.wl top xe)⟩
       ·cases zb
      ·rw[ao yF]at zb;cases zb
    obtain⟨r,yg⟩:∃r,l++[(top.1,(⟨top.2.a,top.2.w,d::ds,t'⟩:bc))]=r:=⟨_,rfl⟩;have xq:∀p∈r,p∈l\/p=(top.1,⟨top.2.a,top.2.w,d::ds,t'⟩):=λp c=>by
     rw[<-yg]at c;rcases bI.mp c with z|z
     ·exact .inl z
     ·exact .inr (bL.mp z)
    have yt:r.map (·.2.a)=(l++[top]).map (·.2.a):=by rw[<-yg,a8,a8];rfl
    have zx:r.length=l.length+1:=by rw[<-yg,bV];rfl
    have yn:∀p∈r,∃q∈l++[top],q.1=p.1/\q.2.a=p.2.a/\q.2.w=p.2.w:=λp c=>by
     rcases xq p c with z|z
     ·exact⟨p,yb p z,rfl,rfl,rfl⟩
     ·rw[z];exact⟨top,xe,rfl,rfl,rfl⟩
    have zn:∀g∈r.map (·.2),bO S.W g:=λg zU=>by
     obtain⟨p,c,rfl⟩:=a4.mp zU;rcases xq p c with z|z
     ·exact ti.ok p (yb p z)
     ·rw[z];exact xr
    have zt:Chain S.W (r.map (·.2)) b:=by rw[<-yg,a8];exact chain_snoc (g:=⟨top.2.a,top.2.w,d::ds,t'⟩) xm xN
    have xB:((r.map (·.2)).head?.map (·.a)).getD b=a:=by
     have e1:(r.map (·.2)).head?.map (·.a)=(r.map (·.2.a)).head?:=by rw[rZ,rZ,wU];rfl
     rw[e1,yt,rZ,zi];rfl
    have Qo:oi R S G r:=by
     refine⟨λp c=>?_,?_⟩
     ·rcases xq p c with z|z
      ·exact zr p z
      ·rw[z];exact⟨ym,zm,xn⟩
     ·have:=ti.fs.nd
      rw[<-yg,oW];rw[oW]at this;exact this
    have xo:∀p∈r,(p.1.lf≠st/\p.1.rs≠st)/\H p.1.x=none/\H p.1.lf=none/\H p.1.rs=none:=λp c=>by
     obtain⟨q,ye,e,_⟩:=yn p c;rw[<-e];exact ti.ap q ye
    have yo:∀p∈r,UA S.W S.NU p.2.a:=λp c=>by
     obtain⟨q,ye,_,e,_⟩:=yn p c;rw[<-e];exact ti.ua q ye
    have yB:∀p∈r,p.2.w∈S.W.line:=λp c=>by
     obtain⟨q,ye,_,_,e⟩:=yn p c;rw[<-e];exact ti.wl q ye
    have xu:∀p∈r,∀z,(p.2.a,z)∉ ka:=λp c=>by
     obtain⟨q,ye,_,e,_⟩:=yn p c;rw[<-e];exact ti.nk q ye
    have zo:(r.map (·.2.a)).Nodup:=by rw[yt];exact ti.nd
    have zc:G st=bd (refs r):=by rw[<-yg,yx];exact yf
    have zB:r.head?.map (·.2.a)=ih a:=by rw[<-rZ,yt,rZ];exact zi
    have yG:∃l top,r=l++[top]/\Chain S.W (l.map (·.2)) top.2.a/\(r.head?.map (·.2.a))=ih a:=⟨l,_,yg.symm,xm,zB⟩;have yk:∀e,G e=none->H e=none:=λe U=>by
     cases e0:H e with
     |none=>rfl
     |some u =>
      exfalso
      by_cases z1:e=S.fi
      ·rw[z1,J.fi.hx]at U;cases U
      ·by_cases z2:e=S.dh
       ·rw[z2,J.fi.hh]at U;cases U
       ·by_cases z3:e=S.kn
        ·rw[z3,J.hk]at U;cases U
        ·by_cases z4:e=S.kp
         ·rw[z4,J.hq]at U;cases U
         ·by_cases z5:e=S.x
          ·rw[z5,J.hx]at U;cases U
          ·rw[xg e u z1 z2 z3 z4 z5 e0]at U;cases U
    have big:(∀p∈r,p.2.a≠b)->ka.length+(l.length+1)+1<=(e9 S.W S.NU).length:=λzg=>by
     have xV:(b::(ka.map (·.1)++r.map (·.2.a))).Nodup:=by
      refine d4.mpr ⟨λyV=>?_,di.mpr ⟨ti.w.nd,zo,λx yd y yc e=>?_⟩⟩
      ·rcases bI.mp yV with z|z
       ·obtain⟨p,c,e⟩:=a4.mp z;exact yr p.2 (by rw[<-e];exact c)
       ·obtain⟨p,c,e⟩:=a4.mp z;exact zg p c e
      ·obtain⟨p,c,rfl⟩:=a4.mp yd
       obtain⟨q,ye,rfl⟩:=a4.mp yc;exact xu q ye p.2 (by rw[<-e];exact c)
     have:=mj xV λx yd=>Ce (W:=S.W) (NU:=S.NU) (by
      rcases bH.mp yd with z|z
      ·rw[z];exact zv
      ·rcases bI.mp z with z|z
       ·obtain⟨p,c,rfl⟩:=a4.mp z;exact ti.w.ee p c
       ·obtain⟨p,c,rfl⟩:=a4.mp z;exact yo p c)
     rw[cS,bV,aB,aB,zx]at this;omega
    refine⟨_,rfl,rfl,_,rfl,_,rfl,S.x,S.dx,_,rfl,J.hx,rfl,_,rfl,_,rfl,oj.mk (a6:=r) (b:=b) rfl xi J (by omega) (by omega) zc (by omega) Qo yo xM zv (λi _ hi _ e H' zV U xW=>yR _ (by
     have:=JM zn zt xB (by rw[c5];exact zo) (by rw[c5];exact hi)
     rw[c5]at this;exact this) e H' (λb o n1 j B L I z=>zV _ _ (xg b o n1 j B L I z)) (yk e U) xW) (λz za=>absurd za (yr z)) (λ_ zk e H' k U zu=>qn _ (AE zn zt xB zk) e H' (λb o n1 j B L I z=>k _ _ n1 j (xg b o n1 j B L I z)) (yk e U) zu) (λz zj yu yw zE _ zg zk k xc yW=>?_) (λO fr yN zN yu yw zE _ zg xp xO yO k xc yW zO xk n1 j B L I=>?_)⟩
    ·have big:=big zg
     have lt:gI (e9 S.W S.NU).length (ka.length+1) r.length<ze:=by rw[xl];exact sI (by omega)
     refine⟨_,lt,_,r,bg,yw,yu,zj,kq,ka++[(b,z)],rfl,⟨xc,by rw[bV];rfl,by omega,k _ _ (aq zc J.fi.hx) (aq zc J.fi.hh) (aq zc J.hk) zc,⟨λp c=>?_,Qo.nd⟩,yo,λp c=>zn _ (a4.mpr ⟨p,c,rfl⟩),yB,λp c yv za=>?_,zo,xo,.inr yG,k _ _ (aq ya J.fi.hx) (aq ya J.fi.hh) (aq ya J.hk) ya,λb o n1 j B L I e=>k _ _ n1 j B (xg b o n1 j B L I e)⟩⟩
     ·obtain⟨lv,rn,q⟩:=Qo.fr p c
      exact⟨lv,rn,q.fr J zc (xo p c).1 λb o n1 j B _ _ _ e=>k _ _ n1 j B e⟩
     ·rcases bI.mp za with y|y
      ·exact xu p c yv y
      ·have y:=bL.mp y
       exact zg p c (by injection y)
    ·have big:=big zg
     have lt:gI (e9 S.W S.NU).length ka.length (r.length+1)<ze:=by rw[xl,zx];exact JQ (by omega)
     have zq:O.lf≠st/\O.rs≠st:=⟨aS (ax zc j),aS (ax zc B)⟩;have zh:∀p∈r++[(O,fr)],p∈r\/p=(O,fr):=λp c=>by
      rcases bI.mp c with z|z
      ·exact .inl z
      ·exact .inr (bL.mp z)
     refine⟨_,lt,_,r++[(O,fr)],bg+1,yw,yu,kk,kq,ka,rfl,⟨xc,by rw[bV];rfl,by omega,zO,⟨λp c=>?_,?_⟩,λp c=>?_,λp c=>?_,λp c=>?_,λp c=>?_,?_,λp c=>?_,.inr ⟨r,(O,fr),rfl,by show Chain S.W _ fr.a;rw[xp];exact zt,?_⟩,k _ _ (aq ya J.fi.hx) (aq ya J.fi.hh) (aq ya J.hx) (aq ya zc) ya,λb o n1 j B L I e=>k _ _ n1 j I (ax e zl) (xg b o n1 j B L I e)⟩⟩
     ·rcases zh p c with z|z
      ·obtain⟨lv,rn,q⟩:=Qo.fr p z
       exact⟨lv,rn,q.fr J zc (xo p z).1 λb o n1 j _ _ I zW e=>k _ _ n1 j I zW e⟩
      ·rw[z];exact⟨yN,zN,xk⟩
     ·rw[oW]
      refine di.mpr ⟨Qo.nd,?_,λx yd y yc e=>?_⟩
      ·show [O.x,O.lf,O.rs].Nodup
       simp only[d4,bH,jo,jq,not_or,VG,e4,and_true];exact⟨⟨L,I⟩,xk.hX⟩
      ·obtain⟨p,c,yd⟩:=oV.mp yd
       obtain⟨lv,rn,q⟩:=Qo.fr p c;have xX:∃o,G x=ih o:=by
        simp only[bH,jo,jq]at yd;rcases yd with z|z|z
        ·rw[z];exact⟨_,q.hx⟩
        ·rw[z];exact⟨_,q.hl⟩
        ·rw[z];exact⟨_,q.hr⟩
       obtain⟨o,yh⟩:=xX;obtain⟨yZ,xP,yc⟩:=oV.mp yc;rw[bL.mp xP]at yc;simp only[bH,jo,jq]at yc;rw[e]at yh;rcases yc with z|z|z
       ·rw[z,n1]at yh;cases yh
       ·rw[z,j]at yh;cases yh
       ·rw[z,B]at yh;cases yh
     ·rcases zh p c with z|z
      ·exact yo p z
      ·rw[z];show UA S.W S.NU fr.a;rw[xp];exact zv
     ·rcases zh p c with z|z
      ·exact zn _ (a4.mpr ⟨p,z,rfl⟩)
      ·rw[z];exact xO
     ·rcases zh p c with z|z
      ·exact yB p z
      ·rw[z];exact yO
     ·rcases zh p c with z|z
      ·exact xu p z
      ·rw[z];show ∀z,(fr.a,z)∉ ka;rw[xp];exact yr
     ·rw[a8]
      refine di.mpr ⟨zo,by simp,λx yd y yc e=>?_⟩
      obtain⟨p,c,rfl⟩:=a4.mp yd;have yc:y=fr.a:=bL.mp yc;exact zg p c (by rw[e,yc,xp])
     ·rcases zh p c with z|z
      ·exact xo p z
      ·rw[z];exact⟨zq,yk _ n1,yk _ j,yk _ B⟩
     ·rw[List.head?_append]
      have:r.head?.map (·.2.a)=ih a:=zB;cases zF:r.head? with
      |none=>rw[zF]at this;cases this
      |some g=>rw[zF]at this;exact this
end ew
namespace ew
open L2 W HT PyProof.Rows
theorem iu.pairs{own:Own}(h:iu H vs own):kH H vs (own.map λq=>(q.1,V.int q.2)):=by
 induction h with
 |nil=>exact .nil
 |cons h _ a=>exact .cons h a
inductive q5(C D:EZ)(vs:List V)(H:Hp)(Q:VK)(E:XK):Prop
 |mk{wd t tb tt:EZ}{wt:List V}{bN:List Th}{th:Th}{o:Yy}{ws wb:List V}{Qc:List (Fv×List Fv)}{L:Fv->List Fv}{bk:Bk}{NU:List Fv}(_:vs=[.ref wd,.str th.1])(_:iB H wd t tb tt wt bN)(_:FB H t tb o ws wb Qc L bk)(_:th∈bN)(_:th.2.1∈Qc.map (·.1))(_:(th.2.2.map (·.1)).Nodup)
  (_:∀(S:Wh) H',S.W=⟨L th.2.1,bk,th.2.2⟩->S.NU=NU->aw H H'->cf C D S 0 0 [] [] [] [] H'->H S.x=none->H S.fi=none->H S.dh=none->H S.kn=none->H S.kp=none->Q (.ref S.x) H'):q5 C D vs H Q E
abbrev P9:List Fv:=["world","thing","kind","own"]
theorem vf:bf P9 ["world","thing"] (aI sV):=bz
theorem NB{yh fF:EZ}{zh xi:X2}(F:aQ K "whole_of" "whole_of" sV f fd)(yi:hO mg)(T:hR K mg C)(zi:bF P w K mg base aG 4 yh zh ["world","thing"] qR "kind_and_own")(xj:bF P w K mg base aG 6 fF xi ["family","book"] (qO D) "finds_in")
  (M:Mk K C fI) (yj:aT P w K mg base aG 1 fI dI oh (qt C)) (zj:Binds K dI oh []):aT P w K mg base aG 7 f fd ["world","thing"] (q5 C D):=by
 refine F.bG vf λQa A outer s H vs Q E xk h=>?_
 ·obtain @⟨ya,t,tb,tt,wt,zm,th,o,ws,wb,Qc,L,bk,NU,rfl,h,yk,zk,yc,xl,q⟩:=h
  have N:aZ 6 _:=xk;have zc:aZ 4 _:=N.mono (by decide)
  have xd:aZ 2 _:=N.mono (by decide)
  intro X;refine⟨_,au (iT (a9 zi zc (aa (pv 0) (aa (pv 1) ah))) (ib rfl (cZ (bb 2 vf.nd) (cZ (bb 3 vf.nd) gw))))
   (aA (aX (tu M yj xd rfl T.oB zj .nil cV (aa (a9 xj N (aa (aU bj (pv 0) ar) (aa (aU bj (pv 0) ar) ah))) (aa (pv 2) (aa (dq (HB rfl) rfl yi.dict boot_dict (aa (pv 3) ah)) (aa pw ah))))))),?_⟩
  refine⟨_,rfl,_,rfl,qR.mk rfl h zk λr b us Y j yd zd xe=>?_⟩;refine⟨r,_,rfl,ay.of yd,rfl,_,_,rfl,_,_,rfl,rfl,?_⟩;have h1:=h.same j;refine⟨_,rfl,ya,_,0,_,rfl,rfl,ay.of h1.hw,b8,_,rfl,ya,_,1,_,rfl,rfl,ay.of h1.hw,cP,qO.mk rfl (yk.same j) λfi yl dl de dh za zl H2 S a ye ze xf=>?_⟩;have yf:iu H2 us th.2.2:=xe.keep λb xs e=>S _ _ e;refine⟨_,rfl,_,rfl,b,us,_,rfl,S _ _ zd,yf.pairs,by rw[c5];exact xl,λow zf=>?_⟩
  intro kp g;intro x dx c z ne;have l:=aJ (o:=.dK (c1 th.2.2)) zf;have Z:upd H2 ow (.dK (c1 th.2.2)) ow=bn (c1 th.2.2):=af;have xm:HO.dK (gb (th.2.2.map λq=>(q.1,V.int q.2)))=.dK (c1 th.2.2):=rfl;rw[xm]at g c z⊢;generalize upd H2 ow (.dK (c1 th.2.2))=xb at l Z g c z⊢;have U:=aJ (o:=.dT []) g;have B:upd xb kp (.dT []) kp=ce []:=af;generalize upd xb kp (.dT [])=m at U B c z⊢;have ym:=aJ (o:=.own x) z;have xg:upd m dx (.own x) x=none:=by rw[ag (aS ne)];exact c
  have J:=ym.trans (aJ (o:=.ins C dx []) xg);have O:upd (upd m dx (.own x)) x (.ins C dx []) x=ih (.ins C dx []):=af;generalize upd (upd m dx (.own x)) x (.ins C dx [])=yb at J O⊢;refine qt.mk rfl O (J _ _ B) λkn R=>⟨rfl,?_⟩;have zb:=aJ (o:=.dT []) R;have yg:x≠kn:=ax O R;have xa:upd yb kn (.dT []) kn=ce []:=af;generalize upd yb kn (.dT [])=xc at zb xa⊢;have i:=l.trans U;have zg:=J.trans zb;have G:=j.trans S;have W:∀b u,m b=ih u->upd xc x (.ins C dx (fW fi ow kp kn th.2.1 0)) b=ih u:=λb u e=>by rw[ag (ax e c)];exact zg _ _ e
  have d:∀b u,H2 b=ih u->upd xc x (.ins C dx (fW fi ow kp kn th.2.1 0)) b=ih u:=λb u e=>W _ _ (i _ _ e);have I:m kn=none:=J.free R;obtain⟨p,y,ep⟩:=a4.mp yc;have xh:gH H2 za L th.2.1:=ep ▸ ye p y;refine q ⟨x,dx,fi,yl,dl,de,dh,ow,kp,kn,th.2.1,za,zl,⟨L th.2.1,bk,th.2.2⟩,L,NU⟩ _ rfl rfl (λb u e=>d _ _ (G _ _ e)) ⟨aS (ax (i _ _ a.hx) c),af,⟨d _ _ a.hx,d _ _ a.hl,d _ _ a.he,d _ _ a.hh,a.du.same d,a.ok,a.nn⟩,W _ _ (U _ _ Z),by rw[ag (aS yg)];exact xa,W _ _ B,⟨aS (ax (i _ _ a.he) I),aS (ax (i _ _ a.hh) I),aS (ax (l _ _ a.he) g),aS (ax (l _ _ a.hh) g),aS (ax B I)⟩,xh.same d,rfl,λk n b v e=>(by cases e),.nil,λp y=>(by cases y),e4,λp y=>(by cases y),aP _⟩ ((G.trans i).free c) (j.free ze) (j.free xf) ((G.trans i).free I) ((G.trans l).free g)
structure kW(wd t tb tt:EZ)(wt:List V)(bN:List Th)(th:Th)(o:Yy)(ws wb:List V)(Qc:List (Fv×List Fv))(L:Fv->List Fv)(bk:Bk)(NU:List Fv)(a:Ask)(H:Hp):Prop where
 h:iB H wd t tb tt wt bN
 fb:FB H t tb o ws wb Qc L bk
 hm:th∈bN
 hk:th.2.1∈Qc.map (·.1)
 nd:(th.2.2.map (·.1)).Nodup
 wo:gZ ⟨L th.2.1,bk,th.2.2⟩ NU
 ua:UA ⟨L th.2.1,bk,th.2.2⟩ NU a
theorem kW.same{c t tb:EZ}{b:ac Th}{th:Th}{bk:Bk}{a:Ask}(h:kW c t tb tt wt b th o ws wb Qc L bk NU a H)(S:aw H H'):kW c t tb tt wt b th o ws wb Qc L bk NU a H':=⟨h.h.same S,h.fb.same S,h.hm,h.hk,h.nd,h.wo,h.ua⟩
inductive q6(C D M N:EZ)(vs:List V)(H:Hp)(Q:VK)(E:XK):Prop
 |mk{wd t tb tt:EZ}{wt:List V}{bN:List Th}{th:Th}{o:Yy}{ws wb:List V}{Qc:List (Fv×List Fv)}{L:Fv->List Fv}{bk:Bk}{NU:List Fv}{a:Ask}(_:vs=[.ref wd,.str th.1,.str a.1,.str a.2])(_:kW wd t tb tt wt bN th o ws wb Qc L bk NU a H)
  (_:∀ns,eO ⟨L th.2.1,bk,th.2.2⟩ a ns ->∀e H',aw H H'->q0 N ns H' e->E (.ref N) (ih e) H')
  (_:∀n,aO.Out ⟨L th.2.1,bk,th.2.2⟩ a (.miss n) ->∀e H',aw H H'->qu M n H' e->E (.ref M) (ih e) H')
  (_:∀z,aO.Out ⟨L th.2.1,bk,th.2.2⟩ a (.told z) ->∀x dx fi ow kp kn kd bg t y u kk H',aw H H'->H' x=ih (.ins C dx (fW fi ow kp kn kd bg))->H' kn=ih (.dT kk)->a' kk (bX a)=ih (.ref t)->H' t=ih (.tup [y,.int z,u])->Q (.ref x) H'):q6 C D M N vs H Q E
abbrev j3:List Fv:=["world","thing","name","behind"]
abbrev P':List Fv:=["world","thing","name","behind","whole"]
theorem Ed:bf P' j3 (aI sd):=bz
theorem NC:bf ["thing"] ["thing"] (aI tL):=bz
theorem Ml(F:aQ K "check_name" "check_name" tL f fd)(a:bF P w K mg base aG 1 fN dN ["thing"] l9 "is_name"):aT P w K mg base aG 2 f fd ["thing"] qq:=by
 refine F.bG NC λQa A outer s H vs Q E b h=>?_
 ·obtain @⟨x,rfl,n,q⟩:=h
  intro X;exact⟨_,aA (bh (hF (hE (a9 a b (aa (pv 0) ah)))) sA bD),_,rfl,l9.mk rfl n λY c=>⟨true,rfl,q Y c⟩⟩
theorem cf.wi{S:Wh}{ka:ac (Ask×Int)}(h:cf C D S bg m kh kk kq ka H):WI C D S.x S.dx S.fi S.fx S.dl S.de S.dh S.ow S.kp S.kn S.kd bg S.kl (c1 S.W.own) S.ke kh kk m S.W.bk H:=⟨h.n3,h.hx,h.fi,h.ho,h.hk,h.n1.1,h.n1.2.1⟩
theorem ND{N yd zd fR:EZ}{xe ye:X2}(F:aQ K "whole_asked" "whole_asked" sd f fd)(T:hR K mg C)(ze:bF P w K mg base aG 7 yd xe ["world","thing"] (q5 C D) "whole_of")(xf:bF P w K mg base aG 2 fN dN ["thing"] qq "check_name")(yf:bF P w K mg base aG 2 zd ye ["line","thing"] qM "check_behind")
  (zf:aT P w K mg base aG 1 fR dR ["self"] (qc C D)) (xg:Meth K C "forebears" fR) (yg:Binds K dR ["self"] []) (zg:aT P w K mg base (cL P w) 5 fT dT ["self","first"] (q4 C D R M N)) (xh:Meth K C "tell" fT) (yh:Binds K dT ["self","first"] []):aT P w K mg base (cL P w) 8 f fd j3 (q6 C D M N):=by
 refine F.u2 Ed λQa A outer s H vs Q E zh h=>?_
 ·obtain @⟨zl,t,tb,tt,wt,yl,th,o,ws,wb,Qc,L,bk,NU,a,rfl,h,xi,qn,q⟩:=h
  have g:aZ 7 _:=zh;have U:aZ 5 _:=g.mono (by decide)
  have p:aZ 2 _:=g.mono (by decide)
  have W:aZ 1 _:=g.mono (by decide)
  intro X;refine⟨_,au (aY 4 Ed.nd (a9 ze g (aa (pv 0) (aa (pv 1) ah))))
   (au (eF (a9 xf p (aa (pv 2) ah)))
   (au (eF (a9 yf p (aa (I0 (pv 4) T.cl xg zf W yg .nil cV) (aa (pv 3) ah))))
   (au (eF (hA (pv 4) T.cl xh zg U yh .nil qi (aa (b7 (aa (pv 2) (aa (pv 3) ah))) ah)))
   (aA (aX (pv 4)))))),?_⟩
  refine⟨_,rfl,_,rfl,q5.mk (NU:=NU) rfl h.h h.fb h.hm h.hk h.nd λS Y c v yi j Z xa ya za xb=>?_⟩;refine⟨_,rfl,qq.mk rfl (h.wo.nm _ h.ua.1) λH2 B=>?_⟩;have i:=j.same B;obtain⟨xm,zi,G⟩:=i.ln;have xj:S.L S.kd=L th.2.1:=by rw[j.el,c]
  rw[xj]at G;refine⟨_,rfl,S.x,S.dx,_,rfl,i.hx,Lh,qc.mk rfl i.wi zi ⟨_,rfl,qM.mk rfl G (h.fb.a3 h.hk) h.ua.2 λI J=>?_⟩⟩;refine⟨_,rfl,S.x,S.dx,_,rfl,J _ _ i.hx,Li,_,rfl,_,rfl,bQ,λta yb=>?_⟩;have O:=aJ (o:=.tup [V.str a.1,V.str a.2]) yb;have m:upd I ta (.tup [V.str a.1,V.str a.2]) ta=a2 [V.str a.1,V.str a.2]:=af;generalize upd I ta (.tup [V.str a.1,V.str a.2])=yj at O m⊢;have r:=B.trans (J.trans O);have zj:=j.same r;have zb:=yi.trans r;have l:∀H',KT S yj H'->aw H H':=λH' k b u e=>k b u (ax e xa) (ax e ya) (ax e za) (ax e xb) (ax e Z) (zb _ _ e);refine q4.mk (S:=S) (a:=a) rfl (by rw[c,v];exact h.wo) zj (bB _) m (by rw[c,v];exact h.ua) (λns d e H' k _ xk=>xi ns (by rw[<-c];exact d) e H' (l H' k) xk) (λn d e H' k _ yk=>qn n (by rw[<-c];exact d) e H' (l H' k) yk) λz d t y u xc yc H' k zc xd zk xl=>?_
  exact⟨_,rfl,q z (by rw[<-c];exact d) S.x S.dx S.fi S.ow S.kp S.kn S.kd xc t y u yc H' (l H' k) zc xd zk xl⟩
inductive q7(M N:EZ)(vs:List V)(H:Hp)(Q:VK)(E:XK):Prop
 |mk{wd t tb tt:EZ}{wt:List V}{bN:List Th}{th:Th}{o:Yy}{ws wb:List V}{Qc:List (Fv×List Fv)}{L:Fv->List Fv}{bk:Bk}{NU:List Fv}{a:Ask}(_:vs=[.ref wd,.str th.1,.str a.1,.str a.2])(_:kW wd t tb tt wt bN th o ws wb Qc L bk NU a H)
  (_:∀ns,eO ⟨L th.2.1,bk,th.2.2⟩ a ns ->∀e H',aw H H'->q0 N ns H' e->E (.ref N) (ih e) H')
  (_:∀n,aO.Out ⟨L th.2.1,bk,th.2.2⟩ a (.miss n) ->∀e H',aw H H'->qu M n H' e->E (.ref M) (ih e) H')
  (_:∀z,aO.Out ⟨L th.2.1,bk,th.2.2⟩ a (.told z) ->∀H',aw H H'->Q (.int z) H'):q7 M N vs H Q E
theorem O4:bf j3 j3 (aI lL):=bz
theorem JR{k:Nat}(F:n7 K x qual st dv f fd)(S:bf N ps (aI st))(b:∀vs H Q E,sp vs H Q E->vs.length=ps.length)
  (a:∀(Qa:i') (A:Yk) (outer:ac Zs) (s:Ux) (H:Hp) (vs:ac V) (Q:VK) (E:XK),aZ k (A.deeper (envOfC qual (aI st) s.ai f Qa))->sp vs H Q E ->
   ∃t,dc (d2 (cL P w) P w K mg base N qual (aI st) f Qa A outer s H E) (bE st) t/\t { nx:=λ_ H'=>Q .aK H',rt:=Q } (start N vs) H):aT P w K mg base (cL P w) (k+1) f fd ps sp:=by
 obtain⟨oc,od,kV,Qd,pm,an,Qa,ct,Qm,rfl,lk,c⟩:=F.ex;exact uu lk c S b λA outer s H vs Q E e d=>a Qa A outer s H vs Q E e d
theorem NF{N fW:EZ}(F:n7 K "number_asked" "number_asked" lL dv f fd)(T:hR K mg C)(n:bF P w K mg base (cL P w) 8 fW dW j3 (q6 C D M N) "whole_asked"):aT P w K mg base (cL P w) 9 f fd j3 (q7 M N):=by
 refine JR F O4 (λvs H Q E h=>?_) (λQa A outer s H vs Q E c h=>?_)
 ·obtain⟨rfl,_⟩:=h;rfl
 ·obtain @⟨G,t,tb,tt,wt,B,th,o,ws,wb,Qc,L,bk,NU,a,rfl,h,p,qn,q⟩:=h
  have d:aZ 8 _:=c;have e:=eu c.units;refine⟨_,aA (aX (aU bj (d0 e (ck (Kw n d (aa (pv 0) (aa (pv 1) (aa (pv 2) (aa (pv 3) ah))))) rfl) (b7 (aa (pv 2) (aa (pv 3) ah)))) ar)),?_⟩;refine⟨_,rfl,_,rfl,_,rfl,_,rfl,q6.mk rfl h p qn λz r x dx fi ow kp kn kd bg t y u kk Y v g i j k=>?_⟩;refine⟨x,C,dx,_,.ref kn,rfl,g,T.cl,T.nn,iP,_,rfl,_,rfl,bQ,λta l=>?_⟩;have b:=aJ (o:=.tup [V.str a.1,V.str a.2]) l;have m:upd Y ta (.tup [V.str a.1,V.str a.2]) ta=a2 ((bX a).map kV):=af;refine⟨kn,.ref t,rfl,?_,t,_,1,_,rfl,rfl,ay.of (b _ _ k),cP,q z r _ (v.trans b)⟩;rw[<-j];exact b4.t (b _ _ i) m
end ew
namespace ew
open L2 W HT
inductive gJ where
 |told (z:Int):gJ
 |miss (n:Fv):gJ
 |gm (ns:List Fv):gJ
def aO.Comes(W:aO)(a:Ask):gJ->Prop
 |.told z=>W.Out a (.told z)
 |.miss n=>W.Out a (.miss n)
 |.gm ns=>eO W a ns
def mv(H:Hp)(p:EZ):gJ->Prop
 |.told z=>H p=ih (.tup [V.str "told",.int z])
 |.miss n=>H p=ih (.tup [V.str "missing",.str n])
 |.gm ns=>∃t,H p=ih (.tup [V.str "endless",.ref t])/\H t=ih (.tup (ns.map V.str))
inductive om(vs:List V)(H:Hp)(Q:VK)(E:XK):Prop
 |mk{wd t tb tt:EZ}{wt:List V}{bN:List Th}{th:Th}{o:Yy}{ws wb:List V}{Qc:List (Fv×List Fv)}{L:Fv->List Fv}{bk:Bk}{NU:List Fv}{a:Ask}(_:vs=[.ref wd,.str th.1,.str a.1,.str a.2])(_:kW wd t tb tt wt bN th o ws wb Qc L bk NU a H)
  (_:∀r,aO.Comes ⟨L th.2.1,bk,th.2.2⟩ a r ->∀p H',aw H H'->mv H' p r->Q (.ref p) H'):om vs H Q E
abbrev vJ:List Fv:=["_law_world_here","_law_thing","_law_name","_law_behind"]
abbrev QA:List Fv:=["_law_world_here","_law_thing","_law_name","_law_behind","_law_told_here","e"]
theorem kX:bf QA vJ (aI uD):=bz
theorem NG{N y C:EZ}{G I:X2}(F:aQ K "_law_told" "_law_told" uD f fd)(k:uN K mg B M fI dI)(l:vc K mg B N y G)(O:mroIn K M (.ref M)=ih true)(R:mroIn K N (.ref M)=ih false)(S:mroIn K N (.ref N)=ih true)(T:bF P w K mg base (cL P w) 9 C I j3 (q7 M N) "number_asked"):aT P w K mg base aG 10 f fd vJ om:=by
 refine F.bG kX λQa A outer s H vs Q E U h=>?_
 ·obtain @⟨yb,t,tb,tt,wt,xb,th,o,ws,wb,Qc,L,bk,NU,a,rfl,h,q⟩:=h
  have u:aZ 9 _:=U;intro X;refine⟨_,au (aY 4 kX.nd (b7 ah))
   (au (KS (λJ D=>aA (aY 4 kX.nd (b7 (aa bq (aa (Kx T u (aa (pv 0) (aa (pv 1) (aa (pv 2) (aa (pv 3) ah))))) ah)))))
     rfl rfl (As (j:=5) kX.nd rfl rfl rfl rfl rfl k.mC k.q (λa=>aA (aY 4 kX.nd (b7 (aa bq (aa (CA (pv 5)) ah)))))
      (As (j:=5) kX.nd rfl rfl rfl rfl rfl l.mC l.q (λa=>aA (aY 4 kX.nd (b7 (aa bq (aa (CA (pv 5)) ah))))) Iz)))
   (aA (aX (pv 4)))),?_⟩
  refine⟨bB _,λW v=>?_⟩;have c:=aJ (o:=.tup []) v;generalize upd H W (.tup [])=H0 at c⊢;refine⟨_,rfl,_,rfl,_,rfl,_,rfl,q7.mk rfl (h.same c) (λns e a Y g Z=>?_) (λn e a Y g xa=>?_) λz ya Y g=>?_⟩
  ·refine⟨N,a,rfl,rfl,.inr ⟨R,.inl ⟨S,?_⟩⟩⟩
   obtain⟨d,t,m,p,za⟩:=Z;refine⟨_,rfl,a,_,_,d,_,.ref t,rfl,m,p,l.x,l.nk,rfl,bQ,λi b=>?_⟩;have r:=aJ (o:=.tup [V.str "endless",.ref t]) b;exact⟨_,rfl,q (.gm ns) e i _ (c.trans (g.trans r)) ⟨t,af,r _ _ za⟩⟩
  ·refine⟨M,a,rfl,rfl,.inl ⟨O,?_⟩⟩
   obtain⟨d,m,p⟩:=xa;refine⟨_,rfl,a,_,_,d,_,.str n,rfl,m,p,k.x,k.nk,rfl,bQ,λi b=>?_⟩;exact⟨_,rfl,q (.miss n) e i _ (c.trans (g.trans (aJ b))) af⟩
  ·refine⟨bQ,λi b=>?_⟩
   exact⟨_,rfl,q (.told z) ya i _ (c.trans (g.trans (aJ b))) af⟩
theorem uP{b:Bool}{A:Prop}{T:St->Hp->Prop}(hQ:St->Hp->Prop)(h1:b=true->(∀a H',hQ a H'->T a H')->A)(h2:b≠true->hQ σ H)(c:∀a H',hQ a H'->T a H'):if b=true then A else T σ H:=by
 cases b with
 |true=>exact h1 rfl c
 |false=>exact c _ _ (h2 b')
theorem ij{α:Type}{xs:ac α}(h:i<xs.length):xs.take (i+1)=xs.take i++[xs[i]]:=by rw[dH,bw h];rfl
theorem JS{bk:Bk}{l:ac Fv}(h:∀y∈l,dU bk y n=none):cX bk n l=none:=by
 have:=m5 (x:=n) l h [];rw[eU]at this;exact this
theorem Lk{bk:Bk}{l:ac Fv}{d:UC}(hi:i<l.length)(h:∀y∈l.take i,dU bk y n=none)(e:dU bk l[i] n=ih d):cX bk n l=ih (l[i],d):=by
 have:=m5 (x:=n) (l.take i) h (l.drop i);rw[wC,lr hi,CN e]at this;exact this
inductive jR(vs:List V)(H:Hp)(Q:VK)(E:XK):Prop
 |mk{la db:EZ}{line:List Fv}{kvs:List (List Key×V)}{bk:Bk}{name gp:Fv}(_:vs=[.ref la,.ref db,.str name,.str gp])(_:H la=ih (.lst (line.map V.str)))(_:H db=ih (.dT kvs))(_:cx H kvs bk)(_:gk bk)(_:gp = "" \/ gp∈line)
  (_:∀v H',aw H H'->eH H' v (cX bk name (d9 line gp))->Q v H'):jR vs H Q E
abbrev rC:List Fv:=["_law_line_here","_law_book_here","_law_name","_law_behind"]
abbrev QB:List Fv:=["_law_line_here","_law_book_here","_law_name","_law_behind","_law_here","_law_kind"]
theorem q8:bf QB rC (aI uC):=bz
theorem NH(F:aQ K "_law_spot" "_law_spot" uC f fd):aT P w K mg base aG 1 f fd rC jR:=by
 refine F.bG q8 λQa A outer s H vs Q E S h=>?_
 ·obtain @⟨g,db,line,kvs,bk,name,a,rfl,j,C,dv,ok,T,q⟩:=h
  have D:=eu S.units;intro X;refine⟨_,au (aY 4 q8.nd (pv 0))
   (au (bh (bp jH (pv 3) bq (bA _)) (aA (aY 4 q8.nd (iK lY (pv 0) (ia (bx eV (gc hg VE VF Ja (pv 0) (aa (pv 3) ah)) ar)) iQ))) bD)
   (au (eG d5 rfl (c6 (pv 4)) (bb 5 q8.nd)
    (aA (bh (fQ (iU D (fk (aa (pv 5) (aa (pv 2) ah))) (pv 1)))
     (aA (aX (fk (aa (pv 5) (aa (d0 D (pv 1) (fk (aa (pv 5) (aa (pv 2) ah)))) ah))))) bD)))
   (aA (aX dQ)))),?_⟩
  refine⟨_,rfl,_,rfl,rfl,_,rfl,uP (λR H'=>∃b,R=[am g,am db,ih (.str name),ih (.str a),am b,none]/\aw H H'/\H' b=bd ((d9 line a).map V.str)) (λe k=>?_) (λe=>⟨g,rfl,aw.refl _,?_⟩) ?_⟩
  ·have G:a ≠ "" :=λz=>by rw[z]at e;revert e;decide +kernel
   have U:a∈line:=T.resolve_left G;obtain⟨W,Z⟩:=s6 U;refine⟨_,rfl,_,rfl,.inl ⟨rfl,_,aj.of j⟩,_,rfl,g,line,a,line.idxOf a,rfl,rfl,j,W,Z,_,_,rfl,rfl,_,rfl,g,_,rfl,aj.of j,λc xa=>?_⟩;have e1:d9 line a=line.drop (line.idxOf a+1):=by unfold d9;rw[ao G]
   refine k _ _ ⟨c,rfl,dt xa,?_⟩;rw[af,e1,lB];exact c3 ih (c3 HO.lst (nD (line.map V.str) (line.idxOf a+1)))
  ·have:a = "" :=by
    by_cases z:a = ""
    ·exact z
    ·exact absurd (by simpa using z) e
   rw[show d9 line a=line from aE this];exact j
  ·rintro σ Y ⟨b,rfl,ya,o⟩
   generalize d9 line a=rest at q o;refine⟨_,rfl,b,rfl,⟨_,aj.of o⟩,h8 (xs:=rest.map V.str) (λi σ H2=>∃u:ad V,σ=[am g,am db,ih (.str name),ih (.str a),am b,u]/\aw H H2/\H2 b=bd (rest.map V.str) /\∀y∈rest.take i,dU bk y name=none)
    ⟨none,rfl,ya,o,λy m=>(by cases m)⟩ (λi σ H2 _ ⟨_,_,_,z,_⟩=>aj.of z) ?_ ?_⟩
   ·rintro i x σ H2 za ⟨u,rfl,B,I,no⟩
    refine iO ?_;intro yd E;obtain⟨J,rfl⟩:=jz za;refine⟨_,rfl,_,rfl,bQ,λxb yb M _ p=>?_⟩;have p:yb xb=a2 (([n' rest[i],n' name]:ac Key).map kV):=p;have l:=B.trans M;refine⟨_,rfl,db,_,rfl,b4.t (k:=[n' rest[i],n' name]) (l _ _ C) p,_,rfl,?_⟩;rcases (dv.same l).look (k:=rest[i]) (n:=name) ok.nd with⟨e1,e2⟩|⟨v,d,e1,e2,zb⟩
    ·rw[e2]
     refine⟨_,rfl,l,M _ _ I,λy m=>?_⟩;rw[ij J]at m;rcases bI.mp m with z|z
     ·exact no y z
     ·rw[bL.mp z];exact e1
    ·rw[e2]
     refine⟨_,rfl,_,rfl,_,rfl,_,rfl,bQ,λxc yc N _ r=>?_⟩;have r:yc xc=a2 (([n' rest[i],n' name]:ac Key).map kV):=r;have L:=l.trans N;refine⟨db,v,rfl,by rw[<-e2];exact b4.t (L _ _ C) r,bQ,λt zc O _ xd=>?_⟩
     exact q _ zc (L.trans O) (by rw[Lk J no e1];exact⟨t,v,rfl,xd,(zb.same N).same O⟩)
   ·rintro σ H2 ⟨u,rfl,B,I,no⟩
    rw[aB,cz]at no;exact q _ H2 B (by rw[JS no];rfl)
inductive mw(vs:List V)(H:Hp)(Q:VK)(E:XK):Prop
 |mk{u:V}{d:UC}(_:vs=[u])(_:Ent d)(_:Rep H u d)(_:∀r us H',aw H H'->H' r=ih (.lst us)->bJ H' us (cc d)->Q (.ref r) H'):mw vs H Q E
theorem O5:bf ["_law_entry_here"] ["_law_entry_here"] (aI tR):=bz
theorem NI(F:aQ K "_law_steps" "_law_steps" tR f fd)(B:df mg):aT P w K mg base aG 1 f fd ["_law_entry_here"] mw:=by
 refine F.bG O5 λQa A outer s H vs Q E L h=>?_
 ·obtain @⟨u,d,rfl,p,r,q⟩:=h
  intro X;refine⟨_,au (bh (bp c7 (aU bj (pv 0) ar) bq (bA _)) (aA (aX (jI (aa (fk (aa bq (aa (aU bj (pv 0) ar) ah))) ah)))) bD)
   (au (bh (bp c7 (aU bj (pv 0) ar) bq (bA _)) (aA (aX (jI (aa (fk (aa bq (aa (aU bj (pv 0) ar) ah))) (aa (fk (aa bq (aa (aU bj (pv 0) ar) ah))) ah))))) bD)
   (aA (aX (dq kb rfl B.list boot_list (aa (aU bj (pv 0) ar) ah))))),?_⟩
  cases p with
  |plain n t =>
   obtain⟨a,u,rfl,e,g⟩:=two1 r;obtain rfl:=g.ir;refine⟨_,rfl,a,_,0,_,rfl,rfl,ay.of e,b8,rfl,_,rfl,_,rfl,a,_,1,_,rfl,rfl,ay.of e,cP,bQ,λv Y k _ h1=>⟨eI,λo H2 i _ h2=>?_⟩⟩;exact q o _ H2 (k.trans i) h2 (.cons (.tup (i _ _ h1) (.cons (.str _) (.cons (.int _) .nil))) .nil)
  |ahead x n h t =>
   obtain⟨a,vs,rfl,e,rs⟩:=r.tupI;obtain⟨M,N,rfl,y,rs⟩:=rs.e6;obtain⟨O,R,rfl,g,rs⟩:=rs.e6;obtain⟨S,T,rfl,z,rs⟩:=rs.e6;obtain rfl:=rs.mu;obtain rfl:=y.gV;obtain rfl:=g.gV;obtain rfl:=z.ir;refine⟨_,rfl,a,_,0,_,rfl,rfl,ay.of e,b8,rfl,_,rfl,_,rfl,a,_,0,_,rfl,rfl,ay.of e,b8,rfl,_,rfl,?_⟩;refine⟨_,rfl,a,_,1,_,rfl,rfl,ay.of e,cP,bQ,λv Y k _ h1=>⟨_,rfl,a,_,2,_,rfl,rfl,ay.of (k _ _ e),og,bQ,λo H2 i _ h2=>⟨bQ,λC D l _ G=>?_⟩⟩⟩;exact q C _ D (k.trans (i.trans l)) G (.cons (.tup (l _ _ (i _ _ h1)) (.cons (.str _) (.cons (.str _) .nil))) (.cons (.tup (l _ _ h2) (.cons (.str _) (.cons (.int _) .nil))) .nil))
  |behind ds I J =>
   obtain⟨a,u,rfl,e,g⟩:=two1 r;obtain⟨b,vs,rfl,m,rs⟩:=g.tupI;refine⟨_,rfl,a,_,0,_,rfl,rfl,ay.of e,b8,rfl,_,rfl,_,rfl,a,_,0,_,rfl,rfl,ay.of e,b8,rfl,_,rfl,_,rfl,a,_,1,_,rfl,rfl,ay.of e,cP,b,_,rfl,.inr (ay.of m),λc j=>q c _ _ (dt j) af (rs.same (dt j))⟩
  |jP ds I J =>
   obtain⟨a,u,rfl,e,g⟩:=two1 r;obtain⟨b,vs,rfl,m,rs⟩:=g.tupI;refine⟨_,rfl,a,_,0,_,rfl,rfl,ay.of e,b8,rfl,_,rfl,_,rfl,a,_,0,_,rfl,rfl,ay.of e,b8,rfl,_,rfl,_,rfl,a,_,1,_,rfl,rfl,ay.of e,cP,b,_,rfl,.inr (ay.of m),λc j=>q c _ _ (dt j) af (rs.same (dt j))⟩
theorem Tells.or{t u:TT}{a b:Bool}(h:Tells t σ H a)(k:a=false ->∀Y,aw H Y->Tells u σ Y b):Tells (vk t u) σ H (a||b):=λR q=>h _ λY c=>by
 cases a with
 |true=>exact q _ c
 |false=>exact k rfl Y c R λH2 d=>q _ (c.trans d)
theorem vg{t:TT}{a te:TS}{D:L2.Ends}{b:Bool}(h:Tells t σ H b)(k:∀Y,aw H Y->if b=true then a D σ Y else te D σ Y):uR t a te D σ H:=h _ k
def mL:Rs->List V
 |.told z=>[.str "told",.int z]
 |.miss n=>[.str "missing",.str n]
def QC(H:Hp)(v:V):Option Rs->Prop
 |none=>v=.aK
 |some r=>∃t,v=.ref t/\H t=ih (.tup (mL r))
def f3(H:Hp)(kk:List (List Key×V))(ka:List (Ask×Rs)):Prop:=VM (λkv p=>kv.1=bX p.1 /\∃t,kv.2=V.ref t/\H t=ih (.tup (mL p.2))) kk ka
theorem f3.keep{ka:ac (Ask×Rs)}(h:f3 H kk ka)(k:∀b xs,H b=a2 xs->H' b=a2 xs):f3 H' kk ka:=Paired.imp' (λ_ _ ⟨e,t,e1,e2⟩=>⟨e,t,e1,k _ _ e2⟩) h
theorem f3.same{ka:ac (Ask×Rs)}(h:f3 H kk ka)(S:aw H H'):f3 H' kk ka:=h.keep λ_ _ e=>S _ _ e
theorem f3.val{ka:ac (Ask×Rs)}(h:f3 H kk ka)(a:Ask):(a' kk (bX a)=none/\ka.lookup a=none) \/∃t r,a' kk (bX a)=ih (.ref t)/\ka.lookup a=ih r/\H t=a2 (mL r):=by
 induction h with
 |nil=>exact .inl ⟨rfl,rfl⟩
 |@cons d p kk ka e _ f =>
  obtain⟨b,t,e1,e2⟩:=e
  by_cases c:p.1=a
  ·exact .inr ⟨t,p.2,by rw[fg (by rw[b,c]),e1],by rw[<-c];show VA p.1 ((p.1,p.2)::ka)=_;rw[dg,oO],e2⟩
  ·have ne : ¬ d.1=bX a:=λz=>c (Cb (b.symm.trans z))
   have g:VA a (p::ka)=ka.lookup a:=by show VA a ((p.1,p.2)::ka)=_;rw[dg,show(a==p.1)=false by simp[aS c]]
   rw[eN ne,g];exact f
theorem Ll{d:UC}(e:Ent d):decide (a7 d∈(["plain","behind"]:ac Fv)) = !jF d:=by
 cases e with
 |plain n=>show decide (("plain" : Fv)∈(["plain","behind"]:ac Fv)) = !decide (("plain" : Fv) = "ahead" \/ ("plain" : Fv) = "shut");decide +kernel
 |ahead x n=>show decide (("ahead" : Fv)∈(["plain","behind"]:ac Fv)) = !decide (("ahead" : Fv) = "ahead" \/ ("ahead" : Fv) = "shut");decide +kernel
 |behind ds=>show decide (("behind" : Fv)∈(["plain","behind"]:ac Fv)) = !decide (("behind" : Fv) = "ahead" \/ ("behind" : Fv) = "shut");decide +kernel
 |jP ds=>show decide (("shut" : Fv)∈(["plain","behind"]:ac Fv)) = !decide (("shut" : Fv) = "ahead" \/ ("shut" : Fv) = "shut");decide +kernel
theorem iX{W:aO}{a:Ask->Option Rs}{w:Fv}{d:UC}{ds:ac UC}{t:Int}(c:W.need n w d=none):W.dz a n w (d::ds) t=W.dz a n w ds (stepT t d):=by
 show(match W.need n w d with|none=>_|some b=>_)=_;rw[c]
theorem JT{d:UC}(e:ed d):a7 d = "add" \/ a7 d = "times" \/ a7 d = "ask" \/ a7 d = "onward" :=by
 cases e with
 |add n=>exact .inl rfl
 |times n=>exact .inr (.inl rfl)
 |ask x=>exact .inr (.inr (.inl rfl))
 |ma=>exact .inr (.inr (.inr rfl))
theorem eH.same{r:ad (Fv×UC)}(h:eH H v r)(S:aw H H'):eH H' v r:=by
 cases r with
 |none=>exact h
 |some p=>obtain⟨t,u,e,a,b⟩:=h;exact⟨t,u,e,S _ _ a,b.same S⟩
theorem Bt{i j g:Nat}{W:aO}{a:Ask}(h1:σ[i]?=ih (ih (.str n)))(h2:σ[j]?=ih (ih (.ref ow)))(h:σ[g]?=ih (ih v))(r:H ow=bn (c1 W.own))(b:eH H v (W.look a))(o:∀wh d,W.look a=ih (wh,d)->Ent d) :
  Tells (uQ (tB (u1 (gD i) (gD j))) (vk (qh (jY (λx y H Q=>y=.aK/\Q (.bl (decide (x=.aK))) H) (gD g) (tC .aK))) (qh (jY (oy K false) (jY (qB K) (jY (qB K) (gD g) (tC (.int 1))) (tC (.int 0))) (Dn (uq (tC (.str "plain")) (uq (tC (.str "behind")) uX))))))) σ H ((W.own.lookup n).isSome&&W.eS a):=by
 refine .and (λR k=>⟨_,h1,_,h2,ow,_,rfl,b4.k (k:=n' n) r,_,rfl,by rw[nL,rQ];exact k _ (aw.refl _)⟩) λ_ C l R k=>?_
 cases f:W.look a with
 |none =>
  rw[f]at b;rw[show W.eS a=true by unfold aO.eS;rw[f]]at k
  have b:v=V.aK:=b;subst b;exact⟨_,h,rfl,_,rfl,k _ (aw.refl _)⟩
 |some p =>
  obtain⟨y,d⟩:=p;rw[f]at b;rw[show W.eS a = !jF d by unfold aO.eS;rw[f]]at k
  obtain⟨t,u,rfl,s,w⟩:=b;have m:=o y d f;obtain⟨z,xs,rfl,q⟩:=tX m (w.same l);refine⟨_,h,rfl,_,rfl,_,h,t,_,1,_,rfl,rfl,ay.of (l _ _ s),cP,z,_,0,_,rfl,rfl,ay.of q,b8,bQ,λc D A _ B=>⟨c,_,rfl,.inl (aj.of B),rfl,rfl,?_⟩⟩;have e:k' (.str (a7 d)) ((["plain","behind"]:ac Fv).map V.str) = !jF d:=by
   rw[iM];exact Ll m
  have:=k _ A;rw[<-e]at this;exact⟨_,rfl,this⟩
inductive mx(vs:List V)(H:Hp)(Q:VK)(E:XK):Prop
 |mk{la db ow dk ky:EZ}{line:List Fv}{kvs kk:List (List Key×V)}{bk:Bk}{own:Own}{ka:List (Ask×Rs)}{a:Ask}(_:vs=[.ref la,.ref db,.ref ow,.ref dk,.ref ky])(_:H la=ih (.lst (line.map V.str)))(_:H db=ih (.dT kvs))(_:cx H kvs bk)(_:gk bk)(_:H ow=ih (.dK (c1 own)))(_:H dk=ih (.dT kk))(_:f3 H kk ka)(_:H ky=ih (.tup [.str a.1,.str a.2]))(_:a.2 = "" \/ a.2∈line)
  (_:∀v H',aw H H'->QC H' v (aO.cg ⟨line,bk,own⟩ (λb=>ka.lookup b) a)->Q v H'):mx vs H Q E
abbrev rD:List Fv:=["_law_line_here","_law_book_here","_law_own","_law_known_here","_law_key"]
abbrev QD:List Fv:=["_law_line_here","_law_book_here","_law_own","_law_known_here","_law_key","_law_name","_law_behind","_law_spot_here","_law_total","_law_step_here","_law_here"]
theorem hS:bf QD rD (aI vz):=bz
theorem NJ(F:aQ K "_law_go" "_law_go" vz f fd)(yq:bF P w K mg base aG 1 fS dS rC jR "_law_spot")(zA:bF P w K mg base aG 1 fL dL ["_law_entry_here"] mw "_law_steps"):aT P w K mg base aG 2 f fd rD mx:=by
 refine F.bG hS λQa A outer s H vs Q E N h=>?_
 ·obtain @⟨zq,db,ow,dk,yf,line,kvs,kk,bk,own,ka,a,rfl,yj,zj,dv,ok,xk,zt,xB,xu,yB,q⟩:=h
  have ye:aZ 1 _:=N;have G:=eu N.units;intro X;refine⟨_,au (iT (pv 4) (ib rfl (cZ (bb 5 hS.nd) (cZ (bb 6 hS.nd) gw))))
   (au (aY 7 hS.nd (a9 yq ye (aa (pv 0) (aa (pv 1) (aa (pv 5) (aa (pv 6) ah))))))
   (au (bh (PW.pt (pw_and (bp c7 (pv 6) bq (bA _)) (pw_and (fQ (iU G (pv 5) (pv 2))) (pw_and1 (PW.pt (pw_or (bp gy (pv 7) dQ (bA _)) (pw_or1 (bp jt (aU bj (aU bj (pv 7) ar) ar) (jI (aa bq (aa bq ah))) rfl))))))))
    (aA (aX (fk (aa bq (aa (d0 G (pv 2) (pv 5)) ah))))) bD)
   (au (bh (bp gy (pv 7) dQ (bA _)) (aA (aX (fk (aa bq (aa (pv 5) ah))))) bD)
   (au (aY 8 hS.nd ar)
   (au (eG d5 rfl (c6 (a9 zA ye (aa (aU bj (pv 7) ar) ah))) (bb 9 hS.nd)
    (au (aY 10 hS.nd (fk (aa (pv 5) (aa (aU bj (pv 7) ar) ah))))
    (au (bh (bp c7 (aU bj (pv 9) ar) bq (bA _)) (aA (aY 10 hS.nd (fk (aa (aU bj (pv 9) ar) (aa bq ah))))) bD)
    (aA (bh (bp c7 (aU bj (pv 9) ar) bq (bA _)) (aA (aY 8 hS.nd (bx eV (pv 8) (aU bj (pv 9) ar))))
     (aA (bh (bp c7 (aU bj (pv 9) ar) bq (bA _)) (aA (aY 8 hS.nd (bx nM (pv 8) (aU bj (pv 9) ar))))
      (aA (bh (PW.pt (pw_or (bp c7 (aU bj (pv 9) ar) bq (bA _)) (pw_or1 (fQ (tq (a9 yq ye (aa (pv 0) (aa (pv 1) (aa (pv 5) (aa (aU bj (pv 7) ar) ah))))))))))
       (au (bh (fQ (pd G (pv 10) (pv 3))) (aA (aX dQ)) bD)
       (au (bh (bp c7 (aU bj (d0 G (pv 3) (pv 10)) ar) bq (bA _)) (aA (aX (d0 G (pv 3) (pv 10)))) bD)
       (aA (aY 8 hS.nd (bx eV (pv 8) (aU bj (d0 G (pv 3) (pv 10)) ar))))))
       bD)))))))))
   (aA (aX (fk (aa bq (aa (pv 8) ah)))))))))),?_⟩
  generalize zf:(⟨line,bk,own⟩:aO)=W at q;have xg:W.line=line:=by rw[<-zf]
  have eB:W.bk=bk:=by rw[<-zf]
  have yg:W.own=own:=by rw[<-zf]
  refine f7 λU j=>?_;intro o I;refine⟨_,rfl,yf,_,rfl,ay.of xu,rfl,_,_,rfl,_,_,rfl,rfl,?_⟩;refine b5 j λU j=>?_;intro o I;refine⟨_,rfl,_,rfl,_,rfl,_,rfl,jR.mk rfl yj zj dv ok yB λv Y xr l=>?_⟩;have yk:W.look a=cX bk a.1 (d9 line a.2):=by unfold aO.look;rw[eB,xg]
  rw[<-yk]at l;have xt:=xr _ _ xk;have zk:∀wh d,W.look a=ih (wh,d)->Ent d:=λwh d e=>by rw[yk]at e;exact(kA ok wh d e).2
  have yu:∀wh d,W.look a=ih (wh,d)->wh∈line:=λwh d e=>by rw[<-xg];exact l3 e
  refine b5 j λU j=>?_;intro o I;have yt:Y ow=bn (c1 W.own):=by rw[yg];exact xt
  refine vg (b:=decide (V.str a.2=V.str "")&&((W.own.lookup a.1).isSome&&W.eS a)) (.and (λR k=>⟨_,rfl,rfl,_,rfl,k _ (aw.refl _)⟩) λ_ zB J=>Bt rfl rfl rfl (J _ _ yt) (eH.same l J) zk) λzB J=>?_;have ya:=xr.trans J
  by_cases zg:a.2 = "" /\ (W.own.lookup a.1).isSome=true/\W.eS a=true
  ·obtain⟨xl,yl,zl⟩:=zg
   obtain⟨z,xh⟩:=rJ.mp yl;rw[yg]at xh;have xC:a' (c1 own) (n' a.1)=ih (.int z):=by rw[nL,xh];rfl
   have xc:W.cQ a=ih z:=by unfold aO.cQ;rw[aE ⟨xl,zl⟩,yg,xh]
   rw[aE (by rw[yl,zl,xl];rfl)]
   refine⟨_,rfl,_,rfl,ow,.int z,rfl,by rw[<-xC];exact b4.k (k:=n' a.1) (ya _ _ xk),bQ,λt yh zh _ O=>?_⟩
   exact q _ yh (ya.trans zh) (by unfold aO.cg;rw[xc];exact⟨t,rfl,O⟩)
  have xc:W.cQ a=none:=by
   unfold aO.cQ
   by_cases yc:a.2 = "" /\ W.eS a=true
   ·rw[aE yc]
    cases e:W.own.lookup a.1 with
    |none=>rfl
    |some z=>exact absurd ⟨yc.1,by rw[e];rfl,yc.2⟩ zg
   ·rw[ao yc]
  rw[ao (λz=>zg (by
   rw[gK,gK]at z;refine⟨?_,z.2.1,z.2.2⟩;have e:=dJ z.1;injection e))]
  refine b5 j λU j=>?_;intro o I;cases L:W.look a with
  |none =>
   rw[L]at l;have l:v=V.aK:=l;subst l;refine⟨_,rfl,rfl,_,rfl,_,rfl,bQ,λt yh zh _ O=>?_⟩;exact q _ yh (ya.trans zh) (by unfold aO.cg;rw[xc,L];exact⟨t,rfl,O⟩)
  |some p =>
  obtain⟨wh,d⟩:=p;rw[L]at l;obtain⟨t,u,rfl,O,yC⟩:=l;have S:=zk wh d L;have zu:=yu wh d L;have xv:W.cg (λb=>ka.lookup b) a=W.dz (λb=>ka.lookup b) a.1 wh (cc d) 0:=by unfold aO.cg;rw[xc,L]
  rw[xv]at q;obtain⟨yv,yF⟩:=s8 S;have xm:=J _ _ O;refine⟨_,rfl,rfl,_,rfl,?_⟩;refine b5 j λU j=>?_;intro o I;refine ?_;refine b5 j λU j=>?_;intro o I;refine⟨_,rfl,t,_,1,_,rfl,rfl,ay.of xm,cP,mw.mk rfl S (yC.same J) λzC us xD yr ym zm=>?_⟩;have xn:=ya.trans yr;have yn:=yr _ _ xm;have zv:=bJ.length zm;refine⟨zC,rfl,⟨_,aj.of ym⟩,h8 (xs:=us) (λi σ zc=>∃(z:Int) (xi ze:ad V),σ=[am zq,am db,am ow,am dk,am yf,ih (.str a.1),ih (.str a.2),am t,ih (.int z),xi,ze]/\aw xD zc/\W.dz (λb=>ka.lookup b) a.1 wh ((cc d).drop i) z=W.dz (λb=>ka.lookup b) a.1 wh (cc d) 0)
   ⟨0,none,none,rfl,aw.refl _,rfl⟩ (λi σ zc _ ab=>by obtain⟨_,_,_,_,z,_⟩:=ab;exact aj.of (z _ _ ym)) ?_ ?_⟩
  ·rintro i x σ zc yD ⟨z,xi,ze,rfl,T,n⟩
   refine iO ?_;intro o I;obtain⟨g,zn,zD⟩:=bJ.get (bJ.same zm T) yD;have zr:ed g:=yv g (eK zn);have xw:(cc d).drop i=g::(cc d).drop (i+1):=by
    obtain⟨hi,e⟩:=bZ.mp zn;rw[<-e];exact lr hi
   rw[xw]at n;obtain⟨B,xs,rfl,yw,xo,zw,xx⟩:=pT zr zD;refine f7 λU j=>?_;intro o xE;refine⟨_,rfl,_,rfl,t,_,0,_,rfl,rfl,ay.of (T _ _ yn),b8,bQ,λh1 yi xd _ yx=>?_⟩;refine b5 j λU j=>?_;intro o xE;have xa:=xd _ _ yw;obtain⟨b,za⟩:∃b:Ask,b=if a7 g = "ask" then (dX g,("" : Fv)) else (a.1,wh):=⟨_,rfl⟩;refine⟨_,rfl,B,_,0,_,rfl,rfl,ay.of xa,b8,rfl,_,rfl,uP (λzx H'=>∃N,zx=[am zq,am db,am ow,am dk,am yf,ih (.str a.1),ih (.str a.2),am t,ih (.int z),am B,am N]/\aw yi H'/\H' N=a2 [.str b.1,.str b.2]) (λe k=>?_) (λe=>⟨h1,rfl,aw.refl _,?_⟩) ?_⟩
   ·have e:a7 g = "ask" :=by
     have:=dJ e;injection this
    have ex:=zw e;rw[ex]at xa;refine⟨_,rfl,B,_,1,_,rfl,rfl,ay.of xa,cP,bQ,λh2 yE yd _ xy=>k _ _ ⟨h2,rfl,yd,?_⟩⟩;rw[za,aE e];exact xy
   ·have e:a7 g ≠ "ask" :=λz=>e (by rw[z];exact cb rfl)
    rw[za,ao e];exact yx
   rintro σ yE ⟨yo,rfl,yd,zE⟩;have yy:=xd.trans yd;have M:=T.trans yy;have xb:=xn.trans M;have D:=yd _ _ xa;have zy:=M _ _ yn;refine gi j ?_;intro o;refine⟨_,rfl,B,_,0,_,rfl,rfl,ay.of D,b8,rfl,_,rfl,bW (λe=>?_) (λe=>?_)⟩
   ·have e:a7 g = "add" :=by
     have:=dJ e;injection this
    have ex:=xo (.inl e);rw[ex]at D;refine⟨_,rfl,_,rfl,B,_,1,_,rfl,rfl,ay.of D,cP,_,_,rfl,rfl,_,_,_,rfl,M,?_⟩;rw[<-n,iX (by unfold aO.need;rw[ao (by rw[e];decide +kernel),ao (by rw[e];decide +kernel)])]
    unfold stepT;rw[aE e]
   have xf:a7 g ≠ "add" :=λz=>e (by rw[z];exact cb rfl)
   refine⟨_,rfl,B,_,0,_,rfl,rfl,ay.of D,b8,rfl,_,rfl,bW (λe=>?_) (λe=>?_)⟩
   ·have e:a7 g = "times" :=by
     have:=dJ e;injection this
    have ex:=xo (.inr e);obtain⟨lo,hi⟩:=xx e;rw[ex]at D;refine⟨_,rfl,_,rfl,B,_,1,_,rfl,rfl,ay.of D,cP,_,_,rfl,rfl,.inr ⟨by omega,by omega⟩,_,_,_,rfl,M,?_⟩
    rw[<-n,iX (by unfold aO.need;rw[ao (by rw[e];decide +kernel),ao (by rw[e];decide +kernel)])]
    unfold stepT;rw[ao xf,aE e]
   have zo:a7 g ≠ "times" :=λz=>e (by rw[z];exact cb rfl)
   refine vg (b:=decide (V.str (a7 g)=V.str "ask")||(W.look (a.1,wh)).isSome) (.or (λR k=>⟨_,rfl,B,_,0,_,rfl,rfl,ay.of D,b8,rfl,_,rfl,k _ (aw.refl _)⟩) λ_ Z C R k=>?_) λZ C=>?_
   ·refine⟨_,rfl,_,rfl,_,rfl,_,rfl,t,_,0,_,rfl,rfl,ay.of (C _ _ zy),b8,jR.mk rfl ((xb.trans C) _ _ yj) ((xb.trans C) _ _ zj) (dv.same (xb.trans C)) ok (.inr zu) λv zF xp l=>?_⟩
    have:cX bk a.1 (d9 line wh)=W.look (a.1,wh):=by unfold aO.look;rw[eB,xg]
    rw[this]at l;cases yp:W.look (a.1,wh) with
    |none =>
     rw[yp]at l k;have l:v=V.aK:=l;subst l;exact⟨_,rfl,k _ xp⟩
    |some p =>
     rw[yp]at l k;obtain⟨t',xG,rfl,_⟩:=l;exact⟨_,rfl,k _ xp⟩
   have zp:=M.trans C;have yb:=xb.trans C;have xz:=C _ _ zE;have xq:Z yo=a2 ((bX b).map kV):=xz;have tg:a7 g = "ask" \/ a7 g = "onward" :=by
    rcases JT zr with e|e|e|e
    ·exact absurd e xf
    ·exact absurd e zo
    ·exact .inl e
    ·exact .inr e
   have an:∀c:Bool,c=(decide (V.str (a7 g)=V.str "ask")||(W.look (a.1,wh)).isSome)->(c=true->W.need a.1 wh g=ih b)/\(c=false->W.need a.1 wh g=none/\a7 g = "onward"):=λc zd=>by
    rcases tg with e|e
    ·have:c=true:=by rw[zd,e];simp
     exact⟨λ_=>by unfold aO.need;rw[aE e,za,aE e],λz=>by rw[this]at z;cases z⟩
    ·have n1:a7 g ≠ "ask" :=by rw[e];decide +kernel
     have e1:decide (V.str (a7 g)=V.str "ask")=false:=ef λz=>n1 (by injection z)
     rw[e1,wk]at zd;have S:W.need a.1 wh g=if (W.look (a.1,wh)).isSome=true then ih (a.1,wh) else none:=by unfold aO.need;rw[ao n1,aE e]
     exact⟨λz=>by rw[S,<-zd,aE z,za,ao n1],λz=>⟨by rw[S,<-zd,ao (by rw[z];exact b')],e⟩⟩
   obtain⟨yz,zz⟩:=an _ rfl;refine bW (λc=>?_) (λc=>?_)
   ·have zi:=yz c
    rw[gP zi]at n;refine f7 λU j=>?_;intro o xF;have xA:=xB.same yb;have xj:=yb _ _ zt;refine⟨_,rfl,_,rfl,dk,_,rfl,b4.t (k:=bX b) xj xq,_,rfl,?_⟩;rcases xA.val b with⟨e1,e2⟩|⟨y,r,e1,e2,zb⟩
    ·rw[e1]
     rw[e2]at n;exact q _ Z yb (by rw[<-n];rfl)
    ·rw[e1]
     rw[e2]at n;refine b5 j λU j=>?_;intro o xF;have xe:b4 Z dk (.ref yo) (ih (.ref y)):=by rw[<-e1];exact b4.t (k:=bX b) xj xq
     cases r with
     |miss m =>
      refine⟨_,rfl,_,rfl,dk,.ref y,rfl,xe,y,_,0,_,rfl,rfl,ay.of zb,b8,rfl,_,rfl,?_⟩;refine bW (λ_=>?_) (λz=>absurd (cb rfl) z);exact⟨_,rfl,_,rfl,dk,.ref y,rfl,xe,q _ Z yb (by rw[<-n];exact⟨y,rfl,zb⟩)⟩
     |told z2 =>
      refine⟨_,rfl,_,rfl,dk,.ref y,rfl,xe,y,_,0,_,rfl,rfl,ay.of zb,b8,rfl,_,rfl,?_⟩;refine bW (λz=>absurd z (by decide +kernel)) (λ_=>?_)
      refine gi j ?_;intro o;exact⟨_,rfl,_,rfl,_,rfl,dk,.ref y,rfl,xe,y,_,1,_,rfl,rfl,ay.of zb,cP,_,_,rfl,rfl,_,_,_,rfl,zp,n⟩
   ·obtain⟨zi,e⟩:=zz (by simpa using c)
    rw[iX zi]at n;have:stepT z g=z:=by unfold stepT;rw[ao xf,ao zo]
    rw[this]at n;exact⟨_,_,_,rfl,zp,n⟩
  ·rintro σ zc ⟨z,xi,ze,rfl,T,n⟩
   rw[zv,wR]at n;refine gi j ?_;intro o;refine⟨_,rfl,bQ,λt' yi xd _ yA=>?_⟩;exact q _ yi (xn.trans (T.trans xd)) (by rw[<-n];exact⟨t',rfl,yA⟩)
def Ee(W:aO)(ka:List (Ask×Rs)):Prop:= ∀p∈ka,W.Out p.1 p.2
theorem lookup_mem{a:Ask}{r:Rs}:∀{ka:ac (Ask×Rs)},ka.lookup a=ih r->(a,r)∈ka
 |[],e=>by cases e
 |p::ka,e=>by
  by_cases c:a=p.1
  ·subst c
   have e:VA p.1 ((p.1,p.2)::ka)=ih r:=e;rw[dg,oO]at e;cases e;exact aW
  ·have e:VA a ((p.1,p.2)::ka)=ih r:=e
   rw[dg,show(a==p.1)=false by simp[c]]at e
   exact ba _ (lookup_mem e)
theorem lookup_none{a:Ask}:∀{ka:ac (Ask×Rs)},ka.lookup a=none ↔ a ∉ ka.map (·.1)
 |[]=>by simp
 |p::ka=>by
  have b:=lookup_none (a:=a) (ka:=ka);show VA a ((p.1,p.2)::ka)=none ↔ _;rw[dg,b2,bH]
  by_cases c:a=p.1
  ·simp[c]
  ·rw[show(a==p.1)=false by simp[c]]
   simp only[c,false_or];exact b
section
variable{W:aO}{f g:Ask->Option Rs}{w:Fv}{ka:ac (Ask×Rs)}
theorem sJ(h:∀b r,f b=ih r->W.Out b r):∀{ds:ac UC}{t:Int}{r:Rs},W.dz f n w ds t=ih r ->∃k,W.dz (W.out k) n w ds t=ih r
 |[],t,r,e=>⟨0,e⟩
 |d::ds,t,r,e=>by
  cases a:W.need n w d with
  |none =>
   rw[iX a]at e;obtain⟨k,c⟩:=sJ h e;exact⟨k,by rw[iX a];exact c⟩
  |some b =>
   rw[gP a]at e;cases g:f b with
   |none=>rw[g]at e;cases e
   |some x =>
    obtain⟨k,c⟩:=h b x g;rw[g]at e;cases x with
    |miss m=>exact⟨k,by rw[gP a,c];exact e⟩
    |told z =>
     obtain⟨m,i⟩:=sJ h e;refine⟨max k m,?_⟩;rw[gP a,md (aaM k m) c];exact nE (λ_ _ q=>md (aay k m) q) i
theorem Ad(h:∀b r,f b=ih r->W.Out b r){a:Ask}{r:Rs}(e:W.cg f a=ih r):W.Out a r:=by
 unfold aO.cg at e;cases c:W.cQ a with
 |some z=>rw[c]at e;cases e;exact Out.own c
 |none =>
  rw[c]at e;cases d:W.look a with
  |none=>rw[d]at e;cases e;exact Out.none c d
  |some p =>
   rw[d]at e;obtain⟨k,g⟩:=sJ h e;exact⟨k+1,by show W.cg _ a=_;unfold aO.cg;rw[c,d];exact g⟩
theorem sL{k:Ask->Prop}(h:∀b r,k b->f b=ih r->g b=ih r):∀{ds:ac UC}{t:Int}{r:Rs},(∀s∈ds,∀b,W.need n w s=ih b->k b)->W.dz f n w ds t=ih r->W.dz g n w ds t=ih r
 |[],t,r,_,e=>e
 |d::ds,t,r,a,e=>by
  cases c:W.need n w d with
  |none=>rw[iX c]at e⊢;exact sL h (λs i=>a s (ba _ i)) e
  |some b =>
   rw[gP c]at e⊢;cases j:f b with
   |none=>rw[j]at e;cases e
   |some x =>
    rw[h b x (a d aW b c) j];rw[j]at e;cases x with
    |miss m=>exact e
    |told z=>exact sL h (λs i=>a s (ba _ i)) e
def Within(W:aO)(Uv:Ask->Prop)(a:Ask):Prop:= ∀wh d,W.look a=ih (wh,d) ->∀s∈cc d,∀b,W.need a.1 wh s=ih b->Uv b
theorem Ae{d:Ask->Prop}(h:∀b r,d b->f b=ih r->g b=ih r){a:Ask}(wi:Within W d a){r:Rs}(e:W.cg f a=ih r):W.cg g a=ih r:=by
 unfold aO.cg at e⊢;cases i:W.cQ a with
 |some z=>rw[i]at e;exact e
 |none =>
  rw[i]at e;cases c:W.look a with
  |none=>rw[c]at e;exact e
  |some p=>rw[c]at e;exact sL h (wi p.1 p.2 c) e
structure Table(W:aO)(Uv:Ask->Prop)(ka:List (Ask×Rs)):Prop where
 ok:Ee W ka
 cl:∀a,Uv a->ka.lookup a=none->W.cg (λb=>ka.lookup b) a=none
 wi:∀a,Uv a->Within W Uv a
theorem Table.all{d:Ask->Prop}(T:Table W d ka):∀(k:Nat) (a:Ask) (r:Rs),d a->W.out k a=ih r->ka.lookup a=ih r
 |0,_,_,_,e=>by cases e
 |k+1,a,r,u,e=>by
  have e2:W.cg (λb=>ka.lookup b) a=ih r:=Ae (λb c g=>T.all k b c g) (T.wi a u) e;cases f:ka.lookup a with
  |none=>rw[T.cl a u f]at e2;cases e2
  |some c=>exact c3 ih (Out.uniq (T.ok (a,c) (lookup_mem f)) ⟨k+1,e⟩)
theorem Table.bM{d:Ask->Prop}(T:Table W d ka){a:Ask}(wi:Within W d a)(r:Rs):W.cg (λb=>ka.lookup b) a=ih r ↔ W.Out a r:=by
 constructor
 ·exact Ad λb c e=>T.ok (b,c) (lookup_mem e)
 ·rintro⟨k,f⟩
  cases k with
  |zero=>cases f
  |succ k=>exact Ae (λb c g=>T.all k b c g) wi f
end
def lg(W:aO)(ns:List Fv)(a:Ask):Prop:=a.1∈ns/\(a.2 = "" \/ a.2∈W.line)
theorem within{W:aO}(i:∀p∈W.bk,∀s∈cc p.2.2,a7 s = "ask" -> dX s∈ns)(j:∀p∈W.bk,p.2.1∈ns)(a:Ask):Within W (lg W ns) a:=by
 intro wh d f s k b e;have g:(wh,a.1,d)∈W.bk:=kf (jD f).2;unfold aO.need at e
 by_cases c:a7 s = "ask"
 ·rw[aE c]at e;cases e;exact⟨i _ g s k c,.inl rfl⟩
 ·rw[ao c]at e
  by_cases h:a7 s = "onward"
  ·rw[aE h]at e
   split at e
   ·cases e;exact⟨j _ g,.inr (l3 f)⟩
   ·cases e
  ·rw[ao h]at e;cases e
def fq(H:Hp)(vs:List V)(as:List Ask):Prop:=VM (λv a=>∃t,v=V.ref t/\H t=ih (.tup [.str a.1,.str a.2])) vs as
theorem fq.keep{a:ac Ask}(h:fq H vs a)(k:∀b xs,H b=a2 xs->H' b=a2 xs):fq H' vs a:=Paired.imp' (λ_ _ ⟨t,e,q⟩=>⟨t,e,k _ _ q⟩) h
theorem fq.same{a:ac Ask}(h:fq H vs a)(S:aw H H'):fq H' vs a:=h.keep λ_ _ e=>S _ _ e
theorem fq.append{a bs:ac Ask}(h:fq H vs a)(g:fq H ws bs):fq H (vs++ws) (a++bs):=by
 induction h with
 |nil=>exact g
 |cons e _ b=>exact .cons e b
def gQ(ns bs:List Fv):List Ask:=bs.flatMap λb=>ns.map λn=>(n,b)
theorem Af{bs:ac Fv}{a:Ask}:a∈gQ ns bs ↔ a.1∈ns/\a.2∈bs:=by
 unfold gQ;rw[oV]
 constructor
 ·rintro⟨b,c,h⟩
  obtain⟨n,d,rfl⟩:=a4.mp h;exact⟨d,c⟩
 ·rintro⟨h1,h2⟩
  exact⟨a.2,h2,a4.mpr ⟨a.1,h1,rfl⟩⟩
theorem Ag(ns:ac Fv):∀bs:ac Fv,(gQ ns bs).length=bs.length * ns.length
 |[]=>by simp[gQ]
 |b::bs=>by
  have a:=Ag ns bs;unfold gQ at a⊢;rw[FX,bV,a,aB,cS,rY,abB,Nat.add_comm]
theorem AG{ns:ac Fv}(a:ns.Nodup):∀{bs:ac Fv},bs.Nodup->(gQ ns bs).Nodup
 |[],_=>e4
 |b::bs,d=>by
  obtain⟨h1,h2⟩:=d4.mp d;have f:=AG a h2;show((ns.map λn=>((n,b):Ask))++gQ ns bs).Nodup;refine di.mpr ⟨a.map _ λx y n e=>n (aaK e).1,f,λx g y c e=>?_⟩;obtain⟨n,_,rfl⟩:=a4.mp g;exact h1 (by rw[<-e]at c;exact(Af.mp c).2)
structure KI(H0:Hp)(W:aO)(all:List Ask)(dk:EZ)(kk:List (List Key×V))(ka:List (Ask×Rs))(H:Hp):Prop where
 S:aw H0 H
 hd:H dk=ih (.dT kk)
 kt:f3 H kk ka
 ok:Ee W ka
 nd:(ka.map (·.1)).Nodup
 ee:∀p∈ka,p.1∈all
theorem KI.a3{W:aO}{all:ac Ask}{ka:ac (Ask×Rs)}(h:KI H0 W all dk kk ka H):kk.length<=all.length:=by
 have:=mj h.nd λx a=>(by obtain⟨p,b,rfl⟩:=a4.mp a;exact h.ee p b:x∈all)
 rw[aB]at this;rw[cK h.kt];exact this
theorem KI.same{W:aO}{all:ac Ask}{ka:ac (Ask×Rs)}(h:KI H0 W all dk kk ka H)(S:aw H H'):KI H0 W all dk kk ka H':=⟨h.S.trans S,S _ _ h.hd,h.kt.same S,h.ok,h.nd,h.ee⟩
theorem KI.wr{W:aO}{all:ac Ask}{ka:ac (Ask×Rs)}(h:KI H0 W all dk kk ka H)(k:∀b o,b≠l->H b=ih o->H' b=ih o)(n:dk≠l)(f:H0 l=none)(a:H l=bd xs):KI H0 W all dk kk ka H':=⟨λb o e=>k _ _ (ax e f) (h.S _ _ e),k _ _ n h.hd,h.kt.keep λb ys e=>k _ _ (aq e a) e,h.ok,h.nd,h.ee⟩
theorem KI.put{W:aO}{all:ac Ask}{t:EZ}{ka:ac (Ask×Rs)}{a:Ask}{r:Rs}(h:KI H0 W all dk kk ka H)(f:H0 dk=none)(g:a ∉ ka.map (·.1))(i:a∈all)(o:W.Out a r)(j:H t=a2 (mL r)):KI H0 W all dk (kk++[(bX a,.ref t)]) (ka++[(a,r)]) (upd H dk (.dT (kk++[(bX a,.ref t)]))):=by
 have up:∀b xs,H b=a2 xs->upd H dk (.dT (kk++[(bX a,.ref t)])) b=a2 xs:=λb xs e=>by rw[ag (aq e h.hd)];exact e
 refine⟨λb o e=>by rw[ag (ax e f)];exact h.S _ _ e,af,gL (h.kt.keep up) ⟨rfl,t,rfl,up _ _ j⟩,λp c=>?_,?_,λp c=>?_⟩
 ·rcases bI.mp c with z|z
  ·exact h.ok p z
  ·rw[bL.mp z];exact o
 ·rw[a8]
  exact di.mpr ⟨h.nd,by simp,λx k y d e=>g (by have d:y=a:=bL.mp d;rw[<-d,<-e];exact k)⟩
 ·rcases bI.mp c with z|z
  ·exact h.ee p z
  ·rw[bL.mp z];exact i
inductive q9(vs:List V)(H:Hp)(Q:VK)(E:XK):Prop
 |mk{la db ow ln:EZ}{line ns:List Fv}{kvs:List (List Key×V)}{bk:Bk}{own:Own}(_:vs=[.ref la,.ref db,.ref ow,.ref ln])(_:H la=ih (.lst (line.map V.str)))(_:H db=ih (.dT kvs))(_:cx H kvs bk)(_:gk bk)(_:H ow=ih (.dK (c1 own)))(_:H ln=ih (.lst (ns.map V.str)))(_:ns.Nodup)(_:line.Nodup)(_:∀k∈line,k ≠ "")(_:ns.length<=8)(_:line.length<=8)
  (_:∀p∈bk,∀s∈cc p.2.2,a7 s = "ask" -> dX s∈ns) (_:∀p∈bk,p.2.1∈ns)
  (_:∀dk kk ka H',aw H H'->H dk=none->H' dk=ih (.dT kk)->f3 H' kk ka->Table ⟨line,bk,own⟩ (lg ⟨line,bk,own⟩ ns) ka->Q (.ref dk) H'):q9 vs H Q E
abbrev vK:List Fv:=["_law_line_here","_law_book_here","_law_own","_law_names_here"]
abbrev EI:List Fv:=["_law_line_here","_law_book_here","_law_own","_law_names_here","_law_left","_law_behind","_law_known_here","_law_turn","_law_rest","_law_key","_law_told_here"]
theorem ix:bf EI vK (aI nT):=bz
def Ef(e:Vp):Vp:=match e with|.BinOp _ _ r _=>r|_=>.Constant .none 0 ⟨0,0,0,0⟩
abbrev QE:Vp:=Ef (e8 (bR (l2 (bR (bE nT) 1)) 0))
theorem Eg:b6 EI (aI nT) ["_law_name","_law_behind"] [none,ih 5] (cB QE):=c8
theorem NK(F:aQ K "_law_known" "_law_known" nT f fd)(B:df mg)(zJ:bF P w K mg base aG 2 fG dG rD mx "_law_go"):aT P w K mg base aG 3 f fd vK q9:=by
 refine F.bG ix λQa A outer s H vs Q E yB h=>?_
 ·obtain @⟨xk,db,ow,yk,line,ns,kvs,bk,own,rfl,zw,zD,dv,ok,xE,yE,zE,xF,yF,xK,zN,za,yK,q⟩:=h
  have zF:aZ 2 _:=yB;have xG:=eu yB.units;intro X;refine⟨_,au (aY 4 ix.nd (jI ah))
   (au (eG d5 rfl (c6 (bx hG (LQ (pv 0)) (jI (aa bq ah)))) (pK (i:=5) ix.nd rfl (YN rfl))
    (aA (aY 4 ix.nd (bx hG (pv 4) (dZ rfl Eg (c6 (pv 3)) (λs H fp=>⟨bb 0 Eg.nd,ei,fk (aa (pv 0) (aa (pv 1) ah))⟩))))))
   (au (aY 6 ix.nd pw)
   (au (eG d5 rfl (h6 rfl B.range (aa (bT eM rfl B.len ez (aa (pv 4) ah)) ah)) (bb 7 ix.nd)
    (au (aY 8 ix.nd (jI ah))
    (au (eG d5 rfl (c6 (pv 4)) (bb 9 ix.nd)
     (au (aY 10 ix.nd (a9 zJ zF (aa (pv 0) (aa (pv 1) (aa (pv 2) (aa (pv 6) (aa (pv 9) ah)))))))
     (aA (bh (bp gy (pv 10) dQ (bA _)) (aA (eF (gc hg mX mY ju (pv 8) (aa (pv 9) ah)))) (aA (gx xG (pv 6) (pv 9) (pv 10) rfl))))))
    (au (bh (bp c7 (bT eM rfl B.len ez (aa (pv 8) ah)) (bT eM rfl B.len ez (aa (pv 4) ah)) (bA _)) (aA (aX (pv 6))) bD)
    (aA (aY 4 ix.nd (pv 8)))))))
   (aA (aX (pv 6)))))),?_⟩
  generalize zq:(⟨line,bk,own⟩:aO)=W at q;have zB:W.line=line:=by rw[<-zq]
  have eB:W.bk=bk:=by rw[<-zq]
  refine f7 λU C=>?_;intro l xr;refine⟨bB _,λyG Y yr xN xx=>?_⟩;refine b5 C λU C=>?_;intro l xr;refine⟨_,rfl,xk,_,rfl,aj.of (yr _ _ zw),λx1 yn=>⟨by show 1<=UB;exact eI,λx2 H2 zk yN yx=>⟨x1,x2,_,_,rfl,rfl,zk _ _ af,yx,by rw[Fl,aB,aV];show _+1<=_;omega,λx3 zn=>?_⟩⟩⟩
  have zi:=(yr.trans (dt (o:=.lst ((line.map V.str).reverse)) yn)).trans (zk.trans (dt (o:=.lst ((line.map V.str).reverse++[V.str ""])) zn));have xo:=(zk.trans (dt (o:=.lst ((line.map V.str).reverse++[V.str ""])) zn)) _ _ (dt (o:=.lst ((line.map V.str).reverse)) yn _ _ xx);have e3:(line.map V.str).reverse++[V.str ""]=(line.reverse++[("" : Fv)]).map V.str:=by rw[a8,List.map_reverse];rfl
  have ze:upd H2 x3 (.lst ((line.map V.str).reverse++[V.str ""])) x3=bd ((line.reverse++[("" : Fv)]).map V.str):=by rw[e3];exact af
  generalize upd H2 x3 (.lst ((line.map V.str).reverse++[V.str ""]))=zK at zi ze xo⊢;have cy:(line.reverse++[("" : Fv)]).Nodup:=di.mpr ⟨(List.reverse_perm line).nodup_iff.mpr xF,by simp,λx xf y d e=>yF x (aao.mp xf) (by rw[e];exact bL.mp d)⟩
  have zl:∀b,b∈line.reverse++[("" : Fv)] ↔ b = "" \/ b∈line:=λb=>by rw[bI,aao,bL];exact Or.comm
  have xw:(line.reverse++[("" : Fv)]).length<=9:=by rw[bV,Fl];show _+1<=9;omega
  generalize line.reverse++[("" : Fv)]=bs at ze cy zl xw;clear e3 zn;have xm:∀i,(gQ ns (bs.take i)).length<=72:=λi=>by
   rw[Ag];have h1:(bs.take i).length<=9:=by rw[cH];omega
   exact eg (wX h1 xK) (by decide)
  refine⟨_,rfl,⟨_,aj.of ze⟩,h8 (xs:=bs.map V.str) (λi σ G=>∃(lf:EZ) (vs:ac V) (xa:ad V),σ=[am xk,am db,am ow,am yk,am lf,xa,none,none,none,none,none]/\aw zK G/\G lf=bd vs/\fq G vs (gQ ns (bs.take i)))
   ⟨yG,[],none,rfl,aw.refl _,xo,.nil⟩ (λi σ G _ ab=>by obtain⟨_,_,_,_,z,_⟩:=ab;exact aj.of (z _ _ ze)) ?_ ?_⟩
  ·rintro i x σ G xf ⟨lf,vs,xa,rfl,yf,D,av⟩
   refine iO ?_;intro l xL;obtain⟨zG,rfl⟩:=jz xf;have yw:=(zi.trans yf) _ _ yE;refine⟨_,rfl,_,rfl,yk,rfl,⟨_,aj.of yw⟩,λc xC=>?_⟩;refine fe (xs:=ns.map V.str) (λm ys l I=>∃zr:ad V,l=[zr,ih (.str bs[i])]/\aw G I/\I c=bd ys/\fq I ys ((ns.take m).map λn=>(n,bs[i]))) ⟨none,rfl,dt xC,af,.nil⟩ (λm ys l I ⟨_,_,z1,z2,_⟩=>⟨z2,aj.of (z1 _ _ yw)⟩) ?_ ?_
   ·rintro m y ys l I d ⟨zr,rfl,zd,yo,zc⟩
    obtain⟨xH,rfl⟩:=jz d;refine⟨_,rfl,_,rfl,bQ,λt xt O _ zf=>?_⟩;have zx:=O _ _ yo;have up:∀b xs,xt b=a2 xs->upd xt c (.lst (ys++[V.ref t])) b=a2 xs:=λb xs e=>by rw[ag (aq e zx)];exact e
    have yl:=cK zc;rw[aB,cH]at yl;refine⟨zx,by rw[aV];omega,cw_next (bZ.mp d).1 ⟨_,rfl,λb o e=>by rw[ag (ax e xC)];exact O _ _ (zd _ _ e),af,?_⟩⟩
    rw[ij xH,a8];exact gL ((zc.same O).keep up) ⟨t,rfl,up _ _ zf⟩
   ·rintro ys l I ⟨zr,rfl,zd,yo,zc⟩
    rw[aB,cz]at zc;have lv:=cK av;have xO:=xm i;have yL:=cK zc;rw[aB]at yL;refine⟨lf,c,vs,ys,rfl,rfl,zd _ _ D,yo,by rw[aV];omega,λr zo=>?_⟩
    refine⟨r,vs++ys,_,rfl,yf.trans (zd.trans (dt zo)),af,?_⟩;rw[ij zG];show fq _ _ ((bs.take i++[bs[i]]).flatMap _);rw[oW];refine((av.same zd).same (dt zo)).append ?_;rw[FX,List.flatMap_nil,eU];exact zc.same (dt zo)
  rintro σ G ⟨lf,vs,xa,rfl,yf,D,av⟩;rw[aB,cz]at av;have xy:=xm bs.length;rw[cz]at xy;have yy:(gQ ns bs).Nodup:=AG zE cy;have zg:∀a,a∈gQ ns bs ↔ lg W ns a:=λa=>by rw[Af,zl,<-zB];rfl
  have yt:aw H G:=zi.trans yf;clear xm ze xx xo yn yx yr zk zi yf cy zl xw;generalize gQ ns bs=all at av xy yy zg;refine b5 C λU C=>?_;intro l xr;intro dk xe;have yC:=yt.trans (dt (o:=.dT []) xe);have xp:KI H W all dk [] [] (upd G dk (.dT [])):=⟨yC,af,.nil,λp zt=>(by cases zt),e4,λp zt=>(by cases zt)⟩
  have xh:=dt (o:=.dT []) xe _ _ D;have xj:=av.same (dt (o:=.dT []) xe);have yp:H dk=none:=yt.free xe;generalize upd G dk (.dT [])=yO at xp xh xj⊢;clear yC D av yt xe;refine b5 C λU C=>?_;intro l xr;refine⟨_,rfl,lf,vs,rfl,.inl (aj.of xh),_,rfl,?_⟩;have lv:=cK xj;have zy:=within (W:=W) (ns:=ns) (by rw[eB];exact za) (by rw[eB];exact yK)
  refine⟨by omega,by omega,kj (λi σ I=>∃(lf:EZ) (vs:ac V) (left:ac Ask) (kk:ac (List Key×V)) (ka:ac (Ask×Rs)) (xa xb xu yb ya:ad V),σ=[am xk,am db,am ow,am yk,am lf,xa,am dk,xb,xu,yb,ya]/\KI H W all dk kk ka I/\I lf=bd vs/\fq I vs left/\left.Nodup/\(∀a∈left,a∈all)/\left.length+i<=all.length/\(∀a∈all,a∈left\/a∈ka.map (·.1)) /\∀a∈left,a ∉ ka.map (·.1))
   ⟨lf,vs,all,[],[],_,none,none,none,none,rfl,xp,xh,xj,yy,λa za=>za,aP _,λa za=>.inl za,λa _ h=>(by cases h)⟩ ?_ ?_⟩
  ·clear xp xh xj lv
   rintro i σ I hi ⟨lf,vs,left,kk,ka,xa,xb,xu,yb,ya,rfl,g,D,av,yh,zh,ym,yj,fresh⟩;refine iO ?_;intro l xL;have lv:=cK av;refine f7 λU C=>?_;intro l zL;refine⟨bB _,λJ xt O xz M=>?_⟩;have zj:=g.same O;have xi:=O _ _ D;have zp:=av.same O;have yz:dk≠J:=aq zj.hd M
   have yH:lf≠J:=ax D xz;have zH:H J=none:=g.S.free xz;refine b5 C λU C=>?_;intro l zL;refine⟨_,rfl,lf,rfl,⟨_,aj.of xi⟩,h8 (xs:=vs) (λj σ R=>∃(L:ac V) (rest:ac Ask) (N:ac (List Key×V)) (u:ac (Ask×Rs)) (xb yb ya:ad V),σ=[am xk,am db,am ow,am yk,am lf,xa,am dk,xb,am J,yb,ya]/\KI H W all dk N u R/\R lf=bd vs/\fq R vs left/\R J=bd L/\fq R L rest/\rest.Sublist (left.take j)/\(∀a∈left.take j,a∈rest\/a∈u.map (·.1))/\(∀a∈rest,a ∉ u.map (·.1))/\(∀a∈left.drop j,a ∉ u.map (·.1))/\(∀a∈ka.map (·.1),a∈u.map (·.1))/\(rest.length=j->u=ka /\∀a∈left.take j,W.cg (λb=>ka.lookup b) a=none))
    ⟨[],[],kk,ka,_,_,_,rfl,zj,xi,zp,M,.nil,.refl _,λa h=>(by cases h),λa h=>(by cases h),λa h=>fresh a h,λa h=>h,λ_=>⟨rfl,λa h=>(by cases h)⟩⟩ (λj σ R _ ab=>by obtain⟨_,_,_,_,_,_,_,_,_,z,_⟩:=ab;exact aj.of z) ?_ ?_⟩
   ·clear zj xi zp M g D av O
    rintro j x σ R xf ⟨L,rest,N,u,xb,yb,ya,rfl,g,D,av,M,ye,sub,xc,yg,xl,yi,same⟩;refine iO ?_;intro l xM;obtain⟨a,zm,t,rfl,zf⟩:=L2.Paired.get av xf;have zz:j<left.length:=(bZ.mp zm).1;have xA:left[j]=a:=(bZ.mp zm).2;have zC:a∈left:=eK zm;have xg:=(zg a).mp (zh a zC);have yc:left.take (j+1)=left.take j++[a]:=by rw[ij zz,xA]
    have xq:left.drop j=a::left.drop (j+1):=by rw[lr zz,xA]
    have yu:a ∉ u.map (·.1):=xl a (by rw[xq];exact aW)
    have zv:∀y∈left.drop (j+1),y ∉ u.map (·.1):=λy d=>xl y (by rw[xq];exact ba _ d)
    have yM:=sub.length_le;rw[cH]at yM;have yA:=cK ye;refine f7 λU C=>?_;intro l zO;refine⟨_,rfl,_,rfl,_,rfl,_,rfl,_,rfl,mx.mk rfl (g.S _ _ zw) (g.S _ _ zD) (dv.same g.S) ok (g.S _ _ xE) g.hd g.kt zf (by rw[<-zB];exact xg.2) λv T zb rs=>?_⟩
    rw[zq]at rs;have Z:=g.same zb;have xn:=zb _ _ D;have yd:=zb _ _ M;have zA:=av.same zb;have xB:=ye.same zb;refine gi C ?_;intro l;cases es:W.cg (λb=>u.lookup b) a with
    |none =>
     rw[es]at rs;have rs:v=V.aK:=rs;subst rs;refine⟨_,rfl,rfl,_,rfl,?_⟩;refine⟨_,rfl,.inl ⟨rfl,_,aj.of yd⟩,_,rfl,J,L,_,rfl,rfl,yd,by rw[aV];omega,?_⟩
     have up:∀b o,b≠J->T b=ih o->upd T J (.lst (L++[V.ref t])) b=ih o:=λb o n e=>by rw[ag n];exact e
     have xd:∀b xs,T b=a2 xs->upd T J (.lst (L++[V.ref t])) b=a2 xs:=λb xs e=>up _ _ (aq e yd) e
     refine⟨L++[V.ref t],rest++[a],N,u,_,_,_,rfl,Z.wr up yz zH yd,up _ _ yH xn,zA.keep xd,af,gL (xB.keep xd) ⟨t,rfl,xd _ _ (zb _ _ zf)⟩,by rw[yc];exact sub.append (abU _),λy d=>?_,λy d=>?_,zv,yi,λzu=>?_⟩
     ·rw[yc]at d
      rcases bI.mp d with z|z
      ·exact(xc y z).imp (λz=>fA _ z) id
      ·exact .inl (c4 _ z)
     ·rcases bI.mp d with z|z
      ·exact yg y z
      ·rw[bL.mp z];exact yu
     ·obtain⟨e1,e2⟩:=same (by rw[bV]at zu;simpa using zu)
      refine⟨e1,λy d=>?_⟩;rw[yc]at d;rcases bI.mp d with z|z
      ·exact e2 y z
      ·rw[bL.mp z,<-e1];exact es
    |some r =>
     rw[es]at rs;obtain⟨xD,rfl,xI⟩:=rs;refine⟨_,rfl,rfl,_,rfl,?_⟩;have yI:T t=a2 ((bX a).map kV):=zb _ _ zf;have a3:=Z.a3;refine⟨_,rfl,_,rfl,_,rfl,dk,_,rfl,eR.t (k:=bX a) Z.hd yI (by rw[aV];omega),?_⟩
     have zI:a' N (bX a)=none:=by
      rcases Z.kt.val a with⟨e1,_⟩|⟨_,_,_,e2,_⟩
      ·exact e1
      ·exact absurd (a4.mpr ⟨_,lookup_mem e2,rfl⟩) yu
     rw[iN _ zI];have xJ:W.Out a r:=Ad (λb zM e=>Z.ok (b,zM) (lookup_mem e)) es;have up:∀b o,b≠dk->T b=ih o->upd T dk (.dT (N++[(bX a,.ref xD)])) b=ih o:=λb o n e=>by rw[ag n];exact e
     have xd:∀b xs,T b=a2 xs->upd T dk (.dT (N++[(bX a,.ref xD)])) b=a2 xs:=λb xs e=>up _ _ (aq e Z.hd) e
     refine⟨L,rest,_,u++[(a,r)],_,_,_,rfl,Z.put yp yu (zh a zC) xJ xI,up _ _ (aq xn Z.hd) xn,zA.keep xd,up _ _ (aS yz) yd,xB.keep xd,by rw[yc];exact sub.trans (List.sublist_append_left _ _),λy d=>?_,λy d=>?_,λy d=>?_,λy d=>by rw[a8];exact fA _ (yi y d),λzu=>?_⟩
     ·rw[a8]
      rw[yc]at d;rcases bI.mp d with z|z
      ·exact(xc y z).imp id (λz=>fA _ z)
      ·exact .inr (c4 _ (by rw[bL.mp z];exact aW))
     ·rw[a8]
      intro z;rcases bI.mp z with z|z
      ·exact yg y d z
      ·have xv:y=a:=bL.mp z
       have:a∈left.take j:=sub.subset (xv ▸ d);have yq:(left.take j++[a]).Nodup:=by rw[<-yc];exact yh.sublist (ji _ _)
       exact(di.mp yq).2.2 _ this _ aW rfl
     ·rw[a8]
      intro z;rcases bI.mp z with z|z
      ·exact zv y d z
      ·have xv:y=a:=bL.mp z
       have yq:(a::left.drop (j+1)).Nodup:=by rw[<-xq];exact yh.sublist (VC _ _)
       exact(d4.mp yq).1 (xv ▸ d)
     ·omega
   ·clear zj xi zp M g D av O
    rintro σ R ⟨L,rest,N,u,xb,yb,ya,rfl,g,D,av,M,ye,sub,xc,yg,xl,yi,same⟩;rw[lv]at same sub xc;rw[cz]at sub xc same;have yA:=cK ye;refine b5 C λU C=>?_;intro l xM;refine⟨_,rfl,J,L,rfl,.inl (aj.of M),_,rfl,lf,vs,rfl,.inl (aj.of D),rfl,_,rfl,?_⟩;refine bW (λe=>?_) (λe=>?_)
    ·have e:rest.length=left.length:=by
      have e:=dJ e;injection e with e;omega
     obtain⟨rfl,yD⟩:=same e;refine⟨_,rfl,q dk N u R g.S yp g.hd g.kt ⟨g.ok,λa xg yv=>?_,λa _=>zy a⟩⟩;rcases yj a ((zg a).mpr xg) with z|z
     ·exact yD a z
     ·exact absurd z (lookup_none.mp yv)
    ·have ne:rest.length≠left.length:=λz=>e (by rw[yA,lv,z];exact cb rfl)
     have xP:=sub.length_le;refine gi C ?_;intro l;refine⟨_,rfl,J,L,rest,N,u,_,_,_,_,_,rfl,g,M,ye,yh.sublist sub,λa za=>zh a (sub.subset za),by omega,λa yJ=>?_,yg⟩
     rcases yj a yJ with z|z
     ·exact xc a z
     ·exact .inr (yi a z)
  ·rintro σ I ⟨lf,vs,left,kk,ka,xa,xb,xu,yb,ya,rfl,g,D,av,yh,zh,ym,yj,fresh⟩
   have e0:left=[]:=lz (by rw[lv]at ym;have:YK ((all.length:Nat):Int)=all.length:=gr _;rw[this]at ym;omega)
   subst e0;refine gi C ?_;intro l;refine⟨_,rfl,q dk kk ka I g.S yp g.hd g.kt ⟨g.ok,λa xg yv=>?_,λa _=>zy a⟩⟩;rcases yj a ((zg a).mpr xg) with z|z
   ·cases z
   ·exact absurd z (lookup_none.mp yv)
theorem Mm(xs:ac V)(k:Nat):fw xs none (ih (k:Int))=xs.take k:=by
 unfold fw;have e1:HT.bo xs.length 0 none=0:=rfl;rw[e1,wu,Fo];have e2:HT.bo xs.length xs.length (ih (k:Int))=min k xs.length:=by
  unfold HT.bo;simp;omega
 rw[e2]
 by_cases h:k<=xs.length
 ·rw[aaL h]
 ·rw[aax (by omega),FT (aP _),FT (by omega)]
structure d3(H:Hp)(l:EZ)(ys:List Fv):Prop where
 hl:H l=ih (.lst (ys.map V.str))
 ne:ys ≠ []
 a3:ys.length<=20
 nm:∀y∈ys,Nm y
 nd:ys.Nodup
theorem d3.dY(h:d3 H l ys)(a:c9 p H)(b:br p H H'):d3 H' l ys:=⟨b.kp _ _ h.hl (fJ a h.hl),h.ne,h.a3,h.nm,h.nd⟩
theorem d3.same(h:d3 H l ys)(S:aw H H'):d3 H' l ys:=⟨S _ _ h.hl,h.ne,h.a3,h.nm,h.nd⟩
inductive my(vs:List V)(H:Hp)(Q:VK)(E:XK):Prop
 |mk{p lk:EZ}{m:Nat}{al:Bool}{ks:List Fv}(_:vs=[.ref p,.int m,.bl al,.ref lk])(_:c9 p H)(_:1<=m)(_:m<=20)(_:d3 H lk ks)(_:∀(l:EZ) (ys:List Fv) (H':Hp),br p H H'->d3 H' l ys->ys.length<=m->Q (.ref l) H'):my vs H Q E
abbrev rE:List Fv:=["_law_pot_here","_law_many","_law_alike","_law_kinds"]
abbrev QF:List Fv:=["_law_pot_here","_law_many","_law_alike","_law_kinds","_law_found"]
theorem Ei:bf QF rE (aI tO):=bz
theorem NL(F:aQ K "_law_called" "_law_called" tO f fd)(n:bF P w K mg base aG 3 fN dN ["_law_pot_here","_law_many"] iR "_law_names"):aT P w K mg base aG 4 f fd rE my:=by
 refine F.bG Ei λQa A outer s H vs Q E o h=>?_
 ·obtain @⟨p,lk,m,v,ks,rfl,d,x,g,a,q⟩:=h
  intro X;refine⟨_,au (aY 4 Ei.nd (a9 n o (aa (pv 0) (aa (pv 1) ah))))
   (au (bh (hE (pv 2)) (aA (aX (iK lY (pv 3) iQ (ia (pv 1))))) bD)
   (aA (aX (pv 4)))),?_⟩
  refine⟨_,rfl,_,rfl,iR.mk rfl d g λl ys Y B r i j b h1=>?_⟩;refine⟨_,rfl,_,rfl,?_⟩;refine bW (λe=>?_) (λe=>?_)
  ·have k:=a.dY d b
   refine⟨_,rfl,_,rfl,_,rfl,lk,_,rfl,aj.of k.hl,λc t=>?_⟩;rw[Mm,<-aaW];have kp:0<ks.length:=lC.mpr a.ne;have tl:(ks.take m).length=min m ks.length:=cH ..;refine q c (ks.take m) _ (b.new t) ⟨af,λz=>?_,by have:=a.a3;omega,λy u=>a.nm y (oT u),a.nd.sublist (ji _ _)⟩ (by omega)
   rw[z,jm]at tl;omega
  ·exact⟨_,rfl,q l ys Y b ⟨h1,λz=>by rw[z,jm]at r;omega,by omega,i,j⟩ (by omega)⟩
structure qv(own:Own):Prop where
 nd:(own.map (·.1)).Nodup
 nm:∀q∈own,Nm q.1
theorem Lm{own:Own}(h:qv own)(l:Nm n)(z:Int):∃f,c1 f=putK (c1 own) (n' n) (.int z)/\qv f/\f.length<=own.length+1:=by
 cases e:a' (c1 own) (n' n) with
 |none =>
  have j:n ∉ own.map (·.1):=λm=>by
   rw[nL,Vz,List.lookup_eq_none_iff]at e;obtain⟨q,d,rfl⟩:=a4.mp m;exact absurd (e q d) (by simp)
  refine⟨own++[(n,z)],?_,⟨?_,λq d=>?_⟩,by simp⟩
  ·rw[iN _ e];unfold c1 gb;rw[a8,a8];rfl
  ·rw[a8]
   exact di.mpr ⟨h.nd,by simp,λa o b g y=>j (by have g:b=n:=bL.mp g;rw[<-g,<-y];exact o)⟩
  ·rcases bI.mp d with z|z
   ·exact h.nm q z
   ·rw[bL.mp z];exact l
 |some v =>
  have i:(own.map λq=>if q.1=n then (q.1,z) else q).map (·.1)=own.map (·.1):=by
   rw[c5];exact mV λq _=>by show(if q.1=n then (q.1,z) else q).1=q.1;split <;> rfl
  refine⟨own.map λq=>if q.1=n then (q.1,z) else q,?_,⟨by rw[i];exact h.nd,λq d=>?_⟩,by simp⟩
  ·unfold putK
   rw[aE (by rw[jy,e];rfl)]
   unfold c1 gb;rw[c5,c5,c5,c5];refine mV λq _=>?_;show((n' (if q.1=n then (q.1,z) else q).1,V.int (if q.1=n then (q.1,z) else q).2):Key×V)=if (n' q.1:Key)=n' n then (n' q.1,V.int z) else (n' q.1,V.int q.2)
   by_cases c:q.1=n
   ·rw[aE c,aE (by rw[c])]
   ·rw[ao c,ao (λz=>c (gq z))]
  ·have:q.1∈own.map (·.1):=by rw[<-i];exact a4.mpr ⟨q,d,rfl⟩
   obtain⟨p,k,r⟩:=a4.mp this;rw[<-r];exact h.nm p k
def eZ(H:Hp)(td:EZ)(kvs:List (Key×V))(bN:List Th):Prop:=VM (λkv p=>kv.1=n' p.1 /\∃a b,kv.2=V.ref a/\a≠td/\b≠td/\H a=ih (.tup [.str p.2.1,.ref b])/\H b=ih (.dK (c1 p.2.2))) kvs bN
theorem eZ.keep{c:ac Th}(h:eZ H td kvs c)(k:∀b u,b≠td->(∀xs,u≠HO.lst xs)->H b=ih u->H' b=ih u):eZ H' td kvs c:=Paired.imp' (λ_ _ f=>by obtain⟨e1,a,b,e2,n1,d,e3,e⟩:=f;exact ⟨e1,a,b,e2,n1,d,k _ _ n1 (by intro xs z;cases z) e3,k _ _ d (by intro xs z;cases z) e⟩) h
theorem eZ.same{a:ac Th}(h:eZ H td kvs a)(S:aw H H'):eZ H' td kvs a:=h.keep λb u _ _ e=>S _ _ e
theorem eZ.dY{a:ac Th}(h:eZ H td kvs a)(c:c9 p H)(d:br p H H'):eZ H' td kvs a:=h.keep λb u _ f e=>d.kp _ _ e (by
 obtain⟨x,y,e0,_⟩:=c;intro z;rw[z,e0]at e;cases e;exact f _ rfl)
theorem eZ.keys{a:ac Th}(h:eZ H td kvs a):kvs.map (·.1)=(a.map (·.1)).map n':=by
 induction h with
 |nil=>rfl
 |cons e _ b=>rw[b2,b2,b2,b,e.1]
structure vh(ks:List Fv)(bN:List Th):Prop where
 nm:∀p∈bN,Nm p.1
 nd:(bN.map (·.1)).Nodup
 kd:∀p∈bN,p.2.1∈ks
 ow:∀p∈bN,qv p.2.2/\p.2.2.length<=22
inductive q'(vs:List V)(H:Hp)(Q:VK)(E:XK):Prop
 |mk{p lk ln:EZ}{al:Bool}{ks ns:List Fv}(_:vs=[.ref p,.bl al,.ref lk,.ref ln])(_:c9 p H)(_:d3 H lk ks)(_:d3 H ln ns)(_:∀(td:EZ) (kvs:List (Key×V)) (bN:List Th) (H':Hp),br p H H'->H td=none->H' td=ih (.dK kvs)->eZ H' td kvs bN->vh ks bN->bN ≠ []->bN.length<=5->Q (.ref td) H'):q' vs H Q E
abbrev vL:List Fv:=["_law_pot_here","_law_alike","_law_kinds","_law_names_here"]
abbrev QG:List Fv:=["_law_pot_here","_law_alike","_law_kinds","_law_names_here","_law_called_here","_law_things_here","_law_thing","_law_own","_law_kind","_law_name"]
theorem kY:bf QG vL (aI tQ):=bz
theorem NM{xC:EZ}{yC:X2}(F:aQ K "_law_things" "_law_things" tQ f fd)(B:df mg)(zC:bF P w K mg base aG 4 fC dC rE my "_law_called")(zh:bF P w K mg base aG 1 fD dD ["_law_pot_here","_law_many"] hC "_law_digit")
  (xD:bF P w K mg base aG 3 fN dN ["_law_pot_here","_law_many"] iR "_law_names") (yD:bF P w K mg base aG 2 xC yC ["_law_pot_here"] i0 "_law_number"):aT P w K mg base aG 5 f fd vL q':=by
 refine F.bG kY λQa A outer s H vs Q E I h=>?_
 ·obtain @⟨p,lk,zc,al,ks,ns,rfl,xd,yd,xi,q⟩:=h
  have xb:aZ 4 _:=I;have yw:aZ 3 _:=xb.mono (by decide)
  have zw:aZ 2 _:=xb.mono (by decide)
  have zf:aZ 1 _:=xb.mono (by decide)
  have zm:=eu I.units;intro X;refine⟨_,au (aY 4 kY.nd (a9 zC xb (aa (pv 0) (aa (bx eV ar (a9 zh zf (aa (pv 0) (aa ar ah)))) (aa (pv 1) (aa (pv 2) ah))))))
   (au (aY 5 kY.nd lS)
   (au (eG d5 rfl (c6 (pv 4)) (bb 6 kY.nd)
    (au (aY 7 kY.nd lS)
    (au (aY 8 kY.nd (aU dw (pv 2) (a9 zh zf (aa (pv 0) (aa (bT eM rfl B.len ez (aa (pv 2) ah)) ah)))))
    (au (eG d5 rfl (c6 (bx hG (pv 3) (a9 xD yw (aa (pv 0) (aa ar ah))))) (bb 9 kY.nd)
     (aA (bh (bp c7 (a9 zh zf (aa (pv 0) (aa ar ah))) ar (bA _)) (aA (gx zm (pv 7) (pv 9) (a9 yD zw (aa (pv 0) ah)) rfl)) bD)))
    (aA (gx zm (pv 5) (pv 6) (b7 (aa (pv 8) (aa (pv 7) ah))) rfl))))))
   (aA (aX (pv 5))))),?_⟩
  refine⟨_,rfl,_,rfl,cT (p:=p) (m:=5) xd (by decide) (by decide) λxJ Y zD yJ yi=>⟨_,_,rfl,rfl,_,rfl,_,rfl,?_⟩⟩
  obtain⟨j,rfl⟩:=gO zD;refine my.mk (m:=1+j) (al:=al) (by rw[FY];rfl) yi.ok (by omega) (by omega) (yd.dY xd yi) λzd a H2 p2 W yH=>?_
  have S:=yi.trans p2;have xx:=yd.dY xd S;have yx:=xi.dY xd S;intro td yb;have xm:=S.free yb;have zi:=S.new (o:=.dK []) yb;have xe:=aJ (o:=.dK []) yb;have zx:p≠td:=S.ok.ne yb;have xn:upd H2 td (.dK []) td=bn []:=af;have xg:=W.same xe;have yn:=xx.same xe;have zn:=yx.same xe;have xy:=zi.ok;generalize upd H2 td (.dK [])=zJ at zi xe xn xg yn zn xy⊢;refine⟨_,rfl,zd,rfl,⟨_,aj.of xg.hl⟩,h8 (xs:=a.map V.str) (λi σ d=>∃(kvs:ac (Key×V)) (G:ac Th) (xj yj zj J:ad V),σ=[am p,ih (.bl al),am lk,am zc,am zd,am td,xj,yj,zj,J]/\br p H d/\d3 d lk ks/\d3 d zc ns/\d3 d zd a/\d td=bn kvs/\eZ d td kvs G/\vh ks G/\G.map (·.1)=a.take i)
   ⟨[],[],none,none,none,none,rfl,zi,yn,zn,xg,xn,.nil,⟨λx C=>(by cases C),e4,λx C=>(by cases C),λx C=>(by cases C)⟩,rfl⟩ (λi σ d _ ab=>by obtain⟨_,_,_,_,_,_,_,_,_,_,z,_⟩:=ab;exact aj.of z.hl) ?_ ?_⟩
  ·rintro i x σ d C ⟨kvs,G,xj,yj,zj,J,rfl,g,xk,yk,yr,ye,Z,xa,D⟩
   obtain⟨xo,rfl⟩:=jz C;have yg:a.take (i+1)=a.take i++[a[i]]:=by rw[dH,bw xo];rfl
   have zv:a[i]∉ a.take i:=by
    have:(a.take (i+1)).Nodup:=W.nd.sublist (ji _ _);rw[yg]at this;exact λz=>(di.mp this).2.2 _ z _ aW rfl
   intro c ya;have yy:p≠c:=g.ok.ne ya;have zr:=aJ (o:=.dK []) ya;have za:br p d (upd d c (.dK [])):=(br.refl g.ok).new ya;have xt:upd d c (.dK []) c=bn []:=af;generalize upd d c (.dK [])=xK at zr za xt⊢;have yt:=xk.same zr;have kp:0<ks.length:=lC.mpr yd.ne;have yK:=yd.a3;refine⟨_,rfl,_,rfl,_,rfl,lk,_,rfl,.inl (aj.of yt.hl),?_⟩;rw[aB];refine cT (p:=p) (m:=(ks.length:Int)) za.ok (by omega) (by omega) λzK xL b0 b1 p6=>?_
   obtain⟨v,rfl⟩:=gO b0;have yo:v<ks.length:=by omega
   have xE:=yt.dY za.ok p6;have zk:=za.trans p6;refine⟨lk,_,(v:Int),V.str ks[v],rfl,rfl,aj.of xE.hl,cq (by rw[cI,bw yo];rfl),?_⟩
   have yE:=kz za.ok p6 xt;refine⟨_,rfl,_,rfl,iR.mk (m:=2) rfl zk.ok (by decide) λzE M zt zH yL zy xI p7 xF=>?_⟩
   have xu:=zk.trans p7;have yF:=(yk.dY g.ok xu);have xz:=kz zk.ok p7 yE;have zL:=xi.a3;refine⟨zc,zE,_,_,rfl,rfl,yF.hl,xF,by rw[aB,aB,aV];omega,λN zo=>?_⟩
   rw[<-a8];have ze:=xu.new (o:=.lst ((ns++M).map V.str)) zo;have zb:=aJ (o:=.lst ((ns++M).map V.str)) zo _ _ xz;have R:upd zt N (.lst ((ns++M).map V.str)) N=bd ((ns++M).map V.str):=af;have xp:∀y∈ns++M,Nm y:=λy xl=>by
    rcases bI.mp xl with z|z
    ·exact xi.nm y z
    ·exact zy y z
   have yz:(ns++M).length<=22:=by rw[bV];omega
   generalize ns++M=xc at ze zb R xp yz⊢;generalize upd zt N (.lst (xc.map V.str))=xM at ze zb R⊢;have yp:N≠p:=fJ ze.ok R;have zz:N≠c:=aq R zb
   refine⟨N,rfl,⟨_,aj.of R⟩,h8 (xs:=xc.map V.str) (λk σ L=>∃(own:Own) (J:ad V),σ=[am p,ih (.bl al),am lk,am zc,am zd,am td,ih (.str a[i]),am c,ih (.str ks[v]),J]/\br p d L/\L N=bd (xc.map V.str)/\L c=bn (c1 own)/\qv own/\own.length<=k)
    ⟨[],J,rfl,ze,R,zb,⟨e4,λq zF=>(by cases zF)⟩,aP _⟩ (λk σ L _ ab=>by obtain⟨_,_,_,_,z,_⟩:=ab;exact aj.of z) ?_ ?_⟩
   ·rintro k x σ L C ⟨own,J,rfl,O,yu,yl,xf,zp⟩
    obtain⟨xA,rfl⟩:=jz C;refine⟨_,rfl,cT (p:=p) (m:=3) O.ok (by decide) (by decide) λyM zg zM xN xh=>⟨rfl,_,rfl,?_⟩⟩
    have l:=O.trans xh;have xq:=xh.kp _ _ yu yp;have T:=kz O.ok xh yl;refine bW (λ_=>?_) (λ_=>?_)
    ·refine⟨_,rfl,i0.mk rfl l.ok λz yI _ yh=>?_⟩
     have yA:=l.trans yh;have zA:=yh.kp _ _ xq yp;have xB:=kz l.ok yh T;obtain⟨xw,xG,yG,zI⟩:=Lm xf (xp _ (eL xA)) z;refine⟨_,rfl,_,rfl,c,_,rfl,eR.k (k:=n' xc[k]) xB (by unfold c1 gb;rw[aB,aB,aV];omega),?_⟩
     exact⟨xw,_,rfl,yA.write ya yy,by rw[ag zz];exact zA,by rw[xG];exact af,yG,by omega⟩
    ·exact⟨own,_,rfl,l,xq,T,xf,by omega⟩
   ·rintro σ L ⟨own,J,rfl,O,yu,yl,xf,zp⟩
    rw[aB]at zp;have zu:=kz g.ok O ye;have zG:=Z.dY g.ok O;have yq:c≠td:=aS (ax ye ya);refine⟨_,rfl,_,rfl,bQ,λt zl=>?_⟩;have yc:=aJ (o:=.tup [V.str ks[v],.ref c]) zl;have ym:upd L t (.tup [V.str ks[v],.ref c]) t=a2 [V.str ks[v],.ref c]:=af;have l:=O.new (o:=.tup [V.str ks[v],.ref c]) zl;have U:=yc _ _ zu;have T:=yc _ _ yl;have zq:=zG.same yc;have xr:t≠td:=aS (ax zu zl);generalize upd L t (.tup [V.str ks[v],.ref c])=zg at yc ym l U T zq⊢;have yf:a' kvs (n' a[i])=none:=by
     have:(a' kvs (n' a[i])).isSome=false:=by
      rw[<-jy,vS];intro yf yB z;have xv:yf.1∈kvs.map (·.1):=a4.mpr ⟨yf,yB,rfl⟩;rw[Z.keys,D]at xv;obtain⟨y,xl,yv⟩:=a4.mp xv;rw[dJ z]at yv;exact zv (gq yv ▸ xl)
     simpa using this
    have zB:kvs.length=(a.take i).length:=by
     have:=c3 Y2 Z.keys;rw[D,aB,aB]at this;exact this
    rw[cH]at zB;refine⟨_,rfl,_,rfl,td,_,rfl,eR.k (k:=n' a[i]) U (by rw[aV];omega),?_⟩
    rw[iN _ yf];have xH:=(g.trans l).write (o:=.dK (kvs++[(n' a[i],.ref t)])) xm zx;have up:∀b u,b≠td->zg b=ih u->upd zg td (.dK (kvs++[(n' a[i],.ref t)])) b=ih u:=λb u n e=>by rw[ag n];exact e
    refine⟨_,G++[(a[i],ks[v],own)],_,_,_,_,rfl,xH,?_,?_,?_,af,?_,⟨λr I=>?_,?_,λr I=>?_,λr I=>?_⟩,?_⟩
    ·have z:=xk.dY g.ok l;exact⟨up _ _ (aq z.hl U) z.hl,z.ne,z.a3,z.nm,z.nd⟩
    ·have z:=yk.dY g.ok l;exact⟨up _ _ (aq z.hl U) z.hl,z.ne,z.a3,z.nm,z.nd⟩
    ·have z:=yr.dY g.ok l;exact⟨up _ _ (aq z.hl U) z.hl,z.ne,z.a3,z.nm,z.nd⟩
    ·exact gL (zq.keep λb u n _ e=>up _ _ n e) ⟨rfl,t,c,rfl,xr,yq,up _ _ xr ym,up _ _ yq T⟩
    ·rcases bI.mp I with z|z
     ·exact xa.nm r z
     ·rw[bL.mp z];exact W.nm _ (eL xo)
    ·rw[a8,D]
     show(a.take i++[a[i]]).Nodup;rw[<-yg];exact W.nd.sublist (ji _ _)
    ·rcases bI.mp I with z|z
     ·exact xa.kd r z
     ·rw[bL.mp z];exact eL yo
    ·rcases bI.mp I with z|z
     ·exact xa.ow r z
     ·rw[bL.mp z];exact⟨xf,by show own.length<=22;omega⟩
    ·rw[a8,D,yg];rfl
  ·rintro σ d ⟨kvs,G,xj,yj,zj,J,rfl,g,xk,yk,yr,ye,Z,xa,D⟩
   rw[aB,cz]at D;have yN:G.length=a.length:=by have:=c3 Y2 D;rwa [aB]at this
   exact⟨_,rfl,q td kvs G d g xm ye Z xa (λz=>by rw[z]at D;exact W.ne D.symm) (by omega)⟩
def oE(p q:Th):Prop:=q.1=p.1/\q.2.1=p.2.1/\q.2.2.Perm p.2.2
theorem gW.keyed{c:ac Th}(h:gW H vs c):∃kvs,ig H 1 vs kvs/\kvs.map (·.1)=(c.map (·.1)).map λx=>[x]:=by
 induction h with
 |nil=>exact⟨[],.nil,rfl⟩
 |@cons _ p _ _ h _ d =>
  obtain⟨a,b,us,e,q,_⟩:=h;obtain⟨kvs,h1,h2⟩:=d;exact⟨([p.1],[.str p.2.1,.ref b])::kvs,.cons ⟨a,e,q,rfl⟩ h1,by rw[b2,h2];rfl⟩
theorem ints_of{own:Own}{a:ac (Fv×V)}(p:a.Perm (own.map λq=>(q.1,V.int q.2))):∃b:Own,a=b.map (λq=>(q.1,V.int q.2))/\b.Perm own:=by
 have e:a=(a.map λq=>((q.1,match q.2 with|.int z=>z|_=>0):Fv×Int)).map λq=>(q.1,V.int q.2):=by
  rw[c5];refine((mV (g:=id) λq c=>?_).trans (wM _)).symm;obtain⟨x,_,rfl⟩:=a4.mp (p.mem_iff.mp c)
  rfl
 refine⟨_,e,?_⟩;have:=p.map λq=>((q.1,match q.2 with|.int z=>z|_=>0):Fv×Int);rw[c5]at this;refine this.trans (Z0 ((mV (g:=id) λq _=>rfl).trans (wM _)))
theorem IP{own:Own}(h:kH H vs (own.map λq=>(q.1,V.int q.2))):iu H vs own:=by
 induction own generalizing vs with
 |nil=>cases h;exact .nil
 |cons q own a=>cases h with|cons e r=>exact .cons e (a r)
theorem sM{b a:ac Th}(h:VM oE b a):a.map (·.1)=b.map (·.1):=by
 induction h with
 |nil=>rfl
 |cons e _ c=>rw[b2,b2,c,e.1]
theorem Ln{b a:ac Th}(h:VM oE b a){p:Th}(c:p∈b):∃q∈a,oE p q:=by
 induction h with
 |nil=>cases c
 |cons e _ d =>
  rcases bH.mp c with z|z
  ·exact⟨_,aW,z ▸ e⟩
  ·obtain⟨q,f,r⟩:=d z;exact⟨q,ba _ f,r⟩
theorem tY{kv:Key×V}:∀{kvs:ac (Key×V)}{i:Nat},(kvs.map (·.1)).Nodup->kvs[i]?=ih kv->a' kvs kv.1=ih kv.2
 |[],i,_,h=>by simp at h
 |p::kvs,0,_,h=>by cases h;exact fg rfl
 |p::kvs,i+1,a,h=>by
  rw[b2,d4]at a;rw[eN (λz=>a.1 (by rw[z];exact a4.mpr ⟨kv,eK (by simpa using h),rfl⟩))]
  exact tY a.2 (by simpa using h)
theorem eZ.nodup{a:ac Th}(h:eZ H td kvs a)(b:(a.map (·.1)).Nodup):(kvs.map (·.1)).Nodup:=by
 rw[h.keys,lA,mW];exact(lA.mp b).imp λh z=>h (gq z)
inductive ra(vs:List V)(H:Hp)(Q:VK)(E:XK):Prop
 |mk{t db td:EZ}{kvs:List (List Key×V)}{bM:Bk}{kt:List (Key×V)}{bN:List Th}{ks:List Fv}(_:vs=[.ref t,.ref db,.ref td])(_:H db=ih (.dT kvs))(_:cx H kvs bM)(_:gk bM)(_:H td=ih (.dK kt))(_:eZ H td kt bN)(_:vh ks bN)(_:bN.length<=5)
  (_:∀r tb tt wb wt bk rb H',aw H H'->iB H' r t tb tt wt rb->H' tb=ih (.tup wb)->cO H' wb bk->bk.Perm bM->(∀p∈bN,∃q∈rb,oE p q)->Q (.ref r) H'):ra vs H Q E
abbrev vM:List Fv:=["_law_family_here","_law_book_here","_law_things_here"]
abbrev EJ:List Fv:=["_law_family_here","_law_book_here","_law_things_here","_law_rows","_law_thing","_law_kind","_law_own","_law_triples"]
theorem mz:bf EJ vM (aI nS):=bz
abbrev QH:Vp:=e8 (bR (bE nS) 2)
theorem rf:b6 EJ (aI nS) ["_law_kind","_law_name","_law_entry_here"] [none,none,none] (cB QH):=c8
theorem NN(F:aQ K "_law_world" "_law_world" nS f fd)(B:df mg)(zk:hO mg):aT P w K mg base aG 1 f fd vM ra:=by
 refine F.bG mz λQa A outer s H vs Q E zf h=>?_
 ·obtain @⟨t,db,td,kvs,bM,j,T,ks,rfl,ye,dv,ok,U,tv,to,yM,q⟩:=h
  have yA:=eu zf.units;intro X;refine⟨_,au (aY 3 mz.nd (ej ah))
   (au (eG d5 rfl (Kz (pv 2)) (bb 4 mz.nd)
    (au (iT (d0 yA (pv 2) (pv 4)) (ib rfl (cZ (bb 5 mz.nd) (cZ (bb 6 mz.nd) gw))))
    (aA (eF (gc hg mX mY ju (pv 3) (aa (b7 (aa (pv 4) (aa (pv 5) (aa (dq iI rfl B.tuple boot_tuple (aa (Ga rfl rfl zk.sorted (pv 6)) ah)) ah)))) ah))))))
   (au (lK rfl rf mz.nd (i:=7) rfl rfl (IB (pv 1)) (λs H fp=>⟨pF (n:=2) K rfl rfl (cZ (pF (n:=2) K rfl rfl (cZ (bb 0 rf.nd) (cZ (bb 1 rf.nd) gw))) (cZ (bb 2 rf.nd) gw)),ei,b7 (aa (pv 0) (aa (pv 1) (aa (pv 2) ah)))⟩))
   (aA (aX (JA (KP (b7 (aa (pv 0) (aa (dq iI rfl B.tuple boot_tuple (aa (bT r8 rfl zk.sorted boot_sorted (aa (pv 7) ah)) ah)) (aa (dq iI rfl B.tuple boot_tuple (aa (bT r8 rfl zk.sorted boot_sorted (aa (pv 3) ah)) ah)) ah)))))))))),?_⟩
  refine⟨bB _,λl zi=>?_⟩;have xg:=aJ (o:=.lst []) zi;have ze:td≠l:=ax U zi;have xj:db≠td:=aq ye U
  have xo:upd H l (.lst []) l=bd []:=af;have xr:=tv.same xg;have yo:=xg _ _ U;generalize upd H l (.lst [])=Y at xg xo xr yo⊢;have yF:j.length=T.length:=cK tv;refine⟨_,rfl,td,j,rfl,.inl ⟨yo,λo=>?_⟩⟩;have xf:∀b u,b≠td->Y b=ih u->upd Y td (.bu o (.dK j)) b=ih u:=λb u n e=>by rw[ag n];exact e
  have xd:upd Y td (.bu o (.dK j)) td=ih (.bu o (.dK j)):=af;have yr:eZ (upd Y td (.bu o (.dK j))) td j T:=xr.keep λb u n _ e=>xf b u n e;have yd:=xf _ _ (aS ze) xo;generalize upd Y td (.bu o (.dK j))=H2 at xf xd yr yd⊢;refine Jk (o:=o) (λi σ d=>∃(J:ac V) (S:ac Th) (xl yl zl:ad V),σ=[am t,am db,am td,am l,xl,yl,zl,none]/\(∀b u,b≠l->H2 b=ih u->d b=ih u)/\d l=bd J/\gW d J S/\VM oE (T.take i) S)
   ⟨[],[],none,none,none,rfl,λb u _ e=>e,yd,.nil,.nil⟩ (λi σ d _ ab=>by obtain⟨_,_,_,_,_,_,z,_⟩:=ab;exact z _ _ ze xd) ?_ ?_
  ·rintro i v σ d ya ⟨J,S,xl,yl,zl,rfl,G,xa,yb,y⟩
   obtain⟨p,k,zb,a,b,zF,zM,xN,yw,L⟩:=L2.Paired.get yr ya;have pm:=eK k;have yj:T.take (i+1)=T.take i++[p]:=by rw[dH,k];rfl
   have zA:=G _ _ (aq yw yd) yw
   have xB:=G _ _ (aq L yd) L
   have zh:=G _ _ ze xd;have xm:=tY (tv.nodup to.nd) ya;rw[zF]at xm;rw[zb]at xm⊢;rw[show kV (n' p.1)=V.str p.1 from rfl];refine⟨_,rfl,_,rfl,td,.ref a,rfl,.inl ⟨j,n' p.1,.inr ⟨o,zh⟩,rfl,xm.symm⟩,?_⟩;refine⟨a,_,rfl,ay.of zA,rfl,_,_,rfl,_,_,rfl,rfl,?_⟩;refine⟨_,rfl,.inl ⟨rfl,_,aj.of xa⟩,_,rfl,_,rfl,_,rfl,b,_,rfl,xB,by rw[c5];exact(to.ow p pm).1.nd,by rw[aB];have:=(to.ow p pm).2;omega,λD ys zK xc zw xG yG pv zG yN=>?_⟩
   obtain⟨yz,rfl,xH⟩:=ints_of zG;refine⟨D,ys,rfl,.inl ⟨aj.of yG,λc Z=>⟨gY,λtt I=>?_⟩⟩⟩;have C:=xG.trans ((aJ (o:=.tup ys) Z).trans (aJ (o:=.tup [V.str p.1,.str p.2.1,.ref c]) I));have zr:=(aJ (o:=.tup ys) Z).trans (aJ (o:=.tup [V.str p.1,.str p.2.1,.ref c]) I);have zo:upd (upd xc c (.tup ys)) tt (.tup [V.str p.1,.str p.2.1,.ref c]) tt=a2 [V.str p.1,.str p.2.1,.ref c]:=af;have xt:upd (upd xc c (.tup ys)) tt (.tup [V.str p.1,.str p.2.1,.ref c]) c=a2 ys:=by rw[ag (ax af I)];exact af
   generalize upd (upd xc c (.tup ys)) tt (.tup [V.str p.1,.str p.2.1,.ref c])=g at C zr zo xt⊢;have xp:=C _ _ xa;have zN:J.length<=5:=by have h1:=cK yb;have h2:=cK y;rw[cH]at h2;omega
   refine⟨l,J,_,rfl,rfl,xp,by rw[aV];omega,?_⟩
   have up:∀{zs:ac V} b xs,g b=a2 xs->upd g l (.lst zs) b=a2 xs:=λb xs e=>by rw[ag (aq e xp)];exact e
   refine⟨_,S++[(p.1,p.2.1,yz)],_,_,_,rfl,λb u n e=>by rw[ag n];exact C _ _ (G b u n e),af,?_,?_⟩
   ·exact gL ((yb.same C).keep up) ⟨tt,c,ys,rfl,up _ _ zo,up _ _ xt,((IP pv).keep λb xs e=>zr _ _ e).keep up⟩
   ·rw[yj];exact gL y ⟨rfl,rfl,xH⟩
  ·rintro σ d ⟨J,S,xl,yl,zl,rfl,G,xa,yb,y⟩
   rw[yF,cz]at y;have xO:=cK yb;have yO:=cK y;have zj:∀b u,b≠td->H b=ih u->d b=ih u:=λb u n e=>G _ _ (ax e zi) (xf _ _ n (xg _ _ e));have zd:=zj _ _ xj ye;have zh:=G _ _ ze xd;have yB:cx d kvs bM:=dv.keep (λb xs e=>zj _ _ (aq e U) e) ok.ent
   have lk:=dv.length;have a3:=ok.a3;refine⟨_,rfl,db,kvs,rfl,zd,λM c Z=>?_⟩;have W:∀b u,b≠db->d b=ih u->upd d db (.bu M (.dT kvs)) b=ih u:=λb u n e=>by rw[ag n];exact e
   have xe:upd d db (.bu M (.dT kvs)) db=ih (.bu M (.dT kvs)):=af;have yt:cx (upd d db (.bu M (.dT kvs))) kvs bM:=yB.keep (λb xs e=>W _ _ (aq e zd) e) ok.ent
   have xx:gW (upd d db (.bu M (.dT kvs))) J S:=yb.keep λb xs e=>W _ _ (aq e zd) e
   have xi:=W _ _ (aS xj) zh;have yp:=W _ _ (aq xa zd) xa
   generalize upd d db (.bu M (.dT kvs))=xc at W xe yt xx xi yp Z⊢;refine G0 (λi ys yg g=>∃ym zm xn:ad V,yg=[ym,zm,xn]/\g c=bd ys/\aw xc g/\cO g ys (bM.take i)) ⟨none,none,none,rfl,af,aJ Z,.nil⟩ (λi ys yg g ab=>by obtain⟨_,_,_,_,z1,z2,_⟩:=ab;exact ⟨z1,z2 _ _ xe⟩) ?_ ?_
   ·rintro i v tp b ys yg g ya zB L ⟨ym,zm,xn,rfl,yn,C,N⟩
    have xC:i<kvs.length:=(bZ.mp ya).1;obtain⟨p,k,zb,yH⟩:=L2.Paired.get (yt.same C) ya;have pm:=eK k;have yj:bM.take (i+1)=bM.take i++[p]:=by rw[dH,k];rfl
    replace L:g b=a2 [V.str p.1,V.str p.2.1]:=by rw[zb]at L;exact L
    have zg:=aJ (o:=.tup [V.ref b,v.2]) zB;have zp:upd g tp (.tup [V.ref b,v.2]) tp=a2 [V.ref b,v.2]:=af;have zt:=zg _ _ L;have xu:=yH.same zg;generalize upd g tp (.tup [V.ref b,v.2])=yx at zg zp zt xu⊢;refine⟨tp,_,rfl,ay.of zp,rfl,_,_,rfl,b,_,rfl,ay.of zt,rfl,_,_,rfl,_,_,rfl,rfl,_,_,rfl,rfl,?_⟩;refine⟨_,rfl,_,rfl,_,rfl,gY,λtt I=>?_⟩;have O:=aJ (o:=.tup [V.str p.1,V.str p.2.1,v.2]) I;have xq:upd yx tt (.tup [V.str p.1,V.str p.2.1,v.2]) tt=a2 [V.str p.1,V.str p.2.1,v.2]:=af;have yu:=xu.same O;generalize upd yx tt (.tup [V.str p.1,V.str p.2.1,v.2])=R at O xq yu⊢;have xk:=zg.trans O;have zu:=xk _ _ yn;have up:∀{zs:ac V} b xs,R b=a2 xs->upd R c (.lst zs) b=a2 xs:=λb xs e=>by rw[ag (aq e zu)];exact e
    refine⟨zu,?_,cw_next xC ⟨_,_,_,rfl,af,λx u zx=>by rw[ag (ax zx Z)];exact xk _ _ (C x u zx),?_⟩⟩
    ·have:=N.length
     rw[cH]at this;rw[aV];omega
    ·rw[yj]
     exact cO.append (up _ _ xq) ((ok.ent p pm).keep yu up) (cO.keep up (cO.same xk N) λq zH=>ok.ent q (oT zH))
   ·rintro ys yg g ⟨ym,zm,xn,rfl,yn,C,N⟩
    rw[lk,cz]at N;obtain⟨yC,xI,zb⟩:=N.keyed;have zO:=N.length;refine⟨_,rfl,_,rfl,c,_,yC,2,rfl,.inl (aj.of yn),xI,by decide,by rw[zb];exact ok.nd,by omega,λD m xL zw xz xP yL zL=>?_⟩
    obtain⟨zC,xv,yI⟩:=cO.perm xz N;have zI:=aJ (o:=.lst m) zw;refine⟨D,m,rfl,.inl ⟨aj.of af,λtb xD=>?_⟩⟩;have O:=zI.trans (aJ (o:=.tup m) xD);have yq:upd (upd g D (.lst m)) tb (.tup m) tb=a2 m:=af;have xy:=cO.same O yI;generalize upd (upd g D (.lst m)) tb (.tup m)=R at O yq xy⊢;have yk:=C.trans O;have yy:=xx.same yk;obtain⟨yv,xJ,yD⟩:=yy.keyed;have zD:(yv.map (·.1)).Nodup:=by
     rw[yD,sM y,lA,mW];exact(lA.mp to.nd).imp λh z=>h (FJ z).1
    refine⟨_,rfl,l,_,yv,1,rfl,.inl (aj.of (yk _ _ yp)),xJ,aP _,zD,by omega,λxh wt xM xE zy _ _ _=>?_⟩
    obtain⟨yi,yf,zn⟩:=sb zy yy;have zn:gW R wt yi:=zn;have yE:=aJ (o:=.lst wt) xE;refine⟨xh,wt,rfl,.inl ⟨aj.of af,λtt I=>⟨gY,λr zf=>?_⟩⟩⟩;have za:=yE.trans ((aJ (o:=.tup wt) I).trans (aJ (o:=.tup [V.ref t,.ref tb,.ref tt]) zf));have zq:upd (upd (upd R xh (.lst wt)) tt (.tup wt)) r (.tup [V.ref t,.ref tb,.ref tt]) tt=a2 wt:=by rw[ag (ax af zf)];exact af
    have zv:upd (upd (upd R xh (.lst wt)) tt (.tup wt)) r (.tup [V.ref t,.ref tb,.ref tt]) r=a2 [V.ref t,.ref tb,.ref tt]:=af;generalize upd (upd (upd R xh (.lst wt)) tt (.tup wt)) r (.tup [V.ref t,.ref tb,.ref tt])=yh at za zq zv⊢;have xb:=yk.trans za;refine⟨db,M,kvs,xb _ _ xe,(λo u z=>by cases ye.symm.trans z),td,o,j,?_,(λo u z=>by cases U.symm.trans z),?_⟩
    ·rw[ag (aS xj)];exact xb _ _ xi
    ·have xw:∀b u,b≠db->b≠td->yh b=ih u->upd (upd yh db (.dT kvs)) td (.dK j) b=ih u:=λb u n1 yc e=>by rw[ag yc,ag n1];exact e
     have zz:=xb _ _ xe;have xA:=xb _ _ xi;have zc:∀b xs,yh b=a2 xs->upd (upd yh db (.dT kvs)) td (.dK j) b=a2 xs:=λb xs e=>xw _ _ (aq e zz) (aq e xA) e
     have zE:∀p∈yi,Nm p.1:=λp k=>by
      have yJ:p.1∈T.map (·.1):=by rw[<-sM y];exact a4.mpr ⟨p,yf.mem_iff.mp k,rfl⟩
      obtain⟨zJ,h0,e0⟩:=a4.mp yJ;rw[<-e0];exact to.nm zJ h0
     refine q r tb tt m wt zC yi _ (λb u e=>?_) ⟨zc _ _ zv,zc _ _ zq,(zn.keep λb xs e=>za _ _ e).keep zc,by rw[yf.length_eq];omega,zE,by rw[(yf.map (·.1)).nodup_iff,sM y];exact to.nd⟩ (zc _ _ (za _ _ yq)) (cO.keep zc (cO.same za xy) λp k=>ok.ent p (xv.mem_iff.mp k)) xv (λp k=>?_)
     ·by_cases n1:b=td
      ·subst n1;rw[U]at e;cases e;exact af
      ·by_cases yc:b=db
       ·subst yc;rw[ye]at e;cases e;rw[ag n1];exact af
       ·exact xw _ _ yc n1 (xb _ _ (W _ _ yc (zj _ _ n1 e)))
     ·obtain⟨xK,xF,yK⟩:=Ln y k
      exact⟨xK,yf.mem_iff.mpr xF,yK⟩
structure BI(H:Hp)(db:EZ)(kvs:List (List Key×V))(bk:Bk)(ks ns:List Fv)(i j:Nat):Prop where
 hd:H db=ih (.dT kvs)
 dv:cx H kvs bk
 ent:∀p∈bk,Ent p.2.2
 ask:∀p∈bk,∀s∈cc p.2.2,a7 s = "ask" -> dX s∈ns
 nd:(bk.map c0).Nodup
 ee:∀p∈bk,(p.1∈ks.take i/\p.2.1∈ns)\/(ih p.1=ks[i]? /\ p.2.1∈ns.take j)
 a3:bk.length<=i * ns.length+j
theorem BI.keep{kvs:ac (List Key×V)}{bk:Bk}(h:BI H db kvs bk ks ns i j)(k:∀b o,(∃xs,o=HO.tup xs)\/b=db->H b=ih o->H' b=ih o):BI H' db kvs bk ks ns i j:=⟨k _ _ (.inr rfl) h.hd,h.dv.keep (λb xs e=>k _ _ (.inl ⟨_,rfl⟩) e) h.ent,h.ent,h.ask,h.nd,h.ee,h.a3⟩
inductive rg(vs:List V)(H:Hp)(Q:VK)(E:XK):Prop
 |mk{p lk ln:EZ}{ks ns:List Fv}(_:vs=[.ref p,.ref lk,.ref ln])(_:c9 p H)(_:d3 H lk ks)(_:d3 H ln ns)(_:ks.length<=8)(_:ns.length<=6)
  (_:∀db kvs bk H',br p H H'->H db=none->H' db=ih (.dT kvs)->cx H' kvs bk->gk bk->(∀q∈bk,∀s∈cc q.2.2,a7 s = "ask" -> dX s∈ns)->(∀q∈bk,q.1∈ks/\q.2.1∈ns)->Q (.ref db) H'):rg vs H Q E
abbrev vN:List Fv:=["_law_pot_here","_law_kinds","_law_names_here"]
abbrev QI:List Fv:=["_law_pot_here","_law_kinds","_law_names_here","_law_book_here","_law_kind","_law_at"]
theorem rh:bf QI vN (aI uB):=bz
theorem NO(F:aQ K "_law_book" "_law_book" uB f fd)(B:df mg)(xm:bF P w K mg base aG 1 fD dD ["_law_pot_here","_law_many"] hC "_law_digit")(ym:bF P w K mg base aG 4 fE dE ["_law_pot_here","_law_names_here","_law_at"] qp "_law_entry"):aT P w K mg base aG 5 f fd vN rg:=by
 refine F.bG rh λQa A outer s H vs Q E zg h=>?_
 ·obtain @⟨p,lk,N,ks,ns,rfl,xh,zb,O,zm,xn,q⟩:=h
  have ze:aZ 4 _:=zg;have xj:aZ 1 _:=ze.mono (by decide)
  have yj:=eu zg.units;intro X;refine⟨_,au (aY 3 rh.nd pw)
   (au (eG d5 rfl (c6 (pv 1)) (bb 4 rh.nd)
    (aA (eG d5 rfl (h6 rfl B.range (aa (bT eM rfl B.len ez (aa (pv 2) ah)) ah)) (bb 5 rh.nd)
     (aA (bh (bp Dh (a9 xm xj (aa (pv 0) (aa ar ah))) ar (bA _)) (aA (gx yj (pv 3) (fk (aa (pv 4) (aa (aU dw (pv 2) (pv 5)) ah))) (a9 ym ze (aa (pv 0) (aa (pv 2) (aa (pv 5) ah)))) rfl)) bD)))))
   (aA (aX (pv 3)))),?_⟩
  refine f7 λU xc=>?_;intro Z yn;intro db L;have xf:p≠db:=xh.ne L;have yc:=(br.refl xh).new (o:=.dT []) L;have T:=zb.same (dt (o:=.dT []) L);have za:=O.same (dt (o:=.dT []) L);have h0:upd H db (.dT []) db=ce []:=af;generalize upd H db (.dT [])=H0 at yc T za h0⊢;refine b5 xc λU xc=>?_;intro Z yn;refine⟨_,rfl,lk,rfl,⟨_,aj.of T.hl⟩,h8 (xs:=ks.map V.str) (λi σ G=>∃(kvs:ac (List Key×V)) (bk:Bk) (zc I:ad V),σ=[am p,am lk,am N,am db,zc,I]/\br p H G/\d3 G lk ks/\d3 G N ns/\BI G db kvs bk ks ns i 0)
   ⟨[],[],none,none,rfl,yc,T,za,⟨h0,.nil,λx c=>(by cases c),λx c=>(by cases c),e4,λx c=>(by cases c),bB _⟩⟩ (λi σ G _ ab=>by obtain⟨_,_,_,_,_,_,z,_⟩:=ab;exact aj.of z.hl) ?_ ?_⟩
  ·clear yc T za h0
   rintro i x σ G c ⟨kvs,bk,zc,I,rfl,PG,J,D,a⟩;refine iO ?_;intro Z zr;obtain⟨W,rfl⟩:=jz c;have zi:ks[i]∉ ks.take i:=by
    have:(ks.take (i+1)).Nodup:=zb.nd.sublist (ji _ _);rw[ij W]at this;exact λz=>(di.mp this).2.2 _ z _ aW rfl
   refine⟨_,rfl,N,_,rfl,.inl (aj.of D.hl),_,rfl,by omega,by rw[aB];omega,kj (λj σ G=>∃(kvs:ac (List Key×V)) (bk:Bk) (I:ad V),σ=[am p,am lk,am N,am db,ih (.str ks[i]),I]/\br p H G/\d3 G lk ks/\d3 G N ns/\BI G db kvs bk ks ns i j)
    ⟨kvs,bk,I,rfl,PG,J,D,a⟩ ?_ ?_⟩
   ·clear a J D PG
    rintro j σ G xd ⟨kvs,bk,I,rfl,PG,J,D,a⟩;refine iO ?_;intro Z xt;have zn:(0:Int)+(j:Int)=(j:Int):=by omega
    rw[zn];have Y:j<ns.length:=by rw[aB]at xd;have:YK ((ns.length:Nat):Int)=ns.length:=gr _;rw[this]at xd;exact xd
    have zj:ns[j]∉ ns.take j:=by
     have:(ns.take (j+1)).Nodup:=O.nd.sublist (ji _ _);rw[ij Y]at this;exact λz=>(di.mp this).2.2 _ z _ aW rfl
    have yr:i * ns.length+j<48:=by
     have h1:(i+1) * ns.length<=8 * ns.length:=Nat.mul_le_mul_right _ (by omega)
     rw[rY]at h1;omega
    have xe:∀{G yh:Hp}{kvs:ac (List Key×V)}{bk:Bk}{j:Nat},c9 p G->br p G yh->BI G db kvs bk ks ns i j->BI yh db kvs bk ks ns i j:=λxk xo m=>m.keep λb o yo e=>xo.kp _ _ e (by
     rcases yo with⟨xs,rfl⟩|rfl
     ·obtain⟨x,y,e0,_⟩:=xk;exact aq e e0
     ·exact aS xf)
    refine⟨_,rfl,cT (p:=p) (m:=5) PG.ok (by decide) (by decide) λyt zt e0 e1 xa=>⟨_,_,rfl,rfl,_,rfl,?_⟩⟩
    have b1:=xe PG.ok xa a;have M:=PG.trans xa;have yf:=J.dY PG.ok xa;have xb:=D.dY PG.ok xa;have ye:∀q∈bk,(q.1∈ks.take i/\q.2.1∈ns)\/(ih q.1=ks[i]? /\ q.2.1∈ns.take (j+1)):=λq zo=>by
     rcases b1.ee q zo with z|⟨r,C⟩
     ·exact .inl z
     ·exact .inr ⟨r,by rw[ij Y];exact fA _ C⟩
    refine bW (λ_=>?_) (λ_=>⟨_,_,_,rfl,M,yf,xb,⟨b1.hd,b1.dv,b1.ent,b1.ask,b1.nd,ye,by have:=b1.a3;omega⟩⟩)
    refine⟨_,rfl,_,rfl,_,rfl,qp.mk (k:=j) rfl M.ok xb.hl O.ne (by omega) O.nm λv d xu ya xp zh yp=>?_⟩
    have zp:=xe M.ok ya b1;have zf:=M.trans ya;have yk:=yf.dY M.ok ya;have xg:=xb.dY M.ok ya;refine⟨_,rfl,_,rfl,_,rfl,_,rfl,N,_,(j:Int),.str ns[j],rfl,rfl,aj.of xg.hl,cq (by rw[cI,bw Y];rfl),bQ,λxq R S _ zk=>?_⟩
    have xl:R xq=a2 (([n' ks[i],n' ns[j]]:ac Key).map kV):=zk;have g:=zp.keep λb o _ e=>S _ _ e;have a3:=g.a3;have lk:=g.dv.length;have yg : [ks[i],ns[j]]∉ bk.map c0:=λyq=>by
     obtain⟨yd,yl,e⟩:=a4.mp yq;have e1:yd.1=ks[i]:=by injection e
     have e2:yd.2.1=ns[j]:=by injection e with _ z;injection z
     rcases g.ee yd yl with⟨z,_⟩|⟨_,z⟩
     ·exact zi (e1 ▸ z)
     ·exact zj (e2 ▸ z)
    have zl:a' kvs [n' ks[i],n' ns[j]]=none:=by
     rcases g.dv.val (k:=ks[i]) (n:=ns[j]) with⟨z,_⟩|⟨yu,zu,_,C,_⟩
     ·exact z
     ·exact absurd (a4.mpr ⟨_,C,rfl⟩) yg
    refine⟨db,_,rfl,eR.t (k:=[n' ks[i],n' ns[j]]) g.hd xl (by rw[aV];omega),?_⟩
    rw[iN _ zl];have xi:∀{zs:ac (List Key×V)} b xs,R b=a2 xs->upd R db (.dT zs) b=a2 xs:=λb xs e=>by rw[ag (aq e g.hd)];exact e
    have yi:∀{zs:ac (List Key×V)}{l:EZ}{ys:ac Fv},d3 R l ys->d3 (upd R db (.dT zs)) l ys:=λh=>⟨by rw[ag (aq h.hl g.hd)];exact h.hl,h.ne,h.a3,h.nm,h.nd⟩
    refine⟨_,bk++[(ks[i],ns[j],d)],_,rfl,(zf.trans (pE zf.ok S)).write L xf,yi (yk.same S),yi (xg.same S),⟨af,cx.snoc (zh.keep (xp.same S) xi) (g.dv.keep xi g.ent),λx c=>?_,λx c=>?_,?_,λx c=>?_,by rw[bV,jl];omega⟩⟩
    ·rcases bI.mp c with z|z
     ·exact g.ent x z
     ·rw[bL.mp z];exact zh
    ·rcases bI.mp c with z|z
     ·exact g.ask x z
     ·rw[bL.mp z];exact yp
    ·rw[a8]
     exact di.mpr ⟨g.nd,by simp,λu zq v zd y=>yg (by have zd:v=[ks[i],ns[j]]:=bL.mp zd;rw[<-zd,<-y];exact zq)⟩
    ·rcases bI.mp c with z|z
     ·exact ye x z
     ·rw[bL.mp z]
      exact .inr ⟨(bw W).symm,by rw[ij Y];exact c4 _ aW⟩
   ·clear a J D PG
    rintro σ G ⟨kvs,bk,I,rfl,PG,J,D,a⟩;have xr:YK (((ns.map V.str).length:Nat):Int)=ns.length:=by rw[aB];exact gr _
    rw[xr]at a;refine⟨kvs,bk,_,_,rfl,PG,J,D,⟨a.hd,a.dv,a.ent,a.ask,a.nd,λx c=>.inl ?_,by have:=a.a3;rw[rY];omega⟩⟩
    rw[ij W];rcases a.ee x c with⟨r,C⟩|⟨r,C⟩
    ·exact⟨fA _ r,C⟩
    ·rw[bw W]at r
     exact⟨c4 _ (by rw[cG r];exact aW),oT C⟩
  ·rintro σ G ⟨kvs,bk,zc,I,rfl,PG,J,D,a⟩
   rw[aB]at a;refine gi xc ?_;intro Z;have yb:∀x∈bk,x.1∈ks/\x.2.1∈ns:=λx c=>by
    rcases a.ee x c with⟨r,C⟩|⟨r,C⟩
    ·exact⟨oT r,C⟩
    ·rw[rR (aP _)]at r;cases r
   exact⟨_,rfl,q db kvs bk G PG L a.hd a.dv ⟨λx c=>⟨zb.nm _ (yb x c).1,O.nm _ (yb x c).2⟩,a.ent,a.nd,by have:=a.a3;have h1:ks.length * ns.length<=8 * 6:=wX zm xn;omega⟩ a.ask yb⟩
def hI(d:UC):List Fv:=((cc d).filter λs=>decide (a7 s = "ask")).map dX
def kZ(d:UC):Bool:=(cc d).any λs=>decide (a7 s = "onward")
def gz(W:aO)(n:Fv):Nat->Option (Fv×UC)->List Fv
 |0,_=>[]
 |_+1,none=>[]
 |k+1,ih (w,d)=>hI d++gz W n k (if kZ d=true then W.look (n,w) else none)
def iY(W:aO)(n:Fv):List Fv:=if (W.cQ (n,"")).isSome=true then [] else gz W n W.line.length (W.look (n,""))
def vi:UC:=.tuple [.str "onward"]
theorem Lo{s:UC}(h:ed s):X5 s vi=decide (a7 s = "onward"):=by
 cases h with
 |add n=>show Yz [.str "add",.int n] [.str "onward"]=decide (("add" : Fv) = "onward");rfl
 |times n=>show Yz [.str "times",.int n] [.str "onward"]=decide (("times" : Fv) = "onward");rfl
 |ask x=>show Yz [.str "ask",.str x] [.str "onward"]=decide (("ask" : Fv) = "onward");rfl
 |ma=>rfl
theorem AH{W:aO}:∀k,gz W n k none=[]
 |0=>rfl
 |_+1=>rfl
theorem any_congr{α:Type}{l:ac α}{p q:α->Bool}(h:∀x∈l,p x=q x):l.any p=l.any q:=by
 induction l with
 |nil=>rfl
 |cons x l a=>rw[jk,jk,h x aW,a λy b=>h y (ba _ b)]
theorem Ah{W:aO}{w:Fv}{k:Nat}{d:UC}:gz W n (k+1) (ih (w,d))=hI d++gz W n k (if kZ d=true then W.look (n,w) else none):=rfl
structure LB(H:Hp)(la db ow:EZ)(line:List Fv)(kvs:List (List Key×V))(bk:Bk)(own:Own):Prop where
 hl:H la=ih (.lst (line.map V.str))
 hd:H db=ih (.dT kvs)
 dv:cx H kvs bk
 ok:gk bk
 ho:H ow=ih (.dK (c1 own))
 l8:line.length<=8
theorem LB.same{a:EZ}{kvs:ac (List Key×V)}{bk:Bk}{own:Own}(h:LB H a db ow line kvs bk own)(S:aw H H'):LB H' a db ow line kvs bk own:=⟨S _ _ h.hl,S _ _ h.hd,h.dv.same S,h.ok,S _ _ h.ho,h.l8⟩
inductive ri(vs:List V)(H:Hp)(Q:VK)(E:XK):Prop
 |mk{la db ow:EZ}{line:List Fv}{kvs:List (List Key×V)}{bk:Bk}{own:Own}{name:Fv}(_:vs=[.ref la,.ref db,.ref ow,.str name])(_:LB H la db ow line kvs bk own)
  (_:∀r H',aw H H'->H' r=ih (.lst ((iY ⟨line,bk,own⟩ name).map V.str))->Q (.ref r) H'):ri vs H Q E
abbrev vO:List Fv:=["_law_line_here","_law_book_here","_law_own","_law_name"]
abbrev EK:List Fv:=["_law_line_here","_law_book_here","_law_own","_law_name","_law_spot_here","_law_found","_law_turn","_law_steps_here"]
theorem jS:bf EK vO (aI nU):=bz
abbrev QJ:Vp:=Ef (e8 (bR (uj (bR (l2 (bR (bE nU) 3)) 0)) 1))
theorem Ej:b6 EK (aI nU) ["_law_step_here"] [none] (cB QJ):=c8
theorem NP(F:aQ K "_law_leads" "_law_leads" nU f fd)(B:df mg)(xl:bF P w K mg base aG 1 fS dS rC jR "_law_spot")(xw:bF P w K mg base aG 1 fL dL ["_law_entry_here"] mw "_law_steps"):aT P w K mg base aG 2 f fd vO ri:=by
 refine F.bG jS λQa A outer s H vs Q E yl h=>?_
 ·obtain @⟨S,db,ow,line,kvs,bk,own,name,rfl,I,q⟩:=h
  have zb:aZ 1 _:=yl;have zl:=yl.units;have zp:=eu zl;intro X;refine⟨_,au (aY 4 jS.nd (a9 xl zb (aa (pv 0) (aa (pv 1) (aa (pv 3) (aa bq ah))))))
   (au (aY 5 jS.nd (jI ah))
   (au (bh (PW.pt (pw_and (fQ (iU zp (pv 3) (pv 2))) (pw_and1 (PW.pt (pw_or (bp gy (pv 4) dQ (bA _)) (pw_or1 (bp jt (aU bj (aU bj (pv 4) ar) ar) (jI (aa bq (aa bq ah))) rfl)))))))
    (aA (aX (pv 5))) bD)
   (au (eG d5 rfl (h6 rfl B.range (aa (bT eM rfl B.len ez (aa (pv 0) ah)) ah)) (bb 6 jS.nd)
    (aA (bh (fQ (tq (pv 4)))
     (au (aY 7 jS.nd (a9 xw zb (aa (aU bj (pv 4) ar) ah)))
     (au (aY 5 jS.nd (bx hG (pv 5) (dZ rfl Ej (c6 (pv 7)) (λs H fp=>⟨bb 0 Ej.nd,iL (bp c7 (aU (jx K rfl) (pv 0) ar) bq (bA _)),aU (jx K rfl) (pv 0) ar (λ_ _=>rfl)⟩))))
     (aA (bh (bp (C0 zl) (fk (aa bq ah)) (pv 7) rfl) (aA (aY 4 jS.nd (a9 xl zb (aa (pv 0) (aa (pv 1) (aa (pv 3) (aa (aU bj (pv 4) ar) ah)))))))
      (aA (aY 4 jS.nd dQ))))))
     bD)))
   (aA (aX (pv 5)))))),?_⟩
  generalize ye:(⟨line,bk,own⟩:aO)=W at q;have ze:W.line=line:=by rw[<-ye]
  have eB:W.bk=bk:=by rw[<-ye]
  have yw:W.own=own:=by rw[<-ye]
  have lk:∀b,W.look (name,b)=cX bk name (d9 line b):=λb=>by unfold aO.look;rw[eB,ze]
  have xc:∀b wh d,W.look (name,b)=ih (wh,d)->Ent d/\wh∈line:=λb wh d e=>⟨by rw[lk]at e;exact(kA I.ok wh d e).2,by rw[<-ze];exact l3 e⟩
  refine f7 λU j=>?_;intro g xf;refine⟨_,rfl,_,rfl,_,rfl,jR.mk rfl I.hl I.hd I.dv I.ok (.inl rfl) λv Y zw yf=>?_⟩;rw[<-lk]at yf;refine b5 j λU j=>?_;intro g xf;refine⟨bB _,λlf H2 zf _ xq=>?_⟩;have xi:=zw.trans zf;have yi:=I.same xi;refine b5 j λU j=>?_;intro g xf;refine vg (Bt rfl rfl rfl (W:=W) (a:=(name,"")) (by rw[yw];exact yi.ho) (eH.same yf zf) λwh d e=>(xc _ wh d e).1) λxg T=>?_
  have zi:=xi.trans T;have zh:=T _ _ xq;have xj:=yi.same T
  by_cases J:(W.own.lookup name).isSome=true/\W.eS (name,"")=true
  ·rw[aE (by rw[J.1,J.2];rfl)]
   obtain⟨z,xx⟩:=rJ.mp J.1;have yg:W.cQ (name,"")=ih z:=by unfold aO.cQ;rw[aE ⟨rfl,J.2⟩,xx]
   exact⟨_,rfl,q lf xg zi (by unfold iY;rw[yg];exact zh)⟩
  rw[ao (λz=>J (by rw[gK]at z;exact z))]
  have yg:W.cQ (name,"")=none:=by
   unfold aO.cQ
   by_cases Z:W.eS (name,"")=true
   ·rw[aE ⟨rfl,Z⟩]
    cases e:W.own.lookup name with
    |none=>rfl
    |some z=>exact absurd ⟨by rw[e];rfl,Z⟩ J
   ·rw[ao (λz=>Z z.2)]
  have yq:iY W name=gz W name line.length (W.look (name,"")):=by unfold iY;rw[yg,ao (by simp),ze]
  rw[yq]at q;refine b5 j λU j=>?_;intro g xf;have xB:=I.l8;refine⟨_,rfl,S,_,rfl,.inl (aj.of xj.hl),_,rfl,by omega,by rw[aB];omega,kj (λi σ G=>∃(lf:EZ) (fs:ac Fv) (k:ad (Fv×UC)) (n:V) (zg xh:ad V),σ=[am S,am db,am ow,ih (.str name),ih n,am lf,zg,xh]/\aw xg G/\G lf=bd (fs.map V.str)/\eH G n k/\(∀wh d,k=ih (wh,d)->Ent d/\wh∈line)/\fs++gz W name (line.length - i) k=gz W name line.length (W.look (name,""))/\fs.length<=4 * i)
   ⟨lf,[],_,v,none,none,rfl,aw.refl _,zh,(eH.same yf zf).same T,xc "",rfl,bB _⟩ ?_ ?_⟩
  ·rintro i σ G hi ⟨lf,fs,k,n,zg,xh,rfl,N,xa,oc,xm,l,yx⟩
   refine iO ?_;intro g yB;have zA:i<line.length:=by rw[aB]at hi;have:YK ((line.length:Nat):Int)=line.length:=gr _;rw[this]at hi;exact hi
   have vP:=xj.same N;cases k with
   |none =>
    have oc:n=V.aK:=oc;subst oc;refine⟨_,rfl,_,rfl,?_⟩;refine bW (λz=>absurd z (by decide)) (λ_=>?_)
    exact⟨lf,fs,none,_,_,_,rfl,N,xa,rfl,λwh d e=>(by cases e),by rw[AH]at l⊢;exact l,by omega⟩
   |some p =>
    obtain⟨wh,d⟩:=p;obtain⟨ym,zq⟩:=xm wh d rfl;obtain⟨t,u,rfl,zm,zx⟩:=oc;obtain⟨yc,xr⟩:=s8 ym;have xy:line.length - i=(line.length - (i+1))+1:=by omega
    rw[xy,Ah]at l;refine⟨_,rfl,_,rfl,?_⟩;refine bW (λ_=>?_) (λz=>absurd (by rw[ef (by intro z;cases z)];rfl) z)
    refine f7 λU j=>?_;intro g yy;refine⟨_,rfl,t,_,1,_,rfl,rfl,ay.of zm,cP,mw.mk rfl ym zx λxn us zy xz zc xd=>?_⟩;refine b5 j λU j=>?_;intro g yy;have yr:=bJ.length xd;refine⟨_,rfl,_,rfl,xn,rfl,⟨_,aj.of zc⟩,λc yn=>?_⟩;refine fe (xs:=us) (λm ys g r=>∃yh:ad V,g=[yh]/\aw zy r/\r c=bd ys/\ys=((((cc d).take m).filter λs=>decide (a7 s = "ask")).map dX).map V.str) ⟨none,rfl,dt yn,af,rfl⟩ (λm ys g r ⟨_,_,z1,z2,_⟩=>⟨z2,aj.of (z1 _ _ zc)⟩) ?_ ?_
    ·rintro m y ys g r zn ⟨yh,rfl,C,D,rfl⟩
     have yj:=(bZ.mp zn).1;obtain⟨ya,yd,yz⟩:=bJ.get (bJ.same xd C) zn;have zr:m<(cc d).length:=(bZ.mp yd).1;have zo:ed ya:=yc ya (eK yd);obtain⟨xo,xs,rfl,zd,_,xt,_⟩:=pT zo yz;have zj:(cc d).take (m+1)=(cc d).take m++[ya]:=by rw[ij zr,(bZ.mp yd).2]
     refine⟨_,rfl,xo,_,0,_,rfl,rfl,ay.of zd,b8,rfl,_,rfl,?_⟩;have a3:(((cc d).take m).filter λs=>decide (a7 s = "ask")).length<=4:=eg (gM _ _) (by rw[cH];omega)
     by_cases e:a7 ya = "ask"
     ·refine ite_tt (by rw[e];rfl) ?_
      have ex:=xt e;rw[ex]at zd;refine⟨_,rfl,xo,_,1,_,rfl,rfl,ay.of zd,cP,D,by rw[aB,aB,aV];omega,cw_next yj ⟨_,rfl,λb o e=>by rw[ag (ax e yn)];exact C _ _ e,af,?_⟩⟩
      rw[zj,gN,mZ,aE (cb e),rW,a8,a8];rfl
     ·refine ite_ff (ef λz=>e (by injection z)) ?_
      refine cw_next yj ⟨_,rfl,C,D,?_⟩;rw[zj,gN,mZ,ao (by simp[e]),rW,eU]
    ·rintro ys g r ⟨yh,rfl,C,D,rfl⟩
     rw[yr,cz]at D;have a3:(hI d).length<=4:=by unfold hI;rw[aB];exact eg (gM _ _) xr
     have D:r c=bd ((hI d).map V.str):=D;have xk:=xz.trans C;refine⟨lf,c,_,_,rfl,rfl,xk _ _ xa,D,by rw[aB,aB,aV];omega,λO yt=>?_⟩
     rw[<-a8];have za:=dt (o:=.lst ((fs++hI d).map V.str)) yt;have yk:upd r O (.lst ((fs++hI d).map V.str)) O=bd ((fs++hI d).map V.str):=af;generalize upd r O (.lst ((fs++hI d).map V.str))=zB at za yk⊢;have zt:=xk.trans za;have xp:=(C.trans za) _ _ zc;have yp:=bJ.same xd (C.trans za);refine gi j ?_;intro g;refine⟨eI,λZ yo xb _ xu=>⟨_,rfl,vi,cc d,.tup xu (.cons (.str _) .nil),.inl (.lst (xb _ _ xp) (bJ.same yp xb)),by decide +kernel,(B6 yc).1,by decide +kernel,_,rfl,?_⟩⟩
     rw[ao b'];have xe:=zt.trans xb;have R:=vP.same xe;have yu:=xe _ _ zm;have zu:((cc d).any λy=>X5 y vi)=kZ d:=by
      unfold kZ;exact any_congr λs zz=>Lo (yc s zz)
     rw[zu];have zk:∀(L:V) (M:ad (Fv×UC)) (x:Hp),aw yo x->eH x L M->(∀wh d,M=ih (wh,d)->Ent d/\wh∈line)->M=(if kZ d=true then W.look (name,wh) else none) ->∃(lf:EZ) (fs:ac Fv) (k:ad (Fv×UC)) (n:V) (xv yv:ad V),[am S,am db,am ow,ih (.str name),ih L,am O,ih (V.int (0+(i:Int))),am xn]=[ih (V.ref S),am db,am ow,ih (.str name),ih n,am lf,xv,yv]/\aw xg x/\x lf=bd (fs.map V.str)/\eH x n k/\(∀wh d,k=ih (wh,d)->Ent d/\wh∈line)/\fs++gz W name (line.length - (i+1)) k=gz W name line.length (W.look (name,""))/\fs.length<=4 * (i+1):=λL M x yb o' xA zv=>⟨O,fs++hI d,M,L,_,_,rfl,N.trans (xe.trans yb),(xb.trans yb) _ _ yk,o',xA,by rw[zv,mS];exact l,by rw[bV];omega⟩
     refine bW (λc=>?_) (λc=>?_)
     ·refine⟨_,rfl,_,rfl,_,rfl,_,rfl,t,_,0,_,rfl,rfl,ay.of yu,b8,jR.mk rfl R.hl R.hd R.dv R.ok (.inr zq) λL x yb o'=>?_⟩
      rw[<-lk]at o';exact zk L _ x yb o' (xc wh) (by rw[aE c])
     ·exact zk .aK none yo (aw.refl _) rfl (λwh d e=>(by cases e)) (by rw[ao c])
  ·rintro σ G ⟨lf,fs,k,n,zg,xh,rfl,N,xa,oc,xm,l,yx⟩
   have yA:YK (((line.map V.str).length:Nat):Int)=line.length:=by rw[aB];exact gr _
   rw[yA,Nat.sub_self]at l;have l:fs++[]=_:=l;rw[eU]at l;refine gi j ?_;intro g;exact⟨_,rfl,q lf G (zi.trans N) (by rw[<-l];exact xa)⟩
def fY(line:List Fv)(b:Fv):Nat:=if b = "" then 0 else line.idxOf b+1
theorem Bu{W:aO}(c:W.line.Nodup){b:Fv}{d:UC}(h:W.look (n,b)=ih (wh,d))(ne:wh ≠ ""):fY W.line b<fY W.line wh/\fY W.line wh<=W.line.length:=by
 have e:d9 W.line b=W.line.drop (fY W.line b):=by unfold d9 fY;split <;> rfl
 have a:wh∈d9 W.line b:=(jD h).1;rw[e]at a;obtain⟨i,hi,rfl⟩:=wK.mp a;rw[mR]at hi;have f:fY W.line (W.line.drop (fY W.line b))[i]=fY W.line b+i+1:=by
  rw[show fY W.line (W.line.drop (fY W.line b))[i]=W.line.idxOf (W.line.drop (fY W.line b))[i]+1 from ao ne,List.getElem_drop,c.idxOf_getElem]
 omega
section
variable{W:aO}
theorem sy{w:Fv}{d:UC}{b:Ask}(h:W.need n w d=ih b):(a7 d = "ask" /\ b=(dX d,("" : Fv)))\/(a7 d = "onward" /\ b=(n,w)):=by
 unfold aO.need at h
 by_cases c:a7 d = "ask"
 ·rw[aE c]at h;cases h;exact .inl ⟨c,rfl⟩
 ·rw[ao c]at h
  by_cases a:a7 d = "onward"
  ·rw[aE a]at h
   split at h
   ·cases h;exact .inr ⟨a,rfl⟩
   ·cases h
  ·rw[ao a]at h;cases h
theorem Cf{f:bc}(ok:bO W f){b:Ask}(h:gB W f=ih b):∃d s,W.look f.a=ih (f.w,d)/\s∈cc d/\W.need f.a.1 f.w s=ih b:=by
 obtain⟨s,ds,e1,e2⟩:=ki h;obtain⟨_,d,pre,h2,c,_⟩:=ok.lk;exact⟨d,s,h2,by rw[c,e1];exact c4 _ aW,e2⟩
theorem jw{a:Ask}{b:ac Ask}:b9 (a::b)=if a.2 = "" then a.1::b9 b else b9 b:=by
 unfold b9;rw[mZ]
 by_cases c:a.2 = ""
 ·rw[aE (cb c),aE c];rfl
 ·rw[ao (by simp[c]),ao c]
theorem s9{a bs:ac Ask}:b9 (a++bs)=b9 a++b9 bs:=by unfold b9;rw[gN,a8]
theorem AI{f:bc}{l:ac bc}{b:Ask}(c:Chain W (f::l) b):∃x,gB W f=ih x/\(l.map (·.a)++[b]).head?=ih x /\∀g d,l=g::d->Chain W (g::d) b:=by
 cases l with
 |nil=>exact⟨b,c,rfl,λ_ _ e=>(by cases e)⟩
 |cons g d=>exact⟨g.a,c.1,rfl,λ_ _ e=>by cases e;exact c.2⟩
theorem AJ(m:W.line.Nodup)(ne:∀k∈W.line,k ≠ ""){b:Ask}{y:Fv}:∀{l:ac bc}{f:bc}{k:Nat},(∀g∈f::l,bO W g)->Chain W (f::l) b->(b9 (l.map (·.a)++[b])).head?=ih y->W.line.length<=k+fY W.line f.a.2->y∈gz W f.a.1 k (W.look f.a)
 |l,f,k,ok,c,h,B=>by
  obtain⟨x,u,i,cn⟩:=AI c;obtain⟨d,s,e1,e2,e3⟩:=Cf (ok f aW) u;have o:=l3 e1;obtain⟨C,p2⟩:=Bu m (n:=f.a.1) (b:=f.a.2) e1 (ne _ o);obtain⟨k,rfl⟩:∃v,k=v+1:=⟨k - 1,by omega⟩
  rw[e1,Ah];rcases sy e3 with⟨t,rfl⟩|⟨t,rfl⟩
  ·refine fA _ ?_
   have:b9 (l.map (·.a)++[b])=dX s::b9 ((l.map (·.a)++[b]).drop 1):=by
    cases e:l.map (·.a)++[b] with
    |nil=>simp at e
    |cons z r=>rw[e]at i;cases i;rw[jw,aE rfl];rfl
   rw[this]at h;cases h
   exact a4.mpr ⟨s,fc.mpr ⟨e2,cb t⟩,rfl⟩
  ·refine c4 _ ?_
   rw[aE (show kZ d=true from lu.mpr ⟨s,e2,cb t⟩)];have p:=ne _ o;cases l with
   |nil =>
    cases i
    rw[show b9 (([]:ac bc).map (·.a)++[(f.a.1,f.w)])=[] from by show b9 [(f.a.1,f.w)]=[];rw[jw,ao p];rfl]at h
    cases h
   |cons g q =>
    have j:g.a=(f.a.1,f.w):=cG i;have:=AJ m ne (l:=q) (f:=g) (k:=k) (b:=b) (y:=y) (λz A=>ok z (ba _ A)) (cn g q rfl) (by
     rw[b2,Fn,jw,ao (by rw[j];exact p)]at h;exact h) (by rw[j];show _<=_+fY W.line f.w;omega)
    rw[j]at this;exact this
theorem AK(j:W.line.Nodup)(ne:∀k∈W.line,k ≠ ""){b:Ask}:∀{l:ac bc}{f:bc},(∀g∈f::l,bO W g)->Chain W (f::l) b->b9 (l.map (·.a)++[b])=[]->fY W.line f.a.2<fY W.line b.2
 |l,f,ok,c,h=>by
  obtain⟨x,u,i,cn⟩:=AI c;obtain⟨d,s,e1,e2,e3⟩:=Cf (ok f aW) u;have m:=l3 e1;obtain⟨o,p2⟩:=Bu j (n:=f.a.1) (b:=f.a.2) e1 (ne _ m);have:x=(f.a.1,f.w):=by
   rcases sy e3 with⟨t,rfl⟩|⟨t,rfl⟩
   ·cases e:l.map (·.a)++[b] with
    |nil=>simp at e
    |cons z r=>rw[e]at i h;cases i;rw[jw,aE rfl]at h;cases h
   ·rfl
  cases l with
  |nil=>cases i;rw[this];exact o
  |cons g p =>
   have q:g.a=(f.a.1,f.w):=by cases i;exact this
   have:=AK j ne (l:=p) (f:=g) (b:=b) (λz v=>ok z (ba _ v)) (cn g p rfl) (by
    rw[b2,Fn,jw,ao (by rw[q];exact ne _ m)]at h;exact h)
   rw[q]at this;exact lq o this
theorem Bv{b:Ask}:∀{l m:ac bc}{c:Ask},Chain W l c->m.head?.map (·.a)=ih c->Chain W m b->Chain W (l++m) b
 |[],m,c,_,_,h=>h
 |[f],[],c,_,e,_=>by cases e
 |[f],g::m,c,h1,e,h2=>by cases e;exact⟨h1,h2⟩
 |f::g::l,m,c,h1,e,h2=>⟨h1.1,Bv (l:=g::l) h1.2 e h2⟩
theorem se(i:W.line.Nodup)(ne:∀k∈W.line,k ≠ ""){b:Ask}:∀{l:ac bc}{k:Nat}{x y:Fv},(∀g∈l,bO W g)->Chain W l b->(b9 (l.map (·.a)))[k]?=ih x->(b9 (l.map (·.a)))[k+1]?=ih y->y∈iY W x
 |[],k,x,y,_,_,e,_=>by cases e
 |f::l,k,x,y,ok,c,ex,d=>by
  have m:Chain W l b:=by
   cases l with
   |nil=>trivial
   |cons g s=>exact c.2
  have j:∀g∈l,bO W g:=λz p=>ok z (ba _ p);rw[b2,jw]at ex d
  by_cases h:f.a.2 = ""
  ·rw[aE h]at ex d
   cases k with
   |succ k=>exact se i ne j m ex d
   |zero =>
    have ex:f.a.1=x:=by simpa using ex
    subst ex;have d:(b9 (l.map (·.a)))[0]?=ih y:=by simpa using d
    have q:(b9 (l.map (·.a)++[b])).head?=ih y:=by
     rw[s9];cases e:b9 (l.map (·.a)) with
     |nil=>rw[e]at d;cases d
     |cons z r=>rw[e]at d;simpa using d
    have:=AJ i ne (k:=W.line.length) ok c q (aaz _ _);have n:f.a=(f.a.1,("" : Fv)):=by rw[<-h]
    have o:=(ok f aW).lk.1;rw[n]at o;unfold iY;rw[o,ao (by simp)]
    rw[n]at this;exact this
  ·rw[ao h]at ex d
   exact se i ne j m ex d
theorem Bw{n x:Fv}{NS:ac Fv}(c:∀p∈W.bk,∀s∈cc p.2.2,a7 s = "ask" -> dX s∈NS):∀{k:Nat}{b:Fv},x∈gz W n k (W.look (n,b))->x∈NS
 |0,_,h=>by cases h
 |k+1,b,h=>by
  cases e:W.look (n,b) with
  |none=>rw[e]at h;cases h
  |some p =>
   rw[e]at h;have h:x∈hI p.2++gz W n k (if kZ p.2=true then W.look (n,p.1) else none):=h;rcases bI.mp h with z|z
   ·obtain⟨s,a,rfl⟩:=a4.mp z
    obtain⟨a,d⟩:=fc.mp a;exact c _ (kf (jD e).2) s a (dJ d)
   ·split at z
    ·exact Bw c z
    ·rw[AH]at z;cases z
structure DA(W:aO)(NS ns:List Fv):Prop where
 ne:ns ≠ []
 nd:ns.Nodup
 ld:∀k,k<ns.length ->∃x y,ns[k]?=ih x/\ns[(k+1) % ns.length]?=ih y/\y∈iY W x
 ee:∀n∈ns,n∈NS
theorem eO.is{a:Ask}(h:eO W a ns)(q:W.line.Nodup)(ne:∀k∈W.line,k ≠ "")(u:∀p∈W.bk,∀s∈cc p.2.2,a7 s = "ask" -> dX s∈NS):DA W NS ns:=by
 obtain⟨_,fs,b,d,ok,c,v,rfl⟩:=h.core;cases fs with
 |nil=>cases d
 |cons f l =>
  have d:f.a=b:=by simpa using d
  have h1:b9 ((f::l).map (·.a))≠ []:=λz=>by
   have:=AK q ne ok c (by
    rw[s9];rw[b2,jw]at z
    by_cases e:f.a.2 = ""
    ·rw[aE e]at z;cases z
    ·rw[ao e]at z;rw[z,<-d,jw,ao e];rfl)
   rw[d]at this;exact jc _ this
  have h2:(b9 ((f::l).map (·.a))).Nodup:=by
   have w:(((f::l).map (·.a)).filter λa=>decide (a.2=("" : Fv))).Nodup:=v.filter _;refine Vs _ ?_ (abu.mp w);rintro x y ⟨A,B,n⟩ e;have e1:=dJ (fc.mp A).2;have e2:=dJ (fc.mp B).2;exact n (vV e (e1.trans e2.symm))
  have C:Chain W ((f::l)++(f::l)) b:=Bv c (by simp[d]) c
  have ld:∀k,k<(b9 ((f::l).map (·.a))).length ->∃x y,(b9 ((f::l).map (·.a)))[k]?=ih x/\(b9 ((f::l).map (·.a)))[(k+1) % (b9 ((f::l).map (·.a))).length]?=ih y/\y∈iY W x:=by
   have m:=λ{k x y}=>se q ne (l:=(f::l)++(f::l)) (k:=k) (x:=x) (y:=y) (λg D=>(bI.mp D).elim (ok g) (ok g)) C;rw[a8,s9]at m;generalize b9 ((f::l).map (·.a))=ns at m h1;intro k o;have E:(k+1) % ns.length<ns.length:=wG _ (by omega)
   refine⟨ns[k],ns[(k+1) % ns.length],bw o,bw E,m (k:=k) ?_ ?_⟩
   ·rw[EX o,bw o]
   ·rcases Nat.lt_or_ge (k+1) ns.length with z|z
    ·rw[EX z,bw z];congr 1;simp only[aaw z]
    ·have e:k+1=ns.length:=by omega
     have e2:(k+1) % ns.length=0:=by rw[e,Nat.mod_self]
     rw[UN z,show k+1 - ns.length=0 by omega,bw (by omega)]
     congr 1;simp only[e2]
  refine⟨h1,h2,ld,λn r=>?_⟩;generalize b9 ((f::l).map (·.a))=ns at h1 h2 ld r;obtain⟨i,hi,rfl⟩:=wK.mp r;have F:(i+(ns.length - 1)) % ns.length<ns.length:=wG _ (by omega)
  obtain⟨x,y,_,t,j⟩:=ld ((i+(ns.length - 1)) % ns.length) F;have:((i+(ns.length - 1)) % ns.length+1) % ns.length=i:=by
   rw[Nat.mod_add_mod,show i+(ns.length - 1)+1=i+ns.length by omega,Nat.add_mod_right,aaw hi]
  rw[this,bw hi]at t;cases t
  unfold iY at j;split at j
  ·cases j
  ·exact Bw u j
end
inductive rj(vs:List V)(H:Hp)(Q:VK)(E:XK):Prop
 |mk{la db ow t:EZ}{line NS ns:List Fv}{kvs:List (List Key×V)}{bk:Bk}{own:Own}(_:vs=[.ref la,.ref db,.ref ow,.ref t])(_:LB H la db ow line kvs bk own)(_:H t=ih (.tup (ns.map V.str)))(_:DA ⟨line,bk,own⟩ NS ns)(_:ns.length<=100)(_:∀n∈ns,Nm n)
  (_:∀H',aw H H'->Q (.bl true) H'):rj vs H Q E
abbrev mM:List Fv:=["_law_line_here","_law_book_here","_law_own","_law_names_here"]
theorem O6:bf mM mM (aI ku):=bz
abbrev O7:Vp:=gj (DX (uk (Dz (bR (bE ku) 0)) 2))
abbrev O8:Vp:=gj (mr (bR (bE ku) 2))
theorem DB:b6 mM (aI ku) ["_law_name"] [none] (cB O7):=c8
theorem DC:b6 mM (aI ku) ["_law_k","_law_names_here","_law_line_here","_law_book_here","_law_own"] [none,ih 3,ih 0,ih 1,ih 2] (cB O8):=c8
theorem NQ(F:aQ K "_law_is_round" "_law_is_round" ku f fd)(B:df mg)(L:hO mg)(bs:mg "set" = none)(D:bF P w K mg base aG 2 fL dL vO ri "_law_leads"):aT P w K mg base aG 3 f fd mM rj:=by
 refine F.bG O6 λQa A outer s H vs Q E za h=>?_
 ·obtain @⟨xf,db,ow,t,line,NS,ns,kvs,bk,own,rfl,yf,j,M,xj,zf,q⟩:=h
  have xg:=za.units;have xd:aZ 2 _:=za;intro X;refine⟨_,au (bh (PW.pt (pw_or (hF (hE (bT lP rfl L.mI lV (aa (pv 3) (aa (lX (v:=.ty "tuple") rfl B.tuple boot_tuple rfl) ah)))))
    (pw_or (bp (t9 xg) (pv 3) (fk ah) (bA _))
    (pw_or1 (hF (hE (bT (o9 rfl) rfl B.all boot_all (aa (dZ rfl DB (kC (pv 3)) (λs H fp=>⟨bb 0 DB.nd,ei,bT (Hq K rfl) rfl L.mI lV (aa (pv 0) (aa (lX (v:=.ty "str") rfl L.str boot_str rfl) ah))⟩)) ah)))))))) (aA (aX jG)) bD)
   (au (bh (bp jH (bT GR rfl B.len ez (aa (dq (BS rfl) rfl bs Br (aa (pv 3) ah)) ah)) (bT eM rfl B.len ez (aa (pv 3) ah)) (bA _)) (aA (aX jG)) bD)
   (aA (aX (bT (o9 rfl) rfl B.all boot_all (aa (dZ rfl DC (h6 rfl B.range (aa (bT eM rfl B.len ez (aa (pv 3) ah)) ah)) (λs H fp=>⟨bb 0 DC.nd,ei,
    jA (Ct K rfl) (aU (jx K rfl) (pv 1) (bx kE (bx eV (pv 0) ar) (bT (Ho K rfl) rfl B.len ez (aa (pv 1) ah)))) (fM D.G xd rfl D.m D.k D.b .nil cV (aa (pv 2) (aa (pv 3) (aa (pv 4) (aa (aU (jx K rfl) (pv 1) (pv 0)) ah))))) rfl⟩)) ah))))),?_⟩
  have zc : ¬ ns=[]:=M.ne;have yd:(PyData.tuple (ns.map Vl)).canLay0=true:=nC zf;refine f7 λU N=>?_;intro d yg;refine⟨_,rfl,⟨_,.inr ⟨"tuple",rfl⟩⟩,.ref t,.ty "tuple",.type "tuple",.type "tuple",true,rfl,rfl,.inl (.tup j),rfl,true,rfl,?_⟩;refine⟨_,rfl,bB _,λe Y O _ zg=>⟨.tuple (ns.map Vl),.tuple [],.tup (O _ _ j) (lU _ _),.tup zg .nil,yd,rfl,by show Ve _+1<=60;rw[m3];decide,_,rfl,?_⟩⟩
  have e0:X5 (.tuple (ns.map Vl)) (.tuple [])=false:=by
   show Yz _ (List.map Vl [])=false;rw[sZ];exact ef zc
  rw[e0];have T:=O _ _ j;refine⟨_,rfl,t,rfl,⟨_,ay.of T⟩,λp xb=>?_⟩;refine lQ (xs:=ns.map V.str) (λi ys d H2=>∃g:ad V,d=[g]/\ys=(Yw i true).map V.bl/\aw Y H2/\H2 p=bd ys) ⟨none,rfl,rfl,dt xb,af⟩ (λi ys d H2 ⟨_,_,_,z,z2⟩=>⟨z2,ay.of (z _ _ T)⟩) ?_ ?_
  ·rintro i x ys d H2 yb ⟨g,rfl,rfl,R,h2⟩
   have W:i<(ns.map V.str).length:=(bZ.mp yb).1;have I:i<ns.length:=by simpa using W
   obtain rfl:V.str ns[i]=x:=by simpa [I] using yb
   refine⟨_,rfl,⟨_,.inr ⟨"str",rfl⟩⟩,.str ns[i],.ty "str",.type "str",.type "str",true,rfl,rfl,.inl (.str _),rfl,h2,by rw[aB,vU,aV];omega,cw_next W ⟨_,rfl,?_,λb u e=>?_,af⟩⟩
   ·rw[FU,a8];rfl
   ·rw[ag (ax e xb)];exact R _ _ e
  ·rintro ys d H2 ⟨g,rfl,rfl,R,h2⟩
   refine⟨p,_,rfl,aj.of h2,_,rfl,?_⟩;have:(Yw (ns.map V.str).length true).all id=true:=by simp
   rw[this];have Z:=O.trans R;have xa:=Z _ _ j;refine b5 N λU N=>?_;intro d yg;refine⟨_,rfl,t,ns,rfl,.inr (ay.of xa),by omega,λa ds xh zd xe=>?_⟩
   have zb:=dt (o:=i5 X.prog X.w a ds) xh;refine⟨a,ds,rfl,af,_,rfl,t,_,rfl,.inr (ay.of (zb _ _ xa)),rfl,?_⟩;rw[aB,((Vx zd M.nd).mpr xe).length_eq];refine⟨_,rfl,ite_ff (by rw[cb rfl];rfl) ?_⟩
   have C:=Z.trans zb;generalize upd H2 a (i5 X.prog X.w a ds)=yh at C⊢;have ya:=C _ _ j;have ye:=yf.same C;refine gi N ?_;intro d;refine⟨_,rfl,t,_,rfl,.inr (ay.of ya),_,rfl,by omega,by rw[aB];omega,λc xc=>?_⟩
   refine o4 (λi ys d l=>∃g:ad V,d=[g,am t,am xf,am db,am ow]/\ys=(Yw i true).map V.bl/\aw yh l/\l c=bd ys) ⟨none,rfl,rfl,dt xc,af⟩ (λi ys d l ⟨_,_,_,_,z⟩=>z) ?_ ?_
   ·rintro i ys d l hi ⟨g,rfl,rfl,n,S⟩
    have I:i<ns.length:=by rw[aB]at hi;have:YK ((ns.length:Nat):Int)=ns.length:=gr _;rw[this]at hi;exact hi
    rw[show(0:Int)+(i:Int)=i by omega]
    obtain⟨x,y,ex,zh,xi⟩:=M.ld i I;have J:=n _ _ ya;have yi:(ns.map V.str).length=ns.length:=aB _;have zi:((i:Int)+1) % ((ns.map V.str).length:Nat)=(((i+1) % ns.length:Nat):Int):=by rw[yi];exact(Int.natCast_emod (i+1) ns.length).symm
    refine⟨_,rfl,_,rfl,_,_,rfl,rfl,_,rfl,t,_,rfl,.inr (ay.of J),_,_,rfl,rfl,by omega,?_⟩
    refine⟨t,_,_,_,rfl,c3 V.int zi,ay.of J,cq (by rw[cI,zh];rfl),_,rfl,_,rfl,_,rfl,_,rfl,_,rfl,t,_,_,_,rfl,rfl,ay.of J,cq (by rw[cI,ex];rfl),ri.mk rfl (ye.same n) λr yj yc ze=>?_⟩
    refine⟨r,_,rfl,.inl (aj.of ze),rfl,jv _,?_⟩;rw[ao b',iM,cb xi];refine⟨yc _ _ S,by rw[aB,vU,aV];omega,cw_next hi ⟨_,rfl,?_,λb u e=>?_,af⟩⟩
    ·rw[FU,a8];rfl
    ·rw[ag (ax e xc)];exact yc _ _ (n _ _ e)
   ·rintro ys d l ⟨g,rfl,rfl,n,S⟩
    refine⟨c,_,rfl,aj.of S,?_⟩;rw[show(Yw (YK (((ns.map V.str).length:Nat):Int)) true).all id=true by simp]
    exact q _ (C.trans n)
section
variable{W:aO}
theorem tf{f:Ask->Option Rs}{n w m:Fv}:∀{ds:ac UC}{t:Int},W.dz f n w ds t=ih (.miss m) ->∃s∈ds,∃b,W.need n w s=ih b/\f b=ih (.miss m)
 |[],t,h=>by cases h
 |d::ds,t,h=>by
  cases a:W.need n w d with
  |none =>
   rw[iX a]at h;obtain⟨s,c,r⟩:=tf h;exact⟨s,ba _ c,r⟩
  |some b =>
   rw[gP a]at h;cases e:f b with
   |none=>rw[e]at h;cases h
   |some x =>
    rw[e]at h;cases x with
    |miss g=>cases h;exact⟨d,aW,b,a,e⟩
    |told z =>
     obtain⟨s,c,r⟩:=tf h;exact⟨s,ba _ c,r⟩
theorem pI{NS:ac Fv}(c:∀p∈W.bk,∀s∈cc p.2.2,a7 s = "ask" -> dX s∈NS){m:Fv}:∀{k:Nat}{a:Ask},W.out k a=ih (.miss m)->m=a.1\/m∈NS
 |0,_,h=>by cases h
 |k+1,a,h=>by
  have h:W.cg (W.out k) a=ih (.miss m):=h;unfold aO.cg at h;cases f:W.cQ a with
  |some z=>rw[f]at h;cases h
  |none =>
   rw[f]at h;cases d:W.look a with
   |none=>rw[d]at h;cases h;exact .inl rfl
   |some p =>
    rw[d]at h;obtain⟨s,i,b,j,g⟩:=tf h;rcases sy j with⟨t,rfl⟩|⟨t,rfl⟩
    ·rcases pI c g with e|e
     ·exact .inr (by rw[e];exact c _ (kf (jD d).2) s i t)
     ·exact .inr e
    ·exact pI (a:=(a.1,p.1)) c g
end
def oF:Rs->UC
 |.told z=>.tuple [.str "told",.int z]
 |.miss n=>.tuple [.str "missing",.str n]
theorem Dd{t:EZ}{r:Rs}(h:H t=a2 (mL r)):Rep H (.ref t) (oF r):=by
 cases r with
 |told z=>exact .tup h (.cons (.str _) (.cons (.int _) .nil))
 |miss n=>exact .tup h (.cons (.str _) (.cons (.str _) .nil))
theorem Mn{r:Rs}(h:∀n,r=.miss n->Nm n):(oF r).canLay0=true/\(oF r).depth<=60:=by
 cases r with
 |told z=>exact⟨by show(Vt "told" && (true&&true))=true;decide +kernel,by simp[oF,Yd,Ve]⟩
 |miss n=>exact⟨by show(Vt "missing" && (Vt n&&true))=true;rw[mi (h n rfl)];decide +kernel,by simp[oF,Yd,Ve]⟩
inductive rk(vs:List V)(H:Hp)(Q:VK)(E:XK):Prop
 |mk{la db ow dk ky p:EZ}{line NS:List Fv}{kvs kk:List (List Key×V)}{bk:Bk}{own:Own}{ka:List (Ask×Rs)}{a:Ask}{r:gJ}(_:vs=[.ref la,.ref db,.ref ow,.ref dk,.ref ky,.ref p])(_:LB H la db ow line kvs bk own)(_:H dk=ih (.dT kk))(_:f3 H kk ka)(_:Table ⟨line,bk,own⟩ (lg ⟨line,bk,own⟩ NS) ka)(_:H ky=ih (.tup [.str a.1,.str a.2]))(_:a.2 = "" \/ a.2∈line)(_:Nm a.1)
  (_:mv H p r) (_:aO.Comes ⟨line,bk,own⟩ a r) (_:line.Nodup) (_:∀k∈line,k ≠ "") (_:NS.length<=8) (_:∀n∈NS,Nm n)
  (_:∀q∈bk,∀s∈cc q.2.2,a7 s = "ask" -> dX s∈NS) (_:∀q∈bk,q.2.1∈NS) (_:∀H',aw H H'->Q (.bl true) H'):rk vs H Q E
abbrev vQ:List Fv:=["_law_line_here","_law_book_here","_law_own","_law_known_here","_law_key","_law_told_here"]
abbrev QK:List Fv:=["_law_line_here","_law_book_here","_law_own","_law_known_here","_law_key","_law_told_here","_law_due"]
theorem Ek:bf QK vQ (aI vA):=bz
theorem NR{fR:EZ}(F:aQ K "_law_is" "_law_is" vA f fd)(I:hO mg)(J:va mg)(xa:bF P w K mg base aG 2 fG dG rD mx "_law_go")(ya:bF P w K mg base aG 3 fR dR mM rj "_law_is_round"):aT P w K mg base aG 4 f fd vQ rk:=by
 refine F.bG Ek λQa A outer s H vs Q E L h=>?_
 ·obtain @⟨ye,db,ow,dk,ze,p,line,NS,kvs,kk,bk,own,ka,a,r,rfl,g,O,za,T,R,xb,yb,av,y,zb,ne,xf,M,B,S,q⟩:=h
  have xc:=L.units;have D:aZ 3 _:=L;have W:aZ 2 _:=D.mono (by decide)
  intro X;refine⟨_,au (aY 6 Ek.nd (a9 xa W (aa (pv 0) (aa (pv 1) (aa (pv 2) (aa (pv 3) (aa (pv 4) ah)))))))
   (au (bh (bp gy (pv 6) dQ (bA _))
    (au (bh (bp jH (aU bj (pv 5) ar) bq (bA _)) (aA (aX jG)) bD)
    (aA (aX (a9 ya D (aa (pv 0) (aa (pv 1) (aa (pv 2) (aa (aU bj (pv 5) ar) ah)))))))) bD)
   (au (bh (bp (p0 xc) (pv 5) (pv 6) (bA _)) (aA (aX jG)) bD)
   (aA (aX (Mw (jA jH (aU bj (pv 6) ar) bq (bA _)) (pX (tZ (bT lP rfl I.mI lV (aa (aU bj (pv 5) ar) (aa (lX (v:=.ty "int") rfl J.int boot_int rfl) ah))) (pX (Lx (bT lP rfl I.mI lV (aa (aU bj (pv 5) ar) (aa (lX (v:=.ty "bool") rfl J.bool boot_bool rfl) ah)))))))))))),?_⟩
  have wi:Within ⟨line,bk,own⟩ (lg ⟨line,bk,own⟩ NS) a:=within B S a;refine f7 λU c=>?_;intro j N;refine⟨_,rfl,_,rfl,_,rfl,_,rfl,_,rfl,mx.mk rfl g.hl g.hd g.dv g.ok g.ho O za R xb λv Y d i=>?_⟩;refine b5 c λU c=>?_;intro j N;have Z:=g.same d;obtain⟨x,ox,yc⟩|⟨ns,t,rn,zc,l⟩:(∃x,aO.Out ⟨line,bk,own⟩ a x/\H p=a2 (mL x)) \/∃ns t,eO ⟨line,bk,own⟩ a ns/\H p=a2 [V.str "endless",.ref t]/\H t=a2 (ns.map V.str):=by
   cases r with
   |told z=>exact .inl ⟨_,y,av⟩
   |miss n=>exact .inl ⟨_,y,av⟩
   |gm ns=>obtain⟨t,h1,h2⟩:=av;exact .inr ⟨ns,t,y,h1,h2⟩
  ·rw[(T.bM wi x).mpr ox]at i
   obtain⟨t,rfl,l⟩:=i;have u:=d _ _ yc;obtain⟨C,xd⟩:=Mn (r:=x) λn e=>by
    subst e;obtain⟨k,m⟩:=ox;rcases pI B m with e|e
    ·rw[e];exact yb
    ·exact M n e
   refine⟨_,rfl,rfl,_,rfl,ite_ff (ef λz=>by cases z) ?_⟩
   refine b5 c λU c=>?_;intro j N;refine⟨_,rfl,_,rfl,_,_,Dd u,Dd l,C,C,xd,_,rfl,ite_ff (by rw[VJ _ C];rfl) ?_⟩
   refine gi c ?_;intro j;cases x with
   |told z=>exact⟨_,rfl,t,_,0,_,rfl,rfl,ay.of l,b8,rfl,false,rfl,_,rfl,p,_,1,_,rfl,rfl,ay.of u,cP,⟨_,.inr ⟨"int",rfl⟩⟩,.int z,.ty "int",.type "int",.type "int",true,rfl,rfl,.inl (.int z),rfl,true,rfl,_,rfl,p,_,1,_,rfl,rfl,ay.of u,cP,⟨_,.inr ⟨"bool",rfl⟩⟩,.int z,.ty "bool",.type "int",.type "bool",false,rfl,rfl,.inl (.int z),rfl,false,rfl,q _ d⟩
   |miss n=>exact⟨_,rfl,t,_,0,_,rfl,rfl,ay.of l,b8,rfl,true,rfl,q _ d⟩
  ·have yd:aO.cg ⟨line,bk,own⟩ (λb=>ka.lookup b) a=none:=by
    cases e:aO.cg ⟨line,bk,own⟩ (λb=>ka.lookup b) a with
    |none=>rfl
    |some x =>
     obtain⟨k,m⟩:=(T.bM wi x).mp e;rw[rn.core.1 k]at m;cases m
   rw[yd]at i;have i:v=V.aK:=i;subst i;have o:=rn.is zb ne B;have G:=d _ _ zc;refine⟨_,rfl,rfl,_,rfl,ite_tt (cb rfl) ?_⟩;refine f7 λU c=>?_;intro j yf;refine⟨_,rfl,p,_,0,_,rfl,rfl,ay.of G,b8,rfl,_,rfl,ite_ff (by rw[cb rfl];rfl) ?_⟩
   refine gi c ?_;intro j;exact⟨_,rfl,_,rfl,_,rfl,_,rfl,p,_,1,_,rfl,rfl,ay.of G,cP,rj.mk rfl Z (d _ _ l) o (eg (mj o.nd o.ee) (by omega)) (λn zd=>M n (o.ee n zd)) λH2 xe=>q _ (d.trans xe)⟩
section
variable{W W':aO}
theorem pq{f g:bc}{x y:Ask}(o:bO W f)(p:bO W g)(e:f.a=g.a)(h1:gB W f=ih x)(h2:gB W g=ih y)(q:∀k,W.out k x=none)(u:∀k,W.out k y=none):x=y:=by
 obtain⟨s,ds,v,n1⟩:=ki h1;obtain⟨s',E,w,b⟩:=ki h2;obtain⟨_,d,pre,i,j,c⟩:=o.lk;obtain⟨_,F,D,l,m,A⟩:=p.lk;rw[e]at i c n1;rw[i]at l;obtain⟨B,C⟩:=aaK (cG l);subst C;rw[B]at n1 c;rw[v]at j;rw[w]at m;have no:∀{z:Ask},(∀k,W.out k z=none) ->¬ ∃r,W.Out z r:=λh ⟨r,k,n⟩=>by rw[h k]at n;cases n
 rcases List.append_eq_append_iff.mp (j.symm.trans m) with⟨t,e1,e2⟩|⟨t,e1,e2⟩
 ·cases t with
  |nil=>cases e2;rw[n1]at b;exact cG b
  |cons z t=>cases e2;exact absurd (A s (by rw[e1];simp) x n1) (no q)
 ·cases t with
  |nil=>cases e2;rw[n1]at b;exact cG b
  |cons z t=>cases e2;exact absurd (c s' (by rw[e1];simp) y b) (no u)
theorem Bx{b c:Ask}(q:∀k,W.out k b=none)(r:∀k,W.out k c=none):∀{l m:ac bc}{f g:bc},(∀x∈f::l,bO W x)->(∀x∈g::m,bO W x)->Chain W (f::l) b->Chain W (g::m) c->f.a=g.a->((f::l).map (·.a)++[b]) <+: ((g::m).map (·.a)++[c])\/((g::m).map (·.a)++[c]) <+: ((f::l).map (·.a)++[b])
 |[],[],f,g,j,n,d,i,e=>by
  have:=pq (j f aW) (n g aW) e d i q r;subst this
  left
  show [f.a,b] <+: [g.a,b];rw[e];exact List.prefix_refl _
 |[],o::m,f,g,j,n,d,i,e=>by
  have:=pq (j f aW) (n g aW) e d i.1 q (m6 (fs:=o::m) (λx p=>n x (ba _ p)) i.2 rfl r);subst this
  left
  exact⟨m.map (·.a)++[c],by show f.a::o.a::_=g.a::o.a::_;rw[e];rfl⟩
 |f'::l,[],f,g,j,n,d,i,e=>by
  have:=pq (j f aW) (n g aW) e d.1 i (m6 (fs:=f'::l) (λx p=>j x (ba _ p)) d.2 rfl q) r;subst this
  right
  exact⟨l.map (·.a)++[b],by show g.a::f'.a::_=f.a::f'.a::_;rw[e];rfl⟩
 |f'::l,o::m,f,g,j,n,d,i,e=>by
  have s:∀x∈f'::l,bO W x:=λx p=>j x (ba _ p);have t:∀x∈o::m,bO W x:=λx p=>n x (ba _ p);have:=pq (j f aW) (n g aW) e d.1 i.1 (m6 (fs:=f'::l) s d.2 rfl q) (m6 (fs:=o::m) t i.2 rfl r);rcases Bx q r s t d.2 i.2 this with h|h
  ·left
   show f.a::((f'::l).map (·.a)++[b]) <+: g.a::((o::m).map (·.a)++[c]);rw[e];exact(VL _).mpr h
  ·right
   show g.a::((o::m).map (·.a)++[c]) <+: f.a::((f'::l).map (·.a)++[b]);rw[e];exact(VL _).mpr h
theorem Cg{α:Type}{xs ys:ac α}{b c:α}(h:xs++[b] <+: ys++[c])(e:b∈xs)(d:ys.Nodup):xs=ys/\b=c:=by
 obtain⟨t,a⟩:=h;rcases List.eq_nil_or_concat t with rfl|⟨t',y,rfl⟩
 ·rw[eU]at a
  obtain⟨e1,e2⟩:=aaq a rfl;cases e2;exact⟨e1,rfl⟩
 ·rw[List.concat_eq_append,<-mS]at a
  obtain⟨e1,e2⟩:=aaq a rfl;rw[<-e1,mS]at d;exact absurd rfl ((di.mp d).2.2 b e b (by simp))
theorem eO.uniq{a:Ask}{j:ac Fv}(h:eO W a ns)(h':eO W a j):ns=j:=by
 obtain⟨fs,b,i,ok,c,e,n,hi,rfl⟩:=h;obtain⟨gs,t,u,k,o,v,r,d,rfl⟩:=h';have w:=(tV ok c hi).2.2.2;have s:=(tV k o d).2.2.2;have p:=eK hi;have q:=eK d;cases fs with
 |nil=>cases p
 |cons f l =>
  cases gs with
  |nil=>cases q
  |cons g m =>
   have x:f.a=g.a:=by
    have e1:f.a=a:=e;have e2:g.a=a:=v;rw[e1,e2]
   obtain⟨e1,e2⟩:(f::l).map (·.a)=(g::m).map (·.a)/\b=t:=by
    rcases Bx w s ok k c o x with h|h
    ·exact Cg h p r
    ·obtain⟨y,z⟩:=Cg h q n;exact⟨y.symm,z.symm⟩
   rw[<-e1]at d⊢;subst e2;have:i=u:=(FG (bZ.mp hi).1 n).mp (hi.trans d.symm);rw[this]
theorem Comes.uniq{a:Ask}{r c:gJ}(h:W.Comes a r)(h':W.Comes a c):r=c:=by
 cases r with
 |told z =>
  cases c with
  |told y=>cases Out.uniq h h';rfl
  |miss n=>cases Out.uniq h h'
  |gm ns=>obtain⟨k,b⟩:=h;rw[(eO.core h').1 k]at b;cases b
 |miss n =>
  cases c with
  |told y=>cases Out.uniq h h'
  |miss m=>cases Out.uniq h h';rfl
  |gm ns=>obtain⟨k,b⟩:=h;rw[(eO.core h').1 k]at b;cases b
 |gm ns =>
  cases c with
  |told y=>obtain⟨k,b⟩:=h';rw[(eO.core h).1 k]at b;cases b
  |miss m=>obtain⟨k,b⟩:=h';rw[(eO.core h).1 k]at b;cases b
  |gm d=>rw[eO.uniq h h']
structure Alike(W' W:aO):Prop where
 lk:∀a,W'.look a=W.look a
 ow:∀a,W'.cQ a=W.cQ a
theorem Alike.need(h:Alike W' W)(n w:Fv)(d:UC):W'.need n w d=W.need n w d:=by simp only[aO.need,h.lk]
theorem Alike.go(h:Alike W' W)(f:Ask->Option Rs)(n w:Fv):∀(ds:ac UC) (t:Int),W'.dz f n w ds t=W.dz f n w ds t
 |[],t=>rfl
 |d::ds,t=>by
  cases e:W.need n w d with
  |none=>rw[iX e,iX ((h.need n w d).trans e)];exact h.go f n w ds _
  |some b =>
   rw[gP e,gP ((h.need n w d).trans e)];cases f b with
   |none=>rfl
   |some x=>cases x with
    |miss m=>rfl
    |told z=>exact h.go f n w ds _
theorem Alike.step(h:Alike W' W)(f:Ask->Option Rs)(a:Ask):W'.cg f a=W.cg f a:=by
 unfold aO.cg;rw[h.ow,h.lk];cases W.cQ a with
 |some z=>rfl
 |none=>cases W.look a with
  |none=>rfl
  |some p=>exact h.go f _ _ _ _
theorem Alike.out(h:Alike W' W):∀k,W'.out k=W.out k
 |0=>rfl
 |k+1=>by funext a;show W'.cg (W'.out k) a=W.cg (W.out k) a;rw[h.out k,h.step]
theorem Alike.Out(h:Alike W' W){a:Ask}{r:Rs}:W'.Out a r ↔ W.Out a r:=by unfold aO.Out;simp only[h.out]
theorem Alike.fr(h:Alike W' W){f:bc}(o:bO W' f):bO W f:=by
 obtain⟨h1,d,pre,h2,a,c⟩:=o.lk;exact⟨λk r e=>h.Out.mp (o.up k r (by rw[h.out,h.go];exact e)),λk r e=>by have:=o.dn k r (by rw[h.out];exact e);rw[h.out,h.go]at this;exact this,
  (h.ow _).symm.trans h1,d,pre,(h.lk _).symm.trans h2,a,λs g b i=>by obtain⟨r,j⟩:=c s g b ((h.need _ _ _).trans i);exact⟨r,h.Out.mp j⟩⟩
theorem Alike.head(h:Alike W' W)(f:bc):gB W' f=gB W f:=by
 unfold gB;cases f.left with
 |nil=>rfl
 |cons d ds=>exact h.need _ _ _
theorem Alike.chain(h:Alike W' W){b:Ask}:∀{fs:ac bc},Chain W' fs b->Chain W fs b
 |[],c=>trivial
 |[f],c=>(h.head f).symm.trans c
 |f::g::r,c=>⟨(h.head f).symm.trans c.1,h.chain c.2⟩
theorem Alike.comes(h:Alike W' W){a:Ask}{r:gJ}(c:W'.Comes a r):W.Comes a r:=by
 cases r with
 |told z=>exact h.Out.mp c
 |miss n=>exact h.Out.mp c
 |gm ns =>
  obtain⟨fs,b,i,ok,c,e,d,hi,q⟩:=c;exact⟨fs,b,i,λf g=>h.fr (ok f g),h.chain c,e,d,hi,q⟩
end
theorem JU{own b:Own}(a:(own.map (·.1)).Nodup)(p:b.Perm own):b.lookup n=own.lookup n:=by
 have c:∀{l:Own} (_:(l.map (·.1)).Nodup) {m:Fv}{z:Int},l.lookup m=ih z ↔ (m,z)∈l:=λ{l} a {m z}=>by
  induction l with
  |nil=>simp
  |cons q l f =>
   obtain⟨x,y⟩:=q;rw[b2,d4]at a;rw[dg]
   by_cases e:m=x
   ·subst e
    simp only[oO,bH,aam,true_and]
    constructor
    ·intro h;cases h;exact .inl rfl
    ·rintro(h|h)
     ·rw[h]
     ·exact absurd (a4.mpr ⟨(m,z),h,rfl⟩) a.1
   ·rw[show(m==x)=false by simp[e]]
    simp only[bH,aam,e,false_and,false_or];exact f a.2
 have d:(b.map (·.1)).Nodup:=(p.map (·.1)).nodup_iff.mpr a;cases e:own.lookup n with
 |some z=>exact(c d).mpr (p.mem_iff.mpr ((c a).mp e))
 |none =>
  cases g:b.lookup n with
  |none=>rfl
  |some z=>rw[(c a).mpr (p.mem_iff.mp ((c d).mp g))]at e;cases e
theorem alike{bk c:Bk}{own b:Own}(p:c.Perm bk)(d:(bk.map c0).Nodup)(q:b.Perm own)(no:(own.map (·.1)).Nodup):Alike ⟨line,c,b⟩ ⟨line,bk,own⟩:=by
 have lk:∀a,aO.look ⟨line,c,b⟩ a=aO.look ⟨line,bk,own⟩ a:=λa=>B8 p d _;refine⟨lk,λa=>?_⟩;unfold aO.cQ aO.eS;rw[lk];show(if _ then b.lookup a.1 else none)=if _ then own.lookup a.1 else none;rw[JU no q]
def k4:gJ->UC
 |.told z=>.tuple [.str "told",.int z]
 |.miss n=>.tuple [.str "missing",.str n]
 |.gm ns=>.tuple [.str "endless",.tuple (ns.map Vl)]
theorem CQ{r:gJ}(h:mv H p r):Rep H (.ref p) (k4 r):=by
 cases r with
 |told z=>exact .tup h (.cons (.str _) (.cons (.int _) .nil))
 |miss n=>exact .tup h (.cons (.str _) (.cons (.str _) .nil))
 |gm ns=>obtain⟨t,h1,h2⟩:=h;exact .tup h1 (.cons (.str _) (.cons (.tup h2 (lU _ _)) .nil))
theorem mv.same{r:gJ}(h:mv H p r)(S:aw H H'):mv H' p r:=by
 cases r with
 |told z=>exact S _ _ h
 |miss n=>exact S _ _ h
 |gm ns=>obtain⟨t,h1,h2⟩:=h;exact⟨t,S _ _ h1,S _ _ h2⟩
theorem Lp{r:gJ}(a:∀n,r=.miss n->Nm n)(b:∀ns,r=.gm ns ->∀n∈ns,Nm n):(k4 r).canLay0=true/\(k4 r).depth<=60:=by
 cases r with
 |told z=>exact⟨by show(Vt "told" && (true&&true))=true;decide +kernel,by simp[k4,Yd,Ve]⟩
 |miss n=>exact⟨by show(Vt "missing" && (Vt n&&true))=true;rw[mi (a n rfl)];decide +kernel,by simp[k4,Yd,Ve]⟩
 |gm ns =>
  refine⟨?_,?_⟩
  ·show(Vt "endless" && (X6 (ns.map Vl)&&true))=true
   rw[nC (b ns rfl)];decide +kernel
  ·show max 0 (max (Ve (ns.map Vl)+1) 0)+1<=60
   rw[m3];decide
theorem Mo{W:aO}{a:Ask}{r:gJ}(c:W.Comes a r)(f:Nm a.1)(b:∀n∈NS,Nm n)(g:W.line.Nodup)(ne:∀k∈W.line,k ≠ "")(d:∀p∈W.bk,∀s∈cc p.2.2,a7 s = "ask" -> dX s∈NS):(k4 r).canLay0=true/\(k4 r).depth<=60:=by
 refine Lp (λn e=>?_) (λns e=>?_)
 ·subst e
  obtain⟨k,i⟩:=c;rcases pI d i with e|e
  ·rw[e];exact f
  ·exact b n e
 ·subst e
  exact λn h=>b n ((eO.is c g ne d).ee n h)
def g4(Wf:Th->aO)(ns:List Fv)(bN:List Th)(H:Hp)(Ql:List (Key×V)):Prop:= ∀x v,a' Ql (n' x)=ih v ->∃th∈bN,th.1=x /\∃dk kk ka,v=V.ref dk/\H dk=ih (.dT kk)/\f3 H kk ka/\Table (Wf th) (lg (Wf th) ns) ka
theorem g4.keep{c:Th->aO}{a:ac Th}(h:g4 c ns a H Ql)(d:∀b xs,H b=a2 xs->H' b=a2 xs)(f:∀b xs,H b=ce xs->H' b=ce xs):g4 c ns a H' Ql:=λx v e=>by
 obtain⟨th,g,i,dk,kk,ka,j,k,kn,T⟩:=h x v e;exact⟨th,g,i,dk,kk,ka,j,f _ _ k,kn.keep d,T⟩
theorem g4.same{c:Th->aO}{a:ac Th}(h:g4 c ns a H Ql)(S:aw H H'):g4 c ns a H' Ql:=h.keep (λb xs e=>S _ _ e) λb xs e=>S _ _ e
theorem qe{o:HO}(h:c9 p H)(e:H b=ih o)(a:∀xs,o ≠ .lst xs):b≠p:=by
 rintro rfl;obtain⟨x,y,e2,_⟩:=h;rw[e]at e2;exact a _ (cG e2)
theorem g4.dY{c:Th->aO}{a:ac Th}(h:g4 c ns a H Ql)(d:c9 p H)(f:br p H H'):g4 c ns a H' Ql:=h.keep (λb xs e=>f.kp _ _ e (qe d e λ_ z=>by cases z)) λb xs e=>f.kp _ _ e (qe d e λ_ z=>by cases z)
theorem NT(b:ks.length<=8)(c:line.Nodup)(a:∀k∈line,k∈ks):line.length<=8:=eg (mj c a) b
theorem pJ(h:aj K H a xs)(s:aw H H'):aj K H' a xs:=by
 rcases h with(h|⟨o,h⟩)|h
 ·exact .inl (.inl (s _ _ h))
 ·exact .inl (.inr ⟨o,s _ _ h⟩)
 ·exact .inr h
theorem oo{a:Hp}(S:aw Y H2)(c:Y p=none)(d:br p H2 a):aw Y a:=λb u e=>d.kp _ _ (S _ _ e) (ax e c)
theorem qf{ns:ac Int}{k:Int}{Q:VK}{E:XK}(h:aj K H a (ns.map V.int))(c:0<=k)(d:k<=100)(e:ns.length<=63)(q:∀p H',H p=none->c9 p H'->aw H H'->Q (.ref p) H'):qj K [.ref a,.int k] H Q E:=⟨rfl,h,c,d,e,λp x y b f g i=>q p _ b ⟨x,y,af,f,g,i⟩ (aJ b)⟩
structure LI(K:Ym)(H:Hp)(a d1 ln db td wd t tb tt:EZ)(sc:List Int)(ks ns:List Fv)(jO:List (Key×V))(L:Fv->List Fv)(kvs:List (List Key×V))(bM:Bk)(kt:List (Key×V))(bN:List Th)(wt:List V)(rb:List Th)(o:Yy)(ws wb:List V)(Qc:List (Fv×List Fv))(bk:Bk):Prop where
 sc:aj K H a (sc.map V.int)
 nn:d3 H ln ns
 h1:H d1=ih (.dK jO)
 l1:∀x∈ks,ec H jO L x
 hb:H db=ih (.dT kvs)
 dv:cx H kvs bM
 ht:H td=ih (.dK kt)
 tv:eZ H td kt bN
 wd:iB H wd t tb tt wt rb
 fb:FB H t tb o ws wb Qc L bk
theorem LI.same{e f g t tb:EZ}{sc:ac Int}{b:ac (Key×V)}{kvs:ac (List Key×V)}{bM:Bk}{i:ac (Key×V)}{d:ac Th}{c:ac Th}{bk:Bk}(h:LI K H a e f db td g t tb tt sc ks ns b L kvs bM i d wt c o ws wb Qc bk)(S:aw H H'):LI K H' a e f db td g t tb tt sc ks ns b L kvs bM i d wt c o ws wb Qc bk:=
 ⟨pJ h.sc S,h.nn.same S,S _ _ h.h1,λx j=>(h.l1 x j).same S,S _ _ h.hb,h.dv.same S,S _ _ h.ht,h.tv.same S,h.wd.same S,h.fb.same S⟩
abbrev O9:List Fv:=["_law_script","_law_pot_here","_law_alike","_law_kinds","_law_family_here","_law_lines","_law_names_here","_law_book_here","_law_things_here","_law_world_here","_law_tables","_law_k","_law_thing","_law_kind","_law_own","_law_some","_law_name","_law_behind","_law_told_here"]
theorem en:bf O9 ["_law_script"] (aI qF):=bz
abbrev g5:List U6:=l2 (bR (bE qF) 10)
@[irreducible] def cJ(k:Nat):List U6:=g5.drop k
theorem QL:g5=cJ 0:=by unfold cJ;rfl
theorem QM:cJ 0=bR g5 0::cJ 1:=by unfold cJ;rfl
theorem QN:cJ 1=bR g5 1::cJ 2:=by unfold cJ;rfl
theorem QO:cJ 2=bR g5 2::cJ 3:=by unfold cJ;rfl
theorem QP:cJ 3=bR g5 3::cJ 4:=by unfold cJ;rfl
theorem QQ:cJ 4=bR g5 4::cJ 5:=by unfold cJ;rfl
theorem QR:cJ 5=bR g5 5::cJ 6:=by unfold cJ;rfl
theorem vP:cJ 6=bR g5 6::cJ 7:=by unfold cJ;rfl
theorem QS:cJ 7=bR g5 7::cJ 8:=by unfold cJ;rfl
theorem QT:cJ 8=bR g5 8::cJ 9:=by unfold cJ;rfl
theorem QU:cJ 9=[bR g5 9]:=by unfold cJ;rfl
theorem Mp{l a:ac U6}{t:TS}(h:l=a)(p:dc X a t):dc X l t:=h ▸ p
theorem iZ{l c:ac U6}{s:U6}{t u:TS}(h:l=s::c)(a:PS X s t)(b:dc X c u):dc X l (qy t u):=by rw[h];exact au a b
theorem Mq{l:ac U6}{s:U6}{t:TS}(h:l=[s])(a:PS X s t):dc X l t:=by rw[h];exact aA a
inductive mq(K:Ym)(vs:List V)(H:Hp)(Q:VK)(E:XK):Prop
 |mk{a:EZ}{ns:List Int}(_:vs=[.ref a])(_:aj K H a (ns.map V.int))(_:ns.length<=63)(_:∀H',Q (.bl true) H'):mq K vs H Q E
theorem Mr{fP fF fB fW fO fK:EZ}{dP dF dB dO dK:X2}(F:aQ K "law" "law" qF f fd)(B:df mg)(B2:hO mg)(B3:va mg)
  (xv:bF P w K mg base aG 1 fP dP ["_law_script","_law_k"] (qj K) "_law_pot")
  (yi:bF P w K mg base aG 1 fD dD ["_law_pot_here","_law_many"] hC "_law_digit")
  (z5:bF P w K mg base aG 3 fN dN ["_law_pot_here","_law_many"] iR "_law_names")
  (GF:bF P w K mg base aG 3 fF dF ["_law_pot_here","_law_kinds"] qI "_law_family")
  (GC:bF P w K mg base aG 4 fC dC rE my "_law_called")
  (GB:bF P w K mg base aG 5 fB dB vN rg "_law_book")
  (GT:bF P w K mg base aG 5 fT dT vL q' "_law_things")
  (GW:bF P w K mg base aG 1 fW dW vM ra "_law_world")
  (GK:bF P w K mg base aG 3 fK dK vK q9 "_law_known")
  (x6:bF P w K mg base aG 10 fO dO vJ om "_law_told")
  (GI:bF P w K mg base aG 4 fI dI vQ rk "_law_is") :
  aT P w K mg base aG 11 f fd ["_law_script"] (mq K):=by
 refine F.bG en λQa A outer s H vs Q E y6 h=>?_
 ·obtain @⟨a,sc,rfl,xM,yp,q⟩:=h
  have z6:=y6.units;have xb:=eu z6;have zg:aZ 10 _:=y6;have yU:aZ 5 _:=zg.mono (by decide)
  have zU:aZ 4 _:=zg.mono (by decide)
  have zp:aZ 3 _:=zg.mono (by decide)
  have J:aZ 1 _:=zg.mono (by decide)
  intro X;refine⟨_,au (aY 1 en.nd (a9 xv J (aa (pv 0) (aa ar ah))))
   (au (aY 2 en.nd (jA c7 (a9 yi J (aa (pv 1) (aa ar ah))) ar (bA _)))
   (au (aY 3 en.nd (a9 z5 zp (aa (pv 1) (aa (bx eV ar (a9 yi J (aa (pv 1) (aa ar ah)))) ah))))
   (au (iT (a9 GF zp (aa (pv 1) (aa (pv 3) ah))) (ib rfl (cZ (bb 4 en.nd) (cZ (bb 5 en.nd) gw))))
   (au (aY 1 en.nd (a9 xv J (aa (pv 0) (aa ar ah))))
   (au (aY 6 en.nd (a9 GC zU (aa (pv 1) (aa (bx eV ar (a9 yi J (aa (pv 1) (aa ar ah)))) (aa (pv 2) (aa (pv 3) ah))))))
   (au (aY 7 en.nd (a9 GB yU (aa (pv 1) (aa (pv 3) (aa (pv 6) ah)))))
   (au (aY 8 en.nd (a9 GT yU (aa (a9 xv J (aa (pv 0) (aa ar ah))) (aa (pv 2) (aa (pv 3) (aa (pv 6) ah))))))
   (au (aY 9 en.nd (a9 GW J (aa (pv 4) (aa (pv 7) (aa (pv 8) ah)))))
   (au (aY 10 en.nd lS)
   (au (eG d5 rfl (HN rfl B.range (aa ar (aa (bT (AM rfl) rfl B.max boot_max (aa ar (aa (bT (AN rfl) rfl B.min boot_min (aa ar (aa (bT eM rfl B.len ez (aa (pv 0) ah)) ah))) ah))) ah))) (bb 11 en.nd) (Mp QL
    (iZ QM (aY 1 en.nd (a9 xv J (aa (pv 0) (aa (pv 11) ah))))
    (iZ QN (aY 12 en.nd (aU dw (dq (sg rfl) rfl B.list boot_list (aa (pv 8) ah)) (a9 yi J (aa (pv 1) (aa (bT Iw rfl B.len ez (aa (pv 8) ah)) ah)))))
    (iZ QO (iT (d0 xb (pv 8) (pv 12)) (ib rfl (cZ (bb 13 en.nd) (cZ (bb 14 en.nd) gw))))
    (iZ QP (bh (fQ (pd xb (pv 12) (pv 10))) (aA (gx xb (pv 10) (pv 12) (a9 GK zp (aa (d0 xb (pv 5) (pv 13)) (aa (pv 7) (aa (pv 14) (aa (pv 6) ah))))) rfl)) bD)
    (iZ QQ (aY 15 en.nd (bx hG (bx hG (bx hG (pv 6) (pv 6)) (dq (sg rfl) rfl B.list boot_list (aa (pv 14) ah))) (a9 z5 zp (aa (pv 1) (aa ar ah)))))
    (iZ QR (aY 16 en.nd (aU dw (pv 15) (a9 yi J (aa (pv 1) (aa (bT eM rfl B.len ez (aa (pv 15) ah)) ah)))))
    (iZ vP (aY 17 en.nd (aU dw (bx hG (bx JB (ej (aa bq ah)) ar) (d0 xb (pv 5) (pv 13))) (a9 yi J (aa (pv 1) (aa (bx eV ar (bT eM rfl B.len ez (aa (d0 xb (pv 5) (pv 13)) ah))) ah)))))
    (iZ QS (aY 18 en.nd (a9 x6 zg (aa (pv 9) (aa (pv 12) (aa (pv 16) (aa (pv 17) ah))))))
    (iZ QT (bh (hF (hE (a9 GI zU (aa (d0 xb (pv 5) (pv 13)) (aa (pv 7) (aa (pv 14) (aa (d0 xb (pv 10) (pv 12)) (aa (fk (aa (pv 16) (aa (pv 17) ah))) (aa (pv 18) ah)))))))))
     (aA (aX jG)) bD)
    (Mq QU (bh (bp (p0 z6) (a9 x6 zg (aa (pv 9) (aa (pv 12) (aa (pv 16) (aa (pv 17) ah))))) (pv 18) (bA _))
     (aA (aX jG)) bD)))))))))))))
   (aA (aX jG)))))))))))),?_⟩
  refine f7 λU d=>?_;intro g N;refine⟨_,rfl,qf (k:=0) xM (by decide) (by decide) yp λp Y hp pk x7=>?_⟩
  refine b5 d λU d=>?_;intro g N;refine⟨_,rfl,cT (p:=p) (m:=4) pk (by decide) (by decide) λal H2 a0 a1 p2=>⟨rfl,?_⟩⟩
  generalize decide (V.int al=V.int 0)=yM;refine b5 d λU d=>?_;intro g N;refine⟨_,rfl,_,rfl,cT (p:=p) (m:=8) p2.ok (by decide) (by decide) λdk H3 b0 b1 p3=>⟨1,dk,rfl,rfl,?_⟩⟩
  obtain⟨mk,rfl⟩:=gO b0;have zM:=p2.trans p3;refine iR.mk (m:=1+mk) (by rw[FY];rfl) zM.ok (by omega) λlk ks H4 VQ kl xq yD p4 xe=>?_
  have yv:ks.length<=8:=by omega
  have QV:ks ≠ []:=λz=>by rw[z,jm]at kl;omega
  have zv:=zM.trans p4;refine b5 d λU d=>?_;intro g N;refine⟨_,rfl,_,rfl,qI.mk rfl zv.ok xe yD xq yv λr t xa o ws xC L Ps Qc xN D=>⟨r,_,rfl,ay.of D.hr,rfl,_,_,rfl,_,_,rfl,rfl,?_⟩⟩;have y7:=zv.trans D.pa;have yN:aw H xN:=oo x7 hp y7;have xV:d3 xN lk ks:=⟨D.pa.kp _ _ xe (fJ zv.ok xe),QV,by omega,xq,yD⟩
  refine b5 d λU d=>?_;intro g N;refine⟨_,rfl,qf (k:=1) (pJ xM yN) (by decide) (by decide) yp λp' H6 rB zD O=>?_⟩
  have xE:=xV.same O;refine b5 d λU d=>?_;intro g N;refine⟨_,rfl,_,rfl,cT (p:=p') (m:=6) zD (by decide) (by decide) λdn H7 zi zl p7=>⟨1,dn,rfl,rfl,_,rfl,_,rfl,?_⟩⟩
  obtain⟨mn,rfl⟩:=gO zi;refine my.mk (m:=1+mn) (al:=yM) (by rw[FY];rfl) p7.ok (by omega) (by omega) (xE.dY zD p7) λxm ns H8 z7 yE nl=>?_
  have xj:=p7.trans z7;have n6:ns.length<=6:=by omega
  have zE:=xE.dY zD xj;refine b5 d λU d=>?_;intro g N;refine⟨_,rfl,_,rfl,_,rfl,rg.mk rfl xj.ok zE yE yv n6 λdb kvs bM xw yw VR xF dv xh xp O'=>?_⟩;have x8:=xj.trans yw;have yj:aw xN xw:=oo O rB x8;have yq:=zE.dY xj.ok yw;have zk:=yE.dY xj.ok yw;have xS:∀x∈ks,ec xw xC L x:=λx C=>(D.l1 x C).same yj;have yS:=yj _ _ D.h1;have zS:=yj _ _ D.ht;have xT:=D.fv.same yj;have Pa:=(D.fm.M9 yD xq yv).perm D.pm;have QW:=D.od;have fld:=D.fm.ld;have NV:∀x∈ks,x∈Qc.map (·.1):=λx C=>a4.mpr ⟨(x,Ps x),D.pm.mem_iff.mpr (a4.mpr ⟨x,C,rfl⟩),rfl⟩;have yF:=pJ xM (yN.trans yj);clear D y7 zv zM xj x8 yw z7 p7 p4 p3 p2 zE xE xV yE xe O yj yN x7;refine b5 d λU d=>?_;intro g N;refine⟨_,rfl,qf (k:=2) yF (by decide) (by decide) yp λVS G1 rz QX zq=>?_⟩
  refine⟨_,rfl,_,rfl,_,rfl,q'.mk rfl QX (yq.same zq) (zk.same zq) λtd R j G2 y8 VT zF tv to QY t5=>?_⟩;have zw:aw xw G2:=oo zq rz y8;refine b5 d λU d=>?_;intro g N;refine⟨_,rfl,_,rfl,_,rfl,ra.mk rfl (zw _ _ xF) (dv.same zw) xh zF tv to t5 λxx tb tt wb wt bk yT ya yx yV zV z8 pm ts=>?_⟩;have Z:aw xw ya:=zw.trans yx;have I:LI K ya a xa xm db td xx t tb tt sc ks ns xC L kvs bM R j wt yT o ws wb Qc bk:=
   ⟨pJ yF Z,zk.same Z,Z _ _ yS,λx C=>(xS x C).same Z,Z _ _ xF,dv.same Z,yx _ _ zF,tv.same yx,yV,⟨Z _ _ zS,QW,xT.same Z,Pa,zV,z8,CM pm xh⟩⟩
  have xW:∀x∈ks,∀y∈L x,Nm y:=λx C y ye=>xq y ((fld x C).2 y ye);have xG:∀x∈ks,∀y∈L x,y ≠ "" :=λx C y ye z=>by have:=(xW x C y ye).lo;rw[z]at this;exact absurd this (by decide)
  have x9:∀x∈ks,(L x).length<=8:=λx C=>NT yv (fld x C).1 (fld x C).2;have yW:∀q∈bM,q.2.1∈ns:=λq ym=>(O' q ym).2;have xl:=zk.nm;have QZ:=zk.nd;have Q0:=CM pm xh;have Pb:∀q∈bk,∀s∈cc q.2.2,a7 s = "ask" -> dX s∈ns:=λq ym=>xp q (pm.mem_iff.mp ym);clear yV zV z8 zF tv yx Z zw y8 zq dv xF yF xT zS yS xS zk yq;refine b5 d λU d=>?_;intro g N;intro l zW;have zN:=aJ (o:=.dK []) zW;have xX:upd ya l (.dK []) l=bn []:=af;generalize upd ya l (.dK [])=xO at zN xX⊢;refine b5 d λU d=>?_;intro g N;refine⟨_,rfl,a,_,rfl,.inl (I.same zN).sc,_,_,rfl,_,_,rfl,_,_,rfl,?_,kj (λi σ G=>∃(yO yG zG xH yH xr yr zr xt:ad V) (Ql:ac (Key×V)),σ=[am a,yO,ih (.bl yM),am lk,am t,am xa,am xm,am db,am td,am xx,am l,yG,zG,xH,yH,xr,yr,zr,xt]/\aw ya G/\G l=bn Ql/\g4 (λth=>⟨L th.2.1,bM,th.2.2⟩) ns j G Ql/\Ql.length<=i)
   ⟨_,none,none,none,none,none,none,none,none,[],rfl,zN,xX,λx v e=>(by cases e),aP _⟩ ?_ ?_⟩
  ·refine⟨by decide,by decide,?_,?_⟩ <;> (rw[aB];repeat' split <;> omega)
  ·rintro i σ G hi ⟨yO,yG,zG,xH,yH,xr,yr,zr,xt,Ql,rfl,zx,yt,zH,Q1⟩
   refine iO ?_;intro g E2;have VN:i<10:=by
    refine eT hi ?_;rw[aB];repeat' split <;> omega
   have xy:=I.same zx;refine f7 λU d=>?_;intro g xc;refine⟨_,rfl,_,rfl,qf xy.sc (by omega) (by omega) yp λyc xO xI yX zO=>?_⟩
   have xP:=xy.same zO;refine b5 d λU d=>?_;intro g xc;have Q2:R.length=j.length:=cK I.tv;have Qy:0<j.length:=lC.mpr QY;have ek:R.map (λzc=>kV zc.1)=(j.map (·.1)).map V.str:=by
    have:R.map (λzc=>kV zc.1)=(R.map (·.1)).map kV:=by rw[c5];rfl
    rw[this,I.tv.keys,c5];rfl
   refine⟨_,rfl,td,R,rfl,xP.ht,λlt zX=>?_⟩;rw[ek];have zm:=(br.refl yX).new (o:=.lst ((j.map (·.1)).map V.str)) zX;have W:upd xO lt (.lst ((j.map (·.1)).map V.str)) lt=bd ((j.map (·.1)).map V.str):=af;have yP:=xP.same (aJ (o:=.lst ((j.map (·.1)).map V.str)) zX);generalize upd xO lt (.lst ((j.map (·.1)).map V.str))=G5 at zm W yP⊢;refine⟨_,rfl,_,rfl,td,R,rfl,yP.ht,?_⟩;rw[Q2];refine cT (p:=yc) (m:=(j.length:Int)) zm.ok (by omega) (by omega) λVU G6 e0 e1 ze=>?_
   obtain⟨xf,rfl⟩:=gO e0;have Q5:xf<j.length:=by omega
   obtain⟨th,yh⟩:∃th,j[xf]?=ih th:=⟨j[xf],bw Q5⟩;have zt:=eK yh;have yf:=zm.trans ze;have xn:aw G G6:=oo zO xI yf;have zj:=xy.same xn;refine⟨lt,_,(xf:Int),V.str th.1,rfl,rfl,aj.of (ze.kp _ _ W (fJ zm.ok W)),cq (by rw[cI,cI,yh];rfl),?_⟩
   refine b5 d λU d=>?_;intro g xc;obtain⟨zc,xY⟩:∃zc,R[xf]?=ih zc:=⟨R[xf],bw (by omega)⟩
   obtain⟨VV,zT,Q6,ta,y9,zf,VW,VX,eJ,yI⟩:=L2.Paired.get I.tv xY;rw[yh]at zT;cases zT
   have z9:=tY (I.tv.nodup to.nd) xY;rw[zf,Q6]at z9;have DG:∀{xd:Hp},xd td=bn R->b4 xd td (.str th.1) (ih (.ref ta)):=λe=>by rw[<-z9];exact b4.k (k:=n' th.1) e
   have M:=to.kd th zt;have zI:=to.ow th zt;obtain⟨xg,Q7,xu⟩:=I.l1 th.2.1 M;have yy:∀{xd:Hp},xd xa=bn xC->b4 xd xa (.str th.2.1) (ih (.ref xg)):=λe=>by rw[<-Q7];exact b4.k (k:=n' th.2.1) e
   have O:=zx.trans xn;refine⟨_,rfl,_,rfl,td,.ref ta,rfl,DG zj.ht,ta,_,rfl,ay.of (O _ _ eJ),rfl,_,_,rfl,_,_,rfl,rfl,?_⟩;refine b5 d λU d=>?_;intro g xc;have yu:=zH.same xn;have zu:=xn _ _ yt;have yY:l≠yc:=ax yt xI;refine⟨_,rfl,_,rfl,l,_,rfl,b4.k (k:=n' th.1) zu,?_⟩;refine⟨_,rfl,uP (λzY H'=>∃(za:ac (Key×V)) (dk:EZ) (kk:ac (List Key×V)) (ka:ac (Ask×Rs)),zY=[am a,am yc,ih (.bl yM),am lk,am t,am xa,am xm,am db,am td,am xx,am l,ih (V.int (3+(i:Int))),ih (.str th.1),ih (.str th.2.1),am y9,xr,yr,zr,xt]/\aw ya H'/\c9 yc H'/\H' l=bn za/\g4 (λth=>⟨L th.2.1,bM,th.2.2⟩) ns j H' za/\za.length<=i+1/\a' za (n' th.1)=ih (.ref dk)/\H' dk=ce kk/\f3 H' kk ka/\Table ⟨L th.2.1,bM,th.2.2⟩ (lg ⟨L th.2.1,bM,th.2.2⟩ ns) ka) (λe k=>?_) (λe=>?_) ?_⟩
   ·have e0:a' Ql (n' th.1)=none:=by
     cases z:a' Ql (n' th.1) with
     |none=>rfl
     |some v=>rw[z]at e;cases e
    refine⟨_,rfl,_,rfl,xa,.ref xg,rfl,yy zj.h1,_,rfl,_,rfl,_,rfl,q9.mk rfl (O _ _ xu) zj.hb zj.dv xh (O _ _ yI) zj.nn.hl QZ (fld _ M).1 (xG _ M) (by omega) (x9 _ M) xp yW λdk kk ka xk zy VY yb kn T=>?_⟩
    have xJ:=zy _ _ zu;refine⟨_,rfl,_,rfl,l,_,rfl,eR.k (k:=n' th.1) xJ (by rw[aV];omega),?_⟩
    rw[iN _ e0];have up:∀{zs:ac (Key×V)} b u,b≠l->xk b=ih u->upd xk l (.dK zs) b=ih u:=λb u n e=>by rw[ag n];exact e
    have zP:∀{zs:ac (Key×V)} b xs,xk b=a2 xs->upd xk l (.dK zs) b=a2 xs:=λb xs e=>up _ _ (aq e xJ) e
    have xQ:∀{zs:ac (Key×V)} b xs,xk b=ce xs->upd xk l (.dK zs) b=ce xs:=λb xs e=>up _ _ (aq e xJ) e
    refine k _ _ ⟨_,dk,kk,ka,rfl,λb u e=>up _ _ (ax e zW) (zy _ _ (O _ _ e)),?_,af,λx v zf=>?_,?_,?_,xQ _ _ yb,kn.keep zP,T⟩
    ·obtain⟨x,y,h,r⟩:=yf.ok
     exact⟨x,y,up _ _ (aS yY) (zy _ _ h),r⟩
    ·rw[pb _ _ _ _ e0]at zf
     by_cases c:x=th.1
     ·subst c
      rw[aE rfl]at zf;cases zf
      exact⟨th,zt,rfl,dk,kk,ka,rfl,xQ _ _ yb,kn.keep zP,T⟩
     ·rw[ao (λz=>c (gq z))]at zf
      exact((yu.same zy).keep zP xQ) x v zf
    ·rw[bV,jl];omega
    ·rw[pb _ _ _ _ e0,aE rfl]
   ·cases z:a' Ql (n' th.1) with
    |none=>rw[z]at e;exact absurd rfl e
    |some v =>
     obtain⟨xZ,Q8,Q',dk,kk,ka,Ra,yb,kn,T⟩:=yu _ _ z;have:xZ=th:=by
      obtain⟨j',yJ,yZ⟩:=wK.mp Q8;have e1:(j.map (·.1))[j']?=(j.map (·.1))[xf]?:=by rw[cI,cI,yh,bw yJ,yZ];show ih xZ.1=ih th.1;rw[Q']
      have:=(FG (by rw[aB];exact yJ) to.nd).mp e1
      subst this;rw[bw yJ,yZ]at yh;exact cG yh
     subst this;exact⟨Ql,dk,kk,ka,rfl,O,yf.ok,zu,yu,by omega,by rw[z,Ra],yb,kn,T⟩
   rintro zY yQ ⟨za,dk,kk,ka,rfl,SJ,xz,zZ,x0,VZ,Rb,yb,kn,T⟩;clear yu zu zj O xn yf ze W zm yP xP zO zH yt xy yX;have Pc:ya yc=none:=zx.free xI;have zd:∀{yk:Hp},br yc yQ yk->aw ya yk/\yk l=bn za/\yk dk=ce kk/\f3 yk kk ka/\g4 (λth=>⟨L th.2.1,bM,th.2.2⟩) ns j yk za:=λyn=>⟨oo SJ Pc yn,yn.kp _ _ zZ yY,yn.kp _ _ yb (qe xz yb λ_ z=>by cases z),kn.keep λb xs e=>yn.kp _ _ e (qe xz e λ_ z=>by cases z),x0.dY xz yn⟩
   have zJ:∀n:Nat,n<=200->n<=UB:=λn h=>by rw[aV];omega
   refine b5 d λU d=>?_;intro g xc;have lJ:=I.same SJ;refine⟨_,rfl,_,rfl,xm,xm,_,_,rfl,rfl,lJ.nn.hl,lJ.nn.hl,zJ _ (by rw[aB];omega),λzi Rc=>?_⟩
   rw[<-a8];have yz:=(br.refl xz).new (o:=.lst ((ns++ns).map V.str)) Rc;have h0:upd yQ zi (.lst ((ns++ns).map V.str)) zi=bd ((ns++ns).map V.str):=af;generalize upd yQ zi (.lst ((ns++ns).map V.str))=J1 at yz h0⊢;refine⟨_,rfl,y9,_,rfl,(zd yz).1 _ _ yI,λlo y0=>?_⟩;have eo:(c1 th.2.2).map (λzc=>kV zc.1)=(th.2.2.map (·.1)).map V.str:=by unfold c1 gb;rw[c5,c5,c5];rfl
   rw[eo];have xK:=aJ (o:=.lst ((th.2.2.map (·.1)).map V.str)) y0 _ _ h0;have zQ:=yz.new (o:=.lst ((th.2.2.map (·.1)).map V.str)) y0;have h1:upd J1 lo (.lst ((th.2.2.map (·.1)).map V.str)) lo=bd ((th.2.2.map (·.1)).map V.str):=af;generalize upd J1 lo (.lst ((th.2.2.map (·.1)).map V.str))=J2 at zQ xK h1⊢;refine⟨zi,lo,_,_,rfl,rfl,xK,h1,zJ _ (by rw[aB,aB,aB,bV];omega),λzl Rf=>?_⟩
   rw[<-a8];have zn:=zQ.new (o:=.lst ((ns++ns++th.2.2.map (·.1)).map V.str)) Rf;have h2:upd J2 zl (.lst ((ns++ns++th.2.2.map (·.1)).map V.str)) zl=bd ((ns++ns++th.2.2.map (·.1)).map V.str):=af;generalize upd J2 zl (.lst ((ns++ns++th.2.2.map (·.1)).map V.str))=J3 at zn h2⊢;refine⟨_,rfl,iR.mk (m:=1) rfl zn.ok (by decide) λlm zz J4 V0 ml Rg V1 xR xe=>?_⟩
   have Q4:=zn.trans xR;have z0:=xR.kp _ _ h2 (fJ zn.ok h2);refine⟨zl,lm,_,_,rfl,rfl,z0,xe,zJ _ (by rw[aB,aB,bV,bV,aB];omega),λxo Rh=>?_⟩
   rw[<-a8];have yK:∀y∈ns++ns++th.2.2.map (·.1)++zz,Nm y:=λy ye=>by
    rcases bI.mp ye with z|z
    ·rcases bI.mp z with z|z
     ·rcases bI.mp z with z|z
      ·exact xl y z
      ·exact xl y z
     ·obtain⟨x,C,rfl⟩:=a4.mp z;exact zI.1.nm x C
    ·exact Rg y z
   have z1:0<(ns++ns++th.2.2.map (·.1)++zz).length:=by rw[bV];omega
   have z2:(ns++ns++th.2.2.map (·.1)++zz).length<=100:=by rw[bV,bV,bV,aB];omega
   generalize ns++ns++th.2.2.map (·.1)++zz=yd at yK z1 z2⊢;have yo:=Q4.new (o:=.lst (yd.map V.str)) Rh;have W:upd J4 xo (.lst (yd.map V.str)) xo=bd (yd.map V.str):=af;generalize upd J4 xo (.lst (yd.map V.str))=J5 at yo W⊢;clear z0 xe xR Q4 h2 zn h1 xK zQ h0 yz;refine b5 d λU d=>?_;intro g xc;refine⟨_,rfl,_,rfl,_,rfl,xo,_,rfl,.inl (aj.of W),?_⟩;rw[aB];refine cT (p:=yc) (m:=(yd.length:Int)) yo.ok (by omega) (by omega) λdm J6 f0 f1 ze=>?_
   obtain⟨xA,rfl⟩:=gO f0;have Ri:xA<yd.length:=by omega
   obtain⟨name,zB⟩:∃x,yd[xA]?=ih x:=⟨yd[xA],bw Ri⟩;have zK:=yK name (eK zB);refine⟨xo,_,(xA:Int),V.str name,rfl,rfl,aj.of (ze.kp _ _ W (fJ yo.ok W)),cq (by rw[cI,zB];rfl),?_⟩
   have yf:=yo.trans ze;clear W ze yo zB yK z1 z2;refine b5 d λU d=>?_;intro g xc;have NW:=x9 _ M;refine⟨eI,λx1 Rj=>⟨x1,_,rfl,rfl,aj.of af,λx2 Rk=>?_⟩⟩;have zo:=(yf.new (o:=.lst [V.str ""]) Rj).new (o:=.lst [V.str "",.str "",.str "",.str "",.str "",.str "",.str "",.str ""]) Rk;have yR:upd (upd J6 x1 (.lst [V.str ""])) x2 (.lst [V.str "",.str "",.str "",.str "",.str "",.str "",.str "",.str ""]) x2=bd [V.str "",.str "",.str "",.str "",.str "",.str "",.str "",.str ""]:=af;generalize upd (upd J6 x1 (.lst [V.str ""])) x2 (.lst [V.str "",.str "",.str "",.str "",.str "",.str "",.str "",.str ""])=J7 at zo yR⊢;refine⟨_,rfl,_,rfl,xa,.ref xg,rfl,yy (I.same (zd zo).1).h1,x2,xg,_,_,rfl,rfl,yR,(zd zo).1 _ _ xu,by rw[aB,aV];show 8+_<=_;omega,λx3 Rl=>?_⟩
   have eb:([V.str "",.str "",.str "",.str "",.str "",.str "",.str "",.str ""]:ac V)++(L th.2.1).map V.str=((["","","","","","","",""]:ac Fv)++L th.2.1).map V.str:=by rw[a8];rfl
   rw[eb];have bl:((["","","","","","","",""]:ac Fv)++L th.2.1).length=8+(L th.2.1).length:=by rw[bV];rfl
   have yC:∀y∈((["","","","","","","",""]:ac Fv)++L th.2.1),y = "" \/ y∈L th.2.1:=λy ye=>by
    rcases bI.mp ye with z|z
    ·left;simpa using z
    ·exact .inr z
   generalize ((["","","","","","","",""]:ac Fv)++L th.2.1)=bs at bl yC⊢;have yg:=zo.new (o:=.lst (bs.map V.str)) Rl;have yA:upd J7 x3 (.lst (bs.map V.str)) x3=bd (bs.map V.str):=af;generalize upd J7 x3 (.lst (bs.map V.str))=J8 at yg yA⊢;refine⟨_,rfl,_,rfl,_,rfl,xa,.ref xg,rfl,yy (I.same (zd yg).1).h1,xg,_,rfl,.inl (aj.of ((zd yg).1 _ _ xu)),_,_,rfl,rfl,?_⟩
   dsimp only
   rw[aB];refine cT (p:=yc) (m:=8+((L th.2.1).length:Int)) yg.ok (by omega) (by omega) λV2 J9 g0 g1 zR=>?_
   obtain⟨zA,rfl⟩:=gO g0;have Rm:zA<bs.length:=by omega
   obtain⟨zh,zC⟩:∃x,bs[zA]?=ih x:=⟨bs[zA],bw Rm⟩;have y3:=yC zh (eK zC);refine⟨x3,_,(zA:Int),V.str zh,rfl,rfl,aj.of (zR.kp _ _ yA (fJ yg.ok yA)),cq (by rw[cI,zC];rfl),?_⟩
   have Q9:=yg.trans zR;obtain⟨S9,z3,yq,Rn,Ro⟩:=zd Q9;clear yA zR yg yR zo yf zd zC bl yC kn yb x0 zZ;refine b5 d λU d=>?_;intro g xc;obtain⟨xB,Rp,x4,xi,y4⟩:=ts th zt;have al:Alike ⟨L th.2.1,bk,xB.2.2⟩ ⟨L th.2.1,bM,th.2.2⟩:=alike pm xh.nd y4 zI.1.nd;have ask:∀{xd:Hp},aw ya xd->kW xx t tb tt wt yT xB o ws wb Qc L bk (ns++[name]) (name,zh) xd:=λS=>⟨(I.same S).wd,(I.same S).fb,Rp,by rw[xi];exact NV _ M,(y4.map (·.1)).nodup_iff.mpr zI.1.nd,⟨Q0,λq ym s hs e=>fA _ (Pb q ym s hs e),λn hn=>(bI.mp hn).elim (xl n) λz=>by rw[bL.mp z];exact zK,by rw[bV,jl];omega,by rw[xi];show(L th.2.1).length<=9;omega,by rw[xi];exact xW _ M⟩,⟨c4 _ aW,by rw[xi];exact y3⟩⟩
   refine⟨_,rfl,_,rfl,_,rfl,_,rfl,om.mk (th:=xB) (a:=(name,zh)) (by rw[x4];rfl) (ask S9) λr z4 p2 V3 yl av=>?_⟩
   rw[xi]at z4;have xD:=al.comes z4;have yB:=S9.trans yl;have xL:=I.same yB;refine b5 d λU d=>?_;intro g xc;refine⟨_,rfl,_,rfl,xa,.ref xg,rfl,yy xL.h1,_,rfl,_,rfl,_,rfl,_,rfl,l,.ref dk,rfl,by rw[<-Rb];exact b4.k (k:=n' th.1) (yl _ _ z3),_,rfl,_,rfl,bQ,λky V4 zb _ Rq=>⟨_,rfl,rk.mk (NS:=ns) (a:=(name,zh)) rfl ⟨(yB.trans zb) _ _ xu,(xL.same zb).hb,(xL.same zb).dv,xh,(yB.trans zb) _ _ yI,NW⟩ ((yl.trans zb) _ _ yq) (Rn.same (yl.trans zb)) T Rq y3 zK (av.same zb) xD (fld _ M).1 (xG _ M) (by omega) xl xp yW λV5 Rr=>?_⟩⟩
   refine⟨_,rfl,ite_ff rfl ?_⟩;have yL:=zb.trans Rr;have x5:=yB.trans yL;refine gi d ?_;intro g;refine⟨_,rfl,_,rfl,_,rfl,_,rfl,om.mk (th:=xB) (a:=(name,zh)) (by rw[x4];rfl) (ask x5) λr' xU p3 V6 zL Rt=>?_⟩
   rw[xi]at xU;have:=Comes.uniq xD (al.comes xU);subst this;obtain⟨y1,y2⟩:=Mo (NS:=ns) xD zK xl (fld _ M).1 (xG _ M) xp;refine⟨_,rfl,_,_,CQ Rt,CQ (av.same (yL.trans zL)),y1,y1,y2,_,rfl,ite_ff (by rw[VJ _ y1];rfl) ?_⟩
   have y5:=yl.trans (yL.trans zL);exact⟨_,_,_,_,_,_,_,_,_,za,rfl,x5.trans zL,y5 _ _ z3,Ro.same y5,by omega⟩
  ·rintro σ G ⟨yO,yG,zG,xH,yH,xr,yr,zr,xt,Ql,rfl,zx,yt,zH,Q1⟩
   refine gi d ?_;intro g;exact q G
end ew
namespace ew
open L2 W
def EL(K:Ym)(LE M N:EZ):Bool:=p9 K M&&(mroIn K M (.ref M)==ih true&&(Yf K (.ref M) "name" == ih none&&(Yr K (.ref M)&&(readsIn K LE (.type "type")&&(specialIn K (.ref LE) "__getattribute__" == ih (ih (.builtin "type.__getattribute__"))&&(p9 K N&&(mroIn K N (.ref M)==ih false&&(mroIn K N (.ref N)==ih true&&(Yf K (.ref N) "names" == ih none&&Yr K (.ref N))))))))))
theorem all_mk{l:aai}{xh:EZ}(X:K.In h)(G:h.Ns UU mg)(zo:mg "law" = ih (.ref xh)){LE N L q:EZ}{xp:Tok}{zi:ad EZ}{xj:Array (Option i')}{yj:i'}{zj:Nat}{xk yk:ad EZ}{zk:Array (Option i')}{xl yl zl xm I ym:i'}
  (hd:ru K [pr "is_name" nI,pr "check_name" tL,pr "goes_first" sj,pr "steps_of" sT,pr "merged" nJ,pr "least_free" p1,pr "wish_against" n0,pr "lines_of" l7,pr "line_from" m9,pr "finds_in" sU,pr "is_behind" sF,pr "check_behind" tM,pr "entries_by_place" nu,pr "is_thing" ny,pr "check_thing" tN,pr "kind_and_own" nz,pr "whole_asked" sd,pr "whole_of" sV,pr "round_from" kg,pr "_law_pot" u9,pr "_law_digit" nP,pr "_law_names" iV,pr "_law_merged" h9,pr "_law_line" nQ,pr "_law_parents" sG,pr "_law_family" nA,pr "_law_called" tO,pr "_law_number" tP,pr "_law_step" uA,pr "_law_entry" nR,pr "_law_book" uB,pr "_law_things" tQ,pr "_law_world" nS,pr "_law_spot" uC,pr "_law_steps" tR,pr "_law_go" vz,pr "_law_known" nT,pr "_law_leads" nU,pr "_law_is_round" ku,pr "_law_told" uD,pr "_law_is" vA,pr "law" qF])
  (hz:u5 K ["len","max","min","abs","range","any","all","list","tuple","enumerate","isinstance","str","dict","sorted","int","bool","set"])
  (O:nsIn K UU "LineError" = ih (ih (.ref LE)))
  (cD:CO K "Finds" D ["lines","entries","hits","met"] [tr "__init__" "Finds.__init__" uE,tr "look" "Finds.look" uF,tr "walk" "Finds.walk" uG])
  (cC:CO K "Whole" C ["finds","kind","own","kept","known","begun"] [tr "__init__" "Whole.__init__" ug,tr "forebears" "Whole.forebears" sk,tr "tell" "Whole.tell" uH,tr "enter" "Whole.enter" nV,tr "go_on" "Whole.go_on" uI,tr "come_to" "Whole.come_to" tS,tr "settle" "Whole.settle" nK])
  (cR:CO K "Reckoning" R ["asking","where","left","total","rested"] [tr "__init__" "Reckoning.__init__" uh,tr "step_by" "Reckoning.step_by" tT,tr "take_in" "Reckoning.take_in" tU])
  (xM:XO K "Missing" "Missing.__init__" "name" M pB)
  (xN:XO K "Endless" "Endless.__init__" "names" N pC)
  (zm:nsIn K UU "number_asked" = ih (ih (.ref q)))
  (xn:K.lookup q=ih ⟨xl,xk,.func (fnOf "number_asked" "number_asked" (dy lL) (bE lL) (aI lL) (.ref L) yl zl xm yk I ym),zk⟩)
  (yn:codeIn K I "number_asked" = true)
  (J:Yr K (.ref q)=true)
  (zn:K.lookup L=ih ⟨yj,zi,.seq #[.str "" xp] zj,xj⟩)
  (A:EL K LE M N=true)
  (P:findCls K (.ref LE) (.type "type") "__init__" = ih (.val (.builtin "ValueError.__init__"))) :
  ∃fd:X2,(∀(s:Ux) (v:i'),ZM s fd ⟨[v],[]⟩ [("_law_script",v)]) /\∀base:X8,K.In base->base.Ns UU mg->aT l.prog w K mg base aG 11 xh fd ["_law_script"] (mq K):=by
 have z:∀x∈_,mg x=none:=CG X G hz;obtain⟨yp,zp,xq,yq,zq,xr,yr,zr,xt,yt,zt,xu,yu,zu,xv,yv,zv,xw,yw,hP,hD,hN,zw,xx,yx,zx,xy,yy,zy,xz,yz,zz,xA,yA,zA,xB,yB,zB,xC,yC,zC,hL,-⟩:=hd;obtain⟨V7,V8,xD,Q,S,T⟩:=hB X G yp "thing";obtain⟨V9,V',yD,zD,xE,yE⟩:=hB X G zp "thing";obtain⟨Wa,Wb,zE,xF,yF,zF⟩:=hB X G xq "entry";obtain⟨Wc,Wd,xG,yG,zG,xH⟩:=hB X G yq "entry";obtain⟨We,Wg,yH,zH,xI,yI⟩:=hB X G zq "rows";obtain⟨Wi,Wj,zI,Wk,xJ,yJ⟩:=hB X G xr "rest";obtain⟨Wl,Wm,zJ,Wn,xK,yK⟩:=f9 X G yr "rest" "name";obtain⟨Wo,Wq,zK,xL,yL,zL⟩:=hB X G zr "family";obtain⟨Wr,Ws,yM,zM,yN,zN⟩:=l0 X G xt "lines" "kind" "parents";obtain⟨Wt,Wu,xO,yO,zO,xP⟩:=f9 X G yt "family" "book";obtain⟨Wv,Ww,yP,zP,xQ,yQ⟩:=f9 X G zt "line" "thing";obtain⟨Wx,Wy,zQ,xR,yR,zR⟩:=f9 X G xu "line" "thing";obtain⟨Wz,WA,xS,yS,zS,xT⟩:=hB X G yu "book";obtain⟨WB,WC,yT,zT,xU,yU⟩:=f9 X G zu "world" "thing";obtain⟨WD,WE,zU,xV,yV,zV⟩:=f9 X G xv "world" "thing";obtain⟨WG,WH,xW,yW,zW,xX⟩:=f9 X G yv "world" "thing";obtain⟨WJ,WK,yX,zX,xY,yY⟩:=jB X G zv "world" "thing" "name" "behind";obtain⟨WL,WM,zY,xZ,yZ,zZ⟩:=f9 X G xw "world" "thing";obtain⟨WN,WO,x0,y0,z0,z1⟩:=f9 X G yw "standing" "again";obtain⟨fP,dP,FP,kP,bP,mP⟩:=f9 X G hP "_law_script" "_law_k";obtain⟨fD,dD,B,j,e,f⟩:=f9 X G hD "_law_pot_here" "_law_many";obtain⟨fN,dN,FN,E,F,mN⟩:=f9 X G hN "_law_pot_here" "_law_many";obtain⟨WQ,WR,z2,WS,y3,z3⟩:=hB X G zw "_law_rows";obtain⟨WT,WU,y4,z4,y5,z5⟩:=l0 X G xx "_law_lines" "_law_kind" "_law_own";obtain⟨WV,WW,y6,z6,y7,z7⟩:=f9 X G yx "_law_pot_here" "_law_made";obtain⟨WX,WY,y8,z8,y9,z9⟩:=f9 X G zx "_law_pot_here" "_law_kinds";obtain⟨WZ,W0,Ru,U,V,W⟩:=jB X G xy "_law_pot_here" "_law_many" "_law_alike" "_law_kinds";obtain⟨W2,W3,Rv,r,t,u⟩:=hB X G yy "_law_pot_here";obtain⟨W4,W5,Rw,Rx,Ry,Rz⟩:=l0 X G zy "_law_pot_here" "_law_names_here" "_law_at";obtain⟨W6,W7,RA,RB,RC,RE⟩:=l0 X G xz "_law_pot_here" "_law_names_here" "_law_at";obtain⟨W8,W9,RF,RG,RH,RI⟩:=l0 X G yz "_law_pot_here" "_law_kinds" "_law_names_here";obtain⟨Xa,Xb,RJ,RK,RL,RM⟩:=jB X G zz "_law_pot_here" "_law_alike" "_law_kinds" "_law_names_here";obtain⟨Xc,Xd,RN,RO,RP,RQ⟩:=l0 X G xA "_law_family_here" "_law_book_here" "_law_things_here";obtain⟨Xe,Xf,RS,Y,Z,xa⟩:=jB X G yA "_law_line_here" "_law_book_here" "_law_name" "_law_behind";obtain⟨Xg,Xh,RT,ya,za,xb⟩:=hB X G zA "_law_entry_here";obtain⟨Xi,Xj,RU,yb,zb,xc⟩:=KW X G xB "_law_line_here" "_law_book_here" "_law_own" "_law_known_here" "_law_key";obtain⟨Xk,Xl,RV,RW,RX,RY⟩:=jB X G yB "_law_line_here" "_law_book_here" "_law_own" "_law_names_here";obtain⟨Xm,Xn,RZ,R0,R1,R3⟩:=jB X G zB "_law_line_here" "_law_book_here" "_law_own" "_law_name";obtain⟨Xo,Xp,R4,R5,R6,R7⟩:=jB X G xC "_law_line_here" "_law_book_here" "_law_own" "_law_names_here";obtain⟨Xq,Xr,R8,R9,R',Sa⟩:=jB X G yC "_law_world_here" "_law_thing" "_law_name" "_law_behind";obtain⟨Xs,Xt,Sb,Sd,Se,Sf⟩:=KY X G zC "_law_line_here" "_law_book_here" "_law_own" "_law_known_here" "_law_key" "_law_told_here";obtain⟨fL,dL,yh,aL⟩:=hL;cases zo.symm.trans (jr X G aL)
 have b:∀{x:Fv},x∈_->mg x=none:=λ{x} m=>z x m;have a:df mg:=⟨b (by decide),b (by decide),b (by decide),b (by decide),b (by decide),b (by decide),b (by decide),b (by decide),b (by decide),b (by decide)⟩
 have c:hO mg:=⟨b (by decide),b (by decide),b (by decide),b (by decide)⟩
 have zh:va mg:=⟨b (by decide),b (by decide)⟩
 obtain⟨⟨aD,Sg,Sh,Si,Sj,Sk,Sl,Sm⟩,Sn,So,Sq,-⟩:=cD;obtain⟨Xu,Xv,Sr,yc,Ss⟩:=tJ Sn "self" "lines" "entries";obtain⟨Xw,Xx,Su,zc,xd⟩:=tK So "self" "kind" "name" "behind";obtain⟨Xy,Xz,Sv,Sw,Sx⟩:=tK Sq "self" "kind" "name" "behind";obtain⟨⟨aC,Sy,Sz,SA,SD,SE,SF,SG⟩,SH,SI,SK,SM,SN,SO,SQ,-⟩:=cC;obtain⟨XA,XB,SR,yd,SS⟩:=K0 SH "self" "finds" "kind" "own" "kept";obtain⟨XC,XD,SU,SV,SW⟩:=KZ SI "self";obtain⟨XE,XF,SX,SY,S0⟩:=nH SK "self" "first";obtain⟨XG,XH,S1,S2,S3⟩:=tJ SM "self" "standing" "asking";obtain⟨XI,XJ,S4,S5,S6⟩:=nH SN "self" "reckoning";obtain⟨XM,XN,S7,S8,S'⟩:=tJ SO "self" "reckoning" "step";obtain⟨XQ,XR,Ta,Tb,Tc⟩:=nH SQ "self" "reckoning";obtain⟨⟨aR,Td,Te,Tf,Tg,Ti,Tj,Tn⟩,To,Tp,Tq,-⟩:=cR;obtain⟨XS,XT,Tr,zd,Ts⟩:=tK To "self" "asking" "where" "steps";obtain⟨XU,XW,Tt,Tu,Tv⟩:=nH Tp "self" "step";obtain⟨XX,XY,Tw,Tx,Tz⟩:=nH Tq "self" "told";have p:∀{x:Fv},x∈_->Yf K (.ref D) x=ih none:=λ{x} m=>pP Sm m;have k:∀{x:Fv},x∈_->Yf K (.ref C) x=ih none:=λ{x} m=>pP SG m;have o:∀{x:Fv},x∈_->Yf K (.ref R) x=ih none:=λ{x} m=>pP Tn m;have i:jQ K mg D:=⟨⟨Sg,Sh,Si,Sj⟩,p (by decide),p (by decide),p (by decide),p (by decide),jr X G aD⟩
 have g:iw K mg R:=⟨⟨Td,Te,Tf,Tg⟩,o (by decide),o (by decide),o (by decide),o (by decide),o (by decide),jr X G aR⟩
 have d:hR K mg C:=⟨⟨Sy,Sz,SA,SD⟩,k (by decide),k (by decide),k (by decide),k (by decide),k (by decide),k (by decide),jr X G aC⟩
 obtain⟨TB,XZ,xe,TC,aM,xo⟩:=xM;obtain⟨TF,X0,ye,TH,aN,yo⟩:=xN;have TJ:=xe.binds (ps:=["self","name"]) fun|_,_,_,_,_,_,[_,_],_=>rfl;have TK:=ye.binds (ps:=["self","names"]) fun|_,_,_,_,_,_,[_,_],_=>rfl;have ze:=KQ (st:=lL) xn yn J;have TL:=ze.binds (ps:=j3) (ds:=[]) zn λ_ _ _ _ _ _ us hl=>by
  have h4:us.length=4:=by simpa using hl
  exact match us,h4 with | [_,_,_,_],_=>⟨_,rfl,rfl⟩
 have TM:=jr X G zm;unfold EL at A;simp only[gK,dA]at A;obtain⟨x1,x2,x3,x4,x5,x6,x7,x8,x9,y1,y2⟩:=A;have xi:uN K mg LE M TB _:=⟨jr X G aM,xo,TC.fn,x4,xe,⟨x5,x6,P⟩,jr X G O,TJ,CI x1,x3⟩;have yi:vc K mg LE N TF _:=⟨jr X G aN,yo,TH.fn,y2,ye,⟨x5,x6,P⟩,jr X G O,TK,CI x7,y1⟩;obtain⟨_,_,_,_,_,_,_,_,_,rfl,_,_⟩:=yh.ex;exact⟨_,λs v=>.of_eq rfl,λbase _ _ =>
  let xf:=K3 xD a c
  let TN:=Ml yD ⟨xf,Q,S,T⟩
  let TQ:=Nl zE
  let TR:=IE yH a zJ xK yK zI xJ yJ
  let TU:=M4 yM a ⟨TR,zH,xI,yI⟩
  let TV:=JJ zK a ⟨TU,zM,yN,zN⟩
  let TX:=Na xS
  let TY:=Le Sv i
  let yf:=Lf Su i TY Sw Sx
  let TZ:=Nf xO i ⟨TV,xL,yL,zL⟩ ⟨TX,yS,zS,xT⟩ ⟨Sk,yc.at_,yc.fn,Sl⟩ (Mg Sr i) Ss
  let T1:=Nb yP c
  let T2:=Nc zQ ⟨T1,zP,xQ,yQ⟩
  let T3:=Ng yT ⟨xf,Q,S,T⟩
  let T4:=Nh zU ⟨T3,zT,xU,yU⟩
  let T5:=Nj xW ⟨T4,xV,yV,zV⟩
  let T6:=NB zY c d ⟨T5,yW,zW,xX⟩ ⟨TZ,yO,zO,xP⟩ ⟨SE,yd.at_,yd.fn,SF⟩ (Mh SR c d) SS
  let T7:=Nn xG
  let T8:=Np Tr a g
  let T9:=Nt S7 d i g yf zc xd
  let T':=Nu S4 d g T9 S8 S' (Nq Tt g) Tu Tv (Nr Tw g) Tx Tz
  let Ua:=Nv Ta a c (b (by decide)) d g
  let Ub:=Ny x0 a g
  let Uc:=Nz S1 d i g xi yi ⟨Ub,y0,z0,z1⟩ yf zc xd ⟨TQ,xF,yF,zF⟩ ⟨T7,yG,zG,xH⟩ ⟨Ti,zd.at_,zd.fn,Tj⟩ T8 Ts
  let Ud:=NA SX d Uc S2 S3 T' S5 S6 Ua Tb Tc
  let Ue:=ND yX d ⟨T6,xZ,yZ,zZ⟩ ⟨TN,zD,xE,yE⟩ ⟨T2,xR,yR,zR⟩ (Lj SU d i) SV SW Ud SY S0
  let Ug:=NF ze d ⟨Ue,zX,xY,yY⟩
  let n:=sX B
  let Uh:=M' y8 a c (L' y6 a B e f) z6 y7 z7 (M7 y4 a z2 y3 z3) z4 y5 z5
  let GP:=L7 FP a
  let H:=JF FN a B e f
  let zf:=NL Ru ⟨H,E,F,mN⟩
  let y:=Ma Rv ⟨n,j,e,f⟩
  let Ui:=Mb Rw a ⟨n,j,e,f⟩ ⟨y,r,t,u⟩
  let Uj:=Mc RA a ⟨n,j,e,f⟩ ⟨y,r,t,u⟩ ⟨Ui,Rx,Ry,Rz⟩
  let Uk:=NO RF a ⟨n,j,e,f⟩ ⟨Uj,RB,RC,RE⟩
  let Ul:=NM RJ a ⟨zf,U,V,W⟩ ⟨n,j,e,f⟩ ⟨H,E,F,mN⟩ ⟨y,r,t,u⟩
  let Um:=NN RN a c
  let xg:=NH RS
  let yg:=NI RT a
  let zg:=NJ RU ⟨xg,Y,Z,xa⟩ ⟨yg,ya,za,xb⟩
  let Uo:=NK RV a ⟨zg,yb,zb,xc⟩
  let Up:=NP RZ a ⟨xg,Y,Z,xa⟩ ⟨yg,ya,za,xb⟩
  let Uq:=NQ R4 a c (b (by decide)) ⟨Up,R0,R1,R3⟩
  let Ur:=NR Sb c zh ⟨zg,yb,zb,xc⟩ ⟨Uq,R5,R6,R7⟩
  let Us:=NG R8 xi yi x2 x8 x9 ⟨Ug,J,TL,TM⟩
  Mr yh a c zh ⟨GP,kP,bP,mP⟩ ⟨n,j,e,f⟩ ⟨H,E,F,mN⟩ ⟨Uh,z8,y9,z9⟩ ⟨zf,U,V,W⟩ ⟨Uk,RG,RH,RI⟩ ⟨Ul,RK,RL,RM⟩ ⟨Um,RO,RP,RQ⟩ ⟨Uo,RW,RX,RY⟩ ⟨Us,R9,R',Sa⟩ ⟨Ur,Sd,Se,Sf⟩⟩
theorem walk{l:aai}{q:Yc}{d:DefRec}{K:Params->Ym}(e:l.most=ih 63)(c:d.params.defaults=[])
  (g:∀(w:Yi) (h:X8),YP w h->(K w.params).In h)
  (F:∀(w:Yi) (mg:Fv->Option i') (b:EZ) (h:X8),(K w.params).In h->h.Ns UU mg->mg d.name=ih (.ref b) ->
   ∃fd:X2,(∀(s:Ux) (u:i'),ZM s fd ⟨[u],[]⟩ [("_law_script",u)]) /\∀base:X8,(K w.params).In base->base.Ns UU mg->aT l.prog w (K w.params) mg base aG 11 b fd ["_law_script"] (mq (K w.params))) :
  WalkO q Qs XP YP l.row.toRowW d [] (λf vs=>Z5 f vs):=
 L2.Kg (n:=63) (k:=11) (x:= "_law_script") (CX:=λ_=>aG) (sp:=λw=>mq (K w.params)) e (by decide) c ⟨rfl,by decide,by decide,rfl⟩ g F (λ_ _ a ns i _ j=>mq.mk rfl j i λ_=>rfl) λ_ _ _ _ _ z=>z
end ew
structure PySem.W.Fast:Prop where
 (tw11883939954921233745 tw6775483856182488093 tw7301836143177917241 tw11145692931519480463 tw16760470476553641334 tw10856214400125886103 tw15516554869757935624 tw15460330817072730221 tw12357964347797199225 tw14301613968161440758 tw17463065048503863722 tw16701137916883238073 tw12525259179202985895 tw10253651772031049059 tw5983472306942988467 tw6321739651641611525 tw729770446508045031 tw6995151153482699986 tw11641984110301443314 tw9537962501635833967 tw8872990974495123387 tw12040905572440052976 tw12088016059561996201 tw8942123020767525692 tw3845848309275139234 tw12416881705179319486 tw7781694548155646052 tw8239229174425036264 tw14156846206505692625 tw4318534540038874908 tw15820773712495584465 tw5213159692897454795 tw9239955823433022201 tw16909881196412594476 tw31280704796453205 tw9762456880409514602 tw7319808264581336513 tw2911643003984160561 tw4522866704209637348 tw13695160152224644383 tw3905165319332776781 tw7836743502730576955 tw1200538923078899966 tw9978103321166925281 tw16737851142195489979 tw7446571606573379347 tw5063230076884715825 tw15664630485101225317 tw7787689756319409262 tw2056466783574016875 tw12247468943283784944 tw13801089817449329817 tw2752904253318676623 tw12303591973950608638 tw9021799743969512906 tw9791003844114474301 tw15823437611452451147 tw7635198315378037287 tw14346189777626387210 tw9451031693418551343 tw17026078547402311908 tw5361182596580332877 tw17322738147916229863 tw14651393949000485676 tw7228663966688649853 tw2468829183574209410 tw9137049196014049061 tw13522313695870552823 tw27329281169999685 tw6125951853606213539 tw16207215248114777292 tw850200436238735856 tw11361570800271733950 tw16670255784045773206 tw6136228660757274345 tw11834391778292917413 tw9968213105970267108 tw6282029401901342600 tw14463440262833358201 tw1846785616654023482 tw4568909839737786065 tw8395046230132174465 tw303330378650778316 tw4924132103609246634 tw5082923018788884935 tw5473472812254131118 tw2927822529649979301 tw4404631926371625606 tw8593703706757138775 tw4883951688455418030 tw17838213097782641445 tw1421358324125255963 tw13003216307500599872 tw10171546374959639118 tw15710532519084892700 tw10461327469061025294 tw7713815831155581367 tw15928798595649102585 tw2508149388917674492 tw10066391719982437087 tw5142526264406834501 tw15620134021286162796 tw13843704450014748343 tw16853750090293704039 tw251657385391191628 tw3014692058945150704 tw18396270897889866180 tw11665074152635342933 tw12968569185676224446 tw16945517577500535302 tw11546413382276843845 tw7788924039498224248 tw1248452448414265983 tw13063824843211833956 tw13266361247429244944 tw7755340358910656534 tw536455901869860754 tw15894145689048915835 tw1226078272034877704 tw2863643975275509823 tw13126792782646819106 tw18248538800852149522 tw4422793284940479858 tw2171574596407136462 tw11014464874891285268 tw1893389842393483718 tw15905025472368633179 tw12462409207954357664 tw1647410086473785019 tw2025439631112062421 tw4437219976335154429 tw1635485043739318650 tw18375242347883147568 tw11763763129536878275 tw10813737349692311774 tw768072623382640208 tw7855222265072207251 tw10958525623956048475 tw5183254065006150276 tw3998547455190905675 tw11132077369560432046 tw15905280752010584000 tw8880774440223157323 tw5470419021325103951 tw1474487933474698739 tw3536175452255253210 tw12335233736688030302 tw9882320358732340128 tw9337071392186659899 tw5793052464339136732 tw6800741692885718899 tw7934817121900849773 tw16431146690026965450 tw10707104595545991041 tw2117960359663642128 tw4447105522570429145 tw4988365487998036201 tw18431753380348691441 tw6715292585950958594 tw13319137702143604116 tw9722481530932836625 tw13613842966926791211 tw16241200582727266078 tw16048258554956833088 tw4265093322985063706 tw15623037167607051271 tw1146234820276955429 tw5617444369209716633 tw9018118553810608145 tw15309219162493338860 tw10811953447111442160 tw5264430095716272809 tw10163732308890663579 tw9826981351653523908 tw6198886355331094719 tw4943384369448198756 tw2234945584105899921 tw8344883126409258259 tw254762340981486212 tw1331106899243874806 tw3408972754975286202 tw2261404071652987142 tw9104577871741080729 tw855547211469832724 tw6446216756208358690 tw7563840987575666288 tw12022889654874733222 tw8753190013921538136 tw6872058196705830145 tw6055059453513266533 tw9075968720405338366 tw15382664475036483157 tw15914961374381806177 tw2352587213986476935 tw12781567730548690749 tw11004418097346986241 tw10876770735651447386 tw16555780922621551668 tw7584917937289540815 tw15843298373285330458 tw319882236113711689 tw3098954123442344700 tw4616917151101851449 tw9349108139357850579 tw784512782253514743 tw16137583611073075658 tw5759411209134097878 tw8347526305390108039 tw17069055602268128367 tw6350832564458250199 tw618791292549949503 tw14209280495577253799 tw4895761230832909647 tw14144538522068866740 tw16410623189745385662 tw14447353387498016758 tw17429597116213678849 tw12129063464265962924 tw1290088852204889169 tw3375124260768222875 tw17349113869962120968 tw12495633890866593755 tw2694411642036778363 tw15116327342409772016 tw11180507286408313242 tw15120137209526462904 tw5190126508768869456 tw2529738546800002197 tw15161590184165976114 tw638509863669626703 tw7311734427770112682 tw11483472205512075944 tw15182001730745090608 tw2235001364062965086 tw8136908474035220422 tw16286479360729390162 tw14982635229138137654 tw6238312491380496682 tw17102490876827344556 tw8072402779731980309 tw1443554916168971596 tw5849527914371984223 tw9241541972872613574 tw8180992728522784459 tw8703251780109357834 tw8678920489730420545 tw3780830774302075280 tw12253299655482046466 tw17557480527495582119 tw8179510525598408791 tw11599002676978259529 tw5906116008483143088 tw8396328066325611924 tw5791880955291407094 tw4813872735638427898 tw3093317586800113465 tw1756338468220420320 tw15311789182197998731 tw14085751047353383871 tw17621504276524156945 tw15085454231623564271 tw1855040562801490956 tw1027235870836401418 tw13047309059024036673 tw7977574013048137330 tw8041237541355608449 tw12579603466017160831 tw5211495837015454346 tw12935526895784600951 tw6950954558283005746 tw13507925759743630212 tw6334881223289731001 tw9414031923509480543 tw12159460378718381977 tw6658043398057474545 tw13831892758321449742 tw3735391911179111713 tw6306172484127927756 tw17643379300147169569 tw7094395014380843392 tw4145843730500293484 tw10014000381010512308 tw5849526576102272314 tw18391754124070688342 tw1750815325275183703 tw1130072387024547410 tw7798732581641580583 tw17895579520516608127 tw11080030690551446240 tw1986176715815123348 tw359815016379082650 tw16173425674819681918 tw14472293569378702611 tw15380976382895051858 tw18141870501243597268 tw14374832228793630528 tw9125131832026112865 tw6518954546002707113 tw3196031145050068524 tw10914412841492654981 tw11339799438106933270 tw10572992505852606382 tw12605535577688132736 tw18007511114542179305 tw5953301750824513304 tw13764027082929353054 tw6128113230397120071 tw5494233146613976387 tw196047838159967992 tw2470980182888612407 tw17603581144046111639 tw11702032235427311553 tw2600884662280592941:True)
open W PyProof.Rows
set_option maxRecDepth 100000 in
set_option maxHeartbeats 0 in
theorem PySem.Challenge.cw_parentlines_k44_whole_asked_as_reckoned_holds : PySem.Challenge.rw_parentlines_k44_whole_asked_as_reckoned.Holds := by
 w_on;o_law;k_head;(case hw=>w_witness2)
 k_fill
 refine ew.walk (l:=PySem.Challenge.rw_parentlines_k44_whole_asked_as_reckoned) rfl rfl (λw h Y=>PySem.W.kIn_of Y) ?F
 case F =>
  intro w mg fa h KX G Ut;refine' ew.all_mk KX G Ut ?d ?z ?Uu ?cD ?cC ?cR ?xM ?xN ?Pd ?Pe ?Pf ?Pg ?Ph ?hx ?Uw
  (case d=>(repeat (refine' L2.MZ ?a ?l ?c ?k ?_;(case a=>k_is);(case l=>k_is);(case c=>k_is);(case k=>k_is)));exact trivial)
  (case z=>(repeat' first|exact trivial|refine Zi ?_ ?_) <;> k_is)
  (case cD|cC|cR=>refine' ⟨⟨?a,?_,?_,?_,?_,?_,?_,?n⟩,?m⟩;(case a=>k_is);(case n=>(repeat' first|exact trivial|refine Zi ?_ ?_) <;> k_is);(case m=>(repeat (refine' L2.M0 ?a ?i ?l ?c ?k ?_;(case a=>k_is);(case i=>k_is);(case l=>k_is);(case c=>k_is);(case k=>k_is)));exact trivial);all_goals k_is)
  (case xM|xN=>refine' L2.M1 ?n ?a ?i ?l ?c ?k ?e;(case n=>k_is);(case a=>k_is);(case i=>k_is);(case l=>k_is);(case c=>k_is);(case k=>k_is);(case e=>kernel_rfl))
  (case Uu=>k_is)
  (case Pd=>k_is)
  (case Pe=>k_is)
  (case Pf=>k_is)
  (case Pg=>k_is)
  (case Ph=>k_is)
  (case Uw=>k_is)
  (case hx=>kernel_rfl)
