import PyProof.Rows.All
import Wide.All
import OpenK.AllK
import Wide.FinOn
import Lean
import PyProof.EqAt
import PyProof.EqKinds
import PyProof.TupleCall
import PyProof.ReprRoads
import PyProof.ReprBulk
import PyProof.EnumMake
import PyProof.EnumFor
import KE.KRevSl
import KE.KDictList
import PyProof.ZipIter
import PyProof.AttrMissHeap
import KE.KDictOf
import KE.KItemsList
import PyProof.Rows.ZipGen
import PyProof.CallFns
import PyProof.NsDelKeeps
import PyProof.StrWalks
import PyProof.FString5
import KE.KSortTup
import PyProof.SetRoads
import PyProof.SetNew
import PyProof.Rows.SetFrom
import PyProof.WalksMore
import PyProof.ForAny
import PyProof.DictWalks
import PyProof.MeetsDict
import PyProof.IsRules
import KE.KEqDict
import PyProof.MeetsDictList
import PyProof.StrOps2
import PyProof.DictItemsLoops
import KE.KPairComp
import PySem.Challenge.RW_parentlines_k42_things_begun_ended_turne
set_option Elab.async false
set_option linter.all false
set_option maxRecDepth 100000
set_option maxHeartbeats 4000000
set_option compiler.extract_closed false
noncomputable section
abbrev am:=@List
abbrev ap:=@Option
open Option renaming some->ih,map->ZJ,getD_none->ZY,map_map->Z7,none->aaE
open PySem renaming Value->i',Addr->FG,Str->F4,Shared->Gb,PyData->UA,wpAny->UB,sizeLine->UJ,model->UP,mainGlobals->UX,starEach->U6,Expr->Vo,bootBuiltins->Vx,Stmt->VC,compareOp->XR,Paired->XU,FuncData->XX,Heap->XY,Program->XZ,SetTable->X3,World->X7,Around->Yc,Builtin->Ye,binaryOp->Yi,NameKind->Yj,Str->Yl,cLine->Yq,Obj->Ys,Value->Yv,IsItemIter->Yz,DictEntry->YA,Scope->YL,Addr->YN,Env->Y5,IsPart->Y6,Within->Y7,Shared->Y8,Sem->Zi,BindsTo->Zm,GenState->Zn,frameOf->Zs,Model->Zu,call->ZO,Heap->ZP,IsItemIterOut->ZQ,Pos->ZV,CmpOp->ZW,strKind->aaq,ElemsOf->aaR,World->aaU,Expr->aa0,Obj->abi,Fin->abj,Env->abk,ExceptHandler->abP
open PySem.SetTable renaming bits->Ux,runEnd->UQ,below->XM,insertAt->XS,turns->X8,grown->Yn,Probe->YU,layClean->YY,advance->Y4,fresh->Zb,laid->Zk,fits->Zl,has->Zq,sizeAbove->ZD,relaid->ZR,slot->Z3,fill->Z4
open Sum renaming inr->Uz,inl->Y9
open PySem.PyData renaming depthAll->UO,canLayAll0->UW,bulkAll->Vm,strOk->XQ,str->X1,depth->X2,bulk->YE,eqv->Zj,list->ZC
open List renaming range->UU,replicate->XO,getD->YD,length->YI,lookup->Zd,getElem_inj->Z8,range_succ->aag,length_set->aah,forIn_cons->aai,foldl_cons->aaj,map_take->aaF,map_drop->aaG,all_cons->aaH,not_lt->aa2
open PySem.W renaming Frag->U0,keepIn->Yb,Frag->Yh,fnOf->YK,methodObj->Y0,instObj->Y',lookIn->Ze,keepIn->Zf,codeIn->Zg,findIn->Zr,plainGet->ZS,OpenLaw->Z1,findIn->Z5
open PySem.Value renaming ref->U3,none->Vw,type->X6,isStrOf->X',str->YB,builtin->YF,bool->YM,int->Zv,isInt->ZH,isInt_shape->ZX,float->aaT
open PySem.NameKind renaming free->U7,cell->X0
open False renaming elim->Vs
open PySem.Builtin.List renaming listExtendWith->XN,listSameRef->Yp,listLengthHint->Y3
open PySem.Obj renaming mapSeq->XT,putSet->Yw
open True renaming intro->XW
open PySem.Heap renaming SameBut->X4,FlyingW->Yy,get?->abM
open PySem.SetTable.below renaming go->X5
open PySem.Txt renaming slice->X9,join->aaC
open ForInStep renaming yield->Ya
open PyProof.Rows renaming StrsAre->Yd,IsTup->Yg,AllBare->YT,IntsAre->Z2,Subscript_->aaD,lt_str->abD,floordiv_int->abE
open PySem.SetTable.layClean renaming free->Yf
open PySem.Str renaming ofString->Yk,empty->aad,length->abL
open PySem.Builtin.Slice renaming slicePlaces->Ym,sliceAdjust->YH,sliceApplied->Y2,slicePartIndex->abe,sliceFields->abf
open PySem.Builtin.Tuple renaming tupleExact->Yo,tupleItemsOf->Y1
open PySem.Shared renaming TypeIs->Yr
open PySem.Builtin.Dict_items renaming ownsTuple->Yt,ownedTupleIsFree->YO,ownedTupleFields->YQ,pairFromOwner->YS,newIterator->aab,dictOf->aac
open List.Perm renaming swap->Yu,of_eq->ZL,trans->ab8,map->ab9
open Or renaming inr->Yx,inl->aaQ
open PySem.Builtin.Str renaming strSliceIndices->YC,tooLong->abN,glued->abO
open PySem.SetTable.probe renaming go->YG
open List.Pairwise renaming nil->YJ,map->abb,imp_of_mem->abc,imp->abd
open PySem.pickOrder renaming go->YR
open PySem.Builtin.Frozenset renaming updateFrom->YV,sizeOf->YW,slot0->YZ,newClass->aan
open And renaming intro->YX
open PySem.Builtin.Dict renaming updateFrom->Za,pairItems->Zc,showsAll->Zh,selfAndRest->abF,noArgs->abG,addKeywords->abH
open Array renaming getD->Zo,replicate->aaa,toList->aaN
open Nat renaming strongRecOn->Zp,min_eq_right->aaf,min_eq_left->aar,add_mul->abl
open PySem.Heap.SameBut renaming refl->Zt
open PySem.W.KasFin renaming intro->Zw
open PySem.SeqAt.EqAt renaming str_int->Zx,int_str->Zy,str_str->abQ,str_none->abR,str_bool->abS,same->abT,none_str->abU,none_int->abV,none_bool->abW,int_none->abX,int_int->abY,int_bool->abZ,bool_str->ab0,bool_none->ab1,bool_int->ab2,bool_bool->ab3
open List.Sublist renaming map->Zz
open Int renaming toNat->ZA
open PySem.SeqAt renaming compareNe_reads->ZE,compareEq_reads->ZF,EqAt->aaZ
open PySem.Heap.DictOf renaming new->ZG
open Classical renaming choose->ZI,not_forall->acb,choose_spec->acd
open List.cons renaming injEq->ZK
open PySem.Around renaming under_plain->ZM,deeper->aam
open PySem.Walks renaming list->ZN,dictKeys->aae
open PySem.F renaming slot_dict_items_iter->ZT,args_dict_items_1->Z9,entry_dict_items->aal,type_dict_items->aaw,plainAttrs_dict->aax,entry_type_call->aay,args_set_iter_1->aaz,typeCall_set_1->aaI,entry_set_init->aaJ,entry_any_loop->aaK,plain_set_new->aaW
open PySem.Calls renaming spliced_cons->ZU,spliced_nil->Z0
open PySem.Code renaming quiet_builtin->ZZ
open PySem.W.UpdF renaming head->Z6
open Bool renaming noConfusion->Z',not_false->aaA,beq_comm->aaL,and_self->aaM,true_or->aaX
open PySem.W.KatTups renaming cons->aak,nil->aau
open Prod renaming ext->aap
open PySem.Moved renaming eq_with->aas,trans->aaV
open PySem.W.Looks renaming of_pure->aat,here->aa1
open PySem.ItemsOf renaming nil->aav
open PySem.Challenge renaming rw_parentlines_k42_things_begun_ended_turne->aaO,pw_parentlines_k42_things_begun_ended_turne->aaP
open PySem.W.WShape renaming has->aaS
open PySem.Heap.IsSliceOf renaming new->aaY
open PySem.EqMixed renaming ne_str_int->aa3,ne_str_bool->aa4,ne_int_str->aa5,ne_bool_str->aa6,eq_str_int->aa7,eq_str_bool->aa8,eq_int_str->aa9,eq_bool_str->aba
open PySem.Builtin.Range renaming rangeSize->abg
open PySem.W.WData renaming int->abh
open PySem.SeqAt.RcNeAt renaming lists_lengths->abm,lists->abn
open PySem.EqNone renaming ne_str_none->abo,ne_none_str->abp,ne_none_none->abq,ne_none_int->abr,ne_none_bool->abt,ne_int_none->abu,ne_bool_none->abv,eq_str_none->abw,eq_none_str->abx,eq_none_none->aby,eq_none_int->abz,eq_none_bool->abA,eq_int_none->abB,eq_bool_none->abC
open PySem.EntryCells renaming newEntry->ab4
open PySem.Value.ref renaming inj->ab6
open PySem.IsL renaming update->ab7
open PySem.DictEntry renaming refKey->aca
open PySem renaming wpAny_bind->ae,wpAny_pure->aj,sizeLine_eq->aJ,boot_len->cG,wpAny_setState_of->cW,wpAny_holding->de,wpAny_askSetting->eQ,wpAny_newObj_type->e6,codeAny_builtin->ft,plainId_quiet->gF,wpAny_mono->gU,wpAny_call_entry->gV,wpAny_truthy_bool->hY,wpAny_typeOf->iz,wpAny_setField_rec->iF,mem_of_lookup->jc,wpAny_rule->je,codeAny_mono->jW,wpAny_field->k4,wpAny_standAt->mC,wpAny_passesOwn->mD,wpAny_call->mF,wpAny_Call_Name_kw->mG,wpAny_execs_nil->oA,wpAny_load->oB,fits_of_scanBound->oH,wpAny_pyIter_list->rf,wpAny_callSpecial?_slot->rj,wpAny_attempt->rk,wpAny_newList->rx,wpAny_runValue->ry,wpAny_pyIter_slot->rA,seqIndex_of->vm,codeAny_of_tree->vt,wpAny_getItem_str_slice->vv,post_val_or_str->vw,tupleKind_room_in1->vF,wpAny_throw->vG,putSet_of->vI,wpAny_storeSet_of->vJ,wpAny_ite_split->vO,wpAny_updateSeq->vQ,wpAny_typeNameOfWhole_itemiter->vY,wpAny_typeNameOf_itemiter->vZ,wpAny_eqBool_str->FA,noFill_tuple_add->FH,seq_tuple_add->FI,wpAny_noRaise->FR,codeAny_call_builtin->FT,wpAny_specialOf->FX,typeLookup_type->F0,builtinLookup_eq_fast->F1,wpAny_seqItems->F3,isSubtype_type->F5,wpAny_fieldsOf->F6,wpAny_isInstance->F7,wpAny_dictEntries->Gn,wpAny_dictEpoch->Gp,wpAny_isOneOf_itemiter->Gq,wpAny_newFunctionEnv_cells->UL,wpAny_comprehension_free->US,evalArgs_none->Vq
open List renaming length_map->ar,mem_cons_self->aT,mem_map->aZ,map_append->a5,mem_cons_of_mem->a8,mem_cons->bu,getElem?_eq_getElem->bA,map_cons->bD,size_toArray->bM,getElem?_eq_some_iff->bQ,length_take->b8,mem_singleton->b9,mem_append->cw,getElem?_map->cx,length_cons->cD,getD_eq_getElem?_getD->cE,take_length->cF,take_succ->cO,map_map->c5,length_append->df,getElem_mem->dz,mem_of_getElem?->dQ,mem_filter->d9,append_nil->ei,mem_append_right->et,nodup_cons->eu,mem_range->eO,lookup_cons->fc,pairwise_map->ff,length_filter_le->fu,filter_append->f3,mem_append_left->gm,nodup_append->gG,all_eq_true->gX,not_mem_nil->gZ,filter_cons_of_pos->h6,nodup_nil->iD,filter_cons_of_neg->iG,length_singleton->jd,length_nil->jf,nodup_iff_pairwise_ne->jg,length_replicate->jX,map_congr_left->j0,take_sublist->kZ,any_cons->k7,getElem?_eq_none->lb,replicate_succ'->lg,mem_filterMap->mB,eq_nil_of_length_eq_zero->mJ,length_pos_iff->mK,getElem?_append_right->oC,any_eq_true->oF,find?_cons->oG,take_of_length_le->oL,filterMap_cons->rb,getElem?_append_left->rh,length_range->ro,getElem_of_mem->rq,filter_cons->ru,ext_getElem->rv,filter_nil->rD,mem_of_mem_take->rE,any_eq_false->vh,of_mem_zip->vi,length_drop->vj,map_nil->vp,append_assoc->vr,length_erase_of_mem->vy,length_pos_of_mem->vz,mem_erase_of_ne->vA,any_map->vB,drop_eq_getElem_cons->vD,drop_zero->vE,mem_iff_getElem->vR,nodup_range->vS,perm_ext_iff_of_nodup->vV,map_id->vX,length_eq_one_iff->v7,sum_cons->v8,getElem?_set_self->FC,getElem?_set_ne->FD,getElem?_take_of_lt->FF,lookup_append->FQ,drop_of_length_le->FV,getElem?_cons_succ->Gi,getElem?_drop->Gj,drop_length->Gr,all_map->Gs,filter_eq_self->Gu,filter_sublist->Gw,filterMap_map->UN,take_append_drop->UZ,length_eraseIdx->U8,ext_getElem?->Va,pairwise_iff_getElem->Vb,getElem?_inj->Vc,pairwise_singleton->Vd,mem_drop_iff_getElem->Vf,find?_eq_some_iff_append->Vh,getElem?_range->Vi,count_pos_iff->Vj,map_filterMap->Vn,countP_eq_length_filter->Vy,length_dropLast->Vz,cons_lt_cons_iff->VA,mem_of_mem_drop->VB,filter_eq_nil_iff->VD
open Nat renaming le_refl->aG,zero_le->ba,ne_of_lt->bp,lt_of_lt_of_le->er,le_trans->e5,lt_succ_of_lt->gH,ne_of_gt->hZ,not_lt_zero->jh,lt_succ_self->ji,lt_irrefl->jV,le_succ->jY,lt_trans->k9,le_of_lt->oz,not_lt->rp,lt_of_succ_lt_succ->rz,mod_lt->vL,sub_zero->FY,le_antisymm->FZ,le_add_right->Gd,succ_pos->Ge,add_zero->Gf,lt_trichotomy->Gg,sub_self->Gh,le_of_succ_le->UY,le_succ_of_le->U4,le_of_lt_succ->Ve,lt_of_le_of_lt->Vr
open PySem.Heap renaming get?_push_of_some->aV,lt_size->a6,get?_push_size->bG,size_push->fq,get?_update_other->k6,get?_update_self->mH,get?_none_of_le->vf
open Ne renaming symm->a7
open Bool renaming false_ne_true->bX,false_eq_true->fV,and_eq_true_iff->gn,and_eq_true->gW,eq_iff_iff->mE,or_false->vo,false_or->FU,not_true->Gk,and_false->Gm,true_and->Gv
open Array renaming length_toList->cb,getElem?_eq_getElem->gq,getElem?_toList->iA,getElem?_eq_some_iff->iB,getD_eq_getD_getElem?->iE,getElem?_eq_none->jZ,mem_toList_iff->rg,toList_inj->rm,size_append->vx,ext->vN,find?_toList->UD,mem_of_getElem?->U1,perm_iff_toList_perm->U2,toList_push->U5,getElem_mem->Vg,forIn_toList->Vl
open PySem.Paired renaming length->cC,snoc->gY
open Option.some renaming inj->cS,injEq->Uw
open Option renaming map_eq_some_iff->fe,map_some->oy,bind_some->oE,isSome_map->FW,isSome_iff_exists->UI,isSome_some->UR,bind_eq_bind->Vk
open Sum.inr renaming inj->fQ
open PySem.F renaming called_set->fY,plainAttrs_list->g5,slot_list_append->h3,type_list_append->h5,plain_list_iadd->oK,slot_dict_itemiterator_next->rC,plain_any_loop->vC,slot_set_iter->vM,plain_extend_loop->vP,slot_dict_items->vW,slot_tuple_add->FJ,entry_tuple_add->FL,args_tuple_add_2->FO,slot_tuple_getattribute->F2,entry_proto_collect->F8,plain_proto_collect->F9,attrBase_ValueError->UT,slot_dict_pop->Vp,entry_dict_itemiterator_next->Vt,args_dict_itemiterator_next_1->Vu
open PySem.PassesOwn renaming never->fZ
open Int renaming eq_ofNat_of_zero_le->f5,toNat_natCast->iy,emod_nonneg->v9,natCast_add->wc,fdiv_eq_ediv_of_nonneg->UC,lt_of_lt_of_le->Vv
open PySem.Around renaming under_plainId->gp
open List.Perm renaming refl->g4,eq_of_pairwise->vT,append_left->U9
open PySem.W renaming kia_one->h1,cellsFrom_some->FE,kitx_list->UE,kitx_tuple->UG,kitx_dict->UH,codeRec_of->UK
open PySem.Heap.SameBut renaming update->mI
open PyProof.Rows renaming slot_tuple_getitem->oD,callWith_type1->vg,callWith_builtin1->UM
open PyProof.Rows.F renaming plain_set_update_loop->oJ,entry_set_update_loop->vK
open List.cons renaming inj->oM
open PySem.SeqAt renaming eqv_refl->rG
open PySem.Heap.UpToSlots renaming trans->vH
open Classical renaming byContradiction->vU
open PySem.Value renaming isStrOf_shape->Fz
open PySem.Calls renaming call_function_entry->Ga,Name_function_global->Uy
def ak:=@if_neg
def aw:=@if_pos
def a':=@decide_eq_false
def bq:=@decide_eq_true
def c4:=@congrArg
def ew:=@if_false
def eP:=@if_true
def fw:=@of_decide_eq_true
def fX:=@beq_iff_eq
def g0:=@or_false
def jU:=@beq_eq_false_iff_ne
def rB:=@decide_eq_true_eq
def rF:=@decide_eq_decide
def vq:=@beq_self_eq_true
def v':=@Int.emod_lt_of_pos
def F':=@PySem.F.entry_list_iadd
def U':=@Array.eq_empty_of_size_eq_zero
variable{us its:am Yv}{x qual name:Yl}{u cd Qg pm Qc ct oc vl vu:Yv}{a b l it p C f sl d fI I fW fL fD fF fP fB fN fS fK fR tt fE fT fO fC td:YN}{o ox ol:abi}{i t' j c n n1 ep m:Nat}{h h' g base h0:ZP}{Qb:Array Yv}{P prog q:PySem.Program}{w:aaU}{e tg iter Qm value:aa0}{L Ps:Yl->List Yl}{J:am (YN×abi)}{s s' s1:Y8}{ch fp:am YN}{N ps Qr N' ks r own done:am Yl}{A:PySem.Around}{E:Yv->Y8->Prop}{pos Qj Ql Qh tp:PySem.Pos}{K:U0}{es Qi Qt:am aa0}{body:am PySem.Stmt}{lo:Int}{dx an od:ap YN}{fd dP dB dN dW dS dD dR dK dE dT dO dI:PySem.FuncData}{kindOf:Yl->Option PySem.NameKind}{sc scope:PySem.Scope}{mg:Yl->Option Yv}{outer:am abk}{Qn:Array (Option Yv)}{T:String}{hi:ap Int}{XP:(Yl->Option Yv)->ZP->Prop}{YP:aaU->ZP->Prop}{ns hs:am Int}{B:Prop}{env:abk}{cells:am (Yl×YN)}{Qf:am (Option Nat)}{R:PySem.Result->Y8->Prop}{Pv:Nat->Yv->Prop}{Qd rest rows:am (List Yl)}{av:YN->Prop}{Qa:am (Yl×List Yl)}{dn:Yl->Bool}
open PySem
namespace L2
open Spec PyProof.Rows
abbrev Key:=Sum Int F4
def lR:Key->i'->Bool
 |.inl k,v=>ZH k v
 |.inr x,v=>X' x v
def OA(w:X7):Key->Int
 |.inl k=>hashInt k
 |.inr x=>hashStr w x
theorem iI:∀{k:Key}{v:i'},lR k v=true->(∃i t,k=Y9 i/\v=Zv i t)\/(∃x t,k=Uz x/\v=YB x t)
 |.inl i,v,h=>by
  obtain⟨t,e⟩:=ZX (k:=i) (v:=v) h;exact .inl ⟨i,t,rfl,e⟩
 |.inr x,v,h=>by
  obtain⟨t,e⟩:=Fz (x:=x) (v:=v) h;exact .inr ⟨x,t,rfl,e⟩
theorem Iq(i:Int)(t:Tok):lR (.inl i) (.int i t)=true:=by simp[lR,ZH]
theorem Ir(x:F4)(t:Tok):lR (.inr x) (.str x t)=true:=by simp[lR,X']
theorem LH(a b:Int):decide ((Y9 a:Key)=Y9 b)=(a==b):=by
 by_cases e:a=b
 ·subst e;simp
 ·have h : ¬ (Y9 a:Key)=Y9 b:=λq=>e (Sum.inl.inj q)
  rw[a' h];exact(jU.mpr e).symm
theorem LI(a b:F4):decide ((Uz a:Key)=Uz b)=decide (a=b):=by
 by_cases e:a=b
 ·subst e;simp
 ·have h : ¬ (Uz a:Key)=Uz b:=λq=>e (fQ q)
  rw[a' h,a' e]
theorem LJ(a:Int)(b:F4):decide ((Y9 a:Key)=Uz b)=false:=a' (λq=>nomatch q)
theorem LK(a:F4)(b:Int):decide ((Uz a:Key)=Y9 b)=false:=a' (λq=>nomatch q)
def b5(prog:XZ)(w:X7):PySem.KeyKind prog w Key where
 is:=lR
 hash:=OA w
 inj:=λv a b ha hb=>by
  rcases iI ha with⟨i,t,rfl,rfl⟩|⟨x,t,rfl,rfl⟩
  ·rcases iI hb with⟨j,u,rfl,e⟩|⟨y,u,rfl,e⟩
   ·injection e with e1 _;rw[e1]
   ·exact nomatch e
  ·rcases iI hb with⟨j,u,rfl,e⟩|⟨y,u,rfl,e⟩
   ·exact nomatch e
   ·injection e with e1 _;rw[e1]
 byValue:=λk v h=>by
  rcases iI h with⟨i,t,rfl,rfl⟩|⟨x,t,rfl,rfl⟩ <;> rfl
 pyHash:=λhv h=>by
  rcases iI hv with⟨i,t,rfl,rfl⟩|⟨x,t,rfl,rfl⟩
  ·exact wpAny_pyHash_int h
  ·exact wpAny_pyHash_str h
 eqBool:=λhu hv h=>by
  rcases iI hu with⟨i,t,rfl,rfl⟩|⟨x,t,rfl,rfl⟩
  ·rcases iI hv with⟨j,u,rfl,rfl⟩|⟨y,u,rfl,rfl⟩
   ·rw[LH]at h;exact wpAny_eqBool_int h
   ·rw[LJ]at h;exact Zy i t y u _ _ _ _ h
  ·rcases iI hv with⟨j,u,rfl,rfl⟩|⟨y,u,rfl,rfl⟩
   ·rw[LK]at h;exact Zx x t j u _ _ _ _ h
   ·rw[LI]at h;exact FA h
 «strs» :=λk x t v h=>by
  rcases iI h with⟨i,u,rfl,e⟩|⟨y,u,rfl,e⟩
  ·exact nomatch e
  ·injection e with e1 _
   subst e1;cases v <;> rfl
theorem Hk(prog:XZ)(w:X7)(i:Int)(t:Tok):(b5 prog w).is (.inl i) (.int i t)=true:=Iq i t
theorem Hl(prog:XZ)(w:X7)(x:F4)(t:Tok):(b5 prog w).is (.inr x) (.str x t)=true:=Ir x t
inductive V where
 |aN|bl (b:Bool)|int (i:Int)|str (x:F4)|gC (b:Array UInt8)|mj (b:UInt64)|ref (a:FG)|ty (n:String)
 deriving DecidableEq
def RelV:V->i'->Prop
 |.aN,u=>u=Vw
 |.bl b,u=>u=YM b
 |.int i,u=>∃t,u=Zv i t
 |.str x,u=>∃t,u=YB x t
 |.gC b,u=>∃t,u=Value.bytes b t
 |.mj b,u=>∃t,u=aaT b t
 |.ref a,u=>u=U3 a
 |.ty n,u=>u=X6 n
abbrev Vals:List V->List i'->Prop:=XU RelV
theorem Vals.length{xs:am V}(r:Vals xs us):xs.length=us.length:=cC r
theorem Vals.get:∀{xs:am V}{us:am i'}{i:Nat}{x:V},Vals xs us->xs[i]?=ih x ->∃u,us[i]?=ih u/\RelV x u
 |_,_,_,_,.nil,e=>by simp at e
 |_,_,0,_,.cons r _,e=>by simp at e;subst e;exact⟨_,rfl,r⟩
 |_,_,i+1,x,.cons _ t,e=>by
  obtain⟨u,U,h2⟩:=Vals.get (i:=i) (x:=x) t (by simpa using e)
  exact⟨u,by simpa using U,h2⟩
theorem Vals.set{x:V}{u:i'}(r:RelV x u):∀{xs:am V}{us:am i'} (i:Nat),Vals xs us->Vals (xs.set i x) (us.set i u)
 |_,_,_,.nil=>.nil
 |_,_,0,.cons _ t=>.cons r t
 |_,_,i+1,.cons q t=>.cons q (Vals.set r i t)
theorem Vals.append:∀{xs ys:am V}{us ws:am i'},Vals xs us->Vals ys ws->Vals (xs++ys) (us++ws)
 |_,_,_,_,.nil,s=>s
 |_,_,_,_,.cons r t,s=>.cons r (Vals.append t s)
theorem Vals.take:∀{xs:am V}{us:am i'} (n:Nat),Vals xs us->Vals (xs.take n) (us.take n)
 |_,_,0,_=>.nil
 |_,_,_+1,.nil=>.nil
 |_,_,n+1,.cons r t=>.cons r (Vals.take n t)
theorem Vals.drop:∀{xs:am V}{us:am i'} (n:Nat),Vals xs us->Vals (xs.drop n) (us.drop n)
 |_,_,0,r=>r
 |_,_,_+1,.nil=>.nil
 |_,_,n+1,.cons _ t=>Vals.drop n t
def gb:Option V->Option i'->Prop
 |some v,ih u=>RelV v u
 |none,none=>True
 |_,_=>False
def KV{κ:Type}:List (κ×V)->List (κ×i')->Prop:=XU λ(p:κ×V) (q:κ×i')=>p.1=q.1/\RelV p.2 q.2
def kV:Key->V
 |.inl i=>.int i
 |.inr x=>.str x
inductive HO where
 |lst (xs:List V)
 |tup (xs:List V)
 |dK (kvs:List (Key×V))|dT (kvs:List (List Key×V))
 |set (S:Int->Bool) (n:Nat)
 |ins (C dx:FG) (fs:List (F4×V))
 |own (x:FG)
 |xd (fs:List (F4×V))
 |met (f x:FG)
 |n9 (lo hi:Int)
 |aX (o:Ys) (u:HO)
 |i5 (ps:Array i')
 |ext (φ:XY->Prop)
abbrev bi(x:List V):Option HO:=ih (.tup x)
abbrev bn(x:List V):Option HO:=ih (.lst x)
abbrev ce(x:List (Key×V)):Option HO:=ih (.dK x)
abbrev cr(x:List (List Key×V)):Option HO:=ih (.dT x)
abbrev bd(x:FG):Option V:=ih (.ref x)
abbrev Hp:=FG->Option HO
def upd(H:Hp)(a:FG)(o:HO):Hp:=λb=>if b=a then ih o else H b
theorem ah{H:Hp}{o:HO}:upd H a o a=ih o:=by unfold upd;rw[aw rfl]
theorem ai{H:Hp}{o:HO}(h:b≠a):upd H a o b=H b:=by unfold upd;rw[ak h]
theorem ia{H:Hp}{o u:HO}:upd (upd H a o) a u=upd H a u:=by
 funext b;unfold upd;split <;> rfl
theorem ph{l:am F4}{x:V}(h:(l.map V.str)[i]?=ih x):∃h:i<l.length,V.str l[i]=x:=by
 have a:i<l.length:=by simpa using (bQ.mp h).1
 exact⟨a,by simpa [a] using h⟩
theorem bx{H:Hp}{o u:HO}(h:H a=ih o)(h':H b=ih u)(d:o≠u:=by intro z;cases z):a≠b:=by
 intro e;subst e;rw[h]at h';exact d (cS h')
theorem aB{H:Hp}{o:HO}(h:H a=ih o)(h':H b=none):a≠b:=by
 intro e;subst e;rw[h]at h';cases h'
def iW(h:XY)(a:FG)(Qb:Array i'):Prop:= ∃o,h.get? a=ih o/\o.cls=.type "tuple" /\∃n,o.data=.seq Qb n/\o.dict=none
theorem iW.is(x:iW h a Qb):Yg h a Qb:=let ⟨o,e,c,n,d,_⟩:=x;⟨o,e,c,n,d⟩
theorem iW.new(h:XY)(Qb:Array i'):iW (h.push { cls:=.type "tuple",data:=.seq Qb }) h.objs.size Qb:=⟨_,bG _ rfl,rfl,_,rfl,rfl⟩
section
variable(P:XZ)(w:X7)
def bc(H:Hp)(h:XY)(a:FG):HO->Prop
 |.lst xs=>xs.length<=UJ /\∃(its:List i') (n:Nat),Vals xs its/\h.get? a=ih { cls:=.type "list",data:=.seq its.toArray n }
 |.tup xs=>xs.length<=UJ /\∃its:List i',Vals xs its/\iW h a its.toArray
 |.dK kvs=>kvs.length<=UJ/\(a==sysModules)=false /\∃vs,KV kvs vs/\h.DictOf (b5 P w) a vs
 |.dT kvs=>kvs.length<=UJ/\(a==sysModules)=false /\∃xs:List (List Key×FG×i'),
   XU (λ(p:List Key×V) (q:List Key×FG×i')=>p.1=q.1/\H q.2.1=ih (.tup (p.1.map kV))/\RelV p.2 q.2.2) kvs xs /\
   ∃o es ep,h.get? a=ih o/\o.ExactDict/\o.data=.dict es ep/\es.toList=xs.map (entryOfKey (tupleKind (b5 P w)))/\(xs.map (·.1)).Nodup
 |.set S n=>h.SetOf (intKind P w) a S n
 |.ins C dx fs=>H dx=ih (.own a)/\fs.length<=1000/\dx≠a/\h.get? a=ih (Y' C dx) /\
   ∃mA,h.Ns1 dx mA/\(∀f,gb (fs.lookup f) (mA f))/\Y7 mA (fs.map (·.1))
 |.own _=>∃o,h.get? a=ih o
 |.xd fs=>∃mA,h.Ns1 a mA /\∀f,gb (fs.lookup f) (mA f)
 |.n9 lo hi=>∃t u v,h.get? a=ih { cls:=.type "range",data:=.fields #[.int lo t,.int hi u,.int 1 v] }
 |.aX o u=>h.get? a=ih o/\bc H h a u
 |.i5 ps=>h.get? a=ih { cls:=.none,data:=.fields ps }
 |.met f x=>h.get? a=ih (Y0 (.ref f) (.ref x))
 |.ext φ=>φ h/\(∃o,h.get? a=ih o) /\∀U h2:XY,φ U->(∀o,U.get? a=ih o->h2.get? a=ih o)->φ h2
def b4(H:Hp)(h:XY):Prop:= ∀a o,H a=ih o->bc P w H h a o
end
section
variable{H Y:Hp}{o:HO}
theorem bc.lt(x:bc P w H h a o):a<h.objs.size:=by
 cases o with
 |lst xs=>obtain⟨_,_,_,_,e⟩:=x;exact a6 e
 |tup xs=>obtain⟨_,_,_,p⟩:=x;exact p.is.lt
 |dK kvs=>obtain⟨_,_,_,_,o,_,_,e,_⟩:=x;exact a6 e
 |dT kvs=>obtain⟨_,_,_,_,o,_,_,e,_⟩:=x;exact a6 e
 |set S n=>obtain⟨o,_,_,_,e,_⟩:=x;exact a6 e
 |ins C dx fs=>obtain⟨_,_,_,e,_⟩:=x;exact a6 e
 |own y=>obtain⟨_,e⟩:=x;exact a6 e
 |xd fs=>obtain⟨_,⟨_,_,_,e,_⟩,_⟩:=x;exact a6 e
 |n9 lo hi=>obtain⟨_,_,_,e⟩:=x;exact a6 e
 |aX b u=>obtain⟨e,_⟩:=x;exact a6 e
 |i5 ps=>exact a6 (show h.get? a=ih _ from x)
 |met f y=>exact a6 (show h.get? a=ih _ from x)
 |ext c=>obtain⟨_,⟨_,e⟩,_⟩:=x;exact a6 e
theorem Paired.qt{α β:Type}{F G:α->β->Prop}:∀{c:am α}{d:am β},XU F c d->(∀a b,F a b->G a b)->XU G c d
 |_,_,.nil,_=>.nil
 |_,_,.cons r t,f=>.cons (f _ _ r) (Paired.qt t f)
theorem Paired.imp'{α β:Type}{F G:α->β->Prop}(f:∀a b,F a b->G a b){c:am α}{d:am β}(r:XU F c d):XU G c d:=Paired.qt r f
theorem bc.en(x:bc P w H h a o)(k:∀b u,(b=a\/H b=ih (.own a))->h.get? b=ih u->h'.get? b=ih u)
  (j:∀b,H b=ih (.own a)->Y b=ih (.own a)) (l:∀b xs,H b=bi xs->Y b=bi xs):bc P w Y h' a o:=by
 induction o with
 |lst xs=>obtain⟨z,its,n,r,e⟩:=x;exact⟨z,its,n,r,k _ _ (.inl rfl) e⟩
 |tup xs=>obtain⟨z,its,r,g,e,c⟩:=x;exact⟨z,its,r,g,k _ _ (.inl rfl) e,c⟩
 |dK kvs=>obtain⟨z,y,vs,r,g,es,ep,e,c⟩:=x;exact⟨z,y,vs,r,g,es,ep,k _ _ (.inl rfl) e,c⟩
 |dT kvs =>
  obtain⟨z,y,xs,r,g,es,ep,e,c⟩:=x;exact⟨z,y,xs,Paired.qt r λp q z=>⟨z.1,l _ _ z.2.1,z.2.2⟩,g,es,ep,k _ _ (.inl rfl) e,c⟩
 |set S n=>obtain⟨g,es,ep,t,e,c⟩:=x;exact⟨g,es,ep,t,k _ _ (.inl rfl) e,c⟩
 |ins C dx fs =>
  obtain⟨d,z,ne,e,i,⟨od,es,ep,m,c⟩,r⟩:=x;exact⟨j _ d,z,ne,k _ _ (.inl rfl) e,i,⟨od,es,ep,k _ _ (.inr d) m,c⟩,r⟩
 |own y=>obtain⟨g,e⟩:=x;exact⟨g,k _ _ (.inl rfl) e⟩
 |xd fs=>obtain⟨i,⟨od,es,ep,e,c⟩,r⟩:=x;exact⟨i,⟨od,es,ep,k _ _ (.inl rfl) e,c⟩,r⟩
 |n9 lo hi=>obtain⟨t,u,v,e⟩:=x;exact⟨t,u,v,k _ _ (.inl rfl) e⟩
 |aX g u s=>obtain⟨e,q⟩:=x;exact⟨k _ _ (.inl rfl) e,s q⟩
 |i5 ps =>
  have e:h.get? a=ih { cls:=.none,data:=.fields ps }:=x;show h'.get? a=ih { cls:=.none,data:=.fields ps };exact k a _ (.inl rfl) e
 |met f y =>
  have e:h.get? a=ih (Y0 (.ref f) (.ref y)):=x;show h'.get? a=ih (Y0 (.ref f) (.ref y));exact k a _ (.inl rfl) e
 |ext A=>obtain⟨p,⟨o,e⟩,st⟩:=x;exact⟨st _ _ p λo q=>k _ _ (.inl rfl) q,⟨o,k _ _ (.inl rfl) e⟩,st⟩
theorem b4.lt(x:b4 P w H h)(e:H a=ih o):a<h.objs.size:=(x a o e).lt
theorem b4.fresh(x:b4 P w H h)(e:h.objs.size<=a):H a=none:=by
 cases q:H a with
 |none=>rfl
 |some u=>exact absurd (er (x.lt q) e) (jV _)
theorem b4.kept(x:b4 P w H h)(k:∀b u,h.get? b=ih u->h'.get? b=ih u):b4 P w H h':=λa o e =>
 (x a o e).en (λb u _ q=>k b u q) (λ_ q=>q) λ_ _ q=>q
theorem b4.laid(x:b4 P w H h)(k:∀b u,h.get? b=ih u->h'.get? b=ih u)(g:h.objs.size<=a)(new:bc P w (upd H a o) h' a o):b4 P w (upd H a o) h':=λb u e=>by
 have d:=x.fresh g
 by_cases f:b=a
 ·subst f;rw[ah]at e;cases e;exact new
 ·rw[ai f]at e
  exact(x b u e).en (λc v _ q=>k c v q) (λc q=>by rw[ai (aB q d)];exact q) λc xs q=>by rw[ai (aB q d)];exact q
end
def Rd(H:Hp)(a:FG)(u:HO):Prop:=H a=ih u \/∃o,H a=ih (.aX o u)
theorem Rd.ok{H:Hp}{u:HO}(r:Rd H a u)(x:b4 P w H h):bc P w H h a u:=by
 rcases r with r|⟨o,r⟩
 ·exact x a u r
 ·obtain⟨_,q⟩:=x a _ r
  exact q
def oe:Option HO->Prop
 |some (.lst _)=>True
 |some (.dK _)=>True
 |some (.dT _)=>True
 |some (.set _ _)=>True
 |some (.ins _ _ _)=>True
 |some (.ext _)=>True
 |_=>False
section
variable{H:Hp}{x e:FG}{o':HO}
theorem b4.write(ok:b4 P w H h)(d:oe (H x))(i:e=x\/H e=ih (.own x))(k:∀b u,b≠e->h.get? b=ih u->h'.get? b=ih u)(m:∃u,h'.get? e=ih u)
  (new:bc P w (upd H x o') h' x o'):b4 P w (upd H x o') h':=λb u q=>by
 have g:∀c y,H c=ih (.own y)->c≠x:=λc y r z=>by subst z;rw[r]at d;exact d
 have l:∀c xs,H c=bi xs->c≠x:=λc xs r z=>by subst z;rw[r]at d;exact d
 by_cases f:b=x
 ·subst f;rw[ah]at q;cases q;exact new
 ·rw[ai f]at q
  by_cases a:b=e
  ·have j:H b=ih (.own x):=by
    rcases i with z|z
    ·exact absurd (a.trans z) f
    ·rw[a];exact z
   rw[q]at j;cases j;obtain⟨v,n⟩:=m;exact⟨v,by rw[a];exact n⟩
  ·refine(ok b u q).en (λc v hc r=>k c v ?_ r) (λc r=>by rw[ai (g c b r)];exact r) λc xs r=>by rw[ai (l c xs r)];exact r
   rcases hc with rfl|hc
   ·exact a
   ·rintro rfl
    rcases i with z|z
    ·exact g c b hc z
    ·rw[hc]at z;cases z;exact f rfl
end
structure Un(fs ex:List FG)(H Y:Hp)(h h':XY):Prop where
 keep:∀b o,h.get? b=ih o->H b=none->b ∉ fs->b ∉ ex->h'.get? b=ih o
 slot:∀b o,h.get? b=ih o->H b=none->b∈fs->b ∉ ex ->∃sl,h'.get? b=ih { o with slots:=sl }
 free:∀b o,h.get? b=ih o->H b=none->b ∉ ex->Y b=none
 there:∀b o,h.get? b=ih o->b ∉ ex ->∃o',h'.get? b=ih o'
 gx:∀b xs,H b=ih (.tup xs)->Y b=ih (.tup xs)
 gM:∀b o u,H b=ih (.aX o u)->Y b=ih (.aX o u)
 hH:∀b ps,H b=ih (.i5 ps) ->∃more,Y b=ih (.i5 (ps++more))
section
variable{fs Qw ex Qy:am FG}{H H1 H2:Hp}{U h2:XY}{x e:FG}{o:HO}
theorem Un.any(u:Un fs ex H H1 h U){ob:Ys}(q:h.get? b=ih ob)(n:H b=none)(a:b ∉ ex):∃sl,U.get? b=ih { ob with slots:=sl }:=by
 by_cases c:b∈fs
 ·exact u.slot b ob q n c a
 ·exact⟨ob.slots,u.keep b ob q n c a⟩
theorem Un.kept(k:∀b u,h.get? b=ih u->h'.get? b=ih u):Un fs ex H H h h':=
 ⟨λb a q _ _ _=>k b a q,λb a q _ _ _=>⟨a.slots,k b a q⟩,λ_ _ _ n _=>n,λb a q _=>⟨a,k b a q⟩,λ_ _ q=>q,λ_ _ _ q=>q,λ_ ps q=>⟨#[],by rw[q];simp⟩⟩
theorem Un.refl:Un fs ex H H h h:=Un.kept λ_ _ q=>q
theorem Un.laid(k:∀b u,h.get? b=ih u->h'.get? b=ih u)(d:h.objs.size<=a)(c:H a=none):Un fs ex H (upd H a o) h h' where
 keep:=λb u q _ _ _=>k b u q
 slot:=λb u q _ _ _=>⟨u.slots,k b u q⟩
 free:=λb u q n _=>by rw[ai (bp (er (a6 q) d))];exact n
 there:=λb u q _=>⟨u,k b u q⟩
 gx:=λb xs q=>by rw[ai (aB q c)];exact q
 gM:=λb u xs q=>by rw[ai (aB q c)];exact q
 hH:=λb ps q=>⟨#[],by rw[ai (aB q c),q];simp⟩
theorem Un.write(a:oe (H x))(j:e=x\/H e=ih (.own x))(k:∀b u,b≠e->h.get? b=ih u->h'.get? b=ih u)(i:∃u,h'.get? e=ih u):Un fs ex H (upd H x o) h h':=by
 have f:∀b,H b=none->b≠x:=λb n z=>by subst z;rw[n]at a;exact a
 have g:∀b,H b=none->b≠e:=λb n z=>by
  subst z;rcases j with r|r
  ·exact f b n r
  ·rw[n]at r;cases r
 have c:∀b u,H b=ih u ->¬ oe (ih u)->b≠x:=λb u q l z=>by subst z;rw[q]at a;exact l a
 refine⟨λb u q n _ _=>k b u (g b n) q,λb u q n _ _=>⟨u.slots,k b u (g b n) q⟩,λb u q n _=>by rw[ai (f b n)];exact n,λb u q _=>?_,
  λb xs q=>by rw[ai (c b _ q λz=>z)];exact q,λb u xs q=>by rw[ai (c b _ q λz=>z)];exact q,λb ps q=>⟨#[],by rw[ai (c b _ q λz=>z),q];simp⟩⟩
 by_cases d:b=e
 ·subst d;exact i
 ·exact⟨u,k b u d q⟩
end
def gR(h:XY)(H:Hp):List FG:=(UU h.objs.size).filter λa=>(H a).isSome
def iX(h:XY)(H:Hp):XY:=PySem.W.hideAll h (gR h H)
theorem Iu(h:XY)(H:Hp):(iX h H).objs.size=h.objs.size:=PySem.W.hideAll_size _ _
theorem Jh{H:Hp}(e:h.get? b=ih o)(n:H b=none):(iX h H).get? b=ih o:=
 PySem.W.hideAll_get _ e λa=>by
  have q:(H b).isSome=true:=(d9.mp a).2;rw[n]at q;simp at q
theorem Kj{H:Hp}(e:(iX h H).get? b=ih o):h.get? b=ih o/\H b=none:=by
 have a:h.get? b=ih o:=PySem.W.of_hideAll (gR h H) e;refine⟨a,?_⟩;cases q:H b with
 |none=>rfl
 |some x =>
  have c:b∈gR h H:=d9.mpr ⟨eO.mpr (a6 a),by simp[q]⟩
  have z:(iX h H).get? b=none:=PySem.W.hideAll_none (gR h H) c;rw[z]at e;cases e
def sP(g h:XY)(L:FG):List (FG×Ys):=(UU h.objs.size).filterMap λa=>if a=L\/(g.get? a).isSome=true then none else (h.get? a).map λo=>(a,o)
theorem mO{L:FG}(U:a≠L)(h2:g.get? a=none)(b:h.get? a=ih o):(a,o)∈sP g h L:=
 mB.mpr ⟨a,eO.mpr (a6 b),by simp[U,h2,b]⟩
theorem lj{L:FG}{p:FG×Ys}(c:p∈sP g h L):p.1≠L/\g.get? p.1=none/\h.get? p.1=ih p.2:=by
 obtain⟨b,_,e⟩:=mB.mp c;split at e
 ·cases e
 ·rename_i a
  cases q:h.get? b with
  |none=>rw[q]at e;simp at e
  |some u =>
   rw[q]at e;simp only[oy,Uw]at e;subst e;refine⟨λz=>a (.inl z),?_,q⟩;show g.get? b=none;cases r:g.get? b with
   |none=>rfl
   |some v=>exact(a (.inr (by simp[r]))).elim
theorem AK{L:FG}:News g L h (sP g h L):=λp d=>let ⟨a,b,c⟩:=lj d;⟨c,a,b⟩
structure Mod(K:U0)(mg:F4->Option i')(base:XY):Prop where
 kL:K.In base
 glob:base.Ns UX mg
 blt:∃mb,base.Ns builtinsNs mb /\∀x:F4,x ≠ "__name__" -> mb x=Vx x
 nolimit:base.NoLimit
structure Cx where
 prog:XZ
 w:X7
 K:U0
 mg:F4->Option i'
 base:XY
 A:Yc
 N:List F4
 eb:Gb
 gN:Hp
 env:Y5
 outer:List Y5
 stack:List Y5
 ex:List FG
 fn:F4->Bool
 calm:Bool
 pn:List (FG×Ys)
 xe:i'->Gb->Prop
abbrev Cx.ef(X:Cx):=UP X.prog X.w
abbrev wA{α:Type}(X:Cx):=UB (α:=α) X.ef X.A
end L2
abbrev PySem.Shared.ax(s:Y8):YN:=s.heap.objs.size
namespace L2
open Spec PyProof.Rows W
def d2(l:List Y5):List FG:=l.filterMap (·.frame)
abbrev Cx.fs(X:Cx):List FG:=d2 X.outer
def uS(sc:YL)(x:F4):Prop:=sc.names.lookup x=ih .local\/sc.names.lookup x=ih .cell\/sc.names.lookup x=ih .free
def Loc(sc:YL)(x:F4):Prop:=sc.names.lookup x=ih .local\/sc.names.lookup x=ih .cell
def Look(env:Y5)(h:XY)(m:F4->Option i')(x:F4)(u:i'):Prop:=
 (env.kindOf x=ih .local/\m x=ih u)\/((env.kindOf x=ih .cell\/env.kindOf x=ih .free) /\∃c,env.cells.lookup x=ih c/\h.IsCell c (ih u))
structure Cx.Ok(X:Cx):Prop where
 mod:Mod X.K X.mg X.base
 kind:X.env.scope.kind=.function
 glob:X.env.globals=UX
 blt:X.env.builtins=builtinsNs
 above:X.eb.heap.objs.size<=X.env.locals
 inj:∀x y c,X.env.cells.lookup x=ih c->X.env.cells.lookup y=ih c->x=y
 has:∀x,(X.env.kindOf x=ih .cell\/X.env.kindOf x=ih .free) ->∃c,X.env.cells.lookup x=ih c
 i6:∀x c,X.fn x=true->X.env.cells.lookup x=ih c->X.eb.heap.objs.size<=c
 hd:X.calm=true->X.A.handled=none
 frames:X.A.frames=ih X.stack
 jG:X.stack=X.outer\/(X.stack=X.env::X.outer/\X.env.frame=ih X.env.locals)
 jH:∀b∈X.ex,b≠X.env.locals /\∀x c,X.env.cells.lookup x=ih c->c≠b
 bs:∀b o,X.base.get? b=ih o->X.eb.heap.get? b=ih o/\X.gN b=none
 gS:X.base.objs.size<=X.eb.heap.objs.size
 iY:∀b o,X.base.get? b=ih o->b ∉ X.ex
 iZ:∀b∈X.ex,b ∉ X.fs
 fb:X.eb.heap.FunFrames X.base X.outer
 hQ:∀b∈X.fs,X.gN b=none
structure Inv(X:Cx)(J:List (FG×Ys))(σ:List (Option V))(H:Hp)(s:Gb):Prop where
 ok:X.Ok
 os:s.os=X.eb.os
 bare:YT s.gens
 base:Un X.fs X.ex X.gN H X.eb.heap s.heap
 loc:∃m,s.heap.Ns X.env.locals m /\∀(i:Nat) (x:F4) (v:V),X.N[i]?=ih x->σ[i]?=ih (ih v)->uS X.env.scope x ->∃u,RelV v u/\Look X.env s.heap m x u
 cell:∀x c,X.env.cells.lookup x=ih c ->∃v,s.heap.IsCell c v
 free:H X.env.locals=none
 eG:∀x c,X.env.cells.lookup x=ih c->H c=none
 pin:∀p∈X.pn++J,s.heap.get? p.1=ih p.2/\H p.1=none/\p.1≠X.env.locals/\p.1 ∉ X.fs /\∀v,p.2.data ≠ .cell v
 aD:b4 X.prog X.w H s.heap
 len:σ.length=X.N.length
section
variable{X:Cx}{σ:am (Option V)}{H Y:Hp}
theorem Cx.Ok.qu(ok:X.Ok)(e:X.base.get? b=ih o):b ∉ X.fs:=λa=>by
 have:=(ok.fb.mem a).1;rw[e]at this;cases this
theorem Inv.bs(I:Inv X J σ H s):∀b o,X.base.get? b=ih o->s.heap.get? b=ih o/\H b=none:=λb o e =>
 ⟨I.base.keep b o (I.ok.bs b o e).1 (I.ok.bs b o e).2 (I.ok.qu e) (I.ok.iY b o e),I.base.free b o (I.ok.bs b o e).1 (I.ok.bs b o e).2 (I.ok.iY b o e)⟩
theorem Inv.bk(I:Inv X J σ H s):∀b o,X.base.get? b=ih o->s.heap.get? b=ih o:=λb o e=>(I.bs b o e).1
theorem Inv.mod(I:Inv X J σ H s):Mod X.K X.mg X.base:=I.ok.mod
theorem Inv.cm(I:Inv X J σ H s):X.K.In s.heap:=I.ok.mod.kL.keeps I.bk
theorem Inv.lt(I:Inv X J σ H s):X.env.locals<s.ax:=let ⟨_,a,_⟩:=I.loc;a.lt
theorem Inv.sz(I:Inv X J σ H s):X.eb.heap.objs.size<=s.ax:=e5 I.ok.above (oz I.lt)
theorem Inv.OB(I:Inv X J σ H s)(h:s.ax<=a):a ∉ X.fs:=λb=>by
 obtain⟨_,o,c,_⟩:=I.ok.fb.mem b;exact absurd (er (a6 c) (e5 I.sz h)) (jV _)
theorem Inv.hR(I:Inv X J σ H s):∀x c,X.env.cells.lookup x=ih c->c≠X.env.locals:=λx c e z=>by
 obtain⟨v,o,a,b⟩:=I.cell x c e;obtain⟨m,⟨o',es,ep,d,f,_⟩,_⟩:=I.loc;rw[z,d]at a;cases a;rw[f]at b;cases b
theorem Inv.fb(I:Inv X J σ H s):s.heap.FunFrames X.base X.outer:=by
 have all:∀(l:am Y5),(∀b∈d2 l,b∈X.fs)->X.eb.heap.FunFrames X.base l->s.heap.FunFrames X.base l:=by
  intro l
  induction l with
  |nil=>intro _ _;trivial
  |cons env r f =>
   rintro hs ⟨h,⟨L,o,a,i,j,k⟩,m⟩;have c:L∈X.fs:=hs L (by unfold d2;rw[rb,a];exact aT)
   obtain⟨sl,e⟩:=I.base.slot L o j (I.ok.hQ L c) c λz=>I.ok.iZ L z c;exact⟨h,⟨L,_,a,i,e,k⟩,f (λb d=>hs b (by unfold d2;rw[rb,a];exact a8 _ d)) m⟩
 exact all X.outer (λ_ d=>d) I.ok.fb
theorem Inv.stack(I:Inv X J σ H s):s.heap.FunFrames X.base X.stack:=by
 rcases I.ok.jG with e|⟨e,a⟩
 ·rw[e];exact I.fb
 ·rw[e]
  obtain⟨m,b,_⟩:=I.loc;refine .cons (by rw[I.ok.kind];decide) a b ?_ I.fb
  exact vf (e5 I.ok.gS I.ok.above)
theorem Inv.pH(I:Inv X J σ H s):∀b∈d2 X.stack,b∈X.env.locals::X.fs:=λb a=>by
 rcases I.ok.jG with e|⟨e,c⟩
 ·rw[e]at a;exact a8 _ a
 ·rw[e]at a
  unfold d2 at a;rw[rb,c]at a;exact a
theorem Inv.sQ(I:Inv X J σ H s):∀b∈d2 X.stack,H b=none:=λb hb=>by
 rcases bu.mp (I.pH b hb) with e|hb
 ·rw[e];exact I.free
 ·obtain⟨_,o,a,_⟩:=I.ok.fb.mem hb
  exact I.base.free b o a (I.ok.hQ b hb) λz=>I.ok.iZ b z hb
theorem Inv.step{g':Array Zn}{d':Drawn}(I:Inv X J σ H s)
  (j:∀b∈ch,(b∈X.ex\/X.eb.heap.objs.size<=b)/\b≠X.env.locals/\(∀x c,X.env.cells.lookup x=ih c->c≠b) /\∀p∈X.pn++J,p.1≠b)
  (keep:∀b o,b≠X.env.locals->b ∉ X.fs->b ∉ ch->s.heap.get? b=ih o->H b=none->h'.get? b=ih o)
  (D:∀b o,b≠X.env.locals->b∈X.fs->b ∉ ch->s.heap.get? b=ih o->H b=none ->∃sl,h'.get? b=ih { o with slots:=sl }) (free:∀b o,b ∉ ch->s.heap.get? b=ih o->H b=none->Y b=none)
  (there:∀b o,b ∉ ch->s.heap.get? b=ih o ->∃o',h'.get? b=ih o')
  (L:∀b xs,H b=bi xs->Y b=bi xs) (M:∀b o u,H b=ih (.aX o u)->Y b=ih (.aX o u)) (N:∀b ps,H b=ih (.i5 ps) ->∃more,Y b=ih (.i5 (ps++more)))
  (ns:∀m,s.heap.Ns X.env.locals m->h'.Ns X.env.locals m) (O:b4 X.prog X.w Y h') (Q:YT g') :
  Inv X J σ Y { s with heap:=h',gens:=g',drawn:=d',toks:=t' }:=by
 have E:∀b o,X.eb.heap.get? b=ih o->b≠X.env.locals:=λb o e=>bp (er (a6 e) I.ok.above);have A:∀b o,X.eb.heap.get? b=ih o->b ∉ X.ex->b ∉ ch:=λb o e a g=>by
  rcases (j b g).1 with z|z
  ·exact a z
  ·exact absurd (er (a6 e) z) (jV _)
 have C:∀x c,X.env.cells.lookup x=ih c ->∀v,s.heap.IsCell c v->h'.IsCell c v:=λx c e v ⟨o,h,B⟩=>by
  have t:c ∉ ch:=λz=>(j c z).2.2.1 x c e rfl
  by_cases F:c∈X.fs
  ·obtain⟨sl,q⟩:=D c o (I.hR x c e) F t h (I.eG x c e)
   exact⟨_,q,B⟩
  ·exact⟨o,keep c o (I.hR x c e) F t h (I.eG x c e),B⟩
 refine⟨I.ok,I.os,Q,⟨λb o e n g a=>?_,λb o e n g a=>?_,λb o e n a=>?_,λb o e a=>?_,λb xs e=>L b xs (I.base.gx b xs e),λb o xs e=>M b o xs (I.base.gM b o xs e),λb ps e=>?_⟩,?_,λx c e=>?_,?_,λx c e=>?_,λp G=>?_,O,I.len⟩
 ·exact keep b o (E b o e) g (A b o e a) (I.base.keep b o e n g a) (I.base.free b o e n a)
 ·obtain⟨sl,f⟩:=I.base.slot b o e n g a
  obtain⟨P,y⟩:=D b _ (E b o e) g (A b o e a) f (I.base.free b o e n a);exact⟨P,y⟩
 ·obtain⟨o',f⟩:=I.base.there b o e a
  exact free b o' (A b o e a) f (I.base.free b o e n a)
 ·obtain⟨o',f⟩:=I.base.there b o e a
  exact there b o' (A b o e a) f
 ·obtain⟨R,f⟩:=I.base.hH b ps e
  obtain⟨S,y⟩:=N b _ f;exact⟨R++S,by rw[y,Array.append_assoc]⟩
 ·obtain⟨m,T,U⟩:=I.loc
  refine⟨m,ns m T,λi x v f y V=>?_⟩;obtain⟨u,r,l⟩:=U i x v f y V;refine⟨u,r,?_⟩;rcases l with l|⟨k,c,e,z⟩
  ·exact .inl l
  ·exact .inr ⟨k,c,e,C x c e _ z⟩
 ·obtain⟨v,z⟩:=I.cell x c e
  exact⟨v,C x c e v z⟩
 ·obtain⟨m,⟨o,_,_,h,_⟩,_⟩:=I.loc
  exact free _ o (λz=>(j _ z).2.1 rfl) h I.free
 ·obtain⟨v,o,h,B⟩:=I.cell x c e
  exact free c o (λz=>(j c z).2.2.1 x c e rfl) h (I.eG x c e)
 ·obtain⟨e,n,ne,K,d⟩:=I.pin p G
  have t:p.1 ∉ ch:=λz=>(j p.1 z).2.2.2 p G rfl;exact⟨keep p.1 p.2 ne K t e n,free p.1 p.2 t e n,ne,K,d⟩
theorem Inv.un(I:Inv X J σ H s)(u:Un X.fs [] H Y s.heap h')(f:b4 X.prog X.w Y h'):Inv X J σ Y { s with heap:=h',toks:=t' }:=by
 obtain⟨m,⟨o,es,ep,d,r⟩,_⟩:=id I.loc;obtain⟨sl,i⟩:=u.any d I.free (by simp)
 exact I.step (g':=s.gens) (d':=s.drawn) (ch:=[]) (λ_ z=>nomatch z) (λb o _ a _ e n=>u.keep b o e n a (by simp)) (λb o _ a _ e n=>u.slot b o e n a (by simp)) (λb o _ e n=>u.free b o e n (by simp)) (λb o _ e=>u.there b o e (by simp)) u.gx u.gM u.hH (λl j=>by
  obtain⟨o',g,h,c,k⟩:=j;rw[d]at c;cases c;exact⟨_,g,h,i,k⟩) f I.bare
theorem Inv.call{g':Array Zn}{d':Drawn}(I:Inv X J σ H s)(u:Un (d2 X.stack) ch H Y s.heap h')(i:b4 X.prog X.w Y h')(l:YT g')
  (f:∀b∈ch,(b∈X.ex\/X.eb.heap.objs.size<=b)/\b≠X.env.locals/\(∀x c,X.env.cells.lookup x=ih c->c≠b) /\∀p∈X.pn++J,p.1≠b) :
  Inv X J σ Y { s with heap:=h',gens:=g',drawn:=d',toks:=t' }:=by
 obtain⟨m,⟨o,es,ep,h,r⟩,_⟩:=id I.loc;obtain⟨sl,d⟩:=u.any h I.free λz=>(f _ z).2.1 rfl;exact I.step (ch:=ch) f (λb o d q a e n=>u.keep b o e n (λz=>(bu.mp (I.pH b z)).elim d q) a) (λb o _ _ a e n=>u.any e n a) (λb o a e n=>u.free b o e n a) (λb o a e=>u.there b o e a) u.gx u.gM u.hH (λy t=>by
  obtain⟨o',j,k,g,v⟩:=t;rw[h]at g;cases g;exact⟨_,j,k,d,v⟩) i l
theorem Inv.turned(I:Inv X J σ H s)(k:∀b o,b≠it->s.heap.get? b=ih o->h'.get? b=ih o)(g:H it=none)(f:it≠X.env.locals)
  (U:it∈X.ex\/X.eb.heap.objs.size<=it) (h2:∀x c,X.env.cells.lookup x=ih c->c≠it) (h:∀p∈X.pn++J,p.1≠it):Inv X J σ H { s with heap:=h',toks:=t' }:=by
 have d:∀b u,H b=ih u->b≠it:=λb u e z=>by rw[z,g]at e;cases e
 refine I.step (g':=s.gens) (d':=s.drawn) (ch:=[it]) (λb i=>?_) (λb o _ _ a e _=>k b o (λz=>a (by simp[z])) e) (λb o _ _ a e _=>⟨o.slots,k b o (λz=>a (by simp[z])) e⟩) (λ_ _ _ _ n=>n)
  (λb o a e=>⟨o,k b o (λz=>a (by simp[z])) e⟩) (λ_ _ e=>e) (λ_ _ _ e=>e) (λb ps e=>⟨#[],by rw[e];simp⟩) (λm j=>?_) (λb u e=>?_) I.bare
 ·have e:b=it:=by simpa using i
  subst e;exact⟨U,f,h2,h⟩
 ·obtain⟨o,es,ep,l,r⟩:=j
  exact⟨o,es,ep,k _ o (a7 f) l,r⟩
 ·refine(I.aD b u e).en (λc v a q=>k c v ?_ q) (λ_ q=>q) λ_ _ q=>q
  rcases a with z|z
  ·rw[z];exact d b u e
  ·exact d c _ z
theorem Inv.tok(I:Inv X J σ H s)(t:Nat):Inv X J σ H { s with toks:=t }:=I.un (h':=s.heap) (t':=t) Un.refl I.aD
theorem Inv.kept(I:Inv X J σ H s)(k:∀b u,s.heap.get? b=ih u->h'.get? b=ih u):Inv X J σ H { s with heap:=h',toks:=t' }:=I.un (Un.kept k) (I.aD.kept k)
theorem Inv.laid{o:HO}(I:Inv X J σ H s)(k:∀b u,s.heap.get? b=ih u->h'.get? b=ih u)(c:s.ax<=a)(new:bc X.prog X.w (upd H a o) h' a o) :
  Inv X J σ (upd H a o) { s with heap:=h',toks:=t' }:=I.un (Un.laid k c (I.aD.fresh c)) (I.aD.laid k c new)
theorem Inv.write{x e:FG}{o:HO}(I:Inv X J σ H s)(c:oe (H x))(d:e=x\/H e=ih (.own x))(k:∀b u,b≠e->s.heap.get? b=ih u->h'.get? b=ih u)(a:∃u,h'.get? e=ih u)
  (new:bc X.prog X.w (upd H x o) h' x o):Inv X J σ (upd H x o) { s with heap:=h',toks:=t' }:=I.un (Un.write c d k a) (I.aD.write c d k a new)
theorem Inv.Bu{Qq:am (FG×Ys)}(I:Inv X J σ H s)(h:∀p∈Qq,s.heap.get? p.1=ih p.2/\H p.1=none/\p.1≠X.env.locals/\p.1 ∉ X.fs /\∀v,p.2.data ≠ .cell v):Inv X Qq σ H s:=
 ⟨I.ok,I.os,I.bare,I.base,I.loc,I.cell,I.free,I.eG,λp a=>(cw.mp a).elim (λz=>I.pin p (gm _ z)) (h p),I.aD,I.len⟩
theorem sk(c:N.Nodup)(a:N[i]?=ih x)(b:N[j]?=ih x):i=j:=by
 obtain⟨U,d⟩:=bQ.mp a;obtain⟨h2,e⟩:=bQ.mp b;exact(Z8 c).mp (d.trans e.symm)
theorem w3{M:Zu}{v:V}{Q:Unit->Gb->Prop}(I:Inv X J σ H s)(za:X.N.Nodup)(hi:X.N[i]?=ih x)(g:Loc X.env.scope x)(r:RelV v u)
  (h:∀s',Inv X J (σ.set i (ih v)) H s'->(∃a,X4 a s.heap s'.heap/\(a=X.env.locals\/X.env.cells.lookup x=ih a))->Q () s') (zc:X.fn x=true\/X.env.scope.names.lookup x=ih .local:=by first|exact .inl rfl|exact .inr rfl|assumption):UB M A (storeName X.env x u) Q E s:=by
 obtain⟨m,G,xb⟩:=id I.loc;have yb:(X.env.scope.kind == .class||(X.env.scope.kind == .module&&X.env.locals != X.env.globals))=false:=by rw[I.ok.kind];rfl
 have W:i<σ.length:=by rw[I.len];exact(bQ.mp hi).1
 have hR:=I.hR;have T:∀{a:FG}{h':XY},(∃o,s.heap.get? a=ih o/\H a=none)->X4 a s.heap h'->b4 X.prog X.w H h':=λ{a h'} xd hs b yd e=>by
  obtain⟨_,_,U⟩:=xd;refine(I.aD b yd e).en (λc C hc q=>(hs.2 c ?_).trans q) (λ_ q=>q) λ_ _ q=>q;rintro rfl;rcases hc with rfl|hc
  ·rw[U]at e;cases e
  ·rw[U]at hc;cases hc
 rcases g with hk|hk
 ·refine wpAny_storeName_local hk G (λh' xc hs=>?_) yb
  obtain⟨zd,_,_,yc,_⟩:=id G;refine h _ ⟨I.ok,I.os,I.bare,⟨λb o e n t g=>?_,λb o e n t g=>?_,I.base.free,λb o e g=>?_,I.base.gx,I.base.gM,I.base.hH⟩,⟨_,xc,λj y K f l L=>?_⟩,λy c e=>?_,I.free,I.eG,λp O=>?_,T ⟨zd,yc,I.free⟩ hs,by simpa using I.len⟩ ⟨_,hs,.inl rfl⟩
  ·exact(hs.2 b (bp (er (a6 e) I.ok.above))).trans (I.base.keep b o e n t g)
  ·obtain⟨sl,f⟩:=I.base.slot b o e n t g
   exact⟨sl,(hs.2 b (bp (er (a6 e) I.ok.above))).trans f⟩
  ·obtain⟨o',f⟩:=I.base.there b o e g
   exact⟨o',(hs.2 b (bp (er (a6 e) I.ok.above))).trans f⟩
  ·by_cases B:j=i
   ·subst B
    rw[hi]at f;cases f;rw[FC W]at l;cases l
    exact⟨u,r,.inl ⟨hk,by simp⟩⟩
   ·rw[FD (a7 B)]at l
    obtain⟨P,R,q⟩:=xb j y K f l L;refine⟨P,R,?_⟩;rcases q with⟨k,e⟩|⟨k,c,e,z⟩
    ·refine .inl ⟨k,?_⟩
     have:y≠x:=λe=>B (sk za f (e ▸ hi));simp[this,e]
    ·exact .inr ⟨k,c,e,z.sameBut hs (hR y c e)⟩
  ·obtain⟨C,z⟩:=I.cell y c e
   exact⟨C,z.sameBut hs (hR y c e)⟩
  ·obtain⟨e,n,ne,S,d⟩:=I.pin p O
   exact⟨(hs.2 p.1 ne).trans e,n,ne,S,d⟩
 ·have F:X.fn x=true:=by
   rcases zc with z|z
   ·exact z
   ·rw[z]at hk;cases hk
  obtain⟨c,hc⟩:=I.ok.has x (.inl hk);obtain⟨C,z⟩:=I.cell x c hc;refine wpAny_storeName_cell I.ok.kind hk hc z (λh' Y hs=>?_);obtain⟨oc,xa,zb⟩:=id z;refine h { s with heap:=h' } ⟨I.ok,I.os,I.bare,⟨λb o e n t g=>?_,λb o e n t g=>?_,I.base.free,λb o e g=>?_,I.base.gx,I.base.gM,I.base.hH⟩,⟨m,G.sameBut hs (a7 (hR x c hc)),λj y K f l L=>?_⟩,λy D e=>?_,I.free,I.eG,λp O=>?_,T ⟨oc,xa,I.eG x c hc⟩ hs,by simpa using I.len⟩ ⟨c,hs,.inr hc⟩
  ·exact(hs.2 b (bp (er (a6 e) (I.ok.i6 x c F hc)))).trans (I.base.keep b o e n t g)
  ·obtain⟨sl,f⟩:=I.base.slot b o e n t g
   exact⟨sl,(hs.2 b (bp (er (a6 e) (I.ok.i6 x c F hc)))).trans f⟩
  ·obtain⟨o',f⟩:=I.base.there b o e g
   exact⟨o',(hs.2 b (bp (er (a6 e) (I.ok.i6 x c F hc)))).trans f⟩
  ·by_cases B:j=i
   ·subst B
    rw[hi]at f;cases f;rw[FC W]at l;cases l
    exact⟨u,r,.inr ⟨.inl hk,c,hc,Y⟩⟩
   ·rw[FD (a7 B)]at l
    obtain⟨P,R,q⟩:=xb j y K f l L;refine⟨P,R,?_⟩;rcases q with q|⟨k,D,e,xe⟩
    ·exact .inl q
    ·refine .inr ⟨k,D,e,xe.sameBut hs ?_⟩
     rintro rfl;exact B (sk za f (I.ok.inj _ _ _ e hc ▸ hi))
  ·by_cases ya:D=c
   ·subst ya;exact⟨_,Y⟩
   ·obtain⟨ye,z2⟩:=I.cell y D e
    exact⟨ye,z2.sameBut hs ya⟩
  ·obtain⟨e,n,ne,S,d⟩:=I.pin p O
   refine⟨(hs.2 p.1 ?_).trans e,n,ne,S,d⟩;intro q;rw[q,xa]at e;have ze:oc=p.2:=cS e;exact d C (by rw[<-ze];exact zb)
theorem sq{M:Zu}{v:V}{Q:Unit->Gb->Prop}(I:Inv X J σ H s)(a:X.N.Nodup)(hi:X.N[i]?=ih x)(b:Loc X.env.scope x)(r:RelV v u)
  (h:∀s',Inv X J (σ.set i (ih v)) H s'->Q () s') (c:X.fn x=true\/X.env.scope.names.lookup x=ih .local:=by first|exact .inl rfl|exact .inr rfl|assumption):UB M A (storeName X.env x u) Q E s:=
 w3 I a hi b r (λs' d _=>h s' d) c
theorem Inv.uc(I:Inv X J σ H s)(f:s'.os=s.os)(u:Un (d2 X.stack) ch H Y s.heap s'.heap)(a:b4 X.prog X.w Y s'.heap)(g:YT s'.gens)
  (d:∀b∈ch,(b∈X.ex\/X.eb.heap.objs.size<=b)/\b≠X.env.locals/\(∀x c,X.env.cells.lookup x=ih c->c≠b) /\∀p∈X.pn++J,p.1≠b):Inv X J σ Y s':=by
 obtain⟨h',g',d',t',o'⟩:=s';have e:o'=s.os:=f;subst e;exact I.call (g':=g') (t':=t') (d':=d') u a g d
end
abbrev XK:=i'->Option FG->Hp->Prop
abbrev St:=List (Option V)
abbrev VK:=V->Hp->Prop
abbrev TE:=St->Hp->VK->Prop
abbrev TT:=St->Hp->(Bool->Hp->Prop)->Prop
abbrev TA:=St->Hp->(List V->Hp->Prop)->Prop
structure Ends where
 nx:St->Hp->Prop
 rt:VK
 bk:St->Hp->Prop:=λ_ _=>False
 ct:St->Hp->Prop:=λ_ _=>False
end L2
variable{xs ys vs ws wt wb:am L2.V}{H Y H1 H2:L2.Hp}{X:L2.Cx}{σ gj:L2.St}{v y:L2.V}{Q:L2.VK}{ta te tl:L2.TE}{D:L2.Ends}{ti:L2.TT}{kvs:am (L2.Key×L2.V)}{O:L2.HO}
namespace L2
open Spec PyProof.Rows W
abbrev TS:=Ends->St->Hp->Prop
def EP(X:Cx)(J:List (FG×Ys))(σ:St)(Q:VK)(u:i')(s':Gb):Prop:= ∃v Y,Inv X J σ Y s'/\RelV v u/\Q v Y
def TP(X:Cx)(J:List (FG×Ys))(σ:St)(Q:Bool->Hp->Prop)(b:Bool)(s':Gb):Prop:= ∃Y,Inv X J σ Y s'/\Q b Y
def AP(X:Cx)(J:List (FG×Ys))(σ:St)(Q:List V->Hp->Prop)(us:List i')(s':Gb):Prop:= ∃vs Y,Inv X J σ Y s'/\Vals vs us/\Q vs Y
def SP(X:Cx)(J:List (FG×Ys))(D:Ends)(f:Flow)(s':Gb):Prop:=
 match f with
 |.next=>∃cN Y,Inv X J cN Y s'/\D.nx cN Y
 |.brk=>∃cN Y,Inv X J cN Y s'/\D.bk cN Y
 |.cont=>∃cN Y,Inv X J cN Y s'/\D.ct cN Y
 |.ret u=>∃v cN Y,Inv X J cN Y s'/\RelV v u/\D.rt v Y
def PE(X:Cx)(e:Vo)(t:TE):Prop:=
 ∀J s σ H (Q:VK),Inv X J σ H s->t σ H Q->wA X (eval e X.env) (EP X J σ Q) X.xe s
def PT(X:Cx)(e:Vo)(t:TT):Prop:=
 ∀J s σ H (Q:Bool->Hp->Prop),Inv X J σ H s->t σ H Q->wA X (isTrue e X.env (eval e X.env)) (TP X J σ Q) X.xe s
def PW(X:Cx)(e:Vo)(t:TT):Prop:=
 ∀(M6:Zi i') J s σ H (Q:Bool->Hp->Prop),Inv X J σ H s->t σ H Q->wA X (isTrue e X.env M6) (TP X J σ Q) X.xe s
theorem PW.pt{t:TT}(h:PW X e t):PT X e t:=h _
def PA(X:Cx)(es:List Vo)(t:TA):Prop:=
 ∀(pos:ZV) J s σ H (Q:List V->Hp->Prop),Inv X J σ H s->t σ H Q->wA X (spliced (backTo pos (U6 es X.env))) (AP X J σ Q) X.xe s
def PS(X:Cx)(st:VC)(t:TS):Prop:=
 ∀J s σ H (D:Ends),Inv X J σ H s->t D σ H->wA X (exec st X.env) (SP X J D) X.xe s
def dr(X:Cx)(st:List VC)(t:TS):Prop:=
 ∀J s σ H (D:Ends),Inv X J σ H s->t D σ H->wA X (execs st X.env) (SP X J D) X.xe s
theorem aI{α:Type}{t:Zi α}{Q b:α->Gb->Prop}{M:Zu}(h:UB M A t Q E s)(c:∀a s,Q a s->b a s):UB M A t b E s:=gU h c λ_ _ x=>x
end L2
namespace L2
open Spec PyProof.Rows
section
def jz(i:Nat):TE:=λσ H Q=>∃v,σ[i]?=ih (ih v)/\Q v H
def tC(v:V):TE:=λ_ H Q=>Q v H
theorem LL(j:X.N[i]?=ih x)(k:uS X.env.scope x)(b:(x==("__debug__" : F4))=false:=by decide)(g:(x==("__classdict__" : F4))=false:=by decide):PE X (.Name x pos) (jz i):=by
 rintro J s σ H Q I ⟨v,e,h⟩;obtain⟨m,n,o⟩:=I.loc;obtain⟨u,r,l⟩:=o i x v j e k;have a:EP X J σ Q u s:=⟨v,H,I,r,h⟩;rcases l with⟨hk,p⟩|⟨hk,c,f,d⟩
 ·exact wpAny_Name (wpAny_loadName_local I.ok.kind hk n p a) b
 ·rcases hk with hk|hk
  ·exact wpAny_Name (wpAny_loadName_cell I.ok.kind hk f d a) b
  ·exact wpAny_Name (wpAny_loadName_free I.ok.kind hk f d a g) b
theorem au{i j pos}:PE X (.Constant (.int i) j pos) (tC (.int i)):=λ_ _ _ H _ I h=>wpAny_Constant_int ⟨.int i,H,I.tok _,⟨_,rfl⟩,h⟩
theorem eH{b j pos}:PE X (.Constant (.bool b) j pos) (tC (.bl b)):=λ_ _ _ H _ I h=>Constant_bool ⟨.bl b,H,I,rfl,h⟩
theorem iN{j pos}:PE X (.Constant .none j pos) (tC .aN):=λ_ _ _ H _ I h=>Constant_none ⟨.aN,H,I,rfl,h⟩
theorem bO{x j pos}:PE X (.Constant (.str x) j pos) (tC (.str x)):=λ_ _ _ H _ I h=>Calls.Constant_str ⟨.str x,H,I.tok _,⟨_,rfl⟩,h⟩
def Gl(X:Cx)(x:F4):Prop:=X.env.kindOf x=ih .globalImplicit
theorem lF{Q:i'->Gb->Prop}(I:Inv X J σ H s)(a:Gl X x)(b:X.mg x=ih u)(h:Q u s)
  (c:(x==("__debug__" : F4))=false:=by decide):wA X (eval (.Name x pos) X.env) Q E s:=
 Uy I.ok.kind a (Calls.loadGlobal_global (by rw[I.ok.glob];exact I.mod.glob.keeps I.bk) b h) c
theorem kb{Q:i'->Gb->Prop}(I:Inv X J σ H s)(a:Gl X x)(b:X.mg x=none)(c:Vx x=ih u)(h:Q u s)
  (d:x ≠ "__name__" :=by decide) (e:(x==("__debug__" : F4))=false:=by decide):wA X (eval (.Name x pos) X.env) Q E s:=by
 obtain⟨f,U,h2⟩:=I.mod.blt;exact Uy I.ok.kind a (Calls.loadGlobal_builtin (by rw[I.ok.glob];exact I.mod.glob.keeps I.bk) b (by rw[I.ok.blt];exact U.keeps I.bk) ((h2 x d).trans c) h) e
theorem iL(a:Gl X x)(b:X.mg x=ih u)(r:RelV v u)(c:(x==("__debug__" : F4))=false:=by decide):PE X (.Name x pos) (tC v):=
 λ_ _ _ H _ I h=>lF I a b ⟨v,H,I,r,h⟩ c
theorem ej(a:Gl X x)(b:X.mg x=none)(c:Vx x=ih u)(r:RelV v u)(d:x ≠ "__name__" :=by decide)(e:(x==("__debug__" : F4))=false:=by decide):PE X (.Name x pos) (tC v):=
 λ_ _ _ H _ I h=>kb I a b c ⟨v,H,I,r,h⟩ d e
variable{a b:Vo}{tb:TE}
def PC(X:Cx)(op:ZW)(a b:Vo)(t:TE):Prop:=
 ∀J s σ H (Q:VK),Inv X J σ H s->t σ H Q ->
  wA X (eval a X.env) (λv OC=>wA X (eval b X.env) (λu OD=>wA X (XR op v u) (EP X J σ Q) X.xe OD) X.xe OC) X.xe s
def tB(t:TE):TT:=λσ H Q=>t σ H λx H1=>∃c,x=.bl c/\Q c H1
theorem B'{op:ZW}{t:TE}(h:PC X op a b t)(U:behindInMarks op b=false:=by first|exact d _ (by decide) (by decide)|rfl):PE X (.Compare a [op] [b] pos) t:=λJ s σ H Q I c=>wpAny_Compare1 (h J s σ H Q I c) U
theorem pI{op:ZW}{t:TE}(h:PC X op a b t)(U:behindInMarks op b=false:=by first|exact j _ (by decide) (by decide)|rfl):PT X (.Compare a [op] [b] pos) (tB t):=by
 intro J s σ H Q I e;refine wpAny_isTrue_Compare1 (aI (h J s σ H _ I e) λv s1 U=>aI U λu s2 h2=>aI h2 λc k l=>?_) U;obtain⟨x,H1,f,g,i⟩:=l;obtain⟨d,rfl,q⟩:=i;cases g
 exact hY ⟨H1,f,q⟩
theorem b6{t:TE}(h:PE X e t)(b:∀a,isTrue e X.env a=(do let v <- a;standAt e.pos;holding [v] (truthy v)):=by intro _;rfl):PT X e (tB t):=by
 intro J s σ H Q I c;refine isTrue_plain (aI (h J s σ H _ I c) λv s1 j=>?_) (b _);obtain⟨x,H1,f,g,i⟩:=j;obtain⟨d,rfl,q⟩:=i;cases g
 exact hY ⟨H1,f,q⟩
variable{tA Qv:TT}{rest:am Vo}
def OE(t u:TT):TT:=λσ H Q=>t σ H λc H1=>if c=true then u σ H1 Q else Q false H1
def PK(t u:TT):TT:=λσ H Q=>t σ H λc H1=>if c=true then Q true H1 else u σ H1 Q
def OF(t:TT):TT:=λσ H Q=>t σ H λc H1=>Q (!c) H1
theorem pw_and1(b:PT X a tA):PW X (.BoolOp .And [a] pos) tA:=by
 intro d J s σ H Q I h;refine isTrue_and (aI (b J s σ H Q I h) λc s1 e=>?_);cases c with
 |true=>exact isTrue_and_nil e
 |false=>exact e
theorem pw_or1(b:PT X a tA):PW X (.BoolOp .Or [a] pos) tA:=by
 intro d J s σ H Q I h;refine isTrue_or (aI (b J s σ H Q I h) λc s1 e=>?_);cases c with
 |false=>exact isTrue_or_nil e
 |true=>exact e
theorem pw_and(f:PT X a tA)(g:PW X (.BoolOp .And (b::rest) pos) Qv):PW X (.BoolOp .And (a::b::rest) pos) (OE tA Qv):=by
 intro i J s σ H Q I h;refine isTrue_and (aI (f J s σ H _ I h) λc s1 j=>?_);obtain⟨H1,d,e⟩:=j;cases c with
 |true=>exact g i J s1 σ H1 Q d e
 |false=>exact⟨H1,d,e⟩
theorem pw_or(f:PT X a tA)(g:PW X (.BoolOp .Or (b::rest) pos) Qv):PW X (.BoolOp .Or (a::b::rest) pos) (PK tA Qv):=by
 intro i J s σ H Q I h;refine isTrue_or (aI (f J s σ H _ I h) λc s1 j=>?_);obtain⟨H1,d,e⟩:=j;cases c with
 |true=>exact⟨H1,d,e⟩
 |false=>exact g i J s1 σ H1 Q d e
theorem cI(b:PT X a tA):PT X (.UnaryOp .Not a pos) (OF tA):=by
 intro J s σ H Q I h;exact isTrue_not (b J s σ H (λc H1=>Q (!c) H1) I h)
def M7(ta tb:TE):TE:=λσ H Q=>ta σ H λx H1=>∃c,x=.bl c/\if c=true then tb σ H1 Q else Q (.bl false) H1
def M8(ta:TE):TE:=λσ H Q=>ta σ H λx H1=>∃c,x=.bl c/\Q (.bl (!c)) H1
theorem fy{op}{t:TE}(h:PE X a t):PE X (.BoolOp op [a] pos) t:=λJ s σ H Q I b=>BoolOp_one (h J s σ H Q I b)
theorem cY(f:PE X a ta)(g:PE X (.BoolOp .And (b::rest) pos) tb):PE X (.BoolOp .And (a::b::rest) pos) (M7 ta tb):=by
 intro J s σ H Q I h;refine BoolOp_and (aI (f J s σ H _ I h) λv s1 j=>?_);obtain⟨x,H1,e,i,d⟩:=j;obtain⟨c,rfl,d⟩:=d;cases i
 refine hY ?_;cases c with
 |true=>exact g J s1 σ H1 Q e d
 |false=>exact⟨.bl false,H1,e,rfl,d⟩
theorem LM(d:PE X a ta):PE X (.UnaryOp .Not a pos) (M8 ta):=by
 intro J s σ H Q I h;refine UnaryOp_ (aI (d J s σ H _ I h) λv s1 g=>?_);obtain⟨x,H1,e,f,b⟩:=g;obtain⟨c,rfl,b⟩:=b;cases f
 exact not_of (hY ⟨.bl (!c),H1,e,rfl,b⟩)
end
def aq(K:U0)(H:Hp)(a:FG)(xs:List V):Prop:=
 Rd H a (.lst xs) \/
  ∃(o:Ys) (its:Array i') (n:Nat),K.lookup a=ih o/\o.cls=.type "list" /\ o.dict=none/\o.data=.seq its n/\its.size<=UJ/\Vals xs its.toList
def aE(K:U0)(H:Hp)(a:FG)(xs:List V):Prop:=
 Rd H a (.tup xs) \/
  ∃(o:Ys) (its:Array i') (n:Nat),K.lookup a=ih o/\o.cls=.type "tuple" /\ o.data=.seq its n/\its.size<=UJ/\Vals xs its.toList
def OG:i'->Option V
 |.none=>ih .aN
 |.bool b=>ih (.bl b)
 |.int i _=>ih (.int i)
 |.str x _=>ih (.str x)
 |.bytes b _=>ih (.gC b)
 |.float b _=>ih (.mj b)
 |.ref a=>ih (.ref a)
 |.type n=>ih (.ty n)
 |_=>none
theorem RelV.abs{x:V}(r:RelV x u):OG u=ih x:=by
 cases x with
 |aN=>cases r;rfl
 |bl _=>cases r;rfl
 |int _=>obtain⟨t,rfl⟩:=r;rfl
 |str _=>obtain⟨t,rfl⟩:=r;rfl
 |gC _=>obtain⟨t,rfl⟩:=r;rfl
 |mj _=>obtain⟨t,rfl⟩:=r;rfl
 |ref _=>cases r;rfl
 |ty _=>cases r;rfl
theorem RelV.inj{x:V}(r:RelV x u)(q:RelV y u):x=y:=cS (r.abs.symm.trans q.abs)
theorem Vals.inj:∀{xs ys:am V}{us:am i'},Vals xs us->Vals ys us->xs=ys
 |_,_,_,.nil,.nil=>rfl
 |_,_,_,.cons r t,.cons a t'=>by rw[r.inj a,Vals.inj t t']
theorem aq.of(h:H a=bn xs):aq K H a xs:=.inl (.inl h)
theorem aE.of(h:H a=bi xs):aE K H a xs:=.inl (.inl h)
theorem Inv.list(I:Inv X J σ H s)(h:aq X.K H a xs):∃its:am i',Vals xs its/\PlainL s.heap a its.toArray/\xs.length<=UJ:=by
 rcases h with h|⟨o,its,n,b,c,d,hs,f,r⟩
 ·obtain⟨z,its,n,r,e⟩:=h.ok I.aD
  exact⟨its,r,⟨_,n,e,rfl,rfl,rfl⟩,z⟩
 ·refine⟨its.toList,r,⟨o,n,I.cm a o b,c,d,by simpa using hs⟩,?_⟩
  have e:=r.length;simp only[cb]at e;omega
theorem Inv.tuple(I:Inv X J σ H s)(h:aE X.K H a xs):∃its:am i',Vals xs its/\Yg s.heap a its.toArray/\xs.length<=UJ:=by
 rcases h with h|⟨o,its,n,b,c,hs,d,r⟩
 ·obtain⟨z,its,r,p⟩:=h.ok I.aD
  exact⟨its,r,p.is,z⟩
 ·refine⟨its.toList,r,⟨o,I.cm a o b,c,n,by simpa using hs⟩,?_⟩
  have e:=r.length;simp only[cb]at e;omega
theorem Inv.AL(I:Inv X J σ H s)(h:aq X.K H a xs)(h':aq X.K H a ys):xs=ys:=by
 obtain⟨its,r,⟨o,n,e,_,_,d⟩,_⟩:=I.list h;obtain⟨f,g,⟨o',j,b,_,_,c⟩,_⟩:=I.list h';rw[e]at b;cases b;rw[d]at c;injection c with i _;have:its=f:=by simpa using c4 aaN i
 subst this;exact r.inj g
theorem Inv.Iv(I:Inv X J σ H s)(h:aE X.K H a xs)(h':aE X.K H a ys):xs=ys:=by
 obtain⟨its,r,⟨o,e,_,n,d⟩,_⟩:=I.tuple h;obtain⟨f,g,⟨o',b,_,j,c⟩,_⟩:=I.tuple h';rw[e]at b;cases b;rw[d]at c;injection c with i _;have:its=f:=by simpa using c4 aaN i
 subst this;exact r.inj g
abbrev Cx.ik(X:Cx)(E:i'->Gb->Prop):Cx:={ X with xe:=E }
abbrev Cx.og(X:Cx):Cx:=X.ik λ_ _=>False
theorem Cx.Ok.ik(ok:X.Ok)(E:i'->Gb->Prop):(X.ik E).Ok:=
 ⟨ok.mod,ok.kind,ok.glob,ok.blt,ok.above,ok.inj,ok.has,ok.i6,ok.hd,ok.frames,ok.jG,ok.jH,ok.bs,ok.gS,ok.iY,ok.iZ,ok.fb,ok.hQ⟩
theorem Cx.Ok.jw(ok:(X.ik E).Ok):X.Ok:=
 ⟨ok.mod,ok.kind,ok.glob,ok.blt,ok.above,ok.inj,ok.has,ok.i6,ok.hd,ok.frames,ok.jG,ok.jH,ok.bs,ok.gS,ok.iY,ok.iZ,ok.fb,ok.hQ⟩
theorem Inv.ik(I:Inv X J σ H s)(E:i'->Gb->Prop):Inv (X.ik E) J σ H s:=⟨I.ok.ik E,I.os,I.bare,I.base,I.loc,I.cell,I.free,I.eG,I.pin,I.aD,I.len⟩
theorem Inv.jw(I:Inv (X.ik E) J σ H s):Inv X J σ H s:=⟨I.ok.jw,I.os,I.bare,I.base,I.loc,I.cell,I.free,I.eG,I.pin,I.aD,I.len⟩
theorem SP.jw{f:Flow}(h:SP (X.ik E) J D f s'):SP X J D f s':=by
 cases f with
 |next=>obtain⟨a,Y,I,q⟩:=h;exact⟨a,Y,I.jw,q⟩
 |brk=>obtain⟨a,Y,I,q⟩:=h;exact⟨a,Y,I.jw,q⟩
 |cont=>obtain⟨a,Y,I,q⟩:=h;exact⟨a,Y,I.jw,q⟩
 |ret u=>obtain⟨v,a,Y,I,r,q⟩:=h;exact⟨v,a,Y,I.jw,r,q⟩
theorem dr.og{st:am VC}{t:TS}(h:dr X.og st t):dr X st t:=λJ s σ H D I a =>
 gU (h J s σ H D (I.ik _) a) (λ_ _ q=>q.jw) λ_ _ z=>Vs z
section
variable{st:VC}{rest:am VC}{t u:TS}
def M9:TS:=λD σ H=>D.nx σ H
def qv(t u:TS):TS:=λD σ H=>t { D with nx:=u D } σ H
theorem bw:dr X [] M9:=λ_ _ σ H _ I h=>oA ⟨σ,H,I,h⟩
theorem aF(U:PS X st t)(h2:dr X rest u):dr X (st::rest) (qv t u):=by
 intro J s σ H D I h;refine wpAny_execs_cons (aI (U J s σ H { D with nx:=u D } I h) λf s1 q=>?_);cases f with
 |next =>
  obtain⟨a,Y,b,q⟩:=q;exact h2 J s1 a Y D b q
 |ret v=>exact q
 |brk=>exact q
 |cont=>exact q
theorem aA(U:PS X st t):dr X [st] t:=by
 intro J s σ H D I h;refine wpAny_execs_cons (aI (U J s σ H D I h) λf s1 q=>?_);cases f with
 |next=>exact oA q
 |ret v=>exact q
 |brk=>exact q
 |cont=>exact q
theorem Inv.quiet(I:Inv X J σ H s):interactive X.env=false:=by simp[interactive,I.ok.kind]
def M'(te:TE):TS:=λD σ H=>te σ H λ_ H1=>D.nx σ H1
theorem eT(a:PE X e te)(hs:swapsWith e none pos.line X.env=pure false:=by rfl):PS X (.Expr e pos) (M' te):=by
 intro J s σ H D I h;exact wpAny_Expr_any (aI (a J s σ H _ I h) λv s1 ⟨x,H1,b,d,c⟩=>⟨σ,H1,b,c⟩) I.quiet hs
def OH(te:TE):TS:=λD σ H=>te σ H D.rt
theorem aO(a:PE X e te):PS X (.Return (ih e) pos) (OH te):=by
 intro J s σ H D I h;exact wpAny_Return_some (aI (a J s σ H _ I h) λv s1 ⟨x,H1,b,c,d⟩=>⟨x,σ,H1,b,c,d⟩)
def OI(c:TT)(t u:TS):TS:=λD σ H=>c σ H λb H1=>if b=true then t D σ H1 else u D σ H1
theorem bf{c:Vo}{a b:am VC}{tc:TT}(g:PT X c tc)(i:dr X a t)(j:dr X b u):PS X (.If c a b pos) (OI tc t u):=by
 intro J s σ H D I h;refine wpAny_If (aI (g J s σ H _ I h) λd s1 k=>?_);obtain⟨H1,e,f⟩:=k;cases d with
 |true=>exact i J s1 σ H1 D e f
 |false=>exact j J s1 σ H1 D e f
def LN:TS:=λ_ _ _=>False
theorem Ji:PS X st LN:=λ_ _ _ _ _ _ h=>h.elim
end
abbrev TG:=V->St->Hp->(St->Hp->Prop)->Prop
abbrev jI:=List V->St->Hp->(St->Hp->Prop)->Prop
def PG(X:Cx)(LO:Vo)(t:TG):Prop:=
 ∀J s σ H (v:V) (u:i') (Q:St->Hp->Prop),Inv X J σ H s->RelV v u->t v σ H Q ->
  wA X (assign LO X.env u) (λ_ s'=>∃cN Y,Inv X J cN Y s'/\Q cN Y) X.xe s
def oh(X:Cx)(ts:List Vo)(t:jI):Prop:=
 ∀J s σ H (vs:List V) (us:List i') (Q:St->Hp->Prop),Inv X J σ H s->Vals vs us->t vs σ H Q ->
  wA X (assignInOrder ((assignEach ts X.env).map (·.2)) us) (λ_ s'=>∃cN Y,Inv X J cN Y s'/\Q cN Y) X.xe s
abbrev ux:=V->V->V->Hp->(Hp->Prop)->Prop
def Dq(X:Cx)(t:ux):Prop:=
 ∀J s σ H (o i v:V) (ov iv u:i') (Q:Hp->Prop),Inv X J σ H s->RelV o ov->RelV i iv->RelV v u->t o i v H Q ->
  wA X (setItem ov iv u) (λ_ s'=>∃Y,Inv X J σ Y s'/\Q Y) X.xe s
def iQ(i:Nat):TG:=λv σ H Q=>Q (σ.set i (ih v)) H
theorem sR(a:X.N.Nodup)(hi:X.N[i]?=ih x)(b:Loc X.env.scope x)(c:X.fn x=true\/X.env.scope.names.lookup x=ih .local:=by first|exact .inl rfl|exact .inr rfl|assumption):PG X (.Name x pos) (iQ i):=by
 intro J s σ H v u Q I r h;exact wpAny_assign_Name (sq I a hi b r (λs' d=>⟨_,H,d,h⟩) c)
theorem a4(i:Nat)(a:X.N.Nodup)(hi:X.N[i]?=ih x:=by exact rfl)(b:Loc X.env.scope x:=by exact aaQ rfl)(c:X.fn x=true\/X.env.scope.names.lookup x=ih .local:=by first|exact .inl rfl|exact .inr rfl|assumption):PG X (.Name x pos) (iQ i):=sR a hi b c
def OJ:jI:=λvs σ H Q=>vs=[]/\Q σ H
def Na(t:TG)(u:jI):jI:=λvs σ H Q=>∃v r,vs=v::r/\t v σ H λcN Y=>u r cN Y Q
theorem gJ:oh X [] OJ:=by
 rintro J s σ H vs us Q I r ⟨e,h⟩;subst e;cases r
 exact assignInOrder_nil ⟨σ,H,I,h⟩
theorem cH{t:TG}{u:jI}(U:PG X e t)(h2:oh X es u)
  (hs:(assignEach (e::es) X.env).map (·.2)=assign e X.env::(assignEach es X.env).map (·.2):=by rfl):oh X (e::es) (Na t u):=by
 rintro J s σ H vs us Q I r ⟨v,g,b,h⟩;subst b;cases r with
 |cons r c =>
  rw[hs];refine assignInOrder_cons (aI (U J s σ H _ _ _ I r h) λ_ s1 i=>?_);obtain⟨a,H1,d,f⟩:=i;exact h2 J s1 a H1 _ _ Q d c f
def Dr(K:U0)(n:Nat)(t:jI):TG:=λv σ H Q=>∃a xs,v=.ref a/\aE K H a xs/\xs.length=n/\t xs σ H Q
theorem kc{k:Nat}{t:jI}(g:X.calm=true)(h:oh X es t)
  (i:(assignEach es X.env).length=n:=by rfl) (f:(assignEach es X.env).findIdx? (·.1)=none:=by rfl):PG X (.Tuple es k pos) (Dr X.K n t):=by
 rintro J s σ H v u Q I r ⟨a,xs,j,l,m,c⟩;subst j;cases r
 obtain⟨its,d,p,x⟩:=I.tuple l;refine assign_Tuple_tuple (I.ok.hd g) p (by simp[i,<-m,d.length]) f λh' q=>?_
 have w:Inv X J σ H { s with heap:=h' }:=I.kept (t':=s.toks) λb o e=>q b o (bp (a6 e)) e;exact h J _ σ H xs _ Q w (by simpa using d) c
def OK(to ti:TE)(t:ux):TG:=λv σ H Q=>to σ H λo H1=>ti σ H1 λi H2=>t o i v H2 λH3=>Q σ H3
theorem Ca{o i:Vo}{to ti:TE}{t:ux}(c:PE X o to)(hi:PE X i ti)(hs:Dq X t)
  (d:∀v,assign (.Subscript o i pos) X.env v=(do
   let a <- holding [v] (eval o X.env)
   let b <- holding [v,a] (eval i X.env)
   standAt pos
   holding [v,a,b] (setItem a b v)
   release [v,a,b] []):=by intro _;rfl):PG X (.Subscript o i pos) (OK to ti t):=by
 intro J s σ H v u Q I r h;rw[d];refine ae (de (aI (c J s σ H _ I h) λa s1 w=>?_));obtain⟨x,H1,e,f,g⟩:=w;refine ae (de (aI (hi J s1 σ H1 _ e g) λb s2 w=>?_));obtain⟨y,H2,j,k,l⟩:=w;refine ae (mC (ae (de (aI (hs J s2 σ H2 x y v a b u _ j f k r l) λ_ q w=>?_))));obtain⟨m,n,p⟩:=w;exact wpAny_release ⟨σ,m,n,p⟩
def qw(te:TE)(g:TG):TS:=λD σ H=>te σ H λx H1=>g x σ H1 D.nx
theorem lK{g:TG}(a:PE X e te)(b:PG X tg g)(hs:swapsWithSole [tg] e pos.line X.env=pure false:=by rfl)(c:swappedStores [tg] e X.env=pure none:=by rfl)
  (U:(assignEach [tg] X.env).map (·.2)=[assign tg X.env]:=by rfl):PS X (.Assign [tg] e pos) (qw te g):=by
 intro J s σ H D I h;refine wpAny_Assign_stores (aI (a J s σ H _ I h) λv s1 j=>?_) hs c;obtain⟨x,H1,d,f,i⟩:=j;rw[U];exact aI (b J s1 σ H1 x v _ d f i) λ_ s2 q=>q
theorem gs(a:X.N.Nodup)(hi:X.N[i]?=ih x)(b:Loc X.env.scope x)(c:PE X e te)(hs:swapsWith e (ih (.Name x Qj)) pos.line X.env=pure false:=by rfl)(d:X.fn x=true\/X.env.scope.names.lookup x=ih .local:=by first|exact .inl rfl|exact .inr rfl|assumption) :
  PS X (.Assign [.Name x Qj] e pos) (qw te (iQ i)):=by
 intro J s σ H D I h;refine wpAny_Assign_Name (aI (c J s σ H _ I h) λv s1 l=>?_) hs;obtain⟨y,H1,f,g,j⟩:=l;exact sq f a hi b g (λs2 k=>⟨_,H1,k,j⟩) d
theorem bt(i:Nat)(a:X.N.Nodup)(b:PE X e te)(hi:X.N[i]?=ih x:=by exact rfl)(c:Loc X.env.scope x:=by exact aaQ rfl)(hs:swapsWith e (ih (.Name x Qj)) pos.line X.env=pure false:=by rfl)(d:X.fn x=true\/X.env.scope.names.lookup x=ih .local:=by first|exact .inl rfl|exact .inr rfl|assumption):PS X (.Assign [.Name x Qj] e pos) (qw te (iQ i)):=gs a hi c b hs d
def LP(c:TT)(tb:TS):TS:=λD σ H=>∃W:Nat->St->Hp->Prop,(∃m,W m σ H) /\∀m σ H,W m σ H ->
 c σ H λb H1=>if b=true then ∃N:St->Hp->Prop,(∀cN Y,N cN Y ->∃m',m'<m/\W m' cN Y)/\tb { D with nx:=N,ct:=N,bk:=D.nx } σ H1 else D.nx σ H1
theorem sr{c:Vo}{tc:TT}{tb:TS}(q:PassesOwn X.ef X.A X.env X.xe)(u:PT X c tc)(w:dr X body tb):PS X (.While c body [] pos) (LP tc tb):=by
 rintro J s σ H D I ⟨W,⟨x,y⟩,turn⟩;refine wpAny_While (codeAny_whileLoop (λn s'=>∃p Y,Inv X J p Y s'/\W n p Y) ?_ x ⟨σ,H,I,y⟩);rintro n s1 ⟨e,H1,z,B⟩;refine mD q (aI (u J s1 e H1 _ z (turn n e H1 B)) λb s2 E=>?_);obtain⟨H2,r,g⟩:=E;cases b with
 |true =>
  obtain⟨N,t,g⟩:=g;rw[aw rfl];refine mD q (aI (w J s2 e H2 _ r g) λf C i=>?_);cases f with
  |next =>
   obtain⟨a,d,j,k⟩:=i;obtain⟨l,m,o⟩:=t a d k;exact⟨l,m,a,d,j,o⟩
  |cont =>
   obtain⟨a,d,j,k⟩:=i;obtain⟨l,m,o⟩:=t a d k;exact⟨l,m,a,d,j,o⟩
  |brk=>exact i
  |ret v=>exact i
 |false =>
  rw[ak bX];exact oA ⟨e,H2,r,g⟩
structure It where
 go:Nat->Hp->Prop
 jJ:Nat->Hp->V->Hp->Prop
 stop:Nat->Hp->Prop
def gy(X:Cx)(J:List (FG×Ys))(H:Hp)(b:FG):Prop:=
 H b=none/\b≠X.env.locals/\b ∉ X.fs/\(b∈X.ex\/X.eb.heap.objs.size<=b)/\(∀x c,X.env.cells.lookup x=ih c->c≠b) /\∀p∈X.pn++J,p.1≠b
theorem Inv.il(I:Inv X J σ H s)(a:s.ax<=b)(d:Y b=none):gy X J Y b:=by
 refine⟨d,hZ (er I.lt a),I.OB a,.inr (e5 I.sz a),λx c e z=>?_,λp f z=>?_⟩
 ·obtain⟨v,q⟩:=I.cell x c e
  exact absurd (er q.lt (by rw[z];exact a)) (jV _)
 ·exact absurd (er (a6 (I.pin p f).1) (by rw[z];exact a)) (jV _)
structure Turn(P:XZ)(w:X7)(K:U0)(tg:Vo)(J9:It)(fp:List FG)(it:FG)(tn:Nat->XY->Prop):Prop where
 mem:it∈fp
 obj:∀i h,tn i h ->∀b∈fp,∃o,h.get? b=ih o /\∀v,o.data ≠ .cell v
 keep:∀i h h',tn i h->(∀b∈fp,∀o,h.get? b=ih o->h'.get? b=ih o)->tn i h'
 item:∀(X:Cx),X.prog=P->X.w=w->X.K=K->X.calm=true ->∀(i:Nat) J s σ H (E:i'->Gb->Prop),Inv X J σ H s->(∀b∈fp,gy X J H b)->tn i s.heap->J9.go i H ->
  UB (UP P w) X.A (pyNext (.ref it)) (λr s1=>∃u,r=ih u /\
   UB (UP P w) X.A (letOwnedTupleGo tg (.ref it) u) (λ_ s2=>∃x Y,Inv X J σ Y s2/\RelV x u/\J9.jJ i H x Y/\tn (i+1) s2.heap /\∀b∈fp,Y b=none) E s1) E s
 done:∀(X:Cx),X.prog=P->X.w=w->X.K=K->X.calm=true ->∀(i:Nat) J s σ H (E:i'->Gb->Prop),Inv X J σ H s->(∀b∈fp,gy X J H b)->tn i s.heap->J9.stop i H ->
  UB (UP P w) X.A (pyNext (.ref it)) (λr s1=>r=none/\Inv X J σ H s1) E s
 self:∀(A:Yc) (i:Nat) (s:Gb) (Q:i'->Gb->Prop) (E:i'->Gb->Prop),tn i s.heap->Q (.ref it) s->UB (UP P w) A (pyIter (.ref it)) Q E s
abbrev TI:=St->Hp->(It->Hp->Prop)->Prop
def uT(X:Cx)(J:List (FG×Ys))(σ:St)(tg:Vo)(R:It->Hp->Prop)(PL:i')(s2:Gb):Prop:=
 ∃(it:FG) (fp:List FG) (tn:Nat->XY->Prop) (J9:It) (Y:Hp),PL=.ref it/\Inv X J σ Y s2/\Turn X.prog X.w X.K tg J9 fp it tn/\tn 0 s2.heap/\(∀b∈fp,gy X J Y b)/\R J9 Y
def PI(X:Cx)(tg iter:Vo)(wi:TI):Prop:=
 ∀J s σ H (R:It->Hp->Prop),Inv X J σ H s->wi σ H R ->
  wA X (eval iter X.env) (λv s1=>wA X (pyIter v) (uT X J σ tg R) X.xe s1) X.xe s
theorem nM{M:Zu}{n:String}{vs:Array i'}{Q:Unit->Gb->Prop}(b:s.heap.get? it=ih o)(c:o.cls=.type n)(d:o.data=.fields vs)
  (e : ["enumerate","zip","dict_itemiterator","dict_reverseitemiterator","odict_iterator","itertools.zip_longest","itertools.pairwise"].contains n=false) (a:Q () s):UB M A (letOwnedTupleGo tg (.ref it) u) Q E s:=by
 unfold letOwnedTupleGo;cases tg <;> first
  |exact aj a
  |(cases u <;> first
    |exact aj a
    |(refine ae (oB b ?_);rw[c,d];show UB M A (if (["enumerate","zip","dict_itemiterator","dict_reverseitemiterator","odict_iterator","itertools.zip_longest","itertools.pairwise"].contains n&&vs[0]? == ih (rawInt _))=true then _ else _) Q E s;rw[ak (by intro h;rw[e,Bool.false_and]at h;cases h)];exact aj a))
def kM(K:U0)(a:FG):It:=
 ⟨λi H=>∃xs x,aq K H a xs/\xs[i]?=ih x,λi H x Y=>Y=H /\∀xs,aq K H a xs->xs[i]?=ih x,λi H=>∃xs,aq K H a xs/\xs.length<=i⟩
def mq(K:U0)(a:FG):It:=
 ⟨λi H=>∃xs x,aE K H a xs/\xs[i]?=ih x,λi H x Y=>Y=H /\∀xs,aE K H a xs->xs[i]?=ih x,λi H=>∃xs,aE K H a xs/\xs.length<=i⟩
def jK(lo:Int)(n:Nat):It:=⟨λi _=>i<n,λi H x Y=>Y=H/\x=.int (lo+i),λi _=>n<=i⟩
theorem Iw(a it:FG):Turn P w K tg (kM K a) [it] it (λi h=>h.IsListIter it a i) where
 mem:=by simp
 obj:=λi h st b f=>by
  have e:b=it:=by simpa using f
  subst e;obtain⟨o,e,c,d⟩:=st;exact⟨o,e,λv z=>by rw[d]at z;cases z⟩
 keep:=λi h h' st k=>st.at λo e=>k it (by simp) o e
 item:=by
  intro X l m n F i J s σ H E I g st q;subst l m n;obtain⟨xs,x,j,r⟩:=q;obtain⟨its,t,p,G⟩:=I.list j;obtain⟨u,L,M⟩:=t.get r;obtain⟨f0,y,N,A,B,C⟩:=g it (by simp)
  refine wpAny_pyNext_list_item st p.isList (x:=u) (by simpa using L) λh' D O=>?_
  have Q:Inv X J σ H { s with heap:=h' }:=I.turned (t':=s.toks) (λb o f e=>(O.2 b f).trans e) f0 y A B C;obtain⟨o,e,c,d⟩:=id D;exact⟨u,rfl,nM (s:={ s with heap:=h' }) e c d (by decide) ⟨x,H,Q,M,⟨rfl,λys R=>by rw[I.AL R j];exact r⟩,D,λb f=>(g b f).1⟩⟩
 done:=by
  intro X l m n F i J s σ H E I g st q;subst l m n;obtain⟨xs,j,r⟩:=q;obtain⟨its,t,p,G⟩:=I.list j;obtain⟨f0,y,N,A,B,C⟩:=g it (by simp)
  have T:=t.length;exact wpAny_pyNext_list_end (I.ok.hd F) st p.isList (by simp;omega) λh' S=>⟨rfl,I.turned (t':=s.toks) (λb o f e=>S b o f e) f0 y A B C⟩
 self:=λ_ _ _ _ _ st h=>wpAny_pyIter_listiter st h
theorem HJ(a it:FG):Turn P w K tg (mq K a) [it] it (λi h=>h.IsTupleIter it a i) where
 mem:=by simp
 obj:=λi h st b f=>by
  have e:b=it:=by simpa using f
  subst e;obtain⟨o,e,c,d⟩:=st;exact⟨o,e,λv z=>by rw[d]at z;cases z⟩
 keep:=λi h h' st k=>st.at λo e=>k it (by simp) o e
 item:=by
  intro X l m n F i J s σ H E I g st q;subst l m n;obtain⟨xs,x,j,r⟩:=q;obtain⟨its,t,p,G⟩:=I.tuple j;obtain⟨u,L,M⟩:=t.get r;obtain⟨f0,y,N,A,B,C⟩:=g it (by simp)
  refine wpAny_pyNext_tuple_item st (show s.heap.IsTuple a its.toArray from p) (x:=u) (by simpa using L) λh' D O=>?_
  have Q:Inv X J σ H { s with heap:=h' }:=I.turned (t':=s.toks) (λb o f e=>(O.2 b f).trans e) f0 y A B C;obtain⟨o,e,c,d⟩:=id D;exact⟨u,rfl,nM (s:={ s with heap:=h' }) e c d (by decide) ⟨x,H,Q,M,⟨rfl,λys R=>by rw[I.Iv R j];exact r⟩,D,λb f=>(g b f).1⟩⟩
 done:=by
  intro X l m n F i J s σ H E I g st q;subst l m n;obtain⟨xs,j,r⟩:=q;obtain⟨its,t,p,G⟩:=I.tuple j;obtain⟨f0,y,N,A,B,C⟩:=g it (by simp)
  have T:=t.length;exact wpAny_pyNext_tuple_end (I.ok.hd F) st (show s.heap.IsTuple a its.toArray from p) (by simp;omega) λh' S=>⟨rfl,I.turned (t':=s.toks) (λb o f e=>S b o f e) f0 y A B C⟩
 self:=λ_ _ _ _ _ st h=>wpAny_pyIter_tupleiter st h
theorem HK(it:FG)(lo:Int)(n:Nat):Turn P w K tg (jK lo n) [it] it (λi h=>IsRangeIter h it (lo+(i:Nat) * 1) ((n:Int) - (i:Nat)) 1) where
 mem:=by simp
 obj:=λi h st b a=>by
  have e:b=it:=by simpa using a
  subst e;exact⟨_,st,λv z=>by
   have x:Data.fields _=Data.cell v:=z;cases x⟩
 keep:=λi h h' st k=>k it (by simp) _ st
 item:=by
  intro X d f g j i J s σ H E I c st l;subst d f g;obtain⟨f0,m,y,p,q,r⟩:=c it (by simp)
  have W:=Walks.range (prog:=X.prog) (w:=X.w) (I.ok.hd j) it lo 1 n;refine W.item i s _ _ l st λv h' tk A u B=>?_;obtain⟨t,rfl⟩:=A;have C:Inv X J σ H { s with heap:=h',toks:=tk }:=I.turned (λb o a e=>B b o (by simpa using a) e) f0 m p q r
  refine⟨_,rfl,nM (s:={ s with heap:=h',toks:=tk }) (n:= "range_iterator") u rfl rfl (by decide) ⟨.int (lo+i),H,C,⟨t,?_⟩,⟨rfl,rfl⟩,u,λb a=>(c b a).1⟩⟩
  rw[Int.mul_one]
 done:=by
  intro X d f g j i J s σ H E I c st l;subst d f g;obtain⟨f0,m,y,p,q,r⟩:=c it (by simp)
  exact wpAny_pyNext_range_end (I.ok.hd j) st (by have:n<=i:=l;omega) λh' D=>⟨rfl,I.turned (t':=s.toks) (λb o a e=>D b o a e) f0 m p q r⟩
 self:=λ_ _ _ _ _ st h=>wpAny_pyIter_rangeiter st h
def CL(K:U0)(tl:TE):TI:=λσ H R=>tl σ H λx H1=>∃a,x=.ref a/\(∃xs,aq K H1 a xs)/\R (kM K a) H1
def Ds(K:U0)(tl:TE):TI:=λσ H R=>tl σ H λx H1=>∃a,x=.ref a/\(∃xs,aE K H1 a xs)/\R (mq K a) H1
theorem ez{l:Vo}(d:PE X l tl):PI X tg l (CL X.K tl):=by
 intro J s σ H R I h;refine aI (d J s σ H _ I h) λv s1 n=>?_;obtain⟨x,H1,c,f,g⟩:=n;obtain⟨a,e,⟨xs,i⟩,q⟩:=g;subst e;cases f
 obtain⟨its,k,p,m⟩:=c.list i;refine rf p.isList ?_;refine⟨s1.ax,[s1.ax],_,_,H1,rfl,c.kept (t':=s1.toks) λb o e=>aV _ e,Iw a _,⟨_,bG _ rfl,rfl,rfl⟩,λb j=>?_,q⟩;have e:b=s1.ax:=by simpa using j
 subst e;exact c.il (aG _) (c.aD.fresh (aG _))
theorem e8{l:Vo}(d:PE X l tl):PI X tg l (Ds X.K tl):=by
 intro J s σ H R I h;refine aI (d J s σ H _ I h) λv s1 n=>?_;obtain⟨x,H1,c,f,g⟩:=n;obtain⟨a,e,⟨xs,i⟩,q⟩:=g;subst e;cases f
 obtain⟨its,k,p,m⟩:=c.tuple i;refine wpAny_pyIter_tuple (show s1.heap.IsTuple a its.toArray from p) ?_;refine⟨s1.ax,[s1.ax],_,_,H1,rfl,c.kept (t':=s1.toks) λb o e=>aV _ e,HJ a _,⟨_,bG _ rfl,rfl,rfl⟩,λb j=>?_,q⟩;have e:b=s1.ax:=by simpa using j
 subst e;exact c.il (aG _) (c.aD.fresh (aG _))
theorem AM{R:It->Hp->Prop}{hi:Int}{t u v:Tok}{tk:Nat}(I:Inv X J σ H s)(U : -(2 ^ 62)<=lo)(h2:lo<2 ^ 62)(c : -(2 ^ 62)<=hi)(d:hi<2 ^ 62)
  (q:R (jK lo (hi - lo).toNat) H):wA X (pyIter (.ref s.heap.objs.size)) (uT X J σ tg R) E { s with heap:=s.heap.push { cls:=.type "range",data:=.fields #[.int lo t,.int hi u,.int 1 v] },toks:=tk }:=by
 refine wpAny_pyIter_range (IsRange.new ..) (small_one U h2 c d) ?_;have a:Inv X J σ H { s with heap:=s.heap.push { cls:=.type "range",data:=.fields #[.int lo t,.int hi u,.int 1 v] },toks:=tk }:=I.kept λb o e=>aV _ e;refine⟨(s.heap.push { cls:=.type "range",data:=.fields #[.int lo t,.int hi u,.int 1 v] }).objs.size,[(s.heap.push { cls:=.type "range",data:=.fields #[.int lo t,.int hi u,.int 1 v] }).objs.size],_,_,H,rfl,
  a.kept (t':=tk) λb o e=>aV _ e,HK _ lo (hi - lo).toNat,?_,λb f=>?_,q⟩
 ·have g:lo+((0:Nat):Int) * 1=lo:=by simp
  have h:(((hi - lo).toNat:Nat):Int) - ((0:Nat):Int)=abg lo hi 1:=by rw[rangeSize_one];split <;> omega
  show IsRangeIter _ _ (lo+((0:Nat):Int) * 1) ((((hi - lo).toNat:Nat):Int) - ((0:Nat):Int)) 1;rw[g,h];exact bG _ rfl
 ·have e:b=(s.heap.push { cls:=.type "range",data:=.fields #[.int lo t,.int hi u,.int 1 v] }).objs.size:=by simpa using f
  subst e;exact a.il (aG _) (a.aD.fresh (aG _))
def Nb(ta:TA):TI:=λσ H R=>ta σ H λvs H1=>∃j:Int,vs=[.int j] /\ -(2 ^ 62)<=j/\j<2 ^ 62/\R (jK 0 j.toNat) H1
def Nc(ta:TA):TI:=λσ H R=>ta σ H λvs H1=>∃i j:Int,vs=[.int i,.int j]/\(-(2 ^ 62)<=i/\i<2 ^ 62 /\ -(2 ^ 62)<=j/\j<2 ^ 62)/\R (jK i (j - i).toNat) H1
theorem j3{a:Vo}{ta:TA}{p:ZV}(c:Gl X "range")(d:X.mg "range" = none)(f:PA X [a] ta)(hs:U6 [a] X.env=[(false,eval a X.env)]:=by rfl):PI X tg (.Call (.Name "range" p) [a] [] pos) (Nb ta):=by
 intro J s σ H R I h;refine Call_ (kb I c d boot_range (vg (aI (f pos J s σ H _ I h) λus s1 m=>?_) hs rfl));obtain⟨vs,H1,g,i,b⟩:=m;obtain⟨j,e,b,k,q⟩:=b;subst e;cases i with
 |cons r l =>
  cases l
  obtain⟨t,rfl⟩:=r;exact call_range_1 (AM g (by omega) (by omega) b k (by simpa using q))
theorem Iy{a b:Vo}{ta:TA}{p:ZV}(g:Gl X "range")(k:X.mg "range" = none)(l:PA X [a,b] ta)(hs:U6 [a,b] X.env=[(false,eval a X.env),(false,eval b X.env)]:=by rfl)(f:U6 [b] X.env=[(false,eval b X.env)]:=by rfl) :
  PI X tg (.Call (.Name "range" p) [a,b] [] pos) (Nc ta):=by
 intro J s σ H R I h;refine Call_ (kb I g k boot_range (vg (aI (l pos J s σ H _ I h) λus s1 ⟨vs,H1,m,n,c⟩=>?_) (by rw[hs,f]) (by rw[f];rfl)))
 obtain⟨i,j,e,⟨c,o,u,v⟩,q⟩:=c;subst e;cases n with
 |cons r d =>
  cases d with
  |cons w d =>
   cases d
   obtain⟨t,rfl⟩:=r;obtain⟨t',rfl⟩:=w;exact call_range_2 (AM m c o u v q)
def OL(wi:TI)(g:TG)(tb:TS):TS:=λD σ H=>wi σ H λJ9 H1=>∃W:Nat->Nat->St->Hp->Prop,(∃m,W 0 m σ H1) /\∀i m σ H,W i m σ H ->
 (J9.stop i H/\D.nx σ H)\/(J9.go i H /\∃N:St->Hp->Prop,(∀cN Y,N cN Y ->∃m',m'<m/\W (i+1) m' cN Y) /\∀x Y,J9.jJ i H x Y->g x σ Y λPM H2=>tb { D with nx:=N,ct:=N,bk:=D.nx } PM H2)
def nA(fp:List FG)(h:XY):List (FG×Ys):=fp.filterMap λb=>(h.get? b).map λo=>(b,o)
theorem oT(a:b∈fp)(e:h.get? b=ih o):(b,o)∈nA fp h:=mB.mpr ⟨b,a,by rw[e];rfl⟩
theorem Iz{p:FG×Ys}(a:p∈nA fp h):p.1∈fp/\h.get? p.1=ih p.2:=by
 obtain⟨b,c,e⟩:=mB.mp a;cases q:h.get? b with
 |none=>rw[q]at e;cases e
 |some o =>
  rw[q]at e;have d:(b,o)=p:=cS e;subst d;exact⟨c,q⟩
theorem Inv.pinned(I:Inv X J σ H s)(f:∀b∈fp,gy X J H b)(g:∀b∈fp,∃o,s.heap.get? b=ih o /\∀v,o.data ≠ .cell v):Inv X (J++nA fp s.heap) σ H s:=
 I.Bu λp h=>(cw.mp h).elim (λz=>I.pin p (et _ z)) λz=>by
  obtain⟨a,e⟩:=Iz z;obtain⟨f0,i,j,_⟩:=f p.1 a;obtain⟨o,c,d⟩:=g p.1 a;rw[e]at c;cases c;exact⟨e,f0,i,j,d⟩
theorem Inv.o4{pl:am (FG×Ys)}(I:Inv X (J++pl) σ H s):Inv X J σ H s:=I.Bu λp a=>I.pin p (et _ (gm _ a))
theorem gu{K:TI}{g:TG}{tb:TS}(t:PassesOwn X.ef X.A X.env X.xe)(L:X.calm=true)(hi:PI X tg iter K)(xb:PG X tg g)(c:dr X body tb)
  (hs:∀x,foldedSetIterable iter X.env x=pure x:=by intro _;rfl):PS X (.For tg iter body [] pos) (OL K g tb):=by
 intro J s σ H D I h;refine wpAny_For (aI (hi J s σ H _ I h) λv s1 U=>aI U λzi s2 h2=>?_) hs;obtain⟨it,fp,M,xj,H2,e,yb,T,V,O,W,⟨zb,xc⟩,turn⟩:=h2;subst e;have z:∀{Y:Hp},(∀b∈fp,Y b=none) ->∀b∈fp,gy X J Y b:=λyc b c=>⟨yc b c,(O b c).2⟩;refine codeAny_forLoop_any (λn s'=>∃i p Y,Inv X J p Y s'/\M i s'.heap/\(∀b∈fp,Y b=none)/\W i n p Y) ?_ zb ⟨0,σ,H2,yb,V,λb c=>(O b c).1,xc⟩;rintro n P ⟨i,q,y,Q,F,G,zc⟩;rcases turn i n q y zc with⟨stop,xd⟩|⟨yd,N,zd,step⟩
 ·refine mD t (aI (T.done X rfl rfl rfl L i J P q y X.xe Q (z G) F stop) λr ye ⟨C,ze⟩=>?_)
  subst C;exact oA ⟨q,y,ze,xd⟩
 ·refine mD t (aI (T.item X rfl rfl rfl L i J P q y X.xe Q (z G) F yd) λr ye aa=>?_);obtain⟨u,C,xf⟩:=aa
  subst C;refine mD t (aI xf λ_ R aa=>?_);obtain⟨x,S,yf,zf,y5,B,xa⟩:=aa;have ya:=yf.pinned (z xa) (T.obj _ _ B);refine mD t (aI (xb _ R q S x u _ ya zf (step x S y5)) λ_ xg aa=>?_);obtain⟨za,yg,zg,xh⟩:=aa;refine mD t (aI (c _ xg za yg _ zg xh) λf E l=>?_);have again:∀{a:St}{j:Hp},Inv X (J++nA fp R.heap) a j E->N a j ->∃m,m<n /\∃i p Y,Inv X J p Y E/\M i E.heap/\(∀b∈fp,Y b=none)/\W i m p Y:=λ{a j} k w=>by
   obtain⟨yh,zh,xi⟩:=zd a j w;refine⟨yh,zh,i+1,a,j,k.o4,T.keep _ _ _ B λb c o e=>(k.pin (b,o) (et _ (et _ (oT c e)))).1,λb c=>?_,xi⟩;obtain⟨o,e,d⟩:=T.obj _ _ B b c;exact(k.pin (b,o) (et _ (et _ (oT c e)))).2.1
  cases f with
  |next=>obtain⟨a,j,k,w⟩:=l;exact again k w
  |cont=>obtain⟨a,j,k,w⟩:=l;exact again k w
  |brk=>obtain⟨a,j,k,l⟩:=l;exact⟨a,j,k.o4,l⟩
  |ret v=>obtain⟨x7,a,j,k,yi,l⟩:=l;exact⟨x7,a,j,k.o4,yi,l⟩
theorem lu{g:TG}{tb:TS}(Pv:Nat->St->Hp->Prop)(h0:Pv 0 σ H)(h:∀i σ H,i<=xs.length->Pv i σ H->aq K H a xs)
  (hs:∀i x σ H,xs[i]?=ih x->Pv i σ H->g x σ H λb H2=>tb { D with nx:=Pv (i+1),ct:=Pv (i+1),bk:=D.nx } b H2) (j:∀σ H,Pv xs.length σ H->D.nx σ H) :
  ∃W:Nat->Nat->St->Hp->Prop,(∃m,W 0 m σ H) /\∀i m σ H,W i m σ H ->
   ((kM K a).stop i H/\D.nx σ H)\/((kM K a).go i H /\∃N:St->Hp->Prop,(∀c Y,N c Y ->∃f,f<m/\W (i+1) f c Y) /\∀x Y,(kM K a).jJ i H x Y->g x σ Y λb H2=>tb { D with nx:=N,ct:=N,bk:=D.nx } b H2):=by
 refine⟨λi m σ H=>m=xs.length - i/\i<=xs.length/\Pv i σ H,⟨xs.length,by simp,ba _,h0⟩,?_⟩
 rintro i m σ H ⟨rfl,hi,p⟩;have q:=h i σ H hi p
 by_cases d:i<xs.length
 ·refine .inr ⟨⟨xs,xs[i],q,by simp[d]⟩,Pv (i+1),λc Y k=>⟨xs.length - (i+1),by omega,rfl,d,k⟩,λx Y y=>?_⟩
  obtain⟨e,y⟩:=y;subst e;exact hs i x σ _ (y xs q) p
 ·have e:i=xs.length:=by omega
  subst e;exact .inl ⟨⟨xs,q,aG _⟩,j σ H p⟩
theorem mU{g:TG}{tb:TS}(Pv:Nat->St->Hp->Prop)(h0:Pv 0 σ H)
  (hs:∀i σ H,i<n->Pv i σ H->g (.int (lo+i)) σ H λa H2=>tb { D with nx:=Pv (i+1),ct:=Pv (i+1),bk:=D.nx } a H2) (f:∀σ H,Pv n σ H->D.nx σ H) :
  ∃W:Nat->Nat->St->Hp->Prop,(∃m,W 0 m σ H) /\∀i m σ H,W i m σ H ->
   ((jK lo n).stop i H/\D.nx σ H)\/((jK lo n).go i H /\∃N:St->Hp->Prop,(∀b Y,N b Y ->∃d,d<m/\W (i+1) d b Y) /\∀x Y,(jK lo n).jJ i H x Y->g x σ Y λa H2=>tb { D with nx:=N,ct:=N,bk:=D.nx } a H2):=by
 refine⟨λi m σ H=>m=n - i/\i<=n/\Pv i σ H,⟨n,by simp,ba _,h0⟩,?_⟩
 rintro i m σ H ⟨rfl,hi,p⟩
 by_cases c:i<n
 ·refine .inr ⟨c,Pv (i+1),λb Y h=>⟨n - (i+1),by omega,rfl,c,h⟩,λx Y y=>?_⟩
  obtain⟨e,y⟩:=y;subst e y;exact hs i σ _ c p
 ·have e:i=n:=by omega
  subst e;exact .inl ⟨aG _,f σ H p⟩
abbrev R2:=V->V->Hp->VK->Prop
def bW(X:Cx)(f:i'->i'->Zi i')(r:R2):Prop:=
 ∀J s σ H (x y:V) (v u:i') (Q:VK),Inv X J σ H s->RelV x v->RelV y u->r x y H Q ->
  wA X (f v u) (EP X J σ Q) X.xe s
def uU(X:Cx)(f:i'->Zi i')(r:V->Hp->VK->Prop):Prop:=
 ∀J s σ H (x:V) (v:i') (Q:VK),Inv X J σ H s->RelV x v->r x H Q ->
  wA X (f v) (EP X J σ Q) X.xe s
def bY(X:Cx)(f:i')(r:List V->Hp->VK->Prop):Prop:=
 ∀J s σ H (xs:List V) (us:List i') (Q:VK),Inv X J σ H s->Vals xs us->r xs H Q ->
  wA X (call f us) (EP X J σ Q) X.xe s
def OM(X:Cx)(r:V->Hp->(Bool->Hp->Prop)->Prop):Prop:=
 ∀J s σ H (x:V) (v:i') (Q:Bool->Hp->Prop),Inv X J σ H s->RelV x v->r x H Q ->
  wA X (truthy v) (TP X J σ Q) X.xe s
def qU(r:R2)(ta tb:TE):TE:=λσ H Q=>ta σ H λx H1=>tb σ H1 λy H2=>r x y H2 Q
def PN(r:V->Hp->VK->Prop)(ta:TE):TE:=λσ H Q=>ta σ H λx H1=>r x H1 Q
def rI(C:Int->Int->Prop)(g:Int->Int->V):R2:=λx y H Q=>∃i j,x=.int i/\y=.int j/\C i j/\Q (g i j) H
def kN(g:Int->Int->V):R2:=λx y H Q=>∃i j,x=.int i/\y=.int j/\Q (g i j) H
def rU(g:Int->V):V->Hp->VK->Prop:=λx H Q=>∃i,x=.int i/\Q (g i) H
section
variable{a b c:Vo}{tb tc:TE}
theorem uy(e:PE X a ta)(g:PE X b tb){R:V->V->Hp->Prop}(I:Inv X J σ H s)
  (h:ta σ H λx H1=>tb σ H1 λy H2=>R x y H2) {Q:i'->Gb->Prop}{f:i'->i'->Zi i'}
  (i:∀v u s2 x y H2,Inv X J σ H2 s2->RelV x v->RelV y u->R x y H2->wA X (f v u) Q X.xe s2) :
  wA X (eval a X.env) (λv c=>wA X (eval b X.env) (λu d=>wA X (f v u) Q X.xe d) X.xe c) X.xe s:=by
 refine aI (e J s σ H _ I h) λv s1 p=>?_;obtain⟨x,H1,j,k,l⟩:=p;refine aI (g J s1 σ H1 _ j l) λu s2 p=>?_;obtain⟨y,H2,m,n,o⟩:=p;exact i v u s2 x y H2 m k n o
theorem bF{op:Operator}{r:R2}(c:bW X (Yi op) r)(d:PE X a ta)(e:PE X b tb):PE X (.BinOp a op b pos) (qU r ta tb):=by
 intro J s σ H Q I h;exact wpAny_BinOp (uy d e I h λv u s2 x y H2 f g i q=>c J s2 σ H2 x y v u Q f g i q)
theorem ud{op:UnaryOp}{r:V->Hp->VK->Prop}(b:uU X (unaryOp op) r)(c:PE X a ta):PE X (.UnaryOp op a pos) (PN r ta):=by
 intro J s σ H Q I h;exact UnaryOp_ (aI (c J s σ H _ I h) λv s1 ⟨x,H1,d,e,f⟩=>b J s1 σ H1 x v Q d e f)
theorem oi{f:i'->i'->Zi i'}{C:Int->Int->Prop}{g:Int->Int->Int}
  (rule:∀(i j:Int) (t u:Tok) (s:Gb) (Q:i'->Gb->Prop) (E:i'->Gb->Prop),C i j->Q (.int (g i j) s.toks) { s with toks:=s.toks+1 }->wA X (f (.int i t) (.int j u)) Q E s) :
  bW X f (rI C λi j=>.int (g i j)):=by
 rintro J s σ H x y v u Q I a b ⟨i,j,rfl,rfl,c,q⟩;obtain⟨t,rfl⟩:=a;obtain⟨t',rfl⟩:=b;exact rule i j t t' s _ _ c ⟨.int (g i j),H,I.tok _,⟨_,rfl⟩,q⟩
theorem Du{f:i'->i'->Zi i'}{g:Int->Int->Int}
  (rule:∀(i j:Int) (t u:Tok) (s:Gb) (Q:i'->Gb->Prop) (E:i'->Gb->Prop),Q (.int (g i j) s.toks) { s with toks:=s.toks+1 }->wA X (f (.int i t) (.int j u)) Q E s) :
  bW X f (kN λi j=>.int (g i j)):=by
 rintro J s σ H x y v u Q I a b ⟨i,j,rfl,rfl,q⟩;obtain⟨t,rfl⟩:=a;obtain⟨t',rfl⟩:=b;exact rule i j t t' s _ _ ⟨.int (g i j),H,I.tok _,⟨_,rfl⟩,q⟩
theorem uz{f:i'->i'->Zi i'}{g:Int->Int->Bool}
  (rule:∀(i j:Int) (t u:Tok) (s:Gb) (Q:i'->Gb->Prop) (E:i'->Gb->Prop),Q (.bool (g i j)) s->wA X (f (.int i t) (.int j u)) Q E s) :
  bW X f (kN λi j=>.bl (g i j)):=by
 rintro J s σ H x y v u Q I a b ⟨i,j,rfl,rfl,q⟩;obtain⟨t,rfl⟩:=a;obtain⟨t',rfl⟩:=b;exact rule i j t t' s _ _ ⟨.bl (g i j),H,I,rfl,q⟩
def ON(i j:Int):Prop:=0<j/\j<1073741824
def OO(i j:Int):Prop:=0<=j/\j<=1000000/\i.natAbs<2 ^ 64
def uA(i j:Int):Prop:=(-(2 ^ 64)<i/\i<2 ^ 64)\/(-(2 ^ 64)<j/\j<2 ^ 64)
theorem uA.ok{i j:Int}(h:uA i j):IntMulOk i j:=by
 rcases h with⟨U,h2⟩|⟨U,h2⟩
 ·exact .of_left (intBits_le_64 U h2)
 ·exact .of_right (intBits_le_64 U h2)
theorem f7:bW X (Yi .Add) (kN λi j=>.int (i+j)):=Du λ_ _ _ _ _ _ _ q=>add_int q
theorem ke:bW X (Yi .Sub) (kN λi j=>.int (i - j)):=Du λ_ _ _ _ _ _ _ q=>sub_int q
theorem pJ:bW X (Yi .Mult) (rI uA λi j=>.int (i * j)):=oi λ_ _ _ _ _ _ _ a q=>mul_int q a.ok
theorem Kk:bW X (Yi .FloorDiv) (rI ON λi j=>.int (i / j)):=oi λi j _ _ _ _ _ a q=>by
 have U:(0:Int)<j:=a.1;have h2:j<1073741824:=a.2;exact floordiv_int (by omega) (by rw[UC i (by omega)];exact q) (.inl (PyProof.noPylong_small (by omega)))
theorem lL:bW X (Yi .Mod) (rI (λ_ j=>0<j) λi j=>.int (i % j)):=oi λi j _ _ _ _ _ a q=>by
 have U:(0:Int)<j:=a;exact mod_int' (by omega) (by rw[Int.fmod_eq_emod_of_nonneg i (by omega)];exact q)
theorem tP:bW X (Yi .Pow) (rI OO λi j=>.int (i ^ j.toNat)):=oi λ_ _ _ _ _ _ _ a q=>pow_int_small a.1 a.2.1 a.2.2 q
theorem PQ{f:i'->Zi i'}{g:Int->Int}
  (rule:∀(i:Int) (t:Tok) (s:Gb) (Q:i'->Gb->Prop) (E:i'->Gb->Prop),Q (.int (g i) s.toks) { s with toks:=s.toks+1 }->wA X (f (.int i t)) Q E s) :
  uU X f (rU λi=>.int (g i)):=by
 rintro J s σ H x v Q I a ⟨i,rfl,q⟩;obtain⟨t,rfl⟩:=a;exact rule i t s _ _ ⟨.int (g i),H,I.tok _,⟨_,rfl⟩,q⟩
theorem tQ:uU X (unaryOp .USub) (rU λi=>.int (-i)):=PQ λ_ _ _ _ _ q=>neg_int q
end
def Dv:V->V->Bool
 |.aN,.aN=>true|.aN,.int _=>true|.int _,.aN=>true|.aN,.bl _=>true|.bl _,.aN=>true|.aN,.str _=>true|.str _,.aN=>true
 |.int _,.int _=>true|.bl _,.bl _=>true|.str _,.str _=>true|.gC _,.gC _=>true
 |.int _,.str _=>true|.str _,.int _=>true|.bl _,.str _=>true|.str _,.bl _=>true
 |_,_=>false
def PR:R2:=λx y H Q=>Dv x y=true/\Q (.bl (decide (x=y))) H
def PU:R2:=λx y H Q=>Dv x y=true/\Q (.bl (!decide (x=y))) H
theorem pj{i j:Int}:decide (V.int i=V.int j)=(i==j):=by
 rw[mE];simp
theorem Cb{i j:Bool}:decide (V.bl i=V.bl j)=(i==j):=by
 rw[mE];simp
theorem Bv{i j:F4}:decide (V.str i=V.str j)=(i==j):=by
 rw[mE];simp
theorem Bw{i j:Array UInt8}:decide (V.gC i=V.gC j)=(i.toList==j.toList):=by
 rw[mE];cases i
 cases j
 simp
section
variable{a b c:Vo}{tb tc:TE}
theorem ck{k k':Bool}(I:Inv X J σ H s)(q:Q (.bl k) H)(e:k=k'):EP X J σ Q (.bool k') s:=by
 subst e;exact⟨.bl k,H,I,rfl,q⟩
theorem di:bW X (XR .Eq) PR:=by
 rintro J s σ H x y v u Q I b a ⟨hs,q⟩;cases x with
 |aN =>
  cases b
  cases y with
  |aN=>cases a;exact aby (ck I q (by simp))
  |bl j=>cases a;exact abA (ck I q (by simp))
  |int j=>obtain⟨t',rfl⟩:=a;exact abz (ck I q (by simp))
  |str j=>obtain⟨t',rfl⟩:=a;exact abx (ck I q (by simp))
  |_=>exact absurd (show false=true from hs) bX
 |bl i =>
  cases b
  cases y with
  |aN=>cases a;exact abC (ck I q (by simp))
  |bl j=>cases a;exact eq_bool (ck I q Cb)
  |str j=>obtain⟨t',rfl⟩:=a;exact aba (ck I q (by simp))
  |_=>exact absurd (show false=true from hs) bX
 |int i =>
  obtain⟨t,rfl⟩:=b;cases y with
  |aN=>cases a;exact abB (ck I q (by simp))
  |int j=>obtain⟨t',rfl⟩:=a;exact eq_int (ck I q pj)
  |str j=>obtain⟨t',rfl⟩:=a;exact aa9 (ck I q (by simp))
  |_=>exact absurd (show false=true from hs) bX
 |str i =>
  obtain⟨t,rfl⟩:=b;cases y with
  |aN=>cases a;exact abw (ck I q (by simp))
  |bl j=>cases a;exact aa8 (ck I q (by simp))
  |int j=>obtain⟨t',rfl⟩:=a;exact aa7 (ck I q (by simp))
  |str j=>obtain⟨t',rfl⟩:=a;exact eq_str (ck I q Bv)
  |_=>exact absurd (show false=true from hs) bX
 |gC i =>
  obtain⟨t,rfl⟩:=b;cases y with
  |gC j=>obtain⟨t',rfl⟩:=a;exact PySem.W.eq_bytes (ck I q Bw)
  |_=>exact absurd (show false=true from hs) bX
 |_=>cases y <;> exact absurd (show false=true from hs) bX
theorem iR:bW X (XR .NotEq) PU:=by
 rintro J s σ H x y v u Q I b a ⟨hs,q⟩;cases x with
 |aN =>
  cases b
  cases y with
  |aN=>cases a;exact abq (ck I q (by simp))
  |bl j=>cases a;exact abt (ck I q (by simp))
  |int j=>obtain⟨t',rfl⟩:=a;exact abr (ck I q (by simp))
  |str j=>obtain⟨t',rfl⟩:=a;exact abp (ck I q (by simp))
  |_=>exact absurd (show false=true from hs) bX
 |bl i =>
  cases b
  cases y with
  |aN=>cases a;exact abv (ck I q (by simp))
  |bl j=>cases a;exact ne_bool (ck I q (c4 not Cb))
  |str j=>obtain⟨t',rfl⟩:=a;exact aa6 (ck I q (by simp))
  |_=>exact absurd (show false=true from hs) bX
 |int i =>
  obtain⟨t,rfl⟩:=b;cases y with
  |aN=>cases a;exact abu (ck I q (by simp))
  |int j=>obtain⟨t',rfl⟩:=a;exact ne_int (ck I q (c4 not pj))
  |str j=>obtain⟨t',rfl⟩:=a;exact aa5 (ck I q (by simp))
  |_=>exact absurd (show false=true from hs) bX
 |str i =>
  obtain⟨t,rfl⟩:=b;cases y with
  |aN=>cases a;exact abo (ck I q (by simp))
  |bl j=>cases a;exact aa4 (ck I q (by simp))
  |int j=>obtain⟨t',rfl⟩:=a;exact aa3 (ck I q (by simp))
  |str j=>obtain⟨t',rfl⟩:=a;exact ne_str (ck I q (c4 not Bv))
  |_=>exact absurd (show false=true from hs) bX
 |gC i =>
  obtain⟨t,rfl⟩:=b;cases y with
  |gC j=>obtain⟨t',rfl⟩:=a;exact PySem.W.ne_bytes (ck I q (c4 not Bw))
  |_=>exact absurd (show false=true from hs) bX
 |_=>cases y <;> exact absurd (show false=true from hs) bX
theorem kj:bW X (XR .Lt) (kN λi j=>.bl (decide (i<j))):=uz λ_ _ _ _ _ _ _ q=>lt_int q
theorem nN:bW X (XR .LtE) (kN λi j=>.bl (decide (i<=j))):=uz λ_ _ _ _ _ _ _ q=>le_int q
theorem lS:bW X (XR .Gt) (kN λi j=>.bl (decide (j<i))):=uz λ_ _ _ _ _ _ _ q=>gt_int q
theorem pK:bW X (XR .Is) (λx y H Q=>y=.aN/\Q (.bl (decide (x=.aN))) H):=by
 rintro J s σ H x y v u Q I a b ⟨rfl,q⟩;cases b
 refine is_none_gen (ck I q ?_);cases x <;> first
  |(cases a;rfl)
  |(obtain⟨t,rfl⟩:=a;rfl)
theorem bh(b:Vo){op:ZW}(h:op ≠ .In:=by decide)(h2:op ≠ .NotIn:=by decide):behindInMarks op b=false:=by
 have a:(op==CmpOp.In)=false:=by cases op <;> first|rfl|exact absurd rfl h
 have c:(op==CmpOp.NotIn)=false:=by cases op <;> first|rfl|exact absurd rfl h2
 cases b <;> simp[behindInMarks,a,c]
theorem eU{op:ZW}{r:R2}(c:bW X (XR op) r)(d:PE X a ta)(e:PE X b tb)(f:behindInMarks op b=false):PE X (.Compare a [op] [b] pos) (qU r ta tb):=by
 intro J s σ H Q I h;exact wpAny_Compare1 (uy d e I h λv u s2 x y H2 g i j q=>c J s2 σ H2 x y v u Q g i j q) f
def CM(t:TE):TT:=λσ H Q=>t σ H λx Y=>∃k,x=.bl k/\Q k Y
theorem bC{op:ZW}{r:R2}(d:bW X (XR op) r)(f:PE X a ta)(g:PE X b tb)(i:behindInMarks op b=false):PT X (.Compare a [op] [b] pos) (CM (qU r ta tb)):=by
 intro J s σ H Q I h;refine wpAny_isTrue_Compare1 (aI (f J s σ H _ I h) λv s1 ⟨x,H1,j,l,m⟩=>aI (g J s1 σ H1 _ j m) λu s2 ⟨y,H2,n,o,p⟩ =>
  aI (d J s2 σ H2 x y v u _ n l o p) λc B ⟨z,q,t,w,k,e,A⟩=>?_) i
 subst e;cases w
 exact hY ⟨q,t,A⟩
def Cc(r r':R2)(ta tb tc:TE):TE:=λσ H Q=>ta σ H λx H1=>tb σ H1 λy H2=>r x y H2 λz H3=>∃k,z=.bl k /\
 (if k=true then tc σ H3 λw' H4=>r' y w' H4 Q else Q (.bl false) H3)
theorem AN{op f:ZW}{r g:R2}(o:bW X (XR op) r)(n:bW X (XR f) g)(p:PE X a ta)(q:PE X b tb)(t:PE X c tc)
  (w:lastMarks [op,f] [b,c]=false:=by with_unfolding_all rfl):PE X (.Compare a [op,f] [b,c] pos) (Cc r g ta tb tc):=by
 intro J s σ H Q I h;refine Compare_chain (aI (p J s σ H _ I h) λv s1 ⟨x,H1,A,B,C⟩=>chain_link (aI (q J s1 σ H1 _ A C) λu s2 ⟨y,H2,D,i,E⟩ =>
  aI (o J s2 σ H2 x y v u _ D B i E) λd F ⟨z,j,l,G,k,e,m⟩=>?_)) w
 subst e;cases G
 refine hY ?_;cases k with
 |false=>exact ite_ff ⟨.bl false,j,l,rfl,m⟩
 |true=>exact ite_tt (chain_last (aI (t J F σ j _ l m) λK L ⟨M,N,O,P,R⟩=>n J L σ N y M u K Q O i P R))
theorem Jj{op f:ZW}{r g:R2}(o:bW X (XR op) r)(n:bW X (XR f) g)(p:PE X a ta)(q:PE X b tb)(t:PE X c tc)
  (w:lastMarks [op,f] [b,c]=false:=by with_unfolding_all rfl):PT X (.Compare a [op,f] [b,c] pos) (CM (Cc r g ta tb tc)):=by
 intro J s σ H Q I h;refine isTrue_chain (aI (p J s σ H _ I h) λv s1 ⟨x,H1,A,B,C⟩=>test_link (aI (q J s1 σ H1 _ A C) λu s2 ⟨y,H2,D,i,E⟩ =>
  aI (o J s2 σ H2 x y v u _ D B i E) λd F ⟨z,j,l,G,k,e,m⟩=>?_)) w
 subst e;cases G
 refine hY ?_;cases k with
 |false =>
  obtain⟨ya,K,L⟩:=m;cases K
  exact ite_ff ⟨j,l,L⟩
 |true =>
  refine ite_tt (test_last (aI (t J F σ j _ l m) λM N ⟨O,P,R,S,T⟩=>aI (n J N σ P y O u M _ R i S T) λza xb aa=>?_));obtain⟨z2,U,V,W,yb,Y,xa⟩:=aa;subst Y;cases W
  exact hY ⟨U,V,xa⟩
def Dw(K:U0)(x:V)(H:Hp)(k:Bool):Prop:=
 match x with
 |.aN=>k=false
 |.bl b=>k=b
 |.int i=>k=(i != 0)
 |.str y=>y.length<=UJ/\k=((y.length:Int) != 0)
 |.gC y=>y.size<=UJ/\k=((y.size:Int) != 0)
 |.ref p=>(∃xs,aq K H p xs/\k = !xs.isEmpty)\/(∃xs,aE K H p xs/\k = !xs.isEmpty) \/∃kvs,H p=ih (.dK kvs)/\k = !kvs.isEmpty
 |_=>False
theorem HL{κ:Type}{kvs:am (κ×V)}{vs:am (κ×i')}(r:KV kvs vs):(!vs.isEmpty) = !kvs.isEmpty:=by
 cases r <;> rfl
theorem rP(r:Vals xs its):(!its.toArray.isEmpty) = !xs.isEmpty:=by
 cases r <;> simp
theorem kf:(UJ:Nat)<2 ^ 63:=by rw[aJ];decide
theorem LQ:OM X (λx H Q=>∃k,Dw X.K x H k/\Q k H):=by
 rintro J s σ H x v Q I c ⟨k,e,q⟩;have n:=kf;have hs:UJ=16777216:=aJ;cases x with
 |aN =>
  cases c
  have a:k=false:=e;subst a;exact truthy_none ⟨H,I,q⟩
 |bl b =>
  cases c
  have a:k=b:=e;subst a;exact hY ⟨H,I,q⟩
 |int i =>
  obtain⟨t,rfl⟩:=c;have a:k=(i != 0):=e;subst a;exact PySem.P.truthy_int ⟨H,I,q⟩
 |str y =>
  obtain⟨t,rfl⟩:=c;obtain⟨j,a⟩:y.length<=UJ/\k=((y.length:Int) != 0):=e;subst a;exact PySem.P.truthy_str (by omega) ⟨H,I.tok _,q⟩
 |gC y =>
  obtain⟨t,rfl⟩:=c;obtain⟨j,a⟩:y.size<=UJ/\k=((y.size:Int) != 0):=e;subst a;exact PySem.W.truthy_bytes (by omega) ⟨H,I.tok _,q⟩
 |ref p =>
  cases c
  have a:(∃xs,aq X.K H p xs/\k = !xs.isEmpty)\/(∃xs,aE X.K H p xs/\k = !xs.isEmpty) \/∃kvs,H p=ce kvs/\k = !kvs.isEmpty:=e;rcases a with⟨xs,d,a⟩|⟨xs,d,a⟩|⟨kvs,d,a⟩
  ·subst a
   obtain⟨its,r,pl,g⟩:=I.list d;have f:=r.length;exact wpAny_truthy_list pl.isList (by simp only[bM];omega) ⟨H,I.tok _,by rw[rP r];exact q⟩
  ·subst a
   obtain⟨its,r,pl,g⟩:=I.tuple d;have f:=r.length;exact truthy_tuple pl (by simp only[bM];omega) ⟨H,I.tok _,by rw[rP r];exact q⟩
  ·subst a
   obtain⟨g,l,vs,r,m⟩:kvs.length<=UJ/\(p==sysModules)=false /\∃vs,KV kvs vs/\s.heap.DictOf (b5 X.prog X.w) p vs:=I.aD p _ d;have f:kvs.length=vs.length:=cC r;exact wpAny_truthy_dict l m (by omega) ⟨H,I.tok _,by rw[HL r];exact q⟩
 |_=>exact(show False from e).elim
theorem m7(c:PE X a ta)(d:∀b,isTrue a X.env b=(do let v <- b;standAt a.pos;holding [v] (truthy v))) :
  PT X a (λσ H Q=>ta σ H λx Y=>∃k,Dw X.K x Y k/\Q k Y):=by
 intro J s σ H Q I h;exact isTrue_plain (aI (c J s σ H _ I h) λv s1 ⟨x,H1,e,f,g⟩=>LQ J s1 σ H1 x v Q e f g) (d _)
theorem wG:bW X (Yi .Add) (λx y H Q=>∃i j,x=.str i/\y=.str j/\i.length+j.length<=UJ/\Q (.str (i++j)) H):=by
 rintro J s σ H x y v u Q I a b ⟨i,j,rfl,rfl,c,q⟩;obtain⟨t,rfl⟩:=a;obtain⟨t',rfl⟩:=b;exact add_str (λt' tk=>⟨.str (i++j),H,I.tok _,⟨_,rfl⟩,q⟩) c
theorem vals1{x:V}(r:Vals [x] us):∃u,us=[u]/\RelV x u:=by
 cases r with
 |cons a b=>cases b;exact⟨_,rfl,a⟩
theorem vals2{x:V}(r:Vals [x,y] us):∃u a,us=[u,a]/\RelV x u/\RelV y a:=by
 cases r with
 |cons b c =>
  cases c with
  |cons d e=>cases e;exact⟨_,_,rfl,b,d⟩
theorem AO:bY X (.builtin "abs") (λxs H Q=>∃i,xs=[.int i]/\Q (.int (if i<0 then -i else i)) H):=by
 rintro J s σ H xs us Q I r ⟨i,rfl,q⟩;obtain⟨u,rfl,t,rfl⟩:=vals1 r;exact call_abs_int λu tk=>⟨.int (if i<0 then -i else i),H,I.tok _,⟨_,rfl⟩,q⟩
theorem w4(b:X.calm=true):bY X (.builtin "max") (λxs H Q=>∃i j,xs=[.int i,.int j]/\Q (.int (if j>i then j else i)) H):=by
 rintro J s σ H xs us Q I r ⟨i,j,rfl,q⟩;obtain⟨u,c,rfl,⟨t,rfl⟩,⟨t',rfl⟩⟩:=vals2 r;refine max_two_ints (I.ok.hd b) λh' tk k=>⟨_,H,I.kept k,?_,q⟩
 by_cases a:j>i
 ·rw[aw a,aw a];exact⟨_,rfl⟩
 ·rw[ak a,ak a];exact⟨_,rfl⟩
theorem w6(b:X.calm=true):bY X (.builtin "min") (λxs H Q=>∃i j,xs=[.int i,.int j]/\Q (.int (if j<i then j else i)) H):=by
 rintro J s σ H xs us Q I r ⟨i,j,rfl,q⟩;obtain⟨u,c,rfl,⟨t,rfl⟩,⟨t',rfl⟩⟩:=vals2 r;refine min_two_ints (I.ok.hd b) λh' tk k=>⟨_,H,I.kept k,?_,q⟩
 by_cases a:j<i
 ·rw[aw a,aw a];exact⟨_,rfl⟩
 ·rw[ak a,ak a];exact⟨_,rfl⟩
end
structure uB(h:XY)(x dx C:FG)(mA:F4->Option i'):Prop where
 obj:h.get? x=ih (Y' C dx)
 ns:h.Ns1 dx mA
 ne:dx≠x
theorem mV{dx:FG}{b:F4->Option i'}(n:h.Ns1 dx b):∃od,h.get? dx=ih od /\∀name,Ze name od=ih (b name):=by
 obtain⟨o,es,ep,d,f,g,_,i⟩:=n;refine⟨o,d,λname=>?_⟩;have e:=i name;unfold nsFind findBy at e;rw[<-UD]at e;unfold Ze;rw[f]
 dsimp only
 split
 ·rename_i y q
  rw[q]at e;exact c4 ih e
 ·rename_i q
  rw[q]at e;have a:es.toList.any (·.refKey)=false:=by
   rw[vh];intro y j;obtain⟨z,t,c⟩:=g y (rg.mp j);simp[aca,c]
  have k : ¬ es.toList.any (·.refKey)=true:=by rw[a];exact bX
  rw[ak k];exact c4 ih e
theorem uB.look{x dx:FG}{a:F4->Option i'}(I:uB h x dx C a):∃od,PySem.W.InstAt h x (Y' C dx) C (ih od) /\∀name,Ze name od=ih (a name):=
 let ⟨od,b,c⟩:=mV I.ns
 ⟨od,⟨I.obj,rfl,rfl,b⟩,c⟩
theorem gb.some_of{o:ap i'}(r:gb (ih v) o):∃u,o=ih u/\RelV v u:=by
 cases o with
 |none=>exact(show False from r).elim
 |some u=>exact⟨u,rfl,r⟩
section
variable{dx:FG}{fs Qw:am (F4×V)}
theorem Kl(c:b4 P w H h)(e:H a=ih (.ins C dx fs)):∃b,uB h a dx C b/\(∀f,gb (fs.lookup f) (b f))/\Y7 b (fs.map (·.1))/\fs.length<=1000/\H dx=ih (.own a):=by
 obtain⟨d,z,ne,g,b,n,r,q⟩:=(show bc P w H h a (.ins C dx fs) from c a _ e);exact⟨b,⟨g,n,ne⟩,r,q,z,d⟩
end
structure uV(K:U0)(C:FG):Prop where
 pg:ZS K C aad=true
 hd:PySem.W.hasDictIn K C=true
 po:PySem.W.plainOver K C=true
 sa:Z5 K (.ref C) "__setattr__" = ih (ih (.builtin "object.__setattr__"))
theorem uV.get(c:uV K C)(f:F4):ZS K C f=true:=c.pg
section
variable{Q:i'->Gb->Prop}{c:i'}{b:Bool}
inductive gc(K:U0)(H:Hp):V->i'->Prop where
 |aN:gc K H .aN (.type "NoneType")
 |bl (x:Bool):gc K H (.bl x) (.type "bool")
 |int (i:Int):gc K H (.int i) (.type "int")
 |str (x:F4):gc K H (.str x) (.type "str")
 |mj (x:UInt64):gc K H (.mj x) (.type "float")
 |lst {a:FG}{xs:List V} (e:H a=ih (.lst xs)):gc K H (.ref a) (.type "list")
 |aX {a:FG}{o:Ys}{xs:List V} (e:H a=ih (.aX o (.lst xs))):gc K H (.ref a) (.type "list")
 |tup {a:FG}{xs:List V} (e:H a=ih (.tup xs)):gc K H (.ref a) (.type "tuple")
 |dK {a:FG}{kvs:List (Key×V)} (e:H a=ih (.dK kvs)):gc K H (.ref a) (.type "dict")
 |dT {a:FG}{kvs:List (List Key×V)} (e:H a=ih (.dT kvs)):gc K H (.ref a) (.type "dict")
 |ins {a C dx:FG}{fs:List (F4×V)} (e:H a=ih (.ins C dx fs)) (cl:uV K C) (ha:Z5 K (.ref C) "__class__" = ih (ih (.builtin "object.__class__")))
   (hn:PySem.W.specialIn K (.builtin "object.__class__") "__get__" = ih (ih (.builtin "getset_descriptor.__get__"))) (VI:PySem.W.takesIn K (.builtin "object.__class__")=ih true)
   (hm:PySem.W.mroIn K C (.type "object")=ih true):gc K H (.ref a) (.ref C)
theorem IA{x:V}{t:i'}(I:Inv X J σ H s)(d:RelV x u)(ty:gc X.K H x t)(e:PySem.W.kitOne X.K t c=ih b)(h:∀tk,Q (.bool b) { s with toks:=tk }) :
  UB X.ef A (call (.builtin "isinstance") [u,c]) Q E s:=by
 cases ty with
 |aN=>cases (show u=Vw from d);exact h1 PySem.W.kitx_none I.cm XW e (λz=>nomatch z) h
 |bl y=>cases (show u=YM y from d);exact h1 PySem.W.kitx_bool I.cm XW e (λz=>nomatch z) h
 |int i=>obtain⟨t,q⟩:=(show ∃t,u=Zv i t from d);cases q;exact h1 PySem.W.kitx_int I.cm XW e (λz=>nomatch z) h
 |str y=>obtain⟨t,q⟩:=(show ∃t,u=YB y t from d);cases q;exact h1 PySem.W.kitx_str I.cm XW e (λz=>nomatch z) h
 |mj y=>obtain⟨t,q⟩:=(show ∃t,u=aaT y t from d);cases q;exact h1 PySem.W.kitx_float I.cm XW e (λz=>nomatch z) h
 |@lst a xs f =>
  cases (show u=U3 a from d)
  obtain⟨_,_,n,_,U⟩:=(show bc X.prog X.w H s.heap a (.lst xs) from I.aD a _ f);exact h1 UE I.cm ⟨_,U,rfl⟩ e (λz=>nomatch z) h
 |@aX a k xs f =>
  cases (show u=U3 a from d)
  obtain⟨_,_,_,n,_,U⟩:=(show bc X.prog X.w H s.heap a (.aX k (.lst xs)) from I.aD a _ f);exact h1 UE I.cm ⟨_,U,rfl⟩ e (λz=>nomatch z) h
 |@tup a xs f =>
  cases (show u=U3 a from d)
  obtain⟨_,_,_,p⟩:=(show bc X.prog X.w H s.heap a (.tup xs) from I.aD a _ f);obtain⟨o,U,h2,_⟩:=p;exact h1 UG I.cm ⟨o,U,h2⟩ e (λz=>nomatch z) h
 |@dK a kvs f =>
  cases (show u=U3 a from d)
  obtain⟨_,_,vs,_,p⟩:=(show bc X.prog X.w H s.heap a (.dK kvs) from I.aD a _ f);obtain⟨o,es,ep,U,h2,_⟩:=p;exact h1 UH I.cm ⟨o,U,h2.1⟩ e (λz=>nomatch z) h
 |@dT a kvs f =>
  cases (show u=U3 a from d)
  obtain⟨_,_,xs,_,o,es,ep,U,h2,_⟩:=(show bc X.prog X.w H s.heap a (.dT kvs) from I.aD a _ f);exact h1 UH I.cm ⟨o,U,h2.1⟩ e (λz=>nomatch z) h
 |@ins a C dx fs f g l m j r =>
  cases (show u=U3 a from d)
  obtain⟨B,O,_⟩:=Kl I.aD f;obtain⟨od,v,_⟩:=O.look;exact h1 (PySem.W.kitx_own (g.get _) g.hd l m j r) I.cm v e (λz=>nomatch z) h
end
structure aQ(k:Nat)(A:Yc):Prop where
 hd:A.handled=none
 dp:A.depth+3 * k+5<recursionLimit
 un:A.units+16 * k+200<Yq
 gd:A.guards=ih []
theorem aQ.mono{k:Nat}(r:aQ k A)(h:j<=k):aQ j A:=⟨r.hd,by have:=r.dp;omega,by have:=r.un;omega,r.gd⟩
theorem aQ.deeper{k:Nat}(r:aQ (k+1) A)(env:Y5):aQ k (A.deeper env):=
 ⟨r.hd,by have:=r.dp;show A.depth+1+3 * k+5<_;omega,by have:=r.un;show A.units+3+16 * k+200<_;omega,by first|exact r.gd|simp[aam,r.gd]⟩
theorem aQ.depth{k:Nat}(r:aQ k A):A.depth<recursionLimit:=by have:=r.dp;omega
theorem aQ.units{k:Nat}(r:aQ k A):A.units+64<Yq:=by have:=r.un;omega
def Dx:TA:=λ_ H Q=>Q [] H
def CO(ta:TE)(tr:TA):TA:=λσ H Q=>ta σ H λx H1=>tr σ H1 λxs H2=>Q (x::xs) H2
section
variable{t:TA}
theorem af:PA X [] Dx:=λ_ _ _ _ H Q I h=>Z0 ⟨[],H,I,.nil,h⟩
theorem aa(a:PE X e te)(b:PA X es t)(hs:U6 (e::es) X.env=(false,eval e X.env)::U6 es X.env:=by rfl):PA X (e::es) (CO te t):=by
 intro pos J s σ H Q I h;rw[hs];show UB _ _ (spliced ((false,eval e X.env)::backTo pos (U6 es X.env))) _ _ s;refine ZU (aI (a J s σ H _ I h) λu s1 k=>?_);obtain⟨x,H1,c,d,f⟩:=k;exact aI (b pos J s1 σ H1 _ c f) λus s2 ⟨xs,H2,g,i,j⟩=>⟨x::xs,H2,g,.cons d i,j⟩
def Dy(t:TA):TE:=λσ H Q=>t σ H λxs H1=>xs.length<=UJ /\∀p,H1 p=none->Q (.ref p) (upd H1 p (.tup xs))
def Dz(t:TA):TE:=λσ H Q=>t σ H λxs H1=>xs.length<=UJ /\∀p,H1 p=none->Q (.ref p) (upd H1 p (.lst xs))
theorem cZ{c}(h:PA X es t):PE X (.Tuple es c pos) (Dy t):=by
 intro J s σ H Q I d;refine wpAny_Tuple_spliced (aI (h pos J s σ H _ I d) λus s1 ⟨xs,H1,a,r,z,q⟩=>⟨by rw[<-r.length];exact z,?_⟩)
 have f:H1 s1.ax=none:=a.aD.fresh (aG _);refine⟨.ref s1.ax,upd H1 s1.ax (.tup xs),a.laid (t':=s1.toks) (λb u e=>aV _ e) (aG _) ?_,rfl,q _ f⟩;exact⟨z,us,r,⟨_,bG _ rfl,rfl,_,rfl,rfl⟩⟩
theorem ea(h:PA X es t):PE X (.List es pos) (Dz t):=by
 intro J s σ H Q I c;refine wpAny_List_spliced (aI (h pos J s σ H _ I c) λus s1 ⟨xs,H1,a,r,z,q⟩=>⟨by rw[<-r.length];exact z,?_⟩)
 have d:H1 s1.ax=none:=a.aD.fresh (aG _);refine⟨.ref s1.ax,upd H1 s1.ax (.lst xs),a.laid (t':=s1.toks) (λb u e=>aV _ e) (aG _) ?_,rfl,q _ d⟩;exact⟨z,us,0,r,bG _ rfl⟩
end
abbrev Sp:=List V->Hp->VK->XK->Prop
end L2
variable{sp:L2.Sp}
namespace L2
open Spec PyProof.Rows
abbrev gD:=List Y5->Hp->Gb->XK->i'->Gb->Prop
structure l6(P:XZ)(w:X7)(K:U0)(mg:F4->Option i')(base:XY)(A:Yc)(outer:List Y5)(s:Gb)(H:Hp):Prop where
 frames:A.frames=ih outer
 mod:Mod K mg base
 bs:∀b o,base.get? b=ih o->s.heap.get? b=ih o/\H b=none
 gS:base.objs.size<=s.ax
 fb:s.heap.FunFrames base outer
 hQ:∀b∈d2 outer,H b=none
 aD:b4 P w H s.heap
 bare:YT s.gens
def CE(outer:List Y5)(P:XZ)(w:X7)(H:Hp)(s:Gb)(Q:VK)(u:i')(s':Gb):Prop:=
 ∃v Y,s'.os=s.os/\YT s'.gens/\Un (d2 outer) [] H Y s.heap s'.heap/\b4 P w Y s'.heap/\RelV v u/\Q v Y
def CR(CX:gD)(outer:List Y5)(P:XZ)(w:X7)(H:Hp)(s:Gb)(Q:VK)(E:XK)(r:Result)(s':Gb):Prop:=
 match r with
 |.ok (.ret u)=>CE outer P w H s Q u s'
 |.ok _=>False
 |.error e=>CX outer H s E e s'
structure aU(P:XZ)(w:X7)(K:U0)(mg:F4->Option i')(base:XY)(CX:gD)(k:Nat)(f:FG)(fd:XX)(ps:List F4)(sp:Sp):Prop where
 len:∀vs H Q E,sp vs H Q E->vs.length=ps.length
 run:∀(A:Yc) (outer:List Y5) (s:Gb) (H:Hp) (args:Args) (us:List i') (vs:List V) (Q:VK) (E:XK),aQ k A->l6 P w K mg base A outer s H->Zm s fd args (ps.zip us)->Vals vs us->sp vs H Q E ->
  codeAny (UP P w) A (.call (.ref f) args) (CR CX outer P w H s Q E) s
theorem Inv.uC(I:Inv X J σ H s):l6 X.prog X.w X.K X.mg X.base X.A X.stack s H:=
 ⟨I.ok.frames,I.ok.mod,I.bs,e5 I.ok.gS I.sz,I.stack,I.sQ,I.aD,I.bare⟩
theorem Inv.after(I:Inv X J σ H s)(h:CE X.stack X.prog X.w H s Q u s'):EP X J σ Q u s':=by
 obtain⟨v,Y,os,a,un,c,r,q⟩:=h;obtain⟨f,g,d,t,e⟩:=s';obtain rfl:e=s.os:=os;exact⟨v,Y,I.call (h':=f) (g':=g) (d':=d) (t':=t) (ch:=[]) un c a (λb z=>absurd z (by simp)),r,q⟩
def pZ(sp:Sp)(Qs:List V)(E:XK)(t:TA):TE:=λσ H Q=>t σ H λvs H1=>sp (vs++Qs) H1 Q E
def Binds(K:U0)(fd:XX)(ps:List F4)(ds:List i'):Prop:=
 ∀(s:Gb) (us:List i'),K.In s.heap->(us++ds).length=ps.length->Zm s fd ⟨us,[]⟩ (ps.zip (us++ds))
theorem Binds.all(h:∀us:am i',us.length=ps.length->bindArgs fd ⟨us,[]⟩=pure (ps.zip us)):Binds K fd ps []:=λs us _ a=>by
 rw[ei]at a⊢;exact .of_eq (h us a)
def Passes(CX:gD)(X:Cx)(E:XK):Prop:= ∀(J:List (FG×Ys)) (σ:St) (H:Hp) (s:Gb) (e:i') (s':Gb),Inv X J σ H s->CX X.stack H s E e s'->X.xe e s'
section
variable{CX:gD}{k:Nat}{Qs:am V}{ds:am i'}{E:XK}{m:F4}{p:ZV}{o:Vo}{t:TA}
theorem LR(F:aU X.prog X.w X.K X.mg X.base CX k f fd ps sp)(c:aQ k X.A)(d:Binds X.K fd ps ds)(g:Vals Qs ds)(i:Passes CX X E)
  (I:Inv X J σ H s) (r:Vals vs us) (h:sp (vs++Qs) H Q E):wA X (call (.ref f) us) (EP X J σ Q) X.xe s:=by
 have b:Vals (vs++Qs) (us++ds):=r.append g;have j:(us++ds).length=ps.length:=by rw[<-b.length];exact F.len _ _ _ _ h
 refine mF (jW (F.run X.A X.stack s H ⟨us,[]⟩ (us++ds) (vs++Qs) Q E c I.uC (d s us I.cm j) b h) λr s' a=>?_);cases r with
 |error e=>exact i J σ H s e s' I a
 |ok l =>
  cases l with
  |ret u=>exact I.after a
  |next=>exact Vs a
  |brk=>exact Vs a
  |cont=>exact Vs a
theorem dA(F:aU X.prog X.w X.K X.mg X.base CX k f fd ps sp)(d:aQ k X.A)(g:Gl X x)(i:X.mg x=ih (.ref f))(j:Zf X.K (.ref f)=true)(l:Binds X.K fd ps ds)(m:Vals Qs ds)(n:Passes CX X E)
  (o:PA X (e::es) t) (b:(x==("__debug__" : F4))=false:=by decide) (u:U6 (e::es) X.env=(false,eval e X.env)::U6 es X.env:=by rfl) (c:(backTo pos (U6 es X.env)).any (·.1)=false:=by rfl) :
  PE X (.Call (.Name x p) (e::es) [] pos) (pZ sp Qs E t):=by
 intro J s σ H Q I h;refine mG (lF I g i ?_ b);refine PySem.W.callWith_K (h₀:=X.base) I.ok.mod.kL j (aI (o pos J s σ H _ I h) λus s1 ⟨vs,H1,a,r,q⟩=>⟨a.cm,?_⟩) u c;exact LR F d l m n a r q
end
structure bg(N P:List F4)(sc:YL):Prop where
 kind:sc.kind=.function
 co:sc.isCoroutine=false
 gen:sc.isGenerator=false
 nd:N.Nodup
 pre:N.take P.length=P
 par:∀x∈P,sc.names.lookup x=ih .local\/sc.names.lookup x=ih .cell
 LS:∀y∈sc.names,y.2 ≠ .free
theorem w7{kindOf:F4->Option Yj}{x:F4}:∀{binds:am (F4×i')}{m:F4->Option i'},(∀v,(x,v)∉ binds)->bindL kindOf binds m x=m x
 |[],_,_=>rfl
 |(n,v)::r,m,h=>by
  unfold bindL;rw[w7 λw a=>h w (a8 _ a)];split
  ·have:x≠n:=by rintro rfl;exact h v aT
   simp[this]
  ·rfl
theorem w8{kindOf:F4->Option Yj}{x:F4}:∀{binds:am (F4×i')}{m:F4->Option i'},(∀v,(x,v)∉ binds)->bindC kindOf binds m x=m x
 |[],_,_=>rfl
 |(n,v)::r,m,h=>by
  unfold bindC;rw[w8 λw a=>h w (a8 _ a)];split
  ·rfl
  ·have:x≠n:=by rintro rfl;exact h v aT
   simp[this]
theorem w9{kindOf:F4->Option Yj}{x:F4}{v:i'}:∀{P:am F4}{vs:am i'}{i:Nat}{m:F4->Option i'},P.Nodup->P[i]?=ih x->vs[i]?=ih v->kindOf x=ih .local ->
  bindL kindOf (P.zip vs) m x=ih v
 |[],_,_,_,_,h,_,_=>by simp at h
 |_::_,[],_,_,_,_,h,_=>by simp at h
 |p::P,w::vs,0,m,a,U,h2,b=>by
  simp at U h2;subst U;subst h2;show bindL kindOf ((p,w)::P.zip vs) m p=_;unfold bindL;rw[w7 λv c=>(eu.mp a).1 (vi c).1,aw b];simp
 |p::P,w::vs,i+1,m,a,U,h2,b=>by
  show bindL kindOf ((p,w)::P.zip vs) m x=_;unfold bindL;exact w9 (i:=i) (eu.mp a).2 (by simpa using U) (by simpa using h2) b
theorem xZ{kindOf:F4->Option Yj}{x:F4}{v:i'}:∀{P:am F4}{vs:am i'}{i:Nat}{m:F4->Option i'},P.Nodup->P[i]?=ih x->vs[i]?=ih v->kindOf x≠ih .local ->
  bindC kindOf (P.zip vs) m x=ih v
 |[],_,_,_,_,h,_,_=>by simp at h
 |_::_,[],_,_,_,_,h,_=>by simp at h
 |p::P,w::vs,0,m,a,U,h2,b=>by
  simp at U h2;subst U;subst h2;show bindC kindOf ((p,w)::P.zip vs) m p=_;unfold bindC;rw[w8 λv c=>(eu.mp a).1 (vi c).1,ak b];simp
 |p::P,w::vs,i+1,m,a,U,h2,b=>by
  show bindC kindOf ((p,w)::P.zip vs) m x=_;unfold bindC;exact xZ (i:=i) (eu.mp a).2 (by simpa using U) (by simpa using h2) b
def start(N:List F4)(vs:List V):St:=vs.map ih++XO (N.length - vs.length) none
def ec(CX:gD)(P:XZ)(w:X7)(K:U0)(mg:F4->Option i')(base:XY)(N:List F4)(qual:F4)(scope:YL)(f:FG)(cd:i')(A:Yc)(outer:List Y5)(s:Gb)(H:Hp)(E:XK):Cx where
 prog:=P
 w:=w
 K:=K
 mg:=mg
 base:=base
 A:=A.deeper (envOfC qual scope s.ax f cd)
 N:=N
 eb:=s
 gN:=H
 env:=envOfC qual scope s.ax f cd
 outer:=outer
 stack:=envOfC qual scope s.ax f cd::outer
 ex:=[]
 calm:=true
 fn:=λ_=>true
 pn:=[]
 xe:=λe s'=>UB (UP P w) (A.deeper (envOfC qual scope s.ax f cd)) (leaving (envOfC qual scope s.ax f cd) e) (λ_ uW=>CX outer H s E e uW) (λe' uW=>CX outer H s E e' uW) s'
theorem su(h:sc.names.lookup x=ih .cell):∃c,(cellsFrom n sc.names []).lookup x=ih c:=by
 have q:=FE sc.names n [] (.inl h);exact UI.mp q
theorem yZ{CX:gD}{E:XK}
  (S:bg N ps scope) (t:A.handled=none) (d:l6 P w K mg base A outer s H) (F:vs.length=ps.length) (r:Vals vs us)
  (x:InCallC s s.heap.objs.size (bindL (envOfC qual scope s.heap.objs.size f cd).kindOf (ps.zip us) λ_=>none) (cellsFrom (s.heap.objs.size+1) scope.names []) (bindC (envOfC qual scope s.heap.objs.size f cd).kindOf (ps.zip us) λ_=>none) s1) :
  Inv (ec CX P w K mg base N qual scope f cd A outer s H E) [] (start N vs) H s1:=by
 have D:ps.length<=N.length:=by have:=c4 YI S.pre;rw[b8]at this;omega
 obtain⟨U,tk,rfl,m⟩:=x.done;have j:∀b:FG,b ∉ (ec CX P w K mg base N qual scope f cd A outer s H E).ex:=λb z=>absurd (show b∈([]:am FG) from z) (by simp)
 refine⟨⟨d.mod,S.kind,rfl,rfl,aG _,λy z c U h2=>?_,λy hy=>?_,λy c _ h=>?_,λ_=>t,Around.frames_deeper d.frames,.inr ⟨rfl,rfl⟩,λb z=>absurd z (j b),d.bs,d.gS,λb _ _=>j b,λb z=>absurd z (j b),d.fb,d.hQ⟩,
  rfl,d.bare,Un.kept m,⟨_,x.toInCall.ns,λi y v U h2 G=>?_⟩,λy c h=>⟨_,x.cell y c h⟩,d.aD.fresh (aG _),λy c h=>?_,λp g=>absurd (show p∈([]:am (FG×Ys)) from g) (by simp),d.aD.kept m,?_⟩
 ·exact name_of_addr x.apart (jc U) (jc h2)
 ·have hy:scope.names.lookup y=ih .cell\/scope.names.lookup y=ih .free:=hy
  rcases hy with hy|hy
  ·exact su hy
  ·exact absurd rfl (S.LS _ (jc hy))
 ·exact oz (x.above y c (jc h))
 ·have hi:i<vs.length:=by
   unfold start at h2
   by_cases hi:i<vs.length
   ·exact hi
   ·rw[oC (by simpa using hi)]at h2
    rw[List.getElem?_replicate]at h2;split at h2 <;> cases h2
  have B:vs[i]?=ih v:=by
   unfold start at h2;rw[rh (by simpa using hi),cx]at h2
   cases e:vs[i]? with
   |none=>rw[e]at h2;cases h2
   |some a=>rw[e]at h2;cases h2;rfl
  obtain⟨u,o,C⟩:=r.get B;have g:ps[i]?=ih y:=by
   rw[<-S.pre,FF (by omega)];exact U
  have l:ps.Nodup:=by rw[<-S.pre];exact S.nd.sublist (kZ _ _)
  refine⟨u,C,?_⟩;rcases S.par y (dQ g) with k|k
  ·exact .inl ⟨k,w9 l g o k⟩
  ·obtain⟨c,e⟩:=su (n:=s.heap.objs.size+1) k
   refine .inr ⟨.inl k,c,e,?_⟩;have q:=x.cell y c e;rw[xZ l g o (by show scope.names.lookup y≠_;rw[k];decide)]at q
   exact q
 ·exact d.aD.fresh (oz (x.above y c (jc h)))
 ·unfold start
  show _=N.length;rw[df,ar,jX];omega
theorem CP{CX:gD}{k:Nat}{i:Arguments}{dV kV:i'}(lk:K.lookup f=ih ⟨oc,od,.func (YK name qual i body scope dV kV Qg pm an Qc ct),Qn⟩)(C:Zg K Qc qual=true)(S:bg N ps scope)
  (j:∀vs H Q E,sp vs H Q E->vs.length=ps.length)
  (z:∀(A:Yc) (outer:am Y5) (s:Gb) (H:Hp) (vs:am V) (Q:VK) (E:XK),aQ k (A.deeper (envOfC qual scope s.ax f Qc))->sp vs H Q E ->
   ∃t,dr (ec CX P w K mg base N qual scope f Qc A outer s H E) body t/\t { nx:=λ_ Y=>Q .aN Y,rt:=Q } (start N vs) H) :
  aU P w K mg base CX (k+1) f (YK name qual i body scope dV kV Qg pm an Qc ct) ps sp:=by
 refine⟨j,λA outer s H args us vs Q E g c F r l=>?_⟩;have G:=j _ _ _ _ l;have p:K.In s.heap:=c.mod.kL.keeps λb o e=>(c.bs b o e).1;have D:s.heap.NoLimit:=c.mod.nolimit.keeps λb o e=>(c.bs b o e).1;have B:∀y∈ps.zip us,scope.names.lookup y.1=ih .local\/(scope.names.lookup y.1=ih .cell/\((cellsFrom (s.ax+1) scope.names []).lookup y.1).isSome=true):=λ⟨n,v⟩ J=>by
  rcases S.par n (vi J).1 with q|q
  ·exact .inl q
  ·exact .inr ⟨q,FE _ _ _ (.inl q)⟩
 refine codeAny_call_function g.depth (p _ _ lk) rfl S.co S.gen rfl (UK p C) (F _ _ _ _ ?_);refine UL S.kind B λenv L s1 x=>?_;subst L;refine⟨D.keeps x.toInCall.keep,codeAny_func ?_⟩;obtain⟨t,M,O⟩:=z A outer s H vs Q E (g.deeper _) l;have I:Inv (ec CX P w K mg base N qual scope f Qc A outer s H E) [] (start N vs) H s1:=yZ S g.hd c G r x;refine gU (M [] s1 (start N vs) H _ I O) (λR s' hs=>?_) λe s' hs=>hs;have m:∀{d:St}{Y:Hp}{v:V}{u:i'},Inv (ec CX P w K mg base N qual scope f Qc A outer s H E) [] d Y s'->RelV v u->Q v Y->CE outer P w H s Q u s':=
  λ{d Y v u} a h q=>⟨v,Y,a.os,a.bare,a.base,a.aD,h,q⟩
 cases R with
 |ret u =>
  obtain⟨v,d,Y,a,h,q⟩:=hs;exact m a h q
 |next =>
  obtain⟨d,Y,a,q⟩:=hs;exact m (v:=V.aN) (u:=Vw) a rfl q
 |brk =>
  obtain⟨_,_,_,q⟩:=hs;exact Vs q
 |cont =>
  obtain⟨_,_,_,q⟩:=hs;exact Vs q
section
variable{p:ZV}{t:TA}{id:String}{r:am V->Hp->VK->Prop}
def ED(r:List V->Hp->VK->Prop)(t:TA):TE:=λσ H Q=>t σ H λvs H1=>r vs H1 Q
theorem aS(c:bY X (.builtin id) r)(d:Gl X x)(f:X.mg x=none)(g:Vx x=ih (.builtin id))(i:PA X (e::es) t)(j:x ≠ "__name__" :=by decide)(a:(x==("__debug__" : F4))=false:=by decide)
  (k:U6 (e::es) X.env=(false,eval e X.env)::U6 es X.env:=by rfl) (b:(backTo pos (U6 es X.env)).any (·.1)=false:=by rfl):PE X (.Call (.Name x p) (e::es) [] pos) (ED r t):=by
 intro J s σ H Q I h;refine mG (kb I d f g ?_ j a);exact UM (aI (i pos J s σ H _ I h) λus s1 ⟨vs,H1,l,m,n⟩=>c J s1 σ H1 vs us Q l m n) k b
theorem dX(c:bY X (.type T) r)(d:Gl X x)(f:X.mg x=none)(g:Vx x=ih (.type T))(i:PA X (e::es) t)(j:x ≠ "__name__" :=by decide)(a:(x==("__debug__" : F4))=false:=by decide)
  (k:U6 (e::es) X.env=(false,eval e X.env)::U6 es X.env:=by rfl) (b:(backTo pos (U6 es X.env)).any (·.1)=false:=by rfl):PE X (.Call (.Name x p) (e::es) [] pos) (ED r t):=by
 intro J s σ H Q I h;refine mG (kb I d f g ?_ j a);exact vg (aI (i pos J s σ H _ I h) λus s1 ⟨vs,H1,l,m,n⟩=>c J s1 σ H1 vs us Q l m n) k b
end
end L2
namespace HT
open PyProof.Rows
section
open SeqAt
open AutoSeq1 (wpAny_loadPart')
open MeetsSeq MeetsSeq2 MeetsSeq3
end
theorem Km{t:FG}{vs ws:am i'}{Q:i'->Gb->Prop}(p:Yg s.heap t vs.toArray)(q:Yg s.heap b ws.toArray)(j:vs ≠ [])
  (U:ws=[]->Q (.ref t) s) (h2:ws ≠ []->Q (.ref s.ax) { s with heap:=s.heap.push { cls:=.type "tuple",data:=.seq (vs++ws).toArray } })
  (hsz:vs.length+ws.length<=UJ):UB (UP prog w) A (Yi .Add (.ref t) (.ref b)) Q E s:=by
 obtain⟨⟨cls,k,data,sl⟩,c,l,n,m⟩:=id p;obtain⟨⟨r,f,data2,g⟩,a,h,o,i⟩:=id q;simp only at l m h i;subst l m h i;have e:vs.toArray++ws.toArray=(vs++ws).toArray:=by simp
 by_cases d:ws=[]
 ·exact concat_meets ⟨_,c,rfl⟩ ⟨_,a,rfl⟩ FH FI FJ FL (FO _ _)
   (tuple_addW1 t b vs.toArray ws.toArray n o k f sl g (by simpa using j) (by simp[d])) ⟨c,a,U d⟩
 ·refine concat_meets ⟨_,c,rfl⟩ ⟨_,a,rfl⟩ FH FI FJ FL (FO _ _)
   (tuple_addW2 t b vs.toArray ws.toArray n o k f sl g (by simpa using j) (by simpa using d) (by rw[bM,bM];exact hsz)) ⟨c,a,?_⟩
  rw[e];exact h2 d
def a9(n d:Nat):Option Int->Nat
 |none=>d
 |some v=>if v<0 then (v+(n:Int)).toNat else min v.toNat n
theorem Jk(n d:Nat):a9 n d none=d:=rfl
theorem Kn(n d k:Nat):a9 n d (ih (k:Int))=min k n:=by
 show(if (k:Int)<0 then ((k:Int)+(n:Int)).toNat else min (k:Int).toNat n)=min k n;rw[ak (by omega),iy]
theorem LU(n d:Nat)(b:d<=n)(o:ap Int):a9 n d o<=n:=by
 cases o with
 |none=>exact b
 |some v =>
  show(if v<0 then (v+(n:Int)).toNat else min v.toNat n)<=n
  by_cases a:v<0
  ·rw[aw a];omega
  ·rw[ak a];exact Nat.min_le_right _ _
theorem Bx(v:Int)(n d:Nat):(if v<0 then max (v+(n:Int)) 0 else min v (n:Int))=((a9 n d (ih v):Nat):Int):=by
 show(if v<0 then max (v+(n:Int)) 0 else min v (n:Int))=(((if v<0 then (v+(n:Int)).toNat else min v.toNat n):Nat):Int)
 by_cases a:v<0
 ·simp only[aw a];omega
 ·simp only[ak a];omega
theorem HM(lo hi:ap Int)(n:Nat):YH lo hi 1 (n:Int)=(((a9 n 0 lo:Nat):Int),((a9 n n hi:Nat):Int)):=by
 have U : ¬ ((1:Int)<0):=by omega
 unfold YH;simp only[U,ew];refine aap ?_ ?_
 ·cases lo with
  |none=>rfl
  |some v=>exact Bx v n 0
 ·cases hi with
  |none=>rfl
  |some v=>exact Bx v n n
theorem HN(i j:Nat):Ym (i:Int) (j:Int) 1=j - i:=by
 unfold Ym;have U:(1:Int)>0:=by omega
 simp only[U,eP,Int.ediv_one];split <;> omega
theorem wH{v:i'}{o:ap Int}{Q:ap Int->Gb->Prop}(p:Y6 v o)(h:Q o s):UB (UP prog w) A (abe v) Q E s:=by
 cases p with
 |none=>exact slicePart_none h
 |int i t=>exact slicePart_int h
theorem we{lo:ap Int}{Q:Int×Int×Nat->Gb->Prop}(hs:s.heap.IsSliceOf sl vl vu .none)(pl:Y6 vl lo)(c:Y6 vu hi)
  (h:Q (((a9 n 0 lo:Nat):Int),1,a9 n n hi - a9 n 0 lo) s):UB (UP prog w) A (Y2 (.ref sl) (pure (n:Int))) Q E s:=by
 obtain⟨os,a,d,b⟩:=id hs;unfold Y2 abf;refine ae (ae (k4 a b (x:=vl) rfl (ae (k4 a b (x:=vu) rfl (ae (k4 a b (x:=.none) rfl (aj ?_)))))));refine ae (slicePart_none ?_);show UB _ _ (if ((1:Int)==0)=true then _ else _) _ _ s;rw[ak (by decide)]
 refine ae (wH pl (ae (wH c (ae (aj ?_)))));show UB _ _ (match YH lo hi 1 (n:Int) with|(lo,hi)=>pure (lo,(1:Int),Ym lo hi 1)) _ _ s;rw[HM lo hi n];show UB _ _ (pure (((a9 n 0 lo:Nat):Int),(1:Int),Ym ((a9 n 0 lo:Nat):Int) ((a9 n n hi:Nat):Int) 1)) _ _ s;rw[HN];exact aj h
theorem Jl(xs:Array i')(i k:Nat):((UU k).filterMap λ(m:Nat)=>xs[((i:Int)+(m:Int) * 1).toNat]?).toArray=((xs.toList.drop i).take k).toArray:=by
 have e:(λ(m:Nat)=>xs[((i:Int)+(m:Int) * 1).toNat]?)=λm=>xs[i+m]?:=by
  funext m
  have:((i:Int)+(m:Int) * 1).toNat=i+m:=by omega
  rw[this]
 rw[e];have:=pick_run xs i k;rw[UN]at this;have a:((λx=>xs[x]?) ∘ λx=>i+x)=λm=>xs[i+m]?:=rfl;rw[a]at this;rw[this]
theorem Gx{t:FG}{lo:ap Int}{Q:i'->Gb->Prop}(b:Yg s.heap t Qb)(hs:s.heap.IsSliceOf sl vl vu .none)(pl:Y6 vl lo)(g:Y6 vu hi)
  (i : ¬ (a9 Qb.size 0 lo=0/\a9 Qb.size Qb.size hi=Qb.size))
  (h:Q (.ref s.heap.objs.size) { s with heap:=s.heap.push { cls:=.type "tuple",data:=.seq ((Qb.toList.drop (a9 Qb.size 0 lo)).take (a9 Qb.size Qb.size hi - a9 Qb.size 0 lo)).toArray } })
  (hsz:Qb.size<=UJ):UB (UP prog w) A (getItem (.ref t) (.ref sl)) Q E s:=by
 have a:sizeOk (.seq ((Qb.toList.drop (a9 Qb.size 0 lo)).take (a9 Qb.size Qb.size hi - a9 Qb.size 0 lo)).toArray):=by
  show((Qb.toList.drop (a9 Qb.size 0 lo)).take (a9 Qb.size Qb.size hi - a9 Qb.size 0 lo)).toArray.size<=UJ;rw[bM,b8,vj,cb];omega
 have k:a9 Qb.size Qb.size hi<=Qb.size:=LU _ _ (aG _) hi;obtain⟨os,c,d,j⟩:=id hs;have e:s.TypeIs (.ref sl) "slice" :=⟨os,c,d⟩;unfold getItem
 try with_reducible refine de ?_
 first|refine ae (aj ?_)|skip
 refine ae (wpAny_sequenceKey b.typeIs (by decide) ?_)
 refine ae (rj (name:=Yk "__getitem__") b.typeIs oD
  (gV oD b.typeIs entry_tuple_getitem ?_ (args_tuple_getitem _ _)))
 show UB _ _ (Y1 (.ref t) >>= _) _ _ s;refine ae (tupleItemsOf_ b ?_);refine ae (iz e ?_);rw[aw (by decide)]
 refine ae (we hs pl g ?_);have f : ¬ ((((a9 Qb.size 0 lo:Nat):Int)==0&&(1:Int)==1&&(a9 Qb.size Qb.size hi - a9 Qb.size 0 lo)==Qb.size)=true):=by
  intro q;rw[gW,gW]at q;have l:((a9 Qb.size 0 lo:Nat):Int)=0:=eq_of_beq q.1.1;have n:a9 Qb.size Qb.size hi - a9 Qb.size 0 lo=Qb.size:=eq_of_beq q.2;exact i ⟨by omega,by omega⟩
 show UB _ _ (if (((a9 Qb.size 0 lo:Nat):Int)==0&&(1:Int)==1&&(a9 Qb.size Qb.size hi - a9 Qb.size 0 lo)==Qb.size)=true then _ else _) _ _ s;rw[ak f,Jl]
 first
  |exact ae (m:=Yo _) (e6 (aj ⟨_,rfl,aj h⟩) a)
  |exact ae (m:=Yo _) (e6 (ae (aj (aj ⟨_,rfl,aj h⟩))) a)
  |exact ae (ae (m:=Yo _) (e6 (aj (aj ⟨_,rfl,aj h⟩)) a))
  |exact ae (ae (m:=Yo _) (e6 (aj ⟨_,rfl,aj h⟩) a))
end HT
namespace L2
open Spec PyProof.Rows
abbrev TO:=St->Hp->(Option Int->Hp->Prop)->Prop
def PO(X:Cx)(e:Option Vo)(t:TO):Prop:=
 ∀J s σ H (Q:Option Int->Hp->Prop),Inv X J σ H s->t σ H Q ->
  wA X (evalPart e X.env) (λu s'=>∃o Y,Inv X J σ Y s'/\Y6 u o/\Q o Y) X.xe s
def Ko:TO:=λ_ H Q=>Q none H
def Nd(t:TE):TO:=λσ H Q=>t σ H λx H1=>∃i,x=.int i/\Q (ih i) H1
section
variable{lo hi:ap Vo}{tl th:TO}{p2:ZV}
theorem lG:PO X none Ko:=by
 intro J s σ H Q I h;rw[evalPart_none];exact aj ⟨none,H,I,.none,h⟩
theorem lH(h:PE X e te):PO X (ih e) (Nd te):=by
 intro J s σ H Q I a;rw[evalPart_some];refine aI (h J s σ H _ I a) λu s1 f=>?_;obtain⟨x,H1,b,c,d⟩:=f;obtain⟨i,rfl,q⟩:=d;obtain⟨t,rfl⟩:=c;exact⟨ih i,H1,b,.int i t,q⟩
def mr(X:Cx)(r:V->Option Int->Option Int->Hp->VK->Prop):Prop:=
 ∀J s σ H (x:V) (v vl vu:i') (lo hi:Option Int) (sl:FG) (Q:VK),Inv X J σ H s->RelV x v->s.heap.IsSliceOf sl vl vu .none->Y6 vl lo->Y6 vu hi->r x lo hi H Q ->
  ∃T id,typeLookup (.type T) "__getitem__" = pure (ih (.builtin id))/\s.TypeIs v T/\wA X (getItem v (.ref sl)) (EP X J σ Q) X.xe s
def PV(r:V->Option Int->Option Int->Hp->VK->Prop)(te:TE)(tl th:TO):TE:=λσ H Q=>te σ H λx H1=>tl σ H1 λl H2=>th σ H2 λu H3=>r x l u H3 Q
theorem lx{r:V->Option Int->Option Int->Hp->VK->Prop}(d:mr X r)(f:PE X e te)(g:PO X lo tl)(i:PO X hi th):PE X (.Subscript e (.Slice lo hi none p2) pos) (PV r te tl th):=by
 intro J s σ H Q I h;refine aaD (aI (f J s σ H _ I h) λv s1 D=>?_);obtain⟨x,H1,j,k,m⟩:=D;refine wpAny_Slice (aI (g J s1 σ H1 _ j m) λvl s2 ⟨l,H2,n,pl,o⟩=>aI (i J s2 σ H2 _ n o) λvu a D=>?_);obtain⟨u,c,p,t,w⟩:=D;rw[evalPart_none];refine aj ?_;have y:Inv X J σ c { a with heap:=a.heap.push { cls:=.type "slice",data:=.fields #[vl,vu,.none] } }:=p.kept (t':=a.toks) λb C q=>aV _ q;obtain⟨T,id,z,A,B⟩:=d J { a with heap:=a.heap.push { cls:=.type "slice",data:=.fields #[vl,vu,.none] } } σ c x v vl vu l u a.ax Q y k (aaY ..) pl t w;show wA X (subscriptTail e (.Slice lo hi none p2) v (.ref a.ax)) (EP X J σ Q) X.xe { a with heap:=a.heap.push { cls:=.type "slice",data:=.fields #[vl,vu,.none] } };exact tail_any (ops:=[.ref a.ax,v]) A z B (by with_unfolding_all rfl)
def fl(xs:List V)(lo hi:Option Int):List V:=(xs.drop (HT.a9 xs.length 0 lo)).take (HT.a9 xs.length xs.length hi - HT.a9 xs.length 0 lo)
theorem wB(xs:am V)(lo hi:ap Int):(fl xs lo hi).length<=xs.length:=by
 unfold fl;rw[b8,vj];omega
def OP(K:U0):V->Option Int->Option Int->Hp->VK->Prop:=λx lo hi H Q=>∃a xs,x=.ref a/\aE K H a xs /\
 ¬ (HT.a9 xs.length 0 lo=0/\HT.a9 xs.length xs.length hi=xs.length) /\∀p,H p=none->Q (.ref p) (upd H p (.tup (fl xs lo hi)))
theorem LV:mr X (OP X.K):=by
 rintro J s σ H x v vl vu lo hi sl Q I f hs pl g ⟨a,xs,rfl,i,j,q⟩;cases f
 obtain⟨its,r,d,e⟩:=I.tuple i;have c:its.toArray.size=xs.length:=by rw[bM];exact r.length.symm
 refine⟨"tuple",_,oD.lookup,d.typeIs,?_⟩;refine HT.Gx d hs pl g (by rw[c];exact j) ?_ (by rw[c];exact e)
 rw[c];refine⟨.ref s.ax,_,I.laid (t':=s.toks) (o:=.tup (fl xs lo hi)) (λb k q=>aV _ q) (aG _) ?_,rfl,q _ (I.aD.fresh (aG _))⟩;exact⟨e5 (wB xs lo hi) e,_,(r.drop (HT.a9 xs.length 0 lo)).take (HT.a9 xs.length xs.length hi - HT.a9 xs.length 0 lo),iW.new _ _⟩
def Nf(K:U0):R2:=λx y H Q=>∃a b xs ys,x=.ref a/\y=.ref b/\aE K H a xs/\aE K H b ys/\xs ≠ []/\xs.length+ys.length<=UJ /\
 (ys=[]->Q (.ref a) H)/\(ys ≠ [] ->∀p,H p=none->Q (.ref p) (upd H p (.tup (xs++ys))))
theorem Vals.sS(r:Vals xs us):us=[] ↔ xs=[]:=by
 cases r with
 |nil=>simp
 |cons _ _=>simp
theorem Kq:bW X (Yi .Add) (Nf X.K):=by
 rintro J s σ H x y v u Q I f g ⟨a,b,xs,ys,rfl,rfl,i,j,k,e,l,m⟩;cases f
 cases g
 obtain⟨its,d,n,_⟩:=I.tuple i;obtain⟨p,c,p2,_⟩:=I.tuple j;refine HT.Km n p2 (λz=>k (d.sS.mp z)) (λz=>⟨.ref a,H,I,rfl,l (c.sS.mp z)⟩) (λz=>?_) (by rw[<-d.length,<-c.length];exact e)
 refine⟨.ref s.ax,_,I.laid (t':=s.toks) (o:=.tup (xs++ys)) (λb r q=>aV _ q) (aG _) ?_,rfl,m (λw=>z (c.sS.mpr w)) _ (I.aD.fresh (aG _))⟩;exact⟨by rw[df];exact e,_,d.append c,iW.new _ _⟩
end
def kO(n:Nat)(i:Int):Option Nat:=if 0<=i then (if i<n then ih i.toNat else none) else if -(n:Int)<=i then ih (i+n).toNat else none
def cU{α:Type}(xs:List α)(i:Int):Option α:=(kO xs.length i).bind λj=>xs[j]?
theorem By{i:Int}(h:kO n i=ih j):seqIndex? i n=ih j/\j<n /\ -(n:Int)<=i/\i<n:=by
 unfold kO at h
 by_cases h0:0<=i
 ·rw[aw h0]at h
  by_cases U:i<n
  ·rw[aw U]at h
   have e:i.toNat=j:=cS h;exact⟨by rw[vm h0 U,e],by omega,by omega,U⟩
  ·rw[ak U]at h;cases h
 ·rw[ak h0]at h
  by_cases U : -(n:Int)<=i
  ·rw[aw U]at h
   have e:(i+n).toNat=j:=cS h;exact⟨by rw[seqIndex_neg (by omega) U,e],by omega,U,by omega⟩
  ·rw[ak U]at h;cases h
theorem sT{α:Type}{xs:am α}{i:Int}{v:α}(h:cU xs i=ih v):∃j,seqIndex? i xs.length=ih j/\xs[j]?=ih v/\j<xs.length /\ -(xs.length:Int)<=i/\i<xs.length:=by
 unfold cU at h;cases e:kO xs.length i with
 |none=>rw[e]at h;cases h
 |some j =>
  rw[e]at h;obtain⟨U,h2,a,b⟩:=By e;exact⟨j,U,h,h2,a,b⟩
theorem b2{α:Type}{xs:am α}{v:α}(h:xs[j]?=ih v):cU xs (j:Int)=ih v:=by
 have a:j<xs.length:=(bQ.mp h).1;have e:kO xs.length (j:Int)=ih j:=by
  unfold kO;rw[aw (by omega),aw (by omega)];simp
 unfold cU;rw[e];exact h
def Kr(b:Vo):Prop:= ∀o i,subscripted b false o i=operate [o,i] (getItem o i)
def mu(X:Cx)(r:R2):Prop:=
 ∀(value slice:Vo) J s σ H (x y:V) (v u:i') (Q:VK),Inv X J σ H s->RelV x v->RelV y u->r x y H Q ->
  subscripted slice false v u=operate [v,u] (getItem v u)->wA X (subscriptTail value slice v u) (EP X J σ Q) X.xe s
def uX(X:Cx)(id:String)(r:V->List V->Hp->VK->Prop):Prop:=
 ∀J s σ H (x:V) (xs:List V) (v:i') (us:List i') (Q:VK),Inv X J σ H s->RelV x v->Vals xs us->r x xs H Q ->
  wA X (call (.builtin id) (v::us)) (EP X J σ Q) X.xe s
section
variable{a b:Vo}{tb:TE}
theorem aW{r:R2}(c:mu X r)(d:PE X a ta)(e:PE X b tb)(hs:Kr b:=by exact λ_ _=>rfl):PE X (.Subscript a b pos) (qU r ta tb):=by
 intro J s σ H Q I h;exact aaD (uy d e I h λv u s2 x y H2 f g i q=>c a b J s2 σ H2 x y v u Q f g i q (hs _ _))
def qx(K:U0):R2:=λx y H Q=>∃p xs i v,x=.ref p/\y=.int i/\aq K H p xs/\cU xs i=ih v/\Q v H
def uD(K:U0):R2:=λx y H Q=>∃p xs i v,x=.ref p/\y=.int i/\aE K H p xs/\cU xs i=ih v/\Q v H
def OQ:R2:=λx y H Q=>∃z i c,x=.str z/\y=.int i/\z.length<=UJ/\cU z.cps.toList i=ih c/\Q (.str ⟨#[c]⟩) H
theorem c6:mu X (qx X.K):=by
 intro value o J s σ H x y v u Q I e f h hs;obtain⟨p,xs,i,z,rfl,rfl,g,k,q⟩:=h;cases e
 obtain⟨t,rfl⟩:=f;obtain⟨its,r,pl,A⟩:=I.list g;obtain⟨j,U,h2,B,l,m⟩:=sT k;obtain⟨w,c,d⟩:=r.get h2;have n:=r.length;have C:=kf;have b:EP X J σ Q w s:=⟨z,H,I,d,q⟩
 by_cases h0:0<=i
 ·have a:i.toNat=j:=by
   rw[vm h0 m]at U;exact cS U
  exact item_listR pl.isList h0 (by omega) (by rw[a];simpa using c) b hs
 ·have a:(i+(its.toArray.size:Int)).toNat=j:=by
   rw[seqIndex_neg (by omega) l]at U
   rw[bM,<-n];exact cS U
  exact subscriptTail_builtinR (x:=w) pl.isList.typeIs slot_list_getitem.lookup
   (wpAny_getItem_list_neg (Q:=λr s'=>r=w/\EP X J σ Q r s') pl.isList (by omega) (by rw[bM] <;> omega) (by omega) (by rw[a];simpa using c) ⟨rfl,b⟩) hs
theorem bR:mu X (uD X.K):=by
 intro value l J s σ H x y v u Q I c d h hs;obtain⟨p,xs,i,z,rfl,rfl,e,f,q⟩:=h;cases c
 obtain⟨t,rfl⟩:=d;obtain⟨its,r,pl,m⟩:=I.tuple e;obtain⟨j,U,h2,n,o,A⟩:=sT f;obtain⟨w,g,a⟩:=r.get h2;have k:=r.length;have B:=kf;have b:EP X J σ Q w s:=⟨z,H,I,a,q⟩;exact subscriptTail_builtinR (x:=w) pl.typeIs slot_tuple_getitem.lookup
  (getItem_tuple (j:=j) (Q:=λr s'=>r=w/\EP X J σ Q r s') pl (by omega) (by omega) (by rw[bM,<-k];exact U) (by simpa using g) ⟨rfl,b⟩) hs
theorem Cd:mu X OQ:=by
 intro value m J s σ H x y v u Q I a b h hs;obtain⟨z,i,c,rfl,rfl,n,d,q⟩:=h;obtain⟨t,rfl⟩:=a;obtain⟨t',rfl⟩:=b;obtain⟨j,U,h2,o,e,f⟩:=sT d;have g:z.cps.toList.length=z.length:=by simp[abL]
 rw[g]at U e f;have p:=kf;exact tail_any (typeIs_str s z t) slot_str_getitem.lookup (getItem_str (c:=c) (by
  have k:decide (i < -(2 ^ 63:Int))=false:=a' (by omega)
  have l:decide (i ≥ 2 ^ 63)=false:=a' (by omega)
  rw[k,l,vo]) (by rw[U];simpa using h2) ⟨.str ⟨#[c]⟩,H,I.tok _,⟨_,rfl⟩,q⟩) hs
theorem HP(its:am i')(n j:Nat)(u:i'):XT (·.setIfInBounds j u) { cls:=.type "list",data:=.seq its.toArray n }={ cls:=.type "list",data:=.seq (its.set j u).toArray n }:=by
 simp[XT]
theorem Inv.lst{J:am (FG×Ys)}{σ:St}{H:Hp}{s:Gb}{p:FG}{xs:am V}(I:Inv X J σ H s)(h:H p=bn xs) :
  ∃(its:am i') (n:Nat),Vals xs its/\s.heap.get? p=ih { cls:=.type "list",data:=.seq its.toArray n }/\xs.length<=UJ:=by
 obtain⟨z,its,n,r,e⟩:=I.aD p _ h;exact⟨its,n,r,e,z⟩
theorem Inv.LW{its':am i'}{a:Nat}{f:Ys->Ys}(I:Inv X J σ H s)(h:H p=bn xs)
  (d:s.heap.get? p=ih { cls:=.type "list",data:=.seq its.toArray n }) (c:f { cls:=.type "list",data:=.seq its.toArray n }={ cls:=.type "list",data:=.seq its'.toArray a }) (r:Vals ys its') (hz:ys.length<=UJ) (t:Nat) :
  Inv X J σ (upd H p (.lst ys)) { s with heap:=s.heap.update p f,toks:=t }:=by
 have e:(s.heap.update p f).get? p=ih { cls:=.type "list",data:=.seq its'.toArray a }:=by
  rw[mH f d (by rw[c] <;> rfl),c]
 refine I.write (x:=p) (e:=p) (by rw[h];trivial) (.inl rfl) (λb u g q=>(k6 _ _ (a7 g)).trans q) ⟨_,e⟩ ?_
 exact⟨hz,its',a,r,e⟩
def Ng:V->V->V->Hp->(Hp->Prop)->Prop:=λo i v H Q=>∃p xs k j,o=.ref p/\i=.int k/\H p=ih (.lst xs)/\kO xs.length k=ih j/\Q (upd H p (.lst (xs.set j v)))
theorem set_list:Dq X Ng:=by
 rintro J s σ H o i v z A u Q I l m w ⟨p,xs,k,j,rfl,rfl,d,x,q⟩;cases l
 obtain⟨t,rfl⟩:=m;obtain⟨its,n,r,a,y⟩:=I.lst d;obtain⟨U,h2,e,f⟩:=By x;have b:=r.length;have B:=kf;have g:Inv X J σ (upd H p (.lst (xs.set j v))) { s with heap:=s.heap.update p (XT (·.setIfInBounds j u)) }:=
  I.LW d a (HP its n j u) (r.set w j) (by rw[aah];exact y) s.toks
 by_cases h0:0<=k
 ·have c:k.toNat=j:=by
   rw[vm h0 f]at U;exact cS U
  exact PySem.W.ki_setAt a h0 (by omega) (by rw[bM,<-b];exact f) (by rw[c];exact⟨_,g,q⟩)
 ·have c:(k+(its.toArray.size:Int)).toNat=j:=by
   rw[seqIndex_neg (by omega) e]at U
   rw[bM,<-b];exact cS U
  exact PySem.W.ki_setBack a (by omega) (by rw[bM,<-b];exact e) (by omega) (by rw[c];exact⟨_,g,q⟩)
theorem G0(lo hi:ap Int)(n:Nat):(sliceBounds lo hi none n).1=((HT.a9 n 0 lo:Nat):Int)/\(sliceBounds lo hi none n).2.1=((HT.a9 n n hi:Nat):Int)/\(sliceBounds lo hi none n).2.2=1:=by
 refine⟨?_,?_,rfl⟩
 ·cases lo with
  |none=>simp[sliceBounds,HT.a9]
  |some i =>
   simp only[sliceBounds,HT.a9,ZY,show(1:Int)>0 by decide,eP]
   by_cases h:i<0
   ·simp only[h,eP] <;> omega
   ·simp only[h,ew] <;> omega
 ·cases hi with
  |none=>simp[sliceBounds,HT.a9]
  |some i =>
   simp only[sliceBounds,HT.a9,ZY,show(1:Int)>0 by decide,eP]
   by_cases h:i<0
   ·simp only[h,eP] <;> omega
   ·simp only[h,ew] <;> omega
theorem GR(its:am i')(lo hi:ap Int):slicePick its.toArray lo hi none=((its.drop (HT.a9 its.length 0 lo)).take (HT.a9 its.length its.length hi - HT.a9 its.length 0 lo)).toArray:=by
 obtain⟨U,h2,a⟩:=G0 lo hi its.toArray.size;unfold slicePick;rw[U,h2,a];simp only[sliceRange_one,pick_run,bM] <;> rfl
def DA(K:U0):V->Option Int->Option Int->Hp->VK->Prop:=λx lo hi H Q=>∃a xs,x=.ref a/\aq K H a xs /\∀p,H p=none->Q (.ref p) (upd H p (.lst (fl xs lo hi)))
theorem pk:mr X (DA X.K):=by
 rintro J s σ H x v vl vu lo hi sl Q I e hs pl f ⟨a,xs,rfl,g,q⟩;cases e
 obtain⟨its,r,c,i⟩:=I.list g;have d:=r.length;refine⟨"list",_,slot_list_getitem.lookup,c.isList.typeIs,?_⟩;refine wpAny_getItem_list_slice c.isList hs pl f .none (by simp) ?_ (by rw[bM] <;> omega)
 rw[GR,<-d];refine⟨.ref s.heap.objs.size,_,I.laid (t':=s.toks) (o:=.lst (fl xs lo hi)) (λb j q=>aV _ q) (aG _) ?_,rfl,q _ (I.aD.fresh (aG _))⟩;exact⟨e5 (wB xs lo hi) i,_,0,(r.drop (HT.a9 xs.length 0 lo)).take (HT.a9 xs.length xs.length hi - HT.a9 xs.length 0 lo),bG _ rfl⟩
def iS:V->Bool
 |.aN=>true
 |.bl _=>true
 |.int _=>true
 |.str _=>true
 |_=>false
def jL:V->V->Bool
 |.aN,.aN=>true
 |.bl a,.bl b=>a==b
 |.bl a,.int b=>(if a then 1 else 0)==b
 |.int a,.bl b=>a==(if b then 1 else 0)
 |.int a,.int b=>a==b
 |.str a,.str b=>a==b
 |_,_=>false
theorem LX{x:V}{v:i'}(d:RelV y u)(c:RelV x v)(f:iS y=true)(e:iS x=true):aaZ A s u v (jL y x):=by
 cases y with
 |aN =>
  cases d
  cases x with
  |aN=>cases c;exact abT _
  |bl b=>cases c;exact abW b
  |int b=>obtain⟨t,rfl⟩:=c;exact abV b t
  |str b=>obtain⟨t,rfl⟩:=c;exact abU b t
  |_=>exact absurd (show false=true from e) bX
 |bl a =>
  cases d
  cases x with
  |aN=>cases c;exact ab1 a
  |bl b=>cases c;exact ab3 a b
  |int b=>obtain⟨t,rfl⟩:=c;exact ab2 a b t
  |str b=>obtain⟨t,rfl⟩:=c;exact ab0 a b t
  |_=>exact absurd (show false=true from e) bX
 |int a =>
  obtain⟨t',rfl⟩:=d;cases x with
  |aN=>cases c;exact abX a t'
  |bl b=>cases c;exact abZ a t' b
  |int b=>obtain⟨t,rfl⟩:=c;exact abY a t' b t
  |str b=>obtain⟨t,rfl⟩:=c;exact Zy a t' b t
  |_=>exact absurd (show false=true from e) bX
 |str a =>
  obtain⟨t',rfl⟩:=d;cases x with
  |aN=>cases c;exact abR a t'
  |bl b=>cases c;exact abS a t' b
  |int b=>obtain⟨t,rfl⟩:=c;exact Zx a t' b t
  |str b=>obtain⟨t,rfl⟩:=c;exact abQ a t' b t
  |_=>exact absurd (show false=true from e) bX
 |_=>exact absurd (show false=true from f) bX
def fM(x:V)(u:i'):Bool:=match u with
 |.none=>jL .aN x
 |.bool b=>jL (.bl b) x
 |.int i _=>jL (.int i) x
 |.str z _=>jL (.str z) x
 |_=>false
theorem Ce{x:V}(r:RelV y u)(f:iS y=true):fM x u=jL y x:=by
 cases y with
 |aN=>cases r;rfl
 |bl b=>cases r;rfl
 |int i=>obtain⟨t,rfl⟩:=r;rfl
 |str z=>obtain⟨t,rfl⟩:=r;rfl
 |_=>exact absurd (show false=true from f) bX
theorem nr{x:V}:∀{xs:am V}{us:am i'},Vals xs us->xs.all iS=true->us.any (fM x)=xs.any λy=>jL y x
 |_,_,.nil,_=>rfl
 |y::xs,u::us,.cons r t,f=>by
  rw[aaH,gW]at f;rw[k7,k7,Ce r f.1,nr t f.2]
theorem m8{A:Yc}{s:Gb}{x:V}{v:i'}(a:RelV x v)(b:iS x=true):∀{xs:am V}{us:am i'},Vals xs us->xs.all iS=true ->∀u∈us,aaZ A s u v (fM x u)
 |_,_,.nil,_=>λu hu=>by cases hu
 |y::xs,u::us,.cons r t,f=>λc hu=>by
  rw[aaH,gW]at f;rcases bu.mp hu with rfl|hu
  ·rw[Ce r f.1];exact LX r a f.1 b
  ·exact m8 a b t f.2 c hu
def mv(x:V)(xs:List V):Bool:=xs.any λy=>jL y x
def qV(K:U0)(PX:Bool):R2:=λx y H Q=>∃p xs,y=.ref p/\(aq K H p xs\/aE K H p xs)/\iS x=true/\xs.all iS=true/\Q (.bl (if PX then !mv x xs else mv x xs)) H
theorem mW:bW X (XR .In) (qV X.K false):=by
 rintro J s σ H x y v u Q I b d ⟨p,xs,rfl,hq,c,fs,q⟩;cases d
 rcases hq with hq|hq
 ·obtain⟨its,r,pl,e⟩:=I.list hq
  refine SeqAt.in_listAt (fM x) pl.isList (λw a=>m8 b c r fs w (by simpa using a)) ⟨.bl _,H,I,rfl,?_⟩
  rw[show its.toArray.any (fM x)=its.any (fM x) by simp,nr r fs]
  exact q
 ·obtain⟨its,r,pl,e⟩:=I.tuple hq
  refine SeqAt.in_tupleAt (fM x) pl (λw a=>m8 b c r fs w (by simpa using a)) ⟨.bl _,H,I,rfl,?_⟩
  rw[show its.toArray.any (fM x)=its.any (fM x) by simp,nr r fs]
  exact q
theorem wq:bW X (XR .NotIn) (qV X.K true):=by
 rintro J s σ H x y v u Q I b d ⟨p,xs,rfl,hq,c,fs,q⟩;cases d
 rcases hq with hq|hq
 ·obtain⟨its,r,pl,e⟩:=I.list hq
  refine SeqAt.notIn_listAt (fM x) pl.isList (λw a=>m8 b c r fs w (by simpa using a)) ⟨.bl _,H,I,rfl,?_⟩
  rw[show its.toArray.any (fM x)=its.any (fM x) by simp,nr r fs]
  exact q
 ·obtain⟨its,r,pl,e⟩:=I.tuple hq
  refine SeqAt.notIn_tupleAt (fM x) pl (λw a=>m8 b c r fs w (by simpa using a)) ⟨.bl _,H,I,rfl,?_⟩
  rw[show its.toArray.any (fM x)=its.any (fM x) by simp,nr r fs]
  exact q
theorem cT:bY X (.builtin "len") (λxs H Q=>∃p ys,xs=[.ref p]/\(aq X.K H p ys\/aE X.K H p ys)/\Q (.int ys.length) H):=by
 rintro J s σ H xs us Q I r ⟨p,ys,rfl,hq,q⟩;obtain⟨u,rfl,c⟩:=vals1 r;cases c
 have e:=kf;rcases hq with hq|hq
 ·obtain⟨its,b,pl,d⟩:=I.list hq
  have a:=b.length;exact Calls.call_len_list pl.isList (by simp only[bM] <;> omega) ⟨.int ys.length,H,I.tok _,⟨s.toks+1,by rw[bM,a]⟩,q⟩
 ·obtain⟨its,b,pl,d⟩:=I.tuple hq
  have a:=b.length;exact len_tuple pl (by simp only[bM] <;> omega) ⟨.int ys.length,H,I.tok _,⟨s.toks+1,by rw[bM,a]⟩,q⟩
theorem G2:bY X (.builtin "len") (λxs H Q=>∃z,xs=[.str z]/\z.length<=UJ/\Q (.int z.length) H):=by
 rintro J s σ H xs us Q I r ⟨z,rfl,a,q⟩;obtain⟨u,rfl,t,rfl⟩:=vals1 r;have b:=kf;exact len_str (by omega) ⟨.int z.length,H,I.tok _,⟨_,rfl⟩,q⟩
theorem bY.or{f:i'}{r a:am V->Hp->VK->Prop}(h:bY X f r)(h':bY X f a):bY X f (λxs H Q=>r xs H Q\/a xs H Q):=by
 intro J s σ H xs us Q I b q;rcases q with q|q
 ·exact h J s σ H xs us Q I b q
 ·exact h' J s σ H xs us Q I b q
theorem mM:bY X (.type "list") (λxs H Q=>∃p ys,xs=[.ref p]/\(aq X.K H p ys\/aE X.K H p ys) /\∀l,H l=none->Q (.ref l) (upd H l (.lst ys))):=by
 rintro J s σ H xs us Q I r ⟨p,ys,rfl,hq,q⟩;obtain⟨u,rfl,t⟩:=vals1 r;cases t
 have k:∀(its:am i'),Vals ys its->ys.length<=UJ ->∀(h':XY) (a:Nat),(∀b o',s.heap.get? b=ih o'->h'.get? b=ih o') ->
   h'.get? s.heap.objs.size=ih { cls:=.type "list",dict:=none,data:=.seq its.toArray a,slots:= #[] }->EP X J σ Q (.ref s.heap.objs.size) { s with heap:=h' }:=λits c d h' a f e =>
  ⟨.ref s.heap.objs.size,_,I.laid (t':=s.toks) f (aG _) (show bc X.prog X.w _ h' _ (.lst ys) from⟨d,its,a,c,e⟩),rfl,q _ (I.aD.fresh (aG _))⟩
 rcases hq with hq|hq
 ·obtain⟨its,c,pl,d⟩:=I.list hq
  have m:=c.length;obtain⟨o,g,i,n,j⟩:=pl.isList;exact call_list_seq p (.inl rfl) g i j (λh' a f e=>k its c d h' a f e) (by simp only[bM] <;> omega)
 ·obtain⟨its,c,pl,d⟩:=I.tuple hq
  have m:=c.length;obtain⟨o,g,i,n,j⟩:=pl;exact call_list_seq p (.inr rfl) g i j (λh' a f e=>k its c d h' a f e) (by simp only[bM] <;> omega)
theorem iH:bY X (.type "tuple") (λxs H Q=>∃p ys,xs=[.ref p]/\((aq X.K H p ys /\∀l,H l=none->Q (.ref l) (upd H l (.tup ys)))\/(aE X.K H p ys/\Q (.ref p) H))):=by
 rintro J s σ H xs us Q I r ⟨p,ys,rfl,h⟩;obtain⟨u,rfl,g⟩:=vals1 r;cases g
 rcases h with⟨a,q⟩|⟨a,q⟩
 ·obtain⟨its,c,pl,d⟩:=I.list a
  have k:=c.length;refine call_tuple_list pl.isList (λh' i=>?_) (by simp only[bM] <;> omega)
  have f:Inv X J σ H { s with heap:=h' }:=I.kept (t':=s.toks) i;have j:Inv X J σ (upd H h'.objs.size (.tup ys)) { s with heap:=h'.push { cls:=.type "tuple",data:=.seq its.toArray } }:=
   f.laid (t':=s.toks) (λb o e=>aV _ e) (aG _) (show bc X.prog X.w _ _ _ (.tup ys) from⟨d,its,c,iW.new _ _⟩)
  exact⟨.ref h'.objs.size,_,j,rfl,q _ (f.aD.fresh (aG _))⟩
 ·obtain⟨its,c,pl,d⟩:=I.tuple a
  exact call_tuple_same pl ⟨.ref p,H,I,rfl,q⟩
def EF(K:U0)(T:String)(x:V)(H:Hp):Prop:=match x with
 |.str _=>T = "str"
 |.int _=>T = "int"
 |.ref p=>(T = "list" /\∃xs,aq K H p xs)\/(T = "tuple" /\∃o,K.lookup p=ih o/\o.cls=.type "tuple" /\ o.dict=none) \/
   (T = "dict" /\ ((∃kvs,H p=ih (.dK kvs)) \/∃kvs,H p=ih (.dT kvs)))\/(T = "set" /\∃S n,H p=ih (.set S n))\/(T = "tuple" /\∃xs,Rd H p (.tup xs))
 |_=>False
theorem LY{x:V}{v:i'}(I:Inv X J σ H s)(r:RelV x v)(ty:EF X.K T x H) :
  s.TypeIs v T /\∀a,v=.ref a ->∃ob,s.heap.get? a=ih ob/\ob.dict=none:=by
 cases x with
 |str z =>
  obtain⟨t,rfl⟩:=r;cases (show T = "str" from ty)
  exact⟨typeIs_str s z t,λ_ e=>nomatch e⟩
 |int i =>
  obtain⟨t,rfl⟩:=r;cases (show T = "int" from ty)
  exact⟨typeIs_int s i t,λ_ e=>nomatch e⟩
 |ref p =>
  cases r
  rcases ty with⟨rfl,xs,g⟩|⟨rfl,o,b,h,d⟩|⟨rfl,b⟩|⟨rfl,S,n,b⟩|⟨rfl,xs,g⟩
  ·obtain⟨its,_,pl,_⟩:=I.list g
   refine⟨pl.isList.typeIs,λa e=>?_⟩;cases e
   obtain⟨o,n,e,c,d,_⟩:=pl;exact⟨o,e,d⟩
  ·refine⟨⟨o,I.cm p o b,h⟩,λa e=>?_⟩
   cases e
   exact⟨o,I.cm _ o b,d⟩
  ·have z:∃o,s.heap.get? p=ih o/\o.ExactDict:=by
    rcases b with⟨kvs,b⟩|⟨kvs,b⟩
    ·obtain⟨_,_,_,_,o,_,_,e,ex,_⟩:=I.aD p _ b
     exact⟨o,e,ex⟩
    ·obtain⟨_,_,_,_,o,_,_,e,ex,_⟩:=I.aD p _ b
     exact⟨o,e,ex⟩
   obtain⟨o,e,ex⟩:=z;refine⟨⟨o,e,ex.1⟩,λa f=>?_⟩;cases f
   exact⟨o,e,ex.2.1⟩
  ·obtain⟨o,_,_,_,e,ex,_⟩:=I.aD p _ b
   refine⟨⟨o,e,ex.1⟩,λa f=>?_⟩;cases f
   exact⟨o,e,ex.2.1⟩
  ·obtain⟨_,_,_,o,e,c,_,_,d⟩:=g.ok I.aD
   refine⟨⟨o,e,c⟩,λa f=>?_⟩;cases f
   exact⟨o,e,d⟩
 |_=>exact Vs ty
def PY(K:U0)(T:String)(r:V->List V->Hp->VK->Prop)(to:TE)(t:TA):TE:=λσ H Q=>to σ H λx H1=>EF K T x H1/\t σ H1 λxs H2=>r x xs H2 Q
variable{o:Vo}{to:TE}{t:TA}{id:String}{r:V->List V->Hp->VK->Prop}
theorem fz(k:PlainAttrs T)(g:Slot T name id)(j:typeOf (.builtin id)=pure (.type "method_descriptor"))(l:uX X id r)(m:PE X o to)(n:PA X (e::es) t)
  (d:attributeBase o name X.env (eval o X.env)=eval o X.env:=by rfl)
  (i:((backTo Qh (U6 (e::es) X.env)).all (λx=>!x.1)&&(backToKw Qh (keywordEach [] X.env)).all (λx=>x.1.isSome)
   && decide ((e::es).length+([]:am Keyword).length+(if ([]:am Keyword).isEmpty then 0 else 1)<30))=true:=by rfl)
  (f:(Ql.endLine==Qh.line)=true:=by rfl) (hs:U6 (e::es) X.env=(false,eval e X.env)::U6 es X.env:=by rfl) (c:(backTo Qh (U6 es X.env)).any (·.1)=false:=by rfl) :
  PE X (.Call (.Attribute o name Ql) (e::es) [] Qh) (PY X.K T r to t):=by
 intro J s σ H Q I h;refine wpAny_Call_method_late d i f rfl (aI (m J s σ H _ I h) λv s1 y=>?_);obtain⟨x,H1,a,b,ty,p⟩:=y;obtain⟨U,h2⟩:=LY a b ty;refine⟨T,id,k,g,j,U,h2,?_⟩;have hA:=n Qh J s1 σ H1 _ a p;rw[hs]at hA⊢;refine Calls.callWith_builtin (by show(false||(backTo Qh (U6 es X.env)).any (·.1))=false;rw[c] <;> rfl) (Calls.evalArgs_plain ?_)
 exact aI hA λus s2 ⟨vs,H2,q,u,w⟩=>l J s2 σ H2 x vs v us Q q b u w
end
def EG(X:Cx)(id:String)(r:V->List V->Hp->VK->Prop):Prop:=
 ∀J s σ H (x:V) (xs:List V) (v:i') (us:List i') (Q:VK),Inv X J σ H s->RelV x v->Vals xs us->r x xs H Q ->
  wA X (call (.builtin id) (v::us)) (EP X J σ Q) X.xe s
theorem Vals.one:∀{x:V}{us:am i'},Vals [x] us ->∃u,us=[u]/\RelV x u:=by
 intro _ _ h;cases h with|cons r h=>cases h;exact⟨_,rfl,r⟩
theorem Vals.two:∀{x y:V}{us:am i'},Vals [x,y] us ->∃u v,us=[u,v]/\RelV x u/\RelV y v:=by
 intro _ _ _ h;cases h with|cons r h=>cases h with|cons q h=>cases h;exact⟨_,_,rfl,r,q⟩
theorem Vals.eraseIdx:∀{xs:am V}{us:am i'} (i:Nat),Vals xs us->Vals (xs.eraseIdx i) (us.eraseIdx i)
 |_,_,_,.nil=>.nil
 |_,_,0,.cons _ t=>t
 |_,_,i+1,.cons r t=>.cons r (Vals.eraseIdx i t)
theorem zZ{α:Type}:∀(l:am α) (i:Nat),(l.eraseIdx i).length<=l.length
 |[],_=>aG _
 |_::_,0=>jY _
 |_::r,i+1=>Nat.succ_le_succ (zZ r i)
section
variable{zs:am V}
theorem Inv.DB{its':am i'}{f:Array i'->Array i'}(I:Inv X J σ H s)(a:H l=bn xs)
  (e:s.heap.get? l=ih { cls:=.type "list",data:=.seq its.toArray n }) (b:f its.toArray=its'.toArray) (c:Vals ys its') (hz:ys.length<=UJ) :
  Inv X J σ (upd H l (.lst ys)) { s with heap:=s.heap.update l (XT f),toks:=t' }:=by
 have q:=ab7 e f;rw[b]at q;refine I.write (x:=l) (e:=l) (by rw[a];exact trivial) (.inl rfl) (λh u d g=>(k6 s.heap (XT f) (a7 d)).trans g) ⟨_,q⟩ ?_
 exact⟨hz,its',_,c,q⟩
theorem Inv.DC(I:Inv X J σ H s)(a:Vals ys its)(hz:ys.length<=UJ) :
  Inv X J σ (upd H s.ax (.lst ys)) { s with heap:=s.heap.push { cls:=.type "list",data:=.seq its.toArray },toks:=t' }:=
 I.laid (λ_ _ q=>aV _ q) (aG _) ⟨hz,its,0,a,bG _ rfl⟩
theorem Inv.fresh(I:Inv X J σ H s):H s.ax=none:=I.aD.fresh (aG _)
theorem Inv.qy(I:Inv X J σ H s)(a:H l=bn xs):xs.length<=UJ /\∃(its:am i') (n:Nat),Vals xs its/\xs.length=its.length/\s.heap.get? l=ih { cls:=.type "list",data:=.seq its.toArray n }:=by
 obtain⟨z,its,n,r,e⟩:=I.aD l _ a;exact⟨z,its,n,r,r.length,e⟩
end
def Ks:V->List V->Hp->VK->Prop:=λx vs H Q=>∃l xs y,x=.ref l/\vs=[y]/\H l=ih (.lst xs)/\xs.length<UJ/\Q .aN (upd H l (.lst (xs++[y])))
theorem gr:EG X "list.append" Ks:=by
 rintro J s σ H x vs v us Q I b c ⟨l,xs,y,rfl,rfl,a,f,q⟩;cases b
 obtain⟨u,rfl,d⟩:=c.one;obtain⟨z,its,n,r,g,e⟩:=I.qy a;refine call_meets F.slot_list_append ⟨_,e,rfl⟩ F.entry_list_append (F.args_list_append_2 _ _) (PySem.list_append l its.toArray n u (by rw[bM];omega)) ⟨e,?_⟩
 refine⟨.aN,_,I.DB (its':=its++[u]) a e (by simp) (r.append (.cons d .nil)) ?_,rfl,q⟩
 rw[df,jd];omega
def LZ:V->List V->Hp->VK->Prop:=λx vs H Q=>∃l xs i k y,x=.ref l/\vs=[.int i]/\H l=ih (.lst xs) /\ -(2 ^ 63)<=i/\i<2 ^ 63/\seqIndex? i xs.length=ih k/\xs[k]?=ih y/\Q y (upd H l (.lst (xs.eraseIdx k)))
theorem Jm:EG X "list.pop" LZ:=by
 rintro J s σ H x vs v us Q I c d ⟨l,xs,i,k,y,rfl,rfl,a,U,h2,f,g,q⟩;cases c
 obtain⟨u,rfl,j⟩:=d.one;obtain⟨t,rfl⟩:=j;obtain⟨z,its,n,r,m,e⟩:=I.qy a;obtain⟨w,o,b⟩:=r.get g;refine call_meets F.slot_list_pop ⟨_,e,rfl⟩ F.entry_list_pop (F.args_list_pop_2 _ _)
  (MeetsSeq.list_pop_at l its.toArray n i t k w (fitsIndex_both U h2) (by rw[bM,<-m];exact f) (by rw[<-iA];exact o) (by rw[bM];omega)) ⟨e,?_⟩
 refine⟨y,_,I.DB (its':=its.eraseIdx k) a e ?_ (r.eraseIdx k) ?_,b,q⟩
 ·show its.toArray.eraseIdxIfInBounds k=(its.eraseIdx k).toArray
  rw[List.eraseIdxIfInBounds_toArray]
 ·have:=zZ xs k
  omega
def OR:R2:=λx y H Q=>∃l b xs zs,x=.ref l/\y=.ref b/\H l=ih (.lst xs)/\H b=ih (.lst zs)/\xs.length+zs.length<=UJ /\∀p,H p=none->Q (.ref p) (upd H p (.lst (xs++zs)))
theorem kg:bW X (Yi .Add) OR:=by
 rintro J s σ H x y v u Q I c d ⟨l,b,xs,zs,rfl,rfl,f,g,o,q⟩;cases c
 cases d
 obtain⟨z,its,n,r,p,e⟩:=I.qy f;obtain⟨t,a,w,i,m,j⟩:=I.qy g;refine PySem.P.add_list e j ?_ (by rw[bM,bM];omega)
 have k:its.toArray++a.toArray=(its++a).toArray:=by simp
 rw[k];exact⟨.ref _,_,I.DC (t':=s.toks) (r.append i) (by rw[df];omega),rfl,q _ I.fresh⟩
section
set_option maxRecDepth 100000 in
end
end L2
namespace EH
open W Calls PyProof.Rows
theorem Gz{P:Params}:∀(ns:am Int) (vs:am i'),WellAll P h vs (ns.map abh)->Z2 vs ns:=by
 intro ns
 induction ns with
 |nil =>
  intro vs w;rw[vp]at w;cases w
  exact .nil
 |cons n ns c =>
  intro vs w;rw[bD]at w;cases w with
  |cons a b =>
   cases a
   exact .cons _ _ (c _ b)
theorem IB{l:Z1}(m:l.most=ih n){P:Params}{args:am WData}{e:am i'}
  (f:l.row.toRowW.claim.pre args=true) (k:WellAll P h e args) :
  ∃a vs ns,e=[U3 a]/\args=[WData.list (ns.map abh)]/\h.get? a=ih { cls:=.type "list",data:=.seq vs.toArray }/\Z2 vs ns/\ns.length<=n:=by
 have bI:WShape.hasAll [] args [.list .int]=true:=(pre_splitW f).1;have g:l.pre.holds [] { args:=args }=true:=(pre_splitW f).2;obtain⟨d,r,rfl,U,h2⟩:=hasAllW_cons bI;obtain rfl:=hasAllW_nil h2;obtain⟨xs,rfl,o⟩:=hasW_list U;obtain⟨ns,rfl⟩:=items_int o;have i:ns.length<=n:=by
  unfold OpenLaw.pre at g;have b:(WTm.not (.lt (.lit (.int (n:Int))) (.len (.arg 0)))).holds [] { args:=[.list (ns.map .int)] }=true:=by
   have b:=(holds_andW g).1;rw[m]at b;exact b
  have c:=condW_of b (w_not (w_lt w_lit (w_len_list (w_arg rfl))));rw[ar]at c;refine Nat.le_of_not_lt λq=>?_;have p:(n:Int)<((ns.length:Nat):Int):=by omega
  first
   |(rw[bq p]at c;exact absurd c (by decide))
   |(simp at c;omega)
 cases k with
 |cons s t =>
  cases t
  cases s with
  |list u j=>exact⟨_,_,ns,rfl,rfl,u,Gz ns _ j,i⟩
theorem IC(l:Z1)(args:am WData):l.row.toRowW.claim.post args (.bool true) args=true:=
 postW_of (r:=l.row.toRowW) (X:=(true==true))
  (show aaS [] (.bool true) .bool=true by first|rfl|decide|simp[aaS,WShape.arms,WShape.armsAll])
  (show(WTm.eq .res (.lit (.bool true))).value [] { args:=args,res:=ih (.bool true),after:=args }=ih (.bool (true==true)) from w_eq_bool (w_res rfl) w_lit) rfl
theorem Hm{l:Z1}{d:DefRec}
  (v:l.most=ih n) (p:d.params.defaults=[])
  (call:∀(w:X7) (e b:Gb) (mg g:F4->Option i') (c:FG) (o:Ys) (pm cd Qg:i') (a:FG) (vs:am i') (ns:am Int),
   Ground q Qr [] XP w e mg g b.heap->YP w b.heap ->
   b.heap.get? c=ih o->o.data=.func (docDef d.name d.params d.body d.scope pm cd Qg)->b.heap.CodeRec cd d.name->mg d.name=ih (.ref c) ->
   b.heap.get? a=ih { cls:=.type "list",data:=.seq vs.toArray }->Z2 vs ns->ns.length<=n->b.gens = #[] ->
   codeAny (UP l.prog w) callerA (.call (.ref c) ⟨[.ref a],[]⟩) (λr s'=>r=.ok (.ret (.bool true))/\OldK b.heap s'.heap/\s'.os=b.os/\YT s'.gens) b) :
  WalkO q Qr XP YP l.row.toRowW d [] (λf vs=>ZO f vs):=by
 intro w e b mg g G x c o pm cd Qg dV kV y z s h t A args F K j H I u J;obtain rfl:dV=.none:=Dflts.none h p;obtain rfl:kV=.none:=Dflts.noKw h;obtain⟨a,vs,ns,rfl,rfl,k,i,m⟩:=IB v j u;refine enter_call (jW (call w e b mg g c o pm cd Qg a vs ns G x y (fd_plain z) s t k i m A) λr s' B=>?_);obtain⟨rfl,h2,C,D⟩:=B;exact⟨.inl ⟨.bool true,.bool true,[],rfl,λ_=>rfl,.bool true,IC l _,λ_=>⟨YJ,λ_ E=>(nomatch E)⟩⟩,h2,C,D⟩
end EH
namespace L2
open Spec PyProof.Rows
theorem z':∀{vs:am i'}{ns:am Int},Z2 vs ns->Vals (ns.map V.int) vs
 |_,_,.nil=>.nil
 |_,_,.cons n t h=>.cons ⟨t,rfl⟩ (z' h)
def uE(H:Hp):Prop:= ∀b,H b=none \/∃o xs,H b=ih (.aX o (.lst xs))
theorem Jn{l:F4->Option i'}{CX:gD}{k:Nat}{p:FG}{c:Gb}{vs:am i'}
  (G:K.In c.heap) (C:c.heap.Ns UX mg) (f:c.heap.Ns builtinsNs l) (T:∀x:F4,x ≠ "__name__" -> l x=Vx x) (O:c.heap.NoLimit) (ya:c.gens = #[])
  (j:c.heap.get? a=ih { cls:=.type "list",data:=.seq vs.toArray }) (hi:Z2 vs ns) (I:ns.length<=UJ) (za:aQ k callerA)
  (F:∀base:XY,K.In base->base.Ns UX mg->aU P w K mg base CX k p fd [x] sp) (N:∀(s:Gb) (u:i'),Zm s fd ⟨[u],[]⟩ [(x,u)])
  (W:∀H:Hp,uE H->aq K H a (ns.map V.int)->sp [.ref a] H (λv _=>v=.bl true) λ_ _ _=>False)
  (X:∀H e s',CX [] H c (λ_ _ _=>False) e s'->False) :
  codeAny (UP P w) callerA (.call (.ref p) ⟨[.ref a],[]⟩) (λr s'=>r=.ok (.ret (.bool true))/\OldK c.heap s'.heap/\s'.os=c.os/\YT s'.gens) c:=by
 have J:=z' hi;have Q:=hi.length;have B:∀H:Hp,uE H->aq K H a (ns.map V.int)->b4 P w H c.heap->(∀b,H b≠none->b=a)->(H a≠none->K.lookup a=none) ->
   codeAny (UP P w) callerA (.call (.ref p) ⟨[.ref a],[]⟩) (λr s'=>r=.ok (.ret (.bool true))/\OldK c.heap s'.heap/\s'.os=c.os/\YT s'.gens) c:=by
  intro H L xb D hA yb;have A:∀{b:FG}{o:Ys},c.heap.get? b=ih o->H b=none->(iX c.heap H).get? b=ih o:=λe n=>Jh e n;have xa:∀{b:FG}{o:Ys}{es:Array YA}{ep:Nat},c.heap.get? b=ih o->o.data=.dict es ep->H b=none:=λ{b o es ep} e d=>by
   cases q:H b with
   |none=>rfl
   |some u =>
    have t:b=a:=hA b (by rw[q];simp)
    subst t;rw[j]at e;cases e;have zb:Data.seq vs.toArray _=Data.dict es ep:=d;cases zb
  have i:∀{b:FG}{m:F4->Option i'},c.heap.Ns b m->(iX c.heap H).Ns b m:=λ{b m} ⟨o,es,ep,e,d,r⟩=>⟨o,es,ep,A e (xa e d),d,r⟩;have E:K.In (iX c.heap H):=λb o e=>A (G b o e) (by
   cases q:H b with
   |none=>rfl
   |some u =>
    have t:b=a:=hA b (by rw[q];simp)
    subst t;rw[yb (by rw[q];simp)]at e;cases e)
  have xc:Mod K mg (iX c.heap H):=⟨E,i C,⟨l,i f,T⟩,let ⟨yc,U,h2⟩:=O;⟨yc,i U,h2⟩⟩;have zc:l6 P w K mg (iX c.heap H) callerA [] c H:=⟨rfl,xc,λb o e=>Kj e,Nat.le_of_eq (Iu _ _),trivial,λb f=>absurd (show b∈([]:am FG) from f) (by simp),D,.of_eq ya⟩
  refine jW ((F _ E (i C)).run callerA [] c H ⟨[.ref a],[]⟩ [.ref a] [.ref a] _ _ za zc (N c (.ref a)) (.cons rfl .nil) (W H L xb)) λr s' h=>?_;cases r with
  |error e=>exact(X H e s' h).elim
  |ok xd =>
   cases xd with
   |next=>exact Vs h
   |brk=>exact Vs h
   |cont=>exact Vs h
   |ret u =>
    obtain⟨v,Y,os,R,un,S,yd,q⟩:=h;have zd:v=.bl true:=q;subst zd;obtain rfl:u=YM true:=yd;refine⟨rfl,OldK.of_keep λb o e=>?_,os,R⟩;cases q:H b with
    |none=>exact un.keep b o e q (by intro z;exact absurd (show b∈([]:am FG) from z) (by simp)) (by simp)
    |some u =>
     rcases L b with z|⟨xe,xs,z⟩
     ·rw[q]at z;cases z
     ·have z2:=un.gM b xe _ z
      obtain⟨M,_⟩:=D b _ z;obtain⟨ye,_⟩:=S b _ z2;rw[e]at M;cases M;exact ye
 cases y:K.lookup a with
 |some o =>
  have e:=G a o y;rw[j]at e;cases e
  refine B (λ_=>none) (λ_=>.inl rfl) (.inr ⟨_,vs.toArray,_,y,rfl,rfl,rfl,by rw[bM,Q];exact I,by simpa using J⟩) (λb u z=>by have g:(none:ap HO)=ih u:=z;cases g) (λb z=>absurd rfl z) λz=>absurd rfl z
 |none =>
  refine B (λb=>if b=a then ih (.aX { cls:=.type "list",data:=.seq vs.toArray } (.lst (ns.map V.int))) else none) (λb=>?_) (.inl (.inr ⟨{ cls:=.type "list",data:=.seq vs.toArray },aw rfl⟩)) (λb u z=>?_) (λb z=>?_) λ_=>y
  ·by_cases f:b=a
   ·exact .inr ⟨_,_,aw f⟩
   ·exact .inl (ak f)
  ·by_cases f:b=a
   ·have g:=(aw f).symm.trans z
    cases g
    subst f;exact⟨j,by rw[ar];exact I,vs,_,J,j⟩
   ·have g:=(ak f).symm.trans z
    cases g
  ·by_cases f:b=a
   ·exact f
   ·exact absurd (ak f) z
theorem Kt{l:PySem.W.OpenLaw}{k:Nat}{d:DefRec}{K:Params->U0}{CX:X7->gD}{sp:X7->Sp}
  (C:l.most=ih n) (t:n<=UJ) (y:d.params.defaults=[]) (D:aQ k callerA)
  (E:∀(w:X7) (h:XY),YP w h->(K w.params).In h)
  (F:∀(w:X7) (mg:F4->Option i') (c:FG) (h:XY),(K w.params).In h->h.Ns UX mg->mg d.name=ih (.ref c) ->
   ∃fd:XX,(∀(s:Gb) (u:i'),Zm s fd ⟨[u],[]⟩ [(x,u)]) /\
    ∀base:XY,(K w.params).In base->base.Ns UX mg->aU l.prog w (K w.params) mg base (CX w) k c fd [x] (sp w))
  (z:∀(w:X7) (H:Hp) (a:FG) (ns:am Int),ns.length<=n->uE H->aq (K w.params) H a (ns.map V.int)->sp w [.ref a] H (λv _=>v=.bl true) λ_ _ _=>False)
  (A:∀(w:X7) (H:Hp) (s:Gb) (e:i') (s':Gb),CX w [] H s (λ_ _ _=>False) e s'->False) :
  PySem.W.WalkO q Qr XP YP l.row.toRowW d [] (λf vs=>ZO f vs):=by
 refine EH.Hm C y λw P p mg R c o pm cd Qg a vs ns G I S U Q B r m i J=>?_;have j:=E w _ I;obtain⟨fd,L,M⟩:=F w mg c _ j G.T.g B;exact Jn j G.T.g G.T.b G.T.builtins G.T.nolimit J r m (e5 i t) D M L (λH N O=>z w H a ns i N O) λH e s'=>A w H p e s'
def g8(s:VC):Arguments:=match s with
 |.FunctionDef _ a _ _ _ _ _ _ _ _=>a
 |_=>{ posonlyargs:=[],args:=[],vararg:=none,kwonlyargs:=[],kw_defaults:=[],kwarg:=none,defaults:=[] }
def bE(s:VC):List VC:=match s with
 |.FunctionDef _ _ b _ _ _ _ _ _ _=>b
 |_=>[]
def aH(s:VC):YL:=match s with
 |.FunctionDef _ _ _ _ _ _ sc _ _ _=>sc
 |_=>{ kind:=.function,names:=[],isGenerator:=false,isCoroutine:=false }
abbrev aC:gD:=λ_ _ _ _ _ _=>False
abbrev E0:XK:=λ_ _ _=>False
theorem dH:Passes aC X E0:=λ_ _ _ _ _ _ _ h=>h.elim
structure aR(K:U0)(x qual:F4)(st:VC)(f:FG)(fd:XX):Prop where
 ex:∃(oc:i') (od:Option FG) (kV Qg pm:i') (an:Option FG) (Qc ct:i') (Qn:Array (Option i')),
  fd=YK x qual (g8 st) (bE st) (aH st) .none kV Qg pm an Qc ct/\K.lookup f=ih ⟨oc,od,.func fd,Qn⟩/\Zg K Qc qual=true
 kp:Zf K (.ref f)=true
theorem aR.ok{st:VC}{k:Nat}(F:aR K x qual st f fd)(S:bg N ps (aH st))(b:∀vs H Q E,sp vs H Q E->vs.length=ps.length)
  (a:∀(Qc:i') (A:Yc) (outer:am Y5) (s:Gb) (H:Hp) (vs:am V) (Q:VK) (E:XK),aQ k (A.deeper (envOfC qual (aH st) s.ax f Qc))->sp vs H Q E ->
   ∃t,dr (ec aC P w K mg base N qual (aH st) f Qc A outer s H E).og (bE st) t/\t { nx:=λ_ Y=>Q .aN Y,rt:=Q } (start N vs) H):aU P w K mg base aC (k+1) f fd ps sp:=by
 obtain⟨oc,od,kV,Qg,pm,an,Qc,ct,Qn,rfl,lk,c⟩:=F.ex;refine CP lk c S b λA outer s H vs Q E e d=>?_;obtain⟨t,h,q⟩:=a Qc A outer s H vs Q E e d;exact⟨t,h.og,q⟩
theorem aR.binds{st:VC}(F:aR K x qual st f fd)
  (h:∀(kV Qg pm:i') (an:ap FG) (Qc ct:i') (us:am i'),us.length=ps.length->bindArgs (YK x qual (g8 st) (bE st) (aH st) .none kV Qg pm an Qc ct) ⟨us,[]⟩=pure (ps.zip us)):Binds K fd ps []:=by
 obtain⟨oc,od,kV,Qg,pm,an,Qc,ct,Qn,rfl,lk,a⟩:=F.ex;exact .all (h kV Qg pm an Qc ct)
theorem L0{st:VC}{kV:i'}(l:K.lookup f=ih ⟨oc,od,.func (YK x qual (g8 st) (bE st) (aH st) .none kV Qg pm an Qc ct),Qn⟩)
  (c:Zg K Qc qual=true) (k:Zf K (.ref f)=true):aR K x qual st f (YK x qual (g8 st) (bE st) (aH st) .none kV Qg pm an Qc ct):=⟨⟨oc,od,kV,Qg,pm,an,Qc,ct,Qn,rfl,l,c⟩,k⟩
theorem pv(i:Nat)(b:X.N[i]?=ih x:=by rfl)(c:uS X.env.scope x:=by first|exact aaQ rfl|exact Yx (aaQ rfl)|exact Yx (Yx rfl))(d:(x==("__debug__" : F4))=false:=by decide)
  (a:(x==("__classdict__" : F4))=false:=by decide):PE X (.Name x pos) (jz i):=LL b c d a
theorem dm{c A:Prop} [Decidable c](U:c->A)(h2 : ¬ c->B):if c then A else B:=by
 by_cases h:c
 ·rw[aw h]
  exact U h
 ·rw[ak h]
  exact h2 h
def ao(H Y:Hp):Prop:= ∀b o,H b=ih o->Y b=ih o
theorem ao.refl(H:Hp):ao H H:=λ_ _ h=>h
theorem ao.trans(a:ao H H1)(b:ao H1 H2):ao H H2:=λc o h=>b c o (a c o h)
theorem ao.free(e:ao H Y)(h:Y l=aaE):H l=aaE:=by
 cases q:H l with
 |none=>rfl
 |some o =>
  rw[e l o q]at h;cases h
end L2
namespace L2
theorem Paired.both{α β γ δ:Type}{F:α->β->Prop}{G:α->γ->Prop}{f:β->δ}{g:γ->δ}{l:am α}{m:am β}(h:XU F l m)(k:∀a b c,F a b->G a c->g c=f b):∀{n:am γ},XU G l n->n.map g=m.map f:=by
 induction h with
 |nil=>intro n t;cases t;rfl
 |cons p _ d=>intro n t;cases t with|cons q t=>rw[bD,bD,k _ _ _ p q,d t]
theorem Paired.uF{α β:Type}{F G:α->β->Prop}{l:am α}{m:am β}(h:XU F l m):(∀a b,b∈m->F a b->G a b)->XU G l m:=by
 induction h with
 |nil=>exact λ_=>.nil
 |cons p _ c=>exact λk=>.cons (k _ _ aT p) (c λa b e=>k a b (a8 _ e))
end L2
namespace L2
open Spec PyProof.Rows
def eX(cells:List (F4×FG)):List (F4×Yj)->List (F4×FG)->List (F4×FG)
 |[],cy=>cy
 |(n,k)::r,cy=>if k == .free then eX cells r ((n,(cells.lookup n).getD 0)::cy) else eX cells r cy
theorem wh(h:∀n,(n,U7)∈scope.names ->∃c,env.cells.lookup n=ih c) :
  closureFor scope env=pure (eX env.cells scope.names []):=by
 have p:∀(b:am (F4×Yj)) (d:am (F4×FG)),(∀n,(n,U7)∈b ->∃c,env.cells.lookup n=ih c) ->
   (forIn (m:=Zi) b d λx r=>match x with|(name,f)=>if (f==U7)=true then (do let a <- cellOf env name;pure (Ya ((name,a)::r))) else pure (Ya r))=pure (eX env.cells b d):=by
  intro b
  induction b with
  |nil=>intro d _;rfl
  |cons x r j =>
   intro d g;obtain⟨n,k⟩:=x;rw[aai];unfold eX
   by_cases l:k=.free
   ·subst l
    obtain⟨c,o⟩:=g n aT;simp only[vq,eP];have e:cellOf env n=pure c:=by unfold cellOf;rw[o]
    rw[e,o];exact j _ λm i=>g m (a8 _ i)
   ·have q:(k==U7)=false:=by simpa using l
    simp only[q,fV,ew];exact j _ λm i=>g m (a8 _ i)
 unfold closureFor;have:=p scope.names [] h;show((forIn (m:=Zi) scope.names [] λx r=>match x with|(name,f)=>if (f==U7)=true then (do let a <- cellOf env name;pure (Ya ((name,a)::r))) else pure (Ya r)) >>= λs=>pure s)=_;rw[this]
 rfl
theorem ll:∀(b:am (F4×Yj)) (n:Nat) (a:am (F4×FG)),cellsFrom n b a=cellsFrom n b []++a
 |[],_,_=>rfl
 |(name,c)::r,n,a=>by
  unfold cellsFrom;split
  ·rw[ll r (n+1) ((name,n)::a),ll r (n+1) [(name,n)],vr];rfl
  ·exact ll r n a
theorem oO{cells:am (F4×FG)}:∀(d:am (F4×Yj)) (a:am (F4×FG)) (x:F4) (c:FG),(eX cells d a).lookup x=ih c ->
  (a.lookup x=ih c)\/((x,U7)∈d/\c=(cells.lookup x).getD 0)
 |[],a,x,c,h=>.inl h
 |(n,k)::r,a,x,c,h=>by
  unfold eX at h;split at h
  ·rename_i g
   have f:k=.free:=by simpa using g
   subst f;rcases oO r _ x c h with z|⟨z,e⟩
   ·rw[fc]at z
    cases b:x==n with
    |true=>rw[b]at z;cases z;rw[fX.mp b];exact .inr ⟨aT,rfl⟩
    |false=>rw[b]at z;exact .inl z
   ·exact .inr ⟨a8 _ z,e⟩
  ·rcases oO r _ x c h with z|⟨z,e⟩
   ·exact .inl z
   ·exact .inr ⟨a8 _ z,e⟩
theorem r4{cells:am (F4×FG)}:∀(b:am (F4×Yj)) (a:am (F4×FG)) (x:F4),(∃c,a.lookup x=ih c) ->∃c,(eX cells b a).lookup x=ih c
 |[],a,x,h=>h
 |(n,k)::r,a,x,h=>by
  unfold eX;split
  ·refine r4 r _ x ?_
   obtain⟨c,h⟩:=h;rw[fc];cases d:x==n with
   |true=>exact⟨_,rfl⟩
   |false=>exact⟨c,h⟩
  ·exact r4 r _ x h
theorem oV{cells:am (F4×FG)}:∀(b:am (F4×Yj)) (a:am (F4×FG)) (x:F4),(x,U7)∈b ->∃c,(eX cells b a).lookup x=ih c
 |[],a,x,h=>by simp at h
 |(n,k)::r,a,x,h=>by
  unfold eX;rcases bu.mp h with e|h
  ·cases e
   simp only[vq,eP];exact r4 r _ _ ⟨(cells.lookup n).getD 0,by rw[fc];simp⟩
  ·split
   ·exact oV r _ x h
   ·exact oV r _ x h
theorem oN:∀(b:am (F4×Yj)) (n:Nat) (a:am (F4×FG)) (x:F4) (c:FG),(x,c)∈cellsFrom n b a->(x,c)∈a\/(x,X0)∈b
 |[],_,_,_,_,h=>.inl h
 |(name,d)::r,n,a,x,c,h=>by
  unfold cellsFrom at h;split at h
  ·rename_i g
   have f:d=.cell:=by simpa using g
   subst f;rcases oN r _ _ x c h with z|z
   ·rcases bu.mp z with e|z
    ·cases e;exact .inr aT
    ·exact .inl z
   ·exact .inr (a8 _ z)
  ·rcases oN r _ _ x c h with z|z
   ·exact .inl z
   ·exact .inr (a8 _ z)
structure bJ(N:List F4)(EI:YL)(N':List F4)(Qf:List (Option Nat))(sc:YL):Prop where
 kind:sc.kind=.function
 keys:(sc.names.map (·.1)).Nodup
 nd:N'.Nodup
 len:Qf.length=N'.length
 fv:∀(j i:Nat),Qf[j]?=ih (ih i) ->∃x,N[i]?=ih x/\N'[j]?=ih x/\sc.names.lookup x=ih .free
 free:∀p∈sc.names,p.2=.free->EI.names.lookup p.1=ih .cell\/EI.names.lookup p.1=ih .free
theorem mL{α:Type}:∀{l:am (F4×α)},(l.map (·.1)).Nodup ->∀{x:F4}{k:α},(x,k)∈l->l.lookup x=ih k
 |(n,v)::r,a,x,k,h=>by
  obtain⟨U,h2⟩:=eu.mp a;rw[fc];rcases bu.mp h with e|hm
  ·cases e;simp
  ·have:(x==n)=false:=by
    rw[jU];intro e;exact U (aZ.mpr ⟨_,hm,e⟩)
   rw[this];exact mL h2 hm
def AQ(scope:YL)(L:FG)(env:Y5):Y5:=
 { scope:=relabel scope env,locals:=L,globals:=env.globals,cells:=cellsFrom (L+1) scope.names (eX env.cells scope.names []),qual:=env.qual,func:=none,code:=env.code,frame:=env.frame,builtins:=env.builtins }
theorem Hn{M:Zu}{globals:FG}{d:am (F4×FG)}{Q:Y5->Gb->Prop}
  (h:∀h',h'.Ns s.ax (λ_=>none)->(∀b o,s.heap.get? b=ih o->h'.get? b=ih o)->(∀x c,(x,c)∈cellsFrom (s.ax+1) scope.names []->h'.IsCell c none/\s.ax<c) ->
   ((cellsFrom (s.ax+1) scope.names []).Pairwise λx y=>x.2≠y.2) ->
   Q { scope:=scope,locals:=s.ax,globals:=globals,cells:=cellsFrom (s.ax+1) scope.names d,qual:=qual,func:=none,code:=env.code,frame:=env.frame,builtins:=env.builtins } { s with heap:=h' }) :
  UB M A (newFunctionEnv scope globals d [] qual none .none (ih env)) Q E s:=by
 simp only[newFunctionEnv,UR,eP];refine ae (wpAny_alloc ?_);refine ae (wpAny_layCells _ (λname f cells=>by cases g:f==X0 <;> simp[g]) _ _ _ _ ?_)
 have ok:=cellsFrom_ok scope.names (s.heap.push { cls:=.type "dict",data:=.dict #[] }) (s.ax+1) [] ⟨λ_ _ a=>(nomatch a),YJ⟩ (by rw[fq];exact aG _)
 rw[fq]at ok;rw[show({ s with heap:=s.heap.push { cls:=.type "dict",data:=.dict #[] } }:Gb).heap.objs.size=s.ax+1 from fq ..];rw[List.forIn_nil];refine ae (aj (aj ?_));exact h _ ((Heap.Ns.new s.heap (.type "dict")).keeps (pushCells_keeps _ _)) (λb o e=>pushCells_keeps _ _ b o (aV _ e)) (λx c a=>⟨(ok.empty x c a).1,(ok.empty x c a).2⟩) ok.apart
def dG(X:Cx)(N':List F4)(scope:YL)(s2:Gb)(H2:Hp)(fp:List FG):Cx:=
 { X with N:=N',eb:=s2,gN:=H2,env:=AQ scope s2.ax X.env,outer:=X.stack,stack:=X.stack,ex:=fp,fn:=λx=>scope.names.lookup x==ih .cell,pn:=[],xe:=λ_ _=>False }
theorem rJ{env:Y5}:∀{d:am (F4×Yj)}{x:F4}{k:Yj},
  (d.map λ(n,k)=>if (k==U7&&env.scope.kind == .function&&env.kindOf n==ih .cell) then (n,X0) else (n,k)).lookup x=ih k ->
  ∃a,d.lookup x=ih a/\(k=a\/(a=.free/\k=.cell))
 |[],_,_,h=>by simp at h
 |(n,a)::r,x,k,h=>by
  have e:=@rJ env r x k;have h':Zd x ((if (a==U7&&env.scope.kind == .function&&env.kindOf n==ih .cell)=true then (n,X0) else (n,a))::_)=ih k:=h;rw[fc]
  by_cases c:(a==U7&&env.scope.kind == .function&&env.kindOf n==ih .cell)=true
  ·rw[aw c,fc]at h'
   cases b:x==n with
   |true =>
    rw[b]at h';cases h';have:a=.free:=by
     have z:=c;rw[gW,gW]at z
     simpa using z.1.1
    exact⟨a,rfl,.inr ⟨this,rfl⟩⟩
   |false=>rw[b]at h';exact e h'
  ·rw[ak c,fc]at h'
   cases b:x==n with
   |true=>rw[b]at h';cases h';exact⟨a,rfl,.inl rfl⟩
   |false=>rw[b]at h';exact e h'
theorem rH{env:Y5}:∀{d:am (F4×Yj)}{x:F4},d.lookup x=ih .free ->
  (d.map λ(n,k)=>if (k==U7&&env.scope.kind == .function&&env.kindOf n==ih .cell) then (n,X0) else (n,k)).lookup x=ih .cell \/
  (d.map λ(n,k)=>if (k==U7&&env.scope.kind == .function&&env.kindOf n==ih .cell) then (n,X0) else (n,k)).lookup x=ih .free
 |[],_,h=>by simp at h
 |(n,b)::r,x,h=>by
  have e:=@rH env r x;show Zd x ((if (b==U7&&env.scope.kind == .function&&env.kindOf n==ih .cell)=true then (n,X0) else (n,b))::_)=_\/Zd x ((if (b==U7&&env.scope.kind == .function&&env.kindOf n==ih .cell)=true then (n,X0) else (n,b))::_)=_;rw[fc]at h;cases a:x==n with
  |true =>
   rw[a]at h;cases h
   by_cases c:(U7==U7&&env.scope.kind == .function&&env.kindOf n==ih .cell)=true
   ·rw[aw c,fc,a];exact .inl rfl
   ·rw[ak c,fc,a];exact .inr rfl
  |false =>
   rw[a]at h
   by_cases c:(b==U7&&env.scope.kind == .function&&env.kindOf n==ih .cell)=true
   ·rw[aw c,fc,a];exact e h
   ·rw[ak c,fc,a];exact e h
def pick(Qf:List (Option Nat))(σ:St):St:=Qf.map λo=>o.bind λi=>(σ[i]?).join
section
variable{s2:Gb}
theorem r5(I:Inv X J σ H s2)(S:bJ X.N X.env.scope N' Qf scope)(a:(x,U7)∈scope.names):∃c,X.env.cells.lookup x=ih c:=
 I.ok.has x (S.free _ a rfl)
theorem HQ(I:Inv X J σ H s2)(S:bJ X.N X.env.scope N' Qf scope){c:FG}(h:(cellsFrom n scope.names (eX X.env.cells scope.names [])).lookup x=ih c) :
  ((x,c)∈cellsFrom n scope.names []/\(x,X0)∈scope.names)\/((x,U7)∈scope.names/\X.env.cells.lookup x=ih c):=by
 rw[ll,FQ]at h;cases e:(cellsFrom n scope.names []).lookup x with
 |some d =>
  rw[e]at h;have z:d=c:=by simpa using h
  subst z;have m:=jc e;rcases oN _ _ _ _ _ m with z|z
  ·simp at z
  ·exact .inl ⟨m,z⟩
 |none =>
  rw[e]at h;have h':(eX X.env.cells scope.names []).lookup x=ih c:=by simpa using h
  rcases oO _ _ _ _ h' with z|⟨z,a⟩
  ·simp at z
  ·obtain⟨b,h0⟩:=r5 I S z
   rw[h0]at a;exact .inr ⟨z,by rw[h0,a];rfl⟩
theorem Jo(I:Inv X J σ H s2)(S:bJ X.N X.env.scope N' Qf scope)(B:∀b∈fp,gy X J H b)(Y:∀b∈fp,∃o,s2.heap.get? b=ih o)
  (xc:h'.Ns s2.ax (λ_=>none)) (D:∀b o,s2.heap.get? b=ih o->h'.get? b=ih o)
  (h:∀x c,(x,c)∈cellsFrom (s2.ax+1) scope.names []->h'.IsCell c none/\s2.ax<c) (E:(cellsFrom (s2.ax+1) scope.names []).Pairwise λx y=>x.2≠y.2) :
  Inv (dG X N' scope s2 H fp) [] (pick Qf σ) H { s2 with heap:=h' }:=by
 have K:∀{x:F4}{c:FG},X.env.cells.lookup x=ih c->c<s2.ax:=λ{x c} e=>let ⟨_,q⟩:=I.cell x c e;q.lt;have l:∀{x:F4}{c:FG},(dG X N' scope s2 H fp).env.cells.lookup x=ih c->((x,c)∈cellsFrom (s2.ax+1) scope.names []/\(x,X0)∈scope.names)\/((x,U7)∈scope.names/\X.env.cells.lookup x=ih c):=
  λ{x c} e=>HQ I S e
 have xa:∀{x:F4}{c:FG},(dG X N' scope s2 H fp).env.cells.lookup x=ih c ->∃v,h'.IsCell c v:=λ{x c} e=>by
  rcases l e with⟨m,_⟩|⟨_,yc⟩
  ·exact⟨_,(h x c m).1⟩
  ·obtain⟨v,q⟩:=I.cell x c yc
   exact⟨v,q.keeps D⟩
 have L:∀b∈fp,b<s2.ax:=λb a=>let ⟨_,e⟩:=Y b a;a6 e;refine⟨⟨I.ok.mod,S.kind,I.ok.glob,I.ok.blt,aG _,λx y c F G=>?_,λx hx=>?_,λx c hx e=>?_,I.ok.hd,I.ok.frames,.inl rfl,λb a=>⟨bp (L b a),λx c e z=>?_⟩,I.bs,?_,λb o e a=>?_,λb a ya=>?_,I.stack,I.sQ⟩,
  rfl,I.bare,Un.kept D,⟨_,xc,λj x v F G yf=>?_⟩,λx c e=>xa e,I.aD.fresh (aG _),λx c e=>?_,λp E=>absurd (show p∈([]:am (FG×Ys)) from E) (by simp),I.aD.kept D,?_⟩
 ·rcases l F with⟨P,_⟩|⟨_,s⟩ <;> rcases l G with⟨Q,_⟩|⟨_,R⟩
  ·exact name_of_addr E P Q
  ·exact absurd (k9 (h _ _ P).2 (K R)) (jV _)
  ·exact absurd (k9 (h _ _ Q).2 (K s)) (jV _)
  ·exact I.ok.inj x y c s R
 ·have za:∃f,scope.names.lookup x=ih f/\(f=.cell\/f=.free):=by
   rcases hx with hx|hx
   ·obtain⟨f,e,z⟩:=rJ (env:=X.env) hx
    refine⟨f,e,?_⟩;rcases z with z|z
    ·exact .inl z.symm
    ·exact .inr z.1
   ·obtain⟨f,e,z⟩:=rJ (env:=X.env) hx
    refine⟨f,e,?_⟩;rcases z with z|z
    ·exact .inr z.symm
    ·exact .inr z.1
  obtain⟨f,e,z⟩:=za;show ∃c,(cellsFrom (s2.ax+1) scope.names (eX X.env.cells scope.names [])).lookup x=ih c;rw[ll,FQ];rcases z with rfl|rfl
  ·obtain⟨c,g⟩:=su (n:=s2.ax+1) e
   exact⟨c,by rw[g];rfl⟩
  ·cases q:(cellsFrom (s2.ax+1) scope.names []).lookup x with
   |some d=>exact⟨d,rfl⟩
   |none =>
    obtain⟨c,g⟩:=oV (cells:=X.env.cells) scope.names [] x (jc e);exact⟨c,by rw[g];rfl⟩
 ·have M:scope.names.lookup x=ih .cell:=by simpa [dG] using hx
  rcases l e with⟨m,_⟩|⟨m,_⟩
  ·exact oz (h _ _ m).2
  ·rw[mL S.keys m]at M;cases M
 ·rcases l e with⟨m,_⟩|⟨_,s⟩
  ·have:=L b a
   rw[<-z]at this;exact absurd (k9 (h _ _ m).2 this) (jV _)
  ·exact(B b a).2.2.2.2.1 x c s z
 ·exact e5 I.ok.gS I.sz
 ·rcases (B b a).2.2.2.1 with z|z
  ·exact I.ok.iY b o e z
  ·exact absurd (er (a6 (I.ok.bs b o e).1) z) (jV _)
 ·have:=I.pH b ya
  rcases bu.mp this with z|z
  ·exact(B b a).2.1 z
  ·exact(B b a).2.2.1 z
 ·
  have t:(Qf[j]?).bind (λo=>ih (o.bind λi=>(σ[i]?).join))=ih (ih v):=by
   have w:(Qf.map λo=>o.bind λi=>(σ[i]?).join)[j]?=ih (ih v):=G;rw[cx]at w;cases q:Qf[j]? with
   |none=>rw[q]at w;cases w
   |some o=>rw[q]at w;exact w
  cases q:Qf[j]? with
  |none=>rw[q]at t;cases t
  |some o =>
   rw[q]at t;cases o with
   |none=>simp at t
   |some i =>
    have C:(σ[i]?).join=ih v:=by simpa using t
    have zc:σ[i]?=ih (ih v):=by
     cases T:σ[i]? with
     |none=>rw[T]at C;cases C
     |some z=>rw[T]at C;rw[show z=ih v from C]
    obtain⟨y,xb,yb,A⟩:=S.fv j i q;have zb:x=y:=by
     have O:N'[j]?=ih x:=F;rw[yb]at O;exact(cS O).symm
    subst zb;obtain⟨m,zf,xd⟩:=I.loc;have U:=S.free _ (jc A) rfl;obtain⟨u,r,lk⟩:=xd i x v xb zc (by rcases U with z|z;exact .inr (.inl z);exact .inr (.inr z))
    refine⟨u,r,.inr ⟨rH A,?_⟩⟩;rcases lk with⟨k,_⟩|⟨_,c,yd,zd⟩
    ·have V:X.env.scope.names.lookup x=ih .local:=k
     rcases U with z|z <;> (rw[z]at V;cases V)
    ·refine⟨c,?_,zd.keeps D⟩
     show(cellsFrom (s2.ax+1) scope.names (eX X.env.cells scope.names [])).lookup x=ih c;rw[ll,FQ];cases xe:(cellsFrom (s2.ax+1) scope.names []).lookup x with
     |some d =>
      rcases oN _ _ _ _ _ (jc xe) with z|z
      ·simp at z
      ·rw[mL S.keys z]at A;cases A
     |none =>
      obtain⟨xg,g⟩:=oV (cells:=X.env.cells) scope.names [] x (jc A);rcases oO _ _ _ _ g with z|⟨_,W⟩
      ·simp at z
      ·rw[yd]at W
       rw[g,W];rfl
 ·rcases l e with⟨m,_⟩|⟨_,s⟩
  ·exact I.aD.fresh (oz (h _ _ m).2)
  ·exact I.eG x c s
 ·show(Qf.map _).length=N'.length
  rw[ar,S.len]
end
def l8(X:Cx)(Qi:List Vo)(t:TT):Prop:=
 ∀J s σ H (Q:Bool->Hp->Prop),Inv X J σ H s->t σ H Q ->
  wA X (forIn Qi true λc r=>if r=true then do let ok <- isTrue c X.env (eval c X.env);pure (Ya ok) else pure (Ya r)) (TP X J σ Q) X.xe s
def nO:TT:=λ_ H Q=>Q true H
theorem cP:l8 X [] nO:=λ_ _ _ H _ I h=>wpAny_tests_nil ⟨H,I,h⟩
theorem h8{c:Vo}{t:TT}(h:PT X c t):l8 X [c] t:=λJ s σ H Q I a=>wpAny_tests_one (h J s σ H Q I a)
structure o5(e tg iter:Vo)(Qi:List Vo)(Qk:i'->Y5->Zi Unit):Prop where
 cl:clausesOf e=[⟨tg,iter,Qi,0⟩]
 turn:∀it cy env,compTurn e 0 it cy env=(do
   standAt iter.pos
   match <- pyNext it with
   |none=>pure (.done .next)
   |some v =>
    letOwnedTupleGo tg it v
    assign tg env v
    let mut ok:=true
    for c in Qi do
     if ok then ok <- isTrue c env (eval c env)
    if ok then Qk cy env
    again (.compLoop e 0 it cy env))
 loop:∀(prog:XZ) (w:X7) (A:Yc) it cy env,A.under (.compLoop e 0 it cy env)=A/\(UP prog w).den (.compLoop e 0 it cy env)=(compTurn e 0 it cy env).onRaise (λx=>do noteFrame x env;theTreesLotGoes x)
 begin_:∀(prog:XZ) (w:X7) (A:Yc) it cy env,A.under (.compStart e 0 it cy env)=A/\(UP prog w).den (.compStart e 0 it cy env)=(compStart e 0 it cy env).onRaise (λx=>do noteFrame x env;standAt theWindowsPlace)
theorem GG{Qk:i'->Y5->Zi Unit}{it a:i'}(F:o5 e tg iter Qi Qk)(I:Nat->Gb->Prop)
  (turn:∀n s,I n s->UB (UP prog w) A (pyNext it) (λr s1=>match r with
   |none=>R (.ok .next) s1
   |some v=>UB (UP prog w) A (letOwnedTupleGo tg it v) (λ_ s2=>UB (UP prog w) A (assign tg env v) (λ_ d =>
     UB (UP prog w) A (forIn Qi true λc r=>if r=true then do let ok <- isTrue c env (eval c env);pure (Ya ok) else pure (Ya r)) (λok b =>
      if ok=true then UB (UP prog w) A (Qk a env) (λ_ g=>∃m,m<n/\I m g) (λ_ _=>False) b
      else ∃m,m<n/\I m b) (λ_ _=>False) d) (λ_ _=>False) s2) (λ_ _=>False) s1) (λ_ _=>False) s)
  (n:Nat) (h:I n s) :
  codeAny (UP prog w) A (.compLoop e 0 it a env) R s:=by
 refine codeAny_loop rfl I (λn s i=>?_) n h;rw[(F.loop prog w A it a env).1,(F.loop prog w A it a env).2];refine wpAny_noted (FR ?_);rw[F.turn];refine ae (mC (ae (aI (turn n s i) λr s1 U=>?_)));cases r with
 |none=>exact aj U
 |some v =>
  refine ae (aI U λ_ s2 h2=>ae (aI h2 λ_ d j=>ae (aI j λok b f=>?_)));cases ok with
  |false=>exact aj ⟨rfl,f⟩
  |true=>exact ae (aI f λx l k=>aj ⟨rfl,k⟩)
theorem GA{Qk:i'->Y5->Zi Unit}{it a:i'}(F:o5 e tg iter Qi Qk)
  (h0:codeAny (UP prog w) A (.compLoop e 0 it a env) R s)
  (h:UB (UP prog w) A (pyIter it) (λb s'=>codeAny (UP prog w) A (.compLoop e 0 b a env) R s')
   (notedBy (UP prog w) A env λx s'=>R (.error x) s') s) :
  codeAny (UP prog w) A (.compStart e 0 it a env) R s:=by
 refine vt ?_;rw[(F.begin_ prog w A it a env).1,(F.begin_ prog w A it a env).2];refine wpAny_notedAt ?_;unfold compStart;rw[F.cl];show UB _ _ (ask >>= _) _ _ s;refine ae (eQ (wpAny_ite ?_));split
 ·first
   |exact ae (aj (aj (YX rfl h0)))
   |exact aj (YX rfl h0)
 ·first
   |exact ae (je (ae (mC (ae (gU h (λb s' h'=>aj (YX rfl h')) λ_ _ x=>x)))))
   |(refine ae (je ?_);show UB _ _ (standAt iter.pos >>= _) _ _ s;exact ae (mC (ae (gU h (λb s' h'=>aj (YX rfl h')) λ_ _ x=>x))))
def L1{ι:Type}(J9:It)(g:TG)(ti:TT)(tem:ι->FG->St->Hp->(ι->Hp->Prop)->Prop)(y0:ι)(gj:St)(Q:VK)(p:FG)(H1:Hp):Prop:=
 ∃W:Nat->Nat->ι->St->Hp->Prop,(∃m,W 0 m y0 gj H1) /\∀i m y τ H2,W i m y τ H2 ->
  ((J9.stop i H2/\Q (.ref p) H2)\/(J9.go i H2 /\∀x H3,J9.jJ i H2 x H3->g x τ H3 λi7 H4=>ti i7 H4 λb H5 =>
   if b=true then tem y p i7 H5 λy' H6=>∃m',m'<m/\W (i+1) m' y' i7 H6
   else ∃m',m'<m/\W (i+1) m' y i7 H5))
def DD{ι:Type}(X:Cx)(Qk:i'->Y5->Zi Unit)(tem:ι->FG->St->Hp->(ι->Hp->Prop)->Prop):Prop:=
 ∀J s σ H (p:FG) (y:ι) (Q:ι->Hp->Prop),Inv X J σ H s->tem y p σ H Q->wA X (Qk (.ref p) X.env) (λ_ s'=>∃y' Y,Inv X J σ Y s'/\Q y' Y) X.xe s
structure Cf(X:Cx)(L3:Zi i')(start:FG->HO):Prop where
 run:∀J s σ H (E:i'->Gb->Prop) (Q:i'->Gb->Prop),Inv X J σ H s ->
  (∀s',Inv X J σ (upd H s.ax (start s.ax)) s'->(∀b o,s.heap.get? b=ih o->s'.heap.get? b=ih o)->Q (.ref s.ax) s')->wA X L3 Q E s
def AR(Qm:Vo)(cy:i')(env:Y5):Zi Unit:=do
 let v <- eval Qm env
 let _ <- call (.builtin "list.append") [cy,v]
theorem ID:o5 (.ListComp Qm [⟨tg,iter,Qi,0⟩] scope pos) tg iter Qi (AR Qm):=⟨rfl,λ_ _ _=>rfl,λ_ _ _ _ _ _=>⟨rfl,rfl⟩,λ_ _ _ _ _ _=>⟨rfl,rfl⟩⟩
theorem Jp:Cf X (newList []) (λ_=>.lst []):=⟨λJ s σ H E Q I h=>e6 (h _ (I.DC (its:=[]) (t':=s.toks) .nil (ba _)) λb o e=>aV _ e)⟩
def L4(te:TE)(ys:List V)(p:FG)(σ:St)(H:Hp)(Q:List V->Hp->Prop):Prop:=te σ H λy H6=>H6 p=ih (.lst ys)/\ys.length<UJ/\Q (ys++[y]) (upd H6 p (.lst (ys++[y])))
theorem Ku(j:PE X Qm te):DD X (AR Qm) (L4 te):=λJ s σ H p ys Q I h=>by
 refine ae (aI (j J s σ H _ I h) λy d n=>?_);obtain⟨z,a,e,f,b,c,k⟩:=n;refine ae (aI (gr _ d σ a (.ref p) [z] (.ref p) [y] (λ_ Y=>Y=upd a p (.lst (ys++[z]))) e rfl (.cons f .nil) ⟨_,_,_,rfl,rfl,b,c,rfl⟩) λ_ l n=>?_);obtain⟨_,m,g,_,i⟩:=n;subst i;exact aj ⟨_,_,g,k⟩
def hF(J9:It)(g:TG)(ti:TT)(te:TE)(gj:St)(Q:VK)(p:FG)(H1:Hp):Prop:=
 ∃W:Nat->Nat->List V->St->Hp->Prop,(∃m,W 0 m [] gj (upd H1 p (.lst []))) /\∀i m ys τ H2,W i m ys τ H2->H2 p=ih (.lst ys) /\
  ((J9.stop i H2/\Q (.ref p) H2)\/(J9.go i H2 /\∀x H3,J9.jJ i H2 x H3->g x τ H3 λi7 H4=>ti i7 H4 λb H5 =>
   if b=true then te i7 H5 λy H6=>H6 p=ih (.lst ys)/\ys.length<UJ /\∃m',m'<m/\W (i+1) m' (ys++[y]) i7 (upd H6 p (.lst (ys++[y])))
   else ∃m',m'<m/\W (i+1) m' ys i7 H5))
def CQ(wi:TI)(Qf:List (Option Nat))(g:TG)(ti:TT)(te:TE):TE:=λσ H Q=>wi σ H λJ9 H1=>∀p,H1 p=none->hF J9 g ti te (pick Qf σ) Q p H1
section
variable{s2:Gb}
def CompEnd(X:Cx)(J:List (FG×Ys))(σ:St)(Q:VK)(cy:i')(C:FG)(s':Gb):Prop:=
 ∃(p:FG) (Y:Hp),cy=.ref p/\Inv X J σ Y s'/\gy X J Y C/\(∃m,s'.heap.Ns C m)/\Q (.ref p) Y
variable{Qk:i'->Y5->Zi Unit}
theorem HR{G:Type}{y0:G}{zb:G->FG->St->Hp->(G->Hp->Prop)->Prop}{ye:It}{q:Nat->XY->Prop}{g:TG}{RR:i'->FG->Result->Gb->Prop}{yb:Zi i'}{start:FG->HO}(F:o5 e tg iter Qi Qk)(ze:X.calm=true)(S:bJ X.N X.env.scope N' Qf scope)
  (xf:Inv X J σ H2 s2) (T:Turn X.prog X.w X.K tg ye fp it q) (st:q 0 s2.heap) (yf:∀b∈fp,gy X J H2 b) (yi:Cf X yb start)
  (a:∀s H fp,PG (dG X N' scope s H fp) tg g/\l8 (dG X N' scope s H fp) Qi ti/\DD (dG X N' scope s H fp) Qk zb)
  (yl:∀p,H2 p=none->L1 ye g ti zb y0 (pick Qf σ) Q p (upd H2 p (start p))) (zl:∀z C s',CompEnd X J σ Q z C s'->RR z C (.ok .next) s') :
  wA X yb (λz f=>wA X (newFunctionEnv scope X.env.globals (eX X.env.cells scope.names []) [] X.env.qual none .none (ih X.env)) (λxc xm =>
   codeAny X.ef X.A (.compStart e 0 (.ref it) z { xc with scope:=relabel scope X.env }) (RR z xc.locals) xm) E f) E s2:=by
 refine yi.run J s2 σ H2 E _ xf λf I zi=>?_;have L:=yl s2.ax xf.fresh;generalize ym:upd H2 s2.ax (start s2.ax)=h at I L;have xj:∀b∈fp,b<s2.ax:=λb a=>let ⟨_,e,_⟩:=T.obj _ _ st b a;a6 e;have zc:q 0 f.heap:=T.keep _ _ _ st λb _ o e=>zi b o e;have l:∀b∈fp,gy X J h b:=λb a=>⟨by rw[<-ym,ai (bp (xj b a))];exact(yf b a).1,(yf b a).2⟩
 have yj:∀b∈fp,∃o,f.heap.get? b=ih o:=λb a=>let ⟨o,e,_⟩:=T.obj _ _ zc b a;⟨o,e⟩;refine Hn λU V zf zj xk=>?_;have M:Inv (dG X N' scope f h fp) [] (pick Qf σ) h { f with heap:=U }:=Jo I S l yj V zf zj xk;have xd:q 0 ({ f with heap:=U }:Gb).heap:=T.keep _ _ _ zc λb _ o e=>zf b o e;obtain⟨zm,xn,yn⟩:=a f h fp;obtain⟨W,⟨zn,xo⟩,turn⟩:=L;have P:∀{Y:Hp},(∀b∈fp,Y b=none) ->∀b∈fp,gy (dG X N' scope f h fp) [] Y b:=λV b a =>
  ⟨V b a,(M.ok.jH b a).1,M.ok.iZ b a,.inl a,λx c e=>(M.ok.jH b a).2 x c e,λp L=>absurd (show p∈([]:am (FG×Ys)) from L) (by simp)⟩
 have yc:codeAny X.ef X.A (.compLoop e 0 (.ref it) (.ref s2.ax) (AQ scope f.ax X.env))
   (RR (.ref s2.ax) f.ax) { f with heap:=U }:=by
  refine GG F (λn s'=>∃i y j Y,Inv (dG X N' scope f h fp) [] j Y s'/\q i s'.heap/\(∀b∈fp,Y b=none)/\W i n y j Y) ?_ zn ⟨0,_,_,h,M,xd,λb a=>(l b a).1,xo⟩;rintro n xg ⟨i,y,j,O,yg,yd,zd,xa⟩;have xa:=turn i n y j O xa;rcases xa with⟨stop,yo⟩|⟨zo,step⟩
  ·refine aI (T.done (dG X N' scope f h fp) rfl rfl rfl ze i [] xg j O _ yg (P zd) yd stop) λr zg ⟨ya,t⟩=>?_
   subst ya;refine zl _ _ _ ⟨_,O,rfl,?_,?_,?_,yo⟩
   ·exact I.uc (s':=zg) (ch:=fp) t.os t.base t.aD t.bare λb a=>⟨(l b a).2.2.2.1,(l b a).2.1,(l b a).2.2.2.2.1,(l b a).2.2.2.2.2⟩
   ·exact I.il (aG _) t.free
   ·obtain⟨m,k,_⟩:=t.loc
    exact⟨m,k⟩
  ·refine aI (T.item (dG X N' scope f h fp) rfl rfl rfl ze i [] xg j O _ yg (P zd) yd zo) λr zg aa=>?_;obtain⟨u,ya,xp⟩:=aa
   subst ya;refine aI xp λ_ xh aa=>?_;obtain⟨x,yh,yp,zp,y7,R,yk⟩:=aa;have zk:=yp.pinned (P yk) (T.obj _ _ R);refine aI (zm _ xh j yh x u _ zk zp (step x yh y7)) λ_ xq aa=>?_;obtain⟨xe,yq,zq,xr⟩:=aa;refine aI (xn _ xq xe yq _ zq xr) λb yr aa=>?_;obtain⟨zr,zh,xi⟩:=aa;have again:∀{za:G}{D:St}{Y:Hp}{s':Gb}{v:Nat},Inv (dG X N' scope f h fp) ([]++nA fp xh.heap) D Y s'->v<n->W (i+1) v za D Y ->
     ∃m,m<n /\∃i y j Y,Inv (dG X N' scope f h fp) [] j Y s'/\q i s'.heap/\(∀b∈fp,Y b=none)/\W i m y j Y:=λ{za D Y s' v} xb k B=>by
    refine⟨v,k,i+1,za,D,Y,xb.o4,T.keep _ _ _ R λb a o e=>(xb.pin (b,o) (et _ (et _ (oT a e)))).1,λb a=>?_,B⟩;obtain⟨o,e,d⟩:=T.obj _ _ R b a;exact(xb.pin (b,o) (et _ (et _ (oT a e)))).2.1
   cases b with
   |false =>
    obtain⟨v,k,B⟩:=xi;exact again zh k B
   |true=>exact aI (yn _ yr xe zr _ y _ zh xi) λ_ xt ⟨yt,zt,xl,v,k,B⟩=>again xl k B
 exact GA F yc (T.self X.A 0 _ _ _ xd yc)
theorem Aa{e:It}{f:Nat->XY->Prop}{g:TG}{RR:i'->FG->Result->Gb->Prop}(h:X.calm=true)(S:bJ X.N X.env.scope N' Qf scope)
  (j:Inv X J σ H2 s2) (T:Turn X.prog X.w X.K tg e fp it f) (st:f 0 s2.heap) (k:∀b∈fp,gy X J H2 b)
  (c:∀s H fp,PG (dG X N' scope s H fp) tg g/\l8 (dG X N' scope s H fp) Qi ti/\PE (dG X N' scope s H fp) Qm te)
  (l:∀p,H2 p=none->hF e g ti te (pick Qf σ) Q p H2) (n:∀a C s',CompEnd X J σ Q a C s'->RR a C (.ok .next) s') :
  wA X (newList []) (λa o=>wA X (newFunctionEnv scope X.env.globals (eX X.env.cells scope.names []) [] X.env.qual none .none (ih X.env)) (λd q =>
   codeAny X.ef X.A (.compStart (.ListComp Qm [⟨tg,iter,Qi,0⟩] scope pos) 0 (.ref it) a { d with scope:=relabel scope X.env }) (RR a d.locals) q) E o) E s2:=by
 refine HR (y0:=[]) ID h S j T st k Jp (λs H fp=>⟨(c s H fp).1,(c s H fp).2.1,Ku (c s H fp).2.2⟩) (λp r=>?_) n;obtain⟨W,h0,st⟩:=l p r;exact⟨W,h0,λi m ys t H w=>(st i m ys t H w).2⟩
theorem cj{d:TI}{g:TG}(j:X.calm=true)(S:bJ X.N X.env.scope N' Qf scope)(hi:PI X tg iter d)
  (a:∀s H fp,PG (dG X N' scope s H fp) tg g/\l8 (dG X N' scope s H fp) Qi ti/\PE (dG X N' scope s H fp) Qm te)
  (hs:∀x,foldedSetIterable iter X.env x=pure x:=by intro _;rfl):PE X (.ListComp Qm [⟨tg,iter,Qi,0⟩] scope pos) (CQ d Qf g ti te):=by
 intro J s σ H Q I h;rw[eval_ListComp];refine US (use:=none) rfl hs (wh λn k=>r5 I S k) S.kind (λx l r=>mL S.keys (by rw[<-r];exact l)) ?_
 refine aI (hi J s σ H _ I h) λv s1 U=>aI U λB s2 h2=>?_;obtain⟨it,fp,D,E,H2,e,t,T,f,u,w⟩:=h2;subst e;refine Aa (RR:=λc C=>compPost X.ef X.A X.xe none (EP X J σ Q) c C) j S t T f u a w ?_;rintro c C s' ⟨p,Y,rfl,y,fC,⟨m,z⟩,q⟩;refine⟨m,z,λh' i=>⟨.ref p,Y,?_,rfl,q⟩⟩;exact y.turned (it:=C) (t':=s'.toks) (λb o a e=>(i.2 b a).trans e) fC.1 fC.2.1 fC.2.2.2.1 fC.2.2.2.2.1 fC.2.2.2.2.2
theorem mR{l:TI}{g:TG}{j:ZV}(F:X.calm=true)(S:bJ X.N X.env.scope N' Qf scope)(G:X.N.Nodup)(d:X.N[i]?=ih x)(c:X.env.scope.names.lookup x=ih .local)(hi:PI X tg iter l)
  (f:∀s H fp,PG (dG X N' scope s H fp) tg g/\l8 (dG X N' scope s H fp) Qi ti/\PE (dG X N' scope s H fp) Qm te)
  (r:swapsWith (.ListComp Qm [⟨tg,iter,Qi,0⟩] scope pos) (ih (.Name x Qj)) j.line X.env=pure true:=by rfl)
  (hs:∀x,foldedSetIterable iter X.env x=pure x:=by intro _;rfl):PS X (.Assign [.Name x Qj] (.ListComp Qm [⟨tg,iter,Qi,0⟩] scope pos) j) (qw (CQ l Qf g ti te) (iQ i)):=by
 intro J s σ H D I h;rw[exec_Assign_Name_used _ _ _ _ r];refine ae (mC (ae ?_));show UB _ X.A (do let _ <- comprehension (.ListComp Qm [⟨tg,iter,Qi,0⟩] scope pos) scope X.env _ (newList []) false (eval iter X.env) (ih (assign (.Name x Qj) X.env))) _ _ s;refine ae (aI (US (use:=ih (assign (.Name x Qj) X.env)) (Q:=λ_ s'=>SP X J D .next s') rfl hs (wh λn K=>r5 I S K) S.kind (λx d c=>mL S.keys (by rw[<-c];exact d)) ?_) λ_ s' L=>aj (aj L))
 refine aI (hi J s σ H _ I h) λv s1 U=>aI U λW s2 h2=>?_;obtain⟨it,fp,xa,ya,H2,e,M,T,t,O,P⟩:=h2;subst e;refine Aa (Q:=λv Y=>D.nx (σ.set i (ih v)) Y) (RR:=λk C=>compPost X.ef X.A X.xe (ih (assign (.Name x Qj) X.env)) (λ_ s'=>SP X J D .next s') k C) F S M T t O f P ?_;rintro k C s' ⟨p,Y,rfl,R,fC,⟨m,V⟩,q⟩;show wA X (assign (.Name x Qj) X.env (.ref p)) _ _ s';refine wpAny_assign_Name (w3 (v:=.ref p) R G d (.inl c) rfl (λu w aa=>?_) (.inr c));obtain⟨a,y,ha⟩:=aa;have B:C≠a:=by
  rcases ha with ha|ha
  ·rw[ha];exact fC.2.1
  ·exact λz=>fC.2.2.2.2.1 _ _ ha z.symm
 refine⟨m,V.sameBut y B,λh' E=>⟨_,Y,?_,q⟩⟩;exact w.turned (it:=C) (t':=u.toks) (λb o f e=>(E.2 b f).trans e) fC.1 fC.2.1 fC.2.2.2.1 fC.2.2.2.2.1 fC.2.2.2.2.2
end
end L2
namespace L2
open Spec PyProof.Rows W Builtin.ObjectAttr
abbrev uY:List i':=[.type "ValueError",.type "Exception",.type "BaseException",.type "object"]
def f9(K:Yh)(C:FG)(i:Option i'):Bool:=
  match K.lookup C with
  |some ⟨.type "type",_,.cls cls,slots⟩ =>
    (match cls.mro with
     |.ref C'::up=>C'==C&&((slots.toList.length==6&&slots.toList[4]? == ih (ih (.builtin "ValueError.__new__")))&&(!cls.hasDel&&(tailIn K uY up&&(nsOkIn K cls.ns&&nsIn K cls.ns "__init__" == ih i))))
     |_=>false)
  |_=>false
theorem OS{α:Type}{l:am α}(h:l.length=6):∃a b c d e f,l=[a,b,c,d,e,f]:=by
 rcases l with _|⟨a,_|⟨b,_|⟨c,_|⟨d,_|⟨e,_|⟨f,_|⟨g,l⟩⟩⟩⟩⟩⟩⟩ <;> simp at h
 exact⟨a,b,c,d,e,f,rfl⟩
theorem HV{N:FG}{a:F4->Option i'}{n:F4}{v:i'}(X:K.In h)(G:h.Ns N a)(e:nsIn K N n=ih (ih v)):a n=ih v:=by
 obtain⟨g,f,_,b,c,_,look⟩:=G;unfold nsIn at e;split at e
 next _ _ _ _ _ q =>
  have two:=X _ _ q;rw[b]at two;cases two;cases c
  split at e
  next i d =>
   cases e
   rw[<-look,nsFind,findBy,<-UD,d];rfl
  next=>split at e <;> cases e
 next=>cases e
structure ExcAt(h:XY)(C:FG)(i:Option i'):Prop where
 ex:∃bm N nm q bs OT sn sub ab PZ dd k0 k1 k2 k3 k5 mN,h.get? C=ih (excClassObj nm q C N bs bm OT sn sub ab PZ dd k0 k1 k2 k3 k5 "ValueError.__new__")/\h.Ns N mN/\mN "__init__" = i/\OwnTail h uY bm
theorem r6{i:ap i'}(X:K.In h)(q:f9 K C i=true):ExcAt h C i:=by
 unfold f9 at q;split at q
 next od b a l =>
  split at q
  next J s t =>
   obtain⟨u,q⟩:=gn.mp q;obtain⟨p2,q⟩:=gn.mp q;obtain⟨w,q⟩:=gn.mp q;obtain⟨x,q⟩:=gn.mp q;obtain⟨p5,p6⟩:=gn.mp q;have z:=fX.mp u;obtain⟨p7,A⟩:=gn.mp p2;obtain⟨c,d,e,f,y,g,es⟩:=OS (fX.mp p7);have j:=fX.mp A;rw[es]at j;have B:b.hasDel=false:=by simpa using w
   have k:=fX.mp p6;subst z;cases j
   obtain⟨D,bs,m,ns,E,F,G,H,I,n,o⟩:=b;have p:m=_:=t;have r:o=false:=B;subst p r;obtain rfl:a = #[c,d,e,f,ih (.builtin "ValueError.__new__"),g]:=by cases a;exact c4 Array.mk es
   refine⟨⟨s,ns,D,E,bs,F,G,H,I,n,od,c,d,e,f,g,h.nsMap ns,X _ _ l,.of_isNs (isNs_of_in X p5),?_,tail_of_in X x⟩⟩;cases i with
   |none=>exact nsMap_none_of_in X p5 k
   |some v=>exact HV X (.of_isNs (isNs_of_in X p5)) k
  next=>cases q
 next=>cases q
def ue:List i'->Bool
 |.ref _::r=>ue r
 |l=>l==uY
structure fA(K:Yh)(C:FG):Prop where
 ga:Zr K (.ref C) "__getattribute__" = ih (ih (.builtin "BaseException.__getattribute__"))
 gh:Zr K (.ref C) "__getattr__" = ih none
 sa:Zr K (.ref C) "__setattr__" = ih (ih (.builtin "object.__setattr__"))
 hd:hasDictIn K C=true
 ov:((clsIn K C).any λcd=>ue cd.mro)=true
 be:mroIn K C (.type "BaseException")=ih true
 ve:mroIn K C (.type "ValueError")=ih true
 ob:mroIn K C (.type "object")=ih true
 ka:Zr K (.ref C) "__class__" = ih (ih (.builtin "object.__class__"))
 kn:specialIn K (.builtin "object.__class__") "__get__" = ih (ih (.builtin "getset_descriptor.__get__"))
 kt:takesIn K (.builtin "object.__class__")=ih true
section
variable{x:FG}{od:ap Ys}
theorem IE{tk:Tok}{fill a:Bool}{Q:i'->Gb->Prop}(X:K.In s.heap)(I:InstAt s.heap x ox C od)(c:fA K C)
  (h:UB (UP prog w) A.in1 (Ye.«object.__getattribute__» ⟨[.ref x,.str name tk],[]⟩) (λb s'=>match b with|.done (.ret v)=>UB (UP prog w) A (handedOut v) Q E s'|_=>False) (λ_ _=>False) s) :
  UB (UP prog w) A (getAttrBy (.ref x) (.str name tk) fill a) Q E s:=by
 have g:=I.type (M:=UP prog w);have i:=looks_findIn (M:=UP prog w) X c.ga;have L2:=looks_findIn (M:=UP prog w) X c.gh;have sub:Looks (UP prog w) s.heap (isInstance (.ref x) (.type "BaseException")) true:=I.type.andThen (looks_mroIn X c.be);have e:(YF "BaseException.__getattribute__" == YF "object.__getattribute__")=false:=by decide +kernel
 have f:(onTheHeap (U3 C)&&YF "BaseException.__getattribute__" == YF "object.__getattribute__")=false:=by rw[e];rfl
 have j:builtinKind "BaseException.__getattribute__" = ih .slot:=by decide +kernel
 have d:splitId "BaseException.__getattribute__" = ih ("BaseException","__getattribute__"):=by decide +kernel
 unfold getAttrBy;refine de (ae (g.here (ae (i.here ?_))))
 dsimp only
 rw[f];show UB _ _ (getAttrByItsOwn _ _ _ _ _ _) _ _ _;unfold getAttrByItsOwn hookBefore;refine ae ?_;rw[aw (show onTheHeap (U3 C)=true from rfl)];refine L2.here (ae (rk (de ?_)));unfold callGetattribute;rw[ak (show ¬ (a&&onTheHeap (YF "BaseException.__getattribute__"))=true by cases a <;> decide)]
 unfold boundAndCalled;rw[UT.ga.bind];refine ae (aj (mF (FT UT.ga.plain PySem.F.entry_bexc_ga (@check_slot (UP prog w) _ _ s "BaseException.__getattribute__" "BaseException" "__getattribute__" (.ref x) [.str name tk] [] _ j d sub (PySem.F.args_bexc_ga _ _) ?_))));refine gU h (λb s' z=>?_) λ_ _ z=>z.elim;rcases b with(_|_|_|_)|_ <;> first|exact z|exact z.elim
theorem IF{Q:ap i'->Gb->Prop}(X:K.In s.heap)(I:InstAt s.heap x ox C od)(c:fA K C)(h:Q (ih (.ref C)) { s with toks:=s.toks+1 }):UB (UP prog w) A (getAttr? (.ref x) "__class__") Q E s:=by
 have a:findObj K C od "__class__" = ih (.bind (.builtin "getset_descriptor.__get__") (.builtin "object.__class__")):=by
  obtain⟨cd,b,_⟩:=any_some c.hd;unfold findObj;rw[b,oE,c.ka,oE]
  dsimp only
  rw[c.kn,oE]
  dsimp only
  rw[c.kt,oE]
 unfold getAttr? getAttrBy?;refine ae (wpAny_mkText (ae (rk ?_)));have d:=I.type (M:=UP prog w);have e:=looks_find (M:=UP prog w) X I a;refine IE (s:={ s with toks:=s.toks+1 }) X I c ?_;refine ae (aj (ae (aj (ae (aa1 (s:={ s with toks:=s.toks+1 }) d (ae (aa1 (s:={ s with toks:=s.toks+1 }) e ?_)))))));show UB _ _ (holding [.builtin "object.__class__"] (call (.builtin "getset_descriptor.__get__") [.builtin "object.__class__",.ref x,.ref C]) >>= ret) _ _ _;refine ae (de (mF (class_get (s:={ s with toks:=s.toks+1 }) (ox:=ox) (od:=od) X I c.ob ?_)));exact aj (handed_on rfl (aj h))
theorem HW{M:Zu}(X:K.In h)(c:fA K C):Looks M h (isType (.ref C)) true:=by
 obtain⟨d,a,_⟩:=any_some c.hd;unfold clsIn at a;split at a
 next b =>
  intro e f g s' k q;exact ae (wpAny_loadPart (part:=ih headPart) (k _ _ (X _ _ b)) (aj q))
 next=>cases a
theorem ly(c:fA K C):KitX K (.ref x) (.ref C) (λh=>InstAt h x ox C od) where
 ty:=λ_ _ _ I=>I.type
 it:=λ_ _ X _=>HW X c
 ne:=λh tp _ _ _ _ X tup=>by
  obtain⟨d,a,_⟩:=any_some c.hd;cases q:(U3 C == .ref tp) with
  |false=>rfl
  |true =>
   have e:C=tp:=ab6 (fX.mp q);unfold clsIn at a;split at a
   next b =>
    have two:=(X _ _ b).symm;rw[e,tup]at two;cases two
   next=>cases a
 ca:=λX I k=>IF X I c k
end
theorem bc.there{o:HO}(x:bc P w H h a o):∃ob,h.get? a=ih ob:=by
 cases o with
 |lst xs=>obtain⟨_,_,_,_,e⟩:=x;exact⟨_,e⟩
 |tup xs=>obtain⟨_,_,_,ob,e,_⟩:=x;exact⟨_,e⟩
 |dK kvs=>obtain⟨_,_,_,_,o,_,_,e,_⟩:=x;exact⟨_,e⟩
 |dT kvs=>obtain⟨_,_,_,_,o,_,_,e,_⟩:=x;exact⟨_,e⟩
 |set S n=>obtain⟨o,_,_,_,e,_⟩:=x;exact⟨_,e⟩
 |ins C dx fs=>obtain⟨_,_,_,e,_⟩:=x;exact⟨_,e⟩
 |own y=>exact x
 |xd fs=>obtain⟨_,⟨_,_,_,e,_⟩,_⟩:=x;exact⟨_,e⟩
 |n9 lo hi=>obtain⟨_,_,_,e⟩:=x;exact⟨_,e⟩
 |aX ob u=>obtain⟨e,_⟩:=x;exact⟨_,e⟩
 |i5 ps=>exact⟨_,x⟩
 |met f y=>exact⟨_,x⟩
 |ext b=>exact x.2.1
section
variable{o:HO}
theorem Inv.Cg(I:Inv X J σ H s)(e:s.heap.get? a=none):H a=none:=by
 cases q:H a with
 |none=>rfl
 |some u =>
  obtain⟨b,z⟩:=(I.aD a u q).there;rw[e]at z;cases z
theorem Inv.put(I:Inv X J σ H s)(k:∀b u,s.heap.get? b=ih u->h'.get? b=ih u)(e:s.heap.get? a=none)(new:bc X.prog X.w (upd H a o) h' a o):Inv X J σ (upd H a o) { s with heap:=h' }:=by
 have d:=I.Cg e;have ne:∀b u,s.heap.get? b=ih u->b≠a:=λb u q z=>by rw[z,e]at q;cases q
 refine I.un (t':=s.toks) ⟨λb u q n _ _=>k b u q,λb u q n _ _=>⟨u.slots,k b u q⟩,λb u q n _=>by rw[ai (ne b u q)];exact n,λb u q _=>⟨u,k b u q⟩,λb xs q=>by rw[ai (aB q d)];exact q,
  λb u v q=>by rw[ai (aB q d)];exact q,λb ps q=>⟨#[],by rw[ai (aB q d),q];simp⟩⟩ λb u q=>?_
 by_cases f:b=a
 ·subst f;rw[ah]at q;cases q;exact new
 ·rw[ai f]at q
  exact(I.aD b u q).en (λc v _ z=>k c v z) (λc z=>by rw[ai (aB z d)];exact z) λc xs z=>by rw[ai (aB z d)];exact z
end
def hI(C:FG)(dx:Option FG)(a:FG):HO:=.ext λh=>∃t,h.get? a=ih { cls:=.ref C,dict:=dx,data:=.fields #[.ref t,.none,.none,.none,.bool false,.none] }
def gz(d:FG)(fs:List (F4×V)):HO:=.ext λh=>fs.length<=100 /\∃mA,h.Ns1 d mA/\(∀f,gb (fs.lookup f) (mA f))/\Y7 mA (fs.map (·.1))
section
variable{fs:am (F4×V)}
theorem Kv{t:FG}(e:h.get? a=ih { cls:=.ref C,dict:=dx,data:=.fields #[.ref t,.none,.none,.none,.bool false,.none] }):bc P w H h a (hI C dx a):=
 ⟨⟨t,e⟩,⟨_,e⟩,λ_ _ ⟨t,q⟩ k=>⟨t,k _ q⟩⟩
end
section
variable{fs:am (F4×V)}{f:F4}
theorem Inv.excAt(I:Inv X J σ H s)(e:H a=ih (hI C dx a)):∃t,s.heap.get? a=ih { cls:=.ref C,dict:=dx,data:=.fields #[.ref t,.none,.none,.none,.bool false,.none] }:=(I.aD a _ e).1
theorem Inv.pq(I:Inv X J σ H s)(e:H d=ih (gz d fs)):fs.length<=100 /\∃a,s.heap.Ns1 d a/\(∀f,gb (fs.lookup f) (a f))/\Y7 a (fs.map (·.1)):=(I.aD d _ e).1
end
end L2
namespace L2
open Spec PyProof.Rows W
mutual
inductive Rep(H:Hp):V->UA->Prop where
 |aN:Rep H .aN .none
 |bl (b:Bool):Rep H (.bl b) (.bool b)
 |int (i:Int):Rep H (.int i) (.int i)
 |str (x:F4):Rep H (.str x) (.str x)
 |lst {a:FG}{xs:List V}{ds:List UA}:H a=ih (.lst xs)->bL H xs ds->Rep H (.ref a) (.list ds)
 |tup {a:FG}{xs:List V}{ds:List UA}:H a=ih (.tup xs)->bL H xs ds->Rep H (.ref a) (.tuple ds)
inductive bL(H:Hp):List V->List UA->Prop where
 |nil:bL H [] []
 |cons {x:V}{d:UA}{xs:List V}{ds:List UA}:Rep H x d->bL H xs ds->bL H (x::xs) (d::ds)
end
section
mutual
theorem Rep.reads(I:Inv X J σ H s):∀{v:V}{d:UA}{u:i'},Rep H v d->RelV v u ->∃as,Reads s.heap u d as
 |_,_,_,.aN,r=>by cases r;exact⟨_,.none⟩
 |_,_,_,.bl b,r=>by cases r;exact⟨_,.bool b⟩
 |_,_,_,.int i,r=>by obtain⟨t,rfl⟩:=r;exact⟨_,.int i t⟩
 |_,_,_,.str x,r=>by obtain⟨t,rfl⟩:=r;exact⟨_,.str x t⟩
 |_,_,_,.lst (a:=a) (xs:=xs) e f,r=>by
  cases r
  obtain⟨_,its,n,g,c⟩:=(show bc X.prog X.w H s.heap a (.lst xs) from I.aD a _ e);obtain⟨as,h⟩:=bL.reads I f g;exact⟨_,.list c rfl rfl h⟩
 |_,_,_,.tup (a:=a) (xs:=xs) e f,r=>by
  cases r
  obtain⟨_,its,g,l,c,j,n,k,_⟩:=(show bc X.prog X.w H s.heap a (.tup xs) from I.aD a _ e);obtain⟨as,h⟩:=bL.reads I f g;exact⟨_,.tuple c j k h⟩
theorem bL.reads(I:Inv X J σ H s):∀{vs:am V}{ds:am UA}{us:am i'},bL H vs ds->Vals vs us ->∃as,ReadsAll s.heap us ds as
 |_,_,_,.nil,r=>by cases r;exact⟨_,.nil⟩
 |_,_,_,.cons r a,b=>by
  cases b with
  |cons q c =>
   obtain⟨as,U⟩:=Rep.reads I r q;obtain⟨bs,h2⟩:=bL.reads I a c;exact⟨_,.cons U h2⟩
end
mutual
theorem Rep.same:∀{v:V}{d:UA},Rep H v d->ao H Y->Rep Y v d
 |_,_,.aN,_=>.aN
 |_,_,.bl b,_=>.bl b
 |_,_,.int i,_=>.int i
 |_,_,.str x,_=>.str x
 |_,_,.lst e a,k=>.lst (k _ _ e) (bL.same a k)
 |_,_,.tup e a,k=>.tup (k _ _ e) (bL.same a k)
theorem bL.same:∀{vs:am V}{ds:am UA},bL H vs ds->ao H Y->bL Y vs ds
 |_,_,.nil,_=>.nil
 |_,_,.cons r a,k=>.cons (Rep.same r k) (bL.same a k)
end
end
def DE:R2:=λx y H Q=>∃da db,Rep H x da/\Rep H y db/\da.canLay0=true/\db.canLay0=true/\da.depth<=60/\Q (.bl (Zj da db)) H
def DF:R2:=λx y H Q=>∃da db,Rep H x da/\Rep H y db/\da.canLay0=true/\db.canLay0=true/\da.depth<=60/\Q (.bl (!Zj da db)) H
theorem tR(g:X.A.units+64<Yq):bW X (XR .Eq) DE:=by
 rintro J s σ H x y v u Q I a b ⟨i,db,c,d,e,f,j,q⟩;obtain⟨k,U⟩:=c.reads I a;obtain⟨bs,h2⟩:=d.reads I b;exact ZF U h2 e f (by omega) ⟨.bl _,H,I,rfl,q⟩
theorem tS(g:X.A.units+64<Yq):bW X (XR .NotEq) DF:=by
 rintro J s σ H x y v u Q I a b ⟨i,db,c,d,e,f,j,q⟩;obtain⟨k,U⟩:=c.reads I a;obtain⟨bs,h2⟩:=d.reads I b;exact ZE U h2 e f (by omega) ⟨.bl _,H,I,rfl,q⟩
def Nh(H:Hp)(x:V):Prop:=(∃z:F4,x=.str z/\z.length<=100000)\/x=.aN \/∃a d,x=.ref a/\Rep H x d/\d.showable=true/\d.hasDict=false/\d.depth<=50/\d.shown.length<=100000
def OU(te:TE):TE:=λσ H Q=>te σ H λx H1=>Nh H1 x /\∀y:F4,y.length<=100000->Q (.str y) H1
theorem L5(o:X.A.units+64<Yq)(i:X.A.guards=ih [])(j:PE X e te):PE X (.FormattedValue e (-1) none pos) (OU te):=by
 intro J s σ H Q I h;refine wpAny_FormattedValue_plain (aI (j J s σ H _ I h) λv s1 y=>?_);obtain⟨x,H1,b,c,f,q⟩:=y;rcases f with⟨z,rfl,g⟩|rfl|⟨a,d,rfl,l,hs,m,p,n⟩
 ·obtain⟨t,rfl⟩:=c
  exact wpAny_formatField_str ⟨.str z,H1,b,⟨_,rfl⟩,q z g⟩ ⟨.str z,H1,b.tok _,⟨_,rfl⟩,q z g⟩ (by rw[aJ];omega)
 ·cases c
  exact wpAny_formatField_none ⟨.str "None",H1,b.tok _,⟨_,rfl⟩,q _ (by decide)⟩
 ·obtain⟨w,r⟩:=l.reads b c
  cases c
  exact formatField_of_reads r hs (λz=>by rw[m]at z;cases z) i (by omega) (λ_ _ z=>z) (λh' u tk k=>⟨.str d.shown,H1,b.kept k,⟨_,rfl⟩,q _ n⟩) (by rw[aJ];omega)
def PJ(X:Cx)(vs:List Vo)(n:Nat)(t:St->Hp->(Hp->Prop)->Prop):Prop:=
 ∀J s σ H (cy:F4) (Q:Hp->Prop),cy.length+n * 100000<=2000000->Inv X J σ H s->t σ H Q ->
  Joins X.ef X.A X.xe (evalEach vs X.env) cy (λout s1=>out.length<=2000000 /\∃H1,Inv X J σ H1 s1/\Q H1) s
def L6(te:TE)(tr:St->Hp->(Hp->Prop)->Prop):St->Hp->(Hp->Prop)->Prop:=λσ H Q=>te σ H λx H1=>(∃y:F4,x=.str y/\y.length<=100000)/\tr σ H1 Q
def L7:St->Hp->(Hp->Prop)->Prop:=λ_ H Q=>Q H
theorem L8:PJ X [] 0 L7:=λJ s σ H a Q b I h=>⟨by omega,H,I,h⟩
theorem Bz{v:Vo}{vs:am Vo}{b:St->Hp->(Hp->Prop)->Prop}(d:PE X v te)(f:PJ X vs n b):PJ X (v::vs) (n+1) (L6 te b):=by
 intro J s σ H a Q j I h;refine aI (d J s σ H _ I h) λu s1 ⟨x,H1,g,i,⟨y,e,k⟩,q⟩=>?_;subst e;obtain⟨t,rfl⟩:=i;have c:(a++y).length=a.length+y.length:=strLen_append ..;exact⟨y,t,rfl,by rw[c,aJ];omega,f J s1 σ H1 (a++y) Q (by rw[c];omega) g q⟩
def Ni(tr:St->Hp->(Hp->Prop)->Prop):TE:=λσ H Q=>tr σ H λH1=>∀y:F4,y.length<=2000000->Q (.str y) H1
theorem Kw{f g:Vo}{rest:am Vo}{i:St->Hp->(Hp->Prop)->Prop}(j:PJ X (f::g::rest) n i)(u:n<=20:=by decide):PE X (.JoinedStr (f::g::rest) pos) (Ni i):=by
 intro J s σ H Q I h;have z:=j J s σ H aad _ (by have:aad.length=0:=rfl;omega) I h
 refine wpAny_JoinedStr ?_;have mono:∀(l:am (Zi i')) (c:F4) (P b:F4->Gb->Prop) (s:Gb),(∀o s,P o s->b o s)->Joins X.ef X.A X.xe l c P s->Joins X.ef X.A X.xe l c b s:=by
  intro l
  induction l with
  |nil=>intro c P b s k q;exact k _ _ q
  |cons a l m=>intro c P b s k q;exact aI q λv s1 ⟨y,t,e,d,p⟩=>⟨y,t,e,d,m _ P b s1 k p⟩
 refine mono _ _ _ _ _ ?_ z;rintro o s1 ⟨d,H1,r,q⟩;exact⟨by rw[aJ];omega,.str o,H1,r.tok _,⟨_,rfl⟩,q o d⟩
end L2
namespace L2
open Spec PyProof.Rows W
section
variable{CX:gD}{k:Nat}{E:XK}{p:ZV}{t:TA}
theorem Jq(q:f9 X.K C none=true)(I:Inv X J σ H s)(j:us.length<=100)(h:∀e,H e=none->Q (.ref e) (upd H e (hI C none e))):wA X (call (.ref C) us) (EP X J σ Q) X.xe s:=by
 obtain⟨⟨l,N,n,o,bs,p,r,u,v,k,od,w,x,y,z,A,B,b,ns,f,T⟩⟩:=r6 I.cm q;obtain⟨a,g,d,tk,os⟩:=s;refine wpAny_call_exc_subT PySem.F.excBase_ValueError T b ns f (λh' e m=>?_) (by rw[aJ];omega)
 obtain⟨i,new,t,c,_,_⟩:=m;exact⟨.ref e,_,Inv.put (s:=⟨a,g,d,tk,os⟩) I i new (Kv c),rfl,h e (Inv.Cg (s:=⟨a,g,d,tk,os⟩) I new)⟩
def Nj(C:FG)(t:TA):TE:=λσ H Q=>t σ H λvs H1=>vs.length<=100 /\∀e,H1 e=none->Q (.ref e) (upd H1 e (hI C none e))
theorem pw(q:f9 X.K C none=true)(f:Yb X.K (.ref C)=true)(g:Gl X x)(i:X.mg x=ih (.ref C))(j:PA X (e::es) t)(b:(x==("__debug__" : F4))=false:=by decide)
  (k:U6 (e::es) X.env=(false,eval e X.env)::U6 es X.env:=by rfl) (c:(backTo pos (U6 es X.env)).any (·.1)=false:=by rfl):PE X (.Call (.Name x p) (e::es) [] pos) (Nj C t):=by
 intro J s σ H Q I h;refine mG (lF I g i ?_ b);refine callWith_K (h₀:=X.base) I.ok.mod.kL f (aI (j pos J s σ H _ I h) λus s1 ⟨vs,H1,a,r,d,l⟩=>⟨a.cm,?_⟩) k c;exact Jq q a (by show us.length<=100;rw[<-r.length];exact d) l
end
section
variable{o:Vo}{f:F4}{tv:TE}
def DG(K:Yh):List V->Hp->VK->Prop:=λxs H Q=>∃x c t cv b,xs=[x,c]/\RelV c cv/\(gc K H x t \/∃a C dx,x=.ref a/\t=.ref C/\H a=ih (hI C dx a)/\fA K C/\(∀d,dx=ih d ->∃fs,H d=ih (gz d fs)))/\kitOne K t cv=ih b/\Q (.bl b) H
theorem eR:bY X (.builtin "isinstance") (λxs H Q=>(∃x,(∃C,xs=[x,.ref C])\/(∃T,xs=[x,.ty T]))/\DG X.K xs H Q):=by
 rintro J s σ H xs us Q I r ⟨o,x,c,t,p,b,rfl,j,ty,e,q⟩;obtain⟨u,v,rfl,k,g⟩:=r.two;have l:v=p:=by
  obtain⟨B,⟨C,z⟩|⟨T,z⟩⟩:=o
  ·cases z;cases j;cases g;rfl
  ·cases z;cases j;cases g;rfl
 subst l;rcases ty with ty|⟨a,C,dx,rfl,rfl,w,c,y⟩
 ·exact IA I k ty e λtk=>⟨.bl b,H,I.tok _,rfl,q⟩
 ·cases k
  obtain⟨t,i⟩:=I.excAt w;cases dx with
  |none =>
   have f:InstAt s.heap a _ C none:=⟨i,rfl,rfl,XW⟩;exact kia_one (ly c) I.cm f e (λz=>nomatch z) λtk=>⟨.bl b,H,I.tok _,rfl,q⟩
  |some d =>
   obtain⟨fs,A⟩:=y d rfl;obtain⟨_,D,n,_⟩:=I.pq A;obtain⟨od,m,_⟩:=mV n;have f:InstAt s.heap a _ C (ih od):=⟨i,rfl,rfl,m⟩;exact kia_one (ly c) I.cm f e (λz=>nomatch z) λtk=>⟨.bl b,H,I.tok _,rfl,q⟩
end
def oj(K:Yh)(l:FG):It:=
 ⟨λi H=>∃xs x,aq K H l xs/\xs[i]?=ih x,λi H x Y=>∃t v,H t=none/\x=.ref t/\(∀xs,aq K H l xs->xs[i]?=ih v)/\Y=upd H t (.tup [.int i,v]),λi H=>∃xs,aq K H l xs/\xs.length<=i⟩
theorem IG(l e it:FG)(S:e≠it) :
  Turn P w K (.Tuple Qt n1 tp) (oj K l) [e,it] e (λi h=>(∃g,IsEnum h e it i g)/\h.IsListIter it l i) where
 mem:=by simp
 obj:=λi h st b a=>by
  obtain⟨⟨g,U⟩,h2⟩:=st;rcases bu.mp a with z|z
  ·subst z;exact⟨_,U,λv q=>by cases q⟩
  ·have B:b=it:=by simpa using z
   subst B;obtain⟨o,q,_,d⟩:=h2;exact⟨o,q,λv z=>by rw[d]at z;cases z⟩
 keep:=λi h h' st k=>by
  obtain⟨⟨g,U⟩,h2⟩:=st;exact⟨⟨g,k e (by simp) _ U⟩,h2.at λo q=>k it (by simp) o q⟩
 item:=by
  intro X G L M hc i J s σ H E I C st N;subst G L M;obtain⟨xs,x,D,O⟩:=N;obtain⟨its,Q,p,V⟩:=I.list D;obtain⟨u,W,Y⟩:=Q.get O;obtain⟨⟨g,U⟩,h2⟩:=st;have t:=C e (by simp)
  have f:=C it (by simp)
  refine wpAny_pyNext_enum_item U h2 p.isList (x:=u) (by simpa using W) S λh' xa ya za z1 xb=>⟨_,rfl,?_⟩
  refine wpAny_letOwnedTupleGo_enum (s:={ s with heap:=h',toks:=s.toks+1 }) xa λF yb R=>?_;have T:e≠s.heap.objs.size:=bp (a6 U);have y:∀b o,b≠e->b≠it->s.heap.get? b=ih o->F.get? b=ih o:=λb o n1 zb q=>(R.2 b n1).trans (xb b o n1 zb q);have xc:F.get? s.heap.objs.size=ih { cls:=.type "tuple",data:=.seq #[.int i s.toks,u] }:=(R.2 _ (a7 T)).trans za;have A:H s.heap.objs.size=none:=I.aD.fresh (aG _);have lt:∀b o,s.heap.get? b=ih o->b≠s.heap.objs.size:=λb o q=>bp (a6 q);have gR:∀b o,H b=ih o->b≠e/\b≠it:=λb o q=>⟨(λz=>by rw[z,t.1]at q;cases q),(λz=>by rw[z,f.1]at q;cases q)⟩
  have j:∀b,b ∉ [e,it]->b≠e/\b≠it:=λb a=>⟨λz=>a (by simp[z]),λz=>a (by simp[z])⟩
  have yc:Inv X J σ (upd H s.heap.objs.size (.tup [.int i,x])) { s with heap:=F,toks:=s.toks+1 }:=by
   refine I.step (g':=s.gens) (d':=s.drawn) (t':=s.toks+1) (ch:=[e,it]) (λb a=>?_) (λb o _ _ hc q _=>y b o (j b hc).1 (j b hc).2 q) (λb o _ _ hc q _=>⟨o.slots,y b o (j b hc).1 (j b hc).2 q⟩)
    (λb o _ q n=>by rw[ai (lt b o q)];exact n) (λb o hc q=>⟨o,y b o (j b hc).1 (j b hc).2 q⟩) (λb ys q=>by rw[ai (aB q A)];exact q) (λb o v q=>by rw[ai (aB q A)];exact q)
    (λb ps q=>⟨#[],by rw[ai (aB q A),q];simp⟩) (λm zc=>?_) (λb o q=>?_) I.bare
   ·rcases bu.mp a with z|z
    ·subst z;exact⟨t.2.2.2.1,t.2.1,t.2.2.2.2.1,t.2.2.2.2.2⟩
    ·have B:b=it:=by simpa using z
     subst B;exact⟨f.2.2.2.1,f.2.1,f.2.2.2.2.1,f.2.2.2.2.2⟩
   ·obtain⟨o,es,ep,xd,r⟩:=zc
    exact⟨o,es,ep,y _ o (a7 t.2.1) (a7 f.2.1) xd,r⟩
   ·by_cases a:b=s.heap.objs.size
    ·subst a
     rw[ah]at q;cases q;exact⟨by rw[aJ];show 2<=_;decide,[.int i s.toks,u],.cons ⟨_,rfl⟩ (.cons Y .nil),_,xc,rfl,_,rfl,rfl⟩
    ·rw[ai a]at q
     refine(I.aD b o q).en (λc v hc z=>?_) (λc z=>by rw[ai (aB z A)];exact z) λc ys z=>by rw[ai (aB z A)];exact z
     rcases hc with hc|hc
     ·subst hc;exact y _ v (gR _ _ q).1 (gR _ _ q).2 z
     ·exact y c v (gR _ _ hc).1 (gR _ _ hc).2 z
  refine⟨.ref s.heap.objs.size,_,yc,rfl,⟨s.heap.objs.size,x,A,rfl,λys yd=>by rw[I.AL yd D];exact O,rfl⟩,⟨⟨u,yb⟩,?_⟩,λb a=>?_⟩
  ·exact ya.extBut R.extBut (a7 S)
  ·have:b≠s.heap.objs.size:=by
    rcases bu.mp a with z|z
    ·rw[z];exact T
    ·have B:b=it:=by simpa using z
     obtain⟨o,q,_⟩:=h2;rw[B];exact lt _ _ q
   rw[ai this];exact(C b a).1
 done:=by
  intro X G L M hc i J s σ H E I C st N;subst G L M;obtain⟨xs,D,O⟩:=N;obtain⟨its,Q,p,V⟩:=I.list D;obtain⟨⟨g,U⟩,h2⟩:=st;have f:=C it (by simp)
  have xe:=Q.length;exact wpAny_pyNext_enum_end (I.ok.hd hc) U h2 p.isList (by simp;omega) λh' zd=>⟨rfl,I.turned (t':=s.toks) (λb o a q=>zd b o a q) f.1 f.2.1 f.2.2.2.1 f.2.2.2.2.1 f.2.2.2.2.2⟩
 self:=λ_ _ _ _ _ st h=>let ⟨⟨_,U⟩,_⟩:=st;wpAny_pyIter_enum U h
def Nk(K:Yh)(ta:TA):TI:=λσ H R=>ta σ H λvs H1=>∃a,vs=[.ref a]/\(∃xs,aq K H1 a xs)/\R (oj K a) H1
theorem Kx{a:Vo}{ta:TA}{p:ZV}(f:Gl X "enumerate")(g:X.mg "enumerate" = none)(i:PA X [a] ta)(hs:U6 [a] X.env=[(false,eval a X.env)]:=by rfl) :
  PI X (.Tuple Qt n1 tp) (.Call (.Name "enumerate" p) [a] [] pos) (Nk X.K ta):=by
 intro J s σ H R I h;refine Call_ (kb I f g (show Vx "enumerate" = ih (.type "enumerate") by decide +kernel) (vg (aI (i pos J s σ H _ I h) λus s1 B=>?_) hs rfl));obtain⟨vs,H1,c,j,k⟩:=B
 obtain⟨l,e,⟨xs,m⟩,q⟩:=k;subst e;obtain⟨u,rfl,n⟩:=j.one;cases n
 obtain⟨its,x,pl,y⟩:=c.list m;refine call_enumerate_list pl.isList λh' d o A r=>?_;have t:Inv X J σ H1 { s1 with heap:=h' }:=c.kept (t':=s1.toks) r;refine wpAny_pyIter_enum (s:={ s1 with heap:=h' }) d ?_;refine⟨s1.ax+1,[s1.ax+1,s1.ax],_,_,H1,rfl,t,IG l (s1.ax+1) s1.ax (Nat.succ_ne_self _),⟨⟨.none,d⟩,o⟩,λb v=>?_,q⟩;rcases bu.mp v with z|z
 ·subst z;exact c.il (jY _) (c.aD.fresh (jY _))
 ·have w:b=s1.ax:=by simpa using z
  subst w;exact c.il (aG _) (c.aD.fresh (aG _))
theorem oU:∀{ys:am F4}{us:am i'},Vals (ys.map V.str) us->Yd us ys:=by
 intro ys
 induction ys with
 |nil=>intro us r;cases r;exact .nil
 |cons y ys a =>
  intro us r;cases r with
  |cons q b =>
   obtain⟨t,rfl⟩:=q;exact .cons _ _ (a b)
def rJoin(K:Yh):V->List V->Hp->VK->Prop:=λx vs H Q=>∃(z:F4) (p:FG) (ys:List F4),x=.str z/\vs=[.ref p]/\(aq K H p (ys.map V.str)\/aE K H p (ys.map V.str))/\(ys.map (·.length)).sum+ys.length * z.length<=1000000/\Q (.str (aaC z ys)) H
theorem Ky:uX X "str.join" (rJoin X.K):=by
 rintro J s σ H x xs v us Q I a b ⟨z,p,ys,rfl,rfl,hp,d,q⟩;obtain⟨t,rfl⟩:=a;obtain⟨u,rfl,c⟩:=b.one;cases c
 rcases hp with hp|hp
 ·obtain⟨its,r,pl,_⟩:=I.list hp
  exact join_list pl.isList (by simpa using oU r) (by omega) λt' k=>⟨.str _,H,I.tok _,⟨_,rfl⟩,q⟩
 ·obtain⟨its,r,pl,_⟩:=I.tuple hp
  exact join_tuple pl (by simpa using oU r) (by omega) λt' k=>⟨.str _,H,I.tok _,⟨_,rfl⟩,q⟩
def OV:V->Option Int->Option Int->Hp->VK->Prop:=λx lo hi H Q=>∃z:F4,x=.str z/\z.length<=1000000/\Q (.str (X9 z lo hi)) H
theorem L9:mr X OV:=by
 rintro J s σ H x v vl vu lo hi sl Q I d hs pl c ⟨z,rfl,e,q⟩;obtain⟨t,rfl⟩:=d;have a:(X9 z lo hi).length<=UJ:=e5 (Txt.slice_le z _ _) (by rw[aJ];omega)
 refine⟨"str",_,PySem.F.slot_str_getitem.lookup,typeIs_str _ _ _,?_⟩;cases pl with
 |none =>
  cases c with
  |none=>exact vv (l:=none) (u:=none) (st:=none) hs rfl (vw ⟨a,λt' k=>⟨.str _,H,I.tok _,⟨_,rfl⟩,q⟩⟩)
  |int j b=>exact vv (l:=none) (u:=ih (j,b)) (st:=none) hs rfl (vw ⟨a,λt' k=>⟨.str _,H,I.tok _,⟨_,rfl⟩,q⟩⟩)
 |int i ti =>
  cases c with
  |none=>exact vv (l:=ih (i,ti)) (u:=none) (st:=none) hs rfl (vw ⟨a,λt' k=>⟨.str _,H,I.tok _,⟨_,rfl⟩,q⟩⟩)
  |int j b=>exact vv (l:=ih (i,ti)) (u:=ih (j,b)) (st:=none) hs rfl (vw ⟨a,λt' k=>⟨.str _,H,I.tok _,⟨_,rfl⟩,q⟩⟩)
def CW(Pv:Nat->List V->St->Hp->Prop)(n i m:Nat)(ys:List V)(τ:St)(H:Hp):Prop:=m=n - i/\i<=n/\Pv i ys τ H
theorem cw_next{Pv:Nat->List V->St->Hp->Prop}{a:St}(h:i<n)(p:Pv (i+1) ys a H):∃b,b<n - i/\CW Pv n (i+1) b ys a H:=⟨n - (i+1),by omega,rfl,h,p⟩
theorem rQ{g:TG}(Pv:Nat->List V->St->Hp->Prop)(h0:Pv 0 [] gj (upd H1 p (.lst [])))(k:∀i ys a H,Pv i ys a H->H p=bn ys)
  (hs:∀i ys a H,i<n->Pv i ys a H->g (.int (lo+i)) a H λd l=>ti d l λb h=>if b=true then te d h λy j=>j p=bn ys/\ys.length<UJ /\∃c,c<n - i/\CW Pv n (i+1) c (ys++[y]) d (upd j p (.lst (ys++[y]))) else ∃c,c<n - i/\CW Pv n (i+1) c ys d h)
  (o:∀ys a H,Pv n ys a H->Q (.ref p) H):hF (jK lo n) g ti te gj Q p H1:=by
 refine⟨CW Pv n,⟨n,by simp,ba _,h0⟩,?_⟩
 rintro i m ys a H ⟨rfl,hi,pv⟩;refine⟨k i ys a H pv,?_⟩
 by_cases f:i<n
 ·refine .inr ⟨f,λx s q=>?_⟩
  obtain⟨r,ex⟩:=q;subst r ex;exact hs i ys a _ f pv
 ·have e:i=n:=by omega
  subst e;exact .inl ⟨aG _,o ys a H pv⟩
theorem f6{g:TG}(Pv:Nat->List V->St->Hp->Prop)(h0:Pv 0 [] gj (upd H1 p (.lst [])))(n:∀i ys c H,Pv i ys c H->H p=bn ys/\aq K H a xs)
  (hs:∀i x ys c H,xs[i]?=ih x->Pv i ys c H->g x c H λf o=>ti f o λb j=>if b=true then te f j λy k=>k p=bn ys/\ys.length<UJ /\∃d,d<xs.length - i/\CW Pv xs.length (i+1) d (ys++[y]) f (upd k p (.lst (ys++[y]))) else ∃d,d<xs.length - i/\CW Pv xs.length (i+1) d ys f j)
  (q:∀ys c H,Pv xs.length ys c H->Q (.ref p) H):hF (kM K a) g ti te gj Q p H1:=by
 refine⟨CW Pv xs.length,⟨xs.length,by simp,ba _,h0⟩,?_⟩
 rintro i m ys c H ⟨rfl,hi,pv⟩;obtain⟨r,h⟩:=n i ys c H pv;refine⟨r,?_⟩
 by_cases l:i<xs.length
 ·refine .inr ⟨⟨xs,xs[i],h,by simp[l]⟩,λx u s=>?_⟩
  obtain⟨t,ex⟩:=s;subst t;exact hs i x ys c _ (ex xs h) pv
 ·have e:i=xs.length:=by omega
  subst e;exact .inl ⟨⟨xs,h,aG _⟩,q ys c H pv⟩
theorem eS{g:TG}(Pv:Nat->List V->St->Hp->Prop)(h0:Pv 0 [] gj (upd H1 p (.lst [])))(n:∀i ys c H,Pv i ys c H->H p=bn ys/\aE K H a xs)
  (hs:∀i x ys c H,xs[i]?=ih x->Pv i ys c H->g x c H λf o=>ti f o λb j=>if b=true then te f j λy k=>k p=bn ys/\ys.length<UJ /\∃d,d<xs.length - i/\CW Pv xs.length (i+1) d (ys++[y]) f (upd k p (.lst (ys++[y]))) else ∃d,d<xs.length - i/\CW Pv xs.length (i+1) d ys f j)
  (q:∀ys c H,Pv xs.length ys c H->Q (.ref p) H):hF (mq K a) g ti te gj Q p H1:=by
 refine⟨CW Pv xs.length,⟨xs.length,by simp,ba _,h0⟩,?_⟩
 rintro i m ys c H ⟨rfl,hi,pv⟩;obtain⟨r,h⟩:=n i ys c H pv;refine⟨r,?_⟩
 by_cases l:i<xs.length
 ·refine .inr ⟨⟨xs,xs[i],h,by simp[l]⟩,λx u s=>?_⟩
  obtain⟨t,ex⟩:=s;subst t;exact hs i x ys c _ (ex xs h) pv
 ·have e:i=xs.length:=by omega
  subst e;exact .inl ⟨⟨xs,h,aG _⟩,q ys c H pv⟩
def uG(N N':List F4)(Qf:List (Option Nat))(sc:YL):Bool:=(UU Qf.length).all λj=>match Qf[j]? with
 |some (ih i)=>(match N[i]? with|some x=>N'[j]? == ih x&&sc.names.lookup x==ih .free|none=>false)
 |_=>true
theorem kk(h:uG N N' Qf sc=true)(j i:Nat)(e:Qf[j]?=ih (ih i)):∃x,N[i]?=ih x/\N'[j]?=ih x/\sc.names.lookup x=ih .free:=by
 have a:j<Qf.length:=(bQ.mp e).1;have z:=gX.mp h j (eO.mpr a);rw[e]at z
 dsimp only at z
 split at z
 ·rename_i x q
  obtain⟨b,c⟩:=gn.mp z;exact⟨x,q,fX.mp b,fX.mp c⟩
 ·cases z
structure Nm(x:F4):Prop where
 lo:1<=x.length
 hi:x.length<=8
 az:∀c∈x.cps.toList,97<=c/\c<=122
def sign(c:Nat):F4:=⟨#[c]⟩
theorem wI:∀(b:am Nat) (a:Array Nat),(b.map sign).foldl (λa p=>a++("" : F4).cps++p.cps) a=a++b.toArray
 |[],a=>by simp
 |c::b,a=>by
  rw[bD,aaj,wI b];have e:("" : F4).cps = #[]:=rfl;rw[e]
  apply rm.mp
  simp[sign]
theorem HX(a:am Nat):aaC ("" : F4) (a.map sign)=⟨a.toArray⟩:=by
 unfold aaC abO;cases a with
 |nil=>rfl
 |cons c a =>
  rw[bD];show(⟨(a.map sign).foldl _ (sign c).cps⟩:F4)=_;rw[wI]
  apply c4 Str.mk
  apply rm.mp
  simp[sign]
theorem HY{z:F4}(h:c∈(X9 z none (ih 6)).cps.toList):c∈z.cps.toList:=by
 unfold X9 at h;split at h
 ·exact h
 ·simp only[mB]at h
  obtain⟨i,_,e⟩:=h;obtain⟨_,a⟩:=iB.mp e;rw[<-a];simp
theorem wJ(z:F4):(X9 z none (ih 6)).length<=6:=by
 have hi:(YC none (ih 6) 1 z.length).length<=6:=by
  unfold YC sliceRange;simp only[show(1:Int)>0 by decide,eP,ar,ro]
  split <;> (try split) <;> omega
 unfold X9;split
 ·rename_i h
  have e:(YC none (ih 6) 1 z.length).length=z.length:=by simpa using h
  omega
 ·show(List.filterMap _ _).toArray.size<=6
  rw[bM];exact e5 (List.length_filterMap_le _ _) hi
theorem nB(a b:F4):(a++b).cps=a.cps++b.cps:=rfl
theorem Kz{z:F4}(hz:∀c∈z.cps.toList,97<=c/\c<=122)(g:97<=c/\c<=122):Nm (X9 z none (ih 6)++sign c++("q" : F4)):=by
 have a:("q" : F4).cps = #[113]:=by decide +kernel
 have i:=wJ z;have e:(X9 z none (ih 6)++sign c++("q" : F4)).length=(X9 z none (ih 6)).length+2:=by
  show(_:Array Nat).size=_;rw[nB,nB,a];show(_ ++ #[c] ++ #[113]).size=_;rw[vx,vx];rfl
 refine⟨by omega,by omega,λd b=>?_⟩
 rw[nB,nB,a]at b;have f:d∈(X9 z none (ih 6)).cps.toList\/d=c\/d=113:=by
  have:d∈((X9 z none (ih 6)).cps ++ #[c] ++ #[113]).toList:=b;simp at this;rcases this with h|h|h
  ·exact .inl (by simpa using h)
  ·exact .inr (.inl h)
  ·exact .inr (.inr h)
 rcases f with h|h|h
 ·exact hz d (HY h)
 ·rw[h];exact g
 ·rw[h];omega
theorem Jr{p:F4}{d:Nat}(h:p++sign c++("q" : F4)=p++sign d++("q" : F4)):c=d:=by
 have U:=c4 (λs:F4=>s.cps.toList) h;simp only[nB]at U;have h2:p.cps.toList++([c]++("q" : F4).cps.toList)=p.cps.toList++([d]++("q" : F4).cps.toList):=by
  simpa [sign,Array.toList_append] using U
 have a:=List.append_cancel_left h2
 simpa using a
theorem tT:∀{ys found:am F4},ys.Nodup->found.length<ys.length ->∃y∈ys,y ∉ found
 |[],found,_,h=>by simp at h
 |y::ys,found,c,h=>by
  obtain⟨n1,d⟩:=eu.mp c
  by_cases a:y∈found
  ·have f:=vy a
   have i:=vz a;obtain⟨z,b,g⟩:=tT (found:=found.erase y) d (by rw[f];rw[cD]at h;omega)
   refine⟨z,a8 _ b,λq=>g ?_⟩;have ne:z≠y:=λe=>n1 (by rw[<-e];exact b)
   exact(vA ne).mpr q
  ·exact⟨y,aT,a⟩
theorem BA(K:Yh)(h:X.K=K):bW X (XR .In) (qV K false):=by subst h;exact mW
theorem wK(K:Yh)(h:X.K=K):bW X (XR .NotIn) (qV K true):=by subst h;exact wq
theorem r7(K:Yh)(h:X.K=K):mu X (qx K):=by subst h;exact c6
theorem j4(K:Yh)(h:X.K=K):mu X (uD K):=by subst h;exact bR
theorem Ab{l:Vo}(K:Yh)(h:X.K=K)(a:PE X l tl):PI X tg l (CL K tl):=by subst h;exact ez a
theorem AS{l:Vo}(K:Yh)(h:X.K=K)(a:PE X l tl):PI X tg l (Ds K tl):=by subst h;exact e8 a
theorem iJ(x:F4)(ys:am F4):mv (.str x) (ys.map V.str)=decide (x∈ys):=by
 unfold mv;rw[vB]
 induction ys with
 |nil=>simp
 |cons y ys a =>
  rw[k7,a];show((y==x)||decide (x∈ys))=decide (x∈y::ys)
  by_cases h:y=x
  ·subst h;simp
  ·have h':(y==x)=false:=jU.mpr h
   rw[h',FU];have:x∈y::ys ↔ x∈ys:=by simp[a7 h]
   simp[this]
theorem h7(ys:am F4):(ys.map V.str).all iS=true:=by
 rw[gX];intro v a;obtain⟨y,_,rfl⟩:=aZ.mp a
 rfl
def hG(H:Hp)(a:FG):Hp:=λb=>if b=a then none else H b
theorem lz(n:b≠a):hG H a b=H b:=by unfold hG;rw[ak n]
theorem HZ{o:HO}(e:hG H a b=ih o):b≠a/\H b=ih o:=by
 unfold hG at e;split at e
 ·cases e
 next n=>exact⟨n,e⟩
theorem H'(e:H b=none):hG H a b=none:=by
 unfold hG;split
 ·rfl
 ·exact e
theorem Inv.KA(I:Inv X J σ H s)(e:H a=ih (hI C dx a))(f:∀d,dx=ih d ->∃fs,H d=ih (gz d fs)):∃ox od t,InstAt s.heap a ox C od/\ox={ cls:=.ref C,dict:=dx,data:=.fields #[.ref t,.none,.none,.none,.bool false,.none] }:=by
 obtain⟨t,b⟩:=I.excAt e;cases dx with
 |none=>exact⟨_,none,t,⟨b,rfl,rfl,XW⟩,rfl⟩
 |some d =>
  obtain⟨fs,g⟩:=f d rfl;obtain⟨_,h,n,r,_⟩:=I.pq g;obtain⟨od,c,_⟩:=mV n;exact⟨_,ih od,t,⟨b,rfl,rfl,c⟩,rfl⟩
theorem Inv.hidden(I:Inv X J σ H s)(t:X.ex=[])(hs:X.stack=X.env::X.outer)(E:X.env.frame=ih X.env.locals)(g:H a=ih (hI C dx a))(h0:X.gN a=none)
  (k:(hideAll s.heap (a::d2 X.stack)).StaysIn h') (v:s.heap.UpToSlots h'):Un X.fs [] X.gN (hG H a) X.eb.heap h'/\b4 X.prog X.w (hG H a) h':=by
 have f:Un X.fs [] X.gN H X.eb.heap s.heap:=by have:=I.base;rw[t]at this;exact this
 have j:∀b,b∈d2 X.stack->b=X.env.locals\/b∈X.fs:=λb x=>by
  have:=I.pH b x;rcases bu.mp this with z|z
  ·exact .inl z
  ·exact .inr z
 have y:∀{b:FG},H b=none->b≠a:=λe z=>by subst z;rw[g]at e;cases e
 have get:∀b o,s.heap.get? b=ih o->b≠a->b ∉ d2 X.stack->h'.get? b=ih o:=λb o e n m=>k b o (hideAll_get _ e λz=>by
  rcases bu.mp z with z|z
  ·exact n z
  ·exact m z)
 have l:∀b o,X.eb.heap.get? b=ih o->b≠X.env.locals:=λb o e z=>by
  have U:=a6 e;have h2:=I.ok.above;subst z;exact absurd U (rp.mpr h2)
 have i:∀b o,b∈X.fs->s.heap.get? b=ih o ->∃sl,h'.get? b=ih { o with slots:=sl }:=λb o m e=>by
  obtain⟨_,o',p,A⟩:=(I.fb).mem m;rw[e]at p;cases p
  exact v b o e A
 refine⟨⟨λb o e n m _=>?_,λb o e n m _=>?_,λb o e n _=>H' (f.free b o e n (by simp)),λb o e _=>?_,λb xs e=>?_,λb o u e=>?_,λb ps e=>?_⟩,λb o e=>?_⟩
 ·have d:=f.keep b o e n m (by simp)
  refine get b o d (y (f.free b o e n (by simp))) λz=>?_
  rcases j b z with z|z
  ·exact l b o e z
  ·exact m z
 ·obtain⟨sl,d⟩:=f.slot b o e n m (by simp)
  obtain⟨r,h⟩:=i b _ m d;exact⟨r,h⟩
 ·obtain⟨o',d⟩:=f.there b o e (by simp)
  by_cases m:b∈X.fs
  ·obtain⟨sl,h⟩:=i b _ m d
   exact⟨_,h⟩
  ·refine⟨o',get b o' d (λz=>?_) λz=>?_⟩
   ·subst z
    have:=f.free b o e h0 (by simp)
    rw[g]at this;cases this
   ·rcases j b z with z|z
    ·exact l b o e z
    ·exact m z
 ·have d:=f.gx b xs e
  rw[lz (bx d g)];exact d
 ·have d:=f.gM b o u e
  rw[lz (bx d g)];exact d
 ·obtain⟨B,d⟩:=f.hH b ps e
  exact⟨B,by rw[lz (bx d g)];exact d⟩
 ·obtain⟨n,d⟩:=HZ e
  have qu:∀{c:FG}{u:HO},H c=ih u->c ∉ d2 X.stack:=λq m=>by
   have:=I.sQ _ m;rw[q]at this;cases this
  refine(I.aD b o d).en (λc u D q=>?_) (λc q=>?_) λc xs q=>?_
  ·rcases D with rfl|q1
   ·exact get _ u q n (qu d)
   ·exact get c u q (bx q1 g) (qu q1)
  ·rw[lz (bx q g)];exact q
  ·rw[lz (bx q g)];exact q
def Cx.kh(X:Cx)(a:FG):Cx:={ X with A:=X.A.mark (ih (.ref a)),calm:=false,xe:=λ_ _=>False }
theorem Inv.kh(I:Inv X J σ H s)(a:FG):Inv (X.kh a) J σ H s:=
 ⟨⟨I.ok.mod,I.ok.kind,I.ok.glob,I.ok.blt,I.ok.above,I.ok.inj,I.ok.has,I.ok.i6,(λz=>Z' (show false=true from z)),I.ok.frames,I.ok.jG,I.ok.jH,I.ok.bs,I.ok.gS,I.ok.iY,I.ok.iZ,I.ok.fb,I.ok.hQ⟩,I.os,I.bare,I.base,I.loc,I.cell,I.free,I.eG,I.pin,I.aD,I.len⟩
theorem Inv.uncaught{J8:Cx}(ok:X.Ok)(I:Inv (X.kh a) J σ H s):Inv X J σ H s:=
 ⟨ok,I.os,I.bare,I.base,I.loc,I.cell,I.free,I.eG,I.pin,I.aD,I.len⟩
theorem Js{its:Array i'}(p:Nat->Bool)(G:A.in1.handled=none)(q:l≠it)(t:g.IsList l its)
  (H:∀i v,its[i]?=ih v ->∃a ws,v=.ref a/\a≠it/\Yg g a ws/\ws.size<=UJ/\p i = !ws.isEmpty):∀(k i:Nat) (s:Gb),its.size - i=k->i<=its.size->(∀b o,b≠it->g.get? b=ih o->s.heap.get? b=ih o)->s.heap.IsListIter it l i ->
  (∀h' tk,(∀b o,b≠it->g.get? b=ih o->h'.get? b=ih o)->R (.ok (.ret (.bool (((UU its.size).drop i).any p)))) { s with heap:=h',toks:=tk }) ->
  codeAny (UP P w) A (.builtin "any.loop" ⟨[.ref it],[]⟩) R s:=by
 intro k
 induction k with
 |zero =>
  intro i s I hi c f d;obtain rfl:i=its.size:=by omega
  refine ft aaK (?_:UB _ _ _ _ _ _);rw[show A.under (.builtin "any.loop" ⟨[.ref it],[]⟩)=A.in1 from gp vC _];show UB _ _ (pyNext (.ref it) >>= _) _ _ s;have h:s.heap.IsList l its:=t.at λo e=>c l o q e;refine ae (wpAny_pyNext_list_end G f h (by simp) λh' ex=>ae (je (aj ?_)))
  have:=d h' s.toks λb o n e=>ex b o n (c b o n e);rw[FV (by simp)]at this
  exact this
 |succ k J =>
  intro i s I hi c f d;have j:i<its.size:=by omega
  have u:(UU its.size).drop i=i::(UU its.size).drop (i+1):=by rw[vD (by simpa using j),List.getElem_range]
  refine ft aaK (?_:UB _ _ _ _ _ _);rw[show A.under (.builtin "any.loop" ⟨[.ref it],[]⟩)=A.in1 from gp vC _];show UB _ _ (pyNext (.ref it) >>= _) _ _ s;have h:s.heap.IsList l its:=t.at λo e=>c l o q e;have x:its[i]?=ih its[i]:=by simp[j]
  obtain⟨a,ws,K,L,B,M,D⟩:=H i _ x;refine ae (wpAny_pyNext_list_item f h x λh' C N=>?_);have m:∀b o,b≠it->g.get? b=ih o->h'.get? b=ih o:=λb o n e=>N.extBut b o n (c b o n e);have z:Yg h' a ws:=by
   obtain⟨o,O,r⟩:=B;exact⟨o,m a o L O,r⟩
  rw[K];refine ae (de (truthy_tuple (s:={ s with heap:=h' }) z (by rw[aJ]at M;omega) (ae (wpAny_letGo ?_))))
  rw[<-D];cases y:p i with
  |false =>
   refine aj ⟨gF vC _,J (i+1) _ (by omega) j m C λh2 E Q=>?_⟩
   have:=d h2 E Q;rw[u,k7,y,FU]at this;exact this
  |true =>
   refine ae (je (aj ?_));have:=d h' (s.toks+1+1) m;rw[u,k7,y,aaX]at this;exact this
theorem IH(A:X.calm=true):bY X (.builtin "any") (λxs H Q=>∃(p:FG) (ys:am V) (c:am (List V)),xs=[.ref p]/\aq X.K H p ys/\XU (λy r=>∃a,y=V.ref a/\aE X.K H a r) ys c/\Q (.bl (c.any λr=>!r.isEmpty)) H):=by
 rintro J s σ H xs us Q I r ⟨p,ys,c,rfl,k,pr,q⟩;obtain⟨u,rfl,B⟩:=vals1 r;cases B
 obtain⟨its,l,pl,C⟩:=I.list k;have f:=l.length;have all:∀i v,its[i]?=ih v ->∃a ws,v=.ref a/\Yg s.heap a ws/\ws.size<=UJ/\(c.map λr=>!r.isEmpty).getD i false = !ws.isEmpty:=by
  intro i v e;clear q k pl C r
  induction l generalizing c i with
  |nil=>simp at e
  |cons D T E =>
   cases pr with
   |cons G pt =>
    cases i with
    |zero =>
     simp at e;subst e;obtain⟨a,rfl,L⟩:=G;cases D
     obtain⟨ws,t,d,j⟩:=I.tuple L;have S:=t.length;exact⟨a,_,rfl,d,by rw[bM];omega,by rw[rP t];rfl⟩
    |succ i=>exact E _ pt (by simpa using f) i (by simpa using e)
 have w:its.toArray.size=c.length:=by rw[bM,<-f];exact cC pr
 have x:(UU its.toArray.size).any (λi=>(c.map λr=>!r.isEmpty).getD i false)=c.any λr=>!r.isEmpty:=by
  rw[w]
  apply mE.mpr
  simp only[oF,eO]
  constructor
  ·rintro⟨i,hi,e⟩
   refine⟨c[i],dz hi,?_⟩
   simpa [YD,hi] using e
  ·rintro⟨r,M,e⟩
   obtain⟨i,hi,rfl⟩:=rq M;exact⟨i,hi,by simpa [YD,hi] using e⟩
 refine call_function_tree F.kind_any F.plain_any F.entry_any (F.args_any1 (.ref p)) (?_:UB _ _ _ _ _ _);unfold Ye.«any»;refine ae (m:=oneArg "any" _) (aj (ae (rf pl.isList ?_)));have new:∀b o,s.heap.get? b=ih o->b≠s.heap.objs.size:=λb o e=>bp (a6 e);obtain⟨ol,z,_⟩:=id pl.isList;refine aj ⟨gF vC _,Js (g:=s.heap) (λi=>(c.map λr=>!r.isEmpty).getD i false) (I.ok.hd A) (new p ol z) pl.isList (λi v e=>?_) _ 0 _ rfl (ba _) (λb o n e=>aV _ e) ⟨_,bG _ rfl,rfl,rfl⟩ λh' tk N=>?_⟩
 ·obtain⟨a,ws,O,d,j,P⟩:=all i v (by simpa using e)
  obtain⟨o,R,_⟩:=id d;exact⟨a,ws,O,new a o R,d,j,P⟩
 ·rw[vE,x]
  exact⟨.bl _,H,I.kept (t':=tk) λb o e=>N b o (new b o e) e,rfl,q⟩
theorem g6(n:X.calm=true):bY X (.builtin "all") (λxs H Q=>∃(p:FG) (bs:am Bool),xs=[.ref p]/\aq X.K H p (bs.map V.bl)/\Q (.bl (bs.all id)) H):=by
 rintro J s σ H xs us Q I r ⟨p,bs,rfl,f,q⟩;obtain⟨u,rfl,t⟩:=vals1 r;cases t
 obtain⟨its,a,pl,w⟩:=I.list f;have j:=a.length;have d:its=bs.map YM:=by
  clear q f pl w r j
  induction bs generalizing its with
  |nil=>cases a;rfl
  |cons b bs x =>
   cases a with
   |cons y z=>cases y;rw[x _ z];rfl
 have new:∀b o,s.heap.get? b=ih o->b≠s.ax:=λb o e=>bp (a6 e);obtain⟨ol,k,_⟩:=id pl.isList;refine call_all_walk (rf pl.isList ?_);refine⟨s.ax,_,_,_,_,_,λi=>bs.getD i true,rfl,ZN (A:=X.A.in1) (I.ok.hd n) s.ax p (new p ol k) its.toArray,⟨⟨_,bG _ rfl,rfl,rfl⟩,pl.isList.at λo e=>aV _ e⟩,λi v s2 C D g l=>?_,λh' tk B=>?_⟩
 ·rw[d]at g
  have:bs[i]?.map YM=ih v:=by simpa using g
  obtain⟨b,c,rfl⟩:=fe.mp this;refine hY ?_;have e:bs.getD i true=b:=by rw[cE,c];rfl
  exact e ▸ l
 ·have m:(UU its.toArray.size).all (λi=>bs.getD i true)=bs.all id:=by
   have hs:its.toArray.size=bs.length:=by rw[d];simp
   rw[hs]
   apply mE.mpr
   simp only[gX,eO]
   constructor
   ·intro h b c
    obtain⟨i,hi,rfl⟩:=rq c
    simpa [YD,hi] using h i hi
   ·intro h i hi
    simpa [YD,hi] using h bs[i] (dz hi)
  rw[m];exact⟨.bl _,H,I.kept (t':=tk) λb o e=>B b o (by simpa using new b o e) (aV _ e),rfl,q⟩
end L2
namespace L2
section
variable{α β γ δ ε ζ:Type}
theorem ag{F P:α->Prop}{a:α}(f:F a)(h:P a):∃x,F x/\P x:=⟨a,f,h⟩
theorem bj{F:α->Prop}{G:α->β->Prop}{P:α->β->Prop}{a:α}{b:β}(f:F a)(g:G a b)(h:P a b):∃x,F x /\∃y,G x y/\P x y:=⟨a,f,b,g,h⟩
theorem ed{F:α->Prop}{G:α->β->Prop}{I:α->β->γ->Prop}{P:α->β->γ->Prop}{a:α}{b:β}{c:γ}(f:F a)(g:G a b)(i:I a b c)(h:P a b c):∃x,F x /\∃y,G x y /\∃z,I x y z/\P x y z:=⟨a,f,b,g,c,i,h⟩
theorem i0{F:α->Prop}{G:α->β->Prop}{I:α->β->γ->Prop}{e:α->β->γ->δ->Prop}{P:α->β->γ->δ->Prop}{a:α}{b:β}{c:γ}{d:δ}(f:F a)(g:G a b)(i:I a b c)(j:e a b c d)(h:P a b c d):∃x,F x /\∃y,G x y /\∃z,I x y z /\∃u,e x y z u/\P x y z u:=⟨a,f,b,g,c,i,d,j,h⟩
theorem DH{F:α->Prop}{G:α->β->Prop}{I:α->β->γ->Prop}{l:α->β->γ->δ->Prop}{K:α->β->γ->δ->ε->Prop}{P:α->β->γ->δ->ε->Prop}{a:α}{b:β}{c:γ}{d:δ}{e:ε}(f:F a)(g:G a b)(i:I a b c)(j:l a b c d)(k:K a b c d e)(h:P a b c d e):∃x,F x /\∃y,G x y /\∃z,I x y z /\∃u,l x y z u /\∃v,K x y z u v/\P x y z u v:=⟨a,f,b,g,c,i,d,j,e,k,h⟩
end
end L2
namespace L2
theorem kQ{i:Int}(h:H p=bn xs)(e:cU xs i=ih v)(k:Q v H):qx K (.ref p) (.int i) H Q:=⟨p,xs,i,v,rfl,rfl,aq.of h,e,k⟩
theorem d3{i:Int}(h:H p=bi xs)(e:cU xs i=ih v)(k:Q v H):tC (.int i) σ H (λy H2=>uD K (.ref p) y H2 Q):=⟨p,xs,i,v,rfl,rfl,aE.of h,e,k⟩
theorem jM{i:Int}(h:H p=bn xs)(e:cU xs i=ih v)(k:Q v H):tC (.int i) σ H (λy H2=>qx K (.ref p) y H2 Q):=⟨p,xs,i,v,rfl,rfl,aq.of h,e,k⟩
end L2
namespace L2
open Spec PyProof.Rows
section
variable{κ:Type} [DecidableEq κ]
def bz(kvs:List (κ×V))(k:κ):Option V:=(kvs.find? λkv=>decide (kv.1=k)).map (·.2)
def putK(kvs:List (κ×V))(k:κ)(v:V):List (κ×V):=
 if (kvs.any λkv=>decide (kv.1=k))=true then kvs.map (λkv=>if kv.1=k then (kv.1,v) else kv) else kvs++[(k,v)]
def km(kvs:List (κ×V))(k:κ):List (κ×V):=kvs.filter λkv=>decide (kv.1≠k)
theorem e7{p:κ×V}{r:am (κ×V)}{k:κ}(e:p.1=k):bz (p::r) k=ih p.2:=by simp[bz,oG,e]
theorem ey{p:κ×V}{r:am (κ×V)}{k:κ}(e : ¬ p.1=k):bz (p::r) k=bz r k:=by simp[bz,oG,e]
theorem iK(k:κ):∀kvs:am (κ×V),(kvs.any λkv=>decide (kv.1=k))=(bz kvs k).isSome
 |[]=>rfl
 |p::r=>by
  rw[k7]
  by_cases e:p.1=k
  ·simp only[e7 e,bq e,aaX,UR]
  ·rw[ey e,a' e,FU];exact iK k r
theorem AU(k j:κ)(y:V):∀kvs:am (κ×V),bz (kvs.map λkv=>if kv.1=k then (kv.1,y) else kv) j=(bz kvs j).map λx=>if j=k then y else x
 |[]=>rfl
 |p::r=>by
  have a:=AU k j y r;rw[bD]
  by_cases h:p.1=k
  ·rw[aw h]
   by_cases e:p.1=j
   ·rw[e7 (p:=(p.1,y)) e,e7 e,oy,aw (e.symm.trans h)]
   ·rw[ey (p:=(p.1,y)) e,ey e,a]
  ·rw[ak h]
   by_cases e:p.1=j
   ·rw[e7 (p:=p) e,e7 e,oy,ak (λz=>h (e.trans z))]
   ·rw[ey (p:=p) e,ey e,a]
theorem Ac(k j:κ)(y:V):∀kvs:am (κ×V),bz kvs k=none->bz (kvs++[(k,y)]) j=if j=k then ih y else bz kvs j
 |[],_=>by
  by_cases e:k=j
  ·rw[aw e.symm];exact e7 (p:=(k,y)) e
  ·rw[ak (λz=>e z.symm)];exact ey (p:=(k,y)) e
 |p::r,a=>by
  rw[List.cons_append];have b : ¬ p.1=k:=λz=>by rw[e7 z]at a;cases a
  rw[ey b]at a;have c:=Ac k j y r a
  by_cases e:p.1=j
  ·rw[e7 e,e7 e,ak (λz=>b (e.trans z))]
  ·rw[ey e,ey e,c]
theorem m9(kvs:am (κ×V))(k j:κ)(y:V):bz (putK kvs k y) j=if j=k then ih y else bz kvs j:=by
 unfold putK
 by_cases a:(kvs.any λb=>decide (b.1=k))=true
 ·rw[aw a,AU]
  rw[iK]at a
  by_cases e:j=k
  ·obtain⟨x,c⟩:=UI.mp a
   rw[aw e,e,c,oy,aw rfl]
  ·rw[ak e]
   cases bz kvs j with
   |none=>rfl
   |some x=>rw[oy,ak e]
 ·rw[ak a]
  refine Ac k j y kvs ?_;rw[iK]at a;cases q:bz kvs k with
  |none=>rfl
  |some x=>rw[q]at a;exact(a rfl).elim
theorem rO(kvs:am (κ×V))(k:κ)(v:V):(putK kvs k v).length<=kvs.length+1:=by
 unfold putK;split
 ·rw[ar];omega
 ·rw[df,cD,jf];omega
theorem nc{kvs:am (κ×V)}{k:κ}(v:V)(h:bz kvs k=none):putK kvs k v=kvs++[(k,v)]:=by
 unfold putK;rw[iK,h];exact ak (by decide)
theorem gb.mX{o:ap V}{u:ap i'}(r:gb o u):o.isSome=u.isSome:=by
 cases o with
 |none=>cases u with
  |none=>rfl
  |some _=>exact(show False from r).elim
 |some _=>cases u with
  |none=>exact(show False from r).elim
  |some _=>rfl
theorem KV.val{kvs:am (κ×V)}{vs:am (κ×i')}(r:KV kvs vs)(k:κ):gb (bz kvs k) (valueAt vs k):=by
 unfold KV at r
 induction r with
 |nil=>exact XW
 |@cons p q ps a h t d =>
  obtain⟨U,h2⟩:=h
  by_cases e:p.1=k
  ·have c:q.1=k:=U.symm.trans e
   have b:valueAt (q::a) k=ih q.2:=by simp[valueAt,oG,c]
   rw[e7 e,b];exact h2
  ·have c : ¬ q.1=k:=λz=>e (U.trans z)
   have b:valueAt (q::a) k=valueAt a k:=by simp[valueAt,oG,c]
   rw[ey e,b];exact d
theorem KV.any{kvs:am (κ×V)}{vs:am (κ×i')}(r:KV kvs vs)(k:κ):(kvs.any λkv=>decide (kv.1=k))=vs.any λkv=>decide (kv.1=k):=by
 unfold KV at r
 induction r with
 |nil=>rfl
 |cons h t a=>rw[k7,k7,a,h.1]
theorem KV.uH{kvs:am (κ×V)}{vs:am (κ×i')}(r:KV kvs vs)(k:κ)(a:RelV y u) :
  KV (kvs.map λkv=>if kv.1=k then (kv.1,y) else kv) (vs.map λkv=>if kv.1=k then (kv.1,u) else kv):=by
 unfold KV at r⊢
 induction r with
 |nil=>exact .nil
 |@cons p q ps c h t b =>
  rw[bD,bD];refine .cons ?_ b;obtain⟨U,h2⟩:=h
  by_cases e:p.1=k
  ·rw[aw e,aw (U.symm.trans e)];exact⟨U,a⟩
  ·rw[ak e,ak (λz=>e (U.trans z))];exact⟨U,h2⟩
theorem KV.put{kvs:am (κ×V)}{vs:am (κ×i')}(r:KV kvs vs)(k:κ)(a:RelV y u):KV (putK kvs k y) (stored vs k u):=by
 unfold putK stored;rw[r.any k]
 by_cases e:(vs.any λb=>decide (b.1=k))=true
 ·rw[aw e,aw e];exact r.uH k a
 ·rw[ak e,ak e];exact gY r ⟨rfl,a⟩
theorem KV.drop{kvs:am (κ×V)}{vs:am (κ×i')}(r:KV kvs vs)(k:κ):KV (km kvs k) (without vs k):=by
 unfold KV at r⊢;unfold km without
 induction r with
 |nil=>exact .nil
 |@cons p q ps f h t c =>
  obtain⟨U,h2⟩:=h;rw[ru,ru]
  by_cases e:p.1=k
  ·have a : ¬ decide (p.1≠k)=true:=by simp[e]
   have b : ¬ decide (q.1≠k)=true:=by simp[U.symm.trans e]
   rw[ak a,ak b];exact c
  ·have d : ¬ q.1=k:=λz=>e (U.trans z)
   have a:decide (p.1≠k)=true:=by simp[e]
   have b:decide (q.1≠k)=true:=by simp[d]
   rw[aw a,aw b];exact .cons ⟨U,h2⟩ c
theorem KV.keys{kvs:am (κ×V)}{vs:am (κ×i')}(r:KV kvs vs):kvs.map (·.1)=vs.map (·.1):=by
 unfold KV at r
 induction r with
 |nil=>rfl
 |cons h t a=>rw[bD,bD,a,h.1]
theorem KV.length{kvs:am (κ×V)}{vs:am (κ×i')}(r:KV kvs vs):kvs.length=vs.length:=cC r
theorem Jt(kvs:am (κ×V))(k:κ):(km kvs k).length<=kvs.length:=fu _ _
end
theorem ko{k:Key}(r:RelV (kV k) u):(b5 P w).is k u=true:=by
 cases k with
 |inl i=>obtain⟨t,e⟩:=(show ∃t,u=Zv i t from r);subst e;exact Hk P w i t
 |inr x=>obtain⟨t,e⟩:=(show ∃t,u=YB x t from r);subst e;exact Hl P w x t
theorem Ad{P:XZ}{w:X7}:∀{ks:am Key}{us:am i'},Vals (ks.map kV) us->ItemsAre (b5 P w) ks us
 |[],_,r=>by rw[vp]at r;cases r;exact .nil
 |k::ks,_,r=>by
  rw[bD]at r;cases r with
  |cons h t=>exact .cons (ko h) (Ad t)
abbrev KT(H:Hp):List (List Key×V)->List (List Key×FG×i')->Prop:=XU λp q=>p.1=q.1/\H q.2.1=ih (.tup (p.1.map kV))/\RelV p.2 q.2.2
theorem KT.val{kvs:am (List Key×V)}{xs:am (List Key×FG×i')}(r:KT H kvs xs)(k:am Key):gb (bz kvs k) ((atKey xs k).map (·.2)):=by
 induction r with
 |nil=>exact XW
 |@cons p q ps a h t d =>
  obtain⟨U,_,h2⟩:=h
  by_cases e:p.1=k
  ·have c:q.1=k:=U.symm.trans e
   have b:atKey (q::a) k=ih q.2:=by simp[atKey,oG,c]
   rw[e7 e,b];exact h2
  ·have c : ¬ q.1=k:=λz=>e (U.trans z)
   have b:atKey (q::a) k=atKey a k:=by simp[atKey,oG,c]
   rw[ey e,b];exact d
theorem KT.uH{kvs:am (List Key×V)}{xs:am (List Key×FG×i')}(r:KT H kvs xs)(k:am Key)(a:RelV y u) :
  KT H (kvs.map λkv=>if kv.1=k then (kv.1,y) else kv) (xs.map (putAt k u)):=by
 induction r with
 |nil=>exact .nil
 |@cons p q ps d h t b =>
  rw[bD,bD];refine .cons ?_ b;obtain⟨U,h2,c⟩:=h;unfold putAt
  by_cases e:p.1=k
  ·rw[aw e,aw (U.symm.trans e)];exact⟨U,h2,a⟩
  ·rw[ak e,ak (λz=>e (U.trans z))];exact⟨U,h2,c⟩
theorem KT.put{kvs:am (List Key×V)}{xs:am (List Key×FG×i')}(r:KT H kvs xs)(k:am Key)(c:H b=bi (k.map kV))(a:RelV y u) :
  KT H (putK kvs k y) (storedH xs k b u):=by
 have e:(kvs.any λd=>decide (d.1=k))=(atKey xs k).isSome:=by
  rw[iK,(r.val k).mX,FW]
 unfold putK storedH;rw[e]
 by_cases q:(atKey xs k).isSome=true
 ·rw[aw q,aw q];exact r.uH k a
 ·rw[ak q,ak q];exact gY r ⟨rfl,c,a⟩
theorem KT.keeps{kvs:am (List Key×V)}{xs:am (List Key×FG×i')}(r:KT H kvs xs)(a:∀b ys,H b=bi ys->Y b=bi ys):KT Y kvs xs:=
 Paired.qt r λ_ _ z=>⟨z.1,a _ _ z.2.1,z.2.2⟩
theorem CS{u:HO}(ok:b4 P w H h)(e:Rd H a u):bc P w H h a u:=e.ok ok
theorem kq(ok:b4 P w H h)(e:Rd H a (.dK kvs)):kvs.length<=UJ/\(a==sysModules)=false /\∃vs,KV kvs vs/\h.DictOf (b5 P w) a vs:=
 show bc P w H h a (.dK kvs) from CS ok e
theorem nP(ok:b4 P w H h)(e:H a=ce kvs):kvs.length<=UJ/\(a==sysModules)=false /\∃vs,KV kvs vs/\h.DictOf (b5 P w) a vs:=kq ok (.inl e)
theorem nC{ks:am Key}(ok:b4 P w H h)(e:H a=bi (ks.map kV)):(tupleKind (b5 P w)).is h ks a:=by
 obtain⟨_,its,r,o,U,h2,n,b,_⟩:=(show bc P w H h a (.tup (ks.map kV)) from ok a _ e);exact⟨o,its.toArray,n,U,h2,b,by simpa using Ad r⟩
theorem nQ{kvs:am (List Key×V)}(ok:b4 P w H h)(e:Rd H a (.dT kvs)):kvs.length<=UJ/\(a==sysModules)=false /\
  ∃xs,KT H kvs xs/\h.DictOfH (tupleKind (b5 P w)) a xs:=by
 obtain⟨z,y,xs,r,o,es,ep,U,h2,c,d,f⟩:=(show bc P w H h a (.dT kvs) from CS ok e);refine⟨z,y,xs,r,o,es,ep,U,h2,c,d,λx hx=>?_,f⟩;have all:∀{l:am (List Key×V)}{m:am (List Key×FG×i')},KT H l m ->∀x∈m,(tupleKind (b5 P w)).is h x.1 x.2.1:=by
  intro l m q
  induction q with
  |nil=>intro x hx;exact nomatch hx
  |@cons p q ps i b t g =>
   intro x hx;rcases bu.mp hx with e|hx
   ·subst e
    exact nC ok (by rw[<-b.1];exact b.2.1)
   ·exact g x hx
 exact all r x hx
theorem Nl{kvs:am (List Key×V)}(ok:b4 P w H h)(e:H a=cr kvs):kvs.length<=UJ/\(a==sysModules)=false /\
  ∃xs,KT H kvs xs/\h.DictOfH (tupleKind (b5 P w)) a xs:=nQ ok (.inl e)
def eI(H:Hp)(a:FG)(y:V)(r:Option V):Prop:=
 (∃kvs k,Rd H a (.dK kvs)/\y=kV k/\r=bz kvs k) \/∃kvs k b,Rd H a (.dT kvs)/\y=.ref b/\H b=ih (.tup (k.map kV))/\r=bz kvs k
def gf(H:Hp)(a:FG)(y v:V)(Y:Hp):Prop:=
 (∃kvs k,H a=ih (.dK kvs)/\y=kV k/\kvs.length<UJ/\Y=upd H a (.dK (putK kvs k v))) \/
 ∃kvs k b,H a=ih (.dT kvs)/\y=.ref b/\H b=ih (.tup (k.map kV))/\kvs.length<UJ/\Y=upd H a (.dT (putK kvs k v))
theorem eI.k{k:Key}(e:H a=ce kvs):eI H a (kV k) (bz kvs k):=.inl ⟨kvs,k,.inl e,rfl,rfl⟩
theorem gf.k{k:Key}(e:H a=ce kvs)(b:kvs.length<UJ):gf H a (kV k) v (upd H a (.dK (putK kvs k v))):=.inl ⟨kvs,k,e,rfl,b,rfl⟩
theorem gf.t{kvs:am (List Key×V)}{k:am Key}(e:H a=cr kvs)(c:H b=bi (k.map kV))(d:kvs.length<UJ) :
  gf H a (.ref b) v (upd H a (.dT (putK kvs k v))):=.inr ⟨kvs,k,b,e,rfl,c,d,rfl⟩
section
variable{r:i'}{o:ap V}
theorem Inv.big(I:Inv X J σ H s):sysModules<s.ax:=by
 have h:UX<s.ax:=(I.mod.glob.keeps I.bk).lt;exact k9 (by decide) h
theorem II{Q:i'->Gb->Prop}(r:A.units+1<Yq)(I:Inv X J σ H s)(g:eI H a y (ih v))(n:RelV y u)(h:∀c s',Inv X J σ H s'->RelV v c->Q c s') :
  UB X.ef A (getItem (.ref a) u) Q E s:=by
 rcases g with⟨kvs,k,e,i,l⟩|⟨kvs,k,b,e,i,t,l⟩
 ·subst i
  obtain⟨z,w,vs,d,j⟩:=kq I.aD e;obtain⟨c,m,f⟩:=gb.some_of (v:=v) (o:=valueAt vs k) (by rw[l];exact d.val k)
  exact wpAny_getItem_of (ko n) j.mapOf m (h c _ (I.tok _) f)
 ·subst i
  cases (show u=U3 b from n)
  obtain⟨z,w,xs,d,j⟩:=nQ I.aD e;obtain⟨c,m,f⟩:=gb.some_of (v:=v) (o:=(atKey xs k).map (·.2)) (by rw[l];exact d.val k)
  obtain⟨p,x,q⟩:=fe.mp m;refine wpAny_getItem_heap (vF r) (nC I.aD t) j x ?_;rw[q];exact h c _ (I.tok _) f
theorem OW{Q:i'->Gb->Prop}(m:A.units+1<Yq)(I:Inv X J σ H s)(g:eI H a y o)(j:RelV y u)(h:∀s',Inv X J σ H s'->Q (.bool o.isSome) s') :
  UB X.ef A (XR .In u (.ref a)) Q E s:=by
 rcases g with⟨kvs,k,e,d,l⟩|⟨kvs,k,b,e,d,n,l⟩
 ·subst d
  obtain⟨z,f,vs,c,i⟩:=kq I.aD e;refine wpAny_in_of (ko j) f i.mapOf ?_;rw[<-(c.val k).mX,<-l];exact h _ (I.tok _)
 ·subst d
  cases (show u=U3 b from j)
  obtain⟨z,f,xs,c,i⟩:=nQ I.aD e;refine wpAny_in_heap (vF m) (nC I.aD n) f i ?_;have q:=(c.val k).mX;rw[FW]at q;rw[<-q,<-l];exact h _ (I.tok _)
theorem KC{Q:i'->Gb->Prop}(m:A.units+1<Yq)(I:Inv X J σ H s)(g:eI H a y o)(j:RelV y u)(h:∀s',Inv X J σ H s'->Q (.bool (!o.isSome)) s') :
  UB X.ef A (XR .NotIn u (.ref a)) Q E s:=by
 rcases g with⟨kvs,k,e,d,l⟩|⟨kvs,k,b,e,d,n,l⟩
 ·subst d
  obtain⟨z,f,vs,c,i⟩:=kq I.aD e;refine wpAny_notIn_of (ko j) f i.mapOf ?_;rw[<-(c.val k).mX,<-l];exact h _ (I.tok _)
 ·subst d
  cases (show u=U3 b from j)
  obtain⟨z,f,xs,c,i⟩:=nQ I.aD e;refine wpAny_notIn_heap (vF m) (nC I.aD n) f i ?_;have q:=(c.val k).mX;rw[FW]at q;rw[<-q,<-l];exact h _ (I.tok _)
theorem sU{ob:HO}(I:Inv X J σ H s)(c:oe (H a))(hs:X4 a s.heap h')(d:∃q,h'.get? a=ih q)(new:bc X.prog X.w (upd H a ob) h' a ob) :
  Inv X J σ (upd H a ob) { s with heap:=h',toks:=t' }:=
 I.write (x:=a) (e:=a) c (.inl rfl) (λb q f z=>(hs.2 b f).trans z) d new
theorem pL{vs:am (Key×i')}(z:kvs.length<=UJ)(c:(a==sysModules)=false)(b:KV kvs vs)(d:h'.DictOf (b5 P w) a vs) :
  bc P w Y h' a (.dK kvs):=⟨z,c,vs,b,d⟩
theorem IJ{Q:Unit->Gb->Prop}(D:A.units+1<Yq)(I:Inv X J σ H s)(g:gf H a y v Y)(w:RelV y u)(x:RelV v r)(h:∀s',Inv X J σ Y s'->Q () s') :
  UB X.ef A (setItem (.ref a) u r) Q E s:=by
 rcases g with⟨kvs,k,e,j,l,m⟩|⟨kvs,k,b,e,j,B,l,m⟩
 ·subst j m
  obtain⟨z,n,vs,d,o⟩:=nP I.aD e;have p:vs.length<=UJ:=by rw[<-d.length];exact z
  have t:(putK kvs k v).length<=UJ:=by have:=rO kvs k v;omega
  refine wpAny_setItem_pairs (hsz:=p) (ko w) o λh' f hs=>h _ ?_;have F:∃q,h'.get? a=ih q:=let ⟨q,_,_,i,_⟩:=f;⟨q,i⟩;exact sU I (by rw[e];exact XW) hs F (pL t n (d.put k x) f)
 ·subst j m
  cases (show u=U3 b from w)
  obtain⟨z,n,xs,d,o⟩:=Nl I.aD e;have p:xs.length<=UJ:=by rw[<-cC d];exact z
  have t:(putK kvs k v).length<=UJ:=by have:=rO kvs k v;omega
  refine wpAny_setItem_heap (hsz:=p) (vF D) (nC I.aD B) o λh' f hs=>h _ ?_;obtain⟨q,es,ep,i,h2,G,K,_,L⟩:=f;refine sU I (by rw[e];exact XW) hs ⟨q,i⟩ ⟨t,n,_,(d.put k B x).keeps λc ys C=>?_,q,es,ep,i,h2,G,K,L⟩
  rw[ai (bx C e (λz=>nomatch z))];exact C
end
section
variable{k:Key}
theorem CU{Q:i'->Gb->Prop}(I:Inv X J σ H s)(e:Rd H a (.dK kvs))(h:∀t s',Inv X J σ H s'->Q (.int kvs.length t) s'):UB X.ef A (call (.builtin "len") [.ref a]) Q E s:=by
 obtain⟨z,c,vs,b,d⟩:=kq I.aD e;refine call_len_dict c d (by rw[<-b.length];rw[aJ]at z;omega) ?_
 rw[<-b.length];exact h _ _ (I.tok _)
end
def DI(i:Vo):Prop:= ∀ov iv,subscripted i false ov iv=operate [ov,iv] (getItem ov iv)
theorem KG{a:Vo}{id:String}{Q:i'->Gb->Prop}
  (l:typeLookup (.type T) "__getitem__" = pure (ih (.builtin id))) (hs:DI a)
  (h:UB (UP prog w) A (eval value env) (λo e=>UB (UP prog w) A (eval a env) (λi b=>b.TypeIs o T/\UB (UP prog w) A (getItem o i) Q E b) E e) E s) :
  UB (UP prog w) A (eval (.Subscript value a pos) env) Q E s:=by
 refine aaD (gU h (λo e j=>gU j (λi b c=>?_) λ_ _ x=>x) λ_ _ x=>x);obtain⟨g,c⟩:=c;unfold subscriptTail;refine ae ?_;rw[getitemInPython_of_ne g.not_modules];refine ae (FX g l ?_);have d:UB (UP prog w) A (subscripted a false o i) (λr f=>UB (UP prog w) A (letTemporaryGo value o r >>= λ_=>pure r) Q E f) E b:=by
  rw[hs o i];exact wpAny_operating (gU c (λr f k=>ae (wpAny_letTemporaryGo (aj k))) λ_ _ x=>x)
 first
  |exact aj (ae d)
  |exact ae (aj (ae d))
  |exact ae d
theorem Ho{o:ap V}(I:Inv X J σ H s)(g:eI H a y o):s.TypeIs (.ref a) "dict" :=by
 rcases g with⟨kvs,k,e,_,_⟩|⟨kvs,k,b,e,_,_,_⟩
 ·obtain⟨_,_,vs,_,c⟩:=kq I.aD e
  exact c.typeIs
 ·obtain⟨_,_,xs,_,c⟩:=nQ I.aD e
  exact c.typeIs
def uf(td ty:TE):TE:=λσ H Q=>td σ H λx H1=>ty σ H1 λy H2=>∃a v,x=.ref a/\eI H2 a y (ih v)/\Q v H2
def DJ(ty td:TE):TE:=λσ H Q=>ty σ H λy H1=>td σ H1 λx H2=>∃a o,x=.ref a/\eI H2 a y o/\Q (.bl o.isSome) H2
def KH(ty td:TE):TE:=λσ H Q=>ty σ H λy H1=>td σ H1 λx H2=>∃a o,x=.ref a/\eI H2 a y o/\Q (.bl (!o.isSome)) H2
def Nn(td ty tv:TE):TS:=λD σ H=>tv σ H λv H1=>td σ H1 λx H2=>ty σ H2 λy H3=>∃a H4,x=.ref a/\gf H3 a y v H4/\D.nx σ H4
section
variable{o i:Vo}{Qx:ZV}{td ty tv:TE}
theorem nt(d:X.A.units+1<Yq)(e:PE X o td)(hi:PE X i ty)(hs:DI i:=by exact λ_ _=>rfl):PE X (.Subscript o i pos) (uf td ty):=by
 intro J s σ H Q I h;refine KG PySem.F.slot_dict_getitem.lookup hs (aI (e J s σ H _ I h) λu s1 ⟨x,H1,f,j,k⟩=>aI (hi J s1 σ H1 _ f k) λp s2 t=>?_);obtain⟨y,H2,b,l,a,v,ex,g,m⟩:=t;subst ex;obtain rfl:u=U3 a:=j;exact⟨Ho b g,II d b g l λq r n c=>⟨v,H2,n,c,m⟩⟩
theorem tU(b:X.A.units+1<Yq)(hi:PE X i ty)(c:PE X o td):PC X .In i o (DJ ty td):=by
 intro J s σ H Q I h;refine aI (hi J s σ H _ I h) λp s1 ⟨y,H1,d,e,f⟩=>aI (c J s1 σ H1 _ d f) λu s2 r=>?_;obtain⟨x,H2,j,k,a,l,ex,g,m⟩:=r;subst ex;obtain rfl:u=U3 a:=k;exact OW b j g e λq n=>⟨.bl l.isSome,H2,n,rfl,m⟩
theorem r8(b:X.A.units+1<Yq)(hi:PE X i ty)(c:PE X o td):PC X .NotIn i o (KH ty td):=by
 intro J s σ H Q I h;refine aI (hi J s σ H _ I h) λp s1 ⟨y,H1,d,e,f⟩=>aI (c J s1 σ H1 _ d f) λu s2 r=>?_;obtain⟨x,H2,j,k,a,l,ex,g,m⟩:=r;subst ex;obtain rfl:u=U3 a:=k;exact KC b j g e λq n=>⟨.bl (!l.isSome),H2,n,rfl,m⟩
theorem jq(b:X.A.units+1<Yq)(c:PE X o td)(hi:PE X i ty)(d:PE X value tv)(hs:swapsWith value (ih (.Subscript o i Qj)) pos.line X.env=pure false) :
  PS X (.Assign [.Subscript o i Qj] value pos) (Nn td ty tv):=by
 intro J s σ H D I h;refine wpAny_Assign_Subscript (aI (d J s σ H _ I h) λr s1 ⟨v,H1,e,f,j⟩=>aI (c J s1 σ H1 _ e j) λu s2 ⟨x,H2,k,l,m⟩=>aI (hi J s2 σ H2 _ k m) λz B F=>?_) hs;obtain⟨y,C,n,p,a,q,ex,g,t⟩:=F;subst ex;obtain rfl:u=U3 a:=l;exact IJ b n g p f λE w=>⟨σ,q,w,t⟩
end
theorem Ju(h:XY)(a:sysModules<h.objs.size):bc P w H (h.push { cls:=.type "dict",data:=.dict #[] }) h.objs.size (.dK []):=
 ⟨ba _,jU.mpr (a7 (bp a)),[],.nil,ZG h⟩
theorem Jv(h:XY)(a:sysModules<h.objs.size):bc P w H (h.push { cls:=.type "dict",data:=.dict #[] }) h.objs.size (.dT []):=
 ⟨ba _,jU.mpr (a7 (bp a)),[],.nil,_,#[],0,bG _ rfl,⟨rfl,rfl,rfl⟩,rfl,rfl,iD⟩
def L':TE:=λ_ H Q=>∀p,H p=none->Q (.ref p) (upd H p (.dK []))
def Ma:TE:=λ_ H Q=>∀p,H p=none->Q (.ref p) (upd H p (.dT []))
theorem lA:PE X (.Dict [] [] pos) L':=λJ s σ H Q I h =>
 wpAny_Dict_empty ⟨.ref s.ax,_,I.laid (a:=s.ax) (o:=.dK []) (t':=s.toks) (λ_ _ q=>aV _ q) (aG _) (Ju s.heap I.big),rfl,h _ (I.aD.fresh (aG _))⟩
theorem Jw:PE X (.Dict [] [] pos) Ma:=λJ s σ H Q I h =>
 wpAny_Dict_empty ⟨.ref s.ax,_,I.laid (a:=s.ax) (o:=.dT []) (t':=s.toks) (λ_ _ q=>aV _ q) (aG _) (Jv s.heap I.big),rfl,h _ (I.aD.fresh (aG _))⟩
end L2
namespace HT
open PyProof.Rows
theorem Gy{t:FG}{lo:ap Int}{Q:i'->Gb->Prop}(a:Yg s.heap t Qb)(hs:s.heap.IsSliceOf sl vl vu .none)(pl:Y6 vl lo)(f:Y6 vu hi)
  (h0:a9 Qb.size 0 lo=0) (U:a9 Qb.size Qb.size hi=Qb.size) (h:Q (.ref t) s):UB (UP prog w) A (getItem (.ref t) (.ref sl)) Q E s:=by
 obtain⟨os,c,d,g⟩:=id hs;have e:s.TypeIs (.ref sl) "slice" :=⟨os,c,d⟩;unfold getItem
 try with_reducible refine de ?_
 first|refine ae (aj ?_)|skip
 refine ae (wpAny_sequenceKey a.typeIs (by decide) ?_)
 refine ae (rj (name:=Yk "__getitem__") a.typeIs oD
  (gV oD a.typeIs entry_tuple_getitem ?_ (args_tuple_getitem _ _)))
 show UB _ _ (Y1 (.ref t) >>= _) _ _ s;refine ae (tupleItemsOf_ a ?_);refine ae (iz e ?_);rw[aw (by decide)]
 refine ae (we hs pl f ?_);rw[h0,U];have b:((((0:Nat):Int)==0&&(1:Int)==1&&(Qb.size - 0)==Qb.size)=true):=by simp
 show UB _ _ (if ((((0:Nat):Int)==0&&(1:Int)==1&&(Qb.size - 0)==Qb.size)=true) then _ else _) _ _ s;rw[aw b];refine ae (ae (iz a.typeIs (aj ?_)));rw[aw (by decide)]
 exact ae (je (aj ⟨_,rfl,aj h⟩))
theorem Jx{t:FG}{ws:am i'}{Q:i'->Gb->Prop}(m:Yg s.heap t ([]:am i').toArray)(o:Yg s.heap b ws.toArray)(h:Q (.ref b) s):UB (UP prog w) A (Yi .Add (.ref t) (.ref b)) Q E s:=by
 obtain⟨⟨g,p,e,sl⟩,c,q,n,r⟩:=id m;obtain⟨⟨f,i,data2,j⟩,a,k,d,l⟩:=id o;obtain rfl:g=.type "tuple" :=q;obtain rfl:e=.seq #[] n:=r;obtain rfl:f=.type "tuple" :=k;obtain rfl:data2=.seq ws.toArray d:=l;exact concat_meets ⟨_,c,rfl⟩ ⟨_,a,rfl⟩ FH FI FJ FL (FO _ _) (tuple_addW0 t b #[] ws.toArray n d p i sl j rfl) ⟨c,a,h⟩
end HT
namespace L2
open Spec PyProof.Rows W
theorem AV{q:FG}{o:HO}(a:H q=none):ao H (upd H q o):=λb u e=>by rw[ai (aB e a)];exact e
def OX:V->Option Int->Option Int->Hp->VK->Prop:=λx lo hi H Q=>∃a xs,x=.ref a/\H a=ih (.tup xs) /\∀p Y,ao H Y->Y p=ih (.tup (fl xs lo hi))->Q (.ref p) Y
theorem KI:mr X OX:=by
 intro J s σ H x v vl vu lo hi sl Q I e hs pl f h;obtain⟨a,xs,rfl,c,q⟩:=h
 by_cases b:HT.a9 xs.length 0 lo=0/\HT.a9 xs.length xs.length hi=xs.length
 ·cases e
  obtain⟨its,r,g,j⟩:=I.tuple (aE.of c);have d:its.toArray.size=xs.length:=by rw[bM];exact r.length.symm
  refine⟨"tuple",_,oD.lookup,g.typeIs,HT.Gy g hs pl f (by rw[d];exact b.1) (by rw[d];exact b.2) ?_⟩
  refine⟨.ref a,H,I,rfl,q a H (ao.refl _) ?_⟩;unfold fl;rw[b.1,b.2,vE,FY,cF];exact c
 ·exact LV J s σ H (.ref a) v vl vu lo hi sl Q I e hs pl f ⟨a,xs,rfl,aE.of c,b,λp i=>q p _ (AV i) ah⟩
def Np:R2:=λx y H Q=>∃a b xs ys,x=.ref a/\y=.ref b/\H a=ih (.tup xs)/\H b=ih (.tup ys)/\xs.length+ys.length<=UJ /\∀p Y,ao H Y->Y p=ih (.tup (xs++ys))->Q (.ref p) Y
theorem BB:bW X (Yi .Add) Np:=by
 rintro J s σ H x y v u Q I f g ⟨a,b,xs,ys,rfl,rfl,c,d,i,q⟩;cases xs with
 |nil =>
  cases f
  cases g
  obtain⟨its,j,k,_⟩:=I.tuple (aE.of c);obtain⟨m,n,p2,_⟩:=I.tuple (aE.of d);cases j
  exact HT.Jx k p2 ⟨.ref b,H,I,rfl,q b H (ao.refl _) d⟩
 |cons z xs=>exact Kq J s σ H (.ref a) (.ref b) v u Q I f g ⟨a,b,_,ys,rfl,rfl,aE.of c,aE.of d,by simp,i,λe=>q a H (ao.refl _) (by rw[e,ei];exact c),λ_ p l=>q p _ (AV l) ah⟩
theorem sV{k:Key}(h:(b5 P w).is k u=true):RelV (kV k) u:=by
 cases k with
 |inl i=>exact ZX (show ZH i u=true from h)
 |inr x=>exact Fz (show X' x u=true from h)
theorem BC:∀{xs:am V}{us:am i'},xs.length=us.length->(∀(i:Nat) x u,xs[i]?=ih x->us[i]?=ih u->RelV x u)->Vals xs us
 |[],[],_,_=>.nil
 |[],_::_,h,_=>by simp at h
 |_::_,[],h,_=>by simp at h
 |x::xs,u::us,h,f=>.cons (f 0 x u rfl rfl) (BC (by simpa using h) λi y v a b=>f (i+1) y v (by simpa using a) (by simpa using b))
theorem wL(B:X.calm=true):bY X (.type "list") (λxs H Q=>∃d kvs,xs=[.ref d]/\H d=ce kvs /\∀l,H l=none->Q (.ref l) (upd H l (.lst (kvs.map λkv=>kV kv.1)))):=by
 rintro J s σ H xs us Q I r ⟨d,kvs,rfl,j,q⟩;obtain⟨u,rfl,C⟩:=vals1 r;cases C
 obtain⟨f,lo,vs,kv,m⟩:=nP I.aD j;obtain⟨ep,n⟩:=m.dictAt;have b:kvs.length=vs.length:=kv.length;refine kdl_call (kdl_dict (kvs:=vs) (ep:=ep) lo) (I.ok.hd B) n (by rw[<-b];exact f) λh' tk z c D e it=>?_
 refine⟨.ref s.ax,_,I.laid (t':=tk) D (aG _) (show bc X.prog X.w _ h' _ (.lst (kvs.map λkv=>kV kv.1)) from⟨by rw[ar];exact f,z.toList,c,?_,by rw[Array.toArray_toList];exact e⟩),rfl,q _ (I.aD.fresh (aG _))⟩
 refine BC (by rw[ar,cb];exact b.trans it.1.symm) λi x v o t=>?_
 obtain⟨k,y,g,hi⟩:=it.2 i v (by rw[<-iA];exact t)
 obtain⟨A,a,rfl⟩:=fe.mp (by rw[<-cx];exact o)
 have e:A.1=k:=by
  clear it o t b n m q f j
  induction kv generalizing i with
  |nil=>simp at a
  |cons p _ E =>
   cases i with
   |zero =>
    simp at a g;subst a;rw[p.1,g]
   |succ i=>exact E i (by simpa using g) (by simpa using a)
 rw[e];exact sV hi
end L2
namespace HT
open PyProof.Rows
section
open SeqAt
open AutoSeq1 (wpAny_loadPart')
open MeetsSeq MeetsSeq2 MeetsSeq3
end
end HT
namespace L2
open Spec PyProof.Rows W HT
theorem g9{α β:Type}{F:α->β->Prop}:∀{l:am α}{m:am β}{i:Nat}{x:α},XU F l m->l[i]?=ih x ->∃y,m[i]?=ih y/\F x y
 |_,_,i,x,.nil,e=>by simp at e
 |_,_,0,x,.cons p _,e=>by simp at e;subst e;exact⟨_,rfl,p⟩
 |_,_,i+1,x,.cons _ t,e=>by simpa using g9 (i:=i) t (by simpa using e)
end L2
namespace HT
open PyProof.Rows
open AutoSeq1 (wpAny_loadPart')
end HT
namespace L2
open Spec PyProof.Rows W HT
end L2
namespace HT
open PyProof.Rows
end HT
namespace HT
open PyProof.Rows W
end HT
namespace HT
open PyProof.Rows W L2
theorem oW:plainId "dict.update.loop" = true:=by decide +kernel
theorem Ae:entryFor table "dict.update.loop" = ih Ye.«dict.update.loop» :=entryFor_of_fast (by kernel_rfl)
theorem stored_new{K:Type} [DecidableEq K]{kvs:am (K×i')}{k:K}{v:i'}(h:k ∉ kvs.map (·.1)):stored kvs k v=kvs++[(k,v)]:=by
 unfold stored;rw[ak];intro z;obtain⟨p,a,e⟩:=oF.mp z;exact h (aZ.mpr ⟨p,a,by simpa using e⟩)
end HT
namespace HT
open PyProof.Rows
section
open SeqAt
open AutoSeq1 (wpAny_loadPart')
open MeetsSeq MeetsSeq2 MeetsSeq3
end
end HT
namespace L2
open Spec PyProof.Rows W HT
theorem cJ{c:YL}(h:(sc.names.map (·.1)).Nodup/\N'.Nodup/\uG N N' Qf sc=true /\∀p∈sc.names,p.2=.free->c.names.lookup p.1=ih .cell\/c.names.lookup p.1=ih .free:=by decide +kernel)(a:sc.kind=.function:=by rfl)(b:Qf.length=N'.length:=by rfl):bJ N c N' Qf sc:=⟨a,h.1,h.2.1,b,kk h.2.2.1,h.2.2.2⟩
theorem bB{P:am F4}(h:N.Nodup/\(∀x∈P,sc.names.lookup x=ih .local\/sc.names.lookup x=ih .cell) /\∀y∈sc.names,y.2 ≠ .free:=by decide +kernel)(a:sc.kind=.function:=by rfl)(b:sc.isCoroutine=false:=by rfl)(c:sc.isGenerator=false:=by rfl)(d:N.take P.length=P:=by rfl):bg N P sc:=⟨a,b,c,h.1,d,h.2.1,h.2.2⟩
theorem pM{xs:am F4}(h:(xs.map V.str)[i]?=ih v):i<(xs.map V.str).length /\∃a:i<xs.length,V.str xs[i]=v/\xs.take (i+1)=xs.take i++[xs[i]]:=by
 have U:=(bQ.mp h).1;have h2:i<xs.length:=by simpa using U
 exact⟨U,h2,by simpa [h2] using h,by rw[cO,bA h2];rfl⟩
theorem ip(h:n+64<Yq):n+1<Yq:=by omega
theorem hT:3<=UJ:=by rw[aJ];decide
theorem dc:2<=UJ:=UY hT
theorem c0:1<=UJ:=UY dc
end L2
namespace L2
open W
structure aY(P:XZ)(w:X7)(K:Yh)(mg:F4->Option i')(base:XY)(CX:gD)(k:Nat)(f:FG)(fd:XX)(ps:List F4)(sp:Sp)(x:F4):Prop where
 G:aU P w K mg base CX k f fd ps sp
 k:Yb K (.ref f)=true
 b:Binds K fd ps []
 m:mg x=ih (.ref f)
section
variable{k:Nat}{p:ZV}{t:TA}
theorem aP(C:aY X.prog X.w X.K X.mg X.base aC k f fd ps sp x)(d:aQ k X.A)(g:PA X (e::es) t)(h:Gl X x:=by rfl)(a:(x==("__debug__" : F4))=false:=by decide)(i:U6 (e::es) X.env=(false,eval e X.env)::U6 es X.env:=by rfl)(c:(backTo pos (U6 es X.env)).any (·.1)=false:=by rfl):PE X (.Call (.Name x p) (e::es) [] pos) (pZ sp [] E0 t):=dA C.G d h C.m C.k C.b .nil dH g a i c
end
end L2
namespace L2
open Spec PyProof.Rows W
def nR(o:Ys):Option i':=match o.data with|.fields vs=>vs[2]? | _=>none
def Kp(o o':Ys):Prop:=o'.dict=o.dict/\nR o'=nR o
def KD{α:Type}:Zi α->Prop
 |.pure _=>True
 |.raise _=>True
 |.unsupported _=>True
 |.finish _=>True
 |.rule _ k=>KD (k ())
 |.at _ k=>KD (k ())
 |.load _ _ k=>∀o,KD (k o)
 |.update _ _ f k=>(∀o,Kp o (f o))/\KD (k ())
 |.alloc _ k=>∀a,KD (k a)
 |.loadIfAlive _ k=>∀o,KD (k o)
 |.point _ k=>KD (k ())
 |.register _ _=>False
 |.fresh k=>∀t,KD (k t)
 |.ask k=>∀x,KD (k x)
 |.choose _ _ k=>∀n,KD (k n)
 |.os _ _ k=>∀r,KD (k r)
 |.call _ _ _ _ _=>False
 |.handled _ k=>∀v,KD (k v)
 |.newGen _ k=>∀n,KD (k n)
 |.genState _ k=>∀x,KD (k x)
 |.resume _ _ _ _=>False
 |.yield _ _ _ _=>False
 |.stack k=>∀l,KD (k l)
 |.fork _ _=>False
 |.thread k=>∀n,KD (k n)
 |.await _ _ _ _ _=>False
def RD(h h':XY):Prop:= ∀(a:FG) (o:Ys),h.objs[a]?=ih o ->∃o',h'.objs[a]?=ih o'/\Kp o o'
theorem RD.refl(h:XY):RD h h:=λa o e=>⟨o,e,rfl,rfl⟩
theorem RD.trans{U h2 c:XY}(a:RD U h2)(b:RD h2 c):RD U c:=λx o e=>by
 obtain⟨g,h,d⟩:=a x o e;obtain⟨i,j,f⟩:=b x g h;exact⟨i,j,f.1.trans d.1,f.2.trans d.2⟩
theorem RD.push(r:RD h0 h)(o:Ys):RD h0 (h.push o):=r.trans λx u e=>⟨u,by
 obtain⟨a,l⟩:=h;show(a.push o)[x]?=ih u;have b:x<a.size:=(iB.mp e).1;rw[Array.getElem?_push,ak (bp b)];exact e,rfl,rfl⟩
theorem RD.update(r:RD h0 h){f:Ys->Ys}(g:∀o,Kp o (f o)):RD h0 (h.update a f):=r.trans λx u e=>by
 obtain⟨b,l⟩:=h;show ∃o',(b.modify a f)[x]?=ih o'/\_;rw[Array.getElem?_modify];have d:b[x]?=ih u:=e
 by_cases c:a=x
 ·rw[aw c,d];exact⟨f u,rfl,g u⟩
 ·rw[ak c];exact⟨u,d,rfl,rfl⟩
theorem RD.dict(r:RD h h'){o':Ys}(e:h.get? a=ih o)(f:h'.get? a=ih o'):Kp o o':=by
 have b:∀{g:XY}{u:Ys},g.get? a=ih u->g.objs[a]?=ih u:=λ{g u} q=>by
  unfold abM at q;split at q
  ·cases q
  ·exact q
 obtain⟨i,c,d⟩:=r a o (b e);rw[b f]at c;cases c
 exact d
theorem Nq{α:Type}{M:Zu}{Γ:PySem.Ctx}:∀{t:Zi α}{Q:α->ZV->Gb->Prop}{E:i'->ZV->Gb->Prop}{p:ZV}{s:Gb},KD t->RD h0 s.heap->Sem.wp M Γ t Q E p s ->
  Sem.wp M Γ t (λv p s'=>Q v p s'/\RD h0 s'.heap) (λv p s'=>E v p s'/\RD h0 s'.heap) p s:=by
 intro t
 induction t with
 |pure a=>intro Q E p s _ r h;exact⟨h,r⟩
 |raise e=>intro Q E p s _ r h;exact⟨h,r⟩
 |unsupported w=>intro Q E p s _ r h;exact h
 |finish e=>intro Q E p s _ r h;exact h
 |rule t k i=>intro Q E p s d r h;exact i () d r h
 |«at» q k i=>intro Q E p s d r h;exact i () d r h
 |load a q k i=>intro Q E p s d r h;obtain⟨o,e,h⟩:=h;exact⟨o,e,i o (d o) r h⟩
 |update a q f k i=>intro Q E p s d r h;exact⟨h.1,i () d.2 (r.update d.1) h.2⟩
 |alloc o k i=>intro Q E p s d r h;exact i _ (d _) (r.push o) h
 |loadIfAlive a k i=>intro Q E p s d r h;exact i _ (d _) r h
 |point l k i=>intro Q E p s d r h;exact i () d r h
 |register a k i=>intro Q E p s d r h;exact h
 |fresh k i=>intro Q E p s d r h;exact i _ (d _) r h
 |ask k i=>intro Q E p s d r h;exact i _ (d _) r h
 |choose j n k i=>intro Q E p s d r h;exact⟨h.1,i _ (d _) r h.2⟩
 |os q l k i=>intro Q E p s d r h;exact i _ (d _) r h
 |call c m g l k i=>intro Q E p s d r h;exact Vs d
 |handled own k i=>intro Q E p s d r h;exact i _ (d _) r h
 |newGen c k i=>intro Q E p s d r h;exact i _ (d _) r h
 |genState g k i=>intro Q E p s d r h;obtain⟨st,e,h⟩:=h;exact⟨st,e,i _ (d _) r h⟩
 |resume g u l k i=>intro Q E p s d r h;exact Vs d
 |yield v g l k i=>intro Q E p s d r h;exact Vs d
 |stack k i=>intro Q E p s d r h;exact i _ (d _) r h
 |fork c k i=>intro Q E p s d r h;exact Vs d
 |thread k i=>intro Q E p s d r h;exact i _ (d _) r h
 |await a t b l k i=>intro Q E p s d r h;exact Vs d
theorem Mb{α:Type}{M:Zu}{t:Zi α}{Q:α->Gb->Prop}(k:KD t)(h:UB M A t Q E s) :
  UB M A t (λv s'=>Q v s'/\RD s.heap s'.heap) (λv s'=>E v s'/\RD s.heap s'.heap) s:=λΓ p hi=>Nq k (RD.refl _) (h Γ p hi)
theorem KD.bind{α β:Type}{f:α->Zi β}(i:∀x,KD (f x)):∀{t:Zi α},KD t->KD (t.bind f):=by
 intro t
 induction t with
 |pure a=>intro _;exact i a
 |raise e=>intro _;trivial
 |unsupported w=>intro _;trivial
 |finish e=>intro _;trivial
 |rule t k h=>intro d;exact h () d
 |«at» q k h=>intro d;exact h () d
 |load a q k h=>intro d o;exact h o (d o)
 |update a q g k h=>intro d;exact⟨d.1,h () d.2⟩
 |alloc o k h=>intro d a;exact h a (d a)
 |loadIfAlive a k h=>intro d o;exact h o (d o)
 |point l k h=>intro d;exact h () d
 |register a k h=>intro d;exact Vs d
 |fresh k h=>intro d o;exact h o (d o)
 |ask k h=>intro d o;exact h o (d o)
 |choose j n k h=>intro d o;exact h o (d o)
 |os q l k h=>intro d o;exact h o (d o)
 |call c m g l k h=>intro d;exact Vs d
 |handled own k h=>intro d o;exact h o (d o)
 |newGen c k h=>intro d o;exact h o (d o)
 |genState g k h=>intro d o;exact h o (d o)
 |resume g p l k h=>intro d;exact Vs d
 |yield v g l k h=>intro d;exact Vs d
 |stack k h=>intro d o;exact h o (d o)
 |fork c k h=>intro d;exact Vs d
 |thread k h=>intro d o;exact h o (d o)
 |await a t b l k h=>intro d;exact Vs d
theorem KD.cB{α β:Type}{t:Zi α}{f:α->Zi β}(h:KD t)(a:∀x,KD (f x)):KD (t >>= f):=KD.bind a h
theorem KD.pure{α:Type}{x:α}:KD (Pure.pure x:Zi α):=XW
theorem KD.iu{α:Type}{w:String}:KD (PySem.unsupported w:Zi α):=XW
theorem sv:KD PySem.stack:=λ_=>XW
theorem sX:KD (PySem.load a):=λ_=>XW
theorem Af{f:Ys->Ys}(h:∀o,Kp o (f o)):KD (PySem.update a f):=⟨h,XW⟩
theorem Hq{v:i'}:KD (fieldsOf v):=by
 unfold fieldsOf;split
 ·refine KD.cB sX λo=>?_
  split
  ·exact KD.pure
  ·exact KD.iu
 ·exact KD.iu
theorem o6{v:i'}:KD (field v i):=by
 unfold field;refine KD.cB Hq λo=>?_;split
 ·exact KD.pure
 ·exact KD.iu
theorem GH{x:i'}(hi:i≠2):∀o:Ys,Kp o (Obj.mapFields (·.setIfInBounds i x) o):=λ⟨c,d,dt,s⟩=>by
 cases dt <;> first|exact⟨rfl,rfl⟩|exact⟨rfl,Array.getElem?_setIfInBounds_ne hi⟩
theorem mQ{v x:i'}(hi:i≠2:=by decide):KD (setField v i x):=by
 unfold setField;split
 ·unfold updateField
  refine KD.cB sX λo=>?_;split
  ·split
   ·exact Af (GH hi)
   ·exact KD.iu
  ·exact KD.iu
 ·exact KD.iu
theorem rL{ty:String}{vs:am i'}:KD (newFields ty vs):=by
 unfold newFields newObj
 dsimp only
 split
 ·exact KD.iu
 ·show KD (newObjAsIs _ _ _)
  unfold newObjAsIs;exact KD.cB (λ_=>XW) λ_=>KD.pure
theorem Hr{b:Bool}{l:am Y5}:KD (keptBack env b l):=by
 unfold keptBack;split
 ·split
  ·exact KD.pure
  ·unfold underTheClaimsCaller
   exact KD.cB (KD.cB sv λ_=>KD.pure) λ_=>by split <;> exact KD.pure
 ·exact KD.pure
theorem IK{l:am Y5}:KD (behindIsImport env l):=by
 unfold behindIsImport;split
 ·exact KD.pure
 ·split
  ·exact KD.pure
  ·exact KD.cB o6 λ_=>KD.pure
theorem AW:∀l:am Y5,KD (readyFrames l)
 |[]=>by unfold readyFrames;exact KD.pure
 |env::outer=>by
  unfold readyFrames;split
  ·refine KD.cB sX λo=>?_
   split
   ·exact KD.pure
   ·exact KD.cB IK λ_=>KD.cB Hr λ_=>KD.cB (Af λ_=>⟨rfl,rfl⟩) λ_=>AW outer
  ·exact KD.iu
theorem rR:KD (Zs env):=by
 unfold Zs;refine KD.cB ?_ λl=>KD.cB ?_ λr=>?_
 ·unfold frameEnvs
  exact KD.cB sv λ_=>KD.pure
 ·unfold frameObject
  split
  ·exact KD.pure
  ·exact KD.cB (AW _) λ_=>KD.pure
 ·split
  ·exact KD.pure
  ·exact KD.iu
theorem sx{b:Bool}:KD (entryPlaceOf f b):=by
 unfold entryPlaceOf;refine KD.cB sv λl=>?_;split
 ·exact KD.pure
 ·exact KD.pure
theorem BD{e:i'}:KD (noteFrame e env):=by
 unfold noteFrame;split
 ·refine KD.cB o6 λa=>?_
  have c:∀f b,KD (setField e 1 =<< (do ab4 a (<- Zs env) .none (rawInt f) .none (<- entryPlaceOf f b))):=λf b=>KD.cB (KD.cB rR λ_=>KD.cB sx λ_=>rL) λ_=>mQ;split
  ·refine KD.cB o6 λx=>?_
   split
   ·exact KD.pure
   ·exact KD.cB mQ λ_=>KD.cB rR λ_=>KD.cB sx λ_=>KD.cB rL λ_=>mQ
  ·exact KD.cB rR λ_=>KD.cB sx λ_=>KD.cB rL λ_=>mQ
 ·exact KD.iu
theorem rM{e:i'}{f:ap FG}:KD (setFlight e f):=by
 unfold setFlight;refine KD.cB o6 λtb=>?_;split
 ·exact mQ
 ·exact KD.pure
theorem wM{e:i'}:KD (leaving env e):=by
 unfold leaving;exact KD.cB BD λ_=>rM
def fG(n:Option i')(C:FG)(dx:Option FG)(a:FG):HO:=.ext λh=>∃ox vs,h.get? a=ih ox/\ox.cls=.ref C/\ox.dict=dx/\ox.data=.fields vs/\(∀y,n=ih y->vs[2]?=ih y)
section
variable{n:ap i'}
theorem KJ{vs:Array i'}(e:h.get? a=ih ox)(c:ox.cls=.ref C)(d:ox.dict=dx)(f:ox.data=.fields vs)(z:∀y,n=ih y->vs[2]?=ih y):bc P w H h a (fG n C dx a):=
 ⟨⟨ox,vs,e,c,d,f,z⟩,⟨_,e⟩,λ_ _ ⟨ox,vs,q,r⟩ k=>⟨ox,vs,k _ q,r⟩⟩
theorem KL{B:XY}{l:am Y5}{a0:i'}(f:Yy B l a (.ref C) a0 h)(r:∃ox,h.get? a=ih ox/\ox.dict=dx/\(∀y,n=ih y->nR ox=ih y)):bc P w H h a (fG n C dx a):=by
 obtain⟨_,_,_,i,vs,_,_,_,b,g,c,_⟩:=f;obtain⟨ox,e,d,z⟩:=r;rw[b]at e;cases e;exact KJ b g.1 d c λy=>by have:=z y;unfold nR at this;rw[c]at this;exact this
theorem BE(ok:b4 P w H h)(n:H a=none)(o:bc P w (upd H a O) h a O):b4 P w (upd H a O) h:=λb u e=>by
 by_cases c:b=a
 ·subst c
  rw[ah]at e;cases e;exact o
 ·rw[ai c]at e
  exact(ok b u e).en (λ_ _ _ q=>q) (λx q=>by rw[ai (aB q n)];exact q) λx xs q=>by rw[ai (aB q n)];exact q
theorem Un.add{fs ex:am FG}(u:Un fs ex H Y h h')(c:Y a=none)(n:h.get? a=none):Un fs ex H (upd Y a O) h h':=
 ⟨u.keep,u.slot,λb o e q x=>by
  have:b≠a:=by rintro rfl;rw[n]at e;cases e
  rw[ai this];exact u.free b o e q x,u.there,λb xs e=>by
  have q:=u.gx b xs e;rw[ai (aB q c)];exact q,λb o v e=>by
  have q:=u.gM b o v e;rw[ai (aB q c)];exact q,λb ps e=>by
  obtain⟨m,q⟩:=u.hH b ps e;exact⟨m,by rw[ai (aB q c)];exact q⟩⟩
theorem Jy:upd (hG H a) a O=upd H a O:=by
 funext b;unfold upd
 by_cases c:b=a
 ·rw[aw c,aw c]
 ·rw[ak c,ak c,lz c]
end
theorem Hs{R:FG->FG->Option FG->Hp->Prop}(I:Inv X J σ H s)(o:X.calm=true)(p:PE X e te)
  (h:te σ H λv H1=>∃a C dx i,v=.ref a/\H1 a=ih (hI C dx a)/\(∀d,dx=ih d ->∃fs,H1 d=ih (gz d fs))/\fA X.K C/\f9 X.K C i=true/\R a C dx H1)
  (j:∀a C dx H1 s1,Inv X J σ H1 s1->H1 a=ih (hI C dx a)->R a C dx H1->X.xe (.ref a) s1) :
  wA X (exec (.Raise (ih e) none pos) X.env) (SP X J D) X.xe s:=by
 rw[arm_exec_Raise];refine ae (mC (show UB _ _ (raiseStmt X.env (ih (do let v <- eval e X.env;standAt pos;pure v)) none) _ _ _ from ?_));unfold raiseStmt;refine ae (ae (aI (p J s σ H _ I h) λu s1 aa=>?_));obtain⟨v,H1,b,r,a,C,dx,i,w,f,y,c,q,l⟩:=aa;refine ae (mC (aj ?_));subst w;obtain rfl:u=.ref a:=r;obtain⟨ox,od,t,inst,rfl⟩:=b.KA f y;have g:Looks X.ef s1.heap (isType (.ref a)) false:=λF G L s' k z=>by
  simp only[isType,loadHead];exact ae (wpAny_loadPart (k _ _ inst.at_) (aj z))
 have m:Looks X.ef s1.heap (isInstance (.ref a) (.type "BaseException")) true:=inst.type.andThen (looks_mroIn b.cm c.be);obtain⟨M,N,O,P,bs,B,Q,sub,S,E,T,U,V,W,Y,xa,ya,A,_⟩:=(r6 b.cm q).ex;have n:s1.TypeIs (.ref C) "type" :=⟨_,A,rfl⟩;refine ae (aj (ae (de ?_)));unfold excFromValue isExcClass;refine ae (ae (g.here (aj ?_)));refine ae (m.here (aj ?_));refine ae (g.here ?_);unfold raisedInstance;refine ae (ae (inst.type.here (ae (iz n ?_))));rw[aw (show(X6 "type" == X6 "type")=true from by decide)]
 refine aj ?_;unfold setFlight raiseNew;refine ae (ae (k4 inst.at_ rfl (x:=.none) rfl ?_));rw[ak (show ¬ ((Vw != Vw)=true) from by decide)]
 refine aj (ae (wpAny_handled_none (b.ok.hd o) ?_))
 first
  |exact vG (j a C dx H1 s1 b f l)
  |exact ae (aj (vG (j a C dx H1 s1 b f l)))
def cg(P:XZ)(w:X7):gD:=λouter H s E e s'=>∃(a:FG) (n:Option i') (C:FG) (a0:i') (dx:Option FG) (Y:Hp) (B:XY),e=.ref a/\s'.os=s.os/\YT s'.gens/\Yy B outer a (.ref C) a0 s'.heap /\
 (∃ox,s'.heap.get? a=ih ox/\ox.dict=dx/\(∀y,n=ih y->nR ox=ih y))/\(∀h',B.StaysIn h'->s'.heap.UpToSlots h'->Un (d2 outer) [] H Y s.heap h'/\b4 P w Y h')/\Y a=none/\s.heap.get? a=none/\E (.ref C) (ih a) (upd Y a (fG n C dx a))
theorem nu{α:Type}{M:Zu}{t:Zi α}{Q a:α->Gb->Prop}(k:KD t)(h:UB M A t Q E s)(q:∀v s',Q v s'->RD s.heap s'.heap->a v s'):UB M A t a E s:=
 gU (Mb k h) (λv s' z=>q v s' z.1 z.2) λ_ _ z=>z.1
section
variable{E:XK}
def KN(K:Yh)(H0:Hp)(E:XK)(te:TE):TS:=λ_ σ H=>te σ H λv H1=>∃a C dx i,v=.ref a/\H1 a=ih (hI C dx a)/\(∀d,dx=ih d ->∃fs,H1 d=ih (gz d fs))/\fA K C/\f9 K C i=true/\H0 a=none/\E (.ref C) (ih a) (upd H1 a (fG (ih .none) C dx a))
theorem oX(n:PE (ec (cg P w) P w K mg base N qual scope f cd A outer s H E) e te) :
  PS (ec (cg P w) P w K mg base N qual scope f cd A outer s H E) (.Raise (ih e) none pos) (KN K H E te):=by
 intro J s1 σ H1 D I h;refine Hs (R:=λa C dx H2=>H a=none/\E (.ref C) (ih a) (upd H2 a (fG (ih .none) C dx a))) I rfl n h λa C dx H2 s2 c i ⟨h0,p⟩=>?_;have r:s2.heap.FunFrames base (envOfC qual scope s.ax f cd::outer):=c.stack;have all:∀env∈(envOfC qual scope s.ax f cd::outer),∀b,env.frame=ih b->b∈a::d2 (envOfC qual scope s.ax f cd::outer):=λenv m b u=>a8 _ (mB.mpr ⟨env,m,u⟩);obtain⟨t,d⟩:=c.excAt i;have new:s.heap.get? a=none:=by
  have v:Un (d2 outer) [] H H2 s.heap s2.heap:=c.base;cases q:s.heap.get? a with
  |none=>rfl
  |some o =>
   have:=v.free a o q h0 (by simp)
   rw[i]at this;cases this
 show UB (UP P w) _ (leaving _ (.ref a)) _ _ _;refine nu wM (wpAny_leaving_firstW (Q:=λ_ s'=>∃h',s'={ s2 with heap:=h' }/\Heap.LeftW (hideAll s2.heap (a::d2 (envOfC qual scope s.ax f cd::outer))) (envOfC qual scope s.ax f cd::outer) a (.ref C) (.ref t) s2.heap h') (base:=hideAll s2.heap (a::d2 (envOfC qual scope s.ax f cd::outer))) (L:=s.ax) (a0:=.ref t) c.ok.frames (funFrames_hide r all) rfl d (λb o q=>of_hideAll _ q) (hideAll_none _ aT) rfl rfl rfl λh' j=>⟨h',rfl,j⟩) λ_ s' ⟨h',es,j⟩ k=>?_;subst es;obtain⟨x,⟨_,_,z⟩,B,F⟩:=j;have l:Yy (hideAll s2.heap (a::d2 (envOfC qual scope s.ax f cd::outer))) outer a (.ref C) (.ref t) h':=⟨x,hideAll_none _ aT,z,B⟩;obtain⟨ox,g,_⟩:=l.there;refine⟨a,ih .none,C,.ref t,dx,hG H2 a,hideAll s2.heap (a::d2 (envOfC qual scope s.ax f cd::outer)),rfl,c.os,c.bare,l,⟨ox,g,(k.dict d g).1,λy G=>by cases G;exact(k.dict d g).2⟩,λS M O=>?_,by unfold hG;rw[aw rfl],new,by rw[Jy];exact p⟩
 exact c.hidden rfl rfl rfl i h0 M (vH F O)
end
theorem aR.kR{st:VC}{k:Nat}(F:aR K x qual st f fd)(S:bg N ps (aH st))(b:∀vs H Q E,sp vs H Q E->vs.length=ps.length)
  (a:∀(Qc:i') (A:Yc) (outer:am Y5) (s:Gb) (H:Hp) (vs:am V) (Q:VK) (E:XK),aQ k (A.deeper (envOfC qual (aH st) s.ax f Qc))->sp vs H Q E ->
   ∃t,dr (ec (cg P w) P w K mg base N qual (aH st) f Qc A outer s H E) (bE st) t/\t { nx:=λ_ Y=>Q .aN Y,rt:=Q } (start N vs) H):aU P w K mg base (cg P w) (k+1) f fd ps sp:=by
 obtain⟨oc,od,kV,Qg,pm,an,Qc,ct,Qn,rfl,lk,c⟩:=F.ex;exact CP lk c S b λA outer s H vs Q E e d=>a Qc A outer s H vs Q E e d
section
variable{B:FG}
theorem G'{Q:Bool->Gb->Prop}{i:ap i'}{r:Bool}(X:K.In s.heap)(q:f9 K B i=true)(k:mroIn K C (.ref B)=ih r)(e:s.heap.get? a=ih ox)(l:ox.cls=.ref C)(h:Q r s) :
  UB (UP P w) A (excMatches (.ref a) (.ref B)) Q E s:=by
 obtain⟨b,N,p,t,bs,n,u,sub,v,o,x,y,z,D,F,G,H,c,_,_,T⟩:=(r6 X q).ex;have L:Looks (UP P w) s.heap (isSubtype (.ref C) (.ref B)) r:=looks_mroIn X k;obtain⟨I,g,d,tk,os⟩:=s;have m:b.contains (.type "BaseException")=true:=T.hasType (by decide)
 have j:(U3 B::b).contains (.type "BaseException")=true:=by rw[List.contains_cons,m,Bool.or_true]
 have f:=tc_notTuple;unfold excMatches
 repeat (first|(with_reducible refine wpAny_loadPart_at e ?_;rw[l])|with_reducible refine wpAny_loadPart_at c ?_|(with_reducible refine wpAny_isSubtype_exc c ?_;rw[j])|(with_reducible refine L.here ?_)|wp_step)
 cases r <;> (wp_walk;exact h)
end
def Cx.hj(X:Cx)(J:List (FG×Ys))(E:St->XK):Cx:={ X with pn:=X.pn++J,xe:=λe s'=>∃cN H s1,Inv X J cN H s1/\cg X.prog X.w X.stack H s1 (E cN) e s' }
section
variable{Qq:am (FG×Ys)}{E:St->XK}
theorem Inv.hj(I:Inv X J σ H s):Inv (X.hj J E) [] σ H s:=
 ⟨⟨I.ok.mod,I.ok.kind,I.ok.glob,I.ok.blt,I.ok.above,I.ok.inj,I.ok.has,I.ok.i6,I.ok.hd,I.ok.frames,I.ok.jG,I.ok.jH,I.ok.bs,I.ok.gS,I.ok.iY,I.ok.iZ,I.ok.fb,I.ok.hQ⟩,I.os,I.bare,I.base,I.loc,I.cell,I.free,I.eG,(λp a=>I.pin p (by rw[ei]at a;exact a)),I.aD,I.len⟩
theorem Inv.kr(ok:X.Ok)(I:Inv (X.hj J E) Qq σ H s):Inv X J σ H s:=
 ⟨ok,I.os,I.bare,I.base,I.loc,I.cell,I.free,I.eG,(λp a=>I.pin p (gm _ a)),I.aD,I.len⟩
theorem Cx.Ok.Nr(ok:(X.hj J E).Ok):X.Ok:=⟨ok.mod,ok.kind,ok.glob,ok.blt,ok.above,ok.inj,ok.has,ok.i6,ok.hd,ok.frames,ok.jG,ok.jH,ok.bs,ok.gS,ok.iY,ok.iZ,ok.fb,ok.hQ⟩
theorem SP.kr{f:Flow}(ok:X.Ok)(h:SP (X.hj J E) Qq D f s):SP X J D f s:=by
 cases f with
 |next=>obtain⟨a,Y,I,q⟩:=h;exact⟨a,Y,I.kr ok,q⟩
 |brk=>obtain⟨a,Y,I,q⟩:=h;exact⟨a,Y,I.kr ok,q⟩
 |cont=>obtain⟨a,Y,I,q⟩:=h;exact⟨a,Y,I.kr ok,q⟩
 |ret u=>obtain⟨v,a,Y,I,r,q⟩:=h;exact⟨v,a,Y,I.kr ok,r,q⟩
end
section
variable{Qp:am (FG×Ys)}{EE:St->XK}{k:Nat}{p:ZV}{t:TA}
def Ci(sp:Sp)(EE:St->XK)(t:TA):TE:=λσ H Q=>t σ H λvs H1=>sp vs H1 Q (EE σ)
theorem Jz(F:aU X.prog X.w X.K X.mg X.base (cg X.prog X.w) k f fd ps sp)(j:aQ k X.A)(l:Gl X x)(m:X.mg x=ih (.ref f))(n:Yb X.K (.ref f)=true)(o:Binds X.K fd ps [])
  (v:PA (X.hj Qp EE) (e::es) t) (d:(x==("__debug__" : F4))=false:=by decide) (y:U6 (e::es) X.env=(false,eval e X.env)::U6 es X.env:=by rfl) (g:(backTo pos (U6 es X.env)).any (·.1)=false:=by rfl) :
  PE (X.hj Qp EE) (.Call (.Name x p) (e::es) [] pos) (Ci sp EE t):=by
 intro J s σ H Q I h;refine mG (lF I l m ?_ d);refine callWith_K (h₀:=X.base) I.ok.mod.kL n (aI (v pos J s σ H _ I h) λus s1 ⟨vs,H1,a,r,q⟩=>⟨a.cm,?_⟩) y g;have z:us.length=ps.length:=by rw[<-r.length];exact F.len _ _ _ _ q
 have c:=o s1 us a.cm (by rw[ei];exact z)
 rw[ei]at c;refine mF (jW (F.run X.A X.stack s1 H1 ⟨us,[]⟩ us vs _ _ j a.uC c r q) λi s2 b=>?_);cases i with
 |ok B =>
  cases B with
  |ret u=>exact a.after b
  |next=>exact Vs b
  |brk=>exact Vs b
  |cont=>exact Vs b
 |error C=>exact⟨σ,H1,s1,a.kr a.ok.Nr,b⟩
end
theorem px{M:Zu}{Q:Unit->Gb->Prop}(I:Inv X J σ H s)(G:X.N.Nodup)(hi:X.N[i]?=ih x)(K:X.env.scope.names.lookup x=ih .local)
  (h:∀s',Inv X J (σ.set i none) H s'->Q () s'):UB M A (do bindName X.env x .none;unbindBehindTheSuite X.env x pos) Q E s:=by
 obtain⟨m,t,L⟩:=id I.loc;have C:(X.env.scope.kind == .class||(X.env.scope.kind == .module&&X.env.locals != X.env.globals))=false:=by rw[I.ok.kind];rfl
 have hR:=I.hR;refine wpAny_nameGoes_keeps K t C λh' v D hs=>?_;obtain⟨Y,_,_,W,_⟩:=id t;have B:b4 X.prog X.w H h':=λb O e=>by
  refine(I.aD b O e).en (λc u hc q=>(hs.2 c ?_).trans q) (λ_ q=>q) λ_ _ q=>q;rintro rfl;rcases hc with rfl|hc
  ·rw[I.free]at e;cases e
  ·rw[I.free]at hc;cases hc
 refine h _ ⟨I.ok,I.os,I.bare,⟨λb o e n l g=>?_,λb o e n l g=>?_,I.base.free,λb o e g=>?_,I.base.gx,I.base.gM,I.base.hH⟩,⟨_,D,λj y P a f R=>?_⟩,λy c e=>?_,I.free,I.eG,λp S=>?_,B,by simpa using I.len⟩
 ·exact(hs.2 b (bp (er (a6 e) I.ok.above))).trans (I.base.keep b o e n l g)
 ·obtain⟨sl,a⟩:=I.base.slot b o e n l g
  exact⟨sl,(hs.2 b (bp (er (a6 e) I.ok.above))).trans a⟩
 ·obtain⟨o',a⟩:=I.base.there b o e g
  exact⟨o',(hs.2 b (bp (er (a6 e) I.ok.above))).trans a⟩
 ·by_cases r:j=i
  ·subst r
   by_cases F:j<σ.length
   ·rw[FC F]at f;cases f
   ·rw[lb (by rw[aah];omega)]at f;cases f
  ·rw[FD (a7 r)]at f
   obtain⟨T,U,q⟩:=L j y P a f R;refine⟨T,U,?_⟩;rcases q with⟨k,e⟩|⟨k,c,e,z⟩
   ·refine .inl ⟨k,?_⟩
    have:y≠x:=λe=>r (sk G a (e ▸ hi));simp[this,e]
   ·exact .inr ⟨k,c,e,z.sameBut hs (hR y c e)⟩
 ·obtain⟨u,z⟩:=I.cell y c e
  exact⟨u,z.sameBut hs (hR y c e)⟩
 ·obtain⟨e,n,ne,V,d⟩:=I.pin p S
  exact⟨(hs.2 p.1 ne).trans e,n,ne,V,d⟩
def EJ(j:Nat)(D:Ends):Ends:={ nx:=λσ H=>D.nx (σ.set j none) H,rt:=D.rt,bk:=λσ H=>D.bk (σ.set j none) H,ct:=λσ H=>D.ct (σ.set j none) H }
def P0(K:Yh)(B:FG)(j:Nat)(th:FG->TS)(D:Ends):St->XK:=λcN cls oa H2=>(∃C,cls=.ref C/\mroIn K C (.ref B)=ih true) /\∃a,oa=ih a/\th a (EJ j D) (cN.set j (ih (.ref a))) H2
section
variable{n cn:F4}{p5 p6 p7:ZV}{b0 b1:VC}{Qu:am VC}{tb:Ends->TS}{th:FG->TS}{ci:ap i'}
def Mc(tb:Ends->TS):TS:=λD σ H=>tb D D σ H
theorem JA(yf:∀J D,dr (X.hj J (P0 X.K C j th D)) (b1::body) (tb D))
  (l:X.N.Nodup) (m:X.N[j]?=ih n) (g:X.env.scope.names.lookup n=ih .local) (h0:X.xe=λ_ _=>False) (xl:X.calm=true) (hs:X.stack=X.env::X.outer) (zf:X.env.frame=ih X.env.locals)
  (xg:Gl X cn) (yg:X.mg cn=ih (.ref C)) (zg:f9 X.K C ci=true) (xh:∀a,dr (X.kh a) (b0::Qu) (th a)) (xc:(cn==("__debug__" : F4))=false:=by decide) :
  PS X (.Try (b1::body) [.ExceptHandler (ih (.Name cn p5)) (ih n) (b0::Qu) p6] [] [] p7) (Mc tb):=by
 intro J s σ H D I h;refine wpAny_Try_except ?_;refine gU (yf J D [] s σ H D I.hj h) (λO s1 z=>?_) λyl s2 z=>?_
 ·have w:=SP.kr I.ok z
  cases O with
  |next=>exact oA w
  |brk=>exact w
  |cont=>exact w
  |ret u=>exact w
 ·obtain⟨yc,zl,s1,W,a,yh,o,x,dx,Y,B,rfl,os,zb,T,⟨ox,U,zh,xi⟩,zc,xa,new,⟨xm,eC,yi⟩,ym,zi,xd⟩:=z
  cases zi
  cases eC
  rw[hs]at T;refine nu BD (wpAny_looks_onW (Q:=λ_ s'=>∃h',s'={ s2 with heap:=h' }/\Heap.HeldW B (X.env::X.outer) a (.ref o) x X.env.locals h'/\s2.heap.UpToSlots h') (by rw[<-hs];exact W.ok.frames) zf T λP A F=>⟨P,rfl,A,F⟩) λ_ zm ⟨P,xj,A,F⟩ yd=>?_
  subst xj;refine nu rM (wpAny_landsW (Q:=λ_ s'=>∃h',s'={ s2 with heap:=h' }/\Yy B (X.env::X.outer) a (.ref o) x h'/\P.UpToSlots h') A λi k G=>⟨i,rfl,k,G⟩) λ_ xn ⟨i,yj,k,G⟩ zd=>?_;subst yj;have ya:s2.heap.UpToSlots i:=vH F G;have za:RD s2.heap i:=yd.trans zd;have V:∀c,Yy B (X.env::X.outer) a (.ref o) x c->s2.heap.UpToSlots c->RD s2.heap c->Inv X J yc (upd Y a (fG yh o dx a)) { s2 with heap:=c }:=λc R zj xb=>by
   obtain⟨u,ok⟩:=zc c R.1 zj;obtain⟨xk,p,_⟩:=R.there;exact W.uc (s':={ s2 with heap:=c }) os (u.add xa new) (BE ok xa (KL R ⟨xk,p,(xb.dict U p).1.trans zh,λy yk=>(xb.dict U p).2.trans (xi y yk)⟩)) zb (λb z=>absurd z (by simp))
  have yb:=V i k ya za;obtain⟨yn,ye,ze⟩:=k.there;refine wpAny_handleBy_cons (codeAny_handlers_test ?_) (by intro z;cases z)
  refine lF (yb.kh a) xg yg ?_ xc;refine G' (K:=X.K) yb.cm zg yi ye ze ?_;refine codeAny_handlers_suite_as ?_;refine nu rM (lands_againW (Q:=λ_ s'=>∃h',s'={ s2 with heap:=h' }/\Yy B (X.env::X.outer) a (.ref o) x h'/\i.UpToSlots h') k λc E L=>⟨c,rfl,E,L⟩) λ_ zn ⟨c,p,E,L⟩ xf=>?_;subst p;have t:=V c E (vH ya L) (za.trans xf);refine sq (X:=X.kh a) (v:=.ref a) (t.kh a) l m (.inl g) rfl (λxo zk=>?_) (.inr g);refine FR (aI (xh a J _ _ _ (EJ j D) zk xd) λO yo z=>?_);cases O with
  |next=>obtain⟨M,d,e,q⟩:=z;exact px (e.uncaught (J8:=X) t.ok) l m g λS f=>⟨_,d,f,q⟩
  |brk=>obtain⟨M,d,e,q⟩:=z;exact px (e.uncaught (J8:=X) t.ok) l m g λS f=>⟨_,d,f,q⟩
  |cont=>obtain⟨M,d,e,q⟩:=z;exact px (e.uncaught (J8:=X) t.ok) l m g λS f=>⟨_,d,f,q⟩
  |ret u=>obtain⟨v,M,d,e,r,q⟩:=z;exact px (e.uncaught (J8:=X) t.ok) l m g λS f=>⟨v,_,d,f,r,q⟩
end
section
variable{E:XK}
theorem Nt:Passes (cg P w) (ec (cg P w) P w K mg base N qual scope f cd A outer s H E) E:=by
 rintro J σ H1 s1 e s2 I ⟨a,n,C,k,dx,Y,B,rfl,os,h,r,⟨ox,i,x,D⟩,t,F,new,G⟩;show UB (UP P w) _ (leaving _ (.ref a)) _ _ _;have v:s1.os=s.os:=I.os;refine nu wM (wpAny_leaves_onW (Q:=λ_ s'=>∃h',s'={ s2 with heap:=h' }/\Yy B outer a (.ref C) k h'/\s2.heap.UpToSlots h') I.ok.frames rfl r λh' c g=>⟨h',rfl,c,g⟩) λ_ s' ⟨h',es,c,g⟩ l=>?_;subst es;obtain⟨o',d,_⟩:=c.there;refine⟨a,n,C,k,dx,Y,B,rfl,os.trans v,h,c,⟨o',d,(l.dict i d).1.trans x,λy L=>(l.dict i d).2.trans (D y L)⟩,λj M O=>?_,F,?_,G⟩
 ·obtain⟨u,ok⟩:=t j M (vH g O)
  have m:=I.uc (s':={ s2 with heap:=j }) os u ok h (λb z=>absurd z (by simp))
  exact⟨m.base,m.aD⟩
 ·cases q:s.heap.get? a with
  |none=>rfl
  |some o =>
   obtain⟨R,p⟩:=I.base.there a o q (by show a ∉ ([]:am FG);simp)
   rw[new]at p;cases p
end
end L2
namespace L2
open W
section
variable{f0:FG}{E:XK}{k:Nat}{p:ZV}{t:TA}
theorem lI(C:aY P w K mg base (cg P w) k f fd ps sp x)(d:aQ k (ec (cg P w) P w K mg base N qual scope f0 cd A outer s H E).A)(g:PA (ec (cg P w) P w K mg base N qual scope f0 cd A outer s H E) (e::es) t)(h:Gl (ec (cg P w) P w K mg base N qual scope f0 cd A outer s H E) x:=by rfl)(a:(x==("__debug__" : F4))=false:=by decide)(i:U6 (e::es) (ec (cg P w) P w K mg base N qual scope f0 cd A outer s H E).env=(false,eval e (ec (cg P w) P w K mg base N qual scope f0 cd A outer s H E).env)::U6 es (ec (cg P w) P w K mg base N qual scope f0 cd A outer s H E).env:=by rfl)(c:(backTo pos (U6 es (ec (cg P w) P w K mg base N qual scope f0 cd A outer s H E).env)).any (·.1)=false:=by rfl):PE (ec (cg P w) P w K mg base N qual scope f0 cd A outer s H E) (.Call (.Name x p) (e::es) [] pos) (pZ sp [] E t):=dA C.G d h C.m C.k C.b .nil Nt g a i c
end
section
variable{Qp:am (FG×Ys)}{EE:St->XK}{k:Nat}{p:ZV}{t:TA}
theorem sY(C:aY X.prog X.w X.K X.mg X.base (cg X.prog X.w) k f fd ps sp x)(d:aQ k X.A)(g:PA (X.hj Qp EE) (e::es) t)(h:Gl X x:=by rfl)(a:(x==("__debug__" : F4))=false:=by decide)(i:U6 (e::es) X.env=(false,eval e X.env)::U6 es X.env:=by rfl)(c:(backTo pos (U6 es X.env)).any (·.1)=false:=by rfl):PE (X.hj Qp EE) (.Call (.Name x p) (e::es) [] pos) (Ci sp EE t):=Jz C.G d h C.m C.k C.b g a i c
end
end L2
namespace L2
open Spec PyProof.Rows W HT
theorem pz{t u:TS}(h:∀a:TS,a=u->let b:=σ;let E:Ends:={ D with nx:=a D };t E b H):qv t u D σ H:=h u rfl
theorem c2{a t u:TS}{b:VK}{bk ct:St->Hp->Prop}(c:a=qv t u)(h:∀a:TS,a=u->let d:=σ;let E:Ends:={ D with nx:=a D };t E d H):(Ends.mk (a D) b bk ct).nx σ H:=by subst c;exact h u rfl
theorem qz{a t:TS}{b:VK}{bk ct:St->Hp->Prop}(c:a=t)(h:let d:=σ;t D d H):(Ends.mk (a D) b bk ct).nx σ H:=by subst c;exact h
theorem sy{g:TG}{x:V}{tb:TS}(h:let b:=σ;let E:=D;g x b H λa H2=>tb E a H2):g x σ H λa H2=>tb D a H2:=h
def Nu(t:TA):TE:=λσ H Q=>t σ H λxs H1=>xs.length<=UJ /\∀p Y,ao H1 Y->H1 p=none->Y p=ih (.tup xs)->Q (.ref p) Y
def Nv(t:TA):TE:=λσ H Q=>t σ H λxs H1=>xs.length<=UJ /\∀p Y,ao H1 Y->H1 p=none->Y p=ih (.lst xs)->Q (.ref p) Y
theorem o7{o:HO}(a:H p=none):ao H (upd H p o):=λb u e=>by rw[ai (aB e a)];exact e
section
variable{t:TA}{k:Nat}
theorem nS(h:PA X es t):PE X (.Tuple es k pos) (Nu t):=by
 intro J s σ H Q I d;refine wpAny_Tuple_spliced (aI (h pos J s σ H _ I d) λus s1 ⟨xs,H1,a,r,z,q⟩=>⟨by rw[<-r.length];exact z,?_⟩)
 have c:H1 s1.ax=none:=a.aD.fresh (aG _);refine⟨.ref s1.ax,upd H1 s1.ax (.tup xs),a.laid (t':=s1.toks) (λb u e=>aV _ e) (aG _) ?_,rfl,q _ _ (o7 c) c ah⟩;exact⟨z,us,r,⟨_,bG _ rfl,rfl,_,rfl,rfl⟩⟩
theorem ie(h:PA X es t):PE X (.List es pos) (Nv t):=by
 intro J s σ H Q I d;refine wpAny_List_spliced (aI (h pos J s σ H _ I d) λus s1 ⟨xs,H1,a,r,z,q⟩=>⟨by rw[<-r.length];exact z,?_⟩)
 have c:H1 s1.ax=none:=a.aD.fresh (aG _);refine⟨.ref s1.ax,upd H1 s1.ax (.lst xs),a.laid (t':=s1.toks) (λb u e=>aV _ e) (aG _) ?_,rfl,q _ _ (o7 c) c ah⟩;exact⟨z,us,0,r,bG _ rfl⟩
end
theorem aR.cz{st:VC}{k:Nat}(F:aR K x qual st f fd)(S:bg N ps (aH st))
  (a:∀(Qc:i') (A:Yc) (outer:am Y5) (s:Gb) (H:Hp) (vs:am V) (Q:VK) (E:XK),aQ k (A.deeper (envOfC qual (aH st) s.ax f Qc))->sp vs H Q E ->
   let X:=(ec aC P w K mg base N qual (aH st) f Qc A outer s H E).og
   ∃t,dr X (bE st) t/\t { nx:=λ_ Y=>Q .aN Y,rt:=Q } (start N vs) H)
  (b:∀vs H Q E,sp vs H Q E->vs.length=ps.length:=by intro _ _ _ _ h;obtain⟨rfl,_⟩:=h;rfl):aU P w K mg base aC (k+1) f fd ps sp:=F.ok S b a
theorem AX{h0:abP}{hs:am abP}{t:TS}(h:dr X body t)(a:X.xe=λ_ _=>False):PS X (.Try body (h0::hs) [] [] pos) t:=by
 intro J s σ H D I b;have c:∀{α:Type}{tt:Zi α}{Q:α->Gb->Prop}{E:i'->Gb->Prop}{s':Gb},wA X tt Q X.xe s'->wA X tt Q E s':=λz=>by rw[a]at z;exact FR z
 refine wpAny_Try_except (aI (c (h J s σ H D I b)) λf s1 z=>?_);cases f with
 |next=>exact oA z
 |brk=>exact z
 |cont=>exact z
 |ret u=>exact z
theorem Ag(n:X.calm=true):bY X (.builtin "any") (λxs H Q=>∃(p:FG) (bs:am Bool),xs=[.ref p]/\aq X.K H p (bs.map V.bl)/\Q (.bl (bs.any id)) H):=by
 rintro J s σ H xs us Q I r ⟨p,bs,rfl,f,q⟩;obtain⟨u,rfl,t⟩:=vals1 r;cases t
 obtain⟨its,a,pl,w⟩:=I.list f;have j:=a.length;have d:its=bs.map YM:=by
  clear q f pl w r j
  induction bs generalizing its with
  |nil=>cases a;rfl
  |cons b bs x =>
   cases a with
   |cons y z=>cases y;rw[x _ z];rfl
 have new:∀b o,s.heap.get? b=ih o->b≠s.ax:=λb o e=>bp (a6 e);obtain⟨ol,k,_⟩:=id pl.isList;refine call_any_walk (rf pl.isList ?_);refine⟨s.ax,_,_,_,_,_,λi=>bs.getD i false,rfl,ZN (A:=X.A.in1) (I.ok.hd n) s.ax p (new p ol k) its.toArray,⟨⟨_,bG _ rfl,rfl,rfl⟩,pl.isList.at λo e=>aV _ e⟩,λi v s2 C D g l=>?_,λh' tk B=>?_⟩
 ·rw[d]at g
  have:bs[i]?.map YM=ih v:=by simpa using g
  obtain⟨b,c,rfl⟩:=fe.mp this;refine hY ?_;have e:bs.getD i false=b:=by rw[cE,c];rfl
  exact e ▸ l
 ·have m:(UU its.toArray.size).any (λi=>bs.getD i false)=bs.any id:=by
   have hs:its.toArray.size=bs.length:=by rw[d];simp
   rw[hs]
   apply mE.mpr
   simp only[oF,eO]
   constructor
   ·rintro⟨i,hi,e⟩
    exact⟨bs[i],dz hi,by simpa [YD,hi] using e⟩
   ·rintro⟨b,c,e⟩
    obtain⟨i,hi,rfl⟩:=rq c;exact⟨i,hi,by simpa [YD,hi] using e⟩
  rw[m];exact⟨.bl _,H,I.kept (t':=tk) λb o e=>B b o (by simpa using new b o e) (aV _ e),rfl,q⟩
def uZ(x:F4):It:=⟨λi _=>i<x.cps.size,λi H v Y=>Y=H /\∃c,x.cps[i]?=ih c/\v=.str ⟨#[c]⟩,λi _=>x.cps.size<=i⟩
theorem AY(it:FG)(x:F4)(t:Tok)(T:String)(M : ["enumerate","zip","dict_itemiterator","dict_reverseitemiterator","odict_iterator","itertools.zip_longest","itertools.pairwise"].contains T=false)
  (W:∀G:Yc,G.handled=none->Walks P w G it [it] [it] x.cps.size (SignAt x) (λi h=>h.IsStrIter it T x t i))
  (hs:∀(A:Yc) (i:Nat) (s:Gb) (Q:i'->Gb->Prop) (E:i'->Gb->Prop),s.heap.IsStrIter it T x t i->Q (.ref it) s->UB (UP P w) A (pyIter (.ref it)) Q E s):Turn P w K tg (uZ x) [it] it (λi h=>i<=x.cps.size/\h.IsStrIter it T x t i) where
 mem:=by simp
 obj:=λi h st b a=>by
  obtain rfl:b=it:=by simpa using a
  obtain⟨_,o,e,c,d⟩:=st;exact⟨o,e,λv z=>by rw[d]at z;cases z⟩
 keep:=λi h h' st k=>by
  obtain⟨l,o,e,r⟩:=st;exact⟨l,o,k it (by simp) _ e,r⟩
 item:=by
  intro X j m n p i J s σ H E I f st g;subst j m n;obtain⟨f0,q,N,y,B,C⟩:=f it (by simp)
  refine(W X.A (I.ok.hd p)).item i s _ _ g st.2 λv h' tk O F D=>?_;obtain⟨c,u,L,rfl⟩:=O;have R:Inv X J σ H { s with heap:=h',toks:=tk }:=I.turned (λb o a e=>D b o (by simpa using a) e) f0 q y B C
  obtain⟨o,e,S,d⟩:=id F;exact⟨_,rfl,nM (s:={ s with heap:=h',toks:=tk }) e S d M ⟨.str ⟨#[c]⟩,H,R,⟨u,rfl⟩,⟨rfl,c,L,rfl⟩,⟨g,F⟩,λb a=>(f b a).1⟩⟩
 done:=by
  intro X j m n p i J s σ H E I f st g;subst j m n;obtain⟨f0,q,N,y,B,C⟩:=f it (by simp)
  have U:i=x.cps.size:=FZ st.1 g;subst U;exact(W X.A (I.ok.hd p)).done s _ _ st.2 λh' tk D=>⟨rfl,I.turned (λb o a e=>D b o (by simpa using a) e) f0 q y B C⟩
 self:=λA i s Q E st h=>hs A i s Q E st.2 h
def OY(te:TE):TI:=λσ H R=>te σ H λv H1=>∃x,v=.str x/\R (uZ x) H1
theorem Cj(f:PE X e te):PI X tg e (OY te):=by
 intro J s σ H R I h;refine aI (f J s σ H _ I h) λv s1 m=>?_;obtain⟨y,H1,a,g,x,i,q⟩:=m;subst i;obtain⟨t,rfl⟩:=g;have c:∀o:Ys,Inv X J σ H1 { s1 with heap:=s1.heap.push o }:=λo=>a.kept (t':=s1.toks) λb l z=>aV _ z;have fp:∀b ∈ [s1.ax],gy X J H1 b:=λb j=>by
  obtain rfl:b=s1.ax:=by simpa using j
  exact a.il (aG _) (a.aD.fresh (aG _))
 cases d:x.cps.all (· < 128)
 ·refine wpAny_pyIter_wide d ?_
  exact⟨s1.ax,[s1.ax],_,_,H1,rfl,c _,AY s1.ax x t "str_iterator" (by decide) (λk hA=>Walks.strWide hA _ x t) (λ_ _ _ _ _ st h=>wpAny_pyIter_striter_wide st h),⟨ba _,_,bG _ rfl,rfl,rfl⟩,fp,q⟩
 ·refine wpAny_pyIter_ascii d ?_
  exact⟨s1.ax,[s1.ax],_,_,H1,rfl,c _,AY s1.ax x t "str_ascii_iterator" (by decide) (λk hA=>Walks.strAscii hA _ x t) (λ_ _ _ _ _ st h=>wpAny_pyIter_striter_ascii st h),⟨ba _,_,bG _ rfl,rfl,rfl⟩,fp,q⟩
theorem AZ{g:TG}(Pv:Nat->List V->St->Hp->Prop)(h0:Pv 0 [] gj (upd H1 p (.lst [])))(l:∀i ys a H,Pv i ys a H->H p=bn ys)
  (hs:∀i c ys a H,x.cps[i]?=ih c->Pv i ys a H->g (.str ⟨#[c]⟩) a H λf n=>ti f n λb h=>if b=true then te f h λy j=>j p=bn ys/\ys.length<UJ /\∃d,d<x.cps.size - i/\CW Pv x.cps.size (i+1) d (ys++[y]) f (upd j p (.lst (ys++[y]))) else ∃d,d<x.cps.size - i/\CW Pv x.cps.size (i+1) d ys f h)
  (o:∀ys a H,Pv x.cps.size ys a H->Q (.ref p) H):hF (uZ x) g ti te gj Q p H1:=by
 refine⟨CW Pv x.cps.size,⟨x.cps.size,by simp,ba _,h0⟩,?_⟩
 rintro i m ys a H ⟨rfl,hi,pv⟩;refine⟨l i ys a H pv,?_⟩
 by_cases k:i<x.cps.size
 ·refine .inr ⟨k,λv t q=>?_⟩
  obtain⟨r,c,s,rfl⟩:=q;subst r;exact hs i c ys a _ s pv
 ·have e:i=x.cps.size:=by omega
  subst e;exact .inl ⟨aG _,o ys a H pv⟩
end L2
namespace HT
open PyProof.Rows W L2
theorem GJ(a:FG)(vs:Array i')(n:Nat)(u:Tok)(sl:Array (Option i')) :
  Meets (Ye.«object.__getattribute__» ⟨[.ref a,.str "keys" u],[]⟩) (λA R s=>s.heap.get? a=ih { cls:=.type "tuple",dict:=none,data:=.seq vs n,slots:=sl }/\raisesAttr (.ref a) "keys" A R s):=
 meets_getattribute_miss_tuple a vs n sl "keys" u (by rw[F0,F1];kernel_rfl) (by decide +kernel) (by rw[aJ];decide +kernel)
theorem JB{vs:Array i'}{sl:Array (Option i')}{Q:ap i'->Gb->Prop}(i:s.heap.get? a=ih { cls:=.type "tuple",dict:=none,data:=.seq vs n,slots:=sl })(hA:A.handled=none)
  (h:∀h' tk,(∀b o,s.heap.get? b=ih o->h'.get? b=ih o)->Q none { s with heap:=h',toks:=tk }):UB (UP prog w) A (getAttr? (.ref a) "keys") Q E s:=by
 obtain⟨k,g,d,tk,os⟩:=s;have j:∀c,(⟨k,g,d,c,os⟩:Gb).TypeIs (.ref a) "tuple" :=λ_=>⟨_,i,rfl⟩;have l:=sub_AttributeError;have m:=F2.lookup;have p:=F2.bind (.ref a);have q:=am_tuple_getattr_none;unfold getAttr? getAttrBy? getAttrBy
 repeat (any_goals (first|assumption|exact j _|((with_reducible show UB _ _ (call (YF "tuple.__getattribute__") _ _) _ _ _);refine call_meets F2 (j _) am_entry_tuple_getattribute (F.args_tuple_getattribute_2 _ _) (GJ a vs n _ sl) ⟨i,hA,λh' c e f=>?_⟩)|wp_step))
 obtain⟨t',r,t⟩:=f.there;show UB _ _ (getattributeRaised _ _ _ _ _ _ _) _ _ _;unfold getattributeRaised
 repeat (any_goals (first|assumption|wp_step))
 exact h h' c f.keeps
section
variable{t:FG}{vs:Array i'}
theorem JC{Q:Unit->Gb->Prop}{T:FG}{x y:i'}{k:Key}{kvs:am (Key×i')}{i:Int}(a:Yg s.heap T #[x,y])(g:(b5 prog w).is k x=true)(h:s.heap.DictOf (b5 prog w) d kvs)(new:k ∉ kvs.map (·.1))(hz:kvs.length<=UJ)
  (q:∀h' tk,h'.DictOf (b5 prog w) d (kvs++[(k,y)])->X4 d s.heap h'->Q () { s with heap:=h',toks:=tk }) :
  UB (UP prog w) A (holding [U3 T] (do
   let c <- (Zc (.ref T)).tryCatch λe=>do
    if !(<- isInstance e (.type "TypeError")) then throw e
    rule "dict.update.element-no-sequence"
    raiseError "TypeError" s!"cannot convert dictionary update sequence element #{i} to a sequence"
   match c with
   |[k,v]=>holding [k,v] (dictSet d k v)
   |l =>
    rule "dict.update.element-length"
    raiseError "ValueError" s!"dictionary update sequence element #{i} has length {l.length}; 2 is required")) Q E s:=by
 refine de (ae (wpAny_tryCatch ?_));unfold Zc;refine ae (iz a.typeIs ?_);rw[aw (by decide)]
 obtain⟨o,j,_,n,f⟩:=a;refine ae (F3 j f (aj ?_));show UB _ _ (holding [x,y] (dictSet d x y)) _ _ _;refine de (wpAny_dictSet_pairs (hsz:=hz) g h λh' b m=>?_);rw[stored_new new]at b;exact q h' _ b m
theorem KO(U:A.in1.handled=none)(n:d≠it)(B:d≠t)(C:t≠it)(ps:am (Key×i'))(F:(ps.map (·.1)).Nodup)(hz:ps.length<=UJ)(hsz:vs.size=ps.length)(G:Yg g t vs)
  (N:∀(i:Nat) p,ps[i]?=ih p ->∃a x,vs[i]?=ih (.ref a)/\a≠it/\a≠d/\Yg g a #[x,p.2]/\(b5 prog w).is p.1 x=true) :
  ∀(m k:Nat) (s:Gb),ps.length - k=m->k<=ps.length->IsTupIter s.heap it t k->s.heap.DictOf (b5 prog w) d (ps.take k) ->
   (∀b o,b≠it->b≠d->g.get? b=ih o->s.heap.get? b=ih o) ->
   (∀h' tk,h'.DictOf (b5 prog w) d ps->(∀b o,b≠it->b≠d->g.get? b=ih o->h'.get? b=ih o)->R (.ok (.ret .none)) { s with heap:=h',toks:=tk }) ->
   codeAny (UP prog w) A (.builtin "dict.update.loop" ⟨[.ref d,.ref it,rawInt k,.none],[]⟩) R s:=by
 have u:∀{b:FG}{us:Array i'}{h:XY},b≠it->b≠d->(∀b o,b≠it->b≠d->g.get? b=ih o->h.get? b=ih o)->Yg g b us->Yg h b us:=λn1 V c ⟨o,W,r⟩=>⟨o,c _ _ n1 V W,r⟩;intro m
 induction m with
 |zero =>
  intro k s X Y v y c z;have xa:k=ps.length:=by omega
  refine ft Ae (?_:UB _ _ _ _ _ _);rw[gp oW _];show UB _ A.in1 (pyNext (.ref it) >>= _) _ _ s;refine ae (next_tuple_end U v (u C B.symm c G) (by simp;omega) λh' H=>?_)
  refine ae (m:=abH d []) (aj (aj ?_));have l:h'.DictOf (b5 prog w) d (ps.take k):=y.at λo e=>H d o n e;rw[xa,cF]at l;exact z h' s.toks l λb o f j e=>H b o f (c b o f j e)
 |succ m ya =>
  intro k s X Y v y c z;have q:k<ps.length:=by omega
  have I:ps[k]?=ih ps[k]:=bA q;obtain⟨a,x,O,P,Q,K,L⟩:=N k _ I;have S:ps.take (k+1)=ps.take k++[ps[k]]:=by rw[cO,I];rfl
  have new:ps[k].1 ∉ (ps.take k).map (·.1):=λw=>by
   have e:ps.map (·.1)=(ps.take k).map (·.1)++(ps.drop k).map (·.1):=by rw[<-a5,UZ]
   rw[e,gG]at F;refine F.2.2 _ w _ ?_ rfl;rw[vD q];exact aT
  refine ft Ae (?_:UB _ _ _ _ _ _);rw[gp oW _];show UB _ A.in1 (pyNext (.ref it) >>= _) _ _ s;refine ae (next_tuple_item v (u C B.symm c G) O λh' T J=>?_);have D:∀b o,b≠it->b≠d->g.get? b=ih o->h'.get? b=ih o:=λb o f j e=>J.extBut b o f (c b o f j e);have l:h'.DictOf (b5 prog w) d (ps.take k):=y.at λo e=>J.extBut d o n e;refine ae (JC (s:={ s with heap:=h' }) (k:=ps[k].1) (u P Q D K) L l new (by rw[b8];omega) λza tk M E=>?_)
  rw[show((k:Int)+1)=((k+1:Nat):Int) from rfl];exact aj ⟨gF oW _,ya (k+1) _ (by omega) q (T.extBut E.extBut n.symm) (by rw[S];exact M) (λb o f j e=>E.extBut b o j (D b o f j e)) z⟩
theorem GS{Q:i'->Gb->Prop}(y:A.handled=none)(ps:am (Key×i'))(G:(ps.map (·.1)).Nodup)(hz:ps.length<=UJ)(hsz:vs.size=ps.length){sl:Array (Option i')}
  (h:s.heap.get? t=ih { cls:=.type "tuple",dict:=none,data:=.seq vs n,slots:=sl })
  (z:∀(i:Nat) p,ps[i]?=ih p ->∃a x,vs[i]?=ih (.ref a)/\Yg s.heap a #[x,p.2]/\(b5 prog w).is p.1 x=true)
  (q:∀d h' tk,s.ax<=d->h'.DictOf (b5 prog w) d ps->(∀b o,s.heap.get? b=ih o->h'.get? b=ih o)->Q (.ref d) { s with heap:=h',toks:=tk }) :
  UB (UP prog w) A (call (.type "dict") [.ref t]) Q E s:=by
 refine callType_codes (Q₁:=λu r=>u=.ref s.ax/\r={ s with heap:=s.heap.push { cls:=.type "dict",data:=.dict #[] } }) F.kt_called_dict (F.kt_typeCall_dict_1 _) F.entry_dict_init (kt_code_dict_new _ ⟨rfl,rfl⟩) ?_;rintro u r ⟨rfl,rfl⟩;have dn:(s.heap.push { cls:=.type "dict",data:=.dict #[] }).DictOf (b5 prog w) s.ax []:=ZG s.heap;have l:∀b o,s.heap.get? b=ih o->(s.heap.push { cls:=.type "dict",data:=.dict #[] }).get? b=ih o:=λb o e=>aV _ e;generalize s.heap.push { cls:=.type "dict",data:=.dict #[] }=h2 at dn l⊢;refine⟨dn.typeIs,F.args_dict_init_2 _ _,?_⟩;unfold Ye.«dict.__init__»;refine ae ?_;unfold abF;refine ae (wpAny_notOrdered_dict dn.typeIs ?_);refine(aj ?_:UB _ _ (pure (s.ax,[U3 t])) _ _ _);show UB _ _ (Za "dict.__init__" s.ax (.ref t) [] .none) _ _ _;unfold Za;have m:=l _ _ h;refine ae (iz (T:= "tuple") ⟨_,m,rfl⟩ ?_);rw[aw (by decide)]
 refine ae (JB m y λc L j=>?_);rw[aw (by decide)]
 have B:Yg c t vs:=⟨_,j _ _ m,rfl,n,rfl⟩;refine ae (je (ae (iter_tuple B ?_)));refine aj ⟨gF oW _,?_⟩;have H:∀b o,s.heap.get? b=ih o->c.get? b=ih o:=λb o e=>j b o (l b o e);have f:s.ax<c.objs.size:=by
  obtain⟨o,_,_,k,_⟩:=dn;exact a6 (j _ _ k)
 have C:c.DictOf (b5 prog w) s.ax []:=dn.at λo e=>j _ o e;have lt:∀{b:FG}{o:Ys},s.heap.get? b=ih o->b<s.ax:=λe=>a6 e;refine KO (A:=A.in1) (g:=s.heap) (it:=c.objs.size) y (bp f) (hZ (lt h)) (bp (k9 (lt h) f)) ps G hz hsz ⟨_,h,rfl,n,rfl⟩ (λi p I=>?_) _ 0 _ rfl (ba _) ⟨_,bG _ rfl,rfl,rfl⟩ (C.at λo e=>aV _ e) (λb o _ _ e=>aV _ (H b o e)) λh' tk J K=>?_
 ·obtain⟨a,x,U,v,D⟩:=z i p I
  obtain⟨o,k,_⟩:=id v;exact⟨a,x,U,bp (k9 (lt k) f),bp (lt k),v,D⟩
 ·exact⟨rfl,q _ h' tk (aG _) J λb o e=>K b o (bp (k9 (lt e) f)) (bp (lt e)) e⟩
end
end HT
namespace L2
open Spec PyProof.Rows W HT
theorem Ah:bW X (XR .LtE) (λx y H Q=>∃i j,x=.str i/\y=.str j/\Q (.bl (!decide (j.cps.toList<i.cps.toList))) H):=by
 rintro J s σ H x y v u Q I a b ⟨i,j,ex,c,q⟩;subst ex c;obtain⟨t,rfl⟩:=a;obtain⟨t',rfl⟩:=b;exact P.le_str (ck I q rfl)
def hC(H:Hp)(vs:List V)(kvs:List (F4×V)):Prop:=XU (λy p=>∃a,y=V.ref a/\H a=ih (.tup [.str p.1,p.2])) vs kvs
theorem hC.same{kvs:am (F4×V)}(h:hC H vs kvs)(s:ao H Y):hC Y vs kvs:=Paired.imp' (λ_ _ b=>by obtain⟨a,e,q⟩:=b;exact ⟨a,e,s _ _ q⟩) h
def fj(kvs:List (F4×V)):List (Key×V):=kvs.map λp=>(Uz p.1,p.2)
theorem BF:∀(kvs:am (F4×V)) (ys:am i'),ys.length=kvs.length->(∀(i:Nat) (hi:i<kvs.length),∃y,ys[i]?=ih y/\RelV kvs[i].2 y)->KV (fj kvs) ((kvs.map λp=>(Uz p.1:Key)).zip ys)
 |[],ys,h,_=>.nil
 |p::kvs,[],h,_=>by simp at h
 |p::kvs,y::ys,h,f=>by
  obtain⟨a,e,r⟩:=f 0 (by simp)
  obtain rfl:y=a:=by simpa using e
  exact .cons ⟨rfl,r⟩ (BF kvs ys (by simpa using h) λi hi=>by
   obtain⟨b,c,d⟩:=f (i+1) (Nat.succ_lt_succ hi);exact⟨b,by simpa using c,d⟩)
theorem GK:bY X (.type "tuple") (λxs H Q=>∃p ys,xs=[.ref p]/\aq X.K H p ys /\∀l o,H l=none->o.dict=none->Q (.ref l) (upd H l (.aX o (.tup ys)))):=by
 rintro J s σ H xs us Q I r ⟨p,ys,ex,d,q⟩;subst ex;obtain⟨u,rfl,f⟩:=vals1 r;cases f
 obtain⟨its,a,pl,g⟩:=I.list d;have i:=a.length;refine call_tuple_list pl.isList (λh' h=>?_) (by simp only[bM] <;> omega)
 have c:Inv X J σ H { s with heap:=h' }:=I.kept (t':=s.toks) h;refine⟨.ref h'.objs.size,_,c.laid (o:=.aX { cls:=.type "tuple",data:=.seq its.toArray } (.tup ys)) (t':=s.toks) (λb o e=>aV _ e) (aG _) ⟨bG _ rfl,g,its,a,iW.new _ _⟩,rfl,q _ _ (c.aD.fresh (aG _)) rfl⟩
theorem Ia(L:X.calm=true):bY X (.type "dict") (λxs H Q=>∃t o vs kvs,xs=[.ref t]/\H t=ih (.aX o (.tup vs))/\o.dict=none/\hC H vs kvs/\(kvs.map (·.1)).Nodup /\∀d,H d=none->Q (.ref d) (upd H d (.dK (fj kvs)))):=by
 rintro J s σ H xs us Q I r ⟨t,o,vs,kvs,rfl,M,C,pr,N,q⟩;obtain⟨u,rfl,c⟩:=vals1 r;cases c
 obtain⟨v,yd,its,A,o',g,D,n,E,_⟩:=(show bc X.prog X.w H s.heap t (.aX o (.tup vs)) from I.aD t _ M);rw[v]at g;cases g
 obtain⟨O,e,dt,sl⟩:=o;obtain rfl:O=.type "tuple" :=D;obtain rfl:e=none:=C;obtain rfl:dt=.seq its.toArray n:=E;have F:vs.length=kvs.length:=cC pr;have xd:=A.length;have pairs:∀(i:Nat) p,kvs[i]?=ih p ->∃a x y,its.toArray[i]?=ih (.ref a)/\Yg s.heap a #[x,y]/\RelV (.str p.1) x/\RelV p.2 y:=by
  intro i p b;have hi:i<vs.length:=by rw[F];exact(bQ.mp b).1
  obtain⟨zd,j,a,P,R⟩:=g9 pr (show vs[i]?=ih vs[i] from bA hi);rw[b]at j;cases j;obtain⟨u,S,c⟩:=A.get (show vs[i]?=ih (V.ref a) by rw[bA hi,P])
  cases c
  obtain⟨xe,T,W,_⟩:=I.tuple (aE.of R);obtain⟨x,y,rfl,Y,xa⟩:=T.two;exact⟨a,x,y,by simpa using S,W,Y,xa⟩
 have ch:∀i:Fin kvs.length,∃y,∃a x,its.toArray[i.1]?=ih (.ref a)/\Yg s.heap a #[x,y]/\RelV (.str kvs[i].1) x/\RelV kvs[i].2 y:=λi=>by
  obtain⟨a,x,y,U,h2,ya,za⟩:=pairs i.1 kvs[i] (bA i.2);exact⟨y,a,x,U,h2,ya,za⟩
 obtain⟨ys,G,l⟩:∃ys:am i',ys.length=kvs.length /\∀(i:Nat) (hi:i<kvs.length),∃y,ys[i]?=ih y /\∃a x,its.toArray[i]?=ih (.ref a)/\Yg s.heap a #[x,y]/\RelV (.str kvs[i].1) x/\RelV kvs[i].2 y:=
  ⟨List.ofFn λi=>ZI (ch i),List.length_ofFn,λi hi=>⟨ZI (ch ⟨i,hi⟩),by simp[List.getElem?_ofFn,hi],acd (ch ⟨i,hi⟩)⟩⟩
 have K:((kvs.map λp=>(Uz p.1:Key)).zip ys).map (·.1)=kvs.map λp=>(Uz p.1:Key):=by
  rw[List.map_fst_zip];rw[ar];omega
 have m:((kvs.map λp=>(Uz p.1:Key)).zip ys).length=kvs.length:=by rw[List.length_zip,ar];omega
 have inj:(kvs.map λp=>(Uz p.1:Key)).Nodup:=by
  have:(kvs.map λp=>(Uz p.1:Key))=(kvs.map (·.1)).map Uz:=by rw[c5];rfl
  rw[this,jg,ff];exact(jg.mp N).imp λh z=>h (fQ z)
 refine GS (I.ok.hd L) ((kvs.map λp=>(Uz p.1:Key)).zip ys) (by rw[K];exact inj) (by rw[m];omega) (by rw[bM,m];omega) v (λi p b=>?_) λd h' tk dl e xb=>?_
 ·obtain⟨U,h2⟩:=List.getElem?_zip_eq_some.mp b
  rw[cx]at U;obtain⟨ye,yb,zb⟩:=fe.mp U;obtain⟨hi,rfl⟩:=bQ.mp yb;obtain⟨y,f,a,x,xc,yc,zc,B⟩:=l i hi;rw[f]at h2;cases h2
  exact⟨a,x,xc,yc,by rw[<-zb];exact ko (k:=Uz kvs[i].1) zc⟩
 ·have big:=I.big
  refine⟨.ref d,_,I.laid (a:=d) (o:=.dK (fj kvs)) (t':=tk) xb dl (pL (by unfold fj;rw[ar];omega) (jU.mpr (a7 (bp (er big dl)))) ?_ e),rfl,q d (I.aD.fresh dl)⟩
  exact BF kvs ys G λi hi=>by
   obtain⟨y,f,a,x,_,_,_,B⟩:=l i hi;exact⟨y,f,B⟩
end L2
namespace L2
open W
def Nw(_ j:Int):Prop:=0<j/\j<4611686018427387904
theorem JD:bW X (Yi .FloorDiv) (rI Nw λi j=>.int (i / j)):=oi λi j _ _ _ _ _ a q=>by
 have U:(0:Int)<j:=a.1;have h2:j<4611686018427387904:=a.2;refine abE (by omega) (by rw[UC i (by omega)];exact q) (.inl (PyProof.noPylong_of_log2 ?_))
 have b:j.natAbs<2 ^ 62:=by omega
 have c:j.natAbs.log2<62:=(Nat.log2_lt (by omega)).mpr b
 omega
end L2
namespace L2
open W Calls PyProof.Rows
section
variable{α β:Type}
def Pm(n:Nat)(p:Array Nat):Prop:=p.toList.Perm (UU n)
theorem Pm.lt{p:Array Nat}(h:Pm n p)(a:0<n)(i:Nat):p.getD i 0<n:=by
 rw[iE];cases e:p[i]? with
 |none=>exact a
 |some x =>
  have:x∈p.toList:=Array.mem_def.mp (U1 e);exact eO.mp (h.mem_iff.mp this)
theorem Pm.rev{p:Array Nat}(h:Pm n p)(i j:Nat):Pm n (kas_rev p i j):=(U2.mp (mirror_perm p i j _)).trans h
theorem Pm.EK{p:Array Nat}(h:Pm n p)(i j:Nat):Pm n (bubble p i j):=(U2.mp (bubble_perm p i j)).trans h
theorem pN{γ:Type}{p:Array Nat}{vs:am γ}(d:γ)(h:Pm vs.length p):(p.toList.map λi=>vs.getD i d).Perm vs:=by
 have U:=ab9 (λi=>vs.getD i d) h;refine U.trans (ZL ?_)
 apply rv
 ·simp
 ·intro i U h2
  simp[YD,h2]
end
theorem oR{α β:Type}{F:α->β->Prop}{l b:am α}(h:b.Perm l):∀{m:am β},XU F l m ->∃a,a.Perm m/\XU F b a:=by
 induction h with
 |nil=>intro m p;exact⟨m,.refl _,p⟩
 |cons x _ f =>
  intro m p;cases p with
  |cons q t =>
   obtain⟨a,e,r⟩:=f t;exact⟨_::a,e.cons _,.cons q r⟩
 |swap x y l =>
  intro m p;cases p with
  |cons q t =>
   cases t with
   |cons g t=>exact⟨_,Yu _ _ _,.cons g (.cons q t)⟩
 |trans _ _ c d =>
  intro m p;obtain⟨o,i,p2⟩:=d p;obtain⟨j,k,n⟩:=c p2;exact⟨j,k.trans i,n⟩
theorem Md{o:HO}(x:bc P w H h a o):∃q,h.get? a=ih q:=by
 cases o with
 |lst xs=>obtain⟨_,_,_,_,e⟩:=x;exact⟨_,e⟩
 |tup xs=>obtain⟨_,_,_,q,e,_⟩:=x;exact⟨q,e⟩
 |dK kvs=>obtain⟨_,_,_,_,o,_,_,e,_⟩:=x;exact⟨o,e⟩
 |dT kvs=>obtain⟨_,_,_,_,o,_,_,e,_⟩:=x;exact⟨o,e⟩
 |set S n=>obtain⟨o,_,_,_,e,_⟩:=x;exact⟨o,e⟩
 |ins C dx fs=>obtain⟨_,_,_,e,_⟩:=x;exact⟨_,e⟩
 |own y=>exact x
 |xd fs=>obtain⟨_,⟨o,_,_,e,_⟩,_⟩:=x;exact⟨o,e⟩
 |n9 lo hi=>obtain⟨_,_,_,e⟩:=x;exact⟨_,e⟩
 |aX q u=>exact⟨q,x.1⟩
 |i5 ps=>exact⟨_,x⟩
 |met f y=>exact⟨_,x⟩
 |ext b=>exact x.2.1
theorem Inv.sorted{σ:am (Option V)}{m:F4->Option i'}{D:FG}{out:am i'}(I:Inv X J σ H s)(A:s.heap.Ns X.env.locals m)(i:h'.Ns X.env.locals m)
  (k:∀b o,b≠X.env.locals->s.heap.get? b=ih o->h'.get? b=ih o) (t:∀b o,s.heap.get? b=ih o->b≠D) (new:h'.get? D=ih (listOf out.toArray c)) (r:Vals ys out) (hz:ys.length<=UJ) :
  H D=none/\Inv X J σ (upd H D (.lst ys)) { s with heap:=h',toks:=t' }:=by
 have there:∀b u,H b=ih u ->∃o,s.heap.get? b=ih o:=λb u e=>Md (I.aD b u e);have w:H D=none:=by
  cases q:H D with
  |none=>rfl
  |some u =>
   obtain⟨o,e⟩:=there D u q;exact absurd rfl (t D o e)
 have d:∀b u,H b=ih u->b≠D:=λb u e z=>by rw[z,w]at e;cases e
 have j:∀b u,H b=ih u->b≠X.env.locals:=λb u e z=>by rw[z,I.free]at e;cases e
 refine⟨w,I.step (g':=s.gens) (d':=s.drawn) (ch:=[]) (λ_ z=>nomatch z) (λb o g _ _ e _=>k b o g e) (λb o g _ _ e _=>⟨o.slots,k b o g e⟩) (λb o _ e n=>by rw[ai (t b o e)];exact n) (λb o _ e=>?_)
  (λb xs e=>by rw[ai (d b _ e)];exact e) (λb o u e=>by rw[ai (d b _ e)];exact e) (λb ps e=>⟨#[],by rw[ai (d b _ e),e];simp⟩) (λB q=>?_) (λb u e=>?_) I.bare⟩
 ·by_cases f:b=X.env.locals
  ·obtain⟨o',es,ep,h,_⟩:=i
   exact⟨o',by rw[f];exact h⟩
  ·exact⟨o,k b o f e⟩
 ·obtain⟨o,es,ep,h,C,hs,E⟩:=A
  obtain⟨M,G,K,l,p,L,y⟩:=q;rw[h]at l;cases l;rw[C]at p;cases p;have:B=m:=funext λx=>(y x).symm.trans (E x);rw[this];exact i
 ·by_cases f:b=D
  ·subst f
   rw[ah]at e;cases e;exact⟨hz,out,c,r,new⟩
  ·rw[ai f]at e
   refine(I.aD b u e).en (λa v F q=>k a v ?_ q) (λa q=>by rw[ai (d a _ q)];exact q) λa xs q=>by rw[ai (d a _ q)];exact q
   rcases F with z|z
   ·rw[z];exact j b u e
   ·exact j a _ z
theorem Ai{B:Yc}{R:abj->Gb->Prop}(f:s.heap.get? a=ih (seqObj "list" us.toArray n))(l:us.length<2)
  (k:∀c g,(∀b o,b≠a->s.heap.get? b=ih o->g.get? b=ih o)->g.get? a=ih (listOf us.toArray c)->R (.done (.ret .none)) { s with heap:=g }):UB (UP P w) B (Ye.«list.sort» ⟨[.ref a],[]⟩) R E s:=by
 obtain⟨ep,i⟩:∃ep,(s.heap.update a (XT λ_=>(#[]:Array i'))).get? a=ih (seqObj "list" #[] ep):=⟨_,get?_update_seq f λ_=>#[]⟩;have fits:us.toArray.size<=UJ:=by rw[aJ,bM];omega
 have small:us.toArray.size<2:=by simpa using l
 rw[list_sort_plain];refine ae (listItems_at f rfl (ae (listUpdate_at f rfl (ae (seqEpoch_at i rfl (ae (wpAny_newTuple (ae (rx (de ?_) (ba _))) (by simpa using fits))))) fits (ba _))))
 have two:∀b o,(s.heap.update a (XT λ_=>(#[]:Array i'))).get? b=ih o->(((s.heap.update a (XT λ_=>(#[]:Array i'))).push (seqObj "tuple" us.toArray 0)).push (seqObj "list" #[] 0)).get? b=ih o:=λb o q=>aV _ (aV _ q)
 change UB (UP P w) B _ R E { s with heap:=((s.heap.update a (XT λ_=>(#[]:Array i'))).push (seqObj "tuple" us.toArray 0)).push (seqObj "list" #[] 0) }
 have d:=two _ _ i;have h:∀b o,b≠a->s.heap.get? b=ih o->(((s.heap.update a (XT λ_=>(#[]:Array i'))).push (seqObj "tuple" us.toArray 0)).push (seqObj "list" #[] 0)).get? b=ih o:=λb o e q=>two b o (((mI s.heap a _).2 b e).trans q);generalize (((s.heap.update a (XT λ_=>(#[]:Array i'))).push (seqObj "tuple" us.toArray 0)).push (seqObj "list" #[] 0))=g at d h⊢
 dsimp only
 rw[aw small,aw small];refine ae (aj (ae (aj ?_)));have same:(arrOf (SortSt.mk' general' (us.toArray.zip us.toArray) #[] 7 none)).map (·.2)=us.toArray:=rm.mp (by show((us.toArray.zip us.toArray).map (·.2)).toList=_;simp[List.map_snd_zip])
 dsimp only
 rw[same];refine ae (seqEpoch_at d rfl (ae (listUpdate_at d rfl ?_ (ba _) (U4 fits))));obtain⟨c,j⟩:∃c,(g.update a (XT λ_=>us.toArray)).get? a=ih (seqObj "list" us.toArray c):=⟨_,get?_update_seq d λ_=>us.toArray⟩;simp only[bne_self_eq_false,ew,fV];exact aj (k c _ (λb o e q=>((mI g a _).2 b e).trans (h b o e q)) j)
theorem r9{γ:Type}{f:γ->V}{g:γ->i'}(h:∀x,RelV (f x) (g x)):∀l:am γ,Vals (l.map f) (l.map g)
 |[]=>.nil
 |x::l=>.cons (h x) (r9 h l)
end L2
namespace L2
open W Spec PyProof.Rows
def mw(d:FG)(o:Ys)(kvs:List (Key×V)):It:=⟨λi H=>H d=ih (.aX o (.dK kvs))/\i<kvs.length,λi H v Y=>Y=H /\∃kv,kvs[i]?=ih kv/\v=kV kv.1,λi H=>H d=ih (.aX o (.dK kvs))/\kvs.length<=i⟩
theorem Aj(d it:FG)(F:d≠it)(o:Ys)(kvs:am (Key×V))(vs:am (Key×i'))(ep:Nat)(j:KV kvs vs)(N:∀h:XY,h.get? d=ih o->h.DictAt (b5 P w) d vs ep) :
  Turn P w K tg (mw d o kvs) [it] it (λi h=>i<=kvs.length/\h.IsKeyIter it d i vs.length ep) where
 mem:=by simp
 obj:=λi h st b a=>by
  obtain rfl:b=it:=by simpa using a
  obtain⟨_,o,e,c,d⟩:=st;exact⟨o,e,λv z=>by rw[d]at z;cases z⟩
 keep:=λi h h' st k=>by
  obtain⟨l,o,e,r⟩:=st;exact⟨l,o,k it (by simp) _ e,r⟩
 item:=by
  intro X m n p q i J s σ H E I g st f;subst m n p;obtain⟨f0,t,S,u,y,B⟩:=g it (by simp)
  have O:kvs.length=vs.length:=j.length;have C:=N s.heap (show bc X.prog X.w H s.heap d (.aX o (.dK kvs)) from I.aD d _ f.1).1;refine(aae (knd:=b5 X.prog X.w) (I.ok.hd q) it d F vs ep).item i s _ _ (by have:=f.2;omega) ⟨st.2,C⟩ λv h' tk T G D=>?_
  obtain⟨k,x,W,Y⟩:=T;have xa:Inv X J σ H { s with heap:=h',toks:=tk }:=I.turned (λb o a e=>D b o (by simpa using a) e) f0 t u y B
  obtain⟨yb,e,ya,dt⟩:=id G.1;have R:i<kvs.length:=f.2;have L:kvs[i]?=ih kvs[i]:=bA R;have za:kvs[i].1=k:=by
   have U:=c4 (λl=>l[i]?) j.keys;simp only[cx,L,W]at U;exact cS U
  exact⟨_,rfl,nM (s:={ s with heap:=h',toks:=tk }) e ya dt (by decide) ⟨kV k,H,xa,sV Y,⟨rfl,kvs[i],L,by rw[za]⟩,⟨f.2,G.1⟩,λb a=>(g b a).1⟩⟩
 done:=by
  intro X m n p q i J s σ H E I g st f;subst m n p;obtain⟨f0,t,S,u,y,B⟩:=g it (by simp)
  have xb:i=kvs.length:=FZ st.1 f.2;have O:kvs.length=vs.length:=j.length;have C:=N s.heap (show bc X.prog X.w H s.heap d (.aX o (.dK kvs)) from I.aD d _ f.1).1;have M:=st.2;rw[xb,O]at M;exact(aae (knd:=b5 X.prog X.w) (I.ok.hd q) it d F vs ep).done s _ _ ⟨M,C⟩ λh' tk D=>⟨rfl,I.turned (λb o a e=>D b o (by simpa using a) e) f0 t u y B⟩
 self:=λA i s Q E st h=>wpAny_pyIter_keyiter st.2 h
theorem Inv.freeze{σ:am (Option V)}(I:Inv X J σ H s)(g:H d=ce kvs)(i:s.heap.get? d=ih o):Inv X J σ (upd H d (.aX o (.dK kvs))) s:=by
 have ok:bc X.prog X.w H s.heap d (.dK kvs):=I.aD d _ g;have a:∀{b:FG}{u:HO},H b=ih u->u ≠ .dK kvs->b≠d:=λe n z=>by rw[z,g]at e;exact n (cS e).symm
 refine I.un (h':=s.heap) (t':=s.toks) ⟨λb f q _ _ _=>q,λb f q _ _ _=>⟨f.slots,q⟩,λb f q n _=>?_,λb f q _=>⟨f,q⟩,λb xs e=>?_,λb f u e=>?_,λb ps e=>⟨#[],?_⟩⟩ λb u e=>?_
 ·rw[ai (λz=>by rw[z,g]at n;cases n)];exact n
 ·rw[ai (a e (by intro z;cases z))];exact e
 ·rw[ai (a e (by intro z;cases z))];exact e
 ·rw[ai (a e (by intro z;cases z)),e];simp
 ·by_cases h:b=d
  ·subst h
   rw[ah]at e;cases e
   exact⟨i,ok.en (λ_ _ _ q=>q) (λc q=>by rw[ai (a q (by intro z;cases z))];exact q) λc xs q=>by rw[ai (a q (by intro z;cases z))];exact q⟩
  ·rw[ai h]at e
   exact(I.aD b u e).en (λ_ _ _ q=>q) (λc q=>by rw[ai (a q (by intro z;cases z))];exact q) λc xs q=>by rw[ai (a q (by intro z;cases z))];exact q
def Nx(te:TE):TI:=λσ H R=>te σ H λv H1=>∃d kvs,v=.ref d/\((H1 d=ih (.dK kvs) /\∀o,R (mw d o kvs) (upd H1 d (.aX o (.dK kvs)))) \/∃o,H1 d=ih (.aX o (.dK kvs))/\R (mw d o kvs) H1)
theorem KP(x:PE X e te):PI X tg e (Nx te):=by
 intro J s σ H R I h;refine aI (x J s σ H _ I h) λv s1 F=>?_;obtain⟨y,H1,a,A,d,kvs,B,q⟩:=F;subst B;cases A
 have C:Rd H1 d (.dK kvs):=by
  rcases q with⟨e,_⟩|⟨o,e,_⟩
  ·exact .inl e
  ·exact .inr ⟨o,e⟩
 obtain⟨D,hs,vs,k,u⟩:=kq a.aD C;obtain⟨o,es,ep,c,l,i,m,n,p⟩:=id u;refine wpAny_pyIter_dict (knd:=b5 X.prog X.w) (kvs:=vs) (ep:=ep) hs ⟨o,es,c,l,i,m,n,p⟩ ?_;have f:d≠s1.ax:=bp (a6 c);have r:∀h:XY,h.get? d=ih o->h.DictAt (b5 X.prog X.w) d vs ep:=λh e=>⟨o,es,e,l,i,m,n,p⟩;have t:Inv X J σ H1 { s1 with heap:=s1.heap.push { cls:=.type "dict_keyiterator",data:=.fields #[.ref d,.int 0 0,.int vs.length 0,.int ep 0] } }:=a.kept (t':=s1.toks) λb E z=>aV _ z;have st:0<=kvs.length/\Heap.IsKeyIter (s1.heap.push { cls:=.type "dict_keyiterator",data:=.fields #[.ref d,.int 0 0,.int vs.length 0,.int ep 0] }) s1.ax d 0 vs.length ep:=⟨ba _,_,bG _ rfl,rfl,rfl⟩;have j:H1 s1.ax=none:=a.aD.fresh (aG _);rcases q with⟨e,q⟩|⟨o',e,q⟩
 ·refine⟨s1.ax,[s1.ax],_,_,_,rfl,t.freeze e (aV _ c),Aj d s1.ax f o kvs vs ep k r,st,λb g=>?_,q o⟩
  obtain rfl:b=s1.ax:=by simpa using g
  exact a.il (aG _) (by rw[ai (a7 f)];exact j)
 ·obtain rfl:o'=o:=by
   have:=(show bc X.prog X.w H1 s1.heap d (.aX o' (.dK kvs)) from a.aD d _ e).1;rw[c]at this;exact(cS this).symm
  refine⟨s1.ax,[s1.ax],_,_,H1,rfl,t,Aj d s1.ax f o' kvs vs ep k r,st,λb g=>?_,q⟩;obtain rfl:b=s1.ax:=by simpa using g
  exact a.il (aG _) j
theorem JE{g:TG}{tb:TS}(Pv:Nat->St->Hp->Prop)(h0:Pv 0 σ H)(j:∀i σ H,i<=kvs.length->Pv i σ H->H d=ih (.aX o (.dK kvs)))
  (hs:∀i kv σ H,kvs[i]?=ih kv->Pv i σ H->g (kV kv.1) σ H λa H2=>tb { D with nx:=Pv (i+1),ct:=Pv (i+1),bk:=D.nx } a H2) (k:∀σ H,Pv kvs.length σ H->D.nx σ H) :
  ∃W:Nat->Nat->St->Hp->Prop,(∃m,W 0 m σ H) /\∀i m σ H,W i m σ H ->
   ((mw d o kvs).stop i H/\D.nx σ H)\/((mw d o kvs).go i H /\∃N:St->Hp->Prop,(∀b Y,N b Y ->∃f,f<m/\W (i+1) f b Y) /\∀x Y,(mw d o kvs).jJ i H x Y->g x σ Y λa H2=>tb { D with nx:=N,ct:=N,bk:=D.nx } a H2):=by
 refine⟨λi m σ H=>m=kvs.length - i/\i<=kvs.length/\Pv i σ H,⟨kvs.length,by simp,ba _,h0⟩,?_⟩
 rintro i m σ H ⟨rfl,hi,p⟩;have q:=j i σ H hi p
 by_cases c:i<kvs.length
 ·refine .inr ⟨⟨q,c⟩,Pv (i+1),λb Y l=>⟨kvs.length - (i+1),by omega,rfl,c,l⟩,λx Y y=>?_⟩
  obtain⟨e,kv,h,ex⟩:=y;subst e;subst ex;exact hs i kv σ _ h p
 ·have e:i=kvs.length:=by omega
  subst e;exact .inl ⟨⟨q,aG _⟩,k σ H p⟩
def kS(a b:F4):Prop:=a.cps.toList<=b.cps.toList
theorem A0{a b:F4}(U:kS a b)(h2:kS b a):a=b:=by
 have e:a.cps.toList=b.cps.toList:=List.le_antisymm U h2;cases a;cases b
 exact c4 Str.mk (rm.mp e)
theorem wN:∀{r:am F4}{p:F4},risingS p r=true->(∀x∈r,kS p x)/\r.Pairwise kS
 |[],p,_=>⟨by simp,.nil⟩
 |x::r,p,h=>by
  obtain⟨U,h2⟩:=gn.mp (show(!ltCps x.cps.toList p.cps.toList&&risingS x r)=true from h);obtain⟨a,c⟩:=wN h2;have b:kS p x:=by
   rw[ltCps_eq]at U;have : ¬ (x.cps.toList<p.cps.toList):=by simpa using U
   exact this
  refine⟨λy hy=>?_,.cons a c⟩;rcases bu.mp hy with rfl|hy
  ·exact b
  ·exact List.le_trans b (a y hy)
theorem Ib{l:am F4}(h:sortedS l=true):l.Pairwise kS:=by
 cases l with
 |nil=>exact .nil
 |cons x r=>obtain⟨U,h2⟩:=wN (show risingS x r=true from h);exact .cons U h2
theorem Ak:∀{us:am i'}{a:am F4},Yd us a->Vals (a.map V.str) us
 |_,_,.nil=>.nil
 |_,_,.cons _ t r=>.cons ⟨t,rfl⟩ (Ak r)
end L2
namespace HS
open Spec PyProof.Rows
theorem KQ(t:X3)(es:Array (Int×i'))(z:Int)(x:i'):(layNew t es z x).2.1.led=t.led:=by
 unfold layNew;split
 ·dsimp only
  unfold SetTable.orStandIn;split <;> rfl
 ·rfl
theorem Ic{t u:X3}{zs:Array Int}{b:Array Nat}(e:t.relaid zs n=ih (u,b)):u.led=t.led/\u.plain=t.plain:=by
 unfold ZR Zk at e;cases c:YY (ZD n - 1) zs with
 |none=>rw[c]at e;cases e
 |some f =>
  rw[c]at e;have d:=cS e;have a:=c4 Prod.fst d
  dsimp only at a
  rw[<-a];exact⟨rfl,rfl⟩
theorem Ht(t:X3)(es:Array (Int×i'))(n:Nat):(relayAll t es n).2.1.led=t.led/\(t.plain=false->(relayAll t es n).2.1.plain=false):=by
 unfold relayAll;split
 ·rename_i u a e
  obtain⟨U,h2⟩:=Ic e
  dsimp only
  split
  ·exact⟨U,λz=>h2.trans z⟩
  ·exact⟨rfl,λ_=>rfl⟩
 ·exact⟨rfl,λ_=>rfl⟩
def dY(P:XZ)(w:X7)(h:XY)(a:FG)(xs:List F4):Prop:=
 ∃o es ep t,h.get? a=ih o/\o.ExactSet/\o.data=.set es ep t/\aaR (strKind P w) es.toList/\(∀k,k∈xs ↔ ∃e∈es.toList,(strKind P w).is k e.2=true) /\
  es.size<scanBound/\t.fits es.size=true/\es.size=xs.length/\t.led=(!w.params.followText "set-order")/\(es.size≠0->t.plain=false)
theorem dY.keep{xs:am F4}(x:dY P w h a xs)(k:∀o,h.get? a=ih o->h'.get? a=ih o):dY P w h' a xs:=let ⟨o,es,ep,t,e,r⟩:=x;⟨o,es,ep,t,k o e,r⟩
theorem dY.lt{xs:am F4}(x:dY P w h a xs):a<h.objs.size:=let ⟨_,_,_,_,e,_⟩:=x;a6 e
theorem dY.typeIs{xs:am F4}(x:dY P w s.heap a xs):s.TypeIs (.ref a) "set" :=let ⟨o,_,_,_,e,c,_⟩:=x;⟨o,e,c.1⟩
theorem JF(e:h.get? a=ih { cls:=.type "set",dict:=none,data:=.set #[] 0 (.fresh 0 0 (!w.params.followText "set-order")) }):dY P w h a []:=
 ⟨_,#[],0,_,e,⟨rfl,rfl,rfl⟩,rfl,λz b=>(by simp at b),λk=>(by simp),by decide,by rfl,rfl,rfl,λz=>absurd rfl z⟩
def fH(xs:List F4)(k:F4):List F4:=if k∈xs then xs else xs++[k]
section
variable{xs:am F4}
theorem A1{es es':Array (Int×i')}{t t':X3}{ys:am F4}(f:h.get? a=ih o)(g:o.ExactSet)(b:o.data=.set es ep t)(d:aaR (strKind P w) es'.toList)
  (i:∀k,k∈ys ↔ ∃e∈es'.toList,(strKind P w).is k e.2=true) (j:es'.size<scanBound) (l:t'.fits es'.size=true) (m:es'.size=ys.length) (n:t'.led=(!w.params.followText "set-order")) (p:t'.plain=false) :
  (h.update a (Yw es' t')).get? a=ih { o with data:=.set es' (ep+1) t' }/\dY P w (h.update a (Yw es' t')) a ys:=by
 have c:(h.update a (Yw es' t')).get? a=ih { o with data:=.set es' (ep+1) t' }:=by
  have z:=mH (Yw es' t') f (by rw[vI es' t' b];rfl)
  rw[vI es' t' b]at z;exact z
 exact⟨c,_,es',ep+1,t',c,g,rfl,d,i,j,l,m,n,λ_=>p⟩
theorem JG{k:F4}{tk:Tok}{Q:Bool->Gb->Prop}(ye:dY P w s.heap a xs)(room:xs.length+1<scanBound)(h:∀h',X4 a s.heap h'->dY P w h' a (fH xs k) ->∀b,Q b { s with heap:=h' }) :
  UB (UP P w) A (setAddHashed a (.str k tk) (hashStr w k)) Q E s:=by
 obtain⟨o,es,ep,t,m,H,n,B,v,ya,K,ze,F,xc⟩:=ye;have x:(strKind P w).is k (.str k tk)=true:=by show X' k (.str k tk)=true;simp[X']
 have I:(YB k tk).scannable=true:=rfl;have yg:es.size+1<scanBound:=by omega
 unfold setAddHashed setAddHashedIn;refine de (ae (cW m n K ?_));dsimp only;rw[byScan_of (knd:=strKind P w) I ya B,aw rfl];refine ae ?_;unfold setAddByScan;refine ae (je (ae (wpAny_setScan_of (knd:=strKind P w) (k:=k) x m n K B ?_)));cases za:List.findIdx? (λe=>(strKind P w).is k e.2) es.toList with
 |some j =>
  obtain⟨xf,yc,_⟩:=List.findIdx?_eq_some_iff_getElem.mp za;have C:k∈xs:=(v k).mpr ⟨es.toList[j],dz xf,yc⟩;refine aj (aj ?_);have yf:s={ s with heap:=s.heap }:=by cases s;rfl
  rw[yf];refine h s.heap (Zt a s.heap) ?_ _;unfold fH;rw[aw C];exact⟨o,es,ep,t,m,H,n,B,v,ya,K,ze,F,xc⟩
 |none =>
  dsimp only
  have C:k ∉ xs:=λz=>by
   obtain⟨e,he,i⟩:=(v k).mp z;have:=List.findIdx?_eq_none_iff.mp za e he;rw[i]at this;cases this
  have xb:∀(b:Bool) {G:Gb}{M:Unit->Gb->Prop},M () G->UB (UP P w) A (match b with|true=>rule "set.scan.the-table-gave-way" | false=>pure ()) M E G:=λb G M yb=>by
   cases b
   ·exact aj yb
   ·exact je yb
  have g:=layNew_perm t es ((strKind P w).hash k) (.str k tk);have u:=layNew_fits t es ((strKind P w).hash k) (.str k tk);have y:=KQ t es ((strKind P w).hash k) (.str k tk);generalize zf:layNew t es (hashStr w k) (.str k tk)=L;rw[show(strKind P w).hash k=hashStr w k from rfl,zf]at g u y;obtain⟨c,p,xg,zg⟩:=L
  dsimp only at g u y⊢
  rw[U5]at g;have S:aaR (strKind P w) c.toList:=(B.push (k:=k) x I).perm g;have xh:c.size=es.size+1:=by rw[<-cb,g.length_eq,df,cb];rfl
  have O:∀f,f∈fH xs k ↔ ∃e∈c.toList,(strKind P w).is f e.2=true:=λf=>by
   unfold fH;rw[ak C,cw,b9,v f]
   constructor
   ·rintro(⟨e,he,i⟩|rfl)
    ·exact⟨e,g.mem_iff.mpr (gm _ he),i⟩
    ·exact⟨_,g.mem_iff.mpr (et _ (b9.mpr rfl)),x⟩
   ·rintro⟨e,he,i⟩
    rcases cw.mp (g.mem_iff.mp he) with he|he
    ·exact .inl ⟨e,he,i⟩
    ·rw[b9]at he;subst he
     exact .inr ((strKind P w).inj _ f k i x)
  have zc:c.size=(fH xs k).length:=by unfold fH;rw[ak C,df,jd];omega
  have U:c.size<scanBound:=by omega
  refine ae (xb _ ?_);have T:∀d:X3,d.fits c.size=true->d.led=t.led->d.plain=false->UB (UP P w) A (do
    storeSet a c d
    if (!xg&&d.tooFull)=true then do
      let r:=relayAll d c (Yn c.size)
      (match r.2.2 with|true=>rule "set.scan.the-table-gave-way" | false=>pure ())
      storeSet a r.1 r.2.1
      pure (ih true)
     else pure (ih true)) (λr s'=>UB (UP P w) A (match r with|some zb=>pure zb|none=>setAddHashedIn a (.str k tk) (hashStr w k) 99999) Q E s') E s:=by
   intro d xd V W;obtain⟨X,yd⟩:=A1 (P:=P) (w:=w) m H n S O U xd zc (V.trans F) W;have Y:=mI s.heap a (Yw c d);refine ae (vJ m n ?_ (oH U));split
   ·have l:=relayAll_perm d c (Yn c.size)
    have N:=relayAll_fits d c (Yn c.size);have D:=Ht d c (Yn c.size)
    dsimp only
    generalize relayAll d c (Yn c.size)=R at l N D⊢;obtain⟨xa,yh,zh⟩:=R
    dsimp only at l N D⊢
    have dc:xa.size=c.size:=by rw[<-cb,l.length_eq,cb]
    have zd:∀f,f∈fH xs k ↔ ∃e∈xa.toList,(strKind P w).is f e.2=true:=λf=>(O f).trans ⟨λ⟨e,he,q⟩=>⟨e,l.mem_iff.mpr he,q⟩,λ⟨e,he,q⟩=>⟨e,l.mem_iff.mp he,q⟩⟩;obtain⟨_,xe⟩:=A1 (P:=P) (w:=w) X H rfl (S.perm l) zd (by omega) N (by omega) (D.1.trans (V.trans F)) (D.2 W)
    refine ae (xb _ (ae (vJ X rfl ?_ (oH (by omega)))))
    exact aj (aj (h _ (Y.trans (mI _ a _)) xe _))
   ·exact aj (aj (h _ Y yd _))
  by_cases J:p.plain=true
  ·rw[aw J]
   refine ae ?_;rw[hashByValue_scannable 8 I];refine aj ?_;show UB (UP P w) A (do
    storeSet a c { p with plain:=false }
    _) _ E s
   exact T { p with plain:=false } (SetTable.fits_plain_off u) y rfl
  ·rw[ak J]
   refine ae (aj ?_);show UB (UP P w) A (do
    storeSet a c p
    _) _ E s
   exact T p u y (by simpa using J)
end
def gA(val:Nat->F4)(i:Nat):List F4:=((UU i).map val).foldl fH []
theorem oY(val:Nat->F4)(i:Nat):gA val (i+1)=fH (gA val i) (val i):=by
 unfold gA;rw[aag,a5,List.foldl_append];rfl
theorem JH(xs:am F4)(k:F4):(fH xs k).length<=xs.length+1:=by
 unfold fH;split
 ·omega
 ·rw[df,jd];omega
theorem KR{xs:am F4}(h:xs.Nodup)(k:F4):(fH xs k).Nodup:=by
 unfold fH;split
 ·exact h
 ·rename_i c
  rw[gG];exact⟨h,by simp,λa d b f e=>c (by rw[<-(b9.mp f),<-e];exact d)⟩
theorem JI{xs:am F4}{k y:F4}:y∈fH xs k ↔ y∈xs\/y=k:=by
 unfold fH;split
 ·rename_i h
  exact⟨.inl,λz=>z.elim id λe=>e ▸ h⟩
 ·rw[cw,b9]
theorem A2(val:Nat->F4):∀i,(gA val i).length<=i
 |0=>aG _
 |i+1=>by rw[oY];have:=JH (gA val i) (val i);have:=A2 val i;omega
theorem BG(val:Nat->F4):∀i,(gA val i).Nodup
 |0=>iD
 |i+1=>by rw[oY];exact KR (BG val i) _
theorem A3(val:Nat->F4)(y:F4):∀i,y∈gA val i ↔ ∃j,j<i/\val j=y
 |0=>⟨λh=>(by cases h),λ⟨_,h,_⟩=>absurd h (jh _)⟩
 |i+1=>by
  rw[oY,JI,A3 val y i]
  constructor
  ·rintro(⟨j,h,e⟩|e)
   ·exact⟨j,by omega,e⟩
   ·exact⟨i,by omega,e.symm⟩
  ·rintro⟨j,h,e⟩
   by_cases c:j=i
   ·exact .inr (by rw[<-e,c])
   ·exact .inl ⟨j,by omega,e⟩
section
variable{wr:am FG}{G:Array Zn->Array Zn->Prop}{St:Nat->Gb->Prop}
theorem JJ(W:WalksS P w A.in1 I fp wr G n Pv St)(S:FG)(d:S ∉ fp)(val:Nat->F4)(B:∀i v,Pv i v ->∃t,v=.str (val i) t)(J:n+1<scanBound) :
  ∀(k i:Nat) (s:Gb),n - i=k->i<=n->St i s->dY P w s.heap S (gA val i)->(∀s',Moved (S::wr) G s s'->dY P w s'.heap S (gA val n)->R (.ok (.ret .none)) s') ->
   codeAny (UP P w) A (.builtin "set.update.loop" ⟨[.ref S,.ref I],[]⟩) R s:=by
 have f:S ∉ wr:=λz=>d (W.sub _ z);have g:∀b∈wr,b∈S::wr:=λb z=>a8 _ z;intro k
 induction k with
 |zero =>
  intro i s C hi st x q;obtain rfl:i=n:=by omega
  refine ft vK ?_;rw[gp oJ _];show UB _ A.in1 (pyNext (.ref I) >>= _) _ _ s;refine ae (W.done s _ _ st λs' m=>?_);show UB _ A.in1 (ret Vw) _ _ s';exact aj (q s' (m.mono g) (x.keep λo e=>m.heap S o f e))
 |succ k D =>
  intro i s C hi st x q;have lt:i<n:=by omega
  refine ft vK ?_;rw[gp oJ _];show UB _ A.in1 (pyNext (.ref I) >>= _) _ _ s;refine ae (W.item i s _ _ lt st λv s' E p m=>?_);obtain⟨t,rfl⟩:=B i v E;have H:dY P w s'.heap S (gA val i):=x.keep λo e=>m.heap S o f e;show UB _ A.in1 (holding [YB (val i) t] (setAdd S (.str (val i) t)) >>= _) _ _ s';refine ae (de ?_);unfold setAdd;have l:(strKind P w).is (val i) (.str (val i) t)=true:=by show X' (val i) (.str (val i) t)=true;simp[X']
  refine de (ae ((strKind P w).pyHash (k:=val i) l ?_));have room:(gA val i).length+1<scanBound:=by have:=A2 val i;omega
  refine JG (s:={ s' with toks:=s'.toks+1 }) H room λh' h j b=>?_;rw[<-oY]at j;refine aj ⟨gF oJ _,D (i+1) _ (by omega) lt (W.frame _ s' _ _ p (jY _) λc a o e=>?_) j λr u y=>?_⟩
  ·rw[h.2 c (λz:c=S=>d (by rw[<-z];exact a))];exact e
  ·refine q r (aaV W.gtrans ((m.mono g).then_heap (jY _) λc o a e=>?_) u) y
   rw[h.2 c (λz:c=S=>a (by rw[z];exact aT))];exact e
end
abbrev eZ(w:X7):Ys:={ cls:=.type "set",dict:=none,data:=.set #[] 0 (.fresh 0 0 (!w.params.followText "set-order")) }
theorem wC(a:i'){Q₁:i'->Gb->Prop}(h:Q₁ (.ref s.ax) { s with heap:=s.heap.push (eZ w) }) :
  codeAny (UP P w) A (.call (.builtin "set.__new__") ⟨[.type "set",a],[]⟩) (wants Q₁ E) s:=by
 refine vt ?_;show UB _ A.in1 (do checkBuiltinCall "set.__new__" ⟨[.type "set",a],[]⟩;again (.builtin "set.__new__" ⟨[.type "set",a],[]⟩)) _ _ s;refine ae (wpAny_of_eq (F.newCall_set_1 a) (aj ⟨gF aaW _,ft F.entry_set_new ?_⟩));rw[gp aaW _];unfold Ye.«set.__new__» aan;have b:=sub_set_self;obtain⟨c,g,d,tk,os⟩:=s;dsimp only
 wp_walk
 refine eQ (aj ?_);dsimp only;simp only[newObj];refine ae (wpAny_alloc (aj ?_));exact aj h
structure Src(P:XZ)(w:X7)(T:String)(l:FG)(ol:Ys)(n:Nat)(Pv:Nat->i'->Prop):Prop where
 cls:ol.cls=.type T
 ns:isSubtype (.type T) (.type "set")=pure false
 nf:isSubtype (.type T) (.type "frozenset")=pure false
 nd:(X6 T==X6 "dict")=false
 iter:∀(A:Yc) (s:Gb),A.handled=none->s.heap.get? l=ih ol ->∃(oI:Ys) (St:Nat->XY->Prop),
  (∀(E:i'->Gb->Prop) (Q:i'->Gb->Prop),Q (.ref s.ax) { s with heap:=s.heap.push oI }->UB (UP P w) A (pyIter (.ref l)) Q E s) /\
  Walks P w A s.ax [s.ax,l] [s.ax] n Pv St/\St 0 (s.heap.push oI)
theorem IL{val:Nat->F4}{Q:i'->Gb->Prop}(I:A.handled=none)(C:Src P w T l ol n Pv)(p:s.heap.get? l=ih ol)(J:∀i v,Pv i v ->∃t,v=.str (val i) t)(a:n+1<scanBound)
  (h:∀(h':XY) (tk:Nat),dY P w h' s.heap.objs.size (gA val n)->(∀b o,b<s.heap.objs.size->s.heap.get? b=ih o->h'.get? b=ih o)->Q (.ref s.heap.objs.size) { s with heap:=h',toks:=tk }) :
  UB (UP P w) A (call (.type "set") [.ref l]) Q E s:=by
 obtain⟨zc,yc,zb⟩:=fY.mro;have za:=fY.made;have xc:=fY.sub;refine mF (vt ?_);show UB _ _ (callAny (.type "set") _) _ _ _;refine aj ⟨ZZ _ (by decide +kernel),ft aay ?_⟩;rw[ZM (weight_type_call_type "set" [.ref l] []) rfl]
 have xd:=fY.notType;have yd:=fY.canCreate;have zd:=aaI (.ref l)
 repeat (any_goals (first|assumption|wp_step))
 refine jW (wC (.ref l) (E:=E) (Q₁:=λk g=>k=.ref s.heap.objs.size/\g={ s with heap:=s.heap.push (eZ w) }) ⟨rfl,rfl⟩) λr g d=>?_;cases r with
 |error e=>exact d
 |ok K =>
  cases K with
  |ret k =>
   obtain⟨rfl,rfl⟩:=d;have q:(s.heap.push (eZ w)).get? s.heap.objs.size=ih (eZ w):=bG _ rfl;have L:Yr { s with heap:=s.heap.push (eZ w) } (.ref s.heap.objs.size) "set" :=⟨_,q,rfl⟩;have xe:=fY.init.lookup;have ye:=fY.init.bind (.ref s.heap.objs.size)
   repeat (any_goals (first|assumption|wp_step))
   refine jW (FT (R:=wants (λr j=>r=.none /\∃h' tk,j={ s with heap:=h',toks:=tk }/\dY P w h' s.heap.objs.size (gA val n)/\(∀b o,b<s.heap.objs.size->s.heap.get? b=ih o->h'.get? b=ih o)) E) fY.init.plain aaJ (check_set_init_1 L ?_)) λx j c=>?_
   ·have B:(s.heap.push (eZ w)).get? l=ih ol:=aV _ p
    obtain⟨y,xb,yb,ya⟩:=ol;have z:y=.type T:=C.cls;subst z;have ns:=C.ns;have ze:=C.nf;have xf:=C.nd;unfold Ye.«set.__init__» noKeywords YV;generalize D:pyIter=PI
    wp_walk
    subst D;obtain⟨yf,St,it,W,st⟩:=C.iter A.in1.in1.in1 { s with heap:=s.heap.push (eZ w) } (by simp[I]) B
    refine wpAny_of_in1 (it _ _ ?_);refine ae (ry ?_);have M:l<s.heap.objs.size:=a6 p;have N:s.heap.objs.size ∉ [(s.heap.push (eZ w)).objs.size,l]:=by
     rw[fq];simp only[bu,b9,gZ,g0,not_or];exact⟨bp (ji _),hZ M⟩
    refine JJ W.toS s.heap.objs.size N val J a (n - 0) 0 _ (by omega) (ba _) st (JF (aV _ q)) ?_
    intro s' m f;obtain⟨h',O,S,G,H⟩:=s';have U:O=s.gens:=m.gens;have V:S=s.drawn:=m.drawn;have X:H=s.os:=m.os;subst U;subst V;subst X;show UB _ _ _ _ _ _;refine aj ?_;show UB _ _ (ret Vw) _ _ _;refine aj ⟨rfl,h',G,rfl,f,λb o a e=>?_⟩;have b1:b≠s.heap.objs.size:=bp a;have Y:b≠(s.heap.push (eZ w)).objs.size:=by rw[fq];exact bp (gH a)
    exact m.heap b o (by simp only[bu,b9,gZ,g0,not_or];exact⟨b1,Y⟩) (aV _ (aV _ e))
   ·cases x with
    |error e=>exact c
    |ok u =>
     cases u with
     |ret r =>
      obtain⟨rfl,h',tk,rfl,f,F⟩:=c
      repeat (any_goals (first|assumption|wp_step))
      exact h _ _ f F
     |_=>exact c.elim
  |_=>exact d.elim
theorem src_list(a:ol.cls=.type "list")(dt:∃n,ol.data=.seq Qb n):Src P w "list" l ol Qb.size (λi v=>Qb[i]?=ih v) where
 cls:=a
 ns:=F.sub_list_set
 nf:=F.sub_list_frozenset
 nd:=by decide
 iter:=λA s d b=>by
  have c:s.heap.IsList l Qb:=⟨ol,b,a,dt⟩;have lt:=a6 b;exact⟨_,_,λE Q q=>rf c q,ZN d _ l (bp lt) Qb,⟨_,bG _ rfl,rfl,rfl⟩,c.push _⟩
theorem BH(a:ol.cls=.type "tuple")(dt:∃n,ol.data=.seq Qb n):Src P w "tuple" l ol Qb.size (λi v=>Qb[i]?=ih v) where
 cls:=a
 ns:=F.sub_tuple_set
 nf:=F.sub_tuple_frozenset
 nd:=by decide
 iter:=λA s d b=>by
  have c:s.heap.IsTuple l Qb:=⟨ol,b,a,dt⟩;have lt:=a6 b;exact⟨_,_,λE Q q=>wpAny_pyIter_tuple c q,Walks.tuple d _ l (bp lt) Qb,⟨_,bG _ rfl,rfl,rfl⟩,c.push _⟩
theorem jj:Slot "set_iterator" "__next__" "set_iterator.__next__" :=
 Slot.of (owner:= "set_iterator") (n:= "__next__") (by rw[F0,F1];kernel_rfl) (by decide +kernel) (by decide +kernel) (by decide +kernel) (by first|exact .inl (by decide +kernel)|exact .inr (by decide +kernel)) (by rw[F5];kernel_rfl)
theorem GV:entryFor table "set_iterator.__next__" = ih Ye.«set_iterator.__next__» :=entryFor_of_tree (by kernel_rfl)
theorem A4:Manifest.owners.lookup (String.ofList "rotareti_tes".toList.reverse)=ih Manifest.sig_set_iterator:=by kernel_rfl
theorem Ha(a:i'):argsOk "set_iterator.__next__" ⟨[a],[]⟩:=by
 unfold argsOk;rw[signature?_of (id:= "set_iterator.__next__") (n:=['_','_','t','x','e','n','_','_']) (o:= "rotareti_tes".toList) (by kernel_rfl) A4];kernel_rfl
theorem oP:Slot "set_iterator" "__iter__" "set_iterator.__iter__" :=
 Slot.of (owner:= "set_iterator") (n:= "__iter__") (by rw[F0,F1];kernel_rfl) (by decide +kernel) (by decide +kernel) (by decide +kernel) (by first|exact .inl (by decide +kernel)|exact .inr (by decide +kernel)) (by rw[F5];kernel_rfl)
theorem wj:entryFor table "set_iterator.__iter__" = ih Ye.«dict_keyiterator.__iter__» :=entryFor_alias (id':= "dict_keyiterator.__iter__") (by kernel_rfl) rfl (by decide +kernel) (by kernel_rfl)
theorem wu(a:i'):argsOk "set_iterator.__iter__" ⟨[a],[]⟩:=by
 unfold argsOk;rw[signature?_of (id:= "set_iterator.__iter__") (n:=['_','_','r','e','t','i','_','_']) (o:= "rotareti_tes".toList) (by kernel_rfl) A4];kernel_rfl
theorem wx:entryFor table "set.__iter__" = ih Ye.«frozenset.__iter__» :=entryFor_alias (id':= "frozenset.__iter__") (by kernel_rfl) rfl (by decide +kernel) (by kernel_rfl)
abbrev hU(first:i')(i:Nat)(a:FG)(n ep:Nat):Ys:={ cls:=.type "set_iterator",dict:=none,data:=.fields #[first,.int i 0,.ref a,.int n 0,.int ep 0],slots:= #[] }
section
variable{es:Array (Int×i')}{t:X3}
theorem o8{first:i'}{Q:ap i'->Gb->Prop}(b:s.heap.get? I=ih (hU first i a n ep))(k:s.heap.get? a=ih o)(l:o.data=.set es ep t)(m:t.fits es.size=true)(p:es.size=n)
  (body:UB (UP P w) A.in1 (do
   if let .int j _:=first then
    match <- setNext a j.toNat ((i:Int)).toNat ((ep:Int)).toNat with
    |some (x,next) =>
     setField (.ref I) 0 (rawInt next)
     setField (.ref I) 1 (rawInt ((i:Int)+1))
     ret x
    |none=>setField (.ref I) 2 .none;raiseNew (<- newExc (.type "StopIteration") [])
   else
    let ih f <- seqItems? first|unsupported "internal:set_iterator"
    match f[((i:Int)).toNat]? with
    |some (.int g _) =>
     let x <- setNextDrawn a g.toNat ((ep:Int)).toNat
     setField (.ref I) 1 (rawInt ((i:Int)+1))
     ret x
    |some _=>unsupported "internal:set_iterator"
    |none=>setField (.ref I) 0 (rawInt 0);setField (.ref I) 2 .none;raiseNew (<- newExc (.type "StopIteration") []))
   (λc s'=>∃r,c=.done (.ret r)/\Q (ih r) s') (λe s'=>UB (UP P w) A (do if <- isInstance e (.type "StopIteration") then pure none else throw e) Q E s') s):UB (UP P w) A (pyNext (.ref I)) Q E s:=by
 have d:s.TypeIs (.ref I) "set_iterator" :=⟨_,b,rfl⟩;unfold pyNext;refine ae (rk (rj (name:=Yk "__next__") d jj (gV jj d GV ?_ (Ha _))));unfold Ye.«set_iterator.__next__»;refine ae (aj ?_)
 dsimp only
 refine ae (F6 b rfl ?_)
 dsimp only
 refine ae ?_;unfold setEntries;refine ae (cW k l m (aj ?_))
 dsimp only
 rw[ak (by rw[p];simp)]
 refine gU body (λc s' h=>?_) λe s' h=>?_
 ·obtain⟨r,rfl,q⟩:=h
  exact⟨r,rfl,aj q⟩
 ·exact h
theorem A5{Q:ap i'->Gb->Prop}(d:A.handled=none)(q:∀h',(∀b ob,s.heap.get? b=ih ob->h'.get? b=ih ob)->Q none { s with heap:=h' }) :
  UB (UP P w) A.in1 (newExc (.type "StopIteration") [] >>= λe=>(raiseNew e:Zi abj)) (λc s'=>∃r,c=.done (.ret r)/\Q (ih r) s') (λe s'=>UB (UP P w) A (do if <- isInstance e (.type "StopIteration") then pure none else throw e) Q E s') s:=by
 refine ae ?_;simp only[newExc,newTuple];refine ae (e6 ?_ (by size_fits))
 refine ae (m:=firstArgMember _ _) (wpAny_of_eq (a:=Vw) (by first|rfl|(simp only[firstArgMember];rfl)) (e6 ?_ (by size_fits)))
 simp only[raiseNew];refine ae (wpAny_handled ?_);rw[show A.in1.handled=none from d];refine ae (aj (vG ?_));refine ae (F7 (T:= "StopIteration") (b:=true) (show Yr _ _ _ from⟨_,bG _ rfl,rfl⟩) isSubtype_stop ?_);exact aj (q _ λb ob e=>aV _ (aV _ e))
theorem GX{b d:Nat}{x:i'}{Q:ap i'->Gb->Prop}(c:s.heap.get? I=ih (hU (.int b 0) i a n ep))(f:s.heap.get? a=ih o)(g:o.data=.set es ep t)(h:t.fits es.size=true)(j:es.size=n)
  (c2:∀(k:i'->Gb->Prop) (e:ap (i'×Nat)->Gb->Prop),e (ih (x,d)) s->UB (UP P w) A.in1 (setNext a b i ep) e k s)
  (q:∀h',h'.get? I=ih (hU (.int d 0) (i+1) a n ep)->X4 I s.heap h'->Q (ih x) { s with heap:=h' }):UB (UP P w) A (pyNext (.ref I)) Q E s:=by
 refine o8 c f g h j ?_;simp only[iy];refine ae (c2 _ _ ?_);refine ae (iF c (by simp) λU l s1=>?_)
 refine ae (iF l (by simp) λh2 m s2=>?_)
 exact aj ⟨x,rfl,q h2 (by rw[m];simp[rawInt]) (s1.trans s2)⟩
theorem Hb{c:Nat}{Q:ap i'->Gb->Prop}(g:A.handled=none)(d:s.heap.get? I=ih (hU (.int c 0) i a n ep))(h:s.heap.get? a=ih o)(j:o.data=.set es ep t)(k:t.fits es.size=true)(l:es.size=n)
  (c2:∀(m:i'->Gb->Prop) (f:ap (i'×Nat)->Gb->Prop),f none s->UB (UP P w) A.in1 (setNext a c i ep) f m s)
  (q:∀h',(∀b ob,b≠I->s.heap.get? b=ih ob->h'.get? b=ih ob)->Q none { s with heap:=h' }):UB (UP P w) A (pyNext (.ref I)) Q E s:=by
 refine o8 d h j k l ?_;simp only[iy];refine ae (c2 _ _ ?_);refine ae (iF d (by simp) λU u s1=>?_)
 exact A5 g λh2 p=>q h2 λb ob r e=>p b ob (by rw[s1.2 b r];exact e)
theorem GY{pt:FG}{ps:am Nat}{pl:Nat}{z:Int}{x:i'}{Q:ap i'->Gb->Prop}(b:s.heap.get? I=ih (hU (.ref pt) i a n ep))(d:s.heap.get? a=ih o)(e:o.data=.set es ep t)(f:t.fits es.size=true)(k:es.size=n)
  (l:∃op c,s.heap.get? pt=ih op/\op.data=.seq (ps.map λ(j:Nat)=>rawInt j).toArray c) (hi:ps[i]?=ih pl) (m:es[pl]?=ih (z,x))
  (q:∀h',h'.get? I=ih (hU (.ref pt) (i+1) a n ep)->X4 I s.heap h'->Q (ih x) { s with heap:=h' }):UB (UP P w) A (pyNext (.ref I)) Q E s:=by
 refine o8 b d e f k ?_;obtain⟨op,c,g,h⟩:=l
 dsimp only
 simp only[iy];refine ae ?_;unfold seqItems?;refine ae (oB g ?_);rw[h];refine aj ?_
 dsimp only
 have p:(ps.map λ(j:Nat)=>rawInt j).toArray[i]?=ih (rawInt pl):=by simp[hi]
 rw[p];show UB _ _ (setNextDrawn a ((pl:Int)).toNat ep >>= _) _ _ s;rw[iy];unfold setNextDrawn;refine ae (ae (cW d e f ?_))
 dsimp only
 rw[ak (by simp),m]
 refine aj ?_;refine ae (iF b (by simp) λh2 r s2=>?_)
 exact aj ⟨x,rfl,q h2 (by rw[r];simp[rawInt]) s2⟩
theorem Hc{pt:FG}{ps:am Nat}{Q:ap i'->Gb->Prop}(k:A.handled=none)(d:s.heap.get? I=ih (hU (.ref pt) i a n ep))(l:s.heap.get? a=ih o)(m:o.data=.set es ep t)(p:t.fits es.size=true)(r:es.size=n)
  (u:∃op c,s.heap.get? pt=ih op/\op.data=.seq (ps.map λ(j:Nat)=>rawInt j).toArray c) (hi:ps.length<=i)
  (q:∀h',(∀b ob,b≠I->s.heap.get? b=ih ob->h'.get? b=ih ob)->Q none { s with heap:=h' }):UB (UP P w) A (pyNext (.ref I)) Q E s:=by
 refine o8 d l m p r ?_;obtain⟨op,c,g,h⟩:=u
 dsimp only
 simp only[iy];refine ae ?_;unfold seqItems?;refine ae (oB g ?_);rw[h];refine aj ?_
 dsimp only
 have v:(ps.map λ(j:Nat)=>rawInt j).toArray[i]?=none:=by simp;omega
 rw[v];refine ae (iF d (by simp) λU x s1=>?_)
 refine ae (iF x (by simp) λh2 B s2=>?_)
 exact A5 k λy z=>q y λb ob f e=>z b ob (by rw[s2.2 b f,s1.2 b f];exact e)
end
theorem sb{α:Type}(next:Nat->Nat):∀(fuel k:Nat) (left:am α) (out:Array α),left.length=fuel->(YR next fuel k left out).toList.Perm (out.toList++left)
 |0,k,left,out,h=>by
  have:left=[]:=mJ h;subst this;unfold YR;simp
 |fuel+1,k,left,out,h=>by
  have a:next k % left.length<left.length:=vL _ (by omega)
  unfold YR;rw[bA a]
  dsimp only
  refine(sb next fuel (k+1) _ _ (by rw[U8,aw a];omega)).trans ?_
  rw[U5,vr];refine U9 _ ?_;generalize next k % left.length=j at a;have b:∀(l:am α) (j:Nat) (h:j<l.length),(l[j]::l.eraseIdx j).Perm l:=by
   intro l
   induction l with
   |nil=>intro j h;exact absurd h (jh _)
   |cons x l c =>
    intro j h;cases j with
    |zero=>exact g4 _
    |succ j=>exact(Yu _ _ _).trans ((c j (rz h)).cons x)
  exact b left j a
section
variable{xs:am F4}
theorem sZ{α:Type}:∀(m:Nat) (l:am α) {s:Gb}{Q:am α->Gb->Prop},l.length=m->(∀ps d,ps.Perm l->Q ps { s with drawn:=d })->UB (UP P w) A (drawOrder m l) Q E s
 |0,l,s,Q,h,q=>by
  have:l=[]:=mJ h;subst this;unfold drawOrder;exact aj (q [] s.drawn (g4 _))
 |m+1,[],s,Q,h,q=>by simp at h
 |m+1,x::l,s,Q,h,q=>by
  unfold drawOrder;refine ae ?_;have ch:∀{a:Nat->Gb->Prop}{s:Gb},(∀i d,i<(x::l).length->a i { s with drawn:=d })->UB (UP P w) A (choose .order (x::l).length) a E s:=λ{a s} c=>by
   intro Γ p hΓ;exact⟨by simp,c _ _ (vL _ (by simp))⟩
  refine ch λi d hi=>?_;rw[bA hi]
  dsimp only
  refine ae (sZ m _ (by rw[U8,aw hi];omega) λps g e=>aj ?_)
  refine q _ _ ((e.cons _).trans ?_);have b:∀(l:am α) (j:Nat) (h:j<l.length),(l[j]::l.eraseIdx j).Perm l:=by
   intro l
   induction l with
   |nil=>intro j h;exact absurd h (jh _)
   |cons x l f =>
    intro j h;cases j with
    |zero=>exact g4 _
    |succ j=>exact(Yu _ _ _).trans ((f j (rz h)).cons x)
  exact b _ i hi
theorem Ie{es:am (Int×i')}(h:aaR (strKind P w) es):∃ks:am F4,Yd (es.map (·.2)) ks /\∀k,k∈ks ↔ ∃e∈es,(strKind P w).is k e.2=true:=by
 induction es with
 |nil=>exact⟨[],.nil,λk=>(by simp)⟩
 |cons e es c =>
  obtain⟨ks,U,h2⟩:=c h.tail;obtain⟨⟨k,a,_⟩,_⟩:=h.head;obtain⟨t,d⟩:=Fz a;refine⟨k::ks,?_,λy=>?_⟩
  ·rw[bD,d];exact .cons k t U
  ·rw[bu,h2 y]
   constructor
   ·rintro(rfl|⟨b,he,q⟩)
    ·exact⟨e,aT,a⟩
    ·exact⟨b,a8 _ he,q⟩
   ·rintro⟨b,he,q⟩
    rcases bu.mp he with rfl|he
    ·exact .inl ((strKind P w).inj _ _ _ q a)
    ·exact .inr ⟨b,he,q⟩
theorem Al{vs:am i'}(h:Yd us ks)(p:vs.Perm us):∃ys,Yd vs ys/\ys.Perm ks:=by
 induction p generalizing ks with
 |nil=>exact⟨ks,h,g4 _⟩
 |cons x _ e =>
  cases h with
  |cons y t r=>obtain⟨ys,U,h2⟩:=e r;exact⟨y::ys,.cons y t U,h2.cons y⟩
 |swap x y l =>
  cases h with
  |cons a f g =>
   cases g with
   |cons b i j=>exact⟨b::a::_,.cons b i (.cons a f j),Yu _ _ _⟩
 |trans _ _ c d =>
  obtain⟨ys,U,h2⟩:=d h;obtain⟨zs,k,m⟩:=c U;exact⟨zs,k,m.trans h2⟩
theorem ng{vs:am i'}{ys:am F4}(h:Yd vs ys):vs.length=ys.length:=by
 induction h with
 |nil=>rfl
 |cons _ _ _ a=>rw[cD,cD,a]
theorem Hd{a b:am F4}(c:a.Nodup)(d:b.length=a.length)(h:∀x∈a,x∈b):b.Perm a:=by
 induction a generalizing b with
 |nil=>have:b=[]:=mJ d;subst this;exact g4 _
 |cons x a j =>
  rw[eu]at c;have f:=h x aT;have k:=List.perm_cons_erase f;have i:(b.erase x).length=a.length:=by rw[vy f,d];rfl
  have h2:∀y∈a,y∈b.erase x:=λy g=>(vA (show y≠x from λe=>c.1 (by rw[<-e];exact g))).mpr (h y (a8 _ g))
  exact k.trans ((j c.2 i h2).cons x)
structure qA(P:XZ)(w:X7)(a:FG)(vs:List i')(I:FG)(fp:List FG)(h:XY):Prop where
 go:∃St:Nat->XY->Prop,(∀A:Yc,A.handled=none->Walks P w A I fp [I] vs.length (λi v=>vs[i]?=ih v) St)/\St 0 h
theorem o9{es:Array (Int×i')}{t:X3}(j:Nat->Nat){vs:am i'}(C:a≠I)(n:o.data=.set es ep t)(p:t.fits es.size=true)(r:es.size=vs.length)(h0:j 0=0)(D:h.get? a=ih o)(hi:h.get? I=ih (hU (.int 0 0) 0 a vs.length ep))
  (B:∀(A:Yc) (s:Gb) (i:Nat) (v:i') (d:i'->Gb->Prop) (c:ap (i'×Nat)->Gb->Prop),s.heap.get? a=ih o->vs[i]?=ih v->c (ih (v,j (i+1))) s->UB (UP P w) A (setNext a (j i) i ep) c d s)
  (done:∀(A:Yc) (s:Gb) (d:i'->Gb->Prop) (c:ap (i'×Nat)->Gb->Prop),s.heap.get? a=ih o->c none s->UB (UP P w) A (setNext a (j vs.length) vs.length ep) c d s):qA P w a vs I [I,a] h:=by
 refine⟨λi h=>h.get? a=ih o/\h.get? I=ih (hU (.int (j i) 0) i a vs.length ep),λA F=>⟨λb f=>(by simp at f;simp[f]),λi h h' st k=>⟨k a (by simp) _ st.1,k I (by simp) _ st.2⟩,λi s Q E hi st q=>?_,λs Q E st q=>?_,λi s Q E st q=>?_⟩,D,by rw[h0];exact hi⟩
 ·have u:vs[i]?=ih vs[i]:=bA hi
  refine GX st.2 st.1 n p r (λd c l=>B _ _ i _ d c st.1 u l) λh' g x=>?_;exact q _ h' s.toks u ⟨by rw[x.2 a C];exact st.1,g⟩ λb y f e=>by rw[x.2 b (λz=>f (by simp[z]))];exact e
 ·exact Hb F st.2 st.1 n p r (λd c l=>done _ _ d c st.1 l) λh' k=>q h' s.toks λb y f e=>k b y (λz=>f (by simp[z])) e
 ·have m:s.TypeIs (.ref I) "set_iterator" :=⟨_,st.2,rfl⟩
  refine rA m oP (gV oP m wj ?_ (wu _));show UB _ _ (ret (.ref I)) _ _ s;exact aj ⟨_,rfl,"set_iterator",_,m,jj.lookup,q⟩
theorem A6{es:Array (Int×i')}{t:X3}{pt:FG}{ps:am Nat}{vs:am i'}(B:a≠I)(C:pt≠I)(n:o.data=.set es ep t)(p:t.fits es.size=true)(r:es.size=vs.length)(H:ps.length=vs.length)(D:h.get? a=ih o)(hi:h.get? I=ih (hU (.ref pt) 0 a vs.length ep))
  {op:Ys} (F:h.get? pt=ih op) (m:op.data=.seq (ps.map λ(j:Nat)=>rawInt j).toArray c) (y:∀(i:Nat) (v:i'),vs[i]?=ih v ->∃pl z,ps[i]?=ih pl/\es[pl]?=ih (z,v)):qA P w a vs I [I,a,pt] h:=by
 refine⟨λi h=>h.get? a=ih o/\h.get? pt=ih op/\h.get? I=ih (hU (.ref pt) i a vs.length ep),λA G=>⟨λb d=>(by simp at d;simp[d]),λi h h' st k=>⟨k a (by simp) _ st.1,k pt (by simp) _ st.2.1,k I (by simp) _ st.2.2⟩,λi s Q E hi st q=>?_,λs Q E st q=>?_,λi s Q E st q=>?_⟩,D,F,hi⟩
 ·have u:vs[i]?=ih vs[i]:=bA hi
  obtain⟨pl,z,U,h2⟩:=y i _ u;refine GY st.2.2 st.1 n p r ⟨op,c,st.2.1,m⟩ U h2 λh' g f=>?_;exact q _ h' s.toks u ⟨by rw[f.2 a B];exact st.1,by rw[f.2 pt C];exact st.2.1,g⟩ λb x d e=>by rw[f.2 b (λz=>d (by simp[z]))];exact e
 ·exact Hc G st.2.2 st.1 n p r ⟨op,c,st.2.1,m⟩ (by omega) λh' k=>q h' s.toks λb x d e=>k b x (λz=>d (by simp[z])) e
 ·have l:s.TypeIs (.ref I) "set_iterator" :=⟨_,st.2.2,rfl⟩
  refine rA l oP (gV oP l wj ?_ (wu _));show UB _ _ (ret (.ref I)) _ _ s;exact aj ⟨_,rfl,"set_iterator",_,l,jj.lookup,q⟩
end
theorem oZ(j k:Nat):XM #[j] k=if j<k then 1 else 0:=by
 unfold XM;show X5 #[j] k 1 0 1=_;unfold X5
 by_cases h:j<k
 ·simp[h,X5]
 ·simp[h,X5]
theorem wO(k:Nat):XM #[] k=0:=by unfold XM;rfl
section
variable{xs:am F4}
theorem JK{Q:i'->Gb->Prop}(X:dY P w s.heap a xs)(xd:xs.Nodup)
  (q:∀(h':XY) (d':Drawn) (I:FG) (fp:am FG) (vs:am i') (ys:am F4),qA P w a vs I fp h'->Yd vs ys->ys.Perm xs->(∀b∈fp,b=a\/s.heap.objs.size<=b)->I∈fp->(∀b∈fp,b<h'.objs.size)->s.heap.objs.size<=I->(∀b ob,s.heap.get? b=ih ob->h'.get? b=ih ob)->Q (.ref I) { s with heap:=h',drawn:=d' }) :
  UB (UP P w) A (pyIter (.ref a)) Q E s:=by
 have Y:=X.typeIs;obtain⟨o,es,ep,t,l,yf,f,zb,xb,yd,c,xh,yb,xc⟩:=X;have C:=a6 l;obtain⟨ks,H,zd⟩:=Ie zb;have xe:ks.length=xs.length:=by have:=ng H;rw[ar,cb]at this;omega
 have L:ks.Perm xs:=Hd xd xe λx ye=>(zd x).mpr ((xb x).mp ye);refine rA Y vM (gV vM Y wx ?_ (aaz _));unfold Ye.«frozenset.__iter__» YZ YW setEntries setDrawn setsByText;refine ae (ae (aj (aj ?_)));refine ae (ae (ae (cW l f c (aj (aj ?_)))))
 dsimp only
 refine ae (ae (cW l f c ?_));dsimp only;refine ae (ae (eQ (aj (aj ?_))));show UB _ _ (if (!w.params.followText "set-order" && (!t.plain&&decide (es.size>1)))=true then _ else _) _ _ s
 by_cases big:(!w.params.followText "set-order" && (!t.plain&&decide (es.size>1)))=true
 ·
  rw[aw big];refine ae (sZ es.size (UU es.size) (by simp) λps d K=>?_)
  have pl:ps.length=es.size:=by rw[K.length_eq];simp
  refine ae (e6 ?_ (by show(ps.map _).toArray.size<=UJ;rw[bM,ar,pl];exact oH yd))
  refine ae ?_;unfold setEpoch;refine ae (cW (aV _ l) f c (aj ?_))
  dsimp only
  refine ae (e6 (aj ⟨_,rfl,"set_iterator",_,⟨_,bG _ rfl,rfl⟩,jj.lookup,?_⟩));have yc:∀p∈ps,p<es.size:=λp B=>eO.mp (K.mem_iff.mp B)
  let vs:am i':=ps.map λp=>(es.toList.map (·.2)).getD p .none
  have pv:vs.Perm (es.toList.map (·.2)):=by
   have F:(UU es.size).map (λp=>(es.toList.map (·.2)).getD p .none)=es.toList.map (·.2):=by
    apply rv
    ·simp
    ·intro n U h2
     have:n<es.size:=by simpa using U
     simp[this]
   rw[<-F];exact K.map _
  obtain⟨ys,M,N⟩:=Al H pv;have vl:vs.length=es.size:=by show(ps.map _).length=_;rw[ar,pl]
  have c0:(s.heap.push { cls:=.type "tuple",data:=.seq (ps.map λ(i:Nat)=>rawInt i).toArray }).objs.size=s.heap.objs.size+1:=fq ..;refine q _ d _ [_,a,s.heap.objs.size] vs ys (A6 (o:=o) (op:={ cls:=.type "tuple",data:=.seq (ps.map λ(i:Nat)=>rawInt i).toArray }) (ps:=ps) (by rw[c0];exact bp (gH C)) (by rw[c0];exact bp (ji _)) f c vl.symm (by rw[vl,pl]) (aV _ (aV _ l)) ?_ (aV _ (bG _ rfl)) rfl ?_) M (N.trans L) ?_ aT ?_ (by rw[c0];omega) λb ob e=>aV _ (aV _ e)
  ·rw[bG _ rfl,vl];rfl
  ·intro i v u
   have R:(ps.map λp=>(es.toList.map (·.2)).getD p .none)[i]?=ih v:=u;rw[cx]at R;obtain⟨p,B,D⟩:=fe.mp R;have S:=yc p (dQ B);refine⟨p,es[p].1,B,?_⟩;rw[gq S]
   congr 1
   rw[<-D];simp[S]
  ·intro b g
   simp only[bu,gZ,g0]at g;rcases g with rfl|rfl|rfl
   ·exact .inr (by rw[c0];omega)
   ·exact .inl rfl
   ·exact .inr (aG _)
  ·intro b g
   simp only[bu,gZ,g0]at g;rw[fq,c0];rcases g with z|z|z
   ·rw[z,c0];exact ji _
   ·rw[z];exact gH (gH C)
   ·rw[z];exact gH (ji _)
 ·rw[ak big]
  refine ae (aj ?_);refine ae ?_;unfold setEpoch;refine ae (cW l f c (aj ?_))
  dsimp only
  refine ae (e6 (aj ⟨_,rfl,"set_iterator",_,⟨_,bG _ rfl,rfl⟩,jj.lookup,?_⟩));have T:∀b ∈ [s.heap.objs.size,a],b=a\/s.heap.objs.size<=b:=λb g=>by
   simp only[bu,gZ,g0]at g;rcases g with rfl|rfl
   ·exact .inr (aG _)
   ·exact .inl rfl
  have V:∀(ya:Ys),∀b ∈ [s.heap.objs.size,a],b<(s.heap.push ya).objs.size:=λya b g=>by
   simp only[bu,gZ,g0]at g;rw[fq];rcases g with z|z
   ·rw[z];exact ji _
   ·rw[z];exact gH C
  cases m:w.params.followText "set-order" with
  |true =>
   have za:∀next:Nat->Nat,((pickOrder next es).toList.map (·.2)).Perm (es.toList.map (·.2)):=λnext=>by
    unfold pickOrder;have:=sb next es.size 0 es.toList #[] (by simp)
    exact(by simpa using this:(YR next es.size 0 es.toList #[]).toList.Perm es.toList).map _
   obtain⟨ys,M,N⟩:=Al H (za (w.params.setOrder a ep));have vl:=(za (w.params.setOrder a ep)).length_eq;rw[ar,cb,ar,cb]at vl;refine q _ s.drawn _ [_,a] ((pickOrder (w.params.setOrder a ep) es).toList.map (·.2)) ys (o9 (o:=o) (λ_=>0) (bp C) f c (by rw[ar,cb,vl]) rfl (aV _ l) ?_ ?_ ?_) M (N.trans L) T aT (V _) (aG _) λb ob e=>aV _ e
   ·rw[bG _ rfl,ar,cb,vl];rfl
   ·intro A s i v O y h u r
    unfold setNext setsByText;refine ae (cW h f c ?_);dsimp only;refine ae (ae (eQ (aj ?_)));show UB _ _ (if w.params.followText "set-order" = true then _ else _) _ _ _;rw[aw m,ak (by simp)]
    unfold setWalk setsByText;refine ae (ae (cW h f c ?_));dsimp only;refine ae (ae (eQ (aj ?_)));show UB _ _ (if w.params.followText "set-order" = true then _ else _) _ _ _;rw[aw m];refine ae (eQ (aj (aj ?_)));show y (((pickOrder (w.params.setOrder a ep) es)[i]?).map λe=>(e.2,0)) s;rw[cx,iA]at u;obtain⟨e,J,D⟩:=fe.mp u;rw[J];show y (ih (e.2,0)) s;rw[D];exact r
   ·intro A s O y h r
    unfold setNext setsByText;refine ae (cW h f c ?_);dsimp only;refine ae (ae (eQ (aj ?_)));show UB _ _ (if w.params.followText "set-order" = true then _ else _) _ _ _;rw[aw m,ak (by simp)]
    unfold setWalk setsByText;refine ae (ae (cW h f c ?_));dsimp only;refine ae (ae (eQ (aj ?_)));show UB _ _ (if w.params.followText "set-order" = true then _ else _) _ _ _;rw[aw m];refine ae (eQ (aj (aj ?_)));show y (((pickOrder (w.params.setOrder a ep) es)[((pickOrder (w.params.setOrder a ep) es).toList.map (·.2)).length]?).map λe=>(e.2,0)) s;rw[jZ (by simp)]
    exact r
  |false =>
   have yg:es.size<=1:=by
    rw[m]at big
    by_cases z:es.size<=1
    ·exact z
    ·have B:=xc (by omega)
     rw[B]at big;exact absurd (by simp;omega) big
   have W:t.led=true:=by rw[yb,m];rfl
   have zg:t.place.size=es.size:=by
    have:=c;simp only[Zl,gW,fX,rB]at this;exact this.1
   refine q _ s.drawn _ [_,a] (es.toList.map (·.2)) ks (o9 (o:=o) (λi=>if i=0 then 0 else t.place.getD 0 0+1) (bp C) f c (by rw[ar,cb]) rfl (aV _ l) ?_ ?_ ?_) H L T aT (V _) (aG _) λb ob e=>aV _ e
   ·rw[bG _ rfl,ar,cb];rfl
   ·intro A s i v O y h u r
    rw[cx,iA]at u;obtain⟨e,J,D⟩:=fe.mp u;have hi:i<es.size:=(iB.mp J).1;have ze:i=0:=by omega
    subst ze;obtain⟨pl,G⟩:∃j,t.place = #[j]:=by
     have:t.place.size=1:=by omega
     exact⟨t.place[0],by
      apply vN
      ·simp[this]
      ·intro k U h2;have:k=0:=by omega
       subst this;simp⟩
    unfold setNext setsByText;refine ae (cW h f c ?_);dsimp only;refine ae (ae (eQ (aj ?_)));show UB _ _ (if w.params.followText "set-order" = true then _ else _) _ _ _;rw[ak (by rw[m];exact bX)]
    show UB _ _ (if (!t.plain&&decide (es.size>1))=true then _ else _) _ _ _;rw[ak (by simp;omega)]
    show UB _ _ ((if (!t.led && !es.isEmpty)=true then unsupported "set:maker-not-led" else pure ()) >>= _) _ _ _;rw[W,ak (by simp)]
    refine ae (aj ?_);rw[G,aw rfl,oZ,ak (by omega),J]
    refine aj ?_;show y (ih (e.2,pl+1)) s;rw[D];have:(if 0+1=0 then 0 else t.place.getD 0 0+1)=pl+1:=by rw[G];rfl
    rw[this]at r;exact r
   ·intro A s O y h r
    unfold setNext setsByText;refine ae (cW h f c ?_);dsimp only;refine ae (ae (eQ (aj ?_)));show UB _ _ (if w.params.followText "set-order" = true then _ else _) _ _ _;rw[ak (by rw[m];exact bX)]
    show UB _ _ (if (!t.plain&&decide (es.size>1))=true then _ else _) _ _ _;rw[ak (by simp;omega)]
    show UB _ _ ((if (!t.led && !es.isEmpty)=true then unsupported "set:maker-not-led" else pure ()) >>= _) _ _ _;rw[W,ak (by simp)]
    refine ae (aj ?_);have zc:es[XM t.place (if (es.toList.map (·.2)).length=0 then 0 else t.place.getD 0 0+1)]?=none:=by
     rw[ar,cb]
     by_cases z:es.size=0
     ·have:t.place = #[]:=U' (by omega)
      rw[this,wO];exact jZ (by omega)
     ·have F:es.size=1:=by omega
      obtain⟨pl,G⟩:∃j,t.place = #[j]:=by
       have:t.place.size=1:=by omega
       exact⟨t.place[0],by
        apply vN
        ·simp[this]
        ·intro k U h2;have:k=0:=by omega
         subst this;simp⟩
      rw[ak z,G,oZ];have : #[pl].getD 0 0=pl:=rfl;rw[this,aw (by omega)]
      exact jZ (by omega)
    rw[zc];exact aj r
end
end HS
namespace HS
open Spec PyProof.Rows W
section
variable{xs:am F4}
theorem A7{Q:Bool->Gb->Prop}(c:s.TypeIs (.ref a) "set")(h:Q false s):UB (UP P w) A (Y3 (.ref a)) Q E s:=by
 unfold Y3;refine ae (FX c PySem.F.slot_set_len.lookup ?_);generalize d:("set.__len__" : String)=e
 wp_delta
 rw[show splitId e=ih ("set","__len__") from by subst d;decide +kernel];subst d
 refine ae (F7 (T:= "set") (b:=true) c (by rw[F5];kernel_rfl) ?_)
 refine vO (λz=>absurd z (by decide)) λ_=>vO (λ_=>?_) λz=>absurd (by decide +kernel) z
 exact ae (iz c (aj h))
theorem Ig(X:A.handled=none)(p:dY P w s.heap a xs)(Y:xs.Nodup)(S:FG)(v:S≠a)(i:i')(r:Nat)(D:s.heap.get? S=ih { cls:=.type "list",data:=.seq #[] r })
  (F:∀h' d' tk (vs:am i') (ys:am F4) g,(∀b o,b≠S->s.heap.get? b=ih o->h'.get? b=ih o)->h'.get? S=ih { cls:=.type "list",dict:=none,data:=.seq vs.toArray g,slots:= #[] }->Yd vs ys->ys.Perm xs->R (.ok (.ret i)) { s with heap:=h',drawn:=d',toks:=tk }) :
  UB (UP P w) A.in1 (XN (.ref S) (.ref a) i)
   (λN s'=>match N with|.done f=>R (.ok f) s'|.again g=>g.quiet=true/\codeAny (UP P w) A g R s') (λe s'=>R (.error e) s') s:=by
 have E:=p.typeIs;have O:xs.length<scanBound:=by obtain⟨o,es,ep,t,xe,yd,ye,zd,jA,d,ze,xf,_⟩:=p;omega
 unfold XN;refine ae (iz (T:= "set") E ?_);have U:Yp (.ref S) (.ref a)=false:=by simp[Yp,v]
 have h2:(X6 "set" == X6 "list")=false:=by decide
 have ya:(X6 "set" == X6 "tuple")=false:=by decide
 simp only[U,h2,ya,vo,fV,ew];refine ae (JK p Y λh' d' I fp vs ys W G H za yf zf xb k=>?_);obtain⟨St,yb,st⟩:=W.go;have J:=yb A.in1 (by simpa using X)
 have vl:vs.length=xs.length:=by rw[ng G,H.length_eq]
 have x:S ∉ fp:=λz=>by
  rcases za S z with e|e
  ·exact v e
  ·exact absurd (a6 D) (rp.mpr e)
 have zb:Yr { s with heap:=h',drawn:=d' } (.ref a) "set" :=by
  obtain⟨o,e,c⟩:=E;exact⟨o,k _ _ e,c⟩
 refine ae (de (A7 zb ?_));have n:=k _ _ D;have y:∀(h:XY) (l:Nat),St 0 h->(∀b o,b≠S->s.heap.get? b=ih o->h.get? b=ih o)->h.get? S=ih { cls:=.type "list",data:=.seq #[] l } ->
   codeAny (UP P w) A (.builtin "list.extend.loop" ⟨[.ref S,.ref I,i],[]⟩) R { s with heap:=h,drawn:=d' }:=by
  intro h l Q xc L;refine codeAny_extend_loopS J.toS (by rw[vl];exact oH O) S x i vs.length 0 _ #[] l rfl (ba _) Q L (aav _) λs' u g K V m=>?_
  rw[aas K];have yc:u.toList=vs:=by
   apply Va
   intro j;rw[iA]
   by_cases zc:j<vs.length
   ·have B:j<u.size:=by rw[m.1];exact zc
    rw[gq B];exact(m.2 j _ (gq B)).symm
   ·rw[jZ (by rw[m.1];omega),lb (by omega)]
  refine F s'.heap d' s'.toks vs ys g (λb o d e=>K.heap b o (λjA=>?_) (xc b o d e)) (by rw[V,<-yc]) G H
  rcases bu.mp jA with xd|jA
  ·exact d xd
  ·exact absurd (a6 e) (by rw[b9.mp jA];exact rp.mpr xb)
 refine vO (λ_=>?_) (λ_=>aj ⟨gF vP _,y _ r st (λb o _ e=>k b o e) n⟩);refine ae (je (ae ?_));show UB _ _ (updateSeq S (·.push .none) >>= λ_=>updateSeq S (·.pop)) _ _ _;refine ae (vQ n rfl ?_);have q:=mH (XT (·.push Vw)) n rfl;refine vQ (hz:=by seq_fits) q rfl ?_
 have M:=mH (XT (·.pop)) q rfl;have C:∀b o,b≠S->h'.get? b=ih o->((h'.update S (XT (·.push Vw))).update S (XT (·.pop))).get? b=ih o:=λb o d e=>(k6 _ _ (a7 d)).trans ((k6 _ _ (a7 d)).trans e);exact aj ⟨gF vP _,y _ _ (J.frame 0 _ _ st λb d o e=>C b o (λz=>x (z ▸ d)) e) (λb o d e=>C b o d (k b o e)) M⟩
theorem Hu{Q:am i'->Gb->Prop}(d:A.handled=none)(c:dY P w s.heap a xs)(f:xs.Nodup)
  (g:∀h' d' tk (vs:am i') (ys:am F4),(∀b o,s.heap.get? b=ih o->h'.get? b=ih o)->Yd vs ys->ys.Perm xs->Q vs { s with heap:=h',drawn:=d',toks:=tk }):UB (UP P w) A (collect (.ref a)) Q E s:=by
 unfold collect;refine ae (ry (ft F8 ?_));rw[gp F9 _];show UB _ A.in1 (newList [] >>= λl=>again (.builtin "list.__iadd__" ⟨[l,.ref a],[]⟩)) _ _ s;refine ae (e6 (aj ⟨gF oK _,ft F' ?_⟩));rw[gp oK _];show UB _ A.in1 (XN (.ref s.ax) (.ref a) (.ref s.ax)) _ _ _;have h:s.ax≠a:=hZ c.lt;refine Ig (R:=λr s'=>match r with|.ok (.ret v)=>UB (UP P w) A (match v with|.ref a=>(do match (<- load a).data with|.seq xs _=>pure xs.toList|_=>unsupported "internal:collect")|_=>unsupported "internal:collect") Q E s'|.ok _=>False|.error e=>E e s') (s:={ s with heap:=s.heap.push { cls:=.type "list",data:=.seq ([]:am i').toArray } }) d (c.keep λo e=>aV _ e) f _ h _ 0 (bG _ rfl) λh' d' tk vs ys n k i j m=>?_;show UB _ A (load s.ax >>= _) _ _ _;refine ae (oB i (aj ?_));exact g h' d' tk vs ys (λb o e=>k b o (bp (a6 e)) (aV _ e)) j m
theorem Ih{Q:i'->Gb->Prop}(p:A.handled=none)(q:dY P w s.heap a xs)(r:xs.Nodup)(H:xs.length<=63)
  (t:∀D c h' d' tk (vs:am i') (ys:am F4),(∀b o,s.heap.get? b=ih o->h'.get? b=ih o)->(∀b o,s.heap.get? b=ih o->b≠D)->h'.get? D=ih (listOf vs.toArray c)->Yd vs ys->ys.Perm xs->sortedS ys=true->Q (.ref D) { s with heap:=h',drawn:=d',toks:=tk }) :
  UB (UP P w) A (call (.builtin "sorted") [.ref a]) Q E s:=by
 refine Ga kind_sorted plain_sorted entry_sorted (args_sorted1 _) ?_;unfold Ye.«sorted»;refine ae (m:=checkCount "sorted" 1 1 _) (aj (ae (Hu (by simpa using p) q r λU u v vs ys h d i=>?_)))
 have vl:vs.length=xs.length:=by rw[ng d,i.length_eq]
 refine ae (rx ?_ (by rw[aJ];omega))
 have f:(U.push (seqObj "list" vs.toArray 0)).get? U.objs.size=ih (seqObj "list" vs.toArray 0):=bG _ rfl;refine ae (de (gV slot_list_sort ⟨_,f,rfl⟩ entry_list_sort (list_sort_treeK strKind_oneLt f d.keysOf (λF G rest e=>keyKind_strs (by rw[<-e];exact d)) (by omega) λk x y=>⟨_,rfl,?_⟩) (args_list_sort _)))
 obtain⟨l,b1,z,B⟩:=sorted_out_str d x y;obtain⟨c,C⟩:=sortedHeap_at (n:=0) (vs:=vs) (out:=(arrOf k).map (·.2)) f;refine aj ⟨_,rfl,t _ c _ u v _ l (λb o e=>?_) (λb o e=>bp (a6 (h b o e))) (by rw[C]) b1 (z.trans i) B⟩
 have j:=h b o e;have g:=a6 j;rw[sortedHeap_old (bp g) (by rw[size_push'];exact gH g),Heap.get?_push_ne _ _ _ (bp g)]
 exact j
end
end HS
namespace L2
open Spec PyProof.Rows W HS
def jB(P:XZ)(w:X7)(a:FG)(xs:List F4):HO:=.ext λh=>xs.Nodup/\dY P w h a xs
theorem KS{xs:am F4}(b:xs.Nodup)(x:dY P w h a xs):bc P w H h a (jB P w a xs):=
 ⟨⟨b,x⟩,(let ⟨o,_,_,_,e,_⟩:=x;⟨o,e⟩),λ_ _ q k=>⟨q.1,q.2.keep k⟩⟩
theorem Inv.draw{σ:am (Option V)}(I:Inv X J σ H s)(d:Drawn):Inv X J σ H { s with drawn:=d }:=⟨I.ok,I.os,I.bare,I.base,I.loc,I.cell,I.free,I.eG,I.pin,I.aD,I.len⟩
theorem BJ:∀{vs:am i'}{ys:am F4},Yd vs ys ->∀(i:Nat) (v:i'),vs[i]?=ih v ->∃t,v=.str (ys.getD i "") t
 |_,_,.nil,i,v,h=>by simp at h
 |_,_,.cons y t r,0,v,h=>by simp at h;exact⟨t,by rw[<-h];rfl⟩
 |_,_,.cons y t r,i+1,v,h=>by
  obtain⟨t',e⟩:=BJ r i v (by simpa using h)
  exact⟨t',by rw[e];rfl⟩
theorem A8(B:X.calm=true):bY X (.type "set") (λvs H Q=>∃(p:FG) (c:am F4),vs=[.ref p]/\(aq X.K H p (c.map V.str)\/aE X.K H p (c.map V.str))/\c.length<=1000 /\∀a ds,H a=none->ds.Nodup->(∀y,y∈ds ↔ y∈c)->Q (.ref a) (upd H a (jB X.prog X.w a ds))):=by
 rintro J s σ H vs us Q I r ⟨p,c,rfl,hq,O,q⟩;obtain⟨u,rfl,D⟩:=vals1 r;cases D
 have z:∀(its:am i') {T:String}{ol:Ys},Vals (c.map V.str) its->Src X.prog X.w T p ol its.toArray.size (λi v=>its.toArray[i]?=ih v)->s.heap.get? p=ih ol->wA X (call (.type "set") [.ref p]) (EP X J σ Q) X.xe s:=λits {T ol} E C F=>by
  have st:=oU E;have t:its.length=c.length:=ng st;refine IL (val:=λi=>c.getD i "") (I.ok.hd B) C F (λi v G=>BJ st i v (by simpa using G)) (by rw[bM,t];unfold scanBound;omega) λh' tk x k=>?_
  have L:∀b o,s.heap.get? b=ih o->h'.get? b=ih o:=λb o e=>k b o (a6 e) e;have A:=BG (λi=>c.getD i "") its.toArray.size;refine⟨.ref s.heap.objs.size,_,I.laid (t':=tk) L (aG _) (KS A x),rfl,q _ _ (I.aD.fresh (aG _)) A λy=>?_⟩;rw[A3,bM,t]
  constructor
  ·rintro⟨j,d,rfl⟩
   rw[show c.getD j "" = c[j] by simp[d]]
   exact dz d
  ·intro M
   obtain⟨j,d,e⟩:=vR.mp M;exact⟨j,d,by simp[d,e]⟩
 rcases hq with hq|hq
 ·obtain⟨its,g,pl,N⟩:=I.list hq
  obtain⟨o,l,f,n,m⟩:=pl.isList;exact z its g (src_list f ⟨n,m⟩) l
 ·obtain⟨its,g,pl,N⟩:=I.tuple hq
  obtain⟨o,l,f,n,m⟩:=pl;exact z its g (BH f ⟨n,m⟩) l
theorem Hv:bY X (.builtin "len") (λvs H Q=>∃(a:FG) (ds:am F4),vs=[.ref a]/\H a=ih (jB X.prog X.w a ds)/\Q (.int ds.length) H):=by
 rintro J s σ H vs us Q I r ⟨a,ds,rfl,c,q⟩;obtain⟨u,rfl,d⟩:=vals1 r;cases d
 obtain⟨⟨m,o,es,ep,t,e,b,f,l,k,g,i,j,_⟩,_⟩:=(show bc X.prog X.w H s.heap a (jB X.prog X.w a ds) from I.aD a _ c);refine call_len_set e b f i (by unfold scanBound at g;omega) ?_
 rw[<-j]at q;exact⟨.int es.size,H,I.tok _,⟨_,rfl⟩,q⟩
theorem GL(j:X.calm=true):bY X (.builtin "sorted") (λvs H Q=>∃(a:FG) (ds:am F4),vs=[.ref a]/\H a=ih (jB X.prog X.w a ds)/\ds.length<=63 /\∀D d,H D=none->d.Perm ds->sortedS d=true->Q (.ref D) (upd H D (.lst (d.map V.str)))):=by
 rintro J s σ H vs us Q I r ⟨a,ds,rfl,l,g,q⟩;obtain⟨u,rfl,n⟩:=vals1 r;cases n
 obtain⟨⟨t,x⟩,_⟩:=(show bc X.prog X.w H s.heap a (jB X.prog X.w a ds) from I.aD a _ l);obtain⟨m,f,_⟩:=id I.loc;refine Ih (I.ok.hd j) x t g λD c h' v tk B ys k y new st p i=>?_;obtain⟨z,A⟩:=Inv.sorted (t':=tk) (ys:=ys.map V.str) I f (f.at' λo e=>k _ _ e) (λb o _ e=>k b o e) y new (Ak st) (by rw[ar,p.length_eq,aJ];omega)
 exact⟨.ref D,_,A.draw v,rfl,q _ ys z p i⟩
end L2
namespace L2
open W Calls PyProof.Rows
section
variable{α β:Type}{lt:Nat->Nat->Bool}
def hV(lt:Nat->Nat->Bool)(p:Array Nat)(k:Nat):Prop:= ∀i j,i<j->j<k->lt (p.getD i 0) (p.getD j 0)=true
def jN(lt:Nat->Nat->Bool)(p:Array Nat)(k:Nat):Prop:= ∀i j,i<j->j<k->lt (p.getD j 0) (p.getD i 0)=true
theorem Pm.size{p:Array Nat}(h:Pm n p):p.size=n:=by have:=h.length_eq;simpa using this
theorem Pm.ne{p:Array Nat}(h:Pm n p)(hi:i<n)(c:j<n)(e:i≠j):p.getD i 0≠p.getD j 0:=by
 have hs:=h.size;have a:p.toList.Nodup:=h.nodup_iff.mpr vS;intro z;rw[iE,iE,gq (by omega),gq (by omega)]at z
 have b:p.toList[i]'(by simp;omega)=p.toList[j]'(by simp;omega):=by simpa using z
 exact e ((Z8 a).mp b)
theorem A9{p:Array Nat}(a:m<=p.size)(k:Nat)(b:k<m):(kas_rev p 0 m).getD k 0=p.getD (m - 1 - k) 0:=by
 unfold kas_rev;rw[iE,getElem?_mirror_all a,aw ⟨ba _,b⟩,iE,Nat.zero_add]
theorem jN.rev{p:Array Nat}(b:m<=p.size)(a:jN lt p m):hV lt (kas_rev p 0 m) m:=λi j d c=>by
 rw[A9 b i (by omega),A9 b j c]
 exact a _ _ (by omega) (by omega)
theorem A'{p:Array Nat}{k l:Nat}(c:k<p.size)(d:l<=k)(i:Nat):(bubble p k (k - l)).getD i 0=if i=l then p.getD k 0 else if l<i/\i<=k then p.getD (i - 1) 0 else p.getD i 0:=by
 rw[iE,getElem?_bubble c (k - l) (by omega)]
 have:k - (k - l)=l:=by omega
 rw[this]
 by_cases a:i=l
 ·rw[aw a,aw a];exact(iE ..).symm
 ·rw[ak a,ak a]
  by_cases b:l<i/\i<=k
  ·rw[aw b,aw b];exact(iE ..).symm
  ·rw[ak b,ak b];exact(iE ..).symm
end
def bZ(p q:F4):Bool:=decide (p.cps.toList<q.cps.toList)
theorem lB(p:F4):bZ p p=false:=a' (List.lt_irrefl _)
theorem Ck{p q r:F4}(U:bZ p q=true)(h2:bZ q r=true):bZ p r=true:=bq (List.lt_trans (fw U) (fw h2))
theorem KU{p q:F4}(h:p≠q)(f:bZ p q=false):bZ q p=true:=by
 refine bq ?_;have U : ¬ p.cps.toList<q.cps.toList:=of_decide_eq_false f;have h2:q.cps.toList<=p.cps.toList:=aa2.mp U
 by_cases z:q.cps.toList<p.cps.toList
 ·exact z
 ·exact absurd (A0 (a:=p) (b:=q) (aa2.mp z) h2) h
theorem Am{α β:Type}{F:α->β->Prop}{l:am α}{m:am β}(h:XU F l m)(dl:α)(a:β)(i:Nat)(hi:i<l.length):F (l.getD i dl) (m.getD i a):=by
 induction h generalizing i with
 |nil=>exact absurd hi (jh _)
 |cons p _ b =>
  cases i with
  |zero=>exact p
  |succ i=>exact b i (rz hi)
theorem rS{α β γ:Type}{F:α->β->Prop}{f:γ->α}{g:γ->β}:∀{l:am γ},(∀x∈l,F (f x) (g x))->XU F (l.map f) (l.map g)
 |[],_=>.nil
 |x::l,h=>.cons (h x aT) (rS λy a=>h y (a8 _ a))
theorem Cm{lt:Nat->Nat->Bool}{p:Array Nat}(hs:p.size=n)(a:hV lt p n):p.toList.Pairwise λi j=>lt i j=true:=by
 rw[Vb];intro i j hi c b;have U:i<p.size:=by simpa using hi
 have h2:j<p.size:=by simpa using c
 have:=a i j b (by omega)
 rw[iE,iE,gq U,gq h2]at this
 simpa using this
end L2
namespace HS
open Spec PyProof.Rows W
theorem Hw{vs:am i'}{Q:am i'->Gb->Prop}(c:Yg s.heap l vs.toArray)(hz:vs.length<=UJ)(q:∀h',(∀b o,s.heap.get? b=ih o->h'.get? b=ih o)->Q vs { s with heap:=h' }) :
  UB (UP P w) A (collect (.ref l)) Q E s:=by
 obtain⟨o,d,f,n,g⟩:=id c;unfold collect;refine ae (ry (ft F8 ?_));rw[gp F9 _];show UB _ A.in1 (newList [] >>= λz=>again (.builtin "list.__iadd__" ⟨[z,.ref l],[]⟩)) _ _ s;refine ae (rx (aj ⟨gF oK _,ft F' ?_⟩));rw[gp oK _];show UB _ _ (XN (.ref s.heap.objs.size) (.ref l) (.ref s.heap.objs.size)) _ _ { s with heap:=s.heap.push (seqObj "list" #[] 0) };unfold XN;have a:(s.heap.push (seqObj "list" #[] 0)).get? l=ih o:=aV _ d;refine ae (iz (T:= "tuple") ⟨o,a,f⟩ ?_);have h:(X6 "tuple" == X6 "tuple")=true:=by rfl
 rw[aw (by rw[h];simp)]
 refine ae (listItems_at a g (ae (listItems_at (xs:= #[]) (n:=0) (bG _ rfl) rfl ?_)));rw[ak (by simp)]
 refine ae (listUpdate_at (xs:= #[]) (n:=0) (bG _ rfl) rfl (aj ?_) (ba _) (by show(#[]++vs.toArray).size<=UJ+1;simp only[vx,bM,jf];omega))
 show UB (UP P w) A (load s.heap.objs.size >>= _) Q E { s with heap:=(s.heap.push (seqObj "list" #[] 0)).update s.heap.objs.size (XT (· ++ vs.toArray)) };refine ae (oB (get?_update_seq (bG _ rfl) _) ?_);show UB _ _ (pure ((#[]:Array i')++vs.toArray).toList) Q E _;rw[show((#[]:Array i')++vs.toArray).toList=vs by simp]
 refine aj (q _ λb i e=>?_);exact(k6 _ _ (hZ (a6 e))).trans (aV _ e)
end HS
namespace L2
open Spec PyProof.Rows W HS
theorem IM:bY X (.builtin "isinstance") (λxs H Q=>∃(a:FG) (o:Ys) (ys:am V) (c:i') (b:Bool),xs=[.ref a,.ty "tuple"]/\c=.type "tuple" /\ H a=ih (.aX o (.tup ys))/\kitOne X.K (.type "tuple") c=ih b/\Q (.bl b) H):=by
 rintro J s σ H xs us Q I r ⟨a,o,ys,c,b,ex,d,e,f,q⟩;subst ex;subst d;obtain⟨i,j,rfl,g,h⟩:=r.two;cases g
 cases h
 obtain⟨_,_,_,_,pt⟩:=(show bc X.prog X.w H s.heap a (.aX o (.tup ys)) from I.aD a _ e);obtain⟨o',U,h2,_⟩:=pt;exact h1 UG I.cm ⟨o',U,h2⟩ f (λz=>nomatch z) λtk=>⟨.bl b,H,I.tok _,rfl,q⟩
theorem IP:bW X (XR .IsNot) (λx y H Q=>∃a b,x=.bl a/\y=.bl b/\Q (.bl (a != b)) H):=by
 rintro J s σ H x y v u Q I c d ⟨a,b,rfl,rfl,q⟩;cases c;cases d
 exact isnot_bool (ck I q rfl)
theorem Ny{c:am F4}(h:c.Pairwise λa b=>bZ a b=true):c.Pairwise kS:=h.imp λ{a b} z=>by
 have:a.cps.toList<b.cps.toList:=fw z;exact List.le_of_lt this
theorem Nz{c:am F4}(h:c.Pairwise λa b=>bZ a b=true):c.Nodup:=h.imp λ{a b} z e=>by
 subst e;rw[lB]at z;cases z
theorem He{a b:am F4}(c:sortedS a=true)(d:b.Pairwise λx y=>bZ x y=true)(p:a.Perm b):a=b:=vT (λ_ _ _ _ U h2=>A0 U h2) (Ib c) (Ny d) p
end L2
namespace L2
open W Calls PyProof.Rows
structure gO(n:Nat)(lt:Nat->Nat->Bool):Prop where
 tr:∀i j k,i<n->j<n->k<n->lt i j=true->lt j k=true->lt i k=true
 P1:∀i j,i<n->j<n->i≠j->lt i j=false->lt j i=true
def cK{α:Type}(n:Nat)(lt:Nat->Nat->Bool)(φ:α->Prop):KasT α->Prop
 |.ret a=>φ a
 |.ask i j k=>i<n/\j<n/\i≠j/\cK n lt φ (k (lt i j))
section
variable{α β:Type}{lt:Nat->Nat->Bool}
theorem cK.bind{φ:α->Prop}{ψ:β->Prop}{f:α->KasT β}(g:∀a,φ a->cK n lt ψ (f a)):∀{t:KasT α},cK n lt φ t->cK n lt ψ (t.bind f)
 |.ret a,h=>g a h
 |.ask _ _ _,h=>⟨h.1,h.2.1,h.2.2.1,cK.bind g h.2.2.2⟩
theorem cK.wp{φ:α->Prop}{b:Nat->Nat->(Bool->Gb->Prop)->Gb->Prop}{Q:α->Gb->Prop}{s:Gb}(c:∀i j C,i<n->j<n->i≠j->C (lt i j) s->b i j C s):∀{t:KasT α},cK n lt φ t->(∀a,φ a->Q a s)->t.kasWp b Q s
 |.ret a,h,q=>q a h
 |.ask _ _ _,h,q=>c _ _ _ h.1 h.2.1 h.2.2.1 (cK.wp c h.2.2.2 q)
theorem cK.mono{φ ψ:α->Prop}(g:∀a,φ a->ψ a):∀{t:KasT α},cK n lt φ t->cK n lt ψ t
 |.ret a,h=>g a h
 |.ask _ _ _,h=>⟨h.1,h.2.1,h.2.2.1,cK.mono g h.2.2.2⟩
theorem ug{p:Array Nat}(O:gO n lt)(h:Pm n p)(hi:i<n)(a:j<n)(e:i≠j)(f:lt (p.getD i 0) (p.getD j 0)=false):lt (p.getD j 0) (p.getD i 0)=true:=
 O.P1 _ _ (h.lt (by omega) i) (h.lt (by omega) j) (h.ne hi a e) f
theorem IQ{p:Array Nat}(O:gO n lt)(h:Pm n p)(U:1<=m)(d:m<n)(a:hV lt p m)(l:lt (p.getD (m - 1) 0) (p.getD m 0)=true):hV lt p (m+1):=λi j b f=>by
 by_cases e:j<m
 ·exact a i j b e
 ·obtain rfl:j=m:=by omega
  by_cases c:i=j - 1
  ·rw[c];exact l
  ·exact O.tr _ _ _ (h.lt (by omega) _) (h.lt (by omega) _) (h.lt (by omega) _) (a i (j - 1) (by omega) (by omega)) l
theorem IS{p:Array Nat}(O:gO n lt)(h:Pm n p)(U:1<=m)(d:m<n)(a:jN lt p m)(l:lt (p.getD m 0) (p.getD (m - 1) 0)=true):jN lt p (m+1):=λi j b f=>by
 by_cases e:j<m
 ·exact a i j b e
 ·obtain rfl:j=m:=by omega
  by_cases c:i=j - 1
  ·rw[c];exact l
  ·exact O.tr _ _ _ (h.lt (by omega) _) (h.lt (by omega) _) (h.lt (by omega) _) l (a i (j - 1) (by omega) (by omega))
theorem sA{p:Array Nat}(O:gO n lt)(h:Pm n p):∀(f m:Nat),1<=m->m+f<=n->hV lt p m->cK n lt (λr=>m<=r/\r<=m+f/\hV lt p r/\(r<m+f->lt (p.getD r 0) (p.getD (r - 1) 0)=true)) (kas_asc p f m)
 |0,m,U,h2,a=>⟨aG _,aG _,a,λz=>absurd z (by omega)⟩
 |f+1,m,U,h2,a=>⟨h.lt (by omega) _,h.lt (by omega) _,h.ne (by omega) (by omega) (by omega),by
  cases c:lt (p.getD m 0) (p.getD (m - 1) 0) with
  |true=>exact⟨aG _,by omega,a,λ_=>c⟩
  |false =>
   refine cK.mono (λr b=>?_) (sA O h f (m+1) (by omega) (by omega) (IQ O h U (by omega) a (ug O h (by omega) (by omega) (by omega) c)))
   exact⟨by omega,by omega,b.2.2.1,λz=>b.2.2.2 (by omega)⟩⟩
theorem An{p:Array Nat}(O:gO n lt)(h:Pm n p):∀(f m:Nat),1<=m->m+f<=n->jN lt p m->cK n lt (λr:Array Nat×Nat×Nat=>r.1=p/\r.2.2=0/\m<=r.2.1/\r.2.1<=m+f/\jN lt p r.2.1) (kas_desc f p m 0)
 |0,m,U,h2,a=>⟨rfl,rfl,aG _,aG _,a⟩
 |f+1,m,U,h2,a=>⟨h.lt (by omega) _,h.lt (by omega) _,h.ne (by omega) (by omega) (by omega),by
  cases c:lt (p.getD m 0) (p.getD (m - 1) 0) with
  |true =>
   show cK n lt _ (if 0>0 then kas_desc f (kas_rev p (m - (0+1)) m) (m+1) 0 else kas_desc f p (m+1) 0);rw[ak (by omega)]
   refine cK.mono (λr b=>?_) (An O h f (m+1) (by omega) (by omega) (IS O h U (by omega) a c))
   exact⟨b.1,b.2.1,by omega,by omega,b.2.2.2.2⟩
  |false =>
   refine⟨h.lt (by omega) _,h.lt (by omega) _,h.ne (by omega) (by omega) (by omega),?_⟩
   rw[ug O h (by omega) (by omega) (by omega) c]
   exact⟨rfl,rfl,aG _,Gd _ _,a⟩⟩
def qB(n:Nat)(lt:Nat->Nat->Bool)(r:Nat×Array Nat):Prop:=Pm n r.2/\hV lt r.2 r.1/\1<=r.1/\r.1<=n
theorem Ii{p:Array Nat}(O:gO n lt)(h:Pm n p)(U:1<=m)(h2:m<=n)(a:jN lt p m):cK n lt (qB n lt) (kas_tail3 m n p):=
 cK.bind (ψ:=qB n lt) (f:=λk=>.ret (k,kas_rev p 0 m)) (λr b=>(show qB n lt (r,kas_rev p 0 m) from⟨h.rev _ _,b.2.2.1,e5 U b.1,by have:=b.2.1;show r<=n;omega⟩)) (sA O (h.rev 0 m) (n - m) m U (by omega) (a.rev (by rw[h.size];exact h2)))
theorem Ij{p:Array Nat}(O:gO n lt)(u:2<=n)(h:Pm n p):cK n lt (qB n lt) (kas_count n p):=
 (sA O h (n - 1) 1 (aG _) (by omega) (λi j d b=>absurd b (by omega))).bind λm f=>by
  obtain⟨c,v,a,k⟩:=f;show cK n lt _ (if (m==n)=true then _ else if m>1 then _ else _);split
  ·rename_i e
   have:m=n:=by simpa using e
   subst this;exact⟨h,a,c,aG _⟩
  ·rename_i e
   have ne:m≠n:=by simpa using e
   split
   ·rename_i g
    refine⟨h.lt (by omega) _,h.lt (by omega) _,h.ne (by omega) (by omega) (by omega),?_⟩
    rw[a 0 (m - 1) (by omega) (by omega)]
    exact⟨h,a,c,by omega⟩
   ·obtain rfl:m=1:=by omega
    have l:=k (by omega)
    have o:jN lt p 2:=λi j d b=>by
     obtain rfl:j=1:=by omega
     obtain rfl:i=0:=by omega
     exact l
    refine cK.bind (λr q=>?_) (An O h (n - (1+1)) (1+1) (by omega) (by omega) o)
    obtain⟨s,w,x,y,t⟩:=q;show cK n lt _ (if r.2.2>0 then _ else _);rw[ak (by omega),s]
    exact Ii O h (by omega) (by omega) t
theorem rT{p:Array Nat}(O:gO n lt)(h:Pm n p){k:Nat}(d:k<n)(a:hV lt p k):∀(f l r:Nat),r - l<=f->l<=r->r<=k->(∀i,i<l->lt (p.getD i 0) (p.getD k 0)=true)->(∀i,r<=i->i<k->lt (p.getD k 0) (p.getD i 0)=true) ->
  cK n lt (λm=>m<=k/\(∀i,i<m->lt (p.getD i 0) (p.getD k 0)=true) /\∀i,m<=i->i<k->lt (p.getD k 0) (p.getD i 0)=true) (kas_place p k f l r)
 |0,l,r,s,t,b,lo,hi=>by
  obtain rfl:l=r:=by omega
  exact⟨b,lo,hi⟩
 |f+1,l,r,s,t,b,lo,hi=>by
  show cK n lt _ (if l ≥ r then _ else _);split
  ·obtain rfl:l=r:=by omega
   exact⟨b,lo,hi⟩
  ·refine⟨h.lt (by omega) _,h.lt (by omega) _,h.ne (by omega) (by omega) (by omega),?_⟩
   cases c:lt (p.getD k 0) (p.getD ((l+r) / 2) 0) with
   |true =>
    refine rT O h d a f l ((l+r) / 2) (by omega) (by omega) (by omega) lo λi o q=>?_
    by_cases e:i=(l+r) / 2
    ·rw[e];exact c
    ·exact O.tr _ _ _ (h.lt (by omega) _) (h.lt (by omega) _) (h.lt (by omega) _) c (a _ i (by omega) q)
   |false =>
    have g:=ug O h (i:=k) (j:=(l+r) / 2) d (by omega) (by omega) c
    refine rT O h d a f ((l+r) / 2+1) r (by omega) (by omega) b (λi o=>?_) hi
    by_cases e:i=(l+r) / 2
    ·rw[e];exact g
    ·exact O.tr _ _ _ (h.lt (by omega) _) (h.lt (by omega) _) (h.lt (by omega) _) (a i _ (by omega) (by omega)) g
theorem Ba(O:gO n lt):∀(f:Nat) (p:Array Nat) (k:Nat),k+f=n->Pm n p->hV lt p k->cK n lt (λr=>Pm n r/\hV lt r n) (kas_bin f p k)
 |0,p,k,e,h,a=>by
  obtain rfl:k=n:=by omega
  exact⟨h,a⟩
 |f+1,p,k,e,h,a=>(rT O h (by omega) a k 0 k (by omega) (ba _) (aG _) (λi hi=>absurd hi (jh _)) (λi U h2=>absurd h2 (by omega))).bind λl q=>by
  obtain⟨b,s,t⟩:=q;refine Ba O f _ _ (by omega) (h.EK _ _) λi j o v=>?_
  have u:=h.size;rw[A' (by omega) b i,A' (by omega) b j]
  by_cases c:i=l
  ·rw[aw c,ak (by omega),aw (by omega)]
   exact t _ (by omega) (by omega)
  ·rw[ak c]
   by_cases d:l<i/\i<=k
   ·rw[aw d,ak (by omega),aw (by omega)]
    exact a _ _ (by omega) (by omega)
   ·rw[ak d]
    by_cases g:j=l
    ·rw[aw g];exact s i (by omega)
    ·rw[ak g]
     by_cases m:l<j/\j<=k
     ·rw[aw m]
      exact a _ _ (by omega) (by omega)
     ·rw[ak m]
      exact a _ _ o (by omega)
theorem Ao(O:gO n lt)(c:2<=n):cK n lt (λr=>Pm n r/\hV lt r n) (kas_sort n):=
 (Ij O c (g4 _)).bind λr d=>by
  obtain⟨b,a,f,g⟩:=d;show cK n lt _ (if r.1<n then _ else _);split
  ·refine Ba O _ _ _ (by omega) b ?_
   rw[show max r.1 1=r.1 by omega];exact a
  ·obtain e:r.1=n:=by omega
   rw[e]at a;exact⟨b,a⟩
end
end L2
namespace L2
open W Calls PyProof.Rows HS
def cp:List F4->List F4->Bool
 |a::as,b::bs=>if a=b then cp as bs else bZ a b
 |_,_=>false
theorem nD:∀{a b c:am F4},a.length=b.length->b.length=c.length->cp a b=true->cp b c=true->cp a c=true
 |[],_,_,U,_,h,_=>by unfold cp at h;cases h
 |a::as,[],_,U,_,_,_=>by simp at U
 |a::as,b::bs,[],_,h2,_,_=>by simp at h2
 |a::as,b::bs,c::j,U,h2,e,d=>by
  unfold cp at e d⊢
  by_cases g:a=b
  ·rw[aw g]at e
   subst g
   by_cases f:a=c
   ·rw[aw f]at d⊢;exact nD (by simpa using U) (by simpa using h2) e d
   ·rw[ak f]at d⊢;exact d
  ·rw[ak g]at e
   by_cases f:b=c
   ·subst f
    rw[ak g];exact e
   ·rw[ak f]at d
    have t:=Ck e d
    by_cases i:a=c
    ·subst i;rw[lB]at t;cases t
    ·rw[ak i];exact t
theorem s6:∀{a b:am F4},a.length=b.length->a≠b->cp a b=false->cp b a=true
 |[],[],_,h,_=>absurd rfl h
 |[],b::bs,h,_,_=>by simp at h
 |a::as,[],h,_,_=>by simp at h
 |a::as,b::bs,U,h2,c=>by
  unfold cp at c⊢
  by_cases e:a=b
  ·subst e
   rw[aw rfl]at c⊢;exact s6 (by simpa using U) (λz=>h2 (by rw[z])) c
  ·rw[ak e]at c;rw[ak (a7 e)]
   exact KU e c
theorem pA(a b:F4):cp [a] [b]=bZ a b:=by
 unfold cp
 by_cases e:a=b
 ·rw[aw e,e,lB];rfl
 ·rw[ak e]
theorem Ap{a b:F4}{t u:Tok}{c:Bool}{Q:Bool->Gb->Prop}(h:Q (bZ a b) s):UB (UP P w) A (oneLt' c (.str a t) (.str b u)) Q E s:=by
 cases c with
 |true=>exact oneLt_str h
 |false =>
  rw[oneLt'_eq];simp only[fV,ew];exact ae (abD (hY h))
theorem sd{b f:Bool}{Q:Bool->Gb->Prop}:∀{as bs:am F4}{us vs:am i'}{c d:am i'} (i:Nat),Yd us as->Yd vs bs->as.length=bs.length->as≠bs->Q (cp as bs) s->KatLex P w A b f Q ((us++c).zip (vs++d)) i s
 |[],[],_,_,_,_,_,_,_,_,h,_=>absurd rfl h
 |[],_::_,_,_,_,_,_,_,_,h,_,_=>by simp at h
 |_::_,[],_,_,_,_,_,_,_,h,_,_=>by simp at h
 |a::as,j::bs,_,_,c,d,i,.cons _ t U,.cons _ u h2,k,g,q=>by
  unfold cp at q;refine kat_cons (FA ?_)
  by_cases e:a=j
  ·rw[bq e]
   rw[aw e]at q;exact kat_yes (sd (i+1) U h2 (by simpa using k) (λz=>g (by rw[e,z])) q)
  ·rw[a' e]
   rw[ak e]at q;exact kat_no (Ap q)
def dh(H:Hp)(m:Nat)(vs:List V)(kvs:List (List F4×List V)):Prop:=XU (λy p=>∃a,y=V.ref a/\H a=ih (.tup (p.1.map V.str++p.2))/\p.1.length=m) vs kvs
theorem dh.same{kvs:am (List F4×List V)}(h:dh H m vs kvs)(s:ao H Y):dh Y m vs kvs:=Paired.imp' (λ_ _ b=>by obtain⟨a,e,q,l⟩:=b;exact ⟨a,e,s _ _ q,l⟩) h
theorem rV{H:Hp}:∀{ks:am F4}{rest:am V}{its:am i'},Vals (ks.map V.str++rest) its ->∃us a,its=us++a/\Yd us ks
 |[],rest,its,h=>⟨[],its,rfl,.nil⟩
 |k::ks,rest,its,h=>by
  cases h with
  |cons r t =>
   obtain⟨tk,rfl⟩:=r;obtain⟨us,a,e,st⟩:=rV (H:=H) t;exact⟨.str k tk::us,a,by rw[e];rfl,.cons k tk st⟩
theorem Aq{σ:am (Option V)}
  (yj:∀(A:Yc) (E:i'->Gb->Prop) (zg:am i'->Gb->Prop),(X.A.handled=none->A.handled=none)->(∀(its:am i') (s1:Gb) (H:Hp) (ys:am V) (kvs:am (List F4×List V)) (mm:Nat),Inv X J σ H s1->Vals ys its->dh H mm ys kvs->1<=mm->(kvs.map (·.1)).Nodup->ys.length<=63 ->
   (∀D xb za,H D=none->xb.Perm ys->dh H mm xb za->za.Perm kvs->(za.map (·.1)).Pairwise (λa b=>cp a b=true)->Q (.ref D) (upd H D (.lst xb)))->zg its s1)->UB X.ef A (collect (.ref p)) zg E s) :
  wA X (call (.builtin "sorted") [.ref p]) (EP X J σ Q) X.xe s:=by
 refine Ga kind_sorted plain_sorted entry_sorted (args_sorted1 _) ?_;unfold Ye.«sorted»;refine ae (m:=checkCount "sorted" 1 1 _) (aj (ae (yj _ _ _ (λh=>by simpa using h) λits s H ys kvs mm I zb pr yA yq zA q=>?_)))
 have zq:ys.length<=UJ:=by rw[aJ];omega
 have zj:ys.length=kvs.length:=cC pr;have ze:=zb.length;have R:∀(i:Nat),i<its.length ->∃(ks:am F4) (a:FG) (w l:am i'),(kvs.map (·.1))[i]?=ih ks/\its[i]?=ih (.ref a)/\a≠X.env.locals/\Yg s.heap a (w++l).toArray/\Yd w ks/\ks.length=mm:=by
  intro i hi;have xf:i<ys.length:=by omega
  obtain⟨xr,xk,a,yr,xc,yk⟩:=g9 pr (show ys[i]?=ih ys[i] from bA xf);obtain⟨u,yc,l⟩:=zb.get (show ys[i]?=ih (V.ref a) by rw[bA xf,yr])
  cases l
  obtain⟨xC,zr,xh,_⟩:=I.tuple (aE.of xc);obtain⟨w,l,e,st⟩:=rV (H:=H) zr;rw[e]at xh;exact⟨xr.1,a,w,l,by rw[cx,xk];rfl,yc,(λz=>by rw[z,I.free]at xc;cases xc),xh,st,yk⟩
 obtain⟨m,W,_⟩:=id I.loc
 let lt:Nat->Nat->Bool:=λi j=>cp ((kvs.map (·.1)).getD i []) ((kvs.map (·.1)).getD j [])
 have yC:(kvs.map (·.1)).length=its.length:=by rw[ar];omega
 have G:∀i,i<its.length->((kvs.map (·.1)).getD i []).length=mm:=λi hi=>by
  obtain⟨ks,_,_,_,U,_,_,_,_,h2⟩:=R i hi;rw[cE,U];exact h2
 have yf:∀i j,i<its.length->j<its.length->i≠j->(kvs.map (·.1)).getD i []≠(kvs.map (·.1)).getD j []:=λi j hi y K e=>K ((Vc (by omega) yq).mp (by
  rw[cE,cE,bA (by omega),bA (by omega)]at e
  rw[bA (by omega),bA (by omega)]
  exact c4 ih e))
 have O:gO its.length lt:=⟨λi j k hi y xt U h2=>nD ((G i hi).trans (G j y).symm) ((G j y).trans (G k xt).symm) U h2,λi j hi y K f=>s6 ((G i hi).trans (G j y).symm) (yf i j hi y K) f⟩;have zf:∀(h':XY) (D:FG) (c:Nat) (d:Array Nat),(∀b o,b≠X.env.locals->s.heap.get? b=ih o->h'.get? b=ih o)->h'.Ns X.env.locals m->(∀b o,s.heap.get? b=ih o->b≠D)->Pm its.length d->(d.toList.Pairwise λi j=>lt i j=true) ->
   h'.get? D=ih (listOf (d.toList.map λi=>its.getD i Vw).toArray c) ->∃v Y,Inv X J σ Y { s with heap:=h' }/\RelV v (.ref D)/\Q v Y:=by
  intro h' D c d k zk B x xl new;have xg:∀i∈d.toList,i<its.length:=λi hi=>eO.mp (x.mem_iff.mp hi);have yh:(d.toList.map λi=>ys.getD i V.aN).Perm ys:=pN V.aN (by rw[ze];exact x)
  have yl:Pm kvs.length d:=by rw[<-zj,ze];exact x
  have yt:(d.toList.map λi=>kvs.getD i (([],[]):am F4×List V)).Perm kvs:=pN _ yl;have zt:dh H mm (d.toList.map λi=>ys.getD i V.aN) (d.toList.map λi=>kvs.getD i ([],[])):=rS λi hi=>Am pr V.aN ([],[]) i (by have:=xg i hi;omega)
  have xu:(d.toList.map λi=>kvs.getD i ([],[])).map (·.1)=d.toList.map λi=>(kvs.map (·.1)).getD i []:=by
   rw[c5];refine j0 λi hi=>?_;have:i<kvs.length:=by have:=xg i hi;omega
   show(kvs.getD i ([],[])).1=_;rw[cE,cE,cx,bA this];rfl
  have zl:Vals (d.toList.map λi=>ys.getD i V.aN) (d.toList.map λi=>its.getD i Vw):=r9 (λi=>by
   by_cases hi:i<ys.length
   ·obtain⟨u,yc,l⟩:=zb.get (show ys[i]?=ih ys[i] from bA hi)
    rw[cE,cE,yc,bA hi];exact l
   ·rw[cE,cE,lb (by omega),lb (by omega)];trivial) d.toList
  obtain⟨yu,zu⟩:=Inv.sorted (t':=s.toks) I W zk k B new zl (by rw[yh.length_eq];exact zq)
  refine⟨.ref D,_,zu,rfl,q D _ _ yu yh zt yt ?_⟩;rw[xu,ff];exact xl
 refine ae (rx ?_ (by rw[aJ];omega))
 have yb:(s.heap.push (seqObj "list" its.toArray 0)).get? s.heap.objs.size=ih (seqObj "list" its.toArray 0):=bG _ rfl;have B:∀b o,s.heap.get? b=ih o->b≠s.heap.objs.size:=λb o e=>bp (a6 e);refine ae (de (gV slot_list_sort ⟨_,yb,rfl⟩ entry_list_sort ?_ (args_list_sort _)));have keep:∀b o,s.heap.get? b=ih o->(s.heap.push (seqObj "list" its.toArray 0)).get? b=ih o:=λb o e=>aV _ e
 by_cases h2:its.length<2
 ·refine Ai yb h2 λc g zh new=>⟨_,rfl,aj ⟨_,rfl,?_⟩⟩
  refine zf g _ c (UU its.length).toArray (λb o _ e=>zh b o (B b o e) (keep b o e)) (W.at' λo e=>zh _ o (B _ o e) (keep _ o e)) B (g4 _) ?_ ?_
  ·show(UU its.length).Pairwise _
   have:its.length=0\/its.length=1:=by omega
   rcases this with z|z <;> rw[z]
   ·exact YJ
   ·exact Vd _ _
  ·have:(UU its.length).map (λi=>its.getD i Vw)=its:=by
    apply rv
    ·simp
    ·intro i U h2;simp[YD,h2]
   show g.get? s.heap.objs.size=ih (listOf ((UU its.length).map λi=>its.getD i Vw).toArray c);rw[this];exact new
 ·have h2:2<=its.length:=by omega
  obtain⟨M,xm,S⟩:∃M:XY,M.objs.size=0 /\∀b,M.get? b=none:=⟨{ s.heap with objs:= #[] },rfl,λb=>vf (ba _)⟩;have F:Fr M X.env.locals s.heap m:=⟨W,λb o e=>(by rw[S]at e;cases e),by rw[xm];exact ba _⟩
  have N:=AK (g:=M) (L:=X.env.locals) (h:=s.heap);have ym:∃o,s.heap.get? X.env.locals=ih o:=let ⟨o,_,_,e,_⟩:=W;⟨o,e⟩;obtain⟨zC,xv⟩:=ym;refine kat_list_sort (s:={ s with heap:=s.heap.push (seqObj "list" its.toArray 0) }) (F.kept keep) (N.grown keep) yb (a7 (B _ _ xv)) (S _) (λp x=>B p.1 p.2 (lj x).2.2) h2 (by omega) λxD h' yv N'=>?_
  have zv:∀b o,b≠X.env.locals->s.heap.get? b=ih o->h'.get? b=ih o:=λb o n e=>(N' (b,o) (a8 _ (mO n (S b) e))).1;have tk:∀{a:FG}{zs:Array i'},a≠X.env.locals->Yg s.heap a zs->Yg h' a zs:=λn ⟨o,zc,r⟩=>⟨o,zv _ o n zc,r⟩;have xw:∀(vs:am i'),(∀v∈vs,∃a w l ks,v=U3 a/\Yg h' a (w++l).toArray/\Yd w ks/\ks.length=mm) ->∃fs,fs.length=vs.length/\KatTups h' vs fs /\∀f∈fs,∃k t,f=YB k t:=by
   intro vs
   induction vs with
   |nil=>intro _;exact⟨[],rfl,aau,λf P=>(by cases P)⟩
   |cons v vs yw =>
    intro xa;obtain⟨fs,zw,xx,yx⟩:=yw λzx h'=>xa zx (a8 _ h');obtain⟨a,w,l,ks,rfl,⟨o,zc,xy,n,yy⟩,st,zm⟩:=xa v aT;cases st with
    |nil=>simp at zm;omega
    |cons k t r =>
     refine⟨.str k t::fs,by rw[cD,cD,zw],aak zc xy yy (by simp) xx,λf P=>?_⟩
     rcases bu.mp P with z|z
     ·exact⟨k,t,z⟩
     ·exact yx f z
  obtain⟨fs,xB,xn,yn⟩:=xw its λv xa=>by
   obtain⟨i,hi,rfl⟩:=rq xa;obtain⟨ks,a,w,l,_,ya,xd,yd,zd,ye⟩:=R i hi;rw[bA hi]at ya;exact⟨a,w,l,ks,cS ya,tk xd yd,zd,ye⟩
  refine kat_kind (T:=.type "str") xn (by omega) (λf P=>?_) (by decide) ?_
  ·obtain⟨k,t,rfl⟩:=yn f P
   exact aat rfl
  ·refine(Ao O h2).wp (λi j C hi y K xi=>?_) λd x=>?_
   ·obtain⟨k,a,w,l,zy,ya,xd,yd,zd,ye⟩:=R i hi
    obtain⟨yi,yD,yB,zB,zn,xo,yo,zo,xp,yp⟩:=R j y;unfold kas_ask;rw[cE,cE,ya,xo];have zi:(kvs.map (·.1)).getD i []=k:=by rw[cE,zy];rfl
    have xj:(kvs.map (·.1)).getD j []=yi:=by rw[cE,zn];rfl
    have xz:lt i j=cp k yi:=by show cp ((kvs.map (·.1)).getD i []) ((kvs.map (·.1)).getD j [])=_;rw[zi,xj]
    have ne:=yf i j hi y K;rw[zi,xj]at ne;rw[xz]at xi;obtain⟨ox,yz,_,zD,dx⟩:=tk xd yd;obtain⟨xE,zz,_,yE,xA⟩:=tk yo zo;exact kat_lt yz dx zz xA (sd 0 zd xp (ye.trans yp.symm) ne xi)
   ·refine Zw yv N' (Z6 λp x=>?_) λzp c xq yg=>?_
    ·exact B p.1 p.2 (lj x).2.2
    ·refine⟨_,rfl,aj ⟨_,rfl,?_⟩⟩
     exact zf zp _ c d (λb o n e=>(yg (b,o) (a8 _ (mO n (S b) e))).1) xq.ns B x.1 (Cm x.1.size x.2) (yg _ aT).1
theorem oQ:bY X (.builtin "sorted") (λxs H Q=>∃(p:FG) (ys:am V) (kvs:am (List F4×List V)) (m:Nat),xs=[.ref p]/\(aq X.K H p ys\/aE X.K H p ys)/\dh H m ys kvs/\1<=m/\(kvs.map (·.1)).Nodup/\ys.length<=63 /\
  ∀D f d,H D=none->f.Perm ys->dh H m f d->d.Perm kvs->(d.map (·.1)).Pairwise (λa b=>cp a b=true)->Q (.ref D) (upd H D (.lst f))):=by
 rintro J s σ H xs us Q I r ⟨p,ys,kvs,i,ex,hq,pr,g,j,h,q⟩;subst ex;obtain⟨u,rfl,n⟩:=vals1 r;cases n
 refine Aq λA E v _ l=>?_;rcases hq with hq|hq
 ·obtain⟨its,c,pl,t⟩:=I.list hq
  have:=c.length;exact collect_list pl.isList (l its _ H ys kvs i (I.kept (t':=s.toks) λb o e=>(k6 _ _ (hZ (a6 e))).trans (aV _ e)) c pr g j h q) (by rw[aJ];omega)
 ·obtain⟨its,c,pl,t⟩:=I.tuple hq
  have:=c.length;exact Hw pl (by rw[aJ];omega) λh' k=>l its _ H ys kvs i (I.kept (t':=s.toks) k) c pr g j h q
end L2
namespace L2
open Spec PyProof.Rows W
mutual
inductive Dt(p:FG)(H:Hp):V->UA->Prop where
 |aN:Dt p H .aN .none
 |bl (b:Bool):Dt p H (.bl b) (.bool b)
 |int (i:Int):Dt p H (.int i) (.int i)
 |str (x:F4):Dt p H (.str x) (.str x)
 |lst {a:FG}{xs:List V}{ds:List UA}:a≠p->H a=ih (.lst xs)->bU p H xs ds->Dt p H (.ref a) (.list ds)
 |tup {a:FG}{xs:List V}{ds:List UA}:a≠p->H a=ih (.tup xs)->bU p H xs ds->Dt p H (.ref a) (.tuple ds)
 |qW {a:FG}:a≠p->H a=ih (.dK [])->Dt p H (.ref a) (.dict [])
inductive bU(p:FG)(H:Hp):List V->List UA->Prop where
 |nil:bU p H [] []
 |cons {x:V}{d:UA}{xs:List V}{ds:List UA}:Dt p H x d->bU p H xs ds->bU p H (x::xs) (d::ds)
end
section
mutual
theorem Dt.keep(k:∀b o,H b=ih o->b≠p->Y b=ih o):∀{v:V}{d:UA},Dt p H v d->Dt p Y v d
 |_,_,.aN=>.aN
 |_,_,.bl b=>.bl b
 |_,_,.int i=>.int i
 |_,_,.str x=>.str x
 |_,_,.lst n e a=>.lst n (k _ _ e n) (bU.keep k a)
 |_,_,.tup n e a=>.tup n (k _ _ e n) (bU.keep k a)
 |_,_,.qW n e=>.qW n (k _ _ e n)
theorem bU.keep(k:∀b o,H b=ih o->b≠p->Y b=ih o):∀{vs:am V}{ds:am UA},bU p H vs ds->bU p Y vs ds
 |_,_,.nil=>.nil
 |_,_,.cons r a=>.cons (Dt.keep k r) (bU.keep k a)
end
theorem bU.length:∀{vs:am V}{ds:am UA},bU p H vs ds->vs.length=ds.length
 |_,_,.nil=>rfl
 |_,_,.cons _ a=>by rw[cD,cD,bU.length a]
theorem bU.get:∀{vs:am V}{ds:am UA},bU p H vs ds ->∀{i:Nat}{d:UA},ds[i]?=ih d ->∃v,vs[i]?=ih v/\Dt p H v d
 |_,_,.nil,i,v,h=>by cases h
 |_,_,.cons r a,0,v,h=>by cases h;exact⟨_,rfl,r⟩
 |_,_,.cons r a,i+1,v,h=>bU.get a (by simpa using h)
end
def i8:UA->String
 |.none => "NoneType"
 |.bool _ => "bool"
 |.int _ => "int"
 |.str _ => "str"
 |.list _ => "list"
 |.tuple _ => "tuple"
 |.dict _ => "dict"
def dw(T:String)(d:UA):Bool:=i8 d==T||(i8 d == "bool" && T == "int")
theorem Dt.ty{d:UA}(r:Dt p H v d):gc K H v (.type (i8 d)):=by
 cases r with
 |aN=>exact .aN
 |bl b=>exact .bl b
 |int i=>exact .int i
 |str x=>exact .str x
 |lst n e _=>exact .lst e
 |tup n e _=>exact .tup e
 |qW n e=>exact .dK e
theorem KW(K:Yh)(d:UA):kitOne K (.type (i8 d)) (.type "int")=ih (dw "int" d):=by cases d <;> rfl
theorem JL(K:Yh)(d:UA):kitOne K (.type (i8 d)) (.type "bool")=ih (dw "bool" d):=by cases d <;> rfl
theorem lJ(K:Yh)(d:UA):kitOne K (.type (i8 d)) (.type "str")=ih (dw "str" d):=by cases d <;> rfl
theorem kit_tuple(K:Yh)(d:UA):kitOne K (.type (i8 d)) (.type "tuple")=ih (dw "tuple" d):=by cases d <;> rfl
theorem ic{d:UA}(a:∀(K:Yh) (d:UA),kitOne K (.type (i8 d)) (.type T)=ih (dw T d))(r:Dt p H v d)(q:Q (.bl (dw T d)) H) :
  (∃x,(∃C,[v,V.ty T]=[x,.ref C])\/(∃b,[v,V.ty T]=[x,.ty b]))/\DG K [v,.ty T] H Q:=⟨⟨v,.inr ⟨T,rfl⟩⟩,v,.ty T,.type (i8 d),.type T,_,rfl,rfl,.inl r.ty,a K d,q⟩
end L2
namespace HT
open PyProof.Rows
section
open SeqAt
open AutoSeq1 (wpAny_loadPart')
open MeetsSeq MeetsSeq2 MeetsSeq3
end
end HT
namespace L2
open Spec PyProof.Rows W HT
def NA:R2:=λx y H Q=>∃a b xs,x=.ref a/\y=.ref b/\H a=ih (.lst xs)/\H b=ih (.lst [])/\Q (.bl (!xs.isEmpty)) H
theorem KY(p:X.A.units+64<Yq):bW X (XR .NotEq) NA:=by
 rintro J s σ H x y v u Q I f g ⟨a,b,xs,rfl,rfl,k,l,q⟩;cases f;cases g
 obtain⟨its,m,pl,_⟩:=I.list (aq.of k);obtain⟨o,d,c,_⟩:=I.list (aq.of l);cases d
 have e:xs.length=its.length:=m.length;cases xs with
 |nil =>
  have n:its=[]:=List.length_eq_zero_iff.mp e.symm;subst n;exact abn (e:=λ_=>true) pl.isList c.isList rfl (by omega) (λj U h2=>absurd h2 (by simp)) X.prog X.w X.xe _ ⟨.bl _,H,I,rfl,q⟩
 |cons x xs =>
  refine abm pl.isList c.isList ?_ (by omega) X.prog X.w X.xe _ ⟨.bl _,H,I,rfl,q⟩
  cases its with
  |nil=>cases e
  |cons i its=>simp
section
mutual
theorem Dt.reads(I:Inv X J σ H s):∀{v:V}{d:UA}{u:i'},Dt p H v d->RelV v u ->∃as,Reads s.heap u d as
 |_,_,_,.aN,r=>by cases r;exact⟨_,.none⟩
 |_,_,_,.bl b,r=>by cases r;exact⟨_,.bool b⟩
 |_,_,_,.int i,r=>by obtain⟨t,rfl⟩:=r;exact⟨_,.int i t⟩
 |_,_,_,.str x,r=>by obtain⟨t,rfl⟩:=r;exact⟨_,.str x t⟩
 |_,_,_,.lst (a:=a) (xs:=xs) _ e f,r=>by
  cases r
  obtain⟨_,its,n,g,c⟩:=(show bc X.prog X.w H s.heap a (.lst xs) from I.aD a _ e);obtain⟨as,j⟩:=bU.reads I f g;exact⟨_,.list c rfl rfl j⟩
 |_,_,_,.tup (a:=a) (xs:=xs) _ e f,r=>by
  cases r
  obtain⟨_,its,g,C,c,m,n,q,_⟩:=(show bc X.prog X.w H s.heap a (.tup xs) from I.aD a _ e);obtain⟨as,j⟩:=bU.reads I f g;exact⟨_,.tuple c m q j⟩
 |_,_,_,.qW (a:=a) _ e,r=>by
  cases r
  obtain⟨_,_,vs,y,o,es,ep,z,A,B,_,k,_⟩:=(show bc X.prog X.w H s.heap a (.dK []) from I.aD a _ e);cases y
  have l:es.toList=[]:=by cases h:es.toList with
   |nil=>rfl
   |cons a b=>rw[h]at k;cases k
  exact⟨_,.dict (kvs:=[]) z A.1 B (by rw[l];exact .nil) (by rw[l];exact .nil)⟩
theorem bU.reads(I:Inv X J σ H s):∀{vs:am V}{ds:am UA}{us:am i'},bU p H vs ds->Vals vs us ->∃as,ReadsAll s.heap us ds as
 |_,_,_,.nil,r=>by cases r;exact⟨_,.nil⟩
 |_,_,_,.cons r a,b=>by
  cases b with
  |cons q c =>
   obtain⟨as,U⟩:=Dt.reads I r q;obtain⟨bs,h2⟩:=bU.reads I a c;exact⟨_,.cons U h2⟩
end
end
end L2
namespace HS
open Spec PyProof.Rows W
end HS
namespace L2
open Spec PyProof.Rows W HS
end L2
namespace L2
open W Spec PyProof.Rows
end L2
namespace L2
open W
end L2
namespace L2
open W Spec PyProof.Rows
def kA(h:XY)(d:FG)(es:Array YA)(ep:Nat):Prop:= ∃o,h.get? d=ih o/\o.ExactDict/\o.data=.dict es ep
theorem kA.ty{es:Array YA}(x:kA s.heap d es ep):s.TypeIs (.ref d) "dict" :=let ⟨o,e,c,_⟩:=x;⟨o,e,c.1⟩
theorem Paired.get{α β:Type}{F:α->β->Prop}{l:am α}{m:am β}(h:XU F l m):∀{i:Nat}{a:α},l[i]?=ih a ->∃b,m[i]?=ih b/\F a b:=by
 induction h with
 |nil=>intro i a e;cases e
 |cons r _ c =>
  intro i a e;cases i with
  |zero=>cases e;exact⟨_,rfl,r⟩
  |succ i=>exact c (by simpa using e)
theorem Inv.KZ{σ:am (Option V)}{kvs:am (List Key×V)}(I:Inv X J σ H s)(g:H d=cr kvs)(i:s.heap.get? d=ih o):Inv X J σ (upd H d (.aX o (.dT kvs))) s:=by
 have ok:bc X.prog X.w H s.heap d (.dT kvs):=I.aD d _ g;have a:∀{b:FG}{u:HO},H b=ih u->u ≠ .dT kvs->b≠d:=λe n z=>by rw[z,g]at e;exact n (cS e).symm
 refine I.un (h':=s.heap) (t':=s.toks) ⟨λb f q _ _ _=>q,λb f q _ _ _=>⟨f.slots,q⟩,λb f q n _=>?_,λb f q _=>⟨f,q⟩,λb xs e=>?_,λb f u e=>?_,λb ps e=>⟨#[],?_⟩⟩ λb u e=>?_
 ·rw[ai (λz=>by rw[z,g]at n;cases n)];exact n
 ·rw[ai (a e (by intro z;cases z))];exact e
 ·rw[ai (a e (by intro z;cases z))];exact e
 ·rw[ai (a e (by intro z;cases z)),e];simp
 ·by_cases h:b=d
  ·subst h
   rw[ah]at e;cases e
   exact⟨i,ok.en (λ_ _ _ q=>q) (λc q=>by rw[ai (a q (by intro z;cases z))];exact q) λc xs q=>by rw[ai (a q (by intro z;cases z))];exact q⟩
  ·rw[ai h]at e
   exact(I.aD b u e).en (λ_ _ _ q=>q) (λc q=>by rw[ai (a q (by intro z;cases z))];exact q) λc xs q=>by rw[ai (a q (by intro z;cases z))];exact q
theorem Inv.NB{σ:am (Option V)}{kvs:am (List Key×V)}(I:Inv X J σ H s)(i:H d=ih (.aX o (.dT kvs)))(h0:∀o u,X.gN d≠ih (.aX o u)):Inv X J σ (upd H d (.dT kvs)) s:=by
 obtain⟨_,ok⟩:=(show bc X.prog X.w H s.heap d (.aX o (.dT kvs)) from I.aD d _ i);have a:∀{b:FG}{u:HO},H b=ih u->u ≠ .aX o (.dT kvs)->b≠d:=λe n z=>by rw[z,i]at e;exact n (cS e).symm
 have f:∀{b:FG},H b=none->upd H d (.dT kvs) b=none:=λ{b} e=>by rw[ai (λz=>by rw[z,i]at e;cases e)];exact e
 refine⟨I.ok,I.os,I.bare,⟨I.base.keep,I.base.slot,λb g e n k=>f (I.base.free b g e n k),I.base.there,λb xs e=>?_,λb g u e=>?_,λb ps e=>?_⟩,I.loc,I.cell,f I.free,λx c e=>f (I.eG x c e),λp l=>?_,λb u e=>?_,I.len⟩
 ·rw[ai (a (I.base.gx b xs e) (by intro z;cases z))];exact I.base.gx b xs e
 ·have h:b≠d:=λz=>h0 g u (z ▸ e)
  rw[ai h];exact I.base.gM b g u e
 ·obtain⟨more,j⟩:=I.base.hH b ps e
  exact⟨more,by rw[ai (a j (by intro z;cases z))];exact j⟩
 ·obtain⟨m,r,t⟩:=I.pin p l
  exact⟨m,f r,t⟩
 ·by_cases h:b=d
  ·subst h
   rw[ah]at e;cases e
   exact ok.en (λ_ _ _ q=>q) (λc q=>by rw[ai (a q (by intro z;cases z))];exact q) λc xs q=>by rw[ai (a q (by intro z;cases z))];exact q
  ·rw[ai h]at e
   exact(I.aD b u e).en (λ_ _ _ q=>q) (λc q=>by rw[ai (a q (by intro z;cases z))];exact q) λc xs q=>by rw[ai (a q (by intro z;cases z))];exact q
def NC(H0:Hp)(t:TE):TE:=λσ H Q=>t σ H λv Y=>∃d o kvs,Y d=ih (.aX o (.dT kvs))/\(∀o u,H0 d≠ih (.aX o u))/\Q v (upd Y d (.dT kvs))
theorem K0(a:PE X e te):PE X e (NC X.gN te):=by
 intro J s σ H Q I h;exact aI (a J s σ H _ I h) λv s1 ⟨y,H1,b,c,d,o,kvs,f,h0,q⟩=>⟨y,_,b.NB f h0,c,q⟩
end L2
namespace HT
open PyProof.Rows W
open AutoSeq1 (wpAny_loadPart')
end HT
namespace L2
open Spec PyProof.Rows W HT
end L2
namespace L2
open W Spec PyProof.Rows
end L2
namespace L2
open Spec PyProof.Rows W
structure iT(k:Nat)(A:Yc):Prop where
 dp:A.depth+3 * k+5<recursionLimit
 un:A.units+16 * k+200<Yq
 gd:A.guards=ih []
theorem aQ.marked{k:Nat}(r:aQ k A)(v:ap i'):iT k (A.mark v):=⟨r.dp,r.un,r.gd⟩
theorem iT.deeper{k:Nat}(r:iT (k+1) A)(env:Y5):iT k (A.deeper env):=
 ⟨by have:=r.dp;show A.depth+1+3 * k+5<_;omega,by have:=r.un;show A.units+3+16 * k+200<_;omega,by first|exact r.gd|simp[aam,r.gd]⟩
theorem iT.depth{k:Nat}(r:iT k A):A.depth<recursionLimit:=by have:=r.dp;omega
def p0(P:XZ)(w:X7)(K:Yh)(mg:F4->Option i')(base:XY)(N:List F4)(qual:F4)(scope:YL)(f:FG)(cd:i')(A:Yc)(outer:List Y5)(s:Gb)(H:Hp)(E:XK):Cx:=
 { ec aC P w K mg base N qual scope f cd A outer s H E with calm:=false }
structure p1(P:XZ)(w:X7)(K:Yh)(mg:F4->Option i')(base:XY)(k:Nat)(f:FG)(fd:XX)(ps:List F4)(sp:Option i'->Sp):Prop where
 len:∀x vs H Q E,sp x vs H Q E->vs.length=ps.length
 run:∀(A:Yc) (outer:List Y5) (s:Gb) (H:Hp) (args:Args) (us:List i') (vs:List V) (Q:VK) (E:XK),iT k A->l6 P w K mg base A outer s H->Zm s fd args (ps.zip us)->Vals vs us->sp A.handled vs H Q E ->
  codeAny (UP P w) A (.call (.ref f) args) (CR aC outer P w H s Q E) s
theorem Ik{E:XK}
  (I:Inv (ec aC P w K mg base N qual scope f cd { A with handled:=none } outer s H E) J σ H1 s1):Inv (p0 P w K mg base N qual scope f cd A outer s H E) J σ H1 s1:=
 ⟨⟨I.ok.mod,I.ok.kind,I.ok.glob,I.ok.blt,I.ok.above,I.ok.inj,I.ok.has,I.ok.i6,(λz=>Z' (show false=true from z)),I.ok.frames,I.ok.jG,I.ok.jH,I.ok.bs,I.ok.gS,I.ok.iY,I.ok.iZ,I.ok.fb,I.ok.hQ⟩,I.os,I.bare,I.base,I.loc,I.cell,I.free,I.eG,I.pin,I.aD,I.len⟩
theorem aR.P2{st:VC}{k:Nat}{sp:ap i'->Sp}(F:aR K x qual st f fd)(S:bg N ps (aH st))(h:∀x vs H Q E,sp x vs H Q E->vs.length=ps.length)
  (p:∀(Qc:i') (A:Yc) (outer:am Y5) (s:Gb) (H:Hp) (vs:am V) (Q:VK) (E:XK),iT k (A.deeper (envOfC qual (aH st) s.ax f Qc))->sp A.handled vs H Q E ->
   ∃t,dr (p0 P w K mg base N qual (aH st) f Qc A outer s H E) (bE st) t/\t { nx:=λ_ Y=>Q .aN Y,rt:=Q } (start N vs) H):p1 P w K mg base (k+1) f fd ps sp:=by
 obtain⟨oc,od,kV,Qg,pm,an,Qc,ct,Qn,rfl,lk,B⟩:=F.ex;refine⟨h,λA outer s H args us vs Q E l a G r i=>?_⟩;have J:=h _ _ _ _ _ i;have m:K.In s.heap:=a.mod.kL.keeps λb o e=>(a.bs b o e).1;have C:s.heap.NoLimit:=a.mod.nolimit.keeps λb o e=>(a.bs b o e).1;have z:∀y∈ps.zip us,(aH st).names.lookup y.1=ih .local\/((aH st).names.lookup y.1=ih .cell/\((cellsFrom (s.ax+1) (aH st).names []).lookup y.1).isSome=true):=λ⟨n,v⟩ L=>by
  rcases S.par n (vi L).1 with q|q
  ·exact .inl q
  ·exact .inr ⟨q,FE _ _ _ (.inl q)⟩
 refine codeAny_call_function l.depth (m _ _ lk) rfl S.co S.gen rfl (UK m B) (G _ _ _ _ ?_);refine UL S.kind z λenv M s1 x=>?_;subst M;refine⟨C.keeps x.toInCall.keep,codeAny_func ?_⟩;obtain⟨t,O,R⟩:=p Qc A outer s H vs Q E (l.deeper _) i;have D:l6 P w K mg base { A with handled:=none } outer s H:=⟨a.frames,a.mod,a.bs,a.gS,a.fb,a.hQ,a.aD,a.bare⟩;have I:Inv (p0 P w K mg base N qual (aH st) f Qc A outer s H E) [] (start N vs) H s1:=Ik (yZ S rfl D J r x);refine gU (O [] s1 (start N vs) H _ I R) (λT s' hs=>?_) λe s' hs=>hs;have j:∀{d:St}{Y:Hp}{v:V}{u:i'},Inv (p0 P w K mg base N qual (aH st) f Qc A outer s H E) [] d Y s'->RelV v u->Q v Y->CE outer P w H s Q u s':=
  λ{d Y v u} c g q=>⟨v,Y,c.os,c.bare,c.base,c.aD,g,q⟩
 cases T with
 |ret u =>
  obtain⟨v,d,Y,c,g,q⟩:=hs;exact j c g q
 |next =>
  obtain⟨d,Y,c,q⟩:=hs;exact j (v:=V.aN) (u:=Vw) c rfl q
 |brk =>
  obtain⟨_,_,_,q⟩:=hs;exact Vs q
 |cont =>
  obtain⟨_,_,_,q⟩:=hs;exact Vs q
end L2
namespace L2
open Spec PyProof.Rows W HT
def nT(H:Hp)(x:Option i'):Prop:= ∃a C dx,x=ih (.ref a)/\(H a=ih (fG (ih .none) C dx a) \/∃c C' P4,H a=ih (fG (ih (.ref c)) C dx a)/\c≠a/\H c=ih (fG (ih .none) C' P4 c))
theorem nT.same{x:ap i'}(t:nT H x)(s:∀b o,H b=ih o->Y b=ih o):nT Y x:=by
 obtain⟨a,C,dx,e,h|⟨c,f,d,U,n,h2⟩⟩:=t
 ·exact⟨a,C,dx,e,.inl (s _ _ h)⟩
 ·exact⟨a,C,dx,e,.inr ⟨c,f,d,s _ _ U,n,s _ _ h2⟩⟩
section
variable{k:Nat}{sp:ap i'->Sp}{E:XK}{p:ZV}{t:TA}
theorem JM(F:p1 X.prog X.w X.K X.mg X.base k f fd ps sp)(i:iT k X.A)(j:Gl X x)(l:X.mg x=ih (.ref f))(m:Yb X.K (.ref f)=true)(n:Binds X.K fd ps [])(o:Passes aC X E)
  (v:PA X (e::es) t) (d:(x==("__debug__" : F4))=false:=by decide) (y:U6 (e::es) X.env=(false,eval e X.env)::U6 es X.env:=by rfl) (g:(backTo pos (U6 es X.env)).any (·.1)=false:=by rfl) :
  PE X (.Call (.Name x p) (e::es) [] pos) (pZ (sp X.A.handled) [] E t):=by
 intro J s σ H Q I h;refine mG (lF I j l ?_ d);refine callWith_K (h₀:=X.base) I.ok.mod.kL m (aI (v pos J s σ H _ I h) λus s1 ⟨vs,H1,a,r,q⟩=>⟨a.cm,?_⟩) y g;replace q:sp X.A.handled vs H1 Q E:=by have z:sp X.A.handled (vs++[]) H1 Q E:=q;rwa [ei]at z
 have B:us.length=ps.length:=by rw[<-r.length];exact F.len _ _ _ _ _ q
 have c:=n s1 us a.cm (by rw[ei];exact B)
 rw[ei]at c;refine mF (jW (F.run X.A X.stack s1 H1 ⟨us,[]⟩ us vs Q E i a.uC c r q) λr s' b=>?_);cases r with
 |error e=>exact o J σ H1 s1 e s' a b
 |ok C =>
  cases C with
  |ret u=>exact a.after b
  |next=>exact Vs b
  |brk=>exact Vs b
  |cont=>exact Vs b
def ND(K:Yh):List V->Hp->VK->Prop:=λxs H Q=>∃a n C dx c cv b,xs=[.ref a,c]/\((∃B,c=.ref B/\cv=.ref B) \/∃T,c=.ty T/\cv=.type T)/\H a=ih (fG n C dx a)/\fA K C/\(∀d,dx=ih d ->∃fs,H d=ih (gz d fs))/\kitOne K (.ref C) cv=ih b/\Q (.bl b) H
theorem mY:bY X (.builtin "isinstance") (ND X.K):=by
 rintro J s σ H xs us Q I r ⟨a,n,C,dx,c,t,b,rfl,v,w,j,x,e,q⟩;obtain⟨u,y,rfl,A,g⟩:=r.two;cases A
 have o:y=t:=by
  rcases v with⟨B,rfl,rfl⟩|⟨T,rfl,rfl⟩
  ·cases g;rfl
  ·cases g;rfl
 subst o;obtain⟨ox,vs,i,k,l,m,_⟩:=(I.aD a _ w).1;cases dx with
 |none =>
  have f:InstAt s.heap a ox C none:=⟨i,k,by unfold notCls;rw[m],by rw[l];exact XW⟩
  exact kia_one (ly j) I.cm f e (λz=>nomatch z) λtk=>⟨.bl b,H,I.tok _,rfl,q⟩
 |some d =>
  obtain⟨fs,D⟩:=x d rfl;obtain⟨_,F,E,_⟩:=I.pq D;obtain⟨od,p,_⟩:=mV E;have f:InstAt s.heap a ox C (ih od):=⟨i,k,by unfold notCls;rw[m],by rw[l];exact p⟩
  exact kia_one (ly j) I.cm f e (λz=>nomatch z) λtk=>⟨.bl b,H,I.tok _,rfl,q⟩
end
theorem IT:bY X (.builtin "len") (λxs H Q=>∃a kvs,xs=[.ref a]/\H a=ce kvs/\Q (.int kvs.length) H):=by
 rintro J s σ H xs us Q I r ⟨a,kvs,rfl,e,q⟩;obtain⟨u,rfl,b⟩:=vals1 r;cases b
 exact CU I (.inl e) λt s' c=>⟨.int _,H,c,⟨_,rfl⟩,q⟩
end L2
namespace HU
abbrev Ms(m:Nat):Prop:=m=7\/m=31\/m=127
def lp(m b:Nat):Nat->Nat×Nat
 |0=>(b % (m+1),b)
 |k+1=>SetTable.leap m (lp m b k).1 (lp m b k).2
theorem uh(m b:Nat):∀k,(lp m b k).1<=m
 |0=>Ve (vL _ (Ge _))
 |k+1=>Ve (vL _ (Ge _))
theorem Cn(m b:Nat):∀k,(lp m b k).2=b / 32 ^ k
 |0=>by simp[lp]
 |k+1=>by
  show(lp m b k).2 / 32=_;rw[Cn m b k,Nat.div_div_eq_div_mul,Nat.pow_succ]
theorem K1{b:Nat}(a:b<2 ^ 64){k:Nat}(c:13<=k):(lp m b k).2=0:=by
 rw[Cn];refine Nat.div_eq_of_lt (er a ?_);exact e5 (show 2 ^ 64<=32 ^ 13 by decide) (Nat.pow_le_pow_right (by decide) c)
def qX(m:Nat):Nat->Nat->Nat->Nat
 |0,_,a=>a
 |n+1,i,a=>qX m n ((i * 5+1) % (m+1)) (a ||| (1 <<< i))
def jO(m i:Nat):Nat->Nat
 |0=>i
 |n+1=>(jO m i n * 5+1) % (m+1)
theorem Ar(m i:Nat):∀n,jO m ((i * 5+1) % (m+1)) n=jO m i (n+1)
 |0=>rfl
 |n+1=>by show(jO m _ n * 5+1) % (m+1)=_;rw[Ar m i n];rfl
theorem BK(m j:Nat):∀n i a,(qX m n i a).testBit j=true->a.testBit j=true \/∃k,k<n/\jO m i k=j
 |0,_,_,h=>.inl h
 |n+1,i,a,h=>by
  rcases BK m j n _ _ h with h|⟨k,b,e⟩
  ·rw[Nat.testBit_or,Bool.or_eq_true]at h
   rcases h with h|h
   ·exact .inl h
   ·rw[Nat.one_shiftLeft,Nat.testBit_two_pow]at h
    exact .inr ⟨0,Ge _,by show i=j;simpa using h⟩
  ·exact .inr ⟨k+1,by omega,by rw[<-Ar];exact e⟩
theorem K2(h:Ms m)(hi:i<=m)(d:j<=m):∃k,k<=m/\jO m i k=j:=by
 have c:((UU (m+1)).all λi=>qX m (m+1) i 0==2 ^ (m+1) - 1)=true:=by
  rcases h with rfl|rfl|rfl <;> decide +kernel
 have a:=gX.mp c i (eO.mpr (by omega))
 rw[fX]at a;have b:(qX m (m+1) i 0).testBit j=true:=by rw[a,Nat.testBit_two_pow_sub_one];exact bq (by omega)
 rcases BK m j (m+1) i 0 b with h|⟨k,f,e⟩
 ·simp at h
 ·exact⟨k,by omega,e⟩
theorem CV{m b:Nat}(a:b<2 ^ 64):∀k,(lp m b (13+k)).1=jO m (lp m b 13).1 k
 |0=>rfl
 |k+1=>by
  have z:=K1 (m:=m) a (k:=13+k+1) (by omega)
  show((lp m b (13+k)).1 * 5+1+(lp m b (13+k)).2 / 32) % (m+1)=(jO m _ k * 5+1) % (m+1);rw[show(lp m b (13+k)).2 / 32=0 from z,CV a k,Gf]
theorem Co{b:Nat}(h:Ms m)(a:b<2 ^ 64)(c:j<=m):∃k,k<X8 m/\(lp m b k).1=j:=by
 obtain⟨k,d,e⟩:=K2 h (uh m b 13) c;exact⟨13+k,by unfold X8;omega,by rw[CV a];exact e⟩
def tb(m:Nat):X3:={ Zb 0 0 false with mask:=m }
def st(m b:Nat):Nat->YU
 |0=>{ j:=b % (m+1),more:=UQ m (b % (m+1)) - b % (m+1),i:=b % (m+1),perturb:=b,dummy:=none }
 |n+1=>(tb m).advance (st m b n)
def qY(m b k:Nat):YU:={ j:=(lp m b k).1,more:=UQ m (lp m b k).1 - (lp m b k).1,i:=(lp m b k).1,perturb:=(lp m b k).2,dummy:=none }
def num(m b:Nat):Nat->Nat
 |0=>0
 |k+1=>num m b k+(UQ m (lp m b k).1 - (lp m b k).1)+1
theorem Me(m i:Nat):UQ m i - i<=9:=by unfold UQ;split <;> omega
theorem Cp(h:i<=m):UQ m i<=m:=by unfold UQ;split <;> omega
theorem tV(m i:Nat):i<=UQ m i:=by unfold UQ;split <;> omega
theorem Cq(m b:Nat):∀k,num m b k<=10 * k
 |0=>aG _
 |k+1=>by have:=Cq m b k;have:=Me m (lp m b k).1;show num m b k+_+1<=_;omega
theorem ui{m b N:Nat}{p:YU}(e:st m b N=p):∀d,d<=p.more->st m b (N+d)={ p with j:=p.j+d,more:=p.more - d }
 |0,_=>by rw[Gf,e];rfl
 |d+1,h=>by
  have a:=ui e d (by omega)
  show(tb m).advance (st m b (N+d))=_;rw[a];unfold Y4;rw[aw (show p.more - d>0 by omega)]
  rfl
theorem tW(m b:Nat):∀k,st m b (num m b k)=qY m b k
 |0=>rfl
 |k+1=>by
  have e:=ui (tW m b k) _ (aG _);show(tb m).advance (st m b (num m b k+(qY m b k).more))=_;rw[e];unfold Y4;rw[ak (show ¬ (qY m b k).more - (qY m b k).more>0 by omega)]
  rfl
theorem nE{b k d:Nat}(h:(lp m b k).1+d<=UQ m (lp m b k).1):(st m b (num m b k+d)).j=(lp m b k).1+d:=by
 have:=ui (tW m b k) d (by show d<=UQ m (lp m b k).1 - (lp m b k).1;omega)
 rw[this];rfl
theorem Cr(m b:Nat):∀n,∃k d,n=num m b k+d/\(lp m b k).1+d<=UQ m (lp m b k).1
 |0=>⟨0,0,rfl,tV _ _⟩
 |n+1=>by
  obtain⟨k,d,e,h⟩:=Cr m b n
  by_cases c:(lp m b k).1+d+1<=UQ m (lp m b k).1
  ·exact⟨k,d+1,by omega,by omega⟩
  ·refine⟨k+1,0,?_,tV _ _⟩
   show n+1=num m b k+(UQ m (lp m b k).1 - (lp m b k).1)+1+0;omega
theorem NF(m b n:Nat):(st m b n).j<=m:=by
 obtain⟨k,d,rfl,h⟩:=Cr m b n;rw[nE h];exact e5 h (Cp (uh m b k))
theorem sC(m b:Nat):∀n,(st m b n).dummy=none
 |0=>rfl
 |n+1=>by
  show((tb m).advance (st m b n)).dummy=none;unfold Y4;split
  ·exact sC m b n
  ·exact sC m b n
theorem Il{b:Nat}(h:Ms m)(l:b<2 ^ 64){L:Nat->Prop} [DecidablePred L](o:∃j,j<=m /\¬ L j):∃e,e<10 * X8 m /\¬ L (st m b e).j /\∀n,n<e->L (st m b n).j:=by
 obtain⟨j,p,d⟩:=o;obtain⟨k,v,e⟩:=Co (b:=b) h l p;have f:(st m b (num m b k)).j=j:=by rw[tW];exact e
 have w:=Cq m b k;have ex:∃n,¬ L (st m b n).j:=⟨num m b k,by rw[f];exact d⟩
 have g:∀B,(∃n,n<=B /\¬ L (st m b n).j) ->∃e,e<=B /\¬ L (st m b e).j /\∀n,n<e->L (st m b n).j:=by
  intro B
  induction B with
  |zero =>
   rintro⟨n,q,a⟩;obtain rfl:n=0:=by omega
   exact⟨0,aG _,a,λn h=>absurd h (jh _)⟩
  |succ B s =>
   rintro⟨n,q,a⟩
   by_cases c:∃n,n<=B /\¬ L (st m b n).j
   ·obtain⟨e,t,r⟩:=s c
    exact⟨e,by omega,r⟩
   ·have i:n=B+1:=vU λz=>c ⟨n,by omega,a⟩
    subst i;exact⟨B+1,aG _,a,λu h'=>vU λz=>c ⟨u,by omega,z⟩⟩
 obtain⟨e,t,r⟩:=g _ ⟨num m b k,aG _,by rw[f];exact d⟩
 exact⟨e,by omega,r⟩
theorem DK:∀{ys found:am Nat},ys.Nodup->found.length<ys.length ->∃y∈ys,y ∉ found
 |[],found,_,h=>by simp at h
 |y::ys,found,c,h=>by
  obtain⟨n1,d⟩:=eu.mp c
  by_cases a:y∈found
  ·have f:=vy a
   have i:=vz a;obtain⟨z,b,g⟩:=DK (found:=found.erase y) d (by rw[f];rw[cD]at h;omega)
   refine⟨z,a8 _ b,λq=>g ?_⟩;have ne:z≠y:=λe=>n1 (by rw[<-e];exact b)
   exact(vA ne).mpr q
  ·exact⟨y,aT,a⟩
abbrev mx(xs:Array Nat):Prop:= ∀i k (hk:k<xs.size) (h:i<k),xs[i]<xs[k]
theorem s7{xs:Array Nat}{j:Nat}(r:mx xs):∀a lo hi,hi - lo<=a->lo<=hi->hi<=xs.size->(∀i (h:i<xs.size),i<lo->xs[i]<j)->(∀i (h:i<xs.size),hi<=i->j<=xs[i]) ->
  X5 xs j a lo hi<=xs.size/\(∀i (h:i<xs.size),i<X5 xs j a lo hi->xs[i]<j)/\(∀i (h:i<xs.size),X5 xs j a lo hi<=i->j<=xs[i])
 |0,lo,hi,h0,U,h2,b,g=>by
  have:lo=hi:=by omega
  subst this;exact⟨h2,b,g⟩
 |f+1,lo,hi,h0,U,h2,b,g=>by
  unfold X5
  by_cases c:lo<hi
  ·rw[aw c]
   dsimp only
   have k:(lo+hi) / 2<xs.size:=by omega
   have m:xs.getD ((lo+hi) / 2) j=xs[(lo+hi) / 2]:=by simp[Zo,k]
   rw[m]
   by_cases d:xs[(lo+hi) / 2]<j
   ·rw[aw d]
    refine s7 r f _ hi (by omega) (by omega) h2 (λi h l=>?_) g
    by_cases e:i=(lo+hi) / 2
    ·subst e;exact d
    ·exact k9 (r i _ k (by omega)) d
   ·rw[ak d]
    refine s7 r f lo _ (by omega) (by omega) (by omega) b (λi h l=>?_)
    by_cases e:i=(lo+hi) / 2
    ·subst e;omega
    ·have:=r _ i h (show(lo+hi) / 2<i by omega);omega
  ·rw[ak c]
   have:lo=hi:=by omega
   subst this;exact⟨h2,b,g⟩
theorem wQ{xs:Array Nat}(r:mx xs):XM xs j<=xs.size/\(∀i (h:i<xs.size),i<XM xs j->xs[i]<j)/\(∀i (h:i<xs.size),XM xs j<=i->j<=xs[i]):=
 s7 r _ _ _ (by omega) (ba _) (aG _) (λi _ h=>absurd h (jh _)) (λi U h2=>absurd U (by omega))
theorem below_at{xs:Array Nat}(r:mx xs)(h:xs[i]?=ih j):XM xs j=i:=by
 obtain⟨hi,e⟩:=iB.mp h;obtain⟨b1,a,b⟩:=wQ (j:=j) r;rcases Gg (XM xs j) i with c|c|c
 ·have U:=b _ (by omega) (aG _)
  have h2:=r _ i hi c;omega
 ·exact c
 ·have:=a i hi c
  omega
theorem mZ{t:X3}(r:mx t.place)(h:t.place[i]?=ih j):t.slot j=.live i:=by
 unfold Z3
 dsimp only
 rw[below_at r h,h];simp
theorem Im{t:X3}(d:t.dummies = #[])(h:j ∉ t.place):t.slot j=.empty:=by
 unfold Z3 Zq
 dsimp only
 rw[ak,ak]
 ·rw[d];simp
 ·intro c
  rw[fX]at c;exact h (U1 c)
structure Tab(t:X3)(hs:List Int):Prop where
 ms:Ms t.mask
 du:t.dummies = #[]
 ri:mx t.place
 le:∀j∈t.place,j<=t.mask
 sz:t.place.size=hs.length
 room:hs.length<=t.mask
 reach:∀(i j:Nat),t.place[i]?=ih j ->∃(h:Int) (n:Nat),hs[i]?=ih h/\(st t.mask (Ux h) n).j=j /\∀n',n'<n->(st t.mask (Ux h) n').j∈t.place
theorem BL(h:Int):Ux h<2 ^ 64:=by unfold Ux;omega
theorem Tab.fits{t:X3}(T:Tab t hs):t.fits hs.length=true:=by
 unfold Zl Z4;have:=T.sz;have:=T.room;rw[T.du];simp only[gW,fX,rB,bM,jf];omega
theorem Tab.way{t:X3}(T:Tab t hs):t.gaveWay=false:=by
 unfold SetTable.gaveWay;rcases T.ms with e|e|e <;> rw[e] <;> rfl
theorem Tab.free{t:X3}(T:Tab t hs)(h:Int):∃e,e<10 * X8 t.mask/\(st t.mask (Ux h) e).j ∉ t.place /\∀n,n<e->(st t.mask (Ux h) n).j∈t.place:=by
 refine Il (L:=λj=>j∈t.place) T.ms (BL h) ?_;obtain⟨y,a,b⟩:=DK (ys:=UU (t.mask+1)) (found:=t.place.toList) vS (by have:=T.sz;have:=T.room;rw[ro,cb];omega)
 exact⟨y,by have:=eO.mp a;omega,λz=>b (by simpa using z)⟩
section
variable{t:X3}{h:Int}{e:Nat}{hashAt:Nat->Int}
theorem Cs(T:Tab t hs)(p:(st t.mask (Ux h) e).j ∉ t.place)(r:∀n,n<e->(st t.mask (Ux h) n).j∈t.place):∀d n l,n+d=e->d<l ->
  (YG t hashAt h l (st t.mask (Ux h) n)=ih (.empty (st t.mask (Ux h) e).j none) /\∀f i,n<=f->f<e->t.place[i]?=ih (st t.mask (Ux h) f).j->hashAt i≠h) \/
  (∃f i,n<=f/\f<e/\t.place[i]?=ih (st t.mask (Ux h) f).j/\hashAt i=h/\YG t hashAt h l (st t.mask (Ux h) n)=ih (.candidate (st t.mask (Ux h) f).j i (st t.mask (Ux h) (f+1))) /\
   ∀k g,n<=k->k<f->t.place[g]?=ih (st t.mask (Ux h) k).j->hashAt g≠h)
 |0,n,l+1,v,_=>by
  obtain rfl:n=e:=by omega
  left
  refine⟨?_,λf i U h2=>absurd h2 (by omega)⟩
  unfold YG;rw[Im T.du p]
  dsimp only
  rw[sC]
 |d+1,n,l+1,v,C=>by
  have w:=r n (by omega)
  obtain⟨i,hi⟩:=Array.mem_iff_getElem?.mp w;have sl:=mZ T.ri hi;have s:∀g,t.place[g]?=ih (st t.mask (Ux h) n).j->g=i:=λg z=>by
   have:=mZ T.ri z;rw[sl]at this;injection this with q;exact q.symm
  unfold YG;rw[sl]
  dsimp only
  by_cases c:hashAt i=h
  ·right
   refine⟨n,i,aG _,by omega,hi,c,?_,λk g U h2=>absurd h2 (by omega)⟩
   rw[aw (by rw[c];exact vq _)]
   rfl
  ·rw[ak (by rw[fX];exact c)]
   rw[show t.advance (st t.mask (Ux h) n)=st t.mask (Ux h) (n+1) from rfl];rcases Cs T p r d (n+1) l (by omega) (by omega) with⟨a,b⟩|⟨f,g,U,h2,m,x,y,A⟩
   ·refine .inl ⟨a,λf g U h2 m=>?_⟩
    by_cases q:f=n
    ·subst q;rw[s g m];exact c
    ·exact b f g (by omega) h2 m
   ·refine .inr ⟨f,g,by omega,h2,m,x,y,λk o D B u=>?_⟩
    by_cases q:k=n
    ·subst q;rw[s o u];exact c
    ·exact A k o (by omega) B u
end
theorem Bb{α:Type}(xs:Array α)(p:Nat)(x:α):(XS xs p x).toList=xs.toList.take p++x::xs.toList.drop p:=by
 unfold XS;simp[Array.toList_extract];rw[oL (by simp)]
def e3{α:Type}(l:List α)(p:Nat)(x:α):List α:=l.take p++x::l.drop p
theorem Bc{α β:Type}(g:α->β)(l:am α)(p:Nat)(x:α):(e3 l p x).map g=e3 (l.map g) p (g x):=by simp[e3]
theorem m1{α:Type}(l:am α)(p:Nat)(x:α):(e3 l p x).Perm (x::l):=by
 unfold e3;exact List.perm_middle.trans (by rw[UZ])
theorem JN{α:Type}{l:am α}{p:Nat}{x:α}(b:p<=l.length){y:α}(h:(e3 l p x)[i]?=ih y):(i<p/\l[i]?=ih y)\/(i=p/\y=x)\/(p<i/\l[i - 1]?=ih y):=by
 unfold e3 at h;have tl:(l.take p).length=p:=by rw[b8];omega
 rcases Gg i p with c|c|c
 ·rw[rh (by omega),FF c]at h
  exact .inl ⟨c,h⟩
 ·subst c
  rw[oC (by omega),tl,Gh]at h
  exact .inr (.inl ⟨rfl,by simpa using h.symm⟩)
 ·rw[oC (by omega),tl]at h
  obtain⟨k,a⟩:∃k,i - p=k+1:=⟨i - p - 1,by omega⟩
  rw[a,Gi,Gj]at h;exact .inr (.inr ⟨c,by rw[show i - 1=p+k by omega];exact h⟩)
theorem K3{α:Type}{l:am α}{p:Nat}{x:α}(b:p<=l.length)(i:Nat):(e3 l p x)[i]?=if i<p then l[i]? else if i=p then ih x else l[i - 1]?:=by
 unfold e3;have tl:(l.take p).length=p:=by rw[b8];omega
 rcases Gg i p with c|c|c
 ·rw[aw c,rh (by omega),FF c]
 ·subst c
  rw[ak (by omega),aw rfl,oC (by omega),tl,Gh];rfl
 ·rw[ak (by omega),ak (by omega),oC (by omega),tl]
  obtain⟨k,a⟩:∃k,i - p=k+1:=⟨i - p - 1,by omega⟩
  rw[a,Gi,Gj,show i - 1=p+k by omega]
theorem sD{xs:Array Nat}:mx xs ↔ xs.toList.Pairwise (· < ·):=by
 rw[Vb]
 constructor
 ·intro r i j hi b a
  exact r i j (by simpa using b) a
 ·intro r i k c h
  exact r i k (by simp;omega) (by simpa using c) h
theorem Tab.put{t u:X3}{h:Int}{e:Nat}(T:Tab t hs)(G:(st t.mask (Ux h) e).j ∉ t.place)(H:∀n,n<e->(st t.mask (Ux h) n).j∈t.place)
  (I:hs.length+1<=t.mask) (l:u.mask=t.mask) (J:u.dummies = #[]) (K:u.place=XS t.place (XM t.place (st t.mask (Ux h) e).j) (st t.mask (Ux h) e).j) :
  Tab u (e3 hs (XM t.place (st t.mask (Ux h) e).j) h)/\XM t.place (st t.mask (Ux h) e).j<=hs.length:=by
 have L:=NF t.mask (Ux h) e;have D:∀n,n<e->(st t.mask (Ux h) n).j∈t.place:=H;have b:=wQ (j:=(st t.mask (Ux h) e).j) T.ri;generalize M:(st t.mask (Ux h) e).j=j at *;obtain⟨b1,N,y⟩:=b;generalize XM t.place j=p at *;have A:p<=hs.length:=by rw[<-T.sz];exact b1
 have pl:p<=t.place.toList.length:=by rw[cb];exact b1
 have m:u.place.toList=e3 t.place.toList p j:=by rw[K];exact Bb _ _ _
 have B:(e3 hs p h).length=hs.length+1:=(m1 hs p h).length_eq;have O:∀i k:Nat,u.place[i]?=ih k->(e3 t.place.toList p j)[i]?=ih k:=λi k z=>by rw[<-m];simpa using z
 have g:∀k,k∈u.place ↔ k=j\/k∈t.place:=λk=>by
  rw[<-rg,m,(m1 _ _ _).mem_iff,bu,rg]
 refine⟨⟨by rw[l];exact T.ms,J,?_,?_,?_,?_,?_⟩,A⟩
 ·rw[sD,m]
  unfold e3;have C:=sD.mp T.ri;rw[List.pairwise_append];refine⟨C.take,?_,λa P c hc=>?_⟩
  ·rw[List.pairwise_cons]
   refine⟨λc hc=>?_,C.drop⟩;obtain⟨i,hi,r⟩:=Vf.mp hc;have o:p+i<t.place.size:=by have:=hi;simp at this;omega
   have Q:=y (p+i) o (by omega)
   have ne:j≠t.place[p+i]:=λz=>G (by rw[z];exact Vg _)
   have E:t.place[p+i]=c:=by simpa using r
   omega
  ·obtain⟨i,hi,R⟩:=List.mem_take_iff_getElem.mp P
   have o:i<t.place.size:=by have:=hi;simp at this;omega
   have h2:=N i o (by have:=hi;simp at this;omega)
   have S:t.place[i]=a:=by simpa using R
   rcases bu.mp hc with rfl|hc
   ·omega
   ·obtain⟨k,s,r⟩:=Vf.mp hc
    have F:p+k<t.place.size:=by have:=s;simp at this;omega
    have Q:=y (p+k) F (by omega)
    have E:t.place[p+k]=c:=by simpa using r
    omega
 ·intro k s
  rw[l];rcases (g k).mp s with rfl|z
  ·exact L
  ·exact T.le k z
 ·rw[B,<-cb,m,(m1 _ _ _).length_eq,cD,cb,T.sz]
 ·rw[l,B];exact I
 ·intro i k z
  rw[l];rw[K3 A];rcases JN pl (O i k z) with⟨c,q⟩|⟨c,q⟩|⟨c,q⟩
  ·obtain⟨h',n,v,w,x⟩:=T.reach i k (by simpa using q)
   exact⟨h',n,by rw[aw c];exact v,w,λf d=>(g _).mpr (.inr (x f d))⟩
  ·refine⟨h,e,by rw[ak (by omega),aw c],by rw[q];exact M,λf d=>(g _).mpr (.inr (D f d))⟩
  ·obtain⟨h',n,v,w,x⟩:=T.reach (i - 1) k (by simpa using q)
   exact⟨h',n,by rw[ak (by omega),ak (by omega)];exact v,w,λf d=>(g _).mpr (.inr (x f d))⟩
abbrev Own(o:Array (Option Nat))(j:Nat):Prop:= ∃k,o[j]?=ih (ih k)
theorem K4{o:Array (Option Nat)}(hs:o.size=m+1)(a:j<=m):(o.getD j (ih 0)).isNone=true ↔ o[j]?=ih none:=by
 have:j<o.size:=by omega
 simp[Zo,this]
theorem Bd{m b:Nat}{o:Array (Option Nat)}(hs:o.size=m+1):∀p k,(Yf m o p (lp m b k).1 (lp m b k).2=none /\∀k',k<=k'->k'<k+p->Own o (lp m b k').1) \/
  (∃n,num m b k<=n/\Yf m o p (lp m b k).1 (lp m b k).2=ih (st m b n).j/\o[(st m b n).j]?=ih none /\∀a,num m b k<=a->a<n->Own o (st m b a).j)
 |0,k=>.inl ⟨rfl,λk' U h2=>absurd h2 (by omega)⟩
 |f+1,k=>by
  unfold Yf;have E:=Cp (uh m b k);have F:=tV m (lp m b k).1;have own:∀d,(lp m b k).1+d<=UQ m (lp m b k).1->((o.getD ((lp m b k).1+d) (ih 0)).isNone=true ↔ o[(lp m b k).1+d]?=ih none):=λd i=>K4 hs (by omega)
  have u:∀d,(lp m b k).1+d<=UQ m (lp m b k).1 ->¬ (o.getD ((lp m b k).1+d) (ih 0)).isNone=true->Own o ((lp m b k).1+d):=λd i z=>by
   have lt:(lp m b k).1+d<o.size:=by omega
   have h:o[(lp m b k).1+d]?=ih o[(lp m b k).1+d]:=gq lt;cases c:o[(lp m b k).1+d] with
   |none=>exact absurd ((own d i).mpr (by rw[h,c])) z
   |some x=>exact⟨x,by rw[h,c]⟩
  cases c:(UU (UQ m (lp m b k).1+1 - (lp m b k).1)).find? λd=>(o.getD ((lp m b k).1+d) (ih 0)).isNone with
  |some d =>
   right
   obtain⟨r,bs,h,y⟩:=(Vh.mp c).2;have i:(o.getD ((lp m b k).1+d) (ih 0)).isNone=true:=(Vh.mp c).1;have w:d∈UU (UQ m (lp m b k).1+1 - (lp m b k).1):=by rw[h];simp
   have dl:(lp m b k).1+d<=UQ m (lp m b k).1:=by have:=eO.mp w;omega
   refine⟨num m b k+d,by omega,?_,?_,λa U h2=>?_⟩
   ·dsimp only;rw[nE dl]
   ·rw[nE dl];exact(own d dl).mp i
   ·obtain⟨e,rfl⟩:∃e,a=num m b k+e:=⟨a - num m b k,by omega⟩
    have l:(lp m b k).1+e<=UQ m (lp m b k).1:=by omega
    rw[nE l];refine u e l λz=>?_;have G:r.length=d:=by
     have g:(UU (UQ m (lp m b k).1+1 - (lp m b k).1))[r.length]?=ih d:=by rw[h];simp
     rw[Vi (by have:=c4 YI h;simp at this;omega)]at g
     exact cS g
    have A:e∈r:=by
     have g:(UU (UQ m (lp m b k).1+1 - (lp m b k).1))[e]?=ih e:=Vi (by omega)
     rw[h,rh (by omega)]at g
     exact dQ g
    have:=y e A;rw[z]at this;cases this
  |none =>
   dsimp only
   have B:=List.find?_eq_none.mp c;have v:∀d,(lp m b k).1+d<=UQ m (lp m b k).1->Own o ((lp m b k).1+d):=λd i=>u d i (B d (eO.mpr (by omega)))
   rcases Bd hs f (k+1) with⟨s,t⟩|⟨n,s,t,C,D⟩
   ·refine .inl ⟨s,λk' U h2=>?_⟩
    by_cases q:k'=k
    ·subst q;have:=v 0 (by omega);rwa [Gf]at this
    ·exact t k' (by omega) (by omega)
   ·refine .inr ⟨n,e5 (by show _<=num m b k+_+1;omega) s,t,C,λa U h2=>?_⟩
    by_cases q:num m b (k+1)<=a
    ·exact D a q h2
    ·have H:a<num m b k+(UQ m (lp m b k).1 - (lp m b k).1)+1:=by
      have : ¬ (num m b k+(UQ m (lp m b k).1 - (lp m b k).1)+1<=a):=q;omega
     obtain⟨e,rfl⟩:∃e,a=num m b k+e:=⟨a - num m b k,by omega⟩
     have l:(lp m b k).1+e<=UQ m (lp m b k).1:=by omega
     rw[nE l];exact v e l
structure Lay(m:Nat)(hs:List Int)(c:Nat)(o:Array (Option Nat)):Prop where
 sz:o.size=m+1
 cnt:o.toList.count none+c=m+1
 has:∀k,k<c ->∃j:Nat,o[j]?=ih (ih k)
 om:∀(j k:Nat),o[j]?=ih (ih k)->k<c /\∃(h:Int) (n:Nat),hs[k]?=ih h/\(st m (Ux h) n).j=j /\∀n',n'<n->Own o (st m (Ux h) n').j
 EL:∀(j j' k:Nat),o[j]?=ih (ih k)->o[j']?=ih (ih k)->j=j'
theorem Lay.more{o:Array (Option Nat)}{h:Int}(M:Ms m)(L:Lay m hs c o)(O:c<=m)(D:hs[c]?=ih h) :
  ∃j,Yf m o (X8 m) (Ux h % (m+1)) (Ux h)=ih j/\Lay m hs (c+1) (o.setIfInBounds j (ih c)):=by
 rcases Bd (b:=Ux h) L.sz (X8 m) 0 with⟨E,l⟩|⟨n,E,l,v,F⟩
 ·exfalso
  have pos:0<o.toList.count none:=by have:=L.cnt;omega
  obtain⟨j,G,p⟩:=vR.mp (Vj.mp pos);have A:j<o.size:=by simpa using G
  obtain⟨k,r,e⟩:=Co (b:=Ux h) M (BL h) (j:=j) (by have:=L.sz;omega)
  obtain⟨x,s⟩:=l k (ba _) (by omega)
  rw[e,gq A]at s;have:o[j]=none:=by simpa using p
  rw[this]at s;cases s
 ·refine⟨_,l,?_⟩
  have B:∀a,a<n->Own o (st m (Ux h) a).j:=λa f=>F a (ba _) f;generalize p:(st m (Ux h) n).j=j at *;obtain⟨t,w⟩:=iB.mp v;have d:∀i:Nat,(o.setIfInBounds j (ih c))[i]?=if j=i then ih (ih c) else o[i]?:=λi=>by
   rw[Array.getElem?_setIfInBounds]
   by_cases q:j=i
   ·subst q;rw[aw rfl,aw rfl,aw t]
   ·rw[ak q,ak q]
  have own:∀i,Own o i->Own (o.setIfInBounds j (ih c)) i:=λi ⟨k,r⟩=>by
   by_cases q:j=i
   ·exact⟨c,by rw[d,aw q]⟩
   ·exact⟨k,by rw[d,ak q];exact r⟩
  have u:∀i,o[i]? ≠ ih (ih c):=λi z=>by have:=(L.om i c z).1;omega
  refine⟨by rw[Array.size_setIfInBounds];exact L.sz,?_,?_,?_,?_⟩
  ·have N:=L.cnt
   rw[Array.toList_setIfInBounds,List.count_set (by simpa using t)]
   have H:(o.toList[j]'(by simpa using t)==none)=true:=by simp[w]
   have pos:0<o.toList.count none:=Vj.mpr (by rw[<-w];simp)
   have I:((ih c:ap Nat)==none)=false:=rfl;rw[aw H,ak (by rw[I];exact bX)]
   omega
  ·intro k r
   by_cases q:k=c
   ·subst q;exact⟨j,by rw[d,aw rfl]⟩
   ·obtain⟨i,hi⟩:=L.has k (by omega)
    refine⟨i,?_⟩;rw[d,ak,hi];rintro rfl;rw[v]at hi;cases hi
  ·intro i k hi
   rw[d]at hi
   by_cases q:j=i
   ·rw[aw q]at hi
    have:c=k:=by injection hi with z;injection z
    subst this;exact⟨by omega,h,n,D,by rw[p];exact q,λa f=>own _ (B a f)⟩
   ·rw[ak q]at hi
    obtain⟨U,h',a,h2,J,K⟩:=L.om i k hi;exact⟨by omega,h',a,h2,J,λC f=>own _ (K C f)⟩
  ·intro i y k U h2
   rw[d]at U h2
   by_cases q:j=i
   ·rw[aw q]at U
    by_cases g:j=y
    ·omega
    ·rw[ak g]at h2
     rw[<-U]at h2;exact absurd h2 (u _)
   ·rw[ak q]at U
    by_cases g:j=y
    ·rw[aw g]at h2
     rw[<-h2]at U;exact absurd U (u _)
    ·rw[ak g]at h2
     exact L.EL _ _ _ U h2
theorem K5(M:Ms m)(u:hs.length<=m):∃o,YY m hs.toArray=ih o/\Lay m hs hs.length o:=by
 have f:∀(l:am Int) (c:Nat) (o:Array (Option Nat)),Lay m hs c o->hs.drop c=l ->∃o',(l.foldl (λg h=>(do
   let (b,k) <- g
   let j <- Yf m b (X8 m) (Ux h % (m+1)) (Ux h)
   pure (b.setIfInBounds j (ih k),k+1):ap (Array (Option Nat)×Nat))) (ih (o,c)))=ih (o',hs.length)/\Lay m hs hs.length o':=by
  intro l
  induction l with
  |nil =>
   intro c o L e;have t:hs.length<=c:=List.drop_eq_nil_iff.mp e
   by_cases q:c=hs.length
   ·subst q;exact⟨o,rfl,L⟩
   ·exfalso
    obtain⟨j,a⟩:=L.has (c - 1) (by omega)
    obtain⟨_,h,n,U,_⟩:=L.om j _ a;have:=(bQ.mp U).1;omega
  |cons h l i =>
   intro c o L e;have v:c<hs.length:=by
    apply vU
    intro z;rw[FV (by omega)]at e;cases e
   have p:hs[c]?=ih h:=by
    have:(hs.drop c)[0]?=ih h:=by rw[e];rfl
    rw[Gj]at this;simpa using this
   obtain⟨j,a,r⟩:=L.more M (by omega) p
   rw[aaj];have s:hs.drop (c+1)=l:=by
    have:(hs.drop c).drop 1=l:=by rw[e];rfl
    rw[List.drop_drop]at this;exact this
   have:=i (c+1) _ r s;simp only[Vk,oE]at this⊢;rw[a]
   simpa using this
 have d:∀j k:Nat,(aaa (m+1) (none:ap Nat))[j]? ≠ ih (ih k):=λj k h=>by
  rw[Array.getElem?_replicate]at h;split at h
  ·injection h with h;cases h
  ·cases h
 obtain⟨o,U,h2⟩:=f hs 0 (aaa (m+1) none) ⟨by simp,by simp,λk h=>absurd h (by omega),λj k h=>absurd h (d j k),λj w k h=>absurd h (d j k)⟩ rfl
 refine⟨o,?_,h2⟩;unfold YY;rw[List.foldl_toArray];rw[U];rfl
theorem all_range{α:Type}:∀xs:am α,(UU xs.length).filterMap (xs[·]?)=xs
 |[]=>rfl
 |x::xs=>by
  rw[cD,List.range_succ_eq_map,rb];simp only[List.getElem?_cons_zero,UN]
  congr 1
  exact all_range xs
theorem CY{α:Type}{xs:am α}:∀{l:am Nat},(∀k∈l,k<xs.length) ->∀i:Nat,(l.filterMap (xs[·]?))[i]?=l[i]?.bind (xs[·]?)
 |[],_,i=>by simp
 |k::l,h,i=>by
  have a:=h k aT;rw[rb,bA a];cases i with
  |zero=>simp[a]
  |succ i =>
   simp only[Gi];exact CY (λk a=>h k (a8 _ a)) i
theorem JO{fi mo:Nat}{led pl:Bool}(M:Ms m)(F:hs.length<=m) :
  ∃(t:X3) (s:Array Nat),Zk m fi mo led pl hs.toArray=ih (t,s)/\t.led=led/\t.plain=pl/\t.mask=m/\s.toList.Perm (UU hs.length)/\Tab t (s.toList.filterMap (hs[·]?)):=by
 obtain⟨o,G,L⟩:=K5 M F;unfold Zk;rw[G];have g:∀j k,(j,k)∈(UU (m+1)).filterMap (λj=>(o.getD j none).map (j,·)) ↔ o[j]?=ih (ih k):=by
  intro j k;rw[mB]
  constructor
  ·rintro⟨l,u,e⟩
   have lt:l<o.size:=by rw[L.sz];exact eO.mp u
   have v:o.getD l none=o[l]:=by simp[Zo,lt]
   rw[v]at e;cases c:o[l] with
   |none=>rw[c]at e;cases e
   |some x =>
    rw[c]at e;simp only[oy,Uw,Prod.mk.injEq]at e;obtain⟨rfl,rfl⟩:=e;rw[gq lt,c]
  ·intro h
   obtain⟨lt,e⟩:=iB.mp h;refine⟨j,eO.mpr (by rw[<-L.sz];exact lt),?_⟩
   have v:o.getD j none=o[j]:=by simp[Zo,lt]
   rw[v,e];rfl
 have w:((UU (m+1)).filterMap (λj=>(o.getD j none).map (j,·))).Pairwise λp q=>p.1<q.1:=by
  rw[List.pairwise_filterMap];refine abd ?_ (List.pairwise_lt_range (n:=m+1));intro a b B p r q H;obtain⟨_,_,rfl⟩:=fe.mp r;obtain⟨_,_,rfl⟩:=fe.mp H;exact B
 simp only[Vk,oE];generalize (UU (m+1)).filterMap (λj=>(o.getD j none).map (j,·))=d at g w⊢;have I:(d.map (·.2)).Nodup:=by
  unfold List.Nodup;rw[ff];refine abc ?_ w;intro a b J K B e;have:=L.EL a.1 b.1 a.2 ((g _ _).mp J) (by rw[e];exact(g _ _).mp K)
  omega
 have lt:∀k∈d.map (·.2),k<hs.length:=by
  intro k y;obtain⟨⟨j,z⟩,r,rfl⟩:=aZ.mp y;exact(L.om j z ((g _ _).mp r)).1
 have pm:(d.map (·.2)).Perm (UU hs.length):=by
  refine(vV I vS).mpr λk=>?_;rw[eO];refine⟨lt k,λy=>?_⟩;obtain⟨j,A⟩:=L.has k y;exact aZ.mpr ⟨(j,k),(g _ _).mpr A,rfl⟩
 refine⟨_,_,rfl,rfl,rfl,rfl,pm,M,rfl,?_,?_,?_,?_,?_⟩
 ·rw[sD]
  show(d.map (·.1)).Pairwise _;rw[ff];exact w
 ·intro j A
  have u:j∈d.map (·.1):=by simpa using A
  obtain⟨⟨l,k⟩,r,rfl⟩:=aZ.mp u;have:=(iB.mp ((g _ _).mp r)).1;show l<=m;have:=L.sz;omega
 ·have e:=(pm.filterMap (hs[·]?)).length_eq
  rw[all_range]at e;show(d.map (·.1)).toArray.size=((d.map (·.2)).filterMap (hs[·]?)).length;rw[e,bM,ar,<-ar (f:=(·.2)),pm.length_eq,ro]
 ·have e:=(pm.filterMap (hs[·]?)).length_eq
  rw[all_range]at e;show((d.map (·.2)).filterMap (hs[·]?)).length<=m;omega
 ·intro i j hi
  have C:(d.map (·.1))[i]?=ih j:=by simpa using hi
  rw[cx]at C;obtain⟨⟨l,k⟩,r,rfl⟩:=fe.mp C;obtain⟨U,h,n,h2,N,O⟩:=L.om l k ((g _ _).mp (dQ r));refine⟨h,n,?_,N,λD P=>?_⟩
  ·show((d.map (·.2)).filterMap (hs[·]?))[i]?=ih h
   rw[CY lt,cx,r];exact h2
  ·obtain⟨z,E⟩:=O D P
   show _∈(d.map (·.1)).toArray;have:(st m (Ux h) D).j∈d.map (·.1):=aZ.mpr ⟨(_,z),(g _ _).mpr E,rfl⟩
   simpa using this
end HU
namespace HU
open Spec PyProof.Rows
abbrev TK(P:XZ)(w:X7)(h:XY)(ks:List F4)(a:FG):Prop:=IsTupleKey (strKind P w) h ks a
theorem wR{vs:am i'}(h:ItemsAre (strKind P w) ks vs):∀v∈vs,∃x t,v=.str x t:=by
 induction h with
 |nil=>intro v hv;cases hv
 |@cons k c ks vs U _ b =>
  intro v hv;rcases bu.mp hv with rfl|hv
  ·have a:X' k v=true:=U
   cases v <;> simp[X']at a
   exact⟨_,_,rfl⟩
  ·exact b v hv
theorem Be{Q:Bool->Gb->Prop}(d:TK P w s.heap ks a)(h:Q false s):UB (UP P w) A (ofAClassStatement 8 (.ref a)) Q E s:=by
 have f:=d.typeIs;obtain⟨o,Qb,n,g,_,i,hi⟩:=d;unfold ofAClassStatement;refine ae (iz f ?_)
 dsimp only
 refine ae ?_;refine aj ?_;simp only[Gk,fV,ew];refine ae (F3 g i ?_)
 dsimp only
 refine ae ?_;rw[<-Vl];refine wpAny_forIn_list _ (λrest r s'=>r.1=none/\s'=s /\∀v∈rest,∃x t,v=YB x t) _ ?_ ?_ _ _ ⟨rfl,rfl,wR hi⟩
 ·rintro v rest r s' ⟨b,rfl,c⟩
  obtain⟨x,t,rfl⟩:=c v aT;refine ae ?_;unfold ofAClassStatement;refine aj ?_;simp only[fV,ew];exact aj ⟨rfl,rfl,λu e=>c u (a8 _ e)⟩
 ·rintro⟨j,k⟩ s' ⟨b,rfl,_⟩
  simp only at b;subst b;exact aj h
theorem JP{Q:Bool->Gb->Prop}{l:am i'}(g:TK P w s.heap ks a)(k:∀v∈l,∃c b,v=.ref b/\TK P w s.heap c b)(h:Q false s):UB (UP P w) A (searchCouldBeSeen (.ref a) l) Q E s:=by
 unfold searchCouldBeSeen;refine ae ?_;refine wpAny_forIn_list _ (λrest r s'=>r.1=none/\s'=s /\∀v∈rest,∃c b,v=.ref b/\TK P w s.heap c b) _ ?_ ?_ _ _ ⟨rfl,rfl,k⟩
 ·rintro v rest r s' ⟨d,rfl,f⟩
  obtain⟨c,b,rfl,i⟩:=f v aT;have e:∀v∈rest,∃c b,v=.ref b/\TK P w s'.heap c b:=λu j=>f u (a8 _ j)
  dsimp only
  split
  ·exact aj ⟨rfl,rfl,e⟩
  ·refine ae (wpAny_eqIsQuiet_tuple g ?_)
   simp only[Gk,fV,ew];refine ae (wpAny_eqIsQuiet_tuple i ?_);simp only[Gk,fV,ew];refine ae (Be g ?_);simp only[fV,ew];refine ae (Be i ?_);simp only[fV,ew];exact aj ⟨rfl,rfl,e⟩
 ·rintro⟨m,n⟩ s' ⟨d,rfl,_⟩
  simp only at d;subst d;exact aj h
theorem Hf{Q:Bool->Gb->Prop}(b:TK P w s.heap ks a)(ne:ks ≠ [])(h:Q false s):UB (UP P w) A (hashByValue 8 (.ref a)) Q E s:=by
 have c:=b.typeIs;obtain⟨o,Qb,n,d,_,f,hi⟩:=b;unfold hashByValue;refine ae (FX c F.slot_tuple_hash.lookup ?_)
 dsimp only
 refine ae (F3 d f ?_);simp only[Option.getD_some];refine ae ?_;rw[<-Vl];obtain⟨v,vs,e⟩:∃v vs,Qb.toList=v::vs:=by
  cases g:Qb.toList with
  |nil=>rw[g]at hi;cases hi;exact absurd rfl ne
  |cons v vs=>exact⟨v,vs,rfl⟩
 obtain⟨x,t,rfl⟩:=wR hi v (by rw[e];exact aT)
 rw[e,aai];refine ae (ae ?_);unfold hashByValue;refine aj ?_;simp only[aaA,eP];refine aj ?_;refine aj ?_;exact aj h
abbrev bI(P:XZ)(w:X7)(ks:List F4):Int:=tupleKeyHash (strKind P w) ks
abbrev enc(P:XZ)(w:X7)(p:List F4×FG):Int×i':=(bI P w p.1,.ref p.2)
def hA(es:Array (Int×i'))(i:Nat):Int:=(es[i]?.map (·.1)).getD 0
def hK(P:XZ)(w:X7)(h:XY)(a:FG)(xs:List (List F4×FG)):Prop:=
 ∃o es ep t,h.get? a=ih o/\o.ExactSet/\o.data=.set es ep t/\es.toList=xs.map (enc P w)/\Tab t (xs.map λp=>bI P w p.1)/\xs.length * 5<t.mask * 3/\t.led=(!w.params.followText "set-order")/\(xs ≠ []->t.plain=false)
section
variable{z:FG}{xs:am (List F4×FG)}{es:Array (Int×i')}{t:X3}{k:am F4}{e:Nat}
theorem p'(a:es.toList=xs.map (enc P w)):es[i]?=xs[i]?.map (enc P w):=by rw[<-iA,a,cx]
theorem Hx(zb:A.units<Yq)(L:s.heap.get? a=ih o)(M:o.data=.set es ep t)(x:es.toList=xs.map (enc P w))(T:Tab t (xs.map λp=>bI P w p.1))(all:∀p∈xs,TK P w s.heap p.1 p.2)(N:TK P w s.heap k z)
  (xc:(st t.mask (Ux (bI P w k)) e).j ∉ t.place) (yc:∀n,n<e->(st t.mask (Ux (bI P w k)) n).j∈t.place) (zg:e<10 * X8 t.mask):∀(d n h:Nat) (G:ap YU) (Q:SetFound->Gb->Prop),
  n+d=e->d<h->G.getD (t.probeStart (bI P w k))=st t.mask (Ux (bI P w k)) n ->
  (∀(b i:Nat) (p:am F4×FG),n<=b->b<e->t.place[i]?=ih (st t.mask (Ux (bI P w k)) b).j->xs[i]?=ih p->p.1=k->Q (.there none) s) ->
  ((∀(b i:Nat) (p:am F4×FG),n<=b->b<e->t.place[i]?=ih (st t.mask (Ux (bI P w k)) b).j->xs[i]?=ih p->p.1≠k)->Q (.free (st t.mask (Ux (bI P w k)) e).j false) s) ->
  UB (UP P w) A (setSearchFrom a (.ref z) (bI P w k) true h G) Q E s:=by
 intro d
 induction d using Zp with
 |ind d zc =>
  intro n h G Q xd xh X O R;obtain⟨h,rfl⟩:∃f,h=f+1:=⟨h - 1,by omega⟩
  have S:es.size=(xs.map λp=>bI P w p.1).length:=by rw[<-cb,x,ar,ar]
  have fits:t.fits es.size=true:=by rw[S];exact T.fits
  unfold setSearchFrom;refine ae (cW L M fits ?_)
  dsimp only
  rw[ak (by rw[T.way];exact bX),X]
  have Y:=Cs (hashAt:=hA es) T xc yc d n (10 * X8 t.mask) xd (by omega)
  rcases Y with⟨yd,zd⟩|⟨b,i,U,h2,C,yh,xe,ye⟩
  ·have xa:t.probe (hA es) (bI P w k) (st t.mask (Ux (bI P w k)) n)=_:=yd
   erw[xa]
   dsimp only
   refine aj (R λb i p D y r g B=>?_);have:=zd b i D y r;unfold hA at this;rw[p' x,g]at this;exact this (by show bI P w p.1=_;rw[B])
  ·have ya:t.probe (hA es) (bI P w k) (st t.mask (Ux (bI P w k)) n)=_:=xe
   erw[ya]
   dsimp only
   have V:i<es.size:=by
    have:=(iB.mp C).1;have sz:=T.sz;omega
   obtain⟨p,F⟩:∃p,xs[i]?=ih p:=by
    have:i<xs.length:=by rw[S,ar]at V;exact V
    exact⟨xs[i],bA this⟩
   have H:es[i]?=ih (enc P w p):=by rw[p' x,F];rfl
   have za:=all p (dQ F);have J:UB (UP P w) A (do
     let I <- holding [U3 p.2] (eqBool (.ref p.2) (.ref z))
     let (xb,_,t') <- setState a
     if true&&I then return .there none
     let ih same:=t'.sameMemory t.moves t.mask|unsupported "set.changed-during-lookup:is-the-new-block-at-the-old-address"
     let W <- match (if same then t'.slot (st t.mask (Ux (bI P w k)) b).j else .empty) with
      |.live l=>match xb[l]? with
       |some (_,ze)=>do pure (if <- isSame ze (.ref p.2) then ih l else none)
       |none=>pure none
      |_=>pure none
     match W with
     |none=>rule "set.search.anew"; setSearchFrom a (.ref z) (bI P w k) true h none
     |some l=>if I then return .there (ih l) else setSearchFrom a (.ref z) (bI P w k) true h (ih (st t.mask (Ux (bI P w k)) (b+1)))) Q E s:=by
    refine ae (de (wpAny_eqBool_tuple zb za N ?_));refine ae (cW L M fits ?_)
    dsimp only
    by_cases c:p.1=k
    ·rw[bq c]
     simp only[aaM,eP];exact aj (O b i p U h2 C F c)
    ·rw[a' c]
     have sm:t.sameMemory t.moves t.mask=ih true:=by unfold SetTable.sameMemory;rw[aw (vq _)]
     simp only[Gm,fV,ew,sm,eP,mZ T.ri C,H];refine ae (wpAny_isSame_ref_self (ae (aj ?_)));simp only[eP];refine zc (e - (b+1)) (by omega) (b+1) h (ih (st t.mask (Ux (bI P w k)) (b+1))) Q (by omega) (by omega) rfl (λu l m D y r g B=>O u l m (by omega) y r g B) (λxf=>R λu l m D y r g=>?_)
     by_cases b1:u<b
     ·have:=ye u l D b1 r
      unfold hA at this;rw[p' x,g]at this;intro B;exact this (by show bI P w m.1=_;rw[B])
     ·by_cases yf:u=b
      ·subst yf
       have s1:=mZ T.ri C;have s2:=mZ T.ri r;rw[s1]at s2;injection s2 with zf;subst zf;rw[F]at g;injection g with g;subst g;exact c
      ·exact xf u l m (by omega) y r g
   split
   ·refine ae (JP N (λv xg=>?_) ?_)
    ·obtain⟨q,yg,rfl⟩:=aZ.mp xg
     have K:q∈es.toList:=by
      have:=rg.mp yg;rw[rg];exact(Array.mem_filter.mp this).1
     rw[x]at K;obtain⟨m,yb,rfl⟩:=aZ.mp K;exact⟨m.1,m.2,rfl,all m yb⟩
    ·simp only[fV,ew,H]
     exact J
   ·simp only[H]
    exact J
theorem JQ(e:h.get? a=ih { cls:=.type "set",dict:=none,data:=.set #[] 0 (.fresh 0 0 (!w.params.followText "set-order")) }):hK P w h a []:=
 ⟨_,#[],0,_,e,⟨rfl,rfl,rfl⟩,rfl,rfl,⟨.inl rfl,rfl,λi k b=>absurd b (jh _),λj c=>(by simp[Zb]at c),rfl,ba _,λi j h=>(by simp[Zb]at h)⟩,(by decide:0 * 5<7 * 3),rfl,λz=>absurd rfl z⟩
theorem hK.keep(x:hK P w h a xs)(q:∀o,h.get? a=ih o->h'.get? a=ih o):hK P w h' a xs:=let ⟨o,es,ep,t,e,r⟩:=x;⟨o,es,ep,t,q o e,r⟩
theorem Bf{es':Array (Int×i')}{t':X3}(c:h.get? a=ih o)(b:o.data=.set es ep t):(h.update a (Yw es' t')).get? a=ih { o with data:=.set es' (ep+1) t' }:=by
 have q:=mH (Yw es' t') c (by rw[vI es' t' b];rfl)
 rw[vI es' t' b]at q;exact q
theorem Hg{x:FG}{es:Array (Int×i')}:byScan (.ref x) es=false:=rfl
theorem JR{Q:Bool->Gb->Prop}(xg:A.units<Yq)(S:hK P w s.heap a xs)(za:TK P w s.heap k z)(ne:k ≠ [])(all:∀p∈xs,TK P w s.heap p.1 p.2)(room:xs.length<=62)
  (h:∀h' G,X4 a s.heap h'->hK P w h' a G->(G=xs/\k∈xs.map (·.1)\/G.Perm ((k,z)::xs)/\k ∉ xs.map (·.1)) ->∀b,Q b { s with heap:=h' }) :
  UB (UP P w) A (setAddHashed a (.ref z) (bI P w k)) Q E s:=by
 obtain⟨o,es,ep,t,y,R,B,H,T,yl,led,pl⟩:=id S;have xb:es.size=(xs.map λp=>bI P w p.1).length:=by rw[<-cb,H,ar,ar]
 have fits:t.fits es.size=true:=by rw[xb];exact T.fits
 obtain⟨e,V,F,yb⟩:=T.free (bI P w k);have xm:t.mask<=127:=by rcases T.ms with q|q|q <;> omega
 unfold setAddHashed setAddHashedIn;refine de (ae (cW y B fits ?_))
 dsimp only
 rw[Hg];simp only[fV,ew];unfold setSearch;refine ae (Hx xg y B H T all za F yb V e 0 100000 none _ (by omega) (by unfold X8 at V;omega) rfl ?_ ?_)
 ·intro ym i p _ _ zm yg zg
  dsimp only
  refine aj ?_;have xh:s={ s with heap:=s.heap }:=by cases s;rfl
  rw[xh];exact h s.heap xs (Zt a s.heap) S (.inl ⟨rfl,aZ.mpr ⟨p,dQ yg,zg⟩⟩) _
 ·intro yh
  have zb:k ∉ xs.map (·.1):=λq=>by
   obtain⟨p,C,W⟩:=aZ.mp q;obtain⟨i,hi⟩:=List.getElem?_of_mem C;have xc:i<t.place.size:=by
    have:=(bQ.mp hi).1;rw[T.sz,ar];exact this
   obtain⟨h',n,yc,zc,zh⟩:=T.reach i t.place[i] (gq xc);rw[cx,hi]at yc;have X:bI P w p.1=h':=by simpa using yc
   rw[W]at X;subst X;have xf:n<e:=by
    apply vU
    intro c
    by_cases xi:n=e
    ·subst xi;exact F (by rw[zc];exact Vg _)
    ·exact F (zh e (by omega))
   exact yh n i p (ba _) xf (by rw[zc];exact gq xc) hi W
  dsimp only
  refine ae (cW y B fits ?_)
  dsimp only
  have pt:t.put (st t.mask (Ux (bI P w k)) e).j=({ t with place:=XS t.place (XM t.place (st t.mask (Ux (bI P w k)) e).j) (st t.mask (Ux (bI P w k)) e).j },XM t.place (st t.mask (Ux (bI P w k)) e).j):=by
   unfold SetTable.put
   dsimp only
   have yi:Zq t.dummies (st t.mask (Ux (bI P w k)) e).j=false:=by rw[T.du];unfold Zq;simp
   rw[yi];simp
  rw[pt]
  dsimp only
  have ye:xs.length+1<=t.mask:=by rcases T.ms with q|q|q <;> omega
  have put:∀u:X3,u.mask=t.mask->u.dummies = #[]->u.place=_->_:=λu=>T.put (u:=u) F yb (by rw[ar];exact ye)
  generalize (st t.mask (Ux (bI P w k)) e).j=j at put⊢;generalize XM t.place j=d at put⊢;have N:∀u:X3,u.mask=t.mask->u.dummies = #[]->u.place=XS t.place d j->u.led=t.led->u.plain=false->UB (UP P w) A (do
    storeSet a (XS es d (bI P w k,.ref z)) u
    if !false&&u.tooFull then setRelay a (Yn (es.size+1))
    return true) Q E s:=by
   intro u L xd zi yd Y;obtain⟨xj,yf⟩:=put u L xd zi;rw[ar]at yf;have l:(XS es d (bI P w k,.ref z)).toList=(e3 xs d (k,z)).map (enc P w):=by rw[Bb,H,Bc];rfl
   have g:(e3 xs d (k,z)).length=xs.length+1:=(m1 _ _ _).length_eq;have D:Tab u ((e3 xs d (k,z)).map λp=>bI P w p.1):=by rw[Bc];exact xj
   have c0:(XS es d (bI P w k,.ref z)).size=xs.length+1:=by rw[<-cb,l,ar,g]
   refine ae (vJ y B ?_ (by rw[c0,aJ];omega))
   have m:=Bf (es':=XS es d (bI P w k,.ref z)) (t':=u) y B;have I:=mI s.heap a (Yw (XS es d (bI P w k,.ref z)) u);generalize s.heap.update a (Yw (XS es d (bI P w k,.ref z)) u)=U at m I⊢;generalize XS es d (bI P w k,.ref z)=x at l c0 m⊢;have J:=m1 xs d (k,z);generalize e3 xs d (k,z)=f at l g D J;have yj:u.tooFull=decide ((xs.length+1) * 5 ≥ t.mask * 3):=by
    unfold SetTable.tooFull Z4;have:=D.sz;rw[ar,g]at this;rw[xd,this,L];simp
   rw[yj]
   by_cases c:(xs.length+1) * 5 ≥ t.mask * 3
   ·rw[bq c]
    simp only[aaA,aaM,eP];refine ae ?_;unfold setRelay;refine ae (cW m rfl (by rw[c0];have:=D.fits;rw[ar,g]at this;exact this) ?_)
    dsimp only
    have xa:es.size=xs.length:=by rw[xb,ar]
    obtain⟨v,zd,ya,xe⟩:∃v,ZD (Yn (es.size+1))=v+1/\Ms v/\(xs.length+1) * 5<v * 3:=by
     rcases T.ms with q|q|q
     ·have:xs.length=4:=by omega
      exact⟨31,by rw[xa,this];rfl,.inr (.inl rfl),by omega⟩
     ·have:xs.length=18:=by omega
      exact⟨127,by rw[xa,this];rfl,.inr (.inr rfl),by omega⟩
     ·omega
    have zl:v<=127:=by rcases ya with q|q|q <;> omega
    rw[zd,ak (by rw[aJ];omega)]
    unfold ZR;rw[zd,Nat.add_sub_cancel];have ze:x.map (·.1)=(f.map λp=>bI P w p.1).toArray:=by
     apply rm.mp
     rw[Array.toList_map,l,c5];rfl
    rw[ze];obtain⟨M,r,zj,xk,yk,zk,pm,xl⟩:=JO (fi:=u.finger) (mo:=u.movedTo v) (led:=u.led) (pl:=u.plain) (hs:=f.map λp=>bI P w p.1) ya (by rw[ar,g];omega)
    rw[zj];refine ae ?_;show UB _ _ (do
     let es':=r.filterMap (x[·]?)
     if es'.size != x.size then unsupported "internal:set-table-lost-an-element"
     pure (es',M)) _ _ _
    dsimp only
    have O:(r.filterMap (x[·]?)).toList=(r.toList.filterMap (f[·]?)).map (enc P w):=by
     rw[Array.toList_filterMap,Vn]
     congr 1
     funext i
     exact p' l
    have K:(r.toList.filterMap (f[·]?)).Perm f:=by
     have:=pm.filterMap (f[·]?);rw[ar,all_range]at this;exact this
    have dc:(r.filterMap (x[·]?)).size=xs.length+1:=by rw[<-cb,O,ar,K.length_eq,g]
    rw[ak (by rw[dc,c0];simp)]
    refine aj ?_;have zf:Tab M ((r.toList.filterMap (f[·]?)).map λp=>bI P w p.1):=by
     rw[Vn];have:(λi:Nat=>(f[i]?).map λp=>bI P w p.1)=λi:Nat=>(f.map λp=>bI P w p.1)[i]?:=by funext i;rw[cx]
     rw[this];exact xl
    refine vJ m rfl ?_ (by rw[dc,aJ];omega)
    refine aj (h _ _ (I.trans (mI _ a _)) ⟨_,_,_,M,Bf m rfl,R,rfl,O,zf,by rw[K.length_eq,g,zk];exact xe,by rw[xk,yd,led],λ_=>by rw[yk,Y]⟩ (.inr ⟨K.trans J,zb⟩) _)
   ·rw[a' c]
    simp only[Gm,fV,ew];exact aj (h _ _ I ⟨_,_,_,u,m,R,rfl,l,D,by rw[g,L];omega,by rw[yd,led],λ_=>Y⟩ (.inr ⟨J,zb⟩) _)
  by_cases C:t.plain=true
  ·rw[aw C]
   refine ae (Hf za ne ?_);simp only[fV,ew];exact N _ rfl T.du rfl rfl rfl
  ·rw[ak C]
   refine ae (aj ?_);simp only[eP];exact N _ rfl T.du rfl rfl (by simpa using C)
end
end HU
namespace HU
open Spec PyProof.Rows HS
def i1(P:XZ)(w:X7)(S:FG)(n:Nat)(val:Nat->List F4)(adr:Nat->FG)(i:Nat)(h:XY):Prop:=
 ∃xs,hK P w h S xs/\(xs.map (·.1)).Nodup/\xs.length<=i/\(∀p∈xs,∃j,j<i/\p=(val j,adr j))/\(∀j,j<i->val j∈xs.map (·.1)) /\∀j,j<n->TK P w h (val j) (adr j)
theorem s8(t:TK P w h ks a)(q:∀o,h.get? a=ih o->h'.get? a=ih o):TK P w h' ks a:=let ⟨o,it,n,b,r⟩:=t;⟨o,it,n,q _ b,r⟩
section
variable{wr:am FG}{G:Array Zn->Array Zn->Prop}{St:Nat->Gb->Prop}{val:Nat->List F4}{adr:Nat->FG}
theorem i1.keep{S:FG}(M:i1 P w S n val adr i h)(hs:∀o,h.get? S=ih o->h'.get? S=ih o)(g:∀j,j<n ->∀o,h.get? (adr j)=ih o->h'.get? (adr j)=ih o):i1 P w S n val adr i h':=
 let ⟨xs,y,a,b,c,d,e⟩:=M;⟨xs,y.keep hs,a,b,c,d,λj f=>s8 (e j f) (g j f)⟩
theorem IU(xb:A.units+3<Yq)(W:WalksS P w A.in1 I fp wr G n Pv St)(S:FG)(C:S ∉ fp)(U:∀j,j<n->adr j≠S)(D:∀j,j<n->adr j ∉ wr)(ne:∀j,j<n->val j ≠ [])(V:∀i v,Pv i v->v=.ref (adr i))(yb:n<=63) :
  ∀(k i:Nat) (s:Gb),n - i=k->i<=n->St i s->i1 P w S n val adr i s.heap->(∀s',Moved (S::wr) G s s'->i1 P w S n val adr n s'.heap->R (.ok (.ret .none)) s') ->
   codeAny (UP P w) A (.builtin "set.update.loop" ⟨[.ref S,.ref I],[]⟩) R s:=by
 have E:S ∉ wr:=λz=>C (W.sub _ z);have H:∀b∈wr,b∈S::wr:=λb z=>a8 _ z;intro k
 induction k with
 |zero =>
  intro i s X hi st x q;obtain rfl:i=n:=by omega
  refine ft vK ?_;rw[gp oJ _];show UB _ A.in1 (pyNext (.ref I) >>= _) _ _ s;refine ae (W.done s _ _ st λs' m=>?_);show UB _ A.in1 (ret Vw) _ _ s';exact aj (q s' (m.mono H) (x.keep (λo e=>m.heap S o E e) λj a o e=>m.heap _ o (D j a) e))
 |succ k Y =>
  intro i s X hi st x q;have lt:i<n:=by omega
  refine ft vK ?_;rw[gp oJ _];show UB _ A.in1 (pyNext (.ref I) >>= _) _ _ s;refine ae (W.item i s _ _ lt st λv s' F M m=>?_);obtain rfl:=V i v F;have ya:i1 P w S n val adr i s'.heap:=x.keep (λo e=>m.heap S o E e) λj a o e=>m.heap _ o (D j a) e;show UB _ A.in1 (holding [U3 (adr i)] (setAdd S (.ref (adr i))) >>= _) _ _ s';refine ae (de ?_);unfold setAdd;obtain⟨xs,y,J,za,d,K,f⟩:=ya;have tk:=f i lt;have r:A.in1.units<Yq:=by show A.units+1<Yq;omega
  refine de (ae (wpAny_pyHash_tuple (knd:=aaq P w) r tk ?_));refine JR (s:={ s' with toks:=s'.toks+((val i).length+1) }) r y tk (ne i lt) (λp hp=>?_) (by omega) λh' t g L N b=>?_
  ·obtain⟨j,a,rfl⟩:=d p hp
   exact f j (by omega)
  have x2:i1 P w S n val adr (i+1) h':=by
   have u:∀j,j<n->TK P w h' (val j) (adr j):=λj a=>s8 (f j a) λo e=>by rw[g.2 _ (U j a)];exact e
   rcases N with⟨rfl,h⟩|⟨pm,h⟩
   ·refine⟨t,L,J,by omega,λp hp=>?_,λj a=>?_,u⟩
    ·obtain⟨j,a,e⟩:=d p hp;exact⟨j,by omega,e⟩
    ·by_cases e:j=i
     ·subst e;exact h
     ·exact K j (by omega)
   ·have B:=pm.map (·.1)
    refine⟨t,L,B.nodup_iff.mpr (eu.mpr ⟨h,J⟩),by rw[pm.length_eq,cD];omega,λp hp=>?_,λj a=>?_,u⟩
    ·rcases bu.mp (pm.mem_iff.mp hp) with rfl|hp
     ·exact⟨i,by omega,rfl⟩
     ·obtain⟨j,a,e⟩:=d p hp;exact⟨j,by omega,e⟩
    ·refine B.mem_iff.mpr ?_
     by_cases e:j=i
     ·subst e;exact aT
     ·exact a8 _ (K j (by omega))
  refine aj ⟨gF oJ _,Y (i+1) _ (by omega) lt (W.frame _ s' _ _ M (Gd _ _) λc l o e=>?_) x2 λO Q T=>?_⟩
  ·rw[g.2 c (λz:c=S=>C (by rw[<-z];exact l))];exact e
  ·refine q O (aaV W.gtrans ((m.mono H).then_heap (Gd _ _) λc o l e=>?_) Q) T
   rw[g.2 c (λz:c=S=>l (by rw[z];exact aT))];exact e
end
theorem IV{val:Nat->List F4}{adr:Nat->FG}{Q:i'->Gb->Prop}(ye:A.units+8<Yq)(M:A.handled=none)(C:Src P w T l ol n Pv)(x:s.heap.get? l=ih ol)(N:∀i v,Pv i v->v=.ref (adr i))(c:n<=63)
  (ne:∀j,j<n->val j ≠ []) (t:∀j,j<n->TK P w s.heap (val j) (adr j))
  (h:∀(h':XY) (tk:Nat),i1 P w s.heap.objs.size n val adr n h'->(∀b o,b<s.heap.objs.size->s.heap.get? b=ih o->h'.get? b=ih o)->Q (.ref s.heap.objs.size) { s with heap:=h',toks:=tk }) :
  UB (UP P w) A (call (.type "set") [.ref l]) Q E s:=by
 obtain⟨ze,xe,yd⟩:=fY.mro;have yc:=fY.made;have zd:=fY.sub;refine mF (vt ?_);show UB _ _ (callAny (.type "set") _) _ _ _;refine aj ⟨ZZ _ (by decide +kernel),ft aay ?_⟩;rw[ZM (weight_type_call_type "set" [.ref l] []) rfl]
 have xf:=fY.notType;have yf:=fY.canCreate;have zf:=aaI (.ref l)
 repeat (any_goals (first|assumption|wp_step))
 refine jW (wC (.ref l) (E:=E) (Q₁:=λu k=>u=.ref s.heap.objs.size/\k={ s with heap:=s.heap.push (eZ w) }) ⟨rfl,rfl⟩) λr k f=>?_;cases r with
 |error e=>exact f
 |ok O =>
  cases O with
  |ret u =>
   obtain⟨rfl,rfl⟩:=f;have y:(s.heap.push (eZ w)).get? s.heap.objs.size=ih (eZ w):=bG _ rfl;have S:Yr { s with heap:=s.heap.push (eZ w) } (.ref s.heap.objs.size) "set" :=⟨_,y,rfl⟩;have xg:=fY.init.lookup;have yg:=fY.init.bind (.ref s.heap.objs.size)
   repeat (any_goals (first|assumption|wp_step))
   refine jW (FT (R:=wants (λr q=>r=.none /\∃h' tk,q={ s with heap:=h',toks:=tk }/\i1 P w s.heap.objs.size n val adr n h'/\(∀b o,b<s.heap.objs.size->s.heap.get? b=ih o->h'.get? b=ih o)) E) fY.init.plain aaJ (check_set_init_1 S ?_)) λD q d=>?_
   ·have I:(s.heap.push (eZ w)).get? l=ih ol:=aV _ x
    obtain⟨G,zc,xd,xc⟩:=ol;have H:G=.type T:=C.cls;subst H;have ns:=C.ns;have zg:=C.nf;have xh:=C.nd;unfold Ye.«set.__init__» noKeywords YV;generalize J:pyIter=PI
    wp_walk
    subst J;obtain⟨yh,St,it,W,st⟩:=C.iter A.in1.in1.in1 { s with heap:=s.heap.push (eZ w) } (by simp[M]) I
    refine wpAny_of_in1 (it _ _ ?_);refine ae (ry ?_);have U:l<s.heap.objs.size:=a6 x;have V:s.heap.objs.size ∉ [(s.heap.push (eZ w)).objs.size,l]:=by
     rw[fq];simp only[bu,b9,gZ,g0,not_or];exact⟨bp (ji _),hZ U⟩
    have z:∀j,j<n->adr j<s.heap.objs.size:=λj a=>let ⟨_,_,_,e,_⟩:=t j a;a6 e;refine IU (val:=val) (adr:=adr) ?_ W.toS s.heap.objs.size V (λj a=>bp (z j a)) (λj a=>?_) ne N c (n - 0) 0 _ (by omega) (ba _) st ⟨[],JQ (aV _ y),iD,ba _,λp X=>(by cases X),λj a=>absurd a (jh _),λj a=>s8 (t j a) λo e=>aV _ (aV _ e)⟩ ?_
    ·show _<Yq
     simp only[Around.in1];omega
    ·rw[b9]
     show adr j≠(s.heap.push (eZ w)).objs.size;rw[fq];exact bp (gH (z j a))
    intro s' m g;obtain⟨h',Y,F,K,L⟩:=s';have ya:Y=s.gens:=m.gens;have za:F=s.drawn:=m.drawn;have xb:L=s.os:=m.os;subst ya;subst za;subst xb;show UB _ _ _ _ _ _;refine aj ?_;show UB _ _ (ret Vw) _ _ _;refine aj ⟨rfl,h',K,rfl,g,λb o c e=>?_⟩;have b1:b≠s.heap.objs.size:=bp c;have yb:b≠(s.heap.push (eZ w)).objs.size:=by rw[fq];exact bp (gH c)
    exact m.heap b o (by simp only[bu,b9,gZ,g0,not_or];exact⟨b1,yb⟩) (aV _ (aV _ e))
   ·cases D with
    |error e=>exact d
    |ok B =>
     cases B with
     |ret r =>
      obtain⟨rfl,h',tk,rfl,g,zb⟩:=d
      repeat (any_goals (first|assumption|wp_step))
      exact h _ _ g zb
     |_=>exact d.elim
  |_=>exact f.elim
end HU
namespace HU
open Spec PyProof.Rows HS W
def hM(w:X7)(h:XY)(a:FG)(us:List i'):Prop:=
 ∃o es ep t,h.get? a=ih o/\o.ExactSet/\o.data=.set es ep t/\es.toList.map (·.2)=us/\es.size<scanBound/\t.fits es.size=true/\t.led=(!w.params.followText "set-order")/\(es.size≠0->t.plain=false)
theorem hM.keep(x:hM w h a us)(k:∀o,h.get? a=ih o->h'.get? a=ih o):hM w h' a us:=let ⟨o,es,ep,t,e,r⟩:=x;⟨o,es,ep,t,k o e,r⟩
theorem hM.lt(x:hM w h a us):a<h.objs.size:=let ⟨_,_,_,_,e,_⟩:=x;a6 e
theorem hM.typeIs(x:hM w s.heap a us):s.TypeIs (.ref a) "set" :=let ⟨o,_,_,_,e,c,_⟩:=x;⟨o,e,c.1⟩
theorem hK.elems{xs:am (List F4×FG)}(y:hK P w h a xs)(j:xs.length<=63):hM w h a (xs.map λp=>U3 p.2):=by
 obtain⟨o,es,ep,t,d,c,f,b,T,_,g,i⟩:=y;have sz:es.size=xs.length:=by rw[<-cb,b,ar]
 refine⟨o,es,ep,t,d,c,f,by rw[b,c5];rfl,by rw[sz];unfold scanBound;omega,by have:=T.fits;rw[ar]at this;rw[sz];exact this,g,λz=>i λe=>z (by rw[sz,e];rfl)⟩
theorem IW{Q:i'->Gb->Prop}(R:hM w s.heap a us)
  (q:∀(h':XY) (d':Drawn) (I:FG) (fp:am FG) (vs:am i'),qA P w a vs I fp h'->vs.Perm us->(∀b∈fp,b=a\/s.heap.objs.size<=b)->I∈fp->(∀b∈fp,b<h'.objs.size)->s.heap.objs.size<=I->(∀b ob,s.heap.get? b=ih ob->h'.get? b=ih ob)->Q (.ref I) { s with heap:=h',drawn:=d' }) :
  UB (UP P w) A (pyIter (.ref a)) Q E s:=by
 have S:=R.typeIs;obtain⟨o,es,ep,t,l,zb,f,rfl,F,c,X,Y⟩:=R;have B:=a6 l;refine rA S vM (gV vM S wx ?_ (aaz _));unfold Ye.«frozenset.__iter__» YZ YW setEntries setDrawn setsByText;refine ae (ae (aj (aj ?_)));refine ae (ae (ae (cW l f c (aj (aj ?_)))))
 dsimp only
 refine ae (ae (cW l f c ?_));dsimp only;refine ae (ae (eQ (aj (aj ?_))));show UB _ _ (if (!w.params.followText "set-order" && (!t.plain&&decide (es.size>1)))=true then _ else _) _ _ s
 by_cases big:(!w.params.followText "set-order" && (!t.plain&&decide (es.size>1)))=true
 ·
  rw[aw big];refine ae (sZ es.size (UU es.size) (by simp) λps d H=>?_)
  have pl:ps.length=es.size:=by rw[H.length_eq];simp
  refine ae (e6 ?_ (by show(ps.map _).toArray.size<=UJ;rw[bM,ar,pl];exact oH F))
  refine ae ?_;unfold setEpoch;refine ae (cW (aV _ l) f c (aj ?_))
  dsimp only
  refine ae (e6 (aj ⟨_,rfl,"set_iterator",_,⟨_,bG _ rfl,rfl⟩,jj.lookup,?_⟩));have xa:∀p∈ps,p<es.size:=λp y=>eO.mp (H.mem_iff.mp y)
  let vs:am i':=ps.map λp=>(es.toList.map (·.2)).getD p .none
  have pv:vs.Perm (es.toList.map (·.2)):=by
   have T:(UU es.size).map (λp=>(es.toList.map (·.2)).getD p .none)=es.toList.map (·.2):=by
    apply rv
    ·simp
    ·intro n U h2
     have:n<es.size:=by simpa using U
     simp[this]
   rw[<-T];exact H.map _
  have vl:vs.length=es.size:=by show(ps.map _).length=_;rw[ar,pl]
  have c0:(s.heap.push { cls:=.type "tuple",data:=.seq (ps.map λ(i:Nat)=>rawInt i).toArray }).objs.size=s.heap.objs.size+1:=fq ..;refine q _ d _ [_,a,s.heap.objs.size] vs (A6 (o:=o) (op:={ cls:=.type "tuple",data:=.seq (ps.map λ(i:Nat)=>rawInt i).toArray }) (ps:=ps) (by rw[c0];exact bp (gH B)) (by rw[c0];exact bp (ji _)) f c vl.symm (by rw[vl,pl]) (aV _ (aV _ l)) ?_ (aV _ (bG _ rfl)) rfl ?_) pv ?_ aT ?_ (by rw[c0];omega) λb ob e=>aV _ (aV _ e)
  ·rw[bG _ rfl,vl];rfl
  ·intro i v u
   have K:(ps.map λp=>(es.toList.map (·.2)).getD p .none)[i]?=ih v:=u;rw[cx]at K;obtain⟨p,y,C⟩:=fe.mp K;have L:=xa p (dQ y);refine⟨p,es[p].1,y,?_⟩;rw[gq L]
   congr 1
   rw[<-C];simp[L]
  ·intro b g
   simp only[bu,gZ,g0]at g;rcases g with rfl|rfl|rfl
   ·exact .inr (by rw[c0];omega)
   ·exact .inl rfl
   ·exact .inr (aG _)
  ·intro b g
   simp only[bu,gZ,g0]at g;rw[fq,c0];rcases g with z|z|z
   ·rw[z,c0];exact ji _
   ·rw[z];exact gH (gH B)
   ·rw[z];exact gH (ji _)
 ·rw[ak big]
  refine ae (aj ?_);refine ae ?_;unfold setEpoch;refine ae (cW l f c (aj ?_))
  dsimp only
  refine ae (e6 (aj ⟨_,rfl,"set_iterator",_,⟨_,bG _ rfl,rfl⟩,jj.lookup,?_⟩));have M:∀b ∈ [s.heap.objs.size,a],b=a\/s.heap.objs.size<=b:=λb g=>by
   simp only[bu,gZ,g0]at g;rcases g with rfl|rfl
   ·exact .inr (aG _)
   ·exact .inl rfl
  have N:∀(V:Ys),∀b ∈ [s.heap.objs.size,a],b<(s.heap.push V).objs.size:=λV b g=>by
   simp only[bu,gZ,g0]at g;rw[fq];rcases g with z|z
   ·rw[z];exact ji _
   ·rw[z];exact gH B
  cases m:w.params.followText "set-order" with
  |true =>
   have W:∀next:Nat->Nat,((pickOrder next es).toList.map (·.2)).Perm (es.toList.map (·.2)):=λnext=>by
    unfold pickOrder;have:=sb next es.size 0 es.toList #[] (by simp)
    exact(by simpa using this:(YR next es.size 0 es.toList #[]).toList.Perm es.toList).map _
   have vl:=(W (w.params.setOrder a ep)).length_eq;rw[ar,cb,ar,cb]at vl;refine q _ s.drawn _ [_,a] ((pickOrder (w.params.setOrder a ep) es).toList.map (·.2)) (o9 (o:=o) (λ_=>0) (bp B) f c (by rw[ar,cb,vl]) rfl (aV _ l) ?_ ?_ ?_) (W _) M aT (N _) (aG _) λb ob e=>aV _ e
   ·rw[bG _ rfl,ar,cb,vl];rfl
   ·intro A s i v J x h u r
    unfold setNext setsByText;refine ae (cW h f c ?_);dsimp only;refine ae (ae (eQ (aj ?_)));show UB _ _ (if w.params.followText "set-order" = true then _ else _) _ _ _;rw[aw m,ak (by simp)]
    unfold setWalk setsByText;refine ae (ae (cW h f c ?_));dsimp only;refine ae (ae (eQ (aj ?_)));show UB _ _ (if w.params.followText "set-order" = true then _ else _) _ _ _;rw[aw m];refine ae (eQ (aj (aj ?_)));show x (((pickOrder (w.params.setOrder a ep) es)[i]?).map λe=>(e.2,0)) s;rw[cx,iA]at u;obtain⟨e,G,C⟩:=fe.mp u;rw[G];show x (ih (e.2,0)) s;rw[C];exact r
   ·intro A s J x h r
    unfold setNext setsByText;refine ae (cW h f c ?_);dsimp only;refine ae (ae (eQ (aj ?_)));show UB _ _ (if w.params.followText "set-order" = true then _ else _) _ _ _;rw[aw m,ak (by simp)]
    unfold setWalk setsByText;refine ae (ae (cW h f c ?_));dsimp only;refine ae (ae (eQ (aj ?_)));show UB _ _ (if w.params.followText "set-order" = true then _ else _) _ _ _;rw[aw m];refine ae (eQ (aj (aj ?_)));show x (((pickOrder (w.params.setOrder a ep) es)[((pickOrder (w.params.setOrder a ep) es).toList.map (·.2)).length]?).map λe=>(e.2,0)) s;rw[jZ (by simp)]
    exact r
  |false =>
   have zc:es.size<=1:=by
    rw[m]at big
    by_cases z:es.size<=1
    ·exact z
    ·have y:=Y (by omega)
     rw[y]at big;exact absurd (by simp;omega) big
   have O:t.led=true:=by rw[X,m];rfl
   have xd:t.place.size=es.size:=by
    have:=c;simp only[Zl,gW,fX,rB]at this;exact this.1
   refine q _ s.drawn _ [_,a] (es.toList.map (·.2)) (o9 (o:=o) (λi=>if i=0 then 0 else t.place.getD 0 0+1) (bp B) f c (by rw[ar,cb]) rfl (aV _ l) ?_ ?_ ?_) (g4 _) M aT (N _) (aG _) λb ob e=>aV _ e
   ·rw[bG _ rfl,ar,cb];rfl
   ·intro A s i v J x h u r
    rw[cx,iA]at u;obtain⟨e,G,C⟩:=fe.mp u;have hi:i<es.size:=(iB.mp G).1;have xb:i=0:=by omega
    subst xb;obtain⟨pl,D⟩:∃j,t.place = #[j]:=by
     have:t.place.size=1:=by omega
     exact⟨t.place[0],by
      apply vN
      ·simp[this]
      ·intro k U h2;have:k=0:=by omega
       subst this;simp⟩
    unfold setNext setsByText;refine ae (cW h f c ?_);dsimp only;refine ae (ae (eQ (aj ?_)));show UB _ _ (if w.params.followText "set-order" = true then _ else _) _ _ _;rw[ak (by rw[m];exact bX)]
    show UB _ _ (if (!t.plain&&decide (es.size>1))=true then _ else _) _ _ _;rw[ak (by simp;omega)]
    show UB _ _ ((if (!t.led && !es.isEmpty)=true then unsupported "set:maker-not-led" else pure ()) >>= _) _ _ _;rw[O,ak (by simp)]
    refine ae (aj ?_);rw[D,aw rfl,oZ,ak (by omega),G]
    refine aj ?_;show x (ih (e.2,pl+1)) s;rw[C];have:(if 0+1=0 then 0 else t.place.getD 0 0+1)=pl+1:=by rw[D];rfl
    rw[this]at r;exact r
   ·intro A s J x h r
    unfold setNext setsByText;refine ae (cW h f c ?_);dsimp only;refine ae (ae (eQ (aj ?_)));show UB _ _ (if w.params.followText "set-order" = true then _ else _) _ _ _;rw[ak (by rw[m];exact bX)]
    show UB _ _ (if (!t.plain&&decide (es.size>1))=true then _ else _) _ _ _;rw[ak (by simp;omega)]
    show UB _ _ ((if (!t.led && !es.isEmpty)=true then unsupported "set:maker-not-led" else pure ()) >>= _) _ _ _;rw[O,ak (by simp)]
    refine ae (aj ?_);have ya:es[XM t.place (if (es.toList.map (·.2)).length=0 then 0 else t.place.getD 0 0+1)]?=none:=by
     rw[ar,cb]
     by_cases z:es.size=0
     ·have:t.place = #[]:=U' (by omega)
      rw[this,wO];exact jZ (by omega)
     ·have T:es.size=1:=by omega
      obtain⟨pl,D⟩:∃j,t.place = #[j]:=by
       have:t.place.size=1:=by omega
       exact⟨t.place[0],by
        apply vN
        ·simp[this]
        ·intro k U h2;have:k=0:=by omega
         subst this;simp⟩
      rw[ak z,D,oZ];have : #[pl].getD 0 0=pl:=rfl;rw[this,aw (by omega)]
      exact jZ (by omega)
    rw[ya];exact aj r
theorem Hy(V:A.handled=none)(p:hM w s.heap a us)(S:FG)(v:S≠a)(i:i')(r:Nat)(D:s.heap.get? S=ih { cls:=.type "list",data:=.seq #[] r })
  (X:∀h' d' tk (vs:am i') g,(∀b o,b≠S->s.heap.get? b=ih o->h'.get? b=ih o)->h'.get? S=ih { cls:=.type "list",dict:=none,data:=.seq vs.toArray g,slots:= #[] }->vs.Perm us->R (.ok (.ret i)) { s with heap:=h',drawn:=d',toks:=tk }) :
  UB (UP P w) A.in1 (XN (.ref S) (.ref a) i)
   (λM s'=>match M with|.done f=>R (.ok f) s'|.again g=>g.quiet=true/\codeAny (UP P w) A g R s') (λe s'=>R (.error e) s') s:=by
 have E:=p.typeIs;have N:us.length<scanBound:=by obtain⟨o,es,ep,t,xd,zc,yd,rfl,d,_⟩:=p;rw[ar,cb];exact d
 unfold XN;refine ae (iz (T:= "set") E ?_);have U:Yp (.ref S) (.ref a)=false:=by simp[Yp,v]
 have h2:(X6 "set" == X6 "list")=false:=by decide
 have Y:(X6 "set" == X6 "tuple")=false:=by decide
 simp only[U,h2,Y,vo,fV,ew];refine ae (IW p λh' d' I fp vs W G F zd xe ya k=>?_);obtain⟨St,za,st⟩:=W.go;have H:=za A.in1 (by simpa using V)
 have vl:vs.length=us.length:=G.length_eq;have x:S ∉ fp:=λz=>by
  rcases F S z with e|e
  ·exact v e
  ·exact absurd (a6 D) (rp.mpr e)
 have xb:Yr { s with heap:=h',drawn:=d' } (.ref a) "set" :=by
  obtain⟨o,e,c⟩:=E;exact⟨o,k _ _ e,c⟩
 refine ae (de (A7 xb ?_));have n:=k _ _ D;have y:∀(h:XY) (l:Nat),St 0 h->(∀b o,b≠S->s.heap.get? b=ih o->h.get? b=ih o)->h.get? S=ih { cls:=.type "list",data:=.seq #[] l } ->
   codeAny (UP P w) A (.builtin "list.extend.loop" ⟨[.ref S,.ref I,i],[]⟩) R { s with heap:=h,drawn:=d' }:=by
  intro h l O yb K;refine codeAny_extend_loopS H.toS (by rw[vl];exact oH N) S x i vs.length 0 _ #[] l rfl (ba _) O K (aav _) λs' u g J Q m=>?_
  rw[aas J];have zb:u.toList=vs:=by
   apply Va
   intro j;rw[iA]
   by_cases xc:j<vs.length
   ·have B:j<u.size:=by rw[m.1];exact xc
    rw[gq B];exact(m.2 j _ (gq B)).symm
   ·rw[jZ (by rw[m.1];omega),lb (by omega)]
  refine X s'.heap d' s'.toks vs g (λb o d e=>J.heap b o (λjA=>?_) (yb b o d e)) (by rw[Q,<-zb]) G
  rcases bu.mp jA with yc|jA
  ·exact d yc
  ·exact absurd (a6 e) (by rw[b9.mp jA];exact rp.mpr ya)
 refine vO (λ_=>?_) (λ_=>aj ⟨gF vP _,y _ r st (λb o _ e=>k b o e) n⟩);refine ae (je (ae ?_));show UB _ _ (updateSeq S (·.push .none) >>= λ_=>updateSeq S (·.pop)) _ _ _;refine ae (vQ n rfl ?_);have q:=mH (XT (·.push Vw)) n rfl;refine vQ (hz:=by seq_fits) q rfl ?_
 have L:=mH (XT (·.pop)) q rfl;have C:∀b o,b≠S->h'.get? b=ih o->((h'.update S (XT (·.push Vw))).update S (XT (·.pop))).get? b=ih o:=λb o d e=>(k6 _ _ (a7 d)).trans ((k6 _ _ (a7 d)).trans e);exact aj ⟨gF vP _,y _ _ (H.frame 0 _ _ st λb d o e=>C b o (λz=>x (z ▸ d)) e) (λb o d e=>C b o d (k b o e)) L⟩
theorem Hh{Q:am i'->Gb->Prop}(d:A.handled=none)(c:hM w s.heap a us)
  (f:∀h' d' tk (vs:am i'),(∀b o,s.heap.get? b=ih o->h'.get? b=ih o)->vs.Perm us->Q vs { s with heap:=h',drawn:=d',toks:=tk }):UB (UP P w) A (collect (.ref a)) Q E s:=by
 unfold collect;refine ae (ry (ft F8 ?_));rw[gp F9 _];show UB _ A.in1 (newList [] >>= λl=>again (.builtin "list.__iadd__" ⟨[l,.ref a],[]⟩)) _ _ s;refine ae (e6 (aj ⟨gF oK _,ft F' ?_⟩));rw[gp oK _];show UB _ A.in1 (XN (.ref s.ax) (.ref a) (.ref s.ax)) _ _ _;have g:s.ax≠a:=hZ c.lt;refine Hy (R:=λr s'=>match r with|.ok (.ret v)=>UB (UP P w) A (match v with|.ref a=>(do match (<- load a).data with|.seq xs _=>pure xs.toList|_=>unsupported "internal:collect")|_=>unsupported "internal:collect") Q E s'|.ok _=>False|.error e=>E e s') (s:={ s with heap:=s.heap.push { cls:=.type "list",data:=.seq ([]:am i').toArray } }) d (c.keep λo e=>aV _ e) _ g _ 0 (bG _ rfl) λh' d' tk vs j k h i=>?_;show UB _ A (load s.ax >>= _) _ _ _;refine ae (oB h (aj ?_));exact f h' d' tk vs (λb o e=>k b o (bp (a6 e)) (aV _ e)) i
end HU
namespace L2
open W Calls PyProof.Rows HS
def dM{α:Type}(n:Nat)(φ:α->Prop):KasT α->Prop
 |.ret a=>φ a
 |.ask i j k=>i<n/\j<n /\∀b,dM n φ (k b)
section
variable{α β:Type}
theorem dM.bind{φ:α->Prop}{ψ:β->Prop}{f:α->KasT β}(g:∀a,φ a->dM n ψ (f a)):∀{t:KasT α},dM n φ t->dM n ψ (t.bind f)
 |.ret a,h=>g a h
 |.ask _ _ _,h=>⟨h.1,h.2.1,λb=>dM.bind g (h.2.2 b)⟩
theorem dM.wp{φ:α->Prop}{c:Nat->Nat->(Bool->Gb->Prop)->Gb->Prop}{Q:α->Gb->Prop}{s:Gb}(d:∀i j C,i<n->j<n->(∀b,C b s)->c i j C s):∀{t:KasT α},dM n φ t->(∀a,φ a->Q a s)->t.kasWp c Q s
 |.ret a,h,q=>q a h
 |.ask _ _ _,h,q=>d _ _ _ h.1 h.2.1 λb=>dM.wp d (h.2.2 b) q
theorem s9{p:Array Nat}(h:Pm n p)(h0:0<n):∀f m,dM n (λ_=>True) (kas_asc p f m)
 |0,m=>trivial
 |f+1,m=>⟨h.lt h0 _,h.lt h0 _,λb=>by
  cases b with
  |true=>exact trivial
  |false=>exact s9 h h0 f (m+1)⟩
theorem pb(h0:0<n):∀f (p:Array Nat) m e,Pm n p->dM n (λr:Array Nat×Nat×Nat=>Pm n r.1) (kas_desc f p m e)
 |0,p,m,e,h=>h
 |f+1,p,m,e,h=>⟨h.lt h0 _,h.lt h0 _,λb=>by
  cases b with
  |true =>
   show dM n _ (if e>0 then _ else _);split
   ·exact pb h0 f _ _ _ (h.rev _ _)
   ·exact pb h0 f _ _ _ h
  |false =>
   refine⟨h.lt h0 _,h.lt h0 _,λb=>?_⟩;cases b with
   |true=>exact h
   |false=>exact pb h0 f _ _ _ h⟩
theorem As{p:Array Nat}(h:Pm n p)(h0:0<n)(m k:Nat):dM n (λr:Nat×Array Nat=>Pm n r.2) (kas_tail3 m k p):=
 dM.bind (φ:=λ_=>True) (ψ:=λr:Nat×Array Nat=>Pm n r.2) (f:=λz=>.ret (z,kas_rev p 0 m)) (λr _=>h.rev _ _) (s9 (h.rev 0 m) h0 _ _)
theorem Bg{p:Array Nat}(h:Pm n p)(h0:0<n)(m k:Nat):dM n (λr:Nat×Array Nat=>Pm n r.2) (kas_descPart m k p):=
 (pb h0 (k - (m+1)) p (m+1) 0 h).bind λr a=>by
  show dM n _ (if r.2.2>0 then _ else _);split
  ·exact As (a.rev _ _) h0 _ _
  ·exact As a h0 _ _
theorem IX{p:Array Nat}(h0:0<n)(h:Pm n p):dM n (λr:Nat×Array Nat=>Pm n r.2) (kas_count n p):=
 (s9 h h0 (n - 1) 1).bind λm _=>by
  show dM n _ (if (m==n)=true then _ else if m>1 then _ else _);split
  ·exact h
  ·split
   ·refine⟨h.lt h0 _,h.lt h0 _,λb=>?_⟩
    cases b with
    |true=>exact h
    |false=>exact Bg (h.rev _ _) h0 _ _
   ·exact Bg h h0 _ _
theorem Au{p:Array Nat}(h:Pm n p)(h0:0<n)(k:Nat):∀f l r,dM n (λ_=>True) (kas_place p k f l r)
 |0,l,r=>trivial
 |f+1,l,r=>by
  show dM n _ (if l ≥ r then _ else _);split
  ·exact trivial
  ·exact⟨h.lt h0 _,h.lt h0 _,λb=>by cases b <;> exact Au h h0 k f _ _⟩
theorem BM(h0:0<n):∀f (p:Array Nat) k,Pm n p->dM n (λr:Array Nat=>Pm n r) (kas_bin f p k)
 |0,p,k,h=>h
 |f+1,p,k,h=>(Au h h0 k _ _ _).bind λl _=>BM h0 f _ _ (h.EK _ _)
theorem JS(h0:0<n):dM n (λr:Array Nat=>Pm n r) (kas_sort n):=
 (IX h0 (g4 _)).bind λr a=>by
  show dM n _ (if r.1<n then _ else _);split
  ·exact BM h0 _ _ _ a
  ·exact a
end
theorem BN{b d:Bool}{Q:Bool->Gb->Prop}:∀{as bs:am F4}{us vs:am i'} (i:Nat),Yd us as->Yd vs bs->as.length=bs.length->(∀c,Q c s)->KatLex P w A b d Q ((us++[]).zip (vs++[])) i s
 |[],[],_,_,_,.nil,.nil,_,q=>kat_nil (q _)
 |[],_::_,_,_,_,_,_,h,_=>by simp at h
 |_::_,[],_,_,_,_,_,h,_=>by simp at h
 |a::as,f::bs,_,_,i,.cons _ t U,.cons _ u h2,g,q=>by
  refine kat_cons (FA ?_)
  by_cases e:a=f
  ·rw[bq e]
   exact kat_yes (BN (i+1) U h2 (by simpa using g) q)
  ·rw[a' e]
   exact kat_no (Ap (q _))
def DL(H:Hp)(m:Nat)(its:List i')(ys:List V)(kvs:List (List F4×List V)):Prop:=Vals ys its/\dh H m ys kvs/\ys.length<=63/\((kvs.map (·.1)).Nodup \/∀p∈kvs,p.2=[])
theorem Hz{σ:am (Option V)}{mm:Nat}(I:Inv X J σ H s)(yG:1<=mm)(xx:X.A.handled=none)(G:am V->List (List F4×List V)->Prop)
  (zq:∀(A:Yc) (E:i'->Gb->Prop) (xn:am i'->Gb->Prop),A.handled=none->(∀its ys kvs h' d' tk,DL H mm its ys kvs->G ys kvs->(∀b o,s.heap.get? b=ih o->h'.get? b=ih o)->xn its { s with heap:=h',drawn:=d',toks:=tk })->UB X.ef A (collect (.ref p)) xn E s)
  (q:∀its ys kvs,DL H mm its ys kvs->G ys kvs ->∀D ye zd,H D=none->ye.Perm ys->dh H mm ye zd->zd.Perm kvs->((kvs.map (·.1)).Nodup->(zd.map (·.1)).Pairwise (λa b=>cp a b=true))->Q (.ref D) (upd H D (.lst ye))) :
  wA X (call (.builtin "sorted") [.ref p]) (EP X J σ Q) X.xe s:=by
 refine Ga kind_sorted plain_sorted entry_sorted (args_sorted1 _) ?_;unfold Ye.«sorted»;refine ae (m:=checkCount "sorted" 1 1 _) (aj (ae (zq _ _ _ (by simpa using xx) λits ys kvs U zh xi g yx yn=>?_)))
 obtain⟨yi,pr,zG,xr⟩:=id g;have zx:ys.length<=UJ:=by rw[aJ];omega
 have yr:ys.length=kvs.length:=cC pr;have xl:=yi.length;have R:∀(i:Nat),i<its.length ->∃(ks:am F4) (a:FG) (x l:am i'),(kvs.map (·.1))[i]?=ih ks/\its[i]?=ih (.ref a)/\a≠X.env.locals/\Yg s.heap a (x++l).toArray/\Yd x ks/\ks.length=mm/\((∀p∈kvs,p.2=[])->l=[]):=by
  intro i hi;have yl:i<ys.length:=by omega
  obtain⟨zn,zl,a,xy,zi,zr⟩:=g9 pr (show ys[i]?=ih ys[i] from bA yl);obtain⟨u,xj,l⟩:=yi.get (show ys[i]?=ih (V.ref a) by rw[bA yl,xy])
  cases l
  obtain⟨yH,xo,yo,_⟩:=I.tuple (aE.of zi);obtain⟨x,l,e,st⟩:=rV (H:=H) xo;rw[e]at yo;refine⟨zn.1,a,x,l,by rw[cx,zl];rfl,xj,(λz=>by rw[z,I.free]at zi;cases zi),yo,st,zr,λyc=>?_⟩
  have yy:=yc zn (dQ zl);have zy:=xo.length;have zH:=ng st;rw[yy,ei,ar,e,df]at zy;exact mJ (by omega)
 obtain⟨m,zc,_⟩:=id I.loc
 let lt:Nat->Nat->Bool:=λi j=>cp ((kvs.map (·.1)).getD i []) ((kvs.map (·.1)).getD j [])
 have xI:(kvs.map (·.1)).length=its.length:=by rw[ar];omega
 have P:∀i,i<its.length->((kvs.map (·.1)).getD i []).length=mm:=λi hi=>by
  obtain⟨ks,_,_,_,U,_,_,_,_,h2,_⟩:=R i hi;rw[cE,U];exact h2
 have xm:(kvs.map (·.1)).Nodup ->∀i j,i<its.length->j<its.length->i≠j->(kvs.map (·.1)).getD i []≠(kvs.map (·.1)).getD j []:=λK i j hi y W e=>W ((Vc (by omega) K).mp (by
  rw[cE,cE,bA (by omega),bA (by omega)]at e
  rw[bA (by omega),bA (by omega)]
  exact c4 ih e))
 have O:(kvs.map (·.1)).Nodup->gO its.length lt:=λK=>⟨λi j k hi y xz U h2=>nD ((P i hi).trans (P j y).symm) ((P j y).trans (P k xz).symm) U h2,λi j hi y W f=>s6 ((P i hi).trans (P j y).symm) (xm K i j hi y W) f⟩;have ze:∀(h':XY) (D:FG) (c:Nat) (d:Array Nat),(∀b o,b≠X.env.locals->s.heap.get? b=ih o->h'.get? b=ih o)->h'.Ns X.env.locals m->(∀b o,s.heap.get? b=ih o->b≠D)->Pm its.length d->((kvs.map (·.1)).Nodup->d.toList.Pairwise λi j=>lt i j=true) ->
   h'.get? D=ih (listOf (d.toList.map λi=>its.getD i Vw).toArray c) ->∃v Y,Inv X J σ Y { s with heap:=h',drawn:=zh,toks:=xi }/\RelV v (.ref D)/\Q v Y:=by
  intro h' D c d k xt B w yt new;have ym:∀i∈d.toList,i<its.length:=λi hi=>eO.mp (w.mem_iff.mp hi);have zo:(d.toList.map λi=>ys.getD i V.aN).Perm ys:=pN V.aN (by rw[xl];exact w)
  have zt:Pm kvs.length d:=by rw[<-yr,xl];exact w
  have yz:(d.toList.map λi=>kvs.getD i (([],[]):am F4×List V)).Perm kvs:=pN _ zt;have zz:dh H mm (d.toList.map λi=>ys.getD i V.aN) (d.toList.map λi=>kvs.getD i ([],[])):=rS λi hi=>Am pr V.aN ([],[]) i (by have:=ym i hi;omega)
  have xA:(d.toList.map λi=>kvs.getD i ([],[])).map (·.1)=d.toList.map λi=>(kvs.map (·.1)).getD i []:=by
   rw[c5];refine j0 λi hi=>?_;have:i<kvs.length:=by have:=ym i hi;omega
   show(kvs.getD i ([],[])).1=_;rw[cE,cE,cx,bA this];rfl
  have xu:Vals (d.toList.map λi=>ys.getD i V.aN) (d.toList.map λi=>its.getD i Vw):=r9 (λi=>by
   by_cases hi:i<ys.length
   ·obtain⟨u,xj,l⟩:=yi.get (show ys[i]?=ih ys[i] from bA hi)
    rw[cE,cE,xj,bA hi];exact l
   ·rw[cE,cE,lb (by omega),lb (by omega)];trivial) d.toList
  obtain⟨yA,zA⟩:=Inv.sorted (t':=xi) I zc xt k B new xu (by rw[zo.length_eq];exact zx)
  refine⟨.ref D,_,zA.draw zh,rfl,q its ys kvs g yx D _ _ yA zo zz yz λK=>?_⟩;rw[xA,ff];exact yt K
 refine ae (rx ?_ (by rw[aJ];omega))
 have xf:(U.push (seqObj "list" its.toArray 0)).get? U.objs.size=ih (seqObj "list" its.toArray 0):=bG _ rfl;have B:∀b o,s.heap.get? b=ih o->b≠U.objs.size:=λb o e=>bp (a6 (yn b o e));refine ae (de (gV slot_list_sort ⟨_,xf,rfl⟩ entry_list_sort ?_ (args_list_sort _)));have keep:∀b o,s.heap.get? b=ih o->(U.push (seqObj "list" its.toArray 0)).get? b=ih o:=λb o e=>aV _ (yn b o e)
 by_cases h2:its.length<2
 ·refine Ai xf h2 λc M xp new=>⟨_,rfl,aj ⟨_,rfl,?_⟩⟩
  refine ze M _ c (UU its.length).toArray (λb o _ e=>xp b o (B b o e) (keep b o e)) (zc.at' λo e=>xp _ o (B _ o e) (keep _ o e)) B (g4 _) (λ_=>?_) ?_
  ·show(UU its.length).Pairwise _
   have:its.length=0\/its.length=1:=by omega
   rcases this with z|z <;> rw[z]
   ·exact YJ
   ·exact Vd _ _
  ·have:(UU its.length).map (λi=>its.getD i Vw)=its:=by
    apply rv
    ·simp
    ·intro i U h2;simp[YD,h2]
   show M.get? U.objs.size=ih (listOf ((UU its.length).map λi=>its.getD i Vw).toArray c);rw[this];exact new
 ·have h2:2<=its.length:=by omega
  obtain⟨M,yu,xa⟩:∃M:XY,M.objs.size=0 /\∀b,M.get? b=none:=⟨{ s.heap with objs:= #[] },rfl,λb=>vf (ba _)⟩;have F:Fr M X.env.locals s.heap m:=⟨zc,λb o e=>(by rw[xa]at e;cases e),by rw[yu];exact ba _⟩
  have N:=AK (g:=M) (L:=X.env.locals) (h:=s.heap);have zu:∃o,s.heap.get? X.env.locals=ih o:=let ⟨o,_,_,e,_⟩:=zc;⟨o,e⟩;obtain⟨yI,xB⟩:=zu;refine kat_list_sort (s:={ s with heap:=U.push (seqObj "list" its.toArray 0),drawn:=zh,toks:=xi }) (F.kept keep) (N.grown keep) xf (a7 (B _ _ xB)) (xa _) (λp w=>B p.1 p.2 (lj w).2.2) h2 (by omega) λzI h' yp N'=>?_
  have yB:∀b o,b≠X.env.locals->s.heap.get? b=ih o->h'.get? b=ih o:=λb o n e=>(N' (b,o) (a8 _ (mO n (xa b) e))).1;have tk:∀{a:FG}{zs:Array i'},a≠X.env.locals->Yg s.heap a zs->Yg h' a zs:=λn ⟨o,yj,r⟩=>⟨o,yB _ o n yj,r⟩;have zB:∀(vs:am i'),(∀v∈vs,∃a x l ks,v=U3 a/\Yg h' a (x++l).toArray/\Yd x ks/\ks.length=mm) ->∃fs,fs.length=vs.length/\KatTups h' vs fs /\∀f∈fs,∃k t,f=YB k t:=by
   intro vs
   induction vs with
   |nil=>intro _;exact⟨[],rfl,aau,λf za=>(by cases za)⟩
   |cons v vs xC =>
    intro xd;obtain⟨fs,yC,zC,xD⟩:=xC λyD h'=>xd yD (a8 _ h');obtain⟨a,x,l,ks,rfl,⟨o,yj,zD,n,xE⟩,st,xv⟩:=xd v aT;cases st with
    |nil=>simp at xv;omega
    |cons k t r =>
     refine⟨.str k t::fs,by rw[cD,cD,yC],aak yj zD xE (by simp) zC,λf za=>?_⟩
     rcases bu.mp za with z|z
     ·exact⟨k,t,z⟩
     ·exact xD f z
  obtain⟨fs,xH,yv,zv⟩:=zB its λv xd=>by
   obtain⟨i,hi,rfl⟩:=rq xd;obtain⟨ks,a,x,l,_,S,xb,yb,zb,xc,_⟩:=R i hi;rw[bA hi]at S;exact⟨a,x,l,ks,cS S,tk xb yb,zb,xc⟩
  refine kat_kind (T:=.type "str") yv (by omega) (λf za=>?_) (by decide) ?_
  ·obtain⟨k,t,rfl⟩:=zv f za
   exact aat rfl
  ·by_cases K:(kvs.map (·.1)).Nodup
   ·refine(Ao (O K) h2).wp (λi j C hi y W yd=>?_) λd w=>?_
    ·obtain⟨k,a,x,l,zp,S,xb,yb,zb,xc,_⟩:=R i hi
     obtain⟨zj,yE,xw,yw,zm,yf,zf,xg,yg,zg,_⟩:=R j y;unfold kas_ask;rw[cE,cE,S,yf];have xq:(kvs.map (·.1)).getD i []=k:=by rw[cE,zp];rfl
     have yq:(kvs.map (·.1)).getD j []=zj:=by rw[cE,zm];rfl
     have zE:lt i j=cp k zj:=by show cp ((kvs.map (·.1)).getD i []) ((kvs.map (·.1)).getD j [])=_;rw[xq,yq]
     have ne:=xm K i j hi y W;rw[xq,yq]at ne;rw[zE]at yd;obtain⟨ox,xk,_,xF,dx⟩:=tk xb yb;obtain⟨yF,yk,_,zF,zk⟩:=tk zf xg;exact kat_lt xk dx yk zk (sd 0 zb yg (xc.trans zg.symm) ne yd)
    ·refine Zw yp N' (Z6 λp w=>B p.1 p.2 (lj w).2.2) λxh c yh ya=>⟨_,rfl,aj ⟨_,rfl,ze xh _ c d (λb o n e=>(ya (b,o) (a8 _ (mO n (xa b) e))).1) yh.ns B w.1 (λ_=>Cm w.1.size w.2) (ya _ aT).1⟩⟩
   ·have yc:=xr.resolve_left K
    refine(JS (n:=its.length) (by omega)).wp (λi j C hi y yd=>?_) λd w=>?_
    ·obtain⟨k,a,x,l,zp,S,xb,yb,zb,xc,xG⟩:=R i hi
     obtain⟨zj,yE,xw,yw,zm,yf,zf,xg,yg,zg,zw⟩:=R j y;obtain rfl:=xG yc;obtain rfl:=zw yc;unfold kas_ask;rw[cE,cE,S,yf];obtain⟨ox,xk,_,xF,dx⟩:=tk xb yb;obtain⟨yF,yk,_,zF,zk⟩:=tk zf xg;exact kat_lt xk dx yk zk (BN 0 zb yg (xc.trans zg.symm) yd)
    ·refine Zw yp N' (Z6 λp w=>B p.1 p.2 (lj w).2.2) λxh c yh ya=>⟨_,rfl,aj ⟨_,rfl,ze xh _ c d (λb o n e=>(ya (b,o) (a8 _ (mO n (xa b) e))).1) yh.ns B w (λz=>absurd z K) (ya _ aT).1⟩⟩
end L2
namespace L2
open Spec Calls PyProof.Rows W HS HU
def e9(H:Hp)(m:Nat)(vs:List V)(Qd:List (List F4)):Prop:=dh H m vs (Qd.map λk=>(k,[]))
def nZ(P:XZ)(w:X7)(a:FG)(xs:List (List F4×FG)):HO:=.ext λh=>xs.length<=63/\(xs.map (·.1)).Nodup/\hK P w h a xs
theorem K6{xs:am (List F4×FG)}(b:xs.length<=63)(c:(xs.map (·.1)).Nodup)(x:hK P w h a xs):bc P w H h a (nZ P w a xs):=
 ⟨⟨b,c,x⟩,(let ⟨o,_,_,_,e,_⟩:=x;⟨o,e⟩),λ_ _ q k=>⟨q.1,q.2.1,q.2.2.keep k⟩⟩
theorem JT{vs:am i'}(h:Yd vs ks):ItemsAre (aaq P w) ks vs:=by
 induction h with
 |nil=>exact .nil
 |cons y t r a=>exact .cons (by show X' y (.str y t)=true;simp[X']) a
theorem e9.at(h:e9 H m vs Qd)(hi:i<vs.length):∃ks a,Qd[i]?=ih ks/\vs[i]?=ih (V.ref a)/\H a=bi (ks.map V.str)/\ks.length=m:=by
 obtain⟨p,b,a,c,d,e⟩:=g9 h (show vs[i]?=ih vs[i] from bA hi);rw[cx]at b;obtain⟨k,f,rfl⟩:=fe.mp b;exact⟨k,a,f,by rw[bA hi,c],by rw[d,ei],e⟩
theorem e9.length(h:e9 H m vs Qd):vs.length=Qd.length:=by have:=cC h;rw[ar]at this;exact this
theorem Bh:∀{kvs:am (List F4×List V)},(∀p∈kvs,p.2=[])->(kvs.map (·.1)).map (λk=>(k,([]:am V)))=kvs
 |[],_=>rfl
 |p::kvs,h=>by
  have e:=h p aT;rw[bD,bD,Bh λq a=>h q (a8 _ a)]
  congr 1
  rw[<-e]
theorem Inv.tk{σ:am (Option V)}(I:Inv X J σ H s)(h:H a=bi (ks.map V.str)):TK X.prog X.w s.heap ks a:=by
 obtain⟨its,r,⟨o,b,c,n,d⟩,_⟩:=I.tuple (aE.of h);exact⟨o,_,n,b,c,d,JT (oU r)⟩
theorem IY(M:X.A.units+64<Yq)(W:X.calm=true):bY X (.type "set") (λvs H Q=>∃(p:FG) (ys:am V) (Qd:am (List F4)) (m:Nat),vs=[.ref p]/\(aq X.K H p ys\/aE X.K H p ys)/\e9 H m ys Qd/\1<=m/\ys.length<=63 /\
  ∀a xs,H a=none->(xs.map (·.1)).Nodup->(∀y,y∈xs.map (·.1) ↔ y∈Qd)->(∀p∈xs,H p.2=bi (p.1.map V.str)/\p.1.length=m)->Q (.ref a) (upd H a (nZ X.prog X.w a xs))):=by
 rintro J s σ H vs us Q I r ⟨p,ys,Qd,N,rfl,hq,tv,yc,xc,q⟩;obtain⟨u,rfl,Y⟩:=vals1 r;cases Y
 have L:∀(its:am i') {T:String}{ol:Ys},Vals ys its->Src X.prog X.w T p ol its.toArray.size (λi v=>its.toArray[i]?=ih v)->s.heap.get? p=ih ol->wA X (call (.type "set") [.ref p]) (EP X J σ Q) X.xe s:=λits {T ol} O C f=>by
  have zb:ys.length=its.length:=O.length;have zc:=tv.length;have all:∀j,j<ys.length ->∃a,ys[j]?=ih (V.ref a)/\its[j]?=ih (.ref a)/\H a=bi ((Qd.getD j []).map V.str)/\(Qd.getD j []).length=N:=λj c=>by
   obtain⟨ks,a,U,h2,g,d⟩:=tv.at c;obtain⟨u,M,xa⟩:=O.get h2;cases xa
   have e:Qd.getD j []=ks:=by rw[cE,U];rfl
   exact⟨a,h2,M,by rw[e];exact g,by rw[e];exact d⟩
  let adr:Nat->FG:=λj=>match its[j]? with|some (.ref a)=>a|_=>0
  have ad:∀j a,its[j]?=ih (.ref a)->adr j=a:=λj a e=>by show(match its[j]? with|some (.ref a)=>a|_=>0)=a;rw[e]
  refine IV (val:=λj=>Qd.getD j []) (adr:=adr) (by omega) (I.ok.hd W) C f (λi v ya=>?_) (by rw[bM];omega) (λj c=>?_) (λj c=>?_) λh' tk x k=>?_
  ·have l:its[i]?=ih v:=by simpa using ya
   obtain⟨a,_,h2,_⟩:=all i (by have:=(bQ.mp l).1;omega)
   rw[l]at h2;injection h2 with h2;rw[ad i a (by rw[l,h2]),h2]
  ·obtain⟨a,_,_,_,d⟩:=all j (by rw[bM]at c;omega)
   intro z;have za:Qd.getD j []=[]:=z;rw[za]at d;simp at d;omega
  ·obtain⟨a,_,h2,g,_⟩:=all j (by rw[bM]at c;omega)
   rw[ad j a h2];exact I.tk g
  ·obtain⟨xs,y,P,S,B,R,xd⟩:=x
   rw[bM]at S B R;have xb:∀b o,s.heap.get? b=ih o->h'.get? b=ih o:=λb o e=>k b o (a6 e) e;refine⟨.ref s.heap.objs.size,_,I.laid (t':=tk) xb (aG _) (K6 (by omega) P y),rfl,q _ _ (I.aD.fresh (aG _)) P (λy=>⟨λD=>?_,λD=>?_⟩) λp f=>?_⟩
   ·obtain⟨p,f,rfl⟩:=aZ.mp D
    obtain⟨j,c,rfl⟩:=B p f;show Qd.getD j []∈Qd;rw[show Qd.getD j []=Qd[j]'(by omega) by simp[show j<Qd.length by omega]]
    exact dz _
   ·obtain⟨j,c,e⟩:=vR.mp D
    have:Qd.getD j []∈xs.map (·.1):=R j (by omega)
    rw[show Qd.getD j []=y by simp[c,e]]at this
    exact this
   ·obtain⟨j,c,rfl⟩:=B p f
    obtain⟨a,_,h2,g,d⟩:=all j (by omega)
    show H (adr j)=bi ((Qd.getD j []).map V.str)/\(Qd.getD j []).length=N;rw[ad j a h2];exact⟨g,d⟩
 rcases hq with hq|hq
 ·obtain⟨its,E,pl,yb⟩:=I.list hq
  obtain⟨o,F,t,n,G⟩:=pl.isList;exact L its E (src_list t ⟨n,G⟩) F
 ·obtain⟨its,E,pl,yb⟩:=I.tuple hq
  obtain⟨o,F,t,n,G⟩:=pl;exact L its E (BH t ⟨n,G⟩) F
theorem GD(O:X.calm=true):bY X (.builtin "sorted") (λvs H Q=>∃(a:FG) (xs:am (List F4×FG)) (m:Nat),vs=[.ref a]/\H a=ih (nZ X.prog X.w a xs)/\(∀p∈xs,H p.2=bi (p.1.map V.str)/\p.1.length=m)/\1<=m /\
  ∀D ys Qd,H D=none->e9 H m ys Qd->Qd.Perm (xs.map (·.1))->Qd.Pairwise (λa b=>cp a b=true)->Q (.ref D) (upd H D (.lst ys))):=by
 rintro J s σ H vs us Q I r ⟨a,xs,m,rfl,P,R,S,q⟩;obtain⟨u,rfl,T⟩:=vals1 r;cases T
 obtain⟨⟨v,U,y⟩,_⟩:=(show bc X.prog X.w H s.heap a (nZ X.prog X.w a xs) from I.aD a _ P);have G:∀{vs:am i'}{us:am i'},vs.Perm us ->∀{zs:am (List F4×FG)},us=zs.map (λp=>U3 p.2) ->∃B:am (List F4×FG),B.Perm zs/\vs=B.map λp=>U3 p.2:=by
  intro vs us p
  induction p with
  |nil=>intro zs e;exact⟨zs,g4 _,e⟩
  |cons x _ d =>
   intro zs e;cases zs with
   |nil=>cases e
   |cons z zs =>
    rw[bD,ZK]at e;obtain⟨W,Y,xa⟩:=d e.2;exact⟨z::W,Y.cons z,by rw[xa,e.1];rfl⟩
  |swap x y l =>
   intro zs e
   match zs,e with
   |z1::j::zs,e =>
    simp only[bD,ZK]at e;exact⟨j::z1::zs,Yu _ _ _,by simp[e.1,e.2.1,e.2.2]⟩
  |trans _ _ K L =>
   intro zs e;obtain⟨z1,ya,za⟩:=L e;obtain⟨j,p2,xb⟩:=K za;exact⟨j,p2.trans ya,xb⟩
 refine Hz (H:=H) (mm:=m) I S (I.ok.hd O) (λ_ kvs=>(kvs.map (·.1)).Perm (xs.map (·.1)) /\∀p∈kvs,p.2=[]) (λA E yc yb n=>Hh yb (y.elems v) λh' zb tk vs k pv=>?_) ?_
 ·obtain⟨zs,f,rfl⟩:=G pv rfl
  refine n _ (zs.map λp=>V.ref p.2) (zs.map λp=>(p.1,[])) h' zb tk ⟨?_,?_,by rw[ar,f.length_eq];exact v,.inr λp c=>?_⟩ ⟨by rw[c5];exact f.map _,λp c=>?_⟩ k
  ·clear n f pv
   induction zs with
   |nil=>exact .nil
   |cons z zs d=>exact .cons rfl d
  ·have i:∀p∈zs,H p.2=bi (p.1.map V.str)/\p.1.length=m:=λp c=>R p (f.mem_iff.mp c)
   clear n f pv
   induction zs with
   |nil=>exact .nil
   |cons z zs d=>exact .cons ⟨z.2,rfl,by rw[ei];exact(i z aT).1,(i z aT).2⟩ (d λp c=>i p (a8 _ c))
  ·obtain⟨z,_,rfl⟩:=aZ.mp c;rfl
  ·obtain⟨z,_,rfl⟩:=aZ.mp c;rfl
 ·intro its ys kvs g o D C t xc zc M F N
  refine q D C (t.map (·.1)) xc ?_ ((F.map _).trans o.1) (N (o.1.nodup_iff.mpr U));show dh H m C ((t.map (·.1)).map λk=>(k,[]));rw[Bh λp c=>o.2 p (F.mem_iff.mp c)];exact M
end L2
namespace L2
open Spec PyProof.Rows W HT
theorem wD{K:Yh}{c:i'}:∀{bs:am FG},(∀B∈bs,kitOne K c (.ref B)=ih false)->kitAny K c (bs.map U3)=ih false
 |[],_=>rfl
 |B::bs,h=>by
  show kitAny K c (U3 B::bs.map U3)=_;unfold kitAny;rw[h B aT];exact wD λx a=>h x (a8 _ a)
theorem BO:∀{bs:am FG}{us:am i'},XU RelV (bs.map V.ref) us->us=bs.map U3
 |[],[],_=>rfl
 |_::_,_::_,.cons a r=>by cases a;rw[BO r];rfl
def Mf(K:Yh):List V->Hp->VK->Prop:=λxs H Q=>∃(a:FG) (n:Option i') (C:FG) (dx:Option FG) (t:FG) (bs:List FG),xs=[.ref a,.ref t]/\H a=ih (fG n C dx a)/\fA K C/\(∀d,dx=ih d ->∃fs,H d=ih (gz d fs))/\H t=ih (.tup (bs.map V.ref))/\(∀B∈bs,kitOne K (.ref C) (.ref B)=ih false)/\Q (.bl false) H
theorem wU:bY X (.builtin "isinstance") (Mf X.K):=by
 rintro J s σ H xs us Q I r ⟨a,n,C,dx,t,bs,rfl,o,f,p,v,x,q⟩;obtain⟨u,L,rfl,y,k⟩:=r.two;cases y;cases k
 obtain⟨_,its,A,⟨oc,od,G,Qn⟩,U,h2,B,D,_⟩:=(show bc X.prog X.w H s.heap t (.tup (bs.map V.ref)) from I.aD t _ v);obtain rfl:=BO A;cases h2;cases D
 have tp:s.heap.get? t=ih ⟨.type "tuple",od,.seq (bs.map U3).toArray B,Qn⟩:=U;have e:kitAny X.K (.ref C) (bs.map U3)=ih false:=wD x;obtain⟨ox,vs,c,g,i,j,_⟩:=(I.aD a _ o).1;cases dx with
 |none =>
  have b:InstAt s.heap a ox C none:=⟨c,g,by unfold notCls;rw[j],by rw[i];exact XW⟩
  exact kia_tup (ly f) I.cm b tp e (λz=>nomatch z) λtk=>⟨.bl false,H,I.tok _,rfl,q⟩
 |some d =>
  obtain⟨fs,E⟩:=p d rfl;obtain⟨_,M,F,_⟩:=I.pq E;obtain⟨l,m,_⟩:=mV F;have b:InstAt s.heap a ox C (ih l):=⟨c,g,by unfold notCls;rw[j],by rw[i];exact m⟩
  exact kia_tup (ly f) I.cm b tp e (λz=>nomatch z) λtk=>⟨.bl false,H,I.tok _,rfl,q⟩
theorem Io:bY X (.type "dict") (λxs H Q=>∃a kvs,xs=[.ref a]/\H a=ce kvs /\∀d,H d=none->Q (.ref d) (upd H d (.dK kvs))):=by
 rintro J s σ H xs us Q I r ⟨a,kvs,rfl,e,q⟩;obtain⟨u,rfl,i⟩:=vals1 r;cases i
 obtain⟨z,j,vs,c,k⟩:=nP I.aD e;have big:=I.big;refine kt_call_dict j k (by rw[<-c.length];exact z) λh' g l=>?_
 refine⟨.ref s.ax,_,I.laid (a:=s.ax) (o:=.dK kvs) (t':=s.toks) (λb o f=>?_) (aG _) (pL z (jU.mpr (a7 (bp big))) c g),rfl,q _ (I.aD.fresh (aG _))⟩;have m:b≠s.ax:=bp (a6 f);rw[l.2 b m];exact aV _ f
theorem K7:uX X "dict.pop" (λx xs H Q=>∃a kvs k v,x=.ref a/\xs=[kV k]/\H a=ce kvs/\bz kvs k=ih v/\Q v (upd H a (.dK (km kvs k)))):=by
 rintro J s σ H x xs v us Q I j r ⟨a,kvs,k,d,rfl,rfl,e,l,q⟩;cases j
 obtain⟨u,rfl,f⟩:=vals1 r;obtain⟨z,m,vs,b,g⟩:=nP I.aD e;obtain⟨n,p,i⟩:=gb.some_of (v:=d) (o:=valueAt vs k) (by rw[<-l];exact b.val k)
 refine call_meetsIn Vp g.typeIs PySem.F.entry_dict_pop (PySem.F.args_dict_pop_2 _ _) (meets_dict_pop_there (b5 X.prog X.w) a (ko f) [] (.inl rfl) (by cases k <;> (obtain⟨t,rfl⟩:=f;rfl)))
  ⟨vs,n,g,by rw[<-cC b];exact z,p,λh' c hs=>?_⟩
 obtain⟨o',es,ep,y,h2,A,B,C⟩:=id c;exact⟨d,_,sU (ob:=.dK (km kvs k)) I (by rw[e];exact XW) hs ⟨o',y⟩ (pL (e5 (Jt kvs k) z) m (b.drop k) c),i,q⟩
end L2
namespace L2
open Spec PyProof.Rows W
def iq(c:Nat):F4:=⟨#[c,c,c,c,c,c,c,c]⟩
theorem Bi:bW X (Yi .Mult) (λx y H Q=>∃c,x=.str ⟨#[c]⟩/\y=.int 8/\Q (.str (iq c)) H):=by
 rintro J s σ H x y v u Q I a b ⟨c,rfl,rfl,q⟩;obtain⟨t,rfl⟩:=a;obtain⟨t',rfl⟩:=b;refine P.mul_str (by decide) (λ_ _=>by show ¬ ((1:Int)>_);decide) (λ_ _=>by show abN (1 * 8)=false;decide +kernel) ?_
 rw[ak (by decide),ak (by show ¬ (_||(1:Nat)==0)=true;decide)]
 exact⟨by show 8<=UJ;decide,.str (iq c),H,I.tok _,⟨_,rfl⟩,q⟩
end L2
namespace L2
open Spec PyProof.Rows W HT
theorem KV.get{vs:am (Key×i')}(r:KV kvs vs){kv:Key×V}(h:kvs[i]?=ih kv):∃v,vs[i]?=ih (kv.1,v)/\RelV kv.2 v:=by
 induction r generalizing i with
 |nil=>cases h
 |@cons p q _ _ a _ b =>
  cases i with
  |zero=>cases h;exact⟨q.2,by rw[a.1];rfl,a.2⟩
  |succ i=>exact b h
end L2
namespace L2
open Spec PyProof.Rows W HS HT
section
variable{fs:am FG}
theorem IZ(k:b4 P w H h')(u:Un fs [] H H h h'):∀{as:am FG}{ks:am (F4×V)},XU (λa p=>h.get? a=none/\H a=none /\∃d x,h'.get? a=ih ({ cls:=.type "tuple",data:=.seq #[d,x] }:Ys)/\RelV (.str p.1) d/\RelV p.2 x) as ks->as.Nodup ->
  ∃H2,Un fs [] H H2 h h'/\b4 P w H2 h'/\ao H H2/\hC H2 (as.map V.ref) ks /\∀b,b ∉ as->H2 b=H b:=by
 intro as ks r
 induction r with
 |nil=>exact λ_=>⟨H,u,k,ao.refl _,.nil,λ_ _=>rfl⟩
 |@cons a p as ks e _ m =>
  intro f;obtain⟨n,f⟩:=eu.mp f;obtain⟨H2,s,l,t,pv,g⟩:=m f;obtain⟨n1,v,d,x,y,A,B⟩:=e;have h2:H2 a=none:=(g a n).trans v;have i:ao H2 (upd H2 a (.tup [.str p.1,p.2])):=λb o e=>by rw[ai (aB e h2)];exact e
  refine⟨upd H2 a (.tup [.str p.1,p.2]),s.add h2 n1,BE l h2 ⟨by rw[aJ];show 2<=_;decide,[d,x],.cons A (.cons B .nil),_,y,rfl,_,rfl,rfl⟩,λb o e=>i _ _ (t _ _ e),.cons ⟨a,rfl,ah⟩ (Paired.imp' (λ_ _ C=>by obtain⟨c,e,q⟩:=C;exact ⟨c,e,i _ _ q⟩) pv),λb j=>?_⟩
  rw[ai (show b≠a from λz=>j (by rw[z];exact aT)),g b λz=>j (a8 _ z)]
end
theorem HA{ks:am (F4×V)}(h:hC H vs ks):dh H 1 vs (ks.map λp=>([p.1],[p.2])):=by
 induction h with
 |nil=>exact .nil
 |cons e _ b=>obtain⟨a,e,q⟩:=e;exact .cons ⟨a,e,q,rfl⟩ b
theorem HB{kvs:am (List F4×List V)}(h:dh H 1 vs kvs)(b:∀p∈kvs,∃k v,p=([k],[v])):∃ks,hC H vs ks/\kvs=ks.map λp=>([p.1],[p.2]):=by
 induction h with
 |nil=>exact⟨[],.nil,rfl⟩
 |cons e _ c =>
  obtain⟨a,e,q,_⟩:=e;obtain⟨k,v,rfl⟩:=b _ aT;obtain⟨ks,pv,d⟩:=c λp f=>b p (a8 _ f);exact⟨(k,v)::ks,.cons ⟨a,e,q⟩ pv,by rw[d];rfl⟩
theorem Av{α β:Type}{R:α->β->Prop}:∀{as:am α}{bs:am β},as.length=bs.length->(∀(i:Nat) a b,as[i]?=ih a->bs[i]?=ih b->R a b)->XU R as bs
 |[],[],_,_=>.nil
 |[],_::_,h,_=>by simp at h
 |_::_,[],h,_=>by simp at h
 |a::as,b::bs,h,f=>.cons (f 0 a b rfl rfl) (Av (by simpa using h) λi x y c d=>f (i+1) x y (by simpa using c) (by simpa using d))
theorem Aw:∀as:am FG,Vals (as.map V.ref) (as.map U3)
 |[]=>.nil
 |_::as=>.cons rfl (Aw as)
def Mg(te:TE):TE:=λσ H Q=>te σ H λv H1=>∃d ks,v=.ref d/\H1 d=ih (.dK (fj ks))/\(ks.map (·.1)).Nodup/\ks.length<=63 /\∀D ys u0 H2,H1 D=none->ao H1 H2->H2 D=ih (.lst ys)->hC H2 ys u0->u0.Perm ks->(u0.map (·.1)).Pairwise (λa b=>bZ a b=true)->Q (.ref D) H2
theorem GQ{p:ZV}(zc:X.calm=true)(xd:Gl X "sorted")(yd:X.mg "sorted" = none)(zd:PE X e te)(U:U6 [.Call (.Attribute e "items" Ql) [] [] Qh] X.env=[(false,eval (.Call (.Attribute e "items" Ql) [] [] Qh) X.env)]:=by rfl)
  (P:attributeBase e "items" X.env (eval e X.env)=eval e X.env:=by rfl) (R:(Ql.endLine==Qh.line)=true:=by rfl):PE X (.Call (.Name "sorted" p) [.Call (.Attribute e "items" Ql) [] [] Qh] [] pos) (Mg te):=by
 intro J s σ H Q I h;refine mG (kb I xd yd (show Vx "sorted" = ih (.builtin "sorted") by decide +kernel) ?_)
 refine UM ?_ U rfl;rw[U];refine ZU (?_:UB _ _ (eval (.Call (.Attribute e "items" Ql) [] [] Qh) X.env) _ _ _);refine wpAny_Call_method (T:= "dict") (id:= "dict.items") P rfl R aax vW aaw (aI (zd J s σ H _ I h) λv s1 F=>?_);obtain⟨y,H1,j,xe,d,ks,ye,ze,xf,yk,q⟩:=F;subst ye;cases xe
 obtain⟨zk,hs,vs,B,g⟩:=nP j.aD ze;obtain⟨ep,S⟩:=g.dictAt;refine⟨g.typeIs,g.mapOf.noDict,?_⟩;refine method_meetsIn vW aal rfl (Vq ⟨rfl,g.typeIs,Z9 _,_,meets_dict_items (b5 X.prog X.w) d hs,⟨vs,g⟩,?_⟩);refine Z0 ?_;have yf:(fj ks).length=vs.length:=B.length;have W:ks.length=vs.length:=by rw[<-yf];unfold fj;rw[ar]
 have zf:∀b f,s1.heap.get? b=ih f->(s1.heap.push { cls:=.type "dict_items",data:=.fields #[.ref d] }).get? b=ih f:=λb f z=>aV _ z;have Y:(s1.heap.push { cls:=.type "dict_items",data:=.fields #[.ref d] }).DictAt (b5 X.prog X.w) d vs ep:=S.push _;have xa:(s1.heap.push { cls:=.type "dict_items",data:=.fields #[.ref d] }).IsItemsView s1.heap.objs.size d:=⟨_,bG _ rfl,rfl,rfl⟩;have ya:s1.heap.objs.size<=(s1.heap.push { cls:=.type "dict_items",data:=.fields #[.ref d] }).objs.size:=by rw[fq];exact jY _
 refine Aq λA E xl xg yg=>?_;refine kdx_collect (knd:=b5 X.prog X.w) (s:={ s1 with heap:=s1.heap.push { cls:=.type "dict_items",data:=.fields #[.ref d] } }) (xg (j.ok.hd zc)) xa Y (by rw[aJ];omega) λh' tk l zg xh G=>?_
 have C:∀b f,s1.heap.get? b=ih f->h'.get? b=ih f:=λb f z=>zg _ _ (zf _ _ z);have yh:∀a∈l,s1.heap.get? a=none/\H1 a=none:=λa n=>by
  have:s1.heap.objs.size<=a:=oz (Vr ya (G.above a n));exact⟨vf this,j.aD.fresh this⟩
 have pr:XU (λa (p:F4×V)=>s1.heap.get? a=none/\H1 a=none /\∃m x,h'.get? a=ih ({ cls:=.type "tuple",data:=.seq #[m,x] }:Ys)/\RelV (.str p.1) m/\RelV p.2 x) l ks:=by
  refine Av (xh.trans W.symm) λi a p n r=>?_;obtain⟨zh,xi⟩:=yh a (dQ n);obtain⟨m,k,x,K,yi,zi⟩:=G.pairs i a n;obtain⟨v,xj,yj⟩:=B.get (i:=i) (kv:=(Uz p.1,p.2)) (by unfold fj;rw[cx,r];rfl)
  rw[xj]at K;cases K
  exact⟨zh,xi,m,_,zi,sV (k:=Uz p.1) yi,yj⟩
 obtain⟨H2,zj,za,L,xb,_⟩:=IZ (j.aD.kept C) (Un.kept (fs:=X.fs) C) pr (G.rise.imp λh=>bp h);have yb:((ks.map λp=>(([p.1],[p.2]):am F4×List V)).map (·.1)).Nodup:=by
  rw[c5];have e:(ks.map ((λx=>x.1) ∘ λp=>(([p.1],[p.2]):am F4×List V)))=(ks.map (·.1)).map λx=>[x]:=by rw[c5];rfl
  rw[e,jg,ff];exact(jg.mp xf).imp λh z=>h (oM z).1
 refine yg (l.map U3) _ H2 (l.map V.ref) _ 1 (j.un (t':=tk) zj za) (Aw l) (HA xb) (aG _) yb (by rw[ar];omega) λD t xk M pm zb N u=>?_
 obtain⟨xc,yc,rfl⟩:=HB zb λp r=>by
  obtain⟨x,_,rfl⟩:=aZ.mp (N.mem_iff.mp r);exact⟨_,_,rfl⟩
 have O:ao H2 (upd H2 D (.lst t)):=λb o e=>by rw[ai (aB e M)];exact e
 refine q D t xc _ (L.free M) (λb o e=>O _ _ (L _ _ e)) ah (Paired.imp' (λ_ _ F=>by obtain⟨c,e,q⟩:=F;exact ⟨c,e,O _ _ q⟩) yc) ?_ ?_
 ·have:=N.map λp:am F4×List V=>((p.1.headD "",p.2.headD V.aN):F4×V)
  rw[c5,c5,show((λp:am F4×List V=>((p.1.headD "",p.2.headD V.aN):F4×V)) ∘ λp:F4×V=>(([p.1],[p.2]):am F4×List V))=id from rfl,vX,vX]at this;exact this
 ·rw[c5,ff]at u
  rw[ff];exact u.imp λ{a b} h=>by rw[<-pA];exact h
end L2
namespace L2
open Spec PyProof.Rows W HT
theorem Hi(d:FG)(a:(d==sysModules)=false) :
  MeetsIn P w (Ye.«dict.items» ⟨[.ref d],[]⟩) (λ_ R s=>(∃es ep,kA s.heap d es ep)/\R (.ok (.ret (.ref s.ax))) { s with heap:=s.heap.push { cls:=.type "dict_items",data:=.fields #[.ref d] } }):=
 .of_wp λA R s ⟨⟨es,ep,b⟩,h⟩=>by
  unfold Ye.«dict.items»;refine ae ?_;unfold abG;refine ae (wpAny_notOrdered_dict b.ty ?_);show UB _ _ (pure d) _ _ s;refine aj ?_;show UB _ _ (Zh d >>= _) _ _ s;unfold Zh;rw[ak (by rw[a];exact bX)]
  exact ae (aj (ae (e6 (aj ⟨_,rfl,h⟩))))
theorem HC{v:FG}{es:Array YA}{Q:i'->Gb->Prop}(a:s.heap.IsItemsView v d)(x:kA s.heap d es ep)
  (g:Q (.ref s.heap.objs.size) { s with heap:=s.heap.push { cls:=.type "dict_itemiterator",data:=.fields #[.none,.bool false,.ref d,.int 0 0,.int es.size 0,.int ep 0,.none,.none] } }):UB (UP P w) A (pyIter (.ref v)) Q E s:=by
 obtain⟨i,e,h,f⟩:=id a;obtain⟨o,c,j,b⟩:=id x;refine rA a.typeIs ZT (gV ZT a.typeIs F.entry_dict_items_iter ?_ (F.args_dict_items_iter_1 _));unfold Ye.«dict_items.__iter__»;refine ae (aj (ae ?_));unfold aac;refine ae (k4 e f (x:=.ref d) rfl (aj (ae ?_)));unfold aab;refine ae (Gn c b (ae (Gp c b ?_)));simp only[show Yt "dict_itemiterator" = true by decide,eP]
 refine e6 (aj ⟨_,rfl,"dict_itemiterator",_,⟨_,bG _ rfl,rfl⟩,rC.lookup,?_⟩) (by simp only[sizeOk,YQ,bM,df,cD,jf,aJ];omega)
 simpa [rawInt,YQ] using g
theorem HD{es:Array YA}{e:YA}{ok t:i'}{Q:ap i'->Gb->Prop}(B:Yz s.heap it d i es.size ep ok t)(x:kA s.heap d es ep)(U:es[i]?=ih e)
  (V:∀h',ZQ h' it d (i+1) es.size ep e.key e.val s.heap.objs.size->h'.get? s.heap.objs.size=ih { cls:=.type "tuple",data:=.seq #[e.key,e.val] }->h'.objs.size=s.heap.objs.size+1 ->
   (∀b o,b≠it->s.heap.get? b=ih o->h'.get? b=ih o)->Q (ih (.ref s.heap.objs.size)) { s with heap:=h' }):UB (UP P w) A (pyNext (.ref it)) Q E s:=by
 obtain⟨a,g,u,tk,os⟩:=s;obtain⟨od,N,W,O⟩:=id x;have f:Yr ⟨a,g,u,tk,os⟩ (.ref it) "dict_itemiterator" :=⟨_,B,rfl⟩;unfold pyNext;refine ae (rk (rj (name:=Yk "__next__") f rC
  (gV rC f Vt ?_ (Vu _))))
 refine ae (aj (ae (ae ?_)))
 first|refine ae (vY f (aj ?_))|refine ae (vZ f (aj ?_))
 refine ae (F6 B rfl ?_);simp only[show Yt "dict_itemiterator" = true by decide,eP]
 show UB _ _ (if (U3 d==Vw)=true then _ else _) _ _ _;rw[ak (show ¬ ((U3 d==Vw)=true) from bX)];refine ae (aj (ae (Gn N O ?_)));rw[ak (by simp)]
 refine ae (aj (ae (Gp N O ?_)));rw[ak (by simp)]
 refine aj ?_;simp only[show ¬ ((i:Int)<0) from by omega,ew,iy,U]
 refine ae ?_
 first|refine ae (vY f (aj ?_))|refine ae (vZ f (aj ?_))
 refine ae (Gq f ?_);show UB _ _ (setField (.ref it) 3 (rawInt ((i:Int)+1)) >>= _) _ _ ⟨a,g,u,tk,os⟩;refine ae (iF B (by simp) λc j k=>?_)
 replace k:X4 it a c:=k;replace j:Yz c it d (i+1) es.size ep ok t:=by
  have e:((i+1:Nat):Int)=(i:Int)+1:=by omega
  unfold Yz;rw[e];simpa [rawInt] using j
 have D:Yr ⟨c,g,u,tk,os⟩ (.ref it) "dict_itemiterator" :=⟨_,j,rfl⟩;refine ae (de ?_);refine ae (Gq D (ae (Gq D ?_)));show UB _ _ (YS (.ref it) 6 e.key e.val) _ _ ⟨c,g,u,tk,os⟩;unfold YS;refine ae (wpAny_newTuple ?_);have l:Yz (c.push { cls:=.type "tuple",data:=.seq #[e.key,e.val] }) it d (i+1) es.size ep ok t:=aV _ j;generalize v:c.push { cls:=.type "tuple",data:=.seq #[e.key,e.val] }=r at l;have y:c.objs.size=a.objs.size:=k.1;have C:it<a.objs.size:=a6 B;have R:r.get? a.objs.size=ih { cls:=.type "tuple",data:=.seq #[e.key,e.val] }:=by rw[<-v,<-y];exact bG _ rfl
 have S:r.objs.size=a.objs.size+1:=by rw[<-v,fq,y]
 have T:∀b o,b≠it->a.get? b=ih o->r.get? b=ih o:=λb o h e=>by rw[<-v];exact aV _ (k.extBut b o h e)
 show UB _ _ (YO (.ref it) >>= _) _ _ ⟨r,g,u,tk,os⟩;rw[y];clear v j k D y c;refine ae ?_;unfold YO;refine ae (k4 l rfl (x:=.none) rfl (aj ?_));simp only[eP];refine ae (k4 l rfl (x:=ok) rfl (ae (k4 l rfl (x:=t) rfl ?_)));refine ae (iF l (by simp) λK G m=>?_)
 replace m:X4 it r K:=m;replace G:Yz K it d (i+1) es.size ep e.key t:=G;refine ae (iF G (by simp) λL H n=>?_)
 replace n:X4 it K L:=n;replace H:Yz L it d (i+1) es.size ep e.key e.val:=H;refine ae (iF H (by simp) λM I p=>?_)
 replace p:X4 it L M:=p;replace I:ZQ M it d (i+1) es.size ep e.key e.val a.objs.size:=I;refine ae (iF I (by simp) λz J q=>?_)
 replace q:X4 it M z:=q;replace J:ZQ z it d (i+1) es.size ep e.key e.val a.objs.size:=J;refine ae (wpAny_letGo (aj (aj ⟨_,rfl,aj (V z J ?_ ?_ ?_)⟩)))
 ·exact q.extBut _ _ (hZ C) (p.extBut _ _ (hZ C) (n.extBut _ _ (hZ C) (m.extBut _ _ (hZ C) R)))
 ·show z.objs.size=a.objs.size+1
  rw[q.1,p.1,n.1,m.1,S]
 ·exact λb o h e=>q.extBut b o h (p.extBut b o h (n.extBut b o h (m.extBut b o h (T b o h e))))
theorem HE{es:Array YA}{ok h:i'}{Q:ap i'->Gb->Prop}(i:A.handled=none)(e:Yz s.heap it d es.size es.size ep ok h)(x:kA s.heap d es ep)
  (j:∀h',Heap.ExtBut it s.heap h'->Q none { s with heap:=h' }):UB (UP P w) A (pyNext (.ref it)) Q E s:=by
 obtain⟨od,f,k,g⟩:=id x;have c:s.TypeIs (.ref it) "dict_itemiterator" :=⟨_,e,rfl⟩;unfold pyNext;refine ae (rk (rj (name:=Yk "__next__") c rC
  (gV rC c Vt ?_ (Vu _))))
 refine ae (aj (ae (ae ?_)))
 first|refine ae (vY c (aj ?_))|refine ae (vZ c (aj ?_))
 refine ae (F6 e rfl ?_);simp only[show Yt "dict_itemiterator" = true by decide,eP]
 show UB _ _ (if (U3 d==Vw)=true then _ else _) _ _ s;rw[ak (show ¬ ((U3 d==Vw)=true) from bX)];refine ae (aj (ae (Gn f g ?_)));rw[ak (by simp)]
 refine ae (aj (ae (Gp f g ?_)));rw[ak (by simp)]
 refine aj ?_;simp only[show ¬ ((es.size:Int)<0) from by omega,ew,iy,jZ (aG es.size)]
 refine ae ?_
 first|refine ae (vY c (aj ?_))|refine ae (vZ c (aj ?_))
 show UB _ _ (setField (.ref it) 2 .none >>= _) _ _ s;refine ae (wpAny_setField e rfl (by simp) ?_)
 show UB _ _ (newExc (.type "StopIteration") [] >>= _) _ _ _;refine ae ?_;simp only[newExc,newTuple];refine ae (e6 ?_ (by size_fits))
 refine ae (m:=firstArgMember _ _) (wpAny_of_eq (a:=Vw) (by first|rfl|(simp only[firstArgMember];rfl)) ?_)
 refine e6 ?_ (by size_fits)
 simp only[raiseNew];refine ae (wpAny_handled ?_);rw[show A.in1.handled=none from i];refine ae (aj (vG ?_));refine ae (F7 (T:= "StopIteration") (b:=true) ⟨_,bG _ rfl,rfl⟩ isSubtype_stop ?_);exact aj (j _ (((mI ..).extBut.push _).push _))
def u1(d:FG)(o:Ys)(kvs:List (List Key×V)):It:=⟨λi H=>H d=ih (.aX o (.dT kvs))/\i<kvs.length,λi H x Y=>∃t kv b,H t=none/\x=.ref t/\kvs[i]?=ih kv/\H b=ih (.tup (kv.1.map kV))/\Y=upd H t (.tup [.ref b,kv.2]),λi H=>H d=ih (.aX o (.dT kvs))/\kvs.length<=i⟩
theorem Bj{kvs:am (List Key×V)}{es:Array YA}(I:Inv X J σ H s)(g:H d=ih (.aX o (.dT kvs)))(f:o.data=.dict es ep) :
  s.heap.get? d=ih o/\o.ExactDict/\es.size=kvs.length /\∀(i:Nat) (kv:am Key×V),kvs[i]?=ih kv ->∃(b:FG) (e:YA),es[i]?=ih e/\e.key=.ref b/\H b=bi (kv.1.map kV)/\RelV kv.2 e.val:=by
 obtain⟨U,z,y,xs,r,o',n,p,h2,h,a,c,q⟩:=(show bc X.prog X.w H s.heap d (.aX o (.dT kvs)) from I.aD d _ g);rw[U]at h2;cases h2
 rw[f]at a;cases a
 refine⟨U,h,by rw[size_of_entries c];exact(cC r).symm,λi kv j=>?_⟩
 obtain⟨x,k,t,l,m⟩:=Paired.get r j;exact⟨x.2.1,_,by rw[entry_at c,k];rfl,rfl,l,m⟩
theorem JU(d it:FG)(xd:d≠it)(o:Ys)(kvs:am (List Key×V))(es:Array YA)(ep:Nat)(u:o.data=.dict es ep) :
  Turn P w K (.Tuple Qt n1 tp) (u1 d o kvs) [it] it (λi h=>i<=kvs.length /\∃ok g,Yz h it d i es.size ep ok g) where
 mem:=by simp
 obj:=λi h st b a=>by
  obtain rfl:b=it:=by simpa using a
  obtain⟨_,ok,g,U⟩:=st;exact⟨_,U,λv q=>by cases q⟩
 keep:=λi h h' st k=>by
  obtain⟨l,ok,g,U⟩:=st;exact⟨l,ok,g,k it (by simp) _ U⟩
 item:=by
  intro X A B C hc i J s σ H E I D st j;subst A B C;have f:=D it (by simp)
  obtain⟨L,ok,g,U⟩:=st;obtain⟨F,G,N,O⟩:=Bj I j.1 u;have yd:i<kvs.length:=j.2;have M:kvs[i]?=ih kvs[i]:=bA j.2;obtain⟨b,e,S,T,a,W⟩:=O i _ M;refine HD U ⟨o,F,G,u⟩ S λh' Y xa z1 ya=>⟨_,rfl,?_⟩;refine wpAny_letOwnedTupleGo_items (s:={ s with heap:=h' }) Y λx za Q=>?_;have R:it≠s.ax:=bp (a6 U);have p:∀b o,b≠it->s.heap.get? b=ih o->x.get? b=ih o:=λb o n1 q=>(Q.2 b n1).trans (ya b o n1 q);have xb:x.get? s.ax=ih { cls:=.type "tuple",data:=.seq #[e.key,e.val] }:=(Q.2 _ (a7 R)).trans xa;have t:H s.ax=none:=I.aD.fresh (aG _);have lt:∀b o,s.heap.get? b=ih o->b≠s.ax:=λb o q=>bp (a6 q);have gR:∀b o,H b=ih o->b≠it:=λb o q z=>by rw[z,f.1]at q;cases q
  have y:∀b,b ∉ [it]->b≠it:=λb a z=>a (by simp[z])
  have yb:Inv X J σ (upd H s.ax (.tup [.ref b,kvs[i].2])) { s with heap:=x }:=by
   refine I.step (g':=s.gens) (d':=s.drawn) (t':=s.toks) (ch:=[it]) (λb a=>?_) (λb o _ _ hc q _=>p b o (y b hc) q) (λb o _ _ hc q _=>⟨o.slots,p b o (y b hc) q⟩)
    (λb o _ q n=>by rw[ai (lt b o q)];exact n) (λb o hc q=>⟨o,p b o (y b hc) q⟩) (λb ys q=>by rw[ai (aB q t)];exact q) (λb o v q=>by rw[ai (aB q t)];exact q)
    (λb ps q=>⟨#[],by rw[ai (aB q t),q];simp⟩) (λm zb=>?_) (λb o q=>?_) I.bare
   ·obtain rfl:b=it:=by simpa using a
    exact⟨f.2.2.2.1,f.2.1,f.2.2.2.2.1,f.2.2.2.2.2⟩
   ·obtain⟨o,es,ep,xc,r⟩:=zb
    exact⟨o,es,ep,p _ o (a7 f.2.1) xc,r⟩
   ·by_cases a:b=s.ax
    ·subst a
     rw[ah]at q;cases q;exact⟨by rw[aJ];show 2<=_;decide,[e.key,e.val],.cons (by rw[T];rfl) (.cons W .nil),_,xb,rfl,_,rfl,rfl⟩
    ·rw[ai a]at q
     refine(I.aD b o q).en (λc v hc z=>?_) (λc z=>by rw[ai (aB z t)];exact z) λc ys z=>by rw[ai (aB z t)];exact z
     rcases hc with hc|hc
     ·subst hc;exact p _ v (gR _ _ q) z
     ·exact p c v (gR _ _ hc) z
  refine⟨.ref s.ax,_,yb,rfl,⟨s.ax,kvs[i],b,t,rfl,M,a,rfl⟩,⟨j.2,_,_,za⟩,λb a=>?_⟩;obtain rfl:b=it:=by simpa using a
  rw[ai R];exact f.1
 done:=by
  intro X A B C hc i J s σ H E I D st j;subst A B C;have f:=D it (by simp)
  obtain⟨L,ok,g,U⟩:=st;obtain⟨F,G,N,O⟩:=Bj I j.1 u;have yc:i=es.size:=by rw[N];exact FZ L j.2
  rw[yc]at U;exact HE (I.ok.hd hc) U ⟨o,F,G,u⟩ λh' zc=>⟨rfl,I.turned (t':=s.toks) (λb o a q=>zc b o a q) f.1 f.2.1 f.2.2.2.1 f.2.2.2.2.1 f.2.2.2.2.2⟩
 self:=λ_ _ _ _ _ st h=>by
  obtain⟨_,ok,g,U⟩:=st;exact kcp_self U h
def K8(te:TE):TI:=λσ H R=>te σ H λv H1=>∃d kvs,v=.ref d/\H1 d=ih (.dT kvs) /\∀o,R (u1 d o kvs) (upd H1 d (.aX o (.dT kvs)))
theorem I0(u:PE X e te)(n:attributeBase e "items" X.env (eval e X.env)=eval e X.env:=by rfl)(p:(Ql.endLine==Qh.line)=true:=by rfl) :
  PI X (.Tuple Qt n1 tp) (.Call (.Attribute e "items" Ql) [] [] Qh) (K8 te):=by
 intro J s σ H R I h;refine wpAny_Call_method (T:= "dict") (id:= "dict.items") n rfl p aax vW aaw (aI (u J s σ H _ I h) λv s1 F=>?_);obtain⟨y,H1,g,x,d,kvs,A,e,q⟩:=F;subst A;cases x
 obtain⟨z,hs,xs,r,o,es,ep,c,l,i,E,G⟩:=(show bc X.prog X.w H1 s1.heap d (.dT kvs) from g.aD d _ e);have f:∀h:XY,h.get? d=ih o->kA h d es ep:=λh e=>⟨o,e,l,i⟩;refine⟨(f s1.heap c).ty,?_,?_⟩
 ·intro a e
  cases e
  exact⟨o,c,l.2.1⟩
 refine method_meetsIn vW aal rfl (Vq ⟨rfl,(f s1.heap c).ty,Z9 _,_,Hi d hs,⟨es,ep,f _ c⟩,?_⟩);have j:d≠s1.ax+1:=λz=>absurd (a6 c) (by rw[z];exact Nat.not_lt_of_le (jY _))
 have k:=aV { cls:=.type "dict_items",data:=.fields #[.ref d] } c;refine HC (s:={ s1 with heap:=s1.heap.push { cls:=.type "dict_items",data:=.fields #[.ref d] } }) ⟨_,bG _ rfl,rfl,rfl⟩ (f _ k) ?_;have m:(s1.heap.push { cls:=.type "dict_items",data:=.fields #[.ref d] }).objs.size=s1.ax+1:=fq ..;have B:Inv X J σ H1 { s1 with heap:=(s1.heap.push { cls:=.type "dict_items",data:=.fields #[.ref d] }).push { cls:=.type "dict_itemiterator",data:=.fields #[.none,.bool false,.ref d,.int 0 0,.int es.size 0,.int ep 0,.none,.none] } }:=g.kept (t':=s1.toks) λb K z=>aV _ (aV _ z);have st:0<=kvs.length /\∃ok C,Yz ((s1.heap.push { cls:=.type "dict_items",data:=.fields #[.ref d] }).push { cls:=.type "dict_itemiterator",data:=.fields #[.none,.bool false,.ref d,.int 0 0,.int es.size 0,.int ep 0,.none,.none] }) (s1.ax+1) d 0 es.size ep ok C:=
  ⟨ba _,.none,.none,by show abM _ (s1.ax+1)=_;rw[<-m];exact bG _ rfl⟩
 have t:H1 (s1.ax+1)=none:=g.aD.fresh (jY _);show uT X J σ _ R (.ref (s1.heap.push { cls:=.type "dict_items",data:=.fields #[.ref d] }).objs.size) _;rw[m];refine⟨s1.ax+1,[s1.ax+1],_,_,_,rfl,B.KZ e (aV _ k),JU d (s1.ax+1) j o kvs es ep i,st,λb D=>?_,q o⟩;obtain rfl:b=s1.ax+1:=by simpa using D
 exact g.il (jY _) (by rw[ai (a7 j)];exact t)
theorem HF{kvs:am (List Key×V)}{g:TG}(Pv:Nat->List V->St->Hp->Prop)(h0:Pv 0 [] gj (upd H1 p (.lst [])))(q:∀i ys a H,Pv i ys a H->H p=bn ys/\H d=ih (.aX o (.dT kvs)))
  (hs:∀i kv t b ys a H,kvs[i]?=ih kv->H t=none->H b=bi (kv.1.map kV)->Pv i ys a H->g (.ref t) a (upd H t (.tup [.ref b,kv.2])) λf r=>ti f r λb h=>if b=true then te f h λy j=>j p=bn ys/\ys.length<UJ /\∃c,c<kvs.length - i/\CW Pv kvs.length (i+1) c (ys++[y]) f (upd j p (.lst (ys++[y]))) else ∃c,c<kvs.length - i/\CW Pv kvs.length (i+1) c ys f h)
  (s:∀ys a H,Pv kvs.length ys a H->Q (.ref p) H):hF (u1 d o kvs) g ti te gj Q p H1:=by
 refine⟨CW Pv kvs.length,⟨kvs.length,by simp,ba _,h0⟩,?_⟩
 rintro i m ys a H ⟨rfl,hi,pv⟩;obtain⟨u,k⟩:=q i ys a H pv;refine⟨u,?_⟩
 by_cases l:i<kvs.length
 ·refine .inr ⟨⟨k,l⟩,λx B v=>?_⟩
  obtain⟨t,kv,b,w,ex,n,z,A⟩:=v;subst A;subst ex;exact hs i kv t b ys a _ n w z pv
 ·have e:i=kvs.length:=by omega
  subst e;exact .inl ⟨⟨k,aG _⟩,s ys a H pv⟩
theorem Inv.NG{σ:am (Option V)}(I:Inv X J σ H s)(i:H d=ih (.aX o (.dK kvs)))(h0:∀o u,X.gN d≠ih (.aX o u)):Inv X J σ (upd H d (.dK kvs)) s:=by
 obtain⟨_,ok⟩:=(show bc X.prog X.w H s.heap d (.aX o (.dK kvs)) from I.aD d _ i);have a:∀{b:FG}{u:HO},H b=ih u->u ≠ .aX o (.dK kvs)->b≠d:=λe n z=>by rw[z,i]at e;exact n (cS e).symm
 have f:∀{b:FG},H b=none->upd H d (.dK kvs) b=none:=λ{b} e=>by rw[ai (λz=>by rw[z,i]at e;cases e)];exact e
 refine⟨I.ok,I.os,I.bare,⟨I.base.keep,I.base.slot,λb g e n k=>f (I.base.free b g e n k),I.base.there,λb xs e=>?_,λb g u e=>?_,λb ps e=>?_⟩,I.loc,I.cell,f I.free,λx c e=>f (I.eG x c e),λp l=>?_,λb u e=>?_,I.len⟩
 ·rw[ai (a (I.base.gx b xs e) (by intro z;cases z))];exact I.base.gx b xs e
 ·have h:b≠d:=λz=>h0 g u (z ▸ e)
  rw[ai h];exact I.base.gM b g u e
 ·obtain⟨more,j⟩:=I.base.hH b ps e
  exact⟨more,by rw[ai (a j (by intro z;cases z))];exact j⟩
 ·obtain⟨m,r,t⟩:=I.pin p l
  exact⟨m,f r,t⟩
 ·by_cases h:b=d
  ·subst h
   rw[ah]at e;cases e
   exact ok.en (λ_ _ _ q=>q) (λc q=>by rw[ai (a q (by intro z;cases z))];exact q) λc xs q=>by rw[ai (a q (by intro z;cases z))];exact q
  ·rw[ai h]at e
   exact(I.aD b u e).en (λ_ _ _ q=>q) (λc q=>by rw[ai (a q (by intro z;cases z))];exact q) λc xs q=>by rw[ai (a q (by intro z;cases z))];exact q
def Mh(H0:Hp)(t:TE):TE:=λσ H Q=>t σ H λv Y=>∃d o kvs,Y d=ih (.aX o (.dK kvs))/\(∀o u,H0 d≠ih (.aX o u))/\Q v (upd Y d (.dK kvs))
theorem JV(a:PE X e te):PE X e (Mh X.gN te):=by
 intro J s σ H Q I h;exact aI (a J s σ H _ I h) λv s1 ⟨y,H1,b,c,d,o,kvs,f,h0,q⟩=>⟨y,_,b.NG f h0,c,q⟩
end L2
namespace L2
open Spec PyProof.Rows W
def kB(H:Hp)(v:V)(d:UA):Prop:= ∃(a t:FG) (x y:V) (o:Ys) (ws:List V) (ds:List UA) (dx dy:UA),v=.ref a/\H a=ih (.tup [.ref t,x,y])/\H t=ih (.aX o (.tup ws))/\bL H ws ds/\Rep H x dx/\Rep H y dy/\d=.tuple [.tuple ds,dx,dy]
theorem kB.reads(I:Inv X J σ H s){d:UA}(h:kB H v d)(r:RelV v u):∃as,Reads s.heap u d as:=by
 obtain⟨a,t,x,y,o,ws,ds,dx,G,rfl,j,k,rw,l,m,rfl⟩:=h;cases r
 obtain⟨_,its,b,K,c,p,n,q,_⟩:=(show bc X.prog X.w H s.heap a (.tup [.ref t,x,y]) from I.aD a _ j);obtain⟨_,_,D,e,E,f,g,L,i,_⟩:=(show bc X.prog X.w H s.heap t (.aX o (.tup ws)) from I.aD t _ k);obtain⟨F,z⟩:=bL.reads I rw e;cases b with
 |cons A b =>
  cases b with
  |cons B b =>
   cases b with
   |cons C b =>
    cases b
    cases A
    obtain⟨bs,U⟩:=Rep.reads I l B;obtain⟨M,h2⟩:=Rep.reads I m C;exact⟨_,.tuple c p q (.cons (.tuple f g i z) (.cons U (.cons h2 .nil)))⟩
def OZ:R2:=λx y H Q=>∃da db,kB H x da/\kB H y db/\da.canLay0=true/\db.canLay0=true/\da.depth<=60/\Q (.bl (Zj da db)) H
def O0:R2:=λx y H Q=>∃da db,kB H x da/\kB H y db/\da.canLay0=true/\db.canLay0=true/\da.depth<=60/\Q (.bl (!Zj da db)) H
theorem Mi(g:X.A.units+64<Yq):bW X (XR .Eq) OZ:=by
 rintro J s σ H x y v u Q I a b ⟨i,db,c,d,e,f,j,q⟩;obtain⟨k,U⟩:=c.reads I a;obtain⟨bs,h2⟩:=d.reads I b;exact ZF U h2 e f (by omega) ⟨.bl _,H,I,rfl,q⟩
theorem Mj(g:X.A.units+64<Yq):bW X (XR .NotEq) O0:=by
 rintro J s σ H x y v u Q I a b ⟨i,db,c,d,e,f,j,q⟩;obtain⟨k,U⟩:=c.reads I a;obtain⟨bs,h2⟩:=d.reads I b;exact ZE U h2 e f (by omega) ⟨.bl _,H,I,rfl,q⟩
end L2
namespace L2
open W
abbrev pr(x:F4)(s:VC):F4×VC:=(x,s)
def qZ(K:Yh):List (F4×VC)->Prop
 |[]=>True
 |p::r=>(∃f fd,aR K p.1 p.1 p.2 f fd/\nsIn K UX p.1=ih (ih (.ref f)))/\qZ K r
def uI(K:Yh):List F4->Prop
 |[]=>True
 |x::r=>nsIn K UX x=ih none/\uI K r
def uJ(K:Yh):List F4->List FG->Prop
 |x::r,a::s=>nsIn K UX x=ih (ih (.ref a))/\uJ K r s
 |_,_=>True
theorem NH{p:F4×VC}{r:am (F4×VC)}{kV:i'}(a:nsIn K UX p.1=ih (ih (.ref f)))
  (l:K.lookup f=ih ⟨oc,od,.func (fnOf p.1 p.1 (g8 p.2) (bE p.2) (aH p.2) .none kV Qg pm an Qc ct),Qn⟩) (c:codeIn K Qc p.1=true) (k:Yb K (.ref f)=true) (g:qZ K r):qZ K (p::r):=⟨⟨f,_,L0 l c k,a⟩,g⟩
theorem nF{p:F4×VC}(X:K.In h)(G:h.Ns UX mg)(d:∃f fd,aR K p.1 p.1 p.2 f fd/\nsIn K UX p.1=ih (ih (.ref f)))(ps:am F4)
  (b:∀(kV Qg pm:i') (an:ap FG) (Qc ct:i') (us:am i'),us.length=ps.length->bindArgs (fnOf p.1 p.1 (g8 p.2) (bE p.2) (aH p.2) .none kV Qg pm an Qc ct) ⟨us,[]⟩=pure (ps.zip us)) :
  ∃f fd,aR K p.1 p.1 p.2 f fd/\Yb K (.ref f)=true/\Binds K fd ps []/\mg p.1=ih (.ref f):=by
 obtain⟨f,fd,F,a⟩:=d;exact⟨f,fd,F,F.kp,F.binds b,mg_of X G a⟩
theorem qa(h:us.length=n+1):∃u r,us=u::r/\r.length=n:=by
 cases us with
 |nil=>cases h
 |cons u r=>exact⟨u,r,rfl,Nat.succ.inj h⟩
theorem DM(h:us.length=2):∃a b,us=[a,b]:=by
 obtain⟨a,r,rfl,h2⟩:=qa h;obtain⟨b,rfl⟩:=v7.mp h2;exact⟨a,b,rfl⟩
theorem DN(h:us.length=3):∃a b c,us=[a,b,c]:=by
 obtain⟨a,r,rfl,h2⟩:=qa h;obtain⟨b,c,rfl⟩:=DM h2;exact⟨a,b,c,rfl⟩
theorem DO(h:us.length=4):∃a b c d,us=[a,b,c,d]:=by
 obtain⟨a,r,rfl,h2⟩:=qa h;obtain⟨b,c,d,rfl⟩:=DN h2;exact⟨a,b,c,d,rfl⟩
theorem ek{p:F4×VC}(X:K.In h)(G:h.Ns UX mg)(d:∃f fd,aR K p.1 p.1 p.2 f fd/\nsIn K UX p.1=ih (ih (.ref f)))(c:F4)
  (b:∀(kV Qg pm:i') (an:ap FG) (Qc ct a:i'),bindArgs (fnOf p.1 p.1 (g8 p.2) (bE p.2) (aH p.2) .none kV Qg pm an Qc ct) ⟨[a],[]⟩=pure ([c].zip [a]):=by intros;rfl) :
  ∃f fd,aR K p.1 p.1 p.2 f fd/\Yb K (.ref f)=true/\Binds K fd [c] []/\mg p.1=ih (.ref f):=nF X G d _ λkV Qg pm an Qc ct us h=>by obtain⟨a,rfl⟩:=v7.mp h;exact b _ _ _ _ _ _ _
theorem eV{p:F4×VC}(X:K.In h)(G:h.Ns UX mg)(d:∃f fd,aR K p.1 p.1 p.2 f fd/\nsIn K UX p.1=ih (ih (.ref f)))(e g:F4)
  (b:∀(kV Qg pm:i') (an:ap FG) (Qc ct a c:i'),bindArgs (fnOf p.1 p.1 (g8 p.2) (bE p.2) (aH p.2) .none kV Qg pm an Qc ct) ⟨[a,c],[]⟩=pure ([e,g].zip [a,c]):=by intros;rfl) :
  ∃f fd,aR K p.1 p.1 p.2 f fd/\Yb K (.ref f)=true/\Binds K fd [e,g] []/\mg p.1=ih (.ref f):=nF X G d _ λkV Qg pm an Qc ct us h=>by obtain⟨a,c,rfl⟩:=DM h;exact b _ _ _ _ _ _ _ _
theorem jr{p:F4×VC}(X:K.In h)(G:h.Ns UX mg)(d:∃f fd,aR K p.1 p.1 p.2 f fd/\nsIn K UX p.1=ih (ih (.ref f)))(g i j:F4)
  (b:∀(kV Qg pm:i') (an:ap FG) (Qc ct a c e:i'),bindArgs (fnOf p.1 p.1 (g8 p.2) (bE p.2) (aH p.2) .none kV Qg pm an Qc ct) ⟨[a,c,e],[]⟩=pure ([g,i,j].zip [a,c,e]):=by intros;rfl) :
  ∃f fd,aR K p.1 p.1 p.2 f fd/\Yb K (.ref f)=true/\Binds K fd [g,i,j] []/\mg p.1=ih (.ref f):=nF X G d _ λkV Qg pm an Qc ct us h=>by obtain⟨a,c,e,rfl⟩:=DN h;exact b _ _ _ _ _ _ _ _ _
theorem nv{p:F4×VC}(X:K.In h)(G:h.Ns UX mg)(d:∃f fd,aR K p.1 p.1 p.2 f fd/\nsIn K UX p.1=ih (ih (.ref f)))(i j k l:F4)
  (b:∀(kV Qg pm:i') (an:ap FG) (Qc ct a c e g:i'),bindArgs (fnOf p.1 p.1 (g8 p.2) (bE p.2) (aH p.2) .none kV Qg pm an Qc ct) ⟨[a,c,e,g],[]⟩=pure ([i,j,k,l].zip [a,c,e,g]):=by intros;rfl) :
  ∃f fd,aR K p.1 p.1 p.2 f fd/\Yb K (.ref f)=true/\Binds K fd [i,j,k,l] []/\mg p.1=ih (.ref f):=nF X G d _ λkV Qg pm an Qc ct us h=>by obtain⟨a,c,e,g,rfl⟩:=DO h;exact b _ _ _ _ _ _ _ _ _ _
theorem K9{p:F4×VC}(X:K.In h)(G:h.Ns UX mg)(d:∃f fd,aR K p.1 p.1 p.2 f fd/\nsIn K UX p.1=ih (ih (.ref f)))(j k l m n:F4)
  (b:∀(kV Qg pm:i') (an:ap FG) (Qc ct a c e g i:i'),bindArgs (fnOf p.1 p.1 (g8 p.2) (bE p.2) (aH p.2) .none kV Qg pm an Qc ct) ⟨[a,c,e,g,i],[]⟩=pure ([j,k,l,m,n].zip [a,c,e,g,i]):=by intros;rfl) :
  ∃f fd,aR K p.1 p.1 p.2 f fd/\Yb K (.ref f)=true/\Binds K fd [j,k,l,m,n] []/\mg p.1=ih (.ref f):=nF X G d _ λkV Qg pm an Qc ct us h=>by obtain⟨a,r,rfl,h2⟩:=qa h;obtain⟨c,e,g,i,rfl⟩:=DO h2;exact b _ _ _ _ _ _ _ _ _ _ _
theorem BP(X:K.In h)(G:h.Ns UX mg):∀{xs:am F4},uI K xs ->∀x∈xs,mg x=none
 |y::r,z,x,m=>by
  rcases bu.mp m with rfl|q
  ·exact mg_none_of X G z.1
  ·exact BP X G z.2 x q
theorem BQ(X:K.In h)(G:h.Ns UX mg):∀{xs:am F4}{as:am FG} (i:Nat) {x:F4}{a:FG},uJ K xs as->xs[i]?=ih x->as[i]?=ih a->mg x=ih (.ref a)
 |y::r,b::s,0,x,a,z,e,c=>by cases e;cases c;exact mg_of X G z.1
 |y::r,b::s,i+1,x,a,z,e,c=>BQ X G (xs:=r) (as:=s) i z.2 e c
end L2
namespace L2
def dg(k:Nat):List (List F4)->F4->Option (Nat×F4)
 |[],_=>none
 |[]::rest,n=>dg (k+1) rest n
 |(x::r)::rest,n=>if n∈x::r/\x≠n then ih (k,x) else dg (k+1) rest n
theorem wk{k:Nat}{n:F4}(h : ¬ (n∈r/\r.head? ≠ ih n)):dg k (r::rest) n=dg (k+1) rest n:=by
 cases r with
 |nil=>rfl
 |cons x r=>exact ak λz=>h ⟨z.1,by simpa using z.2⟩
theorem Hj{k:Nat}{n:F4}(h:n∈x::r/\x≠n):dg k ((x::r)::rest) n=ih (k,x):=by
 exact aw h
def g7(all:List (List F4)):List (List F4)->Option F4
 |[]=>none
 |[]::rest=>g7 all rest
 |(x::_)::rest=>if (dg 0 all x).isNone then ih x else g7 all rest
def fg(rest:List (List F4)):Option F4:=g7 rest rest
def without(n:F4)(rest:List (List F4)):List (List F4):=rest.map λr=>r.filter λy=>!decide (y=n)
def total(rest:List (List F4)):Nat:=(rest.map YI).sum
def cf:Nat->List (List F4)->Option (List F4)
 |0,_=>ih []
 |k+1,rest=>if (rest.any λr=>!r.isEmpty)=true then (match fg rest with|none=>none|some n=>(cf k (without n rest)).map (n :: ·)) else ih []
theorem rK{all:am (List F4)}{n:F4}:∀{rest:am (List F4)},g7 all rest=ih n ->∃r∈rest,r.head?=ih n
 |[],h=>by cases h
 |[]::rest,h=>let ⟨r,a,e⟩:=rK (rest:=rest) h;⟨r,a8 _ a,e⟩
 |(x::t)::rest,h=>by
  have h:(if (dg 0 all x).isNone then ih x else g7 all rest)=ih n:=h;split at h
  ·cases h;exact⟨n::t,aT,rfl⟩
  ·obtain⟨r,a,e⟩:=rK (rest:=rest) h
   exact⟨r,a8 _ a,e⟩
theorem wg(n:F4):∀rest:am (List F4),total (without n rest)<=total rest
 |[]=>aG _
 |r::rest=>by
  have U:=wg n rest;have h2:=fu (λy=>!decide (y=n)) r;simp only[total,without,bD,v8]at *;omega
theorem lh{n:F4}:∀{rest:am (List F4)},(∃r∈rest,n∈r)->total (without n rest)<total rest
 |[],⟨_,h,_⟩=>by simp at h
 |r::rest,⟨q,hq,a⟩=>by
  have U:=wg n rest;have h2:=fu (λy=>!decide (y=n)) r;rcases bu.mp hq with rfl|hq
  ·have b:(q.filter λy=>!decide (y=n)).length<q.length:=by
    exact List.length_filter_lt_length_iff_exists.mpr ⟨n,a,by simp⟩
   simp only[total,without,bD,v8]at *;omega
  ·have b:=lh ⟨q,hq,a⟩
   simp only[total,without,bD,v8]at *;omega
theorem le_total{r:am F4}:∀{rest:am (List F4)},r∈rest->r.length<=total rest
 |[],h=>by simp at h
 |q::rest,h=>by
  have e:total (q::rest)=q.length+total rest:=by simp[total]
  rcases bu.mp h with rfl|h
  ·omega
  ·have:=le_total h
   omega
theorem Ax(h:(rest.any λr=>!r.isEmpty)=true):0<total rest:=by
 obtain⟨r,a,e⟩:=oF.mp h;have U:0<r.length:=by cases r with
  |nil=>simp at e
  |cons _ _=>simp
 have h2:r.length<=total rest:=le_total a;omega
def dj(H:Hp)(vs:List V)(rows:List (List F4)):Prop:=XU (λy r=>∃a,y=V.ref a/\H a=ih (.tup (r.map V.str))) vs rows
theorem dj.same(h:dj H vs rows)(s:ao H Y):dj Y vs rows:=Paired.imp' (λ_ _ b=>by obtain⟨a,e,q⟩:=b;exact ⟨a,e,s _ _ q⟩) h
theorem dj.length(h:dj H vs rows):vs.length=rows.length:=cC h
theorem dj.get{H:Hp}:∀{vs:am V}{rows:am (List F4)}{i:Nat}{v:V},dj H vs rows->vs[i]?=ih v ->∃a r,v=V.ref a/\rows[i]?=ih r/\H a=bi (r.map V.str)
 |_,_,i,v,.nil,e=>by simp at e
 |_,_,0,v,.cons p _,e=>by
  obtain⟨a,rfl,q⟩:=p;simp at e;subst e;exact⟨a,_,rfl,rfl,q⟩
 |_,_,i+1,v,.cons _ t,e=>by
  obtain⟨a,r,b,c,q⟩:=dj.get (i:=i) t (by simpa using e)
  exact⟨a,r,b,by simpa using c,q⟩
theorem dj.append{H:Hp}{vs:am V}{rows:am (List F4)}{a:FG}{r:am F4}:dj H vs rows->H a=bi (r.map V.str)->dj H (vs++[.ref a]) (rows++[r])
 |.nil,q=>.cons ⟨a,rfl,q⟩ .nil
 |.cons p t,q=>.cons p (dj.append t q)
end L2
namespace eL
open L2 W
def top(i:Nat):VC:=aaP.main.body.getD i (.Pass ⟨0,0,0,0⟩)
noncomputable abbrev ny:VC:=top 20
noncomputable abbrev tf:VC:=top 21
noncomputable abbrev nz:VC:=top 31
noncomputable abbrev pO:VC:=top 32
noncomputable abbrev nU:VC:=top 33
noncomputable abbrev lM:VC:=top 43
noncomputable abbrev m2:VC:=top 44
noncomputable abbrev nh:VC:=top 54
noncomputable abbrev tj:VC:=top 55
noncomputable abbrev ni:VC:=top 56
noncomputable abbrev uK:VC:=top 63
noncomputable abbrev nG:VC:=top 64
noncomputable abbrev iO:VC:=top 65
noncomputable abbrev h9:VC:=top 66
noncomputable abbrev nH:VC:=top 67
noncomputable abbrev se:VC:=top 68
noncomputable abbrev nj:VC:=top 69
noncomputable abbrev tm:VC:=top 70
noncomputable abbrev tq:VC:=top 71
noncomputable abbrev uj:VC:=top 72
noncomputable abbrev nI:VC:=top 73
noncomputable abbrev uk:VC:=top 74
noncomputable abbrev tu:VC:=top 75
noncomputable abbrev nJ:VC:=top 76
noncomputable abbrev gP:VC:=top 81
noncomputable abbrev tw:VC:=top 22
noncomputable abbrev iP:VC:=top 38
noncomputable abbrev tx:VC:=top 39
noncomputable abbrev j7:VC:=top 46
noncomputable abbrev sf:VC:=top 47
noncomputable abbrev sE:VC:=top 49
noncomputable abbrev j2:VC:=top 50
noncomputable abbrev rW:VC:=top 51
noncomputable abbrev j8:VC:=top 52
noncomputable abbrev tX:VC:=top 53
noncomputable abbrev tY:VC:=top 57
noncomputable abbrev tZ:VC:=top 58
noncomputable abbrev tD:VC:=top 59
noncomputable abbrev t6:VC:=top 60
noncomputable abbrev m3:VC:=top 61
noncomputable abbrev pd:VC:=top 77
noncomputable abbrev tF:VC:=top 80
noncomputable abbrev uL:VC:=top 79
noncomputable abbrev sF:VC:=top 19
noncomputable abbrev tG:VC:=top 40
noncomputable abbrev tH:VC:=top 42
noncomputable abbrev sG:VC:=top 26
noncomputable abbrev m4:VC:=top 27
noncomputable abbrev tI:VC:=top 28
noncomputable abbrev tJ:VC:=top 29
noncomputable abbrev nK:VC:=top 35
noncomputable abbrev nV:VC:=top 41
noncomputable abbrev um:VC:=top 78
structure b7(mg:F4->Option i'):Prop where
 len:mg "len" = none
 max:mg "max" = none
 min:mg "min" = none
 abs:mg "abs" = none
 range:mg "range" = none
 any:mg "any" = none
 all:mg "all" = none
 list:mg "list" = none
 tuple:mg "tuple" = none
 P6:mg "enumerate" = none
theorem jP{y:F4}:cU ((y::r).map V.str) 0=ih (V.str y):=(show cU ((y::r).map V.str) ((0:Nat):Int)=ih (V.str y) from b2 rfl)
theorem ay{q:FG}{o:HO}(a:H q=none):ao H (upd H q o):=λb u e=>by rw[ai (aB e a)];exact e
theorem JW{g:TG}{tb:TS}(Pv:Nat->St->Hp->Prop)(h0:Pv 0 σ H)(h:∀i σ H,i<=xs.length->Pv i σ H->aq K H a xs)
  (hs:∀i x σ H t,xs[i]?=ih x->Pv i σ H->H t=none->g (.ref t) σ (upd H t (.tup [.int i,x])) λb H2=>tb { D with nx:=Pv (i+1),ct:=Pv (i+1),bk:=D.nx } b H2) (j:∀σ H,Pv xs.length σ H->D.nx σ H) :
  ∃W:Nat->Nat->St->Hp->Prop,(∃m,W 0 m σ H) /\∀i m σ H,W i m σ H ->
   ((oj K a).stop i H/\D.nx σ H)\/((oj K a).go i H /\∃N:St->Hp->Prop,(∀c Y,N c Y ->∃f,f<m/\W (i+1) f c Y) /\∀x Y,(oj K a).jJ i H x Y->g x σ Y λb H2=>tb { D with nx:=N,ct:=N,bk:=D.nx } b H2):=by
 refine⟨λi m σ H=>m=xs.length - i/\i<=xs.length/\Pv i σ H,⟨xs.length,by simp,ba _,h0⟩,?_⟩
 rintro i m σ H ⟨rfl,hi,p⟩;have q:=h i σ H hi p
 by_cases d:i<xs.length
 ·refine .inr ⟨⟨xs,xs[i],q,by simp[d]⟩,Pv (i+1),λc Y k=>⟨xs.length - (i+1),by omega,rfl,d,k⟩,λx Y y=>?_⟩
  obtain⟨t,v,l,rfl,n,rfl⟩:=y;exact hs i v σ _ t (n xs q) p l
 ·have e:i=xs.length:=by omega
  subst e;exact .inl ⟨⟨xs,q,aG _⟩,j σ H p⟩
inductive pP(vs:List V)(H:Hp)(Q:VK)(E:XK):Prop
 |mk{l:FG}{ws:List V}{rows:List (List F4)}{n:F4}(_:vs=[.ref l,.str n])(_:H l=ih (.lst ws))(_:dj H ws rows)(_:(dg 0 rows n=none ->∀Y,ao H Y->Q .aN Y))(_:(∀i x,dg 0 rows n=ih (i,x) ->∀p Y,H p=none->ao H Y->Y p=ih (.tup [.int i,.str x,.str n])->Q (.ref p) Y)):pP vs H Q E
theorem t7:bg ["rest","name","at","row"] ["rest","name"] (aH nU):=bB
theorem K'(F:aR K "wish_against" "wish_against" nU f fd)(B:b7 mg):aU P w K mg base aC 1 f fd ["rest","name"] pP:=by
 refine F.cz t7 λQc A outer s H vs Q E S h=>?_
 ·obtain @⟨l,ws,rows,n,rfl,q,u,L,M⟩:=h
  intro X;refine⟨_,aF (gu fZ rfl (Kx rfl B.P6 (aa (pv 0) af)) (kc rfl (cH (a4 2 t7.nd) (cH (a4 3 t7.nd) gJ)))
    (aA (bf (PW.pt (pw_and (bC mW (pv 1) (pv 3) rfl) (pw_and1 (bC iR (aW bR (pv 3) au) (pv 1) (bh _)))))
     (aA (aO (cZ (aa (pv 2) (aa (aW bR (pv 3) au) (aa (pv 1) af)))))) bw)))
   (aA (aO iN)),?_⟩
  refine ag rfl ⟨l,rfl,⟨_,aq.of q⟩,JW (xs:=ws) (λi σ H1=>∃j k:ap V,σ=[bd l,ih (.str n),j,k]/\ao H H1/\dg i (rows.drop i) n=dg 0 rows n) ⟨none,none,rfl,ao.refl _,by simp⟩ (λi σ H1 _ T=>by obtain⟨_,_,_,z,_⟩:=T;exact aq.of (z _ _ q)) ?_ ?_⟩
  ·rintro i x σ H1 t N ⟨j,k,rfl,m,b⟩ O
   obtain⟨a,r,rfl,D,G⟩:=u.get N;have c:ao H (upd H1 t (.tup [.int i,.ref a])):=m.trans (ay O);have d:=c _ _ G;have I:rows.drop i=r::rows.drop (i+1):=by
    have hi:=(bQ.mp D);obtain⟨J,rfl⟩:=hi;exact vD J
   rw[I]at b;refine⟨t,_,rfl,aE.of ah,rfl,_,_,rfl,_,_,rfl,rfl,?_⟩;refine bj rfl rfl ⟨a,_,rfl,.inr (aE.of d),rfl,h7 _,_,rfl,?_⟩;rw[ak bX,iJ];refine dm (λe=>?_) (λe=>?_)
   ·have o:n∈r:=by simpa using e
    cases r with
    |nil=>simp at o
    |cons y r =>
     refine ag rfl (d3 d jP (ag rfl ⟨rfl,_,rfl,?_⟩));refine dm (λg=>?_) (λg=>?_)
     ·have C:y≠n:=λz=>by subst z;simp at g
      refine bj rfl rfl (d3 d jP (ag rfl ⟨hT,λp v=>?_⟩));rw[Hj ⟨o,C⟩]at b;exact M i y b.symm p _ (c.free v) (c.trans (ay v)) ah
     ·have R:y=n:=by
       by_cases z:y=n
       ·exact z
       ·exact absurd (by simp[z]) g
      refine⟨_,_,rfl,c,?_⟩;rw[<-b,wk λz=>z.2 (by rw[R];rfl)]
   ·refine⟨_,_,rfl,c,?_⟩
    rw[<-b,wk λz=>e (by simpa using z.1)]
  ·rintro σ H1 ⟨j,k,rfl,m,b⟩
   rw[u.length,Gr]at b;exact L b.symm H1 m
def DP:Option F4->V
 |none=>.aN
 |some n=>.str n
inductive pB(vs:List V)(H:Hp)(Q:VK)(E:XK):Prop
 |mk{l:FG}{ws:List V}{rows:List (List F4)}(_:vs=[.ref l])(_:H l=ih (.lst ws))(_:dj H ws rows)(_:∀Y,ao H Y->Q (DP (fg rows)) Y):pB vs H Q E
theorem BR:bg ["rest","row"] ["rest"] (aH pO):=bB
theorem JX{g:XX}(F:aR K "least_free" "least_free" pO f fd)(B:b7 mg)(t:aR K "wish_against" "wish_against" nU fW g)(I:Binds K g ["rest","name"] [])(J:mg "wish_against" = ih (.ref fW)) :
  aU P w K mg base aC 2 f fd ["rest"] pB:=by
 have GW:aU P w K mg base aC 1 fW g ["rest","name"] pP:=K' t B;refine F.cz BR λQc A outer s H vs Q E L h=>?_
 ·obtain @⟨l,ws,rows,rfl,m,n,q⟩:=h
  have u:aQ 1 _:=L;intro X;refine⟨_,aF (gu fZ rfl (ez (pv 0)) (a4 1 BR.nd)
    (aA (bf (PW.pt (pw_and (m7 (pv 1) (λ_=>rfl)) (pw_and1 (bC pK (dA GW u rfl J t.kp I .nil dH (aa (pv 0) (aa (aW bR (pv 1) au) af))) iN (bh _)))))
     (aA (aO (aW bR (pv 1) au))) bw)))
   (aA (aO iN)),?_⟩
  refine ag rfl ⟨l,rfl,⟨_,aq.of m⟩,lu (xs:=ws) (λi σ H1=>∃o:ap V,σ=[bd l,o]/\ao H H1/\g7 rows (rows.drop i)=fg rows) ⟨none,rfl,ao.refl _,by simp[fg]⟩ (λi σ H1 _ R=>by obtain⟨_,_,z,_⟩:=R;exact aq.of (z _ _ m)) ?_ ?_⟩
  ·rintro i x σ H1 M ⟨o,rfl,c,b⟩
   obtain⟨a,r,rfl,v,C⟩:=n.get M;have k:=c _ _ C;have D:rows.drop i=r::rows.drop (i+1):=by
    obtain⟨G,rfl⟩:=bQ.mp v;exact vD G
   rw[D]at b;refine ag rfl ⟨!(r.map V.str).isEmpty,.inr (.inl ⟨_,aE.of k,rfl⟩),?_⟩;cases r with
   |nil=>exact ag rfl ⟨c,b⟩
   |cons y r =>
    have b:(if (dg 0 rows y).isNone then ih y else g7 rows (rows.drop (i+1)))=fg rows:=b;refine bj rfl rfl (d3 k jP ?_);refine pP.mk rfl (c _ _ m) (n.same c) (λN H2 d=>?_) (λj z es p H2 O d h2=>?_)
    ·refine⟨rfl,_,rfl,?_⟩
     refine ag rfl (d3 (d _ _ k) jP ?_);rw[N]at b;have e:fg rows=ih y:=b.symm;have:=q H2 (c.trans d);rw[e]at this;exact this
    ·refine⟨rfl,_,rfl,?_⟩
     rw[es]at b;exact ag rfl ⟨c.trans d,b⟩
  ·rintro σ H1 ⟨o,rfl,c,b⟩
   rw[n.length,Gr]at b;have e:fg rows=none:=b.symm;have:=q H1 c;rw[e]at this;exact this
def pC(s:VC):List VC:=match s with|.For _ _ b _ _=>b|_=>[]
def m5(s:VC):List VC:=match s with|.While _ b _ _=>b|_=>[]
def bH(l:List VC)(i:Nat):VC:=l.getD i (.Pass ⟨0,0,0,0⟩)
def e4(s:VC):Vo:=match s with|.Assign _ v _=>v|_=>.Constant .none 0 ⟨0,0,0,0⟩
def ir(s:VC):Vo:=match s with|.Return (ih v) _=>v|_=>.Constant .none 0 ⟨0,0,0,0⟩
def c9(e:Vo):Vo:=match e with|.Call _ (a::_) _ _=>a|_=>.Constant .none 0 ⟨0,0,0,0⟩
def O1(e:Vo):Vo:=match e with|.Subscript a _ _=>a|_=>.Constant .none 0 ⟨0,0,0,0⟩
def CZ(e:Vo):Vo:=match e with|.ListComp x _ _ _=>x|_=>.Constant .none 0 ⟨0,0,0,0⟩
def bS(e:Vo):YL:=match e with|.ListComp _ _ sc _=>sc|_=>{ kind:=.function,names:=[],isGenerator:=false,isCoroutine:=false }
theorem boot_tuple:Vx "tuple" = ih (.type "tuple"):=by decide +kernel
theorem boot_list:Vx "list" = ih (.type "list"):=by decide +kernel
structure Small(rows:List (List F4)):Prop where
 bN:rows.length<=10
 short:∀r∈rows,r.length<=20
 nm:∀r∈rows,∀n∈r,Nm n
theorem Mk{hs:am F4}(a:ps.Nodup)(h:∀n∈ps,n∈hs):ps.length<=hs.length:=by
 by_cases z:ps.length<=hs.length
 ·exact z
 ·obtain⟨y,b,c⟩:=tT (found:=hs) a (by omega)
  exact absurd (h y b) c
theorem wV(h:total rest=0):(rest.any λr=>!r.isEmpty)=false:=by
 cases e:rest.any λr=>!r.isEmpty with
 |false=>rfl
 |true=>have:=Ax e;omega
theorem lq{n:F4}(h:fg rest=ih n):∃r∈rest,n∈r:=by
 obtain⟨r,a,e⟩:=rK h;exact⟨r,a,List.mem_of_head? e⟩
theorem wW:∀(k:Nat) (r:am (List F4)),total r<=k ->∀j,total r<=j->cf k r=cf j r
 |0,r,h,j,_=>by
  have z:=wV (show total r=0 by omega)
  cases j with
  |zero=>rfl
  |succ j=>unfold cf;rw[ak (by rw[z];exact bX)]
 |k+1,r,h,0,a=>by
  have z:=wV (show total r=0 by omega)
  unfold cf;rw[ak (by rw[z];exact bX)]
 |k+1,r,h,j+1,a=>by
  unfold cf;split
  ·cases e:fg r with
   |none=>rfl
   |some n =>
    have:=lh (lq e);show ZJ _ _=ZJ _ _;rw[wW k (without n r) (by omega) j (by omega)]
  ·rfl
theorem rX{r:am (List F4)}(h:(r.any λr=>!r.isEmpty)=false):cf (total r) r=ih []:=by
 cases total r with
 |zero=>rfl
 |succ k=>unfold cf;rw[ak (by rw[h];exact bX)]
theorem rY{r:am (List F4)}(h:(r.any λr=>!r.isEmpty)=true)(e:fg r=none):cf (total r) r=none:=by
 have:=Ax h;cases q:total r with
 |zero=>omega
 |succ k=>unfold cf;rw[aw h,e]
theorem rZ{r:am (List F4)}{n:F4}(h:(r.any λr=>!r.isEmpty)=true)(e:fg r=ih n):cf (total r) r=(cf (total (without n r)) (without n r)).map (n :: ·):=by
 have:=lh (lq e);cases q:total r with
 |zero=>omega
 |succ k =>
  show(if (r.any λr=>!r.isEmpty)=true then _ else _)=_;rw[aw h,e];show ZJ _ _=_;rw[wW k (without n r) (by omega) _ (aG _)]
theorem wy{env:Y5}:∀{c:am (F4×Yj)}{x:F4},c.lookup x=ih .cell ->
  (c.map λ(n,k)=>if (k==U7&&env.scope.kind == .function&&env.kindOf n==ih .cell) then (n,X0) else (n,k)).lookup x=ih .cell
 |[],_,h=>by simp at h
 |(n,b)::r,x,h=>by
  have d:=@wy env r x;show Zd x ((if (b==U7&&env.scope.kind == .function&&env.kindOf n==ih .cell)=true then (n,X0) else (n,b))::_)=_;rw[fc]at h;cases a:x==n with
  |true =>
   rw[a]at h;cases h
   rw[ak (by simp),fc,a]
  |false =>
   rw[a]at h
   by_cases e:(b==U7&&env.scope.kind == .function&&env.kindOf n==ih .cell)=true
   ·rw[aw e,fc,a];exact d h
   ·rw[ak e,fc,a];exact d h
theorem nest{my:YL}(a:sc.kind=.function)(keys:(sc.names.map (·.1)).Nodup)(c:N'.Nodup)(b:Qf.length=N'.length)(d:uG N N' Qf sc=true)
  (free:∀p∈sc.names,p.2=.free->my.names.lookup p.1=ih .cell\/my.names.lookup p.1=ih .free):bJ N (relabel my env) N' Qf sc:=
 ⟨a,keys,c,b,kk d,λp f e=>by
  rcases free p f e with z|z
  ·exact .inl (wy z)
  ·exact rH z⟩
theorem wz(K:Yh)(h:X.K=K):bY X (.type "tuple") (λxs H Q=>∃p ys,xs=[.ref p]/\((aq K H p ys /\∀l,H l=none->Q (.ref l) (upd H l (.tup ys)))\/(aE K H p ys/\Q (.ref p) H))):=by subst h;exact iH
theorem boot_any:Vx "any" = ih (.builtin "any"):=by decide +kernel
def t8(K:Yh)(C:FG):Bool:=
 Zr K (.ref C) "__getattribute__" == ih (ih (.builtin "BaseException.__getattribute__"))&&(Zr K (.ref C) "__getattr__" == ih none&&(Zr K (.ref C) "__setattr__" == ih (ih (.builtin "object.__setattr__"))&&(hasDictIn K C &&
 (((clsIn K C).any λcd=>ue cd.mro)&&(mroIn K C (.type "BaseException")==ih true&&(mroIn K C (.type "ValueError")==ih true&&(mroIn K C (.type "object")==ih true&&(Zr K (.ref C) "__class__" == ih (ih (.builtin "object.__class__")) &&
 (specialIn K (.builtin "object.__class__") "__get__" == ih (ih (.builtin "getset_descriptor.__get__"))&&takesIn K (.builtin "object.__class__")==ih true)))))))))
theorem La(h:t8 K C=true):fA K C:=by
 unfold t8 at h;simp only[gW,fX]at h;obtain⟨a,b,c,d,e,f,g,i,j,k,l⟩:=h;exact⟨a,b,c,d,e,f,g,i,j,k,l⟩
noncomputable abbrev BS:List F4:=["rows","order","rest","name"]
theorem nk:bg BS ["rows"] (aH nz):=bB
noncomputable abbrev DQ:Vo:=e4 (bH (m5 (bH (bE nz) 2)) 3)
abbrev my:YL:=bS DQ
abbrev P7:YL:=bS (c9 (CZ DQ))
theorem EM:bJ BS (aH nz) ["row","name"] [none,ih 3] my:=cJ
theorem P8:bJ ["row","name"] (relabel my env) ["other","name"] [none,ih 1] P7:=nest rfl (by decide +kernel) (by decide +kernel) rfl (by decide +kernel) (by decide +kernel)
theorem P9:(["other","name"]:am F4).Nodup:=by decide +kernel
theorem Ay(h:dj H vs rows)(s:∀b xs,H b=bi xs->Y b=bi xs):dj Y vs rows:=Paired.imp' (λ_ _ c=>by obtain⟨a,e,q⟩:=c;exact ⟨a,e,s _ _ q⟩) h
theorem wm{n:F4}(S:Small rest):Small (without n rest):=by
 refine⟨by unfold L2.without;rw[ar];exact S.bN,λr a=>?_,λr a y c=>?_⟩
 ·obtain⟨q,b,rfl⟩:=aZ.mp a
  exact e5 (fu _ _) (S.short q b)
 ·obtain⟨q,b,rfl⟩:=aZ.mp a
  exact S.nm q b y (d9.mp c).1
structure DR(H:Hp)(rows:List (List F4))(t oa:FG)(m:Nat)(σ:St)(H1:Hp)(rest:List (List F4))(ws:List V)(cy:List F4)(rl:FG):Prop where
 st:∃v3:Option V,σ=[ih (.ref t),ih (.ref oa),ih (.ref rl),v3]
 mm:m=total rest
 EN:H1 oa=ih (.lst (cy.map V.str))
 u2:H1 rl=ih (.lst ws)
 rr:dj H1 ws rest
 sm:Small rest
 ne:rl≠oa
 same:ao H H1
 lim:cy.length+total rest<=1000
 eq:cf (total rows) rows=(cf (total rest) rest).map (cy ++ ·)
theorem oS:∀{rows:am (List F4)},(∀r∈rows,r.length<=20)->total rows<=20 * rows.length
 |[],_=>ba _
 |r::rows,h=>by
  have U:=oS λq a=>h q (a8 _ a);have h2:=h r aT;have e:total (r::rows)=r.length+total rows:=by simp[total]
  rw[e,cD];omega
theorem JY(h:dj H ws rows):XU (λy r=>∃a,y=V.ref a/\aE K H a r) ws (rows.map λr=>r.map V.str):=by
 induction h with
 |nil=>exact .nil
 |cons p _ b=>obtain⟨a,e,q⟩:=p;exact .cons ⟨a,e,aE.of q⟩ b
theorem any_map(rows:am (List F4)):((rows.map λr=>r.map V.str).any λr=>!r.isEmpty)=rows.any λr=>!r.isEmpty:=by
 rw[vB];congr 1;funext r;cases r <;> rfl
inductive pe(vs:List V)(H:Hp)(Q:VK)(E:XK):Prop
 |mk{t:FG}{ws:List V}{rows:List (List F4)}{o:List F4}(_:vs=[.ref t])(_:H t=ih (.tup ws))(_:dj H ws rows)(_:Small rows)(_:cf (total rows) rows=ih o)(_:∀p Y,H p=none->ao H Y->Y p=ih (.tup (o.map V.str))->Q (.ref p) Y):pe vs H Q E
theorem I1{ya ye:XX}(F:aR K "merged" "merged" nz f fd)(D:b7 mg)
  (ym:aR K "wish_against" "wish_against" nU fW ye) (zm:Binds K ye ["rest","name"] []) (xn:mg "wish_against" = ih (.ref fW))
  (yg:aR K "least_free" "least_free" pO fL ya) (yn:Binds K ya ["rest"] []) (zn:mg "least_free" = ih (.ref fL)) :
  aU P w K mg base aC 3 f fd ["rows"] pe:=by
 have xo:aU P w K mg base aC 2 fL ya ["rest"] pB:=JX yg D ym zm xn;refine F.cz nk λQc A outer s H vs Q E yo h=>?_
 ·obtain @⟨t,ws,rows,o,rfl,zg,zo,yc,S,xp⟩:=h
  have zj:aQ 2 _:=yo;intro X;refine⟨_,aF (bt 1 nk.nd (ea af))
   (aF (bt 2 nk.nd (dX mM rfl D.list boot_list (aa (pv 0) af)))
   (aF (sr fZ (m7 (aS (IH rfl) rfl D.any boot_any (aa (pv 2) af)) (λ_=>rfl))
    (aF (gs (i:=3) nk.nd rfl (Yx rfl) (dA xo zj rfl zn yg.kp yn .nil dH (aa (pv 2) af)))
    (aF (bf (bC pK (pv 3) iN (bh _)) (aA Ji) bw)
    (aF (eT (fz g5 h3 h5 gr (pv 1) (aa (pv 3) af)))
    (aA (mR (i:=2) rfl EM nk.nd rfl rfl (ez (pv 2)) (λs H fp=>⟨a4 0 EM.nd,cP,
     dX (wz K rfl) rfl D.tuple boot_tuple (aa (cj rfl P8 (AS K rfl (pv 0)) (λs H fp=>⟨a4 0 P9,h8 (bC iR (pv 0) (pv 1) rfl),pv 0⟩)) af)⟩)))))))
   (aA (aO (dX iH rfl D.tuple boot_tuple (aa (pv 1) af)))))),?_⟩
  refine⟨ba _,λc za=>ag rfl ⟨t,ws,rfl,.inr (aE.of (by rw[ai (aB zg za)];exact zg)),λd xb=>?_⟩⟩
  have xj:(upd (upd H c (.lst [])) d (.lst ws)) c=bn []:=by rw[ai (aB ah xb)];exact ah
  have xh:ao H (upd (upd H c (.lst [])) d (.lst ws)):=(ay za).trans (ay xb);refine⟨λm σ H1=>∃rest g k d,DR H rows t c m σ H1 rest g k d,⟨_,rows,ws,[],d,⟨none,rfl⟩,rfl,xj,ah,zo.same xh,yc,a7 (aB ah xb),xh,by have:=oS yc.short;have:=yc.bN;simp only[jf];omega,by cases cf (total rows) rows <;> rfl⟩,?_⟩
  rintro m σ H1 ⟨rest,g,k,d,R⟩;obtain⟨zq,rfl⟩:=R.st;refine ag rfl ⟨d,g,_,rfl,aq.of R.u2,JY R.rr,_,rfl,?_⟩;rw[any_map];refine dm (λhA=>?_) (λhA=>?_)
  ·refine⟨λxk Y=>∃yh,yh<m /\∃rest g k d,DR H rows t c yh xk Y rest g k d,λ_ _ z=>z,?_⟩
   refine ag rfl (pB.mk rfl R.u2 R.rr λH2 G=>?_);cases e:fg rest with
   |none =>
    refine ag rfl ⟨rfl,_,rfl,?_⟩;rw[R.eq,rY hA e]at S;cases S
   |some n =>
    refine ag rfl ⟨rfl,_,rfl,?_⟩;have xa:H2 c=bn (k.map V.str):=G _ _ R.EN;refine ag rfl ⟨.inl ⟨rfl,_,aq.of xa⟩,_,rfl,c,_,_,rfl,rfl,xa,by have:=R.lim;rw[ar,aJ];omega,?_⟩
    generalize L:upd H2 c (.lst (k.map V.str++[DP (ih n)]))=I;have yp:ao H I:=λb o zh=>by rw[<-L,ai (aB zh za)];exact G _ _ (R.same b o zh)
    have yk:d≠c:=R.ne;have zd:I d=bn g:=by rw[<-L,ai yk];exact G _ _ R.u2
    have ze:dj I g rest:=Ay R.rr λb xs u=>by rw[<-L,ai (bx (G _ _ u) xa)];exact G _ _ u
    have xe:I c=bn ((k++[n]).map V.str):=by rw[<-L,ah,a5];rfl
    refine ag rfl ⟨d,rfl,⟨_,aq.of zd⟩,λJ M=>?_⟩;have zk:J≠c:=λz=>by rw[z,xe]at M;cases M
    refine f6 (xs:=g) (λi ys T q=>∃zc:ap V,T=[zc,ih (.str n)]/\q J=bn ys/\ao I q/\dj q ys (L2.without n (rest.take i))) ⟨none,rfl,ah,ay M,.nil⟩ (λi ys T q ab=>by obtain⟨_,_,U,h2,_⟩:=ab;exact ⟨U,aq.of (h2 _ _ zd)⟩) ?_ ?_
    ·rintro i x ys T q xi ⟨zc,rfl,B,v,C⟩
     obtain⟨a,r,rfl,xf,yb⟩:=ze.get xi;have xl:i<g.length:=(bQ.mp xi).1;have tk:rest.take (i+1)=rest.take i++[r]:=by rw[cO,xf];rfl
     refine ag rfl ⟨a,rfl,⟨_,aE.of (v _ _ yb)⟩,λb1 zb=>?_⟩;have yl:a≠b1:=aB (v _ _ yb) zb;refine eS (xs:=r.map V.str) (λj zs N W=>∃xd:ap V,N=[xd,ih (.str n)]/\zs=((r.take j).filter λy=>!decide (y=n)).map V.str/\W=upd q b1 (.lst zs)) ⟨none,rfl,rfl,rfl⟩ (λj zs N W ⟨_,_,_,z⟩=>by rw[z];exact⟨ah,aE.of (by rw[ai yl];exact v _ _ yb)⟩) ?_ ?_
     ·rintro j x zs N W yf ⟨xd,rfl,rfl,rfl⟩
      have xc:j<(r.map V.str).length:=(bQ.mp yf).1;have zf:j<r.length:=by simpa using xc
      obtain rfl:V.str r[j]=x:=by simpa [zf] using yf
      have xg:r.take (j+1)=r.take j++[r[j]]:=by rw[cO,bA zf];rfl
      refine bj rfl rfl ⟨rfl,_,rfl,?_⟩;refine dm (λO=>?_) (λO=>?_)
      ·have yj:r[j]≠n:=λz=>by rw[z]at O;simp at O
       refine ag rfl ⟨ah,?_,cw_next xc (ag rfl ⟨?_,by rw[ia]⟩)⟩
       ·have U:=fu (λy=>!decide (y=n)) (r.take j)
        have h2:(r.take j).length<=r.length:=by rw[b8];omega
        have zp:=R.sm.short r (dQ xf);rw[ar,aJ];omega
       ·rw[xg,f3,a5,h6 (by simpa using yj)];rfl
      ·have xq:r[j]=n:=by
        by_cases z:r[j]=n
        ·exact z
        ·exact absurd (by simp[z]) O
       refine cw_next xc (ag rfl ⟨?_,rfl⟩);rw[xg];simp[xq]
     ·rintro zs N W ⟨xd,rfl,rfl,rfl⟩
      rw[ar,cF];refine⟨b1,_,rfl,.inl ⟨aq.of ah,λl yi=>?_⟩⟩;have zl:J≠b1:=aB B zb;have yd:ao q (upd (upd q b1 (.lst ((r.filter λy=>!decide (y=n)).map V.str))) l (.tup ((r.filter λy=>!decide (y=n)).map V.str))):=(ay zb).trans (ay yi);have xm:J≠l:=aB (by rw[ai zl];exact B) yi
      refine⟨yd _ _ B,?_,cw_next xl ⟨_,rfl,ah,λb o u=>?_,?_⟩⟩
      ·have U:=C.length
       have h2:(L2.without n (rest.take i)).length<=rest.length:=by unfold L2.without;rw[ar,b8];omega
       have zp:=R.sm.bN;rw[aJ];omega
      ·rw[ai (aB u M)];exact yd _ _ (v b o u)
      ·have yq:L2.without n (rest.take (i+1))=L2.without n (rest.take i)++[r.filter λy=>!decide (y=n)]:=by rw[tk];unfold L2.without;rw[a5];rfl
       rw[yq];refine dj.append (Ay C λb xs u=>?_) ?_
       ·rw[ai (bx u B)];exact yd _ _ u
       ·rw[ai (a7 xm)];exact ah
    ·rintro ys T q ⟨zc,rfl,B,v,C⟩
     rw[ze.length,cF]at C;have lt:=lh (lq e);refine⟨_,by rw[R.mm];exact lt,L2.without n rest,ys,k++[n],J,⟨_,rfl⟩,rfl,v _ _ xe,B,C,wm R.sm,zk,yp.trans v,?_,?_⟩
     ·have:=R.lim;rw[df,jd];omega
     ·rw[R.eq,rZ hA e,Z7]
      congr 1
      funext z
      simp
  ·refine ag rfl ⟨c,_,rfl,.inl ⟨aq.of R.EN,λp zi=>?_⟩⟩
   rw[R.eq,rX (by simpa using hA)]at S
   have e:k++[]=o:=cS S;rw[ei]at e;subst e;exact xp p _ (R.same.free zi) (R.same.trans (ay zi)) ah
end eL
namespace eL
open L2
theorem boot_max:Vx "max" = ih (.builtin "max"):=by decide +kernel
theorem boot_abs:Vx "abs" = ih (.builtin "abs"):=by decide +kernel
inductive qb(K:U0)(vs:List V)(H:Hp)(Q:VK)(E:XK):Prop
 |mk{a:FG}{ns:List Int}{k:Int}(_:vs=[.ref a,.int k])(_:aq K H a (ns.map V.int))(_:0<=k)(_:k<=100)(_:ns.length<=63)(_:∀(p:FG) (x y:Int),H p=none->0<=x->0<=y->y<4294967296->Q (.ref p) (upd H p (.lst [.int x,.int y]))):qb K vs H Q E
theorem uo:bg ["_law_script","_law_k","_law_cell"] ["_law_script","_law_k"] (aH uK):=bB
theorem Lb(h:i<ns.length):∃z,(ns.map V.int)[i]?=ih (V.int z):=⟨ns[i],by rw[cx,bA h];rfl⟩
theorem Ml(F:aR K "_law_pot" "_law_pot" uK f fd)(B:b7 mg):aU P w K mg base aC 1 f fd ["_law_script","_law_k"] (qb K):=by
 refine F.cz uo λQc A outer s H vs Q E n h=>?_
 ·obtain @⟨a,ns,k,rfl,g,o,r,t,q⟩:=h
  intro X;refine⟨_,aF (bt 2 uo.nd au)
   (aF (bf (bC kj (pv 1) (aS cT (by rfl) B.len cG (aa (pv 0) af)) (bh _))
     (aA (bt 2 uo.nd (aW c6 (pv 0) (pv 1)))) bw)
   (aA (aO (ea (aa (aS (w4 rfl) (by rfl) B.max boot_max (aa au (aa (bF ke (aS AO (by rfl) B.abs boot_abs (aa (pv 2) af)) (bF tP au au)) af)))
    (aa (bF f7 (bF f7 (bF lL (aS AO (by rfl) B.abs boot_abs (aa (pv 2) af)) au) (bF pJ au (pv 1))) au) af)))))),?_⟩
  refine bj rfl rfl ⟨a,_,rfl,.inl g,_,_,rfl,rfl,_,rfl,?_⟩;have e:∀c:Int,∀p,H p=none->Q (.ref p) (upd H p (.lst [.int (if (if c<0 then -c else c) - 10 ^ (18:Int).toNat>0 then (if c<0 then -c else c) - 10 ^ (18:Int).toNat else 0),.int ((if c<0 then -c else c) % 2147483587+101 * k+3)])):=λc p b=>by
   refine q p _ _ b ?_ (by omega) (by omega)
   generalize (if c<0 then -c else c) - 10 ^ (18:Int).toNat=d;split <;> omega
  refine dm (λj=>?_) (λj=>?_)
  ·have l:k<((ns.map V.int).length:Int):=fw j
   rw[ar]at l;obtain⟨z,m⟩:=Lb (ns:=ns) (i:=k.toNat) (by omega)
   refine bj rfl rfl ⟨a,_,_,_,rfl,rfl,g,(by rw[show k=((k.toNat:Nat):Int) by omega];exact b2 m),?_⟩
   refine ag rfl ⟨z,rfl,_,_,rfl,rfl,⟨by decide,by decide,by decide⟩,_,_,rfl,rfl,_,_,rfl,?_⟩
   refine ag rfl ⟨z,rfl,_,_,rfl,rfl,(by show(0:Int)<2147483587;decide),_,rfl,_,_,rfl,rfl,.inl ⟨by decide,by decide⟩,_,_,rfl,rfl,_,_,rfl,rfl,dc,λp b=>e z p b⟩
  ·refine ag rfl ⟨0,rfl,_,_,rfl,rfl,⟨by decide,by decide,by decide⟩,_,_,rfl,rfl,_,_,rfl,?_⟩
   refine ag rfl ⟨0,rfl,_,_,rfl,rfl,(by show(0:Int)<2147483587;decide),_,rfl,_,_,rfl,rfl,.inl ⟨by decide,by decide⟩,_,_,rfl,rfl,_,_,rfl,rfl,dc,λp b=>e 0 p b⟩
inductive hh(vs:List V)(H:Hp)(Q:VK)(E:XK):Prop
 |mk{p:FG}{m x y:Int}(_:vs=[.ref p,.int m])(_:H p=ih (.lst [.int x,.int y]))(_:0<=x)(_:0<=y)(_:y<4294967296)(_:0<m)(_:m<4611686018427387904)(_:∀(d x' y':Int),0<=d->d<m->0<=x'->0<=y'->y'<4294967296->Q (.int d) (upd H p (.lst [.int x',.int y']))):hh vs H Q E
theorem BU:bg ["_law_pot_here","_law_many","_law_digit_here"] ["_law_pot_here","_law_many"] (aH nG):=bB
theorem sH(F:aR K "_law_digit" "_law_digit" nG f fd):aU P w K mg base aC 1 f fd ["_law_pot_here","_law_many"] hh:=by
 refine F.cz BU λQc A outer s H vs Q E j h=>?_
 ·obtain @⟨p,m,x,y,rfl,c,d,e,g,a,k,q⟩:=h
  intro X;refine⟨_,aF (bf (bC lS (aW c6 (pv 0) au) au (bh _))
    (aF (bt 2 BU.nd (bF lL (aW c6 (pv 0) au) (pv 1)))
    (aF (lK (bF JD (aW c6 (pv 0) au) (pv 1)) (Ca (pv 0) au set_list))
    (aA (aO (pv 2))))) bw)
   (aF (lK (bF lL (bF f7 (bF pJ (aW c6 (pv 0) au) au) au) au) (Ca (pv 0) au set_list))
   (aA (aO (bF lL (bF Kk (bF lL (bF pJ (aW c6 (pv 0) au) (aW c6 (pv 0) au)) au) au) (pv 1))))),?_⟩
  have b:aq K H p [.int x,.int y]:=aq.of c;refine ag rfl ⟨p,_,0,_,rfl,rfl,b,rfl,_,_,rfl,rfl,_,rfl,?_⟩;refine dm (λi=>?_) (λi=>?_)
  ·refine ag rfl ⟨p,_,0,_,rfl,rfl,b,rfl,_,rfl,_,_,rfl,rfl,a,?_⟩
   refine ag rfl ⟨p,_,0,_,rfl,rfl,b,rfl,_,rfl,_,_,rfl,rfl,⟨a,by omega⟩,_,rfl,p,_,0,0,rfl,rfl,c,rfl,?_⟩
   refine ag rfl ?_;exact q _ _ _ (v9 _ (by omega)) (v' _ a) (Int.ediv_nonneg d (by omega)) e g
  ·refine ag rfl ⟨p,_,1,_,rfl,rfl,b,rfl,_,_,rfl,rfl,.inr ⟨by decide,by decide⟩,_,_,rfl,rfl,_,_,rfl,rfl,(by show(0:Int)<2147483647;decide),_,rfl,p,_,1,1,rfl,rfl,c,rfl,?_⟩
   have U:=v9 (y * 39373+20011) (show(2147483647:Int)≠0 by decide)
   have h2:=v' (y * 39373+20011) (show(0:Int)<2147483647 by decide)
   refine ag rfl (jM ah rfl (ag rfl (jM ah rfl ⟨_,_,rfl,rfl,.inl ⟨Vv (by decide) U,Vv h2 (by decide)⟩,_,_,rfl,rfl,(by show(0:Int)<2147483563;decide),_,_,rfl,rfl,⟨by decide,by decide⟩,_,rfl,_,_,rfl,rfl,a,?_⟩)))
   exact q _ x _ (v9 _ (by omega)) (v' _ a) d U (by omega)
def c7(p:FG)(H:Hp):Prop:= ∃x y:Int,H p=ih (.lst [.int x,.int y])/\0<=x/\0<=y/\y<4294967296
structure br(p:FG)(H Y:Hp):Prop where
 ok:c7 p Y
 kp:∀b o,H b=ih o->b≠p->Y b=ih o
section
variable{q:FG}{o:HO}
theorem br.refl(h:c7 p H):br p H H:=⟨h,λ_ _ e _=>e⟩
theorem br.trans(a:br p H H1)(b:br p H1 H2):br p H H2:=⟨b.ok,λc o e n=>b.kp c o (a.kp c o e n) n⟩
theorem c7.ne(h:c7 p H)(a:H q=none):p≠q:=let ⟨_,_,e,_⟩:=h;aB e a
theorem br.new(a:br p H H1)(c:H1 q=none):br p H (upd H1 q o):=by
 refine⟨?_,λb u e n=>?_⟩
 ·obtain⟨x,y,e,r⟩:=id a.ok
  exact⟨x,y,by rw[ai (a.ok.ne c)];exact e,r⟩
 ·rw[ai (aB (a.kp b u e n) c)];exact a.kp b u e n
theorem br.free(a:br p H H1)(b:H1 q=none):H q=none:=by
 cases e:H q with
 |none=>rfl
 |some u =>
  by_cases h:q=p
  ·subst h;obtain⟨_,_,z,_⟩:=a.ok;rw[z]at b;cases b
  ·rw[a.kp q u e h]at b;cases b
theorem br.write(a:br p H H1)(c:H q=none)(d:p≠q):br p H (upd H1 q o):=by
 refine⟨?_,λb u e n=>?_⟩
 ·obtain⟨x,y,e,r⟩:=id a.ok
  exact⟨x,y,by rw[ai d];exact e,r⟩
 ·rw[ai (aB e c)];exact a.kp b u e n
theorem cA{m:Int}{E:XK}(h:c7 p H)(a:0<m)(c:m<4611686018427387904)(k:∀d Y,0<=d->d<m->br p H Y->Q (.int d) Y):hh [.ref p,.int m] H Q E:=by
 obtain⟨x,y,e,f,g,i⟩:=h;exact⟨rfl,e,f,g,i,a,c,λd j l q r U h2 s=>k d _ q r ⟨⟨j,l,ah,U,h2,s⟩,λb o z n=>by rw[ai n];exact z⟩⟩
end
theorem Az:∀a:am Nat,((a.map sign).map (·.length)).sum=a.length
 |[]=>rfl
 |c::a=>by
  have e:(sign c).length=1:=rfl;simp only[bD,v8,Az a,cD,e];omega
abbrev j9:F4:= "abcdefghijklmnopqrstuvwxyz"
theorem AA{d:Int}(h0:0<=d)(U:d<26):∃c:Nat,cU j9.cps.toList d=ih c/\97<=c/\c<=122/\c=97+d.toNat:=by
 have all:∀i:Nat,i<26->j9.cps.toList[i]?=ih (97+i):=by decide +kernel
 refine⟨97+d.toNat,?_,by omega,by omega,rfl⟩
 rw[show d=((d.toNat:Nat):Int) by omega]
 exact b2 (all d.toNat (by omega))
inductive iM(vs:List V)(H:Hp)(Q:VK)(E:XK):Prop
 |mk{p:FG}{m:Nat}(_:vs=[.ref p,.int m])(_:c7 p H)(_:m<=20)(_:∀(l:FG) (ys:List F4) (Y:Hp),H l=none->ys.length=m->(∀y∈ys,Nm y)->ys.Nodup->br p H Y->Y l=ih (.lst (ys.map V.str))->Q (.ref l) Y):iM vs H Q E
noncomputable abbrev pQ:List F4:=["_law_pot_here","_law_many","_law_letters","_law_found","_law_k","_law_size","_law_name","_law_some"]
theorem ju:bg pQ ["_law_pot_here","_law_many"] (aH iO):=bB
def Ct(s:VC):List VC:=match s with|.If _ b _ _=>b|_=>[]
abbrev O2:YL:=bS (c9 (e4 (bH (pC (bH (bE iO) 2)) 1)))
abbrev O3:YL:=bS (e4 (bH (Ct (bH (pC (bH (bE iO) 2)) 2)) 0))
abbrev O4:YL:=bS (O1 (e4 (bH (Ct (bH (pC (bH (bE iO) 2)) 2)) 1)))
theorem EO:bJ pQ (aH iO) ["_law_turn","_law_letters","_law_pot_here"] [none,ih 2,ih 0] O2:=cJ
theorem ER:bJ pQ (aH iO) ["_law_turn","_law_letters","_law_name"] [none,ih 2,ih 6] O3:=cJ
theorem ES:bJ pQ (aH iO) ["_law_one","_law_found"] [none,ih 3] O4:=cJ
theorem JZ{yd:XX}(F:aR K "_law_names" "_law_names" iO f fd)(B:b7 mg)(xb:aR K "_law_digit" "_law_digit" nG fD yd)(yf:Binds K yd ["_law_pot_here","_law_many"] [])(zf:mg "_law_digit" = ih (.ref fD)) :
  aU P w K mg base aC 3 f fd ["_law_pot_here","_law_many"] iM:=by
 have xg:aU P w K mg base aC 1 fD yd ["_law_pot_here","_law_many"] hh:=sH xb;refine F.cz ju λQc A outer s H vs Q E yx h=>?_
 ·obtain @⟨p,m,rfl,ym,zy,q⟩:=h
  have zd:aQ 1 _:=yx.mono (by decide)
  intro X;refine⟨_,aF (gs (i:=2) ju.nd rfl (Yx rfl) bO)
   (aF (gs (i:=3) ju.nd rfl (Yx rfl) (ea af))
   (aF (gu fZ rfl (j3 rfl B.range (aa (pv 1) af)) (a4 4 ju.nd)
    (aF (bt 5 ju.nd (bF f7 au (dA xg zd rfl zf xb.kp yf .nil dH (aa (pv 0) (aa (aW c6 (ea (aa au (aa au (aa au af))))
      (dA xg zd rfl zf xb.kp yf .nil dH (aa (pv 0) (aa au af)))) af)))))
    (aF (gs (i:=6) ju.nd rfl (Yx rfl) (fz PySem.F.plainAttrs_str PySem.F.slot_str_join PySem.F.type_str_join Ky bO
      (aa (cj rfl EO (j3 rfl B.range (aa (pv 5) af)) (λs H fp=>⟨a4 0 EO.nd,cP,aW Cd (pv 1) (dA xg zd rfl zf xb.kp yf .nil dH (aa (pv 2) (aa au af))) (λ_ _=>rfl)⟩)) af)))
    (aF (bf (bC mW (pv 6) (pv 3) rfl)
      (aF (mR (i:=7) rfl ER ju.nd rfl rfl (j3 rfl B.range (aa (bF f7 (pv 1) au) af)) (λs H fp=>⟨a4 0 ER.nd,cP,
        bF wG (bF wG (lx L9 (pv 2) lG (lH au)) (aW Cd (pv 1) (pv 0))) bO⟩))
      (aA (gs (i:=6) ju.nd rfl (Yx rfl) (aW c6 (cj rfl ES (ez (pv 7)) (λs H fp=>⟨a4 0 ES.nd,h8 (bC (wK K rfl) (pv 0) (pv 1) rfl),pv 0⟩)) au))))
      bw)
    (aA (eT (fz g5 h3 h5 gr (pv 3) (aa (pv 6) af))))))))
   (aA (aO (pv 3))))),?_⟩
  refine⟨ba _,λl L=>?_⟩;have S:p≠l:=ym.ne L;have zm:((m:Int)).toNat=m:=iy m;refine⟨_,rfl,(m:Int),rfl,by omega,by omega,mU (λi σ H1=>∃(ys:am F4) (yg zg xh yh:ap V),σ=[bd p,ih (.int m),ih (.str j9),bd l,yg,zg,xh,yh]/\ys.length=i/\(∀y∈ys,Nm y)/\ys.Nodup/\br p H H1/\H1 l=bn (ys.map V.str))
   ⟨[],none,none,none,none,rfl,rfl,(λy r=>by simp at r),iD,(br.refl ym).new L,ah⟩ ?_ ?_⟩
  ·rintro i σ H1 hi ⟨ys,yg,zg,xh,yh,rfl,I,T,W,C,xe⟩
   rw[zm]at hi;refine ag rfl ⟨hT,λa zh=>ag rfl ?_⟩;have zq:a≠p:=a7 (C.ok.ne zh);refine cA (p:=p) (m:=3) ((br.refl C.ok).new zh).ok (by decide) (by decide) λd H2 xn yn xi=>?_
   obtain⟨M,xr,yr,yy⟩:∃M:Int,cU [V.int 1,V.int 2,V.int 8] d=ih (V.int M)/\0<M/\M<=8:=by
    have:d=0\/d=1\/d=2:=by omega
    rcases this with rfl|rfl|rfl
    ·exact⟨1,rfl,by decide,by decide⟩
    ·exact⟨2,rfl,by decide,by decide⟩
    ·exact⟨8,rfl,by decide,by decide⟩
   refine kQ (xi.kp a _ ah zq) xr ?_;refine cA (p:=p) (m:=M) xi.ok yr (by omega) λe yi xz xo yb=>⟨_,_,rfl,rfl,?_⟩
   have yo:br p H1 yi:=(((br.refl C.ok).new zh).trans xi).trans yb;have xt:yi l=bn (ys.map V.str):=yo.kp l _ xe (a7 S);refine⟨rfl,_,rfl,1+e,rfl,by omega,by omega,λN ye=>?_⟩
   have xl:p≠N:=yb.ok.ne ye;refine rQ (λi zs k n=>∃(o:am Nat) (t:ap V),zs=(o.map sign).map V.str/\o.length=i/\(∀c∈o,97<=c/\c<=122)/\k=[t,ih (.str j9),bd p]/\br p yi n/\n N=bn zs)
    ⟨[],none,rfl,rfl,(λc v=>by simp at v),rfl,(br.refl yb.ok).new ye,ah⟩ (λi zs k n ab=>by obtain⟨_,_,_,_,_,_,_,z⟩:=ab;exact z) ?_ ?_
   ·rintro j zs k n O ⟨o,t,rfl,Y,ze,rfl,R,zi⟩
    refine bj rfl rfl (cA (p:=p) (m:=26) R.ok (by decide) (by decide) λd G xn yn zo=>?_)
    obtain⟨c,v,xp,yp,_⟩:=AA xn yn;have yt:G N=_:=zo.kp N _ zi (a7 xl);refine⟨j9,d,c,rfl,rfl,(by rw[aJ];decide +kernel),v,yt,?_,cw_next O ⟨o++[c],_,?_,?_,?_,rfl,?_,ah⟩⟩
    ·rw[ar,ar,Y,aJ];omega
    ·rw[a5,a5];rfl
    ·rw[df,Y];rfl
    ·intro x zb
     rcases cw.mp zb with h|h
     ·exact ze x h
     ·have:x=c:=by simpa using h
      rw[this];exact⟨xp,yp⟩
    ·exact(R.trans zo).write ((br.refl yb.ok).free ye) xl
   ·rintro zs k n ⟨o,t,rfl,Y,ze,rfl,R,zi⟩
    have zt:((o.map sign).map (·.length)).sum=o.length:=by
     exact Az o
    refine⟨("" : F4),N,o.map sign,rfl,rfl,.inl (aq.of zi),?_,?_⟩
    ·have:(abL ("" : F4))=0:=rfl
     rw[zt,this,Y];omega
    rw[HX];generalize yk:(⟨o.toArray⟩:F4)=g;have xd:Nm g:=by
     have yz:g.length=o.length:=by rw[<-yk];show o.toArray.size=_;simp
     refine⟨by omega,by omega,λc v=>ze c ?_⟩
     rw[<-yk]at v;simpa using v
    have zp:br p H1 n:=yo.trans R;have J:n l=bn (ys.map V.str):=R.kp l _ xt (a7 S);refine bj rfl rfl ⟨l,_,rfl,.inl (aq.of J),rfl,h7 _,_,rfl,?_⟩;rw[ak bX,iJ];refine dm (λyl=>?_) (λyl=>?_)
    ·
     refine ag rfl ⟨_,_,rfl,rfl,(m:Int)+1,rfl,by omega,by omega,λD zl=>?_⟩
     refine rQ (λi zs k G=>∃t:ap V,zs=((UU i).map λj=>X9 g none (ih 6)++sign (97+j)++("q" : F4)).map V.str/\k=[t,ih (.str j9),ih (.str g)]/\G=upd n D (.lst zs))
      ⟨none,rfl,rfl,rfl⟩ (λi zs k G ⟨_,_,_,z⟩=>by rw[z];exact ah) ?_ ?_
     ·rintro j zs k G O ⟨t,rfl,rfl,rfl⟩
      obtain⟨c,v,xp,yp,xu⟩:=AA (d:=0+(j:Int)) (by omega) (by omega)
      have yq:c=97+j:=by rw[xu];omega
      have zz:(X9 g none (ih 6)).length<=6:=wJ g;refine bj rfl rfl ⟨g,rfl,by have:=xd.hi;omega,_,rfl,_,rfl,j9,_,c,rfl,rfl,(by rw[aJ];decide +kernel),v,_,_,rfl,rfl,?_,_,_,rfl,rfl,?_,ah,?_,cw_next O ⟨_,?_,rfl,?_⟩⟩
      ·show _+1<=UJ;rw[aJ];omega
      ·have xo:(X9 g none (ih 6)++(⟨#[c]⟩:F4)).length=(X9 g none (ih 6)).length+1:=by
        show(_ ++ #[c]:Array Nat).size=_;rw[vx];rfl
       have zx:(("q" : F4)).length=1:=by decide +kernel
       show(X9 g none (ih 6)++(⟨#[c]⟩:F4)).length+_<=UJ;rw[xo,zx,aJ];omega
      ·rw[ar,ar,ro,aJ];omega
      ·rw[aag,a5,a5,yq];rfl
      ·rw[ia]
     ·rintro zs k G ⟨t,rfl,rfl,rfl⟩
      have yu:((m:Int)+1).toNat=m+1:=by omega
      generalize xf:(UU ((m:Int)+1).toNat).map (λj=>X9 g none (ih 6)++sign (97+j)++("q" : F4))=cands;have zu:cands.Nodup:=by
       rw[<-xf];refine abb _ (λa b xv h=>xv ?_) vS;have:=Jr h;omega
      have yv:∀y∈cands,Nm y:=by
       intro y r;rw[<-xf]at r;obtain⟨j,O,rfl⟩:=aZ.mp r;have:=eO.mp O;exact Kz xd.az ⟨by omega,by omega⟩
      have xy:cands.length=m+1:=by rw[<-xf,ar,ro,yu]
      have xa:upd n D (.lst (cands.map V.str)) l=bn (ys.map V.str):=by rw[ai (aB J zl)];exact J
      refine ag rfl ⟨D,rfl,⟨_,aq.of ah⟩,λxc ya=>?_⟩;refine f6 (xs:=cands.map V.str) (λi zs k yc=>∃t:ap V,zs=((cands.take i).filter (λy=>!decide (y∈ys))).map V.str/\k=[t,bd l]/\yc=upd (upd n D (.lst (cands.map V.str))) xc (.lst zs))
       ⟨none,rfl,rfl,rfl⟩ (λi zs k yc ⟨_,_,_,z⟩=>by rw[z];exact⟨ah,aq.of (by rw[ai (aB ah ya)];exact ah)⟩) ?_ ?_
      ·rintro j x zs k yc zb ⟨t,rfl,rfl,rfl⟩
       rw[cx]at zb;obtain⟨y,r,rfl⟩:=fe.mp zb;have xm:j<(cands.map V.str).length:=by rw[ar];exact(bQ.mp r).1
       have tk:cands.take (j+1)=cands.take j++[y]:=by rw[cO,r];rfl
       have za:(upd (upd n D (.lst (cands.map V.str))) xc (.lst (((cands.take j).filter (λy=>!decide (y∈ys))).map V.str))) l=bn (ys.map V.str):=by rw[ai (aB xa ya)];exact xa
       refine bj rfl rfl ⟨l,_,rfl,.inl (aq.of za),rfl,h7 _,_,rfl,?_⟩;rw[aw rfl,iJ];refine dm (λxj=>?_) (λxj=>?_)
       ·refine ag rfl ⟨ah,?_,cw_next xm ⟨_,?_,rfl,?_⟩⟩
        ·have U:=fu (λy=>!decide (y∈ys)) (cands.take j)
         have h2:(cands.take j).length<=cands.length:=by rw[b8];omega
         rw[ar,aJ];omega
        ·rw[tk,f3,a5,ru,aw xj];rfl
        ·rw[ia]
       ·refine cw_next xm ⟨_,?_,rfl,rfl⟩
        rw[tk,f3,ru,ak xj,rD,ei]
      ·rintro zs k yc ⟨t,rfl,rfl,rfl⟩
       rw[ar,cF];obtain⟨y0,zv,xw⟩:=tT (found:=ys) zu (by omega)
       have zk:y0∈cands.filter (λy=>!decide (y∈ys)):=d9.mpr ⟨zv,by simpa using xw⟩
       cases xq:cands.filter (λy=>!decide (y∈ys)) with
       |nil=>rw[xq]at zk;simp at zk
       |cons u zr =>
        have yw:u∈cands.filter (λy=>!decide (y∈ys)):=by rw[xq];exact aT
        obtain⟨zc,zn⟩:=d9.mp yw;have zw:u ∉ ys:=by simpa using zn
        have za:(upd (upd n D (.lst (cands.map V.str))) xc (.lst ((u::zr).map V.str))) l=bn (ys.map V.str):=by rw[ai (aB xa ya)];exact xa
        have yj:br p H (upd (upd n D (.lst (cands.map V.str))) xc (.lst ((u::zr).map V.str))):=((C.trans zp).new zl).new ya;refine jM ah (show cU ((u::zr).map V.str) ((0:Nat):Int)=ih (V.str u) from b2 rfl) ?_;refine ag rfl ⟨.inl ⟨rfl,_,aq.of za⟩,_,rfl,l,_,_,rfl,rfl,za,?_,?_⟩
        ·rw[ar,aJ];omega
        ·refine⟨ys++[u],_,_,_,_,rfl,by rw[df,I];rfl,?_,?_,?_,?_⟩
         ·intro y r
          rcases cw.mp r with h|h
          ·exact T y h
          ·have:y=u:=by simpa using h
           rw[this];exact yv u zc
         ·rw[gG]
          exact⟨W,by simp,λa zj b xk=>by rw[show b=u by simpa using xk];exact λh=>zw (h ▸ zj)⟩
         ·exact yj.write L S
         ·rw[ah,a5];rfl
    ·have xx:g ∉ ys:=by simpa using yl
     have yj:br p H n:=C.trans zp;refine ag rfl ⟨.inl ⟨rfl,_,aq.of J⟩,_,rfl,l,_,_,rfl,rfl,J,?_,?_⟩
     ·rw[ar,aJ];omega
     ·refine⟨ys++[g],_,_,_,_,rfl,by rw[df,I];rfl,?_,?_,?_,?_⟩
      ·intro y r
       rcases cw.mp r with h|h
       ·exact T y h
       ·have:y=g:=by simpa using h
        rw[this];exact xd
      ·rw[gG]
       exact⟨W,by simp,λa zj b xk=>by rw[show b=g by simpa using xk];exact λh=>xx (h ▸ zj)⟩
      ·exact yj.write L S
      ·rw[ah,a5];rfl
  ·rintro σ H1 ⟨ys,yg,zg,xh,yh,rfl,I,T,W,C,xe⟩
   rw[zm]at I;exact ag rfl (q l ys H1 L I T W C xe)
end eL
namespace eL
open L2 W HT
theorem HG(K:Yh)(h:X.K=K):bY X (.type "list") (λxs H Q=>∃p ys,xs=[.ref p]/\(aq K H p ys\/aE K H p ys) /\∀l,H l=none->Q (.ref l) (upd H l (.lst ys))):=by subst h;exact mM
theorem HH(K:Yh)(h:X.K=K)(a:X.calm=true):bY X (.builtin "any") (λxs H Q=>∃(p:FG) (bs:am Bool),xs=[.ref p]/\aq K H p (bs.map V.bl)/\Q (.bl (bs.any id)) H):=by subst h;exact Ag a
theorem I2(K:Yh)(h:X.K=K):mr X (DA K):=by subst h;exact pk
def f'(av:FG->Prop)(H:Hp)(vs:List V)(rows:List (List F4)):Prop:=XU (λy r=>∃a,y=V.ref a/\av a/\H a=ih (.lst (r.map V.str))) vs rows
theorem lr{av:FG->Prop}{H:Hp}:∀{vs:am V}{rows:am (List F4)}{i:Nat}{v:V},f' av H vs rows->vs[i]?=ih v ->∃a r,v=V.ref a/\rows[i]?=ih r/\av a/\H a=bn (r.map V.str)
 |_,_,i,v,.nil,e=>by simp at e
 |_,_,0,v,.cons p _,e=>by
  obtain⟨a,rfl,n,q⟩:=p;simp at e;subst e;exact⟨a,_,rfl,rfl,n,q⟩
 |_,_,i+1,v,.cons _ t,e=>by
  obtain⟨a,r,b,c,n,q⟩:=lr (i:=i) t (by simpa using e)
  exact⟨a,r,b,by simpa using c,n,q⟩
theorem jk{b:FG->Prop}(h:f' av H vs rows)(f:∀a xs,av a->H a=bn xs->b a/\Y a=bn xs):f' b Y vs rows:=
 Paired.imp' (λ_ _ c=>by obtain⟨a,e,n,q⟩:=c;exact ⟨a,e,(f a _ n q).1,(f a _ n q).2⟩) h
theorem rN(h:f' av H vs rows)(n:av a)(q:H a=bn (r.map V.str)):f' av H (vs++[.ref a]) (rows++[r]):=gY h ⟨a,rfl,n,q⟩
theorem j1(h:f' av H vs rows):vs.length=rows.length:=cC h
theorem iU(h:Nm x):XQ x=true:=by
 unfold XQ;rw[<-Array.all_toList,gX];intro c a;have:=(h.az c a).2;exact bq (by omega)
theorem lC(H:Hp):∀xs:am F4,bL H (xs.map V.str) (xs.map X1)
 |[]=>.nil
 |x::xs=>.cons (.str x) (lC H xs)
theorem lD:∀{xs:am F4},(∀x∈xs,Nm x)->UW (xs.map X1)=true
 |[],_=>rfl
 |x::xs,h=>by
  show(XQ x&&UW (xs.map X1))=true;rw[iU (h x aT),lD λy a=>h y (a8 _ a)];rfl
theorem mS:∀xs:am F4,UO (xs.map X1)=0
 |[]=>rfl
 |x::xs=>by rw[bD];simp only[UO,X2,mS xs,Nat.max_self]
theorem ne_nil{xs:am F4}(c:H a=bn (xs.map V.str))(d:H b=bn [])(e:∀x∈xs,Nm x)(q:Q (.bl (!xs.isEmpty)) H):DF (.ref a) (.ref b) H Q:=by
 refine⟨.list (xs.map X1),.list [],.lst c (lC _ _),.lst d .nil,lD e,rfl,by show UO _+1<=60;rw[mS];decide,?_⟩
 cases xs with
 |nil=>exact q
 |cons x xs=>exact q
theorem eq_nil{xs:am F4}(c:H a=bn (xs.map V.str))(d:H b=bn [])(e:∀x∈xs,Nm x)(q:Q (.bl xs.isEmpty) H):DE (.ref a) (.ref b) H Q:=by
 refine⟨.list (xs.map X1),.list [],.lst c (lC _ _),.lst d .nil,lD e,rfl,by show UO _+1<=60;rw[mS];decide,?_⟩
 cases xs with
 |nil=>exact q
 |cons x xs=>exact q
theorem Bl(xs:am V)(k:Nat):fl xs (ih (k:Int)) none=xs.drop k:=by
 unfold fl;rw[HT.Jk,HT.Kn]
 by_cases h:k<=xs.length
 ·rw[aar h,oL (by rw[vj];omega)]
 ·rw[aaf (by omega),Gr,FV (by omega)];simp
def busy(rest:List (List F4))(x:F4):Bool:=rest.any λo=>decide (x∈o.drop 1)
def cL(all:List (List F4)):List (List F4)->List F4
 |[]=>[]
 |[]::rest=>cL all rest
 |(x::_)::rest=>if busy all x then cL all rest else x::cL all rest
theorem o1{n:F4}:∀{k:Nat}{rest:am (List F4)},dg k rest n=none ↔ ∀r∈rest,n∈r->r.head?=ih n
 |k,[]=>by simp[dg]
 |k,[]::rest=>by
  show dg (k+1) rest n=none ↔ _;rw[o1 (k:=k+1) (rest:=rest)];simp
 |k,(x::r)::rest=>by
  show(if n∈x::r/\x≠n then ih (k,x) else dg (k+1) rest n)=none ↔ _
  by_cases h:n∈x::r/\x≠n
  ·rw[aw h]
   constructor
   ·intro z;cases z
   ·intro z
    have:=z _ aT h.1;exact absurd (by simpa using this) h.2
  ·rw[ak h,o1 (k:=k+1) (rest:=rest)]
   constructor
   ·intro z q hq a
    rcases bu.mp hq with rfl|hq
    ·by_cases e:x=n
     ·rw[e];rfl
     ·exact absurd ⟨a,e⟩ h
    ·exact z q hq a
   ·exact λz q hq=>z q (a8 _ hq)
theorem Bm{all:am (List F4)}(b:∀r∈all,r.Nodup)(x:F4):busy all x=false ↔ dg 0 all x=none:=by
 rw[o1];unfold busy;rw[vh]
 constructor
 ·intro h q c hx
  have U:=h q c;cases q with
  |nil=>simp at hx
  |cons y t =>
   rcases bu.mp hx with rfl|hx
   ·rfl
   ·exact absurd (by simpa using hx) U
 ·intro h r a
  cases r with
  |nil=>simp
  |cons y t =>
   intro hx;have hx:x∈t:=by simpa using hx
   obtain rfl:y=x:=by simpa using h _ a (a8 _ hx)
   exact(eu.mp (b _ a)).1 hx
theorem r0{all:am (List F4)}(a:∀r∈all,r.Nodup):∀rest:am (List F4),(cL all rest).head?=g7 all rest
 |[]=>rfl
 |[]::rest=>r0 a rest
 |(x::t)::rest=>by
  show(if busy all x then cL all rest else x::cL all rest).head?=if (dg 0 all x).isNone then ih x else g7 all rest;cases b:busy all x with
  |false=>rw[(Bm a x).mp b];rfl
  |true =>
   have c:(dg 0 all x).isNone=false:=by
    cases z:dg 0 all x with
    |none=>rw[(Bm a x).mpr z]at b;cases b
    |some _=>rfl
   rw[c];exact r0 a rest
theorem mT(all:am (List F4))(r:am F4):∀rest:am (List F4),cL all (rest++[r])=cL all rest++cL all [r]
 |[]=>rfl
 |[]::rest=>mT all r rest
 |(x::t)::rest=>by
  show(if busy all x then cL all (rest++[r]) else x::cL all (rest++[r]))=(if busy all x then cL all rest else x::cL all rest)++cL all [r];rw[mT all r rest];split <;> rfl
theorem sg(all:am (List F4)):∀rest:am (List F4),(cL all rest).length<=rest.length
 |[]=>aG _
 |[]::rest=>U4 (sg all rest)
 |(x::t)::rest=>by
  have:=sg all rest;show(if busy all x then cL all rest else x::cL all rest).length<=rest.length+1;split
  ·omega
  ·rw[cD];omega
theorem o2{all:am (List F4)}{n:F4}:∀{rest:am (List F4)},n∈cL all rest ->∃r∈rest,n∈r
 |[],h=>by simp[cL]at h
 |[]::rest,h=>let ⟨r,a,e⟩:=o2 (rest:=rest) h;⟨r,a8 _ a,e⟩
 |(x::t)::rest,h=>by
  have h:n∈(if busy all x then cL all rest else x::cL all rest):=h;split at h
  ·obtain⟨r,a,e⟩:=o2 (rest:=rest) h
   exact⟨r,a8 _ a,e⟩
  ·rcases bu.mp h with rfl|h
   ·exact⟨_,aT,aT⟩
   ·obtain⟨r,a,e⟩:=o2 (rest:=rest) h
    exact⟨r,a8 _ a,e⟩
theorem wX{n:F4}(h:∀r∈rest,r.Nodup):∀r∈L2.without n rest,r.Nodup:=by
 intro r a;obtain⟨q,b,rfl⟩:=aZ.mp a;exact(h q b).filter _
structure DS(H:Hp)(rows:List (List F4))(l fa:FG)(m:Nat)(σ:St)(H1:Hp)(rest:List (List F4))(lv:List V)(cy:List F4)(la:FG):Prop where
 st:∃v3:Option V,σ=[ih (.ref l),ih (.ref la),ih (.ref fa),v3]
 mm:m=total rest
 u3:H1 la=ih (.lst lv)
 rr:f' (λa=>a≠fa) H1 lv rest
 ne:la≠fa
 P':H1 fa=ih (.lst (cy.map V.str))
 sm:Small rest
 nd:∀r∈rest,r.Nodup
 same:ao H H1
 lim:cy.length+total rest<=1000
 eq:cf (total rows) rows=(cf (total rest) rest).map (cy ++ ·)
noncomputable abbrev oo:List F4:=["_law_rows","_law_left","_law_found","_law_free"]
theorem n0:bg oo ["_law_rows"] (aH h9):=bB
def I3(s:VC):Vo:=match s with|.While t _ _ _=>t|_=>.Constant .none 0 ⟨0,0,0,0⟩
def Cu(e:Vo):Vo:=match e with|.ListComp _ (⟨_,_,i::_,_⟩::_) _ _=>i|_=>.Constant .none 0 ⟨0,0,0,0⟩
def pR(e:Vo)(i:Nat):Vo:=match e with|.BoolOp _ es _=>es.getD i (.Constant .none 0 ⟨0,0,0,0⟩)|_=>.Constant .none 0 ⟨0,0,0,0⟩
def jC(e:Vo):Vo:=match e with|.UnaryOp _ x _=>x|_=>.Constant .none 0 ⟨0,0,0,0⟩
noncomputable abbrev sW:VC:=bH (bE h9) 2
noncomputable abbrev eA:Vo:=e4 (bH (bE h9) 0)
abbrev eB:Vo:=c9 (I3 sW)
noncomputable abbrev eC:Vo:=e4 (bH (m5 sW) 0)
abbrev eD:Vo:=c9 (jC (pR (Cu eC) 1))
noncomputable abbrev eE:Vo:=e4 (bH (m5 sW) 3)
theorem ET:bJ oo (aH h9) ["_law_row"] [none] (bS eA):=cJ
theorem EU:bJ oo (aH h9) ["_law_row"] [none] (bS eB):=cJ
theorem EV:bJ oo (aH h9) ["_law_row","_law_left"] [none,ih 1] (bS eC):=cJ
theorem Qz:bJ ["_law_row","_law_left"] (relabel (bS eC) env) ["_law_other","_law_row"] [none,ih 0] (bS eD):=nest rfl (by decide +kernel) (by decide +kernel) rfl (by decide +kernel) (by decide +kernel)
theorem q0:(["_law_other","_law_row"]:am F4).Nodup:=by decide +kernel
theorem EW:bJ oo (aH h9) ["_law_row","_law_free"] [none,ih 3] (bS eE):=cJ
theorem QA:bJ ["_law_row","_law_free"] (relabel (bS eE) env) ["_law_name","_law_free"] [none,ih 1] (bS (CZ eE)):=nest rfl (by decide +kernel) (by decide +kernel) rfl (by decide +kernel) (by decide +kernel)
theorem QB:(["_law_name","_law_free"]:am F4).Nodup:=by decide +kernel
inductive qC(vs:List V)(H:Hp)(Q:VK)(E:XK):Prop
 |mk{l:FG}{ws:List V}{rows:List (List F4)}(_:vs=[.ref l])(_:H l=ih (.lst ws))(_:f' (λ_=>True) H ws rows)(_:Small rows)(_:(∀r∈rows,r.Nodup))(_:(cf (total rows) rows=none ->∀Y,ao H Y->Q .aN Y))(_:(∀o,cf (total rows) rows=ih o ->∀p Y,H p=none->ao H Y->Y p=ih (.lst (o.map V.str))->Q (.ref p) Y)):qC vs H Q E
theorem NI(F:aR K "_law_merged" "_law_merged" h9 f fd)(B:b7 mg):aU P w K mg base aC 1 f fd ["_law_rows"] qC:=by
 refine F.cz n0 λQc A outer s H vs Q E xo h=>?_
 ·obtain @⟨l,ws,rows,rfl,xw,yw,zj,zy,yD,zD⟩:=h
  have yo:=xo.units;intro X;refine⟨_,aF (gs (i:=1) n0.nd rfl (Yx rfl) (cj rfl ET (ez (pv 0)) (λs H fp=>⟨a4 0 ET.nd,cP,dX (HG K rfl) rfl B.list boot_list (aa (pv 0) af)⟩)))
   (aF (bt 2 n0.nd (ea af))
   (aF (sr fZ (m7 (aS (Ag rfl) rfl B.any boot_any (aa (cj rfl EU (ez (pv 1)) (λs H fp=>⟨a4 0 EU.nd,cP,eU (tS yo) (pv 0) (ea af) (bh _)⟩)) af)) (λ_=>rfl))
    (aF (gs (i:=3) n0.nd rfl (Yx rfl) (cj rfl EV (ez (pv 1)) (λs H fp=>⟨sR (i:=0) EV.nd rfl (Yx rfl),
      h8 (PW.pt (pw_and (bC (tS yo) (pv 0) (ea af) (bh _)) (pw_and1 (cI (b6 (aS (HH K rfl rfl) rfl B.any boot_any (aa (cj rfl Qz (Ab K rfl (pv 1)) (λs H fp=>⟨a4 0 q0,cP,eU (BA K rfl) (aW (r7 K rfl) (pv 1) au) (lx (I2 K rfl) (pv 0) (lH au) lG) rfl⟩)) af))))))),
      aW (r7 K rfl) (pv 0) au (λ_ _=>rfl)⟩)))
    (aF (bf (bC (tR yo) (pv 3) (ea af) (bh _)) (aA (aO iN)) bw)
    (aF (eT (fz g5 h3 h5 gr (pv 2) (aa (aW c6 (pv 3) au) af)))
    (aA (gs (i:=1) n0.nd rfl (Yx rfl) (cj rfl EW (ez (pv 1)) (λs H fp=>⟨a4 0 EW.nd,cP,
      cj rfl QA (Ab K rfl (pv 0)) (λs H fp=>⟨a4 0 QB,h8 (bC iR (pv 0) (aW (r7 K rfl) (pv 1) au) (bh _)),pv 0⟩)⟩))))))))
   (aA (aO (pv 2))))),?_⟩
  refine ag rfl ⟨l,rfl,⟨_,aq.of xw⟩,λxi zp=>?_⟩;refine f6 (xs:=ws) (λi ys g H1=>∃C:ap V,g=[C]/\H1 xi=bn ys/\ao H H1/\f' (λa=>a≠xi) H1 ys (rows.take i)) ⟨none,rfl,ah,ay zp,.nil⟩ (λi ys g H1 ab=>by obtain⟨_,_,S,T,_⟩:=ab;exact ⟨S,aq.of (T _ _ xw)⟩) ?_ ?_
  ·rintro i x ys g H1 I ⟨C,rfl,U,yg,ye⟩
   obtain⟨a,r,rfl,L,_,W⟩:=lr yw I;have O:i<ws.length:=(bQ.mp I).1;have tk:rows.take (i+1)=rows.take i++[r]:=by rw[cO,L];rfl
   refine ag rfl ⟨a,_,rfl,.inl (aq.of (yg _ _ W)),λc xa=>?_⟩;have zo:=ay (o:=.lst (r.map V.str)) xa;have yr:c≠xi:=a7 (aB U xa);refine⟨zo _ _ U,?_,cw_next O ⟨_,rfl,ah,λb o d=>?_,?_⟩⟩
   ·have h2:=j1 ye
    have xb:=zj.bN;rw[b8]at h2;rw[aJ];omega
   ·rw[ai (aB d zp)];exact zo _ _ (yg b o d)
   ·rw[tk]
    refine rN (jk ye λb xs D d=>⟨D,by rw[ai D];exact zo _ _ d⟩) yr ?_
    rw[ai yr];exact ah
  ·rintro xz g H1 ⟨C,rfl,U,yg,ye⟩
   rw[j1 yw,cF]at ye;refine⟨ba _,λk yi=>?_⟩;have xp:=ay (o:=.lst []) yi;have xq:H k=none:=yg.free yi;refine⟨λm σ H2=>∃rest q v M,DS H rows l k m σ H2 rest q v M,⟨_,rows,xz,[],xi,⟨none,rfl⟩,rfl,xp _ _ U,jk ye λb xs D d=>⟨aB d yi,xp _ _ d⟩,aB U yi,ah,zj,zy,yg.trans xp,by have:=oS zj.short;have:=zj.bN;simp only[jf];omega,by cases cf (total rows) rows <;> rfl⟩,?_⟩
   rintro m σ H2 ⟨rest,q,v,M,R⟩;obtain⟨yG,rfl⟩:=R.st;refine ag rfl ⟨M,rfl,⟨_,aq.of R.u3⟩,λzw zr=>?_⟩;refine f6 (xs:=q) (λi ys g ya=>∃C:ap V,g=[C]/\ys=((rest.take i).map λr=>!r.isEmpty).map V.bl/\ya zw=bn ys/\ao H2 ya) ⟨none,rfl,rfl,ah,ay zr⟩ (λi ys g ya ab=>by obtain⟨_,_,_,S,T⟩:=ab;exact ⟨S,aq.of (T _ _ R.u3)⟩) ?_ ?_
   ·rintro i x ys g ya I ⟨C,rfl,rfl,xb,yb⟩
    obtain⟨a,r,rfl,L,_,W⟩:=lr R.rr I;have O:i<q.length:=(bQ.mp I).1;have tk:rest.take (i+1)=rest.take i++[r]:=by rw[cO,L];rfl
    have ze:=dQ L;refine ag rfl ⟨ba _,λz zg=>?_⟩;have p:=ay (o:=.lst []) zg;refine ne_nil (p _ _ (yb _ _ W)) ah (R.sm.nm r ze) ?_;refine⟨p _ _ xb,?_,cw_next O (ag rfl ⟨by rw[tk,a5,a5];rfl,ah,λb o d=>by rw[ai (aB d zr)];exact p _ _ (yb b o d)⟩)⟩
    have xd:=R.sm.bN;rw[ar,ar,b8,aJ];omega
   ·rintro bs g ya ⟨C,rfl,rfl,xb,yb⟩
    rw[j1 R.rr,cF]at xb;refine⟨zw,_,rfl,aq.of xb,_,rfl,?_⟩;have yz:((rest.map λr=>!r.isEmpty).any id)=rest.any λr=>!r.isEmpty:=by rw[vB];rfl
    rw[yz];have xe:=yb _ _ R.u3;have zk:=yb _ _ R.P';have xf:f' (λa=>a≠k) ya q rest:=jk R.rr λb xs D d=>⟨D,yb _ _ d⟩;have xt:=R.same.trans yb;refine dm (λhA=>?_) (λhA=>?_)
    ·refine⟨λzz Y=>∃xx,xx<m /\∃rest q v M,DS H rows l k xx zz Y rest q v M,λ_ _ z=>z,?_⟩
     refine ag rfl ⟨M,rfl,⟨_,aq.of xe⟩,λyd xm=>?_⟩;refine f6 (xs:=q) (λi ys g zb=>∃C:ap V,g=[C,bd M]/\ys=(cL rest (rest.take i)).map V.str/\zb yd=bn ys/\ao ya zb) ⟨none,rfl,rfl,ah,ay xm⟩ (λi ys g zb ab=>by obtain⟨_,_,_,S,T⟩:=ab;exact ⟨S,aq.of (T _ _ xe)⟩) ?_ ?_
     ·rintro i x ys g zb I ⟨C,rfl,rfl,xd,J⟩
      obtain⟨a,r,rfl,L,_,W⟩:=lr xf I;have O:i<q.length:=(bQ.mp I).1;have tk:rest.take (i+1)=rest.take i++[r]:=by rw[cO,L];rfl
      have ze:=dQ L;have yq:=J _ _ W;refine ag rfl ⟨ba _,λz zg=>?_⟩;have p:=ay (o:=.lst []) zg;refine ne_nil (p _ _ yq) ah (R.sm.nm r ze) (ag rfl ?_);have za:=p _ _ xd;cases r with
      |nil=>exact cw_next O (ag rfl ⟨by rw[tk,mT];show _=(_++[]).map _;rw[ei],za,J.trans p⟩)
      |cons y t =>
       refine ag rfl ⟨M,rfl,⟨_,aq.of (p _ _ (J _ _ xe))⟩,λyx yt=>?_⟩;refine f6 (xs:=q) (λj ys g xh=>∃xc:ap V,g=[xc,bd a]/\ys=((rest.take j).map λo=>decide (y∈o.drop 1)).map V.bl/\xh yx=bn ys/\ao (upd zb z (.lst [])) xh) ⟨none,rfl,rfl,ah,ay yt⟩ (λj ys g xh ab=>by obtain⟨_,_,_,S,T⟩:=ab;exact ⟨S,aq.of (T _ _ (p _ _ (J _ _ xe)))⟩) ?_ ?_
       ·rintro j x ys g xh zt ⟨xc,rfl,rfl,yc,zd⟩
        obtain⟨b,o,rfl,xA,_,yA⟩:=lr xf zt;have yf:j<q.length:=(bQ.mp zt).1;have zi:rest.take (j+1)=rest.take j++[o]:=by rw[cO,xA];rfl
        have xu:=J.trans (p.trans zd);refine ag rfl (jM (xu _ _ W) jP ?_);refine bj rfl rfl ⟨b,_,rfl,aq.of (xu _ _ yA),λp2 zA=>?_⟩;have xE:fl (o.map V.str) (ih 1) none=(o.drop 1).map V.str:=by
         rw[show(1:Int)=((1:Nat):Int) from rfl,Bl,aaG]
        rw[xE];have N:=ay (o:=.lst ((o.drop 1).map V.str)) zA;refine⟨p2,_,rfl,.inl (aq.of ah),rfl,h7 _,?_⟩;rw[ak bX,iJ];refine⟨N _ _ yc,?_,cw_next yf (ag rfl ⟨by rw[zi,a5,a5];rfl,ah,λc u xa=>by rw[ai (aB xa yt)];exact N _ _ (zd c u xa)⟩)⟩
        have zx:=R.sm.bN;rw[ar,ar,b8,aJ];omega
       ·rintro xG g xh ⟨xc,rfl,rfl,yc,zd⟩
        rw[j1 xf,cF]at yc;refine⟨yx,_,rfl,aq.of yc,_,rfl,?_⟩;have yE:((rest.map λo=>decide (y∈o.drop 1)).any id)=busy rest y:=by unfold busy;rw[vB];rfl
        rw[yE];have ym:=p.trans zd;cases d:busy rest y with
        |true =>
         refine cw_next O (ag rfl ⟨?_,zd _ _ za,J.trans ym⟩);rw[tk,mT];show _=(_++(if busy rest y then cL rest [] else y::cL rest [])).map _;rw[d];show _=(_++[]).map _;rw[ei]
        |false =>
         refine ag rfl (jM (ym _ _ yq) jP ⟨zd _ _ za,?_,cw_next O (ag rfl ⟨?_,ah,λc u xa=>by rw[ai (aB xa xm)];exact ym _ _ (J c u xa)⟩)⟩)
         ·have zx:=sg rest (rest.take i)
          have zG:=R.sm.bN;rw[b8]at zx;rw[ar,aJ];omega
         ·rw[tk,mT]
          show _=(_++(if busy rest y then cL rest [] else y::cL rest [])).map _;rw[d,a5];rfl
     ·rintro xy g zb ⟨C,rfl,rfl,xd,J⟩
      rw[j1 xf,cF]at xd;have yu:∀x∈cL rest rest,Nm x:=λx I=>by
       obtain⟨r,xo,e⟩:=o2 I;exact R.sm.nm r xo x e
      have xB:=r0 R.nd rest;refine ag rfl ⟨ba _,λz zg=>?_⟩;have p:=ay (o:=.lst []) zg;refine eq_nil (p _ _ xd) ah yu (ag rfl ?_);have zm:fg rest=(cL rest rest).head?:=xB.symm;have xn:=xt.trans (J.trans p);have za:=p _ _ xd;have zq:=p _ _ (J _ _ xe);have xl:=p _ _ (J _ _ zk);generalize cL rest rest=xy at zm za yu⊢;cases xy with
      |nil =>
       refine yD ?_ _ xn;rw[R.eq,rY hA zm];rfl
      |cons n zE =>
       have e:fg rest=ih n:=zm;have lt:=lh (lq e);generalize xH:upd zb z (.lst [])=G at xn za zq xl p⊢;have yB:f' (λa=>a≠k) G q rest:=jk xf λb xs D d=>⟨D,p _ _ (J _ _ d)⟩;refine ag rfl ⟨.inl ⟨rfl,_,aq.of xl⟩,_,rfl,jM za jP ⟨k,_,_,rfl,rfl,xl,by have:=R.lim;rw[ar,aJ];omega,?_⟩⟩
       have zB:yd≠k:=a7 (aB zk xm);have yc:(upd G k (.lst (v.map V.str++[.str n]))) yd=bn ((n::zE).map V.str):=by rw[ai zB];exact za
       have yl:(upd G k (.lst (v.map V.str++[.str n]))) M=bn q:=by rw[ai R.ne];exact zq
       have zh:(upd G k (.lst (v.map V.str++[.str n]))) k=bn ((v++[n]).map V.str):=by rw[ah,a5];rfl
       have zu:ao H (upd G k (.lst (v.map V.str++[.str n]))):=λb o d=>by rw[ai (aB d xq)];exact xn b o d
       have yn:f' (λa=>a≠k) (upd G k (.lst (v.map V.str++[.str n]))) q rest:=jk yB λb xs D d=>⟨D,by rw[ai D];exact d⟩
       generalize upd G k (.lst (v.map V.str++[.str n]))=xF at yc yl zh zu yn⊢;refine ag rfl ⟨M,rfl,⟨_,aq.of yl⟩,λyh zn=>?_⟩;have xC:yh≠k:=a7 (aB zh zn);refine f6 (xs:=q) (λi ys g zc=>∃C:ap V,g=[C,bd yd]/\zc yh=bn ys/\ao xF zc/\f' (λa=>a≠k/\a≠yh) zc ys (L2.without n (rest.take i))) ⟨none,rfl,ah,ay zn,.nil⟩ (λi ys g zc ab=>by obtain⟨_,_,S,T,_⟩:=ab;exact ⟨S,aq.of (T _ _ yl)⟩) ?_ ?_
       ·rintro i x ys g zc I ⟨C,rfl,xk,N,zf⟩
        obtain⟨a,r,rfl,L,_,W⟩:=lr yn I;have O:i<q.length:=(bQ.mp I).1;have tk:rest.take (i+1)=rest.take i++[r]:=by rw[cO,L];rfl
        have ze:=dQ L;have zl:=N _ _ W;have xr:=N _ _ yc;refine ag rfl ⟨a,rfl,⟨_,aq.of zl⟩,λb1 xg=>?_⟩;have yC:a≠b1:=aB zl xg;have zC:yd≠b1:=aB xr xg;have xv:b1≠yh:=a7 (aB xk xg);have xD:b1≠k:=a7 (aB (N _ _ zh) xg);refine f6 (xs:=r.map V.str) (λj zs xj yk=>∃xc:ap V,xj=[xc,bd yd]/\zs=((r.take j).filter λy=>!decide (y=n)).map V.str/\yk=upd zc b1 (.lst zs)) ⟨none,rfl,rfl,rfl⟩ (λj zs xj yk ⟨_,_,_,z⟩=>by rw[z];exact⟨ah,aq.of (by rw[ai yC];exact zl)⟩) ?_ ?_
        ·rintro j x zs xj yk yv ⟨xc,rfl,rfl,rfl⟩
         have yf:j<(r.map V.str).length:=(bQ.mp yv).1;have zv:j<r.length:=by simpa using yf
         obtain rfl:V.str r[j]=x:=by simpa [zv] using yv
         have zi:r.take (j+1)=r.take j++[r[j]]:=by rw[cO,bA zv];rfl
         refine bj rfl rfl (jM (by rw[ai zC];exact xr) jP ⟨rfl,_,rfl,?_⟩)
         refine dm (λyj=>?_) (λyj=>?_)
         ·have yy:r[j]≠n:=λz=>by rw[z]at yj;simp at yj
          refine ag rfl ⟨ah,?_,cw_next yf (ag rfl ⟨?_,by rw[ia]⟩)⟩
          ·have U:=fu (λy=>!decide (y=n)) (r.take j)
           have h2:(r.take j).length<=r.length:=by rw[b8];omega
           have xb:=R.sm.short r ze;rw[ar,aJ];omega
          ·rw[zi,f3,a5,h6 (by simpa using yy)];rfl
         ·have yF:r[j]=n:=by
           by_cases z:r[j]=n
           ·exact z
           ·exact absurd (by simp[z]) yj
          refine cw_next yf (ag rfl ⟨?_,rfl⟩);rw[zi];simp[yF]
        ·rintro zs xj yk ⟨xc,rfl,rfl,rfl⟩
         rw[ar,cF];have yp:=ay (o:=.lst ((r.filter λy=>!decide (y=n)).map V.str)) xg;refine⟨yp _ _ xk,?_,cw_next O ⟨_,rfl,ah,λb o d=>?_,?_⟩⟩
         ·have U:=j1 zf
          have h2:(L2.without n (rest.take i)).length<=rest.length:=by unfold L2.without;rw[ar,b8];omega
          have xb:=R.sm.bN;rw[aJ];omega
         ·rw[ai (aB d zn)];exact yp _ _ (N b o d)
         ·have zF:L2.without n (rest.take (i+1))=L2.without n (rest.take i)++[r.filter λy=>!decide (y=n)]:=by rw[tk];unfold L2.without;rw[a5];rfl
          rw[zF];refine rN (jk zf λb xs D d=>⟨D,by rw[ai D.2];exact yp _ _ d⟩) ⟨xD,xv⟩ ?_
          rw[ai xv];exact ah
       ·rintro ys g zc ⟨C,rfl,xk,N,zf⟩
        rw[j1 yn,cF]at zf;refine⟨_,by rw[R.mm];exact lt,L2.without n rest,ys,v++[n],yh,⟨_,rfl⟩,rfl,xk,jk zf λb xs D d=>⟨D.1,d⟩,xC,N _ _ zh,wm R.sm,wX R.nd,zu.trans N,?_,?_⟩
        ·have:=R.lim;rw[df,jd];omega
        ·rw[R.eq,rZ hA e,Z7]
         congr 1
         funext z
         simp
    ·refine ag rfl (zD v ?_ k ya xq xt zk)
     rw[R.eq,rX (by simpa using hA)]
     show ih (v++[])=ih v;rw[ei]
structure dq(mg:F4->Option i'):Prop where
 c3:mg "isinstance" = none
 str:mg "str" = none
 dict:mg "dict" = none
 sorted:mg "sorted" = none
theorem cX:Vx "isinstance" = ih (.builtin "isinstance"):=by decide +kernel
theorem boot_str:Vx "str" = ih (.type "str"):=by decide +kernel
theorem boot_dict:Vx "dict" = ih (.type "dict"):=by decide +kernel
theorem boot_sorted:Vx "sorted" = ih (.builtin "sorted"):=by decide +kernel
theorem boot_all:Vx "all" = ih (.builtin "all"):=by decide +kernel
theorem HI(K:Yh)(h:X.K=K)(a:X.calm=true):bY X (.builtin "all") (λxs H Q=>∃(p:FG) (bs:am Bool),xs=[.ref p]/\aq K H p (bs.map V.bl)/\Q (.bl (bs.all id)) H):=by subst h;exact g6 a
theorem ite_ff{A:Prop}{k:Bool}(a:k=false)(h:B):if k=true then A else B:=by subst a;exact h
theorem ite_tt{A:Prop}{k:Bool}(a:k=true)(h:A):if k=true then A else B:=by subst a;exact h
theorem Mm:bg ["thing"] ["thing"] (aH ny):=bB
abbrev O5:Vo:=c9 (ir (bH (bE ny) 1))
theorem C0:bJ ["thing"] (aH ny) ["sign"] [none] (bS O5):=cJ
theorem I4{g:F4->V}(e:H a=bi (ps.map V.str))(f:H d=ce kvs)(r:∀x∈ps,bz kvs (Uz x)=ih (g x))(h:H p=none)(hs:ps.length<=100)
  (q:Q (.ref p) (upd H p (.lst (ps.map g)))):hF (mq K a) (iQ 0) nO (uf (jz 1) (jz 0)) [none,bd d] Q p H:=by
 have i:a≠p:=aB e h;have l:d≠p:=aB f h;refine eS (xs:=ps.map V.str) (λj zs b H2=>∃c:ap V,b=[c,bd d]/\zs=(ps.take j).map g/\H2=upd H p (.lst zs)) ⟨none,rfl,rfl,rfl⟩ (λj zs b H2 ⟨_,_,_,z⟩=>by rw[z];exact⟨ah,aE.of (by rw[ai i];exact e)⟩) ?_ ?_
 ·rintro j x zs b H2 s ⟨c,rfl,rfl,rfl⟩
  obtain⟨m,n,rfl,o⟩:=pM s;refine bj rfl rfl ⟨d,g ps[j],rfl,?_,ah,?_,cw_next m (ag rfl ⟨?_,by rw[ia]⟩)⟩
  ·rw[<-r _ (dz n)];exact eI.k (k:=Uz ps[j]) (by rw[ai l];exact f)
  ·rw[ar,b8,aJ];omega
  ·rw[o,a5];rfl
 ·rintro zs b H2 ⟨c,rfl,rfl,rfl⟩
  rw[ar,cF];exact q
theorem I5{g:F4->V}(e:H a=bn (ps.map V.str))(f:H d=ce kvs)(r:∀x∈ps,bz kvs (Uz x)=ih (g x))(h:H p=none)(hs:ps.length<=100)
  (q:Q (.ref p) (upd H p (.lst (ps.map g)))):hF (kM K a) (iQ 0) nO (uf (jz 1) (jz 0)) [none,bd d] Q p H:=by
 have i:a≠p:=aB e h;have l:d≠p:=aB f h;refine f6 (xs:=ps.map V.str) (λj zs b H2=>∃c:ap V,b=[c,bd d]/\zs=(ps.take j).map g/\H2=upd H p (.lst zs)) ⟨none,rfl,rfl,rfl⟩ (λj zs b H2 ⟨_,_,_,z⟩=>by rw[z];exact⟨ah,aq.of (by rw[ai i];exact e)⟩) ?_ ?_
 ·rintro j x zs b H2 s ⟨c,rfl,rfl,rfl⟩
  obtain⟨m,n,rfl,o⟩:=pM s;refine bj rfl rfl ⟨d,g ps[j],rfl,?_,ah,?_,cw_next m (ag rfl ⟨?_,by rw[ia]⟩)⟩
  ·rw[<-r _ (dz n)];exact eI.k (k:=Uz ps[j]) (by rw[ai l];exact f)
  ·rw[ar,b8,aJ];omega
  ·rw[o,a5];rfl
 ·rintro zs b H2 ⟨c,rfl,rfl,rfl⟩
  rw[ar,cF];exact q
def rowsOf(L:F4->List F4)(ps:List F4):List (List F4):=ps.map L++[ps]
def i9(H:Hp)(kvs:List (Key×V))(L:F4->List F4)(x:F4):Prop:= ∃a,bz kvs (Uz x)=ih (.ref a)/\H a=ih (.tup ((L x).map V.str))
theorem i9.same(h:i9 H kvs L x)(s:ao H Y):i9 Y kvs L x:=let ⟨a,e,q⟩:=h;⟨a,e,s _ _ q⟩
theorem Lc(h:∀x∈ps,i9 H kvs L x):∃g:F4->V,(∀x∈ps,bz kvs (Uz x)=ih (g x))/\dj H (ps.map g) (ps.map L):=by
 refine⟨λx=>(bz kvs (Uz x)).getD .aN,λx b=>?_,?_⟩
 ·obtain⟨a,e,_⟩:=h x b;show _=ih ((bz kvs (Uz x)).getD V.aN);rw[e];rfl
 ·induction ps with
  |nil=>exact .nil
  |cons x ps c =>
   obtain⟨a,e,q⟩:=h x aT;exact .cons ⟨a,by show(bz kvs (Uz x)).getD V.aN=_;rw[e];rfl,q⟩ (c λy d=>h y (a8 _ d))
inductive qD(vs:List V)(H:Hp)(Q:VK)(E:XK):Prop
 |mk{d pa:FG}{kvs:List (Key×V)}{L:F4->List F4}{k:F4}{ps o:List F4}(_:vs=[.ref d,.str k,.ref pa])(_:H d=ih (.dK kvs))(_:H pa=ih (.tup (ps.map V.str)))(_:(∀x∈ps,i9 H kvs L x))(_:Small (rowsOf L ps))(_:cf (total (rowsOf L ps)) (rowsOf L ps)=ih o)(_:o.length<=100)(_:∀p Y,ao H Y->Y p=ih (.tup ((k::o).map V.str))->Q (.ref p) Y):qD vs H Q E
noncomputable abbrev EX:List F4:=["lines","kind","parents","rows","refusal"]
theorem DT:bg EX ["lines","kind","parents"] (aH m2):=bB
def DU(e:Vo):Vo:=match e with|.BinOp a _ _ _=>a|_=>.Constant .none 0 ⟨0,0,0,0⟩
abbrev QC:Vo:=DU (c9 (e4 (bH (bE m2) 0)))
theorem DV:bJ EX (aH m2) ["parent","lines"] [none,ih 0] (bS QC):=cJ
theorem NJ{z:FG}{v:XX}(F:aR K "line_from" "line_from" m2 f fd)(B:b7 mg)(C:aY P w K mg base aC 3 z v ["rows"] pe "merged") :
  aU P w K mg base aC 4 f fd ["lines","kind","parents"] qD:=by
 refine F.cz DT λQc A outer s H vs Q E a h=>?_
 ·obtain @⟨d,b,kvs,L,k,ps,o,rfl,D,e,G,n,I,yb,q⟩:=h
  have J:=a.units;have x:=ip J;intro X;refine⟨_,aF (bt 3 DT.nd (dX iH rfl B.tuple boot_tuple (aa (bF kg (cj rfl DV (e8 (pv 2)) (λs H fp=>⟨a4 0 DV.nd,cP,nt x (pv 1) (pv 0) (λ_ _=>rfl)⟩)) (ea (aa (pv 2) af))) af)))
   (aA (AX (aA (aO (bF BB (cZ (aa (pv 1) af)) (aP C a (aa (pv 3) af))))) rfl)),?_⟩
  obtain⟨g,M,N⟩:=Lc G;have zb:ps.length<=20:=n.short ps (et _ aT);refine ag rfl ⟨b,rfl,⟨_,aE.of e⟩,λc t=>I4 e D M t (by omega) ?_⟩
  have O:=ay (o:=.lst (ps.map g)) t;refine ag rfl ⟨c0,λR j=>?_⟩;have S:=O.trans (ay (o:=.lst [V.ref b]) j);refine⟨c,R,_,_,rfl,rfl,by rw[ai (aB ah j)];exact ah,ah,by rw[ar,aJ];show _+1<=_;omega,λT y=>?_⟩
  have U:=S.trans (ay (o:=.lst (ps.map g++[V.ref b])) y);refine⟨T,_,rfl,.inl ⟨aq.of ah,λr a=>?_⟩⟩;have W:=U.trans (ay (o:=.tup (ps.map g++[V.ref b])) a);refine ag rfl ⟨c0,λY l=>?_⟩;have i:=W.trans (ay (o:=.tup [V.str k]) l);refine ag rfl (pe.mk rfl (rows:=rowsOf L ps) (by rw[ai (aB ah l)];exact ah) (dj.append (N.same i) (i _ _ e)) n I λm yc xc u xa=>?_)
  refine⟨Y,m,_,_,rfl,rfl,u _ _ ah,xa,by rw[ar,aJ];show 1+_<=_;omega,λp ya za xb=>?_⟩
  exact q p ya (i.trans (u.trans za)) xb
def bK(H:Hp)(vs:List V)(Qa:List (F4×List F4)):Prop:=XU (λy p=>∃a b,y=V.ref a/\H a=ih (.tup [.str p.1,.ref b])/\H b=ih (.tup (p.2.map V.str))) vs Qa
theorem bK.keep(h:bK H vs Qa)(s:∀b xs,H b=bi xs->Y b=bi xs):bK Y vs Qa:=Paired.imp' (λ_ _ c=>by obtain⟨a,b,e,q,r⟩:=c;exact ⟨a,b,e,s _ _ q,s _ _ r⟩) h
theorem bK.same(h:bK H vs Qa)(s:ao H Y):bK Y vs Qa:=h.keep λ_ _ e=>s _ _ e
theorem bK.length(h:bK H vs Qa):vs.length=Qa.length:=cC h
theorem bK.append{p:F4×List F4}(h:bK H vs Qa)(q:H a=bi [.str p.1,.ref b])(r:H b=bi (p.2.map V.str)):bK H (vs++[.ref a]) (Qa++[p]):=gY h ⟨a,b,rfl,q,r⟩
theorem bK.pairs(h:bK H vs Qa):∃kvs,hC H vs kvs/\kvs.map (·.1)=Qa.map (·.1):=by
 induction h with
 |nil=>exact⟨[],.nil,rfl⟩
 |cons p _ c =>
  obtain⟨a,b,e,q,r⟩:=p;obtain⟨kvs,U,h2⟩:=c;exact⟨(_,.ref b)::kvs,.cons ⟨a,e,q⟩ U,by rw[bD,bD,h2]⟩
structure ig(Qa:List (F4×List F4))(L:F4->List F4):Prop where
 nd:(Qa.map (·.1)).Nodup
 bN:Qa.length<=8
 nm:∀p∈Qa,Nm p.1
 up:∀p∈Qa,∀x∈p.2,∃q∈Qa,q.1=x
 rank:∃r:F4->Nat,∀p∈Qa,∀x∈p.2,r x<r p.1
 line:∀p∈Qa,Small (rowsOf L p.2) /\∃o,cf (total (rowsOf L p.2)) (rowsOf L p.2)=ih o/\L p.1=p.1::o/\o.length<=100
theorem ig.perm{b:am (F4×List F4)}(h:ig Qa L)(p:b.Perm Qa):ig b L:=by
 have m:∀{q},q∈b ↔ q∈Qa:=λ{q}=>p.mem_iff;obtain⟨r,c⟩:=h.rank;exact⟨(p.map _).nodup_iff.mpr h.nd,by rw[p.length_eq];exact h.bN,λq a=>h.nm q (m.mp a),λq a x d=>let ⟨z,f,e⟩:=h.up q (m.mp a) x d;⟨z,m.mpr f,e⟩,⟨r,λq a=>c q (m.mp a)⟩,λq a=>h.line q (m.mp a)⟩
def isDone(kvs:List (Key×V))(x:F4):Bool:=(bz kvs (Uz x)).isSome
theorem J0{rest:am (F4×List F4)}(ok:ig Qa L)(sub:∀p∈rest,p∈Qa)(all:∀p∈Qa,dn p.1=true\/p∈rest)(ne:rest ≠ []):∃p∈rest,∀x∈p.2,dn x=true:=by
 obtain⟨r,f⟩:=ok.rank;have c:∀n,∀p∈rest,r p.1=n ->∃q∈rest,∀x∈q.2,dn x=true:=by
  intro n
  induction n using Zp with
  |_ n g =>
   intro p a e
   by_cases h:∀x∈p.2,dn x=true
   ·exact⟨p,a,h⟩
   ·simp only[acb]at h
    obtain⟨x,b,d⟩:=h;obtain⟨q,i,rfl⟩:=ok.up p (sub p a) x b;have lt:=f p (sub p a) q.1 b;rcases all q i with z|z
    ·exact absurd z d
    ·exact g _ (by omega) q z rfl
 cases rest with
 |nil=>exact absurd rfl ne
 |cons p t=>exact c _ p aT rfl
def fh(dn:F4->Bool)(rest:List (F4×List F4)):List (F4×List F4):=rest.filter λp=>(p.2.map dn).all id
theorem AB{rest:am (F4×List F4)}{p:F4×List F4}:p∈fh dn rest ↔ p∈rest /\∀x∈p.2,dn x=true:=by
 unfold fh;rw[d9,Gs,gX];rfl
theorem wY{α:Type}(f:α->Bool):∀l:am α,(l.filter f).length+(l.filter λx=>!f x).length=l.length
 |[]=>rfl
 |x::l=>by
  have a:=wY f l;cases h:f x <;> simp[ru,h] <;> omega
theorem I6{q2:F4->Bool}{rest:am (F4×List F4)}(h:∀p∈fh dn rest,q2 p.1=true):(rest.filter λp=>!q2 p.1).length+(fh dn rest).length<=rest.length:=by
 have e:rest.length=(rest.filter λp=>(p.2.map dn).all id).length+(rest.filter λp=>!(p.2.map dn).all id).length:=by
  exact(wY (λp:F4×List F4=>(p.2.map dn).all id) rest).symm
 have b:(rest.filter λp=>!q2 p.1).length<=(rest.filter λp=>!(p.2.map dn).all id).length:=by
  rw[<-Vy,<-Vy];refine List.countP_mono_left λp a U=>?_;cases z:(p.2.map dn).all id with
  |false=>rfl
  |true =>
   have:=h p (d9.mpr ⟨a,z⟩);rw[this]at U;cases U
 unfold fh;omega
theorem J1(e:H a=bi (ps.map V.str))(f:H d=ce kvs)(g:H p=none)(hs:ps.length<=100)
  (q:Q (.ref p) (upd H p (.lst ((ps.map (isDone kvs)).map V.bl)))):hF (mq K a) (iQ 0) nO (DJ (jz 0) (jz 1)) [none,bd d] Q p H:=by
 have h:a≠p:=aB e g;have i:d≠p:=aB f g;refine eS (xs:=ps.map V.str) (λj zs b H2=>∃c:ap V,b=[c,bd d]/\zs=((ps.take j).map (isDone kvs)).map V.bl/\H2=upd H p (.lst zs)) ⟨none,rfl,rfl,rfl⟩ (λj zs b H2 ⟨_,_,_,z⟩=>by rw[z];exact⟨ah,aE.of (by rw[ai h];exact e)⟩) ?_ ?_
 ·rintro j x zs b H2 n ⟨c,rfl,rfl,rfl⟩
  obtain⟨l,o,rfl,m⟩:=pM n;refine bj rfl rfl ⟨d,_,rfl,eI.k (k:=Uz ps[j]) (by rw[ai i];exact f),ah,?_,cw_next l (ag rfl ⟨?_,by rw[ia]⟩)⟩
  ·rw[ar,ar,b8,aJ];omega
  ·rw[m,a5,a5];rfl
 ·rintro zs b H2 ⟨c,rfl,rfl,rfl⟩
  rw[ar,cF];exact q
def ku(Qa:List (F4×List F4))(kvs:List (Key×V)):Prop:=(kvs.map (·.1)).Nodup /\∀k∈kvs.map (·.1),∃p∈Qa,k=Uz p.1
theorem AD(kvs:am (Key×V))(k:Key)(v:V):(k∈kvs.map (·.1)/\(putK kvs k v).map (·.1)=kvs.map (·.1))\/(k ∉ kvs.map (·.1)/\(putK kvs k v).map (·.1)=kvs.map (·.1)++[k]):=by
 have e:(kvs.any λa=>decide (a.1=k))=true ↔ k∈kvs.map (·.1):=by
  rw[oF,aZ];exact⟨λ⟨x,h,d⟩=>⟨x,h,fw d⟩,λ⟨x,h,d⟩=>⟨x,h,bq d⟩⟩
 unfold putK
 by_cases h:k∈kvs.map (·.1)
 ·refine .inl ⟨h,?_⟩
  rw[aw (e.mpr h),c5];refine j0 λa _=>?_;show(if a.1=k then (a.1,v) else a).1=a.1;split <;> rfl
 ·refine .inr ⟨h,?_⟩
  rw[ak λz=>h (e.mp z),a5];rfl
theorem J2{k j:Key}:j∈(putK kvs k v).map (·.1) ↔ j=k\/j∈kvs.map (·.1):=by
 rcases AD kvs k v with⟨h,e⟩|⟨h,e⟩
 ·rw[e];exact⟨.inr,λz=>z.elim (λe=>e ▸ h) id⟩
 ·rw[e,cw,b9];exact Or.comm
theorem Ld{k:Key}(h:(kvs.map (·.1)).Nodup):((putK kvs k v).map (·.1)).Nodup:=by
 rcases AD kvs k v with⟨_,e⟩|⟨c,e⟩
 ·rw[e];exact h
 ·rw[e,gG]
  exact⟨h,by simp,λa d b f e=>c (by rw[<-(b9.mp f),<-e];exact d)⟩
theorem ku.put{p:F4×List F4}(h:ku Qa kvs)(a:p∈Qa):ku Qa (putK kvs (Uz p.1) v):=by
 refine⟨Ld h.1,λk b=>?_⟩;rcases J2.mp b with z|z
 ·exact⟨p,a,z⟩
 ·exact h.2 k z
theorem Bn:∀{kvs:am (Key×V)}{x:F4},isDone kvs x=true->Uz x∈kvs.map (·.1)
 |[],x,h=>by cases h
 |(a,b)::kvs,x,h=>by
  by_cases e:a=Uz x
  ·rw[e];exact aT
  ·unfold isDone at h;rw[ey e]at h
   exact a8 _ (Bn h)
theorem wZ{α:Type}{a b:am α}(c:a.Nodup)(d:b.Nodup)(h:∀x,x∈a ↔ x∈b):a.Perm b:=(vV c d).mpr h
theorem Mn{l:am F4}(h:l.Nodup):(l.map (Uz:F4->Key)).Nodup:=by
 induction l with
 |nil=>exact iD
 |cons x l a =>
  rw[eu]at h;rw[bD,eu];refine⟨λz=>?_,a h.2⟩;obtain⟨y,b,e⟩:=aZ.mp z;exact h.1 (fQ e ▸ b)
theorem ku.perm(h:ku Qa kvs)(ok:ig Qa L)(all:∀p∈Qa,isDone kvs p.1=true):(kvs.map (·.1)).Perm ((Qa.map (·.1)).map Uz):=by
 refine wZ h.1 (Mn ok.nd) λx=>⟨λa=>?_,λa=>?_⟩
 ·obtain⟨p,b,rfl⟩:=h.2 x a
  exact aZ.mpr ⟨p.1,aZ.mpr ⟨p,b,rfl⟩,rfl⟩
 ·obtain⟨y,c,rfl⟩:=aZ.mp a
  obtain⟨p,b,rfl⟩:=aZ.mp c;exact Bn (all p b)
structure DW(H:Hp)(Qa:List (F4×List F4))(L:F4->List F4)(t d:FG)(m:Nat)(σ:St)(H1:Hp)(kvs:List (Key×V))(rest:List (F4×List F4))(wv:List V)(wa:FG):Prop where
 st:∃v3 v4 v5:Option V,σ=[ih (.ref t),ih (.ref d),ih (.ref wa),v3,v4,v5]
 mm:m=rest.length
 hd:H1 d=ih (.dK kvs)
 hw:H1 wa=ih (.lst wv)
 fv:bK H1 wv rest
 sub:∀p∈rest,p∈Qa
 all:∀p∈Qa,isDone kvs p.1=true\/p∈rest
 ln:∀x,isDone kvs x=true->i9 H1 kvs L x
 same:ao H H1
 lim:kvs.length+rest.length<=8
 ky:ku Qa kvs
inductive pD(vs:List V)(H:Hp)(Q:VK)(E:XK):Prop
 |mk{t:FG}{o:Ys}{ws:List V}{Qa:List (F4×List F4)}{L:F4->List F4}(_:vs=[.ref t])(_:H t=ih (.aX o (.tup ws)))(_:bK H ws Qa)(_:ig Qa L)(_:∀d kvs Y,H d=none->ao H Y->Y d=ih (.dK kvs)->(∀p∈Qa,i9 Y kvs L p.1)->(kvs.map (·.1)).Perm ((Qa.map (·.1)).map Uz)->Q (.ref d) Y):pD vs H Q E
noncomputable abbrev u4:List F4:=["family","lines","waiting","ready","kind","parents"]
theorem kC:bg u4 ["family"] (aH lM):=bB
noncomputable abbrev DX:VC:=bH (bE lM) 2
noncomputable abbrev uM:Vo:=e4 (bH (m5 DX) 0)
abbrev O6:Vo:=c9 (Cu uM)
noncomputable abbrev O7:Vo:=e4 (bH (m5 DX) 3)
theorem C1:bJ u4 (aH lM) ["pair","lines"] [none,ih 1] (bS uM):=cJ
theorem NK:bJ ["pair","lines"] (relabel (bS uM) env) ["parent","lines"] [none,ih 1] (bS O6):=nest rfl (by decide +kernel) (by decide +kernel) rfl (by decide +kernel) (by decide +kernel)
theorem NL:(["parent","lines"]:am F4).Nodup:=by decide +kernel
theorem C2:bJ u4 (aH lM) ["pair","lines"] [none,ih 1] (bS O7):=cJ
theorem J3{zq:XX}(F:aR K "lines_of" "lines_of" lM f fd)(B:b7 mg)(zx:aY P w K mg base aC 4 fF zq ["lines","kind","parents"] qD "line_from") :
  aU P w K mg base aC 5 f fd ["family"] pD:=by
 refine F.cz kC λQc A outer s H vs Q E zm h=>?_
 ·obtain @⟨t,o,ws,Qa,L,rfl,xy,yp,ok,q⟩:=h
  have yy:=zm.units;have zg:=ip yy;intro X;refine⟨_,aF (gs (i:=1) kC.nd rfl (Yx rfl) lA)
   (aF (bt 2 kC.nd (dX mM rfl B.list boot_list (aa (pv 0) af)))
   (aF (sr fZ (m7 (pv 2) (λ_=>rfl))
    (aF (mR rfl C1 kC.nd (i:=3) rfl rfl (ez (pv 2)) (λs H fp=>⟨a4 0 C1.nd,
      h8 (b6 (aS (HI K rfl rfl) rfl B.all boot_all (aa (cj rfl NK (AS K rfl (aW (j4 K rfl) (pv 0) au)) (λs H fp=>⟨a4 0 NL,cP,B' (tU zg (pv 0) (pv 1))⟩)) af))),
      pv 0⟩))
    (aF (bf (cI (m7 (pv 3) (λ_=>rfl))) (aA (aO (pv 1))) bw)
    (aF (gu fZ rfl (ez (pv 3)) (kc rfl (cH (a4 4 kC.nd) (cH (a4 5 kC.nd) gJ)))
     (aA (jq zg (pv 1) (pv 4) (aP zx zm (aa (pv 1) (aa (pv 4) (aa (pv 5) af)))) rfl)))
    (aA (mR rfl C2 kC.nd (i:=2) rfl rfl (ez (pv 2)) (λs H fp=>⟨a4 0 C2.nd,
      h8 (pI (r8 zg (aW (j4 K rfl) (pv 0) au) (pv 1))),pv 0⟩)))))))
   (aA (aO (pv 1))))),?_⟩
  intro d yj;have xn:=ay (o:=.dK []) yj;refine ag rfl ⟨t,ws,rfl,.inr (.inl (.inr ⟨o,xn _ _ xy⟩)),λG zk=>?_⟩;have yn:=xn.trans (ay (o:=.lst ws) zk);have xr:d≠G:=aB ah zk;refine⟨λm σ H1=>∃kvs rest v G,DW H Qa L t d m σ H1 kvs rest v G,⟨_,[],Qa,ws,G,⟨none,none,none,rfl⟩,rfl,by rw[ai xr];exact ah,ah,yp.same yn,λ_ h=>h,λ_ h=>.inr h,λx h=>(by cases h),yn,by have:=ok.bN;rw[jf];omega,⟨iD,λ_ h=>(by cases h)⟩⟩,?_⟩
  rintro m σ H1 ⟨kvs,rest,v,G,R⟩;obtain⟨xB,zc,xd,rfl⟩:=R.st;have xc:=R.fv.length;refine ag rfl ⟨_,.inl ⟨_,aq.of R.hw,rfl⟩,?_⟩;refine dm (λyd=>?_) (λyd=>?_)
  ·refine⟨λyr Y=>∃zn,zn<m /\∃kvs rest v G,DW H Qa L t d zn yr Y kvs rest v G,λ_ _ z=>z,?_⟩
   refine ag rfl ⟨G,rfl,⟨_,aq.of R.hw⟩,λxg xh=>?_⟩;have zr:∀{b:FG}{u:HO},H b=ih u->b≠d:=λe=>aB e yj;have xt:d≠xg:=aB R.hd xh;refine f6 (xs:=v) (λi ys J N=>∃xa:ap V,J=[xa,bd d]/\N xg=bn ys/\ao H1 N/\bK N ys (fh (isDone kvs) (rest.take i))) ⟨none,rfl,ah,ay xh,.nil⟩ (λi ys J N ab=>by obtain⟨_,_,z1,z2,_⟩:=ab;exact ⟨z1,aq.of (z2 _ _ R.hw)⟩) ?_ ?_
   ·rintro i x ys J N g ⟨xa,rfl,C,D,O⟩
    have xb:i<v.length:=(bQ.mp g).1;obtain⟨p,n,a,b,rfl,yb,j⟩:=g9 R.fv g;have tk:rest.take (i+1)=rest.take i++[p]:=by rw[cO,n];rfl
    have zd:=R.sub p (dQ n);have yA:p.2.length<=20:=(ok.line p zd).1.short p.2 (et _ aT);have yh:=D _ _ yb;have xe:=D _ _ j;refine ag rfl (d3 yh (show cU [V.str p.1,V.ref b] ((1:Nat):Int)=ih (.ref b) from b2 rfl) ?_);refine⟨b,rfl,⟨_,aE.of xe⟩,λc xo=>J1 xe (D _ _ R.hd) xo (by omega) ?_⟩
    have S:=ay (o:=.lst ((p.2.map (isDone kvs)).map V.bl)) xo;refine⟨c,_,rfl,aq.of ah,_,rfl,?_⟩;refine dm (λzh=>?_) (λzh=>?_)
    ·refine ag rfl ⟨S _ _ C,?_,cw_next xb ⟨_,rfl,ah,λb o j=>by rw[ai (aB j xh)];exact S _ _ (D b o j),?_⟩⟩
     ·have U:=O.length
      have h2:(fh (isDone kvs) (rest.take i)).length<=(rest.take i).length:=fu _ _;have C:=R.lim;rw[b8]at h2;rw[aJ];omega
     ·have zj:fh (isDone kvs) (rest.take (i+1))=fh (isDone kvs) (rest.take i)++[p]:=by
       rw[tk];unfold fh;rw[f3,h6 (by exact zh)];rfl
      rw[zj];refine bK.append (O.keep λb xs j=>?_) ?_ ?_ (b:=b)
      ·rw[ai (bx j C)];exact S _ _ j
      ·rw[ai (bx yh C)];exact S _ _ yh
      ·rw[ai (bx xe C)];exact S _ _ xe
    ·refine cw_next xb (ag rfl ⟨S _ _ C,D.trans S,?_⟩)
     have zj:fh (isDone kvs) (rest.take (i+1))=fh (isDone kvs) (rest.take i):=by
      rw[tk];unfold fh;rw[f3,iG (by exact zh)];simp
     rw[zj];exact O.same S
   ·rintro yg J N ⟨xa,rfl,C,D,O⟩
    rw[xc,cF]at O;have xi:=O.length;have yc:=D _ _ R.hd;have xl:=D _ _ R.hw;have yt:bK N v rest:=R.fv.same D;have zp:rest ≠ []:=λz=>by
     rw[z]at xc;have:v=[]:=mJ xc;rw[this]at yd;cases yd
    obtain⟨zy,zt,xq⟩:=J0 ok R.sub R.all zp;have ye:zy∈fh (isDone kvs) rest:=AB.mpr ⟨zt,xq⟩;generalize ze:fh (isDone kvs) rest=za at O xi ye;have yq:(!yg.isEmpty)=true:=by
     cases yg with
     |nil =>
      have:za=[]:=mJ xi.symm;rw[this]at ye;cases ye
     |cons _ _=>rfl
    refine ag rfl ⟨_,.inl ⟨_,aq.of C,rfl⟩,?_⟩;rw[yq];refine⟨_,rfl,xg,rfl,⟨_,aq.of C⟩,lu (xs:=yg) (λi σ M=>∃(l:am (Key×V)) (zc xd:ap V),σ=[bd t,bd d,bd G,bd xg,zc,xd]/\M d=ce l/\l.length<=kvs.length+i /\
     (∀b u,b≠d->N b=ih u->M b=ih u)/\(∀x,isDone l x=true->i9 M l L x)/\(∀x,isDone kvs x=true->isDone l x=true)/\(∀p∈za.take i,isDone l p.1=true)/\ku Qa l)
     ⟨kvs,zc,xd,rfl,yc,aG _,λ_ _ _ e=>e,λx g=>(R.ln x g).same D,λ_ h=>h,λp n=>(by cases n),R.ky⟩ (λi σ M _ ab=>by obtain⟨_,_,_,_,_,_,z,_⟩:=ab;exact aq.of (z _ _ (a7 xt) C)) ?_ ?_⟩
    ·rintro i x σ M g ⟨l,zc,xd,rfl,T,xu,W,xf,yf,zf,yi⟩
     have xb:i<yg.length:=(bQ.mp g).1;obtain⟨p,n,a,b,rfl,yb,j⟩:=g9 O g;have tk:za.take (i+1)=za.take i++[p]:=by rw[cO,n];rfl
     have yu:p∈fh (isDone kvs) rest:=by rw[ze];exact dQ n
     obtain⟨zd,zu⟩:=AB.mp yu;obtain⟨xv,yB,yv,xz,zv⟩:=ok.line p (R.sub p zd);have xw:=W _ _ (bx yb yc) yb
     have yw:=W _ _ (bx j yc) j
     refine⟨a,_,rfl,aE.of xw,rfl,_,_,rfl,_,_,rfl,rfl,?_⟩;refine ed rfl rfl rfl (qD.mk rfl T yw (λx g=>xf x (yf x (zu x g))) xv yv zv λxk ya r I=>?_);refine bj rfl rfl ⟨d,_,rfl,gf.k (k:=Uz p.1) (r _ _ T) ?_,?_⟩
     ·have U:=R.lim
      have h2:za.length<=rest.length:=by rw[<-ze];exact fu _ _
      rw[aJ];omega
     ·have yz:xk≠d:=bx I (r _ _ T)
      refine⟨_,_,_,rfl,ah,?_,λb u yo e=>?_,λx g=>?_,λx g=>?_,λy zo=>?_,yi.put (R.sub p zd)⟩
      ·have:=rO l (Uz p.1) (V.ref xk);omega
      ·rw[ai yo];exact r _ _ (W b u yo e)
      ·unfold i9
       rw[m9]
       by_cases e:x=p.1
       ·subst e
        refine⟨xk,by rw[aw rfl],?_⟩
        rw[ai yz,xz];exact I
       ·have xp : ¬ ((Uz x:Key)=Uz p.1):=λz=>e (fQ z)
        have zw:isDone l x=true:=by unfold isDone at g⊢;rw[m9,ak xp]at g;exact g
        obtain⟨zz,xA,yl⟩:=xf x zw;refine⟨zz,by rw[ak xp];exact xA,?_⟩
        rw[ai (bx yl T)];exact r _ _ yl
      ·unfold isDone;rw[m9]
       split
       ·rfl
       ·exact yf x g
      ·unfold isDone;rw[m9]
       split
       ·rfl
       ·rename_i yk
        rw[tk]at zo;rcases cw.mp zo with z|z
        ·exact zf _ z
        ·have:y=p:=by simpa using z
         exact absurd (by rw[this]) yk
    ·rintro σ M ⟨l,zc,xd,rfl,T,xu,W,xf,yf,zf,yi⟩
     rw[xi,cF]at zf;have xx:bK M v rest:=yt.keep λb xs e=>W _ _ (bx e yc) e
     have zl:=W _ _ (bx xl yc) xl
     have yx:ao H M:=λb u e=>W b u (zr e) (D _ _ (R.same b u e));refine ag rfl ⟨G,rfl,⟨_,aq.of zl⟩,λwb xm=>?_⟩;refine f6 (xs:=v) (λi ys J ya=>∃xa:ap V,J=[xa,bd d]/\ya wb=bn ys/\ao M ya/\bK ya ys ((rest.take i).filter λp=>!isDone l p.1)) ⟨none,rfl,ah,ay xm,.nil⟩ (λi ys J ya ab=>by obtain⟨_,_,z1,z2,_⟩:=ab;exact ⟨z1,aq.of (z2 _ _ zl)⟩) ?_ ?_
     ·rintro i x ys J ya g ⟨xa,rfl,I,r,zb⟩
      have xb:i<v.length:=(bQ.mp g).1;obtain⟨p,n,a,b,rfl,yb,j⟩:=g9 xx g;have tk:rest.take (i+1)=rest.take i++[p]:=by rw[cO,n];rfl
      have zi:=r _ _ yb;have ym:=r _ _ j;refine ag rfl (d3 zi (show cU [V.str p.1,V.ref b] ((0:Nat):Int)=ih (.str p.1) from b2 rfl) ?_);refine ag rfl ⟨d,_,rfl,eI.k (k:=Uz p.1) (r _ _ T),_,rfl,?_⟩;refine dm (λxj=>?_) (λxj=>?_)
      ·refine ag rfl ⟨I,?_,cw_next xb ⟨_,rfl,ah,λb o j=>by rw[ai (aB j xm)];exact r b o j,?_⟩⟩
       ·have U:=zb.length
        have h2:=fu (λp:F4×List F4=>!isDone l p.1) (rest.take i);have C:=R.lim;rw[b8]at h2;rw[aJ];omega
       ·rw[tk,f3,h6 (by exact xj)]
        refine bK.append (zb.keep λb xs j=>?_) ?_ ?_ (b:=b)
        ·rw[ai (bx j I)];exact j
        ·rw[ai (bx zi I)];exact zi
        ·rw[ai (bx ym I)];exact ym
      ·refine cw_next xb (ag rfl ⟨I,r,?_⟩)
       rw[tk,f3,iG (by exact xj),rD,ei]
       exact zb
     ·rintro ys J ya ⟨xa,rfl,I,r,zb⟩
      rw[xc,cF]at zb;have less:=I6 (dn:=isDone kvs) (q2:=isDone l) (rest:=rest) (by rw[ze];exact zf)
      rw[ze]at less;have zA:0<za.length:=vz ye;refine⟨_,by rw[R.mm];omega,l,rest.filter λp=>!isDone l p.1,ys,wb,⟨_,_,_,rfl⟩,rfl,r _ _ T,I,zb,λp n=>R.sub p (d9.mp n).1,λp n=>?_,λx g=>(xf x g).same r,yx.trans r,?_,?_⟩
      ·cases e:isDone l p.1 with
       |true=>exact .inl rfl
       |false =>
        refine .inr ?_;rcases R.all p n with z|z
        ·rw[yf _ z]at e;cases e
        ·exact d9.mpr ⟨z,by rw[e];rfl⟩
      ·have U:=R.lim
       omega
      ·exact yi
  ·have yk:rest=[]:=by
    cases v with
    |nil=>exact mJ xc.symm
    |cons _ _=>exact absurd rfl yd
   have dn:∀p∈Qa,isDone kvs p.1=true:=λp n=>by
    rcases R.all p n with z|z
    ·exact z
    ·rw[yk]at z;cases z
   exact ag rfl (q d kvs H1 yj R.same R.hd (λp n=>R.ln p.1 (dn p n)) (R.ky.perm ok dn))
def eo(H:Hp)(kvs:List (Key×V))(L:F4->List F4)(x:F4):Prop:= ∃a,bz kvs (Uz x)=ih (.ref a)/\H a=ih (.lst ((L x).map V.str))
theorem eo.same(h:eo H kvs L x)(s:ao H Y):eo Y kvs L x:=let ⟨a,e,q⟩:=h;⟨a,e,s _ _ q⟩
theorem Le(h:∀x∈ps,eo H kvs L x):∃g:F4->V,(∀x∈ps,bz kvs (Uz x)=ih (g x))/\f' (λ_=>True) H (ps.map g) (ps.map L):=by
 refine⟨λx=>(bz kvs (Uz x)).getD .aN,λx b=>?_,?_⟩
 ·obtain⟨a,e,_⟩:=h x b;show _=ih ((bz kvs (Uz x)).getD V.aN);rw[e];rfl
 ·induction ps with
  |nil=>exact .nil
  |cons x ps c =>
   obtain⟨a,e,q⟩:=h x aT;exact .cons ⟨a,by show(bz kvs (Uz x)).getD V.aN=_;rw[e];rfl,trivial,q⟩ (c λy d=>h y (a8 _ d))
theorem AE:∀{m:Nat}{rows:am (List F4)}{o:am F4},cf m rows=ih o->o.length<=m
 |0,rows,o,h=>by
  unfold cf at h
  first
   |(cases h;exact aG _)
   |(split at h <;> first|(cases h;exact aG _)|cases h)
 |m+1,rows,o,h=>by
  unfold cf at h;split at h
  ·cases e:fg rows with
   |none=>rw[e]at h;cases h
   |some n =>
    rw[e]at h;obtain⟨o',h',rfl⟩:=fe.mp h;have:=AE h';rw[cD];omega
  ·cases h;exact ba _
inductive n2(vs:List V)(H:Hp)(Q:VK)(E:XK):Prop
 |mk{d oa:FG}{kvs:List (Key×V)}{L:F4->List F4}{k:F4}{own:List F4}(_:vs=[.ref d,.str k,.ref oa])(_:H d=ih (.dK kvs))(_:H oa=ih (.lst (own.map V.str)))(_:(∀x∈own,eo H kvs L x))(_:Small (rowsOf L own))(_:(∀r∈rowsOf L own,r.Nodup))(_:(cf (total (rowsOf L own)) (rowsOf L own)=none ->∀Y,ao H Y->Q .aN Y))(_:(∀o,cf (total (rowsOf L own)) (rowsOf L own)=ih o ->∀p Y,H p=none->ao H Y->Y p=ih (.lst ((k::o).map V.str))->Q (.ref p) Y)):n2 vs H Q E
noncomputable abbrev EY:List F4:=["_law_lines","_law_kind","_law_own","_law_found"]
theorem DY:bg EY ["_law_lines","_law_kind","_law_own"] (aH nH):=bB
abbrev QD:Vo:=DU (c9 (e4 (bH (bE nH) 0)))
theorem DZ:bJ EY (aH nH) ["_law_one","_law_lines"] [none,ih 0] (bS QD):=cJ
theorem NM{n:FG}{l:XX}(F:aR K "_law_line" "_law_line" nH f fd)(B:b7 mg)(z:aR K "_law_merged" "_law_merged" h9 n l)(U:Binds K l ["_law_rows"] [])(W:mg "_law_merged" = ih (.ref n)) :
  aU P w K mg base aC 2 f fd ["_law_lines","_law_kind","_law_own"] n2:=by
 have Y:aU P w K mg base aC 1 n l ["_law_rows"] qC:=NI z B;refine F.cz DY λQc A outer s H vs Q E C h=>?_
 ·obtain @⟨d,D,kvs,L,k,own,rfl,xa,q,ya,i,S,za,xb⟩:=h
  have yb:=C.units;have T:=ip yb;intro X;refine⟨_,aF (bt 3 DY.nd (dA Y C rfl W z.kp U .nil dH (aa (bF kg (cj rfl DZ (ez (pv 2)) (λs H fp=>⟨a4 0 DZ.nd,cP,nt T (pv 1) (pv 0) (λ_ _=>rfl)⟩)) (ea (aa (dX mM rfl B.list boot_list (aa (pv 2) af)) af))) af)))
   (aF (bf (bC pK (pv 3) iN (bh _)) (aA (aO iN)) bw)
   (aA (aO (bF kg (ea (aa (pv 1) af)) (pv 3))))),?_⟩
  obtain⟨g,zb,xc⟩:=Le ya;have ye:own.length<=20:=i.short own (et _ aT);refine ag rfl ⟨D,rfl,⟨_,aq.of q⟩,λc G=>I5 q xa zb G (by omega) ?_⟩
  have I:=ay (o:=.lst (own.map g)) G;refine ag rfl ⟨D,_,rfl,.inl (aq.of (I _ _ q)),λb u=>?_⟩;have yc:=I.trans (ay (o:=.lst (own.map V.str)) u);refine⟨c0,λr m=>?_⟩;have zc:=yc.trans (ay (o:=.lst [V.ref b]) m);have J:upd (upd H c (.lst (own.map g))) b (.lst (own.map V.str)) c=bn (own.map g):=by rw[ai (aB ah u)];exact ah
  refine⟨c,r,_,_,rfl,rfl,by rw[ai (aB J m)];exact J,ah,by rw[ar,aJ];show _+1<=_;omega,λxd v=>?_⟩
  have j:=zc.trans (ay (o:=.lst (own.map g++[V.ref b])) v);have yd:upd (upd (upd (upd H c (.lst (own.map g))) b (.lst (own.map V.str))) r (.lst [V.ref b])) xd (.lst (own.map g++[V.ref b])) b=bn (own.map V.str):=by
   have M:upd (upd (upd H c (.lst (own.map g))) b (.lst (own.map V.str))) r (.lst [V.ref b]) b=bn (own.map V.str):=by rw[ai (aB ah m)];exact ah
   rw[ai (aB M v)];exact M
  refine qC.mk rfl (rows:=rowsOf L own) ah (rN (jk xc λa xs _ e=>⟨trivial,j _ _ e⟩) trivial yd) i S (λe N t=>?_) (λo e p N xf t O=>?_)
  ·exact ag rfl ⟨rfl,_,rfl,za e N (j.trans t)⟩
  ·refine ag rfl ⟨rfl,_,rfl,?_⟩
   refine ag rfl ⟨c0,λzd x=>?_⟩;have R:=t.trans (ay (o:=.lst [V.str k]) x);have yf:=(AE e);have zf:=oS i.short;have ze:=i.bN;refine ag rfl ⟨zd,p,_,_,rfl,rfl,ah,by rw[ai (aB O x)];exact O,by rw[ar,aJ];show 1+_<=_;omega,λxe y=>?_⟩
   exact xb o e xe _ (j.free (R.free y)) (j.trans (R.trans (ay y))) ah
theorem w0{α:Type}:∀(l:am α) (k:Nat) (h:k<l.length),(l[k]::l.eraseIdx k).Perm l
 |[],k,h=>absurd h (jh _)
 |x::l,0,_=>g4 _
 |x::l,k+1,h=>(Yu _ _ _).trans ((w0 l k (rz h)).cons x)
theorem AF{α β:Type}(f:α->β):∀(l:am α) (k:Nat),(l.map f).eraseIdx k=(l.eraseIdx k).map f
 |[],_=>rfl
 |_::_,0=>rfl
 |x::l,k+1=>c4 (f x :: ·) (AF f l k)
theorem boot_min:Vx "min" = ih (.builtin "min"):=by decide +kernel
theorem NN{d:Int}(h0:0<=d)(U:d<7):∃v:Int,cU [V.int 0,.int 1,.int 1,.int 2,.int 2,.int 3,.int 4] d=ih (.int v)/\0<=v/\v<=4:=by
 obtain⟨n,rfl⟩:=f5 h0
 match n,(show n<7 by omega) with
 |0,_=>exact⟨0,b2 rfl,by decide,by decide⟩
 |1,_=>exact⟨1,b2 rfl,by decide,by decide⟩
 |2,_=>exact⟨1,b2 rfl,by decide,by decide⟩
 |3,_=>exact⟨2,b2 rfl,by decide,by decide⟩
 |4,_=>exact⟨2,b2 rfl,by decide,by decide⟩
 |5,_=>exact⟨3,b2 rfl,by decide,by decide⟩
 |6,_=>exact⟨4,b2 rfl,by decide,by decide⟩
theorem two_at{d a b m:Int}(h0:0<=d)(U:d<2)(c:0<=a/\a<m)(e:0<=b/\b<m):∃v:Int,cU [V.int a,.int b] d=ih (.int v)/\0<=v/\v<m:=by
 obtain⟨n,rfl⟩:=f5 h0
 match n,(show n<2 by omega) with
 |0,_=>exact⟨a,b2 rfl,c⟩
 |1,_=>exact⟨b,b2 rfl,e⟩
inductive qc(vs:List V)(H:Hp)(Q:VK)(E:XK):Prop
 |mk{p n:FG}{ys:List F4}(_:vs=[.ref p,.ref n])(_:c7 p H)(_:p≠n)(_:H n=ih (.lst (ys.map V.str)))(_:ys.length<=20)(_:∀(l:FG) (own rest:List F4) (Y:Hp),H l=none->(own++rest).Perm ys->own.length<=4->br p H Y->Y l=ih (.lst (own.map V.str))->Q (.ref l) Y):qc vs H Q E
noncomputable abbrev O8:List F4:=["_law_pot_here","_law_made","_law_left","_law_own","_law_turn","_law_at"]
theorem nW:bg O8 ["_law_pot_here","_law_made"] (aH se):=bB
theorem Mo{W:XX}(F:aR K "_law_parents" "_law_parents" se f fd)(B:b7 mg)(D:aR K "_law_digit" "_law_digit" nG fD W)(za:Binds K W ["_law_pot_here","_law_many"] [])(xb:mg "_law_digit" = ih (.ref fD)) :
  aU P w K mg base aC 2 f fd ["_law_pot_here","_law_made"] qc:=by
 have yb:aU P w K mg base aC 1 fD W ["_law_pot_here","_law_many"] hh:=sH D;refine F.cz nW λQc A outer s H vs Q E zh h=>?_
 ·obtain @⟨p,n,ys,rfl,zb,xl,xi,zk,q⟩:=h
  have Y:aQ 1 _:=zh;intro X;refine⟨_,aF (bt 2 nW.nd (dX mM rfl B.list boot_list (aa (pv 1) af)))
   (aF (bt 3 nW.nd (ea af))
   (aF (gu fZ rfl (j3 rfl B.range (aa (aS (w6 rfl) rfl B.min boot_min (aa (aS cT rfl B.len cG (aa (pv 2) af))
     (aa (aW c6 (ea (aa au (aa au (aa au (aa au (aa au (aa au (aa au af)))))))) (dA yb Y rfl xb D.kp za .nil dH (aa (pv 0) (aa au af)))) af))) af)) (a4 4 nW.nd)
    (aF (bt 5 nW.nd (aW c6 (ea (aa (dA yb Y rfl xb D.kp za .nil dH (aa (pv 0) (aa (aS cT rfl B.len cG (aa (pv 2) af)) af)))
      (aa (bF ke (aS cT rfl B.len cG (aa (pv 2) af)) au) af))) (dA yb Y rfl xb D.kp za .nil dH (aa (pv 0) (aa au af)))))
    (aA (eT (fz g5 h3 h5 gr (pv 3)
     (aa (fz g5 PySem.F.slot_list_pop PySem.F.type_list_pop Jm (pv 2) (aa (pv 5) af)) af))))))
   (aA (aO (pv 3))))),?_⟩
  refine ag rfl ⟨n,_,rfl,.inl (aq.of xi),λg u=>?_⟩;refine⟨ba _,λj xa=>?_⟩;have x:p≠g:=zb.ne u;have ya:g≠j:=aB ah xa;have S:H j=none:=(ay u).free xa;have y:p≠j:=zb.ne S;have xc:br p H (upd (upd H g (.lst (ys.map V.str))) j (.lst [])):=((br.refl zb).new u).new xa;have t:(upd (upd H g (.lst (ys.map V.str))) j (.lst [])) g=bn (ys.map V.str):=by rw[ai ya];exact ah
  have T:(upd (upd H g (.lst (ys.map V.str))) j (.lst [])) j=bn []:=ah;generalize upd (upd H g (.lst (ys.map V.str))) j (.lst [])=xm at xc t T⊢;refine ag rfl ⟨g,_,rfl,.inl (aq.of t),?_⟩;refine⟨by show 7<=UJ;rw[aJ];decide,λc G=>?_⟩
  have xf:=xc.new (o:=.lst [V.int 0,.int 1,.int 1,.int 2,.int 2,.int 3,.int 4]) G;refine ag rfl (cA (p:=p) (m:=7) xf.ok (by decide) (by decide) λd H1 yc I z=>?_)
  have yh:p≠c:=xc.ok.ne G;obtain⟨v,zc,yf,J⟩:=NN yc I;refine kQ (z.kp _ _ ah (a7 yh)) zc ?_;have yi:=xf.trans z;have l:H1 g=bn (ys.map V.str):=z.kp _ _ (by rw[ai (aB t G)];exact t) (a7 x)
  have r:H1 j=bn []:=z.kp _ _ (by rw[ai (aB T G)];exact T) (a7 y)
  refine⟨_,v,rfl,?_⟩;rw[ar];obtain⟨N,zi,yl,zl⟩:∃N:Nat,(if v<(ys.length:Int) then v else (ys.length:Int))=N/\N<=4/\N<=ys.length:=by
   split
   ·exact⟨v.toNat,by omega,by omega,by omega⟩
   ·exact⟨ys.length,rfl,by omega,aG _⟩
  rw[zi];refine⟨(N:Int),rfl,by omega,by omega,mU (λi σ H1=>∃(zs k:am F4) (J xd:ap V),σ=[bd p,bd n,bd g,bd j,J,xd]/\zs.length=i/\(zs++k).Perm ys/\br p H H1/\H1 g=bn (k.map V.str)/\H1 j=bn (zs.map V.str))
   ⟨[],ys,none,none,rfl,rfl,g4 _,yi,l,r⟩ ?_ ?_⟩
  ·rintro i σ H1 hi ⟨zs,k,J,xd,rfl,zf,L,M,l,r⟩
   have yg:=L.length_eq;rw[df]at yg;refine bj rfl rfl ⟨g,_,rfl,.inl (aq.of l),?_⟩;refine cA (p:=p) M.ok (by rw[ar];omega) (by rw[ar];omega) λd H2 yc I O=>?_
   have U:=O.kp _ _ l (a7 x);have zd:=O.kp _ _ r (a7 y);rw[ar]at I;refine ag rfl ⟨g,_,rfl,.inl (aq.of U),_,1,rfl,rfl,?_⟩;rw[ar];refine⟨dc,λxj C=>?_⟩;have ze:=(M.trans O).new (o:=.lst [V.int d,.int ((k.length:Int) - 1)]) C;have zg:p≠xj:=O.ok.ne C;refine ag rfl (cA (p:=p) (m:=2) ze.ok (by decide) (by decide) λe yd yj zj R=>?_)
   obtain⟨v,zc,yf,xk⟩:=two_at (a:=d) (b:=(k.length:Int) - 1) (m:=(k.length:Int)) yj zj ⟨yc,I⟩ ⟨by omega,by omega⟩
   have xe:yd g=bn (k.map V.str):=R.kp _ _ (by rw[ai (aB U C)];exact U) (a7 x)
   have ye:yd j=bn (zs.map V.str):=R.kp _ _ (by rw[ai (aB zd C)];exact zd) (a7 y)
   have yk:=ze.trans R;refine kQ (R.kp _ _ ah (a7 zg)) zc ?_;have xg:v.toNat<k.length:=by omega
   refine ag rfl ⟨.inl ⟨rfl,_,aq.of ye⟩,_,rfl,.inl ⟨rfl,_,aq.of xe⟩,_,rfl,?_⟩;refine⟨g,_,v,v.toNat,.str k[v.toNat],rfl,rfl,xe,by omega,by omega,vm yf (by rw[ar];exact xk),by rw[cx,bA xg];rfl,?_⟩
   have xh:(upd yd g (.lst ((k.map V.str).eraseIdx v.toNat))) j=bn (zs.map V.str):=by rw[ai (a7 ya)];exact ye
   refine⟨j,_,_,rfl,rfl,xh,by rw[ar,aJ];omega,?_⟩
   refine⟨zs++[k[v.toNat]],k.eraseIdx v.toNat,_,_,rfl,by rw[df];simp[zf],?_,(yk.write u x).write S y,?_,?_⟩
   ·refine ab8 ?_ L
    rw[vr];exact U9 zs (w0 k _ xg)
   ·rw[ai ya,ah,AF]
   ·rw[ah,a5];rfl
  ·rintro σ H1 ⟨zs,k,J,xd,rfl,zf,L,M,l,r⟩
   exact ag rfl (q j zs k H1 S L (by omega) M r)
end eL
namespace eL
open L2 HT
def kept(rows:List (List F4))(o:List F4):Bool:=rows.all λr=>decide ((o.filter λn=>decide (n∈r))=r)
theorem r1{all:am (List F4)}{n:F4}:∀{rest:am (List F4)},g7 all rest=ih n->dg 0 all n=none /\∃(i:Nat) (r:am F4),rest[i]?=ih r/\r.head?=ih n /\∀(j:Nat) (q:am F4) (y:F4),rest[j]?=ih q->q.head?=ih y->dg 0 all y=none->i<=j
 |[],h=>by cases h
 |[]::rest,h=>by
  obtain⟨U,i,r,e,f,g⟩:=r1 (rest:=rest) h;refine⟨U,i+1,r,by simpa using e,f,λj q y a b d=>?_⟩
  cases j with
  |zero =>
   obtain rfl : []=q:=by simpa using a
   simp at b
  |succ j=>have:=g j q y (by simpa using a) b d;omega
 |(x::t)::rest,h=>by
  have h:(if (dg 0 all x).isNone then ih x else g7 all rest)=ih n:=h
  by_cases c:(dg 0 all x).isNone=true
  ·rw[aw c]at h
   cases h
   exact⟨by simpa using c,0,_,rfl,rfl,λ_ _ _ _ _ _=>ba _⟩
  ·rw[ak c]at h
   obtain⟨U,i,r,e,f,g⟩:=r1 (rest:=rest) h;refine⟨U,i+1,r,by simpa using e,f,λj q y a b d=>?_⟩
   cases j with
   |zero =>
    obtain rfl:x::t=q:=by simpa using a
    obtain rfl:x=y:=by simpa using b
    exact absurd (by rw[d];rfl) c
   |succ j=>have:=g j q y (by simpa using a) b d;omega
def Lf(rest:List (List F4))(q:List F4):Prop:=q.Nodup /\∀x,x∈q ↔ ∃r∈rest,x∈r
theorem sI{q:am F4}:kept rest q=true ↔ ∀r∈rest,(q.filter λn=>decide (n∈r))=r:=by
 unfold kept;rw[gX];simp
theorem wF{n:F4}:(∃r∈L2.without n rest,x∈r) ↔ x≠n /\∃r∈rest,x∈r:=by
 constructor
 ·rintro⟨r,c,a⟩
  obtain⟨q,b,rfl⟩:=aZ.mp c;have:=d9.mp a;exact⟨by simpa using this.2,q,b,this.1⟩
 ·rintro⟨h,q,b,a⟩
  exact⟨_,aZ.mpr ⟨q,b,rfl⟩,d9.mpr ⟨a,by simpa using h⟩⟩
theorem Lg:(rest.any λr=>!r.isEmpty)=true ↔ ∃r∈rest,∃x,x∈r:=by
 rw[oF]
 constructor
 ·rintro⟨r,a,e⟩
  cases r with
  |nil=>simp at e
  |cons x t=>exact⟨_,a,x,aT⟩
 ·rintro⟨r,a,x,b⟩
  refine⟨r,a,?_⟩;cases r with
  |nil=>simp at b
  |cons y t=>rfl
theorem sound:∀(m:Nat) (rest:am (List F4)),total rest=m->(∀r∈rest,r.Nodup) ->∀o,cf (total rest) rest=ih o->Lf rest o/\kept rest o=true:=by
 intro m
 induction m using Zp with
 |_ m s =>
  intro rest C i o b;cases hA:rest.any λr=>!r.isEmpty with
  |false =>
   rw[rX hA]at b;cases b
   have j:∀r∈rest,∀x,x ∉ r:=λr a x f=>by
    have:=Lg.mpr ⟨r,a,x,f⟩;rw[hA]at this;cases this
   refine⟨⟨iD,λx=>⟨λh=>by simp at h,λ⟨r,a,f⟩=>absurd f (j r a x)⟩⟩,sI.mpr λr a=>?_⟩
   cases r with
   |nil=>rfl
   |cons y t=>exact absurd aT (j _ a y)
  |true =>
   cases e:fg rest with
   |none=>rw[rY hA e]at b;cases b
   |some n =>
    rw[rZ hA e]at b;obtain⟨o',q,rfl⟩:=fe.mp b;have lt:=lh (lq e);obtain⟨⟨U,h2⟩,p⟩:=s _ (by omega) (L2.without n rest) rfl (wX i) o' q
    rw[sI]at p;have k:n ∉ o':=λz=>((wF.mp ((h2 n).mp z)).1 rfl);obtain⟨g,_⟩:=r1 e;rw[o1]at g;refine⟨⟨eu.mpr ⟨k,U⟩,λx=>?_⟩,sI.mpr λr a=>?_⟩
    ·rw[bu,h2,wF]
     constructor
     ·rintro(rfl|h)
      ·exact lq e
      ·exact h.2
     ·intro h
      by_cases z:x=n
      ·exact .inl z
      ·exact .inr ⟨z,h⟩
    ·have l:=p _ (aZ.mpr ⟨r,a,rfl⟩)
     have same:(o'.filter λy=>decide (y∈r))=o'.filter λy=>decide (y∈r.filter λy=>!decide (y=n)):=by
      apply List.filter_congr
      intro y c;have:y≠n:=λz=>k (z ▸ c);simp[this]
     by_cases d:n∈r
     ·have u:=g r a d
      cases r with
      |nil=>simp at d
      |cons z t =>
       obtain rfl:z=n:=by simpa using u
       have v:z ∉ t:=(eu.mp (i _ a)).1;have A:((z::t).filter λy=>!decide (y=z))=t:=by
        rw[iG (by simp)]
        exact Gu.mpr λy c=>by
         have:y≠z:=λw=>v (w ▸ c)
         simpa using this
       rw[h6 (by simp),same,l,A]
     ·have B:(r.filter λy=>!decide (y=n))=r:=Gu.mpr λy c=>by
       have:y≠n:=λw=>d (w ▸ c)
       simpa using this
      rw[iG (by simpa using d),same,l,B]
end eL
namespace eL
open L2 W HT
theorem len_sub{a b:am F4}(c:a.Nodup)(h:∀x∈a,x∈b):a.length<=b.length:=Mk c h
structure Fm(done:List F4)(L Ps:F4->List F4):Prop where
 ps:∀x∈done,(Ps x).Nodup/\(Ps x).length<=4 /\∀y∈Ps x,y∈done
 ln:∀x∈done,∃o,cf (total (rowsOf L (Ps x))) (rowsOf L (Ps x))=ih o/\L x=x::o
 ld:∀x∈done,(L x).Nodup /\∀y∈L x,y∈done
theorem w1:r∈rowsOf L own ↔ (∃y∈own,r=L y)\/r=own:=by
 unfold rowsOf;rw[cw,aZ,b9]
 constructor
 ·rintro(⟨y,h,rfl⟩|h)
  ·exact .inl ⟨y,h,rfl⟩
  ·exact .inr h
 ·rintro(⟨y,h,rfl⟩|h)
  ·exact .inl ⟨y,h,rfl⟩
  ·exact .inr h
theorem Fm.lN(F:Fm done L Ps)(a:own.Nodup)(sub:∀y∈own,y∈done):∀r∈rowsOf L own,r.Nodup /\∀y∈r,y∈done:=λr b=>by
 rcases w1.mp b with⟨y,c,rfl⟩|rfl
 ·exact F.ld y (sub y c)
 ·exact⟨a,sub⟩
theorem Fm.small(F:Fm done L Ps)(c:∀x∈done,Nm x)(e:done.length<=8)(b:own.Nodup)(f:own.length<=4)(sub:∀y∈own,y∈done):Small (rowsOf L own):=by
 refine⟨?_,λr a=>?_,λr a y d=>?_⟩
 ·unfold rowsOf;rw[df,ar,jd];omega
 ·obtain⟨U,h2⟩:=F.lN b sub r a
  have:=len_sub U h2;omega
 ·exact c y ((F.lN b sub r a).2 y d)
theorem Fm.order(F:Fm done L Ps){o:am F4}(c:own.Nodup)(sub:∀y∈own,y∈done)(d:cf (total (rowsOf L own)) (rowsOf L own)=ih o):o.Nodup/\(∀y∈o,y∈done) /\∀r∈rowsOf L own,∀y∈r,y∈o:=by
 obtain⟨⟨U,h2⟩,_⟩:=sound _ _ rfl (λr a=>(F.lN c sub r a).1) o d;refine⟨U,λy b=>?_,λr a y b=>(h2 y).mpr ⟨r,a,b⟩⟩;obtain⟨r,a,h⟩:=(h2 y).mp b;exact(F.lN c sub r a).2 y h
theorem Ip{a:F4->List F4}(h:∀y∈own,a y=L y):rowsOf a own=rowsOf L own:=by
 unfold rowsOf;rw[j0 h]
theorem Fm.add(F:Fm done L Ps){k:F4}{o:am F4}(i:k ∉ done)(j:own.Nodup)(n:own.length<=4)(sub:∀y∈own,y∈done)(l:cf (total (rowsOf L own)) (rowsOf L own)=ih o) :
  Fm (done++[k]) (λx=>if x=k then k::o else L x) (λx=>if x=k then own else Ps x):=by
 have p:∀{y},y∈done->y≠k:=λh z=>i (z ▸ h);have ext:∀{ps:am F4},(∀y∈ps,y∈done)->rowsOf (λx=>if x=k then k::o else L x) ps=rowsOf L ps:=λh=>Ip λy d=>ak (p (h y d));obtain⟨q,m,_⟩:=F.order j sub l;refine⟨λx f=>?_,λx f=>?_,λx f=>?_⟩
 ·by_cases e:x=k
  ·rw[aw e];exact⟨j,n,λy d=>gm _ (sub y d)⟩
  ·rw[ak e]
   obtain⟨a,b,c⟩:=F.ps x (by rcases cw.mp f with z|z;exact z;exact absurd (by simpa using z) e)
   exact⟨a,b,λy d=>gm _ (c y d)⟩
 ·by_cases e:x=k
  ·refine⟨o,?_,by rw[aw e,e]⟩
   rw[aw e,ext sub];exact l
  ·have g:x∈done:=by rcases cw.mp f with z|z;exact z;exact absurd (by simpa using z) e
   obtain⟨o',U,h2⟩:=F.ln x g;refine⟨o',?_,by rw[ak e];exact h2⟩
   rw[ak e,ext (F.ps x g).2.2];exact U
 ·by_cases e:x=k
  ·rw[aw e]
   refine⟨eu.mpr ⟨λz=>i (m k z),q⟩,λy d=>?_⟩;rcases bu.mp d with z|z
   ·rw[z];exact et _ aT
   ·exact gm _ (m y z)
  ·rw[ak e]
   have g:x∈done:=by rcases cw.mp f with z|z;exact z;exact absurd (by simpa using z) e
   obtain⟨a,b⟩:=F.ld x g;exact⟨a,λy d=>gm _ (b y d)⟩
def gw(Ps:F4->List F4)(ks:List F4):List (F4×List F4):=ks.map λx=>(x,Ps x)
theorem r3(Ps:F4->List F4)(ks:am F4):(gw Ps ks).map (·.1)=ks:=by
 unfold gw;rw[c5];exact List.map_id' _
theorem Fm.NO(F:Fm ks L Ps)(i:ks.Nodup)(g:∀x∈ks,Nm x)(h:ks.length<=8):ig (gw Ps ks) L:=by
 have d:∀{p:F4×List F4},p∈gw Ps ks->p.1∈ks/\p.2=Ps p.1:=λ{p} a=>by
  obtain⟨x,b,rfl⟩:=aZ.mp a;exact⟨b,rfl⟩
 refine⟨by rw[r3];exact i,by unfold gw;rw[ar];exact h,λp a=>g _ (d a).1,λp a x b=>?_,⟨λx=>(L x).length,λp a x b=>?_⟩,λp a=>?_⟩
 ·obtain⟨U,h2⟩:=d a
  rw[h2]at b;exact⟨(x,Ps x),aZ.mpr ⟨x,(F.ps _ U).2.2 x b,rfl⟩,rfl⟩
 ·obtain⟨U,h2⟩:=d a
  rw[h2]at b;obtain⟨o,e,f⟩:=F.ln _ U;obtain⟨n1,_,c⟩:=F.ps _ U;obtain⟨_,_,j⟩:=F.order n1 c e;have:=len_sub (F.ld x (c x b)).1 λy k=>j (L x) (w1.mpr (.inl ⟨x,b,rfl⟩)) y k;show(L x).length<(L p.1).length;rw[f,cD];omega
 ·obtain⟨U,h2⟩:=d a
  rw[h2];obtain⟨o,e,f⟩:=F.ln _ U;obtain⟨n1,l,c⟩:=F.ps _ U;obtain⟨m,n,_⟩:=F.order n1 c e;exact⟨F.small g h n1 l c,o,e,f,by have:=len_sub m n;omega⟩
theorem J4(xs:am F4):fl (xs.map V.str) none (ih (-1))=xs.dropLast.map V.str:=by
 unfold fl;have a:HT.a9 (xs.map V.str).length 0 none=0:=rfl;have b:HT.a9 (xs.map V.str).length (xs.map V.str).length (ih (-1))=xs.length - 1:=by
  rw[ar];unfold HT.a9;simp;omega
 rw[a,b,vE,FY,<-aaF,List.dropLast_eq_take]
theorem gI{xs:am F4}(h:c7 p H)(e:H a=bn (xs.map V.str)):a≠p:=by
 rintro rfl;obtain⟨x,y,b,_⟩:=h;rw[e]at b;have c:xs.map V.str=[.int x,.int y]:=HO.lst.inj (cS b);cases xs with
 |nil=>cases c
 |cons z t=>cases c
theorem eo.d6(h:eo H kvs L x)(ok:c7 p H)(s:br p H Y):eo Y kvs L x:=let ⟨a,e,q⟩:=h;⟨a,e,s.kp _ _ q (gI ok q)⟩
theorem eo.write{b:am (Key×V)}{u:HO}(h:eo H kvs L x)(c:H d=ce b)(e:Y=upd H d u):eo Y kvs L x:=let ⟨a,f,q⟩:=h;⟨a,f,by rw[e,ai (bx q c)];exact q⟩
theorem jv(ok:c7 p H)(s:br p H Y)(e:H d=ce kvs):Y d=ce kvs:=by
 obtain⟨x,y,ep,_⟩:=ok;exact s.kp _ _ e (bx e ep)
theorem jl(h:c7 p H)(s:ao H Y):br p H Y:=by
 obtain⟨x,y,e,r⟩:=h;exact⟨⟨x,y,s _ _ e,r⟩,λb o e _=>s b o e⟩
theorem BV{k:F4}{l:am F4}(c:H d=ce kvs)(f:H a=bn (l.map V.str))(h:x≠k->eo H kvs L x) :
  eo (upd H d (.dK (putK kvs (Uz k) (.ref a)))) (putK kvs (Uz k) (.ref a)) (λx=>if x=k then l else L x) x:=by
 unfold eo;rw[m9]
 by_cases e:x=k
 ·subst e
  refine⟨a,by rw[aw rfl],?_⟩
  rw[ai (bx f c)];show H a=bn ((if x=x then l else L x).map V.str);rw[aw rfl];exact f
 ·obtain⟨b,i,g⟩:=h e
  refine⟨b,by rw[ak (λz=>e (fQ z))];exact i,?_⟩
  rw[ai (bx g c)];show H b=bn ((if x=k then l else L x).map V.str);rw[ak e];exact g
theorem Bo{k:F4}(h:kvs.map (·.1)=done.map Uz)(c:k ∉ done):(putK kvs (Uz k) v).map (·.1)=(done++[k]).map Uz:=by
 have d:bz kvs (Uz k)=none:=by
  have:(bz kvs (Uz k)).isSome=false:=by
   rw[<-iK,vh];intro a b f;have e:a.1=Uz k:=fw f;have:a.1∈kvs.map (·.1):=aZ.mpr ⟨a,b,rfl⟩;rw[h,e]at this;obtain⟨y,g,i⟩:=aZ.mp this;exact c (fQ i ▸ g)
  cases e:bz kvs (Uz k) with
  |none=>rfl
  |some _=>rw[e]at this;cases this
 rw[nc _ d,a5,a5,h];rfl
noncomputable abbrev D0:List F4:=["_law_pot_here","_law_kinds","_law_lines","_law_parents_here","_law_kind","_law_own","_law_turn","_law_family_here"]
theorem jy:bg D0 ["_law_pot_here","_law_kinds"] (aH nj):=bB
abbrev O9:Vo:=c9 (c9 (e4 (bH (bE nj) 2)))
theorem I7{kvs:am (List F4×List V)}(h:bK H vs Qa)(h':dh H 1 vs kvs):kvs.map (·.1)=Qa.map λp=>[p.1]:=L2.Paired.both h (λv p c x y=>by
 obtain⟨a,b,e,q,_⟩:=x;obtain⟨k,f,g,i⟩:=y;rw[e]at f;cases f;rw[q]at g;obtain⟨ks,rest⟩:=c;cases ks with
 |nil=>simp at i
 |cons j ks =>
  cases ks with
  |cons l ks=>simp at i
  |nil=>injection (cS g) with z;injection z with d m;injection d with d;show [j]=[p.1];rw[d]) h'
theorem Mp(h:(Qa.map λp=>[p.1]).Pairwise λa b=>cp a b=true):(Qa.map (·.1)).Pairwise λa b=>bZ a b=true:=by
 rw[ff]at h⊢;exact h.imp λ{a b} z=>by rw[<-pA];exact z
theorem bK.keyed(h:bK H vs Qa):∃kvs,dh H 1 vs kvs/\kvs.map (·.1)=(Qa.map (·.1)).map λx=>[x]:=by
 induction h with
 |nil=>exact⟨[],.nil,rfl⟩
 |@cons _ p _ _ h _ c =>
  obtain⟨a,b,e,q,r⟩:=h;obtain⟨kvs,U,h2⟩:=c;exact⟨([p.1],[.ref b])::kvs,.cons ⟨a,e,q,rfl⟩ U,by rw[bD,h2];rfl⟩
structure O'(p:FG)(H:Hp)(ks:List F4)(r t d1:FG)(o:Ys)(ws:List V)(n3:List (Key×V))(L Ps:F4->List F4)(Qa:List (F4×List F4))(Y:Hp):Prop where
 hr:Y r=ih (.tup [.ref t,.ref d1])
 ht:Y t=ih (.aX o (.tup ws))
 od:o.dict=none
 fv:bK Y ws Qa
 pm:Qa.Perm (gw Ps ks)
 fm:Fm ks L Ps
 U:Y d1=ih (.dK n3)
 k1:n3.map (·.1)=ks.map Uz
 l1:∀x∈ks,eo Y n3 L x
 pa:br p H Y
 n1:H d1=none
 so:(Qa.map (·.1)).Pairwise λa b=>bZ a b=true
inductive qE(vs:List V)(H:Hp)(Q:VK)(E:XK):Prop
 |mk{p n:FG}{ks:List F4}(_:vs=[.ref p,.ref n])(_:c7 p H)(_:H n=ih (.lst (ks.map V.str)))(_:ks.Nodup)(_:(∀x∈ks,Nm x))(_:ks.length<=8)(_:∀r t d1 o ws n3 L Ps Qa Y,O' p H ks r t d1 o ws n3 L Ps Qa Y->Q (.ref r) Y):qE vs H Q E
theorem C3:bJ D0 (aH nj) ["_law_kind","_law_parents_here"] [none,ih 3] (bS O9):=cJ
theorem NP{zt:XX}(F:aR K "_law_family" "_law_family" nj f fd)(B:b7 mg)(yD:dq mg)
  (zD:aU P w K mg base aC 2 fP dP ["_law_pot_here","_law_made"] qc) (xE:Yb K (.ref fP)=true) (yE:Binds K dP ["_law_pot_here","_law_made"] []) (zE:mg "_law_parents" = ih (.ref fP))
  (xu:aU P w K mg base aC 2 fL zt ["_law_lines","_law_kind","_law_own"] n2) (yu:Yb K (.ref fL)=true) (zu:Binds K zt ["_law_lines","_law_kind","_law_own"] []) (xv:mg "_law_line" = ih (.ref fL)) :
  aU P w K mg base aC 3 f fd ["_law_pot_here","_law_kinds"] qE:=by
 refine F.cz jy λQc A outer s H vs Q E I h=>?_
 ·obtain @⟨p,n,ks,rfl,ye,ze,xi,yy,zL,q⟩:=h
  have xF:=I.units;have yi:=Vr (Nat.add_le_add_left (show 1<=64 by decide) _) xF
  intro X;refine⟨_,aF (lK (cZ (aa lA (aa lA af))) (kc rfl (cH (a4 2 jy.nd) (cH (sR (i:=3) jy.nd rfl (Yx rfl)) gJ))))
   (aF (gu fZ rfl (ez (pv 1)) (a4 4 jy.nd)
    (aF (bt 5 jy.nd (dA zD I rfl zE xE yE .nil dH (aa (pv 0) (aa (dX (wL rfl) rfl B.list boot_list (aa (pv 2) af)) af))))
    (aF (gu fZ rfl (j3 rfl B.range (aa au af)) (a4 6 jy.nd)
     (aA (bf (bC pK (dA xu I rfl xv yu zu .nil dH (aa (pv 2) (aa (pv 4) (aa (pv 5) af)))) iN (bh _))
      (aA (bt 5 jy.nd (lx pk (pv 5) lG (lH (ud tQ au))))) bw)))
    (aF (jq yi (pv 2) (pv 4) (dA xu I rfl xv yu zu .nil dH (aa (pv 2) (aa (pv 4) (aa (pv 5) af)))) rfl)
    (aA (jq yi (pv 3) (pv 4) (pv 5) rfl))))))
   (aF (bt 7 jy.nd (dX GK rfl B.tuple boot_tuple (aa (aS oQ rfl yD.sorted boot_sorted (aa (cj rfl C3 (ez (pv 1)) (λs H fp=>⟨a4 0 C3.nd,cP,
     cZ (aa (pv 0) (aa (dX (wz K rfl) rfl B.tuple boot_tuple (aa (nt yi (pv 1) (pv 0)) af)) af))⟩)) af)) af)))
   (aA (aO (cZ (aa (pv 7) (aa (pv 2) af))))))),?_⟩
  intro g zb m zi;have yF:ao H (upd (upd H g (.dK [])) m (.dK [])):=(ay zb).trans (ay zi);have xj:g≠m:=aB ah zi;have zp:H m=none:=(ay zb).free zi;refine⟨by show 2<=UJ;rw[aJ];decide,λtp yj=>?_⟩
  have yv:(upd (upd H g (.dK [])) m (.dK [])) g=ce []:=by rw[ai xj];exact ah
  have zv:=yF.trans (ay (o:=.tup [V.ref g,.ref m]) yj);have xq:upd (upd (upd H g (.dK [])) m (.dK [])) tp (.tup [V.ref g,.ref m]) g=ce []:=by rw[ai (aB yv yj)];exact yv
  have yq:upd (upd (upd H g (.dK [])) m (.dK [])) tp (.tup [V.ref g,.ref m]) m=ce []:=by rw[ai (aB ah yj)];exact ah
  refine⟨tp,_,rfl,aE.of ah,rfl,_,_,rfl,_,_,rfl,rfl,?_⟩;generalize upd (upd (upd H g (.dK [])) m (.dK [])) tp (.tup [V.ref g,.ref m])=zF at zv xq yq⊢;have xw:br p H zF:=jl ye zv;have zy:p≠g:=ye.ne zb;have xz:p≠m:=ye.ne zp;have zj:n≠p:=gI ye ze;refine⟨_,rfl,n,rfl,⟨_,aq.of (xw.kp _ _ ze zj)⟩,lu (xs:=ks.map V.str) (λi σ H1=>∃(v O:am (Key×V)) (L Ps:F4->List F4) (zm xn U:ap V),σ=[bd p,bd n,bd g,bd m,zm,xn,U,none]/\br p H H1 /\
   H1 g=ce v/\H1 m=ce O/\v.map (·.1)=(ks.take i).map Uz/\O.map (·.1)=(ks.take i).map Uz/\(∀x∈ks.take i,eo H1 v L x)/\(∀x∈ks.take i,eo H1 O Ps x)/\Fm (ks.take i) L Ps)
   ⟨[],[],λ_=>[],λ_=>[],none,none,none,rfl,xw,xq,yq,rfl,rfl,λx d=>(by cases d),λx d=>(by cases d),⟨λx d=>(by cases d),λx d=>(by cases d),λx d=>(by cases d)⟩⟩ (λi σ H1 _ ab=>by obtain⟨_,_,_,_,_,_,_,_,z,_⟩:=ab;exact aq.of (z.kp _ _ ze zj)) ?_ ?_⟩
  ·rintro i x σ H1 d ⟨v,O,L,Ps,zm,xn,U,rfl,ya,yd,xk,za,yn,xf,yf,S⟩
   obtain⟨xc,rfl⟩:=ph d;have R:ks.take (i+1)=ks.take i++[ks[i]]:=by rw[cO,bA xc];rfl
   have yh:ks[i]∉ ks.take i:=by
    have:(ks.take (i+1)).Nodup:=xi.sublist (kZ _ _);rw[R]at this;exact λz=>(gG.mp this).2.2 _ z _ aT rfl
   have yz:(ks.take i).Nodup:=xi.sublist (kZ _ _);have zq:∀x∈ks.take i,Nm x:=λx d=>yy x (rE d);have yw:(ks.take i).length<=8:=by rw[b8];omega
   have xK:v.length=(ks.take i).length:=by have:=c4 YI za;simpa using this
   have yK:O.length=(ks.take i).length:=by have:=c4 YI yn;simpa using this
   refine bj rfl rfl ⟨g,v,rfl,yd,λl zn=>?_⟩;have xG:v.map (λxo=>kV xo.1)=(ks.take i).map V.str:=by
    have:v.map (λxo=>kV xo.1)=(v.map (·.1)).map kV:=by rw[c5];rfl
    rw[this,za,c5];rfl
   rw[xG];have xb:=ya.new (o:=.lst ((ks.take i).map V.str)) zn;have zf:=ay (o:=.lst ((ks.take i).map V.str)) zn;refine qc.mk rfl xb.ok (ya.ok.ne zn) ah (by omega) λM own rest yo xr xa J xd zo=>?_
   have zw:=xb.trans xd;have G:own.Nodup:=(gG.mp (xa.nodup_iff.mpr yz)).1;have C:∀y∈own,y∈ks.take i:=λy xp=>xa.mem_iff.mp (gm _ xp);have yk:=jv xb.ok xd (zf _ _ yd);have zz:=jv xb.ok xd (zf _ _ xk);have zk:∀x∈ks.take i,eo yo v L x:=λx d=>((xf x d).same zf).d6 xb.ok xd;have xA:∀x∈ks.take i,eo yo O Ps x:=λx d=>((yf x d).same zf).d6 xb.ok xd;refine⟨5,rfl,by decide,by decide,mU (λj σ xg=>∃(M:FG) (own:am F4) (U:ap V),σ=[bd p,bd n,bd g,bd m,ih (.str ks[i]),bd M,U,none]/\ao yo xg/\xg M=bn (own.map V.str)/\own.Nodup/\(∀y∈own,y∈ks.take i)/\own.length<=4/\(cf (total (rowsOf L own)) (rowsOf L own)≠none\/own.length+j<=4))
    ⟨M,own,_,rfl,ao.refl _,zo,G,C,J,.inr J⟩ ?_ ?_⟩
   ·clear xa J G C zo xr
    rintro j σ xg xM ⟨M,own,U,rfl,T,W,G,C,J,xl⟩;have yl:=S.small zq yw G J C;have zl:=λr I=>(S.lN G C r I).1;refine ed rfl rfl rfl (n2.mk rfl (T _ _ yk) W (λx d=>(zk x (C x d)).same T) yl zl (λe yb N=>?_) (λo e lp yb yA N xx=>?_))
    ·refine⟨rfl,_,rfl,?_⟩
     refine ag rfl ?_;have zA:own ≠ []:=λz=>by rw[z]at e;cases e
     have yJ:0<own.length:=mK.mpr zA;refine⟨1,rfl,_,rfl,M,_,rfl,aq.of (N _ _ W),λc yg=>?_⟩;refine⟨c,own.dropLast,_,rfl,(T.trans N).trans (ay yg),?_,G.sublist (List.dropLast_sublist _),λy xp=>C y (List.dropLast_subset _ xp),by rw[Vz];omega,.inr ?_⟩
     ·have:=J4 own
      rw[ah];exact c4 ih (c4 HO.lst this)
     ·rcases xl with z|z
      ·exact absurd e z
      ·rw[Vz];omega
    ·refine⟨rfl,_,rfl,?_⟩
     exact⟨M,own,_,rfl,T.trans N,N _ _ W,G,C,J,.inl (by rw[e];exact Option.some_ne_none _)⟩
   ·clear xa J G C zo xr
    rintro σ xg ⟨M,own,U,rfl,T,W,G,C,J,xl⟩;have yl:=S.small zq yw G J C;have zl:=λr I=>(S.lN G C r I).1;have xB:cf (total (rowsOf L own)) (rowsOf L own)≠none:=by
     rcases xl with z|z
     ·exact z
     ·exact absurd z (by show ¬ (own.length+ZA 5<=4);have:ZA 5=5:=rfl;omega)
    refine ed rfl rfl rfl (n2.mk rfl (T _ _ yk) W (λx d=>(zk x (C x d)).same T) yl zl (λe=>absurd e xB) (λo e lp yb yA N xx=>?_));have yc:=T.trans N;have zd:=yc _ _ yk;have yB:=yc _ _ zz;refine bj rfl rfl ⟨g,_,rfl,gf.k (k:=Uz ks[i]) zd (by rw[aJ];omega),?_⟩
    have xm:upd yb g (.dK (putK v (Uz ks[i]) (.ref lp))) m=ce O:=by rw[ai (a7 xj)];exact yB
    refine ed rfl rfl rfl ⟨m,_,rfl,gf.k (k:=Uz ks[i]) xm (by rw[aJ];omega),?_⟩
    have yG:br p H yb:=zw.trans (jl zw.ok yc);have zB:∀x∈ks.take (i+1),eo (upd yb g (.dK (putK v (Uz ks[i]) (.ref lp)))) (putK v (Uz ks[i]) (.ref lp)) (λx=>if x=ks[i] then ks[i]::o else L x) x:=λx d=>BV zd xx λne=>(zk x (by
     rw[R]at d;rcases cw.mp d with z|z
     ·exact z
     ·exact absurd (by simpa using z) ne)).same yc
    have xC:upd yb g (.dK (putK v (Uz ks[i]) (.ref lp))) M=bn (own.map V.str):=by rw[ai (bx (N _ _ W) zd)];exact N _ _ W
    refine⟨_,_,_,_,_,_,_,rfl,(yG.write zb zy).write zp xz,by rw[ai xj];exact ah,ah,by rw[R];exact Bo za yh,by rw[R];exact Bo yn yh,λx d=>(zB x d).write xm rfl,λx d=>?_,by rw[R];exact S.add yh G J C e⟩
    refine BV xm xC λne=>?_;exact((xA x (by
     rw[R]at d;rcases cw.mp d with z|z
     ·exact z
     ·exact absurd (by simpa using z) ne)).same yc).write zd rfl
  ·rintro σ H1 ⟨v,O,L,Ps,zm,xn,U,rfl,ya,yd,xk,za,yn,xf,yf,S⟩
   rw[ar,cF]at za xf yf S;have yr:=ya.kp _ _ ze zj;refine ag rfl ⟨n,rfl,⟨_,aq.of yr⟩,λc yg=>?_⟩;refine f6 (xs:=ks.map V.str) (λi ys zg H2=>∃yp:ap V,zg=[yp,bd m]/\H2 c=bn ys/\ao H1 H2/\bK H2 ys (gw Ps (ks.take i))) ⟨none,rfl,ah,ay yg,.nil⟩ (λi ys zg H2 ab=>by obtain⟨_,_,z1,z2,_⟩:=ab;exact ⟨z1,aq.of (z2 _ _ yr)⟩) ?_ ?_
   ·rintro i x ys zg H2 d ⟨yp,rfl,h2,zc,Y⟩
    have zr:i<(ks.map V.str).length:=(bQ.mp d).1;have xc:i<ks.length:=by simpa using zr
    obtain rfl:V.str ks[i]=x:=by simpa [xc] using d
    have R:ks.take (i+1)=ks.take i++[ks[i]]:=by rw[cO,bA xc];rfl
    obtain⟨a,zG,xH⟩:=(yf ks[i] (dz xc)).same zc;refine ed rfl rfl rfl ⟨m,.ref a,rfl,by rw[<-zG];exact eI.k (k:=Uz ks[i]) (zc _ _ xk),?_⟩
    refine⟨a,_,rfl,.inl ⟨aq.of xH,λb yH=>?_⟩⟩;have zH:=ay (o:=.tup ((Ps ks[i]).map V.str)) yH;refine⟨by show 2<=UJ;rw[aJ];decide,λt xh=>?_⟩
    have St:=zH.trans (ay (o:=.tup [V.str ks[i],.ref b]) xh);have xt:upd (upd H2 b (.tup ((Ps ks[i]).map V.str))) t (.tup [V.str ks[i],.ref b]) b=bi ((Ps ks[i]).map V.str):=by rw[ai (aB ah xh)];exact ah
    have ym:=St _ _ h2;refine⟨ym,?_,cw_next zr ⟨_,rfl,ah,λx u d=>by rw[ai (aB d yg)];exact St _ _ (zc x u d),?_⟩⟩
    ·have:=Y.length
     unfold gw at this;rw[ar,b8]at this;rw[aJ];omega
    ·have xI:gw Ps (ks.take (i+1))=gw Ps (ks.take i)++[(ks[i],Ps ks[i])]:=by rw[R];unfold gw;rw[a5];rfl
     rw[xI];refine bK.append (Y.keep λx xs d=>?_) ?_ ?_ (b:=b)
     ·rw[ai (bx d h2)];exact St _ _ d
     ·rw[ai (bx ah ym)];exact ah
     ·rw[ai (bx xt ym)];exact xt
   ·rintro ys zg H2 ⟨yp,rfl,h2,zc,Y⟩
    rw[ar,cF]at Y;obtain⟨kvs,pv,yC⟩:=Y.keyed;have zK:=Y.length;have xL:(gw Ps ks).length=ks.length:=by unfold gw;exact ar ..
    refine⟨c,ys,kvs,1,rfl,.inl (aq.of h2),pv,aG _,by rw[yC,r3];exact xi.map _ λa b n e=>n (oM e).1,by omega,λD xe zJ yI xa zC yL yt=>?_⟩
    have zI:=ay (o:=.lst xe) yI;refine⟨D,xe,rfl,aq.of ah,λt o xh xJ=>?_⟩;have St:=zI.trans (ay (o:=.aX o (.tup xe)) xh);obtain⟨xy,xD,yx⟩:=oR xa Y;rw[I7 yx zC]at yt;refine bj rfl rfl ⟨dc,λr I=>?_⟩;have zx:=St.trans (ay (o:=.tup [V.ref t,.ref g]) I);have zh:=zc.trans zx;refine q r t g o xe v L Ps xy _ ⟨ah,by rw[ai (aB ah I)];exact ah,xJ,bK.same yx zx,xD,S,zh _ _ yd,za,λx d=>(xf x d).same zh,ya.trans (jl ya.ok zh),zb,Mp yt⟩
theorem boot_int:Vx "int" = ih (.type "int"):=by decide +kernel
theorem boot_bool:Vx "bool" = ih (.type "bool"):=by decide +kernel
structure D1(mg:F4->Option i'):Prop where
 int:mg "int" = none
 bool:mg "bool" = none
def gv(d:UA):Bool:=dw "int" d && !dw "bool" d
def cM(x:F4):Bool:=decide (1<=x.length)&&(decide (x.length<=8)&&x.cps.toList.all λc=>decide (97<=c)&&decide (c<=122))
def cu:UA->Bool|.str x=>cM x|_=>false
inductive ib(vs:List V)(H:Hp)(Q:VK)(E:XK):Prop
 |mk{p:FG}{v:V}{d:UA}(_:vs=[v])(_:Dt p H v d)(_:Q (.bl (gv d)) H):ib vs H Q E
theorem Lh:bg ["thing"] ["thing"] (aH sF):=bB
theorem J5(F:aR K "is_whole" "is_whole" sF f fd)(a:dq mg)(b:D1 mg):aU P w K mg base aC 1 f fd ["thing"] ib:=by
 refine F.ok Lh (λvs H Q E h=>?_) (λQc A outer s H vs Q E e h=>?_)
 ·obtain⟨rfl,_⟩:=h;rfl
 ·obtain @⟨p,v,d,rfl,r,q⟩:=h
  refine⟨_,aA (aO (cY (aS eR rfl a.c3 cX (aa (pv 0) (aa (ej (v:=.ty "int") rfl b.int boot_int rfl) af))) (fy (LM (aS eR rfl a.c3 cX (aa (pv 0) (aa (ej (v:=.ty "bool") rfl b.bool boot_bool rfl) af))))))),?_⟩;refine⟨_,rfl,ic KW r ⟨_,rfl,?_⟩⟩;cases c:dw "int" d with
  |false=>rw[show gv d=false by unfold gv;rw[c];rfl]at q;exact q
  |true =>
   refine⟨_,rfl,ic JL r ⟨_,rfl,?_⟩⟩;rw[show gv d = !dw "bool" d by unfold gv;rw[c];rfl]at q;exact q
inductive eF(vs:List V)(H:Hp)(Q:VK)(E:XK):Prop
 |mk{p:FG}{v:V}{d:UA}(_:vs=[v])(_:Dt p H v d)(_:(∀x,d=.str x->x.length<=100000))(_:∀Y,ao H Y->Q (.bl (cu d)) Y):eF vs H Q E
theorem Mq(c:Nat):(!decide ((⟨#[c]⟩:F4).cps.toList<(Yk "a").cps.toList))=decide (97<=c):=by
 have hA:(Yk "a").cps.toList=[97]:=by decide +kernel
 rw[hA,<-decide_not];refine rF.mpr ?_;simp[VA]
theorem Mr(c:Nat):(!decide ((Yk "z").cps.toList<(⟨#[c]⟩:F4).cps.toList))=decide (c<=122):=by
 have hA:(Yk "z").cps.toList=[122]:=by decide +kernel
 rw[hA,<-decide_not];refine rF.mpr ?_;simp[VA]
theorem tK{d:UA}(h:dw "str" d=false):cu d=false:=by cases d <;> first|rfl|cases h
theorem J6(F:aR K "is_name" "is_name" ny f fd)(B:b7 mg)(t:dq mg):aU P w K mg base aC 1 f fd ["thing"] eF:=by
 refine F.ok Mm (λvs H Q E h=>?_) (λQc A outer s H vs Q E D h=>?_)
 ·obtain⟨rfl,_⟩:=h;rfl
 ·obtain @⟨L,v,d,rfl,r,C,q⟩:=h
  have M:=D.units;refine⟨_,aF (bf (PW.pt (pw_or (cI (b6 (aS eR rfl t.c3 cX (aa (pv 0) (aa (ej (v:=.ty "str") rfl t.str boot_str rfl) af)))))
     (pw_or1 (cI (Jj nN nN au (aS G2 rfl B.len cG (aa (pv 0) af)) au))))) (aA (aO eH)) bw)
   (aA (aO (aS (g6 rfl) rfl B.all boot_all (aa (cj rfl C0 (Cj (pv 0)) (λs H fp=>⟨a4 0 C0.nd,cP,AN Ah Ah bO (pv 0) bO⟩)) af)))),?_⟩
  refine⟨_,rfl,ic lJ r ⟨_,rfl,?_⟩⟩;cases u:dw "str" d with
  |false=>have a:=q _ (ao.refl _);rw[tK u]at a;exact a
  |true =>
   obtain⟨x,rfl⟩:∃x,d=.str x:=by cases d with
    |str x=>exact⟨x,rfl⟩
    |_=>cases u
   obtain rfl:v=.str x:=by cases r;rfl
   have I:=C x rfl;refine⟨_,rfl,x,rfl,by rw[aJ];omega,1,x.length,rfl,rfl,_,rfl,?_⟩
   by_cases U:1<=x.length
   ·refine ite_tt (bq (by omega)) ?_
    refine⟨x.length,8,rfl,rfl,_,rfl,?_⟩
    by_cases e:x.length<=8
    ·have g:decide ((x.length:Int)<=8)=true:=bq (by omega)
     have J:x.cps.size<=8:=e;rw[g];refine⟨_,rfl,x,rfl,λp G=>?_⟩;refine AZ (λi ys b H1=>∃j:ap V,b=[j]/\ys=((x.cps.toList.take i).map λc=>decide (97<=c)&&decide (c<=122)).map V.bl/\H1=upd H p (.lst ys)) ⟨none,rfl,rfl,rfl⟩ (λi ys b H1 ⟨_,_,_,z⟩=>by rw[z];exact ah) ?_ ?_
     ·rintro i c ys b H1 y ⟨j,rfl,rfl,rfl⟩
      have k:i<x.cps.size:=(iB.mp y).1;have l:x.cps.toList.take (i+1)=x.cps.toList.take i++[c]:=by rw[cO,iA,y];rfl
      refine⟨_,rfl,_,_,rfl,rfl,_,rfl,?_⟩;rw[Mq];have m:((((x.cps.toList.take i).map λc=>decide (97<=c)&&decide (c<=122)).map V.bl).length)<UJ:=by rw[ar,ar,b8,cb,aJ];omega
      cases n:decide (97<=c) with
      |false =>
       refine ite_ff rfl ⟨ah,m,cw_next k ⟨_,rfl,?_,by rw[ia]⟩⟩
       rw[l,a5,a5,bD,n];rfl
      |true =>
       refine ite_tt rfl ⟨_,_,rfl,rfl,ah,m,cw_next k ⟨_,rfl,?_,by rw[ia]⟩⟩
       rw[Mr,l,a5,a5,bD,n];rfl
     ·rintro ys b H1 ⟨j,rfl,rfl,rfl⟩
      refine⟨p,_,rfl,aq.of ah,?_⟩;have a:=q _ (ay (o:=.lst (((x.cps.toList.take x.cps.size).map λc=>decide (97<=c)&&decide (c<=122)).map V.bl)) G);rw[show cu (.str x)=((x.cps.toList.take x.cps.size).map λc=>decide (97<=c)&&decide (c<=122)).all id by
       show cM x=_;unfold cM;rw[bq U,bq e,Gs,oL (by rw[cb];exact aG _)];rfl]at a
      exact a
    ·have g:decide ((x.length:Int)<=8)=false:=a' (by omega)
     rw[g];have a:=q _ (ao.refl _);rw[show cu (.str x)=false by show cM x=_;unfold cM;rw[a' e];simp]at a
     exact a
   ·refine ite_ff (a' (by omega)) ?_
    have a:=q _ (ao.refl _);rw[show cu (.str x)=false by show cM x=_;unfold cM;rw[a' U];simp]at a
    exact⟨_,rfl,a⟩
theorem pS{ds:am UA}(r:Dt p H v (.tuple ds)):∃a vs,v=.ref a/\a≠p/\H a=bi vs/\bU p H vs ds:=by
 cases r with
 |tup n e b=>exact⟨_,_,rfl,n,e,b⟩
theorem jm{d:UA}{ds:am UA}(r:bU p H vs (d::ds)):∃v ws,vs=v::ws/\Dt p H v d/\bU p H ws ds:=by
 cases r with
 |cons a b=>exact⟨_,_,rfl,a,b⟩
theorem BW(r:bU p H vs []):vs=[]:=by cases r;rfl
theorem gK(r:Dt p H v (.str x)):v=.str x:=by cases r;rfl
theorem Mt{x:Int}(r:Dt p H v (.int x)):v=.int x:=by cases r;rfl
theorem is_tup{d:UA}(h:dw "tuple" d=true):∃ds,d=.tuple ds:=by
 cases d with
 |tuple ds=>exact⟨ds,rfl⟩
 |_=>cases h
theorem I8{d:UA}(h:gv d=true):∃n,d=.int n:=by
 cases d with
 |int n=>exact⟨n,rfl⟩
 |_=>cases h
theorem dZ{x:V}:cU (x::xs) 0=ih x:=(show cU (x::xs) ((0:Nat):Int)=ih x from b2 rfl)
theorem gg{x:V}:cU (x::y::xs) 1=ih y:=(show cU (x::y::xs) ((1:Nat):Int)=ih y from b2 rfl)
theorem l'{x z:V}:cU (x::y::z::xs) 2=ih z:=(show cU (x::y::z::xs) ((2:Nat):Int)=ih z from b2 rfl)
theorem lT{a b:F4}:decide (V.str a=V.str b)=(a==b):=by
 rw[show(a==b)=decide (a=b) from rfl];exact rF.mpr ⟨λe=>by injection e,λe=>by rw[e]⟩
theorem Bp:∀{ds:am UA}{d:UA},d∈ds->d.bulk+1<=Vm ds
 |e::ds,d,h=>by
  rcases bu.mp h with rfl|h
  ·simp only[Vm];omega
  ·have:=Bp h;simp only[Vm];omega
def Sm(d:UA):Prop:=d.bulk<=100000
theorem Sm.str{d:UA}(h:Sm d):∀x,d=.str x->x.length<=100000:=λx e=>by subst e;exact h
theorem Sm.tup{ds:am UA}(h:Sm (.tuple ds)):∀d∈ds,Sm d:=λd a=>by
 have:=Bp a;have h':Vm ds<=100000:=h;unfold Sm;omega
def jD:UA->Bool|.tuple (.str _::_)=>true|_=>false
def dJ:UA->Bool
 |.tuple (.str s::ds)=>if s == "onward" then ds.isEmpty else match ds with
  |[e]=>if s == "ask" then cu e else if s == "times" then (match e with|.int n=>decide (-9<=n)&&decide (n<=9)|_=>false) else s == "add" && gv e
  |_=>false
 |_=>false
def ki:UA->Bool|.tuple ds=>decide (ds.length<=4)&&ds.all dJ|_=>false
def eW:UA->Bool
 |.tuple (.str s::ds)=>match ds with
  |[e]=>if s == "plain" then gv e else if s == "ahead" then false else (s == "behind" || s == "shut")&&ki e
  |[e,g]=>s == "ahead" && (cu e&&gv g)
  |_=>false
 |_=>false
inductive lU(vs:List V)(H:Hp)(Q:VK)(E:XK):Prop
 |mk{p:FG}{v:V}{d:UA}(_:vs=[v])(_:Dt p H v d)(_:Q (.bl (jD d)) H):lU vs H Q E
theorem NQ:bg ["thing"] ["thing"] (aH tJ):=bB
theorem Mu{d:UA}(h:dw "tuple" d=false):jD d=false:=by cases d <;> first|rfl|cases h
theorem Mv(F:aR K "begins_with_text" "begins_with_text" tJ f fd)(B:b7 mg)(b:dq mg):aU P w K mg base aC 1 f fd ["thing"] lU:=by
 refine F.ok NQ (λvs H Q E h=>?_) (λQc A outer s H vs Q E k h=>?_)
 ·obtain⟨rfl,_⟩:=h;rfl
 ·obtain @⟨p,v,d,rfl,r,q⟩:=h
  refine⟨_,aA (aO (cY (aS eR rfl b.c3 cX (aa (pv 0) (aa (ej (v:=.ty "tuple") rfl B.tuple boot_tuple rfl) af)))
   (cY (eU lS (aS cT rfl B.len cG (aa (pv 0) af)) au (bh _))
    (fy (aS eR rfl b.c3 cX (aa (aW bR (pv 0) au) (aa (ej (v:=.ty "str") rfl b.str boot_str rfl) af))))))),?_⟩
  refine⟨_,rfl,ic kit_tuple r ⟨_,rfl,?_⟩⟩;cases g:dw "tuple" d with
  |false=>rw[Mu g]at q;exact q
  |true =>
   obtain⟨ds,rfl⟩:=is_tup g;obtain⟨a,vs,rfl,l,i,c⟩:=pS r;refine⟨_,rfl,a,_,rfl,.inr (aE.of i),_,_,rfl,rfl,_,rfl,?_⟩;cases ds with
   |nil =>
    obtain rfl:=BW c;exact q
   |cons e ds =>
    obtain⟨u,us,rfl,j,c⟩:=jm c;refine ite_tt (bq (by rw[cD];omega)) ?_
    refine⟨_,rfl,a,_,0,u,rfl,rfl,aE.of i,dZ,ic lJ j ?_⟩;rw[show jD (.tuple (e::ds))=dw "str" e by cases e <;> rfl]at q
    exact q
inductive pE(vs:List V)(H:Hp)(Q:VK)(E:XK):Prop
 |mk{p:FG}{v:V}{d:UA}(_:vs=[v])(_:Dt p H v d)(_:Sm d)(_:∀Y,ao H Y->Q (.bl (dJ d)) Y):pE vs H Q E
theorem Li:bg ["thing"] ["thing"] (aH tI):=bB
theorem Bq{d:UA}(h:jD d=true):∃s ds,d=.tuple (.str s::ds):=by
 match d,h with
 |.tuple (.str s::ds),_=>exact⟨s,ds,rfl⟩
theorem Lj{d:UA}(h:jD d=false):dJ d=false:=by
 match d,h with
 |.tuple (.str s::ds),h=>cases h
 |.tuple [],_=>rfl
 |.tuple (.none::_),_=>rfl
 |.tuple (.bool _::_),_=>rfl
 |.tuple (.int _::_),_=>rfl
 |.tuple (.list _::_),_=>rfl
 |.tuple (.tuple _::_),_=>rfl
 |.tuple (.dict _::_),_=>rfl
 |.none,_=>rfl
 |.bool _,_=>rfl
 |.int _,_=>rfl
 |.str _,_=>rfl
 |.list _,_=>rfl
 |.dict _,_=>rfl
theorem J7{d:UA}(h:jD d=false):eW d=false:=by
 match d,h with
 |.tuple (.str s::ds),h=>cases h
 |.tuple [],_=>rfl
 |.tuple (.none::_),_=>rfl
 |.tuple (.bool _::_),_=>rfl
 |.tuple (.int _::_),_=>rfl
 |.tuple (.list _::_),_=>rfl
 |.tuple (.tuple _::_),_=>rfl
 |.tuple (.dict _::_),_=>rfl
 |.none,_=>rfl
 |.bool _,_=>rfl
 |.int _,_=>rfl
 |.str _,_=>rfl
 |.list _,_=>rfl
 |.dict _,_=>rfl
theorem J'{tk:Tok}(F:aR K "is_step" "is_step" tI f fd)(B:b7 mg)(m:mg "MOST_TIMES" = ih (.int 9 tk))
  (M:aY P w K mg base aC 1 fB dB ["thing"] lU "begins_with_text")
  (N:aY P w K mg base aC 1 fN dN ["thing"] eF "is_name")
  (GW:aY P w K mg base aC 1 fW dW ["thing"] ib "is_whole"):aU P w K mg base aC 2 f fd ["thing"] pE:=by
 refine F.ok Li (λvs H Q E h=>?_) (λQc A outer s H vs Q E O h=>?_)
 ·obtain⟨rfl,_⟩:=h;rfl
 ·obtain @⟨p,v,d,rfl,r,i,q⟩:=h
  have j:aQ 1 _:=O;refine⟨_,aF (bf (cI (b6 (aP M j (aa (pv 0) af)))) (aA (aO eH)) bw)
   (aF (bf (bC di (aW bR (pv 0) au) bO (bh _)) (aA (aO (eU di (aS cT rfl B.len cG (aa (pv 0) af)) au (bh _)))) bw)
   (aF (bf (bC iR (aS cT rfl B.len cG (aa (pv 0) af)) au (bh _)) (aA (aO eH)) bw)
   (aF (bf (bC di (aW bR (pv 0) au) bO (bh _)) (aA (aO (aP N j (aa (aW bR (pv 0) au) af)))) bw)
   (aF (bf (bC di (aW bR (pv 0) au) bO (bh _)) (aA (aO (cY (aP GW j (aa (aW bR (pv 0) au) af))
     (fy (AN nN nN (ud tQ (iL (v:=.int 9) rfl m ⟨tk,rfl⟩)) (aW bR (pv 0) au) (iL (v:=.int 9) rfl m ⟨tk,rfl⟩)))))) bw)
   (aA (aO (cY (eU di (aW bR (pv 0) au) bO (bh _)) (fy (aP GW j (aa (aW bR (pv 0) au) af)))))))))),?_⟩
  refine⟨_,rfl,lU.mk rfl r ⟨_,rfl,?_⟩⟩;cases o:jD d with
  |false=>have t:=q _ (ao.refl _);rw[Lj o]at t;exact t
  |true =>
   obtain⟨x,ds,rfl⟩:=Bq o;obtain⟨a,vs,rfl,W,c,y⟩:=pS r;obtain⟨u,us,rfl,R,g⟩:=jm y;obtain rfl:=gK R;have z:=g.length;clear y;refine⟨_,rfl,a,_,0,_,rfl,rfl,aE.of c,dZ,rfl,_,rfl,?_⟩;rw[lT];have b:=q _ (ao.refl _);cases U:(x == "onward") with
   |true =>
    refine⟨_,rfl,a,_,rfl,.inr (aE.of c),rfl,?_⟩;rw[show dJ (.tuple (.str x::ds))=ds.isEmpty by simp only[dJ,U,eP]]at b
    rw[show decide (V.int (((V.str x::us).length:Nat):Int)=V.int 1)=ds.isEmpty by
     rw[pj,cD,z];cases ds with
     |nil=>rfl
     |cons e ds=>rw[cD];exact jU.mpr (by omega)]
    exact b
   |false =>
    refine⟨_,rfl,a,_,rfl,.inr (aE.of c),rfl,_,rfl,?_⟩;rw[pj,cD,z]
    match ds,g,q,b,i with
    |[],g,q,b,i =>
     rw[show dJ (.tuple [.str x])=false by simp only[dJ,U];rfl]at b
     exact b
    |e::C::ds,g,q,b,i =>
     rw[show dJ (.tuple (.str x::e::C::ds))=false by simp only[dJ,U];rfl]at b
     rw[show(!((((e::C::ds).length+1:Nat):Int)==2))=true by
      rw[Bool.not_eq_true'];exact jU.mpr (by simp only[cD];omega)]
     exact b
    |[e],g,q,b,i =>
     obtain⟨X,Y,rfl,k,S⟩:=jm g;obtain rfl:=BW S;clear g;have L:Sm e:=i.tup e (a8 _ aT);refine⟨_,rfl,a,_,0,_,rfl,rfl,aE.of c,dZ,rfl,_,rfl,?_⟩;rw[lT];cases h2:(x == "ask") with
     |true =>
      refine⟨_,rfl,a,_,1,_,rfl,rfl,aE.of c,gg,eF.mk rfl k L.str λH1 T=>?_⟩;have D:=q _ T;rw[show dJ (.tuple [.str x,e])=cu e by simp only[dJ,U,h2];rfl]at D
      exact D
     |false =>
      refine⟨_,rfl,a,_,0,_,rfl,rfl,aE.of c,dZ,rfl,_,rfl,?_⟩;rw[lT];cases l:(x == "times") with
      |true =>
       refine⟨_,rfl,a,_,1,_,rfl,rfl,aE.of c,gg,ib.mk rfl k ⟨_,rfl,?_⟩⟩;cases G:gv e with
       |false =>
        rw[show dJ (.tuple [.str x,e])=false by
         simp only[dJ,U,h2,l];cases e <;> first|rfl|cases G]at b
        exact b
       |true =>
        obtain⟨n,rfl⟩:=I8 G;obtain rfl:=Mt k;rw[show dJ (.tuple [.str x,.int n])=(decide (-9<=n)&&decide (n<=9)) by simp only[dJ,U,h2,l];rfl]at b
        refine⟨9,rfl,_,rfl,a,_,1,_,rfl,rfl,aE.of c,gg,_,_,rfl,rfl,_,rfl,?_⟩;cases I:decide (-9<=n) with
        |false=>rw[I]at b;exact ite_ff rfl b
        |true=>rw[I]at b;exact ite_tt rfl ⟨_,_,rfl,rfl,b⟩
      |false =>
       refine⟨_,rfl,a,_,0,_,rfl,rfl,aE.of c,dZ,rfl,_,rfl,?_⟩;rw[lT];rw[show dJ (.tuple [.str x,e])=(x == "add" && gv e) by simp only[dJ,U,h2,l];rfl]at b
       cases J:(x == "add") with
       |false=>rw[J]at b;exact b
       |true=>rw[J]at b;exact⟨_,rfl,a,_,1,_,rfl,rfl,aE.of c,gg,ib.mk rfl k b⟩
inductive pT(vs:List V)(H:Hp)(Q:VK)(E:XK):Prop
 |mk{p:FG}{v:V}{d:UA}(_:vs=[v])(_:Dt p H v d)(_:Sm d)(_:∀Y,ao H Y->Q (.bl (ki d)) Y):pT vs H Q E
theorem Mw:bg ["thing"] ["thing"] (aH m4):=bB
def qd(e:Vo)(i:Nat):Vo:=match e with|.BoolOp _ es _=>es.getD i (.Constant .none 0 ⟨0,0,0,0⟩)|_=>.Constant .none 0 ⟨0,0,0,0⟩
noncomputable abbrev NR:Vo:=c9 (qd (ir (bH (bE m4) 0)) 2)
theorem Cv:bJ ["thing"] (aH m4) ["step"] [none] (bS NR):=cJ
theorem Ka{d:UA}(h:dw "tuple" d=false):ki d=false:=by cases d <;> first|rfl|cases h
theorem bU.same{ds:am UA}(r:bU p H vs ds)(S:ao H Y):bU p Y vs ds:=r.keep λb o e _=>S b o e
theorem Dt.same{d:UA}(r:Dt p H v d)(S:ao H Y):Dt p Y v d:=r.keep λb o e _=>S b o e
theorem Kb{c:FG}{ds:am UA}{g:UA->Bool}{tl:St}(A:H a=bi vs)(m:bU p H vs ds)(n:H c=none)(E:ds.length<=1000)
  (w:∀(v:V) (d:UA) (H1:Hp) (r:VK),d∈ds->ao H H1->Dt p H1 v d->(∀H2,ao H1 H2->r (.bl (g d)) H2)->te (ih v::tl) H1 r)
  (q:∀H1,ao H H1->H1 c=bn ((ds.map g).map V.bl)->Q (.ref c) H1):hF (mq K a) (iQ 0) nO te (none::tl) Q c H:=by
 have B:=m.length;refine eS (xs:=vs) (λi ys h H2=>∃k:ap V,h=k::tl/\ys=((ds.take i).map g).map V.bl/\ao H H2/\H2 c=bn ys) ⟨none,rfl,rfl,ay n,ah⟩ (λi ys h H2 I=>by obtain⟨_,_,_,z,C⟩:=I;exact ⟨C,aE.of (z _ _ A)⟩) ?_ ?_
 ·rintro i x ys h H2 s ⟨k,rfl,rfl,f,h2⟩
  have y:i<vs.length:=(bQ.mp s).1;have j:i<ds.length:=by omega
  obtain⟨F,l,D⟩:=m.get (bA j);rw[s]at l;cases l;refine w x ds[i] H2 _ (dz j) f (D.keep λb o e _=>f b o e) λG t=>⟨t _ _ h2,by rw[ar,ar,b8,aJ];omega,cw_next y ⟨_,rfl,?_,λb u e=>?_,ah⟩⟩
  ·rw[cO,bA j,a5,a5];rfl
  ·rw[ai (aB e n)];exact t _ _ (f _ _ e)
 ·rintro ys h H2 ⟨k,rfl,rfl,f,h2⟩
  rw[B,cF]at h2;exact q H2 f h2
theorem Lk{tk:Tok}(F:aR K "are_steps" "are_steps" m4 f fd)(B:b7 mg)(y:dq mg)(z:mg "MOST_STEPS" = ih (.int 4 tk))
  (C:aY P w K mg base aC 2 fS dS ["thing"] pE "is_step"):aU P w K mg base aC 3 f fd ["thing"] pT:=by
 refine F.ok Mw (λvs H Q E h=>?_) (λQc A outer s H vs Q E D h=>?_)
 ·obtain⟨rfl,_⟩:=h;rfl
 ·obtain @⟨p,v,d,rfl,r,o,q⟩:=h
  have t:aQ 2 _:=D;refine⟨_,aA (aO (cY (aS eR rfl y.c3 cX (aa (pv 0) (aa (ej (v:=.ty "tuple") rfl B.tuple boot_tuple rfl) af)))
   (cY (eU nN (aS cT rfl B.len cG (aa (pv 0) af)) (iL (v:=.int 4) rfl z ⟨tk,rfl⟩) (bh _))
    (fy (aS (g6 rfl) rfl B.all boot_all (aa (cj rfl Cv (e8 (pv 0)) (λs H fp=>⟨a4 0 Cv.nd,cP,aP C t (aa (pv 0) af)⟩)) af)))))),?_⟩
  refine⟨_,rfl,ic kit_tuple r ⟨_,rfl,?_⟩⟩;have b:=q _ (ao.refl _);cases i:dw "tuple" d with
  |false=>rw[Ka i]at b;exact b
  |true =>
   obtain⟨ds,rfl⟩:=is_tup i;obtain⟨a,vs,rfl,J,e,j⟩:=pS r;have L:=j.length;refine⟨_,rfl,a,_,rfl,.inr (aE.of e),_,_,rfl,rfl,_,rfl,?_⟩
   by_cases l:ds.length<=4
   ·refine ite_tt (bq (by omega)) ?_
    refine⟨_,rfl,a,rfl,⟨_,aE.of e⟩,λc G=>Kb (g:=dJ) e j G (by omega) (λM I H1 N u m x k=>⟨_,rfl,pE.mk rfl x (o.tup I u) k⟩) λH1 m U=>⟨c,_,rfl,aq.of U,?_⟩⟩
    have n:=q _ m;rw[show ki (.tuple ds)=(ds.map dJ).all id by show(decide (ds.length<=4)&&ds.all dJ)=_;rw[bq l,Gs];rfl]at n
    exact n
   ·rw[show ki (.tuple ds)=false by show(decide (ds.length<=4)&&ds.all dJ)=_;rw[a' l];rfl]at b
    exact ite_ff (a' (by omega)) b
inductive pU(vs:List V)(H:Hp)(Q:VK)(E:XK):Prop
 |mk{p:FG}{v:V}{d:UA}(_:vs=[v])(_:Dt p H v d)(_:Sm d)(_:∀Y,ao H Y->Q (.bl (eW d)) Y):pU vs H Q E
theorem Mx:bg ["thing"] ["thing"] (aH sG):=bB
theorem Pa{a b:F4}(h:(x==a)=true)(n:(a==b)=false):(x==b)=false:=by rw[eq_of_beq h];exact n
theorem I9{ds:am UA}(h:(x == "plain")=true)(a:ds.length≠1):eW (.tuple (.str x::ds))=false:=by
 have n:(x == "ahead")=false:=Pa h (by decide +kernel)
 match ds,a with
 |[],_=>rfl
 |[e],a=>exact absurd rfl a
 |[e,g],_=>simp only[eW,n];rfl
 |_::_::_::_,_=>rfl
theorem I'{ds:am UA}(U:(x == "plain")=false)(h:(x == "ahead")=true)(a:ds.length≠2):eW (.tuple (.str x::ds))=false:=by
 match ds,a with
 |[],_=>rfl
 |[e],_=>simp only[eW,U,h];rfl
 |[e,g],a=>exact absurd rfl a
 |_::_::_::_,_=>rfl
theorem Kc{ds:am UA}(h:(x == "ahead")=false)(a:ds.length≠1):eW (.tuple (.str x::ds))=false:=by
 match ds,a with
 |[],_=>rfl
 |[e],a=>exact absurd rfl a
 |[e,g],_=>simp only[eW,h];rfl
 |_::_::_::_,_=>rfl
theorem My{a b:F4}:mv (V.str x) [V.str a,V.str b]=(x==a||x==b):=by
 show((a==x)||((b==x)||false))=_;rw[vo,show(a==x)=(x==a) from aaL,show(b==x)=(x==b) from aaL]
theorem Ll(F:aR K "is_entry" "is_entry" sG f fd)(B:b7 mg)
  (S:aY P w K mg base aC 1 fB dB ["thing"] lU "begins_with_text")
  (T:aY P w K mg base aC 1 fN dN ["thing"] eF "is_name")
  (GW:aY P w K mg base aC 1 fW dW ["thing"] ib "is_whole")
  (W:aY P w K mg base aC 3 fS dS ["thing"] pT "are_steps"):aU P w K mg base aC 4 f fd ["thing"] pU:=by
 refine F.ok Mx (λvs H Q E h=>?_) (λQc A outer s H vs Q E X h=>?_)
 ·obtain⟨rfl,_⟩:=h;rfl
 ·obtain @⟨p,v,d,rfl,r,D,q⟩:=h
  have G:aQ 3 _:=X;have t:aQ 1 _:=G.mono (by decide)
  refine⟨_,aF (bf (cI (b6 (aP S t (aa (pv 0) af)))) (aA (aO eH)) bw)
   (aF (bf (bC di (aW bR (pv 0) au) bO (bh _)) (aA (aO (cY (eU di (aS cT rfl B.len cG (aa (pv 0) af)) au (bh _)) (fy (aP GW t (aa (aW bR (pv 0) au) af)))))) bw)
   (aF (bf (bC di (aW bR (pv 0) au) bO (bh _)) (aA (aO (cY (eU di (aS cT rfl B.len cG (aa (pv 0) af)) au (bh _)) (cY (aP T t (aa (aW bR (pv 0) au) af)) (fy (aP GW t (aa (aW bR (pv 0) au) af))))))) bw)
   (aA (aO (cY (eU (BA K rfl) (aW bR (pv 0) au) (cZ (aa bO (aa bO af))) rfl) (cY (eU di (aS cT rfl B.len cG (aa (pv 0) af)) au (bh _)) (fy (aP W G (aa (aW bR (pv 0) au) af))))))))),?_⟩
  refine⟨_,rfl,lU.mk rfl r ⟨_,rfl,?_⟩⟩;have l:=q _ (ao.refl _);cases I:jD d with
  |false=>rw[J7 I]at l;exact l
  |true =>
   obtain⟨x,ds,rfl⟩:=Bq I;obtain⟨a,vs,rfl,yb,b,J⟩:=pS r;obtain⟨u,us,rfl,Y,y⟩:=jm J;obtain rfl:=gK Y;have xa:=y.length;clear J;refine⟨_,rfl,a,_,0,_,rfl,rfl,aE.of b,dZ,rfl,_,rfl,?_⟩;rw[lT];have z:∀k:Int,decide (V.int (((V.str x::us).length:Nat):Int)=V.int k)=decide ((ds.length:Int)+1=k):=λk=>by
    rw[cD,xa];exact rF.mpr ⟨λe=>by injection e with e,λe=>by rw[<-e];exact c4 V.int (wc _ _)⟩
   cases U:(x == "plain") with
   |true =>
    refine⟨_,rfl,a,_,rfl,.inr (aE.of b),rfl,_,rfl,?_⟩;rw[z]
    by_cases m:ds.length=1
    ·obtain⟨e,rfl⟩:=v7.mp m
     obtain⟨L,M,rfl,n,C⟩:=jm y;refine ite_tt (bq (by omega)) ?_
     rw[show eW (.tuple [.str x,e])=gv e by simp only[eW,U];rfl]at l
     exact⟨_,rfl,a,_,1,_,rfl,rfl,aE.of b,gg,ib.mk rfl n l⟩
    ·rw[I9 U m]at l
     refine ite_ff (a' (by omega)) ?_
     exact l
   |false =>
    refine⟨_,rfl,a,_,0,_,rfl,rfl,aE.of b,dZ,rfl,_,rfl,?_⟩;rw[lT];cases h2:(x == "ahead") with
    |true =>
     refine⟨_,rfl,a,_,rfl,.inr (aE.of b),rfl,_,rfl,?_⟩;rw[z]
     by_cases m:ds.length=2
     ·obtain⟨e,g,rfl⟩:∃e g,ds=[e,g]:=by match ds,m with | [e,g],_=>exact⟨e,g,rfl⟩
      obtain⟨L,M,rfl,n,C⟩:=jm y;obtain⟨zb,xc,rfl,ya,yc⟩:=jm C;refine ite_tt (bq (by omega)) ?_
      refine⟨_,rfl,a,_,1,_,rfl,rfl,aE.of b,gg,eF.mk rfl n (D.tup e (a8 _ aT)).str λH1 j=>⟨_,rfl,?_⟩⟩;have i:=q _ j;rw[show eW (.tuple [.str x,e,g])=(cu e&&gv g) by simp only[eW,h2,Gv]]at i
      cases N:cu e with
      |false=>rw[N]at i;exact i
      |true=>rw[N]at i;exact⟨_,rfl,a,_,2,_,rfl,rfl,aE.of (j _ _ b),l',ib.mk rfl (Dt.same ya j) i⟩
     ·rw[I' U h2 m]at l
      refine ite_ff (a' (by omega)) ?_
      exact l
    |false =>
     refine⟨_,rfl,a,_,0,_,rfl,rfl,aE.of b,dZ,dc,λc za=>?_⟩;have j:=ay (o:=.tup [V.str "behind",V.str "shut"]) za;refine⟨c,_,rfl,.inr (aE.of ah),rfl,h7 ["behind","shut"],_,rfl,?_⟩;rw[ak bX,show mv (V.str x) [V.str "behind",V.str "shut"]=(x == "behind" || x == "shut") from My];have i:=q _ j;cases O:(x == "behind" || x == "shut") with
     |false =>
      rw[show eW (.tuple (.str x::ds))=false by
       match ds with
       |[]=>rfl
       |[e]=>simp only[eW,U,h2,O];rfl
       |[e,g]=>simp only[eW,h2];rfl
       |_::_::_::_=>rfl]at i
      exact i
     |true =>
      refine⟨_,rfl,a,_,rfl,.inr (aE.of (j _ _ b)),rfl,_,rfl,?_⟩;rw[z]
      by_cases m:ds.length=1
      ·obtain⟨e,rfl⟩:=v7.mp m
       obtain⟨L,M,rfl,n,C⟩:=jm y;refine ite_tt (bq (by omega)) ?_
       refine⟨_,rfl,a,_,1,_,rfl,rfl,aE.of (j _ _ b),gg,pT.mk rfl (Dt.same n j) (D.tup e (a8 _ aT)) λH2 xb=>?_⟩;have R:=q _ (j.trans xb);rw[show eW (.tuple [.str x,e])=ki e by simp only[eW,U,h2,O];rfl]at R
       exact R
      ·rw[Kc h2 m]at i
       refine ite_ff (a' (by omega)) ?_
       exact i
end eL
namespace L2
open W
theorem Rep.tupI{ds:am UA}(r:Rep H v (.tuple ds)):∃a vs,v=.ref a/\H a=bi vs/\bL H vs ds:=by
 cases r with
 |tup e b=>exact⟨_,_,rfl,e,b⟩
theorem Rep.i2(r:Rep H v (.str x)):v=.str x:=by cases r;rfl
theorem Rep.jE{x:Int}(r:Rep H v (.int x)):v=.int x:=by cases r;rfl
theorem bL.ij{d:UA}{ds:am UA}(r:bL H vs (d::ds)):∃v ws,vs=v::ws/\Rep H v d/\bL H ws ds:=by
 cases r with
 |cons a b=>exact⟨_,_,rfl,a,b⟩
theorem bL.n4(r:bL H vs []):vs=[]:=by cases r;rfl
theorem bL.length{H:Hp}:∀{vs:am V}{ds:am UA},bL H vs ds->vs.length=ds.length
 |_,_,.nil=>rfl
 |_,_,.cons _ a=>by rw[cD,cD,bL.length a]
end L2
namespace eL
open L2 W HT
def n5:UA->F4|.tuple (.str s::_)=>s|_ => ""
def VE:UA->Int|.tuple [_,.int n]=>n|_=>0
def n6:UA->F4|.tuple [_,.str x]=>x|_ => ""
def uq:UA->List UA
 |.tuple [_,.tuple ds]=>ds
 |.tuple [_,.str x,.int n]=>[.tuple [.str "ask",.str x],.tuple [.str "add",.int n]]
 |.tuple [_,.int n]=>[.tuple [.str "add",.int n]]
 |_=>[]
inductive eg:UA->Prop where
 |add (n:Int) (h:n.natAbs<=10 ^ 18):eg (.tuple [.str "add",.int n])
 |times (n:Int) (lo : -9<=n) (hi:n<=9):eg (.tuple [.str "times",.int n])
 |lO:eg (.tuple [.str "onward"])
 |ask (x:F4) (h:Nm x):eg (.tuple [.str "ask",.str x])
inductive Ent:UA->Prop where
 |plain (n:Int) (h:n.natAbs<=10 ^ 18):Ent (.tuple [.str "plain",.int n])
 |ahead (x:F4) (n:Int) (h:Nm x) (hn:n.natAbs<=10 ^ 18):Ent (.tuple [.str "ahead",.str x,.int n])
 |behind (ds:List UA) (h4:ds.length<=4) (hs:∀d∈ds,eg d):Ent (.tuple [.str "behind",.tuple ds])
 |ma (ds:List UA) (h4:ds.length<=4) (hs:∀d∈ds,eg d):Ent (.tuple [.str "shut",.tuple ds])
theorem two1{s:F4}{d:UA}(r:Rep H v (.tuple [.str s,d])):∃a u,v=.ref a/\H a=bi [.str s,u]/\Rep H u d:=by
 obtain⟨a,vs,rfl,c,b⟩:=r.tupI;obtain⟨h,i,rfl,e,b⟩:=b.ij;obtain⟨f,j,rfl,g,b⟩:=b.ij;obtain rfl:=b.n4;obtain rfl:=e.i2;exact⟨a,f,rfl,c,g⟩
theorem eg.keep{d:UA}(s:eg d)(r:Rep H v d)(k:∀b xs,H b=bi xs->Y b=bi xs):Rep Y v d:=by
 cases s with
 |add n =>
  obtain⟨a,u,rfl,c,e⟩:=two1 r;obtain rfl:=e.jE;exact .tup (k _ _ c) (.cons (.str _) (.cons (.int _) .nil))
 |times n =>
  obtain⟨a,u,rfl,c,e⟩:=two1 r;obtain rfl:=e.jE;exact .tup (k _ _ c) (.cons (.str _) (.cons (.int _) .nil))
 |ask x =>
  obtain⟨a,u,rfl,c,e⟩:=two1 r;obtain rfl:=e.i2;exact .tup (k _ _ c) (.cons (.str _) (.cons (.str _) .nil))
 |lO =>
  obtain⟨a,vs,rfl,c,f⟩:=r.tupI;obtain⟨h,i,rfl,g,f⟩:=f.ij;obtain rfl:=f.n4;obtain rfl:=g.i2;exact .tup (k _ _ c) (.cons (.str _) .nil)
theorem sh(k:∀b xs,H b=bi xs->Y b=bi xs){ds:am UA}(r:bL H vs ds)(h:∀d∈ds,eg d):bL Y vs ds:=by
 induction vs generalizing ds with
 |nil=>cases r;exact .nil
 |cons x xs a=>cases r with|cons r c=>exact .cons ((h _ aT).keep r k) (a c λd e=>h d (a8 _ e))
theorem Ent.keep{d:UA}(s:Ent d)(r:Rep H v d)(k:∀b xs,H b=bi xs->Y b=bi xs):Rep Y v d:=by
 cases s with
 |plain n =>
  obtain⟨a,u,rfl,e,f⟩:=two1 r;obtain rfl:=f.jE;exact .tup (k _ _ e) (.cons (.str _) (.cons (.int _) .nil))
 |ahead x n =>
  obtain⟨a,vs,rfl,e,c⟩:=r.tupI;obtain⟨l,m,rfl,h,c⟩:=c.ij;obtain⟨o,p,rfl,f,c⟩:=c.ij;obtain⟨q,t,rfl,i,c⟩:=c.ij;obtain rfl:=c.n4;obtain rfl:=h.i2;obtain rfl:=f.i2;obtain rfl:=i.jE;exact .tup (k _ _ e) (.cons (.str _) (.cons (.str _) (.cons (.int _) .nil)))
 |behind ds j hs =>
  obtain⟨a,u,rfl,e,f⟩:=two1 r;obtain⟨b,vs,rfl,g,c⟩:=f.tupI;exact .tup (k _ _ e) (.cons (.str _) (.cons (.tup (k _ _ g) (sh k c hs)) .nil))
 |ma ds j hs =>
  obtain⟨a,u,rfl,e,f⟩:=two1 r;obtain⟨b,vs,rfl,g,c⟩:=f.tupI;exact .tup (k _ _ e) (.cons (.str _) (.cons (.tup (k _ _ g) (sh k c hs)) .nil))
theorem Lm(a:c7 p H)(c:br p H Y):∀b xs,H b=bi xs->Y b=bi xs:=λb xs e=>by
 obtain⟨x,y,d,_⟩:=a;exact c.kp b _ e (bx e d)
theorem GZ{ds:am UA}{d:UA}(h:bL H vs ds)(r:Rep H v d):bL H (vs++[v]) (ds++[d]):=by
 induction vs generalizing ds with
 |nil=>cases h;exact .cons r .nil
 |cons x xs b=>cases h with|cons a c=>exact .cons a (b c)
inductive iV(vs:List V)(H:Hp)(Q:VK)(E:XK):Prop
 |mk{p:FG}(_:vs=[.ref p])(_:c7 p H)(_:∀(n:Int) (Y:Hp),n.natAbs<=10 ^ 18->br p H Y->Q (.int n) Y):iV vs H Q E
noncomputable abbrev Pb:List F4:=["_law_pot_here","_law_near","_law_far"]
theorem ur:bg Pb ["_law_pot_here"] (aH tq):=bB
theorem Mz(F:aR K "_law_number" "_law_number" tq f fd)
  (g:aY P w K mg base aC 1 fD dD ["_law_pot_here","_law_many"] hh "_law_digit"):aU P w K mg base aC 2 f fd ["_law_pot_here"] iV:=by
 refine F.cz ur λQc A outer s H vs Q E x h=>?_
 ·obtain @⟨p,rfl,y,q⟩:=h
  have e:aQ 1 _:=x;intro X;refine⟨_,aF (bt 1 ur.nd (bF ke (aP g e (aa (pv 0) (aa au af))) au))
   (aF (bt 2 ur.nd (bF f7 (bF ke (aP g e (aa (pv 0) (aa (bF ke (bF pJ au (bF tP au au)) au) af))) (bF tP au au)) au))
   (aA (aO (aW c6 (ea (aa (pv 1) (aa (pv 1) (aa au (aa (pv 2) af))))) (aP g e (aa (pv 0) (aa au af))))))),?_⟩
  refine ag rfl (cA (p:=p) (m:=41) y (by decide) (by decide) λk H1 G I i=>⟨_,_,rfl,rfl,?_⟩)
  refine ag rfl ⟨_,_,rfl,rfl,⟨by decide,by decide,by decide⟩,_,_,rfl,rfl,.inl ⟨by decide,by decide⟩,_,_,rfl,rfl,?_⟩
  refine cA (p:=p) (m:=2 * 10 ^ (18:Int).toNat - 1) i.ok (by decide) (by decide) λz H2 b0 b1 p2=>⟨_,_,rfl,rfl,⟨by decide,by decide,by decide⟩,_,_,rfl,rfl,_,_,rfl,rfl,?_⟩
  refine ed rfl rfl rfl ⟨by show 4<=UJ;rw[aJ];decide,λc l=>?_⟩
  have r:=(i.trans p2).new (o:=.lst [.int (k - 20),.int (k - 20),.int 0,.int (z - 10 ^ (18:Int).toNat+1)]) l;refine ag rfl (cA (p:=p) (m:=4) r.ok (by decide) (by decide) λJ t B L u=>?_)
  have v:c≠p:=a7 ((i.trans p2).ok.ne l);have d:=u.kp _ _ ah v;obtain⟨j,rfl⟩:=f5 B;have a:(10:Int) ^ (18:Int).toNat=1000000000000000000:=rfl;have b:∀n:Int,n.natAbs<=10 ^ 18->Q (.int n) t:=λn C=>q n t C (r.trans u);have D:j=0\/j=1\/j=2\/j=3:=by omega
  rcases D with rfl|rfl|rfl|rfl
  ·exact⟨c,_,((0:Nat):Int),_,rfl,rfl,aq.of d,b2 rfl,b _ (by first|omega|(rw[a]at b1⊢;omega))⟩
  ·exact⟨c,_,((1:Nat):Int),_,rfl,rfl,aq.of d,b2 rfl,b _ (by first|omega|(rw[a]at b1⊢;omega))⟩
  ·exact⟨c,_,((2:Nat):Int),_,rfl,rfl,aq.of d,b2 rfl,b _ (by first|omega|(rw[a]at b1⊢;omega))⟩
  ·exact⟨c,_,((3:Nat):Int),_,rfl,rfl,aq.of d,b2 rfl,b _ (by first|omega|(rw[a]at b1⊢;omega))⟩
inductive qe(vs:List V)(H:Hp)(Q:VK)(E:XK):Prop
 |mk{p l:FG}{ys:List F4}{k:Nat}(_:vs=[.ref p,.ref l,.int k])(_:c7 p H)(_:H l=ih (.lst (ys.map V.str)))(_:ys ≠ [])(_:ys.length<=20)(_:(∀y∈ys,Nm y))(_:∀(v:V) (d:UA) (Y:Hp),br p H Y->Rep Y v d->eg d->(n5 d = "ask" -> n6 d∈ys)->Q v Y):qe vs H Q E
noncomputable abbrev Pc:List F4:=["_law_pot_here","_law_names_here","_law_at","_law_way","_law_later"]
theorem qf:bg Pc ["_law_pot_here","_law_names_here","_law_at"] (aH uj):=bB
theorem MA(F:aR K "_law_step" "_law_step" uj f fd)(B:b7 mg)
  (C:aY P w K mg base aC 1 fD dD ["_law_pot_here","_law_many"] hh "_law_digit")
  (ye:aY P w K mg base aC 2 fN dN ["_law_pot_here"] iV "_law_number"):aU P w K mg base aC 3 f fd ["_law_pot_here","_law_names_here","_law_at"] qe:=by
 refine F.cz qf λQc A outer s H vs Q E za h=>?_
 ·obtain @⟨p,l,ys,k,rfl,xb,D,ne,W,O,q⟩:=h
  have ze:=za.units;have Y:aQ 2 _:=za;have u:aQ 1 _:=Y.mono (by decide)
  intro X;refine⟨_,aF (bt 3 qf.nd (aP C u (aa (pv 0) (aa au af))))
   (aF (bf (bC di (pv 3) au (bh _)) (aA (aO (cZ (aa bO (aa (aP ye Y (aa (pv 0) af)) af))))) bw)
   (aF (bf (bC di (pv 3) au (bh _)) (aA (aO (cZ (aa bO (aa (bF ke (aP C u (aa (pv 0) (aa au af))) au) af))))) bw)
   (aF (bf (bC kj (pv 3) au (bh _)) (aA (aO (cZ (aa bO af)))) bw)
   (aF (bt 4 qf.nd (lx pk (pv 1) (lH (bF f7 (pv 2) au)) lG))
   (aF (bf (PW.pt (pw_or (bC (tR ze) (pv 4) (ea af) (bh _)) (pw_or1 (bC di (aP C u (aa (pv 0) (aa au af))) au (bh _))))) (aA (bt 4 qf.nd (pv 1))) bw)
   (aA (aO (cZ (aa bO (aa (aW c6 (pv 4) (aP C u (aa (pv 0) (aa (aS cT rfl B.len cG (aa (pv 4) af)) af)))) af)))))))))),?_⟩
  refine ag rfl (cA (p:=p) (m:=6) xb (by decide) (by decide) λzf H1 xg yg e=>?_)
  refine ag rfl ⟨rfl,_,rfl,?_⟩;refine dm (λh0=>?_) (λh0=>?_)
  ·refine ag rfl (iV.mk rfl e.ok λn H2 xf p2=>⟨dc,λt a=>?_⟩)
   exact q _ _ _ ((e.trans p2).new a) (.tup ah (.cons (.str _) (.cons (.int _) .nil))) (.add n xf) (λz=>absurd z (by show ¬ ((("add" : F4)) = "ask");decide +kernel))
  refine ag rfl ⟨rfl,_,rfl,?_⟩;refine dm (λU=>?_) (λU=>?_)
  ·refine ag rfl (cA (p:=p) (m:=19) e.ok (by decide) (by decide) λn H2 b0 b1 p2=>⟨_,_,rfl,rfl,dc,λt a=>?_⟩)
   exact q _ _ _ ((e.trans p2).new a) (.tup ah (.cons (.str _) (.cons (.int _) .nil))) (.times (n - 9) (by omega) (by omega)) (λz=>absurd z (by show ¬ ((("times" : F4)) = "ask");decide +kernel))
  refine ag rfl ⟨_,_,rfl,rfl,_,rfl,?_⟩;refine dm (λh2=>?_) (λh2=>?_)
  ·refine⟨c0,λt a=>?_⟩
   exact q _ _ _ (e.new a) (.tup ah (.cons (.str _) .nil)) .lO (λz=>absurd z (by show ¬ ((("onward" : F4)) = "ask");decide +kernel))
  have I:l≠p:=gI xb D;refine bj rfl rfl ⟨_,_,rfl,rfl,_,rfl,l,_,rfl,aq.of (e.kp _ _ D I),λc yf=>?_⟩;have xd:fl (ys.map V.str) (ih ((k:Int)+1)) none=(ys.drop (k+1)).map V.str:=by
   rw[aaG];exact Bl (ys.map V.str) (k+1)
  rw[xd];have p2:=e.new (o:=.lst ((ys.drop (k+1)).map V.str)) yf;have v:upd H1 c (.lst ((ys.drop (k+1)).map V.str)) c=bn ((ys.drop (k+1)).map V.str):=ah;generalize upd H1 c (.lst ((ys.drop (k+1)).map V.str))=H2 at p2 v⊢;have J:∀y∈ys.drop (k+1),Nm y:=λy R=>O y (VB R);have dl:(ys.drop (k+1)).length<=ys.length:=by rw[vj];omega
  have S:∀y∈ys.drop (k+1),y∈ys:=λy R=>VB R;generalize ys.drop (k+1)=zs at v J dl S;refine ag rfl ⟨ba _,λG xa=>?_⟩;have d:=p2.new (o:=.lst []) xa;have x:upd H2 G (.lst []) c=bn (zs.map V.str):=by rw[ai (aB v xa)];exact v
  have ya:upd H2 G (.lst []) G=bn []:=ah;generalize upd H2 G (.lst [])=zg at d x ya⊢;refine eq_nil x ya J (ag rfl ?_);have L:=d.kp _ _ D I;refine dm (λyb=>?_) (λyb=>?_)
  ·refine ag rfl ?_
   refine ed rfl rfl rfl ⟨l,_,rfl,.inl (aq.of L),?_⟩;rw[ar];have T:0<ys.length:=mK.mpr ne;have yd:ys.length<=20:=W;refine cA (p:=p) (m:=(ys.length:Int)) d.ok (by omega) (by omega) λzb xc i yc p5=>?_
   obtain⟨j,rfl⟩:=f5 i;have b:j<ys.length:=by omega
   have r:=p5.kp _ _ L (gI d.ok L);refine⟨l,_,(j:Int),.str ys[j],rfl,rfl,aq.of r,b2 (by rw[cx,bA b];rfl),dc,λt a=>?_⟩
   exact q _ _ _ ((d.trans p5).new a) (.tup ah (.cons (.str _) (.cons (.str _) .nil))) (.ask _ (O _ (dz b))) (λ_=>dz b)
  have zd:zs ≠ []:=λz=>yb (by simp[z])
  refine ag rfl (cA (p:=p) (m:=4) d.ok (by decide) (by decide) λxh yh b0 b1 zc=>⟨rfl,_,rfl,?_⟩)
  have g:=d.trans zc;have M:=g.kp _ _ D I;have N:=zc.kp _ _ x (gI d.ok x);refine dm (λxe=>?_) (λxe=>?_)
  ·refine ag rfl ?_
   refine ed rfl rfl rfl ⟨l,_,rfl,.inl (aq.of M),?_⟩;rw[ar];have T:0<ys.length:=mK.mpr ne;have yd:ys.length<=20:=W;refine cA (p:=p) (m:=(ys.length:Int)) g.ok (by omega) (by omega) λzb xc i yc p5=>?_
   obtain⟨j,rfl⟩:=f5 i;have b:j<ys.length:=by omega
   have r:=p5.kp _ _ M (gI g.ok M);refine⟨l,_,(j:Int),.str ys[j],rfl,rfl,aq.of r,b2 (by rw[cx,bA b];rfl),dc,λt a=>?_⟩
   exact q _ _ _ ((g.trans p5).new a) (.tup ah (.cons (.str _) (.cons (.str _) .nil))) (.ask _ (O _ (dz b))) (λ_=>dz b)
  ·refine ed rfl rfl rfl ⟨c,_,rfl,.inl (aq.of N),?_⟩
   rw[ar];have T:0<zs.length:=mK.mpr zd;refine cA (p:=p) (m:=(zs.length:Int)) g.ok (by omega) (by omega) λzb xc i yc p5=>?_
   obtain⟨j,rfl⟩:=f5 i;have b:j<zs.length:=by omega
   have r:=p5.kp _ _ N (gI g.ok N);refine⟨c,_,(j:Int),.str zs[j],rfl,rfl,aq.of r,b2 (by rw[cx,bA b];rfl),dc,λt a=>?_⟩
   exact q _ _ _ ((g.trans p5).new a) (.tup ah (.cons (.str _) (.cons (.str _) .nil))) (.ask _ (J _ (dz b))) (λ_=>S _ (dz b))
inductive qg(vs:List V)(H:Hp)(Q:VK)(E:XK):Prop
 |mk{p l:FG}{ys:List F4}{k:Nat}(_:vs=[.ref p,.ref l,.int k])(_:c7 p H)(_:H l=ih (.lst (ys.map V.str)))(_:ys ≠ [])(_:ys.length<=20)(_:(∀y∈ys,Nm y))(_:∀(v:V) (d:UA) (Y:Hp),br p H Y->Rep Y v d->Ent d->(∀s∈uq d,n5 s = "ask" -> n6 s∈ys)->Q v Y):qg vs H Q E
noncomputable abbrev D2:List F4:=["_law_pot_here","_law_names_here","_law_at","_law_way","_law_steps"]
theorem uu:bg D2 ["_law_pot_here","_law_names_here","_law_at"] (aH nI):=bB
abbrev Pd:Vo:=c9 (e4 (bH (bE nI) 3))
theorem C4:bJ D2 (aH nI) ["_law_turn","_law_pot_here","_law_names_here","_law_at"] [none,ih 0,ih 1,ih 2] (bS Pd):=cJ
theorem MB(F:aR K "_law_entry" "_law_entry" nI f fd)(B:b7 mg)
  (ya:aY P w K mg base aC 1 fD dD ["_law_pot_here","_law_many"] hh "_law_digit")
  (yg:aY P w K mg base aC 2 fN dN ["_law_pot_here"] iV "_law_number")
  (yj:aY P w K mg base aC 3 fS dS ["_law_pot_here","_law_names_here","_law_at"] qe "_law_step"):aU P w K mg base aC 4 f fd ["_law_pot_here","_law_names_here","_law_at"] qg:=by
 refine F.cz uu λQc A outer s H vs Q E zj h=>?_
 ·obtain @⟨p,l,ys,k,rfl,zg,za,ne,xj,xh,q⟩:=h
  have xe:aQ 3 _:=zj;have Y:aQ 2 _:=xe.mono (by decide)
  have xa:aQ 1 _:=Y.mono (by decide)
  intro X;refine⟨_,aF (bt 3 uu.nd (aP ya xa (aa (pv 0) (aa au af))))
   (aF (bf (bC di (pv 3) au (bh _)) (aA (aO (cZ (aa bO (aa (aP yg Y (aa (pv 0) af)) af))))) bw)
   (aF (bf (bC di (pv 3) au (bh _)) (aA (aO (cZ (aa bO (aa (aW c6 (pv 1) (bF lL (bF f7 (bF f7 (pv 2) au) (aP ya xa (aa (pv 0) (aa (aS cT rfl B.len cG (aa (pv 1) af)) af)))) (aS cT rfl B.len cG (aa (pv 1) af)))) (aa (aP yg Y (aa (pv 0) af)) af)))))) bw)
   (aF (bt 4 uu.nd (dX iH rfl B.tuple boot_tuple (aa (cj rfl C4 (j3 rfl B.range (aa (aP ya xa (aa (pv 0) (aa au af))) af)) (λs H fp=>⟨a4 0 C4.nd,cP,aP yj xe (aa (pv 1) (aa (pv 2) (aa (pv 3) af)))⟩)) af)))
   (aA (aO (cZ (aa (aW c6 (ea (aa bO (aa bO (aa bO af)))) (bF ke (pv 3) au)) (aa (pv 4) af)))))))),?_⟩
  have L:l≠p:=gI zg za;have xm:0<ys.length:=mK.mpr ne;refine ag rfl (cA (p:=p) (m:=5) zg (by decide) (by decide) λG H1 ym zm r=>?_)
  refine ag rfl ⟨rfl,_,rfl,?_⟩;refine dm (λh0=>?_) (λh0=>?_)
  ·refine ag rfl (iV.mk rfl r.ok λn H2 xb p2=>⟨dc,λt a=>?_⟩)
   exact q _ _ _ ((r.trans p2).new a) (.tup ah (.cons (.str _) (.cons (.int _) .nil))) (.plain n xb) (λs hs=>by rw[b9.mp hs];exact λz=>absurd z (by show ¬ ((("add" : F4)) = "ask");decide +kernel))
  have ye:=r.kp _ _ za L;refine ag rfl ⟨rfl,_,rfl,?_⟩;refine dm (λU=>?_) (λU=>?_)
  ·refine bj rfl rfl ⟨_,_,rfl,rfl,_,rfl,_,rfl,l,_,rfl,.inl (aq.of ye),?_⟩
   rw[ar];refine cA (p:=p) (m:=(ys.length:Int)) r.ok (by omega) (by omega) λyb H2 b0 b1 p2=>?_
   have M:=p2.kp _ _ ye L;refine⟨_,_,rfl,rfl,_,rfl,l,_,rfl,.inl (aq.of M),_,_,rfl,rfl,by rw[ar];omega,?_⟩
   rw[ar];obtain⟨j,yh⟩:=f5 (v9 ((k:Int)+1+yb) (show(ys.length:Int)≠0 by omega))
   have I:j<ys.length:=by
    have:=v' ((k:Int)+1+yb) (show(0:Int)<(ys.length:Int) by omega)
    rw[yh]at this;omega
   refine⟨l,_,(j:Int),.str ys[j],rfl,(c4 V.int yh:V.int (((k:Int)+1+yb) % (ys.length:Int))=V.int (j:Int)),aq.of M,b2 (by rw[cx,bA I];rfl),_,rfl,iV.mk rfl p2.ok λn xn xb xk=>⟨hT,λt a=>?_⟩⟩
   exact q _ _ _ (((r.trans p2).trans xk).new a) (.tup ah (.cons (.str _) (.cons (.str _) (.cons (.int _) .nil)))) (.ahead _ n (xh _ (dz I)) xb) (λs hs=>by
    rcases bu.mp hs with z|z
    ·rw[z];exact λ_=>dz I
    ·rw[b9.mp z];exact λz=>absurd z (by show ¬ ((("add" : F4)) = "ask");decide +kernel))
  have yk:G=2\/G=3\/G=4:=by
   have yn:G≠0:=λz=>h0 (by rw[z];rfl)
   have zn:G≠1:=λz=>U (by rw[z];rfl)
   omega
  refine ag rfl (cA (p:=p) (m:=5) r.ok (by decide) (by decide) λdn H2 b0 b1 p2=>⟨dn,rfl,by omega,by omega,λc zb=>?_⟩)
  have S:=r.trans p2;have ze:p≠c:=S.ok.ne zb;have M:=S.kp _ _ za L;refine rQ (λi zs T g=>∃(ds:am UA) (xc:ap V),T=[xc,bd p,bd l,ih (.int (k:Int))]/\bL g zs ds/\ds.length=i/\(∀d∈ds,eg d)/\(∀d∈ds,n5 d = "ask" -> n6 d∈ys)/\br p H2 g/\g c=bn zs)
   ⟨[],none,rfl,.nil,rfl,(λd yc=>by cases yc),(λd yc=>by cases yc),(br.refl S.ok).new zb,ah⟩ (λi zs T g ab=>by obtain⟨_,_,_,_,_,_,_,_,z⟩:=ab;exact z) ?_ ?_
  ·rintro j zs T g I ⟨ds,xc,rfl,W,dl,u,D,y,zc⟩
   refine ed rfl rfl rfl (qe.mk rfl y.ok (y.kp _ _ M L) ne xj xh λv d J xd zk zh xl=>?_);have xf:=xd.kp _ _ zc (a7 ze);have xi:∀b xs,J b=bi xs->upd J c (.lst (zs++[v])) b=bi xs:=λb xs e=>by rw[ai (bx e xf)];exact e
   refine⟨xf,by rw[W.length,dl,aJ];omega,cw_next I ⟨ds++[d],_,rfl,GZ (sh (λb xs e=>xi b xs (Lm y.ok xd b xs e)) W u) (zh.keep zk xi),by rw[df,dl];rfl,λx yd=>?_,λx yd=>?_,(y.trans xd).write zb ze,ah⟩⟩
   ·rcases cw.mp yd with z|z
    ·exact u x z
    ·rw[b9.mp z];exact zh
   ·rcases cw.mp yd with z|z
    ·exact D x z
    ·rw[b9.mp z];exact xl
  rintro zs T g ⟨ds,xc,rfl,W,dl,u,D,y,zc⟩;refine⟨c,_,rfl,.inl ⟨aq.of zc,λb yi=>?_⟩⟩;have yl:=S.trans y;have p5:=yl.new (o:=.tup zs) yi;have zl:=ay (o:=.tup zs) yi;have yf:upd g b (.tup zs) b=bi zs:=ah;have zf:=bL.same W zl;generalize upd g b (.tup zs)=J at p5 yf zf⊢;refine⟨hT,λC xg=>?_⟩;have p6:=p5.new (o:=.lst [V.str "behind",V.str "behind",V.str "shut"]) xg;have zi:=ay (o:=.lst [V.str "behind",V.str "behind",V.str "shut"]) xg;have N:upd J C (.lst [V.str "behind",V.str "behind",V.str "shut"]) C=bn [V.str "behind",V.str "behind",V.str "shut"]:=ah;have O:=zi _ _ yf;have R:=bL.same zf zi;generalize upd J C (.lst [V.str "behind",V.str "behind",V.str "shut"])=xo at p6 N O R⊢;have zd:ds.length<=4:=by omega
  refine ag rfl ⟨_,_,rfl,rfl,?_⟩;rcases yk with rfl|rfl|rfl
  ·refine⟨C,_,((0:Nat):Int),.str "behind",rfl,rfl,aq.of N,b2 rfl,_,rfl,dc,λt a=>?_⟩
   exact q _ _ _ (p6.new a) (.tup ah (.cons (.str _) (.cons (.tup ((ay a) _ _ O) (bL.same R (ay a))) .nil))) (.behind ds zd u) D
  ·refine⟨C,_,((1:Nat):Int),.str "behind",rfl,rfl,aq.of N,b2 rfl,_,rfl,dc,λt a=>?_⟩
   exact q _ _ _ (p6.new a) (.tup ah (.cons (.str _) (.cons (.tup ((ay a) _ _ O) (bL.same R (ay a))) .nil))) (.behind ds zd u) D
  ·refine⟨C,_,((2:Nat):Int),.str "shut",rfl,rfl,aq.of N,b2 rfl,_,rfl,dc,λt a=>?_⟩
   exact q _ _ _ (p6.new a) (.tup ah (.cons (.str _) (.cons (.tup ((ay a) _ _ O) (bL.same R (ay a))) .nil))) (.ma ds zd u) D
abbrev Bk:=List (F4×F4×UA)
def eY(p:F4×F4×UA):List F4:=[p.1,p.2.1]
def kT(p:F4×F4×UA):UA:=.tuple [.str p.1,.str p.2.1,p.2.2]
def b'(H:Hp)(vs:List V)(bk:Bk):Prop:=XU (λv p=>∃a u,v=V.ref a/\H a=ih (.tup [.str p.1,.str p.2.1,u])/\Rep H u p.2.2) vs bk
structure kD(bk:Bk):Prop where
 nm:∀p∈bk,Nm p.1/\Nm p.2.1
 ent:∀p∈bk,Ent p.2.2
 nd:(bk.map eY).Nodup
 bN:bk.length<=48
theorem b'.keep(k:∀b xs,H b=bi xs->Y b=bi xs){bk:Bk}(h:b' H vs bk)(c:∀p∈bk,Ent p.2.2):b' Y vs bk:=L2.Paired.uF h λv p d x=>by obtain⟨a,u,e,h,r⟩:=x;exact⟨a,u,e,k _ _ h,(c p d).keep r k⟩
theorem b'.same(S:ao H Y){bk:Bk}(h:b' H vs bk):b' Y vs bk:=Paired.imp' (λv p x=>by obtain⟨a,u,e,h,r⟩:=x;exact⟨a,u,e,S _ _ h,r.same S⟩) h
theorem b'.length{bk:Bk}(h:b' H vs bk):vs.length=bk.length:=cC h
theorem b'.append{u:V}{p:F4×F4×UA}(b:H a=bi [.str p.1,.str p.2.1,u])(r:Rep H u p.2.2){bk:Bk}(h:b' H vs bk):b' H (vs++[.ref a]) (bk++[p]):=gY h ⟨a,u,rfl,b,r⟩
theorem b'.rep{bk:Bk}(h:b' H vs bk):bL H vs (bk.map kT):=by
 induction h with
 |nil=>exact .nil
 |cons x _ b=>obtain⟨a,u,e,h,r⟩:=x;subst e;exact .cons (.tup h (.cons (.str _) (.cons (.str _) (.cons r .nil)))) b
theorem b'.keyed{bk:Bk}(h:b' H vs bk):∃kvs,dh H 2 vs kvs/\kvs.map (·.1)=bk.map eY:=by
 induction h with
 |nil=>exact⟨[],.nil,rfl⟩
 |cons x _ b =>
  obtain⟨a,u,e,h,r⟩:=x;obtain⟨kvs,U,h2⟩:=b;exact⟨(eY _,[u])::kvs,.cons ⟨a,e,h,rfl⟩ U,by rw[bD,bD,h2]⟩
theorem Ja{bk:Bk}{kvs:am (List F4×List V)}(h:b' H vs bk)(h':dh H 2 vs kvs):kvs.map (·.1)=bk.map eY:=L2.Paired.both h (λv p c x y=>by
 obtain⟨a,u,e,q,r⟩:=x;obtain⟨k,g,i,b⟩:=y;rw[e]at g;cases g;rw[q]at i;obtain⟨ks,rest⟩:=c;cases ks with
 |nil=>simp at b
 |cons l ks =>
  cases ks with
  |nil=>simp at b
  |cons m ks =>
   cases ks with
   |cons n ks=>simp at b
   |nil=>injection (cS i) with z;injection z with d j;injection j with f o;injection d with d;injection f with f;unfold eY;rw[d,f]) h'
theorem Ln{d:UA}(s:eg d):d.canLay0=true/\d.depth<=1:=by
 cases s with
 |add n=>exact⟨by show(XQ "add" && (true&&true))=true;decide +kernel,by simp[X2,UO]⟩
 |times n=>exact⟨by show(XQ "times" && (true&&true))=true;decide +kernel,by simp[X2,UO]⟩
 |lO=>exact⟨by decide +kernel,by decide +kernel⟩
 |ask x h =>
  refine⟨?_,by simp[X2,UO]⟩
  show(XQ "ask" && (XQ x&&true))=true;rw[iU h];decide +kernel
theorem sJ:∀{ds:am UA},(∀d∈ds,eg d)->UW ds=true/\UO ds<=1
 |[],_=>⟨rfl,by decide⟩
 |d::ds,h=>by
  obtain⟨a,c⟩:=Ln (h d aT);obtain⟨b1,e⟩:=sJ λx b=>h x (a8 _ b);refine⟨?_,?_⟩
  ·show(d.canLay0&&UW ds)=true
   rw[a,b1];rfl
  ·simp only[UO];omega
theorem Lo{d:UA}(s:Ent d):d.canLay0=true/\d.depth<=3:=by
 cases s with
 |plain n=>exact⟨by show(XQ "plain" && (true&&true))=true;decide +kernel,by simp[X2,UO]⟩
 |ahead x n h =>
  refine⟨?_,by simp[X2,UO]⟩
  show(XQ "ahead" && (XQ x&&(true&&true)))=true;rw[iU h];decide +kernel
 |behind ds a hs =>
  obtain⟨b1,b⟩:=sJ hs;refine⟨?_,?_⟩
  ·show(XQ "behind" && (UW ds&&true))=true
   rw[b1];decide +kernel
  ·simp only[X2,UO];omega
 |ma ds a hs =>
  obtain⟨b1,b⟩:=sJ hs;refine⟨?_,?_⟩
  ·show(XQ "shut" && (UW ds&&true))=true
   rw[b1];decide +kernel
  ·simp only[X2,UO];omega
theorem BX:∀{bk:Bk},(∀p∈bk,Nm p.1/\Nm p.2.1)->(∀p∈bk,Ent p.2.2)->UW (bk.map kT)=true/\UO (bk.map kT)<=4
 |[],_,_=>⟨rfl,by decide⟩
 |p::bk,h,b=>by
  obtain⟨b1,e⟩:=BX (λx a=>h x (a8 _ a)) λx a=>b x (a8 _ a);obtain⟨n1,c⟩:=h p aT;obtain⟨d,f⟩:=Lo (b p aT);refine⟨?_,?_⟩
  ·show((XQ p.1&&(XQ p.2.1&&(p.2.2.canLay0&&true)))&&UW (bk.map kT))=true
   rw[iU n1,iU c,d,b1];rfl
  ·rw[bD]
   simp only[UO,kT,X2];omega
def jQ(bk:Bk):Prop:=(bk.map eY).Pairwise λa b=>cp a b=true
theorem b'.perm{a:am V}{bk:Bk}(p:a.Perm vs)(h:b' H vs bk):∃b,b.Perm bk/\b' H a b:=oR p h
def uN(p:F4×F4×UA):List Key:=[Uz p.1,Uz p.2.1]
def d0(H:Hp)(kvs:List (List Key×V))(Qe:Bk):Prop:=XU (λkv p=>kv.1=uN p/\Rep H kv.2 p.2.2) kvs Qe
theorem d0.keep(k:∀b xs,H b=bi xs->Y b=bi xs){kvs:am (List Key×V)}{Qe:Bk}(h:d0 H kvs Qe)(a:∀p∈Qe,Ent p.2.2):d0 Y kvs Qe:=L2.Paired.uF h λv p c x=>⟨x.1,(a p c).keep x.2 k⟩
theorem d0.same(S:ao H Y){kvs:am (List Key×V)}{Qe:Bk}(h:d0 H kvs Qe):d0 Y kvs Qe:=by
 induction h with
 |nil=>exact .nil
 |cons x _ a=>exact .cons ⟨x.1,x.2.same S⟩ a
theorem d0.length{kvs:am (List Key×V)}{Qe:Bk}(h:d0 H kvs Qe):kvs.length=Qe.length:=cC h
theorem Br{p:F4×F4×UA}{k n:F4}:uN p=[Uz k,Uz n] ↔ eY p=[k,n]:=by
 unfold uN eY
 constructor
 ·intro h
  injection h with U h2;injection h2 with a _;rw[fQ U,fQ a]
 ·intro h
  injection h with U h2;injection h2 with a _;rw[U,a]
theorem d0.val{H:Hp}{k n:F4}:∀{kvs:am (List Key×V)}{Qe:Bk},d0 H kvs Qe->(bz kvs [Uz k,Uz n]=none /\ [k,n]∉ Qe.map eY) \/∃v d,bz kvs [Uz k,Uz n]=ih v/\(k,n,d)∈Qe/\Rep H v d
 |_,_,.nil=>.inl ⟨rfl,by simp⟩
 |_,_,.cons (a:=kv) (b:=p) ⟨e,r⟩ t=>by
  by_cases f:kv.1=[Uz k,Uz n]
  ·have g:=Br.mp (e.symm.trans f)
   have h:p.1=k:=by injection g
   have i:p.2.1=n:=by injection g with _ z;injection z
   exact .inr ⟨kv.2,p.2.2,e7 f,by rw[<-h,<-i];exact aT,r⟩
  ·have g:eY p ≠ [k,n]:=λz=>f (e.trans (Br.mpr z))
   rcases d0.val (k:=k) (n:=n) t with⟨a,b⟩|⟨v,d,a,b,c⟩
   ·refine .inl ⟨(ey f).trans a,λz=>?_⟩
    rw[bD]at z;rcases bu.mp z with z|z
    ·exact g z.symm
    ·exact b z
   ·exact .inr ⟨v,d,(ey f).trans a,a8 _ b,c⟩
theorem pf:∀a:am F4,cp a a=false
 |[]=>rfl
 |x::xs=>by
  unfold cp;simp[pf xs,lB]
theorem Kd{a b:Bk}(d:jQ a)(e:jQ b)(p:a.Perm b):a=b:=by
 unfold jQ at d e;rw[ff]at d e;refine vT (λx y _ _ U h2=>?_) d e p;have:=nD (a:=eY x) (b:=eY y) (c:=eY x) rfl rfl U h2;rw[pf]at this;cases this
theorem d0.snoc{k n:F4}{d:UA}(r:Rep H v d){kvs:am (List Key×V)}{Qe:Bk}(h:d0 H kvs Qe):d0 H (kvs++[([Uz k,Uz n],v)]) (Qe++[(k,n,d)]):=gY h ⟨rfl,r⟩
theorem Lp{a b:Bk}(p:a.Perm b)(ok:kD b):kD a:=
 ⟨λq c=>ok.nm q (p.mem_iff.mp c),λq c=>ok.ent q (p.mem_iff.mp c),(p.map eY).nodup_iff.mpr ok.nd,by rw[p.length_eq];exact ok.bN⟩
theorem lE(K:Yh)(h:X.K=K){k:Nat}{t:jI}(b:X.calm=true)(c:oh X es t)
  (d:(assignEach es X.env).length=n:=by rfl) (a:(assignEach es X.env).findIdx? (·.1)=none:=by rfl):PG X (.Tuple es k pos) (Dr K n t):=by subst h;exact kc b c d a
def b3(ks:List F4):UA->Bool|.str x=>cM x&&decide (x∈ks)|_=>false
theorem pF{d:UA}(h:cu d=false):b3 ks d=false:=by
 cases d with
 |str x=>show(cM x&&_)=false;rw[show cM x=false from h];rfl
 |_=>rfl
theorem sL{d:UA}(h:cu d=true):∃x,d=.str x/\cM x=true:=by
 cases d with
 |str x=>exact⟨x,rfl,h⟩
 |_=>cases h
theorem pG(h:cM x=true):Nm x:=by
 unfold eL.cM at h;simp only[gW,rB,gX]at h;exact⟨h.1,h.2.1,λc a=>h.2.2 c a⟩
theorem j5(h:Nm x):cM x=true:=by
 unfold eL.cM;rw[bq h.lo,bq h.hi,Gv,Gv,gX];intro c a;have:=h.az c a;rw[bq this.1,bq this.2];rfl
theorem AG:∀(kvs:am (F4×V)) (x:F4),(bz (fj kvs) (Uz x)).isSome=decide (x∈kvs.map (·.1))
 |[],x=>by simp[fj,bz]
 |p::kvs,x=>by
  show(bz ((Uz p.1,p.2)::fj kvs) (Uz x)).isSome=_
  by_cases e:p.1=x
  ·rw[e7 (by rw[e])];simp[e]
  ·rw[ey (λz=>e (fQ z)),AG kvs x]
   simp[bu,a7 e]
def FK(H:Hp)(t:FG)(ks:List F4):Prop:= ∃o ws kvs,H t=ih (.aX o (.tup ws))/\o.dict=none/\hC H ws kvs/\kvs.map (·.1)=ks/\ks.Nodup
theorem FK.same{t:FG}(h:FK H t ks)(S:ao H Y):FK Y t ks:=let ⟨o,ws,kvs,a,d,b,c⟩:=h;⟨o,ws,kvs,S _ _ a,d,b.same S,c⟩
structure jx(K:Yh)(mg:F4->Option i')(x:F4)(C:FG):Prop where
 q:f9 K C none=true
 kp:Yb K (.ref C)=true
 m:mg x=ih (.ref C)
 x:fA K C
def gE(C:FG)(H:Hp)(a:FG):Prop:=(∃n dx,H a=ih (fG n C dx a) /\∀d,dx=ih d ->∃fs,H d=ih (gz d fs))/\nT H (ih (.ref a))
theorem gE.plain(h:H a=ih (fG (ih .none) C none a)):gE C H a:=⟨⟨_,_,h,λd e=>by cases e⟩,a,C,none,rfl,.inl h⟩
def qF(C:FG)(b:Bool)(H:Hp)(Q:VK)(E:XK):Prop:=(b=true ->∀Y,ao H Y->Q .aN Y)/\(b=false ->∀a Y,ao H Y->gE C Y a->E (.ref C) (ih a) Y)
theorem tL{b:Bool}{E:XK}(d:ao H H1)(c:qF C b H Q E)(x:fA K C)(j:f9 K C none=true)(e:FG)(h:H1 e=none)(i:b=false):E (.ref C) (ih e) (upd (upd H1 e (hI C none e)) e (fG (ih .none) C none e)):=by
 refine c.2 i e _ (λa o f=>?_) (.plain ah);have g:a≠e:=aB (d _ _ f) h;rw[ai g,ai g];exact d _ _ f
theorem MC:bg ["family","thing"] ["family","thing"] (aH tG):=bB
theorem Lq:bg ["family","thing"] ["family","thing"] (aH tH):=bB
inductive i3(vs:List V)(H:Hp)(Q:VK)(E:XK):Prop
 |mk{p t:FG}{ks:List F4}{v:V}{d:UA}(_:vs=[.ref t,v])(_:FK H t ks)(_:Dt p H v d)(_:Sm d)(_:∀Y,ao H Y->Q (.bl (b3 ks d)) Y):i3 vs H Q E
theorem nX{E:XK}(n:Nm x)(q:∀Y,ao H Y->Q (.bl true) Y):eF [.str x] H Q E:=eF.mk (p:=0) (d:=.str x) rfl (.str x) (λy e=>by injection e with e;rw[<-e];have:=n.hi;omega) λY S=>by rw[show cu (.str x)=true from j5 n];exact q Y S
theorem NS{g:XX}(F:aR K "is_kind" "is_kind" tG f fd)(i:dq mg)(j:aY P w K mg base aC 1 fN g ["thing"] eF "is_name"):aU P w K mg base aC 2 f fd ["family","thing"] i3:=by
 refine F.ok MC (λvs H Q E h=>?_) (λQc A outer s H vs Q E c h=>?_)
 ·obtain⟨rfl,_⟩:=h;rfl
 ·obtain @⟨p,t,ks,v,d,rfl,⟨o,ws,kvs,l,m,n,rfl,u⟩,r,y,q⟩:=h
  have z:=c.units;refine⟨_,aA (aO (cY (aP j c (aa (pv 1) af)) (fy (B' (tU (ip z) (pv 1) (dX (Ia rfl) rfl i.dict boot_dict (aa (pv 0) af))))))),?_⟩;refine⟨_,rfl,eF.mk rfl r y.str λH1 b=>⟨cu d,rfl,?_⟩⟩;cases e:cu d with
  |false=>have a:=q _ b;rw[pF e]at a;exact a
  |true =>
   obtain⟨x,rfl,B⟩:=sL e;obtain rfl:=gK r;refine⟨_,rfl,_,rfl,t,o,ws,kvs,rfl,b _ _ l,m,n.same b,u,λd C=>⟨d,_,rfl,eI.k (k:=Uz x) ah,?_⟩⟩;have a:=q _ (b.trans (ay (o:=.dK (fj kvs)) C));rw[show b3 (kvs.map (·.1)) (.str x)=decide (x∈kvs.map (·.1)) by show(cM x&&_)=_;rw[B];rfl]at a
   rw[AG];exact a
inductive nY(C:FG)(vs:List V)(H:Hp)(Q:VK)(E:XK):Prop
 |mk{p t:FG}{ks:List F4}{v:V}{d:UA}(_:vs=[.ref t,v])(_:FK H t ks)(_:Dt p H v d)(_:Sm d)(_:qF C (b3 ks d) H Q E):nY C vs H Q E
theorem Cw{t:FG}{d:UA}{E:XK}(b:FK H t ks)(r:Dt p H v d)(c:Sm d)(q:b3 ks d=true ->∀Y,ao H Y->Q .aN Y)(e:b3 ks d=false ->∀a Y,ao H Y->gE C Y a->E (.ref C) (ih a) Y):nY C [.ref t,v] H Q E:=⟨rfl,b,r,c,q,e⟩
theorem MD{i:XX}(F:aR K "check_kind" "check_kind" tH f fd)(T:jx K mg "NoKind" C)(k:aY P w K mg base aC 2 fK i ["family","thing"] i3 "is_kind"):aU P w K mg base (cg P w) 3 f fd ["family","thing"] (nY C):=by
 refine F.kR Lq (λvs H Q E h=>?_) (λQc A outer s H vs Q E l h=>?_)
 ·obtain⟨rfl,_⟩:=h;rfl
 ·obtain @⟨p,t,ks,v,d,rfl,n,r,o,c⟩:=h
  have j:aQ 2 _:=l;refine⟨_,aA (bf (cI (b6 (aP k j (aa (pv 0) (aa (pv 1) af))))) (aA (oX (pw T.q T.kp rfl T.m (aa bO af)))) bw),?_⟩;refine⟨_,rfl,_,rfl,i3.mk rfl n r o λH1 a=>⟨_,rfl,?_⟩⟩;cases b:b3 ks d with
  |true=>exact c.1 b H1 a
  |false=>exact⟨by show 1<=100;decide,λe g=>⟨e,C,none,none,rfl,ah,(λd u=>by cases u),T.x,T.q,a.free g,tL a c T.x T.q e g b⟩⟩
inductive qh(C:FG)(vs:List V)(H:Hp)(Q:VK)(E:XK):Prop
 |mk{p:FG}{v:V}{d:UA}(_:vs=[v])(_:Dt p H v d)(_:Sm d)(_:qF C (cu d) H Q E):qh C vs H Q E
theorem ME{d:UA}{E:XK}(r:Dt p H v d)(b:Sm d)(q:cu d=true ->∀Y,ao H Y->Q .aN Y)(c:cu d=false ->∀a Y,ao H Y->gE C Y a->E (.ref C) (ih a) Y):qh C [v] H Q E:=⟨rfl,r,b,q,c⟩
theorem NT:bg ["thing"] ["thing"] (aH tf):=bB
theorem MF{i:XX}(F:aR K "check_name" "check_name" tf f fd)(T:jx K mg "NoName" C)(k:aY P w K mg base aC 1 fN i ["thing"] eF "is_name"):aU P w K mg base (cg P w) 2 f fd ["thing"] (qh C):=by
 refine F.kR NT (λvs H Q E h=>?_) (λQc A outer s H vs Q E l h=>?_)
 ·obtain⟨rfl,_⟩:=h;rfl
 ·obtain @⟨p,v,d,rfl,r,n,c⟩:=h
  have j:aQ 1 _:=l;refine⟨_,aA (bf (cI (b6 (aP k j (aa (pv 0) af)))) (aA (oX (pw T.q T.kp rfl T.m (aa bO af)))) bw),?_⟩;refine⟨_,rfl,eF.mk rfl r n.str λH1 a=>⟨_,rfl,?_⟩⟩;cases b:cu d with
  |true=>exact c.1 b H1 a
  |false=>exact⟨by show 1<=100;decide,λe g=>⟨e,C,none,none,rfl,ah,(λd o=>by cases o),T.x,T.q,a.free g,tL a c T.x T.q e g b⟩⟩
def kx(s:VC):Vo:=match s with|.If t _ _ _=>t|_=>.Constant .none 0 ⟨0,0,0,0⟩
theorem boot_set:Vx "set" = ih (.type "set"):=by decide +kernel
theorem Cy(h:Qd.Pairwise λa b=>cp a b=true):Qd.Nodup:=h.imp λz e=>by rw[e,pf]at z;cases z
theorem Ke{a b:am (List F4)}(d:∀x∈a,x.length=m)(e:∀x∈b,x.length=m)(f:a.Pairwise λa b=>cp a b=true)(g:b.Pairwise λa b=>cp a b=true)(p:a.Perm b):a=b:=by
 refine vT (λx y _ _ U h2=>?_) f g p;have:=nD (a:=x) (b:=y) (c:=x) (by rw[d x (by assumption),e y (by assumption)]) (by rw[d x (by assumption),e y (by assumption)]) U h2
 rw[pf]at this;cases this
def jR(k:List F4):UA:=.tuple (k.map X1)
theorem AH(H:Hp):∀ks:am F4,bL H (ks.map V.str) (ks.map X1)
 |[]=>.nil
 |k::ks=>.cons (.str k) (AH H ks)
theorem sM{H:Hp}{m:Nat}:∀{ys:am V}{Qd:am (List F4)},e9 H m ys Qd->bL H ys (Qd.map jR)
 |[],[],_=>.nil
 |_::_,_::_,.cons ⟨a,e,h,_⟩ t=>by rw[e];exact .cons (.tup (by rw[h,ei]) (AH H _)) (sM t)
theorem si(h:e9 H m ys Qd)(S:ao H Y):e9 Y m ys Qd:=dh.same h S
theorem Bs(h:e9 H m ys Qd):∀x∈Qd,x.length=m:=λx b=>by
 obtain⟨i,hi,e⟩:=vR.mp b;obtain⟨ks,a,U,_,_,c⟩:=e9.at h (i:=i) (by rw[h.length];exact hi)
 rw[bA hi,e]at U;cases U;exact c
theorem Bt:∀k:am F4,UO (k.map X1)=0
 |[]=>rfl
 |x::k=>by show max 0 (UO (k.map X1))=0;rw[Bt k];rfl
theorem BY:∀Qd:am (List F4),UO (Qd.map jR)<=1
 |[]=>ba _
 |k::Qd=>by
  show max (UO (k.map X1)+1) (UO (Qd.map jR))<=1;have:=BY Qd;rw[Bt];omega
theorem BZ:∀{Qd:am (List F4)},(∀k∈Qd,∀x∈k,Nm x)->UW (Qd.map jR)=true
 |[],_=>rfl
 |k::Qd,h=>by
  show(PyData.canLay0 (.tuple (k.map X1))&&UW (Qd.map jR))=true;rw[BZ λk' a=>h k' (a8 _ a),Bool.and_true];exact lD (h k aT)
theorem Jb(h:e9 H m ys Qd)(k:∀b xs,H b=bi xs->Y b=bi xs):e9 Y m ys Qd:=Paired.imp' (λ_ _ c=>by obtain⟨a,e,q,l⟩:=c;exact ⟨a,e,k _ _ q,l⟩) h
theorem AI{H:Hp}{m:Nat}{a:FG}{k:am F4}(b:H a=bi (k.map V.str))(c:k.length=m):∀{ys:am V}{Qd:am (List F4)},e9 H m ys Qd->e9 H m (ys++[.ref a]) (Qd++[k])
 |[],[],_=>.cons ⟨a,rfl,by rw[ei];exact b,c⟩ .nil
 |_::_,_::_,.cons r t=>.cons r (AI b c t)
theorem B0{a b:am F4}(c:a.Nodup)(d:b.Nodup)(h:∀x,x∈a ↔ x∈b):a.Perm b:=(vV c d).mpr h
theorem j6{k:F4}(h:k∈ks)(n:Nm k):b3 ks (.str k)=true:=by show(cM k&&decide (k∈ks))=true;rw[j5 n,bq h];rfl
theorem MG(n:Nm x):Sm (.str x):=by have:=n.hi;show x.length<=100000;omega
theorem t9{t:FG}{E:XK}(h:FK H t ks)(n:Nm x)(a:x∈ks)(q:∀Y,ao H Y->Q (.bl true) Y):i3 [.ref t,.str x] H Q E:=i3.mk (p:=0) (d:=.str x) rfl h (.str x) (MG n) λY S=>by rw[j6 a n];exact q Y S
theorem bK.kU{t:FG}(h:H t=ih (.aX o (.tup ws))):aE K H t ws:=.inl (.inr ⟨o,h⟩)
theorem len_dict:bY X (.builtin "len") (λvs H Q=>∃(a:FG) (kvs:am (Key×V)),vs=[V.ref a]/\H a=ce kvs/\Q (.int kvs.length) H):=by
 rintro J s σ H vs us Q I r ⟨a,kvs,rfl,b,q⟩;obtain⟨u,rfl,c⟩:=vals1 r;cases c
 exact CU I (.inl b) λt s' d=>⟨.int kvs.length,H,d,⟨t,rfl⟩,q⟩
inductive hE(vs:List V)(H:Hp)(Q:VK)(E:XK):Prop
 |nm {l:FG}{ss:List F4} (_:vs=[.ref l]) (_:H l=ih (.lst (ss.map V.str))) (_:ss.Pairwise λa b=>bZ a b=true) (_:∀x∈ss,Nm x) (_:ss.length<=63) (_:∀Y,ao H Y->Q (.bl true) Y):hE vs H Q E
 |pr {l:FG}{ys:List V}{Qd:List (List F4)} (_:vs=[.ref l]) (_:H l=ih (.lst ys)) (_:e9 H 2 ys Qd) (_:Qd.Pairwise λa b=>cp a b=true) (_:∀k∈Qd,∀x∈k,Nm x) (_:ys.length<=63) (_:∀Y,ao H Y->Q (.bl true) Y):hE vs H Q E
theorem MH:bg ["names"] ["names"] (aH tw):=bB
theorem Lr(F:aR K "are_rising" "are_rising" tw f fd)(L:dq mg)(bs:mg "set" = none):aU P w K mg base aC 1 f fd ["names"] hE:=by
 refine F.ok MH (λvs H Q E h=>?_) (λQc A outer s H vs Q E M h=>?_)
 ·cases h with
  |nm e=>rw[e];rfl
  |pr e=>rw[e];rfl
 ·have z:=M.units
  refine⟨_,aA (aO (eU (tR z) (pv 0) (aS (bY.or (GL rfl) (GD rfl)) rfl L.sorted boot_sorted (aa (dX (bY.or (A8 rfl) (IY z rfl)) rfl bs boot_set (aa (pv 0) af)) af)) (bh _))),?_⟩;cases h with
  |@nm l B e g i nm n q =>
   subst e;refine bj rfl rfl (.inl ⟨l,B,rfl,.inl (aq.of g),by omega,λa ds t C r=>?_⟩)
   have v:=B0 C (Nz i) r;refine .inl ⟨a,ds,rfl,ah,by rw[v.length_eq];exact n,λD b j m hs=>?_⟩
   obtain rfl:b=B:=He hs i (m.trans v);have d:=(ay (o:=jB P w a ds) t).trans (ay (o:=.lst (b.map V.str)) j);have c:(ZC (b.map X1)).canLay0=true:=lD nm;refine⟨.list (b.map X1),.list (b.map X1),.lst (d _ _ g) (lC _ b),.lst ah (lC _ b),c,c,by show UO _+1<=60;rw[mS];decide,?_⟩
   rw[rG _ c];exact q _ d
  |@pr l ys Qd e g tv i nm n q =>
   subst e;refine bj rfl rfl (.inr ⟨l,ys,Qd,2,rfl,.inl (aq.of g),tv,by decide,n,λa xs t C r G=>?_⟩)
   have I:=ay (o:=nZ P w a xs) t;refine .inr ⟨a,xs,2,rfl,ah,λp m=>⟨I _ _ (G p m).1,(G p m).2⟩,by decide,λD J u j x N y=>?_⟩
   have d:=I.trans (ay (o:=.lst J) j);have pm:Qd.Perm u:=(vV (Cy i) (Cy y)).mpr λk=>(r k).symm.trans N.mem_iff.symm;obtain rfl:Qd=u:=Ke (Bs tv) (Bs x) i y pm;have c:(ZC (Qd.map jR)).canLay0=true:=BZ nm;refine⟨.list (Qd.map jR),.list (Qd.map jR),.lst (d _ _ g) (sM (si tv d)),.lst ah (sM (si x (ay j))),c,c,by have:=BY Qd;show UO _+1<=60;omega,?_⟩
   rw[rG _ c];exact q _ d
@[irreducible] def kE:Sp:=λvs H Q _=>∃(t:FG) (xs:List F4),vs=[.ref t]/\H t=ih (.tup (xs.map V.str))/\(∀x∈xs,Nm x)/\xs.Nodup/\xs.length<=100 /\∀Y,ao H Y->Q (.bl true) Y
theorem rw_sp{t:FG}{xs:am F4}{E:XK}(a:H t=bi (xs.map V.str))(b:∀x∈xs,Nm x)(c:xs.Nodup)(d:xs.length<=100)(q:∀Y,ao H Y->Q (.bl true) Y):kE [.ref t] H Q E:=by unfold kE;exact⟨t,xs,rfl,a,b,c,d,q⟩
theorem Pe:bg ["thing"] ["thing"] (aH nK):=bB
abbrev QE:Vo:=c9 (jC (pR (kx (bH (bE nK) 0)) 1))
theorem D3:bJ ["thing"] (aH nK) ["name"] [none] (bS QE):=⟨rfl,by decide +kernel,by decide +kernel,rfl,kk (by decide +kernel),by decide +kernel⟩
theorem NU(F:aR K "is_row" "is_row" nK f fd)(B:b7 mg)(I:dq mg)(bs:mg "set" = none)(J:aU P w K mg base aC 1 fN dN ["thing"] eF)(L:Yb K (.ref fN)=true)(M:Binds K dN ["thing"] [])(N:mg "is_name" = ih (.ref fN)):aU P w K mg base aC 2 f fd ["thing"] kE:=by
 refine F.ok Pe (λvs H Q E h=>?_) (λQc A outer s H vs Q E O h=>?_)
 ·unfold kE at h;obtain⟨_,_,rfl,_⟩:=h;rfl
 ·unfold kE at h
  obtain⟨t,xs,rfl,d,R,S,X,q⟩:=h;have C:aQ 1 _:=O;refine⟨_,aF (bf (PW.pt (pw_or (cI (b6 (aS eR rfl I.c3 cX (aa (pv 0) (aa (ej (v:=.ty "tuple") rfl B.tuple boot_tuple rfl) af)))))
    (pw_or1 (cI (b6 (aS (g6 rfl) rfl B.all boot_all (aa (cj rfl D3 (e8 (pv 0)) (λs H fp=>⟨a4 0 D3.nd,cP,dA J C rfl N L M .nil dH (aa (pv 0) af)⟩)) af))))))) (aA (aO eH)) bw)
   (aA (aO (eU di (aS Hv rfl B.len cG (aa (dX (A8 rfl) rfl bs boot_set (aa (pv 0) af)) af)) (aS cT rfl B.len cG (aa (pv 0) af)) (bh _)))),?_⟩
  refine⟨_,rfl,⟨_,.inr ⟨"tuple",rfl⟩⟩,.ref t,.ty "tuple",.type "tuple",.type "tuple",true,rfl,rfl,.inl (.tup d),rfl,true,rfl,?_⟩;refine⟨_,rfl,t,rfl,⟨_,aE.of d⟩,λp r=>?_⟩;refine eS (xs:=xs.map V.str) (λi ys g H1=>∃k:ap V,g=[k]/\ys=(XO i true).map V.bl/\ao H H1/\H1 p=bn ys) ⟨none,rfl,rfl,ay r,ah⟩ (λi ys g H1 Y=>by obtain⟨_,_,_,z,T⟩:=Y;exact ⟨T,aE.of (z _ _ d)⟩) ?_ ?_
  ·rintro i x ys g H1 y ⟨k,rfl,rfl,j,U⟩
   have l:i<(xs.map V.str).length:=(bQ.mp y).1;have m:i<xs.length:=by simpa using l
   obtain rfl:V.str xs[i]=x:=by simpa [m] using y
   refine⟨_,rfl,nX (R _ (dz m)) λH2 c=>⟨c _ _ U,by rw[ar,jX,aJ];omega,cw_next l ⟨_,rfl,?_,λb u e=>?_,ah⟩⟩⟩
   ·rw[lg,a5];rfl
   ·rw[ai (aB e r)];exact c _ _ (j _ _ e)
  ·rintro ys g H1 ⟨k,rfl,rfl,j,U⟩
   refine⟨p,_,rfl,aq.of U,_,rfl,?_⟩;have:(XO (xs.map V.str).length true).all id=true:=by simp
   rw[this];have n:=j _ _ d;refine⟨_,rfl,t,xs,rfl,.inr (aE.of n),by omega,λa ds W D G=>?_⟩
   have c:=ay (o:=jB P w a ds) W;refine⟨a,ds,rfl,ah,_,rfl,t,_,rfl,.inr (aE.of (c _ _ n)),rfl,?_⟩;rw[ar,(B0 D S G).length_eq];have:decide (V.int (xs.length:Int)=V.int (xs.length:Int))=true:=bq rfl;rw[this];exact q _ (j.trans c)
@[irreducible] def lP:Sp:=λvs H Q _=>∃(a b:FG) (k:F4) (xs:List F4),vs=[.ref a]/\H a=ih (.tup [.str k,.ref b])/\H b=ih (.tup (xs.map V.str))/\Nm k/\(∀x∈xs,Nm x)/\xs.Nodup/\xs.length<=100 /\∀Y,ao H Y->Q (.bl true) Y
theorem Ls{k:F4}{xs:am F4}{E:XK}(c:H a=bi [.str k,.ref b])(d:H b=bi (xs.map V.str))(e:Nm k)(f:∀x∈xs,Nm x)(g:xs.Nodup)(h:xs.length<=100)(q:∀Y,ao H Y->Q (.bl true) Y):lP [.ref a] H Q E:=by
 unfold lP;exact⟨a,b,k,xs,rfl,c,d,e,f,g,h,q⟩
theorem MI:bg ["thing"] ["thing"] (aH tx):=bB
theorem Lu(F:aR K "is_pair" "is_pair" tx f fd)(B:b7 mg)(j:dq mg)(l:aU P w K mg base aC 1 fN dN ["thing"] eF)(m:Yb K (.ref fN)=true)(n:Binds K dN ["thing"] [])(o:mg "is_name" = ih (.ref fN))
  (p:aU P w K mg base aC 2 fR dR ["thing"] kE) (r:Yb K (.ref fR)=true) (t:Binds K dR ["thing"] []) (u:mg "is_row" = ih (.ref fR)):aU P w K mg base aC 3 f fd ["thing"] lP:=by
 refine F.ok MI (λvs H Q E h=>?_) (λQc A outer s H vs Q E x h=>?_)
 ·unfold lP at h;obtain⟨_,_,_,_,rfl,_⟩:=h;rfl
 ·unfold lP at h
  obtain⟨a,b,k,xs,rfl,c,y,z,C,D,G,q⟩:=h;have e:aQ 2 _:=x;have g:aQ 1 _:=e.mono (by decide)
  refine⟨_,aA (aO (cY (aS eR rfl j.c3 cX (aa (pv 0) (aa (ej (v:=.ty "tuple") rfl B.tuple boot_tuple rfl) af)))
   (cY (eU di (aS cT rfl B.len cG (aa (pv 0) af)) au (bh _))
   (cY (dA l g rfl o m n .nil dH (aa (aW bR (pv 0) au) af))
   (fy (dA p e rfl u r t .nil dH (aa (aW bR (pv 0) au) af))))))),?_⟩
  refine⟨_,rfl,⟨_,.inr ⟨"tuple",rfl⟩⟩,.ref a,.ty "tuple",.type "tuple",.type "tuple",true,rfl,rfl,.inl (.tup c),rfl,true,rfl,?_⟩;refine⟨_,rfl,a,_,rfl,.inr (aE.of c),rfl,true,rfl,?_⟩;refine⟨_,rfl,a,_,0,.str k,rfl,rfl,aE.of c,(show cU [V.str k,V.ref b] ((0:Nat):Int)=ih (.str k) from b2 rfl),nX z λH1 d=>⟨true,rfl,?_⟩⟩;have i:=d _ _ c;refine⟨_,rfl,a,_,1,.ref b,rfl,rfl,aE.of i,(show cU [V.str k,V.ref b] ((1:Nat):Int)=ih (.ref b) from b2 rfl),rw_sp (d _ _ y) C D G λH2 I=>?_⟩;exact q _ (d.trans I)
@[irreducible] def lQ:Sp:=λvs H Q _=>∃(t b:FG) (o:Ys) (ws:List V) (Qa:List (F4×List F4)) (xs:List F4),vs=[.ref t,.ref b]/\H t=ih (.aX o (.tup ws))/\o.dict=none/\bK H ws Qa/\(Qa.map (·.1)).Nodup/\H b=ih (.tup (xs.map V.str))/\(∀x∈xs,Nm x)/\xs.Nodup/\xs.length<=4/\(∀x∈xs,∃q∈Qa,q.1=x) /\∀Y,ao H Y->Q (.bl true) Y
theorem Lv{t:FG}{xs:am F4}{E:XK}(d:H t=ih (.aX o (.tup ws)))(e:o.dict=none)(f:bK H ws Qa)(a:(Qa.map (·.1)).Nodup)(g:H b=bi (xs.map V.str))(h:∀x∈xs,Nm x)(i:xs.Nodup)(j:xs.length<=4)(c:∀x∈xs,∃q∈Qa,q.1=x)(q:∀Y,ao H Y->Q (.bl true) Y):lQ [.ref t,.ref b] H Q E:=by
 unfold lQ;exact⟨t,b,o,ws,Qa,xs,rfl,d,e,f,a,g,h,i,j,c,q⟩
theorem MJ:bg ["family","thing"] ["family","thing"] (aH nV):=bB
abbrev NV:Vo:=c9 (ir (bH (bE nV) 1))
theorem Cz:bJ ["family","thing"] (aH nV) ["parent","family"] [none,ih 0] (bS NV):=⟨rfl,by decide +kernel,by decide +kernel,rfl,kk (by decide +kernel),by decide +kernel⟩
theorem Lw{tk:Tok}(F:aR K "are_parents" "are_parents" nV f fd)(B:b7 mg)(R:mg "MOST_PARENTS" = ih (.int 4 tk))(S:aU P w K mg base aC 2 fK dK ["family","thing"] i3)(T:Yb K (.ref fK)=true)(U:Binds K dK ["family","thing"] [])(W:mg "is_kind" = ih (.ref fK))
  (X:aU P w K mg base aC 2 fR dR ["thing"] kE) (Y:Yb K (.ref fR)=true) (xa:Binds K dR ["thing"] []) (ya:mg "is_row" = ih (.ref fR)):aU P w K mg base aC 3 f fd ["family","thing"] lQ:=by
 refine F.ok MJ (λvs H Q E h=>?_) (λQc A outer s H vs Q E j h=>?_)
 ·unfold lQ at h;obtain⟨_,_,_,_,_,_,rfl,_⟩:=h;rfl
 ·unfold lQ at h
  obtain⟨t,b,o,ws,Qa,xs,rfl,za,xb,yb,M,C,D,zb,yc,N,q⟩:=h;have m:aQ 2 _:=j;refine⟨_,aF (bf (PW.pt (pw_or (cI (b6 (dA X m rfl ya Y xa .nil dH (aa (pv 1) af)))) (pw_or1 (bC lS (aS cT rfl B.len cG (aa (pv 1) af)) (iL (v:=.int 4) rfl R ⟨tk,rfl⟩) (bh _))))) (aA (aO eH)) bw)
   (aA (aO (aS (g6 rfl) rfl B.all boot_all (aa (cj rfl Cz (e8 (pv 1)) (λs H fp=>⟨a4 0 Cz.nd,cP,dA S m rfl W T U .nil dH (aa (pv 1) (aa (pv 0) af))⟩)) af)))),?_⟩
  refine⟨_,rfl,rw_sp C D zb (by omega) λH1 k=>⟨true,rfl,?_⟩⟩
  have d:=k _ _ C;refine⟨_,rfl,b,_,rfl,.inr (aE.of d),_,4,rfl,rfl,_,rfl,?_⟩;refine ite_ff (a' (by rw[ar];omega)) ?_
  refine⟨_,rfl,b,rfl,⟨_,aE.of d⟩,λp G=>?_⟩;refine eS (xs:=xs.map V.str) (λi ys a H2=>∃l:ap V,a=[l,bd t]/\ys=(XO i true).map V.bl/\ao H1 H2/\H2 p=bn ys) ⟨none,rfl,rfl,ay G,ah⟩ (λi ys a H2 ab=>by obtain⟨_,_,_,z,z2⟩:=ab;exact ⟨z2,aE.of (z _ _ d)⟩) ?_ ?_
  ·rintro i x ys a H2 I ⟨l,rfl,rfl,c,h2⟩
   have n:i<(xs.map V.str).length:=(bQ.mp I).1;have g:i<xs.length:=by simpa using n
   obtain rfl:V.str xs[i]=x:=by simpa [g] using I
   have y:=k.trans c;obtain⟨kvs,O,L⟩:=(yb.same y).pairs;obtain⟨r,j,xc⟩:=N _ (dz g);refine⟨_,rfl,_,rfl,t9 ⟨o,ws,kvs,y _ _ za,xb,O,L,M⟩ (D _ (dz g)) (by rw[<-xc];exact aZ.mpr ⟨r,j,rfl⟩) λzc J=>⟨J _ _ h2,by rw[ar,jX,aJ];omega,cw_next n ⟨_,rfl,?_,λb u e=>?_,ah⟩⟩⟩
   ·rw[lg,a5];rfl
   ·rw[ai (aB e G)];exact J _ _ (c _ _ e)
  ·rintro ys a H2 ⟨l,rfl,rfl,c,h2⟩
   refine⟨p,_,rfl,aq.of h2,?_⟩;have:(XO (xs.map V.str).length true).all id=true:=by simp
   rw[this];exact q _ (k.trans c)
@[irreducible] def lV:Sp:=λvs H Q _=>∃(t:FG) (o:Ys) (ws:List V) (Qa:List (F4×List F4)) (L:F4->List F4),vs=[.ref t]/\H t=ih (.aX o (.tup ws))/\o.dict=none/\bK H ws Qa/\ig Qa L/\(∀p∈Qa,p.2.Nodup/\p.2.length<=4)/\((Qa.map (·.1)).Pairwise λa b=>bZ a b=true) /\∀Y,ao H Y->Q (.bl true) Y
theorem MK{t:FG}{E:XK}(d:H t=ih (.aX o (.tup ws)))(e:o.dict=none)(f:bK H ws Qa)(ok:ig Qa L)(c:∀p∈Qa,p.2.Nodup/\p.2.length<=4)(g:(Qa.map (·.1)).Pairwise λa b=>bZ a b=true)(q:∀Y,ao H Y->Q (.bl true) Y):lV [.ref t] H Q E:=by
 unfold lV;exact⟨t,o,ws,Qa,L,rfl,d,e,f,ok,c,g,q⟩
theorem NW:bg ["thing"] ["thing"] (aH iP):=bB
abbrev QF:Vo:=c9 (jC (pR (kx (bH (bE iP) 0)) 1))
abbrev QG:Vo:=c9 (jC (kx (bH (bE iP) 1)))
abbrev QH:Vo:=c9 (jC (kx (bH (bE iP) 2)))
theorem D4:bJ ["thing"] (aH iP) ["pair"] [none] (bS QF):=⟨rfl,by decide +kernel,by decide +kernel,rfl,kk (by decide +kernel),by decide +kernel⟩
theorem uO:bJ ["thing"] (aH iP) ["kind","parents"] [none,none] (bS QG):=⟨rfl,by decide +kernel,by decide +kernel,rfl,kk (by decide +kernel),by decide +kernel⟩
theorem uP:bJ ["thing"] (aH iP) ["kind","parents","thing"] [none,none,ih 0] (bS QH):=⟨rfl,by decide +kernel,by decide +kernel,rfl,kk (by decide +kernel),by decide +kernel⟩
theorem ML{za:FG}{xd yd:XX}(F:aR K "is_family" "is_family" iP f fd)(B:b7 mg)(yf:dq mg)
  (zf:aU P w K mg base aC 3 fP dP ["thing"] lP) (xg:Yb K (.ref fP)=true) (yg:Binds K dP ["thing"] []) (zg:mg "is_pair" = ih (.ref fP))
  (xh:aU P w K mg base aC 1 fR dR ["names"] hE) (yh:Yb K (.ref fR)=true) (zh:Binds K dR ["names"] []) (xi:mg "are_rising" = ih (.ref fR))
  (yi:aU P w K mg base aC 3 za xd ["family","thing"] lQ) (zi:Yb K (.ref za)=true) (xj:Binds K xd ["family","thing"] []) (yj:mg "are_parents" = ih (.ref za))
  (zj:aU P w K mg base aC 5 fL yd ["family"] pD) (xk:Yb K (.ref fL)=true) (yk:Binds K yd ["family"] []) (zk:mg "lines_of" = ih (.ref fL)):aU P w K mg base aC 6 f fd ["thing"] lV:=by
 refine F.ok NW (λvs H Q E h=>?_) (λQc A outer s H vs Q E g h=>?_)
 ·unfold lV at h;obtain⟨_,_,_,_,_,rfl,_⟩:=h;rfl
 ·unfold lV at h
  obtain⟨t,o,ws,Qa,L,rfl,m,xl,C,ok,R,yl,q⟩:=h;have Y:aQ 5 _:=g;have yb:aQ 3 _:=Y.mono (by decide)
  have ye:aQ 1 _:=Y.mono (by decide)
  have xe:=C.length;have zn:=ok.bN;have zb:∀p∈Qa,∀x∈p.2,Nm x:=λp S x j=>by obtain⟨z,zl,rfl⟩:=ok.up p S x j;exact ok.nm z zl
  refine⟨_,aF (bf (PW.pt (pw_or (cI (b6 (aS IM rfl yf.c3 cX (aa (pv 0) (aa (ej (v:=.ty "tuple") rfl B.tuple boot_tuple rfl) af)))))
    (pw_or1 (cI (b6 (aS (g6 rfl) rfl B.all boot_all (aa (cj rfl D4 (e8 (pv 0)) (λs H fp=>⟨a4 0 D4.nd,cP,dA zf yb rfl zg xg yg .nil dH (aa (pv 0) af)⟩)) af))))))) (aA (aO eH)) bw)
   (aF (bf (cI (b6 (dA xh ye rfl xi yh zh .nil dH (aa (cj rfl uO (e8 (pv 0)) (λs H fp=>⟨lE (n:=2) K rfl rfl (cH (a4 0 uO.nd) (cH (a4 1 uO.nd) gJ)),cP,pv 0⟩)) af)))) (aA (aO eH)) bw)
   (aF (bf (cI (b6 (aS (g6 rfl) rfl B.all boot_all (aa (cj rfl uP (e8 (pv 0)) (λs H fp=>⟨lE (n:=2) K rfl rfl (cH (a4 0 uP.nd) (cH (a4 1 uP.nd) gJ)),cP,dA yi yb rfl yj zi xj .nil dH (aa (pv 2) (aa (pv 1) af))⟩)) af)))) (aA (aO eH)) bw)
   (aA (AX (aA (aO (eU di (aS len_dict rfl B.len cG (aa (dA zj Y rfl zk xk yk .nil dH (aa (pv 0) af)) af)) (aS cT rfl B.len cG (aa (pv 0) af)) (bh _)))) rfl)))),?_⟩
  refine⟨_,rfl,t,o,ws,.type "tuple",true,rfl,rfl,m,rfl,true,rfl,?_⟩;refine⟨_,rfl,t,rfl,⟨_,bK.kU m⟩,λp S=>?_⟩;refine eS (xs:=ws) (λi ys c H1=>∃k:ap V,c=[k]/\ys=(XO i true).map V.bl/\ao H H1/\H1 p=bn ys) ⟨none,rfl,rfl,ay S,ah⟩ (λi ys c H1 ab=>by obtain⟨_,_,_,z,z2⟩:=ab;exact ⟨z2,bK.kU (z _ _ m)⟩) ?_ ?_
  ·rintro i x ys c H1 j ⟨k,rfl,rfl,D,U⟩
   have I:i<ws.length:=(bQ.mp j).1;obtain⟨r,J,a,b,rfl,G,T⟩:=g9 (C.same D) j;have g:=dQ J;refine⟨_,rfl,Ls G T (ok.nm r g) (zb r g) (R r g).1 (by have:=(R r g).2;omega) λH2 W=>⟨W _ _ U,by rw[ar,jX,aJ];omega,cw_next I ⟨_,rfl,?_,λb u e=>?_,ah⟩⟩⟩
   ·rw[lg,a5];rfl
   ·rw[ai (aB e S)];exact W _ _ (D _ _ e)
  rintro ys c H1 ⟨k,rfl,rfl,D,U⟩;refine⟨p,_,rfl,aq.of U,_,rfl,?_⟩;have xc:(XO ws.length true).all id=true:=by simp
  rw[xc];have xa:=D _ _ m;have ze:=C.same D;refine⟨_,rfl,t,rfl,⟨_,bK.kU xa⟩,λp2 ya=>?_⟩;refine eS (xs:=ws) (λi ys c H2=>∃k y:ap V,c=[k,y]/\ys=((Qa.take i).map (·.1)).map V.str/\H2=upd H1 p2 (.lst ys)) ⟨none,none,rfl,rfl,rfl⟩ (λi ys c H2 ⟨_,_,_,_,z⟩=>by rw[z];exact⟨ah,bK.kU (by rw[ai (aB xa ya)];exact xa)⟩) ?_ ?_
  ·rintro i x ys c H2 j ⟨k,y,rfl,rfl,rfl⟩
   have I:i<ws.length:=(bQ.mp j).1;obtain⟨r,J,a,b,rfl,G,T⟩:=g9 ze j;have tk:Qa.take (i+1)=Qa.take i++[r]:=by rw[cO,J];rfl
   refine⟨a,_,rfl,aE.of (by rw[ai (aB G ya)];exact G),rfl,_,_,rfl,_,_,rfl,rfl,?_⟩
   refine⟨_,rfl,ah,by rw[ar,ar,b8,aJ];omega,cw_next I ⟨_,_,rfl,?_,by rw[ia]⟩⟩
   rw[tk,a5,a5];rfl
  rintro ys c H2 ⟨k,y,rfl,rfl,rfl⟩;rw[xe,cF];have W:=D.trans (ay (o:=.lst ((Qa.map (·.1)).map V.str)) ya);refine hE.nm rfl ah yl (λx j=>by obtain⟨r,g,rfl⟩:=aZ.mp j;exact ok.nm r g) (by rw[ar];omega) λxm M=>⟨true,rfl,?_⟩
  have M:=W.trans M;have yc:=M _ _ m;refine⟨_,rfl,t,rfl,⟨_,bK.kU yc⟩,λzd zc=>?_⟩;refine eS (xs:=ws) (λi ys c N=>∃k y:ap V,c=[k,y,bd t]/\ys=(XO i true).map V.bl/\ao xm N/\N zd=bn ys) ⟨none,none,rfl,rfl,ay zc,ah⟩ (λi ys c N ab=>by obtain⟨_,_,_,_,z,z2⟩:=ab;exact ⟨z2,bK.kU (z _ _ yc)⟩) ?_ ?_
  ·rintro i x ys c N j ⟨k,y,rfl,rfl,X,xb⟩
   have I:i<ws.length:=(bQ.mp j).1;have l:=M.trans X;obtain⟨r,J,a,b,rfl,G,T⟩:=g9 (C.same l) j;have g:=dQ J;refine⟨a,_,rfl,aE.of G,rfl,_,_,rfl,_,_,rfl,rfl,?_⟩;refine⟨_,rfl,_,rfl,Lv (l _ _ m) xl (C.same l) ok.nd T (zb r g) (R r g).1 (R r g).2 (ok.up r g) λym O=>⟨O _ _ xb,by rw[ar,jX,aJ];omega,cw_next I ⟨_,_,rfl,?_,λb u e=>?_,ah⟩⟩⟩
   ·rw[lg,a5];rfl
   ·rw[ai (aB e zc)];exact O _ _ (X _ _ e)
  rintro ys c N ⟨k,y,rfl,rfl,X,xb⟩;refine⟨zd,_,rfl,aq.of xb,_,rfl,?_⟩;rw[xc];have l:=M.trans X;refine⟨_,rfl,pD.mk rfl (l _ _ m) (C.same l) ok λd kvs ym xo O zm yo xf=>?_⟩;refine⟨d,kvs,rfl,zm,_,rfl,t,_,rfl,.inr (bK.kU (O _ _ (l _ _ m))),rfl,?_⟩;have xn:kvs.length=ws.length:=by have:=xf.length_eq;rw[ar,ar,ar]at this;omega
  have yn:decide (V.int (kvs.length:Int)=V.int (ws.length:Int))=true:=bq (by rw[xn])
  rw[yn];exact q _ (l.trans O)
abbrev Own:=List (F4×Int)
abbrev Th:=F4×F4×Own
def gi(H:Hp)(vs:List V)(own:Own):Prop:=XU (λv q=>∃c,v=V.ref c/\H c=ih (.tup [.str q.1,.int q.2])) vs own
def cQ(H:Hp)(vs:List V)(aM:List Th):Prop:=XU (λv p=>∃a b us,v=V.ref a/\H a=ih (.tup [.str p.1,.str p.2.1,.ref b])/\H b=ih (.tup us)/\gi H us p.2.2) vs aM
theorem gi.keep{own:Own}(h:gi H vs own)(k:∀b xs,H b=bi xs->Y b=bi xs):gi Y vs own:=Paired.imp' (λ_ _ a=>by obtain⟨c,e,q⟩:=a;exact ⟨c,e,k _ _ q⟩) h
theorem cQ.keep{c:am Th}(h:cQ H vs c)(k:∀b xs,H b=bi xs->Y b=bi xs):cQ Y vs c:=Paired.imp' (λ_ _ d=>by obtain⟨a,b,us,e,q,r,o⟩:=d;exact ⟨a,b,us,e,k _ _ q,k _ _ r,o.keep k⟩) h
theorem cQ.same{a:am Th}(h:cQ H vs a)(S:ao H Y):cQ Y vs a:=h.keep λ_ _ e=>S _ _ e
structure eh(H:Hp)(w t tb tt:FG)(wt:List V)(aM:List Th):Prop where
 hw:H w=ih (.tup [.ref t,.ref tb,.ref tt])
 ht:H tt=ih (.tup wt)
 tv:cQ H wt aM
 bN:aM.length<=5
 nm:∀p∈aM,Nm p.1
 nd:(aM.map (·.1)).Nodup
theorem eh.same{w t tb:FG}{a:am Th}(h:eh H w t tb tt wt a)(S:ao H Y):eh Y w t tb tt wt a:=⟨S _ _ h.hw,S _ _ h.ht,h.tv.same S,h.bN,h.nm,h.nd⟩
theorem Pf:bg ["world","thing"] ["world","thing"] (aH nh):=bB
def NX(e:Vo):Vo:=match e with|.Compare _ _ (r::_) _=>r|_=>.Constant .none 0 ⟨0,0,0,0⟩
noncomputable abbrev QI:Vo:=NX (pR (ir (bH (bE nh) 0)) 1)
theorem D5:bJ ["world","thing"] (aH nh) ["triple"] [none] (bS QI):=cJ
theorem Pg:bg ["world","thing"] ["world","thing"] (aH tj):=bB
def q5(H:Hp)(vs:List V)(aM:List Th):Prop:=XU (λv p=>∃r b us,v=V.ref r/\H r=ih (.tup [.str p.2.1,.ref b])/\H b=ih (.tup us)/\gi H us p.2.2) vs aM
theorem q5.keep{c:am Th}(h:q5 H vs c)(k:∀b xs,H b=bi xs->Y b=bi xs):q5 Y vs c:=Paired.imp' (λ_ _ d=>by obtain⟨a,b,us,e,q,r,o⟩:=d;exact ⟨a,b,us,e,k _ _ q,k _ _ r,o.keep k⟩) h
theorem Ph:bg ["world","thing"] ["world","thing"] (aH ni):=bB
def D6(e:Vo):Vo:=match e with|.Subscript o _ _=>o|_=>.Constant .none 0 ⟨0,0,0,0⟩
abbrev QJ:Vo:=D6 (ir (bH (bE ni) 1))
theorem D7:bJ ["world","thing"] (aH ni) ["triple","thing"] [none,ih 1] (bS QJ):=cJ
theorem uv{a:am Th}(b:(a.map (·.1)).Nodup){p q:Th}(c:p∈a)(d:q∈a)(e:p.1=q.1):p=q:=by
 induction a with
 |nil=>cases c
 |cons x a f =>
  rw[bD,eu]at b;rcases bu.mp c with U|EZ
  ·rcases bu.mp d with h2|u5
   ·rw[U,h2]
   ·exact absurd (aZ.mpr ⟨q,u5,by rw[<-e,U]⟩) b.1
  ·rcases bu.mp d with h2|u5
   ·exact absurd (aZ.mpr ⟨p,EZ,by rw[e,h2]⟩) b.1
   ·exact f b.2 EZ u5
theorem eg.dt{d:UA}(s:eg d)(r:Rep H v d)(f:∀b xs,H b=bi xs->b≠p):Dt p H v d:=by
 cases s with
 |add n =>
  obtain⟨a,u,rfl,c,e⟩:=two1 r;obtain rfl:=e.jE;exact .tup (f _ _ c) c (.cons (.str _) (.cons (.int _) .nil))
 |times n =>
  obtain⟨a,u,rfl,c,e⟩:=two1 r;obtain rfl:=e.jE;exact .tup (f _ _ c) c (.cons (.str _) (.cons (.int _) .nil))
 |ask x =>
  obtain⟨a,u,rfl,c,e⟩:=two1 r;obtain rfl:=e.i2;exact .tup (f _ _ c) c (.cons (.str _) (.cons (.str _) .nil))
 |lO =>
  obtain⟨a,vs,rfl,c,g⟩:=r.tupI;obtain⟨i,j,rfl,h,g⟩:=g.ij;obtain rfl:=g.n4;obtain rfl:=h.i2;exact .tup (f _ _ c) c (.cons (.str _) .nil)
theorem B1(a:∀b xs,H b=bi xs->b≠p){ds:am UA}(r:bL H vs ds)(h:∀d∈ds,eg d):bU p H vs ds:=by
 induction vs generalizing ds with
 |nil=>cases r;exact .nil
 |cons x xs c=>cases r with|cons r e=>exact .cons ((h _ aT).dt r a) (c e λd f=>h d (a8 _ f))
theorem Ent.dt{d:UA}(s:Ent d)(r:Rep H v d)(f:∀b xs,H b=bi xs->b≠p):Dt p H v d:=by
 cases s with
 |plain n =>
  obtain⟨a,u,rfl,c,g⟩:=two1 r;obtain rfl:=g.jE;exact .tup (f _ _ c) c (.cons (.str _) (.cons (.int _) .nil))
 |ahead x n =>
  obtain⟨a,vs,rfl,c,e⟩:=r.tupI;obtain⟨l,m,rfl,i,e⟩:=e.ij;obtain⟨o,q,rfl,g,e⟩:=e.ij;obtain⟨t,w,rfl,j,e⟩:=e.ij;obtain rfl:=e.n4;obtain rfl:=i.i2;obtain rfl:=g.i2;obtain rfl:=j.jE;exact .tup (f _ _ c) c (.cons (.str _) (.cons (.str _) (.cons (.int _) .nil)))
 |behind ds k hs =>
  obtain⟨a,u,rfl,c,g⟩:=two1 r;obtain⟨b,vs,rfl,h,e⟩:=g.tupI;exact .tup (f _ _ c) c (.cons (.str _) (.cons (.tup (f _ _ h) h (B1 f e hs)) .nil))
 |ma ds k hs =>
  obtain⟨a,u,rfl,c,g⟩:=two1 r;obtain⟨b,vs,rfl,h,e⟩:=g.tupI;exact .tup (f _ _ c) c (.cons (.str _) (.cons (.tup (f _ _ h) h (B1 f e hs)) .nil))
theorem eg.bulk{d:UA}(s:eg d):d.bulk<=20:=by
 cases s with
 |add n h=>show Vm [.str "add",.int n]<=20;simp only[Vm,YE];exact(by decide +kernel:(("add" : F4).cps.size+1+(0+1+0))<=20)
 |times n lo hi=>show Vm [.str "times",.int n]<=20;simp only[Vm,YE];exact(by decide +kernel:(("times" : F4).cps.size+1+(0+1+0))<=20)
 |lO=>decide +kernel
 |ask x h =>
  have:x.cps.size<=8:=h.hi;show Vm [.str "ask",.str x]<=20;simp only[Vm,YE];have e:("ask" : F4).cps.size=3:=by decide +kernel
  omega
theorem sj:∀{ds:am UA},(∀d∈ds,eg d)->Vm ds<=21 * ds.length
 |[],_=>ba _
 |d::ds,h=>by
  have g:=(h d aT).bulk;have b:=sj (ds:=ds) λe a=>h e (a8 _ a);simp only[Vm,cD];omega
theorem Ent.sm{d:UA}(s:Ent d):Sm d:=by
 show d.bulk<=100000;cases s with
 |plain n h=>show Vm [.str "plain",.int n]<=100000;simp only[Vm,YE];exact(by decide +kernel:(("plain" : F4).cps.size+1+(0+1+0))<=100000)
 |ahead x n h c =>
  have:x.cps.size<=8:=h.hi;show Vm [.str "ahead",.str x,.int n]<=100000;simp only[Vm,YE];have e:("ahead" : F4).cps.size=5:=by decide +kernel
  omega
 |behind ds a hs =>
  have b:=sj hs;show Vm [.str "behind",.tuple ds]<=100000;simp only[Vm,YE];have e:("behind" : F4).cps.size=6:=by decide +kernel
  omega
 |ma ds a hs =>
  have b:=sj hs;show Vm [.str "shut",.tuple ds]<=100000;simp only[Vm,YE];have e:("shut" : F4).cps.size=4:=by decide +kernel
  omega
theorem Lx{d:UA}(h:eg d):dJ d=true:=by
 cases h with
 |add n h=>rfl
 |times n lo hi=>show(decide (-9<=n)&&decide (n<=9))=true;rw[bq lo,bq hi];rfl
 |lO=>rfl
 |ask x h=>exact j5 h
theorem Ly{d:UA}(h:Ent d):eW d=true:=by
 have st:∀ds:am UA,ds.length<=4->(∀d∈ds,eg d)->ki (.tuple ds)=true:=λds a hs=>by
  show(decide (ds.length<=4)&&ds.all dJ)=true;rw[bq a,gX.mpr λd b=>Lx (hs d b)];rfl
 cases h with
 |plain n h=>rfl
 |ahead x n h c=>show(cM x&&true)=true;rw[j5 h];rfl
 |behind ds a hs=>exact st ds a hs
 |ma ds a hs=>exact st ds a hs
inductive qi(vs:List V)(H:Hp)(Q:VK)(E:XK):Prop
 |mk{p t a:FG}{zs:List V}{ks:List F4}{k n:F4}{e:V}{d:UA}(_:vs=[.ref t,.ref a])(_:H p=ih (.lst zs))(_:FK H t ks)(_:H a=ih (.tup [.str k,.str n,e]))(_:Rep H e d)(_:Ent d)(_:Nm k)(_:k∈ks)(_:Nm n)(_:∀Y,ao H Y->Q (.bl true) Y):qi vs H Q E
theorem NY:bg ["family","thing"] ["family","thing"] (aH sf):=bB
theorem MM(F:aR K "is_triple" "is_triple" sf f fd)(B:b7 mg)(u:dq mg)(x:aY P w K mg base aC 2 fK dK ["family","thing"] i3 "is_kind")(C:aY P w K mg base aC 1 fN dN ["thing"] eF "is_name")(D:aY P w K mg base aC 4 fE dE ["thing"] pU "is_entry"):aU P w K mg base aC 5 f fd ["family","thing"] qi:=by
 refine F.cz NY λQc A outer s H vs Q E G h=>?_
 ·obtain @⟨p,t,a,zs,ks,k,n,e,d,rfl,I,fk,c,J,j,L,M,N,q⟩:=h
  have i:aQ 4 _:=G;have m:aQ 2 _:=i.mono (by decide)
  have o:aQ 1 _:=i.mono (by decide)
  intro X;refine⟨_,aF (bf (PW.pt (pw_or (cI (b6 (aS eR rfl u.c3 cX (aa (pv 1) (aa (ej (v:=.ty "tuple") rfl B.tuple boot_tuple rfl) af))))) (pw_or1 (bC iR (aS cT rfl B.len cG (aa (pv 1) af)) au (bh _))))) (aA (aO eH)) bw)
   (aA (aO (cY (aP x m (aa (pv 0) (aa (aW bR (pv 1) au) af))) (cY (aP C o (aa (aW bR (pv 1) au) af)) (fy (aP D i (aa (aW bR (pv 1) au) af))))))),?_⟩
  refine ag rfl ⟨⟨_,.inr ⟨"tuple",rfl⟩⟩,.ref a,.ty "tuple",.type "tuple",.type "tuple",true,rfl,rfl,.inl (.tup c),rfl,true,rfl,?_⟩;refine ag rfl ⟨a,_,rfl,.inr (aE.of c),rfl,_,rfl,?_⟩;refine bj rfl rfl (d3 c dZ (t9 fk L M λH1 l=>⟨true,rfl,ite_tt rfl ?_⟩));refine ag rfl (d3 (l _ _ c) gg (nX N λH2 O=>⟨true,rfl,ite_tt rfl ?_⟩));have g:=l.trans O;have r:=J.same g;refine ag rfl (d3 (g _ _ c) l' (pU.mk (p:=p) rfl (j.dt r λb xs z y=>?_) j.sm λS R=>?_))
  ·rw[y,g _ _ I]at z;cases z
  ·rw[Ly j];exact q _ (g.trans R)
inductive qj(vs:List V)(H:Hp)(Q:VK)(E:XK):Prop
 |mk{p t tb:FG}{zs wb:List V}{ks:List F4}{bk:Bk}(_:vs=[.ref t,.ref tb])(_:H p=ih (.lst zs))(_:FK H t ks)(_:H tb=ih (.tup wb))(_:b' H wb bk)(_:kD bk)(_:jQ bk)(_:∀q∈bk,q.1∈ks)(_:∀Y,ao H Y->Q (.bl true) Y):qj vs H Q E
theorem NZ:bg ["family","thing"] ["family","thing"] (aH j7):=bB
abbrev Pj:Vo:=c9 (jC (qd (kx (bH (bE j7) 0)) 1))
abbrev Pk:Vo:=c9 (ir (bH (bE j7) 1))
theorem C5:bJ ["family","thing"] (aH j7) ["triple","family"] [none,ih 0] (bS Pj):=cJ
theorem qk:bJ ["family","thing"] (aH j7) ["kind","name","entry"] [none,none,none] (bS Pk):=cJ
theorem b'.at{bk:Bk}(h:b' H vs bk){x:V}(e:vs[i]?=ih x):∃p,bk[i]?=ih p /\∃a u,x=V.ref a/\H a=bi [.str p.1,.str p.2.1,u]/\Rep H u p.2.2:=L2.Paired.get h e
theorem MN(F:aR K "is_book" "is_book" j7 f fd)(B:b7 mg)(xc:dq mg)(yc:aY P w K mg base aC 5 fT dT ["family","thing"] qi "is_triple")(zc:aY P w K mg base aC 1 fR dR ["names"] hE "are_rising"):aU P w K mg base aC 6 f fd ["family","thing"] qj:=by
 refine F.cz NZ λQc A outer s H vs Q E g h=>?_
 ·obtain @⟨p,t,tb,zs,wb,ks,bk,rfl,xd,fk,G,L,ok,yd,M,q⟩:=h
  have Y:aQ 5 _:=g;have yb:aQ 1 _:=Y.mono (by decide)
  intro X;refine⟨_,aF (bf (PW.pt (pw_or (cI (b6 (aS eR rfl xc.c3 cX (aa (pv 1) (aa (ej (v:=.ty "tuple") rfl B.tuple boot_tuple rfl) af)))))
    (pw_or1 (cI (b6 (aS (g6 rfl) rfl B.all boot_all (aa (cj rfl C5 (e8 (pv 1)) (λs H fp=>⟨a4 0 C5.nd,cP,aP yc Y (aa (pv 1) (aa (pv 0) af))⟩)) af))))))) (aA (aO eH)) bw)
   (aA (aO (aP zc yb (aa (cj rfl qk (e8 (pv 1)) (λs H fp=>⟨lE (n:=3) K rfl rfl (cH (a4 0 qk.nd) (cH (a4 1 qk.nd) (cH (a4 2 qk.nd) gJ))),cP,cZ (aa (pv 0) (aa (pv 1) af))⟩)) af)))),?_⟩
  have zd:=L.length;have ze:=ok.bN;refine ag rfl ⟨⟨_,.inr ⟨"tuple",rfl⟩⟩,.ref tb,.ty "tuple",.type "tuple",.type "tuple",true,rfl,rfl,.inl (.tup G),rfl,true,rfl,?_⟩;refine ag rfl ⟨tb,rfl,⟨_,aE.of G⟩,λc C=>?_⟩;refine eS (xs:=wb) (λi ys d H1=>∃l:ap V,d=[l,bd t]/\ys=(XO i true).map V.bl/\ao H H1/\H1 c=bn ys) ⟨none,rfl,rfl,ay C,ah⟩ (λi ys d H1 ab=>by obtain⟨_,_,_,z,N⟩:=ab;exact ⟨N,aE.of (z _ _ G)⟩) ?_ ?_
  ·rintro i x ys d H1 m ⟨l,rfl,rfl,j,U⟩
   have J:=(bQ.mp m).1;obtain⟨r,g,a,u,rfl,O,za⟩:=(L.same j).at m;have I:=dQ g;refine bj rfl rfl (qi.mk rfl (j _ _ xd) (fk.same j) O za (ok.ent r I) (ok.nm r I).1 (M r I) (ok.nm r I).2 λH2 y=>⟨y _ _ U,by rw[ar,jX,aJ];omega,cw_next J ⟨_,rfl,?_,λb u e=>?_,ah⟩⟩)
   ·rw[lg,a5];rfl
   ·rw[ai (aB e C)];exact y _ _ (j _ _ e)
  rintro ys d H1 ⟨l,rfl,rfl,j,U⟩;refine⟨c,_,rfl,aq.of U,_,rfl,?_⟩;rw[show(XO wb.length true).all id=true by simp]
  have W:=j _ _ G;have zb:=L.same j;clear U C;refine ag rfl ⟨tb,rfl,⟨_,aE.of W⟩,λc C=>?_⟩;refine eS (xs:=wb) (λi ys d H2=>∃l R S:ap V,d=[l,R,S]/\e9 H2 2 ys ((bk.take i).map eY)/\ao H1 H2/\H2 c=bn ys) ⟨none,none,none,rfl,.nil,ay C,ah⟩ (λi ys d H1 ab=>by obtain⟨_,_,_,_,_,z,N⟩:=ab;exact ⟨N,aE.of (z _ _ W)⟩) ?_ ?_
  ·rintro i x ys d H2 m ⟨l,R,S,rfl,tv,y,h2⟩
   have J:=(bQ.mp m).1;obtain⟨r,g,a,u,rfl,O,za⟩:=(zb.same y).at m;have tk:bk.take (i+1)=bk.take i++[r]:=by rw[cO,g];rfl
   have xe:ys.length=i:=by have:=tv.length;rw[ar,b8]at this;omega
   refine⟨a,_,rfl,aE.of O,rfl,_,_,rfl,_,_,rfl,_,_,rfl,rfl,?_⟩;refine bj rfl rfl ⟨dc,λb ye=>?_⟩;have D:=ay (o:=.tup [V.str r.1,V.str r.2.1]) ye;have xa:upd H2 b (.tup [V.str r.1,V.str r.2.1]) b=bi [V.str r.1,V.str r.2.1]:=ah;generalize upd H2 b (.tup [V.str r.1,V.str r.2.1])=T at D xa⊢;have ya:=D _ _ h2;have xb:∀{zs:am V} b xs,T b=bi xs->upd T c (.lst zs) b=bi xs:=λb xs e=>by rw[ai (bx e ya)];exact e
   refine⟨ya,by rw[aJ];omega,cw_next J ⟨_,_,_,rfl,?_,λb u e=>by rw[ai (aB e C)];exact D _ _ (y _ _ e),ah⟩⟩
   rw[tk,a5];exact AI (k:=eY r) (by exact xb _ _ xa) rfl (Jb (si tv D) xb)
  rintro ys d H2 ⟨l,R,S,rfl,tv,y,h2⟩;rw[zd,cF]at tv;have xe:ys.length=bk.length:=by have:=tv.length;rwa [ar]at this
  exact hE.pr rfl h2 tv yd (λk M x m=>by
   obtain⟨r,g,rfl⟩:=aZ.mp M;rcases bu.mp m with z|z
   ·rw[z];exact(ok.nm r g).1
   ·rw[b9.mp z];exact(ok.nm r g).2) (by omega) λT D=>q _ (j.trans (y.trans D))
inductive ql(vs:List V)(H:Hp)(Q:VK)(E:XK):Prop
 |mk{a:FG}{n:F4}{z:Int}(_:vs=[.ref a])(_:H a=ih (.tup [.str n,.int z]))(_:Nm n)(_:∀Y,ao H Y->Q (.bl true) Y):ql vs H Q E
theorem N0:bg ["thing"] ["thing"] (aH tX):=bB
theorem MO(F:aR K "is_own" "is_own" tX f fd)(B:b7 mg)(e:dq mg)(g:aY P w K mg base aC 1 fN dN ["thing"] eF "is_name")(GW:aY P w K mg base aC 1 fW dW ["thing"] ib "is_whole"):aU P w K mg base aC 2 f fd ["thing"] ql:=by
 refine F.cz N0 λQc A outer s H vs Q E c h=>?_
 ·obtain @⟨a,n,z,rfl,b,i,q⟩:=h
  intro X;refine⟨_,aA (aO (cY (aS eR rfl e.c3 cX (aa (pv 0) (aa (ej (v:=.ty "tuple") rfl B.tuple boot_tuple rfl) af))) (cY (eU di (aS cT rfl B.len cG (aa (pv 0) af)) au (bh _)) (cY (aP g c (aa (aW bR (pv 0) au) af)) (fy (aP GW c (aa (aW bR (pv 0) au) af))))))),?_⟩;refine ag rfl ⟨⟨_,.inr ⟨"tuple",rfl⟩⟩,.ref a,.ty "tuple",.type "tuple",.type "tuple",true,rfl,rfl,.inl (.tup b),rfl,true,rfl,?_⟩;refine ag rfl ⟨a,_,rfl,.inr (aE.of b),rfl,true,rfl,ite_tt rfl ?_⟩;refine ag rfl (d3 b dZ (nX i λH1 d=>⟨true,rfl,ite_tt rfl ?_⟩));exact ag rfl (d3 (d _ _ b) gg (ib.mk (p:=0) rfl (.int z) (q _ d)))
inductive qm(vs:List V)(H:Hp)(Q:VK)(E:XK):Prop
 |mk{a:FG}{us:List V}{own:Own}(_:vs=[.ref a])(_:H a=ih (.tup us))(_:gi H us own)(_:∀q∈own,Nm q.1)(_:(own.map (·.1)).Pairwise λa b=>bZ a b=true)(_:own.length<=63)(_:∀Y,ao H Y->Q (.bl true) Y):qm vs H Q E
theorem N1:bg ["thing"] ["thing"] (aH j8):=bB
abbrev N2:Vo:=c9 (jC (qd (kx (bH (bE j8) 0)) 1))
abbrev N3:Vo:=c9 (ir (bH (bE j8) 1))
theorem CA:bJ ["thing"] (aH j8) ["pair"] [none] (bS N2):=cJ
theorem CB:bJ ["thing"] (aH j8) ["pair"] [none] (bS N3):=cJ
theorem MP(F:aR K "are_own" "are_own" j8 f fd)(B:b7 mg)(N:dq mg)(O:aY P w K mg base aC 2 fO dO ["thing"] ql "is_own")(R:aY P w K mg base aC 1 fR dR ["names"] hE "are_rising"):aU P w K mg base aC 3 f fd ["thing"] qm:=by
 refine F.cz N1 λQc A outer s H vs Q E g h=>?_
 ·obtain @⟨a,us,own,rfl,o,t,I,S,J,q⟩:=h
  have D:aQ 2 _:=g;have L:aQ 1 _:=D.mono (by decide)
  intro X;refine⟨_,aF (bf (PW.pt (pw_or (cI (b6 (aS eR rfl N.c3 cX (aa (pv 0) (aa (ej (v:=.ty "tuple") rfl B.tuple boot_tuple rfl) af)))))
    (pw_or1 (cI (b6 (aS (g6 rfl) rfl B.all boot_all (aa (cj rfl CA (e8 (pv 0)) (λs H fp=>⟨a4 0 CA.nd,cP,aP O D (aa (pv 0) af)⟩)) af))))))) (aA (aO eH)) bw)
   (aA (aO (aP R L (aa (cj rfl CB (e8 (pv 0)) (λs H fp=>⟨a4 0 CB.nd,cP,aW (j4 K rfl) (pv 0) au (λ_ _=>rfl)⟩)) af)))),?_⟩
  have lo:=cC t;refine ag rfl ⟨⟨_,.inr ⟨"tuple",rfl⟩⟩,.ref a,.ty "tuple",.type "tuple",.type "tuple",true,rfl,rfl,.inl (.tup o),rfl,true,rfl,?_⟩;refine ag rfl ⟨a,rfl,⟨_,aE.of o⟩,λc m=>?_⟩;refine eS (xs:=us) (λi ys d H1=>∃j:ap V,d=[j]/\ys=(XO i true).map V.bl/\ao H H1/\H1 c=bn ys) ⟨none,rfl,rfl,ay m,ah⟩ (λi ys d H1 Y=>by obtain⟨_,_,_,z,y⟩:=Y;exact ⟨y,aE.of (z _ _ o)⟩) ?_ ?_
  ·rintro i x ys d H1 k ⟨j,rfl,rfl,n,U⟩
   have p:=(bQ.mp k).1;obtain⟨r,g,b,rfl,C⟩:=L2.Paired.get (t.keep λb xs e=>n _ _ e) k;refine ag rfl (ql.mk rfl C (I r (dQ g)) λH2 l=>⟨l _ _ U,by rw[ar,jX,aJ];omega,cw_next p ⟨_,rfl,?_,λb u e=>?_,ah⟩⟩)
   ·rw[lg,a5];rfl
   ·rw[ai (aB e m)];exact l _ _ (n _ _ e)
  rintro ys d H1 ⟨j,rfl,rfl,n,U⟩;refine⟨c,_,rfl,aq.of U,_,rfl,?_⟩;rw[show(XO us.length true).all id=true by simp]
  have G:=n _ _ o;have M:gi H1 us own:=t.keep λb xs e=>n _ _ e;clear U m;refine ag rfl ⟨a,rfl,⟨_,aE.of G⟩,λc m=>?_⟩;refine eS (xs:=us) (λi ys d H2=>∃j:ap V,d=[j]/\ys=((own.take i).map (·.1)).map V.str/\ao H1 H2/\H2 c=bn ys) ⟨none,rfl,rfl,ay m,ah⟩ (λi ys d H1 Y=>by obtain⟨_,_,_,z,y⟩:=Y;exact ⟨y,aE.of (z _ _ G)⟩) ?_ ?_
  ·rintro i x ys d H2 k ⟨j,rfl,rfl,l,h2⟩
   have p:=(bQ.mp k).1;obtain⟨r,g,b,rfl,C⟩:=L2.Paired.get (M.keep λb xs e=>l _ _ e) k;have tk:own.take (i+1)=own.take i++[r]:=by rw[cO,g];rfl
   refine ag rfl (d3 C dZ ⟨h2,by rw[ar,ar,b8,aJ];omega,cw_next p ⟨_,rfl,?_,λb u e=>?_,ah⟩⟩)
   ·rw[tk,a5,a5];rfl
   ·rw[ai (aB e m)];exact l _ _ e
  rintro ys d H2 ⟨j,rfl,rfl,l,h2⟩;rw[lo,cF]at h2;exact hE.nm rfl h2 S (λx k=>by obtain⟨r,g,rfl⟩:=aZ.mp k;exact I r g) (by rw[ar];exact J) λW T=>q _ (n.trans (l.trans T))
structure jS(ks:List F4)(p:Th):Prop where
 nm:Nm p.1
 kd:p.2.1∈ks
 kn:Nm p.2.1
 on:∀q∈p.2.2,Nm q.1
 so:(p.2.2.map (·.1)).Pairwise λa b=>bZ a b=true
 bN:p.2.2.length<=63
inductive qn(vs:List V)(H:Hp)(Q:VK)(E:XK):Prop
 |mk{t a b:FG}{ks:List F4}{us:List V}{p:Th}(_:vs=[.ref t,.ref a])(_:FK H t ks)(_:H a=ih (.tup [.str p.1,.str p.2.1,.ref b]))(_:H b=ih (.tup us))(_:gi H us p.2.2)(_:jS ks p)(_:∀Y,ao H Y->Q (.bl true) Y):qn vs H Q E
theorem N4:bg ["family","thing"] ["family","thing"] (aH rW):=bB
theorem MQ{m:FG}{n:XX}(F:aR K "is_thing_of" "is_thing_of" rW f fd)(B:b7 mg)(o:dq mg)(r:aY P w K mg base aC 1 fN dN ["thing"] eF "is_name")(u:aY P w K mg base aC 2 fK dK ["family","thing"] i3 "is_kind")(x:aY P w K mg base aC 3 m n ["thing"] qm "are_own"):aU P w K mg base aC 4 f fd ["family","thing"] qn:=by
 refine F.cz N4 λQc A outer s H vs Q E y h=>?_
 ·obtain @⟨t,a,b,ks,us,p,rfl,fk,c,z,C,g,q⟩:=h
  have i:aQ 3 _:=y;have k:aQ 2 _:=i.mono (by decide)
  have l:aQ 1 _:=i.mono (by decide)
  intro X;refine⟨_,aF (bf (PW.pt (pw_or (cI (b6 (aS eR rfl o.c3 cX (aa (pv 1) (aa (ej (v:=.ty "tuple") rfl B.tuple boot_tuple rfl) af))))) (pw_or1 (bC iR (aS cT rfl B.len cG (aa (pv 1) af)) au (bh _))))) (aA (aO eH)) bw)
   (aA (aO (cY (aP r l (aa (aW bR (pv 1) au) af)) (cY (aP u k (aa (pv 0) (aa (aW bR (pv 1) au) af))) (fy (aP x i (aa (aW bR (pv 1) au) af))))))),?_⟩
  refine ag rfl ⟨⟨_,.inr ⟨"tuple",rfl⟩⟩,.ref a,.ty "tuple",.type "tuple",.type "tuple",true,rfl,rfl,.inl (.tup c),rfl,true,rfl,?_⟩;refine ag rfl ⟨a,_,rfl,.inr (aE.of c),rfl,_,rfl,?_⟩;refine ag rfl (d3 c dZ (nX g.nm λH1 j=>⟨true,rfl,ite_tt rfl ?_⟩));refine bj rfl rfl (d3 (j _ _ c) gg (t9 (fk.same j) g.kn g.kd λH2 D=>⟨true,rfl,ite_tt rfl ?_⟩));have d:=j.trans D;exact ag rfl (d3 (d _ _ c) l' (qm.mk rfl (d _ _ z) (C.keep λb xs e=>d _ _ e) g.on g.so g.bN λI G=>q _ (d.trans G)))
inductive qo(vs:List V)(H:Hp)(Q:VK)(E:XK):Prop
 |mk{t tt:FG}{ks:List F4}{wt:List V}{aM:List Th}(_:vs=[.ref t,.ref tt])(_:FK H t ks)(_:H tt=ih (.tup wt))(_:cQ H wt aM)(_:∀p∈aM,jS ks p)(_:(aM.map (·.1)).Pairwise λa b=>bZ a b=true)(_:aM.length<=63)(_:∀Y,ao H Y->Q (.bl true) Y):qo vs H Q E
theorem N5:bg ["family","thing"] ["family","thing"] (aH j2):=bB
abbrev N6:Vo:=c9 (jC (qd (kx (bH (bE j2) 0)) 1))
abbrev N7:Vo:=c9 (ir (bH (bE j2) 1))
theorem CC:bJ ["family","thing"] (aH j2) ["triple","family"] [none,ih 0] (bS N6):=cJ
theorem CD:bJ ["family","thing"] (aH j2) ["triple"] [none] (bS N7):=cJ
theorem MR(F:aR K "are_things" "are_things" j2 f fd)(B:b7 mg)(W:dq mg)(Y:aY P w K mg base aC 4 fO dO ["family","thing"] qn "is_thing_of")(xa:aY P w K mg base aC 1 fR dR ["names"] hE "are_rising"):aU P w K mg base aC 5 f fd ["family","thing"] qo:=by
 refine F.cz N5 λQc A outer s H vs Q E D h=>?_
 ·obtain @⟨t,tt,ks,wt,y,rfl,fk,o,tv,g,ya,R,q⟩:=h
  have L:aQ 4 _:=D;have S:aQ 1 _:=L.mono (by decide)
  intro X;refine⟨_,aF (bf (PW.pt (pw_or (cI (b6 (aS eR rfl W.c3 cX (aa (pv 1) (aa (ej (v:=.ty "tuple") rfl B.tuple boot_tuple rfl) af)))))
    (pw_or1 (cI (b6 (aS (g6 rfl) rfl B.all boot_all (aa (cj rfl CC (e8 (pv 1)) (λs H fp=>⟨a4 0 CC.nd,cP,aP Y L (aa (pv 1) (aa (pv 0) af))⟩)) af))))))) (aA (aO eH)) bw)
   (aA (aO (aP xa S (aa (cj rfl CD (e8 (pv 1)) (λs H fp=>⟨a4 0 CD.nd,cP,aW (j4 K rfl) (pv 0) au (λ_ _=>rfl)⟩)) af)))),?_⟩
  have lo:=cC tv;refine ag rfl ⟨⟨_,.inr ⟨"tuple",rfl⟩⟩,.ref tt,.ty "tuple",.type "tuple",.type "tuple",true,rfl,rfl,.inl (.tup o),rfl,true,rfl,?_⟩;refine ag rfl ⟨tt,rfl,⟨_,aE.of o⟩,λc n=>?_⟩;refine eS (xs:=wt) (λi ys d H1=>∃j:ap V,d=[j,bd t]/\ys=(XO i true).map V.bl/\ao H H1/\H1 c=bn ys) ⟨none,rfl,rfl,ay n,ah⟩ (λi ys d H1 ab=>by obtain⟨_,_,_,z,G⟩:=ab;exact ⟨G,aE.of (z _ _ o)⟩) ?_ ?_
  ·rintro i x ys d H1 k ⟨j,rfl,rfl,l,U⟩
   have C:=(bQ.mp k).1;obtain⟨p,I,a,b,us,rfl,J,N,O⟩:=L2.Paired.get (tv.same l) k;refine bj rfl rfl (qn.mk rfl (fk.same l) J N O (g p (dQ I)) λH2 m=>⟨m _ _ U,by rw[ar,jX,aJ];omega,cw_next C ⟨_,rfl,?_,λb u e=>?_,ah⟩⟩)
   ·rw[lg,a5];rfl
   ·rw[ai (aB e n)];exact m _ _ (l _ _ e)
  rintro ys d H1 ⟨j,rfl,rfl,l,U⟩;refine⟨c,_,rfl,aq.of U,_,rfl,?_⟩;rw[show(XO wt.length true).all id=true by simp]
  have M:=l _ _ o;have T:=tv.same l;clear U n;refine ag rfl ⟨tt,rfl,⟨_,aE.of M⟩,λc n=>?_⟩;refine eS (xs:=wt) (λi ys d H2=>∃j:ap V,d=[j]/\ys=((y.take i).map (·.1)).map V.str/\ao H1 H2/\H2 c=bn ys) ⟨none,rfl,rfl,ay n,ah⟩ (λi ys d H1 ab=>by obtain⟨_,_,_,z,G⟩:=ab;exact ⟨G,aE.of (z _ _ M)⟩) ?_ ?_
  ·rintro i x ys d H2 k ⟨j,rfl,rfl,m,h2⟩
   have C:=(bQ.mp k).1;obtain⟨p,I,a,b,us,rfl,J,N,O⟩:=L2.Paired.get (T.same m) k;have tk:y.take (i+1)=y.take i++[p]:=by rw[cO,I];rfl
   refine ag rfl (d3 J dZ ⟨h2,by rw[ar,ar,b8,aJ];omega,cw_next C ⟨_,rfl,?_,λb u e=>?_,ah⟩⟩)
   ·rw[tk,a5,a5];rfl
   ·rw[ai (aB e n)];exact m _ _ e
  rintro ys d H2 ⟨j,rfl,rfl,m,h2⟩;rw[lo,cF]at h2;exact hE.nm rfl h2 ya (λx k=>by obtain⟨r,D,rfl⟩:=aZ.mp k;exact(g r D).nm) (by rw[ar];exact R) λxb za=>q _ (l.trans (m.trans za))
structure GW(H:Hp)(w t tb tt:FG)(o:Ys)(ws wb wt:List V)(Qa:List (F4×List F4))(L:F4->List F4)(bk:Bk)(aM:List Th):Prop where
 h:eh H w t tb tt wt aM
 ht:H t=ih (.aX o (.tup ws))
 od:o.dict=none
 fv:bK H ws Qa
 fo:ig Qa L
 ps:∀p∈Qa,p.2.Nodup/\p.2.length<=4
 fs:(Qa.map (·.1)).Pairwise λa b=>bZ a b=true
 hb:H tb=ih (.tup wb)
 bv:b' H wb bk
 bo:kD bk
 bs:jQ bk
 q6:∀q∈bk,q.1∈Qa.map (·.1)
 tg:∀p∈aM,jS (Qa.map (·.1)) p
 ts:(aM.map (·.1)).Pairwise λa b=>bZ a b=true
theorem GW.same{w t tb:FG}{bk:Bk}{a:am Th}(g:GW H w t tb tt o ws wb wt Qa L bk a)(S:ao H Y):GW Y w t tb tt o ws wb wt Qa L bk a:=⟨g.h.same S,S _ _ g.ht,g.od,g.fv.same S,g.fo,g.ps,g.fs,S _ _ g.hb,g.bv.same S,g.bo,g.bs,g.q6,g.tg,g.ts⟩
theorem GW.fk{w t tb:FG}{bk:Bk}{a:am Th}(g:GW H w t tb tt o ws wb wt Qa L bk a):FK H t (Qa.map (·.1)):=by
 obtain⟨kvs,b,c⟩:=g.fv.pairs;exact⟨o,ws,kvs,g.ht,g.od,b,c,g.fo.nd⟩
inductive qp(vs:List V)(H:Hp)(Q:VK)(E:XK):Prop
 |mk{p w t tb tt:FG}{zs:List V}{o:Ys}{ws wb wt:List V}{Qa:List (F4×List F4)}{L:F4->List F4}{bk:Bk}{aM:List Th}(_:vs=[.ref w])(_:H p=ih (.lst zs))(_:GW H w t tb tt o ws wb wt Qa L bk aM)(_:∀Y,ao H Y->Q (.bl true) Y):qp vs H Q E
theorem qq:bg ["thing","family","book","things"] ["thing"] (aH sE):=bB
theorem MS{k:XX}(F:aR K "is_world" "is_world" sE f fd)(B:b7 mg)(l:dq mg)(m:aY P w K mg base aC 6 fF k ["thing"] lV "is_family")(n:aY P w K mg base aC 6 fB dB ["family","thing"] qj "is_book")(r:aY P w K mg base aC 5 fT dT ["family","thing"] qo "are_things"):aU P w K mg base aC 7 f fd ["thing"] qp:=by
 refine F.cz qq λQc A outer s H vs Q E u h=>?_
 ·obtain @⟨p,x,t,tb,tt,zs,o,ws,wb,wt,Qa,L,bk,C,rfl,y,g,q⟩:=h
  have c:aQ 6 _:=u;have j:aQ 5 _:=c.mono (by decide)
  intro X;refine⟨_,aF (bf (PW.pt (pw_or (cI (b6 (aS eR rfl l.c3 cX (aa (pv 0) (aa (ej (v:=.ty "tuple") rfl B.tuple boot_tuple rfl) af))))) (pw_or1 (bC iR (aS cT rfl B.len cG (aa (pv 0) af)) au (bh _))))) (aA (aO eH)) bw)
   (aF (lK (pv 0) (kc rfl (cH (a4 1 qq.nd) (cH (a4 2 qq.nd) (cH (a4 3 qq.nd) gJ)))))
   (aA (aO (cY (aP m c (aa (pv 1) af)) (cY (aP n c (aa (pv 1) (aa (pv 2) af))) (fy (aP r j (aa (pv 1) (aa (pv 3) af))))))))),?_⟩
  have d:=g.h.hw;refine ag rfl ⟨⟨_,.inr ⟨"tuple",rfl⟩⟩,.ref x,.ty "tuple",.type "tuple",.type "tuple",true,rfl,rfl,.inl (.tup d),rfl,true,rfl,?_⟩;refine ag rfl ⟨x,_,rfl,.inr (aE.of d),rfl,_,rfl,?_⟩;refine ag rfl ⟨x,_,rfl,aE.of d,rfl,_,_,rfl,_,_,rfl,_,_,rfl,rfl,?_⟩;refine ag rfl (MK g.ht g.od g.fv g.fo g.ps g.fs λH1 e=>⟨true,rfl,ite_tt rfl ?_⟩);have a:=g.same e;refine bj rfl rfl (qj.mk rfl (e _ _ y) a.fk a.hb a.bv a.bo a.bs a.q6 λH2 i=>⟨true,rfl,ite_tt rfl ?_⟩);have b:=a.same i;exact bj rfl rfl (qo.mk rfl b.fk b.h.ht b.h.tv b.tg b.ts (by have:=b.h.bN;omega) λD z=>q _ (e.trans (i.trans z)))
theorem Kf{f:am Th}{kvs:am (List F4×List V)}(h:cQ H vs f)(h':dh H 1 vs kvs):kvs.map (·.1)=f.map λp=>[p.1]:=L2.Paired.both h (λv p c x y=>by
 obtain⟨a,b,us,e,q,_⟩:=x;obtain⟨l,g,i,j⟩:=y;rw[e]at g;cases g;rw[q]at i;obtain⟨ks,rest⟩:=c;cases ks with
 |nil=>simp at j
 |cons k ks =>
  cases ks with
  |cons m ks=>simp at j
  |nil=>injection (cS i) with z;injection z with d n;injection d with d;show [k]=[p.1];rw[d]) h'
theorem Jc{c:am Th}(h:cQ H vs c):∃kvs,dh H 1 vs kvs/\kvs.map (·.1)=c.map λp=>[p.1]:=by
 induction h with
 |nil=>exact⟨[],.nil,rfl⟩
 |@cons _ p _ _ h _ d =>
  obtain⟨a,b,us,e,q,_⟩:=h;obtain⟨kvs,U,h2⟩:=d;exact⟨([p.1],[.str p.2.1,.ref b])::kvs,.cons ⟨a,e,q,rfl⟩ U,by rw[bD,bD,h2]⟩
theorem MT{c:am Th}(h:(c.map λp=>[p.1]).Pairwise λa b=>cp a b=true):(c.map (·.1)).Pairwise λa b=>bZ a b=true:=by
 rw[ff]at h⊢;exact h.imp λ{a b} z=>by rw[<-pA];exact z
inductive lW(vs:List V)(H:Hp)(Q:VK)(E:XK):Prop
 |mk{p x t tb tt:FG}{wt:List V}{aM:List Th}{v:V}{d:UA}(_:vs=[.ref x,v])(_:eh H x t tb tt wt aM)(_:Dt p H v d)(_:Sm d)(_:∀Y,ao H Y->Q (.bl (b3 (aM.map (·.1)) d)) Y):lW vs H Q E
theorem MU(F:aR K "is_thing" "is_thing" nh f fd)(G:aY P w K mg base aC 1 fN dN ["thing"] eF "is_name"):aU P w K mg base aC 2 f fd ["world","thing"] lW:=by
 refine F.cz Pf λQc A outer s H vs Q E I h=>?_
 ·obtain @⟨p,x,t,tb,tt,wt,l,v,d,rfl,h,r,sm,q⟩:=h
  intro X;refine⟨_,aA (aO (cY (aP G I (aa (pv 1) af)) (fy (eU mW (pv 1) (cj rfl D5 (e8 (aW bR (pv 0) au)) (λs H fp=>⟨a4 0 D5.nd,cP,aW (j4 K rfl) (pv 0) au (λ_ _=>rfl)⟩)) rfl)))),?_⟩;refine ag rfl (eF.mk rfl r sm.str λH1 m=>⟨cu d,rfl,?_⟩);cases u:cu d with
  |false=>have g:=q _ m;rw[pF u]at g;exact g
  |true =>
   obtain⟨th,rfl,J⟩:=sL u;obtain rfl:=gK r;refine ite_tt rfl ?_;have U:=h.same m;have R:=h.bN;have C:=cC h.tv;refine bj rfl rfl ⟨x,_,2,_,rfl,rfl,aE.of U.hw,l',tt,rfl,⟨_,aE.of U.ht⟩,λc z=>?_⟩;refine eS (xs:=wt) (λi ys j H2=>∃n:ap V,j=[n]/\ao H1 H2/\H2 c=bn ys/\ys=((l.take i).map (·.1)).map V.str) ⟨none,rfl,ay z,ah,rfl⟩ (λi ys j H2 S=>by obtain⟨_,_,L,M,_⟩:=S;exact ⟨M,aE.of (L _ _ U.ht)⟩) ?_ ?_
   ·rintro i y ys j H2 B ⟨n,rfl,k,h2,rfl⟩
    have D:i<wt.length:=(bQ.mp B).1;obtain⟨p,N,a,b,us,rfl,O,_⟩:=L2.Paired.get (U.tv.same k) B;refine ag rfl (d3 O dZ ⟨h2,by rw[ar,ar,b8,aJ];omega,cw_next D ⟨_,rfl,λb o e=>by rw[ai (aB e z)];exact k _ _ e,ah,?_⟩⟩)
    rw[cO,N,a5,a5];rfl
   ·rintro ys j H2 ⟨n,rfl,k,h2,rfl⟩
    rw[C,cF]at h2;refine⟨c,_,rfl,.inl (aq.of h2),rfl,h7 _,?_⟩;rw[ak bX,iJ];have g:=q _ (m.trans k);rw[show b3 (l.map (·.1)) (.str th)=decide (th∈l.map (·.1)) by show(cM th&&_)=_;rw[J];rfl]at g
    exact g
inductive lX(C:FG)(vs:List V)(H:Hp)(Q:VK)(E:XK):Prop
 |mk{p x t tb tt:FG}{wt:List V}{aM:List Th}{v:V}{d:UA}(_:vs=[.ref x,v])(_:eh H x t tb tt wt aM)(_:Dt p H v d)(_:Sm d)(_:qF C (b3 (aM.map (·.1)) d) H Q E):lX C vs H Q E
theorem MV(F:aR K "check_thing" "check_thing" tj f fd)(T:jx K mg "NoThing" C)(k:aY P w K mg base aC 2 fI dI ["world","thing"] lW "is_thing"):aU P w K mg base (cg P w) 3 f fd ["world","thing"] (lX C):=by
 refine F.kR Pg (λvs H Q E h=>?_) (λQc A outer s H vs Q E l h=>?_)
 ·obtain⟨rfl,_⟩:=h;rfl
 ·obtain @⟨p,x,t,tb,tt,wt,i,v,d,rfl,h,r,n,c⟩:=h
  have j:aQ 2 _:=l;refine⟨_,aA (bf (cI (b6 (aP k j (aa (pv 0) (aa (pv 1) af))))) (aA (oX (pw T.q T.kp rfl T.m (aa bO af)))) bw),?_⟩;refine⟨_,rfl,_,rfl,lW.mk rfl h r n λH1 a=>⟨_,rfl,?_⟩⟩;cases b:b3 (i.map (·.1)) d with
  |true=>exact c.1 b H1 a
  |false=>exact⟨by show 1<=100;decide,λe g=>⟨e,C,none,none,rfl,ah,(λd o=>by cases o),T.x,T.q,a.free g,tL a c T.x T.q e g b⟩⟩
abbrev cR(aM:List Th)(n:F4):List Th:=aM.filter λp=>!decide (p.1=n)
inductive lY(vs:List V)(H:Hp)(Q:VK)(E:XK):Prop
 |mk{x t tb tt:FG}{wt:List V}{aM:List Th}{n:F4}(_:vs=[.ref x,.str n])(_:eh H x t tb tt wt aM)(_:∀r ys Y,ao H Y->Y r=ih (.tup ys)->cQ Y ys (cR aM n)->Q (.ref r) Y):lY vs H Q E
theorem N8:bg ["world","thing"] ["world","thing"] (aH m3):=bB
abbrev Pl:Vo:=c9 (ir (bH (bE m3) 0))
theorem C6:bJ ["world","thing"] (aH m3) ["triple","thing"] [none,ih 1] (bS Pl):=cJ
theorem MW(F:aR K "without_thing" "without_thing" m3 f fd)(B:b7 mg):aU P w K mg base aC 1 f fd ["world","thing"] lY:=by
 refine F.cz N8 λQc A outer s H vs Q E U h=>?_
 ·obtain @⟨x,t,tb,tt,wt,g,n,rfl,h,q⟩:=h
  intro X;refine⟨_,aA (aO (dX iH rfl B.tuple boot_tuple (aa (cj rfl C6 (e8 (aW bR (pv 0) au)) (λs H fp=>⟨a4 0 C6.nd,h8 (bC iR (aW (j4 K rfl) (pv 0) au) (pv 1) (bh _)),pv 0⟩)) af))),?_⟩;have T:=h.bN;have I:=cC h.tv;refine ag rfl ⟨x,_,2,_,rfl,rfl,aE.of h.hw,l',tt,rfl,⟨_,aE.of h.ht⟩,λc v=>?_⟩;refine eS (xs:=wt) (λi ys k H2=>∃m:ap V,k=[m,ih (.str n)]/\ao H H2/\H2 c=bn ys/\cQ H2 ys (cR (g.take i) n)) ⟨none,rfl,ay v,ah,.nil⟩ (λi ys k H2 z=>by obtain⟨_,_,L,M,_⟩:=z;exact ⟨M,aE.of (L _ _ h.ht)⟩) ?_ ?_
  ·rintro i y ys k H2 C ⟨m,rfl,j,h2,d⟩
   have u:i<wt.length:=(bQ.mp C).1;obtain⟨p,N,a,b,us,rfl,D,O,R⟩:=L2.Paired.get (h.tv.same j) C;have tk:g.take (i+1)=g.take i++[p]:=by rw[cO,N];rfl
   have W:=cC d;have S:(cR (g.take i) n).length<=(g.take i).length:=fu _ _;rw[b8]at S;refine ag rfl ⟨a,_,0,_,rfl,rfl,aE.of D,dZ,_,rfl,rfl,_,rfl,?_⟩
   by_cases e:p.1=n
   ·refine ite_ff (by rw[e];simp) (cw_next u (ag rfl ⟨j,h2,?_⟩))
    unfold cR;rw[tk,f3,iG (by simp[e]),rD,ei]
    exact d
   ·refine ite_tt (by simpa using e) (ag rfl ⟨h2,by rw[aJ];omega,cw_next u ⟨_,rfl,λb o e=>by rw[ai (aB e v)];exact j _ _ e,ah,?_⟩⟩)
    have l:∀{zs:am V} b xs,H2 b=bi xs->upd H2 c (.lst zs) b=bi xs:=λb xs e=>by rw[ai (bx e h2)];exact e
    unfold cR;rw[tk,f3,h6 (by simp[e])]
    exact gY (d.keep l) ⟨a,b,us,rfl,l _ _ D,l _ _ O,R.keep l⟩
  ·rintro ys k H2 ⟨m,rfl,j,h2,d⟩
   rw[I,cF]at d;refine⟨c,_,rfl,.inl ⟨aq.of h2,λr J=>?_⟩⟩;have G:=ay (o:=.tup ys) J;exact q r ys _ (j.trans G) ah (d.same G)
inductive lZ(vs:List V)(H:Hp)(Q:VK)(E:XK):Prop
 |mk{x t tb tt b:FG}{wt us:List V}{aM:List Th}{n k:F4}{own:Own}(_:vs=[.ref x,.str n,.str k,.ref b])(_:eh H x t tb tt wt aM)(_:H b=ih (.tup us))(_:gi H us own)
  (_:∀r hW iw gQ Y,ao H Y->Y r=ih (.tup [.ref t,.ref tb,.ref hW])->Y hW=ih (.tup iw)->cQ Y iw gQ->gQ.Perm (cR aM n++[(n,k,own)])->(gQ.map (·.1)).Pairwise (λa b=>bZ a b=true)->Q (.ref r) Y):lZ vs H Q E
noncomputable abbrev qG:List F4:=["world","thing","kind","own"]
theorem C7:bg ["world","thing","kind","own","things"] qG (aH t6):=bB
theorem N9{d:am Th}{n k:F4}{own:Own}(f:(d.map (·.1)).Nodup):((cR d n++[(n,k,own)]).map (·.1)).Nodup:=by
 rw[a5];refine gG.mpr ⟨f.sublist (Zz _ Gw),by simp,λa g b c e=>?_⟩
 obtain⟨p,h,rfl⟩:=aZ.mp g;have c:b=n:=b9.mp c;have:=(d9.mp h).2;rw[e,c]at this;simp at this
theorem MX(F:aR K "with_thing" "with_thing" t6 f fd)(B:b7 mg)(Y:dq mg)(GW:aY P w K mg base aC 1 fW dW ["world","thing"] lY "without_thing"):aU P w K mg base aC 2 f fd qG lZ:=by
 refine F.cz C7 λQc A outer s H vs Q E xa h=>?_
 ·obtain @⟨x,t,tb,tt,b,wt,us,j,n,k,own,rfl,h,ya,za,q⟩:=h
  intro X;refine⟨_,aF (bt 4 C7.nd (bF BB (aP GW xa (aa (pv 0) (aa (pv 1) af))) (nS (aa (nS (aa (pv 1) (aa (pv 2) (aa (pv 3) af)))) af))))
   (aA (aO (nS (aa (aW bR (pv 0) au) (aa (aW bR (pv 0) au) (aa (dX iH rfl B.tuple boot_tuple (aa (aS oQ rfl Y.sorted boot_sorted (aa (pv 4) af)) af)) af)))))),?_⟩
  refine bj rfl rfl (lY.mk rfl h λxb ys H1 yb U G=>?_);refine ed rfl rfl rfl ⟨hT,λI yg zb _ O=>⟨c0,λxc zg J _ R=>?_⟩⟩;have l:=zb.trans J;have zf:=h.bN;have xf:=cC G;have xh:(cR j n).length<=j.length:=fu _ _;refine⟨xb,xc,ys,_,rfl,rfl,l _ _ U,R,by rw[aJ];show ys.length+1<=_;omega,λyc g m zc=>?_⟩
  have c:=yb.trans (l.trans m);have L:cQ g (ys++[V.ref I]) (cR j n++[(n,k,own)]):=gY (G.same (l.trans m)) ⟨I,b,us,rfl,(J.trans m) _ _ O,c _ _ ya,za.keep λb xs e=>c _ _ e⟩;have M:=N9 (n:=n) (k:=k) (own:=own) h.nd;obtain⟨kvs,xd,yd⟩:=Jc L;refine ag rfl (d3 (c _ _ h.hw) dZ (ag rfl (d3 (c _ _ h.hw) gg (ag rfl ⟨yc,_,kvs,1,rfl,.inr (aE.of zc),xd,aG _,?_,by rw[df];show ys.length+1<=63;omega,λD a yf zd N xe xg C=>?_⟩))))
  ·rw[yd,jg,ff]
   rw[jg,ff]at M;exact M.imp λh z=>h (oM z).1
  obtain⟨v,S,i⟩:=oR N L;have i:cQ g a v:=i;have ye:=ay (o:=.lst a) zd;refine⟨D,a,rfl,.inl ⟨aq.of ah,λd T=>?_⟩⟩;have p:=ye.trans (ay (o:=.tup a) T);have y:upd (upd g D (.lst a)) d (.tup a) d=bi a:=ah;generalize upd (upd g D (.lst a)) d (.tup a)=yh at p y⊢;rw[Kf i xe]at C;exact⟨hT,λr ze u _ W=>q r d a v ze (c.trans (p.trans u)) W (u _ _ y) (i.same (p.trans u)) S (MT C)⟩
theorem nq{d:UA}(h:b3 ks d=true):∃k,d=.str k/\k∈ks/\Nm k:=by
 cases d with
 |str x =>
  have h:(cM x&&decide (x∈ks))=true:=h;simp only[gW,rB]at h;exact⟨x,rfl,h.2,pG h.1⟩
 |_=>cases h
def uw(H:Hp)(r t tb:FG)(Qe:List Th):Prop:= ∃hW iw gQ,H r=ih (.tup [.ref t,.ref tb,.ref hW])/\H hW=ih (.tup iw)/\cQ H iw gQ/\gQ.Perm Qe/\(gQ.map (·.1)).Pairwise λa b=>bZ a b=true
inductive qH(CN CT CK:FG)(vs:List V)(H:Hp)(Q:VK)(E:XK):Prop
 |mk{p x t tb tt:FG}{wt:List V}{aM:List Th}{ks:List F4}{vn vk:V}{dn dk:UA}(_:vs=[.ref x,vn,vk])(_:eh H x t tb tt wt aM)(_:FK H t ks)(_:Dt p H vn dn)(_:Sm dn)(_:Dt p H vk dk)(_:Sm dk)
  (_:cu dn=false ->∀a Y,ao H Y->gE CN Y a->E (.ref CN) (ih a) Y)
  (_:b3 (aM.map (·.1)) dn=true ->∀a Y,ao H Y->gE CT Y a->E (.ref CT) (ih a) Y)
  (_:cu dn=true->b3 (aM.map (·.1)) dn=false->b3 ks dk=false ->∀a Y,ao H Y->gE CK Y a->E (.ref CK) (ih a) Y)
  (_:∀n k,dn=.str n->Nm n->n ∉ aM.map (·.1)->dk=.str k->k∈ks ->∀r Y,ao H Y->uw Y r t tb (cR aM n++[(n,k,[])])->Q (.ref r) Y):qH CN CT CK vs H Q E
theorem Pn:bg ["world","thing","kind"] ["world","thing","kind"] (aH tY):=bB
theorem Oa{L CT M:FG}(F:aR K "thing_begun" "thing_begun" tY f fd)(T:jx K mg "Taken" CT)
  (zb:aY P w K mg base (cg P w) 2 fN dN ["thing"] (qh L) "check_name") (xc:aY P w K mg base aC 2 fI dI ["world","thing"] lW "is_thing")
  (yc:aY P w K mg base (cg P w) 3 fK dK ["family","thing"] (nY M) "check_kind") (GW:aY P w K mg base aC 2 fW dW qG lZ "with_thing"):aU P w K mg base (cg P w) 4 f fd ["world","thing","kind"] (qH L CT M):=by
 refine F.kR Pn (λvs H Q E h=>?_) (λQc A outer s H vs Q E B h=>?_)
 ·obtain⟨rfl,_⟩:=h;rfl
 ·obtain @⟨p,x,t,tb,tt,wt,G,ks,xi,yi,dn,zi,rfl,h,fk,N,O,R,zc,xd,yd,zd,q⟩:=h
  have xe:=B.units;have ye:=B.gd;have I:aQ 3 _:=B;have u:aQ 2 _:=I.mono (by decide)
  refine⟨_,aF (eT (lI zb u (aa (pv 1) af)))
   (aF (bf (b6 (aP xc u (aa (pv 0) (aa (pv 1) af)))) (aA (oX (pw T.q T.kp rfl T.m (aa (Kw (Bz bO (Bz (L5 xe ye (pv 1)) L8))) af)))) bw)
   (aF (eT (lI yc I (aa (aW bR (pv 0) au) (aa (pv 2) af))))
   (aA (aO (aP GW u (aa (pv 0) (aa (pv 1) (aa (pv 2) (aa (cZ af) af))))))))),?_⟩
  refine⟨_,rfl,ME N O (λg H1 i=>?_) (λg a H1 i e=>xd g a H1 i e)⟩;obtain⟨n,rfl,ya⟩:=sL g;obtain rfl:=gK N;have C:=pG ya;have U:=h.same i;refine⟨_,rfl,_,rfl,lW.mk (p:=p) rfl U (.str n) O λH2 ze=>⟨_,rfl,?_⟩⟩;have c:=i.trans ze;cases j:b3 (G.map (·.1)) (.str n) with
  |true =>
   refine⟨⟨_,rfl,by decide +kernel⟩,_,rfl,.inl ⟨n,rfl,by have:=C.hi;omega⟩,λy xf=>⟨⟨_,rfl,xf⟩,λz xj=>⟨by show 1<=100;decide,λe S=>?_⟩⟩⟩
   refine⟨e,CT,none,none,rfl,ah,(λd yf=>by cases yf),T.x,T.q,c.free S,?_⟩
   refine yd j e _ (λb o l=>?_) (.plain ah);have V:b≠e:=aB (c _ _ l) S;rw[ai V,ai V];exact c _ _ l
  |false =>
   have Y:n ∉ G.map (·.1):=λz=>by rw[j6 z C]at j;cases j
   refine⟨_,rfl,x,_,0,_,rfl,rfl,aE.of (c _ _ h.hw),dZ,_,rfl,Cw (fk.same c) (Dt.same R c) zc (λv W D=>?_) (λv a W D e=>zd g j v a W (c.trans D) e)⟩;obtain⟨k,rfl,za,yj⟩:=nq v;obtain rfl:=gK R;have J:=c.trans D;refine⟨_,rfl,_,rfl,_,rfl,ba _,λb l=>?_⟩;have X:=ay (o:=.tup []) l;refine lZ.mk (us:=[]) (own:=[]) rfl (h.same (J.trans X)) ah .nil λr xb yb xa zf xg yg zg xh yh zh=>?_;exact q n k rfl C Y rfl za r zf (J.trans (X.trans xg)) ⟨xb,yb,xa,yg,zg,xh,yh,zh⟩
inductive qI(C:FG)(vs:List V)(H:Hp)(Q:VK)(E:XK):Prop
 |mk{p x t tb tt:FG}{wt:List V}{aM:List Th}{vn:V}{dn:UA}(_:vs=[.ref x,vn])(_:eh H x t tb tt wt aM)(_:Dt p H vn dn)(_:Sm dn)
  (_:b3 (aM.map (·.1)) dn=false ->∀a Y,ao H Y->gE C Y a->E (.ref C) (ih a) Y)
  (_:∀n,dn=.str n->n∈aM.map (·.1) ->∀r hW iw Y,ao H Y->Y r=ih (.tup [.ref t,.ref tb,.ref hW])->Y hW=ih (.tup iw)->cQ Y iw (cR aM n)->Q (.ref r) Y):qI C vs H Q E
theorem Po:bg ["world","thing"] ["world","thing"] (aH tZ):=bB
theorem Ob{dC:XX}(F:aR K "thing_ended" "thing_ended" tZ f fd)(k:aY P w K mg base (cg P w) 3 fC dC ["world","thing"] (lX C) "check_thing")(GW:aY P w K mg base aC 1 fW dW ["world","thing"] lY "without_thing"):aU P w K mg base (cg P w) 4 f fd ["world","thing"] (qI C):=by
 refine F.kR Po (λvs H Q E h=>?_) (λQc A outer s H vs Q E l h=>?_)
 ·obtain⟨rfl,_⟩:=h;rfl
 ·obtain @⟨p,x,t,tb,tt,wt,D,G,dn,rfl,h,d,m,u,q⟩:=h
  have b:aQ 3 _:=l;have g:aQ 1 _:=b.mono (by decide)
  refine⟨_,aF (eT (lI k b (aa (pv 0) (aa (pv 1) af))))
   (aA (aO (cZ (aa (aW bR (pv 0) au) (aa (aW bR (pv 0) au) (aa (aP GW g (aa (pv 0) (aa (pv 1) af))) af)))))),?_⟩
  refine⟨_,rfl,_,rfl,lX.mk rfl h d m ⟨λv H1 e=>?_,u⟩⟩;obtain⟨n,rfl,i,I⟩:=nq v;obtain rfl:=gK d;have U:=h.same e;refine⟨_,rfl,x,_,0,_,rfl,rfl,aE.of U.hw,dZ,_,rfl,x,_,1,_,rfl,rfl,aE.of U.hw,gg,_,rfl,_,rfl,lY.mk rfl U λr ys H2 y j z=>⟨hT,λc B=>?_⟩⟩;have a:=ay (o:=.tup [.ref t,.ref tb,.ref r]) B;exact q n rfl i c r ys _ (e.trans (y.trans a)) ah (a _ _ j) (z.same a)
inductive qr(C:FG)(vs:List V)(H:Hp)(Q:VK)(E:XK):Prop
 |mk{p x t tb tt:FG}{wt:List V}{aM:List Th}{v:V}{d:UA}(_:vs=[.ref x,v])(_:eh H x t tb tt wt aM)(_:Dt p H v d)(_:Sm d)
  (_:b3 (aM.map (·.1)) d=false ->∀a Y,ao H Y->gE C Y a->E (.ref C) (ih a) Y)
  (_:∀th∈aM,d=.str th.1 ->∀r b us Y,ao H Y->Y r=ih (.tup [.str th.2.1,.ref b])->Y b=ih (.tup us)->gi Y us th.2.2->Q (.ref r) Y):qr C vs H Q E
theorem MY{dC:XX}(F:aR K "kind_and_own" "kind_and_own" ni f fd)(xc:aY P w K mg base (cg P w) 3 fC dC ["world","thing"] (lX C) "check_thing"):aU P w K mg base (cg P w) 4 f fd ["world","thing"] (qr C):=by
 refine F.kR Ph (λvs H Q E h=>?_) (λQc A outer s H vs Q E yc h=>?_)
 ·obtain⟨rfl,_⟩:=h;rfl
 ·obtain @⟨p,x,t,tb,tt,wt,g,v,d,rfl,h,S,sm,zc,q⟩:=h
  have za:aQ 3 _:=yc;refine⟨_,aF (eT (lI xc za (aa (pv 0) (aa (pv 1) af))))
   (aA (aO (aW c6 (cj rfl D7 (e8 (aW bR (pv 0) au)) (λs H fp=>⟨a4 0 D7.nd,h8 (bC di (aW (j4 K rfl) (pv 0) au) (pv 1) (bh _)),lx KI (pv 0) (lH au) lG⟩)) au))),?_⟩
  refine bj rfl rfl (lX.mk rfl h S sm ⟨λxd H1 T=>?_,zc⟩);obtain⟨n,rfl,m,_⟩:=nq xd;obtain rfl:=gK S;obtain⟨th,D,rfl⟩:=aZ.mp m;have U:=h.same T;have xe:=h.bN;have ya:=cC h.tv;refine ag rfl ⟨x,_,2,_,rfl,rfl,aE.of U.hw,l',tt,rfl,⟨_,aE.of U.ht⟩,λc W=>?_⟩;refine eS (xs:=wt) (λi ys u H2=>∃G:ap V,u=[G,ih (.str th.1)]/\ao H1 H2/\H2 c=bn ys/\q5 H2 ys ((g.take i).filter λp=>decide (p.1=th.1))) ⟨none,rfl,ay W,ah,.nil⟩ (λi ys u H2 ab=>by obtain⟨_,_,z1,z2,_⟩:=ab;exact ⟨z2,aE.of (z1 _ _ U.ht)⟩) ?_ ?_
  ·rintro i y ys u H2 X ⟨G,rfl,k,h2,j⟩
   have O:i<wt.length:=(bQ.mp X).1;obtain⟨p,I,a,b,us,rfl,Y,J,L⟩:=L2.Paired.get (U.tv.same k) X;have tk:g.take (i+1)=g.take i++[p]:=by rw[cO,I];rfl
   have yl:=cC j;have xa:((g.take i).filter λp=>decide (p.1=th.1)).length<=(g.take i).length:=fu _ _;rw[b8]at xa;refine ag rfl ⟨a,_,0,_,rfl,rfl,aE.of Y,dZ,_,rfl,rfl,_,rfl,?_⟩;refine dm (λe=>?_) (λe=>?_)
   ·have e:p.1=th.1:=by
     have:=fw e;injection this
    refine ag rfl ⟨1,rfl,a,_,rfl,Y,λr M l N=>?_⟩;have N:M r=bi [.str p.2.1,.ref b]:=N;have R:=l _ _ h2;have B:∀{zs:am V} b xs,M b=bi xs->upd M c (.lst zs) b=bi xs:=λb xs e=>by rw[ai (bx e R)];exact e
    refine⟨R,by rw[aJ];omega,cw_next O ⟨_,rfl,λb o e=>by rw[ai (aB e W)];exact l _ _ (k _ _ e),ah,?_⟩⟩
    rw[tk,f3,h6 (by simp[e])]
    exact gY ((j.keep λb xs e=>l _ _ e).keep B) ⟨r,b,us,rfl,B _ _ N,B _ _ (l _ _ J),(L.keep λb xs e=>l _ _ e).keep B⟩
   ·have e : ¬ p.1=th.1:=λz=>e (bq (by rw[z]))
    refine cw_next O (ag rfl ⟨k,h2,?_⟩);rw[tk,f3,iG (by simp[e])]
    simpa using j
  ·rintro ys u H2 ⟨G,rfl,k,h2,j⟩
   rw[ya,cF]at j;have m:th∈g.filter λp=>decide (p.1=th.1):=d9.mpr ⟨D,bq rfl⟩;generalize yd:(g.filter λp=>decide (p.1=th.1))=xa at j m;cases j with
   |nil=>cases m
   |@cons v p vs fs zd _ =>
    have I:p∈g.filter λp=>decide (p.1=th.1):=by rw[yd];exact aT
    obtain⟨xb,yb⟩:=d9.mp I;obtain rfl:=uv h.nd xb D (fw yb);obtain⟨r,b,us,rfl,zb,J,L⟩:=zd;exact⟨c,_,0,.ref r,rfl,rfl,aq.of h2,dZ,q _ D rfl r b us H2 (T.trans k) zb J L⟩
inductive qJ(CT CK:FG)(vs:List V)(H:Hp)(Q:VK)(E:XK):Prop
 |mk{p x t tb tt:FG}{wt:List V}{aM:List Th}{ks:List F4}{vn vk:V}{dn dk:UA}(_:vs=[.ref x,vn,vk])(_:eh H x t tb tt wt aM)(_:FK H t ks)(_:Dt p H vn dn)(_:Sm dn)(_:Dt p H vk dk)(_:Sm dk)
  (_:b3 (aM.map (·.1)) dn=false ->∀a Y,ao H Y->gE CT Y a->E (.ref CT) (ih a) Y)
  (_:b3 (aM.map (·.1)) dn=true->b3 ks dk=false ->∀a Y,ao H Y->gE CK Y a->E (.ref CK) (ih a) Y)
  (_:∀th∈aM,dn=.str th.1 ->∀k,dk=.str k->k∈ks ->∀r Y,ao H Y->uw Y r t tb (cR aM th.1++[(th.1,k,th.2.2)])->Q (.ref r) Y):qJ CT CK vs H Q E
theorem D8:bg ["world","thing","kind","own"] ["world","thing","kind"] (aH tD):=bB
theorem Oc{CT m:FG}(F:aR K "thing_turned" "thing_turned" tD f fd)(J:aY P w K mg base (cg P w) 4 fO dO ["world","thing"] (qr CT) "kind_and_own")(L:aY P w K mg base (cg P w) 3 fK dK ["family","thing"] (nY m) "check_kind")(GW:aY P w K mg base aC 2 fW dW qG lZ "with_thing"):aU P w K mg base (cg P w) 5 f fd ["world","thing","kind"] (qJ CT m):=by
 refine F.kR D8 (λvs H Q E h=>?_) (λQc A outer s H vs Q E M h=>?_)
 ·obtain⟨rfl,_⟩:=h;rfl
 ·obtain @⟨p,x,t,tb,tt,wt,v,ks,yb,zb,dn,xc,rfl,h,fk,n,N,o,O,R,S,q⟩:=h
  have g:aQ 4 _:=M;have y:aQ 3 _:=g.mono (by decide)
  have z:aQ 2 _:=g.mono (by decide)
  refine⟨_,aF (bt 3 D8.nd (aW bR (lI J g (aa (pv 0) (aa (pv 1) af))) au))
   (aF (eT (lI L y (aa (aW bR (pv 0) au) (aa (pv 2) af))))
   (aA (aO (aP GW z (aa (pv 0) (aa (pv 1) (aa (pv 2) (aa (pv 3) af)))))))),?_⟩
  refine bj rfl rfl (qr.mk rfl h n N R λth j T yc b us H1 c B U V=>?_);subst T;obtain rfl:=gK n;have C:b3 (v.map (·.1)) (.str th.1)=true:=j6 (aZ.mpr ⟨th,j,rfl⟩) (h.nm th j);refine d3 B gg ?_;refine ag rfl (d3 (c _ _ h.hw) dZ (ag rfl (Cw (fk.same c) (Dt.same o c) O (λi H2 d=>?_) (λi a H2 d e=>S C i a H2 (c.trans d) e))));obtain⟨k,rfl,D,zc⟩:=nq i;obtain rfl:=gK o;have l:=c.trans d;refine i0 rfl rfl rfl rfl (lZ.mk rfl (h.same l) (d _ _ U) (V.keep λb xs e=>d _ _ e) λr G I u W X Y xa ya za xb=>?_);exact q th j rfl k rfl D r W (l.trans X) ⟨G,I,u,Y,xa,ya,za,xb⟩
def qK:List (Nat×F4):=[(0,"NoName"),(1,"NoKind"),(2,"NoParents"),(3,"Taken"),(4,"InUse"),(5,"NoEntry"),(6,"NoThing"),(7,"NoNumber"),(8,"NotAbove"),(9,"Shut"),(10,"NoText"),(11,"NoRow"),(12,"Ring"),(13,"Round"),(14,"Missing"),(15,"Endless")]
def iC:List Nat:=[0,3,6,1]
structure qL(K:Yh)(mg:F4->Option i')(c:Nat->FG):Prop where
 n:∀p∈qK,mg p.2=ih (.ref (c p.1))
 ve:mg "ValueError" = none
 k:∀i∈iC,∀j,j<16->kitOne K (.ref (c i)) (.ref (c j))=ih (decide (i=j))
 v:∀i∈iC,kitOne K (.ref (c i)) (.type "ValueError")=ih true
 x:∀i∈iC,fA K (c i)
 b:∀B,mg "LineError" = ih (.ref B) ->∀i∈iC,mroIn K (c i) (.ref B)=ih true
theorem Lz:Vx "ValueError" = ih (.type "ValueError"):=by decide +kernel
structure gT(K:Yh)(c:Nat->FG)(H:Hp)(x:Option i')(a:FG)(i:Nat):Prop where
 ob:∃n dx,H a=ih (fG n (c i) dx a) /\∀d,dx=ih d ->∃fs,H d=ih (gz d fs)
 cl:fA K (c i)
 it:i∈iC
 hx:x=ih (.ref a)
 tl:nT H x
theorem gT.same{c:Nat->FG}{x:ap i'}(h:gT K c H x a i)(s:ao H Y):gT K c Y x a i:=
 ⟨let ⟨n,dx,e,r⟩:=h.ob;⟨n,dx,s _ _ e,λd b=>let ⟨fs,z⟩:=r d b;⟨fs,s _ _ z⟩⟩,h.cl,h.it,h.hx,h.tl.same s⟩
theorem gT.of{c:Nat->FG}(T:qL K mg c)(h:gE (c i) H a)(hi:i∈iC):gT K c H (ih (.ref a)) a i:=⟨h.1,T.x i hi,hi,rfl,h.2⟩
def u6:Vo->Option F4|.Name x _=>ih x|_=>none
theorem sN{X:Cx}{c:Nat->FG}:∀{js:am (Nat×F4)}{es:am Vo},es.map u6=js.map (λp=>ih p.2)->(∀p∈js,X.mg p.2=ih (.ref (c p.1))/\Gl X p.2/\(p.2==("__debug__" : F4))=false)->PA X es (λσ H Q=>Q (js.map λp=>V.ref (c p.1)) H)
 |[],[],_,_=>λpos J s σ H Q I q=>af pos J s σ H Q I q
 |[],_::_,h,_=>by cases h
 |_::_,[],h,_=>by cases h
 |p::js,e::es,h,a=>by
  obtain⟨U,h2⟩:=oM h;obtain⟨m,g,d⟩:=a p aT;cases e <;> first|cases U;done|skip
  rename_i x pos
  have ex:x=p.2:=by injection U
  subst ex;exact aa (iL (v:=.ref (c p.1)) g m rfl d) (sN h2 λq b=>a q (a8 _ b)) rfl
def kz:Nat->F4|0 => "name" | 3 => "taken" | 6 => "thing" | _ => "kind"
section
variable{c:Nat->FG}
def D9(K:Yh)(c:Nat->FG):Option i'->Sp:=λx vs H Q _=>∃(a:FG) (i:Nat),vs=[.ref a]/\gT K c H x a i /\∀l Y,ao H Y->Y l=ih (.lst [.str (kz i)])->Q (.ref l) Y
noncomputable abbrev QK:List F4:=["_law_e","_law_words"]
theorem D':bg QK ["_law_e"] (aH pd):=bB
abbrev d7:List (Nat×F4):=[(15,"Endless"),(4,"InUse"),(14,"Missing"),(5,"NoEntry"),(7,"NoNumber"),(2,"NoParents"),(11,"NoRow"),(8,"NotAbove"),(10,"NoText")]
abbrev ix:List (Nat×F4):=[(12,"Ring"),(13,"Round"),(9,"Shut")]
theorem mz:∀p∈d7++ix,p∈qK/\(aH pd).names.lookup p.2=ih .globalImplicit/\(p.2==("__debug__" : F4))=false:=by decide +kernel
theorem Od(F:aR K "_law_refusal" "_law_refusal" pd f fd)(za:dq mg)(T:qL K mg c):p1 P w K mg base 1 f fd ["_law_e"] (D9 K c):=by
 refine F.P2 D' (λx vs H Q E h=>?_) (λQc A outer s H vs Q E ze h=>?_)
 ·obtain⟨a,i,rfl,_⟩:=h;rfl
 ·obtain⟨a,i,rfl,ct,q⟩:=h
  have xc:∀j x,(j,x)∈qK->mg x=ih (.ref (c j)):=λj x h=>T.n (j,x) h;refine⟨_,aF (bt 1 D'.nd (ea af))
   (aF (bf (b6 (aS mY rfl za.c3 cX (aa (pv 0) (aa (iL (v:=.ref (c 0)) rfl (xc 0 "NoName" (by decide)) rfl) af)))) (aA (eT (fz g5 h3 h5 gr (pv 1) (aa bO af)))) bw)
   (aF (bf (b6 (aS mY rfl za.c3 cX (aa (pv 0) (aa (iL (v:=.ref (c 3)) rfl (xc 3 "Taken" (by decide)) rfl) af)))) (aA (eT (fz g5 h3 h5 gr (pv 1) (aa bO af)))) bw)
   (aF (bf (b6 (aS mY rfl za.c3 cX (aa (pv 0) (aa (iL (v:=.ref (c 6)) rfl (xc 6 "NoThing" (by decide)) rfl) af)))) (aA (eT (fz g5 h3 h5 gr (pv 1) (aa bO af)))) bw)
   (aF (bf (b6 (aS mY rfl za.c3 cX (aa (pv 0) (aa (iL (v:=.ref (c 1)) rfl (xc 1 "NoKind" (by decide)) rfl) af)))) (aA (eT (fz g5 h3 h5 gr (pv 1) (aa bO af)))) bw)
   (aF (bf (b6 (aS wU rfl za.c3 cX (aa (pv 0) (aa (cZ (sN (c:=c) (js:=d7) (by decide +kernel) λp W=>⟨T.n p (mz p (gm _ W)).1,(mz p (gm _ W)).2.1,(mz p (gm _ W)).2.2⟩)) af)))) (aA (eT (fz g5 h3 h5 gr (pv 1) (aa bO af)))) bw)
   (aF (bf (PW.pt (pw_or (b6 (aS wU rfl za.c3 cX (aa (pv 0) (aa (cZ (sN (c:=c) (js:=ix) (by decide +kernel) λp W=>⟨T.n p (mz p (et _ W)).1,(mz p (et _ W)).2.1,(mz p (et _ W)).2.2⟩)) af)))) (pw_or1 (cI (b6 (aS mY rfl za.c3 cX (aa (pv 0) (aa (ej (v:=.ty "ValueError") rfl T.ve Lz rfl) af)))))))) (aA (eT (fz g5 h3 h5 gr (pv 1) (aa bO af)))) bw)
   (aA (aO (pv 1))))))))),?_⟩
  refine⟨ba _,λl zb=>?_⟩;have yb:=ay (o:=.lst []) zb;have U:upd H l (.lst []) l=bn []:=ah;generalize upd H l (.lst [])=M at yb U⊢;have N:∀n,n<=9->n<=UJ:=λn h=>by rw[aJ];omega
  have ya:∀js:am (Nat×F4),(∀p∈js,p.1<16/\i≠p.1) ->∀B∈js.map (λp=>c p.1),kitOne K (.ref (c i)) (.ref B)=ih false:=λjs zc B xd=>by
   obtain⟨p,W,rfl⟩:=aZ.mp xd;rw[T.k i ct.it p.1 (zc p W).1,a' (zc p W).2]
  have hi:=ct.it;unfold iC at hi;have yd:i=0\/i=3\/i=6\/i=1:=by simpa using hi
  obtain⟨n1,X,Y,xa⟩:=(ct.same yb).ob;rcases yd with rfl|rfl|rfl|rfl
  ·
   refine ag rfl ⟨a,n1,c 0,X,.ref (c 0),.ref (c 0),_,rfl,.inl ⟨_,rfl,rfl⟩,Y,ct.cl,xa,T.k 0 ct.it 0 (by decide),_,rfl,ite_tt (bq rfl) (ag rfl ⟨.inl ⟨rfl,_,aq.of U⟩,l,_,_,rfl,rfl,U,N 1 (by decide),?_⟩)⟩
   have G:ao H (upd M l (.lst ([]++[V.str "name"]))):=λb u e=>by rw[ai (aB e zb)];exact yb _ _ e
   have h2:upd M l (.lst ([]++[V.str "name"])) l=bn [V.str "name"]:=ah;generalize upd M l (.lst ([]++[V.str "name"]))=R at G h2⊢;obtain⟨y,m,C,D⟩:=(ct.same G).ob;refine ag rfl ⟨a,y,c 0,m,.ref (c 3),.ref (c 3),_,rfl,.inl ⟨_,rfl,rfl⟩,C,ct.cl,D,T.k 0 ct.it 3 (by decide),_,rfl,ite_ff (a' (by decide)) ?_⟩
   refine ag rfl ⟨a,y,c 0,m,.ref (c 6),.ref (c 6),_,rfl,.inl ⟨_,rfl,rfl⟩,C,ct.cl,D,T.k 0 ct.it 6 (by decide),_,rfl,ite_ff (a' (by decide)) ?_⟩
   refine ag rfl ⟨a,y,c 0,m,.ref (c 1),.ref (c 1),_,rfl,.inl ⟨_,rfl,rfl⟩,C,ct.cl,D,T.k 0 ct.it 1 (by decide),_,rfl,ite_ff (a' (by decide)) ?_⟩
   refine ag rfl ⟨N 9 (by decide),λt I=>⟨a,y,c 0,m,t,d7.map (λp=>c p.1),rfl,ay I _ _ C,ct.cl,λd e=>let ⟨fs,z⟩:=D d e;⟨fs,ay I _ _ z⟩,ah,ya d7 (by decide),_,rfl,ite_ff rfl ?_⟩⟩
   have r:=ay (o:=.tup (d7.map λp=>V.ref (c p.1))) I;have O:=G.trans r;have S:=r _ _ h2;have J:=r _ _ C;have L:∀d,m=ih d ->∃fs,upd R t (.tup (d7.map λp=>V.ref (c p.1))) d=ih (gz d fs):=λd e=>let ⟨fs,z⟩:=D d e;⟨fs,r _ _ z⟩;generalize upd R t (.tup (d7.map λp=>V.ref (c p.1)))=yc at r O S J L⊢;refine ag rfl ⟨N 3 (by decide),λxb g=>⟨a,y,c 0,m,xb,ix.map (λp=>c p.1),rfl,ay g _ _ J,ct.cl,λd e=>let ⟨fs,z⟩:=L d e;⟨fs,ay g _ _ z⟩,ah,ya ix (by decide),_,rfl,ite_ff rfl ?_⟩⟩
   refine ag rfl ⟨a,y,c 0,m,.ty "ValueError",.type "ValueError",true,rfl,.inr ⟨_,rfl,rfl⟩,ay g _ _ J,ct.cl,λd e=>let ⟨fs,z⟩:=L d e;⟨fs,ay g _ _ z⟩,T.v 0 ct.it,_,rfl,ite_ff rfl ?_⟩;exact ag rfl (q l _ (O.trans (ay g)) (ay g _ _ S))
  ·
   refine ag rfl ⟨a,n1,c 3,X,.ref (c 0),.ref (c 0),_,rfl,.inl ⟨_,rfl,rfl⟩,Y,ct.cl,xa,T.k 3 ct.it 0 (by decide),_,rfl,ite_ff (a' (by decide)) ?_⟩
   refine ag rfl ⟨a,n1,c 3,X,.ref (c 3),.ref (c 3),_,rfl,.inl ⟨_,rfl,rfl⟩,Y,ct.cl,xa,T.k 3 ct.it 3 (by decide),_,rfl,ite_tt (bq rfl) (ag rfl ⟨.inl ⟨rfl,_,aq.of U⟩,l,_,_,rfl,rfl,U,N 1 (by decide),?_⟩)⟩
   have G:ao H (upd M l (.lst ([]++[V.str "taken"]))):=λb u e=>by rw[ai (aB e zb)];exact yb _ _ e
   have h2:upd M l (.lst ([]++[V.str "taken"])) l=bn [V.str "taken"]:=ah;generalize upd M l (.lst ([]++[V.str "taken"]))=R at G h2⊢;obtain⟨y,m,C,D⟩:=(ct.same G).ob;refine ag rfl ⟨a,y,c 3,m,.ref (c 6),.ref (c 6),_,rfl,.inl ⟨_,rfl,rfl⟩,C,ct.cl,D,T.k 3 ct.it 6 (by decide),_,rfl,ite_ff (a' (by decide)) ?_⟩
   refine ag rfl ⟨a,y,c 3,m,.ref (c 1),.ref (c 1),_,rfl,.inl ⟨_,rfl,rfl⟩,C,ct.cl,D,T.k 3 ct.it 1 (by decide),_,rfl,ite_ff (a' (by decide)) ?_⟩
   refine ag rfl ⟨N 9 (by decide),λt I=>⟨a,y,c 3,m,t,d7.map (λp=>c p.1),rfl,ay I _ _ C,ct.cl,λd e=>let ⟨fs,z⟩:=D d e;⟨fs,ay I _ _ z⟩,ah,ya d7 (by decide),_,rfl,ite_ff rfl ?_⟩⟩
   have r:=ay (o:=.tup (d7.map λp=>V.ref (c p.1))) I;have O:=G.trans r;have S:=r _ _ h2;have J:=r _ _ C;have L:∀d,m=ih d ->∃fs,upd R t (.tup (d7.map λp=>V.ref (c p.1))) d=ih (gz d fs):=λd e=>let ⟨fs,z⟩:=D d e;⟨fs,r _ _ z⟩;generalize upd R t (.tup (d7.map λp=>V.ref (c p.1)))=yc at r O S J L⊢;refine ag rfl ⟨N 3 (by decide),λxb g=>⟨a,y,c 3,m,xb,ix.map (λp=>c p.1),rfl,ay g _ _ J,ct.cl,λd e=>let ⟨fs,z⟩:=L d e;⟨fs,ay g _ _ z⟩,ah,ya ix (by decide),_,rfl,ite_ff rfl ?_⟩⟩
   refine ag rfl ⟨a,y,c 3,m,.ty "ValueError",.type "ValueError",true,rfl,.inr ⟨_,rfl,rfl⟩,ay g _ _ J,ct.cl,λd e=>let ⟨fs,z⟩:=L d e;⟨fs,ay g _ _ z⟩,T.v 3 ct.it,_,rfl,ite_ff rfl ?_⟩;exact ag rfl (q l _ (O.trans (ay g)) (ay g _ _ S))
  ·
   refine ag rfl ⟨a,n1,c 6,X,.ref (c 0),.ref (c 0),_,rfl,.inl ⟨_,rfl,rfl⟩,Y,ct.cl,xa,T.k 6 ct.it 0 (by decide),_,rfl,ite_ff (a' (by decide)) ?_⟩
   refine ag rfl ⟨a,n1,c 6,X,.ref (c 3),.ref (c 3),_,rfl,.inl ⟨_,rfl,rfl⟩,Y,ct.cl,xa,T.k 6 ct.it 3 (by decide),_,rfl,ite_ff (a' (by decide)) ?_⟩
   refine ag rfl ⟨a,n1,c 6,X,.ref (c 6),.ref (c 6),_,rfl,.inl ⟨_,rfl,rfl⟩,Y,ct.cl,xa,T.k 6 ct.it 6 (by decide),_,rfl,ite_tt (bq rfl) (ag rfl ⟨.inl ⟨rfl,_,aq.of U⟩,l,_,_,rfl,rfl,U,N 1 (by decide),?_⟩)⟩
   have G:ao H (upd M l (.lst ([]++[V.str "thing"]))):=λb u e=>by rw[ai (aB e zb)];exact yb _ _ e
   have h2:upd M l (.lst ([]++[V.str "thing"])) l=bn [V.str "thing"]:=ah;generalize upd M l (.lst ([]++[V.str "thing"]))=R at G h2⊢;obtain⟨y,m,C,D⟩:=(ct.same G).ob;refine ag rfl ⟨a,y,c 6,m,.ref (c 1),.ref (c 1),_,rfl,.inl ⟨_,rfl,rfl⟩,C,ct.cl,D,T.k 6 ct.it 1 (by decide),_,rfl,ite_ff (a' (by decide)) ?_⟩
   refine ag rfl ⟨N 9 (by decide),λt I=>⟨a,y,c 6,m,t,d7.map (λp=>c p.1),rfl,ay I _ _ C,ct.cl,λd e=>let ⟨fs,z⟩:=D d e;⟨fs,ay I _ _ z⟩,ah,ya d7 (by decide),_,rfl,ite_ff rfl ?_⟩⟩
   have r:=ay (o:=.tup (d7.map λp=>V.ref (c p.1))) I;have O:=G.trans r;have S:=r _ _ h2;have J:=r _ _ C;have L:∀d,m=ih d ->∃fs,upd R t (.tup (d7.map λp=>V.ref (c p.1))) d=ih (gz d fs):=λd e=>let ⟨fs,z⟩:=D d e;⟨fs,r _ _ z⟩;generalize upd R t (.tup (d7.map λp=>V.ref (c p.1)))=yc at r O S J L⊢;refine ag rfl ⟨N 3 (by decide),λxb g=>⟨a,y,c 6,m,xb,ix.map (λp=>c p.1),rfl,ay g _ _ J,ct.cl,λd e=>let ⟨fs,z⟩:=L d e;⟨fs,ay g _ _ z⟩,ah,ya ix (by decide),_,rfl,ite_ff rfl ?_⟩⟩
   refine ag rfl ⟨a,y,c 6,m,.ty "ValueError",.type "ValueError",true,rfl,.inr ⟨_,rfl,rfl⟩,ay g _ _ J,ct.cl,λd e=>let ⟨fs,z⟩:=L d e;⟨fs,ay g _ _ z⟩,T.v 6 ct.it,_,rfl,ite_ff rfl ?_⟩;exact ag rfl (q l _ (O.trans (ay g)) (ay g _ _ S))
  ·
   refine ag rfl ⟨a,n1,c 1,X,.ref (c 0),.ref (c 0),_,rfl,.inl ⟨_,rfl,rfl⟩,Y,ct.cl,xa,T.k 1 ct.it 0 (by decide),_,rfl,ite_ff (a' (by decide)) ?_⟩
   refine ag rfl ⟨a,n1,c 1,X,.ref (c 3),.ref (c 3),_,rfl,.inl ⟨_,rfl,rfl⟩,Y,ct.cl,xa,T.k 1 ct.it 3 (by decide),_,rfl,ite_ff (a' (by decide)) ?_⟩
   refine ag rfl ⟨a,n1,c 1,X,.ref (c 6),.ref (c 6),_,rfl,.inl ⟨_,rfl,rfl⟩,Y,ct.cl,xa,T.k 1 ct.it 6 (by decide),_,rfl,ite_ff (a' (by decide)) ?_⟩
   refine ag rfl ⟨a,n1,c 1,X,.ref (c 1),.ref (c 1),_,rfl,.inl ⟨_,rfl,rfl⟩,Y,ct.cl,xa,T.k 1 ct.it 1 (by decide),_,rfl,ite_tt (bq rfl) (ag rfl ⟨.inl ⟨rfl,_,aq.of U⟩,l,_,_,rfl,rfl,U,N 1 (by decide),?_⟩)⟩
   have G:ao H (upd M l (.lst ([]++[V.str "kind"]))):=λb u e=>by rw[ai (aB e zb)];exact yb _ _ e
   have h2:upd M l (.lst ([]++[V.str "kind"])) l=bn [V.str "kind"]:=ah;generalize upd M l (.lst ([]++[V.str "kind"]))=R at G h2⊢;obtain⟨y,m,C,D⟩:=(ct.same G).ob;refine ag rfl ⟨N 9 (by decide),λt I=>⟨a,y,c 1,m,t,d7.map (λp=>c p.1),rfl,ay I _ _ C,ct.cl,λd e=>let ⟨fs,z⟩:=D d e;⟨fs,ay I _ _ z⟩,ah,ya d7 (by decide),_,rfl,ite_ff rfl ?_⟩⟩
   have r:=ay (o:=.tup (d7.map λp=>V.ref (c p.1))) I;have O:=G.trans r;have S:=r _ _ h2;have J:=r _ _ C;have L:∀d,m=ih d ->∃fs,upd R t (.tup (d7.map λp=>V.ref (c p.1))) d=ih (gz d fs):=λd e=>let ⟨fs,z⟩:=D d e;⟨fs,r _ _ z⟩;generalize upd R t (.tup (d7.map λp=>V.ref (c p.1)))=yc at r O S J L⊢;refine ag rfl ⟨N 3 (by decide),λxb g=>⟨a,y,c 1,m,xb,ix.map (λp=>c p.1),rfl,ay g _ _ J,ct.cl,λd e=>let ⟨fs,z⟩:=L d e;⟨fs,ay g _ _ z⟩,ah,ya ix (by decide),_,rfl,ite_ff rfl ?_⟩⟩
   refine ag rfl ⟨a,y,c 1,m,.ty "ValueError",.type "ValueError",true,rfl,.inr ⟨_,rfl,rfl⟩,ay g _ _ J,ct.cl,λd e=>let ⟨fs,z⟩:=L d e;⟨fs,ay g _ _ z⟩,T.v 1 ct.it,_,rfl,ite_ff rfl ?_⟩;exact ag rfl (q l _ (O.trans (ay g)) (ay g _ _ S))
end
def bV(ns ks:List F4)(aK:Nat)(dn dk:UA):Option Nat:=
 if aK<2 then (if cu dn=false then ih 0 else if b3 ns dn=true then ih 3 else if b3 ks dk=false then ih 1 else none)
 else if b3 ns dn=false then ih 6 else if aK≠2/\b3 ks dk=false then ih 1 else none
def fJ(aM:List Th)(aK:Nat)(n k:F4):List Th:=
 if aK<2 then cR aM n++[(n,k,[])] else if aK=2 then cR aM n else (aM.filter λp=>decide (p.1=n)).flatMap λp=>cR aM n++[(n,k,p.2.2)]
theorem ua{a:am Th}(b:(a.map (·.1)).Nodup){th:Th}(h:th∈a):a.filter (λp=>decide (p.1=th.1))=[th]:=by
 induction a with
 |nil=>cases h
 |cons x a c =>
  rw[bD,eu]at b;rcases bu.mp h with e|h'
  ·subst e
   rw[h6 (by simp),VD.mpr λp d=>?_]
   intro z;exact b.1 (aZ.mpr ⟨p,d,fw z⟩)
  ·rw[iG,c b.2 h']
   intro z;exact b.1 (aZ.mpr ⟨th,h',(fw z).symm⟩)
inductive mc(vs:List V)(H:Hp)(Q:VK)(E:XK):Prop
 |mk{p x t tb tt:FG}{wt:List V}{aM:List Th}{ks:List F4}{aK:Nat}{vn vk:V}{dn dk:UA}(_:vs=[.ref x,.int aK,vn,vk])(_:eh H x t tb tt wt aM)(_:(aM.map (·.1)).Pairwise λa b=>bZ a b=true)(_:FK H t ks)(_:∀k∈ks,Nm k)(_:Dt p H vn dn)(_:Sm dn)(_:Dt p H vk dk)(_:Sm dk)
  (_:∀i,bV (aM.map (·.1)) ks aK dn dk=ih i ->∀l Y,ao H Y->Y l=ih (.lst [.str (kz i)])->Q (.ref l) Y)
  (_:∀n k,dn=.str n->(aK≠2->dk=.str k)->bV (aM.map (·.1)) ks aK dn dk=none ->∀r Y,ao H Y->uw Y r t tb (fJ aM aK n k)->Q (.ref r) Y):mc vs H Q E
noncomputable abbrev u7:List F4:=["_law_world_here","_law_deed","_law_thing","_law_kind"]
noncomputable abbrev QL:List F4:=["_law_world_here","_law_deed","_law_thing","_law_kind","_law_told","_law_e"]
theorem kF:bg QL u7 (aH um):=bB
theorem Oe{c:Nat->FG}{G:FG}(F:aR K "_law_done" "_law_done" um f fd)(T:qL K mg c)(L:mg "LineError" = ih (.ref G))(V:∃ci,f9 K G ci=true)
  (yd:p1 P w K mg base 1 fR dR ["_law_e"] (D9 K c)) (zd:Yb K (.ref fR)=true) (xe:Binds K dR ["_law_e"] []) (ye:mg "_law_refusal" = ih (.ref fR))
  (ze:aY P w K mg base (cg P w) 4 fB dB ["world","thing","kind"] (qH (c 0) (c 3) (c 1)) "thing_begun")
  (xf:aY P w K mg base (cg P w) 4 fE dE ["world","thing"] (qI (c 6)) "thing_ended")
  (yf:aY P w K mg base (cg P w) 5 fT dT ["world","thing","kind"] (qJ (c 6) (c 1)) "thing_turned"):aU P w K mg base aC 6 f fd u7 mc:=by
 obtain⟨ci,V⟩:=V;refine F.ok kF (λvs H Q E h=>?_) (λQc A outer s H vs Q E zf h=>?_)
 ·obtain⟨rfl,_⟩:=h;rfl
 ·obtain @⟨p,x,t,tb,tt,wt,S,ks,aK,yi,zi,dn,xj,rfl,h,xg,fk,za,W,X,xb,yb,N,q⟩:=h
  have ya:aQ 5 _:=zf;have U:aQ 4 _:=ya.mono (by decide)
  have xc:aQ 1 _:=U.mono (by decide)
  refine⟨_,aF (bt 4 kF.nd (cZ af))
   (aF (JA (j:=5) (C:=G) (λJ D=>aA (bf (bC kj (pv 1) au (bh _))
      (aA (bt 4 kF.nd (sY ze U (aa (pv 0) (aa (pv 2) (aa (pv 3) af))))))
      (aA (bf (bC di (pv 1) au (bh _))
       (aA (bt 4 kF.nd (sY xf U (aa (pv 0) (aa (pv 2) af)))))
       (aA (bt 4 kF.nd (sY yf ya (aa (pv 0) (aa (pv 2) (aa (pv 3) af))))))))))
     kF.nd rfl rfl rfl rfl rfl rfl rfl L V (λa=>aA (bt 4 kF.nd (JM yd (xc.marked _) rfl ye zd xe dH (aa (pv 5) af)))))
   (aA (aO (pv 4)))),?_⟩
  refine⟨ba _,λyg yc=>?_⟩;have d:=ay (o:=.tup []) yc;generalize upd H yg (.tup [])=yj at d⊢
  by_cases i:aK<2
  ·refine ag rfl ⟨_,_,rfl,rfl,_,rfl,ite_tt (bq (by omega)) ?_⟩
   refine ed rfl rfl rfl (qH.mk rfl (h.same d) (fk.same d) (Dt.same W d) X (Dt.same xb d) yb (λz a H1 g u=>?_) (λz a H1 g u=>?_) (λY z2 z3 a H1 g u=>?_) (λn k I zg R B O r H1 g xa=>?_))
   ·exact⟨⟨c 0,rfl,T.b G L 0 (by decide)⟩,a,rfl,ag rfl ⟨a,0,rfl,gT.of T u (by decide),λl H2 v h2=>ag rfl (N 0 (by unfold bV;rw[aw i,aw z]) l H2 (d.trans (g.trans v)) h2)⟩⟩
   ·have zn:cu dn=true:=by
     cases y:cu dn with
     |true=>rfl
     |false=>rw[pF y]at z;cases z
    exact⟨⟨c 3,rfl,T.b G L 3 (by decide)⟩,a,rfl,ag rfl ⟨a,3,rfl,gT.of T u (by decide),λl H2 v h2=>ag rfl (N 3 (by unfold bV;rw[aw i,zn,ak (by decide),aw z]) l H2 (d.trans (g.trans v)) h2)⟩⟩
   ·exact⟨⟨c 1,rfl,T.b G L 1 (by decide)⟩,a,rfl,ag rfl ⟨a,1,rfl,gT.of T u (by decide),λl H2 v h2=>ag rfl (N 1 (by unfold bV;rw[aw i,Y,ak (by decide),z2,ak (by decide),aw z3]) l H2 (d.trans (g.trans v)) h2)⟩⟩
   ·refine ag rfl (q n k I (λ_=>B) ?_ r H1 (d.trans g) (by unfold fJ;rw[aw i];exact xa))
    subst I B;have y1:cu (.str n)=true:=j5 zg;have y2:b3 (S.map (·.1)) (.str n)=false:=by
     cases y:b3 (S.map (·.1)) (.str n) with
     |false=>rfl
     |true=>obtain⟨m,e,M,_⟩:=nq y;cases e;exact absurd M R
    unfold bV;rw[aw i,y1,ak (by decide),y2,ak (by decide),j6 O (za k O),ak (by decide)]
  ·refine ag rfl ⟨_,_,rfl,rfl,_,rfl,ite_ff (a' (by omega)) ?_⟩
   by_cases B:aK=2
   ·refine ag rfl ⟨rfl,_,rfl,ite_tt (by rw[B];decide) ?_⟩
    refine bj rfl rfl (qI.mk rfl (h.same d) (Dt.same W d) X (λz a H1 g u=>?_) (λn I R r zc xd H1 g xh yh zh=>?_))
    ·exact⟨⟨c 6,rfl,T.b G L 6 (by decide)⟩,a,rfl,ag rfl ⟨a,6,rfl,gT.of T u (by decide),λl H2 v h2=>ag rfl (N 6 (by unfold bV;rw[ak i,aw z]) l H2 (d.trans (g.trans v)) h2)⟩⟩
    ·refine ag rfl (q n "" I (λz=>absurd B z) ?_ r H1 (d.trans g) ⟨zc,xd,cR S n,xh,yh,zh,by unfold fJ;rw[ak i,aw B],xg.sublist (Zz _ Gw)⟩)
     obtain⟨th,M,xi⟩:=aZ.mp R;unfold bV;rw[ak i,I,j6 R (xi ▸ h.nm th M),ak (by decide),ak (λz=>z.1 B)]
   ·refine ag rfl ⟨rfl,_,rfl,ite_ff (a' (λz=>B (by injection z with z;omega))) ?_⟩
    refine ed rfl rfl rfl (qJ.mk rfl (h.same d) (fk.same d) (Dt.same W d) X (Dt.same xb d) yb (λz a H1 g u=>?_) (λY z2 a H1 g u=>?_) (λth M I k zb O r H1 g xa=>?_))
    ·exact⟨⟨c 6,rfl,T.b G L 6 (by decide)⟩,a,rfl,ag rfl ⟨a,6,rfl,gT.of T u (by decide),λl H2 v h2=>ag rfl (N 6 (by unfold bV;rw[ak i,aw z]) l H2 (d.trans (g.trans v)) h2)⟩⟩
    ·exact⟨⟨c 1,rfl,T.b G L 1 (by decide)⟩,a,rfl,ag rfl ⟨a,1,rfl,gT.of T u (by decide),λl H2 v h2=>ag rfl (N 1 (by unfold bV;rw[ak i,Y,ak (by decide),aw ⟨B,z2⟩]) l H2 (d.trans (g.trans v)) h2)⟩⟩
    ·refine ag rfl (q th.1 k I (λ_=>zb) ?_ r H1 (d.trans g) (by unfold fJ;rw[ak i,ak B,ua h.nd M];simpa using xa))
     unfold bV;rw[ak i,I,j6 (aZ.mpr ⟨th,M,rfl⟩) (h.nm th M),ak (by decide),zb,j6 O (za k O),ak (λz=>by cases z.2)]
theorem MZ(xs:am V)(k:Nat):fl xs none (ih (k:Int))=xs.take k:=by
 unfold fl;have a:HT.a9 xs.length 0 none=0:=rfl;rw[a,vE,FY];have b:HT.a9 xs.length xs.length (ih (k:Int))=min k xs.length:=by
  unfold HT.a9;simp;omega
 rw[b]
 by_cases h:k<=xs.length
 ·rw[aar h]
 ·rw[aaf (by omega),oL (aG _),oL (by omega)]
structure d8(H:Hp)(l:FG)(ys:List F4):Prop where
 hl:H l=ih (.lst (ys.map V.str))
 ne:ys ≠ []
 bN:ys.length<=20
 nm:∀y∈ys,Nm y
 nd:ys.Nodup
theorem d8.d6{ys:am F4}(h:d8 H l ys)(a:c7 p H)(b:br p H Y):d8 Y l ys:=⟨b.kp _ _ h.hl (gI a h.hl),h.ne,h.bN,h.nm,h.nd⟩
theorem d8.same{ys:am F4}(h:d8 H l ys)(S:ao H Y):d8 Y l ys:=⟨S _ _ h.hl,h.ne,h.bN,h.nm,h.nd⟩
inductive me(vs:List V)(H:Hp)(Q:VK)(E:XK):Prop
 |mk{p lk:FG}{m:Nat}{al:Bool}{ks:List F4}(_:vs=[.ref p,.int m,.bl al,.ref lk])(_:c7 p H)(_:1<=m)(_:m<=20)(_:d8 H lk ks)(_:∀(l:FG) (ys:List F4) (Y:Hp),br p H Y->d8 Y l ys->ys.length<=m->Q (.ref l) Y):me vs H Q E
noncomputable abbrev q9:List F4:=["_law_pot_here","_law_many","_law_alike","_law_kinds"]
noncomputable abbrev QM:List F4:=["_law_pot_here","_law_many","_law_alike","_law_kinds","_law_found"]
theorem Ea:bg QM q9 (aH tm):=bB
theorem Of(F:aR K "_law_called" "_law_called" tm f fd)(n:aY P w K mg base aC 3 fN dN ["_law_pot_here","_law_many"] iM "_law_names"):aU P w K mg base aC 4 f fd q9 me:=by
 refine F.cz Ea λQc A outer s H vs Q E o h=>?_
 ·obtain @⟨p,lk,m,v,ks,rfl,d,x,g,a,q⟩:=h
  intro X;refine⟨_,aF (bt 4 Ea.nd (aP n o (aa (pv 0) (aa (pv 1) af))))
   (aF (bf (b6 (pv 2)) (aA (aO (lx pk (pv 3) lG (lH (pv 1))))) bw)
   (aA (aO (pv 4)))),?_⟩
  refine bj rfl rfl (iM.mk rfl d g λl ys H1 B r i j b U=>?_);refine bj rfl rfl ?_;refine dm (λe=>?_) (λe=>?_)
  ·have k:=a.d6 d b
   refine ed rfl rfl rfl ⟨lk,_,rfl,aq.of k.hl,λc t=>?_⟩;rw[MZ,<-aaF];have C:0<ks.length:=mK.mpr a.ne;have tl:(ks.take m).length=min m ks.length:=b8 ..;refine q c (ks.take m) _ (b.new t) ⟨ah,λz=>?_,by have:=a.bN;omega,λy u=>a.nm y (rE u),a.nd.sublist (kZ _ _)⟩ (by omega)
   rw[z,jf]at tl;omega
  ·exact ag rfl (q l ys H1 b ⟨U,λz=>by rw[z,jf]at r;omega,by omega,i,j⟩ (by omega))
def gB(own:Own):List (Key×V):=fj (own.map λq=>(q.1,V.int q.2))
theorem LA(n:F4):∀own:Own,bz (gB own) (Uz n)=(own.lookup n).map V.int:=by
 intro own
 induction own with
 |nil=>rfl
 |cons p own a =>
  show bz ((Uz p.1,V.int p.2)::gB own) (Uz n)=(((p.1,p.2)::own).lookup n).map V.int
  by_cases e:p.1=n
  ·rw[e7 (by rw[e]),fc,show(n==p.1)=true by simp[e]];rfl
  ·rw[ey (λz=>e (fQ z)),a,fc,show(n==p.1)=false by simp[a7 e]]
structure qs(own:Own):Prop where
 nd:(own.map (·.1)).Nodup
 nm:∀q∈own,Nm q.1
theorem LC{own:Own}(h:qs own){n:F4}(l:Nm n)(z:Int):∃f,gB f=putK (gB own) (Uz n) (.int z)/\qs f/\f.length<=own.length+1:=by
 cases e:bz (gB own) (Uz n) with
 |none =>
  have j:n ∉ own.map (·.1):=λm=>by
   rw[LA,Option.map_eq_none_iff,List.lookup_eq_none_iff]at e;obtain⟨q,d,rfl⟩:=aZ.mp m;exact absurd (e q d) (by simp)
  refine⟨own++[(n,z)],?_,⟨?_,λq d=>?_⟩,by simp⟩
  ·rw[nc _ e];unfold gB fj;rw[a5,a5];rfl
  ·rw[a5]
   exact gG.mpr ⟨h.nd,by simp,λa o b g y=>j (by have g:b=n:=b9.mp g;rw[<-g,<-y];exact o)⟩
  ·rcases cw.mp d with z|z
   ·exact h.nm q z
   ·rw[b9.mp z];exact l
 |some v =>
  have i:(own.map λq=>if q.1=n then (q.1,z) else q).map (·.1)=own.map (·.1):=by
   rw[c5];exact j0 λq _=>by show(if q.1=n then (q.1,z) else q).1=q.1;split <;> rfl
  refine⟨own.map λq=>if q.1=n then (q.1,z) else q,?_,⟨by rw[i];exact h.nd,λq d=>?_⟩,by simp⟩
  ·unfold putK
   rw[aw (by rw[iK,e];rfl)]
   unfold gB fj;rw[c5,c5,c5,c5];refine j0 λq _=>?_;show((Uz (if q.1=n then (q.1,z) else q).1,V.int (if q.1=n then (q.1,z) else q).2):Key×V)=if (Uz q.1:Key)=Uz n then (Uz q.1,V.int z) else (Uz q.1,V.int q.2)
   by_cases c:q.1=n
   ·rw[aw c,aw (by rw[c])]
   ·rw[ak c,ak (λz=>c (fQ z))]
  ·have:q.1∈own.map (·.1):=by rw[<-i];exact aZ.mpr ⟨q,d,rfl⟩
   obtain⟨p,k,r⟩:=aZ.mp this;rw[<-r];exact h.nm p k
def cq(H:Hp)(td:FG)(kvs:List (Key×V))(aM:List Th):Prop:=XU (λkv p=>kv.1=Uz p.1 /\∃a b,kv.2=V.ref a/\a≠td/\b≠td/\H a=ih (.tup [.str p.2.1,.ref b])/\H b=ih (.dK (gB p.2.2))) kvs aM
theorem cq.keep{c:am Th}(h:cq H td kvs c)(k:∀b u,b≠td->(∀xs,u≠HO.lst xs)->H b=ih u->Y b=ih u):cq Y td kvs c:=Paired.imp' (λ_ _ j=>by obtain⟨e,a,b,f,n1,d,g,i⟩:=j;exact ⟨e,a,b,f,n1,d,k _ _ n1 (by intro xs z;cases z) g,k _ _ d (by intro xs z;cases z) i⟩) h
theorem cq.same{a:am Th}(h:cq H td kvs a)(S:ao H Y):cq Y td kvs a:=h.keep λb u _ _ e=>S _ _ e
theorem cq.d6{a:am Th}(h:cq H td kvs a)(c:c7 p H)(d:br p H Y):cq Y td kvs a:=h.keep λb u _ f e=>d.kp _ _ e (by
 obtain⟨x,y,g,_⟩:=c;intro z;rw[z,g]at e;cases e;exact f _ rfl)
theorem cq.keys{a:am Th}(h:cq H td kvs a):kvs.map (·.1)=(a.map (·.1)).map Uz:=by
 induction h with
 |nil=>rfl
 |cons e _ b=>rw[bD,bD,bD,b,e.1]
structure i4(ks:List F4)(aM:List Th):Prop where
 nm:∀p∈aM,Nm p.1
 nd:(aM.map (·.1)).Nodup
 kd:∀p∈aM,p.2.1∈ks
 ow:∀p∈aM,qs p.2.2/\p.2.2.length<=22
inductive qM(vs:List V)(H:Hp)(Q:VK)(E:XK):Prop
 |mk{p lk ln:FG}{al:Bool}{ks ns:List F4}(_:vs=[.ref p,.bl al,.ref lk,.ref ln])(_:c7 p H)(_:d8 H lk ks)(_:d8 H ln ns)(_:∀(td:FG) (kvs:List (Key×V)) (aM:List Th) (Y:Hp),br p H Y->H td=none->Y td=ih (.dK kvs)->cq Y td kvs aM->i4 ks aM->aM ≠ []->aM.length<=5->Q (.ref td) Y):qM vs H Q E
noncomputable abbrev u9:List F4:=["_law_pot_here","_law_alike","_law_kinds","_law_names_here"]
noncomputable abbrev QN:List F4:=["_law_pot_here","_law_alike","_law_kinds","_law_names_here","_law_called_here","_law_things_here","_law_thing","_law_own","_law_kind","_law_name"]
theorem kG:bg QN u9 (aH tu):=bB
theorem Og{yC:FG}{dC zC:XX}(F:aR K "_law_things" "_law_things" tu f fd)(B:b7 mg)(xD:aY P w K mg base aC 4 fC dC q9 me "_law_called")(xi:aY P w K mg base aC 1 fD dD ["_law_pot_here","_law_many"] hh "_law_digit")
  (yD:aY P w K mg base aC 3 fN dN ["_law_pot_here","_law_many"] iM "_law_names") (zD:aY P w K mg base aC 2 yC zC ["_law_pot_here"] iV "_law_number"):aU P w K mg base aC 5 f fd u9 qM:=by
 refine F.cz kG λQc A outer s H vs Q E I h=>?_
 ·obtain @⟨p,lk,xd,al,ks,ns,rfl,yd,zd,yi,q⟩:=h
  have yb:aQ 4 _:=I;have zw:aQ 3 _:=yb.mono (by decide)
  have xx:aQ 2 _:=yb.mono (by decide)
  have xg:aQ 1 _:=yb.mono (by decide)
  have xn:=ip I.units;intro X;refine⟨_,aF (bt 4 kG.nd (aP xD yb (aa (pv 0) (aa (bF f7 au (aP xi xg (aa (pv 0) (aa au af)))) (aa (pv 1) (aa (pv 2) af))))))
   (aF (bt 5 kG.nd lA)
   (aF (gu fZ rfl (ez (pv 4)) (a4 6 kG.nd)
    (aF (bt 7 kG.nd lA)
    (aF (bt 8 kG.nd (aW c6 (pv 2) (aP xi xg (aa (pv 0) (aa (aS cT rfl B.len cG (aa (pv 2) af)) af)))))
    (aF (gu fZ rfl (ez (bF kg (pv 3) (aP yD zw (aa (pv 0) (aa au af))))) (a4 9 kG.nd)
     (aA (bf (bC di (aP xi xg (aa (pv 0) (aa au af))) au (bh _)) (aA (jq xn (pv 7) (pv 9) (aP zD xx (aa (pv 0) af)) rfl)) bw)))
    (aA (jq xn (pv 5) (pv 6) (cZ (aa (pv 8) (aa (pv 7) af))) rfl))))))
   (aA (aO (pv 5))))),?_⟩
  refine bj rfl rfl (cA (p:=p) (m:=5) yd (by decide) (by decide) λyJ H1 xE zJ zi=>⟨_,_,rfl,rfl,_,rfl,_,rfl,?_⟩)
  obtain⟨j,rfl⟩:=f5 xE;refine me.mk (m:=1+j) (al:=al) (by rw[wc];rfl) zi.ok (by omega) (by omega) (zd.d6 yd zi) λxe a H2 p2 Y zH=>?_
  have T:=zi.trans p2;have yx:=zd.d6 yd T;have zx:=yi.d6 yd T;intro td zb;have ym:=T.free zb;have xj:=T.new (o:=.dK []) zb;have ye:=ay (o:=.dK []) zb;have xy:p≠td:=T.ok.ne zb;have yn:upd H2 td (.dK []) td=ce []:=ah;have yg:=Y.same ye;have zn:=yx.same ye;have xo:=zx.same ye;have yy:=xj.ok;generalize upd H2 td (.dK [])=xK at xj ye yn yg zn xo yy⊢;refine⟨_,rfl,xe,rfl,⟨_,aq.of yg.hl⟩,lu (xs:=a.map V.str) (λi σ d=>∃(kvs:am (Key×V)) (G:am Th) (yj zj xk J:ap V),σ=[bd p,ih (.bl al),bd lk,bd xd,bd xe,bd td,yj,zj,xk,J]/\br p H d/\d8 d lk ks/\d8 d xd ns/\d8 d xe a/\d td=ce kvs/\cq d td kvs G/\i4 ks G/\G.map (·.1)=a.take i)
   ⟨[],[],none,none,none,none,rfl,xj,zn,xo,yg,yn,.nil,⟨λx C=>(by cases C),iD,λx C=>(by cases C),λx C=>(by cases C)⟩,rfl⟩ (λi σ d _ ab=>by obtain⟨_,_,_,_,_,_,_,_,_,_,z,_⟩:=ab;exact aq.of z.hl) ?_ ?_⟩
  ·rintro i x σ d C ⟨kvs,G,yj,zj,xk,J,rfl,g,yk,zk,zr,ze,xa,ya,D⟩
   obtain⟨yo,rfl⟩:=ph C;have zg:a.take (i+1)=a.take i++[a[i]]:=by rw[cO,bA yo];rfl
   have xw:a[i]∉ a.take i:=by
    have:(a.take (i+1)).Nodup:=Y.nd.sublist (kZ _ _);rw[zg]at this;exact λz=>(gG.mp this).2.2 _ z _ aT rfl
   intro c za;have zy:p≠c:=g.ok.ne za;have xt:=ay (o:=.dK []) za;have xb:br p d (upd d c (.dK [])):=(br.refl g.ok).new za;have yt:upd d c (.dK []) c=ce []:=ah;generalize upd d c (.dK [])=yK at xt xb yt⊢;have zt:=yk.same xt;have zK:0<ks.length:=mK.mpr zd.ne;have xL:=zd.bN;refine ed rfl rfl rfl ⟨lk,_,rfl,.inl (aq.of zt.hl),?_⟩;rw[ar];refine cA (p:=p) (m:=(ks.length:Int)) xb.ok (by omega) (by omega) λyL zL b0 b1 p6=>?_
   obtain⟨v,rfl⟩:=f5 b0;have zo:v<ks.length:=by omega
   have yE:=zt.d6 xb.ok p6;have xl:=xb.trans p6;refine⟨lk,_,(v:Int),V.str ks[v],rfl,rfl,aq.of yE.hl,b2 (by rw[cx,bA zo];rfl),?_⟩
   have zE:=jv xb.ok p6 yt;refine bj rfl rfl (iM.mk (m:=2) rfl xl.ok (by decide) λxF M xu xI xM xz yI p7 yF=>?_)
   have yu:=xl.trans p7;have zF:=(zk.d6 g.ok yu);have yz:=jv xl.ok p7 zE;have yM:=yi.bN;refine⟨xd,xF,_,_,rfl,rfl,zF.hl,yF,by rw[ar,ar,aJ];omega,λN xp=>?_⟩
   rw[<-a5];have xf:=yu.new (o:=.lst ((ns++M).map V.str)) xp;have xc:=ay (o:=.lst ((ns++M).map V.str)) xp _ _ yz;have R:upd xu N (.lst ((ns++M).map V.str)) N=bn ((ns++M).map V.str):=ah;have yp:∀y∈ns++M,Nm y:=λy yl=>by
    rcases cw.mp yl with z|z
    ·exact yi.nm y z
    ·exact xz y z
   have zz:(ns++M).length<=22:=by rw[df];omega
   generalize ns++M=yc at xf xc R yp zz⊢;generalize upd xu N (.lst (yc.map V.str))=zM at xf xc R⊢;have zp:N≠p:=gI xf.ok R;have xA:N≠c:=bx R xc
   refine⟨N,rfl,⟨_,aq.of R⟩,lu (xs:=yc.map V.str) (λk σ L=>∃(own:Own) (J:ap V),σ=[bd p,ih (.bl al),bd lk,bd xd,bd xe,bd td,ih (.str a[i]),bd c,ih (.str ks[v]),J]/\br p d L/\L N=bn (yc.map V.str)/\L c=ce (gB own)/\qs own/\own.length<=k)
    ⟨[],J,rfl,xf,R,xc,⟨iD,λq xG=>(by cases xG)⟩,aG _⟩ (λk σ L _ ab=>by obtain⟨_,_,_,_,z,_⟩:=ab;exact aq.of z) ?_ ?_⟩
   ·rintro k x σ L C ⟨own,J,rfl,O,zu,zl,yf,xq⟩
    obtain⟨yA,rfl⟩:=ph C;refine ag rfl (cA (p:=p) (m:=3) O.ok (by decide) (by decide) λxN xh yN zN yh=>⟨rfl,_,rfl,?_⟩)
    have l:=O.trans yh;have yq:=yh.kp _ _ zu zp;have U:=jv O.ok yh zl;refine dm (λ_=>?_) (λ_=>?_)
    ·refine ag rfl (iV.mk rfl l.ok λz zI _ zh=>?_)
     have zA:=l.trans zh;have xB:=zh.kp _ _ yq zp;have yB:=jv l.ok zh U;obtain⟨yw,yG,zG,xJ⟩:=LC yf (yp _ (dz yA)) z;refine bj rfl rfl ⟨c,_,rfl,gf.k (k:=Uz yc[k]) yB (by unfold gB fj;rw[ar,ar,aJ];omega),?_⟩
     exact⟨yw,_,rfl,zA.write za zy,by rw[ai xA];exact xB,by rw[yG];exact ah,zG,by omega⟩
    ·exact⟨own,_,rfl,l,yq,U,yf,by omega⟩
   ·rintro σ L ⟨own,J,rfl,O,zu,zl,yf,xq⟩
    rw[ar]at xq;have xv:=jv g.ok O ze;have xH:=xa.d6 g.ok O;have zq:c≠td:=a7 (aB ze za);refine bj rfl rfl ⟨dc,λt xm=>?_⟩;have zc:=ay (o:=.tup [V.str ks[v],.ref c]) xm;have zm:upd L t (.tup [V.str ks[v],.ref c]) t=bi [V.str ks[v],.ref c]:=ah;have l:=O.new (o:=.tup [V.str ks[v],.ref c]) xm;have W:=zc _ _ xv;have U:=zc _ _ zl;have xr:=xH.same zc;have yr:t≠td:=a7 (aB xv xm);generalize upd L t (.tup [V.str ks[v],.ref c])=xh at zc zm l W U xr⊢;have zf:bz kvs (Uz a[i])=none:=by
     have:(bz kvs (Uz a[i])).isSome=false:=by
      rw[<-iK,vh];intro zf zB z;have yv:zf.1∈kvs.map (·.1):=aZ.mpr ⟨zf,zB,rfl⟩;rw[xa.keys,D]at yv;obtain⟨y,yl,zv⟩:=aZ.mp yv;rw[fw z]at zv;exact xw (fQ zv ▸ yl)
     simpa using this
    have xC:kvs.length=(a.take i).length:=by
     have:=c4 YI xa.keys;rw[D,ar,ar]at this;exact this
    rw[b8]at xC;refine bj rfl rfl ⟨td,_,rfl,gf.k (k:=Uz a[i]) W (by rw[aJ];omega),?_⟩
    rw[nc _ zf];have yH:=(g.trans l).write (o:=.dK (kvs++[(Uz a[i],.ref t)])) ym xy;have S:∀b u,b≠td->xh b=ih u->upd xh td (.dK (kvs++[(Uz a[i],.ref t)])) b=ih u:=λb u n e=>by rw[ai n];exact e
    refine⟨_,G++[(a[i],ks[v],own)],_,_,_,_,rfl,yH,?_,?_,?_,ah,?_,⟨λr I=>?_,?_,λr I=>?_,λr I=>?_⟩,?_⟩
    ·have z:=yk.d6 g.ok l;exact⟨S _ _ (bx z.hl W) z.hl,z.ne,z.bN,z.nm,z.nd⟩
    ·have z:=zk.d6 g.ok l;exact⟨S _ _ (bx z.hl W) z.hl,z.ne,z.bN,z.nm,z.nd⟩
    ·have z:=zr.d6 g.ok l;exact⟨S _ _ (bx z.hl W) z.hl,z.ne,z.bN,z.nm,z.nd⟩
    ·exact gY (xr.keep λb u n _ e=>S _ _ n e) ⟨rfl,t,c,rfl,yr,zq,S _ _ yr zm,S _ _ zq U⟩
    ·rcases cw.mp I with z|z
     ·exact ya.nm r z
     ·rw[b9.mp z];exact Y.nm _ (dz yo)
    ·rw[a5,D]
     show(a.take i++[a[i]]).Nodup;rw[<-zg];exact Y.nd.sublist (kZ _ _)
    ·rcases cw.mp I with z|z
     ·exact ya.kd r z
     ·rw[b9.mp z];exact dz zo
    ·rcases cw.mp I with z|z
     ·exact ya.ow r z
     ·rw[b9.mp z];exact⟨yf,by show own.length<=22;omega⟩
    ·rw[a5,D,zg];rfl
  ·rintro σ d ⟨kvs,G,yj,zj,xk,J,rfl,g,yk,zk,zr,ze,xa,ya,D⟩
   rw[ar,cF]at D;have xO:G.length=a.length:=by have:=c4 YI D;rwa [ar]at this
   exact ag rfl (q td kvs G d g ym ze xa ya (λz=>by rw[z]at D;exact Y.ne D.symm) (by omega))
theorem m6:∀{kvs:am (Key×V)}{ns:am F4},kvs.map (·.1)=ns.map Uz ->∀x:F4,(bz kvs (Uz x)).isSome=decide (x∈ns)
 |[],[],_,x=>by simp[bz]
 |[],_::_,e,_=>by cases e
 |_::_,[],e,_=>by cases e
 |p::kvs,n::ns,e,x=>by
  rw[bD,bD]at e;obtain⟨a,b⟩:=oM e
  by_cases z:n=x
  ·rw[e7 (by rw[a,z])];simp[z]
  ·rw[ey (by rw[a];exact λy=>z (fQ y)),m6 b x]
   simp[bu,a7 z]
def mf:List F4:=["","A","a b","abcdefghi","a1"]
theorem LD:∀x∈mf,cM x=false:=by decide +kernel
theorem fx(h:∀k∈ks,Nm k)(x:F4):b3 ks (.str x)=decide (x∈ks):=by
 show(cM x&&decide (x∈ks))=_
 by_cases e:x∈ks
 ·rw[j5 (h x e)];rfl
 ·rw[a' e,Gm]
theorem tM{d:UA}(h:dw "str" d=false):b3 ks d=false:=pF (tK h)
def n7(o:Option Nat):List V:=match o with|some i=>[.str (kz i)]|none=>[]
inductive qN(vs:List V)(H:Hp)(Q:VK)(E:XK):Prop
 |mk{p td lk:FG}{kvs:List (Key×V)}{ns ks:List F4}{aK:Nat}{vn vk:V}{dn dk:UA}(_:vs=[.ref td,.ref lk,.int aK,vn,vk])(_:H td=ih (.dK kvs))(_:kvs.map (·.1)=ns.map Uz)(_:∀n∈ns,Nm n)(_:H lk=ih (.lst (ks.map V.str)))(_:∀k∈ks,Nm k)(_:Dt p H vn dn)(_:∀x,dn=.str x->cM x=false->x∈mf)(_:Dt p H vk dk)
  (_:∀l Y,ao H Y->Y l=ih (.lst (n7 (bV ns ks aK dn dk)))->Q (.ref l) Y):qN vs H Q E
noncomputable abbrev q':List F4:=["_law_things_here","_law_kinds","_law_deed","_law_thing","_law_kind"]
theorem Pp:bg q' q' (aH uL):=bB
theorem pV{d:UA}(r:Dt p H v d)(h:dw "str" d=true):∃x,d=.str x/\v=.str x:=by
 cases d with
 |str x=>cases r;exact⟨x,rfl,rfl⟩
 |_=>cases h
theorem Oh(F:aR K "_law_due" "_law_due" uL f fd)(n:dq mg):aU P w K mg base aC 1 f fd q' qN:=by
 refine F.ok Pp (λvs H Q E h=>?_) (λQc A outer s H vs Q E U h=>?_)
 ·obtain⟨rfl,_⟩:=h;rfl
 ·obtain @⟨p,td,lk,kvs,ns,ks,aK,ya,za,dn,j,rfl,M,T,m,N,B,C,W,D,q⟩:=h
  have O:=ip U.units;refine⟨_,aF (bf (PW.pt (pw_and (bC kj (pv 2) au (bh _)) (pw_and1 (PW.pt (pw_or (cI (b6 (aS eR rfl n.c3 cX (aa (pv 3) (aa (ej (v:=.ty "str") rfl n.str boot_str rfl) af))))) (pw_or1 (bC mW (pv 3) (ie (aa bO (aa bO (aa bO (aa bO (aa bO af)))))) rfl))))))) (aA (aO (ie (aa bO af)))) bw)
   (aF (bf (PW.pt (pw_and (bC kj (pv 2) au (bh _)) (pw_and1 (pI (tU O (pv 3) (pv 0)))))) (aA (aO (ie (aa bO af)))) bw)
   (aF (bf (PW.pt (pw_and (bC lS (pv 2) au (bh _)) (pw_and1 (PW.pt (pw_or (cI (b6 (aS eR rfl n.c3 cX (aa (pv 3) (aa (ej (v:=.ty "str") rfl n.str boot_str rfl) af))))) (pw_or1 (pI (r8 O (pv 3) (pv 0))))))))) (aA (aO (ie (aa bO af)))) bw)
   (aF (bf (PW.pt (pw_and (bC iR (pv 2) au (bh _)) (pw_and1 (PW.pt (pw_or (cI (b6 (aS eR rfl n.c3 cX (aa (pv 4) (aa (ej (v:=.ty "str") rfl n.str boot_str rfl) af))))) (pw_or1 (bC wq (pv 4) (pv 1) rfl))))))) (aA (aO (ie (aa bO af)))) bw)
   (aA (aO (ie af)))))),?_⟩
  have b:∀{G:Hp}{xs:am V},ao H G->xs=n7 (bV ns ks aK dn j)->xs.length<=1->(xs.length<=UJ /\∀l I,ao G I->G l=none->I l=bn xs->Q (.ref l) I):=λ{G xs} S e h=>⟨by rw[aJ];omega,λl I X _ Y=>q l _ (S.trans X) (by rw[Y,e])⟩
  by_cases g:aK<2
  ·refine ag rfl ⟨_,_,rfl,rfl,_,rfl,ite_tt (bq (by omega)) ?_⟩
   refine ag rfl (ic lJ C ⟨_,rfl,?_⟩);cases r:dw "str" dn with
   |false=>exact b (ao.refl _) (by unfold bV;rw[aw g,aw (tK r)];rfl) (aG _)
   |true =>
    obtain⟨x,rfl,rfl⟩:=pV C r;refine ag rfl ⟨by rw[aJ];decide,λc H1 a _ xa=>⟨c,mf.map V.str,rfl,.inl (aq.of xa),rfl,h7 _,?_⟩⟩
    rw[ak bX,iJ];refine⟨_,rfl,?_⟩;cases t:cM x with
    |false=>exact ite_tt (bq (W x rfl t)) (b a (by unfold bV;rw[aw g,aw (show cu (.str x)=false from t)];rfl) (aG _))
    |true =>
     have J:cu (.str x)=true:=t;refine ite_ff (a' λz=>by rw[LD x z]at t;cases t) ?_
     refine ag rfl ⟨_,_,rfl,rfl,_,rfl,ite_tt (bq (by omega)) ?_⟩
     refine bj rfl rfl ⟨td,_,rfl,eI.k (k:=Uz x) (a _ _ M),?_⟩;rw[m6 T x];refine⟨_,rfl,?_⟩
     by_cases d:x∈ns
     ·exact ite_tt (bq d) (b a (by unfold bV;rw[aw g,J,ak (by decide),fx m,aw (bq d)];rfl) (aG _))
     ·refine ite_ff (a' d) ?_
      refine ag rfl ⟨_,_,rfl,rfl,_,rfl,ite_ff (a' (by omega)) ?_⟩
      refine ag rfl ⟨rfl,_,rfl,ite_tt (by rw[a' (λz=>by injection z with z;omega)];rfl) ?_⟩
      refine ag rfl (ic lJ (Dt.same D a) ⟨_,rfl,?_⟩);have u:b3 ks j=false->n7 (bV ns ks aK (.str x) j)=[.str "kind"]:=λz=>by unfold bV;rw[aw g,J,ak (by decide),fx m,a' d,ak (by decide),aw z];rfl
      cases o:dw "str" j with
      |false=>exact b a (u (tM o)).symm (aG _)
      |true =>
       obtain⟨y,rfl,rfl⟩:=pV D o;refine bj rfl rfl ⟨lk,ks.map V.str,rfl,.inl (aq.of (a _ _ N)),rfl,h7 _,?_⟩;rw[aw rfl,iJ];refine⟨_,rfl,?_⟩
       by_cases i:y∈ks
       ·refine ite_ff (by rw[bq i];rfl) ?_
        exact b a (by unfold bV;rw[aw g,J,ak (by decide),fx m,a' d,ak (by decide),fx B,bq i,ak (by decide)];rfl) (ba _)
       ·exact ite_tt (by rw[a' i];rfl) (b a (u (by rw[fx B,a' i])).symm (aG _))
  ·refine ag rfl ⟨_,_,rfl,rfl,_,rfl,ite_ff (a' (by omega)) ?_⟩
   refine ag rfl ⟨_,_,rfl,rfl,_,rfl,ite_ff (a' (by omega)) ?_⟩
   refine ag rfl ⟨_,_,rfl,rfl,_,rfl,ite_tt (bq (by omega)) ?_⟩
   refine ag rfl (ic lJ C ⟨_,rfl,?_⟩);have R:b3 ns dn=false->n7 (bV ns ks aK dn j)=[.str "thing"]:=λz=>by unfold bV;rw[ak g,aw z];rfl
   cases r:dw "str" dn with
   |false=>exact b (ao.refl _) (R (tM r)).symm (aG _)
   |true =>
    obtain⟨x,rfl,rfl⟩:=pV C r;have a:=ao.refl H;refine bj rfl rfl ⟨td,_,rfl,eI.k (k:=Uz x) M,?_⟩;rw[m6 T x];refine⟨_,rfl,?_⟩
    by_cases d:x∈ns
    ·refine ite_ff (by rw[bq d];rfl) ?_
     by_cases L:aK=2
     ·refine ag rfl ⟨rfl,_,rfl,ite_ff (by rw[L];decide) ?_⟩
      exact b a (by unfold bV;rw[ak g,fx m,bq d,ak (by decide),ak (λz=>z.1 L)];rfl) (ba _)
     ·skip
      refine ag rfl ⟨rfl,_,rfl,ite_tt (by rw[a' (λz=>by injection z with z;omega)];rfl) ?_⟩
      refine ag rfl (ic lJ (Dt.same D a) ⟨_,rfl,?_⟩);have u:b3 ks j=false->n7 (bV ns ks aK (.str x) j)=[.str "kind"]:=λz=>by unfold bV;rw[ak g,fx m,bq d,ak (by decide),aw ⟨L,z⟩];rfl
      cases o:dw "str" j with
      |false=>exact b a (u (tM o)).symm (aG _)
      |true =>
       obtain⟨y,rfl,rfl⟩:=pV D o;refine bj rfl rfl ⟨lk,ks.map V.str,rfl,.inl (aq.of (a _ _ N)),rfl,h7 _,?_⟩;rw[aw rfl,iJ];refine⟨_,rfl,?_⟩
       by_cases i:y∈ks
       ·refine ite_ff (by rw[bq i];rfl) ?_
        exact b a (by unfold bV;rw[ak g,fx m,bq d,ak (by decide),ak (λz=>by rw[fx B,bq i]at z;cases z.2)];rfl) (ba _)
       ·exact ite_tt (by rw[a' i];rfl) (b a (u (by rw[fx B,a' i])).symm (aG _))
    ·exact ite_tt (by rw[a' d];rfl) (b a (R (by rw[fx m,a' d])).symm (aG _))
def eJ(aM:List Th)(aK:Nat)(n k:F4):List Th:=
 if aK<2 then aM++[(n,k,[])] else if aK=2 then cR aM n else aM.map λp=>if p.1=n then (n,k,p.2.2) else p
theorem cq.val{c:am Th}(h:cq H td kvs c)(d:(c.map (·.1)).Nodup){th:Th}(f:th∈c):∃a b,bz kvs (Uz th.1)=ih (.ref a)/\H a=bi [.str th.2.1,.ref b]/\H b=ce (gB th.2.2):=by
 induction h with
 |nil=>cases f
 |cons e _ i =>
  rw[bD,eu]at d;obtain⟨g,a,b,j,_,_,k,l⟩:=e;rcases bu.mp f with z|z
  ·subst z;exact⟨a,b,by rw[e7 g,j],k,l⟩
  ·obtain⟨m,n,o,r⟩:=i d.2 z
   refine⟨m,n,?_,r⟩;rw[ey (by rw[g];exact λy=>d.1 (fQ y ▸ aZ.mpr ⟨th,z,rfl⟩)),o]
theorem cq.to{c:FG}{f:am Th}(h:cq H td kvs f)(n:H c=none)(k:∀b u,b≠c->H b=ih u->Y b=ih u):cq Y c kvs f:=Paired.imp' (λ_ _ j=>by obtain⟨g,a,b,i,_,_,d,e⟩:=j;exact ⟨g,a,b,i,aB d n,aB e n,k _ _ (aB d n) d,k _ _ (aB e n) e⟩) h
theorem cq.wo{a:am Th}(h:cq H td kvs a)(n:F4):cq H td (km kvs (Uz n)) (cR a n):=by
 unfold km cR
 induction h with
 |nil=>exact .nil
 |@cons c p _ _ e _ b =>
  by_cases z:p.1=n
  ·rw[iG (by simp[e.1,z]),iG (by simp[z])];exact b
  ·rw[h6 (by simp[e.1,z]),h6 (by simp[z])];exact .cons e b
theorem cq.turn{c:am Th}(h:cq H td kvs c)(d:(c.map (·.1)).Nodup){th:Th}(f:th∈c){k:F4}(i:a≠td)(j:b≠td)(l:H a=bi [.str k,.ref b])(m:H b=ce (gB th.2.2)):cq H td (putK kvs (Uz th.1) (.ref a)) (c.map λp=>if p.1=th.1 then (th.1,k,p.2.2) else p):=by
 obtain⟨_,_,v,_⟩:=h.val d f;unfold putK;rw[aw (by rw[iK,v];rfl)]
 have h2:XU (λg p=>(g.1=Uz p.1 /\∃a b,g.2=V.ref a/\a≠td/\b≠td/\H a=bi [.str p.2.1,.ref b]/\H b=ce (gB p.2.2))/\(p.1=th.1->p=th)) kvs c:=L2.Paired.uF h λv p n x=>⟨x,λz=>uv d n f z⟩;clear v h f d
 induction h2 with
 |nil=>exact .nil
 |@cons g p _ _ e _ o =>
  rw[bD,bD];refine .cons ?_ o
  by_cases z:p.1=th.1
  ·rw[aw z,aw (by rw[e.1.1,z]),e.2 z]
   exact⟨by rw[e.1.1,z],a,b,rfl,i,j,l,m⟩
  ·rw[ak z,ak (by rw[e.1.1];exact λy=>z (fQ y))];exact e.1
inductive qO(vs:List V)(H:Hp)(Q:VK)(E:XK):Prop
 |mk{td:FG}{kvs:List (Key×V)}{aM:List Th}{aK:Nat}{n k:F4}{vk:V}(_:vs=[.ref td,.int aK,.str n,vk])(_:H td=ih (.dK kvs))(_:cq H td kvs aM)(_:(aM.map (·.1)).Nodup)(_:aM.length<=5)(_:aK<2->n ∉ aM.map (·.1))(_ : ¬ aK<2->n∈aM.map (·.1))(_:aK≠2->vk=.str k)
  (_:∀u' Eb Y,ao H Y->Y u'=ih (.dK Eb)->cq Y u' Eb (eJ aM aK n k)->Q (.ref u') Y):qO vs H Q E
noncomputable abbrev va:List F4:=["_law_things_here","_law_deed","_law_thing","_law_kind"]
noncomputable abbrev QO:List F4:=["_law_things_here","_law_deed","_law_thing","_law_kind","_law_behind_here"]
theorem Ec:bg QO va (aH tF):=bB
theorem Oi(F:aR K "_law_behind" "_law_behind" tF f fd)(yb:dq mg):aU P w K mg base aC 1 f fd va qO:=by
 refine F.cz Ec λQc A outer s H vs Q E zb h=>?_
 ·obtain @⟨td,kvs,J,aK,n,k,xc,rfl,L,tv,U,zd,xa,ya,za,q⟩:=h
  have C:=ip zb.units;intro X;refine⟨_,aF (bt 4 Ec.nd (dX Io rfl yb.dict boot_dict (aa (pv 0) af)))
   (aF (bf (bC kj (pv 1) au (bh _)) (aA (jq C (pv 4) (pv 2) (cZ (aa (pv 3) (aa lA af))) rfl))
    (aA (bf (bC di (pv 1) au (bh _)) (aA (eT (fz PySem.F.plainAttrs_dict Vp PySem.F.type_dict_pop K7 (pv 4) (aa (pv 2) af))))
     (aA (jq C (pv 4) (pv 2) (cZ (aa (pv 3) (aa (aW bR (nt C (pv 0) (pv 2)) au) af))) rfl)))))
   (aA (aO (pv 4)))),?_⟩
  refine ag rfl ⟨td,kvs,rfl,L,λd B=>?_⟩;have j:=ay (o:=.dK kvs) B;have i:upd H d (.dK kvs) d=ce kvs:=ah;have I:=j _ _ L;have y:cq (upd H d (.dK kvs)) d kvs J:=tv.to B λb u n e=>j _ _ e;generalize upd H d (.dK kvs)=H1 at j i I y⊢;have xe:kvs.length=J.length:=cC tv;have wr:∀{G:Hp}{o:HO},ao H G->ao H (upd G d o):=λ{G o} S b u e=>by rw[ai (aB e B)];exact S _ _ e
  have M:aK≠2->xc=.str k:=za
  by_cases r:aK<2
  ·obtain rfl:=M (by omega)
   have Y:=xa r;refine ag rfl ⟨_,_,rfl,rfl,_,rfl,ite_tt (bq (by omega)) ?_⟩
   refine ag rfl λc D=>⟨dc,λt l=>?_⟩;have g:=(ay (o:=.dK []) D).trans (ay (o:=.tup [V.str k,.ref c]) l);have m:upd (upd H1 c (.dK [])) t (.tup [V.str k,.ref c]) t=bi [V.str k,.ref c]:=ah;have N:upd (upd H1 c (.dK [])) t (.tup [V.str k,.ref c]) c=ce []:=by rw[ai (aB ah l)];exact ah
   have O:c≠d:=a7 (aB i D);have p:t≠d:=a7 (aB (ay (o:=.dK []) D _ _ i) l);generalize upd (upd H1 c (.dK [])) t (.tup [V.str k,.ref c])=H2 at g m N⊢;refine bj rfl rfl ⟨d,_,rfl,gf.k (k:=Uz n) (g _ _ i) (by rw[aJ];omega),ag rfl (q d _ _ (wr (j.trans g)) ah ?_)⟩
   have yc:bz kvs (Uz n)=none:=by
    have:=m6 tv.keys n;rw[a' Y]at this
    simpa using this
   unfold eJ;rw[aw r,nc _ yc];refine gY ((y.same g).keep λb u n _ e=>by rw[ai n];exact e) ⟨rfl,t,c,rfl,p,O,?_,?_⟩
   ·rw[ai p];exact m
   ·rw[ai O];exact N
  ·obtain⟨th,W,zc⟩:=aZ.mp (ya r)
   subst zc;obtain⟨a,b,v,xb,R⟩:=tv.val U W;have xd:=j _ _ xb;have yd:=j _ _ R;refine ag rfl ⟨_,_,rfl,rfl,_,rfl,ite_ff (a' (by omega)) ?_⟩
   by_cases x:aK=2
   ·refine ag rfl ⟨rfl,_,rfl,ite_tt (by rw[x];decide) ?_⟩
    refine ag rfl ⟨.inr (.inr (.inl ⟨rfl,.inl ⟨_,i⟩⟩)),ag rfl ⟨d,kvs,Uz th.1,.ref a,rfl,rfl,i,v,ag rfl (q d _ _ (wr j) ah ?_)⟩⟩;unfold eJ;rw[ak r,aw x];exact(y.wo th.1).keep λb u n _ e=>by rw[ai n];exact e
   ·obtain rfl:=M x
    refine ag rfl ⟨rfl,_,rfl,ite_ff (a' (λz=>x (by injection z with z;omega))) ?_⟩
    refine ed rfl rfl rfl ⟨td,.ref a,rfl,by rw[<-v];exact eI.k (k:=Uz th.1) I,d3 xd gg ⟨dc,λt l=>?_⟩⟩
    have g:=ay (o:=.tup [V.str k,.ref b]) l;have m:upd H1 t (.tup [V.str k,.ref b]) t=bi [V.str k,.ref b]:=ah;have p:t≠d:=a7 (aB i l);have T:b≠d:=aB R B;generalize upd H1 t (.tup [V.str k,.ref b])=H2 at g m⊢;refine bj rfl rfl ⟨d,_,rfl,gf.k (k:=Uz th.1) (g _ _ i) (by rw[aJ];omega),ag rfl (q d _ _ (wr (j.trans g)) ah ?_)⟩
    unfold eJ;rw[ak r,ak x];refine cq.turn ((y.same g).keep λb u n _ e=>by rw[ai n];exact e) U W p T ?_ ?_
    ·rw[ai p];exact m
    ·rw[ai T];exact g _ _ yd
def cV:Vo->Option V
 |.Constant .none _ _=>ih .aN
 |.Constant (.bool b) _ _=>ih (.bl b)
 |.Constant (.int i) _ _=>ih (.int i)
 |.Constant (.str x) _ _=>ih (.str x)
 |.UnaryOp .USub (.Constant (.int i) _ _) _=>ih (.int (-i))
 |_=>none
theorem Oj(h:cV e=ih v):PE X e (tC v):=by
 unfold cV at h;split at h
 ·cases h;exact iN
 ·cases h;exact eH
 ·cases h;exact au
 ·cases h;exact bO
 ·cases h;exact λJ s σ H Q I q=>ud tQ au J s σ H Q I ⟨_,rfl,q⟩
 ·cases h
theorem Kg(h:cV e=ih v):U6 (e::es) X.env=(false,eval e X.env)::U6 es X.env:=by
 unfold cV at h;split at h <;> first|rfl|cases h
mutual
inductive CT where
 |v (x:V)
 |tup (l:gk)
 |lst (l:gk)
inductive gk where
 |nil
 |cons (a:CT) (b:gk)
end
mutual
def ja:CT->Vo->Bool
 |.v x,e=>decide (cV e=ih x)
 |.tup l,e=>match e with|.Tuple es _ _=>jF l es|_=>false
 |.lst l,e=>match e with|.List es _=>jF l es|_=>false
def jF:gk->List Vo->Bool
 |.nil,es=>es.isEmpty
 |.cons a b,es=>match es with|e::r=>ja a e&&jF b r | []=>false
end
mutual
def tE:CT->TE
 |.v x=>tC x
 |.tup l=>Dy (tA l)
 |.lst l=>Dz (tA l)
def tA:gk->TA
 |.nil=>Dx
 |.cons a b=>CO (tE a) (tA b)
end
theorem Jd{c:CT}(h:ja c e=true):U6 (e::es) X.env=(false,eval e X.env)::U6 es X.env:=by
 cases c with
 |v x=>unfold ja at h;exact Kg (fw h)
 |tup l=>unfold ja at h;split at h <;> first|rfl|cases h
 |lst l=>unfold ja at h;split at h <;> first|rfl|cases h
mutual
theorem Ol{X:Cx}:∀(c:CT) {e:Vo},ja c e=true->PE X e (tE c)
 |.v x,e,h=>by unfold ja at h;unfold tE;exact Oj (fw h)
 |.tup l,e,h=>by
  unfold ja at h;unfold tE;split at h
  ·exact cZ (pW l h)
  ·cases h
 |.lst l,e,h=>by
  unfold ja at h;unfold tE;split at h
  ·exact ea (pW l h)
  ·cases h
theorem pW{X:Cx}:∀(l:gk) {es:am Vo},jF l es=true->PA X es (tA l)
 |.nil,es,h=>by
  unfold jF at h;unfold tA;cases es with
  |nil=>exact af
  |cons a b=>cases h
 |.cons a b,es,h=>by
  unfold jF at h;unfold tA;split at h
  ·obtain⟨U,h2⟩:=gn.mp h
   exact aa (Ol a U) (pW b h2) (Jd U)
  ·cases h
end
def dV:V->UA|.aN=>.none|.bl b=>.bool b|.int i=>.int i|.str x=>.str x|_=>.none
def E1:V->Bool|.aN=>true|.bl _=>true|.int _=>true|.str _=>true|_=>false
def mh:gk->Nat|.nil=>0|.cons _ b=>mh b+1
mutual
def dC:CT->UA
 |.v x=>dV x
 |.tup l=>.tuple (jb l)
 |.lst l=>.list (jb l)
def jb:gk->List UA
 |.nil=>[]
 |.cons a b=>dC a::jb b
end
mutual
def oq:CT->Bool
 |.v x=>E1 x
 |.tup l=>kH l&&decide (mh l<=100)
 |.lst l=>kH l&&decide (mh l<=100)
def kH:gk->Bool
 |.nil=>true
 |.cons a b=>oq a&&kH b
end
theorem Om{x:V}(h:E1 x=true):Dt p H x (dV x):=by
 cases x <;> first|constructor|cases h
theorem B4(h:n<=100):n<=UJ:=by rw[aJ];omega
mutual
theorem Oo{p:FG}{o:HO}{σ:St}:∀(c:CT) {H:Hp}{Q:VK},H p=ih o->oq c=true->(∀v Y,ao H Y->Dt p Y v (dC c)->Q v Y)->tE c σ H Q
 |.v x,H,Q,e,b,q=>by unfold tE;unfold oq at b;unfold dC at q;exact q x H (ao.refl _) (Om b)
 |.tup l,H,Q,e,b,q=>by
  unfold tE;unfold oq at b;unfold dC at q;obtain⟨U,h2⟩:=gn.mp b;refine pX l e U λvs H1 f g r=>⟨B4 (by rw[g];exact fw h2),λa d=>?_⟩
  exact q _ _ (f.trans (ay d)) (.tup (a7 (aB (f _ _ e) d)) ah (bU.same r (ay d)))
 |.lst l,H,Q,e,b,q=>by
  unfold tE;unfold oq at b;unfold dC at q;obtain⟨U,h2⟩:=gn.mp b;refine pX l e U λvs H1 f g r=>⟨B4 (by rw[g];exact fw h2),λa d=>?_⟩
  exact q _ _ (f.trans (ay d)) (.lst (a7 (aB (f _ _ e) d)) ah (bU.same r (ay d)))
theorem pX{p:FG}{o:HO}{σ:St}:∀(l:gk) {H:Hp}{Q:am V->Hp->Prop},H p=ih o->kH l=true->(∀vs Y,ao H Y->vs.length=mh l->bU p Y vs (jb l)->Q vs Y)->tA l σ H Q
 |.nil,H,Q,c,d,q=>by unfold tA;unfold jb at q;exact q [] H (ao.refl _) rfl .nil
 |.cons a b,H,Q,c,d,q=>by
  unfold tA;unfold kH at d;unfold jb at q;obtain⟨U,h2⟩:=gn.mp d;refine Oo a c U λv H1 e h=>pX b (e _ _ c) h2 λvs H2 f g i=>?_;exact q (v::vs) H2 (e.trans f) (by rw[cD,g];rfl) (.cons (Dt.same h f) i)
end
@[irreducible] def tB(l:gk):TA:=tA l
theorem M0(l:gk)(h:jF l es=true):PA X es (tB l):=by unfold tB;exact pW l h
theorem M1{o:HO}(l:gk){Q:am V->Hp->Prop}(a:H p=ih o)(b:kH l=true)(q:∀vs Y,ao H Y->vs.length=mh l->bU p Y vs (jb l)->Q vs Y):tB l σ H Q:=by unfold tB;exact pX l a b q
@[irreducible] def hO:gk:=.cons (.v (.str "")) (.cons (.v (.str "A")) (.cons (.v (.str "a b")) (.cons (.v (.str "abcdefghi")) (.cons (.v (.str "a1")) (.cons (.v (.int 7)) (.cons (.v .aN) (.cons (.v (.bl true)) (.cons (.tup (.cons (.v (.str "a")) .nil)) (.cons (.lst (.cons (.v (.str "a")) .nil)) .nil)))))))))
def qP(d:UA):Bool:= !cu d&&(decide (d.bulk<=100000)&&match d with|.str x=>decide (x∈mf)|_=>true)
theorem B5:∀d∈jb hO,qP d=true:=by unfold hO;decide +kernel
theorem QP:kH hO=true:=by unfold hO;decide +kernel
theorem Ed:mh hO=10:=by unfold hO;rfl
theorem M3{d:UA}(h:qP d=true):cu d=false/\Sm d /\∀x,d=.str x->cM x=false->x∈mf:=by
 unfold qP at h;obtain⟨U,h⟩:=gn.mp h;obtain⟨h2,a⟩:=gn.mp h;refine⟨by simpa using U,(show d.bulk<=100000 from fw h2),λx e _=>?_⟩
 subst e;exact fw a
def Oq:Vo->List Vo|.List es _=>es|_=>[]
def lstP(e:Vo):ZV:=match e with|.List _ p=>p|_=>⟨0,0,0,0⟩
def Pq(s:VC):ZV:=match s with|.Assign _ _ p=>p|_=>⟨0,0,0,0⟩
def Pr(s:VC):List Vo:=match s with|.Assign t _ _=>t|_=>[]
end eL
namespace eL
open L2 W HT
def ot(p q:Th):Prop:=q.1=p.1/\q.2.1=p.2.1/\q.2.2.Perm p.2.2
def ou(aM:List Th):Prop:= ∀q∈aM,(q.2.2.map (·.1)).Pairwise λa b=>bZ a b=true
theorem cQ.keyed{c:am Th}(h:cQ H vs c):∃kvs,dh H 1 vs kvs/\kvs.map (·.1)=(c.map (·.1)).map λx=>[x]:=by
 induction h with
 |nil=>exact⟨[],.nil,rfl⟩
 |@cons _ p _ _ h _ d =>
  obtain⟨a,b,us,e,q,_⟩:=h;obtain⟨kvs,U,h2⟩:=d;exact⟨([p.1],[.str p.2.1,.ref b])::kvs,.cons ⟨a,e,q,rfl⟩ U,by rw[bD,h2];rfl⟩
theorem ints_of{own:Own}{a:am (F4×V)}(p:a.Perm (own.map λq=>(q.1,V.int q.2))):∃b:Own,a=b.map (λq=>(q.1,V.int q.2))/\b.Perm own:=by
 have e:a=(a.map λq=>((q.1,match q.2 with|.int z=>z|_=>0):F4×Int)).map λq=>(q.1,V.int q.2):=by
  rw[c5];refine((j0 (g:=id) λq c=>?_).trans (vX _)).symm;obtain⟨x,_,rfl⟩:=aZ.mp (p.mem_iff.mp c)
  rfl
 refine⟨_,e,?_⟩;have:=p.map λq=>((q.1,match q.2 with|.int z=>z|_=>0):F4×Int);rw[c5]at this;refine this.trans (ZL ((j0 (g:=id) λq _=>rfl).trans (vX _)))
theorem Je{own:Own}(h:hC H vs (own.map λq=>(q.1,V.int q.2))):gi H vs own:=by
 induction own generalizing vs with
 |nil=>cases h;exact .nil
 |cons q own a=>cases h with|cons e r=>exact .cons e (a r)
theorem o3{b a:am Th}(h:XU ot b a):a.map (·.1)=b.map (·.1):=by
 induction h with
 |nil=>rfl
 |cons e _ c=>rw[bD,bD,c,e.1]
theorem B6{kv:Key×V}:∀{kvs:am (Key×V)}{i:Nat},(kvs.map (·.1)).Nodup->kvs[i]?=ih kv->bz kvs kv.1=ih kv.2
 |[],i,_,h=>by simp at h
 |p::kvs,0,_,h=>by cases h;exact e7 rfl
 |p::kvs,i+1,a,h=>by
  rw[bD,eu]at a;rw[ey (λz=>a.1 (by rw[z];exact aZ.mpr ⟨kv,dQ (by simpa using h),rfl⟩))]
  exact B6 a.2 (by simpa using h)
theorem cq.nodup{a:am Th}(h:cq H td kvs a)(b:(a.map (·.1)).Nodup):(kvs.map (·.1)).Nodup:=by
 rw[h.keys,jg,ff];exact(jg.mp b).imp λh z=>h (fQ z)
theorem Jf{f:am Th}{kvs:am (List F4×List V)}(h:cQ H vs f)(h':dh H 1 vs kvs):kvs.map (·.1)=f.map λp=>[p.1]:=L2.Paired.both h (λv p c x y=>by
 obtain⟨a,b,us,e,q,_⟩:=x;obtain⟨l,g,i,j⟩:=y;rw[e]at g;cases g;rw[q]at i;obtain⟨ks,rest⟩:=c;cases ks with
 |nil=>simp at j
 |cons k ks =>
  cases ks with
  |cons m ks=>simp at j
  |nil=>injection (cS i) with z;injection z with d n;injection d with d;show [k]=[p.1];rw[d]) h'
theorem LF{c:am Th}(h:(c.map λp=>[p.1]).Pairwise λa b=>cp a b=true):(c.map (·.1)).Pairwise λa b=>bZ a b=true:=by
 rw[ff]at h⊢;exact h.imp λ{a b} z=>by rw[<-pA];exact z
inductive n8(vs:List V)(H:Hp)(Q:VK)(E:XK):Prop
 |mk{t db td:FG}{kvs:List (List Key×V)}{Qe:Bk}{kt:List (Key×V)}{aM:List Th}{ks:List F4}(_:vs=[.ref t,.ref db,.ref td])(_:H db=ih (.dT kvs))(_:d0 H kvs Qe)(_:kD Qe)(_:H td=ih (.dK kt))(_:cq H td kt aM)(_:i4 ks aM)(_:aM.length<=5)
  (_:∀r tb tt wb wt bk gQ Y,ao H Y->eh Y r t tb tt wt gQ->Y tb=ih (.tup wb)->b' Y wb bk->bk.Perm Qe->jQ bk->(∃uQ,XU ot aM uQ/\gQ.Perm uQ)->ou gQ->(gQ.map (·.1)).Pairwise (λa b=>bZ a b=true)->Q (.ref r) Y):n8 vs H Q E
noncomputable abbrev vb:List F4:=["_law_family_here","_law_book_here","_law_things_here"]
noncomputable abbrev E3:List F4:=["_law_family_here","_law_book_here","_law_things_here","_law_rows","_law_thing","_law_kind","_law_own","_law_triples"]
theorem mi:bg E3 vb (aH nJ):=bB
noncomputable abbrev QQ:Vo:=e4 (bH (bE nJ) 2)
theorem qQ:bJ E3 (aH nJ) ["_law_kind","_law_name","_law_entry_here"] [none,none,none] (bS QQ):=cJ
theorem Ot(F:aR K "_law_world" "_law_world" nJ f fd)(B:b7 mg)(xm:dq mg):aU P w K mg base aC 1 f fd vb n8:=by
 refine F.cz mi λQc A outer s H vs Q E xh h=>?_
 ·obtain @⟨t,db,td,kvs,Qe,j,Y,ks,rfl,xg,yy,ok,xa,tv,to,yP,q⟩:=h
  have yD:=ip xh.units;intro X;refine⟨_,aF (bt 3 mi.nd (ea af))
   (aF (gu fZ rfl (KP (pv 2)) (a4 4 mi.nd)
    (aF (lK (nt yD (pv 2) (pv 4)) (kc rfl (cH (a4 5 mi.nd) (cH (a4 6 mi.nd) gJ))))
    (aA (eT (fz g5 h3 h5 gr (pv 3) (aa (cZ (aa (pv 4) (aa (pv 5) (aa (dX iH rfl B.tuple boot_tuple (aa (GQ rfl rfl xm.sorted (pv 6)) af)) af)))) af))))))
   (aF (mR rfl qQ mi.nd (i:=7) rfl rfl (I0 (pv 1)) (λs H fp=>⟨lE (n:=2) K rfl rfl (cH (lE (n:=2) K rfl rfl (cH (a4 0 qQ.nd) (cH (a4 1 qQ.nd) gJ))) (cH (a4 2 qQ.nd) gJ)),cP,cZ (aa (pv 0) (aa (pv 1) (aa (pv 2) af)))⟩))
   (aA (aO (JV (K0 (cZ (aa (pv 0) (aa (dX iH rfl B.tuple boot_tuple (aa (aS oQ rfl xm.sorted boot_sorted (aa (pv 7) af)) af)) (aa (dX iH rfl B.tuple boot_tuple (aa (aS oQ rfl xm.sorted boot_sorted (aa (pv 3) af)) af)) af)))))))))),?_⟩
  refine⟨ba _,λk xk=>?_⟩;have yh:=ay (o:=.lst []) xk;have yg:td≠k:=aB xa xk;have yk:db≠td:=bx xg xa
  have yp:upd H k (.lst []) k=bn []:=ah;have zt:=tv.same yh;have zp:=yh _ _ xa;generalize upd H k (.lst [])=H1 at yh yp zt zp⊢;have xJ:j.length=Y.length:=cC tv;refine ag rfl ⟨td,j,rfl,.inl ⟨zp,λo=>?_⟩⟩;have zg:∀b u,b≠td->H1 b=ih u->upd H1 td (.aX o (.dK j)) b=ih u:=λb u n e=>by rw[ai n];exact e
  have ye:upd H1 td (.aX o (.dK j)) td=ih (.aX o (.dK j)):=ah;have xu:cq (upd H1 td (.aX o (.dK j))) td j Y:=zt.keep λb u n _ e=>zg b u n e;have ze:=zg _ _ (a7 yg) yp;generalize upd H1 td (.aX o (.dK j))=H2 at zg ye xu ze⊢;refine JE (o:=o) (λi σ d=>∃(M:am V) (G:am Th) (ym zm xn:ap V),σ=[bd t,bd db,bd td,bd k,ym,zm,xn,none]/\(∀b u,b≠k->H2 b=ih u->d b=ih u)/\d k=bn M/\cQ d M G/\XU ot (Y.take i) G/\ou G)
   ⟨[],[],none,none,none,rfl,λb u _ e=>e,ze,.nil,.nil,λq N=>(by cases N)⟩ (λi σ d _ ab=>by obtain⟨_,_,_,_,_,_,z,_⟩:=ab;exact z _ _ yg ye) ?_ ?_
  ·rintro i m σ d yb ⟨M,G,ym,zm,xn,rfl,J,xb,zc,v,yn⟩
   obtain⟨p,y,xd,a,b,yJ,zP,xQ,zy,O⟩:=L2.Paired.get xu yb;have pm:=dQ y;have zk:Y.take (i+1)=Y.take i++[p]:=by rw[cO,y];rfl
   have zD:=J _ _ (bx zy ze) zy
   have xE:=J _ _ (bx O ze) O
   have yj:=J _ _ yg ye;have zn:=B6 (tv.nodup to.nd) yb;rw[yJ]at zn;rw[xd]at zn⊢;rw[show kV (Uz p.1)=V.str p.1 from rfl];refine bj rfl rfl ⟨td,.ref a,rfl,.inl ⟨j,Uz p.1,.inr ⟨o,yj⟩,rfl,zn.symm⟩,?_⟩;refine⟨a,_,rfl,aE.of zD,rfl,_,_,rfl,_,_,rfl,rfl,?_⟩;refine ag rfl ⟨.inl ⟨rfl,_,aq.of xb⟩,_,rfl,_,rfl,_,rfl,b,_,rfl,xE,by rw[c5];exact(to.ow p pm).1.nd,by rw[ar];have:=(to.ow p pm).2;omega,λD ys zN yd xz zJ xK pv yK yz=>?_⟩
   obtain⟨yC,rfl,zK⟩:=ints_of yK;refine⟨D,ys,rfl,.inl ⟨aq.of xK,λc za=>⟨hT,λtt L=>?_⟩⟩⟩;have C:=zJ.trans ((ay (o:=.tup ys) za).trans (ay (o:=.tup [V.str p.1,.str p.2.1,.ref c]) L));have yu:=(ay (o:=.tup ys) za).trans (ay (o:=.tup [V.str p.1,.str p.2.1,.ref c]) L);have xq:upd (upd yd c (.tup ys)) tt (.tup [V.str p.1,.str p.2.1,.ref c]) tt=bi [V.str p.1,.str p.2.1,.ref c]:=ah;have zu:upd (upd yd c (.tup ys)) tt (.tup [V.str p.1,.str p.2.1,.ref c]) c=bi ys:=by rw[ai (aB ah L)];exact ah
   generalize upd (upd yd c (.tup ys)) tt (.tup [V.str p.1,.str p.2.1,.ref c])=g at C yu xq zu⊢;have yq:=C _ _ xb;have yQ:M.length<=5:=by have U:=cC zc;have h2:=cC v;rw[b8]at h2;omega
   refine⟨k,M,_,rfl,rfl,yq,by rw[aJ];omega,?_⟩
   have I:∀{zs:am V} b xs,g b=bi xs->upd g k (.lst zs) b=bi xs:=λb xs e=>by rw[ai (bx e yq)];exact e
   refine⟨_,G++[(p.1,p.2.1,yC)],_,_,_,rfl,λb u n e=>by rw[ai n];exact C _ _ (J b u n e),ah,?_,?_,λq N=>?_⟩
   ·exact gY ((zc.same C).keep I) ⟨tt,c,ys,rfl,I _ _ xq,I _ _ zu,((Je pv).keep λb xs e=>yu _ _ e).keep I⟩
   ·rw[zk];exact gY v ⟨rfl,rfl,zK⟩
   ·rcases cw.mp N with z|z
    ·exact yn q z
    ·rw[b9.mp z];rw[c5]at yz;exact yz
  ·rintro σ d ⟨M,G,ym,zm,xn,rfl,J,xb,zc,v,yn⟩
   rw[xJ,cF]at v;have zQ:=cC zc;have xR:=cC v;have xl:∀b u,b≠td->H b=ih u->d b=ih u:=λb u n e=>J _ _ (aB e xk) (zg _ _ n (yh _ _ e));have xf:=xl _ _ yk xg;have yj:=J _ _ yg ye;have yE:d0 d kvs Qe:=yy.keep (λb xs e=>xl _ _ (bx e xa) e) ok.ent
   have lk:=yy.length;have xO:=ok.bN;refine ag rfl ⟨db,kvs,rfl,xf,λR c za=>?_⟩;have ya:∀b u,b≠db->d b=ih u->upd d db (.aX R (.dT kvs)) b=ih u:=λb u n e=>by rw[ai n];exact e
   have yf:upd d db (.aX R (.dT kvs)) db=ih (.aX R (.dT kvs)):=ah;have xv:d0 (upd d db (.aX R (.dT kvs))) kvs Qe:=yE.keep (λb xs e=>ya _ _ (bx e xf) e) ok.ent
   have zz:cQ (upd d db (.aX R (.dT kvs))) M G:=zc.keep λb xs e=>ya _ _ (bx e xf) e
   have zj:=ya _ _ (a7 yk) yj;have zq:=ya _ _ (bx xb xf) xb
   generalize upd d db (.aX R (.dT kvs))=yd at ya yf xv zz zj zq za⊢;refine HF (λi ys zh g=>∃xo yo zo:ap V,zh=[xo,yo,zo]/\g c=bn ys/\ao yd g/\b' g ys (Qe.take i)) ⟨none,none,none,rfl,ah,ay za,.nil⟩ (λi ys zh g ab=>by obtain⟨_,_,_,_,z1,z2,_⟩:=ab;exact ⟨z1,z2 _ _ yf⟩) ?_ ?_
   ·rintro i m tp b ys zh g yb zE O ⟨xo,yo,zo,rfl,xp,C,S⟩
    have xF:i<kvs.length:=(bQ.mp yb).1;obtain⟨p,y,xd,xL⟩:=L2.Paired.get (xv.same C) yb;have pm:=dQ y;have zk:Qe.take (i+1)=Qe.take i++[p]:=by rw[cO,y];rfl
    replace O:g b=bi [V.str p.1,V.str p.2.1]:=by rw[xd]at O;exact O
    have xi:=ay (o:=.tup [V.ref b,m.2]) zE;have xr:upd g tp (.tup [V.ref b,m.2]) tp=bi [V.ref b,m.2]:=ah;have yv:=xi _ _ O;have zv:=xL.same xi;generalize upd g tp (.tup [V.ref b,m.2])=xA at xi xr yv zv⊢;refine⟨tp,_,rfl,aE.of xr,rfl,_,_,rfl,b,_,rfl,aE.of yv,rfl,_,_,rfl,_,_,rfl,rfl,_,_,rfl,rfl,?_⟩;refine ed rfl rfl rfl ⟨hT,λtt L=>?_⟩;have T:=ay (o:=.tup [V.str p.1,V.str p.2.1,m.2]) L;have yr:upd xA tt (.tup [V.str p.1,V.str p.2.1,m.2]) tt=bi [V.str p.1,V.str p.2.1,m.2]:=ah;have xw:=zv.same T;generalize upd xA tt (.tup [V.str p.1,V.str p.2.1,m.2])=W at T yr xw⊢;have yl:=xi.trans T;have yw:=yl _ _ xp;have I:∀{zs:am V} b xs,W b=bi xs->upd W c (.lst zs) b=bi xs:=λb xs e=>by rw[ai (bx e yw)];exact e
    refine⟨yw,?_,cw_next xF ⟨_,_,_,rfl,ah,λx u yA=>by rw[ai (aB yA za)];exact yl _ _ (C x u yA),?_⟩⟩
    ·have:=S.length
     rw[b8]at this;rw[aJ];omega
    ·rw[zk]
     exact b'.append (I _ _ yr) ((ok.ent p pm).keep xw I) (b'.keep I (b'.same yl S) λq N=>ok.ent q (rE N))
   ·rintro ys zh g ⟨xo,yo,zo,rfl,xp,C,S⟩
    rw[lk,cF]at S;obtain⟨yF,yL,xd⟩:=S.keyed;have yR:=S.length;refine bj rfl rfl ⟨c,_,yF,2,rfl,.inl (aq.of xp),yL,by decide,by rw[xd];exact ok.nd,by omega,λD l yO xz xC zL zO zF=>?_⟩
    obtain⟨zw,xx,zA⟩:=b'.perm xC S;have xG:jQ zw:=by unfold jQ;rw[<-Ja zA zL];exact zF
    have xM:=ay (o:=.lst l) xz;refine⟨D,l,rfl,.inl ⟨aq.of ah,λtb yG=>?_⟩⟩;have T:=xM.trans (ay (o:=.tup l) yG);have zr:upd (upd g D (.lst l)) tb (.tup l) tb=bi l:=ah;have xB:=b'.same T zA;generalize upd (upd g D (.lst l)) tb (.tup l)=W at T zr xB⊢;have zl:=C.trans T;have yB:=zz.same zl;obtain⟨yx,yM,zG⟩:=yB.keyed;have xH:(yx.map (·.1)).Nodup:=by
     rw[zG,o3 v,jg,ff];exact(jg.mp to.nd).imp λh z=>h (oM z).1
    refine ag rfl ⟨k,_,yx,1,rfl,.inl (aq.of (zl _ _ zq)),yM,aG _,xH,by omega,λyi wt xP yH zB zH _ xt=>?_⟩
    obtain⟨zf,zb,zi⟩:=oR zB yB;have zi:cQ W wt zf:=zi;rw[Jf zi zH]at xt;have xI:ou zf:=λq N=>yn q (zb.mem_iff.mp N);have yI:=ay (o:=.lst wt) yH;refine⟨yi,wt,rfl,.inl ⟨aq.of ah,λtt L=>⟨hT,λr xh=>?_⟩⟩⟩;have xc:=yI.trans ((ay (o:=.tup wt) L).trans (ay (o:=.tup [V.ref t,.ref tb,.ref tt]) xh));have yt:upd (upd (upd W yi (.lst wt)) tt (.tup wt)) r (.tup [V.ref t,.ref tb,.ref tt]) tt=bi wt:=by rw[ai (aB ah xh)];exact ah
    have zx:upd (upd (upd W yi (.lst wt)) tt (.tup wt)) r (.tup [V.ref t,.ref tb,.ref tt]) r=bi [V.ref t,.ref tb,.ref tt]:=ah;generalize upd (upd (upd W yi (.lst wt)) tt (.tup wt)) r (.tup [V.ref t,.ref tb,.ref tt])=xj at xc yt zx⊢;have yc:=zl.trans xc;refine⟨db,R,kvs,yc _ _ yf,(λo u z=>by cases xg.symm.trans z),td,o,j,?_,(λo u z=>by cases xa.symm.trans z),?_⟩
    ·rw[ai (a7 yk)];exact yc _ _ zj
    ·have xy:∀b u,b≠db->b≠td->xj b=ih u->upd (upd xj db (.dT kvs)) td (.dK j) b=ih u:=λb u n1 zd e=>by rw[ai zd,ai n1];exact e
     have zC:=yc _ _ yf;have xD:=yc _ _ zj;have xe:∀b xs,xj b=bi xs->upd (upd xj db (.dT kvs)) td (.dK j) b=bi xs:=λb xs e=>xy _ _ (bx e zC) (bx e xD) e
     have zI:∀p∈zf,Nm p.1:=λp y=>by
      have zM:p.1∈Y.map (·.1):=by rw[<-o3 v];exact aZ.mpr ⟨p,zb.mem_iff.mp y,rfl⟩
      obtain⟨xN,h0,yN⟩:=aZ.mp zM;rw[<-yN];exact to.nm xN h0
     refine q r tb tt l wt zw zf _ (λb u e=>?_) ⟨xe _ _ zx,xe _ _ yt,(zi.keep λb xs e=>xc _ _ e).keep xe,by rw[zb.length_eq];omega,zI,by rw[(zb.map (·.1)).nodup_iff,o3 v];exact to.nd⟩ (xe _ _ (xc _ _ zr)) (b'.keep xe (b'.same xc xB) λp y=>ok.ent p (xx.mem_iff.mp y)) xx xG ⟨G,v,zb⟩ xI (LF xt)
     ·by_cases n1:b=td
      ·subst n1;rw[xa]at e;cases e;exact ah
      ·by_cases zd:b=db
       ·subst zd;rw[xg]at e;cases e;rw[ai n1];exact ah
       ·exact xy _ _ zd n1 (yc _ _ (ya _ _ zd (xl _ _ n1 e)))
theorem tN{α:Type}{f:α->F4}{a b:am α}(c:(a.map f).Pairwise λa b=>bZ a b=true)(d:(b.map f).Pairwise λa b=>bZ a b=true)(p:a.Perm b):a=b:=by
 rw[ff]at c d;refine vT (λx y _ _ U h2=>?_) c d p;have:=Ck U h2;rw[lB]at this;cases this
theorem C8{α:Type}{f:α->F4}{a:am α}(c:(a.map f).Pairwise λa b=>bZ a b=true):a.Nodup:=by
 rw[ff]at c;exact c.imp λz e=>by rw[e,lB]at z;cases z
structure eK(W D:List Th):Prop where
 nm:(W.map (·.1)).Perm (D.map (·.1))
 ins:∀p∈W,∃q∈D,ot q p
 so:(W.map (·.1)).Pairwise λa b=>bZ a b=true
 ow:ou W
theorem Kh{α β:Type}{F:α->β->Prop}{l:am α}{m:am β}(h:XU F l m){y:β}(a:y∈m):∃x∈l,F x y:=by
 induction h with
 |nil=>cases a
 |cons e _ b =>
  rcases bu.mp a with z|z
  ·exact⟨_,aT,z ▸ e⟩
  ·obtain⟨x,c,r⟩:=b z;exact⟨x,a8 _ c,r⟩
theorem eK.of{W D c:am Th}(h:XU ot D c)(p:W.Perm c)(d:ou W)(e:(W.map (·.1)).Pairwise λa b=>bZ a b=true):eK W D:=
 ⟨by rw[<-o3 h];exact p.map _,λx f=>Kh h (p.mem_iff.mp f),e,d⟩
theorem eK.sub{W c D:am Th}(h:eK W D)(h':eK c D)(i:(D.map (·.1)).Nodup){p:Th}(d:p∈W):p∈c:=by
 obtain⟨q,f,j,k,l⟩:=h.ins p d;obtain⟨a,b,e⟩:=aZ.mp (h'.nm.mem_iff.mpr (aZ.mpr ⟨q,f,rfl⟩));obtain⟨s,g,m,n,o⟩:=h'.ins a b;obtain rfl:=uv i g f (by rw[<-m,e])
 have r:p.2.2=a.2.2:=tN (h.ow p d) (h'.ow a b) (l.trans o.symm);have:p=a:=aap (by rw[j,e]) (aap (by rw[k,n]) r)
 rw[this];exact b
theorem eK.uniq{W a D:am Th}(h:eK W D)(h':eK a D)(b:(D.map (·.1)).Nodup):W=a:=
 tN h.so h'.so (wZ (C8 h.so) (C8 h'.so) λ_=>⟨h.sub h' b,h'.sub h b⟩)
theorem Ou{a:am Th}{n:F4}(h:n ∉ a.map (·.1)):cR a n=a:=Gu.mpr λp b=>by
 have:p.1≠n:=λe=>h (e ▸ aZ.mpr ⟨p,b,rfl⟩)
 simpa using this
theorem sO(a:am Th)(n:F4):(cR a n).map (·.1)=(a.map (·.1)).filter λx=>!decide (x=n):=by
 unfold cR;rw[List.filter_map];rfl
theorem w2(a:am Th)(n k:F4):(a.map λp=>if p.1=n then (n,k,p.2.2) else p).map (·.1)=a.map (·.1):=by
 rw[c5];refine j0 λp _=>?_;show(if p.1=n then (n,k,p.2.2) else p).1=p.1;split
 ·next h=>exact h.symm
 ·rfl
theorem Jg{W:am Th}{aK:Nat}{th:Th}{k:F4}(a:(W.map (·.1)).Nodup)(h:th∈W)(b : ¬ aK<2)(c:aK≠2):fJ W aK th.1 k=cR W th.1++[(th.1,k,th.2.2)]:=by
 unfold fJ;rw[ak b,ak c,ua a h];simp
theorem eK.aK{W D g:am Th}{aK:Nat}{n k:F4}(h:eK W D)(B:(D.map (·.1)).Nodup)(pm:g.Perm (fJ W aK n k))(o:(g.map (·.1)).Pairwise λa b=>bZ a b=true)(w:aK<2->n ∉ D.map (·.1))(x : ¬ aK<2->n∈D.map (·.1)):eK g (eJ D aK n k):=by
 have u:(W.map (·.1)).Nodup:=h.nm.nodup_iff.mpr B
 by_cases d:aK<2
 ·have C:=w d
  have y:n ∉ W.map (·.1):=λz=>C (h.nm.mem_iff.mp z);have i:eJ D aK n k=D++[(n,k,[])]:=by unfold eJ;rw[aw d]
  have s:fJ W aK n k=W++[(n,k,[])]:=by unfold fJ;rw[aw d,Ou y]
  rw[s]at pm;rw[i];have j:∀p∈g,p∈W\/p=(n,k,[]):=λp c=>by
   rcases cw.mp (pm.mem_iff.mp c) with z|z
   ·exact .inl z
   ·exact .inr (b9.mp z)
  refine⟨(pm.map _).trans (by rw[a5,a5];exact h.nm.append_right _),λp c=>?_,o,λp c=>?_⟩
  ·rcases j p c with z|rfl
   ·obtain⟨q,f,r⟩:=h.ins p z;exact⟨q,gm _ f,r⟩
   ·exact⟨_,et _ aT,rfl,rfl,.refl _⟩
  ·rcases j p c with z|rfl
   ·exact h.ow p z
   ·exact .nil
 ·obtain⟨th,l,e⟩:=aZ.mp (h.nm.mem_iff.mpr (x d))
  subst e
  by_cases m:aK=2
  ·have i:eJ D aK th.1 k=cR D th.1:=by unfold eJ;rw[ak d,aw m]
   have s:fJ W aK th.1 k=cR W th.1:=by unfold fJ;rw[ak d,aw m]
   rw[s]at pm;rw[i];refine⟨(pm.map _).trans (by rw[sO,sO];exact h.nm.filter _),λp c=>?_,o,λp c=>h.ow p (d9.mp (pm.mem_iff.mp c)).1⟩
   obtain⟨E,F⟩:=d9.mp (pm.mem_iff.mp c);obtain⟨q,f,r⟩:=h.ins p E;exact⟨q,d9.mpr ⟨f,by rw[<-r.1];exact F⟩,r⟩
  ·have i:eJ D aK th.1 k=D.map λp=>if p.1=th.1 then (th.1,k,p.2.2) else p:=by unfold eJ;rw[ak d,ak m]
   rw[Jg u l d m]at pm;rw[i];have A:(cR W th.1++[th]).Perm W:=by
    have:=List.filter_append_perm (λp:Th=>decide (p.1=th.1)) W;rw[ua u l]at this;exact List.perm_append_comm.trans this
   have u6:(cR W th.1++[(th.1,k,th.2.2)]).map (·.1)=(cR W th.1++[th]).map (·.1):=by rw[a5,a5];rfl
   have j:∀p∈g,(p∈W/\p.1≠th.1)\/p=(th.1,k,th.2.2):=λp c=>by
    rcases cw.mp (pm.mem_iff.mp c) with z|z
    ·obtain⟨a,b⟩:=d9.mp z
     exact .inl ⟨a,λe=>by rw[e]at b;simp at b⟩
    ·exact .inr (b9.mp z)
   refine⟨(pm.map _).trans (by rw[u6,w2];exact(A.map _).trans h.nm),λp c=>?_,o,λp c=>?_⟩
   ·rcases j p c with⟨t,v⟩|rfl
    ·obtain⟨q,f,r⟩:=h.ins p t
     refine⟨q,aZ.mpr ⟨q,f,ak (by rw[<-r.1];exact v)⟩,r⟩
    ·obtain⟨q,f,G,I,H⟩:=h.ins th l
     exact⟨(th.1,k,q.2.2),aZ.mpr ⟨q,f,aw G.symm⟩,rfl,rfl,H⟩
   ·rcases j p c with⟨t,v⟩|rfl
    ·exact h.ow p t
    ·exact h.ow th l
theorem i4.aK{D:am Th}{aK:Nat}{n k:F4}(h:i4 ks D)(l:aK<2->n ∉ D.map (·.1))(m:aK<2->Nm n)(j:aK≠2->k∈ks):i4 ks (eJ D aK n k):=by
 unfold eJ
 by_cases g:aK<2
 ·rw[aw g]
  have f:∀p∈D++[(n,k,([]:Own))],p∈D\/p=(n,k,[]):=λp c=>by
   rcases cw.mp c with z|z
   ·exact .inl z
   ·exact .inr (b9.mp z)
  refine⟨λp c=>?_,?_,λp c=>?_,λp c=>?_⟩
  ·rcases f p c with z|rfl
   ·exact h.nm p z
   ·exact m g
  ·rw[a5]
   exact gG.mpr ⟨h.nd,by simp,λa o b r e=>l g ((show a=n from e.trans (b9.mp r)) ▸ o)⟩
  ·rcases f p c with z|rfl
   ·exact h.kd p z
   ·exact j (by omega)
  ·rcases f p c with z|rfl
   ·exact h.ow p z
   ·exact⟨⟨iD,λq d=>by cases d⟩,ba _⟩
 ·rw[ak g]
  by_cases i:aK=2
  ·rw[aw i]
   exact⟨λp c=>h.nm p (d9.mp c).1,by rw[sO];exact h.nd.sublist Gw,λp c=>h.kd p (d9.mp c).1,λp c=>h.ow p (d9.mp c).1⟩
  ·rw[ak i]
   have f:∀p∈D.map (λp=>if p.1=n then (n,k,p.2.2) else p),∃q∈D,p.1=q.1/\p.2.2=q.2.2/\(p.2.1=q.2.1\/p.2.1=k):=λp c=>by
    obtain⟨q,d,e⟩:=aZ.mp c;refine⟨q,d,?_⟩;rw[<-e];split
    ·next z=>exact⟨z.symm,rfl,.inr rfl⟩
    ·exact⟨rfl,rfl,.inl rfl⟩
   refine⟨λp c=>?_,by rw[w2];exact h.nd,λp c=>?_,λp c=>?_⟩
   ·obtain⟨q,d,e,_⟩:=f p c;rw[e];exact h.nm q d
   ·obtain⟨q,d,_,_,z|z⟩:=f p c
    ·rw[z];exact h.kd q d
    ·rw[z];exact j i
   ·obtain⟨q,d,_,e,_⟩:=f p c;rw[e];exact h.ow q d
theorem LG{D:am Th}{aK:Nat}{n k:F4}(h:D.length<=5)(a:aK<2->D.length<5):(eJ D aK n k).length<=5:=by
 unfold eJ;split
 ·next z=>rw[df,jd];exact a z
 ·split
  ·exact e5 (fu _ _) h
  ·rw[ar];exact h
theorem eK.good{b:am F4}{W D:am Th}(h:eK W D)(ok:i4 ks D)(f:∀k∈ks,Nm k/\k∈b):∀p∈W,jS b p:=λp c=>by
 obtain⟨q,a,g,d,e⟩:=h.ins p c;obtain⟨n1,i⟩:=f _ (ok.kd q a);obtain⟨j,m⟩:=ok.ow q a;exact⟨g ▸ ok.nm q a,d ▸ i,d ▸ n1,λx l=>j.nm x (e.mem_iff.mp l),h.ow p c,by rw[e.length_eq];omega⟩
def kI(p:F4×List F4):UA:=.tuple [.str p.1,.tuple (p.2.map .str)]
def kJ(q:F4×Int):UA:=.tuple [.str q.1,.int q.2]
def kW(p:Th):UA:=.tuple [.str p.1,.str p.2.1,.tuple (p.2.2.map kJ)]
def kX(Qa:List (F4×List F4))(bk:Bk)(aM:List Th):UA:=.tuple [.tuple (Qa.map kI),.tuple (bk.map kT),.tuple (aM.map kW)]
theorem bK.rep(h:bK H vs Qa):bL H vs (Qa.map kI):=by
 induction h with
 |nil=>exact .nil
 |cons x _ c=>obtain⟨a,b,e,q,r⟩:=x;subst e;exact .cons (.tup q (.cons (.str _) (.cons (.tup r (lC _ _)) .nil))) c
theorem gi.rep{own:Own}(h:gi H vs own):bL H vs (own.map kJ):=by
 induction h with
 |nil=>exact .nil
 |cons x _ b=>obtain⟨a,e,q⟩:=x;subst e;exact .cons (.tup q (.cons (.str _) (.cons (.int _) .nil))) b
theorem cQ.rep{c:am Th}(h:cQ H vs c):bL H vs (c.map kW):=by
 induction h with
 |nil=>exact .nil
 |cons x _ d=>obtain⟨a,b,us,e,q,r,o⟩:=x;subst e;exact .cons (.tup q (.cons (.str _) (.cons (.str _) (.cons (.tup r (gi.rep o)) .nil)))) d
theorem B7:∀{Qa:am (F4×List F4)},(∀p∈Qa,Nm p.1 /\∀x∈p.2,Nm x)->UW (Qa.map kI)=true/\UO (Qa.map kI)<=3
 |[],_=>⟨rfl,by decide⟩
 |p::Qa,h=>by
  obtain⟨b1,c⟩:=B7 λx a=>h x (a8 _ a);obtain⟨n1,b⟩:=h p aT;refine⟨?_,?_⟩
  ·show((XQ p.1&&(UW (p.2.map X1)&&true))&&UW (Qa.map kI))=true
   rw[iU n1,lD b,b1];rfl
  ·rw[bD]
   have:=mS p.2;simp only[UO,kI,X2];omega
theorem B8:∀{own:Own},(∀q∈own,Nm q.1)->UW (own.map kJ)=true/\UO (own.map kJ)<=2
 |[],_=>⟨rfl,by decide⟩
 |p::own,h=>by
  obtain⟨b1,b⟩:=B8 λx a=>h x (a8 _ a);refine⟨?_,?_⟩
  ·show((XQ p.1&&(true&&true))&&UW (own.map kJ))=true
   rw[iU (h p aT),b1];rfl
  ·rw[bD]
   simp only[UO,kJ,X2];omega
theorem CF{ks:am F4}:∀{a:am Th},(∀p∈a,jS ks p)->UW (a.map kW)=true/\UO (a.map kW)<=4
 |[],_=>⟨rfl,by decide⟩
 |p::a,h=>by
  obtain⟨b1,d⟩:=CF λx b=>h x (a8 _ b);have g:=h p aT;obtain⟨c,e⟩:=B8 g.on;refine⟨?_,?_⟩
  ·show((XQ p.1&&(XQ p.2.1&&(UW (p.2.2.map kJ)&&true)))&&UW (a.map kW))=true
   rw[iU g.nm,iU g.kn,c,b1];rfl
  ·rw[bD]
   simp only[UO,kW,X2];omega
theorem CG{bk:Bk}{a:am Th}(c:∀p∈Qa,Nm p.1 /\∀x∈p.2,Nm x)(b:kD bk)(d:∀p∈a,jS ks p):(kX Qa bk a).canLay0=true/\(kX Qa bk a).depth<=60:=by
 obtain⟨e,g⟩:=B7 c;obtain⟨b1,h⟩:=BX b.nm b.ent;obtain⟨f,i⟩:=CF d;refine⟨?_,?_⟩
 ·show(UW (Qa.map kI)&&(UW (bk.map kT)&&(UW (a.map kW)&&true)))=true
  rw[e,b1,f];rfl
 ·unfold kX
  simp only[UO,X2];omega
theorem nL{α:Type}{xs:am α}(h:i<xs.length):xs.take (i+1)=xs.take i++[xs[i]]:=by rw[cO,bA h];rfl
structure BI(H:Hp)(db:FG)(kvs:List (List Key×V))(bk:Bk)(ks ns:List F4)(i j:Nat):Prop where
 hd:H db=ih (.dT kvs)
 dv:d0 H kvs bk
 ent:∀p∈bk,Ent p.2.2
 ask:∀p∈bk,∀s∈uq p.2.2,n5 s = "ask" -> n6 s∈ns
 nd:(bk.map eY).Nodup
 kY:∀p∈bk,(p.1∈ks.take i/\p.2.1∈ns)\/(ih p.1=ks[i]? /\ p.2.1∈ns.take j)
 bN:bk.length<=i * ns.length+j
theorem BI.keep{db:FG}{kvs:am (List Key×V)}{bk:Bk}{ns:am F4}(h:BI H db kvs bk ks ns i j)(k:∀b o,(∃xs,o=HO.tup xs)\/b=db->H b=ih o->Y b=ih o):BI Y db kvs bk ks ns i j:=⟨k _ _ (.inr rfl) h.hd,h.dv.keep (λb xs e=>k _ _ (.inl ⟨_,rfl⟩) e) h.ent,h.ent,h.ask,h.nd,h.kY,h.bN⟩
inductive qR(vs:List V)(H:Hp)(Q:VK)(E:XK):Prop
 |mk{p lk ln:FG}{ks ns:List F4}(_:vs=[.ref p,.ref lk,.ref ln])(_:c7 p H)(_:d8 H lk ks)(_:d8 H ln ns)(_:ks.length<=8)(_:ns.length<=6)
  (_:∀db kvs bk Y,br p H Y->H db=none->Y db=ih (.dT kvs)->d0 Y kvs bk->kD bk->(∀q∈bk,∀s∈uq q.2.2,n5 s = "ask" -> n6 s∈ns)->(∀q∈bk,q.1∈ks/\q.2.1∈ns)->Q (.ref db) Y):qR vs H Q E
noncomputable abbrev vc:List F4:=["_law_pot_here","_law_kinds","_law_names_here"]
noncomputable abbrev QR:List F4:=["_law_pot_here","_law_kinds","_law_names_here","_law_book_here","_law_kind","_law_at"]
theorem qS:bg QR vc (aH uk):=bB
theorem Ov(F:aR K "_law_book" "_law_book" uk f fd)(B:b7 mg)(xn:aY P w K mg base aC 1 fD dD ["_law_pot_here","_law_many"] hh "_law_digit")(yn:aY P w K mg base aC 4 fE dE ["_law_pot_here","_law_names_here","_law_at"] qg "_law_entry"):aU P w K mg base aC 5 f fd vc qR:=by
 refine F.cz qS λQc A outer s H vs Q E xh h=>?_
 ·obtain @⟨p,lk,N,ks,ns,rfl,yh,xc,O,zn,xo,q⟩:=h
  have xf:aQ 4 _:=xh;have xk:aQ 1 _:=xf.mono (by decide)
  have yk:=ip xh.units;intro X;refine⟨_,aF (bt 3 qS.nd Jw)
   (aF (gu fZ rfl (ez (pv 1)) (a4 4 qS.nd)
    (aA (gu fZ rfl (j3 rfl B.range (aa (aS cT rfl B.len cG (aa (pv 2) af)) af)) (a4 5 qS.nd)
     (aA (bf (bC lS (aP xn xk (aa (pv 0) (aa au af))) au (bh _)) (aA (jq yk (pv 3) (nS (aa (pv 4) (aa (aW c6 (pv 2) (pv 5)) af))) (aP yn xf (aa (pv 0) (aa (pv 2) (aa (pv 5) af)))) rfl)) bw)))))
   (aA (aO (pv 3)))),?_⟩
  refine pz λyo yc=>?_;intro xa zo;intro db L;have yf:p≠db:=yh.ne L;have zc:=(br.refl yh).new (o:=.dT []) L;have T:=xc.same (o7 (o:=.dT []) L);have xb:=O.same (o7 (o:=.dT []) L);have h0:upd H db (.dT []) db=cr []:=ah;generalize upd H db (.dT [])=zu at zc T xb h0⊢;refine c2 yc λyo yc=>?_;intro xa zo;refine⟨_,rfl,lk,rfl,⟨_,aq.of T.hl⟩,lu (xs:=ks.map V.str) (λi σ G=>∃(kvs:am (List Key×V)) (bk:Bk) (xd I:ap V),σ=[bd p,bd lk,bd N,bd db,xd,I]/\br p H G/\d8 G lk ks/\d8 G N ns/\BI G db kvs bk ks ns i 0)
   ⟨[],[],none,none,rfl,zc,T,xb,⟨h0,.nil,λx c=>(by cases c),λx c=>(by cases c),iD,λx c=>(by cases c),ba _⟩⟩ (λi σ G _ ab=>by obtain⟨_,_,_,_,_,_,z,_⟩:=ab;exact aq.of z.hl) ?_ ?_⟩
  ·clear zc T xb h0
   rintro i x σ G c ⟨kvs,bk,xd,I,rfl,PG,J,D,a⟩;refine sy ?_;intro xa xv;obtain⟨W,rfl⟩:=ph c;have zj:ks[i]∉ ks.take i:=by
    have:(ks.take (i+1)).Nodup:=xc.nd.sublist (kZ _ _);rw[nL W]at this;exact λz=>(gG.mp this).2.2 _ z _ aT rfl
   refine⟨_,rfl,N,_,rfl,.inl (aq.of D.hl),_,rfl,by omega,by rw[ar];omega,mU (λj σ G=>∃(kvs:am (List Key×V)) (bk:Bk) (I:ap V),σ=[bd p,bd lk,bd N,bd db,ih (.str ks[i]),I]/\br p H G/\d8 G lk ks/\d8 G N ns/\BI G db kvs bk ks ns i j)
    ⟨kvs,bk,I,rfl,PG,J,D,a⟩ ?_ ?_⟩
   ·clear a J D PG
    rintro j σ G yd ⟨kvs,bk,I,rfl,PG,J,D,a⟩;refine sy ?_;intro xa yv;have xp:(0:Int)+(j:Int)=(j:Int):=by omega
    rw[xp];have Y:j<ns.length:=by rw[ar]at yd;have:ZA ((ns.length:Nat):Int)=ns.length:=iy _;rw[this]at yd;exact yd
    have zk:ns[j]∉ ns.take j:=by
     have:(ns.take (j+1)).Nodup:=O.nd.sublist (kZ _ _);rw[nL Y]at this;exact λz=>(gG.mp this).2.2 _ z _ aT rfl
    have xu:i * ns.length+j<48:=by
     have U:(i+1) * ns.length<=8 * ns.length:=Nat.mul_le_mul_right _ (by omega)
     rw[abl]at U;omega
    have ye:∀{G zh:Hp}{kvs:am (List Key×V)}{bk:Bk}{j:Nat},c7 p G->br p G zh->BI G db kvs bk ks ns i j->BI zh db kvs bk ks ns i j:=λxl yp m=>m.keep λb o zp e=>yp.kp _ _ e (by
     rcases zp with⟨xs,rfl⟩|rfl
     ·obtain⟨x,y,xi,_⟩:=xl;exact bx e xi
     ·exact a7 yf)
    refine ag rfl (cA (p:=p) (m:=5) PG.ok (by decide) (by decide) λzv xw xi yi ya=>⟨_,_,rfl,rfl,_,rfl,?_⟩)
    have b1:=ye PG.ok ya a;have M:=PG.trans ya;have zf:=J.d6 PG.ok ya;have yb:=D.d6 PG.ok ya;have ze:∀q∈bk,(q.1∈ks.take i/\q.2.1∈ns)\/(ih q.1=ks[i]? /\ q.2.1∈ns.take (j+1)):=λq xq=>by
     rcases b1.kY q xq with z|⟨r,C⟩
     ·exact .inl z
     ·exact .inr ⟨r,by rw[nL Y];exact gm _ C⟩
    refine dm (λ_=>?_) (λ_=>⟨_,_,_,rfl,M,zf,yb,⟨b1.hd,b1.dv,b1.ent,b1.ask,b1.nd,ze,by have:=b1.bN;omega⟩⟩)
    refine ed rfl rfl rfl (qg.mk (k:=j) rfl M.ok yb.hl O.ne (by omega) O.nm λv d yw za yq zi zq=>?_)
    have xr:=ye M.ok za b1;have xg:=M.trans za;have yl:=zf.d6 M.ok za;have yg:=yb.d6 M.ok za;refine i0 rfl rfl rfl rfl ⟨N,_,(j:Int),.str ns[j],rfl,rfl,aq.of yg.hl,b2 (by rw[cx,bA Y];rfl),dc,λyr R S _ zl=>?_⟩
    have xm:R yr=bi (([Uz ks[i],Uz ns[j]]:am Key).map kV):=zl;have g:=xr.keep λb o _ e=>S _ _ e;have yu:=g.bN;have lk:=g.dv.length;have zg : [ks[i],ns[j]]∉ bk.map eY:=λzr=>by
     obtain⟨zd,ym,e⟩:=aZ.mp zr;have yi:zd.1=ks[i]:=by injection e
     have xt:zd.2.1=ns[j]:=by injection e with _ z;injection z
     rcases g.kY zd ym with⟨z,_⟩|⟨_,z⟩
     ·exact zj (yi ▸ z)
     ·exact zk (xt ▸ z)
    have zm:bz kvs [Uz ks[i],Uz ns[j]]=none:=by
     rcases g.dv.val (k:=ks[i]) (n:=ns[j]) with⟨z,_⟩|⟨zw,xx,_,C,_⟩
     ·exact z
     ·exact absurd (aZ.mpr ⟨_,C,rfl⟩) zg
    refine⟨db,_,rfl,gf.t (k:=[Uz ks[i],Uz ns[j]]) g.hd xm (by rw[aJ];omega),?_⟩
    rw[nc _ zm];have xj:∀{zs:am (List Key×V)} b xs,R b=bi xs->upd R db (.dT zs) b=bi xs:=λb xs e=>by rw[ai (bx e g.hd)];exact e
    have yj:∀{zs:am (List Key×V)}{l:FG}{ys:am F4},d8 R l ys->d8 (upd R db (.dT zs)) l ys:=λh=>⟨by rw[ai (bx h.hl g.hd)];exact h.hl,h.ne,h.bN,h.nm,h.nd⟩
    refine⟨_,bk++[(ks[i],ns[j],d)],_,rfl,(xg.trans (jl xg.ok S)).write L yf,yj (yl.same S),yj (yg.same S),⟨ah,d0.snoc (zi.keep (yq.same S) xj) (g.dv.keep xj g.ent),λx c=>?_,λx c=>?_,?_,λx c=>?_,by rw[df,jd];omega⟩⟩
    ·rcases cw.mp c with z|z
     ·exact g.ent x z
     ·rw[b9.mp z];exact zi
    ·rcases cw.mp c with z|z
     ·exact g.ask x z
     ·rw[b9.mp z];exact zq
    ·rw[a5]
     exact gG.mpr ⟨g.nd,by simp,λu yt v xe y=>zg (by have xe:v=[ks[i],ns[j]]:=b9.mp xe;rw[<-xe,<-y];exact yt)⟩
    ·rcases cw.mp c with z|z
     ·exact ze x z
     ·rw[b9.mp z]
      exact .inr ⟨(bA W).symm,by rw[nL Y];exact et _ aT⟩
   ·clear a J D PG
    rintro σ G ⟨kvs,bk,I,rfl,PG,J,D,a⟩;have zt:ZA (((ns.map V.str).length:Nat):Int)=ns.length:=by rw[ar];exact iy _
    rw[zt]at a;refine⟨kvs,bk,_,_,rfl,PG,J,D,⟨a.hd,a.dv,a.ent,a.ask,a.nd,λx c=>.inl ?_,by have:=a.bN;rw[abl];omega⟩⟩
    rw[nL W];rcases a.kY x c with⟨r,C⟩|⟨r,C⟩
    ·exact⟨gm _ r,C⟩
    ·rw[bA W]at r
     exact⟨et _ (by rw[cS r];exact aT),rE C⟩
  ·rintro σ G ⟨kvs,bk,xd,I,rfl,PG,J,D,a⟩
   rw[ar]at a;refine qz yc ?_;intro xa;have zb:∀x∈bk,x.1∈ks/\x.2.1∈ns:=λx c=>by
    rcases a.kY x c with⟨r,C⟩|⟨r,C⟩
    ·exact⟨rE r,C⟩
    ·rw[lb (aG _)]at r;cases r
   exact ag rfl (q db kvs bk G PG L a.hd a.dv ⟨λx c=>⟨xc.nm _ (zb x c).1,O.nm _ (zb x c).2⟩,a.ent,a.nd,by have:=a.bN;have U:ks.length * ns.length<=8 * 6:=Nat.mul_le_mul zn xo;omega⟩ a.ask zb)
theorem jn(h:aq K H a xs)(s:ao H Y):aq K Y a xs:=by
 rcases h with(h|⟨o,h⟩)|h
 ·exact .inl (.inl (s _ _ h))
 ·exact .inl (.inr ⟨o,s _ _ h⟩)
 ·exact .inr h
theorem kK{a:Hp}(S:ao H1 H2)(c:H1 p=none)(d:br p H2 a):ao H1 a:=λb u e=>d.kp _ _ (S _ _ e) (aB e c)
theorem pY{k:Int}{E:XK}(h:aq K H a (ns.map V.int))(c:0<=k)(d:k<=100)(e:ns.length<=63)(q:∀p Y,H p=none->c7 p Y->ao H Y->Q (.ref p) Y):qb K [.ref a,.int k] H Q E:=⟨rfl,h,c,d,e,λp x y b f g i=>q p _ b ⟨x,y,ah,f,g,i⟩ (ay b)⟩
def Pt(e:Vo):Vo:=match e with|.BinOp _ _ r _=>r|_=>.Constant .none 0 ⟨0,0,0,0⟩
noncomputable abbrev qT:List F4:=["_law_script","_law_pot_here","_law_alike","_law_kinds","_law_family_here","_law_lines","_law_names_here","_law_book_here","_law_things_here","_law_pool","_law_odd","_law_lone","_law_world_here","_law_elder","_law_k","_law_deed","_law_thing","_law_kind","_law_due_here","_law_told"]
theorem c8:bg qT ["_law_script"] (aH gP):=bB
abbrev QS:Vo:=Pt (e4 (bH (bE gP) 9))
abbrev Pu:Vo:=D6 (e4 (bH (bE gP) 11))
abbrev Pw:Vo:=c9 (ir (bH (bE gP) 15))
theorem Ee:bJ qT (aH gP) ["_law_name","_law_things_here"] [none,ih 8] (bS QS):=cJ
theorem C9:bJ qT (aH gP) ["_law_letter","_law_kinds"] [none,ih 3] (bS Pu):=cJ
theorem l0:bJ qT (aH gP) ["_law_one","_law_deed","_law_thing","_law_kind","_law_told"] [none,none,none,none,none] (bS Pw):=cJ
abbrev SL(k:Nat):VC:=bH (bE gP) k
@[irreducible] def bT(k:Nat):List VC:=(bE gP).drop k
@[irreducible] def ra:List Vo:=Oq (e4 (SL 10))
theorem Px:jF hO ra=true:=by unfold ra hO;decide +kernel
theorem QT:bE gP=bT 0:=by unfold bT;rfl
theorem QU:bT 0=SL 0::bT 1:=by unfold bT;rfl
theorem QV:bT 1=SL 1::bT 2:=by unfold bT;rfl
theorem QW:bT 2=SL 2::bT 3:=by unfold bT;rfl
theorem QX:bT 3=SL 3::bT 4:=by unfold bT;rfl
theorem QY:bT 4=SL 4::bT 5:=by unfold bT;rfl
theorem QZ:bT 5=SL 5::bT 6:=by unfold bT;rfl
theorem Q0:bT 6=SL 6::bT 7:=by unfold bT;rfl
theorem Q1:bT 7=SL 7::bT 8:=by unfold bT;rfl
theorem Q2:bT 8=SL 8::bT 9:=by unfold bT;rfl
theorem Q3:bT 9=SL 9::bT 10:=by unfold bT;rfl
theorem Q4:bT 10=.Assign (Pr (SL 10)) (.List ra (lstP (e4 (SL 10)))) (Pq (SL 10))::bT 11:=by unfold bT ra;rfl
theorem Q5:bT 11=SL 11::bT 12:=by unfold bT;rfl
theorem Q6:bT 12=SL 12::bT 13:=by unfold bT;rfl
theorem Q7:bT 13=SL 13::bT 14:=by unfold bT;rfl
theorem Q8:bT 14=SL 14::bT 15:=by unfold bT;rfl
theorem Q9:bT 15=[SL 15]:=by unfold bT;rfl
abbrev jT:List VC:=pC (SL 14)
@[irreducible] def eM(k:Nat):List VC:=jT.drop k
theorem hX:jT=eM 0:=by unfold eM;rfl
theorem Q':eM 0=bH jT 0::eM 1:=by unfold eM;rfl
theorem Ra:eM 1=bH jT 1::eM 2:=by unfold eM;rfl
theorem Rb:eM 2=bH jT 2::eM 3:=by unfold eM;rfl
theorem Rc:eM 3=bH jT 3::eM 4:=by unfold eM;rfl
theorem Rf:eM 4=bH jT 4::eM 5:=by unfold eM;rfl
theorem Rg:eM 5=[bH jT 5]:=by unfold eM;rfl
theorem CH{l a:am VC}{t:TS}(h:l=a)(p:dr X a t):dr X l t:=h ▸ p
theorem el{l c:am VC}{s:VC}{t u:TS}(h:l=s::c)(a:PS X s t)(b:dr X c u):dr X l (qv t u):=by rw[h];exact aF a b
theorem CI{l:am VC}{s:VC}{t:TS}(h:l=[s])(a:PS X s t):dr X l t:=by rw[h];exact aA a
theorem CJ{α:Type} [DecidableEq α]:∀{a b:am α},a.Nodup->(∀x∈a,x∈b)->a.length<=b.length
 |[],_,_,_=>ba _
 |x::a,b,f,h=>by
  obtain⟨n1,g⟩:=eu.mp f;have c:=h x aT;have:=CJ (a:=a) (b:=b.erase x) g λy d=>(vA (λe:y=x=>n1 (e ▸ d))).mpr (h y (a8 _ d));rw[vy c]at this;have:=vz c;rw[cD];omega
theorem ub{p:FG}{H:Hp}:∀{vs:am V}{ds:am UA}{j:Nat},bU p H vs ds->j<vs.length ->∃v d,vs[j]?=ih v/\d∈ds/\Dt p H v d
 |_,_,0,.cons a _,_=>⟨_,_,rfl,aT,a⟩
 |_,_,j+1,.cons _ b,h=>by
  obtain⟨v,d,e,m,r⟩:=ub b (rz h);exact⟨v,d,e,a8 _ m,r⟩
 |_,_,0,.nil,h=>by cases h
 |_,_,_+1,.nil,h=>by cases h
theorem B9{ns:am F4}{d:UA}(a:∀x∈ns,Nm x)(r:Dt p H v d)(o:qP d=true)(f:j<ns.length+1):∃b d',(ns.map V.str++[v])[j]?=ih b/\Dt p H b d'/\Sm d' /\∀x,d'=.str x->cM x=false->x∈mf:=by
 by_cases h:j<ns.length
 ·have c:=dz h
  refine⟨.str ns[j],.str ns[j],by rw[rh (by rw[ar];exact h),cx,bA h];rfl,.str _,?_,λx e z=>?_⟩
  ·have:=(a _ c).hi;show ns[j].length<=100000;omega
  ·injection e with e;rw[<-e,j5 (a _ c)]at z;cases z
 ·have:j=ns.length:=by omega
  obtain⟨_,sm,od⟩:=M3 o;refine⟨v,d,?_,r,sm,od⟩;rw[this,oC (by rw[ar];exact aG _),ar,Gh];rfl
theorem AJ{a b:am F4}(h:∀x,x∈a ↔ x∈b)(d:UA):b3 a d=b3 b d:=by
 cases d with
 |str x=>show(cM x&&decide (x∈a))=(cM x&&decide (x∈b));rw[rF.mpr (h x)]
 |_=>rfl
theorem Ki{a b k l:am F4}(h:∀x,x∈a ↔ x∈b)(g:∀x,x∈k ↔ x∈l)(n:Nat)(dn c:UA):bV a k n dn c=bV b l n dn c:=by
 unfold bV;rw[AJ h,AJ g]
theorem M4{W:am Th}{aK:Nat}{n k k':F4}(h:aK≠2->k=k'):fJ W aK n k=fJ W aK n k':=by
 by_cases e:aK=2
 ·unfold fJ;rw[e];rfl
 ·rw[h e]
theorem Py{G C uR:Prop}(U:(uR->C)->G)(h2:uR->C):G:=U h2
def nine:List F4:=("abcdefghi" : F4).cps.toList.map iq
theorem tO:nine.Nodup/\nine.length=9 /\∀x∈nine,cM x=true:=by decide +kernel
theorem eh.gL{w t tb:FG}{a:am Th}(h:eh H w t tb tt wt a)(k:∀b xs,H b=bi xs->Y b=bi xs):eh Y w t tb tt wt a:=⟨k _ _ h.hw,k _ _ h.ht,h.tv.keep k,h.bN,h.nm,h.nd⟩
structure LB(K:Yh)(H:Hp)(a lk lp lo t db Qo tb:FG)(sc:List Int)(ks pl:List F4)(vs:List V)(o:Ys)(ws wb:List V)(Qa:List (F4×List F4))(kvs:List (List Key×V))(Qe bk:Bk):Prop where
 sc:aq K H a (sc.map V.int)
 hk:H lk=ih (.lst (ks.map V.str))
 hp:H lp=ih (.lst (pl.map V.str))
 ho:H lo=ih (.lst vs)
 rd:bU Qo H vs (jb hO)
 ht:H t=ih (.aX o (.tup ws))
 fv:bK H ws Qa
 hd:H db=ih (.dT kvs)
 dv:d0 H kvs Qe
 hb:H tb=ih (.tup wb)
 bv:b' H wb bk
section
variable{lk lp lo t db Qo tb:FG}{sc:am Int}{pl:am F4}{kvs:am (List Key×V)}{Qe bk:Bk}
theorem LB.same(h:LB K H a lk lp lo t db Qo tb sc ks pl vs o ws wb Qa kvs Qe bk)(S:ao H Y):LB K Y a lk lp lo t db Qo tb sc ks pl vs o ws wb Qa kvs Qe bk:=⟨jn h.sc S,S _ _ h.hk,S _ _ h.hp,S _ _ h.ho,bU.same h.rd S,S _ _ h.ht,h.fv.same S,S _ _ h.hd,h.dv.same S,S _ _ h.hb,h.bv.same S⟩
theorem LB.rep{x:FG}{b:am Th}(h:LB K H a lk lp lo t db Qo tb sc ks pl vs o ws wb Qa kvs Qe bk)(c:H x=bi [.ref t,.ref tb,.ref tt])(d:H tt=bi wt)(tv:cQ H wt b):kB H (.ref x) (kX Qa bk b):=⟨x,t,_,_,o,ws,_,_,_,rfl,c,h.ht,bK.rep h.fv,.tup h.hb (b'.rep h.bv),.tup d (cQ.rep tv),rfl⟩
theorem LB.fk(h:LB K H a lk lp lo t db Qo tb sc ks pl vs o ws wb Qa kvs Qe bk)(od:o.dict=none)(b:(Qa.map (·.1)).Nodup):FK H t (Qa.map (·.1)):=by
 obtain⟨kvs,c,d⟩:=h.fv.pairs;exact⟨o,ws,kvs,h.ht,od,c,d,b⟩
end
def El(t tb Qo:FG)(ks:List F4)(H0 H:Hp)(v:V):Prop:= ∃(c x tt r hW:FG) (wt iw:List V) (W W':List Th) (aK:Nat) (n k:F4) (vk:V) (dk:UA),v=.ref c/\H c=ih (.tup [.ref x,.int aK,.str n,vk,.ref r])/\eh H x t tb tt wt W/\(W.map (·.1)).Pairwise (λa b=>bZ a b=true)/\Sm (.str n)/\Dt Qo H0 vk dk/\Sm dk/\(aK≠2->dk=.str k)/\bV (W.map (·.1)) ks aK (.str n) dk=none/\eh H r t tb hW iw W'/\W'.Perm (fJ W aK n k)/\(W'.map (·.1)).Pairwise (λa b=>bZ a b=true) /\∀p∈W',jS ks p
theorem El.gL{t tb Qo:FG}{d:Hp}(h:El t tb Qo ks d H v)(a:∀b xs,H b=bi xs->Y b=bi xs):El t tb Qo ks d Y v:=by
 obtain⟨c,x,tt,r,f,wt,i,W,l,aK,n,k,m,o,e,p,g,q,s,u,w,y,z,A,pm,j,tg⟩:=h;exact⟨c,x,tt,r,f,wt,i,W,l,aK,n,k,m,o,e,a _ _ p,g.gL a,q,s,u,w,y,z,A.gL a,pm,j,tg⟩
inductive l4(K:Yh)(vs:List V)(H:Hp)(Q:VK)(E:XK):Prop
 |mk{a:FG}{ns:List Int}(_:vs=[.ref a])(_:aq K H a (ns.map V.int))(_:ns.length<=63)(_:∀Y,Q (.bl true) Y):l4 K vs H Q E
theorem M5{fU:FG}{dF dC dU:XX}(F:aR K "law" "law" gP f fd)(B:b7 mg)(B2:dq mg)
  (xN:aY P w K mg base aC 1 fP dP ["_law_script","_law_k"] (qb K) "_law_pot")
  (zi:aY P w K mg base aC 1 fD dD ["_law_pot_here","_law_many"] hh "_law_digit")
  (GN:aY P w K mg base aC 3 fN dN ["_law_pot_here","_law_many"] iM "_law_names")
  (GF:aY P w K mg base aC 3 fF dF ["_law_pot_here","_law_kinds"] qE "_law_family")
  (GC:aY P w K mg base aC 4 fC dC q9 me "_law_called")
  (GB:aY P w K mg base aC 5 fB dB vc qR "_law_book")
  (GT:aY P w K mg base aC 5 fT dT u9 qM "_law_things")
  (GW:aY P w K mg base aC 1 fW dW vb n8 "_law_world")
  (GU:aY P w K mg base aC 1 fU dU q' qN "_law_due")
  (GO:aY P w K mg base aC 6 fO dO u7 mc "_law_done")
  (GE:aY P w K mg base aC 1 fE dE va qO "_law_behind")
  (GI:aY P w K mg base aC 7 fI dI ["thing"] qp "is_world") :
  aU P w K mg base aC 8 f fd ["_law_script"] (l4 K):=by
 refine F.cz c8 λQc A outer s H vs Q E hr h=>?_
 ·obtain @⟨a,sc,rfl,hS,zG,q⟩:=h
  have xz:=hr.units;have Rh:=ip xz;have yq:aQ 7 _:=hr;have zX:aQ 6 _:=yq.mono (by decide)
  have E4:aQ 5 _:=yq.mono (by decide)
  have Ri:aQ 4 _:=yq.mono (by decide)
  have xY:aQ 3 _:=yq.mono (by decide)
  have N:aQ 1 _:=yq.mono (by decide)
  intro X;refine⟨_,CH QT (el QU (bt 1 c8.nd (aP xN N (aa (pv 0) (aa au af))))
   (el QV (bt 2 c8.nd (eU di (aP zi N (aa (pv 1) (aa au af))) au (bh _)))
   (el QW (gs (i:=3) c8.nd rfl (Yx rfl) (aP GN xY (aa (pv 1) (aa (bF f7 au (aP zi N (aa (pv 1) (aa au af)))) af))))
   (el QX (lK (aP GF xY (aa (pv 1) (aa (pv 3) af))) (kc rfl (cH (a4 4 c8.nd) (cH (a4 5 c8.nd) gJ))))
   (el QY (bt 1 c8.nd (aP xN N (aa (pv 0) (aa au af))))
   (el QZ (bt 6 c8.nd (aP GC Ri (aa (pv 1) (aa (bF f7 au (aP zi N (aa (pv 1) (aa au af)))) (aa (pv 2) (aa (pv 3) af))))))
   (el Q0 (bt 7 c8.nd (aP GB E4 (aa (pv 1) (aa (pv 3) (aa (pv 6) af)))))
   (el Q1 (bt 1 c8.nd (aP xN N (aa (pv 0) (aa au af))))
   (el Q2 (gs (i:=8) c8.nd rfl (Yx rfl) (aP GT E4 (aa (pv 1) (aa (pv 2) (aa (pv 3) (aa (pv 6) af))))))
   (el Q3 (bt 9 c8.nd (bF kg (dX (wL rfl) rfl B.list boot_list (aa (pv 8) af)) (cj rfl Ee (ez (aP GN xY (aa (pv 1) (aa au af)))) (λs H fp=>⟨a4 0 Ee.nd,h8 (pI (r8 Rh (pv 0) (pv 1))),pv 0⟩))))
   (el Q4 (bt 10 c8.nd (ie (M0 hO Px)))
   (el Q5 (bt 11 c8.nd (aW c6 (cj rfl C9 (Cj bO) (λs H fp=>⟨a4 0 C9.nd,h8 (bC (wK K rfl) (bF Bi (pv 0) au) (pv 1) rfl),bF Bi (pv 0) au⟩)) au))
   (el Q6 (bt 12 c8.nd (aP GW N (aa (pv 4) (aa (pv 7) (aa (pv 8) af)))))
   (el Q7 (bt 13 c8.nd (ie af))
   (el Q8 (gu fZ rfl (Iy rfl B.range (aa au (aa (aS (w4 rfl) rfl B.max boot_max (aa au (aa (aS (w6 rfl) rfl B.min boot_min (aa au (aa (aS cT rfl B.len cG (aa (pv 0) af)) af))) af))) af))) (a4 14 c8.nd) (CH hX
    (el Q' (bt 1 c8.nd (aP xN N (aa (pv 0) (aa (pv 14) af))))
    (el Ra (bt 15 c8.nd (aP zi N (aa (pv 1) (aa au af))))
    (el Rb (bt 16 c8.nd (aW c6 (bF kg (pv 9) (ie (aa (aW c6 (pv 10) (aP zi N (aa (pv 1) (aa au af)))) af))) (aP zi N (aa (pv 1) (aa (bF f7 (aS cT rfl B.len cG (aa (pv 9) af)) au) af)))))
    (el Rc (bt 17 c8.nd (aW c6 (bF kg (pv 3) (ie (aa (pv 11) (aa (aW c6 (pv 10) (aP zi N (aa (pv 1) (aa au af)))) af)))) (aP zi N (aa (pv 1) (aa (bF f7 (aS cT rfl B.len cG (aa (pv 3) af)) au) af)))))
    (el Rf (bt 18 c8.nd (aP GU N (aa (pv 8) (aa (pv 3) (aa (pv 15) (aa (pv 16) (aa (pv 17) af)))))))
    (CI Rg (bf (bC (KY xz) (pv 18) (ea af) (bh _))
     (aA (bf (bC (tS xz) (aP GO zX (aa (pv 12) (aa (pv 15) (aa (pv 16) (aa (pv 17) af))))) (pv 18) (bh _)) (aA (aO eH)) bw))
     (aA (bf (PW.pt (pw_or (bC lS (pv 15) au (bh _)) (pw_or1 (bC kj (aS IT rfl B.len cG (aa (pv 8) af)) au (bh _)))))
     (aF (bt 19 c8.nd (aP GO zX (aa (pv 12) (aa (pv 15) (aa (pv 16) (aa (pv 17) af))))))
     (aF (gs (i:=8) c8.nd rfl (Yx rfl) (aP GE N (aa (pv 8) (aa (pv 15) (aa (pv 16) (aa (pv 17) af))))))
     (aF (bf (PW.pt (pw_or (bC (Mj xz) (pv 19) (aP GW N (aa (pv 4) (aa (pv 7) (aa (pv 8) af)))) (bh _)) (pw_or1 (bC IP (aP GI yq (aa (pv 19) af)) eH (bh _))))) (aA (aO eH)) bw)
     (aF (eT (fz g5 h3 h5 gr (pv 13) (aa (nS (aa (pv 12) (aa (pv 15) (aa (pv 16) (aa (pv 17) (aa (pv 19) af)))))) af)))
     (aA (bt 12 c8.nd (pv 19)))))))
     bw)))))))))))
   (CI Q9 (aO (aS (g6 rfl) rfl B.all boot_all (aa (cj rfl l0 (ez (pv 13)) (λs H fp=>⟨lE (n:=5) K rfl rfl (cH (a4 0 l0.nd) (cH (a4 1 l0.nd) (cH (a4 2 l0.nd) (cH (a4 3 l0.nd) (cH (a4 4 l0.nd) gJ))))),cP,eU (Mi xz) (aP GO zX (aa (pv 0) (aa (pv 1) (aa (pv 2) (aa (pv 3) af))))) (pv 4) (bh _)⟩)) af))))))))))))))))))),?_⟩
  have sz:∀n:Nat,n<=1000->n<=UJ:=λn h=>by rw[aJ];omega
  refine pz λI d=>?_;intro l Y;refine ag rfl (pY (k:=0) hS (by decide) (by decide) zG λp H1 xa zc S1=>?_)
  refine c2 d λI d=>?_;intro l Y;refine ag rfl (cA (p:=p) (m:=4) zc (by decide) (by decide) λal H2 a0 yN p2=>⟨rfl,?_⟩)
  generalize decide (V.int al=V.int 0)=bb;refine c2 d λI d=>?_;intro l Y;refine bj rfl rfl (cA (p:=p) (m:=8) p2.ok (by decide) (by decide) λyb H3 b0 b1 p3=>⟨1,yb,rfl,rfl,?_⟩)
  obtain⟨mk,rfl⟩:=f5 b0;have P3:=p2.trans p3;refine iM.mk (m:=1+mk) (by rw[wc];rfl) P3.ok (by omega) λlk ks H4 VJ kl ya yY p4 zN=>?_
  have k8:ks.length<=8:=by omega
  have Rj:ks ≠ []:=λz=>by rw[z,jf]at kl;omega
  have xO:=P3.trans p4;refine c2 d λI d=>?_;intro l Y;refine bj rfl rfl (qE.mk rfl xO.ok zN yY ya k8 λr t d1 o ws yp L Ps Qa H5 R=>⟨r,_,rfl,aE.of R.hr,rfl,_,_,rfl,_,_,rfl,rfl,?_⟩);have P5:=xO.trans R.pa;have T5:ao H H5:=kK S1 xa P5;have xH:d8 H5 lk ks:=⟨R.pa.kp _ _ zN (gI xO.ok zN),Rj,by omega,ya,yY⟩
  have Ef:=R.fv;have Eg:=R.ht;have yH:=R.od;have Rk:=R.so;have yO:=(R.fm.NO yY ya k8).perm R.pm;have Rl:∀p∈Qa,p.2.Nodup/\p.2.length<=4:=λp xa=>by
   obtain⟨x,J,e⟩:=aZ.mp (R.pm.mem_iff.mp xa);rw[<-e];exact⟨(R.fm.ps x J).1,(R.fm.ps x J).2.1⟩
  have Eh:∀p∈Qa,Nm p.1 /\∀x∈p.2,Nm x:=λp xa=>by
   obtain⟨x,J,e⟩:=aZ.mp (R.pm.mem_iff.mp xa);rw[<-e];exact⟨ya x J,λy hy=>ya y ((R.fm.ps x J).2.2 y hy)⟩
  have zH:(Qa.map (·.1)).Perm ks:=by
   have:=R.pm.map (·.1);rw[r3]at this;exact this
  have zY:=jn hS T5;clear R P5 xO P3 p4 p3 p2 zN S1 xa zc hS T5;refine c2 d λI d=>?_;intro l Y;refine ag rfl (pY (k:=1) zY (by decide) (by decide) zG λp H6 xa zc xj=>?_)
  refine c2 d λI d=>?_;intro l Y;refine bj rfl rfl (cA (p:=p) (m:=6) zc (by decide) (by decide) λdn H7 zO c1 p7=>⟨1,dn,rfl,rfl,bj rfl rfl ?_⟩)
  obtain⟨mn,rfl⟩:=f5 zO;refine me.mk (m:=1+mn) (al:=bb) (by rw[wc];rfl) p7.ok (by omega) (by omega) ((xH.same xj).d6 zc p7) λln ns H8 p8 x0 nl=>?_
  have yz:=p7.trans p8;have E5:=(xH.same xj).d6 zc yz;refine c2 d λI d=>?_;intro l Y;refine ed rfl rfl rfl (qR.mk rfl yz.ok E5 x0 k8 (by omega) λdb kvs Qe H9 p9 Rm E6 E7 xI _ kY=>?_)
  have M:ao H5 H9:=kK xj xa (yz.trans p9);have y0:=jn zY M;have E8:=x0.d6 yz.ok p9;have z0:=xH.same M;have Ei:=Ef.same M;have Ej:=M _ _ Eg;clear xH Ef Eg M yz p9 p8 p7 x0 xj xa zc E5 Rm zY;refine c2 d λI d=>?_;intro l Y;refine ag rfl (pY (k:=2) y0 (by decide) (by decide) zG λp VL xa zc xh=>?_)
  refine c2 d λI d=>?_;intro l Y;refine i0 rfl rfl rfl rfl (qM.mk rfl zc (z0.same xh) (E8.same xh) λtd yp T E9 E' Rn zk zg to Ro t5=>?_);have xf:yp.map (λkv=>kV kv.1)=(T.map (·.1)).map V.str:=by
   have:yp.map (λkv=>kV kv.1)=(yp.map (·.1)).map kV:=by rw[c5];rfl
   rw[this,zg.keys,c5];rfl
  refine c2 d λI d=>?_;intro l Y;refine ag rfl ⟨td,yp,rfl,zk,λxP x2=>?_⟩;rw[xf];have zl:=E'.new (o:=.lst ((T.map (·.1)).map V.str)) x2;have yI:=ay (o:=.lst ((T.map (·.1)).map V.str)) x2;have zF:upd E9 xP (.lst ((T.map (·.1)).map V.str)) xP=bn ((T.map (·.1)).map V.str):=ah;have zR:=yI _ _ zk;have xU:=zg.same yI;generalize upd E9 xP (.lst ((T.map (·.1)).map V.str))=VM at zl yI zF zR xU⊢
  dsimp only
  refine ag rfl (iM.mk (m:=2) rfl zl.ok (by decide) λlm zr Rp Rq ml Fb Rr xv yU=>?_)
  have yg:=jv zl.ok xv zR;have Dc:=xv.kp _ _ zF (gI zl.ok zF);have yl:=xU.d6 zl.ok xv;have Fc:=zl.trans xv;refine⟨lm,rfl,⟨_,aq.of yU⟩,λc xd=>?_⟩;refine f6 (xs:=zr.map V.str) (λi ys l xm=>∃yc:ap V,l=[yc,bd td]/\xm c=bn ys/\ao Rp xm/\ys=((zr.take i).filter λn=>!decide (n∈T.map (·.1))).map V.str) ⟨none,rfl,ah,ay xd,rfl⟩ (λi ys l xm ab=>by obtain⟨_,_,z1,z2,_⟩:=ab;exact ⟨z1,aq.of (z2 _ _ yU)⟩) ?_ ?_
  ·rintro i x ys l xm J ⟨yc,rfl,xe,ym,rfl⟩
   obtain⟨zI,x3,rfl,yv⟩:=pM J;refine bj rfl rfl ⟨td,_,rfl,eI.k (k:=Uz zr[i]) (ym _ _ yg),_,rfl,?_⟩;rw[m6 zg.keys]
   by_cases e:zr[i]∈T.map (·.1)
   ·refine ite_ff (by rw[bq e];rfl) (cw_next zI ⟨_,rfl,xe,ym,?_⟩)
    rw[yv,f3,a5,iG (by rw[bq e];exact bX),rD,vp,ei]
   ·refine ite_tt (by rw[a' e];rfl) (ag rfl ⟨xe,by rw[ar];have:=fu (λn=>!decide (n∈T.map (·.1))) (zr.take i);rw[b8]at this;rw[aJ];omega,cw_next zI ⟨_,rfl,ah,λb u z=>by rw[ai (aB z xd)];exact ym _ _ z,?_⟩⟩)
    rw[yv,f3,a5,h6 (by rw[a' e];rfl)];rfl
  rintro ys l xm ⟨yc,rfl,xe,ym,rfl⟩;rw[ar,cF]at xe;obtain⟨ex,xJ⟩:∃ex,zr.filter (λn=>!decide (n∈T.map (·.1)))=ex:=⟨_,rfl⟩;rw[xJ]at xe;have VN:ex.length<=2:=by rw[<-xJ,<-ml];exact fu _ _
  have Fd:∀x∈ex,Nm x:=λx J=>Fb x (by rw[<-xJ]at J;exact(d9.mp J).1)
  have tl:(T.map (·.1)).length<=5:=by rw[ar];exact t5
  refine⟨xP,c,_,_,rfl,rfl,ym _ _ Dc,xe,by simp only[ar];exact sz _ (by omega),λlp Rt=>?_⟩
  rw[<-a5];obtain⟨pl,y3⟩:∃pl,T.map (·.1)++ex=pl:=⟨_,rfl⟩;rw[y3];have VO:pl.length<=7:=by rw[<-y3,df];omega
  have Ru:∀x∈pl,Nm x:=λx J=>by
   rw[<-y3]at J;rcases cw.mp J with z|z
   ·obtain⟨q,yf,e⟩:=aZ.mp z;exact e ▸ to.nm q yf
   ·exact Fd x z
  have zv:=ym.trans (ay (o:=.lst (pl.map V.str)) Rt);have xS:upd xm lp (.lst (pl.map V.str)) lp=bn (pl.map V.str):=ah;generalize upd xm lp (.lst (pl.map V.str))=z3 at zv xS⊢;have M:ao H9 z3:=(kK xh xa Fc).trans zv;have Ek:=jn y0 M;have Em:=z0.same M;have Dd:=Ei.same M;have De:=M _ _ Ej;have xl:=zv _ _ yg;have xu:=yl.same zv;have En:z3 db=cr kvs:=M _ _ E6;have Eo:d0 z3 kvs Qe:=(E7.keep (λb xs e=>M _ _ e) xI.ent);clear M zv ym xe xd yl xU yg zR Dc zF Fc xv zl yI E' zg zk Rn yU Rq y0 z0 Ei Ej E6 E7 E8 xh xa zc Rr Fb ml xJ x2 xf Fd Ro;refine c2 d λI d=>?_;intro l Y;refine M1 (p:=td) hO xl QP λvs VP Fe vl rd=>⟨by rw[vl,Ed];exact sz 10 (by decide),λlo Rv x4 _ Ff=>?_⟩
  rw[Ed]at vl;have yd:=Fe.trans x4;have Ep:=jn Ek yd;have zU:=Em.same yd;have Df:=Dd.same yd;have Dg:=yd _ _ De;have Dh:=yd _ _ xl;have Er:=xu.same yd;have Es:=yd _ _ En;have Et:=Eo.same yd;have Di:=yd _ _ xS;have Eu:=bU.same rd x4;clear yd Ek Em Dd De xl xu En Eo xS rd Fe x4;refine c2 d λI d=>?_;intro l Y;refine⟨_,rfl,λc xd=>?_⟩;refine AZ (x:= "abcdefghi") (λi ys l xw=>∃yc:ap V,l=[yc,bd lk]/\xw c=bn ys/\ao Rv xw/\ys=(((("abcdefghi" : F4).cps.toList.map iq).take i).filter λn=>!decide (n∈ks)).map V.str) ⟨none,rfl,ah,ay xd,rfl⟩ (λi ys l xw ab=>by obtain⟨_,_,z1,_⟩:=ab;exact z1) ?_ ?_
  ·rintro i g ys l xw hg ⟨yc,rfl,zm,O,rfl⟩
   have x3:i<("abcdefghi" : F4).cps.size:=(iB.mp hg).1;have yv:(("abcdefghi" : F4).cps.toList.map iq).take (i+1)=(("abcdefghi" : F4).cps.toList.map iq).take i++[iq g]:=by rw[cO,cx,iA,hg];rfl
   have l9:("abcdefghi" : F4).cps.size=9:=by decide +kernel
   refine ag rfl ⟨g,rfl,rfl,ag rfl ⟨lk,ks.map V.str,rfl,.inl (aq.of (O _ _ zU.hl)),rfl,h7 _,?_⟩⟩;rw[aw rfl,iJ];refine⟨_,rfl,?_⟩
   by_cases e:iq g∈ks
   ·refine ite_ff (by rw[bq e];rfl) (cw_next x3 ⟨_,rfl,zm,O,?_⟩)
    rw[yv,f3,a5,iG (by rw[bq e];exact bX),rD,vp,ei]
   ·refine ite_tt (by rw[a' e];rfl) (ag rfl ⟨g,rfl,rfl,zm,?_,cw_next x3 ⟨_,rfl,ah,λb u z=>by rw[ai (aB z xd)];exact O _ _ z,?_⟩⟩)
    ·have U:=fu (λn=>!decide (n∈ks)) ((("abcdefghi" : F4).cps.toList.map iq).take i)
     rw[b8]at U;rw[ar,aJ];omega
    ·rw[yv,f3,a5,h6 (by rw[a' e];rfl)];rfl
  rintro ys l xw ⟨yc,rfl,zm,O,rfl⟩;have Fg:(("abcdefghi" : F4).cps.toList.map iq).take ("abcdefghi" : F4).cps.size=nine:=oL (by rw[ar,cb];exact aG _)
  rw[Fg]at zm;obtain⟨zb,rest,y4⟩:∃x y,nine.filter (λn=>!decide (n∈ks))=x::y:=by
   cases e:nine.filter (λn=>!decide (n∈ks)) with
   |cons x y=>exact⟨x,y,rfl⟩
   |nil =>
    have:=CJ tO.1 (b:=ks) λx J=>by simpa using VD.mp e x J
    rw[tO.2.1]at this;omega
  obtain⟨lo1,VQ⟩:=d9.mp (show zb∈nine.filter (λn=>!decide (n∈ks)) by rw[y4];exact aT)
  have Rw:=pG (tO.2.2 zb lo1);rw[y4]at zm;refine jM zm dZ ?_;have Ew:=jn Ep O;have Ex:=zU.same O;have Dj:=Df.same O;have Dk:=O _ _ Dg;have yS:=O _ _ Dh;have xV:=Er.same O;have yV:=O _ _ Es;have zV:=Et.same O;have Dl:=O _ _ Di;have Ey:=bU.same Eu O;have Dm:=O _ _ Ff;clear Ep zU Df Dg Dh Er Es Et Di Eu Ff zm y4 rest Fg xd lo1 O;refine c2 d λI d=>?_;intro l Y;refine ed rfl rfl rfl (n8.mk rfl yV zV xI yS xV to t5 λx tb tt wb wt bk W yw xb wd Fh bv z4 Fi ⟨uQ,R1,Fj⟩ ow yP=>?_);have Rx:eK W T:=eK.of R1 Fj ow yP;have x5:=Lp z4 xI;have hX:LB K yw a lk lp lo t db td tb sc ks pl vs o ws wb Qa kvs Qe bk:=⟨jn Ew xb,(Ex.same xb).hl,xb _ _ Dl,xb _ _ Dm,bU.same Ey xb,xb _ _ Dk,Dj.same xb,xb _ _ yV,zV.same xb,Fh,bv⟩;have Ow:=xb _ _ yS;have Pz:=xV.same xb;clear Ew Ex Dl Dm Ey Dk Dj yV zV Fh bv yS xV xb R1 Fj ow yP;refine c2 d λI d=>?_;intro l Y;refine⟨ba _,λzz VR zw PB Ry=>?_⟩;refine c2 d λI d=>?_;intro l Y;have PD:=jn hX.sc zw;have q6:∀q∈bk,q.1∈Qa.map (·.1):=λq yf=>zH.mem_iff.mpr (kY q (z4.mem_iff.mp yf)).1;have VS:∀{n:Nat}{dn yb:UA}{W:am Th},bV (W.map (·.1)) (Qa.map (·.1)) n dn yb=bV (W.map (·.1)) ks n dn yb:=λ{n dn yb W}=>by
   unfold bV b3;cases yb <;> simp[zH.mem_iff]
  refine⟨_,rfl,a,_,rfl,.inl PD,_,_,rfl,_,_,rfl,_,_,rfl,?_,mU (λi σ G=>∃(v1 y5 z5 x6 y6 z6 x7:ap V) (yh x1 zq:FG) (yj:am (Key×V)) (D W:am Th) (wt:am V) (es:am V),σ=[bd a,v1,ih (.bl bb),bd lk,bd t,bd d1,bd ln,bd db,bd yh,bd lp,bd lo,ih (.str zb),bd x1,bd zz,y5,z5,x6,y6,z6,x7]/\ao yw G/\G zz=bn es/\G yh=ce yj/\cq G yh yj D/\i4 ks D/\D.length<=5/\eh G x1 t tb zq wt W/\eK W D/\(∀v∈es,El t tb td (Qa.map (·.1)) yw G v)/\es.length<=i)
   ⟨_,none,none,none,none,none,none,td,x,tt,yp,T,W,wt,[],rfl,zw,Ry,zw _ _ Ow,Pz.same zw,to,t5,wd.same zw,Rx,λv hv=>by(cases hv),aG _⟩ ?_ ?_⟩
  ·refine⟨by decide,by decide,?_,?_⟩ <;> (rw[ar];repeat' split <;> omega)
  ·rintro i σ G1 hi ⟨v1,y5,z5,x6,y6,z6,x7,yh,x1,zq,yj,D,xt,yJ,es,rfl,zj,yu,xG,zJ,zh,xr,xK,zd,zP,y7⟩
   refine sy ?_;intro l E2;have VF:i<15:=by
    refine er hi ?_;rw[ar];repeat' split <;> omega
   refine pz λI d=>?_;intro l xk;refine bj rfl rfl (pY (hX.same zj).sc (by omega) (by omega) zG λzn yt xx Fl xA=>?_)
   refine c2 d λI d=>?_;intro l xk;refine ag rfl (cA (p:=zn) (m:=4) Fl (by decide) (by decide) λdd G3 e0 e1 q3=>?_)
   obtain⟨aK,rfl⟩:=f5 e0;have d4:aK<4:=by omega
   refine c2 d λI d=>?_;intro l xk;refine ed rfl rfl rfl (cA (p:=zn) (m:=10) q3.ok (by decide) (by decide) λjo G4 f0 xo q4=>?_)
   obtain⟨jo,rfl⟩:=f5 f0;have yA:=q3.trans q4;have xQ:=hX.same (zj.trans (kK xA xx yA));obtain⟨za,dO,zA,xB,yB⟩:=ub hX.rd (j:=jo) (by omega)
   refine kQ xQ.ho (b2 zA) ⟨c0,λl5 G5 zB _ yx=>⟨lp,l5,_,_,rfl,rfl,zB _ _ xQ.hp,yx,by rw[ar];exact sz _ (by show pl.length+1<=1000;omega),λzf ye=>?_⟩⟩
   have xC:zf≠zn:=a7 (c7.ne (jl yA.ok zB).ok ye);have yQ:=(jl yA.ok zB).new (o:=.lst (pl.map V.str++[za])) ye;have xj:=zB.trans (ay (o:=.lst (pl.map V.str++[za])) ye);have yo:upd G5 zf (.lst (pl.map V.str++[za])) zf=bn (pl.map V.str++[za]):=ah;generalize upd G5 zf (.lst (pl.map V.str++[za]))=G6 at yQ xj yo⊢;refine bj rfl rfl ⟨lp,_,rfl,.inl (aq.of (xj _ _ xQ.hp)),_,_,rfl,rfl,?_⟩;rw[ar];refine cA (p:=zn) (m:=(pl.length:Int)+1) yQ.ok (by omega) (by omega) λjt G7 yC g1 q7=>?_
   obtain⟨jt,rfl⟩:=f5 yC;obtain⟨vn,dn,zC,rn,xD,on⟩:=B9 Ru yB (B5 _ xB) (j:=jt) (by omega)
   refine kQ (q7.kp _ _ yo xC) (b2 zC) ?_;have zQ:=yA.trans (yQ.trans q7);clear yo xC xj ye yx zB yC g1 zC f0 xo zA xB yB xQ;refine c2 d λI d=>?_;intro l xk;have l7:=hX.same (zj.trans (kK xA xx zQ));refine i0 rfl rfl rfl rfl (cA (p:=zn) (m:=10) zQ.ok (by decide) (by decide) λFn G8 f0 xo q8=>?_)
   obtain⟨Fn,rfl⟩:=f5 f0;have yD:=zQ.trans q8;have xR:=hX.same (zj.trans (kK xA xx yD));obtain⟨za,dO,zA,xB,yB⟩:=ub hX.rd (j:=Fn) (by omega)
   refine kQ xR.ho (b2 zA) ⟨dc,λl5 G9 M _ yx=>⟨lk,l5,_,_,rfl,rfl,M _ _ xR.hk,yx,by rw[ar];exact sz _ (by show ks.length+2<=1000;omega),λzf ye=>?_⟩⟩
   have ee:ks.map V.str++[V.str zb,za]=(ks++[zb]).map V.str++[za]:=by rw[a5,vr];rfl
   rw[ee];have xC:zf≠zn:=a7 (c7.ne (jl yD.ok M).ok ye);have yK:=(jl yD.ok M).new (o:=.lst ((ks++[zb]).map V.str++[za])) ye;have xh:=M.trans (ay (o:=.lst ((ks++[zb]).map V.str++[za])) ye);have yo:upd G9 zf (.lst ((ks++[zb]).map V.str++[za])) zf=bn ((ks++[zb]).map V.str++[za]):=ah;generalize upd G9 zf (.lst ((ks++[zb]).map V.str++[za]))=VT at yK xh yo⊢;refine bj rfl rfl ⟨lk,_,rfl,.inl (aq.of (xh _ _ xR.hk)),_,_,rfl,rfl,?_⟩;rw[ar];refine cA (p:=zn) (m:=(ks.length:Int)+2) yK.ok (by omega) (by omega) λFo Rz yC g1 z7=>?_
   obtain⟨Fo,rfl⟩:=f5 yC;obtain⟨vk,yb,zC,zD,xE,_⟩:=B9 (ns:=ks++[zb]) (λx J=>by
    rcases cw.mp J with z|z
    ·exact ya x z
    ·rw[b9.mp z];exact Rw) yB (B5 _ xB) (j:=Fo) (by rw[df,jd];omega)
   refine kQ (z7.kp _ _ yo xC) (b2 zC) ?_;have xn:=kK xA xx (yD.trans (yK.trans z7));clear yo xC xh ye yx M yC g1 zC f0 xo zA xB yB xR l7 zQ yD yK z7 q8 q7 yQ yA q4 q3 Fl xA xx ee e0 e1;have zx:=zj.trans xn;have x8:=hX.same zx;have zk:=xn _ _ xG;have zg:=zJ.same xn;have Ez:=xK.same xn;have Dn:=xn _ _ yu;have EA:=Dt.same rn zx;have EB:=Dt.same zD zx;have EC:∀v∈es,El t tb td (Qa.map (·.1)) yw Rz v:=λv hv=>(zP v hv).gL λb xs e=>xn _ _ e;have RA:∀x,x∈xt.map (·.1) ↔ x∈D.map (·.1):=λx=>zd.nm.mem_iff;have zK:∀x,x∈Qa.map (·.1) ↔ x∈ks:=λx=>zH.mem_iff;clear xG zJ xK yu zP xn;refine c2 d λI d=>?_;intro l xk;refine DH rfl rfl rfl rfl rfl (qN.mk rfl zk zg.keys (λn yE=>by obtain⟨q,yf,e⟩:=aZ.mp yE;exact e ▸ zh.nm q yf) x8.hk ya EA on EB λRB RC Fp y8=>?_)
   refine qz d ?_;intro l;refine ag rfl ⟨ba _,λzO xL=>⟨RB,zO,_,rfl,rfl,ay xL _ _ y8,ah,_,rfl,?_⟩⟩;have ze:=Fp.trans (ay (o:=.lst []) xL);have yL:=(ay (o:=.lst []) xL) _ _ y8;generalize upd RC zO (.lst [])=RE at ze yL⊢;have xy:=zx.trans ze;have yy:=x8.same ze;have yg:=ze _ _ zk;have yl:=zg.same ze;have zu:=Ez.same ze;have zS:=ze _ _ Dn;have xW:=Dt.same rn xy;have yW:=Dt.same zD xy;have zW:∀v∈es,El t tb td (Qa.map (·.1)) yw RE v:=λv hv=>(EC v hv).gL λb xs e=>ze _ _ e;have zp:bV (xt.map (·.1)) (Qa.map (·.1)) aK dn yb=bV (D.map (·.1)) ks aK dn yb:=Ki RA zK _ _ _;clear y8 xL x8 zk zg Ez Dn EA EB EC Fp ze zx;cases C:bV (D.map (·.1)) ks aK dn yb with
   |some ii =>
    rw[C]at yL zp;refine ite_tt rfl ?_;refine i0 rfl rfl rfl rfl (mc.mk rfl zu zd.so (yy.fk yH yO.nd) (λk yk=>ya k ((zK k).mp yk)) xW xD yW xE (λzE xi VU Fq xc xe=>?_) λ_ _ _ _ z=>by rw[zp]at z;cases z)
    obtain rfl:zE=ii:=by rw[zp]at xi;exact(cS xi).symm
    have wl:∀j,(ZC [.str (kz j)]).canLay0=true:=λj=>by unfold kz;split <;> decide +kernel
    refine ag rfl ⟨.list [.str (kz zE)],.list [.str (kz zE)],.lst xe (.cons (.str _) .nil),.lst (xc _ _ yL) (.cons (.str _) .nil),wl _,wl _,by show 1<=60;decide,_,rfl,?_⟩
    rw[rG _ (wl _)];exact⟨_,_,_,_,_,_,_,yh,x1,zq,yj,D,xt,yJ,es,rfl,xy.trans xc,xc _ _ zS,xc _ _ yg,yl.same xc,zh,xr,zu.same xc,zd,λv hv=>(zW v hv).gL λb xs e=>xc _ _ e,by omega⟩
   |none =>
    rw[C]at yL zp;refine ite_ff rfl ?_
    apply Py (uR:=aK>1\/D.length<5)
    ·intro body
     refine ag rfl ⟨_,_,rfl,rfl,_,rfl,?_⟩
     by_cases d1:aK>1
     ·exact ite_tt (bq (by omega)) (body (.inl d1))
     ·refine ite_ff (a' (by omega)) (ag rfl ⟨yh,yj,rfl,yg,_,_,rfl,rfl,_,rfl,?_⟩)
      have kl:yj.length=D.length:=cC yl
      by_cases d5:D.length<5
      ·exact ite_tt (bq (by omega)) (body (.inr d5))
      ·exact ite_ff (a' (by omega)) ⟨_,_,_,_,_,_,_,yh,x1,zq,yj,D,xt,yJ,es,rfl,xy,zS,yg,yl,zh,xr,zu,zd,zW,by omega⟩
    ·intro go
     refine ite_tt rfl ?_;refine pz λI d=>?_;intro l xk;refine i0 rfl rfl rfl rfl (mc.mk rfl zu zd.so (yy.fk yH yO.nd) (λk yk=>ya k ((zK k).mp yk)) xW xD yW xE (λzE xi=>by rw[zp]at xi;cases xi) λn k e1 e2 _ r Fq xc md=>?_)
     obtain⟨zL,xM,zo,yN,a2,a3,Fs,zy⟩:=md;subst e1;obtain rfl:=gK xW;have q0:=zh.nd;have RF:aK≠2->k∈ks:=λz=>by
      have xf:=e2 z;unfold bV at C
      by_cases xg:aK<2
      ·rw[aw xg]at C
       split at C
       ·cases C
       ·split at C
        ·cases C
        ·split at C
         ·cases C
         ·next h=>rw[xf,fx ya]at h;simpa using h
      ·rw[ak xg]at C
       split at C
       ·cases C
       ·split at C
        ·cases C
        ·next h=>rw[xf,fx ya]at h;simpa [z] using h
     have Ft:∀n∈D.map (·.1),Nm n:=λn yE=>by obtain⟨q,yf,e⟩:=aZ.mp yE;exact e ▸ zh.nm q yf
     have z8:aK<2->n ∉ D.map (·.1):=λxg yE=>by
      unfold bV at C;rw[aw xg,fx Ft,bq yE]at C;split at C
      ·cases C
      ·rw[aw rfl]at C;cases C
     have RG:aK<2->Nm n:=λxg=>by
      unfold bV at C;rw[aw xg]at C;split at C
      ·cases C
      ·next h=>exact pG (by simpa [cu] using h)
     have Fu : ¬ aK<2->n∈D.map (·.1):=λxg=>by
      unfold bV at C;rw[ak xg,fx Ft]at C;split at C
      ·cases C
      ·next h=>simpa using h
     have xq:eK zo (eJ D aK n k):=zd.aK q0 Fs zy z8 Fu;have yr:i4 ks (eJ D aK n k):=zh.aK z8 RG RF;have Fv:(eJ D aK n k).length<=5:=LG xr λxg=>by
      rcases go with z|z
      ·omega
      ·exact z
     have w5:zo.length<=5:=by
      have:=xq.nm.length_eq;rw[ar,ar]at this;omega
     have x9:∀{G:Hp},ao Fq G->eh G r t tb zL xM zo:=λ{G} S=>⟨S _ _ yN,S _ _ a2,a3.same S,w5,λp xa=>by obtain⟨q,yf,e,_⟩:=xq.ins p xa;rw[e];exact yr.nm q yf,xq.nm.nodup_iff.mpr yr.nd⟩
     have y9:∀p∈zo,jS (Qa.map (·.1)) p:=xq.good yr λk yk=>⟨ya k yk,(zK k).mpr yk⟩;refine c2 d λI d=>?_;intro l xk;have RH:aK≠2->vk=.str k:=λz=>by have xf:=e2 z;subst xf;exact gK yW
     refine i0 rfl rfl rfl rfl (qO.mk rfl (xc _ _ yg) (yl.same xc) q0 xr z8 Fu RH λRI RJ VV yi xl xu=>?_);have xX:=yi;have yi:=xc.trans yi;refine c2 d λI d=>?_;intro l xk;refine i0 rfl rfl rfl rfl (n8.mk rfl (yy.same yi).hd (yy.same yi).dv xI xl xu yr Fv λy VW VX VY RK yM zt ac zM z9 RL RM RN PF ⟨VG,R3,RO⟩ RP RQ=>?_);obtain rfl:yM=bk:=Kd PF Fi (RN.trans z4.symm);obtain rfl:zt=zo:=eK.uniq (eK.of R3 RO RP RQ) xq yr.nd;have yn:=yy.same (yi.trans zM);have yG:=x9 (xX.trans zM);have Dp:=(yi.trans zM) _ _ zS;obtain⟨y1,y2⟩:=CG Eh x5 y9;refine⟨kX Qa yM zt,kX Qa yM zt,yn.rep yG.hw yG.ht yG.tv,⟨y,t,_,_,o,ws,_,_,_,rfl,z9.hw,yn.ht,bK.rep yn.fv,.tup RL (b'.rep RM),.tup z9.ht (cQ.rep z9.tv),rfl⟩,y1,y1,y2,_,rfl,?_⟩;rw[rG (kX Qa yM zt) y1];refine ite_ff rfl ?_;refine ag rfl (qp.mk rfl Dp ⟨yG,yn.ht,yH,yn.fv,yO,Rl,Rk,yn.hb,yn.bv,x5,Fi,q6,y9,zy⟩ λV0 Fw=>⟨true,true,rfl,rfl,_,rfl,ite_ff rfl ?_⟩);have Ox:=zM.trans Fw;have xT:=Fw _ _ Dp;refine c2 d λI d=>?_;intro l xk;refine ag rfl ⟨.inl ⟨rfl,_,aq.of xT⟩,DH rfl rfl rfl rfl rfl ⟨sz 5 (by decide),λcc Fx vd _ RS=>⟨zz,es,_,rfl,rfl,vd _ _ xT,by rw[aJ];omega,?_⟩⟩⟩
     refine qz d ?_;intro l;have yT:=vd _ _ xT;have xp:=Ox.trans vd;have zT:=yi.trans xp;have xF:∀b xs,Fx b=bi xs->upd Fx zz (.lst (es++[.ref cc])) b=bi xs:=λb xs e=>by rw[ai (bx e yT)];exact e
     refine ag rfl ⟨_,_,_,_,_,_,_,RI,r,zL,RJ,eJ D aK n k,zt,xM,es++[.ref cc],rfl,λb u e=>by rw[ai (aB e PB)];exact(xy.trans zT) _ _ e,ah,by rw[ai (bx (xp _ _ xl) yT)];exact xp _ _ xl,(xu.same xp).keep λb u _ nl e=>by rw[ai (λz=>by rw[z,yT]at e;cases e;exact nl _ rfl)];exact e,yr,Fv,(x9 (xX.trans xp)).gL xF,xq,λv hv=>?_,by rw[df,jd];omega⟩
     rcases cw.mp hv with hv|hv
     ·exact((zW v hv).gL λb xs e=>zT _ _ e).gL xF
     ·rw[b9.mp hv]
      exact⟨cc,x1,zq,r,zL,yJ,xM,xt,zt,aK,n,k,vk,yb,rfl,xF _ _ RS,(zu.same zT).gL xF,zd.so,xD,zD,xE,e2,zp,(x9 (xX.trans xp)).gL xF,Fs,zy,y9⟩
  ·rintro σ G1 ⟨v1,y5,z5,x6,y6,z6,x7,yh,x1,zq,yj,D,xt,yJ,es,rfl,zj,yu,xG,zJ,zh,xr,xK,zd,zP,y7⟩
   have l1:=hX.same zj;have VH:es.length<=100:=by
    refine e5 y7 ?_;rw[ar];repeat' split <;> omega
   clear xG zJ zh xr xK zd y7;refine qz d ?_;intro l;refine ag rfl ⟨zz,rfl,⟨_,aq.of yu⟩,λc xd=>?_⟩;refine f6 (xs:=es) (λi ys l yt=>∃yc t1 t2 t3 t4:ap V,l=[yc,t1,t2,t3,t4]/\yt c=bn ys/\ao G1 yt/\ys=(XO i true).map V.bl) ⟨none,none,none,none,none,rfl,ah,ay xd,rfl⟩ (λi ys l yt ab=>by obtain⟨_,_,_,_,_,_,z1,z2,_⟩:=ab;exact ⟨z1,aq.of (z2 _ _ yu)⟩) ?_ ?_
   ·rintro i v ys l yt J ⟨yc,t1,t2,t3,t4,rfl,h2,yF,rfl⟩
    have zI:=(bQ.mp J).1;obtain⟨c',x,zL,r,hW,xM,RK,W,zo,aK,n,k,vk,yb,rfl,RT,RU,yP,xD,zD,xE,xf,du,RV,pm,zy,tg⟩:=(zP v (dQ J)).gL λb xs e=>yF _ _ e;have l2:=l1.same yF;refine⟨c',_,rfl,aE.of RT,rfl,_,_,rfl,_,_,rfl,_,_,rfl,_,_,rfl,_,_,rfl,rfl,?_⟩;refine i0 rfl rfl rfl rfl (mc.mk rfl RU yP (l2.fk yH yO.nd) (λk yk=>ya k (zH.mem_iff.mp yk)) (.str n) xD (Dt.same zD (zj.trans yF)) xE (λzE xi=>by rw[du]at xi;cases xi) λn' k' xo f2 _ r2 G3 yR md=>?_)
    obtain⟨V1,V2,W5,yN,a2,a3,Fy,RW⟩:=md;injection xo with xo;subst xo;rw[M4 (k':=k) λz=>by have:=(f2 z).symm.trans (xf z);injection this]at Fy
    obtain rfl:W5=zo:=tN RW zy (Fy.trans pm.symm);obtain⟨y1,y2⟩:=CG Eh x5 tg;have l3:=l2.same yR;have yX:=RV.same yR;refine ag rfl ⟨_,_,l3.rep yN a2 a3,l3.rep yX.hw yX.ht yX.tv,y1,y1,y2,yR _ _ h2,by rw[ar,jX,aJ];omega,cw_next zI ⟨_,_,_,_,_,rfl,ah,λb u z=>by rw[ai (aB z xd)];exact yR _ _ (yF _ _ z),?_⟩⟩
    rw[rG _ y1,lg,a5];rfl
   ·rintro ys l yt ⟨yc,t1,t2,t3,t4,rfl,h2,yF,rfl⟩
    refine⟨c,_,rfl,aq.of h2,?_⟩;rw[show(XO es.length true).all id=true by simp]
    exact q _
end eL
namespace eL
open L2 W
def eN(l:List FG)(i:Nat):FG:=l.getD i 0
def Oy(K:Yh)(LE:FG)(l:List FG):Bool:=iC.all λi=>(UU 16).all (λj=>kitOne K (.ref (eN l i)) (.ref (eN l j))==ih (decide (i=j)))&&(kitOne K (.ref (eN l i)) (.type "ValueError")==ih true&&(t8 K (eN l i)&&mroIn K (eN l i) (.ref LE)==ih true))
def PH(K:Yh)(l:List FG):Bool:=iC.all λi=>f9 K (eN l i) none&&Yb K (.ref (eN l i))
theorem all_mk{l:Z1}{xr:FG}(X:K.In h)(G:h.Ns UX mg)(xt:mg "law" = ih (.ref xr)){LE q r t u y A C D E F d e f g k o:FG}{yt zt xu:Tok}
  (hd:qZ K [pr "is_whole" sF,pr "is_name" ny,pr "check_name" tf,pr "are_rising" tw,pr "is_entry" sG,pr "are_steps" m4,pr "is_step" tI,pr "begins_with_text" tJ,pr "merged" nz,pr "least_free" pO,pr "wish_against" nU,pr "is_row" nK,pr "is_family" iP,pr "is_pair" tx,pr "is_kind" tG,pr "are_parents" nV,pr "check_kind" tH,pr "lines_of" lM,pr "line_from" m2,pr "is_book" j7,pr "is_triple" sf,pr "is_world" sE,pr "are_things" j2,pr "is_thing_of" rW,pr "are_own" j8,pr "is_own" tX,pr "is_thing" nh,pr "check_thing" tj,pr "kind_and_own" ni,pr "thing_begun" tY,pr "thing_ended" tZ,pr "thing_turned" tD,pr "with_thing" t6,pr "without_thing" m3,pr "_law_pot" uK,pr "_law_digit" nG,pr "_law_names" iO,pr "_law_merged" h9,pr "_law_line" nH,pr "_law_parents" se,pr "_law_family" nj,pr "_law_called" tm,pr "_law_number" tq,pr "_law_step" uj,pr "_law_entry" nI,pr "_law_book" uk,pr "_law_things" tu,pr "_law_world" nJ,pr "_law_refusal" pd,pr "_law_done" um,pr "_law_due" uL,pr "_law_behind" tF,pr "law" gP])
  (hz:uI K ["len","max","min","abs","range","any","all","list","tuple","enumerate","isinstance","str","dict","sorted","int","bool","set","ValueError"])
  (hJ:uJ K ["NoName","NoKind","NoParents","Taken","InUse","NoEntry","NoThing","NoNumber","NotAbove","Shut","NoText","NoRow","Ring","Round","Missing","Endless"] [q,r,t,u,y,A,C,D,E,F,d,e,f,g,k,o])
  (yu:nsIn K UX "LineError" = ih (ih (.ref LE)))
  (zu:Oy K LE [q,r,t,u,y,A,C,D,E,F,d,e,f,g,k,o]=true)
  (xv:PH K [q,r,t,u,y,A,C,D,E,F,d,e,f,g,k,o]=true)
  (yv:f9 K LE none=true)
  (zr:nsIn K UX "MOST_PARENTS" = ih (ih (.int 4 yt)))
  (zv:nsIn K UX "MOST_STEPS" = ih (ih (.int 4 zt)))
  (xw:nsIn K UX "MOST_TIMES" = ih (ih (.int 9 xu))) :
  ∃fd:XX,(∀(s:Gb) (v:i'),Zm s fd ⟨[v],[]⟩ [("_law_script",v)]) /\∀base:XY,K.In base->base.Ns UX mg->aU l.prog w K mg base aC 8 xr fd ["_law_script"] (l4 K):=by
 have z:∀x∈_,mg x=none:=BP X G hz;obtain⟨yw,zw,xx,yx,zx,xy,yy,zy,xz,yz,zz,xA,yA,zA,xB,yB,zB,xC,yC,zC,xD,yD,zD,xE,yE,zE,xF,yF,zF,xG,yG,zG,xH,yH,hP,hD,hN,zH,xI,yI,zI,xJ,yJ,zJ,xK,yK,zK,xL,yL,zL,xM,yM,hL,-⟩:=hd;obtain⟨V3,V4,zM,za,xb,yb⟩:=ek X G yw "thing";obtain⟨V5,V6,xN,H,I,J⟩:=ek X G zw "thing";obtain⟨V7,V8,yN,zN,xO,yO⟩:=ek X G xx "thing";obtain⟨V9,V',zO,S,T,U⟩:=ek X G yx "names";obtain⟨Wa,Wb,xP,yP,zP,xQ⟩:=ek X G zx "thing";obtain⟨Wc,Wd,yQ,zQ,xR,yR⟩:=ek X G xy "thing";obtain⟨We,Wf,zR,xS,yS,zS⟩:=ek X G yy "thing";obtain⟨Wg,Wh,xT,zf,xg,yg⟩:=ek X G zy "thing";obtain⟨Wi,Wj,yT,zT,xU,yU⟩:=ek X G xz "rows";obtain⟨Wk,Wl,zU,Wm,xV,yV⟩:=ek X G yz "rest";obtain⟨Wn,Wo,zV,Wq,xW,yW⟩:=eV X G zz "rest" "name";obtain⟨Wr,Ws,zW,zg,xh,yh⟩:=ek X G xA "thing";obtain⟨Wt,Wu,xX,yX,zX,xY⟩:=ek X G yA "thing";obtain⟨Wv,Ww,yY,zY,x0,y0⟩:=ek X G zA "thing";obtain⟨Wx,Wy,z0,V,W,Y⟩:=eV X G xB "family" "thing";obtain⟨Wz,WA,x1,y1,z1,x2⟩:=eV X G yB "family" "thing";obtain⟨WB,WC,y2,zh,xi,yi⟩:=eV X G zB "family" "thing";obtain⟨WD,WE,z2,x3,y3,z3⟩:=ek X G xC "family";obtain⟨WG,WH,x4,y4,z4,x5⟩:=jr X G yC "lines" "kind" "parents";obtain⟨WI,WJ,y5,z5,x6,y6⟩:=eV X G zC "family" "thing";obtain⟨WK,WL,z6,x7,y7,z7⟩:=eV X G xD "family" "thing";obtain⟨WM,WN,x8,y8,z8,x9⟩:=ek X G yD "thing";obtain⟨WO,WQ,y9,z9,RX,RY⟩:=eV X G zD "family" "thing";obtain⟨WR,WS,aa,R0,R4,R5⟩:=eV X G xE "family" "thing";obtain⟨WT,WU,R6,R7,R8,R9⟩:=ek X G yE "thing";obtain⟨WV,WW,R',Sa,Sb,Sd⟩:=ek X G zE "thing";obtain⟨WX,WY,Se,zi,xj,yj⟩:=eV X G xF "world" "thing";obtain⟨ac,W0,Sf,zj,xk,yk⟩:=eV X G yF "world" "thing";obtain⟨W2,W3,Sg,Sh,Si,Sj⟩:=eV X G zF "world" "thing";obtain⟨W4,W6,Sk,Sl,Sn,So⟩:=jr X G xG "world" "thing" "kind";obtain⟨W7,W8,Sq,Sr,Ss,Su⟩:=eV X G yG "world" "thing";obtain⟨W9,Xa,Sv,Sw,Sx,Sy⟩:=jr X G zG "world" "thing" "kind";obtain⟨Xb,Xc,Sz,zk,xl,yl⟩:=nv X G xH "world" "thing" "kind" "own";obtain⟨Xd,Xe,SA,zl,xm,ym⟩:=eV X G yH "world" "thing";obtain⟨fP,dP,FP,kP,bP,mP⟩:=eV X G hP "_law_script" "_law_k";obtain⟨fD,dD,yd,P,M,N⟩:=eV X G hD "_law_pot_here" "_law_many";obtain⟨fN,dN,FN,zd,xe,ye⟩:=eV X G hN "_law_pot_here" "_law_many";obtain⟨Xf,Xg,SD,Xh,SE,SF⟩:=ek X G zH "_law_rows";obtain⟨Xi,Xj,SG,SH,SI,SJ⟩:=jr X G xI "_law_lines" "_law_kind" "_law_own";obtain⟨Xk,Xl,SK,SM,SN,SO⟩:=eV X G yI "_law_pot_here" "_law_made";obtain⟨Xm,Xn,SQ,SR,SS,SU⟩:=eV X G zI "_law_pot_here" "_law_kinds";obtain⟨Xo,Xp,SV,zm,xn,yn⟩:=nv X G xJ "_law_pot_here" "_law_many" "_law_alike" "_law_kinds";obtain⟨Xq,Xr,SW,zb,xc,yc⟩:=ek X G yJ "_law_pot_here";obtain⟨Xs,Xt,SX,SY,S0,S2⟩:=jr X G zJ "_law_pot_here" "_law_names_here" "_law_at";obtain⟨Xu,Xv,S3,S4,S5,S6⟩:=jr X G xK "_law_pot_here" "_law_names_here" "_law_at";obtain⟨Xw,Xx,S7,S8,S9,S'⟩:=jr X G yK "_law_pot_here" "_law_kinds" "_law_names_here";obtain⟨Xy,Xz,Ta,Tb,Tc,Td⟩:=nv X G zK "_law_pot_here" "_law_alike" "_law_kinds" "_law_names_here";obtain⟨XA,XB,Te,Tf,Tg,Ti⟩:=jr X G xL "_law_family_here" "_law_book_here" "_law_things_here";obtain⟨XC,XD,Tj,Tn,To,Tp⟩:=ek X G yL "_law_e";obtain⟨XE,XF,Tq,Tr,Ts,Tt⟩:=nv X G zL "_law_world_here" "_law_deed" "_law_thing" "_law_kind";obtain⟨XG,XH,Tu,Tv,Tw,Tx⟩:=K9 X G xM "_law_things_here" "_law_kinds" "_law_deed" "_law_thing" "_law_kind";obtain⟨XI,XJ,Tz,TB,TC,TF⟩:=nv X G yM "_law_things_here" "_law_deed" "_law_thing" "_law_kind";obtain⟨fL,dL,yr,aL⟩:=hL;cases xt.symm.trans (mg_of X G aL)
 have c:∀{x:F4},x∈_->mg x=none:=λ{x} m=>z x m;have a:b7 mg:=⟨c (by decide),c (by decide),c (by decide),c (by decide),c (by decide),c (by decide),c (by decide),c (by decide),c (by decide),c (by decide)⟩
 have b:dq mg:=⟨c (by decide),c (by decide),c (by decide),c (by decide)⟩
 have B3:D1 mg:=⟨c (by decide),c (by decide)⟩
 have zn:mg "set" = none:=c (by decide)
 have xo:=mg_of X G yu;have O:∀i∈iC,(∀j,j<16->kitOne K (.ref (eN [q,r,t,u,y,A,C,D,E,F,d,e,f,g,k,o] i)) (.ref (eN [q,r,t,u,y,A,C,D,E,F,d,e,f,g,k,o] j))=ih (decide (i=j)))/\kitOne K (.ref (eN [q,r,t,u,y,A,C,D,E,F,d,e,f,g,k,o] i)) (.type "ValueError")=ih true/\fA K (eN [q,r,t,u,y,A,C,D,E,F,d,e,f,g,k,o] i)/\mroIn K (eN [q,r,t,u,y,A,C,D,E,F,d,e,f,g,k,o] i) (.ref LE)=ih true:=λi hi=>by
  have h:=gX.mp zu i hi;simp only[gW,fX,gX]at h;exact⟨λj ze=>h.1 j (eO.mpr ze),h.2.1,La h.2.2.1,h.2.2.2⟩
 have pl:∀i∈iC,f9 K (eN [q,r,t,u,y,A,C,D,E,F,d,e,f,g,k,o] i) none=true/\Yb K (.ref (eN [q,r,t,u,y,A,C,D,E,F,d,e,f,g,k,o] i))=true:=λi hi=>gn.mp (gX.mp xv i hi);have Q:qL K mg (eN [q,r,t,u,y,A,C,D,E,F,d,e,f,g,k,o]):=by
  refine⟨λp xf=>?_,c (by decide),λi hi j ze=>(O i hi).1 j ze,λi hi=>(O i hi).2.1,λi hi=>(O i hi).2.2.1,λB hB i hi=>?_⟩
  ·unfold qK at xf
   simp only[bu,gZ,g0]at xf;refine BQ X G p.1 hJ ?_ ?_ <;> rcases xf with rfl|rfl|rfl|rfl|rfl|rfl|rfl|rfl|rfl|rfl|rfl|rfl|rfl|rfl|rfl|rfl <;> rfl
  ·cases hB.symm.trans xo;exact(O i hi).2.2.2
 have T0:jx K mg "NoName" (eN [q,r,t,u,y,A,C,D,E,F,d,e,f,g,k,o] 0):=⟨(pl 0 (by decide)).1,(pl 0 (by decide)).2,Q.n (0,"NoName") (by decide),(O 0 (by decide)).2.2.1⟩
 have T1:jx K mg "NoKind" (eN [q,r,t,u,y,A,C,D,E,F,d,e,f,g,k,o] 1):=⟨(pl 1 (by decide)).1,(pl 1 (by decide)).2,Q.n (1,"NoKind") (by decide),(O 1 (by decide)).2.2.1⟩
 have T3:jx K mg "Taken" (eN [q,r,t,u,y,A,C,D,E,F,d,e,f,g,k,o] 3):=⟨(pl 3 (by decide)).1,(pl 3 (by decide)).2,Q.n (3,"Taken") (by decide),(O 3 (by decide)).2.2.1⟩
 have T6:jx K mg "NoThing" (eN [q,r,t,u,y,A,C,D,E,F,d,e,f,g,k,o] 6):=⟨(pl 6 (by decide)).1,(pl 6 (by decide)).2,Q.n (6,"NoThing") (by decide),(O 6 (by decide)).2.2.1⟩
 obtain⟨_,_,_,_,_,_,_,_,_,rfl,_,_⟩:=yr.ex;exact⟨_,λs v=>.of_eq rfl,λbase _ _ =>
  let zc:=J5 zM b B3
  let L:=J6 xN a b
  let TH:=MF yN T0 ⟨L,H,I,J⟩
  let xa:=Lr zO b zn
  let yo:=Mv xT a b
  let TJ:=J' zR a (mg_of X G xw) ⟨yo,zf,xg,yg⟩ ⟨L,H,I,J⟩ ⟨zc,za,xb,yb⟩
  let TL:=Lk yQ a b (mg_of X G zv) ⟨TJ,xS,yS,zS⟩
  let TM:=Ll xP a ⟨yo,zf,xg,yg⟩ ⟨L,H,I,J⟩ ⟨zc,za,xb,yb⟩ ⟨TL,zQ,xR,yR⟩
  let TN:=I1 yT a zV xW yW zU xV yV
  let TQ:=NJ x4 a ⟨TN,zT,xU,yU⟩
  let TR:=J3 z2 a ⟨TQ,y4,z4,x5⟩
  let zo:=NU zW a b zn L H I J
  let TU:=Lu yY a b L H I J zo zg xh yh
  let ya:=NS z0 b ⟨L,H,I,J⟩
  let TV:=Lw x1 a (mg_of X G zr) ya V W Y zo zg xh yh
  let xp:=MD y2 T1 ⟨ya,V,W,Y⟩
  let TX:=ML xX a b TU zY x0 y0 xa S T U TV y1 z1 x2 TR x3 y3 z3
  let TY:=MM z6 a b ⟨ya,V,W,Y⟩ ⟨L,H,I,J⟩ ⟨TM,yP,zP,xQ⟩
  let ab:=MN y5 a b ⟨TY,x7,y7,z7⟩ ⟨xa,S,T,U⟩
  let T2:=MO R' a b ⟨L,H,I,J⟩ ⟨zc,za,xb,yb⟩
  let T4:=MP R6 a b ⟨T2,Sa,Sb,Sd⟩ ⟨xa,S,T,U⟩
  let T7:=MQ aa a b ⟨L,H,I,J⟩ ⟨ya,V,W,Y⟩ ⟨T4,R7,R8,R9⟩
  let T8:=MR y9 a b ⟨T7,R0,R4,R5⟩ ⟨xa,S,T,U⟩
  let T9:=MS x8 a b ⟨TX,yX,zX,xY⟩ ⟨ab,z5,x6,y6⟩ ⟨T8,z9,RX,RY⟩
  let yp:=MU Se ⟨L,H,I,J⟩
  let zp:=MV Sf T6 ⟨yp,zi,xj,yj⟩
  let T':=MY Sg ⟨zp,zj,xk,yk⟩
  let xq:=MW SA a
  let yq:=MX Sz a b ⟨xq,zl,xm,ym⟩
  let Ua:=Oa Sk T3 ⟨TH,zN,xO,yO⟩ ⟨yp,zi,xj,yj⟩ ⟨xp,zh,xi,yi⟩ ⟨yq,zk,xl,yl⟩
  let Ub:=Ob Sq ⟨zp,zj,xk,yk⟩ ⟨xq,zl,xm,ym⟩
  let Uc:=Oc Sv ⟨T',Sh,Si,Sj⟩ ⟨xp,zh,xi,yi⟩ ⟨yq,zk,xl,yl⟩
  let Ud:=Od Tj b Q
  let Ue:=Oe Tq Q xo ⟨_,yv⟩ Ud Tn To Tp ⟨Ua,Sl,Sn,So⟩ ⟨Ub,Sr,Ss,Su⟩ ⟨Uc,Sw,Sx,Sy⟩
  let R:=sH yd
  let Ug:=NP SQ a b (Mo SK a yd M N) SM SN SO (NM SG a SD SE SF) SH SI SJ
  let GP:=Ml FP a
  let yf:=JZ FN a yd M N
  let zq:=Of SV ⟨yf,zd,xe,ye⟩
  let xd:=Mz SW ⟨R,P,M,N⟩
  let Uh:=MA SX a ⟨R,P,M,N⟩ ⟨xd,zb,xc,yc⟩
  let Ui:=MB S3 a ⟨R,P,M,N⟩ ⟨xd,zb,xc,yc⟩ ⟨Uh,SY,S0,S2⟩
  let Uj:=Ov S7 a ⟨R,P,M,N⟩ ⟨Ui,S4,S5,S6⟩
  let Uk:=Og Ta a ⟨zq,zm,xn,yn⟩ ⟨R,P,M,N⟩ ⟨yf,zd,xe,ye⟩ ⟨xd,zb,xc,yc⟩
  let Ul:=Ot Te a b
  let Um:=Oh Tu b
  let Uo:=Oi Tz b
  M5 yr a b ⟨GP,kP,bP,mP⟩ ⟨R,P,M,N⟩ ⟨yf,zd,xe,ye⟩ ⟨Ug,SR,SS,SU⟩ ⟨zq,zm,xn,yn⟩ ⟨Uj,S8,S9,S'⟩ ⟨Uk,Tb,Tc,Td⟩ ⟨Ul,Tf,Tg,Ti⟩ ⟨Um,Tv,Tw,Tx⟩ ⟨Ue,Tr,Ts,Tt⟩ ⟨Uo,TB,TC,TF⟩ ⟨T9,y8,z8,x9⟩⟩
theorem walk{l:Z1}{d:DefRec}{K:Params->Yh}(e:l.most=ih 63)(c:d.params.defaults=[])
  (g:∀(w:X7) (h:XY),YP w h->(K w.params).In h)
  (F:∀(w:X7) (mg:F4->Option i') (b:FG) (h:XY),(K w.params).In h->h.Ns UX mg->mg d.name=ih (.ref b) ->
   ∃fd:XX,(∀(s:Gb) (u:i'),Zm s fd ⟨[u],[]⟩ [("_law_script",u)]) /\∀base:XY,(K w.params).In base->base.Ns UX mg->aU l.prog w (K w.params) mg base aC 8 b fd ["_law_script"] (l4 (K w.params))) :
  WalkO q Qr XP YP l.row.toRowW d [] (λf vs=>ZO f vs):=
 L2.Kt (n:=63) (k:=8) (x:= "_law_script") (CX:=λ_=>aC) (sp:=λw=>l4 (K w.params)) e (by decide) c ⟨rfl,by decide,by decide,rfl⟩ g F (λ_ _ a ns i _ j=>l4.mk rfl j i λ_=>rfl) λ_ _ _ _ _ z=>z
end eL
structure PySem.W.Fast:Prop where
 (tw9998004779056327681 tw11274270071239787320 tw3245717360912953227 tw15326133939110439733 tw10989942069999177334 tw10401315138429723425 tw1363800610292995440 tw5034011620199489829 tw13366114559047157537 tw624381680997099490 tw12601168786182118343 tw10414242471685096910 tw5501281808520863354 tw8887887025228503959 tw16869204025430383145 tw15384913713070591868 tw3886610978057329433 tw11319453481564174354 tw6050418456765739472 tw11547702191726942529 tw15836139891321575608 tw18229953918916609865 tw11761535324124139052 tw10324315509798363971 tw2627787004424471405 tw9436456462737063075 tw2236655327404740650 tw12111963900096432240 tw16401848764886006768 tw17655237599639236468 tw11225851702649911512 tw4883053896271407749 tw9331963601433062307 tw10893593571638395934 tw1147477039287239708 tw6473716090744528631 tw9628214636930691026 tw16831839703184763239 tw7924018683975186425 tw11973954603277384707 tw461243032505614195 tw13599319694575812370 tw13069958584106063874 tw16634028192158051364 tw2943943514207284678 tw3592284971076325190 tw18054795388007856343 tw15499317908696422753 tw9961328939985953809 tw8799430388166806448 tw1998040823456653767 tw9947060052706999159 tw12975851889170707595 tw7814798362769985836 tw7538426686440272438 tw10760251455806752011 tw17710808634707595595 tw14629352359728015210 tw4059824327772311415 tw803815784411052225 tw6019245204277798182 tw4462247984213871935 tw5877027025656815559 tw13406341993091507324 tw7947558615318165627 tw5911978844675496571 tw7938713432009171189 tw1100926429562042588 tw14880800600762684297 tw11098022681434261543 tw18234421823386564738 tw12781347799232164213 tw1274467593179979046 tw11774402024352358078 tw15332884231078841358 tw1110890687487416067 tw1513779466079757139 tw13156784205363451008 tw11226534709209480577 tw8557040206887022035 tw18316269995773972519 tw606489873247345607 tw17174791790512512537 tw12607596787385576026 tw13238306127271722507 tw15714534622436390863 tw11905462663560018020 tw15180760120198918425 tw17584207347279560369 tw8540898272818792163 tw7605274252667286246 tw17017392199847677041 tw15781365335275767698 tw8096997775661114419 tw8233009153453961867 tw869690972744949420 tw13499193847724275714 tw8128746529642926264 tw6573940414390017183 tw7904694684251981213 tw213081038418434559 tw2561469854270992572 tw17361692944064629211 tw17961224635084208877 tw8054334736421577490 tw12943021715971159733 tw7913793687714458868 tw10482289270515534274 tw17997987821743708350 tw1887760580267438276 tw16571405801606739794 tw13447226706935767726 tw8657773425323692310 tw1888073819346742763 tw16329121819116731231 tw3696100668325381616 tw12511765802379845967 tw10119652641874868720 tw13955629064809740767 tw17860737289330939933 tw11332947300671216697 tw9022961142212412236 tw15601211344360185556 tw7535645258851693454 tw6181378923907496151 tw7814867194757645990 tw2902645169636834961 tw6528198336313591135 tw16553822012259605452 tw16152228060258555998 tw10442111672214273504 tw13248425184364143996 tw7584003892829338741 tw3471430033390932245 tw14694570425566628261 tw10967905650049358617 tw124658899373318556 tw15759870955408690517 tw874433736411850460 tw10612660850594195641 tw14156008619893473550 tw1045517932262056608 tw5941776902151811529 tw10743569832264739746 tw10802851611826077813 tw3061427207043623224 tw967252243562008536 tw10551694810437264368 tw10342262554211725910 tw13050731526042777336 tw9433517323149417508 tw13030065224514245484 tw10662415038029984667 tw14242094738313792048 tw16370412591980694116 tw10935943588406842534 tw845270112173832496 tw11709044227399356671 tw5127922353958123647 tw7773186437558949650 tw2657403409984296481 tw11858615155841776118 tw10327162731419985450 tw14110791544136330572 tw16219845522768037793 tw4566480341961951209 tw11132112419352029136 tw5199829957319536822 tw960625805517327825 tw2692940121349336623 tw6343370083716001217 tw3613506770721875676 tw10746305990432749926 tw12659268094129339957 tw9132508533593246205 tw18076060660587209349 tw6796647511585732459 tw7701345307618683387 tw1785761620425660373 tw5479941575128925024 tw5590034879659754396 tw4480241924584159969 tw7132632898318576943 tw66040247687960867 tw16396610300334395496 tw11762682359746597450 tw18069005141317758355 tw5311512117829817320 tw1690915749620067527 tw9621537921820724978 tw873850350774179799 tw3816010411464957643 tw16385366486557439884 tw664098577896188363 tw15744965003147102475 tw14283704667303893023 tw14769675695591357357 tw12141922720360813319 tw13537585556917928823 tw6592030251110833213 tw671463966166060913 tw7019015478707696260 tw18353901977500115214 tw16133044199022410570 tw6368684928199169524 tw9305443967811656215 tw3298567193891621187 tw16959676843977204603 tw8197471615131014361 tw2109516739958425761 tw12776753987092839565 tw13374114725419823070 tw5354250429692962901 tw1130613848199633746 tw15152537227374249028 tw17018183093254853697 tw17439469280779013704 tw10020574512898781713 tw3009355785561220145 tw16056395339625192770 tw11145657850533905078 tw14906403918293261992 tw9393928360798336040 tw11582039863388112282 tw17968472856273206676 tw17918387895654076778 tw9645566327309175418 tw10183736996115283586 tw16081760188560225553 tw1916717051510559313 tw1381768383585865349 tw1938836826056093331 tw5128995576575264488 tw4803523066552105779 tw11502858220313243640 tw9242877346491480030 tw4487973285219510408 tw15707391998001123156 tw4519686442904580826 tw8001166016229601562 tw2314945079597075851 tw8351816095896649302 tw5409727341324144590 tw6333248671877361791 tw1557805878740404399 tw2122427293356815714 tw17039015315681826108 tw13014709251752562696 tw10129374226719651329 tw18410985638093437871 tw16727406985210173564 tw15476225741091813247 tw13427355388019581566 tw13015578697940276128 tw4818300547314017613 tw14097705968295470739 tw2369397419532091241 tw12742312679725582338 tw7862994883539761865 tw7220950302758749286 tw1029575222444402625 tw5237791907552714369 tw14721694763523497794 tw4127168709086406554 tw8374970618369526469 tw17167385037421701550 tw5957681556534784010 tw5500800776751067865 tw9047000095989242421 tw10794386421844406096 tw7999335009938675152 tw7891372706928267447 tw1909346959914835295 tw2922076960998734667 tw14535364410015197752 tw2913521515349667624 tw11877698469212498270 tw2341682438249634866 tw16306856545849912955 tw16702963678322024554 tw16621608190627547437 tw13913812699659614452 tw15573398018745875655 tw8156340323232068671 tw8743335711662407354 tw9267046882378063210 tw6175013936459141140 tw1224846633223653766 tw7797890566891453481 tw2085937660524416106 tw15956022574694395156 tw4727571243679946659 tw14247838677581736659 tw16501663415782930903 tw9485856007022876347 tw667808303059070832 tw10939643989179916656 tw15594453066632100718 tw9946727146013992479 tw17107242131714744434 tw11740659419822539872 tw13453678083367818645 tw14306604102737851496 tw2685328980001731509 tw17416637699231167666 tw10882175435247706206 tw8416413423546538306 tw7423192729527221854 tw5906895995127507845 tw3986617358768220322 tw10763585240093851236 tw5922366106876265015 tw3494948016656195476 tw7549501651501861991 tw10058337842761502507 tw4127396233840079694 tw7374044944490731903 tw7942015844391444092 tw16214415469849382541 tw17085109222847745990 tw6612543764832630517 tw9658876797470382089 tw820041953117107921 tw16832924256616845201 tw1522918953982308879 tw10355392437370419820 tw14284581000048285396 tw16780382134666372668 tw5209680999901975649:True)
open W PyProof.Rows
set_option maxRecDepth 100000 in
set_option maxHeartbeats 0 in
theorem PySem.Challenge.cw_parentlines_k42_things_begun_ended_turne_holds : PySem.Challenge.rw_parentlines_k42_things_begun_ended_turne.Holds := by
 w_on;o_law;k_head;(case hw=>w_witness2)
 k_fill
 refine eL.walk (l:=aaO) rfl rfl (λw h Y=>PySem.W.kIn_of Y) ?F
 case F =>
  intro w mg fa h KX G Up;refine' eL.all_mk KX G Up ?d ?z ?hJ ?Uq ?Ur ?Us ?Ut ?Oz ?Uu ?Uv
  (case d=>(repeat (refine' L2.NH ?a ?l ?c ?k ?_;(case a=>k_is);(case l=>k_is);(case c=>k_is);(case k=>k_is)));exact trivial)
  (case z=>(repeat' first|exact trivial|refine YX ?_ ?_) <;> k_is)
  (case hJ=>(repeat' first|exact trivial|refine YX ?_ ?_) <;> k_is)
  (case Uq=>k_is)
  (case Oz=>k_is)
  (case Uu=>k_is)
  (case Uv=>k_is)
  (case Ur=>kernel_rfl)
  (case Us=>kernel_rfl)
  (case Ut=>kernel_rfl)
