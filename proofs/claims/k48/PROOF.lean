import PyProof.Rows.All
import Wide.All
import OpenK.AllK
import Wide.FinOn
import Lean
import PyProof.EqAt
import PyProof.EqKinds
import PyProof.TupleCall
import PyProof.ReprRoads
import PyProof.ReprBulk
import PyProof.EnumMake
import PyProof.EnumFor
import KE.KRevSl
import KE.KDictList
import PyProof.ZipIter
import PyProof.AttrMissHeap
import KE.KDictOf
import KE.KItemsList
import PyProof.Rows.ZipGen
import PyProof.CallFns
import PyProof.NsDelKeeps
import PyProof.StrWalks
import PyProof.FString5
import KE.KSortTup
import PyProof.SetRoads
import PyProof.SetNew
import PyProof.Rows.SetFrom
import PyProof.WalksMore
import PyProof.ForAny
import PyProof.DictWalks
import PyProof.MeetsDict
import KE.KEqDict
import PyProof.AutoSeq1
import PyProof.DictItemsLoops
import KE.KPairComp
import PySem.Challenge.RW_parentlines_k48_whole_long_chains_come_h
set_option Elab.async false
set_option linter.all false
set_option maxRecDepth 100000
set_option maxHeartbeats 4000000
set_option compiler.extract_closed false
noncomputable section
abbrev am:=@List
abbrev a2:=@Option
open Option renaming some->ih,map->Zt,getD_none->ZK,none->aad
open PySem renaming Value->i',Str->Gv,Addr->Up,Shared->Ur,sizeLine->Us,wpAny->Ut,PyData->UH,model->UK,starEach->US,mainGlobals->UT,Stmt->U7,Expr->Vc,bootBuiltins->Vu,FuncData->Xt,compareOp->Xu,Heap->XD,Paired->XH,Program->XJ,Builtin->XM,World->XT,Str->XU,Around->XW,NameKind->XZ,binaryOp->X7,Value->X8,Obj->Ye,Within->Yh,IsItemIter->Yi,DictEntry->Yj,Addr->Yl,cLine->Ys,ExceptHandler->Yx,Scope->Yy,Sem->YK,SetTable->YL,Env->YT,IsPart->YV,Shared->YY,Result->Y4,Heap->Y8,frameOf->Y',Model->Zb,Fin->Zc,BindsTo->Zi,CmpOp->Zm,GenState->Zn,Pos->Zx,call->Zz,IsItemIterOut->ZC,ElemsOf->aan,World->aaq,Stmt->aay,Expr->aaz,Obj->aaR,Env->aaS,Operator->abk
open Sum renaming inr->F3,inl->Y0
open PySem.W renaming Frag->UI,emptyDict->Xz,findIn->XF,findIn->XN,instObj->XQ,fnOf->XR,Frag->X2,keepIn->X3,keepIn->Yb,codeIn->Yv,plainGet->YE,lookIn->YI,methodObj->YO,hasDictIn->YQ,takerIn->Y1,isFn->Za,plainOver->Zu,handedIn->ZE,Looks->ZH,makesIn->ZJ,OpenLaw->ZL
open PySem.Value renaming ref->UN,none->Vv,type->XS,isStrOf->Yc,bool->Yk,builtin->Yo,str->Yw,int->YG,isInt->Zp,float->Zq,isInt_shape->ZI,bytes->aap
open PySem.NameKind renaming free->UY,cell->Xy
open False renaming elim->U6
open PySem.PyData renaming str->Vh,depthAll->Vr,strOk->Xv,eqv->XA,canLayAll0->XI,depth->XX,eqvAll->Ya,leavesShortAll->Zg,showableAll->Zv,hasDictAll->ZF,bulkAll->ZM,bulk->aac
open True renaming intro->Vm
open List renaming range->Xs,lookup->Xx,replicate->X9,length->Yf,getD->Yz,nodup_range->ZO,getElem_inj->ZP,append_inj'->ZQ,range_succ->ZX,length_set->ZY,forIn_cons->ZZ,all_cons->aae,not_lt->aaB
open PySem.Obj renaming mapSeq->Xw,putSet->YW,mapFields->Zf
open ForInStep renaming yield->XB,done->abS
open PySem.Heap renaming SameBut->XC,FlyingW->X',get?->abm
open PySem.Txt renaming slice->XE,join->aab
open PySem.Builtin.List renaming listExtendWith->XG,listTooLong->X5,listLengthHint->YS,listSameRef->YZ
open PyProof.Rows renaming StrsAre->XY,IsTup->X6,AllBare->YH,IntsAre->Y7,Subscript_->Zo,lt_str->aa9,iadd_int->aba,floordiv_int->abb,Constant_none->abr
open PySem.Str renaming ofString->X0,empty->Zj,length->abl
open PySem.Builtin.Slice renaming slicePlaces->X1,sliceAdjust->Yq,sliceApplied->YR,slicePartIndex->aaN,sliceFields->aaO
open PySem.Builtin.Tuple renaming tupleExact->X4,tupleItemsOf->Ym
open PySem.Builtin.Dict_items renaming ownsTuple->Yd,ownedTupleIsFree->YB,ownedTupleFields->YC,pairFromOwner->YF,newIterator->ZS,dictOf->ZT
open Or renaming inr->Yg,inl->aam
open PySem.Builtin.Str renaming strSliceIndices->Yn,glued->abq
open PySem.SetTable.below renaming go->Yp
open List.Perm renaming swap->Yr,trans->abP,of_eq->abQ,map->abR
open PySem.SetTable renaming grown->Yt,below->Yu
open Int renaming toNat->YA,natCast_add->Z6
open PySem.Shared renaming TypeIs->YD
open List.Pairwise renaming nil->YJ,and_mem->aaM
open PySem.pickOrder renaming go->YM
open And renaming intro->YN
open PySem.Around renaming under->YU
open PySem.SeqAt renaming readOf->YX,list_indexAt->ZD,EqAt->aax
open PySem.Builtin.Dict renaming updateFrom->Y2,pairItems->Y3,showsAll->Y5,selfAndRest->abe,noArgs->abf,addKeywords->abg
open PySem.Heap.IsSliceOf renaming new->Y6
open Nat renaming strongRecOn->Y9,mod_eq_of_lt->ZU,min_eq_right->ZV,le_add_right->ZW,le_antisymm->Z5,le_of_eq->aaA
open PySem.SeqAt.EqAt renaming str_int->Zd,int_str->Ze,str_str->abu,str_none->abv,str_bool->abw,same->abx,none_str->aby,none_int->abz,none_bool->abA,int_none->abB,int_int->abC,int_bool->abD,bool_str->abE,bool_none->abF,bool_int->abG,bool_bool->abH
open PySem.Calls renaming callWith_builtin->Zh
open PySem.Code renaming isFrame->Zk,isGuard->aau,frames->aaC
open PySem.Heap.DictOf renaming new->Zl
open PySem.Heap.Ns1 renaming of_empty->Zr
open Classical renaming choose->Zs,not_forall->abU,choose_spec->abV
open PyProof.Rows.F renaming entry_set_update_loop->Zw
open PySem.Walks renaming list->Zy
open PySem.W.Looks renaming here->ZA,here->aaD
open PySem.F renaming slot_dict_items_iter->ZG,args_list_index_2->ZR,entry_list_index->Z0,slot_list_index->Z7,slot_dict_items->Z8,entry_list_pop->aaf,entry_any_loop->aag,slot_set_iter->aar,slot_list_pop->aas,plain_set_new->aat
open Prod.mk renaming injEq->ZN
open PySem.Builtin.Frozenset renaming updateFrom->Z1,slot0->Z2,sizeOf->Z3,newClass->Z4
open Array renaming mem_def->Z9,toList->aai,ext->aaT
open Std.Legacy.Range renaming size->Z',forIn_eq_forIn_range'->aaa
open Bool renaming and_true->aah,true_or->aaw
open PySem.Challenge renaming rw_parentlines_k48_whole_long_chains_come_h->aaj,pw_parentlines_k48_whole_long_chains_come_h->aak
open PySem.W.WShape renaming has->aao
open PySem.CmpOp renaming NotIn->aav,In->abo
open PySem.EqMixed renaming ne_str_int->aaE,ne_str_bool->aaF,ne_int_str->aaG,ne_bool_str->aaH,eq_str_int->aaI,eq_str_bool->aaJ,eq_int_str->aaK,eq_bool_str->aaL
open PySem.Builtin.Range renaming rangeSize->aaP
open PySem.W.WData renaming int->aaQ
open PySem.SeqAt.RcNeAt renaming tuples->aaU
open PySem.EqNone renaming ne_str_none->aaV,ne_none_str->aaW,ne_none_none->aaX,ne_none_int->aaY,ne_none_bool->aaZ,ne_int_none->aa0,ne_bool_none->aa1,eq_str_none->aa2,eq_none_str->aa3,eq_none_none->aa4,eq_none_int->aa5,eq_none_bool->aa6,eq_int_none->aa7,eq_bool_none->aa8
open List.Sublist renaming map->abc
open PySem.Heap.SameBut renaming refl->abd
open PySem.Flow renaming next->abn
open Option.some renaming injEq->abp
open Std.Legacy renaming Range->abt
open PySem.EntryCells renaming newEntry->abI
open PySem.Value.ref renaming inj->abM
open PySem.IsL renaming update->abN
open PySem.PassesOwn renaming leaving->abO
open PySem.DictEntry renaming refKey->abT
open PySem renaming wpAny_bind->ae,wpAny_pure->ao,sizeLine_eq->aX,wpAny_holding->d5,wpAny_newObj_type->fB,boot_len->gK,wpAny_setState_of->g4,wpAny_mono->hW,wpAny_call_entry->hY,codeAny_builtin->h3,wpAny_truthy_bool->iB,wpAny_askSetting->iE,wpAny_setField_rec->iI,wpAny_rule->jf,mem_of_lookup->jh,wpAny_typeOf->ji,plainId_quiet->jk,wpAny_standAt->j3,wpAny_call->j5,codeAny_mono->lz,wpAny_field->lB,wpAny_passesOwn->mR,call_meets->mS,wpAny_execs_nil->oN,wpAny_load->oO,wpAny_Call_Name_kw->oP,wpAny_pyIter_list->rZ,wpAny_callSpecial?_slot->r0,wpAny_loadPart_at->r1,wpAny_attempt->r5,wpAny_loadPart->wm,seqIndex_of->wx,codeAny_of_tree->wB,codeAny_call_builtin->wC,wpAny_getItem_str_slice->wG,post_val_or_str->wH,tupleKind_room_in1->wR,wpAny_throw->wU,wpAny_newList->wY,fits_of_scanBound->wZ,wpAny_pyIter_slot->w2,wpAny_typeNameOfWhole_itemiter->w5,wpAny_typeNameOf_itemiter->w6,wpAny_eqBool_str->FR,noFill_tuple_add->F4,seq_tuple_add->F5,evalPart_none->F9,wpAny_noRaise->Gf,wpAny_comprehension_free->Gg,typeLookup_type->Gq,builtinLookup_eq_fast->Gr,wpAny_runValue->Gy,isSubtype_type->Gz,wpAny_fieldsOf->GA,wpAny_isInstance->GB,wpAny_ite_split->GD,wpAny_updateSeq->GG,wpAny_dictEntries->GJ,wpAny_dictEpoch->GK,wpAny_isOneOf_itemiter->GL,plainObj_wpAny_Assign_Attribute->Uy,wpAny_getItem_list_slice->UJ,evalArgs_none->UL
open List renaming length_map->aE,mem_cons_self->aV,mem_map->aY,mem_cons_of_mem->a7,map_append->bc,mem_cons->bj,getElem?_eq_getElem->bz,getElem?_eq_some_iff->bR,map_cons->bU,size_toArray->bW,mem_singleton->bX,mem_append->cj,length_take->cz,length_append->cL,take_length->cM,length_cons->cS,mem_of_getElem?->di,nodup_cons->dM,getElem?_map->dQ,take_succ->dX,append_nil->ee,lookup_cons->ef,mem_filter->er,nodup_append->eu,mem_append_right->eV,nodup_nil->fE,filter_append->f7,getElem_mem->gj,getD_eq_getElem?_getD->gk,length_filter_le->gm,map_map->gJ,mem_append_left->gY,take_sublist->iD,length_nil->iF,mem_range->je,any_cons->jj,length_reverse->jl,not_mem_nil->jm,filter_cons->jq,mem_reverse->jr,length_drop->j7,map_nil->lC,append_assoc->lD,drop_eq_getElem_cons->lF,any_eq_true->lG,map_drop->lK,mem_flatMap->lL,length_singleton->mT,all_eq_true->mV,eq_nil_of_length_eq_zero->mW,nodup_iff_pairwise_ne->mY,filter_cons_of_pos->mZ,mem_filterMap->oM,find?_cons->oT,length_pos_iff->oW,filter_nil->oZ,filter_cons_of_neg->o1,mem_of_mem_take->o2,flatMap_cons->o3,flatMap_append->o4,getElem?_reverse->o5,reverse_perm->o6,drop_of_length_le->r7,map_congr_left->se,pairwise_map->sf,take_of_length_le->sh,mem_of_mem_drop->si,head?_map->sk,length_replicate->wu,any_map->wK,getElem_of_mem->wM,drop_zero->wN,getElem_toArray->wO,cons_append->wQ,getElem?_eq_none->wW,take_append_drop->wX,mem_iff_getElem->w4,sum_cons->w7,drop_length->w8,filter_eq_self->yZ,map_take->zZ,reverse_append->Aa,reverse_eq_nil_iff->Ab,map_eq_nil_iff->Ac,filterMap_cons->FT,getElem?_set_self->FU,getElem?_set_ne->FV,any_eq_false->FY,of_mem_zip->F1,getElem?_append_left->F2,reverse_cons->Gb,length_dropLast->Gd,lookup_append->Ge,length_range->Gi,length_erase_of_mem->Gj,length_pos_of_mem->Gk,mem_erase_of_ne->Gm,ext_getElem->Gu,length_eq_one_iff->GO,replicate_succ'->GU,getElem_idxOf->GY,map_reverse->GZ,append_eq_nil_iff->G0,getElem?_append_right->UE,eraseIdxIfInBounds_toArray->UM,length_eraseIdx->UZ,getElem?_inj->U8,length_eq_zero_iff->Va,cons_lt_cons_iff->Vi,countP_eq_length_filter->Vj,perm_ext_iff_of_nodup->Vk,drop_sublist->Vl,prefix_cons_inj->Vq,idxOf_lt_length_of_mem->Vs,getLast?_cons_cons->Vt,dropLast_concat_getLast->Vw
open Ne renaming symm->aP
open Nat renaming le_refl->aU,zero_le->bx,ne_of_lt->bI,le_trans->et,lt_of_lt_of_le->eU,le_succ->gg,lt_irrefl->iA,ne_of_gt->jg,lt_succ_self->j4,lt_trans->lE,lt_succ_of_lt->lJ,not_lt_zero->oU,le_of_lt->rY,sub_zero->r9,add_mul->sj,mod_lt->w0,lt_of_succ_lt_succ->w1,min_eq_left->xZ,not_lt->Gp,le_succ_of_le->Gw,le_of_succ_le->UR
open PySem.Heap renaming get?_push_of_some->a8,lt_size->bt,get?_push_size->b5,size_push->hX,get?_update_other->j8,get?_update_self->oR,get?_none_of_le->wk
open Bool renaming false_ne_true->b9,and_eq_true->hZ,eq_iff_iff->ly,and_eq_true_iff->mU,false_eq_true->wz,or_false->Ga,false_or->Gn
open Option.some renaming inj->cZ
open PySem.PassesOwn renaming never->eL
open PySem.Paired renaming length->ff,snoc->lH
open Array renaming length_toList->fA,getD_eq_getD_getElem?->iH,getElem?_eq_getElem->mX,getElem?_toList->oS,size_append->r6,getElem?_eq_none->sd,toList_inj->wI,getElem?_eq_some_iff->wJ,find?_toList->Uv,mem_of_getElem?->UU,perm_iff_toList_perm->UW,toList_push->UX
open Option renaming map_eq_some_iff->gi,map_some->rX,isSome_map->r8,isSome_iff_exists->wq,bind_some->wF,map_map->w9,isSome_some->UO
open Sum.inr renaming inj->gH
open Int renaming toNat_natCast->gI,eq_ofNat_of_zero_le->m1,emod_nonneg->GQ,emod_lt_of_pos->GS,fdiv_eq_ediv_of_nonneg->Uu,lt_of_lt_of_le->Vf
open PySem.F renaming plainAttrs_list->h6,called_set->lI,slot_list_append->oX,type_list_append->oY,store_object->r4,slot_dict_itemiterator_next->sg,plain_any_loop->wL,plain_list_iadd->w3,slot_tuple_add->F6,entry_tuple_add->F7,args_tuple_add_2->F8,slot_tuple_getattribute->Gs,slot_list_pop->GV,type_list_pop->GW,attrBase_ValueError->UP,excBase_ValueError->UQ,plain_extend_loop->U1,entry_proto_collect->U2,plain_proto_collect->U3,entry_list_iadd->U4,slot_tuple_index->U9,entry_dict_itemiterator_next->Vd,args_dict_itemiterator_next_1->Ve,slot_list_index->Vn,type_list_index->Vo
open PySem.W renaming kia_one->iC,mg_of->jo,any_some->r3,looks_mroIn->wD,plainGet_of->FZ,callWith_K->F0,set_plain->Uw,kitx_list->Uz,kitx_dict->UB,methodCall_KW->UC,cellsFrom_some->UD
open PySem.Around renaming under_plainId->iG
open List.Perm renaming refl->j9,append_left->U0
open Prod renaming ext->lA
open PyProof.Rows renaming slot_tuple_getitem->oQ,assignInOrder_cons->FW,callWith_type1->FX,callWith_builtin1->UG
open PySem.Heap.SameBut renaming update->sb
open PySem.Heap.UpToSlots renaming trans->wV
open PySem.Value renaming isStrOf_shape->FQ
open PySem.Code renaming quiet_builtin->Gh
open PyProof.Rows.F renaming plain_set_update_loop->Gx
open List.cons renaming inj->GX
open PySem.SeqAt renaming eqv_refl->G2
open PySem.Calls renaming Name_function_global->Uq,call_function_entry->U5
open PySem.Within renaming cons->Ux
open PySem.AutoSeq1 renaming wpAny_loadPart'->Vb
open List.Pairwise renaming map->Vg
def aq:=@if_neg
def ay:=@if_pos
def cc:=@decide_eq_true
def c6:=@congrArg
def df:=@beq_iff_eq
def d4:=@decide_eq_false
def eg:=@of_decide_eq_true
def gZ:=@if_true
def iz:=@beq_eq_false_iff_ne
def jn:=@or_false
def j6:=@if_false
def oV:=@not_or
def wy:=@beq_self_eq_true
def z':=@Nat.mul_le_mul
def F':=@PySem.slot_list_getitem
def U':=@Nat.lt_of_le_of_lt
def Vp:=@not_false_eq_true
variable{us its:am X8}{x n name qual q cn wh:XU}{u cd Qc pm Qa ct oc vl vu dv:X8}{a b l it D p C f R sl B fI d I fL fD fM tt fN fC ow fS fT M:Yl}{o ox ol:aaR}{i t' j n1 ep U:Nat}{h h' g base h0:Y8}{items:Array X8}{P prog:PySem.Program}{w:aaq}{e c tg iter value Qm:aaz}{L Ps:XU->List XU}{J:am (Yl×aaR)}{s s' s1 s2:YY}{ch fp:am Yl}{N ys ns ps Qq N' ks r line NU rn rl:am XU}{A:PySem.Around}{E:X8->YY->Prop}{pos Qf Qh tp:PySem.Pos}{K:UI}{st:aay}{es Qe Qu:am aaz}{body:am aay}{lo m z bg bh:Int}{dx an od:a2 Yl}{mA mg:XU->Option X8}{Qr:Bool}{kw:am (XU×X8)}{env:aaS}{outer:am aaS}{fd dL dD dI dN dC dS dT dR:PySem.FuncData}{kindOf:XU->Option PySem.NameKind}{sc scope:PySem.Scope}{Ql:Array (Option X8)}{T:String}{hi:a2 Int}{XP:(XU->Option X8)->Y8->Prop}{YP:aaq->Y8->Prop}{cells:am (XU×Yl)}{Qd:am (Option Nat)}{tn:Nat->Y8->Prop}{RR:X8->Yl->PySem.Result->YY->Prop}{tk:PySem.Tok}{rest rows:am (List XU)}{av:Yl->Prop}{Qb:am (XU×List XU)}{dn:XU->Bool}
open PySem
namespace L2
open Spec PyProof.Rows
abbrev Key:=Sum Int Gv
def mr:Key->i'->Bool
 |.inl k,v=>Zp k v
 |.inr x,v=>Yc x v
def Oy(w:XT):Key->Int
 |.inl k=>hashInt k
 |.inr x=>hashStr w x
theorem iJ:∀{k:Key}{v:i'},mr k v=true->(∃i t,k=Y0 i/\v=YG i t)\/(∃x t,k=F3 x/\v=Yw x t)
 |.inl i,v,h=>by
  obtain⟨t,e⟩:=ZI (k:=i) (v:=v) h;exact .inl ⟨i,t,rfl,e⟩
 |.inr x,v,h=>by
  obtain⟨t,e⟩:=FQ (x:=x) (v:=v) h;exact .inr ⟨x,t,rfl,e⟩
theorem IK(i:Int)(t:Tok):mr (.inl i) (.int i t)=true:=by simp[mr,Zp]
theorem IL(x:Gv)(t:Tok):mr (.inr x) (.str x t)=true:=by simp[mr,Yc]
theorem Mf(a b:Int):decide ((Y0 a:Key)=Y0 b)=(a==b):=by
 by_cases e:a=b
 ·subst e;simp
 ·have h : ¬ (Y0 a:Key)=Y0 b:=λq=>e (Sum.inl.inj q)
  rw[d4 h];exact(iz.mpr e).symm
theorem Mg(a b:Gv):decide ((F3 a:Key)=F3 b)=decide (a=b):=by
 by_cases e:a=b
 ·subst e;simp
 ·have h : ¬ (F3 a:Key)=F3 b:=λq=>e (gH q)
  rw[d4 h,d4 e]
theorem Mh(a:Int)(b:Gv):decide ((Y0 a:Key)=F3 b)=false:=d4 (λq=>nomatch q)
theorem Mi(a:Gv)(b:Int):decide ((F3 a:Key)=Y0 b)=false:=d4 (λq=>nomatch q)
def cT(prog:XJ)(w:XT):PySem.KeyKind prog w Key where
 is:=mr
 hash:=Oy w
 inj:=λv a b ha hb=>by
  rcases iJ ha with⟨i,t,rfl,rfl⟩|⟨x,t,rfl,rfl⟩
  ·rcases iJ hb with⟨j,u,rfl,e⟩|⟨y,u,rfl,e⟩
   ·injection e with e1 _;rw[e1]
   ·exact nomatch e
  ·rcases iJ hb with⟨j,u,rfl,e⟩|⟨y,u,rfl,e⟩
   ·exact nomatch e
   ·injection e with e1 _;rw[e1]
 byValue:=λk v h=>by
  rcases iJ h with⟨i,t,rfl,rfl⟩|⟨x,t,rfl,rfl⟩ <;> rfl
 pyHash:=λhv h=>by
  rcases iJ hv with⟨i,t,rfl,rfl⟩|⟨x,t,rfl,rfl⟩
  ·exact wpAny_pyHash_int h
  ·exact wpAny_pyHash_str h
 eqBool:=λhu hv h=>by
  rcases iJ hu with⟨i,t,rfl,rfl⟩|⟨x,t,rfl,rfl⟩
  ·rcases iJ hv with⟨j,u,rfl,rfl⟩|⟨y,u,rfl,rfl⟩
   ·rw[Mf]at h;exact wpAny_eqBool_int h
   ·rw[Mh]at h;exact Ze i t y u _ _ _ _ h
  ·rcases iJ hv with⟨j,u,rfl,rfl⟩|⟨y,u,rfl,rfl⟩
   ·rw[Mi]at h;exact Zd x t j u _ _ _ _ h
   ·rw[Mg]at h;exact FR h
 «strs» :=λk x t v h=>by
  rcases iJ h with⟨i,u,rfl,e⟩|⟨y,u,rfl,e⟩
  ·exact nomatch e
  ·injection e with e1 _
   subst e1;cases v <;> rfl
theorem Hw(prog:XJ)(w:XT)(i:Int)(t:Tok):(cT prog w).is (.inl i) (.int i t)=true:=IK i t
theorem Hx(prog:XJ)(w:XT)(x:Gv)(t:Tok):(cT prog w).is (.inr x) (.str x t)=true:=IL x t
inductive V where
 |aO|bl (b:Bool)|int (i:Int)|str (x:Gv)|f6 (b:Array UInt8)|jR (b:UInt64)|ref (a:Up)|ty (n:String)
 deriving DecidableEq
def RelV:V->i'->Prop
 |.aO,u=>u=Vv
 |.bl b,u=>u=Yk b
 |.int i,u=>∃t,u=YG i t
 |.str x,u=>∃t,u=Yw x t
 |.f6 b,u=>∃t,u=aap b t
 |.jR b,u=>∃t,u=Zq b t
 |.ref a,u=>u=UN a
 |.ty n,u=>u=XS n
abbrev Vals:List V->List i'->Prop:=XH RelV
theorem Vals.length{xs:am V}(r:Vals xs us):xs.length=us.length:=ff r
theorem Vals.get:∀{xs:am V}{us:am i'}{i:Nat}{x:V},Vals xs us->xs[i]?=ih x ->∃u,us[i]?=ih u/\RelV x u
 |_,_,_,_,.nil,e=>by simp at e
 |_,_,0,_,.cons r _,e=>by simp at e;subst e;exact⟨_,rfl,r⟩
 |_,_,i+1,x,.cons _ t,e=>by
  obtain⟨u,h1,h2⟩:=Vals.get (i:=i) (x:=x) t (by simpa using e)
  exact⟨u,by simpa using h1,h2⟩
theorem Vals.set{x:V}{u:i'}(r:RelV x u):∀{xs:am V}{us:am i'} (i:Nat),Vals xs us->Vals (xs.set i x) (us.set i u)
 |_,_,_,.nil=>.nil
 |_,_,0,.cons _ t=>.cons r t
 |_,_,i+1,.cons q t=>.cons q (Vals.set r i t)
theorem Vals.append:∀{xs ys:am V}{us ws:am i'},Vals xs us->Vals ys ws->Vals (xs++ys) (us++ws)
 |_,_,_,_,.nil,s=>s
 |_,_,_,_,.cons r t,s=>.cons r (Vals.append t s)
theorem Vals.take:∀{xs:am V}{us:am i'} (n:Nat),Vals xs us->Vals (xs.take n) (us.take n)
 |_,_,0,_=>.nil
 |_,_,_+1,.nil=>.nil
 |_,_,n+1,.cons r t=>.cons r (Vals.take n t)
theorem Vals.drop:∀{xs:am V}{us:am i'} (n:Nat),Vals xs us->Vals (xs.drop n) (us.drop n)
 |_,_,0,r=>r
 |_,_,_+1,.nil=>.nil
 |_,_,n+1,.cons _ t=>Vals.drop n t
def d7:Option V->Option i'->Prop
 |some v,ih u=>RelV v u
 |none,none=>True
 |_,_=>False
def KV{κ:Type}:List (κ×V)->List (κ×i')->Prop:=XH λ(p:κ×V) (q:κ×i')=>p.1=q.1/\RelV p.2 q.2
def kV:Key->V
 |.inl i=>.int i
 |.inr x=>.str x
inductive HO where
 |lst (xs:List V)
 |tup (xs:List V)
 |dK (kvs:List (Key×V))|dT (kvs:List (List Key×V))
 |set (S:Int->Bool) (n:Nat)
 |ins (C dx:Up) (fs:List (Gv×V))
 |own (x:Up)
 |xd (fs:List (Gv×V))
 |met (f x:Up)
 |oA (lo hi:Int)
 |bT (o:Ye) (u:HO)
 |i9 (ps:Array i')
 |ext (φ:XD->Prop)
abbrev bn(x:List V):Option HO:=ih (.tup x)
abbrev ce(x:List V):Option HO:=ih (.lst x)
abbrev cr(x:List (Key×V)):Option HO:=ih (.dK x)
abbrev ev(x:List (List Key×V)):Option HO:=ih (.dT x)
abbrev bd(x:Up):Option V:=ih (.ref x)
abbrev Hp:=Up->Option HO
def upd(H:Hp)(a:Up)(o:HO):Hp:=λb=>if b=a then ih o else H b
theorem ah{H:Hp}{o:HO}:upd H a o a=ih o:=by unfold upd;rw[ay rfl]
theorem ag{H:Hp}{o:HO}(h:b≠a):upd H a o b=H b:=by unfold upd;rw[aq h]
theorem fg{H:Hp}{o u:HO}:upd (upd H a o) a u=upd H a u:=by
 funext b;unfold upd;split <;> rfl
theorem pZ{l:am Gv}{x:V}(h:(l.map V.str)[i]?=ih x):∃h:i<l.length,V.str l[i]=x:=by
 have a:i<l.length:=by simpa using (bR.mp h).1
 exact⟨a,by simpa [a] using h⟩
theorem ar{H:Hp}{o u:HO}(h:H a=ih o)(h':H b=ih u)(d:o≠u:=by intro z;cases z):a≠b:=by
 intro e;subst e;rw[h]at h';exact d (cZ h')
theorem aA{H:Hp}{o:HO}(h:H a=ih o)(h':H b=none):a≠b:=by
 intro e;subst e;rw[h]at h';cases h'
def iZ(h:XD)(a:Up)(items:Array i'):Prop:= ∃o,h.get? a=ih o/\o.cls=.type "tuple" /\∃n,o.data=.seq items n/\o.dict=none
theorem iZ.is(x:iZ h a items):X6 h a items:=let ⟨o,e,c,n,d,_⟩:=x;⟨o,e,c,n,d⟩
theorem iZ.new(h:XD)(items:Array i'):iZ (h.push { cls:=.type "tuple",data:=.seq items }) h.objs.size items:=⟨_,b5 _ rfl,rfl,_,rfl,rfl⟩
section
variable(P:XJ)(w:XT)
def bH(H:Hp)(h:XD)(a:Up):HO->Prop
 |.lst xs=>xs.length<=Us /\∃(its:List i') (n:Nat),Vals xs its/\h.get? a=ih { cls:=.type "list",data:=.seq its.toArray n }
 |.tup xs=>xs.length<=Us /\∃its:List i',Vals xs its/\iZ h a its.toArray
 |.dK kvs=>kvs.length<=Us/\(a==sysModules)=false /\∃vs,KV kvs vs/\h.DictOf (cT P w) a vs
 |.dT kvs=>kvs.length<=Us/\(a==sysModules)=false /\∃xs:List (List Key×Up×i'),
   XH (λ(p:List Key×V) (q:List Key×Up×i')=>p.1=q.1/\H q.2.1=ih (.tup (p.1.map kV))/\RelV p.2 q.2.2) kvs xs /\
   ∃o es ep,h.get? a=ih o/\o.ExactDict/\o.data=.dict es ep/\es.toList=xs.map (entryOfKey (tupleKind (cT P w)))/\(xs.map (·.1)).Nodup
 |.set S n=>h.SetOf (intKind P w) a S n
 |.ins C dx fs=>H dx=ih (.own a)/\fs.length<=1000/\dx≠a/\h.get? a=ih (XQ C dx) /\
   ∃mA,h.Ns1 dx mA/\(∀f,d7 (fs.lookup f) (mA f))/\Yh mA (fs.map (·.1))
 |.own _=>∃o,h.get? a=ih o
 |.xd fs=>∃mA,h.Ns1 a mA /\∀f,d7 (fs.lookup f) (mA f)
 |.oA lo hi=>∃t u v,h.get? a=ih { cls:=.type "range",data:=.fields #[.int lo t,.int hi u,.int 1 v] }
 |.bT o u=>h.get? a=ih o/\bH H h a u
 |.i9 ps=>h.get? a=ih { cls:=.none,data:=.fields ps }
 |.met f x=>h.get? a=ih (YO (.ref f) (.ref x))
 |.ext φ=>φ h/\(∃o,h.get? a=ih o) /\∀h1 h2:XD,φ h1->(∀o,h1.get? a=ih o->h2.get? a=ih o)->φ h2
def cx(H:Hp)(h:XD):Prop:= ∀a o,H a=ih o->bH P w H h a o
end
section
variable{H H':Hp}{o:HO}
theorem bH.lt(x:bH P w H h a o):a<h.objs.size:=by
 cases o with
 |lst xs=>obtain⟨_,_,_,_,e⟩:=x;exact bt e
 |tup xs=>obtain⟨_,_,_,p⟩:=x;exact p.is.lt
 |dK kvs=>obtain⟨_,_,_,_,o,_,_,e,_⟩:=x;exact bt e
 |dT kvs=>obtain⟨_,_,_,_,o,_,_,e,_⟩:=x;exact bt e
 |set S n=>obtain⟨o,_,_,_,e,_⟩:=x;exact bt e
 |ins C dx fs=>obtain⟨_,_,_,e,_⟩:=x;exact bt e
 |own y=>obtain⟨_,e⟩:=x;exact bt e
 |xd fs=>obtain⟨_,⟨_,_,_,e,_⟩,_⟩:=x;exact bt e
 |oA lo hi=>obtain⟨_,_,_,e⟩:=x;exact bt e
 |bT b u=>obtain⟨e,_⟩:=x;exact bt e
 |i9 ps=>exact bt (show h.get? a=ih _ from x)
 |met f y=>exact bt (show h.get? a=ih _ from x)
 |ext c=>obtain⟨_,⟨_,e⟩,_⟩:=x;exact bt e
theorem Paired.qN{α β:Type}{F G:α->β->Prop}:∀{c:am α}{d:am β},XH F c d->(∀a b,F a b->G a b)->XH G c d
 |_,_,.nil,_=>.nil
 |_,_,.cons r t,f=>.cons (f _ _ r) (Paired.qN t f)
theorem Paired.imp'{α β:Type}{F G:α->β->Prop}(f:∀a b,F a b->G a b){c:am α}{d:am β}(r:XH F c d):XH G c d:=Paired.qN r f
theorem bH.e4(x:bH P w H h a o)(k:∀b u,(b=a\/H b=ih (.own a))->h.get? b=ih u->h'.get? b=ih u)
  (i:∀b,H b=ih (.own a)->H' b=ih (.own a)) (j:∀b xs,H b=bn xs->H' b=bn xs):bH P w H' h' a o:=by
 induction o with
 |lst xs=>obtain⟨z,its,n,r,e⟩:=x;exact⟨z,its,n,r,k _ _ (.inl rfl) e⟩
 |tup xs=>obtain⟨z,its,r,g,e,c⟩:=x;exact⟨z,its,r,g,k _ _ (.inl rfl) e,c⟩
 |dK kvs=>obtain⟨z,y,vs,r,g,es,ep,e,c⟩:=x;exact⟨z,y,vs,r,g,es,ep,k _ _ (.inl rfl) e,c⟩
 |dT kvs =>
  obtain⟨z,y,xs,r,g,es,ep,e,c⟩:=x;exact⟨z,y,xs,Paired.qN r λp q z=>⟨z.1,j _ _ z.2.1,z.2.2⟩,g,es,ep,k _ _ (.inl rfl) e,c⟩
 |set S n=>obtain⟨g,es,ep,t,e,c⟩:=x;exact⟨g,es,ep,t,k _ _ (.inl rfl) e,c⟩
 |ins C dx fs =>
  obtain⟨d,z,ne,e,mA,⟨od,es,ep,e2,c⟩,r⟩:=x;exact⟨i _ d,z,ne,k _ _ (.inl rfl) e,mA,⟨od,es,ep,k _ _ (.inr d) e2,c⟩,r⟩
 |own y=>obtain⟨g,e⟩:=x;exact⟨g,k _ _ (.inl rfl) e⟩
 |xd fs=>obtain⟨mA,⟨od,es,ep,e,c⟩,r⟩:=x;exact⟨mA,⟨od,es,ep,k _ _ (.inl rfl) e,c⟩,r⟩
 |oA lo hi=>obtain⟨t,u,v,e⟩:=x;exact⟨t,u,v,k _ _ (.inl rfl) e⟩
 |bT g u l=>obtain⟨e,q⟩:=x;exact⟨k _ _ (.inl rfl) e,l q⟩
 |i9 ps =>
  have e:h.get? a=ih { cls:=.none,data:=.fields ps }:=x;show h'.get? a=ih { cls:=.none,data:=.fields ps };exact k a _ (.inl rfl) e
 |met f y =>
  have e:h.get? a=ih (YO (.ref f) (.ref y)):=x;show h'.get? a=ih (YO (.ref f) (.ref y));exact k a _ (.inl rfl) e
 |ext m=>obtain⟨p,⟨o,e⟩,st⟩:=x;exact⟨st _ _ p λo q=>k _ _ (.inl rfl) q,⟨o,k _ _ (.inl rfl) e⟩,st⟩
theorem cx.lt(x:cx P w H h)(e:H a=ih o):a<h.objs.size:=(x a o e).lt
theorem cx.fresh(x:cx P w H h)(e:h.objs.size<=a):H a=none:=by
 cases q:H a with
 |none=>rfl
 |some u=>exact absurd (eU (x.lt q) e) (iA _)
theorem cx.kept(x:cx P w H h)(k:∀b u,h.get? b=ih u->h'.get? b=ih u):cx P w H h':=λa o e =>
 (x a o e).e4 (λb u _ q=>k b u q) (λ_ q=>q) λ_ _ q=>q
theorem cx.laid(x:cx P w H h)(k:∀b u,h.get? b=ih u->h'.get? b=ih u)(g:h.objs.size<=a)(new:bH P w (upd H a o) h' a o):cx P w (upd H a o) h':=λb u e=>by
 have d:=x.fresh g
 by_cases f:b=a
 ·subst f;rw[ah]at e;cases e;exact new
 ·rw[ag f]at e
  exact(x b u e).e4 (λc v _ q=>k c v q) (λc q=>by rw[ag (aA q d)];exact q) λc xs q=>by rw[ag (aA q d)];exact q
end
def Rd(H:Hp)(a:Up)(u:HO):Prop:=H a=ih u \/∃o,H a=ih (.bT o u)
theorem Rd.of{H:Hp}{u:HO}(h:H a=ih u):Rd H a u:=.inl h
theorem Rd.ok{H:Hp}{u:HO}(r:Rd H a u)(x:cx P w H h):bH P w H h a u:=by
 rcases r with r|⟨o,r⟩
 ·exact x a u r
 ·obtain⟨_,q⟩:=x a _ r
  exact q
def oB:Option HO->Prop
 |some (.lst _)=>True
 |some (.dK _)=>True
 |some (.dT _)=>True
 |some (.set _ _)=>True
 |some (.ins _ _ _)=>True
 |some (.ext _)=>True
 |_=>False
section
variable{H:Hp}{x e:Up}{o':HO}
theorem cx.write(ok:cx P w H h)(d:oB (H x))(i:e=x\/H e=ih (.own x))(k:∀b u,b≠e->h.get? b=ih u->h'.get? b=ih u)(m:∃u,h'.get? e=ih u)
  (new:bH P w (upd H x o') h' x o'):cx P w (upd H x o') h':=λb u q=>by
 have g:∀c y,H c=ih (.own y)->c≠x:=λc y r z=>by subst z;rw[r]at d;exact d
 have l:∀c xs,H c=bn xs->c≠x:=λc xs r z=>by subst z;rw[r]at d;exact d
 by_cases f:b=x
 ·subst f;rw[ah]at q;cases q;exact new
 ·rw[ag f]at q
  by_cases a:b=e
  ·have j:H b=ih (.own x):=by
    rcases i with z|z
    ·exact absurd (a.trans z) f
    ·rw[a];exact z
   rw[q]at j;cases j;obtain⟨v,hv⟩:=m;exact⟨v,by rw[a];exact hv⟩
  ·refine(ok b u q).e4 (λc v hc r=>k c v ?_ r) (λc r=>by rw[ag (g c b r)];exact r) λc xs r=>by rw[ag (l c xs r)];exact r
   rcases hc with rfl|hc
   ·exact a
   ·rintro rfl
    rcases i with z|z
    ·exact g c b hc z
    ·rw[hc]at z;cases z;exact f rfl
end
structure Un(fs ex:List Up)(H H':Hp)(h h':XD):Prop where
 keep:∀b o,h.get? b=ih o->H b=none->b ∉ fs->b ∉ ex->h'.get? b=ih o
 slot:∀b o,h.get? b=ih o->H b=none->b∈fs->b ∉ ex ->∃sl,h'.get? b=ih { o with slots:=sl }
 free:∀b o,h.get? b=ih o->H b=none->b ∉ ex->H' b=none
 there:∀b o,h.get? b=ih o->b ∉ ex ->∃o',h'.get? b=ih o'
 gQ:∀b xs,H b=ih (.tup xs)->H' b=ih (.tup xs)
 gR:∀b o u,H b=ih (.bT o u)->H' b=ih (.bT o u)
 hG:∀b ps,H b=ih (.i9 ps) ->∃Oz,H' b=ih (.i9 (ps++Oz))
section
variable{fs Qn ex Q5:am Up}{H Y H2:Hp}{h1 h2:XD}{x e:Up}{o:HO}
theorem Un.any(u:Un fs ex H Y h h1){a:Ye}(q:h.get? b=ih a)(n:H b=none)(c:b ∉ ex):∃sl,h1.get? b=ih { a with slots:=sl }:=by
 by_cases d:b∈fs
 ·exact u.slot b a q n d c
 ·exact⟨a.slots,u.keep b a q n d c⟩
theorem Un.kept(k:∀b u,h.get? b=ih u->h'.get? b=ih u):Un fs ex H H h h':=
 ⟨λb a q _ _ _=>k b a q,λb a q _ _ _=>⟨a.slots,k b a q⟩,λ_ _ _ n _=>n,λb a q _=>⟨a,k b a q⟩,λ_ _ q=>q,λ_ _ _ q=>q,λ_ ps q=>⟨#[],by rw[q];simp⟩⟩
theorem Un.refl:Un fs ex H H h h:=Un.kept λ_ _ q=>q
theorem Un.laid(k:∀b u,h.get? b=ih u->h'.get? b=ih u)(d:h.objs.size<=a)(c:H a=none):Un fs ex H (upd H a o) h h' where
 keep:=λb u q _ _ _=>k b u q
 slot:=λb u q _ _ _=>⟨u.slots,k b u q⟩
 free:=λb u q n _=>by rw[ag (bI (eU (bt q) d))];exact n
 there:=λb u q _=>⟨u,k b u q⟩
 gQ:=λb xs q=>by rw[ag (aA q c)];exact q
 gR:=λb u xs q=>by rw[ag (aA q c)];exact q
 hG:=λb ps q=>⟨#[],by rw[ag (aA q c),q];simp⟩
theorem Un.write(a:oB (H x))(j:e=x\/H e=ih (.own x))(k:∀b u,b≠e->h.get? b=ih u->h'.get? b=ih u)(i:∃u,h'.get? e=ih u):Un fs ex H (upd H x o) h h':=by
 have f:∀b,H b=none->b≠x:=λb n z=>by subst z;rw[n]at a;exact a
 have g:∀b,H b=none->b≠e:=λb n z=>by
  subst z;rcases j with r|r
  ·exact f b n r
  ·rw[n]at r;cases r
 have c:∀b u,H b=ih u ->¬ oB (ih u)->b≠x:=λb u q l z=>by subst z;rw[q]at a;exact l a
 refine⟨λb u q n _ _=>k b u (g b n) q,λb u q n _ _=>⟨u.slots,k b u (g b n) q⟩,λb u q n _=>by rw[ag (f b n)];exact n,λb u q _=>?_,
  λb xs q=>by rw[ag (c b _ q λz=>z)];exact q,λb u xs q=>by rw[ag (c b _ q λz=>z)];exact q,λb ps q=>⟨#[],by rw[ag (c b _ q λz=>z),q];simp⟩⟩
 by_cases d:b=e
 ·subst d;exact i
 ·exact⟨u,k b u d q⟩
end
def gU(h:XD)(H:Hp):List Up:=(Xs h.objs.size).filter λa=>(H a).isSome
def i0(h:XD)(H:Hp):XD:=PySem.W.hideAll h (gU h H)
theorem IM(h:XD)(H:Hp):(i0 h H).objs.size=h.objs.size:=PySem.W.hideAll_size _ _
theorem JB{H:Hp}(e:h.get? b=ih o)(n:H b=none):(i0 h H).get? b=ih o:=
 PySem.W.hideAll_get _ e λa=>by
  have q:(H b).isSome=true:=(er.mp a).2;rw[n]at q;simp at q
theorem K0{H:Hp}(e:(i0 h H).get? b=ih o):h.get? b=ih o/\H b=none:=by
 have a:h.get? b=ih o:=PySem.W.of_hideAll (gU h H) e;refine⟨a,?_⟩;cases q:H b with
 |none=>rfl
 |some x =>
  have c:b∈gU h H:=er.mpr ⟨je.mpr (bt a),by simp[q]⟩
  have z:(i0 h H).get? b=none:=PySem.W.hideAll_none (gU h H) c;rw[z]at e;cases e
def tQ(g h:XD)(L:Up):List (Up×Ye):=(Xs h.objs.size).filterMap λa=>if a=L\/(g.get? a).isSome=true then none else (h.get? a).map λo=>(a,o)
theorem An{L:Up}(h1:a≠L)(h2:g.get? a=none)(b:h.get? a=ih o):(a,o)∈tQ g h L:=
 oM.mpr ⟨a,je.mpr (bt b),by simp[h1,h2,b]⟩
theorem sq{L:Up}{p:Up×Ye}(c:p∈tQ g h L):p.1≠L/\g.get? p.1=none/\h.get? p.1=ih p.2:=by
 obtain⟨b,_,e⟩:=oM.mp c;split at e
 ·cases e
 ·rename_i a
  cases q:h.get? b with
  |none=>rw[q]at e;simp at e
  |some u =>
   rw[q]at e;simp only[rX,abp]at e;subst e;refine⟨λz=>a (.inl z),?_,q⟩;show g.get? b=none;cases r:g.get? b with
   |none=>rfl
   |some v=>exact(a (.inr (by simp[r]))).elim
theorem JC{L:Up}:News g L h (tQ g h L):=λp d=>let ⟨a,b,c⟩:=sq d;⟨c,a,b⟩
structure Mod(K:UI)(mg:Gv->Option i')(base:XD):Prop where
 lb:K.In base
 glob:base.Ns UT mg
 blt:∃mb,base.Ns builtinsNs mb /\∀x:Gv,x ≠ "__name__" -> mb x=Vu x
 nolimit:base.NoLimit
structure Cx where
 prog:XJ
 w:XT
 K:UI
 mg:Gv->Option i'
 base:XD
 A:XW
 N:List Gv
 d0:Ur
 ij:Hp
 env:YT
 outer:List YT
 stack:List YT
 ex:List Up
 fn:Gv->Bool
 calm:Bool
 pn:List (Up×Ye)
 xe:i'->Ur->Prop
abbrev Cx.c'(X:Cx):=UK X.prog X.w
abbrev wA{α:Type}(X:Cx):=Ut (α:=α) X.c' X.A
end L2
abbrev PySem.Shared.aj(s:YY):Yl:=s.heap.objs.size
namespace L2
open Spec PyProof.Rows W
def d3(l:List YT):List Up:=l.filterMap (·.frame)
abbrev Cx.fs(X:Cx):List Up:=d3 X.outer
def vJ(sc:Yy)(x:Gv):Prop:=sc.names.lookup x=ih .local\/sc.names.lookup x=ih .cell\/sc.names.lookup x=ih .free
def Loc(sc:Yy)(x:Gv):Prop:=sc.names.lookup x=ih .local\/sc.names.lookup x=ih .cell
def Look(env:YT)(h:XD)(m:Gv->Option i')(x:Gv)(u:i'):Prop:=
 (env.kindOf x=ih .local/\m x=ih u)\/((env.kindOf x=ih .cell\/env.kindOf x=ih .free) /\∃c,env.cells.lookup x=ih c/\h.IsCell c (ih u))
structure Cx.Ok(X:Cx):Prop where
 mod:Mod X.K X.mg X.base
 kind:X.env.scope.kind=.function
 glob:X.env.globals=UT
 blt:X.env.builtins=builtinsNs
 above:X.d0.heap.objs.size<=X.env.locals
 inj:∀x y c,X.env.cells.lookup x=ih c->X.env.cells.lookup y=ih c->x=y
 has:∀x,(X.env.kindOf x=ih .cell\/X.env.kindOf x=ih .free) ->∃c,X.env.cells.lookup x=ih c
 jS:∀x c,X.fn x=true->X.env.cells.lookup x=ih c->X.d0.heap.objs.size<=c
 hd:X.calm=true->X.A.handled=none
 frames:X.A.frames=ih X.stack
 lg:X.stack=X.outer\/(X.stack=X.env::X.outer/\X.env.frame=ih X.env.locals)
 lj:∀b∈X.ex,b≠X.env.locals /\∀x c,X.env.cells.lookup x=ih c->c≠b
 bs:∀b o,X.base.get? b=ih o->X.d0.heap.get? b=ih o/\X.ij b=none
 hQ:X.base.objs.size<=X.d0.heap.objs.size
 jJ:∀b o,X.base.get? b=ih o->b ∉ X.ex
 jK:∀b∈X.ex,b ∉ X.fs
 fq:X.d0.heap.FunFrames X.base X.outer
 ir:∀b∈X.fs,X.ij b=none
structure Inv(X:Cx)(J:List (Up×Ye))(σ:List (Option V))(H:Hp)(s:Ur):Prop where
 ok:X.Ok
 os:s.os=X.d0.os
 bare:YH s.gens
 base:Un X.fs X.ex X.ij H X.d0.heap s.heap
 loc:∃m,s.heap.Ns X.env.locals m /\∀(i:Nat) (x:Gv) (v:V),X.N[i]?=ih x->σ[i]?=ih (ih v)->vJ X.env.scope x ->∃u,RelV v u/\Look X.env s.heap m x u
 cell:∀x c,X.env.cells.lookup x=ih c ->∃v,s.heap.IsCell c v
 free:H X.env.locals=none
 eO:∀x c,X.env.cells.lookup x=ih c->H c=none
 pin:∀p∈X.pn++J,s.heap.get? p.1=ih p.2/\H p.1=none/\p.1≠X.env.locals/\p.1 ∉ X.fs /\∀v,p.2.data ≠ .cell v
 aJ:cx X.prog X.w H s.heap
 len:σ.length=X.N.length
section
variable{X:Cx}{σ:am (Option V)}{H H':Hp}
theorem Cx.Ok.qO(ok:X.Ok)(e:X.base.get? b=ih o):b ∉ X.fs:=λa=>by
 have:=(ok.fq.mem a).1;rw[e]at this;cases this
theorem Inv.bs(I:Inv X J σ H s):∀b o,X.base.get? b=ih o->s.heap.get? b=ih o/\H b=none:=λb o e =>
 ⟨I.base.keep b o (I.ok.bs b o e).1 (I.ok.bs b o e).2 (I.ok.qO e) (I.ok.jJ b o e),I.base.free b o (I.ok.bs b o e).1 (I.ok.bs b o e).2 (I.ok.jJ b o e)⟩
theorem Inv.bk(I:Inv X J σ H s):∀b o,X.base.get? b=ih o->s.heap.get? b=ih o:=λb o e=>(I.bs b o e).1
theorem Inv.mod(I:Inv X J σ H s):Mod X.K X.mg X.base:=I.ok.mod
theorem Inv.bQ(I:Inv X J σ H s):X.K.In s.heap:=I.ok.mod.lb.keeps I.bk
theorem Inv.lt(I:Inv X J σ H s):X.env.locals<s.aj:=let ⟨_,a,_⟩:=I.loc;a.lt
theorem Inv.sz(I:Inv X J σ H s):X.d0.heap.objs.size<=s.aj:=et I.ok.above (rY I.lt)
theorem Inv.OA(I:Inv X J σ H s)(h:s.aj<=a):a ∉ X.fs:=λb=>by
 obtain⟨_,o,c,_⟩:=I.ok.fq.mem b;exact absurd (eU (bt c) (et I.sz h)) (iA _)
theorem Inv.fc(I:Inv X J σ H s):∀x c,X.env.cells.lookup x=ih c->c≠X.env.locals:=λx c e z=>by
 obtain⟨v,o,a,b⟩:=I.cell x c e;obtain⟨m,⟨o',es,ep,d,f,_⟩,_⟩:=I.loc;rw[z,d]at a;cases a;rw[f]at b;cases b
theorem Inv.fq(I:Inv X J σ H s):s.heap.FunFrames X.base X.outer:=by
 have all:∀(l:am YT),(∀b∈d3 l,b∈X.fs)->X.d0.heap.FunFrames X.base l->s.heap.FunFrames X.base l:=by
  intro l
  induction l with
  |nil=>intro _ _;trivial
  |cons env r g =>
   rintro f ⟨i,⟨L,o,a,j,k,m⟩,n⟩;have c:L∈X.fs:=f L (by unfold d3;rw[FT,a];exact aV)
   obtain⟨sl,e⟩:=I.base.slot L o k (I.ok.ir L c) c λz=>I.ok.jK L z c;exact⟨i,⟨L,_,a,j,e,m⟩,g (λb d=>f b (by unfold d3;rw[FT,a];exact a7 _ d)) n⟩
 exact all X.outer (λ_ d=>d) I.ok.fq
theorem Inv.stack(I:Inv X J σ H s):s.heap.FunFrames X.base X.stack:=by
 rcases I.ok.lg with e|⟨e,a⟩
 ·rw[e];exact I.fq
 ·rw[e]
  obtain⟨m,b,_⟩:=I.loc;refine .cons (by rw[I.ok.kind];decide) a b ?_ I.fq
  exact wk (et I.ok.hQ I.ok.above)
theorem Inv.qm(I:Inv X J σ H s):∀b∈d3 X.stack,b∈X.env.locals::X.fs:=λb a=>by
 rcases I.ok.lg with e|⟨e,c⟩
 ·rw[e]at a;exact a7 _ a
 ·rw[e]at a
  unfold d3 at a;rw[FT,c]at a;exact a
theorem Inv.tR(I:Inv X J σ H s):∀b∈d3 X.stack,H b=none:=λb hb=>by
 rcases bj.mp (I.qm b hb) with e|hb
 ·rw[e];exact I.free
 ·obtain⟨_,o,a,_⟩:=I.ok.fq.mem hb
  exact I.base.free b o a (I.ok.ir b hb) λz=>I.ok.jK b z hb
theorem Inv.step{g':Array Zn}{d':Drawn}(I:Inv X J σ H s)
  (h:∀b∈ch,(b∈X.ex\/X.d0.heap.objs.size<=b)/\b≠X.env.locals/\(∀x c,X.env.cells.lookup x=ih c->c≠b) /\∀p∈X.pn++J,p.1≠b)
  (keep:∀b o,b≠X.env.locals->b ∉ X.fs->b ∉ ch->s.heap.get? b=ih o->H b=none->h'.get? b=ih o)
  (B:∀b o,b≠X.env.locals->b∈X.fs->b ∉ ch->s.heap.get? b=ih o->H b=none ->∃sl,h'.get? b=ih { o with slots:=sl }) (free:∀b o,b ∉ ch->s.heap.get? b=ih o->H b=none->H' b=none)
  (there:∀b o,b ∉ ch->s.heap.get? b=ih o ->∃o',h'.get? b=ih o')
  (G:∀b xs,H b=bn xs->H' b=bn xs) (K:∀b o u,H b=ih (.bT o u)->H' b=ih (.bT o u)) (L:∀b ps,H b=ih (.i9 ps) ->∃M,H' b=ih (.i9 (ps++M)))
  (ns:∀m,s.heap.Ns X.env.locals m->h'.Ns X.env.locals m) (N:cx X.prog X.w H' h') (P:YH g') :
  Inv X J σ H' { s with heap:=h',gens:=g',drawn:=d',toks:=t' }:=by
 have C:∀b o,X.d0.heap.get? b=ih o->b≠X.env.locals:=λb o e=>bI (eU (bt e) I.ok.above);have t:∀b o,X.d0.heap.get? b=ih o->b ∉ X.ex->b ∉ ch:=λb o e a f=>by
  rcases (h b f).1 with z|z
  ·exact a z
  ·exact absurd (eU (bt e) z) (iA _)
 have A:∀x c,X.env.cells.lookup x=ih c ->∀v,s.heap.IsCell c v->h'.IsCell c v:=λx c e v ⟨o,g,y⟩=>by
  have j:c ∉ ch:=λz=>(h c z).2.2.1 x c e rfl
  by_cases D:c∈X.fs
  ·obtain⟨sl,q⟩:=B c o (I.fc x c e) D j g (I.eO x c e)
   exact⟨_,q,y⟩
  ·exact⟨o,keep c o (I.fc x c e) D j g (I.eO x c e),y⟩
 refine⟨I.ok,I.os,P,⟨λb o e n f a=>?_,λb o e n f a=>?_,λb o e n a=>?_,λb o e a=>?_,λb xs e=>G b xs (I.base.gQ b xs e),λb o xs e=>K b o xs (I.base.gR b o xs e),λb ps e=>?_⟩,?_,λx c e=>?_,?_,λx c e=>?_,λp E=>?_,N,I.len⟩
 ·exact keep b o (C b o e) f (t b o e a) (I.base.keep b o e n f a) (I.base.free b o e n a)
 ·obtain⟨sl,e1⟩:=I.base.slot b o e n f a
  obtain⟨O,e2⟩:=B b _ (C b o e) f (t b o e a) e1 (I.base.free b o e n a);exact⟨O,e2⟩
 ·obtain⟨o',e1⟩:=I.base.there b o e a
  exact free b o' (t b o e a) e1 (I.base.free b o e n a)
 ·obtain⟨o',e1⟩:=I.base.there b o e a
  exact there b o' (t b o e a) e1
 ·obtain⟨Q,e1⟩:=I.base.hG b ps e
  obtain⟨R,e2⟩:=L b _ e1;exact⟨Q++R,by rw[e2,Array.append_assoc]⟩
 ·obtain⟨m,S,T⟩:=I.loc
  refine⟨m,ns m S,λi x v e1 e2 e3=>?_⟩;obtain⟨u,r,l⟩:=T i x v e1 e2 e3;refine⟨u,r,?_⟩;rcases l with l|⟨k,c,e,z⟩
  ·exact .inl l
  ·exact .inr ⟨k,c,e,A x c e _ z⟩
 ·obtain⟨v,z⟩:=I.cell x c e
  exact⟨v,A x c e v z⟩
 ·obtain⟨m,⟨o,_,_,g,_⟩,_⟩:=I.loc
  exact free _ o (λz=>(h _ z).2.1 rfl) g I.free
 ·obtain⟨v,o,g,y⟩:=I.cell x c e
  exact free c o (λz=>(h c z).2.2.1 x c e rfl) g (I.eO x c e)
 ·obtain⟨e,n,ne,F,d⟩:=I.pin p E
  have j:p.1 ∉ ch:=λz=>(h p.1 z).2.2.2 p E rfl;exact⟨keep p.1 p.2 ne F j e n,free p.1 p.2 j e n,ne,F,d⟩
theorem Inv.un(I:Inv X J σ H s)(u:Un X.fs [] H H' s.heap h')(f:cx X.prog X.w H' h'):Inv X J σ H' { s with heap:=h',toks:=t' }:=by
 obtain⟨m,⟨o,es,ep,d,r⟩,_⟩:=id I.loc;obtain⟨sl,i⟩:=u.any d I.free (by simp)
 exact I.step (g':=s.gens) (d':=s.drawn) (ch:=[]) (λ_ z=>nomatch z) (λb o _ a _ e n=>u.keep b o e n a (by simp)) (λb o _ a _ e n=>u.slot b o e n a (by simp)) (λb o _ e n=>u.free b o e n (by simp)) (λb o _ e=>u.there b o e (by simp)) u.gQ u.gR u.hG (λl j=>by
  obtain⟨o',g,h,c,k⟩:=j;rw[d]at c;cases c;exact⟨_,g,h,i,k⟩) f I.bare
theorem Inv.call{g':Array Zn}{d':Drawn}(I:Inv X J σ H s)(u:Un (d3 X.stack) ch H H' s.heap h')(i:cx X.prog X.w H' h')(l:YH g')
  (f:∀b∈ch,(b∈X.ex\/X.d0.heap.objs.size<=b)/\b≠X.env.locals/\(∀x c,X.env.cells.lookup x=ih c->c≠b) /\∀p∈X.pn++J,p.1≠b) :
  Inv X J σ H' { s with heap:=h',gens:=g',drawn:=d',toks:=t' }:=by
 obtain⟨m,⟨o,es,ep,h,r⟩,_⟩:=id I.loc;obtain⟨sl,d⟩:=u.any h I.free λz=>(f _ z).2.1 rfl;exact I.step (ch:=ch) f (λb o d q a e n=>u.keep b o e n (λz=>(bj.mp (I.qm b z)).elim d q) a) (λb o _ _ a e n=>u.any e n a) (λb o a e n=>u.free b o e n a) (λb o a e=>u.there b o e a) u.gQ u.gR u.hG (λy t=>by
  obtain⟨o',j,k,g,v⟩:=t;rw[h]at g;cases g;exact⟨_,j,k,d,v⟩) i l
theorem Inv.turned(I:Inv X J σ H s)(k:∀b o,b≠it->s.heap.get? b=ih o->h'.get? b=ih o)(g:H it=none)(f:it≠X.env.locals)
  (h1:it∈X.ex\/X.d0.heap.objs.size<=it) (h2:∀x c,X.env.cells.lookup x=ih c->c≠it) (h:∀p∈X.pn++J,p.1≠it):Inv X J σ H { s with heap:=h',toks:=t' }:=by
 have d:∀b u,H b=ih u->b≠it:=λb u e z=>by rw[z,g]at e;cases e
 refine I.step (g':=s.gens) (d':=s.drawn) (ch:=[it]) (λb i=>?_) (λb o _ _ a e _=>k b o (λz=>a (by simp[z])) e) (λb o _ _ a e _=>⟨o.slots,k b o (λz=>a (by simp[z])) e⟩) (λ_ _ _ _ n=>n)
  (λb o a e=>⟨o,k b o (λz=>a (by simp[z])) e⟩) (λ_ _ e=>e) (λ_ _ _ e=>e) (λb ps e=>⟨#[],by rw[e];simp⟩) (λm j=>?_) (λb u e=>?_) I.bare
 ·have e:b=it:=by simpa using i
  subst e;exact⟨h1,f,h2,h⟩
 ·obtain⟨o,es,ep,l,r⟩:=j
  exact⟨o,es,ep,k _ o (aP f) l,r⟩
 ·refine(I.aJ b u e).e4 (λc v a q=>k c v ?_ q) (λ_ q=>q) λ_ _ q=>q
  rcases a with z|z
  ·rw[z];exact d b u e
  ·exact d c _ z
theorem Inv.tok(I:Inv X J σ H s)(t:Nat):Inv X J σ H { s with toks:=t }:=I.un (h':=s.heap) (t':=t) Un.refl I.aJ
theorem Inv.kept(I:Inv X J σ H s)(k:∀b u,s.heap.get? b=ih u->h'.get? b=ih u):Inv X J σ H { s with heap:=h',toks:=t' }:=I.un (Un.kept k) (I.aJ.kept k)
theorem Inv.laid{o:HO}(I:Inv X J σ H s)(k:∀b u,s.heap.get? b=ih u->h'.get? b=ih u)(c:s.aj<=a)(new:bH X.prog X.w (upd H a o) h' a o) :
  Inv X J σ (upd H a o) { s with heap:=h',toks:=t' }:=I.un (Un.laid k c (I.aJ.fresh c)) (I.aJ.laid k c new)
theorem Inv.write{x e:Up}{o:HO}(I:Inv X J σ H s)(c:oB (H x))(d:e=x\/H e=ih (.own x))(k:∀b u,b≠e->s.heap.get? b=ih u->h'.get? b=ih u)(a:∃u,h'.get? e=ih u)
  (new:bH X.prog X.w (upd H x o) h' x o):Inv X J σ (upd H x o) { s with heap:=h',toks:=t' }:=I.un (Un.write c d k a) (I.aJ.write c d k a new)
theorem Inv.Ct{Qp:am (Up×Ye)}(I:Inv X J σ H s)(h:∀p∈Qp,s.heap.get? p.1=ih p.2/\H p.1=none/\p.1≠X.env.locals/\p.1 ∉ X.fs /\∀v,p.2.data ≠ .cell v):Inv X Qp σ H s:=
 ⟨I.ok,I.os,I.bare,I.base,I.loc,I.cell,I.free,I.eO,λp a=>(cj.mp a).elim (λz=>I.pin p (gY _ z)) (h p),I.aJ,I.len⟩
theorem tj(c:N.Nodup)(a:N[i]?=ih x)(b:N[j]?=ih x):i=j:=by
 obtain⟨h1,e1⟩:=bR.mp a;obtain⟨h2,e2⟩:=bR.mp b;exact(ZP c).mp (e1.trans e2.symm)
theorem AY{M:Zb}{v:V}{Q:Unit->Ur->Prop}(I:Inv X J σ H s)(xa:X.N.Nodup)(hi:X.N[i]?=ih x)(g:Loc X.env.scope x)(r:RelV v u)
  (h:∀s',Inv X J (σ.set i (ih v)) H s'->(∃a,XC a s.heap s'.heap/\(a=X.env.locals\/X.env.cells.lookup x=ih a))->Q () s') (xc:X.fn x=true\/X.env.scope.names.lookup x=ih .local:=by first|exact .inl rfl|exact .inr rfl|assumption):Ut M A (storeName X.env x u) Q E s:=by
 obtain⟨m,F,ya⟩:=id I.loc;have za:(X.env.scope.kind == .class||(X.env.scope.kind == .module&&X.env.locals != X.env.globals))=false:=by rw[I.ok.kind];rfl
 have T:i<σ.length:=by rw[I.len];exact(bR.mp hi).1
 have fc:=I.fc;have R:∀{a:Up}{h':XD},(∃o,s.heap.get? a=ih o/\H a=none)->XC a s.heap h'->cx X.prog X.w H h':=λ{a h'} yc f b zc e=>by
  obtain⟨_,_,S⟩:=yc;refine(I.aJ b zc e).e4 (λc B hc q=>(f.2 c ?_).trans q) (λ_ q=>q) λ_ _ q=>q;rintro rfl;rcases hc with rfl|hc
  ·rw[S]at e;cases e
  ·rw[S]at hc;cases hc
 rcases g with hk|hk
 ·refine wpAny_storeName_local hk F (λh' yb f=>?_) za
  obtain⟨xd,_,_,zb,_⟩:=id F;refine h _ ⟨I.ok,I.os,I.bare,⟨λb o e n l g=>?_,λb o e n l g=>?_,I.base.free,λb o e g=>?_,I.base.gQ,I.base.gR,I.base.hG⟩,⟨_,yb,λj y G e1 e2 e3=>?_⟩,λy c e=>?_,I.free,I.eO,λp K=>?_,R ⟨xd,zb,I.free⟩ f,by simpa using I.len⟩ ⟨_,f,.inl rfl⟩
  ·exact(f.2 b (bI (eU (bt e) I.ok.above))).trans (I.base.keep b o e n l g)
  ·obtain⟨sl,e1⟩:=I.base.slot b o e n l g
   exact⟨sl,(f.2 b (bI (eU (bt e) I.ok.above))).trans e1⟩
  ·obtain⟨o',e1⟩:=I.base.there b o e g
   exact⟨o',(f.2 b (bI (eU (bt e) I.ok.above))).trans e1⟩
  ·by_cases t:j=i
   ·subst t
    rw[hi]at e1;cases e1;rw[FU T]at e2;cases e2
    exact⟨u,r,.inl ⟨hk,by simp⟩⟩
   ·rw[FV (aP t)]at e2
    obtain⟨L,O,q⟩:=ya j y G e1 e2 e3;refine⟨L,O,?_⟩;rcases q with⟨k,e⟩|⟨k,c,e,z⟩
    ·refine .inl ⟨k,?_⟩
     have:y≠x:=λe=>t (tj xa e1 (e ▸ hi));simp[this,e]
    ·exact .inr ⟨k,c,e,z.sameBut f (fc y c e)⟩
  ·obtain⟨B,z⟩:=I.cell y c e
   exact⟨B,z.sameBut f (fc y c e)⟩
  ·obtain⟨e,n,ne,P,d⟩:=I.pin p K
   exact⟨(f.2 p.1 ne).trans e,n,ne,P,d⟩
 ·have D:X.fn x=true:=by
   rcases xc with z|z
   ·exact z
   ·rw[z]at hk;cases hk
  obtain⟨c,hc⟩:=I.ok.has x (.inl hk);obtain⟨B,z⟩:=I.cell x c hc;refine wpAny_storeName_cell I.ok.kind hk hc z (λh' U f=>?_);obtain⟨oc,W,xb⟩:=id z;refine h { s with heap:=h' } ⟨I.ok,I.os,I.bare,⟨λb o e n l g=>?_,λb o e n l g=>?_,I.base.free,λb o e g=>?_,I.base.gQ,I.base.gR,I.base.hG⟩,⟨m,F.sameBut f (aP (fc x c hc)),λj y G e1 e2 e3=>?_⟩,λy C e=>?_,I.free,I.eO,λp K=>?_,R ⟨oc,W,I.eO x c hc⟩ f,by simpa using I.len⟩ ⟨c,f,.inr hc⟩
  ·exact(f.2 b (bI (eU (bt e) (I.ok.jS x c D hc)))).trans (I.base.keep b o e n l g)
  ·obtain⟨sl,e1⟩:=I.base.slot b o e n l g
   exact⟨sl,(f.2 b (bI (eU (bt e) (I.ok.jS x c D hc)))).trans e1⟩
  ·obtain⟨o',e1⟩:=I.base.there b o e g
   exact⟨o',(f.2 b (bI (eU (bt e) (I.ok.jS x c D hc)))).trans e1⟩
  ·by_cases t:j=i
   ·subst t
    rw[hi]at e1;cases e1;rw[FU T]at e2;cases e2
    exact⟨u,r,.inr ⟨.inl hk,c,hc,U⟩⟩
   ·rw[FV (aP t)]at e2
    obtain⟨L,O,q⟩:=ya j y G e1 e2 e3;refine⟨L,O,?_⟩;rcases q with q|⟨k,C,e,yd⟩
    ·exact .inl q
    ·refine .inr ⟨k,C,e,yd.sameBut f ?_⟩
     rintro rfl;exact t (tj xa e1 (I.ok.inj _ _ _ e hc ▸ hi))
  ·by_cases Y:C=c
   ·subst Y;exact⟨_,U⟩
   ·obtain⟨zd,z2⟩:=I.cell y C e
    exact⟨zd,z2.sameBut f Y⟩
  ·obtain⟨e,n,ne,P,d⟩:=I.pin p K
   refine⟨(f.2 p.1 ?_).trans e,n,ne,P,d⟩;intro q;rw[q,W]at e;have xe:oc=p.2:=cZ e;exact d B (by rw[<-xe];exact xb)
theorem nq{M:Zb}{v:V}{Q:Unit->Ur->Prop}(I:Inv X J σ H s)(a:X.N.Nodup)(hi:X.N[i]?=ih x)(b:Loc X.env.scope x)(r:RelV v u)
  (h:∀s',Inv X J (σ.set i (ih v)) H s'->Q () s') (c:X.fn x=true\/X.env.scope.names.lookup x=ih .local:=by first|exact .inl rfl|exact .inr rfl|assumption):Ut M A (storeName X.env x u) Q E s:=
 AY I a hi b r (λs' d _=>h s' d) c
theorem Inv.uM(I:Inv X J σ H s)(f:s'.os=s.os)(u:Un (d3 X.stack) ch H H' s.heap s'.heap)(a:cx X.prog X.w H' s'.heap)(g:YH s'.gens)
  (d:∀b∈ch,(b∈X.ex\/X.d0.heap.objs.size<=b)/\b≠X.env.locals/\(∀x c,X.env.cells.lookup x=ih c->c≠b) /\∀p∈X.pn++J,p.1≠b):Inv X J σ H' s':=by
 obtain⟨h',g',d',t',o'⟩:=s';have e:o'=s.os:=f;subst e;exact I.call (g':=g') (t':=t') (d':=d') u a g d
end
abbrev XK:=i'->Option Up->Hp->Prop
abbrev St:=List (Option V)
abbrev VK:=V->Hp->Prop
abbrev TE:=St->Hp->VK->Prop
abbrev TT:=St->Hp->(Bool->Hp->Prop)->Prop
abbrev TA:=St->Hp->(List V->Hp->Prop)->Prop
structure Ends where
 nx:St->Hp->Prop
 rt:VK
 bk:St->Hp->Prop:=λ_ _=>False
 ct:St->Hp->Prop:=λ_ _=>False
abbrev TS:=Ends->St->Hp->Prop
end L2
variable{xs vs ws wb lv:am L2.V}{H H' Y H2 G:L2.Hp}{X:L2.Cx}{σ eR:L2.St}{v y hv:L2.V}{Q:L2.VK}{ta te tl tv:L2.TE}{tb:L2.TS}{ti:L2.TT}{kvs:am (L2.Key×L2.V)}{O:L2.HO}{kh kk kq:am (List L2.Key×L2.V)}
namespace L2
open Spec PyProof.Rows W
def EP(X:Cx)(J:List (Up×Ye))(σ:St)(Q:VK)(u:i')(s':Ur):Prop:= ∃v H',Inv X J σ H' s'/\RelV v u/\Q v H'
def TP(X:Cx)(J:List (Up×Ye))(σ:St)(Q:Bool->Hp->Prop)(b:Bool)(s':Ur):Prop:= ∃H',Inv X J σ H' s'/\Q b H'
def AP(X:Cx)(J:List (Up×Ye))(σ:St)(Q:List V->Hp->Prop)(us:List i')(s':Ur):Prop:= ∃vs H',Inv X J σ H' s'/\Vals vs us/\Q vs H'
def SP(X:Cx)(J:List (Up×Ye))(D:Ends)(f:Flow)(s':Ur):Prop:=
 match f with
 |.next=>∃cy H',Inv X J cy H' s'/\D.nx cy H'
 |.brk=>∃cy H',Inv X J cy H' s'/\D.bk cy H'
 |.cont=>∃cy H',Inv X J cy H' s'/\D.ct cy H'
 |.ret u=>∃v cy H',Inv X J cy H' s'/\RelV v u/\D.rt v H'
def PE(X:Cx)(e:Vc)(t:TE):Prop:=
 ∀J s σ H (Q:VK),Inv X J σ H s->t σ H Q->wA X (eval e X.env) (EP X J σ Q) X.xe s
def PT(X:Cx)(e:Vc)(t:TT):Prop:=
 ∀J s σ H (Q:Bool->Hp->Prop),Inv X J σ H s->t σ H Q->wA X (isTrue e X.env (eval e X.env)) (TP X J σ Q) X.xe s
def PW(X:Cx)(e:Vc)(t:TT):Prop:=
 ∀(M4:YK i') J s σ H (Q:Bool->Hp->Prop),Inv X J σ H s->t σ H Q->wA X (isTrue e X.env M4) (TP X J σ Q) X.xe s
theorem PW.pt{t:TT}(h:PW X e t):PT X e t:=h _
def PA(X:Cx)(es:List Vc)(t:TA):Prop:=
 ∀(pos:Zx) J s σ H (Q:List V->Hp->Prop),Inv X J σ H s->t σ H Q->wA X (spliced (backTo pos (US es X.env))) (AP X J σ Q) X.xe s
def PS(X:Cx)(st:U7)(t:TS):Prop:=
 ∀J s σ H (D:Ends),Inv X J σ H s->t D σ H->wA X (exec st X.env) (SP X J D) X.xe s
def d8(X:Cx)(st:List U7)(t:TS):Prop:=
 ∀J s σ H (D:Ends),Inv X J σ H s->t D σ H->wA X (execs st X.env) (SP X J D) X.xe s
theorem aG{α:Type}{t:YK α}{Q b:α->Ur->Prop}{M:Zb}(h:Ut M A t Q E s)(c:∀a s,Q a s->b a s):Ut M A t b E s:=hW h c λ_ _ x=>x
end L2
namespace L2
open Spec PyProof.Rows
section
def gu(i:Nat):TE:=λσ H Q=>∃v,σ[i]?=ih (ih v)/\Q v H
def tC(v:V):TE:=λ_ H Q=>Q v H
theorem Mj(j:X.N[i]?=ih x)(hv:vJ X.env.scope x)(b:(x==("__debug__" : Gv))=false:=by decide)(g:(x==("__classdict__" : Gv))=false:=by decide):PE X (.Name x pos) (gu i):=by
 rintro J s σ H Q I ⟨v,e,h⟩;obtain⟨m,k,n⟩:=I.loc;obtain⟨u,r,l⟩:=n i x v j e hv;have a:EP X J σ Q u s:=⟨v,H,I,r,h⟩;rcases l with⟨hk,o⟩|⟨hk,c,f,d⟩
 ·exact wpAny_Name (wpAny_loadName_local I.ok.kind hk k o a) b
 ·rcases hk with hk|hk
  ·exact wpAny_Name (wpAny_loadName_cell I.ok.kind hk f d a) b
  ·exact wpAny_Name (wpAny_loadName_free I.ok.kind hk f d a g) b
theorem aw{i j pos}:PE X (.Constant (.int i) j pos) (tC (.int i)):=λ_ _ _ H _ I h=>wpAny_Constant_int ⟨.int i,H,I.tok _,⟨_,rfl⟩,h⟩
theorem jG{b j pos}:PE X (.Constant (.bool b) j pos) (tC (.bl b)):=λ_ _ _ H _ I h=>Constant_bool ⟨.bl b,H,I,rfl,h⟩
theorem ez{j pos}:PE X (.Constant .none j pos) (tC .aO):=λ_ _ _ H _ I h=>abr ⟨.aO,H,I,rfl,h⟩
theorem bu{x j pos}:PE X (.Constant (.str x) j pos) (tC (.str x)):=λ_ _ _ H _ I h=>Calls.Constant_str ⟨.str x,H,I.tok _,⟨_,rfl⟩,h⟩
def Gl(X:Cx)(x:Gv):Prop:=X.env.kindOf x=ih .globalImplicit
theorem l3{Q:i'->Ur->Prop}(I:Inv X J σ H s)(a:Gl X x)(b:X.mg x=ih u)(h:Q u s)
  (c:(x==("__debug__" : Gv))=false:=by decide):wA X (eval (.Name x pos) X.env) Q E s:=
 Uq I.ok.kind a (Calls.loadGlobal_global (by rw[I.ok.glob];exact I.mod.glob.keeps I.bk) b h) c
theorem nN{Q:i'->Ur->Prop}(I:Inv X J σ H s)(a:Gl X x)(b:X.mg x=none)(hv:Vu x=ih u)(h:Q u s)
  (c:x ≠ "__name__" :=by decide) (d:(x==("__debug__" : Gv))=false:=by decide):wA X (eval (.Name x pos) X.env) Q E s:=by
 obtain⟨e,h1,h2⟩:=I.mod.blt;exact Uq I.ok.kind a (Calls.loadGlobal_builtin (by rw[I.ok.glob];exact I.mod.glob.keeps I.bk) b (by rw[I.ok.blt];exact h1.keeps I.bk) ((h2 x c).trans hv) h) d
theorem p0(a:Gl X x)(b:X.mg x=none)(hv:Vu x=ih u)(r:RelV v u)(c:x ≠ "__name__" :=by decide)(d:(x==("__debug__" : Gv))=false:=by decide):PE X (.Name x pos) (tC v):=
 λ_ _ _ H _ I h=>nN I a b hv ⟨v,H,I,r,h⟩ c d
variable{a b:Vc}{tb:TE}
def PC(X:Cx)(op:Zm)(a b:Vc)(t:TE):Prop:=
 ∀J s σ H (Q:VK),Inv X J σ H s->t σ H Q ->
  wA X (eval a X.env) (λv OB=>wA X (eval b X.env) (λu OC=>wA X (Xu op v u) (EP X J σ Q) X.xe OC) X.xe OB) X.xe s
theorem BH(b:Vc){op:Zm}(h:op ≠ .In)(h2:op ≠ .NotIn):behindInMarks op b=false:=by
 have e1:(op==abo)=false:=by cases op <;> first|rfl|exact absurd rfl h
 have e2:(op==aav)=false:=by cases op <;> first|rfl|exact absurd rfl h2
 cases b <;> simp[behindInMarks,e1,e2]
def M5(ta:TE):TE:=λσ H Q=>ta σ H λx Y=>Q (.bl (!decide (x=.aO))) Y
theorem RelV.JD{x:V}{v:i'}(r:RelV x v):(v==Vv)=decide (x=.aO):=by
 cases x with
 |aO=>cases r;rfl
 |bl _=>cases r;rfl
 |int _=>obtain⟨t,rfl⟩:=r;rfl
 |str _=>obtain⟨t,rfl⟩:=r;rfl
 |f6 _=>obtain⟨t,rfl⟩:=r;rfl
 |jR _=>obtain⟨t,rfl⟩:=r;rfl
 |ref _=>cases r;rfl
 |ty _=>cases r;rfl
theorem Cu{j Qf}(b:PE X a ta):PC X .IsNot a (.Constant .none j Qf) (M5 ta):=by
 intro J s σ H Q I h;refine aG (b J s σ H _ I h) λv s1 f=>?_;obtain⟨x,Y,c,d,e⟩:=f;exact abr (isnot_none_gen ⟨.bl _,Y,c,by rw[d.JD];rfl,e⟩)
def tB(t:TE):TT:=λσ H Q=>t σ H λx Y=>∃c,x=.bl c/\Q c Y
theorem Ml{op:Zm}{t:TE}(h:PC X op a b t)(h1:behindInMarks op b=false:=by first|exact BH _ (by decide) (by decide)|rfl):PE X (.Compare a [op] [b] pos) t:=λJ s σ H Q I c=>wpAny_Compare1 (h J s σ H Q I c) h1
theorem g7{op:Zm}{t:TE}(h:PC X op a b t)(h1:behindInMarks op b=false:=by first|exact BH _ (by decide) (by decide)|rfl):PT X (.Compare a [op] [b] pos) (tB t):=by
 intro J s σ H Q I e;refine wpAny_isTrue_Compare1 (aG (h J s σ H _ I e) λv s1 h1=>aG h1 λu s2 h2=>aG h2 λc j k=>?_) h1;obtain⟨x,Y,f,g,i⟩:=k;obtain⟨d,rfl,q⟩:=i;cases g
 exact iB ⟨Y,f,q⟩
theorem gP{t:TE}(h:PE X e t)(b:∀a,isTrue e X.env a=(do let v <- a;standAt e.pos;holding [v] (truthy v)):=by intro _;rfl):PT X e (tB t):=by
 intro J s σ H Q I c;refine isTrue_plain (aG (h J s σ H _ I c) λv s1 j=>?_) (b _);obtain⟨x,Y,f,g,i⟩:=j;obtain⟨d,rfl,q⟩:=i;cases g
 exact iB ⟨Y,f,q⟩
variable{tA Qy:TT}{rest:am Vc}
def vb(t u:TT):TT:=λσ H Q=>t σ H λc Y=>if c=true then u σ Y Q else Q false Y
def Ez(t u:TT):TT:=λσ H Q=>t σ H λc Y=>if c=true then Q true Y else u σ Y Q
def OD(t:TT):TT:=λσ H Q=>t σ H λc Y=>Q (!c) Y
theorem pw_and1(b:PT X a tA):PW X (.BoolOp .And [a] pos) tA:=by
 intro wh J s σ H Q I h;refine isTrue_and (aG (b J s σ H Q I h) λc s1 e=>?_);cases c with
 |true=>exact isTrue_and_nil e
 |false=>exact e
theorem pw_or1(b:PT X a tA):PW X (.BoolOp .Or [a] pos) tA:=by
 intro wh J s σ H Q I h;refine isTrue_or (aG (b J s σ H Q I h) λc s1 e=>?_);cases c with
 |false=>exact isTrue_or_nil e
 |true=>exact e
theorem pw_and(f:PT X a tA)(g:PW X (.BoolOp .And (b::rest) pos) Qy):PW X (.BoolOp .And (a::b::rest) pos) (vb tA Qy):=by
 intro wh J s σ H Q I h;refine isTrue_and (aG (f J s σ H _ I h) λc s1 i=>?_);obtain⟨Y,d,e⟩:=i;cases c with
 |true=>exact g wh J s1 σ Y Q d e
 |false=>exact⟨Y,d,e⟩
theorem pw_or(f:PT X a tA)(g:PW X (.BoolOp .Or (b::rest) pos) Qy):PW X (.BoolOp .Or (a::b::rest) pos) (Ez tA Qy):=by
 intro wh J s σ H Q I h;refine isTrue_or (aG (f J s σ H _ I h) λc s1 i=>?_);obtain⟨Y,d,e⟩:=i;cases c with
 |true=>exact⟨Y,d,e⟩
 |false=>exact g wh J s1 σ Y Q d e
theorem g8(b:PT X a tA):PT X (.UnaryOp .Not a pos) (OD tA):=by
 intro J s σ H Q I h;exact isTrue_not (b J s σ H (λc Y=>Q (!c) Y) I h)
def M6(ta tb:TE):TE:=λσ H Q=>ta σ H λx Y=>∃c,x=.bl c/\if c=true then tb σ Y Q else Q (.bl false) Y
theorem C4{op}{t:TE}(h:PE X a t):PE X (.BoolOp op [a] pos) t:=λJ s σ H Q I b=>BoolOp_one (h J s σ H Q I b)
theorem C5(f:PE X a ta)(g:PE X (.BoolOp .And (b::rest) pos) tb):PE X (.BoolOp .And (a::b::rest) pos) (M6 ta tb):=by
 intro J s σ H Q I h;refine BoolOp_and (aG (f J s σ H _ I h) λv s1 j=>?_);obtain⟨x,Y,e,i,d⟩:=j;obtain⟨c,rfl,d⟩:=d;cases i
 refine iB ?_;cases c with
 |true=>exact g J s1 σ Y Q e d
 |false=>exact⟨.bl false,Y,e,rfl,d⟩
def P1(t:TT)(ta tb:TE):TE:=λσ H Q=>t σ H λc Y=>if c=true then ta σ Y Q else tb σ Y Q
theorem JE(g:PT X c tA)(i:PE X a ta)(j:PE X b tb):PE X (.IfExp c a b pos) (P1 tA ta tb):=by
 intro J s σ H Q I h;refine wpAny_IfExp (aG (g J s σ H _ I h) λd s1 k=>?_);obtain⟨Y,e,f⟩:=k;cases d with
 |true=>exact i J s1 σ Y Q e f
 |false=>exact j J s1 σ Y Q e f
end
def au(K:UI)(H:Hp)(a:Up)(xs:List V):Prop:=
 Rd H a (.lst xs) \/
  ∃(o:Ye) (its:Array i') (n:Nat),K.lookup a=ih o/\o.cls=.type "list" /\ o.dict=none/\o.data=.seq its n/\its.size<=Us/\Vals xs its.toList
def aZ(K:UI)(H:Hp)(a:Up)(xs:List V):Prop:=
 Rd H a (.tup xs) \/
  ∃(o:Ye) (its:Array i') (n:Nat),K.lookup a=ih o/\o.cls=.type "tuple" /\ o.data=.seq its n/\its.size<=Us/\Vals xs its.toList
def OE:i'->Option V
 |.none=>ih .aO
 |.bool b=>ih (.bl b)
 |.int i _=>ih (.int i)
 |.str x _=>ih (.str x)
 |.bytes b _=>ih (.f6 b)
 |.float b _=>ih (.jR b)
 |.ref a=>ih (.ref a)
 |.type n=>ih (.ty n)
 |_=>none
theorem RelV.abs{x:V}(r:RelV x u):OE u=ih x:=by
 cases x with
 |aO=>cases r;rfl
 |bl _=>cases r;rfl
 |int _=>obtain⟨t,rfl⟩:=r;rfl
 |str _=>obtain⟨t,rfl⟩:=r;rfl
 |f6 _=>obtain⟨t,rfl⟩:=r;rfl
 |jR _=>obtain⟨t,rfl⟩:=r;rfl
 |ref _=>cases r;rfl
 |ty _=>cases r;rfl
theorem RelV.inj{x:V}(r:RelV x u)(q:RelV y u):x=y:=cZ (r.abs.symm.trans q.abs)
theorem Vals.inj:∀{xs ys:am V}{us:am i'},Vals xs us->Vals ys us->xs=ys
 |_,_,_,.nil,.nil=>rfl
 |_,_,_,.cons r t,.cons r' t'=>by rw[r.inj r',Vals.inj t t']
section
variable{ys:am V}
theorem au.of(h:H a=ce xs):au K H a xs:=.inl (.inl h)
theorem aZ.of(h:H a=bn xs):aZ K H a xs:=.inl (.inl h)
theorem Inv.list(I:Inv X J σ H s)(h:au X.K H a xs):∃its:am i',Vals xs its/\PlainL s.heap a its.toArray/\xs.length<=Us:=by
 rcases h with h|⟨o,its,n,b,c,d,f,g,r⟩
 ·obtain⟨z,its,n,r,e⟩:=h.ok I.aJ
  exact⟨its,r,⟨_,n,e,rfl,rfl,rfl⟩,z⟩
 ·refine⟨its.toList,r,⟨o,n,I.bQ a o b,c,d,by simpa using f⟩,?_⟩
  have e:=r.length;simp only[fA]at e;omega
theorem Inv.tuple(I:Inv X J σ H s)(h:aZ X.K H a xs):∃its:am i',Vals xs its/\X6 s.heap a its.toArray/\xs.length<=Us:=by
 rcases h with h|⟨o,its,n,b,c,d,f,r⟩
 ·obtain⟨z,its,r,p⟩:=h.ok I.aJ
  exact⟨its,r,p.is,z⟩
 ·refine⟨its.toList,r,⟨o,I.bQ a o b,c,n,by simpa using d⟩,?_⟩
  have e:=r.length;simp only[fA]at e;omega
theorem Inv.BI(I:Inv X J σ H s)(h:au X.K H a xs)(h':au X.K H a ys):xs=ys:=by
 obtain⟨its,r,⟨o,n,e,_,_,d⟩,_⟩:=I.list h;obtain⟨f,g,⟨o',j,b,_,_,c⟩,_⟩:=I.list h';rw[e]at b;cases b;rw[d]at c;injection c with i _;have:its=f:=by simpa using c6 aai i
 subst this;exact r.inj g
theorem Inv.IP(I:Inv X J σ H s)(h:aZ X.K H a xs)(h':aZ X.K H a ys):xs=ys:=by
 obtain⟨its,r,⟨o,e,_,n,d⟩,_⟩:=I.tuple h;obtain⟨f,g,⟨o',b,_,j,c⟩,_⟩:=I.tuple h';rw[e]at b;cases b;rw[d]at c;injection c with i _;have:its=f:=by simpa using c6 aai i
 subst this;exact r.inj g
end
abbrev Cx.ik(X:Cx)(E:i'->Ur->Prop):Cx:={ X with xe:=E }
abbrev Cx.ll(X:Cx):Cx:=X.ik λ_ _=>False
theorem Cx.Ok.ik(ok:X.Ok)(E:i'->Ur->Prop):(X.ik E).Ok:=
 ⟨ok.mod,ok.kind,ok.glob,ok.blt,ok.above,ok.inj,ok.has,ok.jS,ok.hd,ok.frames,ok.lg,ok.lj,ok.bs,ok.hQ,ok.jJ,ok.jK,ok.fq,ok.ir⟩
theorem Cx.Ok.jB(ok:(X.ik E).Ok):X.Ok:=
 ⟨ok.mod,ok.kind,ok.glob,ok.blt,ok.above,ok.inj,ok.has,ok.jS,ok.hd,ok.frames,ok.lg,ok.lj,ok.bs,ok.hQ,ok.jJ,ok.jK,ok.fq,ok.ir⟩
theorem Inv.ik(I:Inv X J σ H s)(E:i'->Ur->Prop):Inv (X.ik E) J σ H s:=⟨I.ok.ik E,I.os,I.bare,I.base,I.loc,I.cell,I.free,I.eO,I.pin,I.aJ,I.len⟩
theorem Inv.jB(I:Inv (X.ik E) J σ H s):Inv X J σ H s:=⟨I.ok.jB,I.os,I.bare,I.base,I.loc,I.cell,I.free,I.eO,I.pin,I.aJ,I.len⟩
theorem SP.jB{D:Ends}{f:Flow}(h:SP (X.ik E) J D f s'):SP X J D f s':=by
 cases f with
 |next=>obtain⟨a,H',I,q⟩:=h;exact⟨a,H',I.jB,q⟩
 |brk=>obtain⟨a,H',I,q⟩:=h;exact⟨a,H',I.jB,q⟩
 |cont=>obtain⟨a,H',I,q⟩:=h;exact⟨a,H',I.jB,q⟩
 |ret u=>obtain⟨v,a,H',I,r,q⟩:=h;exact⟨v,a,H',I.jB,r,q⟩
theorem d8.ll{st:am U7}{t:TS}(h:d8 X.ll st t):d8 X st t:=λJ s σ H D I a =>
 hW (h J s σ H D (I.ik _) a) (λ_ _ q=>q.jB) λ_ _ z=>U6 z
section
variable{rest:am U7}{t u:TS}
def M7:TS:=λD σ H=>D.nx σ H
def vc(t u:TS):TS:=λD σ H=>t { D with nx:=u D } σ H
theorem bZ:d8 X [] M7:=λ_ _ σ H _ I h=>oN ⟨σ,H,I,h⟩
theorem ax(h1:PS X st t)(h2:d8 X rest u):d8 X (st::rest) (vc t u):=by
 intro J s σ H D I h;refine wpAny_execs_cons (aG (h1 J s σ H { D with nx:=u D } I h) λf s1 q=>?_);cases f with
 |next =>
  obtain⟨a,H',b,q⟩:=q;exact h2 J s1 a H' D b q
 |ret v=>exact q
 |brk=>exact q
 |cont=>exact q
theorem aF(h1:PS X st t):d8 X [st] t:=by
 intro J s σ H D I h;refine wpAny_execs_cons (aG (h1 J s σ H D I h) λf s1 q=>?_);cases f with
 |next=>exact oN q
 |ret v=>exact q
 |brk=>exact q
 |cont=>exact q
theorem Inv.quiet(I:Inv X J σ H s):interactive X.env=false:=by simp[interactive,I.ok.kind]
def M8(te:TE):TS:=λD σ H=>te σ H λ_ Y=>D.nx σ Y
theorem ey(a:PE X e te)(b:swapsWith e none pos.line X.env=pure false:=by rfl):PS X (.Expr e pos) (M8 te):=by
 intro J s σ H D I h;exact wpAny_Expr_any (aG (a J s σ H _ I h) λv s1 ⟨x,Y,c,f,d⟩=>⟨σ,Y,c,d⟩) I.quiet b
def OF(te:TE):TS:=λD σ H=>te σ H D.rt
theorem a9(a:PE X e te):PS X (.Return (ih e) pos) (OF te):=by
 intro J s σ H D I h;exact wpAny_Return_some (aG (a J s σ H _ I h) λv s1 ⟨x,Y,b,c,d⟩=>⟨x,σ,Y,b,c,d⟩)
def M9:TS:=λD _ H=>D.rt .aO H
theorem K1:PS X (.Return none pos) M9:=λ_ _ σ H _ I h=>wpAny_Return_none ⟨.aO,σ,H,I,rfl,h⟩
def vd(c:TT)(t u:TS):TS:=λD σ H=>c σ H λb Y=>if b=true then t D σ Y else u D σ Y
theorem bE{a b:am U7}{tc:TT}(g:PT X c tc)(i:d8 X a t)(j:d8 X b u):PS X (.If c a b pos) (vd tc t u):=by
 intro J s σ H D I h;refine wpAny_If (aG (g J s σ H _ I h) λd s1 k=>?_);obtain⟨Y,e,f⟩:=k;cases d with
 |true=>exact i J s1 σ Y D e f
 |false=>exact j J s1 σ Y D e f
def C6:TS:=λ_ _ _=>False
theorem JF:PS X st C6:=λ_ _ _ _ _ _ h=>h.elim
theorem sV{a:am U7}:d8 X a C6:=λ_ _ _ _ _ _ h=>h.elim
end
abbrev TG:=V->St->Hp->(St->Hp->Prop)->Prop
abbrev jT:=List V->St->Hp->(St->Hp->Prop)->Prop
def PG(X:Cx)(Mm:Vc)(t:TG):Prop:=
 ∀J s σ H (v:V) (u:i') (Q:St->Hp->Prop),Inv X J σ H s->RelV v u->t v σ H Q ->
  wA X (assign Mm X.env u) (λ_ s'=>∃cy H',Inv X J cy H' s'/\Q cy H') X.xe s
def oC(X:Cx)(ts:List Vc)(t:jT):Prop:=
 ∀J s σ H (vs:List V) (us:List i') (Q:St->Hp->Prop),Inv X J σ H s->Vals vs us->t vs σ H Q ->
  wA X (assignInOrder ((assignEach ts X.env).map (·.2)) us) (λ_ s'=>∃cy H',Inv X J cy H' s'/\Q cy H') X.xe s
abbrev vf:=V->V->V->Hp->(Hp->Prop)->Prop
def DO(X:Cx)(t:vf):Prop:=
 ∀J s σ H (o i v:V) (ov iv u:i') (Q:Hp->Prop),Inv X J σ H s->RelV o ov->RelV i iv->RelV v u->t o i v H Q ->
  wA X (setItem ov iv u) (λ_ s'=>∃H',Inv X J σ H' s'/\Q H') X.xe s
def ic(i:Nat):TG:=λv σ H Q=>Q (σ.set i (ih v)) H
theorem nF(a:X.N.Nodup)(hi:X.N[i]?=ih x)(b:Loc X.env.scope x)(c:X.fn x=true\/X.env.scope.names.lookup x=ih .local:=by first|exact .inl rfl|exact .inr rfl|assumption):PG X (.Name x pos) (ic i):=by
 intro J s σ H v u Q I r h;exact wpAny_assign_Name (nq I a hi b r (λs' d=>⟨_,H,d,h⟩) c)
theorem br(i:Nat)(a:X.N.Nodup)(hi:X.N[i]?=ih x:=by exact rfl)(b:Loc X.env.scope x:=by exact aam rfl)(c:X.fn x=true\/X.env.scope.names.lookup x=ih .local:=by first|exact .inl rfl|exact .inr rfl|assumption):PG X (.Name x pos) (ic i):=nF a hi b c
def OG:jT:=λvs σ H Q=>vs=[]/\Q σ H
def M'(t:TG)(u:jT):jT:=λvs σ H Q=>∃v r,vs=v::r/\t v σ H λcy H'=>u r cy H' Q
theorem gM:oC X [] OG:=by
 rintro J s σ H vs us Q I r ⟨e,h⟩;subst e;cases r
 exact assignInOrder_nil ⟨σ,H,I,h⟩
theorem dq{t:TG}{u:jT}(h1:PG X e t)(h2:oC X es u)
  (b:(assignEach (e::es) X.env).map (·.2)=assign e X.env::(assignEach es X.env).map (·.2):=by rfl):oC X (e::es) (M' t u):=by
 rintro J s σ H vs us Q I r ⟨v,g,e1,h⟩;subst e1;cases r with
 |cons r c =>
  rw[b];refine FW (aG (h1 J s σ H _ _ _ I r h) λ_ s1 i=>?_);obtain⟨a,Y,d,f⟩:=i;exact h2 J s1 a Y _ _ Q d c f
def DP(K:UI)(n:Nat)(t:jT):TG:=λv σ H Q=>∃a xs,v=.ref a/\aZ K H a xs/\xs.length=n/\t xs σ H Q
theorem iU{k:Nat}{t:jT}{n:Nat}(g:X.calm=true)(h:oC X es t)
  (i:(assignEach es X.env).length=n:=by rfl) (f:(assignEach es X.env).findIdx? (·.1)=none:=by rfl):PG X (.Tuple es k pos) (DP X.K n t):=by
 rintro J s σ H v u Q I r ⟨a,xs,e1,j,l,c⟩;subst e1;cases r
 obtain⟨its,d,m,w⟩:=I.tuple j;refine assign_Tuple_tuple (I.ok.hd g) m (by simp[i,<-l,d.length]) f λh' p=>?_
 have q:Inv X J σ H { s with heap:=h' }:=I.kept (t':=s.toks) λb o e=>p b o (bI (bt e)) e;exact h J _ σ H xs _ Q q (by simpa using d) c
def OH(to ti:TE)(t:vf):TG:=λv σ H Q=>to σ H λo Y=>ti σ Y λi H2=>t o i v H2 λH3=>Q σ H3
theorem C7{o i:Vc}{to ti:TE}{t:vf}(c:PE X o to)(hi:PE X i ti)(d:DO X t)
  (e:∀v,assign (.Subscript o i pos) X.env v=(do
   let a <- holding [v] (eval o X.env)
   let b <- holding [v,a] (eval i X.env)
   standAt pos
   holding [v,a,b] (setItem a b v)
   release [v,a,b] []):=by intro _;rfl):PG X (.Subscript o i pos) (OH to ti t):=by
 intro J s σ H v u Q I r h;rw[e];refine ae (d5 (aG (c J s σ H _ I h) λa s1 z=>?_));obtain⟨x,Y,f,g,j⟩:=z;refine ae (d5 (aG (hi J s1 σ Y _ f j) λb s2 z=>?_));obtain⟨y,H2,k,l,m⟩:=z;refine ae (j3 (ae (d5 (aG (d J s2 σ H2 x y v a b u _ k g l r m) λ_ w z=>?_))));obtain⟨n,p,q⟩:=z;exact wpAny_release ⟨σ,n,p,q⟩
def qP(te:TE)(g:TG):TS:=λD σ H=>te σ H λx Y=>g x σ Y D.nx
theorem jC{g:TG}(a:PE X e te)(b:PG X tg g)(c:swapsWithSole [tg] e pos.line X.env=pure false:=by rfl)(d:swappedStores [tg] e X.env=pure none:=by rfl)
  (h1:(assignEach [tg] X.env).map (·.2)=[assign tg X.env]:=by rfl):PS X (.Assign [tg] e pos) (qP te g):=by
 intro J s σ H D I h;refine wpAny_Assign_stores (aG (a J s σ H _ I h) λv s1 k=>?_) c d;obtain⟨x,Y,f,i,j⟩:=k;rw[h1];exact aG (b J s1 σ Y x v _ f i j) λ_ s2 q=>q
theorem g9(a:X.N.Nodup)(hi:X.N[i]?=ih x)(b:Loc X.env.scope x)(c:PE X e te)(d:swapsWith e (ih (.Name x Qf)) pos.line X.env=pure false:=by rfl)(f:X.fn x=true\/X.env.scope.names.lookup x=ih .local:=by first|exact .inl rfl|exact .inr rfl|assumption) :
  PS X (.Assign [.Name x Qf] e pos) (qP te (ic i)):=by
 intro J s σ H D I h;refine wpAny_Assign_Name (aG (c J s σ H _ I h) λv s1 m=>?_) d;obtain⟨y,Y,g,j,k⟩:=m;exact nq g a hi b j (λs2 l=>⟨_,Y,l,k⟩) f
theorem ba(i:Nat)(a:X.N.Nodup)(b:PE X e te)(hi:X.N[i]?=ih x:=by exact rfl)(c:Loc X.env.scope x:=by exact aam rfl)(d:swapsWith e (ih (.Name x Qf)) pos.line X.env=pure false:=by rfl)(f:X.fn x=true\/X.env.scope.names.lookup x=ih .local:=by first|exact .inl rfl|exact .inr rfl|assumption):PS X (.Assign [.Name x Qf] e pos) (qP te (ic i)):=g9 a hi c b d f
def OI(i j:Nat)(ta:TA):TS:=λD σ H=>ta σ H λvs Y=>∃v w,vs=[v,w]/\D.nx ((σ.set i (ih v)).set j (ih w)) Y
theorem uq{y:Gv}{a b:Vc}{ta:TA}{g k pt:Zx}{l m f}(E:X.calm=true)(r:X.N.Nodup)(hi:X.N[i]?=ih x)(F:X.N[j]?=ih y)(A:i≠j)
  (t:X.env.scope.names.lookup x=ih .local) (u:X.env.scope.names.lookup y=ih .local) (G:PA X [a,b] ta)
  (K:swappedStores [.Tuple [.Name x g,.Name y k] l pt] (.Tuple [a,b] m f) X.env=pure (ih [x,y]))
  (L:swapsWithSole [.Tuple [.Name x g,.Name y k] l pt] (.Tuple [a,b] m f) pos.line X.env=pure false:=by rfl) :
  PS X (.Assign [.Tuple [.Name x g,.Name y k] l pt] (.Tuple [a,b] m f) pos) (OI i j ta):=by
 intro J s σ H D I h;rw[exec_Assign_arm];refine ae (j3 ?_);rw[L];refine ae (ao ?_);rw[aq (by decide)]
 refine ae (Tuple_ (aG (G _ J s σ H _ I h) λus s1 W=>?_));obtain⟨vs,Y,M,O,n⟩:=W;obtain⟨v,w,e1,n⟩:=n;subst e1;obtain⟨c,d,rfl,P,B⟩:∃c d,us=[c,d]/\RelV v c/\RelV w d:=by
  cases O with
  |cons p q =>
   cases q with
   |cons Q R =>
    cases R
    exact⟨_,_,rfl,p,Q⟩
 refine fB ?_ (by show 2<=Us;decide)
 have S:Inv X J σ Y { s1 with heap:=s1.heap.push { cls:=.type "tuple",data:=.seq [c,d].toArray } }:=M.kept (t':=s1.toks) λb o e=>a8 _ e;rw[K];refine ae (ao ?_);show wA X (do rule "assign.swapped-stores"; let items <- unpackItems (.ref s1.aj) 2 none;assignInOrder [λv=>bindName X.env y v,λv=>bindName X.env x v] items.reverse;pure abn) _ _ _;refine ae (jf (ae (unpackItems_tuple (items:= #[c,d]) (I.ok.hd E) (IsTup.new s1.heap _) λh' C=>?_)));have T:=S.kept (h':=h') (t':=s1.toks) λb o e=>C b o (bI (bt e)) e;show Ut _ _ (assignInOrder [λv=>bindName X.env y v,λv=>bindName X.env x v] [d,c] >>= λ_=>pure abn) _ _ _;refine ae (FW (wpAny_bindName (nq T r F (.inl u) B (λs2 U=>?_) (.inr u))));refine FW (wpAny_bindName (nq U r hi (.inl t) P (λV z=>assignInOrder_nil (ao ?_)) (.inr t)));rw[List.set_comm _ _ (aP A)]at z;exact⟨_,Y,z,n⟩
def Mn(c:TT)(tb:TS):TS:=λD σ H=>∃W:Nat->St->Hp->Prop,(∃m,W m σ H) /\∀m σ H,W m σ H ->
 c σ H λb Y=>if b=true then ∃N:St->Hp->Prop,(∀cy H',N cy H' ->∃m',m'<m/\W m' cy H')/\tb { D with nx:=N,ct:=N,bk:=D.nx } σ Y else D.nx σ Y
theorem nu{tc:TT}(q:PassesOwn X.c' X.A X.env X.xe)(w:PT X c tc)(x:d8 X body tb):PS X (.While c body [] pos) (Mn tc tb):=by
 rintro J s σ H D I ⟨W,⟨y,z⟩,u⟩;refine wpAny_While (codeAny_whileLoop (λn s'=>∃p H',Inv X J p H' s'/\W n p H') ?_ y ⟨σ,H,I,z⟩);rintro n s1 ⟨e,Y,B,C⟩;refine mR q (aG (w J s1 e Y _ B (u n e Y C)) λb s2 F=>?_);obtain⟨H2,r,g⟩:=F;cases b with
 |true =>
  obtain⟨N,t,g⟩:=g;rw[ay rfl];refine mR q (aG (x J s2 e H2 _ r g) λf E i=>?_);cases f with
  |next =>
   obtain⟨a,d,j,k⟩:=i;obtain⟨l,m,o⟩:=t a d k;exact⟨l,m,a,d,j,o⟩
  |cont =>
   obtain⟨a,d,j,k⟩:=i;obtain⟨l,m,o⟩:=t a d k;exact⟨l,m,a,d,j,o⟩
  |brk=>exact i
  |ret v=>exact i
 |false =>
  rw[aq b9];exact oN ⟨e,H2,r,g⟩
structure It where
 go:Nat->Hp->Prop
 ja:Nat->Hp->V->Hp->Prop
 stop:Nat->Hp->Prop
def fX(X:Cx)(J:List (Up×Ye))(H:Hp)(b:Up):Prop:=
 H b=none/\b≠X.env.locals/\b ∉ X.fs/\(b∈X.ex\/X.d0.heap.objs.size<=b)/\(∀x c,X.env.cells.lookup x=ih c->c≠b) /\∀p∈X.pn++J,p.1≠b
theorem Inv.i1(I:Inv X J σ H s)(a:s.aj<=b)(d:H' b=none):fX X J H' b:=by
 refine⟨d,jg (eU I.lt a),I.OA a,.inr (et I.sz a),λx c e z=>?_,λp f z=>?_⟩
 ·obtain⟨v,q⟩:=I.cell x c e
  exact absurd (eU q.lt (by rw[z];exact a)) (iA _)
 ·exact absurd (eU (bt (I.pin p f).1) (by rw[z];exact a)) (iA _)
structure Turn(P:XJ)(w:XT)(K:UI)(tg:Vc)(J1:It)(fp:List Up)(it:Up)(tn:Nat->XD->Prop):Prop where
 mem:it∈fp
 obj:∀i h,tn i h ->∀b∈fp,∃o,h.get? b=ih o /\∀v,o.data ≠ .cell v
 keep:∀i h h',tn i h->(∀b∈fp,∀o,h.get? b=ih o->h'.get? b=ih o)->tn i h'
 item:∀(X:Cx),X.prog=P->X.w=w->X.K=K->X.calm=true ->∀(i:Nat) J s σ H (E:i'->Ur->Prop),Inv X J σ H s->(∀b∈fp,fX X J H b)->tn i s.heap->J1.go i H ->
  Ut (UK P w) X.A (pyNext (.ref it)) (λr s1=>∃u,r=ih u /\
   Ut (UK P w) X.A (letOwnedTupleGo tg (.ref it) u) (λ_ s2=>∃x H',Inv X J σ H' s2/\RelV x u/\J1.ja i H x H'/\tn (i+1) s2.heap /\∀b∈fp,H' b=none) E s1) E s
 done:∀(X:Cx),X.prog=P->X.w=w->X.K=K->X.calm=true ->∀(i:Nat) J s σ H (E:i'->Ur->Prop),Inv X J σ H s->(∀b∈fp,fX X J H b)->tn i s.heap->J1.stop i H ->
  Ut (UK P w) X.A (pyNext (.ref it)) (λr s1=>r=none/\Inv X J σ H s1) E s
 self:∀(A:XW) (i:Nat) (s:Ur) (Q:i'->Ur->Prop) (E:i'->Ur->Prop),tn i s.heap->Q (.ref it) s->Ut (UK P w) A (pyIter (.ref it)) Q E s
abbrev TI:=St->Hp->(It->Hp->Prop)->Prop
def vK(X:Cx)(J:List (Up×Ye))(σ:St)(tg:Vc)(R:It->Hp->Prop)(P2:i')(s2:Ur):Prop:=
 ∃(it:Up) (fp:List Up) (tn:Nat->XD->Prop) (J1:It) (H':Hp),P2=.ref it/\Inv X J σ H' s2/\Turn X.prog X.w X.K tg J1 fp it tn/\tn 0 s2.heap/\(∀b∈fp,fX X J H' b)/\R J1 H'
def PI(X:Cx)(tg iter:Vc)(wi:TI):Prop:=
 ∀J s σ H (R:It->Hp->Prop),Inv X J σ H s->wi σ H R ->
  wA X (eval iter X.env) (λv s1=>wA X (pyIter v) (vK X J σ tg R) X.xe s1) X.xe s
theorem qA{M:Zb}{n:String}{vs:Array i'}{Q:Unit->Ur->Prop}(b:s.heap.get? it=ih o)(c:o.cls=.type n)(d:o.data=.fields vs)
  (e : ["enumerate","zip","dict_itemiterator","dict_reverseitemiterator","odict_iterator","itertools.zip_longest","itertools.pairwise"].contains n=false) (a:Q () s):Ut M A (letOwnedTupleGo tg (.ref it) u) Q E s:=by
 unfold letOwnedTupleGo;cases tg <;> first
  |exact ao a
  |(cases u <;> first
    |exact ao a
    |(refine ae (oO b ?_);rw[c,d];show Ut M A (if (["enumerate","zip","dict_itemiterator","dict_reverseitemiterator","odict_iterator","itertools.zip_longest","itertools.pairwise"].contains n&&vs[0]? == ih (rawInt _))=true then _ else _) Q E s;rw[aq (by intro h;rw[e,Bool.false_and]at h;cases h)];exact ao a))
def jU(K:UI)(a:Up):It:=
 ⟨λi H=>∃xs x,au K H a xs/\xs[i]?=ih x,λi H x H'=>H'=H /\∀xs,au K H a xs->xs[i]?=ih x,λi H=>∃xs,au K H a xs/\xs.length<=i⟩
def jb(K:UI)(a:Up):It:=
 ⟨λi H=>∃xs x,aZ K H a xs/\xs[i]?=ih x,λi H x H'=>H'=H /\∀xs,aZ K H a xs->xs[i]?=ih x,λi H=>∃xs,aZ K H a xs/\xs.length<=i⟩
def lp(lo:Int)(n:Nat):It:=⟨λi _=>i<n,λi H x H'=>H'=H/\x=.int (lo+i),λi _=>n<=i⟩
theorem IQ(a it:Up):Turn P w K tg (jU K a) [it] it (λi h=>h.IsListIter it a i) where
 mem:=by simp
 obj:=λi h st b f=>by
  have e:b=it:=by simpa using f
  subst e;obtain⟨o,e,c,d⟩:=st;exact⟨o,e,λv z=>by rw[d]at z;cases z⟩
 keep:=λi h h' st k=>st.at λo e=>k it (by simp) o e
 item:=by
  intro X l m n F i J s σ H E I g st q;subst l m n;obtain⟨xs,x,j,r⟩:=q;obtain⟨its,t,p,G⟩:=I.list j;obtain⟨u,L,M⟩:=t.get r;obtain⟨f0,y,N,A,B,C⟩:=g it (by simp)
  refine wpAny_pyNext_list_item st p.isList (x:=u) (by simpa using L) λh' D O=>?_
  have Q:Inv X J σ H { s with heap:=h' }:=I.turned (t':=s.toks) (λb o f e=>(O.2 b f).trans e) f0 y A B C;obtain⟨o,e,c,d⟩:=id D;exact⟨u,rfl,qA (s:={ s with heap:=h' }) e c d (by decide) ⟨x,H,Q,M,⟨rfl,λys R=>by rw[I.BI R j];exact r⟩,D,λb f=>(g b f).1⟩⟩
 done:=by
  intro X l m n F i J s σ H E I g st q;subst l m n;obtain⟨xs,j,r⟩:=q;obtain⟨its,t,p,G⟩:=I.list j;obtain⟨f0,y,N,A,B,C⟩:=g it (by simp)
  have T:=t.length;exact wpAny_pyNext_list_end (I.ok.hd F) st p.isList (by simp;omega) λh' S=>⟨rfl,I.turned (t':=s.toks) (λb o f e=>S b o f e) f0 y A B C⟩
 self:=λ_ _ _ _ _ st h=>wpAny_pyIter_listiter st h
theorem HW(a it:Up):Turn P w K tg (jb K a) [it] it (λi h=>h.IsTupleIter it a i) where
 mem:=by simp
 obj:=λi h st b f=>by
  have e:b=it:=by simpa using f
  subst e;obtain⟨o,e,c,d⟩:=st;exact⟨o,e,λv z=>by rw[d]at z;cases z⟩
 keep:=λi h h' st k=>st.at λo e=>k it (by simp) o e
 item:=by
  intro X l m n F i J s σ H E I g st q;subst l m n;obtain⟨xs,x,j,r⟩:=q;obtain⟨its,t,p,G⟩:=I.tuple j;obtain⟨u,L,M⟩:=t.get r;obtain⟨f0,y,N,A,B,C⟩:=g it (by simp)
  refine wpAny_pyNext_tuple_item st (show s.heap.IsTuple a its.toArray from p) (x:=u) (by simpa using L) λh' D O=>?_
  have Q:Inv X J σ H { s with heap:=h' }:=I.turned (t':=s.toks) (λb o f e=>(O.2 b f).trans e) f0 y A B C;obtain⟨o,e,c,d⟩:=id D;exact⟨u,rfl,qA (s:={ s with heap:=h' }) e c d (by decide) ⟨x,H,Q,M,⟨rfl,λys R=>by rw[I.IP R j];exact r⟩,D,λb f=>(g b f).1⟩⟩
 done:=by
  intro X l m n F i J s σ H E I g st q;subst l m n;obtain⟨xs,j,r⟩:=q;obtain⟨its,t,p,G⟩:=I.tuple j;obtain⟨f0,y,N,A,B,C⟩:=g it (by simp)
  have T:=t.length;exact wpAny_pyNext_tuple_end (I.ok.hd F) st (show s.heap.IsTuple a its.toArray from p) (by simp;omega) λh' S=>⟨rfl,I.turned (t':=s.toks) (λb o f e=>S b o f e) f0 y A B C⟩
 self:=λ_ _ _ _ _ st h=>wpAny_pyIter_tupleiter st h
theorem HX(it:Up)(lo:Int)(n:Nat):Turn P w K tg (lp lo n) [it] it (λi h=>IsRangeIter h it (lo+(i:Nat) * 1) ((n:Int) - (i:Nat)) 1) where
 mem:=by simp
 obj:=λi h st b a=>by
  have e:b=it:=by simpa using a
  subst e;exact⟨_,st,λv z=>by
   have x:Data.fields _=Data.cell v:=z;cases x⟩
 keep:=λi h h' st k=>k it (by simp) _ st
 item:=by
  intro X d f g j i J s σ H E I c st l;subst d f g;obtain⟨f0,m,y,p,q,r⟩:=c it (by simp)
  have W:=Walks.range (prog:=X.prog) (w:=X.w) (I.ok.hd j) it lo 1 n;refine W.item i s _ _ l st λv h' tk hv u kk=>?_;obtain⟨t,rfl⟩:=hv;have A:Inv X J σ H { s with heap:=h',toks:=tk }:=I.turned (λb o a e=>kk b o (by simpa using a) e) f0 m p q r
  refine⟨_,rfl,qA (s:={ s with heap:=h',toks:=tk }) (n:= "range_iterator") u rfl rfl (by decide) ⟨.int (lo+i),H,A,⟨t,?_⟩,⟨rfl,rfl⟩,u,λb a=>(c b a).1⟩⟩
  rw[Int.mul_one]
 done:=by
  intro X d f g j i J s σ H E I c st l;subst d f g;obtain⟨f0,m,y,p,q,r⟩:=c it (by simp)
  exact wpAny_pyNext_range_end (I.ok.hd j) st (by have:n<=i:=l;omega) λh' B=>⟨rfl,I.turned (t':=s.toks) (λb o a e=>B b o a e) f0 m p q r⟩
 self:=λ_ _ _ _ _ st h=>wpAny_pyIter_rangeiter st h
def Dt(K:UI)(tl:TE):TI:=λσ H R=>tl σ H λx Y=>∃a,x=.ref a/\(∃xs,au K Y a xs)/\R (jU K a) Y
def DQ(K:UI)(tl:TE):TI:=λσ H R=>tl σ H λx Y=>∃a,x=.ref a/\(∃xs,aZ K Y a xs)/\R (jb K a) Y
theorem dt{l:Vc}(d:PE X l tl):PI X tg l (Dt X.K tl):=by
 intro J s σ H R I h;refine aG (d J s σ H _ I h) λv s1 n=>?_;obtain⟨x,Y,c,f,g⟩:=n;obtain⟨a,e,⟨xs,i⟩,q⟩:=g;subst e;cases f
 obtain⟨its,k,p,m⟩:=c.list i;refine rZ p.isList ?_;refine⟨s1.aj,[s1.aj],_,_,Y,rfl,c.kept (t':=s1.toks) λb o e=>a8 _ e,IQ a _,⟨_,b5 _ rfl,rfl,rfl⟩,λb j=>?_,q⟩;have e:b=s1.aj:=by simpa using j
 subst e;exact c.i1 (aU _) (c.aJ.fresh (aU _))
theorem kH{l:Vc}(d:PE X l tl):PI X tg l (DQ X.K tl):=by
 intro J s σ H R I h;refine aG (d J s σ H _ I h) λv s1 n=>?_;obtain⟨x,Y,c,f,g⟩:=n;obtain⟨a,e,⟨xs,i⟩,q⟩:=g;subst e;cases f
 obtain⟨its,k,p,m⟩:=c.tuple i;refine wpAny_pyIter_tuple (show s1.heap.IsTuple a its.toArray from p) ?_;refine⟨s1.aj,[s1.aj],_,_,Y,rfl,c.kept (t':=s1.toks) λb o e=>a8 _ e,HW a _,⟨_,b5 _ rfl,rfl,rfl⟩,λb j=>?_,q⟩;have e:b=s1.aj:=by simpa using j
 subst e;exact c.i1 (aU _) (c.aJ.fresh (aU _))
theorem JG{R:It->Hp->Prop}{hi:Int}{t u v:Tok}{tk:Nat}(I:Inv X J σ H s)(h1 : -(2 ^ 62)<=lo)(h2:lo<2 ^ 62)(c : -(2 ^ 62)<=hi)(d:hi<2 ^ 62)
  (q:R (lp lo (hi - lo).toNat) H):wA X (pyIter (.ref s.heap.objs.size)) (vK X J σ tg R) E { s with heap:=s.heap.push { cls:=.type "range",data:=.fields #[.int lo t,.int hi u,.int 1 v] },toks:=tk }:=by
 refine wpAny_pyIter_range (IsRange.new ..) (small_one h1 h2 c d) ?_;have a:Inv X J σ H { s with heap:=s.heap.push { cls:=.type "range",data:=.fields #[.int lo t,.int hi u,.int 1 v] },toks:=tk }:=I.kept λb o e=>a8 _ e;refine⟨(s.heap.push { cls:=.type "range",data:=.fields #[.int lo t,.int hi u,.int 1 v] }).objs.size,[(s.heap.push { cls:=.type "range",data:=.fields #[.int lo t,.int hi u,.int 1 v] }).objs.size],_,_,H,rfl,
  a.kept (t':=tk) λb o e=>a8 _ e,HX _ lo (hi - lo).toNat,?_,λb f=>?_,q⟩
 ·have e1:lo+((0:Nat):Int) * 1=lo:=by simp
  have e2:(((hi - lo).toNat:Nat):Int) - ((0:Nat):Int)=aaP lo hi 1:=by rw[rangeSize_one];split <;> omega
  show IsRangeIter _ _ (lo+((0:Nat):Int) * 1) ((((hi - lo).toNat:Nat):Int) - ((0:Nat):Int)) 1;rw[e1,e2];exact b5 _ rfl
 ·have e:b=(s.heap.push { cls:=.type "range",data:=.fields #[.int lo t,.int hi u,.int 1 v] }).objs.size:=by simpa using f
  subst e;exact a.i1 (aU _) (a.aJ.fresh (aU _))
def Na(ta:TA):TI:=λσ H R=>ta σ H λvs Y=>∃j:Int,vs=[.int j] /\ -(2 ^ 62)<=j/\j<2 ^ 62/\R (lp 0 j.toNat) Y
theorem iK{a:Vc}{ta:TA}{p:Zx}(c:Gl X "range")(d:X.mg "range" = none)(f:PA X [a] ta)(g:US [a] X.env=[(false,eval a X.env)]:=by rfl):PI X tg (.Call (.Name "range" p) [a] [] pos) (Na ta):=by
 intro J s σ H R I h;refine Call_ (nN I c d boot_range (FX (aG (f pos J s σ H _ I h) λus s1 n=>?_) g rfl));obtain⟨vs,Y,i,k,b⟩:=n;obtain⟨j,e,b,l,q⟩:=b;subst e;cases k with
 |cons r m =>
  cases m
  obtain⟨t,rfl⟩:=r;exact call_range_1 (JG i (by omega) (by omega) b l (by simpa using q))
def OJ(wi:TI)(g:TG)(tb:TS):TS:=λD σ H=>wi σ H λJ1 Y=>∃W:Nat->Nat->St->Hp->Prop,(∃m,W 0 m σ Y) /\∀i m σ H,W i m σ H ->
 (J1.stop i H/\D.nx σ H)\/(J1.go i H /\∃N:St->Hp->Prop,(∀cy H',N cy H' ->∃m',m'<m/\W (i+1) m' cy H') /\∀x H',J1.ja i H x H'->g x σ H' λP4 H2=>tb { D with nx:=N,ct:=N,bk:=D.nx } P4 H2)
def nO(fp:List Up)(h:XD):List (Up×Ye):=fp.filterMap λb=>(h.get? b).map λo=>(b,o)
theorem pe(a:b∈fp)(e:h.get? b=ih o):(b,o)∈nO fp h:=oM.mpr ⟨b,a,by rw[e];rfl⟩
theorem IS{p:Up×Ye}(a:p∈nO fp h):p.1∈fp/\h.get? p.1=ih p.2:=by
 obtain⟨b,c,e⟩:=oM.mp a;cases q:h.get? b with
 |none=>rw[q]at e;cases e
 |some o =>
  rw[q]at e;have d:(b,o)=p:=cZ e;subst d;exact⟨c,q⟩
theorem Inv.pinned(I:Inv X J σ H s)(f:∀b∈fp,fX X J H b)(g:∀b∈fp,∃o,s.heap.get? b=ih o /\∀v,o.data ≠ .cell v):Inv X (J++nO fp s.heap) σ H s:=
 I.Ct λp h=>(cj.mp h).elim (λz=>I.pin p (eV _ z)) λz=>by
  obtain⟨a,e⟩:=IS z;obtain⟨f0,i,j,_⟩:=f p.1 a;obtain⟨o,c,d⟩:=g p.1 a;rw[e]at c;cases c;exact⟨e,f0,i,j,d⟩
theorem Inv.pF{pl:am (Up×Ye)}(I:Inv X (J++pl) σ H s):Inv X J σ H s:=I.Ct λp a=>I.pin p (eV _ (gY _ a))
theorem fk{wi:TI}{g:TG}(t:PassesOwn X.c' X.A X.env X.xe)(K:X.calm=true)(hi:PI X tg iter wi)(xa:PG X tg g)(c:d8 X body tb)
  (ya:∀x,foldedSetIterable iter X.env x=pure x:=by intro _;rfl):PS X (.For tg iter body [] pos) (OJ wi g tb):=by
 intro J s σ H D I h;refine wpAny_For (aG (hi J s σ H _ I h) λv s1 h1=>aG h1 λyh s2 h2=>?_) ya;obtain⟨it,fp,tn,zh,H2,e,za,T,S,L,W,⟨xb,yb⟩,R⟩:=h2;subst e;have z:∀{H':Hp},(∀b∈fp,H' b=none) ->∀b∈fp,fX X J H' b:=λzb b c=>⟨zb b c,(L b c).2⟩;refine codeAny_forLoop_any (λn s'=>∃i p H',Inv X J p H' s'/\tn i s'.heap/\(∀b∈fp,H' b=none)/\W i n p H') ?_ xb ⟨0,σ,H2,za,S,λb c=>(L b c).1,yb⟩;rintro n M ⟨i,q,y,O,F,G,xc⟩;rcases R i n q y xc with⟨stop,qn⟩|⟨go,N,yc,step⟩
 ·refine mR t (aG (T.done X rfl rfl rfl K i J M q y X.xe O (z G) F stop) λr zc ⟨C,xd⟩=>?_)
  subst C;exact oN ⟨q,y,xd,qn⟩
 ·refine mR t (aG (T.item X rfl rfl rfl K i J M q y X.xe O (z G) F go) λr zc aa=>?_);obtain⟨u,C,yd⟩:=aa
  subst C;refine mR t (aG yd λ_ P aa=>?_);obtain⟨x,Q,zd,ye,y5,B,U⟩:=aa;have V:=zd.pinned (z U) (T.obj _ _ B);refine mR t (aG (xa _ P q Q x u _ V ye (step x Q y5)) λ_ ze aa=>?_);obtain⟨Y,xf,yf,zf⟩:=aa;refine mR t (aG (c _ ze Y xf _ yf zf) λf E l=>?_);have again:∀{a:St}{j:Hp},Inv X (J++nO fp P.heap) a j E->N a j ->∃m,m<n /\∃i p H',Inv X J p H' E/\tn i E.heap/\(∀b∈fp,H' b=none)/\W i m p H':=λ{a j} k w=>by
   obtain⟨xg,yg,zg⟩:=yc a j w;refine⟨xg,yg,i+1,a,j,k.pF,T.keep _ _ _ B λb c o e=>(k.pin (b,o) (eV _ (eV _ (pe c e)))).1,λb c=>?_,zg⟩;obtain⟨o,e,d⟩:=T.obj _ _ B b c;exact(k.pin (b,o) (eV _ (eV _ (pe c e)))).2.1
  cases f with
  |next=>obtain⟨a,j,k,w⟩:=l;exact again k w
  |cont=>obtain⟨a,j,k,w⟩:=l;exact again k w
  |brk=>obtain⟨a,j,k,l⟩:=l;exact⟨a,j,k.pF,l⟩
  |ret v=>obtain⟨x7,a,j,k,xh,l⟩:=l;exact⟨x7,a,j,k.pF,xh,l⟩
theorem jv{g:TG}{D:Ends}(Pv:Nat->St->Hp->Prop)(h0:Pv 0 σ H)(h:∀i σ H,i<=xs.length->Pv i σ H->au K H a xs)
  (j:∀i x σ H,xs[i]?=ih x->Pv i σ H->g x σ H λb H2=>tb { D with nx:=Pv (i+1),ct:=Pv (i+1),bk:=D.nx } b H2) (k:∀σ H,Pv xs.length σ H->D.nx σ H) :
  ∃W:Nat->Nat->St->Hp->Prop,(∃m,W 0 m σ H) /\∀i m σ H,W i m σ H ->
   ((jU K a).stop i H/\D.nx σ H)\/((jU K a).go i H /\∃N:St->Hp->Prop,(∀c H',N c H' ->∃f,f<m/\W (i+1) f c H') /\∀x H',(jU K a).ja i H x H'->g x σ H' λb H2=>tb { D with nx:=N,ct:=N,bk:=D.nx } b H2):=by
 refine⟨λi m σ H=>m=xs.length - i/\i<=xs.length/\Pv i σ H,⟨xs.length,by simp,bx _,h0⟩,?_⟩
 rintro i m σ H ⟨rfl,hi,p⟩;have q:=h i σ H hi p
 by_cases d:i<xs.length
 ·refine .inr ⟨⟨xs,xs[i],q,by simp[d]⟩,Pv (i+1),λc H' l=>⟨xs.length - (i+1),by omega,rfl,d,l⟩,λx H' y=>?_⟩
  obtain⟨e,y⟩:=y;subst e;exact j i x σ _ (y xs q) p
 ·have e:i=xs.length:=by omega
  subst e;exact .inl ⟨⟨xs,q,aU _⟩,k σ H p⟩
theorem K2{g:TG}{D:Ends}(Pv:Nat->St->Hp->Prop)(h0:Pv 0 σ H)(h:∀i σ H,i<=xs.length->Pv i σ H->aZ K H a xs)
  (j:∀i x σ H,xs[i]?=ih x->Pv i σ H->g x σ H λb H2=>tb { D with nx:=Pv (i+1),ct:=Pv (i+1),bk:=D.nx } b H2) (k:∀σ H,Pv xs.length σ H->D.nx σ H) :
  ∃W:Nat->Nat->St->Hp->Prop,(∃m,W 0 m σ H) /\∀i m σ H,W i m σ H ->
   ((jb K a).stop i H/\D.nx σ H)\/((jb K a).go i H /\∃N:St->Hp->Prop,(∀c H',N c H' ->∃f,f<m/\W (i+1) f c H') /\∀x H',(jb K a).ja i H x H'->g x σ H' λb H2=>tb { D with nx:=N,ct:=N,bk:=D.nx } b H2):=by
 refine⟨λi m σ H=>m=xs.length - i/\i<=xs.length/\Pv i σ H,⟨xs.length,by simp,bx _,h0⟩,?_⟩
 rintro i m σ H ⟨rfl,hi,p⟩;have q:=h i σ H hi p
 by_cases d:i<xs.length
 ·refine .inr ⟨⟨xs,xs[i],q,by simp[d]⟩,Pv (i+1),λc H' l=>⟨xs.length - (i+1),by omega,rfl,d,l⟩,λx H' y=>?_⟩
  obtain⟨e,y⟩:=y;subst e;exact j i x σ _ (y xs q) p
 ·have e:i=xs.length:=by omega
  subst e;exact .inl ⟨⟨xs,q,aU _⟩,k σ H p⟩
theorem lR{n:Nat}{g:TG}{D:Ends}(Pv:Nat->St->Hp->Prop)(h0:Pv 0 σ H)
  (f:∀i σ H,i<n->Pv i σ H->g (.int (lo+i)) σ H λa H2=>tb { D with nx:=Pv (i+1),ct:=Pv (i+1),bk:=D.nx } a H2) (h:∀σ H,Pv n σ H->D.nx σ H) :
  ∃W:Nat->Nat->St->Hp->Prop,(∃m,W 0 m σ H) /\∀i m σ H,W i m σ H ->
   ((lp lo n).stop i H/\D.nx σ H)\/((lp lo n).go i H /\∃N:St->Hp->Prop,(∀b H',N b H' ->∃d,d<m/\W (i+1) d b H') /\∀x H',(lp lo n).ja i H x H'->g x σ H' λa H2=>tb { D with nx:=N,ct:=N,bk:=D.nx } a H2):=by
 refine⟨λi m σ H=>m=n - i/\i<=n/\Pv i σ H,⟨n,by simp,bx _,h0⟩,?_⟩
 rintro i m σ H ⟨rfl,hi,p⟩
 by_cases c:i<n
 ·refine .inr ⟨c,Pv (i+1),λb H' j=>⟨n - (i+1),by omega,rfl,c,j⟩,λx H' y=>?_⟩
  obtain⟨e,y⟩:=y;subst e y;exact f i σ _ c p
 ·have e:i=n:=by omega
  subst e;exact .inl ⟨aU _,h σ H p⟩
abbrev R2:=V->V->Hp->VK->Prop
def cg(X:Cx)(f:i'->i'->YK i')(r:R2):Prop:=
 ∀J s σ H (x y:V) (v u:i') (Q:VK),Inv X J σ H s->RelV x v->RelV y u->r x y H Q ->
  wA X (f v u) (EP X J σ Q) X.xe s
def vL(X:Cx)(f:i'->YK i')(r:V->Hp->VK->Prop):Prop:=
 ∀J s σ H (x:V) (v:i') (Q:VK),Inv X J σ H s->RelV x v->r x H Q ->
  wA X (f v) (EP X J σ Q) X.xe s
def c2(X:Cx)(f:i')(r:List V->Hp->VK->Prop):Prop:=
 ∀J s σ H (xs:List V) (us:List i') (Q:VK),Inv X J σ H s->Vals xs us->r xs H Q ->
  wA X (call f us) (EP X J σ Q) X.xe s
def OK(X:Cx)(r:V->Hp->(Bool->Hp->Prop)->Prop):Prop:=
 ∀J s σ H (x:V) (v:i') (Q:Bool->Hp->Prop),Inv X J σ H s->RelV x v->r x H Q ->
  wA X (truthy v) (TP X J σ Q) X.xe s
def jV(r:R2)(ta tb:TE):TE:=λσ H Q=>ta σ H λx Y=>tb σ Y λy H2=>r x y H2 Q
def P6(r:V->Hp->VK->Prop)(ta:TE):TE:=λσ H Q=>ta σ H λx Y=>r x Y Q
def rI(C:Int->Int->Prop)(g:Int->Int->V):R2:=λx y H Q=>∃i j,x=.int i/\y=.int j/\C i j/\Q (g i j) H
def lq(g:Int->Int->V):R2:=λx y H Q=>∃i j,x=.int i/\y=.int j/\Q (g i j) H
def rU(g:Int->V):V->Hp->VK->Prop:=λx H Q=>∃i,x=.int i/\Q (g i) H
section
variable{a b:Vc}{tb tc:TE}
theorem vg(e:PE X a ta)(g:PE X b tb){R:V->V->Hp->Prop}(I:Inv X J σ H s)
  (h:ta σ H λx Y=>tb σ Y λy H2=>R x y H2) {Q:i'->Ur->Prop}{f:i'->i'->YK i'}
  (i:∀v u s2 x y H2,Inv X J σ H2 s2->RelV x v->RelV y u->R x y H2->wA X (f v u) Q X.xe s2) :
  wA X (eval a X.env) (λv c=>wA X (eval b X.env) (λu d=>wA X (f v u) Q X.xe d) X.xe c) X.xe s:=by
 refine aG (e J s σ H _ I h) λv s1 p=>?_;obtain⟨x,Y,j,k,l⟩:=p;refine aG (g J s1 σ Y _ j l) λu s2 p=>?_;obtain⟨y,H2,m,n,o⟩:=p;exact i v u s2 x y H2 m k n o
theorem bO{op:abk}{r:R2}(c:cg X (X7 op) r)(d:PE X a ta)(e:PE X b tb):PE X (.BinOp a op b pos) (jV r ta tb):=by
 intro J s σ H Q I h;exact wpAny_BinOp (vg d e I h λv u s2 x y H2 f g i q=>c J s2 σ H2 x y v u Q f g i q)
theorem mu{op:UnaryOp}{r:V->Hp->VK->Prop}(b:vL X (unaryOp op) r)(c:PE X a ta):PE X (.UnaryOp op a pos) (P6 r ta):=by
 intro J s σ H Q I h;exact UnaryOp_ (aG (c J s σ H _ I h) λv s1 ⟨x,Y,d,e,f⟩=>b J s1 σ Y x v Q d e f)
theorem mI{f:i'->i'->YK i'}{C:Int->Int->Prop}{g:Int->Int->Int}
  (rule:∀(i j:Int) (t u:Tok) (s:Ur) (Q:i'->Ur->Prop) (E:i'->Ur->Prop),C i j->Q (.int (g i j) s.toks) { s with toks:=s.toks+1 }->wA X (f (.int i t) (.int j u)) Q E s) :
  cg X f (rI C λi j=>.int (g i j)):=by
 rintro J s σ H x y v u Q I a b ⟨i,j,rfl,rfl,c,q⟩;obtain⟨t,rfl⟩:=a;obtain⟨t',rfl⟩:=b;exact rule i j t t' s _ _ c ⟨.int (g i j),H,I.tok _,⟨_,rfl⟩,q⟩
theorem DR{f:i'->i'->YK i'}{g:Int->Int->Int}
  (rule:∀(i j:Int) (t u:Tok) (s:Ur) (Q:i'->Ur->Prop) (E:i'->Ur->Prop),Q (.int (g i j) s.toks) { s with toks:=s.toks+1 }->wA X (f (.int i t) (.int j u)) Q E s) :
  cg X f (lq λi j=>.int (g i j)):=by
 rintro J s σ H x y v u Q I a b ⟨i,j,rfl,rfl,q⟩;obtain⟨t,rfl⟩:=a;obtain⟨t',rfl⟩:=b;exact rule i j t t' s _ _ ⟨.int (g i j),H,I.tok _,⟨_,rfl⟩,q⟩
theorem vh{f:i'->i'->YK i'}{g:Int->Int->Bool}
  (rule:∀(i j:Int) (t u:Tok) (s:Ur) (Q:i'->Ur->Prop) (E:i'->Ur->Prop),Q (.bool (g i j)) s->wA X (f (.int i t) (.int j u)) Q E s) :
  cg X f (lq λi j=>.bl (g i j)):=by
 rintro J s σ H x y v u Q I a b ⟨i,j,rfl,rfl,q⟩;obtain⟨t,rfl⟩:=a;obtain⟨t',rfl⟩:=b;exact rule i j t t' s _ _ ⟨.bl (g i j),H,I,rfl,q⟩
def OL(i j:Int):Prop:=0<j/\j<1073741824
def OM(i j:Int):Prop:=0<=j/\j<=1000000/\i.natAbs<2 ^ 64
def oi(i j:Int):Prop:=(-(2 ^ 64)<i/\i<2 ^ 64)\/(-(2 ^ 64)<j/\j<2 ^ 64)
theorem oi.ok{i j:Int}(h:oi i j):IntMulOk i j:=by
 rcases h with⟨h1,h2⟩|⟨h1,h2⟩
 ·exact .of_left (intBits_le_64 h1 h2)
 ·exact .of_right (intBits_le_64 h1 h2)
theorem fK:cg X (X7 .Add) (lq λi j=>.int (i+j)):=DR λ_ _ _ _ _ _ _ q=>add_int q
theorem jD:cg X (X7 .Sub) (lq λi j=>.int (i - j)):=DR λ_ _ _ _ _ _ _ q=>sub_int q
theorem nP:cg X (X7 .Mult) (rI oi λi j=>.int (i * j)):=mI λ_ _ _ _ _ _ _ a q=>mul_int q a.ok
theorem K3:cg X (X7 .FloorDiv) (rI OL λi j=>.int (i / j)):=mI λi j _ _ _ _ _ a q=>by
 have h1:(0:Int)<j:=a.1;have h2:j<1073741824:=a.2;exact floordiv_int (by omega) (by rw[Uu i (by omega)];exact q) (.inl (PyProof.noPylong_small (by omega)))
theorem l':cg X (X7 .Mod) (rI (λ_ j=>0<j) λi j=>.int (i % j)):=mI λi j _ _ _ _ _ a q=>by
 have h1:(0:Int)<j:=a;exact mod_int' (by omega) (by rw[Int.fmod_eq_emod_of_nonneg i (by omega)];exact q)
theorem ur:cg X (X7 .Pow) (rI OM λi j=>.int (i ^ j.toNat)):=mI λ_ _ _ _ _ _ _ a q=>pow_int_small a.1 a.2.1 a.2.2 q
theorem K4:cg X (inplaceOp .Mult) (rI oi λi j=>.int (i * j)):=mI λ_ _ _ _ _ _ _ a q=>imul_int q a.ok
theorem P7{f:i'->YK i'}{g:Int->Int}
  (rule:∀(i:Int) (t:Tok) (s:Ur) (Q:i'->Ur->Prop) (E:i'->Ur->Prop),Q (.int (g i) s.toks) { s with toks:=s.toks+1 }->wA X (f (.int i t)) Q E s) :
  vL X f (rU λi=>.int (g i)):=by
 rintro J s σ H x v Q I a ⟨i,rfl,q⟩;obtain⟨t,rfl⟩:=a;exact rule i t s _ _ ⟨.int (g i),H,I.tok _,⟨_,rfl⟩,q⟩
theorem ma:vL X (unaryOp .USub) (rU λi=>.int (-i)):=P7 λ_ _ _ _ _ q=>neg_int q
end
def DS:V->V->Bool
 |.aO,.aO=>true|.aO,.int _=>true|.int _,.aO=>true|.aO,.bl _=>true|.bl _,.aO=>true|.aO,.str _=>true|.str _,.aO=>true
 |.int _,.int _=>true|.bl _,.bl _=>true|.str _,.str _=>true|.f6 _,.f6 _=>true
 |.int _,.str _=>true|.str _,.int _=>true|.bl _,.str _=>true|.str _,.bl _=>true
 |_,_=>false
def P8:R2:=λx y H Q=>DS x y=true/\Q (.bl (decide (x=y))) H
def P9:R2:=λx y H Q=>DS x y=true/\Q (.bl (!decide (x=y))) H
theorem Cv{i j:Int}:decide (V.int i=V.int j)=(i==j):=by
 rw[ly];simp
theorem C8{i j:Bool}:decide (V.bl i=V.bl j)=(i==j):=by
 rw[ly];simp
theorem Cw{i j:Gv}:decide (V.str i=V.str j)=(i==j):=by
 rw[ly];simp
theorem Cy{i j:Array UInt8}:decide (V.f6 i=V.f6 j)=(i.toList==j.toList):=by
 rw[ly];cases i
 cases j
 simp
section
variable{a b:Vc}{tb tc:TE}
theorem cG{k a:Bool}(I:Inv X J σ H s)(q:Q (.bl k) H)(e:k=a):EP X J σ Q (.bool a) s:=by
 subst e;exact⟨.bl k,H,I,rfl,q⟩
theorem ei:cg X (Xu .Eq) P8:=by
 rintro J s σ H x y v u Q I c a ⟨b,q⟩;cases x with
 |aO =>
  cases c
  cases y with
  |aO=>cases a;exact aa4 (cG I q (by simp))
  |bl j=>cases a;exact aa6 (cG I q (by simp))
  |int j=>obtain⟨t',rfl⟩:=a;exact aa5 (cG I q (by simp))
  |str j=>obtain⟨t',rfl⟩:=a;exact aa3 (cG I q (by simp))
  |_=>exact absurd (show false=true from b) b9
 |bl i =>
  cases c
  cases y with
  |aO=>cases a;exact aa8 (cG I q (by simp))
  |bl j=>cases a;exact eq_bool (cG I q C8)
  |str j=>obtain⟨t',rfl⟩:=a;exact aaL (cG I q (by simp))
  |_=>exact absurd (show false=true from b) b9
 |int i =>
  obtain⟨t,rfl⟩:=c;cases y with
  |aO=>cases a;exact aa7 (cG I q (by simp))
  |int j=>obtain⟨t',rfl⟩:=a;exact eq_int (cG I q Cv)
  |str j=>obtain⟨t',rfl⟩:=a;exact aaK (cG I q (by simp))
  |_=>exact absurd (show false=true from b) b9
 |str i =>
  obtain⟨t,rfl⟩:=c;cases y with
  |aO=>cases a;exact aa2 (cG I q (by simp))
  |bl j=>cases a;exact aaJ (cG I q (by simp))
  |int j=>obtain⟨t',rfl⟩:=a;exact aaI (cG I q (by simp))
  |str j=>obtain⟨t',rfl⟩:=a;exact eq_str (cG I q Cw)
  |_=>exact absurd (show false=true from b) b9
 |f6 i =>
  obtain⟨t,rfl⟩:=c;cases y with
  |f6 j=>obtain⟨t',rfl⟩:=a;exact PySem.W.eq_bytes (cG I q Cy)
  |_=>exact absurd (show false=true from b) b9
 |_=>cases y <;> exact absurd (show false=true from b) b9
theorem kM:cg X (Xu .NotEq) P9:=by
 rintro J s σ H x y v u Q I c a ⟨b,q⟩;cases x with
 |aO =>
  cases c
  cases y with
  |aO=>cases a;exact aaX (cG I q (by simp))
  |bl j=>cases a;exact aaZ (cG I q (by simp))
  |int j=>obtain⟨t',rfl⟩:=a;exact aaY (cG I q (by simp))
  |str j=>obtain⟨t',rfl⟩:=a;exact aaW (cG I q (by simp))
  |_=>exact absurd (show false=true from b) b9
 |bl i =>
  cases c
  cases y with
  |aO=>cases a;exact aa1 (cG I q (by simp))
  |bl j=>cases a;exact ne_bool (cG I q (c6 not C8))
  |str j=>obtain⟨t',rfl⟩:=a;exact aaH (cG I q (by simp))
  |_=>exact absurd (show false=true from b) b9
 |int i =>
  obtain⟨t,rfl⟩:=c;cases y with
  |aO=>cases a;exact aa0 (cG I q (by simp))
  |int j=>obtain⟨t',rfl⟩:=a;exact ne_int (cG I q (c6 not Cv))
  |str j=>obtain⟨t',rfl⟩:=a;exact aaG (cG I q (by simp))
  |_=>exact absurd (show false=true from b) b9
 |str i =>
  obtain⟨t,rfl⟩:=c;cases y with
  |aO=>cases a;exact aaV (cG I q (by simp))
  |bl j=>cases a;exact aaF (cG I q (by simp))
  |int j=>obtain⟨t',rfl⟩:=a;exact aaE (cG I q (by simp))
  |str j=>obtain⟨t',rfl⟩:=a;exact ne_str (cG I q (c6 not Cw))
  |_=>exact absurd (show false=true from b) b9
 |f6 i =>
  obtain⟨t,rfl⟩:=c;cases y with
  |f6 j=>obtain⟨t',rfl⟩:=a;exact PySem.W.ne_bytes (cG I q (c6 not Cy))
  |_=>exact absurd (show false=true from b) b9
 |_=>cases y <;> exact absurd (show false=true from b) b9
theorem Nb:cg X (Xu .Lt) (lq λi j=>.bl (decide (i<j))):=vh λ_ _ _ _ _ _ _ q=>lt_int q
theorem Du:cg X (Xu .LtE) (lq λi j=>.bl (decide (i<=j))):=vh λ_ _ _ _ _ _ _ q=>le_int q
theorem Nc:cg X (Xu .Gt) (lq λi j=>.bl (decide (j<i))):=vh λ_ _ _ _ _ _ _ q=>gt_int q
theorem iV:cg X (Xu .Is) (λx y H Q=>y=.aO/\Q (.bl (decide (x=.aO))) H):=by
 rintro J s σ H x y v u Q I a b ⟨rfl,q⟩;cases b
 refine is_none_gen (cG I q ?_);cases x <;> first
  |(cases a;rfl)
  |(obtain⟨t,rfl⟩:=a;rfl)
theorem bS(b:Vc){op:Zm}(h:op ≠ .In:=by decide)(h2:op ≠ .NotIn:=by decide):behindInMarks op b=false:=by
 have e1:(op==abo)=false:=by cases op <;> first|rfl|exact absurd rfl h
 have e2:(op==aav)=false:=by cases op <;> first|rfl|exact absurd rfl h2
 cases b <;> simp[behindInMarks,e1,e2]
theorem jy{op:Zm}{r:R2}(c:cg X (Xu op) r)(d:PE X a ta)(e:PE X b tb)(f:behindInMarks op b=false):PE X (.Compare a [op] [b] pos) (jV r ta tb):=by
 intro J s σ H Q I h;exact wpAny_Compare1 (vg d e I h λv u s2 x y H2 g i j q=>c J s2 σ H2 x y v u Q g i j q) f
def qB(t:TE):TT:=λσ H Q=>t σ H λx H'=>∃k,x=.bl k/\Q k H'
theorem bJ{op:Zm}{r:R2}(d:cg X (Xu op) r)(f:PE X a ta)(g:PE X b tb)(i:behindInMarks op b=false):PT X (.Compare a [op] [b] pos) (qB (jV r ta tb)):=by
 intro J s σ H Q I h;refine wpAny_isTrue_Compare1 (aG (f J s σ H _ I h) λv s1 ⟨x,Y,j,l,m⟩=>aG (g J s1 σ Y _ j m) λu s2 ⟨y,H2,n,o,p⟩ =>
  aG (d J s2 σ H2 x y v u _ n l o p) λc B ⟨z,q,t,w,k,e,A⟩=>?_) i
 subst e;cases w
 exact iB ⟨q,t,A⟩
def C9(r r':R2)(ta tb tc:TE):TE:=λσ H Q=>ta σ H λx Y=>tb σ Y λy H2=>r x y H2 λz H3=>∃k,z=.bl k /\
 (if k=true then tc σ H3 λw' H4=>r' y w' H4 Q else Q (.bl false) H3)
theorem JH{op f:Zm}{r r':R2}(n:cg X (Xu op) r)(m:cg X (Xu f) r')(o:PE X a ta)(p:PE X b tb)(q:PE X c tc)
  (t:lastMarks [op,f] [b,c]=false:=by with_unfolding_all rfl):PE X (.Compare a [op,f] [b,c] pos) (C9 r r' ta tb tc):=by
 intro J s σ H Q I h;refine Compare_chain (aG (o J s σ H _ I h) λv s1 ⟨x,Y,w,A,B⟩=>chain_link (aG (p J s1 σ Y _ w B) λu s2 ⟨y,H2,C,g,D⟩ =>
  aG (n J s2 σ H2 x y v u _ C A g D) λd E ⟨z,i,j,F,k,e,l⟩=>?_)) t
 subst e;cases F
 refine iB ?_;cases k with
 |false=>exact ite_ff ⟨.bl false,i,j,rfl,l⟩
 |true=>exact ite_tt (chain_last (aG (q J E σ i _ j l) λG K ⟨L,M,N,O,P⟩=>m J K σ M y L u G Q N g O P))
theorem JI{op f:Zm}{r r':R2}(n:cg X (Xu op) r)(m:cg X (Xu f) r')(o:PE X a ta)(p:PE X b tb)(q:PE X c tc)
  (t:lastMarks [op,f] [b,c]=false:=by with_unfolding_all rfl):PT X (.Compare a [op,f] [b,c] pos) (qB (C9 r r' ta tb tc)):=by
 intro J s σ H Q I h;refine isTrue_chain (aG (o J s σ H _ I h) λv s1 ⟨x,Y,w,A,B⟩=>test_link (aG (p J s1 σ Y _ w B) λu s2 ⟨y,H2,C,g,D⟩ =>
  aG (n J s2 σ H2 x y v u _ C A g D) λd E ⟨z,i,j,F,k,e,l⟩=>?_)) t
 subst e;cases F
 refine iB ?_;cases k with
 |false =>
  obtain⟨xa,G,K⟩:=l;cases G
  exact ite_ff ⟨i,j,K⟩
 |true =>
  refine ite_tt (test_last (aG (q J E σ i _ j l) λL M ⟨N,O,P,R,S⟩=>aG (m J M σ O y N u L _ P g R S) λya za aa=>?_));obtain⟨z2,T,U,V,xb,e2,W⟩:=aa;subst e2;cases V
  exact iB ⟨T,U,W⟩
def DT(K:UI)(x:V)(H:Hp)(k:Bool):Prop:=
 match x with
 |.aO=>k=false
 |.bl b=>k=b
 |.int i=>k=(i != 0)
 |.str y=>y.length<=Us/\k=((y.length:Int) != 0)
 |.f6 y=>y.size<=Us/\k=((y.size:Int) != 0)
 |.ref p=>(∃xs,au K H p xs/\k = !xs.isEmpty)\/(∃xs,aZ K H p xs/\k = !xs.isEmpty) \/∃kvs,H p=ih (.dK kvs)/\k = !kvs.isEmpty
 |_=>False
theorem HY{κ:Type}{kvs:am (κ×V)}{vs:am (κ×i')}(r:KV kvs vs):(!vs.isEmpty) = !kvs.isEmpty:=by
 cases r <;> rfl
theorem sG(r:Vals xs its):(!its.toArray.isEmpty) = !xs.isEmpty:=by
 cases r <;> simp
theorem kI:(Us:Nat)<2 ^ 63:=by rw[aX];decide
theorem Mo:OK X (λx H Q=>∃k,DT X.K x H k/\Q k H):=by
 rintro J s σ H x v Q I c ⟨k,e,q⟩;have o:=kI;have u:Us=16777216:=aX;cases x with
 |aO =>
  cases c
  have a:k=false:=e;subst a;exact truthy_none ⟨H,I,q⟩
 |bl b =>
  cases c
  have a:k=b:=e;subst a;exact iB ⟨H,I,q⟩
 |int i =>
  obtain⟨t,rfl⟩:=c;have a:k=(i != 0):=e;subst a;exact PySem.P.truthy_int ⟨H,I,q⟩
 |str y =>
  obtain⟨t,rfl⟩:=c;obtain⟨l,a⟩:y.length<=Us/\k=((y.length:Int) != 0):=e;subst a;exact PySem.P.truthy_str (by omega) ⟨H,I.tok _,q⟩
 |f6 y =>
  obtain⟨t,rfl⟩:=c;obtain⟨l,a⟩:y.size<=Us/\k=((y.size:Int) != 0):=e;subst a;exact PySem.W.truthy_bytes (by omega) ⟨H,I.tok _,q⟩
 |ref p =>
  cases c
  have a:(∃xs,au X.K H p xs/\k = !xs.isEmpty)\/(∃xs,aZ X.K H p xs/\k = !xs.isEmpty) \/∃kvs,H p=cr kvs/\k = !kvs.isEmpty:=e;rcases a with⟨xs,d,a⟩|⟨xs,d,a⟩|⟨kvs,d,a⟩
  ·subst a
   obtain⟨its,r,f,j⟩:=I.list d;have g:=r.length;exact wpAny_truthy_list f.isList (by simp only[bW];omega) ⟨H,I.tok _,by rw[sG r];exact q⟩
  ·subst a
   obtain⟨its,r,f,j⟩:=I.tuple d;have g:=r.length;exact truthy_tuple f (by simp only[bW];omega) ⟨H,I.tok _,by rw[sG r];exact q⟩
  ·subst a
   obtain⟨j,n,vs,r,m⟩:kvs.length<=Us/\(p==sysModules)=false /\∃vs,KV kvs vs/\s.heap.DictOf (cT X.prog X.w) p vs:=I.aJ p _ d;have g:kvs.length=vs.length:=ff r;exact wpAny_truthy_dict n m (by omega) ⟨H,I.tok _,by rw[HY r];exact q⟩
 |_=>exact(show False from e).elim
theorem kx(c:PE X a ta)(d:∀b,isTrue a X.env b=(do let v <- b;standAt a.pos;holding [v] (truthy v))) :
  PT X a (λσ H Q=>ta σ H λx H'=>∃k,DT X.K x H' k/\Q k H'):=by
 intro J s σ H Q I h;exact isTrue_plain (aG (c J s σ H _ I h) λv s1 ⟨x,Y,e,f,g⟩=>Mo J s1 σ Y x v Q e f g) (d _)
theorem Av:cg X (X7 .Add) (λx y H Q=>∃i j,x=.str i/\y=.str j/\i.length+j.length<=Us/\Q (.str (i++j)) H):=by
 rintro J s σ H x y v u Q I a b ⟨i,j,rfl,rfl,c,q⟩;obtain⟨t,rfl⟩:=a;obtain⟨t',rfl⟩:=b;exact add_str (λt' tk=>⟨.str (i++j),H,I.tok _,⟨_,rfl⟩,q⟩) c
theorem vals1{x:V}(r:Vals [x] us):∃u,us=[u]/\RelV x u:=by
 cases r with
 |cons a b=>cases b;exact⟨_,rfl,a⟩
theorem vals2{x:V}(r:Vals [x,y] us):∃u a,us=[u,a]/\RelV x u/\RelV y a:=by
 cases r with
 |cons b c =>
  cases c with
  |cons d e=>cases e;exact⟨_,_,rfl,b,d⟩
theorem BJ:c2 X (.builtin "abs") (λxs H Q=>∃i,xs=[.int i]/\Q (.int (if i<0 then -i else i)) H):=by
 rintro J s σ H xs us Q I r ⟨i,rfl,q⟩;obtain⟨u,rfl,t,rfl⟩:=vals1 r;exact call_abs_int λu tk=>⟨.int (if i<0 then -i else i),H,I.tok _,⟨_,rfl⟩,q⟩
theorem AZ(b:X.calm=true):c2 X (.builtin "max") (λxs H Q=>∃i j,xs=[.int i,.int j]/\Q (.int (if j>i then j else i)) H):=by
 rintro J s σ H xs us Q I r ⟨i,j,rfl,q⟩;obtain⟨u,c,rfl,⟨t,rfl⟩,⟨t',rfl⟩⟩:=vals2 r;refine max_two_ints (I.ok.hd b) λh' tk k=>⟨_,H,I.kept k,?_,q⟩
 by_cases a:j>i
 ·rw[ay a,ay a];exact⟨_,rfl⟩
 ·rw[aq a,aq a];exact⟨_,rfl⟩
theorem IT(b:X.calm=true):c2 X (.builtin "min") (λxs H Q=>∃i j,xs=[.int i,.int j]/\Q (.int (if j<i then j else i)) H):=by
 rintro J s σ H xs us Q I r ⟨i,j,rfl,q⟩;obtain⟨u,c,rfl,⟨t,rfl⟩,⟨t',rfl⟩⟩:=vals2 r;refine min_two_ints (I.ok.hd b) λh' tk k=>⟨_,H,I.kept k,?_,q⟩
 by_cases a:j<i
 ·rw[ay a,ay a];exact⟨_,rfl⟩
 ·rw[aq a,aq a];exact⟨_,rfl⟩
end
structure kR(h:XD)(x dx C:Up)(mA:Gv->Option i'):Prop where
 obj:h.get? x=ih (XQ C dx)
 ns:h.Ns1 dx mA
 ne:dx≠x
theorem pq{dx:Up}(n:h.Ns1 dx mA):∃od,h.get? dx=ih od /\∀name,YI name od=ih (mA name):=by
 obtain⟨o,es,ep,c,d,f,_,g⟩:=n;refine⟨o,c,λname=>?_⟩;have e:=g name;unfold nsFind findBy at e;rw[<-Uv]at e;unfold YI;rw[d]
 dsimp only
 split
 ·rename_i y q
  rw[q]at e;exact c6 ih e
 ·rename_i q
  rw[q]at e;have a:es.toList.any (·.refKey)=false:=by
   rw[FY];intro y i;obtain⟨z,t,b⟩:=f y (Array.mem_toList_iff.mp i);simp[abT,b]
  have j : ¬ es.toList.any (·.refKey)=true:=by rw[a];exact b9
  rw[aq j];exact c6 ih e
theorem kR.look{x dx:Up}(I:kR h x dx C mA):∃od,PySem.W.InstAt h x (XQ C dx) C (ih od) /\∀name,YI name od=ih (mA name):=
 let ⟨od,a,b⟩:=pq I.ns
 ⟨od,⟨I.obj,rfl,rfl,a⟩,b⟩
section
variable{x dx:Up}{v:i'}
theorem get_map{Q:i'->Ur->Prop}(X:K.In s.heap)(I:kR s.heap x dx C mA)(b:YE K C name=true)(c:YQ K C=true)
  (d:XF K (.ref C) name=ih none) (hv:mA name=ih v) (a:ZE v=true) (h:Q v { s with toks:=s.toks+1 }) :
  Ut (UK prog w) A (getAttr (.ref x) name Qr) Q E s:=by
 obtain⟨od,e,f⟩:=I.look;exact PySem.W.get_value X e (FZ b).1 (PySem.W.findObj_own c d rfl (by rw[f,hv])) a h
theorem JJ{pl:YK Bool}{Q:i'×List i'->Ur->Prop}(X:K.In s.heap)(I:kR s.heap x dx C mA)(a:YE K C name=true)
  (b:XF K (.ref C) name=ih (ih (.ref f))) (c:Za K (.ref f)=true) (hv:mA name=none) (h:Q (.ref f,[.ref x]) s) :
  Ut (UK prog w) A (getMethod (.ref x) name pl) Q E s:=by
 obtain⟨od,d,e⟩:=I.look;exact PySem.W.method_fn X d (FZ a).1 (FZ a).2 b (df.mp c) (by show(YI name od).map (·.isSome)=ih false;rw[e,hv];rfl) h
theorem K5{Q:Unit->Ur->Prop}(X:K.In s.heap)(I:kR s.heap x dx C mA)
  (k:XF K (.ref C) "__setattr__" = ih (ih (.builtin "object.__setattr__"))) (l:Zu K C=true) (m:Y1 K C name=ih none) (n:YQ K C=true)
  (o:Yh mA ns) (hsz:ns.length<=Us)
  (h:∀h',kR h' x dx C (λy=>if y=name then ih v else mA y)->XC dx s.heap h'->Q () { s with heap:=h',toks:=s.toks+2 }) :
  Ut (UK prog w) A (setAttr (.ref x) name v) Q E s:=by
 obtain⟨od,e,z⟩:=I.look;refine Uw X e k (PySem.W.osa_open (s:={ s with toks:=s.toks+1 }) (r:=none) X e l m λb=>?_);obtain⟨cd,p,f⟩:=PySem.W.any_some n;have q:s.heap.get? x=ih ⟨.ref C,ih dx,.plain,#[]⟩:=I.obj;refine ae (ao (ae (ae (wm q (ae (aaD (s:={ s with toks:=s.toks+1 }) (PySem.W.looks_clsIn X p) ?_))))));rw[f];refine ao (a:=ih dx) (ae (ao (ae ?_)));refine wpAny_nsSet1 (s:={ s with toks:=s.toks+1 }) I.ns λh' c d=>?_;obtain⟨B,t,u,g,i,j⟩:=c.count (Ux name v o);refine ae (wpAny_lookBehind g (by rw[i];exact pastItsLine_dict (et j (by rw[cS];omega))) ?_)
 exact ao (h _ ⟨(d.2 _ (aP I.ne)).trans I.obj,c,I.ne⟩ d)
theorem JK{R:Y4->Ur->Prop}{vs:am i'}(X:K.In s.heap)(a:ZJ K C=true)
  (hi:XF K (.ref C) "__init__" = ih (ih (.ref f))) (b:PySem.W.typeIn K (.ref f)=ih (.type "function"))
  (h:codeAny (UK prog w) (A.under (.builtin "type.__call__" ⟨.ref C::vs,kw⟩)) (.call (.ref f) ⟨.ref (s.aj+1)::vs,kw⟩) (PySem.W.InitBack (s.aj+1) R)
   { s with heap:=(s.heap.push Xz).push (XQ C s.aj) }) :
  codeAny (UK prog w) A (.call (.ref C) ⟨vs,kw⟩) R s:=by
 obtain⟨c,g,d,t,os⟩:=s;exact PySem.W.make_core (PySem.W.makes_of X a) (PySem.W.looks_findIn X hi) (λself=>PySem.W.bind_fn X self b) (.inl rfl) h
end
def b3(f:Gv)(v:V):List (Gv×V)->List (Gv×V)
 |[]=>[(f,v)]
 |(g,x)::r=>if g=f then (g,v)::r else (g,x)::b3 f v r
theorem Ao(f g:Gv)(v:V):∀fs:am (Gv×V),(b3 f v fs).lookup g=if g=f then ih v else fs.lookup g
 |[]=>by
  show Xx g [(f,v)]=_
  by_cases h:g=f
  ·have a:(g==f)=true:=df.mpr h
   simp only[Xx,a,ay h]
  ·have a:(g==f)=false:=iz.mpr h
   simp only[Xx,a,aq h]
 |(k,x)::r=>by
  have c:=Ao f g v r;rw[show b3 f v ((k,x)::r)=(if k=f then (k,v)::r else (k,x)::b3 f v r) from rfl]
  by_cases b:k=f
  ·rw[ay b]
   by_cases h:g=k
   ·have a:(g==k)=true:=df.mpr h
    simp only[Xx,a,ay (h.trans b)]
   ·have a:(g==k)=false:=iz.mpr h
    simp only[Xx,a,aq (λe:g=f=>h (e.trans b.symm))]
  ·rw[aq b]
   by_cases h:g=k
   ·have a:(g==k)=true:=df.mpr h
    simp only[Xx,a,aq (λe:g=f=>b (h.symm.trans e))]
   ·have a:(g==k)=false:=iz.mpr h
    simp only[Xx,a];exact c
theorem sX(f:Gv)(v:V):∀fs:am (Gv×V),f∈(b3 f v fs).map (·.1) /\∀g,g∈fs.map (·.1)->g∈(b3 f v fs).map (·.1)
 |[]=>⟨by simp[b3],λg h=>by simp at h⟩
 |(k,x)::r=>by
  obtain⟨b,c⟩:=sX f v r;rw[show b3 f v ((k,x)::r)=(if k=f then (k,v)::r else (k,x)::b3 f v r) from rfl]
  by_cases a:k=f
  ·rw[ay a]
   subst a;exact⟨by simp,λg h=>by simpa using h⟩
  ·rw[aq a]
   refine⟨?_,λg h=>?_⟩
   ·rw[bU]
    exact a7 _ b
   ·rw[bU]at h⊢
    rcases bj.mp h with e|e
    ·exact bj.mpr (.inl e)
    ·exact a7 _ (c g e)
theorem Ap(f:Gv)(v:V):∀fs:am (Gv×V),(b3 f v fs).length<=fs.length+1
 |[]=>by simp[b3]
 |(k,x)::r=>by
  have b:=Ap f v r;rw[show b3 f v ((k,x)::r)=(if k=f then (k,v)::r else (k,x)::b3 f v r) from rfl]
  by_cases a:k=f
  ·rw[ay a,cS,cS];omega
  ·rw[aq a,cS,cS];omega
theorem d7.some_of{o:a2 i'}(r:d7 (ih v) o):∃u,o=ih u/\RelV v u:=by
 cases o with
 |none=>exact(show False from r).elim
 |some u=>exact⟨u,rfl,r⟩
theorem d7.none_of{o:a2 i'}(r:d7 none o):o=none:=by
 cases o with
 |none=>rfl
 |some u=>exact(show False from r).elim
theorem A0(r:RelV v u):ZE u=true:=by
 cases v with
 |aO=>cases (show u=Vv from r);rfl
 |bl b=>cases (show u=Yk b from r);rfl
 |int i=>obtain⟨t,e⟩:=(show ∃t,u=YG i t from r);cases e;rfl
 |str x=>obtain⟨t,e⟩:=(show ∃t,u=Yw x t from r);cases e;rfl
 |f6 b=>obtain⟨t,e⟩:=(show ∃t,u=aap b t from r);cases e;rfl
 |jR b=>obtain⟨t,e⟩:=(show ∃t,u=Zq b t from r);cases e;rfl
 |ref a=>cases (show u=UN a from r);rfl
 |ty n=>cases (show u=XS n from r);rfl
section
variable{dx:Up}{fs Qn:am (Gv×V)}
theorem p1(b:cx P w H h)(e:H a=ih (.ins C dx fs)):∃mA,kR h a dx C mA/\(∀f,d7 (fs.lookup f) (mA f))/\Yh mA (fs.map (·.1))/\fs.length<=1000/\H dx=ih (.own a):=by
 obtain⟨d,z,ne,c,mA,n,r,q⟩:=(show bH P w H h a (.ins C dx fs) from b a _ e);exact⟨mA,⟨c,n,ne⟩,r,q,z,d⟩
end
structure gb(K:UI)(C:Up):Prop where
 pg:YE K C Zj=true
 hd:YQ K C=true
 po:Zu K C=true
 sa:XF K (.ref C) "__setattr__" = ih (ih (.builtin "object.__setattr__"))
theorem gb.get(c:gb K C)(f:Gv):YE K C f=true:=c.pg
def dZ(K:UI)(C:Up)(f:Gv):Prop:=XF K (.ref C) f=ih none
theorem dZ.Nd{f:Gv}(n:dZ K C f):Y1 K C f=ih none:=by
 unfold Y1;rw[show XF K (.ref C) f=ih none from n]
 rfl
structure Meth(K:UI)(C:Up)(m:Gv)(f:Up):Prop where
 at_:XF K (.ref C) m=ih (ih (.ref f))
 fn:Za K (.ref f)=true
 kp:X3 K (.ref f)=true
section
variable{dx:Up}{fs:am (Gv×V)}{f:Gv}
theorem Aw{b:Bool}{Q:i'->Ur->Prop}(I:Inv X J σ H s)(e:H a=ih (.ins C dx fs))(c:gb X.K C)(n:dZ X.K C f)(l:fs.lookup f=ih v)
  (h:∀u s',Inv X J σ H s'->RelV v u->Q u s'):Ut X.c' A (getAttr (.ref a) f b) Q E s:=by
 obtain⟨mA,O,r,_,_,_⟩:=p1 I.aJ e;obtain⟨u,g,d⟩:=d7.some_of (v:=v) (o:=mA f) (by rw[<-l];exact r f)
 exact get_map I.bQ O (c.get f) c.hd n g (A0 d) (h u _ (I.tok _) d)
theorem Ax{m:Gv}{g:Up}{pl:YK Bool}{Q:i'×List i'->Ur->Prop}(I:Inv X J σ H s)(e:H a=ih (.ins C dx fs))(c:gb X.K C)(k:Meth X.K C m g)(l:fs.lookup m=none)
  (h:Q (.ref g,[.ref a]) s):Ut X.c' A (getMethod (.ref a) m pl) Q E s:=by
 obtain⟨mA,O,r,_,_,_⟩:=p1 I.aJ e;have b:mA m=none:=d7.none_of (by rw[<-l];exact r m)
 exact JJ I.bQ O (c.get m) k.at_ k.fn b h
theorem Ay{Q:Unit->Ur->Prop}(I:Inv X J σ H s)(e:H a=ih (.ins C dx fs))(c:gb X.K C)(n:dZ X.K C f)(w:fs.length<1000)(j:RelV y u)
  (h:∀s',Inv X J σ (upd H a (.ins C dx (b3 f y fs))) s'->Q () s'):Ut X.c' A (setAttr (.ref a) f u) Q E s:=by
 obtain⟨mA,O,r,wi,_,i⟩:=p1 I.aJ e;have k:(fs.map (·.1)).length<=Us:=by rw[aE,aX];omega
 refine K5 I.bQ O c.sa c.po n.Nd c.hd wi k λh' d l=>h _ ?_;have m:∃o,h'.get? dx=ih o:=let ⟨o,_,_,p,_⟩:=d.ns;⟨o,p⟩;refine I.write (x:=a) (e:=dx) (by rw[e];exact Vm) (.inr i) (λb q t z=>(l.2 b t).trans z) m ?_
 refine⟨by rw[ag O.ne];exact i,?_,O.ne,d.obj,_,d.ns,λg=>?_,λg v=>?_⟩
 ·have:=Ap f y fs;omega
 ·show d7 ((b3 f y fs).lookup g) (if g=f then ih u else mA g)
  rw[Ao]
  by_cases q:g=f
  ·rw[ay q,ay q];exact j
  ·rw[aq q,aq q];exact r g
 ·by_cases q:g=f
  ·rw[q];exact(sX f y fs).1
  ·refine(sX f y fs).2 g (wi g λz=>v ?_)
   show(if g=f then ih u else mA g)=none;rw[aq q];exact z
theorem Inv.made(I:Inv X J σ H s):Inv X J σ (upd (upd H s.aj (.own (s.aj+1))) (s.aj+1) (.ins C s.aj []))
  { s with heap:=(s.heap.push Xz).push (XQ C s.aj) }:=by
 have e1:(s.heap.push Xz).get? s.aj=ih Xz:=b5 s.heap rfl;have e2:((s.heap.push Xz).push (XQ C s.aj)).get? (s.aj+1)=ih (XQ C s.aj):=by
  have:=b5 (s.heap.push Xz) (o:=XQ C s.aj) rfl
  rwa [hX]at this
 have e3:(s.heap.push Xz).Ns s.aj (λ_=>none):=⟨Xz,#[],_,e1,rfl,(λe c=>absurd c (by simp)),λ_=>rfl⟩
 have d:=I.laid (a:=s.aj) (o:=.own (s.aj+1)) (h':=s.heap.push Xz) (t':=s.toks) (λb u q=>a8 _ q) (aU _) ⟨_,e1⟩;refine d.laid (a:=s.aj+1) (o:=.ins C s.aj []) (t':=s.toks) (λb u q=>a8 _ q) (aaA (hX _ _)) ?_;have ne:s.aj≠s.aj+1:=bI (j4 _);refine⟨by rw[ag ne,ah],bx _,ne,e2,λ_=>none,(Zr e3).at λo q=>a8 _ q,λ_=>Vm,λy f=>absurd rfl f⟩
theorem Cz{f:Gv}{Q:i'->Ur->Prop}(b:attributeBase e f env (eval e env)=eval e env)
  (h:Ut (UK prog w) A (eval e env) (λo a=>Ut (UK prog w) A (getAttr o f true) Q E a) E s):Ut (UK prog w) A (eval (.Attribute e f pos) env) Q E s:=
 Attribute_any_ h (by rw[arm_eval_Attribute,b])
end
def vi(K:UI)(ta:TE)(f:Gv):TE:=λσ H Q=>ta σ H λx Y=>∃a C dx fs v,x=.ref a/\Y a=ih (.ins C dx fs)/\gb K C/\dZ K C f/\fs.lookup f=ih v/\Q v Y
def ON(K:UI)(ta tv:TE)(f:Gv):TS:=λD σ H=>tv σ H λy Y=>ta σ Y λx H2=>∃a C dx fs,x=.ref a/\H2 a=ih (.ins C dx fs)/\gb K C/\dZ K C f/\fs.length<1000 /\
 D.nx σ (upd H2 a (.ins C dx (b3 f y fs)))
def vj(X:Cx)(op:abk)(rd:V->V->Hp->VK->Prop):Prop:=
 ∀J s σ H (x y:V) (u v:i') (Q:VK),Inv X J σ H s->RelV x u->RelV y v->rd x y H Q->wA X (inplaceOp op u v) (EP X J σ Q) X.xe s
def K6(K:UI)(ta tv:TE)(rd:V->V->Hp->VK->Prop)(f:Gv):TS:=λD σ H=>ta σ H λx Y=>∃a C dx fs v,x=.ref a/\Y a=ih (.ins C dx fs)/\gb K C/\dZ K C f/\fs.lookup f=ih v /\
 tv σ Y λy H2=>rd v y H2 λz H3=>∃EA Qn,H3 a=ih (.ins C EA Qn)/\Qn.length<1000/\D.nx σ (upd H3 a (.ins C EA (b3 f z Qn)))
section
variable{o:Vc}{f:Gv}{Qz:Zx}
theorem cf(b:PE X e ta)(d:attributeBase e f X.env (eval e X.env)=eval e X.env):PE X (.Attribute e f pos) (vi X.K ta f):=by
 intro J s σ H Q I h;refine Cz d (aG (b J s σ H _ I h) λu s1 p=>?_);obtain⟨x,Y,g,i,a,C,dx,fs,v,ex,j,c,n,l,q⟩:=p;subst ex;obtain rfl:u=UN a:=i;exact Aw g j c n l λo s2 k m=>⟨v,Y,k,m,q⟩
theorem fQ(b:PE X o ta)(hv:PE X value tv)(d:swapsWith value (ih (.Attribute o f Qf)) pos.line X.env=pure false):PS X (.Assign [.Attribute o f Qf] value pos) (ON X.K ta tv f):=by
 intro J s σ H D I h;refine Uy (aG (hv J s σ H _ I h) λu s1 ⟨y,Y,e,g,q⟩=>aG (b J s1 σ Y _ e q) λi s2 v=>?_) d;obtain⟨x,H2,j,k,a,C,dx,fs,ex,m,c,n,l,p⟩:=v;subst ex;obtain rfl:i=UN a:=k;exact Ay j m c n l g λt r=>⟨σ,_,r,p⟩
theorem m9{op:abk}{b:V->V->Hp->VK->Prop}(g:PE X o ta)(hv:PE X value tv)(d:vj X op b):PS X (.AugAssign (.Attribute o f Qz) op value pos) (K6 X.K ta tv b f):=by
 intro J s σ H D I h;refine wpAny_AugAssign_AttributeAny (aG (g J s σ H _ I h) λi s1 T=>?_);obtain⟨x,Y,j,k,a,C,dx,fs,v,ex,m,c,n,l,q⟩:=T;subst ex;obtain rfl:i=UN a:=k;refine Aw j m c n l λu s2 p r=>aG (hv J s2 σ Y _ p q) λt w ⟨y,H2,A,B,E⟩=>aG (d J w σ H2 v y u t _ A r B E) λP Q T=>?_;obtain⟨z,R,F,G,O,Qn,e,L,M⟩:=T;exact Ay F e c n L G λS N=>⟨σ,_,N,M⟩
def OO:V->V->Hp->VK->Prop:=λx y H Q=>∃i j,x=.int i/\y=.int j/\Q (.int (i+j)) H
theorem qo:vj X .Add OO:=by
 rintro J s σ H x y u v Q I a b ⟨i,j,rfl,rfl,q⟩;obtain⟨t,rfl⟩:=(show ∃t,u=YG i t from a);obtain⟨t',rfl⟩:=(show ∃t',v=YG j t' from b);exact aba ⟨.int (i+j),H,I.tok _,⟨_,rfl⟩,q⟩
end
section
variable{Q:i'->Ur->Prop}{c:i'}{b:Bool}
inductive gv(K:UI)(H:Hp):V->i'->Prop where
 |aO:gv K H .aO (.type "NoneType")
 |bl (x:Bool):gv K H (.bl x) (.type "bool")
 |int (i:Int):gv K H (.int i) (.type "int")
 |str (x:Gv):gv K H (.str x) (.type "str")
 |jR (x:UInt64):gv K H (.jR x) (.type "float")
 |lst {a:Up}{xs:List V} (e:H a=ih (.lst xs)):gv K H (.ref a) (.type "list")
 |bT {a:Up}{o:Ye}{xs:List V} (e:H a=ih (.bT o (.lst xs))):gv K H (.ref a) (.type "list")
 |tup {a:Up}{xs:List V} (e:H a=ih (.tup xs)):gv K H (.ref a) (.type "tuple")
 |dK {a:Up}{kvs:List (Key×V)} (e:H a=ih (.dK kvs)):gv K H (.ref a) (.type "dict")
 |dT {a:Up}{kvs:List (List Key×V)} (e:H a=ih (.dT kvs)):gv K H (.ref a) (.type "dict")
 |ins {a C dx:Up}{fs:List (Gv×V)} (e:H a=ih (.ins C dx fs)) (cl:gb K C) (ha:XF K (.ref C) "__class__" = ih (ih (.builtin "object.__class__")))
   (hn:PySem.W.specialIn K (.builtin "object.__class__") "__get__" = ih (ih (.builtin "getset_descriptor.__get__"))) (Vy:PySem.W.takesIn K (.builtin "object.__class__")=ih true)
   (hm:PySem.W.mroIn K C (.type "object")=ih true):gv K H (.ref a) (.ref C)
theorem IU{x:V}{t:i'}(I:Inv X J σ H s)(d:RelV x u)(ty:gv X.K H x t)(e:PySem.W.kitOne X.K t c=ih b)(h:∀tk,Q (.bool b) { s with toks:=tk }) :
  Ut X.c' A (call (.builtin "isinstance") [u,c]) Q E s:=by
 cases ty with
 |aO=>cases (show u=Vv from d);exact iC PySem.W.kitx_none I.bQ Vm e (λz=>nomatch z) h
 |bl y=>cases (show u=Yk y from d);exact iC PySem.W.kitx_bool I.bQ Vm e (λz=>nomatch z) h
 |int i=>obtain⟨t,q⟩:=(show ∃t,u=YG i t from d);cases q;exact iC PySem.W.kitx_int I.bQ Vm e (λz=>nomatch z) h
 |str y=>obtain⟨t,q⟩:=(show ∃t,u=Yw y t from d);cases q;exact iC PySem.W.kitx_str I.bQ Vm e (λz=>nomatch z) h
 |jR y=>obtain⟨t,q⟩:=(show ∃t,u=Zq y t from d);cases q;exact iC PySem.W.kitx_float I.bQ Vm e (λz=>nomatch z) h
 |@lst a xs f =>
  cases (show u=UN a from d)
  obtain⟨_,_,n,_,h1⟩:=(show bH X.prog X.w H s.heap a (.lst xs) from I.aJ a _ f);exact iC Uz I.bQ ⟨_,h1,rfl⟩ e (λz=>nomatch z) h
 |@bT a k xs f =>
  cases (show u=UN a from d)
  obtain⟨_,_,_,n,_,h1⟩:=(show bH X.prog X.w H s.heap a (.bT k (.lst xs)) from I.aJ a _ f);exact iC Uz I.bQ ⟨_,h1,rfl⟩ e (λz=>nomatch z) h
 |@tup a xs f =>
  cases (show u=UN a from d)
  obtain⟨_,_,_,p⟩:=(show bH X.prog X.w H s.heap a (.tup xs) from I.aJ a _ f);obtain⟨o,h1,h2,_⟩:=p;exact iC PySem.W.kitx_tuple I.bQ ⟨o,h1,h2⟩ e (λz=>nomatch z) h
 |@dK a kvs f =>
  cases (show u=UN a from d)
  obtain⟨_,_,vs,_,p⟩:=(show bH X.prog X.w H s.heap a (.dK kvs) from I.aJ a _ f);obtain⟨o,es,ep,h1,h2,_⟩:=p;exact iC UB I.bQ ⟨o,h1,h2.1⟩ e (λz=>nomatch z) h
 |@dT a kvs f =>
  cases (show u=UN a from d)
  obtain⟨_,_,xs,_,o,es,ep,h1,h2,_⟩:=(show bH X.prog X.w H s.heap a (.dT kvs) from I.aJ a _ f);exact iC UB I.bQ ⟨o,h1,h2.1⟩ e (λz=>nomatch z) h
 |@ins a C dx fs f g l m j r =>
  cases (show u=UN a from d)
  obtain⟨mA,O,_⟩:=p1 I.aJ f;obtain⟨od,v,_⟩:=O.look;exact iC (PySem.W.kitx_own (g.get _) g.hd l m j r) I.bQ v e (λz=>nomatch z) h
end
structure a'(k:Nat)(A:XW):Prop where
 hd:A.handled=none
 dp:A.depth+3 * k+5<recursionLimit
 un:A.units+16 * k+200<Ys
 gd:A.guards=ih []
theorem a'.mono{k:Nat}(r:a' k A)(h:j<=k):a' j A:=⟨r.hd,by have:=r.dp;omega,by have:=r.un;omega,r.gd⟩
theorem a'.deeper{k:Nat}(r:a' (k+1) A)(env:YT):a' k (A.deeper env):=
 ⟨r.hd,by have:=r.dp;show A.depth+1+3 * k+5<_;omega,by have:=r.un;show A.units+3+16 * k+200<_;omega,by first|exact r.gd|simp[Around.deeper,r.gd]⟩
theorem HZ:(A.under (.builtin "type.__call__" ⟨.ref C::us,kw⟩)).depth=A.depth+1:=by
 first|rfl|simp[YU,Code.weight,Code.isCreation,aau,Code.isCaller,aaC,Zk,guardIds]
theorem H7:(A.under (.builtin "type.__call__" ⟨.ref C::us,kw⟩)).units=A.units+1:=by
 first|rfl|simp[YU,Code.cUnits,aaC,Zk]
theorem Hy(h:A.guards=ih []):(A.under (.builtin "type.__call__" ⟨.ref C::us,kw⟩)).guards=ih []:=by
 first|exact h|(simp[YU,Code.guards,aau,guardIds,pushGuards,h])
theorem a'.make{k:Nat}(r:a' (k+1) A)(C:Up)(us:am i')(kw:am (Gv×i')):a' k (A.under (.builtin "type.__call__" ⟨.ref C::us,kw⟩)):=
 ⟨r.hd,by have:=r.dp;rw[HZ];omega,by have:=r.un;rw[H7];omega,Hy r.gd⟩
theorem a'.depth{k:Nat}(r:a' k A):A.depth<recursionLimit:=by have:=r.dp;omega
theorem a'.units{k:Nat}(r:a' k A):A.units+64<Ys:=by have:=r.un;omega
def vk:TA:=λ_ H Q=>Q [] H
def uN(ta:TE)(tr:TA):TA:=λσ H Q=>ta σ H λx Y=>tr σ Y λxs H2=>Q (x::xs) H2
section
variable{t:TA}
theorem ai:PA X [] vk:=λ_ _ _ _ H Q I h=>Calls.spliced_nil ⟨[],H,I,.nil,h⟩
theorem aa(a:PE X e te)(b:PA X es t)(c:US (e::es) X.env=(false,eval e X.env)::US es X.env:=by rfl):PA X (e::es) (uN te t):=by
 intro pos J s σ H Q I h;rw[c];show Ut _ _ (spliced ((false,eval e X.env)::backTo pos (US es X.env))) _ _ s;refine Calls.spliced_cons (aG (a J s σ H _ I h) λu s1 l=>?_);obtain⟨x,Y,d,f,g⟩:=l;exact aG (b pos J s1 σ Y _ d g) λus s2 ⟨xs,H2,i,j,k⟩=>⟨x::xs,H2,i,.cons f j,k⟩
def OP(t:TA):TE:=λσ H Q=>t σ H λxs Y=>xs.length<=Us /\∀p,Y p=none->Q (.ref p) (upd Y p (.tup xs))
def OQ(t:TA):TE:=λσ H Q=>t σ H λxs Y=>xs.length<=Us /\∀p,Y p=none->Q (.ref p) (upd Y p (.lst xs))
theorem cN{c}(h:PA X es t):PE X (.Tuple es c pos) (OP t):=by
 intro J s σ H Q I d;refine wpAny_Tuple_spliced (aG (h pos J s σ H _ I d) λus s1 ⟨xs,Y,a,r,z,q⟩=>⟨by rw[<-r.length];exact z,?_⟩)
 have f:Y s1.aj=none:=a.aJ.fresh (aU _);refine⟨.ref s1.aj,upd Y s1.aj (.tup xs),a.laid (t':=s1.toks) (λb u e=>a8 _ e) (aU _) ?_,rfl,q _ f⟩;exact⟨z,us,r,⟨_,b5 _ rfl,rfl,_,rfl,rfl⟩⟩
theorem eZ(h:PA X es t):PE X (.List es pos) (OQ t):=by
 intro J s σ H Q I c;refine wpAny_List_spliced (aG (h pos J s σ H _ I c) λus s1 ⟨xs,Y,a,r,z,q⟩=>⟨by rw[<-r.length];exact z,?_⟩)
 have d:Y s1.aj=none:=a.aJ.fresh (aU _);refine⟨.ref s1.aj,upd Y s1.aj (.lst xs),a.laid (t':=s1.toks) (λb u e=>a8 _ e) (aU _) ?_,rfl,q _ d⟩;exact⟨z,us,0,r,b5 _ rfl⟩
end
abbrev Sp:=List V->Hp->VK->XK->Prop
end L2
variable{sp:L2.Sp}
namespace L2
open Spec PyProof.Rows
abbrev gz:=List YT->Hp->Ur->XK->i'->Ur->Prop
structure kS(P:XJ)(w:XT)(K:UI)(mg:Gv->Option i')(base:XD)(A:XW)(outer:List YT)(s:Ur)(H:Hp):Prop where
 frames:A.frames=ih outer
 mod:Mod K mg base
 bs:∀b o,base.get? b=ih o->s.heap.get? b=ih o/\H b=none
 hQ:base.objs.size<=s.aj
 fq:s.heap.FunFrames base outer
 ir:∀b∈d3 outer,H b=none
 aJ:cx P w H s.heap
 bare:YH s.gens
def CE(outer:List YT)(P:XJ)(w:XT)(H:Hp)(s:Ur)(Q:VK)(u:i')(s':Ur):Prop:=
 ∃v H',s'.os=s.os/\YH s'.gens/\Un (d3 outer) [] H H' s.heap s'.heap/\cx P w H' s'.heap/\RelV v u/\Q v H'
def CR(CX:gz)(outer:List YT)(P:XJ)(w:XT)(H:Hp)(s:Ur)(Q:VK)(E:XK)(r:Y4)(s':Ur):Prop:=
 match r with
 |.ok (.ret u)=>CE outer P w H s Q u s'
 |.ok _=>False
 |.error e=>CX outer H s E e s'
structure aT(P:XJ)(w:XT)(K:UI)(mg:Gv->Option i')(base:XD)(CX:gz)(k:Nat)(f:Up)(fd:Xt)(ps:List Gv)(sp:Sp):Prop where
 len:∀vs H Q E,sp vs H Q E->vs.length=ps.length
 run:∀(A:XW) (outer:List YT) (s:Ur) (H:Hp) (args:Args) (us:List i') (vs:List V) (Q:VK) (E:XK),a' k A->kS P w K mg base A outer s H->Zi s fd args (ps.zip us)->Vals vs us->sp vs H Q E ->
  codeAny (UK P w) A (.call (.ref f) args) (CR CX outer P w H s Q E) s
theorem kS.make(e:kS P w K mg base A outer s H)(C:Up)(us:am i')(kw:am (Gv×i')) :
  kS P w K mg base (A.under (.builtin "type.__call__" ⟨.ref C::us,kw⟩)) outer s H:=⟨by first|exact e.frames|(simpa [YU,Code.envs,Zk,pushEnvs] using e.frames),e.mod,e.bs,e.hQ,e.fq,e.ir,e.aJ,e.bare⟩
theorem Inv.qQ(I:Inv X J σ H s):kS X.prog X.w X.K X.mg X.base X.A X.stack s H:=
 ⟨I.ok.frames,I.ok.mod,I.bs,et I.ok.hQ I.sz,I.stack,I.tR,I.aJ,I.bare⟩
theorem Inv.after(I:Inv X J σ H s)(h:CE X.stack X.prog X.w H s Q u s'):EP X J σ Q u s':=by
 obtain⟨v,H',os,a,un,c,r,q⟩:=h;obtain⟨f,g,d,t,e⟩:=s';obtain rfl:e=s.os:=os;exact⟨v,H',I.call (h':=f) (g':=g) (d':=d) (t':=t) (ch:=[]) un c a (λb z=>absurd z (by simp)),r,q⟩
def uO(sp:Sp)(Qi:List V)(E:XK)(t:TA):TE:=λσ H Q=>t σ H λvs Y=>sp (vs++Qi) Y Q E
def Dv(C:Up)(m:Gv)(sp:Sp)(Qi:List V)(E:XK)(ta:TE)(t:TA):TE:=λσ H Q=>ta σ H λx Y=>∃a dx fs,x=.ref a/\Y a=ih (.ins C dx fs)/\fs.lookup m=none /\
 t σ Y λvs H2=>sp (x::(vs++Qi)) H2 Q E
def Nf(C:Up)(sp:Sp)(Qi:List V)(E:XK)(t:TA):TE:=λσ H Q=>t σ H λvs Y=>∀x dx,Y x=none->Y dx=none->dx≠x ->
 sp (.ref x::(vs++Qi)) (upd (upd Y dx (.own x)) x (.ins C dx [])) (λv H2=>v=.aO/\Q (.ref x) H2) E
def Binds(K:UI)(fd:Xt)(ps:List Gv)(ds:List i'):Prop:=
 ∀(s:Ur) (us:List i'),K.In s.heap->(us++ds).length=ps.length->Zi s fd ⟨us,[]⟩ (ps.zip (us++ds))
theorem Binds.all(h:∀us:am i',us.length=ps.length->bindArgs fd ⟨us,[]⟩=pure (ps.zip us)):Binds K fd ps []:=λs us _ a=>by
 rw[ee]at a⊢;exact .of_eq (h us a)
def Passes(CX:gz)(X:Cx)(E:XK):Prop:= ∀(J:List (Up×Ye)) (σ:St) (H:Hp) (s:Ur) (e:i') (s':Ur),Inv X J σ H s->CX X.stack H s E e s'->X.xe e s'
section
variable{CX:gz}{k:Nat}{Qi:am V}{ds:am i'}{E:XK}{m:Gv}{p:Zx}{o:Vc}{t:TA}
theorem uu(F:aT X.prog X.w X.K X.mg X.base CX k f fd ps sp)(c:a' k X.A)(d:Binds X.K fd ps ds)(g:Vals Qi ds)(i:Passes CX X E)
  (I:Inv X J σ H s) (r:Vals vs us) (h:sp (vs++Qi) H Q E):wA X (call (.ref f) us) (EP X J σ Q) X.xe s:=by
 have b:Vals (vs++Qi) (us++ds):=r.append g;have j:(us++ds).length=ps.length:=by rw[<-b.length];exact F.len _ _ _ _ h
 refine j5 (lz (F.run X.A X.stack s H ⟨us,[]⟩ (us++ds) (vs++Qi) Q E c I.qQ (d s us I.bQ j) b h) λr s' a=>?_);cases r with
 |error e=>exact i J σ H s e s' I a
 |ok l =>
  cases l with
  |ret u=>exact I.after a
  |next=>exact U6 a
  |brk=>exact U6 a
  |cont=>exact U6 a
theorem fJ(F:aT X.prog X.w X.K X.mg X.base CX k f fd ps sp)(d:a' k X.A)(g:Gl X x)(i:X.mg x=ih (.ref f))(j:X3 X.K (.ref f)=true)(l:Binds X.K fd ps ds)(m:Vals Qi ds)(n:Passes CX X E)
  (o:PA X (e::es) t) (b:(x==("__debug__" : Gv))=false:=by decide) (u:US (e::es) X.env=(false,eval e X.env)::US es X.env:=by rfl) (c:(backTo pos (US es X.env)).any (·.1)=false:=by rfl) :
  PE X (.Call (.Name x p) (e::es) [] pos) (uO sp Qi E t):=by
 intro J s σ H Q I h;refine oP (l3 I g i ?_ b);refine F0 (h₀:=X.base) I.ok.mod.lb j (aG (o pos J s σ H _ I h) λus s1 ⟨vs,Y,a,r,q⟩=>⟨a.bQ,?_⟩) u c;exact uu F d l m n a r q
theorem g6{pl:YK Bool}(p:PE X o ta)(c:gb X.K C)(b:Meth X.K C m f)(F:aT X.prog X.w X.K X.mg X.base CX k f fd ps sp)(v:a' k X.A)(y:Binds X.K fd ps ds)(z:Vals Qi ds)(B:Passes CX X E)(D:PA X (e::es) t)
  (j:US (e::es) X.env=(false,eval e X.env)::US es X.env:=by rfl) (n:(backTo pos (US es X.env)).any (·.1)=false:=by rfl)
  (G:eval (.Call (.Attribute o m Qh) (e::es) [] pos) X.env=(do
   let d <- eval o X.env
   standAt Qh.atName
   let (f,first) <- holding [d] (getMethod d m pl)
   callWith pos f first (backTo pos (US (e::es) X.env)) (backToKw pos (keywordEach [] X.env))):=by rfl) :
  PE X (.Call (.Attribute o m Qh) (e::es) [] pos) (Dv C m sp Qi E ta t):=by
 intro J s σ H Q I h;refine UC (pl:=pl) (aG (p J s σ H _ I h) λu s1 O=>?_) G;obtain⟨x,Y,g,L,a,dx,fs,ex,M,l,q⟩:=O;subst ex;obtain rfl:u=UN a:=L;refine Ax g M c b l ?_;refine F0 (first:=[.ref a]) (h₀:=X.base) I.ok.mod.lb b.kp (aG (D pos J s1 σ Y _ g q) λus s2 ⟨vs,H2,i,r,N⟩=>⟨i.bQ,?_⟩) j n;exact uu (us:=.ref a::us) (vs:=.ref a::vs) F v y z B i (.cons rfl r) N
theorem JL{pl:YK Bool}(g:PE X o ta)(c:gb X.K C)(d:Meth X.K C m f)(F:aT X.prog X.w X.K X.mg X.base CX k f fd ps sp)(i:a' k X.A)(j:Binds X.K fd ps ds)(n:Vals Qi ds)(p:Passes CX X E)
  (r:eval (.Call (.Attribute o m Qh) [] [] pos) X.env=(do
   let e <- eval o X.env
   standAt Qh.atName
   let (f,first) <- holding [e] (getMethod e m pl)
   callWith pos f first (backTo pos (US [] X.env)) (backToKw pos (keywordEach [] X.env))):=by rfl) :
  PE X (.Call (.Attribute o m Qh) [] [] pos) (Dv C m sp Qi E ta vk):=by
 intro J s σ H Q I h;refine UC (pl:=pl) (aG (g J s σ H _ I h) λu s1 y=>?_) r;obtain⟨x,Y,b,t,a,dx,fs,ex,v,l,q⟩:=y;subst ex;obtain rfl:u=UN a:=t;refine Ax b v c d l ?_;exact PySem.W.callWith_K0 (first:=[.ref a]) b.bQ d.kp (uu (us:=[.ref a]) (vs:=[.ref a]) F i j n p b (.cons rfl .nil) q)
structure Mk(K:UI)(C f:Up):Prop where
 makes:ZJ K C=true
 init:XF K (.ref C) "__init__" = ih (ih (.ref f))
 fn:Za K (.ref f)=true
 kp:X3 K (.ref C)=true
theorem JM(M:Mk X.K C f)(F:aT X.prog X.w X.K X.mg X.base CX k f fd ps sp)(g:a' (k+1) X.A)(i:Binds X.K fd ps ds)(j:Vals Qi ds)
  (l:Passes CX X E) (I:Inv X J σ H s) (r:Vals vs us)
  (h:∀x dx,H x=none->H dx=none->dx≠x->sp (.ref x::(vs++Qi)) (upd (upd H dx (.own x)) x (.ins C dx [])) (λv H2=>v=.aO/\Q (.ref x) H2) E) :
  wA X (call (.ref C) us) (EP X J σ Q) X.xe s:=by
 have c:=h (s.aj+1) s.aj (I.aJ.fresh (gg _)) (I.aJ.fresh (aU _)) (bI (j4 _));have b:=Inv.made (C:=C) I;have d:Vals (V.ref (s.aj+1)::(vs++Qi)) (UN (s.aj+1)::(us++ds)):=.cons rfl (r.append j);have m:(UN (s.aj+1)::us++ds).length=ps.length:=by
  have e:=d.length;rw[F.len _ _ _ _ c]at e;exact e.symm
 refine j5 (JK (f:=f) I.bQ M.makes M.init (df.mp M.fn) (lz (F.run _ X.stack _ _ ⟨UN (s.aj+1)::us,[]⟩ (UN (s.aj+1)::(us++ds)) _ _ E (g.make C us [])
  (b.qQ.make C us []) (i _ (UN (s.aj+1)::us) b.bQ m) d c) λr s' a=>?_))
 cases r with
 |error e=>exact l J σ _ _ e s' b a
 |ok n =>
  cases n with
  |ret u =>
   obtain⟨v,H',o,p,q,t⟩:=b.after a;subst q;exact⟨p,⟨V.ref (s.aj+1),H',o,rfl,t⟩⟩
  |next=>exact U6 a
  |brk=>exact U6 a
  |cont=>exact U6 a
theorem tS(M:Mk X.K C f)(F:aT X.prog X.w X.K X.mg X.base CX k f fd ps sp)(d:a' (k+1) X.A)(g:Gl X x)(i:X.mg x=ih (.ref C))(j:Binds X.K fd ps ds)(l:Vals Qi ds)(m:Passes CX X E)
  (n:PA X (e::es) t) (b:(x==("__debug__" : Gv))=false:=by decide) (o:US (e::es) X.env=(false,eval e X.env)::US es X.env:=by rfl) (c:(backTo pos (US es X.env)).any (·.1)=false:=by rfl) :
  PE X (.Call (.Name x p) (e::es) [] pos) (Nf C sp Qi E t):=by
 intro J s σ H Q I h;refine oP (l3 I g i ?_ b);refine F0 (h₀:=X.base) I.ok.mod.lb M.kp (aG (n pos J s σ H _ I h) λus s1 ⟨vs,Y,a,r,q⟩=>⟨a.bQ,?_⟩) o c;exact JM M F d j l m a r q
end
structure bp(N P:List Gv)(sc:Yy):Prop where
 kind:sc.kind=.function
 co:sc.isCoroutine=false
 gen:sc.isGenerator=false
 nd:N.Nodup
 pre:N.take P.length=P
 par:∀x∈P,sc.names.lookup x=ih .local\/sc.names.lookup x=ih .cell
 Mp:∀y∈sc.names,y.2 ≠ .free
theorem A1{kindOf:Gv->Option XZ}{x:Gv}:∀{binds:am (Gv×i')}{m:Gv->Option i'},(∀v,(x,v)∉ binds)->bindL kindOf binds m x=m x
 |[],_,_=>rfl
 |(n,v)::r,m,h=>by
  unfold bindL;rw[A1 λw a=>h w (a7 _ a)];split
  ·have:x≠n:=by rintro rfl;exact h v aV
   simp[this]
  ·rfl
theorem A2{kindOf:Gv->Option XZ}{x:Gv}:∀{binds:am (Gv×i')}{m:Gv->Option i'},(∀v,(x,v)∉ binds)->bindC kindOf binds m x=m x
 |[],_,_=>rfl
 |(n,v)::r,m,h=>by
  unfold bindC;rw[A2 λw a=>h w (a7 _ a)];split
  ·rfl
  ·have:x≠n:=by rintro rfl;exact h v aV
   simp[this]
theorem A3{kindOf:Gv->Option XZ}{x:Gv}{v:i'}:∀{P:am Gv}{vs:am i'}{i:Nat}{m:Gv->Option i'},P.Nodup->P[i]?=ih x->vs[i]?=ih v->kindOf x=ih .local ->
  bindL kindOf (P.zip vs) m x=ih v
 |[],_,_,_,_,h,_,_=>by simp at h
 |_::_,[],_,_,_,_,h,_=>by simp at h
 |p::P,w::vs,0,m,a,h1,h2,b=>by
  simp at h1 h2;subst h1;subst h2;show bindL kindOf ((p,w)::P.zip vs) m p=_;unfold bindL;rw[A1 λv hv=>(dM.mp a).1 (F1 hv).1,ay b];simp
 |p::P,w::vs,i+1,m,a,h1,h2,b=>by
  show bindL kindOf ((p,w)::P.zip vs) m x=_;unfold bindL;exact A3 (i:=i) (dM.mp a).2 (by simpa using h1) (by simpa using h2) b
theorem A4{kindOf:Gv->Option XZ}{x:Gv}{v:i'}:∀{P:am Gv}{vs:am i'}{i:Nat}{m:Gv->Option i'},P.Nodup->P[i]?=ih x->vs[i]?=ih v->kindOf x≠ih .local ->
  bindC kindOf (P.zip vs) m x=ih v
 |[],_,_,_,_,h,_,_=>by simp at h
 |_::_,[],_,_,_,_,h,_=>by simp at h
 |p::P,w::vs,0,m,a,h1,h2,b=>by
  simp at h1 h2;subst h1;subst h2;show bindC kindOf ((p,w)::P.zip vs) m p=_;unfold bindC;rw[A2 λv hv=>(dM.mp a).1 (F1 hv).1,aq b];simp
 |p::P,w::vs,i+1,m,a,h1,h2,b=>by
  show bindC kindOf ((p,w)::P.zip vs) m x=_;unfold bindC;exact A4 (i:=i) (dM.mp a).2 (by simpa using h1) (by simpa using h2) b
def start(N:List Gv)(vs:List V):St:=vs.map ih++X9 (N.length - vs.length) none
def dV(CX:gz)(P:XJ)(w:XT)(K:UI)(mg:Gv->Option i')(base:XD)(N:List Gv)(qual:Gv)(scope:Yy)(f:Up)(cd:i')(A:XW)(outer:List YT)(s:Ur)(H:Hp)(E:XK):Cx where
 prog:=P
 w:=w
 K:=K
 mg:=mg
 base:=base
 A:=A.deeper (envOfC qual scope s.aj f cd)
 N:=N
 d0:=s
 ij:=H
 env:=envOfC qual scope s.aj f cd
 outer:=outer
 stack:=envOfC qual scope s.aj f cd::outer
 ex:=[]
 calm:=true
 fn:=λ_=>true
 pn:=[]
 xe:=λe s'=>Ut (UK P w) (A.deeper (envOfC qual scope s.aj f cd)) (leaving (envOfC qual scope s.aj f cd) e) (λ_ vM=>CX outer H s E e vM) (λe' vM=>CX outer H s E e' vM) s'
theorem tq{n:Nat}(h:sc.names.lookup x=ih .cell):∃c,(cellsFrom n sc.names []).lookup x=ih c:=by
 have q:=UD sc.names n [] (.inl h);exact wq.mp q
theorem IV{CX:gz}{E:XK}
  (S:bp N ps scope) (o:A.handled=none) (e0:kS P w K mg base A outer s H) (D:vs.length=ps.length) (r:Vals vs us)
  (x:InCallC s s.heap.objs.size (bindL (envOfC qual scope s.heap.objs.size f cd).kindOf (ps.zip us) λ_=>none) (cellsFrom (s.heap.objs.size+1) scope.names []) (bindC (envOfC qual scope s.heap.objs.size f cd).kindOf (ps.zip us) λ_=>none) s1) :
  Inv (dV CX P w K mg base N qual scope f cd A outer s H E) [] (start N vs) H s1:=by
 have C:ps.length<=N.length:=by have:=c6 Yf S.pre;rw[cz]at this;omega
 obtain⟨h1,tk,rfl,l⟩:=x.done;have g:∀b:Up,b ∉ (dV CX P w K mg base N qual scope f cd A outer s H E).ex:=λb z=>absurd (show b∈([]:am Up) from z) (by simp)
 refine⟨⟨e0.mod,S.kind,rfl,rfl,aU _,λy z c h1 h2=>?_,λy hy=>?_,λy c _ h=>?_,λ_=>o,Around.frames_deeper e0.frames,.inr ⟨rfl,rfl⟩,λb z=>absurd z (g b),e0.bs,e0.hQ,λb _ _=>g b,λb z=>absurd z (g b),e0.fq,e0.ir⟩,
  rfl,e0.bare,Un.kept l,⟨_,x.toInCall.ns,λi y v h1 h2 F=>?_⟩,λy c h=>⟨_,x.cell y c h⟩,e0.aJ.fresh (aU _),λy c h=>?_,λp d=>absurd (show p∈([]:am (Up×Ye)) from d) (by simp),e0.aJ.kept l,?_⟩
 ·exact name_of_addr x.apart (jh h1) (jh h2)
 ·have hy:scope.names.lookup y=ih .cell\/scope.names.lookup y=ih .free:=hy
  rcases hy with hy|hy
  ·exact tq hy
  ·exact absurd rfl (S.Mp _ (jh hy))
 ·exact rY (x.above y c (jh h))
 ·have hi:i<vs.length:=by
   unfold start at h2
   by_cases hi:i<vs.length
   ·exact hi
   ·rw[UE (by simpa using hi)]at h2
    rw[List.getElem?_replicate]at h2;split at h2 <;> cases h2
  have t:vs[i]?=ih v:=by
   unfold start at h2;rw[F2 (by simpa using hi),dQ]at h2
   cases e:vs[i]? with
   |none=>rw[e]at h2;cases h2
   |some a=>rw[e]at h2;cases h2;rfl
  obtain⟨u,m,B⟩:=r.get t;have d:ps[i]?=ih y:=by
   rw[<-S.pre,List.getElem?_take_of_lt (by omega)];exact h1
  have j:ps.Nodup:=by rw[<-S.pre];exact S.nd.sublist (iD _ _)
  refine⟨u,B,?_⟩;rcases S.par y (di d) with k|k
  ·exact .inl ⟨k,A3 j d m k⟩
  ·obtain⟨c,e⟩:=tq (n:=s.heap.objs.size+1) k
   refine .inr ⟨.inl k,c,e,?_⟩;have q:=x.cell y c e;rw[A4 j d m (by show scope.names.lookup y≠_;rw[k];decide)]at q
   exact q
 ·exact e0.aJ.fresh (rY (x.above y c (jh h)))
 ·unfold start
  show _=N.length;rw[cL,aE,wu];omega
theorem uP{CX:gz}{k:Nat}{i:Arguments}{p kV:i'}(lk:K.lookup f=ih ⟨oc,od,.func (XR name qual i body scope p kV Qc pm an Qa ct),Ql⟩)(D:Yv K Qa qual=true)(S:bp N ps scope)
  (j:∀vs H Q E,sp vs H Q E->vs.length=ps.length)
  (B:∀(A:XW) (outer:am YT) (s:Ur) (H:Hp) (vs:am V) (Q:VK) (E:XK),a' k (A.deeper (envOfC qual scope s.aj f Qa))->sp vs H Q E ->
   ∃t,d8 (dV CX P w K mg base N qual scope f Qa A outer s H E) body t/\t { nx:=λ_ H'=>Q .aO H',rt:=Q } (start N vs) H) :
  aT P w K mg base CX (k+1) f (XR name qual i body scope p kV Qc pm an Qa ct) ps sp:=by
 refine⟨j,λA outer s H args us vs Q E g e0 G r l=>?_⟩;have J:=j _ _ _ _ l;have z:K.In s.heap:=e0.mod.lb.keeps λb o e=>(e0.bs b o e).1;have F:s.heap.NoLimit:=e0.mod.nolimit.keeps λb o e=>(e0.bs b o e).1;have C:∀y∈ps.zip us,scope.names.lookup y.1=ih .local\/(scope.names.lookup y.1=ih .cell/\((cellsFrom (s.aj+1) scope.names []).lookup y.1).isSome=true):=λ⟨n,v⟩ L=>by
  rcases S.par n (F1 L).1 with q|q
  ·exact .inl q
  ·exact .inr ⟨q,UD _ _ _ (.inl q)⟩
 refine codeAny_call_function g.depth (z _ _ lk) rfl S.co S.gen rfl (PySem.W.codeRec_of z D) (G _ _ _ _ ?_);refine wpAny_newFunctionEnv_cells S.kind C λenv M s1 x=>?_;subst M;refine⟨F.keeps x.toInCall.keep,codeAny_func ?_⟩;obtain⟨t,O,R⟩:=B A outer s H vs Q E (g.deeper _) l;have I:Inv (dV CX P w K mg base N qual scope f Qa A outer s H E) [] (start N vs) H s1:=IV S g.hd e0 J r x;refine hW (O [] s1 (start N vs) H _ I R) (λT s' c=>?_) λe s' c=>c;have m:∀{d:St}{H':Hp}{v:V}{u:i'},Inv (dV CX P w K mg base N qual scope f Qa A outer s H E) [] d H' s'->RelV v u->Q v H'->CE outer P w H s Q u s':=
  λ{d H' v u} a h q=>⟨v,H',a.os,a.bare,a.base,a.aJ,h,q⟩
 cases T with
 |ret u =>
  obtain⟨v,d,H',a,h,q⟩:=c;exact m a h q
 |next =>
  obtain⟨d,H',a,q⟩:=c;exact m (v:=V.aO) (u:=Vv) a rfl q
 |brk =>
  obtain⟨_,_,_,q⟩:=c;exact U6 q
 |cont =>
  obtain⟨_,_,_,q⟩:=c;exact U6 q
section
variable{p:Zx}{t:TA}{id:String}{r:am V->Hp->VK->Prop}
def EB(r:List V->Hp->VK->Prop)(t:TA):TE:=λσ H Q=>t σ H λvs Y=>r vs Y Q
theorem cu(c:c2 X (.builtin id) r)(d:Gl X x)(f:X.mg x=none)(hv:Vu x=ih (.builtin id))(g:PA X (e::es) t)(i:x ≠ "__name__" :=by decide)(a:(x==("__debug__" : Gv))=false:=by decide)
  (j:US (e::es) X.env=(false,eval e X.env)::US es X.env:=by rfl) (b:(backTo pos (US es X.env)).any (·.1)=false:=by rfl):PE X (.Call (.Name x p) (e::es) [] pos) (EB r t):=by
 intro J s σ H Q I h;refine oP (nN I d f hv ?_ i a);exact UG (aG (g pos J s σ H _ I h) λus s1 ⟨vs,Y,k,l,m⟩=>c J s1 σ Y vs us Q k l m) j b
theorem dY(c:c2 X (.type T) r)(d:Gl X x)(f:X.mg x=none)(hv:Vu x=ih (.type T))(g:PA X (e::es) t)(i:x ≠ "__name__" :=by decide)(a:(x==("__debug__" : Gv))=false:=by decide)
  (j:US (e::es) X.env=(false,eval e X.env)::US es X.env:=by rfl) (b:(backTo pos (US es X.env)).any (·.1)=false:=by rfl):PE X (.Call (.Name x p) (e::es) [] pos) (EB r t):=by
 intro J s σ H Q I h;refine oP (nN I d f hv ?_ i a);exact FX (aG (g pos J s σ H _ I h) λus s1 ⟨vs,Y,k,l,m⟩=>c J s1 σ Y vs us Q k l m) j b
end
end L2
namespace HT
open PyProof.Rows
section
open SeqAt
open AutoSeq1 (wpAny_loadPart')
open MeetsSeq MeetsSeq2 MeetsSeq3
end
theorem K7{t:Up}{vs ws:am i'}{Q:i'->Ur->Prop}(o:X6 s.heap t vs.toArray)(p:X6 s.heap b ws.toArray)(hv:vs ≠ [])
  (h1:ws=[]->Q (.ref t) s) (h2:ws ≠ []->Q (.ref s.aj) { s with heap:=s.heap.push { cls:=.type "tuple",data:=.seq (vs++ws).toArray } })
  (hsz:vs.length+ws.length<=Us):Ut (UK prog w) A (X7 .Add (.ref t) (.ref b)) Q E s:=by
 obtain⟨⟨cls,j,data,sl⟩,c,k,n,l⟩:=id o;obtain⟨⟨q,f,data2,g⟩,a,h,m,i⟩:=id p;simp only at k l h i;subst k l h i;have e:vs.toArray++ws.toArray=(vs++ws).toArray:=by simp
 by_cases d:ws=[]
 ·exact concat_meets ⟨_,c,rfl⟩ ⟨_,a,rfl⟩ F4 F5 F6 F7 (F8 _ _)
   (tuple_addW1 t b vs.toArray ws.toArray n m j f sl g (by simpa using hv) (by simp[d])) ⟨c,a,h1 d⟩
 ·refine concat_meets ⟨_,c,rfl⟩ ⟨_,a,rfl⟩ F4 F5 F6 F7 (F8 _ _)
   (tuple_addW2 t b vs.toArray ws.toArray n m j f sl g (by simpa using hv) (by simpa using d) (by rw[bW,bW];exact hsz)) ⟨c,a,?_⟩
  rw[e];exact h2 d
def bq(n d:Nat):Option Int->Nat
 |none=>d
 |some v=>if v<0 then (v+(n:Int)).toNat else min v.toNat n
theorem JN(n d:Nat):bq n d none=d:=rfl
theorem tT(n d k:Nat):bq n d (ih (k:Int))=min k n:=by
 show(if (k:Int)<0 then ((k:Int)+(n:Int)).toNat else min (k:Int).toNat n)=min k n;rw[aq (by omega),gI]
theorem Mq(n d:Nat)(a:d<=n)(o:a2 Int):bq n d o<=n:=by
 cases o with
 |none=>exact a
 |some v =>
  show(if v<0 then (v+(n:Int)).toNat else min v.toNat n)<=n
  by_cases hv:v<0
  ·rw[ay hv];omega
  ·rw[aq hv];exact Nat.min_le_right _ _
theorem CA(v:Int)(n d:Nat):(if v<0 then max (v+(n:Int)) 0 else min v (n:Int))=((bq n d (ih v):Nat):Int):=by
 show(if v<0 then max (v+(n:Int)) 0 else min v (n:Int))=(((if v<0 then (v+(n:Int)).toNat else min v.toNat n):Nat):Int)
 by_cases hv:v<0
 ·simp only[ay hv];omega
 ·simp only[aq hv];omega
theorem Ia(lo hi:a2 Int)(n:Nat):Yq lo hi 1 (n:Int)=(((bq n 0 lo:Nat):Int),((bq n n hi:Nat):Int)):=by
 have h1 : ¬ ((1:Int)<0):=by omega
 unfold Yq;simp only[h1,j6];refine lA ?_ ?_
 ·cases lo with
  |none=>rfl
  |some v=>exact CA v n 0
 ·cases hi with
  |none=>rfl
  |some v=>exact CA v n n
theorem Ib(i j:Nat):X1 (i:Int) (j:Int) 1=j - i:=by
 unfold X1;have h1:(1:Int)>0:=by omega
 simp only[h1,gZ,Int.ediv_one];split <;> omega
theorem Az{v:i'}{o:a2 Int}{Q:a2 Int->Ur->Prop}(p:YV v o)(h:Q o s):Ut (UK prog w) A (aaN v) Q E s:=by
 cases p with
 |none=>exact slicePart_none h
 |int i t=>exact slicePart_int h
theorem Ad{lo:a2 Int}{n:Nat}{Q:Int×Int×Nat->Ur->Prop}(c:s.heap.IsSliceOf sl vl vu .none)(pl:YV vl lo)(d:YV vu hi)
  (h:Q (((bq n 0 lo:Nat):Int),1,bq n n hi - bq n 0 lo) s):Ut (UK prog w) A (YR (.ref sl) (pure (n:Int))) Q E s:=by
 obtain⟨os,a,e,b⟩:=id c;unfold YR aaO;refine ae (ae (lB a b (x:=vl) rfl (ae (lB a b (x:=vu) rfl (ae (lB a b (x:=.none) rfl (ao ?_)))))));refine ae (slicePart_none ?_);show Ut _ _ (if ((1:Int)==0)=true then _ else _) _ _ s;rw[aq (by decide)]
 refine ae (Az pl (ae (Az d (ae (ao ?_)))));show Ut _ _ (match Yq lo hi 1 (n:Int) with|(lo,hi)=>pure (lo,(1:Int),X1 lo hi 1)) _ _ s;rw[Ia lo hi n];show Ut _ _ (pure (((bq n 0 lo:Nat):Int),(1:Int),X1 ((bq n 0 lo:Nat):Int) ((bq n n hi:Nat):Int) 1)) _ _ s;rw[Ib];exact ao h
theorem JO(xs:Array i')(i k:Nat):((Xs k).filterMap λ(m:Nat)=>xs[((i:Int)+(m:Int) * 1).toNat]?).toArray=((xs.toList.drop i).take k).toArray:=by
 have e:(λ(m:Nat)=>xs[((i:Int)+(m:Int) * 1).toNat]?)=λm=>xs[i+m]?:=by
  funext m
  have:((i:Int)+(m:Int) * 1).toNat=i+m:=by omega
  rw[this]
 rw[e];have:=pick_run xs i k;rw[List.filterMap_map]at this;have e2:((λx=>xs[x]?) ∘ λx=>i+x)=λm=>xs[i+m]?:=rfl;rw[e2]at this;rw[this]
theorem G6{t:Up}{lo:a2 Int}{Q:i'->Ur->Prop}(b:X6 s.heap t items)(c:s.heap.IsSliceOf sl vl vu .none)(pl:YV vl lo)(i:YV vu hi)
  (j : ¬ (bq items.size 0 lo=0/\bq items.size items.size hi=items.size))
  (h:Q (.ref s.heap.objs.size) { s with heap:=s.heap.push { cls:=.type "tuple",data:=.seq ((items.toList.drop (bq items.size 0 lo)).take (bq items.size items.size hi - bq items.size 0 lo)).toArray } })
  (hsz:items.size<=Us):Ut (UK prog w) A (getItem (.ref t) (.ref sl)) Q E s:=by
 have a:sizeOk (.seq ((items.toList.drop (bq items.size 0 lo)).take (bq items.size items.size hi - bq items.size 0 lo)).toArray):=by
  show((items.toList.drop (bq items.size 0 lo)).take (bq items.size items.size hi - bq items.size 0 lo)).toArray.size<=Us;rw[bW,cz,j7,fA];omega
 have l:bq items.size items.size hi<=items.size:=Mq _ _ (aU _) hi;obtain⟨os,d,e,k⟩:=id c;have f:s.TypeIs (.ref sl) "slice" :=⟨os,d,e⟩;unfold getItem
 try with_reducible refine d5 ?_
 first|refine ae (ao ?_)|skip
 refine ae (wpAny_sequenceKey b.typeIs (by decide) ?_)
 refine ae (r0 (name:=X0 "__getitem__") b.typeIs oQ
  (hY oQ b.typeIs entry_tuple_getitem ?_ (args_tuple_getitem _ _)))
 show Ut _ _ (Ym (.ref t) >>= _) _ _ s;refine ae (tupleItemsOf_ b ?_);refine ae (ji f ?_);rw[ay (by decide)]
 refine ae (Ad c pl i ?_);have g : ¬ ((((bq items.size 0 lo:Nat):Int)==0&&(1:Int)==1&&(bq items.size items.size hi - bq items.size 0 lo)==items.size)=true):=by
  intro q;rw[hZ,hZ]at q;have n:((bq items.size 0 lo:Nat):Int)=0:=eq_of_beq q.1.1;have o:bq items.size items.size hi - bq items.size 0 lo=items.size:=eq_of_beq q.2;exact j ⟨by omega,by omega⟩
 show Ut _ _ (if (((bq items.size 0 lo:Nat):Int)==0&&(1:Int)==1&&(bq items.size items.size hi - bq items.size 0 lo)==items.size)=true then _ else _) _ _ s;rw[aq g,JO]
 first
  |exact ae (m:=X4 _) (fB (ao ⟨_,rfl,ao h⟩) a)
  |exact ae (m:=X4 _) (fB (ae (ao (ao ⟨_,rfl,ao h⟩))) a)
  |exact ae (ae (m:=X4 _) (fB (ao (ao ⟨_,rfl,ao h⟩)) a))
  |exact ae (ae (m:=X4 _) (fB (ao ⟨_,rfl,ao h⟩) a))
end HT
namespace L2
open Spec PyProof.Rows
abbrev TO:=St->Hp->(Option Int->Hp->Prop)->Prop
def PO(X:Cx)(e:Option Vc)(t:TO):Prop:=
 ∀J s σ H (Q:Option Int->Hp->Prop),Inv X J σ H s->t σ H Q ->
  wA X (evalPart e X.env) (λu s'=>∃o H',Inv X J σ H' s'/\YV u o/\Q o H') X.xe s
def K8:TO:=λ_ H Q=>Q none H
def Ng(t:TE):TO:=λσ H Q=>t σ H λx Y=>∃i,x=.int i/\Q (ih i) Y
theorem intsAre_of{ns:am Int}:∀{us:am i'},Vals (ns.map V.int) us->Y7 us ns:=by
 induction ns with
 |nil=>intro us r;rw[lC]at r;cases r;exact .nil
 |cons n ns a =>
  intro us r;rw[bU]at r;cases r with
  |cons b c =>
   obtain⟨t,e⟩:=b;subst e;exact .cons n t (a c)
section
variable{lo hi:a2 Vc}{tl th:TO}{p2:Zx}
theorem iQ:PO X none K8:=by
 intro J s σ H Q I h;rw[F9];exact ao ⟨none,H,I,.none,h⟩
theorem gN(h:PE X e te):PO X (ih e) (Ng te):=by
 intro J s σ H Q I a;rw[evalPart_some];refine aG (h J s σ H _ I a) λu s1 f=>?_;obtain⟨x,Y,b,c,d⟩:=f;obtain⟨i,rfl,q⟩:=d;obtain⟨t,rfl⟩:=c;exact⟨ih i,Y,b,.int i t,q⟩
def mJ(X:Cx)(r:V->Option Int->Option Int->Hp->VK->Prop):Prop:=
 ∀J s σ H (x:V) (v vl vu:i') (lo hi:Option Int) (sl:Up) (Q:VK),Inv X J σ H s->RelV x v->s.heap.IsSliceOf sl vl vu .none->YV vl lo->YV vu hi->r x lo hi H Q ->
  ∃T id,typeLookup (.type T) "__getitem__" = pure (ih (.builtin id))/\s.TypeIs v T/\wA X (getItem v (.ref sl)) (EP X J σ Q) X.xe s
def P'(r:V->Option Int->Option Int->Hp->VK->Prop)(te:TE)(tl th:TO):TE:=λσ H Q=>te σ H λx Y=>tl σ Y λl H2=>th σ H2 λu H3=>r x l u H3 Q
theorem h8{r:V->Option Int->Option Int->Hp->VK->Prop}(d:mJ X r)(f:PE X e te)(g:PO X lo tl)(i:PO X hi th):PE X (.Subscript e (.Slice lo hi none p2) pos) (P' r te tl th):=by
 intro J s σ H Q I h;refine Zo (aG (f J s σ H _ I h) λv s1 E=>?_);obtain⟨x,Y,j,k,m⟩:=E;refine wpAny_Slice (aG (g J s1 σ Y _ j m) λvl s2 ⟨l,H2,n,o,p⟩=>aG (i J s2 σ H2 _ n p) λvu a E=>?_);obtain⟨u,c,t,w,y⟩:=E;rw[F9];refine ao ?_;have z:Inv X J σ c { a with heap:=a.heap.push { cls:=.type "slice",data:=.fields #[vl,vu,.none] } }:=t.kept (t':=a.toks) λb D q=>a8 _ q;obtain⟨T,id,A,B,C⟩:=d J { a with heap:=a.heap.push { cls:=.type "slice",data:=.fields #[vl,vu,.none] } } σ c x v vl vu l u a.aj Q z k (Y6 ..) o w y;show wA X (subscriptTail e (.Slice lo hi none p2) v (.ref a.aj)) (EP X J σ Q) X.xe { a with heap:=a.heap.push { cls:=.type "slice",data:=.fields #[vl,vu,.none] } };exact tail_any (ops:=[.ref a.aj,v]) B A C (by with_unfolding_all rfl)
def e6(xs:List V)(lo hi:Option Int):List V:=(xs.drop (HT.bq xs.length 0 lo)).take (HT.bq xs.length xs.length hi - HT.bq xs.length 0 lo)
theorem Aq(xs:am V)(lo hi:a2 Int):(e6 xs lo hi).length<=xs.length:=by
 unfold e6;rw[cz,j7];omega
def OR(K:UI):V->Option Int->Option Int->Hp->VK->Prop:=λx lo hi H Q=>∃a xs,x=.ref a/\aZ K H a xs /\
 ¬ (HT.bq xs.length 0 lo=0/\HT.bq xs.length xs.length hi=xs.length) /\∀p,H p=none->Q (.ref p) (upd H p (.tup (e6 xs lo hi)))
theorem Mr:mJ X (OR X.K):=by
 rintro J s σ H x v vl vu lo hi sl Q I f g i j ⟨a,xs,rfl,k,l,q⟩;cases f
 obtain⟨its,r,d,e⟩:=I.tuple k;have c:its.toArray.size=xs.length:=by rw[bW];exact r.length.symm
 refine⟨"tuple",_,oQ.lookup,d.typeIs,?_⟩;refine HT.G6 d g i j (by rw[c];exact l) ?_ (by rw[c];exact e)
 rw[c];refine⟨.ref s.aj,_,I.laid (t':=s.toks) (o:=.tup (e6 xs lo hi)) (λb m q=>a8 _ q) (aU _) ?_,rfl,q _ (I.aJ.fresh (aU _))⟩;exact⟨et (Aq xs lo hi) e,_,(r.drop (HT.bq xs.length 0 lo)).take (HT.bq xs.length xs.length hi - HT.bq xs.length 0 lo),iZ.new _ _⟩
def Nh(K:UI):R2:=λx y H Q=>∃a b xs ys,x=.ref a/\y=.ref b/\aZ K H a xs/\aZ K H b ys/\xs ≠ []/\xs.length+ys.length<=Us /\
 (ys=[]->Q (.ref a) H)/\(ys ≠ [] ->∀p,H p=none->Q (.ref p) (upd H p (.tup (xs++ys))))
theorem Vals.tU(r:Vals xs us):us=[] ↔ xs=[]:=by
 cases r with
 |nil=>simp
 |cons _ _=>simp
theorem K9:cg X (X7 .Add) (Nh X.K):=by
 rintro J s σ H x y v u Q I f g ⟨a,b,xs,ys,rfl,rfl,i,j,k,e,l,m⟩;cases f
 cases g
 obtain⟨its,d,n,_⟩:=I.tuple i;obtain⟨p,c,p2,_⟩:=I.tuple j;refine HT.K7 n p2 (λz=>k (d.tU.mp z)) (λz=>⟨.ref a,H,I,rfl,l (c.tU.mp z)⟩) (λz=>?_) (by rw[<-d.length,<-c.length];exact e)
 refine⟨.ref s.aj,_,I.laid (t':=s.toks) (o:=.tup (xs++ys)) (λb r q=>a8 _ q) (aU _) ?_,rfl,m (λw=>z (c.tU.mpr w)) _ (I.aJ.fresh (aU _))⟩;exact⟨by rw[cL];exact e,_,d.append c,iZ.new _ _⟩
end
def jc(n:Nat)(i:Int):Option Nat:=if 0<=i then (if i<n then ih i.toNat else none) else if -(n:Int)<=i then ih (i+n).toNat else none
def cB{α:Type}(xs:List α)(i:Int):Option α:=(jc xs.length i).bind λj=>xs[j]?
theorem CB{n:Nat}{i:Int}(h:jc n i=ih j):seqIndex? i n=ih j/\j<n /\ -(n:Int)<=i/\i<n:=by
 unfold jc at h
 by_cases h0:0<=i
 ·rw[ay h0]at h
  by_cases h1:i<n
  ·rw[ay h1]at h
   have e:i.toNat=j:=cZ h;exact⟨by rw[wx h0 h1,e],by omega,by omega,h1⟩
  ·rw[aq h1]at h;cases h
 ·rw[aq h0]at h
  by_cases h1 : -(n:Int)<=i
  ·rw[ay h1]at h
   have e:(i+n).toNat=j:=cZ h;exact⟨by rw[seqIndex_neg (by omega) h1,e],by omega,h1,by omega⟩
  ·rw[aq h1]at h;cases h
theorem tV{α:Type}{xs:am α}{i:Int}{v:α}(h:cB xs i=ih v):∃j,seqIndex? i xs.length=ih j/\xs[j]?=ih v/\j<xs.length /\ -(xs.length:Int)<=i/\i<xs.length:=by
 unfold cB at h;cases e:jc xs.length i with
 |none=>rw[e]at h;cases h
 |some j =>
  rw[e]at h;obtain⟨h1,h2,a,b⟩:=CB e;exact⟨j,h1,h,h2,a,b⟩
theorem cF{α:Type}{xs:am α}{v:α}(h:xs[j]?=ih v):cB xs (j:Int)=ih v:=by
 have a:j<xs.length:=(bR.mp h).1;have e:jc xs.length (j:Int)=ih j:=by
  unfold jc;rw[ay (by omega),ay (by omega)];simp
 unfold cB;rw[e];exact h
theorem pG{α:Type}(xs:am α)(v:α):cB (xs++[v]) (-1)=ih v:=by
 have a:(xs++[v]).length=xs.length+1:=by simp
 have e:jc (xs++[v]).length (-1)=ih xs.length:=by
  unfold jc;rw[a,aq (by decide),ay (by omega)]
  congr 1
  omega
 unfold cB;rw[e];show(xs++[v])[xs.length]?=ih v;simp
def K'(b:Vc):Prop:= ∀o i,subscripted b false o i=operate [o,i] (getItem o i)
def mK(X:Cx)(r:R2):Prop:=
 ∀(value slice:Vc) J s σ H (x y:V) (v u:i') (Q:VK),Inv X J σ H s->RelV x v->RelV y u->r x y H Q ->
  subscripted slice false v u=operate [v,u] (getItem v u)->wA X (subscriptTail value slice v u) (EP X J σ Q) X.xe s
def vN(X:Cx)(id:String)(r:V->List V->Hp->VK->Prop):Prop:=
 ∀J s σ H (x:V) (xs:List V) (v:i') (us:List i') (Q:VK),Inv X J σ H s->RelV x v->Vals xs us->r x xs H Q ->
  wA X (call (.builtin id) (v::us)) (EP X J σ Q) X.xe s
section
variable{a b:Vc}{tb:TE}
theorem aS{r:R2}(c:mK X r)(d:PE X a ta)(e:PE X b tb)(f:K' b:=by exact λ_ _=>rfl):PE X (.Subscript a b pos) (jV r ta tb):=by
 intro J s σ H Q I h;exact Zo (vg d e I h λv u s2 x y H2 g i j q=>c a b J s2 σ H2 x y v u Q g i j q (f _ _))
def qR(K:UI):R2:=λx y H Q=>∃p xs i v,x=.ref p/\y=.int i/\au K H p xs/\cB xs i=ih v/\Q v H
def mD(K:UI):R2:=λx y H Q=>∃p xs i v,x=.ref p/\y=.int i/\aZ K H p xs/\cB xs i=ih v/\Q v H
def OS:R2:=λx y H Q=>∃z i c,x=.str z/\y=.int i/\z.length<=Us/\cB z.cps.toList i=ih c/\Q (.str ⟨#[c]⟩) H
theorem ck:mK X (qR X.K):=by
 intro value B J s σ H x y v u Q I g k h d;obtain⟨p,xs,i,z,rfl,rfl,l,m,q⟩:=h;cases g
 obtain⟨t,rfl⟩:=k;obtain⟨its,r,a,C⟩:=I.list l;obtain⟨j,h1,h2,D,n,o⟩:=tV m;obtain⟨w,e,f⟩:=r.get h2;have A:=r.length;have E:=kI;have c:EP X J σ Q w s:=⟨z,H,I,f,q⟩
 by_cases h0:0<=i
 ·have b:i.toNat=j:=by
   rw[wx h0 o]at h1;exact cZ h1
  exact item_listR a.isList h0 (by omega) (by rw[b];simpa using e) c d
 ·have b:(i+(its.toArray.size:Int)).toNat=j:=by
   rw[seqIndex_neg (by omega) n]at h1
   rw[bW,<-A];exact cZ h1
  exact subscriptTail_builtinR (x:=w) a.isList.typeIs F'.lookup
   (wpAny_getItem_list_neg (Q:=λr s'=>r=w/\EP X J σ Q r s') a.isList (by omega) (by rw[bW] <;> omega) (by omega) (by rw[b];simpa using e) ⟨rfl,c⟩) d
theorem bD:mK X (mD X.K):=by
 intro value n J s σ H x y v u Q I d e h f;obtain⟨p,xs,i,z,rfl,rfl,g,k,q⟩:=h;cases d
 obtain⟨t,rfl⟩:=e;obtain⟨its,r,a,o⟩:=I.tuple g;obtain⟨j,h1,h2,A,B,C⟩:=tV k;obtain⟨w,l,b⟩:=r.get h2;have m:=r.length;have D:=kI;have c:EP X J σ Q w s:=⟨z,H,I,b,q⟩;exact subscriptTail_builtinR (x:=w) a.typeIs slot_tuple_getitem.lookup
  (getItem_tuple (j:=j) (Q:=λr s'=>r=w/\EP X J σ Q r s') a (by omega) (by omega) (by rw[bW,<-m];exact h1) (by simpa using l) ⟨rfl,c⟩) f
theorem Dc:mK X OS:=by
 intro value l J s σ H x y v u Q I a b h d;obtain⟨z,i,c,rfl,rfl,m,e,q⟩:=h;obtain⟨t,rfl⟩:=a;obtain⟨t',rfl⟩:=b;obtain⟨j,h1,h2,n,f,g⟩:=tV e;have k:z.cps.toList.length=z.length:=by simp[abl]
 rw[k]at h1 f g;have o:=kI;exact tail_any (typeIs_str s z t) slot_str_getitem.lookup (getItem_str (c:=c) (by
  have e1:decide (i < -(2 ^ 63:Int))=false:=d4 (by omega)
  have e2:decide (i ≥ 2 ^ 63)=false:=d4 (by omega)
  rw[e1,e2,Ga]) (by rw[h1];simpa using h2) ⟨.str ⟨#[c]⟩,H,I.tok _,⟨_,rfl⟩,q⟩) d
theorem Ic(its:am i')(n j:Nat)(u:i'):Xw (·.setIfInBounds j u) { cls:=.type "list",data:=.seq its.toArray n }={ cls:=.type "list",data:=.seq (its.set j u).toArray n }:=by
 simp[Xw]
theorem Inv.lst{J:am (Up×Ye)}{σ:St}{H:Hp}{s:Ur}{p:Up}{xs:am V}(I:Inv X J σ H s)(h:H p=ce xs) :
  ∃(its:am i') (n:Nat),Vals xs its/\s.heap.get? p=ih { cls:=.type "list",data:=.seq its.toArray n }/\xs.length<=Us:=by
 obtain⟨z,its,n,r,e⟩:=I.aJ p _ h;exact⟨its,n,r,e,z⟩
theorem Inv.Ms{ys:am V}{its':am i'}{n a:Nat}{f:Ye->Ye}(I:Inv X J σ H s)(h:H p=ce xs)
  (d:s.heap.get? p=ih { cls:=.type "list",data:=.seq its.toArray n }) (c:f { cls:=.type "list",data:=.seq its.toArray n }={ cls:=.type "list",data:=.seq its'.toArray a }) (r:Vals ys its') (hz:ys.length<=Us) (t:Nat) :
  Inv X J σ (upd H p (.lst ys)) { s with heap:=s.heap.update p f,toks:=t }:=by
 have e:(s.heap.update p f).get? p=ih { cls:=.type "list",data:=.seq its'.toArray a }:=by
  rw[oR f d (by rw[c] <;> rfl),c]
 refine I.write (x:=p) (e:=p) (by rw[h];trivial) (.inl rfl) (λb u g q=>(j8 _ _ (aP g)).trans q) ⟨_,e⟩ ?_
 exact⟨hz,its',a,r,e⟩
def Ni:V->V->V->Hp->(Hp->Prop)->Prop:=λo i v H Q=>∃p xs k j,o=.ref p/\i=.int k/\H p=ih (.lst xs)/\jc xs.length k=ih j/\Q (upd H p (.lst (xs.set j v)))
theorem set_list:DO X Ni:=by
 rintro J s σ H o i v z A u Q I l m w ⟨p,xs,k,j,rfl,rfl,d,x,q⟩;cases l
 obtain⟨t,rfl⟩:=m;obtain⟨its,n,r,a,y⟩:=I.lst d;obtain⟨h1,h2,e,f⟩:=CB x;have b:=r.length;have B:=kI;have g:Inv X J σ (upd H p (.lst (xs.set j v))) { s with heap:=s.heap.update p (Xw (·.setIfInBounds j u)) }:=
  I.Ms d a (Ic its n j u) (r.set w j) (by rw[ZY];exact y) s.toks
 by_cases h0:0<=k
 ·have c:k.toNat=j:=by
   rw[wx h0 f]at h1;exact cZ h1
  exact PySem.W.ki_setAt a h0 (by omega) (by rw[bW,<-b];exact f) (by rw[c];exact⟨_,g,q⟩)
 ·have c:(k+(its.toArray.size:Int)).toNat=j:=by
   rw[seqIndex_neg (by omega) e]at h1
   rw[bW,<-b];exact cZ h1
  exact PySem.W.ki_setBack a (by omega) (by rw[bW,<-b];exact e) (by omega) (by rw[c];exact⟨_,g,q⟩)
theorem Hj(lo hi:a2 Int)(n:Nat):(sliceBounds lo hi none n).1=((HT.bq n 0 lo:Nat):Int)/\(sliceBounds lo hi none n).2.1=((HT.bq n n hi:Nat):Int)/\(sliceBounds lo hi none n).2.2=1:=by
 refine⟨?_,?_,rfl⟩
 ·cases lo with
  |none=>simp[sliceBounds,HT.bq]
  |some i =>
   simp only[sliceBounds,HT.bq,ZK,show(1:Int)>0 by decide,gZ]
   by_cases h:i<0
   ·simp only[h,gZ] <;> omega
   ·simp only[h,j6] <;> omega
 ·cases hi with
  |none=>simp[sliceBounds,HT.bq]
  |some i =>
   simp only[sliceBounds,HT.bq,ZK,show(1:Int)>0 by decide,gZ]
   by_cases h:i<0
   ·simp only[h,gZ] <;> omega
   ·simp only[h,j6] <;> omega
theorem He(its:am i')(lo hi:a2 Int):slicePick its.toArray lo hi none=((its.drop (HT.bq its.length 0 lo)).take (HT.bq its.length its.length hi - HT.bq its.length 0 lo)).toArray:=by
 obtain⟨h1,h2,a⟩:=Hj lo hi its.toArray.size;unfold slicePick;rw[h1,h2,a];simp only[sliceRange_one,pick_run,bW] <;> rfl
def DU(K:UI):V->Option Int->Option Int->Hp->VK->Prop:=λx lo hi H Q=>∃a xs,x=.ref a/\au K H a xs /\∀p,H p=none->Q (.ref p) (upd H p (.lst (e6 xs lo hi)))
theorem kD:mJ X (DU X.K):=by
 rintro J s σ H x v vl vu lo hi sl Q I e f g i ⟨a,xs,rfl,j,q⟩;cases e
 obtain⟨its,r,c,k⟩:=I.list j;have d:=r.length;refine⟨"list",_,F'.lookup,c.isList.typeIs,?_⟩;refine UJ c.isList f g i .none (by simp) ?_ (by rw[bW] <;> omega)
 rw[He,<-d];refine⟨.ref s.heap.objs.size,_,I.laid (t':=s.toks) (o:=.lst (e6 xs lo hi)) (λb l q=>a8 _ q) (aU _) ?_,rfl,q _ (I.aJ.fresh (aU _))⟩;exact⟨et (Aq xs lo hi) k,_,0,(r.drop (HT.bq xs.length 0 lo)).take (HT.bq xs.length xs.length hi - HT.bq xs.length 0 lo),b5 _ rfl⟩
def ie:V->Bool
 |.aO=>true
 |.bl _=>true
 |.int _=>true
 |.str _=>true
 |_=>false
def jW:V->V->Bool
 |.aO,.aO=>true
 |.bl a,.bl b=>a==b
 |.bl a,.int b=>(if a then 1 else 0)==b
 |.int a,.bl b=>a==(if b then 1 else 0)
 |.int a,.int b=>a==b
 |.str a,.str b=>a==b
 |_,_=>false
theorem Mt{x:V}{v:i'}(d:RelV y u)(c:RelV x v)(f:ie y=true)(e:ie x=true):aax A s u v (jW y x):=by
 cases y with
 |aO =>
  cases d
  cases x with
  |aO=>cases c;exact abx _
  |bl b=>cases c;exact abA b
  |int b=>obtain⟨t,rfl⟩:=c;exact abz b t
  |str b=>obtain⟨t,rfl⟩:=c;exact aby b t
  |_=>exact absurd (show false=true from e) b9
 |bl a =>
  cases d
  cases x with
  |aO=>cases c;exact abF a
  |bl b=>cases c;exact abH a b
  |int b=>obtain⟨t,rfl⟩:=c;exact abG a b t
  |str b=>obtain⟨t,rfl⟩:=c;exact abE a b t
  |_=>exact absurd (show false=true from e) b9
 |int a =>
  obtain⟨t',rfl⟩:=d;cases x with
  |aO=>cases c;exact abB a t'
  |bl b=>cases c;exact abD a t' b
  |int b=>obtain⟨t,rfl⟩:=c;exact abC a t' b t
  |str b=>obtain⟨t,rfl⟩:=c;exact Ze a t' b t
  |_=>exact absurd (show false=true from e) b9
 |str a =>
  obtain⟨t',rfl⟩:=d;cases x with
  |aO=>cases c;exact abv a t'
  |bl b=>cases c;exact abw a t' b
  |int b=>obtain⟨t,rfl⟩:=c;exact Zd a t' b t
  |str b=>obtain⟨t,rfl⟩:=c;exact abu a t' b t
  |_=>exact absurd (show false=true from e) b9
 |_=>exact absurd (show false=true from f) b9
def eS(x:V)(u:i'):Bool:=match u with
 |.none=>jW .aO x
 |.bool b=>jW (.bl b) x
 |.int i _=>jW (.int i) x
 |.str z _=>jW (.str z) x
 |_=>false
theorem qp{x:V}(r:RelV y u)(f:ie y=true):eS x u=jW y x:=by
 cases y with
 |aO=>cases r;rfl
 |bl b=>cases r;rfl
 |int i=>obtain⟨t,rfl⟩:=r;rfl
 |str z=>obtain⟨t,rfl⟩:=r;rfl
 |_=>exact absurd (show false=true from f) b9
theorem nG{x:V}:∀{xs:am V}{us:am i'},Vals xs us->xs.all ie=true->us.any (eS x)=xs.any λy=>jW y x
 |_,_,.nil,_=>rfl
 |y::xs,u::us,.cons r t,f=>by
  rw[aae,hZ]at f;rw[jj,jj,qp r f.1,nG t f.2]
theorem lV{A:XW}{s:Ur}{x:V}{v:i'}(a:RelV x v)(b:ie x=true):∀{xs:am V}{us:am i'},Vals xs us->xs.all ie=true ->∀u∈us,aax A s u v (eS x u)
 |_,_,.nil,_=>λu hu=>by cases hu
 |y::xs,u::us,.cons r t,f=>λc hu=>by
  rw[aae,hZ]at f;rcases bj.mp hu with rfl|hu
  ·rw[qp r f.1];exact Mt r a f.1 b
  ·exact lV a b t f.2 c hu
def lr(x:V)(xs:List V):Bool:=xs.any λy=>jW y x
def oD(K:UI)(vO:Bool):R2:=λx y H Q=>∃p xs,y=.ref p/\(au K H p xs\/aZ K H p xs)/\ie x=true/\xs.all ie=true/\Q (.bl (if vO then !lr x xs else lr x xs)) H
theorem kr:cg X (Xu .In) (oD X.K false):=by
 rintro J s σ H x y v u Q I c e ⟨p,xs,rfl,hq,d,fs,q⟩;cases e
 rcases hq with hq|hq
 ·obtain⟨its,r,a,f⟩:=I.list hq
  refine SeqAt.in_listAt (eS x) a.isList (λw b=>lV c d r fs w (by simpa using b)) ⟨.bl _,H,I,rfl,?_⟩
  rw[show its.toArray.any (eS x)=its.any (eS x) by simp,nG r fs]
  exact q
 ·obtain⟨its,r,a,f⟩:=I.tuple hq
  refine SeqAt.in_tupleAt (eS x) a (λw b=>lV c d r fs w (by simpa using b)) ⟨.bl _,H,I,rfl,?_⟩
  rw[show its.toArray.any (eS x)=its.any (eS x) by simp,nG r fs]
  exact q
theorem Hk:cg X (Xu .NotIn) (oD X.K true):=by
 rintro J s σ H x y v u Q I c e ⟨p,xs,rfl,hq,d,fs,q⟩;cases e
 rcases hq with hq|hq
 ·obtain⟨its,r,a,f⟩:=I.list hq
  refine SeqAt.notIn_listAt (eS x) a.isList (λw b=>lV c d r fs w (by simpa using b)) ⟨.bl _,H,I,rfl,?_⟩
  rw[show its.toArray.any (eS x)=its.any (eS x) by simp,nG r fs]
  exact q
 ·obtain⟨its,r,a,f⟩:=I.tuple hq
  refine SeqAt.notIn_tupleAt (eS x) a (λw b=>lV c d r fs w (by simpa using b)) ⟨.bl _,H,I,rfl,?_⟩
  rw[show its.toArray.any (eS x)=its.any (eS x) by simp,nG r fs]
  exact q
theorem h7:c2 X (.builtin "len") (λxs H Q=>∃p ys,xs=[.ref p]/\(au X.K H p ys\/aZ X.K H p ys)/\Q (.int ys.length) H):=by
 rintro J s σ H xs us Q I r ⟨p,ys,rfl,hq,q⟩;obtain⟨u,rfl,d⟩:=vals1 r;cases d
 have f:=kI;rcases hq with hq|hq
 ·obtain⟨its,b,c,e⟩:=I.list hq
  have a:=b.length;exact Calls.call_len_list c.isList (by simp only[bW] <;> omega) ⟨.int ys.length,H,I.tok _,⟨s.toks+1,by rw[bW,a]⟩,q⟩
 ·obtain⟨its,b,c,e⟩:=I.tuple hq
  have a:=b.length;exact len_tuple c (by simp only[bW] <;> omega) ⟨.int ys.length,H,I.tok _,⟨s.toks+1,by rw[bW,a]⟩,q⟩
theorem Hl:c2 X (.builtin "len") (λxs H Q=>∃z,xs=[.str z]/\z.length<=Us/\Q (.int z.length) H):=by
 rintro J s σ H xs us Q I r ⟨z,rfl,a,q⟩;obtain⟨u,rfl,t,rfl⟩:=vals1 r;have b:=kI;exact len_str (by omega) ⟨.int z.length,H,I.tok _,⟨_,rfl⟩,q⟩
theorem kb:c2 X (.type "list") (λxs H Q=>∃p ys,xs=[.ref p]/\(au X.K H p ys\/aZ X.K H p ys) /\∀l,H l=none->Q (.ref l) (upd H l (.lst ys))):=by
 rintro J s σ H xs us Q I r ⟨p,ys,rfl,hq,q⟩;obtain⟨u,rfl,t⟩:=vals1 r;cases t
 have k:∀(its:am i'),Vals ys its->ys.length<=Us ->∀(h':XD) (a:Nat),(∀b o',s.heap.get? b=ih o'->h'.get? b=ih o') ->
   h'.get? s.heap.objs.size=ih { cls:=.type "list",dict:=none,data:=.seq its.toArray a,slots:= #[] }->EP X J σ Q (.ref s.heap.objs.size) { s with heap:=h' }:=λits c d h' a kp e =>
  ⟨.ref s.heap.objs.size,_,I.laid (t':=s.toks) kp (aU _) (show bH X.prog X.w _ h' _ (.lst ys) from⟨d,its,a,c,e⟩),rfl,q _ (I.aJ.fresh (aU _))⟩
 rcases hq with hq|hq
 ·obtain⟨its,c,f,d⟩:=I.list hq
  have m:=c.length;obtain⟨o,g,i,n,j⟩:=f.isList;exact call_list_seq p (.inl rfl) g i j (λh' a kp e=>k its c d h' a kp e) (by simp only[bW] <;> omega)
 ·obtain⟨its,c,f,d⟩:=I.tuple hq
  have m:=c.length;obtain⟨o,g,i,n,j⟩:=f;exact call_list_seq p (.inr rfl) g i j (λh' a kp e=>k its c d h' a kp e) (by simp only[bW] <;> omega)
theorem j':c2 X (.type "tuple") (λxs H Q=>∃p ys,xs=[.ref p]/\((au X.K H p ys /\∀l,H l=none->Q (.ref l) (upd H l (.tup ys)))\/(aZ X.K H p ys/\Q (.ref p) H))):=by
 rintro J s σ H xs us Q I r ⟨p,ys,rfl,h⟩;obtain⟨u,rfl,i⟩:=vals1 r;cases i
 rcases h with⟨a,q⟩|⟨a,q⟩
 ·obtain⟨its,c,d,f⟩:=I.list a
  have k:=c.length;refine call_tuple_list d.isList (λh' kp=>?_) (by simp only[bW] <;> omega)
  have g:Inv X J σ H { s with heap:=h' }:=I.kept (t':=s.toks) kp;have j:Inv X J σ (upd H h'.objs.size (.tup ys)) { s with heap:=h'.push { cls:=.type "tuple",data:=.seq its.toArray } }:=
   g.laid (t':=s.toks) (λb o e=>a8 _ e) (aU _) (show bH X.prog X.w _ _ _ (.tup ys) from⟨f,its,c,iZ.new _ _⟩)
  exact⟨.ref h'.objs.size,_,j,rfl,q _ (g.aJ.fresh (aU _))⟩
 ·obtain⟨its,c,d,f⟩:=I.tuple a
  exact call_tuple_same d ⟨.ref p,H,I,rfl,q⟩
def vP(K:UI)(T:String)(x:V)(H:Hp):Prop:=match x with
 |.str _=>T = "str"
 |.int _=>T = "int"
 |.ref p=>(T = "list" /\∃xs,au K H p xs)\/(T = "tuple" /\∃o,K.lookup p=ih o/\o.cls=.type "tuple" /\ o.dict=none) \/
   (T = "dict" /\ ((∃kvs,H p=ih (.dK kvs)) \/∃kvs,H p=ih (.dT kvs)))\/(T = "set" /\∃S n,H p=ih (.set S n))\/(T = "tuple" /\∃xs,Rd H p (.tup xs))
 |_=>False
theorem Dd{x:V}{v:i'}(I:Inv X J σ H s)(r:RelV x v)(ty:vP X.K T x H) :
  s.TypeIs v T /\∀a,v=.ref a ->∃g,s.heap.get? a=ih g/\g.dict=none:=by
 cases x with
 |str z =>
  obtain⟨t,rfl⟩:=r;cases (show T = "str" from ty)
  exact⟨typeIs_str s z t,λ_ e=>nomatch e⟩
 |int i =>
  obtain⟨t,rfl⟩:=r;cases (show T = "int" from ty)
  exact⟨typeIs_int s i t,λ_ e=>nomatch e⟩
 |ref p =>
  cases r
  rcases ty with⟨rfl,xs,f⟩|⟨rfl,o,b,j,d⟩|⟨rfl,b⟩|⟨rfl,S,n,b⟩|⟨rfl,xs,f⟩
  ·obtain⟨its,_,h,_⟩:=I.list f
   refine⟨h.isList.typeIs,λa e=>?_⟩;cases e
   obtain⟨o,n,e,c,d,_⟩:=h;exact⟨o,e,d⟩
  ·refine⟨⟨o,I.bQ p o b,j⟩,λa e=>?_⟩
   cases e
   exact⟨o,I.bQ _ o b,d⟩
  ·have z:∃o,s.heap.get? p=ih o/\o.ExactDict:=by
    rcases b with⟨kvs,b⟩|⟨kvs,b⟩
    ·obtain⟨_,_,_,_,o,_,_,e,ex,_⟩:=I.aJ p _ b
     exact⟨o,e,ex⟩
    ·obtain⟨_,_,_,_,o,_,_,e,ex,_⟩:=I.aJ p _ b
     exact⟨o,e,ex⟩
   obtain⟨o,e,ex⟩:=z;refine⟨⟨o,e,ex.1⟩,λa e2=>?_⟩;cases e2
   exact⟨o,e,ex.2.1⟩
  ·obtain⟨o,_,_,_,e,ex,_⟩:=I.aJ p _ b
   refine⟨⟨o,e,ex.1⟩,λa e2=>?_⟩;cases e2
   exact⟨o,e,ex.2.1⟩
  ·obtain⟨_,_,_,o,e,c,_,_,d⟩:=f.ok I.aJ
   refine⟨⟨o,e,c⟩,λa e2=>?_⟩;cases e2
   exact⟨o,e,d⟩
 |_=>exact U6 ty
def OT(K:UI)(T:String)(r:V->List V->Hp->VK->Prop)(to:TE):TE:=λσ H Q=>to σ H λx Y=>vP K T x Y/\r x [] Y Q
def QA(K:UI)(T:String)(r:V->List V->Hp->VK->Prop)(to:TE)(t:TA):TE:=λσ H Q=>to σ H λx Y=>vP K T x Y/\t σ Y λxs H2=>r x xs H2 Q
variable{o:Vc}{to:TE}{t:TA}{Qj:Zx}{id:String}{r:V->List V->Hp->VK->Prop}
theorem Mu(g:PlainAttrs T)(e:Slot T name id)(f:typeOf (.builtin id)=pure (.type "method_descriptor"))(i:vN X id r)(j:PE X o to)
  (c:attributeBase o name X.env (eval o X.env)=eval o X.env:=by rfl) (d:(Qh.endLine==Qj.line)=true:=by rfl):PE X (.Call (.Attribute o name Qh) [] [] Qj) (OT X.K T r to):=by
 intro J s σ H Q I h;refine wpAny_Call_method0_late c d (aG (j J s σ H _ I h) λv s1 l=>?_);obtain⟨x,Y,a,b,ty,k⟩:=l;obtain⟨h1,h2⟩:=Dd a b ty;exact⟨T,id,g,e,f,h1,h2,Zh rfl (UL (i J s1 σ Y x [] v [] Q a b .nil k))⟩
theorem gq(l:PlainAttrs T)(i:Slot T name id)(k:typeOf (.builtin id)=pure (.type "method_descriptor"))(m:vN X id r)(n:PE X o to)(p:PA X (e::es) t)
  (f:attributeBase o name X.env (eval o X.env)=eval o X.env:=by rfl)
  (j:((backTo Qj (US (e::es) X.env)).all (λx=>!x.1)&&(backToKw Qj (keywordEach [] X.env)).all (λx=>x.1.isSome)
   && decide ((e::es).length+([]:am Keyword).length+(if ([]:am Keyword).isEmpty then 0 else 1)<30))=true:=by rfl)
  (g:(Qh.endLine==Qj.line)=true:=by rfl) (q:US (e::es) X.env=(false,eval e X.env)::US es X.env:=by rfl) (d:(backTo Qj (US es X.env)).any (·.1)=false:=by rfl) :
  PE X (.Call (.Attribute o name Qh) (e::es) [] Qj) (QA X.K T r to t):=by
 intro J s σ H Q I h;refine wpAny_Call_method_late f j g rfl (aG (n J s σ H _ I h) λv s1 A=>?_);obtain⟨x,Y,a,b,ty,u⟩:=A;obtain⟨h1,h2⟩:=Dd a b ty;refine⟨T,id,l,i,k,h1,h2,?_⟩;have c:=p Qj J s1 σ Y _ a u;rw[q]at c⊢;refine Zh (by show(false||(backTo Qj (US es X.env)).any (·.1))=false;rw[d] <;> rfl) (Calls.evalArgs_plain ?_)
 exact aG c λus s2 ⟨vs,H2,w,y,z⟩=>m J s2 σ H2 x vs v us Q w b y z
end
def lu(X:Cx)(id:String)(r:V->List V->Hp->VK->Prop):Prop:=
 ∀J s σ H (x:V) (xs:List V) (v:i') (us:List i') (Q:VK),Inv X J σ H s->RelV x v->Vals xs us->r x xs H Q ->
  wA X (call (.builtin id) (v::us)) (EP X J σ Q) X.xe s
theorem Vals.one:∀{x:V}{us:am i'},Vals [x] us ->∃u,us=[u]/\RelV x u:=by
 intro _ _ h;cases h with|cons r h=>cases h;exact⟨_,rfl,r⟩
theorem Vals.two:∀{x y:V}{us:am i'},Vals [x,y] us ->∃u v,us=[u,v]/\RelV x u/\RelV y v:=by
 intro _ _ _ h;cases h with|cons r h=>cases h with|cons q h=>cases h;exact⟨_,_,rfl,r,q⟩
theorem Vals.zero:∀{us:am i'},Vals [] us->us=[]
 |_,.nil=>rfl
theorem Vals.dropLast(h:Vals xs us):Vals xs.dropLast us.dropLast:=by
 induction h with
 |nil=>exact .nil
 |cons r t a =>
  cases t with
  |nil=>exact .nil
  |cons q t'=>exact .cons r a
theorem Vals.eraseIdx:∀{xs:am V}{us:am i'} (i:Nat),Vals xs us->Vals (xs.eraseIdx i) (us.eraseIdx i)
 |_,_,_,.nil=>.nil
 |_,_,0,.cons _ t=>t
 |_,_,i+1,.cons r t=>.cons r (Vals.eraseIdx i t)
theorem Vals.reverse(h:Vals xs us):Vals xs.reverse us.reverse:=by
 induction h with
 |nil=>exact .nil
 |cons r t a=>rw[Gb,Gb];exact Vals.append a (.cons r .nil)
theorem Ie{α:Type}(l:am α):l.eraseIdx (l.length - 1)=l.dropLast:=by
 induction l with
 |nil=>rfl
 |cons a r c =>
  cases r with
  |nil=>rfl
  |cons b r =>
   have e:(a::b::r).length - 1=((b::r).length - 1)+1:=by
    have h1:(a::b::r).length=r.length+2:=rfl;have h2:(b::r).length=r.length+1:=rfl;omega
   rw[e,List.eraseIdx_cons_succ,c]
   all_goals rfl
theorem A5{α:Type}:∀(l:am α) (i:Nat),(l.eraseIdx i).length<=l.length
 |[],_=>aU _
 |_::_,0=>gg _
 |_::r,i+1=>Nat.succ_le_succ (A5 r i)
section
variable{ys zs:am V}
theorem Inv.qS{its':am i'}{n:Nat}{f:Array i'->Array i'}(I:Inv X J σ H s)(a:H l=ce xs)
  (e:s.heap.get? l=ih { cls:=.type "list",data:=.seq its.toArray n }) (b:f its.toArray=its'.toArray) (hv:Vals ys its') (hz:ys.length<=Us) :
  Inv X J σ (upd H l (.lst ys)) { s with heap:=s.heap.update l (Xw f),toks:=t' }:=by
 have q:=abN e f;rw[b]at q;refine I.write (x:=l) (e:=l) (by rw[a];exact trivial) (.inl rfl) (λg u c d=>(j8 s.heap (Xw f) (aP c)).trans d) ⟨_,q⟩ ?_
 exact⟨hz,its',_,hv,q⟩
theorem Inv.DV(I:Inv X J σ H s)(hv:Vals ys its)(hz:ys.length<=Us) :
  Inv X J σ (upd H s.aj (.lst ys)) { s with heap:=s.heap.push { cls:=.type "list",data:=.seq its.toArray },toks:=t' }:=
 I.laid (λ_ _ q=>a8 _ q) (aU _) ⟨hz,its,0,hv,b5 _ rfl⟩
theorem Inv.fresh(I:Inv X J σ H s):H s.aj=none:=I.aJ.fresh (aU _)
theorem Inv.jL(I:Inv X J σ H s)(a:H l=ce xs):xs.length<=Us /\∃(its:am i') (n:Nat),Vals xs its/\xs.length=its.length/\s.heap.get? l=ih { cls:=.type "list",data:=.seq its.toArray n }:=by
 obtain⟨z,its,n,r,e⟩:=I.aJ l _ a;exact⟨z,its,n,r,r.length,e⟩
theorem JP{n:Nat}(h:n<=Us):X5 n=false:=by
 unfold X5;exact d4 (by omega)
end
def La:V->List V->Hp->VK->Prop:=λx vs H Q=>∃l xs y,x=.ref l/\vs=[y]/\H l=ih (.lst xs)/\xs.length<Us/\Q .aO (upd H l (.lst (xs++[y])))
theorem ku:lu X "list.append" La:=by
 rintro J s σ H x vs v us Q I b c ⟨l,xs,y,rfl,rfl,a,f,q⟩;cases b
 obtain⟨u,rfl,d⟩:=c.one;obtain⟨z,its,n,r,g,e⟩:=I.jL a;refine mS F.slot_list_append ⟨_,e,rfl⟩ F.entry_list_append (F.args_list_append_2 _ _) (PySem.list_append l its.toArray n u (by rw[bW];omega)) ⟨e,?_⟩
 refine⟨.aO,_,I.qS (its':=its++[u]) a e (by simp) (r.append (.cons d .nil)) ?_,rfl,q⟩
 rw[cL,mT];omega
def OU:V->List V->Hp->VK->Prop:=λx vs H Q=>∃l xs y,x=.ref l/\vs=[]/\H l=ih (.lst xs)/\xs[xs.length - 1]?=ih y/\Q y (upd H l (.lst xs.dropLast))
theorem Mv:lu X "list.pop" OU:=by
 rintro J s σ H x vs v us Q I d f ⟨l,xs,y,rfl,rfl,a,g,q⟩;cases d
 have b:=f.zero;subst b;obtain⟨z,its,n,r,i,e⟩:=I.jL a;obtain⟨u,j,k⟩:=r.get g;have c:its.toArray[its.toArray.size - 1]?=ih u:=by
  show its.toArray[its.length - 1]?=ih u;rw[<-oS,<-i];exact j
 refine mS aas ⟨_,e,rfl⟩ aaf (F.args_list_pop_1 _) (MeetsSeq.list_pop_last l its.toArray n u c (by rw[bW];omega)) ⟨e,?_⟩
 refine⟨y,_,I.qS (its':=its.dropLast) a e ?_ r.dropLast ?_,k,q⟩
 ·show its.toArray.eraseIdxIfInBounds (its.toArray.size - 1)=its.dropLast.toArray
  rw[bW,UM,Ie]
 ·rw[Gd]
  omega
def Mw:V->List V->Hp->VK->Prop:=λx vs H Q=>∃l xs i k y,x=.ref l/\vs=[.int i]/\H l=ih (.lst xs) /\ -(2 ^ 63)<=i/\i<2 ^ 63/\seqIndex? i xs.length=ih k/\xs[k]?=ih y/\Q y (upd H l (.lst (xs.eraseIdx k)))
theorem BK:lu X "list.pop" Mw:=by
 rintro J s σ H x vs v us Q I c d ⟨l,xs,i,k,y,rfl,rfl,a,h1,h2,f,g,q⟩;cases c
 obtain⟨u,rfl,j⟩:=d.one;obtain⟨t,rfl⟩:=j;obtain⟨z,its,n,r,m,e⟩:=I.jL a;obtain⟨w,o,b⟩:=r.get g;refine mS aas ⟨_,e,rfl⟩ aaf (F.args_list_pop_2 _ _)
  (MeetsSeq.list_pop_at l its.toArray n i t k w (fitsIndex_both h1 h2) (by rw[bW,<-m];exact f) (by rw[<-oS];exact o) (by rw[bW];omega)) ⟨e,?_⟩
 refine⟨y,_,I.qS (its':=its.eraseIdx k) a e ?_ (r.eraseIdx k) ?_,b,q⟩
 ·show its.toArray.eraseIdxIfInBounds k=(its.eraseIdx k).toArray
  rw[UM]
 ·have:=A5 xs k
  omega
def OV:R2:=λx y H Q=>∃l b xs zs,x=.ref l/\y=.ref b/\H l=ih (.lst xs)/\H b=ih (.lst zs)/\xs.length+zs.length<=Us /\∀p,H p=none->Q (.ref p) (upd H p (.lst (xs++zs)))
theorem qq:cg X (X7 .Add) OV:=by
 rintro J s σ H x y v u Q I c d ⟨l,b,xs,zs,rfl,rfl,f,g,m,q⟩;cases c
 cases d
 obtain⟨z,its,n,r,o,e⟩:=I.jL f;obtain⟨p,a,t,i,k,e2⟩:=I.jL g;refine PySem.P.add_list e e2 ?_ (by rw[bW,bW];omega)
 have j:its.toArray++a.toArray=(its++a).toArray:=by simp
 rw[j];exact⟨.ref _,_,I.DV (t':=s.toks) (r.append i) (by rw[cL];omega),rfl,q _ I.fresh⟩
section
set_option maxRecDepth 100000 in
end
end L2
namespace EC
open W Calls PyProof.Rows
theorem G8{P:Params}:∀(ns:am Int) (vs:am i'),WellAll P h vs (ns.map aaQ)->Y7 vs ns:=by
 intro ns
 induction ns with
 |nil =>
  intro vs w;rw[lC]at w;cases w
  exact .nil
 |cons n ns c =>
  intro vs w;rw[bU]at w;cases w with
  |cons a b =>
   cases a
   exact .cons _ _ (c _ b)
theorem IW{l:ZL}{n:Nat}(o:l.most=ih n){P:Params}{args:am WData}{e:am i'}
  (f:l.row.toRowW.claim.pre args=true) (k:WellAll P h e args) :
  ∃a vs ns,e=[UN a]/\args=[WData.list (ns.map aaQ)]/\h.get? a=ih { cls:=.type "list",data:=.seq vs.toArray }/\Y7 vs ns/\ns.length<=n:=by
 have m:WShape.hasAll [] args [.list .int]=true:=(pre_splitW f).1;have g:l.pre.holds [] { args:=args }=true:=(pre_splitW f).2;obtain⟨d,r,rfl,h1,h2⟩:=hasAllW_cons m;obtain rfl:=hasAllW_nil h2;obtain⟨xs,rfl,p⟩:=hasW_list h1;obtain⟨ns,rfl⟩:=items_int p;have i:ns.length<=n:=by
  unfold OpenLaw.pre at g;have b:(WTm.not (.lt (.lit (.int (n:Int))) (.len (.arg 0)))).holds [] { args:=[.list (ns.map .int)] }=true:=by
   have b:=(holds_andW g).1;rw[o]at b;exact b
  have c:=condW_of b (w_not (w_lt w_lit (w_len_list (w_arg rfl))));rw[aE]at c;refine Nat.le_of_not_lt λq=>?_;have s:(n:Int)<((ns.length:Nat):Int):=by omega
  first
   |(rw[cc s]at c;exact absurd c (by decide))
   |(simp at c;omega)
 cases k with
 |cons t u =>
  cases u
  cases t with
  |list v j=>exact⟨_,_,ns,rfl,rfl,v,G8 ns _ j,i⟩
theorem IX(l:ZL)(args:am WData):l.row.toRowW.claim.post args (.bool true) args=true:=
 postW_of (r:=l.row.toRowW) (X:=(true==true))
  (show aao [] (.bool true) .bool=true by first|rfl|decide|simp[aao,WShape.arms,WShape.armsAll])
  (show(WTm.eq .res (.lit (.bool true))).value [] { args:=args,res:=ih (.bool true),after:=args }=ih (.bool (true==true)) from w_eq_bool (w_res rfl) w_lit) rfl
theorem Hz{l:ZL}{n:Nat}{q:XJ}{d:DefRec}
  (v:l.most=ih n) (p:d.params.defaults=[])
  (call:∀(w:XT) (e b:Ur) (mg g:Gv->Option i') (c:Up) (o:Ye) (pm cd Qc:i') (a:Up) (vs:am i') (ns:am Int),
   Ground q Qq [] XP w e mg g b.heap->YP w b.heap ->
   b.heap.get? c=ih o->o.data=.func (docDef d.name d.params d.body d.scope pm cd Qc)->b.heap.CodeRec cd d.name->mg d.name=ih (.ref c) ->
   b.heap.get? a=ih { cls:=.type "list",data:=.seq vs.toArray }->Y7 vs ns->ns.length<=n->b.gens = #[] ->
   codeAny (UK l.prog w) callerA (.call (.ref c) ⟨[.ref a],[]⟩) (λr s'=>r=.ok (.ret (.bool true))/\OldK b.heap s'.heap/\s'.os=b.os/\YH s'.gens) b) :
  WalkO q Qq XP YP l.row.toRowW d [] (λf vs=>Zz f vs):=by
 intro w e b mg g G x c o pm cd Qc y kV z A s h t B args H L j I J u K;obtain rfl:y=.none:=Dflts.none h p;obtain rfl:kV=.none:=Dflts.noKw h;obtain⟨a,vs,ns,rfl,rfl,k,i,m⟩:=IW v j u;refine enter_call (lz (call w e b mg g c o pm cd Qc a vs ns G x z (fd_plain A) s t k i m B) λr s' C=>?_);obtain⟨rfl,h2,D,E⟩:=C;exact⟨.inl ⟨.bool true,.bool true,[],rfl,λ_=>rfl,.bool true,IX l _,λ_=>⟨YJ,λ_ F=>(nomatch F)⟩⟩,h2,D,E⟩
end EC
namespace L2
open Spec PyProof.Rows
theorem A6:∀{vs:am i'}{ns:am Int},Y7 vs ns->Vals (ns.map V.int) vs
 |_,_,.nil=>.nil
 |_,_,.cons n t h=>.cons ⟨t,rfl⟩ (A6 h)
def vm(H:Hp):Prop:= ∀b,H b=none \/∃o xs,H b=ih (.bT o (.lst xs))
theorem JQ{l:Gv->Option i'}{CX:gz}{k:Nat}{p:Up}{c:Ur}{vs:am i'}{ns:am Int}
  (E:K.In c.heap) (B:c.heap.Ns UT mg) (f:c.heap.Ns builtinsNs l) (S:∀x:Gv,x ≠ "__name__" -> l x=Vu x) (N:c.heap.NoLimit) (X:c.gens = #[])
  (j:c.heap.get? a=ih { cls:=.type "list",data:=.seq vs.toArray }) (hi:Y7 vs ns) (G:ns.length<=Us) (Y:a' k callerA)
  (F:∀base:XD,K.In base->base.Ns UT mg->aT P w K mg base CX k p fd [x] sp) (M:∀(s:Ur) (u:i'),Zi s fd ⟨[u],[]⟩ [(x,u)])
  (T:∀H:Hp,vm H->au K H a (ns.map V.int)->sp [.ref a] H (λv _=>v=.bl true) λ_ _ _=>False)
  (U:∀H e s',CX [] H c (λ_ _ _=>False) e s'->False) :
  codeAny (UK P w) callerA (.call (.ref p) ⟨[.ref a],[]⟩) (λr s'=>r=.ok (.ret (.bool true))/\OldK c.heap s'.heap/\s'.os=c.os/\YH s'.gens) c:=by
 have I:=A6 hi;have O:=hi.length;have core:∀H:Hp,vm H->au K H a (ns.map V.int)->cx P w H c.heap->(∀b,H b≠none->b=a)->(H a≠none->K.lookup a=none) ->
   codeAny (UK P w) callerA (.call (.ref p) ⟨[.ref a],[]⟩) (λr s'=>r=.ok (.ret (.bool true))/\OldK c.heap s'.heap/\s'.os=c.os/\YH s'.gens) c:=by
  intro H J xa C L ya;have A:∀{b:Up}{o:Ye},c.heap.get? b=ih o->H b=none->(i0 c.heap H).get? b=ih o:=λe n=>JB e n;have W:∀{b:Up}{o:Ye}{es:Array Yj}{ep:Nat},c.heap.get? b=ih o->o.data=.dict es ep->H b=none:=λ{b o es ep} e d=>by
   cases q:H b with
   |none=>rfl
   |some u =>
    have t:b=a:=L b (by rw[q];simp)
    subst t;rw[j]at e;cases e;have za:Data.seq vs.toArray _=Data.dict es ep:=d;cases za
  have i:∀{b:Up}{m:Gv->Option i'},c.heap.Ns b m->(i0 c.heap H).Ns b m:=λ{b m} ⟨o,es,ep,e,d,r⟩=>⟨o,es,ep,A e (W e d),d,r⟩;have D:K.In (i0 c.heap H):=λb o e=>A (E b o e) (by
   cases q:H b with
   |none=>rfl
   |some u =>
    have t:b=a:=L b (by rw[q];simp)
    subst t;rw[ya (by rw[q];simp)]at e;cases e)
  have xb:Mod K mg (i0 c.heap H):=⟨D,i B,⟨l,i f,S⟩,let ⟨yb,h1,h2⟩:=N;⟨yb,i h1,h2⟩⟩;have e0:kS P w K mg (i0 c.heap H) callerA [] c H:=⟨rfl,xb,λb o e=>K0 e,aaA (IM _ _),trivial,λb f=>absurd (show b∈([]:am Up) from f) (by simp),C,.of_eq X⟩
  refine lz ((F _ D (i B)).run callerA [] c H ⟨[.ref a],[]⟩ [.ref a] [.ref a] _ _ Y e0 (M c (.ref a)) (.cons rfl .nil) (T H J xa)) λr s' h=>?_;cases r with
  |error e=>exact(U H e s' h).elim
  |ok zb =>
   cases zb with
   |next=>exact U6 h
   |brk=>exact U6 h
   |cont=>exact U6 h
   |ret u =>
    obtain⟨v,H',os,Q,un,R,xc,q⟩:=h;have yc:v=.bl true:=q;subst yc;obtain rfl:u=Yk true:=xc;refine⟨rfl,OldK.of_keep λb o e=>?_,os,Q⟩;cases q:H b with
    |none=>exact un.keep b o e q (by intro z;exact absurd (show b∈([]:am Up) from z) (by simp)) (by simp)
    |some u =>
     rcases J b with z|⟨zc,xs,z⟩
     ·rw[q]at z;cases z
     ·have z2:=un.gR b zc _ z
      obtain⟨e1,_⟩:=C b _ z;obtain⟨e2,_⟩:=R b _ z2;rw[e]at e1;cases e1;exact e2
 cases y:K.lookup a with
 |some o =>
  have e:=E a o y;rw[j]at e;cases e
  refine core (λ_=>none) (λ_=>.inl rfl) (.inr ⟨_,vs.toArray,_,y,rfl,rfl,rfl,by rw[bW,O];exact G,by simpa using I⟩) (λb u z=>by have g:(none:a2 HO)=ih u:=z;cases g) (λb z=>absurd rfl z) λz=>absurd rfl z
 |none =>
  refine core (λb=>if b=a then ih (.bT { cls:=.type "list",data:=.seq vs.toArray } (.lst (ns.map V.int))) else none) (λb=>?_) (.inl (.inr ⟨{ cls:=.type "list",data:=.seq vs.toArray },ay rfl⟩)) (λb u z=>?_) (λb z=>?_) λ_=>y
  ·by_cases f:b=a
   ·exact .inr ⟨_,_,ay f⟩
   ·exact .inl (aq f)
  ·by_cases f:b=a
   ·have g:=(ay f).symm.trans z
    cases g
    subst f;exact⟨j,by rw[aE];exact G,vs,_,I,j⟩
   ·have g:=(aq f).symm.trans z
    cases g
  ·by_cases f:b=a
   ·exact f
   ·exact absurd (aq f) z
theorem Lb{l:PySem.W.OpenLaw}{n k:Nat}{q:XJ}{d:DefRec}{K:Params->UI}{CX:XT->gz}{sp:XT->Sp}
  (C:l.most=ih n) (t:n<=Us) (y:d.params.defaults=[]) (D:a' k callerA)
  (E:∀(w:XT) (h:XD),YP w h->(K w.params).In h)
  (F:∀(w:XT) (mg:Gv->Option i') (c:Up) (h:XD),(K w.params).In h->h.Ns UT mg->mg d.name=ih (.ref c) ->
   ∃fd:Xt,(∀(s:Ur) (u:i'),Zi s fd ⟨[u],[]⟩ [(x,u)]) /\
    ∀base:XD,(K w.params).In base->base.Ns UT mg->aT l.prog w (K w.params) mg base (CX w) k c fd [x] (sp w))
  (z:∀(w:XT) (H:Hp) (a:Up) (ns:am Int),ns.length<=n->vm H->au (K w.params) H a (ns.map V.int)->sp w [.ref a] H (λv _=>v=.bl true) λ_ _ _=>False)
  (A:∀(w:XT) (H:Hp) (s:Ur) (e:i') (s':Ur),CX w [] H s (λ_ _ _=>False) e s'->False) :
  PySem.W.WalkO q Qq XP YP l.row.toRowW d [] (λf vs=>Zz f vs):=by
 refine EC.Hz C y λw P p mg R c o pm cd Qc a vs ns G I S U Q B r m i J=>?_;have j:=E w _ I;obtain⟨fd,L,M⟩:=F w mg c _ j G.T.g B;exact JQ j G.T.g G.T.b G.T.builtins G.T.nolimit J r m (et i t) D M L (λH N O=>z w H a ns i N O) λH e s'=>A w H p e s'
def inClass(s:U7)(j:Nat):U7:=match s with
 |.ClassDef _ _ _ body _ _ _ _ _ _ _=>body.getD j (.Pass ⟨0,0,0,0⟩)
 |_=>.Pass ⟨0,0,0,0⟩
def dA(s:U7):Arguments:=match s with
 |.FunctionDef _ a _ _ _ _ _ _ _ _=>a
 |_=>{ posonlyargs:=[],args:=[],vararg:=none,kwonlyargs:=[],kw_defaults:=[],kwarg:=none,defaults:=[] }
def bB(s:U7):List U7:=match s with
 |.FunctionDef _ _ b _ _ _ _ _ _ _=>b
 |_=>[]
def aH(s:U7):Yy:=match s with
 |.FunctionDef _ _ _ _ _ _ sc _ _ _=>sc
 |_=>{ kind:=.function,names:=[],isGenerator:=false,isCoroutine:=false }
abbrev aI:gz:=λ_ _ _ _ _ _=>False
abbrev E0:XK:=λ_ _ _=>False
theorem c3:Passes aI X E0:=λ_ _ _ _ _ _ _ h=>h.elim
structure aQ(K:UI)(x qual:Gv)(st:U7)(f:Up)(fd:Xt):Prop where
 ex:∃(oc:i') (od:Option Up) (kV Qc pm:i') (an:Option Up) (Qa ct:i') (Ql:Array (Option i')),
  fd=XR x qual (dA st) (bB st) (aH st) .none kV Qc pm an Qa ct/\K.lookup f=ih ⟨oc,od,.func fd,Ql⟩/\Yv K Qa qual=true
 kp:X3 K (.ref f)=true
theorem aQ.ok{k:Nat}(F:aQ K x qual st f fd)(S:bp N ps (aH st))(b:∀vs H Q E,sp vs H Q E->vs.length=ps.length)
  (a:∀(Qa:i') (A:XW) (outer:am YT) (s:Ur) (H:Hp) (vs:am V) (Q:VK) (E:XK),a' k (A.deeper (envOfC qual (aH st) s.aj f Qa))->sp vs H Q E ->
   ∃t,d8 (dV aI P w K mg base N qual (aH st) f Qa A outer s H E).ll (bB st) t/\t { nx:=λ_ H'=>Q .aO H',rt:=Q } (start N vs) H):aT P w K mg base aI (k+1) f fd ps sp:=by
 obtain⟨oc,od,kV,Qc,pm,an,Qa,ct,Ql,rfl,lk,c⟩:=F.ex;refine uP lk c S b λA outer s H vs Q E e d=>?_;obtain⟨t,h,q⟩:=a Qa A outer s H vs Q E e d;exact⟨t,h.ll,q⟩
theorem aQ.binds(F:aQ K x qual st f fd)
  (h:∀(kV Qc pm:i') (an:a2 Up) (Qa ct:i') (us:am i'),us.length=ps.length->bindArgs (XR x qual (dA st) (bB st) (aH st) .none kV Qc pm an Qa ct) ⟨us,[]⟩=pure (ps.zip us)):Binds K fd ps []:=by
 obtain⟨oc,od,kV,Qc,pm,an,Qa,ct,Ql,rfl,lk,a⟩:=F.ex;exact .all (h kV Qc pm an Qa ct)
theorem uv{kV:i'}(l:K.lookup f=ih ⟨oc,od,.func (XR x qual (dA st) (bB st) (aH st) .none kV Qc pm an Qa ct),Ql⟩)
  (c:Yv K Qa qual=true) (k:X3 K (.ref f)=true):aQ K x qual st f (XR x qual (dA st) (bB st) (aH st) .none kV Qc pm an Qa ct):=⟨⟨oc,od,kV,Qc,pm,an,Qa,ct,Ql,rfl,l,c⟩,k⟩
theorem pv(i:Nat)(b:X.N[i]?=ih x:=by rfl)(hv:vJ X.env.scope x:=by first|exact aam rfl|exact Yg (aam rfl)|exact Yg (Yg rfl))(c:(x==("__debug__" : Gv))=false:=by decide)
  (a:(x==("__classdict__" : Gv))=false:=by decide):PE X (.Name x pos) (gu i):=Mj b hv c a
theorem cA{c A B:Prop} [Decidable c](h1:c->A)(h2 : ¬ c->B):if c then A else B:=by
 by_cases h:c
 ·rw[ay h]
  exact h1 h
 ·rw[aq h]
  exact h2 h
def aB(H H':Hp):Prop:= ∀b o,H b=ih o->H' b=ih o
theorem aB.refl(H:Hp):aB H H:=λ_ _ h=>h
theorem aB.trans(a:aB H Y)(b:aB Y H2):aB H H2:=λc o h=>b c o (a c o h)
theorem aB.free(e:aB H H')(h:H' l=aad):H l=aad:=by
 cases q:H l with
 |none=>rfl
 |some o =>
  rw[e l o q]at h;cases h
end L2
namespace L2
theorem Paired.DW{α β:Type}{F G:α->β->Prop}{l:am α}{m:am β}(h:XH F l m):(∀a b,b∈m->F a b->G a b)->XH G l m:=by
 induction h with
 |nil=>exact λ_=>.nil
 |cons p _ c=>exact λk=>.cons (k _ _ aV p) (c λa b e=>k a b (a7 _ e))
end L2
namespace L2
open Spec PyProof.Rows
def eF(cells:List (Gv×Up)):List (Gv×XZ)->List (Gv×Up)->List (Gv×Up)
 |[],cE=>cE
 |(n,k)::r,cE=>if k == .free then eF cells r ((n,(cells.lookup n).getD 0)::cE) else eF cells r cE
theorem su(h:∀n,(n,UY)∈scope.names ->∃c,env.cells.lookup n=ih c) :
  closureFor scope env=pure (eF env.cells scope.names []):=by
 have p:∀(b:am (Gv×XZ)) (d:am (Gv×Up)),(∀n,(n,UY)∈b ->∃c,env.cells.lookup n=ih c) ->
   (forIn (m:=YK) b d λx r=>match x with|(name,f)=>if (f==UY)=true then (do let a <- cellOf env name;pure (XB ((name,a)::r))) else pure (XB r))=pure (eF env.cells b d):=by
  intro b
  induction b with
  |nil=>intro d _;rfl
  |cons x r j =>
   intro d g;obtain⟨n,k⟩:=x;rw[ZZ];unfold eF
   by_cases l:k=.free
   ·subst l
    obtain⟨c,o⟩:=g n aV;simp only[wy,gZ];have e:cellOf env n=pure c:=by unfold cellOf;rw[o]
    rw[e,o];exact j _ λm i=>g m (a7 _ i)
   ·have q:(k==UY)=false:=by simpa using l
    simp only[q,wz,j6];exact j _ λm i=>g m (a7 _ i)
 unfold closureFor;have:=p scope.names [] h;show((forIn (m:=YK) scope.names [] λx r=>match x with|(name,f)=>if (f==UY)=true then (do let a <- cellOf env name;pure (XB ((name,a)::r))) else pure (XB r)) >>= λcs=>pure cs)=_;rw[this]
 rfl
theorem lN:∀(b:am (Gv×XZ)) (n:Nat) (a:am (Gv×Up)),cellsFrom n b a=cellsFrom n b []++a
 |[],_,_=>rfl
 |(name,c)::r,n,a=>by
  unfold cellsFrom;split
  ·rw[lN r (n+1) ((name,n)::a),lN r (n+1) [(name,n)],lD];rfl
  ·exact lN r n a
theorem o8{cells:am (Gv×Up)}:∀(d:am (Gv×XZ)) (a:am (Gv×Up)) (x:Gv) (c:Up),(eF cells d a).lookup x=ih c ->
  (a.lookup x=ih c)\/((x,UY)∈d/\c=(cells.lookup x).getD 0)
 |[],a,x,c,h=>.inl h
 |(n,k)::r,a,x,c,h=>by
  unfold eF at h;split at h
  ·rename_i g
   have f:k=.free:=by simpa using g
   subst f;rcases o8 r _ x c h with z|⟨z,e⟩
   ·rw[ef]at z
    cases b:x==n with
    |true=>rw[b]at z;cases z;rw[df.mp b];exact .inr ⟨aV,rfl⟩
    |false=>rw[b]at z;exact .inl z
   ·exact .inr ⟨a7 _ z,e⟩
  ·rcases o8 r _ x c h with z|⟨z,e⟩
   ·exact .inl z
   ·exact .inr ⟨a7 _ z,e⟩
theorem sY{cells:am (Gv×Up)}:∀(b:am (Gv×XZ)) (a:am (Gv×Up)) (x:Gv),(∃c,a.lookup x=ih c) ->∃c,(eF cells b a).lookup x=ih c
 |[],a,x,h=>h
 |(n,k)::r,a,x,h=>by
  unfold eF;split
  ·refine sY r _ x ?_
   obtain⟨c,h⟩:=h;rw[ef];cases d:x==n with
   |true=>exact⟨_,rfl⟩
   |false=>exact⟨c,h⟩
  ·exact sY r _ x h
theorem pw{cells:am (Gv×Up)}:∀(b:am (Gv×XZ)) (a:am (Gv×Up)) (x:Gv),(x,UY)∈b ->∃c,(eF cells b a).lookup x=ih c
 |[],a,x,h=>by simp at h
 |(n,k)::r,a,x,h=>by
  unfold eF;rcases bj.mp h with e|h
  ·cases e
   simp only[wy,gZ];exact sY r _ _ ⟨(cells.lookup n).getD 0,by rw[ef];simp⟩
  ·split
   ·exact pw r _ x h
   ·exact pw r _ x h
theorem o7:∀(b:am (Gv×XZ)) (n:Nat) (a:am (Gv×Up)) (x:Gv) (c:Up),(x,c)∈cellsFrom n b a->(x,c)∈a\/(x,Xy)∈b
 |[],_,_,_,_,h=>.inl h
 |(name,d)::r,n,a,x,c,h=>by
  unfold cellsFrom at h;split at h
  ·rename_i g
   have f:d=.cell:=by simpa using g
   subst f;rcases o7 r _ _ x c h with z|z
   ·rcases bj.mp z with e|z
    ·cases e;exact .inr aV
    ·exact .inl z
   ·exact .inr (a7 _ z)
  ·rcases o7 r _ _ x c h with z|z
   ·exact .inl z
   ·exact .inr (a7 _ z)
structure bY(N:List Gv)(ED:Yy)(N':List Gv)(Qd:List (Option Nat))(sc:Yy):Prop where
 kind:sc.kind=.function
 keys:(sc.names.map (·.1)).Nodup
 nd:N'.Nodup
 len:Qd.length=N'.length
 fv:∀(j i:Nat),Qd[j]?=ih (ih i) ->∃x,N[i]?=ih x/\N'[j]?=ih x/\sc.names.lookup x=ih .free
 free:∀p∈sc.names,p.2=.free->ED.names.lookup p.1=ih .cell\/ED.names.lookup p.1=ih .free
theorem lO{α:Type}:∀{l:am (Gv×α)},(l.map (·.1)).Nodup ->∀{x:Gv}{k:α},(x,k)∈l->l.lookup x=ih k
 |(n,v)::r,a,x,k,h=>by
  obtain⟨h1,h2⟩:=dM.mp a;rw[ef];rcases bj.mp h with e|hm
  ·cases e;simp
  ·have:(x==n)=false:=by
    rw[iz];intro e;exact h1 (aY.mpr ⟨_,hm,e⟩)
   rw[this];exact lO h2 hm
def BL(scope:Yy)(L:Up)(env:YT):YT:=
 { scope:=relabel scope env,locals:=L,globals:=env.globals,cells:=cellsFrom (L+1) scope.names (eF env.cells scope.names []),qual:=env.qual,func:=none,code:=env.code,frame:=env.frame,builtins:=env.builtins }
theorem HA{M:Zb}{globals:Up}{d:am (Gv×Up)}{Q:YT->Ur->Prop}
  (h:∀h',h'.Ns s.aj (λ_=>none)->(∀b o,s.heap.get? b=ih o->h'.get? b=ih o)->(∀x c,(x,c)∈cellsFrom (s.aj+1) scope.names []->h'.IsCell c none/\s.aj<c) ->
   ((cellsFrom (s.aj+1) scope.names []).Pairwise λx y=>x.2≠y.2) ->
   Q { scope:=scope,locals:=s.aj,globals:=globals,cells:=cellsFrom (s.aj+1) scope.names d,qual:=qual,func:=none,code:=env.code,frame:=env.frame,builtins:=env.builtins } { s with heap:=h' }) :
  Ut M A (newFunctionEnv scope globals d [] qual none .none (ih env)) Q E s:=by
 simp only[newFunctionEnv,UO,gZ];refine ae (wpAny_alloc ?_);refine ae (wpAny_layCells _ (λname f cells=>by cases g:f==Xy <;> simp[g]) _ _ _ _ ?_)
 have ok:=cellsFrom_ok scope.names (s.heap.push { cls:=.type "dict",data:=.dict #[] }) (s.aj+1) [] ⟨λ_ _ a=>(nomatch a),YJ⟩ (by rw[hX];exact aU _)
 rw[hX]at ok;rw[show({ s with heap:=s.heap.push { cls:=.type "dict",data:=.dict #[] } }:Ur).heap.objs.size=s.aj+1 from hX ..];rw[List.forIn_nil];refine ae (ao (ao ?_));exact h _ ((Heap.Ns.new s.heap (.type "dict")).keeps (pushCells_keeps _ _)) (λb o e=>pushCells_keeps _ _ b o (a8 _ e)) (λx c a=>⟨(ok.empty x c a).1,(ok.empty x c a).2⟩) ok.apart
def cH(X:Cx)(N':List Gv)(scope:Yy)(s2:Ur)(H2:Hp)(fp:List Up):Cx:=
 { X with N:=N',d0:=s2,ij:=H2,env:=BL scope s2.aj X.env,outer:=X.stack,stack:=X.stack,ex:=fp,fn:=λx=>scope.names.lookup x==ih .cell,pn:=[],xe:=λ_ _=>False }
theorem sr{env:YT}:∀{d:am (Gv×XZ)}{x:Gv}{k:XZ},
  (d.map λ(n,k)=>if (k==UY&&env.scope.kind == .function&&env.kindOf n==ih .cell) then (n,Xy) else (n,k)).lookup x=ih k ->
  ∃a,d.lookup x=ih a/\(k=a\/(a=.free/\k=.cell))
 |[],_,_,h=>by simp at h
 |(n,a)::r,x,k,h=>by
  have e:=@sr env r x k;have h':Xx x ((if (a==UY&&env.scope.kind == .function&&env.kindOf n==ih .cell)=true then (n,Xy) else (n,a))::_)=ih k:=h;rw[ef]
  by_cases c:(a==UY&&env.scope.kind == .function&&env.kindOf n==ih .cell)=true
  ·rw[ay c,ef]at h'
   cases b:x==n with
   |true =>
    rw[b]at h';cases h';have:a=.free:=by
     have z:=c;rw[hZ,hZ]at z
     simpa using z.1.1
    exact⟨a,rfl,.inr ⟨this,rfl⟩⟩
   |false=>rw[b]at h';exact e h'
  ·rw[aq c,ef]at h'
   cases b:x==n with
   |true=>rw[b]at h';cases h';exact⟨a,rfl,.inl rfl⟩
   |false=>rw[b]at h';exact e h'
theorem so{env:YT}:∀{d:am (Gv×XZ)}{x:Gv},d.lookup x=ih .free ->
  (d.map λ(n,k)=>if (k==UY&&env.scope.kind == .function&&env.kindOf n==ih .cell) then (n,Xy) else (n,k)).lookup x=ih .cell \/
  (d.map λ(n,k)=>if (k==UY&&env.scope.kind == .function&&env.kindOf n==ih .cell) then (n,Xy) else (n,k)).lookup x=ih .free
 |[],_,h=>by simp at h
 |(n,b)::r,x,h=>by
  have e:=@so env r x;show Xx x ((if (b==UY&&env.scope.kind == .function&&env.kindOf n==ih .cell)=true then (n,Xy) else (n,b))::_)=_\/Xx x ((if (b==UY&&env.scope.kind == .function&&env.kindOf n==ih .cell)=true then (n,Xy) else (n,b))::_)=_;rw[ef]at h;cases a:x==n with
  |true =>
   rw[a]at h;cases h
   by_cases c:(UY==UY&&env.scope.kind == .function&&env.kindOf n==ih .cell)=true
   ·rw[ay c,ef,a];exact .inl rfl
   ·rw[aq c,ef,a];exact .inr rfl
  |false =>
   rw[a]at h
   by_cases c:(b==UY&&env.scope.kind == .function&&env.kindOf n==ih .cell)=true
   ·rw[ay c,ef,a];exact e h
   ·rw[aq c,ef,a];exact e h
def pick(Qd:List (Option Nat))(σ:St):St:=Qd.map λo=>o.bind λi=>(σ[i]?).join
theorem px(I:Inv X J σ H s2)(S:bY X.N X.env.scope N' Qd scope)(a:(x,UY)∈scope.names):∃c,X.env.cells.lookup x=ih c:=
 I.ok.has x (S.free _ a rfl)
theorem Ig(I:Inv X J σ H s2)(S:bY X.N X.env.scope N' Qd scope){n:Nat}{c:Up}(h:(cellsFrom n scope.names (eF X.env.cells scope.names [])).lookup x=ih c) :
  ((x,c)∈cellsFrom n scope.names []/\(x,Xy)∈scope.names)\/((x,UY)∈scope.names/\X.env.cells.lookup x=ih c):=by
 rw[lN,Ge]at h;cases e:(cellsFrom n scope.names []).lookup x with
 |some d =>
  rw[e]at h;have z:d=c:=by simpa using h
  subst z;have m:=jh e;rcases o7 _ _ _ _ _ m with z|z
  ·simp at z
  ·exact .inl ⟨m,z⟩
 |none =>
  rw[e]at h;have h':(eF X.env.cells scope.names []).lookup x=ih c:=by simpa using h
  rcases o8 _ _ _ _ h' with z|⟨z,e2⟩
  ·simp at z
  ·obtain⟨a,h0⟩:=px I S z
   rw[h0]at e2;exact .inr ⟨z,by rw[h0,e2];rfl⟩
theorem JR(I:Inv X J σ H s2)(S:bY X.N X.env.scope N' Qd scope)(B:∀b∈fp,fX X J H b)(U:∀b∈fp,∃o,s2.heap.get? b=ih o)
  (xb:h'.Ns s2.aj (λ_=>none)) (D:∀b o,s2.heap.get? b=ih o->h'.get? b=ih o)
  (h:∀x c,(x,c)∈cellsFrom (s2.aj+1) scope.names []->h'.IsCell c none/\s2.aj<c) (E:(cellsFrom (s2.aj+1) scope.names []).Pairwise λx y=>x.2≠y.2) :
  Inv (cH X N' scope s2 H fp) [] (pick Qd σ) H { s2 with heap:=h' }:=by
 have F:∀{x:Gv}{c:Up},X.env.cells.lookup x=ih c->c<s2.aj:=λ{x c} e=>let ⟨_,q⟩:=I.cell x c e;q.lt;have l:∀{x:Gv}{c:Up},(cH X N' scope s2 H fp).env.cells.lookup x=ih c->((x,c)∈cellsFrom (s2.aj+1) scope.names []/\(x,Xy)∈scope.names)\/((x,UY)∈scope.names/\X.env.cells.lookup x=ih c):=
  λ{x c} e=>Ig I S e
 have V:∀{x:Gv}{c:Up},(cH X N' scope s2 H fp).env.cells.lookup x=ih c ->∃v,h'.IsCell c v:=λ{x c} e=>by
  rcases l e with⟨m,_⟩|⟨_,e0⟩
  ·exact⟨_,(h x c m).1⟩
  ·obtain⟨v,q⟩:=I.cell x c e0
   exact⟨v,q.keeps D⟩
 have G:∀b∈fp,b<s2.aj:=λb a=>let ⟨_,e⟩:=U b a;bt e;refine⟨⟨I.ok.mod,S.kind,I.ok.glob,I.ok.blt,aU _,λx y c e1 e2=>?_,λx hx=>?_,λx c hx e=>?_,I.ok.hd,I.ok.frames,.inl rfl,λb a=>⟨bI (G b a),λx c e z=>?_⟩,I.bs,?_,λb o e a=>?_,λb a W=>?_,I.stack,I.tR⟩,
  rfl,I.bare,Un.kept D,⟨_,xb,λj x v e1 e2 e3=>?_⟩,λx c e=>V e,I.aJ.fresh (aU _),λx c e=>?_,λp E=>absurd (show p∈([]:am (Up×Ye)) from E) (by simp),I.aJ.kept D,?_⟩
 ·rcases l e1 with⟨M,_⟩|⟨_,s⟩ <;> rcases l e2 with⟨O,_⟩|⟨_,P⟩
  ·exact name_of_addr E M O
  ·exact absurd (lE (h _ _ M).2 (F P)) (iA _)
  ·exact absurd (lE (h _ _ O).2 (F s)) (iA _)
  ·exact I.ok.inj x y c s P
 ·have Y:∃f,scope.names.lookup x=ih f/\(f=.cell\/f=.free):=by
   rcases hx with hx|hx
   ·obtain⟨f,e,z⟩:=sr (env:=X.env) hx
    refine⟨f,e,?_⟩;rcases z with z|z
    ·exact .inl z.symm
    ·exact .inr z.1
   ·obtain⟨f,e,z⟩:=sr (env:=X.env) hx
    refine⟨f,e,?_⟩;rcases z with z|z
    ·exact .inr z.symm
    ·exact .inr z.1
  obtain⟨f,e,z⟩:=Y;show ∃c,(cellsFrom (s2.aj+1) scope.names (eF X.env.cells scope.names [])).lookup x=ih c;rw[lN,Ge];rcases z with rfl|rfl
  ·obtain⟨c,g⟩:=tq (n:=s2.aj+1) e
   exact⟨c,by rw[g];rfl⟩
  ·cases q:(cellsFrom (s2.aj+1) scope.names []).lookup x with
   |some d=>exact⟨d,rfl⟩
   |none =>
    obtain⟨c,g⟩:=pw (cells:=X.env.cells) scope.names [] x (jh e);exact⟨c,by rw[g];rfl⟩
 ·have K:scope.names.lookup x=ih .cell:=by simpa [cH] using hx
  rcases l e with⟨m,_⟩|⟨m,_⟩
  ·exact rY (h _ _ m).2
  ·rw[lO S.keys m]at K;cases K
 ·rcases l e with⟨m,_⟩|⟨_,s⟩
  ·have:=G b a
   rw[<-z]at this;exact absurd (lE (h _ _ m).2 this) (iA _)
  ·exact(B b a).2.2.2.2.1 x c s z
 ·exact et I.ok.hQ I.sz
 ·rcases (B b a).2.2.2.1 with z|z
  ·exact I.ok.jJ b o e z
  ·exact absurd (eU (bt (I.ok.bs b o e).1) z) (iA _)
 ·have:=I.qm b W
  rcases bj.mp this with z|z
  ·exact(B b a).2.1 z
  ·exact(B b a).2.2.1 z
 ·
  have t:(Qd[j]?).bind (λo=>ih (o.bind λi=>(σ[i]?).join))=ih (ih v):=by
   have w:(Qd.map λo=>o.bind λi=>(σ[i]?).join)[j]?=ih (ih v):=e2;rw[dQ]at w;cases q:Qd[j]? with
   |none=>rw[q]at w;cases w
   |some o=>rw[q]at w;exact w
  cases q:Qd[j]? with
  |none=>rw[q]at t;cases t
  |some o =>
   rw[q]at t;cases o with
   |none=>simp at t
   |some i =>
    have C:(σ[i]?).join=ih v:=by simpa using t
    have yb:σ[i]?=ih (ih v):=by
     cases Q:σ[i]? with
     |none=>rw[Q]at C;cases C
     |some z=>rw[Q]at C;rw[show z=ih v from C]
    obtain⟨y,xa,ya,A⟩:=S.fv j i q;have za:x=y:=by
     have L:N'[j]?=ih x:=e1;rw[ya]at L;exact(cZ L).symm
    subst za;obtain⟨m,xe,zb⟩:=I.loc;have R:=S.free _ (jh A) rfl;obtain⟨u,r,lk⟩:=zb i x v xa yb (by rcases R with z|z;exact .inr (.inl z);exact .inr (.inr z))
    refine⟨u,r,.inr ⟨so A,?_⟩⟩;rcases lk with⟨k,_⟩|⟨_,c,xc,yc⟩
    ·have T:X.env.scope.names.lookup x=ih .local:=k
     rcases R with z|z <;> (rw[z]at T;cases T)
    ·refine⟨c,?_,yc.keeps D⟩
     show(cellsFrom (s2.aj+1) scope.names (eF X.env.cells scope.names [])).lookup x=ih c;rw[lN,Ge];cases zc:(cellsFrom (s2.aj+1) scope.names []).lookup x with
     |some d =>
      rcases o7 _ _ _ _ _ (jh zc) with z|z
      ·simp at z
      ·rw[lO S.keys z]at A;cases A
     |none =>
      obtain⟨ye,g⟩:=pw (cells:=X.env.cells) scope.names [] x (jh A);rcases o8 _ _ _ _ g with z|⟨_,e5⟩
      ·simp at z
      ·rw[xc]at e5
       rw[g,e5];rfl
 ·rcases l e with⟨m,_⟩|⟨_,s⟩
  ·exact I.aJ.fresh (rY (h _ _ m).2)
  ·exact I.eO x c s
 ·show(Qd.map _).length=N'.length
  rw[aE,S.len]
def i2(X:Cx)(Qe:List Vc)(t:TT):Prop:=
 ∀J s σ H (Q:Bool->Hp->Prop),Inv X J σ H s->t σ H Q ->
  wA X (forIn Qe true λc r=>if r=true then do let ok <- isTrue c X.env (eval c X.env);pure (XB ok) else pure (XB r)) (TP X J σ Q) X.xe s
def nZ:TT:=λ_ H Q=>Q true H
theorem eh:i2 X [] nZ:=λ_ _ _ H _ I h=>wpAny_tests_nil ⟨H,I,h⟩
theorem h9{t:TT}(h:PT X c t):i2 X [c] t:=λJ s σ H Q I a=>wpAny_tests_one (h J s σ H Q I a)
structure kz(e tg iter:Vc)(Qe:List Vc)(Qg:i'->YT->YK Unit):Prop where
 cl:clausesOf e=[⟨tg,iter,Qe,0⟩]
 turn:∀it cE env,compTurn e 0 it cE env=(do
   standAt iter.pos
   match <- pyNext it with
   |none=>pure (.done .next)
   |some v =>
    letOwnedTupleGo tg it v
    assign tg env v
    let mut ok:=true
    for c in Qe do
     if ok then ok <- isTrue c env (eval c env)
    if ok then Qg cE env
    again (.compLoop e 0 it cE env))
 loop:∀(prog:XJ) (w:XT) (A:XW) it cE env,A.under (.compLoop e 0 it cE env)=A/\(UK prog w).den (.compLoop e 0 it cE env)=(compTurn e 0 it cE env).onRaise (λx=>do noteFrame x env;theTreesLotGoes x)
 begin_:∀(prog:XJ) (w:XT) (A:XW) it cE env,A.under (.compStart e 0 it cE env)=A/\(UK prog w).den (.compStart e 0 it cE env)=(compStart e 0 it cE env).onRaise (λx=>do noteFrame x env;standAt theWindowsPlace)
theorem G'{R:Y4->Ur->Prop}{Qg:i'->YT->YK Unit}{it a:i'}(F:kz e tg iter Qe Qg)(I:Nat->Ur->Prop)
  (g:∀n s,I n s->Ut (UK prog w) A (pyNext it) (λr s1=>match r with
   |none=>R (.ok .next) s1
   |some v=>Ut (UK prog w) A (letOwnedTupleGo tg it v) (λ_ s2=>Ut (UK prog w) A (assign tg env v) (λ_ d =>
     Ut (UK prog w) A (forIn Qe true λc r=>if r=true then do let ok <- isTrue c env (eval c env);pure (XB ok) else pure (XB r)) (λok b =>
      if ok=true then Ut (UK prog w) A (Qg a env) (λ_ i=>∃m,m<n/\I m i) (λ_ _=>False) b
      else ∃m,m<n/\I m b) (λ_ _=>False) d) (λ_ _=>False) s2) (λ_ _=>False) s1) (λ_ _=>False) s)
  (n:Nat) (h:I n s) :
  codeAny (UK prog w) A (.compLoop e 0 it a env) R s:=by
 refine codeAny_loop rfl I (λn s j=>?_) n h;rw[(F.loop prog w A it a env).1,(F.loop prog w A it a env).2];refine wpAny_noted (Gf ?_);rw[F.turn];refine ae (j3 (ae (aG (g n s j) λr s1 h1=>?_)));cases r with
 |none=>exact ao h1
 |some v =>
  refine ae (aG h1 λ_ s2 h2=>ae (aG h2 λ_ d k=>ae (aG k λok b f=>?_)));cases ok with
  |false=>exact ao ⟨rfl,f⟩
  |true=>exact ae (aG f λx o l=>ao ⟨rfl,l⟩)
theorem G9{R:Y4->Ur->Prop}{Qg:i'->YT->YK Unit}{it a:i'}(F:kz e tg iter Qe Qg)
  (h0:codeAny (UK prog w) A (.compLoop e 0 it a env) R s)
  (h:Ut (UK prog w) A (pyIter it) (λb s'=>codeAny (UK prog w) A (.compLoop e 0 b a env) R s')
   (notedBy (UK prog w) A env λx s'=>R (.error x) s') s) :
  codeAny (UK prog w) A (.compStart e 0 it a env) R s:=by
 refine wB ?_;rw[(F.begin_ prog w A it a env).1,(F.begin_ prog w A it a env).2];refine wpAny_notedAt ?_;unfold compStart;rw[F.cl];show Ut _ _ (ask >>= _) _ _ s;refine ae (iE (wpAny_ite ?_));split
 ·first
   |exact ae (ao (ao (YN rfl h0)))
   |exact ao (YN rfl h0)
 ·first
   |exact ae (jf (ae (j3 (ae (hW h (λb s' h'=>ao (YN rfl h')) λ_ _ x=>x)))))
   |(refine ae (jf ?_);show Ut _ _ (standAt iter.pos >>= _) _ _ s;exact ae (j3 (ae (hW h (λb s' h'=>ao (YN rfl h')) λ_ _ x=>x))))
def Mx{ι:Type}(J1:It)(g:TG)(ti:TT)(Qk:ι->Up->St->Hp->(ι->Hp->Prop)->Prop)(y0:ι)(eR:St)(Q:VK)(p:Up)(Y:Hp):Prop:=
 ∃W:Nat->Nat->ι->St->Hp->Prop,(∃m,W 0 m y0 eR Y) /\∀i m y τ H2,W i m y τ H2 ->
  ((J1.stop i H2/\Q (.ref p) H2)\/(J1.go i H2 /\∀x H3,J1.ja i H2 x H3->g x τ H3 λgc H4=>ti gc H4 λb H5 =>
   if b=true then Qk y p gc H5 λy' H6=>∃m',m'<m/\W (i+1) m' y' gc H6
   else ∃m',m'<m/\W (i+1) m' y gc H5))
def DX{ι:Type}(X:Cx)(Qg:i'->YT->YK Unit)(Qk:ι->Up->St->Hp->(ι->Hp->Prop)->Prop):Prop:=
 ∀J s σ H (p:Up) (y:ι) (Q:ι->Hp->Prop),Inv X J σ H s->Qk y p σ H Q->wA X (Qg (.ref p) X.env) (λ_ s'=>∃y' H',Inv X J σ H' s'/\Q y' H') X.xe s
structure nQ(X:Cx)(My:YK i')(start:Up->HO):Prop where
 run:∀J s σ H (E:i'->Ur->Prop) (Q:i'->Ur->Prop),Inv X J σ H s ->
  (∀s',Inv X J σ (upd H s.aj (start s.aj)) s'->(∀b o,s.heap.get? b=ih o->s'.heap.get? b=ih o)->Q (.ref s.aj) s')->wA X My Q E s
def BM(Qm:Vc)(cE:i')(env:YT):YK Unit:=do
 let v <- eval Qm env
 let _ <- call (.builtin "list.append") [cE,v]
theorem IY:kz (.ListComp Qm [⟨tg,iter,Qe,0⟩] scope pos) tg iter Qe (BM Qm):=⟨rfl,λ_ _ _=>rfl,λ_ _ _ _ _ _=>⟨rfl,rfl⟩,λ_ _ _ _ _ _=>⟨rfl,rfl⟩⟩
theorem JS:nQ X (newList []) (λ_=>.lst []):=⟨λJ s σ H E Q I h=>fB (h _ (I.DV (its:=[]) (t':=s.toks) .nil (bx _)) λb o e=>a8 _ e)⟩
def Mz(te:TE)(ys:List V)(p:Up)(σ:St)(H:Hp)(Q:List V->Hp->Prop):Prop:=te σ H λy H6=>H6 p=ih (.lst ys)/\ys.length<Us/\Q (ys++[y]) (upd H6 p (.lst (ys++[y])))
theorem Ld(j:PE X Qm te):DX X (BM Qm) (Mz te):=λJ s σ H p ys Q I h=>by
 refine ae (aG (j J s σ H _ I h) λy d n=>?_);obtain⟨z,a,e,f,b,c,k⟩:=n;refine ae (aG (ku _ d σ a (.ref p) [z] (.ref p) [y] (λ_ H'=>H'=upd a p (.lst (ys++[z]))) e rfl (.cons f .nil) ⟨_,_,_,rfl,rfl,b,c,rfl⟩) λ_ l n=>?_);obtain⟨_,m,g,_,i⟩:=n;subst i;exact ao ⟨_,_,g,k⟩
def hE(J1:It)(g:TG)(ti:TT)(te:TE)(eR:St)(Q:VK)(p:Up)(Y:Hp):Prop:=
 ∃W:Nat->Nat->List V->St->Hp->Prop,(∃m,W 0 m [] eR (upd Y p (.lst []))) /\∀i m ys τ H2,W i m ys τ H2->H2 p=ih (.lst ys) /\
  ((J1.stop i H2/\Q (.ref p) H2)\/(J1.go i H2 /\∀x H3,J1.ja i H2 x H3->g x τ H3 λgc H4=>ti gc H4 λb H5 =>
   if b=true then te gc H5 λy H6=>H6 p=ih (.lst ys)/\ys.length<Us /\∃m',m'<m/\W (i+1) m' (ys++[y]) gc (upd H6 p (.lst (ys++[y])))
   else ∃m',m'<m/\W (i+1) m' ys gc H5))
def Dw(wi:TI)(Qd:List (Option Nat))(g:TG)(ti:TT)(te:TE):TE:=λσ H Q=>wi σ H λJ1 Y=>∀p,Y p=none->hE J1 g ti te (pick Qd σ) Q p Y
section
def CompEnd(X:Cx)(J:List (Up×Ye))(σ:St)(Q:VK)(cE:i')(C:Up)(s':Ur):Prop:=
 ∃(p:Up) (H':Hp),cE=.ref p/\Inv X J σ H' s'/\fX X J H' C/\(∃m,s'.heap.Ns C m)/\Q (.ref p) H'
variable{Qg:i'->YT->YK Unit}
theorem AA{D:Type}{y0:D}{temI:D->Up->St->Hp->(D->Hp->Prop)->Prop}{yd:It}{g:TG}{za:YK i'}{start:Up->HO}(F:kz e tg iter Qe Qg)(zd:X.calm=true)(S:bY X.N X.env.scope N' Qd scope)
  (xe:Inv X J σ H2 s2) (T:Turn X.prog X.w X.K tg yd fp it tn) (st:tn 0 s2.heap) (ye:∀b∈fp,fX X J H2 b) (yh:nQ X za start)
  (a:∀s H fp,PG (cH X N' scope s H fp) tg g/\i2 (cH X N' scope s H fp) Qe ti/\DX (cH X N' scope s H fp) Qg temI)
  (zk:∀p,H2 p=none->Mx yd g ti temI y0 (pick Qd σ) Q p (upd H2 p (start p))) (xl:∀v C s',CompEnd X J σ Q v C s'->RR v C (.ok .next) s') :
  wA X za (λv f=>wA X (newFunctionEnv scope X.env.globals (eF X.env.cells scope.names []) [] X.env.qual none .none (ih X.env)) (λxb yl =>
   codeAny X.c' X.A (.compStart e 0 (.ref it) v { xb with scope:=relabel scope X.env }) (RR v xb.locals) yl) E f) E s2:=by
 refine yh.run J s2 σ H2 E _ xe λf G zh=>?_;have I:=zk s2.aj xe.fresh;generalize zl:upd H2 s2.aj (start s2.aj)=h at G I;have yi:∀b∈fp,b<s2.aj:=λb a=>let ⟨_,e,_⟩:=T.obj _ _ st b a;bt e;have zb:tn 0 f.heap:=T.keep _ _ _ st λb _ o e=>zh b o e;have l:∀b∈fp,fX X J h b:=λb a=>⟨by rw[<-zl,ag (bI (yi b a))];exact(ye b a).1,(ye b a).2⟩
 have zi:∀b∈fp,∃o,f.heap.get? b=ih o:=λb a=>let ⟨o,e,_⟩:=T.obj _ _ zb b a;⟨o,e⟩;refine HA λR U ze xj yj=>?_;have L:Inv (cH X N' scope f h fp) [] (pick Qd σ) h { f with heap:=R }:=JR G S l zi U ze xj yj;have xc:tn 0 ({ f with heap:=R }:Ur).heap:=T.keep _ _ _ zb λb _ o e=>ze b o e;obtain⟨xm,ym,zm⟩:=a f h fp;obtain⟨W,⟨xn,yn⟩,xi⟩:=I;have O:∀{H':Hp},(∀b∈fp,H' b=none) ->∀b∈fp,fX (cH X N' scope f h fp) [] H' b:=λU b a =>
  ⟨U b a,(L.ok.lj b a).1,L.ok.jK b a,.inl a,λx c e=>(L.ok.lj b a).2 x c e,λp I=>absurd (show p∈([]:am (Up×Ye)) from I) (by simp)⟩
 have yb:codeAny X.c' X.A (.compLoop e 0 (.ref it) (.ref s2.aj) (BL scope f.aj X.env))
   (RR (.ref s2.aj) f.aj) { f with heap:=R }:=by
  refine G' F (λn s'=>∃i y j H',Inv (cH X N' scope f h fp) [] j H' s'/\tn i s'.heap/\(∀b∈fp,H' b=none)/\W i n y j H') ?_ xn ⟨0,_,_,h,L,xc,λb a=>(l b a).1,yn⟩;rintro n xf ⟨i,y,j,M,yf,yc,zc,V⟩;have V:=xi i n y j M V;rcases V with⟨stop,qn⟩|⟨go,step⟩
  ·refine aG (T.done (cH X N' scope f h fp) rfl rfl rfl zd i [] xf j M _ yf (O zc) yc stop) λr zf ⟨Y,q⟩=>?_
   subst Y;refine xl _ _ _ ⟨_,M,rfl,?_,?_,?_,qn⟩
   ·exact G.uM (s':=zf) (ch:=fp) q.os q.base q.aJ q.bare λb a=>⟨(l b a).2.2.2.1,(l b a).2.1,(l b a).2.2.2.2.1,(l b a).2.2.2.2.2⟩
   ·exact G.i1 (aU _) q.free
   ·obtain⟨m,k,_⟩:=q.loc
    exact⟨m,k⟩
  ·refine aG (T.item (cH X N' scope f h fp) rfl rfl rfl zd i [] xf j M _ yf (O zc) yc go) λr zf aa=>?_;obtain⟨u,Y,zn⟩:=aa
   subst Y;refine aG zn λ_ xg aa=>?_;obtain⟨x,yg,xo,yo,y7,P,zj⟩:=aa;have xk:=xo.pinned (O zj) (T.obj _ _ P);refine aG (xm _ xg j yg x u _ xk yo (step x yg y7)) λ_ zo aa=>?_;obtain⟨xd,xp,yp,zp⟩:=aa;refine aG (ym _ zo xd xp _ yp zp) λb xq aa=>?_;obtain⟨yq,zg,xh⟩:=aa;have again:∀{xa:D}{B:St}{H':Hp}{s':Ur}{t:Nat},Inv (cH X N' scope f h fp) ([]++nO fp xg.heap) B H' s'->t<n->W (i+1) t xa B H' ->
     ∃m,m<n /\∃i y j H',Inv (cH X N' scope f h fp) [] j H' s'/\tn i s'.heap/\(∀b∈fp,H' b=none)/\W i m y j H':=λ{xa B H' s' t} ya k z=>by
    refine⟨t,k,i+1,xa,B,H',ya.pF,T.keep _ _ _ P λb a o e=>(ya.pin (b,o) (eV _ (eV _ (pe a e)))).1,λb a=>?_,z⟩;obtain⟨o,e,d⟩:=T.obj _ _ P b a;exact(ya.pin (b,o) (eV _ (eV _ (pe a e)))).2.1
   cases b with
   |false =>
    obtain⟨t,k,z⟩:=xh;exact again zg k z
   |true=>exact aG (zm _ xq xd yq _ y _ zg xh) λ_ zq ⟨xr,yr,yk,t,k,z⟩=>again yk k z
 exact G9 F yb (T.self X.A 0 _ _ _ xc yb)
theorem A7{e:It}{g:TG}(f:X.calm=true)(S:bY X.N X.env.scope N' Qd scope)
  (h:Inv X J σ H2 s2) (T:Turn X.prog X.w X.K tg e fp it tn) (st:tn 0 s2.heap) (j:∀b∈fp,fX X J H2 b)
  (c:∀s H fp,PG (cH X N' scope s H fp) tg g/\i2 (cH X N' scope s H fp) Qe ti/\PE (cH X N' scope s H fp) Qm te)
  (k:∀p,H2 p=none->hE e g ti te (pick Qd σ) Q p H2) (l:∀a C s',CompEnd X J σ Q a C s'->RR a C (.ok .next) s') :
  wA X (newList []) (λa n=>wA X (newFunctionEnv scope X.env.globals (eF X.env.cells scope.names []) [] X.env.qual none .none (ih X.env)) (λd o =>
   codeAny X.c' X.A (.compStart (.ListComp Qm [⟨tg,iter,Qe,0⟩] scope pos) 0 (.ref it) a { d with scope:=relabel scope X.env }) (RR a d.locals) o) E n) E s2:=by
 refine AA (y0:=[]) IY f S h T st j JS (λs H fp=>⟨(c s H fp).1,(c s H fp).2.1,Ld (c s H fp).2.2⟩) (λp q=>?_) l;obtain⟨W,h0,st⟩:=k p q;exact⟨W,h0,λi m ys r H w=>(st i m ys r H w).2⟩
theorem dB{wi:TI}{g:TG}(i:X.calm=true)(S:bY X.N X.env.scope N' Qd scope)(hi:PI X tg iter wi)
  (a:∀s H fp,PG (cH X N' scope s H fp) tg g/\i2 (cH X N' scope s H fp) Qe ti/\PE (cH X N' scope s H fp) Qm te)
  (j:∀x,foldedSetIterable iter X.env x=pure x:=by intro _;rfl):PE X (.ListComp Qm [⟨tg,iter,Qe,0⟩] scope pos) (Dw wi Qd g ti te):=by
 intro J s σ H Q I h;rw[eval_ListComp];refine Gg (use:=none) rfl j (su λn k=>px I S k) S.kind (λx l r=>lO S.keys (by rw[<-r];exact l)) ?_
 refine aG (hi J s σ H _ I h) λv s1 h1=>aG h1 λB s2 h2=>?_;obtain⟨it,fp,tn,D,H2,e,t,T,d,u,w⟩:=h2;subst e;refine A7 (RR:=λc C=>compPost X.c' X.A X.xe none (EP X J σ Q) c C) i S t T d u a w ?_;rintro c C s' ⟨p,H',rfl,y,fC,⟨m,z⟩,q⟩;refine⟨m,z,λh' f=>⟨.ref p,H',?_,rfl,q⟩⟩;exact y.turned (it:=C) (t':=s'.toks) (λb o a e=>(f.2 b a).trans e) fC.1 fC.2.1 fC.2.2.2.1 fC.2.2.2.2.1 fC.2.2.2.2.2
theorem m5{wi:TI}{g:TG}{j:Zx}(E:X.calm=true)(S:bY X.N X.env.scope N' Qd scope)(F:X.N.Nodup)(d:X.N[i]?=ih x)(c:X.env.scope.names.lookup x=ih .local)(hi:PI X tg iter wi)
  (f:∀s H fp,PG (cH X N' scope s H fp) tg g/\i2 (cH X N' scope s H fp) Qe ti/\PE (cH X N' scope s H fp) Qm te)
  (l:swapsWith (.ListComp Qm [⟨tg,iter,Qe,0⟩] scope pos) (ih (.Name x Qf)) j.line X.env=pure true:=by rfl)
  (G:∀x,foldedSetIterable iter X.env x=pure x:=by intro _;rfl):PS X (.Assign [.Name x Qf] (.ListComp Qm [⟨tg,iter,Qe,0⟩] scope pos) j) (qP (Dw wi Qd g ti te) (ic i)):=by
 intro J s σ H D I h;rw[exec_Assign_Name_used _ _ _ _ l];refine ae (j3 (ae ?_));show Ut _ X.A (do let _ <- comprehension (.ListComp Qm [⟨tg,iter,Qe,0⟩] scope pos) scope X.env _ (newList []) false (eval iter X.env) (ih (assign (.Name x Qf) X.env))) _ _ s;refine ae (aG (Gg (use:=ih (assign (.Name x Qf) X.env)) (Q:=λ_ s'=>SP X J D .next s') rfl G (su λn K=>px I S K) S.kind (λx d c=>lO S.keys (by rw[<-c];exact d)) ?_) λ_ s' L=>ao (ao L))
 refine aG (hi J s σ H _ I h) λv s1 h1=>aG h1 λV s2 h2=>?_;obtain⟨it,fp,tn,W,H2,e,M,T,r,O,P⟩:=h2;subst e;refine A7 (Q:=λv H'=>D.nx (σ.set i (ih v)) H') (RR:=λk C=>compPost X.c' X.A X.xe (ih (assign (.Name x Qf) X.env)) (λ_ s'=>SP X J D .next s') k C) E S M T r O f P ?_;rintro k C s' ⟨p,H',rfl,R,fC,⟨m,U⟩,q⟩;show wA X (assign (.Name x Qf) X.env (.ref p)) _ _ s';refine wpAny_assign_Name (AY (v:=.ref p) R F d (.inl c) rfl (λt u Y=>?_) (.inr c));obtain⟨a,w,ha⟩:=Y;have y:C≠a:=by
  rcases ha with ha|ha
  ·rw[ha];exact fC.2.1
  ·exact λz=>fC.2.2.2.2.1 _ _ ha z.symm
 refine⟨m,U.sameBut w y,λh' B=>⟨_,H',?_,q⟩⟩;exact u.turned (it:=C) (t':=t.toks) (λb o f e=>(B.2 b f).trans e) fC.1 fC.2.1 fC.2.2.2.1 fC.2.2.2.2.1 fC.2.2.2.2.2
end
end L2
namespace L2
open Spec PyProof.Rows W Builtin.ObjectAttr
def ib(h:XD)(C:Up)(us:List i'):XD:=(h.push { cls:=.type "tuple",data:=.seq us.toArray }).push { cls:=.ref C,data:=.fields #[.ref h.objs.size,.none,.none,.none,.bool false,.none] }
theorem m2(e:h.get? b=ih o):(ib h C us).get? b=ih o:=a8 _ (a8 _ e)
theorem A8:(ib h C us).get? (h.objs.size+1)=ih { cls:=.ref C,data:=.fields #[.ref h.objs.size,.none,.none,.none,.bool false,.none] }:=by
 unfold ib;heap_get
section
variable{gs:Array Zn}{dr:Drawn}{tk:Nat}{os:OsState}
variable{qn:Gv}{N:Up}{Qv up Qw:am i'}{Qt:Bool}{sl:am Gv}{Q3:am i'}{Q1:Bool}{Q0:a2 Bool}{e0 e1 e2 e3 e5:a2 i'}{B Qx Q4:String}
variable{mN:Gv->Option i'}{oI:Ye}
theorem G5{Q:Fin->Ur->Prop}(F:ExcBaseFacts B Qx Q4 Qw)(T:OwnTail h Qw up)(a:h.get? C=ih (excClassObj cn qn C N Qv up Qt sl Q3 Q1 Q0 od e0 e1 e2 e3 e5 Qx))(c:h.Ns N mN)
  (hi:mN "__init__" = ih (.ref fI)) (cB:h.get? fI=ih oI) (d:oI.cls=.type "function") (a5:us.length<=Us)
  (run:Ut (UK P w) A (call (.ref fI) (.ref (h.objs.size+1)::us)) (λr s'=>r=.none/\Q (.done (.ret (.ref (h.objs.size+1)))) s') E ⟨ib h C us,gs,dr,tk,os⟩) :
  Ut (UK P w) A (XM.«type.__call__» ⟨.ref C::us,[]⟩) Q E ⟨h,gs,dr,tk,os⟩:=by
 repeat (first|with_reducible refine r1 a ?_|with_reducible refine wpAny_madeBy_exc a ?_|wp_step)
 refine codeAny_call_builtin_code (Gh _ F.quiet) (wpAny_check_new_subT F T a (codeAny_exc_new_subT F T a ?_ a5));show Ut _ _ _ _ _ (⟨ib h C us,gs,dr,tk,os⟩:Ur);have b:(ib h C us).get? C=_:=m2 a;have f:(ib h C us).get? (h.objs.size+1)=_:=A8;have g:(UN C::up).contains (.ref C)=true:=List.contains_iff_mem.mpr aV;unfold isInstance
 repeat (first|with_reducible refine r1 f ?_|(with_reducible refine wpAny_isSubtype_exc b ?_;rw[g])|wp_step)
 refine wpAny_typeLookup_tail (mN:=mN) b (c.keeps λ_ _ e=>m2 e) (T.keeps λ_ _ e=>m2 e) F.mroIs F.init.lookup ?_;rw[hi];refine d5 (ae (show Ut _ _ (bindSpecial _ _) _ _ _ from ?_));unfold bindSpecial;refine ae (ji (T:= "function") ⟨oI,m2 cB,d⟩ ?_);rw[ay (show _ from by decide)]
 refine ao (ae (aG run λr s' i=>?_));obtain⟨rfl,q⟩:=i
 wp_walk
 exact q
theorem Ha{Q:i'->Ur->Prop}(F:ExcBaseFacts B Qx Q4 Qw)(T:OwnTail h Qw up)(a:h.get? C=ih (excClassObj cn qn C N Qv up Qt sl Q3 Q1 Q0 od e0 e1 e2 e3 e5 Qx))(b:h.Ns N mN)
  (hi:mN "__init__" = ih (.ref fI)) (cB:h.get? fI=ih oI) (c:oI.cls=.type "function") (a5:us.length<=Us)
  (run:Ut (UK P w) (A.under (.builtin "type.__call__" ⟨.ref C::us,[]⟩)) (call (.ref fI) (.ref (h.objs.size+1)::us)) (λr s'=>r=.none/\Q (.ref (h.objs.size+1)) s') E ⟨ib h C us,gs,dr,tk,os⟩) :
  Ut (UK P w) A (call (.ref C) us) Q E ⟨h,gs,dr,tk,os⟩:=by
 have d:=tc_lookup;have e:=tc_bind (.ref C);have ty:(⟨h,gs,dr,tk,os⟩:Ur).TypeIs (.ref C) "type" :=⟨_,a,rfl⟩;refine j5 (wB (show Ut _ _ (callAny (.ref C) _) _ _ _ from ?_))
 repeat (any_goals (first|assumption|with_reducible refine r1 a ?_|wp_step))
 exact⟨rfl,codeAny_call_builtin_at (Gh _ (by decide +kernel)) entry_typeCall (wpAny_check_type_call_sub a (G5 F T a b hi cB c a5 run))⟩
end
abbrev rO:List i':=[.type "ValueError",.type "Exception",.type "BaseException",.type "object"]
def fU(K:X2)(C:Up)(i:Option i'):Bool:=
  match K.lookup C with
  |some ⟨.type "type",_,.cls cls,slots⟩ =>
    (match cls.mro with
     |.ref C'::up=>C'==C&&((slots.toList.length==6&&slots.toList[4]? == ih (ih (.builtin "ValueError.__new__")))&&(!cls.hasDel&&(tailIn K rO up&&(nsOkIn K cls.ns&&nsIn K cls.ns "__init__" == ih i))))
     |_=>false)
  |_=>false
theorem OW{α:Type}{l:am α}(h:l.length=6):∃a b c d e f,l=[a,b,c,d,e,f]:=by
 rcases l with _|⟨a,_|⟨b,_|⟨c,_|⟨d,_|⟨e,_|⟨f,_|⟨g,l⟩⟩⟩⟩⟩⟩⟩ <;> simp at h
 exact⟨a,b,c,d,e,f,rfl⟩
theorem Ih{N:Up}{a:Gv->Option i'}{v:i'}(X:K.In h)(G:h.Ns N a)(e:nsIn K N n=ih (ih v)):a n=ih v:=by
 obtain⟨g,f,_,b,c,_,look⟩:=G;unfold nsIn at e;split at e
 next _ _ _ _ _ q =>
  have two:=X _ _ q;rw[b]at two;cases two;cases c
  split at e
  next i d =>
   cases e
   rw[<-look,nsFind,findBy,<-Uv,d];rfl
  next=>split at e <;> cases e
 next=>cases e
structure ExcAt(h:XD)(C:Up)(i:Option i'):Prop where
 ex:∃bm N nm q bs OX sn sub ab QB dd k0 k1 k2 k3 k5 mN,h.get? C=ih (excClassObj nm q C N bs bm OX sn sub ab QB dd k0 k1 k2 k3 k5 "ValueError.__new__")/\h.Ns N mN/\mN "__init__" = i/\OwnTail h rO bm
theorem pz{i:a2 i'}(X:K.In h)(q:fU K C i=true):ExcAt h C i:=by
 unfold fU at q;split at q
 next od b a k =>
  split at q
  next B up r =>
   obtain⟨s,q⟩:=mU.mp q;obtain⟨p2,q⟩:=mU.mp q;obtain⟨p3,q⟩:=mU.mp q;obtain⟨p4,q⟩:=mU.mp q;obtain⟨p5,p6⟩:=mU.mp q;have e1:=df.mp s;obtain⟨p7,t⟩:=mU.mp p2;obtain⟨c,d,e,f,y,g,es⟩:=OW (df.mp p7);have e2:=df.mp t;rw[es]at e2;have e3:b.hasDel=false:=by simpa using p3
   have j:=df.mp p6;subst e1;cases e2
   obtain⟨u,bs,l,ns,qn,w,x,z,A,m,n⟩:=b;have o:l=_:=r;have p:n=false:=e3;subst o p;obtain rfl:a = #[c,d,e,f,ih (.builtin "ValueError.__new__"),g]:=by cases a;exact c6 Array.mk es
   refine⟨⟨up,ns,u,qn,bs,w,x,z,A,m,od,c,d,e,f,g,h.nsMap ns,X _ _ k,.of_isNs (isNs_of_in X p5),?_,tail_of_in X p4⟩⟩;cases i with
   |none=>exact nsMap_none_of_in X p5 j
   |some v=>exact Ih X (.of_isNs (isNs_of_in X p5)) j
  next=>cases q
 next=>cases q
def mv:List i'->Bool
 |.ref _::r=>mv r
 |l=>l==rO
theorem HB:∀{l:am i'},mv l=true->l=rO \/∃a r,l=.ref a::r/\mv r=true
 |[],e=>.inl (df.mp e)
 |.ref a::r,e=>.inr ⟨a,r,rfl,e⟩
 |.none::r,e=>.inl (df.mp e)
 |.bool b::r,e=>.inl (df.mp e)
 |.int i t::r,e=>.inl (df.mp e)
 |.float i t::r,e=>.inl (df.mp e)
 |.str i t::r,e=>.inl (df.mp e)
 |.bytes i t::r,e=>.inl (df.mp e)
 |.type i::r,e=>.inl (df.mp e)
 |.builtin i::r,e=>.inl (df.mp e)
theorem JT(self:i')(l:am i'):mv l=true->refuseLoop self "__setattr__" l=pure ():=by
 induction l with
 |nil=>intro e;exact absurd e (by decide)
 |cons v r b =>
  intro e;rcases HB e with q|⟨a,d,q,c⟩
  ·rw[q];kernel_rfl
  ·cases q
   rw[refuseLoop_ref];exact b c
structure eH(K:X2)(C:Up):Prop where
 ga:XN K (.ref C) "__getattribute__" = ih (ih (.builtin "BaseException.__getattribute__"))
 gh:XN K (.ref C) "__getattr__" = ih none
 sa:XN K (.ref C) "__setattr__" = ih (ih (.builtin "object.__setattr__"))
 hd:hasDictIn K C=true
 ov:((clsIn K C).any λcd=>mv cd.mro)=true
 be:mroIn K C (.type "BaseException")=ih true
 ve:mroIn K C (.type "ValueError")=ih true
 ob:mroIn K C (.type "object")=ih true
 ka:XN K (.ref C) "__class__" = ih (ih (.builtin "object.__class__"))
 kn:specialIn K (.builtin "object.__class__") "__get__" = ih (ih (.builtin "getset_descriptor.__get__"))
 kt:takesIn K (.builtin "object.__class__")=ih true
section
variable{x:Up}{od:a2 Ye}
theorem IZ{R:Y4->Ur->Prop}{v:i'}(X:K.In s.heap)(I:InstAt s.heap x ox C od)(c:eH K C)(no:XN K (.ref C) name=ih none)
  (go:Ut (UK prog w) A.in1 (storeInOwnDict (.ref x) (.ref C) (.str name tk) name v false) (λd s'=>match d with|.done f=>R (.ok f) s'|.again a=>a.quiet=true/\codeAny (UK prog w) A a R s') (λe s'=>R (.error e) s') s) :
  codeAny (UK prog w) A (.call (.builtin "object.__setattr__") ⟨[.ref x,.str name tk,v],[]⟩) R s:=by
 obtain⟨g,h,ok⟩:=r3 c.ov;have ty:ZH (UK prog w) s.heap (typeOf (.ref x)) (.ref C):=I.type;have up:ZH (UK prog w) s.heap (mroOf (.ref C)) g.mro:=Looks.andThen (looks_clsIn X h) Looks.now;have b:ZH (UK prog w) s.heap (typeLookup (.ref C) name) none:=looks_findIn X no;refine wC r4.slot.plain r4.entry (@check_slot (UK prog w) _ _ s _ _ _ (.ref x) [.str name tk,v] [] _ r4.kind r4.split (ty.andThen (wD X c.ob)) (r4.args _ _ _) ?_);rw[osa_eq,refuse_eq];refine ae (ae (ty.here (ae (up.here ?_))));rw[JT _ _ ok];refine ao (show Ut _ _ _ _ _ s from ?_);exact ae (ty.here (ae (b.here (ae (ao go)))))
theorem A9{fill:Bool}{Q:i'->Ur->Prop}(X:K.In s.heap)(I:InstAt s.heap x ox C od)(c:eH K C)
  (h:Ut (UK prog w) A.in1 (XM.«object.__getattribute__» ⟨[.ref x,.str name tk],[]⟩) (λa s'=>match a with|.done (.ret v)=>Ut (UK prog w) A (handedOut v) Q E s'|_=>False) (λ_ _=>False) s) :
  Ut (UK prog w) A (getAttrBy (.ref x) (.str name tk) fill Qr) Q E s:=by
 have f:=I.type (M:=UK prog w);have g:=looks_findIn (M:=UK prog w) X c.ga;have L2:=looks_findIn (M:=UK prog w) X c.gh;have sub:ZH (UK prog w) s.heap (isInstance (.ref x) (.type "BaseException")) true:=I.type.andThen (wD X c.be);have d:(Yo "BaseException.__getattribute__" == Yo "object.__getattribute__")=false:=by decide +kernel
 have e:(onTheHeap (UN C)&&Yo "BaseException.__getattribute__" == Yo "object.__getattribute__")=false:=by rw[d];rfl
 have i:builtinKind "BaseException.__getattribute__" = ih .slot:=by decide +kernel
 have b:splitId "BaseException.__getattribute__" = ih ("BaseException","__getattribute__"):=by decide +kernel
 unfold getAttrBy;refine d5 (ae (f.here (ae (g.here ?_))))
 dsimp only
 rw[e];show Ut _ _ (getAttrByItsOwn _ _ _ _ _ _) _ _ _;unfold getAttrByItsOwn hookBefore;refine ae ?_;rw[ay (show onTheHeap (UN C)=true from rfl)];refine L2.here (ae (r5 (d5 ?_)));unfold callGetattribute;rw[aq (show ¬ (Qr&&onTheHeap (Yo "BaseException.__getattribute__"))=true by cases Qr <;> decide)]
 unfold boundAndCalled;rw[UP.ga.bind];refine ae (ao (j5 (wC UP.ga.plain PySem.F.entry_bexc_ga (@check_slot (UK prog w) _ _ s "BaseException.__getattribute__" "BaseException" "__getattribute__" (.ref x) [.str name tk] [] _ i b sub (PySem.F.args_bexc_ga _ _) ?_))));refine hW h (λa s' z=>?_) λ_ _ z=>z.elim;rcases a with(_|_|_|_)|_ <;> first|exact z|exact z.elim
theorem I0{v:i'}{Q:Fin->Ur->Prop}(X:K.In s.heap)(I:InstAt s.heap x ox C od)(a:findObj K C od name=ih (.value v))(h:Q (.done (.ret v)) s) :
  Ut (UK prog w) A (XM.«object.__getattribute__» ⟨[.ref x,.str name tk],[]⟩) Q E s:=by
 have b:=I.type (M:=UK prog w);have c:=looks_find (M:=UK prog w) X I a;refine ae (ao (ae (ao (ae (b.here (ae (c.here ?_)))))));exact ao h
theorem Le{v:i'}{Q:i'->Ur->Prop}(X:K.In s.heap)(I:InstAt s.heap x ox C od)(c:eH K C)(a:findObj K C od name=ih (.value v))(b:handedIn v=true)
  (h:Q v { s with toks:=s.toks+1 }):Ut (UK prog w) A (getAttr (.ref x) name Qr) Q E s:=by
 unfold getAttr;refine ae (wpAny_mkText ?_);exact A9 (s:={ s with toks:=s.toks+1 }) X I c (I0 (s:={ s with toks:=s.toks+1 }) X I a (handed_on b h))
theorem I1{Q:a2 i'->Ur->Prop}(X:K.In s.heap)(I:InstAt s.heap x ox C od)(c:eH K C)(h:Q (ih (.ref C)) { s with toks:=s.toks+1 }):Ut (UK prog w) A (getAttr? (.ref x) "__class__") Q E s:=by
 have a:findObj K C od "__class__" = ih (.bind (.builtin "getset_descriptor.__get__") (.builtin "object.__class__")):=by
  obtain⟨cd,b,_⟩:=r3 c.hd;unfold findObj;rw[b,wF,c.ka,wF]
  dsimp only
  rw[c.kn,wF]
  dsimp only
  rw[c.kt,wF]
 unfold getAttr? getAttrBy?;refine ae (wpAny_mkText (ae (r5 ?_)));have d:=I.type (M:=UK prog w);have e:=looks_find (M:=UK prog w) X I a;refine A9 (s:={ s with toks:=s.toks+1 }) X I c ?_;refine ae (ao (ae (ao (ae (ZA (s:={ s with toks:=s.toks+1 }) d (ae (ZA (s:={ s with toks:=s.toks+1 }) e ?_)))))));show Ut _ _ (holding [.builtin "object.__class__"] (call (.builtin "getset_descriptor.__get__") [.builtin "object.__class__",.ref x,.ref C]) >>= ret) _ _ _;refine ae (d5 (j5 (class_get (s:={ s with toks:=s.toks+1 }) (ox:=ox) (od:=od) X I c.ob ?_)));exact ao (handed_on rfl (ao h))
theorem Ii{M:Zb}(X:K.In h)(c:eH K C):ZH M h (isType (.ref C)) true:=by
 obtain⟨d,a,_⟩:=r3 c.hd;unfold clsIn at a;split at a
 next b =>
  intro e f g s' k q;exact ae (wm (part:=ih headPart) (k _ _ (X _ _ b)) (ao q))
 next=>cases a
theorem BN(c:eH K C):KitX K (.ref x) (.ref C) (λh=>InstAt h x ox C od) where
 ty:=λ_ _ _ I=>I.type
 it:=λ_ _ X _=>Ii X c
 ne:=λh tp _ _ _ _ X tup=>by
  obtain⟨d,a,_⟩:=r3 c.hd;cases q:(UN C == .ref tp) with
  |false=>rfl
  |true =>
   have e:C=tp:=abM (df.mp q);unfold clsIn at a;split at a
   next b =>
    have two:=(X _ _ b).symm;rw[e,tup]at two;cases two
   next=>cases a
 ca:=λX I k=>I1 X I c k
end
theorem bH.there{o:HO}(x:bH P w H h a o):∃b,h.get? a=ih b:=by
 cases o with
 |lst xs=>obtain⟨_,_,_,_,e⟩:=x;exact⟨_,e⟩
 |tup xs=>obtain⟨_,_,_,b,e,_⟩:=x;exact⟨_,e⟩
 |dK kvs=>obtain⟨_,_,_,_,o,_,_,e,_⟩:=x;exact⟨_,e⟩
 |dT kvs=>obtain⟨_,_,_,_,o,_,_,e,_⟩:=x;exact⟨_,e⟩
 |set S n=>obtain⟨o,_,_,_,e,_⟩:=x;exact⟨_,e⟩
 |ins C dx fs=>obtain⟨_,_,_,e,_⟩:=x;exact⟨_,e⟩
 |own y=>exact x
 |xd fs=>obtain⟨_,⟨_,_,_,e,_⟩,_⟩:=x;exact⟨_,e⟩
 |oA lo hi=>obtain⟨_,_,_,e⟩:=x;exact⟨_,e⟩
 |bT b u=>obtain⟨e,_⟩:=x;exact⟨_,e⟩
 |i9 ps=>exact⟨_,x⟩
 |met f y=>exact⟨_,x⟩
 |ext c=>exact x.2.1
section
variable{o:HO}
theorem Inv.uw(I:Inv X J σ H s)(e:s.heap.get? a=none):H a=none:=by
 cases q:H a with
 |none=>rfl
 |some u =>
  obtain⟨b,z⟩:=(I.aJ a u q).there;rw[e]at z;cases z
theorem Inv.put(I:Inv X J σ H s)(k:∀b u,s.heap.get? b=ih u->h'.get? b=ih u)(e:s.heap.get? a=none)(new:bH X.prog X.w (upd H a o) h' a o):Inv X J σ (upd H a o) { s with heap:=h' }:=by
 have d:=I.uw e;have ne:∀b u,s.heap.get? b=ih u->b≠a:=λb u q z=>by rw[z,e]at q;cases q
 refine I.un (t':=s.toks) ⟨λb u q n _ _=>k b u q,λb u q n _ _=>⟨u.slots,k b u q⟩,λb u q n _=>by rw[ag (ne b u q)];exact n,λb u q _=>⟨u,k b u q⟩,λb xs q=>by rw[ag (aA q d)];exact q,
  λb u v q=>by rw[ag (aA q d)];exact q,λb ps q=>⟨#[],by rw[ag (aA q d),q];simp⟩⟩ λb u q=>?_
 by_cases f:b=a
 ·subst f;rw[ah]at q;cases q;exact new
 ·rw[ag f]at q
  exact(I.aJ b u q).e4 (λc v _ z=>k c v z) (λc z=>by rw[ag (aA z d)];exact z) λc xs z=>by rw[ag (aA z d)];exact z
end
def cJ(C:Up)(dx:Option Up)(a:Up):HO:=.ext λh=>∃t,h.get? a=ih { cls:=.ref C,dict:=dx,data:=.fields #[.ref t,.none,.none,.none,.bool false,.none] }
def e7(d:Up)(fs:List (Gv×V)):HO:=.ext λh=>fs.length<=100 /\∃mA,h.Ns1 d mA/\(∀f,d7 (fs.lookup f) (mA f))/\Yh mA (fs.map (·.1))
section
variable{fs:am (Gv×V)}
theorem tW{t:Up}(e:h.get? a=ih { cls:=.ref C,dict:=dx,data:=.fields #[.ref t,.none,.none,.none,.bool false,.none] }):bH P w H h a (cJ C dx a):=
 ⟨⟨t,e⟩,⟨_,e⟩,λ_ _ ⟨t,q⟩ k=>⟨t,k _ q⟩⟩
theorem Lf(z:fs.length<=100)(n:h.Ns1 d mA)(r:∀f,d7 (fs.lookup f) (mA f))(wi:Yh mA (fs.map (·.1))):bH P w H h d (e7 d fs):=
 ⟨⟨z,mA,n,r,wi⟩,(let ⟨o,_,_,e,_⟩:=n;⟨o,e⟩),λ_ _ ⟨z,mA,n,r⟩ k=>⟨z,mA,n.at k,r⟩⟩
end
section
variable{fs:am (Gv×V)}{f:Gv}
theorem Inv.excAt(I:Inv X J σ H s)(e:H a=ih (cJ C dx a)):∃t,s.heap.get? a=ih { cls:=.ref C,dict:=dx,data:=.fields #[.ref t,.none,.none,.none,.bool false,.none] }:=(I.aJ a _ e).1
theorem Inv.tX(I:Inv X J σ H s)(e:H d=ih (e7 d fs)):fs.length<=100 /\∃mA,s.heap.Ns1 d mA/\(∀f,d7 (fs.lookup f) (mA f))/\Yh mA (fs.map (·.1)):=(I.aJ d _ e).1
theorem Ij{Q:Unit->Ur->Prop}(I:Inv X J σ H s)(e:H a=ih (cJ C none a))(c:eH X.K C)(no:XN X.K (.ref C) f=ih none)(W:RelV y u)
  (h:∀d s',H d=none->d≠a->Inv X J σ (upd (upd H d (e7 d [(f,y)])) a (cJ C (ih d) a)) s'->Q () s'):Ut X.c' A (setAttr (.ref a) f u) Q E s:=by
 obtain⟨t,r⟩:=I.excAt e;have N:InstAt s.heap a _ C none:=⟨r,rfl,rfl,Vm⟩;refine Uw I.bQ N c.sa (IZ (s:={ s with toks:=s.toks+1 }) I.bQ N c no ?_);obtain⟨cls,ya,Qt⟩:=r3 c.hd;refine ae (ao (ae (show Ut _ _ (instanceDict a true) _ _ _ from ?_)));refine ae (wm (s:={ s with toks:=s.toks+1 }) r (ae (ZA (s:={ s with toks:=s.toks+1 }) (looks_clsIn I.bQ ya) ?_)));rw[Qt];refine ae (wpAny_alloc ?_);have fresh:s.heap.get? s.aj=none:=wk (aU _);have l:a≠s.aj:=bI (bt r);have L:(s.heap.push { cls:=.type "dict",data:=.dict #[] }).get? a=_:=a8 _ r;refine ae (wpAny_update (s:={ s with heap:=s.heap.push { cls:=.type "dict",data:=.dict #[] },toks:=s.toks+1 }) L (ao ?_));generalize D:(s.heap.push { cls:=.type "dict",data:=.dict #[] }).update a (λo=>{ o with dict:=ih s.aj })=h1;have w:h1.get? a=ih { cls:=.ref C,dict:=ih s.aj,data:=.fields #[.ref t,.none,.none,.none,.bool false,.none] }:=by
  rw[<-D];exact oR _ L rfl
 have M:∀b o,b≠a->s.heap.get? b=ih o->h1.get? b=ih o:=λb o j q=>by
  rw[<-D,j8 _ _ (aP j)];exact a8 _ q
 have S:h1.get? s.aj=ih { cls:=.type "dict",data:=.dict #[] }:=by
  rw[<-D,j8 _ _ l];exact b5 _ rfl
 have za:h1.Ns1 s.aj (λ_=>none):=Zr ⟨_,#[],_,S,rfl,(λe xb=>absurd xb (by simp)),λ_=>rfl⟩
 refine ae (ao (ae (wpAny_nsSet1 (s:={ s with heap:=h1,toks:=s.toks+1 }) za λh2 O F=>?_)));have yb:Yh (λ_=>none) ([]:am Gv):=λg G=>absurd rfl G;obtain⟨xf,yd,zd,T,U,V⟩:=O.count (Ux f u yb);refine ae (wpAny_lookBehind T (by rw[U];exact pastItsLine_dict (et V (by rw[cS,iF,aX];decide))) (ao ?_))
 refine h s.aj _ (I.uw fresh) (aP l) ?_;have Y:=I.uw fresh;have xd:∀b o,b≠a->s.heap.get? b=ih o->h2.get? b=ih o:=λb o j q=>(F.2 b (λz=>by rw[z,fresh]at q;cases q)).trans (M b o j q)
 have xe:h2.get? a=_:=(F.2 a l).trans w;have ye:upd H s.aj (e7 s.aj [(f,y)]) a=ih (cJ C none a):=by rw[ag l];exact e
 have zb:Inv X J σ (upd H a (cJ C (ih s.aj) a)) { s with heap:=h1,toks:=s.toks+1 }:=by
  refine I.write (x:=a) (e:=a) (by rw[e];exact Vm) (.inl rfl) (λb u j q=>M b u j q) ⟨_,w⟩ (tW w)
 have k:upd H a (cJ C (ih s.aj) a) s.aj=none:=by rw[ag (aP l)];exact Y
 have xc:upd (upd H s.aj (e7 s.aj [(f,y)])) a (cJ C (ih s.aj) a)=upd (upd H a (cJ C (ih s.aj) a)) s.aj (e7 s.aj [(f,y)]):=by
  funext b
  unfold upd
  by_cases h1:b=a
  ·subst h1;rw[ay rfl,aq l,ay rfl]
  ·rw[aq h1]
   by_cases h2:b=s.aj
   ·rw[ay h2,ay h2]
   ·rw[aq h2,aq h2,aq h1]
 rw[xc];have ze:upd H a (cJ C (ih s.aj) a) a=ih (cJ C (ih s.aj) a):=ah;have fp:fX X J (upd H a (cJ C (ih s.aj) a)) s.aj:=by
  have z:=I.i1 (H':=upd H a (cJ C (ih s.aj) a)) (aU _) k;exact z
 have i:Inv X J σ (upd H a (cJ C (ih s.aj) a)) { s with heap:=h2,toks:=s.toks+2 }:=
  Inv.turned (s:={ s with heap:=h1,toks:=s.toks+1 }) (h':=h2) zb (it:=s.aj) (t':=s.toks+2) (λb o j q=>(F.2 b j).trans q) fp.1 fp.2.1 fp.2.2.2.1 fp.2.2.2.2.1 fp.2.2.2.2.2
 refine⟨i.ok,i.os,i.bare,?_,i.loc,i.cell,?_,?_,?_,?_,i.len⟩
 ·have B:=i.base
  have yc:∀b o,X.d0.heap.get? b=ih o->b ∉ X.ex->b≠s.aj:=λb o q v z=>by
   obtain⟨o',P⟩:=I.base.there b o q v;rw[z,fresh]at P;cases P
  refine⟨B.keep,B.slot,λb o q n v=>by rw[ag (yc b o q v)];exact B.free b o q n v,B.there,λb xs q=>?_,λb o u q=>?_,λb ps q=>?_⟩
  ·have z:=B.gQ b xs q;rw[ag (aA z k)];exact z
  ·have z:=B.gR b o u q;rw[ag (aA z k)];exact z
  ·obtain⟨m,z⟩:=B.hG b ps q;exact⟨m,by rw[ag (aA z k)];exact z⟩
 ·rw[ag (aP fp.2.1)];exact i.free
 ·intro x c q;rw[ag (fp.2.2.2.2.1 x c q)];exact i.eO x c q
 ·intro p R
  obtain⟨zc,p2,p3,p4,p5⟩:=i.pin p R;exact⟨zc,by rw[ag (fp.2.2.2.2.2 p R)];exact p2,p3,p4,p5⟩
 ·intro b o q
  by_cases j:b=s.aj
  ·subst j
   rw[ah]at q;cases q;refine Lf (by simp) O (λg=>?_) (λg G=>?_)
   ·show d7 (Xx g [(f,y)]) (if g=f then ih u else none)
    rw[ef]
    by_cases q:g=f
    ·rw[ay q,df.mpr q];exact W
    ·rw[aq q,iz.mpr q];exact Vm
   ·by_cases q:g=f
    ·rw[q];simp
    ·exact absurd (aq q) G
  ·rw[ag j]at q
   exact(i.aJ b o q).e4 (λ_ _ _ z=>z) (λc z=>by rw[ag (aA z k)];exact z) λc xs z=>by rw[ag (aA z k)];exact z
end
end L2
namespace L2
open Spec PyProof.Rows W
mutual
inductive Rep(H:Hp):V->UH->Prop where
 |aO:Rep H .aO .none
 |bl (b:Bool):Rep H (.bl b) (.bool b)
 |int (i:Int):Rep H (.int i) (.int i)
 |str (x:Gv):Rep H (.str x) (.str x)
 |lst {a:Up}{xs:List V}{ds:List UH}:H a=ih (.lst xs)->bK H xs ds->Rep H (.ref a) (.list ds)
 |tup {a:Up}{xs:List V}{ds:List UH}:H a=ih (.tup xs)->bK H xs ds->Rep H (.ref a) (.tuple ds)
inductive bK(H:Hp):List V->List UH->Prop where
 |nil:bK H [] []
 |cons {x:V}{d:UH}{xs:List V}{ds:List UH}:Rep H x d->bK H xs ds->bK H (x::xs) (d::ds)
end
section
mutual
theorem Rep.reads(I:Inv X J σ H s):∀{v:V}{d:UH}{u:i'},Rep H v d->RelV v u ->∃f,Reads s.heap u d f
 |_,_,_,.aO,r=>by cases r;exact⟨_,.none⟩
 |_,_,_,.bl b,r=>by cases r;exact⟨_,.bool b⟩
 |_,_,_,.int i,r=>by obtain⟨t,rfl⟩:=r;exact⟨_,.int i t⟩
 |_,_,_,.str x,r=>by obtain⟨t,rfl⟩:=r;exact⟨_,.str x t⟩
 |_,_,_,.lst (a:=a) (xs:=xs) e rs,r=>by
  cases r
  obtain⟨_,its,n,g,c⟩:=(show bH X.prog X.w H s.heap a (.lst xs) from I.aJ a _ e);obtain⟨f,h⟩:=bK.reads I rs g;exact⟨_,.list c rfl rfl h⟩
 |_,_,_,.tup (a:=a) (xs:=xs) e rs,r=>by
  cases r
  obtain⟨_,its,g,l,c,j,n,k,_⟩:=(show bH X.prog X.w H s.heap a (.tup xs) from I.aJ a _ e);obtain⟨f,h⟩:=bK.reads I rs g;exact⟨_,.tuple c j k h⟩
theorem bK.reads(I:Inv X J σ H s):∀{vs:am V}{ds:am UH}{us:am i'},bK H vs ds->Vals vs us ->∃a,ReadsAll s.heap us ds a
 |_,_,_,.nil,r=>by cases r;exact⟨_,.nil⟩
 |_,_,_,.cons r rs,b=>by
  cases b with
  |cons q c =>
   obtain⟨a,h1⟩:=Rep.reads I r q;obtain⟨bs,h2⟩:=bK.reads I rs c;exact⟨_,.cons h1 h2⟩
end
mutual
theorem Rep.same:∀{v:V}{d:UH},Rep H v d->aB H H'->Rep H' v d
 |_,_,.aO,_=>.aO
 |_,_,.bl b,_=>.bl b
 |_,_,.int i,_=>.int i
 |_,_,.str x,_=>.str x
 |_,_,.lst e rs,k=>.lst (k _ _ e) (bK.same rs k)
 |_,_,.tup e rs,k=>.tup (k _ _ e) (bK.same rs k)
theorem bK.same:∀{vs:am V}{ds:am UH},bK H vs ds->aB H H'->bK H' vs ds
 |_,_,.nil,_=>.nil
 |_,_,.cons r rs,k=>.cons (Rep.same r k) (bK.same rs k)
end
end
def DY:R2:=λx y H Q=>∃da db,Rep H x da/\Rep H y db/\da.canLay0=true/\db.canLay0=true/\da.depth<=60/\Q (.bl (XA da db)) H
def DZ:R2:=λx y H Q=>∃da db,Rep H x da/\Rep H y db/\da.canLay0=true/\db.canLay0=true/\da.depth<=60/\Q (.bl (!XA da db)) H
theorem De(g:X.A.units+64<Ys):cg X (Xu .Eq) DY:=by
 rintro J s σ H x y v u Q I a b ⟨i,j,c,d,e,f,k,q⟩;obtain⟨l,h1⟩:=c.reads I a;obtain⟨bs,h2⟩:=d.reads I b;exact SeqAt.compareEq_reads h1 h2 e f (by omega) ⟨.bl _,H,I,rfl,q⟩
theorem nR(g:X.A.units+64<Ys):cg X (Xu .NotEq) DZ:=by
 rintro J s σ H x y v u Q I a b ⟨i,j,c,d,e,f,k,q⟩;obtain⟨l,h1⟩:=c.reads I a;obtain⟨bs,h2⟩:=d.reads I b;exact SeqAt.compareNe_reads h1 h2 e f (by omega) ⟨.bl _,H,I,rfl,q⟩
def OY(vO:Bool):R2:=λx y H Q=>∃d ds,Rep H x d/\(Rep H y (.list ds)\/Rep H y (.tuple ds))/\d.canLay0=true/\XI ds=true/\d.depth<=60 /\
 Q (.bl (if vO then !(ds.any λy=>XA y d) else ds.any λy=>XA y d)) H
theorem Df(g:X.A.units+64<Ys):cg X (Xu .In) (OY false):=by
 rintro J s σ H x y v u Q I e a ⟨d,ds,f,r2,b,c,i,q⟩;obtain⟨j,h1⟩:=f.reads I e;rcases r2 with r2|r2
 ·obtain⟨bs,h2⟩:=r2.reads I a
  exact SeqAt.in_list_reads h2 h1 c b (by omega) ⟨.bl _,H,I,rfl,q⟩
 ·obtain⟨bs,h2⟩:=r2.reads I a
  exact SeqAt.in_tuple_reads h2 h1 c b (by omega) ⟨.bl _,H,I,rfl,q⟩
def uQ(H:Hp)(x:V):Prop:=(∃z:Gv,x=.str z/\z.length<=100000)\/x=.aO \/∃a d,x=.ref a/\Rep H x d/\d.showable=true/\d.hasDict=false/\d.depth<=50/\d.shown.length<=100000
def OZ(te:TE):TE:=λσ H Q=>te σ H λx Y=>uQ Y x /\∀y:Gv,y.length<=100000->Q (.str y) Y
theorem Dg(p:X.A.units+64<Ys)(i:X.A.guards=ih [])(j:PE X e te):PE X (.FormattedValue e (-1) none pos) (OZ te):=by
 intro J s σ H Q I h;refine wpAny_FormattedValue_plain (aG (j J s σ H _ I h) λv s1 B=>?_);obtain⟨x,Y,b,c,f,q⟩:=B;rcases f with⟨z,rfl,g⟩|rfl|⟨a,d,rfl,l,m,n,w,o⟩
 ·obtain⟨t,rfl⟩:=c
  exact wpAny_formatField_str ⟨.str z,Y,b,⟨_,rfl⟩,q z g⟩ ⟨.str z,Y,b.tok _,⟨_,rfl⟩,q z g⟩ (by rw[aX];omega)
 ·cases c
  exact wpAny_formatField_none ⟨.str "None",Y,b.tok _,⟨_,rfl⟩,q _ (by decide)⟩
 ·obtain⟨y,r⟩:=l.reads b c
  cases c
  exact formatField_of_reads r m (λz=>by rw[n]at z;cases z) i (by omega) (λ_ _ z=>z) (λh' u tk k=>⟨.str d.shown,Y,b.kept k,⟨_,rfl⟩,q _ o⟩) (by rw[aX];omega)
def PJ(X:Cx)(vs:List Vc)(n:Nat)(t:St->Hp->(Hp->Prop)->Prop):Prop:=
 ∀J s σ H (cE:Gv) (Q:Hp->Prop),cE.length+n * 100000<=2000000->Inv X J σ H s->t σ H Q ->
  Joins X.c' X.A X.xe (evalEach vs X.env) cE (λout s1=>out.length<=2000000 /\∃Y,Inv X J σ Y s1/\Q Y) s
def MA(te:TE)(tr:St->Hp->(Hp->Prop)->Prop):St->Hp->(Hp->Prop)->Prop:=λσ H Q=>te σ H λx Y=>(∃y:Gv,x=.str y/\y.length<=100000)/\tr σ Y Q
def MB:St->Hp->(Hp->Prop)->Prop:=λ_ H Q=>Q H
theorem Dh:PJ X [] 0 MB:=λJ s σ H a Q b I h=>⟨by omega,H,I,h⟩
theorem p8{v:Vc}{vs:am Vc}{n:Nat}{tr:St->Hp->(Hp->Prop)->Prop}(hv:PE X v te)(c:PJ X vs n tr):PJ X (v::vs) (n+1) (MA te tr):=by
 intro J s σ H a Q g I h;refine aG (hv J s σ H _ I h) λu s1 ⟨x,Y,d,f,⟨y,e,i⟩,q⟩=>?_;subst e;obtain⟨t,rfl⟩:=f;have b:(a++y).length=a.length+y.length:=strLen_append ..;exact⟨y,t,rfl,by rw[b,aX];omega,c J s1 σ Y (a++y) Q (by rw[b];omega) d q⟩
def Nj(tr:St->Hp->(Hp->Prop)->Prop):TE:=λσ H Q=>tr σ H λY=>∀y:Gv,y.length<=2000000->Q (.str y) Y
theorem CC{f g:Vc}{rest:am Vc}{n:Nat}{tr:St->Hp->(Hp->Prop)->Prop}(i:PJ X (f::g::rest) n tr)(r:n<=20:=by decide):PE X (.JoinedStr (f::g::rest) pos) (Nj tr):=by
 intro J s σ H Q I h;have z:=i J s σ H Zj _ (by have:Zj.length=0:=rfl;omega) I h
 refine wpAny_JoinedStr ?_;have mono:∀(l:am (YK i')) (c:Gv) (P b:Gv->Ur->Prop) (s:Ur),(∀o s,P o s->b o s)->Joins X.c' X.A X.xe l c P s->Joins X.c' X.A X.xe l c b s:=by
  intro l
  induction l with
  |nil=>intro c P b s k q;exact k _ _ q
  |cons a l j=>intro c P b s k q;exact aG q λv s1 ⟨y,t,e,d,m⟩=>⟨y,t,e,d,j _ P b s1 k m⟩
 refine mono _ _ _ _ _ ?_ z;rintro o s1 ⟨d,Y,p,q⟩;exact⟨by rw[aX];omega,.str o,Y,p.tok _,⟨_,rfl⟩,q o d⟩
end L2
namespace L2
open Spec PyProof.Rows W
section
variable{CX:gz}{k:Nat}{E:XK}{p:Zx}{t:TA}
theorem JU(q:fU X.K C (ih (.ref fI))=true)(l:isFn X.K (.ref fI)=true)(F:aT X.prog X.w X.K X.mg X.base CX k fI fd ps sp)(m:a' (k+1) X.A)(n:Binds X.K fd ps [])(o:Passes CX X E)(I:Inv X J σ H s)(r:Vals vs us)(a5:us.length<=100)
  (h:∀e,H e=none->sp (.ref e::vs) (upd H e (cJ C none e)) (λv H2=>v=.aO/\Q (.ref e) H2) E):wA X (call (.ref C) us) (EP X J σ Q) X.xe s:=by
 obtain⟨⟨up,N,O,qn,bs,P,R,S,U,M,od,W,Y,xa,ya,za,mN,i,ns,p,T⟩⟩:=pz I.bQ q;obtain⟨oI,lk,oc⟩:=gi.mp (show(X.K.lookup fI).map (·.cls)=ih (.type "function") from df.mp l);have h1:=h (s.heap.objs.size+1) (I.aJ.fresh (gg _));have bQ:=I.bQ;have b:Inv X J σ (upd H (s.heap.objs.size+1) (cJ C none (s.heap.objs.size+1))) { s with heap:=ib s.heap C us }:=I.put (λ_ _ z=>m2 z) (wk (gg _)) (tW A8);have e0:=b.qQ.make C us [];have j:=m.make C us [];have f:Vals (V.ref (s.heap.objs.size+1)::vs) (UN (s.heap.objs.size+1)::us):=.cons rfl r;have t:(UN (s.heap.objs.size+1)::us).length=ps.length:=by rw[<-f.length];exact F.len _ _ _ _ h1
 have c:=n { s with heap:=ib s.heap C us } (UN (s.heap.objs.size+1)::us) b.bQ (by rw[ee];exact t)
 rw[ee]at c;have run:=F.run _ X.stack _ _ ⟨UN (s.heap.objs.size+1)::us,[]⟩ (UN (s.heap.objs.size+1)::us) _ _ E j e0 c f h1;obtain⟨x,g,d,tk,os⟩:=s;refine Ha UQ T i ns p (bQ _ _ lk) oc (by rw[aX];omega) (j5 (lz run λr s' a=>?_))
 cases r with
 |error e=>exact o J σ _ _ e s' b a
 |ok y =>
  cases y with
  |ret u =>
   obtain⟨v,H',B,D,G,L⟩:=b.after a;subst G;exact⟨D,.ref (x.objs.size+1),H',B,rfl,L⟩
  |next=>exact U6 a
  |brk=>exact U6 a
  |cont=>exact U6 a
def Nk(C:Up)(sp:Sp)(E:XK)(t:TA):TE:=λσ H Q=>t σ H λvs Y=>vs.length<=100 /\∀e,Y e=none->sp (.ref e::vs) (upd Y e (cJ C none e)) (λv H2=>v=.aO/\Q (.ref e) H2) E
theorem CD(q:fU X.K C (ih (.ref fI))=true)(d:isFn X.K (.ref fI)=true)(kp:Yb X.K (.ref C)=true)(F:aT X.prog X.w X.K X.mg X.base CX k fI fd ps sp)(f:a' (k+1) X.A)(g:Binds X.K fd ps [])(i:Passes CX X E)
  (j:Gl X x) (l:X.mg x=ih (.ref C)) (m:PA X (e::es) t) (b:(x==("__debug__" : Gv))=false:=by decide)
  (n:US (e::es) X.env=(false,eval e X.env)::US es X.env:=by rfl) (c:(backTo pos (US es X.env)).any (·.1)=false:=by rfl):PE X (.Call (.Name x p) (e::es) [] pos) (Nk C sp E t):=by
 intro J s σ H Q I h;refine oP (l3 I j l ?_ b);refine callWith_K (h₀:=X.base) I.ok.mod.lb kp (aG (m pos J s σ H _ I h) λus s1 ⟨vs,Y,a,r,a5,o⟩=>⟨a.bQ,?_⟩) n c;exact JU q d F f g i a r (by show us.length<=100;rw[<-r.length];exact a5) o
structure nS(K:X2)(B:Up):Prop where
 rd:readsIn K B (.type "type")=true
 ga:specialIn K (.ref B) "__getattribute__" = ih (ih (.builtin "type.__getattribute__"))
 fi:findCls K (.ref B) (.type "type") "__init__" = ih (.val (.builtin "ValueError.__init__"))
theorem Hm{i:a2 i'}(c:eH X.K C)(q:fU X.K C i=true)(I:Inv X J σ H s)(e:H a=ih (cJ C dx a))(h:Q .aO H) :
  wA X (call (.builtin "ValueError.__init__") [.ref a,u]) (EP X J σ Q) X.xe s:=by
 obtain⟨t,l⟩:=I.excAt e;obtain⟨⟨up,N,w,qn,bs,y,A,B,D,v,od,E,G,L,M,O,mN,n,ns,P,T⟩⟩:=pz I.bQ q;have FI:=UQ;obtain⟨f,g,d,tk,os⟩:=s;refine j5 (wC FI.init.plain FI.initEntry (wpAny_check_init_subT (rest:=[u]) FI T n l rfl ?_));have p:(f.push { cls:=.type "tuple",data:=.seq #[u] }).get? a=ih { cls:=.ref C,dict:=dx,data:=.fields #[.ref t,.none,.none,.none,.bool false,.none] }:=a8 _ l;have m:((f.push { cls:=.type "tuple",data:=.seq #[u] }).update a (Zf λz=>z.setIfInBounds 0 (.ref f.objs.size))).get? a=ih { cls:=.ref C,dict:=dx,data:=.fields #[.ref f.objs.size,.none,.none,.none,.bool false,.none] }:=oR _ p rfl;have r:∀k,EP X J σ Q .none ⟨(f.push { cls:=.type "tuple",data:=.seq #[u] }).update a (Zf λz=>z.setIfInBounds 0 (.ref f.objs.size)),g,d,k,os⟩:=λk=>by
  refine⟨.aO,upd H a (cJ C dx a),?_,rfl,?_⟩
  ·exact Inv.write (s:=⟨f,g,d,tk,os⟩) I (x:=a) (e:=a) (t':=k) (by rw[e];exact Vm) (.inl rfl) (λb o j z=>by rw[j8 _ _ (aP j)];exact a8 _ z) ⟨_,m⟩ (tW m)
  ·have:upd H a (cJ C dx a)=H:=by
    funext b;unfold upd
    by_cases j:b=a
    ·rw[ay j,j,e]
    ·rw[aq j]
   rw[this];exact h
 wp_walk
 exact r _
def I2(X:Cx)(t:TA):TE:=λσ H Q=>t σ H λvs Y=>∃a C dx y i,vs=[.ref a,y]/\Y a=ih (cJ C dx a)/\eH X.K C/\fU X.K C i=true/\Q .aO Y
theorem Ar{pl:YK Bool}(b:nS X.K B)(k:Gl X x)(l:X.mg x=ih (.ref B))(m:PA X (e::es) t)(g:(x==("__debug__" : Gv))=false:=by decide)
  (n:US (e::es) X.env=(false,eval e X.env)::US es X.env:=by rfl) (j:(backTo pos (US es X.env)).any (·.1)=false:=by rfl)
  (o:eval (.Call (.Attribute (.Name x p) "__init__" Qh) (e::es) [] pos) X.env=(do
   let d <- eval (.Name x p) X.env
   standAt Qh.atName
   let (f,first) <- holding [d] (getMethod d "__init__" pl)
   callWith pos f first (backTo pos (US (e::es) X.env)) (backToKw pos (keywordEach [] X.env))):=by rfl) :
  PE X (.Call (.Attribute (.Name x p) "__init__" Qh) (e::es) [] pos) (I2 X t):=by
 intro J s σ H Q I h;refine methodCall_KW (pl:=pl) (l3 I k l ?_ g) o;refine method_cls I.bQ b.ga (cls_value I.bQ b.rd b.fi rfl ?_);refine UG (aG (m pos J { s with toks:=s.toks+1 } σ H _ (I.tok _) h) λus s1 G=>?_) n j;obtain⟨vs,Y,r,u,v⟩:=G;obtain⟨a,C,dx,y,i,rfl,w,c,z,q⟩:=v;obtain⟨D,E,rfl,A,F⟩:=u.two;cases A
 exact Hm c z r w q
end
section
variable{o:Vc}{f:Gv}
def Nl(X:Cx)(ta tv:TE)(f:Gv):TS:=λD σ H=>tv σ H λy Y=>ta σ Y λx H2=>∃a C,x=.ref a/\H2 a=ih (cJ C none a)/\eH X.K C/\XN X.K (.ref C) f=ih none /\
 ∀d,H2 d=none->d≠a->D.nx σ (upd (upd H2 d (e7 d [(f,y)])) a (cJ C (ih d) a))
theorem CF(b:PE X o ta)(hv:PE X value tv)(e:swapsWith value (ih (.Attribute o f Qf)) pos.line X.env=pure false:=by rfl):PS X (.Assign [.Attribute o f Qf] value pos) (Nl X ta tv f):=by
 intro J s σ H D I h;refine Uy (aG (hv J s σ H _ I h) λu s1 ⟨y,Y,g,i,q⟩=>aG (b J s1 σ Y _ g q) λj s2 v=>?_) e;obtain⟨x,H2,k,l,a,C,ex,m,c,n,p⟩:=v;subst ex;obtain rfl:j=UN a:=l;exact Ij k m c n i λd t h1 h2 r=>⟨σ,_,r,p d h1 h2⟩
def D0(K:X2):List V->Hp->VK->Prop:=λxs H Q=>∃x c t cv b,xs=[x,c]/\RelV c cv/\(gv K H x t \/∃a C dx,x=.ref a/\t=.ref C/\H a=ih (cJ C dx a)/\eH K C/\(∀d,dx=ih d ->∃fs,H d=ih (e7 d fs)))/\kitOne K t cv=ih b/\Q (.bl b) H
theorem pH:c2 X (.builtin "isinstance") (λxs H Q=>(∃x,(∃C,xs=[x,.ref C])\/(∃T,xs=[x,.ty T]))/\D0 X.K xs H Q):=by
 rintro J s σ H xs us Q I r ⟨o,x,c,t,p,b,rfl,j,ty,e,q⟩;obtain⟨u,v,rfl,k,g⟩:=r.two;have l:v=p:=by
  obtain⟨B,⟨C,z⟩|⟨T,z⟩⟩:=o
  ·cases z;cases j;cases g;rfl
  ·cases z;cases j;cases g;rfl
 subst l;rcases ty with ty|⟨a,C,dx,rfl,rfl,w,c,y⟩
 ·exact IU I k ty e λtk=>⟨.bl b,H,I.tok _,rfl,q⟩
 ·cases k
  obtain⟨t,i⟩:=I.excAt w;cases dx with
  |none =>
   have f:InstAt s.heap a _ C none:=⟨i,rfl,rfl,Vm⟩;exact kia_one (BN c) I.bQ f e (λz=>nomatch z) λtk=>⟨.bl b,H,I.tok _,rfl,q⟩
  |some d =>
   obtain⟨fs,A⟩:=y d rfl;obtain⟨_,mA,n,_⟩:=I.tX A;obtain⟨od,m,_⟩:=pq n;have f:InstAt s.heap a _ C (ih od):=⟨i,rfl,rfl,m⟩;exact kia_one (BN c) I.bQ f e (λz=>nomatch z) λtk=>⟨.bl b,H,I.tok _,rfl,q⟩
end
def oE(K:X2)(l:Up):It:=
 ⟨λi H=>∃xs x,au K H l xs/\xs[i]?=ih x,λi H x H'=>∃t v,H t=none/\x=.ref t/\(∀xs,au K H l xs->xs[i]?=ih v)/\H'=upd H t (.tup [.int i,v]),λi H=>∃xs,au K H l xs/\xs.length<=i⟩
theorem I3(l e it:Up)(R:e≠it) :
  Turn P w K (.Tuple Qu n1 tp) (oE K l) [e,it] e (λi h=>(∃f,IsEnum h e it i f)/\h.IsListIter it l i) where
 mem:=by simp
 obj:=λi h st b a=>by
  obtain⟨⟨f,h1⟩,h2⟩:=st;rcases bj.mp a with z|z
  ·subst z;exact⟨_,h1,λv q=>by cases q⟩
  ·have A:b=it:=by simpa using z
   subst A;obtain⟨o,q,_,d⟩:=h2;exact⟨o,q,λv z=>by rw[d]at z;cases z⟩
 keep:=λi h h' st k=>by
  obtain⟨⟨f,h1⟩,h2⟩:=st;exact⟨⟨f,k e (by simp) _ h1⟩,h2.at λo q=>k it (by simp) o q⟩
 item:=by
  intro X F G L hc i J s σ H E I B st M;subst F G L;obtain⟨xs,x,C,N⟩:=M;obtain⟨its,O,p,T⟩:=I.list C;obtain⟨u,U,V⟩:=O.get N;obtain⟨⟨f,h1⟩,h2⟩:=st;have j:=B e (by simp)
  have fi:=B it (by simp)
  refine wpAny_pyNext_enum_item h1 h2 p.isList (x:=u) (by simpa using U) R λh' e1 W Y z1 xa=>⟨_,rfl,?_⟩
  refine wpAny_letOwnedTupleGo_enum (s:={ s with heap:=h',toks:=s.toks+1 }) e1 λD e2 Q=>?_;have S:e≠s.heap.objs.size:=bI (bt h1);have t:∀b o,b≠e->b≠it->s.heap.get? b=ih o->D.get? b=ih o:=λb o n1 ya q=>(Q.2 b n1).trans (xa b o n1 ya q);have za:D.get? s.heap.objs.size=ih { cls:=.type "tuple",data:=.seq #[.int i s.toks,u] }:=(Q.2 _ (aP S)).trans Y;have y:H s.heap.objs.size=none:=I.aJ.fresh (aU _);have lt:∀b o,s.heap.get? b=ih o->b≠s.heap.objs.size:=λb o q=>bI (bt q);have gU:∀b o,H b=ih o->b≠e/\b≠it:=λb o q=>⟨(λz=>by rw[z,j.1]at q;cases q),(λz=>by rw[z,fi.1]at q;cases q)⟩
  have g:∀b,b ∉ [e,it]->b≠e/\b≠it:=λb a=>⟨λz=>a (by simp[z]),λz=>a (by simp[z])⟩
  have xb:Inv X J σ (upd H s.heap.objs.size (.tup [.int i,x])) { s with heap:=D,toks:=s.toks+1 }:=by
   refine I.step (g':=s.gens) (d':=s.drawn) (t':=s.toks+1) (ch:=[e,it]) (λb a=>?_) (λb o _ _ hc q _=>t b o (g b hc).1 (g b hc).2 q) (λb o _ _ hc q _=>⟨o.slots,t b o (g b hc).1 (g b hc).2 q⟩)
    (λb o _ q n=>by rw[ag (lt b o q)];exact n) (λb o hc q=>⟨o,t b o (g b hc).1 (g b hc).2 q⟩) (λb ys q=>by rw[ag (aA q y)];exact q) (λb o v q=>by rw[ag (aA q y)];exact q)
    (λb ps q=>⟨#[],by rw[ag (aA q y),q];simp⟩) (λm yb=>?_) (λb o q=>?_) I.bare
   ·rcases bj.mp a with z|z
    ·subst z;exact⟨j.2.2.2.1,j.2.1,j.2.2.2.2.1,j.2.2.2.2.2⟩
    ·have A:b=it:=by simpa using z
     subst A;exact⟨fi.2.2.2.1,fi.2.1,fi.2.2.2.2.1,fi.2.2.2.2.2⟩
   ·obtain⟨o,es,ep,zb,r⟩:=yb
    exact⟨o,es,ep,t _ o (aP j.2.1) (aP fi.2.1) zb,r⟩
   ·by_cases a:b=s.heap.objs.size
    ·subst a
     rw[ah]at q;cases q;exact⟨by rw[aX];show 2<=_;decide,[.int i s.toks,u],.cons ⟨_,rfl⟩ (.cons V .nil),_,za,rfl,_,rfl,rfl⟩
    ·rw[ag a]at q
     refine(I.aJ b o q).e4 (λc v hc z=>?_) (λc z=>by rw[ag (aA z y)];exact z) λc ys z=>by rw[ag (aA z y)];exact z
     rcases hc with hc|hc
     ·subst hc;exact t _ v (gU _ _ q).1 (gU _ _ q).2 z
     ·exact t c v (gU _ _ hc).1 (gU _ _ hc).2 z
  refine⟨.ref s.heap.objs.size,_,xb,rfl,⟨s.heap.objs.size,x,y,rfl,λys xc=>by rw[I.BI xc C];exact N,rfl⟩,⟨⟨u,e2⟩,?_⟩,λb a=>?_⟩
  ·exact W.extBut Q.extBut (aP R)
  ·have:b≠s.heap.objs.size:=by
    rcases bj.mp a with z|z
    ·rw[z];exact S
    ·have A:b=it:=by simpa using z
     obtain⟨o,q,_⟩:=h2;rw[A];exact lt _ _ q
   rw[ag this];exact(B b a).1
 done:=by
  intro X F G L hc i J s σ H E I B st M;subst F G L;obtain⟨xs,C,N⟩:=M;obtain⟨its,O,p,T⟩:=I.list C;obtain⟨⟨f,h1⟩,h2⟩:=st;have fi:=B it (by simp)
  have zc:=O.length;exact wpAny_pyNext_enum_end (I.ok.hd hc) h1 h2 p.isList (by simp;omega) λh' yc=>⟨rfl,I.turned (t':=s.toks) (λb o a q=>yc b o a q) fi.1 fi.2.1 fi.2.2.2.1 fi.2.2.2.2.1 fi.2.2.2.2.2⟩
 self:=λ_ _ _ _ _ st h=>let ⟨⟨_,h1⟩,_⟩:=st;wpAny_pyIter_enum h1 h
def Nn(K:X2)(ta:TA):TI:=λσ H R=>ta σ H λvs Y=>∃a,vs=[.ref a]/\(∃xs,au K Y a xs)/\R (oE K a) Y
theorem Lg{a:Vc}{ta:TA}{p:Zx}(d:Gl X "enumerate")(f:X.mg "enumerate" = none)(g:PA X [a] ta)(i:US [a] X.env=[(false,eval a X.env)]:=by rfl) :
  PI X (.Tuple Qu n1 tp) (.Call (.Name "enumerate" p) [a] [] pos) (Nn X.K ta):=by
 intro J s σ H R I h;refine Call_ (nN I d f (show Vu "enumerate" = ih (.type "enumerate") by decide +kernel) (FX (aG (g pos J s σ H _ I h) λus s1 C=>?_) i rfl));obtain⟨vs,Y,c,j,k⟩:=C
 obtain⟨l,e,⟨xs,m⟩,q⟩:=k;subst e;obtain⟨u,rfl,n⟩:=j.one;cases n
 obtain⟨its,y,o,A⟩:=c.list m;refine call_enumerate_list o.isList λh' e1 r B t=>?_;have v:Inv X J σ Y { s1 with heap:=h' }:=c.kept (t':=s1.toks) t;refine wpAny_pyIter_enum (s:={ s1 with heap:=h' }) e1 ?_;refine⟨s1.aj+1,[s1.aj+1,s1.aj],_,_,Y,rfl,v,I3 l (s1.aj+1) s1.aj (Nat.succ_ne_self _),⟨⟨.none,e1⟩,r⟩,λb w=>?_,q⟩;rcases bj.mp w with z|z
 ·subst z;exact c.i1 (gg _) (c.aJ.fresh (gg _))
 ·have x:b=s1.aj:=by simpa using z
  subst x;exact c.i1 (aU _) (c.aJ.fresh (aU _))
theorem pf:∀{ys:am Gv}{us:am i'},Vals (ys.map V.str) us->XY us ys:=by
 intro ys
 induction ys with
 |nil=>intro us r;cases r;exact .nil
 |cons y ys a =>
  intro us r;cases r with
  |cons q b =>
   obtain⟨t,rfl⟩:=q;exact .cons _ _ (a b)
def rJoin(K:X2):V->List V->Hp->VK->Prop:=λx vs H Q=>∃(z:Gv) (p:Up) (ys:List Gv),x=.str z/\vs=[.ref p]/\(au K H p (ys.map V.str)\/aZ K H p (ys.map V.str))/\(ys.map (·.length)).sum+ys.length * z.length<=1000000/\Q (.str (aab z ys)) H
theorem Lh:vN X "str.join" (rJoin X.K):=by
 rintro J s σ H x xs v us Q I b c ⟨z,p,ys,rfl,rfl,hp,e,q⟩;obtain⟨t,rfl⟩:=b;obtain⟨u,rfl,d⟩:=c.one;cases d
 rcases hp with hp|hp
 ·obtain⟨its,r,a,_⟩:=I.list hp
  exact join_list a.isList (by simpa using pf r) (by omega) λt' k=>⟨.str _,H,I.tok _,⟨_,rfl⟩,q⟩
 ·obtain⟨its,r,a,_⟩:=I.tuple hp
  exact join_tuple a (by simpa using pf r) (by omega) λt' k=>⟨.str _,H,I.tok _,⟨_,rfl⟩,q⟩
def O0:V->Option Int->Option Int->Hp->VK->Prop:=λx lo hi H Q=>∃z:Gv,x=.str z/\z.length<=1000000/\Q (.str (XE z lo hi)) H
theorem MC:mJ X O0:=by
 rintro J s σ H x v vl vu lo hi sl Q I e a f d ⟨z,rfl,g,q⟩;obtain⟨t,rfl⟩:=e;have b:(XE z lo hi).length<=Us:=et (Txt.slice_le z _ _) (by rw[aX];omega)
 refine⟨"str",_,PySem.F.slot_str_getitem.lookup,typeIs_str _ _ _,?_⟩;cases f with
 |none =>
  cases d with
  |none=>exact wG (l:=none) (u:=none) (st:=none) a rfl (wH ⟨b,λt' k=>⟨.str _,H,I.tok _,⟨_,rfl⟩,q⟩⟩)
  |int j c=>exact wG (l:=none) (u:=ih (j,c)) (st:=none) a rfl (wH ⟨b,λt' k=>⟨.str _,H,I.tok _,⟨_,rfl⟩,q⟩⟩)
 |int i ti =>
  cases d with
  |none=>exact wG (l:=ih (i,ti)) (u:=none) (st:=none) a rfl (wH ⟨b,λt' k=>⟨.str _,H,I.tok _,⟨_,rfl⟩,q⟩⟩)
  |int j c=>exact wG (l:=ih (i,ti)) (u:=ih (j,c)) (st:=none) a rfl (wH ⟨b,λt' k=>⟨.str _,H,I.tok _,⟨_,rfl⟩,q⟩⟩)
def CW(Pv:Nat->List V->St->Hp->Prop)(n i m:Nat)(ys:List V)(τ:St)(H:Hp):Prop:=m=n - i/\i<=n/\Pv i ys τ H
theorem cw_next{Pv:Nat->List V->St->Hp->Prop}{n:Nat}{ys:am V}{a:St}(h:i<n)(p:Pv (i+1) ys a H):∃b,b<n - i/\CW Pv n (i+1) b ys a H:=⟨n - (i+1),by omega,rfl,h,p⟩
theorem sH{n:Nat}{g:TG}(Pv:Nat->List V->St->Hp->Prop)(h0:Pv 0 [] eR (upd Y p (.lst [])))(k:∀i ys a H,Pv i ys a H->H p=ce ys)
  (l:∀i ys a H,i<n->Pv i ys a H->g (.int (lo+i)) a H λd o=>ti d o λb h=>if b=true then te d h λy j=>j p=ce ys/\ys.length<Us /\∃c,c<n - i/\CW Pv n (i+1) c (ys++[y]) d (upd j p (.lst (ys++[y]))) else ∃c,c<n - i/\CW Pv n (i+1) c ys d h)
  (q:∀ys a H,Pv n ys a H->Q (.ref p) H):hE (lp lo n) g ti te eR Q p Y:=by
 refine⟨CW Pv n,⟨n,by simp,bx _,h0⟩,?_⟩
 rintro i m ys a H ⟨rfl,hi,pv⟩;refine⟨k i ys a H pv,?_⟩
 by_cases f:i<n
 ·refine .inr ⟨f,λx s r=>?_⟩
  obtain⟨e3,ex⟩:=r;subst e3 ex;exact l i ys a _ f pv
 ·have e:i=n:=by omega
  subst e;exact .inl ⟨aU _,q ys a H pv⟩
theorem eW{g:TG}(Pv:Nat->List V->St->Hp->Prop)(h0:Pv 0 [] eR (upd Y p (.lst [])))(n:∀i ys c H,Pv i ys c H->H p=ce ys/\au K H a xs)
  (o:∀i x ys c H,xs[i]?=ih x->Pv i ys c H->g x c H λf q=>ti f q λb j=>if b=true then te f j λy k=>k p=ce ys/\ys.length<Us /\∃d,d<xs.length - i/\CW Pv xs.length (i+1) d (ys++[y]) f (upd k p (.lst (ys++[y]))) else ∃d,d<xs.length - i/\CW Pv xs.length (i+1) d ys f j)
  (r:∀ys c H,Pv xs.length ys c H->Q (.ref p) H):hE (jU K a) g ti te eR Q p Y:=by
 refine⟨CW Pv xs.length,⟨xs.length,by simp,bx _,h0⟩,?_⟩
 rintro i m ys c H ⟨rfl,hi,pv⟩;obtain⟨s,h⟩:=n i ys c H pv;refine⟨s,?_⟩
 by_cases l:i<xs.length
 ·refine .inr ⟨⟨xs,xs[i],h,by simp[l]⟩,λx u t=>?_⟩
  obtain⟨e3,ex⟩:=t;subst e3;exact o i x ys c _ (ex xs h) pv
 ·have e:i=xs.length:=by omega
  subst e;exact .inl ⟨⟨xs,h,aU _⟩,r ys c H pv⟩
theorem lW{g:TG}(Pv:Nat->List V->St->Hp->Prop)(h0:Pv 0 [] eR (upd Y p (.lst [])))(n:∀i ys c H,Pv i ys c H->H p=ce ys/\aZ K H a xs)
  (o:∀i x ys c H,xs[i]?=ih x->Pv i ys c H->g x c H λf q=>ti f q λb j=>if b=true then te f j λy k=>k p=ce ys/\ys.length<Us /\∃d,d<xs.length - i/\CW Pv xs.length (i+1) d (ys++[y]) f (upd k p (.lst (ys++[y]))) else ∃d,d<xs.length - i/\CW Pv xs.length (i+1) d ys f j)
  (r:∀ys c H,Pv xs.length ys c H->Q (.ref p) H):hE (jb K a) g ti te eR Q p Y:=by
 refine⟨CW Pv xs.length,⟨xs.length,by simp,bx _,h0⟩,?_⟩
 rintro i m ys c H ⟨rfl,hi,pv⟩;obtain⟨s,h⟩:=n i ys c H pv;refine⟨s,?_⟩
 by_cases l:i<xs.length
 ·refine .inr ⟨⟨xs,xs[i],h,by simp[l]⟩,λx u t=>?_⟩
  obtain⟨e3,ex⟩:=t;subst e3;exact o i x ys c _ (ex xs h) pv
 ·have e:i=xs.length:=by omega
  subst e;exact .inl ⟨⟨xs,h,aU _⟩,r ys c H pv⟩
def vn(N N':List Gv)(Qd:List (Option Nat))(sc:Yy):Bool:=(Xs Qd.length).all λj=>match Qd[j]? with
 |some (ih i)=>(match N[i]? with|some x=>N'[j]? == ih x&&sc.names.lookup x==ih .free|none=>false)
 |_=>true
theorem Dx(h:vn N N' Qd sc=true)(j i:Nat)(e:Qd[j]?=ih (ih i)):∃x,N[i]?=ih x/\N'[j]?=ih x/\sc.names.lookup x=ih .free:=by
 have a:j<Qd.length:=(bR.mp e).1;have z:=mV.mp h j (je.mpr a);rw[e]at z
 dsimp only at z
 split at z
 ·rename_i x q
  obtain⟨b,c⟩:=mU.mp z;exact⟨x,q,df.mp b,df.mp c⟩
 ·cases z
structure Nm(x:Gv):Prop where
 lo:1<=x.length
 hi:x.length<=8
 az:∀c∈x.cps.toList,97<=c/\c<=122
def sign(c:Nat):Gv:=⟨#[c]⟩
theorem AB:∀(cs:am Nat) (a:Array Nat),(cs.map sign).foldl (λa p=>a++("" : Gv).cps++p.cps) a=a++cs.toArray
 |[],a=>by simp
 |c::cs,a=>by
  rw[bU,List.foldl_cons,AB cs];have e:("" : Gv).cps = #[]:=rfl;rw[e]
  apply wI.mp
  simp[sign]
theorem Ik(cs:am Nat):aab ("" : Gv) (cs.map sign)=⟨cs.toArray⟩:=by
 unfold aab abq;cases cs with
 |nil=>rfl
 |cons c cs =>
  rw[bU];show(⟨(cs.map sign).foldl _ (sign c).cps⟩:Gv)=_;rw[AB]
  apply c6 Str.mk
  apply wI.mp
  simp[sign]
theorem Il{z:Gv}{c:Nat}(h:c∈(XE z none (ih 6)).cps.toList):c∈z.cps.toList:=by
 unfold XE at h;split at h
 ·exact h
 ·simp only[oM]at h
  obtain⟨i,_,e⟩:=h;obtain⟨_,e2⟩:=wJ.mp e;rw[<-e2];simp
theorem AD(z:Gv):(XE z none (ih 6)).length<=6:=by
 have hi:(Yn none (ih 6) 1 z.length).length<=6:=by
  unfold Yn sliceRange;simp only[show(1:Int)>0 by decide,gZ,aE,Gi]
  split <;> (try split) <;> omega
 unfold XE;split
 ·rename_i h
  have e:(Yn none (ih 6) 1 z.length).length=z.length:=by simpa using h
  omega
 ·show(List.filterMap _ _).toArray.size<=6
  rw[bW];exact et (List.length_filterMap_le _ _) hi
theorem nT(a b:Gv):(a++b).cps=a.cps++b.cps:=rfl
theorem Li{z:Gv}{c:Nat}(hz:∀c∈z.cps.toList,97<=c/\c<=122)(g:97<=c/\c<=122):Nm (XE z none (ih 6)++sign c++("q" : Gv)):=by
 have a:("q" : Gv).cps = #[113]:=by decide +kernel
 have i:=AD z;have e:(XE z none (ih 6)++sign c++("q" : Gv)).length=(XE z none (ih 6)).length+2:=by
  show(_:Array Nat).size=_;rw[nT,nT,a];show(_ ++ #[c] ++ #[113]).size=_;rw[r6,r6];rfl
 refine⟨by omega,by omega,λd b=>?_⟩
 rw[nT,nT,a]at b;have f:d∈(XE z none (ih 6)).cps.toList\/d=c\/d=113:=by
  have:d∈((XE z none (ih 6)).cps ++ #[c] ++ #[113]).toList:=b;simp at this;rcases this with h|h|h
  ·exact .inl (by simpa using h)
  ·exact .inr (.inl h)
  ·exact .inr (.inr h)
 rcases f with h|h|h
 ·exact hz d (Il h)
 ·rw[h];exact g
 ·rw[h];omega
theorem JV{p:Gv}{c d:Nat}(h:p++sign c++("q" : Gv)=p++sign d++("q" : Gv)):c=d:=by
 have h1:=c6 (λs:Gv=>s.cps.toList) h;simp only[nT]at h1;have h2:p.cps.toList++([c]++("q" : Gv).cps.toList)=p.cps.toList++([d]++("q" : Gv).cps.toList):=by
  simpa [sign,Array.toList_append] using h1
 have a:=List.append_cancel_left h2
 simpa using a
theorem ux:∀{ys found:am Gv},ys.Nodup->found.length<ys.length ->∃y∈ys,y ∉ found
 |[],found,_,h=>by simp at h
 |y::ys,found,c,h=>by
  obtain⟨n1,d⟩:=dM.mp c
  by_cases a:y∈found
  ·have f:=Gj a
   have i:=Gk a;obtain⟨z,b,g⟩:=ux (found:=found.erase y) d (by rw[f];rw[cS]at h;omega)
   refine⟨z,a7 _ b,λq=>g ?_⟩;have ne:z≠y:=λe=>n1 (by rw[<-e];exact b)
   exact(Gm ne).mpr q
  ·exact⟨y,aV,a⟩
theorem CG(K:X2)(h:X.K=K):cg X (Xu .In) (oD K false):=by subst h;exact kr
theorem Im(K:X2)(h:X.K=K):cg X (Xu .NotIn) (oD K true):=by subst h;exact Hk
theorem sZ(K:X2)(h:X.K=K):mK X (qR K):=by subst h;exact ck
theorem jw(K:X2)(h:X.K=K):mK X (mD K):=by subst h;exact bD
theorem A'{l:Vc}(K:X2)(h:X.K=K)(a:PE X l tl):PI X tg l (Dt K tl):=by subst h;exact dt a
theorem BO{l:Vc}(K:X2)(h:X.K=K)(a:PE X l tl):PI X tg l (DQ K tl):=by subst h;exact kH a
theorem sI(K:X2)(h:X.K=K):c2 X (.builtin "len") (λxs H Q=>∃p ys,xs=[.ref p]/\(au K H p ys\/aZ K H p ys)/\Q (.int ys.length) H):=by subst h;exact h7
theorem Io(K:X2)(h:X.K=K):c2 X (.builtin "isinstance") (λxs H Q=>(∃x,(∃C,xs=[x,.ref C])\/(∃T,xs=[x,.ty T]))/\D0 K xs H Q):=by subst h;exact pH
theorem iM(x:Gv)(ys:am Gv):lr (.str x) (ys.map V.str)=decide (x∈ys):=by
 unfold lr;rw[wK]
 induction ys with
 |nil=>simp
 |cons y ys a =>
  rw[jj,a];show((y==x)||decide (x∈ys))=decide (x∈y::ys)
  by_cases h:y=x
  ·subst h;simp
  ·have h':(y==x)=false:=iz.mpr h
   rw[h',Gn];have:x∈y::ys ↔ x∈ys:=by simp[aP h]
   simp[this]
theorem jt(ys:am Gv):(ys.map V.str).all ie=true:=by
 rw[mV];intro v hv;obtain⟨y,_,rfl⟩:=aY.mp hv
 rfl
def hF(H:Hp)(a:Up):Hp:=λb=>if b=a then none else H b
theorem lX(n:b≠a):hF H a b=H b:=by unfold hF;rw[aq n]
theorem Ip{o:HO}(e:hF H a b=ih o):b≠a/\H b=ih o:=by
 unfold hF at e;split at e
 ·cases e
 next n=>exact⟨n,e⟩
theorem Iq(e:H b=none):hF H a b=none:=by
 unfold hF;split
 ·rfl
 ·exact e
theorem Inv.Lj(I:Inv X J σ H s)(e:H a=ih (cJ C dx a))(f:∀d,dx=ih d ->∃fs,H d=ih (e7 d fs)):∃ox od t,InstAt s.heap a ox C od/\ox={ cls:=.ref C,dict:=dx,data:=.fields #[.ref t,.none,.none,.none,.bool false,.none] }:=by
 obtain⟨t,b⟩:=I.excAt e;cases dx with
 |none=>exact⟨_,none,t,⟨b,rfl,rfl,Vm⟩,rfl⟩
 |some d =>
  obtain⟨fs,g⟩:=f d rfl;obtain⟨_,mA,n,r,_⟩:=I.tX g;obtain⟨od,c,_⟩:=pq n;exact⟨_,ih od,t,⟨b,rfl,rfl,c⟩,rfl⟩
theorem Inv.hidden(I:Inv X J σ H s)(p:X.ex=[])(A:X.stack=X.env::X.outer)(B:X.env.frame=ih X.env.locals)(f:H a=ih (cJ C dx a))(h0:X.ij a=none)
  (k:(hideAll s.heap (a::d3 X.stack)).StaysIn h') (up:s.heap.UpToSlots h'):Un X.fs [] X.ij (hF H a) X.d0.heap h'/\cx X.prog X.w (hF H a) h':=by
 have d:Un X.fs [] X.ij H X.d0.heap s.heap:=by have:=I.base;rw[p]at this;exact this
 have h:∀b,b∈d3 X.stack->b=X.env.locals\/b∈X.fs:=λb r=>by
  have:=I.qm b r;rcases bj.mp this with z|z
  ·exact .inl z
  ·exact .inr z
 have t:∀{b:Up},H b=none->b≠a:=λe z=>by subst z;rw[f]at e;cases e
 have get:∀b o,s.heap.get? b=ih o->b≠a->b ∉ d3 X.stack->h'.get? b=ih o:=λb o e n m=>k b o (hideAll_get _ e λz=>by
  rcases bj.mp z with z|z
  ·exact n z
  ·exact m z)
 have i:∀b o,X.d0.heap.get? b=ih o->b≠X.env.locals:=λb o e z=>by
  have h1:=bt e;have h2:=I.ok.above;subst z;exact absurd h1 (Gp.mpr h2)
 have g:∀b o,b∈X.fs->s.heap.get? b=ih o ->∃sl,h'.get? b=ih { o with slots:=sl }:=λb o m e=>by
  obtain⟨_,o',j,v⟩:=(I.fq).mem m;rw[e]at j;cases j
  exact up b o e v
 refine⟨⟨λb o e n m _=>?_,λb o e n m _=>?_,λb o e n _=>Iq (d.free b o e n (by simp)),λb o e _=>?_,λb xs e=>?_,λb o u e=>?_,λb ps e=>?_⟩,λb o e=>?_⟩
 ·have e1:=d.keep b o e n m (by simp)
  refine get b o e1 (t (d.free b o e n (by simp))) λz=>?_
  rcases h b z with z|z
  ·exact i b o e z
  ·exact m z
 ·obtain⟨sl,e1⟩:=d.slot b o e n m (by simp)
  obtain⟨l,e2⟩:=g b _ m e1;exact⟨l,e2⟩
 ·obtain⟨o',e1⟩:=d.there b o e (by simp)
  by_cases m:b∈X.fs
  ·obtain⟨sl,e2⟩:=g b _ m e1
   exact⟨_,e2⟩
  ·refine⟨o',get b o' e1 (λz=>?_) λz=>?_⟩
   ·subst z
    have:=d.free b o e h0 (by simp)
    rw[f]at this;cases this
   ·rcases h b z with z|z
    ·exact i b o e z
    ·exact m z
 ·have e1:=d.gQ b xs e
  rw[lX (ar e1 f)];exact e1
 ·have e1:=d.gR b o u e
  rw[lX (ar e1 f)];exact e1
 ·obtain⟨x,e1⟩:=d.hG b ps e
  exact⟨x,by rw[lX (ar e1 f)];exact e1⟩
 ·obtain⟨n,e1⟩:=Ip e
  have qO:∀{c:Up}{u:HO},H c=ih u->c ∉ d3 X.stack:=λq m=>by
   have:=I.tR _ m;rw[q]at this;cases this
  refine(I.aJ b o e1).e4 (λc u y q=>?_) (λc q=>?_) λc xs q=>?_
  ·rcases y with rfl|q1
   ·exact get _ u q n (qO e1)
   ·exact get c u q (ar q1 f) (qO q1)
  ·rw[lX (ar q f)];exact q
  ·rw[lX (ar q f)];exact q
def Cx.kJ(X:Cx)(a:Up):Cx:={ X with A:=X.A.mark (ih (.ref a)),calm:=false,xe:=λ_ _=>False }
theorem Inv.kJ(I:Inv X J σ H s)(a:Up):Inv (X.kJ a) J σ H s:=
 ⟨⟨I.ok.mod,I.ok.kind,I.ok.glob,I.ok.blt,I.ok.above,I.ok.inj,I.ok.has,I.ok.jS,(λz=>Bool.noConfusion (show false=true from z)),I.ok.frames,I.ok.lg,I.ok.lj,I.ok.bs,I.ok.hQ,I.ok.jJ,I.ok.jK,I.ok.fq,I.ok.ir⟩,I.os,I.bare,I.base,I.loc,I.cell,I.free,I.eO,I.pin,I.aJ,I.len⟩
theorem Inv.uncaught{J0:Cx}(ok:X.Ok)(I:Inv (X.kJ a) J σ H s):Inv X J σ H s:=
 ⟨ok,I.os,I.bare,I.base,I.loc,I.cell,I.free,I.eO,I.pin,I.aJ,I.len⟩
section
variable{R:Y4->Ur->Prop}
theorem JW{its:Array i'}(tr:Nat->Bool)(D:A.in1.handled=none)(m:l≠it)(p:g.IsList l its)
  (E:∀i v,its[i]?=ih v ->∃a ws,v=.ref a/\a≠it/\X6 g a ws/\ws.size<=Us/\tr i = !ws.isEmpty):∀(k i:Nat) (s:Ur),its.size - i=k->i<=its.size->(∀b o,b≠it->g.get? b=ih o->s.heap.get? b=ih o)->s.heap.IsListIter it l i ->
  (∀h' tk,(∀b o,b≠it->g.get? b=ih o->h'.get? b=ih o)->R (.ok (.ret (.bool (((Xs its.size).drop i).any tr)))) { s with heap:=h',toks:=tk }) ->
  codeAny (UK P w) A (.builtin "any.loop" ⟨[.ref it],[]⟩) R s:=by
 intro k
 induction k with
 |zero =>
  intro i s G hi kp d c;obtain rfl:i=its.size:=by omega
  refine h3 aag (?_:Ut _ _ _ _ _ _);rw[show A.under (.builtin "any.loop" ⟨[.ref it],[]⟩)=A.in1 from iG wL _];show Ut _ _ (pyNext (.ref it) >>= _) _ _ s;have f:s.heap.IsList l its:=p.at λo e=>kp l o m e;refine ae (wpAny_pyNext_list_end D d f (by simp) λh' ex=>ae (jf (ao ?_)))
  have:=c h' s.toks λb o n e=>ex b o n (kp b o n e);rw[r7 (by simp)]at this
  exact this
 |succ k H =>
  intro i s G hi kp d c;have h:i<its.size:=by omega
  have q:(Xs its.size).drop i=i::(Xs its.size).drop (i+1):=by rw[lF (by simpa using h),List.getElem_range]
  refine h3 aag (?_:Ut _ _ _ _ _ _);rw[show A.under (.builtin "any.loop" ⟨[.ref it],[]⟩)=A.in1 from iG wL _];show Ut _ _ (pyNext (.ref it) >>= _) _ _ s;have f:s.heap.IsList l its:=p.at λo e=>kp l o m e;have t:its[i]?=ih its[i]:=by simp[h]
  obtain⟨a,ws,I,J,y,K,B⟩:=E i _ t;refine ae (wpAny_pyNext_list_item d f t λh' z L=>?_);have j:∀b o,b≠it->g.get? b=ih o->h'.get? b=ih o:=λb o n e=>L.extBut b o n (kp b o n e);have x:X6 h' a ws:=by
   obtain⟨o,M,r⟩:=y;exact⟨o,j a o J M,r⟩
  rw[I];refine ae (d5 (truthy_tuple (s:={ s with heap:=h' }) x (by rw[aX]at K;omega) (ae (wpAny_letGo ?_))))
  rw[<-B];cases u:tr i with
  |false =>
   refine ao ⟨jk wL _,H (i+1) _ (by omega) h j z λh2 C N=>?_⟩
   have:=c h2 C N;rw[q,jj,u,Gn]at this;exact this
  |true =>
   refine ae (jf (ao ?_));have:=c h' (s.toks+1+1) j;rw[q,jj,u,aaw]at this;exact this
end
theorem I4(A:X.calm=true):c2 X (.builtin "any") (λxs H Q=>∃(p:Up) (ys:am V) (rs:am (List V)),xs=[.ref p]/\au X.K H p ys/\XH (λy r=>∃a,y=V.ref a/\aZ X.K H a r) ys rs/\Q (.bl (rs.any λr=>!r.isEmpty)) H):=by
 rintro J s σ H xs us Q I r ⟨p,ys,rs,rfl,k,pr,q⟩;obtain⟨u,rfl,B⟩:=vals1 r;cases B
 obtain⟨its,l,c,C⟩:=I.list k;have f:=l.length;have all:∀i v,its[i]?=ih v ->∃a ws,v=.ref a/\X6 s.heap a ws/\ws.size<=Us/\(rs.map λr=>!r.isEmpty).getD i false = !ws.isEmpty:=by
  intro i v e;clear q k c C r
  induction l generalizing rs i with
  |nil=>simp at e
  |cons D R E =>
   cases pr with
   |cons G pt =>
    cases i with
    |zero =>
     simp at e;subst e;obtain⟨a,rfl,L⟩:=G;cases D
     obtain⟨ws,t,d,j⟩:=I.tuple L;have P:=t.length;exact⟨a,_,rfl,d,by rw[bW];omega,by rw[sG t];rfl⟩
    |succ i=>exact E _ pt (by simpa using f) i (by simpa using e)
 have w:its.toArray.size=rs.length:=by rw[bW,<-f];exact ff pr
 have x:(Xs its.toArray.size).any (λi=>(rs.map λr=>!r.isEmpty).getD i false)=rs.any λr=>!r.isEmpty:=by
  rw[w]
  apply ly.mpr
  simp only[lG,je]
  constructor
  ·rintro⟨i,hi,e⟩
   refine⟨rs[i],gj hi,?_⟩
   simpa [Yz,hi] using e
  ·rintro⟨r,M,e⟩
   obtain⟨i,hi,rfl⟩:=wM M;exact⟨i,hi,by simpa [Yz,hi] using e⟩
 refine call_function_tree F.kind_any F.plain_any F.entry_any (F.args_any1 (.ref p)) (?_:Ut _ _ _ _ _ _);unfold XM.«any»;refine ae (m:=oneArg "any" _) (ao (ae (rZ c.isList ?_)));have new:∀b o,s.heap.get? b=ih o->b≠s.heap.objs.size:=λb o e=>bI (bt e);obtain⟨ol,z,_⟩:=id c.isList;refine ao ⟨jk wL _,JW (g:=s.heap) (λi=>(rs.map λr=>!r.isEmpty).getD i false) (I.ok.hd A) (new p ol z) c.isList (λi v e=>?_) _ 0 _ rfl (bx _) (λb o n e=>a8 _ e) ⟨_,b5 _ rfl,rfl,rfl⟩ λh' tk kp=>?_⟩
 ·obtain⟨a,ws,N,d,j,e2⟩:=all i v (by simpa using e)
  obtain⟨o,O,_⟩:=id d;exact⟨a,ws,N,new a o O,d,j,e2⟩
 ·rw[wN,x]
  exact⟨.bl _,H,I.kept (t':=tk) λb o e=>kp b o (new b o e) e,rfl,q⟩
theorem pA(n:X.calm=true):c2 X (.builtin "all") (λxs H Q=>∃(p:Up) (bs:am Bool),xs=[.ref p]/\au X.K H p (bs.map V.bl)/\Q (.bl (bs.all id)) H):=by
 rintro J s σ H xs us Q I r ⟨p,bs,rfl,g,q⟩;obtain⟨u,rfl,t⟩:=vals1 r;cases t
 obtain⟨its,c,a,w⟩:=I.list g;have j:=c.length;have f:its=bs.map Yk:=by
  clear q g a w r j
  induction bs generalizing its with
  |nil=>cases c;rfl
  |cons b bs x =>
   cases c with
   |cons y z=>cases y;rw[x _ z];rfl
 have new:∀b o,s.heap.get? b=ih o->b≠s.aj:=λb o e=>bI (bt e);obtain⟨ol,k,_⟩:=id a.isList;refine call_all_walk (rZ a.isList ?_);refine⟨s.aj,_,_,_,_,_,λi=>bs.getD i true,rfl,Zy (A:=X.A.in1) (I.ok.hd n) s.aj p (new p ol k) its.toArray,⟨⟨_,b5 _ rfl,rfl,rfl⟩,a.isList.at λo e=>a8 _ e⟩,λi v s2 C D hv l=>?_,λh' tk kp=>?_⟩
 ·rw[f]at hv
  have:bs[i]?.map Yk=ih v:=by simpa using hv
  obtain⟨b,d,rfl⟩:=gi.mp this;refine iB ?_;have e:bs.getD i true=b:=by rw[gk,d];rfl
  exact e ▸ l
 ·have m:(Xs its.toArray.size).all (λi=>bs.getD i true)=bs.all id:=by
   have B:its.toArray.size=bs.length:=by rw[f];simp
   rw[B]
   apply ly.mpr
   simp only[mV,je]
   constructor
   ·intro h b d
    obtain⟨i,hi,rfl⟩:=wM d
    simpa [Yz,hi] using h i hi
   ·intro h i hi
    simpa [Yz,hi] using h bs[i] (gj hi)
  rw[m];exact⟨.bl _,H,I.kept (t':=tk) λb o e=>kp b o (by simpa using new b o e) (a8 _ e),rfl,q⟩
def Lk:V->List V->Hp->VK->Prop:=λx vs H Q=>∃(l:Up) (ys:List Gv) (y:Gv) (j:Nat),x=.ref l/\vs=[.str y]/\H l=ih (.lst (ys.map V.str))/\ys[j]?=ih y/\(∀m,m<j->ys[m]? ≠ ih y)/\Q (.int j) H
theorem JX:lu X "list.index" Lk:=by
 rintro J s σ H x vs v us Q I C D ⟨l,ys,y,j,rfl,rfl,E,p,A,q⟩;cases C
 obtain⟨u,rfl,t,rfl⟩:=D.one;obtain⟨z,its,n,r,f,e⟩:=I.jL E;have k:j<its.length:=by
  have:=(bR.mp p).1;rw[<-f,aE];exact this
 have o:∀m (a:m<its.length),∃(w:Gv) (t':Tok),ys[m]?=ih w/\its[m]=.str w t':=λm a=>by
  have b:m<ys.length:=by rw[<-f,aE]at a;exact a
  obtain⟨u,c,t',G⟩:=r.get (i:=m) (x:=.str ys[m]) (by rw[dQ,bz b];rfl)
  rw[bz a]at c;exact⟨ys[m],t',bz b,by rw[cZ c];exact G⟩
 have K:(ys.map V.str).all ie=true:=jt ys;refine mS Z7 ⟨_,e,rfl⟩ Z0 (ZR _ _) (ZD l its.toArray n none #[] (.str y t) (eS (.str y)) j (by simpa using k) ?_ ?_ ?_) ⟨e,?_,?_⟩
 ·rw[aX]at z;have:=f;omega
 ·obtain⟨w,t',d,g⟩:=o j k
  rw[p]at d;cases d;show eS (.str y) (its.toArray[j])=true;rw[wO,g,qp (y:=.str y) ⟨t',rfl⟩ rfl];show decide _=true;exact cc rfl
 ·intro m a B
  have b:m<its.length:=by simpa using a
  obtain⟨w,t',d,g⟩:=o m b;show eS (.str y) (its.toArray[m])=false;rw[wO,g,qp (y:=.str w) ⟨t',rfl⟩ rfl];have ne:=A m B;rw[d]at ne;show decide _=false;exact d4 λz=>ne (by rw[z])
 ·intro u c
  exact lV (x:=.str y) ⟨t,rfl⟩ rfl r K u (by simpa using c)
 ·exact⟨.int j,H,I.tok _,⟨_,rfl⟩,q⟩
section
variable{p2 p3 p4:Zx}{k:Nat}
def O1(K:X2)(te:TE):TE:=λσ H Q=>te σ H λx H2=>∃(l:Up) (xs:List V),x=.ref l/\au K H2 l xs /\∀p,H2 p=none->Q (.ref p) (upd H2 p (.lst xs.reverse))
theorem uy(f:PE X e te):PE X (.Subscript e (.Slice none none (ih (.UnaryOp .USub (.Constant (.int 1) k p3) p4)) p2) pos) (O1 X.K te):=by
 intro J s σ H Q I h;refine Zo (aG (f J s σ H _ I h) λv s1 A=>?_);obtain⟨x,Y,g,i,l,xs,ex,j,q⟩:=A;subst ex;cases i
 refine wpAny_Slice ?_;rw[F9];refine ao (ao ?_);refine aG (gN (mu ma aw) J s1 σ Y (λo H'=>o=ih (-1)/\H'=Y) g ⟨_,rfl,_,rfl,rfl,rfl⟩) λvs a A=>?_;obtain⟨o,m,n,ps,p,t⟩:=A;subst p t;have c:Inv X J σ m { a with heap:=a.heap.push { cls:=.type "slice",data:=.fields #[.none,.none,vs] } }:=n.kept (t':=a.toks) λb u z=>a8 _ z;obtain⟨its,r,d,w⟩:=c.list j;have y:=r.length;refine tail_any (ops:=_) d.isList.typeIs F'.lookup ?_ (by with_unfolding_all rfl)
 refine UJ d.isList (Y6 ..) .none .none ps (by decide) ?_ (by rw[bW];omega)
 rw[krv_pick];refine⟨.ref _,_,c.laid (t':=a.toks) (o:=.lst xs.reverse) (λb u z=>a8 _ z) (aU _) ?_,rfl,q _ (c.aJ.fresh (aU _))⟩;exact⟨by rw[jl];exact w,its.reverse,0,r.reverse,b5 _ rfl⟩
end
end L2
namespace L2
section
variable{α β γ δ ε ζ:Type}
theorem af{F P:α->Prop}{a:α}(f:F a)(h:P a):∃x,F x/\P x:=⟨a,f,h⟩
theorem a4{F:α->Prop}{G:α->β->Prop}{P:α->β->Prop}{a:α}{b:β}(f:F a)(g:G a b)(h:P a b):∃x,F x /\∃y,G x y/\P x y:=⟨a,f,b,g,h⟩
theorem ek{F:α->Prop}{G:α->β->Prop}{I:α->β->γ->Prop}{P:α->β->γ->Prop}{a:α}{b:β}{c:γ}(f:F a)(g:G a b)(i:I a b c)(h:P a b c):∃x,F x /\∃y,G x y /\∃z,I x y z/\P x y z:=⟨a,f,b,g,c,i,h⟩
theorem i3{F:α->Prop}{G:α->β->Prop}{I:α->β->γ->Prop}{e:α->β->γ->δ->Prop}{P:α->β->γ->δ->Prop}{a:α}{b:β}{c:γ}{d:δ}(f:F a)(g:G a b)(i:I a b c)(j:e a b c d)(h:P a b c d):∃x,F x /\∃y,G x y /\∃z,I x y z /\∃u,e x y z u/\P x y z u:=⟨a,f,b,g,c,i,d,j,h⟩
end
end L2
namespace L2
theorem QC{i:Int}(h:H p=bn xs)(e:cB xs i=ih v)(k:Q v H):mD K (.ref p) (.int i) H Q:=⟨p,xs,i,v,rfl,rfl,aZ.of h,e,k⟩
theorem fe{i:Int}(h:H p=ce xs)(e:cB xs i=ih v)(k:Q v H):qR K (.ref p) (.int i) H Q:=⟨p,xs,i,v,rfl,rfl,au.of h,e,k⟩
theorem bf{i:Int}(h:H p=bn xs)(e:cB xs i=ih v)(k:Q v H):tC (.int i) σ H (λy H2=>mD K (.ref p) y H2 Q):=⟨p,xs,i,v,rfl,rfl,aZ.of h,e,k⟩
theorem eK{i:Int}(h:H p=ce xs)(e:cB xs i=ih v)(k:Q v H):tC (.int i) σ H (λy H2=>qR K (.ref p) y H2 Q):=⟨p,xs,i,v,rfl,rfl,au.of h,e,k⟩
end L2
namespace L2
open Spec PyProof.Rows
section
variable{κ:Type} [DecidableEq κ]
def bo(kvs:List (κ×V))(k:κ):Option V:=(kvs.find? λkv=>decide (kv.1=k)).map (·.2)
def putK(kvs:List (κ×V))(k:κ)(v:V):List (κ×V):=
 if (kvs.any λkv=>decide (kv.1=k))=true then kvs.map (λkv=>if kv.1=k then (kv.1,v) else kv) else kvs++[(k,v)]
theorem fG{p:κ×V}{r:am (κ×V)}{k:κ}(e:p.1=k):bo (p::r) k=ih p.2:=by simp[bo,oT,e]
theorem ew{p:κ×V}{r:am (κ×V)}{k:κ}(e : ¬ p.1=k):bo (p::r) k=bo r k:=by simp[bo,oT,e]
theorem kA(k:κ):∀kvs:am (κ×V),(kvs.any λa=>decide (a.1=k))=(bo kvs k).isSome
 |[]=>rfl
 |p::r=>by
  rw[jj]
  by_cases e:p.1=k
  ·simp only[fG e,cc e,aaw,UO]
  ·rw[ew e,d4 e,Gn];exact kA k r
theorem BP(k j:κ)(y:V):∀kvs:am (κ×V),bo (kvs.map λa=>if a.1=k then (a.1,y) else a) j=(bo kvs j).map λx=>if j=k then y else x
 |[]=>rfl
 |p::r=>by
  have b:=BP k j y r;rw[bU]
  by_cases h:p.1=k
  ·rw[ay h]
   by_cases e:p.1=j
   ·rw[fG (p:=(p.1,y)) e,fG e,rX,ay (e.symm.trans h)]
   ·rw[ew (p:=(p.1,y)) e,ew e,b]
  ·rw[aq h]
   by_cases e:p.1=j
   ·rw[fG (p:=p) e,fG e,rX,aq (λz=>h (e.trans z))]
   ·rw[ew (p:=p) e,ew e,b]
theorem Ba(k j:κ)(y:V):∀kvs:am (κ×V),bo kvs k=none->bo (kvs++[(k,y)]) j=if j=k then ih y else bo kvs j
 |[],_=>by
  by_cases e:k=j
  ·rw[ay e.symm];exact fG (p:=(k,y)) e
  ·rw[aq (λz=>e z.symm)];exact ew (p:=(k,y)) e
 |p::r,a=>by
  rw[wQ];have b : ¬ p.1=k:=λz=>by rw[fG z]at a;cases a
  rw[ew b]at a;have c:=Ba k j y r a
  by_cases e:p.1=j
  ·rw[fG e,fG e,aq (λz=>b (e.trans z))]
  ·rw[ew e,ew e,c]
theorem iN(kvs:am (κ×V))(k j:κ)(y:V):bo (putK kvs k y) j=if j=k then ih y else bo kvs j:=by
 unfold putK
 by_cases a:(kvs.any λb=>decide (b.1=k))=true
 ·rw[ay a,BP]
  rw[kA]at a
  by_cases e:j=k
  ·obtain⟨x,c⟩:=wq.mp a
   rw[ay e,e,c,rX,ay rfl]
  ·rw[aq e]
   cases bo kvs j with
   |none=>rfl
   |some x=>rw[rX,aq e]
 ·rw[aq a]
  refine Ba k j y kvs ?_;rw[kA]at a;cases q:bo kvs k with
  |none=>rfl
  |some x=>rw[q]at a;exact(a rfl).elim
theorem lQ(kvs:am (κ×V))(k:κ)(v:V):(putK kvs k v).length<=kvs.length+1:=by
 unfold putK;split
 ·rw[aE];omega
 ·rw[cL,cS,iF];omega
theorem kB{kvs:am (κ×V)}{k:κ}(v:V)(h:bo kvs k=none):putK kvs k v=kvs++[(k,v)]:=by
 unfold putK;rw[kA,h];exact aq (by decide)
theorem d7.nc{o:a2 V}{u:a2 i'}(r:d7 o u):o.isSome=u.isSome:=by
 cases o with
 |none=>cases u with
  |none=>rfl
  |some _=>exact(show False from r).elim
 |some _=>cases u with
  |none=>exact(show False from r).elim
  |some _=>rfl
theorem KV.val{kvs:am (κ×V)}{vs:am (κ×i')}(r:KV kvs vs)(k:κ):d7 (bo kvs k) (valueAt vs k):=by
 unfold KV at r
 induction r with
 |nil=>exact Vm
 |@cons p q ps a h t d =>
  obtain⟨h1,h2⟩:=h
  by_cases e:p.1=k
  ·have c:q.1=k:=h1.symm.trans e
   have b:valueAt (q::a) k=ih q.2:=by simp[valueAt,oT,c]
   rw[fG e,b];exact h2
  ·have c : ¬ q.1=k:=λz=>e (h1.trans z)
   have b:valueAt (q::a) k=valueAt a k:=by simp[valueAt,oT,c]
   rw[ew e,b];exact d
theorem KV.any{kvs:am (κ×V)}{vs:am (κ×i')}(r:KV kvs vs)(k:κ):(kvs.any λa=>decide (a.1=k))=vs.any λa=>decide (a.1=k):=by
 unfold KV at r
 induction r with
 |nil=>rfl
 |cons h t b=>rw[jj,jj,b,h.1]
theorem KV.vo{kvs:am (κ×V)}{vs:am (κ×i')}(r:KV kvs vs)(k:κ)(b:RelV y u) :
  KV (kvs.map λa=>if a.1=k then (a.1,y) else a) (vs.map λa=>if a.1=k then (a.1,u) else a):=by
 unfold KV at r⊢
 induction r with
 |nil=>exact .nil
 |@cons p q ps d h t c =>
  rw[bU,bU];refine .cons ?_ c;obtain⟨h1,h2⟩:=h
  by_cases e:p.1=k
  ·rw[ay e,ay (h1.symm.trans e)];exact⟨h1,b⟩
  ·rw[aq e,aq (λz=>e (h1.trans z))];exact⟨h1,h2⟩
theorem KV.put{kvs:am (κ×V)}{vs:am (κ×i')}(r:KV kvs vs)(k:κ)(a:RelV y u):KV (putK kvs k y) (stored vs k u):=by
 unfold putK stored;rw[r.any k]
 by_cases e:(vs.any λb=>decide (b.1=k))=true
 ·rw[ay e,ay e];exact r.vo k a
 ·rw[aq e,aq e];exact lH r ⟨rfl,a⟩
theorem KV.length{kvs:am (κ×V)}{vs:am (κ×i')}(r:KV kvs vs):kvs.length=vs.length:=ff r
end
theorem mw{k:Key}(r:RelV (kV k) u):(cT P w).is k u=true:=by
 cases k with
 |inl i=>obtain⟨t,e⟩:=(show ∃t,u=YG i t from r);subst e;exact Hw P w i t
 |inr x=>obtain⟨t,e⟩:=(show ∃t,u=Yw x t from r);subst e;exact Hx P w x t
theorem Bb{P:XJ}{w:XT}:∀{ks:am Key}{us:am i'},Vals (ks.map kV) us->ItemsAre (cT P w) ks us
 |[],_,r=>by rw[lC]at r;cases r;exact .nil
 |k::ks,_,r=>by
  rw[bU]at r;cases r with
  |cons h t=>exact .cons (mw h) (Bb t)
abbrev KT(H:Hp):List (List Key×V)->List (List Key×Up×i')->Prop:=XH λp q=>p.1=q.1/\H q.2.1=ih (.tup (p.1.map kV))/\RelV p.2 q.2.2
theorem KT.val{kvs:am (List Key×V)}{xs:am (List Key×Up×i')}(r:KT H kvs xs)(k:am Key):d7 (bo kvs k) ((atKey xs k).map (·.2)):=by
 induction r with
 |nil=>exact Vm
 |@cons p q ps a h t d =>
  obtain⟨h1,_,h2⟩:=h
  by_cases e:p.1=k
  ·have c:q.1=k:=h1.symm.trans e
   have b:atKey (q::a) k=ih q.2:=by simp[atKey,oT,c]
   rw[fG e,b];exact h2
  ·have c : ¬ q.1=k:=λz=>e (h1.trans z)
   have b:atKey (q::a) k=atKey a k:=by simp[atKey,oT,c]
   rw[ew e,b];exact d
theorem KT.vo{kvs:am (List Key×V)}{xs:am (List Key×Up×i')}(r:KT H kvs xs)(k:am Key)(b:RelV y u) :
  KT H (kvs.map λa=>if a.1=k then (a.1,y) else a) (xs.map (putAt k u)):=by
 induction r with
 |nil=>exact .nil
 |@cons p q ps f h t c =>
  rw[bU,bU];refine .cons ?_ c;obtain⟨h1,h2,d⟩:=h;unfold putAt
  by_cases e:p.1=k
  ·rw[ay e,ay (h1.symm.trans e)];exact⟨h1,h2,b⟩
  ·rw[aq e,aq (λz=>e (h1.trans z))];exact⟨h1,h2,d⟩
theorem KT.put{kvs:am (List Key×V)}{xs:am (List Key×Up×i')}(r:KT H kvs xs)(k:am Key)(c:H b=bn (k.map kV))(a:RelV y u) :
  KT H (putK kvs k y) (storedH xs k b u):=by
 have e:(kvs.any λd=>decide (d.1=k))=(atKey xs k).isSome:=by
  rw[kA,(r.val k).nc,r8]
 unfold putK storedH;rw[e]
 by_cases q:(atKey xs k).isSome=true
 ·rw[ay q,ay q];exact r.vo k a
 ·rw[aq q,aq q];exact lH r ⟨rfl,c,a⟩
theorem KT.keeps{kvs:am (List Key×V)}{xs:am (List Key×Up×i')}(r:KT H kvs xs)(a:∀b ys,H b=bn ys->H' b=bn ys):KT H' kvs xs:=
 Paired.qN r λ_ _ z=>⟨z.1,a _ _ z.2.1,z.2.2⟩
theorem Dy{u:HO}(ok:cx P w H h)(e:Rd H a u):bH P w H h a u:=e.ok ok
theorem n4(ok:cx P w H h)(e:Rd H a (.dK kvs)):kvs.length<=Us/\(a==sysModules)=false /\∃vs,KV kvs vs/\h.DictOf (cT P w) a vs:=
 show bH P w H h a (.dK kvs) from Dy ok e
theorem Dz(ok:cx P w H h)(e:H a=cr kvs):kvs.length<=Us/\(a==sysModules)=false /\∃vs,KV kvs vs/\h.DictOf (cT P w) a vs:=n4 ok (.inl e)
theorem mc{ks:am Key}(ok:cx P w H h)(e:H a=bn (ks.map kV)):(tupleKind (cT P w)).is h ks a:=by
 obtain⟨_,its,r,o,h1,h2,n,b,_⟩:=(show bH P w H h a (.tup (ks.map kV)) from ok a _ e);exact⟨o,its.toArray,n,h1,h2,b,by simpa using Bb r⟩
theorem n5{kvs:am (List Key×V)}(ok:cx P w H h)(e:Rd H a (.dT kvs)):kvs.length<=Us/\(a==sysModules)=false /\
  ∃xs,KT H kvs xs/\h.DictOfH (tupleKind (cT P w)) a xs:=by
 obtain⟨z,y,xs,r,o,es,ep,h1,h2,c,d,f⟩:=(show bH P w H h a (.dT kvs) from Dy ok e);refine⟨z,y,xs,r,o,es,ep,h1,h2,c,d,λx hx=>?_,f⟩;have all:∀{l:am (List Key×V)}{m:am (List Key×Up×i')},KT H l m ->∀x∈m,(tupleKind (cT P w)).is h x.1 x.2.1:=by
  intro l m q
  induction q with
  |nil=>intro x hx;exact nomatch hx
  |@cons p q ps i b t g =>
   intro x hx;rcases bj.mp hx with e|hx
   ·subst e
    exact mc ok (by rw[<-b.1];exact b.2.1)
   ·exact g x hx
 exact all r x hx
theorem DA{kvs:am (List Key×V)}(ok:cx P w H h)(e:H a=ev kvs):kvs.length<=Us/\(a==sysModules)=false /\
  ∃xs,KT H kvs xs/\h.DictOfH (tupleKind (cT P w)) a xs:=n5 ok (.inl e)
def cm(H:Hp)(a:Up)(y:V)(r:Option V):Prop:=
 (∃kvs k,Rd H a (.dK kvs)/\y=kV k/\r=bo kvs k) \/∃kvs k b,Rd H a (.dT kvs)/\y=.ref b/\H b=ih (.tup (k.map kV))/\r=bo kvs k
def eP(H:Hp)(a:Up)(y v:V)(H':Hp):Prop:=
 (∃kvs k,H a=ih (.dK kvs)/\y=kV k/\kvs.length<Us/\H'=upd H a (.dK (putK kvs k v))) \/
 ∃kvs k b,H a=ih (.dT kvs)/\y=.ref b/\H b=ih (.tup (k.map kV))/\kvs.length<Us/\H'=upd H a (.dT (putK kvs k v))
theorem cm.k{k:Key}(e:H a=cr kvs):cm H a (kV k) (bo kvs k):=.inl ⟨kvs,k,.inl e,rfl,rfl⟩
theorem cm.t{kvs:am (List Key×V)}{k:am Key}(e:H a=ev kvs)(c:H b=bn (k.map kV)):cm H a (.ref b) (bo kvs k):=.inr ⟨kvs,k,b,.inl e,rfl,c,rfl⟩
theorem eP.k{k:Key}(e:H a=cr kvs)(b:kvs.length<Us):eP H a (kV k) v (upd H a (.dK (putK kvs k v))):=.inl ⟨kvs,k,e,rfl,b,rfl⟩
theorem eP.t{kvs:am (List Key×V)}{k:am Key}(e:H a=ev kvs)(c:H b=bn (k.map kV))(d:kvs.length<Us) :
  eP H a (.ref b) v (upd H a (.dT (putK kvs k v))):=.inr ⟨kvs,k,b,e,rfl,c,d,rfl⟩
section
variable{r:i'}{o:a2 V}
theorem Inv.big(I:Inv X J σ H s):sysModules<s.aj:=by
 have h:UT<s.aj:=(I.mod.glob.keeps I.bk).lt;exact lE (by decide) h
theorem I5{Q:i'->Ur->Prop}(r:A.units+1<Ys)(I:Inv X J σ H s)(g:cm H a y (ih v))(n:RelV y u)(h:∀c s',Inv X J σ H s'->RelV v c->Q c s') :
  Ut X.c' A (getItem (.ref a) u) Q E s:=by
 rcases g with⟨kvs,k,e,i,l⟩|⟨kvs,k,b,e,i,t,l⟩
 ·subst i
  obtain⟨z,w,vs,d,j⟩:=n4 I.aJ e;obtain⟨c,m,f⟩:=d7.some_of (v:=v) (o:=valueAt vs k) (by rw[l];exact d.val k)
  exact wpAny_getItem_of (mw n) j.mapOf m (h c _ (I.tok _) f)
 ·subst i
  cases (show u=UN b from n)
  obtain⟨z,w,xs,d,j⟩:=n5 I.aJ e;obtain⟨c,m,f⟩:=d7.some_of (v:=v) (o:=(atKey xs k).map (·.2)) (by rw[l];exact d.val k)
  obtain⟨p,x,q⟩:=gi.mp m;refine wpAny_getItem_heap (wR r) (mc I.aJ t) j x ?_;rw[q];exact h c _ (I.tok _) f
theorem O2{Q:i'->Ur->Prop}(m:A.units+1<Ys)(I:Inv X J σ H s)(g:cm H a y o)(j:RelV y u)(h:∀s',Inv X J σ H s'->Q (.bool o.isSome) s') :
  Ut X.c' A (Xu .In u (.ref a)) Q E s:=by
 rcases g with⟨kvs,k,e,d,l⟩|⟨kvs,k,b,e,d,n,l⟩
 ·subst d
  obtain⟨z,f,vs,c,i⟩:=n4 I.aJ e;refine wpAny_in_of (mw j) f i.mapOf ?_;rw[<-(c.val k).nc,<-l];exact h _ (I.tok _)
 ·subst d
  cases (show u=UN b from j)
  obtain⟨z,f,xs,c,i⟩:=n5 I.aJ e;refine wpAny_in_heap (wR m) (mc I.aJ n) f i ?_;have q:=(c.val k).nc;rw[r8]at q;rw[<-q,<-l];exact h _ (I.tok _)
theorem Ll{Q:i'->Ur->Prop}(m:A.units+1<Ys)(I:Inv X J σ H s)(g:cm H a y o)(j:RelV y u)(h:∀s',Inv X J σ H s'->Q (.bool (!o.isSome)) s') :
  Ut X.c' A (Xu .NotIn u (.ref a)) Q E s:=by
 rcases g with⟨kvs,k,e,d,l⟩|⟨kvs,k,b,e,d,n,l⟩
 ·subst d
  obtain⟨z,f,vs,c,i⟩:=n4 I.aJ e;refine wpAny_notIn_of (mw j) f i.mapOf ?_;rw[<-(c.val k).nc,<-l];exact h _ (I.tok _)
 ·subst d
  cases (show u=UN b from j)
  obtain⟨z,f,xs,c,i⟩:=n5 I.aJ e;refine wpAny_notIn_heap (wR m) (mc I.aJ n) f i ?_;have q:=(c.val k).nc;rw[r8]at q;rw[<-q,<-l];exact h _ (I.tok _)
theorem tY{c:HO}(I:Inv X J σ H s)(d:oB (H a))(f:XC a s.heap h')(g:∃q,h'.get? a=ih q)(new:bH X.prog X.w (upd H a c) h' a c) :
  Inv X J σ (upd H a c) { s with heap:=h',toks:=t' }:=
 I.write (x:=a) (e:=a) d (.inl rfl) (λb q h z=>(f.2 b h).trans z) g new
theorem Di{vs:am (Key×i')}(z:kvs.length<=Us)(c:(a==sysModules)=false)(b:KV kvs vs)(d:h'.DictOf (cT P w) a vs) :
  bH P w H' h' a (.dK kvs):=⟨z,c,vs,b,d⟩
theorem I6{Q:Unit->Ur->Prop}(F:A.units+1<Ys)(I:Inv X J σ H s)(g:eP H a y v H')(x:RelV y u)(B:RelV v r)(h:∀s',Inv X J σ H' s'->Q () s') :
  Ut X.c' A (setItem (.ref a) u r) Q E s:=by
 rcases g with⟨kvs,k,e,j,l,m⟩|⟨kvs,k,b,e,j,C,l,m⟩
 ·subst j m
  obtain⟨z,n,vs,d,o⟩:=Dz I.aJ e;have p:vs.length<=Us:=by rw[<-d.length];exact z
  have t:(putK kvs k v).length<=Us:=by have:=lQ kvs k v;omega
  refine wpAny_setItem_pairs (hsz:=p) (mw x) o λh' f w=>h _ ?_;have G:∃q,h'.get? a=ih q:=let ⟨q,_,_,i,_⟩:=f;⟨q,i⟩;exact tY I (by rw[e];exact Vm) w G (Di t n (d.put k B) f)
 ·subst j m
  cases (show u=UN b from x)
  obtain⟨z,n,xs,d,o⟩:=DA I.aJ e;have p:xs.length<=Us:=by rw[<-ff d];exact z
  have t:(putK kvs k v).length<=Us:=by have:=lQ kvs k v;omega
  refine wpAny_setItem_heap (hsz:=p) (wR F) (mc I.aJ C) o λh' f w=>h _ ?_;obtain⟨q,es,ep,i,h2,K,L,_,M⟩:=f;refine tY I (by rw[e];exact Vm) w ⟨q,i⟩ ⟨t,n,_,(d.put k C B).keeps λc ys D=>?_,q,es,ep,i,h2,K,L,M⟩
  rw[ag (ar D e (λz=>nomatch z))];exact D
end
def D1(i:Vc):Prop:= ∀ov iv,subscripted i false ov iv=operate [ov,iv] (getItem ov iv)
theorem Lm{a:Vc}{id:String}{Q:i'->Ur->Prop}
  (l:typeLookup (.type T) "__getitem__" = pure (ih (.builtin id))) (m:D1 a)
  (h:Ut (UK prog w) A (eval value env) (λo e=>Ut (UK prog w) A (eval a env) (λi b=>b.TypeIs o T/\Ut (UK prog w) A (getItem o i) Q E b) E e) E s) :
  Ut (UK prog w) A (eval (.Subscript value a pos) env) Q E s:=by
 refine Zo (hW h (λo e j=>hW j (λi b c=>?_) λ_ _ x=>x) λ_ _ x=>x);obtain⟨g,c⟩:=c;unfold subscriptTail;refine ae ?_;rw[getitemInPython_of_ne g.not_modules];refine ae (wpAny_specialOf g l ?_);have d:Ut (UK prog w) A (subscripted a false o i) (λr f=>Ut (UK prog w) A (letTemporaryGo value o r >>= λ_=>pure r) Q E f) E b:=by
  rw[m o i];exact wpAny_operating (hW c (λr f k=>ae (wpAny_letTemporaryGo (ao k))) λ_ _ x=>x)
 first
  |exact ao (ae d)
  |exact ae (ao (ae d))
  |exact ae d
theorem HC{o:a2 V}(I:Inv X J σ H s)(g:cm H a y o):s.TypeIs (.ref a) "dict" :=by
 rcases g with⟨kvs,k,e,_,_⟩|⟨kvs,k,b,e,_,_,_⟩
 ·obtain⟨_,_,vs,_,c⟩:=n4 I.aJ e
  exact c.typeIs
 ·obtain⟨_,_,xs,_,c⟩:=n5 I.aJ e
  exact c.typeIs
def uR(td ty:TE):TE:=λσ H Q=>td σ H λx Y=>ty σ Y λy H2=>∃a v,x=.ref a/\cm H2 a y (ih v)/\Q v H2
def vp(ty td:TE):TE:=λσ H Q=>ty σ H λy Y=>td σ Y λx H2=>∃a o,x=.ref a/\cm H2 a y o/\Q (.bl o.isSome) H2
def Ln(ty td:TE):TE:=λσ H Q=>ty σ H λy Y=>td σ Y λx H2=>∃a o,x=.ref a/\cm H2 a y o/\Q (.bl (!o.isSome)) H2
def Np(td ty tv:TE):TS:=λD σ H=>tv σ H λv Y=>td σ Y λx H2=>ty σ H2 λy H3=>∃a H4,x=.ref a/\eP H3 a y v H4/\D.nx σ H4
section
variable{o i:Vc}{Qz:Zx}{td ty:TE}
theorem eY(d:X.A.units+1<Ys)(e:PE X o td)(hi:PE X i ty)(f:D1 i:=by exact λ_ _=>rfl):PE X (.Subscript o i pos) (uR td ty):=by
 intro J s σ H Q I h;refine Lm PySem.F.slot_dict_getitem.lookup f (aG (e J s σ H _ I h) λu s1 ⟨x,Y,j,k,l⟩=>aG (hi J s1 σ Y _ j l) λq s2 w=>?_);obtain⟨y,H2,b,m,a,v,ex,g,n⟩:=w;subst ex;obtain rfl:u=UN a:=k;exact⟨HC b g,I5 d b g m λr t p c=>⟨v,H2,p,c,n⟩⟩
theorem jE(b:X.A.units+1<Ys)(hi:PE X i ty)(c:PE X o td):PC X .In i o (vp ty td):=by
 intro J s σ H Q I h;refine aG (hi J s σ H _ I h) λp s1 ⟨y,Y,d,e,f⟩=>aG (c J s1 σ Y _ d f) λu s2 r=>?_;obtain⟨x,H2,j,k,a,l,ex,g,m⟩:=r;subst ex;obtain rfl:u=UN a:=k;exact O2 b j g e λq n=>⟨.bl l.isSome,H2,n,rfl,m⟩
theorem Bc(b:X.A.units+1<Ys)(hi:PE X i ty)(c:PE X o td):PC X .NotIn i o (Ln ty td):=by
 intro J s σ H Q I h;refine aG (hi J s σ H _ I h) λp s1 ⟨y,Y,d,e,f⟩=>aG (c J s1 σ Y _ d f) λu s2 r=>?_;obtain⟨x,H2,j,k,a,l,ex,g,m⟩:=r;subst ex;obtain rfl:u=UN a:=k;exact Ll b j g e λq n=>⟨.bl (!l.isSome),H2,n,rfl,m⟩
theorem gO(b:X.A.units+1<Ys)(c:PE X o td)(hi:PE X i ty)(hv:PE X value tv)(d:swapsWith value (ih (.Subscript o i Qf)) pos.line X.env=pure false) :
  PS X (.Assign [.Subscript o i Qf] value pos) (Np td ty tv):=by
 intro J s σ H D I h;refine wpAny_Assign_Subscript (aG (hv J s σ H _ I h) λr s1 ⟨v,Y,e,f,j⟩=>aG (c J s1 σ Y _ e j) λu s2 ⟨x,H2,k,l,m⟩=>aG (hi J s2 σ H2 _ k m) λz B F=>?_) d;obtain⟨y,C,n,p,a,q,ex,g,t⟩:=F;subst ex;obtain rfl:u=UN a:=l;exact I6 b n g p f λE w=>⟨σ,q,w,t⟩
end
theorem JY(h:XD)(a:sysModules<h.objs.size):bH P w H (h.push { cls:=.type "dict",data:=.dict #[] }) h.objs.size (.dK []):=
 ⟨bx _,iz.mpr (aP (bI a)),[],.nil,Zl h⟩
theorem BQ(h:XD)(a:sysModules<h.objs.size):bH P w H (h.push { cls:=.type "dict",data:=.dict #[] }) h.objs.size (.dT []):=
 ⟨bx _,iz.mpr (aP (bI a)),[],.nil,_,#[],0,b5 _ rfl,⟨rfl,rfl,rfl⟩,rfl,rfl,fE⟩
def MD:TE:=λ_ H Q=>∀p,H p=none->Q (.ref p) (upd H p (.dK []))
def ME:TE:=λ_ H Q=>∀p,H p=none->Q (.ref p) (upd H p (.dT []))
theorem ny:PE X (.Dict [] [] pos) MD:=λJ s σ H Q I h =>
 wpAny_Dict_empty ⟨.ref s.aj,_,I.laid (a:=s.aj) (o:=.dK []) (t':=s.toks) (λ_ _ q=>a8 _ q) (aU _) (JY s.heap I.big),rfl,h _ (I.aJ.fresh (aU _))⟩
theorem pI:PE X (.Dict [] [] pos) ME:=λJ s σ H Q I h =>
 wpAny_Dict_empty ⟨.ref s.aj,_,I.laid (a:=s.aj) (o:=.dT []) (t':=s.toks) (λ_ _ q=>a8 _ q) (aU _) (BQ s.heap I.big),rfl,h _ (I.aJ.fresh (aU _))⟩
end L2
namespace HT
open PyProof.Rows
theorem G7{t:Up}{lo:a2 Int}{Q:i'->Ur->Prop}(a:X6 s.heap t items)(b:s.heap.IsSliceOf sl vl vu .none)(pl:YV vl lo)(g:YV vu hi)
  (h0:bq items.size 0 lo=0) (h1:bq items.size items.size hi=items.size) (h:Q (.ref t) s):Ut (UK prog w) A (getItem (.ref t) (.ref sl)) Q E s:=by
 obtain⟨os,d,e,i⟩:=id b;have f:s.TypeIs (.ref sl) "slice" :=⟨os,d,e⟩;unfold getItem
 try with_reducible refine d5 ?_
 first|refine ae (ao ?_)|skip
 refine ae (wpAny_sequenceKey a.typeIs (by decide) ?_)
 refine ae (r0 (name:=X0 "__getitem__") a.typeIs oQ
  (hY oQ a.typeIs entry_tuple_getitem ?_ (args_tuple_getitem _ _)))
 show Ut _ _ (Ym (.ref t) >>= _) _ _ s;refine ae (tupleItemsOf_ a ?_);refine ae (ji f ?_);rw[ay (by decide)]
 refine ae (Ad b pl g ?_);rw[h0,h1];have c:((((0:Nat):Int)==0&&(1:Int)==1&&(items.size - 0)==items.size)=true):=by simp
 show Ut _ _ (if ((((0:Nat):Int)==0&&(1:Int)==1&&(items.size - 0)==items.size)=true) then _ else _) _ _ s;rw[ay c];refine ae (ae (ji a.typeIs (ao ?_)));rw[ay (by decide)]
 exact ae (jf (ao ⟨_,rfl,ao h⟩))
theorem JZ{t:Up}{ws:am i'}{Q:i'->Ur->Prop}(m:X6 s.heap t ([]:am i').toArray)(o:X6 s.heap b ws.toArray)(h:Q (.ref b) s):Ut (UK prog w) A (X7 .Add (.ref t) (.ref b)) Q E s:=by
 obtain⟨⟨g,p,e,sl⟩,c,q,n,r⟩:=id m;obtain⟨⟨f,i,data2,j⟩,a,k,d,l⟩:=id o;obtain rfl:g=.type "tuple" :=q;obtain rfl:e=.seq #[] n:=r;obtain rfl:f=.type "tuple" :=k;obtain rfl:data2=.seq ws.toArray d:=l;exact concat_meets ⟨_,c,rfl⟩ ⟨_,a,rfl⟩ F4 F5 F6 F7 (F8 _ _) (tuple_addW0 t b #[] ws.toArray n d p i sl j rfl) ⟨c,a,h⟩
end HT
namespace L2
open Spec PyProof.Rows W
theorem BR{q:Up}{o:HO}(a:H q=none):aB H (upd H q o):=λb u e=>by rw[ag (aA e a)];exact e
def O3:V->Option Int->Option Int->Hp->VK->Prop:=λx lo hi H Q=>∃a xs,x=.ref a/\H a=ih (.tup xs) /\∀p H',aB H H'->H' p=ih (.tup (e6 xs lo hi))->Q (.ref p) H'
theorem CH:mJ X O3:=by
 intro J s σ H x v vl vu lo hi sl Q I e f g i h;obtain⟨a,xs,rfl,c,q⟩:=h
 by_cases b:HT.bq xs.length 0 lo=0/\HT.bq xs.length xs.length hi=xs.length
 ·cases e
  obtain⟨its,r,j,l⟩:=I.tuple (aZ.of c);have d:its.toArray.size=xs.length:=by rw[bW];exact r.length.symm
  refine⟨"tuple",_,oQ.lookup,j.typeIs,HT.G7 j f g i (by rw[d];exact b.1) (by rw[d];exact b.2) ?_⟩
  refine⟨.ref a,H,I,rfl,q a H (aB.refl _) ?_⟩;unfold e6;rw[b.1,b.2,wN,r9,cM];exact c
 ·exact Mr J s σ H (.ref a) v vl vu lo hi sl Q I e f g i ⟨a,xs,rfl,aZ.of c,b,λp k=>q p _ (BR k) ah⟩
def Nq:R2:=λx y H Q=>∃a b xs ys,x=.ref a/\y=.ref b/\H a=ih (.tup xs)/\H b=ih (.tup ys)/\xs.length+ys.length<=Us /\∀p H',aB H H'->H' p=ih (.tup (xs++ys))->Q (.ref p) H'
theorem CI:cg X (X7 .Add) Nq:=by
 rintro J s σ H x y v u Q I f g ⟨a,b,xs,ys,rfl,rfl,c,d,i,q⟩;cases xs with
 |nil =>
  cases f
  cases g
  obtain⟨its,j,k,_⟩:=I.tuple (aZ.of c);obtain⟨m,n,p2,_⟩:=I.tuple (aZ.of d);cases j
  exact HT.JZ k p2 ⟨.ref b,H,I,rfl,q b H (aB.refl _) d⟩
 |cons z xs=>exact K9 J s σ H (.ref a) (.ref b) v u Q I f g ⟨a,b,_,ys,rfl,rfl,aZ.of c,aZ.of d,by simp,i,λe=>q a H (aB.refl _) (by rw[e,ee];exact c),λ_ p l=>q p _ (BR l) ah⟩
theorem Lo{k:Key}(h:(cT P w).is k u=true):RelV (kV k) u:=by
 cases k with
 |inl i=>exact ZI (show Zp i u=true from h)
 |inr x=>exact FQ (show Yc x u=true from h)
theorem CJ:∀{xs:am V}{us:am i'},xs.length=us.length->(∀(i:Nat) x u,xs[i]?=ih x->us[i]?=ih u->RelV x u)->Vals xs us
 |[],[],_,_=>.nil
 |[],_::_,h,_=>by simp at h
 |_::_,[],h,_=>by simp at h
 |x::xs,u::us,h,f=>.cons (f 0 x u rfl rfl) (CJ (by simpa using h) λi y v a b=>f (i+1) y v (by simpa using a) (by simpa using b))
theorem Ir(B:X.calm=true):c2 X (.type "list") (λxs H Q=>∃d kvs,xs=[.ref d]/\H d=cr kvs /\∀l,H l=none->Q (.ref l) (upd H l (.lst (kvs.map λa=>kV a.1)))):=by
 rintro J s σ H xs us Q I r ⟨d,kvs,rfl,m,q⟩;obtain⟨u,rfl,C⟩:=vals1 r;cases C
 obtain⟨g,lo,vs,a,n⟩:=Dz I.aJ m;obtain⟨ep,o⟩:=n.dictAt;have f:kvs.length=vs.length:=a.length;refine kdl_call (kdl_dict (kvs:=vs) (ep:=ep) lo) (I.ok.hd B) o (by rw[<-f];exact g) λh' tk z c kp e it=>?_
 refine⟨.ref s.aj,_,I.laid (t':=tk) kp (aU _) (show bH X.prog X.w _ h' _ (.lst (kvs.map λa=>kV a.1)) from⟨by rw[aE];exact g,z.toList,c,?_,by rw[Array.toArray_toList];exact e⟩),rfl,q _ (I.aJ.fresh (aU _))⟩
 refine CJ (by rw[aE,fA];exact f.trans it.1.symm) λi x v t hv=>?_
 obtain⟨k,y,j,hi⟩:=it.2 i v (by rw[<-oS];exact hv)
 obtain⟨A,b,rfl⟩:=gi.mp (by rw[<-dQ];exact t)
 have e:A.1=k:=by
  clear it t hv f o n q g m
  induction a generalizing i with
  |nil=>simp at b
  |cons p _ D =>
   cases i with
   |zero =>
    simp at b j;subst b;rw[p.1,j]
   |succ i=>exact D i (by simpa using j) (by simpa using b)
 rw[e];exact Lo hi
end L2
namespace HT
open PyProof.Rows
section
open SeqAt
open AutoSeq1 (wpAny_loadPart')
open MeetsSeq MeetsSeq2 MeetsSeq3
end
end HT
namespace L2
open Spec PyProof.Rows W HT
theorem l4{α β:Type}{F:α->β->Prop}:∀{l:am α}{m:am β}{i:Nat}{x:α},XH F l m->l[i]?=ih x ->∃y,m[i]?=ih y/\F x y
 |_,_,i,x,.nil,e=>by simp at e
 |_,_,0,x,.cons p _,e=>by simp at e;subst e;exact⟨_,rfl,p⟩
 |_,_,i+1,x,.cons _ t,e=>by simpa using l4 (i:=i) t (by simpa using e)
end L2
namespace HT
open PyProof.Rows
open AutoSeq1 (wpAny_loadPart')
end HT
namespace L2
open Spec PyProof.Rows W HT
end L2
namespace HT
open PyProof.Rows
end HT
namespace HT
open PyProof.Rows W
end HT
namespace HT
open PyProof.Rows W L2
theorem pB:plainId "dict.update.loop" = true:=by decide +kernel
theorem Bd:entryFor table "dict.update.loop" = ih XM.«dict.update.loop» :=entryFor_of_fast (by kernel_rfl)
theorem stored_new{K:Type} [DecidableEq K]{kvs:am (K×i')}{k:K}{v:i'}(h:k ∉ kvs.map (·.1)):stored kvs k v=kvs++[(k,v)]:=by
 unfold stored;rw[aq];intro z;obtain⟨p,a,e⟩:=lG.mp z;exact h (aY.mpr ⟨p,a,by simpa using e⟩)
end HT
namespace HT
open PyProof.Rows
section
open SeqAt
open AutoSeq1 (wpAny_loadPart')
open MeetsSeq MeetsSeq2 MeetsSeq3
end
end HT
namespace L2
open Spec PyProof.Rows W HT
theorem c8{c:Yy}(h:(sc.names.map (·.1)).Nodup/\N'.Nodup/\vn N N' Qd sc=true /\∀p∈sc.names,p.2=.free->c.names.lookup p.1=ih .cell\/c.names.lookup p.1=ih .free:=by decide +kernel)(a:sc.kind=.function:=by rfl)(b:Qd.length=N'.length:=by rfl):bY N c N' Qd sc:=⟨a,h.1,h.2.1,b,Dx h.2.2.1,h.2.2.2⟩
theorem bw{P:am Gv}(h:N.Nodup/\(∀x∈P,sc.names.lookup x=ih .local\/sc.names.lookup x=ih .cell) /\∀y∈sc.names,y.2 ≠ .free:=by decide +kernel)(a:sc.kind=.function:=by rfl)(b:sc.isCoroutine=false:=by rfl)(c:sc.isGenerator=false:=by rfl)(d:N.take P.length=P:=by rfl):bp N P sc:=⟨a,b,c,h.1,d,h.2.1,h.2.2⟩
theorem uz{xs:am Gv}(h:(xs.map V.str)[i]?=ih v):i<(xs.map V.str).length /\∃a:i<xs.length,V.str xs[i]=v/\xs.take (i+1)=xs.take i++[xs[i]]:=by
 have h1:=(bR.mp h).1;have h2:i<xs.length:=by simpa using h1
 exact⟨h1,h2,by simpa [h2] using h,by rw[dX,bz h2];rfl⟩
theorem eQ{n:Nat}(h:n+64<Ys):n+1<Ys:=by omega
theorem gC:3<=Us:=by rw[aX];decide
theorem bF:2<=Us:=UR gC
theorem eo:1<=Us:=UR bF
end L2
namespace L2
open W
structure bV(P:XJ)(w:XT)(K:X2)(mg:Gv->Option i')(base:XD)(CX:gz)(k:Nat)(f:Up)(fd:Xt)(ps:List Gv)(sp:Sp)(x:Gv):Prop where
 G:aT P w K mg base CX k f fd ps sp
 k:Yb K (.ref f)=true
 b:Binds K fd ps []
 m:mg x=ih (.ref f)
section
variable{k:Nat}{p:Zx}{t:TA}
theorem bA(C:bV X.prog X.w X.K X.mg X.base aI k f fd ps sp x)(d:a' k X.A)(g:PA X (e::es) t)(h:Gl X x:=by rfl)(a:(x==("__debug__" : Gv))=false:=by decide)(i:US (e::es) X.env=(false,eval e X.env)::US es X.env:=by rfl)(c:(backTo pos (US es X.env)).any (·.1)=false:=by rfl):PE X (.Call (.Name x p) (e::es) [] pos) (uO sp [] E0 t):=fJ C.G d h C.m C.k C.b .nil c3 g a i c
end
end L2
namespace L2
open Spec PyProof.Rows W
def n7(o:Ye):Option i':=match o.data with|.fields vs=>vs[2]? | _=>none
def Kp(o o':Ye):Prop:=o'.dict=o.dict/\n7 o'=n7 o
def KD{α:Type}:YK α->Prop
 |.pure _=>True
 |.raise _=>True
 |.unsupported _=>True
 |.finish _=>True
 |.rule _ k=>KD (k ())
 |.at _ k=>KD (k ())
 |.load _ _ k=>∀o,KD (k o)
 |.update _ _ f k=>(∀o,Kp o (f o))/\KD (k ())
 |.alloc _ k=>∀a,KD (k a)
 |.loadIfAlive _ k=>∀o,KD (k o)
 |.point _ k=>KD (k ())
 |.register _ _=>False
 |.fresh k=>∀t,KD (k t)
 |.ask k=>∀x,KD (k x)
 |.choose _ _ k=>∀n,KD (k n)
 |.os _ _ k=>∀r,KD (k r)
 |.call _ _ _ _ _=>False
 |.handled _ k=>∀v,KD (k v)
 |.newGen _ k=>∀n,KD (k n)
 |.genState _ k=>∀x,KD (k x)
 |.resume _ _ _ _=>False
 |.yield _ _ _ _=>False
 |.stack k=>∀l,KD (k l)
 |.fork _ _=>False
 |.thread k=>∀n,KD (k n)
 |.await _ _ _ _ _=>False
def RD(h h':XD):Prop:= ∀(a:Up) (o:Ye),h.objs[a]?=ih o ->∃o',h'.objs[a]?=ih o'/\Kp o o'
theorem RD.refl(h:XD):RD h h:=λa o e=>⟨o,e,rfl,rfl⟩
theorem RD.trans{h1 h2 c:XD}(a:RD h1 h2)(b:RD h2 c):RD h1 c:=λx o e=>by
 obtain⟨g,e1,d⟩:=a x o e;obtain⟨h,e2,f⟩:=b x g e1;exact⟨h,e2,f.1.trans d.1,f.2.trans d.2⟩
theorem RD.push(r:RD h0 h)(o:Ye):RD h0 (h.push o):=r.trans λx u e=>⟨u,by
 obtain⟨a,l⟩:=h;show(a.push o)[x]?=ih u;have b:x<a.size:=(wJ.mp e).1;rw[Array.getElem?_push,aq (bI b)];exact e,rfl,rfl⟩
theorem RD.update(r:RD h0 h){f:Ye->Ye}(g:∀o,Kp o (f o)):RD h0 (h.update a f):=r.trans λx u e=>by
 obtain⟨b,l⟩:=h;show ∃o',(b.modify a f)[x]?=ih o'/\_;rw[Array.getElem?_modify];have d:b[x]?=ih u:=e
 by_cases c:a=x
 ·rw[ay c,d];exact⟨f u,rfl,g u⟩
 ·rw[aq c];exact⟨u,d,rfl,rfl⟩
theorem RD.dict(r:RD h h'){o':Ye}(e:h.get? a=ih o)(c:h'.get? a=ih o'):Kp o o':=by
 have b:∀{g:XD}{u:Ye},g.get? a=ih u->g.objs[a]?=ih u:=λ{g u} q=>by
  unfold abm at q;split at q
  ·cases q
  ·exact q
 obtain⟨f,e2,d⟩:=r a o (b e);rw[b c]at e2;cases e2
 exact d
theorem Nr{α:Type}{M:Zb}{Γ:PySem.Ctx}:∀{t:YK α}{Q:α->Zx->Ur->Prop}{E:i'->Zx->Ur->Prop}{p:Zx}{s:Ur},KD t->RD h0 s.heap->Sem.wp M Γ t Q E p s ->
  Sem.wp M Γ t (λv p s'=>Q v p s'/\RD h0 s'.heap) (λv p s'=>E v p s'/\RD h0 s'.heap) p s:=by
 intro t
 induction t with
 |pure a=>intro Q E p s _ r h;exact⟨h,r⟩
 |raise e=>intro Q E p s _ r h;exact⟨h,r⟩
 |unsupported w=>intro Q E p s _ r h;exact h
 |finish e=>intro Q E p s _ r h;exact h
 |rule t k d=>intro Q E p s kd r h;exact d () kd r h
 |«at» q k d=>intro Q E p s kd r h;exact d () kd r h
 |load a q k d=>intro Q E p s kd r h;obtain⟨o,e,h⟩:=h;exact⟨o,e,d o (kd o) r h⟩
 |update a q f k d=>intro Q E p s kd r h;exact⟨h.1,d () kd.2 (r.update kd.1) h.2⟩
 |alloc o k d=>intro Q E p s kd r h;exact d _ (kd _) (r.push o) h
 |loadIfAlive a k d=>intro Q E p s kd r h;exact d _ (kd _) r h
 |point l k d=>intro Q E p s kd r h;exact d () kd r h
 |register a k d=>intro Q E p s kd r h;exact h
 |fresh k d=>intro Q E p s kd r h;exact d _ (kd _) r h
 |ask k d=>intro Q E p s kd r h;exact d _ (kd _) r h
 |choose i n k d=>intro Q E p s kd r h;exact⟨h.1,d _ (kd _) r h.2⟩
 |os q l k d=>intro Q E p s kd r h;exact d _ (kd _) r h
 |call c j g l k d=>intro Q E p s kd r h;exact U6 kd
 |handled own k d=>intro Q E p s kd r h;exact d _ (kd _) r h
 |newGen c k d=>intro Q E p s kd r h;exact d _ (kd _) r h
 |genState g k d=>intro Q E p s kd r h;obtain⟨st,e,h⟩:=h;exact⟨st,e,d _ (kd _) r h⟩
 |resume g rs l k d=>intro Q E p s kd r h;exact U6 kd
 |yield v g l k d=>intro Q E p s kd r h;exact U6 kd
 |stack k d=>intro Q E p s kd r h;exact d _ (kd _) r h
 |fork c k d=>intro Q E p s kd r h;exact U6 kd
 |thread k d=>intro Q E p s kd r h;exact d _ (kd _) r h
 |await a t b l k d=>intro Q E p s kd r h;exact U6 kd
theorem MF{α:Type}{M:Zb}{t:YK α}{Q:α->Ur->Prop}(k:KD t)(h:Ut M A t Q E s) :
  Ut M A t (λv s'=>Q v s'/\RD s.heap s'.heap) (λv s'=>E v s'/\RD s.heap s'.heap) s:=λΓ p hi=>Nr k (RD.refl _) (h Γ p hi)
theorem KD.bind{α β:Type}{f:α->YK β}(h:∀x,KD (f x)):∀{t:YK α},KD t->KD (t.bind f):=by
 intro t
 induction t with
 |pure a=>intro _;exact h a
 |raise e=>intro _;trivial
 |unsupported w=>intro _;trivial
 |finish e=>intro _;trivial
 |rule t k d=>intro kd;exact d () kd
 |«at» q k d=>intro kd;exact d () kd
 |load a q k d=>intro kd o;exact d o (kd o)
 |update a q g k d=>intro kd;exact⟨kd.1,d () kd.2⟩
 |alloc o k d=>intro kd a;exact d a (kd a)
 |loadIfAlive a k d=>intro kd o;exact d o (kd o)
 |point l k d=>intro kd;exact d () kd
 |register a k d=>intro kd;exact U6 kd
 |fresh k d=>intro kd o;exact d o (kd o)
 |ask k d=>intro kd o;exact d o (kd o)
 |choose i n k d=>intro kd o;exact d o (kd o)
 |os q l k d=>intro kd o;exact d o (kd o)
 |call c j g l k d=>intro kd;exact U6 kd
 |handled own k d=>intro kd o;exact d o (kd o)
 |newGen c k d=>intro kd o;exact d o (kd o)
 |genState g k d=>intro kd o;exact d o (kd o)
 |resume g rs l k d=>intro kd;exact U6 kd
 |yield v g l k d=>intro kd;exact U6 kd
 |stack k d=>intro kd o;exact d o (kd o)
 |fork c k d=>intro kd;exact U6 kd
 |thread k d=>intro kd o;exact d o (kd o)
 |await a t b l k d=>intro kd;exact U6 kd
theorem KD.cP{α β:Type}{t:YK α}{f:α->YK β}(h:KD t)(a:∀x,KD (f x)):KD (t >>= f):=KD.bind a h
theorem KD.pure{α:Type}{x:α}:KD (Pure.pure x:YK α):=Vm
theorem KD.iu{α:Type}{w:String}:KD (PySem.unsupported w:YK α):=Vm
theorem tu:KD PySem.stack:=λ_=>Vm
theorem tZ:KD (PySem.load a):=λ_=>Vm
theorem Be{f:Ye->Ye}(h:∀o,Kp o (f o)):KD (PySem.update a f):=⟨h,Vm⟩
theorem HD{v:i'}:KD (fieldsOf v):=by
 unfold fieldsOf;split
 ·refine KD.cP tZ λo=>?_
  split
  ·exact KD.pure
  ·exact KD.iu
 ·exact KD.iu
theorem pJ{v:i'}:KD (field v i):=by
 unfold field;refine KD.cP HD λo=>?_;split
 ·exact KD.pure
 ·exact KD.iu
theorem Hb{x:i'}(hi:i≠2):∀o:Ye,Kp o (Zf (·.setIfInBounds i x) o):=λ⟨c,d,a,s⟩=>by
 cases a <;> first|exact⟨rfl,rfl⟩|exact⟨rfl,Array.getElem?_setIfInBounds_ne hi⟩
theorem m3{v x:i'}(hi:i≠2:=by decide):KD (setField v i x):=by
 unfold setField;split
 ·unfold updateField
  refine KD.cP tZ λo=>?_;split
  ·split
   ·exact Be (Hb hi)
   ·exact KD.iu
  ·exact KD.iu
 ·exact KD.iu
theorem sx{ty:String}{vs:am i'}:KD (newFields ty vs):=by
 unfold newFields newObj
 dsimp only
 split
 ·exact KD.iu
 ·show KD (newObjAsIs _ _ _)
  unfold newObjAsIs;exact KD.cP (λ_=>Vm) λ_=>KD.pure
theorem HE{b:Bool}{l:am YT}:KD (keptBack env b l):=by
 unfold keptBack;split
 ·split
  ·exact KD.pure
  ·unfold underTheClaimsCaller
   exact KD.cP (KD.cP tu λ_=>KD.pure) λ_=>by split <;> exact KD.pure
 ·exact KD.pure
theorem I7{l:am YT}:KD (behindIsImport env l):=by
 unfold behindIsImport;split
 ·exact KD.pure
 ·split
  ·exact KD.pure
  ·exact KD.cP pJ λ_=>KD.pure
theorem BS:∀l:am YT,KD (readyFrames l)
 |[]=>by unfold readyFrames;exact KD.pure
 |env::outer=>by
  unfold readyFrames;split
  ·refine KD.cP tZ λo=>?_
   split
   ·exact KD.pure
   ·exact KD.cP I7 λ_=>KD.cP HE λ_=>KD.cP (Be λ_=>⟨rfl,rfl⟩) λ_=>BS outer
  ·exact KD.iu
theorem sJ:KD (Y' env):=by
 unfold Y';refine KD.cP ?_ λl=>KD.cP ?_ λr=>?_
 ·unfold frameEnvs
  exact KD.cP tu λ_=>KD.pure
 ·unfold frameObject
  split
  ·exact KD.pure
  ·exact KD.cP (BS _) λ_=>KD.pure
 ·split
  ·exact KD.pure
  ·exact KD.iu
theorem tw{b:Bool}:KD (entryPlaceOf f b):=by
 unfold entryPlaceOf;refine KD.cP tu λl=>?_;split
 ·exact KD.pure
 ·exact KD.pure
theorem CK{e:i'}:KD (noteFrame e env):=by
 unfold noteFrame;split
 ·refine KD.cP pJ λa=>?_
  have c:∀f b,KD (setField e 1 =<< (do abI a (<- Y' env) .none (rawInt f) .none (<- entryPlaceOf f b))):=λf b=>KD.cP (KD.cP sJ λ_=>KD.cP tw λ_=>sx) λ_=>m3;split
  ·refine KD.cP pJ λx=>?_
   split
   ·exact KD.pure
   ·exact KD.cP m3 λ_=>KD.cP sJ λ_=>KD.cP tw λ_=>KD.cP sx λ_=>m3
  ·exact KD.cP sJ λ_=>KD.cP tw λ_=>KD.cP sx λ_=>m3
 ·exact KD.iu
theorem sy{e:i'}{f:a2 Up}:KD (setFlight e f):=by
 unfold setFlight;refine KD.cP pJ λtb=>?_;split
 ·exact m3
 ·exact KD.pure
theorem AE{e:i'}:KD (leaving env e):=by
 unfold leaving;exact KD.cP CK λ_=>sy
def gS(n:Option i')(C:Up)(dx:Option Up)(a:Up):HO:=.ext λh=>∃ox vs,h.get? a=ih ox/\ox.cls=.ref C/\ox.dict=dx/\ox.data=.fields vs/\(∀y,n=ih y->vs[2]?=ih y)
section
variable{n:a2 i'}
theorem Lp{vs:Array i'}(e:h.get? a=ih ox)(c:ox.cls=.ref C)(d:ox.dict=dx)(f:ox.data=.fields vs)(z:∀y,n=ih y->vs[2]?=ih y):bH P w H h a (gS n C dx a):=
 ⟨⟨ox,vs,e,c,d,f,z⟩,⟨_,e⟩,λ_ _ ⟨ox,vs,q,r⟩ k=>⟨ox,vs,k _ q,r⟩⟩
theorem Lq{B:XD}{l:am YT}{a0:i'}(f:X' B l a (.ref C) a0 h)(r:∃ox,h.get? a=ih ox/\ox.dict=dx/\(∀y,n=ih y->n7 ox=ih y)):bH P w H h a (gS n C dx a):=by
 obtain⟨_,_,_,i,vs,_,_,_,b,g,c,_⟩:=f;obtain⟨ox,e,d,z⟩:=r;rw[b]at e;cases e;exact Lp b g.1 d c λy=>by have:=z y;unfold n7 at this;rw[c]at this;exact this
theorem Lr(ok:cx P w H h)(n:H a=none)(o:bH P w (upd H a O) h a O):cx P w (upd H a O) h:=λb u e=>by
 by_cases c:b=a
 ·subst c
  rw[ah]at e;cases e;exact o
 ·rw[ag c]at e
  exact(ok b u e).e4 (λ_ _ _ q=>q) (λx q=>by rw[ag (aA q n)];exact q) λx xs q=>by rw[ag (aA q n)];exact q
theorem Un.add{fs ex:am Up}(u:Un fs ex H H' h h')(c:H' a=none)(n:h.get? a=none):Un fs ex H (upd H' a O) h h':=
 ⟨u.keep,u.slot,λb o e q x=>by
  have:b≠a:=by rintro rfl;rw[n]at e;cases e
  rw[ag this];exact u.free b o e q x,u.there,λb xs e=>by
  have q:=u.gQ b xs e;rw[ag (aA q c)];exact q,λb o v e=>by
  have q:=u.gR b o v e;rw[ag (aA q c)];exact q,λb ps e=>by
  obtain⟨m,q⟩:=u.hG b ps e;exact⟨m,by rw[ag (aA q c)];exact q⟩⟩
theorem J8:upd (hF H a) a O=upd H a O:=by
 funext b;unfold upd
 by_cases c:b=a
 ·rw[ay c,ay c]
 ·rw[aq c,aq c,lX c]
end
section
variable{fs:am (Gv×V)}{f:Gv}{n:a2 i'}
theorem I8{b:Bool}{Q:i'->Ur->Prop}(I:Inv X J σ H s)(e:H a=ih (gS n C (ih d) a))(m:H d=ih (e7 d fs))(c:eH X.K C)(no:XN X.K (.ref C) f=ih none)(l:fs.lookup f=ih v)
  (h:∀u s',Inv X J σ H s'->RelV v u->Q u s'):Ut X.c' A (getAttr (.ref a) f b) Q E s:=by
 obtain⟨ox,vs,j,o,p,q,_⟩:=(I.aJ a _ e).1;obtain⟨_,mA,t,r,_⟩:=I.tX m;obtain⟨od,k,look⟩:=pq t;have g:=r f;rw[l]at g;obtain⟨u,w,i⟩:=d7.some_of g;have x:InstAt s.heap a ox C (ih od):=⟨j,o,by unfold notCls;rw[q],by rw[p];exact k⟩
 exact Le I.bQ x c (findObj_own c.hd no rfl (by rw[look,w])) (A0 i) (h u _ (I.tok _) i)
end
section
variable{f:Gv}
def Nt(X:Cx)(ta:TE)(f:Gv):TE:=λσ H Q=>ta σ H λx Y=>∃a n C d fs v,x=.ref a/\Y a=ih (gS n C (ih d) a)/\Y d=ih (e7 d fs)/\eH X.K C/\XN X.K (.ref C) f=ih none/\fs.lookup f=ih v/\Q v Y
theorem CL(b:PE X e ta)(g:attributeBase e f X.env (eval e X.env)=eval e X.env:=by rfl):PE X (.Attribute e f pos) (Nt X ta f):=by
 intro J s σ H Q I h;refine Cz g (aG (b J s σ H _ I h) λu s1 t=>?_);obtain⟨x,Y,i,j,a,_,C,d,fs,v,ex,k,m,c,n,l,q⟩:=t;subst ex;obtain rfl:u=UN a:=j;exact I8 i k m c n l λr s2 o p=>⟨v,Y,o,p,q⟩
end
theorem HF{D:Ends}{R:Up->Up->Option Up->Hp->Prop}(I:Inv X J σ H s)(o:X.calm=true)(p:PE X e te)
  (h:te σ H λv Y=>∃a C dx i,v=.ref a/\Y a=ih (cJ C dx a)/\(∀d,dx=ih d ->∃fs,Y d=ih (e7 d fs))/\eH X.K C/\fU X.K C i=true/\R a C dx Y)
  (j:∀a C dx Y s1,Inv X J σ Y s1->Y a=ih (cJ C dx a)->R a C dx Y->X.xe (.ref a) s1) :
  wA X (exec (.Raise (ih e) none pos) X.env) (SP X J D) X.xe s:=by
 rw[arm_exec_Raise];refine ae (j3 (show Ut _ _ (raiseStmt X.env (ih (do let v <- eval e X.env;standAt pos;pure v)) none) _ _ _ from ?_));unfold raiseStmt;refine ae (ae (aG (p J s σ H _ I h) λu s1 aa=>?_));obtain⟨v,Y,b,r,a,C,dx,i,w,f,y,c,q,l⟩:=aa;refine ae (j3 (ao ?_));subst w;obtain rfl:u=.ref a:=r;obtain⟨ox,od,t,inst,rfl⟩:=b.Lj f y;have g:ZH X.c' s1.heap (isType (.ref a)) false:=λF G L s' k z=>by
  simp only[isType,loadHead];exact ae (wm (k _ _ inst.at_) (ao z))
 have m:ZH X.c' s1.heap (isInstance (.ref a) (.type "BaseException")) true:=inst.type.andThen (wD b.bQ c.be);obtain⟨M,N,O,qn,bs,B,P,sub,Q,E,S,T,U,V,W,xa,mN,A,_⟩:=(pz b.bQ q).ex;have n:s1.TypeIs (.ref C) "type" :=⟨_,A,rfl⟩;refine ae (ao (ae (d5 ?_)));unfold excFromValue isExcClass;refine ae (ae (g.here (ao ?_)));refine ae (m.here (ao ?_));refine ae (g.here ?_);unfold raisedInstance;refine ae (ae (inst.type.here (ae (ji n ?_))));rw[ay (show(XS "type" == XS "type")=true from by decide)]
 refine ao ?_;unfold setFlight raiseNew;refine ae (ae (lB inst.at_ rfl (x:=.none) rfl ?_));rw[aq (show ¬ ((Vv != Vv)=true) from by decide)]
 refine ao (ae (wpAny_handled_none (b.ok.hd o) ?_))
 first
  |exact wU (j a C dx Y s1 b f l)
  |exact ae (ao (wU (j a C dx Y s1 b f l)))
def cQ(P:XJ)(w:XT):gz:=λouter H s E e s'=>∃(a:Up) (n:Option i') (C:Up) (a0:i') (dx:Option Up) (H':Hp) (B:XD),e=.ref a/\s'.os=s.os/\YH s'.gens/\X' B outer a (.ref C) a0 s'.heap /\
 (∃ox,s'.heap.get? a=ih ox/\ox.dict=dx/\(∀y,n=ih y->n7 ox=ih y))/\(∀h',B.StaysIn h'->s'.heap.UpToSlots h'->Un (d3 outer) [] H H' s.heap h'/\cx P w H' h')/\H' a=none/\s.heap.get? a=none/\E (.ref C) (ih a) (upd H' a (gS n C dx a))
theorem nH{α:Type}{M:Zb}{t:YK α}{Q a:α->Ur->Prop}(k:KD t)(h:Ut M A t Q E s)(q:∀v s',Q v s'->RD s.heap s'.heap->a v s'):Ut M A t a E s:=
 hW (MF k h) (λv s' z=>q v s' z.1 z.2) λ_ _ z=>z.1
section
variable{E:XK}
def Ls(K:X2)(H0:Hp)(E:XK)(te:TE):TS:=λ_ σ H=>te σ H λv Y=>∃a C dx i,v=.ref a/\Y a=ih (cJ C dx a)/\(∀d,dx=ih d ->∃fs,Y d=ih (e7 d fs))/\eH K C/\fU K C i=true/\H0 a=none/\E (.ref C) (ih a) (upd Y a (gS (ih .none) C dx a))
theorem Bf(n:PE (dV (cQ P w) P w K mg base N qual scope f cd A outer s H E) e te) :
  PS (dV (cQ P w) P w K mg base N qual scope f cd A outer s H E) (.Raise (ih e) none pos) (Ls K H E te):=by
 intro J s1 σ Y D I h;refine HF (R:=λa C dx H2=>H a=none/\E (.ref C) (ih a) (upd H2 a (gS (ih .none) C dx a))) I rfl n h λa C dx H2 s2 c i ⟨h0,p⟩=>?_;have fr:s2.heap.FunFrames base (envOfC qual scope s.aj f cd::outer):=c.stack;have all:∀env∈(envOfC qual scope s.aj f cd::outer),∀b,env.frame=ih b->b∈a::d3 (envOfC qual scope s.aj f cd::outer):=λenv m b r=>a7 _ (oM.mpr ⟨env,m,r⟩);obtain⟨t,d⟩:=c.excAt i;have new:s.heap.get? a=none:=by
  have u:Un (d3 outer) [] H H2 s.heap s2.heap:=c.base;cases q:s.heap.get? a with
  |none=>rfl
  |some o =>
   have:=u.free a o q h0 (by simp)
   rw[i]at this;cases this
 show Ut (UK P w) _ (leaving _ (.ref a)) _ _ _;refine nH AE (wpAny_leaving_firstW (Q:=λ_ s'=>∃h',s'={ s2 with heap:=h' }/\Heap.LeftW (hideAll s2.heap (a::d3 (envOfC qual scope s.aj f cd::outer))) (envOfC qual scope s.aj f cd::outer) a (.ref C) (.ref t) s2.heap h') (base:=hideAll s2.heap (a::d3 (envOfC qual scope s.aj f cd::outer))) (L:=s.aj) (a0:=.ref t) c.ok.frames (funFrames_hide fr all) rfl d (λb o q=>of_hideAll _ q) (hideAll_none _ aV) rfl rfl rfl λh' j=>⟨h',rfl,j⟩) λ_ s' ⟨h',es,j⟩ k=>?_;subst es;obtain⟨v,⟨_,_,x⟩,z,B⟩:=j;have l:X' (hideAll s2.heap (a::d3 (envOfC qual scope s.aj f cd::outer))) outer a (.ref C) (.ref t) h':=⟨v,hideAll_none _ aV,x,z⟩;obtain⟨ox,g,_⟩:=l.there;refine⟨a,ih .none,C,.ref t,dx,hF H2 a,hideAll s2.heap (a::d3 (envOfC qual scope s.aj f cd::outer)),rfl,c.os,c.bare,l,⟨ox,g,(k.dict d g).1,λy F=>by cases F;exact(k.dict d g).2⟩,λM G up=>?_,by unfold hF;rw[ay rfl],new,by rw[J8];exact p⟩
 exact c.hidden rfl rfl rfl i h0 G (wV B up)
end
theorem aQ.QD{k:Nat}(F:aQ K x qual st f fd)(S:bp N ps (aH st))(b:∀vs H Q E,sp vs H Q E->vs.length=ps.length)
  (a:∀(Qa:i') (A:XW) (outer:am YT) (s:Ur) (H:Hp) (vs:am V) (Q:VK) (E:XK),a' k (A.deeper (envOfC qual (aH st) s.aj f Qa))->sp vs H Q E ->
   ∃t,d8 (dV (cQ P w) P w K mg base N qual (aH st) f Qa A outer s H E) (bB st) t/\t { nx:=λ_ H'=>Q .aO H',rt:=Q } (start N vs) H):aT P w K mg base (cQ P w) (k+1) f fd ps sp:=by
 obtain⟨oc,od,kV,Qc,pm,an,Qa,ct,Ql,rfl,lk,c⟩:=F.ex;exact uP lk c S b λA outer s H vs Q E e d=>a Qa A outer s H vs Q E e d
theorem Aj{Q:Bool->Ur->Prop}{i:a2 i'}{r:Bool}(X:K.In s.heap)(q:fU K B i=true)(k:mroIn K C (.ref B)=ih r)(e:s.heap.get? a=ih ox)(l:ox.cls=.ref C)(h:Q r s) :
  Ut (UK P w) A (excMatches (.ref a) (.ref B)) Q E s:=by
 obtain⟨b,N,p,qn,bs,n,t,sub,u,o,v,x,y,z,D,F,mN,c,_,_,T⟩:=(pz X q).ex;have L:ZH (UK P w) s.heap (isSubtype (.ref C) (.ref B)) r:=wD X k;obtain⟨G,g,d,tk,os⟩:=s;have m:b.contains (.type "BaseException")=true:=T.hasType (by decide)
 have j:(UN B::b).contains (.type "BaseException")=true:=by rw[List.contains_cons,m,Bool.or_true]
 have f:=tc_notTuple;unfold excMatches
 repeat (first|(with_reducible refine r1 e ?_;rw[l])|with_reducible refine r1 c ?_|(with_reducible refine wpAny_isSubtype_exc c ?_;rw[j])|(with_reducible refine L.here ?_)|wp_step)
 cases r <;> (wp_walk;exact h)
def Cx.hg(X:Cx)(J:List (Up×Ye))(E:St->XK):Cx:={ X with pn:=X.pn++J,xe:=λe s'=>∃cy H s1,Inv X J cy H s1/\cQ X.prog X.w X.stack H s1 (E cy) e s' }
section
variable{Qp:am (Up×Ye)}{E:St->XK}{D:Ends}
theorem Inv.hg(I:Inv X J σ H s):Inv (X.hg J E) [] σ H s:=
 ⟨⟨I.ok.mod,I.ok.kind,I.ok.glob,I.ok.blt,I.ok.above,I.ok.inj,I.ok.has,I.ok.jS,I.ok.hd,I.ok.frames,I.ok.lg,I.ok.lj,I.ok.bs,I.ok.hQ,I.ok.jJ,I.ok.jK,I.ok.fq,I.ok.ir⟩,I.os,I.bare,I.base,I.loc,I.cell,I.free,I.eO,(λp a=>I.pin p (by rw[ee]at a;exact a)),I.aJ,I.len⟩
theorem Inv.kN(ok:X.Ok)(I:Inv (X.hg J E) Qp σ H s):Inv X J σ H s:=
 ⟨ok,I.os,I.bare,I.base,I.loc,I.cell,I.free,I.eO,(λp a=>I.pin p (gY _ a)),I.aJ,I.len⟩
theorem Cx.Ok.Nu(ok:(X.hg J E).Ok):X.Ok:=⟨ok.mod,ok.kind,ok.glob,ok.blt,ok.above,ok.inj,ok.has,ok.jS,ok.hd,ok.frames,ok.lg,ok.lj,ok.bs,ok.hQ,ok.jJ,ok.jK,ok.fq,ok.ir⟩
theorem SP.kN{f:Flow}(ok:X.Ok)(h:SP (X.hg J E) Qp D f s):SP X J D f s:=by
 cases f with
 |next=>obtain⟨a,H',I,q⟩:=h;exact⟨a,H',I.kN ok,q⟩
 |brk=>obtain⟨a,H',I,q⟩:=h;exact⟨a,H',I.kN ok,q⟩
 |cont=>obtain⟨a,H',I,q⟩:=h;exact⟨a,H',I.kN ok,q⟩
 |ret u=>obtain⟨v,a,H',I,r,q⟩:=h;exact⟨v,a,H',I.kN ok,r,q⟩
end
section
variable{Qo:am (Up×Ye)}{EE:St->XK}{k:Nat}{p:Zx}{t:TA}
def Dj(sp:Sp)(EE:St->XK)(t:TA):TE:=λσ H Q=>t σ H λvs Y=>sp vs Y Q (EE σ)
theorem J9(F:aT X.prog X.w X.K X.mg X.base (cQ X.prog X.w) k f fd ps sp)(j:a' k X.A)(l:Gl X x)(m:X.mg x=ih (.ref f))(n:Yb X.K (.ref f)=true)(o:Binds X.K fd ps [])
  (v:PA (X.hg Qo EE) (e::es) t) (d:(x==("__debug__" : Gv))=false:=by decide) (y:US (e::es) X.env=(false,eval e X.env)::US es X.env:=by rfl) (g:(backTo pos (US es X.env)).any (·.1)=false:=by rfl) :
  PE (X.hg Qo EE) (.Call (.Name x p) (e::es) [] pos) (Dj sp EE t):=by
 intro J s σ H Q I h;refine oP (l3 I l m ?_ d);refine callWith_K (h₀:=X.base) I.ok.mod.lb n (aG (v pos J s σ H _ I h) λus s1 ⟨vs,Y,a,r,q⟩=>⟨a.bQ,?_⟩) y g;have z:us.length=ps.length:=by rw[<-r.length];exact F.len _ _ _ _ q
 have c:=o s1 us a.bQ (by rw[ee];exact z)
 rw[ee]at c;refine j5 (lz (F.run X.A X.stack s1 Y ⟨us,[]⟩ us vs _ _ j a.qQ c r q) λi s2 b=>?_);cases i with
 |ok B =>
  cases B with
  |ret u=>exact a.after b
  |next=>exact U6 b
  |brk=>exact U6 b
  |cont=>exact U6 b
 |error C=>exact⟨σ,Y,s1,a.kN a.ok.Nu,b⟩
end
theorem p9{M:Zb}{Q:Unit->Ur->Prop}(I:Inv X J σ H s)(F:X.N.Nodup)(hi:X.N[i]?=ih x)(G:X.env.scope.names.lookup x=ih .local)
  (h:∀s',Inv X J (σ.set i none) H s'->Q () s'):Ut M A (do bindName X.env x .none;unbindBehindTheSuite X.env x pos) Q E s:=by
 obtain⟨m,r,K⟩:=id I.loc;have B:(X.env.scope.kind == .class||(X.env.scope.kind == .module&&X.env.locals != X.env.globals))=false:=by rw[I.ok.kind];rfl
 have fc:=I.fc;refine wpAny_nameGoes_keeps G r B λh' v C a=>?_;obtain⟨V,_,_,U,_⟩:=id r;have u:cx X.prog X.w H h':=λb L e=>by
  refine(I.aJ b L e).e4 (λc t hc q=>(a.2 c ?_).trans q) (λ_ q=>q) λ_ _ q=>q;rintro rfl;rcases hc with rfl|hc
  ·rw[I.free]at e;cases e
  ·rw[I.free]at hc;cases hc
 refine h _ ⟨I.ok,I.os,I.bare,⟨λb o e n g f=>?_,λb o e n g f=>?_,I.base.free,λb o e f=>?_,I.base.gQ,I.base.gR,I.base.hG⟩,⟨_,C,λj y O e1 e2 e3=>?_⟩,λy c e=>?_,I.free,I.eO,λp P=>?_,u,by simpa using I.len⟩
 ·exact(a.2 b (bI (eU (bt e) I.ok.above))).trans (I.base.keep b o e n g f)
 ·obtain⟨sl,e1⟩:=I.base.slot b o e n g f
  exact⟨sl,(a.2 b (bI (eU (bt e) I.ok.above))).trans e1⟩
 ·obtain⟨o',e1⟩:=I.base.there b o e f
  exact⟨o',(a.2 b (bI (eU (bt e) I.ok.above))).trans e1⟩
 ·by_cases l:j=i
  ·subst l
   by_cases D:j<σ.length
   ·rw[FU D]at e2;cases e2
   ·rw[wW (by rw[ZY];omega)]at e2;cases e2
  ·rw[FV (aP l)]at e2
   obtain⟨R,S,q⟩:=K j y O e1 e2 e3;refine⟨R,S,?_⟩;rcases q with⟨k,e⟩|⟨k,c,e,z⟩
   ·refine .inl ⟨k,?_⟩
    have:y≠x:=λe=>l (tj F e1 (e ▸ hi));simp[this,e]
   ·exact .inr ⟨k,c,e,z.sameBut a (fc y c e)⟩
 ·obtain⟨t,z⟩:=I.cell y c e
  exact⟨t,z.sameBut a (fc y c e)⟩
 ·obtain⟨e,n,ne,T,d⟩:=I.pin p P
  exact⟨(a.2 p.1 ne).trans e,n,ne,T,d⟩
def EF(j:Nat)(D:Ends):Ends:={ nx:=λσ H=>D.nx (σ.set j none) H,rt:=D.rt,bk:=λσ H=>D.bk (σ.set j none) H,ct:=λσ H=>D.ct (σ.set j none) H }
section
variable{p5 p6 p7:Zx}{b0 b1:U7}{Qs:am U7}{tb:Ends->TS}{th:Up->TS}{ci:a2 i'}
def MG(tb:Ends->TS):TS:=λD σ H=>tb D D σ H
end
section
variable{E:XK}
theorem qC:Passes (cQ P w) (dV (cQ P w) P w K mg base N qual scope f cd A outer s H E) E:=by
 rintro J σ Y s1 e s2 I ⟨a,n,C,j,dx,H',B,rfl,os,g,m,⟨ox,h,t,v⟩,p,x,new,D⟩;show Ut (UK P w) _ (leaving _ (.ref a)) _ _ _;have r:s1.os=s.os:=I.os;refine nH AE (wpAny_leaves_onW (Q:=λ_ s'=>∃h',s'={ s2 with heap:=h' }/\X' B outer a (.ref C) j h'/\s2.heap.UpToSlots h') I.ok.frames rfl m λh' c up=>⟨h',rfl,c,up⟩) λ_ s' ⟨h',es,c,up⟩ k=>?_;subst es;obtain⟨o',d,_⟩:=c.there;refine⟨a,n,C,j,dx,H',B,rfl,os.trans r,g,c,⟨o',d,(k.dict h d).1.trans t,λy F=>(k.dict h d).2.trans (v y F)⟩,λi G L=>?_,x,?_,D⟩
 ·obtain⟨u,ok⟩:=p i G (wV up L)
  have l:=I.uM (s':={ s2 with heap:=i }) os u ok g (λb z=>absurd z (by simp))
  exact⟨l.base,l.aJ⟩
 ·cases q:s.heap.get? a with
  |none=>rfl
  |some o =>
   obtain⟨M,e2⟩:=I.base.there a o q (by show a ∉ ([]:am Up);simp)
   rw[new]at e2;cases e2
end
end L2
namespace L2
open W
section
variable{f0:Up}{E:XK}{k:Nat}{p:Zx}{t:TA}
theorem Lu(C:bV P w K mg base (cQ P w) k f fd ps sp x)(d:a' k (dV (cQ P w) P w K mg base N qual scope f0 cd A outer s H E).A)(g:PA (dV (cQ P w) P w K mg base N qual scope f0 cd A outer s H E) (e::es) t)(h:Gl (dV (cQ P w) P w K mg base N qual scope f0 cd A outer s H E) x:=by rfl)(a:(x==("__debug__" : Gv))=false:=by decide)(i:US (e::es) (dV (cQ P w) P w K mg base N qual scope f0 cd A outer s H E).env=(false,eval e (dV (cQ P w) P w K mg base N qual scope f0 cd A outer s H E).env)::US es (dV (cQ P w) P w K mg base N qual scope f0 cd A outer s H E).env:=by rfl)(c:(backTo pos (US es (dV (cQ P w) P w K mg base N qual scope f0 cd A outer s H E).env)).any (·.1)=false:=by rfl):PE (dV (cQ P w) P w K mg base N qual scope f0 cd A outer s H E) (.Call (.Name x p) (e::es) [] pos) (uO sp [] E t):=fJ C.G d h C.m C.k C.b .nil qC g a i c
end
section
variable{Qo:am (Up×Ye)}{EE:St->XK}{k:Nat}{p:Zx}{t:TA}
theorem Lv(C:bV X.prog X.w X.K X.mg X.base (cQ X.prog X.w) k f fd ps sp x)(d:a' k X.A)(g:PA (X.hg Qo EE) (e::es) t)(h:Gl X x:=by rfl)(a:(x==("__debug__" : Gv))=false:=by decide)(i:US (e::es) X.env=(false,eval e X.env)::US es X.env:=by rfl)(c:(backTo pos (US es X.env)).any (·.1)=false:=by rfl):PE (X.hg Qo EE) (.Call (.Name x p) (e::es) [] pos) (Dj sp EE t):=J9 C.G d h C.m C.k C.b g a i c
end
end L2
namespace L2
open Spec PyProof.Rows W HT
theorem iR{t u:TS}{D:Ends}(h:∀U:TS,U=u->let a:=σ;let E:Ends:={ D with nx:=U D };t E a H):vc t u D σ H:=h u rfl
theorem cp{U t u:TS}{D:Ends}{a:VK}{bk ct:St->Hp->Prop}(b:U=vc t u)(h:∀U:TS,U=u->let c:=σ;let E:Ends:={ D with nx:=U D };t E c H):(Ends.mk (U D) a bk ct).nx σ H:=by subst b;exact h u rfl
theorem i4{U t:TS}{D:Ends}{a:VK}{bk ct:St->Hp->Prop}(b:U=t)(h:let c:=σ;t D c H):(Ends.mk (U D) a bk ct).nx σ H:=by subst b;exact h
theorem jx{g:TG}{x:V}{D:Ends}(h:let b:=σ;let E:=D;g x b H λa H2=>tb E a H2):g x σ H λa H2=>tb D a H2:=h
def Nv(t:TA):TE:=λσ H Q=>t σ H λxs Y=>xs.length<=Us /\∀p H',aB Y H'->Y p=none->H' p=ih (.tup xs)->Q (.ref p) H'
def DB(t:TA):TE:=λσ H Q=>t σ H λxs Y=>xs.length<=Us /\∀p H',aB Y H'->Y p=none->H' p=ih (.lst xs)->Q (.ref p) H'
theorem gL{o:HO}(a:H p=none):aB H (upd H p o):=λb u e=>by rw[ag (aA e a)];exact e
section
variable{t:TA}{k:Nat}
theorem b6(h:PA X es t):PE X (.Tuple es k pos) (Nv t):=by
 intro J s σ H Q I d;refine wpAny_Tuple_spliced (aG (h pos J s σ H _ I d) λus s1 ⟨xs,Y,a,r,z,q⟩=>⟨by rw[<-r.length];exact z,?_⟩)
 have c:Y s1.aj=none:=a.aJ.fresh (aU _);refine⟨.ref s1.aj,upd Y s1.aj (.tup xs),a.laid (t':=s1.toks) (λb u e=>a8 _ e) (aU _) ?_,rfl,q _ _ (gL c) c ah⟩;exact⟨z,us,r,⟨_,b5 _ rfl,rfl,_,rfl,rfl⟩⟩
theorem kO(h:PA X es t):PE X (.List es pos) (DB t):=by
 intro J s σ H Q I d;refine wpAny_List_spliced (aG (h pos J s σ H _ I d) λus s1 ⟨xs,Y,a,r,z,q⟩=>⟨by rw[<-r.length];exact z,?_⟩)
 have c:Y s1.aj=none:=a.aJ.fresh (aU _);refine⟨.ref s1.aj,upd Y s1.aj (.lst xs),a.laid (t':=s1.toks) (λb u e=>a8 _ e) (aU _) ?_,rfl,q _ _ (gL c) c ah⟩;exact⟨z,us,0,r,b5 _ rfl⟩
end
theorem aQ.bG{k:Nat}(F:aQ K x qual st f fd)(S:bp N ps (aH st))
  (a:∀(Qa:i') (A:XW) (outer:am YT) (s:Ur) (H:Hp) (vs:am V) (Q:VK) (E:XK),a' k (A.deeper (envOfC qual (aH st) s.aj f Qa))->sp vs H Q E ->
   let X:=(dV aI P w K mg base N qual (aH st) f Qa A outer s H E).ll
   ∃t,d8 X (bB st) t/\t { nx:=λ_ H'=>Q .aO H',rt:=Q } (start N vs) H)
  (b:∀vs H Q E,sp vs H Q E->vs.length=ps.length:=by intro _ _ _ _ h;obtain⟨rfl,_⟩:=h;rfl):aT P w K mg base aI (k+1) f fd ps sp:=F.ok S b a
theorem aQ.vq{k:Nat}(F:aQ K x qual st f fd)(S:bp N ps (aH st))
  (a:∀(Qa:i') (A:XW) (outer:am YT) (s:Ur) (H:Hp) (vs:am V) (Q:VK) (E:XK),a' k (A.deeper (envOfC qual (aH st) s.aj f Qa))->sp vs H Q E ->
   let X:=dV (cQ P w) P w K mg base N qual (aH st) f Qa A outer s H E
   ∃t,d8 X (bB st) t/\t { nx:=λ_ H'=>Q .aO H',rt:=Q } (start N vs) H)
  (b:∀vs H Q E,sp vs H Q E->vs.length=ps.length:=by intro _ _ _ _ h;obtain⟨rfl,_⟩:=h;rfl):aT P w K mg base (cQ P w) (k+1) f fd ps sp:=F.QD S b a
theorem J'{h0:Yx}{a:am Yx}{t:TS}(h:d8 X body t)(b:X.xe=λ_ _=>False):PS X (.Try body (h0::a) [] [] pos) t:=by
 intro J s σ H D I c;have d:∀{α:Type}{tt:YK α}{Q:α->Ur->Prop}{E:i'->Ur->Prop}{s':Ur},wA X tt Q X.xe s'->wA X tt Q E s':=λz=>by rw[b]at z;exact Gf z
 refine wpAny_Try_except (aG (d (h J s σ H D I c)) λf s1 z=>?_);cases f with
 |next=>exact oN z
 |brk=>exact z
 |cont=>exact z
 |ret u=>exact z
theorem Bg(n:X.calm=true):c2 X (.builtin "any") (λxs H Q=>∃(p:Up) (bs:am Bool),xs=[.ref p]/\au X.K H p (bs.map V.bl)/\Q (.bl (bs.any id)) H):=by
 rintro J s σ H xs us Q I r ⟨p,bs,rfl,g,q⟩;obtain⟨u,rfl,t⟩:=vals1 r;cases t
 obtain⟨its,c,a,w⟩:=I.list g;have j:=c.length;have f:its=bs.map Yk:=by
  clear q g a w r j
  induction bs generalizing its with
  |nil=>cases c;rfl
  |cons b bs x =>
   cases c with
   |cons y z=>cases y;rw[x _ z];rfl
 have new:∀b o,s.heap.get? b=ih o->b≠s.aj:=λb o e=>bI (bt e);obtain⟨ol,k,_⟩:=id a.isList;refine call_any_walk (rZ a.isList ?_);refine⟨s.aj,_,_,_,_,_,λi=>bs.getD i false,rfl,Zy (A:=X.A.in1) (I.ok.hd n) s.aj p (new p ol k) its.toArray,⟨⟨_,b5 _ rfl,rfl,rfl⟩,a.isList.at λo e=>a8 _ e⟩,λi v s2 C D hv l=>?_,λh' tk kp=>?_⟩
 ·rw[f]at hv
  have:bs[i]?.map Yk=ih v:=by simpa using hv
  obtain⟨b,d,rfl⟩:=gi.mp this;refine iB ?_;have e:bs.getD i false=b:=by rw[gk,d];rfl
  exact e ▸ l
 ·have m:(Xs its.toArray.size).any (λi=>bs.getD i false)=bs.any id:=by
   have B:its.toArray.size=bs.length:=by rw[f];simp
   rw[B]
   apply ly.mpr
   simp only[lG,je]
   constructor
   ·rintro⟨i,hi,e⟩
    exact⟨bs[i],gj hi,by simpa [Yz,hi] using e⟩
   ·rintro⟨b,d,e⟩
    obtain⟨i,hi,rfl⟩:=wM d;exact⟨i,hi,by simpa [Yz,hi] using e⟩
  rw[m];exact⟨.bl _,H,I.kept (t':=tk) λb o e=>kp b o (by simpa using new b o e) (a8 _ e),rfl,q⟩
def vQ(x:Gv):It:=⟨λi _=>i<x.cps.size,λi H v H'=>H'=H /\∃c,x.cps[i]?=ih c/\v=.str ⟨#[c]⟩,λi _=>x.cps.size<=i⟩
theorem BU(it:Up)(x:Gv)(t:Tok)(T:String)(L : ["enumerate","zip","dict_itemiterator","dict_reverseitemiterator","odict_iterator","itertools.zip_longest","itertools.pairwise"].contains T=false)
  (W:∀F:XW,F.handled=none->Walks P w F it [it] [it] x.cps.size (SignAt x) (λi h=>h.IsStrIter it T x t i))
  (M:∀(A:XW) (i:Nat) (s:Ur) (Q:i'->Ur->Prop) (E:i'->Ur->Prop),s.heap.IsStrIter it T x t i->Q (.ref it) s->Ut (UK P w) A (pyIter (.ref it)) Q E s):Turn P w K tg (vQ x) [it] it (λi h=>i<=x.cps.size/\h.IsStrIter it T x t i) where
 mem:=by simp
 obj:=λi h st b a=>by
  obtain rfl:b=it:=by simpa using a
  obtain⟨_,o,e,c,d⟩:=st;exact⟨o,e,λv z=>by rw[d]at z;cases z⟩
 keep:=λi h h' st k=>by
  obtain⟨l,o,e,r⟩:=st;exact⟨l,o,k it (by simp) _ e,r⟩
 item:=by
  intro X j m n p i J s σ H E I f st g;subst j m n;obtain⟨f0,q,N,y,B,C⟩:=f it (by simp)
  refine(W X.A (I.ok.hd p)).item i s _ _ g st.2 λv h' tk hv D kk=>?_;obtain⟨c,u,G,rfl⟩:=hv;have O:Inv X J σ H { s with heap:=h',toks:=tk }:=I.turned (λb o a e=>kk b o (by simpa using a) e) f0 q y B C
  obtain⟨o,e,R,d⟩:=id D;exact⟨_,rfl,qA (s:={ s with heap:=h',toks:=tk }) e R d L ⟨.str ⟨#[c]⟩,H,O,⟨u,rfl⟩,⟨rfl,c,G,rfl⟩,⟨g,D⟩,λb a=>(f b a).1⟩⟩
 done:=by
  intro X j m n p i J s σ H E I f st g;subst j m n;obtain⟨f0,q,N,y,B,C⟩:=f it (by simp)
  have S:i=x.cps.size:=Z5 st.1 g;subst S;exact(W X.A (I.ok.hd p)).done s _ _ st.2 λh' tk kk=>⟨rfl,I.turned (λb o a e=>kk b o (by simpa using a) e) f0 q y B C⟩
 self:=λA i s Q E st h=>M A i s Q E st.2 h
def O4(te:TE):TI:=λσ H R=>te σ H λv Y=>∃x,v=.str x/\R (vQ x) Y
theorem MH(g:PE X e te):PI X tg e (O4 te):=by
 intro J s σ H R I h;refine aG (g J s σ H _ I h) λv s1 n=>?_;obtain⟨y,Y,a,i,x,j,q⟩:=n;subst j;obtain⟨t,rfl⟩:=i;have d:∀o:Ye,Inv X J σ Y { s1 with heap:=s1.heap.push o }:=λo=>a.kept (t':=s1.toks) λb m z=>a8 _ z;have fp:∀b ∈ [s1.aj],fX X J Y b:=λb k=>by
  obtain rfl:b=s1.aj:=by simpa using k
  exact a.i1 (aU _) (a.aJ.fresh (aU _))
 cases f:x.cps.all (· < 128)
 ·refine wpAny_pyIter_wide f ?_
  exact⟨s1.aj,[s1.aj],_,_,Y,rfl,d _,BU s1.aj x t "str_iterator" (by decide) (λl c=>Walks.strWide c _ x t) (λ_ _ _ _ _ st h=>wpAny_pyIter_striter_wide st h),⟨bx _,_,b5 _ rfl,rfl,rfl⟩,fp,q⟩
 ·refine wpAny_pyIter_ascii f ?_
  exact⟨s1.aj,[s1.aj],_,_,Y,rfl,d _,BU s1.aj x t "str_ascii_iterator" (by decide) (λl c=>Walks.strAscii c _ x t) (λ_ _ _ _ _ st h=>wpAny_pyIter_striter_ascii st h),⟨bx _,_,b5 _ rfl,rfl,rfl⟩,fp,q⟩
theorem Ka{g:TG}(Pv:Nat->List V->St->Hp->Prop)(h0:Pv 0 [] eR (upd Y p (.lst [])))(l:∀i ys a H,Pv i ys a H->H p=ce ys)
  (n:∀i c ys a H,x.cps[i]?=ih c->Pv i ys a H->g (.str ⟨#[c]⟩) a H λf o=>ti f o λb h=>if b=true then te f h λy j=>j p=ce ys/\ys.length<Us /\∃d,d<x.cps.size - i/\CW Pv x.cps.size (i+1) d (ys++[y]) f (upd j p (.lst (ys++[y]))) else ∃d,d<x.cps.size - i/\CW Pv x.cps.size (i+1) d ys f h)
  (q:∀ys a H,Pv x.cps.size ys a H->Q (.ref p) H):hE (vQ x) g ti te eR Q p Y:=by
 refine⟨CW Pv x.cps.size,⟨x.cps.size,by simp,bx _,h0⟩,?_⟩
 rintro i m ys a H ⟨rfl,hi,pv⟩;refine⟨l i ys a H pv,?_⟩
 by_cases k:i<x.cps.size
 ·refine .inr ⟨k,λv t r=>?_⟩
  obtain⟨e3,c,s,rfl⟩:=r;subst e3;exact n i c ys a _ s pv
 ·have e:i=x.cps.size:=by omega
  subst e;exact .inl ⟨aU _,q ys a H pv⟩
end L2
namespace HT
open PyProof.Rows W L2
theorem Hc(a:Up)(vs:Array i')(n:Nat)(u:Tok)(sl:Array (Option i')) :
  Meets (XM.«object.__getattribute__» ⟨[.ref a,.str "keys" u],[]⟩) (λA R s=>s.heap.get? a=ih { cls:=.type "tuple",dict:=none,data:=.seq vs n,slots:=sl }/\raisesAttr (.ref a) "keys" A R s):=
 meets_getattribute_miss_tuple a vs n sl "keys" u (by rw[Gq,Gr];kernel_rfl) (by decide +kernel) (by rw[aX];decide +kernel)
theorem Kb{vs:Array i'}{n:Nat}{sl:Array (Option i')}{Q:a2 i'->Ur->Prop}(i:s.heap.get? a=ih { cls:=.type "tuple",dict:=none,data:=.seq vs n,slots:=sl })(k:A.handled=none)
  (h:∀h' tk,(∀b o,s.heap.get? b=ih o->h'.get? b=ih o)->Q none { s with heap:=h',toks:=tk }):Ut (UK prog w) A (getAttr? (.ref a) "keys") Q E s:=by
 obtain⟨l,g,d,tk,os⟩:=s;have j:∀c,(⟨l,g,d,c,os⟩:Ur).TypeIs (.ref a) "tuple" :=λ_=>⟨_,i,rfl⟩;have m:=sub_AttributeError;have p:=Gs.lookup;have q:=Gs.bind (.ref a);have r:=am_tuple_getattr_none;unfold getAttr? getAttrBy? getAttrBy
 repeat (any_goals (first|assumption|exact j _|((with_reducible show Ut _ _ (call (Yo "tuple.__getattribute__") _ _) _ _ _);refine mS Gs (j _) am_entry_tuple_getattribute (F.args_tuple_getattribute_2 _ _) (Hc a vs n _ sl) ⟨i,k,λh' c e f=>?_⟩)|wp_step))
 obtain⟨t',t,u⟩:=f.there;show Ut _ _ (getattributeRaised _ _ _ _ _ _ _) _ _ _;unfold getattributeRaised
 repeat (any_goals (first|assumption|wp_step))
 exact h h' c f.keeps
section
variable{R:Y4->Ur->Prop}{t:Up}{vs:Array i'}
theorem Kc{Q:Unit->Ur->Prop}{T:Up}{x y:i'}{k:Key}{kvs:am (Key×i')}{i:Int}(a:X6 s.heap T #[x,y])(g:(cT prog w).is k x=true)(h:s.heap.DictOf (cT prog w) d kvs)(new:k ∉ kvs.map (·.1))(hz:kvs.length<=Us)
  (q:∀h' tk,h'.DictOf (cT prog w) d (kvs++[(k,y)])->XC d s.heap h'->Q () { s with heap:=h',toks:=tk }) :
  Ut (UK prog w) A (holding [UN T] (do
   let c <- (Y3 (.ref T)).tryCatch λe=>do
    if !(<- isInstance e (.type "TypeError")) then throw e
    rule "dict.update.element-no-sequence"
    raiseError "TypeError" s!"cannot convert dictionary update sequence element #{i} to a sequence"
   match c with
   |[k,v]=>holding [k,v] (dictSet d k v)
   |l =>
    rule "dict.update.element-length"
    raiseError "ValueError" s!"dictionary update sequence element #{i} has length {l.length}; 2 is required")) Q E s:=by
 refine d5 (ae (wpAny_tryCatch ?_));unfold Y3;refine ae (ji a.typeIs ?_);rw[ay (by decide)]
 obtain⟨o,j,_,n,f⟩:=a;refine ae (wpAny_seqItems j f (ao ?_));show Ut _ _ (holding [x,y] (dictSet d x y)) _ _ _;refine d5 (wpAny_dictSet_pairs (hsz:=hz) g h λh' b m=>?_);rw[stored_new new]at b;exact q h' _ b m
theorem Lw(Q:A.in1.handled=none)(l:d≠it)(y:d≠t)(z:t≠it)(ps:am (Key×i'))(D:(ps.map (·.1)).Nodup)(hz:ps.length<=Us)(hsz:vs.size=ps.length)(hv:X6 g t vs)
  (K:∀(i:Nat) p,ps[i]?=ih p ->∃a x,vs[i]?=ih (.ref a)/\a≠it/\a≠d/\X6 g a #[x,p.2]/\(cT prog w).is p.1 x=true) :
  ∀(m k:Nat) (s:Ur),ps.length - k=m->k<=ps.length->IsTupIter s.heap it t k->s.heap.DictOf (cT prog w) d (ps.take k) ->
   (∀b o,b≠it->b≠d->g.get? b=ih o->s.heap.get? b=ih o) ->
   (∀h' tk,h'.DictOf (cT prog w) d ps->(∀b o,b≠it->b≠d->g.get? b=ih o->h'.get? b=ih o)->R (.ok (.ret .none)) { s with heap:=h',toks:=tk }) ->
   codeAny (UK prog w) A (.builtin "dict.update.loop" ⟨[.ref d,.ref it,rawInt k,.none],[]⟩) R s:=by
 have up:∀{b:Up}{us:Array i'}{h:XD},b≠it->b≠d->(∀b o,b≠it->b≠d->g.get? b=ih o->h.get? b=ih o)->X6 g b us->X6 h b us:=λn1 S kp ⟨o,T,r⟩=>⟨o,kp _ _ n1 S T,r⟩;intro m
 induction m with
 |zero =>
  intro k s U V q u kp v;have W:k=ps.length:=by omega
  refine h3 Bd (?_:Ut _ _ _ _ _ _);rw[iG pB _];show Ut _ A.in1 (pyNext (.ref it) >>= _) _ _ s;refine ae (next_tuple_end Q q (up z y.symm kp hv) (by simp;omega) λh' E=>?_)
  refine ae (m:=abg d []) (ao (ao ?_));have j:h'.DictOf (cT prog w) d (ps.take k):=u.at λo e=>E d o l e;rw[W,cM]at j;exact v h' s.toks j λb o c f e=>E b o c (kp b o c f e)
 |succ m X =>
  intro k s U V q u kp v;have n:k<ps.length:=by omega
  have F:ps[k]?=ih ps[k]:=bz n;obtain⟨a,x,L,M,N,H,I⟩:=K k _ F;have O:ps.take (k+1)=ps.take k++[ps[k]]:=by rw[dX,F];rfl
  have new:ps[k].1 ∉ (ps.take k).map (·.1):=λw=>by
   have e:ps.map (·.1)=(ps.take k).map (·.1)++(ps.drop k).map (·.1):=by rw[<-bc,wX]
   rw[e,eu]at D;refine D.2.2 _ w _ ?_ rfl;rw[lF n];exact aV
  refine h3 Bd (?_:Ut _ _ _ _ _ _);rw[iG pB _];show Ut _ A.in1 (pyNext (.ref it) >>= _) _ _ s;refine ae (next_tuple_item q (up z y.symm kp hv) L λh' P G=>?_);have B:∀b o,b≠it->b≠d->g.get? b=ih o->h'.get? b=ih o:=λb o c f e=>G.extBut b o c (kp b o c f e);have j:h'.DictOf (cT prog w) d (ps.take k):=u.at λo e=>G.extBut d o l e;refine ae (Kc (s:={ s with heap:=h' }) (k:=ps[k].1) (up M N B H) I j new (by rw[cz];omega) λY tk J C=>?_)
  rw[show((k:Int)+1)=((k+1:Nat):Int) from rfl];exact ao ⟨jk pB _,X (k+1) _ (by omega) n (P.extBut C.extBut l.symm) (by rw[O];exact J) (λb o c f e=>C.extBut b o f (B b o c f e)) v⟩
theorem Hf{Q:i'->Ur->Prop}(v:A.handled=none)(ps:am (Key×i'))(D:(ps.map (·.1)).Nodup)(hz:ps.length<=Us)(hsz:vs.size=ps.length){n:Nat}{sl:Array (Option i')}
  (hv:s.heap.get? t=ih { cls:=.type "tuple",dict:=none,data:=.seq vs n,slots:=sl })
  (y:∀(i:Nat) p,ps[i]?=ih p ->∃a x,vs[i]?=ih (.ref a)/\X6 s.heap a #[x,p.2]/\(cT prog w).is p.1 x=true)
  (q:∀d h' tk,s.aj<=d->h'.DictOf (cT prog w) d ps->(∀b o,s.heap.get? b=ih o->h'.get? b=ih o)->Q (.ref d) { s with heap:=h',toks:=tk }) :
  Ut (UK prog w) A (call (.type "dict") [.ref t]) Q E s:=by
 refine callType_codes (Q₁:=λr m=>r=.ref s.aj/\m={ s with heap:=s.heap.push { cls:=.type "dict",data:=.dict #[] } }) F.kt_called_dict (F.kt_typeCall_dict_1 _) F.entry_dict_init (kt_code_dict_new _ ⟨rfl,rfl⟩) ?_;rintro r m ⟨rfl,rfl⟩;have dn:(s.heap.push { cls:=.type "dict",data:=.dict #[] }).DictOf (cT prog w) s.aj []:=Zl s.heap;have k:∀b o,s.heap.get? b=ih o->(s.heap.push { cls:=.type "dict",data:=.dict #[] }).get? b=ih o:=λb o e=>a8 _ e;generalize s.heap.push { cls:=.type "dict",data:=.dict #[] }=h2 at dn k⊢;refine⟨dn.typeIs,F.args_dict_init_2 _ _,?_⟩;unfold XM.«dict.__init__»;refine ae ?_;unfold abe;refine ae (wpAny_notOrdered_dict dn.typeIs ?_);refine(ao ?_:Ut _ _ (pure (s.aj,[UN t])) _ _ _);show Ut _ _ (Y2 "dict.__init__" s.aj (.ref t) [] .none) _ _ _;unfold Y2;have l:=k _ _ hv;refine ae (ji (T:= "tuple") ⟨_,l,rfl⟩ ?_);rw[ay (by decide)]
 refine ae (Kb l v λc I h=>?_);rw[ay (by decide)]
 have z:X6 c t vs:=⟨_,h _ _ l,rfl,n,rfl⟩;refine ae (jf (ae (iter_tuple z ?_)));refine ao ⟨jk pB _,?_⟩;have up:∀b o,s.heap.get? b=ih o->c.get? b=ih o:=λb o e=>h b o (k b o e);have f:s.aj<c.objs.size:=by
  obtain⟨o,_,_,j,_⟩:=dn;exact bt (h _ _ j)
 have B:c.DictOf (cT prog w) s.aj []:=dn.at λo e=>h _ o e;have lt:∀{b:Up}{o:Ye},s.heap.get? b=ih o->b<s.aj:=λe=>bt e;refine Lw (A:=A.in1) (g:=s.heap) (it:=c.objs.size) v (bI f) (jg (lt hv)) (bI (lE (lt hv) f)) ps D hz hsz ⟨_,hv,rfl,n,rfl⟩ (λi p G=>?_) _ 0 _ rfl (bx _) ⟨_,b5 _ rfl,rfl,rfl⟩ (B.at λo e=>a8 _ e) (λb o _ _ e=>a8 _ (up b o e)) λh' tk H kp=>?_
 ·obtain⟨a,x,h1,u,C⟩:=y i p G
  obtain⟨o,j,_⟩:=id u;exact⟨a,x,h1,bI (lE (lt j) f),bI (lt j),u,C⟩
 ·exact⟨rfl,q _ h' tk (aU _) H λb o e=>kp b o (bI (lE (lt e) f)) (bI (lt e)) e⟩
end
end HT
namespace L2
open Spec PyProof.Rows W HT
theorem Bh:cg X (Xu .LtE) (λx y H Q=>∃i j,x=.str i/\y=.str j/\Q (.bl (!decide (j.cps.toList<i.cps.toList))) H):=by
 rintro J s σ H x y v u Q I a b ⟨i,j,ex,c,q⟩;subst ex c;obtain⟨t,rfl⟩:=a;obtain⟨t',rfl⟩:=b;exact P.le_str (cG I q rfl)
def Dk(H:Hp)(vs:List V)(kvs:List (Gv×V)):Prop:=XH (λy p=>∃a,y=V.ref a/\H a=ih (.tup [.str p.1,p.2])) vs kvs
def md(kvs:List (Gv×V)):List (Key×V):=kvs.map λp=>(F3 p.1,p.2)
theorem CM:∀(kvs:am (Gv×V)) (ys:am i'),ys.length=kvs.length->(∀(i:Nat) (hi:i<kvs.length),∃y,ys[i]?=ih y/\RelV kvs[i].2 y)->KV (md kvs) ((kvs.map λp=>(F3 p.1:Key)).zip ys)
 |[],ys,h,_=>.nil
 |p::kvs,[],h,_=>by simp at h
 |p::kvs,y::ys,h,f=>by
  obtain⟨a,e,r⟩:=f 0 (by simp)
  obtain rfl:y=a:=by simpa using e
  exact .cons ⟨rfl,r⟩ (CM kvs ys (by simpa using h) λi hi=>by
   obtain⟨b,e2,c⟩:=f (i+1) (Nat.succ_lt_succ hi);exact⟨b,by simpa using e2,c⟩)
theorem Af:c2 X (.type "tuple") (λxs H Q=>∃p ys,xs=[.ref p]/\au X.K H p ys /\∀l o,H l=none->o.dict=none->Q (.ref l) (upd H l (.bT o (.tup ys)))):=by
 rintro J s σ H xs us Q I r ⟨p,ys,ex,d,q⟩;subst ex;obtain⟨u,rfl,f⟩:=vals1 r;cases f
 obtain⟨its,a,g,h⟩:=I.list d;have i:=a.length;refine call_tuple_list g.isList (λh' kp=>?_) (by simp only[bW] <;> omega)
 have c:Inv X J σ H { s with heap:=h' }:=I.kept (t':=s.toks) kp;refine⟨.ref h'.objs.size,_,c.laid (o:=.bT { cls:=.type "tuple",data:=.seq its.toArray } (.tup ys)) (t':=s.toks) (λb o e=>a8 _ e) (aU _) ⟨b5 _ rfl,h,its,a,iZ.new _ _⟩,rfl,q _ _ (c.aJ.fresh (aU _)) rfl⟩
end L2
namespace L2
open W
def Nw(_ j:Int):Prop:=0<j/\j<4611686018427387904
theorem Kd:cg X (X7 .FloorDiv) (rI Nw λi j=>.int (i / j)):=mI λi j _ _ _ _ _ a q=>by
 have h1:(0:Int)<j:=a.1;have h2:j<4611686018427387904:=a.2;refine abb (by omega) (by rw[Uu i (by omega)];exact q) (.inl (PyProof.noPylong_of_log2 ?_))
 have b:j.natAbs<2 ^ 62:=by omega
 have c:j.natAbs.log2<62:=(Nat.log2_lt (by omega)).mpr b
 omega
end L2
namespace L2
open W Calls PyProof.Rows
section
variable{α β:Type}{n:Nat}
def Pm(n:Nat)(p:Array Nat):Prop:=p.toList.Perm (Xs n)
theorem Pm.lt{p:Array Nat}(h:Pm n p)(a:0<n)(i:Nat):p.getD i 0<n:=by
 rw[iH];cases e:p[i]? with
 |none=>exact a
 |some x =>
  have:x∈p.toList:=Z9.mp (UU e);exact je.mp (h.mem_iff.mp this)
theorem Pm.rev{p:Array Nat}(h:Pm n p)(i j:Nat):Pm n (kas_rev p i j):=(UW.mp (mirror_perm p i j _)).trans h
theorem Pm.QE{p:Array Nat}(h:Pm n p)(i j:Nat):Pm n (bubble p i j):=(UW.mp (bubble_perm p i j)).trans h
theorem Dl{γ:Type}{p:Array Nat}{vs:am γ}(d:γ)(h:Pm vs.length p):(p.toList.map λi=>vs.getD i d).Perm vs:=by
 have h1:=abR (λi=>vs.getD i d) h;refine h1.trans (abQ ?_)
 apply Gu
 ·simp
 ·intro i h1 h2
  simp[Yz,h2]
end
theorem sD{α β:Type}{F:α->β->Prop}{l b:am α}(h:b.Perm l):∀{m:am β},XH F l m ->∃a,a.Perm m/\XH F b a:=by
 induction h with
 |nil=>intro m p;exact⟨m,.refl _,p⟩
 |cons x _ f =>
  intro m p;cases p with
  |cons q t =>
   obtain⟨a,e,r⟩:=f t;exact⟨_::a,e.cons _,.cons q r⟩
 |swap x y l =>
  intro m p;cases p with
  |cons q t =>
   cases t with
   |cons g t=>exact⟨_,Yr _ _ _,.cons g (.cons q t)⟩
 |trans _ _ c d =>
  intro m p;obtain⟨k,e2,p2⟩:=d p;obtain⟨i,e1,j⟩:=c p2;exact⟨i,e1.trans e2,j⟩
theorem MI{o:HO}(x:bH P w H h a o):∃q,h.get? a=ih q:=by
 cases o with
 |lst xs=>obtain⟨_,_,_,_,e⟩:=x;exact⟨_,e⟩
 |tup xs=>obtain⟨_,_,_,q,e,_⟩:=x;exact⟨q,e⟩
 |dK kvs=>obtain⟨_,_,_,_,o,_,_,e,_⟩:=x;exact⟨o,e⟩
 |dT kvs=>obtain⟨_,_,_,_,o,_,_,e,_⟩:=x;exact⟨o,e⟩
 |set S n=>obtain⟨o,_,_,_,e,_⟩:=x;exact⟨o,e⟩
 |ins C dx fs=>obtain⟨_,_,_,e,_⟩:=x;exact⟨_,e⟩
 |own y=>exact x
 |xd fs=>obtain⟨_,⟨o,_,_,e,_⟩,_⟩:=x;exact⟨o,e⟩
 |oA lo hi=>obtain⟨_,_,_,e⟩:=x;exact⟨_,e⟩
 |bT q u=>exact⟨q,x.1⟩
 |i9 ps=>exact⟨_,x⟩
 |met f y=>exact⟨_,x⟩
 |ext b=>exact x.2.1
theorem Inv.sorted{σ:am (Option V)}{m:Gv->Option i'}{ys:am V}{out:am i'}{c:Nat}(I:Inv X J σ H s)(A:s.heap.Ns X.env.locals m)(i:h'.Ns X.env.locals m)
  (k:∀b o,b≠X.env.locals->s.heap.get? b=ih o->h'.get? b=ih o) (t:∀b o,s.heap.get? b=ih o->b≠D) (new:h'.get? D=ih (listOf out.toArray c)) (r:Vals ys out) (hz:ys.length<=Us) :
  H D=none/\Inv X J σ (upd H D (.lst ys)) { s with heap:=h',toks:=t' }:=by
 have there:∀b u,H b=ih u ->∃o,s.heap.get? b=ih o:=λb u e=>MI (I.aJ b u e);have w:H D=none:=by
  cases q:H D with
  |none=>rfl
  |some u =>
   obtain⟨o,e⟩:=there D u q;exact absurd rfl (t D o e)
 have d:∀b u,H b=ih u->b≠D:=λb u e z=>by rw[z,w]at e;cases e
 have j:∀b u,H b=ih u->b≠X.env.locals:=λb u e z=>by rw[z,I.free]at e;cases e
 refine⟨w,I.step (g':=s.gens) (d':=s.drawn) (ch:=[]) (λ_ z=>nomatch z) (λb o g _ _ e _=>k b o g e) (λb o g _ _ e _=>⟨o.slots,k b o g e⟩) (λb o _ e n=>by rw[ag (t b o e)];exact n) (λb o _ e=>?_)
  (λb xs e=>by rw[ag (d b _ e)];exact e) (λb o u e=>by rw[ag (d b _ e)];exact e) (λb ps e=>⟨#[],by rw[ag (d b _ e),e];simp⟩) (λB q=>?_) (λb u e=>?_) I.bare⟩
 ·by_cases f:b=X.env.locals
  ·obtain⟨o',es,ep,h,_⟩:=i
   exact⟨o',by rw[f];exact h⟩
  ·exact⟨o,k b o f e⟩
 ·obtain⟨o,es,ep,h,C,M,E⟩:=A
  obtain⟨N,G,K,l,p,L,y⟩:=q;rw[h]at l;cases l;rw[C]at p;cases p;have:B=m:=funext λx=>(y x).symm.trans (E x);rw[this];exact i
 ·by_cases f:b=D
  ·subst f
   rw[ah]at e;cases e;exact⟨hz,out,c,r,new⟩
  ·rw[ag f]at e
   refine(I.aJ b u e).e4 (λa v F q=>k a v ?_ q) (λa q=>by rw[ag (d a _ q)];exact q) λa xs q=>by rw[ag (d a _ q)];exact q
   rcases F with z|z
   ·rw[z];exact j b u e
   ·exact j a _ z
theorem I9{B:XW}{n:Nat}{R:Zc->Ur->Prop}(h:s.heap.get? a=ih (seqObj "list" us.toArray n))(a5:us.length<2)
  (k:∀c g,(∀b o,b≠a->s.heap.get? b=ih o->g.get? b=ih o)->g.get? a=ih (listOf us.toArray c)->R (.done (.ret .none)) { s with heap:=g }):Ut (UK P w) B (XM.«list.sort» ⟨[.ref a],[]⟩) R E s:=by
 obtain⟨ep,j⟩:∃ep,(s.heap.update a (Xw λ_=>(#[]:Array i'))).get? a=ih (seqObj "list" #[] ep):=⟨_,get?_update_seq h λ_=>#[]⟩;have f:us.toArray.size<=Us:=by rw[aX,bW];omega
 have small:us.toArray.size<2:=by simpa using a5
 rw[list_sort_plain];refine ae (listItems_at h rfl (ae (listUpdate_at h rfl (ae (seqEpoch_at j rfl (ae (wpAny_newTuple (ae (wY (d5 ?_) (bx _))) (by simpa using f))))) f (bx _))))
 have two:∀b o,(s.heap.update a (Xw λ_=>(#[]:Array i'))).get? b=ih o->(((s.heap.update a (Xw λ_=>(#[]:Array i'))).push (seqObj "tuple" us.toArray 0)).push (seqObj "list" #[] 0)).get? b=ih o:=λb o q=>a8 _ (a8 _ q)
 change Ut (UK P w) B _ R E { s with heap:=((s.heap.update a (Xw λ_=>(#[]:Array i'))).push (seqObj "tuple" us.toArray 0)).push (seqObj "list" #[] 0) }
 have d:=two _ _ j;have i:∀b o,b≠a->s.heap.get? b=ih o->(((s.heap.update a (Xw λ_=>(#[]:Array i'))).push (seqObj "tuple" us.toArray 0)).push (seqObj "list" #[] 0)).get? b=ih o:=λb o e q=>two b o (((sb s.heap a _).2 b e).trans q);generalize (((s.heap.update a (Xw λ_=>(#[]:Array i'))).push (seqObj "tuple" us.toArray 0)).push (seqObj "list" #[] 0))=g at d i⊢
 dsimp only
 rw[ay small,ay small];refine ae (ao (ae (ao ?_)));have same:(arrOf (SortSt.mk' general' (us.toArray.zip us.toArray) #[] 7 none)).map (·.2)=us.toArray:=wI.mp (by show((us.toArray.zip us.toArray).map (·.2)).toList=_;simp[List.map_snd_zip])
 dsimp only
 rw[same];refine ae (seqEpoch_at d rfl (ae (listUpdate_at d rfl ?_ (bx _) (Gw f))));obtain⟨c,l⟩:∃c,(g.update a (Xw λ_=>us.toArray)).get? a=ih (seqObj "list" us.toArray c):=⟨_,get?_update_seq d λ_=>us.toArray⟩;simp only[bne_self_eq_false,j6,wz];exact ao (k c _ (λb o e q=>((sb g a _).2 b e).trans (i b o e q)) l)
theorem Bi{γ:Type}{f:γ->V}{g:γ->i'}(h:∀x,RelV (f x) (g x)):∀l:am γ,Vals (l.map f) (l.map g)
 |[]=>.nil
 |x::l=>.cons (h x) (Bi h l)
end L2
namespace L2
open W Spec PyProof.Rows
def EG(a b:Gv):Prop:=a.cps.toList<=b.cps.toList
theorem Ke{a b:Gv}(h1:EG a b)(h2:EG b a):a=b:=by
 have e:a.cps.toList=b.cps.toList:=List.le_antisymm h1 h2;cases a;cases b
 exact c6 Str.mk (wI.mp e)
theorem Bj:∀{us:am i'}{a:am Gv},XY us a->Vals (a.map V.str) us
 |_,_,.nil=>.nil
 |_,_,.cons _ t r=>.cons ⟨t,rfl⟩ (Bj r)
end L2
namespace HS
open Spec PyProof.Rows
theorem Lx(t:YL)(es:Array (Int×i'))(z:Int)(x:i'):(layNew t es z x).2.1.led=t.led:=by
 unfold layNew;split
 ·dsimp only
  unfold SetTable.orStandIn;split <;> rfl
 ·rfl
theorem Iu{t u:YL}{zs:Array Int}{n:Nat}{a:Array Nat}(e:t.relaid zs n=ih (u,a)):u.led=t.led/\u.plain=t.plain:=by
 unfold SetTable.relaid SetTable.laid at e;cases c:SetTable.layClean (SetTable.sizeAbove n - 1) zs with
 |none=>rw[c]at e;cases e
 |some ow =>
  rw[c]at e;have e2:=cZ e;have e3:=c6 Prod.fst e2
  dsimp only at e3
  rw[<-e3];exact⟨rfl,rfl⟩
theorem HG(t:YL)(es:Array (Int×i'))(n:Nat):(relayAll t es n).2.1.led=t.led/\(t.plain=false->(relayAll t es n).2.1.plain=false):=by
 unfold relayAll;split
 ·rename_i u a e
  obtain⟨h1,h2⟩:=Iu e
  dsimp only
  split
  ·exact⟨h1,λz=>h2.trans z⟩
  ·exact⟨rfl,λ_=>rfl⟩
 ·exact⟨rfl,λ_=>rfl⟩
def d2(P:XJ)(w:XT)(h:XD)(a:Up)(xs:List Gv):Prop:=
 ∃o es ep t,h.get? a=ih o/\o.ExactSet/\o.data=.set es ep t/\aan (strKind P w) es.toList/\(∀k,k∈xs ↔ ∃e∈es.toList,(strKind P w).is k e.2=true) /\
  es.size<scanBound/\t.fits es.size=true/\es.size=xs.length/\t.led=(!w.params.followText "set-order")/\(es.size≠0->t.plain=false)
theorem d2.keep{xs:am Gv}(x:d2 P w h a xs)(k:∀o,h.get? a=ih o->h'.get? a=ih o):d2 P w h' a xs:=let ⟨o,es,ep,t,e,r⟩:=x;⟨o,es,ep,t,k o e,r⟩
theorem d2.lt{xs:am Gv}(x:d2 P w h a xs):a<h.objs.size:=let ⟨_,_,_,_,e,_⟩:=x;bt e
theorem d2.typeIs{xs:am Gv}(x:d2 P w s.heap a xs):s.TypeIs (.ref a) "set" :=let ⟨o,_,_,_,e,c,_⟩:=x;⟨o,e,c.1⟩
theorem Kf(e:h.get? a=ih { cls:=.type "set",dict:=none,data:=.set #[] 0 (.fresh 0 0 (!w.params.followText "set-order")) }):d2 P w h a []:=
 ⟨_,#[],0,_,e,⟨rfl,rfl,rfl⟩,rfl,λz b=>(by simp at b),λk=>(by simp),by decide,by rfl,rfl,rfl,λz=>absurd rfl z⟩
def fY(xs:List Gv)(k:Gv):List Gv:=if k∈xs then xs else xs++[k]
section
variable{xs:am Gv}
theorem BV{es b:Array (Int×i')}{t t':YL}(g:h.get? a=ih o)(i:o.ExactSet)(c:o.data=.set es ep t)(f:aan (strKind P w) b.toList)
  (j:∀k,k∈ys ↔ ∃e∈b.toList,(strKind P w).is k e.2=true) (l:b.size<scanBound) (m:t'.fits b.size=true) (n:b.size=ys.length) (p:t'.led=(!w.params.followText "set-order")) (q:t'.plain=false) :
  (h.update a (YW b t')).get? a=ih { o with data:=.set b (ep+1) t' }/\d2 P w (h.update a (YW b t')) a ys:=by
 have d:(h.update a (YW b t')).get? a=ih { o with data:=.set b (ep+1) t' }:=by
  have z:=oR (YW b t') g (by rw[putSet_of b t' c];rfl)
  rw[putSet_of b t' c]at z;exact z
 exact⟨d,_,b,ep+1,t',d,i,rfl,f,j,l,m,n,p,λ_=>q⟩
theorem Kg{k:Gv}{Q:Bool->Ur->Prop}(ye:d2 P w s.heap a xs)(room:xs.length+1<scanBound)(h:∀h',XC a s.heap h'->d2 P w h' a (fY xs k) ->∀b,Q b { s with heap:=h' }) :
  Ut (UK P w) A (setAddHashed a (.str k tk) (hashStr w k)) Q E s:=by
 obtain⟨o,es,ep,t,m,H,n,B,v,ya,K,ze,F,xc⟩:=ye;have x:(strKind P w).is k (.str k tk)=true:=by show Yc k (.str k tk)=true;simp[Yc]
 have I:(Yw k tk).scannable=true:=rfl;have xg:es.size+1<scanBound:=by omega
 unfold setAddHashed setAddHashedIn;refine d5 (ae (g4 m n K ?_));dsimp only;rw[byScan_of (knd:=strKind P w) I ya B,ay rfl];refine ae ?_;unfold setAddByScan;refine ae (jf (ae (wpAny_setScan_of (knd:=strKind P w) (k:=k) x m n K B ?_)));cases za:List.findIdx? (λe=>(strKind P w).is k e.2) es.toList with
 |some j =>
  obtain⟨xf,yc,_⟩:=List.findIdx?_eq_some_iff_getElem.mp za;have C:k∈xs:=(v k).mpr ⟨es.toList[j],gj xf,yc⟩;refine ao (ao ?_);have e0:s={ s with heap:=s.heap }:=by cases s;rfl
  rw[e0];refine h s.heap (abd a s.heap) ?_ _;unfold fY;rw[ay C];exact⟨o,es,ep,t,m,H,n,B,v,ya,K,ze,F,xc⟩
 |none =>
  dsimp only
  have C:k ∉ xs:=λz=>by
   obtain⟨e,he,i⟩:=(v k).mp z;have:=List.findIdx?_eq_none_iff.mp za e he;rw[i]at this;cases this
  have xb:∀(b:Bool) {G:Ur}{M:Unit->Ur->Prop},M () G->Ut (UK P w) A (match b with|true=>rule "set.scan.the-table-gave-way" | false=>pure ()) M E G:=λb G M yb=>by
   cases b
   ·exact ao yb
   ·exact jf yb
  have g:=layNew_perm t es ((strKind P w).hash k) (.str k tk);have u:=layNew_fits t es ((strKind P w).hash k) (.str k tk);have y:=Lx t es ((strKind P w).hash k) (.str k tk);generalize yf:layNew t es (hashStr w k) (.str k tk)=L;rw[show(strKind P w).hash k=hashStr w k from rfl,yf]at g u y;obtain⟨c,p,zf,yg⟩:=L
  dsimp only at g u y⊢
  rw[UX]at g;have S:aan (strKind P w) c.toList:=(B.push (k:=k) x I).perm g;have zg:c.size=es.size+1:=by rw[<-fA,g.length_eq,cL,fA];rfl
  have O:∀f,f∈fY xs k ↔ ∃e∈c.toList,(strKind P w).is f e.2=true:=λf=>by
   unfold fY;rw[aq C,cj,bX,v f]
   constructor
   ·rintro(⟨e,he,i⟩|rfl)
    ·exact⟨e,g.mem_iff.mpr (gY _ he),i⟩
    ·exact⟨_,g.mem_iff.mpr (eV _ (bX.mpr rfl)),x⟩
   ·rintro⟨e,he,i⟩
    rcases cj.mp (g.mem_iff.mp he) with he|he
    ·exact .inl ⟨e,he,i⟩
    ·rw[bX]at he;subst he
     exact .inr ((strKind P w).inj _ f k i x)
  have zc:c.size=(fY xs k).length:=by unfold fY;rw[aq C,cL,mT];omega
  have U:c.size<scanBound:=by omega
  refine ae (xb _ ?_);have T:∀d:YL,d.fits c.size=true->d.led=t.led->d.plain=false->Ut (UK P w) A (do
    storeSet a c d
    if (!zf&&d.tooFull)=true then do
      let r:=relayAll d c (Yt c.size)
      (match r.2.2 with|true=>rule "set.scan.the-table-gave-way" | false=>pure ())
      storeSet a r.1 r.2.1
      pure (ih true)
     else pure (ih true)) (λr s'=>Ut (UK P w) A (match r with|some zb=>pure zb|none=>setAddHashedIn a (.str k tk) (hashStr w k) 99999) Q E s') E s:=by
   intro d xd V W;obtain⟨X,yd⟩:=BV (P:=P) (w:=w) m H n S O U xd zc (V.trans F) W;have Y:=sb s.heap a (YW c d);refine ae (wpAny_storeSet_of m n ?_ (wZ U));split
   ·have l:=relayAll_perm d c (Yt c.size)
    have N:=relayAll_fits d c (Yt c.size);have D:=HG d c (Yt c.size)
    dsimp only
    generalize relayAll d c (Yt c.size)=R at l N D⊢;obtain⟨xa,xh,yh⟩:=R
    dsimp only at l N D⊢
    have bF:xa.size=c.size:=by rw[<-fA,l.length_eq,fA]
    have zd:∀f,f∈fY xs k ↔ ∃e∈xa.toList,(strKind P w).is f e.2=true:=λf=>(O f).trans ⟨λ⟨e,he,q⟩=>⟨e,l.mem_iff.mpr he,q⟩,λ⟨e,he,q⟩=>⟨e,l.mem_iff.mp he,q⟩⟩;obtain⟨_,xe⟩:=BV (P:=P) (w:=w) X H rfl (S.perm l) zd (by omega) N (by omega) (D.1.trans (V.trans F)) (D.2 W)
    refine ae (xb _ (ae (wpAny_storeSet_of X rfl ?_ (wZ (by omega)))))
    exact ao (ao (h _ (Y.trans (sb _ a _)) xe _))
   ·exact ao (ao (h _ Y yd _))
  by_cases J:p.plain=true
  ·rw[ay J]
   refine ae ?_;rw[hashByValue_scannable 8 I];refine ao ?_;show Ut (UK P w) A (do
    storeSet a c { p with plain:=false }
    _) _ E s
   exact T { p with plain:=false } (SetTable.fits_plain_off u) y rfl
  ·rw[aq J]
   refine ae (ao ?_);show Ut (UK P w) A (do
    storeSet a c p
    _) _ E s
   exact T p u y (by simpa using J)
end
def gw(val:Nat->Gv)(i:Nat):List Gv:=((Xs i).map val).foldl fY []
theorem pC(val:Nat->Gv)(i:Nat):gw val (i+1)=fY (gw val i) (val i):=by
 unfold gw;rw[ZX,bc,List.foldl_append];rfl
theorem Kh(xs:am Gv)(k:Gv):(fY xs k).length<=xs.length+1:=by
 unfold fY;split
 ·omega
 ·rw[cL,mT];omega
theorem Ly{xs:am Gv}(h:xs.Nodup)(k:Gv):(fY xs k).Nodup:=by
 unfold fY;split
 ·exact h
 ·rename_i c
  rw[eu];exact⟨h,by simp,λa d b f e=>c (by rw[<-(bX.mp f),<-e];exact d)⟩
theorem Ki{xs:am Gv}{k y:Gv}:y∈fY xs k ↔ y∈xs\/y=k:=by
 unfold fY;split
 ·rename_i h
  exact⟨.inl,λz=>z.elim id λe=>e ▸ h⟩
 ·rw[cj,bX]
theorem BW(val:Nat->Gv):∀i,(gw val i).length<=i
 |0=>aU _
 |i+1=>by rw[pC];have:=Kh (gw val i) (val i);have:=BW val i;omega
theorem CN(val:Nat->Gv):∀i,(gw val i).Nodup
 |0=>fE
 |i+1=>by rw[pC];exact Ly (CN val i) _
theorem BX(val:Nat->Gv)(y:Gv):∀i,y∈gw val i ↔ ∃j,j<i/\val j=y
 |0=>⟨λh=>(by cases h),λ⟨_,h,_⟩=>absurd h (oU _)⟩
 |i+1=>by
  rw[pC,Ki,BX val y i]
  constructor
  ·rintro(⟨j,h,e⟩|e)
   ·exact⟨j,by omega,e⟩
   ·exact⟨i,by omega,e.symm⟩
  ·rintro⟨j,h,e⟩
   by_cases c:j=i
   ·exact .inr (by rw[<-e,c])
   ·exact .inl ⟨j,by omega,e⟩
section
variable{R:Y4->Ur->Prop}{wr:am Up}{G:Array Zn->Array Zn->Prop}{n:Nat}{Pv:Nat->i'->Prop}{St:Nat->Ur->Prop}
theorem Kj(W:WalksS P w A.in1 I fp wr G n Pv St)(S:Up)(d:S ∉ fp)(val:Nat->Gv)(hv:∀i v,Pv i v ->∃t,v=.str (val i) t)(E:n+1<scanBound) :
  ∀(k i:Nat) (s:Ur),n - i=k->i<=n->St i s->d2 P w s.heap S (gw val i)->(∀s',Moved (S::wr) G s s'->d2 P w s'.heap S (gw val n)->R (.ok (.ret .none)) s') ->
   codeAny (UK P w) A (.builtin "set.update.loop" ⟨[.ref S,.ref I],[]⟩) R s:=by
 have f:S ∉ wr:=λz=>d (W.sub _ z);have up:∀b∈wr,b∈S::wr:=λb z=>a7 _ z;intro k
 induction k with
 |zero =>
  intro i s y hi st x q;obtain rfl:i=n:=by omega
  refine h3 Zw ?_;rw[iG Gx _];show Ut _ A.in1 (pyNext (.ref I) >>= _) _ _ s;refine ae (W.done s _ _ st λs' m=>?_);show Ut _ A.in1 (ret Vv) _ _ s';exact ao (q s' (m.mono up) (x.keep λo e=>m.heap S o f e))
 |succ k B =>
  intro i s y hi st x q;have lt:i<n:=by omega
  refine h3 Zw ?_;rw[iG Gx _];show Ut _ A.in1 (pyNext (.ref I) >>= _) _ _ s;refine ae (W.item i s _ _ lt st λv s' C l m=>?_);obtain⟨t,rfl⟩:=hv i v C;have D:d2 P w s'.heap S (gw val i):=x.keep λo e=>m.heap S o f e;show Ut _ A.in1 (holding [Yw (val i) t] (setAdd S (.str (val i) t)) >>= _) _ _ s';refine ae (d5 ?_);unfold setAdd;have j:(strKind P w).is (val i) (.str (val i) t)=true:=by show Yc (val i) (.str (val i) t)=true;simp[Yc]
  refine d5 (ae ((strKind P w).pyHash (k:=val i) j ?_));have room:(gw val i).length+1<scanBound:=by have:=BW val i;omega
  refine Kg (s:={ s' with toks:=s'.toks+1 }) D room λh' g h b=>?_;rw[<-pC]at h;refine ao ⟨jk Gx _,B (i+1) _ (by omega) lt (W.frame _ s' _ _ l (gg _) λc a o e=>?_) h λp r u=>?_⟩
  ·rw[g.2 c (λz:c=S=>d (by rw[<-z];exact a))];exact e
  ·refine q p (Moved.trans W.gtrans ((m.mono up).then_heap (gg _) λc o a e=>?_) r) u
   rw[g.2 c (λz:c=S=>a (by rw[z];exact aV))];exact e
end
abbrev i5(w:XT):Ye:={ cls:=.type "set",dict:=none,data:=.set #[] 0 (.fresh 0 0 (!w.params.followText "set-order")) }
theorem HH(a:i'){Q₁:i'->Ur->Prop}(h:Q₁ (.ref s.aj) { s with heap:=s.heap.push (i5 w) }) :
  codeAny (UK P w) A (.call (.builtin "set.__new__") ⟨[.type "set",a],[]⟩) (wants Q₁ E) s:=by
 refine wB ?_;show Ut _ A.in1 (do checkBuiltinCall "set.__new__" ⟨[.type "set",a],[]⟩;again (.builtin "set.__new__" ⟨[.type "set",a],[]⟩)) _ _ s;refine ae (wpAny_of_eq (F.newCall_set_1 a) (ao ⟨jk aat _,h3 F.entry_set_new ?_⟩));rw[iG aat _];unfold XM.«set.__new__» Z4;have b:=sub_set_self;obtain⟨c,g,d,tk,os⟩:=s;dsimp only
 wp_walk
 refine iE (ao ?_);dsimp only;simp only[newObj];refine ae (wpAny_alloc (ao ?_));exact ao h
structure Src(P:XJ)(w:XT)(T:String)(l:Up)(ol:Ye)(n:Nat)(Pv:Nat->i'->Prop):Prop where
 cls:ol.cls=.type T
 ns:isSubtype (.type T) (.type "set")=pure false
 nf:isSubtype (.type T) (.type "frozenset")=pure false
 nd:(XS T==XS "dict")=false
 iter:∀(A:XW) (s:Ur),A.handled=none->s.heap.get? l=ih ol ->∃(oI:Ye) (St:Nat->XD->Prop),
  (∀(E:i'->Ur->Prop) (Q:i'->Ur->Prop),Q (.ref s.aj) { s with heap:=s.heap.push oI }->Ut (UK P w) A (pyIter (.ref l)) Q E s) /\
  Walks P w A s.aj [s.aj,l] [s.aj] n Pv St/\St 0 (s.heap.push oI)
theorem I'{n:Nat}{Pv:Nat->i'->Prop}{val:Nat->Gv}{Q:i'->Ur->Prop}(I:A.handled=none)(C:Src P w T l ol n Pv)(p:s.heap.get? l=ih ol)(hv:∀i v,Pv i v ->∃t,v=.str (val i) t)(a:n+1<scanBound)
  (h:∀(h':XD) (tk:Nat),d2 P w h' s.heap.objs.size (gw val n)->(∀b o,b<s.heap.objs.size->s.heap.get? b=ih o->h'.get? b=ih o)->Q (.ref s.heap.objs.size) { s with heap:=h',toks:=tk }) :
  Ut (UK P w) A (call (.type "set") [.ref l]) Q E s:=by
 obtain⟨yb,xb,ya⟩:=lI.mro;have X:=lI.made;have za:=lI.sub;refine j5 (wB ?_);show Ut _ _ (callAny (.type "set") _) _ _ _;refine ao ⟨Gh _ (by decide +kernel),h3 F.entry_type_call ?_⟩;rw[Around.under_plain (weight_type_call_type "set" [.ref l] []) rfl]
 have zb:=lI.notType;have xc:=lI.canCreate;have yc:=F.typeCall_set_1 (.ref l)
 repeat (any_goals (first|assumption|wp_step))
 refine lz (HH (.ref l) (E:=E) (Q₁:=λk g=>k=.ref s.heap.objs.size/\g={ s with heap:=s.heap.push (i5 w) }) ⟨rfl,rfl⟩) λr g d=>?_;cases r with
 |error e=>exact d
 |ok J =>
  cases J with
  |ret k =>
   obtain⟨rfl,rfl⟩:=d;have q:(s.heap.push (i5 w)).get? s.heap.objs.size=ih (i5 w):=b5 _ rfl;have K:YD { s with heap:=s.heap.push (i5 w) } (.ref s.heap.objs.size) "set" :=⟨_,q,rfl⟩;have zc:=lI.init.lookup;have xd:=lI.init.bind (.ref s.heap.objs.size)
   repeat (any_goals (first|assumption|wp_step))
   refine lz (wC (R:=wants (λr j=>r=.none /\∃h' tk,j={ s with heap:=h',toks:=tk }/\d2 P w h' s.heap.objs.size (gw val n)/\(∀b o,b<s.heap.objs.size->s.heap.get? b=ih o->h'.get? b=ih o)) E) lI.init.plain F.entry_set_init (check_set_init_1 K ?_)) λx j c=>?_
   ·have B:(s.heap.push (i5 w)).get? l=ih ol:=a8 _ p
    obtain⟨y,Y,xa,V⟩:=ol;have z:y=.type T:=C.cls;subst z;have ns:=C.ns;have yd:=C.nf;have zd:=C.nd;unfold XM.«set.__init__» noKeywords Z1;generalize D:pyIter=PI
    wp_walk
    subst D;obtain⟨oI,St,it,W,st⟩:=C.iter A.in1.in1.in1 { s with heap:=s.heap.push (i5 w) } (by simp[I]) B
    refine wpAny_of_in1 (it _ _ ?_);refine ae (Gy ?_);have L:l<s.heap.objs.size:=bt p;have M:s.heap.objs.size ∉ [(s.heap.push (i5 w)).objs.size,l]:=by
     rw[hX];simp only[bj,bX,jm,jn,oV];exact⟨bI (j4 _),jg L⟩
    refine Kj W.toS s.heap.objs.size M val hv a (n - 0) 0 _ (by omega) (bx _) st (Kf (a8 _ q)) ?_
    intro s' m f;obtain⟨h',N,O,G,H⟩:=s';have e1:N=s.gens:=m.gens;have e2:O=s.drawn:=m.drawn;have e3:H=s.os:=m.os;subst e1;subst e2;subst e3;show Ut _ _ _ _ _ _;refine ao ?_;show Ut _ _ (ret Vv) _ _ _;refine ao ⟨rfl,h',G,rfl,f,λb o a e=>?_⟩;have b1:b≠s.heap.objs.size:=bI a;have S:b≠(s.heap.push (i5 w)).objs.size:=by rw[hX];exact bI (lJ a)
    exact m.heap b o (by simp only[bj,bX,jm,jn,oV];exact⟨b1,S⟩) (a8 _ (a8 _ e))
   ·cases x with
    |error e=>exact c
    |ok u =>
     cases u with
     |ret r =>
      obtain⟨rfl,h',tk,rfl,f,U⟩:=c
      repeat (any_goals (first|assumption|wp_step))
      exact h _ _ f U
     |_=>exact c.elim
  |_=>exact d.elim
theorem src_list(a:ol.cls=.type "list")(d:∃n,ol.data=.seq items n):Src P w "list" l ol items.size (λi v=>items[i]?=ih v) where
 cls:=a
 ns:=F.sub_list_set
 nf:=F.sub_list_frozenset
 nd:=by decide
 iter:=λA s e b=>by
  have c:s.heap.IsList l items:=⟨ol,b,a,d⟩;have lt:=bt b;exact⟨_,_,λE Q q=>rZ c q,Zy e _ l (bI lt) items,⟨_,b5 _ rfl,rfl,rfl⟩,c.push _⟩
theorem Lz(a:ol.cls=.type "tuple")(d:∃n,ol.data=.seq items n):Src P w "tuple" l ol items.size (λi v=>items[i]?=ih v) where
 cls:=a
 ns:=F.sub_tuple_set
 nf:=F.sub_tuple_frozenset
 nd:=by decide
 iter:=λA s e b=>by
  have c:s.heap.IsTuple l items:=⟨ol,b,a,d⟩;have lt:=bt b;exact⟨_,_,λE Q q=>wpAny_pyIter_tuple c q,Walks.tuple e _ l (bI lt) items,⟨_,b5 _ rfl,rfl,rfl⟩,c.push _⟩
theorem lP:Slot "set_iterator" "__next__" "set_iterator.__next__" :=
 Slot.of (owner:= "set_iterator") (n:= "__next__") (by rw[Gq,Gr];kernel_rfl) (by decide +kernel) (by decide +kernel) (by decide +kernel) (by first|exact .inl (by decide +kernel)|exact .inr (by decide +kernel)) (by rw[Gz];kernel_rfl)
theorem Hg:entryFor table "set_iterator.__next__" = ih XM.«set_iterator.__next__» :=entryFor_of_tree (by kernel_rfl)
theorem BY:Manifest.owners.lookup (String.ofList "rotareti_tes".toList.reverse)=ih Manifest.sig_set_iterator:=by kernel_rfl
theorem Hn(a:i'):argsOk "set_iterator.__next__" ⟨[a],[]⟩:=by
 unfold argsOk;rw[signature?_of (id:= "set_iterator.__next__") (n:=['_','_','t','x','e','n','_','_']) (o:= "rotareti_tes".toList) (by kernel_rfl) BY];kernel_rfl
theorem o9:Slot "set_iterator" "__iter__" "set_iterator.__iter__" :=
 Slot.of (owner:= "set_iterator") (n:= "__iter__") (by rw[Gq,Gr];kernel_rfl) (by decide +kernel) (by decide +kernel) (by decide +kernel) (by first|exact .inl (by decide +kernel)|exact .inr (by decide +kernel)) (by rw[Gz];kernel_rfl)
theorem Ag:entryFor table "set_iterator.__iter__" = ih XM.«dict_keyiterator.__iter__» :=entryFor_alias (id':= "dict_keyiterator.__iter__") (by kernel_rfl) rfl (by decide +kernel) (by kernel_rfl)
theorem Ak(a:i'):argsOk "set_iterator.__iter__" ⟨[a],[]⟩:=by
 unfold argsOk;rw[signature?_of (id:= "set_iterator.__iter__") (n:=['_','_','r','e','t','i','_','_']) (o:= "rotareti_tes".toList) (by kernel_rfl) BY];kernel_rfl
theorem Ho:entryFor table "set.__iter__" = ih XM.«frozenset.__iter__» :=entryFor_alias (id':= "frozenset.__iter__") (by kernel_rfl) rfl (by decide +kernel) (by kernel_rfl)
abbrev hR(first:i')(i:Nat)(a:Up)(n ep:Nat):Ye:={ cls:=.type "set_iterator",dict:=none,data:=.fields #[first,.int i 0,.ref a,.int n 0,.int ep 0],slots:= #[] }
section
variable{es:Array (Int×i')}{t:YL}
theorem pK{first:i'}{n:Nat}{Q:a2 i'->Ur->Prop}(b:s.heap.get? I=ih (hR first i a n ep))(k:s.heap.get? a=ih o)(l:o.data=.set es ep t)(m:t.fits es.size=true)(p:es.size=n)
  (body:Ut (UK P w) A.in1 (do
   if let .int j _:=first then
    match <- setNext a j.toNat ((i:Int)).toNat ((ep:Int)).toNat with
    |some (x,next) =>
     setField (.ref I) 0 (rawInt next)
     setField (.ref I) 1 (rawInt ((i:Int)+1))
     ret x
    |none=>setField (.ref I) 2 .none;raiseNew (<- newExc (.type "StopIteration") [])
   else
    let ih f <- seqItems? first|unsupported "internal:set_iterator"
    match f[((i:Int)).toNat]? with
    |some (.int g _) =>
     let x <- setNextDrawn a g.toNat ((ep:Int)).toNat
     setField (.ref I) 1 (rawInt ((i:Int)+1))
     ret x
    |some _=>unsupported "internal:set_iterator"
    |none=>setField (.ref I) 0 (rawInt 0);setField (.ref I) 2 .none;raiseNew (<- newExc (.type "StopIteration") []))
   (λc s'=>∃r,c=.done (.ret r)/\Q (ih r) s') (λe s'=>Ut (UK P w) A (do if <- isInstance e (.type "StopIteration") then pure none else throw e) Q E s') s):Ut (UK P w) A (pyNext (.ref I)) Q E s:=by
 have d:s.TypeIs (.ref I) "set_iterator" :=⟨_,b,rfl⟩;unfold pyNext;refine ae (r5 (r0 (name:=X0 "__next__") d lP (hY lP d Hg ?_ (Hn _))));unfold XM.«set_iterator.__next__»;refine ae (ao ?_)
 dsimp only
 refine ae (GA b rfl ?_)
 dsimp only
 refine ae ?_;unfold setEntries;refine ae (g4 k l m (ao ?_))
 dsimp only
 rw[aq (by rw[p];simp)]
 refine hW body (λc s' h=>?_) λe s' h=>?_
 ·obtain⟨r,rfl,q⟩:=h
  exact⟨r,rfl,ao q⟩
 ·exact h
theorem BZ{Q:a2 i'->Ur->Prop}(f:A.handled=none)(q:∀h',(∀b c,s.heap.get? b=ih c->h'.get? b=ih c)->Q none { s with heap:=h' }) :
  Ut (UK P w) A.in1 (newExc (.type "StopIteration") [] >>= λe=>(raiseNew e:YK Zc)) (λd s'=>∃r,d=.done (.ret r)/\Q (ih r) s') (λe s'=>Ut (UK P w) A (do if <- isInstance e (.type "StopIteration") then pure none else throw e) Q E s') s:=by
 refine ae ?_;simp only[newExc,newTuple];refine ae (fB ?_ (by size_fits))
 refine ae (m:=firstArgMember _ _) (wpAny_of_eq (a:=Vv) (by first|rfl|(simp only[firstArgMember];rfl)) (fB ?_ (by size_fits)))
 simp only[raiseNew];refine ae (wpAny_handled ?_);rw[show A.in1.handled=none from f];refine ae (ao (wU ?_));refine ae (GB (T:= "StopIteration") (b:=true) (show YD _ _ _ from⟨_,b5 _ rfl,rfl⟩) isSubtype_stop ?_);exact ao (q _ λb c e=>a8 _ (a8 _ e))
theorem Hh{b n d:Nat}{x:i'}{Q:a2 i'->Ur->Prop}(c:s.heap.get? I=ih (hR (.int b 0) i a n ep))(f:s.heap.get? a=ih o)(g:o.data=.set es ep t)(h:t.fits es.size=true)(j:es.size=n)
  (cp:∀(k:i'->Ur->Prop) (e:a2 (i'×Nat)->Ur->Prop),e (ih (x,d)) s->Ut (UK P w) A.in1 (setNext a b i ep) e k s)
  (q:∀h',h'.get? I=ih (hR (.int d 0) (i+1) a n ep)->XC I s.heap h'->Q (ih x) { s with heap:=h' }):Ut (UK P w) A (pyNext (.ref I)) Q E s:=by
 refine pK c f g h j ?_;simp only[gI];refine ae (cp _ _ ?_);refine ae (iI c (by simp) λh1 l s1=>?_)
 refine ae (iI l (by simp) λh2 m s2=>?_)
 exact ao ⟨x,rfl,q h2 (by rw[m];simp[rawInt]) (s1.trans s2)⟩
theorem Hq{d n:Nat}{Q:a2 i'->Ur->Prop}(h:A.handled=none)(f:s.heap.get? I=ih (hR (.int d 0) i a n ep))(j:s.heap.get? a=ih o)(k:o.data=.set es ep t)(l:t.fits es.size=true)(m:es.size=n)
  (cp:∀(p:i'->Ur->Prop) (g:a2 (i'×Nat)->Ur->Prop),g none s->Ut (UK P w) A.in1 (setNext a d i ep) g p s)
  (q:∀h',(∀b c,b≠I->s.heap.get? b=ih c->h'.get? b=ih c)->Q none { s with heap:=h' }):Ut (UK P w) A (pyNext (.ref I)) Q E s:=by
 refine pK f j k l m ?_;simp only[gI];refine ae (cp _ _ ?_);refine ae (iI f (by simp) λh1 v s1=>?_)
 exact BZ h λh2 r=>q h2 λb c u e=>r b c (by rw[s1.2 b u];exact e)
theorem Hi{pt:Up}{ps:am Nat}{n pl:Nat}{x:i'}{Q:a2 i'->Ur->Prop}(b:s.heap.get? I=ih (hR (.ref pt) i a n ep))(d:s.heap.get? a=ih o)(e:o.data=.set es ep t)(f:t.fits es.size=true)(k:es.size=n)
  (l:∃op c,s.heap.get? pt=ih op/\op.data=.seq (ps.map λ(j:Nat)=>rawInt j).toArray c) (hi:ps[i]?=ih pl) (m:es[pl]?=ih (z,x))
  (q:∀h',h'.get? I=ih (hR (.ref pt) (i+1) a n ep)->XC I s.heap h'->Q (ih x) { s with heap:=h' }):Ut (UK P w) A (pyNext (.ref I)) Q E s:=by
 refine pK b d e f k ?_;obtain⟨op,c,g,h⟩:=l
 dsimp only
 simp only[gI];refine ae ?_;unfold seqItems?;refine ae (oO g ?_);rw[h];refine ao ?_
 dsimp only
 have e1:(ps.map λ(j:Nat)=>rawInt j).toArray[i]?=ih (rawInt pl):=by simp[hi]
 rw[e1];show Ut _ _ (setNextDrawn a ((pl:Int)).toNat ep >>= _) _ _ s;rw[gI];unfold setNextDrawn;refine ae (ae (g4 d e f ?_))
 dsimp only
 rw[aq (by simp),m]
 refine ao ?_;refine ae (iI b (by simp) λh2 p s2=>?_)
 exact ao ⟨x,rfl,q h2 (by rw[p];simp[rawInt]) s2⟩
theorem Hs{pt:Up}{ps:am Nat}{n:Nat}{Q:a2 i'->Ur->Prop}(l:A.handled=none)(f:s.heap.get? I=ih (hR (.ref pt) i a n ep))(m:s.heap.get? a=ih o)(p:o.data=.set es ep t)(r:t.fits es.size=true)(u:es.size=n)
  (v:∃op c,s.heap.get? pt=ih op/\op.data=.seq (ps.map λ(j:Nat)=>rawInt j).toArray c) (hi:ps.length<=i)
  (q:∀h',(∀b d,b≠I->s.heap.get? b=ih d->h'.get? b=ih d)->Q none { s with heap:=h' }):Ut (UK P w) A (pyNext (.ref I)) Q E s:=by
 refine pK f m p r u ?_;obtain⟨op,c,h,k⟩:=v
 dsimp only
 simp only[gI];refine ae ?_;unfold seqItems?;refine ae (oO h ?_);rw[k];refine ao ?_
 dsimp only
 have e1:(ps.map λ(j:Nat)=>rawInt j).toArray[i]?=none:=by simp;omega
 rw[e1];refine ae (iI f (by simp) λh1 x s1=>?_)
 refine ae (iI x (by simp) λh2 B s2=>?_)
 exact BZ l λy z=>q y λb d g e=>z b d (by rw[s2.2 b g,s1.2 b g];exact e)
end
theorem Bl{α:Type}(next:Nat->Nat):∀(fuel k:Nat) (left:am α) (out:Array α),left.length=fuel->(YM next fuel k left out).toList.Perm (out.toList++left)
 |0,k,left,out,h=>by
  have:left=[]:=mW h;subst this;unfold YM;simp
 |fuel+1,k,left,out,h=>by
  have a:next k % left.length<left.length:=w0 _ (by omega)
  unfold YM;rw[bz a]
  dsimp only
  refine(Bl next fuel (k+1) _ _ (by rw[UZ,ay a];omega)).trans ?_
  rw[UX,lD];refine U0 _ ?_;generalize next k % left.length=j at a;have b:∀(l:am α) (j:Nat) (h:j<l.length),(l[j]::l.eraseIdx j).Perm l:=by
   intro l
   induction l with
   |nil=>intro j h;exact absurd h (oU _)
   |cons x l c =>
    intro j h;cases j with
    |zero=>exact j9 _
    |succ j=>exact(Yr _ _ _).trans ((c j (w1 h)).cons x)
  exact b left j a
section
variable{xs:am Gv}
theorem CP{α:Type}:∀(m:Nat) (l:am α) {s:Ur}{Q:am α->Ur->Prop},l.length=m->(∀ps d,ps.Perm l->Q ps { s with drawn:=d })->Ut (UK P w) A (drawOrder m l) Q E s
 |0,l,s,Q,h,q=>by
  have:l=[]:=mW h;subst this;unfold drawOrder;exact ao (q [] s.drawn (j9 _))
 |m+1,[],s,Q,h,q=>by simp at h
 |m+1,x::l,s,Q,h,q=>by
  unfold drawOrder;refine ae ?_;have ch:∀{a:Nat->Ur->Prop}{s:Ur},(∀i d,i<(x::l).length->a i { s with drawn:=d })->Ut (UK P w) A (choose .order (x::l).length) a E s:=λ{a s} c=>by
   intro Γ p hΓ;exact⟨by simp,c _ _ (w0 _ (by simp))⟩
  refine ch λi d hi=>?_;rw[bz hi]
  dsimp only
  refine ae (CP m _ (by rw[UZ,ay hi];omega) λps g e=>ao ?_)
  refine q _ _ ((e.cons _).trans ?_);have b:∀(l:am α) (j:Nat) (h:j<l.length),(l[j]::l.eraseIdx j).Perm l:=by
   intro l
   induction l with
   |nil=>intro j h;exact absurd h (oU _)
   |cons x l f =>
    intro j h;cases j with
    |zero=>exact j9 _
    |succ j=>exact(Yr _ _ _).trans ((f j (w1 h)).cons x)
  exact b _ i hi
theorem Iv{es:am (Int×i')}(h:aan (strKind P w) es):∃ks:am Gv,XY (es.map (·.2)) ks /\∀k,k∈ks ↔ ∃e∈es,(strKind P w).is k e.2=true:=by
 induction es with
 |nil=>exact⟨[],.nil,λk=>(by simp)⟩
 |cons e es c =>
  obtain⟨ks,h1,h2⟩:=c h.tail;obtain⟨⟨k,a,_⟩,_⟩:=h.head;obtain⟨t,d⟩:=FQ a;refine⟨k::ks,?_,λy=>?_⟩
  ·rw[bU,d];exact .cons k t h1
  ·rw[bj,h2 y]
   constructor
   ·rintro(rfl|⟨b,he,q⟩)
    ·exact⟨e,aV,a⟩
    ·exact⟨b,a7 _ he,q⟩
   ·rintro⟨b,he,q⟩
    rcases bj.mp he with rfl|he
    ·exact .inl ((strKind P w).inj _ _ _ q a)
    ·exact .inr ⟨b,he,q⟩
theorem Bm{vs:am i'}(h:XY us ks)(p:vs.Perm us):∃ys,XY vs ys/\ys.Perm ks:=by
 induction p generalizing ks with
 |nil=>exact⟨ks,h,j9 _⟩
 |cons x _ e =>
  cases h with
  |cons y t r=>obtain⟨ys,h1,h2⟩:=e r;exact⟨y::ys,.cons y t h1,h2.cons y⟩
 |swap x y l =>
  cases h with
  |cons a f g =>
   cases g with
   |cons b i j=>exact⟨b::a::_,.cons b i (.cons a f j),Yr _ _ _⟩
 |trans _ _ c d =>
  obtain⟨ys,h1,h2⟩:=d h;obtain⟨zs,k,m⟩:=c h1;exact⟨zs,k,m.trans h2⟩
theorem lY{vs:am i'}(h:XY vs ys):vs.length=ys.length:=by
 induction h with
 |nil=>rfl
 |cons _ _ _ a=>rw[cS,cS,a]
theorem Ht{a b:am Gv}(c:a.Nodup)(d:b.length=a.length)(h:∀x∈a,x∈b):b.Perm a:=by
 induction a generalizing b with
 |nil=>have:b=[]:=mW d;subst this;exact j9 _
 |cons x a j =>
  rw[dM]at c;have f:=h x aV;have k:=List.perm_cons_erase f;have i:(b.erase x).length=a.length:=by rw[Gj f,d];rfl
  have h2:∀y∈a,y∈b.erase x:=λy g=>(Gm (show y≠x from λe=>c.1 (by rw[<-e];exact g))).mpr (h y (a7 _ g))
  exact k.trans ((j c.2 i h2).cons x)
structure vr(P:XJ)(w:XT)(a:Up)(vs:List i')(I:Up)(fp:List Up)(h:XD):Prop where
 go:∃St:Nat->XD->Prop,(∀A:XW,A.handled=none->Walks P w A I fp [I] vs.length (λi v=>vs[i]?=ih v) St)/\St 0 h
theorem B0{es:Array (Int×i')}{t:YL}(j:Nat->Nat){vs:am i'}(B:a≠I)(n:o.data=.set es ep t)(p:t.fits es.size=true)(r:es.size=vs.length)(h0:j 0=0)(C:h.get? a=ih o)(hi:h.get? I=ih (hR (.int 0 0) 0 a vs.length ep))
  (y:∀(A:XW) (s:Ur) (i:Nat) (v:i') (d:i'->Ur->Prop) (c:a2 (i'×Nat)->Ur->Prop),s.heap.get? a=ih o->vs[i]?=ih v->c (ih (v,j (i+1))) s->Ut (UK P w) A (setNext a (j i) i ep) c d s)
  (done:∀(A:XW) (s:Ur) (d:i'->Ur->Prop) (c:a2 (i'×Nat)->Ur->Prop),s.heap.get? a=ih o->c none s->Ut (UK P w) A (setNext a (j vs.length) vs.length ep) c d s):vr P w a vs I [I,a] h:=by
 refine⟨λi h=>h.get? a=ih o/\h.get? I=ih (hR (.int (j i) 0) i a vs.length ep),λA D=>⟨λb f=>(by simp at f;simp[f]),λi h h' st k=>⟨k a (by simp) _ st.1,k I (by simp) _ st.2⟩,λi s Q E hi st q=>?_,λs Q E st q=>?_,λi s Q E st q=>?_⟩,C,by rw[h0];exact hi⟩
 ·have hv:vs[i]?=ih vs[i]:=bz hi
  refine Hh st.2 st.1 n p r (λd c l=>y _ _ i _ d c st.1 hv l) λh' g u=>?_;exact q _ h' s.toks hv ⟨by rw[u.2 a B];exact st.1,g⟩ λb x f e=>by rw[u.2 b (λz=>f (by simp[z]))];exact e
 ·exact Hq D st.2 st.1 n p r (λd c l=>done _ _ d c st.1 l) λh' k=>q h' s.toks λb x f e=>k b x (λz=>f (by simp[z])) e
 ·have m:s.TypeIs (.ref I) "set_iterator" :=⟨_,st.2,rfl⟩
  refine w2 m o9 (hY o9 m Ag ?_ (Ak _));show Ut _ _ (ret (.ref I)) _ _ s;exact ao ⟨_,rfl,"set_iterator",_,m,lP.lookup,q⟩
theorem Kk{es:Array (Int×i')}{t:YL}{pt:Up}{ps:am Nat}{vs:am i'}(y:a≠I)(B:pt≠I)(n:o.data=.set es ep t)(p:t.fits es.size=true)(r:es.size=vs.length)(G:ps.length=vs.length)(C:h.get? a=ih o)(hi:h.get? I=ih (hR (.ref pt) 0 a vs.length ep))
  {op:Ye}{c:Nat} (D:h.get? pt=ih op) (m:op.data=.seq (ps.map λ(j:Nat)=>rawInt j).toArray c) (x:∀(i:Nat) (v:i'),vs[i]?=ih v ->∃pl z,ps[i]?=ih pl/\es[pl]?=ih (z,v)):vr P w a vs I [I,a,pt] h:=by
 refine⟨λi h=>h.get? a=ih o/\h.get? pt=ih op/\h.get? I=ih (hR (.ref pt) i a vs.length ep),λA F=>⟨λb d=>(by simp at d;simp[d]),λi h h' st k=>⟨k a (by simp) _ st.1,k pt (by simp) _ st.2.1,k I (by simp) _ st.2.2⟩,λi s Q E hi st q=>?_,λs Q E st q=>?_,λi s Q E st q=>?_⟩,C,D,hi⟩
 ·have hv:vs[i]?=ih vs[i]:=bz hi
  obtain⟨pl,z,h1,h2⟩:=x i _ hv;refine Hi st.2.2 st.1 n p r ⟨op,c,st.2.1,m⟩ h1 h2 λh' g f=>?_;exact q _ h' s.toks hv ⟨by rw[f.2 a y];exact st.1,by rw[f.2 pt B];exact st.2.1,g⟩ λb u d e=>by rw[f.2 b (λz=>d (by simp[z]))];exact e
 ·exact Hs F st.2.2 st.1 n p r ⟨op,c,st.2.1,m⟩ (by omega) λh' k=>q h' s.toks λb u d e=>k b u (λz=>d (by simp[z])) e
 ·have l:s.TypeIs (.ref I) "set_iterator" :=⟨_,st.2.2,rfl⟩
  refine w2 l o9 (hY o9 l Ag ?_ (Ak _));show Ut _ _ (ret (.ref I)) _ _ s;exact ao ⟨_,rfl,"set_iterator",_,l,lP.lookup,q⟩
end
theorem Bn(j k:Nat):Yu #[j] k=if j<k then 1 else 0:=by
 unfold Yu;show Yp #[j] k 1 0 1=_;unfold Yp
 by_cases h:j<k
 ·simp[h,Yp]
 ·simp[h,Yp]
theorem Iw(k:Nat):Yu #[] k=0:=by unfold Yu;rfl
section
variable{xs:am Gv}
theorem Kl{Q:i'->Ur->Prop}(W:d2 P w s.heap a xs)(xc:xs.Nodup)
  (q:∀(h':XD) (d':Drawn) (I:Up) (fp:am Up) (vs:am i') (ys:am Gv),vr P w a vs I fp h'->XY vs ys->ys.Perm xs->(∀b∈fp,b=a\/s.heap.objs.size<=b)->I∈fp->(∀b∈fp,b<h'.objs.size)->s.heap.objs.size<=I->(∀b D,s.heap.get? b=ih D->h'.get? b=ih D)->Q (.ref I) { s with heap:=h',drawn:=d' }) :
  Ut (UK P w) A (pyIter (.ref a)) Q E s:=by
 have X:=W.typeIs;obtain⟨o,es,ep,t,m,ye,f,xb,ya,yc,c,zf,za,yb⟩:=W;have C:=bt m;obtain⟨ks,J,zc⟩:=Iv xb;have xd:ks.length=xs.length:=by have:=lY J;rw[aE,fA]at this;omega
 have kp:ks.Perm xs:=Ht xc xd λx yd=>(zc x).mpr ((ya x).mp yd);refine w2 X aar (hY aar X Ho ?_ (F.args_set_iter_1 _));unfold XM.«frozenset.__iter__» Z2 Z3 setEntries setDrawn setsByText;refine ae (ae (ao (ao ?_)));refine ae (ae (ae (g4 m f c (ao (ao ?_)))))
 dsimp only
 refine ae (ae (g4 m f c ?_));dsimp only;refine ae (ae (iE (ao (ao ?_))));show Ut _ _ (if (!w.params.followText "set-order" && (!t.plain&&decide (es.size>1)))=true then _ else _) _ _ s
 by_cases big:(!w.params.followText "set-order" && (!t.plain&&decide (es.size>1)))=true
 ·
  rw[ay big];refine ae (CP es.size (Xs es.size) (by simp) λps d L=>?_)
  have h:ps.length=es.size:=by rw[L.length_eq];simp
  refine ae (fB ?_ (by show(ps.map _).toArray.size<=Us;rw[bW,aE,h];exact wZ yc))
  refine ae ?_;unfold setEpoch;refine ae (g4 (a8 _ m) f c (ao ?_))
  dsimp only
  refine ae (fB (ao ⟨_,rfl,"set_iterator",_,⟨_,b5 _ rfl,rfl⟩,lP.lookup,?_⟩));have zb:∀p∈ps,p<es.size:=λp B=>je.mp (L.mem_iff.mp B)
  let vs:am i':=ps.map λp=>(es.toList.map (·.2)).getD p .none
  have pv:vs.Perm (es.toList.map (·.2)):=by
   have e1:(Xs es.size).map (λp=>(es.toList.map (·.2)).getD p .none)=es.toList.map (·.2):=by
    apply Gu
    ·simp
    ·intro n h1 h2
     have:n<es.size:=by simpa using h1
     simp[this]
   rw[<-e1];exact L.map _
  obtain⟨ys,M,N⟩:=Bm J pv;have vl:vs.length=es.size:=by show(ps.map _).length=_;rw[aE,h]
  have eo:(s.heap.push { cls:=.type "tuple",data:=.seq (ps.map λ(i:Nat)=>rawInt i).toArray }).objs.size=s.heap.objs.size+1:=hX ..;refine q _ d _ [_,a,s.heap.objs.size] vs ys (Kk (o:=o) (op:={ cls:=.type "tuple",data:=.seq (ps.map λ(i:Nat)=>rawInt i).toArray }) (ps:=ps) (by rw[eo];exact bI (lJ C)) (by rw[eo];exact bI (j4 _)) f c vl.symm (by rw[vl,h]) (a8 _ (a8 _ m)) ?_ (a8 _ (b5 _ rfl)) rfl ?_) M (N.trans kp) ?_ aV ?_ (by rw[eo];omega) λb D e=>a8 _ (a8 _ e)
  ·rw[b5 _ rfl,vl];rfl
  ·intro i v hv
   have R:(ps.map λp=>(es.toList.map (·.2)).getD p .none)[i]?=ih v:=hv;rw[dQ]at R;obtain⟨p,B,G⟩:=gi.mp R;have S:=zb p (di B);refine⟨p,es[p].1,B,?_⟩;rw[mX S]
   congr 1
   rw[<-G];simp[S]
  ·intro b g
   simp only[bj,jm,jn]at g;rcases g with rfl|rfl|rfl
   ·exact .inr (by rw[eo];omega)
   ·exact .inl rfl
   ·exact .inr (aU _)
  ·intro b g
   simp only[bj,jm,jn]at g;rw[hX,eo];rcases g with z|z|z
   ·rw[z,eo];exact j4 _
   ·rw[z];exact lJ (lJ C)
   ·rw[z];exact lJ (j4 _)
 ·rw[aq big]
  refine ae (ao ?_);refine ae ?_;unfold setEpoch;refine ae (g4 m f c (ao ?_))
  dsimp only
  refine ae (fB (ao ⟨_,rfl,"set_iterator",_,⟨_,b5 _ rfl,rfl⟩,lP.lookup,?_⟩));have T:∀b ∈ [s.heap.objs.size,a],b=a\/s.heap.objs.size<=b:=λb g=>by
   simp only[bj,jm,jn]at g;rcases g with rfl|rfl
   ·exact .inr (aU _)
   ·exact .inl rfl
  have U:∀(Y:Ye),∀b ∈ [s.heap.objs.size,a],b<(s.heap.push Y).objs.size:=λY b g=>by
   simp only[bj,jm,jn]at g;rw[hX];rcases g with z|z
   ·rw[z];exact j4 _
   ·rw[z];exact lJ C
  cases r:w.params.followText "set-order" with
  |true =>
   have xa:∀next:Nat->Nat,((pickOrder next es).toList.map (·.2)).Perm (es.toList.map (·.2)):=λnext=>by
    unfold pickOrder;have:=Bl next es.size 0 es.toList #[] (by simp)
    exact(by simpa using this:(YM next es.size 0 es.toList #[]).toList.Perm es.toList).map _
   obtain⟨ys,M,N⟩:=Bm J (xa (w.params.setOrder a ep));have vl:=(xa (w.params.setOrder a ep)).length_eq;rw[aE,fA,aE,fA]at vl;refine q _ s.drawn _ [_,a] ((pickOrder (w.params.setOrder a ep) es).toList.map (·.2)) ys (B0 (o:=o) (λ_=>0) (bI C) f c (by rw[aE,fA,vl]) rfl (a8 _ m) ?_ ?_ ?_) M (N.trans kp) T aV (U _) (aU _) λb D e=>a8 _ e
   ·rw[b5 _ rfl,aE,fA,vl];rfl
   ·intro A s i v O y l hv u
    unfold setNext setsByText;refine ae (g4 l f c ?_);dsimp only;refine ae (ae (iE (ao ?_)));show Ut _ _ (if w.params.followText "set-order" = true then _ else _) _ _ _;rw[ay r,aq (by simp)]
    unfold setWalk setsByText;refine ae (ae (g4 l f c ?_));dsimp only;refine ae (ae (iE (ao ?_)));show Ut _ _ (if w.params.followText "set-order" = true then _ else _) _ _ _;rw[ay r];refine ae (iE (ao (ao ?_)));show y (((pickOrder (w.params.setOrder a ep) es)[i]?).map λe=>(e.2,0)) s;rw[dQ,oS]at hv;obtain⟨e,K,G⟩:=gi.mp hv;rw[K];show y (ih (e.2,0)) s;rw[G];exact u
   ·intro A s O y l u
    unfold setNext setsByText;refine ae (g4 l f c ?_);dsimp only;refine ae (ae (iE (ao ?_)));show Ut _ _ (if w.params.followText "set-order" = true then _ else _) _ _ _;rw[ay r,aq (by simp)]
    unfold setWalk setsByText;refine ae (ae (g4 l f c ?_));dsimp only;refine ae (ae (iE (ao ?_)));show Ut _ _ (if w.params.followText "set-order" = true then _ else _) _ _ _;rw[ay r];refine ae (iE (ao (ao ?_)));show y (((pickOrder (w.params.setOrder a ep) es)[((pickOrder (w.params.setOrder a ep) es).toList.map (·.2)).length]?).map λe=>(e.2,0)) s;rw[sd (by simp)]
    exact u
  |false =>
   have a5:es.size<=1:=by
    rw[r]at big
    by_cases z:es.size<=1
    ·exact z
    ·have B:=yb (by omega)
     rw[B]at big;exact absurd (by simp;omega) big
   have V:t.led=true:=by rw[za,r];rfl
   have yf:t.place.size=es.size:=by
    have:=c;simp only[SetTable.fits,hZ,df,decide_eq_true_eq]at this;exact this.1
   refine q _ s.drawn _ [_,a] (es.toList.map (·.2)) ks (B0 (o:=o) (λi=>if i=0 then 0 else t.place.getD 0 0+1) (bI C) f c (by rw[aE,fA]) rfl (a8 _ m) ?_ ?_ ?_) J kp T aV (U _) (aU _) λb D e=>a8 _ e
   ·rw[b5 _ rfl,aE,fA];rfl
   ·intro A s i v O y l hv u
    rw[dQ,oS]at hv;obtain⟨e,K,G⟩:=gi.mp hv;have hi:i<es.size:=(wJ.mp K).1;have zd:i=0:=by omega
    subst zd;obtain⟨h,H⟩:∃j,t.place = #[j]:=by
     have:t.place.size=1:=by omega
     exact⟨t.place[0],by
      apply aaT
      ·simp[this]
      ·intro k h1 h2;have:k=0:=by omega
       subst this;simp⟩
    unfold setNext setsByText;refine ae (g4 l f c ?_);dsimp only;refine ae (ae (iE (ao ?_)));show Ut _ _ (if w.params.followText "set-order" = true then _ else _) _ _ _;rw[aq (by rw[r];exact b9)]
    show Ut _ _ (if (!t.plain&&decide (es.size>1))=true then _ else _) _ _ _;rw[aq (by simp;omega)]
    show Ut _ _ ((if (!t.led && !es.isEmpty)=true then unsupported "set:maker-not-led" else pure ()) >>= _) _ _ _;rw[V,aq (by simp)]
    refine ae (ao ?_);rw[H,ay rfl,Bn,aq (by omega),K]
    refine ao ?_;show y (ih (e.2,h+1)) s;rw[G];have:(if 0+1=0 then 0 else t.place.getD 0 0+1)=h+1:=by rw[H];rfl
    rw[this]at u;exact u
   ·intro A s O y l u
    unfold setNext setsByText;refine ae (g4 l f c ?_);dsimp only;refine ae (ae (iE (ao ?_)));show Ut _ _ (if w.params.followText "set-order" = true then _ else _) _ _ _;rw[aq (by rw[r];exact b9)]
    show Ut _ _ (if (!t.plain&&decide (es.size>1))=true then _ else _) _ _ _;rw[aq (by simp;omega)]
    show Ut _ _ ((if (!t.led && !es.isEmpty)=true then unsupported "set:maker-not-led" else pure ()) >>= _) _ _ _;rw[V,aq (by simp)]
    refine ae (ao ?_);have out:es[Yu t.place (if (es.toList.map (·.2)).length=0 then 0 else t.place.getD 0 0+1)]?=none:=by
     rw[aE,fA]
     by_cases z:es.size=0
     ·have:t.place = #[]:=Array.eq_empty_of_size_eq_zero (by omega)
      rw[this,Iw];exact sd (by omega)
     ·have e1:es.size=1:=by omega
      obtain⟨h,H⟩:∃j,t.place = #[j]:=by
       have:t.place.size=1:=by omega
       exact⟨t.place[0],by
        apply aaT
        ·simp[this]
        ·intro k h1 h2;have:k=0:=by omega
         subst this;simp⟩
      rw[aq z,H,Bn];have : #[h].getD 0 0=h:=rfl;rw[this,ay (by omega)]
      exact sd (by omega)
    rw[out];exact ao u
end
end HS
namespace HS
open Spec PyProof.Rows W
section
variable{xs:am Gv}
theorem Km{Q:Bool->Ur->Prop}(c:s.TypeIs (.ref a) "set")(h:Q false s):Ut (UK P w) A (YS (.ref a)) Q E s:=by
 unfold YS;refine ae (wpAny_specialOf c PySem.F.slot_set_len.lookup ?_);generalize d:("set.__len__" : String)=e
 wp_delta
 rw[show splitId e=ih ("set","__len__") from by subst d;decide +kernel];subst d
 refine ae (GB (T:= "set") (b:=true) c (by rw[Gz];kernel_rfl) ?_)
 refine GD (λz=>absurd z (by decide)) λ_=>GD (λ_=>?_) λz=>absurd (by decide +kernel) z
 exact ae (ji c (ao h))
theorem Iy{R:Y4->Ur->Prop}(V:A.handled=none)(p:d2 P w s.heap a xs)(X:xs.Nodup)(S:Up)(v:S≠a)(i:i')(r:Nat)(D:s.heap.get? S=ih { cls:=.type "list",data:=.seq #[] r })
  (Y:∀h' d' tk (vs:am i') (ys:am Gv) g,(∀b o,b≠S->s.heap.get? b=ih o->h'.get? b=ih o)->h'.get? S=ih { cls:=.type "list",dict:=none,data:=.seq vs.toArray g,slots:= #[] }->XY vs ys->ys.Perm xs->R (.ok (.ret i)) { s with heap:=h',drawn:=d',toks:=tk }) :
  Ut (UK P w) A.in1 (XG (.ref S) (.ref a) i)
   (λN s'=>match N with|.done f=>R (.ok f) s'|.again g=>g.quiet=true/\codeAny (UK P w) A g R s') (λe s'=>R (.error e) s') s:=by
 have E:=p.typeIs;have O:xs.length<scanBound:=by obtain⟨o,es,ep,t,zd,xd,xe,yd,qT,d,ye,ze,_⟩:=p;omega
 unfold XG;refine ae (ji (T:= "set") E ?_);have h1:YZ (.ref S) (.ref a)=false:=by simp[YZ,v]
 have h2:(XS "set" == XS "list")=false:=by decide
 have F:(XS "set" == XS "tuple")=false:=by decide
 simp only[h1,h2,F,Ga,wz,j6];refine ae (Kl p X λh' d' I fp vs ys W G H ya xf yf za k=>?_);obtain⟨St,xb,st⟩:=W.go;have J:=xb A.in1 (by simpa using V)
 have vl:vs.length=xs.length:=by rw[lY G,H.length_eq]
 have x:S ∉ fp:=λz=>by
  rcases ya S z with e|e
  ·exact v e
  ·exact absurd (bt D) (Gp.mpr e)
 have yb:YD { s with heap:=h',drawn:=d' } (.ref a) "set" :=by
  obtain⟨o,e,c⟩:=E;exact⟨o,k _ _ e,c⟩
 refine ae (d5 (Km yb ?_));have n:=k _ _ D;have y:∀(h:XD) (l:Nat),St 0 h->(∀b o,b≠S->s.heap.get? b=ih o->h.get? b=ih o)->h.get? S=ih { cls:=.type "list",data:=.seq #[] l } ->
   codeAny (UK P w) A (.builtin "list.extend.loop" ⟨[.ref S,.ref I,i],[]⟩) R { s with heap:=h,drawn:=d' }:=by
  intro h l Q zb L;refine codeAny_extend_loopS J.toS (by rw[vl];exact wZ O) S x i vs.length 0 _ #[] l rfl (bx _) Q L (ItemsOf.nil _) λs' u g K U m=>?_
  rw[Moved.eq_with K];have xc:u.toList=vs:=by
   apply List.ext_getElem?
   intro j;rw[oS]
   by_cases yc:j<vs.length
   ·have B:j<u.size:=by rw[m.1];exact yc
    rw[mX B];exact(m.2 j _ (mX B)).symm
   ·rw[sd (by rw[m.1];omega),wW (by omega)]
  refine Y s'.heap d' s'.toks vs ys g (λb o d e=>K.heap b o (λqT=>?_) (zb b o d e)) (by rw[U,<-xc]) G H
  rcases bj.mp qT with zc|qT
  ·exact d zc
  ·exact absurd (bt e) (by rw[bX.mp qT];exact Gp.mpr za)
 refine GD (λ_=>?_) (λ_=>ao ⟨jk U1 _,y _ r st (λb o _ e=>k b o e) n⟩);refine ae (jf (ae ?_));show Ut _ _ (updateSeq S (·.push .none) >>= λ_=>updateSeq S (·.pop)) _ _ _;refine ae (GG n rfl ?_);have q:=oR (Xw (·.push Vv)) n rfl;refine GG (hz:=by seq_fits) q rfl ?_
 have M:=oR (Xw (·.pop)) q rfl;have C:∀b o,b≠S->h'.get? b=ih o->((h'.update S (Xw (·.push Vv))).update S (Xw (·.pop))).get? b=ih o:=λb o d e=>(j8 _ _ (aP d)).trans ((j8 _ _ (aP d)).trans e);exact ao ⟨jk U1 _,y _ _ (J.frame 0 _ _ st λb d o e=>C b o (λz=>x (z ▸ d)) e) (λb o d e=>C b o d (k b o e)) M⟩
theorem HI{Q:am i'->Ur->Prop}(d:A.handled=none)(c:d2 P w s.heap a xs)(f:xs.Nodup)
  (g:∀h' d' tk (vs:am i') (ys:am Gv),(∀b o,s.heap.get? b=ih o->h'.get? b=ih o)->XY vs ys->ys.Perm xs->Q vs { s with heap:=h',drawn:=d',toks:=tk }):Ut (UK P w) A (collect (.ref a)) Q E s:=by
 unfold collect;refine ae (Gy (h3 U2 ?_));rw[iG U3 _];show Ut _ A.in1 (newList [] >>= λl=>again (.builtin "list.__iadd__" ⟨[l,.ref a],[]⟩)) _ _ s;refine ae (fB (ao ⟨jk w3 _,h3 U4 ?_⟩));rw[iG w3 _];show Ut _ A.in1 (XG (.ref s.aj) (.ref a) (.ref s.aj)) _ _ _;have h:s.aj≠a:=jg c.lt;refine Iy (R:=λr s'=>match r with|.ok (.ret v)=>Ut (UK P w) A (match v with|.ref a=>(do match (<- load a).data with|.seq xs _=>pure xs.toList|_=>unsupported "internal:collect")|_=>unsupported "internal:collect") Q E s'|.ok _=>False|.error e=>E e s') (s:={ s with heap:=s.heap.push { cls:=.type "list",data:=.seq ([]:am i').toArray } }) d (c.keep λo e=>a8 _ e) f _ h _ 0 (b5 _ rfl) λh' d' tk vs ys n k i j m=>?_;show Ut _ A (load s.aj >>= _) _ _ _;refine ae (oO i (ao ?_));exact g h' d' tk vs ys (λb o e=>k b o (bI (bt e)) (a8 _ e)) j m
theorem Iz{Q:i'->Ur->Prop}(l:A.handled=none)(p:d2 P w s.heap a xs)(q:xs.Nodup)(G:xs.length<=63)
  (r:∀D c h' d' tk (vs:am i') (ys:am Gv),(∀b o,s.heap.get? b=ih o->h'.get? b=ih o)->(∀b o,s.heap.get? b=ih o->b≠D)->h'.get? D=ih (listOf vs.toArray c)->XY vs ys->ys.Perm xs->sortedS ys=true->Q (.ref D) { s with heap:=h',drawn:=d',toks:=tk }) :
  Ut (UK P w) A (call (.builtin "sorted") [.ref a]) Q E s:=by
 refine U5 kind_sorted plain_sorted entry_sorted (args_sorted1 _) ?_;unfold XM.«sorted»;refine ae (m:=checkCount "sorted" 1 1 _) (ao (ae (HI (by simpa using l) p q λh1 t u vs ys h d i=>?_)))
 have vl:vs.length=xs.length:=by rw[lY d,i.length_eq]
 refine ae (wY ?_ (by rw[aX];omega))
 have f:(h1.push (seqObj "list" vs.toArray 0)).get? h1.objs.size=ih (seqObj "list" vs.toArray 0):=b5 _ rfl;refine ae (d5 (hY slot_list_sort ⟨_,f,rfl⟩ entry_list_sort (list_sort_treeK strKind_oneLt f d.keysOf (λC F rest e=>keyKind_strs (by rw[<-e];exact d)) (by omega) λj v x=>⟨_,rfl,?_⟩) (args_list_sort _)))
 obtain⟨k,b1,y,z⟩:=sorted_out_str d v x;obtain⟨c,B⟩:=sortedHeap_at (n:=0) (vs:=vs) (out:=(arrOf j).map (·.2)) f;refine ao ⟨_,rfl,r _ c _ t u _ k (λb o e=>?_) (λb o e=>bI (bt (h b o e))) (by rw[B]) b1 (y.trans i) z⟩
 have e1:=h b o e;have g:=bt e1;rw[sortedHeap_old (bI g) (by rw[size_push'];exact lJ g),Heap.get?_push_ne _ _ _ (bI g)]
 exact e1
end
end HS
namespace L2
open Spec PyProof.Rows W HS
def i6(P:XJ)(w:XT)(a:Up)(xs:List Gv):HO:=.ext λh=>xs.Nodup/\d2 P w h a xs
theorem LA{xs:am Gv}(b:xs.Nodup)(x:d2 P w h a xs):bH P w H h a (i6 P w a xs):=
 ⟨⟨b,x⟩,(let ⟨o,_,_,_,e,_⟩:=x;⟨o,e⟩),λ_ _ q k=>⟨q.1,q.2.keep k⟩⟩
theorem Inv.draw{σ:am (Option V)}(I:Inv X J σ H s)(d:Drawn):Inv X J σ H { s with drawn:=d }:=⟨I.ok,I.os,I.bare,I.base,I.loc,I.cell,I.free,I.eO,I.pin,I.aJ,I.len⟩
theorem t2:∀{vs:am i'}{ys:am Gv},XY vs ys ->∀(i:Nat) (v:i'),vs[i]?=ih v ->∃t,v=.str (ys.getD i "") t
 |_,_,.nil,i,v,h=>by simp at h
 |_,_,.cons y t r,0,v,h=>by simp at h;exact⟨t,by rw[<-h];rfl⟩
 |_,_,.cons y t r,i+1,v,h=>by
  obtain⟨t',e⟩:=t2 r i v (by simpa using h)
  exact⟨t',by rw[e];rfl⟩
theorem B1(D:X.calm=true):c2 X (.type "set") (λvs H Q=>∃(p:Up) (c:am Gv),vs=[.ref p]/\(au X.K H p (c.map V.str)\/aZ X.K H p (c.map V.str))/\c.length<=1000 /\∀a ds,H a=none->ds.Nodup->(∀y,y∈ds ↔ y∈c)->Q (.ref a) (upd H a (i6 X.prog X.w a ds))):=by
 rintro J s σ H vs us Q I r ⟨p,c,rfl,hq,N,q⟩;obtain⟨u,rfl,E⟩:=vals1 r;cases E
 have A:∀(its:am i') {T:String}{ol:Ye},Vals (c.map V.str) its->Src X.prog X.w T p ol its.toArray.size (λi v=>its.toArray[i]?=ih v)->s.heap.get? p=ih ol->wA X (call (.type "set") [.ref p]) (EP X J σ Q) X.xe s:=λits {T ol} F C G=>by
  have st:=pf F;have z:its.length=c.length:=lY st;refine I' (val:=λi=>c.getD i "") (I.ok.hd D) C G (λi v hv=>t2 st i v (by simpa using hv)) (by rw[bW,z];unfold scanBound;omega) λh' tk x k=>?_
  have kp:∀b o,s.heap.get? b=ih o->h'.get? b=ih o:=λb o e=>k b o (bt e) e;have B:=CN (λi=>c.getD i "") its.toArray.size;refine⟨.ref s.heap.objs.size,_,I.laid (t':=tk) kp (aU _) (LA B x),rfl,q _ _ (I.aJ.fresh (aU _)) B λy=>?_⟩;rw[BX,bW,z]
  constructor
  ·rintro⟨j,d,rfl⟩
   rw[show c.getD j "" = c[j] by simp[d]]
   exact gj d
  ·intro L
   obtain⟨j,d,e⟩:=w4.mp L;exact⟨j,d,by simp[d,e]⟩
 rcases hq with hq|hq
 ·obtain⟨its,g,l,M⟩:=I.list hq
  obtain⟨o,m,f,n,t⟩:=l.isList;exact A its g (src_list f ⟨n,t⟩) m
 ·obtain⟨its,g,l,M⟩:=I.tuple hq
  obtain⟨o,m,f,n,t⟩:=l;exact A its g (Lz f ⟨n,t⟩) m
theorem HJ:c2 X (.builtin "len") (λvs H Q=>∃(a:Up) (ds:am Gv),vs=[.ref a]/\H a=ih (i6 X.prog X.w a ds)/\Q (.int ds.length) H):=by
 rintro J s σ H vs us Q I r ⟨a,ds,rfl,c,q⟩;obtain⟨u,rfl,d⟩:=vals1 r;cases d
 obtain⟨⟨m,o,es,ep,t,e,b,f,l,k,g,i,j,_⟩,_⟩:=(show bH X.prog X.w H s.heap a (i6 X.prog X.w a ds) from I.aJ a _ c);refine call_len_set e b f i (by unfold scanBound at g;omega) ?_
 rw[<-j]at q;exact⟨.int es.size,H,I.tok _,⟨_,rfl⟩,q⟩
theorem Hd(j:X.calm=true):c2 X (.builtin "sorted") (λvs H Q=>∃(a:Up) (ds:am Gv),vs=[.ref a]/\H a=ih (i6 X.prog X.w a ds)/\ds.length<=63 /\∀D d,H D=none->d.Perm ds->sortedS d=true->Q (.ref D) (upd H D (.lst (d.map V.str)))):=by
 rintro J s σ H vs us Q I r ⟨a,ds,rfl,l,g,q⟩;obtain⟨u,rfl,n⟩:=vals1 r;cases n
 obtain⟨⟨t,x⟩,_⟩:=(show bH X.prog X.w H s.heap a (i6 X.prog X.w a ds) from I.aJ a _ l);obtain⟨m,f,_⟩:=id I.loc;refine Iz (I.ok.hd j) x t g λD c h' v tk out ys k y new st p i=>?_;obtain⟨z,A⟩:=Inv.sorted (t':=tk) (ys:=ys.map V.str) I f (f.at' λo e=>k _ _ e) (λb o _ e=>k b o e) y new (Bj st) (by rw[aE,p.length_eq,aX];omega)
 exact⟨.ref D,_,A.draw v,rfl,q _ ys z p i⟩
end L2
namespace L2
open W Calls PyProof.Rows
section
variable{α β:Type}{n:Nat}{lt:Nat->Nat->Bool}
def hS(lt:Nat->Nat->Bool)(p:Array Nat)(k:Nat):Prop:= ∀i j,i<j->j<k->lt (p.getD i 0) (p.getD j 0)=true
def jX(lt:Nat->Nat->Bool)(p:Array Nat)(k:Nat):Prop:= ∀i j,i<j->j<k->lt (p.getD j 0) (p.getD i 0)=true
theorem Pm.size{p:Array Nat}(h:Pm n p):p.size=n:=by have:=h.length_eq;simpa using this
theorem Pm.ne{p:Array Nat}(h:Pm n p)(hi:i<n)(c:j<n)(e:i≠j):p.getD i 0≠p.getD j 0:=by
 have d:=h.size;have a:p.toList.Nodup:=h.nodup_iff.mpr ZO;intro z;rw[iH,iH,mX (by omega),mX (by omega)]at z
 have b:p.toList[i]'(by simp;omega)=p.toList[j]'(by simp;omega):=by simpa using z
 exact e ((ZP a).mp b)
theorem B4{p:Array Nat}{m:Nat}(a:m<=p.size)(k:Nat)(b:k<m):(kas_rev p 0 m).getD k 0=p.getD (m - 1 - k) 0:=by
 unfold kas_rev;rw[iH,getElem?_mirror_all a,ay ⟨bx _,b⟩,iH,Nat.zero_add]
theorem jX.rev{p:Array Nat}{m:Nat}(b:m<=p.size)(a:jX lt p m):hS lt (kas_rev p 0 m) m:=λi j d c=>by
 rw[B4 b i (by omega),B4 b j c]
 exact a _ _ (by omega) (by omega)
theorem B5{p:Array Nat}{k l:Nat}(c:k<p.size)(d:l<=k)(i:Nat):(bubble p k (k - l)).getD i 0=if i=l then p.getD k 0 else if l<i/\i<=k then p.getD (i - 1) 0 else p.getD i 0:=by
 rw[iH,getElem?_bubble c (k - l) (by omega)]
 have:k - (k - l)=l:=by omega
 rw[this]
 by_cases a:i=l
 ·rw[ay a,ay a];exact(iH ..).symm
 ·rw[aq a,aq a]
  by_cases b:l<i/\i<=k
  ·rw[ay b,ay b];exact(iH ..).symm
  ·rw[aq b,aq b];exact(iH ..).symm
end
def jY(p q:Gv):Bool:=decide (p.cps.toList<q.cps.toList)
theorem Kn(p:Gv):jY p p=false:=d4 (List.lt_irrefl _)
theorem MJ{p r:Gv}(h1:jY p q=true)(h2:jY q r=true):jY p r=true:=cc (List.lt_trans (eg h1) (eg h2))
theorem LC{p:Gv}(h:p≠q)(f:jY p q=false):jY q p=true:=by
 refine cc ?_;have h1 : ¬ p.cps.toList<q.cps.toList:=of_decide_eq_false f;have h2:q.cps.toList<=p.cps.toList:=aaB.mp h1
 by_cases z:q.cps.toList<p.cps.toList
 ·exact z
 ·exact absurd (Ke (a:=p) (b:=q) (aaB.mp z) h2) h
theorem Ja{α β:Type}{F:α->β->Prop}{l:am α}{m:am β}(h:XH F l m)(dl:α)(a:β)(i:Nat)(hi:i<l.length):F (l.getD i dl) (m.getD i a):=by
 induction h generalizing i with
 |nil=>exact absurd hi (oU _)
 |cons p _ b =>
  cases i with
  |zero=>exact p
  |succ i=>exact b i (w1 hi)
theorem AF{α β γ:Type}{F:α->β->Prop}{f:γ->α}{g:γ->β}:∀{l:am γ},(∀x∈l,F (f x) (g x))->XH F (l.map f) (l.map g)
 |[],_=>.nil
 |x::l,h=>.cons (h x aV) (AF λy a=>h y (a7 _ a))
theorem MK{lt:Nat->Nat->Bool}{p:Array Nat}{n:Nat}(d:p.size=n)(a:hS lt p n):p.toList.Pairwise λi j=>lt i j=true:=by
 rw[List.pairwise_iff_getElem];intro i j hi c b;have h1:i<p.size:=by simpa using hi
 have h2:j<p.size:=by simpa using c
 have:=a i j b (by omega)
 rw[iH,iH,mX h1,mX h2]at this
 simpa using this
end L2
namespace HS
open Spec PyProof.Rows W
theorem HK{vs:am i'}{Q:am i'->Ur->Prop}(c:X6 s.heap l vs.toArray)(hz:vs.length<=Us)(q:∀h',(∀b o,s.heap.get? b=ih o->h'.get? b=ih o)->Q vs { s with heap:=h' }) :
  Ut (UK P w) A (collect (.ref l)) Q E s:=by
 obtain⟨o,d,f,n,g⟩:=id c;unfold collect;refine ae (Gy (h3 U2 ?_));rw[iG U3 _];show Ut _ A.in1 (newList [] >>= λz=>again (.builtin "list.__iadd__" ⟨[z,.ref l],[]⟩)) _ _ s;refine ae (wY (ao ⟨jk w3 _,h3 U4 ?_⟩));rw[iG w3 _];show Ut _ _ (XG (.ref s.heap.objs.size) (.ref l) (.ref s.heap.objs.size)) _ _ { s with heap:=s.heap.push (seqObj "list" #[] 0) };unfold XG;have a:(s.heap.push (seqObj "list" #[] 0)).get? l=ih o:=a8 _ d;refine ae (ji (T:= "tuple") ⟨o,a,f⟩ ?_);have h:(XS "tuple" == XS "tuple")=true:=by rfl
 rw[ay (by rw[h];simp)]
 refine ae (listItems_at a g (ae (listItems_at (xs:= #[]) (n:=0) (b5 _ rfl) rfl ?_)));rw[aq (by simp)]
 refine ae (listUpdate_at (xs:= #[]) (n:=0) (b5 _ rfl) rfl (ao ?_) (bx _) (by show(#[]++vs.toArray).size<=Us+1;simp only[r6,bW,iF];omega))
 show Ut (UK P w) A (load s.heap.objs.size >>= _) Q E { s with heap:=(s.heap.push (seqObj "list" #[] 0)).update s.heap.objs.size (Xw (· ++ vs.toArray)) };refine ae (oO (get?_update_seq (b5 _ rfl) _) ?_);show Ut _ _ (pure ((#[]:Array i')++vs.toArray).toList) Q E _;rw[show((#[]:Array i')++vs.toArray).toList=vs by simp]
 refine ao (q _ λb i e=>?_);exact(j8 _ _ (jg (bt e))).trans (a8 _ e)
end HS
namespace L2
open Spec PyProof.Rows W HS
end L2
namespace L2
open W Calls PyProof.Rows
structure hH(n:Nat)(lt:Nat->Nat->Bool):Prop where
 tr:∀i j k,i<n->j<n->k<n->lt i j=true->lt j k=true->lt i k=true
 QF:∀i j,i<n->j<n->i≠j->lt i j=false->lt j i=true
def cV{α:Type}(n:Nat)(lt:Nat->Nat->Bool)(φ:α->Prop):KasT α->Prop
 |.ret a=>φ a
 |.ask i j k=>i<n/\j<n/\i≠j/\cV n lt φ (k (lt i j))
section
variable{α β:Type}{n:Nat}{lt:Nat->Nat->Bool}
theorem cV.bind{b:α->Prop}{ψ:β->Prop}{f:α->KasT β}(g:∀a,b a->cV n lt ψ (f a)):∀{t:KasT α},cV n lt b t->cV n lt ψ (t.bind f)
 |.ret a,h=>g a h
 |.ask _ _ _,h=>⟨h.1,h.2.1,h.2.2.1,cV.bind g h.2.2.2⟩
theorem cV.wp{c:α->Prop}{b:Nat->Nat->(Bool->Ur->Prop)->Ur->Prop}{Q:α->Ur->Prop}{s:Ur}(d:∀i j C,i<n->j<n->i≠j->C (lt i j) s->b i j C s):∀{t:KasT α},cV n lt c t->(∀a,c a->Q a s)->t.kasWp b Q s
 |.ret a,h,q=>q a h
 |.ask _ _ _,h,q=>d _ _ _ h.1 h.2.1 h.2.2.1 (cV.wp d h.2.2.2 q)
theorem cV.mono{b ψ:α->Prop}(g:∀a,b a->ψ a):∀{t:KasT α},cV n lt b t->cV n lt ψ t
 |.ret a,h=>g a h
 |.ask _ _ _,h=>⟨h.1,h.2.1,h.2.2.1,cV.mono g h.2.2.2⟩
theorem uS{p:Array Nat}(O:hH n lt)(h:Pm n p)(hi:i<n)(a:j<n)(e:i≠j)(f:lt (p.getD i 0) (p.getD j 0)=false):lt (p.getD j 0) (p.getD i 0)=true:=
 O.QF _ _ (h.lt (by omega) i) (h.lt (by omega) j) (h.ne hi a e) f
theorem Jb{p:Array Nat}(O:hH n lt)(h:Pm n p){m:Nat}(h1:1<=m)(c:m<n)(a:hS lt p m)(l:lt (p.getD (m - 1) 0) (p.getD m 0)=true):hS lt p (m+1):=λi j b d=>by
 by_cases e:j<m
 ·exact a i j b e
 ·obtain rfl:j=m:=by omega
  by_cases e2:i=j - 1
  ·rw[e2];exact l
  ·exact O.tr _ _ _ (h.lt (by omega) _) (h.lt (by omega) _) (h.lt (by omega) _) (a i (j - 1) (by omega) (by omega)) l
theorem Jc{p:Array Nat}(O:hH n lt)(h:Pm n p){m:Nat}(h1:1<=m)(c:m<n)(a:jX lt p m)(l:lt (p.getD m 0) (p.getD (m - 1) 0)=true):jX lt p (m+1):=λi j b d=>by
 by_cases e:j<m
 ·exact a i j b e
 ·obtain rfl:j=m:=by omega
  by_cases e2:i=j - 1
  ·rw[e2];exact l
  ·exact O.tr _ _ _ (h.lt (by omega) _) (h.lt (by omega) _) (h.lt (by omega) _) l (a i (j - 1) (by omega) (by omega))
theorem tx{p:Array Nat}(O:hH n lt)(h:Pm n p):∀(f m:Nat),1<=m->m+f<=n->hS lt p m->cV n lt (λr=>m<=r/\r<=m+f/\hS lt p r/\(r<m+f->lt (p.getD r 0) (p.getD (r - 1) 0)=true)) (kas_asc p f m)
 |0,m,h1,h2,a=>⟨aU _,aU _,a,λz=>absurd z (by omega)⟩
 |f+1,m,h1,h2,a=>⟨h.lt (by omega) _,h.lt (by omega) _,h.ne (by omega) (by omega) (by omega),by
  cases c:lt (p.getD m 0) (p.getD (m - 1) 0) with
  |true=>exact⟨aU _,by omega,a,λ_=>c⟩
  |false =>
   refine cV.mono (λr b=>?_) (tx O h f (m+1) (by omega) (by omega) (Jb O h h1 (by omega) a (uS O h (by omega) (by omega) (by omega) c)))
   exact⟨by omega,by omega,b.2.2.1,λz=>b.2.2.2 (by omega)⟩⟩
theorem Bo{p:Array Nat}(O:hH n lt)(h:Pm n p):∀(f m:Nat),1<=m->m+f<=n->jX lt p m->cV n lt (λr:Array Nat×Nat×Nat=>r.1=p/\r.2.2=0/\m<=r.2.1/\r.2.1<=m+f/\jX lt p r.2.1) (kas_desc f p m 0)
 |0,m,h1,h2,a=>⟨rfl,rfl,aU _,aU _,a⟩
 |f+1,m,h1,h2,a=>⟨h.lt (by omega) _,h.lt (by omega) _,h.ne (by omega) (by omega) (by omega),by
  cases c:lt (p.getD m 0) (p.getD (m - 1) 0) with
  |true =>
   show cV n lt _ (if 0>0 then kas_desc f (kas_rev p (m - (0+1)) m) (m+1) 0 else kas_desc f p (m+1) 0);rw[aq (by omega)]
   refine cV.mono (λr b=>?_) (Bo O h f (m+1) (by omega) (by omega) (Jc O h h1 (by omega) a c))
   exact⟨b.1,b.2.1,by omega,by omega,b.2.2.2.2⟩
  |false =>
   refine⟨h.lt (by omega) _,h.lt (by omega) _,h.ne (by omega) (by omega) (by omega),?_⟩
   rw[uS O h (by omega) (by omega) (by omega) c]
   exact⟨rfl,rfl,aU _,ZW _ _,a⟩⟩
def qU(n:Nat)(lt:Nat->Nat->Bool)(r:Nat×Array Nat):Prop:=Pm n r.2/\hS lt r.2 r.1/\1<=r.1/\r.1<=n
theorem IA{p:Array Nat}(O:hH n lt)(h:Pm n p){m:Nat}(h1:1<=m)(h2:m<=n)(a:jX lt p m):cV n lt (qU n lt) (kas_tail3 m n p):=
 cV.bind (ψ:=qU n lt) (f:=λk=>.ret (k,kas_rev p 0 m)) (λr b=>(show qU n lt (r,kas_rev p 0 m) from⟨h.rev _ _,b.2.2.1,et h1 b.1,by have:=b.2.1;show r<=n;omega⟩)) (tx O (h.rev 0 m) (n - m) m h1 (by omega) (a.rev (by rw[h.size];exact h2)))
theorem IB{p:Array Nat}(O:hH n lt)(u:2<=n)(h:Pm n p):cV n lt (qU n lt) (kas_count n p):=
 (tx O h (n - 1) 1 (aU _) (by omega) (λi j d b=>absurd b (by omega))).bind λm f=>by
  obtain⟨c,v,a,k⟩:=f;show cV n lt _ (if (m==n)=true then _ else if m>1 then _ else _);split
  ·rename_i e
   have:m=n:=by simpa using e
   subst this;exact⟨h,a,c,aU _⟩
  ·rename_i e
   have ne:m≠n:=by simpa using e
   split
   ·rename_i g
    refine⟨h.lt (by omega) _,h.lt (by omega) _,h.ne (by omega) (by omega) (by omega),?_⟩
    rw[a 0 (m - 1) (by omega) (by omega)]
    exact⟨h,a,c,by omega⟩
   ·obtain rfl:m=1:=by omega
    have l:=k (by omega)
    have o:jX lt p 2:=λi j d b=>by
     obtain rfl:j=1:=by omega
     obtain rfl:i=0:=by omega
     exact l
    refine cV.bind (λr q=>?_) (Bo O h (n - (1+1)) (1+1) (by omega) (by omega) o)
    obtain⟨s,w,x,y,t⟩:=q;show cV n lt _ (if r.2.2>0 then _ else _);rw[aq (by omega),s]
    exact IA O h (by omega) (by omega) t
theorem sL{p:Array Nat}(O:hH n lt)(h:Pm n p){k:Nat}(d:k<n)(a:hS lt p k):∀(f l r:Nat),r - l<=f->l<=r->r<=k->(∀i,i<l->lt (p.getD i 0) (p.getD k 0)=true)->(∀i,r<=i->i<k->lt (p.getD k 0) (p.getD i 0)=true) ->
  cV n lt (λm=>m<=k/\(∀i,i<m->lt (p.getD i 0) (p.getD k 0)=true) /\∀i,m<=i->i<k->lt (p.getD k 0) (p.getD i 0)=true) (kas_place p k f l r)
 |0,l,r,s,t,b,lo,hi=>by
  obtain rfl:l=r:=by omega
  exact⟨b,lo,hi⟩
 |f+1,l,r,s,t,b,lo,hi=>by
  show cV n lt _ (if l ≥ r then _ else _);split
  ·obtain rfl:l=r:=by omega
   exact⟨b,lo,hi⟩
  ·refine⟨h.lt (by omega) _,h.lt (by omega) _,h.ne (by omega) (by omega) (by omega),?_⟩
   cases c:lt (p.getD k 0) (p.getD ((l+r) / 2) 0) with
   |true =>
    refine sL O h d a f l ((l+r) / 2) (by omega) (by omega) (by omega) lo λi o q=>?_
    by_cases e:i=(l+r) / 2
    ·rw[e];exact c
    ·exact O.tr _ _ _ (h.lt (by omega) _) (h.lt (by omega) _) (h.lt (by omega) _) c (a _ i (by omega) q)
   |false =>
    have g:=uS O h (i:=k) (j:=(l+r) / 2) d (by omega) (by omega) c
    refine sL O h d a f ((l+r) / 2+1) r (by omega) (by omega) b (λi o=>?_) hi
    by_cases e:i=(l+r) / 2
    ·rw[e];exact g
    ·exact O.tr _ _ _ (h.lt (by omega) _) (h.lt (by omega) _) (h.lt (by omega) _) (a i _ (by omega) (by omega)) g
theorem B6(O:hH n lt):∀(f:Nat) (p:Array Nat) (k:Nat),k+f=n->Pm n p->hS lt p k->cV n lt (λr=>Pm n r/\hS lt r n) (kas_bin f p k)
 |0,p,k,e,h,a=>by
  obtain rfl:k=n:=by omega
  exact⟨h,a⟩
 |f+1,p,k,e,h,a=>(sL O h (by omega) a k 0 k (by omega) (bx _) (aU _) (λi hi=>absurd hi (oU _)) (λi h1 h2=>absurd h2 (by omega))).bind λl q=>by
  obtain⟨b,s,t⟩:=q;refine B6 O f _ _ (by omega) (h.QE _ _) λi j o v=>?_
  have u:=h.size;rw[B5 (by omega) b i,B5 (by omega) b j]
  by_cases c:i=l
  ·rw[ay c,aq (by omega),ay (by omega)]
   exact t _ (by omega) (by omega)
  ·rw[aq c]
   by_cases d:l<i/\i<=k
   ·rw[ay d,aq (by omega),ay (by omega)]
    exact a _ _ (by omega) (by omega)
   ·rw[aq d]
    by_cases g:j=l
    ·rw[ay g];exact s i (by omega)
    ·rw[aq g]
     by_cases m:l<j/\j<=k
     ·rw[ay m]
      exact a _ _ (by omega) (by omega)
     ·rw[aq m]
      exact a _ _ o (by omega)
theorem Jd(O:hH n lt)(c:2<=n):cV n lt (λr=>Pm n r/\hS lt r n) (kas_sort n):=
 (IB O c (j9 _)).bind λr d=>by
  obtain⟨b,a,f,g⟩:=d;show cV n lt _ (if r.1<n then _ else _);split
  ·refine B6 O _ _ _ (by omega) b ?_
   rw[show max r.1 1=r.1 by omega];exact a
  ·obtain e:r.1=n:=by omega
   rw[e]at a;exact⟨b,a⟩
end
end L2
namespace L2
open W Calls PyProof.Rows HS
def fy:List Gv->List Gv->Bool
 |a::as,b::bs=>if a=b then fy as bs else jY a b
 |_,_=>false
theorem Dm:∀{a b c:am Gv},a.length=b.length->b.length=c.length->fy a b=true->fy b c=true->fy a c=true
 |[],_,_,h1,_,h,_=>by unfold fy at h;cases h
 |a::f,[],_,h1,_,_,_=>by simp at h1
 |a::f,b::bs,[],_,h2,_,_=>by simp at h2
 |a::f,b::bs,c::cs,h1,h2,e,d=>by
  unfold fy at e d⊢
  by_cases e1:a=b
  ·rw[ay e1]at e
   subst e1
   by_cases e2:a=c
   ·rw[ay e2]at d⊢;exact Dm (by simpa using h1) (by simpa using h2) e d
   ·rw[aq e2]at d⊢;exact d
  ·rw[aq e1]at e
   by_cases e2:b=c
   ·subst e2
    rw[aq e1];exact e
   ·rw[aq e2]at d
    have t:=MJ e d
    by_cases e3:a=c
    ·subst e3;rw[Kn]at t;cases t
    ·rw[aq e3];exact t
theorem CQ:∀{a b:am Gv},a.length=b.length->a≠b->fy a b=false->fy b a=true
 |[],[],_,h,_=>absurd rfl h
 |[],b::bs,h,_,_=>by simp at h
 |a::d,[],h,_,_=>by simp at h
 |a::d,b::bs,h1,h2,c=>by
  unfold fy at c⊢
  by_cases e:a=b
  ·subst e
   rw[ay rfl]at c⊢;exact CQ (by simpa using h1) (λz=>h2 (by rw[z])) c
  ·rw[aq e]at c;rw[aq (aP e)]
   exact LC e c
theorem Je{a b:Gv}{t u:Tok}{c:Bool}{Q:Bool->Ur->Prop}(h:Q (jY a b) s):Ut (UK P w) A (oneLt' c (.str a t) (.str b u)) Q E s:=by
 cases c with
 |true=>exact oneLt_str h
 |false =>
  rw[oneLt'_eq];simp only[wz,j6];exact ae (aa9 (iB h))
theorem Bp{b g:Bool}{Q:Bool->Ur->Prop}:∀{c bs:am Gv}{us vs:am i'}{d f:am i'} (i:Nat),XY us c->XY vs bs->c.length=bs.length->c≠bs->Q (fy c bs) s->KatLex P w A b g Q ((us++d).zip (vs++f)) i s
 |[],[],_,_,_,_,_,_,_,_,h,_=>absurd rfl h
 |[],_::_,_,_,_,_,_,_,_,h,_,_=>by simp at h
 |_::_,[],_,_,_,_,_,_,_,h,_,_=>by simp at h
 |a::c,k::bs,_,_,d,f,i,.cons _ t h1,.cons _ u h2,l,j,q=>by
  unfold fy at q;refine kat_cons (FR ?_)
  by_cases e:a=k
  ·rw[cc e]
   rw[ay e]at q;exact kat_yes (Bp (i+1) h1 h2 (by simpa using l) (λz=>j (by rw[e,z])) q)
  ·rw[d4 e]
   rw[aq e]at q;exact kat_no (Je q)
def kK(H:Hp)(m:Nat)(vs:List V)(kvs:List (List Gv×List V)):Prop:=XH (λy p=>∃a,y=V.ref a/\H a=ih (.tup (p.1.map V.str++p.2))/\p.1.length=m) vs kvs
theorem AG{H:Hp}:∀{ks:am Gv}{rest:am V}{its:am i'},Vals (ks.map V.str++rest) its ->∃us a,its=us++a/\XY us ks
 |[],rest,its,h=>⟨[],its,rfl,.nil⟩
 |k::ks,rest,its,h=>by
  cases h with
  |cons r t =>
   obtain⟨tk,rfl⟩:=r;obtain⟨us,a,e,st⟩:=AG (H:=H) t;exact⟨.str k tk::us,a,by rw[e];rfl,.cons k tk st⟩
theorem Jf{σ:am (Option V)}
  (zi:∀(A:XW) (E:i'->Ur->Prop) (xg:am i'->Ur->Prop),(X.A.handled=none->A.handled=none)->(∀(its:am i') (s1:Ur) (H:Hp) (ys:am V) (kvs:am (List Gv×List V)) (G:Nat),Inv X J σ H s1->Vals ys its->kK H G ys kvs->1<=G->(kvs.map (·.1)).Nodup->ys.length<=63 ->
   (∀D ya xa,H D=none->ya.Perm ys->kK H G ya xa->xa.Perm kvs->(xa.map (·.1)).Pairwise (λa b=>fy a b=true)->Q (.ref D) (upd H D (.lst ya)))->xg its s1)->Ut X.c' A (collect (.ref p)) xg E s) :
  wA X (call (.builtin "sorted") [.ref p]) (EP X J σ Q) X.xe s:=by
 refine U5 kind_sorted plain_sorted entry_sorted (args_sorted1 _) ?_;unfold XM.«sorted»;refine ae (m:=checkCount "sorted" 1 1 _) (ao (ae (zi _ _ _ (λh=>by simpa using h) λits s H ys kvs G I xb pr yz zp zz q=>?_)))
 have xq:ys.length<=Us:=by rw[aX];omega
 have xj:ys.length=kvs.length:=ff pr;have zd:=xb.length;have S:∀(i:Nat),i<its.length ->∃(ks:am Gv) (a:Up) (w l:am i'),(kvs.map (·.1))[i]?=ih ks/\its[i]?=ih (.ref a)/\a≠X.env.locals/\X6 s.heap a (w++l).toArray/\XY w ks/\ks.length=G:=by
  intro i hi;have ye:i<ys.length:=by omega
  obtain⟨yq,yj,a,zq,yb,zj⟩:=l4 pr (show ys[i]?=ih ys[i] from bz ye);obtain⟨u,zb,l⟩:=xb.get (show ys[i]?=ih (V.ref a) by rw[bz ye,zq])
  cases l
  obtain⟨xB,xr,yg,_⟩:=I.tuple (aZ.of yb);obtain⟨w,l,e,st⟩:=AG (H:=H) xr;rw[e]at yg;exact⟨yq.1,a,w,l,by rw[dQ,yj];rfl,zb,(λz=>by rw[z,I.free]at yb;cases yb),yg,st,zj⟩
 obtain⟨m,W,_⟩:=id I.loc
 let lt:Nat->Nat->Bool:=λi j=>fy ((kvs.map (·.1)).getD i []) ((kvs.map (·.1)).getD j [])
 have yB:(kvs.map (·.1)).length=its.length:=by rw[aE];omega
 have K:∀i,i<its.length->((kvs.map (·.1)).getD i []).length=G:=λi hi=>by
  obtain⟨ks,_,_,_,h1,_,_,_,_,h2⟩:=S i hi;rw[gk,h1];exact h2
 have ze:∀i j,i<its.length->j<its.length->i≠j->(kvs.map (·.1)).getD i []≠(kvs.map (·.1)).getD j []:=λi j hi y M e=>M ((U8 (by omega) zp).mp (by
  rw[gk,gk,bz (by omega),bz (by omega)]at e
  rw[bz (by omega),bz (by omega)]
  exact c6 ih e))
 have O:hH its.length lt:=⟨λi j k hi y yr h1 h2=>Dm ((K i hi).trans (K j y).symm) ((K j y).trans (K k yr).symm) h1 h2,λi j hi y M f=>CQ ((K i hi).trans (K j y).symm) (ze i j hi y M) f⟩;have xf:∀(h':XD) (D:Up) (c:Nat) (d:Array Nat),(∀b o,b≠X.env.locals->s.heap.get? b=ih o->h'.get? b=ih o)->h'.Ns X.env.locals m->(∀b o,s.heap.get? b=ih o->b≠D)->Pm its.length d->(d.toList.Pairwise λi j=>lt i j=true) ->
   h'.get? D=ih (listOf (d.toList.map λi=>its.getD i Vv).toArray c) ->∃v H',Inv X J σ H' { s with heap:=h' }/\RelV v (.ref D)/\Q v H':=by
  intro h' D c d k xk B x yk new;have yf:∀i∈d.toList,i<its.length:=λi hi=>je.mp (x.mem_iff.mp hi);have zg:(d.toList.map λi=>ys.getD i V.aO).Perm ys:=Dl V.aO (by rw[zd];exact x)
  have zk:Pm kvs.length d:=by rw[<-xj,zd];exact x
  have zr:(d.toList.map λi=>kvs.getD i (([],[]):am Gv×List V)).Perm kvs:=Dl _ zk;have xt:kK H G (d.toList.map λi=>ys.getD i V.aO) (d.toList.map λi=>kvs.getD i ([],[])):=AF λi hi=>Ja pr V.aO ([],[]) i (by have:=yf i hi;omega)
  have yt:(d.toList.map λi=>kvs.getD i ([],[])).map (·.1)=d.toList.map λi=>(kvs.map (·.1)).getD i []:=by
   rw[gJ];refine se λi hi=>?_;have:i<kvs.length:=by have:=yf i hi;omega
   show(kvs.getD i ([],[])).1=_;rw[gk,gk,dQ,bz this];rfl
  have xl:Vals (d.toList.map λi=>ys.getD i V.aO) (d.toList.map λi=>its.getD i Vv):=Bi (λi=>by
   by_cases hi:i<ys.length
   ·obtain⟨u,zb,l⟩:=xb.get (show ys[i]?=ih ys[i] from bz hi)
    rw[gk,gk,zb,bz hi];exact l
   ·rw[gk,gk,wW (by omega),wW (by omega)];trivial) d.toList
  obtain⟨zt,xu⟩:=Inv.sorted (t':=s.toks) I W xk k B new xl (by rw[zg.length_eq];exact xq)
  refine⟨.ref D,_,xu,rfl,q D _ _ zt zg xt zr ?_⟩;rw[yt,sf];exact yk
 refine ae (wY ?_ (by rw[aX];omega))
 have za:(s.heap.push (seqObj "list" its.toArray 0)).get? s.heap.objs.size=ih (seqObj "list" its.toArray 0):=b5 _ rfl;have B:∀b o,s.heap.get? b=ih o->b≠s.heap.objs.size:=λb o e=>bI (bt e);refine ae (d5 (hY slot_list_sort ⟨_,za,rfl⟩ entry_list_sort ?_ (args_list_sort _)));have keep:∀b o,s.heap.get? b=ih o->(s.heap.push (seqObj "list" its.toArray 0)).get? b=ih o:=λb o e=>a8 _ e
 by_cases h2:its.length<2
 ·refine I9 za h2 λc g xh new=>⟨_,rfl,ao ⟨_,rfl,?_⟩⟩
  refine xf g _ c (Xs its.length).toArray (λb o _ e=>xh b o (B b o e) (keep b o e)) (W.at' λo e=>xh _ o (B _ o e) (keep _ o e)) B (j9 _) ?_ ?_
  ·show(Xs its.length).Pairwise _
   have:its.length=0\/its.length=1:=by omega
   rcases this with z|z <;> rw[z]
   ·exact YJ
   ·exact List.pairwise_singleton _ _
  ·have:(Xs its.length).map (λi=>its.getD i Vv)=its:=by
    apply Gu
    ·simp
    ·intro i h1 h2;simp[Yz,h2]
   show g.get? s.heap.objs.size=ih (listOf ((Xs its.length).map λi=>its.getD i Vv).toArray c);rw[this];exact new
 ·have h2:2<=its.length:=by omega
  obtain⟨P,yl,U⟩:∃P:XD,P.objs.size=0 /\∀b,P.get? b=none:=⟨{ s.heap with objs:= #[] },rfl,λb=>wk (bx _)⟩;have F:Fr P X.env.locals s.heap m:=⟨W,λb o e=>(by rw[U]at e;cases e),by rw[yl];exact bx _⟩
  have N:=JC (g:=P) (L:=X.env.locals) (h:=s.heap);have zl:∃o,s.heap.get? X.env.locals=ih o:=let ⟨o,_,_,e,_⟩:=W;⟨o,e⟩;obtain⟨zB,yu⟩:=zl;refine kat_list_sort (s:={ s with heap:=s.heap.push (seqObj "list" its.toArray 0) }) (F.kept keep) (N.grown keep) za (aP (B _ _ yu)) (U _) (λp x=>B p.1 p.2 (sq x).2.2) h2 (by omega) λe1 h' zu N'=>?_
  have kp:∀b o,b≠X.env.locals->s.heap.get? b=ih o->h'.get? b=ih o:=λb o n e=>(N' (b,o) (a7 _ (An n (U b) e))).1;have tk:∀{a:Up}{zs:Array i'},a≠X.env.locals->X6 s.heap a zs->X6 h' a zs:=λn ⟨o,xc,r⟩=>⟨o,kp _ o n xc,r⟩;have xv:∀(vs:am i'),(∀v∈vs,∃a w l ks,v=UN a/\X6 h' a (w++l).toArray/\XY w ks/\ks.length=G) ->∃fs,fs.length=vs.length/\KatTups h' vs fs /\∀f∈fs,∃k t,f=Yw k t:=by
   intro vs
   induction vs with
   |nil=>intro _;exact⟨[],rfl,KatTups.nil,λf R=>(by cases R)⟩
   |cons v vs yv =>
    intro hv;obtain⟨fs,zv,xw,yw⟩:=yv λzw h'=>hv zw (a7 _ h');obtain⟨a,w,l,ks,rfl,⟨o,xc,xx,n,yx⟩,st,xm⟩:=hv v aV;cases st with
    |nil=>simp at xm;omega
    |cons k t r =>
     refine⟨.str k t::fs,by rw[cS,cS,zv],KatTups.cons xc xx yx (by simp) xw,λf R=>?_⟩
     rcases bj.mp R with z|z
     ·exact⟨k,t,z⟩
     ·exact yw f z
  obtain⟨fs,xA,ym,zm⟩:=xv its λv hv=>by
   obtain⟨i,hi,rfl⟩:=wM hv;obtain⟨ks,a,w,l,_,Y,yc,zc,xd,yd⟩:=S i hi;rw[bz hi]at Y;exact⟨a,w,l,ks,cZ Y,tk yc zc,xd,yd⟩
  refine kat_kind (T:=.type "str") ym (by omega) (λf R=>?_) (by decide) ?_
  ·obtain⟨k,t,rfl⟩:=zm f R
   exact Looks.of_pure rfl
  ·refine(Jd O h2).wp (λi j C hi y M yh=>?_) λd x=>?_
   ·obtain⟨k,a,w,l,zx,Y,yc,zc,xd,yd⟩:=S i hi
    obtain⟨zh,xC,yA,zA,xn,yn,zn,xo,yo,zo⟩:=S j y;unfold kas_ask;rw[gk,gk,Y,yn];have xi:(kvs.map (·.1)).getD i []=k:=by rw[gk,zx];rfl
    have yi:(kvs.map (·.1)).getD j []=zh:=by rw[gk,xn];rfl
    have xy:lt i j=fy k zh:=by show fy ((kvs.map (·.1)).getD i []) ((kvs.map (·.1)).getD j [])=_;rw[xi,yi]
    have ne:=ze i j hi y M;rw[xi,yi]at ne;rw[xy]at yh;obtain⟨ox,yy,_,yC,dx⟩:=tk yc zc;obtain⟨zC,zy,_,xD,xz⟩:=tk zn xo;exact kat_lt yy dx zy xz (Bp 0 xd yo (yd.trans zo.symm) ne yh)
   ·refine KasFin.intro zu N' (UpdF.head λp x=>?_) λxp c yp zf=>?_
    ·exact B p.1 p.2 (sq x).2.2
    ·refine⟨_,rfl,ao ⟨_,rfl,?_⟩⟩
     exact xf xp _ c d (λb o n e=>(zf (b,o) (a7 _ (An n (U b) e))).1) yp.ns B x.1 (MK x.1.size x.2) (zf _ aV).1
theorem sA:c2 X (.builtin "sorted") (λxs H Q=>∃(p:Up) (ys:am V) (kvs:am (List Gv×List V)) (m:Nat),xs=[.ref p]/\(au X.K H p ys\/aZ X.K H p ys)/\kK H m ys kvs/\1<=m/\(kvs.map (·.1)).Nodup/\ys.length<=63 /\
  ∀D f d,H D=none->f.Perm ys->kK H m f d->d.Perm kvs->(d.map (·.1)).Pairwise (λa b=>fy a b=true)->Q (.ref D) (upd H D (.lst f))):=by
 rintro J s σ H xs us Q I r ⟨p,ys,kvs,j,ex,hq,pr,h,l,i,q⟩;subst ex;obtain⟨u,rfl,t⟩:=vals1 r;cases t
 refine Jf λA E w _ n=>?_;rcases hq with hq|hq
 ·obtain⟨its,c,g,v⟩:=I.list hq
  have:=c.length;exact collect_list g.isList (n its _ H ys kvs j (I.kept (t':=s.toks) λb o e=>(j8 _ _ (jg (bt e))).trans (a8 _ e)) c pr h l i q) (by rw[aX];omega)
 ·obtain⟨its,c,g,v⟩:=I.tuple hq
  have:=c.length;exact HK g (by rw[aX];omega) λh' k=>n its _ H ys kvs j (I.kept (t':=s.toks) k) c pr h l i q
end L2
namespace L2
open Spec PyProof.Rows W
end L2
namespace HT
open PyProof.Rows
section
open SeqAt
open AutoSeq1 (wpAny_loadPart')
open MeetsSeq MeetsSeq2 MeetsSeq3
end
end HT
namespace L2
open Spec PyProof.Rows W HT
end L2
namespace HS
open Spec PyProof.Rows W
theorem B7{vs:am i'}{ys:am Gv}{y:Gv}{t:Tok}{j:Nat}{Q:a2 Zc×Unit->Ur->Prop}(st:XY vs ys)(a:ys[j]?=ih y)(d:∀m,m<j->ys[m]? ≠ ih y)(q:∀tk,Q (ih (.done (.ret (.int j tk))),()) { s with toks:=s.toks+1 }) :
  ∀(k i:Nat),i<=j->j<i+k->Ut (UK P w) A (forIn (m:=YK) (List.range' i k) ((none,()):a2 Zc×Unit) λ(i:Nat) n=>match vs.toArray[i]? with
      |some f=>do
       let b <- eqBool f (.str y t)
       if b=true then do
         let r <- retInt (i:Int)
         pure (abS (ih r,()))
        else pure (XB (none,()))
      |_=>pure (XB (none,()))) Q E s
 |0,i,h1,h2=>absurd h2 (by omega)
 |k+1,i,h1,h2=>by
  rw[List.range'_succ,ZZ];have h:=lY st;have l:j<ys.length:=(bR.mp a).1;have hi:i<vs.length:=by omega
  obtain⟨tk,g⟩:=L2.t2 st i vs[i] (bz hi);have c:i<ys.length:=by omega
  have e1:vs.toArray[i]?=ih (.str ys[i] tk):=by
   rw[List.getElem?_toArray,bz hi,g];simp[c]
  rw[e1]
  dsimp only
  refine ae (ae (FR ?_))
  by_cases e:ys[i]=y
  ·rw[cc e,ay rfl]
   have:i=j:=by
    by_cases z:i<j
    ·exact absurd (by rw[bz c,e]) (d i z)
    ·omega
   subst this;refine ae ?_;unfold retInt;exact ae (wpAny_mkInt (ao (ao (ao (q _)))))
  ·rw[d4 e,aq b9]
   refine ao ?_;refine B7 st a d q k (i+1) ?_ (by omega)
   by_cases z:i=j
   ·subst z
    rw[bz c]at a;exact absurd (cZ a) e
   ·omega
theorem Jg{vs:am i'}{y:Gv}{t:Tok}{Q:i'->Ur->Prop}(d:X6 s.heap l vs.toArray)(st:XY vs ys)(a:ys[j]?=ih y)(c:∀m,m<j->ys[m]? ≠ ih y)(q:∀tk,Q (.int j tk) { s with toks:=s.toks+1 }) :
  Ut (UK P w) A (call (.builtin "tuple.index") [.ref l,.str y t]) Q E s:=by
 obtain⟨o,b,e,n,f⟩:=d;have h:j<ys.length:=(bR.mp a).1;have g:=lY st;refine hY U9 ⟨o,b,e⟩ PySem.F.entry_tuple_index ?_ (PySem.F.args_tuple_index_2 _ _);unfold XM.«tuple.index»;refine ae (ao ?_)
 dsimp only
 refine ae ?_;unfold Ym seqItems?;refine ae (ae (oO b ?_));rw[f];refine ao (ao ?_);refine ae (ao (ae (ao ?_)));rw[aaa];refine ae ?_;have e2:([0:min vs.toArray.size vs.toArray.size]:abt).size=vs.length:=by simp[Z']
 rw[e2];refine B7 st a c (λtk=>?_) vs.length 0 (bx _) (by omega)
 exact ao ⟨_,rfl,q tk⟩
end HS
namespace L2
open Spec PyProof.Rows W HS
def LD(K:X2):V->List V->Hp->VK->Prop:=λx vs H Q=>∃(l:Up) (ys:List Gv) (y:Gv) (j:Nat),x=.ref l/\vs=[.str y]/\aZ K H l (ys.map V.str)/\ys[j]?=ih y/\(∀m,m<j->ys[m]? ≠ ih y)/\Q (.int j) H
theorem Jh:lu X "tuple.index" (LD X.K):=by
 rintro J s σ H x vs v us Q I b c ⟨l,ys,y,j,rfl,rfl,d,e,a,q⟩;cases b
 obtain⟨u,rfl,t,rfl⟩:=c.one;obtain⟨its,r,f,g⟩:=I.tuple d;exact Jg f (pf r) e a λtk=>⟨.int j,H,I.tok _,⟨tk,rfl⟩,q⟩
theorem Ji(g:X.calm=true):c2 X (.builtin "max") (λxs H Q=>∃(p:Up) (ns:am Int),xs=[.ref p]/\au X.K H p (ns.map V.int)/\ns ≠ [] /\∀m,m∈ns->(∀a∈ns,a<=m)->Q (.int m) H):=by
 rintro J s σ H xs us Q I r ⟨p,ns,ex,h,f,q⟩;subst ex;obtain⟨u,rfl,i⟩:=vals1 r;cases i
 obtain⟨its,k,l,w⟩:=I.list h;have b:Y7 its ns:=intsAre_of k;obtain⟨zs,same⟩:=b.allInts.items;have all:ns=zs.toList.map (·.1):=by rw[<-nums_intItems,<-same,b.numsOf]
 have size:zs.size=ns.length:=by rw[all];simp
 have d:0<zs.size:=by rw[size];exact oW.mpr f
 refine max_intList (I.ok.hd g) (same ▸ l.isList) d λv h' tk hv keep=>?_;obtain⟨t,rfl⟩:=intItems_at hv;obtain⟨n,e⟩:=argBest_gt (numAt zs) (zs.size - 1);refine⟨.int _,H,I.kept (t':=tk) keep,⟨t,rfl⟩,q _ (by rw[all,numAt_eq];exact getD_mem (by rw[aE,fA];exact U' n (by omega))) λm c=>?_⟩
 rw[all]at c;obtain⟨j,o,rfl⟩:=mem_getD c;exact numAt_eq (xs:=zs) j ▸ e j (by simp at o;omega)
end L2
namespace L2
open W Spec PyProof.Rows
end L2
namespace L2
open W
end L2
namespace L2
open W Spec PyProof.Rows
def kT(h:XD)(d:Up)(es:Array Yj)(ep:Nat):Prop:= ∃o,h.get? d=ih o/\o.ExactDict/\o.data=.dict es ep
theorem kT.ty{es:Array Yj}(x:kT s.heap d es ep):s.TypeIs (.ref d) "dict" :=let ⟨o,e,c,_⟩:=x;⟨o,e,c.1⟩
theorem Paired.get{α β:Type}{F:α->β->Prop}{l:am α}{m:am β}(h:XH F l m):∀{i:Nat}{a:α},l[i]?=ih a ->∃b,m[i]?=ih b/\F a b:=by
 induction h with
 |nil=>intro i a e;cases e
 |cons r _ c =>
  intro i a e;cases i with
  |zero=>cases e;exact⟨_,rfl,r⟩
  |succ i=>exact c (by simpa using e)
theorem Inv.LF{σ:am (Option V)}{kvs:am (List Key×V)}(I:Inv X J σ H s)(g:H d=ev kvs)(i:s.heap.get? d=ih o):Inv X J σ (upd H d (.bT o (.dT kvs))) s:=by
 have ok:bH X.prog X.w H s.heap d (.dT kvs):=I.aJ d _ g;have a:∀{b:Up}{u:HO},H b=ih u->u ≠ .dT kvs->b≠d:=λe n z=>by rw[z,g]at e;exact n (cZ e).symm
 refine I.un (h':=s.heap) (t':=s.toks) ⟨λb f q _ _ _=>q,λb f q _ _ _=>⟨f.slots,q⟩,λb f q n _=>?_,λb f q _=>⟨f,q⟩,λb xs e=>?_,λb f u e=>?_,λb ps e=>⟨#[],?_⟩⟩ λb u e=>?_
 ·rw[ag (λz=>by rw[z,g]at n;cases n)];exact n
 ·rw[ag (a e (by intro z;cases z))];exact e
 ·rw[ag (a e (by intro z;cases z))];exact e
 ·rw[ag (a e (by intro z;cases z)),e];simp
 ·by_cases h:b=d
  ·subst h
   rw[ah]at e;cases e
   exact⟨i,ok.e4 (λ_ _ _ q=>q) (λc q=>by rw[ag (a q (by intro z;cases z))];exact q) λc xs q=>by rw[ag (a q (by intro z;cases z))];exact q⟩
  ·rw[ag h]at e
   exact(I.aJ b u e).e4 (λ_ _ _ q=>q) (λc q=>by rw[ag (a q (by intro z;cases z))];exact q) λc xs q=>by rw[ag (a q (by intro z;cases z))];exact q
theorem Inv.Ny{σ:am (Option V)}{kvs:am (List Key×V)}(I:Inv X J σ H s)(i:H d=ih (.bT o (.dT kvs)))(h0:∀o u,X.ij d≠ih (.bT o u)):Inv X J σ (upd H d (.dT kvs)) s:=by
 obtain⟨_,ok⟩:=(show bH X.prog X.w H s.heap d (.bT o (.dT kvs)) from I.aJ d _ i);have a:∀{b:Up}{u:HO},H b=ih u->u ≠ .bT o (.dT kvs)->b≠d:=λe n z=>by rw[z,i]at e;exact n (cZ e).symm
 have f:∀{b:Up},H b=none->upd H d (.dT kvs) b=none:=λ{b} e=>by rw[ag (λz=>by rw[z,i]at e;cases e)];exact e
 refine⟨I.ok,I.os,I.bare,⟨I.base.keep,I.base.slot,λb g e n k=>f (I.base.free b g e n k),I.base.there,λb xs e=>?_,λb g u e=>?_,λb ps e=>?_⟩,I.loc,I.cell,f I.free,λx c e=>f (I.eO x c e),λp l=>?_,λb u e=>?_,I.len⟩
 ·rw[ag (a (I.base.gQ b xs e) (by intro z;cases z))];exact I.base.gQ b xs e
 ·have h:b≠d:=λz=>h0 g u (z ▸ e)
  rw[ag h];exact I.base.gR b g u e
 ·obtain⟨j,e2⟩:=I.base.hG b ps e
  exact⟨j,by rw[ag (a e2 (by intro z;cases z))];exact e2⟩
 ·obtain⟨m,r,t⟩:=I.pin p l
  exact⟨m,f r,t⟩
 ·by_cases h:b=d
  ·subst h
   rw[ah]at e;cases e
   exact ok.e4 (λ_ _ _ q=>q) (λc q=>by rw[ag (a q (by intro z;cases z))];exact q) λc xs q=>by rw[ag (a q (by intro z;cases z))];exact q
  ·rw[ag h]at e
   exact(I.aJ b u e).e4 (λ_ _ _ q=>q) (λc q=>by rw[ag (a q (by intro z;cases z))];exact q) λc xs q=>by rw[ag (a q (by intro z;cases z))];exact q
def Nz(H0:Hp)(t:TE):TE:=λσ H Q=>t σ H λv H'=>∃d o kvs,H' d=ih (.bT o (.dT kvs))/\(∀o u,H0 d≠ih (.bT o u))/\Q v (upd H' d (.dT kvs))
theorem LG(a:PE X e te):PE X e (Nz X.ij te):=by
 intro J s σ H Q I h;exact aG (a J s σ H _ I h) λv s1 ⟨y,Y,b,c,d,o,kvs,e1,h0,q⟩=>⟨y,_,b.Ny e1 h0,c,q⟩
end L2
namespace HT
open PyProof.Rows W
open AutoSeq1 (wpAny_loadPart')
end HT
namespace L2
open Spec PyProof.Rows W HT
end L2
namespace L2
open W Spec PyProof.Rows
end L2
namespace L2
open Spec PyProof.Rows W HS
def pL(k v:Vc)(cE:i')(env:YT):YK Unit:=do
 let kv <- eval k env
 let vv <- holding [kv] (eval v env)
 match cE with
 |.ref d=>do
  standAt { k.pos with endLine:=v.pos.endLine,endCol:=v.pos.endCol }
  holding [kv,vv] (dictSet d kv vv)
 |_=>unsupported "internal:dictcomp"
theorem Jj{k v:Vc}:kz (.DictComp k v [⟨tg,iter,Qe,0⟩] scope pos) tg iter Qe (pL k v):=⟨rfl,λ_ _ _=>rfl,λ_ _ _ _ _ _=>⟨rfl,rfl⟩,λ_ _ _ _ _ _=>⟨rfl,rfl⟩⟩
def uA(J1:It)(g:TG)(ti:TT)(Qk:Up->St->Hp->(Hp->Prop)->Prop)(eR:St)(Q:VK)(p:Up)(Y:Hp):Prop:=
 ∃W:Nat->Nat->St->Hp->Prop,(∃m,W 0 m eR Y) /\∀i m τ H2,W i m τ H2 ->
  ((J1.stop i H2/\Q (.ref p) H2)\/(J1.go i H2 /\∀x H3,J1.ja i H2 x H3->g x τ H3 λgc H4=>ti gc H4 λb H5 =>
   if b=true then Qk p gc H5 λH6=>∃m',m'<m/\W (i+1) m' gc H6
   else ∃m',m'<m/\W (i+1) m' gc H5))
def rP(X:Cx)(Qg:i'->YT->YK Unit)(Qk:Up->St->Hp->(Hp->Prop)->Prop):Prop:=
 ∀J s σ H (p:Up) (Q:Hp->Prop),Inv X J σ H s->Qk p σ H Q->wA X (Qg (.ref p) X.env) (λ_ s'=>∃H',Inv X J σ H' s'/\Q H') X.xe s
def Dn(wi:TI)(Qd:List (Option Nat))(g:TG)(ti:TT)(Qk:Up->St->Hp->(Hp->Prop)->Prop)(start:Up->HO):TE:=λσ H Q=>wi σ H λJ1 Y=>∀p,Y p=none->uA J1 g ti Qk (pick Qd σ) Q p (upd Y p (start p))
section
variable{Qg:i'->YT->YK Unit}{Qk:Up->St->Hp->(Hp->Prop)->Prop}
theorem IC{k:It}{g:TG}{f:YK i'}{start:Up->HO}(F:kz e tg iter Qe Qg)(n:X.calm=true)(S:bY X.N X.env.scope N' Qd scope)
  (o:Inv X J σ H2 s2) (T:Turn X.prog X.w X.K tg k fp it tn) (st:tn 0 s2.heap) (r:∀b∈fp,fX X J H2 b) (l:nQ X f start)
  (c:∀s H fp,PG (cH X N' scope s H fp) tg g/\i2 (cH X N' scope s H fp) Qe ti/\rP (cH X N' scope s H fp) Qg Qk)
  (t:∀p,H2 p=none->uA k g ti Qk (pick Qd σ) Q p (upd H2 p (start p))) (u:∀a C s',CompEnd X J σ Q a C s'->RR a C (.ok .next) s') :
  wA X f (λa v=>wA X (newFunctionEnv scope X.env.globals (eF X.env.cells scope.names []) [] X.env.qual none .none (ih X.env)) (λj x =>
   codeAny X.c' X.A (.compStart e 0 (.ref it) a { j with scope:=relabel scope X.env }) (RR a j.locals) x) E v) E s2:=by
 refine AA (y0:=()) (temI:=λ_ p σ H R=>Qk p σ H λH'=>R () H') F n S o T st r l (λs H fp=>⟨(c s H fp).1,(c s H fp).2.1,λJ s σ H p y Q I h=>aG ((c _ _ _).2.2 J s σ H p _ I h) λ_ s' ⟨H',z,q⟩=>⟨(),H',z,q⟩⟩) (λp B=>?_) u;obtain⟨W,h0,st⟩:=t p B;exact⟨λi m _ d H=>W i m d H,h0,λi m _ d H w=>st i m d H w⟩
theorem Ko{wi:TI}{g:TG}{c:YK i'}{start:Up->HO}(F:kz e tg iter Qe Qg)(i:eval e X.env=comprehension e scope X.env pos c false (eval iter X.env))(f:nQ X c start)(l:X.calm=true)(S:bY X.N X.env.scope N' Qd scope)(hi:PI X tg iter wi)
  (a:∀s H fp,PG (cH X N' scope s H fp) tg g/\i2 (cH X N' scope s H fp) Qe ti/\rP (cH X N' scope s H fp) Qg Qk)
  (r:∀x,foldedSetIterable iter X.env x=pure x:=by intro _;rfl):PE X e (Dn wi Qd g ti Qk start):=by
 intro J s σ H Q I h;rw[i];refine Gg (use:=none) F.cl r (su λn t=>px I S t) S.kind (λx u w=>lO S.keys (by rw[<-w];exact u)) ?_
 refine aG (hi J s σ H _ I h) λv s1 h1=>aG h1 λG s2 h2=>?_;obtain⟨it,fp,tn,K,H2,e,y,T,j,z,B⟩:=h2;subst e;refine IC (RR:=λd C=>compPost X.c' X.A X.xe none (EP X J σ Q) d C) F l S y T j z f a B ?_;rintro d C s' ⟨p,H',rfl,D,fC,⟨m,E⟩,q⟩;refine⟨m,E,λh' k=>⟨.ref p,H',?_,rfl,q⟩⟩;exact D.turned (it:=C) (t':=s'.toks) (λb o a e=>(k.2 b a).trans e) fC.1 fC.2.1 fC.2.2.2.1 fC.2.2.2.2.1 fC.2.2.2.2.2
end
section
variable{k v:Vc}{tk:TE}
def vt(tk tv:TE)(p:Up)(σ:St)(H:Hp)(Q:Hp->Prop):Prop:=tk σ H λy Y=>tv σ Y λz H2=>∃kvs ks b,y=.ref b/\H2 b=ih (.tup (ks.map kV))/\H2 p=ih (.dT kvs)/\kvs.length<Us/\Q (upd H2 p (.dT (putK kvs ks z)))
theorem NA(P:X.A.units+1<Ys)(n:PE X k tk)(hv:PE X v tv):rP X (pL k v) (vt tk tv):=by
 intro J s σ H p Q I h;unfold pL;refine ae (aG (n J s σ H _ I h) λu s1 ⟨y,Y,o,t,x⟩=>ae (d5 (aG (hv J s1 σ Y _ o x) λr s2 R=>?_)));obtain⟨z,H2,a,B,kvs,ks,b,C,f,e,l,q⟩:=R;subst C;cases (show u=UN b from t)
 refine ae (j3 (d5 ?_));obtain⟨D,E,xs,d,F⟩:=DA a.aJ e;have G:xs.length<=Us:=by rw[<-ff d];exact D
 have K:(putK kvs ks z).length<=Us:=by have:=lQ kvs ks z;omega
 refine wpAny_dictSet_heap (hsz:=G) (knd:=tupleKind (cT X.prog X.w)) (k:=ks) (show X.A.units<Ys by omega) (mc a.aJ f) F λh' m L=>⟨_,?_,q⟩
 obtain⟨g,es,ep,i,h2,M,N,_,O⟩:=m;refine tY a (by rw[e];exact Vm) L ⟨g,i⟩ ⟨K,E,_,(d.put ks f B).keeps λc ys j=>?_,g,es,ep,i,h2,M,N,O⟩
 rw[ag (ar j e (λz=>nomatch z))];exact j
theorem ML:nQ X (newDict) (λ_=>.dT []):=⟨λJ s σ H E Q I h=>by
 refine fB ?_;exact h _ (I.laid (a:=s.aj) (o:=.dT []) (t':=s.toks) (λ_ _ q=>a8 _ q) (aU _) (BQ s.heap I.big)) λb o e=>a8 _ e⟩
variable{wi:TI}{g:TG}
theorem Jk(a:X.calm=true)(S:bY X.N X.env.scope N' Qd scope)(hi:PI X tg iter wi)
  (b:∀s H fp,PG (cH X N' scope s H fp) tg g/\i2 (cH X N' scope s H fp) Qe ti/\rP (cH X N' scope s H fp) (pL k v) (vt tk tv))
  (c:∀x,foldedSetIterable iter X.env x=pure x:=by intro _;rfl):PE X (.DictComp k v [⟨tg,iter,Qe,0⟩] scope pos) (Dn wi Qd g ti (vt tk tv) λ_=>.dT []):=
 Ko Jj rfl ML a S hi b c
end
def rQ(Pv:Nat->St->Hp->Prop)(n i m:Nat)(τ:St)(H:Hp):Prop:=m=n - i/\i<=n/\Pv i τ H
theorem Kq{Pv:Nat->St->Hp->Prop}{n:Nat}{a:St}(h:i<n)(p:Pv (i+1) a H):∃b,b<n - i/\rQ Pv n (i+1) b a H:=⟨n - (i+1),by omega,rfl,h,p⟩
theorem Jl{g:TG}{Qk:Up->St->Hp->(Hp->Prop)->Prop}(Pv:Nat->St->Hp->Prop)(h0:Pv 0 eR Y)(l:∀i c H,Pv i c H->aZ K H a xs)
  (n:∀i x c H,xs[i]?=ih x->Pv i c H->g x c H λf o=>ti f o λb j=>if b=true then Qk p f j λq=>∃d,d<xs.length - i/\rQ Pv xs.length (i+1) d f q else ∃d,d<xs.length - i/\rQ Pv xs.length (i+1) d f j)
  (r:∀c H,Pv xs.length c H->Q (.ref p) H):uA (jb K a) g ti Qk eR Q p Y:=by
 refine⟨rQ Pv xs.length,⟨xs.length,by simp,bx _,h0⟩,?_⟩
 rintro i m c H ⟨rfl,hi,pv⟩;have h:=l i c H pv
 by_cases k:i<xs.length
 ·refine .inr ⟨⟨xs,xs[i],h,by simp[k]⟩,λx t s=>?_⟩
  obtain⟨e3,ex⟩:=s;subst e3;exact n i x c _ (ex xs h) pv
 ·have e:i=xs.length:=by omega
  subst e;exact .inl ⟨⟨xs,h,aU _⟩,r c H pv⟩
end L2
namespace L2
open Spec PyProof.Rows
structure oj(K:UI)(x qual:Gv)(st:U7)(dv:i')(f:Up)(fd:Xt):Prop where
 ex:∃(oc:i') (od:Option Up) (kV Qc pm:i') (an:Option Up) (Qa ct:i') (Ql:Array (Option i')),
  fd=XR x qual (dA st) (bB st) (aH st) dv kV Qc pm an Qa ct/\K.lookup f=ih ⟨oc,od,.func fd,Ql⟩/\Yv K Qa qual=true
 kp:X3 K (.ref f)=true
theorem oj.binds{T:Up}{ds:am i'}{n:Nat}(F:oj K x qual st (.ref T) f fd)(a:K.lookup T=ih ⟨oc,od,.seq items n,Ql⟩)
  (h:∀(kV Qc pm:i') (an:a2 Up) (Qa ct:i') (us:am i'),(us++ds).length=ps.length ->∃k:a2 (Array i')->YK (List (Gv×i')),(bindArgs (XR x qual (dA st) (bB st) (aH st) (.ref T) kV Qc pm an Qa ct) ⟨us,[]⟩=seqItems? (.ref T) >>= k)/\k (ih items)=pure (ps.zip (us++ds))):Binds K fd ps ds:=by
 obtain⟨e,g,kV,Qc,pm,an,Qa,ct,d,rfl,lk,i⟩:=F.ex;intro s us b c;obtain⟨k,h1,h2⟩:=h kV Qc pm an Qa ct us c;exact .of_defaults (T:=T) rfl (b _ _ a) rfl h1 h2
theorem LH{kV:i'}(l:K.lookup f=ih ⟨oc,od,.func (XR x qual (dA st) (bB st) (aH st) dv kV Qc pm an Qa ct),Ql⟩)
  (c:Yv K Qa qual=true) (k:X3 K (.ref f)=true):oj K x qual st dv f (XR x qual (dA st) (bB st) (aH st) dv kV Qc pm an Qa ct):=⟨⟨oc,od,kV,Qc,pm,an,Qa,ct,Ql,rfl,l,c⟩,k⟩
end L2
namespace L2
open Spec PyProof.Rows W HT
theorem ID(G:X.calm=true):c2 X (.type "dict") (λxs H Q=>∃t vs kvs,xs=[.ref t]/\H t=bn vs/\Dk H vs kvs/\(kvs.map (·.1)).Nodup /\∀d,H d=none->Q (.ref d) (upd H d (.dK (md kvs)))):=by
 rintro J s σ H xs us Q I r ⟨t,vs,kvs,rfl,K,pr,L,q⟩;obtain⟨u,rfl,c⟩:=vals1 r;cases c
 obtain⟨zc,its,m,⟨M,e,N,sl⟩,O,A,n,B,C⟩:=(show bH X.prog X.w H s.heap t (.tup vs) from I.aJ t _ K);obtain rfl:M=.type "tuple" :=A;obtain rfl:e=none:=C;obtain rfl:N=.seq its.toArray n:=B;have D:vs.length=kvs.length:=ff pr;have yc:=m.length;have pairs:∀(i:Nat) p,kvs[i]?=ih p ->∃a x y,its.toArray[i]?=ih (.ref a)/\X6 s.heap a #[x,y]/\RelV (.str p.1) x/\RelV p.2 y:=by
  intro i p b;have hi:i<vs.length:=by rw[D];exact(bR.mp b).1
  obtain⟨xd,g,a,P,R⟩:=l4 pr (show vs[i]?=ih vs[i] from bz hi);rw[b]at g;cases g;obtain⟨u,S,c⟩:=m.get (show vs[i]?=ih (V.ref a) by rw[bz hi,P])
  cases c
  obtain⟨yd,T,U,_⟩:=I.tuple (aZ.of R);obtain⟨x,y,rfl,W,Y⟩:=T.two;exact⟨a,x,y,by simpa using S,U,W,Y⟩
 have ch:∀i:Fin kvs.length,∃y,∃a x,its.toArray[i.1]?=ih (.ref a)/\X6 s.heap a #[x,y]/\RelV (.str kvs[i].1) x/\RelV kvs[i].2 y:=λi=>by
  obtain⟨a,x,y,h1,h2,xa,ya⟩:=pairs i.1 kvs[i] (bz i.2);exact⟨y,a,x,h1,h2,xa,ya⟩
 obtain⟨ys,E,j⟩:∃ys:am i',ys.length=kvs.length /\∀(i:Nat) (hi:i<kvs.length),∃y,ys[i]?=ih y /\∃a x,its.toArray[i]?=ih (.ref a)/\X6 s.heap a #[x,y]/\RelV (.str kvs[i].1) x/\RelV kvs[i].2 y:=
  ⟨List.ofFn λi=>Zs (ch i),List.length_ofFn,λi hi=>⟨Zs (ch ⟨i,hi⟩),by simp[List.getElem?_ofFn,hi],abV (ch ⟨i,hi⟩)⟩⟩
 have F:((kvs.map λp=>(F3 p.1:Key)).zip ys).map (·.1)=kvs.map λp=>(F3 p.1:Key):=by
  rw[List.map_fst_zip];rw[aE];omega
 have l:((kvs.map λp=>(F3 p.1:Key)).zip ys).length=kvs.length:=by rw[List.length_zip,aE];omega
 have inj:(kvs.map λp=>(F3 p.1:Key)).Nodup:=by
  have:(kvs.map λp=>(F3 p.1:Key))=(kvs.map (·.1)).map F3:=by rw[gJ];rfl
  rw[this,mY,sf];exact(mY.mp L).imp λh z=>h (gH z)
 refine Hf (I.ok.hd G) ((kvs.map λp=>(F3 p.1:Key)).zip ys) (by rw[F];exact inj) (by rw[l];omega) (by rw[bW,l];omega) O (λi p b=>?_) λd h' tk dl e kp=>?_
 ·obtain⟨h1,h2⟩:=List.getElem?_zip_eq_some.mp b
  rw[dQ]at h1;obtain⟨zd,za,xb⟩:=gi.mp h1;obtain⟨hi,rfl⟩:=bR.mp za;obtain⟨y,f,a,x,yb,zb,xc,v⟩:=j i hi;rw[f]at h2;cases h2
  exact⟨a,x,yb,zb,by rw[<-xb];exact mw (k:=F3 kvs[i].1) xc⟩
 ·have big:=I.big
  refine⟨.ref d,_,I.laid (a:=d) (o:=.dK (md kvs)) (t':=tk) kp dl (Di (by unfold md;rw[aE];omega) (iz.mpr (aP (bI (eU big dl)))) ?_ e),rfl,q d (I.aJ.fresh dl)⟩
  exact CM kvs ys E λi hi=>by
   obtain⟨y,f,a,x,_,_,_,v⟩:=j i hi;exact⟨y,f,v⟩
theorem IE:c2 X (.type "dict") (λxs H Q=>∃a,xs=[.ref a]/\H a=ev [] /\∀d,H d=none->Q (.ref d) (upd H d (.dT []))):=by
 rintro J s σ H xs us Q I r ⟨a,rfl,e,q⟩;obtain⟨u,rfl,p⟩:=vals1 r;cases p
 obtain⟨z,t,F,v,o,es,ep,x,y,i,A,K⟩:=(show bH X.prog X.w H s.heap a (.dT []) from I.aJ a _ e);cases v
 have e0:es = #[]:=by simpa using A
 subst e0;have B:s.heap.DictOf (cT X.prog X.w) a []:=⟨o,#[],ep,x,y,i,by intro e C;simp at C,by first|exact .nil|trivial|constructor,fE⟩
 have big:=I.big;refine kt_call_dict t B (bx _) λh' j D=>?_;obtain⟨o',c,k,l,m,g,G,n,_⟩:=j;have e1:c.toList=[]:=Va.mp n.length;refine⟨.ref s.aj,_,I.laid (a:=s.aj) (o:=.dT []) (t':=s.toks) (λb o f=>?_) (aU _) ⟨bx _,iz.mpr (aP (bI big)),[],.nil,o',c,k,l,m,g,e1,fE⟩,rfl,q _ (I.aJ.fresh (aU _))⟩;have E:b≠s.aj:=bI (bt f);rw[D.2 b E];exact a8 _ f
end L2
namespace L2
open Spec PyProof.Rows W
theorem IF(l:Up)(items:Array i')(n:Nat)(b:Up)(a:Array i')(j:Nat)(k:a2 Up)(sl:Array (Option i'))(o : ¬(!items.isEmpty&&X5 (items.size+a.size))=true)(e:items.size<=Us)(f:items.size+a.size<=Us+1) :
  Meets (XM.«list.extend» ⟨[.ref l,.ref b],[]⟩) (λ_ R s=>s.heap.get? l=ih { cls:=.type "list",dict:=none,data:=.seq items n,slots:= #[] }/\s.heap.get? b=ih { cls:=.type "tuple",dict:=k,data:=.seq a j,slots:=sl }/\R (.ok (.ret Vv)) { s with heap:=s.heap.update l (Xw λx=>x++a),toks:=s.toks }):=
 .of_wp λprog w A R s h=>by
  obtain⟨p,g,d,tk,os⟩:=s;obtain⟨c,m,h⟩:=h;have q:=AutoSeq1.idx_int;have r:=AutoSeq1.sub_tuple_tuple;have t:=AutoSeq1.sub_list_list;have u:=AutoSeq1.sub_tuple_list;have v:=AutoSeq1.sub_list_tuple;have i:(items++a).size<=Us+1:=by rw[r6];exact f
  wp_walk using (GG c rfl (hz:=e) (_hz':=i)),Vb c,Vb m
  exact⟨_,rfl,h⟩
def Ks:V->List V->Hp->VK->Prop:=λx vs H Q=>∃l b xs zs,x=.ref l/\vs=[.ref b]/\H l=ih (.lst xs)/\H b=ih (.tup zs)/\xs.length+zs.length<=Us/\Q .aO (upd H l (.lst (xs++zs)))
theorem IG:lu X "list.extend" Ks:=by
 rintro J s σ H x vs v us Q I m o ⟨l,b,xs,zs,rfl,rfl,d,p,D,q⟩;cases m
 obtain⟨u,rfl,t⟩:=o.one;cases t
 obtain⟨z,its,n,r,E,e⟩:=I.jL d;obtain⟨G,a,f,⟨B,K,A,sl⟩,e2,g,y,i,c⟩:=(show bH X.prog X.w H s.heap b (.tup zs) from I.aJ b _ p);simp only at g i c;subst g i c;have C:=f.length;have k:its.toArray.size+a.toArray.size<=Us:=by rw[bW,bW];omega
 have j : ¬ (!its.toArray.isEmpty&&X5 (its.toArray.size+a.toArray.size))=true:=by
  rw[JP k,Bool.and_false];exact b9
 refine mS F.slot_list_extend ⟨_,e,rfl⟩ F.entry_list_extend (F.args_list_extend_2 _ _)
  (IF l its.toArray n b a.toArray y none sl j (by rw[bW];omega) (by omega)) ⟨e,e2,?_⟩
 refine⟨.aO,_,I.qS (its':=its++a) d e (by simp) (r.append f) ?_,rfl,q⟩
 rw[cL];omega
end L2
namespace L2
open Spec PyProof.Rows W HT
def LI:V->List V->Hp->VK->Prop:=λx vs H Q=>∃(l:Up) (ys:List V) (ds:List UH) (y:V) (d dj:UH) (j:Nat),x=.ref l/\vs=[y]/\H l=ih (.lst ys)/\bK H ys ds/\Rep H y d/\XI ds=true/\d.canLay0=true/\d.depth<=60/\ds[j]?=ih dj/\XA dj d=true/\(∀m dm,m<j->ds[m]?=ih dm->XA dm d=false)/\Q (.int j) H
theorem Jm(S:X.A.units+64<Ys):lu X "list.index" LI:=by
 rintro J s σ H x vs v us Q I k G ⟨l,ys,ds,y,d,T,j,rfl,rfl,o,rs,K,p,L,U,t,B,C,q⟩;obtain⟨c,M⟩:=(Rep.lst o rs).reads I k;cases k
 obtain⟨u,rfl,N⟩:=G.one;obtain⟨bs,O⟩:=K.reads I N;obtain⟨z,its,n,r,P,e⟩:=I.jL o;have a:∃c,ReadsAll s.heap its ds c:=by
  cases M with
  |list h1 h2 R a =>
   rw[e]at h1;cases h1
   cases R
   exact⟨_,by simpa using a⟩
 obtain⟨c,a⟩:=a;have w:=SeqAt.readsAll_map ds its c p a;have g:∀m (f:m<its.length),∃b,ds[m]?=ih b/\YX s.heap its[m]=b:=λm f=>⟨_,by rw[<-w,dQ,bz f];rfl,rfl⟩
 have i:j<its.length:=by
  have:=(bR.mp t).1;rw[<-w,aE]at this;exact this
 refine mS Z7 ⟨_,e,rfl⟩ Z0 (ZR _ _) (ZD l its.toArray n none #[] u (λy=>XA (YX s.heap y) d) j (by simpa using i) ?_ ?_ ?_) ⟨e,?_,?_⟩
 ·rw[aX]at z;have:=P;omega
 ·obtain⟨b,h1,h2⟩:=g j i
  show XA (YX s.heap (its.toArray[j])) d=true;rw[wO,h2];rw[t]at h1;cases h1;exact B
 ·intro m f D
  have E:m<its.length:=by simpa using f
  obtain⟨b,h1,h2⟩:=g m E;show XA (YX s.heap (its.toArray[m])) d=false;rw[wO,h2];exact C m b D h1
 ·exact SeqAt.items_eqAt (by simpa using a) O p L (by omega)
 ·exact⟨.int j,H,I.tok _,⟨_,rfl⟩,q⟩
end L2
namespace L2
open Spec PyProof.Rows W
section
variable{p5 p6 p7:Zx}{b0 b1:U7}{Qs:am U7}{tb:Ends->TS}{th:Up->TS}{ci:a2 i'}
def qa(X:Cx)(hs:List Yx)(Eh:Up->Up->TS):Prop:= ∀(J:List (Up×Ye)) (cy:St) (D:Ends) (s2:Ur) (h4:XD) (B:XD) (a C':Up) (a0:i') (nn:Option i') (dx:Option Up) (H':Hp),
 X' B (X.env::X.outer) a (.ref C') a0 h4->s2.heap.UpToSlots h4->RD s2.heap h4->(∀h5,X' B (X.env::X.outer) a (.ref C') a0 h5->s2.heap.UpToSlots h5->RD s2.heap h5->Inv X J cy (upd H' a (gS nn C' dx a)) { s2 with heap:=h5 }) ->
 Eh a C' D cy (upd H' a (gS nn C' dx a))->wA X (handleBy (.ref a) X.env hs) (SP X J D) X.xe { s2 with heap:=h4 }
theorem Jn:qa X [] λ_ _ _ _ _=>False:=λ_ _ _ _ _ _ _ _ _ _ _ _ _ _ _ _ h=>h.elim
theorem AH{F:am Yx}{L:Up->Up->TS}(g:X.N.Nodup)(h:X.N[j]?=ih n)(e:X.env.scope.names.lookup n=ih .local)(h0:X.xe=λ_ _=>False)(xb:X.env.frame=ih X.env.locals)
  (U:Gl X cn) (V:X.mg cn=ih (.ref C)) (M:fU X.K C ci=true) (W:∀a,d8 (X.kJ a) (b0::Qs) (th a)) (Y:qa X F L) (P:(cn==("__debug__" : Gv))=false:=by decide) :
  qa X (.ExceptHandler (ih (.Name cn p5)) (ih n) (b0::Qs) p6::F) λa f D σ H=>(mroIn X.K f (.ref C)=ih true/\th a (EF j D) (σ.set j (ih (.ref a))) H)\/(mroIn X.K f (.ref C)=ih false/\L a f D σ H):=by
 intro J R D s2 s B a f O xa dx H' k up t m w;have x:=m s k up t;obtain⟨yb,G,I⟩:=k.there;refine wpAny_handleBy_cons (codeAny_handlers_test ?_) (by intro z;cases z)
 refine l3 (x.kJ a) U V ?_ P;rcases w with⟨y,S⟩|⟨y,w⟩
 ·refine Aj (K:=X.K) x.bQ M y G I ?_
  refine codeAny_handlers_suite_as ?_;refine nH sy (lands_againW (Q:=λ_ s'=>∃h',s'={ s2 with heap:=h' }/\X' B (X.env::X.outer) a (.ref f) O h'/\s.UpToSlots h') k λA l o=>⟨A,rfl,l,o⟩) λ_ zb ⟨A,e5,l,o⟩ T=>?_;subst e5;have i:=m A l (wV up o) (t.trans T);refine nq (X:=X.kJ a) (v:=.ref a) (i.kJ a) g h (.inl e) rfl (λxc ya=>?_) (.inr e);refine Gf (aG (W a J _ _ _ (EF j D) ya S) λza yc z=>?_);cases za with
  |next=>obtain⟨p,b,c,q⟩:=z;exact p9 (c.uncaught (J0:=X) i.ok) g h e λE d=>⟨_,b,d,q⟩
  |brk=>obtain⟨p,b,c,q⟩:=z;exact p9 (c.uncaught (J0:=X) i.ok) g h e λE d=>⟨_,b,d,q⟩
  |cont=>obtain⟨p,b,c,q⟩:=z;exact p9 (c.uncaught (J0:=X) i.ok) g h e λE d=>⟨_,b,d,q⟩
  |ret u=>obtain⟨v,p,b,c,r,q⟩:=z;exact p9 (c.uncaught (J0:=X) i.ok) g h e λE d=>⟨v,_,b,d,r,q⟩
 ·refine Aj (K:=X.K) x.bQ M y G I ?_
  exact Y J R D s2 s B a f O xa dx H' k up t m w
def QG(Eh:Up->Up->TS)(D:Ends):St->XK:=λcy cls oa H2=>∃C a,cls=.ref C/\oa=ih a/\Eh a C D cy H2
theorem LJ{h0:Yx}{q:am Yx}{r:Up->Up->TS}(K:∀J D,d8 (X.hg J (QG r D)) (b1::body) (tb D))
  (n:X.stack=X.env::X.outer) (L:X.env.frame=ih X.env.locals) (M:qa X (h0::q) r):PS X (.Try (b1::body) (h0::q) [] [] p7) (MG tb):=by
 intro J s σ H D I h;refine wpAny_Try_except ?_;refine hW (K J D [] s σ H D I.hg h) (λN s1 z=>?_) λxa s2 z=>?_
 ·have c:=SP.kN I.ok z
  cases N with
  |next=>exact oN c
  |brk=>exact c
  |cont=>exact c
  |ret u=>exact c
 ·obtain⟨C,ya,s1,t,a,O,i,j,dx,H',B,rfl,os,A,o,⟨ox,p,P,R⟩,E,v,new,za,xb,eC,S,T⟩:=z
  cases eC
  cases S
  rw[n]at o;refine nH CK (wpAny_looks_onW (Q:=λ_ s'=>∃h',s'={ s2 with heap:=h' }/\Heap.HeldW B (X.env::X.outer) a (.ref i) j X.env.locals h'/\s2.heap.UpToSlots h') (by rw[<-n];exact t.ok.frames) L o λk d f=>⟨k,rfl,d,f⟩) λ_ yb ⟨k,e3,d,f⟩ F=>?_
  subst e3;refine nH sy (wpAny_landsW (Q:=λ_ s'=>∃h',s'={ s2 with heap:=h' }/\X' B (X.env::X.outer) a (.ref i) j h'/\k.UpToSlots h') d λl e g=>⟨l,rfl,e,g⟩) λ_ zb ⟨l,U,e,g⟩ G=>?_;subst U;refine M J C D s2 l B a i j O dx H' e (wV f g) (F.trans G) (λw m V x=>?_) T;obtain⟨u,ok⟩:=E w m.1 V;obtain⟨W,e5,_⟩:=m.there;exact t.uM (s':={ s2 with heap:=w }) os (u.add v new) (Lr ok v (Lq m ⟨W,e5,(x.dict p e5).1.trans P,λy Y=>(x.dict p e5).2.trans (R y Y)⟩)) A (λb z=>absurd z (by simp))
end
end L2
namespace L2
open Spec PyProof.Rows W HT
end L2
namespace L2
open Spec PyProof.Rows W HS HT
end L2
namespace L2
open Spec PyProof.Rows W HT
theorem Hu(d:Up)(a:(d==sysModules)=false) :
  MeetsIn P w (XM.«dict.items» ⟨[.ref d],[]⟩) (λ_ R s=>(∃es ep,kT s.heap d es ep)/\R (.ok (.ret (.ref s.aj))) { s with heap:=s.heap.push { cls:=.type "dict_items",data:=.fields #[.ref d] } }):=
 .of_wp λA R s ⟨⟨es,ep,b⟩,h⟩=>by
  unfold XM.«dict.items»;refine ae ?_;unfold abf;refine ae (wpAny_notOrdered_dict b.ty ?_);show Ut _ _ (pure d) _ _ s;refine ao ?_;show Ut _ _ (Y5 d >>= _) _ _ s;unfold Y5;rw[aq (by rw[a];exact b9)]
  exact ae (ao (ae (fB (ao ⟨_,rfl,h⟩))))
theorem HL{v:Up}{es:Array Yj}{Q:i'->Ur->Prop}(hv:s.heap.IsItemsView v d)(x:kT s.heap d es ep)
  (f:Q (.ref s.heap.objs.size) { s with heap:=s.heap.push { cls:=.type "dict_itemiterator",data:=.fields #[.none,.bool false,.ref d,.int 0 0,.int es.size 0,.int ep 0,.none,.none] } }):Ut (UK P w) A (pyIter (.ref v)) Q E s:=by
 obtain⟨h,c,g,e⟩:=id hv;obtain⟨o,b,i,a⟩:=id x;refine w2 hv.typeIs ZG (hY ZG hv.typeIs F.entry_dict_items_iter ?_ (F.args_dict_items_iter_1 _));unfold XM.«dict_items.__iter__»;refine ae (ao (ae ?_));unfold ZT;refine ae (lB c e (x:=.ref d) rfl (ao (ae ?_)));unfold ZS;refine ae (GJ b a (ae (GK b a ?_)));simp only[show Yd "dict_itemiterator" = true by decide,gZ]
 refine fB (ao ⟨_,rfl,"dict_itemiterator",_,⟨_,b5 _ rfl,rfl⟩,sg.lookup,?_⟩) (by simp only[sizeOk,YC,bW,cL,cS,iF,aX];omega)
 simpa [rawInt,YC] using f
theorem HM{es:Array Yj}{e:Yj}{ok t:i'}{Q:a2 i'->Ur->Prop}(z:Yi s.heap it d i es.size ep ok t)(x:kT s.heap d es ep)(T:es[i]?=ih e)
  (U:∀h',ZC h' it d (i+1) es.size ep e.key e.val s.heap.objs.size->h'.get? s.heap.objs.size=ih { cls:=.type "tuple",data:=.seq #[e.key,e.val] }->h'.objs.size=s.heap.objs.size+1 ->
   (∀b o,b≠it->s.heap.get? b=ih o->h'.get? b=ih o)->Q (ih (.ref s.heap.objs.size)) { s with heap:=h' }):Ut (UK P w) A (pyNext (.ref it)) Q E s:=by
 obtain⟨a,g,dr,tk,os⟩:=s;obtain⟨od,M,V,N⟩:=id x;have f:YD ⟨a,g,dr,tk,os⟩ (.ref it) "dict_itemiterator" :=⟨_,z,rfl⟩;unfold pyNext;refine ae (r5 (r0 (name:=X0 "__next__") f sg
  (hY sg f Vd ?_ (Ve _))))
 refine ae (ao (ae (ae ?_)))
 first|refine ae (w5 f (ao ?_))|refine ae (w6 f (ao ?_))
 refine ae (GA z rfl ?_);simp only[show Yd "dict_itemiterator" = true by decide,gZ]
 show Ut _ _ (if (UN d==Vv)=true then _ else _) _ _ _;rw[aq (show ¬ ((UN d==Vv)=true) from b9)];refine ae (ao (ae (GJ M N ?_)));rw[aq (by simp)]
 refine ae (ao (ae (GK M N ?_)));rw[aq (by simp)]
 refine ao ?_;simp only[show ¬ ((i:Int)<0) from by omega,j6,gI,T]
 refine ae ?_
 first|refine ae (w5 f (ao ?_))|refine ae (w6 f (ao ?_))
 refine ae (GL f ?_);show Ut _ _ (setField (.ref it) 3 (rawInt ((i:Int)+1)) >>= _) _ _ ⟨a,g,dr,tk,os⟩;refine ae (iI z (by simp) λc j k=>?_)
 replace k:XC it a c:=k;replace j:Yi c it d (i+1) es.size ep ok t:=by
  have e:((i+1:Nat):Int)=(i:Int)+1:=by omega
  unfold Yi;rw[e];simpa [rawInt] using j
 have C:YD ⟨c,g,dr,tk,os⟩ (.ref it) "dict_itemiterator" :=⟨_,j,rfl⟩;refine ae (d5 ?_);refine ae (GL C (ae (GL C ?_)));show Ut _ _ (YF (.ref it) 6 e.key e.val) _ _ ⟨c,g,dr,tk,os⟩;unfold YF;refine ae (wpAny_newTuple ?_);have l:Yi (c.push { cls:=.type "tuple",data:=.seq #[e.key,e.val] }) it d (i+1) es.size ep ok t:=a8 _ j;generalize u:c.push { cls:=.type "tuple",data:=.seq #[e.key,e.val] }=r at l;have v:c.objs.size=a.objs.size:=k.1;have B:it<a.objs.size:=bt z;have O:r.get? a.objs.size=ih { cls:=.type "tuple",data:=.seq #[e.key,e.val] }:=by rw[<-u,<-v];exact b5 _ rfl
 have R:r.objs.size=a.objs.size+1:=by rw[<-u,hX,v]
 have S:∀b o,b≠it->a.get? b=ih o->r.get? b=ih o:=λb o h e=>by rw[<-u];exact a8 _ (k.extBut b o h e)
 show Ut _ _ (YB (.ref it) >>= _) _ _ ⟨r,g,dr,tk,os⟩;rw[v];clear u j k C v c;refine ae ?_;unfold YB;refine ae (lB l rfl (x:=.none) rfl (ao ?_));simp only[gZ];refine ae (lB l rfl (x:=ok) rfl (ae (lB l rfl (x:=t) rfl ?_)));refine ae (iI l (by simp) λJ D m=>?_)
 replace m:XC it r J:=m;replace D:Yi J it d (i+1) es.size ep e.key t:=D;refine ae (iI D (by simp) λK G n=>?_)
 replace n:XC it J K:=n;replace G:Yi K it d (i+1) es.size ep e.key e.val:=G;refine ae (iI G (by simp) λL H p=>?_)
 replace p:XC it K L:=p;replace H:ZC L it d (i+1) es.size ep e.key e.val a.objs.size:=H;refine ae (iI H (by simp) λy I q=>?_)
 replace q:XC it L y:=q;replace I:ZC y it d (i+1) es.size ep e.key e.val a.objs.size:=I;refine ae (wpAny_letGo (ao (ao ⟨_,rfl,ao (U y I ?_ ?_ ?_)⟩)))
 ·exact q.extBut _ _ (jg B) (p.extBut _ _ (jg B) (n.extBut _ _ (jg B) (m.extBut _ _ (jg B) O)))
 ·show y.objs.size=a.objs.size+1
  rw[q.1,p.1,n.1,m.1,R]
 ·exact λb o h e=>q.extBut b o h (p.extBut b o h (n.extBut b o h (m.extBut b o h (S b o h e))))
theorem HN{es:Array Yj}{ok h:i'}{Q:a2 i'->Ur->Prop}(i:A.handled=none)(e:Yi s.heap it d es.size es.size ep ok h)(x:kT s.heap d es ep)
  (j:∀h',Heap.ExtBut it s.heap h'->Q none { s with heap:=h' }):Ut (UK P w) A (pyNext (.ref it)) Q E s:=by
 obtain⟨od,f,k,g⟩:=id x;have c:s.TypeIs (.ref it) "dict_itemiterator" :=⟨_,e,rfl⟩;unfold pyNext;refine ae (r5 (r0 (name:=X0 "__next__") c sg
  (hY sg c Vd ?_ (Ve _))))
 refine ae (ao (ae (ae ?_)))
 first|refine ae (w5 c (ao ?_))|refine ae (w6 c (ao ?_))
 refine ae (GA e rfl ?_);simp only[show Yd "dict_itemiterator" = true by decide,gZ]
 show Ut _ _ (if (UN d==Vv)=true then _ else _) _ _ s;rw[aq (show ¬ ((UN d==Vv)=true) from b9)];refine ae (ao (ae (GJ f g ?_)));rw[aq (by simp)]
 refine ae (ao (ae (GK f g ?_)));rw[aq (by simp)]
 refine ao ?_;simp only[show ¬ ((es.size:Int)<0) from by omega,j6,gI,sd (aU es.size)]
 refine ae ?_
 first|refine ae (w5 c (ao ?_))|refine ae (w6 c (ao ?_))
 show Ut _ _ (setField (.ref it) 2 .none >>= _) _ _ s;refine ae (wpAny_setField e rfl (by simp) ?_)
 show Ut _ _ (newExc (.type "StopIteration") [] >>= _) _ _ _;refine ae ?_;simp only[newExc,newTuple];refine ae (fB ?_ (by size_fits))
 refine ae (m:=firstArgMember _ _) (wpAny_of_eq (a:=Vv) (by first|rfl|(simp only[firstArgMember];rfl)) ?_)
 refine fB ?_ (by size_fits)
 simp only[raiseNew];refine ae (wpAny_handled ?_);rw[show A.in1.handled=none from i];refine ae (ao (wU ?_));refine ae (GB (T:= "StopIteration") (b:=true) ⟨_,b5 _ rfl,rfl⟩ isSubtype_stop ?_);exact ao (j _ (((sb ..).extBut.push _).push _))
def vR(d:Up)(o:Ye)(kvs:List (List Key×V)):It:=⟨λi H=>H d=ih (.bT o (.dT kvs))/\i<kvs.length,λi H x H'=>∃t kv b,H t=none/\x=.ref t/\kvs[i]?=ih kv/\H b=ih (.tup (kv.1.map kV))/\H'=upd H t (.tup [.ref b,kv.2]),λi H=>H d=ih (.bT o (.dT kvs))/\kvs.length<=i⟩
theorem B8{kvs:am (List Key×V)}{es:Array Yj}(I:Inv X J σ H s)(h:H d=ih (.bT o (.dT kvs)))(g:o.data=.dict es ep) :
  s.heap.get? d=ih o/\o.ExactDict/\es.size=kvs.length /\∀(i:Nat) (a:am Key×V),kvs[i]?=ih a ->∃(b:Up) (e:Yj),es[i]?=ih e/\e.key=.ref b/\H b=bn (a.1.map kV)/\RelV a.2 e.val:=by
 obtain⟨h1,z,y,xs,r,o',m,n,h2,j,c,f,p⟩:=(show bH X.prog X.w H s.heap d (.bT o (.dT kvs)) from I.aJ d _ h);rw[h1]at h2;cases h2
 rw[g]at c;cases c
 refine⟨h1,j,by rw[size_of_entries f];exact(ff r).symm,λi a k=>?_⟩
 obtain⟨x,l,e1,e2,e3⟩:=Paired.get r k;exact⟨x.2.1,_,by rw[entry_at f,l];rfl,rfl,e2,e3⟩
theorem Kt(d it:Up)(zb:d≠it)(o:Ye)(kvs:am (List Key×V))(es:Array Yj)(ep:Nat)(t:o.data=.dict es ep) :
  Turn P w K (.Tuple Qu n1 tp) (vR d o kvs) [it] it (λi h=>i<=kvs.length /\∃ok f,Yi h it d i es.size ep ok f) where
 mem:=by simp
 obj:=λi h st b a=>by
  obtain rfl:b=it:=by simpa using a
  obtain⟨_,ok,f,h1⟩:=st;exact⟨_,h1,λv q=>by cases q⟩
 keep:=λi h h' st k=>by
  obtain⟨l,ok,f,h1⟩:=st;exact⟨l,ok,f,k it (by simp) _ h1⟩
 item:=by
  intro X y A B hc i J s σ H E I C st g;subst y A B;have fi:=C it (by simp)
  obtain⟨G,ok,f,h1⟩:=st;obtain⟨D,F,M,N⟩:=B8 I g.1 t;have xc:i<kvs.length:=g.2;have L:kvs[i]?=ih kvs[i]:=bz g.2;obtain⟨b,e,R,S,a,T⟩:=N i _ L;refine HM h1 ⟨o,D,F,t⟩ R λh' e1 U z1 W=>⟨_,rfl,?_⟩;refine wpAny_letOwnedTupleGo_items (s:={ s with heap:=h' }) e1 λu e2 O=>?_;have Q:it≠s.aj:=bI (bt h1);have j:∀b o,b≠it->s.heap.get? b=ih o->u.get? b=ih o:=λb o n1 q=>(O.2 b n1).trans (W b o n1 q);have Y:u.get? s.aj=ih { cls:=.type "tuple",data:=.seq #[e.key,e.val] }:=(O.2 _ (aP Q)).trans U;have p:H s.aj=none:=I.aJ.fresh (aU _);have lt:∀b o,s.heap.get? b=ih o->b≠s.aj:=λb o q=>bI (bt q);have gU:∀b o,H b=ih o->b≠it:=λb o q z=>by rw[z,fi.1]at q;cases q
  have x:∀b,b ∉ [it]->b≠it:=λb a z=>a (by simp[z])
  have xa:Inv X J σ (upd H s.aj (.tup [.ref b,kvs[i].2])) { s with heap:=u }:=by
   refine I.step (g':=s.gens) (d':=s.drawn) (t':=s.toks) (ch:=[it]) (λb a=>?_) (λb o _ _ hc q _=>j b o (x b hc) q) (λb o _ _ hc q _=>⟨o.slots,j b o (x b hc) q⟩)
    (λb o _ q n=>by rw[ag (lt b o q)];exact n) (λb o hc q=>⟨o,j b o (x b hc) q⟩) (λb ys q=>by rw[ag (aA q p)];exact q) (λb o v q=>by rw[ag (aA q p)];exact q)
    (λb ps q=>⟨#[],by rw[ag (aA q p),q];simp⟩) (λm ya=>?_) (λb o q=>?_) I.bare
   ·obtain rfl:b=it:=by simpa using a
    exact⟨fi.2.2.2.1,fi.2.1,fi.2.2.2.2.1,fi.2.2.2.2.2⟩
   ·obtain⟨o,es,ep,za,r⟩:=ya
    exact⟨o,es,ep,j _ o (aP fi.2.1) za,r⟩
   ·by_cases a:b=s.aj
    ·subst a
     rw[ah]at q;cases q;exact⟨by rw[aX];show 2<=_;decide,[e.key,e.val],.cons (by rw[S];rfl) (.cons T .nil),_,Y,rfl,_,rfl,rfl⟩
    ·rw[ag a]at q
     refine(I.aJ b o q).e4 (λc v hc z=>?_) (λc z=>by rw[ag (aA z p)];exact z) λc ys z=>by rw[ag (aA z p)];exact z
     rcases hc with hc|hc
     ·subst hc;exact j _ v (gU _ _ q) z
     ·exact j c v (gU _ _ hc) z
  refine⟨.ref s.aj,_,xa,rfl,⟨s.aj,kvs[i],b,p,rfl,L,a,rfl⟩,⟨g.2,_,_,e2⟩,λb a=>?_⟩;obtain rfl:b=it:=by simpa using a
  rw[ag Q];exact fi.1
 done:=by
  intro X y A B hc i J s σ H E I C st g;subst y A B;have fi:=C it (by simp)
  obtain⟨G,ok,f,h1⟩:=st;obtain⟨D,F,M,N⟩:=B8 I g.1 t;have xb:i=es.size:=by rw[M];exact Z5 G g.2
  rw[xb]at h1;exact HN (I.ok.hd hc) h1 ⟨o,D,F,t⟩ λh' yb=>⟨rfl,I.turned (t':=s.toks) (λb o a q=>yb b o a q) fi.1 fi.2.1 fi.2.2.2.1 fi.2.2.2.2.1 fi.2.2.2.2.2⟩
 self:=λ_ _ _ _ _ st h=>by
  obtain⟨_,ok,f,h1⟩:=st;exact kcp_self h1 h
def LK(te:TE):TI:=λσ H R=>te σ H λv Y=>∃d kvs,v=.ref d/\Y d=ih (.dT kvs) /\∀o,R (vR d o kvs) (upd Y d (.bT o (.dT kvs)))
theorem Jo{Qj:Zx}(u:PE X e te)(n:attributeBase e "items" X.env (eval e X.env)=eval e X.env:=by rfl)(p:(Qh.endLine==Qj.line)=true:=by rfl) :
  PI X (.Tuple Qu n1 tp) (.Call (.Attribute e "items" Qh) [] [] Qj) (LK te):=by
 intro J s σ H R I h;refine wpAny_Call_method (T:= "dict") (id:= "dict.items") n rfl p F.plainAttrs_dict Z8 F.type_dict_items (aG (u J s σ H _ I h) λv s1 M=>?_);obtain⟨y,Y,g,x,d,kvs,A,e,q⟩:=M;subst A;cases x
 obtain⟨z,B,xs,r,o,es,ep,c,l,i,G,K⟩:=(show bH X.prog X.w Y s1.heap d (.dT kvs) from g.aJ d _ e);have f:∀h:XD,h.get? d=ih o->kT h d es ep:=λh e=>⟨o,e,l,i⟩;refine⟨(f s1.heap c).ty,?_,?_⟩
 ·intro a e
  cases e
  exact⟨o,c,l.2.1⟩
 refine method_meetsIn Z8 F.entry_dict_items rfl (UL ⟨rfl,(f s1.heap c).ty,F.args_dict_items_1 _,_,Hu d B,⟨es,ep,f _ c⟩,?_⟩);have j:d≠s1.aj+1:=λz=>absurd (bt c) (by rw[z];exact Nat.not_lt_of_le (gg _))
 have k:=a8 { cls:=.type "dict_items",data:=.fields #[.ref d] } c;refine HL (s:={ s1 with heap:=s1.heap.push { cls:=.type "dict_items",data:=.fields #[.ref d] } }) ⟨_,b5 _ rfl,rfl,rfl⟩ (f _ k) ?_;have m:(s1.heap.push { cls:=.type "dict_items",data:=.fields #[.ref d] }).objs.size=s1.aj+1:=hX ..;have C:Inv X J σ Y { s1 with heap:=(s1.heap.push { cls:=.type "dict_items",data:=.fields #[.ref d] }).push { cls:=.type "dict_itemiterator",data:=.fields #[.none,.bool false,.ref d,.int 0 0,.int es.size 0,.int ep 0,.none,.none] } }:=g.kept (t':=s1.toks) λb L z=>a8 _ (a8 _ z);have st:0<=kvs.length /\∃ok D,Yi ((s1.heap.push { cls:=.type "dict_items",data:=.fields #[.ref d] }).push { cls:=.type "dict_itemiterator",data:=.fields #[.none,.bool false,.ref d,.int 0 0,.int es.size 0,.int ep 0,.none,.none] }) (s1.aj+1) d 0 es.size ep ok D:=
  ⟨bx _,.none,.none,by show abm _ (s1.aj+1)=_;rw[<-m];exact b5 _ rfl⟩
 have t:Y (s1.aj+1)=none:=g.aJ.fresh (gg _);show vK X J σ _ R (.ref (s1.heap.push { cls:=.type "dict_items",data:=.fields #[.ref d] }).objs.size) _;rw[m];refine⟨s1.aj+1,[s1.aj+1],_,_,_,rfl,C.LF e (a8 _ k),Kt d (s1.aj+1) j o kvs es ep i,st,λb E=>?_,q o⟩;obtain rfl:b=s1.aj+1:=by simpa using E
 exact g.i1 (gg _) (by rw[ag (aP j)];exact t)
theorem HP{kvs:am (List Key×V)}{g:TG}(Pv:Nat->List V->St->Hp->Prop)(h0:Pv 0 [] eR (upd Y p (.lst [])))(r:∀i ys a H,Pv i ys a H->H p=ce ys/\H d=ih (.bT o (.dT kvs)))
  (s:∀i c t b ys a H,kvs[i]?=ih c->H t=none->H b=bn (c.1.map kV)->Pv i ys a H->g (.ref t) a (upd H t (.tup [.ref b,c.2])) λh u=>ti h u λb j=>if b=true then te h j λy k=>k p=ce ys/\ys.length<Us /\∃f,f<kvs.length - i/\CW Pv kvs.length (i+1) f (ys++[y]) h (upd k p (.lst (ys++[y]))) else ∃f,f<kvs.length - i/\CW Pv kvs.length (i+1) f ys h j)
  (v:∀ys a H,Pv kvs.length ys a H->Q (.ref p) H):hE (vR d o kvs) g ti te eR Q p Y:=by
 refine⟨CW Pv kvs.length,⟨kvs.length,by simp,bx _,h0⟩,?_⟩
 rintro i m ys a H ⟨rfl,hi,pv⟩;obtain⟨w,l⟩:=r i ys a H pv;refine⟨w,?_⟩
 by_cases n:i<kvs.length
 ·refine .inr ⟨⟨l,n⟩,λx C z=>?_⟩
  obtain⟨t,c,b,A,ex,q,B,e3⟩:=z;subst e3;subst ex;exact s i c t b ys a _ q A B pv
 ·have e:i=kvs.length:=by omega
  subst e;exact .inl ⟨⟨l,aU _⟩,v ys a H pv⟩
def NB:R2:=λx y H Q=>∃a b xs,x=.ref a/\y=.ref b/\H a=ih (.tup xs)/\H b=ih (.tup [])/\Q (.bl (!xs.isEmpty)) H
theorem LL(p:X.A.units+64<Ys):cg X (Xu .NotEq) NB:=by
 rintro J s σ H x y v u Q I f g ⟨a,b,xs,rfl,rfl,k,l,q⟩;cases f;cases g
 obtain⟨its,m,n,_⟩:=I.tuple (aZ.of k);obtain⟨o,c,d,_⟩:=I.tuple (aZ.of l);cases c
 have e:its.length=xs.length:=m.length.symm;rw[show xs.isEmpty=((Xs (min its.toArray.size ([]:am i').toArray.size)).all (λ_=>true)&&its.toArray.size==([]:am i').toArray.size) from by
  cases xs with
  |nil=>simp only[iF,Va]at e;subst e;rfl
  |cons x xs =>
   cases its with
   |nil=>cases e
   |cons i its=>simp]at q
 exact aaU (e:=λ_=>true) n d (by omega) (λj h1 h2=>absurd h2 (by simp)) X.prog X.w X.xe _ ⟨.bl _,H,I,rfl,q⟩
end L2
namespace L2
open W
abbrev pr(x:Gv)(s:U7):Gv×U7:=(x,s)
def rR(K:X2):List (Gv×U7)->Prop
 |[]=>True
 |p::r=>(∃f fd,aQ K p.1 p.1 p.2 f fd/\nsIn K UT p.1=ih (ih (.ref f)))/\rR K r
def vw(K:X2):List Gv->Prop
 |[]=>True
 |x::r=>nsIn K UT x=ih none/\vw K r
theorem NC{p:Gv×U7}{r:am (Gv×U7)}{kV:i'}(a:nsIn K UT p.1=ih (ih (.ref f)))
  (l:K.lookup f=ih ⟨oc,od,.func (fnOf p.1 p.1 (dA p.2) (bB p.2) (aH p.2) .none kV Qc pm an Qa ct),Ql⟩) (c:codeIn K Qa p.1=true) (k:Yb K (.ref f)=true) (g:rR K r):rR K (p::r):=⟨⟨f,_,uv l c k,a⟩,g⟩
theorem qr{p:Gv×U7}(X:K.In h)(G:h.Ns UT mg)(d:∃f fd,aQ K p.1 p.1 p.2 f fd/\nsIn K UT p.1=ih (ih (.ref f)))(ps:am Gv)
  (b:∀(kV Qc pm:i') (an:a2 Up) (Qa ct:i') (us:am i'),us.length=ps.length->bindArgs (fnOf p.1 p.1 (dA p.2) (bB p.2) (aH p.2) .none kV Qc pm an Qa ct) ⟨us,[]⟩=pure (ps.zip us)) :
  ∃f fd,aQ K p.1 p.1 p.2 f fd/\Yb K (.ref f)=true/\Binds K fd ps []/\mg p.1=ih (.ref f):=by
 obtain⟨f,fd,F,a⟩:=d;exact⟨f,fd,F,F.kp,F.binds b,jo X G a⟩
theorem qD{n:Nat}(h:us.length=n+1):∃u r,us=u::r/\r.length=n:=by
 cases us with
 |nil=>cases h
 |cons u r=>exact⟨u,r,rfl,Nat.succ.inj h⟩
theorem qV(h:us.length=2):∃a b,us=[a,b]:=by
 obtain⟨a,r,rfl,h2⟩:=qD h;obtain⟨b,rfl⟩:=GO.mp h2;exact⟨a,b,rfl⟩
theorem vx(h:us.length=3):∃a b c,us=[a,b,c]:=by
 obtain⟨a,r,rfl,h2⟩:=qD h;obtain⟨b,c,rfl⟩:=qV h2;exact⟨a,b,c,rfl⟩
theorem qW(h:us.length=4):∃a b c d,us=[a,b,c,d]:=by
 obtain⟨a,r,rfl,h2⟩:=qD h;obtain⟨b,c,d,rfl⟩:=vx h2;exact⟨a,b,c,d,rfl⟩
theorem gn{p:Gv×U7}(X:K.In h)(G:h.Ns UT mg)(d:∃f fd,aQ K p.1 p.1 p.2 f fd/\nsIn K UT p.1=ih (ih (.ref f)))(c:Gv)
  (b:∀(kV Qc pm:i') (an:a2 Up) (Qa ct a:i'),bindArgs (fnOf p.1 p.1 (dA p.2) (bB p.2) (aH p.2) .none kV Qc pm an Qa ct) ⟨[a],[]⟩=pure ([c].zip [a]):=by intros;rfl) :
  ∃f fd,aQ K p.1 p.1 p.2 f fd/\Yb K (.ref f)=true/\Binds K fd [c] []/\mg p.1=ih (.ref f):=qr X G d _ λkV Qc pm an Qa ct us h=>by obtain⟨a,rfl⟩:=GO.mp h;exact b _ _ _ _ _ _ _
theorem fh{p:Gv×U7}(X:K.In h)(G:h.Ns UT mg)(d:∃f fd,aQ K p.1 p.1 p.2 f fd/\nsIn K UT p.1=ih (ih (.ref f)))(e g:Gv)
  (b:∀(kV Qc pm:i') (an:a2 Up) (Qa ct a c:i'),bindArgs (fnOf p.1 p.1 (dA p.2) (bB p.2) (aH p.2) .none kV Qc pm an Qa ct) ⟨[a,c],[]⟩=pure ([e,g].zip [a,c]):=by intros;rfl) :
  ∃f fd,aQ K p.1 p.1 p.2 f fd/\Yb K (.ref f)=true/\Binds K fd [e,g] []/\mg p.1=ih (.ref f):=qr X G d _ λkV Qc pm an Qa ct us h=>by obtain⟨a,c,rfl⟩:=qV h;exact b _ _ _ _ _ _ _ _
theorem t4{p:Gv×U7}(X:K.In h)(G:h.Ns UT mg)(d:∃f fd,aQ K p.1 p.1 p.2 f fd/\nsIn K UT p.1=ih (ih (.ref f)))(g i j:Gv)
  (b:∀(kV Qc pm:i') (an:a2 Up) (Qa ct a c e:i'),bindArgs (fnOf p.1 p.1 (dA p.2) (bB p.2) (aH p.2) .none kV Qc pm an Qa ct) ⟨[a,c,e],[]⟩=pure ([g,i,j].zip [a,c,e]):=by intros;rfl) :
  ∃f fd,aQ K p.1 p.1 p.2 f fd/\Yb K (.ref f)=true/\Binds K fd [g,i,j] []/\mg p.1=ih (.ref f):=qr X G d _ λkV Qc pm an Qa ct us h=>by obtain⟨a,c,e,rfl⟩:=vx h;exact b _ _ _ _ _ _ _ _ _
theorem l5{p:Gv×U7}(X:K.In h)(G:h.Ns UT mg)(d:∃f fd,aQ K p.1 p.1 p.2 f fd/\nsIn K UT p.1=ih (ih (.ref f)))(i j k l:Gv)
  (b:∀(kV Qc pm:i') (an:a2 Up) (Qa ct a c e g:i'),bindArgs (fnOf p.1 p.1 (dA p.2) (bB p.2) (aH p.2) .none kV Qc pm an Qa ct) ⟨[a,c,e,g],[]⟩=pure ([i,j,k,l].zip [a,c,e,g]):=by intros;rfl) :
  ∃f fd,aQ K p.1 p.1 p.2 f fd/\Yb K (.ref f)=true/\Binds K fd [i,j,k,l] []/\mg p.1=ih (.ref f):=qr X G d _ λkV Qc pm an Qa ct us h=>by obtain⟨a,c,e,g,rfl⟩:=qW h;exact b _ _ _ _ _ _ _ _ _ _
theorem CS(X:K.In h)(G:h.Ns UT mg):∀{xs:am Gv},vw K xs ->∀x∈xs,mg x=none
 |y::r,z,x,m=>by
  rcases bj.mp m with rfl|q
  ·exact mg_none_of X G z.1
  ·exact CS X G z.2 x q
end L2
namespace L2
open Spec PyProof.Rows W
end L2
namespace L2
open W
abbrev tr(x q:Gv)(s:U7):Gv×Gv×U7:=(x,q,s)
def rS(K:X2)(C:Up):List (Gv×Gv×U7)->Prop
 |[]=>True
 |p::r=>(∃f fd,aQ K p.1 p.2.1 p.2.2 f fd/\Meth K C p.1 f)/\rS K C r
def vS(K:X2)(C:Up):List Gv->Prop
 |[]=>True
 |x::r=>XN K (.ref C) x=ih none/\vS K C r
def CO(K:X2)(x:Gv)(C:Up)(fl:List Gv)(ms:List (Gv×Gv×U7)):Prop:=(nsIn K UT x=ih (ih (.ref C))/\plainGet K C Zj=true/\hasDictIn K C=true/\plainOver K C=true/\XN K (.ref C) "__setattr__" = ih (ih (.builtin "object.__setattr__"))/\makesIn K C=true/\Yb K (.ref C)=true/\vS K C fl)/\rS K C ms
def XO(K:X2)(x q fl:Gv)(M:Up)(st:U7):Prop:= ∃f fd,aQ K "__init__" q st f fd/\Meth K M "__init__" f/\nsIn K UT x=ih (ih (.ref M))/\fU K M (ih (.ref f))=true
theorem ND{p:Gv×Gv×U7}{r:am (Gv×Gv×U7)}{kV:i'}(a:XN K (.ref C) p.1=ih (ih (.ref f)))(i:isFn K (.ref f)=true)
  (l:K.lookup f=ih ⟨oc,od,.func (fnOf p.1 p.2.1 (dA p.2.2) (bB p.2.2) (aH p.2.2) .none kV Qc pm an Qa ct),Ql⟩) (c:codeIn K Qa p.2.1=true) (k:Yb K (.ref f)=true) (g:rS K C r):rS K C (p::r):=⟨⟨f,_,uv l c k,a,i,k⟩,g⟩
theorem NF{b:Gv}{kV:i'}(n:nsIn K UT x=ih (ih (.ref C)))(a:XN K (.ref C) "__init__" = ih (ih (.ref f)))(i:isFn K (.ref f)=true)
  (l:K.lookup f=ih ⟨oc,od,.func (fnOf "__init__" q (dA st) (bB st) (aH st) .none kV Qc pm an Qa ct),Ql⟩) (c:codeIn K Qa q=true) (k:Yb K (.ref f)=true) (e:fU K C (ih (.ref f))=true):XO K x q b C st:=⟨f,_,uv l c k,⟨a,i,k⟩,n,e⟩
theorem cm_get(d:∃f fd,aQ K x q st f fd/\Meth K C x f)(ps:am Gv)
  (b:∀(kV Qc pm:i') (an:a2 Up) (Qa ct:i') (us:am i'),us.length=ps.length->bindArgs (fnOf x q (dA st) (bB st) (aH st) .none kV Qc pm an Qa ct) ⟨us,[]⟩=pure (ps.zip us)) :
  ∃f fd,aQ K x q st f fd/\Meth K C x f/\Binds K fd ps []:=by
 obtain⟨f,fd,F,a⟩:=d;exact⟨f,fd,F,a,F.binds b⟩
theorem LM(d:∃f fd,aQ K x q st f fd/\Meth K C x f)(c:Gv)(b:∀(kV Qc pm:i') (an:a2 Up) (Qa ct a:i'),bindArgs (fnOf x q (dA st) (bB st) (aH st) .none kV Qc pm an Qa ct) ⟨[a],[]⟩=pure ([c].zip [a]):=by intros;rfl):∃f fd,aQ K x q st f fd/\Meth K C x f/\Binds K fd [c] []:=cm_get d _ λkV Qc pm an Qa ct us h=>by obtain⟨a,rfl⟩:=GO.mp h;exact b _ _ _ _ _ _ _
theorem nI(d:∃f fd,aQ K x q st f fd/\Meth K C x f)(e g:Gv)(b:∀(kV Qc pm:i') (an:a2 Up) (Qa ct a c:i'),bindArgs (fnOf x q (dA st) (bB st) (aH st) .none kV Qc pm an Qa ct) ⟨[a,c],[]⟩=pure ([e,g].zip [a,c]):=by intros;rfl):∃f fd,aQ K x q st f fd/\Meth K C x f/\Binds K fd [e,g] []:=cm_get d _ λkV Qc pm an Qa ct us h=>by obtain⟨a,c,rfl⟩:=qV h;exact b _ _ _ _ _ _ _ _
theorem t5(d:∃f fd,aQ K x q st f fd/\Meth K C x f)(g i j:Gv)(b:∀(kV Qc pm:i') (an:a2 Up) (Qa ct a c e:i'),bindArgs (fnOf x q (dA st) (bB st) (aH st) .none kV Qc pm an Qa ct) ⟨[a,c,e],[]⟩=pure ([g,i,j].zip [a,c,e]):=by intros;rfl):∃f fd,aQ K x q st f fd/\Meth K C x f/\Binds K fd [g,i,j] []:=cm_get d _ λkV Qc pm an Qa ct us h=>by obtain⟨a,c,e,rfl⟩:=vx h;exact b _ _ _ _ _ _ _ _ _
theorem t6(d:∃f fd,aQ K x q st f fd/\Meth K C x f)(i j k l:Gv)(b:∀(kV Qc pm:i') (an:a2 Up) (Qa ct a c e g:i'),bindArgs (fnOf x q (dA st) (bB st) (aH st) .none kV Qc pm an Qa ct) ⟨[a,c,e,g],[]⟩=pure ([i,j,k,l].zip [a,c,e,g]):=by intros;rfl):∃f fd,aQ K x q st f fd/\Meth K C x f/\Binds K fd [i,j,k,l] []:=cm_get d _ λkV Qc pm an Qa ct us h=>by obtain⟨a,c,e,g,rfl⟩:=qW h;exact b _ _ _ _ _ _ _ _ _ _
theorem LN(d:∃f fd,aQ K x q st f fd/\Meth K C x f)(i j k l m:Gv)(b:∀(kV Qc pm:i') (an:a2 Up) (Qa ct a c e g n:i'),bindArgs (fnOf x q (dA st) (bB st) (aH st) .none kV Qc pm an Qa ct) ⟨[a,c,e,g,n],[]⟩=pure ([i,j,k,l,m].zip [a,c,e,g,n]):=by intros;rfl):∃f fd,aQ K x q st f fd/\Meth K C x f/\Binds K fd [i,j,k,l,m] []:=cm_get d _ λkV Qc pm an Qa ct us h=>by obtain⟨p,s,rfl,o⟩:=qD h;obtain⟨a,c,e,g,rfl⟩:=qW o;exact b _ _ _ _ _ _ _ _ _ _ _
theorem D2(F:aQ K x q st f fd)(d e:Gv)(b:∀(kV Qc pm:i') (an:a2 Up) (Qa ct a c:i'),bindArgs (fnOf x q (dA st) (bB st) (aH st) .none kV Qc pm an Qa ct) ⟨[a,c],[]⟩=pure ([d,e].zip [a,c]):=by intros;rfl):Binds K fd [d,e] []:=F.binds λkV Qc pm an Qa ct us h=>by obtain⟨a,c,rfl⟩:=qV h;exact b _ _ _ _ _ _ _ _
theorem qb:∀{xs:am Gv},vS K C xs ->∀{x},x∈xs->XN K (.ref C) x=ih none
 |y::r,z,x,m=>by
  rcases bj.mp m with rfl|q
  ·exact z.1
  ·exact qb z.2 q
end L2
namespace L2
def c7(k:Nat):List (List Gv)->Gv->Option (Nat×Gv)
 |[],_=>none
 |[]::rest,n=>c7 (k+1) rest n
 |(x::r)::rest,n=>if n∈x::r/\x≠n then ih (k,x) else c7 (k+1) rest n
theorem Ah{k:Nat}(h : ¬ (n∈r/\r.head? ≠ ih n)):c7 k (r::rest) n=c7 (k+1) rest n:=by
 cases r with
 |nil=>rfl
 |cons x r=>exact aq λz=>h ⟨z.1,by simpa using z.2⟩
theorem Hv{k:Nat}(h:n∈x::r/\x≠n):c7 k ((x::r)::rest) n=ih (k,x):=by
 exact ay h
def g5(all:List (List Gv)):List (List Gv)->Option Gv
 |[]=>none
 |[]::rest=>g5 all rest
 |(x::_)::rest=>if (c7 0 all x).isNone then ih x else g5 all rest
def eM(rest:List (List Gv)):Option Gv:=g5 rest rest
def without(n:Gv)(rest:List (List Gv)):List (List Gv):=rest.map λr=>r.filter λy=>!decide (y=n)
def total(rest:List (List Gv)):Nat:=(rest.map Yf).sum
def cb:Nat->List (List Gv)->Option (List Gv)
 |0,_=>ih []
 |k+1,rest=>if (rest.any λr=>!r.isEmpty)=true then (match eM rest with|none=>none|some n=>(cb k (without n rest)).map (n :: ·)) else ih []
theorem sv{all:am (List Gv)}{n:Gv}:∀{rest:am (List Gv)},g5 all rest=ih n ->∃r∈rest,r.head?=ih n
 |[],h=>by cases h
 |[]::rest,h=>let ⟨r,a,e⟩:=sv (rest:=rest) h;⟨r,a7 _ a,e⟩
 |(x::t)::rest,h=>by
  have h:(if (c7 0 all x).isNone then ih x else g5 all rest)=ih n:=h;split at h
  ·cases h;exact⟨n::t,aV,rfl⟩
  ·obtain⟨r,a,e⟩:=sv (rest:=rest) h
   exact⟨r,a7 _ a,e⟩
theorem Ae(n:Gv):∀rest:am (List Gv),total (without n rest)<=total rest
 |[]=>aU _
 |r::rest=>by
  have h1:=Ae n rest;have h2:=gm (λy=>!decide (y=n)) r;simp only[total,without,bU,w7]at *;omega
theorem lM{n:Gv}:∀{rest:am (List Gv)},(∃r∈rest,n∈r)->total (without n rest)<total rest
 |[],⟨_,h,_⟩=>by simp at h
 |r::rest,⟨q,hq,a⟩=>by
  have h1:=Ae n rest;have h2:=gm (λy=>!decide (y=n)) r;rcases bj.mp hq with rfl|hq
  ·have b:(q.filter λy=>!decide (y=n)).length<q.length:=by
    exact List.length_filter_lt_length_iff_exists.mpr ⟨n,a,by simp⟩
   simp only[total,without,bU,w7]at *;omega
  ·have b:=lM ⟨q,hq,a⟩
   simp only[total,without,bU,w7]at *;omega
theorem le_total{r:am Gv}:∀{rest:am (List Gv)},r∈rest->r.length<=total rest
 |[],h=>by simp at h
 |q::rest,h=>by
  have e:total (q::rest)=q.length+total rest:=by simp[total]
  rcases bj.mp h with rfl|h
  ·omega
  ·have:=le_total h
   omega
theorem Bq(h:(rest.any λr=>!r.isEmpty)=true):0<total rest:=by
 obtain⟨r,a,e⟩:=lG.mp h;have h1:0<r.length:=by cases r with
  |nil=>simp at e
  |cons _ _=>simp
 have h2:r.length<=total rest:=le_total a;omega
def dE(H:Hp)(vs:List V)(rows:List (List Gv)):Prop:=XH (λy r=>∃a,y=V.ref a/\H a=ih (.tup (r.map V.str))) vs rows
theorem dE.same(h:dE H vs rows)(s:aB H H'):dE H' vs rows:=Paired.imp' (λ_ _ b=>by obtain⟨a,e,q⟩:=b;exact ⟨a,e,s _ _ q⟩) h
theorem dE.length(h:dE H vs rows):vs.length=rows.length:=ff h
theorem dE.get{H:Hp}:∀{vs:am V}{rows:am (List Gv)}{i:Nat}{v:V},dE H vs rows->vs[i]?=ih v ->∃a r,v=V.ref a/\rows[i]?=ih r/\H a=bn (r.map V.str)
 |_,_,i,v,.nil,e=>by simp at e
 |_,_,0,v,.cons p _,e=>by
  obtain⟨a,rfl,q⟩:=p;simp at e;subst e;exact⟨a,_,rfl,rfl,q⟩
 |_,_,i+1,v,.cons _ t,e=>by
  obtain⟨a,r,e1,e2,q⟩:=dE.get (i:=i) t (by simpa using e)
  exact⟨a,r,e1,by simpa using e2,q⟩
theorem dE.append{H:Hp}{vs:am V}{rows:am (List Gv)}{a:Up}{r:am Gv}:dE H vs rows->H a=bn (r.map V.str)->dE H (vs++[.ref a]) (rows++[r])
 |.nil,q=>.cons ⟨a,rfl,q⟩ .nil
 |.cons p t,q=>.cons p (dE.append t q)
end L2
namespace d9
open L2 W
def top(i:Nat):U7:=aak.main.body.getD i (.Pass ⟨0,0,0,0⟩)
noncomputable abbrev pM:U7:=inClass (top 7) 0
noncomputable abbrev pN:U7:=inClass (top 8) 0
noncomputable abbrev nJ:U7:=top 10
noncomputable abbrev t7:U7:=top 11
noncomputable abbrev sM:U7:=top 13
noncomputable abbrev tD:U7:=top 14
noncomputable abbrev nK:U7:=top 16
noncomputable abbrev qs:U7:=top 17
noncomputable abbrev n8:U7:=top 18
noncomputable abbrev me:U7:=top 21
noncomputable abbrev ng:U7:=top 22
noncomputable abbrev tE:U7:=top 24
noncomputable abbrev s6:U7:=top 25
noncomputable abbrev t9:U7:=top 26
noncomputable abbrev nz:U7:=top 27
noncomputable abbrev uB:U7:=top 28
noncomputable abbrev nA:U7:=top 30
noncomputable abbrev ub:U7:=top 31
noncomputable abbrev nB:U7:=top 32
noncomputable abbrev lS:U7:=top 34
noncomputable abbrev sE:U7:=top 35
noncomputable abbrev tF:U7:=top 36
noncomputable abbrev kL:U7:=top 37
noncomputable abbrev uT:U7:=top 38
noncomputable abbrev kg:U7:=top 39
noncomputable abbrev vy:U7:=top 41
noncomputable abbrev nU:U7:=top 42
noncomputable abbrev iW:U7:=top 43
noncomputable abbrev ia:U7:=top 44
noncomputable abbrev nV:U7:=top 45
noncomputable abbrev s7:U7:=top 46
noncomputable abbrev nC:U7:=top 47
noncomputable abbrev uc:U7:=top 48
noncomputable abbrev ud:U7:=top 49
noncomputable abbrev uU:U7:=top 50
noncomputable abbrev ue:U7:=top 51
noncomputable abbrev nW:U7:=top 54
noncomputable abbrev kC:U7:=top 55
noncomputable abbrev uV:U7:=top 56
noncomputable abbrev kU:U7:=top 62
noncomputable abbrev uC:U7:=top 57
noncomputable abbrev uW:U7:=top 58
noncomputable abbrev vz:U7:=top 59
noncomputable abbrev uD:U7:=top 60
noncomputable abbrev nD:U7:=top 61
noncomputable abbrev uX:U7:=inClass uB 0
noncomputable abbrev uY:U7:=inClass uB 1
noncomputable abbrev uZ:U7:=inClass uB 2
noncomputable abbrev uE:U7:=inClass kL 0
noncomputable abbrev sN:U7:=inClass kL 1
noncomputable abbrev u0:U7:=inClass kL 2
noncomputable abbrev nX:U7:=inClass kL 4
noncomputable abbrev u1:U7:=inClass kL 5
noncomputable abbrev uf:U7:=inClass kL 6
noncomputable abbrev nL:U7:=inClass kL 7
noncomputable abbrev uF:U7:=inClass uT 0
noncomputable abbrev ug:U7:=inClass uT 1
noncomputable abbrev uh:U7:=inClass uT 2
structure dW(mg:Gv->Option i'):Prop where
 len:mg "len" = none
 max:mg "max" = none
 min:mg "min" = none
 abs:mg "abs" = none
 range:mg "range" = none
 any:mg "any" = none
 all:mg "all" = none
 list:mg "list" = none
 tuple:mg "tuple" = none
 QH:mg "enumerate" = none
theorem jZ{y:Gv}:cB ((y::r).map V.str) 0=ih (V.str y):=(show cB ((y::r).map V.str) ((0:Nat):Int)=ih (V.str y) from cF rfl)
theorem aK{q:Up}{o:HO}(a:H q=none):aB H (upd H q o):=λb u e=>by rw[ag (aA e a)];exact e
theorem Ku{g:TG}{D:Ends}(Pv:Nat->St->Hp->Prop)(h0:Pv 0 σ H)(h:∀i σ H,i<=xs.length->Pv i σ H->au K H a xs)
  (j:∀i x σ H t,xs[i]?=ih x->Pv i σ H->H t=none->g (.ref t) σ (upd H t (.tup [.int i,x])) λb H2=>tb { D with nx:=Pv (i+1),ct:=Pv (i+1),bk:=D.nx } b H2) (k:∀σ H,Pv xs.length σ H->D.nx σ H) :
  ∃W:Nat->Nat->St->Hp->Prop,(∃m,W 0 m σ H) /\∀i m σ H,W i m σ H ->
   ((oE K a).stop i H/\D.nx σ H)\/((oE K a).go i H /\∃N:St->Hp->Prop,(∀c H',N c H' ->∃f,f<m/\W (i+1) f c H') /\∀x H',(oE K a).ja i H x H'->g x σ H' λb H2=>tb { D with nx:=N,ct:=N,bk:=D.nx } b H2):=by
 refine⟨λi m σ H=>m=xs.length - i/\i<=xs.length/\Pv i σ H,⟨xs.length,by simp,bx _,h0⟩,?_⟩
 rintro i m σ H ⟨rfl,hi,p⟩;have q:=h i σ H hi p
 by_cases d:i<xs.length
 ·refine .inr ⟨⟨xs,xs[i],q,by simp[d]⟩,Pv (i+1),λc H' l=>⟨xs.length - (i+1),by omega,rfl,d,l⟩,λx H' y=>?_⟩
  obtain⟨t,v,n,rfl,hv,rfl⟩:=y;exact j i v σ _ t (hv xs q) p n
 ·have e:i=xs.length:=by omega
  subst e;exact .inl ⟨⟨xs,q,aU _⟩,k σ H p⟩
inductive qt(vs:List V)(H:Hp)(Q:VK)(E:XK):Prop
 |mk{l:Up}{ws:List V}{rows:List (List Gv)}{n:Gv}(_:vs=[.ref l,.str n])(_:H l=ih (.lst ws))(_:dE H ws rows)(_:(c7 0 rows n=none ->∀H',aB H H'->Q .aO H'))(_:(∀i x,c7 0 rows n=ih (i,x) ->∀p H',H p=none->aB H H'->H' p=ih (.tup [.int i,.str x,.str n])->Q (.ref p) H')):qt vs H Q E
theorem uG:bp ["rest","name","at","row"] ["rest","name"] (aH n8):=bw
theorem LO(F:aQ K "wish_against" "wish_against" n8 f fd)(B:dW mg):aT P w K mg base aI 1 f fd ["rest","name"] qt:=by
 refine F.bG uG λQa A outer s H vs Q E R h=>?_
 ·obtain @⟨l,ws,rows,n,rfl,q,u,qn,L⟩:=h
  intro X;refine⟨_,ax (fk eL rfl (Lg rfl B.QH (aa (pv 0) ai)) (iU rfl (dq (br 2 uG.nd) (dq (br 3 uG.nd) gM)))
    (aF (bE (PW.pt (pw_and (bJ kr (pv 1) (pv 3) rfl) (pw_and1 (bJ kM (aS bD (pv 3) aw) (pv 1) (bS _)))))
     (aF (a9 (cN (aa (pv 2) (aa (aS bD (pv 3) aw) (aa (pv 1) ai)))))) bZ)))
   (aF (a9 ez)),?_⟩
  refine af rfl ⟨l,rfl,⟨_,au.of q⟩,Ku (xs:=ws) (λi σ Y=>∃j k:a2 V,σ=[bd l,ih (.str n),j,k]/\aB H Y/\c7 i (rows.drop i) n=c7 0 rows n) ⟨none,none,rfl,aB.refl _,by simp⟩ (λi σ Y _ S=>by obtain⟨_,_,_,z,_⟩:=S;exact au.of (z _ _ q)) ?_ ?_⟩
  ·rintro i x σ Y t M ⟨j,k,rfl,m,b⟩ N
   obtain⟨a,r,rfl,D,G⟩:=u.get M;have c:aB H (upd Y t (.tup [.int i,.ref a])):=m.trans (aK N);have d:=c _ _ G;have I:rows.drop i=r::rows.drop (i+1):=by
    have hi:=(bR.mp D);obtain⟨J,rfl⟩:=hi;exact lF J
   rw[I]at b;refine⟨t,_,rfl,aZ.of ah,rfl,_,_,rfl,_,_,rfl,rfl,?_⟩;refine a4 rfl rfl ⟨a,_,rfl,.inr (aZ.of d),rfl,jt _,_,rfl,?_⟩;rw[aq b9,iM];refine cA (λe=>?_) (λe=>?_)
   ·have o:n∈r:=by simpa using e
    cases r with
    |nil=>simp at o
    |cons y r =>
     refine af rfl (bf d jZ (af rfl ⟨rfl,_,rfl,?_⟩));refine cA (λg=>?_) (λg=>?_)
     ·have C:y≠n:=λz=>by subst z;simp at g
      refine a4 rfl rfl (bf d jZ (af rfl ⟨gC,λp v=>?_⟩));rw[Hv ⟨o,C⟩]at b;exact L i y b.symm p _ (c.free v) (c.trans (aK v)) ah
     ·have O:y=n:=by
       by_cases z:y=n
       ·exact z
       ·exact absurd (by simp[z]) g
      refine⟨_,_,rfl,c,?_⟩;rw[<-b,Ah λz=>z.2 (by rw[O];rfl)]
   ·refine⟨_,_,rfl,c,?_⟩
    rw[<-b,Ah λz=>e (by simpa using z.1)]
  ·rintro σ Y ⟨j,k,rfl,m,b⟩
   rw[u.length,w8]at b;exact qn b.symm Y m
def D3:Option Gv->V
 |none=>.aO
 |some n=>.str n
inductive qc(vs:List V)(H:Hp)(Q:VK)(E:XK):Prop
 |mk{l:Up}{ws:List V}{rows:List (List Gv)}(_:vs=[.ref l])(_:H l=ih (.lst ws))(_:dE H ws rows)(_:∀H',aB H H'->Q (D3 (eM rows)) H'):qc vs H Q E
theorem CT:bp ["rest","row"] ["rest"] (aH qs):=bw
theorem Kv{fW:Up}{g:Xt}(F:aQ K "least_free" "least_free" qs f fd)(B:dW mg)(t:aQ K "wish_against" "wish_against" n8 fW g)(I:Binds K g ["rest","name"] [])(J:mg "wish_against" = ih (.ref fW)) :
  aT P w K mg base aI 2 f fd ["rest"] qc:=by
 have L:aT P w K mg base aI 1 fW g ["rest","name"] qt:=LO t B;refine F.bG CT λQa A outer s H vs Q E M h=>?_
 ·obtain @⟨l,ws,rows,rfl,m,n,q⟩:=h
  have u:a' 1 _:=M;intro X;refine⟨_,ax (fk eL rfl (dt (pv 0)) (br 1 CT.nd)
    (aF (bE (PW.pt (pw_and (kx (pv 1) (λ_=>rfl)) (pw_and1 (bJ iV (fJ L u rfl J t.kp I .nil c3 (aa (pv 0) (aa (aS bD (pv 1) aw) ai))) ez (bS _)))))
     (aF (a9 (aS bD (pv 1) aw))) bZ)))
   (aF (a9 ez)),?_⟩
  refine af rfl ⟨l,rfl,⟨_,au.of m⟩,jv (xs:=ws) (λi σ Y=>∃o:a2 V,σ=[bd l,o]/\aB H Y/\g5 rows (rows.drop i)=eM rows) ⟨none,rfl,aB.refl _,by simp[eM]⟩ (λi σ Y _ S=>by obtain⟨_,_,z,_⟩:=S;exact au.of (z _ _ m)) ?_ ?_⟩
  ·rintro i x σ Y N ⟨o,rfl,c,b⟩
   obtain⟨a,r,rfl,v,C⟩:=n.get N;have k:=c _ _ C;have D:rows.drop i=r::rows.drop (i+1):=by
    obtain⟨G,rfl⟩:=bR.mp v;exact lF G
   rw[D]at b;refine af rfl ⟨!(r.map V.str).isEmpty,.inr (.inl ⟨_,aZ.of k,rfl⟩),?_⟩;cases r with
   |nil=>exact af rfl ⟨c,b⟩
   |cons y r =>
    have b:(if (c7 0 rows y).isNone then ih y else g5 rows (rows.drop (i+1)))=eM rows:=b;refine a4 rfl rfl (bf k jZ ?_);refine qt.mk rfl (c _ _ m) (n.same c) (λO H2 d=>?_) (λj z es p H2 R d h2=>?_)
    ·refine⟨rfl,_,rfl,?_⟩
     refine af rfl (bf (d _ _ k) jZ ?_);rw[O]at b;have e:eM rows=ih y:=b.symm;have:=q H2 (c.trans d);rw[e]at this;exact this
    ·refine⟨rfl,_,rfl,?_⟩
     rw[es]at b;exact af rfl ⟨c.trans d,b⟩
  ·rintro σ Y ⟨o,rfl,c,b⟩
   rw[n.length,w8]at b;have e:eM rows=none:=b.symm;have:=q Y c;rw[e]at this;exact this
theorem Jp(h:Nm x):(x.cps.toList.all λc=>decide (c<16 ^ 8))=true:=by
 rw[mV];intro c a;have:=(h.az c a).2;exact cc (by omega)
def qd(s:U7):List U7:=match s with|.For _ _ b _ _=>b|_=>[]
def ni(s:U7):List U7:=match s with|.While _ b _ _=>b|_=>[]
def cw(l:List U7)(i:Nat):U7:=l.getD i (.Pass ⟨0,0,0,0⟩)
def ft(s:U7):Vc:=match s with|.Assign _ v _=>v|_=>.Constant .none 0 ⟨0,0,0,0⟩
def kW(s:U7):Vc:=match s with|.Return (ih v) _=>v|_=>.Constant .none 0 ⟨0,0,0,0⟩
def fu(e:Vc):Vc:=match e with|.Call _ (a::_) _ _=>a|_=>.Constant .none 0 ⟨0,0,0,0⟩
def D4(e:Vc):Vc:=match e with|.Subscript a _ _=>a|_=>.Constant .none 0 ⟨0,0,0,0⟩
def DC(e:Vc):Vc:=match e with|.ListComp x _ _ _=>x|_=>.Constant .none 0 ⟨0,0,0,0⟩
def cI(e:Vc):Yy:=match e with|.ListComp _ _ sc _=>sc|_=>{ kind:=.function,names:=[],isGenerator:=false,isCoroutine:=false }
theorem boot_tuple:Vu "tuple" = ih (.type "tuple"):=by decide +kernel
theorem boot_list:Vu "list" = ih (.type "list"):=by decide +kernel
structure Small(rows:List (List Gv)):Prop where
 a5:rows.length<=10
 short:∀r∈rows,r.length<=20
 nm:∀r∈rows,∀n∈r,Nm n
theorem MM{a:am Gv}(b:ps.Nodup)(h:∀n∈ps,n∈a):ps.length<=a.length:=by
 by_cases z:ps.length<=a.length
 ·exact z
 ·obtain⟨y,c,d⟩:=ux (found:=a) b (by omega)
  exact absurd (h y c) d
theorem AI(h:total rest=0):(rest.any λr=>!r.isEmpty)=false:=by
 cases e:rest.any λr=>!r.isEmpty with
 |false=>rfl
 |true=>have:=Bq e;omega
theorem lT(h:eM rest=ih n):∃r∈rest,n∈r:=by
 obtain⟨r,a,e⟩:=sv h;exact⟨r,a,List.mem_of_head? e⟩
theorem AJ:∀(k:Nat) (r:am (List Gv)),total r<=k ->∀j,total r<=j->cb k r=cb j r
 |0,r,h,j,_=>by
  have z:=AI (show total r=0 by omega)
  cases j with
  |zero=>rfl
  |succ j=>unfold cb;rw[aq (by rw[z];exact b9)]
 |k+1,r,h,0,a=>by
  have z:=AI (show total r=0 by omega)
  unfold cb;rw[aq (by rw[z];exact b9)]
 |k+1,r,h,j+1,a=>by
  unfold cb;split
  ·cases e:eM r with
   |none=>rfl
   |some n =>
    have:=lM (lT e);show Zt _ _=Zt _ _;rw[AJ k (without n r) (by omega) j (by omega)]
  ·rfl
theorem sO{r:am (List Gv)}(h:(r.any λr=>!r.isEmpty)=false):cb (total r) r=ih []:=by
 cases total r with
 |zero=>rfl
 |succ k=>unfold cb;rw[aq (by rw[h];exact b9)]
theorem sP{r:am (List Gv)}(h:(r.any λr=>!r.isEmpty)=true)(e:eM r=none):cb (total r) r=none:=by
 have:=Bq h;cases q:total r with
 |zero=>omega
 |succ k=>unfold cb;rw[ay h,e]
theorem sQ{r:am (List Gv)}(h:(r.any λr=>!r.isEmpty)=true)(e:eM r=ih n):cb (total r) r=(cb (total (without n r)) (without n r)).map (n :: ·):=by
 have:=lM (lT e);cases q:total r with
 |zero=>omega
 |succ k =>
  show(if (r.any λr=>!r.isEmpty)=true then _ else _)=_;rw[ay h,e];show Zt _ _=_;rw[AJ k (without n r) (by omega) _ (aU _)]
theorem Al{env:YT}:∀{c:am (Gv×XZ)}{x:Gv},c.lookup x=ih .cell ->
  (c.map λ(n,k)=>if (k==UY&&env.scope.kind == .function&&env.kindOf n==ih .cell) then (n,Xy) else (n,k)).lookup x=ih .cell
 |[],_,h=>by simp at h
 |(n,b)::r,x,h=>by
  have d:=@Al env r x;show Xx x ((if (b==UY&&env.scope.kind == .function&&env.kindOf n==ih .cell)=true then (n,Xy) else (n,b))::_)=_;rw[ef]at h;cases a:x==n with
  |true =>
   rw[a]at h;cases h
   rw[aq (by simp),ef,a]
  |false =>
   rw[a]at h
   by_cases e:(b==UY&&env.scope.kind == .function&&env.kindOf n==ih .cell)=true
   ·rw[ay e,ef,a];exact d h
   ·rw[aq e,ef,a];exact d h
theorem nest{mL:Yy}(a:sc.kind=.function)(b:(sc.names.map (·.1)).Nodup)(d:N'.Nodup)(c:Qd.length=N'.length)(f:vn N N' Qd sc=true)
  (free:∀p∈sc.names,p.2=.free->mL.names.lookup p.1=ih .cell\/mL.names.lookup p.1=ih .free):bY N (relabel mL env) N' Qd sc:=
 ⟨a,b,d,c,Dx f,λp g e=>by
  rcases free p g e with z|z
  ·exact .inl (Al z)
  ·exact so z⟩
theorem Am(K:X2)(h:X.K=K):c2 X (.type "tuple") (λxs H Q=>∃p ys,xs=[.ref p]/\((au K H p ys /\∀l,H l=none->Q (.ref l) (upd H l (.tup ys)))\/(aZ K H p ys/\Q (.ref p) H))):=by subst h;exact j'
theorem boot_any:Vu "any" = ih (.builtin "any"):=by decide +kernel
def qu(K:X2)(C:Up):Bool:=
 XN K (.ref C) "__getattribute__" == ih (ih (.builtin "BaseException.__getattribute__"))&&(XN K (.ref C) "__getattr__" == ih none&&(XN K (.ref C) "__setattr__" == ih (ih (.builtin "object.__setattr__"))&&(hasDictIn K C &&
 (((clsIn K C).any λcd=>mv cd.mro)&&(mroIn K C (.type "BaseException")==ih true&&(mroIn K C (.type "ValueError")==ih true&&(mroIn K C (.type "object")==ih true&&(XN K (.ref C) "__class__" == ih (ih (.builtin "object.__class__")) &&
 (specialIn K (.builtin "object.__class__") "__get__" == ih (ih (.builtin "getset_descriptor.__get__"))&&takesIn K (.builtin "object.__class__")==ih true)))))))))
theorem CU(h:qu K C=true):eH K C:=by
 unfold qu at h;simp only[hZ,df]at h;obtain⟨a,b,c,d,e,f,g,i,j,k,l⟩:=h;exact⟨a,b,c,d,e,f,g,i,j,k,l⟩
def D5(a:Up)(H H':Hp):Prop:= ∀b o,H b=ih o->b≠a->H' b=ih o
theorem B9{fs:am (Gv×V)}(c:H d=none):D5 a H (upd (upd H d (e7 d fs)) a (cJ C (ih d) a)):=λb o e n=>by
 rw[ag n,ag (aA e c)];exact e
noncomputable abbrev CV:List Gv:=["rows","order","rest","name"]
theorem nE:bp CV ["rows"] (aH nK):=bw
noncomputable abbrev D6:Vc:=ft (cw (ni (cw (bB nK) 2)) 3)
noncomputable abbrev mL:Yy:=cI D6
abbrev QI:Yy:=cI (fu (DC D6))
theorem EH:bY CV (aH nK) ["row","name"] [none,ih 3] mL:=c8
theorem QJ:bY ["row","name"] (relabel mL env) ["other","name"] [none,ih 1] QI:=nest rfl (by decide +kernel) (by decide +kernel) rfl (by decide +kernel) (by decide +kernel)
theorem QK:(["other","name"]:am Gv).Nodup:=by decide +kernel
theorem Br(h:dE H vs rows)(s:∀b xs,H b=bn xs->H' b=bn xs):dE H' vs rows:=Paired.imp' (λ_ _ c=>by obtain⟨a,e,q⟩:=c;exact ⟨a,e,s _ _ q⟩) h
theorem Ai(S:Small rest):Small (without n rest):=by
 refine⟨by unfold L2.without;rw[aE];exact S.a5,λr a=>?_,λr a y c=>?_⟩
 ·obtain⟨q,b,rfl⟩:=aY.mp a
  exact et (gm _ _) (S.short q b)
 ·obtain⟨q,b,rfl⟩:=aY.mp a
  exact S.nm q b y (er.mp c).1
structure D7(H:Hp)(rows:List (List Gv))(t oa:Up)(m:Nat)(σ:St)(Y:Hp)(rest:List (List Gv))(ws:List V)(cE:List Gv)(rl:Up):Prop where
 st:∃v3:Option V,σ=[ih (.ref t),ih (.ref oa),ih (.ref rl),v3]
 mm:m=total rest
 EI:Y oa=ih (.lst (cE.map V.str))
 vT:Y rl=ih (.lst ws)
 rr:dE Y ws rest
 sm:Small rest
 ne:rl≠oa
 same:aB H Y
 lim:cE.length+total rest<=1000
 eq:cb (total rows) rows=(cb (total rest) rest).map (cE ++ ·)
theorem pb:∀{rows:am (List Gv)},(∀r∈rows,r.length<=20)->total rows<=20 * rows.length
 |[],_=>bx _
 |r::rows,h=>by
  have h1:=pb λq a=>h q (a7 _ a);have h2:=h r aV;have e:total (r::rows)=r.length+total rows:=by simp[total]
  rw[e,cS];omega
theorem Kw(h:dE H ws rows):XH (λy r=>∃a,y=V.ref a/\aZ K H a r) ws (rows.map λr=>r.map V.str):=by
 induction h with
 |nil=>exact .nil
 |cons p _ b=>obtain⟨a,e,q⟩:=p;exact .cons ⟨a,e,aZ.of q⟩ b
theorem any_map(rows:am (List Gv)):((rows.map λr=>r.map V.str).any λr=>!r.isEmpty)=rows.any λr=>!r.isEmpty:=by
 rw[wK];congr 1;funext r;cases r <;> rfl
inductive pO(vs:List V)(H:Hp)(Q:VK)(E:XK):Prop
 |mk{t:Up}{ws:List V}{rows:List (List Gv)}{o:List Gv}(_:vs=[.ref t])(_:H t=ih (.tup ws))(_:dE H ws rows)(_:Small rows)(_:cb (total rows) rows=ih o)(_:∀p H',H p=none->aB H H'->H' p=ih (.tup (o.map V.str))->Q (.ref p) H'):pO vs H Q E
theorem Jq{fW:Up}{xa xe:Xt}(F:aQ K "merged" "merged" nK f fd)(C:dW mg)
  (xm:aQ K "wish_against" "wish_against" n8 fW xe) (ym:Binds K xe ["rest","name"] []) (zm:mg "wish_against" = ih (.ref fW))
  (xg:aQ K "least_free" "least_free" qs fL xa) (xn:Binds K xa ["rest"] []) (yn:mg "least_free" = ih (.ref fL)) :
  aT P w K mg base aI 3 f fd ["rows"] pO:=by
 have zn:aT P w K mg base aI 2 fL xa ["rest"] qc:=Kv xg C xm ym zm;refine F.bG nE λQa A outer s H vs Q E xo h=>?_
 ·obtain @⟨t,ws,rows,o,rfl,yg,yo,xc,O,zo⟩:=h
  have yj:a' 2 _:=xo;intro X;refine⟨_,ax (ba 1 nE.nd (eZ ai))
   (ax (ba 2 nE.nd (dY kb rfl C.list boot_list (aa (pv 0) ai)))
   (ax (nu eL (kx (cu (I4 rfl) rfl C.any boot_any (aa (pv 2) ai)) (λ_=>rfl))
    (ax (g9 (i:=3) nE.nd rfl (Yg rfl) (fJ zn yj rfl yn xg.kp xn .nil c3 (aa (pv 2) ai)))
    (ax (bE (bJ iV (pv 3) ez (bS _)) (aF JF) bZ)
    (ax (ey (gq h6 oX oY ku (pv 1) (aa (pv 3) ai)))
    (aF (m5 (i:=2) rfl EH nE.nd rfl rfl (dt (pv 2)) (λs H fp=>⟨br 0 EH.nd,eh,
     dY (Am K rfl) rfl C.tuple boot_tuple (aa (dB rfl QJ (BO K rfl (pv 0)) (λs H fp=>⟨br 0 QK,h9 (bJ kM (pv 0) (pv 1) rfl),pv 0⟩)) ai)⟩)))))))
   (aF (a9 (dY j' rfl C.tuple boot_tuple (aa (pv 1) ai)))))),?_⟩
  refine⟨bx _,λc ya=>af rfl ⟨t,ws,rfl,.inr (aZ.of (by rw[ag (aA yg ya)];exact yg)),λrl za=>?_⟩⟩
  have zi:(upd (upd H c (.lst [])) rl (.lst ws)) c=ce []:=by rw[ag (aA ah za)];exact ah
  have zg:aB H (upd (upd H c (.lst [])) rl (.lst ws)):=(aK ya).trans (aK za);refine⟨λm σ Y=>∃rest d g rl,D7 H rows t c m σ Y rest d g rl,⟨_,rows,ws,[],rl,⟨none,rfl⟩,rfl,zi,ah,yo.same zg,xc,aP (aA ah za),zg,by have:=pb xc.short;have:=xc.a5;simp only[iF];omega,by cases cb (total rows) rows <;> rfl⟩,?_⟩
  rintro m σ Y ⟨rest,d,g,rl,R⟩;obtain⟨xq,rfl⟩:=R.st;refine af rfl ⟨rl,d,_,rfl,au.of R.vT,Kw R.rr,_,rfl,?_⟩;rw[any_map];refine cA (λS=>?_) (λS=>?_)
  ·refine⟨λzj H'=>∃xh,xh<m /\∃rest d g rl,D7 H rows t c xh zj H' rest d g rl,λ_ _ z=>z,?_⟩
   refine af rfl (qc.mk rfl R.vT R.rr λH2 D=>?_);cases e:eM rest with
   |none =>
    refine af rfl ⟨rfl,_,rfl,?_⟩;rw[R.eq,sP S e]at O;cases O
   |some n =>
    refine af rfl ⟨rfl,_,rfl,?_⟩;have W:H2 c=ce (g.map V.str):=D _ _ R.EI;refine af rfl ⟨.inl ⟨rfl,_,au.of W⟩,_,rfl,c,_,_,rfl,rfl,W,by have:=R.lim;rw[aE,aX];omega,?_⟩
    generalize J:upd H2 c (.lst (g.map V.str++[D3 (ih n)]))=G;have xp:aB H G:=λb o yh=>by rw[<-J,ag (aA yh ya)];exact D _ _ (R.same b o yh)
    have xk:rl≠c:=R.ne;have yd:G rl=ce d:=by rw[<-J,ag xk];exact D _ _ R.vT
    have ye:dE G d rest:=Br R.rr λb xs q=>by rw[<-J,ag (ar (D _ _ q) W)];exact D _ _ q
    have zd:G c=ce ((g++[n]).map V.str):=by rw[<-J,ah,bc];rfl
    refine af rfl ⟨rl,rfl,⟨_,au.of yd⟩,λI L=>?_⟩;have yk:I≠c:=λz=>by rw[z,zd]at L;cases L
    refine eW (xs:=d) (λi ys T k=>∃yc:a2 V,T=[yc,ih (.str n)]/\k I=ce ys/\aB G k/\dE k ys (L2.without n (rest.take i))) ⟨none,rfl,ah,aK L,.nil⟩ (λi ys T k ab=>by obtain⟨_,_,h1,h2,_⟩:=ab;exact ⟨h1,au.of (h2 _ _ yd)⟩) ?_ ?_
    ·rintro i x ys T k zh ⟨yc,rfl,v,u,B⟩
     obtain⟨a,r,rfl,ze,xb⟩:=ye.get zh;have zk:i<d.length:=(bR.mp zh).1;have tk:rest.take (i+1)=rest.take i++[r]:=by rw[dX,ze];rfl
     refine af rfl ⟨a,rfl,⟨_,aZ.of (u _ _ xb)⟩,λb1 yb=>?_⟩;have xl:a≠b1:=aA (u _ _ xb) yb;refine lW (xs:=r.map V.str) (λj zs M U=>∃zc:a2 V,M=[zc,ih (.str n)]/\zs=((r.take j).filter λy=>!decide (y=n)).map V.str/\U=upd k b1 (.lst zs)) ⟨none,rfl,rfl,rfl⟩ (λj zs M U ⟨_,_,_,z⟩=>by rw[z];exact⟨ah,aZ.of (by rw[ag xl];exact u _ _ xb)⟩) ?_ ?_
     ·rintro j x zs M U xf ⟨zc,rfl,rfl,rfl⟩
      have zb:j<(r.map V.str).length:=(bR.mp xf).1;have yf:j<r.length:=by simpa using zb
      obtain rfl:V.str r[j]=x:=by simpa [yf] using xf
      have zf:r.take (j+1)=r.take j++[r[j]]:=by rw[dX,bz yf];rfl
      refine a4 rfl rfl ⟨rfl,_,rfl,?_⟩;refine cA (λN=>?_) (λN=>?_)
      ·have xj:r[j]≠n:=λz=>by rw[z]at N;simp at N
       refine af rfl ⟨ah,?_,cw_next zb (af rfl ⟨?_,by rw[fg]⟩)⟩
       ·have h1:=gm (λy=>!decide (y=n)) (r.take j)
        have h2:(r.take j).length<=r.length:=by rw[cz];omega
        have yp:=R.sm.short r (di ze);rw[aE,aX];omega
       ·rw[zf,f7,bc,mZ (by simpa using xj)];rfl
      ·have zp:r[j]=n:=by
        by_cases z:r[j]=n
        ·exact z
        ·exact absurd (by simp[z]) N
       refine cw_next zb (af rfl ⟨?_,rfl⟩);rw[zf];simp[zp]
     ·rintro zs M U ⟨zc,rfl,rfl,rfl⟩
      rw[aE,cM];refine⟨b1,_,rfl,.inl ⟨au.of ah,λl xi=>?_⟩⟩;have yl:I≠b1:=aA v yb;have xd:aB k (upd (upd k b1 (.lst ((r.filter λy=>!decide (y=n)).map V.str))) l (.tup ((r.filter λy=>!decide (y=n)).map V.str))):=(aK yb).trans (aK xi);have zl:I≠l:=aA (by rw[ag yl];exact v) xi
      refine⟨xd _ _ v,?_,cw_next zk ⟨_,rfl,ah,λb o q=>?_,?_⟩⟩
      ·have h1:=B.length
       have h2:(L2.without n (rest.take i)).length<=rest.length:=by unfold L2.without;rw[aE,cz];omega
       have yp:=R.sm.a5;rw[aX];omega
      ·rw[ag (aA q L)];exact xd _ _ (u b o q)
      ·have e1:L2.without n (rest.take (i+1))=L2.without n (rest.take i)++[r.filter λy=>!decide (y=n)]:=by rw[tk];unfold L2.without;rw[bc];rfl
       rw[e1];refine dE.append (Br B λb xs q=>?_) ?_
       ·rw[ag (ar q v)];exact xd _ _ q
       ·rw[ag (aP zl)];exact ah
    ·rintro ys T k ⟨yc,rfl,v,u,B⟩
     rw[ye.length,cM]at B;have lt:=lM (lT e);refine⟨_,by rw[R.mm];exact lt,L2.without n rest,ys,g++[n],I,⟨_,rfl⟩,rfl,u _ _ zd,v,B,Ai R.sm,yk,xp.trans u,?_,?_⟩
     ·have:=R.lim;rw[cL,mT];omega
     ·rw[R.eq,sQ S e,w9]
      congr 1
      funext z
      simp
  ·refine af rfl ⟨c,_,rfl,.inl ⟨au.of R.EI,λp yi=>?_⟩⟩
   rw[R.eq,sO (by simpa using S)]at O
   have e:g++[]=o:=cZ O;rw[ee]at e;subst e;exact zo p _ (R.same.free yi) (R.same.trans (aK yi)) ah
end d9
namespace d9
open L2
theorem boot_max:Vu "max" = ih (.builtin "max"):=by decide +kernel
theorem boot_abs:Vu "abs" = ih (.builtin "abs"):=by decide +kernel
inductive qE(K:UI)(vs:List V)(H:Hp)(Q:VK)(E:XK):Prop
 |mk{a:Up}{ns:List Int}{k:Int}(_:vs=[.ref a,.int k])(_:au K H a (ns.map V.int))(_:0<=k)(_:k<=100)(_:ns.length<=63)(_:∀(p:Up) (x y:Int),H p=none->0<=x->0<=y->y<4294967296->Q (.ref p) (upd H p (.lst [.int x,.int y]))):qE K vs H Q E
theorem u2:bp ["_law_script","_law_k","_law_cell"] ["_law_script","_law_k"] (aH vy):=bw
theorem LP{ns:am Int}(h:i<ns.length):∃z,(ns.map V.int)[i]?=ih (V.int z):=⟨ns[i],by rw[dQ,bz h];rfl⟩
theorem MN(F:aQ K "_law_pot" "_law_pot" vy f fd)(B:dW mg):aT P w K mg base aI 1 f fd ["_law_script","_law_k"] (qE K):=by
 refine F.bG u2 λQa A outer s H vs Q E n h=>?_
 ·obtain @⟨a,ns,k,rfl,g,o,r,t,q⟩:=h
  intro X;refine⟨_,ax (ba 2 u2.nd aw)
   (ax (bE (bJ Nb (pv 1) (cu h7 (by rfl) B.len gK (aa (pv 0) ai)) (bS _))
     (aF (ba 2 u2.nd (aS ck (pv 0) (pv 1)))) bZ)
   (aF (a9 (eZ (aa (cu (AZ rfl) (by rfl) B.max boot_max (aa aw (aa (bO jD (cu BJ (by rfl) B.abs boot_abs (aa (pv 2) ai)) (bO ur aw aw)) ai)))
    (aa (bO fK (bO fK (bO l' (cu BJ (by rfl) B.abs boot_abs (aa (pv 2) ai)) aw) (bO nP aw (pv 1))) aw) ai)))))),?_⟩
  refine a4 rfl rfl ⟨a,_,rfl,.inl g,_,_,rfl,rfl,_,rfl,?_⟩;have e:∀c:Int,∀p,H p=none->Q (.ref p) (upd H p (.lst [.int (if (if c<0 then -c else c) - 10 ^ (18:Int).toNat>0 then (if c<0 then -c else c) - 10 ^ (18:Int).toNat else 0),.int ((if c<0 then -c else c) % 2147483587+101 * k+3)])):=λc p b=>by
   refine q p _ _ b ?_ (by omega) (by omega)
   generalize (if c<0 then -c else c) - 10 ^ (18:Int).toNat=d;split <;> omega
  refine cA (λj=>?_) (λj=>?_)
  ·have l:k<((ns.map V.int).length:Int):=eg j
   rw[aE]at l;obtain⟨z,m⟩:=LP (ns:=ns) (i:=k.toNat) (by omega)
   refine a4 rfl rfl ⟨a,_,_,_,rfl,rfl,g,(by rw[show k=((k.toNat:Nat):Int) by omega];exact cF m),?_⟩
   refine af rfl ⟨z,rfl,_,_,rfl,rfl,⟨by decide,by decide,by decide⟩,_,_,rfl,rfl,_,_,rfl,?_⟩
   refine af rfl ⟨z,rfl,_,_,rfl,rfl,(by show(0:Int)<2147483587;decide),_,rfl,_,_,rfl,rfl,.inl ⟨by decide,by decide⟩,_,_,rfl,rfl,_,_,rfl,rfl,bF,λp b=>e z p b⟩
  ·refine af rfl ⟨0,rfl,_,_,rfl,rfl,⟨by decide,by decide,by decide⟩,_,_,rfl,rfl,_,_,rfl,?_⟩
   refine af rfl ⟨0,rfl,_,_,rfl,rfl,(by show(0:Int)<2147483587;decide),_,rfl,_,_,rfl,rfl,.inl ⟨by decide,by decide⟩,_,_,rfl,rfl,_,_,rfl,rfl,bF,λp b=>e 0 p b⟩
inductive iS(vs:List V)(H:Hp)(Q:VK)(E:XK):Prop
 |mk{p:Up}{m x y:Int}(_:vs=[.ref p,.int m])(_:H p=ih (.lst [.int x,.int y]))(_:0<=x)(_:0<=y)(_:y<4294967296)(_:0<m)(_:m<4611686018427387904)(_:∀(d x' y':Int),0<=d->d<m->0<=x'->0<=y'->y'<4294967296->Q (.int d) (upd H p (.lst [.int x',.int y']))):iS vs H Q E
theorem CY:bp ["_law_pot_here","_law_many","_law_digit_here"] ["_law_pot_here","_law_many"] (aH nU):=bw
theorem tG(F:aQ K "_law_digit" "_law_digit" nU f fd):aT P w K mg base aI 1 f fd ["_law_pot_here","_law_many"] iS:=by
 refine F.bG CY λQa A outer s H vs Q E j h=>?_
 ·obtain @⟨p,m,x,y,rfl,c,d,e,g,a,k,q⟩:=h
  intro X;refine⟨_,ax (bE (bJ Nc (aS ck (pv 0) aw) aw (bS _))
    (ax (ba 2 CY.nd (bO l' (aS ck (pv 0) aw) (pv 1)))
    (ax (jC (bO Kd (aS ck (pv 0) aw) (pv 1)) (C7 (pv 0) aw set_list))
    (aF (a9 (pv 2))))) bZ)
   (ax (jC (bO l' (bO fK (bO nP (aS ck (pv 0) aw) aw) aw) aw) (C7 (pv 0) aw set_list))
   (aF (a9 (bO l' (bO K3 (bO l' (bO nP (aS ck (pv 0) aw) (aS ck (pv 0) aw)) aw) aw) (pv 1))))),?_⟩
  have b:au K H p [.int x,.int y]:=au.of c;refine af rfl ⟨p,_,0,_,rfl,rfl,b,rfl,_,_,rfl,rfl,_,rfl,?_⟩;refine cA (λi=>?_) (λi=>?_)
  ·refine af rfl ⟨p,_,0,_,rfl,rfl,b,rfl,_,rfl,_,_,rfl,rfl,a,?_⟩
   refine af rfl ⟨p,_,0,_,rfl,rfl,b,rfl,_,rfl,_,_,rfl,rfl,⟨a,by omega⟩,_,rfl,p,_,0,0,rfl,rfl,c,rfl,?_⟩
   refine af rfl ?_;exact q _ _ _ (GQ _ (by omega)) (GS _ a) (Int.ediv_nonneg d (by omega)) e g
  ·refine af rfl ⟨p,_,1,_,rfl,rfl,b,rfl,_,_,rfl,rfl,.inr ⟨by decide,by decide⟩,_,_,rfl,rfl,_,_,rfl,rfl,(by show(0:Int)<2147483647;decide),_,rfl,p,_,1,1,rfl,rfl,c,rfl,?_⟩
   have h1:=GQ (y * 39373+20011) (show(2147483647:Int)≠0 by decide)
   have h2:=GS (y * 39373+20011) (show(0:Int)<2147483647 by decide)
   refine af rfl (eK ah rfl (af rfl (eK ah rfl ⟨_,_,rfl,rfl,.inl ⟨Vf (by decide) h1,Vf h2 (by decide)⟩,_,_,rfl,rfl,(by show(0:Int)<2147483563;decide),_,_,rfl,rfl,⟨by decide,by decide⟩,_,rfl,_,_,rfl,rfl,a,?_⟩)))
   exact q _ x _ (GQ _ (by omega)) (GS _ a) d h1 (by omega)
def ej(p:Up)(H:Hp):Prop:= ∃x y:Int,H p=ih (.lst [.int x,.int y])/\0<=x/\0<=y/\y<4294967296
structure bL(p:Up)(H H':Hp):Prop where
 ok:ej p H'
 kp:∀b o,H b=ih o->b≠p->H' b=ih o
section
variable{q:Up}{o:HO}
theorem bL.refl(h:ej p H):bL p H H:=⟨h,λ_ _ e _=>e⟩
theorem bL.trans(a:bL p H Y)(b:bL p Y H2):bL p H H2:=⟨b.ok,λc o e n=>b.kp c o (a.kp c o e n) n⟩
theorem ej.ne(h:ej p H)(a:H q=none):p≠q:=let ⟨_,_,e,_⟩:=h;aA e a
theorem bL.new(a:bL p H Y)(c:Y q=none):bL p H (upd Y q o):=by
 refine⟨?_,λb u e n=>?_⟩
 ·obtain⟨x,y,e,r⟩:=id a.ok
  exact⟨x,y,by rw[ag (a.ok.ne c)];exact e,r⟩
 ·rw[ag (aA (a.kp b u e n) c)];exact a.kp b u e n
theorem bL.free(a:bL p H Y)(b:Y q=none):H q=none:=by
 cases e:H q with
 |none=>rfl
 |some u =>
  by_cases h:q=p
  ·subst h;obtain⟨_,_,z,_⟩:=a.ok;rw[z]at b;cases b
  ·rw[a.kp q u e h]at b;cases b
theorem bL.write(a:bL p H Y)(c:H q=none)(d:p≠q):bL p H (upd Y q o):=by
 refine⟨?_,λb u e n=>?_⟩
 ·obtain⟨x,y,e,r⟩:=id a.ok
  exact⟨x,y,by rw[ag d];exact e,r⟩
 ·rw[ag (aA e c)];exact a.kp b u e n
theorem eX{E:XK}(h:ej p H)(a:0<m)(c:m<4611686018427387904)(k:∀d H',0<=d->d<m->bL p H H'->Q (.int d) H'):iS [.ref p,.int m] H Q E:=by
 obtain⟨x,y,e,f,g,i⟩:=h;exact⟨rfl,e,f,g,i,a,c,λd j l q r h1 h2 s=>k d _ q r ⟨⟨j,l,ah,h1,h2,s⟩,λb o z n=>by rw[ag n];exact z⟩⟩
end
theorem Bs:∀cs:am Nat,((cs.map sign).map (·.length)).sum=cs.length
 |[]=>rfl
 |c::cs=>by
  have e:(sign c).length=1:=rfl;simp only[bU,w7,Bs cs,cS,e];omega
abbrev kE:Gv:= "abcdefghijklmnopqrstuvwxyz"
theorem Bt{d:Int}(h0:0<=d)(h1:d<26):∃c:Nat,cB kE.cps.toList d=ih c/\97<=c/\c<=122/\c=97+d.toNat:=by
 have all:∀i:Nat,i<26->kE.cps.toList[i]?=ih (97+i):=by decide +kernel
 refine⟨97+d.toNat,?_,by omega,by omega,rfl⟩
 rw[show d=((d.toNat:Nat):Int) by omega]
 exact cF (all d.toNat (by omega))
inductive kF(vs:List V)(H:Hp)(Q:VK)(E:XK):Prop
 |mk{p:Up}{m:Nat}(_:vs=[.ref p,.int m])(_:ej p H)(_:m<=20)(_:∀(l:Up) (ys:List Gv) (H':Hp),H l=none->ys.length=m->(∀y∈ys,Nm y)->ys.Nodup->bL p H H'->H' l=ih (.lst (ys.map V.str))->Q (.ref l) H'):kF vs H Q E
noncomputable abbrev qv:List Gv:=["_law_pot_here","_law_many","_law_letters","_law_found","_law_k","_law_size","_law_name","_law_some"]
theorem jz:bp qv ["_law_pot_here","_law_many"] (aH iW):=bw
def uH(s:U7):List U7:=match s with|.If _ b _ _=>b|_=>[]
abbrev O5:Yy:=cI (fu (ft (cw (qd (cw (bB iW) 2)) 1)))
abbrev O6:Yy:=cI (ft (cw (uH (cw (qd (cw (bB iW) 2)) 2)) 0))
abbrev O7:Yy:=cI (D4 (ft (cw (uH (cw (qd (cw (bB iW) 2)) 2)) 1)))
theorem EJ:bY qv (aH iW) ["_law_turn","_law_letters","_law_pot_here"] [none,ih 2,ih 0] O5:=c8
theorem EK:bY qv (aH iW) ["_law_turn","_law_letters","_law_name"] [none,ih 2,ih 6] O6:=c8
theorem EL:bY qv (aH iW) ["_law_one","_law_found"] [none,ih 3] O7:=c8
theorem Kx{xd:Xt}(F:aQ K "_law_names" "_law_names" iW f fd)(B:dW mg)(za:aQ K "_law_digit" "_law_digit" nU fD xd)(xf:Binds K xd ["_law_pot_here","_law_many"] [])(yf:mg "_law_digit" = ih (.ref fD)) :
  aT P w K mg base aI 3 f fd ["_law_pot_here","_law_many"] kF:=by
 have zf:aT P w K mg base aI 1 fD xd ["_law_pot_here","_law_many"] iS:=tG za;refine F.bG jz λQa A outer s H vs Q E zw h=>?_
 ·obtain @⟨p,m,rfl,xm,zx,q⟩:=h
  have yd:a' 1 _:=zw.mono (by decide)
  intro X;refine⟨_,ax (g9 (i:=2) jz.nd rfl (Yg rfl) bu)
   (ax (g9 (i:=3) jz.nd rfl (Yg rfl) (eZ ai))
   (ax (fk eL rfl (iK rfl B.range (aa (pv 1) ai)) (br 4 jz.nd)
    (ax (ba 5 jz.nd (bO fK aw (fJ zf yd rfl yf za.kp xf .nil c3 (aa (pv 0) (aa (aS ck (eZ (aa aw (aa aw (aa aw ai))))
      (fJ zf yd rfl yf za.kp xf .nil c3 (aa (pv 0) (aa aw ai)))) ai)))))
    (ax (g9 (i:=6) jz.nd rfl (Yg rfl) (gq PySem.F.plainAttrs_str PySem.F.slot_str_join PySem.F.type_str_join Lh bu
      (aa (dB rfl EJ (iK rfl B.range (aa (pv 5) ai)) (λs H fp=>⟨br 0 EJ.nd,eh,aS Dc (pv 1) (fJ zf yd rfl yf za.kp xf .nil c3 (aa (pv 2) (aa aw ai))) (λ_ _=>rfl)⟩)) ai)))
    (ax (bE (bJ kr (pv 6) (pv 3) rfl)
      (ax (m5 (i:=7) rfl EK jz.nd rfl rfl (iK rfl B.range (aa (bO fK (pv 1) aw) ai)) (λs H fp=>⟨br 0 EK.nd,eh,
        bO Av (bO Av (h8 MC (pv 2) iQ (gN aw)) (aS Dc (pv 1) (pv 0))) bu⟩))
      (aF (g9 (i:=6) jz.nd rfl (Yg rfl) (aS ck (dB rfl EL (dt (pv 7)) (λs H fp=>⟨br 0 EL.nd,h9 (bJ (Im K rfl) (pv 0) (pv 1) rfl),pv 0⟩)) aw))))
      bZ)
    (aF (ey (gq h6 oX oY ku (pv 3) (aa (pv 6) ai))))))))
   (aF (a9 (pv 3))))),?_⟩
  refine⟨bx _,λl J=>?_⟩;have R:p≠l:=xm.ne J;have ym:((m:Int)).toNat=m:=gI m;refine⟨_,rfl,(m:Int),rfl,by omega,by omega,lR (λi σ Y=>∃(ys:am Gv) (xg yg zg xh:a2 V),σ=[bd p,ih (.int m),ih (.str kE),bd l,xg,yg,zg,xh]/\ys.length=i/\(∀y∈ys,Nm y)/\ys.Nodup/\bL p H Y/\Y l=ce (ys.map V.str))
   ⟨[],none,none,none,none,rfl,rfl,(λy o=>by simp at o),fE,(bL.refl xm).new J,ah⟩ ?_ ?_⟩
  ·rintro i σ Y hi ⟨ys,xg,yg,zg,xh,rfl,G,S,T,v,zd⟩
   rw[ym]at hi;refine af rfl ⟨gC,λa yh=>af rfl ?_⟩;have xq:a≠p:=aP (v.ok.ne yh);refine eX (p:=p) (m:=3) ((bL.refl v.ok).new yh).ok (by decide) (by decide) λd H2 zm xn zh=>?_
   obtain⟨L,yq,zq,yx⟩:∃L:Int,cB [V.int 1,V.int 2,V.int 8] d=ih (V.int L)/\0<L/\L<=8:=by
    have:d=0\/d=1\/d=2:=by omega
    rcases this with rfl|rfl|rfl
    ·exact⟨1,rfl,by decide,by decide⟩
    ·exact⟨2,rfl,by decide,by decide⟩
    ·exact⟨8,rfl,by decide,by decide⟩
   refine fe (zh.kp a _ ah xq) yq ?_;refine eX (p:=p) (m:=L) zh.ok zq (by omega) λe xi e0 e1 xb=>⟨_,_,rfl,rfl,?_⟩
   have yn:bL p Y xi:=(((bL.refl v.ok).new yh).trans zh).trans xb;have xr:xi l=ce (ys.map V.str):=yn.kp l _ zd (aP R);refine⟨rfl,_,rfl,1+e,rfl,by omega,by omega,λM xe=>?_⟩
   have zk:p≠M:=xb.ok.ne xe;refine sH (λi zs k n=>∃(cs:am Nat) (r:a2 V),zs=(cs.map sign).map V.str/\cs.length=i/\(∀c∈cs,97<=c/\c<=122)/\k=[r,ih (.str kE),bd p]/\bL p xi n/\n M=ce zs)
    ⟨[],none,rfl,rfl,(λc u=>by simp at u),rfl,(bL.refl xb.ok).new xe,ah⟩ (λi zs k n ab=>by obtain⟨_,_,_,_,_,_,_,z⟩:=ab;exact z) ?_ ?_
   ·rintro j zs k n N ⟨cs,r,rfl,U,ye,rfl,O,yi⟩
    refine a4 rfl rfl (eX (p:=p) (m:=26) O.ok (by decide) (by decide) λd D zm xn xo=>?_)
    obtain⟨c,u,yo,zo,_⟩:=Bt zm xn;have yr:D M=_:=xo.kp M _ yi (aP zk);refine⟨kE,d,c,rfl,rfl,(by rw[aX];decide +kernel),u,yr,?_,cw_next N ⟨cs++[c],_,?_,?_,?_,rfl,?_,ah⟩⟩
    ·rw[aE,aE,U,aX];omega
    ·rw[bc,bc];rfl
    ·rw[cL,U];rfl
    ·intro x yb
     rcases cj.mp yb with h|h
     ·exact ye x h
     ·have:x=c:=by simpa using h
      rw[this];exact⟨yo,zo⟩
    ·exact(O.trans xo).write ((bL.refl xb.ok).free xe) zk
   ·rintro zs k n ⟨cs,r,rfl,U,ye,rfl,O,yi⟩
    have xt:((cs.map sign).map (·.length)).sum=cs.length:=by
     exact Bs cs
    refine⟨("" : Gv),M,cs.map sign,rfl,rfl,.inl (au.of yi),?_,?_⟩
    ·have:(abl ("" : Gv))=0:=rfl
     rw[xt,this,U];omega
    rw[Ik];generalize xk:(⟨cs.toArray⟩:Gv)=g;have yc:Nm g:=by
     have xy:g.length=cs.length:=by rw[<-xk];show cs.toArray.size=_;simp
     refine⟨by omega,by omega,λc u=>ye c ?_⟩
     rw[<-xk]at u;simpa using u
    have xp:bL p Y n:=yn.trans O;have I:n l=ce (ys.map V.str):=O.kp l _ xr (aP R);refine a4 rfl rfl ⟨l,_,rfl,.inl (au.of I),rfl,jt _,_,rfl,?_⟩;rw[aq b9,iM];refine cA (λxl=>?_) (λxl=>?_)
    ·
     refine af rfl ⟨_,_,rfl,rfl,(m:Int)+1,rfl,by omega,by omega,λC yl=>?_⟩
     refine sH (λi zs k D=>∃r:a2 V,zs=((Xs i).map λj=>XE g none (ih 6)++sign (97+j)++("q" : Gv)).map V.str/\k=[r,ih (.str kE),ih (.str g)]/\D=upd n C (.lst zs))
      ⟨none,rfl,rfl,rfl⟩ (λi zs k D ⟨_,_,_,z⟩=>by rw[z];exact ah) ?_ ?_
     ·rintro j zs k D N ⟨r,rfl,rfl,rfl⟩
      obtain⟨c,u,yo,zo,yt⟩:=Bt (d:=0+(j:Int)) (by omega) (by omega)
      have zp:c=97+j:=by rw[yt];omega
      have yy:(XE g none (ih 6)).length<=6:=AD g;refine a4 rfl rfl ⟨g,rfl,by have:=yc.hi;omega,_,rfl,_,rfl,kE,_,c,rfl,rfl,(by rw[aX];decide +kernel),u,_,_,rfl,rfl,?_,_,_,rfl,rfl,?_,ah,?_,cw_next N ⟨_,?_,rfl,?_⟩⟩
      ·show _+1<=Us;rw[aX];omega
      ·have e1:(XE g none (ih 6)++(⟨#[c]⟩:Gv)).length=(XE g none (ih 6)).length+1:=by
        show(_ ++ #[c]:Array Nat).size=_;rw[r6];rfl
       have e2:(("q" : Gv)).length=1:=by decide +kernel
       show(XE g none (ih 6)++(⟨#[c]⟩:Gv)).length+_<=Us;rw[e1,e2,aX];omega
      ·rw[aE,aE,Gi,aX];omega
      ·rw[ZX,bc,bc,zp];rfl
      ·rw[fg]
     ·rintro zs k D ⟨r,rfl,rfl,rfl⟩
      have zt:((m:Int)+1).toNat=m+1:=by omega
      generalize ze:(Xs ((m:Int)+1).toNat).map (λj=>XE g none (ih 6)++sign (97+j)++("q" : Gv))=cands;have xu:cands.Nodup:=by
       rw[<-ze];refine Vg _ (λa b yu h=>yu ?_) ZO;have:=JV h;omega
      have zu:∀y∈cands,Nm y:=by
       intro y o;rw[<-ze]at o;obtain⟨j,N,rfl⟩:=aY.mp o;have:=je.mp N;exact Li yc.az ⟨by omega,by omega⟩
      have xx:cands.length=m+1:=by rw[<-ze,aE,Gi,zt]
      have W:upd n C (.lst (cands.map V.str)) l=ce (ys.map V.str):=by rw[ag (aA I yl)];exact I
      refine af rfl ⟨C,rfl,⟨_,au.of ah⟩,λzb xa=>?_⟩;refine eW (xs:=cands.map V.str) (λi zs k xc=>∃r:a2 V,zs=((cands.take i).filter (λy=>!decide (y∈ys))).map V.str/\k=[r,bd l]/\xc=upd (upd n C (.lst (cands.map V.str))) zb (.lst zs))
       ⟨none,rfl,rfl,rfl⟩ (λi zs k xc ⟨_,_,_,z⟩=>by rw[z];exact⟨ah,au.of (by rw[ag (aA ah xa)];exact ah)⟩) ?_ ?_
      ·rintro j x zs k xc yb ⟨r,rfl,rfl,rfl⟩
       rw[dQ]at yb;obtain⟨y,o,rfl⟩:=gi.mp yb;have zl:j<(cands.map V.str).length:=by rw[aE];exact(bR.mp o).1
       have tk:cands.take (j+1)=cands.take j++[y]:=by rw[dX,o];rfl
       have ya:(upd (upd n C (.lst (cands.map V.str))) zb (.lst (((cands.take j).filter (λy=>!decide (y∈ys))).map V.str))) l=ce (ys.map V.str):=by rw[ag (aA W xa)];exact W
       refine a4 rfl rfl ⟨l,_,rfl,.inl (au.of ya),rfl,jt _,_,rfl,?_⟩;rw[ay rfl,iM];refine cA (λzi=>?_) (λzi=>?_)
       ·refine af rfl ⟨ah,?_,cw_next zl ⟨_,?_,rfl,?_⟩⟩
        ·have h1:=gm (λy=>!decide (y∈ys)) (cands.take j)
         have h2:(cands.take j).length<=cands.length:=by rw[cz];omega
         rw[aE,aX];omega
        ·rw[tk,f7,bc,jq,ay zi];rfl
        ·rw[fg]
       ·refine cw_next zl ⟨_,?_,rfl,rfl⟩
        rw[tk,f7,jq,aq zi,oZ,ee]
      ·rintro zs k xc ⟨r,rfl,rfl,rfl⟩
       rw[aE,cM];obtain⟨y0,xv,yv⟩:=ux (found:=ys) xu (by omega)
       have yk:y0∈cands.filter (λy=>!decide (y∈ys)):=er.mpr ⟨xv,by simpa using yv⟩
       cases yp:cands.filter (λy=>!decide (y∈ys)) with
       |nil=>rw[yp]at yk;simp at yk
       |cons t zr =>
        have zv:t∈cands.filter (λy=>!decide (y∈ys)):=by rw[yp];exact aV
        obtain⟨zc,zn⟩:=er.mp zv;have xw:t ∉ ys:=by simpa using zn
        have ya:(upd (upd n C (.lst (cands.map V.str))) zb (.lst ((t::zr).map V.str))) l=ce (ys.map V.str):=by rw[ag (aA W xa)];exact W
        have xj:bL p H (upd (upd n C (.lst (cands.map V.str))) zb (.lst ((t::zr).map V.str))):=((v.trans xp).new yl).new xa;refine eK ah (show cB ((t::zr).map V.str) ((0:Nat):Int)=ih (V.str t) from cF rfl) ?_;refine af rfl ⟨.inl ⟨rfl,_,au.of ya⟩,_,rfl,l,_,_,rfl,rfl,ya,?_,?_⟩
        ·rw[aE,aX];omega
        ·refine⟨ys++[t],_,_,_,_,rfl,by rw[cL,G];rfl,?_,?_,?_,?_⟩
         ·intro y o
          rcases cj.mp o with h|h
          ·exact S y h
          ·have:y=t:=by simpa using h
           rw[this];exact zu t zc
         ·rw[eu]
          exact⟨T,by simp,λa yj b zj=>by rw[show b=t by simpa using zj];exact λh=>xw (h ▸ yj)⟩
         ·exact xj.write J R
         ·rw[ah,bc];rfl
    ·have yw:g ∉ ys:=by simpa using xl
     have xj:bL p H n:=v.trans xp;refine af rfl ⟨.inl ⟨rfl,_,au.of I⟩,_,rfl,l,_,_,rfl,rfl,I,?_,?_⟩
     ·rw[aE,aX];omega
     ·refine⟨ys++[g],_,_,_,_,rfl,by rw[cL,G];rfl,?_,?_,?_,?_⟩
      ·intro y o
       rcases cj.mp o with h|h
       ·exact S y h
       ·have:y=g:=by simpa using h
        rw[this];exact yc
      ·rw[eu]
       exact⟨T,by simp,λa yj b zj=>by rw[show b=g by simpa using zj];exact λh=>yw (h ▸ yj)⟩
      ·exact xj.write J R
      ·rw[ah,bc];rfl
  ·rintro σ Y ⟨ys,xg,yg,zg,xh,rfl,G,S,T,v,zd⟩
   rw[ym]at G;exact af rfl (q l ys Y J G S T v zd)
end d9
namespace d9
open L2 W HT
theorem HQ(K:X2)(h:X.K=K):c2 X (.type "list") (λxs H Q=>∃p ys,xs=[.ref p]/\(au K H p ys\/aZ K H p ys) /\∀l,H l=none->Q (.ref l) (upd H l (.lst ys))):=by subst h;exact kb
theorem HR(K:X2)(h:X.K=K)(a:X.calm=true):c2 X (.builtin "any") (λxs H Q=>∃(p:Up) (bs:am Bool),xs=[.ref p]/\au K H p (bs.map V.bl)/\Q (.bl (bs.any id)) H):=by subst h;exact Bg a
theorem Jr(K:X2)(h:X.K=K):mJ X (DU K):=by subst h;exact kD
def f9(av:Up->Prop)(H:Hp)(vs:List V)(rows:List (List Gv)):Prop:=XH (λy r=>∃a,y=V.ref a/\av a/\H a=ih (.lst (r.map V.str))) vs rows
theorem lU{av:Up->Prop}{H:Hp}:∀{vs:am V}{rows:am (List Gv)}{i:Nat}{v:V},f9 av H vs rows->vs[i]?=ih v ->∃a r,v=V.ref a/\rows[i]?=ih r/\av a/\H a=ce (r.map V.str)
 |_,_,i,v,.nil,e=>by simp at e
 |_,_,0,v,.cons p _,e=>by
  obtain⟨a,rfl,n,q⟩:=p;simp at e;subst e;exact⟨a,_,rfl,rfl,n,q⟩
 |_,_,i+1,v,.cons _ t,e=>by
  obtain⟨a,r,e1,e2,n,q⟩:=lU (i:=i) t (by simpa using e)
  exact⟨a,r,e1,by simpa using e2,n,q⟩
theorem js{b:Up->Prop}(h:f9 av H vs rows)(f:∀a xs,av a->H a=ce xs->b a/\H' a=ce xs):f9 b H' vs rows:=
 Paired.imp' (λ_ _ c=>by obtain⟨a,e,n,q⟩:=c;exact ⟨a,e,(f a _ n q).1,(f a _ n q).2⟩) h
theorem sC(h:f9 av H vs rows)(n:av a)(q:H a=ce (r.map V.str)):f9 av H (vs++[.ref a]) (rows++[r]):=lH h ⟨a,rfl,n,q⟩
theorem kc(h:f9 av H vs rows):vs.length=rows.length:=ff h
theorem n9(h:Nm x):Xv x=true:=by
 unfold Xv;rw[<-Array.all_toList,mV];intro c a;have:=(h.az c a).2;exact cc (by omega)
theorem lZ(H:Hp):∀xs:am Gv,bK H (xs.map V.str) (xs.map Vh)
 |[]=>.nil
 |x::xs=>.cons (.str x) (lZ H xs)
theorem pP:∀{xs:am Gv},(∀x∈xs,Nm x)->XI (xs.map Vh)=true
 |[],_=>rfl
 |x::xs,h=>by
  show(Xv x&&XI (xs.map Vh))=true;rw[n9 (h x aV),pP λy a=>h y (a7 _ a)];rfl
theorem ph:∀xs:am Gv,Vr (xs.map Vh)=0
 |[]=>rfl
 |x::xs=>by rw[bU];simp only[Vr,XX,ph xs,Nat.max_self]
theorem ne_nil{xs:am Gv}(c:H a=ce (xs.map V.str))(d:H b=ce [])(e:∀x∈xs,Nm x)(q:Q (.bl (!xs.isEmpty)) H):DZ (.ref a) (.ref b) H Q:=by
 refine⟨.list (xs.map Vh),.list [],.lst c (lZ _ _),.lst d .nil,pP e,rfl,by show Vr _+1<=60;rw[ph];decide,?_⟩
 cases xs with
 |nil=>exact q
 |cons x xs=>exact q
theorem eq_nil{xs:am Gv}(c:H a=ce (xs.map V.str))(d:H b=ce [])(e:∀x∈xs,Nm x)(q:Q (.bl xs.isEmpty) H):DY (.ref a) (.ref b) H Q:=by
 refine⟨.list (xs.map Vh),.list [],.lst c (lZ _ _),.lst d .nil,pP e,rfl,by show Vr _+1<=60;rw[ph];decide,?_⟩
 cases xs with
 |nil=>exact q
 |cons x xs=>exact q
theorem pQ(xs:am V)(k:Nat):e6 xs (ih (k:Int)) none=xs.drop k:=by
 unfold e6;rw[HT.JN,HT.tT]
 by_cases h:k<=xs.length
 ·rw[xZ h,sh (by rw[j7];omega)]
 ·rw[ZV (by omega),w8,r7 (by omega)];simp
def busy(rest:List (List Gv))(x:Gv):Bool:=rest.any λo=>decide (x∈o.drop 1)
def cW(all:List (List Gv)):List (List Gv)->List Gv
 |[]=>[]
 |[]::rest=>cW all rest
 |(x::_)::rest=>if busy all x then cW all rest else x::cW all rest
theorem nj{n:Gv}:∀{k:Nat}{rest:am (List Gv)},c7 k rest n=none ↔ ∀r∈rest,n∈r->r.head?=ih n
 |k,[]=>by simp[c7]
 |k,[]::rest=>by
  show c7 (k+1) rest n=none ↔ _;rw[nj (k:=k+1) (rest:=rest)];simp
 |k,(x::r)::rest=>by
  show(if n∈x::r/\x≠n then ih (k,x) else c7 (k+1) rest n)=none ↔ _
  by_cases h:n∈x::r/\x≠n
  ·rw[ay h]
   constructor
   ·intro z;cases z
   ·intro z
    have:=z _ aV h.1;exact absurd (by simpa using this) h.2
  ·rw[aq h,nj (k:=k+1) (rest:=rest)]
   constructor
   ·intro z q hq a
    rcases bj.mp hq with rfl|hq
    ·by_cases e:x=n
     ·rw[e];rfl
     ·exact absurd ⟨a,e⟩ h
    ·exact z q hq a
   ·exact λz q hq=>z q (a7 _ hq)
theorem B'{all:am (List Gv)}(b:∀r∈all,r.Nodup)(x:Gv):busy all x=false ↔ c7 0 all x=none:=by
 rw[nj];unfold busy;rw[FY]
 constructor
 ·intro h q c hx
  have h1:=h q c;cases q with
  |nil=>simp at hx
  |cons y t =>
   rcases bj.mp hx with rfl|hx
   ·rfl
   ·exact absurd (by simpa using hx) h1
 ·intro h r a
  cases r with
  |nil=>simp
  |cons y t =>
   intro hx;have hx:x∈t:=by simpa using hx
   obtain rfl:y=x:=by simpa using h _ a (a7 _ hx)
   exact(dM.mp (b _ a)).1 hx
theorem sR{all:am (List Gv)}(a:∀r∈all,r.Nodup):∀rest:am (List Gv),(cW all rest).head?=g5 all rest
 |[]=>rfl
 |[]::rest=>sR a rest
 |(x::t)::rest=>by
  show(if busy all x then cW all rest else x::cW all rest).head?=if (c7 0 all x).isNone then ih x else g5 all rest;cases b:busy all x with
  |false=>rw[(B' a x).mp b];rfl
  |true =>
   have c:(c7 0 all x).isNone=false:=by
    cases z:c7 0 all x with
    |none=>rw[(B' a x).mpr z]at b;cases b
    |some _=>rfl
   rw[c];exact sR a rest
theorem m6(all:am (List Gv))(r:am Gv):∀rest:am (List Gv),cW all (rest++[r])=cW all rest++cW all [r]
 |[]=>rfl
 |[]::rest=>m6 all r rest
 |(x::t)::rest=>by
  show(if busy all x then cW all (rest++[r]) else x::cW all (rest++[r]))=(if busy all x then cW all rest else x::cW all rest)++cW all [r];rw[m6 all r rest];split <;> rfl
theorem s8(all:am (List Gv)):∀rest:am (List Gv),(cW all rest).length<=rest.length
 |[]=>aU _
 |[]::rest=>Gw (s8 all rest)
 |(x::t)::rest=>by
  have:=s8 all rest;show(if busy all x then cW all rest else x::cW all rest).length<=rest.length+1;split
  ·omega
  ·rw[cS];omega
theorem pD{all:am (List Gv)}{n:Gv}:∀{rest:am (List Gv)},n∈cW all rest ->∃r∈rest,n∈r
 |[],h=>by simp[cW]at h
 |[]::rest,h=>let ⟨r,a,e⟩:=pD (rest:=rest) h;⟨r,a7 _ a,e⟩
 |(x::t)::rest,h=>by
  have h:n∈(if busy all x then cW all rest else x::cW all rest):=h;split at h
  ·obtain⟨r,a,e⟩:=pD (rest:=rest) h
   exact⟨r,a7 _ a,e⟩
  ·rcases bj.mp h with rfl|h
   ·exact⟨_,aV,aV⟩
   ·obtain⟨r,a,e⟩:=pD (rest:=rest) h
    exact⟨r,a7 _ a,e⟩
theorem AK(h:∀r∈rest,r.Nodup):∀r∈L2.without n rest,r.Nodup:=by
 intro r a;obtain⟨q,b,rfl⟩:=aY.mp a;exact(h q b).filter _
structure D8(H:Hp)(rows:List (List Gv))(l fa:Up)(m:Nat)(σ:St)(Y:Hp)(rest:List (List Gv))(lv:List V)(cE:List Gv)(la:Up):Prop where
 st:∃v3:Option V,σ=[ih (.ref l),ih (.ref la),ih (.ref fa),v3]
 mm:m=total rest
 vU:Y la=ih (.lst lv)
 rr:f9 (λa=>a≠fa) Y lv rest
 ne:la≠fa
 QL:Y fa=ih (.lst (cE.map V.str))
 sm:Small rest
 nd:∀r∈rest,r.Nodup
 same:aB H Y
 lim:cE.length+total rest<=1000
 eq:cb (total rows) rows=(cb (total rest) rest).map (cE ++ ·)
noncomputable abbrev oF:List Gv:=["_law_rows","_law_left","_law_found","_law_free"]
theorem om:bp oF ["_law_rows"] (aH ia):=bw
def Js(s:U7):Vc:=match s with|.While t _ _ _=>t|_=>.Constant .none 0 ⟨0,0,0,0⟩
def Dp(e:Vc):Vc:=match e with|.ListComp _ (⟨_,_,i::_,_⟩::_) _ _=>i|_=>.Constant .none 0 ⟨0,0,0,0⟩
def uI(e:Vc)(i:Nat):Vc:=match e with|.BoolOp _ es _=>es.getD i (.Constant .none 0 ⟨0,0,0,0⟩)|_=>.Constant .none 0 ⟨0,0,0,0⟩
def D9(e:Vc):Vc:=match e with|.UnaryOp _ x _=>x|_=>.Constant .none 0 ⟨0,0,0,0⟩
noncomputable abbrev sW:U7:=cw (bB ia) 2
noncomputable abbrev eA:Vc:=ft (cw (bB ia) 0)
abbrev eB:Vc:=fu (Js sW)
noncomputable abbrev eC:Vc:=ft (cw (ni sW) 0)
abbrev eD:Vc:=fu (D9 (uI (Dp eC) 1))
noncomputable abbrev eE:Vc:=ft (cw (ni sW) 3)
theorem EM:bY oF (aH ia) ["_law_row"] [none] (cI eA):=c8
theorem EN:bY oF (aH ia) ["_law_row"] [none] (cI eB):=c8
theorem EO:bY oF (aH ia) ["_law_row","_law_left"] [none,ih 1] (cI eC):=c8
theorem QM:bY ["_law_row","_law_left"] (relabel (cI eC) env) ["_law_other","_law_row"] [none,ih 0] (cI eD):=nest rfl (by decide +kernel) (by decide +kernel) rfl (by decide +kernel) (by decide +kernel)
theorem QN:(["_law_other","_law_row"]:am Gv).Nodup:=by decide +kernel
theorem ER:bY oF (aH ia) ["_law_row","_law_free"] [none,ih 3] (cI eE):=c8
theorem QO:bY ["_law_row","_law_free"] (relabel (cI eE) env) ["_law_name","_law_free"] [none,ih 1] (cI (DC eE)):=nest rfl (by decide +kernel) (by decide +kernel) rfl (by decide +kernel) (by decide +kernel)
theorem QP:(["_law_name","_law_free"]:am Gv).Nodup:=by decide +kernel
inductive qX(vs:List V)(H:Hp)(Q:VK)(E:XK):Prop
 |mk{l:Up}{ws:List V}{rows:List (List Gv)}(_:vs=[.ref l])(_:H l=ih (.lst ws))(_:f9 (λ_=>True) H ws rows)(_:Small rows)(_:(∀r∈rows,r.Nodup))(_:(cb (total rows) rows=none ->∀H',aB H H'->Q .aO H'))(_:(∀o,cb (total rows) rows=ih o ->∀p H',H p=none->aB H H'->H' p=ih (.lst (o.map V.str))->Q (.ref p) H')):qX vs H Q E
theorem NG(F:aQ K "_law_merged" "_law_merged" ia f fd)(B:dW mg):aT P w K mg base aI 1 f fd ["_law_rows"] qX:=by
 refine F.bG om λQa A outer s H vs Q E zn h=>?_
 ·obtain @⟨l,ws,rows,rfl,zv,xw,xj,xy,qn,zC⟩:=h
  have xo:=zn.units;intro X;refine⟨_,ax (g9 (i:=1) om.nd rfl (Yg rfl) (dB rfl EM (dt (pv 0)) (λs H fp=>⟨br 0 EM.nd,eh,dY (HQ K rfl) rfl B.list boot_list (aa (pv 0) ai)⟩)))
   (ax (ba 2 om.nd (eZ ai))
   (ax (nu eL (kx (cu (Bg rfl) rfl B.any boot_any (aa (dB rfl EN (dt (pv 1)) (λs H fp=>⟨br 0 EN.nd,eh,jy (nR xo) (pv 0) (eZ ai) (bS _)⟩)) ai)) (λ_=>rfl))
    (ax (g9 (i:=3) om.nd rfl (Yg rfl) (dB rfl EO (dt (pv 1)) (λs H fp=>⟨nF (i:=0) EO.nd rfl (Yg rfl),
      h9 (PW.pt (pw_and (bJ (nR xo) (pv 0) (eZ ai) (bS _)) (pw_and1 (g8 (gP (cu (HR K rfl rfl) rfl B.any boot_any (aa (dB rfl QM (A' K rfl (pv 1)) (λs H fp=>⟨br 0 QN,eh,jy (CG K rfl) (aS (sZ K rfl) (pv 1) aw) (h8 (Jr K rfl) (pv 0) (gN aw) iQ) rfl⟩)) ai))))))),
      aS (sZ K rfl) (pv 0) aw (λ_ _=>rfl)⟩)))
    (ax (bE (bJ (De xo) (pv 3) (eZ ai) (bS _)) (aF (a9 ez)) bZ)
    (ax (ey (gq h6 oX oY ku (pv 2) (aa (aS ck (pv 3) aw) ai)))
    (aF (g9 (i:=1) om.nd rfl (Yg rfl) (dB rfl ER (dt (pv 1)) (λs H fp=>⟨br 0 ER.nd,eh,
      dB rfl QO (A' K rfl (pv 0)) (λs H fp=>⟨br 0 QP,h9 (bJ kM (pv 0) (aS (sZ K rfl) (pv 1) aw) (bS _)),pv 0⟩)⟩))))))))
   (aF (a9 (pv 2))))),?_⟩
  refine af rfl ⟨l,rfl,⟨_,au.of zv⟩,λyh yp=>?_⟩;refine eW (xs:=ws) (λi ys g Y=>∃v:a2 V,g=[v]/\Y yh=ce ys/\aB H Y/\f9 (λa=>a≠yh) Y ys (rows.take i)) ⟨none,rfl,ah,aK yp,.nil⟩ (λi ys g Y ab=>by obtain⟨_,_,O,S,_⟩:=ab;exact ⟨O,au.of (S _ _ zv)⟩) ?_ ?_
  ·rintro i x ys g Y D ⟨v,rfl,h1,zf,zd⟩
   obtain⟨a,r,rfl,J,_,T⟩:=lU xw D;have N:i<ws.length:=(bR.mp D).1;have tk:rows.take (i+1)=rows.take i++[r]:=by rw[dX,J];rfl
   refine af rfl ⟨a,_,rfl,.inl (au.of (zf _ _ T)),λc U=>?_⟩;have yo:=aK (o:=.lst (r.map V.str)) U;have xr:c≠yh:=aP (aA h1 U);refine⟨yo _ _ h1,?_,cw_next N ⟨_,rfl,ah,λb o d=>?_,?_⟩⟩
   ·have h2:=kc zd
    have ya:=xj.a5;rw[cz]at h2;rw[aX];omega
   ·rw[ag (aA d yp)];exact yo _ _ (zf b o d)
   ·rw[tk]
    refine sC (js zd λb xs C d=>⟨C,by rw[ag C];exact yo _ _ d⟩) xr ?_
    rw[ag xr];exact ah
  ·rintro yy g Y ⟨v,rfl,h1,zf,zd⟩
   rw[kc xw,cM]at zd;refine⟨bx _,λk zh=>?_⟩;have zo:=aK (o:=.lst []) zh;have zp:H k=none:=zf.free zh;refine⟨λm σ H2=>∃rest lv q L,D8 H rows l k m σ H2 rest lv q L,⟨_,rows,yy,[],yh,⟨none,rfl⟩,rfl,zo _ _ h1,js zd λb xs C d=>⟨aA d zh,zo _ _ d⟩,aA h1 zh,ah,xj,xy,zf.trans zo,by have:=pb xj.short;have:=xj.a5;simp only[iF];omega,by cases cb (total rows) rows <;> rfl⟩,?_⟩
   rintro m σ H2 ⟨rest,lv,q,L,R⟩;obtain⟨xF,rfl⟩:=R.st;refine af rfl ⟨L,rfl,⟨_,au.of R.vU⟩,λyw yr=>?_⟩;refine eW (xs:=lv) (λi ys g W=>∃v:a2 V,g=[v]/\ys=((rest.take i).map λr=>!r.isEmpty).map V.bl/\W yw=ce ys/\aB H2 W) ⟨none,rfl,rfl,ah,aK yr⟩ (λi ys g W ab=>by obtain⟨_,_,_,O,S⟩:=ab;exact ⟨O,au.of (S _ _ R.vU)⟩) ?_ ?_
   ·rintro i x ys g W D ⟨v,rfl,rfl,ya,za⟩
    obtain⟨a,r,rfl,J,_,T⟩:=lU R.rr D;have N:i<lv.length:=(bR.mp D).1;have tk:rest.take (i+1)=rest.take i++[r]:=by rw[dX,J];rfl
    have xe:=di J;refine af rfl ⟨bx _,λz xg=>?_⟩;have p:=aK (o:=.lst []) xg;refine ne_nil (p _ _ (za _ _ T)) ah (R.sm.nm r xe) ?_;refine⟨p _ _ ya,?_,cw_next N (af rfl ⟨by rw[tk,bc,bc];rfl,ah,λb o d=>by rw[ag (aA d yr)];exact p _ _ (za b o d)⟩)⟩
    have yc:=R.sm.a5;rw[aE,aE,cz,aX];omega
   ·rintro bs g W ⟨v,rfl,rfl,ya,za⟩
    rw[kc R.rr,cM]at ya;refine⟨yw,_,rfl,au.of ya,_,rfl,?_⟩;have zy:((rest.map λr=>!r.isEmpty).any id)=rest.any λr=>!r.isEmpty:=by rw[wK];rfl
    rw[zy];have yd:=za _ _ R.vU;have yk:=za _ _ R.QL;have ye:f9 (λa=>a≠k) W lv rest:=js R.rr λb xs C d=>⟨C,za _ _ d⟩;have zr:=R.same.trans za;refine cA (λyj=>?_) (λyj=>?_)
    ·refine⟨λxz H'=>∃zw,zw<m /\∃rest lv q L,D8 H rows l k zw xz H' rest lv q L,λ_ _ z=>z,?_⟩
     refine af rfl ⟨L,rfl,⟨_,au.of yd⟩,λzc zl=>?_⟩;refine eW (xs:=lv) (λi ys g xb=>∃v:a2 V,g=[v,bd L]/\ys=(cW rest (rest.take i)).map V.str/\xb zc=ce ys/\aB W xb) ⟨none,rfl,rfl,ah,aK zl⟩ (λi ys g xb ab=>by obtain⟨_,_,_,O,S⟩:=ab;exact ⟨O,au.of (S _ _ yd)⟩) ?_ ?_
     ·rintro i x ys g xb D ⟨v,rfl,rfl,yc,I⟩
      obtain⟨a,r,rfl,J,_,T⟩:=lU ye D;have N:i<lv.length:=(bR.mp D).1;have tk:rest.take (i+1)=rest.take i++[r]:=by rw[dX,J];rfl
      have xe:=di J;have xq:=I _ _ T;refine af rfl ⟨bx _,λz xg=>?_⟩;have p:=aK (o:=.lst []) xg;refine ne_nil (p _ _ xq) ah (R.sm.nm r xe) (af rfl ?_);have xa:=p _ _ yc;cases r with
      |nil=>exact cw_next N (af rfl ⟨by rw[tk,m6];show _=(_++[]).map _;rw[ee],xa,I.trans p⟩)
      |cons y t =>
       refine af rfl ⟨L,rfl,⟨_,au.of (p _ _ (I _ _ yd))⟩,λxx xt=>?_⟩;refine eW (xs:=lv) (λj ys g yg=>∃yb:a2 V,g=[yb,bd a]/\ys=((rest.take j).map λo=>decide (y∈o.drop 1)).map V.bl/\yg xx=ce ys/\aB (upd xb z (.lst [])) yg) ⟨none,rfl,rfl,ah,aK xt⟩ (λj ys g yg ab=>by obtain⟨_,_,_,O,S⟩:=ab;exact ⟨O,au.of (S _ _ (p _ _ (I _ _ yd)))⟩) ?_ ?_
       ·rintro j x ys g yg yt ⟨yb,rfl,rfl,zb,xd⟩
        obtain⟨b,o,rfl,yz,_,zz⟩:=lU ye yt;have ze:j<lv.length:=(bR.mp yt).1;have xi:rest.take (j+1)=rest.take j++[o]:=by rw[dX,yz];rfl
        have zt:=I.trans (p.trans xd);refine af rfl (eK (zt _ _ T) jZ ?_);refine a4 rfl rfl ⟨b,_,rfl,au.of (zt _ _ zz),λp2 xA=>?_⟩;have xD:e6 (o.map V.str) (ih 1) none=(o.drop 1).map V.str:=by
         rw[show(1:Int)=((1:Nat):Int) from rfl,pQ,lK]
        rw[xD];have M:=aK (o:=.lst ((o.drop 1).map V.str)) xA;refine⟨p2,_,rfl,.inl (au.of ah),rfl,jt _,?_⟩;rw[aq b9,iM];refine⟨M _ _ zb,?_,cw_next ze (af rfl ⟨by rw[xi,bc,bc];rfl,ah,λc u U=>by rw[ag (aA U xt)];exact M _ _ (xd c u U)⟩)⟩
        have yx:=R.sm.a5;rw[aE,aE,cz,aX];omega
       ·rintro zE g yg ⟨yb,rfl,rfl,zb,xd⟩
        rw[kc ye,cM]at zb;refine⟨xx,_,rfl,au.of zb,_,rfl,?_⟩;have yD:((rest.map λo=>decide (y∈o.drop 1)).any id)=busy rest y:=by unfold busy;rw[wK];rfl
        rw[yD];have xm:=p.trans xd;cases d:busy rest y with
        |true =>
         refine cw_next N (af rfl ⟨?_,xd _ _ xa,I.trans xm⟩);rw[tk,m6];show _=(_++(if busy rest y then cW rest [] else y::cW rest [])).map _;rw[d];show _=(_++[]).map _;rw[ee]
        |false =>
         refine af rfl (eK (xm _ _ xq) jZ ⟨xd _ _ xa,?_,cw_next N (af rfl ⟨?_,ah,λc u U=>by rw[ag (aA U zl)];exact xm _ _ (I c u U)⟩)⟩)
         ·have yx:=s8 rest (rest.take i)
          have yF:=R.sm.a5;rw[cz]at yx;rw[aE,aX];omega
         ·rw[tk,m6]
          show _=(_++(if busy rest y then cW rest [] else y::cW rest [])).map _;rw[d,bc];rfl
     ·rintro fr g xb ⟨v,rfl,rfl,yc,I⟩
      rw[kc ye,cM]at yc;have xu:∀x∈cW rest rest,Nm x:=λx D=>by
       obtain⟨r,zn,e⟩:=pD D;exact R.sm.nm r zn x e
      have yA:=sR R.nd rest;refine af rfl ⟨bx _,λz xg=>?_⟩;have p:=aK (o:=.lst []) xg;refine eq_nil (p _ _ yc) ah xu (af rfl ?_);have ym:eM rest=(cW rest rest).head?:=yA.symm;have zm:=zr.trans (I.trans p);have xa:=p _ _ yc;have yq:=p _ _ (I _ _ yd);have zk:=p _ _ (I _ _ yk);generalize cW rest rest=fr at ym xa xu⊢;cases fr with
      |nil =>
       refine qn ?_ _ zm;rw[R.eq,sP yj ym];rfl
      |cons n zD =>
       have e:eM rest=ih n:=ym;have lt:=lM (lT e);generalize zF:upd xb z (.lst [])=G at zm xa yq zk p⊢;have zA:f9 (λa=>a≠k) G lv rest:=js ye λb xs C d=>⟨C,p _ _ (I _ _ d)⟩;refine af rfl ⟨.inl ⟨rfl,_,au.of zk⟩,_,rfl,eK xa jZ ⟨k,_,_,rfl,rfl,zk,by have:=R.lim;rw[aE,aX];omega,?_⟩⟩
       have xB:zc≠k:=aP (aA yk zl);have zb:(upd G k (.lst (q.map V.str++[.str n]))) zc=ce ((n::zD).map V.str):=by rw[ag xB];exact xa
       have xl:(upd G k (.lst (q.map V.str++[.str n]))) L=ce lv:=by rw[ag R.ne];exact yq
       have xh:(upd G k (.lst (q.map V.str++[.str n]))) k=ce ((q++[n]).map V.str):=by rw[ah,bc];rfl
       have yu:aB H (upd G k (.lst (q.map V.str++[.str n]))):=λb o d=>by rw[ag (aA d zp)];exact zm b o d
       have xn:f9 (λa=>a≠k) (upd G k (.lst (q.map V.str++[.str n]))) lv rest:=js zA λb xs C d=>⟨C,by rw[ag C];exact d⟩
       generalize upd G k (.lst (q.map V.str++[.str n]))=xE at zb xl xh yu xn⊢;refine af rfl ⟨L,rfl,⟨_,au.of xl⟩,λzg yn=>?_⟩;have yB:zg≠k:=aP (aA xh yn);refine eW (xs:=lv) (λi ys g xc=>∃v:a2 V,g=[v,bd zc]/\xc zg=ce ys/\aB xE xc/\f9 (λa=>a≠k/\a≠zg) xc ys (L2.without n (rest.take i))) ⟨none,rfl,ah,aK yn,.nil⟩ (λi ys g xc ab=>by obtain⟨_,_,O,S,_⟩:=ab;exact ⟨O,au.of (S _ _ xl)⟩) ?_ ?_
       ·rintro i x ys g xc D ⟨v,rfl,zj,M,xf⟩
        obtain⟨a,r,rfl,J,_,T⟩:=lU xn D;have N:i<lv.length:=(bR.mp D).1;have tk:rest.take (i+1)=rest.take i++[r]:=by rw[dX,J];rfl
        have xe:=di J;have yl:=M _ _ T;have zq:=M _ _ zb;refine af rfl ⟨a,rfl,⟨_,au.of yl⟩,λb1 yf=>?_⟩;have zB:a≠b1:=aA yl yf;have xC:zc≠b1:=aA zq yf;have zu:b1≠zg:=aP (aA zj yf);have yC:b1≠k:=aP (aA (M _ _ xh) yf);refine eW (xs:=r.map V.str) (λj zs yi xk=>∃yb:a2 V,yi=[yb,bd zc]/\zs=((r.take j).filter λy=>!decide (y=n)).map V.str/\xk=upd xc b1 (.lst zs)) ⟨none,rfl,rfl,rfl⟩ (λj zs yi xk ⟨_,_,_,z⟩=>by rw[z];exact⟨ah,au.of (by rw[ag zB];exact yl)⟩) ?_ ?_
        ·rintro j x zs yi xk xv ⟨yb,rfl,rfl,rfl⟩
         have ze:j<(r.map V.str).length:=(bR.mp xv).1;have yv:j<r.length:=by simpa using ze
         obtain rfl:V.str r[j]=x:=by simpa [yv] using xv
         have xi:r.take (j+1)=r.take j++[r[j]]:=by rw[dX,bz yv];rfl
         refine a4 rfl rfl (eK (by rw[ag xC];exact zq) jZ ⟨rfl,_,rfl,?_⟩)
         refine cA (λzi=>?_) (λzi=>?_)
         ·have zx:r[j]≠n:=λz=>by rw[z]at zi;simp at zi
          refine af rfl ⟨ah,?_,cw_next ze (af rfl ⟨?_,by rw[fg]⟩)⟩
          ·have h1:=gm (λy=>!decide (y=n)) (r.take j)
           have h2:(r.take j).length<=r.length:=by rw[cz];omega
           have ya:=R.sm.short r xe;rw[aE,aX];omega
          ·rw[xi,f7,bc,mZ (by simpa using zx)];rfl
         ·have yE:r[j]=n:=by
           by_cases z:r[j]=n
           ·exact z
           ·exact absurd (by simp[z]) zi
          refine cw_next ze (af rfl ⟨?_,rfl⟩);rw[xi];simp[yE]
        ·rintro zs yi xk ⟨yb,rfl,rfl,rfl⟩
         rw[aE,cM];have xp:=aK (o:=.lst ((r.filter λy=>!decide (y=n)).map V.str)) yf;refine⟨xp _ _ zj,?_,cw_next N ⟨_,rfl,ah,λb o d=>?_,?_⟩⟩
         ·have h1:=kc xf
          have h2:(L2.without n (rest.take i)).length<=rest.length:=by unfold L2.without;rw[aE,cz];omega
          have ya:=R.sm.a5;rw[aX];omega
         ·rw[ag (aA d yn)];exact xp _ _ (M b o d)
         ·have e1:L2.without n (rest.take (i+1))=L2.without n (rest.take i)++[r.filter λy=>!decide (y=n)]:=by rw[tk];unfold L2.without;rw[bc];rfl
          rw[e1];refine sC (js xf λb xs C d=>⟨C,by rw[ag C.2];exact xp _ _ d⟩) ⟨yC,zu⟩ ?_
          rw[ag zu];exact ah
       ·rintro ys g xc ⟨v,rfl,zj,M,xf⟩
        rw[kc xn,cM]at xf;refine⟨_,by rw[R.mm];exact lt,L2.without n rest,ys,q++[n],zg,⟨_,rfl⟩,rfl,zj,js xf λb xs C d=>⟨C.1,d⟩,yB,M _ _ xh,Ai R.sm,AK R.nd,yu.trans M,?_,?_⟩
        ·have:=R.lim;rw[cL,mT];omega
        ·rw[R.eq,sQ yj e,w9]
         congr 1
         funext z
         simp
    ·refine af rfl (zC q ?_ k W zp zr yk)
     rw[R.eq,sO (by simpa using yj)]
     show ih (q++[])=ih q;rw[ee]
structure hI(mg:Gv->Option i'):Prop where
 rT:mg "isinstance" = none
 str:mg "str" = none
 dict:mg "dict" = none
 sorted:mg "sorted" = none
theorem pR:Vu "isinstance" = ih (.builtin "isinstance"):=by decide +kernel
theorem boot_str:Vu "str" = ih (.type "str"):=by decide +kernel
theorem boot_dict:Vu "dict" = ih (.type "dict"):=by decide +kernel
theorem boot_sorted:Vu "sorted" = ih (.builtin "sorted"):=by decide +kernel
theorem boot_all:Vu "all" = ih (.builtin "all"):=by decide +kernel
theorem HU(K:X2)(h:X.K=K)(a:X.calm=true):c2 X (.builtin "all") (λxs H Q=>∃(p:Up) (bs:am Bool),xs=[.ref p]/\au K H p (bs.map V.bl)/\Q (.bl (bs.all id)) H):=by subst h;exact pA a
theorem ite_ff{A B:Prop}{k:Bool}(a:k=false)(h:B):if k=true then A else B:=by subst a;exact h
theorem ite_tt{A B:Prop}{k:Bool}(a:k=true)(h:A):if k=true then A else B:=by subst a;exact h
inductive mf(vs:List V)(H:Hp)(Q:VK)(E:XK):Prop
 |mk{x:Gv}(_:vs=[.str x])(_:Nm x)(_:∀H',aB H H'->Q (.bl true) H'):mf vs H Q E
theorem MO:bp ["thing"] ["thing"] (aH nJ):=bw
abbrev O8:Vc:=fu (kW (cw (bB nJ) 1))
theorem DD:bY ["thing"] (aH nJ) ["sign"] [none] (cI O8):=c8
theorem LQ(F:aQ K "is_name" "is_name" nJ f fd)(B:dW mg)(g:hI mg):aT P w K mg base aI 1 f fd ["thing"] mf:=by
 refine F.bG MO λQa A outer s H vs Q E u h=>?_
 ·obtain @⟨x,rfl,a,q⟩:=h
  intro X;refine⟨_,ax (bE (PW.pt (pw_or (g8 (gP (cu pH rfl g.rT pR (aa (pv 0) (aa (p0 (v:=.ty "str") rfl g.str boot_str rfl) ai)))))
     (pw_or1 (g8 (JI Du Du aw (cu Hl rfl B.len gK (aa (pv 0) ai)) aw))))) (aF (a9 jG)) bZ)
   (aF (a9 (cu (pA rfl) rfl B.all boot_all (aa (dB rfl DD (MH (pv 0)) (λs H fp=>⟨br 0 DD.nd,eh,JH Bh Bh bu (pv 0) bu⟩)) ai)))),?_⟩
  have n:=a.lo;have o:=a.hi;have r:x.cps.size<=8:=a.hi;refine af rfl ⟨⟨_,.inr ⟨"str",rfl⟩⟩,.str x,.ty "str",.type "str",.type "str",true,rfl,rfl,.inl (.str x),rfl,true,rfl,?_⟩;refine af rfl ⟨x,rfl,by rw[aX];omega,1,x.length,rfl,rfl,_,rfl,?_⟩
  refine ite_tt (cc (by omega)) ?_
  refine⟨x.length,8,rfl,rfl,_,rfl,?_⟩;have l:decide ((x.length:Int)<=8)=true:=cc (by omega)
  rw[l];refine af rfl ⟨x,rfl,λp m=>?_⟩;refine Ka (λi ys b Y=>∃d:a2 V,b=[d]/\ys=(X9 i true).map V.bl/\Y=upd H p (.lst ys)) ⟨none,rfl,rfl,rfl⟩ (λi ys b Y ⟨_,_,_,z⟩=>by rw[z];exact ah) ?_ ?_
  ·rintro i c ys b Y j ⟨d,rfl,rfl,rfl⟩
   have k:i<x.cps.size:=by
    obtain⟨h,_⟩:=wJ.mp j;exact h
   have t:=a.az c (Z9.mp (UU j));have e1:(!decide ((⟨#[c]⟩:Gv).cps.toList<(X0 "a").cps.toList))=true:=by
    have : ¬ ([c] < [97]):=by simp[Vi];omega
    have e:(X0 "a").cps.toList=[97]:=by decide +kernel
    rw[e];simpa using this
   have e2:(!decide ((X0 "z").cps.toList<(⟨#[c]⟩:Gv).cps.toList))=true:=by
    have : ¬ ([122] < [c]):=by simp[Vi];omega
    have e:(X0 "z").cps.toList=[122]:=by decide +kernel
    rw[e];simpa using this
   refine af rfl ⟨_,_,rfl,rfl,_,rfl,ite_tt e1 ⟨_,_,rfl,rfl,ah,by rw[aE,wu,aX];omega,cw_next k (af rfl ⟨?_,?_⟩)⟩⟩
   ·rw[e2,GU,bc];rfl
   ·rw[fg]
  ·rintro ys b Y ⟨d,rfl,rfl,rfl⟩
   refine⟨p,_,rfl,au.of ah,?_⟩;have:(X9 x.cps.size true).all id=true:=by simp
   rw[this];exact q _ (aK m)
theorem Jt{g:Gv->V}(e:H a=bn (ps.map V.str))(f:H d=cr kvs)(r:∀x∈ps,bo kvs (F3 x)=ih (g x))(h:H p=none)(t:ps.length<=100)
  (q:Q (.ref p) (upd H p (.lst (ps.map g)))):hE (jb K a) (ic 0) nZ (uR (gu 1) (gu 0)) [none,bd d] Q p H:=by
 have i:a≠p:=aA e h;have l:d≠p:=aA f h;refine lW (xs:=ps.map V.str) (λj zs b H2=>∃c:a2 V,b=[c,bd d]/\zs=(ps.take j).map g/\H2=upd H p (.lst zs)) ⟨none,rfl,rfl,rfl⟩ (λj zs b H2 ⟨_,_,_,z⟩=>by rw[z];exact⟨ah,aZ.of (by rw[ag i];exact e)⟩) ?_ ?_
 ·rintro j x zs b H2 s ⟨c,rfl,rfl,rfl⟩
  obtain⟨m,n,rfl,o⟩:=uz s;refine a4 rfl rfl ⟨d,g ps[j],rfl,?_,ah,?_,cw_next m (af rfl ⟨?_,by rw[fg]⟩)⟩
  ·rw[<-r _ (gj n)];exact cm.k (k:=F3 ps[j]) (by rw[ag l];exact f)
  ·rw[aE,cz,aX];omega
  ·rw[o,bc];rfl
 ·rintro zs b H2 ⟨c,rfl,rfl,rfl⟩
  rw[aE,cM];exact q
theorem Ju{g:Gv->V}(e:H a=ce (ps.map V.str))(f:H d=cr kvs)(r:∀x∈ps,bo kvs (F3 x)=ih (g x))(h:H p=none)(t:ps.length<=100)
  (q:Q (.ref p) (upd H p (.lst (ps.map g)))):hE (jU K a) (ic 0) nZ (uR (gu 1) (gu 0)) [none,bd d] Q p H:=by
 have i:a≠p:=aA e h;have l:d≠p:=aA f h;refine eW (xs:=ps.map V.str) (λj zs b H2=>∃c:a2 V,b=[c,bd d]/\zs=(ps.take j).map g/\H2=upd H p (.lst zs)) ⟨none,rfl,rfl,rfl⟩ (λj zs b H2 ⟨_,_,_,z⟩=>by rw[z];exact⟨ah,au.of (by rw[ag i];exact e)⟩) ?_ ?_
 ·rintro j x zs b H2 s ⟨c,rfl,rfl,rfl⟩
  obtain⟨m,n,rfl,o⟩:=uz s;refine a4 rfl rfl ⟨d,g ps[j],rfl,?_,ah,?_,cw_next m (af rfl ⟨?_,by rw[fg]⟩)⟩
  ·rw[<-r _ (gj n)];exact cm.k (k:=F3 ps[j]) (by rw[ag l];exact f)
  ·rw[aE,cz,aX];omega
  ·rw[o,bc];rfl
 ·rintro zs b H2 ⟨c,rfl,rfl,rfl⟩
  rw[aE,cM];exact q
def rowsOf(L:Gv->List Gv)(ps:List Gv):List (List Gv):=ps.map L++[ps]
def gD(H:Hp)(kvs:List (Key×V))(L:Gv->List Gv)(x:Gv):Prop:= ∃a,bo kvs (F3 x)=ih (.ref a)/\H a=ih (.tup ((L x).map V.str))
theorem gD.same(h:gD H kvs L x)(s:aB H H'):gD H' kvs L x:=let ⟨a,e,q⟩:=h;⟨a,e,s _ _ q⟩
theorem LR(h:∀x∈ps,gD H kvs L x):∃g:Gv->V,(∀x∈ps,bo kvs (F3 x)=ih (g x))/\dE H (ps.map g) (ps.map L):=by
 refine⟨λx=>(bo kvs (F3 x)).getD .aO,λx b=>?_,?_⟩
 ·obtain⟨a,e,_⟩:=h x b;show _=ih ((bo kvs (F3 x)).getD V.aO);rw[e];rfl
 ·induction ps with
  |nil=>exact .nil
  |cons x ps c =>
   obtain⟨a,e,q⟩:=h x aV;exact .cons ⟨a,by show(bo kvs (F3 x)).getD V.aO=_;rw[e];rfl,q⟩ (c λy d=>h y (a7 _ d))
inductive qY(vs:List V)(H:Hp)(Q:VK)(E:XK):Prop
 |mk{d pa:Up}{kvs:List (Key×V)}{L:Gv->List Gv}{k:Gv}{ps o:List Gv}(_:vs=[.ref d,.str k,.ref pa])(_:H d=ih (.dK kvs))(_:H pa=ih (.tup (ps.map V.str)))(_:(∀x∈ps,gD H kvs L x))(_:Small (rowsOf L ps))(_:cb (total (rowsOf L ps)) (rowsOf L ps)=ih o)(_:o.length<=100)(_:∀p H',aB H H'->H' p=ih (.tup ((k::o).map V.str))->Q (.ref p) H'):qY vs H Q E
noncomputable abbrev ES:List Gv:=["lines","kind","parents","rows","refusal"]
theorem D':bp ES ["lines","kind","parents"] (aH ng):=bw
def Ea(e:Vc):Vc:=match e with|.BinOp a _ _ _=>a|_=>.Constant .none 0 ⟨0,0,0,0⟩
abbrev QQ:Vc:=Ea (fu (ft (cw (bB ng) 0)))
theorem Eb:bY ES (aH ng) ["parent","lines"] [none,ih 0] (cI QQ):=c8
theorem NH{v:Xt}(F:aQ K "line_from" "line_from" ng f fd)(B:dW mg)(z:bV P w K mg base aI 3 fM v ["rows"] pO "merged") :
  aT P w K mg base aI 4 f fd ["lines","kind","parents"] qY:=by
 refine F.bG D' λQa A outer s H vs Q E a h=>?_
 ·obtain @⟨d,b,kvs,L,k,ps,o,rfl,C,e,D,n,G,xb,q⟩:=h
  have I:=a.units;have x:=eQ I;intro X;refine⟨_,ax (ba 3 D'.nd (dY j' rfl B.tuple boot_tuple (aa (bO qq (dB rfl Eb (kH (pv 2)) (λs H fp=>⟨br 0 Eb.nd,eh,eY x (pv 1) (pv 0) (λ_ _=>rfl)⟩)) (eZ (aa (pv 2) ai))) ai)))
   (aF (J' (aF (a9 (bO CI (cN (aa (pv 1) ai)) (bA z a (aa (pv 3) ai))))) rfl)),?_⟩
  obtain⟨g,J,M⟩:=LR D;have yb:ps.length<=20:=n.short ps (eV _ aV);refine af rfl ⟨b,rfl,⟨_,aZ.of e⟩,λc t=>Jt e C J t (by omega) ?_⟩
  have N:=aK (o:=.lst (ps.map g)) t;refine af rfl ⟨eo,λO j=>?_⟩;have R:=N.trans (aK (o:=.lst [V.ref b]) j);refine⟨c,O,_,_,rfl,rfl,by rw[ag (aA ah j)];exact ah,ah,by rw[aE,aX];show _+1<=_;omega,λS y=>?_⟩
  have T:=R.trans (aK (o:=.lst (ps.map g++[V.ref b])) y);refine⟨S,_,rfl,.inl ⟨au.of ah,λr a=>?_⟩⟩;have U:=T.trans (aK (o:=.tup (ps.map g++[V.ref b])) a);refine af rfl ⟨eo,λW l=>?_⟩;have i:=U.trans (aK (o:=.tup [V.str k]) l);refine af rfl (pO.mk rfl (rows:=rowsOf L ps) (by rw[ag (aA ah l)];exact ah) (dE.append (M.same i) (i _ _ e)) n G λm xc zb u Y=>?_)
  refine⟨W,m,_,_,rfl,rfl,u _ _ ah,Y,by rw[aE,aX];show 1+_<=_;omega,λp xa ya za=>?_⟩
  exact q p xa (i.trans (u.trans ya)) za
def cK(H:Hp)(vs:List V)(Qb:List (Gv×List Gv)):Prop:=XH (λy p=>∃a b,y=V.ref a/\H a=ih (.tup [.str p.1,.ref b])/\H b=ih (.tup (p.2.map V.str))) vs Qb
theorem cK.keep(h:cK H vs Qb)(s:∀b xs,H b=bn xs->H' b=bn xs):cK H' vs Qb:=Paired.imp' (λ_ _ c=>by obtain⟨a,b,e,q,r⟩:=c;exact ⟨a,b,e,s _ _ q,s _ _ r⟩) h
theorem cK.same(h:cK H vs Qb)(s:aB H H'):cK H' vs Qb:=h.keep λ_ _ e=>s _ _ e
theorem cK.length(h:cK H vs Qb):vs.length=Qb.length:=ff h
theorem cK.append{p:Gv×List Gv}(h:cK H vs Qb)(q:H a=bn [.str p.1,.ref b])(r:H b=bn (p.2.map V.str)):cK H (vs++[.ref a]) (Qb++[p]):=lH h ⟨a,b,rfl,q,r⟩
structure jH(Qb:List (Gv×List Gv))(L:Gv->List Gv):Prop where
 nd:(Qb.map (·.1)).Nodup
 a5:Qb.length<=8
 nm:∀p∈Qb,Nm p.1
 up:∀p∈Qb,∀x∈p.2,∃q∈Qb,q.1=x
 rank:∃r:Gv->Nat,∀p∈Qb,∀x∈p.2,r x<r p.1
 line:∀p∈Qb,Small (rowsOf L p.2) /\∃o,cb (total (rowsOf L p.2)) (rowsOf L p.2)=ih o/\L p.1=p.1::o/\o.length<=100
theorem jH.perm{b:am (Gv×List Gv)}(h:jH Qb L)(p:b.Perm Qb):jH b L:=by
 have m:∀{q},q∈b ↔ q∈Qb:=λ{q}=>p.mem_iff;obtain⟨r,c⟩:=h.rank;exact⟨(p.map _).nodup_iff.mpr h.nd,by rw[p.length_eq];exact h.a5,λq a=>h.nm q (m.mp a),λq a x d=>let ⟨z,f,e⟩:=h.up q (m.mp a) x d;⟨z,m.mpr f,e⟩,⟨r,λq a=>c q (m.mp a)⟩,λq a=>h.line q (m.mp a)⟩
def isDone(kvs:List (Key×V))(x:Gv):Bool:=(bo kvs (F3 x)).isSome
theorem Ky{rest:am (Gv×List Gv)}(ok:jH Qb L)(sub:∀p∈rest,p∈Qb)(all:∀p∈Qb,dn p.1=true\/p∈rest)(ne:rest ≠ []):∃p∈rest,∀x∈p.2,dn x=true:=by
 obtain⟨r,f⟩:=ok.rank;have c:∀n,∀p∈rest,r p.1=n ->∃q∈rest,∀x∈q.2,dn x=true:=by
  intro n
  induction n using Y9 with
  |_ n g =>
   intro p a e
   by_cases h:∀x∈p.2,dn x=true
   ·exact⟨p,a,h⟩
   ·simp only[abU]at h
    obtain⟨x,b,d⟩:=h;obtain⟨q,i,rfl⟩:=ok.up p (sub p a) x b;have lt:=f p (sub p a) q.1 b;rcases all q i with z|z
    ·exact absurd z d
    ·exact g _ (by omega) q z rfl
 cases rest with
 |nil=>exact absurd rfl ne
 |cons p t=>exact c _ p aV rfl
def fj(dn:Gv->Bool)(rest:List (Gv×List Gv)):List (Gv×List Gv):=rest.filter λp=>(p.2.map dn).all id
theorem Bu{rest:am (Gv×List Gv)}{p:Gv×List Gv}:p∈fj dn rest ↔ p∈rest /\∀x∈p.2,dn x=true:=by
 unfold fj;rw[er,List.all_map,mV];rfl
theorem AL{α:Type}(f:α->Bool):∀l:am α,(l.filter f).length+(l.filter λx=>!f x).length=l.length
 |[]=>rfl
 |x::l=>by
  have a:=AL f l;cases h:f x <;> simp[jq,h] <;> omega
theorem Jv{rV:Gv->Bool}{rest:am (Gv×List Gv)}(h:∀p∈fj dn rest,rV p.1=true):(rest.filter λp=>!rV p.1).length+(fj dn rest).length<=rest.length:=by
 have e:rest.length=(rest.filter λp=>(p.2.map dn).all id).length+(rest.filter λp=>!(p.2.map dn).all id).length:=by
  exact(AL (λp:Gv×List Gv=>(p.2.map dn).all id) rest).symm
 have b:(rest.filter λp=>!rV p.1).length<=(rest.filter λp=>!(p.2.map dn).all id).length:=by
  rw[<-Vj,<-Vj];refine List.countP_mono_left λp a h1=>?_;cases z:(p.2.map dn).all id with
  |false=>rfl
  |true =>
   have:=h p (er.mpr ⟨a,z⟩);rw[this]at h1;cases h1
 unfold fj;omega
theorem Kz(e:H a=bn (ps.map V.str))(f:H d=cr kvs)(g:H p=none)(r:ps.length<=100)
  (q:Q (.ref p) (upd H p (.lst ((ps.map (isDone kvs)).map V.bl)))):hE (jb K a) (ic 0) nZ (vp (gu 0) (gu 1)) [none,bd d] Q p H:=by
 have h:a≠p:=aA e g;have i:d≠p:=aA f g;refine lW (xs:=ps.map V.str) (λj zs b H2=>∃c:a2 V,b=[c,bd d]/\zs=((ps.take j).map (isDone kvs)).map V.bl/\H2=upd H p (.lst zs)) ⟨none,rfl,rfl,rfl⟩ (λj zs b H2 ⟨_,_,_,z⟩=>by rw[z];exact⟨ah,aZ.of (by rw[ag h];exact e)⟩) ?_ ?_
 ·rintro j x zs b H2 n ⟨c,rfl,rfl,rfl⟩
  obtain⟨l,o,rfl,m⟩:=uz n;refine a4 rfl rfl ⟨d,_,rfl,cm.k (k:=F3 ps[j]) (by rw[ag i];exact f),ah,?_,cw_next l (af rfl ⟨?_,by rw[fg]⟩)⟩
  ·rw[aE,aE,cz,aX];omega
  ·rw[m,bc,bc];rfl
 ·rintro zs b H2 ⟨c,rfl,rfl,rfl⟩
  rw[aE,cM];exact q
def kQ(Qb:List (Gv×List Gv))(kvs:List (Key×V)):Prop:=(kvs.map (·.1)).Nodup /\∀k∈kvs.map (·.1),∃p∈Qb,k=F3 p.1
theorem Bv(kvs:am (Key×V))(k:Key)(v:V):(k∈kvs.map (·.1)/\(putK kvs k v).map (·.1)=kvs.map (·.1))\/(k ∉ kvs.map (·.1)/\(putK kvs k v).map (·.1)=kvs.map (·.1)++[k]):=by
 have e:(kvs.any λa=>decide (a.1=k))=true ↔ k∈kvs.map (·.1):=by
  rw[lG,aY];exact⟨λ⟨x,h,d⟩=>⟨x,h,eg d⟩,λ⟨x,h,d⟩=>⟨x,h,cc d⟩⟩
 unfold putK
 by_cases h:k∈kvs.map (·.1)
 ·refine .inl ⟨h,?_⟩
  rw[ay (e.mpr h),gJ];refine se λa _=>?_;show(if a.1=k then (a.1,v) else a).1=a.1;split <;> rfl
 ·refine .inr ⟨h,?_⟩
  rw[aq λz=>h (e.mp z),bc];rfl
theorem KA{k j:Key}:j∈(putK kvs k v).map (·.1) ↔ j=k\/j∈kvs.map (·.1):=by
 rcases Bv kvs k v with⟨h,e⟩|⟨h,e⟩
 ·rw[e];exact⟨.inr,λz=>z.elim (λe=>e ▸ h) id⟩
 ·rw[e,cj,bX];exact Or.comm
theorem LS{k:Key}(h:(kvs.map (·.1)).Nodup):((putK kvs k v).map (·.1)).Nodup:=by
 rcases Bv kvs k v with⟨_,e⟩|⟨c,e⟩
 ·rw[e];exact h
 ·rw[e,eu]
  exact⟨h,by simp,λa d b f e=>c (by rw[<-(bX.mp f),<-e];exact d)⟩
theorem kQ.put{p:Gv×List Gv}(h:kQ Qb kvs)(a:p∈Qb):kQ Qb (putK kvs (F3 p.1) v):=by
 refine⟨LS h.1,λk b=>?_⟩;rcases KA.mp b with z|z
 ·exact⟨p,a,z⟩
 ·exact h.2 k z
theorem Ca:∀{kvs:am (Key×V)}{x:Gv},isDone kvs x=true->F3 x∈kvs.map (·.1)
 |[],x,h=>by cases h
 |(a,b)::kvs,x,h=>by
  by_cases e:a=F3 x
  ·rw[e];exact aV
  ·unfold isDone at h;rw[ew e]at h
   exact a7 _ (Ca h)
theorem IH{α:Type}{a b:am α}(c:a.Nodup)(d:b.Nodup)(h:∀x,x∈a ↔ x∈b):a.Perm b:=(Vk c d).mpr h
theorem MP{l:am Gv}(h:l.Nodup):(l.map (F3:Gv->Key)).Nodup:=by
 induction l with
 |nil=>exact fE
 |cons x l a =>
  rw[dM]at h;rw[bU,dM];refine⟨λz=>?_,a h.2⟩;obtain⟨y,b,e⟩:=aY.mp z;exact h.1 (gH e ▸ b)
theorem kQ.perm(h:kQ Qb kvs)(ok:jH Qb L)(all:∀p∈Qb,isDone kvs p.1=true):(kvs.map (·.1)).Perm ((Qb.map (·.1)).map F3):=by
 refine IH h.1 (MP ok.nd) λx=>⟨λa=>?_,λa=>?_⟩
 ·obtain⟨p,b,rfl⟩:=h.2 x a
  exact aY.mpr ⟨p.1,aY.mpr ⟨p,b,rfl⟩,rfl⟩
 ·obtain⟨y,c,rfl⟩:=aY.mp a
  obtain⟨p,b,rfl⟩:=aY.mp c;exact Ca (all p b)
structure Ec(H:Hp)(Qb:List (Gv×List Gv))(L:Gv->List Gv)(t d:Up)(m:Nat)(σ:St)(Y:Hp)(kvs:List (Key×V))(rest:List (Gv×List Gv))(wv:List V)(wa:Up):Prop where
 st:∃v3 v4 v5:Option V,σ=[ih (.ref t),ih (.ref d),ih (.ref wa),v3,v4,v5]
 mm:m=rest.length
 hd:Y d=ih (.dK kvs)
 hw:Y wa=ih (.lst wv)
 fv:cK Y wv rest
 sub:∀p∈rest,p∈Qb
 all:∀p∈Qb,isDone kvs p.1=true\/p∈rest
 ln:∀x,isDone kvs x=true->gD Y kvs L x
 same:aB H Y
 lim:kvs.length+rest.length<=8
 ky:kQ Qb kvs
inductive qe(vs:List V)(H:Hp)(Q:VK)(E:XK):Prop
 |mk{t:Up}{o:Ye}{ws:List V}{Qb:List (Gv×List Gv)}{L:Gv->List Gv}(_:vs=[.ref t])(_:H t=ih (.bT o (.tup ws)))(_:cK H ws Qb)(_:jH Qb L)(_:∀d kvs H',H d=none->aB H H'->H' d=ih (.dK kvs)->(∀p∈Qb,gD H' kvs L p.1)->(kvs.map (·.1)).Perm ((Qb.map (·.1)).map F3)->Q (.ref d) H'):qe vs H Q E
noncomputable abbrev vV:List Gv:=["family","lines","waiting","ready","kind","parents"]
theorem kX:bp vV ["family"] (aH me):=bw
noncomputable abbrev Ed:U7:=cw (bB me) 2
noncomputable abbrev vA:Vc:=ft (cw (ni Ed) 0)
abbrev O9:Vc:=fu (Dp vA)
noncomputable abbrev O':Vc:=ft (cw (ni Ed) 3)
theorem DE:bY vV (aH me) ["pair","lines"] [none,ih 1] (cI vA):=c8
theorem NI:bY ["pair","lines"] (relabel (cI vA) env) ["parent","lines"] [none,ih 1] (cI O9):=nest rfl (by decide +kernel) (by decide +kernel) rfl (by decide +kernel) (by decide +kernel)
theorem NJ:(["parent","lines"]:am Gv).Nodup:=by decide +kernel
theorem DF:bY vV (aH me) ["pair","lines"] [none,ih 1] (cI O'):=c8
theorem KC{fF:Up}{zp:Xt}(F:aQ K "lines_of" "lines_of" me f fd)(B:dW mg)(zw:bV P w K mg base aI 4 fF zp ["lines","kind","parents"] qY "line_from") :
  aT P w K mg base aI 5 f fd ["family"] qe:=by
 refine F.bG kX λQa A outer s H vs Q E xm h=>?_
 ·obtain @⟨t,o,ws,Qb,L,rfl,xx,yo,ok,q⟩:=h
  have yx:=xm.units;have yg:=eQ yx;intro X;refine⟨_,ax (g9 (i:=1) kX.nd rfl (Yg rfl) ny)
   (ax (ba 2 kX.nd (dY kb rfl B.list boot_list (aa (pv 0) ai)))
   (ax (nu eL (kx (pv 2) (λ_=>rfl))
    (ax (m5 rfl DE kX.nd (i:=3) rfl rfl (dt (pv 2)) (λs H fp=>⟨br 0 DE.nd,
      h9 (gP (cu (HU K rfl rfl) rfl B.all boot_all (aa (dB rfl NI (BO K rfl (aS (jw K rfl) (pv 0) aw)) (λs H fp=>⟨br 0 NJ,eh,Ml (jE yg (pv 0) (pv 1))⟩)) ai))),
      pv 0⟩))
    (ax (bE (g8 (kx (pv 3) (λ_=>rfl))) (aF (a9 (pv 1))) bZ)
    (ax (fk eL rfl (dt (pv 3)) (iU rfl (dq (br 4 kX.nd) (dq (br 5 kX.nd) gM)))
     (aF (gO yg (pv 1) (pv 4) (bA zw xm (aa (pv 1) (aa (pv 4) (aa (pv 5) ai)))) rfl)))
    (aF (m5 rfl DF kX.nd (i:=2) rfl rfl (dt (pv 2)) (λs H fp=>⟨br 0 DF.nd,
      h9 (g7 (Bc yg (aS (jw K rfl) (pv 0) aw) (pv 1))),pv 0⟩)))))))
   (aF (a9 (pv 1))))),?_⟩
  intro d xj;have ym:=aK (o:=.dK []) xj;refine af rfl ⟨t,ws,rfl,.inr (.inl (.inr ⟨o,ym _ _ xx⟩)),λG xk=>?_⟩;have zm:=ym.trans (aK (o:=.lst ws) xk);have xq:d≠G:=aA ah xk;refine⟨λm σ Y=>∃kvs rest v G,Ec H Qb L t d m σ Y kvs rest v G,⟨_,[],Qb,ws,G,⟨none,none,none,rfl⟩,rfl,by rw[ag xq];exact ah,ah,yo.same zm,λ_ h=>h,λ_ h=>.inr h,λx h=>(by cases h),zm,by have:=ok.a5;rw[iF];omega,⟨fE,λ_ h=>(by cases h)⟩⟩,?_⟩
  rintro m σ Y ⟨kvs,rest,v,G,R⟩;obtain⟨xA,yc,zc,rfl⟩:=R.st;have zb:=R.fv.length;refine af rfl ⟨_,.inl ⟨_,au.of R.hw,rfl⟩,?_⟩;refine cA (λxd=>?_) (λxd=>?_)
  ·refine⟨λyq H'=>∃xn,xn<m /\∃kvs rest v G,Ec H Qb L t d xn yq H' kvs rest v G,λ_ _ z=>z,?_⟩
   refine af rfl ⟨G,rfl,⟨_,au.of R.hw⟩,λzf zg=>?_⟩;have zq:∀{b:Up}{u:HO},H b=ih u->b≠d:=λe=>aA e xj;have xr:d≠zf:=aA R.hd zg;refine eW (xs:=v) (λi ys J N=>∃W:a2 V,J=[W,bd d]/\N zf=ce ys/\aB Y N/\cK N ys (fj (isDone kvs) (rest.take i))) ⟨none,rfl,ah,aK zg,.nil⟩ (λi ys J N ab=>by obtain⟨_,_,z1,z2,_⟩:=ab;exact ⟨z1,au.of (z2 _ _ R.hw)⟩) ?_ ?_
   ·rintro i x ys J N g ⟨W,rfl,C,D,O⟩
    have za:i<v.length:=(bR.mp g).1;obtain⟨p,n,a,b,rfl,xb,j⟩:=l4 R.fv g;have tk:rest.take (i+1)=rest.take i++[p]:=by rw[dX,n];rfl
    have yd:=R.sub p (di n);have yz:p.2.length<=20:=(ok.line p yd).1.short p.2 (eV _ aV);have xh:=D _ _ xb;have zd:=D _ _ j;refine af rfl (bf xh (show cB [V.str p.1,V.ref b] ((1:Nat):Int)=ih (.ref b) from cF rfl) ?_);refine⟨b,rfl,⟨_,aZ.of zd⟩,λc yn=>Kz zd (D _ _ R.hd) yn (by omega) ?_⟩
    have S:=aK (o:=.lst ((p.2.map (isDone kvs)).map V.bl)) yn;refine⟨c,_,rfl,au.of ah,_,rfl,?_⟩;refine cA (λyh=>?_) (λyh=>?_)
    ·refine af rfl ⟨S _ _ C,?_,cw_next za ⟨_,rfl,ah,λb o j=>by rw[ag (aA j zg)];exact S _ _ (D b o j),?_⟩⟩
     ·have h1:=O.length
      have h2:(fj (isDone kvs) (rest.take i)).length<=(rest.take i).length:=gm _ _;have C:=R.lim;rw[cz]at h2;rw[aX];omega
     ·have e1:fj (isDone kvs) (rest.take (i+1))=fj (isDone kvs) (rest.take i)++[p]:=by
       rw[tk];unfold fj;rw[f7,mZ (by exact yh)];rfl
      rw[e1];refine cK.append (O.keep λb xs j=>?_) ?_ ?_ (b:=b)
      ·rw[ag (ar j C)];exact S _ _ j
      ·rw[ag (ar xh C)];exact S _ _ xh
      ·rw[ag (ar zd C)];exact S _ _ zd
    ·refine cw_next za (af rfl ⟨S _ _ C,D.trans S,?_⟩)
     have e1:fj (isDone kvs) (rest.take (i+1))=fj (isDone kvs) (rest.take i):=by
      rw[tk];unfold fj;rw[f7,o1 (by exact yh)];simp
     rw[e1];exact O.same S
   ·rintro xg J N ⟨W,rfl,C,D,O⟩
    rw[zb,cM]at O;have zh:=O.length;have xc:=D _ _ R.hd;have yk:=D _ _ R.hw;have yr:cK N v rest:=R.fv.same D;have zo:rest ≠ []:=λz=>by
     rw[z]at zb;have:v=[]:=mW zb;rw[this]at xd;cases xd
    obtain⟨zx,zr,xp⟩:=Ky ok R.sub R.all zo;have xe:zx∈fj (isDone kvs) rest:=Bu.mpr ⟨zr,xp⟩;generalize ye:fj (isDone kvs) rest=ya at O zh xe;have yp:(!xg.isEmpty)=true:=by
     cases xg with
     |nil =>
      have:ya=[]:=mW zh.symm;rw[this]at xe;cases xe
     |cons _ _=>rfl
    refine af rfl ⟨_,.inl ⟨_,au.of C,rfl⟩,?_⟩;rw[yp];refine⟨_,rfl,zf,rfl,⟨_,au.of C⟩,jv (xs:=xg) (λi σ M=>∃(l:am (Key×V)) (yc zc:a2 V),σ=[bd t,bd d,bd G,bd zf,yc,zc]/\M d=cr l/\l.length<=kvs.length+i /\
     (∀b u,b≠d->N b=ih u->M b=ih u)/\(∀x,isDone l x=true->gD M l L x)/\(∀x,isDone kvs x=true->isDone l x=true)/\(∀p∈ya.take i,isDone l p.1=true)/\kQ Qb l)
     ⟨kvs,yc,zc,rfl,xc,aU _,λ_ _ _ e=>e,λx g=>(R.ln x g).same D,λ_ h=>h,λp n=>(by cases n),R.ky⟩ (λi σ M _ ab=>by obtain⟨_,_,_,_,_,_,z,_⟩:=ab;exact au.of (z _ _ (aP xr) C)) ?_ ?_⟩
    ·rintro i x σ M g ⟨l,yc,zc,rfl,T,xt,U,ze,xf,yf,xi⟩
     have za:i<xg.length:=(bR.mp g).1;obtain⟨p,n,a,b,rfl,xb,j⟩:=l4 O g;have tk:ya.take (i+1)=ya.take i++[p]:=by rw[dX,n];rfl
     have yt:p∈fj (isDone kvs) rest:=by rw[ye];exact di n
     obtain⟨yd,zt⟩:=Bu.mp yt;obtain⟨xu,yA,yu,xy,zu⟩:=ok.line p (R.sub p yd);have xv:=U _ _ (ar xb xc) xb
     have yv:=U _ _ (ar j xc) j
     refine⟨a,_,rfl,aZ.of xv,rfl,_,_,rfl,_,_,rfl,rfl,?_⟩;refine ek rfl rfl rfl (qY.mk rfl T yv (λx g=>ze x (xf x (zt x g))) xu yu zu λyj xa r I=>?_);refine a4 rfl rfl ⟨d,_,rfl,eP.k (k:=F3 p.1) (r _ _ T) ?_,?_⟩
     ·have h1:=R.lim
      have h2:ya.length<=rest.length:=by rw[<-ye];exact gm _ _
      rw[aX];omega
     ·have yy:yj≠d:=ar I (r _ _ T)
      refine⟨_,_,_,rfl,ah,?_,λb u zn e=>?_,λx g=>?_,λx g=>?_,λy xo=>?_,xi.put (R.sub p yd)⟩
      ·have:=lQ l (F3 p.1) (V.ref yj);omega
      ·rw[ag zn];exact r _ _ (U b u zn e)
      ·unfold gD
       rw[iN]
       by_cases e:x=p.1
       ·subst e
        refine⟨yj,by rw[ay rfl],?_⟩
        rw[ag yy,xy];exact I
       ·have e2 : ¬ ((F3 x:Key)=F3 p.1):=λz=>e (gH z)
        have zv:isDone l x=true:=by unfold isDone at g⊢;rw[iN,aq e2]at g;exact g
        obtain⟨zy,xz,zk⟩:=ze x zv;refine⟨zy,by rw[aq e2];exact xz,?_⟩
        rw[ag (ar zk T)];exact r _ _ zk
      ·unfold isDone;rw[iN]
       split
       ·rfl
       ·exact xf x g
      ·unfold isDone;rw[iN]
       split
       ·rfl
       ·rename_i zj
        rw[tk]at xo;rcases cj.mp xo with z|z
        ·exact yf _ z
        ·have:y=p:=by simpa using z
         exact absurd (by rw[this]) zj
    ·rintro σ M ⟨l,yc,zc,rfl,T,xt,U,ze,xf,yf,xi⟩
     rw[zh,cM]at yf;have xw:cK M v rest:=yr.keep λb xs e=>U _ _ (ar e xc) e
     have xl:=U _ _ (ar yk xc) yk
     have yw:aB H M:=λb u e=>U b u (zq e) (D _ _ (R.same b u e));refine af rfl ⟨G,rfl,⟨_,au.of xl⟩,λwb yl=>?_⟩;refine eW (xs:=v) (λi ys J xa=>∃W:a2 V,J=[W,bd d]/\xa wb=ce ys/\aB M xa/\cK xa ys ((rest.take i).filter λp=>!isDone l p.1)) ⟨none,rfl,ah,aK yl,.nil⟩ (λi ys J xa ab=>by obtain⟨_,_,z1,z2,_⟩:=ab;exact ⟨z1,au.of (z2 _ _ xl)⟩) ?_ ?_
     ·rintro i x ys J xa g ⟨W,rfl,I,r,yb⟩
      have za:i<v.length:=(bR.mp g).1;obtain⟨p,n,a,b,rfl,xb,j⟩:=l4 xw g;have tk:rest.take (i+1)=rest.take i++[p]:=by rw[dX,n];rfl
      have yi:=r _ _ xb;have zl:=r _ _ j;refine af rfl (bf yi (show cB [V.str p.1,V.ref b] ((0:Nat):Int)=ih (.str p.1) from cF rfl) ?_);refine af rfl ⟨d,_,rfl,cm.k (k:=F3 p.1) (r _ _ T),_,rfl,?_⟩;refine cA (λzi=>?_) (λzi=>?_)
      ·refine af rfl ⟨I,?_,cw_next za ⟨_,rfl,ah,λb o j=>by rw[ag (aA j yl)];exact r b o j,?_⟩⟩
       ·have h1:=yb.length
        have h2:=gm (λp:Gv×List Gv=>!isDone l p.1) (rest.take i);have C:=R.lim;rw[cz]at h2;rw[aX];omega
       ·rw[tk,f7,mZ (by exact zi)]
        refine cK.append (yb.keep λb xs j=>?_) ?_ ?_ (b:=b)
        ·rw[ag (ar j I)];exact j
        ·rw[ag (ar yi I)];exact yi
        ·rw[ag (ar zl I)];exact zl
      ·refine cw_next za (af rfl ⟨I,r,?_⟩)
       rw[tk,f7,o1 (by exact zi),oZ,ee]
       exact yb
     ·rintro ys J xa ⟨W,rfl,I,r,yb⟩
      rw[zb,cM]at yb;have less:=Jv (dn:=isDone kvs) (rV:=isDone l) (rest:=rest) (by rw[ye];exact yf)
      rw[ye]at less;have zz:0<ya.length:=Gk xe;refine⟨_,by rw[R.mm];omega,l,rest.filter λp=>!isDone l p.1,ys,wb,⟨_,_,_,rfl⟩,rfl,r _ _ T,I,yb,λp n=>R.sub p (er.mp n).1,λp n=>?_,λx g=>(ze x g).same r,yw.trans r,?_,?_⟩
      ·cases e:isDone l p.1 with
       |true=>exact .inl rfl
       |false =>
        refine .inr ?_;rcases R.all p n with z|z
        ·rw[xf _ z]at e;cases e
        ·exact er.mpr ⟨z,by rw[e];rfl⟩
      ·have h1:=R.lim
       omega
      ·exact xi
  ·have zj:rest=[]:=by
    cases v with
    |nil=>exact mW zb.symm
    |cons _ _=>exact absurd rfl xd
   have dn:∀p∈Qb,isDone kvs p.1=true:=λp n=>by
    rcases R.all p n with z|z
    ·exact z
    ·rw[zj]at z;cases z
   exact af rfl (q d kvs Y xj R.same R.hd (λp n=>R.ln p.1 (dn p n)) (R.ky.perm ok dn))
def ea(H:Hp)(kvs:List (Key×V))(L:Gv->List Gv)(x:Gv):Prop:= ∃a,bo kvs (F3 x)=ih (.ref a)/\H a=ih (.lst ((L x).map V.str))
theorem ea.same(h:ea H kvs L x)(s:aB H H'):ea H' kvs L x:=let ⟨a,e,q⟩:=h;⟨a,e,s _ _ q⟩
theorem LU(h:∀x∈ps,ea H kvs L x):∃g:Gv->V,(∀x∈ps,bo kvs (F3 x)=ih (g x))/\f9 (λ_=>True) H (ps.map g) (ps.map L):=by
 refine⟨λx=>(bo kvs (F3 x)).getD .aO,λx b=>?_,?_⟩
 ·obtain⟨a,e,_⟩:=h x b;show _=ih ((bo kvs (F3 x)).getD V.aO);rw[e];rfl
 ·induction ps with
  |nil=>exact .nil
  |cons x ps c =>
   obtain⟨a,e,q⟩:=h x aV;exact .cons ⟨a,by show(bo kvs (F3 x)).getD V.aO=_;rw[e];rfl,trivial,q⟩ (c λy d=>h y (a7 _ d))
theorem Bw:∀{m:Nat}{rows:am (List Gv)}{o:am Gv},cb m rows=ih o->o.length<=m
 |0,rows,o,h=>by
  unfold cb at h
  first
   |(cases h;exact aU _)
   |(split at h <;> first|(cases h;exact aU _)|cases h)
 |m+1,rows,o,h=>by
  unfold cb at h;split at h
  ·cases e:eM rows with
   |none=>rw[e]at h;cases h
   |some n =>
    rw[e]at h;obtain⟨o',h',rfl⟩:=gi.mp h;have:=Bw h';rw[cS];omega
  ·cases h;exact bx _
inductive oo(vs:List V)(H:Hp)(Q:VK)(E:XK):Prop
 |mk{d oa:Up}{kvs:List (Key×V)}{L:Gv->List Gv}{k:Gv}{own:List Gv}(_:vs=[.ref d,.str k,.ref oa])(_:H d=ih (.dK kvs))(_:H oa=ih (.lst (own.map V.str)))(_:(∀x∈own,ea H kvs L x))(_:Small (rowsOf L own))(_:(∀r∈rowsOf L own,r.Nodup))(_:(cb (total (rowsOf L own)) (rowsOf L own)=none ->∀H',aB H H'->Q .aO H'))(_:(∀o,cb (total (rowsOf L own)) (rowsOf L own)=ih o ->∀p H',H p=none->aB H H'->H' p=ih (.lst ((k::o).map V.str))->Q (.ref p) H')):oo vs H Q E
noncomputable abbrev ET:List Gv:=["_law_lines","_law_kind","_law_own","_law_found"]
theorem Ee:bp ET ["_law_lines","_law_kind","_law_own"] (aH nV):=bw
abbrev QR:Vc:=Ea (fu (ft (cw (bB nV) 0)))
theorem Ef:bY ET (aH nV) ["_law_one","_law_lines"] [none,ih 0] (cI QR):=c8
theorem NK{l:Xt}(F:aQ K "_law_line" "_law_line" nV f fd)(B:dW mg)(y:aQ K "_law_merged" "_law_merged" ia fM l)(T:Binds K l ["_law_rows"] [])(U:mg "_law_merged" = ih (.ref fM)) :
  aT P w K mg base aI 2 f fd ["_law_lines","_law_kind","_law_own"] oo:=by
 have W:aT P w K mg base aI 1 fM l ["_law_rows"] qX:=NG y B;refine F.bG Ee λQa A outer s H vs Q E z h=>?_
 ·obtain @⟨d,C,kvs,L,k,own,rfl,Y,n,xa,i,R,qn,ya⟩:=h
  have za:=z.units;have S:=eQ za;intro X;refine⟨_,ax (ba 3 Ee.nd (fJ W z rfl U y.kp T .nil c3 (aa (bO qq (dB rfl Ef (dt (pv 2)) (λs H fp=>⟨br 0 Ef.nd,eh,eY S (pv 1) (pv 0) (λ_ _=>rfl)⟩)) (eZ (aa (dY kb rfl B.list boot_list (aa (pv 2) ai)) ai))) ai)))
   (ax (bE (bJ iV (pv 3) ez (bS _)) (aF (a9 ez)) bZ)
   (aF (a9 (bO qq (eZ (aa (pv 1) ai)) (pv 3))))),?_⟩
  obtain⟨g,xb,yb⟩:=LU xa;have zd:own.length<=20:=i.short own (eV _ aV);refine af rfl ⟨C,rfl,⟨_,au.of n⟩,λc D=>Ju n Y xb D (by omega) ?_⟩
  have G:=aK (o:=.lst (own.map g)) D;refine af rfl ⟨C,_,rfl,.inl (au.of (G _ _ n)),λb t=>?_⟩;have zb:=G.trans (aK (o:=.lst (own.map V.str)) t);refine⟨eo,λq m=>?_⟩;have xc:=zb.trans (aK (o:=.lst [V.ref b]) m);have I:upd (upd H c (.lst (own.map g))) b (.lst (own.map V.str)) c=ce (own.map g):=by rw[ag (aA ah t)];exact ah
  refine⟨c,q,_,_,rfl,rfl,by rw[ag (aA I m)];exact I,ah,by rw[aE,aX];show _+1<=_;omega,λyc u=>?_⟩
  have j:=xc.trans (aK (o:=.lst (own.map g++[V.ref b])) u);have zc:upd (upd (upd (upd H c (.lst (own.map g))) b (.lst (own.map V.str))) q (.lst [V.ref b])) yc (.lst (own.map g++[V.ref b])) b=ce (own.map V.str):=by
   have J:upd (upd (upd H c (.lst (own.map g))) b (.lst (own.map V.str))) q (.lst [V.ref b]) b=ce (own.map V.str):=by rw[ag (aA ah m)];exact ah
   rw[ag (aA J u)];exact J
  refine qX.mk rfl (rows:=rowsOf L own) ah (sC (js yb λa xs _ e=>⟨trivial,j _ _ e⟩) trivial zc) i R (λe M r=>?_) (λo e p M ye r N=>?_)
  ·exact af rfl ⟨rfl,_,rfl,qn e M (j.trans r)⟩
  ·refine af rfl ⟨rfl,_,rfl,?_⟩
   refine af rfl ⟨eo,λxd v=>?_⟩;have O:=r.trans (aK (o:=.lst [V.str k]) v);have ze:=(Bw e);have xf:=pb i.short;have xe:=i.a5;refine af rfl ⟨xd,p,_,_,rfl,rfl,ah,by rw[ag (aA N v)];exact N,by rw[aE,aX];show 1+_<=_;omega,λyd x=>?_⟩
   exact ya o e yd _ (j.free (O.free x)) (j.trans (O.trans (aK x))) ah
theorem AM{α:Type}:∀(l:am α) (k:Nat) (h:k<l.length),(l[k]::l.eraseIdx k).Perm l
 |[],k,h=>absurd h (oU _)
 |x::l,0,_=>j9 _
 |x::l,k+1,h=>(Yr _ _ _).trans ((AM l k (w1 h)).cons x)
theorem Bx{α β:Type}(f:α->β):∀(l:am α) (k:Nat),(l.map f).eraseIdx k=(l.eraseIdx k).map f
 |[],_=>rfl
 |_::_,0=>rfl
 |x::l,k+1=>c6 (f x :: ·) (Bx f l k)
theorem boot_min:Vu "min" = ih (.builtin "min"):=by decide +kernel
theorem NL{d:Int}(h0:0<=d)(h1:d<7):∃v:Int,cB [V.int 0,.int 1,.int 1,.int 2,.int 2,.int 3,.int 4] d=ih (.int v)/\0<=v/\v<=4:=by
 obtain⟨n,rfl⟩:=m1 h0
 match n,(show n<7 by omega) with
 |0,_=>exact⟨0,cF rfl,by decide,by decide⟩
 |1,_=>exact⟨1,cF rfl,by decide,by decide⟩
 |2,_=>exact⟨1,cF rfl,by decide,by decide⟩
 |3,_=>exact⟨2,cF rfl,by decide,by decide⟩
 |4,_=>exact⟨2,cF rfl,by decide,by decide⟩
 |5,_=>exact⟨3,cF rfl,by decide,by decide⟩
 |6,_=>exact⟨4,cF rfl,by decide,by decide⟩
theorem two_at{d a b:Int}(h0:0<=d)(h1:d<2)(c:0<=a/\a<m)(e:0<=b/\b<m):∃v:Int,cB [V.int a,.int b] d=ih (.int v)/\0<=v/\v<m:=by
 obtain⟨n,rfl⟩:=m1 h0
 match n,(show n<2 by omega) with
 |0,_=>exact⟨a,cF rfl,c⟩
 |1,_=>exact⟨b,cF rfl,e⟩
inductive qF(vs:List V)(H:Hp)(Q:VK)(E:XK):Prop
 |mk{p n:Up}{ys:List Gv}(_:vs=[.ref p,.ref n])(_:ej p H)(_:p≠n)(_:H n=ih (.lst (ys.map V.str)))(_:ys.length<=20)(_:∀(l:Up) (own rest:List Gv) (H':Hp),H l=none->(own++rest).Perm ys->own.length<=4->bL p H H'->H' l=ih (.lst (own.map V.str))->Q (.ref l) H'):qF vs H Q E
noncomputable abbrev Pa:List Gv:=["_law_pot_here","_law_made","_law_left","_law_own","_law_turn","_law_at"]
theorem oe:bp Pa ["_law_pot_here","_law_made"] (aH s7):=bw
theorem MQ{W:Xt}(F:aQ K "_law_parents" "_law_parents" s7 f fd)(B:dW mg)(D:aQ K "_law_digit" "_law_digit" nU fD W)(xb:Binds K W ["_law_pot_here","_law_many"] [])(yb:mg "_law_digit" = ih (.ref fD)) :
  aT P w K mg base aI 2 f fd ["_law_pot_here","_law_made"] qF:=by
 have zb:aT P w K mg base aI 1 fD W ["_law_pot_here","_law_many"] iS:=tG D;refine F.bG oe λQa A outer s H vs Q E yh h=>?_
 ·obtain @⟨p,n,ys,rfl,xc,xk,zh,zj,q⟩:=h
  have xa:a' 1 _:=yh;intro X;refine⟨_,ax (ba 2 oe.nd (dY kb rfl B.list boot_list (aa (pv 1) ai)))
   (ax (ba 3 oe.nd (eZ ai))
   (ax (fk eL rfl (iK rfl B.range (aa (cu (IT rfl) rfl B.min boot_min (aa (cu h7 rfl B.len gK (aa (pv 2) ai))
     (aa (aS ck (eZ (aa aw (aa aw (aa aw (aa aw (aa aw (aa aw (aa aw ai)))))))) (fJ zb xa rfl yb D.kp xb .nil c3 (aa (pv 0) (aa aw ai)))) ai))) ai)) (br 4 oe.nd)
    (ax (ba 5 oe.nd (aS ck (eZ (aa (fJ zb xa rfl yb D.kp xb .nil c3 (aa (pv 0) (aa (cu h7 rfl B.len gK (aa (pv 2) ai)) ai)))
      (aa (bO jD (cu h7 rfl B.len gK (aa (pv 2) ai)) aw) ai))) (fJ zb xa rfl yb D.kp xb .nil c3 (aa (pv 0) (aa aw ai)))))
    (aF (ey (gq h6 oX oY ku (pv 3)
     (aa (gq h6 GV GW BK (pv 2) (aa (pv 5) ai)) ai))))))
   (aF (a9 (pv 3))))),?_⟩
  refine af rfl ⟨n,_,rfl,.inl (au.of zh),λg u=>?_⟩;refine⟨bx _,λj ya=>?_⟩;have x:p≠g:=xc.ne u;have za:g≠j:=aA ah ya;have S:H j=none:=(aK u).free ya;have y:p≠j:=xc.ne S;have yc:bL p H (upd (upd H g (.lst (ys.map V.str))) j (.lst [])):=((bL.refl xc).new u).new ya;have t:(upd (upd H g (.lst (ys.map V.str))) j (.lst [])) g=ce (ys.map V.str):=by rw[ag za];exact ah
  have T:(upd (upd H g (.lst (ys.map V.str))) j (.lst [])) j=ce []:=ah;generalize upd (upd H g (.lst (ys.map V.str))) j (.lst [])=xl at yc t T⊢;refine af rfl ⟨g,_,rfl,.inl (au.of t),?_⟩;refine⟨by show 7<=Us;rw[aX];decide,λc G=>?_⟩
  have Pc:=yc.new (o:=.lst [V.int 0,.int 1,.int 1,.int 2,.int 2,.int 3,.int 4]) G;refine af rfl (eX (p:=p) (m:=7) Pc.ok (by decide) (by decide) λd Y zc I z=>?_)
  have xh:p≠c:=yc.ok.ne G;obtain⟨v,hv,xf,J⟩:=NL zc I;refine fe (z.kp _ _ ah (aP xh)) hv ?_;have xi:=Pc.trans z;have l:Y g=ce (ys.map V.str):=z.kp _ _ (by rw[ag (aA t G)];exact t) (aP x)
  have r:Y j=ce []:=z.kp _ _ (by rw[ag (aA T G)];exact T) (aP y)
  refine⟨_,v,rfl,?_⟩;rw[aE];obtain⟨N,yi,yk,zk⟩:∃N:Nat,(if v<(ys.length:Int) then v else (ys.length:Int))=N/\N<=4/\N<=ys.length:=by
   split
   ·exact⟨v.toNat,by omega,by omega,by omega⟩
   ·exact⟨ys.length,rfl,by omega,aU _⟩
  rw[yi];refine⟨(N:Int),rfl,by omega,by omega,lR (λi σ Y=>∃(zs k:am Gv) (J xd:a2 V),σ=[bd p,bd n,bd g,bd j,J,xd]/\zs.length=i/\(zs++k).Perm ys/\bL p H Y/\Y g=ce (k.map V.str)/\Y j=ce (zs.map V.str))
   ⟨[],ys,none,none,rfl,rfl,j9 _,xi,l,r⟩ ?_ ?_⟩
  ·rintro i σ Y hi ⟨zs,k,J,xd,rfl,yf,L,M,l,r⟩
   have xg:=L.length_eq;rw[cL]at xg;refine a4 rfl rfl ⟨g,_,rfl,.inl (au.of l),?_⟩;refine eX (p:=p) M.ok (by rw[aE];omega) (by rw[aE];omega) λd H2 zc I O=>?_
   have U:=O.kp _ _ l (aP x);have zd:=O.kp _ _ r (aP y);rw[aE]at I;refine af rfl ⟨g,_,rfl,.inl (au.of U),_,1,rfl,rfl,?_⟩;rw[aE];refine⟨bF,λzi C=>?_⟩;have ze:=(M.trans O).new (o:=.lst [V.int d,.int ((k.length:Int) - 1)]) C;have yg:p≠zi:=O.ok.ne C;refine af rfl (eX (p:=p) (m:=2) ze.ok (by decide) (by decide) λe yd e0 e1 R=>?_)
   obtain⟨v,hv,xf,xj⟩:=two_at (a:=d) (b:=(k.length:Int) - 1) (m:=(k.length:Int)) e0 e1 ⟨zc,I⟩ ⟨by omega,by omega⟩
   have xe:yd g=ce (k.map V.str):=R.kp _ _ (by rw[ag (aA U C)];exact U) (aP x)
   have ye:yd j=ce (zs.map V.str):=R.kp _ _ (by rw[ag (aA zd C)];exact zd) (aP y)
   have yj:=ze.trans R;refine fe (R.kp _ _ ah (aP yg)) hv ?_;have zf:v.toNat<k.length:=by omega
   refine af rfl ⟨.inl ⟨rfl,_,au.of ye⟩,_,rfl,.inl ⟨rfl,_,au.of xe⟩,_,rfl,?_⟩;refine⟨g,_,v,v.toNat,.str k[v.toNat],rfl,rfl,xe,by omega,by omega,wx xf (by rw[aE];exact xj),by rw[dQ,bz zf];rfl,?_⟩
   have zg:(upd yd g (.lst ((k.map V.str).eraseIdx v.toNat))) j=ce (zs.map V.str):=by rw[ag (aP za)];exact ye
   refine⟨j,_,_,rfl,rfl,zg,by rw[aE,aX];omega,?_⟩
   refine⟨zs++[k[v.toNat]],k.eraseIdx v.toNat,_,_,rfl,by rw[cL];simp[yf],?_,(yj.write u x).write S y,?_,?_⟩
   ·refine abP ?_ L
    rw[lD];exact U0 zs (AM k _ zf)
   ·rw[ag za,ah,Bx]
   ·rw[ah,bc];rfl
  ·rintro σ Y ⟨zs,k,J,xd,rfl,yf,L,M,l,r⟩
   exact af rfl (q j zs k Y S L (by omega) M r)
end d9
namespace d9
open L2 HT
def kept(rows:List (List Gv))(o:List Gv):Bool:=rows.all λr=>decide ((o.filter λn=>decide (n∈r))=r)
theorem sS{all:am (List Gv)}{n:Gv}:∀{rest:am (List Gv)},g5 all rest=ih n->c7 0 all n=none /\∃(i:Nat) (r:am Gv),rest[i]?=ih r/\r.head?=ih n /\∀(j:Nat) (q:am Gv) (y:Gv),rest[j]?=ih q->q.head?=ih y->c7 0 all y=none->i<=j
 |[],h=>by cases h
 |[]::rest,h=>by
  obtain⟨h1,i,r,e1,e2,e3⟩:=sS (rest:=rest) h;refine⟨h1,i+1,r,by simpa using e1,e2,λj q y a b d=>?_⟩
  cases j with
  |zero =>
   obtain rfl : []=q:=by simpa using a
   simp at b
  |succ j=>have:=e3 j q y (by simpa using a) b d;omega
 |(x::t)::rest,h=>by
  have h:(if (c7 0 all x).isNone then ih x else g5 all rest)=ih n:=h
  by_cases c:(c7 0 all x).isNone=true
  ·rw[ay c]at h
   cases h
   exact⟨by simpa using c,0,_,rfl,rfl,λ_ _ _ _ _ _=>bx _⟩
  ·rw[aq c]at h
   obtain⟨h1,i,r,e1,e2,e3⟩:=sS (rest:=rest) h;refine⟨h1,i+1,r,by simpa using e1,e2,λj q y a b d=>?_⟩
   cases j with
   |zero =>
    obtain rfl:x::t=q:=by simpa using a
    obtain rfl:x=y:=by simpa using b
    exact absurd (by rw[d];rfl) c
   |succ j=>have:=e3 j q y (by simpa using a) b d;omega
def LV(rest:List (List Gv))(q:List Gv):Prop:=q.Nodup /\∀x,x∈q ↔ ∃r∈rest,x∈r
theorem tH{q:am Gv}:kept rest q=true ↔ ∀r∈rest,(q.filter λn=>decide (n∈r))=r:=by
 unfold kept;rw[mV];simp
theorem As:(∃r∈L2.without n rest,x∈r) ↔ x≠n /\∃r∈rest,x∈r:=by
 constructor
 ·rintro⟨r,c,a⟩
  obtain⟨q,b,rfl⟩:=aY.mp c;have:=er.mp a;exact⟨by simpa using this.2,q,b,this.1⟩
 ·rintro⟨h,q,b,a⟩
  exact⟨_,aY.mpr ⟨q,b,rfl⟩,er.mpr ⟨a,by simpa using h⟩⟩
theorem LW:(rest.any λr=>!r.isEmpty)=true ↔ ∃r∈rest,∃x,x∈r:=by
 rw[lG]
 constructor
 ·rintro⟨r,a,e⟩
  cases r with
  |nil=>simp at e
  |cons x t=>exact⟨_,a,x,aV⟩
 ·rintro⟨r,a,x,b⟩
  refine⟨r,a,?_⟩;cases r with
  |nil=>simp at b
  |cons y t=>rfl
theorem sound:∀(m:Nat) (rest:am (List Gv)),total rest=m->(∀r∈rest,r.Nodup) ->∀o,cb (total rest) rest=ih o->LV rest o/\kept rest o=true:=by
 intro m
 induction m using Y9 with
 |_ m u =>
  intro rest D j o b;cases d:rest.any λr=>!r.isEmpty with
  |false =>
   rw[sO d]at b;cases b
   have k:∀r∈rest,∀x,x ∉ r:=λr a x g=>by
    have:=LW.mpr ⟨r,a,x,g⟩;rw[d]at this;cases this
   refine⟨⟨fE,λx=>⟨λh=>by simp at h,λ⟨r,a,g⟩=>absurd g (k r a x)⟩⟩,tH.mpr λr a=>?_⟩
   cases r with
   |nil=>rfl
   |cons y t=>exact absurd aV (k _ a y)
  |true =>
   cases e:eM rest with
   |none=>rw[sP d e]at b;cases b
   |some n =>
    rw[sQ d e]at b;obtain⟨o',s,rfl⟩:=gi.mp b;have lt:=lM (lT e);obtain⟨⟨h1,h2⟩,q⟩:=u _ (by omega) (L2.without n rest) rfl (AK j) o' s
    rw[tH]at q;have l:n ∉ o':=λz=>((As.mp ((h2 n).mp z)).1 rfl);obtain⟨i,_⟩:=sS e;rw[nj]at i;refine⟨⟨dM.mpr ⟨l,h1⟩,λx=>?_⟩,tH.mpr λr a=>?_⟩
    ·rw[bj,h2,As]
     constructor
     ·rintro(rfl|h)
      ·exact lT e
      ·exact h.2
     ·intro h
      by_cases z:x=n
      ·exact .inl z
      ·exact .inr ⟨z,h⟩
    ·have p:=q _ (aY.mpr ⟨r,a,rfl⟩)
     have same:(o'.filter λy=>decide (y∈r))=o'.filter λy=>decide (y∈r.filter λy=>!decide (y=n)):=by
      apply List.filter_congr
      intro y c;have:y≠n:=λz=>l (z ▸ c);simp[this]
     by_cases f:n∈r
     ·have v:=i r a f
      cases r with
      |nil=>simp at f
      |cons z t =>
       obtain rfl:z=n:=by simpa using v
       have A:z ∉ t:=(dM.mp (j _ a)).1;have B:((z::t).filter λy=>!decide (y=z))=t:=by
        rw[o1 (by simp)]
        exact yZ.mpr λy c=>by
         have:y≠z:=λw=>A (w ▸ c)
         simpa using this
       rw[mZ (by simp),same,p,B]
     ·have C:(r.filter λy=>!decide (y=n))=r:=yZ.mpr λy c=>by
       have:y≠n:=λw=>f (w ▸ c)
       simpa using this
      rw[o1 (by simpa using f),same,p,C]
end d9
namespace d9
open L2 W HT
theorem len_sub{a b:am Gv}(c:a.Nodup)(h:∀x∈a,x∈b):a.length<=b.length:=MM c h
structure Fm(done:List Gv)(L Ps:Gv->List Gv):Prop where
 ps:∀x∈done,(Ps x).Nodup/\(Ps x).length<=4 /\∀y∈Ps x,y∈done
 ln:∀x∈done,∃o,cb (total (rowsOf L (Ps x))) (rowsOf L (Ps x))=ih o/\L x=x::o
 ld:∀x∈done,(L x).Nodup /\∀y∈L x,y∈done
theorem AN{own:am Gv}:r∈rowsOf L own ↔ (∃y∈own,r=L y)\/r=own:=by
 unfold rowsOf;rw[cj,aY,bX]
 constructor
 ·rintro(⟨y,h,rfl⟩|h)
  ·exact .inl ⟨y,h,rfl⟩
  ·exact .inr h
 ·rintro(⟨y,h,rfl⟩|h)
  ·exact .inl ⟨y,h,rfl⟩
  ·exact .inr h
theorem Fm.mh{done:am Gv}(F:Fm done L Ps){own:am Gv}(a:own.Nodup)(sub:∀y∈own,y∈done):∀r∈rowsOf L own,r.Nodup /\∀y∈r,y∈done:=λr b=>by
 rcases AN.mp b with⟨y,c,rfl⟩|rfl
 ·exact F.ld y (sub y c)
 ·exact⟨a,sub⟩
theorem Fm.small{done:am Gv}(F:Fm done L Ps)(c:∀x∈done,Nm x)(e:done.length<=8){own:am Gv}(b:own.Nodup)(f:own.length<=4)(sub:∀y∈own,y∈done):Small (rowsOf L own):=by
 refine⟨?_,λr a=>?_,λr a y d=>?_⟩
 ·unfold rowsOf;rw[cL,aE,mT];omega
 ·obtain⟨h1,h2⟩:=F.mh b sub r a
  have:=len_sub h1 h2;omega
 ·exact c y ((F.mh b sub r a).2 y d)
theorem Fm.order{done:am Gv}(F:Fm done L Ps){own o:am Gv}(c:own.Nodup)(sub:∀y∈own,y∈done)(d:cb (total (rowsOf L own)) (rowsOf L own)=ih o):o.Nodup/\(∀y∈o,y∈done) /\∀r∈rowsOf L own,∀y∈r,y∈o:=by
 obtain⟨⟨h1,h2⟩,_⟩:=sound _ _ rfl (λr a=>(F.mh c sub r a).1) o d;refine⟨h1,λy b=>?_,λr a y b=>(h2 y).mpr ⟨r,a,b⟩⟩;obtain⟨r,a,h⟩:=(h2 y).mp b;exact(F.mh c sub r a).2 y h
theorem II{a:Gv->List Gv}{own:am Gv}(h:∀y∈own,a y=L y):rowsOf a own=rowsOf L own:=by
 unfold rowsOf;rw[se h]
theorem Fm.add{done:am Gv}(F:Fm done L Ps){k:Gv}{own o:am Gv}(i:k ∉ done)(j:own.Nodup)(n:own.length<=4)(sub:∀y∈own,y∈done)(l:cb (total (rowsOf L own)) (rowsOf L own)=ih o) :
  Fm (done++[k]) (λx=>if x=k then k::o else L x) (λx=>if x=k then own else Ps x):=by
 have p:∀{y},y∈done->y≠k:=λh z=>i (z ▸ h);have ext:∀{ps:am Gv},(∀y∈ps,y∈done)->rowsOf (λx=>if x=k then k::o else L x) ps=rowsOf L ps:=λh=>II λy d=>aq (p (h y d));obtain⟨q,m,_⟩:=F.order j sub l;refine⟨λx f=>?_,λx f=>?_,λx f=>?_⟩
 ·by_cases e:x=k
  ·rw[ay e];exact⟨j,n,λy d=>gY _ (sub y d)⟩
  ·rw[aq e]
   obtain⟨a,b,c⟩:=F.ps x (by rcases cj.mp f with z|z;exact z;exact absurd (by simpa using z) e)
   exact⟨a,b,λy d=>gY _ (c y d)⟩
 ·by_cases e:x=k
  ·refine⟨o,?_,by rw[ay e,e]⟩
   rw[ay e,ext sub];exact l
  ·have g:x∈done:=by rcases cj.mp f with z|z;exact z;exact absurd (by simpa using z) e
   obtain⟨o',h1,h2⟩:=F.ln x g;refine⟨o',?_,by rw[aq e];exact h2⟩
   rw[aq e,ext (F.ps x g).2.2];exact h1
 ·by_cases e:x=k
  ·rw[ay e]
   refine⟨dM.mpr ⟨λz=>i (m k z),q⟩,λy d=>?_⟩;rcases bj.mp d with z|z
   ·rw[z];exact eV _ aV
   ·exact gY _ (m y z)
  ·rw[aq e]
   have g:x∈done:=by rcases cj.mp f with z|z;exact z;exact absurd (by simpa using z) e
   obtain⟨a,b⟩:=F.ld x g;exact⟨a,λy d=>gY _ (b y d)⟩
def d6(Ps:Gv->List Gv)(ks:List Gv):List (Gv×List Gv):=ks.map λx=>(x,Ps x)
theorem sT(Ps:Gv->List Gv)(ks:am Gv):(d6 Ps ks).map (·.1)=ks:=by
 unfold d6;rw[gJ];exact List.map_id' _
theorem Fm.NM(F:Fm ks L Ps)(h:ks.Nodup)(f:∀x∈ks,Nm x)(g:ks.length<=8):jH (d6 Ps ks) L:=by
 have mem:∀{p:Gv×List Gv},p∈d6 Ps ks->p.1∈ks/\p.2=Ps p.1:=λ{p} a=>by
  obtain⟨x,b,rfl⟩:=aY.mp a;exact⟨b,rfl⟩
 refine⟨by rw[sT];exact h,by unfold d6;rw[aE];exact g,λp a=>f _ (mem a).1,λp a x b=>?_,⟨λx=>(L x).length,λp a x b=>?_⟩,λp a=>?_⟩
 ·obtain⟨h1,h2⟩:=mem a
  rw[h2]at b;exact⟨(x,Ps x),aY.mpr ⟨x,(F.ps _ h1).2.2 x b,rfl⟩,rfl⟩
 ·obtain⟨h1,h2⟩:=mem a
  rw[h2]at b;obtain⟨o,d,e⟩:=F.ln _ h1;obtain⟨n1,_,c⟩:=F.ps _ h1;obtain⟨_,_,i⟩:=F.order n1 c d;have:=len_sub (F.ld x (c x b)).1 λy j=>i (L x) (AN.mpr (.inl ⟨x,b,rfl⟩)) y j;show(L x).length<(L p.1).length;rw[e,cS];omega
 ·obtain⟨h1,h2⟩:=mem a
  rw[h2];obtain⟨o,d,e⟩:=F.ln _ h1;obtain⟨n1,k,c⟩:=F.ps _ h1;obtain⟨l,m,_⟩:=F.order n1 c d;exact⟨F.small f g n1 k c,o,d,e,by have:=len_sub l m;omega⟩
theorem Jw:cb (total (rowsOf L [])) (rowsOf L [])=ih []:=rfl
theorem KG(xs:am Gv):e6 (xs.map V.str) none (ih (-1))=xs.dropLast.map V.str:=by
 unfold e6;have e1:HT.bq (xs.map V.str).length 0 none=0:=rfl;have e2:HT.bq (xs.map V.str).length (xs.map V.str).length (ih (-1))=xs.length - 1:=by
  rw[aE];unfold HT.bq;simp;omega
 rw[e1,e2,wN,r9,<-zZ,List.dropLast_eq_take]
theorem iO{xs:am Gv}(h:ej p H)(e:H a=ce (xs.map V.str)):a≠p:=by
 rintro rfl;obtain⟨x,y,e2,_⟩:=h;rw[e]at e2;have e3:xs.map V.str=[.int x,.int y]:=HO.lst.inj (cZ e2);cases xs with
 |nil=>cases e3
 |cons z t=>cases e3
theorem ea.lx(h:ea H kvs L x)(ok:ej p H)(s:bL p H H'):ea H' kvs L x:=let ⟨a,e,q⟩:=h;⟨a,e,s.kp _ _ q (iO ok q)⟩
theorem ea.write{b:am (Key×V)}{u:HO}(h:ea H kvs L x)(c:H d=cr b)(e:H'=upd H d u):ea H' kvs L x:=let ⟨a,e1,q⟩:=h;⟨a,e1,by rw[e,ag (ar q c)];exact q⟩
theorem CZ(ok:ej p H)(s:bL p H H')(e:H d=cr kvs):H' d=cr kvs:=by
 obtain⟨x,y,ep,_⟩:=ok;exact s.kp _ _ e (ar e ep)
theorem dz(h:ej p H)(s:aB H H'):bL p H H':=by
 obtain⟨x,y,e,r⟩:=h;exact⟨⟨x,y,s _ _ e,r⟩,λb o e _=>s b o e⟩
theorem C0{k:Gv}{l:am Gv}(c:H d=cr kvs)(f:H a=ce (l.map V.str))(h:x≠k->ea H kvs L x) :
  ea (upd H d (.dK (putK kvs (F3 k) (.ref a)))) (putK kvs (F3 k) (.ref a)) (λx=>if x=k then l else L x) x:=by
 unfold ea;rw[iN]
 by_cases e:x=k
 ·subst e
  refine⟨a,by rw[ay rfl],?_⟩
  rw[ag (ar f c)];show H a=ce ((if x=x then l else L x).map V.str);rw[ay rfl];exact f
 ·obtain⟨b,e1,e2⟩:=h e
  refine⟨b,by rw[aq (λz=>e (gH z))];exact e1,?_⟩
  rw[ag (ar e2 c)];show H b=ce ((if x=k then l else L x).map V.str);rw[aq e];exact e2
theorem tI{done:am Gv}{k:Gv}(h:kvs.map (·.1)=done.map F3)(c:k ∉ done):(putK kvs (F3 k) v).map (·.1)=(done++[k]).map F3:=by
 have hv:bo kvs (F3 k)=none:=by
  have:(bo kvs (F3 k)).isSome=false:=by
   rw[<-kA,FY];intro a b d;have e:a.1=F3 k:=eg d;have:a.1∈kvs.map (·.1):=aY.mpr ⟨a,b,rfl⟩;rw[h,e]at this;obtain⟨y,f,g⟩:=aY.mp this;exact c (gH g ▸ f)
  cases e:bo kvs (F3 k) with
  |none=>rfl
  |some _=>rw[e]at this;cases this
 rw[kB _ hv,bc,bc,h];rfl
noncomputable abbrev Eg:List Gv:=["_law_pot_here","_law_kinds","_law_lines","_law_parents_here","_law_kind","_law_own","_law_turn","_law_family_here"]
theorem jI:bp Eg ["_law_pot_here","_law_kinds"] (aH nC):=bw
abbrev Pb:Vc:=fu (fu (ft (cw (bB nC) 2)))
theorem cK.keyed(h:cK H vs Qb):∃kvs,kK H 1 vs kvs/\kvs.map (·.1)=(Qb.map (·.1)).map λx=>[x]:=by
 induction h with
 |nil=>exact⟨[],.nil,rfl⟩
 |@cons _ p _ _ h _ c =>
  obtain⟨a,b,e,q,r⟩:=h;obtain⟨kvs,h1,h2⟩:=c;exact⟨([p.1],[.ref b])::kvs,.cons ⟨a,e,q,rfl⟩ h1,by rw[bU,h2];rfl⟩
structure vB(p:Up)(H:Hp)(ks:List Gv)(r t d1:Up)(o:Ye)(ws:List V)(kY:List (Key×V))(L Ps:Gv->List Gv)(Qb:List (Gv×List Gv))(H':Hp):Prop where
 hr:H' r=ih (.tup [.ref t,.ref d1])
 ht:H' t=ih (.bT o (.tup ws))
 od:o.dict=none
 fv:cK H' ws Qb
 pm:Qb.Perm (d6 Ps ks)
 fm:Fm ks L Ps
 h1:H' d1=ih (.dK kY)
 k1:kY.map (·.1)=ks.map F3
 l1:∀x∈ks,ea H' kY L x
 pa:bL p H H'
 n1:H d1=none
inductive qZ(vs:List V)(H:Hp)(Q:VK)(E:XK):Prop
 |mk{p n:Up}{ks:List Gv}(_:vs=[.ref p,.ref n])(_:ej p H)(_:H n=ih (.lst (ks.map V.str)))(_:ks.Nodup)(_:(∀x∈ks,Nm x))(_:ks.length<=8)(_:∀r t d1 o ws kY L Ps Qb H',vB p H ks r t d1 o ws kY L Ps Qb H'->Q (.ref r) H'):qZ vs H Q E
theorem DG:bY Eg (aH nC) ["_law_kind","_law_parents_here"] [none,ih 3] (cI Pb):=c8
theorem NN{zm:Up}{yt:Xt}(F:aQ K "_law_family" "_law_family" nC f fd)(B:dW mg)(yC:hI mg)
  (zC:aT P w K mg base aI 2 zm yt ["_law_pot_here","_law_made"] qF) (xD:Yb K (.ref zm)=true) (yD:Binds K yt ["_law_pot_here","_law_made"] []) (zD:mg "_law_parents" = ih (.ref zm))
  (zt:aT P w K mg base aI 2 fL dL ["_law_lines","_law_kind","_law_own"] oo) (xu:Yb K (.ref fL)=true) (yu:Binds K dL ["_law_lines","_law_kind","_law_own"] []) (zu:mg "_law_line" = ih (.ref fL)) :
  aT P w K mg base aI 3 f fd ["_law_pot_here","_law_kinds"] qZ:=by
 refine F.bG jI λQa A outer s H vs Q E I h=>?_
 ·obtain @⟨p,n,ks,rfl,ze,xf,knd,zx,zL,q⟩:=h
  have xE:=I.units;have yi:=U' (Nat.add_le_add_left (show 1<=64 by decide) _) xE
  intro X;refine⟨_,ax (jC (cN (aa ny (aa ny ai))) (iU rfl (dq (br 2 jI.nd) (dq (nF (i:=3) jI.nd rfl (Yg rfl)) gM))))
   (ax (fk eL rfl (dt (pv 1)) (br 4 jI.nd)
    (ax (ba 5 jI.nd (fJ zC I rfl zD xD yD .nil c3 (aa (pv 0) (aa (dY (Ir rfl) rfl B.list boot_list (aa (pv 2) ai)) ai))))
    (ax (fk eL rfl (iK rfl B.range (aa aw ai)) (br 6 jI.nd)
     (aF (bE (bJ iV (fJ zt I rfl zu xu yu .nil c3 (aa (pv 2) (aa (pv 4) (aa (pv 5) ai)))) ez (bS _))
      (aF (ba 5 jI.nd (h8 kD (pv 5) iQ (gN (mu ma aw))))) bZ)))
    (ax (gO yi (pv 2) (pv 4) (fJ zt I rfl zu xu yu .nil c3 (aa (pv 2) (aa (pv 4) (aa (pv 5) ai)))) rfl)
    (aF (gO yi (pv 3) (pv 4) (pv 5) rfl))))))
   (ax (ba 7 jI.nd (dY Af rfl B.tuple boot_tuple (aa (cu sA rfl yC.sorted boot_sorted (aa (dB rfl DG (dt (pv 1)) (λs H fp=>⟨br 0 DG.nd,eh,
     cN (aa (pv 0) (aa (dY (Am K rfl) rfl B.tuple boot_tuple (aa (eY yi (pv 1) (pv 0)) ai)) ai))⟩)) ai)) ai)))
   (aF (a9 (cN (aa (pv 7) (aa (pv 2) ai))))))),?_⟩
  intro g zb m zi;have yE:aB H (upd (upd H g (.dK [])) m (.dK [])):=(aK zb).trans (aK zi);have xj:g≠m:=aA ah zi;have zp:H m=none:=(aK zb).free zi;refine⟨by show 2<=Us;rw[aX];decide,λtp yj=>?_⟩
  have xv:(upd (upd H g (.dK [])) m (.dK [])) g=cr []:=by rw[ag xj];exact ah
  have yv:=yE.trans (aK (o:=.tup [V.ref g,.ref m]) yj);have xq:upd (upd (upd H g (.dK [])) m (.dK [])) tp (.tup [V.ref g,.ref m]) g=cr []:=by rw[ag (aA xv yj)];exact xv
  have yq:upd (upd (upd H g (.dK [])) m (.dK [])) tp (.tup [V.ref g,.ref m]) m=cr []:=by rw[ag (aA ah yj)];exact ah
  refine⟨tp,_,rfl,aZ.of ah,rfl,_,_,rfl,_,_,rfl,rfl,?_⟩;generalize upd (upd (upd H g (.dK [])) m (.dK [])) tp (.tup [V.ref g,.ref m])=zE at yv xq yq⊢;have zv:bL p H zE:=dz ze yv;have xy:p≠g:=ze.ne zb;have yy:p≠m:=ze.ne zp;have zj:n≠p:=iO ze xf;refine⟨_,rfl,n,rfl,⟨_,au.of (zv.kp _ _ xf zj)⟩,jv (xs:=ks.map V.str) (λi σ Y=>∃(v O:am (Key×V)) (L Ps:Gv->List Gv) (xn yn U:a2 V),σ=[bd p,bd n,bd g,bd m,xn,yn,U,none]/\bL p H Y /\
   Y g=cr v/\Y m=cr O/\v.map (·.1)=(ks.take i).map F3/\O.map (·.1)=(ks.take i).map F3/\(∀x∈ks.take i,ea Y v L x)/\(∀x∈ks.take i,ea Y O Ps x)/\Fm (ks.take i) L Ps)
   ⟨[],[],λ_=>[],λ_=>[],none,none,none,rfl,zv,xq,yq,rfl,rfl,λx d=>(by cases d),λx d=>(by cases d),⟨λx d=>(by cases d),λx d=>(by cases d),λx d=>(by cases d)⟩⟩ (λi σ Y _ ab=>by obtain⟨_,_,_,_,_,_,_,_,z,_⟩:=ab;exact au.of (z.kp _ _ xf zj)) ?_ ?_⟩
  ·rintro i x σ Y d ⟨v,O,L,Ps,xn,yn,U,rfl,za,zd,xk,e1,e2,yf,zf,S⟩
   obtain⟨xc,rfl⟩:=pZ d;have R:ks.take (i+1)=ks.take i++[ks[i]]:=by rw[dX,bz xc];rfl
   have zh:ks[i]∉ ks.take i:=by
    have:(ks.take (i+1)).Nodup:=knd.sublist (iD _ _);rw[R]at this;exact λz=>(eu.mp this).2.2 _ z _ aV rfl
   have zy:(ks.take i).Nodup:=knd.sublist (iD _ _);have zq:∀x∈ks.take i,Nm x:=λx d=>zx x (o2 d);have xw:(ks.take i).length<=8:=by rw[cz];omega
   have yJ:v.length=(ks.take i).length:=by have:=c6 Yf e1;simpa using this
   have zJ:O.length=(ks.take i).length:=by have:=c6 Yf e2;simpa using this
   refine a4 rfl rfl ⟨g,v,rfl,zd,λl zn=>?_⟩;have xF:v.map (λxo=>kV xo.1)=(ks.take i).map V.str:=by
    have:v.map (λxo=>kV xo.1)=(v.map (·.1)).map kV:=by rw[gJ];rfl
    rw[this,e1,gJ];rfl
   rw[xF];have xb:=za.new (o:=.lst ((ks.take i).map V.str)) zn;have xg:=aK (o:=.lst ((ks.take i).map V.str)) zn;refine qF.mk rfl xb.ok (za.ok.ne zn) ah (by omega) λM own rest yo xr ya J xd zo=>?_
   have yw:=xb.trans xd;have G:own.Nodup:=(eu.mp (ya.nodup_iff.mpr zy)).1;have C:∀y∈own,y∈ks.take i:=λy xp=>ya.mem_iff.mp (gY _ xp);have yk:=CZ xb.ok xd (xg _ _ zd);have xz:=CZ xb.ok xd (xg _ _ xk);have zk:∀x∈ks.take i,ea yo v L x:=λx d=>((yf x d).same xg).lx xb.ok xd;have yz:∀x∈ks.take i,ea yo O Ps x:=λx d=>((zf x d).same xg).lx xb.ok xd;refine⟨5,rfl,by decide,by decide,lR (λj σ yg=>∃(M:Up) (own:am Gv) (U:a2 V),σ=[bd p,bd n,bd g,bd m,ih (.str ks[i]),bd M,U,none]/\aB yo yg/\yg M=ce (own.map V.str)/\own.Nodup/\(∀y∈own,y∈ks.take i)/\own.length<=4/\(cb (total (rowsOf L own)) (rowsOf L own)≠none\/own.length+j<=4))
    ⟨M,own,_,rfl,aB.refl _,zo,G,C,J,.inr J⟩ ?_ ?_⟩
   ·clear ya J G C zo xr
    rintro j σ yg xM ⟨M,own,U,rfl,T,W,G,C,J,xl⟩;have yl:=S.small zq xw G J C;have zl:=λr I=>(S.mh G C r I).1;refine ek rfl rfl rfl (oo.mk rfl (T _ _ yk) W (λx d=>(zk x (C x d)).same T) yl zl (λe yb N=>?_) (λo e yd yb zz N zw=>?_))
    ·refine⟨rfl,_,rfl,?_⟩
     refine af rfl ?_;have xA:own ≠ []:=λz=>by rw[z]at e;cases e
     have zI:0<own.length:=oW.mpr xA;refine⟨1,rfl,_,rfl,M,_,rfl,au.of (N _ _ W),λc zg=>?_⟩;refine⟨c,own.dropLast,_,rfl,(T.trans N).trans (aK zg),?_,G.sublist (List.dropLast_sublist _),λy xp=>C y (List.dropLast_subset _ xp),by rw[Gd];omega,.inr ?_⟩
     ·have:=KG own
      rw[ah];exact c6 ih (c6 HO.lst this)
     ·rcases xl with z|z
      ·exact absurd e z
      ·rw[Gd];omega
    ·refine⟨rfl,_,rfl,?_⟩
     exact⟨M,own,_,rfl,T.trans N,N _ _ W,G,C,J,.inl (by rw[e];exact Option.some_ne_none _)⟩
   ·clear ya J G C zo xr
    rintro σ yg ⟨M,own,U,rfl,T,W,G,C,J,xl⟩;have yl:=S.small zq xw G J C;have zl:=λr I=>(S.mh G C r I).1;have yA:cb (total (rowsOf L own)) (rowsOf L own)≠none:=by
     rcases xl with z|z
     ·exact z
     ·exact absurd z (by show ¬ (own.length+YA 5<=4);have:YA 5=5:=rfl;omega)
    refine ek rfl rfl rfl (oo.mk rfl (T _ _ yk) W (λx d=>(zk x (C x d)).same T) yl zl (λe=>absurd e yA) (λo e yd yb zz N zw=>?_));have yc:=T.trans N;have xe:=yc _ _ yk;have zA:=yc _ _ xz;refine a4 rfl rfl ⟨g,_,rfl,eP.k (k:=F3 ks[i]) xe (by rw[aX];omega),?_⟩
    have xm:upd yb g (.dK (putK v (F3 ks[i]) (.ref yd))) m=cr O:=by rw[ag (aP xj)];exact zA
    refine ek rfl rfl rfl ⟨m,_,rfl,eP.k (k:=F3 ks[i]) xm (by rw[aX];omega),?_⟩
    have yF:bL p H yb:=yw.trans (dz yw.ok yc);have xB:∀x∈ks.take (i+1),ea (upd yb g (.dK (putK v (F3 ks[i]) (.ref yd)))) (putK v (F3 ks[i]) (.ref yd)) (λx=>if x=ks[i] then ks[i]::o else L x) x:=λx d=>C0 xe zw λne=>(zk x (by
     rw[R]at d;rcases cj.mp d with z|z
     ·exact z
     ·exact absurd (by simpa using z) ne)).same yc
    have yB:upd yb g (.dK (putK v (F3 ks[i]) (.ref yd))) M=ce (own.map V.str):=by rw[ag (ar (N _ _ W) xe)];exact N _ _ W
    refine⟨_,_,_,_,_,_,_,rfl,(yF.write zb xy).write zp yy,by rw[ag xj];exact ah,ah,by rw[R];exact tI e1 zh,by rw[R];exact tI e2 zh,λx d=>(xB x d).write xm rfl,λx d=>?_,by rw[R];exact S.add zh G J C e⟩
    refine C0 xm yB λne=>?_;exact((yz x (by
     rw[R]at d;rcases cj.mp d with z|z
     ·exact z
     ·exact absurd (by simpa using z) ne)).same yc).write xe rfl
  ·rintro σ Y ⟨v,O,L,Ps,xn,yn,U,rfl,za,zd,xk,e1,e2,yf,zf,S⟩
   rw[aE,cM]at e1 yf zf S;have yr:=za.kp _ _ xf zj;refine af rfl ⟨n,rfl,⟨_,au.of yr⟩,λc zg=>?_⟩;refine eW (xs:=ks.map V.str) (λi ys xh H2=>∃yp:a2 V,xh=[yp,bd m]/\H2 c=ce ys/\aB Y H2/\cK H2 ys (d6 Ps (ks.take i))) ⟨none,rfl,ah,aK zg,.nil⟩ (λi ys xh H2 ab=>by obtain⟨_,_,z1,z2,_⟩:=ab;exact ⟨z1,au.of (z2 _ _ yr)⟩) ?_ ?_
   ·rintro i x ys xh H2 d ⟨yp,rfl,h2,zc,xa⟩
    have zr:i<(ks.map V.str).length:=(bR.mp d).1;have xc:i<ks.length:=by simpa using zr
    obtain rfl:V.str ks[i]=x:=by simpa [xc] using d
    have R:ks.take (i+1)=ks.take i++[ks[i]]:=by rw[dX,bz xc];rfl
    obtain⟨a,zF,xG⟩:=(zf ks[i] (gj xc)).same zc;refine ek rfl rfl rfl ⟨m,.ref a,rfl,by rw[<-zF];exact cm.k (k:=F3 ks[i]) (zc _ _ xk),?_⟩
    refine⟨a,_,rfl,.inl ⟨au.of xG,λb yG=>?_⟩⟩;have zG:=aK (o:=.tup ((Ps ks[i]).map V.str)) yG;refine⟨by show 2<=Us;rw[aX];decide,λt yh=>?_⟩
    have St:=zG.trans (aK (o:=.tup [V.str ks[i],.ref b]) yh);have xt:upd (upd H2 b (.tup ((Ps ks[i]).map V.str))) t (.tup [V.str ks[i],.ref b]) b=bn ((Ps ks[i]).map V.str):=by rw[ag (aA ah yh)];exact ah
    have ym:=St _ _ h2;refine⟨ym,?_,cw_next zr ⟨_,rfl,ah,λx u d=>by rw[ag (aA d zg)];exact St _ _ (zc x u d),?_⟩⟩
    ·have:=xa.length
     unfold d6 at this;rw[aE,cz]at this;rw[aX];omega
    ·have xH:d6 Ps (ks.take (i+1))=d6 Ps (ks.take i)++[(ks[i],Ps ks[i])]:=by rw[R];unfold d6;rw[bc];rfl
     rw[xH];refine cK.append (xa.keep λx xs d=>?_) ?_ ?_ (b:=b)
     ·rw[ag (ar d h2)];exact St _ _ d
     ·rw[ag (ar ah ym)];exact ah
     ·rw[ag (ar xt ym)];exact xt
   ·rintro ys xh H2 ⟨yp,rfl,h2,zc,xa⟩
    rw[aE,cM]at xa;obtain⟨kvs,pv,zB⟩:=xa.keyed;have xK:=xa.length;have yK:(d6 Ps ks).length=ks.length:=by unfold d6;exact aE ..
    refine⟨c,ys,kvs,1,rfl,.inl (au.of h2),pv,aU _,by rw[zB,sT];exact knd.map _ λa b n e=>n (GX e).1,by omega,λD ye xJ yH ya zK xL yL=>?_⟩
    have zH:=aK (o:=.lst ye) yH;refine⟨D,ye,rfl,au.of ah,λt o yh xI=>?_⟩;have St:=zH.trans (aK (o:=.bT o (.tup ye)) yh);obtain⟨yx,xC,yI⟩:=sD ya xa;refine a4 rfl rfl ⟨bF,λr I=>?_⟩;have xx:=St.trans (aK (o:=.tup [V.ref t,.ref g]) I);have xi:=zc.trans xx;refine q r t g o ye v L Ps yx _ ⟨ah,by rw[ag (aA ah I)];exact ah,xI,cK.same yI xx,xC,S,xi _ _ zd,e1,λx d=>(yf x d).same xi,za.trans (dz za.ok xi),zb⟩
structure Ei(mg:Gv->Option i'):Prop where
 int:mg "int" = none
 bool:mg "bool" = none
theorem b4{x:V}:cB (x::xs) 0=ih x:=(show cB (x::xs) ((0:Nat):Int)=ih x from cF rfl)
theorem dG{x:V}:cB (x::y::xs) 1=ih y:=(show cB (x::y::xs) ((1:Nat):Int)=ih y from cF rfl)
theorem mE{x z:V}:cB (x::y::z::xs) 2=ih z:=(show cB (x::y::z::xs) ((2:Nat):Int)=ih z from cF rfl)
end d9
namespace L2
open W
theorem Rep.tupI{ds:am UH}(r:Rep H v (.tuple ds)):∃a vs,v=.ref a/\H a=bn vs/\bK H vs ds:=by
 cases r with
 |tup e rs=>exact⟨_,_,rfl,e,rs⟩
theorem Rep.gT(r:Rep H v (.str x)):v=.str x:=by cases r;rfl
theorem Rep.il{x:Int}(r:Rep H v (.int x)):v=.int x:=by cases r;rfl
theorem bK.eG{d:UH}{ds:am UH}(r:bK H vs (d::ds)):∃v ws,vs=v::ws/\Rep H v d/\bK H ws ds:=by
 cases r with
 |cons a b=>exact⟨_,_,rfl,a,b⟩
theorem bK.mF(r:bK H vs []):vs=[]:=by cases r;rfl
theorem bK.length{H:Hp}:∀{vs:am V}{ds:am UH},bK H vs ds->vs.length=ds.length
 |_,_,.nil=>rfl
 |_,_,.cons _ rs=>by rw[cS,cS,bK.length rs]
theorem bK.get{H:Hp}{v:V}:∀{vs:am V}{ds:am UH}{i:Nat} (_:bK H vs ds) (_:vs[i]?=ih v),∃d,ds[i]?=ih d/\Rep H v d
 |_,_,_,.nil,e=>by cases e
 |_,_,0,.cons r _,e=>by cases e;exact af rfl r
 |_,_,i+1,.cons _ rs,e=>by have:=bK.get (i:=i) rs (by simpa using e);simpa using this
end L2
namespace d9
open L2 W HT
def a3:UH->Gv|.tuple (.str s::_)=>s|_ => ""
def hJ:UH->Int|.tuple [_,.int n]=>n|_=>0
def eI:UH->Gv|.tuple [_,.str x]=>x|_ => ""
def bM:UH->List UH
 |.tuple [_,.tuple ds]=>ds
 |.tuple [_,.str x,.int n]=>[.tuple [.str "ask",.str x],.tuple [.str "add",.int n]]
 |.tuple [_,.int n]=>[.tuple [.str "add",.int n]]
 |_=>[]
inductive dc:UH->Prop where
 |add (n:Int) (h:n.natAbs<=10 ^ 18):dc (.tuple [.str "add",.int n])
 |times (n:Int) (lo : -9<=n) (hi:n<=9):dc (.tuple [.str "times",.int n])
 |mj:dc (.tuple [.str "onward"])
 |ask (x:Gv) (h:Nm x):dc (.tuple [.str "ask",.str x])
inductive Ent:UH->Prop where
 |plain (n:Int) (h:n.natAbs<=10 ^ 18):Ent (.tuple [.str "plain",.int n])
 |ahead (x:Gv) (n:Int) (h:Nm x) (hn:n.natAbs<=10 ^ 18):Ent (.tuple [.str "ahead",.str x,.int n])
 |behind (ds:List UH) (h4:ds.length<=4) (hs:∀d∈ds,dc d):Ent (.tuple [.str "behind",.tuple ds])
 |jM (ds:List UH) (h4:ds.length<=4) (hs:∀d∈ds,dc d):Ent (.tuple [.str "shut",.tuple ds])
theorem two1{s:Gv}{d:UH}(r:Rep H v (.tuple [.str s,d])):∃a u,v=.ref a/\H a=bn [.str s,u]/\Rep H u d:=by
 obtain⟨a,vs,rfl,b,rs⟩:=r.tupI;obtain⟨g,h,rfl,c,rs⟩:=rs.eG;obtain⟨e,i,rfl,f,rs⟩:=rs.eG;obtain rfl:=rs.mF;obtain rfl:=c.gT;exact⟨a,e,rfl,b,f⟩
theorem dc.keep{d:UH}(s:dc d)(r:Rep H v d)(k:∀b xs,H b=bn xs->H' b=bn xs):Rep H' v d:=by
 cases s with
 |add n =>
  obtain⟨a,u,rfl,c,e⟩:=two1 r;obtain rfl:=e.il;exact .tup (k _ _ c) (.cons (.str _) (.cons (.int _) .nil))
 |times n =>
  obtain⟨a,u,rfl,c,e⟩:=two1 r;obtain rfl:=e.il;exact .tup (k _ _ c) (.cons (.str _) (.cons (.int _) .nil))
 |ask x =>
  obtain⟨a,u,rfl,c,e⟩:=two1 r;obtain rfl:=e.gT;exact .tup (k _ _ c) (.cons (.str _) (.cons (.str _) .nil))
 |mj =>
  obtain⟨a,vs,rfl,c,rs⟩:=r.tupI;obtain⟨g,h,rfl,f,rs⟩:=rs.eG;obtain rfl:=rs.mF;obtain rfl:=f.gT;exact .tup (k _ _ c) (.cons (.str _) .nil)
theorem iL(k:∀b xs,H b=bn xs->H' b=bn xs){ds:am UH}(r:bK H vs ds)(h:∀d∈ds,dc d):bK H' vs ds:=by
 induction vs generalizing ds with
 |nil=>cases r;exact .nil
 |cons x xs a=>cases r with|cons r rs=>exact .cons ((h _ aV).keep r k) (a rs λd c=>h d (a7 _ c))
theorem Ent.keep{d:UH}(s:Ent d)(r:Rep H v d)(k:∀b xs,H b=bn xs->H' b=bn xs):Rep H' v d:=by
 cases s with
 |plain n =>
  obtain⟨a,u,rfl,c,e⟩:=two1 r;obtain rfl:=e.il;exact .tup (k _ _ c) (.cons (.str _) (.cons (.int _) .nil))
 |ahead x n =>
  obtain⟨a,vs,rfl,c,rs⟩:=r.tupI;obtain⟨l,m,rfl,h,rs⟩:=rs.eG;obtain⟨o,p,rfl,e,rs⟩:=rs.eG;obtain⟨q,t,rfl,i,rs⟩:=rs.eG;obtain rfl:=rs.mF;obtain rfl:=h.gT;obtain rfl:=e.gT;obtain rfl:=i.il;exact .tup (k _ _ c) (.cons (.str _) (.cons (.str _) (.cons (.int _) .nil)))
 |behind ds j f =>
  obtain⟨a,u,rfl,c,e⟩:=two1 r;obtain⟨b,vs,rfl,g,rs⟩:=e.tupI;exact .tup (k _ _ c) (.cons (.str _) (.cons (.tup (k _ _ g) (iL k rs f)) .nil))
 |jM ds j f =>
  obtain⟨a,u,rfl,c,e⟩:=two1 r;obtain⟨b,vs,rfl,g,rs⟩:=e.tupI;exact .tup (k _ _ c) (.cons (.str _) (.cons (.tup (k _ _ g) (iL k rs f)) .nil))
theorem kG(a:ej p H)(c:bL p H H'):∀b xs,H b=bn xs->H' b=bn xs:=λb xs e=>by
 obtain⟨x,y,e0,_⟩:=a;exact c.kp b _ e (ar e e0)
inductive mx(vs:List V)(H:Hp)(Q:VK)(E:XK):Prop
 |mk{p:Up}(_:vs=[.ref p])(_:ej p H)(_:∀(n:Int) (H':Hp),n.natAbs<=10 ^ 18->bL p H H'->Q (.int n) H'):mx vs H Q E
noncomputable abbrev Pd:List Gv:=["_law_pot_here","_law_near","_law_far"]
theorem u3:bp Pd ["_law_pot_here"] (aH ud):=bw
theorem MR(F:aQ K "_law_number" "_law_number" ud f fd)
  (g:bV P w K mg base aI 1 fD dD ["_law_pot_here","_law_many"] iS "_law_digit"):aT P w K mg base aI 2 f fd ["_law_pot_here"] mx:=by
 refine F.bG u3 λQa A outer s H vs Q E u h=>?_
 ·obtain @⟨p,rfl,v,q⟩:=h
  have e:a' 1 _:=u;intro X;refine⟨_,ax (ba 1 u3.nd (bO jD (bA g e (aa (pv 0) (aa aw ai))) aw))
   (ax (ba 2 u3.nd (bO fK (bO jD (bA g e (aa (pv 0) (aa (bO jD (bO nP aw (bO ur aw aw)) aw) ai))) (bO ur aw aw)) aw))
   (aF (a9 (aS ck (eZ (aa (pv 1) (aa (pv 1) (aa aw (aa (pv 2) ai))))) (bA g e (aa (pv 0) (aa aw ai))))))),?_⟩
  refine af rfl (eX (p:=p) (m:=41) v (by decide) (by decide) λk Y C D i=>⟨_,_,rfl,rfl,?_⟩)
  refine af rfl ⟨_,_,rfl,rfl,⟨by decide,by decide,by decide⟩,_,_,rfl,rfl,.inl ⟨by decide,by decide⟩,_,_,rfl,rfl,?_⟩
  refine eX (p:=p) (m:=2 * 10 ^ (18:Int).toNat - 1) i.ok (by decide) (by decide) λx H2 b0 b1 p2=>⟨_,_,rfl,rfl,⟨by decide,by decide,by decide⟩,_,_,rfl,rfl,_,_,rfl,rfl,?_⟩
  refine ek rfl rfl rfl ⟨by show 4<=Us;rw[aX];decide,λc l=>?_⟩
  have p3:=(i.trans p2).new (o:=.lst [.int (k - 20),.int (k - 20),.int 0,.int (x - 10 ^ (18:Int).toNat+1)]) l;refine af rfl (eX (p:=p) (m:=4) p3.ok (by decide) (by decide) λG r y I p4=>?_)
  have t:c≠p:=aP ((i.trans p2).ok.ne l);have d:=p4.kp _ _ ah t;obtain⟨j,rfl⟩:=m1 y;have a:(10:Int) ^ (18:Int).toNat=1000000000000000000:=rfl;have b:∀n:Int,n.natAbs<=10 ^ 18->Q (.int n) r:=λn z=>q n r z (p3.trans p4);have B:j=0\/j=1\/j=2\/j=3:=by omega
  rcases B with rfl|rfl|rfl|rfl
  ·exact fe d (cF rfl) (b _ (by first|omega|(rw[a]at b1⊢;omega)))
  ·exact fe d (cF rfl) (b _ (by first|omega|(rw[a]at b1⊢;omega)))
  ·exact fe d (cF rfl) (b _ (by first|omega|(rw[a]at b1⊢;omega)))
  ·exact fe d (cF rfl) (b _ (by first|omega|(rw[a]at b1⊢;omega)))
theorem tJ:∀xs ys:am Gv,Ya (xs.map Vh) (ys.map Vh)=decide (xs=ys)
 |[],[]=>rfl
 |[],y::ys=>rfl
 |x::xs,[]=>rfl
 |x::xs,y::ys=>by
  show((x==y)&&Ya (xs.map Vh) (ys.map Vh))=_;rw[tJ xs ys]
  by_cases e:x=y
  ·by_cases f:xs=ys <;> simp[e,f]
  ·simp[e]
abbrev Bk:=List (Gv×Gv×UH)
def bC(p:Gv×Gv×UH):List Gv:=[p.1,p.2.1]
def cO(H:Hp)(vs:List V)(bk:Bk):Prop:=XH (λv p=>∃a u,v=V.ref a/\H a=ih (.tup [.str p.1,.str p.2.1,u])/\Rep H u p.2.2) vs bk
structure fZ(bk:Bk):Prop where
 nm:∀p∈bk,Nm p.1/\Nm p.2.1
 ent:∀p∈bk,Ent p.2.2
 nd:(bk.map bC).Nodup
 a5:bk.length<=48
def iw(bk:Bk)(k n:Gv):Bk:=bk.filter λp=>!decide (bC p=[k,n])
theorem cO.keep(k:∀b xs,H b=bn xs->H' b=bn xs){bk:Bk}(h:cO H vs bk)(c:∀p∈bk,Ent p.2.2):cO H' vs bk:=L2.Paired.DW h λv p d x=>by obtain⟨a,u,e,h,r⟩:=x;exact⟨a,u,e,k _ _ h,(c p d).keep r k⟩
theorem cO.same(S:aB H H'){bk:Bk}(h:cO H vs bk):cO H' vs bk:=Paired.imp' (λv p x=>by obtain⟨a,u,e,h,r⟩:=x;exact⟨a,u,e,S _ _ h,r.same S⟩) h
theorem cO.length{bk:Bk}(h:cO H vs bk):vs.length=bk.length:=ff h
theorem cO.append{u:V}{p:Gv×Gv×UH}(b:H a=bn [.str p.1,.str p.2.1,u])(r:Rep H u p.2.2){bk:Bk}(h:cO H vs bk):cO H (vs++[.ref a]) (bk++[p]):=lH h ⟨a,u,rfl,b,r⟩
theorem cO.keyed{bk:Bk}(h:cO H vs bk):∃kvs,kK H 2 vs kvs/\kvs.map (·.1)=bk.map bC:=by
 induction h with
 |nil=>exact⟨[],.nil,rfl⟩
 |cons x _ b =>
  obtain⟨a,u,e,h,r⟩:=x;obtain⟨kvs,h1,h2⟩:=b;exact⟨(bC _,[u])::kvs,.cons ⟨a,e,h,rfl⟩ h1,by rw[bU,bU,h2]⟩
theorem LX{d:UH}(s:dc d):d.canLay0=true/\d.depth<=1:=by
 cases s with
 |add n=>exact⟨by show(Xv "add" && (true&&true))=true;decide +kernel,by simp[XX,Vr]⟩
 |times n=>exact⟨by show(Xv "times" && (true&&true))=true;decide +kernel,by simp[XX,Vr]⟩
 |mj=>exact⟨by decide +kernel,by decide +kernel⟩
 |ask x h =>
  refine⟨?_,by simp[XX,Vr]⟩
  show(Xv "ask" && (Xv x&&true))=true;rw[n9 h];decide +kernel
theorem Cb:∀{ds:am UH},(∀d∈ds,dc d)->XI ds=true/\Vr ds<=1
 |[],_=>⟨rfl,by decide⟩
 |d::ds,h=>by
  obtain⟨a,c⟩:=LX (h d aV);obtain⟨b1,e⟩:=Cb λx b=>h x (a7 _ b);refine⟨?_,?_⟩
  ·show(d.canLay0&&XI ds)=true
   rw[a,b1];rfl
  ·simp only[Vr];omega
inductive qG(vs:List V)(H:Hp)(Q:VK)(E:XK):Prop
 |mk{x:Gv}(_:vs=[.str x])(_:Nm x)(_:∀H',aB H H'->Q .aO H'):qG vs H Q E
theorem cO.perm{a:am V}{bk:Bk}(p:a.Perm vs)(h:cO H vs bk):∃b,b.Perm bk/\cO H a b:=sD p h
def kZ(p:Gv×Gv×UH):List Key:=[F3 p.1,F3 p.2.1]
def b7(H:Hp)(kvs:List (List Key×V))(oG:Bk):Prop:=XH (λkv p=>kv.1=kZ p/\Rep H kv.2 p.2.2) kvs oG
theorem b7.keep(k:∀b xs,H b=bn xs->H' b=bn xs){kvs:am (List Key×V)}{a:Bk}(h:b7 H kvs a)(c:∀p∈a,Ent p.2.2):b7 H' kvs a:=L2.Paired.DW h λv p d x=>⟨x.1,(c p d).keep x.2 k⟩
theorem b7.same(S:aB H H'){kvs:am (List Key×V)}{a:Bk}(h:b7 H kvs a):b7 H' kvs a:=by
 induction h with
 |nil=>exact .nil
 |cons x _ b=>exact .cons ⟨x.1,x.2.same S⟩ b
theorem b7.length{kvs:am (List Key×V)}{a:Bk}(h:b7 H kvs a):kvs.length=a.length:=ff h
theorem pS{p:Gv×Gv×UH}{k:Gv}:kZ p=[F3 k,F3 n] ↔ bC p=[k,n]:=by
 unfold kZ bC
 constructor
 ·intro h
  injection h with h1 h2;injection h2 with a _;rw[gH h1,gH a]
 ·intro h
  injection h with h1 h2;injection h2 with a _;rw[h1,a]
theorem b7.val{H:Hp}{k n:Gv}:∀{kvs:am (List Key×V)}{h:Bk},b7 H kvs h->(bo kvs [F3 k,F3 n]=none /\ [k,n]∉ h.map bC) \/∃v d,bo kvs [F3 k,F3 n]=ih v/\(k,n,d)∈h/\Rep H v d
 |_,_,.nil=>.inl ⟨rfl,by simp⟩
 |_,_,.cons (a:=i) (b:=p) ⟨e,r⟩ t=>by
  by_cases f:i.1=[F3 k,F3 n]
  ·have g:=pS.mp (e.symm.trans f)
   have e1:p.1=k:=by injection g
   have e2:p.2.1=n:=by injection g with _ z;injection z
   exact .inr ⟨i.2,p.2.2,fG f,by rw[<-e1,<-e2];exact aV,r⟩
  ·have g:bC p ≠ [k,n]:=λz=>f (e.trans (pS.mpr z))
   rcases b7.val (k:=k) (n:=n) t with⟨a,b⟩|⟨v,d,a,b,c⟩
   ·refine .inl ⟨(ew f).trans a,λz=>?_⟩
    rw[bU]at z;rcases bj.mp z with z|z
    ·exact g z.symm
    ·exact b z
   ·exact .inr ⟨v,d,(ew f).trans a,a7 _ b,c⟩
theorem Cc{bk:Bk}{k:Gv}(h : [k,n]∉ bk.map bC):iw bk k n=bk:=yZ.mpr λp a=>by
 have:bC p ≠ [k,n]:=λe=>h (e ▸ aY.mpr ⟨p,a,rfl⟩)
 simpa using this
theorem tK{k n:Gv}{d:UH}:∀{a:Bk},(a.map bC).Nodup -> [k,n]∈a.map bC->(a.map λp=>if bC p=[k,n] then (k,n,d) else p).Perm (iw a k n++[(k,n,d)])
 |[],_,h=>by simp at h
 |p::a,b,h=>by
  rw[bU,dM]at b
  by_cases e:bC p=[k,n]
  ·have c : [k,n]∉ a.map bC:=e ▸ b.1
   have e1:(a.map λp=>if bC p=[k,n] then (k,n,d) else p)=a:=by
    refine(se (g:=id) λq i=>?_).trans (List.map_id a);have:bC q ≠ [k,n]:=λz=>c (z ▸ aY.mpr ⟨q,i,rfl⟩);rw[aq this];rfl
   have e2:iw (p::a) k n=a:=by
    have:=Cc c;unfold iw at this⊢;rw[o1 (by simp[e])];exact this
   rw[bU,ay e,e1,e2];exact(List.perm_append_singleton _ _).symm
  ·have f : [k,n]∈a.map bC:=by
    rw[bU]at h;rcases bj.mp h with z|z
    ·exact absurd z.symm e
    ·exact z
   have e2:iw (p::a) k n=p::iw a k n:=by unfold iw;rw[mZ (by simp[e])]
   rw[bU,aq e,e2];exact(tK b.2 f).cons p
theorem b7.vC{H:Hp}{k n:Gv}{v:V}{d:UH}(r:Rep H v d):∀{kvs:am (List Key×V)}{h:Bk},b7 H kvs h->b7 H (kvs.map λc=>if c.1=[F3 k,F3 n] then (c.1,v) else c) (h.map λp=>if bC p=[k,n] then (k,n,d) else p)
 |_,_,.nil=>.nil
 |_,_,.cons (a:=c) (b:=p) ⟨e,r'⟩ t=>by
  rw[bU,bU]
  by_cases f:c.1=[F3 k,F3 n]
  ·have g:=pS.mp (e.symm.trans f)
   rw[ay f,ay g];exact .cons ⟨f,r⟩ (b7.vC r t)
  ·have g:bC p ≠ [k,n]:=λz=>f (e.trans (pS.mpr z))
   rw[aq f,aq g];exact .cons ⟨e,r'⟩ (b7.vC r t)
theorem b7.snoc{k:Gv}{d:UH}(r:Rep H v d){kvs:am (List Key×V)}{a:Bk}(h:b7 H kvs a):b7 H (kvs++[([F3 k,F3 n],v)]) (a++[(k,n,d)]):=lH h ⟨rfl,r⟩
theorem b7.put{k:Gv}{d:UH}{kvs:am (List Key×V)}{c:Bk}(h:b7 H kvs c)(i:(c.map bC).Nodup)(r:Rep H v d):∃g,b7 H (putK kvs [F3 k,F3 n] v) g/\g.Perm (iw c k n++[(k,n,d)]):=by
 rcases h.val (k:=k) (n:=n) with⟨a,b⟩|⟨j,l,a,b,_⟩
 ·rw[kB v a,Cc b]
  exact⟨_,h.snoc r,.refl _⟩
 ·have e:putK kvs [F3 k,F3 n] v=kvs.map λf=>if f.1=[F3 k,F3 n] then (f.1,v) else f:=by
   unfold putK;rw[ay (by rw[kA,a];rfl)]
  rw[e];exact⟨_,h.vC r,tK i (aY.mpr ⟨_,b,rfl⟩)⟩
theorem nM{a b:Bk}(p:a.Perm b)(ok:fZ b):fZ a:=
 ⟨λq c=>ok.nm q (p.mem_iff.mp c),λq c=>ok.ent q (p.mem_iff.mp c),(p.map bC).nodup_iff.mpr ok.nd,by rw[p.length_eq];exact ok.a5⟩
theorem Dq:∀{bk:Bk}{p q:Gv×Gv×UH},(bk.map bC).Nodup->p∈bk->q∈bk->p≠q->bC p≠bC q
 |[],_,_,_,h,_,_=>by cases h
 |x::bk,p,q,a,c,b,ne=>by
  rw[bU,dM]at a;rcases bj.mp c with e1|EU
  ·rcases bj.mp b with e2|vW
   ·exact absurd (e1.trans e2.symm) ne
   ·intro z
    exact a.1 (e1 ▸ z ▸ aY.mpr ⟨q,vW,rfl⟩)
  ·rcases bj.mp b with e2|vW
   ·intro z
    exact a.1 (e2 ▸ z ▸ aY.mpr ⟨p,EU,rfl⟩)
   ·exact Dq a.2 EU vW ne
theorem pT(K:X2)(h:X.K=K){k:Nat}{t:jT}{n:Nat}(b:X.calm=true)(c:oC X es t)
  (d:(assignEach es X.env).length=n:=by rfl) (a:(assignEach es X.env).findIdx? (·.1)=none:=by rfl):PG X (.Tuple es k pos) (DP K n t):=by subst h;exact iU b c d a
def cU(bk:Bk)(k n:Gv):Option UH:=(bk.find? λp=>decide (bC p=[k,n])).map (·.2.2)
def c4(bk:Bk)(n:Gv):List Gv->Option (Gv×UH)
 |[]=>none
 |x::r=>match cU bk x n with
  |some d=>ih (x,d)
  |none=>c4 bk n r
theorem pd{k:Gv}{bk:Bk}:cU bk k n=none ↔ [k,n]∉ bk.map bC:=by
 unfold cU;rw[Option.map_eq_none_iff,List.find?_eq_none]
 constructor
 ·intro h z
  obtain⟨p,a,e⟩:=aY.mp z;exact h p a (cc e)
 ·intro h p a z
  exact h (aY.mpr ⟨p,a,eg z⟩)
theorem m4{k:Gv}{d:UH}{bk:Bk}(h:cU bk k n=ih d):(k,n,d)∈bk:=by
 unfold cU at h;obtain⟨p,e,rfl⟩:=gi.mp h;have f:=List.mem_of_find?_eq_some e;have g:bC p=[k,n]:=eg (List.find?_some (p:=λq=>decide (bC q=[k,n])) e);obtain⟨a,b,c⟩:=p;injection g with e1 e2;injection e2 with e2 _;subst e1 e2;exact f
theorem pj{k:Gv}{d:UH}{bk:Bk}(b:(bk.map bC).Nodup)(h:(k,n,d)∈bk):cU bk k n=ih d:=by
 cases e:cU bk k n with
 |none=>exact absurd (aY.mpr ⟨_,h,rfl⟩) (pd.mp e)
 |some a =>
  have h':=m4 e
  by_cases z:d=a
  ·rw[z]
  ·exact absurd (show bC (k,n,d)=bC (k,n,a) from rfl) (Dq b h h' (λw=>z (by injection w with _ w;injection w)))
theorem HV{k:Gv}{a b:Bk}(p:a.Perm b)(c:(b.map bC).Nodup):cU a k n=cU b k n:=by
 cases e:cU a k n with
 |none =>
  exact(pd.mpr λz=>pd.mp e ((p.map bC).mem_iff.mpr z)).symm
 |some d=>exact(pj c (p.mem_iff.mp (m4 e))).symm
theorem Cd{n:Gv}{a b:Bk}(p:a.Perm b)(c:(b.map bC).Nodup):∀l:am Gv,c4 a n l=c4 b n l
 |[]=>rfl
 |x::r=>by unfold c4;rw[HV p c,Cd p c r]
theorem MS{bk:Bk}(h:cU bk x n=none):c4 bk n (x::r)=c4 bk n r:=by
 show(match cU bk x n with|some d=>ih (x,d)|none=>c4 bk n r)=_;rw[h]
theorem ui{bk:Bk}{d:UH}(h:cU bk x n=ih d):c4 bk n (x::r)=ih (x,d):=by
 show(match cU bk x n with|some d=>ih (x,d)|none=>c4 bk n r)=_;rw[h]
theorem m7{bk:Bk}{n:Gv}{x:Gv}:∀(l:am Gv),(∀y∈l,cU bk y n=none) ->∀r,c4 bk n (l++r)=c4 bk n r
 |[],_,_=>rfl
 |y::l,h,r=>by
  show c4 bk n (y::(l++r))=_;rw[MS (h y aV)];exact m7 (x:=x) l (λz hz=>h z (a7 _ hz)) r
theorem l6{bk:Bk}{n x:Gv}{d:UH}:∀{l:am Gv},c4 bk n l=ih (x,d)->x∈l/\cU bk x n=ih d
 |[],h=>by cases h
 |y::l,h=>by
  unfold c4 at h;cases e:cU bk y n with
  |some d'=>rw[e]at h;cases h;exact⟨aV,e⟩
  |none =>
   rw[e]at h;obtain⟨a,b⟩:=l6 (l:=l) h;exact⟨a7 _ a,b⟩
theorem b7.look{k:Gv}{kvs:am (List Key×V)}{e:Bk}(h:b7 H kvs e)(f:(e.map bC).Nodup):(cU e k n=none/\bo kvs [F3 k,F3 n]=none) \/∃v d,cU e k n=ih d/\bo kvs [F3 k,F3 n]=ih v/\Rep H v d:=by
 rcases h.val (k:=k) (n:=n) with⟨a,b⟩|⟨v,d,a,b,c⟩
 ·exact .inl ⟨pd.mpr b,a⟩
 ·exact .inr ⟨v,d,pj f b,a,c⟩
def eJ(H:Hp)(v:V):Option (Gv×UH)->Prop
 |none=>v=.aO
 |some (x,d)=>∃t u,v=.ref t/\H t=ih (.tup [.str x,u])/\Rep H u d
theorem eJ.keep(k:∀b xs,H b=bn xs->H' b=bn xs){r:a2 (Gv×UH)}(h:eJ H v r)(a:∀x d,r=ih (x,d)->Ent d):eJ H' v r:=by
 cases r with
 |none=>exact h
 |some p =>
  obtain⟨t,u,rfl,c,r⟩:=h;exact⟨t,u,rfl,k _ _ c,(a _ _ rfl).keep r k⟩
def LY(e:Vc):Yy:=match e with|.DictComp _ _ _ sc _=>sc|.SetComp _ _ sc _=>sc|_=>{ kind:=.function,names:=[],isGenerator:=false,isCoroutine:=false }
def c9(line:List Gv)(b:Gv):List Gv:=if b = "" then line else line.drop (line.idxOf b+1)
def fF(dl de dh:Up)(m:Int):List (Gv×V):=[("lines",.ref dl),("entries",.ref de),("hits",.ref dh),("met",.int m)]
theorem iT{f g:Gv}{x:V}{r:am (Gv×V)}(h:g≠f):b3 f v ((g,x)::r)=(g,x)::b3 f v r:=aq h
theorem LZ{f:Gv}{x:V}{r:am (Gv×V)}:b3 f v ((f,x)::r)=(f,v)::r:=ay rfl
theorem pU{f:Gv}:b3 f v []=[(f,v)]:=rfl
theorem L0(dl de dh:Up):b3 "met" (.int 0) (b3 "hits" (.ref dh) (b3 "entries" (.ref de) (b3 "lines" (.ref dl) [])))=fF dl de dh 0:=by
 rw[pU,iT (f:= "entries") (by decide +kernel),pU,iT (f:= "hits") (by decide +kernel),iT (f:= "hits") (by decide +kernel),pU,iT (f:= "met") (by decide +kernel),iT (f:= "met") (by decide +kernel),iT (f:= "met") (by decide +kernel),pU]
 rfl
theorem MT(dl de dh:Up)(m a:Int):b3 "met" (.int a) (fF dl de dh m)=fF dl de dh a:=by
 unfold fF;rw[iT (f:= "met") (by decide +kernel),iT (f:= "met") (by decide +kernel),iT (f:= "met") (by decide +kernel),LZ]
theorem ig{α:Type}{y:Gv}{v:α}{r:am (Gv×α)}(h:x≠y):Xx x ((y,v)::r)=Xx x r:=by
 rw[ef];have:(x==y)=false:=by simpa using h
 rw[this]
theorem qH{α:Type}{v:α}{r:am (Gv×α)}:Xx x ((x,v)::r)=ih v:=by
 rw[ef,wy]
section
variable{dl de dh:Up}
theorem Ce:(fF dl de dh m).lookup ("lines" : Gv)=ih (V.ref dl):=qH
theorem AO:(fF dl de dh m).lookup ("entries" : Gv)=ih (V.ref de):=by unfold fF;rw[ig (by decide +kernel)];exact qH
theorem qf:(fF dl de dh m).lookup ("hits" : Gv)=ih (V.ref dh):=by unfold fF;rw[ig (by decide +kernel),ig (by decide +kernel)];exact qH
theorem MU:(fF dl de dh m).lookup ("met" : Gv)=ih (V.int m):=by unfold fF;rw[ig (by decide +kernel),ig (by decide +kernel),ig (by decide +kernel)];exact qH
theorem u4(h1:x ≠ "lines")(h2:x ≠ "entries")(a:x ≠ "hits")(b:x ≠ "met"):(fF dl de dh m).lookup x=none:=by unfold fF;rw[ig h1,ig h2,ig a,ig b];rfl
end
structure jN(K:X2)(mg:Gv->Option i')(C:Up):Prop where
 cl:gb K C
 nl:dZ K C "lines"
 ne:dZ K C "entries"
 nh:dZ K C "hits"
 nm:dZ K C "met"
 oH:mg "Finds" = ih (.ref C)
structure FI(C x dx dl de dh:Up)(kl:List (Key×V))(ke kh:List (List Key×V))(m:Int)(bk:Bk)(H:Hp):Prop where
 hx:H x=ih (.ins C dx (fF dl de dh m))
 hl:H dl=ih (.dK kl)
 he:H de=ih (.dT ke)
 hh:H dh=ih (.dT kh)
 du:b7 H ke bk
 ok:fZ bk
 nn:de≠dh
inductive q0(vs:List V)(H:Hp)(Q:VK)(E:XK):Prop
 |mk{t:Up}{ws:List V}{bk:Bk}(_:vs=[.ref t])(_:H t=ih (.tup ws))(_:cO H ws bk)(_:fZ bk)(_:∀d kvs H',H d=none->aB H H'->H' d=ih (.dT kvs)->b7 H' kvs bk->Q (.ref d) H'):q0 vs H Q E
theorem Pe:bp ["book"] ["book"] (aH nz):=bw
noncomputable abbrev QS:Vc:=kW (cw (bB nz) 0)
theorem q2:bY ["book"] (aH nz) ["kind","name","entry"] [none,none,none] (LY QS):=c8
theorem NO(F:aQ K "entries_by_place" "entries_by_place" nz f fd):aT P w K mg base aI 1 f fd ["book"] q0:=by
 refine F.bG Pe λQa A outer s H vs Q E yb h=>?_
 ·obtain @⟨t,ws,bk,rfl,L,M,ok,q⟩:=h
  have zb:=yb.units;have W:=eQ zb;intro X;refine⟨_,aF (a9 (Jk rfl q2 (kH (pv 0)) (λs H fp=>⟨pT (n:=3) K rfl rfl (dq (br 0 q2.nd) (dq (br 1 q2.nd) (dq (br 2 q2.nd) gM))),eh,NA W (cN (aa (pv 0) (aa (pv 1) ai))) (pv 2)⟩))),?_⟩;have U:=M.length;have a5:=ok.a5;refine af rfl ⟨t,rfl,⟨_,aZ.of L⟩,λc B=>?_⟩;refine Jl (xs:=ws) (λi g Y=>∃(C D G:a2 V) (kvs:am (List Key×V)),g=[C,D,G]/\aB H Y/\Y c=ev kvs/\b7 Y kvs (bk.take i)) ⟨none,none,none,[],rfl,aK B,ah,.nil⟩ (λi g Y ab=>by obtain⟨_,_,_,_,_,z,_⟩:=ab;exact aZ.of (z _ _ L)) ?_ ?_
  ·rintro i x g Y N ⟨C,D,G,kvs,rfl,j,h1,l⟩
   have xa:i<ws.length:=(bR.mp N).1;obtain⟨p,O,a,u,rfl,R,xc⟩:=L2.Paired.get (cO.same j M) N;have pm:=di O;have tk:bk.take (i+1)=bk.take i++[p]:=by rw[dX,O];rfl
   refine⟨a,_,rfl,aZ.of R,rfl,_,_,rfl,_,_,rfl,_,_,rfl,rfl,?_⟩;refine a4 rfl rfl ⟨bF,λm ya=>?_⟩;have d:=aK (o:=.tup [V.str p.1,V.str p.2.1]) ya;have I:upd Y m (.tup [V.str p.1,V.str p.2.1]) m=bn ((kZ p).map kV):=ah;have za:=d _ _ R;have J:=xc.same d;have r:=b7.same d l;have y:=d _ _ h1;generalize upd Y m (.tup [V.str p.1,V.str p.2.1])=S at d I za J r y⊢;have yc:=r.length;have xb:bo kvs (kZ p)=none:=by
    rcases r.val (k:=p.1) (n:=p.2.1) with⟨z,_⟩|⟨v,xd,_,z2,_⟩
    ·exact z
    ·exfalso
     have T:((bk.take (i+1)).map bC).Nodup:=ok.nd.sublist (abc _ (iD _ _));rw[tk,bc]at T;exact(eu.mp T).2.2 _ (aY.mpr ⟨_,z2,rfl⟩) (bC p) (by simp) rfl
   refine af rfl ⟨kvs,kZ p,m,rfl,I,y,?_,Kq xa ⟨_,_,_,_,rfl,λb v e=>?_,ah,?_⟩⟩
   ·rw[cz]at yc
    rw[aX];omega
   ·rw[ag (aA e B)];exact d _ _ (j _ _ e)
   ·rw[tk,kB _ xb]
    have up:∀b xs,S b=bn xs->upd S c (.dT (kvs++[(kZ p,u)])) b=bn xs:=λb xs e=>by rw[ag (ar e y)];exact e
    exact b7.snoc (k:=p.1) (n:=p.2.1) ((ok.ent p pm).keep J up) (r.keep up λq zc=>ok.ent q (o2 zc))
  ·rintro g Y ⟨C,D,G,kvs,rfl,j,h1,l⟩
   rw[U,cM]at l;exact q c kvs Y B j h1 l
theorem Jx{b:Gv}:lr (.str b) ((("" : Gv)::line).map V.str)=decide (b = "" \/ b∈line):=by
 rw[iM]
 by_cases e:b = "" \/ b∈line
 ·rw[cc e]
  exact cc (by rcases e with z|z;rw[z];exact aV;exact a7 _ z)
 ·rw[d4 e]
  exact d4 (λz=>e (by rcases bj.mp z with y|y;exact .inl y;exact .inr y))
inductive q3(vs:List V)(H:Hp)(Q:VK)(E:XK):Prop
 |mk{t:Up}{line:List Gv}{b:Gv}(_:vs=[.ref t,.str b])(_:H t=ih (.tup (line.map V.str)))(_:line.length<=200)(_:(b = "" \/ b∈line))(_:∀H',aB H H'->Q (.bl true) H'):q3 vs H Q E
theorem Pf:bp ["line","thing"] ["line","thing"] (aH s6):=bw
theorem NP(F:aQ K "is_behind" "is_behind" s6 f fd)(a:hI mg):aT P w K mg base aI 1 f fd ["line","thing"] q3:=by
 refine F.bG Pf λQa A outer s H vs Q E l h=>?_
 ·obtain @⟨t,line,b,rfl,g,m,i,q⟩:=h
  intro X;refine⟨_,aF (a9 (C5 (cu pH rfl a.rT pR (aa (pv 1) (aa (p0 (v:=.ty "str") rfl a.str boot_str rfl) ai))) (C4 (jy kr (pv 1) (bO CI (cN (aa bu ai)) (pv 0)) rfl)))),?_⟩;refine af rfl ⟨⟨_,.inr ⟨"str",rfl⟩⟩,.str b,.ty "str",.type "str",.type "str",true,rfl,rfl,.inl (.str b),rfl,true,rfl,?_⟩;refine af rfl ⟨eo,λc j=>?_⟩;have d:=aK (o:=.tup [V.str ""]) j;refine af rfl ⟨c,t,_,_,rfl,rfl,ah,d _ _ g,by rw[aE,aX];show 1+_<=_;omega,λp H' k h'=>?_⟩
  have e:H' p=bn ((("" : Gv)::line).map V.str):=h';refine⟨p,_,rfl,.inr (aZ.of e),rfl,jt _,?_⟩;rw[aq b9,Jx,cc i];exact q H' (d.trans k)
inductive q4(vs:List V)(H:Hp)(Q:VK)(E:XK):Prop
 |mk{t:Up}{line:List Gv}{b:Gv}(_:vs=[.ref t,.str b])(_:H t=ih (.tup (line.map V.str)))(_:line.length<=200)(_:(b = "" \/ b∈line))(_:∀H',aB H H'->Q .aO H'):q4 vs H Q E
theorem Pg:bp ["line","thing"] ["line","thing"] (aH t9):=bw
theorem NQ(F:aQ K "check_behind" "check_behind" t9 f fd)(a:bV P w K mg base aI 1 fI dI ["line","thing"] q3 "is_behind"):aT P w K mg base aI 2 f fd ["line","thing"] q4:=by
 refine F.bG Pg λQa A outer s H vs Q E c h=>?_
 ·obtain @⟨t,line,b,rfl,d,e,g,q⟩:=h
  intro X;refine⟨_,aF (bE (g8 (gP (bA a c (aa (pv 0) (aa (pv 1) ai))))) sV bZ),?_⟩;exact a4 rfl rfl (q3.mk rfl d e g λY i=>⟨true,rfl,q Y i⟩)
inductive qI(C:Up)(vs:List V)(H:Hp)(Q:VK)(E:XK):Prop
 |mk{x dl de dx:Up}(_:vs=[.ref x,.ref dl,.ref de])(_:H x=ih (.ins C dx []))(_:∀dh,H dh=none->Q .aO (upd (upd H dh (.dT [])) x (.ins C dx (fF dl de dh 0)))):qI C vs H Q E
theorem NR:bp ["self","lines","entries"] ["self","lines","entries"] (aH uX):=bw
theorem MV(F:aQ K "__init__" "Finds.__init__" uX f fd)(T:jN K mg C):aT P w K mg base aI 1 f fd ["self","lines","entries"] (qI C):=by
 refine F.bG NR λQa A outer s H vs Q E i h=>?_
 ·obtain @⟨x,dl,de,dx,rfl,g,q⟩:=h
  intro X;refine⟨_,ax (fQ (pv 0) (pv 1) rfl) (ax (fQ (pv 0) (pv 2) rfl) (ax (fQ (pv 0) pI rfl) (aF (fQ (pv 0) aw rfl)))),?_⟩;refine a4 rfl rfl ⟨x,C,dx,[],rfl,g,T.cl,T.nl,(by show 0<1000;decide),?_⟩
  refine a4 rfl rfl ⟨x,C,dx,_,rfl,ah,T.cl,T.ne,(by show 1<1000;decide),?_⟩
  rw[fg];intro dh a;have c:x≠dh:=aA ah a;refine af rfl ⟨x,C,dx,_,rfl,by rw[ag c];exact ah,T.cl,T.nh,(by show 2<1000;decide),?_⟩
  refine af rfl ⟨x,C,dx,_,rfl,ah,T.cl,T.nm,(by show 3<1000;decide),?_⟩
  rw[fg,L0];have d:H dh=none:=by
   cases e:H dh with
   |none=>rfl
   |some u=>rw[ag (aP c),e]at a;cases a
  have e:∀o o':HO,upd (upd (upd H x o) dh (.dT [])) x o'=upd (upd H dh (.dT [])) x o':=λo o'=>by
   funext b
   by_cases h1:b=x
   ·subst h1;rw[ah,ah]
   ·rw[ag h1,ag h1]
    by_cases h2:b=dh
    ·subst h2;rw[ah,ah]
    ·rw[ag h2,ag h2,ag h1]
  rw[e];exact q dh d
theorem L1{c:Bool}{a:Int}{tb:TE}(hK:Nat->Prop)(h1:c=true ->∃s:Nat,a=s/\hK s)(h2:c=false->(∀s:Nat,hK s->Q (.int s) H)->tb σ H Q)(b:∀s:Nat,hK s->Q (.int s) H):if c=true then tC (.int a) σ H Q else tb σ H Q:=by
 cases c with
 |false=>exact h2 rfl b
 |true =>
  obtain⟨s,e,d⟩:=h1 rfl;show Q (.int a) H;rw[e];exact b s d
theorem tL{α:Type} [BEq α] [LawfulBEq α]{b:α}{line:am α}(h:b∈line):line[line.idxOf b]?=ih b /\∀m,m<line.idxOf b->line[m]? ≠ ih b:=by
 have a:=List.idxOf_lt_length_iff.mpr h;refine⟨by rw[bz a,GY],λm c z=>?_⟩
 obtain⟨d,e⟩:=bR.mp z;have:=List.not_of_lt_findIdx (p:=λx=>x==b) (xs:=line) (i:=m) c;simp[e]at this
theorem l7{bk:Bk}{l:am Gv}(ok:fZ bk):∀x d,c4 bk n l=ih (x,d)->Nm x/\Ent d:=λx d h=>by
 have a:=m4 (l6 h).2;exact⟨(ok.nm _ a).1,ok.ent _ a⟩
inductive qw(C:Up)(vs:List V)(H:Hp)(Q:VK)(E:XK):Prop
 |mk{x dx dl de dh a:Up}{kl:List (Key×V)}{ke kh:List (List Key×V)}{m:Int}{bk:Bk}{kind name gf:Gv}{line:List Gv}(_:vs=[.ref x,.str kind,.str name,.str gf])(_:FI C x dx dl de dh kl ke kh m bk H)(_:bo kl (F3 kind)=ih (.ref a))(_:H a=ih (.tup (line.map V.str)))(_:line.length<=200)(_:(gf = "" \/ gf∈line))(_:∀v m' H',(∀b u,b≠x->H b=ih u->H' b=ih u)->H' x=ih (.ins C dx (fF dl de dh m'))->eJ H' v (c4 bk name (c9 line gf))->Q v H'):qw C vs H Q E
noncomputable abbrev QT:List Gv:=["self","kind","name","behind","line","start","other"]
theorem q5:bp QT ["self","kind","name","behind"] (aH uZ):=bw
theorem L3(F:aQ K "walk" "Finds.walk" uZ f fd)(T:jN K mg C):aT P w K mg base aI 1 f fd ["self","kind","name","behind"] (qw C):=by
 refine F.bG q5 λQa A outer s H vs Q E zh h=>?_
 ·obtain @⟨x,dx,dl,de,dh,a,xi,xf,kh,m,bk,xb,name,g,line,rfl,fi,yi,R,yl,zi,q⟩:=h
  have xj:=zh.units;have O:=eQ xj;intro X;refine⟨_,ax (ba 4 q5.nd (eY O (cf (pv 0) rfl) (pv 1)))
   (ax (ba 5 q5.nd (JE (bJ ei (pv 3) bu (bS _)) aw (bO fK (gq PySem.F.plainAttrs_tuple U9 PySem.F.type_tuple_index Jh (pv 4) (aa (pv 3) ai)) aw)))
   (ax (fk eL rfl (kH (h8 CH (pv 4) (gN (pv 5)) iQ)) (br 6 q5.nd)
    (ax (m9 (pv 0) aw qo)
    (aF (bE (g7 (jE O (cN (aa (pv 6) (aa (pv 2) ai))) (cf (pv 0) rfl))) (aF (a9 (cN (aa (pv 6) (aa (eY O (cf (pv 0) rfl) (cN (aa (pv 6) (aa (pv 2) ai)))) ai))))) bZ))))
   (aF (a9 ez)))),?_⟩
  refine af rfl ⟨x,C,dx,_,.ref dl,rfl,fi.hx,T.cl,T.nl,Ce,_,rfl,dl,.ref a,rfl,.inl ⟨xi,F3 xb,.inl fi.hl,rfl,yi.symm⟩,?_⟩;refine af rfl ⟨rfl,_,rfl,?_⟩;refine L1 (λS=>c9 line g=line.drop S) (λe=>⟨0,rfl,?_⟩) (λe k=>?_) ?_
  ·have e:=eg e
   injection e with e;unfold c9;rw[ay e];rfl
  ·have yb:g ≠ "" :=λz=>by rw[z]at e;exact absurd e (by rw[cc rfl];intro y;cases y)
   have yj:g∈line:=zi.resolve_left yb;obtain⟨zj,xk⟩:=tL yj;exact af rfl ⟨.inr (.inr (.inr (.inr ⟨rfl,_,Rd.of R⟩))),_,rfl,a,line,g,line.idxOf g,rfl,rfl,aZ.of R,zj,xk,_,_,rfl,rfl,k (line.idxOf g+1) (by unfold c9;rw[aq yb])⟩
  intro S xg;refine ek rfl rfl rfl ⟨a,_,rfl,R,λsp J B l=>?_⟩;rw[pQ,<-lK,<-xg]at l;obtain⟨rest,zf⟩:∃rest,c9 line g=rest:=⟨_,rfl⟩;rw[zf]at l q;have zb:=B _ _ fi.hx;refine⟨sp,rfl,⟨_,aZ.of l⟩,K2 (xs:=rest.map V.str) (λi σ Y=>∃(c:Int) (U:a2 V),σ=[bd x,ih (.str xb),ih (.str name),ih (.str g),bd a,ih (.int S),U]/\(∀b u,b≠x->J b=ih u->Y b=ih u)/\Y x=ih (.ins C dx (fF dl de dh c)) /\∀y∈rest.take i,cU bk y name=none)
   ⟨m,none,rfl,λb u _ e=>e,zb,λy j=>(by cases j)⟩ (λi σ Y _ ab=>by obtain⟨_,_,_,z,_⟩:=ab;exact aZ.of (z _ _ (ar l zb (by intro y;cases y)) l)) ?_ ?_⟩
  ·rintro i y σ Y j ⟨c,U,rfl,kp,I,no⟩
   obtain⟨xc,rfl⟩:=pZ j;have yg:rest.take (i+1)=rest.take i++[rest[i]]:=by rw[dX,bz xc];rfl
   refine af rfl ⟨x,C,dx,_,.int c,rfl,I,T.cl,T.nm,MU,_,_,rfl,rfl,dx,_,I,by show 4<1000;decide,?_⟩
   rw[MT];have yc:∀b u,b≠x->J b=ih u->upd Y x (.ins C dx (fF dl de dh (c+1))) b=ih u:=λb u n e=>by rw[ag n];exact kp b u n e
   have zc:upd Y x (.ins C dx (fF dl de dh (c+1))) x=ih (.ins C dx (fF dl de dh (c+1))):=ah;generalize upd Y x (.ins C dx (fF dl de dh (c+1)))=H2 at yc zc⊢;refine a4 rfl rfl ⟨bF,λL zg=>?_⟩;have W:=aK (o:=.tup [V.str rest[i],V.str name]) zg;have xd:upd H2 L (.tup [V.str rest[i],V.str name]) L=bn (([F3 rest[i],F3 name]:am Key).map kV):=ah;have p:=W _ _ zc;have r:∀b u,b≠x->J b=ih u->upd H2 L (.tup [V.str rest[i],V.str name]) b=ih u:=λb u n e=>W _ _ (yc b u n e);generalize upd H2 L (.tup [V.str rest[i],V.str name])=D at W xd p r⊢;have xh:de≠x:=ar fi.he fi.hx
   have yd:D de=ev xf:=r _ _ xh (B _ _ fi.he);have yk:b7 D xf bk:=fi.du.keep (λb xs e=>r _ _ (ar e fi.hx) (B _ _ e)) fi.ok.ent
   refine af rfl ⟨x,C,dx,_,.ref de,rfl,p,T.cl,T.ne,AO,de,_,rfl,cm.t (k:=[F3 rest[i],F3 name]) yd xd,_,rfl,?_⟩;rcases yk.look (k:=rest[i]) (n:=name) fi.ok.nd with⟨xa,M⟩|⟨v,d,xa,M,zk⟩
   ·rw[M]
    refine⟨c+1,_,rfl,r,p,λy j=>?_⟩;rw[yg]at j;rcases cj.mp j with z|z
    ·exact no y z
    ·rw[bX.mp z];exact xa
   ·rw[M]
    refine a4 rfl rfl ⟨x,C,dx,_,.ref de,rfl,p,T.cl,T.ne,AO,_,rfl,_,rfl,bF,λN yh=>?_⟩;have G:=aK (o:=.tup [V.str rest[i],V.str name]) yh;have zd:upd D N (.tup [V.str rest[i],V.str name]) N=bn (([F3 rest[i],F3 name]:am Key).map kV):=ah;have xe:=G _ _ yd;have ye:=G _ _ p;have yf:=zk.same G;have ze:∀b u,b≠x->J b=ih u->upd D N (.tup [V.str rest[i],V.str name]) b=ih u:=λb u n e=>G _ _ (r b u n e);generalize upd D N (.tup [V.str rest[i],V.str name])=zl at G zd xe ye yf ze⊢;refine⟨de,v,rfl,by rw[<-M];exact cm.t (k:=[F3 rest[i],F3 name]) xe zd,bF,λt xl=>?_⟩
    have ya:=aK (o:=.tup [V.str rest[i],v]) xl;have za:c4 bk name rest=ih (rest[i],d):=by
     conv=>lhs;rw[<-wX i rest,lF xc]
     rw[m7 (x:=rest[i]) _ no];exact ui xa
    refine q (.ref t) (c+1) _ (λb u n e=>ya _ _ (ze b u n (B _ _ e))) (ya _ _ ye) ?_;rw[za];exact⟨t,v,rfl,ah,yf.same ya⟩
  ·rintro σ Y ⟨c,U,rfl,kp,I,no⟩
   rw[aE,cM]at no;refine q .aO c Y (λb u n e=>kp b u n (B _ _ e)) I ?_;have za:c4 bk name rest=none:=by
    have:=m7 (x:=name) rest no [];rw[ee]at this;exact this
   rw[za];rfl
def iX(H:Hp)(kh:List (List Key×V))(bk:Bk)(L:Gv->List Gv):Prop:= ∀k n b v,bo kh [F3 k,F3 n,F3 b]=ih v->eJ H v (c4 bk n (c9 (L k) b))
theorem iX.keep{bk:Bk}(h:iX H kh bk L)(ok:fZ bk)(k:∀b xs,H b=bn xs->H' b=bn xs):iX H' kh bk L:=λa n b v e=>(h a n b v e).keep k λx d z=>(l7 ok x d z).2
inductive ml(C:Up)(vs:List V)(H:Hp)(Q:VK)(E:XK):Prop
 |mk{x dx dl de dh:Up}{kl:List (Key×V)}{ke kh:List (List Key×V)}{m:Int}{bk:Bk}{kind name gf:Gv}{L:Gv->List Gv}(_:vs=[.ref x,.str kind,.str name,.str gf])(_:FI C x dx dl de dh kl ke kh m bk H)(_:gD H kl L kind)(_:(L kind).length<=200)(_:(gf = "" \/ gf∈L kind))(_:iX H kh bk L)(_:kh.length<=1000000)(_:∀v eb m' H',(∀b u,b≠x->b≠dh->H b=ih u->H' b=ih u)->FI C x dx dl de dh kl ke eb m' bk H'->iX H' eb bk L->eb.length<=kh.length+1->eJ H' v (c4 bk name (c9 (L kind) gf))->Q v H'):ml C vs H Q E
noncomputable abbrev QU:List Gv:=["self","kind","name","behind","place"]
theorem Ej:bp QU ["self","kind","name","behind"] (aH uY):=bw
theorem L4{fW:Up}{xb:Xt}(F:aQ K "look" "Finds.look" uY f fd)(T:jN K mg C)(ye:aT P w K mg base aI 1 fW xb ["self","kind","name","behind"] (qw C))(ze:Meth K C "walk" fW)(xf:Binds K xb ["self","kind","name","behind"] []):aT P w K mg base aI 2 f fd ["self","kind","name","behind"] (ml C):=by
 refine F.bG Ej λQa A outer s H vs Q E yb h=>?_
 ·obtain @⟨x,dx,dl,de,dh,zb,M,kh,m,bk,c,name,g,L,rfl,fi,⟨a,yf,zf⟩,xg,yg,zg,xi,q⟩:=h
  have xh:=yb.units;have D:=eQ xh;intro X;refine⟨_,ax (ba 4 Ej.nd (cN (aa (pv 1) (aa (pv 2) (aa (pv 3) ai)))))
   (ax (bE (g7 (Bc D (pv 4) (cf (pv 0) rfl))) (aF (gO D (cf (pv 0) rfl) (pv 4) (g6 (pv 0) T.cl ze ye yb xf .nil c3 (aa (pv 1) (aa (pv 2) (aa (pv 3) ai)))) rfl)) bZ)
   (aF (a9 (eY D (cf (pv 0) rfl) (pv 4))))),?_⟩
  refine ek rfl rfl rfl ⟨gC,λpt zc=>?_⟩;have j:=aK (o:=.tup [V.str c,V.str name,V.str g]) zc;have y:upd H pt (.tup [V.str c,V.str name,V.str g]) pt=bn (([F3 c,F3 name,F3 g]:am Key).map kV):=ah;generalize upd H pt (.tup [V.str c,V.str name,V.str g])=Y at j y⊢;have i:FI C x dx dl de dh zb M kh m bk Y:=⟨j _ _ fi.hx,j _ _ fi.hl,j _ _ fi.he,j _ _ fi.hh,fi.du.same j,fi.ok,fi.nn⟩;have G:iX Y kh bk L:=zg.keep fi.ok λb xs e=>j _ _ e;have S:x≠dh:=ar fi.hx fi.hh
  have xd:dl≠dh:=ar fi.hl fi.hh
  refine a4 rfl rfl ⟨x,C,dx,_,.ref dh,rfl,i.hx,T.cl,T.nh,qf,dh,_,rfl,cm.t (k:=[F3 c,F3 name,F3 g]) i.hh y,_,rfl,?_⟩;cases xc:bo kh [F3 c,F3 name,F3 g] with
  |some v =>
   refine af rfl ⟨x,C,dx,_,.ref dh,rfl,i.hx,T.cl,T.nh,qf,_,rfl,dh,v,rfl,by rw[<-xc];exact cm.t (k:=[F3 c,F3 name,F3 g]) i.hh y,?_⟩
   exact q v kh m Y (λb u _ _ e=>j _ _ e) i G (gg _) (G c name g v xc)
  |none =>
   refine af rfl ⟨x,dx,_,rfl,i.hx,u4 (by decide +kernel) (by decide +kernel) (by decide +kernel) (by decide +kernel),_,rfl,_,rfl,_,rfl,qw.mk rfl i yf (j _ _ zf) xg yg λv yc H2 p U yd=>?_⟩
   have I:∀b xs,Y b=bn xs->H2 b=bn xs:=λb xs e=>p _ _ (ar e i.hx) e
   have W:=p _ _ (aP S) i.hh;have xa:=I _ _ y;have yh:b7 H2 M bk:=i.du.keep I fi.ok.ent;refine af rfl ⟨x,C,dx,_,.ref dh,rfl,U,T.cl,T.nh,qf,_,rfl,dh,_,rfl,eP.t (k:=[F3 c,F3 name,F3 g]) W xa (by rw[aX];omega),?_⟩
   have J:upd H2 dh (.dT (putK kh [F3 c,F3 name,F3 g] v)) dh=ev (putK kh [F3 c,F3 name,F3 g] v):=ah;have l:∀b u,b≠dh->H2 b=ih u->upd H2 dh (.dT (putK kh [F3 c,F3 name,F3 g] v)) b=ih u:=λb u n e=>by rw[ag n];exact e
   generalize upd H2 dh (.dT (putK kh [F3 c,F3 name,F3 g] v))=r at J l⊢;have B:∀b xs,H2 b=bn xs->r b=bn xs:=λb xs e=>l _ _ (ar e W) e
   have ya:=l _ _ S U;have zd:FI C x dx dl de dh zb M (putK kh [F3 c,F3 name,F3 g] v) yc bk r:=⟨ya,l _ _ xd (p _ _ (ar i.hl i.hx) i.hl),l _ _ fi.nn (p _ _ (ar i.he i.hx) i.he),J,yh.keep B fi.ok.ent,fi.ok,fi.nn⟩
   have za:eJ r v (c4 bk name (c9 (L c) g)):=yd.keep B λx d z=>(l7 fi.ok x d z).2;have xe:iX r (putK kh [F3 c,F3 name,F3 g] v) bk L:=λk n b u e=>by
    rw[iN]at e
    by_cases z:([F3 k,F3 n,F3 b]:am Key)=[F3 c,F3 name,F3 g]
    ·rw[ay z]at e
     cases e
     injection z with N z;injection z with O z;injection z with R z;injection N with N;injection O with O;injection R with R;rw[N,O,R];exact za
    ·rw[aq z]at e
     exact((G k n b u e).keep I λx d z=>(l7 fi.ok x d z).2).keep B λx d z=>(l7 fi.ok x d z).2
   refine af rfl ⟨x,C,dx,_,.ref dh,rfl,ya,T.cl,T.nh,qf,_,rfl,dh,v,rfl,?_,?_⟩
   ·have:=cm.t (k:=[F3 c,F3 name,F3 g]) J (B _ _ xa)
    rw[iN,ay rfl]at this;exact this
   ·exact q v _ yc r (λb u n1 zh e=>l _ _ zh (p _ _ n1 (j _ _ e))) zd xe (lQ _ _ _) za
structure FB(H:Hp)(t tb:Up)(o:Ye)(ws wb:List V)(Qb:List (Gv×List Gv))(L:Gv->List Gv)(bk:Bk):Prop where
 ht:H t=ih (.bT o (.tup ws))
 od:o.dict=none
 fv:cK H ws Qb
 fo:jH Qb L
 hb:H tb=ih (.tup wb)
 bv:cO H wb bk
 ok:fZ bk
theorem FB.same{t tb:Up}{bk:Bk}(h:FB H t tb o ws wb Qb L bk)(S:aB H H'):FB H' t tb o ws wb Qb L bk:=
 ⟨S _ _ h.ht,h.od,h.fv.same S,h.fo,S _ _ h.hb,cO.same S h.bv,h.ok⟩
theorem FB.a5{t tb:Up}{bk:Bk}(h:FB H t tb o ws wb Qb L bk){k:Gv}(a:k∈Qb.map (·.1)):(L k).length<=200:=by
 obtain⟨p,b,rfl⟩:=aY.mp a;obtain⟨_,q,_,e,c⟩:=h.fo.line p b;rw[e,cS];omega
inductive q6(C:Up)(vs:List V)(H:Hp)(Q:VK)(E:XK):Prop
 |mk{t tb:Up}{o:Ye}{ws wb:List V}{Qb:List (Gv×List Gv)}{L:Gv->List Gv}{bk:Bk}(_:vs=[.ref t,.ref tb])(_:FB H t tb o ws wb Qb L bk)(_:∀x dx dl de dh kl ke H',aB H H'->FI C x dx dl de dh kl ke [] 0 bk H'->(∀p∈Qb,gD H' kl L p.1)->H x=none->H dh=none->Q (.ref x) H'):q6 C vs H Q E
theorem Ph:bp ["family","book"] ["family","book"] (aH tE):=bw
theorem NT{R:Up}{S:Xt}(F:aQ K "finds_in" "finds_in" tE f fd)(T:jN K mg C)
  (U:bV P w K mg base aI 5 fL dL ["family"] qe "lines_of")
  (V:bV P w K mg base aI 1 R S ["book"] q0 "entries_by_place")
  (M:Mk K C fI) (W:aT P w K mg base aI 1 fI dI ["self","lines","entries"] (qI C)) (xa:Binds K dI ["self","lines","entries"] []):aT P w K mg base aI 6 f fd ["family","book"] (q6 C):=by
 refine F.bG Ph λQa A outer s H vs Q E ya h=>?_
 ·obtain @⟨t,tb,o,ws,wb,Qb,L,bk,rfl,c,q⟩:=h
  have i:a' 5 _:=ya;have B:a' 2 _:=i.mono (by decide)
  have D:a' 1 _:=i.mono (by decide)
  intro X;refine⟨_,aF (a9 (tS M W B rfl T.oH xa .nil c3 (aa (bA U i (aa (pv 0) ai)) (aa (bA V D (aa (pv 1) ai)) ai)))),?_⟩;refine af rfl (qe.mk rfl c.ht c.fv c.fo λdl za Y zc v h1 G _=>?_);have j:=c.same v;refine af rfl (q0.mk rfl j.hb j.bv j.ok λde xb H2 xd m h2 yb=>?_);intro x dx n I ne;have zb:=aK (o:=.own x) I;have J:upd H2 dx (.own x) x=none:=by rw[ag (aP ne)];exact n
  have g:=zb.trans (aK (o:=.ins C dx []) J);have k:upd (upd H2 dx (.own x)) x (.ins C dx []) x=ih (.ins C dx []):=ah;generalize upd (upd H2 dx (.own x)) x (.ins C dx [])=y at g k⊢;refine qI.mk rfl k λdh d=>⟨rfl,?_⟩;have z:=aK (o:=.dT []) d;have N:x≠dh:=aA k d;have r:upd y dh (.dT []) dh=ev []:=ah;generalize upd y dh (.dT [])=xc at z r⊢;have l:=v.trans m;have O:=g.trans z;have a:∀b u,H2 b=ih u->upd xc x (.ins C dx (fF dl de dh 0)) b=ih u:=λb u e=>by rw[ag (aA e n)];exact O _ _ e
  refine q x dx dl de dh za xb _ (λb u e=>a _ _ (l _ _ e)) ⟨ah,a _ _ (m _ _ h1),a _ _ h2,by rw[ag (aP N)];exact r,yb.same a,c.ok,?_⟩ (λp yc=>(G p yc).same λb u e=>a _ _ (m _ _ e)) (l.free n) ((l.trans g).free d)
  exact aA (g _ _ h2) d
abbrev Own:=List (Gv×Int)
abbrev Ask:=Gv×Gv
inductive Rs where
 |told (z:Int):Rs
 |miss (n:Gv):Rs
def jF(d:UH):Bool:=decide (a3 d = "ahead" \/ a3 d = "shut")
structure aW where
 line:List Gv
 bk:Bk
 own:Own
namespace aW
variable(W:aW)
def look(a:Ask):Option (Gv×UH):=c4 W.bk a.1 (c9 W.line a.2)
def fz(a:Ask):Bool:=match W.look a with|none=>true|some p=>!jF p.2
def dJ(a:Ask):Option Int:=if a.2 = "" /\ W.fz a=true then W.own.lookup a.1 else none
def need(n w:Gv)(d:UH):Option Ask:=if a3 d = "ask" then ih (eI d,"") else if a3 d = "onward" then (if (W.look (n,w)).isSome then ih (n,w) else none) else none
end aW
def stepT(t:Int)(d:UH):Int:=if a3 d = "add" then t+hJ d else if a3 d = "times" then t * hJ d else t
def aW.ec(W:aW)(f:Ask->Option Rs)(n w:Gv):List UH->Int->Option Rs
 |[],t=>ih (.told t)
 |d::ds,t=>match W.need n w d with
  |none=>W.ec f n w ds (stepT t d)
  |some b=>match f b with
   |none=>none
   |some (.miss m)=>ih (.miss m)
   |some (.told z)=>W.ec f n w ds (t+z)
def aW.dw(W:aW)(f:Ask->Option Rs)(a:Ask):Option Rs:=match W.dJ a with
 |some z=>ih (.told z)
 |none=>match W.look a with
  |none=>ih (.miss a.1)
  |some (w,d)=>W.ec f a.1 w (bM d) 0
def aW.out(W:aW):Nat->Ask->Option Rs
 |0,_=>none
 |k+1,a=>W.dw (W.out k) a
def aW.Out(W:aW)(a:Ask)(r:Rs):Prop:= ∃k,W.out k a=ih r
section
variable{W:aW}{f g:Ask->Option Rs}{w:Gv}
theorem pV(h:∀a r,f a=ih r->g a=ih r):∀{ds:am UH}{t:Int}{r:Rs},W.ec f n w ds t=ih r->W.ec g n w ds t=ih r
 |[],t,r,e=>e
 |d::ds,t,r,e=>by
  unfold aW.ec at e⊢;cases i:W.need n w d with
  |none=>rw[i]at e;exact pV h e
  |some b =>
   rw[i]at e
   dsimp only at e⊢
   cases c:f b with
   |none=>rw[c]at e;cases e
   |some x =>
    have j:=h b x c;rw[j];rw[c]at e;cases x with
    |miss m=>exact e
    |told z=>exact pV h e
theorem IJ(h:∀a r,f a=ih r->g a=ih r){a:Ask}{r:Rs}(e:W.dw f a=ih r):W.dw g a=ih r:=by
 unfold aW.dw at e⊢;cases b:W.dJ a with
 |some z=>rw[b]at e;exact e
 |none =>
  rw[b]at e;cases c:W.look a with
  |none=>rw[c]at e;exact e
  |some p=>rw[c]at e;exact pV h e
theorem Cf:∀{k:Nat}{a:Ask}{r:Rs},W.out k a=ih r->W.out (k+1) a=ih r
 |0,_,_,h=>by cases h
 |k+1,_,_,h=>IJ (λ_ _=>Cf) h
theorem qx{k m:Nat}{a:Ask}{r:Rs}(b:k<=m)(h:W.out k a=ih r):W.out m a=ih r:=by
 induction b with
 |refl=>exact h
 |step _ c=>exact Cf c
theorem Out.uniq{a:Ask}{r r':Rs}(h:W.Out a r)(h':W.Out a r'):r=r':=by
 obtain⟨k,b⟩:=h;obtain⟨m,c⟩:=h';rcases Nat.le_total k m with z|z
 ·have:=qx z b;rw[c]at this;exact(cZ this).symm
 ·have:=qx z c;rw[b]at this;exact cZ this
theorem Out.own{a:Ask}(h:W.dJ a=ih z):W.Out a (.told z):=⟨1,by show W.dw _ a=_;unfold aW.dw;rw[h]⟩
theorem Out.none{a:Ask}(h:W.dJ a=none)(b:W.look a=none):W.Out a (.miss a.1):=⟨1,by show W.dw _ a=_;unfold aW.dw;rw[h,b]⟩
structure bb where
 a:Ask
 w:Gv
 left:List UH
 t:Int
structure bN(W:aW)(f:bb):Prop where
 up:∀k r,W.ec (W.out k) f.a.1 f.w f.left f.t=ih r->W.Out f.a r
 dn:∀k r,W.out (k+1) f.a=ih r->W.ec (W.out k) f.a.1 f.w f.left f.t=ih r
 lk:W.dJ f.a=none /\∃d pre,W.look f.a=ih (f.w,d)/\bM d=pre++f.left /\∀s∈pre,∀b,W.need f.a.1 f.w s=ih b ->∃r,W.Out b r
theorem bN.new{a:Ask}{w:Gv}{d:UH}(h:W.dJ a=none)(b:W.look a=ih (w,d)):bN W ⟨a,w,bM d,0⟩:=by
 have e:∀k,W.out (k+1) a=W.ec (W.out k) a.1 w (bM d) 0:=λk=>by show W.dw _ a=_;unfold aW.dw;rw[h,b]
 exact⟨λk r z=>⟨k+1,(e k).trans z⟩,λk r z=>(e k).symm.trans z,h,d,[],b,rfl,λ_ c=>(by cases c)⟩
theorem bN.behind{f:bb}{d:UH}{ds:am UH}(h:bN W f)(e:f.left=d::ds)(i:∀b,W.need f.a.1 f.w d=ih b ->∃r,W.Out b r):W.dJ f.a=none /\∃c pre,W.look f.a=ih (f.w,c)/\bM c=pre++ds /\∀s∈pre,∀b,W.need f.a.1 f.w s=ih b ->∃r,W.Out b r:=by
 obtain⟨h1,c,pre,h2,j,k⟩:=h.lk;exact⟨h1,c,pre++[d],h2,by rw[j,e,lD];rfl,λs l b g=>by
  rcases cj.mp l with z|z
  ·exact k s z b g
  ·rw[bX.mp z]at g;exact i b g⟩
theorem bN.step{f:bb}{d:UH}{ds:am UH}(h:bN W f)(e:f.left=d::ds)(c:W.need f.a.1 f.w d=none):bN W ⟨f.a,f.w,ds,stepT f.t d⟩:=by
 have e1:∀k,W.ec (W.out k) f.a.1 f.w f.left f.t=W.ec (W.out k) f.a.1 f.w ds (stepT f.t d):=λk=>by rw[e];show(match W.need f.a.1 f.w d with|none=>_|some b=>_)=_;rw[c]
 exact⟨λk r z=>h.up k r ((e1 k).trans z),λk r z=>(e1 k).symm.trans (h.dn k r z),h.behind e λb g=>(by rw[c]at g;cases g)⟩
theorem jA{a:Ask->Option Rs}{d:UH}{ds:am UH}{t:Int}{b:Ask}(c:W.need n w d=ih b):W.ec a n w (d::ds) t=match a b with|none=>none|some (.miss m)=>ih (.miss m)|some (.told z)=>W.ec a n w ds (t+z):=by
 show(match W.need n w d with|none=>_|some b=>_)=_;rw[c]
theorem bN.take{f:bb}{d:UH}{ds:am UH}{b:Ask}(h:bN W f)(e:f.left=d::ds)(i:W.need f.a.1 f.w d=ih b)(l:W.Out b (.told z)):bN W ⟨f.a,f.w,ds,f.t+z⟩:=by
 obtain⟨m,j⟩:=l;refine⟨λk r y=>h.up (max k m) r ?_,λk r y=>?_,h.behind e λn c=>(by rw[i]at c;cases c;exact⟨_,m,j⟩)⟩
 ·rw[e,jA i,qx (Nat.le_max_right k m) j]
  exact pV (λ_ _ q=>qx (Nat.le_max_left k m) q) y
 ·have g:=h.dn k r y
  rw[e,jA i]at g;cases c:W.out k b with
  |none=>rw[c]at g;cases g
  |some x =>
   have:=Out.uniq (W:=W) ⟨k,c⟩ ⟨m,j⟩;subst this;rw[c]at g;exact g
theorem bN.miss{f:bb}{d:UH}{ds:am UH}{b:Ask}{m:Gv}(h:bN W f)(e:f.left=d::ds)(c:W.need f.a.1 f.w d=ih b)(g:W.Out b (.miss m)):W.Out f.a (.miss m):=by
 obtain⟨k,i⟩:=g;exact h.up k _ (by rw[e,jA c,i])
theorem bN.done{f:bb}(h:bN W f)(e:f.left=[]):W.Out f.a (.told f.t):=h.up 0 _ (by rw[e];rfl)
theorem bN.DH{f:bb}{d:UH}{ds:am UH}{b:Ask}(h:bN W f)(e:f.left=d::ds)(c:W.need f.a.1 f.w d=ih b){k:Nat}{r:Rs}(g:W.out (k+1) f.a=ih r):∃r',W.out k b=ih r':=by
 have y:=h.dn k r g;rw[e,jA c]at y;cases i:W.out k b with
 |none=>rw[i]at y;cases y
 |some x=>exact⟨x,rfl⟩
def gr(W:aW)(f:bb):Option Ask:=match f.left with | []=>none|d::_=>W.need f.a.1 f.w d
def Chain(W:aW):List bb->Ask->Prop
 |[],_=>True
 |[f],b=>gr W f=ih b
 |f::g::r,b=>gr W f=ih g.a/\Chain W (g::r) b
theorem km{W:aW}{f:bb}{b:Ask}(h:gr W f=ih b):∃d ds,f.left=d::ds/\W.need f.a.1 f.w d=ih b:=by
 unfold gr at h;cases e:f.left with
 |nil=>rw[e]at h;cases h
 |cons d ds=>rw[e]at h;exact⟨d,ds,rfl,h⟩
theorem AQ{m:Gv}:∀{fs:am bb}{b a:Ask},(∀f∈fs,bN W f)->Chain W fs b->(fs.head?.map (·.a)).getD b=a->W.Out b (.miss m)->W.Out a (.miss m)
 |[],b,a,_,_,e,h=>by cases e;exact h
 |[f],b,a,ok,c,e,h=>by
  cases e
  obtain⟨d,ds,e1,e2⟩:=km c;exact(ok f aV).miss e1 e2 h
 |f::g::r,b,a,ok,c,e,h=>by
  cases e
  obtain⟨d,ds,e1,e2⟩:=km c.1;exact(ok f aV).miss e1 e2 (AQ (λx i=>ok x (a7 _ i)) c.2 rfl h)
theorem sU:∀{fs:am bb}{b:Ask},(∀f∈fs,bN W f)->Chain W fs b ->∀{f:bb}{k:Nat}{r:Rs},fs.head?=ih f->W.out k f.a=ih r ->∃i r',i<k/\W.out i b=ih r'
 |[],_,_,_,_,_,_,h,_=>by cases h
 |[f],b,ok,c,_,k,r,h,e=>by
  cases h
  obtain⟨d,ds,e1,e2⟩:=km c;cases k with
  |zero=>cases e
  |succ k=>obtain⟨r',j⟩:=(ok f aV).DH e1 e2 e;exact⟨k,r',j4 _,j⟩
 |f::g::l,b,ok,c,_,k,r,h,e=>by
  cases h
  obtain⟨d,ds,e1,e2⟩:=km c.1;cases k with
  |zero=>cases e
  |succ k =>
   obtain⟨r',j⟩:=(ok f aV).DH e1 e2 e;obtain⟨i,m,o,n⟩:=sU (λx p=>ok x (a7 _ p)) c.2 rfl j;exact⟨i,m,lJ o,n⟩
theorem KH{fs:am bb}{f:bb}{b:Ask}(ok:∀f∈fs,bN W f)(c:Chain W fs b)(h:fs.head?=ih f)(e:f.a=b):∀k,W.out k b=none:=by
 intro k
 induction k using Y9 with
 |_ k g =>
  cases i:W.out k b with
  |none=>rfl
  |some r =>
   obtain⟨j,m,l,d⟩:=sU ok c h (e ▸ i);rw[g j l]at d;cases d
theorem AR:∀{fs gs:am bb}{b:Ask},Chain W (fs++gs) b->Chain W gs b
 |[],_,_,c=>c
 |[f],[],_,_=>trivial
 |[f],g::gs,b,c=>c.2
 |f::g::r,gs,b,c=>AR (fs:=g::r) c.2
theorem m8:∀{fs:am bb}{b a:Ask},(∀f∈fs,bN W f)->Chain W fs b->(fs.head?.map (·.a)).getD b=a->(∀k,W.out k b=none) ->∀k,W.out k a=none
 |[],b,a,_,_,e,d,k=>by cases e;exact d k
 |f::l,b,a,ok,c,e,d,k=>by
  cases e
  cases g:W.out k f.a with
  |none=>exact g
  |some r =>
   obtain⟨i,r',_,h⟩:=sU ok c rfl g;rw[d i]at h;cases h
end
def b8(as:List Ask):List Gv:=(as.filter λa=>decide (a.2=("" : Gv))).map (·.1)
def eN(W:aW)(a:Ask)(ns:List Gv):Prop:= ∃(fs:List bb) (b:Ask) (i:Nat),(∀f∈fs,bN W f)/\Chain W fs b/\(fs.head?.map (·.a)).getD b=a/\(fs.map (·.a)).Nodup/\(fs.map (·.a))[i]?=ih b/\ns=b8 ((fs.map (·.a)).drop i)
theorem KI{W:aW}{fs:am bb}{a b:Ask}(ok:∀f∈fs,bN W f)(c:Chain W fs b)(e:(fs.head?.map (·.a)).getD b=a)(d:(fs.map (·.a)).Nodup)(hi:(fs.map (·.a))[i]?=ih b):eN W a (b8 ((fs.map (·.a)).drop i)):=⟨fs,b,i,ok,c,e,d,hi,rfl⟩
theorem uj{W:aW}{fs:am bb}{b:Ask}(ok:∀f∈fs,bN W f)(c:Chain W fs b)(hi:(fs.map (·.a))[i]?=ih b):(fs.drop i).head?.map (·.a)=ih b/\(∀f∈fs.drop i,bN W f)/\Chain W (fs.drop i) b /\∀k,W.out k b=none:=by
 have e:Chain W (fs.drop i) b:=AR (fs:=fs.take i) (by rw[wX];exact c)
 have d:∀f∈fs.drop i,bN W f:=λf h=>ok f (si h);have h2:(fs.drop i).head?.map (·.a)=ih b:=by rw[List.head?_drop,<-dQ];exact hi
 obtain⟨g,j,l⟩:=gi.mp h2;exact⟨h2,d,e,KH d e j l⟩
theorem eN.core{W:aW}{a:Ask}(h:eN W a ns):(∀k,W.out k a=none) /\∃(fs:am bb) (b:Ask),fs.head?.map (·.a)=ih b/\(∀f∈fs,bN W f)/\Chain W fs b/\(fs.map (·.a)).Nodup/\ns=b8 (fs.map (·.a)):=by
 obtain⟨fs,b,i,ok,c,e,g,hi,rfl⟩:=h;obtain⟨h2,d,j,l⟩:=uj ok c hi;exact⟨m8 ok c e l,fs.drop i,b,h2,d,j,by rw[lK];exact g.sublist (Vl _ _),by rw[lK]⟩
abbrev Th:=Gv×Gv×Own
def i7(H:Hp)(vs:List V)(own:Own):Prop:=XH (λv q=>∃c,v=V.ref c/\H c=ih (.tup [.str q.1,.int q.2])) vs own
def i8(H:Hp)(vs:List V)(cY:List Th):Prop:=XH (λv p=>∃a b us,v=V.ref a/\H a=ih (.tup [.str p.1,.str p.2.1,.ref b])/\H b=ih (.tup us)/\i7 H us p.2.2) vs cY
theorem i7.keep{own:Own}(h:i7 H vs own)(k:∀b xs,H b=bn xs->H' b=bn xs):i7 H' vs own:=Paired.imp' (λ_ _ a=>by obtain⟨c,e,q⟩:=a;exact ⟨c,e,k _ _ q⟩) h
theorem i8.keep{c:am Th}(h:i8 H vs c)(k:∀b xs,H b=bn xs->H' b=bn xs):i8 H' vs c:=Paired.imp' (λ_ _ d=>by obtain⟨a,b,us,e,q,r,o⟩:=d;exact ⟨a,b,us,e,k _ _ q,k _ _ r,o.keep k⟩) h
theorem i8.same{a:am Th}(h:i8 H vs a)(S:aB H H'):i8 H' vs a:=h.keep λ_ _ e=>S _ _ e
structure ix(H:Hp)(w t tb tt:Up)(wt:List V)(cY:List Th):Prop where
 hw:H w=ih (.tup [.ref t,.ref tb,.ref tt])
 ht:H tt=ih (.tup wt)
 tv:i8 H wt cY
 a5:cY.length<=5
 nm:∀p∈cY,Nm p.1
 nd:(cY.map (·.1)).Nodup
theorem ix.same{w t tb:Up}{b:am V}{a:am Th}(h:ix H w t tb tt b a)(S:aB H H'):ix H' w t tb tt b a:=⟨S _ _ h.hw,S _ _ h.ht,h.tv.same S,h.a5,h.nm,h.nd⟩
inductive q7(vs:List V)(H:Hp)(Q:VK)(E:XK):Prop
 |mk{x t tb tt:Up}{wt:List V}{cY:List Th}{th:Gv}(_:vs=[.ref x,.str th])(_:ix H x t tb tt wt cY)(_:Nm th)(_:∀H',aB H H'->Q (.bl (decide (th∈cY.map (·.1)))) H'):q7 vs H Q E
theorem Pj:bp ["world","thing"] ["world","thing"] (aH nA):=bw
def DI(e:Vc):Vc:=match e with|.Compare _ _ (r::_) _=>r|_=>.Constant .none 0 ⟨0,0,0,0⟩
noncomputable abbrev QV:Vc:=DI (uI (kW (cw (bB nA) 0)) 1)
theorem Ek:bY ["world","thing"] (aH nA) ["triple"] [none] (cI QV):=c8
theorem NV(F:aQ K "is_thing" "is_thing" nA f fd)(B:bV P w K mg base aI 1 fN dN ["thing"] mf "is_name"):aT P w K mg base aI 2 f fd ["world","thing"] q7:=by
 refine F.bG Pj λQa A outer s H vs Q E C h=>?_
 ·obtain @⟨x,t,tb,tt,k,v,th,rfl,h,n,q⟩:=h
  intro X;refine⟨_,aF (a9 (C5 (bA B C (aa (pv 1) ai)) (C4 (jy kr (pv 1) (dB rfl Ek (kH (aS bD (pv 0) aw)) (λs H fp=>⟨br 0 Ek.nd,eh,aS (jw K rfl) (pv 0) aw (λ_ _=>rfl)⟩)) rfl)))),?_⟩;refine af rfl (mf.mk rfl n λY l=>⟨true,rfl,ite_tt rfl ?_⟩);have h1:=h.same l;have a5:=h.a5;have u:=ff h.tv;refine a4 rfl rfl (bf h1.hw mE ⟨tt,rfl,⟨_,aZ.of h1.ht⟩,λc m=>?_⟩);refine lW (xs:=k) (λi ys d H2=>∃j:a2 V,d=[j]/\aB Y H2/\H2 c=ce ys/\ys=((v.take i).map (·.1)).map V.str) ⟨none,rfl,aK m,ah,rfl⟩ (λi ys d H2 L=>by obtain⟨_,_,D,G,_⟩:=L;exact ⟨G,aZ.of (D _ _ h1.ht)⟩) ?_ ?_
  ·rintro i y ys d H2 r ⟨j,rfl,g,h2,rfl⟩
   have z:i<k.length:=(bR.mp r).1;obtain⟨p,I,a,b,us,rfl,J,_⟩:=L2.Paired.get (h1.tv.same g) r;refine af rfl (bf J b4 ⟨h2,by rw[aE,aE,cz,aX];omega,cw_next z ⟨_,rfl,λb o e=>by rw[ag (aA e m)];exact g _ _ e,ah,?_⟩⟩)
   rw[dX,I,bc,bc];rfl
  ·rintro ys d H2 ⟨j,rfl,g,h2,rfl⟩
   rw[u,cM]at h2;refine⟨c,_,rfl,.inl (au.of h2),rfl,jt _,?_⟩;rw[aq b9,iM];exact q _ (l.trans g)
inductive q8(vs:List V)(H:Hp)(Q:VK)(E:XK):Prop
 |mk{x t tb tt:Up}{wt:List V}{cY:List Th}{th:Gv}(_:vs=[.ref x,.str th])(_:ix H x t tb tt wt cY)(_:th∈cY.map (·.1))(_:∀H',aB H H'->Q .aO H'):q8 vs H Q E
theorem Pk:bp ["world","thing"] ["world","thing"] (aH ub):=bw
theorem NW(F:aQ K "check_thing" "check_thing" ub f fd)(b:bV P w K mg base aI 2 fI dI ["world","thing"] q7 "is_thing"):aT P w K mg base aI 3 f fd ["world","thing"] q8:=by
 refine F.bG Pk λQa A outer s H vs Q E c h=>?_
 ·obtain @⟨x,t,tb,tt,j,i,th,rfl,h,a,q⟩:=h
  intro X;refine⟨_,aF (bE (g8 (gP (bA b c (aa (pv 0) (aa (pv 1) ai))))) sV bZ),?_⟩;obtain⟨p,d,e⟩:=aY.mp a;refine a4 rfl rfl (q7.mk rfl h (e ▸ h.nm p d) λY g=>⟨true,?_,q Y g⟩);rw[cc a]
def rW(H:Hp)(vs:List V)(cY:List Th):Prop:=XH (λv p=>∃r b us,v=V.ref r/\H r=ih (.tup [.str p.2.1,.ref b])/\H b=ih (.tup us)/\i7 H us p.2.2) vs cY
theorem rW.keep{c:am Th}(h:rW H vs c)(k:∀b xs,H b=bn xs->H' b=bn xs):rW H' vs c:=Paired.imp' (λ_ _ d=>by obtain⟨a,b,us,e,q,r,o⟩:=d;exact ⟨a,b,us,e,k _ _ q,k _ _ r,o.keep k⟩) h
inductive q9(vs:List V)(H:Hp)(Q:VK)(E:XK):Prop
 |mk{x t tb tt:Up}{wt:List V}{cY:List Th}{th:Th}(_:vs=[.ref x,.str th.1])(_:ix H x t tb tt wt cY)(_:th∈cY)(_:∀r b us H',aB H H'->H' r=ih (.tup [.str th.2.1,.ref b])->H' b=ih (.tup us)->i7 H' us th.2.2->Q (.ref r) H'):q9 vs H Q E
theorem Pl:bp ["world","thing"] ["world","thing"] (aH nB):=bw
def Pn(e:Vc):Vc:=match e with|.Subscript o _ _=>o|_=>.Constant .none 0 ⟨0,0,0,0⟩
abbrev QW:Vc:=Pn (kW (cw (bB nB) 1))
theorem El:bY ["world","thing"] (aH nB) ["triple","thing"] [none,ih 1] (cI QW):=c8
theorem NX{a:am Th}(b:(a.map (·.1)).Nodup){p q:Th}(c:p∈a)(d:q∈a)(e:p.1=q.1):p=q:=by
 induction a with
 |nil=>cases c
 |cons x a f =>
  rw[bU,dM]at b;rcases bj.mp c with h1|oJ
  ·rcases bj.mp d with h2|vX
   ·rw[h1,h2]
   ·exact absurd (aY.mpr ⟨q,vX,by rw[<-e,h1]⟩) b.1
  ·rcases bj.mp d with h2|vX
   ·exact absurd (aY.mpr ⟨p,oJ,by rw[e,h2]⟩) b.1
   ·exact f b.2 oJ vX
theorem NY(F:aQ K "kind_and_own" "kind_and_own" nB f fd)(ya:bV P w K mg base aI 3 fC dC ["world","thing"] q8 "check_thing"):aT P w K mg base aI 4 f fd ["world","thing"] q9:=by
 refine F.bG Pl λQa A outer s H vs Q E za h=>?_
 ·obtain @⟨x,t,tb,tt,L,d,th,rfl,h,m,q⟩:=h
  intro X;refine⟨_,ax (ey (bA ya za (aa (pv 0) (aa (pv 1) ai))))
   (aF (a9 (aS ck (dB rfl El (kH (aS bD (pv 0) aw)) (λs H fp=>⟨br 0 El.nd,h9 (bJ ei (aS (jw K rfl) (pv 0) aw) (pv 1) (bS _)),h8 CH (pv 0) (gN aw) iQ⟩)) aw))),?_⟩
  refine a4 rfl rfl (q8.mk rfl h (aY.mpr ⟨th,m,rfl⟩) λY M=>?_);have h1:=h.same M;have a5:=h.a5;have T:=ff h.tv;refine af rfl (bf h1.hw mE ⟨tt,rfl,⟨_,aZ.of h1.ht⟩,λc N=>?_⟩);refine lW (xs:=L) (λi ys l H2=>∃n:a2 V,l=[n,ih (.str th.1)]/\aB Y H2/\H2 c=ce ys/\rW H2 ys ((d.take i).filter λp=>decide (p.1=th.1))) ⟨none,rfl,aK N,ah,.nil⟩ (λi ys l H2 ab=>by obtain⟨_,_,z1,z2,_⟩:=ab;exact ⟨z2,aZ.of (z1 _ _ h1.ht)⟩) ?_ ?_
  ·rintro i y ys l H2 O ⟨n,rfl,j,h2,g⟩
   have G:i<L.length:=(bR.mp O).1;obtain⟨p,u,a,b,us,rfl,R,B,ow⟩:=L2.Paired.get (h1.tv.same j) O;have tk:d.take (i+1)=d.take i++[p]:=by rw[dX,u];rfl
   have yl:=ff g;have S:((d.take i).filter λp=>decide (p.1=th.1)).length<=(d.take i).length:=gm _ _;rw[cz]at S;refine af rfl (bf R b4 (af rfl ⟨rfl,_,rfl,?_⟩));refine cA (λe=>?_) (λe=>?_)
   ·have e:p.1=th.1:=by
     have:=eg e;injection this
    refine af rfl ⟨1,rfl,a,_,rfl,R,λr C k D=>?_⟩;have D:C r=bn [.str p.2.1,.ref b]:=D;have I:=k _ _ h2;have up:∀{zs:am V} b xs,C b=bn xs->upd C c (.lst zs) b=bn xs:=λb xs e=>by rw[ag (ar e I)];exact e
    refine⟨I,by rw[aX];omega,cw_next G ⟨_,rfl,λb o e=>by rw[ag (aA e N)];exact k _ _ (j _ _ e),ah,?_⟩⟩
    rw[tk,f7,mZ (by simp[e])]
    exact lH ((g.keep λb xs e=>k _ _ e).keep up) ⟨r,b,us,rfl,up _ _ D,up _ _ (k _ _ B),(ow.keep λb xs e=>k _ _ e).keep up⟩
   ·have e : ¬ p.1=th.1:=λz=>e (cc (by rw[z]))
    refine cw_next G (af rfl ⟨j,h2,?_⟩);rw[tk,f7,o1 (by simp[e])]
    simpa using g
  ·rintro ys l H2 ⟨n,rfl,j,h2,g⟩
   rw[T,cM]at g;have J:th∈d.filter λp=>decide (p.1=th.1):=er.mpr ⟨m,cc rfl⟩;generalize xb:(d.filter λp=>decide (p.1=th.1))=S at g J;cases g with
   |nil=>cases J
   |@cons v p vs fs hv _ =>
    have u:p∈d.filter λp=>decide (p.1=th.1):=by rw[xb];exact aV
    obtain⟨U,W⟩:=er.mp u;obtain rfl:=NX h.nd U m (eg W);obtain⟨r,b,us,rfl,xa,B,ow⟩:=hv;exact eK h2 b4 (q r b us H2 (M.trans j) xa B ow)
def fW(fi ow kp kn:Up)(kd:Gv)(bg:Int):List (Gv×V):=[("finds",.ref fi),("kind",.str kd),("own",.ref ow),("kept",.ref kp),("known",.ref kn),("begun",.int bg)]
section
variable{fi kp kn:Up}{kd:Gv}
theorem L5:b3 "begun" (.int 0) (b3 "known" (.ref kn) (b3 "kept" (.ref kp) (b3 "own" (.ref ow) (b3 "kind" (.str kd) (b3 "finds" (.ref fi) [])))))=fW fi ow kp kn kd 0:=rfl
theorem tM:(fW fi ow kp kn kd bg).lookup ("finds" : Gv)=ih (V.ref fi):=rfl
theorem uk:(fW fi ow kp kn kd bg).lookup ("kind" : Gv)=ih (V.str kd):=rfl
theorem Dr:(fW fi ow kp kn kd bg).lookup ("own" : Gv)=ih (V.ref ow):=rfl
theorem iP:(fW fi ow kp kn kd bg).lookup ("known" : Gv)=ih (V.ref kn):=rfl
theorem L6:(fW fi ow kp kn kd bg).lookup ("forebears" : Gv)=none:=rfl
theorem L7:(fW fi ow kp kn kd bg).lookup ("tell" : Gv)=none:=rfl
end
structure hM(K:X2)(mg:Gv->Option i')(C:Up):Prop where
 cl:gb K C
 nf:dZ K C "finds"
 nk:dZ K C "kind"
 no:dZ K C "own"
 np:dZ K C "kept"
 nn:dZ K C "known"
 nb:dZ K C "begun"
 oH:mg "Whole" = ih (.ref C)
inductive qJ(C:Up)(vs:List V)(H:Hp)(Q:VK)(E:XK):Prop
 |mk{x fi ow kp dx:Up}{kd:Gv}(_:vs=[.ref x,.ref fi,.str kd,.ref ow,.ref kp])(_:H x=ih (.ins C dx []))(_:H kp=ih (.dT []))(_:∀kn,H kn=none->Q .aO (upd (upd H kn (.dT [])) x (.ins C dx (fW fi ow kp kn kd 0)))):qJ C vs H Q E
noncomputable abbrev oq:List Gv:=["self","finds","kind","own","kept"]
theorem NZ:bp oq oq (aH uE):=bw
theorem MW(F:aQ K "__init__" "Whole.__init__" uE f fd)(k:hI mg)(T:hM K mg C):aT P w K mg base aI 1 f fd oq (qJ C):=by
 refine F.bG NZ λQa A outer s H vs Q E l h=>?_
 ·obtain @⟨x,fi,ow,kp,dx,kd,rfl,c,d,q⟩:=h
  have i:kp≠x:=ar d c
  intro X;refine⟨_,ax (fQ (pv 0) (pv 1) rfl) (ax (fQ (pv 0) (pv 2) rfl) (ax (fQ (pv 0) (pv 3) rfl) (ax (fQ (pv 0) (pv 4) rfl) (ax (fQ (pv 0) (dY IE rfl k.dict boot_dict (aa (pv 4) ai)) rfl) (aF (fQ (pv 0) aw rfl)))))),?_⟩;refine a4 rfl rfl ⟨x,C,dx,[],rfl,c,T.cl,T.nf,(by show 0<1000;decide),?_⟩
  refine a4 rfl rfl ⟨x,C,dx,_,rfl,ah,T.cl,T.nk,(by show 1<1000;decide),?_⟩
  rw[fg];refine a4 rfl rfl ⟨x,C,dx,_,rfl,ah,T.cl,T.no,(by show 2<1000;decide),?_⟩
  rw[fg];refine a4 rfl rfl ⟨x,C,dx,_,rfl,ah,T.cl,T.np,(by show 3<1000;decide),?_⟩
  rw[fg];refine af rfl ⟨kp,rfl,by rw[ag i];exact d,λkn a=>?_⟩
  have g:x≠kn:=aA ah a;refine af rfl ⟨x,C,dx,_,rfl,by rw[ag g];exact ah,T.cl,T.nn,(by show 4<1000;decide),?_⟩
  refine af rfl ⟨x,C,dx,_,rfl,ah,T.cl,T.nb,(by show 5<1000;decide),?_⟩
  rw[fg,L5];have j:H kn=none:=by
   cases e:H kn with
   |none=>rfl
   |some u=>rw[ag (aP g),e]at a;cases a
  have e:∀o o':HO,upd (upd (upd H x o) kn (.dT [])) x o'=upd (upd H kn (.dT [])) x o':=λo o'=>by
   funext b
   by_cases h1:b=x
   ·subst h1;rw[ah,ah]
   ·rw[ag h1,ag h1]
    by_cases h2:b=kn
    ·subst h2;rw[ah,ah]
    ·rw[ag h2,ag h2,ag h1]
  rw[e];exact q kn j
structure WI(C D x dx fi fx dl de dh ow kp kn:Up)(kd:Gv)(bg:Int)(kl ko:List (Key×V))(ke kh kk:List (List Key×V))(m:Int)(bk:Bk)(H:Hp):Prop where
 n3:x≠fi
 hx:H x=ih (.ins C dx (fW fi ow kp kn kd bg))
 fi:FI D fi fx dl de dh kl ke kh m bk H
 ho:H ow=ih (.dK ko)
 hk:H kn=ih (.dT kk)
 n1:kn≠de
 n2:kn≠dh
inductive qy(C D:Up)(vs:List V)(H:Hp)(Q:VK)(E:XK):Prop
 |mk{x dx fi fx dl de dh ow kp kn a:Up}{kd:Gv}{bg:Int}{kl ko:List (Key×V)}{ke kh kk:List (List Key×V)}{m:Int}{bk:Bk}(_:vs=[.ref x])(_:WI C D x dx fi fx dl de dh ow kp kn kd bg kl ko ke kh kk m bk H)(_:bo kl (F3 kd)=ih (.ref a))(_:Q (.ref a) H):qy C D vs H Q E
theorem MX:bp ["self"] ["self"] (aH sN):=bw
theorem L8(F:aQ K "forebears" "Whole.forebears" sN f fd)(T:hM K mg C)(b:jN K mg D):aT P w K mg base aI 1 f fd ["self"] (qy C D):=by
 refine F.bG MX λQa A outer s H vs Q E c h=>?_
 ·obtain @⟨x,dx,fi,d,dl,de,dh,ow,kp,kn,a,kd,bg,g,j,k,kh,kk,m,bk,rfl,h,e,q⟩:=h
  have i:=c.units;intro X;refine⟨_,aF (a9 (eY (eQ i) (cf (cf (pv 0) rfl) rfl) (cf (pv 0) rfl))),?_⟩;refine af rfl ⟨x,C,dx,_,.ref fi,rfl,h.hx,T.cl,T.nf,tM,fi,D,d,_,.ref dl,rfl,h.fi.hx,b.cl,b.nl,Ce,_,rfl,x,C,dx,_,.str kd,rfl,h.hx,T.cl,T.nk,uk,dl,.ref a,rfl,.inl ⟨g,F3 kd,.inl h.fi.hl,rfl,e.symm⟩,q⟩
end d9
namespace L2
open W
theorem MY:vj X .Mult (rI oi λi j=>.int (i * j)):=λJ s σ H x y u v Q I a b h=>K4 J s σ H x y u v Q I a b h
end L2
namespace d9
open L2 W HT
theorem um{u:V}{d:UH}(e:Ent d)(r:Rep H u d):∃a xs,u=.ref a/\H a=bn (.str (a3 d)::xs):=by
 cases e with
 |plain n=>obtain⟨a,u,rfl,b,_⟩:=two1 r;exact⟨a,_,rfl,b⟩
 |behind ds=>obtain⟨a,u,rfl,b,_⟩:=two1 r;exact⟨a,_,rfl,b⟩
 |jM ds=>obtain⟨a,u,rfl,b,_⟩:=two1 r;exact⟨a,_,rfl,b⟩
 |ahead x n =>
  obtain⟨a,vs,rfl,b,rs⟩:=r.tupI;obtain⟨f,g,rfl,c,rs⟩:=rs.eG;obtain rfl:=c.gT;exact⟨a,_,rfl,b⟩
theorem tN{d:UH}(e:Ent d):(∀s∈bM d,dc s)/\(bM d).length<=4:=by
 cases e with
 |plain n h=>exact⟨λs a=>by rw[bX.mp a];exact .add n h,by show 1<=4;decide⟩
 |ahead x n h c =>
  refine⟨λs a=>?_,by show 2<=4;decide⟩
  rcases bj.mp a with z|z
  ·rw[z];exact .ask x h
  ·rw[bX.mp z];exact .add n c
 |behind ds b a=>exact⟨a,b⟩
 |jM ds b a=>exact⟨a,b⟩
theorem qg{u:V}{d:UH}(e:dc d)(r:Rep H u d):∃a xs,u=.ref a/\H a=bn (.str (a3 d)::xs)/\(a3 d = "add" \/ a3 d = "times" -> xs=[.int (hJ d)])/\(a3 d = "ask" -> xs=[.str (eI d)])/\(a3 d = "times" -> -9<=hJ d/\hJ d<=9):=by
 cases e with
 |add n =>
  obtain⟨a,u,rfl,b,c⟩:=two1 r;obtain rfl:=c.il;exact⟨a,_,rfl,b,λ_=>rfl,λz=>absurd z (by show ¬ ((("add" : Gv)) = "ask");decide +kernel),λz=>absurd z (by show ¬ ((("add" : Gv)) = "times");decide +kernel)⟩
 |times n lo hi =>
  obtain⟨a,u,rfl,b,c⟩:=two1 r;obtain rfl:=c.il;exact⟨a,_,rfl,b,λ_=>rfl,λz=>absurd z (by show ¬ ((("times" : Gv)) = "ask");decide +kernel),λ_=>⟨lo,hi⟩⟩
 |ask x =>
  obtain⟨a,u,rfl,b,c⟩:=two1 r;obtain rfl:=c.gT;exact⟨a,_,rfl,b,λz=>absurd z (by show ¬ ((("ask" : Gv)) = "add" \/ (("ask" : Gv)) = "times");decide +kernel),λ_=>rfl,λz=>absurd z (by show ¬ ((("ask" : Gv)) = "times");decide +kernel)⟩
 |mj =>
  obtain⟨a,vs,rfl,b,rs⟩:=r.tupI;obtain⟨g,h,rfl,f,rs⟩:=rs.eG;obtain rfl:=rs.mF;obtain rfl:=f.gT;exact⟨a,_,rfl,b,λz=>absurd z (by show ¬ ((("onward" : Gv)) = "add" \/ (("onward" : Gv)) = "times");decide +kernel),λz=>absurd z (by show ¬ ((("onward" : Gv)) = "ask");decide +kernel),λz=>absurd z (by show ¬ ((("onward" : Gv)) = "times");decide +kernel)⟩
inductive q'(vs:List V)(H:Hp)(Q:VK)(E:XK):Prop
 |mk{u:V}{d:UH}(_:vs=[u])(_:Ent d)(_:Rep H u d)(_:∀H',aB H H'->Q (.bl (jF d)) H'):q' vs H Q E
theorem Po:bp ["entry"] ["entry"] (aH sM):=bw
theorem N0(F:aQ K "goes_first" "goes_first" sM f fd):aT P w K mg base aI 1 f fd ["entry"] q':=by
 refine F.bG Po λQa A outer s H vs Q E j h=>?_
 ·obtain @⟨u,d,rfl,b,r,q⟩:=h
  intro X;refine⟨_,aF (a9 (jy kr (aS bD (pv 0) aw) (cN (aa bu (aa bu ai))) rfl)),?_⟩;obtain⟨a,xs,rfl,g⟩:=um b r;refine af rfl (bf g b4 ⟨bF,λc i=>?_⟩);refine⟨c,_,rfl,.inr (aZ.of ah),rfl,rfl,?_⟩;have e:lr (.str (a3 d)) ((["ahead","shut"]:am Gv).map V.str)=jF d:=by rw[iM];unfold jF;exact decide_eq_decide.mpr (by simp)
  have:=q _ (aK (o:=.tup [V.str "ahead",V.str "shut"]) i);rw[<-e]at this;exact this
inductive ra(vs:List V)(H:Hp)(Q:VK)(E:XK):Prop
 |mk{u:V}{d:UH}(_:vs=[u])(_:Ent d)(_:Rep H u d)(_:a3 d ≠ "plain")(_:∀r us H',aB H H'->H' r=ih (.tup us)->bK H' us (bM d)->Q (.ref r) H'):ra vs H Q E
theorem Pp:bp ["entry"] ["entry"] (aH tD):=bw
theorem N1(F:aQ K "steps_of" "steps_of" tD f fd):aT P w K mg base aI 1 f fd ["entry"] ra:=by
 refine F.bG Pp λQa A outer s H vs Q E G h=>?_
 ·obtain @⟨u,d,rfl,l,r,m,q⟩:=h
  intro X;refine⟨_,ax (bE (bJ ei (aS bD (pv 0) aw) bu (bS _)) (aF (a9 (cN (aa (cN (aa bu (aa (aS bD (pv 0) aw) ai))) (aa (cN (aa bu (aa (aS bD (pv 0) aw) ai))) ai))))) bZ)
   (aF (a9 (aS bD (pv 0) aw))),?_⟩
  cases l with
  |plain n=>exact absurd rfl m
  |ahead x n h I =>
   obtain⟨a,vs,rfl,c,rs⟩:=r.tupI;obtain⟨J,L,rfl,p,rs⟩:=rs.eG;obtain⟨M,N,rfl,e,rs⟩:=rs.eG;obtain⟨O,R,rfl,t,rs⟩:=rs.eG;obtain rfl:=rs.mF;obtain rfl:=p.gT;obtain rfl:=e.gT;obtain rfl:=t.il;refine af rfl (bf c b4 ⟨rfl,_,rfl,?_⟩);refine af rfl (bf c dG ⟨bF,λv h1=>?_⟩);have j:=aK (o:=.tup [V.str "ask",.str x]) h1;refine af rfl (bf (j _ _ c) mE ⟨bF,λy h2=>⟨bF,λz B=>?_⟩⟩);have k:=aK (o:=.tup [V.str "add",.int n]) h2;have g:=aK (o:=.tup [V.ref v,.ref y]) B;exact q z _ _ (j.trans (k.trans g)) ah (.cons (.tup (g _ _ (k _ _ ah)) (.cons (.str _) (.cons (.str _) .nil))) (.cons (.tup (g _ _ ah) (.cons (.str _) (.cons (.int _) .nil))) .nil))
  |behind ds C D =>
   obtain⟨a,u,rfl,c,e⟩:=two1 r;obtain⟨b,vs,rfl,i,rs⟩:=e.tupI;exact af rfl (bf c b4 ⟨rfl,_,rfl,_,rfl,bf c dG (q b vs H (aB.refl _) i rs)⟩)
  |jM ds C D =>
   obtain⟨a,u,rfl,c,e⟩:=two1 r;obtain⟨b,vs,rfl,i,rs⟩:=e.tupI;exact af rfl (bf c b4 ⟨rfl,_,rfl,_,rfl,bf c dG (q b vs H (aB.refl _) i rs)⟩)
def fR(ta lf rs:Up)(wh:Gv)(t:Int):List (Gv×V):=[("asking",.ref ta),("where",.str wh),("left",.ref lf),("total",.int t),("rested",.ref rs)]
section
variable{ta lf rs:Up}{t t':Int}
theorem uJ:b3 "total" (.int t') (fR ta lf rs wh t)=fR ta lf rs wh t':=rfl
theorem qz:(fR ta lf rs wh t).lookup ("asking" : Gv)=ih (V.ref ta):=rfl
theorem Cg:(fR ta lf rs wh t).lookup ("where" : Gv)=ih (V.str wh):=rfl
theorem qh:(fR ta lf rs wh t).lookup ("left" : Gv)=ih (V.ref lf):=rfl
theorem pW:(fR ta lf rs wh t).lookup ("total" : Gv)=ih (V.int t):=rfl
theorem By:(fR ta lf rs wh t).lookup ("rested" : Gv)=ih (V.ref rs):=rfl
end
structure ip(K:X2)(mg:Gv->Option i')(C:Up):Prop where
 cl:gb K C
 na:dZ K C "asking"
 nw:dZ K C "where"
 nl:dZ K C "left"
 nt:dZ K C "total"
 nr:dZ K C "rested"
 oH:mg "Reckoning" = ih (.ref C)
inductive rb(C:Up)(vs:List V)(H:Hp)(Q:VK)(E:XK):Prop
 |mk{x ta ts dx:Up}{wh n b:Gv}{us:List V}(_:vs=[.ref x,.ref ta,.str wh,.ref ts])(_:H x=ih (.ins C dx []))(_:H ta=ih (.tup [.str n,.str b]))(_:H ts=ih (.tup us))
  (_:∀lf rs H',H lf=none->H rs=none->lf≠rs->(∀y u,y≠x->H y=ih u->H' y=ih u)->H' x=ih (.ins C dx (fR ta lf rs wh 0))->H' lf=ih (.lst us)->H' rs=ih (.lst [.str n])->Q .aO H'):rb C vs H Q E
noncomputable abbrev oK:List Gv:=["self","asking","where","steps"]
theorem Pq:bp oK oK (aH uF):=bw
theorem N2(F:aQ K "__init__" "Reckoning.__init__" uF f fd)(B:dW mg)(T:ip K mg C):aT P w K mg base aI 1 f fd oK (rb C):=by
 refine F.bG Pq λQa A outer s H vs Q E L h=>?_
 ·obtain @⟨x,ta,D,dx,wh,n,b,us,rfl,j,r,t,q⟩:=h
  intro X;refine⟨_,ax (fQ (pv 0) (pv 1) rfl) (ax (fQ (pv 0) (pv 2) rfl) (ax (fQ (pv 0) (dY kb rfl B.list boot_list (aa (pv 3) ai)) rfl) (ax (fQ (pv 0) aw rfl) (aF (fQ (pv 0) (eZ (aa (aS bD (pv 1) aw) ai)) rfl))))),?_⟩;have I:D≠x:=ar t j
  have J:ta≠x:=ar r j
  refine a4 rfl rfl ⟨x,C,dx,[],rfl,j,T.cl,T.na,(by show 0<1000;decide),?_⟩
  refine a4 rfl rfl ⟨x,C,dx,_,rfl,ah,T.cl,T.nw,(by show 1<1000;decide),?_⟩
  rw[fg];refine af rfl ⟨D,us,rfl,.inr (aZ.of (by rw[ag I];exact t)),λlf g=>?_⟩
  have c:x≠lf:=aA ah g;have m:H lf=none:=by rw[ag (aP c)]at g;exact g
  refine af rfl ⟨x,C,dx,_,rfl,by rw[ag c];exact ah,T.cl,T.nl,(by show 2<1000;decide),?_⟩
  refine af rfl ⟨x,C,dx,_,rfl,ah,T.cl,T.nt,(by show 3<1000;decide),?_⟩
  rw[fg];have k:∀u,upd (upd (upd H x (.ins C dx (b3 "where" (.str wh) (b3 "asking" (.ref ta) [])))) lf (.lst us)) x u x=ih u:=λu=>ah;have l:∀u,upd (upd (upd H x (.ins C dx (b3 "where" (.str wh) (b3 "asking" (.ref ta) [])))) lf (.lst us)) x u lf=ce us:=λu=>by rw[ag (aP c)];exact ah
  have d:∀u y o,y≠x->H y=ih o->upd (upd (upd H x (.ins C dx (b3 "where" (.str wh) (b3 "asking" (.ref ta) [])))) lf (.lst us)) x u y=ih o:=λu y o n e=>by rw[ag n,ag (aA e m),ag n];exact e
  generalize (upd (upd (upd H x (.ins C dx (b3 "where" (.str wh) (b3 "asking" (.ref ta) [])))) lf (.lst us)) x)=G at k l d⊢;refine af rfl (bf (d _ _ _ J r) b4 ⟨eo,λrs a=>?_⟩);have i:x≠rs:=aA (k _) a;have v:lf≠rs:=aA (l _) a;have p:H rs=none:=by
   cases e:H rs with
   |none=>rfl
   |some o=>rw[d _ _ _ (aP i) e]at a;cases a
  refine af rfl ⟨x,C,dx,_,rfl,by rw[ag i];exact k _,T.cl,T.nr,(by show 4<1000;decide),?_⟩
  refine q lf rs _ m p v (λy u n e=>?_) (by rw[ah];rfl) (by rw[ag (aP c),ag v];exact l _) (by rw[ag (aP i)];exact ah)
  rw[ag n,ag (aA e p)];exact d _ _ _ n e
inductive rf(C:Up)(vs:List V)(H:Hp)(Q:VK)(E:XK):Prop
 |mk{x ta lf rs dx:Up}{wh:Gv}{t:Int}{u:V}{d:UH}(_:vs=[.ref x,u])(_:H x=ih (.ins C dx (fR ta lf rs wh t)))(_:dc d)(_:Rep H u d)(_:∀H',(∀y o,y≠x->H y=ih o->H' y=ih o)->H' x=ih (.ins C dx (fR ta lf rs wh (stepT t d)))->Q .aO H'):rf C vs H Q E
theorem Pr:bp ["self","step"] ["self","step"] (aH ug):=bw
theorem N3(F:aQ K "step_by" "Reckoning.step_by" ug f fd)(T:ip K mg C):aT P w K mg base aI 1 f fd ["self","step"] (rf C):=by
 refine F.bG Pr λQa A outer s H vs Q E k h=>?_
 ·obtain @⟨x,ta,lf,rs,dx,wh,t,u,d,rfl,b,st,r,q⟩:=h
  intro X;refine⟨_,ax (bE (bJ ei (aS bD (pv 1) aw) bu (bS _)) (aF (m9 (pv 0) (aS bD (pv 1) aw) qo)) bZ)
   (aF (bE (bJ ei (aS bD (pv 1) aw) bu (bS _)) (aF (m9 (pv 0) (aS bD (pv 1) aw) MY)) bZ)),?_⟩
  obtain⟨a,xs,rfl,c,h1,h2,j⟩:=qg st r;have i:a≠x:=ar c b
  refine af rfl (bf c b4 ⟨rfl,_,rfl,?_⟩);refine cA (λe=>?_) (λe=>?_)
  ·have e:a3 d = "add" :=by
    have:=eg e;injection this
   obtain rfl:=h1 (.inl e);have g:stepT t d=t+hJ d:=by unfold stepT;rw[ay e]
   rw[g]at q;refine af rfl ⟨x,C,dx,_,.int t,rfl,b,T.cl,T.nt,pW,_,rfl,bf c dG ⟨_,_,rfl,rfl,dx,_,b,by show 5<1000;decide,?_⟩⟩
   rw[uJ];refine af rfl (bf (by rw[ag i];exact c) b4 ⟨rfl,_,rfl,?_⟩)
   exact cA (λz=>absurd z (by rw[e];decide +kernel)) (λ_=>q _ (λy o n z=>by rw[ag n];exact z) ah)
  ·have e : ¬ a3 d = "add" :=λz=>e (by rw[z];exact cc rfl)
   refine af rfl (bf c b4 ⟨rfl,_,rfl,?_⟩);refine cA (λe2=>?_) (λe2=>?_)
   ·have e2:a3 d = "times" :=by
     have:=eg e2;injection this
    obtain rfl:=h1 (.inr e2);have g:stepT t d=t * hJ d:=by unfold stepT;rw[aq e,ay e2]
    rw[g]at q;have l:=j e2;refine af rfl ⟨x,C,dx,_,.int t,rfl,b,T.cl,T.nt,pW,_,rfl,bf c dG ⟨_,_,rfl,rfl,.inr ⟨by omega,by omega⟩,dx,_,b,by show 5<1000;decide,?_⟩⟩
    rw[uJ];exact q _ (λy o n z=>by rw[ag n];exact z) ah
   ·have e2 : ¬ a3 d = "times" :=λz=>e2 (by rw[z];exact cc rfl)
    have g:stepT t d=t:=by unfold stepT;rw[aq e,aq e2]
    rw[g]at q;exact q _ (λy o n z=>z) b
inductive rh(C:Up)(vs:List V)(H:Hp)(Q:VK)(E:XK):Prop
 |mk{x ta lf rs dx tt ns:Up}{wh:Gv}{t z:Int}{y:V}{rv nv:List V}(_:vs=[.ref x,.ref tt])(_:H x=ih (.ins C dx (fR ta lf rs wh t)))(_:H rs=ih (.lst rv))(_:H tt=ih (.tup [y,.int z,.ref ns]))(_:H ns=ih (.tup nv))(_:rv.length+nv.length<=1000)
  (_:∀H',(∀y o,y≠x->y≠rs->H y=ih o->H' y=ih o)->H' x=ih (.ins C dx (fR ta lf rs wh (t+z)))->H' rs=ih (.lst (rv++nv))->Q .aO H'):rh C vs H Q E
theorem Pt:bp ["self","told"] ["self","told"] (aH uh):=bw
theorem N4(F:aQ K "take_in" "Reckoning.take_in" uh f fd)(T:ip K mg C):aT P w K mg base aI 1 f fd ["self","told"] (rh C):=by
 refine F.bG Pt λQa A outer s H vs Q E p h=>?_
 ·obtain @⟨x,ta,lf,rs,dx,tt,ns,wh,t,z,y,i,j,rfl,a,d,b,g,r,q⟩:=h
  intro X;refine⟨_,ax (m9 (pv 0) (aS bD (pv 1) aw) qo)
   (aF (ey (gq h6 PySem.F.slot_list_extend PySem.F.type_list_extend IG (cf (pv 0) rfl) (aa (aS bD (pv 1) aw) ai)))),?_⟩
  have n1:rs≠x:=ar d a
  have k:tt≠x:=ar b a
  have l:ns≠x:=ar g a
  refine af rfl ⟨x,C,dx,_,.int t,rfl,a,T.cl,T.nt,pW,_,rfl,bf b dG ⟨_,_,rfl,rfl,dx,_,a,by show 5<1000;decide,?_⟩⟩
  rw[uJ];have c:upd H x (.ins C dx (fR ta lf rs wh (t+z))) rs=ce i:=by rw[ag n1];exact d
  refine af rfl ⟨x,C,dx,_,.ref rs,rfl,ah,T.cl,T.nr,By,.inl ⟨rfl,_,au.of c⟩,_,rfl,bf (by rw[ag k];exact b) mE ⟨rs,ns,i,j,rfl,rfl,c,by rw[ag l];exact g,by rw[aX];omega,?_⟩⟩
  exact q _ (λy o m n e=>by rw[ag n,ag m];exact e) (by rw[ag (aP n1)];exact ah) ah
def gx(own:Own):List (Key×V):=md (own.map λq=>(q.1,V.int q.2))
theorem uo(n:Gv):∀own:Own,bo (gx own) (F3 n)=(own.lookup n).map V.int:=by
 intro own
 induction own with
 |nil=>rfl
 |cons p own a =>
  show bo ((F3 p.1,V.int p.2)::gx own) (F3 n)=(((p.1,p.2)::own).lookup n).map V.int
  by_cases e:p.1=n
  ·rw[fG (by rw[e]),ef,show(n==p.1)=true by simp[e]];rfl
  ·rw[ew (λz=>e (gH z)),a,ef,show(n==p.1)=false by simp[aP e]]
def cX(a:Ask):List Key:=[F3 a.1,F3 a.2]
theorem KJ{a b:Ask}(h:cX a=cX b):a=b:=by
 unfold cX at h;injection h with h1 h2;injection h2 with c _;exact lA (gH h1) (gH c)
def j0(H:Hp)(NU:List Gv)(kk:List (List Key×V))(ka:List (Ask×Int)):Prop:=XH (λkv p=>kv.1=cX p.1 /\∃(t:Up) (y:V) (ns:Up) (nv:List Gv),kv.2=V.ref t/\H t=ih (.tup [y,.int p.2,.ref ns])/\H ns=ih (.tup (nv.map V.str))/\nv.Nodup /\∀y∈nv,y∈NU) kk ka
theorem j0.keep{a:am (Ask×Int)}(h:j0 H NU kk a)(k:∀b xs,H b=bn xs->H' b=bn xs):j0 H' NU kk a:=Paired.imp' (λ_ _ f=>by obtain⟨e,t,y,ns,c,e1,e2,e3,d⟩:=f;exact ⟨e,t,y,ns,c,e1,k _ _ e2,k _ _ e3,d⟩) h
theorem j0.val{d:am (Ask×Int)}(h:j0 H NU kk d)(a:Ask):(bo kk (cX a)=none /\∀z,(a,z)∉ d) \/∃(v:V) (z:Int) (t:Up) (y:V) (ns:Up) (b:am Gv),bo kk (cX a)=ih v/\(a,z)∈d/\v=V.ref t/\H t=bn [y,.int z,.ref ns]/\H ns=bn (b.map V.str)/\b.Nodup /\∀y∈b,y∈NU:=by
 induction h with
 |nil=>exact .inl ⟨rfl,λz h=>by cases h⟩
 |@cons i p kk d e _ k =>
  obtain⟨j,t,y,ns,b,e1,e2,e3,l,e5⟩:=e
  by_cases c:p.1=a
  ·exact .inr ⟨i.2,p.2,t,y,ns,b,fG (by rw[j,c]),by rw[<-c];exact aV,e1,e2,e3,l,e5⟩
  ·have ne : ¬ i.1=cX a:=λz=>c (KJ (j.symm.trans z))
   rcases k with⟨f,g⟩|⟨v,z,t,y,ns,b,f,g,m⟩
   ·refine .inl ⟨by rw[ew ne];exact f,λz n=>?_⟩
    rcases bj.mp n with y|y
    ·exact c (by rw[<-y])
    ·exact g z y
   ·exact .inr ⟨v,z,t,y,ns,b,by rw[ew ne];exact f,a7 _ g,m⟩
def UA(W:aW)(NU:List Gv)(a:Ask):Prop:=a.1∈NU/\(a.2 = "" \/ a.2∈W.line)
structure gV(W:aW)(NU:List Gv):Prop where
 bk:fZ W.bk
 ask:∀p∈W.bk,∀s∈bM p.2.2,a3 s = "ask" -> eI s∈NU
 nm:∀n∈NU,Nm n
 a5:NU.length<=20
 ln:W.line.length<=9
 lm:∀k∈W.line,Nm k
structure Wh where
 (x dx fi fx dl de dh ow kp kn:Up)
 (kd:Gv)
 (kl:List (Key×V))
 (ke:List (List Key×V))
 (W:aW)
 (L:Gv->List Gv)
 (NU:List Gv)
structure b'(C D:Up)(S:Wh)(bg m:Int)(kh kk kq:List (List Key×V))(ka:List (Ask×Int))(H:Hp):Prop where
 n3:S.x≠S.fi
 hx:H S.x=ih (.ins C S.dx (fW S.fi S.ow S.kp S.kn S.kd bg))
 fi:FI D S.fi S.fx S.dl S.de S.dh S.kl S.ke kh m S.W.bk H
 ho:H S.ow=ih (.dK (gx S.W.own))
 hk:H S.kn=ih (.dT kk)
 hq:H S.kp=ih (.dT kq)
 n1:S.kn≠S.de/\S.kn≠S.dh/\S.kp≠S.de/\S.kp≠S.dh/\S.kn≠S.kp
 ln:gD H S.kl S.L S.kd
 el:S.L S.kd=S.W.line
 mM:iX H kh S.W.bk S.L
 kv:j0 H S.NU kk ka
 ok:∀p∈ka,S.W.Out p.1 (.told p.2)
 nd:(ka.map (·.1)).Nodup
 gE:∀p∈ka,UA S.W S.NU p.1
 ql:kq.length<=kk.length
def Kp(S:Wh)(H H':Hp):Prop:= ∀b o,b≠S.fi->b≠S.dh->H b=ih o->H' b=ih o
theorem b'.same{S:Wh}{a:am (Ask×Int)}(h:b' C D S bg m kh kk kq a H)(s:aB H H'):b' C D S bg m kh kk kq a H':=
 ⟨h.n3,s _ _ h.hx,⟨s _ _ h.fi.hx,s _ _ h.fi.hl,s _ _ h.fi.he,s _ _ h.fi.hh,h.fi.du.same s,h.fi.ok,h.fi.nn⟩,s _ _ h.ho,s _ _ h.hk,s _ _ h.hq,h.n1,h.ln.same s,h.el,h.mM.keep h.fi.ok λb xs e=>s _ _ e,h.kv.keep λb xs e=>s _ _ e,h.ok,h.nd,h.gE,h.ql⟩
theorem b'.write{S:Wh}{f:am (Ask×Int)}(h:b' C D S bg m kh kk kq f H)(k:∀b o,(∀xs,o≠HO.lst xs)->(∀dx fs,(b=S.x\/b=S.fi) \/∀c,o≠HO.ins c dx fs)->H b=ih o->H' b=ih o):b' C D S bg m kh kk kq f H':=by
 have a:∀b xs,H b=bn xs->H' b=bn xs:=λb xs e=>k b _ (by intro _ z;cases z) (λ_ _=>.inr (by intro _ z;cases z)) e
 have d:∀b xs,H b=ev xs->H' b=ev xs:=λb xs e=>k b _ (by intro _ z;cases z) (λ_ _=>.inr (by intro _ z;cases z)) e
 have g:∀b xs,H b=cr xs->H' b=cr xs:=λb xs e=>k b _ (by intro _ z;cases z) (λ_ _=>.inr (by intro _ z;cases z)) e
 obtain⟨i,e1,e2⟩:=h.ln;exact⟨h.n3,k _ _ (by intro _ z;cases z) (λ_ _=>.inl (.inl rfl)) h.hx,⟨k _ _ (by intro _ z;cases z) (λ_ _=>.inl (.inr rfl)) h.fi.hx,g _ _ h.fi.hl,d _ _ h.fi.he,d _ _ h.fi.hh,h.fi.du.keep a h.fi.ok.ent,h.fi.ok,h.fi.nn⟩,g _ _ h.ho,d _ _ h.hk,d _ _ h.hq,h.n1,⟨i,e1,a _ _ e2⟩,h.el,h.mM.keep h.fi.ok a,h.kv.keep a,h.ok,h.nd,h.gE,h.ql⟩
theorem b'.looked{S:Wh}{c:Int}{a:am (List Key×V)}{d:am (Ask×Int)}(h:b' C D S bg m kh kk kq d H)(k:Kp S H H')(fi:FI D S.fi S.fx S.dl S.de S.dh S.kl S.ke a c S.W.bk H')(g:iX H' a S.W.bk S.L):b' C D S bg c a kk kq d H':=by
 have f:∀b xs,H b=bn xs->H' b=bn xs:=λb xs e=>k _ _ (ar e h.fi.hx) (ar e h.fi.hh) e
 obtain⟨i,e1,e2⟩:=h.ln;exact⟨h.n3,k _ _ h.n3 (ar h.hx h.fi.hh) h.hx,fi,k _ _ (ar h.ho h.fi.hx) (ar h.ho h.fi.hh) h.ho,k _ _ (ar h.hk h.fi.hx) h.n1.2.1 h.hk,k _ _ (ar h.hq h.fi.hx) h.n1.2.2.2.1 h.hq,h.n1,⟨i,e1,f _ _ e2⟩,h.el,g,h.kv.keep f,h.ok,h.nd,h.gE,h.ql⟩
theorem Jy{W:aW}{a:Ask}(h:W.Out a (.told z))(ne:a.2 ≠ ""):(W.look a).isSome=true:=by
 obtain⟨k,b⟩:=h;cases k with
 |zero=>cases b
 |succ k =>
  have b:W.dw (W.out k) a=ih (.told z):=b;unfold aW.dw at b;rw[show W.dJ a=none by unfold aW.dJ;exact aq λy=>ne y.1]at b
  cases e:W.look a with
  |none=>rw[e]at b;cases b
  |some p=>rfl
theorem qi{W:aW}{a:Ask}{d:UH}(h:W.look a=ih (wh,d)):wh∈W.line:=by
 have:=(l6 h).1;unfold c9 at this;split at this
 ·exact this
 ·exact si this
inductive ri(C D R:Up)(vs:List V)(H:Hp)(Q:VK)(E:XK):Prop
 |mk{S:Wh}{bg m:Int}{kh kk kq:List (List Key×V)}{ka:List (Ask×Int)}{r QX ta lf rs:Up}{wh:Gv}{t:Int}{a:Ask}{u:V}{d:UH}(_:vs=[.ref S.x,.ref r,u])(_:gV S.W S.NU)(_:b' C D S bg m kh kk kq ka H)(_:kh.length<=1000000)(_:H r=ih (.ins R QX (fR ta lf rs wh t)))(_:H ta=ih (.tup [.str a.1,.str a.2]))(_:wh∈S.W.line)(_:dc d)(_:Rep H u d)
  (_:S.W.need a.1 wh d=none ->∀eb m' H',Kp S H H'->b' C D S bg m' eb kk kq ka H'->eb.length<=kh.length+1->Q .aO H')
  (_:∀b,S.W.need a.1 wh d=ih b ->∀tn eb m' H',Kp S H H'->b' C D S bg m' eb kk kq ka H'->eb.length<=kh.length+1->H' tn=ih (.tup [.str b.1,.str b.2])->Q (.ref tn) H'):ri C D R vs H Q E
noncomputable abbrev QY:List Gv:=["self","reckoning","step","name","where"]
theorem Em:bp QY ["self","reckoning","step"] (aH uf):=bw
theorem N5(F:aQ K "come_to" "Whole.come_to" uf f fd)(T:hM K mg C)(xh:jN K mg D)(I:ip K mg R)(yh:aT P w K mg base aI 2 fL dL ["self","kind","name","behind"] (ml D))(zh:Meth K D "look" fL)(xi:Binds K dL ["self","kind","name","behind"] []):aT P w K mg base aI 3 f fd ["self","reckoning","step"] (ri C D R):=by
 refine F.bG Em λQa A outer s H vs Q E xc h=>?_
 ·obtain @⟨S,bg,m,kh,kk,kq,yi,r,xa,ta,lf,rs,wh,t,a,u,d,rfl,yc,h,ye,ya,ze,za,st,zi,zc,xd⟩:=h
  have xf:a' 2 _:=xc;have yf:=eQ xc.units;intro X;refine⟨_,ax (bE (bJ ei (aS bD (pv 2) aw) bu (bS _)) (aF (a9 (cN (aa (aS bD (pv 2) aw) (aa bu ai))))) bZ)
   (ax (bE (bJ kM (aS bD (pv 2) aw) bu (bS _)) (aF (a9 ez)) bZ)
   (ax (uq (i:=3) (j:=4) rfl Em.nd rfl rfl (by decide) rfl rfl (aa (aS bD (cf (pv 1) rfl) aw) (aa (cf (pv 1) rfl) ai)) rfl)
   (ax (bE (PW.pt (pw_or (g7 (jE yf (cN (aa (pv 3) (aa (pv 4) ai))) (cf (pv 0) rfl))) (pw_or1 (g7 (Cu (g6 (cf (pv 0) rfl) xh.cl zh yh xf xi .nil c3 (aa (cf (pv 0) rfl) (aa (pv 3) (aa (pv 4) ai))))))))) (aF (a9 (cN (aa (pv 3) (aa (pv 4) ai))))) bZ)
   (aF (a9 ez))))),?_⟩
  obtain⟨xk,xs,rfl,O,h1,h2,yk⟩:=qg st zi;refine af rfl (bf O b4 ⟨rfl,_,rfl,?_⟩);refine cA (λe=>?_) (λe=>?_)
  ·have e:a3 d = "ask" :=by
    have:=eg e;injection this
   obtain rfl:=h2 e;refine af rfl (bf O dG ⟨bF,λc xj=>?_⟩);have yd:=aK (o:=.tup [V.str (eI d),V.str ""]) xj;exact xd (eI d,"") (by unfold aW.need;rw[ay e]) c kh m _ (λb o _ _ z=>yd _ _ z) (h.same yd) (gg _) ah
  have e : ¬ a3 d = "ask" :=λz=>e (by rw[z];exact cc rfl)
  refine af rfl (bf O b4 ⟨rfl,_,rfl,?_⟩);refine cA (λe2=>?_) (λe2=>?_)
  ·have e2 : ¬ a3 d = "onward" :=λz=>by rw[z]at e2;revert e2;decide +kernel
   exact zc (by unfold aW.need;rw[aq e,aq e2]) kh m H (λb o _ _ z=>z) h (gg _)
  have e2:a3 d = "onward" :=by
   by_cases z:a3 d = "onward"
   ·exact z
   ·exact absurd (by simpa using λy=>z y) e2
  have zd:S.W.need a.1 wh d=if (S.W.look (a.1,wh)).isSome=true then ih (a.1,wh) else none:=by unfold aW.need;rw[aq e,ay e2]
  refine af rfl ⟨r,R,xa,_,.ref ta,rfl,ya,I.cl,I.na,qz,bf ze b4 (af rfl ⟨r,R,xa,_,.str wh,rfl,ya,I.cl,I.nw,Cg,_,_,rfl,?_⟩)⟩;refine a4 rfl rfl ⟨bF,λU zf=>?_⟩;have J:=aK (o:=.tup [V.str a.1,V.str wh]) zf;have xb:upd H U (.tup [V.str a.1,V.str wh]) U=bn ((cX (a.1,wh)).map kV):=ah;have g:=h.same J;generalize upd H U (.tup [V.str a.1,V.str wh])=zk at J xb g⊢;refine af rfl ⟨S.x,C,S.dx,_,.ref S.kn,rfl,g.hx,T.cl,T.nn,iP,S.kn,_,rfl,cm.t (k:=cX (a.1,wh)) g.hk xb,_,rfl,?_⟩;have xg:wh ≠ "" :=λz=>by have:=(yc.lm wh za).lo;rw[z]at this;revert this;decide +kernel
  have yb:∀{l:Hp}{q:am (List Key×V)}{G:Int},(S.W.look (a.1,wh)).isSome=true->Kp S H l->b' C D S bg G q kk kq yi l->q.length<=kh.length+1 ->∀tn,l tn=none->Q (.ref tn) (upd l tn (.tup [V.str a.1,V.str wh])):=λ{l q G} yj kp L M tn B=>by
   have xe:=aK (o:=.tup [V.str a.1,V.str wh]) B;exact xd (a.1,wh) (by rw[zd,ay yj]) tn q G _ (λb o n1 Y z=>xe _ _ (kp b o n1 Y z)) (L.same xe) M ah
  rcases h.kv.val (a.1,wh) with⟨e1,e3⟩|⟨v,z,zj,y,ns,xl,e1,e3,_⟩
  ·rw[e1]
   refine af rfl ⟨S.x,C,S.dx,_,.ref S.fi,rfl,g.hx,T.cl,T.nf,tM,S.fi,S.fx,_,rfl,g.fi.hx,u4 (by decide +kernel) (by decide +kernel) (by decide +kernel) (by decide +kernel),_,rfl,S.x,C,S.dx,_,.str S.kd,rfl,g.hx,T.cl,T.nk,uk,_,rfl,_,rfl,ml.mk rfl g.fi g.ln (by rw[h.el];have:=yc.ln;omega) (.inr (by rw[h.el];exact za)) g.mM ye λv q G l zb yg zg M n=>?_⟩
   have L:=g.looked zb yg zg;have kp:Kp S H l:=λb o n1 Y z=>zb b o n1 Y (J _ _ z);rw[h.el]at n;have n:eJ l v (S.W.look (a.1,wh)):=n;cases N:S.W.look (a.1,wh) with
   |none =>
    rw[N]at n;have n:v=V.aO:=n;subst n;refine af rfl ?_;exact zc (by rw[zd,N];rfl) q G l kp L M
   |some p =>
    rw[N]at n;obtain⟨zj,yl,rfl,_,_⟩:=n;refine af rfl ?_;exact a4 rfl rfl ⟨bF,λtn B=>yb (by rw[N];rfl) kp L M tn B⟩
  ·rw[e1]
   exact a4 rfl rfl ⟨bF,λtn B=>yb (Jy (h.ok _ e3) xg) (λb o _ _ z=>J _ _ z) g (gg _) tn B⟩
theorem Pu{G:Prop}{hK C:Hp->Prop}(h1:(∀a,hK a->C a)->G)(h2:∀a,hK a->C a):G:=h1 h2
theorem EV:seqIndex? 0 (v::vs).length=ih 0:=by simp[seqIndex?]
structure FA where
 (x dx ta lf rs:Up)
structure c5(R:Up)(S:Wh)(H:Hp)(A:FA)(f:bb)(lv:List V)(rn:List Gv):Prop where
 hx:H A.x=ih (.ins R A.dx (fR A.ta A.lf A.rs f.w f.t))
 eT:H A.ta=ih (.tup [.str f.a.1,.str f.a.2])
 hl:H A.lf=ih (.lst lv)
 rl:bK H lv f.left
 st:∀s∈f.left,dc s
 an:∀s∈f.left,a3 s = "ask" -> eI s∈S.NU
 hr:H A.rs=ih (.lst (rn.map V.str))
 rm:∀y∈rn,y∈S.NU
 a5:rn.length+f.left.length * 20<=99
 hT:A.lf≠A.rs
 nx:A.x≠S.x
 nf:A.x≠S.fi
def Kr(S:Wh)(A:FA)(H H':Hp):Prop:= ∀b o,b≠S.fi->b≠S.dh->b≠A.x->b≠A.lf->b≠A.rs->H b=ih o->H' b=ih o
theorem c5.keep{S:Wh}{A:FA}{f:bb}(h:c5 R S H A f lv rn)(k:∀b o,b=A.x\/b=A.lf\/b=A.rs\/(∃xs,o=HO.tup xs)->H b=ih o->H' b=ih o):c5 R S H' A f lv rn:=
 ⟨k _ _ (.inl rfl) h.hx,k _ _ (.inr (.inr (.inr ⟨_,rfl⟩))) h.eT,k _ _ (.inr (.inl rfl)) h.hl,iL (λb xs e=>k _ _ (.inr (.inr (.inr ⟨_,rfl⟩))) e) h.rl h.st,h.st,h.an,k _ _ (.inr (.inr (.inl rfl))) h.hr,h.rm,h.a5,h.hT,h.nx,h.nf⟩
theorem c5.kp{S:Wh}{d:am (Ask×Int)}{A:FA}{f:bb}(h:c5 R S H A f lv rn)(w:b' C D S bg m kh kk kq d H)(k:Kp S H H'):c5 R S H' A f lv rn:=by
 have a:∀b xs,H b=ce xs->H' b=ce xs:=λb xs e=>k _ _ (ar e w.fi.hx) (ar e w.fi.hh) e
 have c:∀b xs,H b=bn xs->H' b=bn xs:=λb xs e=>k _ _ (ar e w.fi.hx) (ar e w.fi.hh) e
 exact⟨k _ _ h.nf (ar h.hx w.fi.hh) h.hx,c _ _ h.eT,a _ _ h.hl,iL c h.rl h.st,h.st,h.an,a _ _ h.hr,h.rm,h.a5,h.hT,h.nx,h.nf⟩
theorem b'.wr{S:Wh}{a:am (Ask×Int)}{A:FA}{f:bb}(h:b' C D S bg m kh kk kq a H)(r:c5 R S H A f lv rn)(k:∀b o,b≠A.x->b≠A.lf->b≠A.rs->H b=ih o->H' b=ih o):b' C D S bg m kh kk kq a H':=
 h.write λb o c d e=>k b o (λz=>by
  rw[z]at e d;rw[r.hx]at e;cases e;rcases d A.dx _ with y|y
  ·rcases y with y|y
   ·exact r.nx y
   ·exact r.nf y
  ·exact y _ rfl) (λz=>by rw[z,r.hl]at e;cases e;exact c _ rfl) (λz=>by rw[z,r.hr]at e;cases e;exact c _ rfl) e
inductive rj(C D R:Up)(vs:List V)(H:Hp)(Q:VK)(E:XK):Prop
 |mk{S:Wh}{bg m:Int}{kh kk kq:List (List Key×V)}{ka:List (Ask×Int)}{A:FA}{fr:bb}{lv:List V}{rn:List Gv}(_:vs=[.ref S.x,.ref A.x])(_:gV S.W S.NU)(_:b' C D S bg m kh kk kq ka H)(_:kh.length<=900000)(_:c5 R S H A fr lv rn)(_:bN S.W fr)(_:fr.w∈S.W.line)
  (_:∀t' vY vZ eb m' H',Kr S A H H'->b' C D S bg m' eb kk kq ka H'->eb.length<=kh.length+5->c5 R S H' A ⟨fr.a,fr.w,[],t'⟩ vY vZ->bN S.W ⟨fr.a,fr.w,[],t'⟩->Q .aO H')
  (_:∀t' d ds vY vZ eb m' b tn H',Kr S A H H'->b' C D S bg m' eb kk kq ka H'->eb.length<=kh.length+5->c5 R S H' A ⟨fr.a,fr.w,d::ds,t'⟩ vY vZ->bN S.W ⟨fr.a,fr.w,d::ds,t'⟩->S.W.need fr.a.1 fr.w d=ih b->(∀z,(b,z)∉ ka)->H' tn=ih (.tup [.str b.1,.str b.2])->Q (.ref tn) H'):rj C D R vs H Q E
noncomputable abbrev QZ:List Gv:=["self","reckoning","step","needed"]
theorem vD:bp QZ ["self","reckoning"] (aH u1):=bw
theorem N6(F:aQ K "go_on" "Whole.go_on" u1 f fd)(T:hM K mg C)(n:ip K mg R)(zn:aT P w K mg base aI 3 fC dC ["self","reckoning","step"] (ri C D R))(xo:Meth K C "come_to" fC)(yo:Binds K dC ["self","reckoning","step"] [])
  (zo:aT P w K mg base aI 1 fS dS ["self","step"] (rf R)) (xp:Meth K R "step_by" fS) (yp:Binds K dS ["self","step"] []) (zp:aT P w K mg base aI 1 fT dT ["self","told"] (rh R)) (xq:Meth K R "take_in" fT) (yq:Binds K dT ["self","told"] []):aT P w K mg base aI 4 f fd ["self","reckoning"] (rj C D R):=by
 refine F.bG vD λQa A outer s H vs Q E yj h=>?_
 ·obtain @⟨S,bg,m,kh,kk,kq,zj,A,fr,lv,rn,rfl,xk,h,zw,xf,zq,yl,xr,yr⟩:=h
  have zg:a' 3 _:=yj;have xh:a' 1 _:=zg.mono (by decide)
  have yh:=eQ yj.units;intro X;refine⟨_,ax (nu eL (kx (cf (pv 1) rfl) (λ_=>rfl))
    (ax (ba 2 vD.nd (aS ck (cf (pv 1) rfl) aw))
    (ax (ba 3 vD.nd (g6 (pv 0) T.cl xo zn zg yo .nil c3 (aa (pv 1) (aa (pv 2) ai))))
    (ax (bE (bJ iV (pv 3) ez (bS _)) (aF (ey (g6 (pv 1) n.cl xp zo xh yp .nil c3 (aa (pv 2) ai))))
     (aF (bE (g7 (jE yh (pv 3) (cf (pv 0) rfl))) (aF (ey (g6 (pv 1) n.cl xq zp xh yq .nil c3 (aa (eY yh (cf (pv 0) rfl) (pv 3)) ai)))) (aF (a9 (pv 3))))))
    (aF (ey (gq h6 GV GW BK (cf (pv 1) rfl) (aa aw ai))))))))
   (aF (a9 ez)),?_⟩
  refine⟨λyk σ Y=>∃(left:am UH) (t':Int) (O:am V) (U:am Gv) (G:am (List Key×V)) (yb:Int) (L M:a2 V),σ=[bd S.x,bd A.x,L,M]/\yk=left.length/\left.length<=4/\bN S.W ⟨fr.a,fr.w,left,t'⟩/\c5 R S Y A ⟨fr.a,fr.w,left,t'⟩ O U/\b' C D S bg yb G kk kq zj Y/\G.length+left.length<=kh.length+4/\Kr S A H Y,
   ⟨_,fr.left,fr.t,lv,rn,kh,m,none,none,rfl,rfl,?_,zq,xf,h,?_,λb o _ _ _ _ _ z=>z⟩,?_⟩
  ·have:=xf.a5;omega
  ·have:=xf.a5;omega
  rintro yk σ Y ⟨left,N,zl,I,ye,zr,L,M,rfl,rfl,xt,yc,g,zb,yf,ze⟩;refine af rfl ⟨A.x,R,A.dx,_,.ref A.lf,rfl,g.hx,n.cl,n.nl,qh,_,.inl ⟨_,au.of g.hl,rfl⟩,?_⟩;cases left with
  |nil =>
   have rl:=g.rl;have e:=bK.length rl;have e0:zl=[]:=mW e;subst e0;refine cA (λz=>by cases z) (λ_=>?_)
   exact xr N [] I ye zr Y ze zb (by have:ye.length+0<=kh.length+4:=yf;omega) g yc
  |cons d ds =>
   obtain⟨v,vs,rfl,yt,xx⟩:=g.rl.eG;refine cA (λ_=>?_) (λz=>absurd rfl z);have yf:ye.length+(ds.length+1)<=kh.length+4:=yf;refine⟨λzh H'=>∃(t':Int) (O:am V) (U:am Gv) (G:am (List Key×V)) (yb:Int) (L M:a2 V),zh=[bd S.x,bd A.x,L,M]/\bN S.W ⟨fr.a,fr.w,ds,t'⟩/\c5 R S H' A ⟨fr.a,fr.w,ds,t'⟩ O U/\b' C D S bg yb G kk kq zj H'/\G.length+ds.length<=kh.length+4/\Kr S A H H',λzh H' ⟨t',O,U,G,yb,L,M,e,zt,xu,yu,zu,xv⟩=>⟨ds.length,j4 _,ds,t',O,U,G,yb,L,M,e,rfl,by simp only[cS]at xt;omega,zt,xu,yu,zu,xv⟩,?_⟩
   refine af rfl ⟨A.x,R,A.dx,_,.ref A.lf,rfl,g.hx,n.cl,n.nl,qh,eK g.hl b4 ?_⟩;refine af rfl ⟨S.x,S.dx,_,rfl,zb.hx,rfl,_,rfl,_,rfl,ri.mk rfl xk zb (by omega) g.hx g.eT yl (g.st d aV) yt (λyd zc zd H2 xa p yv=>?_) λb yd tn zc zd H2 xa p yv xi=>?_⟩
   ·have c:c5 R S H2 A ⟨fr.a,fr.w,d::ds,N⟩ (v::vs) I:=g.kp zb xa
    have xd:Kr S A H H2:=λb o n1 j i u B e=>xa b o n1 j (ze b o n1 j i u B e);obtain⟨zv,xm,zf,yi,xe⟩:=c.rl.eG;cases zf
    refine af rfl ⟨rfl,_,rfl,_,rfl,A.x,A.dx,_,rfl,c.hx,rfl,_,rfl,rf.mk rfl c.hx (g.st d aV) yi λJ q xc=>?_⟩;have ya:A.lf≠A.x:=ar c.hl c.hx
    have ym:A.rs≠A.x:=ar c.hr c.hx
    have r:=q _ _ ya c.hl;have xg:=p.wr c λb o n1 j i e=>q b o n1 e;have za:∀b xs,H2 b=bn xs->J b=bn xs:=λb xs e=>q _ _ (ar e c.hx) e
    refine af rfl ⟨A.x,R,A.dx,_,.ref A.lf,rfl,xc,n.cl,n.nl,qh,.inl ⟨rfl,_,au.of r⟩,A.lf,_,0,0,v,rfl,rfl,r,by decide,by decide,EV,rfl,?_⟩
    have xb:∀b xs,J b=bn xs->upd J A.lf (.lst vs) b=bn xs:=λb xs e=>by rw[ag (ar e r)];exact e
    have a5:=c.a5;refine⟨stepT N d,vs,I,zc,zd,_,_,rfl,yc.step rfl yd,⟨by rw[ag (aP ya)];exact xc,xb _ _ (za _ _ c.eT),ah,iL (λb xs e=>xb _ _ (za _ _ e)) xe λs l=>g.st s (a7 _ l),λs l=>g.st s (a7 _ l),λs l=>g.an s (a7 _ l),by rw[ag (aP c.hT)];exact q _ _ ym c.hr,c.rm,by simp only[cS]at a5;show I.length+ds.length * 20<=99;omega,c.hT,c.nx,c.nf⟩,?_,by omega,λb o n1 j i u B e=>by rw[ag u];exact q _ _ i (xd b o n1 j i u B e)⟩
    exact xg.write λb o yg _ e=>by rw[ag (λz=>by rw[z,r]at e;cases e;exact yg _ rfl)];exact e
   ·have c:c5 R S H2 A ⟨fr.a,fr.w,d::ds,N⟩ (v::vs) I:=g.kp zb xa
    have xd:Kr S A H H2:=λb o n1 j i u B e=>xa b o n1 j (ze b o n1 j i u B e);obtain⟨zv,xm,zf,yi,xe⟩:=c.rl.eG;cases zf
    have zi:H2 tn=bn ((cX b).map kV):=xi;refine af rfl ⟨rfl,_,rfl,_,rfl,_,rfl,S.x,C,S.dx,_,.ref S.kn,rfl,p.hx,T.cl,T.nn,iP,S.kn,_,rfl,cm.t (k:=cX b) p.hk zi,_,rfl,?_⟩;rcases p.kv.val b with⟨e1,e3⟩|⟨zx,z,xw,y,ns,zk,e1,e3,rfl,zm,xn,yn,xj⟩
    ·rw[e1]
     exact af rfl (yr N d ds (v::vs) I zc zd b tn H2 xd p (by omega) c yc yd e3 xi)
    ·rw[e1]
     have yx:zk.length<=20:=et (len_sub yn xj) xk.a5;have a5:=c.a5;simp only[cS]at a5;refine af rfl ⟨A.x,A.dx,_,rfl,c.hx,rfl,_,rfl,S.x,C,S.dx,_,.ref S.kn,rfl,p.hx,T.cl,T.nn,iP,_,rfl,S.kn,.ref xw,rfl,by rw[<-e1];exact cm.t (k:=cX b) p.hk zi,rh.mk rfl c.hx c.hr zm xn (by rw[aE,aE];omega) λJ q xc xl=>?_⟩
     have ya:A.lf≠A.x:=ar c.hl c.hx
     have r:=q _ _ ya c.hT c.hl;have xg:=p.wr c λb o n1 j i e=>q b o n1 i e;have za:∀b xs,H2 b=bn xs->J b=bn xs:=λb xs e=>q _ _ (ar e c.hx) (ar e c.hr) e
     refine af rfl ⟨A.x,R,A.dx,_,.ref A.lf,rfl,xc,n.cl,n.nl,qh,.inl ⟨rfl,_,au.of r⟩,A.lf,_,0,0,v,rfl,rfl,r,by decide,by decide,EV,rfl,?_⟩
     have xb:∀b xs,J b=bn xs->upd J A.lf (.lst vs) b=bn xs:=λb xs e=>by rw[ag (ar e r)];exact e
     refine⟨N+z,vs,I++zk,zc,zd,_,_,rfl,yc.take rfl yd (p.ok _ e3),⟨by rw[ag (aP ya)];exact xc,xb _ _ (za _ _ c.eT),ah,iL (λb xs e=>xb _ _ (za _ _ e)) xe λs l=>g.st s (a7 _ l),λs l=>g.st s (a7 _ l),λs l=>g.an s (a7 _ l),by rw[ag (aP c.hT),bc];exact xl,λy yw=>?_,by rw[cL];show _+ds.length * 20<=99;omega,c.hT,c.nx,c.nf⟩,?_,by omega,λb o n1 j i u B e=>by rw[ag u];exact q _ _ i B (xd b o n1 j i u B e)⟩
     ·rcases cj.mp yw with y'|y'
      ·exact c.rm y y'
      ·exact xj y y'
     ·exact xg.write λb o yg _ e=>by rw[ag (λz=>by rw[z,r]at e;cases e;exact yg _ rfl)];exact e
theorem Bz:Vu "set" = ih (.type "set"):=by decide +kernel
theorem b'.DJ{S:Wh}{g:am (List Key×V)}{i:am (Ask×Int)}{a:Ask}(h:b' C D S bg m kh kk kq i H)(l:∀z,(a,z)∉ i)(n:S.W.Out a (.told z))(q:UA S.W S.NU a)
  (k:∀b o,b≠S.kn->b≠S.kp->H b=ih o->H' b=ih o) (r:H' S.kn=ev (kk++[(cX a,.ref tt)])) (s:H' S.kp=ev g) (t:g.length<=kk.length+1) (w:∃(y:V) (ns:Up) (c:am Gv),H' tt=bn [y,.int z,.ref ns]/\H' ns=bn (c.map V.str)/\c.Nodup /\∀y∈c,y∈S.NU) :
  b' C D S bg m kh (kk++[(cX a,.ref tt)]) g (i++[(a,z)]) H':=by
 have f:∀b xs,H b=bn xs->H' b=bn xs:=λb xs e=>k _ _ (ar e h.hk) (ar e h.hq) e
 have j:∀b xs,H b=cr xs->H' b=cr xs:=λb xs e=>k _ _ (ar e h.hk) (ar e h.hq) e
 obtain⟨x,e1,e2⟩:=h.ln;obtain⟨y,ns,c,h1,h2,A,B⟩:=w;refine⟨h.n3,k _ _ (ar h.hx h.hk) (ar h.hx h.hq) h.hx,⟨k _ _ (ar h.fi.hx h.hk) (ar h.fi.hx h.hq) h.fi.hx,j _ _ h.fi.hl,k _ _ (aP h.n1.1) (aP h.n1.2.2.1) h.fi.he,k _ _ (aP h.n1.2.1) (aP h.n1.2.2.2.1) h.fi.hh,h.fi.du.keep f h.fi.ok.ent,h.fi.ok,h.fi.nn⟩,j _ _ h.ho,r,s,h.n1,⟨x,e1,f _ _ e2⟩,h.el,h.mM.keep h.fi.ok f,lH (h.kv.keep f) ⟨rfl,tt,y,ns,c,rfl,h1,h2,A,B⟩,λp d=>?_,?_,λp d=>?_,by rw[cL];exact t⟩
 ·rcases cj.mp d with e|e
  ·exact h.ok p e
  ·rw[bX.mp e];exact n
 ·rw[bc]
  refine eu.mpr ⟨h.nd,by simp,λu E v hv e=>?_⟩
  have hv:v=a:=bX.mp hv;obtain⟨p,d,rfl⟩:=aY.mp E;exact l p.2 (by rw[<-hv,<-e];exact d)
 ·rcases cj.mp d with e|e
  ·exact h.gE p e
  ·rw[bX.mp e];exact q
theorem j0.no{b:am (Ask×Int)}(h:j0 H NU kk b){a:Ask}(c:∀z,(a,z)∉ b):bo kk (cX a)=none:=by
 rcases h.val a with⟨e,_⟩|⟨v,z,_,_,_,_,_,e,_⟩
 ·exact e
 ·exact absurd e (c z)
inductive rk(C D R:Up)(vs:List V)(H:Hp)(Q:VK)(E:XK):Prop
 |mk{S:Wh}{bg m:Int}{kh kk kq:List (List Key×V)}{ka:List (Ask×Int)}{A:FA}{fr:bb}{lv:List V}{rn:List Gv}(_:vs=[.ref S.x,.ref A.x])(_:gV S.W S.NU)(_:b' C D S bg m kh kk kq ka H)(_:kk.length<=10000)(_:c5 R S H A fr lv rn)(_:S.W.Out fr.a (.told fr.t))(_:∀z,(fr.a,z)∉ ka)(_:UA S.W S.NU fr.a)
  (_:∀mO Q2 H',(∀b o,b≠S.kn->b≠S.kp->H b=ih o->H' b=ih o)->b' C D S bg m kh mO Q2 (ka++[(fr.a,fr.t)]) H'->Q .aO H'):rk C D R vs H Q E
theorem En:bp ["self","reckoning","told"] ["self","reckoning"] (aH nL):=bw
theorem N7(F:aQ K "settle" "Whole.settle" nL f fd)(B:dW mg)(yd:hI mg)(yc:mg "set" = none)(T:hM K mg C)(i:ip K mg R):aT P w K mg base aI 1 f fd ["self","reckoning"] (rk C D R):=by
 refine F.bG En λQa A outer s H vs Q E zd h=>?_
 ·obtain @⟨S,bg,m,kh,kk,kq,yg,c,fr,lv,rn,rfl,xe,h,yf,j,ye,z,ze,q⟩:=h
  have ya:=eQ zd.units;intro X;refine⟨_,ax (ba 2 En.nd (cN (aa (cf (pv 1) rfl) (aa (cf (pv 1) rfl) (aa (dY j' rfl B.tuple boot_tuple (aa (cu (Hd rfl) rfl yd.sorted boot_sorted (aa (dY (B1 rfl) rfl yc Bz (aa (cf (pv 1) rfl) ai)) ai)) ai)) ai)))))
   (ax (gO ya (cf (pv 0) rfl) (cf (pv 1) rfl) (pv 2) rfl)
   (aF (gO ya (cf (pv 0) rfl) (cf (pv 1) rfl) (pv 2) rfl))),?_⟩
  have a5:=j.a5;refine af rfl ⟨c.x,R,c.dx,_,.str fr.w,rfl,j.hx,i.cl,i.nw,Cg,_,rfl,c.x,R,c.dx,_,.int fr.t,rfl,j.hx,i.cl,i.nt,pW,_,rfl,c.x,R,c.dx,_,.ref c.rs,rfl,j.hx,i.cl,i.nr,By,c.rs,rn,rfl,.inl (au.of j.hr),by omega,λl ds zc za O=>?_⟩
  have dl:ds.length<=20:=et (len_sub za λy L=>j.rm y ((O y).mp L)) xe.a5;refine⟨l,ds,rfl,ah,by omega,λv g xc pm zf=>⟨v,_,rfl,.inl ⟨au.of ah,λns xb=>⟨gC,λtt I=>?_⟩⟩⟩⟩
  generalize i6 (dV aI P w K mg base ["self","reckoning","told"] "Whole.settle" (aH nL) f Qa A outer s H E).ll.prog (dV aI P w K mg base ["self","reckoning","told"] "Whole.settle" (aH nL) f Qa A outer s H E).ll.w l ds=G at xc xb I⊢;have p:=(aK (o:=G) zc).trans ((aK (o:=.lst (g.map V.str)) xc).trans ((aK (o:=.tup (g.map V.str)) xb).trans (aK (o:=.tup [V.str fr.w,.int fr.t,.ref ns]) I)));have U:upd (upd (upd (upd H l G) v (.lst (g.map V.str))) ns (.tup (g.map V.str))) tt (.tup [V.str fr.w,.int fr.t,.ref ns]) tt=bn [V.str fr.w,.int fr.t,.ref ns]:=ah;have W:upd (upd (upd (upd H l G) v (.lst (g.map V.str))) ns (.tup (g.map V.str))) tt (.tup [V.str fr.w,.int fr.t,.ref ns]) ns=bn (g.map V.str):=by rw[ag (aA ah I)];exact ah
  generalize upd (upd (upd (upd H l G) v (.lst (g.map V.str))) ns (.tup (g.map V.str))) tt (.tup [V.str fr.w,.int fr.t,.ref ns])=Y at p U W⊢;have d:=h.same p;have J:=p _ _ j.hx;have yb:Y c.ta=bn ((cX fr.a).map kV):=p _ _ j.eT;have xg:=h.ql;refine a4 rfl rfl ⟨S.x,C,S.dx,_,.ref S.kn,rfl,d.hx,T.cl,T.nn,iP,_,rfl,c.x,R,c.dx,_,.ref c.ta,rfl,J,i.cl,i.na,qz,S.kn,_,rfl,eP.t (k:=cX fr.a) d.hk yb (by rw[aX];omega),?_⟩
  rw[kB _ (d.kv.no z)];have up:∀{u:HO} b o,b≠S.kn->Y b=ih o->upd Y S.kn u b=ih o:=λb o n e=>by rw[ag n];exact e
  have xf:∀{u:HO} b xs,Y b=bn xs->upd Y S.kn u b=bn xs:=λb xs e=>up _ _ (ar e d.hk) e
  have xd:∀{u:HO},upd Y S.kn u S.kp=ev kq:=λ{u}=>up _ _ (aP h.n1.2.2.2.2) d.hq;refine a4 rfl rfl ⟨S.x,C,S.dx,_,.ref S.kp,rfl,up _ _ (ar d.hx d.hk) d.hx,T.cl,T.np,rfl,_,rfl,c.x,R,c.dx,_,.ref c.ta,rfl,up _ _ (ar J d.hk) J,i.cl,i.na,qz,S.kp,_,rfl,eP.t (k:=cX fr.a) xd (xf _ _ yb) (by rw[aX];omega),?_⟩
  have M:∀{u N:HO} b o,b≠S.kn->b≠S.kp->Y b=ih o->upd (upd Y S.kn u) S.kp N b=ih o:=λb o n1 r e=>by rw[ag r,ag n1];exact e
  have zb:∀{u N:HO} b xs,Y b=bn xs->upd (upd Y S.kn u) S.kp N b=bn xs:=λb xs e=>M _ _ (ar e d.hk) (ar e d.hq) e
  refine q _ _ _ (λb o n1 r e=>M _ _ n1 r (p _ _ e)) (d.DJ z ye ze (λb o n1 r e=>M _ _ n1 r e) (by rw[ag h.n1.2.2.2.2];exact ah) ah (by have:=lQ kq (cX fr.a) (V.ref tt);omega) ⟨_,ns,g,zb _ _ U,zb _ _ W,pm.nodup_iff.mpr za,λy L=>j.rm y ((O y).mp (pm.mem_iff.mp L))⟩)
def Tells(t:TT)(σ:St)(H:Hp)(b:Bool):Prop:= ∀R:Bool->Hp->Prop,(∀Y,aB H Y->R b Y)->t σ H R
theorem Tells.and{t u:TT}{a b:Bool}(h:Tells t σ H a)(k:a=true ->∀Y,aB H Y->Tells u σ Y b):Tells (vb t u) σ H (a&&b):=λR q=>h _ λY c=>by
 cases a with
 |false=>exact q _ c
 |true=>exact k rfl Y c R λH2 d=>q _ (c.trans d)
theorem KL{t:TT}{a te:TS}{D:Ends}{c:_}{bk:_}{ct:_}{b:Bool}(h:Tells t (σ.set i (ih v)) H b)(k:∀Y,aB H Y->if b=true then a D (σ.set i (ih v)) Y else te D (σ.set i (ih v)) Y):ic i v σ H (Ends.nx (Ends.mk (vd t a te D) c bk ct)):=h _ k
structure u5(K:X2)(mg:Gv->Option i')(B C fI:Up)(oL:Xt):Prop where
 mC:mg "Missing" = ih (.ref C)
 q:fU K C (ih (.ref fI))=true
 fn:isFn K (.ref fI)=true
 kp:Yb K (.ref C)=true
 F:aQ K "__init__" "Missing.__init__" pM fI oL
 b:nS K B
 mB:mg "LineError" = ih (.ref B)
 bi:Binds K oL ["self","name"] []
 x:eH K C
 nk:XN K (.ref C) "name" = ih none
def qK(C:Up)(n:Gv)(H:Hp)(a:Up):Prop:= ∃d,H a=ih (gS (ih .none) C (ih d) a)/\H d=ih (e7 d [("name",.str n)])
inductive k4(K:X2)(fl:Gv)(vs:List V)(H:Hp)(Q:VK)(E:XK):Prop
 |mk{a C:Up}{k:V}{i:Option i'}(_:vs=[.ref a,k])(_:H a=ih (cJ C none a))(_:eH K C)(_:fU K C i=true)(_:uQ H k)(_:XN K (.ref C) fl=ih none)(_:∀d H',H d=none->d≠a->H' a=ih (cJ C (ih d) a)->H' d=ih (e7 d [(fl,k)])->D5 a H H'->Q .aO H'):k4 K fl vs H Q E
structure vE(K:X2)(mg:Gv->Option i')(B C fI:Up)(oL:Xt):Prop where
 mC:mg "Endless" = ih (.ref C)
 q:fU K C (ih (.ref fI))=true
 fn:isFn K (.ref fI)=true
 kp:Yb K (.ref C)=true
 F:aQ K "__init__" "Endless.__init__" pN fI oL
 b:nS K B
 mB:mg "LineError" = ih (.ref B)
 bi:Binds K oL ["self","names"] []
 x:eH K C
 nk:XN K (.ref C) "names" = ih none
def ro(C:Up)(ns:List Gv)(H:Hp)(a:Up):Prop:= ∃d t,H a=ih (gS (ih .none) C (ih d) a)/\H d=ih (e7 d [("names",.ref t)])/\H t=ih (.tup (ns.map V.str))
theorem KN{xs:am Gv}(e:H p=bn (xs.map V.str))(f:∀x∈xs,Nm x)(a5:xs.length<=300):uQ H (.ref p):=by
 have d:∀l:am Gv,(∀x∈l,Nm x)->Zv (l.map Vh)=true/\ZF (l.map Vh)=false/\Zg 13 (l.map Vh)=true/\ZM (l.map Vh)<=9 * l.length/\Vr (l.map Vh)=0:=by
  intro l
  induction l with
  |nil=>intro _;exact⟨rfl,rfl,rfl,aU _,rfl⟩
  |cons x l g =>
   intro h;obtain⟨h1,h2,a,i,b⟩:=g λy j=>h y (a7 _ j);have c:=h x aV;have k:x.cps.size<=8:=c.hi;refine⟨?_,?_,?_,?_,?_⟩
   ·simp only[bU,Zv,PyData.showable,h1,aah]
   ·simp only[bU,ZF,PyData.hasDict,h2,Ga]
   ·simp only[bU,Zg,PyData.leavesShort,a,Jp c,aah]
   ·simp only[bU,ZM,aac,cS];omega
   ·simp only[bU,Vr,XX,b];rfl
 obtain⟨h1,h2,a,i,b⟩:=d xs f;refine .inr (.inr ⟨p,.tuple (xs.map Vh),rfl,.tup e (lZ _ xs),h1,h2,?_,?_⟩)
 ·simp only[XX];rw[b];decide
 ·have:=PyData.shown_le_bulk 13 (by decide) (.tuple (xs.map Vh)) a
  simp only[aac]at this;omega
theorem Ci(K:X2)(h:X.K=K){f:Gv}(a:PE X e ta)(b:attributeBase e f X.env (eval e X.env)=eval e X.env):PE X (.Attribute e f pos) (vi K ta f):=by subst h;exact cf a b
structure ot(R:Up)(S:Wh)(H:Hp)(a6:List (FA×bb)):Prop where
 fr:∀p∈a6,∃lv rn,c5 R S H p.1 p.2 lv rn
 nd:(a6.flatMap λp=>[p.1.x,p.1.lf,p.1.rs]).Nodup
def refs(a6:List (FA×bb)):List V:=a6.map λp=>V.ref p.1.x
def fw(a:Ask):UH:=.tuple [.str a.1,.str a.2]
theorem qj{a b:Ask}:XA (fw a) (fw b)=decide (a=b):=by
 have:=tJ [a.1,a.2] [b.1,b.2];have e:XA (fw a) (fw b)=Ya ([a.1,a.2].map Vh) ([b.1,b.2].map Vh):=by first|rfl|simp[fw,XA]
 rw[e,this];exact decide_eq_decide.mpr ⟨λh=>by injection h with h1 h2;injection h2 with c _;exact lA h1 c,λh=>by rw[h]⟩
theorem UA.str{W:aW}(b:gV W NU){a:Ask}(u:UA W NU a):Xv a.1=true/\Xv a.2=true:=by
 refine⟨n9 (b.nm _ u.1),?_⟩;rcases u.2 with z|z
 ·rw[z];decide +kernel
 ·exact n9 (b.lm _ z)
theorem Pw:bp ["self","name"] ["self","name"] (aH pM):=bw
theorem N8(F:aQ K "__init__" "Missing.__init__" pM f fd)(b:nS K B)(n:mg "LineError" = ih (.ref B)):aT P w K mg base aI 1 f fd ["self","name"] (k4 K "name"):=by
 refine F.bG Pw λQa A outer s H vs Q E g h=>?_
 ·obtain @⟨a,C,k,i,rfl,j,c,o,p,r,q⟩:=h
  have t:=g.units;have u:=g.gd;intro X;refine⟨_,ax (ey (Ar b rfl n (aa (pv 0) (aa (CC (p8 bu (p8 (Dg t u (pv 1)) Dh))) ai)))) (aF (CF (pv 0) (pv 1))),?_⟩;refine af rfl ⟨af rfl (by decide +kernel),_,rfl,p,λv m=>⟨af rfl m,λy x=>?_⟩⟩
  refine⟨a,C,none,_,i,rfl,j,c,o,?_⟩;refine a4 rfl rfl ⟨a,C,rfl,j,c,r,λd l e=>?_⟩;exact q d _ l e ah (by rw[ag e];exact ah) (B9 l)
theorem Px:bp ["self","names"] ["self","names"] (aH pN):=bw
theorem N9(F:aQ K "__init__" "Endless.__init__" pN f fd)(b:nS K B)(n:mg "LineError" = ih (.ref B)):aT P w K mg base aI 1 f fd ["self","names"] (k4 K "names"):=by
 refine F.bG Px λQa A outer s H vs Q E g h=>?_
 ·obtain @⟨a,C,k,i,rfl,j,c,o,p,r,q⟩:=h
  have t:=g.units;have u:=g.gd;intro X;refine⟨_,ax (ey (Ar b rfl n (aa (pv 0) (aa (CC (p8 bu (p8 (Dg t u (pv 1)) Dh))) ai)))) (aF (CF (pv 0) (pv 1))),?_⟩;refine af rfl ⟨af rfl (by decide +kernel),_,rfl,p,λv m=>⟨af rfl m,λy x=>?_⟩⟩
  refine⟨a,C,none,_,i,rfl,j,c,o,?_⟩;refine a4 rfl rfl ⟨a,C,rfl,j,c,r,λd l e=>?_⟩;exact q d _ l e ah (by rw[ag e];exact ah) (B9 l)
theorem BA{S:Wh}{a6:am (FA×bb)}{st c:Up}(j:ip K mg R)(m:H st=ce (refs a6))(fs:ot R S H a6)(w:a6.length<=1000)(k:H c=none)(q:∀Y,aB H Y->Y c=ce (a6.map λp=>V.ref p.1.ta)->Q (.ref c) Y) :
  hE (jU K st) (ic 0) nZ (vi K (gu 0) "asking") [none] Q c H:=by
 refine eW (xs:=refs a6) (λi ys a H2=>∃g:a2 V,a=[g]/\aB H H2/\H2 c=ce ys/\ys=(a6.take i).map λp=>V.ref p.1.ta) ⟨none,rfl,aK k,ah,rfl⟩ (λi ys a H2 z=>by obtain⟨_,_,r,s,_⟩:=z;exact ⟨s,au.of (r _ _ m)⟩) ?_ ?_
 ·rintro i y ys a H2 h ⟨g,rfl,l,h2,rfl⟩
  have d:i<(refs a6).length:=(bR.mp h).1;have f:i<a6.length:=by unfold refs at d;rwa [aE]at d
  obtain rfl:V.ref a6[i].1.x=y:=by unfold refs at h;simpa [f] using h
  have n:a6.take (i+1)=a6.take i++[a6[i]]:=by rw[dX,bz f];rfl
  obtain⟨lv,rn,t⟩:=fs.fr a6[i] (gj f);refine af rfl ⟨a6[i].1.x,R,_,_,.ref a6[i].1.ta,rfl,l _ _ t.hx,j.cl,j.na,qz,h2,by rw[aE,cz,aX];omega,cw_next d ⟨_,rfl,λb o e=>by rw[ag (aA e k)];exact l _ _ e,ah,?_⟩⟩
  rw[n,bc];rfl
 rintro ys a Y ⟨g,rfl,u,h1,rfl⟩;have v:(refs a6).length=a6.length:=by unfold refs;rw[aE]
 rw[v,cM]at h1;exact q Y u h1
theorem Cj{S:Wh}(d:gV S.W S.NU):∀{a6:am (FA×bb)},(∀p∈a6,∃lv rn,c5 R S H p.1 p.2 lv rn)->(∀p∈a6,UA S.W S.NU p.2.a)->bK H (a6.map λp=>V.ref p.1.ta) (a6.map λp=>fw p.2.a)/\XI (a6.map λp=>fw p.2.a)=true:=by
 intro a6
 induction a6 with
 |nil=>exact λ_ _=>⟨.nil,rfl⟩
 |cons p l e =>
  intro fr c;obtain⟨f,g⟩:=e (λq b=>fr q (a7 _ b)) λq b=>c q (a7 _ b);obtain⟨lv,rn,h⟩:=fr p aV;obtain⟨s1,s2⟩:=(c p aV).str d;refine⟨.cons (.tup h.eT (.cons (.str _) (.cons (.str _) .nil))) f,?_⟩;show((Xv p.2.a.1&&(Xv p.2.a.2&&true))&&XI _)=true;rw[s1,s2,g];rfl
theorem C1{W:aW}(b:gV W NU){a:Ask}(u:UA W NU a):(fw a).canLay0=true/\(fw a).depth<=60:=by
 obtain⟨s1,s2⟩:=u.str b;exact⟨by show(Xv a.1&&(Xv a.2&&true))=true;rw[s1,s2];rfl,by simp[fw,XX,Vr]⟩
inductive rp(R:Up)(vs:List V)(H:Hp)(Q:VK)(E:XK):Prop
 |mk{S:Wh}{st ta:Up}{a6:List (FA×bb)}{b:Ask}{i:Nat}(_:vs=[.ref st,.ref ta])(_:gV S.W S.NU)(_:H st=ih (.lst (refs a6)))(_:a6.length<=1000)(_:ot R S H a6)(_:∀p∈a6,UA S.W S.NU p.2.a)(_:H ta=ih (.tup [.str b.1,.str b.2]))(_:UA S.W S.NU b)(_:(a6.map (·.2.a))[i]?=ih b)(_:∀m,m<i->(a6.map (·.2.a))[m]? ≠ ih b)
  (_:∀t H',aB H H'->H t=none->H' t=ih (.tup ((b8 ((a6.map (·.2.a)).drop i)).map V.str))->Q (.ref t) H'):rp R vs H Q E
noncomputable abbrev v7:List Gv:=["standing","again","askings"]
theorem Eo:bp v7 ["standing","again"] (aH kg):=bw
noncomputable abbrev Py:Vc:=ft (cw (bB kg) 0)
abbrev Pz:Vc:=fu (kW (cw (bB kg) 1))
theorem DK:bY v7 (aH kg) ["reckoning"] [none] (cI Py):=c8
theorem u6:bY v7 (aH kg) ["name","behind"] [none,none] (cI Pz):=c8
theorem Oa(F:aQ K "round_from" "round_from" kg f fd)(B:dW mg)(ye:ip K mg R):aT P w K mg base aI 1 f fd ["standing","again"] (rp R):=by
 refine F.bG Eo λQa A outer s H vs Q E ze h=>?_
 ·obtain @⟨S,st,ta,d,b,i,rfl,xa,T,xc,fs,xf,yc,yf,hi,zc,q⟩:=h
  have zf:=ze.units;intro X;refine⟨_,ax (m5 rfl DK Eo.nd (i:=2) rfl rfl (dt (pv 0)) (λs H fp=>⟨br 0 DK.nd,eh,Ci K rfl (pv 0) rfl⟩))
   (aF (a9 (dY j' rfl B.tuple boot_tuple (aa (dB rfl u6 (dt (h8 kD (pv 2) (gN (gq h6 Vn Vo (Jm zf) (pv 2) (aa (pv 1) ai))) iQ)) (λs H fp=>⟨pT (n:=2) K rfl rfl (dq (br 0 u6.nd) (dq (br 1 u6.nd) gM)),h9 (bJ ei (pv 1) bu (bS _)),pv 0⟩)) ai)))),?_⟩
  refine af rfl ⟨st,rfl,⟨_,au.of T⟩,λc xg=>BA ye T fs xc xg λY I h1=>?_⟩;have xd:=I _ _ yc;obtain⟨yg,zg⟩:=Cj xa (λp J=>let ⟨lv,rn,x⟩:=fs.fr p J;⟨lv,rn,x.keep λb o _ e=>I _ _ e⟩) xf;obtain⟨b1,xh⟩:=C1 xa yf;have ya:∀m:Nat,(d.map λp=>fw p.2.a)[m]?=((d.map (·.2.a))[m]?).map fw:=λm=>by rw[dQ,dQ,w9];rfl
  refine⟨_,rfl,_,rfl,.inl ⟨rfl,_,au.of h1⟩,_,rfl,c,_,_,_,fw b,_,i,rfl,rfl,h1,yg,.tup xd (.cons (.str _) (.cons (.str _) .nil)),zg,b1,xh,by rw[ya,hi];rfl,by rw[qj];exact cc rfl,λm L yh e=>?_,_,rfl,c,_,rfl,au.of h1,λu yd=>?_⟩
  ·rw[ya]at e
   obtain⟨a,zh,rfl⟩:=gi.mp e;rw[qj];exact d4 λz=>zc m yh (by rw[zh,z])
  rw[pQ,<-lK];have M:=I.trans (aK (o:=.lst ((d.drop i).map λp=>V.ref p.1.ta)) yd);have h2:upd Y u (.lst ((d.drop i).map λp=>V.ref p.1.ta)) u=ce ((d.drop i).map λp=>V.ref p.1.ta):=ah;generalize upd Y u (.lst ((d.drop i).map λp=>V.ref p.1.ta))=H2 at M h2⊢;refine⟨u,rfl,⟨_,au.of h2⟩,λza U=>?_⟩;have zd:(d.map (·.2.a)).drop i=(d.drop i).map (·.2.a):=by rw[lK]
  rw[zd]at q;have L:∀p∈d.drop i,p∈d:=λp J=>si J;have dl:(d.drop i).length<=1000:=by rw[j7];omega
  generalize d.drop i=gs at h2 q L dl;have rl:∀l:am (FA×bb),(b8 (l.map (·.2.a))).length<=l.length:=λl=>by unfold b8;rw[aE];exact et (gm _ _) (by rw[aE];exact aU _)
  refine eW (xs:=gs.map λp=>V.ref p.1.ta) (λj ys v g=>∃N O:a2 V,v=[N,O]/\aB H2 g/\g za=ce ys/\ys=(b8 ((gs.take j).map (·.2.a))).map V.str) ⟨none,none,rfl,aK U,ah,rfl⟩ (λj ys v g ab=>by obtain⟨_,_,_,z1,z2,_⟩:=ab;exact ⟨z2,au.of (z1 _ _ h2)⟩) ?_ ?_
  ·rintro j y ys v g xb ⟨N,O,rfl,k,r,rfl⟩
   have D:=(bR.mp xb).1;have G:j<gs.length:=by rwa [aE]at D
   obtain rfl:V.ref gs[j].1.ta=y:=by simpa [G] using xb
   have xe:gs.take (j+1)=gs.take j++[gs[j]]:=by rw[dX,bz G];rfl
   obtain⟨lv,rn,xi⟩:=fs.fr gs[j] (L _ (gj G));have zb:=k _ _ (M _ _ xi.eT);have C:b8 ((gs.take (j+1)).map (·.2.a))=b8 ((gs.take j).map (·.2.a))++(if decide (gs[j].2.a.2=("" : Gv))=true then [gs[j].2.a.1] else []):=by
    rw[xe];unfold b8;rw[bc,f7,bc];congr 1;show((List.filter _ [gs[j].2.a]).map _)=_;rw[jq,oZ];split <;> rfl
   refine⟨gs[j].1.ta,_,rfl,aZ.of zb,rfl,_,_,rfl,_,_,rfl,rfl,_,rfl,rfl,_,rfl,?_⟩
   by_cases e:gs[j].2.a.2=("" : Gv)
   ·rw[cc e,ay rfl]at C
    refine ite_tt (by rw[e];rfl) ?_
    have:=rl (gs.take j);rw[cz]at this;exact af rfl ⟨r,by rw[aE,aX];omega,cw_next D ⟨_,_,rfl,λb o e=>by rw[ag (aA e U)];exact k _ _ e,ah,by rw[C,bc];rfl⟩⟩
   ·rw[d4 e,aq b9,ee]at C
    refine ite_ff (d4 λz=>e (by injection z)) ?_
    exact cw_next D ⟨_,_,rfl,k,r,by rw[C]⟩
  rintro ys v g ⟨N,O,rfl,k,r,rfl⟩;rw[aE,cM]at r;refine⟨za,_,rfl,.inl ⟨au.of r,λt yb=>?_⟩⟩;have W:=M.trans k;exact q t _ (W.trans (aK yb)) (W.free yb) ah
inductive ou(C D R M N:Up)(vs:List V)(H:Hp)(Q:VK)(E:XK):Prop
 |mk{S:Wh}{bg m:Int}{kh kk kq:List (List Key×V)}{ka:List (Ask×Int)}{st ta:Up}{a6:List (FA×bb)}{b:Ask}(_:vs=[.ref S.x,.ref st,.ref ta])(_:gV S.W S.NU)(_:b' C D S bg m kh kk kq ka H)(_:kh.length<=900000)(_:kk.length<=10000)(_:H st=ih (.lst (refs a6)))(_:a6.length<=300)(_:ot R S H a6)(_:∀p∈a6,UA S.W S.NU p.2.a)(_:H ta=ih (.tup [.str b.1,.str b.2]))(_:UA S.W S.NU b)
  (_:∀i,(∀z,(b,z)∉ ka)->(a6.map (·.2.a))[i]?=ih b->(∀m,m<i->(a6.map (·.2.a))[m]? ≠ ih b) ->∀a H',aB H H'->H a=none->ro N (b8 ((a6.map (·.2.a)).drop i)) H' a->E (.ref N) (ih a) H')
  (_:∀z,(b,z)∈ka->Q .aO H)
  (_:(∀z,(b,z)∉ ka)->S.W.Out b (.miss b.1) ->∀a H',Kp S H H'->H a=none->qK M b.1 H' a->E (.ref M) (ih a) H')
  (_:∀z mO eb m' H',(∀z,(b,z)∉ ka)->(∀p∈a6,p.2.a≠b)->S.W.Out b (.told z)->(∀y o,y≠S.fi->y≠S.dh->y≠S.kn->H y=ih o->H' y=ih o)->b' C D S bg m' eb mO kq (ka++[(b,z)]) H'->eb.length<=kh.length+1->Q .aO H')
  (_:∀fa fr lv rn eb m' H',(∀z,(b,z)∉ ka)->(∀p∈a6,p.2.a≠b)->fr.a=b->bN S.W fr->fr.w∈S.W.line->(∀y o,y≠S.fi->y≠S.dh->y≠S.x->y≠st->H y=ih o->H' y=ih o)->b' C D S (bg+1) m' eb kk kq ka H'->eb.length<=kh.length+1->H' st=ih (.lst (refs (a6++[(fa,fr)])))->c5 R S H' fa fr lv rn->H fa.x=none->H fa.lf=none->H fa.rs=none->fa.x≠fa.lf->fa.x≠fa.rs->Q .aO H'):ou C D R M N vs H Q E
noncomputable abbrev EW:List Gv:=["self","standing","asking","name","behind","hit"]
theorem rq:bp EW ["self","standing","asking"] (aH nX):=bw
def DL(s:U7):Vc:=match s with|.If t _ _ _=>t|_=>.Constant .none 0 ⟨0,0,0,0⟩
abbrev Q6:Vc:=DI (DL (cw (bB nX) 1))
theorem Ep:bY EW (aH nX) ["reckoning"] [none] (cI Q6):=c8
theorem Ob{N yA zL fR xM:Up}{zA yM zM:Xt}(F:aQ K "enter" "Whole.enter" nX f fd)(T:hM K mg C)(xN:jN K mg D)(xB:ip K mg R)(O:u5 K mg B M fI dI)(U:vE K mg B N yA zA)(yN:bV P w K mg base aI 1 xM zM ["standing","again"] (rp R) "round_from")(zN:aT P w K mg base aI 2 fL dL ["self","kind","name","behind"] (ml D))(xO:Meth K D "look" fL)(yO:Binds K dL ["self","kind","name","behind"] [])(zO:bV P w K mg base aI 1 zL yM ["entry"] q' "goes_first")(xP:bV P w K mg base aI 1 fS dS ["entry"] ra "steps_of")
  (yP:Mk K R fR) (zP:aT P w K mg base aI 1 fR dR oK (rb R)) (xQ:Binds K dR oK []):aT P w K mg base (cQ P w) 3 f fd ["self","standing","asking"] (ou C D R M N):=by
 have yQ:aT P w K mg base aI 1 fI dI ["self","name"] (k4 K "name"):=N8 O.F O.b O.mB;have zQ:aT P w K mg base aI 1 yA zA ["self","names"] (k4 K "names"):=N9 U.F U.b U.mB;refine F.vq rq λQa A outer s H vs Q E yB h=>?_
 ·obtain @⟨S,bg,m,kh,kk,kq,xR,st,ta,xf,b,rfl,za,h,yX,zX,yl,xY,fs,xu,zl,xe,yR,zR,xS,yS,zS⟩:=h
  have zg:a' 2 _:=yB;have xp:a' 1 _:=zg.mono (by decide)
  have zB:=yB.units;have xh:=eQ zB;intro X;refine⟨_,ax (bE (g7 (jE xh (pv 2) (cf (pv 0) rfl))) (aF K1) bZ)
   (ax (bE (bJ (Df zB) (pv 2) (dB rfl Ep (dt (pv 1)) (λs H fp=>⟨br 0 Ep.nd,eh,Ci K rfl (pv 0) rfl⟩)) rfl) (aF (Bf (CD U.q U.fn U.kp zQ zg U.bi c3 rfl U.mC (aa (bA yN xp (aa (pv 1) (aa (pv 2) ai))) ai)))) bZ)
   (ax (jC (pv 2) (iU rfl (dq (br 3 rq.nd) (dq (br 4 rq.nd) gM))))
   (ax (ba 5 rq.nd (g6 (cf (pv 0) rfl) xN.cl xO zN zg yO .nil c3 (aa (cf (pv 0) rfl) (aa (pv 3) (aa (pv 4) ai)))))
   (aF (bE (PW.pt (pw_and (bJ ei (pv 4) bu (bS _)) (pw_and (g7 (jE xh (pv 3) (cf (pv 0) rfl))) (pw_and1 (PW.pt (pw_or (bJ iV (pv 5) ez (bS _)) (pw_or1 (g8 (gP (bA zO xp (aa (aS bD (pv 5) aw) ai)))))))))))
    (aF (gO xh (cf (pv 0) rfl) (pv 2) (cN (aa bu (aa (eY xh (cf (pv 0) rfl) (pv 3)) (aa (cN (aa (pv 3) ai)) ai)))) rfl))
    (aF (bE (bJ iV (pv 5) ez (bS _)) (aF (Bf (CD O.q O.fn O.kp yQ zg O.bi c3 rfl O.mC (aa (pv 3) ai))))
     (aF (bE (bJ ei (aS bD (aS bD (pv 5) aw) aw) bu (bS _))
      (aF (gO xh (cf (pv 0) rfl) (pv 2) (cN (aa (aS bD (pv 5) aw) (aa (aS bD (aS bD (pv 5) aw) aw) (aa (cN (aa (pv 3) ai)) ai)))) rfl))
      (ax (m9 (pv 0) aw qo) (aF (ey (gq h6 oX oY ku (pv 1) (aa (tS yP zP zg rfl xB.oH xQ .nil c3 (aa (pv 2) (aa (aS bD (pv 5) aw) (aa (bA xP xp (aa (aS bD (pv 5) aw) ai)) ai)))) ai)))))))))))))),?_⟩
  have xF:H ta=bn ((cX b).map kV):=zl;refine a4 rfl rfl ⟨S.x,C,S.dx,_,.ref S.kn,rfl,h.hx,T.cl,T.nn,iP,S.kn,_,rfl,cm.t (k:=cX b) h.hk xF,_,rfl,?_⟩;rcases h.kv.val b with⟨e1,yf⟩|⟨v,z,y0,y,ns,z0,e1,e3,_⟩
  ·rw[e1]
   refine a4 rfl rfl ⟨st,rfl,⟨_,au.of yl⟩,λc xT=>BA xB yl fs (by omega) xT λY xa h1=>?_⟩
   obtain⟨xC,yT⟩:=Cj za (λp xb=>let ⟨lv,rn,x⟩:=fs.fr p xb;⟨lv,rn,x.keep λb o _ e=>xa _ _ e⟩) xu;obtain⟨b1,zT⟩:=C1 za xe;refine⟨fw b,_,.tup (xa _ _ zl) (.cons (.str _) (.cons (.str _) .nil)),.inl (.lst h1 xC),b1,yT,zT,_,rfl,?_⟩;rw[aq b9];have zD:((xf.map λp=>fw p.2.a).any λy=>XA y (fw b))=decide (b∈xf.map (·.2.a)):=by
    rw[ly,lG,decide_eq_true_iff,aY]
    constructor
    ·rintro⟨y,zi,e⟩
     obtain⟨p,xb,rfl⟩:=aY.mp zi;rw[qj]at e;exact⟨p,xb,eg e⟩
    ·rintro⟨p,xb,e⟩
     exact⟨_,aY.mpr ⟨p,xb,rfl⟩,by rw[qj];exact cc e⟩
   rw[zD];refine cA (λyh=>?_) (λyh=>?_)
   ·have yh:=eg yh
    obtain⟨yu,zu⟩:=tL yh;generalize (xf.map (·.2.a)).idxOf b=i at yu zu;refine a4 rfl rfl (rp.mk (i:=i) rfl za (xa _ _ yl) (by omega) ⟨λp xb=>let ⟨lv,rn,x⟩:=fs.fr p xb;⟨lv,rn,x.keep λb o _ e=>xa _ _ e⟩,fs.nd⟩ xu (xa _ _ zl) xe yu zu λt H2 xv yY zc=>⟨by show 1<=100;decide,λa xd=>k4.mk rfl ah U.x U.q (KN (aK xd _ _ zc) ?_ ?_) U.nk λd yb xU yp I zh zp=>⟨rfl,a,N,ih d,_,rfl,I,λyU yv=>by cases yv;exact⟨_,zh⟩,U.x,U.q,(xa.trans xv).free xd,?_⟩⟩)
    ·intro x yd
     unfold b8 at yd;obtain⟨y,zi,rfl⟩:=aY.mp yd;obtain⟨p,xb,rfl⟩:=aY.mp (si (er.mp zi).1);exact za.nm _ (xu p xb).1
    ·unfold b8;rw[aE];have h1:=gm (λa:Ask=>decide (a.2=("" : Gv))) ((xf.map (·.2.a)).drop i);rw[j7,aE]at h1;omega
    ·have yC:aB H2 (upd yb a (gS (ih .none) N (ih d) a)):=λb o e=>by
      have ye:b≠a:=aA e xd;rw[ag ye];exact zp b o (by rw[ag ye];exact e) ye
     exact yR i yf yu zu a _ ((xa.trans xv).trans yC) ((xa.trans xv).free xd) ⟨d,t,ah,by rw[ag yp];exact zh,yC _ _ zc⟩
   have xy:∀p∈xf,p.2.a≠b:=λp xb e=>yh (cc (aY.mpr ⟨p,xb,e⟩));have zk:=xa _ _ zl;have I:=h.same xa;have xo:=xa _ _ yl;clear h1 xC;refine af rfl ⟨ta,_,rfl,aZ.of zk,rfl,_,_,rfl,_,_,rfl,rfl,?_⟩;refine af rfl ⟨S.x,C,S.dx,_,.ref S.fi,rfl,I.hx,T.cl,T.nf,tM,S.fi,S.fx,_,rfl,I.fi.hx,u4 (by decide +kernel) (by decide +kernel) (by decide +kernel) (by decide +kernel),_,rfl,S.x,C,S.dx,_,.str S.kd,rfl,I.hx,T.cl,T.nk,uk,_,rfl,_,rfl,ml.mk rfl I.fi I.ln (by rw[h.el];have:=za.ln;omega) (by rw[h.el];exact xe.2) I.mM (by omega) λv xq zv H2 xm yF zF zC J=>?_⟩
   have zf:=I.looked xm yF zF;have kp:Kp S H H2:=λb o n1 zd z=>xm b o n1 zd (xa _ _ z);rw[h.el]at J;have J:eJ H2 v (S.W.look b):=J;have xE:=xm _ _ (ar zk I.fi.hx) (ar zk I.fi.hh) zk
   have yE:=xm _ _ (ar xo I.fi.hx) (ar xo I.fi.hh) xo
   have yq:∀y,H2 y=none->H y=none:=λy e=>by
    cases e0:H y with
    |none=>rfl
    |some u =>
     by_cases z1:y=S.fi
     ·rw[z1,zf.fi.hx]at e;cases e
     ·by_cases z2:y=S.dh
      ·rw[z2,zf.fi.hh]at e;cases e
      ·rw[kp y u z1 z2 e0]at e;cases e
   have yy:∀wh d,S.W.look b=ih (wh,d)->Ent d:=λwh d e=>(l7 za.bk wh d e).2;have zy:∀z j tt ns,aB H2 j->S.W.Out b (.told z)->(∃y,j tt=bn [y,.int z,.ref ns])->j ns=bn [.str b.1]->Q .aO (upd j S.kn (.dT (putK kk (cX b) (.ref tt)))):=λz j tt ns r xn ⟨y,xG⟩ yG=>by
    have g:=zf.same r;rw[kB _ (g.kv.no yf)];have up:∀{u:HO} x o,x≠S.kn->j x=ih o->upd j S.kn u x=ih o:=λx o n e=>by rw[ag n];exact e
    have xj:∀{u:HO} x xs,j x=bn xs->upd j S.kn u x=bn xs:=λx xs e=>up _ _ (ar e g.hk) e
    refine yS z _ xq zv _ yf xy xn (λx o n1 zd xw e=>up _ _ xw (r _ _ (kp x o n1 zd e))) (g.DJ yf xn xe (λx o n1 zd e=>up _ _ n1 e) ah (up _ _ (aP h.n1.2.2.2.2) g.hq) (Gw h.ql) ⟨y,ns,[b.1],xj _ _ xG,xj _ _ yG,by simp,λy zi=>by rw[bX.mp zi];exact xe.1⟩) zC
   refine KL (b:=decide (V.str b.2=V.str "")&&((bo (gx S.W.own) (F3 b.1)).isSome&&S.W.fz b)) (.and (λR k=>af rfl ⟨rfl,_,rfl,k _ λ_ _ e=>e⟩) λ_ j r=>.and (λR k=>a4 rfl rfl ⟨S.x,C,S.dx,_,.ref S.ow,rfl,r _ _ zf.hx,T.cl,T.no,Dr,S.ow,_,rfl,cm.k (k:=F3 b.1) (r _ _ zf.ho),_,rfl,k _ λ_ _ e=>e⟩) λ_ yb G R k=>?_) λj r=>?_
   ·have G:=r.trans G
    cases L:S.W.look b with
    |none =>
     rw[L]at J;rw[show S.W.fz b=true by unfold aW.fz;rw[L]]at k
     have J:v=V.aO:=J;subst J;exact af rfl ⟨rfl,_,rfl,k _ λ_ _ e=>e⟩
    |some p =>
     obtain⟨y,d⟩:=p;rw[L]at J;rw[show S.W.fz b = !jF d by unfold aW.fz;rw[L]]at k
     obtain⟨t,u,rfl,zc,yw⟩:=J;refine af rfl ⟨rfl,_,rfl,_,rfl,bf (G _ _ zc) dG (q'.mk rfl (yy _ _ L) (yw.same G) λyj xc=>af rfl (k _ xc))⟩
   have g:=zf.same r;have yo:=r _ _ xE
   by_cases zw:b.2 = "" /\ (S.W.own.lookup b.1).isSome=true/\S.W.fz b=true
   ·obtain⟨xz,zG,yz⟩:=zw
    obtain⟨z,yn⟩:=wq.mp zG;have xD:bo (gx S.W.own) (F3 b.1)=ih (.int z):=by rw[uo,yn];rfl
    have zj:S.W.dJ b=ih z:=by unfold aW.dJ;rw[ay ⟨xz,yz⟩,yn]
    rw[ay (by rw[xD,yz,xz];rfl)]
    refine af rfl ⟨S.x,C,S.dx,_,.ref S.ow,rfl,g.hx,T.cl,T.no,Dr,_,rfl,S.ow,.int z,rfl,by rw[<-xD];exact cm.k (k:=F3 b.1) g.ho,_,rfl,eo,λl zq=>⟨gC,λzb xi=>?_⟩⟩
    have G:=(aK (o:=.tup [V.str b.1]) zq).trans (aK (o:=.tup [V.str "",.int z,.ref l]) xi);have xg:upd (upd j l (.tup [V.str b.1])) zb (.tup [V.str "",.int z,.ref l]) zb=bn [V.str "",.int z,.ref l]:=ah;have yg:upd (upd j l (.tup [V.str b.1])) zb (.tup [V.str "",.int z,.ref l]) l=bn [V.str b.1]:=by rw[ag (aA ah xi)];exact ah
    generalize upd (upd j l (.tup [V.str b.1])) zb (.tup [V.str "",.int z,.ref l])=yb at G xg yg⊢;refine af rfl ⟨S.x,C,S.dx,_,.ref S.kn,rfl,G _ _ g.hx,T.cl,T.nn,iP,_,rfl,S.kn,_,rfl,eP.t (k:=cX b) (G _ _ g.hk) (G _ _ yo) (by rw[aX];omega),?_⟩
    exact zy z yb zb l (r.trans G) (Out.own zj) ⟨_,xg⟩ yg
   have zj:S.W.dJ b=none:=by
    unfold aW.dJ
    by_cases zn:b.2 = "" /\ S.W.fz b=true
    ·rw[ay zn]
     cases e:S.W.own.lookup b.1 with
     |none=>rfl
     |some z=>exact absurd ⟨zn.1,by rw[e];rfl,zn.2⟩ zw
    ·rw[aq zn]
   rw[aq (λz=>zw (by
    rw[hZ,hZ,uo,r8]at z;refine⟨?_,z.2.1,z.2.2⟩;have e:=eg z.1;injection e))]
   cases L:S.W.look b with
   |none =>
    rw[L]at J;have J:v=V.aO:=J;subst J;refine af rfl ⟨rfl,_,rfl,_,rfl,by show 1<=100;decide,λa xd=>k4.mk rfl ah O.x O.q (.inl (af rfl (by have:=(za.nm _ xe.1).hi;omega))) O.nk λd yb xU yp I zh zp=>⟨rfl,a,M,ih d,_,rfl,I,λyU yv=>by cases yv;exact⟨_,zh⟩,O.x,O.q,yq _ (r.free xd),?_⟩⟩
    refine xS yf (Out.none zj L) a _ (λy u n1 zd e=>?_) (yq _ (r.free xd)) ⟨d,ah,by rw[ag yp];exact zh⟩
    have e3:=r _ _ (kp y u n1 zd e);have ye:y≠a:=aA e3 xd;rw[ag ye];exact zp y u (by rw[ag ye];exact e3) ye
   |some p =>
    obtain⟨y,d⟩:=p;rw[L]at J;obtain⟨t,u,rfl,zc,yw⟩:=J;have xk:=yy _ _ L;have yi:=r _ _ zc;have xr:=yw.same r;obtain⟨x1,xs,rfl,xH⟩:=um xk xr;refine af rfl ⟨rfl,_,rfl,_,rfl,bf yi dG (bf xH b4 ⟨rfl,_,rfl,?_⟩)⟩;refine cA (λe=>?_) (λe=>?_)
    ·have e:a3 d = "plain" :=by
      have:=eg e;injection this
     cases xk with
     |ahead x n=>exact absurd e (by show ¬ ((("ahead" : Gv)) = "plain");decide +kernel)
     |behind ds=>exact absurd e (by show ¬ ((("behind" : Gv)) = "plain");decide +kernel)
     |jM ds=>exact absurd e (by show ¬ ((("shut" : Gv)) = "plain");decide +kernel)
     |plain n y1 =>
      obtain⟨zY,x2,yH,zE,zH⟩:=two1 xr;cases yH
      obtain rfl:=zH.il;have xn:S.W.Out b (.told n):=by
       have:=(bN.new (W:=S.W) zj L).up 0 (.told n) (by show ih (Rs.told (stepT 0 (.tuple [.str "add",.int n])))=_;rw[show stepT 0 (.tuple [.str "add",.int n])=n from(by show 0+n=n;omega)])
       exact this
      refine af rfl (bf yi b4 (af rfl (bf yi dG (bf zE dG (af rfl ⟨eo,λl zq=>⟨gC,λzb xi=>?_⟩⟩)))));have G:=(aK (o:=.tup [V.str b.1]) zq).trans (aK (o:=.tup [V.str y,.int n,.ref l]) xi);have xg:upd (upd j l (.tup [V.str b.1])) zb (.tup [V.str y,.int n,.ref l]) zb=bn [V.str y,.int n,.ref l]:=ah;have yg:upd (upd j l (.tup [V.str b.1])) zb (.tup [V.str y,.int n,.ref l]) l=bn [V.str b.1]:=by rw[ag (aA ah xi)];exact ah
      generalize upd (upd j l (.tup [V.str b.1])) zb (.tup [V.str y,.int n,.ref l])=yb at G xg yg⊢;refine af rfl ⟨S.x,C,S.dx,_,.ref S.kn,rfl,G _ _ g.hx,T.cl,T.nn,iP,_,rfl,S.kn,_,rfl,eP.t (k:=cX b) (G _ _ g.hk) (G _ _ yo) (by rw[aX];omega),?_⟩
      exact zy n yb zb l (r.trans G) xn ⟨_,xg⟩ yg
    ·have e:a3 d ≠ "plain" :=λz=>e (by rw[z];exact cc rfl)
     have xx:=r _ _ yE;refine af rfl ⟨S.x,C,S.dx,_,.int bg,rfl,g.hx,T.cl,T.nb,rfl,_,_,rfl,rfl,S.dx,_,g.hx,by show 6<1000;decide,?_⟩
     rw[show b3 "begun" (.int (bg+1)) (fW S.fi S.ow S.kp S.kn S.kd bg)=fW S.fi S.ow S.kp S.kn S.kd (bg+1) from rfl];have ya:∀x o,x≠S.x->j x=ih o->upd j S.x (.ins C S.dx (fW S.fi S.ow S.kp S.kn S.kd (bg+1))) x=ih o:=λx o n e=>by rw[ag n];exact e
     have ym:upd j S.x (.ins C S.dx (fW S.fi S.ow S.kp S.kn S.kd (bg+1))) S.x=ih (.ins C S.dx (fW S.fi S.ow S.kp S.kn S.kd (bg+1))):=ah;generalize upd j S.x (.ins C S.dx (fW S.fi S.ow S.kp S.kn S.kd (bg+1)))=yb at ya ym⊢;have zU:∀{x:Up}{xs:am V},j x=bn xs->x≠S.x:=λe=>ar e g.hx
     have yc:∀x xs,j x=bn xs->yb x=bn xs:=λx xs e=>ya _ _ (zU e) e;have yD:b' C D S (bg+1) zv xq kk kq xR yb:=by
      obtain⟨xV,yV,zV⟩:=g.ln;exact⟨h.n3,ym,⟨ya _ _ (aP h.n3) g.fi.hx,ya _ _ (ar g.fi.hl g.hx) g.fi.hl,ya _ _ (ar g.fi.he g.hx) g.fi.he,ya _ _ (ar g.fi.hh g.hx) g.fi.hh,g.fi.du.keep yc za.bk.ent,za.bk,g.fi.nn⟩,ya _ _ (ar g.ho g.hx) g.ho,ya _ _ (ar g.hk g.hx) g.hk,ya _ _ (ar g.hq g.hx) g.hq,h.n1,⟨xV,yV,yc _ _ zV⟩,h.el,g.mM.keep za.bk yc,g.kv.keep yc,h.ok,h.nd,h.gE,h.ql⟩
     have zo:=ya _ _ (ar xx g.hx) xx
     refine af rfl ⟨.inl ⟨rfl,_,au.of zo⟩,_,rfl,_,rfl,bf (yc _ _ yi) b4 (af rfl (bf (yc _ _ yi) dG (ra.mk rfl xk (xk.keep xr yc) e λy2 us yj xc xI yI=>?_)))⟩;intro x dx yd zI ne;have xJ:upd yj dx (.own x) x=none:=by rw[ag (aP ne)];exact yd
     have ze:=(aK (o:=.own x) zI).trans (aK (o:=.ins R dx []) xJ);have zm:upd (upd yj dx (.own x)) x (.ins R dx []) x=ih (.ins R dx []):=ah;generalize upd (upd yj dx (.own x)) x (.ins R dx [])=x3 at ze zm⊢;have yx:=xc _ _ (yc _ _ yo);refine rb.mk rfl zm (ze _ _ yx) (ze _ _ xI) λlf rs yk yr zr yJ xW zz zJ xK=>⟨rfl,?_⟩;have xt:aB yj yk:=λc o e=>xW _ _ (aA e yd) (ze _ _ e);have yt:=xc.trans xt;have xl:=yt _ _ zo;refine⟨st,refs xf,_,rfl,rfl,xl,by unfold refs;rw[aE,aX];omega,?_⟩
     have zt:∀c,yb c=none->H c=none:=λc e=>yq _ (r.free (by
      cases e0:j c with
      |none=>rfl
      |some u =>
       by_cases z:c=S.x
       ·rw[z,ym]at e;cases e
       ·rw[ya _ _ z e0]at e;cases e))
     have up:∀{u:HO} c o,c≠st->yk c=ih o->upd yk st u c=ih o:=λc o n e=>by rw[ag n];exact e
     have xj:∀{u:HO} c xs,yk c=bn xs->upd yk st u c=bn xs:=λc xs e=>up _ _ (ar e xl) e
     have zx:=ze _ _ (xc _ _ zo);have yK:lf≠st:=aP (aA zx yr);have zK:rs≠st:=aP (aA zx zr);have xL:x≠lf:=aA zm yr;have yL:x≠rs:=aA zm zr;obtain⟨xA,x0⟩:=tN xk;refine zS ⟨x,dx,ta,lf,rs⟩ ⟨b,y,bM d,0⟩ us [b.1] xq zv _ yf xy rfl (bN.new zj L) (qi L) (λc o n1 zd xw yW e=>up _ _ yW (yt _ _ (ya _ _ xw (r _ _ (kp c o n1 zd e))))) ((yD.same yt).write λc o zW _ e=>up _ _ (λz=>by rw[z,xl]at e;cases e;exact zW _ rfl) e) zC (by rw[ah];unfold refs;rw[bc];rfl) ⟨up _ _ (ar zz xl) zz,xj _ _ (xt _ _ yx),up _ _ yK zJ,iL (λc xs e=>xj _ _ (xt _ _ e)) yI xA,xA,λs xX zc=>za.ask _ (m4 (l6 L).2) s xX zc,up _ _ zK xK,λz yn=>by rw[bX.mp yn];exact xe.1,by show 1+(bM d).length * 20<=99;omega,yJ,aP (aA (xc _ _ ym) yd),aP (aA (xc _ _ yD.fi.hx) yd)⟩ (zt _ (xc.free yd)) (zt _ (xc.free (ze.free yr))) (zt _ (xc.free (ze.free zr))) xL yL
  ·rw[e1]
   exact zR z e3
theorem og{α:Type} [DecidableEq α]:∀{a b:am α},a.Nodup->(∀x∈a,x∈b)->a.length<=b.length
 |[],_,_,_=>bx _
 |x::a,b,f,h=>by
  obtain⟨n1,g⟩:=dM.mp f;have c:=h x aV;have:=og (b:=b.erase x) g λy d=>(Gm (λe=>n1 (by rw[<-e];exact d))).mpr (h y (a7 _ d))
  rw[Gj c]at this;have:=Gk c;rw[cS];omega
def e8(W:aW)(NU:List Gv):List Ask:=NU.flatMap λn=>(("" : Gv)::W.line).map λk=>(n,k)
theorem Ck{W:aW}{a:Ask}(h:UA W NU a):a∈e8 W NU:=by
 unfold e8;refine lL.mpr ⟨a.1,h.1,aY.mpr ⟨a.2,?_,rfl⟩⟩;rcases h.2 with z|z
 ·rw[z];exact aV
 ·exact a7 _ z
theorem KO{W:aW}(a:gV W NU):(e8 W NU).length<=200:=by
 have:∀l:am Gv,(l.flatMap λn=>(("" : Gv)::W.line).map λk=>((n,k):Ask)).length=l.length * (W.line.length+1):=by
  intro l
  induction l with
  |nil=>simp
  |cons x l b=>rw[o3,cL,b,aE,cS,cS,sj (l.length) 1];omega
 unfold e8;rw[this];have h1:=a.a5;have h2:=a.ln
 calc NU.length * (W.line.length+1)<=20 * 10:=z' h1 (by omega)
  _=200:=rfl
def gF(U k s:Nat):Nat:=(U - k) * (U+2)+(U - s)
theorem KP{k s:Nat}(h:s+1<=U):gF U k (s+1)<gF U k s:=by unfold gF;omega
theorem s9{k s s':Nat}(h:k+1<=U):gF U (k+1) s'<gF U k s:=by
 unfold gF;have e:U - k=(U - (k+1))+1:=by omega
 rw[e,sj,Nat.one_mul];generalize (U - (k+1)) * (U+2)=x;omega
theorem c5.fr{S:Wh}{g:am (Ask×Int)}{A:FA}{f:bb}{i:am V}{st:Up}(h:c5 R S H A f lv rn)(w:b' C D S bg m kh kk kq g H)(a:H st=ce i)(n:A.lf≠st/\A.rs≠st)(k:∀b o,b≠S.fi->b≠S.dh->b≠S.kn->b≠S.kp->b≠S.x->b≠st->H b=ih o->H' b=ih o):c5 R S H' A f lv rn:=by
 have c:∀b xs,b≠st->H b=ce xs->H' b=ce xs:=λb xs n e=>k _ _ (ar e w.fi.hx) (ar e w.fi.hh) (ar e w.hk) (ar e w.hq) (ar e w.hx) n e
 have d:∀b xs,H b=bn xs->H' b=bn xs:=λb xs e=>k _ _ (ar e w.fi.hx) (ar e w.fi.hh) (ar e w.hk) (ar e w.hq) (ar e w.hx) (ar e a) e
 exact⟨k _ _ h.nf (ar h.hx w.fi.hh) (ar h.hx w.hk) (ar h.hx w.hq) h.nx (ar h.hx a) h.hx,d _ _ h.eT,c _ _ n.1 h.hl,iL d h.rl h.st,h.st,h.an,c _ _ n.2 h.hr,h.rm,h.a5,h.hT,h.nx,h.nf⟩
theorem c5.go{S:Wh}{o:am (Ask×Int)}{A a:FA}{f:bb}(h:c5 R S H A f lv rn)(w:b' C D S bg m kh kk kq o H)(d:∃c dx fs,H a.x=ih (.ins c dx fs))(g:∃xs,H a.lf=ce xs)(i:∃xs,H a.rs=ce xs)(n:A.x≠a.x/\A.lf≠a.lf/\A.lf≠a.rs/\A.rs≠a.lf/\A.rs≠a.rs)(k:Kr S a H H'):c5 R S H' A f lv rn:=by
 obtain⟨c,dx,fs,d⟩:=d;obtain⟨q,g⟩:=g;obtain⟨r,i⟩:=i;have j:∀b xs,H b=bn xs->H' b=bn xs:=λb xs e=>k _ _ (ar e w.fi.hx) (ar e w.fi.hh) (ar e d) (ar e g) (ar e i) e
 have l:∀b xs,b≠a.lf->b≠a.rs->H b=ce xs->H' b=ce xs:=λb xs n1 p e=>k _ _ (ar e w.fi.hx) (ar e w.fi.hh) (ar e d) n1 p e
 exact⟨k _ _ h.nf (ar h.hx w.fi.hh) n.1 (ar h.hx g) (ar h.hx i) h.hx,j _ _ h.eT,l _ _ n.2.1 n.2.2.1 h.hl,iL j h.rl h.st,h.st,h.an,l _ _ n.2.2.2.1 n.2.2.2.2 h.hr,h.rm,h.a5,h.hT,h.nx,h.nf⟩
abbrev adr(l:List (FA×bb)):List Up:=l.flatMap λp=>[p.1.x,p.1.lf,p.1.rs]
theorem Jz{l:am (FA×bb)}{p q:FA×bb}(b:(adr (l++[q])).Nodup)(d:p∈l):p.1.x≠q.1.x/\p.1.lf≠q.1.lf/\p.1.lf≠q.1.rs/\p.1.rs≠q.1.lf/\p.1.rs≠q.1.rs:=by
 unfold adr at b;rw[o4]at b;have a:=(eu.mp b).2.2;have m:∀y,y=p.1.x\/y=p.1.lf\/y=p.1.rs->y∈l.flatMap λp=>[p.1.x,p.1.lf,p.1.rs]:=λy c=>lL.mpr ⟨p,d,by simpa using c⟩
 have n:∀y,y=q.1.x\/y=q.1.lf\/y=q.1.rs->y ∈ [q].flatMap λp=>[p.1.x,p.1.lf,p.1.rs]:=λy c=>lL.mpr ⟨q,aV,by simpa using c⟩
 exact⟨a _ (m _ (.inl rfl)) _ (n _ (.inl rfl)),a _ (m _ (.inr (.inl rfl))) _ (n _ (.inr (.inl rfl))),a _ (m _ (.inr (.inl rfl))) _ (n _ (.inr (.inr rfl))),a _ (m _ (.inr (.inr rfl))) _ (n _ (.inr (.inl rfl))),a _ (m _ (.inr (.inr rfl))) _ (n _ (.inr (.inr rfl)))⟩
theorem chain_snoc{W:aW}{b:Ask}{g:bb}:∀{l:am bb},Chain W l g.a->gr W g=ih b->Chain W (l++[g]) b
 |[],_,h=>h
 |[f],c,h=>⟨c,h⟩
 |f::d::l,c,h=>⟨c.1,chain_snoc (l:=d::l) c.2 h⟩
theorem chain_last{W:aW}{b:Ask}{g:bb}:∀{l:am bb},Chain W (l++[g]) b->Chain W l g.a
 |[],_=>trivial
 |[f],c=>c.1
 |f::d::l,c=>⟨c.1,chain_last (l:=d::l) c.2⟩
def KT(S:Wh)(H H':Hp):Prop:= ∀b o,b≠S.fi->b≠S.dh->b≠S.kn->b≠S.kp->b≠S.x->H b=ih o->H' b=ih o
inductive ru(C D R M N:Up)(vs:List V)(H:Hp)(Q:VK)(E:XK):Prop
 |mk{S:Wh}{bg m:Int}{kh kq:List (List Key×V)}{ta:Up}{a:Ask}(_:vs=[.ref S.x,.ref ta])(_:gV S.W S.NU)(_:b' C D S bg m kh [] kq [] H)(_:kh.length<=1000)(_:H ta=ih (.tup [.str a.1,.str a.2]))(_:UA S.W S.NU a)
  (_:∀ns,eN S.W a ns ->∀e H',KT S H H'->H e=none->ro N ns H' e->E (.ref N) (ih e) H')
  (_:∀n,S.W.Out a (.miss n) ->∀e H',KT S H H'->H e=none->qK M n H' e->E (.ref M) (ih e) H')
  (_:∀z,S.W.Out a (.told z) ->∀t y u Q7 mO H',KT S H H'->H' S.x=ih (.ins C S.dx (fW S.fi S.ow S.kp S.kn S.kd Q7))->H' S.kn=ih (.dT mO)->bo mO (cX a)=ih (.ref t)->H' t=ih (.tup [y,.int z,u])->Q (.ref t) H'):ru C D R M N vs H Q E
structure TI(C D R:Up)(S:Wh)(H0:Hp)(a:Ask)(ta st:Up)(U:Nat)(mm:Nat)(H:Hp)(a6:List (FA×bb))(bg m:Int)(kh kk kq:List (List Key×V))(ka:List (Ask×Int)):Prop where
 w:b' C D S bg m kh kk kq ka H
 em:mm=gF U ka.length a6.length
 lh:kh.length+8 * mm<=400000
 EX:H st=ih (.lst (refs a6))
 fs:ot R S H a6
 ua:∀p∈a6,UA S.W S.NU p.2.a
 ok:∀p∈a6,bN S.W p.2
 wl:∀p∈a6,p.2.w∈S.W.line
 nk:∀p∈a6,∀z,(p.2.a,z)∉ ka
 nd:(a6.map (·.2.a)).Nodup
 ap:∀p∈a6,(p.1.lf≠st/\p.1.rs≠st)/\H0 p.1.x=none/\H0 p.1.lf=none/\H0 p.1.rs=none
 ch:(a6=[] /\∃z,(a,z)∈ka) \/∃l top,a6=l++[top]/\Chain S.W (l.map (·.2)) top.2.a/\(a6.head?.map (·.2.a))=ih a
 eT:H ta=ih (.tup [.str a.1,.str a.2])
 kt:KT S H0 H
theorem TI.a5{S:Wh}{f:Hp}{a:Ask}{ta st:Up}{g:Nat}{a6:am (FA×bb)}{c:am (Ask×Int)}(l:gV S.W S.NU)(h:TI C D R S f a ta st U g H a6 bg m kh kk kq c):c.length+a6.length<=(e8 S.W S.NU).length/\kk.length=c.length:=by
 refine⟨?_,ff h.w.kv⟩;have i:(c.map (·.1)++a6.map (·.2.a)).Nodup:=eu.mpr ⟨h.w.nd,h.nd,λx d y j e=>by
  obtain⟨p,b,rfl⟩:=aY.mp d;obtain⟨q,k,rfl⟩:=aY.mp j;exact h.nk q k p.2 (by rw[<-e];exact b)⟩
 have:=og i λx d=>Ck (W:=S.W) (NU:=S.NU) (by
  rcases cj.mp d with z|z
  ·obtain⟨p,b,rfl⟩:=aY.mp z;exact h.w.gE p b
  ·obtain⟨p,b,rfl⟩:=aY.mp z;exact h.ua p b)
 rw[cL,aE,aE]at this;exact this
noncomputable abbrev Q8:List Gv:=["self","first","standing","needed"]
theorem vF:bp Q8 ["self","first"] (aH u0):=bw
theorem Oc{N zC xD:Up}{yD zD:Xt}(F:aQ K "tell" "Whole.tell" u0 f fd)(T:hM K mg C)(xE:aT P w K mg base (cQ P w) 3 zC yD ["self","standing","asking"] (ou C D R M N))(yE:Meth K C "enter" zC)(zE:Binds K yD ["self","standing","asking"] [])
  (yR:aT P w K mg base aI 4 xD zD ["self","reckoning"] (rj C D R)) (zR:Meth K C "go_on" xD) (xS:Binds K zD ["self","reckoning"] []) (yS:aT P w K mg base aI 1 fS dS ["self","reckoning"] (rk C D R)) (zS:Meth K C "settle" fS) (xT:Binds K dS ["self","reckoning"] []):aT P w K mg base (cQ P w) 5 f fd ["self","first"] (ru C D R M N):=by
 refine F.vq vF λQa A outer s H vs Q E xF h=>?_
 ·obtain @⟨S,bg,m,kh,kq,ta,a,rfl,zi,h,y0,zI,yF,yT,qn,q⟩:=h
  have xr:a' 4 _:=xF;have zy:a' 3 _:=xr.mono (by decide)
  have xJ:a' 1 _:=xr.mono (by decide)
  have yJ:=eQ xF.units;intro X;refine⟨_,ax (ba 2 vF.nd (eZ ai))
   (ax (ey (g6 (pv 0) T.cl yE xE zy zE .nil qC (aa (pv 2) (aa (pv 1) ai))))
   (ax (nu abO (kx (pv 2) (λ_=>rfl))
    (ax (ba 3 vF.nd (g6 (pv 0) T.cl zR yR xr xS .nil c3 (aa (aS ck (pv 2) (mu ma aw)) ai)))
    (aF (bE (bJ iV (pv 3) ez (bS _)) (aF (ey (g6 (pv 0) T.cl zS yS xJ xT .nil c3 (aa (Mu h6 GV GW Mv (pv 2)) ai))))
     (aF (ey (g6 (pv 0) T.cl yE xE zy zE .nil qC (aa (pv 2) (aa (pv 3) ai)))))))))
   (aF (a9 (eY yJ (cf (pv 0) rfl) (pv 1)))))),?_⟩
  refine⟨bx _,λst ym=>?_⟩;have zd:=aK (o:=.lst []) ym;have ya:=h.same zd;have ye:upd H st (.lst []) st=ce []:=ah;have za:=zd _ _ zI;generalize upd H st (.lst [])=Y at zd ya ye za⊢;have z0:=KO zi;have yx:∀k s,8 * gF (e8 S.W S.NU).length k s<=8 * (200 * 202+200):=λk s=>by
   unfold gF;have:((e8 S.W S.NU).length - k) * ((e8 S.W S.NU).length+2)<=200 * 202:=z' (by omega) (by omega)
   omega
  refine Pu (hK:=λzF=>∃yf a6 bg m kh kk kq U,TI C D R S H a ta st (e8 S.W S.NU).length yf zF a6 bg m kh kk kq U) (λzx=>af rfl ⟨S.x,S.dx,_,rfl,ya.hx,rfl,_,rfl,_,rfl,ou.mk (a6:=[]) (b:=a) rfl zi ya (by omega) (bx _) ye (bx _) ⟨λp c=>(by cases c),fE⟩ (λp c=>(by cases c)) za yF (λi _ e=>(by simp at e)) (λz yb=>(by cases yb)) (λ_ yl e H' k xa yv=>qn _ yl e H' (λb o n1 j _ _ _ z=>k _ _ n1 j (zd _ _ z)) (zd.free xa) yv) (λz yk yg zh H' _ _ yl k zv lk=>zx H' ?_) (λO fr lv rn yg zh H' _ _ xG zT xU k zv lk zJ zb n1 j B L I=>zx H' ?_)⟩) ?_
  ·refine⟨_,[],bg,zh,yg,yk,kq,[]++[(a,z)],⟨zv,rfl,by have:=yx ([]++[(a,z)]).length ([]:am (FA×bb)).length;omega,k _ _ (ar ye ya.fi.hx) (ar ye ya.fi.hh) (ar ye ya.hk) ye,⟨λp c=>(by cases c),fE⟩,λp c=>(by cases c),λp c=>(by cases c),λp c=>(by cases c),λp c=>(by cases c),fE,λp c=>(by cases c),.inl ⟨rfl,z,aV⟩,k _ _ (ar za ya.fi.hx) (ar za ya.fi.hh) (ar za ya.hk) za,λb o n1 j B _ _ e=>k _ _ n1 j B (zd _ _ e)⟩⟩
  ·have only:∀p ∈ []++[(O,fr)],p=(O,fr):=λp c=>bX.mp c
   have yr:O.lf≠st/\O.rs≠st:=⟨aP (aA ye j),aP (aA ye B)⟩;refine⟨_,[]++[(O,fr)],bg+1,zh,yg,[],kq,[],⟨zv,rfl,by have:=yx ([]:am (Ask×Int)).length ([]++[(O,fr)]).length;omega,zJ,⟨λp c=>?_,?_⟩,λp c=>?_,λp c=>?_,λp c=>?_,λp c z yb=>(by cases yb),by simp,λp c=>?_,.inr ⟨[],(O,fr),rfl,trivial,by rw[<-xG];rfl⟩,k _ _ (ar za ya.fi.hx) (ar za ya.fi.hh) (ar za ya.hx) (ar za ye) za,λb o n1 j B L I e=>k _ _ n1 j I (aA e ym) (zd _ _ e)⟩⟩
   ·rw[only p c];exact⟨lv,rn,zb⟩
   ·show [O.x,O.lf,O.rs].Nodup
    simp only[dM,bj,jm,jn,oV,Vp,fE,and_true];exact⟨⟨L,I⟩,zb.hT⟩
   ·rw[only p c];show UA S.W S.NU fr.a;rw[xG];exact yF
   ·rw[only p c];exact zT
   ·rw[only p c];exact xU
   ·rw[only p c];exact⟨yr,zd.free n1,zd.free j,zd.free B⟩
  rintro H2 ⟨xK,xI,yK,yU,zK,xL,yL,zL,xz⟩;refine⟨λyf σ xj=>∃(xq:a2 V) (a6:am (FA×bb)) (bg m:Int) (kh kk kq:am (List Key×V)) (U:am (Ask×Int)),σ=[bd S.x,bd ta,bd st,xq]/\TI C D R S H a ta st (e8 S.W S.NU).length yf xj a6 bg m kh kk kq U,⟨xK,none,xI,yK,yU,zK,xL,yL,zL,rfl,xz⟩,?_⟩;clear xz;rintro yf σ xj ⟨xq,a6,bg,m,kh,kk,kq,U,rfl,ti⟩;obtain⟨yG,tk⟩:=ti.a5 zi;refine af rfl ⟨_,.inl ⟨_,au.of ti.EX,rfl⟩,?_⟩;rcases ti.ch with⟨rfl,z,yb⟩|⟨l,top,rfl,zm,yj⟩
  ·refine cA (λy=>by cases y) (λ_=>?_)
   have xM:xj ta=bn ((cX a).map kV):=ti.eT;rcases ti.w.kv.val a with⟨_,e2⟩|⟨v,xw,t,y,ns,x1,e1,e2,rfl,zU,_⟩
   ·exact absurd yb (e2 z)
   ·refine af rfl ⟨S.x,C,S.dx,_,.ref S.kn,rfl,ti.w.hx,T.cl,T.nn,iP,_,rfl,S.kn,.ref t,rfl,by rw[<-e1];exact cm.t (k:=cX a) ti.w.hk xM,?_⟩
    exact q xw (ti.w.ok _ e2) t _ _ bg kk xj ti.kt ti.w.hx ti.w.hk e1 zU
  ·refine cA (λ_=>?_) (λy=>absurd (by unfold refs;rw[bc];simp) y)
   have ze:top∈l++[top]:=eV _ aV;have xc:∀p∈l,p∈l++[top]:=λp c=>gY _ c;obtain⟨lv,rn,zb⟩:=ti.fs.fr top ze;have y1:U.length+(l.length+1)<=(e8 S.W S.NU).length:=by rw[cL]at yG;exact yG
   have zl:=ti.em;rw[cL,mT]at zl;have x2:=ti.lh;refine⟨λyM H'=>∃yz,yz<yf /\∃(xq:a2 V) (a6:am (FA×bb)) (bg m:Int) (kh kk kq:am (List Key×V)) (U:am (Ask×Int)),yM=[bd S.x,bd ta,bd st,xq]/\TI C D R S H a ta st (e8 S.W S.NU).length yz H' a6 bg m kh kk kq U,λ_ _ z=>z,?_⟩;have xy:∀g:bb,refs (l++[(top.1,g)])=refs l++[V.ref top.1.x]:=λg=>by unfold refs;rw[bc];rfl
   have zj:xj st=ce (refs l++[V.ref top.1.x]):=by rw[<-xy top.2];exact ti.EX
   obtain⟨⟨zz,xA⟩,zM,xN,yN⟩:=ti.ap top ze;have zN:st≠top.1.x:=ar zj zb.hx
   have yA:∀{G:Hp},Kr S top.1 xj G->G st=ce (refs l++[V.ref top.1.x])/\G ta=bn [.str a.1,.str a.2]/\KT S H G /\∀p∈l,∃lv rn,c5 R S G p.1 p.2 lv rn:=λ{G} zf=>by
    refine⟨zf _ _ (ar zj ti.w.fi.hx) (ar zj ti.w.fi.hh) zN (aP zz) (aP xA) zj,zf _ _ (ar ti.eT ti.w.fi.hx) (ar ti.eT ti.w.fi.hh) (ar ti.eT zb.hx) (ar ti.eT zb.hl) (ar ti.eT zb.hr) ti.eT,λb o n1 j B L I e=>zf _ _ n1 j (aA e zM) (aA e xN) (aA e yN) (ti.kt b o n1 j B L I e),λp c=>?_⟩
    obtain⟨xn,yn,fp⟩:=ti.fs.fr p (xc p c);exact⟨xn,yn,fp.go ti.w ⟨_,_,_,zb.hx⟩ ⟨_,zb.hl⟩ ⟨_,zb.hr⟩ (Jz ti.fs.nd c) zf⟩
   refine af rfl ⟨S.x,S.dx,_,rfl,ti.w.hx,rfl,_,rfl,1,rfl,fe zj (pG _ _) (rj.mk (A:=top.1) (fr:=top.2) rfl zi ti.w (by omega) zb (ti.ok top ze) (ti.wl top ze) (λt' xn yn yg zh G zf J xV zn zr=>?_) (λt' d ds xn yn yg zh b tn G zf J xV zn zr yc xt xO=>?_))⟩
   ·obtain⟨xg,xb,zg,yt⟩:=yA zf
    refine af rfl ⟨rfl,_,rfl,_,rfl,S.x,S.dx,_,rfl,J.hx,rfl,_,rfl,.inl ⟨rfl,_,au.of xg⟩,st,_,V.ref top.1.x,rfl,rfl,xg,by simp,?_⟩
    have yV:(refs l++[V.ref top.1.x]).dropLast=refs l:=by simp
    rw[yV];have up:∀{u:HO} b o,b≠st->G b=ih o->upd G st u b=ih o:=λb o n e=>by rw[ag n];exact e
    have zV:∀{u:HO} b xs,G b=bn xs->upd G st u b=bn xs:=λb xs e=>up _ _ (ar e xg) e
    have zc:b' C D S bg zh yg kk kq U (upd G st (.lst (refs l))):=J.write λb o xW _ e=>up _ _ (λz=>by rw[z,xg]at e;cases e;exact xW _ rfl) e
    have zt:∀{A:FA}{g:bb}{lv:am V}{rn:am Gv},A.lf≠st->A.rs≠st->c5 R S G A g lv rn->c5 R S (upd G st (.lst (refs l))) A g lv rn:=λn1 j q=>q.fr J xg ⟨n1,j⟩ λb o _ _ _ _ _ n e=>up _ _ n e;have xk:upd G st (.lst (refs l)) st=ce (refs l):=ah;have xm:upd G st (.lst (refs l)) ta=bn [.str a.1,.str a.2]:=zV _ _ xb;have zA:KT S H (upd G st (.lst (refs l))):=λb o n1 j B L I e=>up _ _ (aA e ym) (zg b o n1 j B L I e);have xB:∀p∈l,∃lv rn,c5 R S (upd G st (.lst (refs l))) p.1 p.2 lv rn:=λp c=>by
     obtain⟨lv,rn,q⟩:=yt p c;exact⟨lv,rn,zt (ti.ap p (xc p c)).1.1 (ti.ap p (xc p c)).1.2 q⟩
    have zk:=zt zz xA zn;generalize upd G st (.lst (refs l))=zG at zc zt xk xm zA xB zk⊢;refine rk.mk (A:=top.1) (fr:=⟨top.2.a,top.2.w,[],t'⟩) rfl zi zc (by omega) zk (zr.done rfl) (ti.nk top ze) (ti.ua top ze) λyk yO zF yq yW=>?_
    have zO:∀p∈l,p.2.a≠top.2.a:=λp c e=>by
     have:=ti.nd;rw[bc]at this;exact(eu.mp this).2.2 _ (aY.mpr ⟨p,c,rfl⟩) _ (aY.mpr ⟨top,aV,rfl⟩) e
    refine⟨gF (e8 S.W S.NU).length (U.length+1) l.length,by rw[zl];exact s9 (by omega),_,l,bg,zh,yg,yk,yO,U++[(top.2.a,t')],rfl,⟨yW,by rw[cL];rfl,?_,yq _ _ (ar xk zc.hk) (ar xk zc.hq) xk,⟨λp c=>?_,?_⟩,λp c=>ti.ua p (xc p c),λp c=>ti.ok p (xc p c),λp c=>ti.wl p (xc p c),λp c z yb=>?_,?_,λp c=>ti.ap p (xc p c),?_,yq _ _ (ar xm zc.hk) (ar xm zc.hq) xm,λb o n1 j B L I e=>yq _ _ B L (zA b o n1 j B L I e)⟩⟩
    ·have:gF (e8 S.W S.NU).length (U.length+1) l.length<yf:=by rw[zl];exact s9 (by omega)
     omega
    ·obtain⟨lv,rn,q⟩:=xB p c
     exact⟨lv,rn,q.fr zc xk (ti.ap p (xc p c)).1 λb o _ _ B L _ _ e=>yq _ _ B L e⟩
    ·have:=ti.fs.nd
     rw[o4]at this;exact(eu.mp this).1
    ·rcases cj.mp yb with y|y
     ·exact ti.nk p (xc p c) z y
     ·have y:=bX.mp y
      exact zO p c (by injection y)
    ·have:=ti.nd
     rw[bc]at this;exact(eu.mp this).1
    ·cases yB:l.getLast? with
     |none =>
      have:l=[]:=List.getLast?_eq_none_iff.mp yB;subst this;refine .inl ⟨rfl,t',eV _ ?_⟩;have yj:ih top.2.a=ih a:=yj;rw[cZ yj];exact aV
     |some g =>
      obtain⟨xH,rfl⟩:=List.getLast?_eq_some_iff.mp yB;refine .inr ⟨xH,g,rfl,?_,?_⟩
      ·rw[bc]at zm;exact chain_last zm
      ·rw[<-yj];cases xH with
       |nil=>rfl
       |cons _ _=>rfl
   ·obtain⟨xg,xb,zg,yt⟩:=yA zf
    have xP:gr S.W ⟨top.2.a,top.2.w,d::ds,t'⟩=ih b:=yc;have yw:UA S.W S.NU b:=by
     unfold aW.need at yc
     by_cases zw:a3 d = "ask"
     ·rw[ay zw]at yc;cases yc;exact⟨zn.an d aV zw,.inl rfl⟩
     ·rw[aq zw]at yc
      by_cases yH:a3 d = "onward"
      ·rw[ay yH]at yc
       split at yc
       ·cases yc;exact⟨(ti.ua top ze).1,.inr (ti.wl top ze)⟩
       ·cases yc
      ·rw[aq yH]at yc;cases yc
    obtain⟨r,xh⟩:∃r,l++[(top.1,(⟨top.2.a,top.2.w,d::ds,t'⟩:bb))]=r:=⟨_,rfl⟩;have zq:∀p∈r,p∈l\/p=(top.1,⟨top.2.a,top.2.w,d::ds,t'⟩):=λp c=>by
     rw[<-xh]at c;rcases cj.mp c with z|z
     ·exact .inl z
     ·exact .inr (bX.mp z)
    have xu:r.map (·.2.a)=(l++[top]).map (·.2.a):=by rw[<-xh,bc,bc];rfl
    have yy:r.length=l.length+1:=by rw[<-xh,cL];rfl
    have xo:∀p∈r,∃q∈l++[top],q.1=p.1/\q.2.a=p.2.a/\q.2.w=p.2.w:=λp c=>by
     rcases zq p c with z|z
     ·exact⟨p,xc p z,rfl,rfl,rfl⟩
     ·rw[z];exact⟨top,ze,rfl,rfl,rfl⟩
    have yo:∀g∈r.map (·.2),bN S.W g:=λg zW=>by
     obtain⟨p,c,rfl⟩:=aY.mp zW;rcases zq p c with z|z
     ·exact ti.ok p (xc p z)
     ·rw[z];exact zr
    have yu:Chain S.W (r.map (·.2)) b:=by rw[<-xh,bc];exact chain_snoc (g:=⟨top.2.a,top.2.w,d::ds,t'⟩) zm xP
    have zB:((r.map (·.2)).head?.map (·.a)).getD b=a:=by
     have e1:(r.map (·.2)).head?.map (·.a)=(r.map (·.2.a)).head?:=by rw[sk,sk,w9];rfl
     rw[e1,xu,sk,yj];rfl
    have Qn:ot R S G r:=by
     refine⟨λp c=>?_,?_⟩
     ·rcases zq p c with z|z
      ·exact yt p z
      ·rw[z];exact⟨xn,yn,zn⟩
     ·have:=ti.fs.nd
      rw[<-xh,o4];rw[o4]at this;exact this
    have zo:∀p∈r,(p.1.lf≠st/\p.1.rs≠st)/\H p.1.x=none/\H p.1.lf=none/\H p.1.rs=none:=λp c=>by
     obtain⟨q,xf,e,_⟩:=xo p c;rw[<-e];exact ti.ap q xf
    have xp:∀p∈r,UA S.W S.NU p.2.a:=λp c=>by
     obtain⟨q,xf,_,e,_⟩:=xo p c;rw[<-e];exact ti.ua q xf
    have xC:∀p∈r,p.2.w∈S.W.line:=λp c=>by
     obtain⟨q,xf,_,_,e⟩:=xo p c;rw[<-e];exact ti.wl q xf
    have zu:∀p∈r,∀z,(p.2.a,z)∉ U:=λp c=>by
     obtain⟨q,xf,_,e,_⟩:=xo p c;rw[<-e];exact ti.nk q xf
    have yp:(r.map (·.2.a)).Nodup:=by rw[xu];exact ti.nd
    have yd:G st=ce (refs r):=by rw[<-xh,xy];exact xg
    have yC:r.head?.map (·.2.a)=ih a:=by rw[<-sk,xu,sk];exact yj
    have yI:∃l top,r=l++[top]/\Chain S.W (l.map (·.2)) top.2.a/\(r.head?.map (·.2.a))=ih a:=⟨l,_,xh.symm,zm,yC⟩;have xl:∀e,G e=none->H e=none:=λe xa=>by
     cases e0:H e with
     |none=>rfl
     |some u =>
      exfalso
      by_cases z1:e=S.fi
      ·rw[z1,J.fi.hx]at xa;cases xa
      ·by_cases z2:e=S.dh
       ·rw[z2,J.fi.hh]at xa;cases xa
       ·by_cases z3:e=S.kn
        ·rw[z3,J.hk]at xa;cases xa
        ·by_cases z4:e=S.kp
         ·rw[z4,J.hq]at xa;cases xa
         ·by_cases z5:e=S.x
          ·rw[z5,J.hx]at xa;cases xa
          ·rw[zg e u z1 z2 z3 z4 z5 e0]at xa;cases xa
    have big:(∀p∈r,p.2.a≠b)->U.length+(l.length+1)+1<=(e8 S.W S.NU).length:=λyh=>by
     have xX:(b::(U.map (·.1)++r.map (·.2.a))).Nodup:=by
      refine dM.mpr ⟨λyX=>?_,eu.mpr ⟨ti.w.nd,yp,λx xe y xd e=>?_⟩⟩
      ·rcases cj.mp yX with z|z
       ·obtain⟨p,c,e⟩:=aY.mp z;exact xt p.2 (by rw[<-e];exact c)
       ·obtain⟨p,c,e⟩:=aY.mp z;exact yh p c e
      ·obtain⟨p,c,rfl⟩:=aY.mp xe
       obtain⟨q,xf,rfl⟩:=aY.mp xd;exact zu q xf p.2 (by rw[<-e];exact c)
     have:=og xX λx xe=>Ck (W:=S.W) (NU:=S.NU) (by
      rcases bj.mp xe with z|z
      ·rw[z];exact yw
      ·rcases cj.mp z with z|z
       ·obtain⟨p,c,rfl⟩:=aY.mp z;exact ti.w.gE p c
       ·obtain⟨p,c,rfl⟩:=aY.mp z;exact xp p c)
     rw[cS,cL,aE,aE,yy]at this;omega
    refine⟨_,rfl,rfl,_,rfl,_,rfl,S.x,S.dx,_,rfl,J.hx,rfl,_,rfl,_,rfl,ou.mk (a6:=r) (b:=b) rfl zi J (by omega) (by omega) yd (by omega) Qn xp xO yw (λi _ hi _ e H' zX xa xY=>yT _ (by
     have:=KI yo yu zB (by rw[gJ];exact yp) (by rw[gJ];exact hi)
     rw[gJ]at this;exact this) e H' (λb o n1 j B L I z=>zX _ _ (zg b o n1 j B L I z)) (xl e xa) xY) (λz yb=>absurd yb (xt z)) (λ_ yl e H' k xa yv=>qn _ (AQ yo yu zB yl) e H' (λb o n1 j B L I z=>k _ _ n1 j (zg b o n1 j B L I z)) (xl e xa) yv) (λz yk xv xx zG _ yh yl k zc yY=>?_) (λO fr yP zP xv xx zG _ yh zp xQ yQ k zc yY zQ zk n1 j B L I=>?_)⟩
    ·have big:=big yh
     have lt:gF (e8 S.W S.NU).length (U.length+1) r.length<yf:=by rw[zl];exact s9 (by omega)
     refine⟨_,lt,_,r,bg,xx,xv,yk,kq,U++[(b,z)],rfl,⟨zc,by rw[cL];rfl,by omega,k _ _ (ar yd J.fi.hx) (ar yd J.fi.hh) (ar yd J.hk) yd,⟨λp c=>?_,Qn.nd⟩,xp,λp c=>yo _ (aY.mpr ⟨p,c,rfl⟩),xC,λp c xw yb=>?_,yp,zo,.inr yI,k _ _ (ar xb J.fi.hx) (ar xb J.fi.hh) (ar xb J.hk) xb,λb o n1 j B L I e=>k _ _ n1 j B (zg b o n1 j B L I e)⟩⟩
     ·obtain⟨lv,rn,q⟩:=Qn.fr p c
      exact⟨lv,rn,q.fr J yd (zo p c).1 λb o n1 j B _ _ _ e=>k _ _ n1 j B e⟩
     ·rcases cj.mp yb with y|y
      ·exact zu p c xw y
      ·have y:=bX.mp y
       exact yh p c (by injection y)
    ·have big:=big yh
     have lt:gF (e8 S.W S.NU).length U.length (r.length+1)<yf:=by rw[zl,yy];exact KP (by omega)
     have yr:O.lf≠st/\O.rs≠st:=⟨aP (aA yd j),aP (aA yd B)⟩;have yi:∀p∈r++[(O,fr)],p∈r\/p=(O,fr):=λp c=>by
      rcases cj.mp c with z|z
      ·exact .inl z
      ·exact .inr (bX.mp z)
     refine⟨_,lt,_,r++[(O,fr)],bg+1,xx,xv,kk,kq,U,rfl,⟨zc,by rw[cL];rfl,by omega,zQ,⟨λp c=>?_,?_⟩,λp c=>?_,λp c=>?_,λp c=>?_,λp c=>?_,?_,λp c=>?_,.inr ⟨r,(O,fr),rfl,by show Chain S.W _ fr.a;rw[zp];exact yu,?_⟩,k _ _ (ar xb J.fi.hx) (ar xb J.fi.hh) (ar xb J.hx) (ar xb yd) xb,λb o n1 j B L I e=>k _ _ n1 j I (aA e ym) (zg b o n1 j B L I e)⟩⟩
     ·rcases yi p c with z|z
      ·obtain⟨lv,rn,q⟩:=Qn.fr p z
       exact⟨lv,rn,q.fr J yd (zo p z).1 λb o n1 j _ _ I zY e=>k _ _ n1 j I zY e⟩
      ·rw[z];exact⟨yP,zP,zk⟩
     ·rw[o4]
      refine eu.mpr ⟨Qn.nd,?_,λx xe y xd e=>?_⟩
      ·show [O.x,O.lf,O.rs].Nodup
       simp only[dM,bj,jm,jn,oV,Vp,fE,and_true];exact⟨⟨L,I⟩,zk.hT⟩
      ·obtain⟨p,c,xe⟩:=lL.mp xe
       obtain⟨lv,rn,q⟩:=Qn.fr p c;have x0:∃o,G x=ih o:=by
        simp only[bj,jm,jn]at xe;rcases xe with z|z|z
        ·rw[z];exact⟨_,q.hx⟩
        ·rw[z];exact⟨_,q.hl⟩
        ·rw[z];exact⟨_,q.hr⟩
       obtain⟨o,xi⟩:=x0;obtain⟨y2,xR,xd⟩:=lL.mp xd;rw[bX.mp xR]at xd;simp only[bj,jm,jn]at xd;rw[e]at xi;rcases xd with z|z|z
       ·rw[z,n1]at xi;cases xi
       ·rw[z,j]at xi;cases xi
       ·rw[z,B]at xi;cases xi
     ·rcases yi p c with z|z
      ·exact xp p z
      ·rw[z];show UA S.W S.NU fr.a;rw[zp];exact yw
     ·rcases yi p c with z|z
      ·exact yo _ (aY.mpr ⟨p,z,rfl⟩)
      ·rw[z];exact xQ
     ·rcases yi p c with z|z
      ·exact xC p z
      ·rw[z];exact yQ
     ·rcases yi p c with z|z
      ·exact zu p z
      ·rw[z];show ∀z,(fr.a,z)∉ U;rw[zp];exact xt
     ·rw[bc]
      refine eu.mpr ⟨yp,by simp,λx xe y xd e=>?_⟩
      obtain⟨p,c,rfl⟩:=aY.mp xe;have xd:y=fr.a:=bX.mp xd;exact yh p c (by rw[e,xd,zp])
     ·rcases yi p c with z|z
      ·exact zo p z
      ·rw[z];exact⟨yr,xl _ n1,xl _ j,xl _ B⟩
     ·rw[List.head?_append]
      have:r.head?.map (·.2.a)=ih a:=yC;cases zH:r.head? with
      |none=>rw[zH]at this;cases this
      |some g=>rw[zH]at this;exact this
end d9
namespace d9
open L2 W HT PyProof.Rows
theorem i7.pairs{own:Own}(h:i7 H vs own):Dk H vs (own.map λq=>(q.1,V.int q.2)):=by
 induction h with
 |nil=>exact .nil
 |cons h _ a=>exact .cons h a
inductive rx(C D:Up)(vs:List V)(H:Hp)(Q:VK)(E:XK):Prop
 |mk{wd t tb tt:Up}{wt:List V}{cY:List Th}{th:Th}{o:Ye}{ws wb:List V}{Qb:List (Gv×List Gv)}{L:Gv->List Gv}{bk:Bk}{NU:List Gv}(_:vs=[.ref wd,.str th.1])(_:ix H wd t tb tt wt cY)(_:FB H t tb o ws wb Qb L bk)(_:th∈cY)(_:th.2.1∈Qb.map (·.1))(_:(th.2.2.map (·.1)).Nodup)
  (_:∀(S:Wh) H',S.W=⟨L th.2.1,bk,th.2.2⟩->S.NU=NU->aB H H'->b' C D S 0 0 [] [] [] [] H'->H S.x=none->H S.fi=none->H S.dh=none->H S.kn=none->H S.kp=none->Q (.ref S.x) H'):rx C D vs H Q E
noncomputable abbrev Q9:List Gv:=["world","thing","kind","own"]
theorem vG:bp Q9 ["world","thing"] (aH tF):=bw
theorem Od{yh fF:Up}{zh xi:Xt}(F:aQ K "whole_of" "whole_of" tF f fd)(yi:hI mg)(T:hM K mg C)(zi:bV P w K mg base aI 4 yh zh ["world","thing"] q9 "kind_and_own")(xj:bV P w K mg base aI 6 fF xi ["family","book"] (q6 D) "finds_in")
  (M:Mk K C fI) (yj:aT P w K mg base aI 1 fI dI oq (qJ C)) (zj:Binds K dI oq []):aT P w K mg base aI 7 f fd ["world","thing"] (rx C D):=by
 refine F.bG vG λQa A outer s H vs Q E xk h=>?_
 ·obtain @⟨xn,t,tb,tt,yn,zm,th,o,ws,wb,Qb,L,bk,NU,rfl,h,yk,zk,yc,xl,q⟩:=h
  have N:a' 6 _:=xk;have zc:a' 4 _:=N.mono (by decide)
  have xd:a' 2 _:=N.mono (by decide)
  intro X;refine⟨_,ax (jC (bA zi zc (aa (pv 0) (aa (pv 1) ai))) (iU rfl (dq (br 2 vG.nd) (dq (br 3 vG.nd) gM))))
   (aF (a9 (tS M yj xd rfl T.oH zj .nil c3 (aa (bA xj N (aa (aS bD (pv 0) aw) (aa (aS bD (pv 0) aw) ai))) (aa (pv 2) (aa (dY (ID rfl) rfl yi.dict boot_dict (aa (pv 3) ai)) (aa pI ai))))))),?_⟩
  refine a4 rfl rfl (q9.mk rfl h zk λr b us Y j yd zd xe=>?_);refine⟨r,_,rfl,aZ.of yd,rfl,_,_,rfl,_,_,rfl,rfl,?_⟩;have h1:=h.same j;refine af rfl (bf h1.hw b4 (af rfl (bf h1.hw dG (q6.mk rfl (yk.same j) λfi yl dl de dh za zl H2 S a ye ze xf=>?_))));have yf:i7 H2 us th.2.2:=xe.keep λb xs e=>S _ _ e;refine a4 rfl rfl ⟨b,us,_,rfl,S _ _ zd,yf.pairs,by rw[gJ];exact xl,λow zf=>?_⟩
  intro kp g;intro x dx c z ne;have l:=aK (o:=.dK (gx th.2.2)) zf;have xa:upd H2 ow (.dK (gx th.2.2)) ow=cr (gx th.2.2):=ah;have xm:HO.dK (md (th.2.2.map λq=>(q.1,V.int q.2)))=.dK (gx th.2.2):=rfl;rw[xm]at g c z⊢;generalize upd H2 ow (.dK (gx th.2.2))=xb at l xa g c z⊢;have U:=aK (o:=.dT []) g;have B:upd xb kp (.dT []) kp=ev []:=ah;generalize upd xb kp (.dT [])=m at U B c z⊢;have ym:=aK (o:=.own x) z;have xg:upd m dx (.own x) x=none:=by rw[ag (aP ne)];exact c
  have J:=ym.trans (aK (o:=.ins C dx []) xg);have O:upd (upd m dx (.own x)) x (.ins C dx []) x=ih (.ins C dx []):=ah;generalize upd (upd m dx (.own x)) x (.ins C dx [])=yb at J O⊢;refine qJ.mk rfl O (J _ _ B) λkn R=>⟨rfl,?_⟩;have zb:=aK (o:=.dT []) R;have yg:x≠kn:=aA O R;have ya:upd yb kn (.dT []) kn=ev []:=ah;generalize upd yb kn (.dT [])=xc at zb ya⊢;have i:=l.trans U;have zg:=J.trans zb;have G:=j.trans S;have W:∀b u,m b=ih u->upd xc x (.ins C dx (fW fi ow kp kn th.2.1 0)) b=ih u:=λb u e=>by rw[ag (aA e c)];exact zg _ _ e
  have d:∀b u,H2 b=ih u->upd xc x (.ins C dx (fW fi ow kp kn th.2.1 0)) b=ih u:=λb u e=>W _ _ (i _ _ e);have I:m kn=none:=J.free R;obtain⟨p,y,ep⟩:=aY.mp yc;have xh:gD H2 za L th.2.1:=ep ▸ ye p y;refine q ⟨x,dx,fi,yl,dl,de,dh,ow,kp,kn,th.2.1,za,zl,⟨L th.2.1,bk,th.2.2⟩,L,NU⟩ _ rfl rfl (λb u e=>d _ _ (G _ _ e)) ⟨aP (aA (i _ _ a.hx) c),ah,⟨d _ _ a.hx,d _ _ a.hl,d _ _ a.he,d _ _ a.hh,a.du.same d,a.ok,a.nn⟩,W _ _ (U _ _ xa),by rw[ag (aP yg)];exact ya,W _ _ B,⟨aP (aA (i _ _ a.he) I),aP (aA (i _ _ a.hh) I),aP (aA (l _ _ a.he) g),aP (aA (l _ _ a.hh) g),aP (aA B I)⟩,xh.same d,rfl,λk n b v e=>(by cases e),.nil,λp y=>(by cases y),fE,λp y=>(by cases y),aU _⟩ ((G.trans i).free c) (j.free ze) (j.free xf) ((G.trans i).free I) ((G.trans l).free g)
structure jO(wd t tb tt:Up)(wt:List V)(cY:List Th)(th:Th)(o:Ye)(ws wb:List V)(Qb:List (Gv×List Gv))(L:Gv->List Gv)(bk:Bk)(NU:List Gv)(a:Ask)(H:Hp):Prop where
 h:ix H wd t tb tt wt cY
 fb:FB H t tb o ws wb Qb L bk
 hm:th∈cY
 hk:th.2.1∈Qb.map (·.1)
 nd:(th.2.2.map (·.1)).Nodup
 wo:gV ⟨L th.2.1,bk,th.2.2⟩ NU
 ua:UA ⟨L th.2.1,bk,th.2.2⟩ NU a
theorem jO.same{c t tb:Up}{d:am V}{b:am Th}{th:Th}{bk:Bk}{a:Ask}(h:jO c t tb tt d b th o ws wb Qb L bk NU a H)(S:aB H H'):jO c t tb tt d b th o ws wb Qb L bk NU a H':=⟨h.h.same S,h.fb.same S,h.hm,h.hk,h.nd,h.wo,h.ua⟩
inductive ry(C D M N:Up)(vs:List V)(H:Hp)(Q:VK)(E:XK):Prop
 |mk{wd t tb tt:Up}{wt:List V}{cY:List Th}{th:Th}{o:Ye}{ws wb:List V}{Qb:List (Gv×List Gv)}{L:Gv->List Gv}{bk:Bk}{NU:List Gv}{a:Ask}(_:vs=[.ref wd,.str th.1,.str a.1,.str a.2])(_:jO wd t tb tt wt cY th o ws wb Qb L bk NU a H)
  (_:∀ns,eN ⟨L th.2.1,bk,th.2.2⟩ a ns ->∀e H',aB H H'->ro N ns H' e->E (.ref N) (ih e) H')
  (_:∀n,aW.Out ⟨L th.2.1,bk,th.2.2⟩ a (.miss n) ->∀e H',aB H H'->qK M n H' e->E (.ref M) (ih e) H')
  (_:∀z,aW.Out ⟨L th.2.1,bk,th.2.2⟩ a (.told z) ->∀x dx fi ow kp kn kd bg t y u kk H',aB H H'->H' x=ih (.ins C dx (fW fi ow kp kn kd bg))->H' kn=ih (.dT kk)->bo kk (cX a)=ih (.ref t)->H' t=ih (.tup [y,.int z,u])->Q (.ref x) H'):ry C D M N vs H Q E
noncomputable abbrev j1:List Gv:=["world","thing","name","behind"]
noncomputable abbrev Q':List Gv:=["world","thing","name","behind","whole"]
theorem Er:bp Q' j1 (aH sE):=bw
theorem Oe:bp ["thing"] ["thing"] (aH t7):=bw
theorem MZ(F:aQ K "check_name" "check_name" t7 f fd)(a:bV P w K mg base aI 1 fN dN ["thing"] mf "is_name"):aT P w K mg base aI 2 f fd ["thing"] qG:=by
 refine F.bG Oe λQa A outer s H vs Q E b h=>?_
 ·obtain @⟨x,rfl,n,q⟩:=h
  intro X;exact⟨_,aF (bE (g8 (gP (bA a b (aa (pv 0) ai)))) sV bZ),_,rfl,mf.mk rfl n λY c=>⟨true,rfl,q Y c⟩⟩
theorem b'.wi{S:Wh}{a:am (Ask×Int)}(h:b' C D S bg m kh kk kq a H):WI C D S.x S.dx S.fi S.fx S.dl S.de S.dh S.ow S.kp S.kn S.kd bg S.kl (gx S.W.own) S.ke kh kk m S.W.bk H:=⟨h.n3,h.hx,h.fi,h.ho,h.hk,h.n1.1,h.n1.2.1⟩
theorem Of{N zd xe fR:Up}{ye ze:Xt}(F:aQ K "whole_asked" "whole_asked" sE f fd)(T:hM K mg C)(xf:bV P w K mg base aI 7 zd ye ["world","thing"] (rx C D) "whole_of")(yf:bV P w K mg base aI 2 fN dN ["thing"] qG "check_name")(zf:bV P w K mg base aI 2 xe ze ["line","thing"] q4 "check_behind")
  (xg:aT P w K mg base aI 1 fR dR ["self"] (qy C D)) (yg:Meth K C "forebears" fR) (zg:Binds K dR ["self"] []) (xh:aT P w K mg base (cQ P w) 5 fT dT ["self","first"] (ru C D R M N)) (yh:Meth K C "tell" fT) (zh:Binds K dT ["self","first"] []):aT P w K mg base (cQ P w) 8 f fd j1 (ry C D M N):=by
 refine F.vq Er λQa A outer s H vs Q E xi h=>?_
 ·obtain @⟨zl,t,tb,tt,xm,yl,th,o,ws,wb,Qb,L,bk,NU,a,rfl,h,yi,qn,q⟩:=h
  have g:a' 7 _:=xi;have U:a' 5 _:=g.mono (by decide)
  have p:a' 2 _:=g.mono (by decide)
  have W:a' 1 _:=g.mono (by decide)
  intro X;refine⟨_,ax (ba 4 Er.nd (bA xf g (aa (pv 0) (aa (pv 1) ai))))
   (ax (ey (bA yf p (aa (pv 2) ai)))
   (ax (ey (bA zf p (aa (JL (pv 4) T.cl yg xg W zg .nil c3) (aa (pv 3) ai))))
   (ax (ey (g6 (pv 4) T.cl yh xh U zh .nil qC (aa (cN (aa (pv 2) (aa (pv 3) ai))) ai)))
   (aF (a9 (pv 4)))))),?_⟩
  refine a4 rfl rfl (rx.mk (NU:=NU) rfl h.h h.fb h.hm h.hk h.nd λS Y c v zi j xa ya za xb yb=>?_);refine af rfl (qG.mk rfl (h.wo.nm _ h.ua.1) λH2 B=>?_);have i:=j.same B;obtain⟨ym,xj,G⟩:=i.ln;have yj:S.L S.kd=L th.2.1:=by rw[j.el,c]
  rw[yj]at G;refine af rfl ⟨S.x,S.dx,_,rfl,i.hx,L6,qy.mk rfl i.wi xj (af rfl (q4.mk rfl G (h.fb.a5 h.hk) h.ua.2 λI J=>?_))⟩;refine af rfl ⟨S.x,S.dx,_,rfl,J _ _ i.hx,L7,_,rfl,_,rfl,bF,λta zb=>?_⟩;have O:=aK (o:=.tup [V.str a.1,V.str a.2]) zb;have m:upd I ta (.tup [V.str a.1,V.str a.2]) ta=bn [V.str a.1,V.str a.2]:=ah;generalize upd I ta (.tup [V.str a.1,V.str a.2])=zj at O m⊢;have r:=B.trans (J.trans O);have xk:=j.same r;have xc:=zi.trans r;have l:∀H',KT S zj H'->aB H H':=λH' k b u e=>k b u (aA e ya) (aA e za) (aA e xb) (aA e yb) (aA e xa) (xc _ _ e);refine ru.mk (S:=S) (a:=a) rfl (by rw[c,v];exact h.wo) xk (bx _) m (by rw[c,v];exact h.ua) (λns d e H' k _ yk=>yi ns (by rw[<-c];exact d) e H' (l H' k) yk) (λn d e H' k _ zk=>qn n (by rw[<-c];exact d) e H' (l H' k) zk) λz d t y u yc zc H' k xd yd hv xl=>?_
  exact af rfl (q z (by rw[<-c];exact d) S.x S.dx S.fi S.ow S.kp S.kn S.kd yc t y u zc H' (l H' k) xd yd hv xl)
inductive rz(M N:Up)(vs:List V)(H:Hp)(Q:VK)(E:XK):Prop
 |mk{wd t tb tt:Up}{wt:List V}{cY:List Th}{th:Th}{o:Ye}{ws wb:List V}{Qb:List (Gv×List Gv)}{L:Gv->List Gv}{bk:Bk}{NU:List Gv}{a:Ask}(_:vs=[.ref wd,.str th.1,.str a.1,.str a.2])(_:jO wd t tb tt wt cY th o ws wb Qb L bk NU a H)
  (_:∀ns,eN ⟨L th.2.1,bk,th.2.2⟩ a ns ->∀e H',aB H H'->ro N ns H' e->E (.ref N) (ih e) H')
  (_:∀n,aW.Out ⟨L th.2.1,bk,th.2.2⟩ a (.miss n) ->∀e H',aB H H'->qK M n H' e->E (.ref M) (ih e) H')
  (_:∀z,aW.Out ⟨L th.2.1,bk,th.2.2⟩ a (.told z) ->∀H',aB H H'->Q (.int z) H'):rz M N vs H Q E
theorem PB:bp j1 j1 (aH lS):=bw
theorem KQ{k:Nat}(F:oj K x qual st dv f fd)(S:bp N ps (aH st))(b:∀vs H Q E,sp vs H Q E->vs.length=ps.length)
  (a:∀(Qa:i') (A:XW) (outer:am YT) (s:Ur) (H:Hp) (vs:am V) (Q:VK) (E:XK),a' k (A.deeper (envOfC qual (aH st) s.aj f Qa))->sp vs H Q E ->
   ∃t,d8 (dV (cQ P w) P w K mg base N qual (aH st) f Qa A outer s H E) (bB st) t/\t { nx:=λ_ H'=>Q .aO H',rt:=Q } (start N vs) H):aT P w K mg base (cQ P w) (k+1) f fd ps sp:=by
 obtain⟨oc,od,kV,Qc,pm,an,Qa,ct,Ql,rfl,lk,c⟩:=F.ex;exact uP lk c S b λA outer s H vs Q E e d=>a Qa A outer s H vs Q E e d
theorem Og{N fW:Up}{n:Xt}(F:oj K "number_asked" "number_asked" lS dv f fd)(T:hM K mg C)(p:bV P w K mg base (cQ P w) 8 fW n j1 (ry C D M N) "whole_asked"):aT P w K mg base (cQ P w) 9 f fd j1 (rz M N):=by
 refine KQ F PB (λvs H Q E h=>?_) (λQa A outer s H vs Q E c h=>?_)
 ·obtain⟨rfl,_⟩:=h;rfl
 ·obtain @⟨I,t,tb,tt,J,G,th,o,ws,wb,Qb,L,bk,NU,a,rfl,h,r,qn,q⟩:=h
  have d:a' 8 _:=c;have e:=eQ c.units;refine⟨_,aF (a9 (aS bD (eY e (cf (Lu p d (aa (pv 0) (aa (pv 1) (aa (pv 2) (aa (pv 3) ai))))) rfl) (cN (aa (pv 2) (aa (pv 3) ai)))) aw)),?_⟩;refine i3 rfl rfl rfl rfl (ry.mk rfl h r qn λz v x dx fi ow kp kn kd bg t y u kk Y B g i j k=>?_);refine⟨x,C,dx,_,.ref kn,rfl,g,T.cl,T.nn,iP,_,rfl,_,rfl,bF,λta l=>?_⟩;have b:=aK (o:=.tup [V.str a.1,V.str a.2]) l;have m:upd Y ta (.tup [V.str a.1,V.str a.2]) ta=bn ((cX a).map kV):=ah;refine⟨kn,.ref t,rfl,?_,bf (b _ _ k) dG (q z v _ (B.trans b))⟩;rw[<-j];exact cm.t (b _ _ i) m
end d9
namespace d9
open L2 W HT
inductive gG where
 |told (z:Int):gG
 |miss (n:Gv):gG
 |f3 (ns:List Gv):gG
def aW.Comes(W:aW)(a:Ask):gG->Prop
 |.told z=>W.Out a (.told z)
 |.miss n=>W.Out a (.miss n)
 |.f3 ns=>eN W a ns
def jP(H:Hp)(p:Up):gG->Prop
 |.told z=>H p=ih (.tup [V.str "told",.int z])
 |.miss n=>H p=ih (.tup [V.str "missing",.str n])
 |.f3 ns=>∃t,H p=ih (.tup [V.str "endless",.ref t])/\H t=ih (.tup (ns.map V.str))
inductive k6(vs:List V)(H:Hp)(Q:VK)(E:XK):Prop
 |mk{wd t tb tt:Up}{wt:List V}{cY:List Th}{th:Th}{o:Ye}{ws wb:List V}{Qb:List (Gv×List Gv)}{L:Gv->List Gv}{bk:Bk}{NU:List Gv}{a:Ask}(_:vs=[.ref wd,.str th.1,.str a.1,.str a.2])(_:jO wd t tb tt wt cY th o ws wb Qb L bk NU a H)
  (_:∀r,aW.Comes ⟨L th.2.1,bk,th.2.2⟩ a r ->∀p H',aB H H'->jP H' p r->Q (.ref p) H'):k6 vs H Q E
noncomputable abbrev v8:List Gv:=["_law_world","_law_thing","_law_name","_law_behind"]
noncomputable abbrev Ra:List Gv:=["_law_world","_law_thing","_law_name","_law_behind","_law_told_here","e"]
theorem k7:bp Ra v8 (aH uV):=bw
theorem Oh{N y C:Up}{G I:Xt}(F:aQ K "_law_told" "_law_told" uV f fd)(k:u5 K mg B M fI dI)(l:vE K mg B N y G)(O:mroIn K M (.ref M)=ih true)(R:mroIn K N (.ref M)=ih false)(S:mroIn K N (.ref N)=ih true)(T:bV P w K mg base (cQ P w) 9 C I j1 (rz M N) "number_asked"):aT P w K mg base aI 10 f fd v8 k6:=by
 refine F.bG k7 λQa A outer s H vs Q E U h=>?_
 ·obtain @⟨zb,t,tb,tt,xc,yb,th,o,ws,wb,Qb,L,bk,NU,a,rfl,h,q⟩:=h
  have u:a' 9 _:=U;intro X;refine⟨_,ax (ba 4 k7.nd (cN ai))
   (ax (LJ (λJ D=>aF (ba 4 k7.nd (cN (aa bu (aa (Lv T u (aa (pv 0) (aa (pv 1) (aa (pv 2) (aa (pv 3) ai))))) ai)))))
     rfl rfl (AH (j:=5) k7.nd rfl rfl rfl rfl rfl k.mC k.q (λa=>aF (ba 4 k7.nd (cN (aa bu (aa (CL (pv 5)) ai)))))
      (AH (j:=5) k7.nd rfl rfl rfl rfl rfl l.mC l.q (λa=>aF (ba 4 k7.nd (cN (aa bu (aa (CL (pv 5)) ai))))) Jn)))
   (aF (a9 (pv 4)))),?_⟩
  refine⟨bx _,λW v=>?_⟩;have c:=aK (o:=.tup []) v;generalize upd H W (.tup [])=yc at c⊢;refine i3 rfl rfl rfl rfl (rz.mk rfl (h.same c) (λns e a Y g xa=>?_) (λn e a Y g ya=>?_) λz za Y g=>?_)
  ·refine⟨N,a,rfl,rfl,.inr ⟨R,.inl ⟨S,?_⟩⟩⟩
   obtain⟨d,t,m,p,xb⟩:=xa;refine af rfl ⟨a,_,_,d,_,.ref t,rfl,m,p,l.x,l.nk,rfl,bF,λi b=>?_⟩;have r:=aK (o:=.tup [V.str "endless",.ref t]) b;exact af rfl (q (.f3 ns) e i _ (c.trans (g.trans r)) ⟨t,ah,r _ _ xb⟩)
  ·refine⟨M,a,rfl,rfl,.inl ⟨O,?_⟩⟩
   obtain⟨d,m,p⟩:=ya;refine af rfl ⟨a,_,_,d,_,.str n,rfl,m,p,k.x,k.nk,rfl,bF,λi b=>?_⟩;exact af rfl (q (.miss n) e i _ (c.trans (g.trans (aK b))) ah)
  ·refine⟨bF,λi b=>?_⟩
   exact af rfl (q (.told z) za i _ (c.trans (g.trans (aK b))) ah)
theorem u7{b:Bool}{A:Prop}{T:St->Hp->Prop}(hK:St->Hp->Prop)(h1:b=true->(∀a H',hK a H'->T a H')->A)(h2:b≠true->hK σ H)(c:∀a H',hK a H'->T a H'):if b=true then A else T σ H:=by
 cases b with
 |true=>exact h1 rfl c
 |false=>exact c _ _ (h2 b9)
theorem fV{α:Type}{xs:am α}(h:i<xs.length):xs.take (i+1)=xs.take i++[xs[i]]:=by rw[dX,bz h];rfl
theorem KR{bk:Bk}{l:am Gv}(h:∀y∈l,cU bk y n=none):c4 bk n l=none:=by
 have:=m7 (x:=n) l h [];rw[ee]at this;exact this
theorem L9{bk:Bk}{l:am Gv}{d:UH}(hi:i<l.length)(h:∀y∈l.take i,cU bk y n=none)(e:cU bk l[i] n=ih d):c4 bk n l=ih (l[i],d):=by
 have:=m7 (x:=n) (l.take i) h (l.drop i);rw[wX,lF hi,ui e]at this;exact this
inductive oy(vs:List V)(H:Hp)(Q:VK)(E:XK):Prop
 |mk{la db:Up}{line:List Gv}{kvs:List (List Key×V)}{bk:Bk}{name gf:Gv}(_:vs=[.ref la,.ref db,.str name,.str gf])(_:H la=ih (.lst (line.map V.str)))(_:H db=ih (.dT kvs))(_:b7 H kvs bk)(_:fZ bk)(_:gf = "" \/ gf∈line)
  (_:∀v H',aB H H'->eJ H' v (c4 bk name (c9 line gf))->Q v H'):oy vs H Q E
noncomputable abbrev v9:List Gv:=["_law_line_here","_law_book","_law_name","_law_behind"]
noncomputable abbrev Rb:List Gv:=["_law_line_here","_law_book","_law_name","_law_behind","_law_here","_law_kind"]
theorem rC:bp Rb v9 (aH uU):=bw
theorem Oi(F:aQ K "_law_spot" "_law_spot" uU f fd):aT P w K mg base aI 1 f fd v9 oy:=by
 refine F.bG rC λQa A outer s H vs Q E T h=>?_
 ·obtain @⟨g,m,line,kvs,bk,name,a,rfl,j,D,dv,ok,U,q⟩:=h
  have G:=eQ T.units;intro X;refine⟨_,ax (ba 4 rC.nd (pv 0))
   (ax (bE (bJ kM (pv 3) bu (bS _)) (aF (ba 4 rC.nd (h8 kD (pv 0) (gN (bO fK (gq h6 Vn Vo JX (pv 0) (aa (pv 3) ai)) aw)) iQ))) bZ)
   (ax (fk eL rfl (dt (pv 4)) (br 5 rC.nd)
    (aF (bE (g7 (jE G (b6 (aa (pv 5) (aa (pv 2) ai))) (pv 1)))
     (aF (a9 (b6 (aa (pv 5) (aa (eY G (pv 1) (b6 (aa (pv 5) (aa (pv 2) ai)))) ai))))) bZ)))
   (aF (a9 ez)))),?_⟩
  refine a4 rfl rfl ⟨rfl,_,rfl,u7 (λS H'=>∃b,S=[bd g,bd m,ih (.str name),ih (.str a),bd b,none]/\aB H H'/\H' b=ce ((c9 line a).map V.str)) (λe k=>?_) (λe=>⟨g,rfl,aB.refl _,?_⟩) ?_⟩
  ·have I:a ≠ "" :=λz=>by rw[z]at e;revert e;decide +kernel
   have W:a∈line:=U.resolve_left I;obtain⟨xa,ya⟩:=tL W;refine a4 rfl rfl ⟨.inl ⟨rfl,_,au.of j⟩,_,rfl,g,line,a,line.idxOf a,rfl,rfl,j,xa,ya,_,_,rfl,rfl,_,rfl,g,_,rfl,au.of j,λc za=>?_⟩;have e1:c9 line a=line.drop (line.idxOf a+1):=by unfold c9;rw[aq I]
   refine k _ _ ⟨c,rfl,gL za,?_⟩;rw[ah,e1,lK];exact c6 ih (c6 HO.lst (pQ (line.map V.str) (line.idxOf a+1)))
  ·have:a = "" :=by
    by_cases z:a = ""
    ·exact z
    ·exact absurd (by simpa using z) e
   rw[show c9 line a=line from ay this];exact j
  ·rintro σ Y ⟨b,rfl,xb,p⟩
   generalize c9 line a=rest at q p;refine⟨_,rfl,b,rfl,⟨_,au.of p⟩,jv (xs:=rest.map V.str) (λi σ H2=>∃B:a2 V,σ=[bd g,bd m,ih (.str name),ih (.str a),bd b,B]/\aB H H2/\H2 b=ce (rest.map V.str) /\∀y∈rest.take i,cU bk y name=none)
    ⟨none,rfl,xb,p,λy o=>(by cases o)⟩ (λi σ H2 _ ab=>by obtain⟨_,_,_,z,_⟩:=ab;exact au.of z) ?_ ?_⟩
   ·rintro i x σ H2 yb ⟨B,rfl,C,J,no⟩
    refine jx ?_;intro xe E;obtain⟨L,rfl⟩:=pZ yb;refine a4 rfl rfl ⟨bF,λzb xc N _ r=>?_⟩;have r:xc zb=bn (([F3 rest[i],F3 name]:am Key).map kV):=r;have l:=C.trans N;refine af rfl ⟨m,_,rfl,cm.t (k:=[F3 rest[i],F3 name]) (l _ _ D) r,_,rfl,?_⟩;rcases (dv.same l).look (k:=rest[i]) (n:=name) ok.nd with⟨e1,e2⟩|⟨v,d,e1,e2,yc⟩
    ·rw[e2]
     refine af rfl ⟨l,N _ _ J,λy o=>?_⟩;rw[fV L]at o;rcases cj.mp o with z|z
     ·exact no y z
     ·rw[bX.mp z];exact e1
    ·rw[e2]
     refine i3 rfl rfl rfl rfl ⟨bF,λzc xd O _ u=>?_⟩;have u:xd zc=bn (([F3 rest[i],F3 name]:am Key).map kV):=u;have M:=l.trans O;refine⟨m,v,rfl,by rw[<-e2];exact cm.t (M _ _ D) u,bF,λt yd R _ zd=>?_⟩
     exact q _ yd (M.trans R) (by rw[L9 L no e1];exact⟨t,v,rfl,zd,(yc.same O).same R⟩)
   ·rintro σ H2 ⟨B,rfl,C,J,no⟩
    rw[aE,cM]at no;exact q _ H2 C (by rw[KR no];rfl)
inductive mG(vs:List V)(H:Hp)(Q:VK)(E:XK):Prop
 |mk{u:V}{d:UH}(_:vs=[u])(_:Ent d)(_:Rep H u d)(_:∀r us H',aB H H'->H' r=ih (.lst us)->bK H' us (bM d)->Q (.ref r) H'):mG vs H Q E
theorem PD:bp ["_law_entry"] ["_law_entry"] (aH ue):=bw
theorem Oj(F:aQ K "_law_steps" "_law_steps" ue f fd)(B:dW mg):aT P w K mg base aI 1 f fd ["_law_entry"] mG:=by
 refine F.bG PD λQa A outer s H vs Q E L h=>?_
 ·obtain @⟨u,d,rfl,p,r,q⟩:=h
  intro X;refine⟨_,ax (bE (bJ ei (aS bD (pv 0) aw) bu (bS _)) (aF (a9 (kO (aa (b6 (aa bu (aa (aS bD (pv 0) aw) ai))) ai)))) bZ)
   (ax (bE (bJ ei (aS bD (pv 0) aw) bu (bS _)) (aF (a9 (kO (aa (b6 (aa bu (aa (aS bD (pv 0) aw) ai))) (aa (b6 (aa bu (aa (aS bD (pv 0) aw) ai))) ai))))) bZ)
   (aF (a9 (dY kb rfl B.list boot_list (aa (aS bD (pv 0) aw) ai))))),?_⟩
  cases p with
  |plain n t =>
   obtain⟨a,u,rfl,e,g⟩:=two1 r;obtain rfl:=g.il;refine af rfl (bf e b4 ⟨rfl,_,rfl,_,rfl,bf e dG ⟨bF,λv Y k _ h1=>⟨eo,λo H2 i _ h2=>?_⟩⟩⟩);exact q o _ H2 (k.trans i) h2 (.cons (.tup (i _ _ h1) (.cons (.str _) (.cons (.int _) .nil))) .nil)
  |ahead x n h t =>
   obtain⟨a,vs,rfl,e,rs⟩:=r.tupI;obtain⟨M,N,rfl,y,rs⟩:=rs.eG;obtain⟨O,R,rfl,g,rs⟩:=rs.eG;obtain⟨S,T,rfl,z,rs⟩:=rs.eG;obtain rfl:=rs.mF;obtain rfl:=y.gT;obtain rfl:=g.gT;obtain rfl:=z.il;refine af rfl (bf e b4 ⟨rfl,_,rfl,_,rfl,bf e b4 ⟨rfl,_,rfl,?_⟩⟩);refine af rfl (bf e dG ⟨bF,λv Y k _ h1=>af rfl (bf (k _ _ e) mE ⟨bF,λo H2 i _ h2=>⟨bF,λC D l _ G=>?_⟩⟩)⟩);exact q C _ D (k.trans (i.trans l)) G (.cons (.tup (l _ _ (i _ _ h1)) (.cons (.str _) (.cons (.str _) .nil))) (.cons (.tup (l _ _ h2) (.cons (.str _) (.cons (.int _) .nil))) .nil))
  |behind ds I J =>
   obtain⟨a,u,rfl,e,g⟩:=two1 r;obtain⟨b,vs,rfl,m,rs⟩:=g.tupI;refine af rfl (bf e b4 ⟨rfl,_,rfl,_,rfl,bf e b4 ⟨rfl,_,rfl,_,rfl,bf e dG ⟨b,_,rfl,.inr (aZ.of m),λc j=>q c _ _ (gL j) ah (rs.same (gL j))⟩⟩⟩)
  |jM ds I J =>
   obtain⟨a,u,rfl,e,g⟩:=two1 r;obtain⟨b,vs,rfl,m,rs⟩:=g.tupI;refine af rfl (bf e b4 ⟨rfl,_,rfl,_,rfl,bf e b4 ⟨rfl,_,rfl,_,rfl,bf e dG ⟨b,_,rfl,.inr (aZ.of m),λc j=>q c _ _ (gL j) ah (rs.same (gL j))⟩⟩⟩)
theorem PF{t:TT}{a te:TS}{D:L2.Ends}{b:Bool}(h:Tells t σ H b)(k:∀Y,aB H Y->if b=true then a D σ Y else te D σ Y):vd t a te D σ H:=h _ k
theorem L'{d:UH}(e:Ent d):decide (a3 d∈(["plain","behind"]:am Gv)) = !jF d:=by
 cases e with
 |plain n=>show decide (("plain" : Gv)∈(["plain","behind"]:am Gv)) = !decide (("plain" : Gv) = "ahead" \/ ("plain" : Gv) = "shut");decide +kernel
 |ahead x n=>show decide (("ahead" : Gv)∈(["plain","behind"]:am Gv)) = !decide (("ahead" : Gv) = "ahead" \/ ("ahead" : Gv) = "shut");decide +kernel
 |behind ds=>show decide (("behind" : Gv)∈(["plain","behind"]:am Gv)) = !decide (("behind" : Gv) = "ahead" \/ ("behind" : Gv) = "shut");decide +kernel
 |jM ds=>show decide (("shut" : Gv)∈(["plain","behind"]:am Gv)) = !decide (("shut" : Gv) = "ahead" \/ ("shut" : Gv) = "shut");decide +kernel
theorem mq{W:aW}{a:Ask->Option Rs}{w:Gv}{d:UH}{ds:am UH}{t:Int}(c:W.need n w d=none):W.ec a n w (d::ds) t=W.ec a n w ds (stepT t d):=by
 show(match W.need n w d with|none=>_|some b=>_)=_;rw[c]
theorem eJ.same{r:a2 (Gv×UH)}(h:eJ H v r)(S:aB H H'):eJ H' v r:=by
 cases r with
 |none=>exact h
 |some p=>obtain⟨t,u,e,a,b⟩:=h;exact⟨t,u,e,S _ _ a,b.same S⟩
theorem JA{i j g:Nat}{W:aW}{a:Ask}(h1:σ[i]?=ih (ih (.str n)))(h2:σ[j]?=ih (ih (.ref ow)))(h:σ[g]?=ih (ih v))(r:H ow=cr (gx W.own))(b:eJ H v (W.look a))(o:∀wh d,W.look a=ih (wh,d)->Ent d) :
  Tells (vb (tB (vp (gu i) (gu j))) (Ez (qB (jV (λx y H Q=>y=.aO/\Q (.bl (decide (x=.aO))) H) (gu g) (tC .aO))) (qB (jV (oD K false) (jV (mD K) (jV (mD K) (gu g) (tC (.int 1))) (tC (.int 0))) (DB (uN (tC (.str "plain")) (uN (tC (.str "behind")) vk))))))) σ H ((W.own.lookup n).isSome&&W.fz a):=by
 refine .and (λR k=>⟨_,h1,_,h2,ow,_,rfl,cm.k (k:=F3 n) r,_,rfl,by rw[uo,r8];exact k _ (aB.refl _)⟩) λ_ B l R k=>?_
 cases f:W.look a with
 |none =>
  rw[f]at b;rw[show W.fz a=true by unfold aW.fz;rw[f]]at k
  have b:v=V.aO:=b;subst b;exact⟨_,h,rfl,_,rfl,k _ (aB.refl _)⟩
 |some p =>
  obtain⟨y,d⟩:=p;rw[f]at b;rw[show W.fz a = !jF d by unfold aW.fz;rw[f]]at k
  obtain⟨t,u,rfl,s,w⟩:=b;have m:=o y d f;obtain⟨C,xs,rfl,q⟩:=um m (w.same l);refine⟨_,h,rfl,_,rfl,_,h,bf (l _ _ s) dG (bf q b4 ⟨bF,λc D z _ A=>⟨c,_,rfl,.inl (au.of A),rfl,rfl,?_⟩⟩)⟩;have e:lr (.str (a3 d)) ((["plain","behind"]:am Gv).map V.str) = !jF d:=by
   rw[iM];exact L' m
  have:=k _ z;rw[<-e]at this;exact af rfl this
def PH(e:Vc):Vc:=match e with|.BinOp _ _ r _=>r|_=>.Constant .none 0 ⟨0,0,0,0⟩
section
variable{W W':aW}
theorem pE{f g:bb}{x y:Ask}(o:bN W f)(p:bN W g)(e:f.a=g.a)(h1:gr W f=ih x)(h2:gr W g=ih y)(q:∀k,W.out k x=none)(u:∀k,W.out k y=none):x=y:=by
 obtain⟨s,ds,v,n1⟩:=km h1;obtain⟨s',E,w,b⟩:=km h2;obtain⟨_,d,pre,i,j,c⟩:=o.lk;obtain⟨_,F,D,l,m,A⟩:=p.lk;rw[e]at i c n1;rw[i]at l;obtain⟨B,C⟩:=Prod.mk.inj (cZ l);subst C;rw[B]at n1 c;rw[v]at j;rw[w]at m;have no:∀{z:Ask},(∀k,W.out k z=none) ->¬ ∃r,W.Out z r:=λh ⟨r,k,n⟩=>by rw[h k]at n;cases n
 rcases List.append_eq_append_iff.mp (j.symm.trans m) with⟨t,e1,e2⟩|⟨t,e1,e2⟩
 ·cases t with
  |nil=>cases e2;rw[n1]at b;exact cZ b
  |cons z t=>cases e2;exact absurd (A s (by rw[e1];simp) x n1) (no q)
 ·cases t with
  |nil=>cases e2;rw[n1]at b;exact cZ b
  |cons z t=>cases e2;exact absurd (c s' (by rw[e1];simp) y b) (no u)
theorem BB{b c:Ask}(q:∀k,W.out k b=none)(r:∀k,W.out k c=none):∀{l m:am bb}{f g:bb},(∀x∈f::l,bN W x)->(∀x∈g::m,bN W x)->Chain W (f::l) b->Chain W (g::m) c->f.a=g.a->((f::l).map (·.a)++[b]) <+: ((g::m).map (·.a)++[c])\/((g::m).map (·.a)++[c]) <+: ((f::l).map (·.a)++[b])
 |[],[],f,g,j,n,d,i,e=>by
  have:=pE (j f aV) (n g aV) e d i q r;subst this
  left
  show [f.a,b] <+: [g.a,b];rw[e];exact List.prefix_refl _
 |[],o::m,f,g,j,n,d,i,e=>by
  have:=pE (j f aV) (n g aV) e d i.1 q (m8 (fs:=o::m) (λx p=>n x (a7 _ p)) i.2 rfl r);subst this
  left
  exact⟨m.map (·.a)++[c],by show f.a::o.a::_=g.a::o.a::_;rw[e];rfl⟩
 |f'::l,[],f,g,j,n,d,i,e=>by
  have:=pE (j f aV) (n g aV) e d.1 i (m8 (fs:=f'::l) (λx p=>j x (a7 _ p)) d.2 rfl q) r;subst this
  right
  exact⟨l.map (·.a)++[b],by show g.a::f'.a::_=f.a::f'.a::_;rw[e];rfl⟩
 |f'::l,o::m,f,g,j,n,d,i,e=>by
  have s:∀x∈f'::l,bN W x:=λx p=>j x (a7 _ p);have t:∀x∈o::m,bN W x:=λx p=>n x (a7 _ p);have:=pE (j f aV) (n g aV) e d.1 i.1 (m8 (fs:=f'::l) s d.2 rfl q) (m8 (fs:=o::m) t i.2 rfl r);rcases BB q r s t d.2 i.2 this with h|h
  ·left
   show f.a::((f'::l).map (·.a)++[b]) <+: g.a::((o::m).map (·.a)++[c]);rw[e];exact(Vq _).mpr h
  ·right
   show g.a::((o::m).map (·.a)++[c]) <+: f.a::((f'::l).map (·.a)++[b]);rw[e];exact(Vq _).mpr h
theorem Cm{α:Type}{xs ys:am α}{b c:α}(h:xs++[b] <+: ys++[c])(e:b∈xs)(d:ys.Nodup):xs=ys/\b=c:=by
 obtain⟨t,a⟩:=h;rcases List.eq_nil_or_concat t with rfl|⟨t',y,rfl⟩
 ·rw[ee]at a
  obtain⟨e1,e2⟩:=ZQ a rfl;cases e2;exact⟨e1,rfl⟩
 ·rw[List.concat_eq_append,<-lD]at a
  obtain⟨e1,e2⟩:=ZQ a rfl;rw[<-e1,lD]at d;exact absurd rfl ((eu.mp d).2.2 b e b (by simp))
theorem eN.uniq{a:Ask}{j:am Gv}(h:eN W a ns)(h':eN W a j):ns=j:=by
 obtain⟨fs,b,i,ok,c,e,n,hi,rfl⟩:=h;obtain⟨gs,t,u,k,o,v,r,d,rfl⟩:=h';have w:=(uj ok c hi).2.2.2;have s:=(uj k o d).2.2.2;have p:=di hi;have q:=di d;cases fs with
 |nil=>cases p
 |cons f l =>
  cases gs with
  |nil=>cases q
  |cons g m =>
   have x:f.a=g.a:=by
    have e1:f.a=a:=e;have e2:g.a=a:=v;rw[e1,e2]
   obtain⟨e1,e2⟩:(f::l).map (·.a)=(g::m).map (·.a)/\b=t:=by
    rcases BB w s ok k c o x with h|h
    ·exact Cm h p r
    ·obtain⟨y,z⟩:=Cm h q n;exact⟨y.symm,z.symm⟩
   rw[<-e1]at d⊢;subst e2;have:i=u:=(U8 (bR.mp hi).1 n).mp (hi.trans d.symm);rw[this]
theorem Comes.uniq{a:Ask}{r r':gG}(h:W.Comes a r)(h':W.Comes a r'):r=r':=by
 cases r with
 |told z =>
  cases r' with
  |told y=>cases Out.uniq h h';rfl
  |miss n=>cases Out.uniq h h'
  |f3 ns=>obtain⟨k,b⟩:=h;rw[(eN.core h').1 k]at b;cases b
 |miss n =>
  cases r' with
  |told y=>cases Out.uniq h h'
  |miss m=>cases Out.uniq h h';rfl
  |f3 ns=>obtain⟨k,b⟩:=h;rw[(eN.core h').1 k]at b;cases b
 |f3 ns =>
  cases r' with
  |told y=>obtain⟨k,b⟩:=h';rw[(eN.core h).1 k]at b;cases b
  |miss m=>obtain⟨k,b⟩:=h';rw[(eN.core h).1 k]at b;cases b
  |f3 c=>rw[eN.uniq h h']
structure Alike(W' W:aW):Prop where
 lk:∀a,W'.look a=W.look a
 ow:∀a,W'.dJ a=W.dJ a
theorem Alike.need(h:Alike W' W)(n w:Gv)(d:UH):W'.need n w d=W.need n w d:=by simp only[aW.need,h.lk]
theorem Alike.go(h:Alike W' W)(f:Ask->Option Rs)(n w:Gv):∀(ds:am UH) (t:Int),W'.ec f n w ds t=W.ec f n w ds t
 |[],t=>rfl
 |d::ds,t=>by
  cases e:W.need n w d with
  |none=>rw[mq e,mq ((h.need n w d).trans e)];exact h.go f n w ds _
  |some b =>
   rw[jA e,jA ((h.need n w d).trans e)];cases f b with
   |none=>rfl
   |some x=>cases x with
    |miss m=>rfl
    |told z=>exact h.go f n w ds _
theorem Alike.step(h:Alike W' W)(f:Ask->Option Rs)(a:Ask):W'.dw f a=W.dw f a:=by
 unfold aW.dw;rw[h.ow,h.lk];cases W.dJ a with
 |some z=>rfl
 |none=>cases W.look a with
  |none=>rfl
  |some p=>exact h.go f _ _ _ _
theorem Alike.out(h:Alike W' W):∀k,W'.out k=W.out k
 |0=>rfl
 |k+1=>by funext a;show W'.dw (W'.out k) a=W.dw (W.out k) a;rw[h.out k,h.step]
theorem Alike.Out(h:Alike W' W){a:Ask}{r:Rs}:W'.Out a r ↔ W.Out a r:=by unfold aW.Out;simp only[h.out]
theorem Alike.fr(h:Alike W' W){f:bb}(o:bN W' f):bN W f:=by
 obtain⟨h1,d,pre,h2,a,c⟩:=o.lk;exact⟨λk r e=>h.Out.mp (o.up k r (by rw[h.out,h.go];exact e)),λk r e=>by have:=o.dn k r (by rw[h.out];exact e);rw[h.out,h.go]at this;exact this,
  (h.ow _).symm.trans h1,d,pre,(h.lk _).symm.trans h2,a,λs g b i=>by obtain⟨r,j⟩:=c s g b ((h.need _ _ _).trans i);exact⟨r,h.Out.mp j⟩⟩
theorem Alike.head(h:Alike W' W)(f:bb):gr W' f=gr W f:=by
 unfold gr;cases f.left with
 |nil=>rfl
 |cons d ds=>exact h.need _ _ _
theorem Alike.chain(h:Alike W' W){b:Ask}:∀{fs:am bb},Chain W' fs b->Chain W fs b
 |[],c=>trivial
 |[f],c=>(h.head f).symm.trans c
 |f::g::r,c=>⟨(h.head f).symm.trans c.1,h.chain c.2⟩
theorem Alike.comes(h:Alike W' W){a:Ask}{r:gG}(c:W'.Comes a r):W.Comes a r:=by
 cases r with
 |told z=>exact h.Out.mp c
 |miss n=>exact h.Out.mp c
 |f3 ns =>
  obtain⟨fs,b,i,ok,c,e,d,hi,q⟩:=c;exact⟨fs,b,i,λf g=>h.fr (ok f g),h.chain c,e,d,hi,q⟩
end
theorem KS{own b:Own}(a:(own.map (·.1)).Nodup)(p:b.Perm own):b.lookup n=own.lookup n:=by
 have c:∀{l:Own} (_:(l.map (·.1)).Nodup) {m:Gv}{z:Int},l.lookup m=ih z ↔ (m,z)∈l:=λ{l} a {m z}=>by
  induction l with
  |nil=>simp
  |cons q l f =>
   obtain⟨x,y⟩:=q;rw[bU,dM]at a;rw[ef]
   by_cases e:m=x
   ·subst e
    simp only[wy,bj,ZN,true_and]
    constructor
    ·intro h;cases h;exact .inl rfl
    ·rintro(h|h)
     ·rw[h]
     ·exact absurd (aY.mpr ⟨(m,z),h,rfl⟩) a.1
   ·rw[show(m==x)=false by simp[e]]
    simp only[bj,ZN,e,false_and,false_or];exact f a.2
 have d:(b.map (·.1)).Nodup:=(p.map (·.1)).nodup_iff.mpr a;cases e:own.lookup n with
 |some z=>exact(c d).mpr (p.mem_iff.mpr ((c a).mp e))
 |none =>
  cases g:b.lookup n with
  |none=>rfl
  |some z=>rw[(c a).mpr (p.mem_iff.mp ((c d).mp g))]at e;cases e
theorem alike{bk c:Bk}{own b:Own}(p:c.Perm bk)(d:(bk.map bC).Nodup)(q:b.Perm own)(no:(own.map (·.1)).Nodup):Alike ⟨line,c,b⟩ ⟨line,bk,own⟩:=by
 have lk:∀a,aW.look ⟨line,c,b⟩ a=aW.look ⟨line,bk,own⟩ a:=λa=>Cd p d _;refine⟨lk,λa=>?_⟩;unfold aW.dJ aW.fz;rw[lk];show(if _ then b.lookup a.1 else none)=if _ then own.lookup a.1 else none;rw[KS no q]
theorem Ds(xs:am V)(k:Nat):e6 xs none (ih (k:Int))=xs.take k:=by
 unfold e6;have e1:HT.bq xs.length 0 none=0:=rfl;rw[e1,wN,r9];have e2:HT.bq xs.length xs.length (ih (k:Int))=min k xs.length:=by
  unfold HT.bq;simp;omega
 rw[e2]
 by_cases h:k<=xs.length
 ·rw[xZ h]
 ·rw[ZV (by omega),sh (aU _),sh (by omega)]
structure hU(H:Hp)(l:Up)(ys:List Gv):Prop where
 hl:H l=ih (.lst (ys.map V.str))
 ne:ys ≠ []
 a5:ys.length<=20
 nm:∀y∈ys,Nm y
 nd:ys.Nodup
theorem hU.lx(h:hU H l ys)(a:ej p H)(b:bL p H H'):hU H' l ys:=⟨b.kp _ _ h.hl (iO a h.hl),h.ne,h.a5,h.nm,h.nd⟩
theorem hU.same(h:hU H l ys)(S:aB H H'):hU H' l ys:=⟨S _ _ h.hl,h.ne,h.a5,h.nm,h.nd⟩
inductive rD(vs:List V)(H:Hp)(Q:VK)(E:XK):Prop
 |mk{p lk:Up}{m:Nat}{al:Bool}{ks:List Gv}(_:vs=[.ref p,.int m,.bl al,.ref lk])(_:ej p H)(_:1<=m)(_:m<=20)(_:hU H lk ks)(_:∀(l:Up) (ys:List Gv) (H':Hp),bL p H H'->hU H' l ys->ys.length<=m->Q (.ref l) H'):rD vs H Q E
noncomputable abbrev v':List Gv:=["_law_pot_here","_law_many","_law_alike","_law_kinds"]
noncomputable abbrev Rc:List Gv:=["_law_pot_here","_law_many","_law_alike","_law_kinds","_law_found"]
theorem Es:bp Rc v' (aH uc):=bw
theorem Ol(F:aQ K "_law_called" "_law_called" uc f fd)(n:bV P w K mg base aI 3 fN dN ["_law_pot_here","_law_many"] kF "_law_names"):aT P w K mg base aI 4 f fd v' rD:=by
 refine F.bG Es λQa A outer s H vs Q E o h=>?_
 ·obtain @⟨p,lk,m,v,ks,rfl,d,x,g,a,q⟩:=h
  intro X;refine⟨_,ax (ba 4 Es.nd (bA n o (aa (pv 0) (aa (pv 1) ai))))
   (ax (bE (gP (pv 2)) (aF (a9 (h8 kD (pv 3) iQ (gN (pv 1))))) bZ)
   (aF (a9 (pv 4)))),?_⟩
  refine a4 rfl rfl (kF.mk rfl d g λl ys Y B r i j b h1=>?_);refine a4 rfl rfl ?_;refine cA (λe=>?_) (λe=>?_)
  ·have k:=a.lx d b
   refine ek rfl rfl rfl ⟨lk,_,rfl,au.of k.hl,λc t=>?_⟩;rw[Ds,<-zZ];have kp:0<ks.length:=oW.mpr a.ne;have tl:(ks.take m).length=min m ks.length:=cz ..;refine q c (ks.take m) _ (b.new t) ⟨ah,λz=>?_,by have:=a.a5;omega,λy u=>a.nm y (o2 u),a.nd.sublist (iD _ _)⟩ (by omega)
   rw[z,iF]at tl;omega
  ·exact af rfl (q l ys Y b ⟨h1,λz=>by rw[z,iF]at r;omega,by omega,i,j⟩ (by omega))
def hC(d:UH):List Gv:=((bM d).filter λs=>decide (a3 s = "ask")).map eI
def k8(d:UH):Bool:=(bM d).any λs=>decide (a3 s = "onward")
def gp(W:aW)(n:Gv):Nat->Option (Gv×UH)->List Gv
 |0,_=>[]
 |_+1,none=>[]
 |k+1,ih (w,d)=>hC d++gp W n k (if k8 d=true then W.look (n,w) else none)
def iY(W:aW)(n:Gv):List Gv:=if (W.dJ (n,"")).isSome=true then [] else gp W n W.line.length (W.look (n,""))
def iq:UH:=.tuple [.str "onward"]
theorem Ma{s:UH}(h:dc s):XA s iq=decide (a3 s = "onward"):=by
 cases h with
 |add n=>show Ya [.str "add",.int n] [.str "onward"]=decide (("add" : Gv) = "onward");rfl
 |times n=>show Ya [.str "times",.int n] [.str "onward"]=decide (("times" : Gv) = "onward");rfl
 |ask x=>show Ya [.str "ask",.str x] [.str "onward"]=decide (("ask" : Gv) = "onward");rfl
 |mj=>rfl
theorem AS{W:aW}:∀k,gp W n k none=[]
 |0=>rfl
 |_+1=>rfl
theorem any_congr{α:Type}{l:am α}{p q:α->Bool}(h:∀x∈l,p x=q x):l.any p=l.any q:=by
 induction l with
 |nil=>rfl
 |cons x l a=>rw[jj,jj,h x aV,a λy b=>h y (a7 _ b)]
theorem Au{W:aW}{w:Gv}{k:Nat}{d:UH}:gp W n (k+1) (ih (w,d))=hC d++gp W n k (if k8 d=true then W.look (n,w) else none):=rfl
structure LB(H:Hp)(la db ow:Up)(line:List Gv)(kvs:List (List Key×V))(bk:Bk)(own:Own):Prop where
 hl:H la=ih (.lst (line.map V.str))
 hd:H db=ih (.dT kvs)
 dv:b7 H kvs bk
 ok:fZ bk
 ho:H ow=ih (.dK (gx own))
 l8:line.length<=8
theorem LB.same{a b:Up}{kvs:am (List Key×V)}{bk:Bk}{own:Own}(h:LB H a b ow line kvs bk own)(S:aB H H'):LB H' a b ow line kvs bk own:=⟨S _ _ h.hl,S _ _ h.hd,h.dv.same S,h.ok,S _ _ h.ho,h.l8⟩
inductive rE(vs:List V)(H:Hp)(Q:VK)(E:XK):Prop
 |mk{la db ow:Up}{line:List Gv}{kvs:List (List Key×V)}{bk:Bk}{own:Own}{name:Gv}(_:vs=[.ref la,.ref db,.ref ow,.str name])(_:LB H la db ow line kvs bk own)
  (_:∀r H',aB H H'->H' r=ih (.lst ((iY ⟨line,bk,own⟩ name).map V.str))->Q (.ref r) H'):rE vs H Q E
noncomputable abbrev wc:List Gv:=["_law_line_here","_law_book","_law_own","_law_name"]
noncomputable abbrev EY:List Gv:=["_law_line_here","_law_book","_law_own","_law_name","_law_spot_here","_law_found","_law_turn","_law_steps_here"]
theorem jQ:bp EY wc (aH nW):=bw
abbrev Rf:Vc:=PH (ft (cw (uH (cw (qd (cw (bB nW) 3)) 0)) 1))
theorem Et:bY EY (aH nW) ["_law_step"] [none] (cI Rf):=c8
theorem Om(F:aQ K "_law_leads" "_law_leads" nW f fd)(B:dW mg)(zl:bV P w K mg base aI 1 fS dS v9 oy "_law_spot")(zw:bV P w K mg base aI 1 fL dL ["_law_entry"] mG "_law_steps"):aT P w K mg base aI 2 f fd wc rE:=by
 refine F.bG jQ λQa A outer s H vs Q E xm h=>?_
 ·obtain @⟨S,ze,ow,line,kvs,bk,own,name,rfl,I,q⟩:=h
  have xc:a' 1 _:=xm;have ym:=xm.units;have xq:=eQ ym;intro X;refine⟨_,ax (ba 4 jQ.nd (bA zl xc (aa (pv 0) (aa (pv 1) (aa (pv 3) (aa bu ai))))))
   (ax (ba 5 jQ.nd (kO ai))
   (ax (bE (PW.pt (pw_and (g7 (jE xq (pv 3) (pv 2))) (pw_and1 (PW.pt (pw_or (bJ iV (pv 4) ez (bS _)) (pw_or1 (bJ kr (aS bD (aS bD (pv 4) aw) aw) (kO (aa bu (aa bu ai))) rfl)))))))
    (aF (a9 (pv 5))) bZ)
   (ax (fk eL rfl (iK rfl B.range (aa (cu h7 rfl B.len gK (aa (pv 0) ai)) ai)) (br 6 jQ.nd)
    (aF (bE (g7 (Cu (pv 4)))
     (ax (ba 7 jQ.nd (bA zw xc (aa (aS bD (pv 4) aw) ai)))
     (ax (ba 5 jQ.nd (bO qq (pv 5) (dB rfl Et (dt (pv 7)) (λs H fp=>⟨br 0 Et.nd,h9 (bJ ei (aS (jw K rfl) (pv 0) aw) bu (bS _)),aS (jw K rfl) (pv 0) aw (λ_ _=>rfl)⟩))))
     (aF (bE (bJ (Df ym) (b6 (aa bu ai)) (pv 7) rfl) (aF (ba 4 jQ.nd (bA zl xc (aa (pv 0) (aa (pv 1) (aa (pv 3) (aa (aS bD (pv 4) aw) ai)))))))
      (aF (ba 4 jQ.nd ez))))))
     bZ)))
   (aF (a9 (pv 5)))))),?_⟩
  generalize xf:(⟨line,bk,own⟩:aW)=W at q;have yf:W.line=line:=by rw[<-xf]
  have eB:W.bk=bk:=by rw[<-xf]
  have xx:W.own=own:=by rw[<-xf]
  have lk:∀b,W.look (name,b)=c4 bk name (c9 line b):=λb=>by unfold aW.look;rw[eB,yf]
  have yc:∀b wh d,W.look (name,b)=ih (wh,d)->Ent d/\wh∈line:=λb wh d e=>⟨by rw[lk]at e;exact(l7 I.ok wh d e).2,by rw[<-yf];exact qi e⟩
  refine iR λU j=>?_;intro g zf;refine ek rfl rfl rfl (oy.mk rfl I.hl I.hd I.dv I.ok (.inl rfl) λv Y yx xg=>?_);rw[<-lk]at xg;refine cp j λU j=>?_;intro g zf;refine⟨bx _,λlf H2 yg _ yq=>?_⟩;have zi:=yx.trans yg;have xj:=I.same zi;refine cp j λU j=>?_;intro g zf;refine PF (JA rfl rfl rfl (W:=W) (a:=(name,"")) (by rw[xx];exact xj.ho) (eJ.same xg yg) λwh d e=>(yc _ wh d e).1) λzg T=>?_
  have yj:=zi.trans T;have yi:=T _ _ yq;have zj:=xj.same T
  by_cases J:(W.own.lookup name).isSome=true/\W.fz (name,"")=true
  ·rw[ay (by rw[J.1,J.2];rfl)]
   obtain⟨z,zx⟩:=wq.mp J.1;have xh:W.dJ (name,"")=ih z:=by unfold aW.dJ;rw[ay ⟨rfl,J.2⟩,zx]
   exact af rfl (q lf zg yj (by unfold iY;rw[xh];exact yi))
  rw[aq (λz=>J (by rw[hZ]at z;exact z))]
  have xh:W.dJ (name,"")=none:=by
   unfold aW.dJ
   by_cases xa:W.fz (name,"")=true
   ·rw[ay ⟨rfl,xa⟩]
    cases e:W.own.lookup name with
    |none=>rfl
    |some z=>exact absurd ⟨by rw[e];rfl,xa⟩ J
   ·rw[aq (λz=>xa z.2)]
  have zq:iY W name=gp W name line.length (W.look (name,"")):=by unfold iY;rw[xh,aq (by simp),yf]
  rw[zq]at q;refine cp j λU j=>?_;intro g zf;have zB:=I.l8;refine⟨_,rfl,S,_,rfl,.inl (au.of zj.hl),_,rfl,by omega,by rw[aE];omega,lR (λi σ G=>∃(lf:Up) (fs:am Gv) (k:a2 (Gv×UH)) (n:V) (yh zh:a2 V),σ=[bd S,bd ze,bd ow,ih (.str name),ih n,bd lf,yh,zh]/\aB zg G/\G lf=ce (fs.map V.str)/\eJ G n k/\(∀wh d,k=ih (wh,d)->Ent d/\wh∈line)/\fs++gp W name (line.length - i) k=gp W name line.length (W.look (name,""))/\fs.length<=4 * i)
   ⟨lf,[],_,v,none,none,rfl,aB.refl _,yi,(eJ.same xg yg).same T,yc "",rfl,bx _⟩ ?_ ?_⟩
  ·rintro i σ G hi ⟨lf,fs,k,n,yh,zh,rfl,N,ya,oc,zm,l,xy⟩
   refine jx ?_;intro g xC;have yB:i<line.length:=by rw[aE]at hi;have:YA ((line.length:Nat):Int)=line.length:=gI _;rw[this]at hi;exact hi
   have xr:=zj.same N;cases k with
   |none =>
    have oc:n=V.aO:=oc;subst oc;refine a4 rfl rfl ?_;refine cA (λz=>absurd z (by decide)) (λ_=>?_)
    exact⟨lf,fs,none,_,_,_,rfl,N,ya,rfl,λwh d e=>(by cases e),by rw[AS]at l⊢;exact l,by omega⟩
   |some p =>
    obtain⟨wh,d⟩:=p;obtain⟨xn,yr⟩:=zm wh d rfl;obtain⟨t,u,rfl,yn,yy⟩:=oc;obtain⟨zc,zr⟩:=tN xn;have zy:line.length - i=(line.length - (i+1))+1:=by omega
    rw[zy,Au]at l;refine a4 rfl rfl ?_;refine cA (λ_=>?_) (λz=>absurd (by rw[d4 (by intro z;cases z)];rfl) z)
    refine iR λU j=>?_;intro g xz;refine af rfl (bf yn dG (mG.mk rfl xn yy λzn us yz zz xd yd=>?_));refine cp j λU j=>?_;intro g xz;have xt:=bK.length yd;refine a4 rfl rfl ⟨zn,rfl,⟨_,au.of xd⟩,λc xo=>?_⟩;refine eW (xs:=us) (λm ys g r=>∃xi:a2 V,g=[xi]/\aB yz r/\r c=ce ys/\ys=((((bM d).take m).filter λs=>decide (a3 s = "ask")).map eI).map V.str) ⟨none,rfl,gL xo,ah,rfl⟩ (λm ys g r ab=>by obtain⟨_,_,z1,z2,_⟩:=ab;exact ⟨z2,au.of (z1 _ _ xd)⟩) ?_ ?_
    ·rintro m y ys g r yo ⟨xi,rfl,C,D,rfl⟩
     have xk:=(bR.mp yo).1;obtain⟨za,zd,xA⟩:=bK.get (bK.same yd C) yo;have yt:m<(bM d).length:=(bR.mp zd).1;have xp:dc za:=zc za (di zd);obtain⟨yC,xs,rfl,xe,_,zt,_⟩:=qg xp xA;have yk:(bM d).take (m+1)=(bM d).take m++[za]:=by rw[fV yt,(bR.mp zd).2]
     refine af rfl (bf xe b4 ⟨rfl,_,rfl,?_⟩);have a5:(((bM d).take m).filter λs=>decide (a3 s = "ask")).length<=4:=et (gm _ _) (by rw[cz];omega)
     by_cases e:a3 za = "ask"
     ·refine ite_tt (by rw[e];rfl) ?_
      have ex:=zt e;rw[ex]at xe;refine af rfl (bf xe dG ⟨D,by rw[aE,aE,aX];omega,cw_next xk ⟨_,rfl,λb o e=>by rw[ag (aA e xo)];exact C _ _ e,ah,?_⟩⟩)
      rw[yk,f7,jq,ay (cc e),oZ,bc,bc];rfl
     ·refine ite_ff (d4 λz=>e (by injection z)) ?_
      refine cw_next xk (af rfl ⟨C,D,?_⟩);rw[yk,f7,jq,aq (by simp[e]),oZ,ee]
    ·rintro ys g r ⟨xi,rfl,C,D,rfl⟩
     rw[xt,cM]at D;have a5:(hC d).length<=4:=by unfold hC;rw[aE];exact et (gm _ _) zr
     have D:r c=ce ((hC d).map V.str):=D;have zk:=zz.trans C;refine⟨lf,c,_,_,rfl,rfl,zk _ _ ya,D,by rw[aE,aE,aX];omega,λO xu=>?_⟩
     rw[<-bc];have xb:=gL (o:=.lst ((fs++hC d).map V.str)) xu;have xl:upd r O (.lst ((fs++hC d).map V.str)) O=ce ((fs++hC d).map V.str):=ah;generalize upd r O (.lst ((fs++hC d).map V.str))=zC at xb xl⊢;have yu:=zk.trans xb;have yp:=(C.trans xb) _ _ xd;have zp:=bK.same yd (C.trans xb);refine i4 j ?_;intro g;refine⟨eo,λxa zo yb _ zu=>af rfl ⟨iq,bM d,.tup zu (.cons (.str _) .nil),.inl (.lst (yb _ _ yp) (bK.same zp yb)),by decide +kernel,(Cb zc).1,by decide +kernel,_,rfl,?_⟩⟩
     rw[aq b9];have ye:=yu.trans yb;have R:=xr.same ye;have xv:=ye _ _ yn;have yv:((bM d).any λy=>XA y iq)=k8 d:=by
      unfold k8;exact any_congr λs yA=>Ma (zc s yA)
     rw[yv];have yl:∀(L:V) (M:a2 (Gv×UH)) (x:Hp),aB zo x->eJ x L M->(∀wh d,M=ih (wh,d)->Ent d/\wh∈line)->M=(if k8 d=true then W.look (name,wh) else none) ->∃(lf:Up) (fs:am Gv) (k:a2 (Gv×UH)) (n:V) (zv xw:a2 V),[bd S,bd ze,bd ow,ih (.str name),ih L,bd O,ih (V.int (0+(i:Int))),bd zn]=[ih (V.ref S),bd ze,bd ow,ih (.str name),ih n,bd lf,zv,xw]/\aB zg x/\x lf=ce (fs.map V.str)/\eJ x n k/\(∀wh d,k=ih (wh,d)->Ent d/\wh∈line)/\fs++gp W name (line.length - (i+1)) k=gp W name line.length (W.look (name,""))/\fs.length<=4 * (i+1):=λL M x zb o' zA yw=>⟨O,fs++hC d,M,L,_,_,rfl,N.trans (ye.trans zb),(yb.trans zb) _ _ xl,o',zA,by rw[yw,lD];exact l,by rw[cL];omega⟩
     refine cA (λc=>?_) (λc=>?_)
     ·refine i3 rfl rfl rfl rfl (bf xv b4 (oy.mk rfl R.hl R.hd R.dv R.ok (.inr yr) λL x zb o'=>?_))
      rw[<-lk]at o';exact yl L _ x zb o' (yc wh) (by rw[ay c])
     ·exact yl .aO none zo (aB.refl _) rfl (λwh d e=>(by cases e)) (by rw[aq c])
  ·rintro σ G ⟨lf,fs,k,n,yh,zh,rfl,N,ya,oc,zm,l,xy⟩
   have xB:YA (((line.map V.str).length:Nat):Int)=line.length:=by rw[aE];exact gI _
   rw[xB,Nat.sub_self]at l;have l:fs++[]=_:=l;rw[ee]at l;refine i4 j ?_;intro g;exact af rfl (q lf G (yj.trans N) (by rw[<-l];exact ya))
abbrev cq:=Gv×Gv×UH×Int
def gy(n:Gv):UH:=.tuple [.str "ask",.str n]
def e9(z:Int):List UH->Int->Int
 |[],t=>t
 |d::ds,t=>e9 z ds (if a3 d = "add" then t+hJ d else if a3 d = "times" then t * hJ d else t+z)
theorem nY{d:UH}{ds:am UH}{t:Int}:e9 z (d::ds) t=e9 z ds (if a3 d = "add" then t+hJ d else if a3 d = "times" then t * hJ d else t+z):=rfl
structure Rg(l:UH)(ds:List UH):Prop where
 al:∀d∈ds,a3 d = "add" \/ a3 d = "times" \/ d=l
 gE:l∈ds
inductive gW(line:List Gv):List cq->Prop
 |one {k n:Gv}{d:UH}{z:Int} (hk:line[line.length - 1]?=ih k) (hd:bM d=[.tuple [.str "add",.int z]]):gW line [(k,n,d,z)]
 |on {k k' n:Gv}{d d':UH}{s':Int}{j:Nat}{l:List cq} (h:gW line ((k',n,d',s')::l)) (hj:line[j]?=ih k) (VA:line[j+1]?=ih k') (r:Rg iq (bM d)):gW line ((k,n,d,e9 s' (bM d) 0)::(k',n,d',s')::l)
 |ask {k k' n n':Gv}{d d':UH}{s':Int}{l:List cq} (h:gW line ((k',n',d',s')::l)) (hk:line[line.length - 1]?=ih k) (VB:line[0]?=ih k') (r:Rg (gy n') (bM d)):gW line ((k,n,d,e9 s' (bM d) 0)::(k',n',d',s')::l)
def gX(line:List Gv)(k:Gv):Gv:=match line.idxOf k with
 |0 => ""
 |j+1=>(line[j]?).getD ""
theorem uK(a:line.Nodup){k:Gv}(h:line[j]?=ih k):line.idxOf k=j:=by
 obtain⟨b,rfl⟩:=bR.mp h;exact a.idxOf_getElem j b
theorem oh(a:line.Nodup){k:Gv}(h:line[0]?=ih k):gX line k = "" :=by unfold gX;rw[uK a h]
theorem qL(b:line.Nodup){k a:Gv}(h:line[j]?=ih k)(h':line[j+1]?=ih a):gX line a=k:=by unfold gX;rw[uK b h'];show(line[j]?).getD "" = k;rw[h];rfl
theorem Mb(a:line.Nodup)(ne:∀k∈line,k ≠ ""){k:Gv}(c:k∈line):c9 line (gX line k)=line.drop (line.idxOf k):=by
 have hi:=Vs c;have b:line[line.idxOf k]?=ih k:=by rw[bz hi,GY]
 generalize line.idxOf k=j at hi b;cases j with
 |zero=>rw[oh a b];rfl
 |succ j =>
  have d:line[j]?=ih (line[j]'(by omega)):=bz (by omega)
  rw[qL a d b];unfold c9;rw[aq (ne _ (gj _)),a.idxOf_getElem]
section
variable{W:aW}
theorem l2(b:W.line.Nodup)(ne:∀k∈W.line,k ≠ ""){k:Gv}{d:UH}(a:k∈W.line)(h:cU W.bk k n=ih d):W.look (n,gX W.line k)=ih (k,d):=by
 show c4 W.bk n (c9 W.line (gX W.line k))=_;have hi:=Vs a;have e:W.line[W.line.idxOf k]=k:=GY ..;rw[Mb b ne a,lF hi,e];exact ui h
theorem Cn(h:W.own=[])(a:Ask):W.dJ a=none:=by
 unfold aW.dJ;rw[h];split <;> rfl
theorem pX{w:Gv}{d:UH}(h:a3 d = "add" \/ a3 d = "times"):W.need n w d=none:=by
 have a:("add" : Gv)≠ "ask" :=by decide +kernel
 have b:("add" : Gv)≠ "onward" :=by decide +kernel
 have c:("times" : Gv)≠ "ask" :=by decide +kernel
 have e:("times" : Gv)≠ "onward" :=by decide +kernel
 unfold aW.need;rcases h with h|h <;> rw[h]
 ·rw[aq a,aq b]
 ·rw[aq c,aq e]
theorem qk{f:Ask->Option Rs}{a:Ask}{w:Gv}{d:UH}(b:W.own=[])(c:W.look a=ih (w,d)):W.dw f a=W.ec f a.1 w (bM d) 0:=by
 unfold aW.dw;rw[Cn b,c]
theorem M0{l:UH}(a:a3 l = "ask" \/ a3 l = "onward"):a3 l ≠ "add" /\ a3 l ≠ "times" :=by
 rcases a with h|h <;> rw[h] <;> decide +kernel
theorem tO{f:Ask->Option Rs}{n w:Gv}{l:UH}{b:Ask}{z:Int}(c:a3 l = "ask" \/ a3 l = "onward")(g:W.need n w l=ih b)(i:f b=ih (.told z)):∀{ds:am UH}{t:Int},(∀d∈ds,a3 d = "add" \/ a3 d = "times" \/ d=l)->W.ec f n w ds t=ih (.told (e9 z ds t))
 |[],t,_=>rfl
 |d::ds,t,h=>by
  have a:=λt=>tO c g i (ds:=ds) (t:=t) λx k=>h x (a7 _ k);have m:("times" : Gv)≠ "add" :=by decide +kernel
  rcases h d aV with e|e|rfl
  ·rw[mq (pX (.inl e)),a];unfold stepT;rw[nY,ay e,ay e]
  ·have j:a3 d ≠ "add" :=by rw[e];exact m
   rw[mq (pX (.inr e)),a];unfold stepT;rw[nY,aq j,ay e,aq j,ay e]
  ·obtain⟨e1,e2⟩:=M0 c
   rw[jA g,i];show W.ec f n w ds (t+z)=_;rw[a,nY,aq e1,aq e2]
theorem tf{f:Ask->Option Rs}{n w:Gv}{l:UH}{b:Ask}(i:a3 l = "ask" \/ a3 l = "onward")(a:W.need n w l=ih b)(c:f b=none):∀{ds:am UH}{t:Int},(∀d∈ds,a3 d = "add" \/ a3 d = "times" \/ d=l)->l∈ds->W.ec f n w ds t=none
 |[],t,_,h=>by cases h
 |d::ds,t,h,j=>by
  by_cases e:d=l
  ·rw[e,jA a,c]
  ·have g:l∈ds:=(bj.mp j).resolve_left (aP e)
   have k:a3 d = "add" \/ a3 d = "times" :=by
    rcases h d aV with z|z|z
    ·exact .inl z
    ·exact .inr z
    ·exact absurd z e
   rw[mq (pX k)];exact tf i a c (λx m=>h x (a7 _ m)) g
theorem Co{w m:Gv}:W.need n w (gy m)=ih (m,("" : Gv)):=by
 unfold aW.need;exact ay (show a3 (gy m) = "ask" from rfl)
theorem Cp{w:Gv}(h:(W.look (n,w)).isSome=true):W.need n w iq=ih (n,w):=by
 unfold aW.need;rw[aq (show ¬ a3 iq = "ask" by show ¬ ("onward" : Gv) = "ask"; decide +kernel),ay (show a3 iq = "onward" from rfl),ay h]
theorem Mc(b:W.line.Nodup)(ne:∀k∈W.line,k ≠ "")(s:W.own=[]){bs:am cq}(h:gW W.line bs):(∀x∈bs,cU W.bk x.1 x.2.1=ih x.2.2.1) ->∀x∈bs,W.Out (x.2.1,gX W.line x.1) (.told x.2.2.2):=by
 generalize e:W.line=line at h
 induction h with
 |@one k n d z t B =>
  intro c x i;rw[bX.mp i];have f:=l2 b ne (e ▸ di t) (c (k,n,d,z) aV);refine⟨1,?_⟩;show W.dw (W.out 0) _=_;rw[<-e,qk s f,B,mq (pX (.inl rfl))];show ih (Rs.told (stepT 0 _))=ih (Rs.told z);unfold stepT;rw[ay (show a3 (.tuple [.str "add",.int z]) = "add" from rfl)];show ih (Rs.told (0+z))=_;rw[Int.zero_add]
 |@on k g n d p s' j l C w v r a =>
  intro c x i;have a:=a λy u=>c y (a7 _ u);rcases bj.mp i with z|z
  ·rw[z]
   have f:=l2 b ne (e ▸ di w) (c (k,n,d,_) aV);have q:=l2 b ne (e ▸ di v) (c (g,n,p,s') (a7 _ aV));rw[e]at b f q;obtain⟨m,o⟩:=a (g,n,p,s') aV;rw[show gX line g=k from qL b w v]at o q;refine⟨m+1,?_⟩;show W.dw (W.out m) _=_;rw[qk s f];exact tO (.inr rfl) (Cp (by show(W.look (n,k)).isSome=true;rw[q];rfl)) o r.al
  ·exact a x z
 |@ask k g n D d p s' l C t A r a =>
  intro c x i;have a:=a λy u=>c y (a7 _ u);rcases bj.mp i with z|z
  ·rw[z]
   have f:=l2 b ne (e ▸ di t) (c (k,n,d,_) aV);rw[e]at b f;obtain⟨m,o⟩:=a (g,D,p,s') aV;rw[show gX line g = "" from oh b A]at o;refine⟨m+1,?_⟩;show W.dw (W.out m) _=_;rw[qk s f];exact tO (.inl rfl) Co o r.al
  ·exact a x z
def Nx(line:List Gv)(x y:cq):Prop:=(x.2.1=y.2.1 /\∃j,line[j]?=ih x.1/\line[j+1]?=ih y.1/\Rg iq (bM x.2.2.1))\/(line[0]?=ih y.1/\Rg (gy y.2.1) (bM x.2.2.1))
theorem KU{bs:am cq}(h:gW line bs):∀x∈bs,(∃y∈bs,Nx line x y)\/bs.getLast?=ih x:=by
 induction h with
 |one _ _=>exact λx a=>.inr (by rw[bX.mp a];rfl)
 |@on k b n d c s' j l _ o i r f =>
  intro x a;rcases bj.mp a with z|z
  ·exact .inl ⟨(b,n,c,s'),by simp,.inl (by rw[z];exact⟨rfl,j,o,i,r⟩)⟩
  ·rcases f x z with⟨y,g,e⟩|e
   ·exact .inl ⟨y,a7 _ g,e⟩
   ·exact .inr (by rw[Vt];exact e)
 |@ask k b n p d c s' l _ q m r f =>
  intro x a;rcases bj.mp a with z|z
  ·exact .inl ⟨(b,p,c,s'),by simp,.inr (by rw[z];exact⟨m,r⟩)⟩
  ·rcases f x z with⟨y,g,e⟩|e
   ·exact .inl ⟨y,a7 _ g,e⟩
   ·exact .inr (by rw[Vt];exact e)
theorem BC(a:W.line.Nodup)(ne:∀k∈W.line,k ≠ "")(h:W.own=[]){bs:am cq}(hi:∀x∈bs,x.1∈W.line)(c:∀x∈bs,cU W.bk x.1 x.2.1=ih x.2.2.1)(i:∀x∈bs,∃y∈bs,Nx W.line x y):∀(k:Nat),∀x∈bs,W.out k (x.2.1,gX W.line x.1)=none
 |0,_,_=>rfl
 |k+1,x,d=>by
  have n:=l2 a ne (hi x d) (c x d);obtain⟨y,f,l⟩:=i x d;have g:=l2 a ne (hi y f) (c y f);have b:=BC a ne h hi c i k y f;show W.dw (W.out k) _=_;rw[qk h n];rcases l with⟨e,j,o,m,r⟩|⟨h0,r⟩
  ·rw[qL a o m,<-e]at b g
   exact tf (.inr rfl) (Cp (by show(W.look (x.2.1,x.1)).isSome=true;rw[g];rfl)) b r.al r.gE
  ·rw[oh a h0]at b
   exact tf (.inl rfl) Co b r.al r.gE
end
inductive rF(vs:List V)(H:Hp)(Q:VK)(E:XK):Prop
 |mk{p:Up}{v:V}{st:UH}(_:vs=[.ref p,v])(_:ej p H)(_:dc st)(_:Rep H v st)
  (_:∀t us ds H',bL p H H'->H' t=ih (.tup us)->bK H' us ds->(∀d∈ds,dc d)->ds.length<=4->Rg st ds->Q (.ref t) H'):rF vs H Q E
noncomputable abbrev we:List Gv:=["_law_pot_here","_law_step"]
noncomputable abbrev Rh:List Gv:=["_law_pot_here","_law_step","_law_way","_law_last","_law_times"]
theorem rG:bp Rh we (aH uW):=bw
theorem Oo(F:aQ K "_law_rung" "_law_rung" uW f fd)
  (C:bV P w K mg base aI 1 fD dD ["_law_pot_here","_law_many"] iS "_law_digit")
  (U:bV P w K mg base aI 2 fN dN ["_law_pot_here"] mx "_law_number"):aT P w K mg base aI 3 f fd we rF:=by
 refine F.bG rG λQa A outer s H vs Q E V h=>?_
 ·obtain @⟨p,v,st,rfl,D,i,W,q⟩:=h
  have y:a' 2 _:=V;have B:a' 1 _:=y.mono (by decide)
  intro X;refine⟨_,ax (ba 2 rG.nd (bA C B (aa (pv 0) (aa aw ai))))
   (ax (ba 3 rG.nd (b6 (aa bu (aa (bA U y (aa (pv 0) ai)) ai))))
   (ax (ba 4 rG.nd (b6 (aa bu (aa (bO jD (bA C B (aa (pv 0) (aa aw ai))) aw) ai))))
   (ax (bE (bJ ei (pv 2) aw (bS _)) (aF (a9 (b6 (aa (pv 1) (aa (pv 1) (aa (pv 1) (aa (pv 1) ai))))))) bZ)
   (ax (bE (bJ ei (pv 2) aw (bS _)) (aF (a9 (b6 (aa (pv 1) (aa (pv 1) (aa (pv 4) (aa (pv 3) ai))))))) bZ)
   (ax (bE (bJ ei (pv 2) aw (bS _)) (aF (a9 (b6 (aa (pv 3) (aa (pv 4) (aa (pv 1) ai)))))) bZ)
   (aF (a9 (b6 (aa (pv 4) (aa (pv 1) (aa (pv 3) (aa (pv 1) ai)))))))))))),?_⟩
  refine af rfl (eX (p:=p) (m:=4) D (by decide) (by decide) λzb Y xc yc g=>?_)
  have N:=i.keep W (kG D g);refine af rfl (mx.mk rfl g.ok λn H2 xa p2=>⟨bF,λtl zc G _ O=>?_⟩);have R:=(i.keep N (kG g.ok p2)).same G;have k:=(g.trans p2).trans (dz (g.trans p2).ok G);refine af rfl (eX (p:=p) (m:=19) k.ok (by decide) (by decide) λm xd b0 b1 p4=>⟨_,_,rfl,rfl,bF,λya l o _ T=>?_⟩)
  have M:=kG k.ok p4 _ _ O;have a:=(i.keep R (kG k.ok p4)).same o;have I:=k.trans p4;have J:=I.trans (dz I.ok o);have rl:Rep l (.ref tl) (.tuple [.str "add",.int n]):=.tup (o _ _ M) (.cons (.str _) (.cons (.int _) .nil));have u:Rep l (.ref ya) (.tuple [.str "times",.int (m - 9)]):=.tup T (.cons (.str _) (.cons (.int _) .nil));have sl:dc (.tuple [.str "add",.int n]):=.add n xa;have za:dc (.tuple [.str "times",.int (m - 9)]):=.times _ (by omega) (by omega)
  have j:∀{t us ds b},aB l b->b t=bn us->bK l us ds->(∀d∈ds,d=st\/d=.tuple [.str "add",.int n]\/d=.tuple [.str "times",.int (m - 9)])->ds.length<=4->st∈ds->Q (.ref t) b:=λ{t us ds b} S h r L xb yb=>q t us ds b (J.trans (dz J.ok S)) h (bK.same r S) (λd x=>by
   rcases L d x with z|z|z
   ·rw[z];exact i
   ·rw[z];exact sl
   ·rw[z];exact za) xb ⟨λd x=>by
   rcases L d x with z|z|z
   ·exact .inr (.inr z)
   ·exact .inl (by rw[z];rfl)
   ·exact .inr (.inl (by rw[z];rfl)),yb⟩
  refine af rfl ⟨rfl,_,rfl,?_⟩;refine cA (λ_=>?_) (λ_=>?_)
  ·refine i3 rfl rfl rfl rfl ⟨by show 4<=Us;rw[aX];decide,λt b c _ e=>j c e (.cons a (.cons a (.cons a (.cons a .nil)))) ?_ (by show 4<=4;decide) aV⟩
   simp
  refine af rfl ⟨rfl,_,rfl,?_⟩;refine cA (λ_=>?_) (λ_=>?_)
  ·refine i3 rfl rfl rfl rfl ⟨by show 4<=Us;rw[aX];decide,λt b c _ e=>j c e (.cons a (.cons a (.cons u (.cons rl .nil)))) ?_ (by show 4<=4;decide) aV⟩
   simp
  refine af rfl ⟨rfl,_,rfl,?_⟩;refine cA (λ_=>?_) (λ_=>?_)
  ·refine ek rfl rfl rfl ⟨gC,λt b c _ e=>j c e (.cons rl (.cons u (.cons a .nil))) ?_ (by show 3<=4;decide) (by simp)⟩
   simp
  ·refine i3 rfl rfl rfl rfl ⟨by show 4<=Us;rw[aX];decide,λt b c _ e=>j c e (.cons u (.cons a (.cons rl (.cons a .nil)))) ?_ (by show 4<=4;decide) (by simp)⟩
   simp
inductive rH(vs:List V)(H:Hp)(Q:VK)(E:XK):Prop
 |mk{r:Up}{us:List V}{ds:List UH}{z:Int}(_:vs=[.ref r,.int z])(_:H r=ih (.lst us))(_:bK H us ds)(_:∀d∈ds,dc d)
  (_:Q (.int (e9 z ds 0)) H):rH vs H Q E
noncomputable abbrev wg:List Gv:=["_law_steps_here","_law_behind"]
noncomputable abbrev Ri:List Gv:=["_law_steps_here","_law_behind","_law_total","_law_step"]
theorem mH:bp Ri wg (aH vz):=bw
theorem Oq(F:aQ K "_law_sum" "_law_sum" vz f fd):aT P w K mg base aI 1 f fd wg rH:=by
 refine F.bG mH λQa A outer s H vs Q E y h=>?_
 ·obtain @⟨r,us,ds,z,rfl,k,rs,m,q⟩:=h
  intro X;refine⟨_,ax (ba 2 mH.nd aw)
   (ax (fk eL rfl (dt (pv 0)) (br 3 mH.nd)
    (aF (bE (bJ ei (aS bD (pv 3) aw) bu (bS _)) (aF (ba 2 mH.nd (bO fK (pv 2) (aS bD (pv 3) aw))))
     (aF (bE (bJ ei (aS bD (pv 3) aw) bu (bS _)) (aF (ba 2 mH.nd (bO nP (pv 2) (aS bD (pv 3) aw))))
      (aF (ba 2 mH.nd (bO fK (pv 2) (pv 1)))))))))
   (aF (a9 (pv 2)))),?_⟩
  have n:=bK.length rs;refine⟨_,rfl,r,rfl,⟨_,au.of k⟩,jv (xs:=us) (λi σ G=>∃(t:Int) (j:a2 V),σ=[bd r,ih (.int z),ih (.int t),j]/\G=H/\e9 z (ds.drop i) t=e9 z ds 0)
   ⟨0,none,rfl,rfl,rfl⟩ (λi σ G _ ⟨_,_,_,e,_⟩=>by rw[e];exact au.of k) ?_ ?_⟩
  ·rintro i x σ G o ⟨t,j,rfl,rfl,e⟩
   refine jx ?_;intro B C;obtain⟨d,l,p⟩:=bK.get rs o;obtain⟨hi,u⟩:=bR.mp l;have st:=m d (di l);obtain⟨a,xs,rfl,g,h1,h2,v⟩:=qg st p;rw[lF hi,u]at e;rw[nY]at e;refine af rfl (bf g b4 ⟨rfl,_,rfl,?_⟩);refine cA (λc=>?_) (λc=>?_)
   ·have c:a3 d = "add" :=by
     have:=eg c;injection this
    obtain rfl:=h1 (.inl c);rw[ay c]at e;exact a4 rfl rfl (bf g dG ⟨_,_,rfl,rfl,_,_,rfl,rfl,e⟩)
   ·have c : ¬ a3 d = "add" :=λz=>c (by rw[z];exact cc rfl)
    rw[aq c]at e;refine af rfl (bf g b4 ⟨rfl,_,rfl,?_⟩);refine cA (λb=>?_) (λb=>?_)
    ·have b:a3 d = "times" :=by
      have:=eg b;injection this
     obtain rfl:=h1 (.inr b);have D:=v b;rw[ay b]at e;exact a4 rfl rfl (bf g dG ⟨_,_,rfl,rfl,.inr ⟨by omega,by omega⟩,_,_,rfl,rfl,e⟩)
    ·have b : ¬ a3 d = "times" :=λz=>b (by rw[z];exact cc rfl)
     rw[aq b]at e;exact a4 rfl rfl ⟨_,_,rfl,rfl,_,_,rfl,rfl,e⟩
  ·rintro σ G ⟨t,j,rfl,rfl,e⟩
   rw[n,w8]at e;exact af rfl (by rw[show t=e9 z ds 0 from e];exact q)
inductive oz(vs:List V)(H:Hp)(Q:VK)(E:XK):Prop
 |mk{db:Up}{kvs:List (List Key×V)}{oG:Bk}(_:vs=[.ref db])(_:H db=ih (.dT kvs))(_:b7 H kvs oG)(_:fZ oG)
  (_:∀r wb bk H',aB H H'->H' r=ih (.tup wb)->cO H' wb bk->bk.Perm oG->Q (.ref r) H'):oz vs H Q E
theorem PK:bp ["_law_book"] ["_law_book"] (aH nD):=bw
abbrev Rj:Vc:=fu (fu (kW (cw (bB nD) 0)))
theorem rJ:bY ["_law_book"] (aH nD) ["_law_kind","_law_name","_law_entry"] [none,none,none] (cI Rj):=c8
theorem Ot(F:aQ K "_law_triples" "_law_triples" nD f fd)(B:dW mg)(xi:hI mg):aT P w K mg base aI 1 f fd ["_law_book"] oz:=by
 refine F.bG PK λQa A outer s H vs Q E zl h=>?_
 ·obtain @⟨d,kvs,t,rfl,v,dv,ok,q⟩:=h
  intro X;refine⟨_,aF (a9 (LG (dY j' rfl B.tuple boot_tuple (aa (cu sA rfl xi.sorted boot_sorted (aa (dB rfl rJ (Jo (pv 0)) (λs H fp=>⟨pT (n:=2) K rfl rfl (dq (pT (n:=2) K rfl rfl (dq (br 0 rJ.nd) (dq (br 1 rJ.nd) gM))) (dq (br 2 rJ.nd) gM)),eh,cN (aa (pv 0) (aa (pv 1) (aa (pv 2) ai)))⟩)) ai)) ai)))),?_⟩;have lk:=dv.length;have a5:=ok.a5;refine af rfl ⟨d,kvs,rfl,v,λm c O=>?_⟩;have M:∀b u,b≠d->H b=ih u->upd H d (.bT m (.dT kvs)) b=ih u:=λb u n e=>by rw[ag n];exact e
  have L:upd H d (.bT m (.dT kvs)) d=ih (.bT m (.dT kvs)):=ah;have xb:b7 (upd H d (.bT m (.dT kvs))) kvs t:=dv.keep (λb xs e=>M _ _ (ar e v) e) ok.ent
  generalize upd H d (.bT m (.dT kvs))=yi at M L xb O⊢;refine HP (λi ys y a=>∃R S T:a2 V,y=[R,S,T]/\a c=ce ys/\aB yi a/\cO a ys (t.take i)) ⟨none,none,none,rfl,ah,aK O,.nil⟩ (λi ys y a ab=>by obtain⟨_,_,_,_,z1,z2,_⟩:=ab;exact ⟨z1,z2 _ _ L⟩) ?_ ?_
  ·rintro i j tp b ys y a yb zf C ⟨R,S,T,rfl,U,G,k⟩
   have xg:i<kvs.length:=(bR.mp yb).1;obtain⟨p,I,W,zi⟩:=L2.Paired.get (xb.same G) yb;have pm:=di I;have yg:t.take (i+1)=t.take i++[p]:=by rw[dX,I];rfl
   replace C:a b=bn [V.str p.1,V.str p.2.1]:=by rw[W]at C;exact C
   have J:=aK (o:=.tup [V.ref b,j.2]) zf;have xa:upd a tp (.tup [V.ref b,j.2]) tp=bn [V.ref b,j.2]:=ah;have zb:=J _ _ C;have xc:=zi.same J;generalize upd a tp (.tup [V.ref b,j.2])=xe at J xa zb xc⊢;refine⟨tp,_,rfl,aZ.of xa,rfl,_,_,rfl,b,_,rfl,aZ.of zb,rfl,_,_,rfl,_,_,rfl,rfl,_,_,rfl,rfl,?_⟩;refine ek rfl rfl rfl ⟨gC,λtt zg=>?_⟩;have l:=aK (o:=.tup [V.str p.1,V.str p.2.1,j.2]) zg;have ya:upd xe tt (.tup [V.str p.1,V.str p.2.1,j.2]) tt=bn [V.str p.1,V.str p.2.1,j.2]:=ah;have yc:=xc.same l;generalize upd xe tt (.tup [V.str p.1,V.str p.2.1,j.2])=r at l ya yc⊢;have N:=J.trans l;have zc:=N _ _ U;have up:∀{zs:am V} b xs,r b=bn xs->upd r c (.lst zs) b=bn xs:=λb xs e=>by rw[ag (ar e zc)];exact e
   refine⟨zc,?_,cw_next xg ⟨_,_,_,rfl,ah,λx u ye=>by rw[ag (aA ye O)];exact N _ _ (G x u ye),?_⟩⟩
   ·have:=k.length
    rw[cz]at this;rw[aX];omega
   ·rw[yg]
    exact cO.append (up _ _ ya) ((ok.ent p pm).keep yc up) (cO.keep up (cO.same N k) λq xj=>ok.ent q (o2 xj))
  ·rintro ys y a ⟨R,S,T,rfl,U,G,k⟩
   rw[lk,cM]at k;obtain⟨xh,yj,W⟩:=k.keyed;have xm:=k.length;refine⟨c,_,xh,2,rfl,.inl (au.of U),yj,by decide,by rw[W];exact ok.nd,by omega,λD g zk zj yf ym xl yl=>?_⟩
   obtain⟨yh,xd,xk⟩:=cO.perm yf k;have yk:=aK (o:=.lst g) zj;refine⟨D,g,rfl,.inl ⟨au.of ah,λtb zh=>?_⟩⟩;have l:=yk.trans (aK (o:=.tup g) zh);have za:upd (upd a D (.lst g)) tb (.tup g) tb=bn g:=ah;have ze:=cO.same l xk;generalize upd (upd a D (.lst g)) tb (.tup g)=r at l za ze⊢;have yd:=G.trans l;have zd:=yd _ _ L;refine⟨d,m,kvs,zd,(λo u z=>by cases v.symm.trans z),?_⟩
   have xf:∀b xs,r b=bn xs->upd r d (.dT kvs) b=bn xs:=λb xs e=>by rw[ag (ar e zd)];exact e
   refine q tb g yh _ (λb u e=>?_) (xf _ _ za) (cO.keep xf ze λp I=>ok.ent p (xd.mem_iff.mp I)) xd
   by_cases Y:b=d
   ·subst Y;rw[v]at e;cases e;exact ah
   ·rw[ag Y];exact yd _ _ (M _ _ Y e)
def hV(x:cq):Gv×Gv×UH:=(x.1,x.2.1,x.2.2.1)
def ky(x:cq):Gv×Gv:=(x.1,x.2.1)
def dy(a:Gv×Gv):List Key:=[F3 a.1,F3 a.2]
def jd(cs:List cq):List (List Key×V):=cs.map λx=>(dy (ky x),V.int x.2.2.2)
theorem C2{a b:Gv×Gv}(h:dy a=dy b):a=b:=by
 injection h with h1 h2;injection h2 with c _;exact lA (gH h1) (gH c)
theorem Cq{a:Gv×Gv}:∀{cs:am cq},a ∉ cs.map ky->bo (jd cs) (dy a)=none
 |[],_=>rfl
 |x::cs,h=>by
  rw[bU,bj,oV]at h;exact(ew λz=>h.1 (C2 z).symm).trans (Cq h.2)
theorem C3{x:cq}:∀{cs:am cq},(cs.map ky).Nodup->x∈cs->bo (jd cs) (dy (ky x))=ih (.int x.2.2.2)
 |y::cs,a,h=>by
  rw[bU,dM]at a;rcases bj.mp h with z|z
  ·rw[z];exact fG rfl
  ·exact(ew λe=>a.1 (by rw[C2 e];exact aY.mpr ⟨x,z,rfl⟩)).trans (C3 a.2 z)
theorem Md{cs:am cq}{a:Gv×Gv}(h:a ∉ cs.map ky) : [a.1,a.2]∉ (cs.map hV).map bC:=λz=>by
 rw[gJ]at z;obtain⟨x,b,e⟩:=aY.mp z;have e1:x.1=a.1:=by injection e
 have e2:x.2.1=a.2:=by injection e with _ z;injection z
 exact h (aY.mpr ⟨x,b,lA e1 e2⟩)
inductive Hr(line rl:List Gv)(G:Hp)(hv:V)(bh:Int)(n:Gv)(j:Nat):List cq->Prop
 |nil {t:Up} (_:hv=.ref t) (_:G t=ih (.tup [])) (_:bh.natAbs<=10 ^ 18):Hr line rl G hv bh n j []
 |on {x:cq}{l:List cq} (_:Rep G hv iq) (_:n=x.2.1) (_:rl[j - 1]?=ih x.1) (_:0<j) (_:bh=x.2.2.2):Hr line rl G hv bh n j (l++[x])
 |ask {x:cq}{l:List cq} (_:Rep G hv (gy x.2.1)) (_:j=0) (_:line[0]?=ih x.1) (_:bh=x.2.2.2):Hr line rl G hv bh n j (l++[x])
theorem Hr.keep{f:Hp}{cs:am cq}(h:Hr line rl G hv bh n j cs)(k:∀b xs,G b=bn xs->f b=bn xs)(g:∀x∈cs,Nm x.2.1):Hr line rl f hv bh n j cs:=by
 cases h with
 |nil e h1 h2=>exact .nil e (k _ _ h1) h2
 |on r a b c d=>exact .on (dc.mj.keep r k) a b c d
 |@ask x l r a b c=>exact .ask ((dc.ask _ (g x (by simp))).keep r k) a b c
theorem Hr.tup{line rl:am Gv}{G:Hp}{hv:V}{bh:Int}{n:Gv}{j:Nat}{cs:am cq}(h:Hr line rl G hv bh n j cs):∃a xs,hv=.ref a/\G a=bn xs/\(xs=[] ↔ cs=[]):=by
 cases h with
 |nil e h1 _=>exact⟨_,[],e,h1,by simp⟩
 |on r _ _ _ _ =>
  obtain⟨a,vs,e,b,rs⟩:=r.tupI;obtain⟨c,d,rfl,_,_⟩:=rs.eG;exact⟨a,_,e,b,by simp⟩
 |ask r _ _ _ =>
  obtain⟨a,vs,e,b,rs⟩:=r.tupI;obtain⟨c,d,rfl,_,_⟩:=rs.eG;exact⟨a,_,e,b,by simp⟩
theorem Hr.low{cs:am cq}(h:Hr line rl G hv bh n j cs)(e:cs=[]):bh.natAbs<=10 ^ 18:=by
 cases h with
 |nil _ _ b=>exact b
 |on=>simp at e
 |ask=>simp at e
theorem KW{cs:am cq}{x:cq}:jd (cs++[x])=jd cs++[(dy (ky x),V.int x.2.2.2)]:=by unfold jd;rw[bc];rfl
theorem Hr.next{k:Gv}{cs:am cq}(h:Hr line line.reverse G hv bh n j cs)(q:cs ≠ [])(ch:gW line cs.reverse)(g:line.reverse[j]?=ih k)(t:∀x∈cs,x.2.1∈ns)(u:∀x∈ns,Nm x):∃st,dc st/\Rep G hv st/\(a3 st = "ask" -> eI st∈ns) /\∀d,Rg st (bM d)->gW line ((k,n,d,e9 bh (bM d) 0)::cs.reverse):=by
 have s:j<line.length:=by have:=(bR.mp g).1;rwa [jl]at this
 rw[o5 s]at g;cases h with
 |nil=>exact absurd rfl q
 |@on x l r a b c e =>
  rw[Aa]at ch⊢;rw[o5 (by omega),show line.length - 1 - (j - 1)=(line.length - 1 - j)+1 by omega]at b
  obtain⟨m,f,o,s'⟩:=x;have a:n=f:=a;have e:bh=s':=e;subst a e;exact⟨iq,.mj,r,λz=>absurd z (by show ¬ ("onward" : Gv) = "ask"; decide +kernel),λd i=>.on ch g b i⟩
 |@ask x l r a b c =>
  rw[Aa]at ch⊢;subst a;obtain⟨m,f,o,s'⟩:=x;have c:bh=s':=c;subst c;have p:f∈ns:=t (m,f,o,bh) (by simp)
  exact⟨gy f,.ask _ (u _ p),r,λ_=>p,λd i=>.ask ch g b i⟩
structure RI(H:Hp)(p db ds:Up)(line ns:List Gv)(pre:List (Gv×Gv))(cs:List cq)(kvs:List (List Key×V))(G:Hp):Prop where
 pa:bL p H G
 hd:G db=ih (.dT kvs)
 dv:b7 G kvs (cs.map hV)
 hs:G ds=ih (.dT (jd cs))
 ch:cs=[]\/gW line cs.reverse
 ks:cs.map ky=pre
 en:∀x∈cs,Ent x.2.2.1
 ak:∀x∈cs,∀s∈bM x.2.2.1,a3 s = "ask" -> eI s∈ns
 nm:∀x∈cs,x.2.1∈ns
theorem RI.step{c:Hp}{d ds:Up}{pre:am (Gv×Gv)}{cs:am cq}{kvs:am (List Key×V)}(h:RI H p d ds line ns pre cs kvs G)(a:bL p G c)(e:d≠p)(f:ds≠p):RI H p d ds line ns pre cs kvs c:=by
 have g:∀b xs,G b=bn xs->c b=bn xs:=kG h.pa.ok a;exact⟨h.pa.trans a,a.kp _ _ h.hd e,h.dv.keep g (λq i=>by obtain⟨x,j,rfl⟩:=aY.mp i;exact h.en x j),a.kp _ _ h.hs f,h.ch,h.ks,h.en,h.ak,h.nm⟩
inductive rK(vs:List V)(H:Hp)(Q:VK)(E:XK):Prop
 |mk{p la ln:Up}{line ns:List Gv}(_:vs=[.ref p,.ref la,.ref ln])(_:ej p H)(_:hU H la line)(_:hU H ln ns)(_:line.length<=8)(_:ns.length<=6)
  (_:∀r db ds kvs cs H',H' r=ih (.tup [.ref db,.ref ds])->H db=none->H ds=none->db≠ds->RI H p db ds line ns ((ns.reverse.flatMap λn=>line.reverse.map λk=>(k,n))) cs kvs H'->cs ≠ []->Q (.ref r) H'):rK vs H Q E
noncomputable abbrev wj:List Gv:=["_law_pot_here","_law_line_here","_law_names_here"]
noncomputable abbrev Rk:List Gv:=["_law_pot_here","_law_line_here","_law_names_here","_law_book","_law_sums","_law_behind","_law_here","_law_name","_law_kind","_law_entry"]
theorem hO:bp Rk wj (aH uD):=bw
theorem Ou{fR:Up}{yU:Xt}(F:aQ K "_law_rungs" "_law_rungs" uD f fd)(B:dW mg)
  (zU:bV P w K mg base aI 1 fD dD ["_law_pot_here","_law_many"] iS "_law_digit")
  (xV:bV P w K mg base aI 2 fN dN ["_law_pot_here"] mx "_law_number")
  (yV:bV P w K mg base aI 3 fR dR we rF "_law_rung")
  (zV:bV P w K mg base aI 1 fL dL ["_law_entry"] mG "_law_steps")
  (xW:bV P w K mg base aI 1 fM yU wg rH "_law_sum"):aT P w K mg base aI 4 f fd wj rK:=by
 refine F.bG hO λQa A outer s H vs Q E zj h=>?_
 ·obtain @⟨p,xk,yk,line,ns,rfl,zk,yu,zc,yW,x4,q⟩:=h
  have xn:a' 3 _:=zj;have zM:a' 2 _:=xn.mono (by decide)
  have yn:a' 1 _:=xn.mono (by decide)
  have zG:=zj.units;have yA:=eQ zG;intro X;refine⟨_,ax (uq (i:=3) (j:=4) rfl hO.nd rfl rfl (by decide) rfl rfl (aa pI (aa pI ai)) rfl)
   (ax (ba 5 hO.nd (bA xV zM (aa (pv 0) ai)))
   (ax (ba 6 hO.nd (b6 ai))
   (ax (fk eL rfl (dt (uy (pv 2))) (br 7 hO.nd)
    (ax (fk eL rfl (dt (uy (pv 1))) (br 8 hO.nd)
     (ax (ba 9 hO.nd (b6 (aa bu (aa (pv 5) ai))))
     (ax (bE (bJ (LL zG) (pv 6) (b6 ai) (bS _)) (aF (ba 9 hO.nd (b6 (aa (aS ck (kO (aa bu (aa bu ai))) (bA zU yn (aa (pv 0) (aa aw ai)))) (aa (bA yV xn (aa (pv 0) (aa (pv 6) ai))) ai))))) bZ)
     (ax (gO yA (pv 3) (b6 (aa (pv 8) (aa (pv 7) ai))) (pv 9) rfl)
     (ax (ba 5 hO.nd (bA xW yn (aa (bA zV yn (aa (pv 9) ai)) (aa (pv 5) ai))))
     (ax (gO yA (pv 4) (b6 (aa (pv 8) (aa (pv 7) ai))) (pv 5) rfl)
     (aF (ba 6 hO.nd (b6 (aa bu ai))))))))))
    (aF (ba 6 hO.nd (b6 (aa bu (aa (pv 7) ai)))))))
   (aF (a9 (b6 (aa (pv 3) (aa (pv 4) ai)))))))),?_⟩
  refine iR λU D=>?_;intro I zu;intro g xi ds ze;refine⟨_,_,rfl,?_⟩;have yi:g≠ds:=aA ah ze;have zA:p≠g:=zk.ne xi;have xl:=(bL.refl zk).new (o:=.dT []) xi;have xB:p≠ds:=xl.ok.ne ze;have zf:=xl.new (o:=.dT []) ze;have yB:H ds=none:=xl.free ze;have zn:upd (upd H g (.dT [])) ds (.dT []) g=ev []:=by rw[ag yi];exact ah
  have xo:upd (upd H g (.dT [])) ds (.dT []) ds=ev []:=ah;generalize upd (upd H g (.dT [])) ds (.dT [])=Y at zf zn xo⊢;clear xl ze;have xa:g≠p:=aP zA;have kd:ds≠p:=aP xB;refine cp D λU D=>?_;intro I zu;refine af rfl (mx.mk rfl zf.ok λz H2 zW p2=>?_);refine cp D λU D=>?_;intro I zu;refine⟨bx _,λxX xv J _ zB=>?_⟩;have yv:=(zf.trans p2).trans (dz (zf.trans p2).ok J);have yo:RI H p g ds line ns [] [] [] xv:=⟨yv,J _ _ (p2.kp _ _ zn xa),.nil,J _ _ (p2.kp _ _ xo kd),.inl rfl,rfl,λx C=>(by cases C),λx C=>(by cases C),λx C=>(by cases C)⟩
  refine cp D λU D=>?_;intro I zu;refine af rfl ⟨yk,_,rfl,au.of (zc.lx zk yv).hl,λxb O=>?_⟩;rw[<-GZ];have yb:=aK (o:=.lst (ns.reverse.map V.str)) O;have N:upd xv xb (.lst (ns.reverse.map V.str)) xb=ce (ns.reverse.map V.str):=ah;have yd:=yo.step (dz yo.pa.ok yb) xa kd;have xC:=yb _ _ zB;generalize upd xv xb (.lst (ns.reverse.map V.str))=y4 at yd N xC⊢;clear yb O yo zB yv J zf p2 zn xo;have zi:line.reverse ≠ []:=λz=>yu.ne (Ab.mp z);have xN:line.reverse.Nodup:=(o6 _).nodup_iff.mpr yu.nd;have yN:ns.reverse.Nodup:=(o6 _).nodup_iff.mpr zc.nd;have a5:∀{i:Nat}{cs:am cq}{m:am (Gv×Gv)},i<ns.reverse.length->m.length<=line.length->cs.map ky=((ns.reverse.take i).flatMap λn=>line.reverse.map λk=>(k,n))++m->cs.length<=48:=λ{i cs m} hi yl e=>by
   have e1:=c6 Yf e;rw[aE,cL]at e1;have e2:((ns.reverse.take i).flatMap λn=>line.reverse.map λk=>(k,n)).length=(ns.reverse.take i).length * line.length:=by
    generalize ns.reverse.take i=us
    induction us with
    |nil=>simp
    |cons u us yX=>rw[o3,cL,yX,aE,jl,cS,sj];omega
   rw[e2,cz]at e1;rw[jl]at hi e1;have h1:(min i ns.length+1) * line.length<=6 * 8:=z' (by omega) yW
   rw[sj]at h1;omega
  refine⟨xb,rfl,⟨_,au.of N⟩,jv (xs:=ns.reverse.map V.str) (λi σ G=>∃(kvs:am (List Key×V)) (cs:am cq) (bh:Int) (hv:V) (zv zb xc:a2 V),σ=[bd p,bd xk,bd yk,bd g,bd ds,ih (.int bh),ih hv,zv,zb,xc]/\RI H p g ds line ns ((ns.reverse.take i).flatMap λn=>line.reverse.map λk=>(k,n)) cs kvs G/\G xb=ce (ns.reverse.map V.str)/\Hr line line.reverse G hv bh "" 0 cs)
   ⟨[],[],z,.ref xX,none,none,none,rfl,yd,N,.nil rfl xC zW⟩ (λi σ G _ ab=>by obtain⟨_,_,_,_,_,_,_,_,_,z,_⟩:=ab;exact au.of z) ?_ ?_⟩
  ·rintro i x σ G C ⟨kvs,cs,bh,hv,zv,zb,xc,rfl,v,O,ya⟩
   refine jx ?_;intro I z4;have xf:i<ns.reverse.length:=by simpa using (bR.mp C).1
   obtain rfl:V.str ns.reverse[i]=x:=by rw[dQ,bz xf]at C;exact cZ C
   have yy:ns.reverse[i]∉ ns.reverse.take i:=by
    have:(ns.reverse.take (i+1)).Nodup:=yN.sublist (iD _ _);rw[fV xf]at this;exact λz=>(eu.mp this).2.2 _ z _ aV rfl
   have yC:ns.reverse[i]∈ns:=jr.mp (gj xf);have xw:((ns.reverse.take (i+1)).flatMap λn=>line.reverse.map λk=>(k,n))=((ns.reverse.take i).flatMap λn=>line.reverse.map λk=>(k,n))++line.reverse.map λk=>(k,ns.reverse[i]):=by
    rw[fV xf,o4,o3,List.flatMap_nil,ee]
   have a5:=λ{cs m}=>a5 (cs:=cs) (m:=m) xf;have yw:∀{k:Gv},(k,ns.reverse[i])∉ (ns.reverse.take i).flatMap λn=>line.reverse.map λk=>(k,n):=λ{k} yl=>by
    obtain⟨zX,zN,zo⟩:=lL.mp yl;obtain⟨xH,_,e⟩:=aY.mp zo;have e2:zX=ns.reverse[i]:=by injection e
    exact yy (e2 ▸ zN)
   generalize ((ns.reverse.take i).flatMap λn=>line.reverse.map λk=>(k,n))=yH at v a5 yw xw;generalize ns.reverse[i]=n at yC yy a5 yw xw⊢;refine iR λU D=>?_;intro I x5;refine af rfl ⟨xk,_,rfl,au.of (yu.lx zk v.pa).hl,λyc zd=>?_⟩;rw[<-GZ];have yb:=aK (o:=.lst (line.reverse.map V.str)) zd;have za:upd G yc (.lst (line.reverse.map V.str)) yc=ce (line.reverse.map V.str):=ah;have yd:=v.step (dz v.pa.ok yb) xa kd;have N:=yb _ _ O;have xp:Hr line line.reverse (upd G yc (.lst (line.reverse.map V.str))) hv bh n 0 cs:=by
    have xO:=ya.keep (λb xs e=>yb b _ e) λx C=>zc.nm _ (v.nm x C);cases xO with
    |nil a b c=>exact .nil a b c
    |on _ _ _ c _=>exact absurd c (iA 0)
    |ask a b c d=>exact .ask a b c d
   generalize upd G yc (.lst (line.reverse.map V.str))=zH at yd za N xp⊢;clear yb zd v O ya;refine⟨yc,rfl,⟨_,au.of za⟩,jv (xs:=line.reverse.map V.str) (λj σ G=>∃(kvs:am (List Key×V)) (cs:am cq) (bh:Int) (hv:V) (zb xc:a2 V),σ=[bd p,bd xk,bd yk,bd g,bd ds,ih (.int bh),ih hv,ih (.str n),zb,xc]/\RI H p g ds line ns (yH++(line.reverse.take j).map λk=>(k,n)) cs kvs G/\G xb=ce (ns.reverse.map V.str)/\G yc=ce (line.reverse.map V.str)/\Hr line line.reverse G hv bh n j cs)
    ⟨kvs,cs,bh,hv,zb,xc,rfl,by rw[List.take_zero,lC,ee];exact yd,N,za,xp⟩ (λj σ G _ ab=>by obtain⟨_,_,_,_,_,_,_,_,_,z,_⟩:=ab;exact au.of z) ?_ ?_⟩
   ·clear yd N za xp
    rintro j y σ G zw ⟨kvs,cs,bh,hv,zb,xc,rfl,v,O,zd,ya⟩;refine jx ?_;intro I y5;have xe:j<line.reverse.length:=by simpa using (bR.mp zw).1
    obtain rfl:V.str line.reverse[j]=y:=by rw[dQ,bz xe]at zw;exact cZ zw
    have yf:line.reverse[j]?=ih line.reverse[j]:=bz xe;have yO:line.reverse[j]∉ line.reverse.take j:=by
     have:(line.reverse.take (j+1)).Nodup:=xN.sublist (iD _ _);rw[fV xe]at this;exact λz=>(eu.mp this).2.2 _ z _ aV rfl
    have z5:=a5 (cs:=cs) (by rw[aE,cz,jl];omega) v.ks
    have yp:(line.reverse[j],n)∉ cs.map ky:=by
     rw[v.ks,cj,oV];refine⟨yw,λyl=>?_⟩;obtain⟨xH,zo,e⟩:=aY.mp yl;have e2:xH=line.reverse[j]:=by injection e
     exact yO (e2 ▸ zo)
    have xI:(line.reverse.take (j+1)).map (λk=>(k,n))=(line.reverse.take j).map (λk=>(k,n))++[(line.reverse[j],n)]:=by rw[fV xe,bc];rfl
    have xY:cs=[]->j=0:=λe=>by
     have:=v.ks;rw[e,lC]at this;have:=(G0.mp this.symm).2;rw[Ac,List.take_eq_nil_iff]at this;exact this.resolve_right zi
    generalize line.reverse[j]=k at yf yp xI⊢;refine iR λU D=>?_;intro I zl;refine af rfl ⟨bF,λte xx T _ zC=>?_⟩;have xj:=v.step (dz v.pa.ok T) xa kd;have zp:=ya.keep (λb xs e=>T b _ e) λx C=>zc.nm _ (v.nm x C);have zy:=T _ _ O;have xz:=T _ _ zd;clear v ya O zd;refine cp D λU D=>?_;intro I zl;obtain⟨yI,xs,rfl,xD,xq⟩:=zp.tup;refine af rfl ⟨bx _,λyY x6 xd _ yD=>⟨yI,yY,xs,rfl,rfl,xd _ _ xD,yD,_,rfl,?_⟩⟩;have R:=xj.step (dz xj.pa.ok xd) xa kd;have yq:=zp.keep (λb xs e=>xd b _ e) λx C=>zc.nm _ (xj.nm x C);have yh:=xd _ _ zy;have zh:=xd _ _ xz;have yz:=xd _ _ zC;clear xj zp zy xz zC xD T xd yD;refine u7 (λzD H'=>∃(d:UH) (te:Up),zD=[bd p,bd xk,bd yk,bd g,bd ds,ih (.int bh),bd yI,ih (.str n),ih (.str k),bd te]/\RI H p g ds line ns (yH++(line.reverse.take j).map λk=>(k,n)) cs kvs H'/\H' xb=ce (ns.reverse.map V.str)/\H' yc=ce (line.reverse.map V.str)/\Rep H' (.ref te) d/\Ent d/\(∀s∈bM d,a3 s = "ask" -> eI s∈ns)/\gW line ((k,n,d,e9 bh (bM d) 0)::cs.reverse)) (λe kk=>?_) (λe=>?_) ?_
    ·have fc:cs ≠ []:=λz=>by rw[xq.mpr z]at e;cases e
     obtain⟨st,xE,zO,xP,yP⟩:=yq.next fc (R.ch.resolve_left fc) yf R.nm zc.nm;refine⟨bF,λc M J _ zI=>af rfl (eX (p:=p) (m:=2) (dz R.pa.ok J).ok (by decide) (by decide) λzY zH x0 y6 p4=>?_)⟩
     have yx:=(dz R.pa.ok J).trans p4;have xL:=xE.keep zO (kG R.pa.ok yx);have zP:=p4.kp _ _ zI (iO (xs:=["behind","shut"]) (dz R.pa.ok J).ok zI);obtain⟨tg,xQ,yQ⟩:∃tg:Gv,(tg = "behind" \/ tg = "shut")/\cB [V.str "behind",V.str "shut"] zY=ih (V.str tg):=by
      obtain⟨j,rfl⟩:=m1 x0;have y0:j=0\/j=1:=by omega
      rcases y0 with rfl|rfl
      ·exact⟨"behind",.inl rfl,cF rfl⟩
      ·exact⟨"shut",.inr rfl,cF rfl⟩
     refine fe zP yQ (a4 rfl rfl (rF.mk rfl yx.ok xE xL λt us zq z0 p5 zQ xr yE xJ yJ=>⟨bF,λxR xg yg _ yL=>?_⟩));have zg:=yx.trans (p5.trans (dz p5.ok yg));refine kk _ _ ⟨.tuple [.str tg,.tuple zq],xR,rfl,R.step zg xa kd,zg.kp _ _ yh (iO R.pa.ok yh),zg.kp _ _ zh (iO R.pa.ok zh),.tup yL (.cons (.str _) (.cons (.tup (yg _ _ zQ) (bK.same xr yg)) .nil)),?_,λs zx xm=>?_,yP _ yJ⟩
     ·rcases xQ with rfl|rfl
      ·exact .behind zq xJ yE
      ·exact .jM zq xJ yE
     ·rcases yJ.al s zx with z|z|z
      ·rw[xm]at z;exact absurd z (by decide +kernel)
      ·rw[xm]at z;exact absurd z (by decide +kernel)
      ·rw[z]at xm⊢;exact xP xm
    ·have zJ:cs=[]:=xq.mp (by cases xs with|nil=>rfl|cons a b=>exact absurd rfl e)
     have x1:=xY zJ;subst zJ x1;have y1:=yq.low rfl;refine⟨.tuple [.str "plain",.int bh],te,rfl,R,yh,zh,.tup yz (.cons (.str _) (.cons (.int _) .nil)),.plain bh y1,λs zx=>?_,?_⟩
     ·rw[bX.mp zx];exact λz=>absurd z (by show ¬ ("add" : Gv) = "ask"; decide +kernel)
     ·have es:e9 bh (bM (.tuple [.str "plain",.int bh])) 0=bh:=by
       show e9 bh [.tuple [.str "add",.int bh]] 0=bh;rw[nY,ay (show a3 (.tuple [.str "add",.int bh]) = "add" from rfl)];show(0:Int)+bh=bh;omega
      rw[es];exact .one (by rw[o5 (by rw[jl]at xe;exact xe)]at yf;exact yf) rfl
    rintro zD z6 ⟨d,L,rfl,yr,zz,xA,xK,xh,z1,yR⟩;clear R yq yh zh yz xq;refine cp D λU D=>?_;intro I zl;refine i3 rfl rfl rfl rfl ⟨bF,λx2 M J _ zE=>?_⟩;have xF:M x2=bn (([F3 k,F3 n]:am Key).map kV):=zE;have S:=yr.step (dz yr.pa.ok J) xa kd;have yF:bo kvs [F3 k,F3 n]=none:=by
     rcases S.dv.val (k:=k) (n:=n) with⟨z,_⟩|⟨x7,y7,_,z2,_⟩
     ·exact z
     ·exact absurd (aY.mpr ⟨_,z2,rfl⟩) (Md yp)
    have y2:=S.dv.length;rw[aE]at y2;refine⟨g,_,rfl,eP.t (k:=[F3 k,F3 n]) S.hd xF (by rw[aX];omega),?_⟩
    rw[kB _ yF];have zF:=xK.same J;have ym:=J _ _ zz;have zm:=J _ _ xA;have zr:∀{zs:am (List Key×V)} b xs,M b=bn xs->upd M g (.dT zs) b=bn xs:=λb xs e=>by rw[ag (ar e S.hd)];exact e
    have xG:∀q∈cs.map hV++[(k,n,d)],Ent q.2.2:=λq xy=>by
     rcases cj.mp xy with z|z
     ·obtain⟨x,C,rfl⟩:=aY.mp z;exact S.en x C
     ·rw[bX.mp z];exact xh
    have xt:bL p H (upd M g (.dT (kvs++[([F3 k,F3 n],V.ref L)]))):=S.pa.write xi zA;have yt:upd M g (.dT (kvs++[([F3 k,F3 n],V.ref L)])) g=ev (kvs++[([F3 k,F3 n],V.ref L)]):=ah;have yG:upd M g (.dT (kvs++[([F3 k,F3 n],V.ref L)])) ds=ev (jd cs):=by rw[ag (aP yi)];exact S.hs
    have zt:Rep (upd M g (.dT (kvs++[([F3 k,F3 n],V.ref L)]))) (.ref L) d:=xh.keep zF zr;have xu:b7 (upd M g (.dT (kvs++[([F3 k,F3 n],V.ref L)]))) (kvs++[([F3 k,F3 n],V.ref L)]) (cs.map hV++[(k,n,d)]):=b7.snoc zt (S.dv.keep zr λq xy=>xG q (gY _ xy));have N:upd M g (.dT (kvs++[([F3 k,F3 n],V.ref L)])) xb=ce (ns.reverse.map V.str):=by rw[ag (ar ym S.hd)];exact ym
    have za:upd M g (.dT (kvs++[([F3 k,F3 n],V.ref L)])) yc=ce (line.reverse.map V.str):=by rw[ag (ar zm S.hd)];exact zm
    obtain⟨_,_,_,_,_,zR,xS,yS,zS⟩:=S;generalize upd M g (.dT (kvs++[([F3 k,F3 n],V.ref L)]))=zH at xt yt yG zt xu N za⊢;generalize kvs++[([F3 k,F3 n],V.ref L)]=zL at yt xu;clear yr zz xA xK zE xF zF ym zm zr J yF;refine cp D λU D=>?_;intro I zl;refine af rfl (mG.mk rfl xh zt λr us z0 x3 xT xr=>af rfl (rH.mk rfl xT xr (tN xh).1 ?_));refine cp D λU D=>?_;intro I zl;refine i3 rfl rfl rfl rfl ⟨bF,λyT xg yg _ xM=>?_⟩;have zT:xg yT=bn ((dy (k,n)).map kV):=xM;have W:=x3.trans yg;have yj:=W _ _ yG;refine⟨ds,_,rfl,eP.t (k:=dy (k,n)) yj zT (by unfold jd;rw[aE,aX];omega),?_⟩
    rw[kB _ (Cq yp)];have zg:=xt.trans (dz xt.ok W);have up:∀{zs:am (List Key×V)} b u,b≠ds->xg b=ih u->upd xg ds (.dT zs) b=ih u:=λb u e1 e=>by rw[ag e1];exact e
    have yK:bL p H (upd xg ds (.dT (jd cs++[(dy (k,n),V.int (e9 bh (bM d) 0))]))):=zg.write yB xB;refine i4 D ?_;intro I;refine⟨eo,λy3 z7 ye _ xU=>?_⟩;refine⟨zL,cs++[(k,n,d,e9 bh (bM d) 0)],e9 bh (bM d) 0,.ref y3,_,_,rfl,⟨yK.trans (dz yK.ok ye),ye _ _ (up _ _ yi (W _ _ yt)),?_,ye _ _ (by rw[KW];exact ah),.inr (by rw[Aa];exact yR),by rw[bc,zR,xI,lD];rfl,λx C=>?_,λx C=>?_,λx C=>?_⟩,ye _ _ (up _ _ (ar (W _ _ N) yj) (W _ _ N)),ye _ _ (up _ _ (ar (W _ _ za) yj) (W _ _ za)),.on (.tup xU (.cons (.str _) .nil)) rfl yf (Nat.succ_pos _) rfl⟩
    ·rw[bc]
     exact xu.keep (λb xs e=>ye _ _ (up _ _ (ar (W _ _ e) yj) (W _ _ e))) xG
    ·rcases cj.mp C with z|z
     ·exact xS x z
     ·rw[bX.mp z];exact xh
    ·rcases cj.mp C with z|z
     ·exact yS x z
     ·rw[bX.mp z];exact z1
    ·rcases cj.mp C with z|z
     ·exact zS x z
     ·rw[bX.mp z];exact yC
   ·rintro σ G ⟨kvs,cs,bh,hv,zb,xc,rfl,v,O,zd,ya⟩
    rw[aE]at v ya;rw[cM]at v;refine i4 D ?_;intro I;refine af rfl ⟨bF,λt xx T _ z3=>⟨kvs,cs,bh,.ref t,_,_,_,rfl,by rw[xw];exact v.step (dz v.pa.ok T) xa kd,T _ _ O,?_⟩⟩
    have yM:=oW.mpr zi;cases ya with
    |nil =>
     have:=v.ks;rw[lC]at this;exact absurd (Ac.mp (G0.mp this.symm).2) zi
    |@on x l _ a b c d =>
     subst a;exact .ask (.tup z3 (.cons (.str _) (.cons (.str _) .nil))) rfl (by rw[o5 (by rw[jl]at yM⊢;omega),jl,show line.length - 1 - (line.length - 1)=0 by omega]at b;exact b) d
    |ask _ a _ _=>exact absurd a (by omega)
  ·rintro σ G ⟨kvs,cs,bh,hv,zv,zb,xc,rfl,v,O,ya⟩
   rw[aE,cM]at v;refine i4 D ?_;intro I;refine a4 rfl rfl ⟨bF,λr xx T _ zj=>q r g ds kvs cs xx zj xi yB yi (v.step (dz v.pa.ok T) xa kd) λz=>?_⟩;have:=v.ks;rw[z,lC]at this;have h2:=c6 Yf this;cases zK:ns.reverse with
   |nil=>exact zc.ne (Ab.mp zK)
   |cons u us =>
    rw[zK,o3]at this;exact absurd (Ac.mp (G0.mp this.symm).1) zi
def f5(line:List Gv)(b:Gv):Nat:=if b = "" then 0 else line.idxOf b+1
theorem BD{W:aW}(c:W.line.Nodup){b:Gv}{d:UH}(h:W.look (n,b)=ih (wh,d))(ne:wh ≠ ""):f5 W.line b<f5 W.line wh/\f5 W.line wh<=W.line.length:=by
 have e:c9 W.line b=W.line.drop (f5 W.line b):=by unfold c9 f5;split <;> rfl
 have a:wh∈c9 W.line b:=(l6 h).1;rw[e]at a;obtain⟨i,hi,rfl⟩:=w4.mp a;rw[j7]at hi;have f:f5 W.line (W.line.drop (f5 W.line b))[i]=f5 W.line b+i+1:=by
  rw[show f5 W.line (W.line.drop (f5 W.line b))[i]=W.line.idxOf (W.line.drop (f5 W.line b))[i]+1 from aq ne,List.getElem_drop,c.idxOf_getElem]
 omega
section
variable{W:aW}
theorem AU{w:Gv}{d:UH}{b:Ask}(h:W.need n w d=ih b):(a3 d = "ask" /\ b=(eI d,("" : Gv)))\/(a3 d = "onward" /\ b=(n,w)):=by
 unfold aW.need at h
 by_cases c:a3 d = "ask"
 ·rw[ay c]at h;cases h;exact .inl ⟨c,rfl⟩
 ·rw[aq c]at h
  by_cases a:a3 d = "onward"
  ·rw[ay a]at h
   split at h
   ·cases h;exact .inr ⟨a,rfl⟩
   ·cases h
  ·rw[aq a]at h;cases h
theorem Cr{f:bb}(ok:bN W f){b:Ask}(h:gr W f=ih b):∃d s,W.look f.a=ih (f.w,d)/\s∈bM d/\W.need f.a.1 f.w s=ih b:=by
 obtain⟨s,ds,e1,e2⟩:=km h;obtain⟨_,d,pre,h2,c,_⟩:=ok.lk;exact⟨d,s,h2,by rw[c,e1];exact eV _ aV,e2⟩
theorem ju{a:Ask}{b:am Ask}:b8 (a::b)=if a.2 = "" then a.1::b8 b else b8 b:=by
 unfold b8;rw[jq]
 by_cases c:a.2 = ""
 ·rw[ay (cc c),ay c];rfl
 ·rw[aq (by simp[c]),aq c]
theorem tP{a bs:am Ask}:b8 (a++bs)=b8 a++b8 bs:=by unfold b8;rw[f7,bc]
theorem AV{f:bb}{l:am bb}{b:Ask}(c:Chain W (f::l) b):∃x,gr W f=ih x/\(l.map (·.a)++[b]).head?=ih x /\∀g d,l=g::d->Chain W (g::d) b:=by
 cases l with
 |nil=>exact⟨b,c,rfl,λ_ _ e=>(by cases e)⟩
 |cons g d=>exact⟨g.a,c.1,rfl,λ_ _ e=>by cases e;exact c.2⟩
theorem AW(m:W.line.Nodup)(ne:∀k∈W.line,k ≠ ""){b:Ask}{y:Gv}:∀{l:am bb}{f:bb}{k:Nat},(∀g∈f::l,bN W g)->Chain W (f::l) b->(b8 (l.map (·.a)++[b])).head?=ih y->W.line.length<=k+f5 W.line f.a.2->y∈gp W f.a.1 k (W.look f.a)
 |l,f,k,ok,c,h,B=>by
  obtain⟨x,u,i,cn⟩:=AV c;obtain⟨d,s,e1,e2,e3⟩:=Cr (ok f aV) u;have o:=qi e1;obtain⟨C,p2⟩:=BD m (n:=f.a.1) (b:=f.a.2) e1 (ne _ o);obtain⟨k,rfl⟩:∃v,k=v+1:=⟨k - 1,by omega⟩
  rw[e1,Au];rcases AU e3 with⟨t,rfl⟩|⟨t,rfl⟩
  ·refine gY _ ?_
   have:b8 (l.map (·.a)++[b])=eI s::b8 ((l.map (·.a)++[b]).drop 1):=by
    cases e:l.map (·.a)++[b] with
    |nil=>simp at e
    |cons z r=>rw[e]at i;cases i;rw[ju,ay rfl];rfl
   rw[this]at h;cases h
   exact aY.mpr ⟨s,er.mpr ⟨e2,cc t⟩,rfl⟩
  ·refine eV _ ?_
   rw[ay (show k8 d=true from lG.mpr ⟨s,e2,cc t⟩)];have p:=ne _ o;cases l with
   |nil =>
    cases i
    rw[show b8 (([]:am bb).map (·.a)++[(f.a.1,f.w)])=[] from by show b8 [(f.a.1,f.w)]=[];rw[ju,aq p];rfl]at h
    cases h
   |cons g q =>
    have j:g.a=(f.a.1,f.w):=cZ i;have:=AW m ne (l:=q) (f:=g) (k:=k) (b:=b) (y:=y) (λz A=>ok z (a7 _ A)) (cn g q rfl) (by
     rw[bU,wQ,ju,aq (by rw[j];exact p)]at h;exact h) (by rw[j];show _<=_+f5 W.line f.w;omega)
    rw[j]at this;exact this
theorem AX(j:W.line.Nodup)(ne:∀k∈W.line,k ≠ ""){b:Ask}:∀{l:am bb}{f:bb},(∀g∈f::l,bN W g)->Chain W (f::l) b->b8 (l.map (·.a)++[b])=[]->f5 W.line f.a.2<f5 W.line b.2
 |l,f,ok,c,h=>by
  obtain⟨x,u,i,cn⟩:=AV c;obtain⟨d,s,e1,e2,e3⟩:=Cr (ok f aV) u;have m:=qi e1;obtain⟨o,p2⟩:=BD j (n:=f.a.1) (b:=f.a.2) e1 (ne _ m);have:x=(f.a.1,f.w):=by
   rcases AU e3 with⟨t,rfl⟩|⟨t,rfl⟩
   ·cases e:l.map (·.a)++[b] with
    |nil=>simp at e
    |cons z r=>rw[e]at i h;cases i;rw[ju,ay rfl]at h;cases h
   ·rfl
  cases l with
  |nil=>cases i;rw[this];exact o
  |cons g p =>
   have q:g.a=(f.a.1,f.w):=by cases i;exact this
   have:=AX j ne (l:=p) (f:=g) (b:=b) (λz v=>ok z (a7 _ v)) (cn g p rfl) (by
    rw[bU,wQ,ju,aq (by rw[q];exact ne _ m)]at h;exact h)
   rw[q]at this;exact lE o this
theorem BE{b:Ask}:∀{l m:am bb}{c:Ask},Chain W l c->m.head?.map (·.a)=ih c->Chain W m b->Chain W (l++m) b
 |[],m,c,_,_,h=>h
 |[f],[],c,_,e,_=>by cases e
 |[f],g::m,c,h1,e,h2=>by cases e;exact⟨h1,h2⟩
 |f::g::l,m,c,h1,e,h2=>⟨h1.1,BE (l:=g::l) h1.2 e h2⟩
theorem sF(i:W.line.Nodup)(ne:∀k∈W.line,k ≠ ""){b:Ask}:∀{l:am bb}{k:Nat}{x y:Gv},(∀g∈l,bN W g)->Chain W l b->(b8 (l.map (·.a)))[k]?=ih x->(b8 (l.map (·.a)))[k+1]?=ih y->y∈iY W x
 |[],k,x,y,_,_,e,_=>by cases e
 |f::l,k,x,y,ok,c,ex,d=>by
  have m:Chain W l b:=by
   cases l with
   |nil=>trivial
   |cons g s=>exact c.2
  have j:∀g∈l,bN W g:=λz p=>ok z (a7 _ p);rw[bU,ju]at ex d
  by_cases h:f.a.2 = ""
  ·rw[ay h]at ex d
   cases k with
   |succ k=>exact sF i ne j m ex d
   |zero =>
    have ex:f.a.1=x:=by simpa using ex
    subst ex;have d:(b8 (l.map (·.a)))[0]?=ih y:=by simpa using d
    have q:(b8 (l.map (·.a)++[b])).head?=ih y:=by
     rw[tP];cases e:b8 (l.map (·.a)) with
     |nil=>rw[e]at d;cases d
     |cons z r=>rw[e]at d;simpa using d
    have:=AW i ne (k:=W.line.length) ok c q (ZW _ _);have n:f.a=(f.a.1,("" : Gv)):=by rw[<-h]
    have o:=(ok f aV).lk.1;rw[n]at o;unfold iY;rw[o,aq (by simp)]
    rw[n]at this;exact this
  ·rw[aq h]at ex d
   exact sF i ne j m ex d
theorem BF{n x:Gv}{c:am Gv}(d:∀p∈W.bk,∀s∈bM p.2.2,a3 s = "ask" -> eI s∈c):∀{k:Nat}{b:Gv},x∈gp W n k (W.look (n,b))->x∈c
 |0,_,h=>by cases h
 |k+1,b,h=>by
  cases e:W.look (n,b) with
  |none=>rw[e]at h;cases h
  |some p =>
   rw[e]at h;have h:x∈hC p.2++gp W n k (if k8 p.2=true then W.look (n,p.1) else none):=h;rcases cj.mp h with z|z
   ·obtain⟨s,a,rfl⟩:=aY.mp z
    obtain⟨a,f⟩:=er.mp a;exact d _ (m4 (l6 e).2) s a (eg f)
   ·split at z
    ·exact BF d z
    ·rw[AS]at z;cases z
structure u9(W:aW)(NS ns:List Gv):Prop where
 ne:ns ≠ []
 nd:ns.Nodup
 ld:∀k,k<ns.length ->∃x y,ns[k]?=ih x/\ns[(k+1) % ns.length]?=ih y/\y∈iY W x
 gE:∀n∈ns,n∈NS
theorem eN.is{a:Ask}{o:am Gv}(h:eN W a ns)(q:W.line.Nodup)(ne:∀k∈W.line,k ≠ "")(u:∀p∈W.bk,∀s∈bM p.2.2,a3 s = "ask" -> eI s∈o):u9 W o ns:=by
 obtain⟨_,fs,b,d,ok,c,v,rfl⟩:=h.core;cases fs with
 |nil=>cases d
 |cons f l =>
  have d:f.a=b:=by simpa using d
  have h1:b8 ((f::l).map (·.a))≠ []:=λz=>by
   have:=AX q ne ok c (by
    rw[tP];rw[bU,ju]at z
    by_cases e:f.a.2 = ""
    ·rw[ay e]at z;cases z
    ·rw[aq e]at z;rw[z,<-d,ju,aq e];rfl)
   rw[d]at this;exact iA _ this
  have h2:(b8 ((f::l).map (·.a))).Nodup:=by
   have w:(((f::l).map (·.a)).filter λa=>decide (a.2=("" : Gv))).Nodup:=v.filter _;refine Vg _ ?_ (aaM.mp w);rintro x y ⟨A,B,n⟩ e;have e1:=eg (er.mp A).2;have e2:=eg (er.mp B).2;exact n (lA e (e1.trans e2.symm))
  have C:Chain W ((f::l)++(f::l)) b:=BE c (by simp[d]) c
  have ld:∀k,k<(b8 ((f::l).map (·.a))).length ->∃x y,(b8 ((f::l).map (·.a)))[k]?=ih x/\(b8 ((f::l).map (·.a)))[(k+1) % (b8 ((f::l).map (·.a))).length]?=ih y/\y∈iY W x:=by
   have rl:=λ{k x y}=>sF q ne (l:=(f::l)++(f::l)) (k:=k) (x:=x) (y:=y) (λg D=>(cj.mp D).elim (ok g) (ok g)) C;rw[bc,tP]at rl;generalize b8 ((f::l).map (·.a))=ns at rl h1;intro k m;have E:(k+1) % ns.length<ns.length:=w0 _ (by omega)
   refine⟨ns[k],ns[(k+1) % ns.length],bz m,bz E,rl (k:=k) ?_ ?_⟩
   ·rw[F2 m,bz m]
   ·rcases Nat.lt_or_ge (k+1) ns.length with z|z
    ·rw[F2 z,bz z];congr 1;simp only[ZU z]
    ·have e:k+1=ns.length:=by omega
     have e2:(k+1) % ns.length=0:=by rw[e,Nat.mod_self]
     rw[UE z,show k+1 - ns.length=0 by omega,bz (by omega)]
     congr 1;simp only[e2]
  refine⟨h1,h2,ld,λn r=>?_⟩;generalize b8 ((f::l).map (·.a))=ns at h1 h2 ld r;obtain⟨i,hi,rfl⟩:=w4.mp r;have F:(i+(ns.length - 1)) % ns.length<ns.length:=w0 _ (by omega)
  obtain⟨x,y,_,t,j⟩:=ld ((i+(ns.length - 1)) % ns.length) F;have:((i+(ns.length - 1)) % ns.length+1) % ns.length=i:=by
   rw[Nat.mod_add_mod,show i+(ns.length - 1)+1=i+ns.length by omega,Nat.add_mod_right,ZU hi]
  rw[this,bz hi]at t;cases t
  unfold iY at j;split at j
  ·cases j
  ·exact BF u j
end
inductive rL(vs:List V)(H:Hp)(Q:VK)(E:XK):Prop
 |mk{la db ow t:Up}{line NS ns:List Gv}{kvs:List (List Key×V)}{bk:Bk}{own:Own}(_:vs=[.ref la,.ref db,.ref ow,.ref t])(_:LB H la db ow line kvs bk own)(_:H t=ih (.tup (ns.map V.str)))(_:u9 ⟨line,bk,own⟩ NS ns)(_:ns.length<=100)(_:∀n∈ns,Nm n)
  (_:∀H',aB H H'->Q (.bl true) H'):rL vs H Q E
noncomputable abbrev mQ:List Gv:=["_law_line_here","_law_book","_law_own","_law_names_here"]
theorem PL:bp mQ mQ (aH kC):=bw
abbrev PM:Vc:=fu (D9 (uI (DL (cw (bB kC) 0)) 2))
abbrev PN:Vc:=fu (kW (cw (bB kC) 2))
theorem DM:bY mQ (aH kC) ["_law_name"] [none] (cI PM):=c8
theorem DN:bY mQ (aH kC) ["_law_k","_law_names_here","_law_line_here","_law_book","_law_own"] [none,ih 3,ih 0,ih 1,ih 2] (cI PN):=c8
theorem Ov(F:aQ K "_law_is_round" "_law_is_round" kC f fd)(B:dW mg)(L:hI mg)(bs:mg "set" = none)(D:bV P w K mg base aI 2 fL dL wc rE "_law_leads"):aT P w K mg base aI 3 f fd mQ rL:=by
 refine F.bG PL λQa A outer s H vs Q E xb h=>?_
 ·obtain @⟨xf,yf,ow,t,line,zj,ns,kvs,bk,own,rfl,zf,j,M,yj,xg,q⟩:=h
  have yg:=xb.units;have yd:a' 2 _:=xb;intro X;refine⟨_,ax (bE (PW.pt (pw_or (g8 (gP (cu pH rfl L.rT pR (aa (pv 3) (aa (p0 (v:=.ty "tuple") rfl B.tuple boot_tuple rfl) ai)))))
    (pw_or (bJ (De yg) (pv 3) (b6 ai) (bS _))
    (pw_or1 (g8 (gP (cu (pA rfl) rfl B.all boot_all (aa (dB rfl DM (kH (pv 3)) (λs H fp=>⟨br 0 DM.nd,eh,cu (Io K rfl) rfl L.rT pR (aa (pv 0) (aa (p0 (v:=.ty "str") rfl L.str boot_str rfl) ai))⟩)) ai)))))))) (aF (a9 jG)) bZ)
   (ax (bE (bJ kM (cu HJ rfl B.len gK (aa (dY (B1 rfl) rfl bs Bz (aa (pv 3) ai)) ai)) (cu h7 rfl B.len gK (aa (pv 3) ai)) (bS _)) (aF (a9 jG)) bZ)
   (aF (a9 (cu (pA rfl) rfl B.all boot_all (aa (dB rfl DN (iK rfl B.range (aa (cu h7 rfl B.len gK (aa (pv 3) ai)) ai)) (λs H fp=>⟨br 0 DN.nd,eh,
    jy (CG K rfl) (aS (jw K rfl) (pv 1) (bO l' (bO fK (pv 0) aw) (cu (sI K rfl) rfl B.len gK (aa (pv 1) ai)))) (fJ D.G yd rfl D.m D.k D.b .nil c3 (aa (pv 2) (aa (pv 3) (aa (pv 4) (aa (aS (jw K rfl) (pv 1) (pv 0)) ai))))) rfl⟩)) ai))))),?_⟩
  have xd : ¬ ns=[]:=M.ne;have zd:(PyData.tuple (ns.map Vh)).canLay0=true:=pP xg;refine iR λU N=>?_;intro d zg;refine af rfl ⟨⟨_,.inr ⟨"tuple",rfl⟩⟩,.ref t,.ty "tuple",.type "tuple",.type "tuple",true,rfl,rfl,.inl (.tup j),rfl,true,rfl,?_⟩;refine af rfl ⟨bx _,λe Y O _ xh=>⟨.tuple (ns.map Vh),.tuple [],.tup (O _ _ j) (lZ _ _),.tup xh .nil,zd,rfl,by show Vr _+1<=60;rw[ph];decide,_,rfl,?_⟩⟩
  have e0:XA (.tuple (ns.map Vh)) (.tuple [])=false:=by
   show Ya _ (List.map Vh [])=false;rw[tJ];exact d4 xd
  rw[e0];have T:=O _ _ j;refine af rfl ⟨t,rfl,⟨_,aZ.of T⟩,λp yb=>?_⟩;refine lW (xs:=ns.map V.str) (λi ys d H2=>∃g:a2 V,d=[g]/\ys=(X9 i true).map V.bl/\aB Y H2/\H2 p=ce ys) ⟨none,rfl,rfl,gL yb,ah⟩ (λi ys d H2 ab=>by obtain⟨_,_,_,z,z2⟩:=ab;exact ⟨z2,aZ.of (z _ _ T)⟩) ?_ ?_
  ·rintro i x ys d H2 zb ⟨g,rfl,rfl,R,h2⟩
   have W:i<(ns.map V.str).length:=(bR.mp zb).1;have I:i<ns.length:=by simpa using W
   obtain rfl:V.str ns[i]=x:=by simpa [I] using zb
   refine af rfl ⟨⟨_,.inr ⟨"str",rfl⟩⟩,.str ns[i],.ty "str",.type "str",.type "str",true,rfl,rfl,.inl (.str _),rfl,h2,by rw[aE,wu,aX];omega,cw_next W ⟨_,rfl,?_,λb u e=>?_,ah⟩⟩
   ·rw[GU,bc];rfl
   ·rw[ag (aA e yb)];exact R _ _ e
  ·rintro ys d H2 ⟨g,rfl,rfl,R,h2⟩
   refine⟨p,_,rfl,au.of h2,_,rfl,?_⟩;have:(X9 (ns.map V.str).length true).all id=true:=by simp
   rw[this];have xa:=O.trans R;have ya:=xa _ _ j;refine cp N λU N=>?_;intro d zg;refine af rfl ⟨t,ns,rfl,.inr (aZ.of ya),by omega,λa ds yh xe mem=>?_⟩
   have xc:=gL (o:=i6 X.prog X.w a ds) yh;refine⟨a,ds,rfl,ah,_,rfl,t,_,rfl,.inr (aZ.of (xc _ _ ya)),rfl,?_⟩;rw[aE,((Vk xe M.nd).mpr mem).length_eq];refine af rfl (ite_ff (by rw[cc rfl];rfl) ?_)
   have C:=xa.trans xc;generalize upd H2 a (i6 X.prog X.w a ds)=zh at C⊢;have za:=C _ _ j;have ye:=zf.same C;refine i4 N ?_;intro d;refine af rfl ⟨t,_,rfl,.inr (aZ.of za),_,rfl,by omega,by rw[aE];omega,λc yc=>?_⟩
   refine sH (λi ys d l=>∃g:a2 V,d=[g,bd t,bd xf,bd yf,bd ow]/\ys=(X9 i true).map V.bl/\aB zh l/\l c=ce ys) ⟨none,rfl,rfl,gL yc,ah⟩ (λi ys d l ab=>by obtain⟨_,_,_,_,z⟩:=ab;exact z) ?_ ?_
   ·rintro i ys d l hi ⟨g,rfl,rfl,n,S⟩
    have I:i<ns.length:=by rw[aE]at hi;have:YA ((ns.length:Nat):Int)=ns.length:=gI _;rw[this]at hi;exact hi
    rw[show(0:Int)+(i:Int)=i by omega]
    obtain⟨x,y,ex,xi,yi⟩:=M.ld i I;have J:=n _ _ za;have zi:(ns.map V.str).length=ns.length:=aE _;have xj:((i:Int)+1) % ((ns.map V.str).length:Nat)=(((i+1) % ns.length:Nat):Int):=by rw[zi];exact(Int.natCast_emod (i+1) ns.length).symm
    refine a4 rfl rfl ⟨_,_,rfl,rfl,_,rfl,t,_,rfl,.inr (aZ.of J),_,_,rfl,rfl,by omega,?_⟩
    refine⟨t,_,_,_,rfl,c6 V.int xj,aZ.of J,cF (by rw[dQ,xi];rfl),_,rfl,_,rfl,_,rfl,_,rfl,_,rfl,QC J (cF (by rw[dQ,ex];rfl)) (rE.mk rfl (ye.same n) λr xk zc ze=>?_)⟩
    refine⟨r,_,rfl,.inl (au.of ze),rfl,jt _,?_⟩;rw[aq b9,iM,cc yi];refine⟨zc _ _ S,by rw[aE,wu,aX];omega,cw_next hi ⟨_,rfl,?_,λb u e=>?_,ah⟩⟩
    ·rw[GU,bc];rfl
    ·rw[ag (aA e yc)];exact zc _ _ (n _ _ e)
   ·rintro ys d l ⟨g,rfl,rfl,n,S⟩
    refine⟨c,_,rfl,au.of S,?_⟩;rw[show(X9 (YA (((ns.map V.str).length:Nat):Int)) true).all id=true by simp]
    exact q _ (C.trans n)
def k9:gG->UH
 |.told z=>.tuple [.str "told",.int z]
 |.miss n=>.tuple [.str "missing",.str n]
 |.f3 ns=>.tuple [.str "endless",.tuple (ns.map Vh)]
theorem l9{r:gG}(h:jP H p r):Rep H (.ref p) (k9 r):=by
 cases r with
 |told z=>exact .tup h (.cons (.str _) (.cons (.int _) .nil))
 |miss n=>exact .tup h (.cons (.str _) (.cons (.str _) .nil))
 |f3 ns=>obtain⟨t,h1,h2⟩:=h;exact .tup h1 (.cons (.str _) (.cons (.tup h2 (lZ _ _)) .nil))
theorem Cs(z:Int):(k9 (.told z)).canLay0=true/\(k9 (.told z)).depth<=60:=⟨by show(Xv "told" && (true&&true))=true;decide +kernel,by simp[k9,XX,Vr]⟩
theorem KY(h:Nm n):(k9 (.miss n)).canLay0=true/\(k9 (.miss n)).depth<=60:=⟨by show(Xv "missing" && (Xv n&&true))=true;rw[n9 h];decide +kernel,by simp[k9,XX,Vr]⟩
structure Mk(line ns:List Gv)(cs:List cq):Prop where
 ch:gW line cs.reverse
 ks:cs.map ky=ns.reverse.flatMap λn=>line.reverse.map λk=>(k,n)
 en:∀x∈cs,Ent x.2.2.1
 ak:∀x∈cs,∀s∈bM x.2.2.1,a3 s = "ask" -> eI s∈ns
 ln:line.Nodup
 lm:∀k∈line,Nm k
 nd:ns.Nodup
 nm:∀n∈ns,Nm n
 l8:line.length<=8
 n6:ns.length<=6
 l0:line ≠ []
 n0:ns ≠ []
section
variable{cs:am cq}
theorem Mk.mem(h:Mk line ns cs){k:Gv}(a:k∈line)(b:n∈ns):∃x∈cs,x.1=k/\x.2.1=n:=by
 have:(k,n)∈cs.map ky:=by
  rw[h.ks];exact lL.mpr ⟨n,jr.mpr b,aY.mpr ⟨k,jr.mpr a,rfl⟩⟩
 obtain⟨x,c,e⟩:=aY.mp this;injection e with e1 e2;exact⟨x,c,e1,e2⟩
theorem Mk.at(h:Mk line ns cs){x:cq}(a:x∈cs):x.1∈line/\x.2.1∈ns:=by
 have:ky x∈cs.map ky:=aY.mpr ⟨x,a,rfl⟩;rw[h.ks]at this;obtain⟨n,b,c⟩:=lL.mp this;obtain⟨k,d,e⟩:=aY.mp c;injection e with e1 e2;exact⟨e1 ▸ jr.mp d,e2 ▸ jr.mp b⟩
theorem Mk.knd(h:Mk line ns cs):(cs.map ky).Nodup:=by
 rw[h.ks,mY,List.pairwise_flatMap];refine⟨λn _=>?_,?_⟩
 ·rw[sf]
  exact(mY.mp ((o6 _).nodup_iff.mpr h.ln)).imp λa e=>a (by injection e)
 ·refine(mY.mp ((o6 _).nodup_iff.mpr h.nd)).imp λ{a b} ne x c y d e=>?_
  obtain⟨k,_,rfl⟩:=aY.mp c;obtain⟨f,_,rfl⟩:=aY.mp d;injection e with e1 e2;exact ne e2
theorem Mk.a5(h:Mk line ns cs):cs.length<=48:=by
 have e:=c6 Yf h.ks;rw[aE]at e;have e2:∀us:am Gv,(us.flatMap λn=>line.reverse.map λk=>(k,n)).length=us.length * line.length:=λus=>by
  induction us with
  |nil=>simp
  |cons u us a=>rw[o3,cL,a,aE,jl,cS,sj];omega
 rw[e2,jl]at e;have:=z' h.n6 h.l8;omega
theorem Ow{cs:am cq}(h:(cs.map ky).Nodup):((cs.map hV).map bC).Nodup:=by
 rw[gJ,mY,sf];rw[mY,sf]at h;refine h.imp λ{a b} ne e=>ne ?_;have e1:a.1=b.1:=by injection e
 have e2:a.2.1=b.2.1:=by injection e with _ z;injection z
 exact lA e1 e2
theorem Mk.iy(h:Mk line ns cs):fZ (cs.map hV):=by
 refine⟨λq b=>?_,λq b=>?_,Ow h.knd,by rw[aE];exact h.a5⟩
 ·obtain⟨x,a,rfl⟩:=aY.mp b;exact⟨h.lm _ (h.at a).1,h.nm _ (h.at a).2⟩
 ·obtain⟨x,a,rfl⟩:=aY.mp b;exact h.en x a
theorem Mk.ask(h:Mk line ns cs):∀q∈cs.map hV,∀s∈bM q.2.2,a3 s = "ask" -> eI s∈ns:=λq a=>by
 obtain⟨x,b,rfl⟩:=aY.mp a;exact h.ak x b
theorem Mk.j2(h:Mk line ns cs):∀k∈line,k ≠ "" :=λk a z=>by
 have:=(h.lm k a).lo;rw[z]at this;exact absurd this (by decide +kernel)
theorem M1{a f:Bk}{k:Gv}{e:UH}(ok:fZ a)(g : [k,n]∈a.map bC)(i:Ent e)(p:f.Perm (iw a k n++[(k,n,e)])):fZ f:=by
 have p2:=p.trans (tK (d:=e) ok.nd g).symm;have j:(a.map λp=>if bC p=[k,n] then (k,n,e) else p).map bC=a.map bC:=by
  rw[gJ];refine se λq _=>?_;show bC (if bC q=[k,n] then (k,n,e) else q)=bC q;split
  ·rename_i h;rw[h];rfl
  ·rfl
 refine nM p2 ⟨λq c=>?_,λq c=>?_,by rw[j];exact ok.nd,by rw[aE];exact ok.a5⟩
 ·obtain⟨x,b,rfl⟩:=aY.mp c
  split
  ·rename_i h
   have e1:x.1=k:=by injection h
   have e2:x.2.1=n:=by injection h with _ z;injection z
   have:=ok.nm x b;rw[e1,e2]at this;exact this
  ·exact ok.nm x b
 ·obtain⟨x,b,rfl⟩:=aY.mp c
  split
  ·exact i
  ·exact ok.ent x b
theorem Mk.told(h:Mk line ns cs){bk:Bk}(pm:bk.Perm (cs.map hV)){x:cq}(a:x∈cs){r:gG}(c:aW.Comes ⟨line,bk,[]⟩ (x.2.1,gX line x.1) r):r=.told x.2.2.2:=by
 have b:∀y∈cs.reverse,cU bk y.1 y.2.1=ih y.2.2.1:=λy d=>pj ((pm.map bC).nodup_iff.mpr h.iy.nd) (pm.mem_iff.mpr (aY.mpr ⟨y,jr.mp d,rfl⟩));exact Comes.uniq c (Mc (W:=⟨line,bk,[]⟩) h.ln h.j2 rfl h.ch b x (jr.mpr a))
theorem Mk.miss(h:Mk line ns cs){bk:Bk}{l:Gv}(a:line[line.length - 1]?=ih l){r:gG}(c:aW.Comes ⟨line,bk,[]⟩ (n,l) r):r=.miss n:=by
 have d:=di a;have e:c9 line l=[]:=by
  unfold c9;rw[aq (h.j2 _ d),uK h.ln a];exact r7 (by omega)
 have b:aW.look ⟨line,bk,[]⟩ (n,l)=none:=by
  show c4 bk n (c9 line l)=none;rw[e];rfl
 refine Comes.uniq c (r':=.miss n) ⟨1,?_⟩;show aW.dw _ _ _=_;unfold aW.dw;rw[Cn rfl,b]
theorem Mk.f3(h:Mk line ns cs){bk:Bk}{d g f:Gv}{e:UH}(j:line[line.length - 1]?=ih d)(M:ns[ns.length - 1]?=ih g)(N:ns[0]?=ih f)(pm:bk.Perm (iw (cs.map hV) d g++[(d,g,e)]))(O:(bk.map bC).Nodup)(P:Rg (gy f) (bM e))(I:n∈ns){r:gG}(c:aW.Comes ⟨line,bk,[]⟩ (n,"") r):∃B,r=.f3 B:=by
 obtain⟨o,rest,l⟩:∃o rest,cs=o::rest:=by
  cases cs with
  |nil=>have:=h.ch;cases this
  |cons a b=>exact⟨a,b,rfl⟩
 obtain⟨s,lt,G⟩:∃s lt,line.reverse=s::lt:=by
  cases C:line.reverse with
  |nil=>exact absurd (Ab.mp C) h.l0
  |cons a b=>exact⟨a,b,rfl⟩
 obtain⟨t,mt,H⟩:∃t mt,ns.reverse=t::mt:=by
  cases C:ns.reverse with
  |nil=>exact absurd (Ab.mp C) h.n0
  |cons a b=>exact⟨a,b,rfl⟩
 have D:=oW.mpr h.l0;have J:=oW.mpr h.n0;have e1:s=d:=by
  have:line.reverse[0]?=ih s:=by rw[G];rfl
  rw[o5 D,r9,j]at this;exact(cZ this).symm
 have e2:t=g:=by
  have:ns.reverse[0]?=ih t:=by rw[H];rfl
  rw[o5 J,r9,M]at this;exact(cZ this).symm
 have u:ky o=(d,g):=by
  have:=h.ks;rw[l,G,H,bU,o3,bU,wQ]at this;rw[(GX this).1,e1,e2]
 have E:o.1=d:=by injection u
 have F:o.2.1=g:=by injection u
 have knd:=h.knd;rw[l,bU,dM]at knd;have no:∀y∈rest,ky y≠(d,g):=λy i z=>knd.1 (by rw[u,<-z];exact aY.mpr ⟨y,i,rfl⟩)
 have K:∀y∈(d,g,e,(0:Int))::rest,cU bk y.1 y.2.1=ih y.2.2.1:=λy i=>by
  refine pj O (pm.mem_iff.mpr ?_);rcases bj.mp i with z|z
  ·rw[z];simp
  ·refine gY _ (er.mpr ⟨aY.mpr ⟨y,by rw[l];exact a7 _ z,rfl⟩,?_⟩)
   have:bC (y.1,y.2.1,y.2.2.1)≠ [d,g]:=λw=>no y z (by
    have Q:y.1=d:=by injection w
    have R:y.2.1=g:=by injection w with _ q;injection q
    exact lA Q R)
   simpa using this
 obtain⟨S,A⟩:∃x,line[0]?=ih x:=⟨line[0],bz D⟩;have find:∀m,m∈ns ->∃y∈(d,g,e,(0:Int))::rest,y.1=S/\y.2.1=m:=λm T=>by
  obtain⟨y,i,a,b⟩:=h.mem (di A) T;rw[l]at i;rcases bj.mp i with z|z
  ·exact⟨_,aV,by rw[z]at a b;exact⟨E.symm.trans a,F.symm.trans b⟩⟩
  ·exact⟨y,a7 _ z,a,b⟩
 have L:=BC (W:=⟨line,bk,[]⟩) h.ln h.j2 rfl (bs:=(d,g,e,(0:Int))::rest) (λy i=>by
  rcases bj.mp i with z|z
  ·rw[z];exact di j
  ·exact(h.at (by rw[l];exact a7 _ z)).1) K (λy i=>by
  rcases bj.mp i with z|z
  ·obtain⟨v,hv,a,b⟩:=find f (di N)
   exact⟨v,hv,.inr (by rw[z,a,b];exact⟨A,P⟩)⟩
  ·have U:y∈cs.reverse:=jr.mpr (by rw[l];exact a7 _ z)
   rcases KU h.ch y U with⟨v,hv,p⟩|w
   ·have hv:=jr.mp hv
    rw[l]at hv;rcases bj.mp hv with q|q
    ·refine⟨_,aV,?_⟩
     rw[q]at p;unfold Nx at p⊢;rw[E,F]at p;exact p
    ·exact⟨v,a7 _ q,p⟩
   ·rw[l,Gb,List.getLast?_append]at w
    have:o=y:=by simpa using w
    exact absurd u (by rw[this];exact no y z))
 obtain⟨y,i,a,b⟩:=find n I;have out:∀k,aW.out ⟨line,bk,[]⟩ k (n,"")=none:=λk=>by
  have:=L k y i;rw[b,a,oh (line:=line) h.ln A]at this;exact this
 cases r with
 |told z=>obtain⟨k,j⟩:=c;rw[out k]at j;cases j
 |miss z=>obtain⟨k,j⟩:=c;rw[out k]at j;cases j
 |f3 B=>exact⟨B,rfl⟩
end
def Lc(ks:List Gv)(x:Gv):List Gv:=(ks.take (ks.idxOf x+1)).reverse
def Pc(ks:List Gv)(x:Gv):List Gv:=(ks.take (ks.idxOf x)).drop (ks.idxOf x - 1)
theorem BG:∀(l q:am Gv) (k:Nat),l.Nodup->(q=[] \/∃x b,l=x::b/\q=[x])->total [l,q]<=k->cb k [l,q]=ih l
 |[],q,k,_,h,_=>by
  have a:q=[]:=by
   rcases h with h|⟨x,b,e,_⟩
   ·exact h
   ·cases e
  subst a;cases k <;> rfl
 |x::l,q,k,c,h,g=>by
  have a:q=[]\/q=[x]:=by
   rcases h with h|⟨y,b,e,h⟩
   ·exact .inl h
   ·cases e;exact .inr h
  have i:x ∉ l:=(dM.mp c).1;cases k with
  |zero=>exact absurd g (by simp[total])
  |succ k =>
   have j:c7 0 [x::l,q] x=none:=nj.mpr λr m d=>by
    rcases bj.mp m with z|z
    ·rw[z];rfl
    ·have z:=bX.mp z
     rcases a with e|e
     ·rw[z,e]at d;cases d
     ·rw[z,e];rfl
   have o:eM [x::l,q]=ih x:=by
    show(if (c7 0 [x::l,q] x).isNone then ih x else _)=_;rw[j];rfl
   have e1:(l.filter λy=>!decide (y=x))=l:=yZ.mpr λy p=>by
    have:y≠x:=λz=>i (z ▸ p);simp[this]
   have f:L2.without x [x::l,q]=[l,[]]:=by
    show [(x::l).filter _,q.filter _]=_;rw[jq,aq (by simp),e1]
    rcases a with e|e <;> rw[e] <;> simp
   show(if ([x::l,q].any λr=>!r.isEmpty)=true then (match eM [x::l,q] with|none=>none|some n=>(cb k (L2.without n [x::l,q])).map (n :: ·)) else ih [])=_;rw[ay (by rfl),o]
   show(cb k (L2.without x [x::l,q])).map (x :: ·)=_;rw[f,BG l [] k (dM.mp c).2 (.inl rfl) (by
    have h1:total [x::l,q]=(l.length+1)+(q.length+0):=rfl;have h2:total [l,[]]=l.length+(0+0):=rfl;omega)];rfl
theorem qM(a:ks.Nodup)(hi:i<ks.length):Lc ks ks[i]=(ks.take (i+1)).reverse:=by unfold Lc;rw[a.idxOf_getElem i hi]
theorem u'(a:ks.Nodup)(hi:i<ks.length):Pc ks ks[i]=(ks.take i).drop (i - 1):=by unfold Pc;rw[a.idxOf_getElem i hi]
theorem va(hi:i<ks.length):(ks.take (i+1)).reverse=ks[i]::(ks.take i).reverse:=by rw[fV hi,Aa];rfl
theorem KZ(a:ks.Nodup):Fm ks (Lc ks) (Pc ks):=by
 refine⟨λx b=>?_,λx b=>?_,λx b=>?_⟩ <;> obtain⟨i,hi,rfl⟩:=w4.mp b
 ·rw[u' a hi]
  exact⟨a.sublist ((Vl _ _).trans (iD _ _)),by rw[j7,cz];omega,λy c=>o2 (si c)⟩
 ·rw[u' a hi,qM a hi]
  cases i with
  |zero=>exact⟨[],Jw,by rw[va hi];rfl⟩
  |succ j =>
   have d:j<ks.length:=by omega
   have ep:(ks.take (j+1)).drop (j+1 - 1)=[ks[j]]:=by
    rw[fV d,Nat.add_sub_cancel];exact List.drop_left' (by rw[cz];omega)
   have e:rowsOf (Lc ks) [ks[j]]=[(ks.take (j+1)).reverse,[ks[j]]]:=by
    show [Lc ks ks[j],[ks[j]]]=_;rw[qM a d]
   refine⟨(ks.take (j+1)).reverse,?_,va hi⟩;rw[ep,e];exact BG _ _ _ ((o6 _).nodup_iff.mpr (a.sublist (iD _ _))) (.inr ⟨_,_,va d,rfl⟩) (aU _)
 ·rw[qM a hi]
  exact⟨(o6 _).nodup_iff.mpr (a.sublist (iD _ _)),λy c=>o2 (jr.mp c)⟩
theorem Me(xs:am V)(a b:Nat):e6 xs (ih (a:Int)) (ih (b:Int))=(xs.take b).drop a:=by
 unfold e6;rw[HT.tT,HT.tT,List.drop_take]
 by_cases h:a<=xs.length
 ·rw[xZ h]
  by_cases h2:b<=xs.length
  ·rw[xZ h2]
  ·rw[sh (by rw[j7];omega),sh (by rw[j7];omega)]
 ·rw[r7 (by omega),r7 (by omega)];simp
inductive rM(vs:List V)(H:Hp)(Q:VK)(E:XK):Prop
 |mk{p n:Up}{ks:List Gv}(_:vs=[.ref n])(_:ej p H)(_:H n=ih (.lst (ks.map V.str)))(_:ks.Nodup)(_:(∀x∈ks,Nm x))(_:ks.length<=8)(_:∀r t d1 o ws kY L Ps Qb H',vB p H ks r t d1 o ws kY L Ps Qb H'->Q (.ref r) H'):rM vs H Q E
noncomputable abbrev Rl:List Gv:=["_law_kinds","_law_pairs","_law_lines","_law_k"]
theorem vH:bp Rl ["_law_kinds"] (aH uC):=bw
theorem Ox(F:aQ K "_law_chain" "_law_chain" uC f fd)(B:dW mg)(xt:hI mg):aT P w K mg base aI 1 f fd ["_law_kinds"] rM:=by
 refine F.bG vH λQa A outer s H vs Q E xf h=>?_
 ·obtain @⟨p,n,ks,rfl,yt,yf,knd,xy,xA,q⟩:=h
  have zp:=eQ xf.units;intro X;refine⟨_,ax (uq (i:=1) (j:=2) rfl vH.nd rfl rfl (by decide) rfl rfl (aa (kO ai) (aa ny ai)) rfl)
   (ax (fk eL rfl (iK rfl B.range (aa (cu h7 rfl B.len gK (aa (pv 0) ai)) ai)) (br 3 vH.nd)
    (ax (ey (gq h6 oX oY ku (pv 1) (aa (b6 (aa (aS ck (pv 0) (pv 3)) (aa (dY j' rfl B.tuple boot_tuple (aa (h8 kD (pv 0) (gN (cu (AZ rfl) rfl B.max boot_max (aa aw (aa (bO jD (pv 3) aw) ai)))) (gN (pv 3))) ai)) ai))) ai)))
    (aF (gO zp (pv 2) (aS ck (pv 0) (pv 3)) (uy (h8 kD (pv 0) iQ (gN (bO fK (pv 3) aw)))) rfl))))
   (aF (a9 (b6 (aa (dY Af rfl B.tuple boot_tuple (aa (cu sA rfl xt.sorted boot_sorted (aa (pv 1) ai)) ai)) (aa (pv 2) ai)))))),?_⟩
  refine⟨bx _,λd Y ym xq xi=>λdl W=>⟨_,_,rfl,?_⟩⟩;have M:=aK (o:=.dK []) W;have yi:d≠dl:=aA xi W;have yh:=M _ _ xi;have zh:upd Y dl (.dK []) dl=cr []:=ah;have xc:=ym.trans M;have zi:H dl=none:=ym.free W;generalize upd Y dl (.dK [])=yA at yh zh xc⊢;clear W M;refine⟨_,rfl,n,_,rfl,.inl (au.of (xc _ _ yf)),_,rfl,by omega,by rw[aE];omega,lR (λi σ G=>∃(ws:am V) (l:am (Key×V)) (zf:a2 V),σ=[bd n,bd d,bd dl,zf]/\aB H G/\G d=ce ws/\G dl=cr l/\cK G ws (d6 (Pc ks) (ks.take i))/\l.map (·.1)=(ks.take i).map F3 /\∀x∈ks.take i,∃a,bo l (F3 x)=ih (.ref a)/\a≠d/\G a=ce ((Lc ks x).map V.str))
   ⟨[],[],none,rfl,xc,yh,zh,.nil,rfl,λx g=>(by cases g)⟩ ?_ ?_⟩
  ·rintro i σ G hi ⟨ws,l,zf,rfl,ya,za,xg,C,O,R⟩
   refine jx ?_;intro zm zA;have v:i<ks.length:=by rw[aE]at hi;have:YA ((ks.length:Nat):Int)=ks.length:=gI _;rw[this]at hi;exact hi
   rw[show(0:Int)+(i:Int)=i by omega]
   have xj:=ya _ _ yf;have xp:ks[i]∉ ks.take i:=by
    have:(ks.take (i+1)).Nodup:=knd.sublist (iD _ _);rw[fV v]at this;exact λz=>(eu.mp this).2.2 _ z _ aV rfl
   have xn:=C.length;unfold d6 at xn;rw[aE,cz]at xn;have zt:l.length=(ks.take i).length:=by have:=c6 Yf O;simpa using this
   rw[cz]at zt;have xu:(if (i:Int) - 1>0 then (i:Int) - 1 else 0)=((i - 1:Nat):Int):=by split <;> omega
   refine iR λU yu=>?_;intro zm xB;refine af rfl ⟨.inl ⟨rfl,_,au.of za⟩,_,rfl,_,rfl,fe xj (cF (by rw[dQ,bz v];rfl)) (a4 rfl rfl ⟨_,_,rfl,rfl,_,_,rfl,_,rfl,_,rfl,_,rfl,n,_,rfl,au.of xj,λc zu=>?_⟩)⟩
   rw[xu,Me];have e1:((ks.map V.str).take i).drop (i - 1)=(Pc ks ks[i]).map V.str:=by rw[u' knd v,lK,zZ]
   rw[e1];have N:=aK (o:=.lst ((Pc ks ks[i]).map V.str)) zu;have J:=N _ _ za;have yc:=N _ _ xg;have zc:=C.same N;have xd:∀x∈ks.take i,∃a,bo l (F3 x)=ih (.ref a)/\a≠d/\upd G c (.lst ((Pc ks ks[i]).map V.str)) a=ce ((Lc ks x).map V.str):=λx g=>by
    obtain⟨a,e1,e2,e3⟩:=R x g;exact⟨a,e1,e2,N _ _ e3⟩
   have yd:=ya.trans N;have zd:upd G c (.lst ((Pc ks ks[i]).map V.str)) c=ce ((Pc ks ks[i]).map V.str):=ah;generalize upd G c (.lst ((Pc ks ks[i]).map V.str))=xv at yd zd J yc zc xd⊢;refine⟨c,_,rfl,.inl ⟨au.of zd,λb yn=>⟨bF,λt m yg _ xb=>?_⟩⟩⟩;have zn:=(aK (o:=.tup ((Pc ks ks[i]).map V.str)) yn);have yj:=yg _ _ (show upd xv b (.tup ((Pc ks ks[i]).map V.str)) b=_ from ah);have L:=zn.trans yg;have xe:=L _ _ J;have zj:=L _ _ yc;have xk:=zc.same L;have yk:=yd.trans L;have zk:∀x∈ks.take i,∃a,bo l (F3 x)=ih (.ref a)/\a≠d/\m a=ce ((Lc ks x).map V.str):=λx g=>by
    obtain⟨a,e1,e2,e3⟩:=xd x g;exact⟨a,e1,e2,L _ _ e3⟩
   clear xd zc J yc yd zd N R C yn;refine⟨d,ws,_,rfl,rfl,xe,by rw[aX];omega,?_⟩
   have yb:∀{zs:am V} b xs,m b=bn xs->upd m d (.lst zs) b=bn xs:=λb xs e=>by rw[ag (ar e xe)];exact e
   have yv:d6 (Pc ks) (ks.take (i+1))=d6 (Pc ks) (ks.take i)++[(ks[i],Pc ks ks[i])]:=by rw[fV v];unfold d6;rw[bc];rfl
   have xl:cK (upd m d (.lst (ws++[V.ref t]))) (ws++[V.ref t]) (d6 (Pc ks) (ks.take (i+1))):=by
    rw[yv];exact cK.append (xk.keep yb) (yb _ _ xb) (yb _ _ yj)
   have ye:aB H (upd m d (.lst (ws++[V.ref t]))):=λb u e=>by rw[ag (aA e xq)];exact yk _ _ e
   have ze:upd m d (.lst (ws++[V.ref t])) d=ce (ws++[V.ref t]):=ah;have yl:upd m d (.lst (ws++[V.ref t])) dl=cr l:=by rw[ag (aP yi)];exact zj
   have zl:∀x∈ks.take i,∃a,bo l (F3 x)=ih (.ref a)/\a≠d/\upd m d (.lst (ws++[V.ref t])) a=ce ((Lc ks x).map V.str):=λx g=>by
    obtain⟨a,e1,e2,e3⟩:=zk x g;exact⟨a,e1,e2,by rw[ag e2];exact e3⟩
   generalize upd m d (.lst (ws++[V.ref t]))=zg at xl ye ze yl zl⊢;clear zk xk xe zj yk L zn yj xb yg yb;refine i4 yu ?_;intro zm;have xm:=ye _ _ yf;refine a4 rfl rfl ⟨_,_,rfl,rfl,_,rfl,n,_,rfl,au.of xm,λS yq=>?_⟩;rw[show(i:Int)+1=((i+1:Nat):Int) by omega,Ds,<-zZ]
   have xo:=aK (o:=.lst ((ks.take (i+1)).map V.str)) yq;have zv:upd zg S (.lst ((ks.take (i+1)).map V.str)) S=ce ((ks.take (i+1)).map V.str):=ah;refine⟨S,_,rfl,au.of zv,λT J=>?_⟩;rw[<-GZ,<-qM knd v];have y:=xo.trans (aK (o:=.lst ((Lc ks ks[i]).map V.str)) J);have xh:upd (upd zg S (.lst ((ks.take (i+1)).map V.str))) T (.lst ((Lc ks ks[i]).map V.str)) T=ce ((Lc ks ks[i]).map V.str):=ah;have zq:T≠d:=aP (aA (xo _ _ ze) J);generalize upd (upd zg S (.lst ((ks.take (i+1)).map V.str))) T (.lst ((Lc ks ks[i]).map V.str))=yo at y xh⊢;have xa:=y _ _ yl;refine ek rfl rfl rfl (fe (y _ _ xm) (cF (by rw[dQ,bz v];rfl)) ?_)
   refine⟨dl,_,rfl,eP.k (k:=F3 ks[i]) xa (by rw[aX];omega),?_⟩
   have up:∀{zs:am (Key×V)} b u,b≠dl->yo b=ih u->upd yo dl (.dK zs) b=ih u:=λb u n e=>by rw[ag n];exact e
   refine⟨_,_,_,rfl,λb u e=>up _ _ (aA e zi) (y _ _ (ye _ _ e)),up _ _ yi (y _ _ ze),ah,(xl.same y).keep λb xs e=>up _ _ (ar e xa) e,by rw[fV v];exact tI O xp,λx g=>?_⟩
   by_cases c:x=ks[i]
   ·subst c
    exact⟨T,by rw[iN,ay rfl],zq,up _ _ (ar xh xa) xh⟩
   ·obtain⟨a,e1,e2,e3⟩:=zl x (by
     rw[fV v]at g;rcases cj.mp g with z|z
     ·exact z
     ·exact absurd (bX.mp z) c)
    exact⟨a,by rw[iN,aq (λz=>c (gH z))];exact e1,e2,up _ _ (ar (y _ _ e3) xa) (y _ _ e3)⟩
  ·rintro σ G ⟨ws,l,zf,rfl,ya,za,xg,C,O,R⟩
   have xw:YA (((ks.map V.str).length:Nat):Int)=ks.length:=by rw[aE];exact gI _
   rw[xw,cM]at C O R;obtain⟨kvs,pv,xr⟩:=C.keyed;have yy:=C.length;have zy:(d6 (Pc ks) ks).length=ks.length:=by unfold d6;exact aE ..
   refine af rfl ⟨d,ws,kvs,1,rfl,.inl (au.of za),pv,aU _,by rw[xr,sT];exact knd.map _ λa b n e=>n (GX e).1,by omega,λD I zx yw zo xz yz zz=>?_⟩
   have zw:=aK (o:=.lst I) yw;refine⟨D,I,rfl,au.of ah,λt o xb xx=>?_⟩;have St:=zw.trans (aK (o:=.bT o (.tup I)) xb);obtain⟨yp,yr,yx⟩:=sD zo C;have zr:upd (upd G D (.lst I)) t (.bT o (.tup I)) t=ih (.bT o (.tup I)):=ah;refine af rfl ⟨bF,λr yB M _ xf=>?_⟩;have zb:=St.trans M;refine q r t dl o I l (Lc ks) (Pc ks) yp _ ⟨xf,M _ _ zr,xx,cK.same yx zb,yr,KZ knd,zb _ _ xg,O,λx g=>?_,dz yt (ya.trans zb),zi⟩;obtain⟨a,e1,_,e3⟩:=R x g;exact⟨a,e1,zb _ _ e3⟩
theorem pY(h:au K H a xs)(s:aB H H'):au K H' a xs:=by
 rcases h with(h|⟨o,h⟩)|h
 ·exact .inl (.inl (s _ _ h))
 ·exact .inl (.inr ⟨o,s _ _ h⟩)
 ·exact .inr h
theorem rN{a:Hp}(S:aB Y H2)(c:Y p=none)(d:bL p H2 a):aB Y a:=λb u e=>d.kp _ _ (S _ _ e) (aA e c)
theorem uL{ns:am Int}{k:Int}{E:XK}(h:au K H a (ns.map V.int))(c:0<=k)(d:k<=100)(e:ns.length<=63)(q:∀p H',H p=none->ej p H'->aB H H'->Q (.ref p) H'):qE K [.ref a,.int k] H Q E:=⟨rfl,h,c,d,e,λp x y b f g i=>q p _ b ⟨x,y,ah,f,g,i⟩ (aK b)⟩
theorem jP.same{r:gG}(h:jP H p r)(S:aB H H'):jP H' p r:=by
 cases r with
 |told z=>exact S _ _ h
 |miss n=>exact S _ _ h
 |f3 ns=>obtain⟨t,h1,h2⟩:=h;exact⟨t,S _ _ h1,S _ _ h2⟩
noncomputable abbrev vI:List Gv:=["_law_script","_law_pot_here","_law_straight","_law_kinds","_law_family_here","_law_lines","_law_longest","_law_top","_law_line_here","_law_alike","_law_names_here","_law_thing","_law_book","_law_sums","_law_world","_law_k","_law_name","_law_told_here"]
theorem dU:bp vI ["_law_script"] (aH kU):=bw
abbrev Rm:Vc:=fu (ft (cw (bB kU) 5))
abbrev Rn:Vc:=D4 (ft (cw (bB kU) 6))
theorem Eu:bY vI (aH kU) ["_law_kind","_law_lines"] [none,ih 5] (cI Rm):=c8
theorem Ew:bY vI (aH kU) ["_law_kind","_law_lines","_law_longest"] [none,ih 5,ih 6] (cI Rn):=c8
inductive my(K:X2)(vs:List V)(H:Hp)(Q:VK)(E:XK):Prop
 |mk{a:Up}{ns:List Int}(_:vs=[.ref a])(_:au K H a (ns.map V.int))(_:ns.length<=63)(_:∀H',Q (.bl true) H'):my K vs H Q E
theorem M3{fP fF fH fR fO:Up}{dP dF dH dO:Xt}(F:aQ K "law" "law" kU f fd)(B:dW mg)(B2:hI mg)(B3:Ei mg)
  (yV:bV P w K mg base aI 1 fP dP ["_law_script","_law_k"] (qE K) "_law_pot")
  (xz:bV P w K mg base aI 1 fD dD ["_law_pot_here","_law_many"] iS "_law_digit")
  (GN:bV P w K mg base aI 3 fN dN ["_law_pot_here","_law_many"] kF "_law_names")
  (GF:bV P w K mg base aI 3 fF dF ["_law_pot_here","_law_kinds"] qZ "_law_family")
  (GH:bV P w K mg base aI 1 fH dH ["_law_kinds"] rM "_law_chain")
  (GC:bV P w K mg base aI 4 fC dC v' rD "_law_called")
  (GR:bV P w K mg base aI 4 fR dR wj rK "_law_rungs")
  (GT:bV P w K mg base aI 1 fT dT ["_law_book"] oz "_law_triples")
  (xG:bV P w K mg base aI 10 fO dO v8 k6 "_law_told")
  (GI:bV P w K mg base aI 3 fI dI mQ rL "_law_is_round") :
  aT P w K mg base aI 11 f fd ["_law_script"] (my K):=by
 refine F.bG dU λQa A outer s H vs Q E hr h=>?_
 ·obtain @⟨a,sc,rfl,zV,zN,q⟩:=h
  have yG:=hr.units;have xq:=eQ yG;have zk:a' 10 _:=hr;have ac:a' 4 _:=zk.mono (by decide)
  have zC:a' 3 _:=zk.mono (by decide)
  have xf:a' 1 _:=zk.mono (by decide)
  intro X;refine⟨_,ax (ba 1 dU.nd (bA yV xf (aa (pv 0) (aa aw ai))))
   (ax (ba 2 dU.nd (jy ei (bA xz xf (aa (pv 1) (aa aw ai))) aw (bS _)))
   (ax (ba 3 dU.nd (bA GN zC (aa (pv 1) (aa (bO fK aw (bA xz xf (aa (pv 1) (aa aw ai)))) ai))))
   (ax (jC (bA GF zC (aa (pv 1) (aa (pv 3) ai))) (iU rfl (dq (br 4 dU.nd) (dq (nF (i:=5) dU.nd rfl (Yg rfl)) gM))))
   (ax (bE (gP (pv 2)) (aF (jC (bA GH xf (aa (pv 3) ai)) (iU rfl (dq (br 4 dU.nd) (dq (nF (i:=5) dU.nd rfl (Yg rfl)) gM))))) bZ)
   (ax (g9 (i:=6) dU.nd rfl (Yg rfl) (cu (Ji rfl) rfl B.max boot_max (aa (dB rfl Eu (dt (pv 3)) (λs H fp=>⟨br 0 Eu.nd,eh,cu (sI K rfl) rfl B.len gK (aa (eY xq (pv 1) (pv 0)) ai)⟩)) ai)))
   (ax (ba 7 dU.nd (aS ck (dB rfl Ew (dt (pv 3)) (λs H fp=>⟨br 0 Ew.nd,h9 (bJ ei (cu (sI K rfl) rfl B.len gK (aa (eY xq (pv 1) (pv 0)) ai)) (pv 2) (bS _)),pv 0⟩)) aw))
   (ax (ba 8 dU.nd (eY xq (pv 5) (pv 7)))
   (ax (ba 1 dU.nd (bA yV xf (aa (pv 0) (aa aw ai))))
   (ax (ba 9 dU.nd (jy ei (bA xz xf (aa (pv 1) (aa aw ai))) aw (bS _)))
   (ax (ba 10 dU.nd (bA GC ac (aa (pv 1) (aa (bO fK aw (bA xz xf (aa (pv 1) (aa aw ai)))) (aa (pv 9) (aa (pv 3) ai))))))
   (ax (ba 1 dU.nd (bA yV xf (aa (pv 0) (aa aw ai))))
   (ax (ba 11 dU.nd (aS ck (bA GN zC (aa (pv 1) (aa aw ai))) aw))
   (ax (jC (bA GR ac (aa (pv 1) (aa (pv 8) (aa (pv 10) ai)))) (iU rfl (dq (br 12 dU.nd) (dq (br 13 dU.nd) gM))))
   (ax (ba 14 dU.nd (b6 (aa (pv 4) (aa (bA GT xf (aa (pv 12) ai)) (aa (b6 (aa (b6 (aa (pv 11) (aa (pv 7) (aa (b6 ai) ai)))) ai)) ai)))))
   (ax (bE (bJ (nR yG) (bA xG zk (aa (pv 14) (aa (pv 11) (aa (aS ck (pv 10) aw) (aa bu ai))))) (b6 (aa bu (aa (eY xq (pv 13) (b6 (aa (pv 7) (aa (aS ck (pv 10) aw) ai)))) ai))) (bS _)) (aF (a9 jG)) bZ)
   (ax (fk eL rfl (iK rfl B.range (aa (bO jD (cu h7 rfl B.len gK (aa (pv 8) ai)) aw) ai)) (br 15 dU.nd)
    (aF (bE (bJ (nR yG) (bA xG zk (aa (pv 14) (aa (pv 11) (aa (aS ck (pv 10) aw) (aa (aS ck (pv 8) (pv 15)) ai))))) (b6 (aa bu (aa (eY xq (pv 13) (b6 (aa (aS ck (pv 8) (bO fK (pv 15) aw)) (aa (aS ck (pv 10) aw) ai)))) ai))) (bS _)) (aF (a9 jG)) bZ)))
   (ax (bE (bJ (nR yG) (bA xG zk (aa (pv 14) (aa (pv 11) (aa (aS ck (pv 10) aw) (aa (aS ck (pv 8) (mu ma aw)) ai))))) (b6 (aa bu (aa (aS ck (pv 10) aw) ai))) (bS _)) (aF (a9 jG)) bZ)
   (ax (gO xq (pv 12) (b6 (aa (aS ck (pv 8) (mu ma aw)) (aa (aS ck (pv 10) (mu ma aw)) ai))) (aS ck (kO (aa (b6 (aa bu (aa (aS ck (pv 10) aw) (aa aw ai)))) (aa (b6 (aa bu (aa (b6 (aa (b6 (aa bu (aa (aS ck (pv 10) aw) ai))) ai)) ai))) ai))) (bA xz xf (aa (pv 1) (aa aw ai)))) rfl)
   (ax (ba 14 dU.nd (b6 (aa (pv 4) (aa (bA GT xf (aa (pv 12) ai)) (aa (aS bD (pv 14) aw) ai)))))
   (ax (fk eL rfl (dt (pv 10)) (br 16 dU.nd)
    (ax (ba 17 dU.nd (bA xG zk (aa (pv 14) (aa (pv 11) (aa (pv 16) (aa bu ai))))))
    (aF (bE (PW.pt (pw_or (bJ kM (aS bD (pv 17) aw) bu (bS _)) (pw_or1 (g8 (gP (bA GI zC (aa (pv 8) (aa (pv 12) (aa ny (aa (aS bD (pv 17) aw) ai)))))))))) (aF (a9 jG)) bZ))))
   (aF (a9 jG)))))))))))))))))))))),?_⟩
  refine iR λU g=>?_;intro C M;refine af rfl (uL (k:=0) zV (by decide) (by decide) zN λp Y yt pk I=>?_)
  refine cp g λU g=>?_;intro C M;refine af rfl (eX (p:=p) (m:=2) pk (by decide) (by decide) λal H2 a0 a1 p2=>⟨rfl,?_⟩)
  generalize decide (V.int al=V.int 0)=bs;refine cp g λU g=>?_;intro C M;refine a4 rfl rfl (eX (p:=p) (m:=8) p2.ok (by decide) (by decide) λdk H3 b0 b1 p3=>⟨1,dk,rfl,rfl,?_⟩)
  obtain⟨T,rfl⟩:=m1 b0;have yz:=p2.trans p3;refine kF.mk (m:=1+T) (by rw[Z6];rfl) yz.ok (by omega) λlk ks H4 VC xW yx knd p4 zt=>?_
  have zG:ks.length<=8:=by omega
  have E1:ks ≠ []:=λz=>by rw[z,iF]at xW;omega
  have zz:=yz.trans p4;refine cp g λU g=>?_;intro C M;refine a4 rfl rfl (qZ.mk rfl zz.ok zt knd yx zG λr t za o ws xh L Ps Qb xH J=>⟨r,_,rfl,aZ.of J.hr,rfl,_,_,rfl,_,_,rfl,rfl,?_⟩);refine cp g λU g=>?_;intro C M;have h5:=J.pa.kp _ _ zt (iO zz.ok zt);refine a4 rfl rfl (u7 (λcy H'=>∃(r t za:Up) (o:Ye) (ws:am V) (xh:am (Key×V)) (L Ps:Gv->List Gv) (Qb:am (Gv×List Gv)),cy=[bd a,bd p,ih (.bl bs),bd lk,bd t,bd za,none,none,none,none,none,none,none,none,none,none,none,none]/\vB p H4 ks r t za o ws xh L Ps Qb H') (λe k=>?_) (λe=>⟨r,t,za,o,ws,xh,L,Ps,Qb,rfl,J⟩) ?_)
  ·refine af rfl (rM.mk rfl J.pa.ok h5 knd yx zG λr t za o ws xh L Ps PQ xi xe=>⟨r,_,rfl,aZ.of xe.hr,rfl,_,_,rfl,_,_,rfl,rfl,k _ _ ⟨r,t,za,o,ws,xh,L,Ps,PQ,rfl,⟨xe.hr,xe.ht,xe.od,xe.fv,xe.pm,xe.fm,xe.h1,xe.k1,xe.l1,J.pa.trans xe.pa,J.pa.free xe.n1⟩⟩⟩)
  clear J h5;rintro cy xH ⟨r,t,za,o,ws,xh,L,Ps,Qb,rfl,J⟩;have P5:=zz.trans J.pa;have T5:aB H xH:=rN I yt P5;have xD:hU xH lk ks:=⟨J.pa.kp _ _ zt (iO zz.ok zt),E1,by omega,yx,knd⟩
  have xK:=J.h1;have yK:=J.l1;have y3:=J.fv;have z3:=J.ht;have E4:=J.od;have fld:=J.fm.ld;have E5:=J.fm.ln;have fo:=(J.fm.NM knd yx zG).perm J.pm;have x1:∀x∈ks,x∈Qb.map (·.1):=λx D=>aY.mpr ⟨(x,Ps x),J.pm.mem_iff.mpr (aY.mpr ⟨x,D,rfl⟩),rfl⟩;have E6:=pY zV T5;clear J P5 zz yz p4 p3 p2 zt I yt pk zV T5;refine cp g λU g=>?_;intro C M;refine af rfl ⟨lk,rfl,⟨_,au.of xD.hl⟩,λc xn=>?_⟩;have yH:∀{G:Hp}{k:Gv}{v:V},G za=cr xh->bo xh (F3 k)=ih v->cm G za (.str k) (ih v):=λ{G k v} e e2=>by rw[<-e2];exact cm.k (k:=F3 k) e
  refine eW (xs:=ks.map V.str) (λi ys C xi=>∃yn:a2 V,C=[yn,bd za]/\xi c=ce ys/\aB xH xi/\ys=(ks.take i).map λk=>V.int ((L k).length:Int)) ⟨none,rfl,ah,aK xn,rfl⟩ (λi ys C xi ab=>by obtain⟨_,_,z1,z2,_⟩:=ab;exact ⟨z1,au.of (z2 _ _ xD.hl)⟩) ?_ ?_
  ·rintro i x ys C xi D ⟨yn,rfl,xA,zb,rfl⟩
   have yq:=(bR.mp D).1;have ye:i<ks.length:=by simpa using yq
   obtain rfl:V.str ks[i]=x:=by simpa [ye] using D
   obtain⟨yd,zq,xr⟩:=(yK ks[i] (gj ye)).same zb;refine a4 rfl rfl ⟨za,.ref yd,rfl,yH (zb _ _ xK) zq,yd,_,rfl,.inl (au.of xr),xA,by rw[aE,cz,aX];omega,cw_next yq ⟨_,rfl,ah,λb u e=>by rw[ag (aA e xn)];exact zb _ _ e,?_⟩⟩
   rw[fV ye,bc,aE];rfl
  rintro ys C xi ⟨yn,rfl,xA,zb,rfl⟩;rw[aE,cM]at xA;refine⟨c,ks.map λk=>((L k).length:Int),rfl,au.of (by rw[xA,gJ];rfl),λz=>E1 (Ac.mp z),λm xu PR=>?_⟩
  obtain⟨k0,E7,yu⟩:=aY.mp xu;have yD:=xD.same zb;have zK:=zb _ _ xK;have xL:∀x∈ks,ea xi xh L x:=λx D=>(yK x D).same zb;have x4:=y3.same zb;have y4:=zb _ _ z3;have E8:=pY E6 zb;clear E6 z3 y3 yK xK xD zb xA xn xu PR;refine cp g λU g=>?_;intro C M;refine af rfl ⟨lk,rfl,⟨_,au.of yD.hl⟩,λc xn=>?_⟩;refine eW (xs:=ks.map V.str) (λi ys C yA=>∃yn:a2 V,C=[yn,bd za,ih (.int m)]/\yA c=ce ys/\aB xi yA/\ys=((ks.take i).filter λk=>decide (V.int ((L k).length:Int)=V.int m)).map V.str) ⟨none,rfl,ah,aK xn,rfl⟩ (λi ys C xi ab=>by obtain⟨_,_,z1,z2,_⟩:=ab;exact ⟨z1,au.of (z2 _ _ yD.hl)⟩) ?_ ?_
  ·rintro i x ys C yA D ⟨yn,rfl,zn,xa,rfl⟩
   have yq:=(bR.mp D).1;have ye:i<ks.length:=by simpa using yq
   obtain rfl:V.str ks[i]=x:=by simpa [ye] using D
   obtain⟨yd,zq,xr⟩:=(xL ks[i] (gj ye)).same xa;refine a4 rfl rfl ⟨za,.ref yd,rfl,yH (xa _ _ zK) zq,yd,_,rfl,.inl (au.of xr),_,rfl,rfl,_,rfl,?_⟩;rw[show((L ks[i]).map V.str).length=(L ks[i]).length from aE _]
   by_cases e:V.int ((L ks[i]).length:Int)=V.int m
   ·refine ite_tt (cc e) (af rfl ⟨zn,by rw[aE];have:=gm (λk=>decide (V.int ((L k).length:Int)=V.int m)) (ks.take i);rw[cz]at this;rw[aX];omega,cw_next yq ⟨_,rfl,ah,λb u z=>by rw[ag (aA z xn)];exact xa _ _ z,?_⟩⟩)
    rw[fV ye,f7,bc,jq,ay (cc e)];rfl
   ·refine ite_ff (d4 e) (cw_next yq (af rfl ⟨zn,xa,?_⟩))
    rw[fV ye,f7,bc,jq,aq (by rw[d4 e];exact b9),oZ,lC,ee]
  rintro ys C yA ⟨yn,rfl,zn,xa,rfl⟩;rw[aE,cM]at zn;obtain⟨top,yW,zW⟩:∃top yW,ks.filter (λk=>decide (V.int ((L k).length:Int)=V.int m))=top::yW:=by
   cases e:ks.filter (λk=>decide (V.int ((L k).length:Int)=V.int m)) with
   |nil=>exact absurd (cc (c6 V.int yu)) (by simpa using List.filter_eq_nil_iff.mp e k0 E7)
   |cons x y=>exact⟨x,y,rfl⟩
  have xw:top∈ks:=(er.mp (show top∈ks.filter _ by rw[zW];exact aV)).1
  rw[zW]at zn;refine eK zn b4 ?_;have E9:=yD.same xa;have z4:=xa _ _ zK;have x5:=x4.same xa;have y5:=xa _ _ y4;have xO:=pY E8 xa;obtain⟨yd,zq,xr⟩:=(xL top xw).same xa;clear E8 y4 x4 xL zK yD xa zn xn zW yW yu E7 k0;refine cp g λU g=>?_;intro C M;refine a4 rfl rfl ⟨za,.ref yd,rfl,yH z4 zq,?_⟩;obtain⟨lo,_,yO⟩:=E5 top xw;have yr:=(fld top xw).1;have z5:=(fld top xw).2;have zD:∀k∈L top,Nm k:=λk zH=>yx k (z5 k zH);have xX:(L top).length<=8:=et (og yr z5) zG;have j2:L top ≠ []:=by rw[yO];simp
  have zO:(L top)[0]?=ih top:=by rw[yO];rfl
  have x6:=x1 top xw;clear E5 fld x1 yO zq yH z4;refine cp g λU g=>?_;intro C M;refine af rfl (uL (k:=1) xO (by decide) (by decide) zN λp' H8 oJ xP yi=>?_)
  have E':=E9.same yi;refine cp g λU g=>?_;intro C M;refine af rfl (eX (p:=p') (m:=4) xP (by decide) (by decide) λRo H9 c0 c1 xg=>⟨rfl,?_⟩)
  generalize decide (V.int Ro=V.int 0)=yX;refine cp g λU g=>?_;intro C M;refine a4 rfl rfl (eX (p:=p') (m:=6) xg.ok (by decide) (by decide) λdn VD e0 e1 Fb=>⟨1,dn,rfl,rfl,_,rfl,_,rfl,?_⟩)
  obtain⟨mn,rfl⟩:=m1 e0;have xE:=xg.trans Fb;refine rD.mk (m:=1+mn) (al:=yX) (by rw[Z6];rfl) xE.ok (by omega) (by omega) (E'.lx xP xE) λxo ns yP Fc yL nl=>?_
  have Fd:=xE.trans Fc;have n6:ns.length<=6:=by omega
  have zx:aB yA yP:=rN yi oJ Fd;have y6:=pY xO zx;have x2:=x5.same zx;have x3:=zx _ _ y5;have yk:=zx _ _ xr;clear Fd Fc xE Fb xg E' yi E9 xO x5 y5 xr zx xP oJ;refine cp g λU g=>?_;intro C M;refine af rfl (uL (k:=2) y6 (by decide) (by decide) zN λxI VE zP Fe xd=>?_)
  refine cp g λU g=>?_;intro C M;refine af rfl (kF.mk (m:=1) rfl Fe (by decide) λlm yI Rp Rq zI Ff _ xy Fg=>?_)
  obtain⟨yb,rfl⟩:∃x,yI=[x]:=by
   cases yI with
   |nil=>cases zI
   |cons x y=>cases y with
    |nil=>exact⟨x,rfl⟩
    |cons _ _=>cases zI
  refine eK Fg b4 ?_;have Fh:=Ff yb aV;have yl:aB yP Rp:=rN xd zP xy;refine cp g λU g=>?_;intro C M;have yw:=yL.same yl;refine ek rfl rfl rfl (rK.mk rfl xy.ok ⟨yl _ _ yk,j2,by omega,zD,yr⟩ yw xX n6 λr yc ds kvs cs G Fi Fj Rr VF yg fc=>⟨r,_,rfl,aZ.of Fi,rfl,_,_,rfl,_,_,rfl,rfl,?_⟩)
  have T:Mk (L top) ns cs:=⟨yg.ch.resolve_left fc,yg.ks,yg.en,yg.ak,yr,zD,yw.nd,yw.nm,xX,n6,j2,yw.ne⟩;have N:aB yP G:=rN xd zP (xy.trans yg.pa);have Fl:=yL.same N;have Fn:=N _ _ x3;have Fo:=x2.same N;have z6:=N _ _ yk;have Fp:=yg.pa.ok;have zL:=yg.hd;have xQ:=yg.dv;have Fq:=yg.hs;have Rt:xI≠yc:=xy.ok.ne Fj;clear yg N yw yl xy Fg Rq xd zP yk x3 x2 y6 yL Fi fc Fe Ff zI Fj Rr;have iy:=T.iy;refine cp g λU g=>?_;intro C M;refine a4 rfl rfl (oz.mk rfl zL xQ iy λtb wb bk G1 I Fs bv pm=>?_);refine a4 rfl rfl ⟨bx _,λte zA xb _ Ft=>⟨gC,λxj G3 zc _ Fu=>⟨eo,λtt G4 yo _ Fv=>⟨gC,λxJ yj zj _ Fw=>?_⟩⟩⟩⟩;have yE:=xb.trans (zc.trans (yo.trans zj));have zl:ix yj xJ t tb tt [V.ref xj] [(yb,top,[])]:=⟨Fw,zj _ _ Fv,.cons ⟨xj,te,[],rfl,(yo.trans zj) _ _ Fu,(zc.trans (yo.trans zj)) _ _ Ft,.nil⟩ .nil,by show 1<=5;decide,λp yt=>by rw[bX.mp yt];exact Fh,by simp⟩
  have yh:=I.trans yE;have zo:FB yj t tb o ws wb Qb L bk:=⟨yh _ _ Fn,E4,Fo.same yh,fo,yE _ _ Fs,cO.same yE bv,nM pm iy⟩;have x7:=T.ask;have ask:∀{zu:Hp},aB yj zu ->∀{n b:Gv},n∈ns->(b = "" \/ b∈L top)->jO xJ t tb tt [V.ref xj] [(yb,top,[])] (yb,top,[]) o ws wb Qb L bk ns (n,b) zu:=λ{_} S {n b} xB zX=>⟨zl.same S,zo.same S,bX.mpr rfl,x6,fE,⟨nM pm iy,λq yB=>x7 q (pm.mem_iff.mp yB),T.nm,by show ns.length<=20;omega,by show(L top).length<=9;omega,zD⟩,⟨xB,zX⟩⟩
  have yp:=yh _ _ z6;have yy:=Fl.same yh;have y7:=yh _ _ zL;have Fx:=xQ.same yh;have Fy:=yh _ _ Fq;have yQ:=(dz Fp yh).ok;obtain⟨O,nr,xY⟩:∃x y,ns=x::y:=by
   cases e:ns with
   |nil=>exact absurd e yy.ne
   |cons x y=>exact⟨x,y,rfl⟩
  have zh:O∈ns:=by rw[xY];exact aV
  have zi:∀{G:Hp},aB yj G->G xo=ce (V.str O::nr.map V.str):=λ{G} S=>by have:=S _ _ yy.hl;rw[xY]at this;exact this
  have zQ:∀{G:Hp}{xp:Up}{x:cq},x∈cs->aB yj G->G xp=bn [.str x.1,.str x.2.1]->cm G ds (.ref xp) (ih (.int x.2.2.2)):=λ{G xp x} D S e=>by rw[<-C3 T.knd D];exact cm.t (k:=dy (ky x)) (S _ _ Fy) e
  have Fz:=oh yr zO;clear Fn Fo z6 Fl zL xQ Fq Fp yh yE I xb zc yo zj Fu Fv Ft Fs bv Fw;refine cp g λU g=>?_;intro C M;obtain⟨x,D,xm,zr⟩:=T.mem (di zO) zh;refine ek rfl rfl rfl (eK (zi (aB.refl _)) b4 (k6.mk (th:=(yb,top,[])) (a:=(O,"")) rfl (ask (aB.refl _) zh (.inl rfl)) λr zf yY zY I av=>?_));obtain rfl:r=.told x.2.2.2:=T.told pm D (by rw[xm,zr,Fz];exact zf)
  refine ek rfl rfl rfl (eK (zi I) b4 ⟨bF,λxp J2 xb _ ym=>⟨ds,_,rfl,zQ D (I.trans xb) (by rw[xm,zr];exact ym),bF,λt8 J3 zc _ zm=>?_⟩⟩)
  obtain⟨y1,y2⟩:=Cs x.2.2.2;have yl:=I.trans (xb.trans zc);refine⟨_,_,l9 (jP.same av (xb.trans zc)),l9 (r:=.told x.2.2.2) zm,y1,y1,y2,_,rfl,ite_ff (by rw[G2 _ y1];rfl) ?_⟩
  refine cp g λU g=>?_;intro C M;refine⟨_,rfl,yd,_,rfl,.inl (au.of (yl _ _ yp)),_,_,rfl,rfl,_,rfl,by omega,by rw[aE];omega,lR (λi σ G=>∃zE:a2 V,σ=[bd a,bd xI,ih (.bl bs),bd lk,bd t,bd za,ih (.int m),ih (.str top),bd yd,ih (.bl yX),bd xo,ih (.str yb),bd yc,bd ds,bd xJ,zE,none,none]/\aB yj G)
   ⟨none,rfl,yl⟩ ?_ ?_⟩
  ·rintro i σ G hi ⟨zE,rfl,N⟩
   refine jx ?_;intro C E2;rw[aE]at hi;have ye:i+1<(L top).length:=by omega
   rw[show(0:Int)+(i:Int)=i by omega]
   have xF:(L top)[i]?=ih (L top)[i]:=bz (by omega)
   have yF:(L top)[i+1]?=ih (L top)[i+1]:=bz ye;have xR:=qL yr xF yF;obtain⟨x,D,xm,zr⟩:=T.mem (di yF) zh;have mi:=di xF;generalize (L top)[i]=ki at xF xR mi;generalize (L top)[i+1]=kj at yF xR xm;refine ek rfl rfl rfl (eK (zi N) b4 (a4 rfl rfl (fe (N _ _ yp) (cF (by rw[dQ,xF];rfl)) (k6.mk (th:=(yb,top,[])) (a:=(O,ki)) rfl (ask N zh (.inr mi)) λr zf yY zY I av=>?_))))
   obtain rfl:r=.told x.2.2.2:=T.told pm D (by rw[xm,zr,xR];exact zf)
   have zd:=N.trans I;refine ek rfl rfl rfl ⟨_,_,rfl,rfl,fe (zd _ _ yp) (cF (by rw[dQ,yF];rfl)) (af rfl (eK (zi zd) b4 ⟨bF,λxp J2 xb _ ym=>⟨ds,_,rfl,zQ D (zd.trans xb) (by rw[xm,zr];exact ym),bF,λt8 J3 zc _ zm=>?_⟩⟩))⟩
   obtain⟨y1,y2⟩:=Cs x.2.2.2;exact⟨_,_,l9 (jP.same av (xb.trans zc)),l9 (r:=.told x.2.2.2) zm,y1,y1,y2,_,rfl,ite_ff (by rw[G2 _ y1];rfl) (af rfl (zd.trans (xb.trans zc)))⟩
  clear zm ym av zf xm zr D y1 y2 yl I xb zc Fz zO;rintro σ G ⟨zE,rfl,N⟩;obtain⟨lo,R,x0⟩:∃xs x,L top=xs++[x]:=⟨_,_,(Vw j2).symm⟩;have y0:(L top)[(L top).length - 1]?=ih R:=by rw[x0];simp
  have Ru:∀{G:Hp},aB yj G->G yd=ce (lo.map V.str++[V.str R]):=λ{G} S=>by have:=S _ _ yp;rw[x0,bc]at this;exact this
  obtain⟨no,W,yu⟩:∃xs x,ns=xs++[x]:=⟨_,_,(Vw yy.ne).symm⟩;have FC:ns[ns.length - 1]?=ih W:=by rw[yu];simp
  have VG:∀{G:Hp},aB yj G->G xo=ce (no.map V.str++[V.str W]):=λ{G} S=>by have:=S _ _ yy.hl;rw[yu,bc]at this;exact this
  have mz:=di y0;have Rv:=di FC;refine cp g λU g=>?_;intro C M;refine ek rfl rfl rfl (eK (zi N) b4 (af rfl ⟨1,rfl,fe (Ru N) (pG _ _) (k6.mk (th:=(yb,top,[])) (a:=(O,R)) rfl (ask N zh (.inr mz)) λr zf yY zY I av=>?_)⟩));obtain rfl:r=.miss O:=T.miss y0 zf;have zd:=N.trans I;refine af rfl (eK (zi zd) b4 ⟨bF,λt8 J3 zc _ zm=>?_⟩);obtain⟨y1,y2⟩:=KY (T.nm O zh);have zF:=zd.trans zc;refine⟨_,_,l9 (jP.same av zc),l9 (r:=.miss O) zm,y1,y1,y2,_,rfl,ite_ff (by rw[G2 _ y1];rfl) ?_⟩
  clear zm av zf y1 y2 zd I zc N;refine cp g λU g=>?_;intro C M;have yz:=(dz yQ zF).ok;refine af rfl (eK (zi zF) b4 ⟨gC,λtA J4 yo _ hA=>?_⟩);have yR:=zF.trans yo;refine af rfl (eK (zi yR) b4 ⟨bF,λb1 J5 zj _ h1=>⟨eo,λb2 J6 zb _ h2=>⟨bF,λtB J7 xa _ hB=>⟨bF,λVH z0 yi _ zR=>?_⟩⟩⟩⟩);have xS:=zj.trans (zb.trans (xa.trans yi));have ze:=yR.trans xS;have xv:=(dz yQ ze).ok;have rA:Rep z0 (.ref tA) (.tuple [.str "ahead",.str O,.int 1]):=.tup (xS _ _ hA) (.cons (.str _) (.cons (.str _) (.cons (.int _) .nil)));have rB:Rep z0 (.ref tB) (.tuple [.str "behind",.tuple [gy O]]):=.tup (yi _ _ hB) (.cons (.str _) (.cons (.tup ((xa.trans yi) _ _ h2) (.cons (.tup ((zb.trans (xa.trans yi)) _ _ h1) (.cons (.str _) (.cons (.str _) .nil))) .nil)) .nil));have na:("add" : Gv)≠ "ask" :=by decide +kernel
  have eA:Ent (.tuple [.str "ahead",.str O,.int 1]):=.ahead _ _ (T.nm O zh) (by decide)
  have eB:Ent (.tuple [.str "behind",.tuple [gy O]]):=.behind _ (by show 1<=4;decide) λd zB=>by rw[bX.mp zB];exact .ask _ (T.nm O zh)
  have gA:Rg (gy O) (bM (.tuple [.str "ahead",.str O,.int 1])):=⟨λd zB=>by
   rcases bj.mp zB with z|z
   ·exact .inr (.inr z)
   ·exact .inl (by rw[bX.mp z];rfl),aV⟩
  have gB:Rg (gy O) (bM (.tuple [.str "behind",.tuple [gy O]])):=⟨λd zB=>.inr (.inr (bX.mp zB)),aV⟩;refine af rfl (eX (p:=xI) (m:=2) xv (by decide) (by decide) λdg zg g0 g1 xg=>?_)
  have xk:=kG xv xg;obtain⟨ya,d,FD,rd,ed,rg⟩:∃ya d,cB [V.ref tA,V.ref tB] dg=ih (V.ref ya)/\Rep zg (.ref ya) d/\Ent d/\Rg (gy O) (bM d):=by
   obtain⟨j,rfl⟩:=m1 g0;have hj:j=0\/j=1:=by omega
   rcases hj with rfl|rfl
   ·exact⟨tA,_,cF rfl,eA.keep rA xk,eA,gA⟩
   ·exact⟨tB,_,cF rfl,eB.keep rB xk,eB,gB⟩
  have Rw:∀s∈bM d,a3 s = "ask" -> eI s∈ns:=λs hs zH=>by
   rcases rg.al s hs with z|z|z
   ·rw[zH]at z;exact absurd z (by decide +kernel)
   ·rw[zH]at z;exact absurd z (by decide +kernel)
   ·rw[z];exact zh
  have yS:∀{l:Up}{xs:am Gv},z0 l=ce (xs.map V.str)->zg l=ce (xs.map V.str):=λe=>xg.kp _ _ e (iO xv e);have z7:=xg.kp _ _ zR (by
   rintro rfl;obtain⟨x,y,e0,_⟩:=xv;rw[zR]at e0;cases e0)
  have xC:=yS (ze _ _ yp);have yC:=yS (ze _ _ yy.hl);have x8:=xg.kp _ _ (ze _ _ y7) (aP Rt);have zS:b7 zg kvs (cs.map hV):=(Fx.same ze).keep xk iy.ent;have FE:zg xJ=bn [.ref t,.ref tb,.ref tt]:=xk _ _ (ze _ _ zl.hw);have FF:zg tt=bn [V.ref xj]:=xk _ _ (ze _ _ zl.ht);have FG:i8 zg [V.ref xj] [(yb,top,[])]:=(zl.tv.same ze).keep xk;have xT:zg t=ih (.bT o (.tup ws)):=xg.kp _ _ (ze _ _ zo.ht) (by
   rintro rfl;obtain⟨x,y,e0,_⟩:=xv;rw[ze _ _ zo.ht]at e0;cases e0)
  have FH:cK zg ws Qb:=(zo.fv.same ze).keep xk;clear rA rB eA eB gA gB hA h1 h2 hB zR yo zj zb xa yi xS yR ze zF yz xv xg xk yS zo zl Fx Fy y7 yp yQ zQ ask;have y8:zg yd=ce (lo.map V.str++[V.str R]):=by have:=xC;rw[x0,bc]at this;exact this
  have z8:zg xo=ce (no.map V.str++[V.str W]):=by have:=yC;rw[yu,bc]at this;exact this
  refine fe z7 FD ?_;refine a4 rfl rfl ⟨1,rfl,fe y8 (pG _ _) (af rfl ⟨1,rfl,fe z8 (pG _ _) ⟨bF,λxp yf xc _ ym=>?_⟩⟩)⟩;have x9:yf xp=bn ((dy (R,W)).map kV):=ym;have zp:=xc _ _ x8;have xW:=zS.length;have kf:=iy.a5;refine⟨yc,_,rfl,eP.t (k:=dy (R,W)) zp x9 (by rw[aX];omega),?_⟩
  obtain⟨zy,FJ,yT⟩:=(zS.same xc).put (k:=R) (n:=W) iy.nd (rd.same xc);have xl:fZ zy:=M1 iy (by
   obtain⟨x,D,e1,e2⟩:=T.mem mz Rv;exact aY.mpr ⟨hV x,aY.mpr ⟨x,D,rfl⟩,by rw[<-e1,<-e2];rfl⟩) ed yT
  have y9:∀q∈zy,∀s∈bM q.2.2,a3 s = "ask" -> eI s∈ns:=λq yB=>by
   rcases cj.mp (yT.mem_iff.mp yB) with z|z
   ·exact x7 q ((er.mp z).1)
   ·rw[bX.mp z];exact Rw
  have yv:∀{zs:am (List Key×V)} b xs,yf b=bn xs->upd yf yc (.dT zs) b=bn xs:=λb xs e=>by rw[ag (ar e zp)];exact e
  have zw:b7 (upd yf yc (.dT (putK kvs (dy (R,W)) (.ref ya)))) (putK kvs (dy (R,W)) (.ref ya)) zy:=FJ.keep yv xl.ent;have xx:upd yf yc (.dT (putK kvs (dy (R,W)) (.ref ya))) yc=ev (putK kvs (dy (R,W)) (.ref ya)):=ah;have yk:upd yf yc (.dT (putK kvs (dy (R,W)) (.ref ya))) yd=ce ((L top).map V.str):=by rw[ag (ar (xc _ _ xC) zp)];exact xc _ _ xC
  have zJ:upd yf yc (.dT (putK kvs (dy (R,W)) (.ref ya))) xo=ce (ns.map V.str):=by rw[ag (ar (xc _ _ yC) zp)];exact xc _ _ yC
  have xM:upd yf yc (.dT (putK kvs (dy (R,W)) (.ref ya))) t=ih (.bT o (.tup ws)):=by rw[ag (ar (xc _ _ xT) zp)];exact xc _ _ xT
  have yM:cK (upd yf yc (.dT (putK kvs (dy (R,W)) (.ref ya)))) ws Qb:=(FH.same xc).keep yv;have zM:=yv (zs:=putK kvs (dy (R,W)) (.ref ya)) _ _ (xc _ _ FE);have xN:=yv (zs:=putK kvs (dy (R,W)) (.ref ya)) _ _ (xc _ _ FF);have yN:i8 (upd yf yc (.dT (putK kvs (dy (R,W)) (.ref ya)))) [V.ref xj] [(yb,top,[])]:=(FG.same xc).keep yv;generalize upd yf yc (.dT (putK kvs (dy (R,W)) (.ref ya)))=VI at zw xx yk zJ xM yM zM xN yN⊢;generalize putK kvs (dy (R,W)) (.ref ya)=Vx at zw xx;clear FG FF FE FH xT yC xC y8 z8 x8 z7 zS rd FD xc ym x9 zp xW kf FJ yv;refine cp g λU g=>?_;intro C M;refine a4 rfl rfl (oz.mk rfl xx zw xl λzT FK xU G1 I z9 FL xt=>af rfl (bf (I _ _ zM) mE ⟨gC,λyU zA xb _ Ex=>?_⟩));have xd:=I.trans xb;have zl:ix zA yU t zT tt [V.ref xj] [(yb,top,[])]:=⟨Ex,xd _ _ xN,yN.same xd,by show 1<=5;decide,λp yt=>by rw[bX.mp yt];exact Fh,by simp⟩
  have zo:FB zA t zT o ws FK Qb L xU:=⟨xd _ _ xM,E4,yM.same xd,fo,xb _ _ z9,cO.same xb FL,nM xt xl⟩;have ask:∀{zu:Hp},aB zA zu ->∀{n b:Gv},n∈ns->(b = "" \/ b∈L top)->jO yU t zT tt [V.ref xj] [(yb,top,[])] (yb,top,[]) o ws FK Qb L xU ns (n,b) zu:=λ{_} S {n b} xB zX=>⟨zl.same S,zo.same S,bX.mpr rfl,x6,fE,⟨nM xt xl,λq yB=>y9 q (xt.mem_iff.mp yB),T.nm,by show ns.length<=20;omega,by show(L top).length<=9;omega,zD⟩,⟨xB,zX⟩⟩
  have PU:=xd _ _ yk;have Ey:=xd _ _ zJ;have Rx:=xd _ _ xx;have Ry:=zw.same xd;have al:Alike ⟨L top,xU,[]⟩ ⟨L top,zy,[]⟩:=alike xt xl.nd (.refl _) fE;have Rz:ns[0]?=ih O:=by rw[xY];rfl
  clear zw xx yk zJ xM yM zM xN yN xd I xb FL z9 Ex;refine cp g λU g=>?_;intro C M;refine⟨_,rfl,xo,rfl,⟨_,au.of Ey⟩,jv (xs:=ns.map V.str) (λi σ G=>∃zU xV:a2 V,σ=[bd a,bd xI,ih (.bl bs),bd lk,bd t,bd za,ih (.int m),ih (.str top),bd yd,ih (.bl yX),bd xo,ih (.str yb),bd yc,bd ds,bd yU,zE,zU,xV]/\aB zA G)
   ⟨none,none,rfl,aB.refl _⟩ (λi σ G _ ab=>by obtain⟨_,_,_,S⟩:=ab;exact au.of (S _ _ Ey)) ?_ ?_⟩
  ·rintro i x σ G D ⟨zU,xV,rfl,N⟩
   refine jx ?_;intro C E2;obtain⟨ye,rfl⟩:=pZ D;have xu:=gj ye;generalize ns[i]=name at xu⊢;refine iR λU g=>?_;intro C E3;refine ek rfl rfl rfl (k6.mk (th:=(yb,top,[])) (a:=(name,"")) rfl (ask N xu (.inl rfl)) λr zf yY zY I av=>?_);obtain⟨yI,rfl⟩:=T.f3 y0 FC Rz (xt.trans yT) ((xt.map bC).nodup_iff.mpr xl.nd) rg xu zf;obtain⟨tm,h1,h2⟩:=av;have zd:=N.trans I;have yJ:u9 ⟨L top,zy,[]⟩ ns yI:=eN.is (al.comes zf) yr T.j2 y9;have zI:=og yJ.nd yJ.gE;refine i4 g ?_;intro C;refine af rfl (bf h1 b4 ⟨rfl,_,rfl,?_⟩);refine a4 rfl rfl λdk RA=>?_;have zv:=aK (o:=.dK []) RA;refine af rfl (bf (zv _ _ h1) dG (rL.mk rfl ⟨zv _ _ (zd _ _ PU),zv _ _ (zd _ _ Rx),(Ry.same zd).same zv,xl,ah,xX⟩ (zv _ _ h2) yJ (by omega) (λn xB=>T.nm n (yJ.gE n xB)) λzu S'=>af rfl ?_))
   exact⟨_,_,rfl,zd.trans (zv.trans S')⟩
  ·rintro σ G ⟨zU,xV,rfl,N⟩
   refine i4 g ?_;intro C;exact q G
end d9
namespace d9
open L2 W
def FO(K:X2)(LE M N:Up):Bool:=qu K M&&(mroIn K M (.ref M)==ih true&&(XN K (.ref M) "name" == ih none&&(Yb K (.ref M)&&(readsIn K LE (.type "type")&&(specialIn K (.ref LE) "__getattribute__" == ih (ih (.builtin "type.__getattribute__"))&&(qu K N&&(mroIn K N (.ref M)==ih false&&(mroIn K N (.ref N)==ih true&&(XN K (.ref N) "names" == ih none&&Yb K (.ref N))))))))))
theorem all_mk{l:ZL}{yc:Up}(X:K.In h)(G:h.Ns UT mg)(zk:mg "law" = ih (.ref yc)){LE N A q:Up}{xl:Tok}{ze:a2 Up}{xf:Array (Option i')}{yf:i'}{zf:Nat}{xg yg:a2 Up}{zg:Array (Option i')}{xh yh zh xi u yi:i'}
  (hd:rR K [pr "is_name" nJ,pr "check_name" t7,pr "goes_first" sM,pr "steps_of" tD,pr "merged" nK,pr "least_free" qs,pr "wish_against" n8,pr "lines_of" me,pr "line_from" ng,pr "finds_in" tE,pr "is_behind" s6,pr "check_behind" t9,pr "entries_by_place" nz,pr "is_thing" nA,pr "check_thing" ub,pr "kind_and_own" nB,pr "whole_asked" sE,pr "whole_of" tF,pr "round_from" kg,pr "_law_pot" vy,pr "_law_digit" nU,pr "_law_names" iW,pr "_law_merged" ia,pr "_law_line" nV,pr "_law_parents" s7,pr "_law_family" nC,pr "_law_called" uc,pr "_law_number" ud,pr "_law_spot" uU,pr "_law_steps" ue,pr "_law_leads" nW,pr "_law_is_round" kC,pr "_law_told" uV,pr "_law_chain" uC,pr "_law_rung" uW,pr "_law_sum" vz,pr "_law_rungs" uD,pr "_law_triples" nD,pr "law" kU])
  (hz:vw K ["len","max","min","abs","range","any","all","list","tuple","enumerate","isinstance","str","dict","sorted","int","bool","set"])
  (B:nsIn K UT "LineError" = ih (ih (.ref LE)))
  (cD:CO K "Finds" D ["lines","entries","hits","met"] [tr "__init__" "Finds.__init__" uX,tr "look" "Finds.look" uY,tr "walk" "Finds.walk" uZ])
  (cC:CO K "Whole" C ["finds","kind","own","kept","known","begun"] [tr "__init__" "Whole.__init__" uE,tr "forebears" "Whole.forebears" sN,tr "tell" "Whole.tell" u0,tr "enter" "Whole.enter" nX,tr "go_on" "Whole.go_on" u1,tr "come_to" "Whole.come_to" uf,tr "settle" "Whole.settle" nL])
  (cR:CO K "Reckoning" R ["asking","where","left","total","rested"] [tr "__init__" "Reckoning.__init__" uF,tr "step_by" "Reckoning.step_by" ug,tr "take_in" "Reckoning.take_in" uh])
  (xM:XO K "Missing" "Missing.__init__" "name" M pM)
  (xN:XO K "Endless" "Endless.__init__" "names" N pN)
  (zi:nsIn K UT "number_asked" = ih (ih (.ref q)))
  (xj:K.lookup q=ih ⟨xh,xg,.func (fnOf "number_asked" "number_asked" (dA lS) (bB lS) (aH lS) (.ref A) yh zh xi yg u yi),zg⟩)
  (yj:codeIn K u "number_asked" = true)
  (y:Yb K (.ref q)=true)
  (zj:K.lookup A=ih ⟨yf,ze,.seq #[.str "" xl] zf,xf⟩)
  (r:FO K LE M N=true)
  (E:findCls K (.ref LE) (.type "type") "__init__" = ih (.val (.builtin "ValueError.__init__"))) :
  ∃fd:Xt,(∀(s:Ur) (v:i'),Zi s fd ⟨[v],[]⟩ [("_law_script",v)]) /\∀base:XD,K.In base->base.Ns UT mg->aT l.prog w K mg base aI 11 yc fd ["_law_script"] (my K):=by
 have z:∀x∈_,mg x=none:=CS X G hz;obtain⟨yl,zl,xm,ym,zm,xn,yn,zn,xo,yo,zo,xp,yp,zp,xq,yq,zq,xr,yr,hP,hD,hN,zr,xt,yt,zt,xu,yu,zu,xv,yv,zv,xw,yw,zw,xx,yx,zx,hL,-⟩:=hd;obtain⟨VJ,VL,xy,F,H,I⟩:=gn X G yl "thing";obtain⟨VM,VN,yy,zy,xz,yz⟩:=gn X G zl "thing";obtain⟨VO,VP,zz,xA,yA,zA⟩:=gn X G xm "entry";obtain⟨VQ,VR,xB,yB,zB,xC⟩:=gn X G ym "entry";obtain⟨VS,VT,yC,zC,xD,yD⟩:=gn X G zm "rows";obtain⟨VU,VV,zD,VW,xE,yE⟩:=gn X G xn "rest";obtain⟨VX,VY,zE,ac,xF,yF⟩:=fh X G yn "rest" "name";obtain⟨V0,V1,zF,xG,yG,zG⟩:=gn X G zn "family";obtain⟨V2,V3,xH,yH,zH,xI⟩:=t4 X G xo "lines" "kind" "parents";obtain⟨V4,V5,yI,zI,xJ,yJ⟩:=fh X G yo "family" "book";obtain⟨V6,V7,zJ,xK,yK,zK⟩:=fh X G zo "line" "thing";obtain⟨V8,V9,xL,yL,zL,yM⟩:=fh X G xp "line" "thing";obtain⟨V',Wa,zM,yN,zN,xO⟩:=gn X G yp "book";obtain⟨Wb,Wc,yO,zO,xP,yP⟩:=fh X G zp "world" "thing";obtain⟨Wd,We,zP,xQ,yQ,zQ⟩:=fh X G xq "world" "thing";obtain⟨Wf,Wg,xR,yR,zR,xS⟩:=fh X G yq "world" "thing";obtain⟨Wi,Wj,yS,zS,xT,yT⟩:=l5 X G zq "world" "thing" "name" "behind";obtain⟨Wk,Wl,zT,xU,yU,zU⟩:=fh X G xr "world" "thing";obtain⟨Wm,Wn,xV,yV,zV,xW⟩:=fh X G yr "standing" "again";obtain⟨fP,dP,FP,kP,bP,mP⟩:=fh X G hP "_law_script" "_law_k";obtain⟨fD,dD,t,n,g,i⟩:=fh X G hD "_law_pot_here" "_law_many";obtain⟨fN,dN,FN,zc,xd,mN⟩:=fh X G hN "_law_pot_here" "_law_many";obtain⟨Wo,Wq,yW,Wr,zW,xX⟩:=gn X G zr "_law_rows";obtain⟨Ws,Wt,yX,zX,xY,yY⟩:=t4 X G xt "_law_lines" "_law_kind" "_law_own";obtain⟨Wu,Wv,zY,x0,y0,z0⟩:=fh X G yt "_law_pot_here" "_law_made";obtain⟨Ww,Wx,z1,z2,y3,z3⟩:=fh X G zt "_law_pot_here" "_law_kinds";obtain⟨Wy,Wz,y4,z4,y5,z5⟩:=l5 X G xu "_law_pot_here" "_law_many" "_law_alike" "_law_kinds";obtain⟨WA,WB,y6,J,L,O⟩:=gn X G yu "_law_pot_here";obtain⟨WC,WD,z6,y7,z7,y8⟩:=l5 X G zu "_law_line_here" "_law_book" "_law_name" "_law_behind";obtain⟨WE,WG,z8,P,Q,S⟩:=gn X G xv "_law_entry";obtain⟨WH,WJ,y9,z9,RB,RC⟩:=l5 X G yv "_law_line_here" "_law_book" "_law_own" "_law_name";obtain⟨WK,WL,RE,RF,RG,RH⟩:=l5 X G zv "_law_line_here" "_law_book" "_law_own" "_law_names_here";obtain⟨WM,WN,RJ,RK,RL,RM⟩:=l5 X G xw "_law_world" "_law_thing" "_law_name" "_law_behind";obtain⟨WO,WQ,RN,RO,RP,RQ⟩:=gn X G yw "_law_kinds";obtain⟨WR,WS,RS,RT,RU,RV⟩:=fh X G zw "_law_pot_here" "_law_step";obtain⟨WT,WU,RW,RX,RY,aa⟩:=fh X G xx "_law_steps_here" "_law_behind";obtain⟨WV,WW,R0,R1,R3,R4⟩:=t4 X G yx "_law_pot_here" "_law_line_here" "_law_names_here";obtain⟨WX,WY,R5,R6,R7,R8⟩:=gn X G zx "_law_book";obtain⟨fL,dL,yd,aL⟩:=hL;cases zk.symm.trans (jo X G aL)
 have b:∀{x:Gv},x∈_->mg x=none:=λ{x} m=>z x m;have a:dW mg:=⟨b (by decide),b (by decide),b (by decide),b (by decide),b (by decide),b (by decide),b (by decide),b (by decide),b (by decide),b (by decide)⟩
 have c:hI mg:=⟨b (by decide),b (by decide),b (by decide),b (by decide)⟩
 have B3:Ei mg:=⟨b (by decide),b (by decide)⟩
 obtain⟨⟨aD,R9,R',Sa,Sb,Sd,Se,Sf⟩,Sg,Sh,Si,-⟩:=cD;obtain⟨ad,W0,Sj,T,Sk⟩:=t5 Sg "self" "lines" "entries";obtain⟨W2,W3,Sl,U,V⟩:=t6 Sh "self" "kind" "name" "behind";obtain⟨W4,W5,Sm,Sn,So⟩:=t6 Si "self" "kind" "name" "behind";obtain⟨⟨aC,Sq,Sr,Ss,Su,Sv,Sw,Sx⟩,Sy,Sz,SA,SD,SE,SF,SG,-⟩:=cC;obtain⟨W6,W7,SH,W,SI⟩:=LN Sy "self" "finds" "kind" "own" "kept";obtain⟨W8,W9,SJ,SK,SM⟩:=LM Sz "self";obtain⟨Xa,Xb,SN,SO,SQ⟩:=nI SA "self" "first";obtain⟨Xc,Xd,SR,SS,SU⟩:=t5 SD "self" "standing" "asking";obtain⟨Xe,Xf,SV,SW,SX⟩:=nI SE "self" "reckoning";obtain⟨Xg,Xh,SY,S0,S1⟩:=t5 SF "self" "reckoning" "step";obtain⟨Xi,Xj,S2,S3,S4⟩:=nI SG "self" "reckoning";obtain⟨⟨aR,S5,S6,S7,S8,S9,Ta,Tb⟩,Tc,Td,Te,-⟩:=cR;obtain⟨Xk,Xl,Tf,Y,Tg⟩:=t6 Tc "self" "asking" "where" "steps";obtain⟨Xm,Xn,Ti,Tj,Tn⟩:=nI Td "self" "step";obtain⟨Xo,Xp,To,Tp,Tq⟩:=nI Te "self" "told";have o:∀{x:Gv},x∈_->XN K (.ref D) x=ih none:=λ{x} m=>qb Sf m;have j:∀{x:Gv},x∈_->XN K (.ref C) x=ih none:=λ{x} m=>qb Sx m;have k:∀{x:Gv},x∈_->XN K (.ref R) x=ih none:=λ{x} m=>qb Tb m;have f:jN K mg D:=⟨⟨R9,R',Sa,Sb⟩,o (by decide),o (by decide),o (by decide),o (by decide),jo X G aD⟩
 have e:ip K mg R:=⟨⟨S5,S6,S7,S8⟩,k (by decide),k (by decide),k (by decide),k (by decide),k (by decide),jo X G aR⟩
 have d:hM K mg C:=⟨⟨Sq,Sr,Ss,Su⟩,j (by decide),j (by decide),j (by decide),j (by decide),j (by decide),j (by decide),jo X G aC⟩
 obtain⟨Tr,Xq,xa,Ts,aM,xk⟩:=xM;obtain⟨Tt,Xr,ya,Tu,aN,yk⟩:=xN;have Tv:=D2 xa "self" "name";have Tw:=D2 ya "self" "names";have za:=LH (st:=lS) xj yj y;have Tx:=za.binds (ps:=j1) (ds:=[]) zj λ_ _ _ _ _ _ us hl=>by
  have h4:us.length=4:=by simpa using hl
  obtain⟨_,_,_,_,rfl⟩:=qW h4;exact⟨_,rfl,rfl⟩
 have Tz:=jo X G zi;unfold FO at r;simp only[hZ,df]at r;obtain⟨x1,x2,x3,x4,x5,x6,x7,x8,x9,y1,y2⟩:=r;have zd:u5 K mg LE M Tr _:=⟨jo X G aM,xk,Ts.fn,x4,xa,⟨x5,x6,E⟩,jo X G B,Tv,CU x1,x3⟩;have xe:vE K mg LE N Tt _:=⟨jo X G aN,yk,Tu.fn,y2,ya,⟨x5,x6,E⟩,jo X G B,Tw,CU x7,y1⟩;obtain⟨_,_,_,_,_,_,_,_,_,rfl,_,_⟩:=yd.ex;exact⟨_,λs v=>.of_eq rfl,λbase _ _ =>
  let xb:=LQ xy a c
  let TB:=MZ yy ⟨xb,F,H,I⟩
  let TC:=N0 zz
  let TF:=Jq yC a zE xF yF zD xE yE
  let TH:=NH xH a ⟨TF,zC,xD,yD⟩
  let TJ:=KC zF a ⟨TH,yH,zH,xI⟩
  let TK:=NO zM
  let TL:=L3 Sm f
  let yb:=L4 Sl f TL Sn So
  let TM:=NT yI f ⟨TJ,xG,yG,zG⟩ ⟨TK,yN,zN,xO⟩ ⟨Sd,T.at_,T.fn,Se⟩ (MV Sj f) Sk
  let TN:=NP zJ c
  let TQ:=NQ xL ⟨TN,xK,yK,zK⟩
  let TR:=NV yO ⟨xb,F,H,I⟩
  let TU:=NW zP ⟨TR,zO,xP,yP⟩
  let TV:=NY xR ⟨TU,xQ,yQ,zQ⟩
  let TX:=Od zT c d ⟨TV,yR,zR,xS⟩ ⟨TM,zI,xJ,yJ⟩ ⟨Sv,W.at_,W.fn,Sw⟩ (MW SH c d) SI
  let TY:=N1 xB
  let ab:=N2 Tf a e
  let T1:=N5 SY d f e yb U V
  let T2:=N6 SV d e T1 S0 S1 (N3 Ti e) Tj Tn (N4 To e) Tp Tq
  let T3:=N7 S2 a c (b (by decide)) d e
  let T4:=Oa xV a e
  let T6:=Ob SR d f e zd xe ⟨T4,yV,zV,xW⟩ yb U V ⟨TC,xA,yA,zA⟩ ⟨TY,yB,zB,xC⟩ ⟨S9,Y.at_,Y.fn,Ta⟩ ab Tg
  let T7:=Oc SN d T6 SS SU T2 SW SX T3 S3 S4
  let T8:=Of yS d ⟨TX,xU,yU,zU⟩ ⟨TB,zy,xz,yz⟩ ⟨TQ,yL,zL,yM⟩ (L8 SJ d f) SK SM T7 SO SQ
  let T9:=Og za d ⟨T8,zS,xT,yT⟩
  let p:=tG t
  let T':=NN z1 a c (MQ zY a t g i) x0 y0 z0 (NK yX a yW zW xX) zX xY yY
  let GP:=MN FP a
  let ye:=Kx FN a t g i
  let Ua:=Ol y4 ⟨ye,zc,xd,mN⟩
  let zb:=MR y6 ⟨p,n,g,i⟩
  let Ub:=Oi z6
  let xc:=Oj z8 a
  let Uc:=Om y9 a ⟨Ub,y7,z7,y8⟩ ⟨xc,P,Q,S⟩
  let Ud:=Ov RE a c (b (by decide)) ⟨Uc,z9,RB,RC⟩
  let Ue:=Oh RJ zd xe x2 x8 x9 ⟨T9,y,Tx,Tz⟩
  let Ug:=Ox RN a c
  let Uh:=Oo RS ⟨p,n,g,i⟩ ⟨zb,J,L,O⟩
  let Ui:=Oq RW
  let Uj:=Ou R0 a ⟨p,n,g,i⟩ ⟨zb,J,L,O⟩ ⟨Uh,RT,RU,RV⟩ ⟨xc,P,Q,S⟩ ⟨Ui,RX,RY,aa⟩
  let Uk:=Ot R5 a c
  M3 yd a c B3 ⟨GP,kP,bP,mP⟩ ⟨p,n,g,i⟩ ⟨ye,zc,xd,mN⟩ ⟨T',z2,y3,z3⟩ ⟨Ug,RO,RP,RQ⟩ ⟨Ua,z4,y5,z5⟩ ⟨Uj,R1,R3,R4⟩ ⟨Uk,R6,R7,R8⟩ ⟨Ue,RK,RL,RM⟩ ⟨Ud,RF,RG,RH⟩⟩
theorem walk{l:ZL}{q:XJ}{d:DefRec}{K:Params->X2}(e:l.most=ih 63)(c:d.params.defaults=[])
  (g:∀(w:XT) (h:XD),YP w h->(K w.params).In h)
  (F:∀(w:XT) (mg:Gv->Option i') (b:Up) (h:XD),(K w.params).In h->h.Ns UT mg->mg d.name=ih (.ref b) ->
   ∃fd:Xt,(∀(s:Ur) (u:i'),Zi s fd ⟨[u],[]⟩ [("_law_script",u)]) /\∀base:XD,(K w.params).In base->base.Ns UT mg->aT l.prog w (K w.params) mg base aI 11 b fd ["_law_script"] (my (K w.params))) :
  WalkO q Qq XP YP l.row.toRowW d [] (λf vs=>Zz f vs):=
 L2.Lb (n:=63) (k:=11) (x:= "_law_script") (CX:=λ_=>aI) (sp:=λw=>my (K w.params)) e (by decide) c ⟨rfl,by decide,by decide,rfl⟩ g F (λ_ _ a ns i _ j=>my.mk rfl j i λ_=>rfl) λ_ _ _ _ _ z=>z
end d9
structure PySem.W.Fast:Prop where
 (tw9494053804047307780 tw4535354962050021876 tw11304756115914071379 tw13958414140776831255 tw9588477778869667055 tw11845021128619789808 tw6944264002012478343 tw2088503800219761141 tw2523021513544786516 tw3168897899010853805 tw8645110687419657965 tw13651835547592006122 tw11068508977443807014 tw18290845860975509896 tw1686429509204057548 tw8491832032484686518 tw6191484695925486086 tw6522997123824519335 tw1005528502813076841 tw17499089648827381217 tw12406778993136929535 tw14788558278125108019 tw6349789755184935866 tw3744982557254954824 tw3266093729867533100 tw3367266680754834450 tw13008498351241546653 tw8638845929164807493 tw18240419252123383051 tw9838727707227881673 tw17332962021944461239 tw12019791605187135392 tw11073296744344240132 tw4838436444363631769 tw2508299266731360741 tw17547854507031773184 tw3957112364122878433 tw8618463961921094136 tw17246427159296692987 tw4954213785342619745 tw8752786375734138749 tw6437855367814213854 tw266568615595194062 tw5668973675109375507 tw9797377402693744295 tw7622906494948180371 tw2680623685481896192 tw1872780306200838381 tw4411494261767283847 tw2958000317417631164 tw3655921658118529856 tw1744275527585176448 tw3230838395826319836 tw7050893252284255208 tw17847524584762164 tw8865404937669898934 tw10788548554798015472 tw4472906684774051692 tw2885708499775398775 tw1345578700675713617 tw12105582658474073838 tw10250675503103195620 tw3417543236881228721 tw809920888129903635 tw16877487495254463222 tw8487158719212211315 tw9074900085407940983 tw12861901776773737101 tw11324011800100064975 tw4613283184828925899 tw17144290160760447621 tw7948261861417185005 tw1066414578754294671 tw5114294987736685720 tw6716866071500902745 tw5200019537070373961 tw5772760004788805056 tw10633407003970516483 tw11163981173721269160 tw5874828061508399358 tw11845923062523225363 tw1059104654819661849 tw286696408963853814 tw17360773559210742363 tw8830148998173321607 tw6551708525369362792 tw13545808147766255093 tw3817676500352845072 tw5380309552066007902 tw17250909157791950094 tw9503752993156990496 tw5388227547694421463 tw6695987177049899001 tw13680850449401621909 tw17451693669556474590 tw7166126238180167226 tw5283996089660858625 tw8325655952589957915 tw15329082532758595527 tw6497285320562174361 tw15129056717098489636 tw635676386026174852 tw6485344134181272817 tw1958304659303639316 tw8811053459683762552 tw54622610958404329 tw720514723914169291 tw6967472643747197911 tw9840125124540299793 tw11784999996019205002 tw13737394446054880078 tw11554637160726577755 tw12808008937094124075 tw15993130664007422093 tw13060300512102242064 tw9257509756170506491 tw7043002813214776775 tw15211836955573330768 tw560468003442735758 tw7056969660610618987 tw13628318401393341375 tw15632435633789395088 tw15977800901850982895 tw12451419245309731817 tw5420763492026210755 tw1712092688881493170 tw10762968454995711378 tw17818660996596292081 tw18066919995029255649 tw18012484592771046420 tw14926469894253828513 tw13034792013890273610 tw2489199554949248183 tw13586056676458011858 tw3163422768612673044 tw12634453546687415081 tw9960399199679876339 tw14173614645613235677 tw15431185378386456157 tw5596778913891887506 tw9775501477974505911 tw2582083781087626219 tw10342024855338653521 tw550094692488937946 tw7583374744979351823 tw8593227834114814130 tw17653685443660278832 tw17684270130452655947 tw18424872878789497481 tw16232251755125023471 tw6092987678337197716 tw1702349432656923895 tw13538107298964789222 tw7708007105096516664 tw8637552399475084002 tw12414927889538357437 tw6236663081670626576 tw16955739103362725293 tw18212875509864755286 tw7152596676013030023 tw440858654256388233 tw188400795146015390 tw9956650633120262305 tw17371438459376139613 tw17892903245966419373 tw14120618953026740839 tw8439044180141126180 tw3904316633474527300 tw18231981409794915066 tw10951829740084291570 tw50360164546321070 tw10461601722953037771 tw12809690148045872804 tw228679686901331177 tw17556436584079598800 tw17152227246611042563 tw15163306099936357693 tw1107844170882005906 tw17714236886707874171 tw12173076234228228970 tw8671834675886802717 tw13395841740521811970 tw13990634826445872736 tw2757331539851716033 tw5407743939537045593 tw14312110130843800070 tw16337073844784661390 tw12265980003702470988 tw15636234304411838349 tw4084737058779665580 tw7112894953215074517 tw3146633196985455942 tw6421845721380009932 tw2642456745060665353 tw17838461008864971029 tw6972152837216064279 tw3756279265506658918 tw2800502615182661755 tw2598201237926148643 tw15354466641571037608 tw11027658200767886360 tw12911604832706613988 tw14340106840442445423 tw6263983329688652170 tw348959578355503730 tw6852337879250908531 tw239844587314910795 tw9159053485306429703 tw5041852733492294670 tw18161720841792753517 tw7632319083294124461 tw5641829822859832876 tw13404606787708767485 tw14725925885579837161 tw5489152492311365000 tw12492915334417821132 tw13713635739821496952 tw14468215591666840199 tw11384005173772233790 tw6500724309559720925 tw11203902352478801572 tw18416279412653592585 tw9812513209577158727 tw1892533773516755878 tw16894972658860814840 tw6368550836792913982 tw14008016210720869084 tw18232991607375799216 tw4820093502570951454 tw5827680793598504546 tw7680178782258084188 tw16563432095126261358 tw12424331278200884545 tw9732955984594933510 tw10800718956261104832 tw13005751550081507942 tw1143571795898849642 tw18176063689862013759 tw13960233300869369639 tw13035781088464164133 tw9255878888745561778 tw18248066052001186448 tw7409681310335178716 tw12201681274488902801 tw6256976988249579214 tw14163211829245431582 tw18082208013408584546 tw17643122583021576823 tw8480219771164690917 tw14216824823290146421 tw12433259524432986821 tw2350782031318241030 tw8144852535447319680 tw11656800612857273317 tw17186466179463914073 tw10034328010041792005 tw7460878831232422303 tw454961568957559352 tw15845345793016874119 tw8112050258274069778 tw6951120813047400886 tw4338937374882786451 tw9585051254204158824 tw14496761392244774284 tw3590476427935812968 tw2547161226406889852 tw14305885578938558008 tw10930361083833955238 tw3082187390837705250 tw4106353253960556454 tw703836879636624123 tw11285092070363227172 tw13407847852029999912 tw15238038850401907441 tw5335987187293453550 tw1285024859389981965 tw4034666524000030947 tw12808937327415081412 tw14221672457462400065 tw6412123026900556775 tw16019686171348786016 tw8257967844400229060 tw15179355443138878625 tw6477635132774830771 tw8447575447028899998 tw6404769181441127060 tw2302193195273986174 tw11361203123600321304 tw17271993234847802224 tw4550071900487308667 tw6267513487524826347 tw16748264159799529646 tw1570043382813266170 tw14867005175925799374 tw5070473851956056206 tw3280638922464644306 tw10050346829535667581 tw8510585817217935621 tw8439966815543839830 tw16000910921933102416 tw5413925739541379850 tw3328555602785643808 tw9578029441700926917 tw4421908510472519879 tw12167934941595102182 tw10924163249622612963 tw14998775465295901226 tw16063781158280160246 tw7246248497840212175:True)
open W PyProof.Rows
set_option maxRecDepth 100000 in
set_option maxHeartbeats 0 in
theorem PySem.Challenge.cw_parentlines_k48_whole_long_chains_come_h_holds : PySem.Challenge.rw_parentlines_k48_whole_long_chains_come_h.Holds := by
 w_on;o_law;k_head;(case hw=>w_witness2)
 k_fill
 refine d9.walk (l:=aaj) rfl rfl (λw h Y=>PySem.W.kIn_of Y) ?F
 case F =>
  intro w mg fa h KX G Ul;refine' d9.all_mk KX G Ul ?d ?z ?Um ?cD ?cC ?cR ?xM ?xN ?PV ?PX ?PY ?PZ ?P0 ?hx ?Uo
  (case d=>(repeat (refine' L2.NC ?a ?l ?c ?k ?_;(case a=>k_is);(case l=>k_is);(case c=>k_is);(case k=>k_is)));exact trivial)
  (case z=>(repeat' first|exact trivial|refine YN ?_ ?_) <;> k_is)
  (case cD|cC|cR=>refine' ⟨⟨?a,?_,?_,?_,?_,?_,?_,?n⟩,?m⟩;(case a=>k_is);(case n=>(repeat' first|exact trivial|refine YN ?_ ?_) <;> k_is);(case m=>(repeat (refine' L2.ND ?a ?i ?l ?c ?k ?_;(case a=>k_is);(case i=>k_is);(case l=>k_is);(case c=>k_is);(case k=>k_is)));exact trivial);all_goals k_is)
  (case xM|xN=>refine' L2.NF ?n ?a ?i ?l ?c ?k ?e;(case n=>k_is);(case a=>k_is);(case i=>k_is);(case l=>k_is);(case c=>k_is);(case k=>k_is);(case e=>kernel_rfl))
  (case Um=>k_is)
  (case PV=>k_is)
  (case PX=>k_is)
  (case PY=>k_is)
  (case PZ=>k_is)
  (case P0=>k_is)
  (case Uo=>k_is)
  (case hx=>kernel_rfl)
