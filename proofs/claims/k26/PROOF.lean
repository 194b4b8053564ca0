import PyProof.Rows.All
import Wide.All
import OpenK.AllK
import Wide.FinOn
import Lean
import PyProof.EqAt
import PyProof.EqKinds
import PyProof.TupleCall
import PyProof.ReprRoads
import PyProof.ReprBulk
import PyProof.EnumMake
import PyProof.EnumFor
import KE.KRevSl
import KE.KDictList
import PyProof.ZipIter
import PyProof.AttrMissHeap
import KE.KDictOf
import KE.KItemsList
import PyProof.Rows.ZipGen
import PyProof.CallFns
import PyProof.NsDelKeeps
import PyProof.StrWalks
import PyProof.FString5
import KE.KSortTup
import PyProof.SetRoads
import PyProof.SetNew
import PyProof.Rows.SetFrom
import PyProof.WalksMore
import PyProof.ForAny
import PyProof.DictWalks
import PyProof.MeetsDict
import PyProof.P3Eq
import KE.KEqDict
import PyProof.DictItemsLoops
import KE.KPairComp
import PySem.Challenge.RW_parentlines_k26_whole_parents_changed
set_option Elab.async false
set_option linter.all false
set_option maxRecDepth 100000
set_option maxHeartbeats 4000000
open PySem renaming wpAny_bind->ae,wpAny_pure->ak,sizeLine_eq->aN,wpAny_field->dX,wpAny_holding->eM,boot_len->gW,wpAny_newObj_type->jl,codeAny_builtin->jo,wpAny_call_entry->jP,wpAny_rule->lF,wpAny_setField_rec->lI,wpAny_mono->mn,wpAny_setState_of->mw,wpAny_truthy_bool->nM,wpAny_seqItems->nP,wpAny_typeOf->oZ,plainId_quiet->pj,wpAny_standAt->qE,wpAny_call->qF,mem_of_lookup->qG,wpAny_callSpecial?_slot->qH,wpAny_askSetting->qJ,codeAny_mono->sf,wpAny_Call_Name_kw->sg,wpAny_setField->sq,wpAny_throw->uy,wpAny_execs_nil->xf,wpAny_passesOwn->xg,wpAny_attempt->xj,wpAny_load->Ae,wpAny_loadPart->Ak,wpAny_runValue->Ar,wpAny_newList->As,wpAny_pyIter_list->Di,seqIndex_of->Dk,wpAny_loadPart_at->Dm,wpAny_isInstance->Dw,wpAny_onRaise->Dy,call_meets->Ko,wpAny_noRaise->Kt,codeAny_call_builtin->Kv,wpAny_getItem_str_slice->Kz,post_val_or_str->KA,wpAny_letGo->KJ,tupleKind_room_in1->KO,wpAny_of_eq->KP,wpAny_handled->KQ,wpAny_landsW->KR,fits_of_scanBound->KS,isSubtype_stop->KU,wpAny_pyIter_zip->KZ,wpAny_execs_cons->Tw,noFill_tuple_add->TK,seq_tuple_add->TL,evalPart_none->TU,slot_list_getitem->TV,wpAny_comprehension_free->TY,codeAny_of_tree->T6,wpAny_specialOf->Ui,wpAny_Try_except->Um,wpAny_looks_onW->Uo,wpAny_handleBy_cons->Uq,codeAny_handlers_test->Ur,typeLookup_type->Us,builtinLookup_eq_fast->Ut,isSubtype_type->Uy,wpAny_pyIter_slot->UA,wpAny_ite_split->UB,wpAny_updateSeq_pair->UM,wpAny_newFunctionEnv_cells->aj0,plainObj_wpAny_Assign_Attribute->akb,codeAny_handlers_suite_as->akf,wpAny_letOwnedTupleGo_zip->aku
open List renaming length_map->aA,mem_map->aU,mem_cons->aY,map_append->a8,mem_cons_self->bj,mem_cons_of_mem->cp,map_cons->cz,getElem?_eq_getElem->cP,getElem?_eq_some_iff->cR,size_toArray->cS,length_append->cZ,take_length->du,mem_append->dH,length_take->dJ,length_cons->eN,getElem?_map->eX,mem_singleton->ff,nodup_cons->gb,append_nil->gr,take_succ->gu,mem_append_right->gH,mem_of_getElem?->ia,getElem_mem->iO,length_singleton->i6,mem_filter->jk,lookup_cons->jn,not_mem_nil->jq,mem_append_left->ke,getD_eq_getElem?_getD->kf,nodup_append->mr,length_filter_le->nQ,mem_range->oW,all_eq_true->o7,nodup_nil->pz,filter_append->pA,map_map->qL,mem_filterMap->sd,length_replicate->sh,any_eq_true->sj,any_cons->uw,append_assoc->ux,replicate_succ'->uC,eq_nil_of_length_eq_zero->xk,pairwise_map->xp,filter_cons_of_pos->xq,getElem?_append_left->Af,length_drop->Ag,length_nil->Al,find?_cons->An,getElem?_eq_none->Aq,filter_cons_of_neg->Ay,drop_eq_getElem_cons->Dr,map_congr_left->Dx,map_drop->Dz,mem_of_mem_drop->DA,of_mem_zip->Kl,reverse_cons->Kn,map_nil->Kq,forIn_cons->Kr,forIn_nil->Ks,any_map->KH,getElem_of_mem->KL,length_reverse->KN,take_of_length_le->K0,sum_cons->K1,drop_length->K2,mem_of_mem_take->K4,filterMap_cons->Tt,getElem?_set_self->Tu,getElem?_set_ne->Tv,any_eq_false->Tz,take_sublist->TF,lookup_append->TX,length_range->T9,length_erase_of_mem->Ua,length_pos_of_mem->Ub,mem_erase_of_ne->Uc,drop_of_length_le->Ue,drop_zero->Ug,ext_getElem->Uv,nodup_iff_pairwise_ne->UJ,zipIdx_cons->UK,zipIdx_nil->UL,length_eq_one_iff->UP,mem_reverse->UQ,map_reverse->UR,filter_eq_self->US,mem_of_head?->UW,filter_cons->UZ,all_map->U0,perm_ext_iff_of_nodup->U1,getElem?_append_right->ajX,getElem_toArray->akc,take_append_drop->akh,length_eraseIdx->akn,getElem?_zip_eq_some->akt,length_eq_zero_iff->akw,length_pos_iff->akx,countP_eq_length_filter->akA,take_append_of_le_length->akD,length_dropLast->akE,cons_lt_cons_iff->akF
open Ne renaming symm->aO
open Nat renaming le_refl->aR,ne_of_lt->bp,zero_le->bG,le_trans->dG,lt_of_lt_of_le->gV,le_succ->lG,lt_irrefl->r9,ne_of_gt->se,le_add_right->sr,lt_succ_of_lt->uB,le_of_lt->w9,lt_trans->xi,not_lt_zero->Au,not_lt->Dq,lt_succ_self->Dv,lt_of_succ_lt_succ->KW,min_eq_left->UT,min_eq_right->UU
open PySem.Heap renaming get?_push_of_some->aT,lt_size->aV,get?_push_size->cu,get?_update_other->jm,size_push->lH,get?_update_self->nO,get?_none_of_le->Dh
open Bool renaming false_ne_true->de,and_eq_true->o6,and_eq_true_iff->qI,eq_iff_iff->xh,false_eq_true->Ai,and_true->Ax,or_false->Km,false_or->Ud
open Option renaming map_eq_some_iff->ib,map_some->Dg,bind_some->Kw,isSome_map->Uh,isSome_iff_exists->ajW
open PySem.PassesOwn renaming never->jt,leaving->K5
open Array renaming length_toList->jO,getD_eq_getD_getElem?->pq,getElem?_eq_getElem->xl,getElem?_eq_some_iff->Am,getElem?_toList->Dl,toList_inj->KC,size_append->KG,getElem?_eq_none->KY,toArray_toList->akd,mem_of_getElem?->aki,perm_iff_toList_perm->akj
open PySem.F renaming plainAttrs_list->kh,slot_list_append->qM,type_list_append->qN,called_set->uA,plain_list_iadd->Av,slot_zip_next->Aw,store_object->Dn,plain_any_loop->KI,slot_tuple_add->TM,entry_tuple_add->TN,args_tuple_add_2->TQ,excBase_ValueError->T7,slot_tuple_getattribute->Uu,entry_proto_collect->UC,plain_proto_collect->UD,entry_list_iadd->UE,entry_zip_next->UN,args_zip_next_1->UO,slot_list_index->UX,type_list_index->UY,attrBase_ValueError->aj8,plain_extend_loop->ako,slot_list_pop->akB,type_list_pop->akC
open PySem.Paired renaming length->mj
open PySem.Around renaming under_plainId->mq
open Sum.inr renaming inj->nL
open PySem.W renaming kia_one->oX,any_some->Aj,looks_mroIn->Dp,hideAll_none->Du,callWith_K->Ky,cellsFrom_some->TB
open Int renaming toNat_natCast->oY,eq_ofNat_of_zero_le->DB,emod_nonneg->K6,emod_lt_of_pos->K8
open List.Perm renaming refl->qK,append_left->Uz
open PySem.Heap.UpToSlots renaming trans->uz
open PyProof.Rows renaming slot_tuple_getitem->Ah,slot_tupleiter_next->Ao,callWith_type1->Dj,assignInOrder_cons->Tx,entry_tupleiter_next->Uj,args_tupleiter_next->Uk,callWith_builtin1->aj1
open PySem.Heap.SameBut renaming update->Ap
open PySem.Obj renaming data_mapFields->Ds,isFreed_of_fields->Ul
open PySem.SeqAt renaming eqv_refl->DC
open PySem.Value renaming isStrOf_shape->Kk
open PySem.Code renaming quiet_builtin->Ku
open PySem.W.Looks renaming here->Kx
open PyProof.Rows.F renaming plain_set_update_loop->Ux
open PySem.Calls renaming call_function_entry->UG,Name_function_global->ajP
open PySem.ReadAtMost renaming cons->UI
open List.Sublist renaming refl->U2,append->akH
open Classical renaming choose_spec->aks
def au:=@if_neg
def aB:=@if_pos
def eW:=@beq_iff_eq
def fc:=@congrArg
def f':=@Option.some.inj
def gI:=@decide_eq_true
def jr:=@or_false
def jN:=@decide_eq_false
def nN:=@if_true
def oV:=@beq_eq_false_iff_ne
def si:=@if_false
def xm:=@of_decide_eq_true
def T':=@List.length_filterMap_le
variable{xs N ps loose N' ks ss r own done:List PySem.Str}{us its:List PySem.Value}{x qual name cn:PySem.Str}{u cd doc pm cdv ct oc vl vu:PySem.Value}{a b it t l p C f sl B fI d I z i1 i2 l1 l2 fW fL fR fD pa fM wa fF fP fN fC fA dl df:PySem.Addr}{o ox ol:PySem.Obj}{h h' g base h0:PySem.Heap}{items:Array PySem.Value}{P prog q:PySem.Program}{w:PySem.World}{e tg iter elt value:PySem.Expr}{L Ps:PySem.Str->List PySem.Str}{pins:List (PySem.Addr×PySem.Obj)}{s s' s1 s2:PySem.Shared}{t' i j n n1 ep m:Nat}{ch fp:List PySem.Addr}{A:PySem.Around}{pos pos' apos tp p5 p6 p7:PySem.Pos}{rest rows:List (List PySem.Str)}{K:PySem.W.Frag}{c:Nat->PySem.Addr}{es ifs elts:List PySem.Expr}{body:List PySem.Stmt}{lo:Int}{dx an od:Option PySem.Addr}{mA mg:PySem.Str->Option PySem.Value}{env:PySem.Env}{kw:List (PySem.Str×PySem.Value)}{outer:List PySem.Env}{fd rD tM dP dL dN dR dA dW dI:PySem.FuncData}{kindOf:PySem.Str->Option PySem.NameKind}{sc scope:PySem.Scope}{oq:Array (Option PySem.Value)}{T:String}{hi:Option Int}{XP:(PySem.Str->Option PySem.Value)->PySem.Heap->Prop}{YP:PySem.World->PySem.Heap->Prop}{ns:List Int}{cells:List (PySem.Str×PySem.Addr)}{cA:List (Option Nat)}{R:PySem.Result->PySem.Shared->Prop}{tk:PySem.Tok}{b1:PySem.Stmt}{ci hv:Option PySem.Value}{Pv:Nat->PySem.Value->Prop}{av:PySem.Addr->Prop}{aa:List (PySem.Str×List PySem.Str)}
namespace L2
open PySem PySem.Spec PyProof.Rows
abbrev Key:=Sum Int Str
def vp:Key->Value->Bool
 |.inl k,v=>Value.isInt k v
 |.inr x,v=>Value.isStrOf x v
def abr (w:World):Key->Int
 |.inl k=>hashInt k
 |.inr x=>hashStr w x
theorem pC:∀ {k:Key}{v:Value},vp k v=true->(∃i t,k=Sum.inl i/\v=Value.int i t)\/(∃x t,k=Sum.inr x/\v=Value.str x t)
 |.inl i,v,h=>by
  obtain⟨t,e⟩:=Value.isInt_shape (k:=i) (v:=v) h;exact .inl ⟨i,t,rfl,e⟩
 |.inr x,v,h=>by
  obtain⟨t,e⟩:=Kk (x:=x) (v:=v) h;exact .inr ⟨x,t,rfl,e⟩
theorem Wm (i:Int) (t:Tok):vp (.inl i) (.int i t)=true:=by simp[vp,Value.isInt]
theorem Wn (x:Str) (t:Tok):vp (.inr x) (.str x t)=true:=by simp[vp,Value.isStrOf]
theorem Zc (a b:Int):decide ((Sum.inl a:Key)=Sum.inl b)=(a==b):=by
 by_cases e:a=b
 ·subst e;simp
 ·have h : ¬ (Sum.inl a:Key)=Sum.inl b:=fun q=>e (Sum.inl.inj q)
  rw[jN h];exact(oV.mpr e).symm
theorem Zd (a b:Str):decide ((Sum.inr a:Key)=Sum.inr b)=decide (a=b):=by
 by_cases e:a=b
 ·subst e;simp
 ·have h : ¬ (Sum.inr a:Key)=Sum.inr b:=fun q=>e (nL q)
  rw[jN h,jN e]
theorem Ze (a:Int) (b:Str):decide ((Sum.inl a:Key)=Sum.inr b)=false:=jN (fun q=>nomatch q)
theorem Zf (a:Str) (b:Int):decide ((Sum.inr a:Key)=Sum.inl b)=false:=jN (fun q=>nomatch q)
def cL (prog:Program) (w:World):PySem.KeyKind prog w Key where
 is:=vp
 hash:=abr w
 inj:=fun v a b ha hb=>by
  rcases pC ha with⟨i,t,rfl,rfl⟩|⟨x,t,rfl,rfl⟩
  ·rcases pC hb with⟨j,u,rfl,e⟩|⟨y,u,rfl,e⟩
   ·injection e with e1 _;rw[e1]
   ·exact nomatch e
  ·rcases pC hb with⟨j,u,rfl,e⟩|⟨y,u,rfl,e⟩
   ·exact nomatch e
   ·injection e with e1 _;rw[e1]
 byValue:=fun k v h=>by
  rcases pC h with⟨i,t,rfl,rfl⟩|⟨x,t,rfl,rfl⟩ <;> rfl
 pyHash:=fun hv h=>by
  rcases pC hv with⟨i,t,rfl,rfl⟩|⟨x,t,rfl,rfl⟩
  ·exact wpAny_pyHash_int h
  ·exact wpAny_pyHash_str h
 eqBool:=fun hu hv h=>by
  rcases pC hu with⟨i,t,rfl,rfl⟩|⟨x,t,rfl,rfl⟩
  ·rcases pC hv with⟨j,u,rfl,rfl⟩|⟨y,u,rfl,rfl⟩
   ·rw[Zc]at h;exact wpAny_eqBool_int h
   ·rw[Ze]at h;exact SeqAt.EqAt.int_str i t y u _ _ _ _ h
  ·rcases pC hv with⟨j,u,rfl,rfl⟩|⟨y,u,rfl,rfl⟩
   ·rw[Zf]at h;exact SeqAt.EqAt.str_int x t j u _ _ _ _ h
   ·rw[Zd]at h;exact wpAny_eqBool_str h
 «strs» :=fun k x t v h=>by
  rcases pC h with⟨i,u,rfl,e⟩|⟨y,u,rfl,e⟩
  ·exact nomatch e
  ·injection e with e1 _
   subst e1;cases v <;> rfl
theorem Vr (prog:Program) (w:World) (i:Int) (t:Tok):(cL prog w).is (.inl i) (.int i t)=true:=Wm i t
theorem Vs (prog:Program) (w:World) (x:Str) (t:Tok):(cL prog w).is (.inr x) (.str x t)=true:=Wn x t
inductive V where
 |aF|bl (b:Bool)|int (i:Int)|str (x:Str)|j0 (b:Array UInt8)|j3 (b:UInt64)|ref (a:Addr)|ty (n:String)
 deriving DecidableEq
def RelV:V->Value->Prop
 |.aF,u=>u=Value.none
 |.bl b,u=>u=Value.bool b
 |.int i,u=>∃t,u=Value.int i t
 |.str x,u=>∃t,u=Value.str x t
 |.j0 b,u=>∃t,u=Value.bytes b t
 |.j3 b,u=>∃t,u=Value.float b t
 |.ref a,u=>u=Value.ref a
 |.ty n,u=>u=Value.type n
abbrev Vals:List V->List Value->Prop:=Paired RelV
theorem Vals.length {xs:List V} (r:Vals xs us):xs.length=us.length:=mj r
theorem Vals.get:∀ {xs:List V}{us:List Value}{i:Nat}{x:V},Vals xs us->xs[i]? = some x -> ∃u,us[i]? = some u/\RelV x u
 |_,_,_,_,.nil,e=>by simp at e
 |_,_,0,_,.cons r _,e=>by simp at e;subst e;exact⟨_,rfl,r⟩
 |_,_,i+1,x,.cons _ t,e=>by
  obtain⟨u,h1,h2⟩:=Vals.get (i:=i) (x:=x) t (by simpa using e)
  exact⟨u,by simpa using h1,h2⟩
theorem Vals.set {x:V}{u:Value} (r:RelV x u):∀ {xs:List V}{us:List Value} (i:Nat),Vals xs us->Vals (xs.set i x) (us.set i u)
 |_,_,_,.nil=>.nil
 |_,_,0,.cons _ t=>.cons r t
 |_,_,i+1,.cons q t=>.cons q (Vals.set r i t)
theorem Vals.append:∀ {xs ys:List V}{us ws:List Value},Vals xs us->Vals ys ws->Vals (xs++ys) (us++ws)
 |_,_,_,_,.nil,s=>s
 |_,_,_,_,.cons r t,s=>.cons r (Vals.append t s)
theorem Vals.take:∀ {xs:List V}{us:List Value} (n:Nat),Vals xs us->Vals (xs.take n) (us.take n)
 |_,_,0,_=>.nil
 |_,_,_+1,.nil=>.nil
 |_,_,n+1,.cons r t=>.cons r (Vals.take n t)
theorem Vals.drop:∀ {xs:List V}{us:List Value} (n:Nat),Vals xs us->Vals (xs.drop n) (us.drop n)
 |_,_,0,r=>r
 |_,_,_+1,.nil=>.nil
 |_,_,n+1,.cons _ t=>Vals.drop n t
def iT:Option V->Option Value->Prop
 |some v,some u=>RelV v u
 |none,none=>True
 |_,_=>False
def KV {κ:Type}:List (κ×V)->List (κ×Value)->Prop:=Paired fun(p:κ×V) (q:κ×Value)=>p.1=q.1/\RelV p.2 q.2
def kV:Key->V
 |.inl i=>.int i
 |.inr x=>.str x
inductive HO where
 |lst (xs:List V)
 |tup (xs:List V)
 |dK (kvs:List (Key×V))|dT (kvs:List (List Key×V))
 |set (S:Int->Bool) (n:Nat)
 |ins (C dx:Addr) (fs:List (Str×V))
 |own (x:Addr)
 |xd (fs:List (Str×V))
 |met (f x:Addr)
 |yI (lo hi:Int)
 |cB (o:Obj) (u:HO)
 |qb (ps:Array Value)
 |ext (φ:Heap->Prop)
abbrev Hp:=Addr->Option HO
def upd (H:Hp) (a:Addr) (o:HO):Hp:=fun b=>if b=a then some o else H b
theorem ag {H:Hp}{o:HO}:upd H a o a=some o:=by unfold upd;rw[aB rfl]
theorem ah {H:Hp}{o:HO} (h:b≠a):upd H a o b=H b:=by unfold upd;rw[au h]
theorem ie {H:Hp}{o u:HO}:upd (upd H a o) a u=upd H a u:=by
 funext b;unfold upd;split <;> rfl
theorem bg {H:Hp}{o u:HO} (h:H a=some o) (h':H b=some u) (d:o≠u:=by intro z;cases z):a≠b:=by
 intro e;subst e;rw[h]at h';exact d (f' h')
theorem ao {H:Hp}{o:HO} (h:H a=some o) (h':H b=none):a≠b:=by
 intro e;subst e;rw[h]at h';cases h'
def rz (h:Heap) (a:Addr) (items:Array Value):Prop:= ∃o,h.get? a=some o/\o.cls = .type "tuple" /\ ∃n,o.data = .seq items n/\o.dict=none
theorem rz.is (x:rz h a items):IsTup h a items:=let ⟨o,e,c,n,d,_⟩:=x;⟨o,e,c,n,d⟩
theorem rz.new (h:Heap) (items:Array Value):rz (h.push { cls:= .type "tuple",data:= .seq items }) h.objs.size items:=⟨_,cu _ rfl,rfl,_,rfl,rfl⟩
section
variable (P:Program) (w:World)
def bu (H:Hp) (h:Heap) (a:Addr):HO->Prop
 |.lst xs=>xs.length<=sizeLine /\ ∃ (its:List Value) (n:Nat),Vals xs its/\h.get? a=some { cls:= .type "list",data:= .seq its.toArray n }
 |.tup xs=>xs.length<=sizeLine /\ ∃its:List Value,Vals xs its/\rz h a its.toArray
 |.dK kvs=>kvs.length<=sizeLine/\(a==sysModules)=false /\ ∃vs,KV kvs vs/\h.DictOf (cL P w) a vs
 |.dT kvs=>kvs.length<=sizeLine/\(a==sysModules)=false /\ ∃xs:List (List Key×Addr×Value),
   Paired (fun(p:List Key×V) (q:List Key×Addr×Value)=>p.1=q.1/\H q.2.1=some (.tup (p.1.map kV))/\RelV p.2 q.2.2) kvs xs /\
   ∃o es ep,h.get? a=some o/\o.ExactDict/\o.data = .dict es ep/\es.toList=xs.map (entryOfKey (tupleKind (cL P w)))/\(xs.map (·.1)).Nodup
 |.set S n=>h.SetOf (intKind P w) a S n
 |.ins C dx fs=>H dx=some (.own a)/\fs.length<=1000/\dx≠a/\h.get? a=some (PySem.W.instObj C dx) /\
   ∃mA,h.Ns1 dx mA/\(∀f,iT (fs.lookup f) (mA f))/\PySem.Within mA (fs.map (·.1))
 |.own _=>∃o,h.get? a=some o
 |.xd fs=>∃mA,h.Ns1 a mA /\ ∀f,iT (fs.lookup f) (mA f)
 |.yI lo hi=>∃t u v,h.get? a=some { cls:= .type "range",data:= .fields #[.int lo t,.int hi u,.int 1 v] }
 |.cB o u=>h.get? a=some o/\bu H h a u
 |.qb ps=>h.get? a=some { cls:= .none,data:= .fields ps }
 |.met f x=>h.get? a=some (PySem.W.methodObj (.ref f) (.ref x))
 |.ext φ=>φ h/\(∃o,h.get? a=some o) /\ ∀h1 h2:Heap,φ h1->(∀o,h1.get? a=some o->h2.get? a=some o)->φ h2
def cW (H:Hp) (h:Heap):Prop:= ∀a o,H a=some o->bu P w H h a o
end
section
variable{H H':Hp}{o:HO}
theorem bu.lt (x:bu P w H h a o):a < h.objs.size:=by
 cases o with
 |lst xs=>obtain⟨_,_,_,_,e⟩:=x;exact aV e
 |tup xs=>obtain⟨_,_,_,p⟩:=x;exact p.is.lt
 |dK kvs=>obtain⟨_,_,_,_,o,_,_,e,_⟩:=x;exact aV e
 |dT kvs=>obtain⟨_,_,_,_,o,_,_,e,_⟩:=x;exact aV e
 |set S n=>obtain⟨o,_,_,_,e,_⟩:=x;exact aV e
 |ins C dx fs=>obtain⟨_,_,_,e,_⟩:=x;exact aV e
 |own y=>obtain⟨_,e⟩:=x;exact aV e
 |xd fs=>obtain⟨_,⟨_,_,_,e,_⟩,_⟩:=x;exact aV e
 |yI lo hi=>obtain⟨_,_,_,e⟩:=x;exact aV e
 |cB ob u=>obtain⟨e,_⟩:=x;exact aV e
 |qb ps=>exact aV (show h.get? a=some _ from x)
 |met f y=>exact aV (show h.get? a=some _ from x)
 |ext φ=>obtain⟨_,⟨_,e⟩,_⟩:=x;exact aV e
theorem Paired.BA {α β:Type}{F G:α->β->Prop}:∀ {l₁:List α}{yp:List β},Paired F l₁ yp->(∀a b,F a b->G a b)->Paired G l₁ yp
 |_,_,.nil,_=>.nil
 |_,_,.cons r t,f=>.cons (f _ _ r) (Paired.BA t f)
theorem Paired.imp' {α β:Type}{F G:α->β->Prop} (f:∀a b,F a b->G a b) {l₁:List α}{yp:List β} (r:Paired F l₁ yp):Paired G l₁ yp:=Paired.BA r f
theorem bu.gY (x:bu P w H h a o) (k:∀b u,(b=a\/H b=some (.own a))->h.get? b=some u->h'.get? b=some u)
  (ho:∀b,H b=some (.own a)->H' b=some (.own a)) (ht:∀b xs,H b=some (.tup xs)->H' b=some (.tup xs)):bu P w H' h' a o:=by
 induction o with
 |lst xs=>obtain⟨z,its,n,r,e⟩:=x;exact⟨z,its,n,r,k _ _ (.inl rfl) e⟩
 |tup xs=>obtain⟨z,its,r,ob,e,c⟩:=x;exact⟨z,its,r,ob,k _ _ (.inl rfl) e,c⟩
 |dK kvs=>obtain⟨z,y,vs,r,ob,es,ep,e,c⟩:=x;exact⟨z,y,vs,r,ob,es,ep,k _ _ (.inl rfl) e,c⟩
 |dT kvs =>
  obtain⟨z,y,xs,r,ob,es,ep,e,c⟩:=x;exact⟨z,y,xs,Paired.BA r fun p q z=>⟨z.1,ht _ _ z.2.1,z.2.2⟩,ob,es,ep,k _ _ (.inl rfl) e,c⟩
 |set S n=>obtain⟨ob,es,ep,t,e,c⟩:=x;exact⟨ob,es,ep,t,k _ _ (.inl rfl) e,c⟩
 |ins C dx fs =>
  obtain⟨d,z,ne,e,mA,⟨od,es,ep,e2,c⟩,r⟩:=x;exact⟨ho _ d,z,ne,k _ _ (.inl rfl) e,mA,⟨od,es,ep,k _ _ (.inr d) e2,c⟩,r⟩
 |own y=>obtain⟨ob,e⟩:=x;exact⟨ob,k _ _ (.inl rfl) e⟩
 |xd fs=>obtain⟨mA,⟨od,es,ep,e,c⟩,r⟩:=x;exact⟨mA,⟨od,es,ep,k _ _ (.inl rfl) e,c⟩,r⟩
 |yI lo hi=>obtain⟨t,u,v,e⟩:=x;exact⟨t,u,v,k _ _ (.inl rfl) e⟩
 |cB ob u ih=>obtain⟨e,q⟩:=x;exact⟨k _ _ (.inl rfl) e,ih q⟩
 |qb ps =>
  have e:h.get? a=some { cls:= .none,data:= .fields ps }:=x;show h'.get? a=some { cls:= .none,data:= .fields ps };exact k a _ (.inl rfl) e
 |met f y =>
  have e:h.get? a=some (PySem.W.methodObj (.ref f) (.ref y)):=x;show h'.get? a=some (PySem.W.methodObj (.ref f) (.ref y));exact k a _ (.inl rfl) e
 |ext φ=>obtain⟨p,⟨o,e⟩,st⟩:=x;exact⟨st _ _ p fun o q=>k _ _ (.inl rfl) q,⟨o,k _ _ (.inl rfl) e⟩,st⟩
theorem cW.lt (x:cW P w H h) (e:H a=some o):a < h.objs.size:=(x a o e).lt
theorem cW.fresh (x:cW P w H h) (e:h.objs.size<=a):H a=none:=by
 cases q:H a with
 |none=>rfl
 |some u=>exact absurd (gV (x.lt q) e) (r9 _)
theorem cW.kept (x:cW P w H h) (k:∀b u,h.get? b=some u->h'.get? b=some u):cW P w H h':=fun a o e =>
 (x a o e).gY (fun b u _ q=>k b u q) (fun _ q=>q) fun _ _ q=>q
theorem cW.laid (x:cW P w H h) (k:∀b u,h.get? b=some u->h'.get? b=some u) (hp:h.objs.size<=a) (new:bu P w (upd H a o) h' a o):cW P w (upd H a o) h':=fun b u e=>by
 have hn:=x.fresh hp
 by_cases hb:b=a
 ·subst hb;rw[ag]at e;cases e;exact new
 ·rw[ah hb]at e
  exact(x b u e).gY (fun c v _ q=>k c v q) (fun c q=>by rw[ah (ao q hn)];exact q) fun c xs q=>by rw[ah (ao q hn)];exact q
end
def Rd (H:Hp) (a:Addr) (u:HO):Prop:=H a=some u \/ ∃o,H a=some (.cB o u)
theorem Rd.ok {H:Hp}{u:HO} (r:Rd H a u) (x:cW P w H h):bu P w H h a u:=by
 rcases r with r|⟨o,r⟩
 ·exact x a u r
 ·obtain⟨_,q⟩:=x a _ r
  exact q
def yJ:Option HO->Prop
 |some (.lst _)=>True
 |some (.dK _)=>True
 |some (.dT _)=>True
 |some (.set _ _)=>True
 |some (.ins _ _ _)=>True
 |some (.ext _)=>True
 |_=>False
section
variable{H:Hp}{x e:Addr}{o':HO}
theorem cW.write (ok:cW P w H h) (mu:yJ (H x)) (he:e=x\/H e=some (.own x)) (k:∀b u,b≠e->h.get? b=some u->h'.get? b=some u) (wq:∃u,h'.get? e=some u)
  (new:bu P w (upd H x o') h' x o'):cW P w (upd H x o') h':=fun b u q=>by
 have OO:∀c y,H c=some (.own y)->c≠x:=fun c y r z=>by subst z;rw[r]at mu;exact mu
 have abt:∀c xs,H c=some (.tup xs)->c≠x:=fun c xs r z=>by subst z;rw[r]at mu;exact mu
 by_cases hb:b=x
 ·subst hb;rw[ag]at q;cases q;exact new
 ·rw[ah hb]at q
  by_cases tN:b=e
  ·have q':H b=some (.own x):=by
    rcases he with z|z
    ·exact absurd (tN.trans z) hb
    ·rw[tN];exact z
   rw[q]at q';cases q';obtain⟨v,hv⟩:=wq;exact⟨v,by rw[tN];exact hv⟩
  ·refine(ok b u q).gY (fun c v hc r=>k c v ?_ r) (fun c r=>by rw[ah (OO c b r)];exact r) fun c xs r=>by rw[ah (abt c xs r)];exact r
   rcases hc with rfl|hc
   ·exact tN
   ·rintro rfl
    rcases he with z|z
    ·exact OO c b hc z
    ·rw[hc]at z;cases z;exact hb rfl
end
structure Un (fs ex:List Addr) (H H':Hp) (h h':Heap):Prop where
 keep:∀b o,h.get? b=some o->H b=none->b ∉ fs->b ∉ ex->h'.get? b=some o
 slot:∀b o,h.get? b=some o->H b=none->b∈fs->b ∉ ex -> ∃sl,h'.get? b=some { o with slots:=sl }
 free:∀b o,h.get? b=some o->H b=none->b ∉ ex->H' b=none
 there:∀b o,h.get? b=some o->b ∉ ex -> ∃o',h'.get? b=some o'
 kJ:∀b xs,H b=some (.tup xs)->H' b=some (.tup xs)
 jX:∀b o u,H b=some (.cB o u)->H' b=some (.cB o u)
 kU:∀b ps,H b=some (.qb ps) -> ∃more,H' b=some (.qb (ps++more))
section
variable{fs fs' ex ex':List Addr}{H H1 H2:Hp}{h1 h2:Heap}{x e:Addr}{o:HO}
theorem Un.any (u:Un fs ex H H1 h h1) {ob:Obj} (q:h.get? b=some ob) (n:H b=none) (hx:b ∉ ex):∃sl,h1.get? b=some { ob with slots:=sl }:=by
 by_cases hb:b∈fs
 ·exact u.slot b ob q n hb hx
 ·exact⟨ob.slots,u.keep b ob q n hb hx⟩
theorem Un.kept (k:∀b u,h.get? b=some u->h'.get? b=some u):Un fs ex H H h h':=
 ⟨fun b ob q _ _ _=>k b ob q,fun b ob q _ _ _=>⟨ob.slots,k b ob q⟩,fun _ _ _ n _=>n,fun b ob q _=>⟨ob,k b ob q⟩,fun _ _ q=>q,fun _ _ _ q=>q,fun _ ps q=>⟨#[],by rw[q];simp⟩⟩
theorem Un.refl:Un fs ex H H h h:=Un.kept fun _ _ q=>q
theorem Un.laid (k:∀b u,h.get? b=some u->h'.get? b=some u) (hp:h.objs.size<=a) (hn:H a=none):Un fs ex H (upd H a o) h h' where
 keep:=fun b u q _ _ _=>k b u q
 slot:=fun b u q _ _ _=>⟨u.slots,k b u q⟩
 free:=fun b u q n _=>by rw[ah (bp (gV (aV q) hp))];exact n
 there:=fun b u q _=>⟨u,k b u q⟩
 kJ:=fun b xs q=>by rw[ah (ao q hn)];exact q
 jX:=fun b u xs q=>by rw[ah (ao q hn)];exact q
 kU:=fun b ps q=>⟨#[],by rw[ah (ao q hn),q];simp⟩
theorem Un.write (mu:yJ (H x)) (he:e=x\/H e=some (.own x)) (k:∀b u,b≠e->h.get? b=some u->h'.get? b=some u) (wq:∃u,h'.get? e=some u):Un fs ex H (upd H x o) h h':=by
 have hx:∀b,H b=none->b≠x:=fun b n z=>by subst z;rw[n]at mu;exact mu
 have hb:∀b,H b=none->b≠e:=fun b n z=>by
  subst z;rcases he with r|r
  ·exact hx b n r
  ·rw[n]at r;cases r
 have hm:∀b u,H b=some u -> ¬ yJ (some u)->b≠x:=fun b u q nm z=>by subst z;rw[q]at mu;exact nm mu
 refine⟨fun b u q n _ _=>k b u (hb b n) q,fun b u q n _ _=>⟨u.slots,k b u (hb b n) q⟩,fun b u q n _=>by rw[ah (hx b n)];exact n,fun b u q _=>?_,
  fun b xs q=>by rw[ah (hm b _ q fun z=>z)];exact q,fun b u xs q=>by rw[ah (hm b _ q fun z=>z)];exact q,fun b ps q=>⟨#[],by rw[ah (hm b _ q fun z=>z),q];simp⟩⟩
 by_cases tN:b=e
 ·subst tN;exact wq
 ·exact⟨u,k b u tN q⟩
end
def fU (h:Heap) (H:Hp):List Addr:=(List.range h.objs.size).filter fun a=>(H a).isSome
def pW (h:Heap) (H:Hp):Heap:=PySem.W.hideAll h (fU h H)
theorem Wo (h:Heap) (H:Hp):(pW h H).objs.size=h.objs.size:=PySem.W.hideAll_size _ _
theorem Xf {H:Hp} (e:h.get? b=some o) (n:H b=none):(pW h H).get? b=some o:=
 PySem.W.hideAll_get _ e fun hm=>by
  have q:(H b).isSome=true:=(jk.mp hm).2;rw[n]at q;simp at q
theorem Yd {H:Hp} (e:(pW h H).get? b=some o):h.get? b=some o/\H b=none:=by
 have e':h.get? b=some o:=PySem.W.of_hideAll (fU h H) e;refine⟨e',?_⟩;cases q:H b with
 |none=>rfl
 |some x =>
  have hm:b∈fU h H:=jk.mpr ⟨oW.mpr (aV e'),by simp[q]⟩
  have z:(pW h H).get? b=none:=PySem.W.hideAll_none (fU h H) hm;rw[z]at e;cases e
def EV (g h:Heap) (L:Addr):List (Addr×Obj):=(List.range h.objs.size).filterMap fun a=>if a=L\/(g.get? a).isSome=true then none else (h.get? a).map fun o=>(a,o)
theorem Lk {L:Addr} (h1:a≠L) (h2:g.get? a=none) (h3:h.get? a=some o):(a,o)∈EV g h L:=
 sd.mpr ⟨a,oW.mpr (aV h3),by simp[h1,h2,h3]⟩
theorem DE {L:Addr}{p:Addr×Obj} (hp:p∈EV g h L):p.1≠L/\g.get? p.1=none/\h.get? p.1=some p.2:=by
 obtain⟨b,_,e⟩:=sd.mp hp;split at e
 ·cases e
 ·rename_i hn
  cases q:h.get? b with
  |none=>rw[q]at e;simp at e
  |some u =>
   rw[q]at e;simp only[Dg,Option.some.injEq]at e;subst e;refine⟨fun z=>hn (.inl z),?_,q⟩;show g.get? b=none;cases r:g.get? b with
   |none=>rfl
   |some v=>exact(hn (.inr (by simp[r]))).elim
theorem Xg {L:Addr}:News g L h (EV g h L):=fun p hp=>let ⟨a,b,c⟩:=DE hp;⟨c,a,b⟩
structure Mod (K:PySem.W.Frag) (mg:Str->Option Value) (base:Heap):Prop where
 iF:K.In base
 glob:base.Ns mainGlobals mg
 blt:∃mb,base.Ns builtinsNs mb /\ ∀x:Str,x ≠ "__name__" -> mb x=bootBuiltins x
 nolimit:base.NoLimit
structure Cx where
 prog:Program
 w:World
 K:PySem.W.Frag
 mg:Str->Option Value
 base:Heap
 A:Around
 N:List Str
 cM:Shared
 jC:Hp
 env:Env
 outer:List Env
 stack:List Env
 ex:List Addr
 fn:Str->Bool
 calm:Bool
 pn:List (Addr×Obj)
 xe:Value->Shared->Prop
def cY (l:List Env):List Addr:=l.filterMap (·.frame)
abbrev Cx.fs (X:Cx):List Addr:=cY X.outer
def Hv (sc:Scope) (x:Str):Prop:=sc.names.lookup x=some .local\/sc.names.lookup x=some .cell\/sc.names.lookup x=some .free
def Loc (sc:Scope) (x:Str):Prop:=sc.names.lookup x=some .local\/sc.names.lookup x=some .cell
noncomputable def Look (env:Env) (h:Heap) (m:Str->Option Value) (x:Str) (u:Value):Prop:=
 (env.kindOf x=some .local/\m x=some u)\/((env.kindOf x=some .cell\/env.kindOf x=some .free) /\ ∃c,env.cells.lookup x=some c/\h.IsCell c (some u))
structure Cx.Ok (X:Cx):Prop where
 mod:Mod X.K X.mg X.base
 kind:X.env.scope.kind = .function
 glob:X.env.globals=mainGlobals
 blt:X.env.builtins=builtinsNs
 above:X.cM.heap.objs.size<=X.env.locals
 inj:∀x y c,X.env.cells.lookup x=some c->X.env.cells.lookup y=some c->x=y
 has:∀x,(X.env.kindOf x=some .cell\/X.env.kindOf x=some .free) -> ∃c,X.env.cells.lookup x=some c
 qd:∀x c,X.fn x=true->X.env.cells.lookup x=some c->X.cM.heap.objs.size<=c
 hd:X.calm=true->X.A.handled=none
 frames:X.A.frames=some X.stack
 m4:X.stack=X.outer\/(X.stack=X.env::X.outer/\X.env.frame=some X.env.locals)
 ou:∀b∈X.ex,b≠X.env.locals /\ ∀x c,X.env.cells.lookup x=some c->c≠b
 bs:∀b o,X.base.get? b=some o->X.cM.heap.get? b=some o/\X.jC b=none
 lb:X.base.objs.size<=X.cM.heap.objs.size
 pX:∀b o,X.base.get? b=some o->b ∉ X.ex
 og:∀b∈X.ex,b ∉ X.fs
 gL:X.cM.heap.FunFrames X.base X.outer
 lY:∀b∈X.fs,X.jC b=none
structure Inv (X:Cx) (pins:List (Addr×Obj)) (σ:List (Option V)) (H:Hp) (s:Shared):Prop where
 ok:X.Ok
 os:s.os=X.cM.os
 bare:AllBare s.gens
 base:Un X.fs X.ex X.jC H X.cM.heap s.heap
 loc:∃m,s.heap.Ns X.env.locals m /\ ∀ (i:Nat) (x:Str) (v:V),X.N[i]? = some x->σ[i]? = some (some v)->Hv X.env.scope x -> ∃u,RelV v u/\Look X.env s.heap m x u
 cell:∀x c,X.env.cells.lookup x=some c -> ∃v,s.heap.IsCell c v
 free:H X.env.locals=none
 iD:∀x c,X.env.cells.lookup x=some c->H c=none
 pin:∀p∈X.pn++pins,s.heap.get? p.1=some p.2/\H p.1=none/\p.1≠X.env.locals/\p.1 ∉ X.fs /\ ∀v,p.2.data ≠ .cell v
 ar:cW X.prog X.w H s.heap
 len:σ.length=X.N.length
section
variable{X:Cx}{σ:List (Option V)}{H H':Hp}
theorem Cx.Ok.tm (ok:X.Ok) (e:X.base.get? b=some o):b ∉ X.fs:=fun hb=>by
 have:=(ok.gL.mem hb).1;rw[e]at this;cases this
theorem Inv.bs (I:Inv X pins σ H s):∀b o,X.base.get? b=some o->s.heap.get? b=some o/\H b=none:=fun b o e =>
 ⟨I.base.keep b o (I.ok.bs b o e).1 (I.ok.bs b o e).2 (I.ok.tm e) (I.ok.pX b o e),I.base.free b o (I.ok.bs b o e).1 (I.ok.bs b o e).2 (I.ok.pX b o e)⟩
theorem Inv.bk (I:Inv X pins σ H s):∀b o,X.base.get? b=some o->s.heap.get? b=some o:=fun b o e=>(I.bs b o e).1
theorem Inv.mod (I:Inv X pins σ H s):Mod X.K X.mg X.base:=I.ok.mod
theorem Inv.bx (I:Inv X pins σ H s):X.K.In s.heap:=I.ok.mod.iF.keeps I.bk
theorem Inv.lt (I:Inv X pins σ H s):X.env.locals < s.heap.objs.size:=let ⟨_,hn,_⟩:=I.loc;hn.lt
theorem Inv.sz (I:Inv X pins σ H s):X.cM.heap.objs.size<=s.heap.objs.size:=dG I.ok.above (w9 I.lt)
theorem Inv.abu (I:Inv X pins σ H s) (h:s.heap.objs.size<=a):a ∉ X.fs:=fun hb=>by
 obtain⟨_,o,ho,_⟩:=I.ok.gL.mem hb;exact absurd (gV (aV ho) (dG I.sz h)) (r9 _)
theorem Inv.m5 (I:Inv X pins σ H s):∀x c,X.env.cells.lookup x=some c->c≠X.env.locals:=fun x c e z=>by
 obtain⟨v,o,ho,hd⟩:=I.cell x c e;obtain⟨m,⟨o',es,ep,iq,tO,_⟩,_⟩:=I.loc;rw[z,iq]at ho;cases ho;rw[tO]at hd;cases hd
theorem Inv.gL (I:Inv X pins σ H s):s.heap.FunFrames X.base X.outer:=by
 have all:∀ (l:List Env),(∀b∈cY l,b∈X.fs)->X.cM.heap.FunFrames X.base l->s.heap.FunFrames X.base l:=by
  intro l
  induction l with
  |nil=>intro _ _;trivial
  |cons env r ih =>
   intro hs hl;obtain⟨hk,⟨L,o,hf,hn,ho,hd⟩,hr⟩:=hl;have hL:L∈X.fs:=hs L (by unfold cY;rw[Tt,hf];exact bj)
   obtain⟨sl,e⟩:=I.base.slot L o ho (I.ok.lY L hL) hL fun z=>I.ok.og L z hL;exact⟨hk,⟨L,_,hf,hn,e,hd⟩,ih (fun b hb=>hs b (by unfold cY;rw[Tt,hf];exact cp _ hb)) hr⟩
 exact all X.outer (fun _ hb=>hb) I.ok.gL
theorem Inv.stack (I:Inv X pins σ H s):s.heap.FunFrames X.base X.stack:=by
 rcases I.ok.m4 with e|⟨e,hf⟩
 ·rw[e];exact I.gL
 ·rw[e]
  obtain⟨m,hn,_⟩:=I.loc;refine .cons (by rw[I.ok.kind];decide) hf hn ?_ I.gL
  exact Dh (dG I.ok.lb I.ok.above)
theorem Inv.xM (I:Inv X pins σ H s):∀b∈cY X.stack,b∈X.env.locals::X.fs:=fun b hb=>by
 rcases I.ok.m4 with e|⟨e,hf⟩
 ·rw[e]at hb;exact cp _ hb
 ·rw[e]at hb
  unfold cY at hb;rw[Tt,hf]at hb;exact hb
theorem Inv.Bb (I:Inv X pins σ H s):∀b∈cY X.stack,H b=none:=fun b hb=>by
 rcases aY.mp (I.xM b hb) with e|hb
 ·rw[e];exact I.free
 ·obtain⟨_,o,ho,_⟩:=I.ok.gL.mem hb
  exact I.base.free b o ho (I.ok.lY b hb) fun z=>I.ok.og b z hb
theorem Inv.step {g':Array GenState}{d':Drawn} (I:Inv X pins σ H s)
  (oz:∀b∈ch,(b∈X.ex\/X.cM.heap.objs.size<=b)/\b≠X.env.locals/\(∀x c,X.env.cells.lookup x=some c->c≠b) /\ ∀p∈X.pn++pins,p.1≠b)
  (keep:∀b o,b≠X.env.locals->b ∉ X.fs->b ∉ ch->s.heap.get? b=some o->H b=none->h'.get? b=some o)
  (slot:∀b o,b≠X.env.locals->b∈X.fs->b ∉ ch->s.heap.get? b=some o->H b=none -> ∃sl,h'.get? b=some { o with slots:=sl }) (free:∀b o,b ∉ ch->s.heap.get? b=some o->H b=none->H' b=none)
  (there:∀b o,b ∉ ch->s.heap.get? b=some o -> ∃o',h'.get? b=some o')
  (kJ:∀b xs,H b=some (.tup xs)->H' b=some (.tup xs)) (jX:∀b o u,H b=some (.cB o u)->H' b=some (.cB o u)) (kU:∀b ps,H b=some (.qb ps) -> ∃more,H' b=some (.qb (ps++more)))
  (ns:∀m,s.heap.Ns X.env.locals m->h'.Ns X.env.locals m) (ar:cW X.prog X.w H' h') (hg:AllBare g') :
  Inv X pins σ H' { s with heap:=h',gens:=g',drawn:=d',toks:=t' }:=by
 have yK:∀b o,X.cM.heap.get? b=some o->b≠X.env.locals:=fun b o e=>bp (gV (aV e) I.ok.above);have BP:∀b o,X.cM.heap.get? b=some o->b ∉ X.ex->b ∉ ch:=fun b o e hx hb=>by
  rcases (oz b hb).1 with z|z
  ·exact hx z
  ·exact absurd (gV (aV e) z) (r9 _)
 have cellK:∀x c,X.env.cells.lookup x=some c -> ∀v,s.heap.IsCell c v->h'.IsCell c v:=fun x c e v ⟨o,ho,hd⟩=>by
  have dv:c ∉ ch:=fun z=>(oz c z).2.2.1 x c e rfl
  by_cases hc:c∈X.fs
  ·obtain⟨sl,q⟩:=slot c o (I.m5 x c e) hc dv ho (I.iD x c e)
   exact⟨_,q,hd⟩
  ·exact⟨o,keep c o (I.m5 x c e) hc dv ho (I.iD x c e),hd⟩
 refine⟨I.ok,I.os,hg,⟨fun b o e n hb hx=>?_,fun b o e n hb hx=>?_,fun b o e n hx=>?_,fun b o e hx=>?_,fun b xs e=>kJ b xs (I.base.kJ b xs e),fun b o xs e=>jX b o xs (I.base.jX b o xs e),fun b ps e=>?_⟩,?_,fun x c e=>?_,?_,fun x c e=>?_,fun p hp=>?_,ar,I.len⟩
 ·exact keep b o (yK b o e) hb (BP b o e hx) (I.base.keep b o e n hb hx) (I.base.free b o e n hx)
 ·obtain⟨sl,e1⟩:=I.base.slot b o e n hb hx
  obtain⟨yL,e2⟩:=slot b _ (yK b o e) hb (BP b o e hx) e1 (I.base.free b o e n hx);exact⟨yL,e2⟩
 ·obtain⟨o',e1⟩:=I.base.there b o e hx
  exact free b o' (BP b o e hx) e1 (I.base.free b o e n hx)
 ·obtain⟨o',e1⟩:=I.base.there b o e hx
  exact there b o' (BP b o e hx) e1
 ·obtain⟨m1,e1⟩:=I.base.kU b ps e
  obtain⟨m2,e2⟩:=kU b _ e1;exact⟨m1++m2,by rw[e2,Array.append_assoc]⟩
 ·obtain⟨m,hn,hl⟩:=I.loc
  refine⟨m,ns m hn,fun i x v e1 e2 e3=>?_⟩;obtain⟨u,r,l⟩:=hl i x v e1 e2 e3;refine⟨u,r,?_⟩;rcases l with l|⟨k,c,e,z⟩
  ·exact .inl l
  ·exact .inr ⟨k,c,e,cellK x c e _ z⟩
 ·obtain⟨v,z⟩:=I.cell x c e
  exact⟨v,cellK x c e v z⟩
 ·obtain⟨m,⟨o,_,_,ho,_⟩,_⟩:=I.loc
  exact free _ o (fun z=>(oz _ z).2.1 rfl) ho I.free
 ·obtain⟨v,o,ho,hd⟩:=I.cell x c e
  exact free c o (fun z=>(oz c z).2.2.1 x c e rfl) ho (I.iD x c e)
 ·obtain⟨e,n,ne,nf,d⟩:=I.pin p hp
  have dv:p.1 ∉ ch:=fun z=>(oz p.1 z).2.2.2 p hp rfl;exact⟨keep p.1 p.2 ne nf dv e n,free p.1 p.2 dv e n,ne,nf,d⟩
theorem Inv.un (I:Inv X pins σ H s) (u:Un X.fs [] H H' s.heap h') (ar:cW X.prog X.w H' h'):Inv X pins σ H' { s with heap:=h',toks:=t' }:=by
 obtain⟨m,⟨o,es,ep,ho,r⟩,_⟩:=id I.loc;obtain⟨sl,hL⟩:=u.any ho I.free (by simp)
 exact I.step (g':=s.gens) (d':=s.drawn) (ch:= []) (fun _ z=>nomatch z) (fun b o _ hb _ e n=>u.keep b o e n hb (by simp)) (fun b o _ hb _ e n=>u.slot b o e n hb (by simp)) (fun b o _ e n=>u.free b o e n (by simp)) (fun b o _ e=>u.there b o e (by simp)) u.kJ u.jX u.kU (fun m' hm=>by
  obtain⟨o',iG,Hw,iq,r'⟩:=hm;rw[ho]at iq;cases iq;exact⟨_,iG,Hw,hL,r'⟩) ar I.bare
theorem Inv.call {g':Array GenState}{d':Drawn} (I:Inv X pins σ H s) (u:Un (cY X.stack) ch H H' s.heap h') (ar:cW X.prog X.w H' h') (hg:AllBare g')
  (oz:∀b∈ch,(b∈X.ex\/X.cM.heap.objs.size<=b)/\b≠X.env.locals/\(∀x c,X.env.cells.lookup x=some c->c≠b) /\ ∀p∈X.pn++pins,p.1≠b) :
  Inv X pins σ H' { s with heap:=h',gens:=g',drawn:=d',toks:=t' }:=by
 obtain⟨m,⟨o,es,ep,ho,r⟩,_⟩:=id I.loc;obtain⟨sl,hL⟩:=u.any ho I.free fun z=>(oz _ z).2.1 rfl;exact I.step (ch:=ch) oz (fun b o hL hb hc e n=>u.keep b o e n (fun z=>(aY.mp (I.xM b z)).elim hL hb) hc) (fun b o _ _ hc e n=>u.any e n hc) (fun b o hc e n=>u.free b o e n hc) (fun b o hc e=>u.there b o e hc) u.kJ u.jX u.kU (fun m' hm=>by
  obtain⟨o',iG,Hw,iq,r'⟩:=hm;rw[ho]at iq;cases iq;exact⟨_,iG,Hw,hL,r'⟩) ar hg
theorem Inv.turned (I:Inv X pins σ H s) (k:∀b o,b≠it->s.heap.get? b=some o->h'.get? b=some o) (hn:H it=none) (hL:it≠X.env.locals)
  (h1:it∈X.ex\/X.cM.heap.objs.size<=it) (h2:∀x c,X.env.cells.lookup x=some c->c≠it) (h3:∀p∈X.pn++pins,p.1≠it):Inv X pins σ H { s with heap:=h',toks:=t' }:=by
 have Qf:∀b u,H b=some u->b≠it:=fun b u e z=>by rw[z,hn]at e;cases e
 refine I.step (g':=s.gens) (d':=s.drawn) (ch:= [it]) (fun b hb=>?_) (fun b o _ _ hc e _=>k b o (fun z=>hc (by simp[z])) e) (fun b o _ _ hc e _=>⟨o.slots,k b o (fun z=>hc (by simp[z])) e⟩) (fun _ _ _ _ n=>n)
  (fun b o hc e=>⟨o,k b o (fun z=>hc (by simp[z])) e⟩) (fun _ _ e=>e) (fun _ _ _ e=>e) (fun b ps e=>⟨#[],by rw[e];simp⟩) (fun m hm=>?_) (fun b u e=>?_) I.bare
 ·have e:b=it:=by simpa using hb
  subst e;exact⟨h1,hL,h2,h3⟩
 ·obtain⟨o,es,ep,ho,r⟩:=hm
  exact⟨o,es,ep,k _ o (aO hL) ho,r⟩
 ·refine(I.ar b u e).gY (fun c v hc q=>k c v ?_ q) (fun _ q=>q) fun _ _ q=>q
  rcases hc with z|z
  ·rw[z];exact Qf b u e
  ·exact Qf c _ z
theorem Inv.tok (I:Inv X pins σ H s) (t:Nat):Inv X pins σ H { s with toks:=t }:=I.un (h':=s.heap) (t':=t) Un.refl I.ar
theorem Inv.kept (I:Inv X pins σ H s) (k:∀b u,s.heap.get? b=some u->h'.get? b=some u):Inv X pins σ H { s with heap:=h',toks:=t' }:=I.un (Un.kept k) (I.ar.kept k)
theorem Inv.laid {o:HO} (I:Inv X pins σ H s) (k:∀b u,s.heap.get? b=some u->h'.get? b=some u) (hp:s.heap.objs.size<=a) (new:bu X.prog X.w (upd H a o) h' a o) :
  Inv X pins σ (upd H a o) { s with heap:=h',toks:=t' }:=I.un (Un.laid k hp (I.ar.fresh hp)) (I.ar.laid k hp new)
theorem Inv.write {x e:Addr}{o:HO} (I:Inv X pins σ H s) (mu:yJ (H x)) (he:e=x\/H e=some (.own x)) (k:∀b u,b≠e->s.heap.get? b=some u->h'.get? b=some u) (wq:∃u,h'.get? e=some u)
  (new:bu X.prog X.w (upd H x o) h' x o):Inv X pins σ (upd H x o) { s with heap:=h',toks:=t' }:=I.un (Un.write mu he k wq) (I.ar.write mu he k wq new)
theorem Inv.M' {ya:List (Addr×Obj)} (I:Inv X pins σ H s) (h:∀p∈ya,s.heap.get? p.1=some p.2/\H p.1=none/\p.1≠X.env.locals/\p.1 ∉ X.fs /\ ∀v,p.2.data ≠ .cell v):Inv X ya σ H s:=
 ⟨I.ok,I.os,I.bare,I.base,I.loc,I.cell,I.free,I.iD,fun p hp=>(dH.mp hp).elim (fun z=>I.pin p (ke _ z)) (h p),I.ar,I.len⟩
theorem Eu (hN:N.Nodup) (a:N[i]? = some x) (b:N[j]? = some x):i=j:=by
 obtain⟨h1,e1⟩:=cR.mp a;obtain⟨h2,e2⟩:=cR.mp b;exact(List.getElem_inj hN).mp (e1.trans e2.symm)
theorem LU {M:Model}{E:Value->Shared->Prop}{v:V}{Q:Unit->Shared->Prop} (I:Inv X pins σ H s) (hN:X.N.Nodup) (hi:X.N[i]? = some x) (hx:Loc X.env.scope x) (r:RelV v u)
  (h:∀s',Inv X pins (σ.set i (some v)) H s'->(∃a,Heap.SameBut a s.heap s'.heap/\(a=X.env.locals\/X.env.cells.lookup x=some a))->Q () s') (hf:X.fn x=true\/X.env.scope.names.lookup x=some .local:=by first|exact .inl rfl|exact .inr rfl|assumption):wpAny M A (storeName X.env x u) Q E s:=by
 obtain⟨m,hn,hl⟩:=id I.loc;have oh:(X.env.scope.kind == .class || (X.env.scope.kind == .module && X.env.locals != X.env.globals))=false:=by rw[I.ok.kind];rfl
 have OP:i < σ.length:=by rw[I.len];exact(cR.mp hi).1
 have m5:=I.m5;have tracked:∀ {a:Addr}{h':Heap},(∃o,s.heap.get? a=some o/\H a=none)->Heap.SameBut a s.heap h'->cW X.prog X.w H h':=fun {a h'} ha hs b ob e=>by
  obtain⟨_,_,yb⟩:=ha;refine(I.ar b ob e).gY (fun c w' hc q=>(hs.2 c ?_).trans q) (fun _ q=>q) fun _ _ q=>q;rintro rfl;rcases hc with rfl|hc
  ·rw[yb]at e;cases e
  ·rw[yb]at hc;cases hc
 rcases hx with hk|hk
 ·refine wpAny_storeName_local hk hn (fun h' j4 hs=>?_) oh
  obtain⟨oL,_,_,Qg,_⟩:=id hn;refine h _ ⟨I.ok,I.os,I.bare,⟨fun b o e n hb hx=>?_,fun b o e n hb hx=>?_,I.base.free,fun b o e hx=>?_,I.base.kJ,I.base.jX,I.base.kU⟩,⟨_,j4,fun j y v' e1 e2 e3=>?_⟩,fun y c e=>?_,I.free,I.iD,fun p hp=>?_,tracked ⟨oL,Qg,I.free⟩ hs,by simpa using I.len⟩ ⟨_,hs,.inl rfl⟩
  ·exact(hs.2 b (bp (gV (aV e) I.ok.above))).trans (I.base.keep b o e n hb hx)
  ·obtain⟨sl,e1⟩:=I.base.slot b o e n hb hx
   exact⟨sl,(hs.2 b (bp (gV (aV e) I.ok.above))).trans e1⟩
  ·obtain⟨o',e1⟩:=I.base.there b o e hx
   exact⟨o',(hs.2 b (bp (gV (aV e) I.ok.above))).trans e1⟩
  ·by_cases hj:j=i
   ·subst hj
    rw[hi]at e1;cases e1;rw[Tu OP]at e2;cases e2
    exact⟨u,r,.inl ⟨hk,by simp⟩⟩
   ·rw[Tv (aO hj)]at e2
    obtain⟨u',r',q⟩:=hl j y v' e1 e2 e3;refine⟨u',r',?_⟩;rcases q with⟨k,e⟩|⟨k,c,e,z⟩
    ·refine .inl ⟨k,?_⟩
     have:y≠x:=fun e=>hj (Eu hN e1 (e ▸ hi));simp[this,e]
    ·exact .inr ⟨k,c,e,z.sameBut hs (m5 y c e)⟩
  ·obtain⟨w',z⟩:=I.cell y c e
   exact⟨w',z.sameBut hs (m5 y c e)⟩
  ·obtain⟨e,n,ne,nf,d⟩:=I.pin p hp
   exact⟨(hs.2 p.1 ne).trans e,n,ne,nf,d⟩
 ·have Hx:X.fn x=true:=by
   rcases hf with z|z
   ·exact z
   ·rw[z]at hk;cases hk
  obtain⟨c,hc⟩:=I.ok.has x (.inl hk);obtain⟨w',z⟩:=I.cell x c hc;refine wpAny_storeName_cell I.ok.kind hk hc z (fun h' qe hs=>?_);obtain⟨oc,Qh,abv⟩:=id z;refine h { s with heap:=h' } ⟨I.ok,I.os,I.bare,⟨fun b o e n hb hx=>?_,fun b o e n hb hx=>?_,I.base.free,fun b o e hx=>?_,I.base.kJ,I.base.jX,I.base.kU⟩,⟨m,hn.sameBut hs (aO (m5 x c hc)),fun j y v' e1 e2 e3=>?_⟩,fun y c' e=>?_,I.free,I.iD,fun p hp=>?_,tracked ⟨oc,Qh,I.iD x c hc⟩ hs,by simpa using I.len⟩ ⟨c,hs,.inr hc⟩
  ·exact(hs.2 b (bp (gV (aV e) (I.ok.qd x c Hx hc)))).trans (I.base.keep b o e n hb hx)
  ·obtain⟨sl,e1⟩:=I.base.slot b o e n hb hx
   exact⟨sl,(hs.2 b (bp (gV (aV e) (I.ok.qd x c Hx hc)))).trans e1⟩
  ·obtain⟨o',e1⟩:=I.base.there b o e hx
   exact⟨o',(hs.2 b (bp (gV (aV e) (I.ok.qd x c Hx hc)))).trans e1⟩
  ·by_cases hj:j=i
   ·subst hj
    rw[hi]at e1;cases e1;rw[Tu OP]at e2;cases e2
    exact⟨u,r,.inr ⟨.inl hk,c,hc,qe⟩⟩
   ·rw[Tv (aO hj)]at e2
    obtain⟨u',r',q⟩:=hl j y v' e1 e2 e3;refine⟨u',r',?_⟩;rcases q with q|⟨k,c',e,z'⟩
    ·exact .inl q
    ·refine .inr ⟨k,c',e,z'.sameBut hs ?_⟩
     rintro rfl;exact hj (Eu hN e1 (I.ok.inj _ _ _ e hc ▸ hi))
  ·by_cases Qi:c'=c
   ·subst Qi;exact⟨_,qe⟩
   ·obtain⟨w2,z2⟩:=I.cell y c' e
    exact⟨w2,z2.sameBut hs Qi⟩
  ·obtain⟨e,n,ne,nf,d⟩:=I.pin p hp
   refine⟨(hs.2 p.1 ?_).trans e,n,ne,nf,d⟩;intro q;rw[q,Qh]at e;have q':oc=p.2:=f' e;exact d w' (by rw[<-q'];exact abv)
theorem uR {M:Model}{E:Value->Shared->Prop}{v:V}{Q:Unit->Shared->Prop} (I:Inv X pins σ H s) (hN:X.N.Nodup) (hi:X.N[i]? = some x) (hx:Loc X.env.scope x) (r:RelV v u)
  (h:∀s',Inv X pins (σ.set i (some v)) H s'->Q () s') (hf:X.fn x=true\/X.env.scope.names.lookup x=some .local:=by first|exact .inl rfl|exact .inr rfl|assumption):wpAny M A (storeName X.env x u) Q E s:=
 LU I hN hi hx r (fun s' I' _=>h s' I') hf
theorem Inv.vq (I:Inv X pins σ H s) (ho:s'.os=s.os) (u:Un (cY X.stack) ch H H' s.heap s'.heap) (ar:cW X.prog X.w H' s'.heap) (hg:AllBare s'.gens)
  (oz:∀b∈ch,(b∈X.ex\/X.cM.heap.objs.size<=b)/\b≠X.env.locals/\(∀x c,X.env.cells.lookup x=some c->c≠b) /\ ∀p∈X.pn++pins,p.1≠b):Inv X pins σ H' s':=by
 obtain⟨h',g',d',t',o'⟩:=s';have e:o'=s.os:=ho;subst e;exact I.call (g':=g') (t':=t') (d':=d') u ar hg oz
end
abbrev XK:=Value->Option Addr->Hp->Prop
abbrev St:=List (Option V)
abbrev VK:=V->Hp->Prop
abbrev TE:=St->Hp->VK->Prop
abbrev TT:=St->Hp->(Bool->Hp->Prop)->Prop
abbrev TA:=St->Hp->(List V->Hp->Prop)->Prop
structure Ends where
 nx:St->Hp->Prop
 rt:VK
 bk:St->Hp->Prop:=fun _ _=>False
 ct:St->Hp->Prop:=fun _ _=>False
abbrev TS:=Ends->St->Hp->Prop
end L2
variable{H H' H1 H2:L2.Hp}{X:L2.Cx}{σ jf:L2.St}{E:L2.XK}{v y:L2.V}{Q:L2.VK}{ta te tl:L2.TE}{tb:L2.TS}{ys vs ws wv:List L2.V}{D:L2.Ends}{ti:L2.TT}{kvs lk fk:List (L2.Key×L2.V)}{O:L2.HO}
namespace L2
open PySem PySem.Spec PyProof.Rows
def EP (X:Cx) (pins:List (Addr×Obj)) (σ:St) (Q:VK) (u:Value) (s':Shared):Prop:= ∃v H',Inv X pins σ H' s'/\RelV v u/\Q v H'
def TP (X:Cx) (pins:List (Addr×Obj)) (σ:St) (Q:Bool->Hp->Prop) (b:Bool) (s':Shared):Prop:= ∃H',Inv X pins σ H' s'/\Q b H'
def AP (X:Cx) (pins:List (Addr×Obj)) (σ:St) (Q:List V->Hp->Prop) (us:List Value) (s':Shared):Prop:= ∃vs H',Inv X pins σ H' s'/\Vals vs us/\Q vs H'
noncomputable def SP (X:Cx) (pins:List (Addr×Obj)) (D:Ends) (f:Flow) (s':Shared):Prop:=
 match f with
 |.next=>∃aG H',Inv X pins aG H' s'/\D.nx aG H'
 |.brk=>∃aG H',Inv X pins aG H' s'/\D.bk aG H'
 |.cont=>∃aG H',Inv X pins aG H' s'/\D.ct aG H'
 |.ret u=>∃v aG H',Inv X pins aG H' s'/\RelV v u/\D.rt v H'
def PE (X:Cx) (e:Expr) (t:TE):Prop:=
 ∀ (pins:List (Addr×Obj)) (s:Shared) (σ:St) (H:Hp) (Q:VK),Inv X pins σ H s->t σ H Q->wpAny (model X.prog X.w) X.A (eval e X.env) (EP X pins σ Q) X.xe s
noncomputable def PT (X:Cx) (e:Expr) (t:TT):Prop:=
 ∀ (pins:List (Addr×Obj)) (s:Shared) (σ:St) (H:Hp) (Q:Bool->Hp->Prop),Inv X pins σ H s->t σ H Q->wpAny (model X.prog X.w) X.A (isTrue e X.env (eval e X.env)) (TP X pins σ Q) X.xe s
noncomputable def PW (X:Cx) (e:Expr) (t:TT):Prop:=
 ∀ (whole:Sem Value) (pins:List (Addr×Obj)) (s:Shared) (σ:St) (H:Hp) (Q:Bool->Hp->Prop),Inv X pins σ H s->t σ H Q->wpAny (model X.prog X.w) X.A (isTrue e X.env whole) (TP X pins σ Q) X.xe s
theorem PW.pt {t:TT} (h:PW X e t):PT X e t:=h _
noncomputable def PA (X:Cx) (es:List Expr) (t:TA):Prop:=
 ∀ (pos:Pos) (pins:List (Addr×Obj)) (s:Shared) (σ:St) (H:Hp) (Q:List V->Hp->Prop),Inv X pins σ H s->t σ H Q->wpAny (model X.prog X.w) X.A (spliced (backTo pos (starEach es X.env))) (AP X pins σ Q) X.xe s
def PS (X:Cx) (st:Stmt) (t:TS):Prop:=
 ∀ (pins:List (Addr×Obj)) (s:Shared) (σ:St) (H:Hp) (D:Ends),Inv X pins σ H s->t D σ H->wpAny (model X.prog X.w) X.A (exec st X.env) (SP X pins D) X.xe s
noncomputable def gA (X:Cx) (st:List Stmt) (t:TS):Prop:=
 ∀ (pins:List (Addr×Obj)) (s:Shared) (σ:St) (H:Hp) (D:Ends),Inv X pins σ H s->t D σ H->wpAny (model X.prog X.w) X.A (execs st X.env) (SP X pins D) X.xe s
theorem aE {α:Type}{t:Sem α}{Q Q':α->Shared->Prop}{M:Model}{E:Value->Shared->Prop} (h:wpAny M A t Q E s) (hQ:∀a s,Q a s->Q' a s):wpAny M A t Q' E s:=mn h hQ fun _ _ x=>x
section
def lV (i:Nat):TE:=fun σ H Q=>∃v,σ[i]? = some (some v)/\Q v H
def tC (v:V):TE:=fun _ H Q=>Q v H
theorem Zg (hN:X.N[i]? = some x) (hv:Hv X.env.scope x) (hd:(x==("__debug__" : Str))=false:=by decide) (gQ:(x==("__classdict__" : Str))=false:=by decide):PE X (.Name x pos) (lV i):=by
 intro pins s σ H Q I h;obtain⟨v,e,h⟩:=h;obtain⟨m,hn,hl⟩:=I.loc;obtain⟨u,r,l⟩:=hl i x v hN e hv;have fin:EP X pins σ Q u s:=⟨v,H,I,r,h⟩;rcases l with⟨hk,hm⟩|⟨hk,c,hc,Of⟩
 ·exact wpAny_Name (wpAny_loadName_local I.ok.kind hk hn hm fin) hd
 ·rcases hk with hk|hk
  ·exact wpAny_Name (wpAny_loadName_cell I.ok.kind hk hc Of fin) hd
  ·exact wpAny_Name (wpAny_loadName_free I.ok.kind hk hc Of fin gQ) hd
theorem aP {i j pos}:PE X (.Constant (.int i) j pos) (tC (.int i)):=fun _ _ _ H _ I h=>wpAny_Constant_int ⟨.int i,H,I.tok _,⟨_,rfl⟩,h⟩
theorem gX {b j pos}:PE X (.Constant (.bool b) j pos) (tC (.bl b)):=fun _ _ _ H _ I h=>Constant_bool ⟨.bl b,H,I,rfl,h⟩
theorem iR {j pos}:PE X (.Constant .none j pos) (tC .aF):=fun _ _ _ H _ I h=>Constant_none ⟨.aF,H,I,rfl,h⟩
theorem kx {x j pos}:PE X (.Constant (.str x) j pos) (tC (.str x)):=fun _ _ _ H _ I h=>Calls.Constant_str ⟨.str x,H,I.tok _,⟨_,rfl⟩,h⟩
def Gl (X:Cx) (x:Str):Prop:=X.env.kindOf x=some .globalImplicit
theorem nU {E:Value->Shared->Prop}{Q:Value->Shared->Prop} (I:Inv X pins σ H s) (hg:Gl X x) (hm:X.mg x=some u) (h:Q u s)
  (hd:(x==("__debug__" : Str))=false:=by decide):wpAny (model X.prog X.w) X.A (eval (.Name x pos) X.env) Q E s:=
 ajP I.ok.kind hg (Calls.loadGlobal_global (by rw[I.ok.glob];exact I.mod.glob.keeps I.bk) hm h) hd
theorem sJ {E:Value->Shared->Prop}{Q:Value->Shared->Prop} (I:Inv X pins σ H s) (hg:Gl X x) (hm:X.mg x=none) (hv:bootBuiltins x=some u) (h:Q u s)
  (hn:x ≠ "__name__" :=by decide) (hd:(x==("__debug__" : Str))=false:=by decide):wpAny (model X.prog X.w) X.A (eval (.Name x pos) X.env) Q E s:=by
 obtain⟨mb,h1,h2⟩:=I.mod.blt;exact ajP I.ok.kind hg (Calls.loadGlobal_builtin (by rw[I.ok.glob];exact I.mod.glob.keeps I.bk) hm (by rw[I.ok.blt];exact h1.keeps I.bk) ((h2 x hn).trans hv) h) hd
theorem Bd (hg:Gl X x) (hm:X.mg x=some u) (r:RelV v u) (hd:(x==("__debug__" : Str))=false:=by decide):PE X (.Name x pos) (tC v):=
 fun _ _ _ H _ I h=>nU I hg hm ⟨v,H,I,r,h⟩ hd
theorem ko (hg:Gl X x) (hm:X.mg x=none) (hv:bootBuiltins x=some u) (r:RelV v u) (hn:x ≠ "__name__" :=by decide) (hd:(x==("__debug__" : Str))=false:=by decide):PE X (.Name x pos) (tC v):=
 fun _ _ _ H _ I h=>sJ I hg hm hv ⟨v,H,I,r,h⟩ hn hd
variable{a b:Expr}{tb:TE}
noncomputable def PC (X:Cx) (op:CmpOp) (a b:Expr) (t:TE):Prop:=
 ∀ (pins:List (Addr×Obj)) (s:Shared) (σ:St) (H:Hp) (Q:VK),Inv X pins σ H s->t σ H Q ->
  wpAny (model X.prog X.w) X.A (eval a X.env) (fun v br=>wpAny (model X.prog X.w) X.A (eval b X.env) (fun u mJ=>wpAny (model X.prog X.w) X.A (compareOp op v u) (EP X pins σ Q) X.xe mJ) X.xe br) X.xe s
def tB (t:TE):TT:=fun σ H Q=>t σ H fun x H1=>∃c,x = .bl c/\Q c H1
theorem Bj {op:CmpOp}{t:TE} (h:PC X op a b t) (h1:behindInMarks op b=false:=by first|exact Xh _ (by decide) (by decide)|rfl):PE X (.Compare a [op] [b] pos) t:=fun pins s σ H Q I hw=>wpAny_Compare1 (h pins s σ H Q I hw) h1
theorem Fn {op:CmpOp}{t:TE} (h:PC X op a b t) (h1:behindInMarks op b=false:=by first|exact Xh _ (by decide) (by decide)|rfl):PT X (.Compare a [op] [b] pos) (tB t):=by
 intro pins s σ H Q I hw;refine wpAny_isTrue_Compare1 (aE (h pins s σ H _ I hw) fun v s1 h1=>aE h1 fun u s2 h2=>aE h2 fun c s3 hQ9=>?_) h1;obtain⟨x,H1,I1,r1,q1⟩:=hQ9;obtain⟨d,rfl,q⟩:=q1;cases r1
 exact nM ⟨H1,I1,q⟩
theorem eT {t:TE} (h:PE X e t) (he:∀whole,isTrue e X.env whole=(do let v <- whole;standAt e.pos;holding [v] (truthy v)):=by intro _;rfl):PT X e (tB t):=by
 intro pins s σ H Q I hw;refine isTrue_plain (aE (h pins s σ H _ I hw) fun v s1 hQ9=>?_) (he _);obtain⟨x,H1,I1,r1,q1⟩:=hQ9;obtain⟨d,rfl,q⟩:=q1;cases r1
 exact nM ⟨H1,I1,q⟩
variable{tA BQ:TT}{rest:List Expr}
def abw (t u:TT):TT:=fun σ H Q=>t σ H fun c H1=>if c=true then u σ H1 Q else Q false H1
def tOr (t u:TT):TT:=fun σ H Q=>t σ H fun c H1=>if c=true then Q true H1 else u σ H1 Q
def abx (t:TT):TT:=fun σ H Q=>t σ H fun c H1=>Q (!c) H1
theorem pw_and1 (ha:PT X a tA):PW X (.BoolOp .And [a] pos) tA:=by
 intro wh pins s σ H Q I h;refine isTrue_and (aE (ha pins s σ H Q I h) fun c s1 e=>?_);cases c with
 |true=>exact isTrue_and_nil e
 |false=>exact e
theorem pw_or1 (ha:PT X a tA):PW X (.BoolOp .Or [a] pos) tA:=by
 intro wh pins s σ H Q I h;refine isTrue_or (aE (ha pins s σ H Q I h) fun c s1 e=>?_);cases c with
 |false=>exact isTrue_or_nil e
 |true=>exact e
theorem pw_and (ha:PT X a tA) (hb:PW X (.BoolOp .And (b::rest) pos) BQ):PW X (.BoolOp .And (a::b::rest) pos) (abw tA BQ):=by
 intro wh pins s σ H Q I h;refine isTrue_and (aE (ha pins s σ H _ I h) fun c s1 ⟨H1,I1,q1⟩=>?_);cases c with
 |true=>exact hb wh pins s1 σ H1 Q I1 q1
 |false=>exact⟨H1,I1,q1⟩
theorem pw_or (ha:PT X a tA) (hb:PW X (.BoolOp .Or (b::rest) pos) BQ):PW X (.BoolOp .Or (a::b::rest) pos) (tOr tA BQ):=by
 intro wh pins s σ H Q I h;refine isTrue_or (aE (ha pins s σ H _ I h) fun c s1 ⟨H1,I1,q1⟩=>?_);cases c with
 |true=>exact⟨H1,I1,q1⟩
 |false=>exact hb wh pins s1 σ H1 Q I1 q1
theorem gx (ha:PT X a tA):PT X (.UnaryOp .Not a pos) (abx tA):=by
 intro pins s σ H Q I h;exact isTrue_not (ha pins s σ H (fun c H1=>Q (!c) H1) I h)
def Z8 (ta tb:TE):TE:=fun σ H Q=>ta σ H fun x H1=>∃c,x = .bl c/\if c=true then tb σ H1 Q else Q (.bl false) H1
def Z9 (ta:TE):TE:=fun σ H Q=>ta σ H fun x H1=>∃c,x = .bl c/\Q (.bl (!c)) H1
theorem xN {op}{t:TE} (h:PE X a t):PE X (.BoolOp op [a] pos) t:=fun pins s σ H Q I hw=>BoolOp_one (h pins s σ H Q I hw)
theorem sL (ha:PE X a ta) (hb:PE X (.BoolOp .And (b::rest) pos) tb):PE X (.BoolOp .And (a::b::rest) pos) (Z8 ta tb):=by
 intro pins s σ H Q I h;refine BoolOp_and (aE (ha pins s σ H _ I h) fun v s1 hQ9=>?_);obtain⟨x,H1,I1,r1,q1⟩:=hQ9;obtain⟨c,rfl,q1⟩:=q1;cases r1
 refine nM ?_;cases c with
 |true=>exact hb pins s1 σ H1 Q I1 q1
 |false=>exact⟨.bl false,H1,I1,rfl,q1⟩
theorem Zh (ha:PE X a ta):PE X (.UnaryOp .Not a pos) (Z9 ta):=by
 intro pins s σ H Q I h;refine UnaryOp_ (aE (ha pins s σ H _ I h) fun v s1 hQ9=>?_);obtain⟨x,H1,I1,r1,q1⟩:=hQ9;obtain⟨c,rfl,q1⟩:=q1;cases r1
 exact not_of (nM ⟨.bl (!c),H1,I1,rfl,q1⟩)
end
noncomputable def aj (K:PySem.W.Frag) (H:Hp) (a:Addr) (xs:List V):Prop:=
 Rd H a (.lst xs) \/
  ∃ (o:Obj) (its:Array Value) (n:Nat),K.lookup a=some o/\o.cls = .type "list" /\ o.dict=none/\o.data = .seq its n/\its.size<=sizeLine/\Vals xs its.toList
noncomputable def aC (K:PySem.W.Frag) (H:Hp) (a:Addr) (xs:List V):Prop:=
 Rd H a (.tup xs) \/
  ∃ (o:Obj) (its:Array Value) (n:Nat),K.lookup a=some o/\o.cls = .type "tuple" /\ o.data = .seq its n/\its.size<=sizeLine/\Vals xs its.toList
def aby:Value->Option V
 |.none=>some .aF
 |.bool b=>some (.bl b)
 |.int i _=>some (.int i)
 |.str x _=>some (.str x)
 |.bytes b _=>some (.j0 b)
 |.float b _=>some (.j3 b)
 |.ref a=>some (.ref a)
 |.type n=>some (.ty n)
 |_=>none
theorem RelV.abs {x:V} (r:RelV x u):aby u=some x:=by
 cases x with
 |aF=>cases r;rfl
 |bl _=>cases r;rfl
 |int _=>obtain⟨t,rfl⟩:=r;rfl
 |str _=>obtain⟨t,rfl⟩:=r;rfl
 |j0 _=>obtain⟨t,rfl⟩:=r;rfl
 |j3 _=>obtain⟨t,rfl⟩:=r;rfl
 |ref _=>cases r;rfl
 |ty _=>cases r;rfl
theorem RelV.inj {x:V} (r:RelV x u) (q:RelV y u):x=y:=f' (r.abs.symm.trans q.abs)
theorem Vals.inj:∀ {xs ys:List V}{us:List Value},Vals xs us->Vals ys us->xs=ys
 |_,_,_,.nil,.nil=>rfl
 |_,_,_,.cons r t,.cons r' t'=>by rw[r.inj r',Vals.inj t t']
section
variable{xs:List V}
theorem aj.of (h:H a=some (.lst xs)):aj K H a xs:= .inl (.inl h)
theorem aC.of (h:H a=some (.tup xs)):aC K H a xs:= .inl (.inl h)
theorem Inv.list (I:Inv X pins σ H s) (h:aj X.K H a xs):∃its:List Value,Vals xs its/\PlainL s.heap a its.toArray/\xs.length<=sizeLine:=by
 rcases h with h|⟨o,its,n,hk,hc,hd,hs,hz,r⟩
 ·obtain⟨z,its,n,r,e⟩:=h.ok I.ar
  exact⟨its,r,⟨_,n,e,rfl,rfl,rfl⟩,z⟩
 ·refine⟨its.toList,r,⟨o,n,I.bx a o hk,hc,hd,by simpa using hs⟩,?_⟩
  have e:=r.length;simp only[jO]at e;omega
theorem Inv.tuple (I:Inv X pins σ H s) (h:aC X.K H a xs):∃its:List Value,Vals xs its/\IsTup s.heap a its.toArray/\xs.length<=sizeLine:=by
 rcases h with h|⟨o,its,n,hk,hc,hs,hz,r⟩
 ·obtain⟨z,its,r,p⟩:=h.ok I.ar
  exact⟨its,r,p.is,z⟩
 ·refine⟨its.toList,r,⟨o,I.bx a o hk,hc,n,by simpa using hs⟩,?_⟩
  have e:=r.length;simp only[jO]at e;omega
theorem Inv.AS (I:Inv X pins σ H s) (h:aj X.K H a xs) (h':aj X.K H a ys):xs=ys:=by
 obtain⟨its,r,⟨o,n,e,_,_,d⟩,_⟩:=I.list h;obtain⟨its',r',⟨o',n',e',_,_,d'⟩,_⟩:=I.list h';rw[e]at e';cases e';rw[d]at d';injection d' with d1 _;have:its=its':=by simpa using fc Array.toList d1
 subst this;exact r.inj r'
theorem Inv.D' (I:Inv X pins σ H s) (h:aC X.K H a xs) (h':aC X.K H a ys):xs=ys:=by
 obtain⟨its,r,⟨o,e,_,n,d⟩,_⟩:=I.tuple h;obtain⟨its',r',⟨o',e',_,n',d'⟩,_⟩:=I.tuple h';rw[e]at e';cases e';rw[d]at d';injection d' with d1 _;have:its=its':=by simpa using fc Array.toList d1
 subst this;exact r.inj r'
end
abbrev Cx.lW (X:Cx) (E:Value->Shared->Prop):Cx:={ X with xe:=E }
abbrev Cx.BR (X:Cx):Cx:=X.lW fun _ _=>False
theorem Cx.Ok.lW (ok:X.Ok) (E:Value->Shared->Prop):(X.lW E).Ok:=
 ⟨ok.mod,ok.kind,ok.glob,ok.blt,ok.above,ok.inj,ok.has,ok.qd,ok.hd,ok.frames,ok.m4,ok.ou,ok.bs,ok.lb,ok.pX,ok.og,ok.gL,ok.lY⟩
theorem Cx.Ok.qU {E:Value->Shared->Prop} (ok:(X.lW E).Ok):X.Ok:=
 ⟨ok.mod,ok.kind,ok.glob,ok.blt,ok.above,ok.inj,ok.has,ok.qd,ok.hd,ok.frames,ok.m4,ok.ou,ok.bs,ok.lb,ok.pX,ok.og,ok.gL,ok.lY⟩
section
variable{E:Value->Shared->Prop}
theorem Inv.lW (I:Inv X pins σ H s) (E:Value->Shared->Prop):Inv (X.lW E) pins σ H s:=⟨I.ok.lW E,I.os,I.bare,I.base,I.loc,I.cell,I.free,I.iD,I.pin,I.ar,I.len⟩
theorem Inv.qU (I:Inv (X.lW E) pins σ H s):Inv X pins σ H s:=⟨I.ok.qU,I.os,I.bare,I.base,I.loc,I.cell,I.free,I.iD,I.pin,I.ar,I.len⟩
theorem SP.qU {f:Flow} (h:SP (X.lW E) pins D f s'):SP X pins D f s':=by
 cases f with
 |next=>obtain⟨aG,H',I,q⟩:=h;exact⟨aG,H',I.qU,q⟩
 |brk=>obtain⟨aG,H',I,q⟩:=h;exact⟨aG,H',I.qU,q⟩
 |cont=>obtain⟨aG,H',I,q⟩:=h;exact⟨aG,H',I.qU,q⟩
 |ret u=>obtain⟨v,aG,H',I,r,q⟩:=h;exact⟨v,aG,H',I.qU,r,q⟩
theorem gA.BR {st:List Stmt}{t:TS} (h:gA X.BR st t):gA X st t:=fun pins s σ H D I hw =>
 mn (h pins s σ H D (I.lW _) hw) (fun _ _ q=>q.qU) fun _ _ z=>False.elim z
end
section
variable{st:Stmt}{rest:List Stmt}{t u:TS}
def Z':TS:=fun D σ H=>D.nx σ H
def abz (t u:TS):TS:=fun D σ H=>t { D with nx:=u D } σ H
theorem cU:gA X [] Z':=fun _ _ σ H _ I h=>xf ⟨σ,H,I,h⟩
theorem aD (h1:PS X st t) (h2:gA X rest u):gA X (st::rest) (abz t u):=by
 intro pins s σ H D I h;refine Tw (aE (h1 pins s σ H { D with nx:=u D } I h) fun f s1 q=>?_);cases f with
 |next =>
  obtain⟨aG,H',I',q⟩:=q;exact h2 pins s1 aG H' D I' q
 |ret v=>exact q
 |brk=>exact q
 |cont=>exact q
theorem aK (h1:PS X st t):gA X [st] t:=by
 intro pins s σ H D I h;refine Tw (aE (h1 pins s σ H D I h) fun f s1 q=>?_);cases f with
 |next=>exact xf q
 |ret v=>exact q
 |brk=>exact q
 |cont=>exact q
theorem Inv.quiet (I:Inv X pins σ H s):interactive X.env=false:=by simp[interactive,I.ok.kind]
def aaa (te:TE):TS:=fun D σ H=>te σ H fun _ H1=>D.nx σ H1
theorem ig (he:PE X e te) (hs:swapsWith e none pos.line X.env=pure false:=by rfl):PS X (.Expr e pos) (aaa te):=by
 intro pins s σ H D I h;exact wpAny_Expr_any (aE (he pins s σ H _ I h) fun v s1 ⟨x,H1,I1,r1,q1⟩=>⟨σ,H1,I1,q1⟩) I.quiet hs
def abA (te:TE):TS:=fun D σ H=>te σ H D.rt
theorem bf (he:PE X e te):PS X (.Return (some e) pos) (abA te):=by
 intro pins s σ H D I h;exact wpAny_Return_some (aE (he pins s σ H _ I h) fun v s1 ⟨x,H1,I1,r1,q1⟩=>⟨x,σ,H1,I1,r1,q1⟩)
def abB (c:TT) (t u:TS):TS:=fun D σ H=>c σ H fun b H1=>if b=true then t D σ H1 else u D σ H1
theorem cQ {c:Expr}{a b:List Stmt}{tc:TT} (hc:PT X c tc) (ha:gA X a t) (hb:gA X b u):PS X (.If c a b pos) (abB tc t u):=by
 intro pins s σ H D I h;refine wpAny_If (aE (hc pins s σ H _ I h) fun d s1 ⟨H1,I1,q1⟩=>?_);cases d with
 |true=>exact ha pins s1 σ H1 D I1 q1
 |false=>exact hb pins s1 σ H1 D I1 q1
def Zi:TS:=fun _ _ _=>False
theorem LV {sts:List Stmt}:gA X sts Zi:=fun _ _ _ _ _ _ h=>h.elim
end
abbrev TG:=V->St->Hp->(St->Hp->Prop)->Prop
abbrev oA:=List V->St->Hp->(St->Hp->Prop)->Prop
noncomputable def PG (X:Cx) (target:Expr) (t:TG):Prop:=
 ∀ (pins:List (Addr×Obj)) (s:Shared) (σ:St) (H:Hp) (v:V) (u:Value) (Q:St->Hp->Prop),Inv X pins σ H s->RelV v u->t v σ H Q ->
  wpAny (model X.prog X.w) X.A (assign target X.env u) (fun _ s'=>∃aG H',Inv X pins aG H' s'/\Q aG H') X.xe s
noncomputable def wt (X:Cx) (ts:List Expr) (t:oA):Prop:=
 ∀ (pins:List (Addr×Obj)) (s:Shared) (σ:St) (H:Hp) (vs:List V) (us:List Value) (Q:St->Hp->Prop),Inv X pins σ H s->Vals vs us->t vs σ H Q ->
  wpAny (model X.prog X.w) X.A (assignInOrder ((assignEach ts X.env).map (·.2)) us) (fun _ s'=>∃aG H',Inv X pins aG H' s'/\Q aG H') X.xe s
abbrev Ge:=V->V->V->Hp->(Hp->Prop)->Prop
noncomputable def OQ (X:Cx) (t:Ge):Prop:=
 ∀ (pins:List (Addr×Obj)) (s:Shared) (σ:St) (H:Hp) (o i v:V) (ov iv u:Value) (Q:Hp->Prop),Inv X pins σ H s->RelV o ov->RelV i iv->RelV v u->t o i v H Q ->
  wpAny (model X.prog X.w) X.A (setItem ov iv u) (fun _ s'=>∃H',Inv X pins σ H' s'/\Q H') X.xe s
def sV (i:Nat):TG:=fun v σ H Q=>Q (σ.set i (some v)) H
theorem aX (hN:X.N.Nodup) (hi:X.N[i]? = some x) (hx:Loc X.env.scope x) (hf:X.fn x=true\/X.env.scope.names.lookup x=some .local:=by first|exact .inl rfl|exact .inr rfl|assumption):PG X (.Name x pos) (sV i):=by
 intro pins s σ H v u Q I r h;exact wpAny_assign_Name (uR I hN hi hx r (fun s' I'=>⟨_,H,I',h⟩) hf)
def abC:oA:=fun vs σ H Q=>vs = []/\Q σ H
def aab (t:TG) (u:oA):oA:=fun vs σ H Q=>∃v r,vs=v::r/\t v σ H fun aG H'=>u r aG H' Q
theorem kq:wt X [] abC:=by
 intro pins s σ H vs us Q I r h;obtain⟨e,h⟩:=h;subst e;cases r
 exact assignInOrder_nil ⟨σ,H,I,h⟩
theorem eF {t:TG}{u:oA} (h1:PG X e t) (h2:wt X es u)
  (hs:(assignEach (e::es) X.env).map (·.2)=assign e X.env::(assignEach es X.env).map (·.2):=by rfl):wt X (e::es) (aab t u):=by
 intro pins s σ H vs us Q I r h;obtain⟨v,vr,e1,h⟩:=h;subst e1;cases r with
 |cons r rr =>
  rw[hs];refine Tx (aE (h1 pins s σ H _ _ _ I r h) fun _ s1 ⟨wu,H1,I1,q1⟩=>?_);exact h2 pins s1 wu H1 _ _ Q I1 rr q1
def OR (K:PySem.W.Frag) (n:Nat) (t:oA):TG:=fun v σ H Q=>∃a xs,v = .ref a/\aC K H a xs/\xs.length=n/\t xs σ H Q
theorem pN {k:Nat}{t:oA} (hc:X.calm=true) (h:wt X es t)
  (hn:(assignEach es X.env).length=n:=by rfl) (tP:(assignEach es X.env).findIdx? (·.1)=none:=by rfl):PG X (.Tuple es k pos) (OR X.K n t):=by
 intro pins s σ H v u Q I r hw;obtain⟨a,xs,e1,hq,hl,hw⟩:=hw;subst e1;cases r
 obtain⟨its,rv,ht,hz⟩:=I.tuple hq;refine assign_Tuple_tuple (I.ok.hd hc) ht (by simp[hn,<-hl,rv.length]) tP fun h' hx=>?_
 have I1:Inv X pins σ H { s with heap:=h' }:=I.kept (t':=s.toks) fun b o e=>hx b o (bp (aV e)) e;exact h pins _ σ H xs _ Q I1 (by simpa using rv) hw
def abD (to ti:TE) (t:Ge):TG:=fun v σ H Q=>to σ H fun o H1=>ti σ H1 fun i H2=>t o i v H2 fun H3=>Q σ H3
theorem NU {o i:Expr}{to ti:TE}{t:Ge} (ho:PE X o to) (hi:PE X i ti) (hs:OQ X t)
  (ha:∀v,assign (.Subscript o i pos) X.env v=(do
   let ov <- holding [v] (eval o X.env)
   let iv <- holding [v,ov] (eval i X.env)
   standAt pos
   holding [v,ov,iv] (setItem ov iv v)
   release [v,ov,iv] []):=by intro _;rfl):PG X (.Subscript o i pos) (abD to ti t):=by
 intro pins s σ H v u Q I r h;rw[ha];refine ae (eM (aE (ho pins s σ H _ I h) fun ov s1 hQ9=>?_));obtain⟨x,H1,I1,r1,q1⟩:=hQ9;refine ae (eM (aE (hi pins s1 σ H1 _ I1 q1) fun iv s2 hQ9=>?_));obtain⟨y,H2,I2,r2,q2⟩:=hQ9;refine ae (qE (ae (eM (aE (hs pins s2 σ H2 x y v ov iv u _ I2 r1 r2 r q2) fun _ s3 ⟨H3,I3,q3⟩=>?_))));exact wpAny_release ⟨σ,H3,I3,q3⟩
def Gf (te:TE) (g:TG):TS:=fun D σ H=>te σ H fun x H1=>g x σ H1 D.nx
theorem qV {g:TG} (he:PE X e te) (hg:PG X tg g) (hs:swapsWithSole [tg] e pos.line X.env=pure false:=by rfl) (hw:swappedStores [tg] e X.env=pure none:=by rfl)
  (h1:(assignEach [tg] X.env).map (·.2) = [assign tg X.env]:=by rfl):PS X (.Assign [tg] e pos) (Gf te g):=by
 intro pins s σ H D I h;refine wpAny_Assign_stores (aE (he pins s σ H _ I h) fun v s1 hQ9=>?_) hs hw;obtain⟨x,H1,I1,r1,q1⟩:=hQ9;rw[h1];exact aE (hg pins s1 σ H1 x v _ I1 r1 q1) fun _ s2 q=>q
theorem bq (hN:X.N.Nodup) (hi:X.N[i]? = some x) (hx:Loc X.env.scope x) (he:PE X e te) (hs:swapsWith e (some (.Name x pos')) pos.line X.env=pure false:=by rfl) (hf:X.fn x=true\/X.env.scope.names.lookup x=some .local:=by first|exact .inl rfl|exact .inr rfl|assumption) :
  PS X (.Assign [.Name x pos'] e pos) (Gf te (sV i)):=by
 intro pins s σ H D I h;refine wpAny_Assign_Name (aE (he pins s σ H _ I h) fun v s1 hQ9=>?_) hs;obtain⟨y,H1,I1,r1,q1⟩:=hQ9;exact uR I1 hN hi hx r1 (fun s2 I2=>⟨_,H1,I2,q1⟩) hf
def abE (i j:Nat) (ta:TA):TS:=fun D σ H=>ta σ H fun vs H1=>∃v w,vs = [v,w]/\D.nx ((σ.set i (some v)).set j (some w)) H1
theorem Zj {y:Str}{a b:Expr}{ta:TA}{px py pt:Pos}{kt k2 Hy} (hc:X.calm=true) (hN:X.N.Nodup) (hi:X.N[i]? = some x) (hj:X.N[j]? = some y) (iH:i≠j)
  (hx:X.env.scope.names.lookup x=some .local) (hy:X.env.scope.names.lookup y=some .local) (ha:PA X [a,b] ta)
  (hw:swappedStores [.Tuple [.Name x px,.Name y py] kt pt] (.Tuple [a,b] k2 Hy) X.env=pure (some [x,y]))
  (hs:swapsWithSole [.Tuple [.Name x px,.Name y py] kt pt] (.Tuple [a,b] k2 Hy) pos.line X.env=pure false:=by rfl) :
  PS X (.Assign [.Tuple [.Name x px,.Name y py] kt pt] (.Tuple [a,b] k2 Hy) pos) (abE i j ta):=by
 intro pins s σ H D I h;rw[exec_Assign_arm];refine ae (qE ?_);rw[hs];refine ae (ak ?_);rw[au (by decide)]
 refine ae (Tuple_ (aE (ha _ pins s σ H _ I h) fun us s1 hQ9=>?_));obtain⟨vs,H1,I1,r1,q1⟩:=hQ9;obtain⟨v,w,e1,q1⟩:=q1;subst e1;obtain⟨u1,u2,rfl,rv,ir⟩:∃u1 u2,us = [u1,u2]/\RelV v u1/\RelV w u2:=by
  cases r1 with
  |cons p q =>
   cases q with
   |cons p' q' =>
    cases q'
    exact⟨_,_,rfl,p,p'⟩
 refine jl ?_ (by show 2<=sizeLine;decide)
 have I2:Inv X pins σ H1 { s1 with heap:=s1.heap.push { cls:= .type "tuple",data:= .seq [u1,u2].toArray } }:=I1.kept (t':=s1.toks) fun b o e=>aT _ e;rw[hw];refine ae (ak ?_);show wpAny (model X.prog X.w) X.A (do rule "assign.swapped-stores"; let items <- unpackItems (.ref s1.heap.objs.size) 2 none;assignInOrder [fun v=>bindName X.env y v,fun v=>bindName X.env x v] items.reverse;pure Flow.next) _ _ _;refine ae (lF (ae (unpackItems_tuple (items:= #[u1,u2]) (I.ok.hd hc) (IsTup.new s1.heap _) fun h' gB=>?_)));have I3:=I2.kept (h':=h') (t':=s1.toks) fun b o e=>gB b o (bp (aV e)) e;show wpAny _ _ (assignInOrder [fun v=>bindName X.env y v,fun v=>bindName X.env x v] [u2,u1] >>= fun _=>pure Flow.next) _ _ _;refine ae (Tx (wpAny_bindName (uR I3 hN hj (.inl hy) ir (fun s2 I4=>?_) (.inr hy))));refine Tx (wpAny_bindName (uR I4 hN hi (.inl hx) rv (fun s3 I5=>assignInOrder_nil (ak ?_)) (.inr hx)));rw[List.set_comm _ _ (aO iH)]at I5;exact⟨_,H1,I5,q1⟩
noncomputable def Zk (c:TT) (tb:TS):TS:=fun D σ H=>∃W:Nat->St->Hp->Prop,(∃m,W m σ H) /\ ∀m σ H,W m σ H ->
 c σ H fun b H1=>if b=true then ∃N:St->Hp->Prop,(∀aG H',N aG H' -> ∃m',m' < m/\W m' aG H')/\tb { D with nx:=N,ct:=N,bk:=D.nx } σ H1 else D.nx σ H1
theorem uS {c:Expr}{tc:TT} (hp:PassesOwn (model X.prog X.w) X.A X.env X.xe) (hc:PT X c tc) (hb:gA X body tb):PS X (.While c body [] pos) (Zk tc tb):=by
 intro pins s σ H D I h;obtain⟨W,⟨m0,w0⟩,turn⟩:=h;refine wpAny_While (codeAny_whileLoop (fun n s'=>∃aG H',Inv X pins aG H' s'/\W n aG H') ?_ m0 ⟨σ,H,I,w0⟩);rintro n s1 ⟨wu,H1,I1,w1⟩;refine xg hp (aE (hc pins s1 wu H1 _ I1 (turn n wu H1 w1)) fun b s2 ⟨H2,I2,q2⟩=>?_);cases b with
 |true =>
  obtain⟨N,hN,q2⟩:=q2;rw[aB rfl];refine xg hp (aE (hb pins s2 wu H2 _ I2 q2) fun f s3 q3=>?_);cases f with
  |next =>
   obtain⟨m6,H3,I3,n3⟩:=q3;obtain⟨m',hm,w3⟩:=hN m6 H3 n3;exact⟨m',hm,m6,H3,I3,w3⟩
  |cont =>
   obtain⟨m6,H3,I3,n3⟩:=q3;obtain⟨m',hm,w3⟩:=hN m6 H3 n3;exact⟨m',hm,m6,H3,I3,w3⟩
  |brk=>exact q3
  |ret v=>exact q3
 |false =>
  rw[au de];exact xf ⟨wu,H2,I2,q2⟩
structure It where
 go:Nat->Hp->Prop
 oB:Nat->Hp->V->Hp->Prop
 stop:Nat->Hp->Prop
def gg (X:Cx) (pins:List (Addr×Obj)) (H:Hp) (b:Addr):Prop:=
 H b=none/\b≠X.env.locals/\b ∉ X.fs/\(b∈X.ex\/X.cM.heap.objs.size<=b)/\(∀x c,X.env.cells.lookup x=some c->c≠b) /\ ∀p∈X.pn++pins,p.1≠b
theorem Inv.jD (I:Inv X pins σ H s) (hb:s.heap.objs.size<=b) (hn:H' b=none):gg X pins H' b:=by
 refine⟨hn,se (gV I.lt hb),I.abu hb,.inr (dG I.sz hb),fun x c e z=>?_,fun p hp z=>?_⟩
 ·obtain⟨v,q⟩:=I.cell x c e
  exact absurd (gV q.lt (by rw[z];exact hb)) (r9 _)
 ·exact absurd (gV (aV (I.pin p hp).1) (by rw[z];exact hb)) (r9 _)
structure Turn (P:Program) (w:World) (K:PySem.W.Frag) (tg:Expr) (J:It) (fp:List Addr) (it:Addr) (tn:Nat->Heap->Prop):Prop where
 mem:it∈fp
 obj:∀i h,tn i h -> ∀b∈fp,∃o,h.get? b=some o /\ ∀v,o.data ≠ .cell v
 keep:∀i h h',tn i h->(∀b∈fp,∀o,h.get? b=some o->h'.get? b=some o)->tn i h'
 item:∀ (X:Cx),X.prog=P->X.w=w->X.K=K->X.calm=true -> ∀ (i:Nat) (pins:List (Addr×Obj)) (s:Shared) (σ:St) (H:Hp) (E:Value->Shared->Prop),Inv X pins σ H s->(∀b∈fp,gg X pins H b)->tn i s.heap->J.go i H ->
  wpAny (model P w) X.A (pyNext (.ref it)) (fun r s1=>∃u,r=some u /\
   wpAny (model P w) X.A (letOwnedTupleGo tg (.ref it) u) (fun _ s2=>∃x H',Inv X pins σ H' s2/\RelV x u/\J.oB i H x H'/\tn (i+1) s2.heap /\ ∀b∈fp,H' b=none) E s1) E s
 done:∀ (X:Cx),X.prog=P->X.w=w->X.K=K->X.calm=true -> ∀ (i:Nat) (pins:List (Addr×Obj)) (s:Shared) (σ:St) (H:Hp) (E:Value->Shared->Prop),Inv X pins σ H s->(∀b∈fp,gg X pins H b)->tn i s.heap->J.stop i H ->
  wpAny (model P w) X.A (pyNext (.ref it)) (fun r s1=>r=none/\Inv X pins σ H s1) E s
 self:∀ (A:Around) (i:Nat) (s:Shared) (Q:Value->Shared->Prop) (E:Value->Shared->Prop),tn i s.heap->Q (.ref it) s->wpAny (model P w) A (pyIter (.ref it)) Q E s
abbrev TI:=St->Hp->(It->Hp->Prop)->Prop
noncomputable def Hz (X:Cx) (pins:List (Addr×Obj)) (σ:St) (tg:Expr) (R:It->Hp->Prop) (tQ:Value) (s2:Shared):Prop:=
 ∃ (it:Addr) (fp:List Addr) (tn:Nat->Heap->Prop) (J:It) (H':Hp),tQ = .ref it/\Inv X pins σ H' s2/\Turn X.prog X.w X.K tg J fp it tn/\tn 0 s2.heap/\(∀b∈fp,gg X pins H' b)/\R J H'
noncomputable def PI (X:Cx) (tg iter:Expr) (wi:TI):Prop:=
 ∀ (pins:List (Addr×Obj)) (s:Shared) (σ:St) (H:Hp) (R:It->Hp->Prop),Inv X pins σ H s->wi σ H R ->
  wpAny (model X.prog X.w) X.A (eval iter X.env) (fun v s1=>wpAny (model X.prog X.w) X.A (pyIter v) (Hz X pins σ tg R) X.xe s1) X.xe s
theorem yc {M:Model}{E:Value->Shared->Prop}{n:String}{vs:Array Value}{Q:Unit->Shared->Prop} (ho:s.heap.get? it=some o) (hc:o.cls = .type n) (hd:o.data = .fields vs)
  (hn : ["enumerate","zip","dict_itemiterator","dict_reverseitemiterator","odict_iterator","itertools.zip_longest","itertools.pairwise"].contains n=false) (hQ:Q () s):wpAny M A (letOwnedTupleGo tg (.ref it) u) Q E s:=by
 unfold letOwnedTupleGo;cases tg <;> first
  |exact ak hQ
  |(cases u <;> first
    |exact ak hQ
    |(refine ae (Ae ho ?_);rw[hc,hd];show wpAny M A (if (["enumerate","zip","dict_itemiterator","dict_reverseitemiterator","odict_iterator","itertools.zip_longest","itertools.pairwise"].contains n && vs[0]? == some (rawInt _))=true then _ else _) Q E s;rw[au (by intro h;rw[hn,Bool.false_and]at h;cases h)];exact ak hQ))
def rE (K:PySem.W.Frag) (a:Addr):It:=
 ⟨fun i H=>∃xs x,aj K H a xs/\xs[i]? = some x,fun i H x H'=>H'=H /\ ∀xs,aj K H a xs->xs[i]? = some x,fun i H=>∃xs,aj K H a xs/\xs.length<=i⟩
def rF (K:PySem.W.Frag) (a:Addr):It:=
 ⟨fun i H=>∃xs x,aC K H a xs/\xs[i]? = some x,fun i H x H'=>H'=H /\ ∀xs,aC K H a xs->xs[i]? = some x,fun i H=>∃xs,aC K H a xs/\xs.length<=i⟩
def tR (lo:Int) (n:Nat):It:=⟨fun i _=>i < n,fun i H x H'=>H'=H/\x = .int (lo+i),fun i _=>n<=i⟩
theorem Wq (a it:Addr):Turn P w K tg (rE K a) [it] it (fun i h=>h.IsListIter it a i) where
 mem:=by simp
 obj:=fun i h st b hb=>by
  have e:b=it:=by simpa using hb
  subst e;obtain⟨o,e,c,d⟩:=st;exact⟨o,e,fun v z=>by rw[d]at z;cases z⟩
 keep:=fun i h h' st k=>st.at fun o e=>k it (by simp) o e
 item:=by
  intro X hP hw hK hc i pins s σ H E I hf st hg;subst hP hw hK;obtain⟨xs,x,hq,hx⟩:=hg;obtain⟨its,rv,p,hz⟩:=I.list hq;obtain⟨u,hu,ru⟩:=rv.get hx;obtain⟨f0,f1,f2,f3,f4,f5⟩:=hf it (by simp)
  refine wpAny_pyNext_list_item st p.isList (x:=u) (by simpa using hu) fun h' gC sb=>?_
  have I1:Inv X pins σ H { s with heap:=h' }:=I.turned (t':=s.toks) (fun b o hb e=>(sb.2 b hb).trans e) f0 f1 f3 f4 f5;obtain⟨o,e,c,d⟩:=id gC;exact⟨u,rfl,yc (s:={ s with heap:=h' }) e c d (by decide) ⟨x,H,I1,ru,⟨rfl,fun ys hy=>by rw[I.AS hy hq];exact hx⟩,gC,fun b hb=>(hf b hb).1⟩⟩
 done:=by
  intro X hP hw hK hc i pins s σ H E I hf st hg;subst hP hw hK;obtain⟨xs,hq,hx⟩:=hg;obtain⟨its,rv,p,hz⟩:=I.list hq;obtain⟨f0,f1,f2,f3,f4,f5⟩:=hf it (by simp)
  have hl:=rv.length;exact wpAny_pyNext_list_end (I.ok.hd hc) st p.isList (by simp;omega) fun h' eb=>⟨rfl,I.turned (t':=s.toks) (fun b o hb e=>eb b o hb e) f0 f1 f3 f4 f5⟩
 self:=fun _ _ _ _ _ st h=>wpAny_pyIter_listiter st h
theorem VJ (a it:Addr):Turn P w K tg (rF K a) [it] it (fun i h=>h.IsTupleIter it a i) where
 mem:=by simp
 obj:=fun i h st b hb=>by
  have e:b=it:=by simpa using hb
  subst e;obtain⟨o,e,c,d⟩:=st;exact⟨o,e,fun v z=>by rw[d]at z;cases z⟩
 keep:=fun i h h' st k=>st.at fun o e=>k it (by simp) o e
 item:=by
  intro X hP hw hK hc i pins s σ H E I hf st hg;subst hP hw hK;obtain⟨xs,x,hq,hx⟩:=hg;obtain⟨its,rv,p,hz⟩:=I.tuple hq;obtain⟨u,hu,ru⟩:=rv.get hx;obtain⟨f0,f1,f2,f3,f4,f5⟩:=hf it (by simp)
  refine wpAny_pyNext_tuple_item st (show s.heap.IsTuple a its.toArray from p) (x:=u) (by simpa using hu) fun h' gC sb=>?_
  have I1:Inv X pins σ H { s with heap:=h' }:=I.turned (t':=s.toks) (fun b o hb e=>(sb.2 b hb).trans e) f0 f1 f3 f4 f5;obtain⟨o,e,c,d⟩:=id gC;exact⟨u,rfl,yc (s:={ s with heap:=h' }) e c d (by decide) ⟨x,H,I1,ru,⟨rfl,fun ys hy=>by rw[I.D' hy hq];exact hx⟩,gC,fun b hb=>(hf b hb).1⟩⟩
 done:=by
  intro X hP hw hK hc i pins s σ H E I hf st hg;subst hP hw hK;obtain⟨xs,hq,hx⟩:=hg;obtain⟨its,rv,p,hz⟩:=I.tuple hq;obtain⟨f0,f1,f2,f3,f4,f5⟩:=hf it (by simp)
  have hl:=rv.length;exact wpAny_pyNext_tuple_end (I.ok.hd hc) st (show s.heap.IsTuple a its.toArray from p) (by simp;omega) fun h' eb=>⟨rfl,I.turned (t':=s.toks) (fun b o hb e=>eb b o hb e) f0 f1 f3 f4 f5⟩
 self:=fun _ _ _ _ _ st h=>wpAny_pyIter_tupleiter st h
theorem VL (it:Addr) (lo:Int) (n:Nat):Turn P w K tg (tR lo n) [it] it (fun i h=>IsRangeIter h it (lo+(i:Nat) * 1) ((n:Int) - (i:Nat)) 1) where
 mem:=by simp
 obj:=fun i h st b hb=>by
  have e:b=it:=by simpa using hb
  subst e;exact⟨_,st,fun v z=>by
   have z':Data.fields _=Data.cell v:=z;cases z'⟩
 keep:=fun i h h' st k=>k it (by simp) _ st
 item:=by
  intro X hP hw hK hc i pins s σ H E I hf st hg;subst hP hw hK;obtain⟨f0,f1,f2,f3,f4,f5⟩:=hf it (by simp)
  have W:=Walks.range (prog:=X.prog) (w:=X.w) (I.ok.hd hc) it lo 1 n;refine W.item i s _ _ hg st fun v h' tk hv gC kk=>?_;obtain⟨t,rfl⟩:=hv;have I1:Inv X pins σ H { s with heap:=h',toks:=tk }:=I.turned (fun b o hb e=>kk b o (by simpa using hb) e) f0 f1 f3 f4 f5
  refine⟨_,rfl,yc (s:={ s with heap:=h',toks:=tk }) (n:= "range_iterator") gC rfl rfl (by decide) ⟨.int (lo+i),H,I1,⟨t,?_⟩,⟨rfl,rfl⟩,gC,fun b hb=>(hf b hb).1⟩⟩
  rw[Int.mul_one]
 done:=by
  intro X hP hw hK hc i pins s σ H E I hf st hg;subst hP hw hK;obtain⟨f0,f1,f2,f3,f4,f5⟩:=hf it (by simp)
  exact wpAny_pyNext_range_end (I.ok.hd hc) st (by have:n<=i:=hg;omega) fun h' eb=>⟨rfl,I.turned (t':=s.toks) (fun b o hb e=>eb b o hb e) f0 f1 f3 f4 f5⟩
 self:=fun _ _ _ _ _ st h=>wpAny_pyIter_rangeiter st h
def Og (K:PySem.W.Frag) (tl:TE):TI:=fun σ H R=>tl σ H fun x H1=>∃a,x = .ref a/\(∃xs,aj K H1 a xs)/\R (rE K a) H1
def OS (K:PySem.W.Frag) (tl:TE):TI:=fun σ H R=>tl σ H fun x H1=>∃a,x = .ref a/\(∃xs,aC K H1 a xs)/\R (rF K a) H1
theorem gJ {l:Expr} (hl:PE X l tl):PI X tg l (Og X.K tl):=by
 intro pins s σ H R I h;refine aE (hl pins s σ H _ I h) fun v s1 hQ9=>?_;obtain⟨x,H1,I1,r1,q1⟩:=hQ9;obtain⟨a,e,⟨xs,hq⟩,q⟩:=q1;subst e;cases r1
 obtain⟨its,rv,p,hz⟩:=I1.list hq;refine Di p.isList ?_;refine⟨s1.heap.objs.size,[s1.heap.objs.size],_,_,H1,rfl,I1.kept (t':=s1.toks) fun b o e=>aT _ e,Wq a _,⟨_,cu _ rfl,rfl,rfl⟩,fun b hb=>?_,q⟩;have e:b=s1.heap.objs.size:=by simpa using hb
 subst e;exact I1.jD (aR _) (I1.ar.fresh (aR _))
theorem jU {l:Expr} (hl:PE X l tl):PI X tg l (OS X.K tl):=by
 intro pins s σ H R I h;refine aE (hl pins s σ H _ I h) fun v s1 hQ9=>?_;obtain⟨x,H1,I1,r1,q1⟩:=hQ9;obtain⟨a,e,⟨xs,hq⟩,q⟩:=q1;subst e;cases r1
 obtain⟨its,rv,p,hz⟩:=I1.tuple hq;refine wpAny_pyIter_tuple (show s1.heap.IsTuple a its.toArray from p) ?_;refine⟨s1.heap.objs.size,[s1.heap.objs.size],_,_,H1,rfl,I1.kept (t':=s1.toks) fun b o e=>aT _ e,VJ a _,⟨_,cu _ rfl,rfl,rfl⟩,fun b hb=>?_,q⟩;have e:b=s1.heap.objs.size:=by simpa using hb
 subst e;exact I1.jD (aR _) (I1.ar.fresh (aR _))
theorem Xi {R:It->Hp->Prop}{E:Value->Shared->Prop}{hi:Int}{t u v:Tok}{tk:Nat} (I:Inv X pins σ H s) (h1 : -(2 ^ 62)<=lo) (h2:lo < 2 ^ 62) (h3 : -(2 ^ 62)<=hi) (h4:hi < 2 ^ 62)
  (q:R (tR lo (hi - lo).toNat) H):wpAny (model X.prog X.w) X.A (pyIter (.ref s.heap.objs.size)) (Hz X pins σ tg R) E { s with heap:=s.heap.push { cls:= .type "range",data:= .fields #[.int lo t,.int hi u,.int 1 v] },toks:=tk }:=by
 refine wpAny_pyIter_range (IsRange.new ..) (small_one h1 h2 h3 h4) ?_;have I1:Inv X pins σ H { s with heap:=s.heap.push { cls:= .type "range",data:= .fields #[.int lo t,.int hi u,.int 1 v] },toks:=tk }:=I.kept fun b o e=>aT _ e;refine⟨(s.heap.push { cls:= .type "range",data:= .fields #[.int lo t,.int hi u,.int 1 v] }).objs.size,[(s.heap.push { cls:= .type "range",data:= .fields #[.int lo t,.int hi u,.int 1 v] }).objs.size],_,_,H,rfl,
  I1.kept (t':=tk) fun b o e=>aT _ e,VL _ lo (hi - lo).toNat,?_,fun b hb=>?_,q⟩
 ·have e1:lo+((0:Nat):Int) * 1=lo:=by simp
  have e2:(((hi - lo).toNat:Nat):Int) - ((0:Nat):Int)=Builtin.Range.rangeSize lo hi 1:=by rw[rangeSize_one];split <;> omega
  show IsRangeIter _ _ (lo+((0:Nat):Int) * 1) ((((hi - lo).toNat:Nat):Int) - ((0:Nat):Int)) 1;rw[e1,e2];exact cu _ rfl
 ·have e:b=(s.heap.push { cls:= .type "range",data:= .fields #[.int lo t,.int hi u,.int 1 v] }).objs.size:=by simpa using hb
  subst e;exact I1.jD (aR _) (I1.ar.fresh (aR _))
def aac (ta:TA):TI:=fun σ H R=>ta σ H fun vs H1=>∃j:Int,vs = [.int j] /\ -(2 ^ 62)<=j/\j < 2 ^ 62/\R (tR 0 j.toNat) H1
theorem pF {a:Expr}{ta:TA}{p:Pos} (hg:Gl X "range") (hm:X.mg "range" = none) (ha:PA X [a] ta) (hs:starEach [a] X.env = [(false,eval a X.env)]:=by rfl):PI X tg (.Call (.Name "range" p) [a] [] pos) (aac ta):=by
 intro pins s σ H R I h;refine Call_ (sJ I hg hm boot_range (Dj (aE (ha pos pins s σ H _ I h) fun us s1 hQ9=>?_) hs rfl));obtain⟨vs,H1,I1,r1,q1⟩:=hQ9;obtain⟨j,e,q1,q2,q⟩:=q1;subst e;cases r1 with
 |cons r rr =>
  cases rr
  obtain⟨t,rfl⟩:=r;exact call_range_1 (Xi I1 (by omega) (by omega) q1 q2 (by simpa using q))
noncomputable def OT (wi:TI) (g:TG) (tb:TS):TS:=fun D σ H=>wi σ H fun J H1=>∃W:Nat->Nat->St->Hp->Prop,(∃m,W 0 m σ H1) /\ ∀i m σ H,W i m σ H ->
 (J.stop i H/\D.nx σ H)\/(J.go i H /\ ∃N:St->Hp->Prop,(∀aG H',N aG H' -> ∃m',m' < m/\W (i+1) m' aG H') /\ ∀x H',J.oB i H x H'->g x σ H' fun gj H2=>tb { D with nx:=N,ct:=N,bk:=D.nx } gj H2)
def vb (fp:List Addr) (h:Heap):List (Addr×Obj):=fp.filterMap fun b=>(h.get? b).map fun o=>(b,o)
theorem uJ (hb:b∈fp) (e:h.get? b=some o):(b,o)∈vb fp h:=sd.mpr ⟨b,hb,by rw[e];rfl⟩
theorem Wr {p:Addr×Obj} (hp:p∈vb fp h):p.1∈fp/\h.get? p.1=some p.2:=by
 obtain⟨b,hb,e⟩:=sd.mp hp;cases q:h.get? b with
 |none=>rw[q]at e;cases e
 |some o =>
  rw[q]at e;have e':(b,o)=p:=f' e;subst e';exact⟨hb,q⟩
theorem Inv.pinned (I:Inv X pins σ H s) (hf:∀b∈fp,gg X pins H b) (ho:∀b∈fp,∃o,s.heap.get? b=some o /\ ∀v,o.data ≠ .cell v):Inv X (pins++vb fp s.heap) σ H s:=
 I.M' fun p hp=>(dH.mp hp).elim (fun z=>I.pin p (gH _ z)) fun z=>by
  obtain⟨hb,e⟩:=Wr z;obtain⟨f0,f1,f2,_⟩:=hf p.1 hb;obtain⟨o,e',d⟩:=ho p.1 hb;rw[e]at e';cases e';exact⟨e,f0,f1,f2,d⟩
theorem Inv.xx {pl:List (Addr×Obj)} (I:Inv X (pins++pl) σ H s):Inv X pins σ H s:=I.M' fun p hp=>I.pin p (gH _ (ke _ hp))
theorem jx {wi:TI}{g:TG} (hp:PassesOwn (model X.prog X.w) X.A X.env X.xe) (hc:X.calm=true) (hi:PI X tg iter wi) (hg:PG X tg g) (hb:gA X body tb)
  (hs:∀x,foldedSetIterable iter X.env x=pure x:=by intro _;rfl):PS X (.For tg iter body [] pos) (OT wi g tb):=by
 intro pins s σ H D I h;refine wpAny_For (aE (hi pins s σ H _ I h) fun v s1 h1=>aE h1 fun tQ s2 h2=>?_) hs;obtain⟨it,fp,tn,J,H2,e,I2,T,lg,f2,W,⟨m0,w0⟩,turn⟩:=h2;subst e;have mU:∀ {H':Hp},(∀b∈fp,H' b=none) -> ∀b∈fp,gg X pins H' b:=fun hn b hb=>⟨hn b hb,(f2 b hb).2⟩;refine codeAny_forLoop_any (fun n s'=>∃i aG H',Inv X pins aG H' s'/\tn i s'.heap/\(∀b∈fp,H' b=none)/\W i n aG H') ?_ m0 ⟨0,σ,H2,I2,lg,fun b hb=>(f2 b hb).1,w0⟩;rintro n s3 ⟨i,m6,H3,I3,rG,Qj,w3⟩;rcases turn i n m6 H3 w3 with⟨stop,qn⟩|⟨go,N,hN,step⟩
 ·refine xg hp (aE (T.done X rfl rfl rfl hc i pins s3 m6 H3 X.xe I3 (mU Qj) rG stop) fun r s4 ⟨hr,I4⟩=>?_)
  subst hr;exact xf ⟨m6,H3,I4,qn⟩
 ·refine xg hp (aE (T.item X rfl rfl rfl hc i pins s3 m6 H3 X.xe I3 (mU Qj) rG go) fun r s4 ⟨u,hr,h4⟩=>?_)
  subst hr;refine xg hp (aE h4 fun _ s5 hQ9=>?_);obtain⟨x,H5,I5,r5,y5,qf,tT⟩:=hQ9;have I5':=I5.pinned (mU tT) (T.obj _ _ qf);refine xg hp (aE (hg _ s5 m6 H5 x u _ I5' r5 (step x H5 y5)) fun _ s6 ⟨σ6,H6,I6,q6⟩=>?_);refine xg hp (aE (hb _ s6 σ6 H6 _ I6 q6) fun f s7 q7=>?_);have again:∀ {jH:St}{H7:Hp},Inv X (pins++vb fp s5.heap) jH H7 s7->N jH H7 -> ∃m,m < n /\ ∃i aG H',Inv X pins aG H' s7/\tn i s7.heap/\(∀b∈fp,H' b=none)/\W i m aG H':=fun {jH H7} I7 n7=>by
   obtain⟨m',hm,w7⟩:=hN jH H7 n7;refine⟨m',hm,i+1,jH,H7,I7.xx,T.keep _ _ _ qf fun b hb o e=>(I7.pin (b,o) (gH _ (gH _ (uJ hb e)))).1,fun b hb=>?_,w7⟩;obtain⟨o,e,d⟩:=T.obj _ _ qf b hb;exact(I7.pin (b,o) (gH _ (gH _ (uJ hb e)))).2.1
  cases f with
  |next=>obtain⟨jH,H7,I7,n7⟩:=q7;exact again I7 n7
  |cont=>obtain⟨jH,H7,I7,n7⟩:=q7;exact again I7 n7
  |brk=>obtain⟨jH,H7,I7,q7⟩:=q7;exact⟨jH,H7,I7.xx,q7⟩
  |ret v=>obtain⟨x7,jH,H7,I7,r7,q7⟩:=q7;exact⟨x7,jH,H7,I7.xx,r7,q7⟩
theorem xy {xs:List V}{g:TG} (Pv:Nat->St->Hp->Prop) (h0:Pv 0 σ H) (hl:∀i σ H,i<=xs.length->Pv i σ H->aj K H a xs)
  (hs:∀i x σ H,xs[i]? = some x->Pv i σ H->g x σ H fun gj H2=>tb { D with nx:=Pv (i+1),ct:=Pv (i+1),bk:=D.nx } gj H2) (hd:∀σ H,Pv xs.length σ H->D.nx σ H) :
  ∃W:Nat->Nat->St->Hp->Prop,(∃m,W 0 m σ H) /\ ∀i m σ H,W i m σ H ->
   ((rE K a).stop i H/\D.nx σ H)\/((rE K a).go i H /\ ∃N:St->Hp->Prop,(∀aG H',N aG H' -> ∃m',m' < m/\W (i+1) m' aG H') /\ ∀x H',(rE K a).oB i H x H'->g x σ H' fun gj H2=>tb { D with nx:=N,ct:=N,bk:=D.nx } gj H2):=by
 refine⟨fun i m σ H=>m=xs.length - i/\i<=xs.length/\Pv i σ H,⟨xs.length,by simp,bG _,h0⟩,?_⟩
 rintro i m σ H ⟨rfl,hi,p⟩;have q:=hl i σ H hi p
 by_cases aS:i < xs.length
 ·refine .inr ⟨⟨xs,xs[i],q,by simp[aS]⟩,Pv (i+1),fun aG H' p'=>⟨xs.length - (i+1),by omega,rfl,aS,p'⟩,fun x H' y=>?_⟩
  obtain⟨e,y⟩:=y;subst e;exact hs i x σ _ (y xs q) p
 ·have e:i=xs.length:=by omega
  subst e;exact .inl ⟨⟨xs,q,aR _⟩,hd σ H p⟩
theorem Ye {xs:List V}{g:TG} (Pv:Nat->St->Hp->Prop) (h0:Pv 0 σ H) (hl:∀i σ H,i<=xs.length->Pv i σ H->aC K H a xs)
  (hs:∀i x σ H,xs[i]? = some x->Pv i σ H->g x σ H fun gj H2=>tb { D with nx:=Pv (i+1),ct:=Pv (i+1),bk:=D.nx } gj H2) (hd:∀σ H,Pv xs.length σ H->D.nx σ H) :
  ∃W:Nat->Nat->St->Hp->Prop,(∃m,W 0 m σ H) /\ ∀i m σ H,W i m σ H ->
   ((rF K a).stop i H/\D.nx σ H)\/((rF K a).go i H /\ ∃N:St->Hp->Prop,(∀aG H',N aG H' -> ∃m',m' < m/\W (i+1) m' aG H') /\ ∀x H',(rF K a).oB i H x H'->g x σ H' fun gj H2=>tb { D with nx:=N,ct:=N,bk:=D.nx } gj H2):=by
 refine⟨fun i m σ H=>m=xs.length - i/\i<=xs.length/\Pv i σ H,⟨xs.length,by simp,bG _,h0⟩,?_⟩
 rintro i m σ H ⟨rfl,hi,p⟩;have q:=hl i σ H hi p
 by_cases aS:i < xs.length
 ·refine .inr ⟨⟨xs,xs[i],q,by simp[aS]⟩,Pv (i+1),fun aG H' p'=>⟨xs.length - (i+1),by omega,rfl,aS,p'⟩,fun x H' y=>?_⟩
  obtain⟨e,y⟩:=y;subst e;exact hs i x σ _ (y xs q) p
 ·have e:i=xs.length:=by omega
  subst e;exact .inl ⟨⟨xs,q,aR _⟩,hd σ H p⟩
theorem uK {g:TG} (Pv:Nat->St->Hp->Prop) (h0:Pv 0 σ H)
  (hs:∀i σ H,i < n->Pv i σ H->g (.int (lo+i)) σ H fun gj H2=>tb { D with nx:=Pv (i+1),ct:=Pv (i+1),bk:=D.nx } gj H2) (hd:∀σ H,Pv n σ H->D.nx σ H) :
  ∃W:Nat->Nat->St->Hp->Prop,(∃m,W 0 m σ H) /\ ∀i m σ H,W i m σ H ->
   ((tR lo n).stop i H/\D.nx σ H)\/((tR lo n).go i H /\ ∃N:St->Hp->Prop,(∀aG H',N aG H' -> ∃m',m' < m/\W (i+1) m' aG H') /\ ∀x H',(tR lo n).oB i H x H'->g x σ H' fun gj H2=>tb { D with nx:=N,ct:=N,bk:=D.nx } gj H2):=by
 refine⟨fun i m σ H=>m=n - i/\i<=n/\Pv i σ H,⟨n,by simp,bG _,h0⟩,?_⟩
 rintro i m σ H ⟨rfl,hi,p⟩
 by_cases aS:i < n
 ·refine .inr ⟨aS,Pv (i+1),fun aG H' p'=>⟨n - (i+1),by omega,rfl,aS,p'⟩,fun x H' y=>?_⟩
  obtain⟨e,y⟩:=y;subst e y;exact hs i σ _ aS p
 ·have e:i=n:=by omega
  subst e;exact .inl ⟨aR _,hd σ H p⟩
abbrev R2:=V->V->Hp->VK->Prop
noncomputable def cN (X:Cx) (f:Value->Value->Sem Value) (r:R2):Prop:=
 ∀ (pins:List (Addr×Obj)) (s:Shared) (σ:St) (H:Hp) (x y:V) (v u:Value) (Q:VK),Inv X pins σ H s->RelV x v->RelV y u->r x y H Q ->
  wpAny (model X.prog X.w) X.A (f v u) (EP X pins σ Q) X.xe s
noncomputable def HA (X:Cx) (f:Value->Sem Value) (r:V->Hp->VK->Prop):Prop:=
 ∀ (pins:List (Addr×Obj)) (s:Shared) (σ:St) (H:Hp) (x:V) (v:Value) (Q:VK),Inv X pins σ H s->RelV x v->r x H Q ->
  wpAny (model X.prog X.w) X.A (f v) (EP X pins σ Q) X.xe s
noncomputable def d5 (X:Cx) (f:Value) (r:List V->Hp->VK->Prop):Prop:=
 ∀ (pins:List (Addr×Obj)) (s:Shared) (σ:St) (H:Hp) (xs:List V) (us:List Value) (Q:VK),Inv X pins σ H s->Vals xs us->r xs H Q ->
  wpAny (model X.prog X.w) X.A (call f us) (EP X pins σ Q) X.xe s
noncomputable def abF (X:Cx) (r:V->Hp->(Bool->Hp->Prop)->Prop):Prop:=
 ∀ (pins:List (Addr×Obj)) (s:Shared) (σ:St) (H:Hp) (x:V) (v:Value) (Q:Bool->Hp->Prop),Inv X pins σ H s->RelV x v->r x H Q ->
  wpAny (model X.prog X.w) X.A (truthy v) (TP X pins σ Q) X.xe s
def BS (r:R2) (ta tb:TE):TE:=fun σ H Q=>ta σ H fun x H1=>tb σ H1 fun y H2=>r x y H2 Q
def tUn (r:V->Hp->VK->Prop) (ta:TE):TE:=fun σ H Q=>ta σ H fun x H1=>r x H1 Q
def rI (C:Int->Int->Prop) (g:Int->Int->V):R2:=fun x y H Q=>∃i j,x = .int i/\y = .int j/\C i j/\Q (g i j) H
def rH (g:Int->Int->V):R2:=fun x y H Q=>∃i j,x = .int i/\y = .int j/\Q (g i j) H
def rU (g:Int->V):V->Hp->VK->Prop:=fun x H Q=>∃i,x = .int i/\Q (g i) H
section
variable{a b c:Expr}{tb tc:TE}
theorem Gg (ha:PE X a ta) (hb:PE X b tb) {R:V->V->Hp->Prop} (I:Inv X pins σ H s)
  (h:ta σ H fun x H1=>tb σ H1 fun y H2=>R x y H2) {Q:Value->Shared->Prop}{f:Value->Value->Sem Value}
  (hf:∀v u s2 x y H2,Inv X pins σ H2 s2->RelV x v->RelV y u->R x y H2->wpAny (model X.prog X.w) X.A (f v u) Q X.xe s2) :
  wpAny (model X.prog X.w) X.A (eval a X.env) (fun v br=>wpAny (model X.prog X.w) X.A (eval b X.env) (fun u mJ=>wpAny (model X.prog X.w) X.A (f v u) Q X.xe mJ) X.xe br) X.xe s:=by
 refine aE (ha pins s σ H _ I h) fun v s1 hQ9=>?_;obtain⟨x,H1,I1,r1,q1⟩:=hQ9;refine aE (hb pins s1 σ H1 _ I1 q1) fun u s2 hQ9=>?_;obtain⟨y,H2,I2,r2,q2⟩:=hQ9;exact hf v u s2 x y H2 I2 r1 r2 q2
theorem c8 {op:Operator}{r:R2} (ho:cN X (binaryOp op) r) (ha:PE X a ta) (hb:PE X b tb):PE X (.BinOp a op b pos) (BS r ta tb):=by
 intro pins s σ H Q I h;exact wpAny_BinOp (Gg ha hb I h fun v u s2 x y H2 I2 rx ry q=>ho pins s2 σ H2 x y v u Q I2 rx ry q)
theorem vt {op:UnaryOp}{r:V->Hp->VK->Prop} (ho:HA X (unaryOp op) r) (ha:PE X a ta):PE X (.UnaryOp op a pos) (tUn r ta):=by
 intro pins s σ H Q I h;exact UnaryOp_ (aE (ha pins s σ H _ I h) fun v s1 ⟨x,H1,I1,r1,q1⟩=>ho pins s1 σ H1 x v Q I1 r1 q1)
theorem BU {f:Value->Value->Sem Value}{C:Int->Int->Prop}{g:Int->Int->Int}
  (rule:∀ (i j:Int) (t u:Tok) (s:Shared) (Q:Value->Shared->Prop) (E:Value->Shared->Prop),C i j->Q (.int (g i j) s.toks) { s with toks:=s.toks+1 }->wpAny (model X.prog X.w) X.A (f (.int i t) (.int j u)) Q E s) :
  cN X f (rI C fun i j=>.int (g i j)):=by
 intro pins s σ H x y v u Q I rx ry h;obtain⟨i,j,rfl,rfl,hc,q⟩:=h;obtain⟨t,rfl⟩:=rx;obtain⟨t',rfl⟩:=ry;exact rule i j t t' s _ _ hc ⟨.int (g i j),H,I.tok _,⟨_,rfl⟩,q⟩
theorem OU {f:Value->Value->Sem Value}{g:Int->Int->Int}
  (rule:∀ (i j:Int) (t u:Tok) (s:Shared) (Q:Value->Shared->Prop) (E:Value->Shared->Prop),Q (.int (g i j) s.toks) { s with toks:=s.toks+1 }->wpAny (model X.prog X.w) X.A (f (.int i t) (.int j u)) Q E s) :
  cN X f (rH fun i j=>.int (g i j)):=by
 intro pins s σ H x y v u Q I rx ry h;obtain⟨i,j,rfl,rfl,q⟩:=h;obtain⟨t,rfl⟩:=rx;obtain⟨t',rfl⟩:=ry;exact rule i j t t' s _ _ ⟨.int (g i j),H,I.tok _,⟨_,rfl⟩,q⟩
theorem BB {f:Value->Value->Sem Value}{g:Int->Int->Bool}
  (rule:∀ (i j:Int) (t u:Tok) (s:Shared) (Q:Value->Shared->Prop) (E:Value->Shared->Prop),Q (.bool (g i j)) s->wpAny (model X.prog X.w) X.A (f (.int i t) (.int j u)) Q E s) :
  cN X f (rH fun i j=>.bl (g i j)):=by
 intro pins s σ H x y v u Q I rx ry h;obtain⟨i,j,rfl,rfl,q⟩:=h;obtain⟨t,rfl⟩:=rx;obtain⟨t',rfl⟩:=ry;exact rule i j t t' s _ _ ⟨.bl (g i j),H,I,rfl,q⟩
def abG (i j:Int):Prop:=0 < j/\j < 1073741824
def abH (i j:Int):Prop:=0<=j/\j<=1000000/\i.natAbs < 2 ^ 64
def Gh (i j:Int):Prop:=(-(2 ^ 64) < i/\i < 2 ^ 64)\/(-(2 ^ 64) < j/\j < 2 ^ 64)
theorem Gh.ok {i j:Int} (h:Gh i j):IntMulOk i j:=by
 rcases h with⟨h1,h2⟩|⟨h1,h2⟩
 ·exact .of_left (intBits_le_64 h1 h2)
 ·exact .of_right (intBits_le_64 h1 h2)
theorem qW:cN X (binaryOp .Add) (rH fun i j=>.int (i+j)):=OU fun _ _ _ _ _ _ _ q=>add_int q
theorem NV:cN X (binaryOp .Sub) (rH fun i j=>.int (i - j)):=OU fun _ _ _ _ _ _ _ q=>sub_int q
theorem Fo:cN X (binaryOp .Mult) (rI Gh fun i j=>.int (i * j)):=BU fun _ _ _ _ _ _ _ hc q=>mul_int q hc.ok
theorem Na:cN X (binaryOp .FloorDiv) (rI abG fun i j=>.int (i / j)):=BU fun i j _ _ _ _ _ hc q=>by
 have h1:(0:Int) < j:=hc.1;have h2:j < 1073741824:=hc.2;exact floordiv_int (by omega) (by rw[Int.fdiv_eq_ediv_of_nonneg i (by omega)];exact q) (.inl (PyProof.noPylong_small (by omega)))
theorem xO:cN X (binaryOp .Mod) (rI (fun _ j=>0 < j) fun i j=>.int (i % j)):=BU fun i j _ _ _ _ _ hc q=>by
 have h1:(0:Int) < j:=hc;exact mod_int' (by omega) (by rw[Int.fmod_eq_emod_of_nonneg i (by omega)];exact q)
theorem Zl:cN X (binaryOp .Pow) (rI abH fun i j=>.int (i ^ j.toNat)):=BU fun _ _ _ _ _ _ _ hc q=>pow_int_small hc.1 hc.2.1 hc.2.2 q
theorem unI {f:Value->Sem Value}{g:Int->Int}
  (rule:∀ (i:Int) (t:Tok) (s:Shared) (Q:Value->Shared->Prop) (E:Value->Shared->Prop),Q (.int (g i) s.toks) { s with toks:=s.toks+1 }->wpAny (model X.prog X.w) X.A (f (.int i t)) Q E s) :
  HA X f (rU fun i=>.int (g i)):=by
 intro pins s σ H x v Q I rx h;obtain⟨i,rfl,q⟩:=h;obtain⟨t,rfl⟩:=rx;exact rule i t s _ _ ⟨.int (g i),H,I.tok _,⟨_,rfl⟩,q⟩
theorem vd:HA X (unaryOp .USub) (rU fun i=>.int (-i)):=unI fun _ _ _ _ _ q=>neg_int q
end
def OV:V->V->Bool
 |.aF,.aF=>true|.aF,.int _=>true|.int _,.aF=>true|.aF,.bl _=>true|.bl _,.aF=>true|.aF,.str _=>true|.str _,.aF=>true
 |.int _,.int _=>true|.bl _,.bl _=>true|.str _,.str _=>true|.j0 _,.j0 _=>true
 |.int _,.str _=>true|.str _,.int _=>true|.bl _,.str _=>true|.str _,.bl _=>true
 |_,_=>false
def rEq:R2:=fun x y H Q=>OV x y=true/\Q (.bl (decide (x=y))) H
def rNe:R2:=fun x y H Q=>OV x y=true/\Q (.bl (!decide (x=y))) H
theorem Nb {i j:Int}:decide (V.int i=V.int j)=(i==j):=by
 rw[xh];simp
theorem NW {i j:Bool}:decide (V.bl i=V.bl j)=(i==j):=by
 rw[xh];simp
theorem Nc {i j:Str}:decide (V.str i=V.str j)=(i==j):=by
 rw[xh];simp
theorem Nd {i j:Array UInt8}:decide (V.j0 i=V.j0 j)=(i.toList==j.toList):=by
 rw[xh];cases i
 cases j
 simp
section
variable{a b c:Expr}{tb tc:TE}
theorem c7 {k k':Bool} (I:Inv X pins σ H s) (q:Q (.bl k) H) (e:k=k'):EP X pins σ Q (.bool k') s:=by
 subst e;exact⟨.bl k,H,I,rfl,q⟩
theorem yd:cN X (compareOp .Eq) rEq:=by
 intro pins s σ H x y v u Q I rx ry h;obtain⟨hs,q⟩:=h;cases x with
 |aF =>
  cases rx
  cases y with
  |aF=>cases ry;exact PySem.EqNone.eq_none_none (c7 I q (by simp))
  |bl j=>cases ry;exact PySem.EqNone.eq_none_bool (c7 I q (by simp))
  |int j=>obtain⟨t',rfl⟩:=ry;exact PySem.EqNone.eq_none_int (c7 I q (by simp))
  |str j=>obtain⟨t',rfl⟩:=ry;exact PySem.EqNone.eq_none_str (c7 I q (by simp))
  |_=>exact absurd (show false=true from hs) de
 |bl i =>
  cases rx
  cases y with
  |aF=>cases ry;exact PySem.EqNone.eq_bool_none (c7 I q (by simp))
  |bl j=>cases ry;exact eq_bool (c7 I q NW)
  |str j=>obtain⟨t',rfl⟩:=ry;exact PySem.EqMixed.eq_bool_str (c7 I q (by simp))
  |_=>exact absurd (show false=true from hs) de
 |int i =>
  obtain⟨t,rfl⟩:=rx;cases y with
  |aF=>cases ry;exact PySem.EqNone.eq_int_none (c7 I q (by simp))
  |int j=>obtain⟨t',rfl⟩:=ry;exact eq_int (c7 I q Nb)
  |str j=>obtain⟨t',rfl⟩:=ry;exact PySem.EqMixed.eq_int_str (c7 I q (by simp))
  |_=>exact absurd (show false=true from hs) de
 |str i =>
  obtain⟨t,rfl⟩:=rx;cases y with
  |aF=>cases ry;exact PySem.EqNone.eq_str_none (c7 I q (by simp))
  |bl j=>cases ry;exact PySem.EqMixed.eq_str_bool (c7 I q (by simp))
  |int j=>obtain⟨t',rfl⟩:=ry;exact PySem.EqMixed.eq_str_int (c7 I q (by simp))
  |str j=>obtain⟨t',rfl⟩:=ry;exact eq_str (c7 I q Nc)
  |_=>exact absurd (show false=true from hs) de
 |j0 i =>
  obtain⟨t,rfl⟩:=rx;cases y with
  |j0 j=>obtain⟨t',rfl⟩:=ry;exact PySem.W.eq_bytes (c7 I q Nd)
  |_=>exact absurd (show false=true from hs) de
 |_=>cases y <;> exact absurd (show false=true from hs) de
theorem sX:cN X (compareOp .NotEq) rNe:=by
 intro pins s σ H x y v u Q I rx ry h;obtain⟨hs,q⟩:=h;cases x with
 |aF =>
  cases rx
  cases y with
  |aF=>cases ry;exact PySem.EqNone.ne_none_none (c7 I q (by simp))
  |bl j=>cases ry;exact PySem.EqNone.ne_none_bool (c7 I q (by simp))
  |int j=>obtain⟨t',rfl⟩:=ry;exact PySem.EqNone.ne_none_int (c7 I q (by simp))
  |str j=>obtain⟨t',rfl⟩:=ry;exact PySem.EqNone.ne_none_str (c7 I q (by simp))
  |_=>exact absurd (show false=true from hs) de
 |bl i =>
  cases rx
  cases y with
  |aF=>cases ry;exact PySem.EqNone.ne_bool_none (c7 I q (by simp))
  |bl j=>cases ry;exact ne_bool (c7 I q (fc not NW))
  |str j=>obtain⟨t',rfl⟩:=ry;exact PySem.EqMixed.ne_bool_str (c7 I q (by simp))
  |_=>exact absurd (show false=true from hs) de
 |int i =>
  obtain⟨t,rfl⟩:=rx;cases y with
  |aF=>cases ry;exact PySem.EqNone.ne_int_none (c7 I q (by simp))
  |int j=>obtain⟨t',rfl⟩:=ry;exact ne_int (c7 I q (fc not Nb))
  |str j=>obtain⟨t',rfl⟩:=ry;exact PySem.EqMixed.ne_int_str (c7 I q (by simp))
  |_=>exact absurd (show false=true from hs) de
 |str i =>
  obtain⟨t,rfl⟩:=rx;cases y with
  |aF=>cases ry;exact PySem.EqNone.ne_str_none (c7 I q (by simp))
  |bl j=>cases ry;exact PySem.EqMixed.ne_str_bool (c7 I q (by simp))
  |int j=>obtain⟨t',rfl⟩:=ry;exact PySem.EqMixed.ne_str_int (c7 I q (by simp))
  |str j=>obtain⟨t',rfl⟩:=ry;exact ne_str (c7 I q (fc not Nc))
  |_=>exact absurd (show false=true from hs) de
 |j0 i =>
  obtain⟨t,rfl⟩:=rx;cases y with
  |j0 j=>obtain⟨t',rfl⟩:=ry;exact PySem.W.ne_bytes (c7 I q (fc not Nd))
  |_=>exact absurd (show false=true from hs) de
 |_=>cases y <;> exact absurd (show false=true from hs) de
theorem ye:cN X (compareOp .Lt) (rH fun i j=>.bl (decide (i < j))):=BB fun _ _ _ _ _ _ _ q=>lt_int q
theorem Oh:cN X (compareOp .LtE) (rH fun i j=>.bl (decide (i<=j))):=BB fun _ _ _ _ _ _ _ q=>le_int q
theorem Oi:cN X (compareOp .Gt) (rH fun i j=>.bl (decide (j < i))):=BB fun _ _ _ _ _ _ _ q=>gt_int q
theorem aad:cN X (compareOp .GtE) (rH fun i j=>.bl (decide (j<=i))):=BB fun _ _ _ _ _ _ _ q=>ge_int q
theorem xP:cN X (compareOp .Is) (fun x y H Q=>y = .aF/\Q (.bl (decide (x = .aF))) H):=by
 intro pins s σ H x y v u Q I rx ry h;obtain⟨rfl,q⟩:=h;cases ry
 refine is_none_gen (c7 I q ?_);cases x <;> first
  |(cases rx;rfl)
  |(obtain⟨t,rfl⟩:=rx;rfl)
theorem Yf:cN X (compareOp .IsNot) (fun x y H Q=>y = .aF/\Q (.bl (!decide (x = .aF))) H):=by
 intro pins s σ H x y v u Q I rx ry h;obtain⟨rfl,q⟩:=h;cases ry
 refine isnot_none_gen (c7 I q ?_);cases x <;> first
  |(cases rx;rfl)
  |(obtain⟨t,rfl⟩:=rx;rfl)
theorem cI (b:Expr) {op:CmpOp} (h:op ≠ .In:=by decide) (h2:op ≠ .NotIn:=by decide):behindInMarks op b=false:=by
 have e1:(op==CmpOp.In)=false:=by cases op <;> first|rfl|exact absurd rfl h
 have e2:(op==CmpOp.NotIn)=false:=by cases op <;> first|rfl|exact absurd rfl h2
 cases b <;> simp[behindInMarks,e1,e2]
theorem lP {op:CmpOp}{r:R2} (ho:cN X (compareOp op) r) (ha:PE X a ta) (hb:PE X b tb) (hm:behindInMarks op b=false):PE X (.Compare a [op] [b] pos) (BS r ta tb):=by
 intro pins s σ H Q I h;exact wpAny_Compare1 (Gg ha hb I h fun v u s2 x y H2 I2 rx ry q=>ho pins s2 σ H2 x y v u Q I2 rx ry q) hm
def Oj (t:TE):TT:=fun σ H Q=>t σ H fun x H'=>∃k,x = .bl k/\Q k H'
theorem cy {op:CmpOp}{r:R2} (ho:cN X (compareOp op) r) (ha:PE X a ta) (hb:PE X b tb) (hm:behindInMarks op b=false):PT X (.Compare a [op] [b] pos) (Oj (BS r ta tb)):=by
 intro pins s σ H Q I h;refine wpAny_isTrue_Compare1 (aE (ha pins s σ H _ I h) fun v s1 ⟨x,H1,I1,r1,q1⟩=>aE (hb pins s1 σ H1 _ I1 q1) fun u s2 ⟨y,H2,I2,r2,q2⟩ =>
  aE (ho pins s2 σ H2 x y v u _ I2 r1 r2 q2) fun c s3 ⟨z,H3,I3,r3,k,e,q3⟩=>?_) hm
 subst e;cases r3
 exact nM ⟨H3,I3,q3⟩
def NX (r r':R2) (ta tb tc:TE):TE:=fun σ H Q=>ta σ H fun x H1=>tb σ H1 fun y H2=>r x y H2 fun z H3=>∃k,z = .bl k /\
 (if k=true then tc σ H3 fun w' H4=>r' y w' H4 Q else Q (.bl false) H3)
theorem Xj {op tU:CmpOp}{r r':R2} (ho:cN X (compareOp op) r) (iq:cN X (compareOp tU) r') (ha:PE X a ta) (hb:PE X b tb) (hc:PE X c tc)
  (hm:lastMarks [op,tU] [b,c]=false:=by with_unfolding_all rfl):PE X (.Compare a [op,tU] [b,c] pos) (NX r r' ta tb tc):=by
 intro pins s σ H Q I h;refine Compare_chain (aE (ha pins s σ H _ I h) fun v s1 ⟨x,H1,I1,r1,q1⟩=>chain_link (aE (hb pins s1 σ H1 _ I1 q1) fun u s2 ⟨y,H2,I2,r2,q2⟩ =>
  aE (ho pins s2 σ H2 x y v u _ I2 r1 r2 q2) fun d s3 ⟨z,H3,I3,r3,k,e,q3⟩=>?_)) hm
 subst e;cases r3
 refine nM ?_;cases k with
 |false=>exact ite_ff ⟨.bl false,H3,I3,rfl,q3⟩
 |true=>exact ite_tt (chain_last (aE (hc pins s3 σ H3 _ I3 q3) fun w' s4 ⟨z',H4,I4,r4,q4⟩=>iq pins s4 σ H4 y z' u w' Q I4 r2 r4 q4))
theorem Xk {op tU:CmpOp}{r r':R2} (ho:cN X (compareOp op) r) (iq:cN X (compareOp tU) r') (ha:PE X a ta) (hb:PE X b tb) (hc:PE X c tc)
  (hm:lastMarks [op,tU] [b,c]=false:=by with_unfolding_all rfl):PT X (.Compare a [op,tU] [b,c] pos) (Oj (NX r r' ta tb tc)):=by
 intro pins s σ H Q I h;refine isTrue_chain (aE (ha pins s σ H _ I h) fun v s1 ⟨x,H1,I1,r1,q1⟩=>test_link (aE (hb pins s1 σ H1 _ I1 q1) fun u s2 ⟨y,H2,I2,r2,q2⟩ =>
  aE (ho pins s2 σ H2 x y v u _ I2 r1 r2 q2) fun d s3 ⟨z,H3,I3,r3,k,e,q3⟩=>?_)) hm
 subst e;cases r3
 refine nM ?_;cases k with
 |false =>
  obtain⟨k',e',q'⟩:=q3;cases e'
  exact ite_ff ⟨H3,I3,q'⟩
 |true =>
  refine ite_tt (test_last (aE (hc pins s3 σ H3 _ I3 q3) fun w' s4 ⟨z',H4,I4,r4,q4⟩=>aE (iq pins s4 σ H4 y z' u w' _ I4 r2 r4 q4) fun d' s5 hQ9=>?_));obtain⟨z2,H5,I5,r5,k2,e2,q5⟩:=hQ9;subst e2;cases r5
  exact nM ⟨H5,I5,q5⟩
noncomputable def Gi (K:PySem.W.Frag) (x:V) (H:Hp) (k:Bool):Prop:=
 match x with
 |.aF=>k=false
 |.bl b=>k=b
 |.int i=>k=(i != 0)
 |.str y=>y.length<=sizeLine/\k=((y.length:Int) != 0)
 |.j0 y=>y.size<=sizeLine/\k=((y.size:Int) != 0)
 |.ref p=>(∃xs,aj K H p xs/\k = !xs.isEmpty)\/(∃xs,aC K H p xs/\k = !xs.isEmpty) \/ ∃kvs,H p=some (.dK kvs)/\k = !kvs.isEmpty
 |_=>False
theorem VM {κ:Type}{kvs:List (κ×V)}{vs:List (κ×Value)} (r:KV kvs vs):(!vs.isEmpty) = !kvs.isEmpty:=by
 cases r <;> rfl
theorem DT {xs:List V} (r:Vals xs its):(!its.toArray.isEmpty) = !xs.isEmpty:=by
 cases r <;> simp
theorem sM:(sizeLine:Nat) < 2 ^ 63:=by rw[aN];decide
theorem Zm:abF X (fun x H Q=>∃k,Gi X.K x H k/\Q k H):=by
 intro pins s σ H x v Q I rx h;obtain⟨k,e,q⟩:=h;have hl:=sM;have hs:sizeLine=16777216:=aN;cases x with
 |aF =>
  cases rx
  have e':k=false:=e;subst e';exact truthy_none ⟨H,I,q⟩
 |bl b =>
  cases rx
  have e':k=b:=e;subst e';exact nM ⟨H,I,q⟩
 |int i =>
  obtain⟨t,rfl⟩:=rx;have e':k=(i != 0):=e;subst e';exact PySem.P.truthy_int ⟨H,I,q⟩
 |str y =>
  obtain⟨t,rfl⟩:=rx;obtain⟨hy,e'⟩:y.length<=sizeLine/\k=((y.length:Int) != 0):=e;subst e';exact PySem.P.truthy_str (by omega) ⟨H,I.tok _,q⟩
 |j0 y =>
  obtain⟨t,rfl⟩:=rx;obtain⟨hy,e'⟩:y.size<=sizeLine/\k=((y.size:Int) != 0):=e;subst e';exact PySem.W.truthy_bytes (by omega) ⟨H,I.tok _,q⟩
 |ref p =>
  cases rx
  have e':(∃xs,aj X.K H p xs/\k = !xs.isEmpty)\/(∃xs,aC X.K H p xs/\k = !xs.isEmpty) \/ ∃kvs,H p=some (.dK kvs)/\k = !kvs.isEmpty:=e;rcases e' with⟨xs,hx,e'⟩|⟨xs,hx,e'⟩|⟨kvs,hx,e'⟩
  ·subst e'
   obtain⟨its,r,pl,hz⟩:=I.list hx;have hlen:=r.length;exact wpAny_truthy_list pl.isList (by simp only[cS];omega) ⟨H,I.tok _,by rw[DT r];exact q⟩
  ·subst e'
   obtain⟨its,r,pl,hz⟩:=I.tuple hx;have hlen:=r.length;exact truthy_tuple pl (by simp only[cS];omega) ⟨H,I.tok _,by rw[DT r];exact q⟩
  ·subst e'
   obtain⟨hz,hS,vs,r,m⟩:kvs.length<=sizeLine/\(p==sysModules)=false /\ ∃vs,KV kvs vs/\s.heap.DictOf (cL X.prog X.w) p vs:=I.ar p _ hx;have hlen:kvs.length=vs.length:=mj r;exact wpAny_truthy_dict hS m (by omega) ⟨H,I.tok _,by rw[VM r];exact q⟩
 |_=>exact(show False from e).elim
theorem uT (ha:PE X a ta) (he:∀whole,isTrue a X.env whole=(do let v <- whole;standAt a.pos;holding [v] (truthy v))) :
  PT X a (fun σ H Q=>ta σ H fun x H'=>∃k,Gi X.K x H' k/\Q k H'):=by
 intro pins s σ H Q I h;exact isTrue_plain (aE (ha pins s σ H _ I h) fun v s1 ⟨x,H1,I1,r1,q1⟩=>Zm pins s1 σ H1 x v Q I1 r1 q1) (he _)
theorem Lv:cN X (binaryOp .Add) (fun x y H Q=>∃i j,x = .str i/\y = .str j/\i.length+j.length<=sizeLine/\Q (.str (i++j)) H):=by
 intro pins s σ H x y v u Q I rx ry h;obtain⟨i,j,rfl,rfl,hz,q⟩:=h;obtain⟨t,rfl⟩:=rx;obtain⟨t',rfl⟩:=ry;exact add_str (fun t' tk=>⟨.str (i++j),H,I.tok _,⟨_,rfl⟩,q⟩) hz
theorem vals1 {x:V} (r:Vals [x] us):∃u,us = [u]/\RelV x u:=by
 cases r with
 |cons r1 r2=>cases r2;exact⟨_,rfl,r1⟩
theorem vals2 {x:V} (r:Vals [x,y] us):∃u w',us = [u,w']/\RelV x u/\RelV y w':=by
 cases r with
 |cons r1 r2 =>
  cases r2 with
  |cons r3 r4=>cases r4;exact⟨_,_,rfl,r1,r3⟩
theorem MA:d5 X (.builtin "abs") (fun xs H Q=>∃i,xs = [.int i]/\Q (.int (if i < 0 then -i else i)) H):=by
 intro pins s σ H xs us Q I r h;obtain⟨i,rfl,q⟩:=h;obtain⟨u,rfl,t,rfl⟩:=vals1 r;exact call_abs_int fun u tk=>⟨.int (if i < 0 then -i else i),H,I.tok _,⟨_,rfl⟩,q⟩
theorem LW (hc:X.calm=true):d5 X (.builtin "max") (fun xs H Q=>∃i j,xs = [.int i,.int j]/\Q (.int (if j > i then j else i)) H):=by
 intro pins s σ H xs us Q I r h;obtain⟨i,j,rfl,q⟩:=h;obtain⟨u,w',rfl,⟨t,rfl⟩,⟨t',rfl⟩⟩:=vals2 r;refine max_two_ints (I.ok.hd hc) fun h' tk k=>⟨_,H,I.kept k,?_,q⟩
 by_cases hj:j > i
 ·rw[aB hj,aB hj];exact⟨_,rfl⟩
 ·rw[au hj,au hj];exact⟨_,rfl⟩
theorem Ea (hc:X.calm=true):d5 X (.builtin "min") (fun xs H Q=>∃i j,xs = [.int i,.int j]/\Q (.int (if j < i then j else i)) H):=by
 intro pins s σ H xs us Q I r h;obtain⟨i,j,rfl,q⟩:=h;obtain⟨u,w',rfl,⟨t,rfl⟩,⟨t',rfl⟩⟩:=vals2 r;refine min_two_ints (I.ok.hd hc) fun h' tk k=>⟨_,H,I.kept k,?_,q⟩
 by_cases hj:j < i
 ·rw[aB hj,aB hj];exact⟨_,rfl⟩
 ·rw[au hj,au hj];exact⟨_,rfl⟩
end
structure Gj (h:Heap) (x dx C:Addr) (mA:Str->Option Value):Prop where
 obj:h.get? x=some (PySem.W.instObj C dx)
 ns:h.Ns1 dx mA
 ne:dx≠x
theorem uL {dx:Addr} (n:h.Ns1 dx mA):∃od,h.get? dx=some od /\ ∀name,PySem.W.lookIn name od=some (mA name):=by
 obtain⟨o,es,ep,ho,hd,hk,_,hm⟩:=n;refine⟨o,ho,fun name=>?_⟩;have e:=hm name;unfold nsFind findBy at e;rw[<-Array.find?_toList]at e;unfold PySem.W.lookIn;rw[hd]
 dsimp only
 split
 ·rename_i y q
  rw[q]at e;exact fc some e
 ·rename_i q
  rw[q]at e;have a:es.toList.any (·.refKey)=false:=by
   rw[Tz];intro y hy;obtain⟨z,t,oi⟩:=hk y (Array.mem_toList_iff.mp hy);simp[DictEntry.refKey,oi]
  have a' : ¬ es.toList.any (·.refKey)=true:=by rw[a];exact de
  rw[au a'];exact fc some e
theorem Gj.look {x dx:Addr} (I:Gj h x dx C mA):∃od,PySem.W.InstAt h x (PySem.W.instObj C dx) C (some od) /\ ∀name,PySem.W.lookIn name od=some (mA name):=
 let ⟨od,ho,hl⟩:=uL I.ns
 ⟨od,⟨I.obj,rfl,rfl,ho⟩,hl⟩
def jd (f:Str) (v:V):List (Str×V)->List (Str×V)
 |[]=>[(f,v)]
 |(g,x)::r=>if g=f then (g,v)::r else (g,x)::jd f v r
theorem Ll (f g:Str) (v:V):∀fs:List (Str×V),(jd f v fs).lookup g=if g=f then some v else fs.lookup g
 |[]=>by
  show List.lookup g [(f,v)]=_
  by_cases h:g=f
  ·have hb:(g==f)=true:=eW.mpr h
   simp only[List.lookup,hb,aB h]
  ·have hb:(g==f)=false:=oV.mpr h
   simp only[List.lookup,hb,au h]
 |(k,x)::r=>by
  have ih:=Ll f g v r;rw[show jd f v ((k,x)::r)=(if k=f then (k,v)::r else (k,x)::jd f v r) from rfl]
  by_cases hk:k=f
  ·rw[aB hk]
   by_cases h:g=k
   ·have hb:(g==k)=true:=eW.mpr h
    simp only[List.lookup,hb,aB (h.trans hk)]
   ·have hb:(g==k)=false:=oV.mpr h
    simp only[List.lookup,hb,au (fun e:g=f=>h (e.trans hk.symm))]
  ·rw[au hk]
   by_cases h:g=k
   ·have hb:(g==k)=true:=eW.mpr h
    simp only[List.lookup,hb,au (fun e:g=f=>hk (h.symm.trans e))]
   ·have hb:(g==k)=false:=oV.mpr h
    simp only[List.lookup,hb];exact ih
theorem Eb (f:Str) (v:V):∀fs:List (Str×V),f∈(jd f v fs).map (·.1) /\ ∀g,g∈fs.map (·.1)->g∈(jd f v fs).map (·.1)
 |[]=>⟨by simp[jd],fun g h=>by simp at h⟩
 |(k,x)::r=>by
  obtain⟨i1,i2⟩:=Eb f v r;rw[show jd f v ((k,x)::r)=(if k=f then (k,v)::r else (k,x)::jd f v r) from rfl]
  by_cases hk:k=f
  ·rw[aB hk]
   subst hk;exact⟨by simp,fun g h=>by simpa using h⟩
  ·rw[au hk]
   refine⟨?_,fun g h=>?_⟩
   ·rw[cz]
    exact cp _ i1
   ·rw[cz]at h ⊢
    rcases aY.mp h with e|e
    ·exact aY.mpr (.inl e)
    ·exact cp _ (i2 g e)
theorem Lm (f:Str) (v:V):∀fs:List (Str×V),(jd f v fs).length<=fs.length+1
 |[]=>by simp[jd]
 |(k,x)::r=>by
  have ih:=Lm f v r;rw[show jd f v ((k,x)::r)=(if k=f then (k,v)::r else (k,x)::jd f v r) from rfl]
  by_cases hk:k=f
  ·rw[aB hk,eN,eN];omega
  ·rw[au hk,eN,eN];omega
theorem iT.some_of {o:Option Value} (r:iT (some v) o):∃u,o=some u/\RelV v u:=by
 cases o with
 |none=>exact(show False from r).elim
 |some u=>exact⟨u,rfl,r⟩
theorem Ws (r:RelV v u):PySem.W.handedIn u=true:=by
 cases v with
 |aF=>cases (show u=Value.none from r);rfl
 |bl b=>cases (show u=Value.bool b from r);rfl
 |int i=>obtain⟨t,e⟩:=(show ∃t,u=Value.int i t from r);cases e;rfl
 |str x=>obtain⟨t,e⟩:=(show ∃t,u=Value.str x t from r);cases e;rfl
 |j0 b=>obtain⟨t,e⟩:=(show ∃t,u=Value.bytes b t from r);cases e;rfl
 |j3 b=>obtain⟨t,e⟩:=(show ∃t,u=Value.float b t from r);cases e;rfl
 |ref a=>cases (show u=Value.ref a from r);rfl
 |ty n=>cases (show u=Value.type n from r);rfl
section
variable{dx:Addr}{fs fs':List (Str×V)}
theorem Yg (ar:cW P w H h) (e:H a=some (.ins C dx fs)):∃mA,Gj h a dx C mA/\(∀f,iT (fs.lookup f) (mA f))/\PySem.Within mA (fs.map (·.1))/\fs.length<=1000/\H dx=some (.own a):=by
 obtain⟨d,z,ne,ob,mA,n,r,q⟩:=(show bu P w H h a (.ins C dx fs) from ar a _ e);exact⟨mA,⟨ob,n,ne⟩,r,q,z,d⟩
end
structure HB (K:PySem.W.Frag) (C:Addr):Prop where
 pg:PySem.W.plainGet K C Str.empty=true
 hd:PySem.W.hasDictIn K C=true
 po:PySem.W.plainOver K C=true
 sa:PySem.W.findIn K (.ref C) "__setattr__" = some (some (.builtin "object.__setattr__"))
theorem HB.get (c:HB K C) (f:Str):PySem.W.plainGet K C f=true:=c.pg
section
variable{dx:Addr}{fs:List (Str×V)}{f:Str}{E:Value->Shared->Prop}
theorem Yh {f:Str}{Q:Value->Shared->Prop} (hb:attributeBase e f env (eval e env)=eval e env)
  (h:wpAny (model prog w) A (eval e env) (fun o br=>wpAny (model prog w) A (getAttr o f true) Q E br) E s):wpAny (model prog w) A (eval (.Attribute e f pos) env) Q E s:=
 Attribute_any_ h (by rw[arm_eval_Attribute,hb])
end
section
variable{E:Value->Shared->Prop}{Q:Value->Shared->Prop}{c:Value}{b:Bool}
inductive kX (K:PySem.W.Frag) (H:Hp):V->Value->Prop where
 |aF:kX K H .aF (.type "NoneType")
 |bl (x:Bool):kX K H (.bl x) (.type "bool")
 |int (i:Int):kX K H (.int i) (.type "int")
 |str (x:Str):kX K H (.str x) (.type "str")
 |j3 (x:UInt64):kX K H (.j3 x) (.type "float")
 |lst {a:Addr}{xs:List V} (e:H a=some (.lst xs)):kX K H (.ref a) (.type "list")
 |cB {a:Addr}{o:Obj}{xs:List V} (e:H a=some (.cB o (.lst xs))):kX K H (.ref a) (.type "list")
 |tup {a:Addr}{xs:List V} (e:H a=some (.tup xs)):kX K H (.ref a) (.type "tuple")
 |dK {a:Addr}{kvs:List (Key×V)} (e:H a=some (.dK kvs)):kX K H (.ref a) (.type "dict")
 |dT {a:Addr}{kvs:List (List Key×V)} (e:H a=some (.dT kvs)):kX K H (.ref a) (.type "dict")
 |ins {a C dx:Addr}{fs:List (Str×V)} (e:H a=some (.ins C dx fs)) (cl:HB K C) (ha:PySem.W.findIn K (.ref C) "__class__" = some (some (.builtin "object.__class__")))
   (hn:PySem.W.specialIn K (.builtin "object.__class__") "__get__" = some (some (.builtin "getset_descriptor.__get__"))) (Qk:PySem.W.takesIn K (.builtin "object.__class__")=some true)
   (hm:PySem.W.mroIn K C (.type "object")=some true):kX K H (.ref a) (.ref C)
theorem Wt {x:V}{t:Value} (I:Inv X pins σ H s) (rx:RelV x u) (ty:kX X.K H x t) (e:PySem.W.kitOne X.K t c=some b) (h:∀tk,Q (.bool b) { s with toks:=tk }) :
  wpAny (model X.prog X.w) A (call (.builtin "isinstance") [u,c]) Q E s:=by
 cases ty with
 |aF=>cases (show u=Value.none from rx);exact oX PySem.W.kitx_none I.bx True.intro e (fun z=>nomatch z) h
 |bl y=>cases (show u=Value.bool y from rx);exact oX PySem.W.kitx_bool I.bx True.intro e (fun z=>nomatch z) h
 |int i=>obtain⟨t,q⟩:=(show ∃t,u=Value.int i t from rx);cases q;exact oX PySem.W.kitx_int I.bx True.intro e (fun z=>nomatch z) h
 |str y=>obtain⟨t,q⟩:=(show ∃t,u=Value.str y t from rx);cases q;exact oX PySem.W.kitx_str I.bx True.intro e (fun z=>nomatch z) h
 |j3 y=>obtain⟨t,q⟩:=(show ∃t,u=Value.float y t from rx);cases q;exact oX PySem.W.kitx_float I.bx True.intro e (fun z=>nomatch z) h
 |@lst a xs ea =>
  cases (show u=Value.ref a from rx)
  obtain⟨_,_,n,_,h1⟩:=(show bu X.prog X.w H s.heap a (.lst xs) from I.ar a _ ea);exact oX PySem.W.kitx_list I.bx ⟨_,h1,rfl⟩ e (fun z=>nomatch z) h
 |@cB a ob xs ea =>
  cases (show u=Value.ref a from rx)
  obtain⟨_,_,_,n,_,h1⟩:=(show bu X.prog X.w H s.heap a (.cB ob (.lst xs)) from I.ar a _ ea);exact oX PySem.W.kitx_list I.bx ⟨_,h1,rfl⟩ e (fun z=>nomatch z) h
 |@tup a xs ea =>
  cases (show u=Value.ref a from rx)
  obtain⟨_,_,_,p⟩:=(show bu X.prog X.w H s.heap a (.tup xs) from I.ar a _ ea);obtain⟨o,h1,h2,_⟩:=p;exact oX PySem.W.kitx_tuple I.bx ⟨o,h1,h2⟩ e (fun z=>nomatch z) h
 |@dK a kvs ea =>
  cases (show u=Value.ref a from rx)
  obtain⟨_,_,vs,_,p⟩:=(show bu X.prog X.w H s.heap a (.dK kvs) from I.ar a _ ea);obtain⟨o,es,ep,h1,h2,_⟩:=p;exact oX PySem.W.kitx_dict I.bx ⟨o,h1,h2.1⟩ e (fun z=>nomatch z) h
 |@dT a kvs ea =>
  cases (show u=Value.ref a from rx)
  obtain⟨_,_,xs,_,o,es,ep,h1,h2,_⟩:=(show bu X.prog X.w H s.heap a (.dT kvs) from I.ar a _ ea);exact oX PySem.W.kitx_dict I.bx ⟨o,h1,h2.1⟩ e (fun z=>nomatch z) h
 |@ins a C dx fs ea cl ha hn Qk hm =>
  cases (show u=Value.ref a from rx)
  obtain⟨mA,O,_⟩:=Yg I.ar ea;obtain⟨od,J,_⟩:=O.look;exact oX (PySem.W.kitx_own (cl.get _) cl.hd ha hn Qk hm) I.bx J e (fun z=>nomatch z) h
end
structure a7 (k:Nat) (A:Around):Prop where
 hd:A.handled=none
 dp:A.depth+3 * k+5 < recursionLimit
 un:A.units+16 * k+200 < cLine
 gd:A.guards=some []
theorem a7.mono {k:Nat} (r:a7 k A) (h:j<=k):a7 j A:=⟨r.hd,by have:=r.dp;omega,by have:=r.un;omega,r.gd⟩
theorem a7.deeper {k:Nat} (r:a7 (k+1) A) (env:Env):a7 k (A.deeper env):=
 ⟨r.hd,by have:=r.dp;show A.depth+1+3 * k+5 < _;omega,by have:=r.un;show A.units+3+16 * k+200 < _;omega,by first|exact r.gd|simp[Around.deeper,r.gd]⟩
theorem Lw:(A.under (.builtin "type.__call__" ⟨.ref C::us,kw⟩)).depth=A.depth+1:=by
 first|rfl|simp[Around.under,Code.weight,Code.isCreation,Code.isGuard,Code.isCaller,Code.frames,Code.isFrame,guardIds]
theorem Lx:(A.under (.builtin "type.__call__" ⟨.ref C::us,kw⟩)).units=A.units+1:=by
 first|rfl|simp[Around.under,Code.cUnits,Code.frames,Code.isFrame]
theorem Lo (h:A.guards=some []):(A.under (.builtin "type.__call__" ⟨.ref C::us,kw⟩)).guards=some []:=by
 first|exact h|(simp[Around.under,Code.guards,Code.isGuard,guardIds,pushGuards,h])
theorem a7.make {k:Nat} (r:a7 (k+1) A) (C:Addr) (us:List Value) (kw:List (Str×Value)):a7 k (A.under (.builtin "type.__call__" ⟨.ref C::us,kw⟩)):=
 ⟨r.hd,by have:=r.dp;rw[Lw];omega,by have:=r.un;rw[Lx];omega,Lo r.gd⟩
theorem a7.depth {k:Nat} (r:a7 k A):A.depth < recursionLimit:=by have:=r.dp;omega
theorem a7.units {k:Nat} (r:a7 k A):A.units+64 < cLine:=by have:=r.un;omega
def abI:TA:=fun _ H Q=>Q [] H
def aae (ta:TE) (tr:TA):TA:=fun σ H Q=>ta σ H fun x H1=>tr σ H1 fun xs H2=>Q (x::xs) H2
section
variable{t:TA}
theorem ai:PA X [] abI:=fun _ _ _ _ H Q I h=>Calls.spliced_nil ⟨[],H,I,.nil,h⟩
theorem af (ha:PE X e te) (hr:PA X es t) (hs:starEach (e::es) X.env=(false,eval e X.env)::starEach es X.env:=by rfl):PA X (e::es) (aae te t):=by
 intro pos pins s σ H Q I h;rw[hs];show wpAny _ _ (spliced ((false,eval e X.env)::backTo pos (starEach es X.env))) _ _ s;refine Calls.spliced_cons (aE (ha pins s σ H _ I h) fun u s1 hQ9=>?_);obtain⟨x,H1,I1,r1,q1⟩:=hQ9;exact aE (hr pos pins s1 σ H1 _ I1 q1) fun us s2 ⟨xs,H2,I2,r2,q2⟩=>⟨x::xs,H2,I2,.cons r1 r2,q2⟩
def abJ (t:TA):TE:=fun σ H Q=>t σ H fun xs H1=>xs.length<=sizeLine /\ ∀p,H1 p=none->Q (.ref p) (upd H1 p (.tup xs))
def abK (t:TA):TE:=fun σ H Q=>t σ H fun xs H1=>xs.length<=sizeLine /\ ∀p,H1 p=none->Q (.ref p) (upd H1 p (.lst xs))
theorem lQ {x1} (h:PA X es t):PE X (.Tuple es x1 pos) (abJ t):=by
 intro pins s σ H Q I hq;refine wpAny_Tuple_spliced (aE (h pos pins s σ H _ I hq) fun us s1 ⟨xs,H1,I1,r,z,q⟩=>⟨by rw[<-r.length];exact z,?_⟩)
 have hf:H1 s1.heap.objs.size=none:=I1.ar.fresh (aR _);refine⟨.ref s1.heap.objs.size,upd H1 s1.heap.objs.size (.tup xs),I1.laid (t':=s1.toks) (fun b u e=>aT _ e) (aR _) ?_,rfl,q _ hf⟩;exact⟨z,us,r,⟨_,cu _ rfl,rfl,_,rfl,rfl⟩⟩
theorem cX (h:PA X es t):PE X (.List es pos) (abK t):=by
 intro pins s σ H Q I hq;refine wpAny_List_spliced (aE (h pos pins s σ H _ I hq) fun us s1 ⟨xs,H1,I1,r,z,q⟩=>⟨by rw[<-r.length];exact z,?_⟩)
 have hf:H1 s1.heap.objs.size=none:=I1.ar.fresh (aR _);refine⟨.ref s1.heap.objs.size,upd H1 s1.heap.objs.size (.lst xs),I1.laid (t':=s1.toks) (fun b u e=>aT _ e) (aR _) ?_,rfl,q _ hf⟩;exact⟨z,us,0,r,cu _ rfl⟩
end
abbrev Sp:=List V->Hp->VK->XK->Prop
end L2
variable{sp:L2.Sp}
namespace L2
open PySem PySem.Spec PyProof.Rows
abbrev lZ:=List Env->Hp->Shared->XK->Value->Shared->Prop
structure pY (P:Program) (w:World) (K:PySem.W.Frag) (mg:Str->Option Value) (base:Heap) (A:Around) (outer:List Env) (s:Shared) (H:Hp):Prop where
 frames:A.frames=some outer
 mod:Mod K mg base
 bs:∀b o,base.get? b=some o->s.heap.get? b=some o/\H b=none
 lb:base.objs.size<=s.heap.objs.size
 gL:s.heap.FunFrames base outer
 lY:∀b∈cY outer,H b=none
 ar:cW P w H s.heap
 bare:AllBare s.gens
noncomputable def CE (outer:List Env) (P:Program) (w:World) (H:Hp) (s:Shared) (Q:VK) (u:Value) (s':Shared):Prop:=
 ∃v H',s'.os=s.os/\AllBare s'.gens/\Un (cY outer) [] H H' s.heap s'.heap/\cW P w H' s'.heap/\RelV v u/\Q v H'
noncomputable def CR (CX:lZ) (outer:List Env) (P:Program) (w:World) (H:Hp) (s:Shared) (Q:VK) (E:XK) (r:Result) (s':Shared):Prop:=
 match r with
 |.ok (.ret u)=>CE outer P w H s Q u s'
 |.ok _=>False
 |.error e=>CX outer H s E e s'
structure aI (P:Program) (w:World) (K:PySem.W.Frag) (mg:Str->Option Value) (base:Heap) (CX:lZ) (k:Nat) (f:Addr) (fd:FuncData) (ps:List Str) (sp:Sp):Prop where
 len:∀vs H Q E,sp vs H Q E->vs.length=ps.length
 run:∀ (A:Around) (outer:List Env) (s:Shared) (H:Hp) (args:Args) (us:List Value) (vs:List V) (Q:VK) (E:XK),a7 k A->pY P w K mg base A outer s H->BindsTo s fd args (ps.zip us)->Vals vs us->sp vs H Q E ->
  codeAny (model P w) A (.call (.ref f) args) (CR CX outer P w H s Q E) s
theorem pY.make (e:pY P w K mg base A outer s H) (C:Addr) (us:List Value) (kw:List (Str×Value)) :
  pY P w K mg base (A.under (.builtin "type.__call__" ⟨.ref C::us,kw⟩)) outer s H:=⟨by first|exact e.frames|(simpa [Around.under,Code.envs,Code.isFrame,pushEnvs] using e.frames),e.mod,e.bs,e.lb,e.gL,e.lY,e.ar,e.bare⟩
theorem Inv.yq (I:Inv X pins σ H s):pY X.prog X.w X.K X.mg X.base X.A X.stack s H:=
 ⟨I.ok.frames,I.ok.mod,I.bs,dG I.ok.lb I.sz,I.stack,I.Bb,I.ar,I.bare⟩
theorem Inv.after (I:Inv X pins σ H s) (h:CE X.stack X.prog X.w H s Q u s'):EP X pins σ Q u s':=by
 obtain⟨v,H',os,bare,un,ar,r,q⟩:=h;obtain⟨hh,g,d,t,yM⟩:=s';obtain rfl:yM=s.os:=os;exact⟨v,H',I.call (h':=hh) (g':=g) (d':=d) (t':=t) (ch:= []) un ar bare (fun b z=>absurd z (by simp)),r,q⟩
def Ol (sp:Sp) (rJ:List V) (E:XK) (t:TA):TE:=fun σ H Q=>t σ H fun vs H1=>sp (vs++rJ) H1 Q E
def Binds (K:PySem.W.Frag) (fd:FuncData) (ps:List Str) (ds:List Value):Prop:=
 ∀ (s:Shared) (us:List Value),K.In s.heap->(us++ds).length=ps.length->BindsTo s fd ⟨us,[]⟩ (ps.zip (us++ds))
theorem Binds.all (h:∀us:List Value,us.length=ps.length->bindArgs fd ⟨us,[]⟩=pure (ps.zip us)):Binds K fd ps []:=fun s us _ hl=>by
 rw[gr]at hl ⊢;exact .of_eq (h us hl)
def Passes (CX:lZ) (X:Cx) (E:XK):Prop:= ∀ (pins:List (Addr×Obj)) (σ:St) (H:Hp) (s:Shared) (e:Value) (s':Shared),Inv X pins σ H s->CX X.stack H s E e s'->X.xe e s'
section
variable{CX:lZ}{k:Nat}{rJ:List V}{ds:List Value}{m:Str}{p:Pos}{o:Expr}{t:TA}
theorem Zn (F:aI X.prog X.w X.K X.mg X.base CX k f fd ps sp) (hr:a7 k X.A) (hb:Binds X.K fd ps ds) (hd:Vals rJ ds) (hx:Passes CX X E)
  (I:Inv X pins σ H s) (r:Vals vs us) (h:sp (vs++rJ) H Q E):wpAny (model X.prog X.w) X.A (call (.ref f) us) (EP X pins σ Q) X.xe s:=by
 have r2:Vals (vs++rJ) (us++ds):=r.append hd;have hl:(us++ds).length=ps.length:=by rw[<-r2.length];exact F.len _ _ _ _ h
 refine qF (sf (F.run X.A X.stack s H ⟨us,[]⟩ (us++ds) (vs++rJ) Q E hr I.yq (hb s us I.bx hl) r2 h) fun r s' hq=>?_);cases r with
 |error e=>exact hx pins σ H s e s' I hq
 |ok fl =>
  cases fl with
  |ret u=>exact I.after hq
  |next=>exact False.elim hq
  |brk=>exact False.elim hq
  |cont=>exact False.elim hq
theorem bc (F:aI X.prog X.w X.K X.mg X.base CX k f fd ps sp) (hr:a7 k X.A) (hg:Gl X x) (hm:X.mg x=some (.ref f)) (hk:PySem.W.keepIn X.K (.ref f)=true) (hb:Binds X.K fd ps ds) (hd:Vals rJ ds) (hx:Passes CX X E)
  (ha:PA X (e::es) t) (jI:(x==("__debug__" : Str))=false:=by decide) (he:starEach (e::es) X.env=(false,eval e X.env)::starEach es X.env:=by rfl) (dk:(backTo pos (starEach es X.env)).any (·.1)=false:=by rfl) :
  PE X (.Call (.Name x p) (e::es) [] pos) (Ol sp rJ E t):=by
 intro pins s σ H Q I h;refine sg (nU I hg hm ?_ jI);refine PySem.W.callWith_K (h₀:=X.base) I.ok.mod.iF hk (aE (ha pos pins s σ H _ I h) fun us s1 ⟨vs,H1,I1,r,q⟩=>⟨I1.bx,?_⟩) he dk;exact Zn F hr hb hd hx I1 r q
end
structure b6 (N P:List Str) (sc:Scope):Prop where
 kind:sc.kind = .function
 co:sc.isCoroutine=false
 gen:sc.isGenerator=false
 nd:N.Nodup
 pre:N.take P.length=P
 par:∀x∈P,sc.names.lookup x=some .local\/sc.names.lookup x=some .cell
 Zo:∀y∈sc.names,y.2 ≠ .free
theorem LX {kindOf:Str->Option NameKind}{x:Str}:∀ {binds:List (Str×Value)}{m:Str->Option Value},(∀v,(x,v) ∉ binds)->bindL kindOf binds m x=m x
 |[],_,_=>rfl
 |(n,v)::r,m,h=>by
  unfold bindL;rw[LX fun w hw=>h w (cp _ hw)];split
  ·have:x≠n:=by rintro rfl;exact h v bj
   simp[this]
  ·rfl
theorem LY {kindOf:Str->Option NameKind}{x:Str}:∀ {binds:List (Str×Value)}{m:Str->Option Value},(∀v,(x,v) ∉ binds)->bindC kindOf binds m x=m x
 |[],_,_=>rfl
 |(n,v)::r,m,h=>by
  unfold bindC;rw[LY fun w hw=>h w (cp _ hw)];split
  ·rfl
  ·have:x≠n:=by rintro rfl;exact h v bj
   simp[this]
theorem LZ {kindOf:Str->Option NameKind}{x:Str}{v:Value}:∀ {P:List Str}{vs:List Value}{i:Nat}{m:Str->Option Value},P.Nodup->P[i]? = some x->vs[i]? = some v->kindOf x=some .local ->
  bindL kindOf (P.zip vs) m x=some v
 |[],_,_,_,_,h,_,_=>by simp at h
 |_::_,[],_,_,_,_,h,_=>by simp at h
 |p::P,w::vs,0,m,nd,h1,h2,hk=>by
  simp at h1 h2;subst h1;subst h2;show bindL kindOf ((p,w)::P.zip vs) m p=_;unfold bindL;rw[LX fun v hv=>(gb.mp nd).1 (Kl hv).1,aB hk];simp
 |p::P,w::vs,i+1,m,nd,h1,h2,hk=>by
  show bindL kindOf ((p,w)::P.zip vs) m x=_;unfold bindL;exact LZ (i:=i) (gb.mp nd).2 (by simpa using h1) (by simpa using h2) hk
theorem L3 {kindOf:Str->Option NameKind}{x:Str}{v:Value}:∀ {P:List Str}{vs:List Value}{i:Nat}{m:Str->Option Value},P.Nodup->P[i]? = some x->vs[i]? = some v->kindOf x≠some .local ->
  bindC kindOf (P.zip vs) m x=some v
 |[],_,_,_,_,h,_,_=>by simp at h
 |_::_,[],_,_,_,_,h,_=>by simp at h
 |p::P,w::vs,0,m,nd,h1,h2,hk=>by
  simp at h1 h2;subst h1;subst h2;show bindC kindOf ((p,w)::P.zip vs) m p=_;unfold bindC;rw[LY fun v hv=>(gb.mp nd).1 (Kl hv).1,au hk];simp
 |p::P,w::vs,i+1,m,nd,h1,h2,hk=>by
  show bindC kindOf ((p,w)::P.zip vs) m x=_;unfold bindC;exact L3 (i:=i) (gb.mp nd).2 (by simpa using h1) (by simpa using h2) hk
def start (N:List Str) (vs:List V):St:=vs.map some++List.replicate (N.length - vs.length) none
def jY (CX:lZ) (P:Program) (w:World) (K:PySem.W.Frag) (mg:Str->Option Value) (base:Heap) (N:List Str) (qual:Str) (scope:Scope) (f:Addr) (cd:Value) (A:Around) (outer:List Env) (s:Shared) (H:Hp) (E:XK):Cx where
 prog:=P
 w:=w
 K:=K
 mg:=mg
 base:=base
 A:=A.deeper (envOfC qual scope s.heap.objs.size f cd)
 N:=N
 cM:=s
 jC:=H
 env:=envOfC qual scope s.heap.objs.size f cd
 outer:=outer
 stack:=envOfC qual scope s.heap.objs.size f cd::outer
 ex:= []
 calm:=true
 fn:=fun _=>true
 pn:= []
 xe:=fun e s'=>wpAny (model P w) (A.deeper (envOfC qual scope s.heap.objs.size f cd)) (leaving (envOfC qual scope s.heap.objs.size f cd) e) (fun _ m8=>CX outer H s E e m8) (fun e' m8=>CX outer H s E e' m8) s'
theorem Ew (h:sc.names.lookup x=some .cell):∃c,(cellsFrom n sc.names []).lookup x=some c:=by
 have q:=TB sc.names n [] (.inl h);exact ajW.mp q
theorem L4 {CX:lZ}
  (S:b6 N ps scope) (hd:A.handled=none) (e0:pY P w K mg base A outer s H) (hl:vs.length=ps.length) (r:Vals vs us)
  (x:InCallC s s.heap.objs.size (bindL (envOfC qual scope s.heap.objs.size f cd).kindOf (ps.zip us) fun _=>none) (cellsFrom (s.heap.objs.size+1) scope.names []) (bindC (envOfC qual scope s.heap.objs.size f cd).kindOf (ps.zip us) fun _=>none) s1) :
  Inv (jY CX P w K mg base N qual scope f cd A outer s H E) [] (start N vs) H s1:=by
 have dk:ps.length<=N.length:=by have:=fc List.length S.pre;rw[dJ]at this;omega
 obtain⟨h1,tk,rfl,hk⟩:=x.done;have yN:∀b:Addr,b ∉ (jY CX P w K mg base N qual scope f cd A outer s H E).ex:=fun b z=>absurd (show b∈([]:List Addr) from z) (by simp)
 refine⟨⟨e0.mod,S.kind,rfl,rfl,aR _,fun y z c h1 h2=>?_,fun y hy=>?_,fun y c _ h=>?_,fun _=>hd,Around.frames_deeper e0.frames,.inr ⟨rfl,rfl⟩,fun b z=>absurd z (yN b),e0.bs,e0.lb,fun b _ _=>yN b,fun b z=>absurd z (yN b),e0.gL,e0.lY⟩,
  rfl,e0.bare,Un.kept hk,⟨_,x.toInCall.ns,fun i y v h1 h2 h3=>?_⟩,fun y c h=>⟨_,x.cell y c h⟩,e0.ar.fresh (aR _),fun y c h=>?_,fun p hp=>absurd (show p∈([]:List (Addr×Obj)) from hp) (by simp),e0.ar.kept hk,?_⟩
 ·exact name_of_addr x.apart (qG h1) (qG h2)
 ·have hy:scope.names.lookup y=some .cell\/scope.names.lookup y=some .free:=hy
  rcases hy with hy|hy
  ·exact Ew hy
  ·exact absurd rfl (S.Zo _ (qG hy))
 ·exact w9 (x.above y c (qG h))
 ·have hi:i < vs.length:=by
   unfold start at h2
   by_cases hi:i < vs.length
   ·exact hi
   ·rw[ajX (by simpa using hi)]at h2
    rw[List.getElem?_replicate]at h2;split at h2 <;> cases h2
  have ha:vs[i]? = some v:=by
   unfold start at h2;rw[Af (by simpa using hi),eX]at h2
   cases e:vs[i]? with
   |none=>rw[e]at h2;cases h2
   |some a=>rw[e]at h2;cases h2;rfl
  obtain⟨u,hu,rv⟩:=r.get ha;have hp:ps[i]? = some y:=by
   rw[<-S.pre,List.getElem?_take_of_lt (by omega)];exact h1
  have Ql:ps.Nodup:=by rw[<-S.pre];exact S.nd.sublist (TF _ _)
  refine⟨u,rv,?_⟩;rcases S.par y (ia hp) with k|k
  ·exact .inl ⟨k,LZ Ql hp hu k⟩
  ·obtain⟨c,e⟩:=Ew (n:=s.heap.objs.size+1) k
   refine .inr ⟨.inl k,c,e,?_⟩;have q:=x.cell y c e;rw[L3 Ql hp hu (by show scope.names.lookup y≠_;rw[k];decide)]at q
   exact q
 ·exact e0.ar.fresh (w9 (x.above y c (qG h)))
 ·unfold start
  show _=N.length;rw[cZ,aA,sh];omega
theorem Om {CX:lZ}{k:Nat}{params:Arguments}{dV kV:Value} (lk:K.lookup f=some ⟨oc,od,.func (PySem.W.fnOf name qual params body scope dV kV doc pm an cdv ct),oq⟩) (gQ:PySem.W.codeIn K cdv qual=true) (S:b6 N ps scope)
  (len:∀vs H Q E,sp vs H Q E->vs.length=ps.length)
  (pS:∀ (A:Around) (outer:List Env) (s:Shared) (H:Hp) (vs:List V) (Q:VK) (E:XK),a7 k (A.deeper (envOfC qual scope s.heap.objs.size f cdv))->sp vs H Q E ->
   ∃t,gA (jY CX P w K mg base N qual scope f cdv A outer s H E) body t/\t { nx:=fun _ H'=>Q .aF H',rt:=Q } (start N vs) H) :
  aI P w K mg base CX (k+1) f (PySem.W.fnOf name qual params body scope dV kV doc pm an cdv ct) ps sp:=by
 refine⟨len,fun A outer s H args us vs Q E hr e0 hb r lh=>?_⟩;have hl:=len _ _ _ _ lh;have KX:K.In s.heap:=e0.mod.iF.keeps fun b o e=>(e0.bs b o e).1;have lim:s.heap.NoLimit:=e0.mod.nolimit.keeps fun b o e=>(e0.bs b o e).1;have FG:∀y∈ps.zip us,scope.names.lookup y.1=some .local\/(scope.names.lookup y.1=some .cell/\((cellsFrom (s.heap.objs.size+1) scope.names []).lookup y.1).isSome=true):=fun⟨n,v⟩ hy=>by
  rcases S.par n (Kl hy).1 with q|q
  ·exact .inl q
  ·exact .inr ⟨q,TB _ _ _ (.inl q)⟩
 refine codeAny_call_function hr.depth (KX _ _ lk) rfl S.co S.gen rfl (PySem.W.codeRec_of KX gQ) (hb _ _ _ _ ?_);refine aj0 S.kind FG fun env he s1 x=>?_;subst he;refine⟨lim.keeps x.toInCall.keep,codeAny_func ?_⟩;obtain⟨t,ht,hq⟩:=pS A outer s H vs Q E (hr.deeper _) lh;have I:Inv (jY CX P w K mg base N qual scope f cdv A outer s H E) [] (start N vs) H s1:=L4 S hr.hd e0 hl r x;refine mn (ht [] s1 (start N vs) H _ I hq) (fun fl s' hs=>?_) fun e s' hs=>hs;have fin:∀ {aG:St}{H':Hp}{v:V}{u:Value},Inv (jY CX P w K mg base N qual scope f cdv A outer s H E) [] aG H' s'->RelV v u->Q v H'->CE outer P w H s Q u s':=
  fun {aG H' v u} J rv q=>⟨v,H',J.os,J.bare,J.base,J.ar,rv,q⟩
 cases fl with
 |ret u =>
  obtain⟨v,aG,H',J,rv,q⟩:=hs;exact fin J rv q
 |next =>
  obtain⟨aG,H',J,q⟩:=hs;exact fin (v:=V.aF) (u:=Value.none) J rfl q
 |brk =>
  obtain⟨_,_,_,q⟩:=hs;exact False.elim q
 |cont =>
  obtain⟨_,_,_,q⟩:=hs;exact False.elim q
section
variable{p:Pos}{t:TA}{id:String}{r:List V->Hp->VK->Prop}
def Qm (r:List V->Hp->VK->Prop) (t:TA):TE:=fun σ H Q=>t σ H fun vs H1=>r vs H1 Q
theorem aZ (hc:d5 X (.builtin id) r) (hg:Gl X x) (hm:X.mg x=none) (hv:bootBuiltins x=some (.builtin id)) (ha:PA X (e::es) t) (hn:x ≠ "__name__" :=by decide) (jI:(x==("__debug__" : Str))=false:=by decide)
  (he:starEach (e::es) X.env=(false,eval e X.env)::starEach es X.env:=by rfl) (dk:(backTo pos (starEach es X.env)).any (·.1)=false:=by rfl):PE X (.Call (.Name x p) (e::es) [] pos) (Qm r t):=by
 intro pins s σ H Q I h;refine sg (sJ I hg hm hv ?_ hn jI);exact aj1 (aE (ha pos pins s σ H _ I h) fun us s1 ⟨vs,H1,I1,r1,q1⟩=>hc pins s1 σ H1 vs us Q I1 r1 q1) he dk
theorem eO (hc:d5 X (.type T) r) (hg:Gl X x) (hm:X.mg x=none) (hv:bootBuiltins x=some (.type T)) (ha:PA X (e::es) t) (hn:x ≠ "__name__" :=by decide) (jI:(x==("__debug__" : Str))=false:=by decide)
  (he:starEach (e::es) X.env=(false,eval e X.env)::starEach es X.env:=by rfl) (dk:(backTo pos (starEach es X.env)).any (·.1)=false:=by rfl):PE X (.Call (.Name x p) (e::es) [] pos) (Qm r t):=by
 intro pins s σ H Q I h;refine sg (sJ I hg hm hv ?_ hn jI);exact Dj (aE (ha pos pins s σ H _ I h) fun us s1 ⟨vs,H1,I1,r1,q1⟩=>hc pins s1 σ H1 vs us Q I1 r1 q1) he dk
end
end L2
namespace HT
open PySem PyProof.Rows
section
open PySem.SeqAt
open PySem.AutoSeq1 (wpAny_loadPart')
open PySem.MeetsSeq PySem.MeetsSeq2 PySem.MeetsSeq3
end
section
variable{E:Value->Shared->Prop}
theorem Yi {vs ws:List Value}{Q:Value->Shared->Prop} (ht:IsTup s.heap t vs.toArray) (hb:IsTup s.heap b ws.toArray) (hv:vs ≠ [])
  (h1:ws = []->Q (.ref t) s) (h2:ws ≠ []->Q (.ref s.heap.objs.size) { s with heap:=s.heap.push { cls:= .type "tuple",data:= .seq (vs++ws).toArray } })
  (hsz:vs.length+ws.length<=sizeLine):wpAny (model prog w) A (binaryOp .Add (.ref t) (.ref b)) Q E s:=by
 obtain⟨⟨cls,dd,data,sl⟩,ho,hc,n,hd⟩:=id ht;obtain⟨⟨OW,BV,data2,tV⟩,lj,gk,n2,hd2⟩:=id hb;simp only at hc hd gk hd2;subst hc hd gk hd2;have e:vs.toArray++ws.toArray=(vs++ws).toArray:=by simp
 by_cases hw:ws = []
 ·exact concat_meets ⟨_,ho,rfl⟩ ⟨_,lj,rfl⟩ TK TL TM TN (TQ _ _)
   (tuple_addW1 t b vs.toArray ws.toArray n n2 dd BV sl tV (by simpa using hv) (by simp[hw])) ⟨ho,lj,h1 hw⟩
 ·refine concat_meets ⟨_,ho,rfl⟩ ⟨_,lj,rfl⟩ TK TL TM TN (TQ _ _)
   (tuple_addW2 t b vs.toArray ws.toArray n n2 dd BV sl tV (by simpa using hv) (by simpa using hw) (by rw[cS,cS];exact hsz)) ⟨ho,lj,?_⟩
  rw[e];exact h2 hw
def bo (n d:Nat):Option Int->Nat
 |none=>d
 |some v=>if v < 0 then (v+(n:Int)).toNat else min v.toNat n
theorem Ex (n d:Nat):bo n d none=d:=rfl
theorem EW (n d k:Nat):bo n d (some (k:Int))=min k n:=by
 show(if (k:Int) < 0 then ((k:Int)+(n:Int)).toNat else min (k:Int).toNat n)=min k n;rw[au (by omega),oY]
theorem Zp (n d:Nat) (hd:d<=n) (o:Option Int):bo n d o<=n:=by
 cases o with
 |none=>exact hd
 |some v =>
  show(if v < 0 then (v+(n:Int)).toNat else min v.toNat n)<=n
  by_cases hv:v < 0
  ·rw[aB hv];omega
  ·rw[au hv];exact Nat.min_le_right _ _
theorem Nf (v:Int) (n d:Nat):(if v < 0 then max (v+(n:Int)) 0 else min v (n:Int))=((bo n d (some v):Nat):Int):=by
 show(if v < 0 then max (v+(n:Int)) 0 else min v (n:Int))=(((if v < 0 then (v+(n:Int)).toNat else min v.toNat n):Nat):Int)
 by_cases hv:v < 0
 ·simp only[aB hv];omega
 ·simp only[au hv];omega
theorem VN (lo hi:Option Int) (n:Nat):Builtin.Slice.sliceAdjust lo hi 1 (n:Int)=(((bo n 0 lo:Nat):Int),((bo n n hi:Nat):Int)):=by
 have h1 : ¬ ((1:Int) < 0):=by omega
 unfold Builtin.Slice.sliceAdjust;simp only[h1,si];refine Prod.ext ?_ ?_
 ·cases lo with
  |none=>rfl
  |some v=>exact Nf v n 0
 ·cases hi with
  |none=>rfl
  |some v=>exact Nf v n n
theorem VO (i j:Nat):Builtin.Slice.slicePlaces (i:Int) (j:Int) 1=j - i:=by
 unfold Builtin.Slice.slicePlaces;have h1:(1:Int) > 0:=by omega
 simp only[h1,nN,Int.ediv_one];split <;> omega
theorem Ly {v:Value}{o:Option Int}{Q:Option Int->Shared->Prop} (p:IsPart v o) (h:Q o s):wpAny (model prog w) A (Builtin.Slice.slicePartIndex v) Q E s:=by
 cases p with
 |none=>exact slicePart_none h
 |int i t=>exact slicePart_int h
theorem K' {lo:Option Int}{Q:Int×Int×Nat->Shared->Prop} (hs:s.heap.IsSliceOf sl vl vu .none) (pl:IsPart vl lo) (pu:IsPart vu hi)
  (h:Q (((bo n 0 lo:Nat):Int),1,bo n n hi - bo n 0 lo) s):wpAny (model prog w) A (Builtin.Slice.sliceApplied (.ref sl) (pure (n:Int))) Q E s:=by
 obtain⟨os,tW,BW,yO⟩:=id hs;unfold Builtin.Slice.sliceApplied Builtin.Slice.sliceFields;refine ae (ae (dX tW yO (x:=vl) rfl (ae (dX tW yO (x:=vu) rfl (ae (dX tW yO (x:= .none) rfl (ak ?_)))))));refine ae (slicePart_none ?_);show wpAny _ _ (if ((1:Int)==0)=true then _ else _) _ _ s;rw[au (by decide)]
 refine ae (Ly pl (ae (Ly pu (ae (ak ?_)))));show wpAny _ _ (match Builtin.Slice.sliceAdjust lo hi 1 (n:Int) with|(lo,hi)=>pure (lo,(1:Int),Builtin.Slice.slicePlaces lo hi 1)) _ _ s;rw[VN lo hi n];show wpAny _ _ (pure (((bo n 0 lo:Nat):Int),(1:Int),Builtin.Slice.slicePlaces ((bo n 0 lo:Nat):Int) ((bo n n hi:Nat):Int) 1)) _ _ s;rw[VO];exact ak h
theorem Xl (xs:Array Value) (i k:Nat):((List.range k).filterMap fun(m:Nat)=>xs[((i:Int)+(m:Int) * 1).toNat]?).toArray=((xs.toList.drop i).take k).toArray:=by
 have e:(fun(m:Nat)=>xs[((i:Int)+(m:Int) * 1).toNat]?)=fun m=>xs[i+m]?:=by
  funext m
  have:((i:Int)+(m:Int) * 1).toNat=i+m:=by omega
  rw[this]
 rw[e];have:=pick_run xs i k;rw[List.filterMap_map]at this;have e2:((fun x=>xs[x]?) ∘ fun x=>i+x)=fun m=>xs[i+m]?:=rfl;rw[e2]at this;rw[this]
theorem U4 {lo:Option Int}{Q:Value->Shared->Prop} (ht:IsTup s.heap t items) (hs:s.heap.IsSliceOf sl vl vu .none) (pl:IsPart vl lo) (pu:IsPart vu hi)
  (hw : ¬ (bo items.size 0 lo=0/\bo items.size items.size hi=items.size))
  (h:Q (.ref s.heap.objs.size) { s with heap:=s.heap.push { cls:= .type "tuple",data:= .seq ((items.toList.drop (bo items.size 0 lo)).take (bo items.size items.size hi - bo items.size 0 lo)).toArray } })
  (hsz:items.size<=sizeLine):wpAny (model prog w) A (getItem (.ref t) (.ref sl)) Q E s:=by
 have Bt:sizeOk (.seq ((items.toList.drop (bo items.size 0 lo)).take (bo items.size items.size hi - bo items.size 0 lo)).toArray):=by
  show((items.toList.drop (bo items.size 0 lo)).take (bo items.size items.size hi - bo items.size 0 lo)).toArray.size<=sizeLine;rw[cS,dJ,Ag,jO];omega
 have hj:bo items.size items.size hi<=items.size:=Zp _ _ (aR _) hi;obtain⟨os,tW,BW,yO⟩:=id hs;have HC:s.TypeIs (.ref sl) "slice" :=⟨os,tW,BW⟩;unfold getItem
 try with_reducible refine eM ?_
 first|refine ae (ak ?_)|skip
 refine ae (wpAny_sequenceKey ht.typeIs (by decide) ?_)
 refine ae (qH (name:=Str.ofString "__getitem__") ht.typeIs Ah
  (jP Ah ht.typeIs entry_tuple_getitem ?_ (args_tuple_getitem _ _)))
 show wpAny _ _ (Builtin.Tuple.tupleItemsOf (.ref t) >>= _) _ _ s;refine ae (tupleItemsOf_ ht ?_);refine ae (oZ HC ?_);rw[aB (by decide)]
 refine ae (K' hs pl pu ?_);have gZ : ¬ ((((bo items.size 0 lo:Nat):Int)==0 && (1:Int)==1 && (bo items.size items.size hi - bo items.size 0 lo)==items.size)=true):=by
  intro q;rw[o6,o6]at q;have q1:((bo items.size 0 lo:Nat):Int)=0:=eq_of_beq q.1.1;have q2:bo items.size items.size hi - bo items.size 0 lo=items.size:=eq_of_beq q.2;exact hw ⟨by omega,by omega⟩
 show wpAny _ _ (if (((bo items.size 0 lo:Nat):Int)==0 && (1:Int)==1 && (bo items.size items.size hi - bo items.size 0 lo)==items.size)=true then _ else _) _ _ s;rw[au gZ,Xl]
 first
  |exact ae (m:=Builtin.Tuple.tupleExact _) (jl (ak ⟨_,rfl,ak h⟩) Bt)
  |exact ae (m:=Builtin.Tuple.tupleExact _) (jl (ae (ak (ak ⟨_,rfl,ak h⟩))) Bt)
  |exact ae (ae (m:=Builtin.Tuple.tupleExact _) (jl (ak (ak ⟨_,rfl,ak h⟩)) Bt))
  |exact ae (ae (m:=Builtin.Tuple.tupleExact _) (jl (ak ⟨_,rfl,ak h⟩) Bt))
end
end HT
namespace L2
open PySem PySem.Spec PyProof.Rows
abbrev TO:=St->Hp->(Option Int->Hp->Prop)->Prop
noncomputable def PO (X:Cx) (e:Option Expr) (t:TO):Prop:=
 ∀ (pins:List (Addr×Obj)) (s:Shared) (σ:St) (H:Hp) (Q:Option Int->Hp->Prop),Inv X pins σ H s->t σ H Q ->
  wpAny (model X.prog X.w) X.A (evalPart e X.env) (fun u s'=>∃o H',Inv X pins σ H' s'/\IsPart u o/\Q o H') X.xe s
def Yj:TO:=fun _ H Q=>Q none H
def aaf (t:TE):TO:=fun σ H Q=>t σ H fun x H1=>∃i,x = .int i/\Q (some i) H1
section
variable{lo hi:Option Expr}{tl th:TO}{p2:Pos}
theorem pK:PO X none Yj:=by
 intro pins s σ H Q I h;rw[TU];exact ak ⟨none,H,I,.none,h⟩
theorem nV (h:PE X e te):PO X (some e) (aaf te):=by
 intro pins s σ H Q I hw;rw[evalPart_some];refine aE (h pins s σ H _ I hw) fun u s1 hQ9=>?_;obtain⟨x,H1,I1,r1,q1⟩:=hQ9;obtain⟨i,rfl,q⟩:=q1;obtain⟨t,rfl⟩:=r1;exact⟨some i,H1,I1,.int i t,q⟩
noncomputable def wx (X:Cx) (r:V->Option Int->Option Int->Hp->VK->Prop):Prop:=
 ∀ (pins:List (Addr×Obj)) (s:Shared) (σ:St) (H:Hp) (x:V) (v vl vu:Value) (lo hi:Option Int) (sl:Addr) (Q:VK),Inv X pins σ H s->RelV x v->s.heap.IsSliceOf sl vl vu .none->IsPart vl lo->IsPart vu hi->r x lo hi H Q ->
  ∃T id,typeLookup (.type T) "__getitem__" = pure (some (.builtin id))/\s.TypeIs v T/\wpAny (model X.prog X.w) X.A (getItem v (.ref sl)) (EP X pins σ Q) X.xe s
def tSl (r:V->Option Int->Option Int->Hp->VK->Prop) (te:TE) (tl th:TO):TE:=fun σ H Q=>te σ H fun x H1=>tl σ H1 fun l H2=>th σ H2 fun u H3=>r x l u H3 Q
theorem pI {r:V->Option Int->Option Int->Hp->VK->Prop} (hr:wx X r) (he:PE X e te) (hl:PO X lo tl) (hu:PO X hi th):PE X (.Subscript e (.Slice lo hi none p2) pos) (tSl r te tl th):=by
 intro pins s σ H Q I h;refine Subscript_ (aE (he pins s σ H _ I h) fun v s1 hQ9=>?_);obtain⟨x,H1,I1,r1,q1⟩:=hQ9;refine wpAny_Slice (aE (hl pins s1 σ H1 _ I1 q1) fun vl s2 ⟨l,H2,I2,pl,q2⟩=>aE (hu pins s2 σ H2 _ I2 q2) fun vu s3 hQ9=>?_);obtain⟨u,H3,I3,pu,q3⟩:=hQ9;rw[TU];refine ak ?_;have I4:Inv X pins σ H3 { s3 with heap:=s3.heap.push { cls:= .type "slice",data:= .fields #[vl,vu,.none] } }:=I3.kept (t':=s3.toks) fun b ob q=>aT _ q;obtain⟨T,id,hT,ht,hg⟩:=hr pins { s3 with heap:=s3.heap.push { cls:= .type "slice",data:= .fields #[vl,vu,.none] } } σ H3 x v vl vu l u s3.heap.objs.size Q I4 r1 (Heap.IsSliceOf.new ..) pl pu q3;show wpAny (model X.prog X.w) X.A (subscriptTail e (.Slice lo hi none p2) v (.ref s3.heap.objs.size)) (EP X pins σ Q) X.xe { s3 with heap:=s3.heap.push { cls:= .type "slice",data:= .fields #[vl,vu,.none] } };exact tail_any (ops:= [.ref s3.heap.objs.size,v]) ht hT hg (by with_unfolding_all rfl)
def d6 (xs:List V) (lo hi:Option Int):List V:=(xs.drop (HT.bo xs.length 0 lo)).take (HT.bo xs.length xs.length hi - HT.bo xs.length 0 lo)
theorem DM (xs:List V) (lo hi:Option Int):(d6 xs lo hi).length<=xs.length:=by
 unfold d6;rw[dJ,Ag];omega
def abL (K:PySem.W.Frag):V->Option Int->Option Int->Hp->VK->Prop:=fun x lo hi H Q=>∃a xs,x = .ref a/\aC K H a xs /\
 ¬ (HT.bo xs.length 0 lo=0/\HT.bo xs.length xs.length hi=xs.length) /\ ∀p,H p=none->Q (.ref p) (upd H p (.tup (d6 xs lo hi)))
theorem Zq:wx X (abL X.K):=by
 intro pins s σ H x v vl vu lo hi sl Q I rx hs pl pu h;obtain⟨a,xs,rfl,hx,hw,q⟩:=h;cases rx
 obtain⟨its,r,ht,hz⟩:=I.tuple hx;have hlen:its.toArray.size=xs.length:=by rw[cS];exact r.length.symm
 refine⟨"tuple",_,Ah.lookup,ht.typeIs,?_⟩;refine HT.U4 ht hs pl pu (by rw[hlen];exact hw) ?_ (by rw[hlen];exact hz)
 rw[hlen];refine⟨.ref s.heap.objs.size,_,I.laid (t':=s.toks) (o:= .tup (d6 xs lo hi)) (fun b ob q=>aT _ q) (aR _) ?_,rfl,q _ (I.ar.fresh (aR _))⟩;exact⟨dG (DM xs lo hi) hz,_,(r.drop (HT.bo xs.length 0 lo)).take (HT.bo xs.length xs.length hi - HT.bo xs.length 0 lo),rz.new _ _⟩
noncomputable def aag (K:PySem.W.Frag):R2:=fun x y H Q=>∃a b xs ys,x = .ref a/\y = .ref b/\aC K H a xs/\aC K H b ys/\xs ≠ []/\xs.length+ys.length<=sizeLine /\
 (ys = []->Q (.ref a) H)/\(ys ≠ [] -> ∀p,H p=none->Q (.ref p) (upd H p (.tup (xs++ys))))
theorem Vals.EX {xs:List V} (r:Vals xs us):us = [] ↔ xs = []:=by
 cases r with
 |nil=>simp
 |cons _ _=>simp
theorem Yk:cN X (binaryOp .Add) (aag X.K):=by
 intro pins s σ H x y v u Q I rx ry h;obtain⟨a,b,xs,ys,rfl,rfl,ha,hb,hx,hz,q1,q2⟩:=h;cases rx
 cases ry
 obtain⟨its,r1,p1,_⟩:=I.tuple ha;obtain⟨oj,r2,p2,_⟩:=I.tuple hb;refine HT.Yi p1 p2 (fun z=>hx (r1.EX.mp z)) (fun z=>⟨.ref a,H,I,rfl,q1 (r2.EX.mp z)⟩) (fun z=>?_) (by rw[<-r1.length,<-r2.length];exact hz)
 refine⟨.ref s.heap.objs.size,_,I.laid (t':=s.toks) (o:= .tup (xs++ys)) (fun b ob q=>aT _ q) (aR _) ?_,rfl,q2 (fun w=>z (r2.EX.mpr w)) _ (I.ar.fresh (aR _))⟩;exact⟨by rw[cZ];exact hz,_,r1.append r2,rz.new _ _⟩
end
def qg (n:Nat) (i:Int):Option Nat:=if 0<=i then (if i < n then some i.toNat else none) else if -(n:Int)<=i then some (i+n).toNat else none
def cC {α:Type} (xs:List α) (i:Int):Option α:=(qg xs.length i).bind fun j=>xs[j]?
theorem Ng {i:Int} (h:qg n i=some j):seqIndex? i n=some j/\j < n /\ -(n:Int)<=i/\i < n:=by
 unfold qg at h
 by_cases h0:0<=i
 ·rw[aB h0]at h
  by_cases h1:i < n
  ·rw[aB h1]at h
   have e:i.toNat=j:=f' h;exact⟨by rw[Dk h0 h1,e],by omega,by omega,h1⟩
  ·rw[au h1]at h;cases h
 ·rw[au h0]at h
  by_cases h1 : -(n:Int)<=i
  ·rw[aB h1]at h
   have e:(i+n).toNat=j:=f' h;exact⟨by rw[seqIndex_neg (by omega) h1,e],by omega,h1,by omega⟩
  ·rw[au h1]at h;cases h
theorem EY {α:Type}{xs:List α}{i:Int}{v:α} (h:cC xs i=some v):∃j,seqIndex? i xs.length=some j/\xs[j]? = some v/\j < xs.length /\ -(xs.length:Int)<=i/\i < xs.length:=by
 unfold cC at h;cases e:qg xs.length i with
 |none=>rw[e]at h;cases h
 |some j =>
  rw[e]at h;obtain⟨h1,h2,h3,h4⟩:=Ng e;exact⟨j,h1,h,h2,h3,h4⟩
theorem eG {α:Type}{xs:List α}{v:α} (h:xs[j]? = some v):cC xs (j:Int)=some v:=by
 have hj:j < xs.length:=(cR.mp h).1;have e:qg xs.length (j:Int)=some j:=by
  unfold qg;rw[aB (by omega),aB (by omega)];simp
 unfold cC;rw[e];exact h
theorem MB {α:Type} (xs:List α) (v:α):cC (xs ++ [v]) (-1)=some v:=by
 have hl:(xs ++ [v]).length=xs.length+1:=by simp
 have e:qg (xs ++ [v]).length (-1)=some xs.length:=by
  unfold qg;rw[hl,au (by decide),aB (by omega)]
  congr 1
  omega
 unfold cC;rw[e];show(xs ++ [v])[xs.length]? = some v;simp
def Yl (b:Expr):Prop:= ∀o i,subscripted b false o i=operate [o,i] (getItem o i)
noncomputable def wz (X:Cx) (r:R2):Prop:=
 ∀ (value slice:Expr) (pins:List (Addr×Obj)) (s:Shared) (σ:St) (H:Hp) (x y:V) (v u:Value) (Q:VK),Inv X pins σ H s->RelV x v->RelV y u->r x y H Q ->
  subscripted slice false v u=operate [v,u] (getItem v u)->wpAny (model X.prog X.w) X.A (subscriptTail value slice v u) (EP X pins σ Q) X.xe s
noncomputable def Qn (X:Cx) (id:String) (r:V->List V->Hp->VK->Prop):Prop:=
 ∀ (pins:List (Addr×Obj)) (s:Shared) (σ:St) (H:Hp) (x:V) (xs:List V) (v:Value) (us:List Value) (Q:VK),Inv X pins σ H s->RelV x v->Vals xs us->r x xs H Q ->
  wpAny (model X.prog X.w) X.A (call (.builtin id) (v::us)) (EP X pins σ Q) X.xe s
section
variable{a b:Expr}{tb:TE}
theorem cf {r:R2} (hr:wz X r) (ha:PE X a ta) (hb:PE X b tb) (hs:Yl b):PE X (.Subscript a b pos) (BS r ta tb):=by
 intro pins s σ H Q I h;exact Subscript_ (Gg ha hb I h fun v u s2 x y H2 I2 rx ry q=>hr a b pins s2 σ H2 x y v u Q I2 rx ry q (hs _ _))
def OX (K:PySem.W.Frag):R2:=fun x y H Q=>∃p xs i v,x = .ref p/\y = .int i/\aj K H p xs/\cC xs i=some v/\Q v H
def OY (K:PySem.W.Frag):R2:=fun x y H Q=>∃p xs i v,x = .ref p/\y = .int i/\aC K H p xs/\cC xs i=some v/\Q v H
def abM:R2:=fun x y H Q=>∃z i c,x = .str z/\y = .int i/\z.length<=sizeLine/\cC z.cps.toList i=some c/\Q (.str ⟨#[c]⟩) H
theorem eQ:wz X (OX X.K):=by
 intro value slice pins s σ H x y v u Q I rx ry h hs;obtain⟨p,xs,i,z,rfl,rfl,hq,he,q⟩:=h;cases rx
 obtain⟨t,rfl⟩:=ry;obtain⟨its,r,pl,hz⟩:=I.list hq;obtain⟨j,h1,h2,h3,h4,h5⟩:=EY he;obtain⟨w,ew,ir⟩:=r.get h2;have hl:=r.length;have hn:=sM;have fin:EP X pins σ Q w s:=⟨z,H,I,ir,q⟩
 by_cases h0:0<=i
 ·have hj:i.toNat=j:=by
   rw[Dk h0 h5]at h1;exact f' h1
  exact item_listR pl.isList h0 (by omega) (by rw[hj];simpa using ew) fin hs
 ·have hj:(i+(its.toArray.size:Int)).toNat=j:=by
   rw[seqIndex_neg (by omega) h4]at h1
   rw[cS,<-hl];exact f' h1
  exact subscriptTail_builtinR (x:=w) pl.isList.typeIs TV.lookup
   (wpAny_getItem_list_neg (Q:=fun r s'=>r=w/\EP X pins σ Q r s') pl.isList (by omega) (by rw[cS] <;> omega) (by omega) (by rw[hj];simpa using ew) ⟨rfl,fin⟩) hs
theorem lR:wz X (OY X.K):=by
 intro value slice pins s σ H x y v u Q I rx ry h hs;obtain⟨p,xs,i,z,rfl,rfl,hq,he,q⟩:=h;cases rx
 obtain⟨t,rfl⟩:=ry;obtain⟨its,r,pl,hz⟩:=I.tuple hq;obtain⟨j,h1,h2,h3,h4,h5⟩:=EY he;obtain⟨w,ew,ir⟩:=r.get h2;have hl:=r.length;have hn:=sM;have fin:EP X pins σ Q w s:=⟨z,H,I,ir,q⟩;exact subscriptTail_builtinR (x:=w) pl.typeIs slot_tuple_getitem.lookup
  (getItem_tuple (j:=j) (Q:=fun r s'=>r=w/\EP X pins σ Q r s') pl (by omega) (by omega) (by rw[cS,<-hl];exact h1) (by simpa using ew) ⟨rfl,fin⟩) hs
theorem NY:wz X abM:=by
 intro value slice pins s σ H x y v u Q I rx ry h hs;obtain⟨z,i,c,rfl,rfl,hz,he,q⟩:=h;obtain⟨t,rfl⟩:=rx;obtain⟨t',rfl⟩:=ry;obtain⟨j,h1,h2,h3,h4,h5⟩:=EY he;have hl:z.cps.toList.length=z.length:=by simp[Str.length]
 rw[hl]at h1 h4 h5;have hn:=sM;exact tail_any (typeIs_str s z t) slot_str_getitem.lookup (getItem_str (c:=c) (by
  have e1:decide (i < -(2 ^ 63:Int))=false:=jN (by omega)
  have e2:decide (i ≥ 2 ^ 63)=false:=jN (by omega)
  rw[e1,e2,Km]) (by rw[h1];simpa using h2) ⟨.str ⟨#[c]⟩,H,I.tok _,⟨_,rfl⟩,q⟩) hs
theorem VP (its:List Value) (n j:Nat) (u:Value):Obj.mapSeq (·.setIfInBounds j u) { cls:= .type "list",data:= .seq its.toArray n }={ cls:= .type "list",data:= .seq (its.set j u).toArray n }:=by
 simp[Obj.mapSeq]
theorem Inv.lst {pins:List (Addr×Obj)}{σ:St}{H:Hp}{s:Shared}{p:Addr}{xs:List V} (I:Inv X pins σ H s) (h:H p=some (.lst xs)) :
  ∃ (its:List Value) (n:Nat),Vals xs its/\s.heap.get? p=some { cls:= .type "list",data:= .seq its.toArray n }/\xs.length<=sizeLine:=by
 obtain⟨z,its,n,r,e⟩:=I.ar p _ h;exact⟨its,n,r,e,z⟩
theorem Inv.Zr {xs:List V}{its':List Value}{n':Nat}{f:Obj->Obj} (I:Inv X pins σ H s) (h:H p=some (.lst xs))
  (ho:s.heap.get? p=some { cls:= .type "list",data:= .seq its.toArray n }) (hf:f { cls:= .type "list",data:= .seq its.toArray n }={ cls:= .type "list",data:= .seq its'.toArray n' }) (r:Vals ys its') (hz:ys.length<=sizeLine) (t:Nat) :
  Inv X pins σ (upd H p (.lst ys)) { s with heap:=s.heap.update p f,toks:=t }:=by
 have e:(s.heap.update p f).get? p=some { cls:= .type "list",data:= .seq its'.toArray n' }:=by
  rw[nO f ho (by rw[hf] <;> rfl),hf]
 refine I.write (x:=p) (e:=p) (by rw[h];trivial) (.inl rfl) (fun b u hb q=>(jm _ _ (aO hb)).trans q) ⟨_,e⟩ ?_
 exact⟨hz,its',n',r,e⟩
def aah:V->V->V->Hp->(Hp->Prop)->Prop:=fun o i v H Q=>∃p xs k j,o = .ref p/\i = .int k/\H p=some (.lst xs)/\qg xs.length k=some j/\Q (upd H p (.lst (xs.set j v)))
theorem set_list:OQ X aah:=by
 intro pins s σ H o i v ov iv u Q I ro ri rv h;obtain⟨p,xs,k,j,rfl,rfl,hp,hj,q⟩:=h;cases ro
 obtain⟨t,rfl⟩:=ri;obtain⟨its,n,r,ho,hz⟩:=I.lst hp;obtain⟨h1,h2,h3,h4⟩:=Ng hj;have hl:=r.length;have hn:=sM;have I':Inv X pins σ (upd H p (.lst (xs.set j v))) { s with heap:=s.heap.update p (Obj.mapSeq (·.setIfInBounds j u)) }:=
  I.Zr hp ho (VP its n j u) (r.set rv j) (by rw[List.length_set];exact hz) s.toks
 by_cases h0:0<=k
 ·have hk:k.toNat=j:=by
   rw[Dk h0 h4]at h1;exact f' h1
  exact PySem.W.ki_setAt ho h0 (by omega) (by rw[cS,<-hl];exact h4) (by rw[hk];exact⟨_,I',q⟩)
 ·have hk:(k+(its.toArray.size:Int)).toNat=j:=by
   rw[seqIndex_neg (by omega) h3]at h1
   rw[cS,<-hl];exact f' h1
  exact PySem.W.ki_setBack ho (by omega) (by rw[cS,<-hl];exact h3) (by omega) (by rw[hk];exact⟨_,I',q⟩)
theorem Ve (lo hi:Option Int) (n:Nat):(sliceBounds lo hi none n).1=((HT.bo n 0 lo:Nat):Int)/\(sliceBounds lo hi none n).2.1=((HT.bo n n hi:Nat):Int)/\(sliceBounds lo hi none n).2.2=1:=by
 refine⟨?_,?_,rfl⟩
 ·cases lo with
  |none=>simp[sliceBounds,HT.bo]
  |some i =>
   simp only[sliceBounds,HT.bo,Option.getD_none,show(1:Int) > 0 by decide,nN]
   by_cases h:i < 0
   ·simp only[h,nN] <;> omega
   ·simp only[h,si] <;> omega
 ·cases hi with
  |none=>simp[sliceBounds,HT.bo]
  |some i =>
   simp only[sliceBounds,HT.bo,Option.getD_none,show(1:Int) > 0 by decide,nN]
   by_cases h:i < 0
   ·simp only[h,nN] <;> omega
   ·simp only[h,si] <;> omega
theorem U' (its:List Value) (lo hi:Option Int):slicePick its.toArray lo hi none=((its.drop (HT.bo its.length 0 lo)).take (HT.bo its.length its.length hi - HT.bo its.length 0 lo)).toArray:=by
 obtain⟨h1,h2,h3⟩:=Ve lo hi its.toArray.size;unfold slicePick;rw[h1,h2,h3];simp only[sliceRange_one,pick_run,cS] <;> rfl
def OZ (K:PySem.W.Frag):V->Option Int->Option Int->Hp->VK->Prop:=fun x lo hi H Q=>∃a xs,x = .ref a/\aj K H a xs /\ ∀p,H p=none->Q (.ref p) (upd H p (.lst (d6 xs lo hi)))
theorem sF:wx X (OZ X.K):=by
 intro pins s σ H x v vl vu lo hi sl Q I rx hs pl pu h;obtain⟨a,xs,rfl,hx,q⟩:=h;cases rx
 obtain⟨its,r,ht,hz⟩:=I.list hx;have hlen:=r.length;refine⟨"list",_,TV.lookup,ht.isList.typeIs,?_⟩;refine wpAny_getItem_list_slice ht.isList hs pl pu .none (by simp) ?_ (by rw[cS] <;> omega)
 rw[U',<-hlen];refine⟨.ref s.heap.objs.size,_,I.laid (t':=s.toks) (o:= .lst (d6 xs lo hi)) (fun b ob q=>aT _ q) (aR _) ?_,rfl,q _ (I.ar.fresh (aR _))⟩;exact⟨dG (DM xs lo hi) hz,_,0,(r.drop (HT.bo xs.length 0 lo)).take (HT.bo xs.length xs.length hi - HT.bo xs.length 0 lo),cu _ rfl⟩
def nZ:V->Bool
 |.aF=>true
 |.bl _=>true
 |.int _=>true
 |.str _=>true
 |_=>false
def rK:V->V->Bool
 |.aF,.aF=>true
 |.bl a,.bl b=>a==b
 |.bl a,.int b=>(if a then 1 else 0)==b
 |.int a,.bl b=>a==(if b then 1 else 0)
 |.int a,.int b=>a==b
 |.str a,.str b=>a==b
 |_,_=>false
theorem Zs {x:V}{v:Value} (ry:RelV y u) (rx:RelV x v) (fy:nZ y=true) (fx:nZ x=true):SeqAt.EqAt A s u v (rK y x):=by
 cases y with
 |aF =>
  cases ry
  cases x with
  |aF=>cases rx;exact SeqAt.EqAt.same _
  |bl b=>cases rx;exact SeqAt.EqAt.none_bool b
  |int b=>obtain⟨t,rfl⟩:=rx;exact SeqAt.EqAt.none_int b t
  |str b=>obtain⟨t,rfl⟩:=rx;exact SeqAt.EqAt.none_str b t
  |_=>exact absurd (show false=true from fx) de
 |bl a =>
  cases ry
  cases x with
  |aF=>cases rx;exact SeqAt.EqAt.bool_none a
  |bl b=>cases rx;exact SeqAt.EqAt.bool_bool a b
  |int b=>obtain⟨t,rfl⟩:=rx;exact SeqAt.EqAt.bool_int a b t
  |str b=>obtain⟨t,rfl⟩:=rx;exact SeqAt.EqAt.bool_str a b t
  |_=>exact absurd (show false=true from fx) de
 |int a =>
  obtain⟨t',rfl⟩:=ry;cases x with
  |aF=>cases rx;exact SeqAt.EqAt.int_none a t'
  |bl b=>cases rx;exact SeqAt.EqAt.int_bool a t' b
  |int b=>obtain⟨t,rfl⟩:=rx;exact SeqAt.EqAt.int_int a t' b t
  |str b=>obtain⟨t,rfl⟩:=rx;exact SeqAt.EqAt.int_str a t' b t
  |_=>exact absurd (show false=true from fx) de
 |str a =>
  obtain⟨t',rfl⟩:=ry;cases x with
  |aF=>cases rx;exact SeqAt.EqAt.str_none a t'
  |bl b=>cases rx;exact SeqAt.EqAt.str_bool a t' b
  |int b=>obtain⟨t,rfl⟩:=rx;exact SeqAt.EqAt.str_int a t' b t
  |str b=>obtain⟨t,rfl⟩:=rx;exact SeqAt.EqAt.str_str a t' b t
  |_=>exact absurd (show false=true from fx) de
 |_=>exact absurd (show false=true from fy) de
def iI (x:V) (u:Value):Bool:=match u with
 |.none=>rK .aF x
 |.bool b=>rK (.bl b) x
 |.int i _=>rK (.int i) x
 |.str z _=>rK (.str z) x
 |_=>false
theorem Bk {x:V} (r:RelV y u) (f:nZ y=true):iI x u=rK y x:=by
 cases y with
 |aF=>cases r;rfl
 |bl b=>cases r;rfl
 |int i=>obtain⟨t,rfl⟩:=r;rfl
 |str z=>obtain⟨t,rfl⟩:=r;rfl
 |_=>exact absurd (show false=true from f) de
theorem xD {x:V}:∀ {xs:List V}{us:List Value},Vals xs us->xs.all nZ=true->us.any (iI x)=xs.any fun y=>rK y x
 |_,_,.nil,_=>rfl
 |y::xs,u::us,.cons r t,f=>by
  rw[List.all_cons,o6]at f;rw[uw,uw,Bk r f.1,xD t f.2]
theorem uU {A:Around}{s:Shared}{x:V}{v:Value} (rx:RelV x v) (fx:nZ x=true):∀ {xs:List V}{us:List Value},Vals xs us->xs.all nZ=true -> ∀u∈us,SeqAt.EqAt A s u v (iI x u)
 |_,_,.nil,_=>fun u hu=>by cases hu
 |y::xs,u::us,.cons r t,f=>fun u' hu=>by
  rw[List.all_cons,o6]at f;rcases aY.mp hu with rfl|hu
  ·rw[Bk r f.1];exact Zs r rx f.1 fx
  ·exact uU rx fx t f.2 u' hu
def BX (x:V) (xs:List V):Bool:=xs.any fun y=>rK y x
def BY (K:PySem.W.Frag) (neg:Bool):R2:=fun x y H Q=>∃p xs,y = .ref p/\(aj K H p xs\/aC K H p xs)/\nZ x=true/\xs.all nZ=true/\Q (.bl (if neg then !BX x xs else BX x xs)) H
theorem Ec:cN X (compareOp .In) (BY X.K false):=by
 intro pins s σ H x y v u Q I rx ry h;obtain⟨p,xs,rfl,hq,fx,fs,q⟩:=h;cases ry
 rcases hq with hq|hq
 ·obtain⟨its,r,pl,hz⟩:=I.list hq
  refine SeqAt.in_listAt (iI x) pl.isList (fun w hw=>uU rx fx r fs w (by simpa using hw)) ⟨.bl _,H,I,rfl,?_⟩
  rw[show its.toArray.any (iI x)=its.any (iI x) by simp,xD r fs]
  exact q
 ·obtain⟨its,r,pl,hz⟩:=I.tuple hq
  refine SeqAt.in_tupleAt (iI x) pl (fun w hw=>uU rx fx r fs w (by simpa using hw)) ⟨.bl _,H,I,rfl,?_⟩
  rw[show its.toArray.any (iI x)=its.any (iI x) by simp,xD r fs]
  exact q
theorem qO:cN X (compareOp .NotIn) (BY X.K true):=by
 intro pins s σ H x y v u Q I rx ry h;obtain⟨p,xs,rfl,hq,fx,fs,q⟩:=h;cases ry
 rcases hq with hq|hq
 ·obtain⟨its,r,pl,hz⟩:=I.list hq
  refine SeqAt.notIn_listAt (iI x) pl.isList (fun w hw=>uU rx fx r fs w (by simpa using hw)) ⟨.bl _,H,I,rfl,?_⟩
  rw[show its.toArray.any (iI x)=its.any (iI x) by simp,xD r fs]
  exact q
 ·obtain⟨its,r,pl,hz⟩:=I.tuple hq
  refine SeqAt.notIn_tupleAt (iI x) pl (fun w hw=>uU rx fx r fs w (by simpa using hw)) ⟨.bl _,H,I,rfl,?_⟩
  rw[show its.toArray.any (iI x)=its.any (iI x) by simp,xD r fs]
  exact q
theorem i7:d5 X (.builtin "len") (fun xs H Q=>∃p ys,xs = [.ref p]/\(aj X.K H p ys\/aC X.K H p ys)/\Q (.int ys.length) H):=by
 intro pins s σ H xs us Q I r h;obtain⟨p,ys,rfl,hq,q⟩:=h;obtain⟨u,rfl,rx⟩:=vals1 r;cases rx
 have hn:=sM;rcases hq with hq|hq
 ·obtain⟨its,r',pl,hz⟩:=I.list hq
  have hlen:=r'.length;exact Calls.call_len_list pl.isList (by simp only[cS] <;> omega) ⟨.int ys.length,H,I.tok _,⟨s.toks+1,by rw[cS,hlen]⟩,q⟩
 ·obtain⟨its,r',pl,hz⟩:=I.tuple hq
  have hlen:=r'.length;exact len_tuple pl (by simp only[cS] <;> omega) ⟨.int ys.length,H,I.tok _,⟨s.toks+1,by rw[cS,hlen]⟩,q⟩
theorem Vf:d5 X (.builtin "len") (fun xs H Q=>∃z,xs = [.str z]/\z.length<=sizeLine/\Q (.int z.length) H):=by
 intro pins s σ H xs us Q I r h;obtain⟨z,rfl,hz,q⟩:=h;obtain⟨u,rfl,t,rfl⟩:=vals1 r;have hn:=sM;exact len_str (by omega) ⟨.int z.length,H,I.tok _,⟨_,rfl⟩,q⟩
theorem uG:d5 X (.type "list") (fun xs H Q=>∃p ys,xs = [.ref p]/\(aj X.K H p ys\/aC X.K H p ys) /\ ∀l,H l=none->Q (.ref l) (upd H l (.lst ys))):=by
 intro pins s σ H xs us Q I r h;obtain⟨p,ys,rfl,hq,q⟩:=h;obtain⟨u,rfl,rx⟩:=vals1 r;cases rx
 have fin:∀ (its:List Value),Vals ys its->ys.length<=sizeLine -> ∀ (h':Heap) (c':Nat),(∀b o',s.heap.get? b=some o'->h'.get? b=some o') ->
   h'.get? s.heap.objs.size=some { cls:= .type "list",dict:=none,data:= .seq its.toArray c',slots:= #[] }->EP X pins σ Q (.ref s.heap.objs.size) { s with heap:=h' }:=fun its r' hz h' c' kp e =>
  ⟨.ref s.heap.objs.size,_,I.laid (t':=s.toks) kp (aR _) (show bu X.prog X.w _ h' _ (.lst ys) from⟨hz,its,c',r',e⟩),rfl,q _ (I.ar.fresh (aR _))⟩
 rcases hq with hq|hq
 ·obtain⟨its,r',pl,hz⟩:=I.list hq
  have hlen:=r'.length;obtain⟨o,ho,hc,n,hd⟩:=pl.isList;exact call_list_seq p (.inl rfl) ho hc hd (fun h' c' kp e=>fin its r' hz h' c' kp e) (by simp only[cS] <;> omega)
 ·obtain⟨its,r',pl,hz⟩:=I.tuple hq
  have hlen:=r'.length;obtain⟨o,ho,hc,n,hd⟩:=pl;exact call_list_seq p (.inr rfl) ho hc hd (fun h' c' kp e=>fin its r' hz h' c' kp e) (by simp only[cS] <;> omega)
theorem mx:d5 X (.type "tuple") (fun xs H Q=>∃p ys,xs = [.ref p]/\((aj X.K H p ys /\ ∀l,H l=none->Q (.ref l) (upd H l (.tup ys)))\/(aC X.K H p ys/\Q (.ref p) H))):=by
 intro pins s σ H xs us Q I r h;obtain⟨p,ys,rfl,h⟩:=h;obtain⟨u,rfl,rx⟩:=vals1 r;cases rx
 rcases h with⟨hq,q⟩|⟨hq,q⟩
 ·obtain⟨its,r',pl,hz⟩:=I.list hq
  have hlen:=r'.length;refine call_tuple_list pl.isList (fun h' kp=>?_) (by simp only[cS] <;> omega)
  have I1:Inv X pins σ H { s with heap:=h' }:=I.kept (t':=s.toks) kp;have I2:Inv X pins σ (upd H h'.objs.size (.tup ys)) { s with heap:=h'.push { cls:= .type "tuple",data:= .seq its.toArray } }:=
   I1.laid (t':=s.toks) (fun b o e=>aT _ e) (aR _) (show bu X.prog X.w _ _ _ (.tup ys) from⟨hz,its,r',rz.new _ _⟩)
  exact⟨.ref h'.objs.size,_,I2,rfl,q _ (I1.ar.fresh (aR _))⟩
 ·obtain⟨its,r',pl,hz⟩:=I.tuple hq
  exact call_tuple_same pl ⟨.ref p,H,I,rfl,q⟩
noncomputable def Qo (K:PySem.W.Frag) (T:String) (x:V) (H:Hp):Prop:=match x with
 |.str _=>T = "str"
 |.int _=>T = "int"
 |.ref p=>(T = "list" /\ ∃xs,aj K H p xs)\/(T = "tuple" /\ ∃o,K.lookup p=some o/\o.cls = .type "tuple" /\ o.dict=none) \/
   (T = "dict" /\ ((∃kvs,H p=some (.dK kvs)) \/ ∃kvs,H p=some (.dT kvs)))\/(T = "set" /\ ∃S n,H p=some (.set S n))\/(T = "tuple" /\ ∃xs,Rd H p (.tup xs))
 |_=>False
theorem Zt {x:V}{v:Value} (I:Inv X pins σ H s) (r:RelV x v) (ty:Qo X.K T x H) :
  s.TypeIs v T /\ ∀a,v = .ref a -> ∃ob,s.heap.get? a=some ob/\ob.dict=none:=by
 cases x with
 |str z =>
  obtain⟨t,rfl⟩:=r;cases (show T = "str" from ty)
  exact⟨typeIs_str s z t,fun _ e=>nomatch e⟩
 |int i =>
  obtain⟨t,rfl⟩:=r;cases (show T = "int" from ty)
  exact⟨typeIs_int s i t,fun _ e=>nomatch e⟩
 |ref p =>
  cases r
  rcases ty with⟨rfl,xs,hq⟩|⟨rfl,o,hk,hc,hd⟩|⟨rfl,hk⟩|⟨rfl,S,n,hk⟩|⟨rfl,xs,hq⟩
  ·obtain⟨its,_,pl,_⟩:=I.list hq
   refine⟨pl.isList.typeIs,fun a e=>?_⟩;cases e
   obtain⟨o,n,e,c,hd,_⟩:=pl;exact⟨o,e,hd⟩
  ·refine⟨⟨o,I.bx p o hk,hc⟩,fun a e=>?_⟩
   cases e
   exact⟨o,I.bx _ o hk,hd⟩
  ·have z:∃o,s.heap.get? p=some o/\o.ExactDict:=by
    rcases hk with⟨kvs,hk⟩|⟨kvs,hk⟩
    ·obtain⟨_,_,_,_,o,_,_,e,ex,_⟩:=I.ar p _ hk
     exact⟨o,e,ex⟩
    ·obtain⟨_,_,_,_,o,_,_,e,ex,_⟩:=I.ar p _ hk
     exact⟨o,e,ex⟩
   obtain⟨o,e,ex⟩:=z;refine⟨⟨o,e,ex.1⟩,fun a e2=>?_⟩;cases e2
   exact⟨o,e,ex.2.1⟩
  ·obtain⟨o,_,_,_,e,ex,_⟩:=I.ar p _ hk
   refine⟨⟨o,e,ex.1⟩,fun a e2=>?_⟩;cases e2
   exact⟨o,e,ex.2.1⟩
  ·obtain⟨_,_,_,o,e,c,_,_,hd⟩:=hq.ok I.ar
   refine⟨⟨o,e,c⟩,fun a e2=>?_⟩;cases e2
   exact⟨o,e,hd⟩
 |_=>exact False.elim ty
def tBM (K:PySem.W.Frag) (T:String) (r:V->List V->Hp->VK->Prop) (to:TE) (t:TA):TE:=fun σ H Q=>to σ H fun x H1=>Qo K T x H1/\t σ H1 fun xs H2=>r x xs H2 Q
variable{o:Expr}{to:TE}{t:TA}{om:Pos}{id:String}{r:V->List V->Hp->VK->Prop}
theorem jc (pa:PlainAttrs T) (slot:Slot T name id) (hty:typeOf (.builtin id)=pure (.type "method_descriptor")) (hm:Qn X id r) (ho:PE X o to) (ha:PA X (e::es) t)
  (FH:attributeBase o name X.env (eval o X.env)=eval o X.env:=by rfl)
  (Gk:((backTo om (starEach (e::es) X.env)).all (fun x=>!x.1) && (backToKw om (keywordEach [] X.env)).all (fun x=>x.1.isSome)
   && decide ((e::es).length+([]:List Keyword).length+(if ([]:List Keyword).isEmpty then 0 else 1) < 30))=true:=by rfl)
  (FK:(apos.endLine==om.line)=true:=by rfl) (hs:starEach (e::es) X.env=(false,eval e X.env)::starEach es X.env:=by rfl) (Zu:(backTo om (starEach es X.env)).any (·.1)=false:=by rfl) :
  PE X (.Call (.Attribute o name apos) (e::es) [] om) (tBM X.K T r to t):=by
 intro pins s σ H Q I h;refine wpAny_Call_method_late FH Gk FK rfl (aE (ho pins s σ H _ I h) fun v s1 hQ9=>?_);obtain⟨x,H1,I1,r1,ty,q1⟩:=hQ9;obtain⟨h1,h2⟩:=Zt I1 r1 ty;refine⟨T,id,pa,slot,hty,h1,h2,?_⟩;have hA:=ha om pins s1 σ H1 _ I1 q1;rw[hs]at hA ⊢;refine Calls.callWith_builtin (by show(false || (backTo om (starEach es X.env)).any (·.1))=false;rw[Zu] <;> rfl) (Calls.evalArgs_plain ?_)
 exact aE hA fun us s2 ⟨vs,H2,I2,r2,q2⟩=>hm pins s2 σ H2 x vs v us Q I2 r1 r2 q2
end
noncomputable def HD (X:Cx) (id:String) (r:V->List V->Hp->VK->Prop):Prop:=
 ∀ (pins:List (Addr×Obj)) (s:Shared) (σ:St) (H:Hp) (x:V) (xs:List V) (v:Value) (us:List Value) (Q:VK),Inv X pins σ H s->RelV x v->Vals xs us->r x xs H Q ->
  wpAny (model X.prog X.w) X.A (call (.builtin id) (v::us)) (EP X pins σ Q) X.xe s
theorem Vals.one:∀ {x:V}{us:List Value},Vals [x] us -> ∃u,us = [u]/\RelV x u:=by
 intro _ _ h;cases h with|cons r h=>cases h;exact⟨_,rfl,r⟩
theorem Vals.two:∀ {x y:V}{us:List Value},Vals [x,y] us -> ∃u v,us = [u,v]/\RelV x u/\RelV y v:=by
 intro _ _ _ h;cases h with|cons r h=>cases h with|cons q h=>cases h;exact⟨_,_,rfl,r,q⟩
theorem Vals.eraseIdx:∀ {xs:List V}{us:List Value} (i:Nat),Vals xs us->Vals (xs.eraseIdx i) (us.eraseIdx i)
 |_,_,_,.nil=>.nil
 |_,_,0,.cons _ t=>t
 |_,_,i+1,.cons r t=>.cons r (Vals.eraseIdx i t)
theorem Vals.reverse {xs:List V} (h:Vals xs us):Vals xs.reverse us.reverse:=by
 induction h with
 |nil=>exact .nil
 |cons r t ih=>rw[Kn,Kn];exact Vals.append ih (.cons r .nil)
theorem L5 {α:Type}:∀ (l:List α) (i:Nat),(l.eraseIdx i).length<=l.length
 |[],_=>aR _
 |_::_,0=>lG _
 |_::r,i+1=>Nat.succ_le_succ (L5 r i)
section
variable{xs zs:List V}
theorem Inv.O0 {its':List Value}{f:Array Value->Array Value} (I:Inv X pins σ H s) (hH:H l=some (.lst xs))
  (e:s.heap.get? l=some { cls:= .type "list",data:= .seq its.toArray n }) (hf:f its.toArray=its'.toArray) (hv:Vals ys its') (hz:ys.length<=sizeLine) :
  Inv X pins σ (upd H l (.lst ys)) { s with heap:=s.heap.update l (Obj.mapSeq f),toks:=t' }:=by
 have q:=PySem.IsL.update e f;rw[hf]at q;refine I.write (x:=l) (e:=l) (by rw[hH];exact trivial) (.inl rfl) (fun b' u hb hu=>(jm s.heap (Obj.mapSeq f) (aO hb)).trans hu) ⟨_,q⟩ ?_
 exact⟨hz,its',_,hv,q⟩
theorem Inv.Gm (I:Inv X pins σ H s) (hv:Vals ys its) (hz:ys.length<=sizeLine) :
  Inv X pins σ (upd H s.heap.objs.size (.lst ys)) { s with heap:=s.heap.push { cls:= .type "list",data:= .seq its.toArray },toks:=t' }:=
 I.laid (fun _ _ q=>aT _ q) (aR _) ⟨hz,its,0,hv,cu _ rfl⟩
theorem Inv.fresh (I:Inv X pins σ H s):H s.heap.objs.size=none:=I.ar.fresh (aR _)
theorem Inv.yr (I:Inv X pins σ H s) (hH:H l=some (.lst xs)):xs.length<=sizeLine /\ ∃ (its:List Value) (n:Nat),Vals xs its/\xs.length=its.length/\s.heap.get? l=some { cls:= .type "list",data:= .seq its.toArray n }:=by
 obtain⟨z,its,n,r,e⟩:=I.ar l _ hH;exact⟨z,its,n,r,r.length,e⟩
end
def Ym:V->List V->Hp->VK->Prop:=fun x vs H Q=>∃l xs y,x = .ref l/\vs = [y]/\H l=some (.lst xs)/\xs.length < sizeLine/\Q .aF (upd H l (.lst (xs ++ [y])))
theorem lK:HD X "list.append" Ym:=by
 intro pins s σ H x vs v us Q I rx rv h;obtain⟨l,xs,y,rfl,rfl,hH,hz,q⟩:=h;cases rx
 obtain⟨u,rfl,ru⟩:=rv.one;obtain⟨z,its,n,r,hl,e⟩:=I.yr hH;refine Ko F.slot_list_append ⟨_,e,rfl⟩ F.entry_list_append (F.args_list_append_2 _ _) (PySem.list_append l its.toArray n u (by rw[cS];omega)) ⟨e,?_⟩
 refine⟨.aF,_,I.O0 (its':=its ++ [u]) hH e (by simp) (r.append (.cons ru .nil)) ?_,rfl,q⟩
 rw[cZ,i6];omega
def Zv:V->List V->Hp->VK->Prop:=fun x vs H Q=>∃l xs i k y,x = .ref l/\vs = [.int i]/\H l=some (.lst xs) /\ -(2 ^ 63)<=i/\i < 2 ^ 63/\seqIndex? i xs.length=some k/\xs[k]? = some y/\Q y (upd H l (.lst (xs.eraseIdx k)))
theorem MC:HD X "list.pop" Zv:=by
 intro pins s σ H x vs v us Q I rx rv h;obtain⟨l,xs,i,k,y,rfl,rfl,hH,h1,h2,hk,hy,q⟩:=h;cases rx
 obtain⟨u,rfl,ru⟩:=rv.one;obtain⟨t,rfl⟩:=ru;obtain⟨z,its,n,r,hl,e⟩:=I.yr hH;obtain⟨w,hw,ir⟩:=r.get hy;refine Ko F.slot_list_pop ⟨_,e,rfl⟩ F.entry_list_pop (F.args_list_pop_2 _ _)
  (MeetsSeq.list_pop_at l its.toArray n i t k w (fitsIndex_both h1 h2) (by rw[cS,<-hl];exact hk) (by rw[<-Dl];exact hw) (by rw[cS];omega)) ⟨e,?_⟩
 refine⟨y,_,I.O0 (its':=its.eraseIdx k) hH e ?_ (r.eraseIdx k) ?_,ir,q⟩
 ·show its.toArray.eraseIdxIfInBounds k=(its.eraseIdx k).toArray
  rw[List.eraseIdxIfInBounds_toArray]
 ·have:=L5 xs k
  omega
def O1:R2:=fun x y H Q=>∃l b xs zs,x = .ref l/\y = .ref b/\H l=some (.lst xs)/\H b=some (.lst zs)/\xs.length+zs.length<=sizeLine /\ ∀p,H p=none->Q (.ref p) (upd H p (.lst (xs++zs)))
theorem pO:cN X (binaryOp .Add) O1:=by
 intro pins s σ H x y v u Q I rx ry h;obtain⟨l,b,xs,zs,rfl,rfl,hH,hB,hz,q⟩:=h;cases rx
 cases ry
 obtain⟨z,its,n,r,hl,e⟩:=I.yr hH;obtain⟨z2,oj,n2,r2,j5,e2⟩:=I.yr hB;refine PySem.P.add_list e e2 ?_ (by rw[cS,cS];omega)
 have ea:its.toArray++oj.toArray=(its++oj).toArray:=by simp
 rw[ea];exact⟨.ref _,_,I.Gm (t':=s.toks) (r.append r2) (by rw[cZ];omega),rfl,q _ I.fresh⟩
section
variable{E:Value->Shared->Prop}
set_option maxRecDepth 100000 in
end
end L2
namespace Qp
open PySem PySem.W PySem.Calls PyProof.Rows
theorem U6 {P:Params}:∀ (ns:List Int) (vs:List Value),WellAll P h vs (ns.map WData.int)->IntsAre vs ns:=by
 intro ns
 induction ns with
 |nil =>
  intro vs w;rw[Kq]at w;cases w
  exact .nil
 |cons n ns ih =>
  intro vs w;rw[cz]at w;cases w with
  |cons a b =>
   cases a
   exact .cons _ _ (ih _ b)
theorem Wu {l:OpenLaw} (hn:l.most=some n) {P:Params}{args:List WData}{vals:List Value}
  (BC:l.row.toRowW.claim.pre args=true) (qh:WellAll P h vals args) :
  ∃a vs ns,vals = [Value.ref a]/\args = [WData.list (ns.map WData.int)]/\h.get? a=some { cls:= .type "list",data:= .seq vs.toArray }/\IntsAre vs ns/\ns.length<=n:=by
 have hsh:WShape.hasAll [] args [.list .int]=true:=(pre_splitW BC).1;have hc:l.pre.holds [] { args:=args }=true:=(pre_splitW BC).2;obtain⟨d,r,rfl,h1,h2⟩:=hasAllW_cons hsh;obtain rfl:=hasAllW_nil h2;obtain⟨xs,rfl,h3⟩:=hasW_list h1;obtain⟨ns,rfl⟩:=items_int h3;have hlen:ns.length<=n:=by
  unfold OpenLaw.pre at hc;have h4:(WTm.not (.lt (.lit (.int (n:Int))) (.len (.arg 0)))).holds [] { args:= [.list (ns.map .int)] }=true:=by
   have h4:=(holds_andW hc).1;rw[hn]at h4;exact h4
  have h5:=condW_of h4 (w_not (w_lt w_lit (w_len_list (w_arg rfl))));rw[aA]at h5;refine Nat.le_of_not_lt fun q=>?_;have q':(n:Int) < ((ns.length:Nat):Int):=by omega
  first
   |(rw[gI q']at h5;exact absurd h5 (by decide))
   |(simp at h5;omega)
 cases qh with
 |cons w1 w2 =>
  cases w2
  cases w1 with
  |list ho abN=>exact⟨_,_,ns,rfl,rfl,ho,U6 ns _ abN,hlen⟩
theorem Wv (l:OpenLaw) (args:List WData):l.row.toRowW.claim.post args (.bool true) args=true:=
 postW_of (r:=l.row.toRowW) (X:=(true==true))
  (show WShape.has [] (.bool true) .bool=true by first|rfl|decide|simp[WShape.has,WShape.arms,WShape.armsAll])
  (show(WTm.eq .res (.lit (.bool true))).value [] { args:=args,res:=some (.bool true),after:=args }=some (.bool (true==true)) from w_eq_bool (w_res rfl) w_lit) rfl
theorem Vt {l:OpenLaw}{d:DefRec}
  (hn:l.most=some n) (yP:d.params.defaults = [])
  (call:∀ (w:World) (cM br:Shared) (mg mb:Str->Option Value) (fa:Addr) (o:Obj) (pm cd doc:Value) (a:Addr) (vs:List Value) (ns:List Int),
   Ground q loose [] XP w cM mg mb br.heap->YP w br.heap ->
   br.heap.get? fa=some o->o.data = .func (docDef d.name d.params d.body d.scope pm cd doc)->br.heap.CodeRec cd d.name->mg d.name=some (.ref fa) ->
   br.heap.get? a=some { cls:= .type "list",data:= .seq vs.toArray }->IntsAre vs ns->ns.length<=n->br.gens = #[] ->
   codeAny (model l.prog w) callerA (.call (.ref fa) ⟨[.ref a],[]⟩) (fun r s'=>r = .ok (.ret (.bool true))/\OldK br.heap s'.heap/\s'.os=br.os/\AllBare s'.gens) br) :
  WalkO q loose XP YP l.row.toRowW d [] (fun f vs=>PySem.call f vs):=by
 intro w cM br mg mb G Y fa o pm cd doc dV kV ho hd gQ hD tX hg args vals as BC yt wA qh hlo;obtain rfl:dV = .none:=Dflts.none hD yP;obtain rfl:kV = .none:=Dflts.noKw hD;obtain⟨a,vs,ns,rfl,rfl,Gn,hints,hlen⟩:=Wu hn BC qh;refine enter_call (sf (call w cM br mg mb fa o pm cd doc a vs ns G Y ho (fd_plain hd) gQ tX Gn hints hlen hg) fun r s' hq=>?_);obtain⟨rfl,h2,h3,h4⟩:=hq;exact⟨.inl ⟨.bool true,.bool true,[],rfl,fun _=>rfl,.bool true,Wv l _,fun _=>⟨List.Pairwise.nil,fun _ hm=>(nomatch hm)⟩⟩,h2,h3,h4⟩
end Qp
namespace L2
open PySem PySem.Spec PyProof.Rows
theorem L6:∀ {vs:List Value}{ns:List Int},IntsAre vs ns->Vals (ns.map V.int) vs
 |_,_,.nil=>.nil
 |_,_,.cons n t h=>.cons ⟨t,rfl⟩ (L6 h)
def Gp (H:Hp):Prop:= ∀b,H b=none \/ ∃o xs,H b=some (.cB o (.lst xs))
theorem Xm {mb:Str->Option Value}{CX:lZ}{k:Nat}{fa:Addr}{br:Shared}{vs:List Value}
  (KX:K.In br.heap) (oC:br.heap.Ns mainGlobals mg) (hb:br.heap.Ns builtinsNs mb) (hbb:∀x:Str,x ≠ "__name__" -> mb x=bootBuiltins x) (O2:br.heap.NoLimit) (hg:br.gens = #[])
  (ha:br.heap.get? a=some { cls:= .type "list",data:= .seq vs.toArray }) (hi:IntsAre vs ns) (hl:ns.length<=sizeLine) (hr:a7 k callerA)
  (F:∀base:Heap,K.In base->base.Ns mainGlobals mg->aI P w K mg base CX k fa fd [x] sp) (aai:∀ (s:Shared) (u:Value),BindsTo s fd ⟨[u],[]⟩ [(x,u)])
  (lh:∀H:Hp,Gp H->aj K H a (ns.map V.int)->sp [.ref a] H (fun v _=>v = .bl true) fun _ _ _=>False)
  (HE:∀H e s',CX [] H br (fun _ _ _=>False) e s'->False) :
  codeAny (model P w) callerA (.call (.ref fa) ⟨[.ref a],[]⟩) (fun r s'=>r = .ok (.ret (.bool true))/\OldK br.heap s'.heap/\s'.os=br.os/\AllBare s'.gens) br:=by
 have rv:=L6 hi;have abO:=hi.length;have core:∀H:Hp,Gp H->aj K H a (ns.map V.int)->cW P w H br.heap->(∀b,H b≠none->b=a)->(H a≠none->K.lookup a=none) ->
   codeAny (model P w) callerA (.call (.ref fa) ⟨[.ref a],[]⟩) (fun r s'=>r = .ok (.ret (.bool true))/\OldK br.heap s'.heap/\s'.os=br.os/\AllBare s'.gens) br:=by
  intro H hO hS ar hA hK;have Nh:∀ {b:Addr}{o:Obj},br.heap.get? b=some o->H b=none->(pW br.heap H).get? b=some o:=fun e n=>Xf e n;have yN:∀ {b:Addr}{o:Obj}{es:Array DictEntry}{ep:Nat},br.heap.get? b=some o->o.data = .dict es ep->H b=none:=fun {b o es ep} e d=>by
   cases q:H b with
   |none=>rfl
   |some u =>
    have e':b=a:=hA b (by rw[q];simp)
    subst e';rw[ha]at e;cases e;have d':Data.seq vs.toArray _=Data.dict es ep:=d;cases d'
  have BZ:∀ {b:Addr}{m:Str->Option Value},br.heap.Ns b m->(pW br.heap H).Ns b m:=fun {b m} ⟨o,es,ep,e,d,r⟩=>⟨o,es,ep,Nh e (yN e d),d,r⟩;have Qq:K.In (pW br.heap H):=fun b o e=>Nh (KX b o e) (by
   cases q:H b with
   |none=>rfl
   |some u =>
    have e':b=a:=hA b (by rw[q];simp)
    subst e';rw[hK (by rw[q];simp)]at e;cases e)
  have hM:Mod K mg (pW br.heap H):=⟨Qq,BZ oC,⟨mb,BZ hb,hbb⟩,let ⟨mc,h1,h2⟩:=O2;⟨mc,BZ h1,h2⟩⟩;have e0:pY P w K mg (pW br.heap H) callerA [] br H:=⟨rfl,hM,fun b o e=>Yd e,Nat.le_of_eq (Wo _ _),trivial,fun b hb=>absurd (show b∈([]:List Addr) from hb) (by simp),ar,.of_eq hg⟩
  refine sf ((F _ Qq (BZ oC)).run callerA [] br H ⟨[.ref a],[]⟩ [.ref a] [.ref a] _ _ hr e0 (aai br (.ref a)) (.cons rfl .nil) (lh H hO hS)) fun r s' h=>?_;cases r with
  |error e=>exact(HE H e s' h).elim
  |ok fl =>
   cases fl with
   |next=>exact False.elim h
   |brk=>exact False.elim h
   |cont=>exact False.elim h
   |ret u =>
    obtain⟨v,H',os,bare,un,abP,r',q⟩:=h;have q':v = .bl true:=q;subst q';obtain rfl:u=Value.bool true:=r';refine⟨rfl,OldK.of_keep fun b o e=>?_,os,bare⟩;cases q:H b with
    |none=>exact un.keep b o e q (by intro z;exact absurd (show b∈([]:List Addr) from z) (by simp)) (by simp)
    |some u =>
     rcases hO b with z|⟨ob,xs,z⟩
     ·rw[q]at z;cases z
     ·have z2:=un.jX b ob _ z
      obtain⟨e1,_⟩:=ar b _ z;obtain⟨e2,_⟩:=abP b _ z2;rw[e]at e1;cases e1;exact e2
 cases hk:K.lookup a with
 |some o =>
  have e:=KX a o hk;rw[ha]at e;cases e
  refine core (fun _=>none) (fun _=>.inl rfl) (.inr ⟨_,vs.toArray,_,hk,rfl,rfl,rfl,by rw[cS,abO];exact hl,by simpa using rv⟩) (fun b u z=>by have z':(none:Option HO)=some u:=z;cases z') (fun b z=>absurd rfl z) fun z=>absurd rfl z
 |none =>
  refine core (fun b=>if b=a then some (.cB { cls:= .type "list",data:= .seq vs.toArray } (.lst (ns.map V.int))) else none) (fun b=>?_) (.inl (.inr ⟨{ cls:= .type "list",data:= .seq vs.toArray },aB rfl⟩)) (fun b u z=>?_) (fun b z=>?_) fun _=>hk
  ·by_cases hb:b=a
   ·exact .inr ⟨_,_,aB hb⟩
   ·exact .inl (au hb)
  ·by_cases hb:b=a
   ·have z':=(aB hb).symm.trans z
    cases z'
    subst hb;exact⟨ha,by rw[aA];exact hl,vs,_,rv,ha⟩
   ·have z':=(au hb).symm.trans z
    cases z'
  ·by_cases hb:b=a
   ·exact hb
   ·exact absurd (au hb) z
theorem Yn {l:PySem.W.OpenLaw}{k:Nat}{d:DefRec}{K:Params->PySem.W.Frag}{CX:World->lZ}{sp:World->Sp}
  (hn:l.most=some n) (B1:n<=sizeLine) (yP:d.params.defaults = []) (hr:a7 k callerA)
  (hY:∀ (w:World) (h:Heap),YP w h->(K w.params).In h)
  (F:∀ (w:World) (mg:Str->Option Value) (fa:Addr) (h:Heap),(K w.params).In h->h.Ns mainGlobals mg->mg d.name=some (.ref fa) ->
   ∃fd:FuncData,(∀ (s:Shared) (u:Value),BindsTo s fd ⟨[u],[]⟩ [(x,u)]) /\
    ∀base:Heap,(K w.params).In base->base.Ns mainGlobals mg->aI l.prog w (K w.params) mg base (CX w) k fa fd [x] (sp w))
  (lh:∀ (w:World) (H:Hp) (a:Addr) (ns:List Int),ns.length<=n->Gp H->aj (K w.params) H a (ns.map V.int)->sp w [.ref a] H (fun v _=>v = .bl true) fun _ _ _=>False)
  (HE:∀ (w:World) (H:Hp) (s:Shared) (e:Value) (s':Shared),CX w [] H s (fun _ _ _=>False) e s'->False) :
  PySem.W.WalkO q loose XP YP l.row.toRowW d [] (fun f vs=>PySem.call f vs):=by
 refine Qp.Vt hn yP fun w cM br mg mb fa o pm cd doc a vs ns G Y ho hd gQ tX Gn hints hlen hg=>?_;have KX:=hY w _ Y;obtain⟨fd,hb,hF⟩:=F w mg fa _ KX G.T.g tX;exact Xm KX G.T.g G.T.b G.T.builtins G.T.nolimit hg Gn hints (dG hlen B1) hr hF hb (fun H hO hS=>lh w H a ns hlen hO hS) fun H e s'=>HE w H br e s'
def inClass (s:Stmt) (j:Nat):Stmt:=match s with
 |.ClassDef _ _ _ body _ _ _ _ _ _ _=>body.getD j (.Pass ⟨0,0,0,0⟩)
 |_=>.Pass ⟨0,0,0,0⟩
def kr (s:Stmt):Arguments:=match s with
 |.FunctionDef _ a _ _ _ _ _ _ _ _=>a
 |_=>{ posonlyargs:= [],args:= [],vararg:=none,kwonlyargs:= [],kw_defaults:= [],kwarg:=none,defaults:= [] }
def b9 (s:Stmt):List Stmt:=match s with
 |.FunctionDef _ _ b _ _ _ _ _ _ _=>b
 |_=>[]
def aJ (s:Stmt):Scope:=match s with
 |.FunctionDef _ _ _ _ _ _ sc _ _ _=>sc
 |_=>{ kind:= .function,names:= [],isGenerator:=false,isCoroutine:=false }
abbrev aQ:lZ:=fun _ _ _ _ _ _=>False
abbrev E0:XK:=fun _ _ _=>False
theorem a9:Passes aQ X E0:=fun _ _ _ _ _ _ _ h=>h.elim
structure aW (K:PySem.W.Frag) (x qual:Str) (st:Stmt) (f:Addr) (fd:FuncData):Prop where
 ex:∃ (oc:Value) (od:Option Addr) (kV doc pm:Value) (an:Option Addr) (cdv ct:Value) (oq:Array (Option Value)),
  fd=PySem.W.fnOf x qual (kr st) (b9 st) (aJ st) .none kV doc pm an cdv ct/\K.lookup f=some ⟨oc,od,.func fd,oq⟩/\PySem.W.codeIn K cdv qual=true
 kp:PySem.W.keepIn K (.ref f)=true
theorem aW.ok {st:Stmt}{k:Nat} (F:aW K x qual st f fd) (S:b6 N ps (aJ st)) (len:∀vs H Q E,sp vs H Q E->vs.length=ps.length)
  (pS:∀ (cdv:Value) (A:Around) (outer:List Env) (s:Shared) (H:Hp) (vs:List V) (Q:VK) (E:XK),a7 k (A.deeper (envOfC qual (aJ st) s.heap.objs.size f cdv))->sp vs H Q E ->
   ∃t,gA (jY aQ P w K mg base N qual (aJ st) f cdv A outer s H E).BR (b9 st) t/\t { nx:=fun _ H'=>Q .aF H',rt:=Q } (start N vs) H):aI P w K mg base aQ (k+1) f fd ps sp:=by
 obtain⟨oc,od,kV,doc,pm,an,cdv,ct,oq,rfl,lk,gQ⟩:=F.ex;refine Om lk gQ S len fun A outer s H vs Q E hr lh=>?_;obtain⟨t,h,q⟩:=pS cdv A outer s H vs Q E hr lh;exact⟨t,h.BR,q⟩
theorem aW.binds {st:Stmt} (F:aW K x qual st f fd)
  (h:∀ (kV doc pm:Value) (an:Option Addr) (cdv ct:Value) (us:List Value),us.length=ps.length->bindArgs (PySem.W.fnOf x qual (kr st) (b9 st) (aJ st) .none kV doc pm an cdv ct) ⟨us,[]⟩=pure (ps.zip us)):Binds K fd ps []:=by
 obtain⟨oc,od,kV,doc,pm,an,cdv,ct,oq,rfl,lk,gQ⟩:=F.ex;exact .all (h kV doc pm an cdv ct)
theorem Fp {st:Stmt}{kV:Value} (l:K.lookup f=some ⟨oc,od,.func (PySem.W.fnOf x qual (kr st) (b9 st) (aJ st) .none kV doc pm an cdv ct),oq⟩)
  (c:PySem.W.codeIn K cdv qual=true) (k:PySem.W.keepIn K (.ref f)=true):aW K x qual st f (PySem.W.fnOf x qual (kr st) (b9 st) (aJ st) .none kV doc pm an cdv ct):=⟨⟨oc,od,kV,doc,pm,an,cdv,ct,oq,rfl,l,c⟩,k⟩
theorem pv (i:Nat) (hN:X.N[i]? = some x:=by rfl) (hv:Hv X.env.scope x:=by first|exact Or.inl rfl|exact Or.inr (Or.inl rfl)|exact Or.inr (Or.inr rfl)) (hd:(x==("__debug__" : Str))=false:=by decide)
  (gQ:(x==("__classdict__" : Str))=false:=by decide):PE X (.Name x pos) (lV i):=Zg hN hv hd gQ
theorem fq {c A B:Prop} [Decidable c] (h1:c->A) (h2 : ¬ c->B):if c then A else B:=by
 by_cases h:c
 ·rw[aB h]
  exact h1 h
 ·rw[au h]
  exact h2 h
def aq (H H':Hp):Prop:= ∀b o,H b=some o->H' b=some o
theorem aq.refl (H:Hp):aq H H:=fun _ _ h=>h
theorem aq.trans (a:aq H H1) (b:aq H1 H2):aq H H2:=fun c o h=>b c o (a c o h)
theorem aq.free (e:aq H H') (h:H' l=Option.none):H l=Option.none:=by
 cases q:H l with
 |none=>rfl
 |some o =>
  rw[e l o q]at h;cases h
def iE (cells:List (Str×Addr)):List (Str×NameKind)->List (Str×Addr)->List (Str×Addr)
 |[],acc=>acc
 |(n,k)::r,acc=>if k == .free then iE cells r ((n,(cells.lookup n).getD 0)::acc) else iE cells r acc
theorem DG (h:∀n,(n,NameKind.free)∈scope.names -> ∃c,env.cells.lookup n=some c) :
  closureFor scope env=pure (iE env.cells scope.names []):=by
 have key:∀ (names:List (Str×NameKind)) (acc:List (Str×Addr)),(∀n,(n,NameKind.free)∈names -> ∃c,env.cells.lookup n=some c) ->
   (forIn (m:=Sem) names acc fun x r=>match x with|(name,kind)=>if (kind==NameKind.free)=true then (do let a <- cellOf env name;pure (ForInStep.yield ((name,a)::r))) else pure (ForInStep.yield r))=pure (iE env.cells names acc):=by
  intro names
  induction names with
  |nil=>intro acc _;rfl
  |cons x r ih =>
   intro acc hx;obtain⟨n,k⟩:=x;rw[Kr];unfold iE
   by_cases hk:k = .free
   ·subst hk
    obtain⟨c,hc⟩:=hx n bj;simp only[beq_self_eq_true,nN];have e:cellOf env n=pure c:=by unfold cellOf;rw[hc]
    rw[e,hc];exact ih _ fun m hm=>hx m (cp _ hm)
   ·have hb:(k==NameKind.free)=false:=by simpa using hk
    simp only[hb,Ai,si];exact ih _ fun m hm=>hx m (cp _ hm)
 unfold closureFor;have:=key scope.names [] h;show((forIn (m:=Sem) scope.names [] fun x r=>match x with|(name,kind)=>if (kind==NameKind.free)=true then (do let a <- cellOf env name;pure (ForInStep.yield ((name,a)::r))) else pure (ForInStep.yield r)) >>= fun cs=>pure cs)=_;rw[this]
 rfl
theorem uE:∀ (names:List (Str×NameKind)) (n:Nat) (acc:List (Str×Addr)),cellsFrom n names acc=cellsFrom n names []++acc
 |[],_,_=>rfl
 |(name,kind)::r,n,acc=>by
  unfold cellsFrom;split
  ·rw[uE r (n+1) ((name,n)::acc),uE r (n+1) [(name,n)],ux];rfl
  ·exact uE r n acc
theorem AD {cells:List (Str×Addr)}:∀ (names:List (Str×NameKind)) (acc:List (Str×Addr)) (x:Str) (c:Addr),(iE cells names acc).lookup x=some c ->
  (acc.lookup x=some c)\/((x,NameKind.free)∈names/\c=(cells.lookup x).getD 0)
 |[],acc,x,c,h=>.inl h
 |(n,k)::r,acc,x,c,h=>by
  unfold iE at h;split at h
  ·rename_i hk
   have yQ:k = .free:=by simpa using hk
   subst yQ;rcases AD r _ x c h with z|⟨z,e⟩
   ·rw[jn]at z
    cases hb:x==n with
    |true=>rw[hb]at z;cases z;rw[eW.mp hb];exact .inr ⟨bj,rfl⟩
    |false=>rw[hb]at z;exact .inl z
   ·exact .inr ⟨cp _ z,e⟩
  ·rcases AD r _ x c h with z|⟨z,e⟩
   ·exact .inl z
   ·exact .inr ⟨cp _ z,e⟩
theorem Ed {cells:List (Str×Addr)}:∀ (names:List (Str×NameKind)) (acc:List (Str×Addr)) (x:Str),(∃c,acc.lookup x=some c) -> ∃c,(iE cells names acc).lookup x=some c
 |[],acc,x,h=>h
 |(n,k)::r,acc,x,h=>by
  unfold iE;split
  ·refine Ed r _ x ?_
   obtain⟨c,h⟩:=h;rw[jn];cases hb:x==n with
   |true=>exact⟨_,rfl⟩
   |false=>exact⟨c,h⟩
  ·exact Ed r _ x h
theorem AJ {cells:List (Str×Addr)}:∀ (names:List (Str×NameKind)) (acc:List (Str×Addr)) (x:Str),(x,NameKind.free)∈names -> ∃c,(iE cells names acc).lookup x=some c
 |[],acc,x,h=>by simp at h
 |(n,k)::r,acc,x,h=>by
  unfold iE;rcases aY.mp h with e|h
  ·cases e
   simp only[beq_self_eq_true,nN];exact Ed r _ _ ⟨(cells.lookup n).getD 0,by rw[jn];simp⟩
  ·split
   ·exact AJ r _ x h
   ·exact AJ r _ x h
theorem Az:∀ (names:List (Str×NameKind)) (n:Nat) (acc:List (Str×Addr)) (x:Str) (c:Addr),(x,c)∈cellsFrom n names acc->(x,c)∈acc\/(x,NameKind.cell)∈names
 |[],_,_,_,_,h=>.inl h
 |(name,kind)::r,n,acc,x,c,h=>by
  unfold cellsFrom at h;split at h
  ·rename_i hk
   have yQ:kind = .cell:=by simpa using hk
   subst yQ;rcases Az r _ _ x c h with z|z
   ·rcases aY.mp z with e|z
    ·cases e;exact .inr bj
    ·exact .inl z
   ·exact .inr (cp _ z)
  ·rcases Az r _ _ x c h with z|z
   ·exact .inl z
   ·exact .inr (cp _ z)
structure bX (N:List Str) (wB:Scope) (N':List Str) (cA:List (Option Nat)) (sc:Scope):Prop where
 kind:sc.kind = .function
 keys:(sc.names.map (·.1)).Nodup
 nd:N'.Nodup
 len:cA.length=N'.length
 fv:∀ (j i:Nat),cA[j]? = some (some i) -> ∃x,N[i]? = some x/\N'[j]? = some x/\sc.names.lookup x=some .free
 free:∀p∈sc.names,p.2 = .free->wB.names.lookup p.1=some .cell\/wB.names.lookup p.1=some .free
theorem uF {α:Type}:∀ {l:List (Str×α)},(l.map (·.1)).Nodup -> ∀ {x:Str}{k:α},(x,k)∈l->l.lookup x=some k
 |(n,v)::r,hn,x,k,h=>by
  obtain⟨h1,h2⟩:=gb.mp hn;rw[jn];rcases aY.mp h with e|hm
  ·cases e;simp
  ·have:(x==n)=false:=by
    rw[oV];intro e;exact h1 (aU.mpr ⟨_,hm,e⟩)
   rw[this];exact uF h2 hm
def Ey (scope:Scope) (L:Addr) (env:Env):Env:=
 { scope:=relabel scope env,locals:=L,globals:=env.globals,cells:=cellsFrom (L+1) scope.names (iE env.cells scope.names []),qual:=env.qual,func:=none,code:=env.code,frame:=env.frame,builtins:=env.builtins }
theorem Lp {M:Model}{E:Value->Shared->Prop}{globals:Addr}{cl:List (Str×Addr)}{Q:Env->Shared->Prop}
  (hQ:∀h',h'.Ns s.heap.objs.size (fun _=>none)->(∀b o,s.heap.get? b=some o->h'.get? b=some o)->(∀x c,(x,c)∈cellsFrom (s.heap.objs.size+1) scope.names []->h'.IsCell c none/\s.heap.objs.size < c) ->
   ((cellsFrom (s.heap.objs.size+1) scope.names []).Pairwise fun x y=>x.2≠y.2) ->
   Q { scope:=scope,locals:=s.heap.objs.size,globals:=globals,cells:=cellsFrom (s.heap.objs.size+1) scope.names cl,qual:=qual,func:=none,code:=env.code,frame:=env.frame,builtins:=env.builtins } { s with heap:=h' }) :
  wpAny M A (newFunctionEnv scope globals cl [] qual none .none (some env)) Q E s:=by
 simp only[newFunctionEnv,Option.isSome_some,nN];refine ae (wpAny_alloc ?_);refine ae (wpAny_layCells _ (fun name kind cells=>by cases hkc:kind==NameKind.cell <;> simp[hkc]) _ _ _ _ ?_)
 have ok:=cellsFrom_ok scope.names (s.heap.push { cls:= .type "dict",data:= .dict #[] }) (s.heap.objs.size+1) [] ⟨fun _ _ hm=>(nomatch hm),List.Pairwise.nil⟩ (by rw[lH];exact aR _)
 rw[lH]at ok;rw[show({ s with heap:=s.heap.push { cls:= .type "dict",data:= .dict #[] } }:Shared).heap.objs.size=s.heap.objs.size+1 from lH ..];rw[Ks];refine ae (ak (ak ?_));exact hQ _ ((Heap.Ns.new s.heap (.type "dict")).keeps (pushCells_keeps _ _)) (fun b o e=>pushCells_keeps _ _ b o (aT _ e)) (fun x c hm=>⟨(ok.empty x c hm).1,(ok.empty x c hm).2⟩) ok.apart
def dh (X:Cx) (N':List Str) (scope:Scope) (s2:Shared) (H2:Hp) (fp:List Addr):Cx:=
 { X with N:=N',cM:=s2,jC:=H2,env:=Ey scope s2.heap.objs.size X.env,outer:=X.stack,stack:=X.stack,ex:=fp,fn:=fun x=>scope.names.lookup x==some .cell,pn:= [],xe:=fun _ _=>False }
theorem DF {env:Env}:∀ {names:List (Str×NameKind)}{x:Str}{k:NameKind},
  (names.map fun(n,k)=>if (k==NameKind.free && env.scope.kind == .function && env.kindOf n==some .cell) then (n,NameKind.cell) else (n,k)).lookup x=some k ->
  ∃k0,names.lookup x=some k0/\(k=k0\/(k0 = .free/\k = .cell))
 |[],_,_,h=>by simp at h
 |(n,k0)::r,x,k,h=>by
  have ih:=@DF env r x k;have h':List.lookup x ((if (k0==NameKind.free && env.scope.kind == .function && env.kindOf n==some .cell)=true then (n,NameKind.cell) else (n,k0))::_)=some k:=h;rw[jn]
  by_cases hc:(k0==NameKind.free && env.scope.kind == .function && env.kindOf n==some .cell)=true
  ·rw[aB hc,jn]at h'
   cases hx:x==n with
   |true =>
    rw[hx]at h';cases h';have:k0 = .free:=by
     have z:=hc;rw[o6,o6]at z
     simpa using z.1.1
    exact⟨k0,rfl,.inr ⟨this,rfl⟩⟩
   |false=>rw[hx]at h';exact ih h'
  ·rw[au hc,jn]at h'
   cases hx:x==n with
   |true=>rw[hx]at h';cases h';exact⟨k0,rfl,.inl rfl⟩
   |false=>rw[hx]at h';exact ih h'
theorem DD {env:Env}:∀ {names:List (Str×NameKind)}{x:Str},names.lookup x=some .free ->
  (names.map fun(n,k)=>if (k==NameKind.free && env.scope.kind == .function && env.kindOf n==some .cell) then (n,NameKind.cell) else (n,k)).lookup x=some .cell \/
  (names.map fun(n,k)=>if (k==NameKind.free && env.scope.kind == .function && env.kindOf n==some .cell) then (n,NameKind.cell) else (n,k)).lookup x=some .free
 |[],_,h=>by simp at h
 |(n,k0)::r,x,h=>by
  have ih:=@DD env r x;show List.lookup x ((if (k0==NameKind.free && env.scope.kind == .function && env.kindOf n==some .cell)=true then (n,NameKind.cell) else (n,k0))::_)=_\/List.lookup x ((if (k0==NameKind.free && env.scope.kind == .function && env.kindOf n==some .cell)=true then (n,NameKind.cell) else (n,k0))::_)=_;rw[jn]at h;cases hx:x==n with
  |true =>
   rw[hx]at h;cases h
   by_cases hc:(NameKind.free==NameKind.free && env.scope.kind == .function && env.kindOf n==some .cell)=true
   ·rw[aB hc,jn,hx];exact .inl rfl
   ·rw[au hc,jn,hx];exact .inr rfl
  |false =>
   rw[hx]at h
   by_cases hc:(k0==NameKind.free && env.scope.kind == .function && env.kindOf n==some .cell)=true
   ·rw[aB hc,jn,hx];exact ih h
   ·rw[au hc,jn,hx];exact ih h
def pick (cA:List (Option Nat)) (σ:St):St:=cA.map fun o=>o.bind fun i=>(σ[i]?).join
theorem AK (I:Inv X pins σ H s2) (S:bX X.N X.env.scope N' cA scope) (hx:(x,NameKind.free)∈scope.names):∃c,X.env.cells.lookup x=some c:=
 I.ok.has x (S.free _ hx rfl)
theorem VQ (I:Inv X pins σ H s2) (S:bX X.N X.env.scope N' cA scope) {c:Addr} (h:(cellsFrom n scope.names (iE X.env.cells scope.names [])).lookup x=some c) :
  ((x,c)∈cellsFrom n scope.names []/\(x,NameKind.cell)∈scope.names)\/((x,NameKind.free)∈scope.names/\X.env.cells.lookup x=some c):=by
 rw[uE,TX]at h;cases e:(cellsFrom n scope.names []).lookup x with
 |some d =>
  rw[e]at h;have z:d=c:=by simpa using h
  subst z;have m:=qG e;rcases Az _ _ _ _ _ m with z|z
  ·simp at z
  ·exact .inl ⟨m,z⟩
 |none =>
  rw[e]at h;have h':(iE X.env.cells scope.names []).lookup x=some c:=by simpa using h
  rcases AD _ _ _ _ h' with z|⟨z,e2⟩
  ·simp at z
  ·obtain⟨c0,h0⟩:=AK I S z
   rw[h0]at e2;exact .inr ⟨z,by rw[h0,e2];rfl⟩
theorem MD (I:Inv X pins σ H s2) (S:bX X.N X.env.scope N' cA scope) (yR:∀b∈fp,gg X pins H b) (hfo:∀b∈fp,∃o,s2.heap.get? b=some o)
  (hn:h'.Ns s2.heap.objs.size (fun _=>none)) (hk:∀b o,s2.heap.get? b=some o->h'.get? b=some o)
  (hc:∀x c,(x,c)∈cellsFrom (s2.heap.objs.size+1) scope.names []->h'.IsCell c none/\s2.heap.objs.size < c) (hp:(cellsFrom (s2.heap.objs.size+1) scope.names []).Pairwise fun x y=>x.2≠y.2) :
  Inv (dh X N' scope s2 H fp) [] (pick cA σ) H { s2 with heap:=h' }:=by
 have old:∀ {x:Str}{c:Addr},X.env.cells.lookup x=some c->c < s2.heap.objs.size:=fun {x c} e=>let ⟨_,q⟩:=I.cell x c e;q.lt;have cc:∀ {x:Str}{c:Addr},(dh X N' scope s2 H fp).env.cells.lookup x=some c->((x,c)∈cellsFrom (s2.heap.objs.size+1) scope.names []/\(x,NameKind.cell)∈scope.names)\/((x,NameKind.free)∈scope.names/\X.env.cells.lookup x=some c):=
  fun {x c} e=>VQ I S e
 have isc:∀ {x:Str}{c:Addr},(dh X N' scope s2 H fp).env.cells.lookup x=some c -> ∃v,h'.IsCell c v:=fun {x c} e=>by
  rcases cc e with⟨m,_⟩|⟨_,e0⟩
  ·exact⟨_,(hc x c m).1⟩
  ·obtain⟨v,q⟩:=I.cell x c e0
   exact⟨v,q.keeps hk⟩
 have j3:∀b∈fp,b < s2.heap.objs.size:=fun b hb=>let ⟨_,e⟩:=hfo b hb;aV e;refine⟨⟨I.ok.mod,S.kind,I.ok.glob,I.ok.blt,aR _,fun x y c e1 e2=>?_,fun x hx=>?_,fun x c hx e=>?_,I.ok.hd,I.ok.frames,.inl rfl,fun b hb=>⟨bp (j3 b hb),fun x c e z=>?_⟩,I.bs,?_,fun b o e hb=>?_,fun b hb HF=>?_,I.stack,I.Bb⟩,
  rfl,I.bare,Un.kept hk,⟨_,hn,fun j x v e1 e2 e3=>?_⟩,fun x c e=>isc e,I.ar.fresh (aR _),fun x c e=>?_,fun p hp=>absurd (show p∈([]:List (Addr×Obj)) from hp) (by simp),I.ar.kept hk,?_⟩
 ·rcases cc e1 with⟨m1,_⟩|⟨_,o1⟩ <;> rcases cc e2 with⟨m2,_⟩|⟨_,o2⟩
  ·exact name_of_addr hp m1 m2
  ·exact absurd (xi (hc _ _ m1).2 (old o2)) (r9 _)
  ·exact absurd (xi (hc _ _ m2).2 (old o1)) (r9 _)
  ·exact I.ok.inj x y c o1 o2
 ·have hk0:∃k0,scope.names.lookup x=some k0/\(k0 = .cell\/k0 = .free):=by
   rcases hx with hx|hx
   ·obtain⟨k0,e,z⟩:=DF (env:=X.env) hx
    refine⟨k0,e,?_⟩;rcases z with z|z
    ·exact .inl z.symm
    ·exact .inr z.1
   ·obtain⟨k0,e,z⟩:=DF (env:=X.env) hx
    refine⟨k0,e,?_⟩;rcases z with z|z
    ·exact .inr z.symm
    ·exact .inr z.1
  obtain⟨k0,e,z⟩:=hk0;show ∃c,(cellsFrom (s2.heap.objs.size+1) scope.names (iE X.env.cells scope.names [])).lookup x=some c;rw[uE,TX];rcases z with rfl|rfl
  ·obtain⟨c,qe⟩:=Ew (n:=s2.heap.objs.size+1) e
   exact⟨c,by rw[qe];rfl⟩
  ·cases q:(cellsFrom (s2.heap.objs.size+1) scope.names []).lookup x with
   |some d=>exact⟨d,rfl⟩
   |none =>
    obtain⟨c,qe⟩:=AJ (cells:=X.env.cells) scope.names [] x (qG e);exact⟨c,by rw[qe];rfl⟩
 ·have gB:scope.names.lookup x=some .cell:=by simpa [dh] using hx
  rcases cc e with⟨m,_⟩|⟨m,_⟩
  ·exact w9 (hc _ _ m).2
  ·rw[uF S.keys m]at gB;cases gB
 ·rcases cc e with⟨m,_⟩|⟨_,o1⟩
  ·have:=j3 b hb
   rw[<-z]at this;exact absurd (xi (hc _ _ m).2 this) (r9 _)
  ·exact(yR b hb).2.2.2.2.1 x c o1 z
 ·exact dG I.ok.lb I.sz
 ·rcases (yR b hb).2.2.2.1 with z|z
  ·exact I.ok.pX b o e z
  ·exact absurd (gV (aV (I.ok.bs b o e).1) z) (r9 _)
 ·have:=I.xM b HF
  rcases aY.mp this with z|z
  ·exact(yR b hb).2.1 z
  ·exact(yR b hb).2.2.1 z
 ·
  have yS:(cA[j]?).bind (fun o=>some (o.bind fun i=>(σ[i]?).join))=some (some v):=by
   have yT:(cA.map fun o=>o.bind fun i=>(σ[i]?).join)[j]? = some (some v):=e2;rw[eX]at yT;cases q:cA[j]? with
   |none=>rw[q]at yT;cases yT
   |some o=>rw[q]at yT;exact yT
  cases q:cA[j]? with
  |none=>rw[q]at yS;cases yS
  |some o =>
   rw[q]at yS;cases o with
   |none=>simp at yS
   |some i =>
    have wC:(σ[i]?).join=some v:=by simpa using yS
    have e4:σ[i]? = some (some v):=by
     cases q2:σ[i]? with
     |none=>rw[q2]at wC;cases wC
     |some z=>rw[q2]at wC;rw[show z=some v from wC]
    obtain⟨y,l0,yU,yV⟩:=S.fv j i q;have exy:x=y:=by
     have Qr:N'[j]? = some x:=e1;rw[yU]at Qr;exact(f' Qr).symm
    subst exy;obtain⟨m,hm,hl⟩:=I.loc;have hf:=S.free _ (qG yV) rfl;obtain⟨u,r,lk⟩:=hl i x v l0 e4 (by rcases hf with z|z;exact .inr (.inl z);exact .inr (.inr z))
    refine⟨u,r,.inr ⟨DD yV,?_⟩⟩;rcases lk with⟨k,_⟩|⟨_,c,ec,ic⟩
    ·have k':X.env.scope.names.lookup x=some .local:=k
     rcases hf with z|z <;> (rw[z]at k';cases k')
    ·refine⟨c,?_,ic.keeps hk⟩
     show(cellsFrom (s2.heap.objs.size+1) scope.names (iE X.env.cells scope.names [])).lookup x=some c;rw[uE,TX];cases q3:(cellsFrom (s2.heap.objs.size+1) scope.names []).lookup x with
     |some d =>
      rcases Az _ _ _ _ _ (qG q3) with z|z
      ·simp at z
      ·rw[uF S.keys z]at yV;cases yV
     |none =>
      obtain⟨c',qe⟩:=AJ (cells:=X.env.cells) scope.names [] x (qG yV);rcases AD _ _ _ _ qe with z|⟨_,e5⟩
      ·simp at z
      ·rw[ec]at e5
       rw[qe,e5];rfl
 ·rcases cc e with⟨m,_⟩|⟨_,o1⟩
  ·exact I.ar.fresh (w9 (hc _ _ m).2)
  ·exact I.iD x c o1
 ·show(cA.map _).length=N'.length
  rw[aA,S.len]
noncomputable def tq (X:Cx) (ifs:List Expr) (t:TT):Prop:=
 ∀ (pins:List (Addr×Obj)) (s:Shared) (σ:St) (H:Hp) (Q:Bool->Hp->Prop),Inv X pins σ H s->t σ H Q ->
  wpAny (model X.prog X.w) X.A (forIn ifs true fun c r=>if r=true then do let ok <- isTrue c X.env (eval c X.env);pure (ForInStep.yield ok) else pure (ForInStep.yield r)) (TP X pins σ Q) X.xe s
def yf:TT:=fun _ H Q=>Q true H
theorem eP:tq X [] yf:=fun _ _ _ H _ I h=>wpAny_tests_nil ⟨H,I,h⟩
theorem my {c:Expr}{t:TT} (h:PT X c t):tq X [c] t:=fun pins s σ H Q I hw=>wpAny_tests_one (h pins s σ H Q I hw)
theorem K9 {target:Expr}{it acc:Value} (I:Nat->Shared->Prop)
  (turn:∀n s,I n s->wpAny (model prog w) A (pyNext it) (fun r s1=>match r with
   |none=>R (.ok .next) s1
   |some v=>wpAny (model prog w) A (letOwnedTupleGo target it v) (fun _ s2=>wpAny (model prog w) A (assign target env v) (fun _ s3 =>
     wpAny (model prog w) A (forIn ifs true fun c r=>if r=true then do let ok <- isTrue c env (eval c env);pure (ForInStep.yield ok) else pure (ForInStep.yield r)) (fun ok s4 =>
      if ok=true then wpAny (model prog w) A (eval elt env) (fun x s5 =>
       wpAny (model prog w) A (call (.builtin "list.append") [acc,x]) (fun _ s6=>∃m,m < n/\I m s6) (fun _ _=>False) s5) (fun _ _=>False) s4
      else ∃m,m < n/\I m s4) (fun _ _=>False) s3) (fun _ _=>False) s2) (fun _ _=>False) s1) (fun _ _=>False) s)
  (n:Nat) (h:I n s) :
  codeAny (model prog w) A (.compLoop (.ListComp elt [⟨target,iter,ifs,0⟩] scope pos) 0 it acc env) R s:=by
 refine codeAny_loop rfl I (fun n s hI=>?_) n h;show wpAny _ A ((compTurn (.ListComp elt [⟨target,iter,ifs,0⟩] scope pos) 0 it acc env).onRaise (fun x=>do noteFrame x env;theTreesLotGoes x)) _ _ s;refine wpAny_noted (Kt ?_);rw[compTurn_list];refine ae (qE (ae (aE (turn n s hI) fun r s1 h1=>?_)));cases r with
 |none=>exact ak h1
 |some v =>
  refine ae (aE h1 fun _ s2 h2=>ae (aE h2 fun _ s3 h3=>ae (aE h3 fun ok s4 h4=>?_)));cases ok with
  |false=>exact ak ⟨rfl,h4⟩
  |true=>exact ae (ae (aE h4 fun x s5 h5=>ae (aE h5 fun _ s6 h6=>ak (ak ⟨rfl,h6⟩))))
noncomputable def jz (J:It) (g:TG) (ti:TT) (te:TE) (jf:St) (Q:VK) (p:Addr) (H1:Hp):Prop:=
 ∃W:Nat->Nat->List V->St->Hp->Prop,(∃m,W 0 m [] jf (upd H1 p (.lst []))) /\ ∀i m ys τ H2,W i m ys τ H2->H2 p=some (.lst ys) /\
  ((J.stop i H2/\Q (.ref p) H2)\/(J.go i H2 /\ ∀x H3,J.oB i H2 x H3->g x τ H3 fun cJ H4=>ti cJ H4 fun b H5 =>
   if b=true then te cJ H5 fun y H6=>H6 p=some (.lst ys)/\ys.length < sizeLine /\ ∃m',m' < m/\W (i+1) m' (ys ++ [y]) cJ (upd H6 p (.lst (ys ++ [y])))
   else ∃m',m' < m/\W (i+1) m' ys cJ H5))
def Bu (wi:TI) (cA:List (Option Nat)) (g:TG) (ti:TT) (te:TE):TE:=fun σ H Q=>wi σ H fun J H1=>∀p,H1 p=none->jz J g ti te (pick cA σ) Q p H1
noncomputable def CompEnd (X:Cx) (pins:List (Addr×Obj)) (σ:St) (Q:VK) (acc:Value) (C:Addr) (s':Shared):Prop:=
 ∃ (p:Addr) (H':Hp),acc = .ref p/\Inv X pins σ H' s'/\gg X pins H' C/\(∃m,s'.heap.Ns C m)/\Q (.ref p) H'
theorem L7 {J:It}{tn:Nat->Heap->Prop}{g:TG}{E:Value->Shared->Prop}{RR:Value->Addr->Result->Shared->Prop} (hc:X.calm=true) (S:bX X.N X.env.scope N' cA scope)
  (I2:Inv X pins σ H2 s2) (T:Turn X.prog X.w X.K tg J fp it tn) (st:tn 0 s2.heap) (hf:∀b∈fp,gg X pins H2 b)
  (hb:∀s H fp,PG (dh X N' scope s H fp) tg g/\tq (dh X N' scope s H fp) ifs ti/\PE (dh X N' scope s H fp) elt te)
  (hw:∀p,H2 p=none->jz J g ti te (pick cA σ) Q p H2) (hR:∀acc C s',CompEnd X pins σ Q acc C s'->RR acc C (.ok .next) s') :
  wpAny (model X.prog X.w) X.A (newList []) (fun acc s3=>wpAny (model X.prog X.w) X.A (newFunctionEnv scope X.env.globals (iE X.env.cells scope.names []) [] X.env.qual none .none (some X.env)) (fun yu s4 =>
   codeAny (model X.prog X.w) X.A (.compStart (.ListComp elt [⟨tg,iter,ifs,0⟩] scope pos) 0 (.ref it) acc { yu with scope:=relabel scope X.env }) (RR acc yu.locals) s4) E s3) E s2:=by
 refine jl ?_;have I3:Inv X pins σ (upd H2 s2.heap.objs.size (.lst [])) { s2 with heap:=s2.heap.push { cls:= .type "list",data:= .seq ([]:List Value).toArray } }:=
  I2.Gm (its:= []) (t':=s2.toks) .nil (bG _)
 have hp:=hw s2.heap.objs.size I2.fresh;generalize e3:({ s2 with heap:=s2.heap.push { cls:= .type "list",data:= .seq ([]:List Value).toArray } }:Shared)=s3 at I3 ⊢;generalize eH:upd H2 s2.heap.objs.size (.lst [])=H3 at I3 hp;have j3:∀b∈fp,b < s2.heap.objs.size:=fun b hb=>let ⟨_,e,_⟩:=T.obj _ _ st b hb;aV e;have get3:∀b o,s2.heap.get? b=some o->s3.heap.get? b=some o:=fun b o e=>by rw[<-e3];exact aT _ e
 have rG:tn 0 s3.heap:=T.keep _ _ _ st fun b _ o e=>get3 b o e;have iu:∀b∈fp,gg X pins H3 b:=fun b hb=>⟨by rw[<-eH,ah (bp (j3 b hb))];exact(hf b hb).1,(hf b hb).2⟩
 have HG:∀b∈fp,∃o,s3.heap.get? b=some o:=fun b hb=>let ⟨o,e,_⟩:=T.obj _ _ rG b hb;⟨o,e⟩;refine Lp fun h4 hn hk gT HH=>?_;have I4:Inv (dh X N' scope s3 H3 fp) [] (pick cA σ) H3 { s3 with heap:=h4 }:=MD I3 S iu HG hn hk gT HH;have yW:tn 0 ({ s3 with heap:=h4 }:Shared).heap:=T.keep _ _ _ rG fun b _ o e=>hk b o e;obtain⟨hG,hI,hE⟩:=hb s3 H3 fp;obtain⟨W,⟨m0,w0⟩,turn⟩:=hp;rw[eH]at w0;have mU:∀ {H':Hp},(∀b∈fp,H' b=none) -> ∀b∈fp,gg (dh X N' scope s3 H3 fp) [] H' b:=fun hn b hb =>
  ⟨hn b hb,(I4.ok.ou b hb).1,I4.ok.og b hb,.inl hb,fun x c e=>(I4.ok.ou b hb).2 x c e,fun p hp=>absurd (show p∈([]:List (Addr×Obj)) from hp) (by simp)⟩
 have loop:codeAny (model X.prog X.w) X.A (.compLoop (.ListComp elt [⟨tg,iter,ifs,0⟩] scope pos) 0 (.ref it) (.ref s2.heap.objs.size) (Ey scope s3.heap.objs.size X.env))
   (RR (.ref s2.heap.objs.size) s3.heap.objs.size) { s3 with heap:=h4 }:=by
  refine K9 (fun n s'=>∃i ys τ H',Inv (dh X N' scope s3 H3 fp) [] τ H' s'/\tn i s'.heap/\(∀b∈fp,H' b=none)/\W i n ys τ H') ?_ m0 ⟨0,[],_,H3,I4,yW,fun b hb=>(iu b hb).1,w0⟩;rintro n s5 ⟨i,ys,τ,H5,I5,qf,tT,w5⟩;obtain⟨yX,w5⟩:=turn i n ys τ H5 w5;rcases w5 with⟨stop,qn⟩|⟨go,step⟩
  ·refine aE (T.done (dh X N' scope s3 H3 fp) rfl rfl rfl hc i [] s5 τ H5 _ I5 (mU tT) qf stop) fun r s6 ⟨hr,I6⟩=>?_
   subst hr;refine hR _ _ _ ⟨_,H5,rfl,?_,?_,?_,qn⟩
   ·exact I3.vq (s':=s6) (ch:=fp) I6.os I6.base I6.ar I6.bare fun b hb=>⟨(iu b hb).2.2.2.1,(iu b hb).2.1,(iu b hb).2.2.2.2.1,(iu b hb).2.2.2.2.2⟩
   ·exact I3.jD (aR _) I6.free
   ·obtain⟨m,hm,_⟩:=I6.loc
    exact⟨m,hm⟩
  ·refine aE (T.item (dh X N' scope s3 H3 fp) rfl rfl rfl hc i [] s5 τ H5 _ I5 (mU tT) qf go) fun r s6 ⟨u,hr,h6⟩=>?_
   subst hr;refine aE h6 fun _ s7 hQ9=>?_;obtain⟨x,H7,I7,r7,y7,tY,HI⟩:=hQ9;have HJ:=I7.pinned (mU HI) (T.obj _ _ tY);refine aE (hG _ s7 τ H7 x u _ HJ r7 (step x H7 y7)) fun _ s8 ⟨tZ,H8,I8,q8⟩=>?_;refine aE (hI _ s8 tZ H8 _ I8 q8) fun b s9 ⟨H9,I9,q9⟩=>?_;have again:∀ {iw:St}{H':Hp}{s':Shared}{eZ:List V}{m':Nat},Inv (dh X N' scope s3 H3 fp) ([]++vb fp s7.heap) iw H' s'->m' < n->W (i+1) m' eZ iw H' ->
     ∃m,m < n /\ ∃i ys τ H',Inv (dh X N' scope s3 H3 fp) [] τ H' s'/\tn i s'.heap/\(∀b∈fp,H' b=none)/\W i m ys τ H':=fun {iw H' s' eZ m'} I' hm w'=>by
    refine⟨m',hm,i+1,eZ,iw,H',I'.xx,T.keep _ _ _ tY fun b hb o e=>(I'.pin (b,o) (gH _ (gH _ (uJ hb e)))).1,fun b hb=>?_,w'⟩;obtain⟨o,e,d⟩:=T.obj _ _ tY b hb;exact(I'.pin (b,o) (gH _ (gH _ (uJ hb e)))).2.1
   cases b with
   |false =>
    obtain⟨m',hm,w'⟩:=q9;exact again I9 hm w'
   |true =>
    refine aE (hE _ s9 tZ H9 _ I9 q9) fun y HK hQ9=>?_;obtain⟨z,yY,HL,HM,Gq,Gr,m',hm,w'⟩:=hQ9;refine aE (lK _ HK tZ yY (.ref s2.heap.objs.size) [z] (.ref s2.heap.objs.size) [y] (fun _ H'=>H'=upd yY s2.heap.objs.size (.lst (ys ++ [z]))) HL rfl (.cons HM .nil) ⟨_,_,_,rfl,rfl,Gq,Gr,rfl⟩) fun _ s11 hQ9=>?_;obtain⟨_,HN,HP,_,t4⟩:=hQ9;subst t4;exact again HP hm w'
 exact codeAny_compStart_list loop (T.self X.A 0 _ _ _ yW loop)
theorem d4 {wi:TI}{g:TG} (hc:X.calm=true) (S:bX X.N X.env.scope N' cA scope) (hi:PI X tg iter wi)
  (hb:∀s H fp,PG (dh X N' scope s H fp) tg g/\tq (dh X N' scope s H fp) ifs ti/\PE (dh X N' scope s H fp) elt te)
  (hs:∀x,foldedSetIterable iter X.env x=pure x:=by intro _;rfl):PE X (.ListComp elt [⟨tg,iter,ifs,0⟩] scope pos) (Bu wi cA g ti te):=by
 intro pins s σ H Q I h;rw[eval_ListComp];refine TY (use:=none) rfl hs (DG fun n hn=>AK I S hn) S.kind (fun x hx hl=>uF S.keys (by rw[<-hl];exact hx)) ?_
 refine aE (hi pins s σ H _ I h) fun v s1 h1=>aE h1 fun tQ s2 h2=>?_;obtain⟨it,fp,tn,J,H2,e,I2,T,lg,f2,hw⟩:=h2;subst e;refine L7 (RR:=fun acc C=>compPost (model X.prog X.w) X.A X.xe none (EP X pins σ Q) acc C) hc S I2 T lg f2 hb hw ?_;rintro acc C s' ⟨p,H',rfl,I',fC,⟨m,hm⟩,q⟩;refine⟨m,hm,fun h' l8=>⟨.ref p,H',?_,rfl,q⟩⟩;exact I'.turned (it:=C) (t':=s'.toks) (fun b o hb e=>(l8.2 b hb).trans e) fC.1 fC.2.1 fC.2.2.2.1 fC.2.2.2.2.1 fC.2.2.2.2.2
theorem sy {wi:TI}{g:TG}{O3:Pos} (hc:X.calm=true) (S:bX X.N X.env.scope N' cA scope) (hN:X.N.Nodup) (hx:X.N[i]? = some x) (hl:X.env.scope.names.lookup x=some .local) (hi:PI X tg iter wi)
  (hb:∀s H fp,PG (dh X N' scope s H fp) tg g/\tq (dh X N' scope s H fp) ifs ti/\PE (dh X N' scope s H fp) elt te)
  (hsw:swapsWith (.ListComp elt [⟨tg,iter,ifs,0⟩] scope pos) (some (.Name x pos')) O3.line X.env=pure true:=by rfl)
  (hs:∀x,foldedSetIterable iter X.env x=pure x:=by intro _;rfl):PS X (.Assign [.Name x pos'] (.ListComp elt [⟨tg,iter,ifs,0⟩] scope pos) O3) (Gf (Bu wi cA g ti te) (sV i)):=by
 intro pins s σ H D I h;rw[exec_Assign_Name_used _ _ _ _ hsw];refine ae (qE (ae ?_));show wpAny _ X.A (do let _ <- comprehension (.ListComp elt [⟨tg,iter,ifs,0⟩] scope pos) scope X.env _ (newList []) false (eval iter X.env) (some (assign (.Name x pos') X.env))) _ _ s;refine ae (aE (TY (use:=some (assign (.Name x pos') X.env)) (Q:=fun _ s'=>SP X pins D .next s') rfl hs (DG fun n hn=>AK I S hn) S.kind (fun x hx hl=>uF S.keys (by rw[<-hl];exact hx)) ?_) fun _ s' hq=>ak (ak hq))
 refine aE (hi pins s σ H _ I h) fun v s1 h1=>aE h1 fun tQ s2 h2=>?_;obtain⟨it,fp,tn,J,H2,e,I2,T,lg,f2,hw⟩:=h2;subst e;refine L7 (Q:=fun v H'=>D.nx (σ.set i (some v)) H') (RR:=fun acc C=>compPost (model X.prog X.w) X.A X.xe (some (assign (.Name x pos') X.env)) (fun _ s'=>SP X pins D .next s') acc C) hc S I2 T lg f2 hb hw ?_;rintro acc C s' ⟨p,H',rfl,I',fC,⟨m,hm⟩,q⟩;show wpAny (model X.prog X.w) X.A (assign (.Name x pos') X.env (.ref p)) _ _ s';refine wpAny_assign_Name (LU (v:= .ref p) I' hN hx (.inl hl) rfl (fun m8 I'' ⟨a,hsb,ha⟩=>?_) (.inr hl));have hCa:C≠a:=by
  rcases ha with ha|ha
  ·rw[ha];exact fC.2.1
  ·exact fun z=>fC.2.2.2.2.1 _ _ ha z.symm
 refine⟨m,hm.sameBut hsb hCa,fun h' l8=>⟨_,H',?_,q⟩⟩;exact I''.turned (it:=C) (t':=m8.toks) (fun b o hb e=>(l8.2 b hb).trans e) fC.1 fC.2.1 fC.2.2.2.1 fC.2.2.2.2.1 fC.2.2.2.2.2
end L2
namespace L2
open PySem PySem.Spec PyProof.Rows PySem.W PySem.Builtin.ObjectAttr
def lT (h:Heap) (C:Addr) (us:List Value):Heap:=(h.push { cls:= .type "tuple",data:= .seq us.toArray }).push { cls:= .ref C,data:= .fields #[.ref h.objs.size,.none,.none,.none,.bool false,.none] }
theorem uI (e:h.get? b=some o):(lT h C us).get? b=some o:=aT _ (aT _ e)
theorem Ee:(lT h C us).get? (h.objs.size+1)=some { cls:= .ref C,data:= .fields #[.ref h.objs.size,.none,.none,.none,.bool false,.none] }:=by
 unfold lT;heap_get
section
variable{E:Value->Shared->Prop}{gs:Array GenState}{dr:Drawn}{tk:Nat}{os:OsState}
variable{qn:Str}{N:Addr}{bases up B3:List Value}{vI:Bool}{sl:List Str}{subs:List Value}{O4:Bool}{O5:Option Bool}{e0 e1 e2 e3 e5:Option Value}{B B4 Qs:String}
variable{mN:Str->Option Value}{oI:Obj}
theorem U3 {Q:Fin->Shared->Prop} (F:ExcBaseFacts B B4 Qs B3) (T:OwnTail h B3 up) (atC:h.get? C=some (excClassObj cn qn C N bases up vI sl subs O4 O5 od e0 e1 e2 e3 e5 B4)) (HQ:h.Ns N mN)
  (hi:mN "__init__" = some (.ref fI)) (cC:h.get? fI=some oI) (HR:oI.cls = .type "function") (bV:us.length<=sizeLine)
  (run:wpAny (model P w) A (call (.ref fI) (.ref (h.objs.size+1)::us)) (fun r s'=>r = .none/\Q (.done (.ret (.ref (h.objs.size+1)))) s') E ⟨lT h C us,gs,dr,tk,os⟩) :
  wpAny (model P w) A (Builtin.«type.__call__» ⟨.ref C::us,[]⟩) Q E ⟨h,gs,dr,tk,os⟩:=by
 repeat (first|with_reducible refine Dm atC ?_|with_reducible refine wpAny_madeBy_exc atC ?_|wp_step)
 refine codeAny_call_builtin_code (Ku _ F.quiet) (wpAny_check_new_subT F T atC (codeAny_exc_new_subT F T atC ?_ bV));show wpAny _ _ _ _ _ (⟨lT h C us,gs,dr,tk,os⟩:Shared);have O6:(lT h C us).get? C=_:=uI atC;have atE:(lT h C us).get? (h.objs.size+1)=_:=Ee;have has:(Value.ref C::up).contains (.ref C)=true:=List.contains_iff_mem.mpr bj;unfold isInstance
 repeat (first|with_reducible refine Dm atE ?_|(with_reducible refine wpAny_isSubtype_exc O6 ?_;rw[has])|wp_step)
 refine wpAny_typeLookup_tail (mN:=mN) O6 (HQ.keeps fun _ _ e=>uI e) (T.keeps fun _ _ e=>uI e) F.mroIs F.init.lookup ?_;rw[hi];refine eM (ae (show wpAny _ _ (bindSpecial _ _) _ _ _ from ?_));unfold bindSpecial;refine ae (oZ (T:= "function") ⟨oI,uI cC,HR⟩ ?_);rw[aB (show _ from by decide)]
 refine ak (ae (aE run fun r s' hr=>?_));obtain⟨rfl,q⟩:=hr
 wp_walk
 exact q
theorem Lc {Q:Value->Shared->Prop} (F:ExcBaseFacts B B4 Qs B3) (T:OwnTail h B3 up) (atC:h.get? C=some (excClassObj cn qn C N bases up vI sl subs O4 O5 od e0 e1 e2 e3 e5 B4)) (HQ:h.Ns N mN)
  (hi:mN "__init__" = some (.ref fI)) (cC:h.get? fI=some oI) (HR:oI.cls = .type "function") (bV:us.length<=sizeLine)
  (run:wpAny (model P w) (A.under (.builtin "type.__call__" ⟨.ref C::us,[]⟩)) (call (.ref fI) (.ref (h.objs.size+1)::us)) (fun r s'=>r = .none/\Q (.ref (h.objs.size+1)) s') E ⟨lT h C us,gs,dr,tk,os⟩) :
  wpAny (model P w) A (call (.ref C) us) Q E ⟨h,gs,dr,tk,os⟩:=by
 have l1:=tc_lookup;have l2:=tc_bind (.ref C);have ty:(⟨h,gs,dr,tk,os⟩:Shared).TypeIs (.ref C) "type" :=⟨_,atC,rfl⟩;refine qF (T6 (show wpAny _ _ (callAny (.ref C) _) _ _ _ from ?_))
 repeat (any_goals (first|assumption|with_reducible refine Dm atC ?_|wp_step))
 exact⟨rfl,codeAny_call_builtin_at (Ku _ (by decide +kernel)) entry_typeCall (wpAny_check_type_call_sub atC (U3 F T atC HQ hi cC HR bV run))⟩
end
abbrev B5:List Value:= [.type "ValueError",.type "Exception",.type "BaseException",.type "object"]
def eU (K:Frag) (C:Addr) (i:Option Value):Bool:=
  match K.lookup C with
  |some ⟨.type "type",_,.cls cls,slots⟩ =>
    (match cls.mro,slots.toList with
     |.ref C'::up,[_,_,_,_,some (.builtin n),_]=>C'==C && (n == "ValueError.__new__" && (!cls.hasDel && (tailIn K B5 up && (nsOkIn K cls.ns && nsIn K cls.ns "__init__" == some i))))
     |_,_=>false)
  |_=>false
theorem VR {N:Addr}{mp:Str->Option Value}{n:Str}{v:Value} (X:K.In h) (G:h.Ns N mp) (e:nsIn K N n=some (some v)):mp n=some v:=by
 obtain⟨ob,ens,_,at_,da,_,look⟩:=G;unfold nsIn at e;split at e
 next _ _ _ _ _ q =>
  have two:=X _ _ q;rw[at_]at two;cases two;cases da
  split at e
  next en he =>
   cases e
   rw[<-look,nsFind,findBy,<-Array.find?_toList,he];rfl
  next=>split at e <;> cases e
 next=>cases e
structure ExcAt (h:Heap) (C:Addr) (i:Option Value):Prop where
 ex:∃bm N nm q bs BD sn sub ab col dd k0 k1 k2 k3 k5 mN,h.get? C=some (excClassObj nm q C N bs bm BD sn sub ab col dd k0 k1 k2 k3 k5 "ValueError.__new__")/\h.Ns N mN/\mN "__init__" = i/\OwnTail h B5 bm
theorem uM {i:Option Value} (X:K.In h) (q:eU K C i=true):ExcAt h C i:=by
 unfold eU at q;split at q
 next od cls slots at_ =>
  split at q
  next C' up a0 a1 a2 a3 n a5 em es =>
   obtain⟨p1,q⟩:=qI.mp q;obtain⟨p2,q⟩:=qI.mp q;obtain⟨p3,q⟩:=qI.mp q;obtain⟨p4,q⟩:=qI.mp q;obtain⟨p5,p6⟩:=qI.mp q;have e1:=eW.mp p1;have e2:=eW.mp p2;have e3:cls.hasDel=false:=by simpa using p3
   have e6:=eW.mp p6;subst e1 e2;obtain⟨nm,bs,mro,ns,qn,hd,sn,sb,ab,col,del⟩:=cls;have em':mro=_:=em;have wC:del=false:=e3;subst em' wC;obtain rfl:slots = #[a0,a1,a2,a3,some (.builtin "ValueError.__new__"),a5]:=by cases slots;exact fc Array.mk es
   refine⟨⟨up,ns,nm,qn,bs,hd,sn,sb,ab,col,od,a0,a1,a2,a3,a5,h.nsMap ns,X _ _ at_,.of_isNs (isNs_of_in X p5),?_,tail_of_in X p4⟩⟩;cases i with
   |none=>exact nsMap_none_of_in X p5 e6
   |some v=>exact VR X (.of_isNs (isNs_of_in X p5)) e6
  next=>cases q
 next=>cases q
def vv:List Value->Bool
 |.ref _::r=>vv r
 |l=>l==B5
theorem Vu:∀ {l:List Value},vv l=true->l=B5 \/ ∃a r,l = .ref a::r/\vv r=true
 |[],e=>.inl (eW.mp e)
 |.ref a::r,e=>.inr ⟨a,r,rfl,e⟩
 |.none::r,e=>.inl (eW.mp e)
 |.bool b::r,e=>.inl (eW.mp e)
 |.int i t::r,e=>.inl (eW.mp e)
 |.float i t::r,e=>.inl (eW.mp e)
 |.str i t::r,e=>.inl (eW.mp e)
 |.bytes i t::r,e=>.inl (eW.mp e)
 |.type i::r,e=>.inl (eW.mp e)
 |.builtin i::r,e=>.inl (eW.mp e)
theorem Xn (self:Value) (l:List Value):vv l=true->refuseLoop self "__setattr__" l=pure ():=by
 induction l with
 |nil=>intro e;exact absurd e (by decide)
 |cons v r ih =>
  intro e;rcases Vu e with q|⟨a,r',q,e'⟩
  ·rw[q];kernel_rfl
  ·cases q
   rw[refuseLoop_ref];exact ih e'
structure dU (K:Frag) (C:Addr):Prop where
 ga:findIn K (.ref C) "__getattribute__" = some (some (.builtin "BaseException.__getattribute__"))
 gh:findIn K (.ref C) "__getattr__" = some none
 sa:findIn K (.ref C) "__setattr__" = some (some (.builtin "object.__setattr__"))
 hd:hasDictIn K C=true
 ov:((clsIn K C).any fun cd=>vv cd.mro)=true
 be:mroIn K C (.type "BaseException")=some true
 ve:mroIn K C (.type "ValueError")=some true
 ob:mroIn K C (.type "object")=some true
 ka:findIn K (.ref C) "__class__" = some (some (.builtin "object.__class__"))
 kn:specialIn K (.builtin "object.__class__") "__get__" = some (some (.builtin "getset_descriptor.__get__"))
 kt:takesIn K (.builtin "object.__class__")=some true
section
variable{E:Value->Shared->Prop}{x:Addr}{od:Option Obj}
theorem L8 {v:Value} (X:K.In s.heap) (I:InstAt s.heap x ox C od) (c:dU K C) (no:findIn K (.ref C) name=some none)
  (go:wpAny (model prog w) A.in1 (storeInOwnDict (.ref x) (.ref C) (.str name tk) name v false) (fun fin s'=>match fin with|.done f=>R (.ok f) s'|.again c'=>c'.quiet=true/\codeAny (model prog w) A c' R s') (fun e s'=>R (.error e) s') s) :
  codeAny (model prog w) A (.call (.builtin "object.__setattr__") ⟨[.ref x,.str name tk,v],[]⟩) R s:=by
 obtain⟨cls,ic,ok⟩:=Aj c.ov;have ty:Looks (model prog w) s.heap (typeOf (.ref x)) (.ref C):=I.type;have up:Looks (model prog w) s.heap (mroOf (.ref C)) cls.mro:=Looks.andThen (looks_clsIn X ic) Looks.now;have aaj:Looks (model prog w) s.heap (typeLookup (.ref C) name) none:=looks_findIn X no;refine Kv Dn.slot.plain Dn.entry (@check_slot (model prog w) _ _ s _ _ _ (.ref x) [.str name tk,v] [] _ Dn.kind Dn.split (ty.andThen (Dp X c.ob)) (Dn.args _ _ _) ?_);rw[osa_eq,refuse_eq];refine ae (ae (ty.here (ae (up.here ?_))));rw[Xn _ _ ok];refine ak (show wpAny _ _ _ _ _ s from ?_);exact ae (ty.here (ae (aaj.here (ae (ak go)))))
theorem L9 {fill expr:Bool}{Q:Value->Shared->Prop} (X:K.In s.heap) (I:InstAt s.heap x ox C od) (c:dU K C)
  (h:wpAny (model prog w) A.in1 (Builtin.«object.__getattribute__» ⟨[.ref x,.str name tk],[]⟩) (fun fin s'=>match fin with|.done (.ret v)=>wpAny (model prog w) A (handedOut v) Q E s'|_=>False) (fun _ _=>False) s) :
  wpAny (model prog w) A (getAttrBy (.ref x) (.str name tk) fill expr) Q E s:=by
 have L0:=I.type (M:=model prog w);have L1:=looks_findIn (M:=model prog w) X c.ga;have L2:=looks_findIn (M:=model prog w) X c.gh;have sub:Looks (model prog w) s.heap (isInstance (.ref x) (.type "BaseException")) true:=I.type.andThen (Dp X c.be);have hx2:(Value.builtin "BaseException.__getattribute__" == Value.builtin "object.__getattribute__")=false:=by decide +kernel
 have B6:(onTheHeap (Value.ref C) && Value.builtin "BaseException.__getattribute__" == Value.builtin "object.__getattribute__")=false:=by rw[hx2];rfl
 have hk:builtinKind "BaseException.__getattribute__" = some .slot:=by decide +kernel
 have Zw:splitId "BaseException.__getattribute__" = some ("BaseException","__getattribute__"):=by decide +kernel
 unfold getAttrBy;refine eM (ae (L0.here (ae (L1.here ?_))))
 dsimp only
 rw[B6];show wpAny _ _ (getAttrByItsOwn _ _ _ _ _ _) _ _ _;unfold getAttrByItsOwn hookBefore;refine ae ?_;rw[aB (show onTheHeap (Value.ref C)=true from rfl)];refine L2.here (ae (xj (eM ?_)));unfold callGetattribute;rw[au (show ¬ (expr && onTheHeap (Value.builtin "BaseException.__getattribute__"))=true by cases expr <;> decide)]
 unfold boundAndCalled;rw[aj8.ga.bind];refine ae (ak (qF (Kv aj8.ga.plain PySem.F.entry_bexc_ga (@check_slot (model prog w) _ _ s "BaseException.__getattribute__" "BaseException" "__getattribute__" (.ref x) [.str name tk] [] _ hk Zw sub (PySem.F.args_bexc_ga _ _) ?_))));refine mn h (fun fin s' z=>?_) fun _ _ z=>z.elim;rcases fin with(_|_|_|_)|_ <;> first|exact z|exact z.elim
theorem Ww {v:Value}{Q:Fin->Shared->Prop} (X:K.In s.heap) (I:InstAt s.heap x ox C od) (hf:findObj K C od name=some (.value v)) (h:Q (.done (.ret v)) s) :
  wpAny (model prog w) A (Builtin.«object.__getattribute__» ⟨[.ref x,.str name tk],[]⟩) Q E s:=by
 have L0:=I.type (M:=model prog w);have L1:=looks_find (M:=model prog w) X I hf;refine ae (ak (ae (ak (ae (L0.here (ae (L1.here ?_)))))));exact ak h
theorem Yo {expr:Bool}{v:Value}{Q:Value->Shared->Prop} (X:K.In s.heap) (I:InstAt s.heap x ox C od) (c:dU K C) (hf:findObj K C od name=some (.value v)) (hh:handedIn v=true)
  (h:Q v { s with toks:=s.toks+1 }):wpAny (model prog w) A (getAttr (.ref x) name expr) Q E s:=by
 unfold getAttr;refine ae (wpAny_mkText ?_);exact L9 (s:={ s with toks:=s.toks+1 }) X I c (Ww (s:={ s with toks:=s.toks+1 }) X I hf (handed_on hh h))
theorem Wx {Q:Option Value->Shared->Prop} (X:K.In s.heap) (I:InstAt s.heap x ox C od) (c:dU K C) (h:Q (some (.ref C)) { s with toks:=s.toks+1 }):wpAny (model prog w) A (getAttr? (.ref x) "__class__") Q E s:=by
 have hf:findObj K C od "__class__" = some (.bind (.builtin "getset_descriptor.__get__") (.builtin "object.__class__")):=by
  obtain⟨cd,hc,_⟩:=Aj c.hd;unfold findObj;rw[hc,Kw,c.ka,Kw]
  dsimp only
  rw[c.kn,Kw]
  dsimp only
  rw[c.kt,Kw]
 unfold getAttr? getAttrBy?;refine ae (wpAny_mkText (ae (xj ?_)));have L0:=I.type (M:=model prog w);have L1:=looks_find (M:=model prog w) X I hf;refine L9 (s:={ s with toks:=s.toks+1 }) X I c ?_;refine ae (ak (ae (ak (ae (Kx (s:={ s with toks:=s.toks+1 }) L0 (ae (Kx (s:={ s with toks:=s.toks+1 }) L1 ?_)))))));show wpAny _ _ (holding [.builtin "object.__class__"] (call (.builtin "getset_descriptor.__get__") [.builtin "object.__class__",.ref x,.ref C]) >>= ret) _ _ _;refine ae (eM (qF (class_get (s:={ s with toks:=s.toks+1 }) (ox:=ox) (od:=od) X I c.ob ?_)));exact ak (handed_on rfl (ak h))
theorem VS {M:Model} (X:K.In h) (c:dU K C):Looks M h (isType (.ref C)) true:=by
 obtain⟨cls,ic,_⟩:=Aj c.hd;unfold clsIn at ic;split at ic
 next at_ =>
  intro A' Q' E' s' k q;exact ae (Ak (part:=some headPart) (k _ _ (X _ _ at_)) (ak q))
 next=>cases ic
theorem AU (c:dU K C):KitX K (.ref x) (.ref C) (fun h=>InstAt h x ox C od) where
 ty:=fun _ _ _ I=>I.type
 it:=fun _ _ X _=>VS X c
 ne:=fun h tp _ _ _ _ X tup=>by
  obtain⟨cls,ic,_⟩:=Aj c.hd;cases q:(Value.ref C == .ref tp) with
  |false=>rfl
  |true =>
   have e:C=tp:=Value.ref.inj (eW.mp q);unfold clsIn at ic;split at ic
   next at_ =>
    have two:=(X _ _ at_).symm;rw[e,tup]at two;cases two
   next=>cases ic
 ca:=fun X I k=>Wx X I c k
end
theorem bu.there {o:HO} (x:bu P w H h a o):∃ob,h.get? a=some ob:=by
 cases o with
 |lst xs=>obtain⟨_,_,_,_,e⟩:=x;exact⟨_,e⟩
 |tup xs=>obtain⟨_,_,_,ob,e,_⟩:=x;exact⟨_,e⟩
 |dK kvs=>obtain⟨_,_,_,_,o,_,_,e,_⟩:=x;exact⟨_,e⟩
 |dT kvs=>obtain⟨_,_,_,_,o,_,_,e,_⟩:=x;exact⟨_,e⟩
 |set S n=>obtain⟨o,_,_,_,e,_⟩:=x;exact⟨_,e⟩
 |ins C dx fs=>obtain⟨_,_,_,e,_⟩:=x;exact⟨_,e⟩
 |own y=>exact x
 |xd fs=>obtain⟨_,⟨_,_,_,e,_⟩,_⟩:=x;exact⟨_,e⟩
 |yI lo hi=>obtain⟨_,_,_,e⟩:=x;exact⟨_,e⟩
 |cB ob u=>obtain⟨e,_⟩:=x;exact⟨_,e⟩
 |qb ps=>exact⟨_,x⟩
 |met f y=>exact⟨_,x⟩
 |ext φ=>exact x.2.1
section
variable{o:HO}
theorem Inv.Fq (I:Inv X pins σ H s) (e:s.heap.get? a=none):H a=none:=by
 cases q:H a with
 |none=>rfl
 |some u =>
  obtain⟨ob,z⟩:=(I.ar a u q).there;rw[e]at z;cases z
theorem Inv.put (I:Inv X pins σ H s) (k:∀b u,s.heap.get? b=some u->h'.get? b=some u) (e:s.heap.get? a=none) (new:bu X.prog X.w (upd H a o) h' a o):Inv X pins σ (upd H a o) { s with heap:=h' }:=by
 have hn:=I.Fq e;have ne:∀b u,s.heap.get? b=some u->b≠a:=fun b u q z=>by rw[z,e]at q;cases q
 refine I.un (t':=s.toks) ⟨fun b u q n _ _=>k b u q,fun b u q n _ _=>⟨u.slots,k b u q⟩,fun b u q n _=>by rw[ah (ne b u q)];exact n,fun b u q _=>⟨u,k b u q⟩,fun b xs q=>by rw[ah (ao q hn)];exact q,
  fun b u v q=>by rw[ah (ao q hn)];exact q,fun b ps q=>⟨#[],by rw[ah (ao q hn),q];simp⟩⟩ fun b u q=>?_
 by_cases hb:b=a
 ·subst hb;rw[ag]at q;cases q;exact new
 ·rw[ah hb]at q
  exact(I.ar b u q).gY (fun c v _ z=>k c v z) (fun c z=>by rw[ah (ao z hn)];exact z) fun c xs z=>by rw[ah (ao z hn)];exact z
end
def cg (C:Addr) (dx:Option Addr) (a:Addr):HO:= .ext fun h=>∃t,h.get? a=some { cls:= .ref C,dict:=dx,data:= .fields #[.ref t,.none,.none,.none,.bool false,.none] }
def d7 (d:Addr) (fs:List (Str×V)):HO:= .ext fun h=>fs.length<=100 /\ ∃mA,h.Ns1 d mA/\(∀f,iT (fs.lookup f) (mA f))/\PySem.Within mA (fs.map (·.1))
section
variable{fs:List (Str×V)}
theorem Be (e:h.get? a=some { cls:= .ref C,dict:=dx,data:= .fields #[.ref t,.none,.none,.none,.bool false,.none] }):bu P w H h a (cg C dx a):=
 ⟨⟨t,e⟩,⟨_,e⟩,fun _ _ ⟨t,q⟩ k=>⟨t,k _ q⟩⟩
theorem Ni (z:fs.length<=100) (n:h.Ns1 d mA) (r:∀f,iT (fs.lookup f) (mA f)) (wi:PySem.Within mA (fs.map (·.1))):bu P w H h d (d7 d fs):=
 ⟨⟨z,mA,n,r,wi⟩,(let ⟨o,_,_,e,_⟩:=n;⟨o,e⟩),fun _ _ ⟨z,mA,n,r⟩ k=>⟨z,mA,n.at k,r⟩⟩
end
section
variable{E:Value->Shared->Prop}{fs:List (Str×V)}{f:Str}
theorem Inv.excAt (I:Inv X pins σ H s) (e:H a=some (cg C dx a)):∃t,s.heap.get? a=some { cls:= .ref C,dict:=dx,data:= .fields #[.ref t,.none,.none,.none,.bool false,.none] }:=(I.ar a _ e).1
theorem Inv.xE (I:Inv X pins σ H s) (e:H d=some (d7 d fs)):fs.length<=100 /\ ∃mA,s.heap.Ns1 d mA/\(∀f,iT (fs.lookup f) (mA f))/\PySem.Within mA (fs.map (·.1)):=(I.ar d _ e).1
theorem VT {Q:Unit->Shared->Prop} (I:Inv X pins σ H s) (e:H a=some (cg C none a)) (c:dU X.K C) (no:findIn X.K (.ref C) f=some none) (ry:RelV y u)
  (h:∀d s',H d=none->d≠a->Inv X pins σ (upd (upd H d (d7 d [(f,y)])) a (cg C (some d) a)) s'->Q () s'):wpAny (model X.prog X.w) A (setAttr (.ref a) f u) Q E s:=by
 obtain⟨t,at_⟩:=I.excAt e;have J:InstAt s.heap a _ C none:=⟨at_,rfl,rfl,True.intro⟩;refine PySem.W.set_plain I.bx J c.sa (L8 (s:={ s with toks:=s.toks+1 }) I.bx J c no ?_);obtain⟨cls,ic,vI⟩:=Aj c.hd;refine ae (ak (ae (show wpAny _ _ (instanceDict a true) _ _ _ from ?_)));refine ae (Ak (s:={ s with toks:=s.toks+1 }) at_ (ae (Kx (s:={ s with toks:=s.toks+1 }) (looks_clsIn I.bx ic) ?_)));rw[vI];refine ae (wpAny_alloc ?_);have fresh:s.heap.get? s.heap.objs.size=none:=Dh (aR _);have na:a≠s.heap.objs.size:=bp (aV at_);have eI:(s.heap.push { cls:= .type "dict",data:= .dict #[] }).get? a=_:=aT _ at_;refine ae (wpAny_update (s:={ s with heap:=s.heap.push { cls:= .type "dict",data:= .dict #[] },toks:=s.toks+1 }) eI (ak ?_));generalize eh:(s.heap.push { cls:= .type "dict",data:= .dict #[] }).update a (fun o=>{ o with dict:=some s.heap.objs.size })=h1;have at2:h1.get? a=some { cls:= .ref C,dict:=some s.heap.objs.size,data:= .fields #[.ref t,.none,.none,.none,.bool false,.none] }:=by
  rw[<-eh];exact nO _ eI rfl
 have yZ:∀b o,b≠a->s.heap.get? b=some o->h1.get? b=some o:=fun b o hb q=>by
  rw[<-eh,jm _ _ (aO hb)];exact aT _ q
 have dAt:h1.get? s.heap.objs.size=some { cls:= .type "dict",data:= .dict #[] }:=by
  rw[<-eh,jm _ _ na];exact cu _ rfl
 have n0:h1.Ns1 s.heap.objs.size (fun _=>none):=Heap.Ns1.of_empty ⟨_,#[],_,dAt,rfl,(fun e he=>absurd he (by simp)),fun _=>rfl⟩
 refine ae (ak (ae (wpAny_nsSet1 (s:={ s with heap:=h1,toks:=s.toks+1 }) n0 fun h2 n2 sb=>?_)));have w0:PySem.Within (fun _=>none) ([]:List Str):=fun g hg=>absurd rfl hg;obtain⟨oD,esD,epD,B7,HU,HV⟩:=n2.count (PySem.Within.cons f u w0);refine ae (wpAny_lookBehind B7 (by rw[HU];exact pastItsLine_dict (dG HV (by rw[eN,Al,aN];decide))) (ak ?_))
 refine h s.heap.objs.size _ (I.Fq fresh) (aO na) ?_;have B8:=I.Fq fresh;have akJ:∀b o,b≠a->s.heap.get? b=some o->h2.get? b=some o:=fun b o hb q=>(sb.2 b (fun z=>by rw[z,fresh]at q;cases q)).trans (yZ b o hb q)
 have y4:h2.get? a=_:=(sb.2 a na).trans at2;have heD:upd H s.heap.objs.size (d7 s.heap.objs.size [(f,y)]) a=some (cg C none a):=by rw[ah na];exact e
 have I1:Inv X pins σ (upd H a (cg C (some s.heap.objs.size) a)) { s with heap:=h1,toks:=s.toks+1 }:=by
  refine I.write (x:=a) (e:=a) (by rw[e];exact True.intro) (.inl rfl) (fun b u hb q=>yZ b u hb q) ⟨_,at2⟩ (Be at2)
 have wD:upd H a (cg C (some s.heap.objs.size) a) s.heap.objs.size=none:=by rw[ah (aO na)];exact B8
 have cm:upd (upd H s.heap.objs.size (d7 s.heap.objs.size [(f,y)])) a (cg C (some s.heap.objs.size) a)=upd (upd H a (cg C (some s.heap.objs.size) a)) s.heap.objs.size (d7 s.heap.objs.size [(f,y)]):=by
  funext b
  unfold upd
  by_cases h1:b=a
  ·subst h1;rw[aB rfl,au na,aB rfl]
  ·rw[au h1]
   by_cases h2:b=s.heap.objs.size
   ·rw[aB h2,aB h2]
   ·rw[au h2,au h2,au h1]
 rw[cm];have B9:upd H a (cg C (some s.heap.objs.size) a) a=some (cg C (some s.heap.objs.size) a):=ag;have fp:gg X pins (upd H a (cg C (some s.heap.objs.size) a)) s.heap.objs.size:=by
  have z:=I.jD (H':=upd H a (cg C (some s.heap.objs.size) a)) (aR _) wD;exact z
 have I2:Inv X pins σ (upd H a (cg C (some s.heap.objs.size) a)) { s with heap:=h2,toks:=s.toks+2 }:=
  Inv.turned (s:={ s with heap:=h1,toks:=s.toks+1 }) (h':=h2) I1 (it:=s.heap.objs.size) (t':=s.toks+2) (fun b o hb q=>(sb.2 b hb).trans q) fp.1 fp.2.1 fp.2.2.2.1 fp.2.2.2.2.1 fp.2.2.2.2.2
 refine⟨I2.ok,I2.os,I2.bare,?_,I2.loc,I2.cell,?_,?_,?_,?_,I2.len⟩
 ·have B:=I2.base
  have nb:∀b o,X.cM.heap.get? b=some o->b ∉ X.ex->b≠s.heap.objs.size:=fun b o q hx z=>by
   obtain⟨o',q'⟩:=I.base.there b o q hx;rw[z,fresh]at q';cases q'
  refine⟨B.keep,B.slot,fun b o q n hx=>by rw[ah (nb b o q hx)];exact B.free b o q n hx,B.there,fun b xs q=>?_,fun b o u q=>?_,fun b ps q=>?_⟩
  ·have z:=B.kJ b xs q;rw[ah (ao z wD)];exact z
  ·have z:=B.jX b o u q;rw[ah (ao z wD)];exact z
  ·obtain⟨m,z⟩:=B.kU b ps q;exact⟨m,by rw[ah (ao z wD)];exact z⟩
 ·rw[ah (aO fp.2.1)];exact I2.free
 ·intro x c q;rw[ah (fp.2.2.2.2.1 x c q)];exact I2.iD x c q
 ·intro p hp
  obtain⟨p1,p2,p3,p4,p5⟩:=I2.pin p hp;exact⟨p1,by rw[ah (fp.2.2.2.2.2 p hp)];exact p2,p3,p4,p5⟩
 ·intro b o q
  by_cases hb:b=s.heap.objs.size
  ·subst hb
   rw[ag]at q;cases q;refine Ni (by simp) n2 (fun g=>?_) (fun g hg=>?_)
   ·show iT (List.lookup g [(f,y)]) (if g=f then some u else none)
    rw[jn]
    by_cases q:g=f
    ·rw[aB q,eW.mpr q];exact ry
    ·rw[au q,oV.mpr q];exact True.intro
   ·by_cases q:g=f
    ·rw[q];simp
    ·exact absurd (au q) hg
  ·rw[ah hb]at q
   exact(I2.ar b o q).gY (fun _ _ _ z=>z) (fun c z=>by rw[ah (ao z wD)];exact z) fun c xs z=>by rw[ah (ao z wD)];exact z
theorem Vv {Q:Unit->Shared->Prop} (I:Inv X pins σ H s) (e:H a=some (cg C (some d) a)) (ed:H d=some (d7 d fs)) (c:dU X.K C) (no:findIn X.K (.ref C) f=some none) (ry:RelV y u) (bV:fs.length < 100)
  (h:∀s',Inv X pins σ (upd H d (d7 d (jd f y fs))) s'->Q () s'):wpAny (model X.prog X.w) A (setAttr (.ref a) f u) Q E s:=by
 obtain⟨t,at_⟩:=I.excAt e;obtain⟨_,mA,n,r,wi⟩:=I.xE ed;obtain⟨od,m9,look⟩:=uL n;have J:InstAt s.heap a _ C (some od):=⟨at_,rfl,rfl,m9⟩;refine PySem.W.set_plain I.bx J c.sa (L8 (s:={ s with toks:=s.toks+1 }) I.bx J c no ?_);obtain⟨cls,ic,vI⟩:=Aj c.hd;refine ae (ak (ae (show wpAny _ _ (instanceDict a true) _ _ _ from ?_)));refine ae (Ak (s:={ s with toks:=s.toks+1 }) at_ (ae (Kx (s:={ s with toks:=s.toks+1 }) (looks_clsIn I.bx ic) ?_)));rw[vI];refine ak (a:=some d) (ae (ak (ae (wpAny_nsSet1 (s:={ s with toks:=s.toks+1 }) n fun h2 n2 sb=>?_))));obtain⟨oD,esD,epD,B7,HU,HV⟩:=n2.count (PySem.Within.cons f u wi);refine ae (wpAny_lookBehind B7 (by rw[HU];exact pastItsLine_dict (dG HV (by rw[eN,aA,aN];omega))) (ak ?_))
 refine h _ (I.write (t':=s.toks+2) (x:=d) (e:=d) (by rw[ed];exact True.intro) (.inl rfl) (fun b o hb q=>(sb.2 b hb).trans q) ⟨oD,B7⟩ ?_)
 refine Ni (by have:=Lm f y fs;omega) n2 (fun g=>?_) (fun g hg=>?_)
 ·show iT ((jd f y fs).lookup g) (if g=f then some u else mA g)
  rw[Ll]
  by_cases q:g=f
  ·rw[aB q,aB q];exact ry
  ·rw[au q,au q];exact r g
 ·by_cases q:g=f
  ·rw[q];exact(Eb f y fs).1
  ·exact(Eb f y fs).2 g (wi g fun z=>hg ((au q).trans z))
end
end L2
namespace L2
open PySem PySem.Spec PyProof.Rows PySem.W
mutual
inductive Rep (H:Hp):V->PyData->Prop where
 |aF:Rep H .aF .none
 |bl (b:Bool):Rep H (.bl b) (.bool b)
 |int (i:Int):Rep H (.int i) (.int i)
 |str (x:Str):Rep H (.str x) (.str x)
 |lst {a:Addr}{xs:List V}{ds:List PyData}:H a=some (.lst xs)->ik H xs ds->Rep H (.ref a) (.list ds)
 |tup {a:Addr}{xs:List V}{ds:List PyData}:H a=some (.tup xs)->ik H xs ds->Rep H (.ref a) (.tuple ds)
inductive ik (H:Hp):List V->List PyData->Prop where
 |nil:ik H [] []
 |cons {x:V}{d:PyData}{xs:List V}{ds:List PyData}:Rep H x d->ik H xs ds->ik H (x::xs) (d::ds)
end
section
mutual
theorem Rep.reads (I:Inv X pins σ H s):∀ {v:V}{d:PyData}{u:Value},Rep H v d->RelV v u -> ∃as,Reads s.heap u d as
 |_,_,_,.aF,r=>by cases r;exact⟨_,.none⟩
 |_,_,_,.bl b,r=>by cases r;exact⟨_,.bool b⟩
 |_,_,_,.int i,r=>by obtain⟨t,rfl⟩:=r;exact⟨_,.int i t⟩
 |_,_,_,.str x,r=>by obtain⟨t,rfl⟩:=r;exact⟨_,.str x t⟩
 |_,_,_,.lst (a:=a) (xs:=xs) e rs,r=>by
  cases r
  obtain⟨_,its,n,rv,at_⟩:=(show bu X.prog X.w H s.heap a (.lst xs) from I.ar a _ e);obtain⟨as,ra⟩:=ik.reads I rs rv;exact⟨_,.list at_ rfl rfl ra⟩
 |_,_,_,.tup (a:=a) (xs:=xs) e rs,r=>by
  cases r
  obtain⟨_,its,rv,ob,at_,hc,n,hd,_⟩:=(show bu X.prog X.w H s.heap a (.tup xs) from I.ar a _ e);obtain⟨as,ra⟩:=ik.reads I rs rv;exact⟨_,.tuple at_ hc hd ra⟩
theorem ik.reads (I:Inv X pins σ H s):∀ {vs:List V}{ds:List PyData}{us:List Value},ik H vs ds->Vals vs us -> ∃as,ReadsAll s.heap us ds as
 |_,_,_,.nil,r=>by cases r;exact⟨_,.nil⟩
 |_,_,_,.cons r rs,rv=>by
  cases rv with
  |cons q qs =>
   obtain⟨as,h1⟩:=Rep.reads I r q;obtain⟨bs,h2⟩:=ik.reads I rs qs;exact⟨_,.cons h1 h2⟩
end
mutual
theorem Rep.same:∀ {v:V}{d:PyData},Rep H v d->aq H H'->Rep H' v d
 |_,_,.aF,_=>.aF
 |_,_,.bl b,_=>.bl b
 |_,_,.int i,_=>.int i
 |_,_,.str x,_=>.str x
 |_,_,.lst e rs,k=>.lst (k _ _ e) (ik.same rs k)
 |_,_,.tup e rs,k=>.tup (k _ _ e) (ik.same rs k)
theorem ik.same:∀ {vs:List V}{ds:List PyData},ik H vs ds->aq H H'->ik H' vs ds
 |_,_,.nil,_=>.nil
 |_,_,.cons r rs,k=>.cons (Rep.same r k) (ik.same rs k)
end
end
def Gs:R2:=fun x y H Q=>∃da db,Rep H x da/\Rep H y db/\da.canLay0=true/\db.canLay0=true/\da.depth<=60/\Q (.bl (PyData.eqv da db)) H
def BE:R2:=fun x y H Q=>∃da db,Rep H x da/\Rep H y db/\da.canLay0=true/\db.canLay0=true/\da.depth<=60/\Q (.bl (!PyData.eqv da db)) H
theorem xQ (hu:X.A.units+64 < cLine):cN X (compareOp .Eq) Gs:=by
 intro pins s σ H x y v u Q I rx ry h;obtain⟨da,db,r1,r2,l1,l2,dp,q⟩:=h;obtain⟨as,h1⟩:=r1.reads I rx;obtain⟨bs,h2⟩:=r2.reads I ry;exact SeqAt.compareEq_reads h1 h2 l1 l2 (by omega) ⟨.bl _,H,I,rfl,q⟩
theorem vf (hu:X.A.units+64 < cLine):cN X (compareOp .NotEq) BE:=by
 intro pins s σ H x y v u Q I rx ry h;obtain⟨da,db,r1,r2,l1,l2,dp,q⟩:=h;obtain⟨as,h1⟩:=r1.reads I rx;obtain⟨bs,h2⟩:=r2.reads I ry;exact SeqAt.compareNe_reads h1 h2 l1 l2 (by omega) ⟨.bl _,H,I,rfl,q⟩
def kH (H:Hp) (x:V):Prop:=(∃z:Str,x = .str z/\z.length<=100000)\/x = .aF \/ ∃a d,x = .ref a/\Rep H x d/\d.showable=true/\d.hasDict=false/\d.depth<=50/\d.shown.length<=100000
def abQ (te:TE):TE:=fun σ H Q=>te σ H fun x H1=>kH H1 x /\ ∀y:Str,y.length<=100000->Q (.str y) H1
theorem xR (hu:X.A.units+64 < cLine) (hg:X.A.guards=some []) (he:PE X e te):PE X (.FormattedValue e (-1) none pos) (abQ te):=by
 intro pins s σ H Q I h;refine wpAny_FormattedValue_plain (aE (he pins s σ H _ I h) fun v s1 hQ9=>?_);obtain⟨x,H1,I1,rx,f,q⟩:=hQ9;rcases f with⟨z,rfl,hz⟩|rfl|⟨a,d,rfl,rd,hs,hd,hp,hl⟩
 ·obtain⟨t,rfl⟩:=rx
  exact wpAny_formatField_str ⟨.str z,H1,I1,⟨_,rfl⟩,q z hz⟩ ⟨.str z,H1,I1.tok _,⟨_,rfl⟩,q z hz⟩ (by rw[aN];omega)
 ·cases rx
  exact wpAny_formatField_none ⟨.str "None",H1,I1.tok _,⟨_,rfl⟩,q _ (by decide)⟩
 ·obtain⟨as,r⟩:=rd.reads I1 rx
  cases rx
  exact formatField_of_reads r hs (fun z=>by rw[hd]at z;cases z) hg (by omega) (fun _ _ z=>z) (fun h' u tk k=>⟨.str d.shown,H1,I1.kept k,⟨_,rfl⟩,q _ hl⟩) (by rw[aN];omega)
noncomputable def PJ (X:Cx) (vs:List Expr) (n:Nat) (t:St->Hp->(Hp->Prop)->Prop):Prop:=
 ∀ (pins:List (Addr×Obj)) (s:Shared) (σ:St) (H:Hp) (acc:Str) (Q:Hp->Prop),acc.length+n * 100000<=2000000->Inv X pins σ H s->t σ H Q ->
  Joins (model X.prog X.w) X.A X.xe (evalEach vs X.env) acc (fun out s1=>out.length<=2000000 /\ ∃H1,Inv X pins σ H1 s1/\Q H1) s
def Zx (te:TE) (tr:St->Hp->(Hp->Prop)->Prop):St->Hp->(Hp->Prop)->Prop:=fun σ H Q=>te σ H fun x H1=>(∃y:Str,x = .str y/\y.length<=100000)/\tr σ H1 Q
def Zy:St->Hp->(Hp->Prop)->Prop:=fun _ H Q=>Q H
theorem Ft:PJ X [] 0 Zy:=fun pins s σ H acc Q hz I h=>⟨by omega,H,I,h⟩
theorem nW {v:Expr}{vs:List Expr}{tr:St->Hp->(Hp->Prop)->Prop} (hv:PE X v te) (hr:PJ X vs n tr):PJ X (v::vs) (n+1) (Zx te tr):=by
 intro pins s σ H acc Q hz I h;refine aE (hv pins s σ H _ I h) fun u s1 ⟨x,H1,I1,rx,⟨y,e,hy⟩,q⟩=>?_;subst e;obtain⟨t,rfl⟩:=rx;have hl:(acc++y).length=acc.length+y.length:=strLen_append ..;exact⟨y,t,rfl,by rw[hl,aN];omega,hr pins s1 σ H1 (acc++y) Q (by rw[hl];omega) I1 q⟩
def aak (tr:St->Hp->(Hp->Prop)->Prop):TE:=fun σ H Q=>tr σ H fun H1=>∀y:Str,y.length<=2000000->Q (.str y) H1
theorem EZ {v1 v2:Expr}{rest:List Expr}{tr:St->Hp->(Hp->Prop)->Prop} (hr:PJ X (v1::v2::rest) n tr) (hn:n<=20:=by decide):PE X (.JoinedStr (v1::v2::rest) pos) (aak tr):=by
 intro pins s σ H Q I h;have z:=hr pins s σ H Str.empty _ (by have:Str.empty.length=0:=rfl;omega) I h
 refine wpAny_JoinedStr ?_;have mono:∀ (l:List (Sem Value)) (acc:Str) (P P':Str->Shared->Prop) (s:Shared),(∀o s,P o s->P' o s)->Joins (model X.prog X.w) X.A X.xe l acc P s->Joins (model X.prog X.w) X.A X.xe l acc P' s:=by
  intro l
  induction l with
  |nil=>intro acc P P' s k q;exact k _ _ q
  |cons a l ih=>intro acc P P' s k q;exact aE q fun v s1 ⟨y,t,e,hz,q'⟩=>⟨y,t,e,hz,ih _ P P' s1 k q'⟩
 refine mono _ _ _ _ _ ?_ z;rintro o s1 ⟨hz,H1,I1,q⟩;exact⟨by rw[aN];omega,.str o,H1,I1.tok _,⟨_,rfl⟩,q o hz⟩
end L2
namespace L2
open PySem PySem.Spec PyProof.Rows PySem.W
section
variable{CX:lZ}{k:Nat}{p:Pos}{t:TA}
theorem Xo (q:eU X.K C (some (.ref fI))=true) (fn:isFn X.K (.ref fI)=true) (F:aI X.prog X.w X.K X.mg X.base CX k fI fd ps sp) (hr:a7 (k+1) X.A) (hb:Binds X.K fd ps []) (hx:Passes CX X E) (I:Inv X pins σ H s) (r:Vals vs us) (bV:us.length<=100)
  (h:∀e,H e=none->sp (.ref e::vs) (upd H e (cg C none e)) (fun v H2=>v = .aF/\Q (.ref e) H2) E):wpAny (model X.prog X.w) X.A (call (.ref C) us) (EP X pins σ Q) X.xe s:=by
 obtain⟨⟨up,N,nm,qn,bs,hd,sn,sb,ab,col,od,a0,a1,a2,a3,a5,mN,at_,ns,ni,T⟩⟩:=uM I.bx q;obtain⟨oI,lk,oc⟩:=ib.mp (show(X.K.lookup fI).map (·.cls)=some (.type "function") from eW.mp fn);have h1:=h (s.heap.objs.size+1) (I.ar.fresh (lG _));have bx:=I.bx;have I2:Inv X pins σ (upd H (s.heap.objs.size+1) (cg C none (s.heap.objs.size+1))) { s with heap:=lT s.heap C us }:=I.put (fun _ _ z=>uI z) (Dh (lG _)) (Be Ee);have e0:=I2.yq.make C us [];have ix:=hr.make C us [];have r2:Vals (V.ref (s.heap.objs.size+1)::vs) (Value.ref (s.heap.objs.size+1)::us):= .cons rfl r;have hl:(Value.ref (s.heap.objs.size+1)::us).length=ps.length:=by rw[<-r2.length];exact F.len _ _ _ _ h1
 have rL:=hb { s with heap:=lT s.heap C us } (Value.ref (s.heap.objs.size+1)::us) I2.bx (by rw[gr];exact hl)
 rw[gr]at rL;have run:=F.run _ X.stack _ _ ⟨Value.ref (s.heap.objs.size+1)::us,[]⟩ (Value.ref (s.heap.objs.size+1)::us) _ _ E ix e0 rL r2 h1;obtain⟨hp,g,d,tk,os⟩:=s;refine Lc T7 T at_ ns ni (bx _ _ lk) oc (by rw[aN];omega) (qF (sf run fun r s' hq=>?_))
 cases r with
 |error e=>exact hx pins σ _ _ e s' I2 hq
 |ok fl =>
  cases fl with
  |ret u =>
   obtain⟨v,H',I3,rv,ev,q3⟩:=I2.after hq;subst ev;exact⟨rv,.ref (hp.objs.size+1),H',I3,rfl,q3⟩
  |next=>exact False.elim hq
  |brk=>exact False.elim hq
  |cont=>exact False.elim hq
def Oo (C:Addr) (sp:Sp) (E:XK) (t:TA):TE:=fun σ H Q=>t σ H fun vs H1=>vs.length<=100 /\ ∀e,H1 e=none->sp (.ref e::vs) (upd H1 e (cg C none e)) (fun v H2=>v = .aF/\Q (.ref e) H2) E
theorem Nj (q:eU X.K C (some (.ref fI))=true) (fn:isFn X.K (.ref fI)=true) (kp:keepIn X.K (.ref C)=true) (F:aI X.prog X.w X.K X.mg X.base CX k fI fd ps sp) (hr:a7 (k+1) X.A) (hb:Binds X.K fd ps []) (hx:Passes CX X E)
  (hg:Gl X x) (hm:X.mg x=some (.ref C)) (ha:PA X (e::es) t) (jI:(x==("__debug__" : Str))=false:=by decide)
  (he:starEach (e::es) X.env=(false,eval e X.env)::starEach es X.env:=by rfl) (dk:(backTo pos (starEach es X.env)).any (·.1)=false:=by rfl):PE X (.Call (.Name x p) (e::es) [] pos) (Oo C sp E t):=by
 intro pins s σ H Q I h;refine sg (nU I hg hm ?_ jI);refine Ky (h₀:=X.base) I.ok.mod.iF kp (aE (ha pos pins s σ H _ I h) fun us s1 ⟨vs,H1,I1,r,bV,q1⟩=>⟨I1.bx,?_⟩) he dk;exact Xo q fn F hr hb hx I1 r (by show us.length<=100;rw[<-r.length];exact bV) q1
structure sN (K:Frag) (B:Addr):Prop where
 rd:readsIn K B (.type "type")=true
 ga:specialIn K (.ref B) "__getattribute__" = some (some (.builtin "type.__getattribute__"))
 fi:findCls K (.ref B) (.type "type") "__init__" = some (.val (.builtin "ValueError.__init__"))
theorem Vg {i:Option Value} (c:dU X.K C) (q:eU X.K C i=true) (I:Inv X pins σ H s) (e:H a=some (cg C dx a)) (h:Q .aF H) :
  wpAny (model X.prog X.w) X.A (call (.builtin "ValueError.__init__") [.ref a,u]) (EP X pins σ Q) X.xe s:=by
 obtain⟨t,at_⟩:=I.excAt e;obtain⟨⟨up,N,nm,qn,bs,hd,sn,sb,ab,col,od,a0,a1,a2,a3,a5,mN,atC,ns,ni,T⟩⟩:=uM I.bx q;have FI:=T7;obtain⟨hp,g,d,tk,os⟩:=s;refine qF (Kv FI.init.plain FI.initEntry (wpAny_check_init_subT (rest:= [u]) FI T atC at_ rfl ?_));have eI:(hp.push { cls:= .type "tuple",data:= .seq #[u] }).get? a=some { cls:= .ref C,dict:=dx,data:= .fields #[.ref t,.none,.none,.none,.bool false,.none] }:=aT _ at_;have at2:((hp.push { cls:= .type "tuple",data:= .seq #[u] }).update a (Obj.mapFields fun z=>z.setIfInBounds 0 (.ref hp.objs.size))).get? a=some { cls:= .ref C,dict:=dx,data:= .fields #[.ref hp.objs.size,.none,.none,.none,.bool false,.none] }:=nO _ eI rfl;have fin:∀qj,EP X pins σ Q .none ⟨(hp.push { cls:= .type "tuple",data:= .seq #[u] }).update a (Obj.mapFields fun z=>z.setIfInBounds 0 (.ref hp.objs.size)),g,d,qj,os⟩:=fun qj=>by
  refine⟨.aF,upd H a (cg C dx a),?_,rfl,?_⟩
  ·exact Inv.write (s:=⟨hp,g,d,tk,os⟩) I (x:=a) (e:=a) (t':=qj) (by rw[e];exact True.intro) (.inl rfl) (fun b o hb z=>by rw[jm _ _ (aO hb)];exact aT _ z) ⟨_,at2⟩ (Be at2)
  ·have:upd H a (cg C dx a)=H:=by
    funext b;unfold upd
    by_cases hb:b=a
    ·rw[aB hb,hb,e]
    ·rw[au hb]
   rw[this];exact h
 wp_walk
 exact fin _
def Wy (X:Cx) (t:TA):TE:=fun σ H Q=>t σ H fun vs H1=>∃a C dx y i,vs = [.ref a,y]/\H1 a=some (cg C dx a)/\dU X.K C/\eU X.K C i=true/\Q .aF H1
theorem DN {pl:Sem Bool} (b:sN X.K B) (hg:Gl X x) (hm:X.mg x=some (.ref B)) (ha:PA X (e::es) t) (jI:(x==("__debug__" : Str))=false:=by decide)
  (he:starEach (e::es) X.env=(false,eval e X.env)::starEach es X.env:=by rfl) (dk:(backTo pos (starEach es X.env)).any (·.1)=false:=by rfl)
  (ht:eval (.Call (.Attribute (.Name x p) "__init__" apos) (e::es) [] pos) X.env=(do
   let ov <- eval (.Name x p) X.env
   standAt apos.atName
   let (f,first) <- holding [ov] (getMethod ov "__init__" pl)
   callWith pos f first (backTo pos (starEach (e::es) X.env)) (backToKw pos (keywordEach [] X.env))):=by rfl) :
  PE X (.Call (.Attribute (.Name x p) "__init__" apos) (e::es) [] pos) (Wy X t):=by
 intro pins s σ H Q I h;refine methodCall_KW (pl:=pl) (nU I hg hm ?_ jI) ht;refine method_cls I.bx b.ga (cls_value I.bx b.rd b.fi rfl ?_);refine aj1 (aE (ha pos pins { s with toks:=s.toks+1 } σ H _ (I.tok _) h) fun us s1 hQ9=>?_) he dk;obtain⟨vs,H1,I1,r1,q1⟩:=hQ9;obtain⟨a,C,dx,y,i,rfl,ea,c,qi,q⟩:=q1;obtain⟨u1,u2,rfl,r2,r3⟩:=r1.two;cases r2
 exact Vg c qi I1 ea q
end
section
variable{o:Expr}{f:Str}{tv:TE}
noncomputable def aal (X:Cx) (ta tv:TE) (f:Str):TS:=fun D σ H=>tv σ H fun y H1=>ta σ H1 fun x H2=>∃a C,x = .ref a/\H2 a=some (cg C none a)/\dU X.K C/\findIn X.K (.ref C) f=some none /\
 ∀d,H2 d=none->d≠a->D.nx σ (upd (upd H2 d (d7 d [(f,y)])) a (cg C (some d) a))
theorem E1 (ha:PE X o ta) (hv:PE X value tv) (hs:swapsWith value (some (.Attribute o f pos')) pos.line X.env=pure false:=by rfl):PS X (.Assign [.Attribute o f pos'] value pos) (aal X ta tv f):=by
 intro pins s σ H D I h;refine akb (aE (hv pins s σ H _ I h) fun u s1 ⟨y,H1,I1,ry,q⟩=>aE (ha pins s1 σ H1 _ I1 q) fun ov s2 hQ9=>?_) hs;obtain⟨x,H2,I2,rx,a,C,ex,ea,c,n,q2⟩:=hQ9;subst ex;obtain rfl:ov=Value.ref a:=rx;exact VT I2 ea c n ry fun d s3 h1 h2 I3=>⟨σ,_,I3,q2 d h1 h2⟩
noncomputable def Zz (X:Cx) (ta tv:TE) (f:Str):TS:=fun D σ H=>tv σ H fun y H1=>ta σ H1 fun x H2=>∃a C d fs,x = .ref a/\H2 a=some (cg C (some d) a)/\H2 d=some (d7 d fs)/\dU X.K C/\findIn X.K (.ref C) f=some none/\fs.length < 100 /\
 D.nx σ (upd H2 d (d7 d (jd f y fs)))
theorem ME (ha:PE X o ta) (hv:PE X value tv) (hs:swapsWith value (some (.Attribute o f pos')) pos.line X.env=pure false:=by rfl):PS X (.Assign [.Attribute o f pos'] value pos) (Zz X ta tv f):=by
 intro pins s σ H D I h;refine akb (aE (hv pins s σ H _ I h) fun u s1 ⟨y,H1,I1,ry,q⟩=>aE (ha pins s1 σ H1 _ I1 q) fun ov s2 hQ9=>?_) hs;obtain⟨x,H2,I2,rx,a,C,d,fs,ex,ea,ed,c,n,bV,q2⟩:=hQ9;subst ex;obtain rfl:ov=Value.ref a:=rx;exact Vv I2 ea ed c n ry bV fun s3 I3=>⟨σ,_,I3,q2⟩
def O7 (K:Frag):List V->Hp->VK->Prop:=fun xs H Q=>∃x c t cv b,xs = [x,c]/\RelV c cv/\(kX K H x t \/ ∃a C dx,x = .ref a/\t = .ref C/\H a=some (cg C dx a)/\dU K C/\(∀d,dx=some d -> ∃fs,H d=some (d7 d fs)))/\kitOne K t cv=some b/\Q (.bl b) H
theorem lL:d5 X (.builtin "isinstance") (fun xs H Q=>(∃x,(∃C,xs = [x,.ref C])\/(∃T,xs = [x,.ty T]))/\O7 X.K xs H Q):=by
 intro pins s σ H xs us Q I r h;obtain⟨hx,x,c,t,cv,b,rfl,rc,ty,e,q⟩:=h;obtain⟨u,w',rfl,ru,ir⟩:=r.two;have HW:w'=cv:=by
  obtain⟨x',⟨C,z⟩|⟨T,z⟩⟩:=hx
  ·cases z;cases rc;cases ir;rfl
  ·cases z;cases rc;cases ir;rfl
 subst HW;rcases ty with ty|⟨a,C,dx,rfl,rfl,ea,c,hd⟩
 ·exact Wt I ru ty e fun tk=>⟨.bl b,H,I.tok _,rfl,q⟩
 ·cases ru
  obtain⟨t,at_⟩:=I.excAt ea;cases dx with
  |none =>
   have J:InstAt s.heap a _ C none:=⟨at_,rfl,rfl,True.intro⟩;exact kia_one (AU c) I.bx J e (fun z=>nomatch z) fun tk=>⟨.bl b,H,I.tok _,rfl,q⟩
  |some d =>
   obtain⟨fs,ed⟩:=hd d rfl;obtain⟨_,mA,n,_⟩:=I.xE ed;obtain⟨od,m9,_⟩:=uL n;have J:InstAt s.heap a _ C (some od):=⟨at_,rfl,rfl,m9⟩;exact kia_one (AU c) I.bx J e (fun z=>nomatch z) fun tk=>⟨.bl b,H,I.tok _,rfl,q⟩
end
def y6 (K:Frag) (l:Addr):It:=
 ⟨fun i H=>∃xs x,aj K H l xs/\xs[i]? = some x,fun i H x H'=>∃t v,H t=none/\x = .ref t/\(∀xs,aj K H l xs->xs[i]? = some v)/\H'=upd H t (.tup [.int i,v]),fun i H=>∃xs,aj K H l xs/\xs.length<=i⟩
theorem Wz (l e it:Addr) (bB:e≠it) :
  Turn P w K (.Tuple elts n1 tp) (y6 K l) [e,it] e (fun i h=>(∃old,IsEnum h e it i old)/\h.IsListIter it l i) where
 mem:=by simp
 obj:=fun i h st b hb=>by
  obtain⟨⟨old,h1⟩,h2⟩:=st;rcases aY.mp hb with z|z
  ·subst z;exact⟨_,h1,fun v q=>by cases q⟩
  ·have z':b=it:=by simpa using z
   subst z';obtain⟨o,q,_,d⟩:=h2;exact⟨o,q,fun v z=>by rw[d]at z;cases z⟩
 keep:=fun i h h' st k=>by
  obtain⟨⟨old,h1⟩,h2⟩:=st;exact⟨⟨old,k e (by simp) _ h1⟩,h2.at fun o q=>k it (by simp) o q⟩
 item:=by
  intro X hP hw hK hc i pins s σ H E I hf st hg;subst hP hw hK;obtain⟨xs,x,hq,hx⟩:=hg;obtain⟨its,rv,p,hz⟩:=I.list hq;obtain⟨u,hu,ru⟩:=rv.get hx;obtain⟨⟨old,h1⟩,h2⟩:=st;have fe:=hf e (by simp)
  have fi:=hf it (by simp)
  refine wpAny_pyNext_enum_item h1 h2 p.isList (x:=u) (by simpa using hu) bB fun h' e1 i1 t1 z1 k1=>⟨_,rfl,?_⟩
  refine wpAny_letOwnedTupleGo_enum (s:={ s with heap:=h',toks:=s.toks+1 }) e1 fun gD e2 sb=>?_;have eS:e≠s.heap.objs.size:=bp (aV h1);have k2:∀b o,b≠e->b≠it->s.heap.get? b=some o->gD.get? b=some o:=fun b o n1 n2 q=>(sb.2 b n1).trans (k1 b o n1 n2 q);have t2:gD.get? s.heap.objs.size=some { cls:= .type "tuple",data:= .seq #[.int i s.toks,u] }:=(sb.2 _ (aO eS)).trans t1;have hn:H s.heap.objs.size=none:=I.ar.fresh (aR _);have lt:∀b o,s.heap.get? b=some o->b≠s.heap.objs.size:=fun b o q=>bp (aV q);have fU:∀b o,H b=some o->b≠e/\b≠it:=fun b o q=>⟨(fun z=>by rw[z,fe.1]at q;cases q),(fun z=>by rw[z,fi.1]at q;cases q)⟩
  have dv:∀b,b ∉ [e,it]->b≠e/\b≠it:=fun b hb=>⟨fun z=>hb (by simp[z]),fun z=>hb (by simp[z])⟩
  have J:Inv X pins σ (upd H s.heap.objs.size (.tup [.int i,x])) { s with heap:=gD,toks:=s.toks+1 }:=by
   refine I.step (g':=s.gens) (d':=s.drawn) (t':=s.toks+1) (ch:= [e,it]) (fun b hb=>?_) (fun b o _ _ hc q _=>k2 b o (dv b hc).1 (dv b hc).2 q) (fun b o _ _ hc q _=>⟨o.slots,k2 b o (dv b hc).1 (dv b hc).2 q⟩)
    (fun b o _ q n=>by rw[ah (lt b o q)];exact n) (fun b o hc q=>⟨o,k2 b o (dv b hc).1 (dv b hc).2 q⟩) (fun b ys q=>by rw[ah (ao q hn)];exact q) (fun b o v q=>by rw[ah (ao q hn)];exact q)
    (fun b ps q=>⟨#[],by rw[ah (ao q hn),q];simp⟩) (fun m hm=>?_) (fun b o q=>?_) I.bare
   ·rcases aY.mp hb with z|z
    ·subst z;exact⟨fe.2.2.2.1,fe.2.1,fe.2.2.2.2.1,fe.2.2.2.2.2⟩
    ·have z':b=it:=by simpa using z
     subst z';exact⟨fi.2.2.2.1,fi.2.1,fi.2.2.2.2.1,fi.2.2.2.2.2⟩
   ·obtain⟨o,es,ep,ho,r⟩:=hm
    exact⟨o,es,ep,k2 _ o (aO fe.2.1) (aO fi.2.1) ho,r⟩
   ·by_cases hb:b=s.heap.objs.size
    ·subst hb
     rw[ag]at q;cases q;exact⟨by rw[aN];show 2<=_;decide,[.int i s.toks,u],.cons ⟨_,rfl⟩ (.cons ru .nil),_,t2,rfl,_,rfl,rfl⟩
    ·rw[ah hb]at q
     refine(I.ar b o q).gY (fun c v hc z=>?_) (fun c z=>by rw[ah (ao z hn)];exact z) fun c ys z=>by rw[ah (ao z hn)];exact z
     rcases hc with hc|hc
     ·subst hc;exact k2 _ v (fU _ _ q).1 (fU _ _ q).2 z
     ·exact k2 c v (fU _ _ hc).1 (fU _ _ hc).2 z
  refine⟨.ref s.heap.objs.size,_,J,rfl,⟨s.heap.objs.size,x,hn,rfl,fun ys hy=>by rw[I.AS hy hq];exact hx,rfl⟩,⟨⟨u,e2⟩,?_⟩,fun b hb=>?_⟩
  ·exact i1.extBut sb.extBut (aO bB)
  ·have:b≠s.heap.objs.size:=by
    rcases aY.mp hb with z|z
    ·rw[z];exact eS
    ·have z':b=it:=by simpa using z
     obtain⟨o,q,_⟩:=h2;rw[z'];exact lt _ _ q
   rw[ah this];exact(hf b hb).1
 done:=by
  intro X hP hw hK hc i pins s σ H E I hf st hg;subst hP hw hK;obtain⟨xs,hq,hx⟩:=hg;obtain⟨its,rv,p,hz⟩:=I.list hq;obtain⟨⟨old,h1⟩,h2⟩:=st;have fi:=hf it (by simp)
  have hl:=rv.length;exact wpAny_pyNext_enum_end (I.ok.hd hc) h1 h2 p.isList (by simp;omega) fun h' eb=>⟨rfl,I.turned (t':=s.toks) (fun b o hb q=>eb b o hb q) fi.1 fi.2.1 fi.2.2.2.1 fi.2.2.2.2.1 fi.2.2.2.2.2⟩
 self:=fun _ _ _ _ _ st h=>let ⟨⟨_,h1⟩,_⟩:=st;wpAny_pyIter_enum h1 h
def aam (K:Frag) (ta:TA):TI:=fun σ H R=>ta σ H fun vs H1=>∃a,vs = [.ref a]/\(∃xs,aj K H1 a xs)/\R (y6 K a) H1
theorem Yp {a:Expr}{ta:TA}{p:Pos} (hg:Gl X "enumerate") (hm:X.mg "enumerate" = none) (ha:PA X [a] ta) (hs:starEach [a] X.env = [(false,eval a X.env)]:=by rfl) :
  PI X (.Tuple elts n1 tp) (.Call (.Name "enumerate" p) [a] [] pos) (aam X.K ta):=by
 intro pins s σ H R I h;refine Call_ (sJ I hg hm (show bootBuiltins "enumerate" = some (.type "enumerate") by decide +kernel) (Dj (aE (ha pos pins s σ H _ I h) fun us s1 hQ9=>?_) hs rfl));obtain⟨vs,H1,I1,r1,q1⟩:=hQ9
 obtain⟨l,e,⟨xs,hq⟩,q⟩:=q1;subst e;obtain⟨u,rfl,ru⟩:=r1.one;cases ru
 obtain⟨its,rv,pl,hz⟩:=I1.list hq;refine call_enumerate_list pl.isList fun h' e1 i1 z1 k1=>?_;have I2:Inv X pins σ H1 { s1 with heap:=h' }:=I1.kept (t':=s1.toks) k1;refine wpAny_pyIter_enum (s:={ s1 with heap:=h' }) e1 ?_;refine⟨s1.heap.objs.size+1,[s1.heap.objs.size+1,s1.heap.objs.size],_,_,H1,rfl,I2,Wz l (s1.heap.objs.size+1) s1.heap.objs.size (Nat.succ_ne_self _),⟨⟨.none,e1⟩,i1⟩,fun b hb=>?_,q⟩;rcases aY.mp hb with z|z
 ·subst z;exact I1.jD (lG _) (I1.ar.fresh (lG _))
 ·have z':b=s1.heap.objs.size:=by simpa using z
  subst z';exact I1.jD (aR _) (I1.ar.fresh (aR _))
theorem DU:∀ {ys:List Str}{us:List Value},Vals (ys.map V.str) us->StrsAre us ys:=by
 intro ys
 induction ys with
 |nil=>intro us r;cases r;exact .nil
 |cons y ys ih =>
  intro us r;cases r with
  |cons q qs =>
   obtain⟨t,rfl⟩:=q;exact .cons _ _ (ih qs)
def rJoin (K:Frag):V->List V->Hp->VK->Prop:=fun x vs H Q=>∃ (z:Str) (p:Addr) (ys:List Str),x = .str z/\vs = [.ref p]/\(aj K H p (ys.map V.str)\/aC K H p (ys.map V.str))/\(ys.map (·.length)).sum+ys.length * z.length<=1000000/\Q (.str (Txt.join z ys)) H
theorem Yq:Qn X "str.join" (rJoin X.K):=by
 intro pins s σ H x xs v us Q I rx rv h;obtain⟨z,p,ys,rfl,rfl,hp,hz,q⟩:=h;obtain⟨t,rfl⟩:=rx;obtain⟨u,rfl,ru⟩:=rv.one;cases ru
 rcases hp with hp|hp
 ·obtain⟨its,r,pl,_⟩:=I.list hp
  exact join_list pl.isList (by simpa using DU r) (by omega) fun t' k=>⟨.str _,H,I.tok _,⟨_,rfl⟩,q⟩
 ·obtain⟨its,r,pl,_⟩:=I.tuple hp
  exact join_tuple pl (by simpa using DU r) (by omega) fun t' k=>⟨.str _,H,I.tok _,⟨_,rfl⟩,q⟩
def abR:V->Option Int->Option Int->Hp->VK->Prop:=fun x lo hi H Q=>∃z:Str,x = .str z/\z.length<=1000000/\Q (.str (Txt.slice z lo hi)) H
theorem ZA:wx X abR:=by
 intro pins s σ H x v vl vu lo hi sl Q I rx hs pl pu h;obtain⟨z,rfl,hz,q⟩:=h;obtain⟨t,rfl⟩:=rx;have fz:(Txt.slice z lo hi).length<=sizeLine:=dG (Txt.slice_le z _ _) (by rw[aN];omega)
 refine⟨"str",_,PySem.F.slot_str_getitem.lookup,typeIs_str _ _ _,?_⟩;cases pl with
 |none =>
  cases pu with
  |none=>exact Kz (l:=none) (u:=none) (st:=none) hs rfl (KA ⟨fz,fun t' k=>⟨.str _,H,I.tok _,⟨_,rfl⟩,q⟩⟩)
  |int j tj=>exact Kz (l:=none) (u:=some (j,tj)) (st:=none) hs rfl (KA ⟨fz,fun t' k=>⟨.str _,H,I.tok _,⟨_,rfl⟩,q⟩⟩)
 |int i ti =>
  cases pu with
  |none=>exact Kz (l:=some (i,ti)) (u:=none) (st:=none) hs rfl (KA ⟨fz,fun t' k=>⟨.str _,H,I.tok _,⟨_,rfl⟩,q⟩⟩)
  |int j tj=>exact Kz (l:=some (i,ti)) (u:=some (j,tj)) (st:=none) hs rfl (KA ⟨fz,fun t' k=>⟨.str _,H,I.tok _,⟨_,rfl⟩,q⟩⟩)
def CW (Pv:Nat->List V->St->Hp->Prop) (n i m:Nat) (ys:List V) (τ:St) (H:Hp):Prop:=m=n - i/\i<=n/\Pv i ys τ H
theorem cw_next {Pv:Nat->List V->St->Hp->Prop}{τ:St} (h:i < n) (p:Pv (i+1) ys τ H):∃m',m' < n - i/\CW Pv n (i+1) m' ys τ H:=⟨n - (i+1),by omega,rfl,h,p⟩
theorem DV {g:TG} (Pv:Nat->List V->St->Hp->Prop) (h0:Pv 0 [] jf (upd H1 p (.lst []))) (hl:∀i ys τ H,Pv i ys τ H->H p=some (.lst ys))
  (hs:∀i ys τ H,i < n->Pv i ys τ H->g (.int (lo+i)) τ H fun cJ H4=>ti cJ H4 fun b H5=>if b=true then te cJ H5 fun y H6=>H6 p=some (.lst ys)/\ys.length < sizeLine /\ ∃m',m' < n - i/\CW Pv n (i+1) m' (ys ++ [y]) cJ (upd H6 p (.lst (ys ++ [y]))) else ∃m',m' < n - i/\CW Pv n (i+1) m' ys cJ H5)
  (hd:∀ys τ H,Pv n ys τ H->Q (.ref p) H):jz (tR lo n) g ti te jf Q p H1:=by
 refine⟨CW Pv n,⟨n,by simp,bG _,h0⟩,?_⟩
 rintro i m ys τ H ⟨rfl,hi,pv⟩;refine⟨hl i ys τ H pv,?_⟩
 by_cases aS:i < n
 ·refine .inr ⟨aS,fun x H3 y3=>?_⟩
  obtain⟨e3,ex⟩:=y3;subst e3 ex;exact hs i ys τ _ aS pv
 ·have e:i=n:=by omega
  subst e;exact .inl ⟨aR _,hd ys τ H pv⟩
theorem iP {xs:List V}{g:TG} (Pv:Nat->List V->St->Hp->Prop) (h0:Pv 0 [] jf (upd H1 p (.lst []))) (hl:∀i ys τ H,Pv i ys τ H->H p=some (.lst ys)/\aj K H a xs)
  (hs:∀i x ys τ H,xs[i]? = some x->Pv i ys τ H->g x τ H fun cJ H4=>ti cJ H4 fun b H5=>if b=true then te cJ H5 fun y H6=>H6 p=some (.lst ys)/\ys.length < sizeLine /\ ∃m',m' < xs.length - i/\CW Pv xs.length (i+1) m' (ys ++ [y]) cJ (upd H6 p (.lst (ys ++ [y]))) else ∃m',m' < xs.length - i/\CW Pv xs.length (i+1) m' ys cJ H5)
  (hd:∀ys τ H,Pv xs.length ys τ H->Q (.ref p) H):jz (rE K a) g ti te jf Q p H1:=by
 refine⟨CW Pv xs.length,⟨xs.length,by simp,bG _,h0⟩,?_⟩
 rintro i m ys τ H ⟨rfl,hi,pv⟩;obtain⟨hp,hq⟩:=hl i ys τ H pv;refine⟨hp,?_⟩
 by_cases aS:i < xs.length
 ·refine .inr ⟨⟨xs,xs[i],hq,by simp[aS]⟩,fun x H3 y3=>?_⟩
  obtain⟨e3,ex⟩:=y3;subst e3;exact hs i x ys τ _ (ex xs hq) pv
 ·have e:i=xs.length:=by omega
  subst e;exact .inl ⟨⟨xs,hq,aR _⟩,hd ys τ H pv⟩
theorem jQ {xs:List V}{g:TG} (Pv:Nat->List V->St->Hp->Prop) (h0:Pv 0 [] jf (upd H1 p (.lst []))) (hl:∀i ys τ H,Pv i ys τ H->H p=some (.lst ys)/\aC K H a xs)
  (hs:∀i x ys τ H,xs[i]? = some x->Pv i ys τ H->g x τ H fun cJ H4=>ti cJ H4 fun b H5=>if b=true then te cJ H5 fun y H6=>H6 p=some (.lst ys)/\ys.length < sizeLine /\ ∃m',m' < xs.length - i/\CW Pv xs.length (i+1) m' (ys ++ [y]) cJ (upd H6 p (.lst (ys ++ [y]))) else ∃m',m' < xs.length - i/\CW Pv xs.length (i+1) m' ys cJ H5)
  (hd:∀ys τ H,Pv xs.length ys τ H->Q (.ref p) H):jz (rF K a) g ti te jf Q p H1:=by
 refine⟨CW Pv xs.length,⟨xs.length,by simp,bG _,h0⟩,?_⟩
 rintro i m ys τ H ⟨rfl,hi,pv⟩;obtain⟨hp,hq⟩:=hl i ys τ H pv;refine⟨hp,?_⟩
 by_cases aS:i < xs.length
 ·refine .inr ⟨⟨xs,xs[i],hq,by simp[aS]⟩,fun x H3 y3=>?_⟩
  obtain⟨e3,ex⟩:=y3;subst e3;exact hs i x ys τ _ (ex xs hq) pv
 ·have e:i=xs.length:=by omega
  subst e;exact .inl ⟨⟨xs,hq,aR _⟩,hd ys τ H pv⟩
def Gu (N N':List Str) (cA:List (Option Nat)) (sc:Scope):Bool:=(List.range cA.length).all fun j=>match cA[j]? with
 |some (some i)=>(match N[i]? with|some x=>N'[j]? == some x && sc.names.lookup x==some .free|none=>false)
 |_=>true
theorem Oq (h:Gu N N' cA sc=true) (j i:Nat) (e:cA[j]? = some (some i)):∃x,N[i]? = some x/\N'[j]? = some x/\sc.names.lookup x=some .free:=by
 have hj:j < cA.length:=(cR.mp e).1;have z:=o7.mp h j (oW.mpr hj);rw[e]at z
 dsimp only at z
 split at z
 ·rename_i x q
  obtain⟨z1,z2⟩:=qI.mp z;exact⟨x,q,eW.mp z1,eW.mp z2⟩
 ·cases z
structure Nm (x:Str):Prop where
 lo:1<=x.length
 hi:x.length<=8
 az:∀c∈x.cps.toList,97<=c/\c<=122
def sign (c:Nat):Str:=⟨#[c]⟩
theorem Lz:∀ (cs:List Nat) (acc:Array Nat),(cs.map sign).foldl (fun acc p=>acc++("" : Str).cps++p.cps) acc=acc++cs.toArray
 |[],acc=>by simp
 |c::cs,acc=>by
  rw[cz,List.foldl_cons,Lz cs];have e:("" : Str).cps = #[]:=rfl;rw[e]
  apply KC.mp
  simp[sign]
theorem VU (cs:List Nat):Txt.join ("" : Str) (cs.map sign)=⟨cs.toArray⟩:=by
 unfold Txt.join Builtin.Str.glued;cases cs with
 |nil=>rfl
 |cons c cs =>
  rw[cz];show(⟨(cs.map sign).foldl _ (sign c).cps⟩:Str)=_;rw[Lz]
  apply fc Str.mk
  apply KC.mp
  simp[sign]
theorem VV {z:Str}{c:Nat} (h:c∈(Txt.slice z none (some 6)).cps.toList):c∈z.cps.toList:=by
 unfold Txt.slice at h;split at h
 ·exact h
 ·simp only[sd]at h
  obtain⟨i,_,e⟩:=h;obtain⟨_,e2⟩:=Am.mp e;rw[<-e2];simp
theorem LA (z:Str):(Txt.slice z none (some 6)).length<=6:=by
 have hi:(Builtin.Str.strSliceIndices none (some 6) 1 z.length).length<=6:=by
  unfold Builtin.Str.strSliceIndices sliceRange;simp only[show(1:Int) > 0 by decide,nN,aA,T9]
  split <;> (try split) <;> omega
 unfold Txt.slice;split
 ·rename_i h
  have e:(Builtin.Str.strSliceIndices none (some 6) 1 z.length).length=z.length:=by simpa using h
  omega
 ·show(List.filterMap _ _).toArray.size<=6
  rw[cS];exact dG (T' _ _) hi
theorem xS (a b:Str):(a++b).cps=a.cps++b.cps:=rfl
theorem Yr {z:Str}{c:Nat} (hz:∀c∈z.cps.toList,97<=c/\c<=122) (hc:97<=c/\c<=122):Nm (Txt.slice z none (some 6)++sign c++("q" : Str)):=by
 have hq:("q" : Str).cps = #[113]:=by decide +kernel
 have hl:=LA z;have e:(Txt.slice z none (some 6)++sign c++("q" : Str)).length=(Txt.slice z none (some 6)).length+2:=by
  show(_:Array Nat).size=_;rw[xS,xS,hq];show(_ ++ #[c] ++ #[113]).size=_;rw[KG,KG];rfl
 refine⟨by omega,by omega,fun d hd=>?_⟩
 rw[xS,xS,hq]at hd;have tO:d∈(Txt.slice z none (some 6)).cps.toList\/d=c\/d=113:=by
  have:d∈((Txt.slice z none (some 6)).cps ++ #[c] ++ #[113]).toList:=hd;simp at this;rcases this with h|h|h
  ·exact .inl (by simpa using h)
  ·exact .inr (.inl h)
  ·exact .inr (.inr h)
 rcases tO with h|h|h
 ·exact hz d (VV h)
 ·rw[h];exact hc
 ·rw[h];omega
theorem Xp {p:Str}{c d:Nat} (h:p++sign c++("q" : Str)=p++sign d++("q" : Str)):c=d:=by
 have h1:=fc (fun s:Str=>s.cps.toList) h;simp only[xS]at h1;have h2:p.cps.toList++([c]++("q" : Str).cps.toList)=p.cps.toList++([d]++("q" : Str).cps.toList):=by
  simpa [sign,Array.toList_append] using h1
 have h3:=List.append_cancel_left h2
 simpa using h3
theorem Bm:∀ {ys found:List Str},ys.Nodup->found.length < ys.length -> ∃y∈ys,y ∉ found
 |[],found,_,h=>by simp at h
 |y::ys,found,nd,h=>by
  obtain⟨n1,n2⟩:=gb.mp nd
  by_cases hy:y∈found
  ·have hl:=Ua hy
   have hp:=Ub hy;obtain⟨z,hz,hn⟩:=Bm (found:=found.erase y) n2 (by rw[hl];rw[eN]at h;omega)
   refine⟨z,cp _ hz,fun q=>hn ?_⟩;have ne:z≠y:=fun e=>n1 (by rw[<-e];exact hz)
   exact(Uc ne).mpr q
  ·exact⟨y,bj,hy⟩
theorem Bf (K:Frag) (h:X.K=K):cN X (compareOp .In) (BY K false):=by subst h;exact Ec
theorem LB (K:Frag) (h:X.K=K):cN X (compareOp .NotIn) (BY K true):=by subst h;exact qO
theorem Ef (K:Frag) (h:X.K=K):wz X (OX K):=by subst h;exact eQ
theorem uV (K:Frag) (h:X.K=K):wz X (OY K):=by subst h;exact lR
theorem Ma {l:Expr} (K:Frag) (h:X.K=K) (hl:PE X l tl):PI X tg l (Og K tl):=by subst h;exact gJ hl
theorem MF {l:Expr} (K:Frag) (h:X.K=K) (hl:PE X l tl):PI X tg l (OS K tl):=by subst h;exact jU hl
theorem VW (K:Frag) (h:X.K=K):d5 X (.builtin "isinstance") (fun xs H Q=>(∃x,(∃C,xs = [x,.ref C])\/(∃T,xs = [x,.ty T]))/\O7 K xs H Q):=by subst h;exact lL
theorem jR (x:Str) (ys:List Str):BX (.str x) (ys.map V.str)=decide (x∈ys):=by
 unfold BX;rw[KH]
 induction ys with
 |nil=>simp
 |cons y ys ih =>
  rw[uw,ih];show((y==x) || decide (x∈ys))=decide (x∈y::ys)
  by_cases h:y=x
  ·subst h;simp
  ·have h':(y==x)=false:=oV.mpr h
   rw[h',Ud];have:x∈y::ys ↔ x∈ys:=by simp[aO h]
   simp[this]
theorem i8 (ys:List Str):(ys.map V.str).all nZ=true:=by
 rw[o7];intro v hv;obtain⟨y,_,rfl⟩:=aU.mp hv
 rfl
def jA (H:Hp) (a:Addr):Hp:=fun b=>if b=a then none else H b
theorem mz (n:b≠a):jA H a b=H b:=by unfold jA;rw[au n]
theorem LC {o:HO} (e:jA H a b=some o):b≠a/\H b=some o:=by
 unfold jA at e;split at e
 ·cases e
 next n=>exact⟨n,e⟩
theorem LD (e:H b=none):jA H a b=none:=by
 unfold jA;split
 ·rfl
 ·exact e
theorem Inv.Nk (I:Inv X pins σ H s) (e:H a=some (cg C dx a)) (hd:∀d,dx=some d -> ∃fs,H d=some (d7 d fs)):∃ox od t,InstAt s.heap a ox C od/\ox={ cls:= .ref C,dict:=dx,data:= .fields #[.ref t,.none,.none,.none,.bool false,.none] }:=by
 obtain⟨t,at_⟩:=I.excAt e;cases dx with
 |none=>exact⟨_,none,t,⟨at_,rfl,rfl,True.intro⟩,rfl⟩
 |some d =>
  obtain⟨fs,ed⟩:=hd d rfl;obtain⟨_,mA,n,r,_⟩:=I.xE ed;obtain⟨od,m9,_⟩:=uL n;exact⟨_,some od,t,⟨at_,rfl,rfl,m9⟩,rfl⟩
theorem Inv.hidden (I:Inv X pins σ H s) (hx:X.ex = []) (hs:X.stack=X.env::X.outer) (hf:X.env.frame=some X.env.locals) (ha:H a=some (cg C dx a)) (h0:X.jC a=none)
  (k:(hideAll s.heap (a::cY X.stack)).StaysIn h') (up:s.heap.UpToSlots h'):Un X.fs [] X.jC (jA H a) X.cM.heap h'/\cW X.prog X.w (jA H a) h':=by
 have ub:Un X.fs [] X.jC H X.cM.heap s.heap:=by have:=I.base;rw[hx]at this;exact this
 have yv:∀b,b∈cY X.stack->b=X.env.locals\/b∈X.fs:=fun b hb=>by
  have:=I.xM b hb;rcases aY.mp this with z|z
  ·exact .inl z
  ·exact .inr z
 have nA:∀ {b:Addr},H b=none->b≠a:=fun e z=>by subst z;rw[ha]at e;cases e
 have get:∀b o,s.heap.get? b=some o->b≠a->b ∉ cY X.stack->h'.get? b=some o:=fun b o e n m=>k b o (hideAll_get _ e fun z=>by
  rcases aY.mp z with z|z
  ·exact n z
  ·exact m z)
 have yw:∀b o,X.cM.heap.get? b=some o->b≠X.env.locals:=fun b o e z=>by
  have h1:=aV e;have h2:=I.ok.above;subst z;exact absurd h1 (Dq.mpr h2)
 have yg:∀b o,b∈X.fs->s.heap.get? b=some o -> ∃sl,h'.get? b=some { o with slots:=sl }:=fun b o m e=>by
  obtain⟨_,o',e',nf⟩:=(I.gL).mem m;rw[e]at e';cases e'
  exact up b o e nf
 refine⟨⟨fun b o e n m _=>?_,fun b o e n m _=>?_,fun b o e n _=>LD (ub.free b o e n (by simp)),fun b o e _=>?_,fun b xs e=>?_,fun b o u e=>?_,fun b ps e=>?_⟩,fun b o e=>?_⟩
 ·have e1:=ub.keep b o e n m (by simp)
  refine get b o e1 (nA (ub.free b o e n (by simp))) fun z=>?_
  rcases yv b z with z|z
  ·exact yw b o e z
  ·exact m z
 ·obtain⟨sl,e1⟩:=ub.slot b o e n m (by simp)
  obtain⟨yL,e2⟩:=yg b _ m e1;exact⟨yL,e2⟩
 ·obtain⟨o',e1⟩:=ub.there b o e (by simp)
  by_cases m:b∈X.fs
  ·obtain⟨sl,e2⟩:=yg b _ m e1
   exact⟨_,e2⟩
  ·refine⟨o',get b o' e1 (fun z=>?_) fun z=>?_⟩
   ·subst z
    have:=ub.free b o e h0 (by simp)
    rw[ha]at this;cases this
   ·rcases yv b z with z|z
    ·exact yw b o e z
    ·exact m z
 ·have e1:=ub.kJ b xs e
  rw[mz (bg e1 ha)];exact e1
 ·have e1:=ub.jX b o u e
  rw[mz (bg e1 ha)];exact e1
 ·obtain⟨mo,e1⟩:=ub.kU b ps e
  exact⟨mo,by rw[mz (bg e1 ha)];exact e1⟩
 ·obtain⟨n,e1⟩:=LC e
  have tm:∀ {c:Addr}{u:HO},H c=some u->c ∉ cY X.stack:=fun q m=>by
   have:=I.Bb _ m;rw[q]at this;cases this
  refine(I.ar b o e1).gY (fun c u hc q=>?_) (fun c q=>?_) fun c xs q=>?_
  ·rcases hc with rfl|q1
   ·exact get _ u q n (tm e1)
   ·exact get c u q (bg q1 ha) (tm q1)
  ·rw[mz (bg q ha)];exact q
  ·rw[mz (bg q ha)];exact q
def Cx.gK (X:Cx) (a:Addr):Cx:={ X with A:=X.A.mark (some (.ref a)),calm:=false,xe:=fun _ _=>False }
theorem Inv.gK (I:Inv X pins σ H s) (a:Addr):Inv (X.gK a) pins σ H s:=
 ⟨⟨I.ok.mod,I.ok.kind,I.ok.glob,I.ok.blt,I.ok.above,I.ok.inj,I.ok.has,I.ok.qd,(fun z=>Bool.noConfusion (show false=true from z)),I.ok.frames,I.ok.m4,I.ok.ou,I.ok.bs,I.ok.lb,I.ok.pX,I.ok.og,I.ok.gL,I.ok.lY⟩,I.os,I.bare,I.base,I.loc,I.cell,I.free,I.iD,I.pin,I.ar,I.len⟩
theorem Inv.uncaught {Y:Cx} (ok:X.Ok) (I:Inv (X.gK a) pins σ H s):Inv X pins σ H s:=
 ⟨ok,I.os,I.bare,I.base,I.loc,I.cell,I.free,I.iD,I.pin,I.ar,I.len⟩
theorem SP.uncaught {D:Ends}{f:Flow} (ok:X.Ok) (h:SP (X.gK a) pins D f s):SP X pins D f s:=by
 cases f with
 |next=>obtain⟨aG,H',I,q⟩:=h;exact⟨aG,H',I.uncaught (Y:=X) ok,q⟩
 |brk=>obtain⟨aG,H',I,q⟩:=h;exact⟨aG,H',I.uncaught (Y:=X) ok,q⟩
 |cont=>obtain⟨aG,H',I,q⟩:=h;exact⟨aG,H',I.uncaught (Y:=X) ok,q⟩
 |ret u=>obtain⟨v,aG,H',I,r,q⟩:=h;exact⟨v,aG,H',I.uncaught (Y:=X) ok,r,q⟩
theorem Xq {its:Array Value} (tr:Nat->Bool) (hh:A.in1.handled=none) (bB:l≠it) (hl:g.IsList l its)
  (ht:∀i v,its[i]? = some v -> ∃a ws,v = .ref a/\a≠it/\IsTup g a ws/\ws.size<=sizeLine/\tr i = !ws.isEmpty):∀ (k i:Nat) (s:Shared),its.size - i=k->i<=its.size->(∀b o,b≠it->g.get? b=some o->s.heap.get? b=some o)->s.heap.IsListIter it l i ->
  (∀h' tk,(∀b o,b≠it->g.get? b=some o->h'.get? b=some o)->R (.ok (.ret (.bool (((List.range its.size).drop i).any tr)))) { s with heap:=h',toks:=tk }) ->
  codeAny (model P w) A (.builtin "any.loop" ⟨[.ref it],[]⟩) R s:=by
 intro k
 induction k with
 |zero =>
  intro i s hk hi kp hit hR;obtain rfl:i=its.size:=by omega
  refine jo F.entry_any_loop (?_:wpAny _ _ _ _ _ _);rw[show A.under (.builtin "any.loop" ⟨[.ref it],[]⟩)=A.in1 from mq KI _];show wpAny _ _ (pyNext (.ref it) >>= _) _ _ s;have y8:s.heap.IsList l its:=hl.at fun o e=>kp l o bB e;refine ae (wpAny_pyNext_list_end hh hit y8 (by simp) fun h' ex=>ae (lF (ak ?_)))
  have:=hR h' s.toks fun b o n e=>ex b o n (kp b o n e);rw[Ue (by simp)]at this
  exact this
 |succ k ih =>
  intro i s hk hi kp hit hR;have aS:i < its.size:=by omega
  have hd:(List.range its.size).drop i=i::(List.range its.size).drop (i+1):=by rw[Dr (by simpa using aS),List.getElem_range]
  refine jo F.entry_any_loop (?_:wpAny _ _ _ _ _ _);rw[show A.under (.builtin "any.loop" ⟨[.ref it],[]⟩)=A.in1 from mq KI _];show wpAny _ _ (pyNext (.ref it) >>= _) _ _ s;have y8:s.heap.IsList l its:=hl.at fun o e=>kp l o bB e;have hx:its[i]? = some its[i]:=by simp[aS]
  obtain⟨a,ws,ea,na,abS,hz,htr⟩:=ht i _ hx;refine ae (wpAny_pyNext_list_item hit y8 hx fun h' abT sb=>?_);have rM:∀b o,b≠it->g.get? b=some o->h'.get? b=some o:=fun b o n e=>sb.extBut b o n (kp b o n e);have aan:IsTup h' a ws:=by
   obtain⟨o,ho,r⟩:=abS;exact⟨o,rM a o na ho,r⟩
  rw[ea];refine ae (eM (truthy_tuple (s:={ s with heap:=h' }) aan (by rw[aN]at hz;omega) (ae (KJ ?_))))
  rw[<-htr];cases hb:tr i with
  |false =>
   refine ak ⟨pj KI _,ih (i+1) _ (by omega) aS rM abT fun h2 tk2 k2=>?_⟩
   have:=hR h2 tk2 k2;rw[hd,uw,hb,Ud]at this;exact this
  |true =>
   refine ae (lF (ak ?_));have:=hR h' (s.toks+1+1) rM;rw[hd,uw,hb,Bool.true_or]at this;exact this
theorem WA (hc:X.calm=true):d5 X (.builtin "any") (fun xs H Q=>∃ (p:Addr) (ys:List V) (rs:List (List V)),xs = [.ref p]/\aj X.K H p ys/\Paired (fun y r=>∃a,y=V.ref a/\aC X.K H a r) ys rs/\Q (.bl (rs.any fun r=>!r.isEmpty)) H):=by
 intro pins s σ H xs us Q I r h;obtain⟨p,ys,rs,rfl,hq,pr,q⟩:=h;obtain⟨u,rfl,rx⟩:=vals1 r;cases rx
 obtain⟨its,rv,pl,hz⟩:=I.list hq;have hlen:=rv.length;have all:∀i v,its[i]? = some v -> ∃a ws,v = .ref a/\IsTup s.heap a ws/\ws.size<=sizeLine/\(rs.map fun r=>!r.isEmpty).getD i false = !ws.isEmpty:=by
  intro i v e;clear q hq pl hz r
  induction rv generalizing rs i with
  |nil=>simp at e
  |cons r1 rt ih =>
   cases pr with
   |cons p1 pt =>
    cases i with
    |zero =>
     simp at e;subst e;obtain⟨a,rfl,ha⟩:=p1;cases r1
     obtain⟨ws,r2,ht,B'⟩:=I.tuple ha;have j5:=r2.length;exact⟨a,_,rfl,ht,by rw[cS];omega,by rw[DT r2];rfl⟩
    |succ i=>exact ih _ pt (by simpa using hlen) i (by simpa using e)
 have hsz:its.toArray.size=rs.length:=by rw[cS,<-hlen];exact mj pr
 have fin:(List.range its.toArray.size).any (fun i=>(rs.map fun r=>!r.isEmpty).getD i false)=rs.any fun r=>!r.isEmpty:=by
  rw[hsz]
  apply xh.mpr
  simp only[sj,oW]
  constructor
  ·rintro⟨i,hi,e⟩
   refine⟨rs[i],iO hi,?_⟩
   simpa [List.getD,hi] using e
  ·rintro⟨r,hr,e⟩
   obtain⟨i,hi,rfl⟩:=KL hr;exact⟨i,hi,by simpa [List.getD,hi] using e⟩
 refine call_function_tree F.kind_any F.plain_any F.entry_any (F.args_any1 (.ref p)) (?_:wpAny _ _ _ _ _ _);unfold Builtin.«any»;refine ae (m:=oneArg "any" _) (ak (ae (Di pl.isList ?_)));have new:∀b o,s.heap.get? b=some o->b≠s.heap.objs.size:=fun b o e=>bp (aV e);obtain⟨ol,y9,_⟩:=id pl.isList;refine ak ⟨pj KI _,Xq (g:=s.heap) (fun i=>(rs.map fun r=>!r.isEmpty).getD i false) (I.ok.hd hc) (new p ol y9) pl.isList (fun i v e=>?_) _ 0 _ rfl (bG _) (fun b o n e=>aT _ e) ⟨_,cu _ rfl,rfl,rfl⟩ fun h' tk kp=>?_⟩
 ·obtain⟨a,ws,ea,ht,B',e2⟩:=all i v (by simpa using e)
  obtain⟨o,ho,_⟩:=id ht;exact⟨a,ws,ea,new a o ho,ht,B',e2⟩
 ·rw[Ug,fin]
  exact⟨.bl _,H,I.kept (t':=tk) fun b o e=>kp b o (new b o e) e,rfl,q⟩
theorem nR (hc:X.calm=true):d5 X (.builtin "all") (fun xs H Q=>∃ (p:Addr) (bs:List Bool),xs = [.ref p]/\aj X.K H p (bs.map V.bl)/\Q (.bl (bs.all id)) H):=by
 intro pins s σ H xs us Q I r h;obtain⟨p,bs,rfl,hq,q⟩:=h;obtain⟨u,rfl,rx⟩:=vals1 r;cases rx
 obtain⟨its,rv,pl,hz⟩:=I.list hq;have hlen:=rv.length;have vals:its=bs.map Value.bool:=by
  clear q hq pl hz r hlen
  induction bs generalizing its with
  |nil=>cases rv;rfl
  |cons b bs ih =>
   cases rv with
   |cons r1 rt=>cases r1;rw[ih _ rt];rfl
 have new:∀b o,s.heap.get? b=some o->b≠s.heap.objs.size:=fun b o e=>bp (aV e);obtain⟨ol,y9,_⟩:=id pl.isList;refine call_all_walk (Di pl.isList ?_);refine⟨s.heap.objs.size,_,_,_,_,_,fun i=>bs.getD i true,rfl,Walks.list (A:=X.A.in1) (I.ok.hd hc) s.heap.objs.size p (new p ol y9) its.toArray,⟨⟨_,cu _ rfl,rfl,rfl⟩,pl.isList.at fun o e=>aT _ e⟩,fun i v s2 Q2 E2 hv iy=>?_,fun h' tk kp=>?_⟩
 ·rw[vals]at hv
  have:bs[i]?.map Value.bool=some v:=by simpa using hv
  obtain⟨b,hb,rfl⟩:=ib.mp this;refine nM ?_;have e:bs.getD i true=b:=by rw[kf,hb];rfl
  exact e ▸ iy
 ·have fin:(List.range its.toArray.size).all (fun i=>bs.getD i true)=bs.all id:=by
   have hs:its.toArray.size=bs.length:=by rw[vals];simp
   rw[hs]
   apply xh.mpr
   simp only[o7,oW]
   constructor
   ·intro h b hb
    obtain⟨i,hi,rfl⟩:=KL hb
    simpa [List.getD,hi] using h i hi
   ·intro h i hi
    simpa [List.getD,hi] using h bs[i] (iO hi)
  rw[fin];exact⟨.bl _,H,I.kept (t':=tk) fun b o e=>kp b o (by simpa using new b o e) (aT _ e),rfl,q⟩
def Ys:V->List V->Hp->VK->Prop:=fun x vs H Q=>∃ (l:Addr) (ys:List Str) (y:Str) (j:Nat),x = .ref l/\vs = [.str y]/\H l=some (.lst (ys.map V.str))/\ys[j]? = some y/\(∀m,m < j->ys[m]? ≠ some y)/\Q (.int j) H
theorem Ez:HD X "list.index" Ys:=by
 intro pins s σ H x vs v us Q I rx rv h;obtain⟨l,ys,y,j,rfl,rfl,hH,hj,gZ,q⟩:=h;cases rx
 obtain⟨u,rfl,t,rfl⟩:=rv.one;obtain⟨z,its,n,r,hl,e⟩:=I.yr hH;have cG:j < its.length:=by
  have:=(cR.mp hj).1;rw[<-hl,aA];exact this
 have at_:∀m (hm:m < its.length),∃ (w:Str) (t':Tok),ys[m]? = some w/\its[m] = .str w t':=fun m hm=>by
  have ll:m < ys.length:=by rw[<-hl,aA]at hm;exact hm
  obtain⟨u,hu,t',ht⟩:=r.get (i:=m) (x:= .str ys[m]) (by rw[eX,cP ll];rfl)
  rw[cP hm]at hu;exact⟨ys[m],t',cP ll,by rw[f' hu];exact ht⟩
 have fl:(ys.map V.str).all nZ=true:=i8 ys;refine Ko F.slot_list_index ⟨_,e,rfl⟩ F.entry_list_index (F.args_list_index_2 _ _) (SeqAt.list_indexAt l its.toArray n none #[] (.str y t) (iI (.str y)) j (by simpa using cG) ?_ ?_ ?_) ⟨e,?_,?_⟩
 ·rw[aN]at z;have:=hl;omega
 ·obtain⟨w,t',hw,ew⟩:=at_ j cG
  rw[hj]at hw;cases hw;show iI (.str y) (its.toArray[j])=true;rw[akc,ew,Bk (y:= .str y) ⟨t',rfl⟩ rfl];show decide _=true;exact gI rfl
 ·intro m hm hmj
  have ll:m < its.length:=by simpa using hm
  obtain⟨w,t',hw,ew⟩:=at_ m ll;show iI (.str y) (its.toArray[m])=false;rw[akc,ew,Bk (y:= .str w) ⟨t',rfl⟩ rfl];have ne:=gZ m hmj;rw[hw]at ne;show decide _=false;exact jN fun z=>ne (by rw[z])
 ·intro u hu
  exact uU (x:= .str y) ⟨t,rfl⟩ rfl r fl u (by simpa using hu)
 ·exact⟨.int j,H,I.tok _,⟨_,rfl⟩,q⟩
section
variable{p2 p3 p4:Pos}{k:Nat}
def abU (K:Frag) (te:TE):TE:=fun σ H Q=>te σ H fun x H2=>∃ (l:Addr) (xs:List V),x = .ref l/\aj K H2 l xs /\ ∀p,H2 p=none->Q (.ref p) (upd H2 p (.lst xs.reverse))
theorem ZC (he:PE X e te):PE X (.Subscript e (.Slice none none (some (.UnaryOp .USub (.Constant (.int 1) k p3) p4)) p2) pos) (abU X.K te):=by
 intro pins s σ H Q I h;refine Subscript_ (aE (he pins s σ H _ I h) fun v s1 hQ9=>?_);obtain⟨x,H1,I1,r1,l,xs,ex,hx,q⟩:=hQ9;subst ex;cases r1
 refine wpAny_Slice ?_;rw[TU];refine ak (ak ?_);refine aE (nV (vt vd aP) pins s1 σ H1 (fun o H'=>o=some (-1)/\H'=H1) I1 ⟨_,rfl,_,rfl,rfl,rfl⟩) fun vs s4 hQ9=>?_;obtain⟨o,H4,I4,ps,eo,eH⟩:=hQ9;subst eo eH;have I5:Inv X pins σ H4 { s4 with heap:=s4.heap.push { cls:= .type "slice",data:= .fields #[.none,.none,vs] } }:=I4.kept (t':=s4.toks) fun b ob z=>aT _ z;obtain⟨its,r,ht,hz⟩:=I5.list hx;have hlen:=r.length;refine tail_any (ops:=_) ht.isList.typeIs TV.lookup ?_ (by with_unfolding_all rfl)
 refine wpAny_getItem_list_slice ht.isList (Heap.IsSliceOf.new ..) .none .none ps (by decide) ?_ (by rw[cS];omega)
 rw[krv_pick];refine⟨.ref _,_,I5.laid (t':=s4.toks) (o:= .lst xs.reverse) (fun b ob z=>aT _ z) (aR _) ?_,rfl,q _ (I5.ar.fresh (aR _))⟩;exact⟨by rw[KN];exact hz,its.reverse,0,r.reverse,cu _ rfl⟩
end
end L2
namespace L2
open PySem PySem.Spec PyProof.Rows
section
variable{κ:Type} [DecidableEq κ]
def bU (kvs:List (κ×V)) (k:κ):Option V:=(kvs.find? fun kv=>decide (kv.1=k)).map (·.2)
def putK (kvs:List (κ×V)) (k:κ) (v:V):List (κ×V):=
 if (kvs.any fun kv=>decide (kv.1=k))=true then kvs.map (fun kv=>if kv.1=k then (kv.1,v) else kv) else kvs ++ [(k,v)]
theorem jS {p:κ×V}{r:List (κ×V)}{k:κ} (e:p.1=k):bU (p::r) k=some p.2:=by simp[bU,An,e]
theorem ju {p:κ×V}{r:List (κ×V)}{k:κ} (e : ¬ p.1=k):bU (p::r) k=bU r k:=by simp[bU,An,e]
theorem uW (k:κ):∀kvs:List (κ×V),(kvs.any fun kv=>decide (kv.1=k))=(bU kvs k).isSome
 |[]=>rfl
 |p::r=>by
  rw[uw]
  by_cases e:p.1=k
  ·simp only[jS e,gI e,Bool.true_or,Option.isSome_some]
  ·rw[ju e,jN e,Ud];exact uW k r
theorem MG (k j:κ) (y:V):∀kvs:List (κ×V),bU (kvs.map fun kv=>if kv.1=k then (kv.1,y) else kv) j=(bU kvs j).map fun x=>if j=k then y else x
 |[]=>rfl
 |p::r=>by
  have ih:=MG k j y r;rw[cz]
  by_cases h:p.1=k
  ·rw[aB h]
   by_cases e:p.1=j
   ·rw[jS (p:=(p.1,y)) e,jS e,Dg,aB (e.symm.trans h)]
   ·rw[ju (p:=(p.1,y)) e,ju e,ih]
  ·rw[au h]
   by_cases e:p.1=j
   ·rw[jS (p:=p) e,jS e,Dg,au (fun z=>h (e.trans z))]
   ·rw[ju (p:=p) e,ju e,ih]
theorem Mb (k j:κ) (y:V):∀kvs:List (κ×V),bU kvs k=none->bU (kvs ++ [(k,y)]) j=if j=k then some y else bU kvs j
 |[],_=>by
  by_cases e:k=j
  ·rw[aB e.symm];exact jS (p:=(k,y)) e
  ·rw[au (fun z=>e z.symm)];exact ju (p:=(k,y)) e
 |p::r,hn=>by
  rw[List.cons_append];have hk : ¬ p.1=k:=fun z=>by rw[jS z]at hn;cases hn
  rw[ju hk]at hn;have ih:=Mb k j y r hn
  by_cases e:p.1=j
  ·rw[jS e,jS e,au (fun z=>hk (e.trans z))]
  ·rw[ju e,ju e,ih]
theorem lM (kvs:List (κ×V)) (k j:κ) (y:V):bU (putK kvs k y) j=if j=k then some y else bU kvs j:=by
 unfold putK
 by_cases a:(kvs.any fun kv=>decide (kv.1=k))=true
 ·rw[aB a,MG]
  rw[uW]at a
  by_cases e:j=k
  ·obtain⟨x,hx⟩:=ajW.mp a
   rw[aB e,e,hx,Dg,aB rfl]
  ·rw[au e]
   cases bU kvs j with
   |none=>rfl
   |some x=>rw[Dg,au e]
 ·rw[au a]
  refine Mb k j y kvs ?_;rw[uW]at a;cases q:bU kvs k with
  |none=>rfl
  |some x=>rw[q]at a;exact(a rfl).elim
theorem DO (kvs:List (κ×V)) (k:κ) (v:V):(putK kvs k v).length<=kvs.length+1:=by
 unfold putK;split
 ·rw[aA];omega
 ·rw[cZ,eN,Al];omega
theorem MH {kvs:List (κ×V)}{k:κ} (v:V) (h:bU kvs k=none):putK kvs k v=kvs ++ [(k,v)]:=by
 unfold putK;rw[uW,h];exact au (by decide)
theorem iT.xv {o:Option V}{u:Option Value} (r:iT o u):o.isSome=u.isSome:=by
 cases o with
 |none=>cases u with
  |none=>rfl
  |some _=>exact(show False from r).elim
 |some _=>cases u with
  |none=>exact(show False from r).elim
  |some _=>rfl
theorem KV.val {kvs:List (κ×V)}{vs:List (κ×Value)} (r:KV kvs vs) (k:κ):iT (bU kvs k) (valueAt vs k):=by
 unfold KV at r
 induction r with
 |nil=>exact True.intro
 |@cons p q ps qs h t ih =>
  obtain⟨h1,h2⟩:=h
  by_cases e:p.1=k
  ·have e':q.1=k:=h1.symm.trans e
   have b:valueAt (q::qs) k=some q.2:=by simp[valueAt,An,e']
   rw[jS e,b];exact h2
  ·have e' : ¬ q.1=k:=fun z=>e (h1.trans z)
   have b:valueAt (q::qs) k=valueAt qs k:=by simp[valueAt,An,e']
   rw[ju e,b];exact ih
theorem KV.any {kvs:List (κ×V)}{vs:List (κ×Value)} (r:KV kvs vs) (k:κ):(kvs.any fun kv=>decide (kv.1=k))=vs.any fun kv=>decide (kv.1=k):=by
 unfold KV at r
 induction r with
 |nil=>rfl
 |cons h t ih=>rw[uw,uw,ih,h.1]
theorem KV.Gv {kvs:List (κ×V)}{vs:List (κ×Value)} (r:KV kvs vs) (k:κ) (ry:RelV y u) :
  KV (kvs.map fun kv=>if kv.1=k then (kv.1,y) else kv) (vs.map fun kv=>if kv.1=k then (kv.1,u) else kv):=by
 unfold KV at r ⊢
 induction r with
 |nil=>exact .nil
 |@cons p q ps qs h t ih =>
  rw[cz,cz];refine .cons ?_ ih;obtain⟨h1,h2⟩:=h
  by_cases e:p.1=k
  ·rw[aB e,aB (h1.symm.trans e)];exact⟨h1,ry⟩
  ·rw[au e,au (fun z=>e (h1.trans z))];exact⟨h1,h2⟩
theorem KV.put {kvs:List (κ×V)}{vs:List (κ×Value)} (r:KV kvs vs) (k:κ) (ry:RelV y u):KV (putK kvs k y) (stored vs k u):=by
 unfold putK stored;rw[r.any k]
 by_cases e:(vs.any fun kv=>decide (kv.1=k))=true
 ·rw[aB e,aB e];exact r.Gv k ry
 ·rw[au e,au e];exact Paired.snoc r ⟨rfl,ry⟩
theorem KV.keys {kvs:List (κ×V)}{vs:List (κ×Value)} (r:KV kvs vs):kvs.map (·.1)=vs.map (·.1):=by
 unfold KV at r
 induction r with
 |nil=>rfl
 |cons h t ih=>rw[cz,cz,ih,h.1]
theorem KV.length {kvs:List (κ×V)}{vs:List (κ×Value)} (r:KV kvs vs):kvs.length=vs.length:=mj r
end
theorem vw {k:Key} (r:RelV (kV k) u):(cL P w).is k u=true:=by
 cases k with
 |inl i=>obtain⟨t,e⟩:=(show ∃t,u=Value.int i t from r);subst e;exact Vr P w i t
 |inr x=>obtain⟨t,e⟩:=(show ∃t,u=Value.str x t from r);subst e;exact Vs P w x t
theorem Mc {P:Program}{w:World}:∀ {ks:List Key}{us:List Value},Vals (ks.map kV) us->ItemsAre (cL P w) ks us
 |[],_,r=>by rw[Kq]at r;cases r;exact .nil
 |k::ks,_,r=>by
  rw[cz]at r;cases r with
  |cons h t=>exact .cons (vw h) (Mc t)
abbrev KT (H:Hp):List (List Key×V)->List (List Key×Addr×Value)->Prop:=Paired fun p q=>p.1=q.1/\H q.2.1=some (.tup (p.1.map kV))/\RelV p.2 q.2.2
theorem KT.val {kvs:List (List Key×V)}{xs:List (List Key×Addr×Value)} (r:KT H kvs xs) (k:List Key):iT (bU kvs k) ((atKey xs k).map (·.2)):=by
 induction r with
 |nil=>exact True.intro
 |@cons p q ps qs h t ih =>
  obtain⟨h1,_,h2⟩:=h
  by_cases e:p.1=k
  ·have e':q.1=k:=h1.symm.trans e
   have b:atKey (q::qs) k=some q.2:=by simp[atKey,An,e']
   rw[jS e,b];exact h2
  ·have e' : ¬ q.1=k:=fun z=>e (h1.trans z)
   have b:atKey (q::qs) k=atKey qs k:=by simp[atKey,An,e']
   rw[ju e,b];exact ih
theorem KT.Gv {kvs:List (List Key×V)}{xs:List (List Key×Addr×Value)} (r:KT H kvs xs) (k:List Key) (ry:RelV y u) :
  KT H (kvs.map fun kv=>if kv.1=k then (kv.1,y) else kv) (xs.map (putAt k u)):=by
 induction r with
 |nil=>exact .nil
 |@cons p q ps qs h t ih =>
  rw[cz,cz];refine .cons ?_ ih;obtain⟨h1,h2,h3⟩:=h;unfold putAt
  by_cases e:p.1=k
  ·rw[aB e,aB (h1.symm.trans e)];exact⟨h1,h2,ry⟩
  ·rw[au e,au (fun z=>e (h1.trans z))];exact⟨h1,h2,h3⟩
theorem KT.put {kvs:List (List Key×V)}{xs:List (List Key×Addr×Value)} (r:KT H kvs xs) (k:List Key) (hb:H b=some (.tup (k.map kV))) (ry:RelV y u) :
  KT H (putK kvs k y) (storedH xs k b u):=by
 have e:(kvs.any fun kv=>decide (kv.1=k))=(atKey xs k).isSome:=by
  rw[uW,(r.val k).xv,Uh]
 unfold putK storedH;rw[e]
 by_cases q:(atKey xs k).isSome=true
 ·rw[aB q,aB q];exact r.Gv k ry
 ·rw[au q,au q];exact Paired.snoc r ⟨rfl,hb,ry⟩
theorem KT.keeps {kvs:List (List Key×V)}{xs:List (List Key×Addr×Value)} (r:KT H kvs xs) (ht:∀b ys,H b=some (.tup ys)->H' b=some (.tup ys)):KT H' kvs xs:=
 Paired.BA r fun _ _ z=>⟨z.1,ht _ _ z.2.1,z.2.2⟩
theorem Ot {u:HO} (ok:cW P w H h) (e:Rd H a u):bu P w H h a u:=e.ok ok
theorem rb (ok:cW P w H h) (e:Rd H a (.dK kvs)):kvs.length<=sizeLine/\(a==sysModules)=false /\ ∃vs,KV kvs vs/\h.DictOf (cL P w) a vs:=
 show bu P w H h a (.dK kvs) from Ot ok e
theorem vx (ok:cW P w H h) (e:H a=some (.dK kvs)):kvs.length<=sizeLine/\(a==sysModules)=false /\ ∃vs,KV kvs vs/\h.DictOf (cL P w) a vs:=rb ok (.inl e)
theorem xT {ks:List Key} (ok:cW P w H h) (e:H a=some (.tup (ks.map kV))):(tupleKind (cL P w)).is h ks a:=by
 obtain⟨_,its,r,o,h1,h2,n,h3,_⟩:=(show bu P w H h a (.tup (ks.map kV)) from ok a _ e);exact⟨o,its.toArray,n,h1,h2,h3,by simpa using Mc r⟩
theorem yh {kvs:List (List Key×V)} (ok:cW P w H h) (e:Rd H a (.dT kvs)):kvs.length<=sizeLine/\(a==sysModules)=false /\
  ∃xs,KT H kvs xs/\h.DictOfH (tupleKind (cL P w)) a xs:=by
 obtain⟨z,y,xs,r,o,es,ep,h1,h2,h3,h4,h5⟩:=(show bu P w H h a (.dT kvs) from Ot ok e);refine⟨z,y,xs,r,o,es,ep,h1,h2,h3,h4,fun x hx=>?_,h5⟩;have all:∀ {l:List (List Key×V)}{m:List (List Key×Addr×Value)},KT H l m -> ∀x∈m,(tupleKind (cL P w)).is h x.1 x.2.1:=by
  intro l m q
  induction q with
  |nil=>intro x hx;exact nomatch hx
  |@cons p q ps qs hq t ih =>
   intro x hx;rcases aY.mp hx with e|hx
   ·subst e
    exact xT ok (by rw[<-hq.1];exact hq.2.1)
   ·exact ih x hx
 exact all r x hx
theorem aao {kvs:List (List Key×V)} (ok:cW P w H h) (e:H a=some (.dT kvs)):kvs.length<=sizeLine/\(a==sysModules)=false /\
  ∃xs,KT H kvs xs/\h.DictOfH (tupleKind (cL P w)) a xs:=yh ok (.inl e)
def fh (H:Hp) (a:Addr) (y:V) (r:Option V):Prop:=
 (∃kvs k,Rd H a (.dK kvs)/\y=kV k/\r=bU kvs k) \/ ∃kvs k b,Rd H a (.dT kvs)/\y = .ref b/\H b=some (.tup (k.map kV))/\r=bU kvs k
noncomputable def mV (H:Hp) (a:Addr) (y v:V) (H':Hp):Prop:=
 (∃kvs k,H a=some (.dK kvs)/\y=kV k/\kvs.length < sizeLine/\H'=upd H a (.dK (putK kvs k v))) \/
 ∃kvs k b,H a=some (.dT kvs)/\y = .ref b/\H b=some (.tup (k.map kV))/\kvs.length < sizeLine/\H'=upd H a (.dT (putK kvs k v))
theorem fh.k {k:Key} (e:H a=some (.dK kvs)):fh H a (kV k) (bU kvs k):= .inl ⟨kvs,k,.inl e,rfl,rfl⟩
theorem mV.k {k:Key} (e:H a=some (.dK kvs)) (hl:kvs.length < sizeLine):mV H a (kV k) v (upd H a (.dK (putK kvs k v))):= .inl ⟨kvs,k,e,rfl,hl,rfl⟩
section
variable{r:Value}{o:Option V}{E:Value->Shared->Prop}
theorem Inv.big (I:Inv X pins σ H s):sysModules < s.heap.objs.size:=by
 have h:mainGlobals < s.heap.objs.size:=(I.mod.glob.keeps I.bk).lt;exact xi (by decide) h
theorem WB {Q:Value->Shared->Prop} (hu:A.units+1 < cLine) (I:Inv X pins σ H s) (g:fh H a y (some v)) (ry:RelV y u) (h:∀w' s',Inv X pins σ H s'->RelV v w'->Q w' s') :
  wpAny (model X.prog X.w) A (getItem (.ref a) u) Q E s:=by
 rcases g with⟨kvs,k,e,ey,l⟩|⟨kvs,k,b,e,ey,eb,l⟩
 ·subst ey
  obtain⟨z,hd,vs,rel,dd⟩:=rb I.ar e;obtain⟨w',hw,ir⟩:=iT.some_of (v:=v) (o:=valueAt vs k) (by rw[l];exact rel.val k)
  exact wpAny_getItem_of (vw ry) dd.mapOf hw (h w' _ (I.tok _) ir)
 ·subst ey
  cases (show u=Value.ref b from ry)
  obtain⟨z,hd,xs,rel,dd⟩:=yh I.ar e;obtain⟨w',hw,ir⟩:=iT.some_of (v:=v) (o:=(atKey xs k).map (·.2)) (by rw[l];exact rel.val k)
  obtain⟨p,hp,hU⟩:=ib.mp hw;refine wpAny_getItem_heap (KO hu) (xT I.ar eb) dd hp ?_;rw[hU];exact h w' _ (I.tok _) ir
theorem abV {Q:Value->Shared->Prop} (hu:A.units+1 < cLine) (I:Inv X pins σ H s) (g:fh H a y o) (ry:RelV y u) (h:∀s',Inv X pins σ H s'->Q (.bool o.isSome) s') :
  wpAny (model X.prog X.w) A (compareOp .In u (.ref a)) Q E s:=by
 rcases g with⟨kvs,k,e,ey,l⟩|⟨kvs,k,b,e,ey,eb,l⟩
 ·subst ey
  obtain⟨z,hd,vs,rel,dd⟩:=rb I.ar e;refine wpAny_in_of (vw ry) hd dd.mapOf ?_;rw[<-(rel.val k).xv,<-l];exact h _ (I.tok _)
 ·subst ey
  cases (show u=Value.ref b from ry)
  obtain⟨z,hd,xs,rel,dd⟩:=yh I.ar e;refine wpAny_in_heap (KO hu) (xT I.ar eb) hd dd ?_;have q:=(rel.val k).xv;rw[Uh]at q;rw[<-q,<-l];exact h _ (I.tok _)
theorem Yt {Q:Value->Shared->Prop} (hu:A.units+1 < cLine) (I:Inv X pins σ H s) (g:fh H a y o) (ry:RelV y u) (h:∀s',Inv X pins σ H s'->Q (.bool (!o.isSome)) s') :
  wpAny (model X.prog X.w) A (compareOp .NotIn u (.ref a)) Q E s:=by
 rcases g with⟨kvs,k,e,ey,l⟩|⟨kvs,k,b,e,ey,eb,l⟩
 ·subst ey
  obtain⟨z,hd,vs,rel,dd⟩:=rb I.ar e;refine wpAny_notIn_of (vw ry) hd dd.mapOf ?_;rw[<-(rel.val k).xv,<-l];exact h _ (I.tok _)
 ·subst ey
  cases (show u=Value.ref b from ry)
  obtain⟨z,hd,xs,rel,dd⟩:=yh I.ar e;refine wpAny_notIn_heap (KO hu) (xT I.ar eb) hd dd ?_;have q:=(rel.val k).xv;rw[Uh]at q;rw[<-q,<-l];exact h _ (I.tok _)
theorem Nl {ob:HO} (I:Inv X pins σ H s) (mu:yJ (H a)) (hs:Heap.SameBut a s.heap h') (he:∃q,h'.get? a=some q) (new:bu X.prog X.w (upd H a ob) h' a ob) :
  Inv X pins σ (upd H a ob) { s with heap:=h',toks:=t' }:=
 I.write (x:=a) (e:=a) mu (.inl rfl) (fun b q hb z=>(hs.2 b hb).trans z) he new
theorem Fu {vs:List (Key×Value)} (z:kvs.length<=sizeLine) (hd:(a==sysModules)=false) (rel:KV kvs vs) (dd:h'.DictOf (cL P w) a vs) :
  bu P w H' h' a (.dK kvs):=⟨z,hd,vs,rel,dd⟩
theorem WC {Q:Unit->Shared->Prop} (hu:A.units+1 < cLine) (I:Inv X pins σ H s) (g:mV H a y v H') (ry:RelV y u) (rv:RelV v r) (h:∀s',Inv X pins σ H' s'->Q () s') :
  wpAny (model X.prog X.w) A (setItem (.ref a) u r) Q E s:=by
 rcases g with⟨kvs,k,e,ey,l,eH⟩|⟨kvs,k,b,e,ey,eb,l,eH⟩
 ·subst ey eH
  obtain⟨z,hd,vs,rel,dd⟩:=vx I.ar e;have hz:vs.length<=sizeLine:=by rw[<-rel.length];exact z
  have hl:(putK kvs k v).length<=sizeLine:=by have:=DO kvs k v;omega
  refine wpAny_setItem_pairs (hsz:=hz) (vw ry) dd fun h' nc hs=>h _ ?_;have he:∃q,h'.get? a=some q:=let ⟨q,_,_,hq,_⟩:=nc;⟨q,hq⟩;exact Nl I (by rw[e];exact True.intro) hs he (Fu hl hd (rel.put k rv) nc)
 ·subst ey eH
  cases (show u=Value.ref b from ry)
  obtain⟨z,hd,xs,rel,dd⟩:=aao I.ar e;have hz:xs.length<=sizeLine:=by rw[<-mj rel];exact z
  have hl:(putK kvs k v).length<=sizeLine:=by have:=DO kvs k v;omega
  refine wpAny_setItem_heap (hsz:=hz) (KO hu) (xT I.ar eb) dd fun h' nc hs=>h _ ?_;obtain⟨q,es,ep,hq,h2,h3,h4,_,h5⟩:=nc;refine Nl I (by rw[e];exact True.intro) hs ⟨q,hq⟩ ⟨hl,hd,_,(rel.put k eb rv).keeps fun c ys ec=>?_,q,es,ep,hq,h2,h3,h4,h5⟩
  rw[ah (bg ec e (fun z=>nomatch z))];exact ec
end
section
variable{k:Key}{E:Value->Shared->Prop}
theorem aap {Q:Value->Shared->Prop} (I:Inv X pins σ H s) (e:Rd H a (.dK kvs)) (h:∀t s',Inv X pins σ H s'->Q (.int kvs.length t) s'):wpAny (model X.prog X.w) A (call (.builtin "len") [.ref a]) Q E s:=by
 obtain⟨z,hd,vs,rel,dd⟩:=rb I.ar e;refine call_len_dict hd dd (by rw[<-rel.length];rw[aN]at z;omega) ?_
 rw[<-rel.length];exact h _ _ (I.tok _)
end
def O8 (i:Expr):Prop:= ∀ov iv,subscripted i false ov iv=operate [ov,iv] (getItem ov iv)
theorem Yu {E:Value->Shared->Prop}{slice:Expr}{id:String}{Q:Value->Shared->Prop}
  (hl:typeLookup (.type T) "__getitem__" = pure (some (.builtin id))) (hs:O8 slice)
  (h:wpAny (model prog w) A (eval value env) (fun o br=>wpAny (model prog w) A (eval slice env) (fun i mJ=>mJ.TypeIs o T/\wpAny (model prog w) A (getItem o i) Q E mJ) E br) E s) :
  wpAny (model prog w) A (eval (.Subscript value slice pos) env) Q E s:=by
 refine Subscript_ (mn h (fun o br abW=>mn abW (fun i mJ Gw=>?_) fun _ _ x=>x) fun _ _ x=>x);obtain⟨hT,Gw⟩:=Gw;unfold subscriptTail;refine ae ?_;rw[getitemInPython_of_ne hT.not_modules];refine ae (Ui hT hl ?_);have fin:wpAny (model prog w) A (subscripted slice false o i) (fun r O9=>wpAny (model prog w) A (letTemporaryGo value o r >>= fun _=>pure r) Q E O9) E mJ:=by
  rw[hs o i];exact wpAny_operating (mn Gw (fun r O9 abX=>ae (wpAny_letTemporaryGo (ak abX))) fun _ _ x=>x)
 first
  |exact ak (ae fin)
  |exact ae (ak (ae fin))
  |exact ae fin
theorem Vw {o:Option V} (I:Inv X pins σ H s) (g:fh H a y o):s.TypeIs (.ref a) "dict" :=by
 rcases g with⟨kvs,k,e,_,_⟩|⟨kvs,k,b,e,_,_,_⟩
 ·obtain⟨_,_,vs,_,dd⟩:=rb I.ar e
  exact dd.typeIs
 ·obtain⟨_,_,xs,_,dd⟩:=yh I.ar e
  exact dd.typeIs
def FO (td ty:TE):TE:=fun σ H Q=>td σ H fun x H1=>ty σ H1 fun y H2=>∃a v,x = .ref a/\fh H2 a y (some v)/\Q v H2
def Gx (ty td:TE):TE:=fun σ H Q=>ty σ H fun y H1=>td σ H1 fun x H2=>∃a o,x = .ref a/\fh H2 a y o/\Q (.bl o.isSome) H2
def Yv (ty td:TE):TE:=fun σ H Q=>ty σ H fun y H1=>td σ H1 fun x H2=>∃a o,x = .ref a/\fh H2 a y o/\Q (.bl (!o.isSome)) H2
def aaq (td ty tv:TE):TS:=fun D σ H=>tv σ H fun v H1=>td σ H1 fun x H2=>ty σ H2 fun y H3=>∃a H4,x = .ref a/\mV H3 a y v H4/\D.nx σ H4
section
variable{o i:Expr}{akP:Pos}{td ty tv:TE}
theorem ja (hu:X.A.units+1 < cLine) (ho:PE X o td) (hi:PE X i ty) (hs:O8 i):PE X (.Subscript o i pos) (FO td ty):=by
 intro pins s σ H Q I h;refine Yu PySem.F.slot_dict_getitem.lookup hs (aE (ho pins s σ H _ I h) fun u s1 ⟨x,H1,I1,rx,q1⟩=>aE (hi pins s1 σ H1 _ I1 q1) fun iv s2 hQ9=>?_);obtain⟨y,H2,I2,ry,a,v,ex,g,q2⟩:=hQ9;subst ex;obtain rfl:u=Value.ref a:=rx;exact⟨Vw I2 g,WB hu I2 g ry fun w' s3 I3 ir=>⟨v,H2,I3,ir,q2⟩⟩
theorem Bn (hu:X.A.units+1 < cLine) (hi:PE X i ty) (ho:PE X o td):PC X .In i o (Gx ty td):=by
 intro pins s σ H Q I h;refine aE (hi pins s σ H _ I h) fun iv s1 ⟨y,H1,I1,ry,q1⟩=>aE (ho pins s1 σ H1 _ I1 q1) fun u s2 hQ9=>?_;obtain⟨x,H2,I2,rx,a,ov,ex,g,q2⟩:=hQ9;subst ex;obtain rfl:u=Value.ref a:=rx;exact abV hu I2 g ry fun s3 I3=>⟨.bl ov.isSome,H2,I3,rfl,q2⟩
theorem Eg (hu:X.A.units+1 < cLine) (hi:PE X i ty) (ho:PE X o td):PC X .NotIn i o (Yv ty td):=by
 intro pins s σ H Q I h;refine aE (hi pins s σ H _ I h) fun iv s1 ⟨y,H1,I1,ry,q1⟩=>aE (ho pins s1 σ H1 _ I1 q1) fun u s2 hQ9=>?_;obtain⟨x,H2,I2,rx,a,ov,ex,g,q2⟩:=hQ9;subst ex;obtain rfl:u=Value.ref a:=rx;exact Yt hu I2 g ry fun s3 I3=>⟨.bl (!ov.isSome),H2,I3,rfl,q2⟩
theorem sG (hu:X.A.units+1 < cLine) (ho:PE X o td) (hi:PE X i ty) (hv:PE X value tv) (hs:swapsWith value (some (.Subscript o i pos')) pos.line X.env=pure false) :
  PS X (.Assign [.Subscript o i pos'] value pos) (aaq td ty tv):=by
 intro pins s σ H D I h;refine wpAny_Assign_Subscript (aE (hv pins s σ H _ I h) fun r s1 ⟨v,H1,I1,rv,q1⟩=>aE (ho pins s1 σ H1 _ I1 q1) fun u s2 ⟨x,H2,I2,rx,q2⟩=>aE (hi pins s2 σ H2 _ I2 q2) fun iv s3 hQ9=>?_) hs;obtain⟨y,H3,I3,ry,a,H4,ex,g,q3⟩:=hQ9;subst ex;obtain rfl:u=Value.ref a:=rx;exact WC hu I3 g ry rv fun s4 I4=>⟨σ,H4,I4,q3⟩
end
theorem Xr (h:Heap) (hb:sysModules < h.objs.size):bu P w H (h.push { cls:= .type "dict",data:= .dict #[] }) h.objs.size (.dK []):=
 ⟨bG _,oV.mpr (aO (bp hb)),[],.nil,Heap.DictOf.new h⟩
def ZD:TE:=fun _ H Q=>∀p,H p=none->Q (.ref p) (upd H p (.dK []))
theorem uX:PE X (.Dict [] [] pos) ZD:=fun pins s σ H Q I h =>
 wpAny_Dict_empty ⟨.ref s.heap.objs.size,_,I.laid (a:=s.heap.objs.size) (o:= .dK []) (t':=s.toks) (fun _ _ q=>aT _ q) (aR _) (Xr s.heap I.big),rfl,h _ (I.ar.fresh (aR _))⟩
end L2
namespace HT
open PySem PyProof.Rows
section
variable{E:Value->Shared->Prop}
theorem U5 {lo:Option Int}{Q:Value->Shared->Prop} (ht:IsTup s.heap t items) (hs:s.heap.IsSliceOf sl vl vu .none) (pl:IsPart vl lo) (pu:IsPart vu hi)
  (h0:bo items.size 0 lo=0) (h1:bo items.size items.size hi=items.size) (h:Q (.ref t) s):wpAny (model prog w) A (getItem (.ref t) (.ref sl)) Q E s:=by
 obtain⟨os,tW,BW,yO⟩:=id hs;have HC:s.TypeIs (.ref sl) "slice" :=⟨os,tW,BW⟩;unfold getItem
 try with_reducible refine eM ?_
 first|refine ae (ak ?_)|skip
 refine ae (wpAny_sequenceKey ht.typeIs (by decide) ?_)
 refine ae (qH (name:=Str.ofString "__getitem__") ht.typeIs Ah
  (jP Ah ht.typeIs entry_tuple_getitem ?_ (args_tuple_getitem _ _)))
 show wpAny _ _ (Builtin.Tuple.tupleItemsOf (.ref t) >>= _) _ _ s;refine ae (tupleItemsOf_ ht ?_);refine ae (oZ HC ?_);rw[aB (by decide)]
 refine ae (K' hs pl pu ?_);rw[h0,h1];have abY:((((0:Nat):Int)==0 && (1:Int)==1 && (items.size - 0)==items.size)=true):=by simp
 show wpAny _ _ (if ((((0:Nat):Int)==0 && (1:Int)==1 && (items.size - 0)==items.size)=true) then _ else _) _ _ s;rw[aB abY];refine ae (ae (oZ ht.typeIs (ak ?_)));rw[aB (by decide)]
 exact ae (lF (ak ⟨_,rfl,ak h⟩))
theorem Xs {ws:List Value}{Q:Value->Shared->Prop} (ht:IsTup s.heap t ([]:List Value).toArray) (hb:IsTup s.heap b ws.toArray) (h:Q (.ref b) s):wpAny (model prog w) A (binaryOp .Add (.ref t) (.ref b)) Q E s:=by
 obtain⟨⟨cls,dd,data,sl⟩,ho,hc,n,hd⟩:=id ht;obtain⟨⟨OW,BV,data2,tV⟩,lj,gk,n2,hd2⟩:=id hb;obtain rfl:cls = .type "tuple" :=hc;obtain rfl:data = .seq #[] n:=hd;obtain rfl:OW = .type "tuple" :=gk;obtain rfl:data2 = .seq ws.toArray n2:=hd2;exact concat_meets ⟨_,ho,rfl⟩ ⟨_,lj,rfl⟩ TK TL TM TN (TQ _ _) (tuple_addW0 t b #[] ws.toArray n n2 dd BV sl tV rfl) ⟨ho,lj,h⟩
end
end HT
namespace L2
open PySem PySem.Spec PyProof.Rows PySem.W
theorem MI {q:Addr}{o:HO} (hq:H q=none):aq H (upd H q o):=fun b u e=>by rw[ah (ao e hq)];exact e
def abZ:V->Option Int->Option Int->Hp->VK->Prop:=fun x lo hi H Q=>∃a xs,x = .ref a/\H a=some (.tup xs) /\ ∀p H',aq H H'->H' p=some (.tup (d6 xs lo hi))->Q (.ref p) H'
theorem Yw:wx X abZ:=by
 intro pins s σ H x v vl vu lo hi sl Q I rx hs pl pu h;obtain⟨a,xs,rfl,hx,q⟩:=h
 by_cases hw:HT.bo xs.length 0 lo=0/\HT.bo xs.length xs.length hi=xs.length
 ·cases rx
  obtain⟨its,r,ht,hz⟩:=I.tuple (aC.of hx);have hlen:its.toArray.size=xs.length:=by rw[cS];exact r.length.symm
  refine⟨"tuple",_,Ah.lookup,ht.typeIs,HT.U5 ht hs pl pu (by rw[hlen];exact hw.1) (by rw[hlen];exact hw.2) ?_⟩
  refine⟨.ref a,H,I,rfl,q a H (aq.refl _) ?_⟩;unfold d6;rw[hw.1,hw.2,Ug,Nat.sub_zero,du];exact hx
 ·exact Zq pins s σ H (.ref a) v vl vu lo hi sl Q I rx hs pl pu ⟨a,xs,rfl,aC.of hx,hw,fun p hp=>q p _ (MI hp) ag⟩
def aar:R2:=fun x y H Q=>∃a b xs ys,x = .ref a/\y = .ref b/\H a=some (.tup xs)/\H b=some (.tup ys)/\xs.length+ys.length<=sizeLine /\ ∀p H',aq H H'->H' p=some (.tup (xs++ys))->Q (.ref p) H'
theorem Nn:cN X (binaryOp .Add) aar:=by
 intro pins s σ H x y v u Q I rx ry h;obtain⟨a,b,xs,ys,rfl,rfl,ha,hb,hz,q⟩:=h;cases xs with
 |nil =>
  cases rx
  cases ry
  obtain⟨its,r1,p1,_⟩:=I.tuple (aC.of ha);obtain⟨oj,r2,p2,_⟩:=I.tuple (aC.of hb);cases r1
  exact HT.Xs p1 p2 ⟨.ref b,H,I,rfl,q b H (aq.refl _) hb⟩
 |cons z xs=>exact Yk pins s σ H (.ref a) (.ref b) v u Q I rx ry ⟨a,b,_,ys,rfl,rfl,aC.of ha,aC.of hb,by simp,hz,fun e=>q a H (aq.refl _) (by rw[e,gr];exact ha),fun _ p hp=>q p _ (MI hp) ag⟩
theorem E3 {k:Key} (h:(cL P w).is k u=true):RelV (kV k) u:=by
 cases k with
 |inl i=>exact Value.isInt_shape (show Value.isInt i u=true from h)
 |inr x=>exact Kk (show Value.isStrOf x u=true from h)
theorem Np:∀ {xs:List V}{us:List Value},xs.length=us.length->(∀ (i:Nat) x u,xs[i]? = some x->us[i]? = some u->RelV x u)->Vals xs us
 |[],[],_,_=>.nil
 |[],_::_,h,_=>by simp at h
 |_::_,[],h,_=>by simp at h
 |x::xs,u::us,h,f=>.cons (f 0 x u rfl rfl) (Np (by simpa using h) fun i y v a b=>f (i+1) y v (by simpa using a) (by simpa using b))
theorem LF (hc:X.calm=true):d5 X (.type "list") (fun xs H Q=>∃d kvs,xs = [.ref d]/\H d=some (.dK kvs) /\ ∀l,H l=none->Q (.ref l) (upd H l (.lst (kvs.map fun kv=>kV kv.1)))):=by
 intro pins s σ H xs us Q I r h;obtain⟨d,kvs,rfl,hd,q⟩:=h;obtain⟨u,rfl,rx⟩:=vals1 r;cases rx
 obtain⟨hz,lo,vs,kv,dd⟩:=vx I.ar hd;obtain⟨ep,da⟩:=dd.dictAt;have hlen:kvs.length=vs.length:=kv.length;refine kdl_call (kdl_dict (kvs:=vs) (ep:=ep) lo) (I.ok.hd hc) da (by rw[<-hlen];exact hz) fun h' tk acc c kp e it=>?_
 refine⟨.ref s.heap.objs.size,_,I.laid (t':=tk) kp (aR _) (show bu X.prog X.w _ h' _ (.lst (kvs.map fun kv=>kV kv.1)) from⟨by rw[aA];exact hz,acc.toList,c,?_,by rw[akd];exact e⟩),rfl,q _ (I.ar.fresh (aR _))⟩
 refine Np (by rw[aA,jO];exact hlen.trans it.1.symm) fun i x v hx hv=>?_
 obtain⟨k,y,hk,hi⟩:=it.2 i v (by rw[<-Dl];exact hv)
 obtain⟨kv',fV,rfl⟩:=ib.mp (by rw[<-eX];exact hx)
 have e:kv'.1=k:=by
  clear it hx hv hlen da dd q hz hd
  induction kv generalizing i with
  |nil=>simp at fV
  |cons p _ ih =>
   cases i with
   |zero =>
    simp at fV hk;subst fV;rw[p.1,hk]
   |succ i=>exact ih i (by simpa using hk) (by simpa using fV)
 rw[e];exact E3 hi
end L2
namespace HT
open PySem PyProof.Rows
section
open PySem.SeqAt
open PySem.AutoSeq1 (wpAny_loadPart')
open PySem.MeetsSeq PySem.MeetsSeq2 PySem.MeetsSeq3
end
end HT
namespace L2
open PySem PySem.Spec PyProof.Rows PySem.W HT
theorem nX {α β:Type}{F:α->β->Prop}:∀ {l:List α}{m:List β}{i:Nat}{x:α},Paired F l m->l[i]? = some x -> ∃y,m[i]? = some y/\F x y
 |_,_,i,x,.nil,e=>by simp at e
 |_,_,0,x,.cons p _,e=>by simp at e;subst e;exact⟨_,rfl,p⟩
 |_,_,i+1,x,.cons _ t,e=>by simpa using nX (i:=i) t (by simpa using e)
end L2
namespace HT
open PySem PyProof.Rows
section
variable{E:Value->Shared->Prop}
theorem EA {vs:Array Value}{x:Value}{Q:Value->Shared->Prop} (ti:IsTupIter s.heap it t i) (ht:IsTup s.heap t vs) (hx:vs[i]? = some x)
  (q:∀h',IsTupIter h' it t (i+1)->Heap.SameBut it s.heap h'->Q x { s with heap:=h' }):wpAny (model prog w) A (Builtin.SmallTypes.nextOf (.ref it)) Q E s:=by
 obtain⟨o,e1,e2,e3⟩:=id ti;obtain⟨u,f1,_,n,f2⟩:=ht;unfold Builtin.SmallTypes.nextOf;refine ae (qH (name:=Str.ofString "__next__") ti.typeIs Ao (jP Ao ti.typeIs Uj ?_ (Uk _)));refine ae (m:=field (.ref it) 0) (dX e1 e3 (x:= .ref t) rfl (?_:wpAny _ _ (if (Value.ref t==Value.none)=true then _ else _) _ _ s));rw[au (show ¬ ((Value.ref t==Value.none)=true) from de)];refine ae (m:=field (.ref it) 1) (dX e1 e3 (x:= .int i 0) rfl (ae (m:=seqItems? (.ref t)) (nP f1 f2 ?_)));simp only[oY,hx];refine ae (sq e1 e3 (by simp) (ak ⟨x,rfl,ak (q _ ⟨_,nO _ e1 (Ul (Ds e3 _)),(Obj.cls_mapFields ..).trans e2,?_⟩ (Ap ..))⟩))
 rw[Ds e3];simp[rawInt]
theorem MJ {vs:Array Value}{Q:Value->Shared->Prop} (hh:A.handled=none) (ti:IsTupIter s.heap it t i) (ht:IsTup s.heap t vs) (hx:vs[i]? = none)
  (q:∀h' e,Heap.ExtBut it s.heap h'->(∃o,h'.get? e=some o/\o.cls = .type "StopIteration")->E (.ref e) { s with heap:=h' }):wpAny (model prog w) A (Builtin.SmallTypes.nextOf (.ref it)) Q E s:=by
 obtain⟨o,e1,e2,e3⟩:=id ti;obtain⟨u,f1,_,n,f2⟩:=ht;unfold Builtin.SmallTypes.nextOf;refine ae (qH (name:=Str.ofString "__next__") ti.typeIs Ao (jP Ao ti.typeIs Uj ?_ (Uk _)));refine ae (m:=field (.ref it) 0) (dX e1 e3 (x:= .ref t) rfl (?_:wpAny _ _ (if (Value.ref t==Value.none)=true then _ else _) _ _ s));rw[au (show ¬ ((Value.ref t==Value.none)=true) from de)];refine ae (m:=field (.ref it) 1) (dX e1 e3 (x:= .int i 0) rfl (ae (m:=seqItems? (.ref t)) (nP f1 f2 ?_)));simp only[oY,hx];refine ae (lF (ae (sq e1 e3 (by simp) (?_:wpAny _ _ (newExc (.type "StopIteration") [] >>= _) _ _ _))))
 refine ae ?_;simp only[newExc,newTuple];refine ae (jl (ae (m:=firstArgMember _ _) (KP (a:=Value.none) (by first|rfl|(simp only[firstArgMember];rfl)) (jl ?_ (by size_fits)))) (by size_fits))
 simp only[raiseNew];refine ae (KQ ?_);rw[show A.in1.handled=none from hh];exact ae (ak (uy (q _ _ (((Ap ..).extBut.push _).push _) ⟨_,cu _ rfl,rfl⟩)))
end
open PySem.AutoSeq1 (wpAny_loadPart')
end HT
namespace L2
open PySem PySem.Spec PyProof.Rows PySem.W HT
end L2
namespace HT
open PySem PyProof.Rows
end HT
namespace HT
open PySem PyProof.Rows PySem.W
end HT
namespace HT
open PySem PyProof.Rows PySem.W L2
theorem AM:plainId "dict.update.loop" = true:=by decide +kernel
theorem Md:entryFor table "dict.update.loop" = some Builtin.«dict.update.loop» :=entryFor_of_fast (by kernel_rfl)
theorem stored_new {K:Type} [DecidableEq K] {kvs:List (K×Value)}{k:K}{v:Value} (h:k ∉ kvs.map (·.1)):stored kvs k v=kvs ++ [(k,v)]:=by
 unfold stored;rw[au];intro z;obtain⟨p,hp,e⟩:=sj.mp z;exact h (aU.mpr ⟨p,hp,by simpa using e⟩)
end HT
namespace HT
open PySem PyProof.Rows
section
open PySem.SeqAt
open PySem.AutoSeq1 (wpAny_loadPart')
open PySem.MeetsSeq PySem.MeetsSeq2 PySem.MeetsSeq3
end
end HT
namespace L2
open PySem PySem.Spec PyProof.Rows PySem.W HT
theorem c9 {wB:Scope} (h:(sc.names.map (·.1)).Nodup/\N'.Nodup/\Gu N N' cA sc=true /\ ∀p∈sc.names,p.2 = .free->wB.names.lookup p.1=some .cell\/wB.names.lookup p.1=some .free) (a:sc.kind = .function:=by rfl) (b:cA.length=N'.length:=by rfl):bX N wB N' cA sc:=⟨a,h.1,h.2.1,b,Oq h.2.2.1,h.2.2.2⟩
theorem cF {P:List Str} (h:N.Nodup/\(∀x∈P,sc.names.lookup x=some .local\/sc.names.lookup x=some .cell) /\ ∀y∈sc.names,y.2 ≠ .free) (a:sc.kind = .function:=by rfl) (b:sc.isCoroutine=false:=by rfl) (c:sc.isGenerator=false:=by rfl) (d:N.take P.length=P:=by rfl):b6 N P sc:=⟨a,b,c,h.1,d,h.2.1,h.2.2⟩
theorem jV (h:(xs.map V.str)[i]? = some v):i < (xs.map V.str).length /\ ∃hl:i < xs.length,V.str xs[i]=v/\xs.take (i+1)=xs.take i ++ [xs[i]]:=by
 have h1:=(cR.mp h).1;have h2:i < xs.length:=by simpa using h1
 exact⟨h1,h2,by simpa [h2] using h,by rw[gu,cP h2];rfl⟩
theorem k6 (h:n+64 < cLine):n+1 < cLine:=by omega
theorem Ca:3<=sizeLine:=by rw[aN];decide
theorem ng:2<=sizeLine:=Nat.le_of_succ_le Ca
theorem j6:1<=sizeLine:=Nat.le_of_succ_le ng
end L2
namespace L2
open PySem PySem.Spec PyProof.Rows PySem.W
def rg (o:Obj):Option Value:=match o.data with|.fields vs=>vs[2]? | _=>none
def Kp (o o':Obj):Prop:=o'.dict=o.dict/\rg o'=rg o
def KD {α:Type}:Sem α->Prop
 |.pure _=>True
 |.raise _=>True
 |.unsupported _=>True
 |.finish _=>True
 |.rule _ k=>KD (k ())
 |.at _ k=>KD (k ())
 |.load _ _ k=>∀o,KD (k o)
 |.update _ _ f k=>(∀o,Kp o (f o))/\KD (k ())
 |.alloc _ k=>∀a,KD (k a)
 |.loadIfAlive _ k=>∀o,KD (k o)
 |.point _ k=>KD (k ())
 |.register _ _=>False
 |.fresh k=>∀t,KD (k t)
 |.ask k=>∀x,KD (k x)
 |.choose _ _ k=>∀n,KD (k n)
 |.os _ _ k=>∀r,KD (k r)
 |.call _ _ _ _ _=>False
 |.handled _ k=>∀v,KD (k v)
 |.newGen _ k=>∀n,KD (k n)
 |.genState _ k=>∀x,KD (k x)
 |.resume _ _ _ _=>False
 |.yield _ _ _ _=>False
 |.stack k=>∀l,KD (k l)
 |.fork _ _=>False
 |.thread k=>∀n,KD (k n)
 |.await _ _ _ _ _=>False
def RD (h h':Heap):Prop:= ∀ (a:Addr) (o:Obj),h.objs[a]? = some o -> ∃o',h'.objs[a]? = some o'/\Kp o o'
theorem RD.refl (h:Heap):RD h h:=fun a o e=>⟨o,e,rfl,rfl⟩
theorem RD.trans {h1 h2 h3:Heap} (a:RD h1 h2) (b:RD h2 h3):RD h1 h3:=fun x o e=>by
 obtain⟨o1,e1,d1⟩:=a x o e;obtain⟨o2,e2,d2⟩:=b x o1 e1;exact⟨o2,e2,d2.1.trans d1.1,d2.2.trans d1.2⟩
theorem RD.push (r:RD h0 h) (o:Obj):RD h0 (h.push o):=r.trans fun x u e=>⟨u,by
 obtain⟨objs,l⟩:=h;show(objs.push o)[x]? = some u;have hx:x < objs.size:=(Am.mp e).1;rw[Array.getElem?_push,au (bp hx)];exact e,rfl,rfl⟩
theorem RD.update (r:RD h0 h) {f:Obj->Obj} (hf:∀o,Kp o (f o)):RD h0 (h.update a f):=r.trans fun x u e=>by
 obtain⟨objs,l⟩:=h;show ∃o',(objs.modify a f)[x]? = some o'/\_;rw[Array.getElem?_modify];have e':objs[x]? = some u:=e
 by_cases c:a=x
 ·rw[aB c,e'];exact⟨f u,rfl,hf u⟩
 ·rw[au c];exact⟨u,e',rfl,rfl⟩
theorem RD.dict (r:RD h h') {o':Obj} (e:h.get? a=some o) (e':h'.get? a=some o'):Kp o o':=by
 have raw:∀ {g:Heap}{u:Obj},g.get? a=some u->g.objs[a]? = some u:=fun {g u} q=>by
  unfold Heap.get? at q;split at q
  ·cases q
  ·exact q
 obtain⟨o2,e2,d⟩:=r a o (raw e);rw[raw e']at e2;cases e2
 exact d
theorem aas {α:Type}{M:Model}{Γ:PySem.Ctx}:∀ {t:Sem α}{Q:α->Pos->Shared->Prop}{E:Value->Pos->Shared->Prop}{p:Pos}{s:Shared},KD t->RD h0 s.heap->Sem.wp M Γ t Q E p s ->
  Sem.wp M Γ t (fun v p s'=>Q v p s'/\RD h0 s'.heap) (fun v p s'=>E v p s'/\RD h0 s'.heap) p s:=by
 intro t
 induction t with
 |pure a=>intro Q E p s _ r h;exact⟨h,r⟩
 |raise e=>intro Q E p s _ r h;exact⟨h,r⟩
 |unsupported w=>intro Q E p s _ r h;exact h
 |finish e=>intro Q E p s _ r h;exact h
 |rule t k ih=>intro Q E p s kd r h;exact ih () kd r h
 |«at» q k ih=>intro Q E p s kd r h;exact ih () kd r h
 |load a q k ih=>intro Q E p s kd r h;obtain⟨o,e,h⟩:=h;exact⟨o,e,ih o (kd o) r h⟩
 |update a q f k ih=>intro Q E p s kd r h;exact⟨h.1,ih () kd.2 (r.update kd.1) h.2⟩
 |alloc o k ih=>intro Q E p s kd r h;exact ih _ (kd _) (r.push o) h
 |loadIfAlive a k ih=>intro Q E p s kd r h;exact ih _ (kd _) r h
 |point l k ih=>intro Q E p s kd r h;exact ih () kd r h
 |register a k ih=>intro Q E p s kd r h;exact h
 |fresh k ih=>intro Q E p s kd r h;exact ih _ (kd _) r h
 |ask k ih=>intro Q E p s kd r h;exact ih _ (kd _) r h
 |choose src n k ih=>intro Q E p s kd r h;exact⟨h.1,ih _ (kd _) r h.2⟩
 |os q l k ih=>intro Q E p s kd r h;exact ih _ (kd _) r h
 |call c hd g l k ih=>intro Q E p s kd r h;exact False.elim kd
 |handled own k ih=>intro Q E p s kd r h;exact ih _ (kd _) r h
 |newGen c k ih=>intro Q E p s kd r h;exact ih _ (kd _) r h
 |genState g k ih=>intro Q E p s kd r h;obtain⟨st,e,h⟩:=h;exact⟨st,e,ih _ (kd _) r h⟩
 |resume g rs l k ih=>intro Q E p s kd r h;exact False.elim kd
 |yield v g l k ih=>intro Q E p s kd r h;exact False.elim kd
 |stack k ih=>intro Q E p s kd r h;exact ih _ (kd _) r h
 |fork c k ih=>intro Q E p s kd r h;exact False.elim kd
 |thread k ih=>intro Q E p s kd r h;exact ih _ (kd _) r h
 |await a t b l k ih=>intro Q E p s kd r h;exact False.elim kd
theorem ZE {α:Type}{M:Model}{t:Sem α}{Q:α->Shared->Prop}{E:Value->Shared->Prop} (k:KD t) (h:wpAny M A t Q E s) :
  wpAny M A t (fun v s'=>Q v s'/\RD s.heap s'.heap) (fun v s'=>E v s'/\RD s.heap s'.heap) s:=fun Γ p hi=>aas k (RD.refl _) (h Γ p hi)
theorem KD.bind {α β:Type}{f:α->Sem β} (hf:∀x,KD (f x)):∀ {t:Sem α},KD t->KD (t.bind f):=by
 intro t
 induction t with
 |pure a=>intro _;exact hf a
 |raise e=>intro _;trivial
 |unsupported w=>intro _;trivial
 |finish e=>intro _;trivial
 |rule t k ih=>intro kd;exact ih () kd
 |«at» q k ih=>intro kd;exact ih () kd
 |load a q k ih=>intro kd o;exact ih o (kd o)
 |update a q g k ih=>intro kd;exact⟨kd.1,ih () kd.2⟩
 |alloc o k ih=>intro kd a;exact ih a (kd a)
 |loadIfAlive a k ih=>intro kd o;exact ih o (kd o)
 |point l k ih=>intro kd;exact ih () kd
 |register a k ih=>intro kd;exact False.elim kd
 |fresh k ih=>intro kd o;exact ih o (kd o)
 |ask k ih=>intro kd o;exact ih o (kd o)
 |choose src n k ih=>intro kd o;exact ih o (kd o)
 |os q l k ih=>intro kd o;exact ih o (kd o)
 |call c hd g l k ih=>intro kd;exact False.elim kd
 |handled own k ih=>intro kd o;exact ih o (kd o)
 |newGen c k ih=>intro kd o;exact ih o (kd o)
 |genState g k ih=>intro kd o;exact ih o (kd o)
 |resume g rs l k ih=>intro kd;exact False.elim kd
 |yield v g l k ih=>intro kd;exact False.elim kd
 |stack k ih=>intro kd o;exact ih o (kd o)
 |fork c k ih=>intro kd;exact False.elim kd
 |thread k ih=>intro kd o;exact ih o (kd o)
 |await a t b l k ih=>intro kd;exact False.elim kd
theorem KD.dz {α β:Type}{t:Sem α}{f:α->Sem β} (h:KD t) (hf:∀x,KD (f x)):KD (t >>= f):=KD.bind hf h
theorem KD.pure {α:Type}{x:α}:KD (Pure.pure x:Sem α):=True.intro
theorem KD.oE {α:Type}{w:String}:KD (PySem.unsupported w:Sem α):=True.intro
theorem EB:KD PySem.stack:=fun _=>True.intro
theorem E4:KD (PySem.load a):=fun _=>True.intro
theorem Me {f:Obj->Obj} (h:∀o,Kp o (f o)):KD (PySem.update a f):=⟨h,True.intro⟩
theorem Vx {v:Value}:KD (fieldsOf v):=by
 unfold fieldsOf;split
 ·refine KD.dz E4 fun o=>?_
  split
  ·exact KD.pure
  ·exact KD.oE
 ·exact KD.oE
theorem AV {v:Value}:KD (field v i):=by
 unfold field;refine KD.dz Vx fun o=>?_;split
 ·exact KD.pure
 ·exact KD.oE
theorem U7 {x:Value} (hi:i≠2):∀o:Obj,Kp o (Obj.mapFields (·.setIfInBounds i x) o):=fun⟨c,d,dt,s⟩=>by
 cases dt <;> first|exact⟨rfl,rfl⟩|exact⟨rfl,Array.getElem?_setIfInBounds_ne hi⟩
theorem xr {v x:Value} (hi:i≠2:=by decide):KD (setField v i x):=by
 unfold setField;split
 ·unfold updateField
  refine KD.dz E4 fun o=>?_;split
  ·split
   ·exact Me (U7 hi)
   ·exact KD.oE
  ·exact KD.oE
 ·exact KD.oE
theorem DI {ty:String}{vs:List Value}:KD (newFields ty vs):=by
 unfold newFields newObj
 dsimp only
 split
 ·exact KD.oE
 ·show KD (newObjAsIs _ _ _)
  unfold newObjAsIs;exact KD.dz (fun _=>True.intro) fun _=>KD.pure
theorem Vy {b:Bool}{l:List Env}:KD (keptBack env b l):=by
 unfold keptBack;split
 ·split
  ·exact KD.pure
  ·unfold underTheClaimsCaller
   exact KD.dz (KD.dz EB fun _=>KD.pure) fun _=>by split <;> exact KD.pure
 ·exact KD.pure
theorem WD {l:List Env}:KD (behindIsImport env l):=by
 unfold behindIsImport;split
 ·exact KD.pure
 ·split
  ·exact KD.pure
  ·exact KD.dz AV fun _=>KD.pure
theorem MK:∀l:List Env,KD (readyFrames l)
 |[]=>by unfold readyFrames;exact KD.pure
 |env::outer=>by
  unfold readyFrames;split
  ·refine KD.dz E4 fun o=>?_
   split
   ·exact KD.pure
   ·exact KD.dz WD fun _=>KD.dz Vy fun _=>KD.dz (Me fun _=>⟨rfl,rfl⟩) fun _=>MK outer
  ·exact KD.oE
theorem DW:KD (PySem.frameOf env):=by
 unfold PySem.frameOf;refine KD.dz ?_ fun l=>KD.dz ?_ fun r=>?_
 ·unfold frameEnvs
  exact KD.dz EB fun _=>KD.pure
 ·unfold frameObject
  split
  ·exact KD.pure
  ·exact KD.dz (MK _) fun _=>KD.pure
 ·split
  ·exact KD.pure
  ·exact KD.oE
theorem EC {b:Bool}:KD (entryPlaceOf f b):=by
 unfold entryPlaceOf;refine KD.dz EB fun l=>?_;split
 ·exact KD.pure
 ·exact KD.pure
theorem xF {e:Value}:KD (noteFrame e env):=by
 unfold noteFrame;split
 ·refine KD.dz AV fun hd=>?_
  have last:∀f b,KD (setField e 1 =<< (do EntryCells.newEntry hd (<- PySem.frameOf env) .none (rawInt f) .none (<- entryPlaceOf f b))):=fun f b=>KD.dz (KD.dz DW fun _=>KD.dz EC fun _=>DI) fun _=>xr;split
  ·refine KD.dz AV fun x=>?_
   split
   ·exact KD.pure
   ·exact KD.dz xr fun _=>KD.dz DW fun _=>KD.dz EC fun _=>KD.dz DI fun _=>xr
  ·exact KD.dz DW fun _=>KD.dz EC fun _=>KD.dz DI fun _=>xr
 ·exact KD.oE
theorem pB {e:Value}{f:Option Addr}:KD (setFlight e f):=by
 unfold setFlight;refine KD.dz AV fun tb=>?_;split
 ·exact xr
 ·exact KD.pure
theorem DX {e:Value}:KD (leaving env e):=by
 unfold leaving;exact KD.dz xF fun _=>pB
def eV (n:Option Value) (C:Addr) (dx:Option Addr) (a:Addr):HO:= .ext fun h=>∃ox vs,h.get? a=some ox/\ox.cls = .ref C/\ox.dict=dx/\ox.data = .fields vs/\(∀y,n=some y->vs[2]? = some y)
section
variable{n:Option Value}
theorem Yx {vs:Array Value} (e:h.get? a=some ox) (c:ox.cls = .ref C) (d:ox.dict=dx) (f:ox.data = .fields vs) (z:∀y,n=some y->vs[2]? = some y):bu P w H h a (eV n C dx a):=
 ⟨⟨ox,vs,e,c,d,f,z⟩,⟨_,e⟩,fun _ _ ⟨ox,vs,q,r⟩ k=>⟨ox,vs,k _ q,r⟩⟩
theorem E5 {B:Heap}{l:List Env}{a0:Value} (f:Heap.FlyingW B l a (.ref C) a0 h) (r:∃ox,h.get? a=some ox/\ox.dict=dx/\(∀y,n=some y->rg ox=some y)):bu P w H h a (eV n C dx a):=by
 obtain⟨_,_,_,oe,vs,_,_,_,he,hc,hd,_⟩:=f;obtain⟨ox,e,d,z⟩:=r;rw[he]at e;cases e;exact Yx he hc.1 d hd fun y=>by have:=z y;unfold rg at this;rw[hd]at this;exact this
theorem E6 (ok:cW P w H h) (n:H a=none) (o:bu P w (upd H a O) h a O):cW P w (upd H a O) h:=fun b u e=>by
 by_cases c:b=a
 ·subst c
  rw[ag]at e;cases e;exact o
 ·rw[ah c]at e
  exact(ok b u e).gY (fun _ _ _ q=>q) (fun x q=>by rw[ah (ao q n)];exact q) fun x xs q=>by rw[ah (ao q n)];exact q
theorem Un.add {fs ex:List Addr} (u:Un fs ex H H' h h') (n':H' a=none) (n:h.get? a=none):Un fs ex H (upd H' a O) h h':=
 ⟨u.keep,u.slot,fun b o e q x=>by
  have:b≠a:=by rintro rfl;rw[n]at e;cases e
  rw[ah this];exact u.free b o e q x,u.there,fun b xs e=>by
  have q:=u.kJ b xs e;rw[ah (ao q n')];exact q,fun b o v e=>by
  have q:=u.jX b o v e;rw[ah (ao q n')];exact q,fun b ps e=>by
  obtain⟨m,q⟩:=u.kU b ps e;exact⟨m,by rw[ah (ao q n')];exact q⟩⟩
theorem ML:upd (jA H a) a O=upd H a O:=by
 funext b;unfold upd
 by_cases c:b=a
 ·rw[aB c,aB c]
 ·rw[au c,au c,mz c]
end
section
variable{E:Value->Shared->Prop}{fs:List (Str×V)}{f:Str}{n:Option Value}
theorem WE {b:Bool}{Q:Value->Shared->Prop} (I:Inv X pins σ H s) (e:H a=some (eV n C (some d) a)) (ed:H d=some (d7 d fs)) (c:dU X.K C) (no:findIn X.K (.ref C) f=some none) (l:fs.lookup f=some v)
  (h:∀u s',Inv X pins σ H s'->RelV v u->Q u s'):wpAny (model X.prog X.w) A (getAttr (.ref a) f b) Q E s:=by
 obtain⟨ox,vs,at_,hc,hd,hf,_⟩:=(I.ar a _ e).1;obtain⟨_,mA,n',r,_⟩:=I.xE ed;obtain⟨od,m9,look⟩:=uL n';have rf:=r f;rw[l]at rf;obtain⟨u,hu,ru⟩:=iT.some_of rf;have J:InstAt s.heap a ox C (some od):=⟨at_,hc,by unfold notCls;rw[hf],by rw[hd];exact m9⟩
 exact Yo I.bx J c (findObj_own c.hd no rfl (by rw[look,hu])) (Ws ru) (h u _ (I.tok _) ru)
end
section
variable{f:Str}
noncomputable def aat (X:Cx) (ta:TE) (f:Str):TE:=fun σ H Q=>ta σ H fun x H1=>∃a n C d fs v,x = .ref a/\H1 a=some (eV n C (some d) a)/\H1 d=some (d7 d fs)/\dU X.K C/\findIn X.K (.ref C) f=some none/\fs.lookup f=some v/\Q v H1
theorem Bg (he:PE X e ta) (hb:attributeBase e f X.env (eval e X.env)=eval e X.env:=by rfl):PE X (.Attribute e f pos) (aat X ta f):=by
 intro pins s σ H Q I h;refine Yh hb (aE (he pins s σ H _ I h) fun u s1 hQ9=>?_);obtain⟨x,H1,I1,rx,a,_,C,d,fs,v,ex,ea,ed,c,n,l,q⟩:=hQ9;subst ex;obtain rfl:u=Value.ref a:=rx;exact WE I1 ea ed c n l fun u' s2 I2 ru=>⟨v,H1,I2,ru,q⟩
end
theorem Vz {R:Addr->Addr->Option Addr->Hp->Prop} (I:Inv X pins σ H s) (hc:X.calm=true) (he:PE X e te)
  (h:te σ H fun v H1=>∃a C dx i,v = .ref a/\H1 a=some (cg C dx a)/\(∀d,dx=some d -> ∃fs,H1 d=some (d7 d fs))/\dU X.K C/\eU X.K C i=true/\R a C dx H1)
  (fin:∀a C dx H1 s1,Inv X pins σ H1 s1->H1 a=some (cg C dx a)->R a C dx H1->X.xe (.ref a) s1) :
  wpAny (model X.prog X.w) X.A (exec (.Raise (some e) none pos) X.env) (SP X pins D) X.xe s:=by
 rw[arm_exec_Raise];refine ae (qE (show wpAny _ _ (raiseStmt X.env (some (do let v <- eval e X.env;standAt pos;pure v)) none) _ _ _ from ?_));unfold raiseStmt;refine ae (ae (aE (he pins s σ H _ I h) fun u s1 hQ9=>?_));obtain⟨v,H1,J,r,a,C,dx,i,ev,ea,hd,c,q,hR⟩:=hQ9;refine ae (qE (ak ?_));subst ev;obtain rfl:u = .ref a:=r;obtain⟨ox,od,t,inst,rfl⟩:=J.Nk ea hd;have Bv:Looks (model X.prog X.w) s1.heap (isType (.ref a)) false:=fun A' Q' E' s' k z=>by
  simp only[isType,loadHead];exact ae (Ak (k _ _ inst.at_) (ak z))
 have HX:Looks (model X.prog X.w) s1.heap (isInstance (.ref a) (.type "BaseException")) true:=inst.type.andThen (Dp J.bx c.be);obtain⟨bm,N,nm,qn,bs,BD,sn,sub,ab,col,dd,k0,k1,k2,k3,k5,mN,hC,_⟩:=(uM J.bx q).ex;have HY:s1.TypeIs (.ref C) "type" :=⟨_,hC,rfl⟩;refine ae (ak (ae (eM ?_)));unfold excFromValue isExcClass;refine ae (ae (Bv.here (ak ?_)));refine ae (HX.here (ak ?_));refine ae (Bv.here ?_);unfold raisedInstance;refine ae (ae (inst.type.here (ae (oZ HY ?_))));rw[aB (show(Value.type "type" == Value.type "type")=true from by decide)]
 refine ak ?_;unfold setFlight raiseNew;refine ae (ae (dX inst.at_ rfl (x:= .none) rfl ?_));rw[au (show ¬ ((Value.none != Value.none)=true) from by decide)]
 refine ak (ae (wpAny_handled_none (J.ok.hd hc) ?_))
 first
  |exact uy (fin a C dx H1 s1 J ea hR)
  |exact ae (ak (uy (fin a C dx H1 s1 J ea hR)))
def fb (P:Program) (w:World):lZ:=fun outer H s E e s'=>∃ (a:Addr) (n:Option Value) (C:Addr) (a0:Value) (dx:Option Addr) (H':Hp) (B:Heap),e = .ref a/\s'.os=s.os/\AllBare s'.gens/\Heap.FlyingW B outer a (.ref C) a0 s'.heap /\
 (∃ox,s'.heap.get? a=some ox/\ox.dict=dx/\(∀y,n=some y->rg ox=some y))/\(∀h',B.StaysIn h'->s'.heap.UpToSlots h'->Un (cY outer) [] H H' s.heap h'/\cW P w H' h')/\H' a=none/\s.heap.get? a=none/\E (.ref C) (some a) (upd H' a (eV n C dx a))
theorem jw {α:Type}{M:Model}{t:Sem α}{Q Q':α->Shared->Prop}{E:Value->Shared->Prop} (k:KD t) (h:wpAny M A t Q E s) (q:∀v s',Q v s'->RD s.heap s'.heap->Q' v s'):wpAny M A t Q' E s:=
 mn (ZE k h) (fun v s' z=>q v s' z.1 z.2) fun _ _ z=>z.1
noncomputable def Yy (K:Frag) (H0:Hp) (E:XK) (te:TE):TS:=fun _ σ H=>te σ H fun v H1=>∃a C dx i,v = .ref a/\H1 a=some (cg C dx a)/\(∀d,dx=some d -> ∃fs,H1 d=some (d7 d fs))/\dU K C/\eU K C i=true/\H0 a=none/\E (.ref C) (some a) (upd H1 a (eV (some .none) C dx a))
theorem Mf (he:PE (jY (fb P w) P w K mg base N qual scope f cd A outer s H E) e te) :
  PS (jY (fb P w) P w K mg base N qual scope f cd A outer s H E) (.Raise (some e) none pos) (Yy K H E te):=by
 intro pins s1 σ H1 D I h;refine Vz (R:=fun a C dx H2=>H a=none/\E (.ref C) (some a) (upd H2 a (eV (some .none) C dx a))) I rfl he h fun a C dx H2 s2 J ea ⟨h0,hE⟩=>?_;have fr:s2.heap.FunFrames base (envOfC qual scope s.heap.objs.size f cd::outer):=J.stack;have all:∀env∈(envOfC qual scope s.heap.objs.size f cd::outer),∀b,env.frame=some b->b∈a::cY (envOfC qual scope s.heap.objs.size f cd::outer):=fun env m b hb=>cp _ (sd.mpr ⟨env,m,hb⟩);obtain⟨t,at_⟩:=J.excAt ea;have new:s.heap.get? a=none:=by
  have ub:Un (cY outer) [] H H2 s.heap s2.heap:=J.base;cases q:s.heap.get? a with
  |none=>rfl
  |some o =>
   have:=ub.free a o q h0 (by simp)
   rw[ea]at this;cases this
 show wpAny (model P w) _ (leaving _ (.ref a)) _ _ _;refine jw DX (wpAny_leaving_firstW (Q:=fun _ s'=>∃h',s'={ s2 with heap:=h' }/\Heap.LeftW (hideAll s2.heap (a::cY (envOfC qual scope s.heap.objs.size f cd::outer))) (envOfC qual scope s.heap.objs.size f cd::outer) a (.ref C) (.ref t) s2.heap h') (base:=hideAll s2.heap (a::cY (envOfC qual scope s.heap.objs.size f cd::outer))) (L:=s.heap.objs.size) (a0:= .ref t) J.ok.frames (funFrames_hide fr all) rfl at_ (fun b o q=>of_hideAll _ q) (Du _ bj) rfl rfl rfl fun h' hL=>⟨h',rfl,hL⟩) fun _ s' ⟨h',es,hL⟩ rd=>?_;subst es;obtain⟨k1,⟨_,_,k2⟩,k3,k4⟩:=hL;have fl:Heap.FlyingW (hideAll s2.heap (a::cY (envOfC qual scope s.heap.objs.size f cd::outer))) outer a (.ref C) (.ref t) h':=⟨k1,Du _ bj,k2,k3⟩;obtain⟨ox,jJ,_⟩:=fl.there;refine⟨a,some .none,C,.ref t,dx,jA H2 a,hideAll s2.heap (a::cY (envOfC qual scope s.heap.objs.size f cd::outer)),rfl,J.os,J.bare,fl,⟨ox,jJ,(rd.dict at_ jJ).1,fun y ey=>by cases ey;exact(rd.dict at_ jJ).2⟩,fun gD kb up=>?_,by unfold jA;rw[aB rfl],new,by rw[ML];exact hE⟩
 exact J.hidden rfl rfl rfl ea h0 kb (uz k4 up)
theorem aW.zd {st:Stmt}{k:Nat} (F:aW K x qual st f fd) (S:b6 N ps (aJ st)) (len:∀vs H Q E,sp vs H Q E->vs.length=ps.length)
  (pS:∀ (cdv:Value) (A:Around) (outer:List Env) (s:Shared) (H:Hp) (vs:List V) (Q:VK) (E:XK),a7 k (A.deeper (envOfC qual (aJ st) s.heap.objs.size f cdv))->sp vs H Q E ->
   ∃t,gA (jY (fb P w) P w K mg base N qual (aJ st) f cdv A outer s H E) (b9 st) t/\t { nx:=fun _ H'=>Q .aF H',rt:=Q } (start N vs) H):aI P w K mg base (fb P w) (k+1) f fd ps sp:=by
 obtain⟨oc,od,kV,doc,pm,an,cdv,ct,oq,rfl,lk,gQ⟩:=F.ex;exact Om lk gQ S len fun A outer s H vs Q E hr lh=>pS cdv A outer s H vs Q E hr lh
theorem DJ {E:Value->Shared->Prop}{Q:Bool->Shared->Prop}{i:Option Value}{r:Bool} (X:K.In s.heap) (q:eU K B i=true) (me:mroIn K C (.ref B)=some r) (at_:s.heap.get? a=some ox) (cl:ox.cls = .ref C) (h:Q r s) :
  wpAny (model P w) A (excMatches (.ref a) (.ref B)) Q E s:=by
 obtain⟨bm,N,nm,qn,bs,BD,sn,sub,ab,col,dd,k0,k1,k2,k3,k5,mN,hC,_,_,T⟩:=(uM X q).ex;have L:Looks (model P w) s.heap (isSubtype (.ref C) (.ref B)) r:=Dp X me;obtain⟨hh,g,d,tk,os⟩:=s;have hT:bm.contains (.type "BaseException")=true:=T.hasType (by decide)
 have hcB:(Value.ref B::bm).contains (.type "BaseException")=true:=by rw[List.contains_cons,hT,Bool.or_true]
 have f:=tc_notTuple;unfold excMatches
 repeat (first|(with_reducible refine Dm at_ ?_;rw[cl])|with_reducible refine Dm hC ?_|(with_reducible refine wpAny_isSubtype_exc hC ?_;rw[hcB])|(with_reducible refine L.here ?_)|wp_step)
 cases r <;> (wp_walk;exact h)
def Cx.kz (X:Cx) (pins:List (Addr×Obj)) (E:St->XK):Cx:={ X with pn:=X.pn++pins,xe:=fun e s'=>∃aG H s1,Inv X pins aG H s1/\fb X.prog X.w X.stack H s1 (E aG) e s' }
section
variable{ya:List (Addr×Obj)}{E:St->XK}
theorem Inv.kz (I:Inv X pins σ H s):Inv (X.kz pins E) [] σ H s:=
 ⟨⟨I.ok.mod,I.ok.kind,I.ok.glob,I.ok.blt,I.ok.above,I.ok.inj,I.ok.has,I.ok.qd,I.ok.hd,I.ok.frames,I.ok.m4,I.ok.ou,I.ok.bs,I.ok.lb,I.ok.pX,I.ok.og,I.ok.gL,I.ok.lY⟩,I.os,I.bare,I.base,I.loc,I.cell,I.free,I.iD,(fun p hp=>I.pin p (by rw[gr]at hp;exact hp)),I.ar,I.len⟩
theorem Inv.pT (ok:X.Ok) (I:Inv (X.kz pins E) ya σ H s):Inv X pins σ H s:=
 ⟨ok,I.os,I.bare,I.base,I.loc,I.cell,I.free,I.iD,(fun p hp=>I.pin p (ke _ hp)),I.ar,I.len⟩
theorem Cx.Ok.aau (ok:(X.kz pins E).Ok):X.Ok:=⟨ok.mod,ok.kind,ok.glob,ok.blt,ok.above,ok.inj,ok.has,ok.qd,ok.hd,ok.frames,ok.m4,ok.ou,ok.bs,ok.lb,ok.pX,ok.og,ok.gL,ok.lY⟩
theorem SP.pT {f:Flow} (ok:X.Ok) (h:SP (X.kz pins E) ya D f s):SP X pins D f s:=by
 cases f with
 |next=>obtain⟨aG,H',I,q⟩:=h;exact⟨aG,H',I.pT ok,q⟩
 |brk=>obtain⟨aG,H',I,q⟩:=h;exact⟨aG,H',I.pT ok,q⟩
 |cont=>obtain⟨aG,H',I,q⟩:=h;exact⟨aG,H',I.pT ok,q⟩
 |ret u=>obtain⟨v,aG,H',I,r,q⟩:=h;exact⟨v,aG,H',I.pT ok,r,q⟩
end
section
variable{Ou:List (Addr×Obj)}{EE:St->XK}{k:Nat}{p:Pos}{t:TA}
def ZF (sp:Sp) (EE:St->XK) (t:TA):TE:=fun σ H Q=>t σ H fun vs H1=>sp vs H1 Q (EE σ)
theorem ED (F:aI X.prog X.w X.K X.mg X.base (fb X.prog X.w) k f fd ps sp) (hr:a7 k X.A) (hg:Gl X x) (hm:X.mg x=some (.ref f)) (hk:keepIn X.K (.ref f)=true) (hb:Binds X.K fd ps [])
  (ha:PA (X.kz Ou EE) (e::es) t) (jI:(x==("__debug__" : Str))=false:=by decide) (he:starEach (e::es) X.env=(false,eval e X.env)::starEach es X.env:=by rfl) (dk:(backTo pos (starEach es X.env)).any (·.1)=false:=by rfl) :
  PE (X.kz Ou EE) (.Call (.Name x p) (e::es) [] pos) (ZF sp EE t):=by
 intro pins s σ H Q I h;refine sg (nU I hg hm ?_ jI);refine Ky (h₀:=X.base) I.ok.mod.iF hk (aE (ha pos pins s σ H _ I h) fun us s1 ⟨vs,H1,I1,r,q⟩=>⟨I1.bx,?_⟩) he dk;have hl:us.length=ps.length:=by rw[<-r.length];exact F.len _ _ _ _ q
 have j7:=hb s1 us I1.bx (by rw[gr];exact hl)
 rw[gr]at j7;refine qF (sf (F.run X.A X.stack s1 H1 ⟨us,[]⟩ us vs _ _ hr I1.yq j7 r q) fun res s2 hq=>?_);cases res with
 |ok fl =>
  cases fl with
  |ret u=>exact I1.after hq
  |next=>exact False.elim hq
  |brk=>exact False.elim hq
  |cont=>exact False.elim hq
 |error ev=>exact⟨σ,H1,s1,I1.pT I1.ok.aau,hq⟩
end
theorem Bh {M:Model}{E:Value->Shared->Prop}{Q:Unit->Shared->Prop} (I:Inv X pins σ H s) (hN:X.N.Nodup) (hi:X.N[i]? = some x) (hk:X.env.scope.names.lookup x=some .local)
  (h:∀s',Inv X pins (σ.set i none) H s'->Q () s'):wpAny M A (do bindName X.env x .none;unbindBehindTheSuite X.env x pos) Q E s:=by
 obtain⟨m,hn,hl⟩:=id I.loc;have oh:(X.env.scope.kind == .class || (X.env.scope.kind == .module && X.env.locals != X.env.globals))=false:=by rw[I.ok.kind];rfl
 have m5:=I.m5;refine wpAny_nameGoes_keeps hk hn oh fun h' v j4 hs=>?_;obtain⟨oL,_,_,Qg,_⟩:=id hn;have tracked:cW X.prog X.w H h':=fun b ob e=>by
  refine(I.ar b ob e).gY (fun c w' hc q=>(hs.2 c ?_).trans q) (fun _ q=>q) fun _ _ q=>q;rintro rfl;rcases hc with rfl|hc
  ·rw[I.free]at e;cases e
  ·rw[I.free]at hc;cases hc
 refine h _ ⟨I.ok,I.os,I.bare,⟨fun b o e n hb hx=>?_,fun b o e n hb hx=>?_,I.base.free,fun b o e hx=>?_,I.base.kJ,I.base.jX,I.base.kU⟩,⟨_,j4,fun j y v' e1 e2 e3=>?_⟩,fun y c e=>?_,I.free,I.iD,fun p hp=>?_,tracked,by simpa using I.len⟩
 ·exact(hs.2 b (bp (gV (aV e) I.ok.above))).trans (I.base.keep b o e n hb hx)
 ·obtain⟨sl,e1⟩:=I.base.slot b o e n hb hx
  exact⟨sl,(hs.2 b (bp (gV (aV e) I.ok.above))).trans e1⟩
 ·obtain⟨o',e1⟩:=I.base.there b o e hx
  exact⟨o',(hs.2 b (bp (gV (aV e) I.ok.above))).trans e1⟩
 ·by_cases hj:j=i
  ·subst hj
   by_cases aS:j < σ.length
   ·rw[Tu aS]at e2;cases e2
   ·rw[Aq (by rw[List.length_set];omega)]at e2;cases e2
  ·rw[Tv (aO hj)]at e2
   obtain⟨u',r',q⟩:=hl j y v' e1 e2 e3;refine⟨u',r',?_⟩;rcases q with⟨k,e⟩|⟨k,c,e,z⟩
   ·refine .inl ⟨k,?_⟩
    have:y≠x:=fun e=>hj (Eu hN e1 (e ▸ hi));simp[this,e]
   ·exact .inr ⟨k,c,e,z.sameBut hs (m5 y c e)⟩
 ·obtain⟨w',z⟩:=I.cell y c e
  exact⟨w',z.sameBut hs (m5 y c e)⟩
 ·obtain⟨e,n,ne,nf,d⟩:=I.pin p hp
  exact⟨(hs.2 p.1 ne).trans e,n,ne,nf,d⟩
def Qt (j:Nat) (D:Ends):Ends:={ nx:=fun σ H=>D.nx (σ.set j none) H,rt:=D.rt,bk:=fun σ H=>D.bk (σ.set j none) H,ct:=fun σ H=>D.ct (σ.set j none) H }
def asE (K:Frag) (B:Addr) (j:Nat) (th:Addr->TS) (D:Ends):St->XK:=fun aG cls oa H2=>(∃C,cls = .ref C/\mroIn K C (.ref B)=some true) /\ ∃a,oa=some a/\th a (Qt j D) (aG.set j (some (.ref a))) H2
section
variable{n:Str}{b0:Stmt}{yi:List Stmt}{tb:Ends->TS}{th:Addr->TS}
def Fv (tb:Ends->TS):TS:=fun D σ H=>tb D D σ H
theorem Xt (hb:∀pins D,gA (X.kz pins (asE X.K C j th D)) (b1::body) (tb D))
  (hN:X.N.Nodup) (hj:X.N[j]? = some n) (hn:X.env.scope.names.lookup n=some .local) (h0:X.xe=fun _ _=>False) (hc:X.calm=true) (hs:X.stack=X.env::X.outer) (hf:X.env.frame=some X.env.locals)
  (gc:Gl X cn) (mc:X.mg cn=some (.ref C)) (qc:eU X.K C ci=true) (hh:∀a,gA (X.gK a) (b0::yi) (th a)) (ze:(cn==("__debug__" : Str))=false:=by decide) :
  PS X (.Try (b1::body) [.ExceptHandler (some (.Name cn p5)) (some n) (b0::yi) p6] [] [] p7) (Fv tb):=by
 intro pins s σ H D I h;refine Um ?_;refine mn (hb pins D [] s σ H D I.kz h) (fun fl s1 z=>?_) fun ev s2 z=>?_
 ·have z':=SP.pT I.ok z
  cases fl with
  |next=>exact xf z'
  |brk=>exact z'
  |cont=>exact z'
  |ret u=>exact z'
 ·obtain⟨aG,H0,s1,I1,a,nn,C',a0,dx,H',B,rfl,os,bare,oF,⟨ox,jJ,hd,hz⟩,t5,na,new,⟨C2,eC,me⟩,a',ea,zf⟩:=z
  cases ea
  cases eC
  rw[hs]at oF;refine jw xF (Uo (Q:=fun _ s'=>∃h',s'={ s2 with heap:=h' }/\Heap.HeldW B (X.env::X.outer) a (.ref C') a0 X.env.locals h'/\s2.heap.UpToSlots h') (by rw[<-hs];exact I1.ok.frames) hf oF fun h3 held nh=>⟨h3,rfl,held,nh⟩) fun _ s3 ⟨h3,e3,held,nh⟩ zg=>?_
  subst e3;refine jw pB (KR (Q:=fun _ s'=>∃h',s'={ s2 with heap:=h' }/\Heap.FlyingW B (X.env::X.outer) a (.ref C') a0 h'/\h3.UpToSlots h') held fun h4 iU iW=>⟨h4,rfl,iU,iW⟩) fun _ s4 ⟨h4,e4,iU,iW⟩ zh=>?_;subst e4;have up:s2.heap.UpToSlots h4:=uz nh iW;have rd:RD s2.heap h4:=zg.trans zh;have lay:∀h5,Heap.FlyingW B (X.env::X.outer) a (.ref C') a0 h5->s2.heap.UpToSlots h5->RD s2.heap h5->Inv X pins aG (upd H' a (eV nn C' dx a)) { s2 with heap:=h5 }:=fun h5 f5 u5 r5=>by
   obtain⟨u,ok⟩:=t5 h5 f5.1 u5;obtain⟨o5,e5,_⟩:=f5.there;exact I1.vq (s':={ s2 with heap:=h5 }) os (u.add na new) (E6 ok na (E5 f5 ⟨o5,e5,(r5.dict jJ e5).1.trans hd,fun y ey=>(r5.dict jJ e5).2.trans (hz y ey)⟩)) bare (fun b z=>absurd z (by simp))
  have J:=lay h4 iU up rd;obtain⟨o4,jg,nj⟩:=iU.there;refine Uq (Ur ?_) (by intro z;cases z)
  refine nU (J.gK a) gc mc ?_ ze;refine DJ (K:=X.K) J.bx qc me jg nj ?_;refine akf ?_;refine jw pB (lands_againW (Q:=fun _ s'=>∃h',s'={ s2 with heap:=h' }/\Heap.FlyingW B (X.env::X.outer) a (.ref C') a0 h'/\h4.UpToSlots h') iU fun h5 mX nu=>⟨h5,rfl,mX,nu⟩) fun _ s5 ⟨h5,e5,mX,nu⟩ zi=>?_;subst e5;have J5:=lay h5 mX (uz up nu) (rd.trans zi);refine uR (X:=X.gK a) (v:= .ref a) (J5.gK a) hN hj (.inl hn) rfl (fun s6 I6=>?_) (.inr hn);refine Kt (aE (hh a pins _ _ _ (Qt j D) I6 zf) fun fl s7 z=>?_);cases fl with
  |next=>obtain⟨jH,H7,I7,q⟩:=z;exact Bh (I7.uncaught (Y:=X) J5.ok) hN hj hn fun s8 I8=>⟨_,H7,I8,q⟩
  |brk=>obtain⟨jH,H7,I7,q⟩:=z;exact Bh (I7.uncaught (Y:=X) J5.ok) hN hj hn fun s8 I8=>⟨_,H7,I8,q⟩
  |cont=>obtain⟨jH,H7,I7,q⟩:=z;exact Bh (I7.uncaught (Y:=X) J5.ok) hN hj hn fun s8 I8=>⟨_,H7,I8,q⟩
  |ret u=>obtain⟨v,jH,H7,I7,r,q⟩:=z;exact Bh (I7.uncaught (Y:=X) J5.ok) hN hj hn fun s8 I8=>⟨v,_,H7,I8,r,q⟩
end
theorem FQ:Passes (fb P w) (jY (fb P w) P w K mg base N qual scope f cd A outer s H E) E:=by
 rintro pins σ H1 s1 e s2 I ⟨a,n,C,a0,dx,H',B,rfl,os,bare,oF,⟨ox,jJ,hd,hz⟩,t5,na,new,hE⟩;show wpAny (model P w) _ (leaving _ (.ref a)) _ _ _;have yM:s1.os=s.os:=I.os;refine jw DX (wpAny_leaves_onW (Q:=fun _ s'=>∃h',s'={ s2 with heap:=h' }/\Heap.FlyingW B outer a (.ref C) a0 h'/\s2.heap.UpToSlots h') I.ok.frames rfl oF fun h' fl up=>⟨h',rfl,fl,up⟩) fun _ s' ⟨h',es,fl,up⟩ rd=>?_;subst es;obtain⟨o',iq,_⟩:=fl.there;refine⟨a,n,C,a0,dx,H',B,rfl,os.trans yM,bare,fl,⟨o',iq,(rd.dict jJ iq).1.trans hd,fun y ey=>(rd.dict jJ iq).2.trans (hz y ey)⟩,fun gD kb u2=>?_,na,?_,hE⟩
 ·obtain⟨u,ok⟩:=t5 gD kb (uz up u2)
  have J:=I.vq (s':={ s2 with heap:=gD }) os u ok bare (fun b z=>absurd z (by simp))
  exact⟨J.base,J.ar⟩
 ·cases q:s.heap.get? a with
  |none=>rfl
  |some o =>
   obtain⟨o2,e2⟩:=I.base.there a o q (by show a ∉ ([]:List Addr);simp)
   rw[new]at e2;cases e2
section
variable{M:Model}{E:Value->Shared->Prop}{B:Heap}{l:List Env}{L e:Addr}{cls a0:Value}
theorem VA {oe:Obj}{vs:Array Value}{Q:Unit->Shared->Prop} (lq:A.frames=some (env::outer)) (hl:s.heap.FunFrames B (env::outer)) (hf:env.frame=some L)
  (he:s.heap.get? e=some oe) (zj:B.StaysIn s.heap) (wF:B.get? e=none) (hd:oe.data = .fields vs) (h1:vs[1]? = some .none) (h0:vs[0]? = some a0)
  (h:∀h',Heap.HeldW B (env::outer) e oe.cls a0 L h'->s.heap.UpToSlots h'->Q () { s with heap:=h' }):wpAny M A (noteFrame (.ref e) env) Q E s:=by
 unfold noteFrame;simp only[hf];refine ae (dX he hd h1 ?_);rw[au (by decide)]
 exact wpAny_entryW lq hl hf he zj wF hd (Am.mp h1).1 h0 fun h' ⟨k1,k2,k3,k4⟩=>h h' ⟨k1,wF,k2,k3⟩ k4
theorem Lb {Q:Unit->Shared->Prop} (hh:Heap.HeldW B l e cls a0 L s.heap)
  (h:∀h',Heap.HeldW B l e cls a0 L h'->s.heap.UpToSlots h'->Q () { s with heap:=h' }):wpAny M A (setFlight (.ref e) (some L)) Q E s:=by
 obtain⟨zj,wF,hl,oe,vs,T,oT,ts,he,oh,hd,h1,Cb,Cc,hT,t6,h3⟩:=hh;have O':3 < ts.size:=(Am.mp h3).1;have other:∀b,b≠T->(s.heap.update T (Obj.mapFields (·.setIfInBounds 3 ((some L:Option Addr).elim Value.none fun f=>rawInt f)))).get? b=s.heap.get? b:=fun b hb=>jm _ _ (aO hb);have MM:∀b o,s.heap.get? b=some o->(∀vs,o.data ≠ .fields vs)->b≠T:=fun b o hb nB q=>by
  rw[q,hT]at hb;injection hb with hb;subst hb;exact nB ts t6
 unfold setFlight;refine ae (dX he hd h1 ?_);rw[aB (show(Value.ref T != Value.none)=true from by simp)]
 refine sq hT t6 O' (h _ ⟨fun b o HZ=>(other b fun q=>by rw[q,Cb]at HZ;cases HZ).trans (zj b o HZ),wF,
  hl.of_keeps fun b o hb nB=>⟨o,(other b (MM b o hb nB)).trans hb,rfl⟩,?_⟩ fun b o hb nB=>⟨o.slots,(other b (MM b o hb nB)).trans hb⟩)
 exact⟨oe,vs,T,_,_,(other e (aO Cc)).trans he,oh,hd,h1,Cb,Cc,nO _ hT (Ul (Ds t6 _)),Ds t6 _,by simp[O']⟩
theorem Vh {ab0:String}{Q:Flow->Shared->Prop} (hf:env.frame=some L) (hh:Heap.HeldW B l e cls a0 L s.heap)
  (h:∀h',Heap.HeldW B l e cls a0 L h'->s.heap.UpToSlots h'->RD s.heap h'->E (.ref e) { s with heap:=h' }):wpAny M A (PySem.passOn ab0 (.ref e) env:Sem Flow) Q E s:=by
 have hh':=hh;obtain⟨_,_,_,oe,vs,T,oT,ts,he,oh,hd,h1,_⟩:=hh';unfold PySem.passOn;refine ae (dX he hd h1 ?_);rw[au (show ¬ ((Value.ref T==Value.none)=true) from by simp),hf]
 first
  |refine ae (jw pB (Lb (Q:=fun _ s'=>∃h',s'={ s with heap:=h' }/\Heap.HeldW B l e cls a0 L h'/\s.heap.UpToSlots h') hh fun h' k u=>⟨h',rfl,k,u⟩) fun _ s' ⟨h',es,k,u⟩ rd=>?_)
  |refine ae (ak (ae (jw pB (Lb (Q:=fun _ s'=>∃h',s'={ s with heap:=h' }/\Heap.HeldW B l e cls a0 L h'/\s.heap.UpToSlots h') hh fun h' k u=>⟨h',rfl,k,u⟩) fun _ s' ⟨h',es,k,u⟩ rd=>?_)))
 subst es;exact uy (h h' k u rd)
theorem Vi {Q:Unit->Shared->Prop} (hf:env.frame=some L) (hh:Heap.HeldW B (env::outer) e cls a0 L s.heap) (hQ:∀h',Heap.FlyingW B outer e cls a0 h'->s.heap.UpToSlots h'->Q () { s with heap:=h' }):wpAny M A (leaving env (.ref e)) Q E s:=by
 unfold leaving;refine ae (wpAny_noteFrame_againW hf hh.2.2.2 ?_);refine KR hh fun h' Cd up=>?_;obtain⟨k1,k2,⟨_,_,k3⟩,k4⟩:=Cd;exact hQ h' ⟨k1,k2,k3,k4⟩ up
theorem Lq {h h':Heap} (k:∀b o,h.get? b=some o->(∀vs,o.data ≠ .fields vs) -> ∃o',h'.get? b=some o' /\ ∀vs,o'.data ≠ .fields vs):∀ {l:List Env},h.FunFrames B l->h'.FunFrames B l
 |[],_=>trivial
 |_::_,⟨hk,⟨L,o,hf,hn,ho,hd⟩,hr⟩=>by
  obtain⟨o',iq,tO⟩:=k L o ho hd;exact⟨hk,⟨L,o',hf,hn,iq,tO⟩,Lq k hr⟩
theorem WG {n:Addr}{m m':Str->Option Value} (hh:Heap.HeldW B l e cls a0 L h) (hs:Heap.SameBut n h h') (n0:h.Ns n m) (n1:h'.Ns n m') (hB:B.get? n=none):Heap.HeldW B l e cls a0 L h':=by
 obtain⟨zj,wF,hl,oe,vs,T,oT,ts,he,oh,hd,h1,Cb,Cc,hT,t6,h3⟩:=hh;obtain⟨o0,es0,ep0,ho0,B8,_⟩:=n0;obtain⟨o1,gE,ep1,t9,iJ,_⟩:=n1;have nf:∀b o us,h.get? b=some o->o.data = .fields us->b≠n:=fun b o us hb hu q=>by
  rw[q,ho0]at hb;cases hb;rw[B8]at hu;cases hu
 refine⟨fun b o q=>(hs.2 b fun z=>by rw[z,hB]at q;cases q).trans (zj b o q),wF,Lq (fun b o hb nB=>?_) hl,oe,vs,T,oT,ts,(hs.2 e (nf _ _ _ he hd)).trans he,oh,hd,h1,Cb,Cc,(hs.2 T (nf _ _ _ hT t6)).trans hT,t6,h3⟩
 by_cases c:b=n
 ·subst c
  exact⟨o1,t9,fun vs z=>by rw[iJ]at z;cases z⟩
 ·exact⟨o,(hs.2 b c).trans hb,nB⟩
end
theorem DH:entryFor table "proto.unchain" = some Builtin.«proto.unchain» :=entryFor_of_fast (by kernel_rfl)
section
variable{c:Addr}
noncomputable def ab1 (c a C t:Addr) (dx:Option Addr) (s1 s2:Shared):Prop:=(∃ox vs,s2.heap.get? a=some ox/\ox.cls = .ref C/\ox.dict=dx/\ox.data = .fields vs/\vs[0]? = some (.ref t)/\vs[1]? = some .none/\vs[2]? = some (.ref c))/\(∀b,b≠a->s2.heap.get? b=s1.heap.get? b)/\s2.os=s1.os/\s2.gens=s1.gens
theorem VX {p0:Pos}{Q:Flow->Shared->Prop}{XE:Value->Shared->Prop}{R:Addr->Addr->Option Addr->Hp->Prop} (hX:(X.gK c).xe=fun _ _=>False) (I:Inv (X.gK c) pins σ H s) (he:PE (X.gK c) e te)
  (h:te σ H fun v H1=>∃a C dx i C' lr,v = .ref a/\H1 a=some (cg C dx a)/\(∀d,dx=some d -> ∃fs,H1 d=some (d7 d fs))/\dU X.K C/\eU X.K C i=true/\H1 c=some (eV (some .none) C' lr c)/\a≠c/\R a C dx H1)
  (fin:∀a C t dx H1 s1 s2,Inv (X.gK c) pins σ H1 s1->H1 a=some (cg C dx a)->R a C dx H1->ab1 c a C t dx s1 s2->XE (.ref a) s2) :
  wpAny (model X.prog X.w) (X.A.mark (some (.ref c))) (exec (.Raise (some e) (some (.Constant .none j p0)) pos) X.env) Q XE s:=by
 rw[arm_exec_Raise];refine ae (qE (show wpAny _ _ (raiseStmt X.env (some (do let v <- eval e X.env;standAt pos;pure v)) (some (do let v <- eval (.Constant .none j p0) X.env;standAt pos;pure v))) _ _ _ from ?_));unfold raiseStmt;refine ae (ae (Kt (aE (he pins s σ H _ I h) fun u s1 hQ9=>?_)));obtain⟨v,H1,J,r,a,C,dx,i,C',lr,ev,ea,hd,xc,q,hc,Qu,hR⟩:=hQ9;refine ae (qE (ak ?_));subst ev;obtain rfl:u = .ref a:=r;obtain⟨ox,od,t,inst,rfl⟩:=J.Nk ea hd;have Bv:Looks (model X.prog X.w) s1.heap (isType (.ref a)) false:=fun A' Q' E' s' k z=>by
  simp only[isType,loadHead];exact ae (Ak (k _ _ inst.at_) (ak z))
 have HX:Looks (model X.prog X.w) s1.heap (isInstance (.ref a) (.type "BaseException")) true:=inst.type.andThen (Dp J.bx xc.be);obtain⟨bm,N,nm,qn,bs,BD,sn,sub,ab,col,dd,k0,k1,k2,k3,k5,mN,hC,_⟩:=(uM J.bx q).ex;have naC:C≠a:=fun z=>by rw[z]at hC;have h1:=inst.at_;rw[hC]at h1;cases h1
 obtain⟨oc,vc,cat,_,_,gQ,Ia⟩:=(J.ar c _ hc).1;have cx:=Ia _ rfl;have jK:=inst.at_;refine ae (eM (ae (Constant_none (ae (qE (ak (ae (ak ?_))))))));refine ae (eM ?_);unfold excFromValue isExcClass;refine ae (ae (Bv.here (ak ?_)));refine ae (HX.here (ak ?_))
 dsimp only
 rw[aB (show(Value.none==Value.none)=true from by decide)]
 refine ae (ak ?_);refine ae (sq jK rfl (show 3 < 6 by decide) ?_)
 have eI:=nO (h:=s1.heap) (Obj.mapFields (·.setIfInBounds 3 Value.none)) jK rfl;refine ae (sq eI rfl (show 4 < 6 by decide) ?_)
 have at2:=nO (Obj.mapFields (·.setIfInBounds 4 (Value.bool true))) eI rfl;have Ce:∀b,b≠a->((s1.heap.update a (Obj.mapFields (·.setIfInBounds 3 Value.none))).update a (Obj.mapFields (·.setIfInBounds 4 (Value.bool true)))).get? b=s1.heap.get? b:=fun b hb=>(jm _ _ (aO hb)).trans (jm _ _ (aO hb));generalize hh2:(s1.heap.update a (Obj.mapFields (·.setIfInBounds 3 Value.none))).update a (Obj.mapFields (·.setIfInBounds 4 (Value.bool true)))=h2 at at2 Ce;refine ae (show wpAny _ _ (isType (.ref a)) _ _ _ from ?_);simp only[isType,loadHead];refine ae (Ak at2 (ak ?_));unfold raisedInstance;have tyL:Looks (model X.prog X.w) h2 (typeOf (.ref a)) (.ref C):=(Looks.ld at2).andThen .now;have HY:({ s1 with heap:=h2 }:Shared).TypeIs (.ref C) "type" :=⟨_,(Ce C naC).trans hC,rfl⟩;refine ae (ae (tyL.here (ae (oZ HY ?_))));rw[aB (show(Value.type "type" == Value.type "type")=true from by decide)]
 refine ak ?_;unfold setFlight raiseNew;refine ae (ae (dX at2 rfl (x:= .none) rfl ?_));rw[au (show ¬ ((Value.none != Value.none)=true) from by decide)]
 refine ak (ae (KQ ?_));show wpAny _ _ (if (Value.ref c != Value.ref a)=true then _ else _) _ _ _;rw[aB (show(Value.ref c != Value.ref a)=true from by simp;exact fun z=>Qu z.symm)]
 refine ae (eM (Ar (jo DH ?_)));unfold Builtin.«proto.unchain»;refine ae (dX ((Ce c (aO Qu)).trans cat) gQ cx ?_);rw[aB (show(Value.none==Value.none)=true from by decide)]
 refine ae (ak (ak ?_));show wpAny _ _ (do updateField a 2 (.ref c);throw (Value.ref a)) _ _ _;refine ae (show wpAny _ _ (setField (.ref a) 2 (.ref c)) _ _ _ from sq at2 rfl (show 2 < 6 by decide) ?_)
 have y4:=nO (Obj.mapFields (·.setIfInBounds 2 (Value.ref c))) at2 rfl;refine uy (fin a C t dx H1 s1 _ J ea hR ⟨⟨_,_,y4,rfl,rfl,rfl,rfl,rfl,rfl⟩,fun b hb=>(jm _ _ (aO hb)).trans (Ce b hb),rfl,rfl⟩)
end
theorem Inv.Yz (I:Inv X pins σ H s) (hx:X.ex = []) (hs:X.stack=X.env::X.outer) (hf:X.env.frame=some X.env.locals) (ha:H a=some (cg C dx a)) (h0:X.jC a=none)
  (k:(hideAll s.heap (a::cY X.stack)).StaysIn h') (yg:∀b o,b∈X.fs->s.heap.get? b=some o -> ∃sl,h'.get? b=some { o with slots:=sl }):Un X.fs [] X.jC (jA H a) X.cM.heap h'/\cW X.prog X.w (jA H a) h':=by
 have ub:Un X.fs [] X.jC H X.cM.heap s.heap:=by have:=I.base;rw[hx]at this;exact this
 have yv:∀b,b∈cY X.stack->b=X.env.locals\/b∈X.fs:=fun b hb=>by
  have:=I.xM b hb;rcases aY.mp this with z|z
  ·exact .inl z
  ·exact .inr z
 have nA:∀ {b:Addr},H b=none->b≠a:=fun e z=>by subst z;rw[ha]at e;cases e
 have get:∀b o,s.heap.get? b=some o->b≠a->b ∉ cY X.stack->h'.get? b=some o:=fun b o e n m=>k b o (hideAll_get _ e fun z=>by
  rcases aY.mp z with z|z
  ·exact n z
  ·exact m z)
 have yw:∀b o,X.cM.heap.get? b=some o->b≠X.env.locals:=fun b o e z=>by
  have h1:=aV e;have h2:=I.ok.above;subst z;exact absurd h1 (Dq.mpr h2)
 refine⟨⟨fun b o e n m _=>?_,fun b o e n m _=>?_,fun b o e n _=>LD (ub.free b o e n (by simp)),fun b o e _=>?_,fun b xs e=>?_,fun b o u e=>?_,fun b ps e=>?_⟩,fun b o e=>?_⟩
 ·have e1:=ub.keep b o e n m (by simp)
  refine get b o e1 (nA (ub.free b o e n (by simp))) fun z=>?_
  rcases yv b z with z|z
  ·exact yw b o e z
  ·exact m z
 ·obtain⟨sl,e1⟩:=ub.slot b o e n m (by simp)
  obtain⟨yL,e2⟩:=yg b _ m e1;exact⟨yL,e2⟩
 ·obtain⟨o',e1⟩:=ub.there b o e (by simp)
  by_cases m:b∈X.fs
  ·obtain⟨sl,e2⟩:=yg b _ m e1
   exact⟨_,e2⟩
  ·refine⟨o',get b o' e1 (fun z=>?_) fun z=>?_⟩
   ·subst z
    have:=ub.free b o e h0 (by simp)
    rw[ha]at this;cases this
   ·rcases yv b z with z|z
    ·exact yw b o e z
    ·exact m z
 ·have e1:=ub.kJ b xs e
  rw[mz (bg e1 ha)];exact e1
 ·have e1:=ub.jX b o u e
  rw[mz (bg e1 ha)];exact e1
 ·obtain⟨mo,e1⟩:=ub.kU b ps e
  exact⟨mo,by rw[mz (bg e1 ha)];exact e1⟩
 ·obtain⟨n,e1⟩:=LC e
  have tm:∀ {c:Addr}{u:HO},H c=some u->c ∉ cY X.stack:=fun q m=>by
   have:=I.Bb _ m;rw[q]at this;cases this
  refine(I.ar b o e1).gY (fun c u hc q=>?_) (fun c q=>?_) fun c xs q=>?_
  ·rcases hc with rfl|q1
   ·exact get _ u q n (tm e1)
   ·exact get c u q (bg q1 ha) (tm q1)
  ·rw[mz (bg q ha)];exact q
  ·rw[mz (bg q ha)];exact q
def reE (K:Frag) (H0:Hp) (E:XK) (B:Addr) (j:Nat) (te:Addr->TE):St->XK:=fun aG cls oa H2=>(∃C,cls = .ref C/\mroIn K C (.ref B)=some true) /\ ∃a,oa=some a/\te a (aG.set j (some (.ref a))) H2 fun v H3 =>
 ∃a2 C2 dx i C' lr,v = .ref a2/\H3 a2=some (cg C2 dx a2)/\(∀d,dx=some d -> ∃fs,H3 d=some (d7 d fs))/\dU K C2/\eU K C2 i=true/\H3 a=some (eV (some .none) C' lr a)/\a2≠a/\H0 a2=none/\E (.ref C2) (some a2) (upd H3 a2 (eV (some (.ref a)) C2 dx a2))
section
variable{jj:Nat}{Bc:Addr}{n:Str}{p0:Pos}{te:Addr->TE}{tb:Ends->TS}
theorem Xu (hX:X=jY (fb P w) P w K mg base N qual scope f cd A outer s H E) (hb:∀pins D,gA (X.kz pins (reE K H E Bc j te)) (b1::body) (tb D))
  (hN:X.N.Nodup) (hj:X.N[j]? = some n) (hn:X.env.scope.names.lookup n=some .local)
  (gc:Gl X cn) (mc:X.mg cn=some (.ref Bc)) (qc:eU X.K Bc ci=true) (he:∀a,PE (X.gK a) e (te a)) (ze:(cn==("__debug__" : Str))=false:=by decide) :
  PS X (.Try (b1::body) [.ExceptHandler (some (.Name cn p5)) (some n) [.Raise (some e) (some (.Constant .none jj p0)) pos] p6] [] [] p7) (Fv tb):=by
 subst hX;generalize hX:jY (fb P w) P w K mg base N qual scope f cd A outer s H E=X at *;have hs:X.stack=X.env::X.outer:=by subst hX;rfl
 have hf:X.env.frame=some X.env.locals:=by subst hX;rfl
 have hex:X.ex = []:=by subst hX;rfl
 have hK:X.K=K:=by subst hX;rfl
 have hH:X.jC=H:=by subst hX;rfl
 have hP:X.prog=P:=by subst hX;rfl
 have hw:X.w=w:=by subst hX;rfl
 intro pins s0 σ H0 D I h;refine Um ?_;refine mn (hb pins D [] s0 σ H0 D I.kz h) (fun fl s1 z=>?_) fun ev s2 z=>?_
 ·have z':=SP.pT I.ok z
  cases fl with
  |next=>exact xf z'
  |brk=>exact z'
  |cont=>exact z'
  |ret u=>exact z'
 ·obtain⟨aG,H0,s1,I1,a,nn,C',a0,dx,H',B,rfl,os,bare,oF,⟨ox,jJ,hd,hz⟩,t5,na,new,⟨C2,eC,me⟩,a',ea,zf⟩:=z
  cases ea
  cases eC
  rw[hs]at oF;refine jw xF (Uo (Q:=fun _ s'=>∃h',s'={ s2 with heap:=h' }/\Heap.HeldW B (X.env::X.outer) a (.ref C') a0 X.env.locals h'/\s2.heap.UpToSlots h') (by rw[<-hs];exact I1.ok.frames) hf oF fun h3 held nh=>⟨h3,rfl,held,nh⟩) fun _ s3 ⟨h3,e3,held,nh⟩ zg=>?_
  subst e3;refine jw pB (KR (Q:=fun _ s'=>∃h',s'={ s2 with heap:=h' }/\Heap.FlyingW B (X.env::X.outer) a (.ref C') a0 h'/\h3.UpToSlots h') held fun h4 iU iW=>⟨h4,rfl,iU,iW⟩) fun _ s4 ⟨h4,e4,iU,iW⟩ zh=>?_;subst e4;have up:s2.heap.UpToSlots h4:=uz nh iW;have rd:RD s2.heap h4:=zg.trans zh;have lay:∀h5,Heap.FlyingW B (X.env::X.outer) a (.ref C') a0 h5->s2.heap.UpToSlots h5->RD s2.heap h5->Inv X pins aG (upd H' a (eV nn C' dx a)) { s2 with heap:=h5 }:=fun h5 f5 u5 r5=>by
   obtain⟨u,ok⟩:=t5 h5 f5.1 u5;obtain⟨o5,e5,_⟩:=f5.there;exact I1.vq (s':={ s2 with heap:=h5 }) os (u.add na new) (E6 ok na (E5 f5 ⟨o5,e5,(r5.dict jJ e5).1.trans hd,fun y ey=>(r5.dict jJ e5).2.trans (hz y ey)⟩)) bare (fun b z=>absurd z (by simp))
  have J:=lay h4 iU up rd;obtain⟨o4,jg,nj⟩:=iU.there;refine Uq (Ur ?_) (by intro z;cases z)
  refine nU (J.gK a) gc mc ?_ ze;refine DJ (K:=X.K) J.bx qc (hK ▸ me) jg nj ?_;refine akf ?_;refine jw pB (lands_againW (Q:=fun _ s'=>∃h',s'={ s2 with heap:=h' }/\Heap.FlyingW B (X.env::X.outer) a (.ref C') a0 h'/\h4.UpToSlots h') iU fun h5 mX nu=>⟨h5,rfl,mX,nu⟩) fun _ s5 ⟨h5,e5,mX,nu⟩ zi=>?_;subst e5;have J5:=lay h5 mX (uz up nu) (rd.trans zi);refine uR (X:=X.gK a) (v:= .ref a) (J5.gK a) hN hj (.inl hn) rfl (fun s6 I6=>?_) (.inr hn);refine Tw (VX (c:=a) (X:=X) (R:=fun a2 C2 Cf H3=>H a2=none/\E (.ref C2) (some a2) (upd H3 a2 (eV (some (.ref a)) C2 Cf a2))) rfl I6 (he a) (hK ▸ zf) fun a2 C2 t Cf H3 s7 s8 J7 Cg ⟨h0,hE⟩ ⟨⟨o8,vs8,Ib,cl8,di8,Qv,v0,v1,v2⟩,Ci,os8,gs8⟩=>?_);have fr:s7.heap.FunFrames X.base X.stack:=J7.stack;obtain⟨t7,at7⟩:=J7.excAt Cg;have Qw:∀b o,s7.heap.get? b=some o->(∀vs,o.data ≠ .fields vs)->b≠a2:=fun b o hb nB z=>by
   rw[z,at7]at hb;cases hb;exact nB _ rfl
  have all:∀env∈X.stack,∀b,env.frame=some b->b∈a2::cY X.stack:=fun env m b hb=>cp _ (sd.mpr ⟨env,m,hb⟩);have ff7:s7.heap.FunFrames (hideAll s7.heap (a2::cY X.stack)) X.stack:=funFrames_hide fr all;have ff8:s8.heap.FunFrames (hideAll s7.heap (a2::cY X.stack)) X.stack:=ff7.of_keeps fun b o hb nB=>⟨o,(Ci b (Qw b o hb nB)).trans hb,rfl⟩;have st8:(hideAll s7.heap (a2::cY X.stack)).StaysIn s8.heap:=fun b o hb=>by
   have n2:b≠a2:=fun z=>by rw[z,Du _ bj]at hb;cases hb
   exact(Ci b n2).trans (of_hideAll _ hb)
  have nl:X.env.locals≠a2:=fun z=>by
   have:=J7.free;rw[show(X.gK a).env.locals=X.env.locals from rfl,z,Cg]at this;cases this
  have ab2:(hideAll s7.heap (a2::cY X.stack)).get? X.env.locals=none:=Du _ (cp _ (by rw[hs];exact sd.mpr ⟨X.env,bj,hf⟩))
  obtain⟨m7,ns7,_⟩:=J7.loc;have ab3:s7.heap.Ns X.env.locals m7:=ns7;have ns8:s8.heap.Ns X.env.locals m7:=by
   obtain⟨oo,es,ep,ho,r⟩:=ab3;exact⟨oo,es,ep,(Ci _ nl).trans ho,r⟩
  have frA:(X.A.mark (some (.ref a))).frames=some (X.env::X.outer):=by rw[<-hs];exact J7.ok.frames
  refine jw xF (VA (Q:=fun _ s'=>∃h',s'={ s8 with heap:=h' }/\Heap.HeldW (hideAll s7.heap (a2::cY X.stack)) (X.env::X.outer) a2 o8.cls (.ref t) X.env.locals h'/\s8.heap.UpToSlots h') frA (by rw[<-hs];exact ff8) hf Ib st8 (Du _ bj) Qv v1 v0 fun h' k u=>⟨h',rfl,k,u⟩) fun _ s9 ⟨h9,e9,Ov,Qx⟩ Qy=>?_
  subst e9;have Qz:h9.Ns X.env.locals m7:=Qx.ns ns8;have oh:(X.env.scope.kind == .class || (X.env.scope.kind == .module && X.env.locals != X.env.globals))=false:=by rw[I1.ok.kind];rfl
  refine wpAny_nameGoes_keeps hn Qz oh fun Cj v j4 l8=>?_;have ZG:=WG Ov l8 Qz j4 ab2;have pas:∀s',X.xe (.ref a2) s'->notedBy (model X.prog X.w) (X.A.mark (some (.ref a))) X.env (cameBackBy (model X.prog X.w) X.A X.env X.xe) (.ref a2) s':=by subst hX;exact fun s' z=>PassesOwnAt.leaving _ _ z
  have xe:∀s',X.xe (.ref a2) s' ↔ wpAny (model X.prog X.w) X.A (leaving X.env (.ref a2)) (fun _ m8=>fb P w X.outer H s E (.ref a2) m8) (fun e' m8=>fb P w X.outer H s E e' m8) s':=by subst hX;exact fun s'=>Iff.rfl
  refine Vh hf ZG fun rN vg ab4 Pa=>pas _ ((xe _).mpr ?_);have ZH:∀b o,b∈X.fs->s7.heap.get? b=some o -> ∃sl,rN.get? b=some { o with slots:=sl }:=fun b o m hb=>by
   obtain⟨_,o',e',nf⟩:=J7.gL.mem m;rw[hb]at e';cases e';obtain⟨sl,q9⟩:=Qx b o ((Ci b (Qw b o hb nf)).trans hb) nf;have Ck:b≠X.env.locals:=fun z=>by
    have lt:=aV (show X.cM.heap.get? b=some _ from(J7.ok.gL.mem m).2.choose_spec.1);have:=J7.ok.above;rw[z]at lt;exact absurd lt (Dq.mpr this)
   have q10:Cj.get? b=some { o with slots:=sl }:=(l8.2 b Ck).trans q9;obtain⟨tV,q11⟩:=ab4 b _ q10 nf;exact⟨tV,q11⟩
  have cx8:rg o8=some (.ref a):=by unfold rg;rw[Qv];exact v2
  have ab5:∃o,Cj.get? a2=some o/\o.dict=Cf/\rg o=some (.ref a):=by
   obtain⟨o9,e9,_⟩:=Ov.there;exact⟨o9,(l8.2 a2 (aO nl)).trans e9,(Qy.dict Ib e9).1.trans di8,(Qy.dict Ib e9).2.trans cx8⟩
  obtain⟨o10,Pb,d10,c10⟩:=ab5;have ab6:o8.cls = .ref C2:=cl8;rw[ab6]at vg;refine jw DX (Vi (Q:=fun _ s'=>∃h',s'.heap=h'/\s'.os=s8.os/\s'.gens=s8.gens/\Heap.FlyingW (hideAll s7.heap (a2::cY X.stack)) X.outer a2 (.ref C2) (.ref t) h'/\rN.UpToSlots h') hf vg fun h' k u=>⟨h',rfl,rfl,rfl,k,u⟩) fun _ s12 ⟨zk,Cm,ab7,ab8,Pd,ab9⟩ Pe=>?_;subst Cm;obtain⟨o12,Gy,_⟩:=Pd.there;have aca:s7.os=X.cM.os:=J7.os;have Ic:X.cM=s:=by subst hX;rfl
  have hfs:X.fs=cY X.outer:=rfl;have acb:s.heap.get? a2=none:=by
   have ub:Un X.fs X.ex X.jC H3 X.cM.heap s7.heap:=J7.base;cases q:s.heap.get? a2 with
   |none=>rfl
   |some o =>
    have:=ub.free a2 o (by rw[Ic];exact q) (by rw[hH];exact h0) (by rw[hex];simp)
    rw[Cg]at this;cases this
  refine⟨a2,some (.ref a),C2,.ref t,Cf,jA H3 a2,hideAll s7.heap (a2::cY X.stack),rfl,ab7.trans (os8.trans (aca.trans (by rw[Ic]))),by rw[ab8,gs8];exact J7.bare,Pd,⟨o12,Gy,?_,fun y ey=>by cases ey;exact(Pe.dict (h:=rN) (vg.there.choose_spec.1) Gy).2.trans (((Pa.dict Pb vg.there.choose_spec.1).2).trans c10)⟩,fun h13 k13 u13=>?_,by unfold jA;rw[aB rfl],acb,by rw[ML];exact hE⟩
  ·have q:=(Pe.dict (h:=rN) (vg.there.choose_spec.1) Gy).1
   exact q.trans (((Pa.dict Pb vg.there.choose_spec.1).1).trans d10)
  ·have r:=J7.Yz (h':=h13) (a:=a2) hex hs hf Cg (by rw[show(X.gK a).jC=X.jC from rfl,hH];exact h0) k13 fun b o m hb=>by
    obtain⟨_,o',e',nf⟩:=J7.gL.mem m;rw[hb]at e';cases e';obtain⟨sl,q⟩:=ZH b o m hb;obtain⟨tV,q2⟩:=ab9 b _ q nf;obtain⟨sl3,q3⟩:=u13 b _ q2 nf;exact⟨sl3,q3⟩
   rw[<-Ic,<-hH,<-hP,<-hw];exact r
end
end L2
namespace L2
open PySem PySem.Spec PyProof.Rows PySem.W HT
theorem Eh (hc:X.calm=true):d5 X (.builtin "any") (fun xs H Q=>∃ (p:Addr) (bs:List Bool),xs = [.ref p]/\aj X.K H p (bs.map V.bl)/\Q (.bl (bs.any id)) H):=by
 intro pins s σ H xs us Q I r h;obtain⟨p,bs,rfl,hq,q⟩:=h;obtain⟨u,rfl,rx⟩:=vals1 r;cases rx
 obtain⟨its,rv,pl,hz⟩:=I.list hq;have hlen:=rv.length;have vals:its=bs.map Value.bool:=by
  clear q hq pl hz r hlen
  induction bs generalizing its with
  |nil=>cases rv;rfl
  |cons b bs ih =>
   cases rv with
   |cons r1 rt=>cases r1;rw[ih _ rt];rfl
 have new:∀b o,s.heap.get? b=some o->b≠s.heap.objs.size:=fun b o e=>bp (aV e);obtain⟨ol,y9,_⟩:=id pl.isList;refine call_any_walk (Di pl.isList ?_);refine⟨s.heap.objs.size,_,_,_,_,_,fun i=>bs.getD i false,rfl,Walks.list (A:=X.A.in1) (I.ok.hd hc) s.heap.objs.size p (new p ol y9) its.toArray,⟨⟨_,cu _ rfl,rfl,rfl⟩,pl.isList.at fun o e=>aT _ e⟩,fun i v s2 Q2 E2 hv iy=>?_,fun h' tk kp=>?_⟩
 ·rw[vals]at hv
  have:bs[i]?.map Value.bool=some v:=by simpa using hv
  obtain⟨b,hb,rfl⟩:=ib.mp this;refine nM ?_;have e:bs.getD i false=b:=by rw[kf,hb];rfl
  exact e ▸ iy
 ·have fin:(List.range its.toArray.size).any (fun i=>bs.getD i false)=bs.any id:=by
   have hs:its.toArray.size=bs.length:=by rw[vals];simp
   rw[hs]
   apply xh.mpr
   simp only[sj,oW]
   constructor
   ·rintro⟨i,hi,e⟩
    exact⟨bs[i],iO hi,by simpa [List.getD,hi] using e⟩
   ·rintro⟨b,hb,e⟩
    obtain⟨i,hi,rfl⟩:=KL hb;exact⟨i,hi,by simpa [List.getD,hi] using e⟩
  rw[fin];exact⟨.bl _,H,I.kept (t':=tk) fun b o e=>kp b o (by simpa using new b o e) (aT _ e),rfl,q⟩
def Ie (x:Str):It:=⟨fun i _=>i < x.cps.size,fun i H v H'=>H'=H /\ ∃c,x.cps[i]? = some c/\v = .str ⟨#[c]⟩,fun i _=>x.cps.size<=i⟩
theorem MN (it:Addr) (x:Str) (t:Tok) (T:String) (hT : ["enumerate","zip","dict_itemiterator","dict_reverseitemiterator","odict_iterator","itertools.zip_longest","itertools.pairwise"].contains T=false)
  (W:∀A':Around,A'.handled=none->Walks P w A' it [it] [it] x.cps.size (SignAt x) (fun i h=>h.IsStrIter it T x t i))
  (hs:∀ (A:Around) (i:Nat) (s:Shared) (Q:Value->Shared->Prop) (E:Value->Shared->Prop),s.heap.IsStrIter it T x t i->Q (.ref it) s->wpAny (model P w) A (pyIter (.ref it)) Q E s):Turn P w K tg (Ie x) [it] it (fun i h=>i<=x.cps.size/\h.IsStrIter it T x t i) where
 mem:=by simp
 obj:=fun i h st b hb=>by
  obtain rfl:b=it:=by simpa using hb
  obtain⟨_,o,e,c,d⟩:=st;exact⟨o,e,fun v z=>by rw[d]at z;cases z⟩
 keep:=fun i h h' st k=>by
  obtain⟨l,o,e,r⟩:=st;exact⟨l,o,k it (by simp) _ e,r⟩
 item:=by
  intro X hP hw hK hc i pins s σ H E I hf st hg;subst hP hw hK;obtain⟨f0,f1,f2,f3,f4,f5⟩:=hf it (by simp)
  refine(W X.A (I.ok.hd hc)).item i s _ _ hg st.2 fun v h' tk hv gC kk=>?_;obtain⟨c,u,Ia,rfl⟩:=hv;have I1:Inv X pins σ H { s with heap:=h',toks:=tk }:=I.turned (fun b o hb e=>kk b o (by simpa using hb) e) f0 f1 f3 f4 f5
  obtain⟨o,e,cl,d⟩:=id gC;exact⟨_,rfl,yc (s:={ s with heap:=h',toks:=tk }) e cl d hT ⟨.str ⟨#[c]⟩,H,I1,⟨u,rfl⟩,⟨rfl,c,Ia,rfl⟩,⟨hg,gC⟩,fun b hb=>(hf b hb).1⟩⟩
 done:=by
  intro X hP hw hK hc i pins s σ H E I hf st hg;subst hP hw hK;obtain⟨f0,f1,f2,f3,f4,f5⟩:=hf it (by simp)
  have ei:i=x.cps.size:=Nat.le_antisymm st.1 hg;subst ei;exact(W X.A (I.ok.hd hc)).done s _ _ st.2 fun h' tk kk=>⟨rfl,I.turned (fun b o hb e=>kk b o (by simpa using hb) e) f0 f1 f3 f4 f5⟩
 self:=fun A i s Q E st h=>hs A i s Q E st.2 h
def acd (te:TE):TI:=fun σ H R=>te σ H fun v H1=>∃x,v = .str x/\R (Ie x) H1
theorem ZI (he:PE X e te):PI X tg e (acd te):=by
 intro pins s σ H R I h;refine aE (he pins s σ H _ I h) fun v s1 hQ9=>?_;obtain⟨y,H1,I1,r1,x,ey,q⟩:=hQ9;subst ey;obtain⟨t,rfl⟩:=r1;have I2:∀o:Obj,Inv X pins σ H1 { s1 with heap:=s1.heap.push o }:=fun o=>I1.kept (t':=s1.toks) fun b ob z=>aT _ z;have fp:∀b ∈ [s1.heap.objs.size],gg X pins H1 b:=fun b hb=>by
  obtain rfl:b=s1.heap.objs.size:=by simpa using hb
  exact I1.jD (aR _) (I1.ar.fresh (aR _))
 cases ha:x.cps.all (· < 128)
 ·refine wpAny_pyIter_wide ha ?_
  exact⟨s1.heap.objs.size,[s1.heap.objs.size],_,_,H1,rfl,I2 _,MN s1.heap.objs.size x t "str_iterator" (by decide) (fun A' hA=>Walks.strWide hA _ x t) (fun _ _ _ _ _ st h=>wpAny_pyIter_striter_wide st h),⟨bG _,_,cu _ rfl,rfl,rfl⟩,fp,q⟩
 ·refine wpAny_pyIter_ascii ha ?_
  exact⟨s1.heap.objs.size,[s1.heap.objs.size],_,_,H1,rfl,I2 _,MN s1.heap.objs.size x t "str_ascii_iterator" (by decide) (fun A' hA=>Walks.strAscii hA _ x t) (fun _ _ _ _ _ st h=>wpAny_pyIter_striter_ascii st h),⟨bG _,_,cu _ rfl,rfl,rfl⟩,fp,q⟩
theorem Xv {g:TG} (Pv:Nat->List V->St->Hp->Prop) (h0:Pv 0 [] jf (upd H1 p (.lst []))) (hl:∀i ys τ H,Pv i ys τ H->H p=some (.lst ys))
  (hs:∀i c ys τ H,x.cps[i]? = some c->Pv i ys τ H->g (.str ⟨#[c]⟩) τ H fun cJ H4=>ti cJ H4 fun b H5=>if b=true then te cJ H5 fun y H6=>H6 p=some (.lst ys)/\ys.length < sizeLine /\ ∃m',m' < x.cps.size - i/\CW Pv x.cps.size (i+1) m' (ys ++ [y]) cJ (upd H6 p (.lst (ys ++ [y]))) else ∃m',m' < x.cps.size - i/\CW Pv x.cps.size (i+1) m' ys cJ H5)
  (hd:∀ys τ H,Pv x.cps.size ys τ H->Q (.ref p) H):jz (Ie x) g ti te jf Q p H1:=by
 refine⟨CW Pv x.cps.size,⟨x.cps.size,by simp,bG _,h0⟩,?_⟩
 rintro i m ys τ H ⟨rfl,hi,pv⟩;refine⟨hl i ys τ H pv,?_⟩
 by_cases aS:i < x.cps.size
 ·refine .inr ⟨aS,fun v H3 y3=>?_⟩
  obtain⟨e3,c,hc,rfl⟩:=y3;subst e3;exact hs i c ys τ _ hc pv
 ·have e:i=x.cps.size:=by omega
  subst e;exact .inl ⟨aR _,hd ys τ H pv⟩
end L2
namespace HT
open PySem PyProof.Rows PySem.W L2
theorem U8 (a:Addr) (vs:Array Value) (n:Nat) (u:Tok) (sl:Array (Option Value)) :
  Meets (Builtin.«object.__getattribute__» ⟨[.ref a,.str "keys" u],[]⟩) (fun A R s=>s.heap.get? a=some { cls:= .type "tuple",dict:=none,data:= .seq vs n,slots:=sl }/\raisesAttr (.ref a) "keys" A R s):=
 meets_getattribute_miss_tuple a vs n sl "keys" u (by rw[Us,Ut];kernel_rfl) (by decide +kernel) (by rw[aN];decide +kernel)
theorem Xw {E:Value->Shared->Prop}{vs:Array Value}{sl:Array (Option Value)}{Q:Option Value->Shared->Prop} (hx:s.heap.get? a=some { cls:= .type "tuple",dict:=none,data:= .seq vs n,slots:=sl }) (hA:A.handled=none)
  (h:∀h' tk,(∀b o,s.heap.get? b=some o->h'.get? b=some o)->Q none { s with heap:=h',toks:=tk }):wpAny (model prog w) A (getAttr? (.ref a) "keys") Q E s:=by
 obtain⟨hp,g,d,tk,os⟩:=s;have hT:∀qj,(⟨hp,g,d,qj,os⟩:Shared).TypeIs (.ref a) "tuple" :=fun _=>⟨_,hx,rfl⟩;have f1:=sub_AttributeError;have f3:=Uu.lookup;have f4:=Uu.bind (.ref a);have f5:=am_tuple_getattr_none;unfold getAttr? getAttrBy? getAttrBy
 repeat (any_goals (first|assumption|exact hT _|((with_reducible show wpAny _ _ (call (Value.builtin "tuple.__getattribute__") _ _) _ _ _);refine Ko Uu (hT _) am_entry_tuple_getattribute (F.args_tuple_getattribute_2 _ _) (U8 a vs n _ sl) ⟨hx,hA,fun h' qj e gB=>?_⟩)|wp_step))
 obtain⟨t',u',he⟩:=gB.there;show wpAny _ _ (getattributeRaised _ _ _ _ _ _ _) _ _ _;unfold getattributeRaised
 repeat (any_goals (first|assumption|wp_step))
 exact h h' qj gB.keeps
section
variable{vs:Array Value}
theorem Xx {E:Value->Shared->Prop}{Q:Unit->Shared->Prop}{T:Addr}{x y:Value}{k:Key}{kvs:List (Key×Value)}{i:Int} (hT:IsTup s.heap T #[x,y]) (hk:(cL prog w).is k x=true) (hd:s.heap.DictOf (cL prog w) d kvs) (new:k ∉ kvs.map (·.1)) (hz:kvs.length<=sizeLine)
  (q:∀h' tk,h'.DictOf (cL prog w) d (kvs ++ [(k,y)])->Heap.SameBut d s.heap h'->Q () { s with heap:=h',toks:=tk }) :
  wpAny (model prog w) A (holding [Value.ref T] (do
   let pair <- (Builtin.Dict.pairItems (.ref T)).tryCatch fun e=>do
    if !(<- isInstance e (.type "TypeError")) then throw e
    rule "dict.update.element-no-sequence"
    raiseError "TypeError" s!"cannot convert dictionary update sequence element #{i} to a sequence"
   match pair with
   |[k,v]=>holding [k,v] (dictSet d k v)
   |l =>
    rule "dict.update.element-length"
    raiseError "ValueError" s!"dictionary update sequence element #{i} has length {l.length}; 2 is required")) Q E s:=by
 refine eM (ae (wpAny_tryCatch ?_));unfold Builtin.Dict.pairItems;refine ae (oZ hT.typeIs ?_);rw[aB (by decide)]
 obtain⟨o,ho,_,n,rO⟩:=hT;refine ae (nP ho rO (ak ?_));show wpAny _ _ (holding [x,y] (dictSet d x y)) _ _ _;refine eM (wpAny_dictSet_pairs (hsz:=hz) hk hd fun h' dd sb=>?_);rw[stored_new new]at dd;exact q h' _ dd sb
theorem YA (hh:A.in1.handled=none) (Ig:d≠it) (wG:d≠t) (QA:t≠it) (ps:List (Key×Value)) (nd:(ps.map (·.1)).Nodup) (hz:ps.length<=sizeLine) (hsz:vs.size=ps.length) (hv:IsTup g t vs)
  (md:∀ (i:Nat) p,ps[i]? = some p -> ∃a x,vs[i]? = some (.ref a)/\a≠it/\a≠d/\IsTup g a #[x,p.2]/\(cL prog w).is p.1 x=true) :
  ∀ (m k:Nat) (s:Shared),ps.length - k=m->k<=ps.length->IsTupIter s.heap it t k->s.heap.DictOf (cL prog w) d (ps.take k) ->
   (∀b o,b≠it->b≠d->g.get? b=some o->s.heap.get? b=some o) ->
   (∀h' tk,h'.DictOf (cL prog w) d ps->(∀b o,b≠it->b≠d->g.get? b=some o->h'.get? b=some o)->R (.ok (.ret .none)) { s with heap:=h',toks:=tk }) ->
   codeAny (model prog w) A (.builtin "dict.update.loop" ⟨[.ref d,.ref it,rawInt k,.none],[]⟩) R s:=by
 have up:∀ {b:Addr}{us:Array Value}{h:Heap},b≠it->b≠d->(∀b o,b≠it->b≠d->g.get? b=some o->h.get? b=some o)->IsTup g b us->IsTup h b us:=fun n1 n2 kp ⟨o,ho,r⟩=>⟨o,kp _ _ n1 n2 ho,r⟩;intro m
 induction m with
 |zero =>
  intro k s hm hk t1 dd kp hR;have ek:k=ps.length:=by omega
  refine jo Md (?_:wpAny _ _ _ _ _ _);rw[mq AM _];show wpAny _ A.in1 (pyNext (.ref it) >>= _) _ _ s;refine ae (next_tuple_end hh t1 (up QA wG.symm kp hv) (by simp;omega) fun h' k'=>?_)
  refine ae (m:=Builtin.Dict.addKeywords d []) (ak (ak ?_));have nc:h'.DictOf (cL prog w) d (ps.take k):=dd.at fun o e=>k' d o Ig e;rw[ek,du]at nc;exact hR h' s.toks nc fun b o a1 a2 e=>k' b o a1 (kp b o a1 a2 e)
 |succ m ih =>
  intro k s hm hk t1 dd kp hR;have aS:k < ps.length:=by omega
  have hp:ps[k]? = some ps[k]:=cP aS;obtain⟨a,x,hva,Cn,na2,aav,oi⟩:=md k _ hp;have tk1:ps.take (k+1)=ps.take k ++ [ps[k]]:=by rw[gu,hp];rfl
  have new:ps[k].1 ∉ (ps.take k).map (·.1):=fun w=>by
   have e:ps.map (·.1)=(ps.take k).map (·.1)++(ps.drop k).map (·.1):=by rw[<-a8,akh]
   rw[e,mr]at nd;refine nd.2.2 _ w _ ?_ rfl;rw[Dr aS];exact bj
  refine jo Md (?_:wpAny _ _ _ _ _ _);rw[mq AM _];show wpAny _ A.in1 (pyNext (.ref it) >>= _) _ _ s;refine ae (next_tuple_item t1 (up QA wG.symm kp hv) hva fun h' t1' sb=>?_);have rM:∀b o,b≠it->b≠d->g.get? b=some o->h'.get? b=some o:=fun b o a1 a2 e=>sb.extBut b o a1 (kp b o a1 a2 e);have nc:h'.DictOf (cL prog w) d (ps.take k):=dd.at fun o e=>sb.extBut d o Ig e;refine ae (Xx (s:={ s with heap:=h' }) (k:=ps[k].1) (up Cn na2 rM aav) oi nc new (by rw[dJ];omega) fun gD tk ace QB=>?_)
  rw[show((k:Int)+1)=((k+1:Nat):Int) from rfl];exact ak ⟨pj AM _,ih (k+1) _ (by omega) aS (t1'.extBut QB.extBut Ig.symm) (by rw[tk1];exact ace) (fun b o a1 a2 e=>QB.extBut b o a2 (rM b o a1 a2 e)) hR⟩
theorem Va {E:Value->Shared->Prop}{Q:Value->Shared->Prop} (hh:A.handled=none) (ps:List (Key×Value)) (nd:(ps.map (·.1)).Nodup) (hz:ps.length<=sizeLine) (hsz:vs.size=ps.length) {sl:Array (Option Value)}
  (hv:s.heap.get? t=some { cls:= .type "tuple",dict:=none,data:= .seq vs n,slots:=sl })
  (md:∀ (i:Nat) p,ps[i]? = some p -> ∃a x,vs[i]? = some (.ref a)/\IsTup s.heap a #[x,p.2]/\(cL prog w).is p.1 x=true)
  (q:∀d h' tk,s.heap.objs.size<=d->h'.DictOf (cL prog w) d ps->(∀b o,s.heap.get? b=some o->h'.get? b=some o)->Q (.ref d) { s with heap:=h',toks:=tk }) :
  wpAny (model prog w) A (call (.type "dict") [.ref t]) Q E s:=by
 refine callType_codes (Q₁:=fun obj br=>obj = .ref s.heap.objs.size/\br={ s with heap:=s.heap.push { cls:= .type "dict",data:= .dict #[] } }) F.kt_called_dict (F.kt_typeCall_dict_1 _) F.entry_dict_init (kt_code_dict_new _ ⟨rfl,rfl⟩) ?_;rintro obj br ⟨rfl,rfl⟩;have dn:(s.heap.push { cls:= .type "dict",data:= .dict #[] }).DictOf (cL prog w) s.heap.objs.size []:=Heap.DictOf.new s.heap;have k2:∀b o,s.heap.get? b=some o->(s.heap.push { cls:= .type "dict",data:= .dict #[] }).get? b=some o:=fun b o e=>aT _ e;generalize s.heap.push { cls:= .type "dict",data:= .dict #[] }=h2 at dn k2 ⊢;refine⟨dn.typeIs,F.args_dict_init_2 _ _,?_⟩;unfold Builtin.«dict.__init__»;refine ae ?_;unfold Builtin.Dict.selfAndRest;refine ae (wpAny_notOrdered_dict dn.typeIs ?_);refine(ak ?_:wpAny _ _ (pure (s.heap.objs.size,[Value.ref t])) _ _ _);show wpAny _ _ (Builtin.Dict.updateFrom "dict.__init__" s.heap.objs.size (.ref t) [] .none) _ _ _;unfold Builtin.Dict.updateFrom;have v2:=k2 _ _ hv;refine ae (oZ (T:= "tuple") ⟨_,v2,rfl⟩ ?_);rw[aB (by decide)]
 refine ae (Xw v2 hh fun h3 tk3 k3=>?_);rw[aB (by decide)]
 have it3:IsTup h3 t vs:=⟨_,k3 _ _ v2,rfl,n,rfl⟩;refine ae (lF (ae (iter_tuple it3 ?_)));refine ak ⟨pj AM _,?_⟩;have up:∀b o,s.heap.get? b=some o->h3.get? b=some o:=fun b o e=>k3 b o (k2 b o e);have Co:s.heap.objs.size < h3.objs.size:=by
  obtain⟨o,_,_,ho,_⟩:=dn;exact aV (k3 _ _ ho)
 have dd3:h3.DictOf (cL prog w) s.heap.objs.size []:=dn.at fun o e=>k3 _ o e;have lt:∀ {b:Addr}{o:Obj},s.heap.get? b=some o->b < s.heap.objs.size:=fun e=>aV e;refine YA (A:=A.in1) (g:=s.heap) (it:=h3.objs.size) hh (bp Co) (se (lt hv)) (bp (xi (lt hv) Co)) ps nd hz hsz ⟨_,hv,rfl,n,rfl⟩ (fun i p hp=>?_) _ 0 _ rfl (bG _) ⟨_,cu _ rfl,rfl,rfl⟩ (dd3.at fun o e=>aT _ e) (fun b o _ _ e=>aT _ (up b o e)) fun h' tk dd kp=>?_
 ·obtain⟨a,x,h1,zm,h3'⟩:=md i p hp
  obtain⟨o,ho,_⟩:=id zm;exact⟨a,x,h1,bp (xi (lt ho) Co),bp (lt ho),zm,h3'⟩
 ·exact⟨rfl,q _ h' tk (aR _) dd fun b o e=>kp b o (bp (xi (lt e) Co)) (bp (lt e)) e⟩
end
end HT
namespace L2
open PySem PySem.Spec PyProof.Rows PySem.W HT
theorem Mg:cN X (compareOp .LtE) (fun x y H Q=>∃i j,x = .str i/\y = .str j/\Q (.bl (!decide (j.cps.toList < i.cps.toList))) H):=by
 rintro pins s σ H x y v u Q I rx ry ⟨i,j,ex,ey,q⟩;subst ex ey;obtain⟨t,rfl⟩:=rx;obtain⟨t',rfl⟩:=ry;exact P.le_str (c7 I q rfl)
def vh (H:Hp) (vs:List V) (kvs:List (Str×V)):Prop:=Paired (fun y p=>∃a,y=V.ref a/\H a=some (.tup [.str p.1,p.2])) vs kvs
theorem vh.same {kvs:List (Str×V)} (h:vh H vs kvs) (s:aq H H'):vh H' vs kvs:=Paired.imp' (fun _ _ ⟨a,e,q⟩=>⟨a,e,s _ _ q⟩) h
def jW (kvs:List (Str×V)):List (Key×V):=kvs.map fun p=>(Sum.inr p.1,p.2)
theorem Nq:∀ (kvs:List (Str×V)) (ys:List Value),ys.length=kvs.length->(∀ (i:Nat) (hi:i < kvs.length),∃y,ys[i]? = some y/\RelV kvs[i].2 y)->KV (jW kvs) ((kvs.map fun p=>(Sum.inr p.1:Key)).zip ys)
 |[],ys,h,_=>.nil
 |p::kvs,[],h,_=>by simp at h
 |p::kvs,y::ys,h,f=>by
  obtain⟨y',e,r⟩:=f 0 (by simp)
  obtain rfl:y=y':=by simpa using e
  exact .cons ⟨rfl,r⟩ (Nq kvs ys (by simpa using h) fun i hi=>by
   obtain⟨y2,e2,r2⟩:=f (i+1) (Nat.succ_lt_succ hi);exact⟨y2,by simpa using e2,r2⟩)
end L2
namespace L2
open PySem PySem.Spec PyProof.Rows PySem.W
structure iS (k:Nat) (A:Around):Prop where
 dp:A.depth+3 * k+5 < recursionLimit
 un:A.units+16 * k+200 < cLine
 gd:A.guards=some []
theorem a7.marked {k:Nat} (r:a7 k A) (v:Option Value):iS k (A.mark v):=⟨r.dp,r.un,r.gd⟩
theorem iS.deeper {k:Nat} (r:iS (k+1) A) (env:Env):iS k (A.deeper env):=
 ⟨by have:=r.dp;show A.depth+1+3 * k+5 < _;omega,by have:=r.un;show A.units+3+16 * k+200 < _;omega,by first|exact r.gd|simp[Around.deeper,r.gd]⟩
theorem iS.make {k:Nat} (r:iS (k+1) A) (C:Addr) (us:List Value) (kw:List (Str×Value)):iS k (A.under (.builtin "type.__call__" ⟨.ref C::us,kw⟩)):=
 ⟨by have:=r.dp;rw[Lw];omega,by have:=r.un;rw[Lx];omega,Lo r.gd⟩
theorem iS.depth {k:Nat} (r:iS k A):A.depth < recursionLimit:=by have:=r.dp;omega
theorem iS.units {k:Nat} (r:iS k A):A.units+64 < cLine:=by have:=r.un;omega
def vy (P:Program) (w:World) (K:Frag) (mg:Str->Option Value) (base:Heap) (N:List Str) (qual:Str) (scope:Scope) (f:Addr) (cd:Value) (A:Around) (outer:List Env) (s:Shared) (H:Hp) (E:XK):Cx:=
 { jY aQ P w K mg base N qual scope f cd A outer s H E with calm:=false }
structure yj (P:Program) (w:World) (K:Frag) (mg:Str->Option Value) (base:Heap) (k:Nat) (f:Addr) (fd:FuncData) (ps:List Str) (sp:Option Value->Sp):Prop where
 len:∀x vs H Q E,sp x vs H Q E->vs.length=ps.length
 run:∀ (A:Around) (outer:List Env) (s:Shared) (H:Hp) (args:Args) (us:List Value) (vs:List V) (Q:VK) (E:XK),iS k A->pY P w K mg base A outer s H->BindsTo s fd args (ps.zip us)->Vals vs us->sp A.handled vs H Q E ->
  codeAny (model P w) A (.call (.ref f) args) (CR aQ outer P w H s Q E) s
abbrev yk (P:Program) (w:World) (K:Frag) (mg:Str->Option Value) (base:Heap) (k:Nat) (f:Addr) (fd:FuncData) (ps:List Str) (sp:Sp):Prop:=yj P w K mg base k f fd ps fun _=>sp
theorem VY
  (I:Inv (jY aQ P w K mg base N qual scope f cd { A with handled:=none } outer s H E) pins σ H1 s1):Inv (vy P w K mg base N qual scope f cd A outer s H E) pins σ H1 s1:=
 ⟨⟨I.ok.mod,I.ok.kind,I.ok.glob,I.ok.blt,I.ok.above,I.ok.inj,I.ok.has,I.ok.qd,(fun z=>Bool.noConfusion (show false=true from z)),I.ok.frames,I.ok.m4,I.ok.ou,I.ok.bs,I.ok.lb,I.ok.pX,I.ok.og,I.ok.gL,I.ok.lY⟩,I.os,I.bare,I.base,I.loc,I.cell,I.free,I.iD,I.pin,I.ar,I.len⟩
theorem aW.QC {st:Stmt}{k:Nat}{sp:Option Value->Sp} (F:aW K x qual st f fd) (S:b6 N ps (aJ st)) (len:∀x vs H Q E,sp x vs H Q E->vs.length=ps.length)
  (pS:∀ (cdv:Value) (A:Around) (outer:List Env) (s:Shared) (H:Hp) (vs:List V) (Q:VK) (E:XK),iS k (A.deeper (envOfC qual (aJ st) s.heap.objs.size f cdv))->sp A.handled vs H Q E ->
   ∃t,gA (vy P w K mg base N qual (aJ st) f cdv A outer s H E) (b9 st) t/\t { nx:=fun _ H'=>Q .aF H',rt:=Q } (start N vs) H):yj P w K mg base (k+1) f fd ps sp:=by
 obtain⟨oc,od,kV,doc,pm,an,cdv,ct,oq,rfl,lk,gQ⟩:=F.ex;refine⟨len,fun A outer s H args us vs Q E hr e0 hb r lh=>?_⟩;have hl:=len _ _ _ _ _ lh;have KX:K.In s.heap:=e0.mod.iF.keeps fun b o e=>(e0.bs b o e).1;have lim:s.heap.NoLimit:=e0.mod.nolimit.keeps fun b o e=>(e0.bs b o e).1;have FG:∀y∈ps.zip us,(aJ st).names.lookup y.1=some .local\/((aJ st).names.lookup y.1=some .cell/\((cellsFrom (s.heap.objs.size+1) (aJ st).names []).lookup y.1).isSome=true):=fun⟨n,v⟩ hy=>by
  rcases S.par n (Kl hy).1 with q|q
  ·exact .inl q
  ·exact .inr ⟨q,TB _ _ _ (.inl q)⟩
 refine codeAny_call_function hr.depth (KX _ _ lk) rfl S.co S.gen rfl (PySem.W.codeRec_of KX gQ) (hb _ _ _ _ ?_);refine aj0 S.kind FG fun env he s1 x=>?_;subst he;refine⟨lim.keeps x.toInCall.keep,codeAny_func ?_⟩;obtain⟨t,ht,hq⟩:=pS cdv A outer s H vs Q E (hr.deeper _) lh;have e0':pY P w K mg base { A with handled:=none } outer s H:=⟨e0.frames,e0.mod,e0.bs,e0.lb,e0.gL,e0.lY,e0.ar,e0.bare⟩;have I:Inv (vy P w K mg base N qual (aJ st) f cdv A outer s H E) [] (start N vs) H s1:=VY (L4 S rfl e0' hl r x);refine mn (ht [] s1 (start N vs) H _ I hq) (fun fl s' hs=>?_) fun e s' hs=>hs;have fin:∀ {aG:St}{H':Hp}{v:V}{u:Value},Inv (vy P w K mg base N qual (aJ st) f cdv A outer s H E) [] aG H' s'->RelV v u->Q v H'->CE outer P w H s Q u s':=
  fun {aG H' v u} J rv q=>⟨v,H',J.os,J.bare,J.base,J.ar,rv,q⟩
 cases fl with
 |ret u =>
  obtain⟨v,aG,H',J,rv,q⟩:=hs;exact fin J rv q
 |next =>
  obtain⟨aG,H',J,q⟩:=hs;exact fin (v:=V.aF) (u:=Value.none) J rfl q
 |brk =>
  obtain⟨_,_,_,q⟩:=hs;exact False.elim q
 |cont =>
  obtain⟨_,_,_,q⟩:=hs;exact False.elim q
theorem aW.okH {st:Stmt}{k:Nat} (F:aW K x qual st f fd) (S:b6 N ps (aJ st)) (len:∀vs H Q E,sp vs H Q E->vs.length=ps.length)
  (pS:∀ (cdv:Value) (A:Around) (outer:List Env) (s:Shared) (H:Hp) (vs:List V) (Q:VK) (E:XK),iS k (A.deeper (envOfC qual (aJ st) s.heap.objs.size f cdv))->sp vs H Q E ->
   ∃t,gA (vy P w K mg base N qual (aJ st) f cdv A outer s H E) (b9 st) t/\t { nx:=fun _ H'=>Q .aF H',rt:=Q } (start N vs) H):yk P w K mg base (k+1) f fd ps sp:=F.QC S (fun _=>len) pS
section
variable{k:Nat}{p:Pos}{t:TA}
theorem Xy (q:eU X.K C (some (.ref fI))=true) (fn:isFn X.K (.ref fI)=true) (F:yk X.prog X.w X.K X.mg X.base k fI fd ps sp) (hr:iS (k+1) X.A) (hb:Binds X.K fd ps []) (hx:Passes aQ X E) (I:Inv X pins σ H s) (r:Vals vs us) (bV:us.length<=100)
  (h:∀e,H e=none->sp (.ref e::vs) (upd H e (cg C none e)) (fun v H2=>v = .aF/\Q (.ref e) H2) E):wpAny (model X.prog X.w) X.A (call (.ref C) us) (EP X pins σ Q) X.xe s:=by
 obtain⟨⟨up,N,nm,qn,bs,hd,sn,sb,ab,col,od,a0,a1,a2,a3,a5,mN,at_,ns,ni,T⟩⟩:=uM I.bx q;obtain⟨oI,lk,oc⟩:=ib.mp (show(X.K.lookup fI).map (·.cls)=some (.type "function") from eW.mp fn);have h1:=h (s.heap.objs.size+1) (I.ar.fresh (lG _));have bx:=I.bx;have I2:Inv X pins σ (upd H (s.heap.objs.size+1) (cg C none (s.heap.objs.size+1))) { s with heap:=lT s.heap C us }:=I.put (fun _ _ z=>uI z) (Dh (lG _)) (Be Ee);have e0:=I2.yq.make C us [];have ix:=hr.make C us [];have r2:Vals (V.ref (s.heap.objs.size+1)::vs) (Value.ref (s.heap.objs.size+1)::us):= .cons rfl r;have hl:(Value.ref (s.heap.objs.size+1)::us).length=ps.length:=by rw[<-r2.length];exact F.len none _ _ _ _ h1
 have rL:=hb { s with heap:=lT s.heap C us } (Value.ref (s.heap.objs.size+1)::us) I2.bx (by rw[gr];exact hl)
 rw[gr]at rL;have run:=F.run _ X.stack _ _ ⟨Value.ref (s.heap.objs.size+1)::us,[]⟩ (Value.ref (s.heap.objs.size+1)::us) _ _ E ix e0 rL r2 h1;obtain⟨hp,g,d,tk,os⟩:=s;refine Lc T7 T at_ ns ni (bx _ _ lk) oc (by rw[aN];omega) (qF (sf run fun r s' hq=>?_))
 cases r with
 |error e=>exact hx pins σ _ _ e s' I2 hq
 |ok fl =>
  cases fl with
  |ret u =>
   obtain⟨v,H',I3,rv,ev,q3⟩:=I2.after hq;subst ev;exact⟨rv,.ref (hp.objs.size+1),H',I3,rfl,q3⟩
  |next=>exact False.elim hq
  |brk=>exact False.elim hq
  |cont=>exact False.elim hq
theorem YB (q:eU X.K C (some (.ref fI))=true) (fn:isFn X.K (.ref fI)=true) (kp:keepIn X.K (.ref C)=true) (F:yk X.prog X.w X.K X.mg X.base k fI fd ps sp) (hr:iS (k+1) X.A) (hb:Binds X.K fd ps []) (hx:Passes aQ X E)
  (hg:Gl X x) (hm:X.mg x=some (.ref C)) (ha:PA X (e::es) t) (jI:(x==("__debug__" : Str))=false:=by decide)
  (he:starEach (e::es) X.env=(false,eval e X.env)::starEach es X.env:=by rfl) (dk:(backTo pos (starEach es X.env)).any (·.1)=false:=by rfl):PE X (.Call (.Name x p) (e::es) [] pos) (Oo C sp E t):=by
 intro pins s σ H Q I h;refine sg (nU I hg hm ?_ jI);refine Ky (h₀:=X.base) I.ok.mod.iF kp (aE (ha pos pins s σ H _ I h) fun us s1 ⟨vs,H1,I1,r,bV,q1⟩=>⟨I1.bx,?_⟩) he dk;exact Xy q fn F hr hb hx I1 r (by show us.length<=100;rw[<-r.length];exact bV) q1
end
end L2
namespace L2
open PySem PySem.W PySem.Calls PyProof.Rows
section
variable{α β:Type}
def Pm (n:Nat) (p:Array Nat):Prop:=p.toList.Perm (List.range n)
theorem Pm.lt {p:Array Nat} (h:Pm n p) (hn:0 < n) (i:Nat):p.getD i 0 < n:=by
 rw[pq];cases e:p[i]? with
 |none=>exact hn
 |some x =>
  have:x∈p.toList:=Array.mem_def.mp (aki e);exact oW.mp (h.mem_iff.mp this)
theorem Pm.rev {p:Array Nat} (h:Pm n p) (i j:Nat):Pm n (kas_rev p i j):=(akj.mp (mirror_perm p i j _)).trans h
theorem Pm.bub {p:Array Nat} (h:Pm n p) (i j:Nat):Pm n (bubble p i j):=(akj.mp (bubble_perm p i j)).trans h
theorem NZ {γ:Type}{p:Array Nat}{vs:List γ} (d:γ) (h:Pm vs.length p):(p.toList.map fun i=>vs.getD i d).Perm vs:=by
 have h1:=List.Perm.map (fun i=>vs.getD i d) h;refine h1.trans (List.Perm.of_eq ?_)
 apply Uv
 ·simp
 ·intro i h1 h2
  simp[List.getD,h2]
end
theorem DQ {α β:Type}{F:α->β->Prop}{l l':List α} (h:l'.Perm l):∀ {m:List β},Paired F l m -> ∃m',m'.Perm m/\Paired F l' m':=by
 induction h with
 |nil=>intro m p;exact⟨m,.refl _,p⟩
 |cons x _ ih =>
  intro m p;cases p with
  |cons q t =>
   obtain⟨m',e,r⟩:=ih t;exact⟨_::m',e.cons _,.cons q r⟩
 |swap x y l =>
  intro m p;cases p with
  |cons q t =>
   cases t with
   |cons q2 t=>exact⟨_,List.Perm.swap _ _ _,.cons q2 (.cons q t)⟩
 |trans _ _ Ih Ii =>
  intro m p;obtain⟨m2,e2,p2⟩:=Ii p;obtain⟨m1,e1,p1⟩:=Ih p2;exact⟨m1,e1.trans e2,p1⟩
theorem ZJ {o:HO} (x:bu P w H h a o):∃q,h.get? a=some q:=by
 cases o with
 |lst xs=>obtain⟨_,_,_,_,e⟩:=x;exact⟨_,e⟩
 |tup xs=>obtain⟨_,_,_,q,e,_⟩:=x;exact⟨q,e⟩
 |dK kvs=>obtain⟨_,_,_,_,o,_,_,e,_⟩:=x;exact⟨o,e⟩
 |dT kvs=>obtain⟨_,_,_,_,o,_,_,e,_⟩:=x;exact⟨o,e⟩
 |set S n=>obtain⟨o,_,_,_,e,_⟩:=x;exact⟨o,e⟩
 |ins C dx fs=>obtain⟨_,_,_,e,_⟩:=x;exact⟨_,e⟩
 |own y=>exact x
 |xd fs=>obtain⟨_,⟨o,_,_,e,_⟩,_⟩:=x;exact⟨o,e⟩
 |yI lo hi=>obtain⟨_,_,_,e⟩:=x;exact⟨_,e⟩
 |cB q u=>exact⟨q,x.1⟩
 |qb ps=>exact⟨_,x⟩
 |met f y=>exact⟨_,x⟩
 |ext φ=>exact x.2.1
theorem Inv.sorted {σ:List (Option V)}{m:Str->Option Value}{D:Addr}{out:List Value}{c:Nat} (I:Inv X pins σ H s) (hm:s.heap.Ns X.env.locals m) (ll:h'.Ns X.env.locals m)
  (k:∀b o,b≠X.env.locals->s.heap.get? b=some o->h'.get? b=some o) (hD:∀b o,s.heap.get? b=some o->b≠D) (new:h'.get? D=some (listOf out.toArray c)) (r:Vals ys out) (hz:ys.length<=sizeLine) :
  H D=none/\Inv X pins σ (upd H D (.lst ys)) { s with heap:=h',toks:=t' }:=by
 have there:∀b u,H b=some u -> ∃o,s.heap.get? b=some o:=fun b u e=>ZJ (I.ar b u e);have hn:H D=none:=by
  cases q:H D with
  |none=>rfl
  |some u =>
   obtain⟨o,e⟩:=there D u q;exact absurd rfl (hD D o e)
 have zo:∀b u,H b=some u->b≠D:=fun b u e z=>by rw[z,hn]at e;cases e
 have yK:∀b u,H b=some u->b≠X.env.locals:=fun b u e z=>by rw[z,I.free]at e;cases e
 refine⟨hn,I.step (g':=s.gens) (d':=s.drawn) (ch:= []) (fun _ z=>nomatch z) (fun b o hL _ _ e _=>k b o hL e) (fun b o hL _ _ e _=>⟨o.slots,k b o hL e⟩) (fun b o _ e n=>by rw[ah (hD b o e)];exact n) (fun b o _ e=>?_)
  (fun b xs e=>by rw[ah (zo b _ e)];exact e) (fun b o u e=>by rw[ah (zo b _ e)];exact e) (fun b ps e=>⟨#[],by rw[ah (zo b _ e),e];simp⟩) (fun m' q=>?_) (fun b u e=>?_) I.bare⟩
 ·by_cases hb:b=X.env.locals
  ·obtain⟨o',es,ep,ho,_⟩:=ll
   exact⟨o',by rw[hb];exact ho⟩
  ·exact⟨o,k b o hb e⟩
 ·obtain⟨o,es,ep,ho,hd,hs,hf⟩:=hm
  obtain⟨o2,Ij,ep2,lj,hd2,nC,ua⟩:=q;rw[ho]at lj;cases lj;rw[hd]at hd2;cases hd2;have:m'=m:=funext fun x=>(ua x).symm.trans (hf x);rw[this];exact ll
 ·by_cases hb:b=D
  ·subst hb
   rw[ag]at e;cases e;exact⟨hz,out,c,r,new⟩
  ·rw[ah hb]at e
   refine(I.ar b u e).gY (fun a v hc q=>k a v ?_ q) (fun a q=>by rw[ah (zo a _ q)];exact q) fun a xs q=>by rw[ah (zo a _ q)];exact q
   rcases hc with z|z
   ·rw[z];exact yK b u e
   ·exact yK a _ z
theorem WH {B:Around}{E:Value->Shared->Prop}{R:PySem.Fin->Shared->Prop} (at_:s.heap.get? a=some (seqObj "list" us.toArray n)) (bV:us.length < 2)
  (k:∀c g,(∀b o,b≠a->s.heap.get? b=some o->g.get? b=some o)->g.get? a=some (listOf us.toArray c)->R (.done (.ret .none)) { s with heap:=g }):wpAny (model P w) B (Builtin.«list.sort» ⟨[.ref a],[]⟩) R E s:=by
 obtain⟨ep,gone⟩:∃ep,(s.heap.update a (Obj.mapSeq fun _=>(#[]:Array Value))).get? a=some (seqObj "list" #[] ep):=⟨_,get?_update_seq at_ fun _=>#[]⟩;have fits:us.toArray.size<=sizeLine:=by rw[aN,cS];omega
 have small:us.toArray.size < 2:=by simpa using bV
 rw[list_sort_plain];refine ae (listItems_at at_ rfl (ae (listUpdate_at at_ rfl (ae (seqEpoch_at gone rfl (ae (wpAny_newTuple (ae (As (eM ?_) (bG _))) (by simpa using fits))))) fits (bG _))))
 have two:∀b o,(s.heap.update a (Obj.mapSeq fun _=>(#[]:Array Value))).get? b=some o->(((s.heap.update a (Obj.mapSeq fun _=>(#[]:Array Value))).push (seqObj "tuple" us.toArray 0)).push (seqObj "list" #[] 0)).get? b=some o:=fun b o q=>aT _ (aT _ q)
 change wpAny (model P w) B _ R E { s with heap:=((s.heap.update a (Obj.mapSeq fun _=>(#[]:Array Value))).push (seqObj "tuple" us.toArray 0)).push (seqObj "list" #[] 0) }
 have Bw:=two _ _ gone;have others:∀b o,b≠a->s.heap.get? b=some o->(((s.heap.update a (Obj.mapSeq fun _=>(#[]:Array Value))).push (seqObj "tuple" us.toArray 0)).push (seqObj "list" #[] 0)).get? b=some o:=fun b o nb q=>two b o (((Ap s.heap a _).2 b nb).trans q);generalize (((s.heap.update a (Obj.mapSeq fun _=>(#[]:Array Value))).push (seqObj "tuple" us.toArray 0)).push (seqObj "list" #[] 0))=g at Bw others ⊢
 dsimp only
 rw[aB small,aB small];refine ae (ak (ae (ak ?_)));have same:(arrOf (SortSt.mk' general' (us.toArray.zip us.toArray) #[] 7 none)).map (·.2)=us.toArray:=KC.mp (by show((us.toArray.zip us.toArray).map (·.2)).toList=_;simp[List.map_snd_zip])
 dsimp only
 rw[same];refine ae (seqEpoch_at Bw rfl (ae (listUpdate_at Bw rfl ?_ (bG _) (Nat.le_succ_of_le fits))));obtain⟨c,back⟩:∃c,(g.update a (Obj.mapSeq fun _=>us.toArray)).get? a=some (seqObj "list" us.toArray c):=⟨_,get?_update_seq Bw fun _=>us.toArray⟩;simp only[bne_self_eq_false,si,Ai];exact ak (k c _ (fun b o nb q=>((Ap g a _).2 b nb).trans (others b o nb q)) back)
theorem Mh {γ:Type}{f:γ->V}{g:γ->Value} (h:∀x,RelV (f x) (g x)):∀l:List γ,Vals (l.map f) (l.map g)
 |[]=>.nil
 |x::l=>.cons (h x) (Mh h l)
end L2
namespace L2
open PySem PySem.W PySem.Spec PyProof.Rows
def qk (d:Addr) (o:Obj) (kvs:List (Key×V)):It:=⟨fun i H=>H d=some (.cB o (.dK kvs))/\i < kvs.length,fun i H v H'=>H'=H /\ ∃kv,kvs[i]? = some kv/\v=kV kv.1,fun i H=>H d=some (.cB o (.dK kvs))/\kvs.length<=i⟩
theorem Mi (d it:Addr) (bB:d≠it) (o:Obj) (kvs:List (Key×V)) (vs:List (Key×Value)) (ep:Nat) (rk:KV kvs vs) (hD:∀h:Heap,h.get? d=some o->h.DictAt (cL P w) d vs ep) :
  Turn P w K tg (qk d o kvs) [it] it (fun i h=>i<=kvs.length/\h.IsKeyIter it d i vs.length ep) where
 mem:=by simp
 obj:=fun i h st b hb=>by
  obtain rfl:b=it:=by simpa using hb
  obtain⟨_,o,e,c,d⟩:=st;exact⟨o,e,fun v z=>by rw[d]at z;cases z⟩
 keep:=fun i h h' st k=>by
  obtain⟨l,o,e,r⟩:=st;exact⟨l,o,k it (by simp) _ e,r⟩
 item:=by
  intro X hP hw hK hc i pins s σ H E I hf st hg;subst hP hw hK;obtain⟨f0,f1,f2,f3,f4,f5⟩:=hf it (by simp)
  have hl:kvs.length=vs.length:=rk.length;have hd:=hD s.heap (show bu X.prog X.w H s.heap d (.cB o (.dK kvs)) from I.ar d _ hg.1).1;refine(Walks.dictKeys (knd:=cL X.prog X.w) (I.ok.hd hc) it d bB vs ep).item i s _ _ (by have:=hg.2;omega) ⟨st.2,hd⟩ fun v h' tk hv gC kk=>?_
  obtain⟨k,x,hx,hk⟩:=hv;have I1:Inv X pins σ H { s with heap:=h',toks:=tk }:=I.turned (fun b o hb e=>kk b o (by simpa using hb) e) f0 f1 f3 f4 f5
  obtain⟨ob,e,cl,dt⟩:=id gC.1;have eJ:i < kvs.length:=hg.2;have wH:kvs[i]? = some kvs[i]:=cP eJ;have ek:kvs[i].1=k:=by
   have h1:=fc (fun l=>l[i]?) rk.keys;simp only[eX,wH,hx]at h1;exact f' h1
  exact⟨_,rfl,yc (s:={ s with heap:=h',toks:=tk }) e cl dt (by decide) ⟨kV k,H,I1,E3 hk,⟨rfl,kvs[i],wH,by rw[ek]⟩,⟨hg.2,gC.1⟩,fun b hb=>(hf b hb).1⟩⟩
 done:=by
  intro X hP hw hK hc i pins s σ H E I hf st hg;subst hP hw hK;obtain⟨f0,f1,f2,f3,f4,f5⟩:=hf it (by simp)
  have ei:i=kvs.length:=Nat.le_antisymm st.1 hg.2;have hl:kvs.length=vs.length:=rk.length;have hd:=hD s.heap (show bu X.prog X.w H s.heap d (.cB o (.dK kvs)) from I.ar d _ hg.1).1;have lg:=st.2;rw[ei,hl]at lg;exact(Walks.dictKeys (knd:=cL X.prog X.w) (I.ok.hd hc) it d bB vs ep).done s _ _ ⟨lg,hd⟩ fun h' tk kk=>⟨rfl,I.turned (fun b o hb e=>kk b o (by simpa using hb) e) f0 f1 f3 f4 f5⟩
 self:=fun A i s Q E st h=>wpAny_pyIter_keyiter st.2 h
theorem Inv.freeze {σ:List (Option V)} (I:Inv X pins σ H s) (hd:H d=some (.dK kvs)) (ho:s.heap.get? d=some o):Inv X pins σ (upd H d (.cB o (.dK kvs))) s:=by
 have ok:bu X.prog X.w H s.heap d (.dK kvs):=I.ar d _ hd;have nd:∀ {b:Addr}{u:HO},H b=some u->u ≠ .dK kvs->b≠d:=fun e n z=>by rw[z,hd]at e;exact n (f' e).symm
 refine I.un (h':=s.heap) (t':=s.toks) ⟨fun b ob q _ _ _=>q,fun b ob q _ _ _=>⟨ob.slots,q⟩,fun b ob q n _=>?_,fun b ob q _=>⟨ob,q⟩,fun b xs e=>?_,fun b ob u e=>?_,fun b ps e=>⟨#[],?_⟩⟩ fun b u e=>?_
 ·rw[ah (fun z=>by rw[z,hd]at n;cases n)];exact n
 ·rw[ah (nd e (by intro z;cases z))];exact e
 ·rw[ah (nd e (by intro z;cases z))];exact e
 ·rw[ah (nd e (by intro z;cases z)),e];simp
 ·by_cases hb:b=d
  ·subst hb
   rw[ag]at e;cases e
   exact⟨ho,ok.gY (fun _ _ _ q=>q) (fun c q=>by rw[ah (nd q (by intro z;cases z))];exact q) fun c xs q=>by rw[ah (nd q (by intro z;cases z))];exact q⟩
  ·rw[ah hb]at e
   exact(I.ar b u e).gY (fun _ _ _ q=>q) (fun c q=>by rw[ah (nd q (by intro z;cases z))];exact q) fun c xs q=>by rw[ah (nd q (by intro z;cases z))];exact q
def Ow (te:TE):TI:=fun σ H R=>te σ H fun v H1=>∃d kvs,v = .ref d/\((H1 d=some (.dK kvs) /\ ∀o,R (qk d o kvs) (upd H1 d (.cB o (.dK kvs)))) \/ ∃o,H1 d=some (.cB o (.dK kvs))/\R (qk d o kvs) H1)
theorem Nr (he:PE X e te):PI X tg e (Ow te):=by
 intro pins s σ H R I h;refine aE (he pins s σ H _ I h) fun v s1 hQ9=>?_;obtain⟨y,H1,I1,r1,d,kvs,ey,q⟩:=hQ9;subst ey;cases r1
 have rd:Rd H1 d (.dK kvs):=by
  rcases q with⟨e,_⟩|⟨o,e,_⟩
  ·exact .inl e
  ·exact .inr ⟨o,e⟩
 obtain⟨hz,hs,vs,rk,ql⟩:=rb I1.ar rd;obtain⟨o,es,ep,ho,hx,rO,hk,hp,hn⟩:=id ql;refine wpAny_pyIter_dict (knd:=cL X.prog X.w) (kvs:=vs) (ep:=ep) hs ⟨o,es,ho,hx,rO,hk,hp,hn⟩ ?_;have bB:d≠s1.heap.objs.size:=bp (aV ho);have hD:∀h:Heap,h.get? d=some o->h.DictAt (cL X.prog X.w) d vs ep:=fun h e=>⟨o,es,e,hx,rO,hk,hp,hn⟩;have I2:Inv X pins σ H1 { s1 with heap:=s1.heap.push { cls:= .type "dict_keyiterator",data:= .fields #[.ref d,.int 0 0,.int vs.length 0,.int ep 0] } }:=I1.kept (t':=s1.toks) fun b ob z=>aT _ z;have st:0<=kvs.length/\Heap.IsKeyIter (s1.heap.push { cls:= .type "dict_keyiterator",data:= .fields #[.ref d,.int 0 0,.int vs.length 0,.int ep 0] }) s1.heap.objs.size d 0 vs.length ep:=⟨bG _,_,cu _ rfl,rfl,rfl⟩;have lq:H1 s1.heap.objs.size=none:=I1.ar.fresh (aR _);rcases q with⟨e,q⟩|⟨o',e,q⟩
 ·refine⟨s1.heap.objs.size,[s1.heap.objs.size],_,_,_,rfl,I2.freeze e (aT _ ho),Mi d s1.heap.objs.size bB o kvs vs ep rk hD,st,fun b hb=>?_,q o⟩
  obtain rfl:b=s1.heap.objs.size:=by simpa using hb
  exact I1.jD (aR _) (by rw[ah (aO bB)];exact lq)
 ·obtain rfl:o'=o:=by
   have:=(show bu X.prog X.w H1 s1.heap d (.cB o' (.dK kvs)) from I1.ar d _ e).1;rw[ho]at this;exact(f' this).symm
  refine⟨s1.heap.objs.size,[s1.heap.objs.size],_,_,H1,rfl,I2,Mi d s1.heap.objs.size bB o' kvs vs ep rk hD,st,fun b hb=>?_,q⟩;obtain rfl:b=s1.heap.objs.size:=by simpa using hb
  exact I1.jD (aR _) lq
theorem MO {g:TG} (Pv:Nat->St->Hp->Prop) (h0:Pv 0 σ H) (hl:∀i σ H,i<=kvs.length->Pv i σ H->H d=some (.cB o (.dK kvs)))
  (hs:∀i kv σ H,kvs[i]? = some kv->Pv i σ H->g (kV kv.1) σ H fun gj H2=>tb { D with nx:=Pv (i+1),ct:=Pv (i+1),bk:=D.nx } gj H2) (hd:∀σ H,Pv kvs.length σ H->D.nx σ H) :
  ∃W:Nat->Nat->St->Hp->Prop,(∃m,W 0 m σ H) /\ ∀i m σ H,W i m σ H ->
   ((qk d o kvs).stop i H/\D.nx σ H)\/((qk d o kvs).go i H /\ ∃N:St->Hp->Prop,(∀aG H',N aG H' -> ∃m',m' < m/\W (i+1) m' aG H') /\ ∀x H',(qk d o kvs).oB i H x H'->g x σ H' fun gj H2=>tb { D with nx:=N,ct:=N,bk:=D.nx } gj H2):=by
 refine⟨fun i m σ H=>m=kvs.length - i/\i<=kvs.length/\Pv i σ H,⟨kvs.length,by simp,bG _,h0⟩,?_⟩
 rintro i m σ H ⟨rfl,hi,p⟩;have q:=hl i σ H hi p
 by_cases aS:i < kvs.length
 ·refine .inr ⟨⟨q,aS⟩,Pv (i+1),fun aG H' p'=>⟨kvs.length - (i+1),by omega,rfl,aS,p'⟩,fun x H' y=>?_⟩
  obtain⟨e,kv,fV,ex⟩:=y;subst e;subst ex;exact hs i kv σ _ fV p
 ·have e:i=kvs.length:=by omega
  subst e;exact .inl ⟨⟨q,aR _⟩,hd σ H p⟩
def uc (a b:Str):Prop:=a.cps.toList<=b.cps.toList
theorem MP {a b:Str} (h1:uc a b) (h2:uc b a):a=b:=by
 have e:a.cps.toList=b.cps.toList:=List.le_antisymm h1 h2;cases a;cases b
 exact fc Str.mk (KC.mp e)
theorem LG:∀ {r:List Str}{p:Str},risingS p r=true->(∀x∈r,uc p x)/\r.Pairwise uc
 |[],p,_=>⟨by simp,.nil⟩
 |x::r,p,h=>by
  obtain⟨h1,h2⟩:=qI.mp (show(!ltCps x.cps.toList p.cps.toList && risingS x r)=true from h);obtain⟨h3,h4⟩:=LG h2;have hp:uc p x:=by
   rw[ltCps_eq]at h1;have : ¬ (x.cps.toList < p.cps.toList):=by simpa using h1
   exact this
  refine⟨fun y hy=>?_,.cons h3 h4⟩;rcases aY.mp hy with rfl|hy
  ·exact hp
  ·exact List.le_trans hp (h3 y hy)
theorem VZ {l:List Str} (h:sortedS l=true):l.Pairwise uc:=by
 cases l with
 |nil=>exact .nil
 |cons x r=>obtain⟨h1,h2⟩:=LG (show risingS x r=true from h);exact .cons h1 h2
theorem Ei:∀ {us:List Value}{ss:List Str},StrsAre us ss->Vals (ss.map V.str) us
 |_,_,.nil=>.nil
 |_,_,.cons _ t r=>.cons ⟨t,rfl⟩ (Ei r)
end L2
namespace HS
open PySem PySem.Spec PyProof.Rows
theorem YC (t:SetTable) (es:Array (Int×Value)) (z:Int) (x:Value):(layNew t es z x).2.1.led=t.led:=by
 unfold layNew;split
 ·dsimp only
  unfold SetTable.orStandIn;split <;> rfl
 ·rfl
theorem V0 {t u:SetTable}{zs:Array Int}{ord:Array Nat} (e:t.relaid zs n=some (u,ord)):u.led=t.led/\u.plain=t.plain:=by
 unfold SetTable.relaid SetTable.laid at e;cases c:SetTable.layClean (SetTable.sizeAbove n - 1) zs with
 |none=>rw[c]at e;cases e
 |some ow =>
  rw[c]at e;have e2:=f' e;have e3:=fc Prod.fst e2
  dsimp only at e3
  rw[<-e3];exact⟨rfl,rfl⟩
theorem VB (t:SetTable) (es:Array (Int×Value)) (n:Nat):(relayAll t es n).2.1.led=t.led/\(t.plain=false->(relayAll t es n).2.1.plain=false):=by
 unfold relayAll;split
 ·rename_i u ord e
  obtain⟨h1,h2⟩:=V0 e
  dsimp only
  split
  ·exact⟨h1,fun z=>h2.trans z⟩
  ·exact⟨rfl,fun _=>rfl⟩
 ·exact⟨rfl,fun _=>rfl⟩
noncomputable def gy (P:Program) (w:World) (h:Heap) (a:Addr) (xs:List Str):Prop:=
 ∃o es ep t,h.get? a=some o/\o.ExactSet/\o.data = .set es ep t/\ElemsOf (strKind P w) es.toList/\(∀k,k∈xs ↔ ∃e∈es.toList,(strKind P w).is k e.2=true) /\
  es.size < scanBound/\t.fits es.size=true/\es.size=xs.length/\t.led=(!w.params.followText "set-order")/\(es.size≠0->t.plain=false)
theorem gy.keep (x:gy P w h a xs) (k:∀o,h.get? a=some o->h'.get? a=some o):gy P w h' a xs:=let ⟨o,es,ep,t,e,r⟩:=x;⟨o,es,ep,t,k o e,r⟩
theorem gy.lt (x:gy P w h a xs):a < h.objs.size:=let ⟨_,_,_,_,e,_⟩:=x;aV e
theorem gy.typeIs (x:gy P w s.heap a xs):s.TypeIs (.ref a) "set" :=let ⟨o,_,_,_,e,c,_⟩:=x;⟨o,e,c.1⟩
theorem Xz (e:h.get? a=some { cls:= .type "set",dict:=none,data:= .set #[] 0 (.fresh 0 0 (!w.params.followText "set-order")) }):gy P w h a []:=
 ⟨_,#[],0,_,e,⟨rfl,rfl,rfl⟩,rfl,fun z hz=>(by simp at hz),fun k=>(by simp),by decide,by rfl,rfl,rfl,fun z=>absurd rfl z⟩
def jE (xs:List Str) (k:Str):List Str:=if k∈xs then xs else xs ++ [k]
section
variable{E:Value->Shared->Prop}
theorem MQ {es iG:Array (Int×Value)}{t t':SetTable}{ys:List Str} (ho:h.get? a=some o) (hx:o.ExactSet) (hd:o.data = .set es ep t) (oG:ElemsOf (strKind P w) iG.toList)
  (hm:∀k,k∈ys ↔ ∃e∈iG.toList,(strKind P w).is k e.2=true) (hb:iG.size < scanBound) (hf:t'.fits iG.size=true) (hn:iG.size=ys.length) (hl:t'.led=(!w.params.followText "set-order")) (hp:t'.plain=false) :
  (h.update a (Obj.putSet iG t')).get? a=some { o with data:= .set iG (ep+1) t' }/\gy P w (h.update a (Obj.putSet iG t')) a ys:=by
 have hg:(h.update a (Obj.putSet iG t')).get? a=some { o with data:= .set iG (ep+1) t' }:=by
  have z:=nO (Obj.putSet iG t') ho (by rw[putSet_of iG t' hd];rfl)
  rw[putSet_of iG t' hd]at z;exact z
 exact⟨hg,_,iG,ep+1,t',hg,hx,rfl,oG,hm,hb,hf,hn,hl,fun _=>hp⟩
theorem XA {k:Str}{Q:Bool->Shared->Prop} (hS:gy P w s.heap a xs) (room:xs.length+1 < scanBound) (h:∀h',Heap.SameBut a s.heap h'->gy P w h' a (jE xs k) -> ∀b,Q b { s with heap:=h' }) :
  wpAny (model P w) A (setAddHashed a (.str k tk) (hashStr w k)) Q E s:=by
 obtain⟨o,es,ep,t,ho,hex,hd,oG,jF,hb,hf,hn,yx,dk⟩:=hS;have oi:(strKind P w).is k (.str k tk)=true:=by show Value.isStrOf k (.str k tk)=true;simp[Value.isStrOf]
 have Ik:(Value.str k tk).scannable=true:=rfl;have akK:es.size+1 < scanBound:=by omega
 unfold setAddHashed setAddHashedIn;refine eM (ae (mw ho hd hf ?_));dsimp only;rw[byScan_of (knd:=strKind P w) Ik hb oG,aB rfl];refine ae ?_;unfold setAddByScan;refine ae (lF (ae (wpAny_setScan_of (knd:=strKind P w) (k:=k) oi ho hd hf oG ?_)));cases hr:List.findIdx? (fun e=>(strKind P w).is k e.2) es.toList with
 |some j =>
  obtain⟨hj,Cp,_⟩:=List.findIdx?_eq_some_iff_getElem.mp hr;have hk:k∈xs:=(jF k).mpr ⟨es.toList[j],iO hj,Cp⟩;refine ak (ak ?_);have e0:s={ s with heap:=s.heap }:=by cases s;rfl
  rw[e0];refine h s.heap (Heap.SameBut.refl a s.heap) ?_ _;unfold jE;rw[aB hk];exact⟨o,es,ep,t,ho,hex,hd,oG,jF,hb,hf,hn,yx,dk⟩
 |none =>
  dsimp only
  have hk:k ∉ xs:=fun z=>by
   obtain⟨e,he,hp⟩:=(jF k).mp z;have:=List.findIdx?_eq_none_iff.mp hr e he;rw[hp]at this;cases this
  have gw:∀ (b:Bool) {br:Shared}{Q':Unit->Shared->Prop},Q' () br->wpAny (model P w) A (match b with|true=>rule "set.scan.the-table-gave-way" | false=>pure ()) Q' E br:=fun b br Q' hq=>by
   cases b
   ·exact ak hq
   ·exact lF hq
  have ip:=layNew_perm t es ((strKind P w).hash k) (.str k tk);have Bx:=layNew_fits t es ((strKind P w).hash k) (.str k tk);have yt:=YC t es ((strKind P w).hash k) (.str k tk);generalize hL:layNew t es (hashStr w k) (.str k tk)=L;rw[show(strKind P w).hash k=hashStr w k from rfl,hL]at ip Bx yt;obtain⟨gE,t1,wd,akQ⟩:=L
  dsimp only at ip Bx yt ⊢
  rw[Array.toList_push]at ip;have Pf:ElemsOf (strKind P w) gE.toList:=(oG.push (k:=k) oi Ik).perm ip;have akR:gE.size=es.size+1:=by rw[<-jO,ip.length_eq,cZ,jO];rfl
  have Ox:∀k',k'∈jE xs k ↔ ∃e∈gE.toList,(strKind P w).is k' e.2=true:=fun k'=>by
   unfold jE;rw[au hk,dH,ff,jF k']
   constructor
   ·rintro(⟨e,he,hp⟩|rfl)
    ·exact⟨e,ip.mem_iff.mpr (ke _ he),hp⟩
    ·exact⟨_,ip.mem_iff.mpr (gH _ (ff.mpr rfl)),oi⟩
   ·rintro⟨e,he,hp⟩
    rcases dH.mp (ip.mem_iff.mp he) with he|he
    ·exact .inl ⟨e,he,hp⟩
    ·rw[ff]at he;subst he
     exact .inr ((strKind P w).inj _ k' k hp oi)
  have hln:gE.size=(jE xs k).length:=by unfold jE;rw[au hk,cZ,i6];omega
  have iz:gE.size < scanBound:=by omega
  refine ae (gw _ ?_);have tail:∀t2:SetTable,t2.fits gE.size=true->t2.led=t.led->t2.plain=false->wpAny (model P w) A (do
    storeSet a gE t2
    if (!wd && t2.tooFull)=true then do
      let r:=relayAll t2 gE (SetTable.grown gE.size)
      (match r.2.2 with|true=>rule "set.scan.the-table-gave-way" | false=>pure ())
      storeSet a r.1 r.2.1
      pure (some true)
     else pure (some true)) (fun r s'=>wpAny (model P w) A (match r with|some added=>pure added|none=>setAddHashedIn a (.str k tk) (hashStr w k) 99999) Q E s') E s:=by
   intro t2 ua j5 hU;obtain⟨t9,hS1⟩:=MQ (P:=P) (w:=w) ho hex hd Pf Ox iz ua hln (j5.trans yx) hU;have QD:=Ap s.heap a (Obj.putSet gE t2);refine ae (wpAny_storeSet_of ho hd ?_ (KS iz));split
   ·have q1:=relayAll_perm t2 gE (SetTable.grown gE.size)
    have q2:=relayAll_fits t2 gE (SetTable.grown gE.size);have q3:=VB t2 gE (SetTable.grown gE.size)
    dsimp only
    generalize relayAll t2 gE (SetTable.grown gE.size)=R at q1 q2 q3 ⊢;obtain⟨Ij,t3,g2⟩:=R
    dsimp only at q1 q2 q3 ⊢
    have ng:Ij.size=gE.size:=by rw[<-jO,q1.length_eq,jO]
    have hm2:∀k',k'∈jE xs k ↔ ∃e∈Ij.toList,(strKind P w).is k' e.2=true:=fun k'=>(Ox k').trans ⟨fun⟨e,he,q⟩=>⟨e,q1.mem_iff.mpr he,q⟩,fun⟨e,he,q⟩=>⟨e,q1.mem_iff.mp he,q⟩⟩;obtain⟨_,hS2⟩:=MQ (P:=P) (w:=w) t9 hex rfl (Pf.perm q1) hm2 (by omega) q2 (by omega) (q3.1.trans (j5.trans yx)) (q3.2 hU)
    refine ae (gw _ (ae (wpAny_storeSet_of t9 rfl ?_ (KS (by omega)))))
    exact ak (ak (h _ (QD.trans (Ap _ a _)) hS2 _))
   ·exact ak (ak (h _ QD hS1 _))
  by_cases rP:t1.plain=true
  ·rw[aB rP]
   refine ae ?_;rw[hashByValue_scannable 8 Ik];refine ak ?_;show wpAny (model P w) A (do
    storeSet a gE { t1 with plain:=false }
    _) _ E s
   exact tail { t1 with plain:=false } (SetTable.fits_plain_off Bx) yt rfl
  ·rw[au rP]
   refine ae (ak ?_);show wpAny (model P w) A (do
    storeSet a gE t1
    _) _ E s
   exact tail t1 Bx yt (by simpa using rP)
end
def k7 (val:Nat->Str) (i:Nat):List Str:=((List.range i).map val).foldl jE []
theorem AN (val:Nat->Str) (i:Nat):k7 val (i+1)=jE (k7 val i) (val i):=by
 unfold k7;rw[List.range_succ,a8,List.foldl_append];rfl
theorem XB (xs:List Str) (k:Str):(jE xs k).length<=xs.length+1:=by
 unfold jE;split
 ·omega
 ·rw[cZ,i6];omega
theorem YD (h:xs.Nodup) (k:Str):(jE xs k).Nodup:=by
 unfold jE;split
 ·exact h
 ·rename_i hn
  rw[mr];exact⟨h,by simp,fun a ha b hb e=>hn (by rw[<-(ff.mp hb),<-e];exact ha)⟩
theorem XC {k y:Str}:y∈jE xs k ↔ y∈xs\/y=k:=by
 unfold jE;split
 ·rename_i h
  exact⟨.inl,fun z=>z.elim id fun e=>e ▸ h⟩
 ·rw[dH,ff]
theorem MR (val:Nat->Str):∀i,(k7 val i).length<=i
 |0=>aR _
 |i+1=>by rw[AN];have:=XB (k7 val i) (val i);have:=MR val i;omega
theorem Nt (val:Nat->Str):∀i,(k7 val i).Nodup
 |0=>pz
 |i+1=>by rw[AN];exact YD (Nt val i) _
theorem MS (val:Nat->Str) (y:Str):∀i,y∈k7 val i ↔ ∃j,j < i/\val j=y
 |0=>⟨fun h=>(by cases h),fun⟨_,h,_⟩=>absurd h (Au _)⟩
 |i+1=>by
  rw[AN,XC,MS val y i]
  constructor
  ·rintro(⟨j,h,e⟩|e)
   ·exact⟨j,by omega,e⟩
   ·exact⟨i,by omega,e.symm⟩
  ·rintro⟨j,h,e⟩
   by_cases c:j=i
   ·exact .inr (by rw[<-e,c])
   ·exact .inl ⟨j,by omega,e⟩
section
variable{wr:List Addr}{G:Array GenState->Array GenState->Prop}{St:Nat->Shared->Prop}
theorem XD (W:WalksS P w A.in1 I fp wr G n Pv St) (S:Addr) (hS:S ∉ fp) (val:Nat->Str) (hv:∀i v,Pv i v -> ∃t,v = .str (val i) t) (hb:n+1 < scanBound) :
  ∀ (k i:Nat) (s:Shared),n - i=k->i<=n->St i s->gy P w s.heap S (k7 val i)->(∀s',Moved (S::wr) G s s'->gy P w s'.heap S (k7 val n)->R (.ok (.ret .none)) s') ->
   codeAny (model P w) A (.builtin "set.update.loop" ⟨[.ref S,.ref I],[]⟩) R s:=by
 have hw:S ∉ wr:=fun z=>hS (W.sub _ z);have up:∀b∈wr,b∈S::wr:=fun b z=>cp _ z;intro k
 induction k with
 |zero =>
  intro i s hk hi st x q;obtain rfl:i=n:=by omega
  refine jo F.entry_set_update_loop ?_;rw[mq Ux _];show wpAny _ A.in1 (pyNext (.ref I) >>= _) _ _ s;refine ae (W.done s _ _ st fun s' m=>?_);show wpAny _ A.in1 (ret Value.none) _ _ s';exact ak (q s' (m.mono up) (x.keep fun o e=>m.heap S o hw e))
 |succ k ih =>
  intro i s hk hi st x q;have lt:i < n:=by omega
  refine jo F.entry_set_update_loop ?_;rw[mq Ux _];show wpAny _ A.in1 (pyNext (.ref I) >>= _) _ _ s;refine ae (W.item i s _ _ lt st fun v s' hP gC m=>?_);obtain⟨t,rfl⟩:=hv i v hP;have x':gy P w s'.heap S (k7 val i):=x.keep fun o e=>m.heap S o hw e;show wpAny _ A.in1 (holding [Value.str (val i) t] (setAdd S (.str (val i) t)) >>= _) _ _ s';refine ae (eM ?_);unfold setAdd;have oi:(strKind P w).is (val i) (.str (val i) t)=true:=by show Value.isStrOf (val i) (.str (val i) t)=true;simp[Value.isStrOf]
  refine eM (ae ((strKind P w).pyHash (k:=val i) oi ?_));have room:(k7 val i).length+1 < scanBound:=by have:=MR val i;omega
  refine XA (s:={ s' with toks:=s'.toks+1 }) x' room fun h' sb x2 b=>?_;rw[<-AN]at x2;refine ak ⟨pj Ux _,ih (i+1) _ (by omega) lt (W.frame _ s' _ _ gC (lG _) fun c hc o e=>?_) x2 fun m8 m'' x''=>?_⟩
  ·rw[sb.2 c (fun z:c=S=>hS (by rw[<-z];exact hc))];exact e
  ·refine q m8 (Moved.trans W.gtrans ((m.mono up).then_heap (lG _) fun c o hc e=>?_) m'') x''
   rw[sb.2 c (fun z:c=S=>hc (by rw[z];exact bj))];exact e
end
section
variable{E:Value->Shared->Prop}
abbrev pZ (w:World):Obj:={ cls:= .type "set",dict:=none,data:= .set #[] 0 (.fresh 0 0 (!w.params.followText "set-order")) }
theorem VC (a:Value) {Q₁:Value->Shared->Prop} (h:Q₁ (.ref s.heap.objs.size) { s with heap:=s.heap.push (pZ w) }) :
  codeAny (model P w) A (.call (.builtin "set.__new__") ⟨[.type "set",a],[]⟩) (wants Q₁ E) s:=by
 refine T6 ?_;show wpAny _ A.in1 (do checkBuiltinCall "set.__new__" ⟨[.type "set",a],[]⟩;again (.builtin "set.__new__" ⟨[.type "set",a],[]⟩)) _ _ s;refine ae (KP (F.newCall_set_1 a) (ak ⟨pj F.plain_set_new _,jo F.entry_set_new ?_⟩));rw[mq F.plain_set_new _];unfold Builtin.«set.__new__» Builtin.Frozenset.newClass;have ss:=sub_set_self;obtain⟨hp,g,d,tk,os⟩:=s;dsimp only
 wp_walk
 refine qJ (ak ?_);dsimp only;simp only[newObj];refine ae (wpAny_alloc (ak ?_));exact ak h
structure Src (P:Program) (w:World) (T:String) (l:Addr) (ol:Obj) (n:Nat) (Pv:Nat->Value->Prop):Prop where
 cls:ol.cls = .type T
 ns:isSubtype (.type T) (.type "set")=pure false
 nf:isSubtype (.type T) (.type "frozenset")=pure false
 nd:(Value.type T==Value.type "dict")=false
 iter:∀ (A:Around) (s:Shared),A.handled=none->s.heap.get? l=some ol -> ∃ (oI:Obj) (St:Nat->Heap->Prop),
  (∀ (E:Value->Shared->Prop) (Q:Value->Shared->Prop),Q (.ref s.heap.objs.size) { s with heap:=s.heap.push oI }->wpAny (model P w) A (pyIter (.ref l)) Q E s) /\
  Walks P w A s.heap.objs.size [s.heap.objs.size,l] [s.heap.objs.size] n Pv St/\St 0 (s.heap.push oI)
theorem WI {val:Nat->Str}{Q:Value->Shared->Prop} (hh:A.handled=none) (C:Src P w T l ol n Pv) (hl:s.heap.get? l=some ol) (hv:∀i v,Pv i v -> ∃t,v = .str (val i) t) (hb:n+1 < scanBound)
  (h:∀ (h':Heap) (tk:Nat),gy P w h' s.heap.objs.size (k7 val n)->(∀b o,b < s.heap.objs.size->s.heap.get? b=some o->h'.get? b=some o)->Q (.ref s.heap.objs.size) { s with heap:=h',toks:=tk }) :
  wpAny (model P w) A (call (.type "set") [.ref l]) Q E s:=by
 obtain⟨c0,tl0,akS⟩:=uA.mro;have akL:=uA.made;have akT:=uA.sub;refine qF (T6 ?_);show wpAny _ _ (callAny (.type "set") _) _ _ _;refine ak ⟨Ku _ (by decide +kernel),jo F.entry_type_call ?_⟩;rw[Around.under_plain (weight_type_call_type "set" [.ref l] []) rfl]
 have f1:=uA.notType;have f2:=uA.canCreate;have f3:=F.typeCall_set_1 (.ref l)
 repeat (any_goals (first|assumption|wp_step))
 refine sf (VC (.ref l) (E:=E) (Q₁:=fun obj br=>obj = .ref s.heap.objs.size/\br={ s with heap:=s.heap.push (pZ w) }) ⟨rfl,rfl⟩) fun r br hr=>?_;cases r with
 |error e=>exact hr
 |ok fl =>
  cases fl with
  |ret obj =>
   obtain⟨rfl,rfl⟩:=hr;have gS:(s.heap.push (pZ w)).get? s.heap.objs.size=some (pZ w):=cu _ rfl;have tS:Shared.TypeIs { s with heap:=s.heap.push (pZ w) } (.ref s.heap.objs.size) "set" :=⟨_,gS,rfl⟩;have i1:=uA.init.lookup;have i2:=uA.init.bind (.ref s.heap.objs.size)
   repeat (any_goals (first|assumption|wp_step))
   refine sf (Kv (R:=wants (fun r mJ=>r = .none /\ ∃h' tk,mJ={ s with heap:=h',toks:=tk }/\gy P w h' s.heap.objs.size (k7 val n)/\(∀b o,b < s.heap.objs.size->s.heap.get? b=some o->h'.get? b=some o)) E) uA.init.plain F.entry_set_init (check_set_init_1 tS ?_)) fun acf mJ FU=>?_
   ·have iX:(s.heap.push (pZ w)).get? l=some ol:=aT _ hl
    obtain⟨acg,akM,akN,akI⟩:=ol;have ach:acg = .type T:=C.cls;subst ach;have ns:=C.ns;have nf:=C.nf;have nd:=C.nd;unfold Builtin.«set.__init__» noKeywords Builtin.Frozenset.updateFrom;generalize hPI:pyIter=PI
    wp_walk
    subst hPI;obtain⟨oI,St,it,W,st⟩:=C.iter A.in1.in1.in1 { s with heap:=s.heap.push (pZ w) } (by simp[hh]) iX
    refine wpAny_of_in1 (it _ _ ?_);refine ae (Ar ?_);have lS:l < s.heap.objs.size:=aV hl;have nS:s.heap.objs.size ∉ [(s.heap.push (pZ w)).objs.size,l]:=by
     rw[lH];simp only[aY,ff,jq,jr,not_or];exact⟨bp (Dv _),se lS⟩
    refine XD W.toS s.heap.objs.size nS val hv hb (n - 0) 0 _ (by omega) (bG _) st (Xz (aT _ gS)) ?_
    intro s' m x';obtain⟨h',g',d',qj,yM⟩:=s';have e1:g'=s.gens:=m.gens;have e2:d'=s.drawn:=m.drawn;have e3:yM=s.os:=m.os;subst e1;subst e2;subst e3;show wpAny _ _ _ _ _ _;refine ak ?_;show wpAny _ _ (ret Value.none) _ _ _;refine ak ⟨rfl,h',qj,rfl,x',fun b o hb e=>?_⟩;have b1:b≠s.heap.objs.size:=bp hb;have b2:b≠(s.heap.push (pZ w)).objs.size:=by rw[lH];exact bp (uB hb)
    exact m.heap b o (by simp only[aY,ff,jq,jr,not_or];exact⟨b1,b2⟩) (aT _ (aT _ e))
   ·cases acf with
    |error e=>exact FU
    |ok aaw =>
     cases aaw with
     |ret r =>
      obtain⟨rfl,h',tk,rfl,x',k'⟩:=FU
      repeat (any_goals (first|assumption|wp_step))
      exact h _ _ x' k'
     |_=>exact FU.elim
  |_=>exact hr.elim
theorem src_list (cl:ol.cls = .type "list") (dt:∃n,ol.data = .seq items n):Src P w "list" l ol items.size (fun i v=>items[i]? = some v) where
 cls:=cl
 ns:=F.sub_list_set
 nf:=F.sub_list_frozenset
 nd:=by decide
 iter:=fun A s hh hl=>by
  have il:s.heap.IsList l items:=⟨ol,hl,cl,dt⟩;have lt:=aV hl;exact⟨_,_,fun E Q q=>Di il q,Walks.list hh _ l (bp lt) items,⟨_,cu _ rfl,rfl,rfl⟩,il.push _⟩
theorem YE (cl:ol.cls = .type "tuple") (dt:∃n,ol.data = .seq items n):Src P w "tuple" l ol items.size (fun i v=>items[i]? = some v) where
 cls:=cl
 ns:=F.sub_tuple_set
 nf:=F.sub_tuple_frozenset
 nd:=by decide
 iter:=fun A s hh hl=>by
  have il:s.heap.IsTuple l items:=⟨ol,hl,cl,dt⟩;have lt:=aV hl;exact⟨_,_,fun E Q q=>wpAny_pyIter_tuple il q,Walks.tuple hh _ l (bp lt) items,⟨_,cu _ rfl,rfl,rfl⟩,il.push _⟩
end
theorem uH:Slot "set_iterator" "__next__" "set_iterator.__next__" :=
 Slot.of (owner:= "set_iterator") (n:= "__next__") (by rw[Us,Ut];kernel_rfl) (by decide +kernel) (by decide +kernel) (by decide +kernel) (by first|exact .inl (by decide +kernel)|exact .inr (by decide +kernel)) (by rw[Uy];kernel_rfl)
theorem Vb:entryFor table "set_iterator.__next__" = some Builtin.«set_iterator.__next__» :=entryFor_of_tree (by kernel_rfl)
theorem MT:Manifest.owners.lookup (String.ofList "rotareti_tes".toList.reverse)=some Manifest.sig_set_iterator:=by kernel_rfl
theorem Vj (a:Value):argsOk "set_iterator.__next__" ⟨[a],[]⟩:=by
 unfold argsOk;rw[signature?_of (id:= "set_iterator.__next__") (n:= ['_','_','t','x','e','n','_','_']) (o:= "rotareti_tes".toList) (by kernel_rfl) MT];kernel_rfl
theorem AE:Slot "set_iterator" "__iter__" "set_iterator.__iter__" :=
 Slot.of (owner:= "set_iterator") (n:= "__iter__") (by rw[Us,Ut];kernel_rfl) (by decide +kernel) (by decide +kernel) (by decide +kernel) (by first|exact .inl (by decide +kernel)|exact .inr (by decide +kernel)) (by rw[Uy];kernel_rfl)
theorem Ld:entryFor table "set_iterator.__iter__" = some Builtin.«dict_keyiterator.__iter__» :=entryFor_alias (id':= "dict_keyiterator.__iter__") (by kernel_rfl) rfl (by decide +kernel) (by kernel_rfl)
theorem Lh (a:Value):argsOk "set_iterator.__iter__" ⟨[a],[]⟩:=by
 unfold argsOk;rw[signature?_of (id:= "set_iterator.__iter__") (n:= ['_','_','r','e','t','i','_','_']) (o:= "rotareti_tes".toList) (by kernel_rfl) MT];kernel_rfl
theorem Vk:entryFor table "set.__iter__" = some Builtin.«frozenset.__iter__» :=entryFor_alias (id':= "frozenset.__iter__") (by kernel_rfl) rfl (by decide +kernel) (by kernel_rfl)
abbrev nD (first:Value) (i:Nat) (a:Addr) (n ep:Nat):Obj:={ cls:= .type "set_iterator",dict:=none,data:= .fields #[first,.int i 0,.ref a,.int n 0,.int ep 0],slots:= #[] }
section
variable{E:Value->Shared->Prop}{es:Array (Int×Value)}{t:SetTable}
theorem AW {first:Value}{Q:Option Value->Shared->Prop} (hit:s.heap.get? I=some (nD first i a n ep)) (ho:s.heap.get? a=some o) (hd:o.data = .set es ep t) (hf:t.fits es.size=true) (hn:es.size=n)
  (body:wpAny (model P w) A.in1 (do
   if let .int slot _:=first then
    match <- setNext a slot.toNat ((i:Int)).toNat ((ep:Int)).toNat with
    |some (x,next) =>
     setField (.ref I) 0 (rawInt next)
     setField (.ref I) 1 (rawInt ((i:Int)+1))
     ret x
    |none=>setField (.ref I) 2 .none;raiseNew (<- newExc (.type "StopIteration") [])
   else
    let some places <- seqItems? first|unsupported "internal:set_iterator"
    match places[((i:Int)).toNat]? with
    |some (.int place _) =>
     let x <- setNextDrawn a place.toNat ((ep:Int)).toNat
     setField (.ref I) 1 (rawInt ((i:Int)+1))
     ret x
    |some _=>unsupported "internal:set_iterator"
    |none=>setField (.ref I) 0 (rawInt 0);setField (.ref I) 2 .none;raiseNew (<- newExc (.type "StopIteration") []))
   (fun fin s'=>∃r,fin = .done (.ret r)/\Q (some r) s') (fun e s'=>wpAny (model P w) A (do if <- isInstance e (.type "StopIteration") then pure none else throw e) Q E s') s):wpAny (model P w) A (pyNext (.ref I)) Q E s:=by
 have hT:s.TypeIs (.ref I) "set_iterator" :=⟨_,hit,rfl⟩;unfold pyNext;refine ae (xj (qH (name:=Str.ofString "__next__") hT uH (jP uH hT Vb ?_ (Vj _))));unfold Builtin.«set_iterator.__next__»;refine ae (ak ?_)
 dsimp only
 refine ae (wpAny_fieldsOf hit rfl ?_)
 dsimp only
 refine ae ?_;unfold setEntries;refine ae (mw ho hd hf (ak ?_))
 dsimp only
 rw[au (by rw[hn];simp)]
 refine mn body (fun fin s' h=>?_) fun e s' h=>?_
 ·obtain⟨r,rfl,q⟩:=h
  exact⟨r,rfl,ak q⟩
 ·exact h
theorem MU {Q:Option Value->Shared->Prop} (hh:A.handled=none) (q:∀h',(∀b ob,s.heap.get? b=some ob->h'.get? b=some ob)->Q none { s with heap:=h' }) :
  wpAny (model P w) A.in1 (newExc (.type "StopIteration") [] >>= fun e=>(raiseNew e:Sem PySem.Fin)) (fun fin s'=>∃r,fin = .done (.ret r)/\Q (some r) s') (fun e s'=>wpAny (model P w) A (do if <- isInstance e (.type "StopIteration") then pure none else throw e) Q E s') s:=by
 refine ae ?_;simp only[newExc,newTuple];refine ae (jl ?_ (by size_fits))
 refine ae (m:=firstArgMember _ _) (KP (a:=Value.none) (by first|rfl|(simp only[firstArgMember];rfl)) (jl ?_ (by size_fits)))
 simp only[raiseNew];refine ae (KQ ?_);rw[show A.in1.handled=none from hh];refine ae (ak (uy ?_));refine ae (Dw (T:= "StopIteration") (b:=true) (show Shared.TypeIs _ _ _ from⟨_,cu _ rfl,rfl⟩) KU ?_);exact ak (q _ fun b ob e=>aT _ (aT _ e))
theorem Vc {slot nx:Nat}{x:Value}{Q:Option Value->Shared->Prop} (hit:s.heap.get? I=some (nD (.int slot 0) i a n ep)) (ho:s.heap.get? a=some o) (hd:o.data = .set es ep t) (hf:t.fits es.size=true) (hn:es.size=n)
  (Il:∀ (E':Value->Shared->Prop) (Q':Option (Value×Nat)->Shared->Prop),Q' (some (x,nx)) s->wpAny (model P w) A.in1 (setNext a slot i ep) Q' E' s)
  (q:∀h',h'.get? I=some (nD (.int nx 0) (i+1) a n ep)->Heap.SameBut I s.heap h'->Q (some x) { s with heap:=h' }):wpAny (model P w) A (pyNext (.ref I)) Q E s:=by
 refine AW hit ho hd hf hn ?_;simp only[oY];refine ae (Il _ _ ?_);refine ae (lI hit (by simp) fun h1 g1 s1=>?_)
 refine ae (lI g1 (by simp) fun h2 g2 s2=>?_)
 exact ak ⟨x,rfl,q h2 (by rw[g2];simp[rawInt]) (s1.trans s2)⟩
theorem Vl {slot:Nat}{Q:Option Value->Shared->Prop} (hh:A.handled=none) (hit:s.heap.get? I=some (nD (.int slot 0) i a n ep)) (ho:s.heap.get? a=some o) (hd:o.data = .set es ep t) (hf:t.fits es.size=true) (hn:es.size=n)
  (Il:∀ (E':Value->Shared->Prop) (Q':Option (Value×Nat)->Shared->Prop),Q' none s->wpAny (model P w) A.in1 (setNext a slot i ep) Q' E' s)
  (q:∀h',(∀b ob,b≠I->s.heap.get? b=some ob->h'.get? b=some ob)->Q none { s with heap:=h' }):wpAny (model P w) A (pyNext (.ref I)) Q E s:=by
 refine AW hit ho hd hf hn ?_;simp only[oY];refine ae (Il _ _ ?_);refine ae (lI hit (by simp) fun h1 g1 s1=>?_)
 exact MU hh fun h2 k2=>q h2 fun b ob nb e=>k2 b ob (by rw[s1.2 b nb];exact e)
theorem Vd {pt:Addr}{ps:List Nat}{pl:Nat}{z:Int}{x:Value}{Q:Option Value->Shared->Prop} (hit:s.heap.get? I=some (nD (.ref pt) i a n ep)) (ho:s.heap.get? a=some o) (hd:o.data = .set es ep t) (hf:t.fits es.size=true) (hn:es.size=n)
  (hp:∃op c,s.heap.get? pt=some op/\op.data = .seq (ps.map fun(j:Nat)=>rawInt j).toArray c) (hi:ps[i]? = some pl) (hx:es[pl]? = some (z,x))
  (q:∀h',h'.get? I=some (nD (.ref pt) (i+1) a n ep)->Heap.SameBut I s.heap h'->Q (some x) { s with heap:=h' }):wpAny (model P w) A (pyNext (.ref I)) Q E s:=by
 refine AW hit ho hd hf hn ?_;obtain⟨op,c,Im,wI⟩:=hp
 dsimp only
 simp only[oY];refine ae ?_;unfold seqItems?;refine ae (Ae Im ?_);rw[wI];refine ak ?_
 dsimp only
 have e1:(ps.map fun(j:Nat)=>rawInt j).toArray[i]? = some (rawInt pl):=by simp[hi]
 rw[e1];show wpAny _ _ (setNextDrawn a ((pl:Int)).toNat ep >>= _) _ _ s;rw[oY];unfold setNextDrawn;refine ae (ae (mw ho hd hf ?_))
 dsimp only
 rw[au (by simp),hx]
 refine ak ?_;refine ae (lI hit (by simp) fun h2 g2 s2=>?_)
 exact ak ⟨x,rfl,q h2 (by rw[g2];simp[rawInt]) s2⟩
theorem Vm {pt:Addr}{ps:List Nat}{Q:Option Value->Shared->Prop} (hh:A.handled=none) (hit:s.heap.get? I=some (nD (.ref pt) i a n ep)) (ho:s.heap.get? a=some o) (hd:o.data = .set es ep t) (hf:t.fits es.size=true) (hn:es.size=n)
  (hp:∃op c,s.heap.get? pt=some op/\op.data = .seq (ps.map fun(j:Nat)=>rawInt j).toArray c) (hi:ps.length<=i)
  (q:∀h',(∀b ob,b≠I->s.heap.get? b=some ob->h'.get? b=some ob)->Q none { s with heap:=h' }):wpAny (model P w) A (pyNext (.ref I)) Q E s:=by
 refine AW hit ho hd hf hn ?_;obtain⟨op,c,Im,wI⟩:=hp
 dsimp only
 simp only[oY];refine ae ?_;unfold seqItems?;refine ae (Ae Im ?_);rw[wI];refine ak ?_
 dsimp only
 have e1:(ps.map fun(j:Nat)=>rawInt j).toArray[i]? = none:=by simp;omega
 rw[e1];refine ae (lI hit (by simp) fun h1 g1 s1=>?_)
 refine ae (lI g1 (by simp) fun h2 g2 s2=>?_)
 exact MU hh fun h3 k3=>q h3 fun b ob nb e=>k3 b ob (by rw[s2.2 b nb,s1.2 b nb];exact e)
end
theorem Mj {α:Type} (next:Nat->Nat):∀ (fuel k:Nat) (left:List α) (out:Array α),left.length=fuel->(pickOrder.go next fuel k left out).toList.Perm (out.toList++left)
 |0,k,left,out,h=>by
  have:left = []:=xk h;subst this;unfold pickOrder.go;simp
 |fuel+1,k,left,out,h=>by
  have aS:next k % left.length < left.length:=Nat.mod_lt _ (by omega)
  unfold pickOrder.go;rw[cP aS]
  dsimp only
  refine(Mj next fuel (k+1) _ _ (by rw[akn,aB aS];omega)).trans ?_
  rw[Array.toList_push,ux];refine Uz _ ?_;generalize next k % left.length=j at aS;have key:∀ (l:List α) (j:Nat) (h:j < l.length),(l[j]::l.eraseIdx j).Perm l:=by
   intro l
   induction l with
   |nil=>intro j h;exact absurd h (Au _)
   |cons x l ih =>
    intro j h;cases j with
    |zero=>exact qK _
    |succ j=>exact(List.Perm.swap _ _ _).trans ((ih j (KW h)).cons x)
  exact key left j aS
section
variable{E:Value->Shared->Prop}
theorem Nu {α:Type}:∀ (m:Nat) (l:List α) {s:Shared}{Q:List α->Shared->Prop},l.length=m->(∀ps d,ps.Perm l->Q ps { s with drawn:=d })->wpAny (model P w) A (drawOrder m l) Q E s
 |0,l,s,Q,h,q=>by
  have:l = []:=xk h;subst this;unfold drawOrder;exact ak (q [] s.drawn (qK _))
 |m+1,[],s,Q,h,q=>by simp at h
 |m+1,x::l,s,Q,h,q=>by
  unfold drawOrder;refine ae ?_;have ch:∀ {Q':Nat->Shared->Prop}{s:Shared},(∀i d,i < (x::l).length->Q' i { s with drawn:=d })->wpAny (model P w) A (choose .order (x::l).length) Q' E s:=fun {Q' s} q'=>by
   intro Γ p hΓ;exact⟨by simp,q' _ _ (Nat.mod_lt _ (by simp))⟩
  refine ch fun i d hi=>?_;rw[cP hi]
  dsimp only
  refine ae (Nu m _ (by rw[akn,aB hi];omega) fun ps d' hp=>ak ?_)
  refine q _ _ ((hp.cons _).trans ?_);have key:∀ (l:List α) (j:Nat) (h:j < l.length),(l[j]::l.eraseIdx j).Perm l:=by
   intro l
   induction l with
   |nil=>intro j h;exact absurd h (Au _)
   |cons x l ih =>
    intro j h;cases j with
    |zero=>exact qK _
    |succ j=>exact(List.Perm.swap _ _ _).trans ((ih j (KW h)).cons x)
  exact key _ i hi
theorem V1 {es:List (Int×Value)} (h:ElemsOf (strKind P w) es):∃ks:List Str,StrsAre (es.map (·.2)) ks /\ ∀k,k∈ks ↔ ∃e∈es,(strKind P w).is k e.2=true:=by
 induction es with
 |nil=>exact⟨[],.nil,fun k=>(by simp)⟩
 |cons e es ih =>
  obtain⟨ks,h1,h2⟩:=ih h.tail;obtain⟨⟨k,hk,_⟩,_⟩:=h.head;obtain⟨t,et⟩:=Kk hk;refine⟨k::ks,?_,fun y=>?_⟩
  ·rw[cz,et];exact .cons k t h1
  ·rw[aY,h2 y]
   constructor
   ·rintro(rfl|⟨e',he,q⟩)
    ·exact⟨e,bj,hk⟩
    ·exact⟨e',cp _ he,q⟩
   ·rintro⟨e',he,q⟩
    rcases aY.mp he with rfl|he
    ·exact .inl ((strKind P w).inj _ _ _ q hk)
    ·exact .inr ⟨e',he,q⟩
theorem Mk {vs:List Value} (h:StrsAre us ks) (p:vs.Perm us):∃ys,StrsAre vs ys/\ys.Perm ks:=by
 induction p generalizing ks with
 |nil=>exact⟨ks,h,qK _⟩
 |cons x _ ih =>
  cases h with
  |cons y t r=>obtain⟨ys,h1,h2⟩:=ih r;exact⟨y::ys,.cons y t h1,h2.cons y⟩
 |swap x y l =>
  cases h with
  |cons k1 t1 r1 =>
   cases r1 with
   |cons k2 t2 r2=>exact⟨k2::k1::_,.cons k2 t2 (.cons k1 t1 r2),List.Perm.swap _ _ _⟩
 |trans _ _ Ih Ii =>
  obtain⟨ys,h1,h2⟩:=Ii h;obtain⟨zs,h3,h4⟩:=Ih h1;exact⟨zs,h3,h4.trans h2⟩
theorem AX {vs:List Value}{ys:List Str} (h:StrsAre vs ys):vs.length=ys.length:=by
 induction h with
 |nil=>rfl
 |cons _ _ _ ih=>rw[eN,eN,ih]
theorem Vn {a b:List Str} (nd:a.Nodup) (hl:b.length=a.length) (h:∀x∈a,x∈b):b.Perm a:=by
 induction a generalizing b with
 |nil=>have:b = []:=xk hl;subst this;exact qK _
 |cons x a ih =>
  rw[gb]at nd;have hx:=h x bj;have p1:=List.perm_cons_erase hx;have j5:(b.erase x).length=a.length:=by rw[Ua hx,hl];rfl
  have h2:∀y∈a,y∈b.erase x:=fun y hy=>(Uc (show y≠x from fun e=>nd.1 (by rw[<-e];exact hy))).mpr (h y (cp _ hy))
  exact p1.trans ((ih nd.2 j5 h2).cons x)
structure Gz (P:Program) (w:World) (a:Addr) (vs:List Value) (I:Addr) (fp:List Addr) (h:Heap):Prop where
 go:∃St:Nat->Heap->Prop,(∀A:Around,A.handled=none->Walks P w A I fp [I] vs.length (fun i v=>vs[i]? = some v) St)/\St 0 h
theorem MV {es:Array (Int×Value)}{t:SetTable} (slot:Nat->Nat) {vs:List Value} (bB:a≠I) (hd:o.data = .set es ep t) (hf:t.fits es.size=true) (hn:es.size=vs.length) (h0:slot 0=0) (ho:h.get? a=some o) (hi:h.get? I=some (nD (.int 0 0) 0 a vs.length ep))
  (item:∀ (A:Around) (s:Shared) (i:Nat) (v:Value) (E':Value->Shared->Prop) (Q':Option (Value×Nat)->Shared->Prop),s.heap.get? a=some o->vs[i]? = some v->Q' (some (v,slot (i+1))) s->wpAny (model P w) A (setNext a (slot i) i ep) Q' E' s)
  (done:∀ (A:Around) (s:Shared) (E':Value->Shared->Prop) (Q':Option (Value×Nat)->Shared->Prop),s.heap.get? a=some o->Q' none s->wpAny (model P w) A (setNext a (slot vs.length) vs.length ep) Q' E' s):Gz P w a vs I [I,a] h:=by
 refine⟨fun i h=>h.get? a=some o/\h.get? I=some (nD (.int (slot i) 0) i a vs.length ep),fun A hh=>⟨fun b hb=>(by simp at hb;simp[hb]),fun i h h' st k=>⟨k a (by simp) _ st.1,k I (by simp) _ st.2⟩,fun i s Q E hi st q=>?_,fun s Q E st q=>?_,fun i s Q E st q=>?_⟩,ho,by rw[h0];exact hi⟩
 ·have hv:vs[i]? = some vs[i]:=cP hi
  refine Vc st.2 st.1 hd hf hn (fun E' Q' q'=>item _ _ i _ E' Q' st.1 hv q') fun h' g sb=>?_;exact q _ h' s.toks hv ⟨by rw[sb.2 a bB];exact st.1,g⟩ fun b ob hb e=>by rw[sb.2 b (fun z=>hb (by simp[z]))];exact e
 ·exact Vl hh st.2 st.1 hd hf hn (fun E' Q' q'=>done _ _ E' Q' st.1 q') fun h' k=>q h' s.toks fun b ob hb e=>k b ob (fun z=>hb (by simp[z])) e
 ·have hT:s.TypeIs (.ref I) "set_iterator" :=⟨_,st.2,rfl⟩
  refine UA hT AE (jP AE hT Ld ?_ (Lh _));show wpAny _ _ (ret (.ref I)) _ _ s;exact ak ⟨_,rfl,"set_iterator",_,hT,uH.lookup,q⟩
theorem XF {es:Array (Int×Value)}{t:SetTable}{pt:Addr}{ps:List Nat}{vs:List Value} (bB:a≠I) (Io:pt≠I) (hd:o.data = .set es ep t) (hf:t.fits es.size=true) (hn:es.size=vs.length) (dk:ps.length=vs.length) (ho:h.get? a=some o) (hi:h.get? I=some (nD (.ref pt) 0 a vs.length ep))
  {op:Obj}{c:Nat} (hp:h.get? pt=some op) (wI:op.data = .seq (ps.map fun(j:Nat)=>rawInt j).toArray c) (item:∀ (i:Nat) (v:Value),vs[i]? = some v -> ∃pl z,ps[i]? = some pl/\es[pl]? = some (z,v)):Gz P w a vs I [I,a,pt] h:=by
 refine⟨fun i h=>h.get? a=some o/\h.get? pt=some op/\h.get? I=some (nD (.ref pt) i a vs.length ep),fun A hh=>⟨fun b hb=>(by simp at hb;simp[hb]),fun i h h' st k=>⟨k a (by simp) _ st.1,k pt (by simp) _ st.2.1,k I (by simp) _ st.2.2⟩,fun i s Q E hi st q=>?_,fun s Q E st q=>?_,fun i s Q E st q=>?_⟩,ho,hp,hi⟩
 ·have hv:vs[i]? = some vs[i]:=cP hi
  obtain⟨pl,z,h1,h2⟩:=item i _ hv;refine Vd st.2.2 st.1 hd hf hn ⟨op,c,st.2.1,wI⟩ h1 h2 fun h' g sb=>?_;exact q _ h' s.toks hv ⟨by rw[sb.2 a bB];exact st.1,by rw[sb.2 pt Io];exact st.2.1,g⟩ fun b ob hb e=>by rw[sb.2 b (fun z=>hb (by simp[z]))];exact e
 ·exact Vm hh st.2.2 st.1 hd hf hn ⟨op,c,st.2.1,wI⟩ (by omega) fun h' k=>q h' s.toks fun b ob hb e=>k b ob (fun z=>hb (by simp[z])) e
 ·have hT:s.TypeIs (.ref I) "set_iterator" :=⟨_,st.2.2,rfl⟩
  refine UA hT AE (jP AE hT Ld ?_ (Lh _));show wpAny _ _ (ret (.ref I)) _ _ s;exact ak ⟨_,rfl,"set_iterator",_,hT,uH.lookup,q⟩
end
theorem Ml (j k:Nat):SetTable.below #[j] k=if j < k then 1 else 0:=by
 unfold SetTable.below;show SetTable.below.go #[j] k 1 0 1=_;unfold SetTable.below.go
 by_cases h:j < k
 ·simp[h,SetTable.below.go]
 ·simp[h,SetTable.below.go]
theorem V2 (k:Nat):SetTable.below #[] k=0:=by unfold SetTable.below;rfl
section
variable{E:Value->Shared->Prop}
theorem XG {Q:Value->Shared->Prop} (hS:gy P w s.heap a xs) (nd:xs.Nodup)
  (q:∀ (h':Heap) (d':Drawn) (I:Addr) (fp:List Addr) (vs:List Value) (ys:List Str),Gz P w a vs I fp h'->StrsAre vs ys->ys.Perm xs->(∀b∈fp,b=a\/s.heap.objs.size<=b)->I∈fp->(∀b∈fp,b < h'.objs.size)->s.heap.objs.size<=I->(∀b ob,s.heap.get? b=some ob->h'.get? b=some ob)->Q (.ref I) { s with heap:=h',drawn:=d' }) :
  wpAny (model P w) A (pyIter (.ref a)) Q E s:=by
 have hT:=hS.typeIs;obtain⟨o,es,ep,t,ho,hex,hd,oG,jF,hb,hf,hn,yx,dk⟩:=hS;have zp:=aV ho;obtain⟨ks,k1,k2⟩:=V1 oG;have kl:ks.length=xs.length:=by have:=AX k1;rw[aA,jO]at this;omega
 have kp:ks.Perm xs:=Vn nd kl fun x hx=>(k2 x).mpr ((jF x).mp hx);refine UA hT F.slot_set_iter (jP F.slot_set_iter hT Vk ?_ (F.args_set_iter_1 _));unfold Builtin.«frozenset.__iter__» Builtin.Frozenset.slot0 Builtin.Frozenset.sizeOf setEntries setDrawn setsByText;refine ae (ae (ak (ak ?_)));refine ae (ae (ae (mw ho hd hf (ak (ak ?_)))))
 dsimp only
 refine ae (ae (mw ho hd hf ?_));dsimp only;refine ae (ae (qJ (ak (ak ?_))));show wpAny _ _ (if (!w.params.followText "set-order" && (!t.plain && decide (es.size > 1)))=true then _ else _) _ _ s
 by_cases big:(!w.params.followText "set-order" && (!t.plain && decide (es.size > 1)))=true
 ·
  rw[aB big];refine ae (Nu es.size (List.range es.size) (by simp) fun ps d md=>?_)
  have pl:ps.length=es.size:=by rw[md.length_eq];simp
  refine ae (jl ?_ (by show(ps.map _).toArray.size<=sizeLine;rw[cS,aA,pl];exact KS hb))
  refine ae ?_;unfold setEpoch;refine ae (mw (aT _ ho) hd hf (ak ?_))
  dsimp only
  refine ae (jl (ak ⟨_,rfl,"set_iterator",_,⟨_,cu _ rfl,rfl⟩,uH.lookup,?_⟩));have Cq:∀p∈ps,p < es.size:=fun p hp=>oW.mp (md.mem_iff.mp hp)
  let vs:List Value:=ps.map fun p=>(es.toList.map (·.2)).getD p .none
  have pv:vs.Perm (es.toList.map (·.2)):=by
   have e1:(List.range es.size).map (fun p=>(es.toList.map (·.2)).getD p .none)=es.toList.map (·.2):=by
    apply Uv
    ·simp
    ·intro n h1 h2
     have:n < es.size:=by simpa using h1
     simp[this]
   rw[<-e1];exact md.map _
  obtain⟨ys,y1,y2⟩:=Mk k1 pv;have vl:vs.length=es.size:=by show(ps.map _).length=_;rw[aA,pl]
  have j6:(s.heap.push { cls:= .type "tuple",data:= .seq (ps.map fun(i:Nat)=>rawInt i).toArray }).objs.size=s.heap.objs.size+1:=lH ..;refine q _ d _ [_,a,s.heap.objs.size] vs ys (XF (o:=o) (op:={ cls:= .type "tuple",data:= .seq (ps.map fun(i:Nat)=>rawInt i).toArray }) (ps:=ps) (by rw[j6];exact bp (uB zp)) (by rw[j6];exact bp (Dv _)) hd hf vl.symm (by rw[vl,pl]) (aT _ (aT _ ho)) ?_ (aT _ (cu _ rfl)) rfl ?_) y1 (y2.trans kp) ?_ bj ?_ (by rw[j6];omega) fun b ob e=>aT _ (aT _ e)
  ·rw[cu _ rfl,vl];rfl
  ·intro i v hv
   have QE:(ps.map fun p=>(es.toList.map (·.2)).getD p .none)[i]? = some v:=hv;rw[eX]at QE;obtain⟨p,hp,ev⟩:=ib.mp QE;have aS:=Cq p (ia hp);refine⟨p,es[p].1,hp,?_⟩;rw[xl aS]
   congr 1
   rw[<-ev];simp[aS]
  ·intro b j7
   simp only[aY,jq,jr]at j7;rcases j7 with rfl|rfl|rfl
   ·exact .inr (by rw[j6];omega)
   ·exact .inl rfl
   ·exact .inr (aR _)
  ·intro b j7
   simp only[aY,jq,jr]at j7;rw[lH,j6];rcases j7 with z|z|z
   ·rw[z,j6];exact Dv _
   ·rw[z];exact uB (uB zp)
   ·rw[z];exact uB (Dv _)
 ·rw[au big]
  refine ae (ak ?_);refine ae ?_;unfold setEpoch;refine ae (mw ho hd hf (ak ?_))
  dsimp only
  refine ae (jl (ak ⟨_,rfl,"set_iterator",_,⟨_,cu _ rfl,rfl⟩,uH.lookup,?_⟩));have QF:∀b ∈ [s.heap.objs.size,a],b=a\/s.heap.objs.size<=b:=fun b j7=>by
   simp only[aY,jq,jr]at j7;rcases j7 with rfl|rfl
   ·exact .inr (aR _)
   ·exact .inl rfl
  have QG:∀ (oo:Obj),∀b ∈ [s.heap.objs.size,a],b < (s.heap.push oo).objs.size:=fun oo b j7=>by
   simp only[aY,jq,jr]at j7;rw[lH];rcases j7 with z|z
   ·rw[z];exact Dv _
   ·rw[z];exact uB zp
  cases bt:w.params.followText "set-order" with
  |true =>
   have sv:∀next:Nat->Nat,((pickOrder next es).toList.map (·.2)).Perm (es.toList.map (·.2)):=fun next=>by
    unfold pickOrder;have:=Mj next es.size 0 es.toList #[] (by simp)
    exact(by simpa using this:(pickOrder.go next es.size 0 es.toList #[]).toList.Perm es.toList).map _
   obtain⟨ys,y1,y2⟩:=Mk k1 (sv (w.params.setOrder a ep));have vl:=(sv (w.params.setOrder a ep)).length_eq;rw[aA,jO,aA,jO]at vl;refine q _ s.drawn _ [_,a] ((pickOrder (w.params.setOrder a ep) es).toList.map (·.2)) ys (MV (o:=o) (fun _=>0) (bp zp) hd hf (by rw[aA,jO,vl]) rfl (aT _ ho) ?_ ?_ ?_) y1 (y2.trans kp) QF bj (QG _) (aR _) fun b ob e=>aT _ e
   ·rw[cu _ rfl,aA,jO,vl];rfl
   ·intro A s i v E' Q' ha hv hq
    unfold setNext setsByText;refine ae (mw ha hd hf ?_);dsimp only;refine ae (ae (qJ (ak ?_)));show wpAny _ _ (if w.params.followText "set-order" = true then _ else _) _ _ _;rw[aB bt,au (by simp)]
    unfold setWalk setsByText;refine ae (ae (mw ha hd hf ?_));dsimp only;refine ae (ae (qJ (ak ?_)));show wpAny _ _ (if w.params.followText "set-order" = true then _ else _) _ _ _;rw[aB bt];refine ae (qJ (ak (ak ?_)));show Q' (((pickOrder (w.params.setOrder a ep) es)[i]?).map fun e=>(e.2,0)) s;rw[eX,Dl]at hv;obtain⟨e,he,ev⟩:=ib.mp hv;rw[he];show Q' (some (e.2,0)) s;rw[ev];exact hq
   ·intro A s E' Q' ha hq
    unfold setNext setsByText;refine ae (mw ha hd hf ?_);dsimp only;refine ae (ae (qJ (ak ?_)));show wpAny _ _ (if w.params.followText "set-order" = true then _ else _) _ _ _;rw[aB bt,au (by simp)]
    unfold setWalk setsByText;refine ae (ae (mw ha hd hf ?_));dsimp only;refine ae (ae (qJ (ak ?_)));show wpAny _ _ (if w.params.followText "set-order" = true then _ else _) _ _ _;rw[aB bt];refine ae (qJ (ak (ak ?_)));show Q' (((pickOrder (w.params.setOrder a ep) es)[((pickOrder (w.params.setOrder a ep) es).toList.map (·.2)).length]?).map fun e=>(e.2,0)) s;rw[KY (by simp)]
    exact hq
  |false =>
   have bV:es.size<=1:=by
    rw[bt]at big
    by_cases z:es.size<=1
    ·exact z
    ·have hp:=dk (by omega)
     rw[hp]at big;exact absurd (by simp;omega) big
   have led:t.led=true:=by rw[yx,bt];rfl
   have yR:t.place.size=es.size:=by
    have:=hf;simp only[SetTable.fits,o6,eW,decide_eq_true_eq]at this;exact this.1
   refine q _ s.drawn _ [_,a] (es.toList.map (·.2)) ks (MV (o:=o) (fun i=>if i=0 then 0 else t.place.getD 0 0+1) (bp zp) hd hf (by rw[aA,jO]) rfl (aT _ ho) ?_ ?_ ?_) k1 kp QF bj (QG _) (aR _) fun b ob e=>aT _ e
   ·rw[cu _ rfl,aA,jO];rfl
   ·intro A s i v E' Q' ha hv hq
    rw[eX,Dl]at hv;obtain⟨e,he,ev⟩:=ib.mp hv;have hi:i < es.size:=(Am.mp he).1;have i0:i=0:=by omega
    subst i0;obtain⟨pl,Cr⟩:∃j,t.place = #[j]:=by
     have:t.place.size=1:=by omega
     exact⟨t.place[0],by
      apply Array.ext
      ·simp[this]
      ·intro k h1 h2;have:k=0:=by omega
       subst this;simp⟩
    unfold setNext setsByText;refine ae (mw ha hd hf ?_);dsimp only;refine ae (ae (qJ (ak ?_)));show wpAny _ _ (if w.params.followText "set-order" = true then _ else _) _ _ _;rw[au (by rw[bt];exact de)]
    show wpAny _ _ (if (!t.plain && decide (es.size > 1))=true then _ else _) _ _ _;rw[au (by simp;omega)]
    show wpAny _ _ ((if (!t.led && !es.isEmpty)=true then unsupported "set:maker-not-led" else pure ()) >>= _) _ _ _;rw[led,au (by simp)]
    refine ae (ak ?_);rw[Cr,aB rfl,Ml,au (by omega),he]
    refine ak ?_;show Q' (some (e.2,pl+1)) s;rw[ev];have:(if 0+1=0 then 0 else t.place.getD 0 0+1)=pl+1:=by rw[Cr];rfl
    rw[this]at hq;exact hq
   ·intro A s E' Q' ha hq
    unfold setNext setsByText;refine ae (mw ha hd hf ?_);dsimp only;refine ae (ae (qJ (ak ?_)));show wpAny _ _ (if w.params.followText "set-order" = true then _ else _) _ _ _;rw[au (by rw[bt];exact de)]
    show wpAny _ _ (if (!t.plain && decide (es.size > 1))=true then _ else _) _ _ _;rw[au (by simp;omega)]
    show wpAny _ _ ((if (!t.led && !es.isEmpty)=true then unsupported "set:maker-not-led" else pure ()) >>= _) _ _ _;rw[led,au (by simp)]
    refine ae (ak ?_);have out:es[SetTable.below t.place (if (es.toList.map (·.2)).length=0 then 0 else t.place.getD 0 0+1)]? = none:=by
     rw[aA,jO]
     by_cases z:es.size=0
     ·have:t.place = #[]:=Array.eq_empty_of_size_eq_zero (by omega)
      rw[this,V2];exact KY (by omega)
     ·have e1:es.size=1:=by omega
      obtain⟨pl,Cr⟩:∃j,t.place = #[j]:=by
       have:t.place.size=1:=by omega
       exact⟨t.place[0],by
        apply Array.ext
        ·simp[this]
        ·intro k h1 h2;have:k=0:=by omega
         subst this;simp⟩
      rw[au z,Cr,Ml];have : #[pl].getD 0 0=pl:=rfl;rw[this,aB (by omega)]
      exact KY (by omega)
    rw[out];exact ak hq
end
end HS
namespace HS
open PySem PySem.Spec PyProof.Rows PySem.W
section
variable{E:Value->Shared->Prop}
theorem XH {Q:Bool->Shared->Prop} (hT:s.TypeIs (.ref a) "set") (h:Q false s):wpAny (model P w) A (Builtin.List.listLengthHint (.ref a)) Q E s:=by
 unfold Builtin.List.listLengthHint;refine ae (Ui hT PySem.F.slot_set_len.lookup ?_);generalize QH:("set.__len__" : String)=id0
 wp_delta
 rw[show splitId id0=some ("set","__len__") from by subst QH;decide +kernel];subst QH
 refine ae (Dw (T:= "set") (b:=true) hT (by rw[Uy];kernel_rfl) ?_)
 refine UB (fun z=>absurd z (by decide)) fun _=>UB (fun _=>?_) fun z=>absurd (by decide +kernel) z
 exact ae (oZ hT (ak h))
theorem V3 (hh:A.handled=none) (hS:gy P w s.heap a xs) (nd:xs.Nodup) (S:Addr) (QI:S≠a) (res:Value) (c₀:Nat) (hL:s.heap.get? S=some { cls:= .type "list",data:= .seq #[] c₀ })
  (hR:∀h' d' tk (vs:List Value) (ys:List Str) c',(∀b o,b≠S->s.heap.get? b=some o->h'.get? b=some o)->h'.get? S=some { cls:= .type "list",dict:=none,data:= .seq vs.toArray c',slots:= #[] }->StrsAre vs ys->ys.Perm xs->R (.ok (.ret res)) { s with heap:=h',drawn:=d',toks:=tk }) :
  wpAny (model P w) A.in1 (Builtin.List.listExtendWith (.ref S) (.ref a) res)
   (fun fin s'=>match fin with|.done f=>R (.ok f) s'|.again c'=>c'.quiet=true/\codeAny (model P w) A c' R s') (fun e s'=>R (.error e) s') s:=by
 have hT:=hS.typeIs;have hsz:xs.length < scanBound:=by obtain⟨o,es,ep,t,ho,hex,hd,oG,jF,hb,hf,hn,_⟩:=hS;omega
 unfold Builtin.List.listExtendWith;refine ae (oZ (T:= "set") hT ?_);have h1:Builtin.List.listSameRef (.ref S) (.ref a)=false:=by simp[Builtin.List.listSameRef,QI]
 have h2:(Value.type "set" == Value.type "list")=false:=by decide
 have h3:(Value.type "set" == Value.type "tuple")=false:=by decide
 simp only[h1,h2,h3,Km,Ai,si];refine ae (XG hS nd fun h' d' I fp vs ys W v1 v2 f1 f2 f3 f4 k=>?_);obtain⟨St,Wk,st⟩:=W.go;have W1:=Wk A.in1 (by simpa using hh)
 have vl:vs.length=xs.length:=by rw[AX v1,v2.length_eq]
 have QJ:S ∉ fp:=fun z=>by
  rcases f1 S z with e|e
  ·exact QI e
  ·exact absurd (aV hL) (Dq.mpr e)
 have Tn:Shared.TypeIs { s with heap:=h',drawn:=d' } (.ref a) "set" :=by
  obtain⟨o,e,c⟩:=hT;exact⟨o,k _ _ e,c⟩
 refine ae (eM (XH Tn ?_));have Ip:=k _ _ hL;have key:∀ (h:Heap) (c₁:Nat),St 0 h->(∀b o,b≠S->s.heap.get? b=some o->h.get? b=some o)->h.get? S=some { cls:= .type "list",data:= .seq #[] c₁ } ->
   codeAny (model P w) A (.builtin "list.extend.loop" ⟨[.ref S,.ref I,res],[]⟩) R { s with heap:=h,drawn:=d' }:=by
  intro h c₁ tP hk aax;refine codeAny_extend_loopS W1.toS (by rw[vl];exact KS hsz) S QJ res vs.length 0 _ #[] c₁ rfl (bG _) tP aax (ItemsOf.nil _) fun s' Pg c' hm hS' GB=>?_
  rw[Moved.eq_with hm];have ev:Pg.toList=vs:=by
   apply List.ext_getElem?
   intro j;rw[Dl]
   by_cases hj:j < vs.length
   ·have wJ:j < Pg.size:=by rw[GB.1];exact hj
    rw[xl wJ];exact(GB.2 j _ (xl wJ)).symm
   ·rw[KY (by rw[GB.1];omega),Aq (by omega)]
  refine hR s'.heap d' s'.toks vs ys c' (fun b o hb e=>hm.heap b o (fun jF=>?_) (hk b o hb e)) (by rw[hS',<-ev]) v1 v2
  rcases aY.mp jF with e'|jF
  ·exact hb e'
  ·exact absurd (aV e) (by rw[ff.mp jF];exact Dq.mpr f4)
 refine UB (fun _=>?_) (fun _=>ak ⟨pj ako _,key _ c₀ st (fun b o _ e=>k b o e) Ip⟩);refine ae (lF (ae ?_));show wpAny _ _ (updateSeq S (·.push .none) >>= fun _=>updateSeq S (·.pop)) _ _ _;refine ae (wpAny_updateSeq Ip rfl ?_);have Oy:=nO (Obj.mapSeq (·.push Value.none)) Ip rfl;refine wpAny_updateSeq (hz:=by seq_fits) Oy rfl ?_
 have aay:=nO (Obj.mapSeq (·.pop)) Oy rfl;have yZ:∀b o,b≠S->h'.get? b=some o->((h'.update S (Obj.mapSeq (·.push Value.none))).update S (Obj.mapSeq (·.pop))).get? b=some o:=fun b o hb e=>(jm _ _ (aO hb)).trans ((jm _ _ (aO hb)).trans e);exact ak ⟨pj ako _,key _ _ (W1.frame 0 _ _ st fun b hb o e=>yZ b o (fun z=>QJ (z ▸ hb)) e) (fun b o hb e=>yZ b o hb (k b o e)) aay⟩
theorem VD {Q:List Value->Shared->Prop} (hh:A.handled=none) (hS:gy P w s.heap a xs) (nd:xs.Nodup)
  (hQ:∀h' d' tk (vs:List Value) (ys:List Str),(∀b o,s.heap.get? b=some o->h'.get? b=some o)->StrsAre vs ys->ys.Perm xs->Q vs { s with heap:=h',drawn:=d',toks:=tk }):wpAny (model P w) A (collect (.ref a)) Q E s:=by
 unfold collect;refine ae (Ar (jo UC ?_));rw[mq UD _];show wpAny _ A.in1 (newList [] >>= fun l=>again (.builtin "list.__iadd__" ⟨[l,.ref a],[]⟩)) _ _ s;refine ae (jl (ak ⟨pj Av _,jo UE ?_⟩));rw[mq Av _];show wpAny _ A.in1 (Builtin.List.listExtendWith (.ref s.heap.objs.size) (.ref a) (.ref s.heap.objs.size)) _ _ _;have hn:s.heap.objs.size≠a:=se hS.lt;refine V3 (R:=fun r s'=>match r with|.ok (.ret v)=>wpAny (model P w) A (match v with|.ref a=>(do match (<- load a).data with|.seq xs _=>pure xs.toList|_=>unsupported "internal:collect")|_=>unsupported "internal:collect") Q E s'|.ok _=>False|.error e=>E e s') (s:={ s with heap:=s.heap.push { cls:= .type "list",data:= .seq ([]:List Value).toArray } }) hh (hS.keep fun o e=>aT _ e) nd _ hn _ 0 (cu _ rfl) fun h' d' tk vs ys c' k hl v1 v2=>?_;show wpAny _ A (load s.heap.objs.size >>= _) _ _ _;refine ae (Ae hl (ak ?_));exact hQ h' d' tk vs ys (fun b o e=>k b o (bp (aV e)) (aT _ e)) v1 v2
theorem V4 {Q:Value->Shared->Prop} (hh:A.handled=none) (hS:gy P w s.heap a xs) (nd:xs.Nodup) (mf:xs.length<=63)
  (hQ:∀D c h' d' tk (vs:List Value) (ys:List Str),(∀b o,s.heap.get? b=some o->h'.get? b=some o)->(∀b o,s.heap.get? b=some o->b≠D)->h'.get? D=some (listOf vs.toArray c)->StrsAre vs ys->ys.Perm xs->sortedS ys=true->Q (.ref D) { s with heap:=h',drawn:=d',toks:=tk }) :
  wpAny (model P w) A (call (.builtin "sorted") [.ref a]) Q E s:=by
 refine UG kind_sorted plain_sorted entry_sorted (args_sorted1 _) ?_;unfold Builtin.«sorted»;refine ae (m:=checkCount "sorted" 1 1 _) (ak (ae (VD (by simpa using hh) hS nd fun h1 d1 t1 vs ys k1 v1 p1=>?_)))
 have vl:vs.length=xs.length:=by rw[AX v1,p1.length_eq]
 refine ae (As ?_ (by rw[aN];omega))
 have eI:(h1.push (seqObj "list" vs.toArray 0)).get? h1.objs.size=some (seqObj "list" vs.toArray 0):=cu _ rfl;refine ae (eM (jP slot_list_sort ⟨_,eI,rfl⟩ entry_list_sort (list_sort_treeK strKind_oneLt eI v1.keysOf (fun aci acj rest e=>keyKind_strs (by rw[<-e];exact v1)) (by omega) fun gC a1 a2=>⟨_,rfl,?_⟩) (args_list_sort _)))
 obtain⟨fj,b1,b2,b3⟩:=sorted_out_str v1 a1 a2;obtain⟨c,hc⟩:=sortedHeap_at (n:=0) (vs:=vs) (out:=(arrOf gC).map (·.2)) eI;refine ak ⟨_,rfl,hQ _ c _ d1 t1 _ fj (fun b o e=>?_) (fun b o e=>bp (aV (k1 b o e))) (by rw[hc]) b1 (b2.trans p1) b3⟩
 have e1:=k1 b o e;have nE:=aV e1;rw[sortedHeap_old (bp nE) (by rw[size_push'];exact uB nE),Heap.get?_push_ne _ _ _ (bp nE)]
 exact e1
end
end HS
namespace L2
open PySem PySem.Spec PyProof.Rows PySem.W HS
def p9 (P:Program) (w:World) (a:Addr) (xs:List Str):HO:= .ext fun h=>xs.Nodup/\gy P w h a xs
theorem YF (nd:xs.Nodup) (x:gy P w h a xs):bu P w H h a (p9 P w a xs):=
 ⟨⟨nd,x⟩,(let ⟨o,_,_,_,e,_⟩:=x;⟨o,e⟩),fun _ _ q k=>⟨q.1,q.2.keep k⟩⟩
theorem Inv.draw {σ:List (Option V)} (I:Inv X pins σ H s) (d:Drawn):Inv X pins σ H { s with drawn:=d }:=⟨I.ok,I.os,I.bare,I.base,I.loc,I.cell,I.free,I.iD,I.pin,I.ar,I.len⟩
theorem Nv:∀ {vs:List Value}{ys:List Str},StrsAre vs ys -> ∀ (i:Nat) (v:Value),vs[i]? = some v -> ∃t,v = .str (ys.getD i "") t
 |_,_,.nil,i,v,h=>by simp at h
 |_,_,.cons y t r,0,v,h=>by simp at h;exact⟨t,by rw[<-h];rfl⟩
 |_,_,.cons y t r,i+1,v,h=>by
  obtain⟨t',e⟩:=Nv r i v (by simpa using h)
  exact⟨t',by rw[e];rfl⟩
theorem EF (hc:X.calm=true):d5 X (.type "set") (fun vs H Q=>∃ (p:Addr) (ss:List Str),vs = [.ref p]/\(aj X.K H p (ss.map V.str)\/aC X.K H p (ss.map V.str))/\ss.length<=1000 /\ ∀a ds,H a=none->ds.Nodup->(∀y,y∈ds ↔ y∈ss)->Q (.ref a) (upd H a (p9 X.prog X.w a ds))):=by
 intro pins s σ H vs us Q I r h;obtain⟨p,ss,rfl,hq,h1k,q⟩:=h;obtain⟨u,rfl,rx⟩:=vals1 r;cases rx
 have fin:∀ (its:List Value) {T:String}{ol:Obj},Vals (ss.map V.str) its->Src X.prog X.w T p ol its.toArray.size (fun i v=>its.toArray[i]? = some v)->s.heap.get? p=some ol->wpAny (model X.prog X.w) X.A (call (.type "set") [.ref p]) (EP X pins σ Q) X.xe s:=fun its {T ol} rv C hp=>by
  have st:=DU rv;have hlen:its.length=ss.length:=AX st;refine WI (val:=fun i=>ss.getD i "") (I.ok.hd hc) C hp (fun i v hv=>Nv st i v (by simpa using hv)) (by rw[cS,hlen];unfold scanBound;omega) fun h' tk x k=>?_
  have kp:∀b o,s.heap.get? b=some o->h'.get? b=some o:=fun b o e=>k b o (aV e) e;have nd:=Nt (fun i=>ss.getD i "") its.toArray.size;refine⟨.ref s.heap.objs.size,_,I.laid (t':=tk) kp (aR _) (YF nd x),rfl,q _ _ (I.ar.fresh (aR _)) nd fun y=>?_⟩;rw[MS,cS,hlen]
  constructor
  ·rintro⟨j,hj,rfl⟩
   rw[show ss.getD j "" = ss[j] by simp[hj]]
   exact iO hj
  ·intro hy
   obtain⟨j,hj,e⟩:=List.mem_iff_getElem.mp hy;exact⟨j,hj,by simp[hj,e]⟩
 rcases hq with hq|hq
 ·obtain⟨its,r',pl,hz⟩:=I.list hq
  obtain⟨o,ho,gT,n,hd⟩:=pl.isList;exact fin its r' (src_list gT ⟨n,hd⟩) ho
 ·obtain⟨its,r',pl,hz⟩:=I.tuple hq
  obtain⟨o,ho,gT,n,hd⟩:=pl;exact fin its r' (YE gT ⟨n,hd⟩) ho
theorem Lr:d5 X (.builtin "len") (fun vs H Q=>∃ (a:Addr) (ds:List Str),vs = [.ref a]/\H a=some (p9 X.prog X.w a ds)/\Q (.int ds.length) H):=by
 intro pins s σ H vs us Q I r h;obtain⟨a,ds,rfl,hq,q⟩:=h;obtain⟨u,rfl,rx⟩:=vals1 r;cases rx
 obtain⟨⟨nd,o,es,ep,t,ho,hex,hd,oG,jF,hb,hf,hn,_⟩,_⟩:=(show bu X.prog X.w H s.heap a (p9 X.prog X.w a ds) from I.ar a _ hq);refine call_len_set ho hex hd hf (by unfold scanBound at hb;omega) ?_
 rw[<-hn]at q;exact⟨.int es.size,H,I.tok _,⟨_,rfl⟩,q⟩
theorem U9 (hc:X.calm=true):d5 X (.builtin "sorted") (fun vs H Q=>∃ (a:Addr) (ds:List Str),vs = [.ref a]/\H a=some (p9 X.prog X.w a ds)/\ds.length<=63 /\ ∀D fj,H D=none->fj.Perm ds->sortedS fj=true->Q (.ref D) (upd H D (.lst (fj.map V.str)))):=by
 intro pins s σ H vs us Q I r h;obtain⟨a,ds,rfl,hq,mf,q⟩:=h;obtain⟨u,rfl,rx⟩:=vals1 r;cases rx
 obtain⟨⟨nd,x⟩,_⟩:=(show bu X.prog X.w H s.heap a (p9 X.prog X.w a ds) from I.ar a _ hq);obtain⟨m,hm,_⟩:=id I.loc;refine V4 (I.ok.hd hc) x nd mf fun D c h' d' tk out ys k hD new st p zq=>?_;obtain⟨hn,I'⟩:=Inv.sorted (t':=tk) (ys:=ys.map V.str) I hm (hm.at' fun o e=>k _ _ e) (fun b o _ e=>k b o e) hD new (Ei st) (by rw[aA,p.length_eq,aN];omega)
 exact⟨.ref D,_,I'.draw d',rfl,q _ ys hn p zq⟩
end L2
namespace L2
open PySem PySem.W PySem.Calls PyProof.Rows
section
variable{α β:Type}{lt:Nat->Nat->Bool}
def nF (lt:Nat->Nat->Bool) (p:Array Nat) (k:Nat):Prop:= ∀i j,i < j->j < k->lt (p.getD i 0) (p.getD j 0)=true
def rQ (lt:Nat->Nat->Bool) (p:Array Nat) (k:Nat):Prop:= ∀i j,i < j->j < k->lt (p.getD j 0) (p.getD i 0)=true
theorem Pm.size {p:Array Nat} (h:Pm n p):p.size=n:=by have:=h.length_eq;simpa using this
theorem Pm.ne {p:Array Nat} (h:Pm n p) (hi:i < n) (hj:j < n) (e:i≠j):p.getD i 0≠p.getD j 0:=by
 have hs:=h.size;have nd:p.toList.Nodup:=h.nodup_iff.mpr List.nodup_range;intro z;rw[pq,pq,xl (by omega),xl (by omega)]at z
 have z2:p.toList[i]'(by simp;omega)=p.toList[j]'(by simp;omega):=by simpa using z
 exact e ((List.getElem_inj nd).mp z2)
theorem MW {p:Array Nat} (hm:m<=p.size) (k:Nat) (hk:k < m):(kas_rev p 0 m).getD k 0=p.getD (m - 1 - k) 0:=by
 unfold kas_rev;rw[pq,getElem?_mirror_all hm,aB ⟨bG _,hk⟩,pq,Nat.zero_add]
theorem rQ.rev {p:Array Nat} (hm:m<=p.size) (a:rQ lt p m):nF lt (kas_rev p 0 m) m:=fun i j iH hj=>by
 rw[MW hm i (by omega),MW hm j hj]
 exact a _ _ (by omega) (by omega)
theorem MX {p:Array Nat}{k l:Nat} (hk:k < p.size) (hl:l<=k) (i:Nat):(bubble p k (k - l)).getD i 0=if i=l then p.getD k 0 else if l < i/\i<=k then p.getD (i - 1) 0 else p.getD i 0:=by
 rw[pq,getElem?_bubble hk (k - l) (by omega)]
 have:k - (k - l)=l:=by omega
 rw[this]
 by_cases c1:i=l
 ·rw[aB c1,aB c1];exact(pq ..).symm
 ·rw[au c1,au c1]
  by_cases c2:l < i/\i<=k
  ·rw[aB c2,aB c2];exact(pq ..).symm
  ·rw[au c2,au c2];exact(pq ..).symm
end
def iA (p q:Str):Bool:=decide (p.cps.toList < q.cps.toList)
theorem AY (p:Str):iA p p=false:=jN (List.lt_irrefl _)
theorem N0 {p q r:Str} (h1:iA p q=true) (h2:iA q r=true):iA p r=true:=gI (List.lt_trans (xm h1) (xm h2))
theorem YG {p q:Str} (h:p≠q) (f:iA p q=false):iA q p=true:=by
 refine gI ?_;have h1 : ¬ p.cps.toList < q.cps.toList:=of_decide_eq_false f;have h2:q.cps.toList<=p.cps.toList:=List.not_lt.mp h1
 by_cases z:q.cps.toList < p.cps.toList
 ·exact z
 ·exact absurd (MP (a:=p) (b:=q) (List.not_lt.mp z) h2) h
theorem WJ {α β:Type}{F:α->β->Prop}{l:List α}{m:List β} (h:Paired F l m) (dl:α) (dm:β) (i:Nat) (hi:i < l.length):F (l.getD i dl) (m.getD i dm):=by
 induction h generalizing i with
 |nil=>exact absurd hi (Au _)
 |cons p _ ih =>
  cases i with
  |zero=>exact p
  |succ i=>exact ih i (KW hi)
theorem LH {α β γ:Type}{F:α->β->Prop}{f:γ->α}{g:γ->β}:∀ {l:List γ},(∀x∈l,F (f x) (g x))->Paired F (l.map f) (l.map g)
 |[],_=>.nil
 |x::l,h=>.cons (h x bj) (LH fun y hy=>h y (cp _ hy))
theorem ZK {lt:Nat->Nat->Bool}{p:Array Nat} (hs:p.size=n) (a:nF lt p n):p.toList.Pairwise fun i j=>lt i j=true:=by
 rw[List.pairwise_iff_getElem];intro i j hi hj iH;have h1:i < p.size:=by simpa using hi
 have h2:j < p.size:=by simpa using hj
 have:=a i j iH (by omega)
 rw[pq,pq,xl h1,xl h2]at this
 simpa using this
end L2
namespace HS
open PySem PySem.Spec PyProof.Rows PySem.W
section
variable{E:Value->Shared->Prop}
theorem VE {vs:List Value}{Q:List Value->Shared->Prop} (ht:IsTup s.heap l vs.toArray) (hz:vs.length<=sizeLine) (q:∀h',(∀b o,s.heap.get? b=some o->h'.get? b=some o)->Q vs { s with heap:=h' }) :
  wpAny (model P w) A (collect (.ref l)) Q E s:=by
 obtain⟨o,ho,hc,n,hd⟩:=id ht;unfold collect;refine ae (Ar (jo UC ?_));rw[mq UD _];show wpAny _ A.in1 (newList [] >>= fun z=>again (.builtin "list.__iadd__" ⟨[z,.ref l],[]⟩)) _ _ s;refine ae (As (ak ⟨pj Av _,jo UE ?_⟩));rw[mq Av _];show wpAny _ _ (Builtin.List.listExtendWith (.ref s.heap.objs.size) (.ref l) (.ref s.heap.objs.size)) _ _ { s with heap:=s.heap.push (seqObj "list" #[] 0) };unfold Builtin.List.listExtendWith;have lj:(s.heap.push (seqObj "list" #[] 0)).get? l=some o:=aT _ ho;refine ae (oZ (T:= "tuple") ⟨o,lj,hc⟩ ?_);have t1:(Value.type "tuple" == Value.type "tuple")=true:=by rfl
 rw[aB (by rw[t1];simp)]
 refine ae (listItems_at lj hd (ae (listItems_at (xs:= #[]) (n:=0) (cu _ rfl) rfl ?_)));rw[au (by simp)]
 refine ae (listUpdate_at (xs:= #[]) (n:=0) (cu _ rfl) rfl (ak ?_) (bG _) (by show(#[]++vs.toArray).size<=sizeLine+1;simp only[KG,cS,Al];omega))
 show wpAny (model P w) A (load s.heap.objs.size >>= _) Q E { s with heap:=(s.heap.push (seqObj "list" #[] 0)).update s.heap.objs.size (Obj.mapSeq (· ++ vs.toArray)) };refine ae (Ae (get?_update_seq (cu _ rfl) _) ?_);show wpAny _ _ (pure ((#[]:Array Value)++vs.toArray).toList) Q E _;rw[show((#[]:Array Value)++vs.toArray).toList=vs by simp]
 refine ak (q _ fun b ob e=>?_);exact(jm _ _ (se (aV e))).trans (aT _ e)
end
end HS
namespace L2
open PySem PySem.Spec PyProof.Rows PySem.W HS
theorem WK:cN X (compareOp .IsNot) (fun x y H Q=>∃a b,x = .bl a/\y = .bl b/\Q (.bl (a != b)) H):=by
 intro pins s σ H x y v u Q I rx ry h;obtain⟨a,b,rfl,rfl,q⟩:=h;cases rx;cases ry
 exact isnot_bool (c7 I q rfl)
theorem aaz (h:ss.Pairwise fun a b=>iA a b=true):ss.Pairwise uc:=h.imp fun {a b} z=>by
 have:a.cps.toList < b.cps.toList:=xm z;exact List.le_of_lt this
theorem aaA (h:ss.Pairwise fun a b=>iA a b=true):ss.Nodup:=h.imp fun {a b} z e=>by
 subst e;rw[AY]at z;cases z
theorem Vo {a b:List Str} (ha:sortedS a=true) (hb:b.Pairwise fun x y=>iA x y=true) (p:a.Perm b):a=b:=List.Perm.eq_of_pairwise (fun _ _ _ _ h1 h2=>MP h1 h2) (VZ ha) (aaz hb) p
end L2
namespace L2
open PySem PySem.Spec PyProof.Rows PySem.W
mutual
inductive Dt (p:Addr) (H:Hp):V->PyData->Prop where
 |aF:Dt p H .aF .none
 |bl (b:Bool):Dt p H (.bl b) (.bool b)
 |int (i:Int):Dt p H (.int i) (.int i)
 |str (x:Str):Dt p H (.str x) (.str x)
 |lst {a:Addr}{xs:List V}{ds:List PyData}:a≠p->H a=some (.lst xs)->gm p H xs ds->Dt p H (.ref a) (.list ds)
 |tup {a:Addr}{xs:List V}{ds:List PyData}:a≠p->H a=some (.tup xs)->gm p H xs ds->Dt p H (.ref a) (.tuple ds)
 |zt {a:Addr}:a≠p->H a=some (.dK [])->Dt p H (.ref a) (.dict [])
inductive gm (p:Addr) (H:Hp):List V->List PyData->Prop where
 |nil:gm p H [] []
 |cons {x:V}{d:PyData}{xs:List V}{ds:List PyData}:Dt p H x d->gm p H xs ds->gm p H (x::xs) (d::ds)
end
section
mutual
theorem Dt.keep (k:∀b o,H b=some o->b≠p->H' b=some o):∀ {v:V}{d:PyData},Dt p H v d->Dt p H' v d
 |_,_,.aF=>.aF
 |_,_,.bl b=>.bl b
 |_,_,.int i=>.int i
 |_,_,.str x=>.str x
 |_,_,.lst n e rs=>.lst n (k _ _ e n) (gm.keep k rs)
 |_,_,.tup n e rs=>.tup n (k _ _ e n) (gm.keep k rs)
 |_,_,.zt n e=>.zt n (k _ _ e n)
theorem gm.keep (k:∀b o,H b=some o->b≠p->H' b=some o):∀ {vs:List V}{ds:List PyData},gm p H vs ds->gm p H' vs ds
 |_,_,.nil=>.nil
 |_,_,.cons r rs=>.cons (Dt.keep k r) (gm.keep k rs)
end
end
end L2
namespace HT
open PySem PyProof.Rows
section
open PySem.SeqAt
open PySem.AutoSeq1 (wpAny_loadPart')
open PySem.MeetsSeq PySem.MeetsSeq2 PySem.MeetsSeq3
end
end HT
namespace L2
open PySem PySem.Spec PyProof.Rows PySem.W HT
section
mutual
theorem Dt.reads (I:Inv X pins σ H s):∀ {v:V}{d:PyData}{u:Value},Dt p H v d->RelV v u -> ∃as,Reads s.heap u d as
 |_,_,_,.aF,r=>by cases r;exact⟨_,.none⟩
 |_,_,_,.bl b,r=>by cases r;exact⟨_,.bool b⟩
 |_,_,_,.int i,r=>by obtain⟨t,rfl⟩:=r;exact⟨_,.int i t⟩
 |_,_,_,.str x,r=>by obtain⟨t,rfl⟩:=r;exact⟨_,.str x t⟩
 |_,_,_,.lst (a:=a) (xs:=xs) _ e rs,r=>by
  cases r
  obtain⟨_,its,n,rv,at_⟩:=(show bu X.prog X.w H s.heap a (.lst xs) from I.ar a _ e);obtain⟨as,ra⟩:=gm.reads I rs rv;exact⟨_,.list at_ rfl rfl ra⟩
 |_,_,_,.tup (a:=a) (xs:=xs) _ e rs,r=>by
  cases r
  obtain⟨_,its,rv,ob,at_,hc,n,hd,_⟩:=(show bu X.prog X.w H s.heap a (.tup xs) from I.ar a _ e);obtain⟨as,ra⟩:=gm.reads I rs rv;exact⟨_,.tuple at_ hc hd ra⟩
 |_,_,_,.zt (a:=a) _ e,r=>by
  cases r
  obtain⟨_,_,vs,kv,o,es,ep,g1,g2,g3,_,g4,_⟩:=(show bu X.prog X.w H s.heap a (.dK []) from I.ar a _ e);cases kv
  have e0:es.toList = []:=by cases h:es.toList with
   |nil=>rfl
   |cons a b=>rw[h]at g4;cases g4
  exact⟨_,.dict (kvs:= []) g1 g2.1 g3 (by rw[e0];exact .nil) (by rw[e0];exact .nil)⟩
theorem gm.reads (I:Inv X pins σ H s):∀ {vs:List V}{ds:List PyData}{us:List Value},gm p H vs ds->Vals vs us -> ∃as,ReadsAll s.heap us ds as
 |_,_,_,.nil,r=>by cases r;exact⟨_,.nil⟩
 |_,_,_,.cons r rs,rv=>by
  cases rv with
  |cons q qs =>
   obtain⟨as,h1⟩:=Dt.reads I r q;obtain⟨bs,h2⟩:=gm.reads I rs qs;exact⟨_,.cons h1 h2⟩
end
mutual
theorem Dt.yl (I:Inv X pins σ H s):∀ {v:V}{d:PyData}{u:Value},Dt p H v d->RelV v u->d.showable=true->d.shown.length<=sizeLine -> ∃bs,ReadAtMost s.heap d.depth bs/\ReprK X.prog X.w bs s.heap d.depth u d.shown
 |_,_,_,.aF,r,_,_=>by cases r;exact⟨[],(fun _ h=>nomatch h),by simp only[PyData.shown];exact .of_is ReprIs.none _ _ _⟩
 |_,_,_,.bl b,r,_,_=>by cases r;exact⟨[],(fun _ h=>nomatch h),by simp only[PyData.shown];exact .of_is (ReprIs.bool b) _ _ _⟩
 |_,_,_,.int i,r,hs,_=>by obtain⟨t,rfl⟩:=r;exact⟨[],(fun _ h=>nomatch h),by simp only[PyData.shown];exact .of_is (ReprIs.int t (by simpa [PyData.showable] using hs)) _ _ _⟩
 |_,_,_,.str x,r,_,hz=>by obtain⟨t,rfl⟩:=r;exact⟨[],(fun _ h=>nomatch h),by simp only[PyData.shown];exact .of_is (ReprIs.str x t (by simpa only [PyData.shown] using hz)) _ _ _⟩
 |_,_,_,.lst (a:=a) (xs:=xs) (ds:=ds) n e rs,r,hs,hz=>by
  cases r
  obtain⟨_,its,n',rv,h1⟩:=(show bu X.prog X.w H s.heap a (.lst xs) from I.ar a _ e);have zu:(listText (PyData.shownAll ds)).length<=sizeLine:=by simpa only [PyData.shown] using hz
  obtain⟨bs,hb,hk⟩:=gm.yl I rs rv (by simpa [PyData.showable] using hs) (fun t ht=>dG (listText_mem_le ht) zu)
  obtain⟨as,ra⟩:=gm.reads I rs rv;have r:Reads s.heap (.ref a) (.list ds) _:= .list h1 rfl rfl ra;have Iq:a ∉ bs:=not_mem_of_deeper r (by simp only[PyData.depth];omega) hb
  refine⟨a::bs,UI r (by simp only[PyData.depth];omega) hb,?_⟩
  simp only[PyData.depth,PyData.shown];cases its with
  |nil =>
   cases ra
   simp only[PyData.shownAll,listText_nil];exact ReprK.listEmpty h1 rfl rfl
  |cons x l=>exact ReprK.list h1 rfl rfl Iq (by simpa using hk.length_eq) (fun i y e=>hk.item i y (by simpa using e))
 |_,_,_,.tup (a:=a) (xs:=xs) (ds:=ds) n e rs,r,hs,hz=>by
  cases r
  obtain⟨_,its,rv,ob,h1,h2,n',h3,_⟩:=(show bu X.prog X.w H s.heap a (.tup xs) from I.ar a _ e);have zu:(tupleText (PyData.shownAll ds)).length<=sizeLine:=by simpa only [PyData.shown] using hz
  obtain⟨bs,hb,hk⟩:=gm.yl I rs rv (by simpa [PyData.showable] using hs) (fun t ht=>dG (tupleText_mem_le ht) zu)
  obtain⟨as,ra⟩:=gm.reads I rs rv;have r:Reads s.heap (.ref a) (.tuple ds) _:= .tuple h1 h2 h3 ra;have Iq:a ∉ bs:=not_mem_of_deeper r (by simp only[PyData.depth];omega) hb
  refine⟨a::bs,UI r (by simp only[PyData.depth];omega) hb,?_⟩
  simp only[PyData.depth,PyData.shown];exact ReprK.tuple h1 h2 h3 Iq hk
 |_,_,_,.zt (a:=a) n e,r,hs,hz=>by
  cases r
  obtain⟨as,rd⟩:=Dt.reads I (.zt n e) (rfl:RelV (.ref a) (.ref a));obtain⟨_,ns,vs,kv,o,es,ep,g1,g2,g3,_,g4,_⟩:=(show bu X.prog X.w H s.heap a (.dK []) from I.ar a _ e);cases kv
  have e0:es.toList = []:=by cases h:es.toList with
   |nil=>rfl
   |cons a b=>rw[h]at g4;cases g4
  refine⟨a :: [],UI rd (bG _) (fun _ h=>nomatch h),?_⟩;exact ReprK.dict (as:= []) (d:=0) (ps:= []) g1 g2.1 g3 ns (by simp) (by rw[e0];exact .nil)
theorem gm.yl (I:Inv X pins σ H s):∀ {vs:List V}{ds:List PyData}{us:List Value},gm p H vs ds->Vals vs us->PyData.showableAll ds=true->(∀t∈PyData.shownAll ds,t.length<=sizeLine) ->
  ∃bs,ReadAtMost s.heap (PyData.depthAll ds) bs/\ReprAllK X.prog X.w bs s.heap (PyData.depthAll ds) us (PyData.shownAll ds)
 |_,_,_,.nil,r,_,_=>by cases r;exact⟨[],(fun _ h=>nomatch h),by simp only[PyData.shownAll];exact .nil⟩
 |_,_,_,.cons (d:=d) (ds:=ds) r rs,rv,hs,hz=>by
  cases rv with
  |cons q qs =>
   have l8:d.showable=true/\PyData.showableAll ds=true:=by simpa [PyData.showableAll] using hs
   obtain⟨b1,iz,k1⟩:=Dt.yl I r q l8.1 (hz _ (by simp only[PyData.shownAll];exact bj ..))
   obtain⟨b2,HF,k2⟩:=gm.yl I rs qs l8.2 (fun t ht=>hz t (by simp only[PyData.shownAll];exact cp _ ht))
   refine⟨b1++b2,?_,?_⟩
   ·simp only[PyData.depthAll]
    exact(iz.mono (Nat.le_max_left _ _)).append (HF.mono (Nat.le_max_right _ _))
   ·simp only[PyData.depthAll,PyData.shownAll]
    exact .cons ((k1.more fun b hb=>ke _ hb).level_le (Nat.le_max_left _ _)) (k2.more_le (fun b hb=>gH _ hb) (Nat.le_max_right _ _))
end
end
end L2
namespace L2
open PySem PySem.Spec PyProof.Rows PySem.W HT
theorem LI (hc:X.calm=true):d5 X (.type "dict") (fun xs H Q=>∃t vs kvs,xs = [.ref t]/\H t=some (.tup vs)/\vh H vs kvs/\(kvs.map (·.1)).Nodup /\ ∀d,H d=none->Q (.ref d) (upd H d (.dK (jW kvs)))):=by
 intro pins s σ H xs us Q I r h;obtain⟨t,vs,kvs,rfl,ht,pr,nd,q⟩:=h;obtain⟨u,rfl,ru⟩:=vals1 r;cases ru
 obtain⟨hz,its,rv,⟨cl,dd,dt,sl⟩,ho,gT,n,rO,m9⟩:=(show bu X.prog X.w H s.heap t (.tup vs) from I.ar t _ ht);obtain rfl:cl = .type "tuple" :=gT;obtain rfl:dd=none:=m9;obtain rfl:dt = .seq its.toArray n:=rO;have iX:vs.length=kvs.length:=mj pr;have j5:=rv.length;have pairs:∀ (i:Nat) p,kvs[i]? = some p -> ∃a x y,its.toArray[i]? = some (.ref a)/\IsTup s.heap a #[x,y]/\RelV (.str p.1) x/\RelV p.2 y:=by
  intro i p hp;have hi:i < vs.length:=by rw[iX];exact(cR.mp hp).1
  obtain⟨p',Cs,a,ey,ha⟩:=nX pr (show vs[i]? = some vs[i] from cP hi);rw[hp]at Cs;cases Cs;obtain⟨u,hu,ru⟩:=rv.get (show vs[i]? = some (V.ref a) by rw[cP hi,ey])
  cases ru
  obtain⟨i2,r2,t2,_⟩:=I.tuple (aC.of ha);obtain⟨x,y,rfl,rx,ry⟩:=r2.two;exact⟨a,x,y,by simpa using hu,t2,rx,ry⟩
 have ch:∀i:Fin kvs.length,∃y,∃a x,its.toArray[i.1]? = some (.ref a)/\IsTup s.heap a #[x,y]/\RelV (.str kvs[i].1) x/\RelV kvs[i].2 y:=fun i=>by
  obtain⟨a,x,y,h1,h2,h3,h4⟩:=pairs i.1 kvs[i] (cP i.2);exact⟨y,a,x,h1,h2,h3,h4⟩
 obtain⟨ys,Ir,QK⟩:∃ys:List Value,ys.length=kvs.length /\ ∀ (i:Nat) (hi:i < kvs.length),∃y,ys[i]? = some y /\ ∃a x,its.toArray[i]? = some (.ref a)/\IsTup s.heap a #[x,y]/\RelV (.str kvs[i].1) x/\RelV kvs[i].2 y:=
  ⟨List.ofFn fun i=>Classical.choose (ch i),List.length_ofFn,fun i hi=>⟨Classical.choose (ch ⟨i,hi⟩),by simp[List.getElem?_ofFn,hi],aks (ch ⟨i,hi⟩)⟩⟩
 have kps:((kvs.map fun p=>(Sum.inr p.1:Key)).zip ys).map (·.1)=kvs.map fun p=>(Sum.inr p.1:Key):=by
  rw[List.map_fst_zip];rw[aA];omega
 have QL:((kvs.map fun p=>(Sum.inr p.1:Key)).zip ys).length=kvs.length:=by rw[List.length_zip,aA];omega
 have inj:(kvs.map fun p=>(Sum.inr p.1:Key)).Nodup:=by
  have:(kvs.map fun p=>(Sum.inr p.1:Key))=(kvs.map (·.1)).map Sum.inr:=by rw[qL];rfl
  rw[this,UJ,xp];exact(UJ.mp nd).imp fun h z=>h (nL z)
 refine Va (I.ok.hd hc) ((kvs.map fun p=>(Sum.inr p.1:Key)).zip ys) (by rw[kps];exact inj) (by rw[QL];omega) (by rw[cS,QL];omega) ho (fun i p hp=>?_) fun d h' tk dl dd kp=>?_
 ·obtain⟨h1,h2⟩:=akt.mp hp
  rw[eX]at h1;obtain⟨kv,hk,ek⟩:=ib.mp h1;obtain⟨hi,rfl⟩:=cR.mp hk;obtain⟨y,hy,a,x,g1,g2,g3,g4⟩:=QK i hi;rw[hy]at h2;cases h2
  exact⟨a,x,g1,g2,by rw[<-ek];exact vw (k:=Sum.inr kvs[i].1) g3⟩
 ·have big:=I.big
  refine⟨.ref d,_,I.laid (a:=d) (o:= .dK (jW kvs)) (t':=tk) kp dl (Fu (by unfold jW;rw[aA];omega) (oV.mpr (aO (bp (gV big dl)))) ?_ dd),rfl,q d (I.ar.fresh dl)⟩
  exact Nq kvs ys Ir fun i hi=>by
   obtain⟨y,hy,a,x,_,_,_,g4⟩:=QK i hi;exact⟨y,hy,g4⟩
end L2
namespace L2
open PySem PySem.W PySem.Calls PyProof.Rows
structure m3 (n:Nat) (lt:Nat->Nat->Bool):Prop where
 tr:∀i j k,i < n->j < n->k < n->lt i j=true->lt j k=true->lt i k=true
 tot:∀i j,i < n->j < n->i≠j->lt i j=false->lt j i=true
def d9 {α:Type} (n:Nat) (lt:Nat->Nat->Bool) (φ:α->Prop):KasT α->Prop
 |.ret a=>φ a
 |.ask i j k=>i < n/\j < n/\i≠j/\d9 n lt φ (k (lt i j))
section
variable{α β:Type}{lt:Nat->Nat->Bool}
theorem d9.bind {φ:α->Prop}{ψ:β->Prop}{f:α->KasT β} (g:∀a,φ a->d9 n lt ψ (f a)):∀ {t:KasT α},d9 n lt φ t->d9 n lt ψ (t.bind f)
 |.ret a,h=>g a h
 |.ask _ _ _,h=>⟨h.1,h.2.1,h.2.2.1,d9.bind g h.2.2.2⟩
theorem d9.wp {φ:α->Prop}{cmp:Nat->Nat->(Bool->Shared->Prop)->Shared->Prop}{Q:α->Shared->Prop}{s:Shared} (hc:∀i j C,i < n->j < n->i≠j->C (lt i j) s->cmp i j C s):∀ {t:KasT α},d9 n lt φ t->(∀a,φ a->Q a s)->t.kasWp cmp Q s
 |.ret a,h,q=>q a h
 |.ask _ _ _,h,q=>hc _ _ _ h.1 h.2.1 h.2.2.1 (d9.wp hc h.2.2.2 q)
theorem d9.mono {φ ψ:α->Prop} (g:∀a,φ a->ψ a):∀ {t:KasT α},d9 n lt φ t->d9 n lt ψ t
 |.ret a,h=>g a h
 |.ask _ _ _,h=>⟨h.1,h.2.1,h.2.2.1,d9.mono g h.2.2.2⟩
theorem FV {p:Array Nat} (O:m3 n lt) (h:Pm n p) (hi:i < n) (hj:j < n) (e:i≠j) (f:lt (p.getD i 0) (p.getD j 0)=false):lt (p.getD j 0) (p.getD i 0)=true:=
 O.tot _ _ (h.lt (by omega) i) (h.lt (by omega) j) (h.ne hi hj e) f
theorem WL {p:Array Nat} (O:m3 n lt) (h:Pm n p) (h1:1<=m) (hm:m < n) (a:nF lt p m) (l:lt (p.getD (m - 1) 0) (p.getD m 0)=true):nF lt p (m+1):=fun i j iH hj=>by
 by_cases e:j < m
 ·exact a i j iH e
 ·obtain rfl:j=m:=by omega
  by_cases e2:i=j - 1
  ·rw[e2];exact l
  ·exact O.tr _ _ _ (h.lt (by omega) _) (h.lt (by omega) _) (h.lt (by omega) _) (a i (j - 1) (by omega) (by omega)) l
theorem WM {p:Array Nat} (O:m3 n lt) (h:Pm n p) (h1:1<=m) (hm:m < n) (a:rQ lt p m) (l:lt (p.getD m 0) (p.getD (m - 1) 0)=true):rQ lt p (m+1):=fun i j iH hj=>by
 by_cases e:j < m
 ·exact a i j iH e
 ·obtain rfl:j=m:=by omega
  by_cases e2:i=j - 1
  ·rw[e2];exact l
  ·exact O.tr _ _ _ (h.lt (by omega) _) (h.lt (by omega) _) (h.lt (by omega) _) l (a i (j - 1) (by omega) (by omega))
theorem EG {p:Array Nat} (O:m3 n lt) (h:Pm n p):∀ (f m:Nat),1<=m->m+f<=n->nF lt p m->d9 n lt (fun r=>m<=r/\r<=m+f/\nF lt p r/\(r < m+f->lt (p.getD r 0) (p.getD (r - 1) 0)=true)) (kas_asc p f m)
 |0,m,h1,h2,a=>⟨aR _,aR _,a,fun z=>absurd z (by omega)⟩
 |f+1,m,h1,h2,a=>⟨h.lt (by omega) _,h.lt (by omega) _,h.ne (by omega) (by omega) (by omega),by
  cases c:lt (p.getD m 0) (p.getD (m - 1) 0) with
  |true=>exact⟨aR _,by omega,a,fun _=>c⟩
  |false =>
   refine d9.mono (fun r hr=>?_) (EG O h f (m+1) (by omega) (by omega) (WL O h h1 (by omega) a (FV O h (by omega) (by omega) (by omega) c)))
   exact⟨by omega,by omega,hr.2.2.1,fun z=>hr.2.2.2 (by omega)⟩⟩
theorem Mm {p:Array Nat} (O:m3 n lt) (h:Pm n p):∀ (f m:Nat),1<=m->m+f<=n->rQ lt p m->d9 n lt (fun r:Array Nat×Nat×Nat=>r.1=p/\r.2.2=0/\m<=r.2.1/\r.2.1<=m+f/\rQ lt p r.2.1) (kas_desc f p m 0)
 |0,m,h1,h2,a=>⟨rfl,rfl,aR _,aR _,a⟩
 |f+1,m,h1,h2,a=>⟨h.lt (by omega) _,h.lt (by omega) _,h.ne (by omega) (by omega) (by omega),by
  cases c:lt (p.getD m 0) (p.getD (m - 1) 0) with
  |true =>
   show d9 n lt _ (if 0 > 0 then kas_desc f (kas_rev p (m - (0+1)) m) (m+1) 0 else kas_desc f p (m+1) 0);rw[au (by omega)]
   refine d9.mono (fun r hr=>?_) (Mm O h f (m+1) (by omega) (by omega) (WM O h h1 (by omega) a c))
   exact⟨hr.1,hr.2.1,by omega,by omega,hr.2.2.2.2⟩
  |false =>
   refine⟨h.lt (by omega) _,h.lt (by omega) _,h.ne (by omega) (by omega) (by omega),?_⟩
   rw[FV O h (by omega) (by omega) (by omega) c]
   exact⟨rfl,rfl,aR _,sr _ _,a⟩⟩
def BF (n:Nat) (lt:Nat->Nat->Bool) (r:Nat×Array Nat):Prop:=Pm n r.2/\nF lt r.2 r.1/\1<=r.1/\r.1<=n
theorem V5 {p:Array Nat} (O:m3 n lt) (h:Pm n p) (h1:1<=m) (h2:m<=n) (a:rQ lt p m):d9 n lt (BF n lt) (kas_tail3 m n p):=
 d9.bind (ψ:=BF n lt) (f:=fun k=>.ret (k,kas_rev p 0 m)) (fun r hr=>(show BF n lt (r,kas_rev p 0 m) from⟨h.rev _ _,hr.2.2.1,dG h1 hr.1,by have:=hr.2.1;show r<=n;omega⟩)) (EG O (h.rev 0 m) (n - m) m h1 (by omega) (a.rev (by rw[h.size];exact h2)))
theorem V6 {p:Array Nat} (O:m3 n lt) (hn:2<=n) (h:Pm n p):d9 n lt (BF n lt) (kas_count n p):=
 (EG O h (n - 1) 1 (aR _) (by omega) (fun i j iH hj=>absurd hj (by omega))).bind fun m hm=>by
  obtain⟨m1,m2,ma,ml⟩:=hm;show d9 n lt _ (if (m==n)=true then _ else if m > 1 then _ else _);split
  ·rename_i e
   have:m=n:=by simpa using e
   subst this;exact⟨h,ma,m1,aR _⟩
  ·rename_i e
   have ne:m≠n:=by simpa using e
   split
   ·rename_i g
    refine⟨h.lt (by omega) _,h.lt (by omega) _,h.ne (by omega) (by omega) (by omega),?_⟩
    rw[ma 0 (m - 1) (by omega) (by omega)]
    exact⟨h,ma,m1,by omega⟩
   ·obtain rfl:m=1:=by omega
    have l:=ml (by omega)
    have d2:rQ lt p 2:=fun i j iH hj=>by
     obtain rfl:j=1:=by omega
     obtain rfl:i=0:=by omega
     exact l
    refine d9.bind (fun r hr=>?_) (Mm O h (n - (1+1)) (1+1) (by omega) (by omega) d2)
    obtain⟨r1,r2,r3,r4,r5⟩:=hr;show d9 n lt _ (if r.2.2 > 0 then _ else _);rw[au (by omega),r1]
    exact V5 O h (by omega) (by omega) r5
theorem DY {p:Array Nat} (O:m3 n lt) (h:Pm n p) {k:Nat} (hk:k < n) (a:nF lt p k):∀ (f l r:Nat),r - l<=f->l<=r->r<=k->(∀i,i < l->lt (p.getD i 0) (p.getD k 0)=true)->(∀i,r<=i->i < k->lt (p.getD k 0) (p.getD i 0)=true) ->
  d9 n lt (fun m=>m<=k/\(∀i,i < m->lt (p.getD i 0) (p.getD k 0)=true) /\ ∀i,m<=i->i < k->lt (p.getD k 0) (p.getD i 0)=true) (kas_place p k f l r)
 |0,l,r,hf,hl,hr,lo,hi=>by
  obtain rfl:l=r:=by omega
  exact⟨hr,lo,hi⟩
 |f+1,l,r,hf,hl,hr,lo,hi=>by
  show d9 n lt _ (if l ≥ r then _ else _);split
  ·obtain rfl:l=r:=by omega
   exact⟨hr,lo,hi⟩
  ·refine⟨h.lt (by omega) _,h.lt (by omega) _,h.ne (by omega) (by omega) (by omega),?_⟩
   cases c:lt (p.getD k 0) (p.getD ((l+r) / 2) 0) with
   |true =>
    refine DY O h hk a f l ((l+r) / 2) (by omega) (by omega) (by omega) lo fun i zv Iu=>?_
    by_cases e:i=(l+r) / 2
    ·rw[e];exact c
    ·exact O.tr _ _ _ (h.lt (by omega) _) (h.lt (by omega) _) (h.lt (by omega) _) c (a _ i (by omega) Iu)
   |false =>
    have c2:=FV O h (i:=k) (j:=(l+r) / 2) hk (by omega) (by omega) c
    refine DY O h hk a f ((l+r) / 2+1) r (by omega) (by omega) hr (fun i zv=>?_) hi
    by_cases e:i=(l+r) / 2
    ·rw[e];exact c2
    ·exact O.tr _ _ _ (h.lt (by omega) _) (h.lt (by omega) _) (h.lt (by omega) _) (a i _ (by omega) (by omega)) c2
theorem MY (O:m3 n lt):∀ (f:Nat) (p:Array Nat) (k:Nat),k+f=n->Pm n p->nF lt p k->d9 n lt (fun r=>Pm n r/\nF lt r n) (kas_bin f p k)
 |0,p,k,e,h,a=>by
  obtain rfl:k=n:=by omega
  exact⟨h,a⟩
 |f+1,p,k,e,h,a=>(DY O h (by omega) a k 0 k (by omega) (bG _) (aR _) (fun i hi=>absurd hi (Au _)) (fun i h1 h2=>absurd h2 (by omega))).bind fun l hl=>by
  obtain⟨l1,l2,l3⟩:=hl;refine MY O f _ _ (by omega) (h.bub _ _) fun i j iH hj=>?_
  have hsz:=h.size;rw[MX (by omega) l1 i,MX (by omega) l1 j]
  by_cases i1:i=l
  ·rw[aB i1,au (by omega),aB (by omega)]
   exact l3 _ (by omega) (by omega)
  ·rw[au i1]
   by_cases i2:l < i/\i<=k
   ·rw[aB i2,au (by omega),aB (by omega)]
    exact a _ _ (by omega) (by omega)
   ·rw[au i2]
    by_cases j1:j=l
    ·rw[aB j1];exact l2 i (by omega)
    ·rw[au j1]
     by_cases j2:l < j/\j<=k
     ·rw[aB j2]
      exact a _ _ (by omega) (by omega)
     ·rw[au j2]
      exact a _ _ iH (by omega)
theorem WN (O:m3 n lt) (hn:2<=n):d9 n lt (fun r=>Pm n r/\nF lt r n) (kas_sort n):=
 (V6 O hn (qK _)).bind fun r hr=>by
  obtain⟨r1,r2,r3,r4⟩:=hr;show d9 n lt _ (if r.1 < n then _ else _);split
  ·refine MY O _ _ _ (by omega) r1 ?_
   rw[show max r.1 1=r.1 by omega];exact r2
  ·obtain e:r.1=n:=by omega
   rw[e]at r2;exact⟨r1,r2⟩
end
end L2
namespace L2
open PySem PySem.W PySem.Calls PyProof.Rows HS
def iY:List Str->List Str->Bool
 |a::as,b::bs=>if a=b then iY as bs else iA a b
 |_,_=>false
theorem N1:∀ {a b c:List Str},a.length=b.length->b.length=c.length->iY a b=true->iY b c=true->iY a c=true
 |[],_,_,h1,_,h,_=>by unfold iY at h;cases h
 |a::as,[],_,h1,_,_,_=>by simp at h1
 |a::as,b::bs,[],_,h2,_,_=>by simp at h2
 |a::as,b::bs,c::cs,h1,h2,h3,h4=>by
  unfold iY at h3 h4 ⊢
  by_cases e1:a=b
  ·rw[aB e1]at h3
   subst e1
   by_cases e2:a=c
   ·rw[aB e2]at h4 ⊢;exact N1 (by simpa using h1) (by simpa using h2) h3 h4
   ·rw[au e2]at h4 ⊢;exact h4
  ·rw[au e1]at h3
   by_cases e2:b=c
   ·subst e2
    rw[au e1];exact h3
   ·rw[au e2]at h4
    have t:=N0 h3 h4
    by_cases e3:a=c
    ·subst e3;rw[AY]at t;cases t
    ·rw[au e3];exact t
theorem Nw:∀ {a b:List Str},a.length=b.length->a≠b->iY a b=false->iY b a=true
 |[],[],_,h,_=>absurd rfl h
 |[],b::bs,h,_,_=>by simp at h
 |a::as,[],h,_,_=>by simp at h
 |a::as,b::bs,h1,h2,h3=>by
  unfold iY at h3 ⊢
  by_cases e:a=b
  ·subst e
   rw[aB rfl]at h3 ⊢;exact Nw (by simpa using h1) (fun z=>h2 (by rw[z])) h3
  ·rw[au e]at h3;rw[au (aO e)]
   exact YG e h3
theorem E7 (a b:Str):iY [a] [b]=iA a b:=by
 unfold iY
 by_cases e:a=b
 ·rw[aB e,e,AY];rfl
 ·rw[au e]
section
variable{E:Value->Shared->Prop}
theorem WO {a b:Str}{t u:Tok}{c:Bool}{Q:Bool->Shared->Prop} (h:Q (iA a b) s):wpAny (model P w) A (oneLt' c (.str a t) (.str b u)) Q E s:=by
 cases c with
 |true=>exact oneLt_str h
 |false =>
  rw[oneLt'_eq];simp only[Ai,si];exact ae (PyProof.Rows.lt_str (nM h))
theorem Mn {b fin:Bool}{Q:Bool->Shared->Prop}:∀ {as bs:List Str}{us vs:List Value}{ru rv:List Value} (i:Nat),StrsAre us as->StrsAre vs bs->as.length=bs.length->as≠bs->Q (iY as bs) s->KatLex P w A b fin Q ((us++ru).zip (vs++rv)) i s
 |[],[],_,_,_,_,_,_,_,_,h,_=>absurd rfl h
 |[],_::_,_,_,_,_,_,_,_,h,_,_=>by simp at h
 |_::_,[],_,_,_,_,_,_,_,h,_,_=>by simp at h
 |a::as,b'::bs,_,_,ru,rv,i,.cons _ t h1,.cons _ u h2,hl,bB,q=>by
  unfold iY at q;refine kat_cons (wpAny_eqBool_str ?_)
  by_cases e:a=b'
  ·rw[gI e]
   rw[aB e]at q;exact kat_yes (Mn (i+1) h1 h2 (by simpa using hl) (fun z=>bB (by rw[e,z])) q)
  ·rw[jN e]
   rw[au e]at q;exact kat_no (WO q)
end
def xU (H:Hp) (m:Nat) (vs:List V) (kvs:List (List Str×List V)):Prop:=Paired (fun y p=>∃a,y=V.ref a/\H a=some (.tup (p.1.map V.str++p.2))/\p.1.length=m) vs kvs
theorem LJ {H:Hp}:∀ {ks:List Str}{rest:List V}{its:List Value},Vals (ks.map V.str++rest) its -> ∃us ru,its=us++ru/\StrsAre us ks
 |[],rest,its,h=>⟨[],its,rfl,.nil⟩
 |k::ks,rest,its,h=>by
  cases h with
  |cons r t =>
   obtain⟨tk,rfl⟩:=r;obtain⟨us,ru,e,st⟩:=LJ (H:=H) t;exact⟨.str k tk::us,ru,by rw[e];rfl,.cons k tk st⟩
theorem DK:d5 X (.builtin "sorted") (fun xs H Q=>∃ (p:Addr) (ys:List V) (kvs:List (List Str×List V)) (m:Nat),xs = [.ref p]/\(aj X.K H p ys\/aC X.K H p ys)/\xU H m ys kvs/\1<=m/\(kvs.map (·.1)).Nodup/\ys.length<=63 /\
  ∀D eZ fu,H D=none->eZ.Perm ys->xU H m eZ fu->fu.Perm kvs->(fu.map (·.1)).Pairwise (fun a b=>iY a b=true)->Q (.ref D) (upd H D (.lst eZ))):=by
 rintro pins s σ H xs us Q I r ⟨p,ys,kvs,mm,ex,hq,pr,hm1,nd,mf,q⟩;subst ex;obtain⟨u,rfl,rx⟩:=vals1 r;cases rx
 obtain⟨its,rv,hz,col⟩:∃its:List Value,Vals ys its/\ys.length<=sizeLine /\ ∀ (A:Around) (E:Value->Shared->Prop) (Q':List Value->Shared->Prop),(∀h',(∀b o,s.heap.get? b=some o->h'.get? b=some o)->Q' its { s with heap:=h' })->wpAny (model X.prog X.w) A (collect (.ref p)) Q' E s:=by
  rcases hq with hq|hq
  ·obtain⟨its,rv,pl,hz⟩:=I.list hq
   have:=rv.length;refine⟨its,rv,hz,fun A E Q' q'=>collect_list pl.isList (q' _ fun b o e=>?_) (by rw[aN];omega)⟩
   exact(jm _ _ (se (aV e))).trans (aT _ e)
  ·obtain⟨its,rv,pl,hz⟩:=I.tuple hq
   have:=rv.length;exact⟨its,rv,hz,fun A E Q' q'=>VE pl (by rw[aN];omega) q'⟩
 have iX:ys.length=kvs.length:=mj pr;have j5:=rv.length;have at_:∀ (i:Nat),i < its.length -> ∃ (ks:List Str) (a:Addr) (tu ru:List Value),(kvs.map (·.1))[i]? = some ks/\its[i]? = some (.ref a)/\a≠X.env.locals/\IsTup s.heap a (tu++ru).toArray/\StrsAre tu ks/\ks.length=mm:=by
  intro i hi;have Ct:i < ys.length:=by omega
  obtain⟨p',Cs,a,ey,ha,hlm⟩:=nX pr (show ys[i]? = some ys[i] from cP Ct);obtain⟨u,hu,ru⟩:=rv.get (show ys[i]? = some (V.ref a) by rw[cP Ct,ey])
  cases ru
  obtain⟨i2,r2,t2,_⟩:=I.tuple (aC.of ha);obtain⟨tu,ru,e,st⟩:=LJ (H:=H) r2;rw[e]at t2;exact⟨p'.1,a,tu,ru,by rw[eX,Cs];rfl,hu,(fun z=>by rw[z,I.free]at ha;cases ha),t2,st,hlm⟩
 obtain⟨m,hm,_⟩:=id I.loc
 let lt:Nat->Nat->Bool:=fun i j=>iY ((kvs.map (·.1)).getD i []) ((kvs.map (·.1)).getD j [])
 have kl:(kvs.map (·.1)).length=its.length:=by rw[aA];omega
 have vJ:∀i,i < its.length->((kvs.map (·.1)).getD i []).length=mm:=fun i hi=>by
  obtain⟨ks,_,_,_,h1,_,_,_,_,h2⟩:=at_ i hi;rw[kf,h1];exact h2
 have QM:∀i j,i < its.length->j < its.length->i≠j->(kvs.map (·.1)).getD i []≠(kvs.map (·.1)).getD j []:=fun i j hi hj iH e=>iH ((List.getElem?_inj (by omega) nd).mp (by
  rw[kf,kf,cP (by omega),cP (by omega)]at e
  rw[cP (by omega),cP (by omega)]
  exact fc some e))
 have O:m3 its.length lt:=⟨fun i j k hi hj hk h1 h2=>N1 ((vJ i hi).trans (vJ j hj).symm) ((vJ j hj).trans (vJ k hk).symm) h1 h2,fun i j hi hj iH f=>Nw ((vJ i hi).trans (vJ j hj).symm) (QM i j hi hj iH) f⟩;have fin:∀ (h':Heap) (D:Addr) (c:Nat) (pa:Array Nat),(∀b o,b≠X.env.locals->s.heap.get? b=some o->h'.get? b=some o)->h'.Ns X.env.locals m->(∀b o,s.heap.get? b=some o->b≠D)->Pm its.length pa->(pa.toList.Pairwise fun i j=>lt i j=true) ->
   h'.get? D=some (listOf (pa.toList.map fun i=>its.getD i Value.none).toArray c) -> ∃v H',Inv X pins σ H' { s with heap:=h' }/\RelV v (.ref D)/\Q v H':=by
  intro h' D c pa k ll hD hp zq new;have Cq:∀i∈pa.toList,i < its.length:=fun i hi=>oW.mp (hp.mem_iff.mp hi);have py:(pa.toList.map fun i=>ys.getD i V.aF).Perm ys:=NZ V.aF (by rw[j5];exact hp)
  have wK:Pm kvs.length pa:=by rw[<-iX,j5];exact hp
  have pk:(pa.toList.map fun i=>kvs.getD i (([],[]):List Str×List V)).Perm kvs:=NZ _ wK;have pp:xU H mm (pa.toList.map fun i=>ys.getD i V.aF) (pa.toList.map fun i=>kvs.getD i ([],[])):=LH fun i hi=>WJ pr V.aF ([],[]) i (by have:=Cq i hi;omega)
  have ek:(pa.toList.map fun i=>kvs.getD i ([],[])).map (·.1)=pa.toList.map fun i=>(kvs.map (·.1)).getD i []:=by
   rw[qL];refine Dx fun i hi=>?_;have:i < kvs.length:=by have:=Cq i hi;omega
   show(kvs.getD i ([],[])).1=_;rw[kf,kf,eX,cP this];rfl
  have rel:Vals (pa.toList.map fun i=>ys.getD i V.aF) (pa.toList.map fun i=>its.getD i Value.none):=Mh (fun i=>by
   by_cases hi:i < ys.length
   ·obtain⟨u,hu,ru⟩:=rv.get (show ys[i]? = some ys[i] from cP hi)
    rw[kf,kf,hu,cP hi];exact ru
   ·rw[kf,kf,Aq (by omega),Aq (by omega)];trivial) pa.toList
  obtain⟨hn,I'⟩:=Inv.sorted (t':=s.toks) I hm ll k hD new rel (by rw[py.length_eq];exact hz)
  refine⟨.ref D,_,I',rfl,q D _ _ hn py pp pk ?_⟩;rw[ek,xp];exact zq
 refine UG kind_sorted plain_sorted entry_sorted (args_sorted1 _) ?_;unfold Builtin.«sorted»;refine ae (m:=checkCount "sorted" 1 1 _) (ak (ae (col _ _ _ fun h1 k1=>?_)));refine ae (As ?_ (by rw[aN];omega))
 have eI:(h1.push (seqObj "list" its.toArray 0)).get? h1.objs.size=some (seqObj "list" its.toArray 0):=cu _ rfl;have hD:∀b o,s.heap.get? b=some o->b≠h1.objs.size:=fun b o e=>bp (aV (k1 b o e));refine ae (eM (jP slot_list_sort ⟨_,eI,rfl⟩ entry_list_sort ?_ (args_list_sort _)));have keep:∀b o,s.heap.get? b=some o->(h1.push (seqObj "list" its.toArray 0)).get? b=some o:=fun b o e=>aT _ (k1 b o e)
 by_cases h2:its.length < 2
 ·refine WH eI h2 fun c g kg new=>⟨_,rfl,ak ⟨_,rfl,?_⟩⟩
  refine fin g _ c (List.range its.length).toArray (fun b o _ e=>kg b o (hD b o e) (keep b o e)) (hm.at' fun o e=>kg _ o (hD _ o e) (keep _ o e)) hD (qK _) ?_ ?_
  ·show(List.range its.length).Pairwise _
   have:its.length=0\/its.length=1:=by omega
   rcases this with z|z <;> rw[z]
   ·exact List.Pairwise.nil
   ·exact List.pairwise_singleton _ _
  ·have:(List.range its.length).map (fun i=>its.getD i Value.none)=its:=by
    apply Uv
    ·simp
    ·intro i h1 h2;simp[List.getD,h2]
   show g.get? h1.objs.size=some (listOf ((List.range its.length).map fun i=>its.getD i Value.none).toArray c);rw[this];exact new
 ·have h2:2<=its.length:=by omega
  obtain⟨g0,hg0,Cu⟩:∃g0:Heap,g0.objs.size=0 /\ ∀b,g0.get? b=none:=⟨{ s.heap with objs:= #[] },rfl,fun b=>Dh (bG _)⟩;have F:Fr g0 X.env.locals s.heap m:=⟨hm,fun b o e=>(by rw[Cu]at e;cases e),by rw[hg0];exact bG _⟩
  have N:=Xg (g:=g0) (L:=X.env.locals) (h:=s.heap);have Iv:∃o,s.heap.get? X.env.locals=some o:=let ⟨o,_,_,e,_⟩:=hm;⟨o,e⟩;obtain⟨oL,eL⟩:=Iv;refine kat_list_sort (s:={ s with heap:=h1.push (seqObj "list" its.toArray 0) }) (F.kept keep) (N.grown keep) eI (aO (hD _ _ eL)) (Cu _) (fun p hp=>hD p.1 p.2 (DE hp).2.2) h2 (by omega) fun e1 h' F' N'=>?_
  have kp:∀b o,b≠X.env.locals->s.heap.get? b=some o->h'.get? b=some o:=fun b o n e=>(N' (b,o) (cp _ (Lk n (Cu b) e))).1;have tk:∀ {a:Addr}{zs:Array Value},a≠X.env.locals->IsTup s.heap a zs->IsTup h' a zs:=fun n ⟨o,ho,r⟩=>⟨o,kp _ o n ho,r⟩;have ft:∀ (vs:List Value),(∀v∈vs,∃a tu ru ks,v=Value.ref a/\IsTup h' a (tu++ru).toArray/\StrsAre tu ks/\ks.length=mm) -> ∃fs,fs.length=vs.length/\KatTups h' vs fs /\ ∀f∈fs,∃k t,f=Value.str k t:=by
   intro vs
   induction vs with
   |nil=>intro _;exact⟨[],rfl,KatTups.nil,fun f hf=>(by cases hf)⟩
   |cons v vs ih =>
    intro hv;obtain⟨fs,f1,f2,f3⟩:=ih fun v' h'=>hv v' (cp _ h');obtain⟨a,tu,ru,ks,rfl,⟨o,ho,hc,n,hd⟩,st,hkm⟩:=hv v bj;cases st with
    |nil=>simp at hkm;omega
    |cons k t r =>
     refine⟨.str k t::fs,by rw[eN,eN,f1],KatTups.cons ho hc hd (by simp) f2,fun f hf=>?_⟩
     rcases aY.mp hf with z|z
     ·exact⟨k,t,z⟩
     ·exact f3 f z
  obtain⟨fs,qm,ua,iu⟩:=ft its fun v hv=>by
   obtain⟨i,hi,rfl⟩:=KL hv;obtain⟨ks,a,tu,ru,_,g2,g3,g4,g5,g6⟩:=at_ i hi;rw[cP hi]at g2;exact⟨a,tu,ru,ks,f' g2,tk g3 g4,g5,g6⟩
  refine kat_kind (T:= .type "str") ua (by omega) (fun f hf=>?_) (by decide) ?_
  ·obtain⟨k,t,rfl⟩:=iu f hf
   exact Looks.of_pure rfl
  ·refine(WN O h2).wp (fun i j C hi hj iH hC=>?_) fun pa hp=>?_
   ·obtain⟨k,a,tu,ru,g1,g2,g3,g4,g5,g6⟩:=at_ i hi
    obtain⟨k',a',tu',ru',g1',g2',g3',g4',g5',g6'⟩:=at_ j hj;unfold kas_ask;rw[kf,kf,g2,g2'];have ei:(kvs.map (·.1)).getD i []=k:=by rw[kf,g1];rfl
    have ej:(kvs.map (·.1)).getD j []=k':=by rw[kf,g1'];rfl
    have el:lt i j=iY k k':=by show iY ((kvs.map (·.1)).getD i []) ((kvs.map (·.1)).getD j [])=_;rw[ei,ej]
    have ne:=QM i j hi hj iH;rw[ei,ej]at ne;rw[el]at hC;obtain⟨ox,hx,_,nx,dx⟩:=tk g3 g4;obtain⟨oy,hy,_,ny,dy⟩:=tk g3' g4';exact kat_lt hx dx hy dy (Mn 0 g5 g5' (g6.trans g6'.symm) ne hC)
   ·refine KasFin.intro F' N' (UpdF.head fun p hp=>?_) fun gD c F'' QN=>?_
    ·exact hD p.1 p.2 (DE hp).2.2
    ·refine⟨_,rfl,ak ⟨_,rfl,?_⟩⟩
     exact fin gD _ c pa (fun b o n e=>(QN (b,o) (cp _ (Lk n (Cu b) e))).1) F''.ns hD hp.1 (ZK hp.1.size hp.2) (QN _ bj).1
end L2
namespace L2
open PySem PySem.W
end L2
namespace HS
open PySem PySem.Spec PyProof.Rows PySem.W
end HS
namespace L2
open PySem PySem.Spec PyProof.Rows PySem.W HS
end L2
namespace L2
open PySem PySem.W PySem.Spec PyProof.Rows
end L2
namespace L2
open PySem PySem.W
end L2
namespace L2
open PySem PySem.W PySem.Spec PyProof.Rows
end L2
namespace HT
open PySem PyProof.Rows PySem.W
open PySem.AutoSeq1 (wpAny_loadPart')
theorem ki (x:IsTupIter h it t i) (k:∀o,h.get? it=some o->g.get? it=some o):IsTupIter g it t i:=let ⟨o,e,r⟩:=x;⟨o,k o e,r⟩
theorem vi {vs:Array Value} (x:IsTup h t vs) (k:∀o,h.get? t=some o->g.get? t=some o):IsTup g t vs:=let ⟨o,e,r⟩:=x;⟨o,k o e,r⟩
section
variable{B:Around}{E:Value->Shared->Prop}{TI TO:Addr}{k:Nat}{xs ys:Array Value}{x y a b:Value}
theorem WQ {R:Value->Shared->Prop} (D:ZipApart z TI TO i1 i2 l1 l2) (hz:IsZip s.heap z TI TO .none) (pi:IsPair s.heap TI (.ref i1) (.ref i2)) (po:IsPair s.heap TO a b) (t1:IsTupIter s.heap i1 l1 k) (t2:IsTupIter s.heap i2 l2 k) (h1:IsTup s.heap l1 xs) (h2:IsTup s.heap l2 ys) (hx:xs[k]? = some x) (hy:ys[k]? = some y)
  (q:∀g,IsZip g z TI TO (rawInt s.heap.objs.size)->IsPair g TO x y->IsTupIter g i1 l1 (k+1)->IsTupIter g i2 l2 (k+1)->IsPair g s.heap.objs.size x y->(∀c o,c≠z->c≠TO->c≠i1->c≠i2->s.heap.get? c=some o->g.get? c=some o)->R (.ref s.heap.objs.size) { s with heap:=g }) :
  wpAny (model P w) B (Builtin.«zip.__next__» ⟨[.ref z],[]⟩) (fun f s'=>∃v,f = .done (.ret v)/\R v s') E s:=by
 refine ae (m:=field (.ref z) 2) (dX hz rfl (x:= .bool false) rfl (ae (m:=field (.ref z) 3) (dX hz rfl (x:= .ref TI) rfl (ae (nP pi rfl (ae (m:=Builtin.SmallTypes.ownedTupleIsFree (.ref z)) ?_))))));unfold Builtin.SmallTypes.ownedTupleIsFree;refine ae (dX hz rfl (x:= .none) rfl (ak ?_));simp only[nN];refine ae (lF (ae (dX hz rfl (x:= .ref TO) rfl (ae (lI hz (by simp) fun g1 (z1:IsZip g1 z TI TO .ellipsis) b1=>ae ?_)))))
 simp only[UK,UL,Kr,Ks];have e1:=b1.extBut;refine ae (ae (Dy (?_:wpAny _ _ (Builtin.SmallTypes.nextOf (.ref i1) >>= _) _ _ _)));refine ae (EA (s:={ s with heap:=g1 }) (ki t1 fun o e=>e1 _ o D.i1z e) (vi h1 fun o e=>e1 _ o D.l1z e) hx fun g2 u1 b2=>ak ?_);have e2:=b2.extBut;have zw:IsPair g2 TO a b:=e2 _ _ D.TOi1 (e1 _ _ D.TOz po);refine ae (nP zw rfl (ae (UM zw fun g3 (QO:IsPair g3 TO x b) b3=>ae (KJ (ak ?_)))));have e3:=b3.extBut;refine ae (ae (Dy (?_:wpAny _ _ (Builtin.SmallTypes.nextOf (.ref i2) >>= _) _ _ _)));refine ae (EA (s:={ s with heap:=g3 }) (ki t2 fun o e=>e3 _ o D.TOi2.symm (e2 _ o D.i12.symm (e1 _ o D.i2z e))) (vi h2 fun o e=>e3 _ o D.l2TO (e2 _ o D.l2i1 (e1 _ o D.l2z e))) hy fun g4 u2 b4=>ak ?_);have e4:=b4.extBut;have QP:IsPair g4 TO x b:=e4 _ _ D.TOi2 QO;refine ae (nP QP rfl (ae (UM QP fun g5 (QQ:IsPair g5 TO x y) b5=>ae (KJ (ak (ak ?_))))));have e5:=b5.extBut;have size:g5.objs.size=s.heap.objs.size:=by rw[b5.1,b4.1,b3.1,b2.1,b1.1]
 have z5:IsZip g5 z TI TO .ellipsis:=e5 _ _ D.TOz.symm (e4 _ _ D.i2z.symm (e3 _ _ D.TOz.symm (e2 _ _ D.i1z.symm z1)));have all:∀c o,c≠z->c≠TO->c≠i1->c≠i2->s.heap.get? c=some o->g5.get? c=some o:=fun c o n0 n1 n2 n3 e=>e5 _ _ n1 (e4 _ _ n3 (e3 _ _ n1 (e2 _ _ n2 (e1 _ _ n0 e))));have v1:IsTupIter g5 i1 l1 (k+1):=ki u1 fun o e=>e5 _ o D.TOi1.symm (e4 _ o D.i12 (e3 _ o D.TOi1.symm e));have v2:IsTupIter g5 i2 l2 (k+1):=ki u2 fun o e=>e5 _ o D.TOi2.symm e;have nz:g5.objs.size≠z:=se (aV z5);refine ae (nP QQ rfl (ae (wpAny_newTuple (ae (m:=Builtin.SmallTypes.ownedTupleHandOut (.ref z) (.ref g5.objs.size)) ?_))));unfold Builtin.SmallTypes.ownedTupleHandOut;have z6:IsZip (g5.push { cls:= .type "tuple",data:= .seq #[x,y] }) z TI TO .ellipsis:=aT _ z5;refine ae (lI z6 (by simp) fun g7 (z7:IsZip g7 z TI TO (rawInt g5.objs.size)) b7=>lI z7 (by simp) fun g8 (z8:IsZip g8 z TI TO (rawInt g5.objs.size)) b8=>ak ⟨_,rfl,?_⟩)
 have up:∀c o,c≠z->g5.get? c=some o->g8.get? c=some o:=fun c o n e=>b8.extBut _ _ n (b7.extBut _ _ n (aT _ e));have t8:IsPair g8 g5.objs.size x y:=b8.extBut _ _ nz (b7.extBut _ _ nz (cu _ rfl))
 change R (.ref g5.objs.size) _
 rw[size]at z8 t8 ⊢;exact q g8 z8 (up _ _ D.TOz QQ) (ki v1 fun o e=>up _ o D.i1z e) (ki v2 fun o e=>up _ o D.i2z e) t8 fun c o n0 n1 n2 n3 e=>up c o n0 (all c o n0 n1 n2 n3 e)
theorem XI {R:PySem.Fin->Shared->Prop} (hh:B.handled=none) (D:ZipApart z TI TO i1 i2 l1 l2) (hz:IsZip s.heap z TI TO .none) (pi:IsPair s.heap TI (.ref i1) (.ref i2)) (po:IsPair s.heap TO a b) (t1:IsTupIter s.heap i1 l1 k) (t2:IsTupIter s.heap i2 l2 k) (h1:IsTup s.heap l1 xs) (h2:IsTup s.heap l2 ys) (vK:xs[k]? = none\/ys[k]? = none)
  (q:∀g e,(∀c o,c≠z->c≠TO->c≠i1->c≠i2->s.heap.get? c=some o->g.get? c=some o)->(∃o,g.get? e=some o/\o.cls = .type "StopIteration")->E (.ref e) { s with heap:=g }) :
  wpAny (model P w) B (Builtin.«zip.__next__» ⟨[.ref z],[]⟩) R E s:=by
 refine ae (m:=field (.ref z) 2) (dX hz rfl (x:= .bool false) rfl (ae (m:=field (.ref z) 3) (dX hz rfl (x:= .ref TI) rfl (ae (nP pi rfl (ae (m:=Builtin.SmallTypes.ownedTupleIsFree (.ref z)) ?_))))));unfold Builtin.SmallTypes.ownedTupleIsFree;refine ae (dX hz rfl (x:= .none) rfl (ak ?_));simp only[nN];refine ae (lF (ae (dX hz rfl (x:= .ref TO) rfl (ae (lI hz (by simp) fun g1 (z1:IsZip g1 z TI TO .ellipsis) b1=>ae ?_)))))
 simp only[UK,UL,Kr,Ks];have e1:=b1.extBut;refine ae (ae (Dy (?_:wpAny _ _ (Builtin.SmallTypes.nextOf (.ref i1) >>= _) _ _ _)));cases hx:xs[k]? with
 |none =>
  refine ae (MJ (s:={ s with heap:=g1 }) hh (ki t1 fun o e=>e1 _ o D.i1z e) (vi h1 fun o e=>e1 _ o D.l1z e) hx fun g2 e b2 ⟨oe,he,hc⟩=>?_);have z2:IsZip g2 z TI TO .ellipsis:=b2 _ _ D.i1z.symm z1;have zx:e≠z:=fun n=>by subst n;rw[z2]at he;cases he;simp at hc
  exact lI z2 (by simp) fun g3 _ b3=>q g3 e (fun c o n0 _ n2 _ t=>b3.extBut _ _ n0 (b2 _ _ n2 (e1 _ _ n0 t))) ⟨oe,b3.extBut _ _ zx he,hc⟩
 |some x =>
  have hy:ys[k]? = none:=vK.elim (fun n=>by rw[hx]at n;cases n) id
  refine ae (EA (s:={ s with heap:=g1 }) (ki t1 fun o e=>e1 _ o D.i1z e) (vi h1 fun o e=>e1 _ o D.l1z e) hx fun g2 u1 b2=>ak ?_);have e2:=b2.extBut;have zw:IsPair g2 TO a b:=e2 _ _ D.TOi1 (e1 _ _ D.TOz po);refine ae (nP zw rfl (ae (UM zw fun g3 QO b3=>ae (KJ (ak ?_)))));have e3:=b3.extBut;refine ae (ae (Dy (?_:wpAny _ _ (Builtin.SmallTypes.nextOf (.ref i2) >>= _) _ _ _)));refine ae (MJ (s:={ s with heap:=g3 }) hh (ki t2 fun o e=>e3 _ o D.TOi2.symm (e2 _ o D.i12.symm (e1 _ o D.i2z e))) (vi h2 fun o e=>e3 _ o D.l2TO (e2 _ o D.l2i1 (e1 _ o D.l2z e))) hy fun g4 e b4 ⟨oe,he,hc⟩=>?_);have z4:IsZip g4 z TI TO .ellipsis:=b4 _ _ D.i2z.symm (e3 _ _ D.TOz.symm (e2 _ _ D.i1z.symm z1));have zx:e≠z:=fun n=>by subst n;rw[z4]at he;cases he;simp at hc
  exact lI z4 (by simp) fun g5 _ b5=>q g5 e (fun c o n0 n1 n2 n3 t=>b5.extBut _ _ n0 (b4 _ _ n3 (e3 _ _ n1 (e2 _ _ n2 (e1 _ _ n0 t))))) ⟨oe,b5.extBut _ _ zx he,hc⟩
theorem V7 {R:Option Value->Shared->Prop} (D:ZipApart z TI TO i1 i2 l1 l2) (hz:IsZip s.heap z TI TO .none) (pi:IsPair s.heap TI (.ref i1) (.ref i2)) (po:IsPair s.heap TO a b) (t1:IsTupIter s.heap i1 l1 k) (t2:IsTupIter s.heap i2 l2 k) (h1:IsTup s.heap l1 xs) (h2:IsTup s.heap l2 ys) (hx:xs[k]? = some x) (hy:ys[k]? = some y)
  (q:∀g,IsZip g z TI TO (rawInt s.heap.objs.size)->IsPair g TO x y->IsTupIter g i1 l1 (k+1)->IsTupIter g i2 l2 (k+1)->IsPair g s.heap.objs.size x y->(∀c o,c≠z->c≠TO->c≠i1->c≠i2->s.heap.get? c=some o->g.get? c=some o)->R (some (.ref s.heap.objs.size)) { s with heap:=g }) :
  wpAny (model P w) B (pyNext (.ref z)) R E s:=by
 have ty:s.TypeIs (.ref z) "zip" :=⟨_,hz,rfl⟩;unfold pyNext;exact ae (xj (qH (name:=Str.ofString "__next__") ty Aw (jP Aw ty UN (WQ D hz pi po t1 t2 h1 h2 hx hy fun g a1 a2 a3 a4 a5 a6=>ak (q g a1 a2 a3 a4 a5 a6)) (UO _))))
theorem WR {R:Option Value->Shared->Prop} (hh:B.handled=none) (D:ZipApart z TI TO i1 i2 l1 l2) (hz:IsZip s.heap z TI TO .none) (pi:IsPair s.heap TI (.ref i1) (.ref i2)) (po:IsPair s.heap TO a b) (t1:IsTupIter s.heap i1 l1 k) (t2:IsTupIter s.heap i2 l2 k) (h1:IsTup s.heap l1 xs) (h2:IsTup s.heap l2 ys) (vK:xs[k]? = none\/ys[k]? = none)
  (q:∀g,(∀c o,c≠z->c≠TO->c≠i1->c≠i2->s.heap.get? c=some o->g.get? c=some o)->R none { s with heap:=g }):wpAny (model P w) B (pyNext (.ref z)) R E s:=by
 have ty:s.TypeIs (.ref z) "zip" :=⟨_,hz,rfl⟩;unfold pyNext;refine ae (xj (qH (name:=Str.ofString "__next__") ty Aw (jP Aw ty UN (XI hh D hz pi po t1 t2 h1 h2 vK fun g e kp ⟨o,ho,hc⟩=>?_) (UO _))));exact ae (Dw (T:= "StopIteration") (b:=true) ⟨o,ho,hc⟩ KU (ak (q _ kp)))
end
abbrev nG (t:Addr):Obj:={ cls:= .type "tuple_iterator",data:= .fields #[.ref t,.int 0 0] }
abbrev Cv (h:Heap) (l1 l2:Addr):Heap:=((h.push (nG l1)).push (nG l2)).push { cls:= .type "tuple",data:= .seq #[.ref h.objs.size,.ref (h.push (nG l1)).objs.size] }
abbrev Cw (h:Heap) (l1 l2:Addr):Heap:=(Cv h l1 l2).push { cls:= .type "tuple",data:= .seq #[.none,.none] }
abbrev wL (h:Heap) (l1 l2:Addr):Heap:=(Cw h l1 l2).push { cls:= .type "zip",data:= .fields #[.none,.bool false,.bool false,.ref ((h.push (nG l1)).push (nG l2)).objs.size,.ref (Cv h l1 l2).objs.size] }
theorem XJ (l1 l2:Addr) (xs ys:Array Value) :
  Meets (Builtin.«zip.__new__» ⟨[.type "zip",.ref l1,.ref l2],[]⟩) (fun _ R s=>IsTup s.heap l1 xs/\IsTup s.heap l2 ys/\R (.ok (.ret (.ref (Cw s.heap l1 l2).objs.size))) { s with heap:=wL s.heap l1 l2 }):=
 .of_wp fun P w B R s h=>by
  obtain⟨hp,g,d,tk,os⟩:=s;obtain⟨h1,h2,h⟩:=h;have sub:=sub_zip;have p1:IsTup (Shared.heap ⟨hp,g,d,tk,os⟩) l1 xs:=h1;have p2:IsTup (Shared.heap ⟨hp.push { cls:= .type "tuple_iterator",data:= .fields #[.ref l1,.int 0 0] },g,d,tk,os⟩) l2 ys:=vi h2 fun o e=>aT _ e
  wp_walk using iter_tuple p1,iter_tuple p2
  exact⟨_,rfl,h⟩
theorem WS {B:Around}{E:Value->Shared->Prop}{xs ys:Array Value}{R:Value->Shared->Prop} (h1:IsTup s.heap l1 xs) (h2:IsTup s.heap l2 ys)
  (q:∀g,IsZip g (s.heap.objs.size+4) (s.heap.objs.size+2) (s.heap.objs.size+3) .none->IsPair g (s.heap.objs.size+2) (.ref s.heap.objs.size) (.ref (s.heap.objs.size+1))->IsPair g (s.heap.objs.size+3) .none .none->IsTupIter g s.heap.objs.size l1 0->IsTupIter g (s.heap.objs.size+1) l2 0 ->
   (∀c o,s.heap.get? c=some o->g.get? c=some o)->R (.ref (s.heap.objs.size+4)) { s with heap:=g }):wpAny (model P w) B (call (.type "zip") [.ref l1,.ref l2]) R E s:=by
 refine callType_new F.called_zip (by decide) (F.typeCall_zip_2 _ _) (F.newCall_zip_2 _ _) (fun obj=>F.args_object_init_3 obj _ _) F.entry_zip_new (XJ l1 l2 xs ys) ⟨h1,h2,?_⟩
 have s1:(s.heap.push (nG l1)).objs.size=s.heap.objs.size+1:=lH ..;have s2:((s.heap.push (nG l1)).push (nG l2)).objs.size=s.heap.objs.size+2:=by rw[lH,s1]
 have s3:(Cv s.heap l1 l2).objs.size=s.heap.objs.size+3:=by rw[lH,s2]
 have s4:(Cw s.heap l1 l2).objs.size=s.heap.objs.size+4:=by rw[lH,s3]
 have wM:(wL s.heap l1 l2).get? (Cw s.heap l1 l2).objs.size=some _:=cu _ rfl;have QR:(wL s.heap l1 l2).get? (Cv s.heap l1 l2).objs.size=some _:=aT _ (cu _ rfl);have y4:(wL s.heap l1 l2).get? ((s.heap.push (nG l1)).push (nG l2)).objs.size=some _:=aT _ (aT _ (cu _ rfl));have at2:(wL s.heap l1 l2).get? (s.heap.push (nG l1)).objs.size=some _:=aT _ (aT _ (aT _ (cu _ rfl)));have eI:(wL s.heap l1 l2).get? s.heap.objs.size=some _:=aT _ (aT _ (aT _ (aT _ (cu _ rfl))))
 change _/\_
 rw[s2,s3,s4]at wM;rw[s1,s2]at y4;rw[s3]at QR;rw[s1]at at2;rw[s4];exact⟨⟨_,wM,rfl⟩,q _ wM y4 QR ⟨_,eI,rfl,rfl⟩ ⟨_,at2,rfl,rfl⟩ fun c o e=>aT _ (aT _ (aT _ (aT _ (aT _ e))))⟩
end HT
namespace L2
open PySem PySem.Spec PyProof.Rows PySem.W HT
def Iw (K:Frag) (l1 l2:Addr):It:=
  ⟨fun i H=>∃xs ys x y,aC K H l1 xs/\aC K H l2 ys/\xs[i]? = some x/\ys[i]? = some y,
   fun i H v H'=>∃t x y,H t=none/\v = .ref t/\(∀xs,aC K H l1 xs->xs[i]? = some x)/\(∀ys,aC K H l2 ys->ys[i]? = some y)/\H'=upd H t (.tup [x,y]),
   fun i H=>∃xs ys,aC K H l1 xs/\aC K H l2 ys/\(xs.length<=i\/ys.length<=i)⟩
theorem WT {TI TO:Addr} (D:ZipApart z TI TO i1 i2 l1 l2) :
  Turn P w K (.Tuple elts n1 tp) (Iw K l1 l2) [z,TI,TO,i1,i2] z (fun i h=>IsZip h z TI TO .none/\IsPair h TI (.ref i1) (.ref i2)/\(∃a b,IsPair h TO a b)/\IsTupIter h i1 l1 i/\IsTupIter h i2 l2 i) where
 mem:=by simp
 obj:=fun i h st b hb=>by
  obtain⟨hz,iB,⟨a,b',jh⟩,⟨o1,e1,c1,d1⟩,⟨o2,e2,c2,d2⟩⟩:=st;simp only[aY,jq,jr]at hb;rcases hb with rfl|rfl|rfl|rfl|rfl
  ·exact⟨_,hz,fun v q=>by cases q⟩
  ·exact⟨_,iB,fun v q=>by cases q⟩
  ·exact⟨_,jh,fun v q=>by cases q⟩
  ·exact⟨o1,e1,fun v q=>by rw[d1]at q;cases q⟩
  ·exact⟨o2,e2,fun v q=>by rw[d2]at q;cases q⟩
 keep:=fun i h h' st k=>by
  obtain⟨hz,iB,⟨a,b,jh⟩,t1,t2⟩:=st;exact⟨k z (by simp) _ hz,k TI (by simp) _ iB,⟨a,b,k TO (by simp) _ jh⟩,ki t1 fun o e=>k i1 (by simp) o e,ki t2 fun o e=>k i2 (by simp) o e⟩
 item:=by
  intro X hP hw hK hc i pins s σ H E I hf st hg;subst hP hw hK;obtain⟨xs,ys,x,y,hV,iy,hx,hy⟩:=hg;obtain⟨yy,qo,p1,_⟩:=I.tuple hV;obtain⟨oj,qp,p2,_⟩:=I.tuple iy;obtain⟨u1,ck,ud⟩:=qo.get hx;obtain⟨u2,Iy,ue⟩:=qp.get hy;obtain⟨hz,iB,⟨a,b,jh⟩,t1,t2⟩:=st;refine V7 D hz iB jh t1 t2 p1 p2 (by simpa using ck) (by simpa using Iy) fun g gz Iz IA IB gp kp=>⟨_,rfl,?_⟩
  refine aku (s:={ s with heap:=g }) gz fun gD z2 sb=>?_;have lt:∀ {c:Addr}{o:Obj},s.heap.get? c=some o->c≠s.heap.objs.size:=fun e=>bp (aV e);have k2:∀c o,c≠z->c≠TO->c≠i1->c≠i2->s.heap.get? c=some o->gD.get? c=some o:=fun c o n0 n1 n2 n3 e=>(sb.2 c n0).trans (kp c o n0 n1 n2 n3 e);have hn:H s.heap.objs.size=none:=I.ar.fresh (aR _);have tz:s.heap.objs.size≠z:=aO (lt hz);have t3:gD.get? s.heap.objs.size=some { cls:= .type "tuple",data:= .seq #[u1,u2] }:=(sb.2 _ tz).trans gp;have fz:=hf z (by simp)
  have fO:=hf TO (by simp)
  have f1:=hf i1 (by simp)
  have f2:=hf i2 (by simp)
  have fU:∀ {c:Addr}{o:HO},H c=some o->c≠z/\c≠TO/\c≠i1/\c≠i2:=fun q=>⟨fun n=>(by rw[n,fz.1]at q;cases q),fun n=>(by rw[n,fO.1]at q;cases q),fun n=>(by rw[n,f1.1]at q;cases q),fun n=>(by rw[n,f2.1]at q;cases q)⟩
  have dv:∀ {c:Addr},c ∉ [z,TO,i1,i2]->c≠z/\c≠TO/\c≠i1/\c≠i2:=fun hc=>by simpa using hc
  have J:Inv X pins σ (upd H s.heap.objs.size (.tup [x,y])) { s with heap:=gD }:=by
   refine I.step (g':=s.gens) (d':=s.drawn) (t':=s.toks) (ch:= [z,TO,i1,i2]) (fun c hc=>?_) (fun c o _ _ hc q _=>let ⟨n0,n1,n2,n3⟩:=dv hc;k2 c o n0 n1 n2 n3 q) (fun c o _ _ hc q _=>let ⟨n0,n1,n2,n3⟩:=dv hc;⟨o.slots,k2 c o n0 n1 n2 n3 q⟩)
    (fun c o _ q n=>by rw[ah (lt q)];exact n) (fun c o hc q=>let ⟨n0,n1,n2,n3⟩:=dv hc;⟨o,k2 c o n0 n1 n2 n3 q⟩) (fun c vs q=>by rw[ah (ao q hn)];exact q) (fun c o v q=>by rw[ah (ao q hn)];exact q)
    (fun c ps q=>⟨#[],by rw[ah (ao q hn),q];simp⟩) (fun m hm=>?_) (fun c o q=>?_) I.bare
   ·have ok:∀ {d:Addr},gg X pins H d->(d∈X.ex\/X.cM.heap.objs.size<=d)/\d≠X.env.locals/\(∀x c,X.env.cells.lookup x=some c->c≠d) /\ ∀p∈X.pn++pins,p.1≠d:=fun f=>⟨f.2.2.2.1,f.2.1,f.2.2.2.2.1,f.2.2.2.2.2⟩
    simp only[aY,jq,jr]at hc;rcases hc with rfl|rfl|rfl|rfl
    ·exact ok fz
    ·exact ok fO
    ·exact ok f1
    ·exact ok f2
   ·obtain⟨o,es,ep,ho,r⟩:=hm
    exact⟨o,es,ep,k2 _ o (aO fz.2.1) (aO fO.2.1) (aO f1.2.1) (aO f2.2.1) ho,r⟩
   ·by_cases hb:c=s.heap.objs.size
    ·subst hb
     rw[ag]at q;cases q;exact⟨by rw[aN];show 2<=_;decide,[u1,u2],.cons ud (.cons ue .nil),_,t3,rfl,_,rfl,rfl⟩
    ·rw[ah hb]at q
     refine(I.ar c o q).gY (fun d v hd e=>?_) (fun d e=>by rw[ah (ao e hn)];exact e) fun d vs e=>by rw[ah (ao e hn)];exact e
     rcases hd with hd|hd
     ·subst hd
      obtain⟨n0,n1,n2,n3⟩:=fU q;exact k2 _ v n0 n1 n2 n3 e
     ·obtain⟨n0,n1,n2,n3⟩:=fU hd
      exact k2 d v n0 n1 n2 n3 e
  refine⟨.ref s.heap.objs.size,_,J,rfl,⟨s.heap.objs.size,x,y,hn,rfl,fun vs h=>by rw[I.D' h hV];exact hx,fun vs h=>by rw[I.D' h iy];exact hy,rfl⟩,⟨z2,k2 _ _ D.TIz D.TITO D.TIi1 D.TIi2 iB,⟨u1,u2,sb.extBut _ _ D.TOz Iz⟩,ki IA fun o e=>sb.extBut _ o D.i1z e,ki IB fun o e=>sb.extBut _ o D.i2z e⟩,fun c hc=>?_⟩
  have:c≠s.heap.objs.size:=by
   simp only[aY,jq,jr]at hc;rcases hc with rfl|rfl|rfl|rfl|rfl
   ·exact lt hz
   ·exact lt iB
   ·exact lt jh
   ·obtain⟨o,e,_⟩:=t1;exact lt e
   ·obtain⟨o,e,_⟩:=t2;exact lt e
  rw[ah this];exact(hf c hc).1
 done:=by
  intro X hP hw hK hc i pins s σ H E I hf st hg;subst hP hw hK;obtain⟨xs,ys,hV,iy,vK⟩:=hg;obtain⟨yy,qo,p1,_⟩:=I.tuple hV;obtain⟨oj,qp,p2,_⟩:=I.tuple iy;have e1:=qo.length;have e2:=qp.length;obtain⟨hz,iB,⟨a,b,jh⟩,t1,t2⟩:=st;have fz:=hf z (by simp)
  have fO:=hf TO (by simp)
  have f1:=hf i1 (by simp)
  have f2:=hf i2 (by simp)
  refine WR (I.ok.hd hc) D hz iB jh t1 t2 p1 p2 (vK.imp (fun h=>by simp;omega) (fun h=>by simp;omega)) fun g kp=>⟨rfl,?_⟩
  have fU:∀ {c:Addr}{o:HO},H c=some o->c≠z/\c≠TO/\c≠i1/\c≠i2:=fun q=>⟨fun n=>(by rw[n,fz.1]at q;cases q),fun n=>(by rw[n,fO.1]at q;cases q),fun n=>(by rw[n,f1.1]at q;cases q),fun n=>(by rw[n,f2.1]at q;cases q)⟩
  have dv:∀ {c:Addr},c ∉ [z,TO,i1,i2]->c≠z/\c≠TO/\c≠i1/\c≠i2:=fun hc=>by simpa using hc
  refine I.step (g':=s.gens) (d':=s.drawn) (t':=s.toks) (ch:= [z,TO,i1,i2]) (fun c hc=>?_) (fun c o _ _ hc q _=>let ⟨n0,n1,n2,n3⟩:=dv hc;kp c o n0 n1 n2 n3 q) (fun c o _ _ hc q _=>let ⟨n0,n1,n2,n3⟩:=dv hc;⟨o.slots,kp c o n0 n1 n2 n3 q⟩)
   (fun c o _ q n=>n) (fun c o hc q=>let ⟨n0,n1,n2,n3⟩:=dv hc;⟨o,kp c o n0 n1 n2 n3 q⟩) (fun c vs q=>q) (fun c o v q=>q) (fun c ps q=>⟨#[],by rw[q];simp⟩) (fun m hm=>?_) (fun c o q=>?_) I.bare
  ·have ok:∀ {d:Addr},gg X pins H d->(d∈X.ex\/X.cM.heap.objs.size<=d)/\d≠X.env.locals/\(∀x c,X.env.cells.lookup x=some c->c≠d) /\ ∀p∈X.pn++pins,p.1≠d:=fun f=>⟨f.2.2.2.1,f.2.1,f.2.2.2.2.1,f.2.2.2.2.2⟩
   simp only[aY,jq,jr]at hc;rcases hc with rfl|rfl|rfl|rfl
   ·exact ok fz
   ·exact ok fO
   ·exact ok f1
   ·exact ok f2
  ·obtain⟨o,es,ep,ho,r⟩:=hm
   exact⟨o,es,ep,kp _ o (aO fz.2.1) (aO fO.2.1) (aO f1.2.1) (aO f2.2.1) ho,r⟩
  ·refine(I.ar c o q).gY (fun d v hd e=>?_) (fun d e=>e) fun d vs e=>e
   rcases hd with hd|hd
   ·subst hd
    obtain⟨n0,n1,n2,n3⟩:=fU q;exact kp _ v n0 n1 n2 n3 e
   ·obtain⟨n0,n1,n2,n3⟩:=fU hd
    exact kp d v n0 n1 n2 n3 e
 self:=fun _ _ _ _ _ st h=>KZ st.1 h
def aaB (K:Frag) (ta:TA):TI:=fun σ H R=>ta σ H fun vs H1=>∃a b,vs = [.ref a,.ref b]/\(∃xs,aC K H1 a xs)/\(∃ys,aC K H1 b ys)/\R (Iw K a b) H1
theorem YH {a b:Expr}{ta:TA}{p:Pos} (hg:Gl X "zip") (hm:X.mg "zip" = none) (ha:PA X [a,b] ta) (he:starEach [a,b] X.env=(false,eval a X.env)::starEach [b] X.env:=by rfl) (dk:(backTo pos (starEach [b] X.env)).any (·.1)=false:=by rfl) :
  PI X (.Tuple elts n1 tp) (.Call (.Name "zip" p) [a,b] [] pos) (aaB X.K ta):=by
 intro pins s σ H R I h;refine sg (sJ I hg hm (show bootBuiltins "zip" = some (.type "zip") by decide +kernel) ?_)
 refine Dj (aE (ha pos pins s σ H _ I h) fun us s1 hQ9=>?_) he dk;obtain⟨vs,H1,I1,r1,q1⟩:=hQ9;obtain⟨l1,l2,e,⟨xs,hV⟩,⟨ys,iy⟩,q⟩:=q1;subst e;obtain⟨u1,u2,rfl,ud,ue⟩:=r1.two;cases ud
 cases ue
 obtain⟨yy,qo,p1,_⟩:=I1.tuple hV;obtain⟨oj,qp,p2,_⟩:=I1.tuple iy;have nE:(l1:Nat) < s1.heap.objs.size:=by obtain⟨o,e,_⟩:=p1;exact aV e
 have IC:(l2:Nat) < s1.heap.objs.size:=by obtain⟨o,e,_⟩:=p2;exact aV e
 refine WS p1 p2 fun g gz gi go g1 g2 kp=>?_;refine KZ (s:={ s1 with heap:=g }) gz ?_;refine⟨s1.heap.objs.size+4,[s1.heap.objs.size+4,s1.heap.objs.size+2,s1.heap.objs.size+3,s1.heap.objs.size,s1.heap.objs.size+1],_,_,H1,rfl,I1.kept (t':=s1.toks) kp,WT (zipApart_new nE IC),⟨gz,gi,⟨_,_,go⟩,g1,g2⟩,fun c hc=>?_,q⟩;have le:s1.heap.objs.size<=c:=by
  simp only[aY,jq,jr]at hc;rcases hc with rfl|rfl|rfl|rfl|rfl
  ·exact sr _ _
  ·exact sr _ _
  ·exact sr _ _
  ·exact aR _
  ·exact sr _ _
 exact I1.jD le (I1.ar.fresh le)
theorem WU {xs:List V}{g:TG} (n:Nat) (hn:n=min xs.length ys.length) (Pv:Nat->List V->St->Hp->Prop) (h0:Pv 0 [] jf (upd H1 p (.lst []))) (hl:∀i zs τ H,Pv i zs τ H->H p=some (.lst zs)/\aC K H a xs/\aC K H b ys)
  (hs:∀i x y zs τ H t,xs[i]? = some x->ys[i]? = some y->Pv i zs τ H->H t=none->g (.ref t) τ (upd H t (.tup [x,y])) fun cJ H4=>ti cJ H4 fun c H5=>if c=true then te cJ H5 fun v H6=>H6 p=some (.lst zs)/\zs.length < sizeLine /\ ∃m',m' < n - i/\CW Pv n (i+1) m' (zs ++ [v]) cJ (upd H6 p (.lst (zs ++ [v]))) else ∃m',m' < n - i/\CW Pv n (i+1) m' zs cJ H5)
  (hd:∀zs τ H,Pv n zs τ H->Q (.ref p) H):jz (Iw K a b) g ti te jf Q p H1:=by
 refine⟨CW Pv n,⟨n,by simp,bG _,h0⟩,?_⟩
 rintro i m zs τ H ⟨rfl,hi,pv⟩;obtain⟨hp,hV,iy⟩:=hl i zs τ H pv;refine⟨hp,?_⟩
 by_cases aS:i < n
 ·have l1:i < xs.length:=by omega
  have l2:i < ys.length:=by omega
  refine .inr ⟨⟨xs,ys,xs[i],ys[i],hV,iy,by simp[l1],by simp[l2]⟩,fun v H3 y3=>?_⟩
  obtain⟨t,x,y,ht,rfl,ex,ey,rfl⟩:=y3;exact hs i x y zs τ H t (ex xs hV) (ey ys iy) pv ht
 ·have e:i=n:=by omega
  subst e;exact .inl ⟨⟨xs,ys,hV,iy,by omega⟩,hd zs τ H pv⟩
theorem AG (x:h.IsListIter it t i) (k:∀o,h.get? it=some o->g.get? it=some o):g.IsListIter it t i:=let ⟨o,e,r⟩:=x;⟨o,k o e,r⟩
end L2
namespace L2
open PySem PySem.Spec PyProof.Rows PySem.W
def gM (h:Heap) (a:Addr) (v:Value):Prop:= ∃o vs,h.get? a=some o/\o.data = .fields vs/\vs[2]? = some v
theorem gM.keep {v:Value} (l:gM h a v) (k:∀o,h.get? a=some o->h'.get? a=some o):gM h' a v:=let ⟨o,vs,e,r⟩:=l;⟨o,vs,k o e,r⟩
theorem gM.lt {v:Value} (l:gM h a v):a < h.objs.size:=let ⟨_,_,e,_⟩:=l;aV e
def iV (h:Heap) (x:Option Value):Prop:=x=none \/ ∃a,x=some (.ref a)/\(gM h a .none \/ ∃c,gM h a (.ref c)/\c≠a/\gM h c .none)
theorem iV.keep {x:Option Value} (t:iV h x) (k:∀b v,gM h b v->gM h' b v):iV h' x:=by
 rcases t with rfl|⟨a,rfl,l|⟨c,l,n,m⟩⟩
 ·exact .inl rfl
 ·exact .inr ⟨a,rfl,.inl (k _ _ l)⟩
 ·exact .inr ⟨a,rfl,.inr ⟨c,k _ _ l,n,k _ _ m⟩⟩
section
variable{E:Value->Shared->Prop}{α:Type}
theorem V8 {e:Addr}{vs:Array Value}{Q:α->Shared->Prop} (t:iV s.heap A.handled) (eo:s.heap.get? e=some o) (ed:o.data = .fields vs) (e2:2 < vs.size) (new:∀a,A.handled=some (.ref a)->a≠e /\ ¬ gM s.heap a (.ref e))
  (q:∀h',(∀b,b≠e->h'.get? b=s.heap.get? b)->(∃o',h'.get? e=some o'/\o'.cls=o.cls)->E (.ref e) { s with heap:=h' }):wpAny (model P w) A (raiseNew (.ref e):Sem α) Q E s:=by
 unfold raiseNew;refine ae (KQ ?_);have fin:∀a,wpAny (model P w) A (do updateField e 2 (.ref a);(throw (Value.ref e):Sem α)) Q E s:=fun a=>by
  refine ae (show wpAny _ _ (setField (.ref e) 2 (.ref a)) _ _ _ from sq eo ed e2 (uy (q _ (fun b hb=>jm _ _ (aO hb)) ⟨_,nO _ eo (Ul (Ds ed _)),Obj.cls_mapFields ..⟩)))
 rcases t with t|⟨a,t,l⟩
 ·rw[t]
  exact ae (ak (uy (q s.heap (fun b _=>rfl) ⟨o,eo,rfl⟩)))
 ·obtain⟨nae,nlk⟩:=new a t
  rw[t];show wpAny _ _ (if (Value.ref a != Value.ref e)=true then _ else _) _ _ _;rw[aB (show(Value.ref a != Value.ref e)=true by simp;exact nae)]
  refine ae (eM (Ar (jo DH ?_)));unfold Builtin.«proto.unchain»;rcases l with⟨oa,va,ha,da,xa⟩|⟨c,⟨oa,va,ha,da,xa⟩,ID,oc,vc,hc,dc,xc⟩
  ·refine ae (dX ha da xa ?_)
   rw[aB (show(Value.none==Value.none)=true by decide)]
   refine ae (ak (ak ?_));exact fin a
  ·refine ae (dX ha da xa ?_)
   have nce:c≠e:=fun z=>nlk ⟨oa,va,ha,da,by rw[xa,z]⟩
   rw[au (show ¬ (Value.ref c==Value.none)=true from de)];rw[au (show ¬ (Value.ref c==Value.ref e)=true by simp;exact nce),au (show ¬ (Value.ref c==Value.ref a)=true by simp;exact ID)]
   refine ae (ak (ak ⟨Ku _ (by decide +kernel),jo DH ?_⟩))
   unfold Builtin.«proto.unchain»;refine ae (dX hc dc xc ?_);rw[aB (show(Value.none==Value.none)=true by decide)]
   refine ae (ak (ak ?_));exact fin a
theorem Mo {Q:α->Shared->Prop} (t:iV s.heap A.handled) (q:∀h' e,(∀b o,s.heap.get? b=some o->h'.get? b=some o)->(∃o,h'.get? e=some o/\o.cls = .type "StopIteration")->E (.ref e) { s with heap:=h' }) :
  wpAny (model P w) A (newExc (.type "StopIteration") [] >>= fun e=>(raiseNew e:Sem α)) Q E s:=by
 refine ae ?_;simp only[newExc,newTuple];refine ae (jl ?_ (by size_fits))
 refine ae (m:=firstArgMember _ _) (KP (a:=Value.none) (by first|rfl|(simp only[firstArgMember];rfl)) ?_)
 refine jl ?_ (by size_fits)
 generalize eh:s.heap.push _=h1;have k1:∀b o,s.heap.get? b=some o->h1.get? b=some o:=fun b o z=>by rw[<-eh];exact aT _ z
 generalize eo:(Obj.mk _ _ _ _:Obj)=ob;have k2:∀b o,s.heap.get? b=some o->(h1.push ob).get? b=some o:=fun b o z=>aT _ (k1 b o z);have eI:(h1.push ob).get? h1.objs.size=some ob:=cu _ (by rw[<-eo];rfl)
 have ne:∀b o,s.heap.get? b=some o->b≠h1.objs.size:=fun b o z=>bp (aV (k1 b o z));refine V8 (o:=ob) (vs:=_) (t.keep fun b v l=>l.keep fun o z=>k2 b o z) eI (by rw[<-eo]) (by simp[ownMembersOf]) (fun a ha=>?_) fun h' ot ⟨o',e',c'⟩=>?_
 ·have la:∃v,gM s.heap a v:=by
   rcases t with t|⟨a',t,l⟩
   ·rw[t]at ha;cases ha
   ·rw[t]at ha;cases ha
    rcases l with l|⟨c,l,_⟩
    ·exact⟨_,l⟩
    ·exact⟨_,l⟩
  obtain⟨v,o,vs,e,d,x⟩:=la;refine⟨ne a o e,fun hQ9=>?_⟩;obtain⟨o2,vs2,e2,d2,x2⟩:=hQ9;rw[k2 a o e]at e2;cases e2;rw[d]at d2;cases d2;rw[x]at x2;rcases t with t|⟨a',t,l⟩
  ·rw[t]at ha;cases ha
  ·rw[t]at ha;cases ha
   rcases l with⟨o3,v3,e3,d3,x3⟩|⟨c,⟨o3,v3,e3,d3,x3⟩,_,lc⟩
   ·rw[e]at e3;cases e3
    rw[d]at d3;cases d3;rw[x]at x3;cases x3;cases x2
   ·rw[e]at e3;cases e3
    rw[d]at d3;cases d3;rw[x]at x3;cases x3;cases x2;exact absurd rfl (bp (gV lc.lt (by rw[<-eh,lH];exact lG _)))
 ·refine q h' _ (fun b o z=>(ot b (ne b o z)).trans (k2 b o z)) ⟨o',e',c'.trans (by rw[<-eo])⟩
theorem XM {v:Value}{f:Obj->Obj} (l:gM h b v) (n:b≠it):gM (h.update it f) b v:=l.keep fun o e=>(jm _ _ (aO n)).trans e
theorem iV.upd {x:Option Value}{f:Obj->Obj} (t:iV h x) (n:∀b v,gM h b v->b≠it):iV (h.update it f) x:=t.keep fun b v l=>XM l (n b v l)
theorem two_fields {x y:Value} (ho:h.get? it=some o) (hd:o.data = .fields #[x,y]):∀b v,gM h b v->b≠it:=fun b v ⟨o2,vs,e,d,x2⟩ z=>by
 rw[z,ho]at e;cases e;rw[hd]at d;cases d;cases x2
theorem MZ (a:Addr) : ¬ ((Value.ref a==Value.none)=true):=de
theorem WV {Q:Value->Shared->Prop} (t:iV s.heap A.handled) (hit:s.heap.IsListIter it l i) (hl:s.heap.IsList l items) (hx:items[i]? = none)
  (q:∀h' e,Heap.ExtBut it s.heap h'->(∃o,h'.get? e=some o/\o.cls = .type "StopIteration")->E (.ref e) { s with heap:=h' }):wpAny (model P w) A (Builtin.SmallTypes.nextOf (.ref it)) Q E s:=by
 have ty:=hit.typeIs;obtain⟨o,ho,_,hd⟩:=hit;obtain⟨_,g1,_,_,g2⟩:=hl;have nl:=two_fields ho hd;unfold Builtin.SmallTypes.nextOf;refine ae (qH (name:=Str.ofString "__next__") ty slot_listiter_next (jP slot_listiter_next ty entry_listiter_next (show wpAny _ _ (field (.ref it) 0 >>= _) _ _ s from ?_) (args_listiter_next _)));refine ae (dX ho hd (x:= .ref l) rfl (show wpAny _ _ (if (Value.ref l==Value.none)=true then _ else _) _ _ s from ?_));rw[au (MZ l)];refine ae (m:=field (.ref it) 1) (dX ho hd (x:= .int i 0) rfl (ae (m:=seqItems? (.ref l)) (nP g1 g2 ?_)));simp only[oY,hx];refine ae (lF (ae (sq ho hd (by simp) ?_)))
 refine Mo (A:=A.in1) (t.upd nl) fun h' e k st=>?_;exact q h' e (fun b ob n z=>k b ob ((jm _ _ (aO n)).trans z)) st
theorem XN {Q:Option Value->Shared->Prop} (tl:iV s.heap A.handled) (hit:IsTupIter s.heap it t i) (ht:IsTup s.heap t items) (hx:items[i]? = none)
  (q:∀h',Heap.ExtBut it s.heap h'->Q none { s with heap:=h' }):wpAny (model P w) A (pyNext (.ref it)) Q E s:=by
 have ty:=hit.typeIs;obtain⟨o,ho,_,hd⟩:=hit;obtain⟨_,g1,_,_,g2⟩:=ht;have nl:=two_fields ho hd;unfold pyNext;refine ae (xj (qH (name:=Str.ofString "__next__") ty Ao (jP Ao ty Uj (show wpAny _ _ (field (.ref it) 0 >>= _) _ _ s from ?_) (Uk _))));refine ae (dX ho hd (x:= .ref t) rfl (show wpAny _ _ (if (Value.ref t==Value.none)=true then _ else _) _ _ s from ?_));rw[au (MZ t)];refine ae (m:=field (.ref it) 1) (dX ho hd (x:= .int i 0) rfl (ae (m:=seqItems? (.ref t)) (nP g1 g2 ?_)));simp only[oY,hx];refine ae (lF (ae (sq ho hd (by simp) ?_)))
 refine Mo (A:=A.in1) (tl.upd nl) fun h' e k st=>?_;exact ae (Dw (T:= "StopIteration") (b:=true) st KU (ak (q h' fun b ob n z=>k b ob ((jm _ _ (aO n)).trans z))))
theorem YI {k:Nat}{Q:Unit->Shared->Prop} (tl:iV s.heap A.handled) (ht:IsTup s.heap t items)
  (hn:(assignEach elts env).length=items.size) (hs:(assignEach elts env).findIdx? (·.1)=none)
  (q:∀h',Heap.ExtBut s.heap.objs.size s.heap h'->wpAny (model P w) A (assignInOrder ((assignEach elts env).map (·.2)) items.toList) Q E { s with heap:=h' }) :
  wpAny (model P w) A (assign (.Tuple elts k pos) env (.ref t)) Q E s:=by
 have nt:t≠s.heap.objs.size:=let ⟨_,g,_⟩:=ht;bp (aV g);rw[assign_Tuple];refine ae (qE ?_);unfold unpack;rw[hn,hs];refine ae (eM ?_);unfold unpackItems notIterableAtAll;refine ae (ae (Ui ht.typeIs slot_tuple_iter.lookup (ak ?_)));simp only[Ai,si];refine ae (eM (iter_tuple ht (ae (eM (draw_tuple nt items.size 0 _ _ ⟨_,cu _ rfl,rfl,rfl⟩ (ht.push _) (Nat.le_of_eq (Nat.zero_add _)) fun h1 i1 s1=>?_)))));rw[au (by simp)]
 have al:(items.toList.drop 0).take items.size=items.toList:=K0 (by simp)
 have lk:∀b v,gM s.heap b v->gM h1 b v:=fun b v l=>l.keep fun o e=>(s1.2 b (bp (aV e))).trans (aT _ e);refine ae (eM (XN (s:={ s with heap:=h1 }) (tl.keep lk) i1 ((ht.push _).extBut s1.extBut nt) (by simp) fun h2 x2=>?_))
 simp only[Option.isSome_none,Ai,si];rw[al];exact ak (q h2 fun b o hb e=>x2 b o hb (s1.extBut b o hb (aT _ e)))
end
theorem iV.aaC {x:Option Value} (t:iV h x) (k:∀b v,v ≠ .bool false->gM h b v->gM h' b v):iV h' x:=by
 rcases t with rfl|⟨a,rfl,l|⟨c,l,n,m⟩⟩
 ·exact .inl rfl
 ·exact .inr ⟨a,rfl,.inl (k _ _ (fun z=>by cases z) l)⟩
 ·exact .inr ⟨a,rfl,.inr ⟨c,k _ _ (fun z=>by cases z) l,n,k _ _ (fun z=>by cases z) m⟩⟩
section
variable{E:Value->Shared->Prop}
theorem XO {TI TO:Addr}{k:Nat}{xs:Array Value}{Q:Option Value->Shared->Prop} (t:iV s.heap A.handled) (D:ZipApart z TI TO i1 i2 l1 l2) (hz:IsZip s.heap z TI TO .none) (hI:IsPair s.heap TI (.ref i1) (.ref i2))
  (h1:s.heap.IsListIter i1 l1 k) (hl:s.heap.IsList l1 xs) (hx:xs[k]? = none) (q:∀h',(∀c o,c≠z->c≠i1->s.heap.get? c=some o->h'.get? c=some o)->Q none { s with heap:=h' }) :
  wpAny (model P w) A (pyNext (.ref z)) Q E s:=by
 have ty:s.TypeIs (.ref z) "zip" :=⟨_,hz,rfl⟩;have end_:∀h' e,(∀c o,c≠z->c≠i1->s.heap.get? c=some o->h'.get? c=some o)->(∃o,h'.get? e=some o/\o.cls = .type "StopIteration")->wpAny (model P w) A (isInstance (.ref e) (.type "StopIteration") >>= fun b=>if b=true then pure none else throw (.ref e)) Q E { s with heap:=h' }:=fun h' e kp st =>
  ae (Dw (T:= "StopIteration") (b:=true) st KU (ak (q h' kp)))
 unfold pyNext;refine ae (xj (qH (name:=Str.ofString "__next__") ty Aw (jP Aw ty UN ?_ (UO _))));refine ae (m:=field (.ref z) 2) (dX hz rfl (x:= .bool false) rfl ?_);refine ae (m:=field (.ref z) 3) (dX hz rfl (x:= .ref TI) rfl (ae (nP hI rfl ?_)));refine ae (m:=Builtin.SmallTypes.ownedTupleIsFree (.ref z)) ?_;unfold Builtin.SmallTypes.ownedTupleIsFree;refine ae (dX hz rfl (x:= .none) rfl (ak ?_));simp only[nN];refine ae (lF (ae (dX hz rfl (x:= .ref TO) rfl (ae (lI hz (by simp) fun g1 gz s1=>?_)))))
 replace gz:IsZip g1 z TI TO .ellipsis:=gz;refine ae ?_;simp only[UK,UL,Kr,Ks];refine ae (ae (Dy ?_));have t1:iV g1 A.handled:=t.aaC fun b v nv l=>l.keep fun o e=>(s1.2 b fun zz=>nv (by
  obtain⟨o2,vs,e2,d2,x2⟩:=l;rw[zz,hz]at e2;cases e2;cases d2;cases x2;rfl)).trans e
 refine ae (m:=Builtin.SmallTypes.nextOf (.ref i1)) (WV (A:=A.in1) (s:={ s with heap:=g1 }) t1 (h1.extBut s1.extBut D.i1z) (hl.extBut s1.extBut D.l1z) hx fun g2 e x2 ⟨oe,he,ce⟩=>?_);have QS:IsZip g2 z TI TO .ellipsis:=x2 _ _ D.i1z.symm gz;have zx:e≠z:=fun zz=>by rw[zz,QS]at he;cases he;simp at ce
 refine lI QS (by simp) fun g3 _ s3=>?_
 exact end_ g3 e (fun c o c1 c2 x=>s3.extBut _ _ c1 (x2 _ _ c2 (s1.extBut _ _ c1 x))) ⟨oe,s3.extBut _ _ zx he,ce⟩
end
def exE (K:Frag) (B:Addr) (th:Addr->TS) (D:Ends):St->XK:=fun aG cls oa H2=>(∃C,cls = .ref C/\mroIn K C (.ref B)=some true) /\ ∃a,oa=some a/\th a D aG H2
section
variable{b0:Stmt}{yi:List Stmt}{th:Addr->TS}{tb:Ends->TS}
theorem YJ (hb:∀pins D,gA (X.kz pins (exE X.K C th D)) (b1::body) (tb D))
  (h0:X.xe=fun _ _=>False) (hc:X.calm=true) (hs:X.stack=X.env::X.outer) (hf:X.env.frame=some X.env.locals)
  (gc:Gl X cn) (mc:X.mg cn=some (.ref C)) (qc:eU X.K C ci=true) (hh:∀a,gA (X.gK a) (b0::yi) (th a)) (ze:(cn==("__debug__" : Str))=false:=by decide) :
  PS X (.Try (b1::body) [.ExceptHandler (some (.Name cn p5)) none (b0::yi) p6] [] [] p7) (Fv tb):=by
 intro pins s σ H D I h;refine Um ?_;refine mn (hb pins D [] s σ H D I.kz h) (fun fl s1 z=>?_) fun ev s2 z=>?_
 ·have z':=SP.pT I.ok z
  cases fl with
  |next=>exact xf z'
  |brk=>exact z'
  |cont=>exact z'
  |ret u=>exact z'
 ·obtain⟨aG,H0,s1,I1,a,nn,C',a0,dx,H',B,rfl,os,bare,oF,⟨ox,jJ,hd,hz⟩,t5,na,new,⟨C2,eC,me⟩,a',ea,zf⟩:=z
  cases ea
  cases eC
  rw[hs]at oF;refine jw xF (Uo (Q:=fun _ s'=>∃h',s'={ s2 with heap:=h' }/\Heap.HeldW B (X.env::X.outer) a (.ref C') a0 X.env.locals h'/\s2.heap.UpToSlots h') (by rw[<-hs];exact I1.ok.frames) hf oF fun h3 held nh=>⟨h3,rfl,held,nh⟩) fun _ s3 ⟨h3,e3,held,nh⟩ zg=>?_
  subst e3;refine jw pB (KR (Q:=fun _ s'=>∃h',s'={ s2 with heap:=h' }/\Heap.FlyingW B (X.env::X.outer) a (.ref C') a0 h'/\h3.UpToSlots h') held fun h4 iU iW=>⟨h4,rfl,iU,iW⟩) fun _ s4 ⟨h4,e4,iU,iW⟩ zh=>?_;subst e4;have up:s2.heap.UpToSlots h4:=uz nh iW;have rd:RD s2.heap h4:=zg.trans zh;have lay:∀h5,Heap.FlyingW B (X.env::X.outer) a (.ref C') a0 h5->s2.heap.UpToSlots h5->RD s2.heap h5->Inv X pins aG (upd H' a (eV nn C' dx a)) { s2 with heap:=h5 }:=fun h5 f5 u5 r5=>by
   obtain⟨u,ok⟩:=t5 h5 f5.1 u5;obtain⟨o5,e5,_⟩:=f5.there;exact I1.vq (s':={ s2 with heap:=h5 }) os (u.add na new) (E6 ok na (E5 f5 ⟨o5,e5,(r5.dict jJ e5).1.trans hd,fun y ey=>(r5.dict jJ e5).2.trans (hz y ey)⟩)) bare (fun b z=>absurd z (by simp))
  have J:=lay h4 iU up rd;obtain⟨o4,jg,nj⟩:=iU.there;refine Uq (Ur ?_) (by intro z;cases z)
  refine nU (J.gK a) gc mc ?_ ze;refine DJ (K:=X.K) J.bx qc me jg nj ?_;refine codeAny_handlers_suite ?_;refine jw pB (lands_againW (Q:=fun _ s'=>∃h',s'={ s2 with heap:=h' }/\Heap.FlyingW B (X.env::X.outer) a (.ref C') a0 h'/\h4.UpToSlots h') iU fun h5 mX nu=>⟨h5,rfl,mX,nu⟩) fun _ s5 ⟨h5,e5,mX,nu⟩ zi=>?_;subst e5;have J5:=lay h5 mX (uz up nu) (rd.trans zi);refine Kt (aE (hh a pins _ _ _ D (J5.gK a) zf) fun fl s7 z=>?_);exact SP.uncaught J5.ok z
end
end L2
namespace L2
open PySem PySem.Spec PyProof.Rows PySem.W HT
def pU (H:Hp) (x:Option Value):Prop:= ∃a C dx,x=some (.ref a)/\(H a=some (eV (some .none) C dx a) \/ ∃c C' lr,H a=some (eV (some (.ref c)) C dx a)/\c≠a/\H c=some (eV (some .none) C' lr c))
theorem pU.same {x:Option Value} (t:pU H x) (s:∀b o,H b=some o->H' b=some o):pU H' x:=by
 obtain⟨a,C,dx,e,h|⟨c,C',lr,h1,n,h2⟩⟩:=t
 ·exact⟨a,C,dx,e,.inl (s _ _ h)⟩
 ·exact⟨a,C,dx,e,.inr ⟨c,C',lr,s _ _ h1,n,s _ _ h2⟩⟩
theorem pU.Ph {x:Option Value} (I:Inv X pins σ H s) (t:pU H x):iV s.heap x:=by
 have lk:∀ {a C:Addr}{dx:Option Addr}{v:Value},H a=some (eV (some v) C dx a)->gM s.heap a v:=fun {a C dx v} e=>by
  obtain⟨o,vs,h1,_,_,h2,h3⟩:=(I.ar a _ e).1;exact⟨o,vs,h1,h2,h3 v rfl⟩
 obtain⟨a,C,dx,e,h|⟨c,C',lr,h1,n,h2⟩⟩:=t
 ·exact .inr ⟨a,e,.inl (lk h)⟩
 ·exact .inr ⟨a,e,.inr ⟨c,lk h1,n,lk h2⟩⟩
structure FX (P:Program) (w:World) (K:Frag) (hv:Option Value) (tg:Expr) (J:It) (fp:List Addr) (it:Addr) (tn:Nat->Heap->Prop):Prop where
 mem:it∈fp
 obj:∀i h,tn i h -> ∀b∈fp,∃o,h.get? b=some o /\ ∀v,o.data ≠ .cell v
 keep:∀i h h',tn i h->(∀b∈fp,∀o,h.get? b=some o->h'.get? b=some o)->tn i h'
 item:∀ (X:Cx),X.prog=P->X.w=w->X.K=K->X.A.handled=hv -> ∀ (i:Nat) (pins:List (Addr×Obj)) (s:Shared) (σ:St) (H:Hp) (E:Value->Shared->Prop),Inv X pins σ H s->(∀b∈fp,gg X pins H b)->tn i s.heap->J.go i H ->
  wpAny (model P w) X.A (pyNext (.ref it)) (fun r s1=>∃u,r=some u /\
   wpAny (model P w) X.A (letOwnedTupleGo tg (.ref it) u) (fun _ s2=>∃x H',Inv X pins σ H' s2/\RelV x u/\J.oB i H x H'/\tn (i+1) s2.heap /\ ∀b∈fp,H' b=none) E s1) E s
 done:∀ (X:Cx),X.prog=P->X.w=w->X.K=K->X.A.handled=hv -> ∀ (i:Nat) (pins:List (Addr×Obj)) (s:Shared) (σ:St) (H:Hp) (E:Value->Shared->Prop),Inv X pins σ H s->(∀b∈fp,gg X pins H b)->tn i s.heap->J.stop i H ->
  wpAny (model P w) X.A (pyNext (.ref it)) (fun r s1=>r=none/\Inv X pins σ H s1) E s
 self:∀ (A:Around) (i:Nat) (s:Shared) (Q:Value->Shared->Prop) (E:Value->Shared->Prop),tn i s.heap->Q (.ref it) s->wpAny (model P w) A (pyIter (.ref it)) Q E s
noncomputable def ack (X:Cx) (pins:List (Addr×Obj)) (σ:St) (tg:Expr) (R:It->Hp->Prop) (tQ:Value) (s2:Shared):Prop:=
 ∃ (it:Addr) (fp:List Addr) (tn:Nat->Heap->Prop) (J:It) (H':Hp),tQ = .ref it/\Inv X pins σ H' s2/\FX X.prog X.w X.K X.A.handled tg J fp it tn/\tn 0 s2.heap/\(∀b∈fp,gg X pins H' b)/\R J H'
noncomputable def QT (X:Cx) (tg iter:Expr) (wi:TI):Prop:=
 ∀ (pins:List (Addr×Obj)) (s:Shared) (σ:St) (H:Hp) (R:It->Hp->Prop),Inv X pins σ H s->wi σ H R ->
  wpAny (model X.prog X.w) X.A (eval iter X.env) (fun v s1=>wpAny (model X.prog X.w) X.A (pyIter v) (ack X pins σ tg R) X.xe s1) X.xe s
def aaD (K:Frag) (hv:Option Value) (n:Nat) (t:oA):TG:=fun v σ H Q=>∃a xs,v = .ref a/\aC K H a xs/\xs.length=n/\pU H hv/\t xs σ H Q
theorem YK {k:Nat}{t:oA} (hK:X.K=K) (hc:X.A.handled=hv) (h:wt X es t)
  (hn:(assignEach es X.env).length=n:=by rfl) (tP:(assignEach es X.env).findIdx? (·.1)=none:=by rfl):PG X (.Tuple es k pos) (aaD K hv n t):=by
 intro pins s σ H v u Q I r hw;subst hK;obtain⟨a,xs,rfl,hq,hl,tl,hw⟩:=hw;cases r
 obtain⟨its,rv,ht,hz⟩:=I.tuple hq;refine YI (by rw[hc];exact tl.Ph I) ht (by simp[hn,<-hl,rv.length]) tP fun h' hx=>?_
 have I1:Inv X pins σ H { s with heap:=h' }:=I.kept (t':=s.toks) fun b o e=>hx b o (bp (aV e)) e;exact h pins _ σ H xs _ Q I1 (by simpa using rv) hw
def GG (K:Frag) (hv:Option Value) (l1 l2:Addr):It:=
  ⟨fun i H=>∃xs ys x y,aj K H l1 xs/\aj K H l2 ys/\xs[i]? = some x/\ys[i]? = some y,
   fun i H v H'=>∃t x y,H t=none/\v = .ref t/\(∀xs,aj K H l1 xs->xs[i]? = some x)/\(∀ys,aj K H l2 ys->ys[i]? = some y)/\H'=upd H t (.tup [x,y]),
   fun i H=>∃xs,aj K H l1 xs/\xs.length<=i/\pU H hv⟩
theorem WW {TI TO:Addr} (D:ZipApart z TI TO i1 i2 l1 l2) :
  FX P w K hv (.Tuple elts n1 tp) (GG K hv l1 l2) [z,TI,TO,i1,i2] z (fun i h=>IsZip h z TI TO .none/\IsPair h TI (.ref i1) (.ref i2)/\(∃a b,IsPair h TO a b)/\h.IsListIter i1 l1 i/\h.IsListIter i2 l2 i) where
 mem:=by simp
 obj:=fun i h st b hb=>by
  obtain⟨hz,iB,⟨a,b',jh⟩,⟨o1,e1,c1,d1⟩,⟨o2,e2,c2,d2⟩⟩:=st;simp only[aY,jq,jr]at hb;rcases hb with rfl|rfl|rfl|rfl|rfl
  ·exact⟨_,hz,fun v q=>by cases q⟩
  ·exact⟨_,iB,fun v q=>by cases q⟩
  ·exact⟨_,jh,fun v q=>by cases q⟩
  ·exact⟨o1,e1,fun v q=>by rw[d1]at q;cases q⟩
  ·exact⟨o2,e2,fun v q=>by rw[d2]at q;cases q⟩
 keep:=fun i h h' st k=>by
  obtain⟨hz,iB,⟨a,b,jh⟩,t1,t2⟩:=st;exact⟨k z (by simp) _ hz,k TI (by simp) _ iB,⟨a,b,k TO (by simp) _ jh⟩,AG t1 fun o e=>k i1 (by simp) o e,AG t2 fun o e=>k i2 (by simp) o e⟩
 item:=by
  intro X hP hw hK hc i pins s σ H E I hf st hg;subst hP hw hK;obtain⟨xs,ys,x,y,hV,iy,hx,hy⟩:=hg;obtain⟨yy,qo,p1,_⟩:=I.list hV;obtain⟨oj,qp,p2,_⟩:=I.list iy;obtain⟨u1,ck,ud⟩:=qo.get hx;obtain⟨u2,Iy,ue⟩:=qp.get hy;obtain⟨hz,iB,⟨a,b,jh⟩,t1,t2⟩:=st;refine wpAny_pyNext_zip_item D hz iB jh t1 t2 p1.isList p2.isList (by simpa using ck) (by simpa using Iy) fun g gz Iz IA IB gp _ kp=>⟨_,rfl,?_⟩
  refine aku (s:={ s with heap:=g }) gz fun gD z2 sb=>?_;have lt:∀ {c:Addr}{o:Obj},s.heap.get? c=some o->c≠s.heap.objs.size:=fun e=>bp (aV e);have k2:∀c o,c≠z->c≠TO->c≠i1->c≠i2->s.heap.get? c=some o->gD.get? c=some o:=fun c o n0 n1 n2 n3 e=>(sb.2 c n0).trans (kp c o n0 n1 n2 n3 e);have hn:H s.heap.objs.size=none:=I.ar.fresh (aR _);have tz:s.heap.objs.size≠z:=aO (lt hz);have t3:gD.get? s.heap.objs.size=some { cls:= .type "tuple",data:= .seq #[u1,u2] }:=(sb.2 _ tz).trans gp;have fz:=hf z (by simp)
  have fO:=hf TO (by simp)
  have f1:=hf i1 (by simp)
  have f2:=hf i2 (by simp)
  have fU:∀ {c:Addr}{o:HO},H c=some o->c≠z/\c≠TO/\c≠i1/\c≠i2:=fun q=>⟨fun n=>(by rw[n,fz.1]at q;cases q),fun n=>(by rw[n,fO.1]at q;cases q),fun n=>(by rw[n,f1.1]at q;cases q),fun n=>(by rw[n,f2.1]at q;cases q)⟩
  have dv:∀ {c:Addr},c ∉ [z,TO,i1,i2]->c≠z/\c≠TO/\c≠i1/\c≠i2:=fun hc=>by simpa using hc
  have J:Inv X pins σ (upd H s.heap.objs.size (.tup [x,y])) { s with heap:=gD }:=by
   refine I.step (g':=s.gens) (d':=s.drawn) (t':=s.toks) (ch:= [z,TO,i1,i2]) (fun c hc=>?_) (fun c o _ _ hc q _=>let ⟨n0,n1,n2,n3⟩:=dv hc;k2 c o n0 n1 n2 n3 q) (fun c o _ _ hc q _=>let ⟨n0,n1,n2,n3⟩:=dv hc;⟨o.slots,k2 c o n0 n1 n2 n3 q⟩)
    (fun c o _ q n=>by rw[ah (lt q)];exact n) (fun c o hc q=>let ⟨n0,n1,n2,n3⟩:=dv hc;⟨o,k2 c o n0 n1 n2 n3 q⟩) (fun c vs q=>by rw[ah (ao q hn)];exact q) (fun c o v q=>by rw[ah (ao q hn)];exact q)
    (fun c ps q=>⟨#[],by rw[ah (ao q hn),q];simp⟩) (fun m hm=>?_) (fun c o q=>?_) I.bare
   ·have ok:∀ {d:Addr},gg X pins H d->(d∈X.ex\/X.cM.heap.objs.size<=d)/\d≠X.env.locals/\(∀x c,X.env.cells.lookup x=some c->c≠d) /\ ∀p∈X.pn++pins,p.1≠d:=fun f=>⟨f.2.2.2.1,f.2.1,f.2.2.2.2.1,f.2.2.2.2.2⟩
    simp only[aY,jq,jr]at hc;rcases hc with rfl|rfl|rfl|rfl
    ·exact ok fz
    ·exact ok fO
    ·exact ok f1
    ·exact ok f2
   ·obtain⟨o,es,ep,ho,r⟩:=hm
    exact⟨o,es,ep,k2 _ o (aO fz.2.1) (aO fO.2.1) (aO f1.2.1) (aO f2.2.1) ho,r⟩
   ·by_cases hb:c=s.heap.objs.size
    ·subst hb
     rw[ag]at q;cases q;exact⟨by rw[aN];show 2<=_;decide,[u1,u2],.cons ud (.cons ue .nil),_,t3,rfl,_,rfl,rfl⟩
    ·rw[ah hb]at q
     refine(I.ar c o q).gY (fun d v hd e=>?_) (fun d e=>by rw[ah (ao e hn)];exact e) fun d vs e=>by rw[ah (ao e hn)];exact e
     rcases hd with hd|hd
     ·subst hd
      obtain⟨n0,n1,n2,n3⟩:=fU q;exact k2 _ v n0 n1 n2 n3 e
     ·obtain⟨n0,n1,n2,n3⟩:=fU hd
      exact k2 d v n0 n1 n2 n3 e
  refine⟨.ref s.heap.objs.size,_,J,rfl,⟨s.heap.objs.size,x,y,hn,rfl,fun vs h=>by rw[I.AS h hV];exact hx,fun vs h=>by rw[I.AS h iy];exact hy,rfl⟩,⟨z2,k2 _ _ D.TIz D.TITO D.TIi1 D.TIi2 iB,⟨u1,u2,sb.extBut _ _ D.TOz Iz⟩,AG IA fun o e=>sb.extBut _ o D.i1z e,AG IB fun o e=>sb.extBut _ o D.i2z e⟩,fun c hc=>?_⟩
  have:c≠s.heap.objs.size:=by
   simp only[aY,jq,jr]at hc;rcases hc with rfl|rfl|rfl|rfl|rfl
   ·exact lt hz
   ·exact lt iB
   ·exact lt jh
   ·obtain⟨o,e,_⟩:=t1;exact lt e
   ·obtain⟨o,e,_⟩:=t2;exact lt e
  rw[ah this];exact(hf c hc).1
 done:=by
  intro X hP hw hK hc i pins s σ H E I hf st hg;subst hP hw hK;obtain⟨xs,hV,vK,tl⟩:=hg;obtain⟨yy,qo,p1,_⟩:=I.list hV;have e1:=qo.length;obtain⟨hz,iB,⟨a,b,jh⟩,t1,t2⟩:=st;have fz:=hf z (by simp)
  have f1:=hf i1 (by simp)
  refine XO (by rw[hc];exact tl.Ph I) D hz iB t1 p1.isList (by simp;omega) fun g kp=>⟨rfl,?_⟩
  have fU:∀ {c:Addr}{o:HO},H c=some o->c≠z/\c≠i1:=fun q=>⟨fun n=>(by rw[n,fz.1]at q;cases q),fun n=>(by rw[n,f1.1]at q;cases q)⟩
  have dv:∀ {c:Addr},c ∉ [z,i1]->c≠z/\c≠i1:=fun hc=>by simpa using hc
  refine I.step (g':=s.gens) (d':=s.drawn) (t':=s.toks) (ch:= [z,i1]) (fun c hc=>?_) (fun c o _ _ hc q _=>let ⟨n0,n1⟩:=dv hc;kp c o n0 n1 q) (fun c o _ _ hc q _=>let ⟨n0,n1⟩:=dv hc;⟨o.slots,kp c o n0 n1 q⟩)
   (fun c o _ q n=>n) (fun c o hc q=>let ⟨n0,n1⟩:=dv hc;⟨o,kp c o n0 n1 q⟩) (fun c vs q=>q) (fun c o v q=>q) (fun c ps q=>⟨#[],by rw[q];simp⟩) (fun m hm=>?_) (fun c o q=>?_) I.bare
  ·have ok:∀ {d:Addr},gg X pins H d->(d∈X.ex\/X.cM.heap.objs.size<=d)/\d≠X.env.locals/\(∀x c,X.env.cells.lookup x=some c->c≠d) /\ ∀p∈X.pn++pins,p.1≠d:=fun f=>⟨f.2.2.2.1,f.2.1,f.2.2.2.2.1,f.2.2.2.2.2⟩
   simp only[aY,jq,jr]at hc;rcases hc with rfl|rfl
   ·exact ok fz
   ·exact ok f1
  ·obtain⟨o,es,ep,ho,r⟩:=hm
   exact⟨o,es,ep,kp _ o (aO fz.2.1) (aO f1.2.1) ho,r⟩
  ·refine(I.ar c o q).gY (fun d v hd e=>?_) (fun d e=>e) fun d vs e=>e
   rcases hd with hd|hd
   ·subst hd
    obtain⟨n0,n1⟩:=fU q;exact kp _ v n0 n1 e
   ·obtain⟨n0,n1⟩:=fU hd
    exact kp d v n0 n1 e
 self:=fun _ _ _ _ _ st h=>KZ st.1 h
def aaE (K:Frag) (hv:Option Value) (ta:TA):TI:=fun σ H R=>ta σ H fun vs H1=>∃a b,vs = [.ref a,.ref b]/\(∃xs,aj K H1 a xs)/\(∃ys,aj K H1 b ys)/\R (GG K hv a b) H1
theorem YL {a b:Expr}{ta:TA}{p:Pos} (hg:Gl X "zip") (hm:X.mg "zip" = none) (ha:PA X [a,b] ta) (he:starEach [a,b] X.env=(false,eval a X.env)::starEach [b] X.env:=by rfl) (dk:(backTo pos (starEach [b] X.env)).any (·.1)=false:=by rfl) :
  QT X (.Tuple elts n1 tp) (.Call (.Name "zip" p) [a,b] [] pos) (aaE X.K X.A.handled ta):=by
 intro pins s σ H R I h;refine sg (sJ I hg hm (show bootBuiltins "zip" = some (.type "zip") by decide +kernel) ?_)
 refine Dj (aE (ha pos pins s σ H _ I h) fun us s1 hQ9=>?_) he dk;obtain⟨vs,H1,I1,r1,q1⟩:=hQ9;obtain⟨l1,l2,e,⟨xs,hV⟩,⟨ys,iy⟩,q⟩:=q1;subst e;obtain⟨u1,u2,rfl,ud,ue⟩:=r1.two;cases ud
 cases ue
 obtain⟨yy,qo,p1,_⟩:=I1.list hV;obtain⟨oj,qp,p2,_⟩:=I1.list iy;have nE:(l1:Nat) < s1.heap.objs.size:=by obtain⟨o,_,e,_⟩:=p1;exact aV e
 have IC:(l2:Nat) < s1.heap.objs.size:=by obtain⟨o,_,e,_⟩:=p2;exact aV e
 refine call_zip_2 p1.isList p2.isList fun g gz gi go g1 g2 _ kp=>?_;refine KZ (s:={ s1 with heap:=g }) gz ?_;refine⟨s1.heap.objs.size+4,[s1.heap.objs.size+4,s1.heap.objs.size+2,s1.heap.objs.size+3,s1.heap.objs.size,s1.heap.objs.size+1],_,_,H1,rfl,I1.kept (t':=s1.toks) kp,WW (zipApart_new nE IC),⟨gz,gi,⟨_,_,go⟩,g1,g2⟩,fun c hc=>?_,q⟩;have le:s1.heap.objs.size<=c:=by
  simp only[aY,jq,jr]at hc;rcases hc with rfl|rfl|rfl|rfl|rfl
  ·exact sr _ _
  ·exact sr _ _
  ·exact sr _ _
  ·exact aR _
  ·exact sr _ _
 exact I1.jD le (I1.ar.fresh le)
theorem V9 {J:It}{tn:Nat->Heap->Prop}{g:TG}{E:Value->Shared->Prop}{RR:Value->Addr->Result->Shared->Prop}  (S:bX X.N X.env.scope N' cA scope)
  (I2:Inv X pins σ H2 s2) (T:FX X.prog X.w X.K X.A.handled tg J fp it tn) (st:tn 0 s2.heap) (hf:∀b∈fp,gg X pins H2 b)
  (hb:∀s H fp,PG (dh X N' scope s H fp) tg g/\tq (dh X N' scope s H fp) ifs ti/\PE (dh X N' scope s H fp) elt te)
  (hw:∀p,H2 p=none->jz J g ti te (pick cA σ) Q p H2) (hR:∀acc C s',CompEnd X pins σ Q acc C s'->RR acc C (.ok .next) s') :
  wpAny (model X.prog X.w) X.A (newList []) (fun acc s3=>wpAny (model X.prog X.w) X.A (newFunctionEnv scope X.env.globals (iE X.env.cells scope.names []) [] X.env.qual none .none (some X.env)) (fun yu s4 =>
   codeAny (model X.prog X.w) X.A (.compStart (.ListComp elt [⟨tg,iter,ifs,0⟩] scope pos) 0 (.ref it) acc { yu with scope:=relabel scope X.env }) (RR acc yu.locals) s4) E s3) E s2:=by
 refine jl ?_;have I3:Inv X pins σ (upd H2 s2.heap.objs.size (.lst [])) { s2 with heap:=s2.heap.push { cls:= .type "list",data:= .seq ([]:List Value).toArray } }:=
  I2.Gm (its:= []) (t':=s2.toks) .nil (bG _)
 have hp:=hw s2.heap.objs.size I2.fresh;generalize e3:({ s2 with heap:=s2.heap.push { cls:= .type "list",data:= .seq ([]:List Value).toArray } }:Shared)=s3 at I3 ⊢;generalize eH:upd H2 s2.heap.objs.size (.lst [])=H3 at I3 hp;have j3:∀b∈fp,b < s2.heap.objs.size:=fun b hb=>let ⟨_,e,_⟩:=T.obj _ _ st b hb;aV e;have get3:∀b o,s2.heap.get? b=some o->s3.heap.get? b=some o:=fun b o e=>by rw[<-e3];exact aT _ e
 have rG:tn 0 s3.heap:=T.keep _ _ _ st fun b _ o e=>get3 b o e;have iu:∀b∈fp,gg X pins H3 b:=fun b hb=>⟨by rw[<-eH,ah (bp (j3 b hb))];exact(hf b hb).1,(hf b hb).2⟩
 have HG:∀b∈fp,∃o,s3.heap.get? b=some o:=fun b hb=>let ⟨o,e,_⟩:=T.obj _ _ rG b hb;⟨o,e⟩;refine Lp fun h4 hn hk gT HH=>?_;have I4:Inv (dh X N' scope s3 H3 fp) [] (pick cA σ) H3 { s3 with heap:=h4 }:=MD I3 S iu HG hn hk gT HH;have yW:tn 0 ({ s3 with heap:=h4 }:Shared).heap:=T.keep _ _ _ rG fun b _ o e=>hk b o e;obtain⟨hG,hI,hE⟩:=hb s3 H3 fp;obtain⟨W,⟨m0,w0⟩,turn⟩:=hp;rw[eH]at w0;have mU:∀ {H':Hp},(∀b∈fp,H' b=none) -> ∀b∈fp,gg (dh X N' scope s3 H3 fp) [] H' b:=fun hn b hb =>
  ⟨hn b hb,(I4.ok.ou b hb).1,I4.ok.og b hb,.inl hb,fun x c e=>(I4.ok.ou b hb).2 x c e,fun p hp=>absurd (show p∈([]:List (Addr×Obj)) from hp) (by simp)⟩
 have loop:codeAny (model X.prog X.w) X.A (.compLoop (.ListComp elt [⟨tg,iter,ifs,0⟩] scope pos) 0 (.ref it) (.ref s2.heap.objs.size) (Ey scope s3.heap.objs.size X.env))
   (RR (.ref s2.heap.objs.size) s3.heap.objs.size) { s3 with heap:=h4 }:=by
  refine K9 (fun n s'=>∃i ys τ H',Inv (dh X N' scope s3 H3 fp) [] τ H' s'/\tn i s'.heap/\(∀b∈fp,H' b=none)/\W i n ys τ H') ?_ m0 ⟨0,[],_,H3,I4,yW,fun b hb=>(iu b hb).1,w0⟩;rintro n s5 ⟨i,ys,τ,H5,I5,qf,tT,w5⟩;obtain⟨yX,w5⟩:=turn i n ys τ H5 w5;rcases w5 with⟨stop,qn⟩|⟨go,step⟩
  ·refine aE (T.done (dh X N' scope s3 H3 fp) rfl rfl rfl rfl i [] s5 τ H5 _ I5 (mU tT) qf stop) fun r s6 ⟨hr,I6⟩=>?_
   subst hr;refine hR _ _ _ ⟨_,H5,rfl,?_,?_,?_,qn⟩
   ·exact I3.vq (s':=s6) (ch:=fp) I6.os I6.base I6.ar I6.bare fun b hb=>⟨(iu b hb).2.2.2.1,(iu b hb).2.1,(iu b hb).2.2.2.2.1,(iu b hb).2.2.2.2.2⟩
   ·exact I3.jD (aR _) I6.free
   ·obtain⟨m,hm,_⟩:=I6.loc
    exact⟨m,hm⟩
  ·refine aE (T.item (dh X N' scope s3 H3 fp) rfl rfl rfl rfl i [] s5 τ H5 _ I5 (mU tT) qf go) fun r s6 ⟨u,hr,h6⟩=>?_
   subst hr;refine aE h6 fun _ s7 hQ9=>?_;obtain⟨x,H7,I7,r7,y7,tY,HI⟩:=hQ9;have HJ:=I7.pinned (mU HI) (T.obj _ _ tY);refine aE (hG _ s7 τ H7 x u _ HJ r7 (step x H7 y7)) fun _ s8 ⟨tZ,H8,I8,q8⟩=>?_;refine aE (hI _ s8 tZ H8 _ I8 q8) fun b s9 ⟨H9,I9,q9⟩=>?_;have again:∀ {iw:St}{H':Hp}{s':Shared}{eZ:List V}{m':Nat},Inv (dh X N' scope s3 H3 fp) ([]++vb fp s7.heap) iw H' s'->m' < n->W (i+1) m' eZ iw H' ->
     ∃m,m < n /\ ∃i ys τ H',Inv (dh X N' scope s3 H3 fp) [] τ H' s'/\tn i s'.heap/\(∀b∈fp,H' b=none)/\W i m ys τ H':=fun {iw H' s' eZ m'} I' hm w'=>by
    refine⟨m',hm,i+1,eZ,iw,H',I'.xx,T.keep _ _ _ tY fun b hb o e=>(I'.pin (b,o) (gH _ (gH _ (uJ hb e)))).1,fun b hb=>?_,w'⟩;obtain⟨o,e,d⟩:=T.obj _ _ tY b hb;exact(I'.pin (b,o) (gH _ (gH _ (uJ hb e)))).2.1
   cases b with
   |false =>
    obtain⟨m',hm,w'⟩:=q9;exact again I9 hm w'
   |true =>
    refine aE (hE _ s9 tZ H9 _ I9 q9) fun y HK hQ9=>?_;obtain⟨z,yY,HL,HM,Gq,Gr,m',hm,w'⟩:=hQ9;refine aE (lK _ HK tZ yY (.ref s2.heap.objs.size) [z] (.ref s2.heap.objs.size) [y] (fun _ H'=>H'=upd yY s2.heap.objs.size (.lst (ys ++ [z]))) HL rfl (.cons HM .nil) ⟨_,_,_,rfl,rfl,Gq,Gr,rfl⟩) fun _ s11 hQ9=>?_;obtain⟨_,HN,HP,_,t4⟩:=hQ9;subst t4;exact again HP hm w'
 exact codeAny_compStart_list loop (T.self X.A 0 _ _ _ yW loop)
theorem XQ {wi:TI}{g:TG}  (S:bX X.N X.env.scope N' cA scope) (hi:QT X tg iter wi)
  (hb:∀s H fp,PG (dh X N' scope s H fp) tg g/\tq (dh X N' scope s H fp) ifs ti/\PE (dh X N' scope s H fp) elt te)
  (hs:∀x,foldedSetIterable iter X.env x=pure x:=by intro _;rfl):PE X (.ListComp elt [⟨tg,iter,ifs,0⟩] scope pos) (Bu wi cA g ti te):=by
 intro pins s σ H Q I h;rw[eval_ListComp];refine TY (use:=none) rfl hs (DG fun n hn=>AK I S hn) S.kind (fun x hx hl=>uF S.keys (by rw[<-hl];exact hx)) ?_
 refine aE (hi pins s σ H _ I h) fun v s1 h1=>aE h1 fun tQ s2 h2=>?_;obtain⟨it,fp,tn,J,H2,e,I2,T,lg,f2,hw⟩:=h2;subst e;refine V9 (RR:=fun acc C=>compPost (model X.prog X.w) X.A X.xe none (EP X pins σ Q) acc C) S I2 T lg f2 hb hw ?_;rintro acc C s' ⟨p,H',rfl,I',fC,⟨m,hm⟩,q⟩;refine⟨m,hm,fun h' l8=>⟨.ref p,H',?_,rfl,q⟩⟩;exact I'.turned (it:=C) (t':=s'.toks) (fun b o hb e=>(l8.2 b hb).trans e) fC.1 fC.2.1 fC.2.2.2.1 fC.2.2.2.2.1 fC.2.2.2.2.2
theorem WX {xs:List V}{g:TG} (n:Nat) (hn:n=xs.length) (hy:n<=ys.length) (Pv:Nat->List V->St->Hp->Prop) (h0:Pv 0 [] jf (upd H1 p (.lst [])))
  (hl:∀i zs τ H,Pv i zs τ H->H p=some (.lst zs)/\aj K H a xs/\aj K H b ys/\pU H hv)
  (hs:∀i x y zs τ H t,xs[i]? = some x->ys[i]? = some y->Pv i zs τ H->H t=none->g (.ref t) τ (upd H t (.tup [x,y])) fun cJ H4=>ti cJ H4 fun c H5=>if c=true then te cJ H5 fun v H6=>H6 p=some (.lst zs)/\zs.length < sizeLine /\ ∃m',m' < n - i/\CW Pv n (i+1) m' (zs ++ [v]) cJ (upd H6 p (.lst (zs ++ [v]))) else ∃m',m' < n - i/\CW Pv n (i+1) m' zs cJ H5)
  (hd:∀zs τ H,Pv n zs τ H->Q (.ref p) H):jz (GG K hv a b) g ti te jf Q p H1:=by
 refine⟨CW Pv n,⟨n,by simp,bG _,h0⟩,?_⟩
 rintro i m zs τ H ⟨rfl,hi,pv⟩;obtain⟨hp,q1,q2,tl⟩:=hl i zs τ H pv;refine⟨hp,?_⟩
 by_cases lt:i < n
 ·refine .inr ⟨⟨xs,ys,xs[i]'(by omega),ys[i]'(by omega),q1,q2,by simp,by simp⟩,fun v H3 ⟨t,x,y,ht,e,ex,ey,eH⟩=>?_⟩
  subst e eH;exact hs i x y zs τ H t (ex xs q1) (ey ys q2) pv ht
 ·obtain rfl:i=n:=by omega
  exact .inl ⟨⟨xs,q1,by omega,tl⟩,hd zs τ H pv⟩
section
variable{k:Nat}{sp:Option Value->Sp}{p:Pos}{t:TA}
theorem EH (F:yj X.prog X.w X.K X.mg X.base k f fd ps sp) (hr:iS k X.A) (hg:Gl X x) (hm:X.mg x=some (.ref f)) (hk:keepIn X.K (.ref f)=true) (hb:Binds X.K fd ps []) (hx:Passes aQ X E)
  (ha:PA X (e::es) t) (jI:(x==("__debug__" : Str))=false:=by decide) (he:starEach (e::es) X.env=(false,eval e X.env)::starEach es X.env:=by rfl) (dk:(backTo pos (starEach es X.env)).any (·.1)=false:=by rfl) :
  PE X (.Call (.Name x p) (e::es) [] pos) (Ol (sp X.A.handled) [] E t):=by
 intro pins s σ H Q I h;refine sg (nU I hg hm ?_ jI);refine Ky (h₀:=X.base) I.ok.mod.iF hk (aE (ha pos pins s σ H _ I h) fun us s1 ⟨vs,H1,I1,r,q⟩=>⟨I1.bx,?_⟩) he dk;replace q:sp X.A.handled vs H1 Q E:=by have q0:sp X.A.handled (vs ++ []) H1 Q E:=q;rwa [gr]at q0
 have hl:us.length=ps.length:=by rw[<-r.length];exact F.len _ _ _ _ _ q
 have rL:=hb s1 us I1.bx (by rw[gr];exact hl)
 rw[gr]at rL;refine qF (sf (F.run X.A X.stack s1 H1 ⟨us,[]⟩ us vs Q E hr I1.yq rL r q) fun r s' hq=>?_);cases r with
 |error e=>exact hx pins σ H1 s1 e s' I1 hq
 |ok fl =>
  cases fl with
  |ret u=>exact I1.after hq
  |next=>exact False.elim hq
  |brk=>exact False.elim hq
  |cont=>exact False.elim hq
def Oz (K:Frag):List V->Hp->VK->Prop:=fun xs H Q=>∃a n C dx c cv b,xs = [.ref a,c]/\((∃B,c = .ref B/\cv = .ref B) \/ ∃T,c = .ty T/\cv = .type T)/\H a=some (eV n C dx a)/\dU K C/\(∀d,dx=some d -> ∃fs,H d=some (d7 d fs))/\kitOne K (.ref C) cv=some b/\Q (.bl b) H
theorem AO:d5 X (.builtin "isinstance") (Oz X.K):=by
 intro pins s σ H xs us Q I r h;obtain⟨a,n,C,dx,c,cv,b,rfl,hc,ea,xc,hd,e,q⟩:=h;obtain⟨u,w',rfl,ru,ir⟩:=r.two;cases ru
 have HW:w'=cv:=by
  rcases hc with⟨B,rfl,rfl⟩|⟨T,rfl,rfl⟩
  ·cases ir;rfl
  ·cases ir;rfl
 subst HW;obtain⟨ox,vs,at_,cl,di,da,_⟩:=(I.ar a _ ea).1;cases dx with
 |none =>
  have J:InstAt s.heap a ox C none:=⟨at_,cl,by unfold notCls;rw[da],by rw[di];exact True.intro⟩
  exact kia_one (AU xc) I.bx J e (fun z=>nomatch z) fun tk=>⟨.bl b,H,I.tok _,rfl,q⟩
 |some d =>
  obtain⟨fs,ed⟩:=hd d rfl;obtain⟨_,mA,nn,_⟩:=I.xE ed;obtain⟨od,m9,_⟩:=uL nn;have J:InstAt s.heap a ox C (some od):=⟨at_,cl,by unfold notCls;rw[da],by rw[di];exact m9⟩
  exact kia_one (AU xc) I.bx J e (fun z=>nomatch z) fun tk=>⟨.bl b,H,I.tok _,rfl,q⟩
end
theorem Ej:d5 X (.builtin "len") (fun xs H Q=>∃a kvs,xs = [.ref a]/\H a=some (.dK kvs)/\Q (.int kvs.length) H):=by
 intro pins s σ H xs us Q I r h;obtain⟨a,kvs,rfl,e,q⟩:=h;obtain⟨u,rfl,ru⟩:=vals1 r;cases ru
 exact aap I (.inl e) fun t s' I'=>⟨.int _,H,I',⟨_,rfl⟩,q⟩
end L2
namespace L2
open PySem PySem.Spec PyProof.Rows PySem.W HS
end L2
namespace HS
open PySem PySem.Spec PyProof.Rows PySem.W L2
section
variable{E:Value->Shared->Prop}{r:Addr}{OK:Heap->Prop}
theorem VF {Q:List Value->Shared->Prop} (K:KdlSrc P w T r d n Pv OK) (hh:A.handled=none) (ar:OK s.heap) (hn:n<=sizeLine)
  (q:∀h' tk (vs:List Value),(∀b o,s.heap.get? b=some o->h'.get? b=some o)->ItemsOf Pv vs.toArray n->Q vs { s with heap:=h',toks:=tk }):wpAny (model P w) A (collect (.ref r)) Q E s:=by
 have lt:=K.there _ ar;have key:∀R:Result->Shared->Prop,(∀h' tk (acc:Array Value) c,(∀b o,b≠s.heap.objs.size->(s.heap.push (seqObj "list" #[] 0)).get? b=some o->h'.get? b=some o)->h'.get? s.heap.objs.size=some { cls:= .type "list",dict:=none,data:= .seq acc c,slots:= #[] }->ItemsOf Pv acc n->R (.ok (.ret (.ref s.heap.objs.size))) { s with heap:=h',toks:=tk }) ->
   codeAny (model P w) A (.builtin "list.__iadd__" ⟨[.ref s.heap.objs.size,.ref r],[]⟩) R { s with heap:=s.heap.push (seqObj "list" #[] 0) }:=fun R hR=>by
  refine jo UE ?_;rw[mq Av _];show wpAny _ _ (Builtin.List.listExtendWith (.ref s.heap.objs.size) (.ref r) (.ref s.heap.objs.size)) _ _ { s with heap:=s.heap.push (seqObj "list" #[] 0) };exact kdl_extend (s:={ s with heap:=s.heap.push (seqObj "list" #[] 0) }) K hh (K.keep _ _ ar fun b _ o e=>aT _ e) s.heap.objs.size (se lt.1) (se lt.2) _ 0 (cu _ rfl) (fun h' tk acc c kp e it=>hR h' tk acc c kp e it) hn
 unfold collect;refine ae (Ar (jo UC ?_));rw[mq UD _];show wpAny _ A.in1 (newList [] >>= fun z=>again (.builtin "list.__iadd__" ⟨[z,.ref r],[]⟩)) _ _ s;refine ae (As (ak ⟨pj Av _,key _ fun h' tk acc c kp e it=>?_⟩));show wpAny (model P w) A (load s.heap.objs.size >>= _) Q E _;refine ae (Ae e ?_);show wpAny _ _ (pure acc.toList) Q E _;exact ak (q h' tk acc.toList (fun b o hb=>kp b o (bp (aV hb)) (aT _ hb)) (by rw[akd];exact it))
theorem V' {ys:List Str}{Q:Value->Shared->Prop} (K:KdlSrc P w T r d n Pv OK) (hh:A.handled=none) (ar:OK s.heap) (mf:n<=63) (hy:∀vs:List Value,ItemsOf Pv vs.toArray n->StrsAre vs ys)
  (hQ:∀D c h' tk (us:List Value) (zs:List Str),(∀b o,s.heap.get? b=some o->h'.get? b=some o)->(∀b o,s.heap.get? b=some o->b≠D)->h'.get? D=some (listOf us.toArray c)->StrsAre us zs->zs.Perm ys->sortedS zs=true->Q (.ref D) { s with heap:=h',toks:=tk }) :
  wpAny (model P w) A (call (.builtin "sorted") [.ref r]) Q E s:=by
 refine UG kind_sorted plain_sorted entry_sorted (args_sorted1 _) ?_;unfold Builtin.«sorted»;refine ae (m:=checkCount "sorted" 1 1 _) (ak (ae (VF K hh ar (by rw[aN];omega) fun h1 tk vs k1 it=>?_)))
 have v1:=hy vs it;have lv:vs.length=n:=by have:=it.1;simpa using this
 refine ae (As ?_ (by rw[aN];omega))
 have eI:(h1.push (seqObj "list" vs.toArray 0)).get? h1.objs.size=some (seqObj "list" vs.toArray 0):=cu _ rfl;refine ae (eM (jP slot_list_sort ⟨_,eI,rfl⟩ entry_list_sort (list_sort_treeK strKind_oneLt eI v1.keysOf (fun aci acj rest e=>keyKind_strs (by rw[<-e];exact v1)) (by omega) fun gC a1 a2=>⟨_,rfl,?_⟩) (args_list_sort _)))
 obtain⟨fj,b1,b2,b3⟩:=sorted_out_str v1 a1 a2;obtain⟨c,hc⟩:=sortedHeap_at (n:=0) (vs:=vs) (out:=(arrOf gC).map (·.2)) eI;refine ak ⟨_,rfl,hQ _ c _ _ _ fj (fun b o e=>?_) (fun b o e=>bp (aV (k1 b o e))) (by rw[hc]) b1 b2 b3⟩
 have e1:=k1 b o e;have nE:=aV e1;rw[sortedHeap_old (bp nE) (by rw[size_push'];exact uB nE),Heap.get?_push_ne _ _ _ (bp nE)]
 exact e1
end
end HS
namespace L2
open PySem PySem.Spec PyProof.Rows PySem.W HS
theorem Li:∀ {ks:List Str}{us:List Value},ks.length=us.length->(∀ (i:Nat) x u,ks[i]? = some x->us[i]? = some u -> ∃t,u=Value.str x t)->StrsAre us ks
 |[],[],_,_=>.nil
 |[],_::_,h,_=>by simp at h
 |_::_,[],h,_=>by simp at h
 |x::xs,u::us,h,f=>by
  obtain⟨t,rfl⟩:=f 0 x u rfl rfl;exact .cons _ t (Li (by simpa using h) fun i y v a b=>f (i+1) y v (by simpa using a) (by simpa using b))
theorem Vp (hc:X.calm=true):d5 X (.builtin "sorted") (fun xs H Q=>∃ (d:Addr) (ks:List (Str×V)),xs = [.ref d]/\H d=some (.dK (ks.map fun p=>(Sum.inr p.1,p.2)))/\ks.length<=63 /\ ∀D fj,H D=none->fj.Perm (ks.map (·.1))->sortedS fj=true->Q (.ref D) (upd H D (.lst (fj.map V.str)))):=by
 intro pins s σ H xs us Q I r h;obtain⟨d,ks,rfl,hd,mf,q⟩:=h;obtain⟨u,rfl,rx⟩:=vals1 r;cases rx
 obtain⟨hz,lo,vs,kv,dd⟩:=vx I.ar hd;obtain⟨ep,da⟩:=dd.dictAt;have hlen:(ks.map fun p=>((Sum.inr p.1:Key),p.2)).length=vs.length:=kv.length;have OA:ks.length=vs.length:=by rw[<-hlen,aA]
 obtain⟨m,hm,_⟩:=id I.loc;refine V' (ys:=ks.map (·.1)) (kdl_dict (kvs:=vs) (ep:=ep) lo) (I.ok.hd hc) da (by omega) (fun us it=>?_) fun D c h' tk out ys k hD new gC p' zq=>?_
 ·refine Li (by rw[aA,OA];have:=it.1;simpa using this.symm) fun i x v hx hv=>?_
  obtain⟨key,y,hk,hi⟩:=it.2 i v (by simpa using hv)
  obtain⟨p,hp,rfl⟩:=ib.mp (by rw[<-eX];exact hx)
  have e:(Sum.inr p.1:Key)=key:=by
   have fV:(ks.map fun p=>((Sum.inr p.1:Key),p.2))[i]? = some (Sum.inr p.1,p.2):=by rw[eX,hp];rfl
   clear it hx hv hlen OA da dd q hz hd hp mf;generalize (ks.map fun p=>((Sum.inr p.1:Key),p.2))=kl at kv fV
   induction kv generalizing i with
   |nil=>simp at fV
   |cons p _ ih =>
    cases i with
    |zero =>
     simp at fV hk;subst fV;have:=p.1;rw[hk]at this;exact this
    |succ i=>exact ih i (by simpa using hk) (by simpa using fV)
  subst e;exact Kk (show Value.isStrOf p.1 v=true from hi)
 ·obtain⟨hn,I'⟩:=Inv.sorted (t':=tk) (ys:=ys.map V.str) I hm (hm.at' fun o e=>k _ _ e) (fun b o _ e=>k b o e) hD new (Ei gC) (by rw[aA,p'.length_eq,aA,aN];omega)
  exact⟨.ref D,_,I',rfl,q _ ys hn p' zq⟩
theorem keyed:∀ {ks:List Str},kvs.map (·.1)=ks.map Sum.inr -> ∃ps:List (Str×V),kvs=ps.map (fun p=>(Sum.inr p.1,p.2))/\ps.map (·.1)=ks:=by
 induction kvs with
 |nil=>intro ks h;cases ks with
  |nil=>exact⟨[],rfl,rfl⟩
  |cons _ _=>simp at h
 |cons kv kvs ih =>
  intro ks h;cases ks with
  |nil=>simp at h
  |cons k ks =>
   simp only[cz,List.cons.injEq]at h;obtain⟨ps,e1,e2⟩:=ih h.2;refine⟨(k,kv.2)::ps,?_,?_⟩
   ·rw[cz,<-e1,<-h.1]
   ·rw[cz,e2]
theorem Le (hc:X.calm=true):d5 X (.builtin "sorted") (fun xs H Q=>∃ (d:Addr) (kvs:List (Key×V)) (ks:List Str),xs = [.ref d]/\H d=some (.dK kvs)/\kvs.map (·.1)=ks.map Sum.inr/\ks.length<=63 /\ ∀D fj,H D=none->fj.Perm ks->sortedS fj=true->Q (.ref D) (upd H D (.lst (fj.map V.str)))):=by
 intro pins s σ H xs us Q I r h;obtain⟨d,kvs,ks,ex,hd,hk,mf,q⟩:=h;obtain⟨ps,e1,e2⟩:=keyed hk;subst e1;subst e2;exact Vp hc pins s σ H xs us Q I r ⟨d,ps,ex,hd,by simpa using mf,q⟩
end L2
namespace L2
open PySem PySem.Spec PyProof.Rows PySem.W HT
theorem Wa:d5 X (.type "dict") (fun xs H Q=>∃a kvs,xs = [.ref a]/\H a=some (.dK kvs) /\ ∀d,H d=none->Q (.ref d) (upd H d (.dK kvs))):=by
 intro pins s σ H xs us Q I r h;obtain⟨a,kvs,rfl,e,q⟩:=h;obtain⟨u,rfl,ru⟩:=vals1 r;cases ru
 obtain⟨z,hd,vs,rel,dd⟩:=vx I.ar e;have big:=I.big;refine kt_call_dict hd dd (by rw[<-rel.length];exact z) fun h' nc sb=>?_
 refine⟨.ref s.heap.objs.size,_,I.laid (a:=s.heap.objs.size) (o:= .dK kvs) (t':=s.toks) (fun b o hb=>?_) (aR _) (Fu z (oV.mpr (aO (bp big))) rel nc),rfl,q _ (I.ar.fresh (aR _))⟩;have nb:b≠s.heap.objs.size:=bp (aV hb);rw[sb.2 b nb];exact aT _ hb
def aaF:R2:=fun x y H Q=>∃a b kvs,x = .ref a/\y = .ref b/\H a=some (.dK kvs)/\H b=some (.dK [])/\Q (.bl (!kvs.isEmpty)) H
theorem YM (hu:X.A.units+64 < cLine):cN X (compareOp .NotEq) aaF:=by
 intro pins s σ H x y v u Q I rx ry h;obtain⟨a,b,kvs,rfl,rfl,ha,hb,q⟩:=h;cases rx;cases ry
 obtain⟨_,za,vs,rel,da⟩:=vx I.ar ha;obtain⟨_,zb,vs2,acm,db⟩:=vx I.ar hb;cases acm
 have e:=rel.length;refine keq_ne (r:=true) za zb da db (by omega) (fun h=>?_) ⟨.bl (!kvs.isEmpty),H,I,?_,q⟩
 ·rw[akw.mp h];exact .nil
 ·cases kvs with
  |nil=>cases vs with
   |nil=>rfl
   |cons _ _=>cases e
  |cons _ _=>cases vs with
   |nil=>cases e
   |cons _ _=>rfl
def Itm (d:Addr) (o:Obj) (kvs:List (Key×V)):It:=⟨fun i H=>H d=some (.cB o (.dK kvs))/\i < kvs.length,fun i H x H'=>∃t kv,H t=none/\x = .ref t/\kvs[i]? = some kv/\H'=upd H t (.tup [kV kv.1,kv.2]),fun i H=>H d=some (.cB o (.dK kvs))/\kvs.length<=i⟩
theorem KV.get {vs:List (Key×Value)} (r:KV kvs vs) {kv:Key×V} (h:kvs[i]? = some kv):∃v,vs[i]? = some (kv.1,v)/\RelV kv.2 v:=by
 induction r generalizing i with
 |nil=>cases h
 |@cons p q _ _ hp _ ih =>
  cases i with
  |zero=>cases h;exact⟨q.2,by rw[hp.1];rfl,hp.2⟩
  |succ i=>exact ih h
theorem LK (d it:Addr) (bB:d≠it) (o:Obj) (kvs:List (Key×V)) (vs:List (Key×Value)) (ep:Nat) (rk:KV kvs vs) (hD:∀h:Heap,h.get? d=some o->h.DictAt (cL P w) d vs ep) :
  Turn P w K (.Tuple elts n1 tp) (Itm d o kvs) [it] it (fun i h=>i<=kvs.length /\ ∃ok ov,IsItemIter h it d i vs.length ep ok ov) where
 mem:=by simp
 obj:=fun i h st b hb=>by
  obtain rfl:b=it:=by simpa using hb
  obtain⟨_,ok,ov,h1⟩:=st;exact⟨_,h1,fun v q=>by cases q⟩
 keep:=fun i h h' st k=>by
  obtain⟨l,ok,ov,h1⟩:=st;exact⟨l,ok,ov,k it (by simp) _ h1⟩
 item:=by
  intro X hP hw hK hc i pins s σ H E I hf st hg;subst hP hw hK;have fi:=hf it (by simp)
  obtain⟨hle,ok,ov,h1⟩:=st;have hd:=hD s.heap (show bu X.prog X.w H s.heap d (.cB o (.dK kvs)) from I.ar d _ hg.1).1;have eJ:i < kvs.length:=hg.2;have wH:kvs[i]? = some kvs[i]:=cP hg.2;obtain⟨v,hv,rv⟩:=rk.get wH;refine wpAny_pyNext_items_item (knd:=cL X.prog X.w) h1 hd hv fun key h' hk e1 t1 z1 k1=>⟨_,rfl,?_⟩;refine wpAny_letOwnedTupleGo_items (s:={ s with heap:=h' }) e1 fun gD e2 sb=>?_;have eS:it≠s.heap.objs.size:=bp (aV h1);have k2:∀b o,b≠it->s.heap.get? b=some o->gD.get? b=some o:=fun b o n1 q=>(sb.2 b n1).trans (k1 b o n1 q);have t2:gD.get? s.heap.objs.size=some { cls:= .type "tuple",data:= .seq #[key,v] }:=(sb.2 _ (aO eS)).trans t1;have hn:H s.heap.objs.size=none:=I.ar.fresh (aR _);have lt:∀b o,s.heap.get? b=some o->b≠s.heap.objs.size:=fun b o q=>bp (aV q);have fU:∀b o,H b=some o->b≠it:=fun b o q z=>by rw[z,fi.1]at q;cases q
  have dv:∀b,b ∉ [it]->b≠it:=fun b hb z=>hb (by simp[z])
  have J:Inv X pins σ (upd H s.heap.objs.size (.tup [kV kvs[i].1,kvs[i].2])) { s with heap:=gD }:=by
   refine I.step (g':=s.gens) (d':=s.drawn) (t':=s.toks) (ch:= [it]) (fun b hb=>?_) (fun b o _ _ hc q _=>k2 b o (dv b hc) q) (fun b o _ _ hc q _=>⟨o.slots,k2 b o (dv b hc) q⟩)
    (fun b o _ q n=>by rw[ah (lt b o q)];exact n) (fun b o hc q=>⟨o,k2 b o (dv b hc) q⟩) (fun b ys q=>by rw[ah (ao q hn)];exact q) (fun b o v q=>by rw[ah (ao q hn)];exact q)
    (fun b ps q=>⟨#[],by rw[ah (ao q hn),q];simp⟩) (fun m hm=>?_) (fun b o q=>?_) I.bare
   ·obtain rfl:b=it:=by simpa using hb
    exact⟨fi.2.2.2.1,fi.2.1,fi.2.2.2.2.1,fi.2.2.2.2.2⟩
   ·obtain⟨o,es,ep,ho,r⟩:=hm
    exact⟨o,es,ep,k2 _ o (aO fi.2.1) ho,r⟩
   ·by_cases hb:b=s.heap.objs.size
    ·subst hb
     rw[ag]at q;cases q;exact⟨by rw[aN];show 2<=_;decide,[key,v],.cons (E3 hk) (.cons rv .nil),_,t2,rfl,_,rfl,rfl⟩
    ·rw[ah hb]at q
     refine(I.ar b o q).gY (fun c v hc z=>?_) (fun c z=>by rw[ah (ao z hn)];exact z) fun c ys z=>by rw[ah (ao z hn)];exact z
     rcases hc with hc|hc
     ·subst hc;exact k2 _ v (fU _ _ q) z
     ·exact k2 c v (fU _ _ hc) z
  refine⟨.ref s.heap.objs.size,_,J,rfl,⟨s.heap.objs.size,kvs[i],hn,rfl,wH,rfl⟩,⟨hg.2,_,_,e2⟩,fun b hb=>?_⟩;obtain rfl:b=it:=by simpa using hb
  rw[ah eS];exact fi.1
 done:=by
  intro X hP hw hK hc i pins s σ H E I hf st hg;subst hP hw hK;have fi:=hf it (by simp)
  obtain⟨hle,ok,ov,h1⟩:=st;have hd:=hD s.heap (show bu X.prog X.w H s.heap d (.cB o (.dK kvs)) from I.ar d _ hg.1).1;have hl:kvs.length=vs.length:=rk.length;exact wpAny_pyNext_items_end (knd:=cL X.prog X.w) (I.ok.hd hc) h1 hd (Aq (by have:=hg.2;omega)) fun h' eb=>⟨rfl,I.turned (t':=s.toks) (fun b o hb q=>eb b o hb q) fi.1 fi.2.1 fi.2.2.2.1 fi.2.2.2.2.1 fi.2.2.2.2.2⟩
 self:=fun _ _ _ _ _ st h=>by
  obtain⟨_,ok,ov,h1⟩:=st;exact kcp_self h1 h
def N2 (te:TE):TI:=fun σ H R=>te σ H fun v H1=>∃d kvs,v = .ref d/\((H1 d=some (.dK kvs) /\ ∀o,R (Itm d o kvs) (upd H1 d (.cB o (.dK kvs)))) \/ ∃o,H1 d=some (.cB o (.dK kvs))/\R (Itm d o kvs) H1)
theorem XR {om:Pos} (he:PE X e te) (FH:attributeBase e "items" X.env (eval e X.env)=eval e X.env:=by rfl) (FK:(apos.endLine==om.line)=true:=by rfl) :
  PI X (.Tuple elts n1 tp) (.Call (.Attribute e "items" apos) [] [] om) (N2 te):=by
 intro pins s σ H R I h;refine wpAny_Call_method (T:= "dict") (id:= "dict.items") FH rfl FK F.plainAttrs_dict F.slot_dict_items F.type_dict_items (aE (he pins s σ H _ I h) fun v s1 hQ9=>?_);obtain⟨y,H1,I1,r1,d,kvs,ey,q⟩:=hQ9;subst ey;cases r1
 have rd:Rd H1 d (.dK kvs):=by
  rcases q with⟨e,_⟩|⟨o,e,_⟩
  ·exact .inl e
  ·exact .inr ⟨o,e⟩
 obtain⟨hz,hs,vs,rk,ql⟩:=rb I1.ar rd;obtain⟨o,es,ep,ho,hx,rO,hk,hp,hn⟩:=id ql;refine⟨ql.typeIs,ql.mapOf.noDict,?_⟩;refine method_meetsIn F.slot_dict_items F.entry_dict_items rfl (PySem.evalArgs_none ⟨rfl,ql.typeIs,F.args_dict_items_1 _,_,meets_dict_items (cL X.prog X.w) d hs,⟨vs,ql⟩,?_⟩);have bB:d≠s1.heap.objs.size+1:=fun z=>absurd (aV ho) (by rw[z];exact Nat.not_lt_of_le (lG _))
 have hD:∀h:Heap,h.get? d=some o->h.DictAt (cL X.prog X.w) d vs ep:=fun h e=>⟨o,es,e,hx,rO,hk,hp,hn⟩;have t9:=aT { cls:= .type "dict_items",data:= .fields #[.ref d] } ho;refine wpAny_pyIter_items (knd:=cL X.prog X.w) (s:={ s1 with heap:=s1.heap.push { cls:= .type "dict_items",data:= .fields #[.ref d] } }) ⟨_,cu _ rfl,rfl,rfl⟩ (hD _ t9) ?_;have ez:(s1.heap.push { cls:= .type "dict_items",data:= .fields #[.ref d] }).objs.size=s1.heap.objs.size+1:=lH ..;have I2:Inv X pins σ H1 { s1 with heap:=(s1.heap.push { cls:= .type "dict_items",data:= .fields #[.ref d] }).push { cls:= .type "dict_itemiterator",data:= .fields #[.none,.bool false,.ref d,.int 0 0,.int vs.length 0,.int ep 0,.none,.none] } }:=I1.kept (t':=s1.toks) fun b ob z=>aT _ (aT _ z);have st:0<=kvs.length /\ ∃ok ov,IsItemIter ((s1.heap.push { cls:= .type "dict_items",data:= .fields #[.ref d] }).push { cls:= .type "dict_itemiterator",data:= .fields #[.none,.bool false,.ref d,.int 0 0,.int vs.length 0,.int ep 0,.none,.none] }) (s1.heap.objs.size+1) d 0 vs.length ep ok ov:=
  ⟨bG _,.none,.none,by show Heap.get? _ (s1.heap.objs.size+1)=_;rw[<-ez];exact cu _ rfl⟩
 have lq:H1 (s1.heap.objs.size+1)=none:=I1.ar.fresh (lG _);show Hz X pins σ _ R (.ref (s1.heap.push { cls:= .type "dict_items",data:= .fields #[.ref d] }).objs.size) _;rw[ez];rcases q with⟨e,q⟩|⟨o',e,q⟩
 ·refine⟨s1.heap.objs.size+1,[s1.heap.objs.size+1],_,_,_,rfl,I2.freeze e (aT _ t9),LK d (s1.heap.objs.size+1) bB o kvs vs ep rk hD,st,fun b hb=>?_,q o⟩
  obtain rfl:b=s1.heap.objs.size+1:=by simpa using hb
  exact I1.jD (lG _) (by rw[ah (aO bB)];exact lq)
 ·obtain rfl:o'=o:=by
   have:=(show bu X.prog X.w H1 s1.heap d (.cB o' (.dK kvs)) from I1.ar d _ e).1;rw[ho]at this;exact(f' this).symm
  refine⟨s1.heap.objs.size+1,[s1.heap.objs.size+1],_,_,H1,rfl,I2,LK d (s1.heap.objs.size+1) bB o' kvs vs ep rk hD,st,fun b hb=>?_,q⟩;obtain rfl:b=s1.heap.objs.size+1:=by simpa using hb
  exact I1.jD (lG _) lq
theorem Wb {g:TG} (Pv:Nat->List V->St->Hp->Prop) (h0:Pv 0 [] jf (upd H1 p (.lst []))) (hl:∀i ys τ H,Pv i ys τ H->H p=some (.lst ys)/\H d=some (.cB o (.dK kvs)))
  (hs:∀i kv t ys τ H,kvs[i]? = some kv->H t=none->Pv i ys τ H->g (.ref t) τ (upd H t (.tup [kV kv.1,kv.2])) fun cJ H4=>ti cJ H4 fun b H5=>if b=true then te cJ H5 fun y H6=>H6 p=some (.lst ys)/\ys.length < sizeLine /\ ∃m',m' < kvs.length - i/\CW Pv kvs.length (i+1) m' (ys ++ [y]) cJ (upd H6 p (.lst (ys ++ [y]))) else ∃m',m' < kvs.length - i/\CW Pv kvs.length (i+1) m' ys cJ H5)
  (hd:∀ys τ H,Pv kvs.length ys τ H->Q (.ref p) H):jz (Itm d o kvs) g ti te jf Q p H1:=by
 refine⟨CW Pv kvs.length,⟨kvs.length,by simp,bG _,h0⟩,?_⟩
 rintro i m ys τ H ⟨rfl,hi,pv⟩;obtain⟨hp,hq⟩:=hl i ys τ H pv;refine⟨hp,?_⟩
 by_cases aS:i < kvs.length
 ·refine .inr ⟨⟨hq,aS⟩,fun x H3 y3=>?_⟩
  obtain⟨t,kv,ht,ex,fV,e3⟩:=y3;subst e3;subst ex;exact hs i kv t ys τ _ fV ht pv
 ·have e:i=kvs.length:=by omega
  subst e;exact .inl ⟨⟨hq,aR _⟩,hd ys τ H pv⟩
def aaG:R2:=fun x y H Q=>∃a b xs,x = .ref a/\y = .ref b/\H a=some (.lst xs)/\H b=some (.lst [])/\Q (.bl xs.isEmpty) H
theorem YN (hu:X.A.units+64 < cLine):cN X (compareOp .Eq) aaG:=by
 intro pins s σ H x y v u Q I rx ry h;obtain⟨a,b,xs,rfl,rfl,ha,hb,q⟩:=h;cases rx;cases ry
 obtain⟨its,rv,pl,_⟩:=I.list (aj.of ha);obtain⟨oj,qp,IE,_⟩:=I.list (aj.of hb);cases qp
 have e:xs.length=its.length:=rv.length;cases xs with
 |nil =>
  have e0:its = []:=akw.mp e.symm;subst e0;exact SeqAt.RcAt.lists (e:=fun _=>true) pl.isList IE.isList rfl (by omega) (fun j h1 h2=>absurd h2 (by simp)) X.prog X.w X.xe _ ⟨.bl _,H,I,rfl,q⟩
 |cons x xs =>
  refine SeqAt.RcAt.lists_lengths pl.isList IE.isList ?_ (by omega) X.prog X.w X.xe _ ⟨.bl _,H,I,rfl,q⟩
  cases its with
  |nil=>cases e
  |cons i its=>simp
end L2
namespace L2
open PySem PySem.W
abbrev pr (x:Str) (s:Stmt):Str×Stmt:=(x,s)
def Cy (K:Frag):List (Str×Stmt)->Prop
 |[]=>True
 |p::r=>(∃f fd,aW K p.1 p.1 p.2 f fd/\nsIn K mainGlobals p.1=some (some (.ref f)))/\Cy K r
def GH (K:Frag):List Str->Prop
 |[]=>True
 |x::r=>nsIn K mainGlobals x=some none/\GH K r
def GJ (K:Frag):List Str->List Addr->Prop
 |x::r,a::s=>nsIn K mainGlobals x=some (some (.ref a))/\GJ K r s
 |_,_=>True
theorem aaH {p:Str×Stmt}{r:List (Str×Stmt)}{kV:Value} (a:nsIn K mainGlobals p.1=some (some (.ref f)))
  (l:K.lookup f=some ⟨oc,od,.func (fnOf p.1 p.1 (kr p.2) (b9 p.2) (aJ p.2) .none kV doc pm an cdv ct),oq⟩) (c:codeIn K cdv p.1=true) (k:keepIn K (.ref f)=true) (g:Cy K r):Cy K (p::r):=⟨⟨f,_,Fp l c k,a⟩,g⟩
theorem xV {p:Str×Stmt} (X:K.In h) (G:h.Ns mainGlobals mg) (d:∃f fd,aW K p.1 p.1 p.2 f fd/\nsIn K mainGlobals p.1=some (some (.ref f))) (ps:List Str)
  (b:∀ (kV doc pm:Value) (an:Option Addr) (cdv ct:Value) (us:List Value),us.length=ps.length->bindArgs (fnOf p.1 p.1 (kr p.2) (b9 p.2) (aJ p.2) .none kV doc pm an cdv ct) ⟨us,[]⟩=pure (ps.zip us)) :
  ∃f fd,aW K p.1 p.1 p.2 f fd/\keepIn K (.ref f)=true/\Binds K fd ps []/\mg p.1=some (.ref f):=by
 obtain⟨f,fd,F,a⟩:=d;exact⟨f,fd,F,F.kp,F.binds b,mg_of X G a⟩
theorem FY (h:us.length=n+1):∃u r,us=u::r/\r.length=n:=by
 cases us with
 |nil=>cases h
 |cons u r=>exact⟨u,r,rfl,Nat.succ.inj h⟩
theorem GU (h:us.length=2):∃a b,us = [a,b]:=by
 obtain⟨a,r,rfl,h2⟩:=FY h;obtain⟨b,rfl⟩:=UP.mp h2;exact⟨a,b,rfl⟩
theorem GV (h:us.length=3):∃a b c,us = [a,b,c]:=by
 obtain⟨a,r,rfl,h2⟩:=FY h;obtain⟨b,c,rfl⟩:=GU h2;exact⟨a,b,c,rfl⟩
theorem acn (h:us.length=4):∃a b c d,us = [a,b,c,d]:=by
 obtain⟨a,r,rfl,h2⟩:=FY h;obtain⟨b,c,d,rfl⟩:=GV h2;exact⟨a,b,c,d,rfl⟩
theorem ku {p:Str×Stmt} (X:K.In h) (G:h.Ns mainGlobals mg) (d:∃f fd,aW K p.1 p.1 p.2 f fd/\nsIn K mainGlobals p.1=some (some (.ref f))) (x1:Str)
  (b:∀ (kV doc pm:Value) (an:Option Addr) (cdv ct u1:Value),bindArgs (fnOf p.1 p.1 (kr p.2) (b9 p.2) (aJ p.2) .none kV doc pm an cdv ct) ⟨[u1],[]⟩=pure ([x1].zip [u1]):=by intros;rfl) :
  ∃f fd,aW K p.1 p.1 p.2 f fd/\keepIn K (.ref f)=true/\Binds K fd [x1] []/\mg p.1=some (.ref f):=xV X G d _ fun kV doc pm an cdv ct us h=>by obtain⟨u1,rfl⟩:=UP.mp h;exact b _ _ _ _ _ _ _
theorem iQ {p:Str×Stmt} (X:K.In h) (G:h.Ns mainGlobals mg) (d:∃f fd,aW K p.1 p.1 p.2 f fd/\nsIn K mainGlobals p.1=some (some (.ref f))) (x1 x2:Str)
  (b:∀ (kV doc pm:Value) (an:Option Addr) (cdv ct u1 u2:Value),bindArgs (fnOf p.1 p.1 (kr p.2) (b9 p.2) (aJ p.2) .none kV doc pm an cdv ct) ⟨[u1,u2],[]⟩=pure ([x1,x2].zip [u1,u2]):=by intros;rfl) :
  ∃f fd,aW K p.1 p.1 p.2 f fd/\keepIn K (.ref f)=true/\Binds K fd [x1,x2] []/\mg p.1=some (.ref f):=xV X G d _ fun kV doc pm an cdv ct us h=>by obtain⟨u1,u2,rfl⟩:=GU h;exact b _ _ _ _ _ _ _ _
theorem u0 {p:Str×Stmt} (X:K.In h) (G:h.Ns mainGlobals mg) (d:∃f fd,aW K p.1 p.1 p.2 f fd/\nsIn K mainGlobals p.1=some (some (.ref f))) (x1 x2 x3:Str)
  (b:∀ (kV doc pm:Value) (an:Option Addr) (cdv ct u1 u2 u3:Value),bindArgs (fnOf p.1 p.1 (kr p.2) (b9 p.2) (aJ p.2) .none kV doc pm an cdv ct) ⟨[u1,u2,u3],[]⟩=pure ([x1,x2,x3].zip [u1,u2,u3]):=by intros;rfl) :
  ∃f fd,aW K p.1 p.1 p.2 f fd/\keepIn K (.ref f)=true/\Binds K fd [x1,x2,x3] []/\mg p.1=some (.ref f):=xV X G d _ fun kV doc pm an cdv ct us h=>by obtain⟨u1,u2,u3,rfl⟩:=GV h;exact b _ _ _ _ _ _ _ _ _
theorem YO {p:Str×Stmt} (X:K.In h) (G:h.Ns mainGlobals mg) (d:∃f fd,aW K p.1 p.1 p.2 f fd/\nsIn K mainGlobals p.1=some (some (.ref f))) (x1 x2 x3 x4:Str)
  (b:∀ (kV doc pm:Value) (an:Option Addr) (cdv ct u1 u2 u3 u4:Value),bindArgs (fnOf p.1 p.1 (kr p.2) (b9 p.2) (aJ p.2) .none kV doc pm an cdv ct) ⟨[u1,u2,u3,u4],[]⟩=pure ([x1,x2,x3,x4].zip [u1,u2,u3,u4]):=by intros;rfl) :
  ∃f fd,aW K p.1 p.1 p.2 f fd/\keepIn K (.ref f)=true/\Binds K fd [x1,x2,x3,x4] []/\mg p.1=some (.ref f):=xV X G d _ fun kV doc pm an cdv ct us h=>by obtain⟨u1,u2,u3,u4,rfl⟩:=acn h;exact b _ _ _ _ _ _ _ _ _ _
theorem YQ {p:Str×Stmt} (X:K.In h) (G:h.Ns mainGlobals mg) (d:∃f fd,aW K p.1 p.1 p.2 f fd/\nsIn K mainGlobals p.1=some (some (.ref f))) (x1 x2 x3 x4 x5:Str)
  (b:∀ (kV doc pm:Value) (an:Option Addr) (cdv ct u1 u2 u3 u4 u5:Value),bindArgs (fnOf p.1 p.1 (kr p.2) (b9 p.2) (aJ p.2) .none kV doc pm an cdv ct) ⟨[u1,u2,u3,u4,u5],[]⟩=pure ([x1,x2,x3,x4,x5].zip [u1,u2,u3,u4,u5]):=by intros;rfl) :
  ∃f fd,aW K p.1 p.1 p.2 f fd/\keepIn K (.ref f)=true/\Binds K fd [x1,x2,x3,x4,x5] []/\mg p.1=some (.ref f):=xV X G d _ fun|_,_,_,_,_,_,[_,_,_,_,_],_=>b _ _ _ _ _ _ _ _ _ _ _
theorem Nx (X:K.In h) (G:h.Ns mainGlobals mg):∀ {xs:List Str},GH K xs -> ∀x∈xs,mg x=none
 |y::r,z,x,m=>by
  rcases aY.mp m with rfl|q
  ·exact mg_none_of X G z.1
  ·exact Nx X G z.2 x q
theorem Ny (X:K.In h) (G:h.Ns mainGlobals mg):∀ {xs:List Str}{as:List Addr} (i:Nat) {x:Str}{a:Addr},GJ K xs as->xs[i]? = some x->as[i]? = some a->mg x=some (.ref a)
 |y::r,b::s,0,x,a,z,e,e'=>by cases e;cases e';exact mg_of X G z.1
 |y::r,b::s,i+1,x,a,z,e,e'=>Ny X G (xs:=r) (as:=s) i z.2 e e'
end L2
namespace L2
open PySem
def cT (k:Nat):List (List Str)->Str->Option (Nat×Str)
 |[],_=>none
 |[]::rest,n=>cT (k+1) rest n
 |(x::r)::rest,n=>if n∈x::r/\x≠n then some (k,x) else cT (k+1) rest n
theorem Lf {k:Nat}{n:Str} (h : ¬ (n∈r/\r.head? ≠ some n)):cT k (r::rest) n=cT (k+1) rest n:=by
 cases r with
 |nil=>rfl
 |cons x r=>exact au fun z=>h ⟨z.1,by simpa using z.2⟩
theorem Vq {k:Nat}{n:Str} (h:n∈x::r/\x≠n):cT k ((x::r)::rest) n=some (k,x):=by
 exact aB h
def kj (all:List (List Str)):List (List Str)->Option Str
 |[]=>none
 |[]::rest=>kj all rest
 |(x::_)::rest=>if (cT 0 all x).isNone then some x else kj all rest
def fg (rest:List (List Str)):Option Str:=kj rest rest
def without (n:Str) (rest:List (List Str)):List (List Str):=rest.map fun r=>r.filter fun y=>!decide (y=n)
def total (rest:List (List Str)):Nat:=(rest.map List.length).sum
def bw:Nat->List (List Str)->Option (List Str)
 |0,_=>some []
 |k+1,rest=>if (rest.any fun r=>!r.isEmpty)=true then (match fg rest with|none=>none|some n=>(bw k (without n rest)).map (n :: ·)) else some []
theorem AA {all:List (List Str)}{n:Str}:∀ {rest:List (List Str)},kj all rest=some n -> ∃r∈rest,r.head? = some n
 |[],h=>by cases h
 |[]::rest,h=>let ⟨r,hr,e⟩:=AA (rest:=rest) h;⟨r,cp _ hr,e⟩
 |(x::t)::rest,h=>by
  have h:(if (cT 0 all x).isNone then some x else kj all rest)=some n:=h;split at h
  ·cases h;exact⟨n::t,bj,rfl⟩
  ·obtain⟨r,hr,e⟩:=AA (rest:=rest) h
   exact⟨r,cp _ hr,e⟩
theorem La (n:Str):∀rest:List (List Str),total (without n rest)<=total rest
 |[]=>aR _
 |r::rest=>by
  have h1:=La n rest;have h2:=nQ (fun y=>!decide (y=n)) r;simp only[total,without,cz,K1]at *;omega
theorem uD {n:Str}:∀ {rest:List (List Str)},(∃r∈rest,n∈r)->total (without n rest) < total rest
 |[],⟨_,h,_⟩=>by simp at h
 |r::rest,⟨q,hq,hn⟩=>by
  have h1:=La n rest;have h2:=nQ (fun y=>!decide (y=n)) r;rcases aY.mp hq with rfl|hq
  ·have h3:(q.filter fun y=>!decide (y=n)).length < q.length:=by
    exact List.length_filter_lt_length_iff_exists.mpr ⟨n,hn,by simp⟩
   simp only[total,without,cz,K1]at *;omega
  ·have h3:=uD ⟨q,hq,hn⟩
   simp only[total,without,cz,K1]at *;omega
theorem le_total {r:List Str}:∀ {rest:List (List Str)},r∈rest->r.length<=total rest
 |[],h=>by simp at h
 |q::rest,h=>by
  have e:total (q::rest)=q.length+total rest:=by simp[total]
  rcases aY.mp h with rfl|h
  ·omega
  ·have:=le_total h
   omega
theorem Ek (h:(rest.any fun r=>!r.isEmpty)=true):0 < total rest:=by
 obtain⟨r,hr,e⟩:=sj.mp h;have h1:0 < r.length:=by cases r with
  |nil=>simp at e
  |cons _ _=>simp
 have h2:r.length<=total rest:=le_total hr;omega
def ee (H:Hp) (vs:List V) (rows:List (List Str)):Prop:=Paired (fun y r=>∃a,y=V.ref a/\H a=some (.tup (r.map V.str))) vs rows
theorem ee.same (h:ee H vs rows) (s:aq H H'):ee H' vs rows:=Paired.imp' (fun _ _ ⟨a,e,q⟩=>⟨a,e,s _ _ q⟩) h
theorem ee.length (h:ee H vs rows):vs.length=rows.length:=mj h
theorem ee.get {H:Hp}:∀ {vs:List V}{rows:List (List Str)}{i:Nat}{v:V},ee H vs rows->vs[i]? = some v -> ∃a r,v=V.ref a/\rows[i]? = some r/\H a=some (.tup (r.map V.str))
 |_,_,i,v,.nil,e=>by simp at e
 |_,_,0,v,.cons p _,e=>by
  obtain⟨a,rfl,q⟩:=p;simp at e;subst e;exact⟨a,_,rfl,rfl,q⟩
 |_,_,i+1,v,.cons _ t,e=>by
  obtain⟨a,r,e1,e2,q⟩:=ee.get (i:=i) t (by simpa using e)
  exact⟨a,r,e1,by simpa using e2,q⟩
theorem ee.append {H:Hp}{vs:List V}{rows:List (List Str)}{a:Addr}{r:List Str}:ee H vs rows->H a=some (.tup (r.map V.str))->ee H (vs ++ [.ref a]) (rows ++ [r])
 |.nil,q=>.cons ⟨a,rfl,q⟩ .nil
 |.cons p t,q=>.cons p (ee.append t q)
end L2
namespace lu
open PySem L2 PySem.W
def top (i:Nat):Stmt:=PySem.Challenge.pw_parentlines_k26_whole_parents_changed.main.body.getD i (.Pass ⟨0,0,0,0⟩)
noncomputable abbrev rh:Stmt:=inClass (top 14) 0
noncomputable abbrev sO:Stmt:=inClass (top 15) 0
noncomputable abbrev xG:Stmt:=top 19
noncomputable abbrev E8:Stmt:=top 20
noncomputable abbrev xH:Stmt:=top 22
noncomputable abbrev Bo:Stmt:=top 23
noncomputable abbrev vz:Stmt:=top 24
noncomputable abbrev vj:Stmt:=top 25
noncomputable abbrev xW:Stmt:=top 26
noncomputable abbrev pP:Stmt:=top 29
noncomputable abbrev E9:Stmt:=top 30
noncomputable abbrev Fb:Stmt:=top 31
noncomputable abbrev ym:Stmt:=top 32
noncomputable abbrev Fc:Stmt:=top 33
noncomputable abbrev vk:Stmt:=top 34
noncomputable abbrev xw:Stmt:=top 35
noncomputable abbrev Fd:Stmt:=top 36
noncomputable abbrev yz:Stmt:=top 37
noncomputable abbrev EI:Stmt:=top 39
noncomputable abbrev Fe:Stmt:=top 40
noncomputable abbrev FZ:Stmt:=top 41
noncomputable abbrev xA:Stmt:=top 42
noncomputable abbrev GX:Stmt:=top 44
noncomputable abbrev xX:Stmt:=top 45
noncomputable abbrev pQ:Stmt:=top 46
noncomputable abbrev nT:Stmt:=top 47
noncomputable abbrev xY:Stmt:=top 48
noncomputable abbrev El:Stmt:=top 49
noncomputable abbrev xB:Stmt:=top 50
noncomputable abbrev F0:Stmt:=top 51
noncomputable abbrev Fw:Stmt:=top 52
noncomputable abbrev pR:Stmt:=top 53
noncomputable abbrev pJ:Stmt:=top 54
noncomputable abbrev Ff:Stmt:=top 55
noncomputable abbrev F6:Stmt:=top 56
noncomputable abbrev sY:Stmt:=top 57
noncomputable abbrev uN:Stmt:=top 58
noncomputable abbrev DZ:Stmt:=top 59
noncomputable abbrev xI:Stmt:=top 60
noncomputable abbrev xZ:Stmt:=top 61
noncomputable abbrev vL:Stmt:=top 62
structure dB (mg:Str->Option Value):Prop where
 len:mg "len" = none
 max:mg "max" = none
 min:mg "min" = none
 abs:mg "abs" = none
 range:mg "range" = none
 any:mg "any" = none
 all:mg "all" = none
 list:mg "list" = none
 tuple:mg "tuple" = none
 enu:mg "enumerate" = none
theorem jK {y:Str}:cC ((y::r).map V.str) 0=some (V.str y):=(show cC ((y::r).map V.str) ((0:Nat):Int)=some (V.str y) from eG rfl)
theorem ay {q:Addr}{o:HO} (hq:H q=none):aq H (upd H q o):=fun b u e=>by rw[ah (ao e hq)];exact e
theorem XS {xs:List V}{g:TG} (Pv:Nat->St->Hp->Prop) (h0:Pv 0 σ H) (hl:∀i σ H,i<=xs.length->Pv i σ H->aj K H a xs)
  (hs:∀i x σ H t,xs[i]? = some x->Pv i σ H->H t=none->g (.ref t) σ (upd H t (.tup [.int i,x])) fun gj H2=>tb { D with nx:=Pv (i+1),ct:=Pv (i+1),bk:=D.nx } gj H2) (hd:∀σ H,Pv xs.length σ H->D.nx σ H) :
  ∃W:Nat->Nat->St->Hp->Prop,(∃m,W 0 m σ H) /\ ∀i m σ H,W i m σ H ->
   ((y6 K a).stop i H/\D.nx σ H)\/((y6 K a).go i H /\ ∃N:St->Hp->Prop,(∀aG H',N aG H' -> ∃m',m' < m/\W (i+1) m' aG H') /\ ∀x H',(y6 K a).oB i H x H'->g x σ H' fun gj H2=>tb { D with nx:=N,ct:=N,bk:=D.nx } gj H2):=by
 refine⟨fun i m σ H=>m=xs.length - i/\i<=xs.length/\Pv i σ H,⟨xs.length,by simp,bG _,h0⟩,?_⟩
 rintro i m σ H ⟨rfl,hi,p⟩;have q:=hl i σ H hi p
 by_cases aS:i < xs.length
 ·refine .inr ⟨⟨xs,xs[i],q,by simp[aS]⟩,Pv (i+1),fun aG H' p'=>⟨xs.length - (i+1),by omega,rfl,aS,p'⟩,fun x H' y=>?_⟩
  obtain⟨t,v,ht,rfl,hv,rfl⟩:=y;exact hs i v σ _ t (hv xs q) p ht
 ·have e:i=xs.length:=by omega
  subst e;exact .inl ⟨⟨xs,q,aR _⟩,hd σ H p⟩
@[irreducible] noncomputable def sP:Sp:=fun vs H Q _=>∃ (l:Addr) (ws:List V) (rows:List (List Str)) (n:Str),vs = [.ref l,.str n]/\H l=some (.lst ws)/\ee H ws rows /\
 (cT 0 rows n=none -> ∀H',aq H H'->Q .aF H')/\(∀i x,cT 0 rows n=some (i,x) -> ∀p H',H p=none->aq H H'->H' p=some (.tup [.int i,.str x,.str n])->Q (.ref p) H')
theorem Fx:b6 ["rest","name","at","row"] ["rest","name"] (aJ vz):=cF (by decide +kernel)
theorem Nz (F:aW K "wish_against" "wish_against" vz f fd) (B:dB mg):aI P w K mg base aQ 1 f fd ["rest","name"] sP:=by
 refine F.ok Fx (fun vs H Q E h=>?_) (fun cdv A outer s H vs Q E hr h=>?_)
 ·unfold sP at h;obtain⟨l,ws,rows,n,rfl,_⟩:=h;rfl
 ·unfold sP at h
  obtain⟨l,ws,rows,n,rfl,hl,hR,qn,qs⟩:=h;refine⟨_,aD (jx jt rfl (Yp rfl B.enu (af (pv 0) ai)) (pN rfl (eF (aX (i:=2) Fx.nd rfl (Or.inl rfl)) (eF (aX (i:=3) Fx.nd rfl (Or.inl rfl)) kq)))
    (aK (cQ (PW.pt (pw_and (cy Ec (pv 1) (pv 3) rfl) (pw_and1 (cy sX (cf lR (pv 3) aP (fun _ _=>rfl)) (pv 1) (cI _)))))
     (aK (bf (lQ (af (pv 2) (af (cf lR (pv 3) aP (fun _ _=>rfl)) (af (pv 1) ai)))))) cU)))
   (aK (bf iR)),?_⟩
  refine⟨_,rfl,l,rfl,⟨_,aj.of hl⟩,XS (xs:=ws) (fun i σ H1=>∃v2 v3:Option V,σ = [some (.ref l),some (.str n),v2,v3]/\aq H H1/\cT i (rows.drop i) n=cT 0 rows n) ⟨none,none,rfl,aq.refl _,by simp⟩ (fun i σ H1 _ ⟨_,_,_,z,_⟩=>aj.of (z _ _ hl)) ?_ ?_⟩
  ·rintro i x σ H1 t hx ⟨v2,v3,rfl,S1,hw⟩ ht
   obtain⟨a,r,rfl,eK,gU⟩:=hR.get hx;have S2:aq H (upd H1 t (.tup [.int i,.ref a])):=S1.trans (ay ht);have qq:=S2 _ _ gU;have IF:rows.drop i=r::rows.drop (i+1):=by
    have hi:=(cR.mp eK);obtain⟨zv,rfl⟩:=hi;exact Dr zv
   rw[IF]at hw;refine⟨t,_,rfl,aC.of ag,rfl,_,_,rfl,_,_,rfl,rfl,?_⟩;refine⟨_,rfl,_,rfl,a,_,rfl,.inr (aC.of qq),rfl,i8 _,_,rfl,?_⟩;rw[au de,jR];refine fq (fun cO=>?_) (fun cO=>?_)
   ·have k9:n∈r:=by simpa using cO
    cases r with
    |nil=>simp at k9
    |cons y r =>
     refine⟨_,rfl,a,_,0,.str y,rfl,rfl,aC.of qq,jK,_,rfl,rfl,_,rfl,?_⟩;refine fq (fun bB=>?_) (fun bB=>?_)
     ·have lX:y≠n:=fun z=>by subst z;simp at bB
      refine⟨_,rfl,_,rfl,a,_,0,.str y,rfl,rfl,aC.of qq,jK,_,rfl,Ca,fun p hp=>?_⟩;rw[Vq ⟨k9,lX⟩]at hw;exact qs i y hw.symm p _ (S2.free hp) (S2.trans (ay hp)) ag
     ·have hy:y=n:=by
       by_cases z:y=n
       ·exact z
       ·exact absurd (by simp[z]) bB
      refine⟨_,_,rfl,S2,?_⟩;rw[<-hw,Lf fun z=>z.2 (by rw[hy];rfl)]
   ·refine⟨_,_,rfl,S2,?_⟩
    rw[<-hw,Lf fun z=>cO (by simpa using z.1)]
  ·rintro σ H1 ⟨v2,v3,rfl,S1,hw⟩
   rw[hR.length,K2]at hw;exact qn hw.symm H1 S1
theorem NA {n:Str} (hl:H l=some (.lst ws)) (hR:ee H ws rows) (qn:cT 0 rows n=none -> ∀H',aq H H'->Q .aF H')
  (qs:∀i x,cT 0 rows n=some (i,x) -> ∀p H',H p=none->aq H H'->H' p=some (.tup [.int i,.str x,.str n])->Q (.ref p) H'):sP [.ref l,.str n] H Q E:=by
 unfold sP;exact⟨l,ws,rows,n,rfl,hl,hR,qn,qs⟩
def G0:Option Str->V
 |none=>.aF
 |some n=>.str n
@[irreducible] noncomputable def u6:Sp:=fun vs H Q _=>∃ (l:Addr) (ws:List V) (rows:List (List Str)),vs = [.ref l]/\H l=some (.lst ws)/\ee H ws rows /\ ∀H',aq H H'->Q (G0 (fg rows)) H'
theorem NB:b6 ["rest","row"] ["rest"] (aJ Bo):=cF (by decide +kernel)
theorem XT (F:aW K "least_free" "least_free" Bo f fd) (B:dB mg) (FW:aW K "wish_against" "wish_against" vz fW rD) (bW:Binds K rD ["rest","name"] []) (mW:mg "wish_against" = some (.ref fW)) :
  aI P w K mg base aQ 2 f fd ["rest"] u6:=by
 have GW:aI P w K mg base aQ 1 fW rD ["rest","name"] sP:=Nz FW B;refine F.ok NB (fun vs H Q E h=>?_) (fun cdv A outer s H vs Q E hr h=>?_)
 ·unfold u6 at h;obtain⟨l,ws,rows,rfl,_⟩:=h;rfl
 ·unfold u6 at h
  obtain⟨l,ws,rows,rfl,hl,hR,q⟩:=h;have cK:a7 1 _:=hr;refine⟨_,aD (jx jt rfl (gJ (pv 0)) (aX (i:=1) NB.nd rfl (Or.inl rfl))
    (aK (cQ (PW.pt (pw_and (uT (pv 1) (fun _=>rfl)) (pw_and1 (cy xP (bc GW cK rfl mW FW.kp bW .nil a9 (af (pv 0) (af (cf lR (pv 1) aP (fun _ _=>rfl)) ai))) iR (cI _)))))
     (aK (bf (cf lR (pv 1) aP (fun _ _=>rfl)))) cU)))
   (aK (bf iR)),?_⟩
  refine⟨_,rfl,l,rfl,⟨_,aj.of hl⟩,xy (xs:=ws) (fun i σ H1=>∃v1:Option V,σ = [some (.ref l),v1]/\aq H H1/\kj rows (rows.drop i)=fg rows) ⟨none,rfl,aq.refl _,by simp[fg]⟩ (fun i σ H1 _ ⟨_,_,z,_⟩=>aj.of (z _ _ hl)) ?_ ?_⟩
  ·rintro i x σ H1 hx ⟨v1,rfl,S1,hw⟩
   obtain⟨a,r,rfl,eK,gU⟩:=hR.get hx;have gF:=S1 _ _ gU;have IF:rows.drop i=r::rows.drop (i+1):=by
    obtain⟨zv,rfl⟩:=cR.mp eK;exact Dr zv
   rw[IF]at hw;refine⟨_,rfl,!(r.map V.str).isEmpty,.inr (.inl ⟨_,aC.of gF,rfl⟩),?_⟩;cases r with
   |nil=>exact⟨_,rfl,S1,hw⟩
   |cons y r =>
    have hw:(if (cT 0 rows y).isNone then some y else kj rows (rows.drop (i+1)))=fg rows:=hw;refine⟨_,rfl,_,rfl,a,_,0,.str y,rfl,rfl,aC.of gF,jK,?_⟩;refine NA (S1 _ _ hl) (hR.same S1) (fun en H2 S2=>?_) (fun j z es p H2 hp S2 h2=>?_)
    ·refine⟨rfl,_,rfl,?_⟩
     refine⟨_,rfl,a,_,0,.str y,rfl,rfl,aC.of (S2 _ _ gF),jK,?_⟩;rw[en]at hw;have e:fg rows=some y:=hw.symm;have:=q H2 (S1.trans S2);rw[e]at this;exact this
    ·refine⟨rfl,_,rfl,?_⟩
     rw[es]at hw;exact⟨_,rfl,S1.trans S2,hw⟩
  ·rintro σ H1 ⟨v1,rfl,S1,hw⟩
   rw[hR.length,K2]at hw;have e:fg rows=none:=hw.symm;have:=q H1 S1;rw[e]at this;exact this
theorem XU (hl:H l=some (.lst ws)) (hR:ee H ws rows) (q:∀H',aq H H'->Q (G0 (fg rows)) H'):u6 [.ref l] H Q E:=by
 unfold u6;exact⟨l,ws,rows,rfl,hl,hR,q⟩
theorem Em (h:Nm x):(x.cps.toList.all fun c=>decide (c < 16 ^ 8))=true:=by
 rw[o7];intro c hc;have:=(h.az c hc).2;exact gI (by omega)
def rj (H:Hp) (v:V):Prop:= ∃ (a:Addr) (i:Nat) (x n:Str),v = .ref a/\H a=some (.tup [.int i,.str x,.str n])/\i < 10/\Nm x/\Nm n
theorem rj.same (h:rj H v) (s:aq H H'):rj H' v:=let ⟨a,i,x,n,e,q,r⟩:=h;⟨a,i,x,n,e,s _ _ q,r⟩
theorem WY:∀i:Nat,i < 10->PyData.leavesShort 13 (.int i)=true/\PyData.showable (.int i)=true:=by decide +kernel
theorem Ls {H:Hp}:∀ {vs:List V},(∀v∈vs,rj H v) -> ∃ds,ik H vs ds/\PyData.showableAll ds=true/\PyData.hasDictAll ds=false/\PyData.depthAll ds<=1/\PyData.leavesShortAll 13 ds=true/\PyData.bulkAll ds<=25 * vs.length
 |[],_=>⟨[],.nil,rfl,rfl,bG _,rfl,bG _⟩
 |v::vs,h=>by
  obtain⟨ds,h1,h2,h3,h4,h5,h6⟩:=Ls (vs:=vs) fun u hu=>h u (cp _ hu);obtain⟨a,i,x,n,rfl,ha,hi,hx,hn⟩:=h v bj;obtain⟨s1,s2⟩:=WY i hi;have s1':PyData.leavesShort 13 (.int (i:Int))=true:=s1;have s2':PyData.showable (.int (i:Int))=true:=s2;have z1:x.cps.size<=8:=hx.hi;have z2:n.cps.size<=8:=hn.hi;refine⟨.tuple [.int i,.str x,.str n]::ds,.cons (.tup ha (.cons (.int _) (.cons (.str _) (.cons (.str _) .nil)))) h1,?_,?_,?_,?_,?_⟩
  ·simp only[PyData.showableAll,PyData.showable,h2,Ax]
   simpa [PyData.showable] using s2'
  ·simp only[PyData.hasDictAll,PyData.hasDict,h3,Km]
  ·simp only[PyData.depthAll,PyData.depth];omega
  ·simp only[PyData.leavesShortAll,PyData.leavesShort,h5,Em hx,Em hn,Ax]
   simpa [PyData.leavesShort] using s1'
  ·simp only[PyData.bulkAll,PyData.bulk,eN];omega
theorem LL (hp:H p=some (.tup vs)) (h:∀v∈vs,rj H v) (bV:vs.length<=100):kH H (.ref p):=by
 obtain⟨ds,h1,h2,h3,h4,h5,h6⟩:=Ls h;refine .inr (.inr ⟨p,.tuple ds,rfl,.tup hp h1,h2,h3,?_,?_⟩)
 ·simp only[PyData.depth];omega
 ·have:=PyData.shown_le_bulk 13 (by decide) (.tuple ds) h5
  simp only[PyData.bulk]at this;omega
def heads (rows:List (List Str)):List Str:=rows.filterMap List.head?
theorem uO (rows:List (List Str)):(heads rows).length<=rows.length:=T' _ _
theorem pG {n:Str}:n∈heads rows ↔ ∃r∈rows,r.head? = some n:=by
 unfold heads;rw[sd]
theorem DR:∀ {rows:List (List Str)}{k:Nat}{n:Str}{i:Nat}{x:Str},cT k rows n=some (i,x)->k<=i/\i < k+rows.length/\x∈heads rows
 |[],k,n,i,x,h=>by cases h
 |[]::rest,k,n,i,x,h=>by
  obtain⟨h1,h2,h3⟩:=DR (rows:=rest) (k:=k+1) (n:=n) h;refine⟨by omega,by simp only[eN];omega,?_⟩
  obtain⟨r,hr,e⟩:=pG.mp h3;exact pG.mpr ⟨r,cp _ hr,e⟩
 |(y::r)::rest,k,n,i,x,h=>by
  have h:(if n∈y::r/\y≠n then some (k,y) else cT (k+1) rest n)=some (i,x):=h;split at h
  ·cases h
   exact⟨aR _,by simp only[eN];omega,pG.mpr ⟨_::r,bj,rfl⟩⟩
  ·obtain⟨h1,h2,h3⟩:=DR (rows:=rest) (k:=k+1) (n:=n) h
   refine⟨by omega,by simp only[eN];omega,?_⟩
   obtain⟨r',hr,e⟩:=pG.mp h3;exact pG.mpr ⟨r',cp _ hr,e⟩
theorem AB {all:List (List Str)}:∀ {rest:List (List Str)},kj all rest=none -> ∀n∈heads rest,cT 0 all n≠none
 |[],_,n,hn=>by simp[heads]at hn
 |[]::rest,h,n,hn=>AB (rest:=rest) h n hn
 |(y::r)::rest,h,n,hn=>by
  have h:(if (cT 0 all y).isNone then some y else kj all rest)=none:=h;split at h
  ·cases h
  next hy =>
   have hn:n∈y::heads rest:=hn;rcases aY.mp hn with rfl|hn
   ·intro z;rw[z]at hy;exact hy rfl
   ·exact AB h n hn
abbrev Wi:=Nat×Str×Str
def n6 (rows:List (List Str)):Nat->Str->List Str->List Wi->List Wi
 |0,_,_,_=>[]
 |k+1,nm,ps,ws=>if nm∈ps then (ws.drop (ps.idxOf nm)).reverse else
  match cT 0 rows nm with
  |some (i,x)=>n6 rows k x (ps ++ [nm]) (ws ++ [(i,x,nm)])
  |none=>[]
def qX (rows:List (List Str)):List Wi:=n6 rows (rows.length+1) ((heads rows).headD "") [] []
structure mG (At:Wi->Prop) (most:Nat) (W:List Wi):Prop where
 len:2<=W.length
 bV:W.length<=most
 at_:∀w∈W,At w
 turn:(W.map (·.2.1)).drop 1++(W.map (·.2.1)).take 1=W.map (·.2.2)
 nd:(W.map (·.2.1)).Nodup
def x6 (rows:List (List Str)) (w:Wi):Prop:= ∃r,rows[w.1]? = some (w.2.1::r)/\w.2.2∈r/\w.2.1≠w.2.2
theorem DS:∀ {rows:List (List Str)}{k:Nat}{n:Str}{i:Nat}{x:Str},cT k rows n=some (i,x) -> ∃j r,i=k+j/\rows[j]? = some (x::r)/\n∈r/\x≠n
 |[],k,n,i,x,h=>by cases h
 |[]::rest,k,n,i,x,h=>by
  obtain⟨j,r,h1,h2,h3⟩:=DS (rows:=rest) (k:=k+1) (n:=n) h;exact⟨j+1,r,by omega,by simpa using h2,h3⟩
 |(y::r)::rest,k,n,i,x,h=>by
  have h:(if n∈y::r/\y≠n then some (k,y) else cT (k+1) rest n)=some (i,x):=h;split at h
  next c =>
   cases h
   refine⟨0,r,rfl,rfl,?_,c.2⟩;rcases aY.mp c.1 with z|z
   ·exact absurd z.symm c.2
   ·exact z
  ·obtain⟨j,r',h1,h2,h3⟩:=DS (rows:=rest) (k:=k+1) (n:=n) h
   exact⟨j+1,r',by omega,by simpa using h2,h3⟩
theorem Fy {hs:List Str} (nd:ps.Nodup) (h:∀n∈ps,n∈hs):ps.length<=hs.length:=by
 by_cases z:ps.length<=hs.length
 ·exact z
 ·obtain⟨y,hy,hn⟩:=Bm (found:=hs) nd (by omega)
  exact absurd (h y hy) hn
theorem Mp {rows:List (List Str)} (hF:fg rows=none):∀ {k:Nat}{nm:Str}{ps:List Str}{ws:List Wi},nm∈heads rows->(∀n∈ps,n∈heads rows)->ps.Nodup->(∀w∈ws,x6 rows w)->ws.map (·.2.2)=ps->ws.map (·.2.1)=(ps ++ [nm]).tail ->
  k+ps.length=rows.length+1->mG (x6 rows) rows.length (n6 rows k nm ps ws)
 |0,nm,ps,ws,hn,hp,nd,hw,e1,e2,hk=>by
  have:=Fy nd hp;have:=uO rows;omega
 |k+1,nm,ps,ws,hn,hp,nd,hw,e1,e2,hk=>by
  unfold n6
  by_cases c:nm∈ps
  ·rw[aB c]
   have hj:ps.idxOf nm < ps.length:=List.idxOf_lt_length_iff.mpr c;obtain⟨j,wJ⟩:∃j,ps.idxOf nm=j:=⟨_,rfl⟩;have Cp:ps[j]? = some nm:=by rw[<-wJ];rw[cP hj];exact fc some (List.getElem_idxOf hj)
   rw[wJ]at hj ⊢;have d1:ps.drop j=nm::ps.drop (j+1):=by
    rw[Dr hj];rw[cP hj]at Cp;rw[f' Cp]
   generalize ht:ps.drop (j+1)=t at d1;have f2:(ws.drop j).map (·.2.2)=nm::t:=by rw[Dz,e1,d1]
   have f1:(ws.drop j).map (·.2.1)=t ++ [nm]:=by
    rw[Dz,e2,<-List.drop_one,List.drop_drop,Nat.add_comm 1 j,List.drop_append_of_le_length (by omega),ht]
   have wG:(nm::t).Nodup:=by rw[<-d1];exact nd.sublist (List.drop_sublist _ _)
   have l1:(ws.drop j).length=t.length+1:=by
    have:=fc List.length f2
    rwa [aA,eN]at this
   have sub:∀w∈ws.drop j,x6 rows w:=fun w h=>hw w (DA h);generalize ws.drop j=U at f1 f2 l1 sub;have tne:t ≠ []:=by
    rintro rfl
    match U,f1,f2,sub with
    |[w],f1,f2,sub =>
     obtain⟨r,_,_,ne⟩:=sub w bj;have g1:w.2.1=nm:=by simpa using f1
     have g2:w.2.2=nm:=by simpa using f2
     exact ne (g1.trans g2.symm)
   have tl:1<=t.length:=akx.mpr tne;refine⟨by rw[KN];omega,?_,fun w h=>sub w (UQ.mp h),?_,?_⟩
   ·have q1:=Fy wG (hs:=heads rows) fun n h=>by
     rw[<-d1]at h;exact hp n (DA h)
    have q2:=uO rows;rw[eN]at q1;rw[KN];omega
   ·rw[UR,UR,f1,f2];simp
   ·rw[UR,f1]
    rw[List.reverse_append];exact gb.mpr ⟨fun z=>(gb.mp wG).1 (UQ.mp z),(List.reverse_perm t).nodup_iff.mpr (gb.mp wG).2⟩
  ·rw[au c]
   have nn:cT 0 rows nm≠none:=AB hF nm hn;cases e:cT 0 rows nm with
   |none=>exact absurd e nn
   |some w =>
    obtain⟨i,x⟩:=w;obtain⟨j,r,hi,hr,IG,ne⟩:=DS e;have ij:i=j:=by omega
    subst ij;refine Mp hF (pG.mpr ⟨_,ia hr,rfl⟩) (fun n h=>?_) ?_ (fun w h=>?_) ?_ ?_ ?_
    ·rcases dH.mp h with h|h
     ·exact hp n h
     ·rw[ff.mp h];exact hn
    ·rw[mr]
     exact⟨nd,by simp,fun a ha b hb=>by rw[ff.mp hb];exact fun z=>c (z ▸ ha)⟩
    ·rcases dH.mp h with h|h
     ·exact hw w h
     ·rw[ff.mp h];exact⟨r,hr,IG,ne⟩
    ·rw[a8,e1];rfl
    ·rw[a8,e2]
     cases ps with
     |nil=>rfl
     |cons y ps=>simp
    ·rw[cZ,i6];omega
theorem YR (hF:fg rows=none) (hA:(rows.any fun r=>!r.isEmpty)=true):mG (x6 rows) rows.length (qX rows):=by
 unfold qX;have:(heads rows).headD "" ∈ heads rows:=by
  obtain⟨r,hr,e⟩:=sj.mp hA;cases r with
  |nil=>simp at e
  |cons y r =>
   have:y∈heads rows:=pG.mpr ⟨_,hr,rfl⟩;cases q:heads rows with
   |nil=>rw[q]at this;simp at this
   |cons a t=>exact bj
 exact Mp hF this (by simp) pz (by simp) rfl rfl (by simp)
def nY (rows:List (List Str)) (w:Wi):Prop:= ∃pre post,rows[w.1]? = some (pre++w.2.1::post)/\w.2.2∈post/\w.2.1 ∉ pre/\w.2.2 ∉ pre/\w.2.1≠w.2.2
def Cut (rows rest:List (List Str)):Prop:=rest.length=rows.length /\ ∀ (i:Nat) (r:List Str),rest[i]? = some r -> ∃ (r0:List Str) (p:Str->Bool),rows[i]? = some r0/\r=r0.filter p
theorem Cut.refl (rows:List (List Str)):Cut rows rows:=⟨rfl,fun i r e=>⟨r,fun _=>true,e,(US.mpr fun _ _=>rfl).symm⟩⟩
theorem Cut.without (h:Cut rows rest) (n:Str):Cut rows (L2.without n rest):=by
 refine⟨by unfold L2.without;rw[aA];exact h.1,fun i r e=>?_⟩
 unfold L2.without at e;rw[eX]at e;obtain⟨q,hq,rfl⟩:=ib.mp e;obtain⟨r0,p,h0,rfl⟩:=h.2 i q hq;exact⟨r0,_,h0,by rw[List.filter_filter]⟩
theorem Cut.lW (h:Cut rows rest) {w:Wi} (q:x6 rest w):nY rows w:=by
 obtain⟨r,hr,hn,ne⟩:=q;obtain⟨r0,p,h0,e⟩:=h.2 _ _ hr;obtain⟨l1,l2,rfl,a1,a2,a3⟩:=List.filter_eq_cons_iff.mp e.symm;have B1:w.2.2∈l2/\p w.2.2=true:=by rw[<-a3]at hn;exact jk.mp hn
 exact⟨l1,l2,h0,B1.1,fun z=>a1 _ z a2,fun z=>a1 _ z B1.2,ne⟩
theorem mG.imp {At QU:Wi->Prop}{W:List Wi} (h:mG At m W) (f:∀w,At w->QU w):mG QU m W:=⟨h.len,h.bV,fun w q=>f w (h.at_ w q),h.turn,h.nd⟩
def sQ:Nat->List (List Str)->List (List Str)
 |0,rest=>rest
 |k+1,rest=>match fg rest with
  |some n=>sQ k (L2.without n rest)
  |none=>rest
theorem Wc {k:Nat}{n:Str} (h:fg rest=some n):sQ (k+1) rest=sQ k (L2.without n rest):=by
 show(match fg rest with|some n=>_|none=>_)=_;rw[h]
theorem Wd {k:Nat} (h:fg rest=none):sQ k rest=rest:=by
 cases k with
 |zero=>rfl
 |succ k=>show(match fg rest with|some n=>_|none=>_)=_;rw[h]
def sZ (rows:List (List Str)):List Wi:=qX (sQ 1000 rows)
theorem YS {k:Nat}{nm:Str}{W:List Wi} (h:nm ∉ ps) (e:cT 0 rows nm=some (j,x)):n6 rows (k+1) nm ps W=n6 rows k x (ps ++ [nm]) (W ++ [(j,x,nm)]):=by
 rw[n6,au h,e]
theorem XW {k:Nat}{nm:Str}{W:List Wi} (h:nm∈ps):n6 rows (k+1) nm ps W=(W.drop (ps.idxOf nm)).reverse:=by
 rw[n6,aB h]
theorem Mq:∀ {ps:List Str}{n:Str}{j:Nat},ps[j]? = some n->(∀m:Nat,m < j->ps[m]? ≠ some n)->ps.idxOf n=j
 |[],n,j,h,_=>by simp at h
 |x::ps,n,0,h,_=>by
  have:x=n:=by simpa using h
  rw[this];exact List.idxOf_cons_self
 |x::ps,n,j+1,h,q=>by
  have ne:x≠n:=fun z=>q 0 (by omega) (by simp[z])
  rw[List.idxOf_cons,show(x==n)=false from oV.mpr ne,cond_false,Mq (j:=j) (by simpa using h) fun m hm=>by simpa using q (m+1) (by omega)]
def fX (H:Hp):List V->List Wi->Prop:=Paired fun v w=>∃a,v=V.ref a/\H a=some (.tup [.int w.1,.str w.2.1,.str w.2.2])
theorem Mr {W:List Wi}{w:Wi} (h:fX H vs W) (q:∃a,v=V.ref a/\H a=some (.tup [.int w.1,.str w.2.1,.str w.2.2])):fX H (vs ++ [v]) (W ++ [w]):=by
 induction h with
 |nil=>exact .cons q .nil
 |cons p _ ih=>exact .cons p ih
theorem YT {W:List Wi} (h:fX H vs W):fX H (vs.drop j) (W.drop j):=by
 induction h generalizing j with
 |nil=>simp;exact .nil
 |cons p t ih =>
  cases j with
  |zero=>exact .cons p t
  |succ j=>exact ih
theorem ZL {W:List Wi} (h:fX H vs W):fX H vs.reverse W.reverse:=by
 induction h with
 |nil=>exact .nil
 |cons p t ih=>rw[Kn,Kn];exact Mr ih p
theorem fX.same {W:List Wi} (h:fX H vs W) (s:aq H H'):fX H' vs W:=Paired.imp' (fun v w ⟨a,e,q⟩=>⟨a,e,s _ _ q⟩) h
theorem EJ (xs:List V) (k:Nat):d6 xs (some (k:Int)) none=xs.drop k:=by
 unfold d6;rw[HT.Ex,HT.EW]
 by_cases h:k<=xs.length
 ·rw[UT h,K0 (by rw[Ag];omega)]
 ·rw[UU (by omega),K2,Ue (by omega)];simp
theorem Fz (xs:List V) (k:Nat):d6 xs none (some (k:Int))=xs.take k:=by
 unfold d6;rw[HT.Ex,HT.EW]
 by_cases h:k<=xs.length
 ·rw[UT h];simp
 ·rw[UU (by omega)];simp;rw[K0 (by omega)]
theorem We {a:Expr} (K:Frag) (h:X.K=K) (ha:PE X a ta) (he:∀whole,isTrue a X.env whole=(do let v <- whole;standAt a.pos;holding [v] (truthy v))) :
  PT X a (fun σ H Q=>ta σ H fun x H'=>∃k,Gi K x H' k/\Q k H'):=by subst h;exact uT ha he
def qR (s:Stmt):List Stmt:=match s with|.For _ _ b _ _=>b|_=>[]
def uP (s:Stmt):List Stmt:=match s with|.While _ b _ _=>b|_=>[]
def cb (l:List Stmt) (i:Nat):Stmt:=l.getD i (.Pass ⟨0,0,0,0⟩)
def fB (s:Stmt):Expr:=match s with|.Assign _ v _=>v|_=>.Constant .none 0 ⟨0,0,0,0⟩
def tw (s:Stmt):Expr:=match s with|.Return (some v) _=>v|_=>.Constant .none 0 ⟨0,0,0,0⟩
def fG (e:Expr):Expr:=match e with|.Call _ (a::_) _ _=>a|_=>.Constant .none 0 ⟨0,0,0,0⟩
def G1 (e:Expr):Expr:=match e with|.Subscript a _ _=>a|_=>.Constant .none 0 ⟨0,0,0,0⟩
def OB (e:Expr):Expr:=match e with|.ListComp x _ _ _=>x|_=>.Constant .none 0 ⟨0,0,0,0⟩
def cE (e:Expr):Scope:=match e with|.ListComp _ _ sc _=>sc|_=>{ kind:= .function,names:= [],isGenerator:=false,isCoroutine:=false }
theorem boot_tuple:bootBuiltins "tuple" = some (.type "tuple"):=by decide +kernel
theorem boot_list:bootBuiltins "list" = some (.type "list"):=by decide +kernel
structure Small (rows:List (List Str)):Prop where
 bV:rows.length<=10
 short:∀r∈rows,r.length<=20
 nm:∀r∈rows,∀n∈r,Nm n
theorem Small.head (S:Small rows) {n:Str} (h:n∈heads rows):Nm n:=by
 obtain⟨r,hr,e⟩:=pG.mp h;exact S.nm r hr n (UW e)
@[irreducible] noncomputable def u7:Sp:=fun vs H Q _=>∃ (l:Addr) (ws:List V) (rows:List (List Str)),vs = [.ref l]/\H l=some (.lst ws)/\ee H ws rows/\Small rows/\fg rows=none/\(rows.any fun r=>!r.isEmpty)=true /\
 ∀p vs H',aq H H'->H p=none->H' p=some (.tup vs)->fX H' vs (qX rows)->kH H' (.ref p)->Q (.ref p) H'
noncomputable abbrev N3:List Str:= ["rest","name","passed","wishes","wish","around"]
theorem sH:b6 N3 ["rest"] (aJ vj):=cF (by decide +kernel)
noncomputable abbrev aco:Scope:=cE (G1 (fB (cb (b9 vj) 0)))
theorem Pj:bX N3 (aJ vj) ["row"] [none] aco:=c9 (by decide +kernel)
theorem Wf (rows:List (List Str)) (h:(rows.any fun r=>!r.isEmpty)=true):∃x t,heads rows=x::t:=by
 obtain⟨r,hr,e⟩:=sj.mp h;cases r with
 |nil=>simp at e
 |cons y r =>
  have:y∈heads rows:=pG.mpr ⟨_,hr,rfl⟩;cases q:heads rows with
  |nil=>rw[q]at this;simp at this
  |cons a t=>exact⟨a,t,rfl⟩
theorem EK:∀ {ps:List Str}{n:Str},n∈ps -> ∃j:Nat,ps[j]? = some n /\ ∀m:Nat,m < j->ps[m]? ≠ some n
 |[],n,h=>by simp at h
 |x::ps,n,h=>by
  by_cases e:x=n
  ·exact⟨0,by rw[e];rfl,fun m hm=>by omega⟩
  ·have h':n∈ps:=by
    rcases aY.mp h with z|z
    ·exact absurd z.symm e
    ·exact z
   obtain⟨j,h1,h2⟩:=EK h';refine⟨j+1,by simpa using h1,fun m hm=>?_⟩
   cases m with
   |zero=>simpa using e
   |succ m=>simpa using h2 m (by omega)
structure NC (H:Hp) (rows:List (List Str)) (l pa wa:Addr) (m:Nat) (σ:St) (H1:Hp) (nm:Str) (ps:List Str) (wv:List V) (W:List Wi):Prop where
 st:∃v4:Option V,σ = [some (.ref l),some (.str nm),some (.ref pa),some (.ref wa),v4,none]
 mm:m=rows.length - ps.length
 hn:nm∈heads rows
 hp:∀n∈ps,n∈heads rows
 nd:ps.Nodup
 pa:H1 pa=some (.lst (ps.map V.str))
 wa:H1 wa=some (.lst wv)
 ln:wv.length=ps.length
 QV:∀v∈wv,rj H1 v
 sm:aq H H1
 pw:fX H1 wv W
 eq:n6 rows (rows.length+1 - ps.length) nm ps W=qX rows
theorem FC {hs:List Str} (nd:ps.Nodup) (h:∀n∈ps,n∈hs):ps.length<=hs.length:=by
 by_cases z:ps.length<=hs.length
 ·exact z
 ·obtain⟨y,hy,hn⟩:=Bm (found:=hs) nd (by omega)
  exact absurd (h y hy) hn
theorem XX (F:aW K "ring_within" "ring_within" vj f fd) (B:dB mg) (FW:aW K "wish_against" "wish_against" vz fW rD) (bW:Binds K rD ["rest","name"] []) (mW:mg "wish_against" = some (.ref fW)) :
  aI P w K mg base aQ 2 f fd ["rest"] u7:=by
 have GW:aI P w K mg base aQ 1 fW rD ["rest","name"] sP:=Nz FW B;refine F.ok sH (fun vs H Q E h=>?_) (fun cdv A outer s H vs Q E hr h=>?_)
 ·unfold u7 at h;obtain⟨l,ws,rows,rfl,_⟩:=h;rfl
 ·unfold u7 at h
  obtain⟨l,ws,rows,rfl,hl,hR,hS,hF,hA,q⟩:=h;have cK:a7 1 _:=hr;refine⟨_,aD (bq (i:=1) sH.nd rfl (Or.inl rfl) (cf eQ (d4 rfl Pj (gJ (pv 0)) (fun s H fp=>⟨aX (i:=0) Pj.nd rfl (Or.inl rfl),my (We K rfl (pv 0) (fun _=>rfl)),cf (uV K rfl) (pv 0) aP (fun _ _=>rfl)⟩)) aP (fun _ _=>rfl)))
   (aD (bq (i:=2) sH.nd rfl (Or.inl rfl) (cX ai))
   (aD (bq (i:=3) sH.nd rfl (Or.inl rfl) (cX ai))
   (aD (uS jt (cy qO (pv 1) (pv 2) rfl)
    (aD (ig (jc kh qM qN lK (pv 2) (af (pv 1) ai)))
    (aD (bq (i:=4) sH.nd rfl (Or.inl rfl) (bc GW cK rfl mW FW.kp bW .nil a9 (af (pv 0) (af (pv 1) ai))))
    (aD (ig (jc kh qM qN lK (pv 3) (af (pv 4) ai)))
    (aK (bq (i:=1) sH.nd rfl (Or.inl rfl) (cf lR (pv 4) aP (fun _ _=>rfl))))))))
   (aD (bq (i:=5) sH.nd rfl (Or.inl rfl) (pI sF (pv 3) (nV (jc kh UX UY Ez (pv 2) (af (pv 1) ai))) pK))
   (aK (bf (eO mx rfl B.tuple boot_tuple (af (ZC (pv 5)) ai)))))))),?_⟩
  refine⟨_,rfl,l,rfl,⟨_,aj.of hl⟩,fun a1 gF=>?_⟩;refine iP (xs:=ws) (fun i zs τ H1=>∃t0:Option V,zs=(heads (rows.take i)).map V.str/\τ = [t0]/\H1=upd H a1 (.lst zs)) ⟨none,rfl,rfl,rfl⟩ (fun i zs τ H1 ⟨_,_,_,z⟩=>by rw[z];exact⟨ag,aj.of (by rw[ah (ao hl gF)];exact hl)⟩) ?_ ?_
  ·rintro i x zs τ H1 hx ⟨t0,rfl,rfl,rfl⟩
   obtain⟨a,r,rfl,eK,gU⟩:=hR.get hx;have aS:i < ws.length:=(cR.mp hx).1;have qq:(upd H a1 (.lst ((heads (rows.take i)).map V.str))) a=some (.tup (r.map V.str)):=by rw[ah (ao gU gF)];exact gU
   have tk:rows.take (i+1)=rows.take i ++ [r]:=by rw[gu,eK];rfl
   refine⟨_,rfl,!(r.map V.str).isEmpty,.inr (.inl ⟨_,aC.of qq,rfl⟩),?_⟩;cases r with
   |nil=>exact cw_next aS ⟨_,by rw[tk];simp[heads],rfl,rfl⟩
   |cons y r =>
    refine⟨_,rfl,a,_,0,.str y,rfl,rfl,aC.of qq,jK,ag,?_,cw_next aS ⟨_,?_,rfl,by rw[ie]⟩⟩
    ·have h1:=uO (rows.take i)
     have h2:(rows.take i).length<=rows.length:=by rw[dJ];omega
     have h3:=hS.bV;rw[aA,aN];omega
    ·rw[tk];simp[heads]
  ·rintro zs τ H1 ⟨t0,rfl,rfl,rfl⟩
   rw[hR.length,du];obtain⟨x0,ht,oH⟩:=Wf rows hA;rw[oH];refine⟨a1,_,0,.str x0,rfl,rfl,aj.of ag,jK,?_⟩;have S0:=ay (o:= .lst ((x0::ht).map V.str)) gF;refine⟨bG _,fun pa fo=>⟨bG _,fun wa oJ=>?_⟩⟩;have S1:=S0.trans (ay (o:= .lst []) fo);have S2:=S1.trans (ay (o:= .lst []) oJ);have BG:H pa=none:=S0.free fo;have G3:H wa=none:=S1.free oJ;have rR:pa≠wa:=ao ag oJ;refine⟨fun m σ H1=>∃nm ps wv W,NC H rows l pa wa m σ H1 nm ps wv W,⟨_,x0,[],[],[],⟨none,rfl⟩,rfl,by rw[oH];exact bj,(fun n hn=>by simp at hn),pz,by rw[ah rR];exact ag,ag,rfl,(fun v hv=>by simp at hv),S2,.nil,by unfold qX;rw[oH];rfl⟩,?_⟩
   rintro m σ H1 ⟨nm,ps,wv,W,R⟩;obtain⟨v4,rfl⟩:=R.st;have akU:ps.length<=10:=by
    have h1:=FC R.nd R.hp;have h2:=uO rows;have h3:=hS.bV;omega
   refine⟨_,rfl,_,rfl,pa,_,rfl,.inl (aj.of R.pa),rfl,i8 _,_,rfl,?_⟩;rw[aB rfl,jR];refine fq (fun hn=>?_) (fun hn=>?_)
   ·have j4:nm ∉ ps:=by simpa using hn
    have Cz:(nm::ps).Nodup:=gb.mpr ⟨j4,R.nd⟩;have acp:(nm::ps).length<=rows.length:=dG (FC Cz fun n z=>by
     rcases aY.mp z with rfl|z
     ·exact R.hn
     ·exact R.hp n z) (uO rows)
    refine⟨fun aG H'=>∃m',m' < m /\ ∃nm ps wv W,NC H rows l pa wa m' aG H' nm ps wv W,fun _ _ z=>z,?_⟩;refine⟨_,rfl,.inl ⟨rfl,_,aj.of R.pa⟩,_,rfl,pa,_,_,rfl,rfl,R.pa,by rw[aA,aN];omega,?_⟩
    have S3:aq H (upd H1 pa (.lst (ps.map V.str ++ [.str nm]))):=fun b o e=>by rw[ah (ao e BG)];exact R.sm b o e
    refine⟨_,rfl,_,rfl,NA (S3 _ _ hl) (hR.same S3) (fun en=>absurd en (AB hF nm R.hn)) (fun j x es p H3 hp S4 h3=>?_)⟩;obtain⟨_,hj,hx⟩:=DR es;have G4:H3 wa=some (.lst wv):=S4 _ _ (by rw[ah (aO rR)];exact R.wa)
    have acq:H3 pa=some (.lst (ps.map V.str ++ [.str nm])):=S4 _ _ ag;refine⟨_,rfl,.inl ⟨rfl,_,aj.of G4⟩,_,rfl,wa,_,_,rfl,rfl,G4,by rw[R.ln,aN];omega,?_⟩
    have S5:aq H (upd H3 wa (.lst (wv ++ [.ref p]))):=fun b o e=>by rw[ah (ao e G3)];exact S4 _ _ (S3 b o e)
    have acr:p≠wa:=bg h3 G4
    have CA:(upd H3 wa (.lst (wv ++ [.ref p]))) p=some (.tup [.int j,.str x,.str nm]):=by rw[ah acr];exact h3
    have aaI:∀v,rj H1 v->rj (upd H3 wa (.lst (wv ++ [.ref p]))) v:=fun v ⟨a,i,y,n,e,ha,r⟩=>⟨a,i,y,n,e,by
     have n1:a≠pa:=bg ha R.pa
     have n2:a≠wa:=bg ha R.wa
     rw[ah n2];exact S4 _ _ (by rw[ah n1];exact ha),r⟩
    refine⟨_,rfl,p,_,1,.str x,rfl,rfl,aC.of CA,(show cC [V.int j,.str x,.str nm] ((1:Nat):Int)=some (V.str x) from eG rfl),?_⟩;have akO:ps.length+1<=rows.length:=by simpa using acp
    have Gk:=hS.bV;refine⟨rows.length - (ps ++ [nm]).length,by rw[R.mm,cZ];simp only[i6];omega,x,ps ++ [nm],wv ++ [.ref p],W ++ [(j,x,nm)],⟨_,rfl⟩,rfl,hx,?_,?_,?_,ag,?_,?_,S5,?_,?_⟩
    ·intro n z
     rcases dH.mp z with z|z
     ·exact R.hp n z
     ·have:n=nm:=by simpa using z
      rw[this];exact R.hn
    ·rw[mr]
     exact⟨R.nd,by simp,fun a ha b hb=>by rw[show b=nm by simpa using hb];exact fun h=>j4 (h ▸ ha)⟩
    ·rw[ah rR,acq,a8];rfl
    ·rw[cZ,cZ,R.ln];rfl
    ·intro v z
     rcases dH.mp z with z|z
     ·exact aaI v (R.QV v z)
     ·have:v = .ref p:=by simpa using z
      rw[this];exact⟨p,j,x,nm,rfl,CA,by omega,hS.head hx,hS.head R.hn⟩
    ·refine Mr (Paired.imp' (fun v w' ⟨a,e,ha⟩=>⟨a,e,?_⟩) R.pw) (w:=(j,x,nm)) ⟨p,rfl,CA⟩
     have n1:a≠pa:=bg ha R.pa
     have n2:a≠wa:=bg ha R.wa
     rw[ah n2];exact S4 _ _ (by rw[ah n1];exact ha)
    ·rw[<-R.eq]
     obtain⟨k,hk⟩:∃k,rows.length+1 - ps.length=k+1:=⟨rows.length - ps.length,by omega⟩
     rw[hk,show rows.length+1 - (ps ++ [nm]).length=k by rw[cZ,i6];omega]
     exact(YS j4 es).symm
   ·have j4:nm∈ps:=by simpa using hn
    obtain⟨j,hj,gZ⟩:=EK j4;refine⟨_,rfl,_,rfl,.inl ⟨rfl,_,aj.of R.pa⟩,_,rfl,pa,ps,nm,j,rfl,rfl,R.pa,hj,gZ,_,rfl,wa,wv,rfl,aj.of R.wa,fun p5 yX=>?_⟩;refine⟨_,rfl,p5,_,rfl,aj.of ag,fun p6 wN=>?_⟩;refine⟨p6,_,rfl,.inl ⟨aj.of ag,fun p7 zy=>?_⟩⟩;have T5:=R.sm.trans (ay (o:= .lst (d6 wv (some (j:Int)) none)) yX);have T1:aq H1 _:=(ay (o:= .lst (d6 wv (some (j:Int)) none)) yX).trans ((ay (o:= .lst (d6 wv (some (j:Int)) none).reverse) wN).trans (ay (o:= .tup (d6 wv (some (j:Int)) none).reverse) zy));refine q p7 _ _ (R.sm.trans T1) ((R.sm.trans ((ay (o:= .lst (d6 wv (some (j:Int)) none)) yX).trans (ay (o:= .lst (d6 wv (some (j:Int)) none).reverse) wN))).free zy) ag ?_ (LL ag (fun v hv=>?_) ?_)
    ·have ej:ps.idxOf nm=j:=Mq hj gZ
     obtain⟨k,hk⟩:∃k,rows.length+1 - ps.length=k+1:=⟨rows.length - ps.length,by have:=FC R.nd R.hp;have:=uO rows;omega⟩
     rw[<-R.eq,hk,XW j4,ej];rw[show d6 wv (some (j:Int)) none=wv.drop j from EJ _ _]at T1 ⊢;exact ZL (YT (Paired.imp' (fun v w' ⟨a,e,ha⟩=>⟨a,e,T1 _ _ ha⟩) R.pw))
    ·have hv1:v∈d6 wv (some (j:Int)) none:=UQ.mp hv
     exact(R.QV v (DA (K4 hv1))).same T1
    ·have h1:=DM wv (some (j:Int)) none
     rw[KN];have:=R.ln;omega
theorem XY (hl:H l=some (.lst ws)) (hR:ee H ws rows) (hS:Small rows) (hF:fg rows=none) (hA:(rows.any fun r=>!r.isEmpty)=true)
  (q:∀p vs H',aq H H'->H p=none->H' p=some (.tup vs)->fX H' vs (qX rows)->kH H' (.ref p)->Q (.ref p) H'):u7 [.ref l] H Q E:=by
 unfold u7;exact⟨l,ws,rows,rfl,hl,hR,hS,hF,hA,q⟩
theorem LM (h:total rest=0):(rest.any fun r=>!r.isEmpty)=false:=by
 cases e:rest.any fun r=>!r.isEmpty with
 |false=>rfl
 |true=>have:=Ek e;omega
theorem uQ {n:Str} (h:fg rest=some n):∃r∈rest,n∈r:=by
 obtain⟨r,hr,e⟩:=AA h;exact⟨r,hr,UW e⟩
theorem LN:∀ (k:Nat) (r:List (List Str)),total r<=k -> ∀j,total r<=j->bw k r=bw j r
 |0,r,h,j,_=>by
  have z:=LM (show total r=0 by omega)
  cases j with
  |zero=>rfl
  |succ j=>unfold bw;rw[au (by rw[z];exact de)]
 |k+1,r,h,0,hj=>by
  have z:=LM (show total r=0 by omega)
  unfold bw;rw[au (by rw[z];exact de)]
 |k+1,r,h,j+1,hj=>by
  unfold bw;split
  ·cases e:fg r with
   |none=>rfl
   |some n =>
    have:=uD (uQ e);show Option.map _ _=Option.map _ _;rw[LN k (without n r) (by omega) j (by omega)]
  ·rfl
theorem D0 {r:List (List Str)} (h:(r.any fun r=>!r.isEmpty)=false):bw (total r) r=some []:=by
 cases total r with
 |zero=>rfl
 |succ k=>unfold bw;rw[au (by rw[h];exact de)]
theorem D1 {r:List (List Str)} (h:(r.any fun r=>!r.isEmpty)=true) (e:fg r=none):bw (total r) r=none:=by
 have:=Ek h;cases q:total r with
 |zero=>omega
 |succ k=>unfold bw;rw[aB h,e]
theorem D3 {r:List (List Str)}{n:Str} (h:(r.any fun r=>!r.isEmpty)=true) (e:fg r=some n):bw (total r) r=(bw (total (without n r)) (without n r)).map (n :: ·):=by
 have:=uD (uQ e);cases q:total r with
 |zero=>omega
 |succ k =>
  show(if (r.any fun r=>!r.isEmpty)=true then _ else _)=_;rw[aB h,e];show Option.map _ _=_;rw[LN k (without n r) (by omega) _ (aR _)]
theorem Lj {env:Env}:∀ {names:List (Str×NameKind)}{x:Str},names.lookup x=some .cell ->
  (names.map fun(n,k)=>if (k==NameKind.free && env.scope.kind == .function && env.kindOf n==some .cell) then (n,NameKind.cell) else (n,k)).lookup x=some .cell
 |[],_,h=>by simp at h
 |(n,k0)::r,x,h=>by
  have ih:=@Lj env r x;show List.lookup x ((if (k0==NameKind.free && env.scope.kind == .function && env.kindOf n==some .cell)=true then (n,NameKind.cell) else (n,k0))::_)=_;rw[jn]at h;cases hx:x==n with
  |true =>
   rw[hx]at h;cases h
   rw[au (by simp),jn,hx]
  |false =>
   rw[hx]at h
   by_cases hc:(k0==NameKind.free && env.scope.kind == .function && env.kindOf n==some .cell)=true
   ·rw[aB hc,jn,hx];exact ih h
   ·rw[au hc,jn,hx];exact ih h
theorem nest {wO:Scope} (kind:sc.kind = .function) (keys:(sc.names.map (·.1)).Nodup) (nd:N'.Nodup) (len:cA.length=N'.length) (fv:Gu N N' cA sc=true)
  (free:∀p∈sc.names,p.2 = .free->wO.names.lookup p.1=some .cell\/wO.names.lookup p.1=some .free):bX N (relabel wO env) N' cA sc:=
 ⟨kind,keys,nd,len,Oq fv,fun p hp e=>by
  rcases free p hp e with z|z
  ·exact .inl (Lj z)
  ·exact DD z⟩
theorem DL (K:Frag) (h:X.K=K):d5 X (.type "tuple") (fun xs H Q=>∃p ys,xs = [.ref p]/\((aj K H p ys /\ ∀l,H l=none->Q (.ref l) (upd H l (.tup ys)))\/(aC K H p ys/\Q (.ref p) H))):=by subst h;exact mx
theorem boot_any:bootBuiltins "any" = some (.builtin "any"):=by decide +kernel
def FE (K:Frag) (C:Addr):Bool:=
 findIn K (.ref C) "__getattribute__" == some (some (.builtin "BaseException.__getattribute__")) && (findIn K (.ref C) "__getattr__" == some none && (findIn K (.ref C) "__setattr__" == some (some (.builtin "object.__setattr__")) && (hasDictIn K C &&
 (((clsIn K C).any fun cd=>vv cd.mro) && (mroIn K C (.type "BaseException")==some true && (mroIn K C (.type "ValueError")==some true && (mroIn K C (.type "object")==some true && (findIn K (.ref C) "__class__" == some (some (.builtin "object.__class__")) &&
 (specialIn K (.builtin "object.__class__") "__get__" == some (some (.builtin "getset_descriptor.__get__")) && takesIn K (.builtin "object.__class__")==some true)))))))))
theorem YU (h:FE K C=true):dU K C:=by
 unfold FE at h;simp only[o6,eW]at h;obtain⟨a,b,c,d,e,f,g,i,j,k,l⟩:=h;exact⟨a,b,c,d,e,f,g,i,j,k,l⟩
def yA (a:Addr) (H H':Hp):Prop:= ∀b o,H b=some o->b≠a->H' b=some o
@[irreducible] noncomputable def n8 (K:Frag) (f g:Str):Sp:=fun vs H Q _=>∃ (a C:Addr) (k r:V) (i:Option Value),vs = [.ref a,k,r]/\H a=some (cg C none a)/\dU K C/\eU K C i=true/\kH H k/\kH H r/\findIn K (.ref C) f=some none/\findIn K (.ref C) g=some none /\
 ∀d H',H d=none->d≠a->H' a=some (cg C (some d) a)->H' d=some (d7 d [(f,k),(g,r)])->yA a H H'->Q .aF H'
theorem EL {fs:List (Str×V)} (hd:H d=none):yA a H (upd (upd H d (d7 d fs)) a (cg C (some d) a)):=fun b o e n=>by
 rw[ah n,ah (ao e hd)];exact e
theorem N4:b6 ["self","kind","ring"] ["self","kind","ring"] (aJ rh):=cF (by decide +kernel)
theorem YV (F:aW K "__init__" "Ring.__init__" rh f fd) (b:sN K B) (mB:mg "LineError" = some (.ref B)):aI P w K mg base aQ 1 f fd ["self","kind","ring"] (n8 K "kind" "ring"):=by
 refine F.ok N4 (fun vs H Q E h=>?_) (fun cdv A outer s H vs Q E hr h=>?_)
 ·unfold n8 at h;obtain⟨a,C,k,r,i,rfl,_⟩:=h;rfl
 ·unfold n8 at h
  obtain⟨a,C,k,r,i,rfl,ha,c,qi,fk,fr,nk,nr,q⟩:=h;have hu:=hr.units;have hg:=hr.gd;refine⟨_,aD (ig (DN b rfl mB (af (pv 0) (af (EZ (nW kx (nW (xR hu hg (pv 1)) (nW kx (nW (xR hu hg (pv 2)) Ft))))) ai))))
   (aD (E1 (pv 0) (pv 1)) (aK (ME (pv 0) (pv 2)))),?_⟩
  refine⟨_,rfl,⟨_,rfl,by decide +kernel⟩,_,rfl,fk,fun y1 l0=>⟨⟨_,rfl,l0⟩,⟨_,rfl,by decide +kernel⟩,_,rfl,fr,fun y2 yU=>⟨⟨_,rfl,yU⟩,fun y hy=>?_⟩⟩⟩
  refine⟨a,C,none,_,i,rfl,ha,c,qi,?_⟩;refine⟨_,rfl,_,rfl,a,C,rfl,ha,c,nk,fun d hd jL=>?_⟩;refine⟨_,rfl,_,rfl,a,C,d,_,rfl,ag,(by rw[ah jL];exact ag),c,nr,(by show 1 < 100;decide),?_⟩
  refine q d _ hd jL ?_ ag fun b o e n=>?_
  ·rw[ah (aO jL)];exact ag
  ·rw[ah (ao e hd)];exact EL hd b o e n
noncomputable abbrev ND:List Str:= ["rows","order","rest","name"]
theorem xC:b6 ND ["rows"] (aJ xH):=cF (by decide +kernel)
noncomputable abbrev Pk:Expr:=fB (cb (uP (cb (b9 xH) 2)) 3)
noncomputable abbrev wO:Scope:=cE Pk
noncomputable abbrev scI:Scope:=cE (fG (OB Pk))
theorem QW:bX ND (aJ xH) ["row","name"] [none,some 3] wO:=c9 (by decide +kernel)
theorem csI:bX ["row","name"] (relabel wO env) ["other","name"] [none,some 1] scI:=nest rfl (by decide +kernel) (by decide +kernel) rfl (by decide +kernel) (by decide +kernel)
theorem ndI:(["other","name"]:List Str).Nodup:=by decide +kernel
structure F7 (K:Frag) (mg:Str->Option Value) (B C fI:Addr) (nH:FuncData):Prop where
 mC:mg "Ring" = some (.ref C)
 q:eU K C (some (.ref fI))=true
 fn:isFn K (.ref fI)=true
 kp:keepIn K (.ref C)=true
 F:aW K "__init__" "Ring.__init__" rh fI nH
 b:sN K B
 mB:mg "LineError" = some (.ref B)
 bi:Binds K nH ["self","kind","ring"] []
 x:dU K C
 nk:findIn K (.ref C) "kind" = some none
 nr:findIn K (.ref C) "ring" = some none
theorem M0 {x:V} (h:kH H x) (s:aq H H'):kH H' x:=by
 rcases h with h|h|⟨a,d,e,r,q⟩
 ·exact .inl h
 ·exact .inr (.inl h)
 ·exact .inr (.inr ⟨a,d,e,r.same s,q⟩)
theorem two_sp {f g:Str}{k r:V}{i:Option Value} (ha:H a=some (cg C none a)) (x:dU K C) (q:eU K C i=true) (fk:kH H k) (fr:kH H r) (nk:findIn K (.ref C) f=some none) (nr:findIn K (.ref C) g=some none)
  (h:∀d H',H d=none->d≠a->H' a=some (cg C (some d) a)->H' d=some (d7 d [(f,k),(g,r)])->yA a H H'->Q .aF H'):n8 K f g [.ref a,k,r] H Q E:=by
 unfold n8;exact⟨a,C,k,r,i,rfl,ha,x,q,fk,fr,nk,nr,h⟩
theorem Ms (h:ee H vs rows) (s:∀b xs,H b=some (.tup xs)->H' b=some (.tup xs)):ee H' vs rows:=Paired.imp' (fun _ _ ⟨a,e,q⟩=>⟨a,e,s _ _ q⟩) h
theorem Lg {n:Str} (S:Small rest):Small (without n rest):=by
 refine⟨by unfold L2.without;rw[aA];exact S.bV,fun r hr=>?_,fun r hr y hy=>?_⟩
 ·obtain⟨q,hq,rfl⟩:=aU.mp hr
  exact dG (nQ _ _) (S.short q hq)
 ·obtain⟨q,hq,rfl⟩:=aU.mp hr
  exact S.nm q hq y (jk.mp hy).1
structure Pn (H:Hp) (rows:List (List Str)) (t oa:Addr) (m:Nat) (σ:St) (H1:Hp) (rest:List (List Str)) (ws:List V) (acc:List Str) (rl:Addr):Prop where
 st:∃v3:Option V,σ = [some (.ref t),some (.ref oa),some (.ref rl),v3]
 mm:m=total rest
 qr:H1 oa=some (.lst (acc.map V.str))
 lx:H1 rl=some (.lst ws)
 rr:ee H1 ws rest
 sm:Small rest
 ne:rl≠oa
 same:aq H H1
 lim:acc.length+total rest<=1000
 eq:bw (total rows) rows=(bw (total rest) rest).map (acc ++ ·)
 m4:sQ 1000 rows=sQ (1000 - acc.length) rest
 cut:Cut rows rest
theorem xt:∀ {rows:List (List Str)},(∀r∈rows,r.length<=20)->total rows<=20 * rows.length
 |[],_=>bG _
 |r::rows,h=>by
  have h1:=xt fun q hq=>h q (cp _ hq);have h2:=h r bj;have e:total (r::rows)=r.length+total rows:=by simp[total]
  rw[e,eN];omega
theorem XZ (h:ee H ws rows):Paired (fun y r=>∃a,y=V.ref a/\aC K H a r) ws (rows.map fun r=>r.map V.str):=by
 induction h with
 |nil=>exact .nil
 |cons p _ ih=>obtain⟨a,e,q⟩:=p;exact .cons ⟨a,e,aC.of q⟩ ih
theorem any_map (rows:List (List Str)):((rows.map fun r=>r.map V.str).any fun r=>!r.isEmpty)=rows.any fun r=>!r.isEmpty:=by
 rw[KH];congr 1;funext r;cases r <;> rfl
@[irreducible] noncomputable def uY (C:Addr):Sp:=fun vs H Q E=>∃ (t:Addr) (ws:List V) (rows:List (List Str)),vs = [.ref t]/\H t=some (.tup ws)/\ee H ws rows/\Small rows /\
 (bw (total rows) rows=none -> ∀a d p vs H',H a=none->H d=none->H p=none->mG (nY rows) 10 (sZ rows)->aq H H'->H' a=some (eV (some .none) C (some d) a)->H' d=some (d7 d [("kind",.aF),("ring",.ref p)])->H' p=some (.tup vs)->fX H' vs (sZ rows)->E (.ref C) (some a) H')/\(∀o,bw (total rows) rows=some o -> ∀p H',H p=none->aq H H'->H' p=some (.tup (o.map V.str))->Q (.ref p) H')
theorem WZ {nH IH:FuncData} (F:aW K "merged" "merged" xH f fd) (Bl:dB mg) (T:F7 K mg B C fI nH)
  (FW:aW K "wish_against" "wish_against" vz fW rD) (bW:Binds K rD ["rest","name"] []) (mW:mg "wish_against" = some (.ref fW))
  (FL:aW K "least_free" "least_free" Bo fL tM) (bL:Binds K tM ["rest"] []) (mL:mg "least_free" = some (.ref fL))
  (FR:aW K "ring_within" "ring_within" vj fR IH) (bR:Binds K IH ["rest"] []) (mR:mg "ring_within" = some (.ref fR)) :
  aI P w K mg base (fb P w) 3 f fd ["rows"] (uY C):=by
 have GL:aI P w K mg base aQ 2 fL tM ["rest"] u6:=XT FL Bl FW bW mW;have GR:aI P w K mg base aQ 2 fR IH ["rest"] u7:=XX FR Bl FW bW mW;have GI:aI P w K mg base aQ 1 fI nH ["self","kind","ring"] (n8 K "kind" "ring"):=YV T.F T.b T.mB;refine F.zd xC (fun vs H Q E h=>?_) (fun cdv A outer s H vs Q E hr h=>?_)
 ·unfold uY at h;obtain⟨t,ws,rows,rfl,_⟩:=h;rfl
 ·unfold uY at h
  obtain⟨t,ws,rows,rfl,ht,hR,hS,qn,qs⟩:=h;have iZ:a7 2 _:=hr;refine⟨_,aD (bq (i:=1) xC.nd rfl (Or.inl rfl) (cX ai))
   (aD (bq (i:=2) xC.nd rfl (Or.inl rfl) (eO uG rfl Bl.list boot_list (af (pv 0) ai)))
   (aD (uS K5 (uT (aZ (WA rfl) rfl Bl.any boot_any (af (pv 2) ai)) (fun _=>rfl))
    (aD (bq (i:=3) xC.nd rfl (Or.inr rfl) (bc GL iZ rfl mL FL.kp bL .nil a9 (af (pv 2) ai)))
    (aD (cQ (cy xP (pv 3) iR (cI _)) (aK (Mf (Nj T.q T.fn T.kp GI iZ T.bi a9 rfl T.mC (af iR (af (bc GR iZ rfl mR FR.kp bR .nil a9 (af (pv 2) ai)) ai))))) cU)
    (aD (ig (jc kh qM qN lK (pv 1) (af (pv 3) ai)))
    (aK (sy (i:=2) rfl QW xC.nd rfl rfl (gJ (pv 2)) (fun s H fp=>⟨aX (i:=0) QW.nd rfl (Or.inl rfl),eP,
     eO (DL K rfl) rfl Bl.tuple boot_tuple (af (d4 rfl csI (MF K rfl (pv 0)) (fun s H fp=>⟨aX (i:=0) ndI rfl (Or.inl rfl),my (cy sX (pv 0) (pv 1) rfl),pv 0⟩)) ai)⟩)))))))
   (aK (bf (eO mx rfl Bl.tuple boot_tuple (af (pv 1) ai)))))),?_⟩
  refine⟨bG _,fun oa qr=>⟨_,rfl,t,ws,rfl,.inr (aC.of (by rw[ah (ao ht qr)];exact ht)),fun rl lx=>?_⟩⟩
  have acs:(upd (upd H oa (.lst [])) rl (.lst ws)) oa=some (.lst []):=by rw[ah (ao ag lx)];exact ag
  have S1:aq H (upd (upd H oa (.lst [])) rl (.lst ws)):=(ay qr).trans (ay lx);refine⟨fun m σ H1=>∃rest iK acc rl,Pn H rows t oa m σ H1 rest iK acc rl,⟨_,rows,ws,[],rl,⟨none,rfl⟩,rfl,acs,ag,hR.same S1,hS,aO (ao ag lx),S1,by have:=xt hS.short;have:=hS.bV;simp only[Al];omega,by cases bw (total rows) rows <;> rfl,rfl,.refl _⟩,?_⟩
  rintro m σ H1 ⟨rest,iK,acc,rl,R⟩;obtain⟨v3,rfl⟩:=R.st;refine⟨_,rfl,rl,iK,_,rfl,aj.of R.lx,XZ R.rr,_,rfl,?_⟩;rw[any_map];refine fq (fun hA=>?_) (fun hA=>?_)
  ·refine⟨fun aG H'=>∃m',m' < m /\ ∃rest iK acc rl,Pn H rows t oa m' aG H' rest iK acc rl,fun _ _ z=>z,?_⟩
   refine⟨_,rfl,XU R.lx R.rr fun H2 S2=>?_⟩;have G5:=Ek hA;cases e:fg rest with
   |none =>
    refine⟨_,rfl,rfl,_,rfl,?_⟩;refine⟨_,rfl,XY (S2 _ _ R.lx) (R.rr.same S2) R.sm e hA fun p vs H3 S3 hU zA hws hf=>?_⟩;have S4:aq H H3:=R.same.trans (S2.trans S3);refine⟨by show 2<=100;decide,fun a ha=>?_⟩
    have CB:H a=none:=S4.free ha;have hpH:H p=none:=(R.same.trans S2).free hU;have npa:p≠a:=ao zA ha;have eR:sZ rows=qX rest:=by unfold sZ;rw[R.m4,Wd e]
    refine two_sp ag T.x T.q (.inr (.inl rfl)) (M0 hf (ay ha)) T.nk T.nr fun d H4 hd jL h1 h2 kp=>⟨rfl,a,C,some d,_,rfl,h1,fun d' ed=>by cases ed;exact⟨_,h2⟩,T.x,T.q,CB,?_⟩
    have iL:H3 d=none:=by rw[ah jL]at hd;exact hd
    have iC:∀b o,H3 b=some o->upd H4 a (eV (some .none) C (some d) a) b=some o:=fun b o hb=>by
     have nb:b≠a:=ao hb ha;rw[ah nb];exact kp b o (by rw[ah nb];exact hb) nb
    refine qn (by rw[R.eq,D1 hA e];rfl) a d p vs _ CB (S4.free iL) hpH ?_ (fun b o hb=>iC b o (S4 b o hb)) ag (by rw[ah jL];exact h2) (iC _ _ zA) ?_
    ·rw[eR]
     have q:=(YR e hA).imp fun w=>R.cut.lW;exact⟨q.len,dG q.bV R.sm.bV,q.at_,q.turn,q.nd⟩
    ·rw[eR];exact Paired.imp' (fun v w ⟨b,eb,hb⟩=>⟨b,eb,iC _ _ hb⟩) hws
   |some n =>
    refine⟨_,rfl,rfl,_,rfl,?_⟩;have G7:H2 oa=some (.lst (acc.map V.str)):=S2 _ _ R.qr;refine⟨_,rfl,.inl ⟨rfl,_,aj.of G7⟩,_,rfl,oa,_,_,rfl,rfl,G7,by have:=R.lim;rw[aA,aN];omega,?_⟩
    generalize CC:upd H2 oa (.lst (acc.map V.str ++ [G0 (some n)]))=H3;have S3:aq H H3:=fun b o eb=>by rw[<-CC,ah (ao eb qr)];exact S2 _ _ (R.same b o eb)
    have nro:rl≠oa:=R.ne;have Po:H3 rl=some (.lst iK):=by rw[<-CC,ah nro];exact S2 _ _ R.lx
    have QX:ee H3 iK rest:=Ms R.rr fun b xs hb=>by rw[<-CC,ah (bg (S2 _ _ hb) G7)];exact S2 _ _ hb
    have Pp:H3 oa=some (.lst ((acc ++ [n]).map V.str)):=by rw[<-CC,ag,a8];rfl
    refine⟨_,rfl,rl,rfl,⟨_,aj.of Po⟩,fun a1 gF=>?_⟩;have n1o:a1≠oa:=fun z=>by rw[z,Pp]at gF;cases gF
    refine iP (xs:=iK) (fun i ys τ H4=>∃t0:Option V,τ = [t0,some (.str n)]/\H4 a1=some (.lst ys)/\aq H3 H4/\ee H4 ys (L2.without n (rest.take i))) ⟨none,rfl,ag,ay gF,.nil⟩ (fun i ys τ H4 ⟨_,_,h1,h2,_⟩=>⟨h1,aj.of (h2 _ _ Po)⟩) ?_ ?_
    ·rintro i x ys τ H4 hx ⟨t0,rfl,wQ,S4,zB⟩
     obtain⟨a,r,rfl,eK,gU⟩:=QX.get hx;have aS:i < iK.length:=(cR.mp hx).1;have tk:rest.take (i+1)=rest.take i ++ [r]:=by rw[gu,eK];rfl
     refine⟨_,rfl,a,rfl,⟨_,aC.of (S4 _ _ gU)⟩,fun b1 iz=>?_⟩;have QY:(upd H4 b1 (.lst [])) a=some (.tup (r.map V.str)):=by rw[ah (ao (S4 _ _ gU) iz)];exact S4 _ _ gU
     have II:a≠b1:=ao (S4 _ _ gU) iz;refine jQ (xs:=r.map V.str) (fun j zs iw H5=>∃t1:Option V,iw = [t1,some (.str n)]/\zs=((r.take j).filter fun y=>!decide (y=n)).map V.str/\H5=upd H4 b1 (.lst zs)) ⟨none,rfl,rfl,rfl⟩ (fun j zs iw H5 ⟨_,_,_,z⟩=>by rw[z];exact⟨ag,aC.of (by rw[ah II];exact S4 _ _ gU)⟩) ?_ ?_
     ·rintro j x zs iw H5 gB ⟨t1,rfl,rfl,rfl⟩
      obtain⟨cG,nI,rfl,i3⟩:=jV gB;refine⟨_,rfl,_,rfl,rfl,_,rfl,?_⟩;refine fq (fun bB=>?_) (fun bB=>?_)
      ·have lX:r[j]≠n:=fun z=>by rw[z]at bB;simp at bB
       refine⟨_,rfl,ag,?_,cw_next cG ⟨_,rfl,?_,by rw[ie]⟩⟩
       ·have h1:=nQ (fun y=>!decide (y=n)) (r.take j)
        have h2:(r.take j).length<=r.length:=by rw[dJ];omega
        have h3:=R.sm.short r (ia eK);rw[aA,aN];omega
       ·rw[i3,pA,a8,xq (by simpa using lX)];rfl
      ·have hy:r[j]=n:=by
        by_cases z:r[j]=n
        ·exact z
        ·exact absurd (by simp[z]) bB
       refine cw_next cG ⟨_,rfl,?_,rfl⟩;rw[i3];simp[hy]
     ·rintro zs iw H5 ⟨t1,rfl,rfl,rfl⟩
      rw[aA,du];refine⟨b1,_,rfl,.inl ⟨aj.of ag,fun l hl=>?_⟩⟩;have n1b:a1≠b1:=ao wQ iz;have Sb:aq H4 (upd (upd H4 b1 (.lst ((r.filter fun y=>!decide (y=n)).map V.str))) l (.tup ((r.filter fun y=>!decide (y=n)).map V.str))):=(ay iz).trans (ay hl);have n1l:a1≠l:=ao (by rw[ah n1b];exact wQ) hl
      refine⟨Sb _ _ wQ,?_,cw_next aS ⟨_,rfl,ag,fun b o hb=>?_,?_⟩⟩
      ·have h1:=zB.length
       have h2:(L2.without n (rest.take i)).length<=rest.length:=by unfold L2.without;rw[aA,dJ];omega
       have h3:=R.sm.bV;rw[aN];omega
      ·rw[ah (ao hb gF)];exact Sb _ _ (S4 b o hb)
      ·have e1:L2.without n (rest.take (i+1))=L2.without n (rest.take i) ++ [r.filter fun y=>!decide (y=n)]:=by rw[tk];unfold L2.without;rw[a8];rfl
       rw[e1];refine ee.append (Ms zB fun b xs hb=>?_) ?_
       ·rw[ah (bg hb wQ)];exact Sb _ _ hb
       ·rw[ah (aO n1l)];exact ag
    ·rintro ys τ H4 ⟨t0,rfl,wQ,S4,zB⟩
     rw[QX.length,du]at zB;have lt:=uD (uQ e);refine⟨_,by rw[R.mm];exact lt,L2.without n rest,ys,acc ++ [n],a1,⟨_,rfl⟩,rfl,S4 _ _ Pp,wQ,zB,Lg R.sm,n1o,S3.trans S4,?_,?_,?_,R.cut.without n⟩
     ·have:=R.lim;rw[cZ,i6];omega
     ·rw[R.eq,D3 hA e,Option.map_map]
      congr 1
      funext z
      simp
     ·have O2:=R.lim
      rw[R.m4,cZ,i6];obtain⟨k,hk⟩:∃k,1000 - acc.length=k+1:=⟨1000 - acc.length - 1,by omega⟩
      rw[hk,Wc e,show 1000 - (acc.length+1)=k by omega]
  ·refine⟨_,rfl,oa,_,rfl,.inl ⟨aj.of R.qr,fun p hp=>?_⟩⟩
   refine qs acc ?_ p _ (R.same.free hp) (R.same.trans (ay hp)) ag;rw[R.eq,D0 (by simpa using hA)]
   show some (acc ++ [])=some acc;rw[gr]
end lu
namespace lu
open PySem L2
theorem boot_max:bootBuiltins "max" = some (.builtin "max"):=by decide +kernel
theorem boot_abs:bootBuiltins "abs" = some (.builtin "abs"):=by decide +kernel
@[irreducible] noncomputable def vA (K:PySem.W.Frag):Sp:=fun vs H Q _=>∃ (a:Addr) (ns:List Int) (k:Int),vs = [.ref a,.int k]/\aj K H a (ns.map V.int)/\0<=k/\k<=100/\ns.length<=63 /\
 ∀ (p:Addr) (x y:Int),H p=none->0<=x->0<=y->y < 4294967296->Q (.ref p) (upd H p (.lst [.int x,.int y]))
theorem F8:b6 ["_law_script","_law_k","_law_cell"] ["_law_script","_law_k"] (aJ GX):=cF (by decide +kernel)
theorem YW (h:i < ns.length):∃z,(ns.map V.int)[i]? = some (V.int z):=⟨ns[i],by rw[eX,cP h];rfl⟩
theorem ZM (F:aW K "_law_pot" "_law_pot" GX f fd) (B:dB mg):aI P w K mg base aQ 1 f fd ["_law_script","_law_k"] (vA K):=by
 refine F.ok F8 (fun vs H Q E h=>?_) (fun cdv A outer s H vs Q E hr h=>?_)
 ·unfold vA at h;obtain⟨a,ns,k,rfl,_⟩:=h;rfl
 ·unfold vA at h
  obtain⟨a,ns,k,rfl,hS,k0,k1,hl,q⟩:=h;refine⟨_,aD (bq (i:=2) F8.nd rfl (Or.inl rfl) aP)
   (aD (cQ (cy ye (pv 1) (aZ i7 (by rfl) B.len gW (af (pv 0) ai)) (cI _))
     (aK (bq (i:=2) F8.nd rfl (Or.inl rfl) (cf eQ (pv 0) (pv 1) (fun _ _=>rfl)))) cU)
   (aK (bf (cX (af (aZ (LW rfl) (by rfl) B.max boot_max (af aP (af (c8 NV (aZ MA (by rfl) B.abs boot_abs (af (pv 2) ai)) (c8 Zl aP aP)) ai)))
    (af (c8 qW (c8 qW (c8 xO (aZ MA (by rfl) B.abs boot_abs (af (pv 2) ai)) aP) (c8 Fo aP (pv 1))) aP) ai)))))),?_⟩
  refine⟨_,rfl,_,rfl,a,_,rfl,.inl hS,_,_,rfl,rfl,_,rfl,?_⟩;have akV:∀c:Int,0<=(if c < 0 then -c else c):=fun c=>by split <;> omega
  have fin:∀c:Int,∀p,H p=none->Q (.ref p) (upd H p (.lst [.int (if (if c < 0 then -c else c) - 10 ^ (18:Int).toNat > 0 then (if c < 0 then -c else c) - 10 ^ (18:Int).toNat else 0),.int ((if c < 0 then -c else c) % 2147483587+101 * k+3)])):=fun c p hp=>by
   have h1:=K6 (if c < 0 then -c else c) (show(2147483587:Int)≠0 by decide)
   have h2:=K8 (if c < 0 then -c else c) (show(0:Int) < 2147483587 by decide)
   refine q p _ _ hp ?_ (by omega) (by omega)
   generalize (if c < 0 then -c else c) - 10 ^ (18:Int).toNat=d;split <;> omega
  have tail:∀c:Int,∃ (x:V),([some (.ref a),some (.int k),some (.int c)]:St)[2]? = some (some x):=fun c=>⟨_,rfl⟩;refine fq (fun hk=>?_) (fun hk=>?_)
  ·have yQ:k < ((ns.map V.int).length:Int):=xm hk
   rw[aA]at yQ;obtain⟨z,hz⟩:=YW (ns:=ns) (i:=k.toNat) (by omega)
   refine⟨_,rfl,_,rfl,a,_,_,_,rfl,rfl,hS,(by rw[show k=((k.toNat:Nat):Int) by omega];exact eG hz),?_⟩
   refine⟨_,rfl,z,rfl,_,_,rfl,rfl,⟨by decide,by decide,by decide⟩,_,_,rfl,rfl,_,_,rfl,?_⟩
   refine⟨_,rfl,z,rfl,_,_,rfl,rfl,(by show(0:Int) < 2147483587;decide),_,rfl,_,_,rfl,rfl,.inl ⟨by decide,by decide⟩,_,_,rfl,rfl,_,_,rfl,rfl,(ng),fun p hp=>fin z p hp⟩
  ·refine⟨_,rfl,0,rfl,_,_,rfl,rfl,⟨by decide,by decide,by decide⟩,_,_,rfl,rfl,_,_,rfl,?_⟩
   refine⟨_,rfl,0,rfl,_,_,rfl,rfl,(by show(0:Int) < 2147483587;decide),_,rfl,_,_,rfl,rfl,.inl ⟨by decide,by decide⟩,_,_,rfl,rfl,_,_,rfl,rfl,(ng),fun p hp=>fin 0 p hp⟩
@[irreducible] noncomputable def pL:Sp:=fun vs H Q _=>∃ (p:Addr) (m x y:Int),vs = [.ref p,.int m]/\H p=some (.lst [.int x,.int y])/\0<=x/\0<=y/\y < 4294967296/\0 < m/\m<=1000000 /\
 ∀ (d x' y':Int),0<=d->d < m->0<=x'->0<=y'->y' < 4294967296->Q (.int d) (upd H p (.lst [.int x',.int y']))
theorem NF:b6 ["_law_pot_here","_law_many","_law_digit_here"] ["_law_pot_here","_law_many"] (aJ xX):=cF (by decide +kernel)
theorem EM (F:aW K "_law_digit" "_law_digit" xX f fd):aI P w K mg base aQ 1 f fd ["_law_pot_here","_law_many"] pL:=by
 refine F.ok NF (fun vs H Q E h=>?_) (fun cdv A outer s H vs Q E hr h=>?_)
 ·unfold pL at h;obtain⟨p,m,x,y,rfl,_⟩:=h;rfl
 ·unfold pL at h
  obtain⟨p,m,x,y,rfl,hp,x0,y0,y1,m0,m1,q⟩:=h;refine⟨_,aD (cQ (cy Oi (cf eQ (pv 0) aP (fun _ _=>rfl)) aP (cI _))
    (aD (bq (i:=2) NF.nd rfl (Or.inl rfl) (c8 xO (cf eQ (pv 0) aP (fun _ _=>rfl)) (pv 1)))
    (aD (qV (c8 Na (cf eQ (pv 0) aP (fun _ _=>rfl)) (pv 1)) (NU (pv 0) aP set_list))
    (aK (bf (pv 2))))) cU)
   (aD (qV (c8 xO (c8 qW (c8 Fo (cf eQ (pv 0) aP (fun _ _=>rfl)) aP) aP) aP) (NU (pv 0) aP set_list))
   (aK (bf (c8 xO (c8 Na (c8 xO (c8 Fo (cf eQ (pv 0) aP (fun _ _=>rfl)) (cf eQ (pv 0) aP (fun _ _=>rfl))) aP) aP) (pv 1))))),?_⟩
  have hl:aj K H p [.int x,.int y]:=aj.of hp;refine⟨_,rfl,p,_,0,_,rfl,rfl,hl,rfl,_,_,rfl,rfl,_,rfl,?_⟩;refine fq (fun hx=>?_) (fun hx=>?_)
  ·refine⟨_,rfl,p,_,0,_,rfl,rfl,hl,rfl,_,rfl,_,_,rfl,rfl,m0,?_⟩
   refine⟨_,rfl,p,_,0,_,rfl,rfl,hl,rfl,_,rfl,_,_,rfl,rfl,⟨m0,by omega⟩,_,rfl,p,_,0,0,rfl,rfl,hp,rfl,?_⟩
   refine⟨_,rfl,?_⟩;exact q _ _ _ (K6 _ (by omega)) (K8 _ m0) (Int.ediv_nonneg x0 (by omega)) y0 y1
  ·refine⟨_,rfl,p,_,1,_,rfl,rfl,hl,rfl,_,_,rfl,rfl,.inr ⟨by decide,by decide⟩,_,_,rfl,rfl,_,_,rfl,rfl,(by show(0:Int) < 2147483647;decide),_,rfl,p,_,1,1,rfl,rfl,hp,rfl,?_⟩
   have h1:=K6 (y * 39373+20011) (show(2147483647:Int)≠0 by decide)
   have h2:=K8 (y * 39373+20011) (show(0:Int) < 2147483647 by decide)
   refine⟨_,rfl,p,_,1,_,rfl,rfl,aj.of ag,rfl,_,rfl,p,_,1,_,rfl,rfl,aj.of ag,rfl,_,_,rfl,rfl,.inl ⟨Int.lt_of_lt_of_le (by decide) h1,Int.lt_of_lt_of_le h2 (by decide)⟩,_,_,rfl,rfl,(by show(0:Int) < 2147483563;decide),_,_,rfl,rfl,⟨by decide,by decide⟩,_,rfl,_,_,rfl,rfl,m0,?_⟩
   exact q _ x _ (K6 _ (by omega)) (K8 _ m0) x0 h1 (by omega)
def gf (p:Addr) (H:Hp):Prop:= ∃x y:Int,H p=some (.lst [.int x,.int y])/\0<=x/\0<=y/\y < 4294967296
structure cq (p:Addr) (H H':Hp):Prop where
 ok:gf p H'
 kp:∀b o,H b=some o->b≠p->H' b=some o
section
variable{q:Addr}{o:HO}
theorem cq.refl (h:gf p H):cq p H H:=⟨h,fun _ _ e _=>e⟩
theorem cq.trans (a:cq p H H1) (b:cq p H1 H2):cq p H H2:=⟨b.ok,fun c o e n=>b.kp c o (a.kp c o e n) n⟩
theorem gf.ne (h:gf p H) (hq:H q=none):p≠q:=let ⟨_,_,e,_⟩:=h;ao e hq
theorem cq.new (a:cq p H H1) (hq:H1 q=none):cq p H (upd H1 q o):=by
 refine⟨?_,fun b u e n=>?_⟩
 ·obtain⟨x,y,e,r⟩:=id a.ok
  exact⟨x,y,by rw[ah (a.ok.ne hq)];exact e,r⟩
 ·rw[ah (ao (a.kp b u e n) hq)];exact a.kp b u e n
theorem cq.free (a:cq p H H1) (hq:H1 q=none):H q=none:=by
 cases e:H q with
 |none=>rfl
 |some u =>
  by_cases h:q=p
  ·subst h;obtain⟨_,_,z,_⟩:=a.ok;rw[z]at hq;cases hq
  ·rw[a.kp q u e h]at hq;cases hq
theorem cq.write (a:cq p H H1) (hq:H q=none) (hp:p≠q):cq p H (upd H1 q o):=by
 refine⟨?_,fun b u e n=>?_⟩
 ·obtain⟨x,y,e,r⟩:=id a.ok
  exact⟨x,y,by rw[ah hp];exact e,r⟩
 ·rw[ah (ao e hq)];exact a.kp b u e n
theorem lN {m:Int} (h:gf p H) (m0:0 < m) (m1:m<=1000000) (k:∀d H',0<=d->d < m->cq p H H'->Q (.int d) H'):pL [.ref p,.int m] H Q E:=by
 obtain⟨x,y,e,x0,y0,y1⟩:=h;unfold pL;exact⟨p,m,x,y,rfl,e,x0,y0,y1,m0,m1,fun d x' y' d0 d1 h1 h2 h3=>k d _ d0 d1 ⟨⟨x',y',ag,h1,h2,h3⟩,fun b o z n=>by rw[ah n];exact z⟩⟩
end
theorem Mt:∀cs:List Nat,((cs.map sign).map (·.length)).sum=cs.length
 |[]=>rfl
 |c::cs=>by
  have e:(sign c).length=1:=rfl;simp only[cz,K1,Mt cs,eN,e];omega
abbrev sI:Str:= "abcdefghijklmnopqrstuvwxyz"
theorem Mu {d:Int} (h0:0<=d) (h1:d < 26):∃c:Nat,cC sI.cps.toList d=some c/\97<=c/\c<=122/\c=97+d.toNat:=by
 have all:∀i:Nat,i < 26->sI.cps.toList[i]? = some (97+i):=by decide +kernel
 refine⟨97+d.toNat,?_,by omega,by omega,rfl⟩
 rw[show d=((d.toNat:Nat):Int) by omega]
 exact eG (all d.toNat (by omega))
@[irreducible] noncomputable def u9:Sp:=fun vs H Q _=>∃ (p:Addr) (m:Nat),vs = [.ref p,.int m]/\gf p H/\m<=20 /\
 ∀ (l:Addr) (ys:List Str) (H':Hp),H l=none->ys.length=m->(∀y∈ys,Nm y)->ys.Nodup->cq p H H'->H' l=some (.lst (ys.map V.str))->Q (.ref l) H'
noncomputable abbrev Bp:List Str:= ["_law_pot_here","_law_many","_law_letters","_law_found","_law_k","_law_size","_law_name","_law_some"]
theorem qS:b6 Bp ["_law_pot_here","_law_many"] (aJ pQ):=cF (by decide +kernel)
def Bq (s:Stmt):List Stmt:=match s with|.If _ b _ _=>b|_=>[]
noncomputable abbrev acu:Scope:=cE (fG (fB (cb (qR (cb (b9 pQ) 2)) 1)))
noncomputable abbrev acv:Scope:=cE (fB (cb (Bq (cb (qR (cb (b9 pQ) 2)) 2)) 0))
noncomputable abbrev acw:Scope:=cE (G1 (fB (cb (Bq (cb (qR (cb (b9 pQ) 2)) 2)) 1)))
theorem QZ:bX Bp (aJ pQ) ["_law_turn","_law_letters","_law_pot_here"] [none,some 2,some 0] acu:=c9 (by decide +kernel)
theorem Q0:bX Bp (aJ pQ) ["_law_turn","_law_letters","_law_name"] [none,some 2,some 6] acv:=c9 (by decide +kernel)
theorem Q1:bX Bp (aJ pQ) ["_law_one","_law_found"] [none,some 3] acw:=c9 (by decide +kernel)
theorem X0 {uf:FuncData} (F:aW K "_law_names" "_law_names" pQ f fd) (B:dB mg) (FD:aW K "_law_digit" "_law_digit" xX fD uf) (bD:Binds K uf ["_law_pot_here","_law_many"] []) (mD:mg "_law_digit" = some (.ref fD)) :
  aI P w K mg base aQ 3 f fd ["_law_pot_here","_law_many"] u9:=by
 have GD:aI P w K mg base aQ 1 fD uf ["_law_pot_here","_law_many"] pL:=EM FD;refine F.ok qS (fun vs H Q E h=>?_) (fun cdv A outer s H vs Q E hr h=>?_)
 ·unfold u9 at h;obtain⟨p,m,rfl,_⟩:=h;rfl
 ·unfold u9 at h
  obtain⟨p,m,rfl,hp,m1,q⟩:=h;have cK:a7 1 _:=hr.mono (by decide)
  refine⟨_,aD (bq (i:=2) qS.nd rfl (Or.inr rfl) kx)
   (aD (bq (i:=3) qS.nd rfl (Or.inr rfl) (cX ai))
   (aD (jx jt rfl (pF rfl B.range (af (pv 1) ai)) (aX (i:=4) qS.nd rfl (Or.inl rfl))
    (aD (bq (i:=5) qS.nd rfl (Or.inl rfl) (c8 qW aP (bc GD cK rfl mD FD.kp bD .nil a9 (af (pv 0) (af (cf eQ (cX (af aP (af aP (af aP ai))))
      (bc GD cK rfl mD FD.kp bD .nil a9 (af (pv 0) (af aP ai))) (fun _ _=>rfl)) ai)))))
    (aD (bq (i:=6) qS.nd rfl (Or.inr rfl) (jc PySem.F.plainAttrs_str PySem.F.slot_str_join PySem.F.type_str_join Yq kx
      (af (d4 rfl QZ (pF rfl B.range (af (pv 5) ai)) (fun s H fp=>⟨aX (i:=0) QZ.nd rfl (Or.inl rfl),eP,cf NY (pv 1) (bc GD cK rfl mD FD.kp bD .nil a9 (af (pv 2) (af aP ai))) (fun _ _=>rfl)⟩)) ai)))
    (aD (cQ (cy Ec (pv 6) (pv 3) rfl)
      (aD (sy (i:=7) rfl Q0 qS.nd rfl rfl (pF rfl B.range (af (c8 qW (pv 1) aP) ai)) (fun s H fp=>⟨aX (i:=0) Q0.nd rfl (Or.inl rfl),eP,
        c8 Lv (c8 Lv (pI ZA (pv 2) pK (nV aP)) (cf NY (pv 1) (pv 0) (fun _ _=>rfl))) kx⟩))
      (aK (bq (i:=6) qS.nd rfl (Or.inr rfl) (cf eQ (d4 rfl Q1 (gJ (pv 7)) (fun s H fp=>⟨aX (i:=0) Q1.nd rfl (Or.inl rfl),my (cy (LB K rfl) (pv 0) (pv 1) rfl),pv 0⟩)) aP (fun _ _=>rfl)))))
      cU)
    (aK (ig (jc kh qM qN lK (pv 3) (af (pv 6) ai))))))))
   (aK (bf (pv 3))))),?_⟩
  refine⟨bG _,fun l hl=>?_⟩;have dk:p≠l:=hp.ne hl;have em:((m:Int)).toNat=m:=oY m;refine⟨_,rfl,(m:Int),rfl,by omega,by omega,uK (fun i σ H1=>∃ (ys:List Str) (v4 v5 v6 v7:Option V),σ = [some (.ref p),some (.int m),some (.str sI),some (.ref l),v4,v5,v6,v7]/\ys.length=i/\(∀y∈ys,Nm y)/\ys.Nodup/\cq p H H1/\H1 l=some (.lst (ys.map V.str)))
   ⟨[],none,none,none,none,rfl,rfl,(fun y hy=>by simp at hy),pz,(cq.refl hp).new hl,ag⟩ ?_ ?_⟩
  ·rintro i σ H1 hi ⟨ys,v4,v5,v6,v7,rfl,hlen,CD,gG,pa,iX⟩
   rw[em]at hi;refine⟨_,rfl,Ca,fun a hq=>⟨_,rfl,?_⟩⟩;have nqp:a≠p:=aO (pa.ok.ne hq);refine lN (p:=p) (m:=3) ((cq.refl pa.ok).new hq).ok (by decide) (by decide) fun d H2 d0 d1 pb=>?_
   obtain⟨mv,hat,mv0,mv1⟩:∃mv:Int,cC [V.int 1,V.int 2,V.int 8] d=some (V.int mv)/\0 < mv/\mv<=8:=by
    have:d=0\/d=1\/d=2:=by omega
    rcases this with rfl|rfl|rfl
    ·exact⟨1,rfl,by decide,by decide⟩
    ·exact⟨2,rfl,by decide,by decide⟩
    ·exact⟨8,rfl,by decide,by decide⟩
   refine⟨a,_,d,_,rfl,rfl,aj.of (pb.kp a _ ag nqp),hat,?_⟩;refine lN (p:=p) (m:=mv) pb.ok mv0 (by omega) fun e H3 e0 e1 pc=>⟨_,_,rfl,rfl,?_⟩
   have pd:cq p H1 H3:=(((cq.refl pa.ok).new hq).trans pb).trans pc;have zC:H3 l=some (.lst (ys.map V.str)):=pd.kp l _ iX (aO dk);refine⟨rfl,_,rfl,1+e,rfl,by omega,by omega,fun a1 gF=>?_⟩
   have Cn:p≠a1:=pc.ok.ne gF;refine DV (fun i zs τ H4=>∃ (cs:List Nat) (t0:Option V),zs=(cs.map sign).map V.str/\cs.length=i/\(∀c∈cs,97<=c/\c<=122)/\τ = [t0,some (.str sI),some (.ref p)]/\cq p H3 H4/\H4 a1=some (.lst zs))
    ⟨[],none,rfl,rfl,(fun c hc=>by simp at hc),rfl,(cq.refl pc.ok).new gF,ag⟩ (fun i zs τ H4 hQ9=>by obtain⟨_,_,_,_,_,_,_,z⟩:=hQ9;exact z) ?_ ?_
   ·rintro j zs τ H4 hj ⟨cs,t0,rfl,gT,IJ,rfl,pe,hz⟩
    refine⟨_,rfl,_,rfl,lN (p:=p) (m:=26) pe.ok (by decide) (by decide) fun d H5 d0 d1 pf=>?_⟩
    obtain⟨c,hc,c0,c1,_⟩:=Mu d0 d1;have hz5:H5 a1=_:=pf.kp a1 _ hz (aO Cn);refine⟨sI,d,c,rfl,rfl,(by rw[aN];decide +kernel),hc,hz5,?_,cw_next hj ⟨cs ++ [c],_,?_,?_,?_,rfl,?_,ag⟩⟩
    ·rw[aA,aA,gT,aN];omega
    ·rw[a8,a8];rfl
    ·rw[cZ,gT];rfl
    ·intro x hx
     rcases dH.mp hx with h|h
     ·exact IJ x h
     ·have:x=c:=by simpa using h
      rw[this];exact⟨c0,c1⟩
    ·exact(pe.trans pf).write ((cq.refl pc.ok).free gF) Cn
   ·rintro zs τ H4 ⟨cs,t0,rfl,gT,IJ,rfl,pe,hz⟩
    have hsl:((cs.map sign).map (·.length)).sum=cs.length:=by
     exact Mt cs
    refine⟨("" : Str),a1,cs.map sign,rfl,rfl,.inl (aj.of hz),?_,?_⟩
    ·have:(Str.length ("" : Str))=0:=rfl
     rw[hsl,this,gT];omega
    rw[VU];generalize Pq:(⟨cs.toArray⟩:Str)=nm;have G8:Nm nm:=by
     have el:nm.length=cs.length:=by rw[<-Pq];show cs.toArray.size=_;simp
     refine⟨by omega,by omega,fun c hc=>IJ c ?_⟩
     rw[<-Pq]at hc;simpa using hc
    have pg:cq p H1 H4:=pd.trans pe;have ug:H4 l=some (.lst (ys.map V.str)):=pe.kp l _ zC (aO dk);refine⟨_,rfl,_,rfl,l,_,rfl,.inl (aj.of ug),rfl,i8 _,_,rfl,?_⟩;rw[au de,jR];refine fq (fun cO=>?_) (fun cO=>?_)
    ·
     refine⟨_,rfl,_,_,rfl,rfl,(m:Int)+1,rfl,by omega,by omega,fun a2 qq=>?_⟩
     refine DV (fun i zs τ H5=>∃t0:Option V,zs=((List.range i).map fun j=>Txt.slice nm none (some 6)++sign (97+j)++("q" : Str)).map V.str/\τ = [t0,some (.str sI),some (.str nm)]/\H5=upd H4 a2 (.lst zs))
      ⟨none,rfl,rfl,rfl⟩ (fun i zs τ H5 ⟨_,_,_,z⟩=>by rw[z];exact ag) ?_ ?_
     ·rintro j zs τ H5 hj ⟨t0,rfl,rfl,rfl⟩
      have wJ:j < m+1:=by omega
      obtain⟨c,hc,c0,c1,hce⟩:=Mu (d:=0+(j:Int)) (by omega) (by omega)
      have acx:c=97+j:=by rw[hce];omega
      have l1:(Txt.slice nm none (some 6)).length<=6:=LA nm;refine⟨_,rfl,_,rfl,nm,rfl,by have:=G8.hi;omega,_,rfl,_,rfl,sI,_,c,rfl,rfl,(by rw[aN];decide +kernel),hc,_,_,rfl,rfl,?_,_,_,rfl,rfl,?_,ag,?_,cw_next hj ⟨_,?_,rfl,?_⟩⟩
      ·show _+1<=sizeLine;rw[aN];omega
      ·have e1:(Txt.slice nm none (some 6)++(⟨#[c]⟩:Str)).length=(Txt.slice nm none (some 6)).length+1:=by
        show(_ ++ #[c]:Array Nat).size=_;rw[KG];rfl
       have e2:(("q" : Str)).length=1:=by decide +kernel
       show(Txt.slice nm none (some 6)++(⟨#[c]⟩:Str)).length+_<=sizeLine;rw[e1,e2,aN];omega
      ·rw[aA,aA,T9,aN];omega
      ·rw[List.range_succ,a8,a8,acx];rfl
      ·rw[ie]
     ·rintro zs τ H5 ⟨t0,rfl,rfl,rfl⟩
      have em1:((m:Int)+1).toNat=m+1:=by omega
      generalize gQ:(List.range ((m:Int)+1).toNat).map (fun j=>Txt.slice nm none (some 6)++sign (97+j)++("q" : Str))=cands;have cnd:cands.Nodup:=by
       rw[<-gQ];refine List.Pairwise.map _ (fun a b QY h=>QY ?_) List.nodup_range;have:=Xp h;omega
      have cnm:∀y∈cands,Nm y:=by
       intro y hy;rw[<-gQ]at hy;obtain⟨j,hj,rfl⟩:=aU.mp hy;have:=oW.mp hj;exact Yr G8.az ⟨by omega,by omega⟩
      have akW:cands.length=m+1:=by rw[<-gQ,aA,T9,em1]
      have rS:upd H4 a2 (.lst (cands.map V.str)) l=some (.lst (ys.map V.str)):=by rw[ah (ao ug qq)];exact ug
      refine⟨_,rfl,a2,rfl,⟨_,aj.of ag⟩,fun a3 rT=>?_⟩;refine iP (xs:=cands.map V.str) (fun i zs τ H6=>∃t0:Option V,zs=((cands.take i).filter (fun y=>!decide (y∈ys))).map V.str/\τ = [t0,some (.ref l)]/\H6=upd (upd H4 a2 (.lst (cands.map V.str))) a3 (.lst zs))
       ⟨none,rfl,rfl,rfl⟩ (fun i zs τ H6 ⟨_,_,_,z⟩=>by rw[z];exact⟨ag,aj.of (by rw[ah (ao ag rT)];exact ag)⟩) ?_ ?_
      ·rintro j x zs τ H6 hx ⟨t0,rfl,rfl,rfl⟩
       rw[eX]at hx;obtain⟨y,hy,rfl⟩:=ib.mp hx;have cG:j < (cands.map V.str).length:=by rw[aA];exact(cR.mp hy).1
       have tk:cands.take (j+1)=cands.take j ++ [y]:=by rw[gu,hy];rfl
       have CF:(upd (upd H4 a2 (.lst (cands.map V.str))) a3 (.lst (((cands.take j).filter (fun y=>!decide (y∈ys))).map V.str))) l=some (.lst (ys.map V.str)):=by rw[ah (ao rS rT)];exact rS
       refine⟨_,rfl,_,rfl,l,_,rfl,.inl (aj.of CF),rfl,i8 _,_,rfl,?_⟩;rw[aB rfl,jR];refine fq (fun hn=>?_) (fun hn=>?_)
       ·refine⟨_,rfl,ag,?_,cw_next cG ⟨_,?_,rfl,?_⟩⟩
        ·have h1:=nQ (fun y=>!decide (y∈ys)) (cands.take j)
         have h2:(cands.take j).length<=cands.length:=by rw[dJ];omega
         rw[aA,aN];omega
        ·rw[tk,pA,a8,UZ,aB hn];rfl
        ·rw[ie]
       ·refine cw_next cG ⟨_,?_,rfl,rfl⟩
        rw[tk,pA,UZ,au hn,List.filter_nil,gr]
      ·rintro zs τ H6 ⟨t0,rfl,rfl,rfl⟩
       rw[aA,du];obtain⟨y0,IK,hyn⟩:=Bm (found:=ys) cnd (by omega)
       have jF:y0∈cands.filter (fun y=>!decide (y∈ys)):=jk.mpr ⟨IK,by simpa using hyn⟩
       cases hf:cands.filter (fun y=>!decide (y∈ys)) with
       |nil=>rw[hf]at jF;simp at jF
       |cons z1 zr =>
        have hz1:z1∈cands.filter (fun y=>!decide (y∈ys)):=by rw[hf];exact bj
        obtain⟨zc,zn⟩:=jk.mp hz1;have zn':z1 ∉ ys:=by simpa using zn
        have CF:(upd (upd H4 a2 (.lst (cands.map V.str))) a3 (.lst ((z1::zr).map V.str))) l=some (.lst (ys.map V.str)):=by rw[ah (ao rS rT)];exact rS
        have ph:cq p H (upd (upd H4 a2 (.lst (cands.map V.str))) a3 (.lst ((z1::zr).map V.str))):=((pa.trans pg).new qq).new rT;refine⟨a3,_,0,V.str z1,rfl,rfl,aj.of ag,(show cC ((z1::zr).map V.str) ((0:Nat):Int)=some (V.str z1) from eG rfl),?_⟩;refine⟨_,rfl,.inl ⟨rfl,_,aj.of CF⟩,_,rfl,l,_,_,rfl,rfl,CF,?_,?_⟩
        ·rw[aA,aN];omega
        ·refine⟨ys ++ [z1],_,_,_,_,rfl,by rw[cZ,hlen];rfl,?_,?_,?_,?_⟩
         ·intro y hy
          rcases dH.mp hy with h|h
          ·exact CD y h
          ·have:y=z1:=by simpa using h
           rw[this];exact cnm z1 zc
         ·rw[mr]
          exact⟨gG,by simp,fun a ha b hb=>by rw[show b=z1 by simpa using hb];exact fun h=>zn' (h ▸ ha)⟩
         ·exact ph.write hl dk
         ·rw[ag,a8];rfl
    ·have j4:nm ∉ ys:=by simpa using cO
     have ph:cq p H H4:=pa.trans pg;refine⟨_,rfl,.inl ⟨rfl,_,aj.of ug⟩,_,rfl,l,_,_,rfl,rfl,ug,?_,?_⟩
     ·rw[aA,aN];omega
     ·refine⟨ys ++ [nm],_,_,_,_,rfl,by rw[cZ,hlen];rfl,?_,?_,?_,?_⟩
      ·intro y hy
       rcases dH.mp hy with h|h
       ·exact CD y h
       ·have:y=nm:=by simpa using h
        rw[this];exact G8
      ·rw[mr]
       exact⟨gG,by simp,fun a ha b hb=>by rw[show b=nm by simpa using hb];exact fun h=>j4 (h ▸ ha)⟩
      ·exact ph.write hl dk
      ·rw[ag,a8];rfl
  ·rintro σ H1 ⟨ys,v4,v5,v6,v7,rfl,hlen,CD,gG,pa,iX⟩
   rw[em]at hlen;exact⟨_,rfl,q l ys H1 hl hlen CD gG pa iX⟩
end lu
namespace lu
open PySem L2 PySem.W HT
theorem VG (K:Frag) (h:X.K=K):d5 X (.type "list") (fun xs H Q=>∃p ys,xs = [.ref p]/\(aj K H p ys\/aC K H p ys) /\ ∀l,H l=none->Q (.ref l) (upd H l (.lst ys))):=by subst h;exact uG
theorem VH (K:Frag) (h:X.K=K) (hc:X.calm=true):d5 X (.builtin "any") (fun xs H Q=>∃ (p:Addr) (bs:List Bool),xs = [.ref p]/\aj K H p (bs.map V.bl)/\Q (.bl (bs.any id)) H):=by subst h;exact Eh hc
theorem W0 (K:Frag) (h:X.K=K):wx X (OZ K):=by subst h;exact sF
def dj (av:Addr->Prop) (H:Hp) (vs:List V) (rows:List (List Str)):Prop:=Paired (fun y r=>∃a,y=V.ref a/\av a/\H a=some (.lst (r.map V.str))) vs rows
theorem sC {av:Addr->Prop}{H:Hp}:∀ {vs:List V}{rows:List (List Str)}{i:Nat}{v:V},dj av H vs rows->vs[i]? = some v -> ∃a r,v=V.ref a/\rows[i]? = some r/\av a/\H a=some (.lst (r.map V.str))
 |_,_,i,v,.nil,e=>by simp at e
 |_,_,0,v,.cons p _,e=>by
  obtain⟨a,rfl,n,q⟩:=p;simp at e;subst e;exact⟨a,_,rfl,rfl,n,q⟩
 |_,_,i+1,v,.cons _ t,e=>by
  obtain⟨a,r,e1,e2,n,q⟩:=sC (i:=i) t (by simpa using e)
  exact⟨a,r,e1,by simpa using e2,n,q⟩
theorem pD {Q3:Addr->Prop} (h:dj av H vs rows) (f:∀a xs,av a->H a=some (.lst xs)->Q3 a/\H' a=some (.lst xs)):dj Q3 H' vs rows:=
 Paired.imp' (fun _ _ ⟨a,e,n,q⟩=>⟨a,e,(f a _ n q).1,(f a _ n q).2⟩) h
theorem AF {av:Addr->Prop}{H:Hp}{vs:List V}{rows:List (List Str)}{a:Addr}{r:List Str}:dj av H vs rows->av a->H a=some (.lst (r.map V.str))->dj av H (vs ++ [.ref a]) (rows ++ [r])
 |.nil,n,q=>.cons ⟨a,rfl,n,q⟩ .nil
 |.cons p t,n,q=>.cons p (AF t n q)
theorem su (h:dj av H vs rows):vs.length=rows.length:=mj h
theorem aaJ (h:Nm x):PyData.strOk x=true:=by
 unfold PyData.strOk;rw[<-Array.all_toList,o7];intro c hc;have:=(h.az c hc).2;exact gI (by omega)
theorem lO (H:Hp):∀xs:List Str,ik H (xs.map V.str) (xs.map PyData.str)
 |[]=>.nil
 |x::xs=>.cons (.str x) (lO H xs)
theorem jT:∀ {xs:List Str},(∀x∈xs,Nm x)->PyData.canLayAll0 (xs.map PyData.str)=true
 |[],_=>rfl
 |x::xs,h=>by
  show(PyData.strOk x && PyData.canLayAll0 (xs.map PyData.str))=true;rw[aaJ (h x bj),jT fun y hy=>h y (cp _ hy)];rfl
theorem pE:∀xs:List Str,PyData.depthAll (xs.map PyData.str)=0
 |[]=>rfl
 |x::xs=>by rw[cz];simp only[PyData.depthAll,PyData.depth,pE xs,Nat.max_self]
theorem ne_nil (ha:H a=some (.lst (xs.map V.str))) (hb:H b=some (.lst [])) (hn:∀x∈xs,Nm x) (q:Q (.bl (!xs.isEmpty)) H):BE (.ref a) (.ref b) H Q:=by
 refine⟨.list (xs.map PyData.str),.list [],.lst ha (lO _ _),.lst hb .nil,jT hn,rfl,by show PyData.depthAll _+1<=60;rw[pE];decide,?_⟩
 cases xs with
 |nil=>exact q
 |cons x xs=>exact q
theorem eq_nil (ha:H a=some (.lst (xs.map V.str))) (hb:H b=some (.lst [])) (hn:∀x∈xs,Nm x) (q:Q (.bl xs.isEmpty) H):Gs (.ref a) (.ref b) H Q:=by
 refine⟨.list (xs.map PyData.str),.list [],.lst ha (lO _ _),.lst hb .nil,jT hn,rfl,by show PyData.depthAll _+1<=60;rw[pE];decide,?_⟩
 cases xs with
 |nil=>exact q
 |cons x xs=>exact q
theorem W2 (xs:List V) (k:Nat):d6 xs (some (k:Int)) none=xs.drop k:=by
 unfold d6;rw[HT.Ex,HT.EW]
 by_cases h:k<=xs.length
 ·rw[UT h,K0 (by rw[Ag];omega)]
 ·rw[UU (by omega),K2,Ue (by omega)];simp
def busy (rest:List (List Str)) (x:Str):Bool:=rest.any fun o=>decide (x∈o.drop 1)
def eg (all:List (List Str)):List (List Str)->List Str
 |[]=>[]
 |[]::rest=>eg all rest
 |(x::_)::rest=>if busy all x then eg all rest else x::eg all rest
theorem AQ {n:Str}:∀ {k:Nat}{rest:List (List Str)},cT k rest n=none ↔ ∀r∈rest,n∈r->r.head? = some n
 |k,[]=>by simp[cT]
 |k,[]::rest=>by
  show cT (k+1) rest n=none ↔ _;rw[AQ (k:=k+1) (rest:=rest)];simp
 |k,(x::r)::rest=>by
  show(if n∈x::r/\x≠n then some (k,x) else cT (k+1) rest n)=none ↔ _
  by_cases h:n∈x::r/\x≠n
  ·rw[aB h]
   constructor
   ·intro z;cases z
   ·intro z
    have:=z _ bj h.1;exact absurd (by simpa using this) h.2
  ·rw[au h,AQ (k:=k+1) (rest:=rest)]
   constructor
   ·intro z q hq hn
    rcases aY.mp hq with rfl|hq
    ·by_cases e:x=n
     ·rw[e];rfl
     ·exact absurd ⟨hn,e⟩ h
    ·exact z q hq hn
   ·exact fun z q hq=>z q (cp _ hq)
theorem M1 {all:List (List Str)} (gG:∀r∈all,r.Nodup) (x:Str):busy all x=false ↔ cT 0 all x=none:=by
 rw[AQ];unfold busy;rw[Tz]
 constructor
 ·intro h q hq hx
  have h1:=h q hq;cases q with
  |nil=>simp at hx
  |cons y t =>
   rcases aY.mp hx with rfl|hx
   ·rfl
   ·exact absurd (by simpa using hx) h1
 ·intro h r hr
  cases r with
  |nil=>simp
  |cons y t =>
   intro hx;have hx:x∈t:=by simpa using hx
   obtain rfl:y=x:=by simpa using h _ hr (cp _ hx)
   exact(gb.mp (gG _ hr)).1 hx
theorem D5 {all:List (List Str)} (gG:∀r∈all,r.Nodup):∀rest:List (List Str),(eg all rest).head? = kj all rest
 |[]=>rfl
 |[]::rest=>D5 gG rest
 |(x::t)::rest=>by
  show(if busy all x then eg all rest else x::eg all rest).head? = if (cT 0 all x).isNone then some x else kj all rest;cases hb:busy all x with
  |false=>rw[(M1 gG x).mp hb];rfl
  |true =>
   have hn:(cT 0 all x).isNone=false:=by
    cases z:cT 0 all x with
    |none=>rw[(M1 gG x).mpr z]at hb;cases hb
    |some _=>rfl
   rw[hn];exact D5 gG rest
theorem xu (all:List (List Str)) (r:List Str):∀rest:List (List Str),eg all (rest ++ [r])=eg all rest++eg all [r]
 |[]=>rfl
 |[]::rest=>xu all r rest
 |(x::t)::rest=>by
  show(if busy all x then eg all (rest ++ [r]) else x::eg all (rest ++ [r]))=(if busy all x then eg all rest else x::eg all rest)++eg all [r];rw[xu all r rest];split <;> rfl
theorem En (all:List (List Str)):∀rest:List (List Str),(eg all rest).length<=rest.length
 |[]=>aR _
 |[]::rest=>Nat.le_succ_of_le (En all rest)
 |(x::t)::rest=>by
  have:=En all rest;show(if busy all x then eg all rest else x::eg all rest).length<=rest.length+1;split
  ·omega
  ·rw[eN];omega
theorem AR {all:List (List Str)}{n:Str}:∀ {rest:List (List Str)},n∈eg all rest -> ∃r∈rest,n∈r
 |[],h=>by simp[eg]at h
 |[]::rest,h=>let ⟨r,hr,e⟩:=AR (rest:=rest) h;⟨r,cp _ hr,e⟩
 |(x::t)::rest,h=>by
  have h:n∈(if busy all x then eg all rest else x::eg all rest):=h;split at h
  ·obtain⟨r,hr,e⟩:=AR (rest:=rest) h
   exact⟨r,cp _ hr,e⟩
  ·rcases aY.mp h with rfl|h
   ·exact⟨_,bj,bj⟩
   ·obtain⟨r,hr,e⟩:=AR (rest:=rest) h
    exact⟨r,cp _ hr,e⟩
theorem LO {n:Str} (h:∀r∈rest,r.Nodup):∀r∈L2.without n rest,r.Nodup:=by
 intro r hr;obtain⟨q,hq,rfl⟩:=aU.mp hr;exact(h q hq).filter _
structure Pr (H:Hp) (rows:List (List Str)) (l fa:Addr) (m:Nat) (σ:St) (H1:Hp) (rest:List (List Str)) (lv:List V) (acc:List Str) (la:Addr):Prop where
 st:∃v3:Option V,σ = [some (.ref l),some (.ref la),some (.ref fa),v3]
 mm:m=total rest
 rV:H1 la=some (.lst lv)
 rr:dj (fun a=>a≠fa) H1 lv rest
 ne:la≠fa
 gn:H1 fa=some (.lst (acc.map V.str))
 sm:Small rest
 nd:∀r∈rest,r.Nodup
 same:aq H H1
 lim:acc.length+total rest<=1000
 eq:bw (total rows) rows=(bw (total rest) rest).map (acc ++ ·)
noncomputable abbrev zD:List Str:= ["_law_rows","_law_left","_law_found","_law_free"]
theorem yB:b6 zD ["_law_rows"] (aJ nT):=cF (by decide +kernel)
def W3 (s:Stmt):Expr:=match s with|.While t _ _ _=>t|_=>.Constant .none 0 ⟨0,0,0,0⟩
def N5 (e:Expr):Expr:=match e with|.ListComp _ (⟨_,_,i::_,_⟩::_) _ _=>i|_=>.Constant .none 0 ⟨0,0,0,0⟩
def vm (e:Expr) (i:Nat):Expr:=match e with|.BoolOp _ es _=>es.getD i (.Constant .none 0 ⟨0,0,0,0⟩)|_=>.Constant .none 0 ⟨0,0,0,0⟩
def tx (e:Expr):Expr:=match e with|.UnaryOp _ x _=>x|_=>.Constant .none 0 ⟨0,0,0,0⟩
noncomputable abbrev sW:Stmt:=cb (b9 nT) 2
noncomputable abbrev eA:Expr:=fB (cb (b9 nT) 0)
noncomputable abbrev eB:Expr:=fG (W3 sW)
noncomputable abbrev eC:Expr:=fB (cb (uP sW) 0)
noncomputable abbrev eD:Expr:=fG (tx (vm (N5 eC) 1))
noncomputable abbrev eE:Expr:=fB (cb (uP sW) 3)
theorem Q4:bX zD (aJ nT) ["_law_row"] [none] (cE eA):=c9 (by decide +kernel)
theorem Q5:bX zD (aJ nT) ["_law_row"] [none] (cE eB):=c9 (by decide +kernel)
theorem Q6:bX zD (aJ nT) ["_law_row","_law_left"] [none,some 1] (cE eC):=c9 (by decide +kernel)
theorem csD:bX ["_law_row","_law_left"] (relabel (cE eC) env) ["_law_other","_law_row"] [none,some 0] (cE eD):=nest rfl (by decide +kernel) (by decide +kernel) rfl (by decide +kernel) (by decide +kernel)
theorem IL:(["_law_other","_law_row"]:List Str).Nodup:=by decide +kernel
theorem Q7:bX zD (aJ nT) ["_law_row","_law_free"] [none,some 3] (cE eE):=c9 (by decide +kernel)
theorem csG:bX ["_law_row","_law_free"] (relabel (cE eE) env) ["_law_name","_law_free"] [none,some 1] (cE (OB eE)):=nest rfl (by decide +kernel) (by decide +kernel) rfl (by decide +kernel) (by decide +kernel)
theorem ndG:(["_law_name","_law_free"]:List Str).Nodup:=by decide +kernel
@[irreducible] noncomputable def vM:Sp:=fun vs H Q _=>∃ (l:Addr) (ws:List V) (rows:List (List Str)),vs = [.ref l]/\H l=some (.lst ws)/\dj (fun _=>True) H ws rows/\Small rows/\(∀r∈rows,r.Nodup) /\
 (bw (total rows) rows=none -> ∀H',aq H H'->Q .aF H')/\(∀o,bw (total rows) rows=some o -> ∀p H',H p=none->aq H H'->H' p=some (.lst (o.map V.str))->Q (.ref p) H')
theorem aaK (F:aW K "_law_merged" "_law_merged" nT f fd) (B:dB mg):aI P w K mg base aQ 1 f fd ["_law_rows"] vM:=by
 refine F.ok yB (fun vs H Q E h=>?_) (fun cdv A outer s H vs Q E hr h=>?_)
 ·unfold vM at h;obtain⟨l,ws,rows,rfl,_⟩:=h;rfl
 ·unfold vM at h
  obtain⟨l,ws,rows,rfl,hl,hR,hS,gG,qn,qs⟩:=h;have hu:=hr.units;refine⟨_,aD (bq (i:=1) yB.nd rfl (Or.inr rfl) (d4 rfl Q4 (gJ (pv 0)) (fun s H fp=>⟨aX (i:=0) Q4.nd rfl (Or.inl rfl),eP,eO (VG K rfl) rfl B.list boot_list (af (pv 0) ai)⟩)))
   (aD (bq (i:=2) yB.nd rfl (Or.inl rfl) (cX ai))
   (aD (uS jt (uT (aZ (Eh rfl) rfl B.any boot_any (af (d4 rfl Q5 (gJ (pv 1)) (fun s H fp=>⟨aX (i:=0) Q5.nd rfl (Or.inl rfl),eP,lP (vf hu) (pv 0) (cX ai) (cI _)⟩)) ai)) (fun _=>rfl))
    (aD (bq (i:=3) yB.nd rfl (Or.inr rfl) (d4 rfl Q6 (gJ (pv 1)) (fun s H fp=>⟨aX (i:=0) Q6.nd rfl (Or.inr rfl),
      my (PW.pt (pw_and (cy (vf hu) (pv 0) (cX ai) (cI _)) (pw_and1 (gx (eT (aZ (VH K rfl rfl) rfl B.any boot_any (af (d4 rfl csD (Ma K rfl (pv 1)) (fun s H fp=>⟨aX (i:=0) IL rfl (Or.inl rfl),eP,lP (Bf K rfl) (cf (Ef K rfl) (pv 1) aP (fun _ _=>rfl)) (pI (W0 K rfl) (pv 0) (nV aP) pK) rfl⟩)) ai))))))),
      cf (Ef K rfl) (pv 0) aP (fun _ _=>rfl)⟩)))
    (aD (cQ (cy (xQ hu) (pv 3) (cX ai) (cI _)) (aK (bf iR)) cU)
    (aD (ig (jc kh qM qN lK (pv 2) (af (cf eQ (pv 3) aP (fun _ _=>rfl)) ai)))
    (aK (bq (i:=1) yB.nd rfl (Or.inr rfl) (d4 rfl Q7 (gJ (pv 1)) (fun s H fp=>⟨aX (i:=0) Q7.nd rfl (Or.inl rfl),eP,
      d4 rfl csG (Ma K rfl (pv 0)) (fun s H fp=>⟨aX (i:=0) ndG rfl (Or.inl rfl),my (cy sX (pv 0) (cf (Ef K rfl) (pv 1) aP (fun _ _=>rfl)) (cI _)),pv 0⟩)⟩))))))))
   (aK (bf (pv 2))))),?_⟩
  refine⟨_,rfl,l,rfl,⟨_,aj.of hl⟩,fun CG tD=>?_⟩;refine iP (xs:=ws) (fun i ys τ H1=>∃t0:Option V,τ = [t0]/\H1 CG=some (.lst ys)/\aq H H1/\dj (fun a=>a≠CG) H1 ys (rows.take i)) ⟨none,rfl,ag,ay tD,.nil⟩ (fun i ys τ H1 ⟨_,_,z1,z2,_⟩=>⟨z1,aj.of (z2 _ _ hl)⟩) ?_ ?_
  ·rintro i x ys τ H1 hx ⟨t0,rfl,h1,S1,zE⟩
   obtain⟨a,r,rfl,eK,_,gU⟩:=sC hR hx;have aS:i < ws.length:=(cR.mp hx).1;have tk:rows.take (i+1)=rows.take i ++ [r]:=by rw[gu,eK];rfl
   refine⟨_,rfl,a,_,rfl,.inl (aj.of (S1 _ _ gU)),fun c hc=>?_⟩;have Sc:=ay (o:= .lst (r.map V.str)) hc;have Q8:c≠CG:=aO (ao h1 hc);refine⟨Sc _ _ h1,?_,cw_next aS ⟨_,rfl,ag,fun b o hb=>?_,?_⟩⟩
   ·have h2:=su zE
    have h3:=hS.bV;rw[dJ]at h2;rw[aN];omega
   ·rw[ah (ao hb tD)];exact Sc _ _ (S1 b o hb)
   ·rw[tk]
    refine AF (pD zE fun b xs nb hb=>⟨nb,by rw[ah nb];exact Sc _ _ hb⟩) Q8 ?_
    rw[ah Q8];exact ag
  ·rintro lv0 τ H1 ⟨t0,rfl,h1,S1,zE⟩
   rw[su hR,du]at zE;refine⟨bG _,fun fa gn=>?_⟩;have Sf:=ay (o:= .lst []) gn;have vN:H fa=none:=S1.free gn;refine⟨fun m σ H2=>∃rest lv acc la,Pr H rows l fa m σ H2 rest lv acc la,⟨_,rows,lv0,[],CG,⟨none,rfl⟩,rfl,Sf _ _ h1,pD zE fun b xs nb hb=>⟨ao hb gn,Sf _ _ hb⟩,ao h1 gn,ag,hS,gG,S1.trans Sf,by have:=xt hS.short;have:=hS.bV;simp only[Al];omega,by cases bw (total rows) rows <;> rfl⟩,?_⟩
   rintro m σ H2 ⟨rest,lv,acc,la,R⟩;obtain⟨v3,rfl⟩:=R.st;refine⟨_,rfl,la,rfl,⟨_,aj.of R.rV⟩,fun pb IM=>?_⟩;refine iP (xs:=lv) (fun i ys τ H3=>∃t0:Option V,τ = [t0]/\ys=((rest.take i).map fun r=>!r.isEmpty).map V.bl/\H3 pb=some (.lst ys)/\aq H2 H3) ⟨none,rfl,rfl,ag,ay IM⟩ (fun i ys τ H3 ⟨_,_,_,z1,z2⟩=>⟨z1,aj.of (z2 _ _ R.rV)⟩) ?_ ?_
   ·rintro i x ys τ H3 hx ⟨t0,rfl,rfl,h3,S3⟩
    obtain⟨a,r,rfl,eK,_,gU⟩:=sC R.rr hx;have aS:i < lv.length:=(cR.mp hx).1;have tk:rest.take (i+1)=rest.take i ++ [r]:=by rw[gu,eK];rfl
    have zF:=ia eK;refine⟨_,rfl,bG _,fun z hz=>?_⟩;have Sz:=ay (o:= .lst []) hz;refine ne_nil (Sz _ _ (S3 _ _ gU)) ag (R.sm.nm r zF) ?_;refine⟨Sz _ _ h3,?_,cw_next aS ⟨_,rfl,by rw[tk,a8,a8];rfl,ag,fun b o hb=>by rw[ah (ao hb IM)];exact Sz _ _ (S3 b o hb)⟩⟩
    have h4:=R.sm.bV;rw[aA,aA,dJ,aN];omega
   ·rintro bs τ H3 ⟨t0,rfl,rfl,h3,S3⟩
    rw[su R.rr,du]at h3;refine⟨pb,_,rfl,aj.of h3,_,rfl,?_⟩;have ean:((rest.map fun r=>!r.isEmpty).any id)=rest.any fun r=>!r.isEmpty:=by rw[KH];rfl
    rw[ean];have rA:=S3 _ _ R.rV;have vO:=S3 _ _ R.gn;have zG:dj (fun a=>a≠fa) H3 lv rest:=pD R.rr fun b xs nb hb=>⟨nb,S3 _ _ hb⟩;have Q9:=R.same.trans S3;refine fq (fun hA=>?_) (fun hA=>?_)
    ·refine⟨fun aG H'=>∃m',m' < m /\ ∃rest lv acc la,Pr H rows l fa m' aG H' rest lv acc la,fun _ _ z=>z,?_⟩
     refine⟨_,rfl,la,rfl,⟨_,aj.of rA⟩,fun pc IP=>?_⟩;refine iP (xs:=lv) (fun i ys τ H4=>∃t0:Option V,τ = [t0,some (.ref la)]/\ys=(eg rest (rest.take i)).map V.str/\H4 pc=some (.lst ys)/\aq H3 H4) ⟨none,rfl,rfl,ag,ay IP⟩ (fun i ys τ H4 ⟨_,_,_,z1,z2⟩=>⟨z1,aj.of (z2 _ _ rA)⟩) ?_ ?_
     ·rintro i x ys τ H4 hx ⟨t0,rfl,rfl,h4,S4⟩
      obtain⟨a,r,rfl,eK,_,gU⟩:=sC zG hx;have aS:i < lv.length:=(cR.mp hx).1;have tk:rest.take (i+1)=rest.take i ++ [r]:=by rw[gu,eK];rfl
      have zF:=ia eK;have Pt:=S4 _ _ gU;refine⟨_,rfl,bG _,fun z hz=>?_⟩;have Sz:=ay (o:= .lst []) hz;refine ne_nil (Sz _ _ Pt) ag (R.sm.nm r zF) ⟨_,rfl,?_⟩;have h5:=Sz _ _ h4;cases r with
      |nil=>exact cw_next aS ⟨_,rfl,by rw[tk,xu];show _=(_ ++ []).map _;rw[gr],h5,S4.trans Sz⟩
      |cons y t =>
       refine⟨_,rfl,la,rfl,⟨_,aj.of (Sz _ _ (S4 _ _ rA))⟩,fun pd wR=>?_⟩;have Ra:pc≠pd:=ao h5 wR;refine iP (xs:=lv) (fun j ys τ H6=>∃t1:Option V,τ = [t1,some (.ref a)]/\ys=((rest.take j).map fun o=>decide (y∈o.drop 1)).map V.bl/\H6 pd=some (.lst ys)/\aq (upd H4 z (.lst [])) H6) ⟨none,rfl,rfl,ag,ay wR⟩ (fun j ys τ H6 ⟨_,_,_,z1,z2⟩=>⟨z1,aj.of (z2 _ _ (Sz _ _ (S4 _ _ rA)))⟩) ?_ ?_
       ·rintro j x ys τ H6 Rb ⟨t1,rfl,rfl,h6,S6⟩
        obtain⟨b,o,rfl,hoj,_,hob⟩:=sC zG Rb;have cG:j < lv.length:=(cR.mp Rb).1;have i3:rest.take (j+1)=rest.take j ++ [o]:=by rw[gu,hoj];rfl
        have Rc:=S4.trans (Sz.trans S6);refine⟨_,rfl,a,_,0,.str y,rfl,rfl,aj.of (Rc _ _ gU),jK,?_⟩;refine⟨_,rfl,_,rfl,b,_,rfl,aj.of (Rc _ _ hob),fun p2 hU=>?_⟩;have ec:d6 (o.map V.str) (some 1) none=(o.drop 1).map V.str:=by
         rw[show(1:Int)=((1:Nat):Int) from rfl,W2,Dz]
        rw[ec];have S7:=ay (o:= .lst ((o.drop 1).map V.str)) hU;refine⟨p2,_,rfl,.inl (aj.of ag),rfl,i8 _,?_⟩;rw[au de,jR];refine⟨S7 _ _ h6,?_,cw_next cG ⟨_,rfl,by rw[i3,a8,a8];rfl,ag,fun c u hc=>by rw[ah (ao hc wR)];exact S7 _ _ (S6 c u hc)⟩⟩
        have h8:=R.sm.bV;rw[aA,aA,dJ,aN];omega
       ·rintro bs2 τ H6 ⟨t1,rfl,rfl,h6,S6⟩
        rw[su zG,du]at h6;refine⟨pd,_,rfl,aj.of h6,_,rfl,?_⟩;have eb:((rest.map fun o=>decide (y∈o.drop 1)).any id)=busy rest y:=by unfold busy;rw[KH];rfl
        rw[eb];have j8:=Sz.trans S6;cases hb:busy rest y with
        |true =>
         refine cw_next aS ⟨_,rfl,?_,S6 _ _ h5,S4.trans j8⟩;rw[tk,xu];show _=(_++(if busy rest y then eg rest [] else y::eg rest [])).map _;rw[hb];show _=(_ ++ []).map _;rw[gr]
        |false =>
         refine⟨_,rfl,a,_,0,.str y,rfl,rfl,aj.of (j8 _ _ Pt),jK,S6 _ _ h5,?_,cw_next aS ⟨_,rfl,?_,ag,fun c u hc=>by rw[ah (ao hc IP)];exact j8 _ _ (S4 c u hc)⟩⟩
         ·have h8:=En rest (rest.take i)
          have h9:=R.sm.bV;rw[dJ]at h8;rw[aA,aN];omega
         ·rw[tk,xu]
          show _=(_++(if busy rest y then eg rest [] else y::eg rest [])).map _;rw[hb,a8];rfl
     ·rintro fr τ H4 ⟨t0,rfl,rfl,h4,S4⟩
      rw[su zG,du]at h4;have Rf:∀x∈eg rest rest,Nm x:=fun x hx=>by
       obtain⟨r,hr,e⟩:=AR hx;exact R.sm.nm r hr x e
      have hfh:=D5 R.nd rest;refine⟨_,rfl,bG _,fun z hz=>?_⟩;have Sz:=ay (o:= .lst []) hz;refine eq_nil (Sz _ _ h4) ag Rf ⟨_,rfl,?_⟩;have zH:fg rest=(eg rest rest).head?:=hfh.symm;have IQ:=Q9.trans (S4.trans Sz);have h5:=Sz _ _ h4;have Pu:=Sz _ _ (S4 _ _ rA);have G9:=Sz _ _ (S4 _ _ vO);generalize eg rest rest=fr at zH h5 Rf ⊢;cases fr with
      |nil =>
       refine qn ?_ _ IQ;rw[R.eq,D1 hA zH];rfl
      |cons n ft =>
       have e:fg rest=some n:=zH;have lt:=uD (uQ e);generalize hG:upd H4 z (.lst [])=G at IQ h5 Pu G9 Sz ⊢;have rrG:dj (fun a=>a≠fa) G lv rest:=pD zG fun b xs nb hb=>⟨nb,Sz _ _ (S4 _ _ hb)⟩;refine⟨_,rfl,.inl ⟨rfl,_,aj.of G9⟩,_,rfl,pc,_,0,.str n,rfl,rfl,aj.of h5,jK,fa,_,_,rfl,rfl,G9,by have:=R.lim;rw[aA,aN];omega,?_⟩
       have oK:pc≠fa:=aO (ao vO IP);have h6:(upd G fa (.lst (acc.map V.str ++ [.str n]))) pc=some (.lst ((n::ft).map V.str)):=by rw[ah oK];exact h5
       have G':(upd G fa (.lst (acc.map V.str ++ [.str n]))) la=some (.lst lv):=by rw[ah R.ne];exact Pu
       have BH:(upd G fa (.lst (acc.map V.str ++ [.str n]))) fa=some (.lst ((acc ++ [n]).map V.str)):=by rw[ag,a8];rfl
       have Rg:aq H (upd G fa (.lst (acc.map V.str ++ [.str n]))):=fun b o hb=>by rw[ah (ao hb vN)];exact IQ b o hb
       have IS:dj (fun a=>a≠fa) (upd G fa (.lst (acc.map V.str ++ [.str n]))) lv rest:=pD rrG fun b xs nb hb=>⟨nb,by rw[ah nb];exact hb⟩
       generalize upd G fa (.lst (acc.map V.str ++ [.str n]))=G6 at h6 G' BH Rg IS ⊢;refine⟨_,rfl,la,rfl,⟨_,aj.of G'⟩,fun le hle=>?_⟩;have nle:le≠fa:=aO (ao BH hle);refine iP (xs:=lv) (fun i ys τ H7=>∃t0:Option V,τ = [t0,some (.ref pc)]/\H7 le=some (.lst ys)/\aq G6 H7/\dj (fun a=>a≠fa/\a≠le) H7 ys (L2.without n (rest.take i))) ⟨none,rfl,ag,ay hle,.nil⟩ (fun i ys τ H7 ⟨_,_,z1,z2,_⟩=>⟨z1,aj.of (z2 _ _ G')⟩) ?_ ?_
       ·rintro i x ys τ H7 hx ⟨t0,rfl,h7,S7,zI⟩
        obtain⟨a,r,rfl,eK,_,gU⟩:=sC IS hx;have aS:i < lv.length:=(cR.mp hx).1;have tk:rest.take (i+1)=rest.take i ++ [r]:=by rw[gu,eK];rfl
        have zF:=ia eK;have Ha:=S7 _ _ gU;have Pw:=S7 _ _ h6;refine⟨_,rfl,a,rfl,⟨_,aj.of Ha⟩,fun b1 iz=>?_⟩;have II:a≠b1:=ao Ha iz;have npb:pc≠b1:=ao Pw iz;have Ck:b1≠le:=aO (ao h7 iz);have nbf:b1≠fa:=aO (ao (S7 _ _ BH) iz);refine iP (xs:=r.map V.str) (fun j zs iw H8=>∃t1:Option V,iw = [t1,some (.ref pc)]/\zs=((r.take j).filter fun y=>!decide (y=n)).map V.str/\H8=upd H7 b1 (.lst zs)) ⟨none,rfl,rfl,rfl⟩ (fun j zs iw H8 ⟨_,_,_,z⟩=>by rw[z];exact⟨ag,aj.of (by rw[ah II];exact Ha)⟩) ?_ ?_
        ·rintro j x zs iw H8 gB ⟨t1,rfl,rfl,rfl⟩
         obtain⟨cG,nI,rfl,i3⟩:=jV gB;refine⟨_,rfl,_,rfl,pc,_,0,.str n,rfl,rfl,aj.of (by rw[ah npb];exact Pw),jK,rfl,_,rfl,?_⟩
         refine fq (fun bB=>?_) (fun bB=>?_)
         ·have lX:r[j]≠n:=fun z=>by rw[z]at bB;simp at bB
          refine⟨_,rfl,ag,?_,cw_next cG ⟨_,rfl,?_,by rw[ie]⟩⟩
          ·have h1:=nQ (fun y=>!decide (y=n)) (r.take j)
           have h2:(r.take j).length<=r.length:=by rw[dJ];omega
           have h3:=R.sm.short r zF;rw[aA,aN];omega
          ·rw[i3,pA,a8,xq (by simpa using lX)];rfl
         ·have hy:r[j]=n:=by
           by_cases z:r[j]=n
           ·exact z
           ·exact absurd (by simp[z]) bB
          refine cw_next cG ⟨_,rfl,?_,rfl⟩;rw[i3];simp[hy]
        ·rintro zs iw H8 ⟨t1,rfl,rfl,rfl⟩
         rw[aA,du];have Sb:=ay (o:= .lst ((r.filter fun y=>!decide (y=n)).map V.str)) iz;refine⟨Sb _ _ h7,?_,cw_next aS ⟨_,rfl,ag,fun b o hb=>?_,?_⟩⟩
         ·have h1:=su zI
          have h2:(L2.without n (rest.take i)).length<=rest.length:=by unfold L2.without;rw[aA,dJ];omega
          have h3:=R.sm.bV;rw[aN];omega
         ·rw[ah (ao hb hle)];exact Sb _ _ (S7 b o hb)
         ·have e1:L2.without n (rest.take (i+1))=L2.without n (rest.take i) ++ [r.filter fun y=>!decide (y=n)]:=by rw[tk];unfold L2.without;rw[a8];rfl
          rw[e1];refine AF (pD zI fun b xs nb hb=>⟨nb,by rw[ah nb.2];exact Sb _ _ hb⟩) ⟨nbf,Ck⟩ ?_
          rw[ah Ck];exact ag
       ·rintro ys τ H7 ⟨t0,rfl,h7,S7,zI⟩
        rw[su IS,du]at zI;refine⟨_,by rw[R.mm];exact lt,L2.without n rest,ys,acc ++ [n],le,⟨_,rfl⟩,rfl,h7,pD zI fun b xs nb hb=>⟨nb.1,hb⟩,nle,S7 _ _ BH,Lg R.sm,LO R.nd,Rg.trans S7,?_,?_⟩
        ·have:=R.lim;rw[cZ,i6];omega
        ·rw[R.eq,D3 hA e,Option.map_map]
         congr 1
         funext z
         simp
    ·refine⟨_,rfl,qs acc ?_ fa H3 vN Q9 vO⟩
     rw[R.eq,D0 (by simpa using hA)]
     show some (acc ++ [])=some acc;rw[gr]
theorem W4 {g:Str->V} (ha:H a=some (.tup (ps.map V.str))) (hd:H d=some (.dK kvs)) (hg:∀x∈ps,bU kvs (Sum.inr x)=some (g x)) (hp:H p=none) (hs:ps.length<=100)
  (q:Q (.ref p) (upd H p (.lst (ps.map g)))):jz (rF K a) (sV 0) yf (FO (lV 1) (lV 0)) [none,some (.ref d)] Q p H:=by
 have qt:a≠p:=ao ha hp;have qu:d≠p:=ao hd hp;refine jQ (xs:=ps.map V.str) (fun j zs τ H2=>∃t1:Option V,τ = [t1,some (.ref d)]/\zs=(ps.take j).map g/\H2=upd H p (.lst zs)) ⟨none,rfl,rfl,rfl⟩ (fun j zs τ H2 ⟨_,_,_,z⟩=>by rw[z];exact⟨ag,aC.of (by rw[ah qt];exact ha)⟩) ?_ ?_
 ·rintro j x zs τ H2 hx ⟨t1,rfl,rfl,rfl⟩
  obtain⟨cG,nI,rfl,i3⟩:=jV hx;refine⟨_,rfl,_,rfl,d,g ps[j],rfl,?_,ag,?_,cw_next cG ⟨_,rfl,?_,by rw[ie]⟩⟩
  ·rw[<-hg _ (iO nI)];exact fh.k (k:=Sum.inr ps[j]) (by rw[ah qu];exact hd)
  ·rw[aA,dJ,aN];omega
  ·rw[i3,a8];rfl
 ·rintro zs τ H2 ⟨t1,rfl,rfl,rfl⟩
  rw[aA,du];exact q
theorem W5 {g:Str->V} (ha:H a=some (.lst (ps.map V.str))) (hd:H d=some (.dK kvs)) (hg:∀x∈ps,bU kvs (Sum.inr x)=some (g x)) (hp:H p=none) (hs:ps.length<=100)
  (q:Q (.ref p) (upd H p (.lst (ps.map g)))):jz (rE K a) (sV 0) yf (FO (lV 1) (lV 0)) [none,some (.ref d)] Q p H:=by
 have qt:a≠p:=ao ha hp;have qu:d≠p:=ao hd hp;refine iP (xs:=ps.map V.str) (fun j zs τ H2=>∃t1:Option V,τ = [t1,some (.ref d)]/\zs=(ps.take j).map g/\H2=upd H p (.lst zs)) ⟨none,rfl,rfl,rfl⟩ (fun j zs τ H2 ⟨_,_,_,z⟩=>by rw[z];exact⟨ag,aj.of (by rw[ah qt];exact ha)⟩) ?_ ?_
 ·rintro j x zs τ H2 hx ⟨t1,rfl,rfl,rfl⟩
  obtain⟨cG,nI,rfl,i3⟩:=jV hx;refine⟨_,rfl,_,rfl,d,g ps[j],rfl,?_,ag,?_,cw_next cG ⟨_,rfl,?_,by rw[ie]⟩⟩
  ·rw[<-hg _ (iO nI)];exact fh.k (k:=Sum.inr ps[j]) (by rw[ah qu];exact hd)
  ·rw[aA,dJ,aN];omega
  ·rw[i3,a8];rfl
 ·rintro zs τ H2 ⟨t1,rfl,rfl,rfl⟩
  rw[aA,du];exact q
def rowsOf (L:Str->List Str) (ps:List Str):List (List Str):=ps.map L ++ [ps]
def nJ (H:Hp) (kvs:List (Key×V)) (L:Str->List Str) (x:Str):Prop:= ∃a,bU kvs (Sum.inr x)=some (.ref a)/\H a=some (.tup ((L x).map V.str))
theorem nJ.same (h:nJ H kvs L x) (s:aq H H'):nJ H' kvs L x:=let ⟨a,e,q⟩:=h;⟨a,e,s _ _ q⟩
theorem YX (h:∀x∈ps,nJ H kvs L x):∃g:Str->V,(∀x∈ps,bU kvs (Sum.inr x)=some (g x))/\ee H (ps.map g) (ps.map L):=by
 refine⟨fun x=>(bU kvs (Sum.inr x)).getD .aF,fun x hx=>?_,?_⟩
 ·obtain⟨a,e,_⟩:=h x hx;show _=some ((bU kvs (Sum.inr x)).getD V.aF);rw[e];rfl
 ·induction ps with
  |nil=>exact .nil
  |cons x ps ih =>
   obtain⟨a,e,q⟩:=h x bj;exact .cons ⟨a,by show(bU kvs (Sum.inr x)).getD V.aF=_;rw[e];rfl,q⟩ (ih fun y hy=>h y (cp _ hy))
theorem Eo:∀ {k:Nat}{rows:List (List Str)}{o:List Str},bw k rows=some o->o.length<=k
 |0,_,_,h=>by cases h;exact aR _
 |k+1,rows,o,h=>by
  unfold bw at h;split at h
  ·split at h
   ·cases h
   ·obtain⟨o',h',rfl⟩:=ib.mp h
    have:=Eo h';rw[eN];omega
  ·cases h;exact bG _
theorem W6 (ht:H t=some (.tup ws)) (hR:ee H ws rows) (hS:Small rows)
  (qn:bw (total rows) rows=none -> ∀a d p vs H',H a=none->H d=none->H p=none->mG (nY rows) 10 (sZ rows)->aq H H'->H' a=some (eV (some .none) C (some d) a)->H' d=some (d7 d [("kind",.aF),("ring",.ref p)])->H' p=some (.tup vs)->fX H' vs (sZ rows)->E (.ref C) (some a) H')
  (qs:∀o,bw (total rows) rows=some o -> ∀p H',H p=none->aq H H'->H' p=some (.tup (o.map V.str))->Q (.ref p) H'):uY C [.ref t] H Q E:=by
 unfold uY;exact⟨t,ws,rows,rfl,ht,hR,hS,qn,qs⟩
theorem X1 (F:aW K "__init__" "Ring.__init__" rh f fd) (b:sN K B) (mB:mg "LineError" = some (.ref B)):yk P w K mg base 1 f fd ["self","kind","ring"] (n8 K "kind" "ring"):=by
 refine F.okH N4 (fun vs H Q E h=>?_) (fun cdv A outer s H vs Q E hr h=>?_)
 ·unfold n8 at h;obtain⟨a,C,k,r,i,rfl,_⟩:=h;rfl
 ·unfold n8 at h
  obtain⟨a,C,k,r,i,rfl,ha,c,qi,fk,fr,nk,nr,q⟩:=h;have hu:=hr.units;have hg:=hr.gd;refine⟨_,aD (ig (DN b rfl mB (af (pv 0) (af (EZ (nW kx (nW (xR hu hg (pv 1)) (nW kx (nW (xR hu hg (pv 2)) Ft))))) ai))))
   (aD (E1 (pv 0) (pv 1)) (aK (ME (pv 0) (pv 2)))),?_⟩
  refine⟨_,rfl,⟨_,rfl,by decide +kernel⟩,_,rfl,fk,fun y1 l0=>⟨⟨_,rfl,l0⟩,⟨_,rfl,by decide +kernel⟩,_,rfl,fr,fun y2 yU=>⟨⟨_,rfl,yU⟩,fun y hy=>?_⟩⟩⟩
  refine⟨a,C,none,_,i,rfl,ha,c,qi,?_⟩;refine⟨_,rfl,_,rfl,a,C,rfl,ha,c,nk,fun d hd jL=>?_⟩;refine⟨_,rfl,_,rfl,a,C,d,_,rfl,ag,(by rw[ah jL];exact ag),c,nr,(by show 1 < 100;decide),?_⟩
  refine q d _ hd jL ?_ ag fun b o e n=>?_
  ·rw[ah (aO jL)];exact ag
  ·rw[ah (ao e hd)];exact EL hd b o e n
theorem N6 {H:Hp}:∀ {vs:List V}{W:List Wi}{v:V},fX H vs W->v∈vs -> ∃w∈W,∃a,v=V.ref a/\H a=some (.tup [.int w.1,.str w.2.1,.str w.2.2])
 |_,_,_,.nil,h=>by cases h
 |_,w::_,_,.cons a b,h=>by
  rcases aY.mp h with rfl|z
  ·exact⟨w,bj,a⟩
  ·obtain⟨w2,h2,r⟩:=N6 b z
   exact⟨w2,cp _ h2,r⟩
noncomputable def rB (C:Addr) (k:Str) (rows:List (List Str)) (H:Hp) (a:Addr):Prop:= ∃c C' d lr p vs W,H a=some (eV (some (.ref c)) C (some d) a)/\H d=some (d7 d [("kind",.str k),("ring",.ref p)])/\H p=some (.tup vs)/\fX H vs W/\mG (nY rows) 10 W/\c≠a/\H c=some (eV (some .none) C' lr c)
@[irreducible] noncomputable def vP (C:Addr):Sp:=fun vs H Q E=>∃ (d pa:Addr) (kvs:List (Key×V)) (L:Str->List Str) (k:Str) (ps:List Str),vs = [.ref d,.str k,.ref pa]/\H d=some (.dK kvs)/\H pa=some (.tup (ps.map V.str))/\(∀x∈ps,nJ H kvs L x)/\Small (rowsOf L ps)/\Nm k /\
 (bw (total (rowsOf L ps)) (rowsOf L ps)=none -> ∀a H',H a=none->aq H H'->rB C k (rowsOf L ps) H' a->E (.ref C) (some a) H') /\ ∀o,bw (total (rowsOf L ps)) (rowsOf L ps)=some o -> ∀p H',aq H H'->H' p=some (.tup ((k::o).map V.str))->Q (.ref p) H'
theorem aaL {k:Str} (hd:H d=some (.dK kvs)) (fo:H pa=some (.tup (ps.map V.str))) (hl:∀x∈ps,nJ H kvs L x) (hS:Small (rowsOf L ps)) (hk:Nm k)
  (qn:bw (total (rowsOf L ps)) (rowsOf L ps)=none -> ∀a H',H a=none->aq H H'->rB C k (rowsOf L ps) H' a->E (.ref C) (some a) H')
  (q:∀o,bw (total (rowsOf L ps)) (rowsOf L ps)=some o -> ∀p H',aq H H'->H' p=some (.tup ((k::o).map V.str))->Q (.ref p) H'):vP C [.ref d,.str k,.ref pa] H Q E:=by
 unfold vP;exact⟨d,pa,kvs,L,k,ps,rfl,hd,fo,hl,hS,hk,qn,q⟩
noncomputable abbrev Rh:List Str:= ["lines","kind","parents","rows","refusal"]
theorem Hb:b6 Rh ["lines","kind","parents"] (aJ xw):=cF (by decide +kernel)
def Px (e:Expr):Expr:=match e with|.BinOp a _ _ _=>a|_=>.Constant .none 0 ⟨0,0,0,0⟩
noncomputable abbrev eLF:Expr:=Px (fG (fB (cb (b9 xw) 0)))
theorem Py:bX Rh (aJ xw) ["parent","lines"] [none,some 0] (cE eLF):=c9 (by decide +kernel)
theorem aaM {nH wU:FuncData} (F:aW K "line_from" "line_from" xw f fd) (Bl:dB mg) (T:F7 K mg B C fI nH) (me:mroIn K C (.ref C)=some true) (GM:aI P w K mg base (fb P w) 3 fM wU ["rows"] (uY C)) (kM:keepIn K (.ref fM)=true) (bM:Binds K wU ["rows"] []) (mM:mg "merged" = some (.ref fM)) :
  aI P w K mg base (fb P w) 4 f fd ["lines","kind","parents"] (vP C):=by
 have GI:yk P w K mg base 1 fI nH ["self","kind","ring"] (n8 K "kind" "ring"):=X1 T.F T.b T.mB;refine F.zd Hb (fun vs H Q E h=>?_) (fun cdv A outer s H vs Q E hr h=>?_)
 ·unfold vP at h;obtain⟨d,pa,kvs,L,k,ps,rfl,_⟩:=h;rfl
 ·unfold vP at h
  obtain⟨d,pa,kvs,L,k,ps,rfl,hd,fo,hl,hS,hk,qn,q⟩:=h;have hu:=hr.units;have ck:=k6 hu;refine⟨_,aD (bq (i:=3) Hb.nd rfl (Or.inl rfl) (eO mx rfl Bl.tuple boot_tuple (af (c8 pO (d4 rfl Py (jU (pv 2)) (fun s H fp=>⟨aX (i:=0) Py.nd rfl (Or.inl rfl),eP,ja ck (pv 1) (pv 0) (fun _ _=>rfl)⟩)) (cX (af (pv 2) ai))) ai)))
   (aK (Xu (j:=4) rfl (fun pins D=>aK (bf (c8 Nn (lQ (af (pv 1) ai)) (ED GM hr rfl mM kM bM (af (pv 3) ai))))) Hb.nd rfl rfl rfl T.mC T.q
    (fun a=>YB T.q T.fn T.kp GI ((hr.mono (by decide:2<=3)).marked _) T.bi a9 rfl T.mC (af (pv 1) (af (Bg (pv 4)) ai))))),?_⟩
  obtain⟨g,hg,hR⟩:=YX hl;have dk:ps.length<=20:=hS.short ps (gH _ bj);refine⟨_,rfl,pa,rfl,⟨_,aC.of fo⟩,fun c hc=>W4 fo hd hg hc (by omega) ?_⟩
  have S1:=ay (o:= .lst (ps.map g)) hc;refine⟨_,rfl,j6,fun c2 gk=>?_⟩;have S2:=S1.trans (ay (o:= .lst [V.ref pa]) gk);refine⟨c,c2,_,_,rfl,rfl,by rw[ah (ao ag gk)];exact ag,ag,by rw[aA,aN];show _+1<=_;omega,fun c3 qv=>?_⟩
  have S3:=S2.trans (ay (o:= .lst (ps.map g ++ [V.ref pa])) qv);refine⟨c3,_,rfl,.inl ⟨aj.of ag,fun r hr=>?_⟩⟩;have S4:=S3.trans (ay (o:= .tup (ps.map g ++ [V.ref pa])) hr);refine⟨_,rfl,j6,fun c4 nj=>?_⟩;have S5:=S4.trans (ay (o:= .tup [V.str k]) nj);refine⟨_,rfl,W6 (rows:=rowsOf L ps) (by rw[ah (ao ag nj)];exact ag) (ee.append (hR.same S5) (S5 _ _ fo)) hS (fun hm a dd p vs H6 ha0 B8 hp0 rp S6 CH hd6 wN IT=>?_) (fun o hm m H6 hm6 S6 h6=>?_)⟩
  ·have CI:=S5.trans S6
   refine⟨⟨C,rfl,me⟩,a,rfl,?_⟩;refine⟨_,rfl,_,rfl,a,some .none,C,dd,_,.ref p,rfl,CH,hd6,T.x,T.nr,rfl,by show 2<=100;decide,fun e he=>?_⟩
   have S7:=ay (o:=cg C none e) he;refine two_sp ag T.x T.q (.inl ⟨k,rfl,dG hk.hi (by decide)⟩) (LL (S7 _ _ wN) (fun v hv=>?_) ?_) T.nk T.nr fun d2 H7 hd2 oM h7a Ri kp=>⟨rfl,?_⟩
   ·obtain⟨w',hw',aw,ew,hw⟩:=N6 IT hv
    obtain⟨pre,post,er,mp,_⟩:=rp.at_ w' hw';have Rj:=ia er;refine⟨aw,w'.1,_,_,ew,S7 _ _ hw,gV (cR.mp er).1 hS.bV,hS.nm _ Rj _ (gH _ bj),hS.nm _ Rj _ (gH _ (cp _ mp))⟩
   ·rw[mj IT];exact dG rp.bV (by decide)
   ·have zJ:e≠a:=fun z=>by rw[z,CH]at he;cases he
    refine⟨e,C,some d2,some (.ref fI),C,some dd,rfl,h7a,fun d' ed=>by cases ed;exact⟨_,Ri⟩,T.x,T.q,kp a _ (S7 _ _ CH) (aO zJ),zJ,CI.free he,?_⟩
    have acy:d2≠e:=oM;refine qn hm e _ (CI.free he) (fun b o hb=>?_) ⟨a,C,d2,some dd,p,vs,sZ (rowsOf L ps),ag,by rw[ah acy];exact Ri,?rp,?rw,rp,aO zJ,by rw[ah (aO zJ)];exact kp a _ (S7 _ _ CH) (aO zJ)⟩
    case rp=>exact(by have:=ao wN he;rw[ah this];exact kp p _ (S7 _ _ wN) this)
    case rw=>exact Paired.imp' (fun v w ⟨b,eb,hb⟩=>⟨b,eb,by have:=ao hb he;rw[ah this];exact kp b _ (S7 _ _ hb) this⟩) IT
    have Rk:b≠e:=ao (CI _ _ hb) he;rw[ah Rk];exact kp b o (S7 _ _ (CI _ _ hb)) Rk
  ·have ol:o.length<=200:=dG (Eo hm) (dG (xt hS.short) (by have:=hS.bV;omega))
   refine⟨c4,m,_,_,rfl,rfl,S6 _ _ ag,h6,by rw[aA,aN];show 1+_<=_;omega,fun p H7 S7 h7=>?_⟩
   exact q o hm p H7 (S5.trans (S6.trans S7)) h7
abbrev aM:=List (Str×List Str)
inductive cD (aa:aM):Str->List Str->Prop where
 |mk {k:Str}{ps:List Str}{L:Str->List Str}{o:List Str}:(k,ps)∈aa->(∀x∈ps,cD aa x (L x))->bw (total (rowsOf L ps)) (rowsOf L ps)=some o->cD aa k (k::o)
structure cw (aa:aM):Prop where
 nd:(aa.map (·.1)).Nodup
 bV:aa.length<=15
 nm:∀p∈aa,Nm p.1
 up:∀p∈aa,∀x∈p.2,∃q∈aa,q.1=x
 four:∀p∈aa,p.2.length<=4
 rW:∀p∈aa,p.2.Nodup
theorem cw.key {aa:aM} (s:cw aa) {k:Str}{qs:List Str} (h:(k,ps)∈aa) (h':(k,qs)∈aa):ps=qs:=by
 have nd:=s.nd;clear s
 induction aa with
 |nil=>cases h
 |cons p aa ih =>
  rw[cz,gb]at nd;have no:∀ {rs},(k,rs)∈aa->p.1≠k:=fun hm e=>nd.1 (e ▸ aU.mpr ⟨_,hm,rfl⟩);rcases aY.mp h with z|z
  ·rcases aY.mp h' with z'|z'
   ·rw[<-z']at z;exact(Prod.mk.inj z).2
   ·exact absurd (by rw[<-z]) (no z')
  ·rcases aY.mp h' with z'|z'
   ·exact absurd (by rw[<-z']) (no z)
   ·exact ih z z' nd.2
theorem AH {L':Str->List Str} (h:∀x∈ps,L x=L' x):rowsOf L ps=rowsOf L' ps:=by
 unfold rowsOf;rw[Dx h]
theorem cD.uniq {aa:aM} (s:cw aa) {k:Str}{l:List Str} (h:cD aa k l):∀ {l'},cD aa k l'->l=l':=by
 induction h with
 |mk hm hx hg ih =>
  intro l' h';cases h' with
  |mk ll gB IU =>
   have e:=s.key hm ll;subst e;have e:=AH fun x oH=>ih x oH (gB x oH);rw[e,IU]at hg;rw[f' hg]
theorem Mv:∀ {k:Nat}{rows:List (List Str)}{o:List Str},bw k rows=some o->o.Nodup /\ ∀x∈o,∃r∈rows,x∈r
 |0,_,_,h=>by cases h;exact⟨pz,fun x hx=>by cases hx⟩
 |k+1,rows,o,h=>by
  unfold bw at h;split at h
  ·split at h
   ·cases h
   ·rename_i n hn
    obtain⟨o',h',rfl⟩:=ib.mp h;obtain⟨nd,mem⟩:=Mv h';have Pz:∀x∈o',x≠n /\ ∃r∈rows,x∈r:=fun x hx=>by
     obtain⟨r,hr,qw⟩:=mem x hx;obtain⟨r0,uh,rfl⟩:=aU.mp hr;obtain⟨h1,h2⟩:=jk.mp qw;exact⟨by simpa using h2,r0,uh,h1⟩
    refine⟨gb.mpr ⟨fun z=>(Pz n z).1 rfl,nd⟩,fun x hx=>?_⟩;rcases aY.mp hx with rfl|z
    ·obtain⟨r,hr,e⟩:=AA hn
     exact⟨r,hr,UW e⟩
    ·exact(Pz x z).2
  ·cases h;exact⟨pz,fun x hx=>by cases hx⟩
theorem YY {a b:List Str} (nd:a.Nodup) (h:∀x∈a,x∈b):a.length<=b.length:=Fy nd h
theorem cD.mem {aa:aM} (s:cw aa) {k:Str}{l:List Str} (h:cD aa k l):(∀x∈l,x∈aa.map (·.1))/\l.length<=16:=by
 induction h with
 |mk hm hx hg ih =>
  rename_i k ps L o
  obtain⟨nd,mem⟩:=Mv hg;have iF:∀x∈o,x∈aa.map (·.1):=fun x hxo=>by
   obtain⟨r,hr,qw⟩:=mem x hxo;unfold rowsOf at hr;rcases dH.mp hr with z|z
   ·obtain⟨y,hy,rfl⟩:=aU.mp z
    exact(ih y hy).1 x qw
   ·rw[ff.mp z]at qw
    obtain⟨q,hq,e⟩:=s.up _ hm x qw;exact aU.mpr ⟨q,hq,e⟩
  have fl:=YY nd iF;have:=s.bV;rw[aA]at fl;refine⟨fun x hx=>?_,by rw[eN];omega⟩
  rcases aY.mp hx with rfl|z
  ·exact aU.mpr ⟨_,hm,rfl⟩
  ·exact iF x z
open Classical in
noncomputable def aH (aa:aM) (k:Str):List Str:=if h:∃l,cD aa k l then Classical.choose h else []
theorem cD.line {aa:aM} (s:cw aa) {k:Str}{l:List Str} (h:cD aa k l):aH aa k=l:=by
 unfold aH;rw[dif_pos ⟨l,h⟩];exact cD.uniq s (aks (⟨l,h⟩:∃l,cD aa k l)) h
def Ln (aa:aM) (k:Str):Prop:=cD aa k (aH aa k)
theorem cD.ln {aa:aM} (s:cw aa) {k:Str}{l:List Str} (h:cD aa k l):Ln aa k:=by unfold Ln;rw[h.line s];exact h
def lU (aa:aM) (k:Str):Prop:= ∃ps,(k,ps)∈aa/\(∀x∈ps,Ln aa x)/\bw (total (rowsOf (aH aa) ps)) (rowsOf (aH aa) ps)=none
theorem lU.no {aa:aM} (s:cw aa) {k:Str} (h:lU aa k) : ¬ Ln aa k:=by
 obtain⟨ps,hm,hx,hg⟩:=h;intro hl;unfold Ln at hl;cases e:aH aa k with
 |nil=>rw[e]at hl;cases hl
 |cons a b =>
  rw[e]at hl;cases hl with
  |mk ll gB IU =>
   have e2:=s.key hm ll;subst e2;rw[AH (fun x oH=>(gB x oH).line s),IU]at hg;cases hg
theorem OC {aa:aM} (s:cw aa) {k:Str}{o:List Str} (hm:(k,ps)∈aa) (hx:∀x∈ps,Ln aa x) (hg:bw (total (rowsOf (aH aa) ps)) (rowsOf (aH aa) ps)=some o):Ln aa k/\aH aa k=k::o:=by
 have h:cD aa k (k::o):= .mk hm hx hg;exact⟨h.ln s,h.line s⟩
def eu (aa:aM):Prop:= ∀p∈aa,Ln aa p.1
theorem D6 {aa:aM} (s:cw aa) {k:Str} (hm:(k,ps)∈aa) (hx:∀x∈ps,Ln aa x):Small (rowsOf (aH aa) ps):=by
 have f4:=s.four _ hm;have iF:∀r∈rowsOf (aH aa) ps,(∀x∈r,x∈aa.map (·.1))/\r.length<=20:=fun r hr=>by
  unfold rowsOf at hr;rcases dH.mp hr with z|z
  ·obtain⟨y,hy,rfl⟩:=aU.mp z
   obtain⟨h1,h2⟩:=cD.mem s (hx y hy);exact⟨h1,by omega⟩
  ·rw[ff.mp z]
   refine⟨fun x qw=>?_,by show ps.length<=20;have:ps.length<=4:=f4;omega⟩
   obtain⟨q,hq,e⟩:=s.up _ hm x qw;exact aU.mpr ⟨q,hq,e⟩
 refine⟨?_,fun r hr=>(iF r hr).2,fun r hr x hx=>?_⟩
 ·unfold rowsOf;rw[cZ,aA];show _+1<=10
  have:ps.length<=4:=f4;omega
 ·obtain⟨q,hq,rfl⟩:=aU.mp ((iF r hr).1 x hx)
  exact s.nm q hq
theorem closed {aa:aM} (s:cw aa) {D:Str->Prop}{B:Str->Prop} (hB:∀k,B k -> ¬ Ln aa k) (hc:∀p∈aa,(∀x∈p.2,D x)->D p.1\/B p.1):∀ {k:Str}{l:List Str},cD aa k l->D k:=by
 intro k l h
 induction h with
 |mk hm hx hg ih =>
  rcases hc _ hm ih with z|z
  ·exact z
  ·exact absurd ((cD.mk hm hx hg).ln s) (hB _ z)
theorem boot_all:bootBuiltins "all" = some (.builtin "all"):=by decide +kernel
theorem VI (K:Frag) (h:X.K=K) (hc:X.calm=true):d5 X (.builtin "all") (fun xs H Q=>∃ (p:Addr) (bs:List Bool),xs = [.ref p]/\aj K H p (bs.map V.bl)/\Q (.bl (bs.all id)) H):=by subst h;exact nR hc
def cj (H:Hp) (vs:List V) (aa:List (Str×List Str)):Prop:=Paired (fun y p=>∃a b,y=V.ref a/\H a=some (.tup [.str p.1,.ref b])/\H b=some (.tup (p.2.map V.str))) vs aa
theorem cj.keep (h:cj H vs aa) (s:∀b xs,H b=some (.tup xs)->H' b=some (.tup xs)):cj H' vs aa:=Paired.imp' (fun _ _ ⟨a,b,e,q,r⟩=>⟨a,b,e,s _ _ q,s _ _ r⟩) h
theorem cj.same (h:cj H vs aa) (s:aq H H'):cj H' vs aa:=h.keep fun _ _ e=>s _ _ e
theorem cj.length (h:cj H vs aa):vs.length=aa.length:=mj h
theorem cj.append {H:Hp}{vs:List V}{aa:List (Str×List Str)}{a b:Addr}{p:Str×List Str}:cj H vs aa->H a=some (.tup [.str p.1,.ref b])->H b=some (.tup (p.2.map V.str))->cj H (vs ++ [.ref a]) (aa ++ [p])
 |.nil,q,r=>.cons ⟨a,b,rfl,q,r⟩ .nil
 |.cons x t,q,r=>.cons x (cj.append t q r)
theorem cj.pairs (h:cj H vs aa):∃kvs,vh H vs kvs/\kvs.map (·.1)=aa.map (·.1):=by
 induction h with
 |nil=>exact⟨[],.nil,rfl⟩
 |cons p _ ih =>
  obtain⟨a,b,e,q,r⟩:=p;obtain⟨kvs,h1,h2⟩:=ih;exact⟨(_,.ref b)::kvs,.cons ⟨a,e,q⟩ h1,by rw[cz,cz,h2]⟩
def isDone (kvs:List (Key×V)) (x:Str):Bool:=(bU kvs (Sum.inr x)).isSome
def jb (dn:Str->Bool) (rest:List (Str×List Str)):List (Str×List Str):=rest.filter fun p=>(p.2.map dn).all id
theorem Mw {dn:Str->Bool}{rest:List (Str×List Str)}{p:Str×List Str}:p∈jb dn rest ↔ p∈rest /\ ∀x∈p.2,dn x=true:=by
 unfold jb;rw[jk,U0,o7];rfl
theorem LP {α:Type} (f:α->Bool):∀l:List α,(l.filter f).length+(l.filter fun x=>!f x).length=l.length
 |[]=>rfl
 |x::l=>by
  have ih:=LP f l;cases h:f x <;> simp[UZ,h] <;> omega
theorem W7 {dn CJ:Str->Bool}{rest:List (Str×List Str)} (h:∀p∈jb dn rest,CJ p.1=true):(rest.filter fun p=>!CJ p.1).length+(jb dn rest).length<=rest.length:=by
 have e:rest.length=(rest.filter fun p=>(p.2.map dn).all id).length+(rest.filter fun p=>!(p.2.map dn).all id).length:=by
  exact(LP (fun p:Str×List Str=>(p.2.map dn).all id) rest).symm
 have le:(rest.filter fun p=>!CJ p.1).length<=(rest.filter fun p=>!(p.2.map dn).all id).length:=by
  rw[<-akA,<-akA];refine List.countP_mono_left fun p hp h1=>?_;cases z:(p.2.map dn).all id with
  |false=>rfl
  |true =>
   have:=h p (jk.mpr ⟨hp,z⟩);rw[this]at h1;cases h1
 unfold jb;omega
theorem X2 (ha:H a=some (.tup (ps.map V.str))) (hd:H d=some (.dK kvs)) (hp:H p=none) (hs:ps.length<=100)
  (q:Q (.ref p) (upd H p (.lst ((ps.map (isDone kvs)).map V.bl)))):jz (rF K a) (sV 0) yf (Gx (lV 0) (lV 1)) [none,some (.ref d)] Q p H:=by
 have qt:a≠p:=ao ha hp;have qu:d≠p:=ao hd hp;refine jQ (xs:=ps.map V.str) (fun j zs τ H2=>∃t1:Option V,τ = [t1,some (.ref d)]/\zs=((ps.take j).map (isDone kvs)).map V.bl/\H2=upd H p (.lst zs)) ⟨none,rfl,rfl,rfl⟩ (fun j zs τ H2 ⟨_,_,_,z⟩=>by rw[z];exact⟨ag,aC.of (by rw[ah qt];exact ha)⟩) ?_ ?_
 ·rintro j x zs τ H2 hx ⟨t1,rfl,rfl,rfl⟩
  obtain⟨cG,nI,rfl,i3⟩:=jV hx;refine⟨_,rfl,_,rfl,d,_,rfl,fh.k (k:=Sum.inr ps[j]) (by rw[ah qu];exact hd),ag,?_,cw_next cG ⟨_,rfl,?_,by rw[ie]⟩⟩
  ·rw[aA,aA,dJ,aN];omega
  ·rw[i3,a8,a8];rfl
 ·rintro zs τ H2 ⟨t1,rfl,rfl,rfl⟩
  rw[aA,du];exact q
def yn (aa:List (Str×List Str)) (kvs:List (Key×V)):Prop:=(kvs.map (·.1)).Nodup /\ ∀k∈kvs.map (·.1),∃p∈aa,k=Sum.inr p.1
theorem Mx (kvs:List (Key×V)) (k:Key) (v:V):(k∈kvs.map (·.1)/\(putK kvs k v).map (·.1)=kvs.map (·.1))\/(k ∉ kvs.map (·.1)/\(putK kvs k v).map (·.1)=kvs.map (·.1) ++ [k]):=by
 have e:(kvs.any fun kv=>decide (kv.1=k))=true ↔ k∈kvs.map (·.1):=by
  rw[sj,aU];exact⟨fun⟨x,h,d⟩=>⟨x,h,xm d⟩,fun⟨x,h,d⟩=>⟨x,h,gI d⟩⟩
 unfold putK
 by_cases h:k∈kvs.map (·.1)
 ·refine .inl ⟨h,?_⟩
  rw[aB (e.mpr h),qL];refine Dx fun kv _=>?_;show(if kv.1=k then (kv.1,v) else kv).1=kv.1;split <;> rfl
 ·refine .inr ⟨h,?_⟩
  rw[au fun z=>h (e.mp z),a8];rfl
theorem EN {k j:Key}:j∈(putK kvs k v).map (·.1) ↔ j=k\/j∈kvs.map (·.1):=by
 rcases Mx kvs k v with⟨h,e⟩|⟨h,e⟩
 ·rw[e];exact⟨.inr,fun z=>z.elim (fun e=>e ▸ h) id⟩
 ·rw[e,dH,ff];exact Or.comm
theorem Fg {k:Key} (h:(kvs.map (·.1)).Nodup):((putK kvs k v).map (·.1)).Nodup:=by
 rcases Mx kvs k v with⟨_,e⟩|⟨hn,e⟩
 ·rw[e];exact h
 ·rw[e,mr]
  exact⟨h,by simp,fun a ha b hb e=>hn (by rw[<-(ff.mp hb),<-e];exact ha)⟩
theorem yn.put {p:Str×List Str} (h:yn aa kvs) (hp:p∈aa):yn aa (putK kvs (Sum.inr p.1) v):=by
 refine⟨Fg h.1,fun k hk=>?_⟩;rcases EN.mp hk with z|z
 ·exact⟨p,hp,z⟩
 ·exact h.2 k z
theorem EO:∀ {kvs:List (Key×V)}{x:Str},isDone kvs x=true->Sum.inr x∈kvs.map (·.1)
 |[],x,h=>by cases h
 |(a,b)::kvs,x,h=>by
  by_cases e:a=Sum.inr x
  ·rw[e];exact bj
  ·unfold isDone at h;rw[ju e]at h
   exact cp _ (EO h)
theorem N7 {l:List Str} (h:l.Nodup):(l.map (Sum.inr:Str->Key)).Nodup:=by
 induction l with
 |nil=>exact pz
 |cons x l ih =>
  rw[gb]at h;rw[cz,gb];refine⟨fun z=>?_,ih h.2⟩;obtain⟨y,hy,e⟩:=aU.mp z;exact h.1 (nL e ▸ hy)
theorem pV {α:Type} [DecidableEq α]:∀ {a b:List α},a.Nodup->(∀x∈a,x∈b)->a.length<=b.length
 |[],b,_,_=>bG _
 |x::a,b,nd,h=>by
  rw[gb]at nd;have hx:=h x bj;have:=pV (b:=b.erase x) nd.2 fun y hy=>(Uc (fun e=>nd.1 (by rw[<-e];exact hy))).mpr (h y (cp _ hy))
  rw[Ua hx]at this;have:=Ub hx;rw[eN];omega
theorem N8 {α:Type} [DecidableEq α]:∀ {a b:List α},a.Nodup->(∀x∈a,x∈b)->b.length<=a.length -> ∀ {y:α},y∈b->y∈a:=by
 intro a b nd h hl y hy;refine Classical.byContradiction fun hn=>?_;have:=pV (a:=y::a) (b:=b) (gb.mpr ⟨hn,nd⟩) fun x hx=>by
  rcases aY.mp hx with rfl|z
  ·exact hy
  ·exact h x z
 rw[eN]at this;omega
theorem km:∀ {kvs:List (Key×V)}{x:Str},Sum.inr x∈kvs.map (·.1)->isDone kvs x=true
 |[],x,h=>by cases h
 |(a,b)::kvs,x,h=>by
  by_cases e:a=Sum.inr x
  ·unfold isDone;rw[jS e];rfl
  ·unfold isDone;rw[ju e]
   rcases aY.mp h with z|z
   ·exact absurd z.symm e
   ·exact km z
def tE (aa:List (Str×List Str)):Prop:= ∀p∈aa,(∀x∈p.2,Ln aa x)->Ln aa p.1
structure yC (H:Hp) (aa:List (Str×List Str)) (t d:Addr) (m:Nat) (σ:St) (H1:Hp) (kvs:List (Key×V)) (rest:List (Str×List Str)) (wv:List V) (wa:Addr):Prop where
 st:∃v3 v4 v5:Option V,σ = [some (.ref t),some (.ref d),some (.ref wa),v3,v4,v5]
 mm:m=rest.length
 hd:H1 d=some (.dK kvs)
 hw:H1 wa=some (.lst wv)
 fv:cj H1 wv rest
 sub:∀p∈rest,p∈aa
 all:∀p∈aa,isDone kvs p.1=true\/p∈rest
 ln:∀x,isDone kvs x=true->nJ H1 kvs (aH aa) x/\Ln aa x
 same:aq H H1
 lim:kvs.length+rest.length<=15
 ky:yn aa kvs
@[irreducible] noncomputable def pM (C:Addr):Sp:=fun vs H Q E=>∃ (t:Addr) (ws:List V) (aa:List (Str×List Str)),vs = [.ref t]/\H t=some (.tup ws)/\cj H ws aa/\cw aa /\
 (∀k' bh,(k',bh)∈aa->(∀x∈bh,Ln aa x)->bw (total (rowsOf (aH aa) bh)) (rowsOf (aH aa) bh)=none -> ∀a H',aq H H'->rB C k' (rowsOf (aH aa) bh) H' a->E (.ref C) (some a) H') /\ ∀d kvs H',H d=none->aq H H'->H' d=some (.dK kvs)->tE aa->(eu aa -> ∀p∈aa,nJ H' kvs (aH aa) p.1)->(kvs.length=aa.length ↔ eu aa)->Q (.ref d) H'
theorem AZ (ht:H t=some (.tup ws)) (hf:cj H ws aa) (ok:cw aa)
  (qn:∀k' bh,(k',bh)∈aa->(∀x∈bh,Ln aa x)->bw (total (rowsOf (aH aa) bh)) (rowsOf (aH aa) bh)=none -> ∀a H',aq H H'->rB C k' (rowsOf (aH aa) bh) H' a->E (.ref C) (some a) H')
  (q:∀d kvs H',H d=none->aq H H'->H' d=some (.dK kvs)->tE aa->(eu aa -> ∀p∈aa,nJ H' kvs (aH aa) p.1)->(kvs.length=aa.length ↔ eu aa)->Q (.ref d) H'):pM C [.ref t] H Q E:=by unfold pM;exact⟨t,ws,aa,rfl,ht,hf,ok,qn,q⟩
theorem ER {rest:List (Str×List Str)} (R:yC H aa t d m σ H1 kvs rest wv wa) (ok:cw aa) (no:∀p∈rest,¬ ∀x∈p.2,isDone kvs x=true) (h:Ln aa x):isDone kvs x=true:=by
 refine closed ok (D:=fun x=>isDone kvs x=true) (B:=fun _=>False) (fun _ z=>z.elim) (fun p hp hx=>?_) h;rcases R.all p hp with z|z
 ·exact .inl z
 ·exact absurd hx (no p z)
theorem NG {rest:List (Str×List Str)} (R:yC H aa t d m σ H1 kvs rest wv wa) (ok:cw aa) (no:∀p∈rest,¬ ∀x∈p.2,isDone kvs x=true):tE aa:=fun p hp hx=>by
 rcases R.all p hp with z|z
 ·exact(R.ln p.1 z).2
 ·exact absurd (fun x h=>ER R ok no (hx x h)) (no p z)
theorem NH {rest:List (Str×List Str)} (R:yC H aa t d m σ H1 kvs rest wv wa) (ok:cw aa) (no:∀p∈rest,¬ ∀x∈p.2,isDone kvs x=true):kvs.length=aa.length ↔ eu aa:=by
 have sub:(kvs.map (·.1)).length<=((aa.map (·.1)).map (Sum.inr:Str->Key)).length:=pV R.ky.1 fun k hk=>by
  obtain⟨p,hp,rfl⟩:=R.ky.2 k hk;exact aU.mpr ⟨p.1,aU.mpr ⟨p,hp,rfl⟩,rfl⟩
 have done:(∀p∈aa,isDone kvs p.1=true)->kvs.length=aa.length:=fun all=>by
  have le:((aa.map (·.1)).map (Sum.inr:Str->Key)).length<=(kvs.map (·.1)).length:=pV (N7 ok.nd) fun k hk=>by
   obtain⟨y,hy,rfl⟩:=aU.mp hk;obtain⟨p,hp,rfl⟩:=aU.mp hy;exact EO (all p hp)
  simp only[aA]at le sub;omega
 constructor
 ·intro e p hp
  have cO:Sum.inr p.1∈kvs.map (·.1):=by
   refine N8 R.ky.1 (fun k hk=>?_) (by simp only[aA];omega) (aU.mpr ⟨p.1,aU.mpr ⟨p,hp,rfl⟩,rfl⟩:(Sum.inr p.1:Key)∈(aa.map (·.1)).map (Sum.inr:Str->Key))
   obtain⟨p,hp,rfl⟩:=R.ky.2 k hk;exact aU.mpr ⟨p.1,aU.mpr ⟨p,hp,rfl⟩,rfl⟩
  exact(R.ln p.1 (km cO)).2
 ·intro all
  refine done fun p hp=>?_;refine closed ok (D:=fun x=>isDone kvs x=true) (B:=fun _=>False) (fun _ z=>z.elim) (fun p hp hx=>?_) (all p hp);rcases R.all p hp with z|z
  ·exact .inl z
  ·exact absurd hx (no p z)
noncomputable abbrev IV:List Str:= ["family","lines","waiting","ready","kind","parents"]
theorem tF:b6 IV ["family"] (aJ vk):=cF (by decide +kernel)
noncomputable abbrev PB:Stmt:=cb (b9 vk) 2
noncomputable abbrev Hc:Expr:=fB (cb (uP PB) 0)
noncomputable abbrev acz:Expr:=fG (N5 Hc)
noncomputable abbrev acA:Expr:=fB (cb (uP PB) 3)
theorem OD:bX IV (aJ vk) ["pair","lines"] [none,some 1] (cE Hc):=c9 (by decide +kernel)
theorem aaN:bX ["pair","lines"] (relabel (cE Hc) env) ["parent","lines"] [none,some 1] (cE acz):=nest rfl (by decide +kernel) (by decide +kernel) rfl (by decide +kernel) (by decide +kernel)
theorem aaO:(["parent","lines"]:List Str).Nodup:=by decide +kernel
theorem OE:bX IV (aJ vk) ["pair","lines"] [none,some 1] (cE acA):=c9 (by decide +kernel)
theorem X3 {Rl:FuncData} (F:aW K "lines_of" "lines_of" vk f fd) (B:dB mg) (GF:aI P w K mg base (fb P w) 4 fF Rl ["lines","kind","parents"] (vP C)) (kF:keepIn K (.ref fF)=true) (bF:Binds K Rl ["lines","kind","parents"] []) (mF:mg "line_from" = some (.ref fF)) :
  aI P w K mg base (fb P w) 5 f fd ["family"] (pM C):=by
 refine F.zd tF (fun vs H Q E h=>?_) (fun cdv A outer s H vs Q E hr h=>?_)
 ·unfold pM at h;obtain⟨t,ws,aa,rfl,_⟩:=h;rfl
 ·unfold pM at h
  obtain⟨t,ws,aa,rfl,ht,acB,ok,qn,q⟩:=h;have hu:=hr.units;have ck:=k6 hu;refine⟨_,aD (bq (i:=1) tF.nd rfl (Or.inr rfl) uX)
   (aD (bq (i:=2) tF.nd rfl (Or.inl rfl) (eO uG rfl B.list boot_list (af (pv 0) ai)))
   (aD (uS K5 (uT (pv 2) (fun _=>rfl))
    (aD (sy rfl OD tF.nd (i:=3) rfl rfl (gJ (pv 2)) (fun s H fp=>⟨aX (i:=0) OD.nd rfl (Or.inl rfl),
      my (eT (aZ (VI K rfl rfl) rfl B.all boot_all (af (d4 rfl aaN (MF K rfl (cf (uV K rfl) (pv 0) aP (fun _ _=>rfl))) (fun s H fp=>⟨aX (i:=0) aaO rfl (Or.inl rfl),eP,Bj (Bn ck (pv 0) (pv 1))⟩)) ai))),
      pv 0⟩))
    (aD (cQ (gx (uT (pv 3) (fun _=>rfl))) (aK (bf (pv 1))) cU)
    (aD (jx K5 rfl (gJ (pv 3)) (pN rfl (eF (aX (i:=4) tF.nd rfl (Or.inl rfl)) (eF (aX (i:=5) tF.nd rfl (Or.inl rfl)) kq)))
     (aK (sG ck (pv 1) (pv 4) (bc GF hr rfl mF kF bF .nil FQ (af (pv 1) (af (pv 4) (af (pv 5) ai)))) rfl)))
    (aK (sy rfl OE tF.nd (i:=2) rfl rfl (gJ (pv 2)) (fun s H fp=>⟨aX (i:=0) OE.nd rfl (Or.inl rfl),
      my (Fn (Eg ck (cf (uV K rfl) (pv 0) aP (fun _ _=>rfl)) (pv 1))),pv 0⟩)))))))
   (aK (bf (pv 1))))),?_⟩
  intro d hd;have Sd:=ay (o:= .dK []) hd;refine⟨_,rfl,t,ws,rfl,.inr (aC.of (Sd _ _ ht)),fun wa oJ=>?_⟩;have Sw:=Sd.trans (ay (o:= .lst ws) oJ);have IW:d≠wa:=ao ag oJ;refine⟨fun m σ H1=>∃kvs rest wv wa,yC H aa t d m σ H1 kvs rest wv wa,⟨_,[],aa,ws,wa,⟨none,none,none,rfl⟩,rfl,by rw[ah IW];exact ag,ag,acB.same Sw,fun _ h=>h,fun _ h=>.inr h,fun x h=>(by cases h),Sw,by have:=ok.bV;rw[Al];omega,⟨pz,fun _ h=>(by cases h)⟩⟩,?_⟩
  rintro m σ H1 ⟨kvs,rest,wv,wa,R⟩;obtain⟨v3,v4,v5,rfl⟩:=R.st;have zK:=R.fv.length;refine⟨_,rfl,_,.inl ⟨_,aj.of R.hw,rfl⟩,?_⟩;refine fq (fun bB=>?_) (fun bB=>?_)
  ·refine⟨fun aG H'=>∃m',m' < m /\ ∃kvs rest wv wa,yC H aa t d m' aG H' kvs rest wv wa,fun _ _ z=>z,?_⟩
   refine⟨_,rfl,wa,rfl,⟨_,aj.of R.hw⟩,fun ra IX=>?_⟩;have Rm:∀ {b:Addr}{u:HO},H b=some u->b≠d:=fun e=>ao e hd;have ndr:d≠ra:=ao R.hd IX;refine iP (xs:=wv) (fun i ys τ H3=>∃t0:Option V,τ = [t0,some (.ref d)]/\H3 ra=some (.lst ys)/\aq H1 H3/\cj H3 ys (jb (isDone kvs) (rest.take i))) ⟨none,rfl,ag,ay IX,.nil⟩ (fun i ys τ H3 ⟨_,_,z1,z2,_⟩=>⟨z1,aj.of (z2 _ _ R.hw)⟩) ?_ ?_
   ·rintro i x ys τ H3 hx ⟨t0,rfl,h3,S3,F3⟩
    have aS:i < wv.length:=(cR.mp hx).1;obtain⟨p,hp,a,b,rfl,ha,hb⟩:=nX R.fv hx;have tk:rest.take (i+1)=rest.take i ++ [p]:=by rw[gu,hp];rfl
    have CK:=R.sub p (ia hp);have dk:p.2.length<=20:=dG (ok.four p CK) (by decide)
    have rT:=S3 _ _ ha;have qx:=S3 _ _ hb;refine⟨_,rfl,a,_,1,.ref b,rfl,rfl,aC.of rT,(show cC [V.str p.1,V.ref b] ((1:Nat):Int)=some (.ref b) from eG rfl),?_⟩;refine⟨b,rfl,⟨_,aC.of qx⟩,fun c hc=>X2 qx (S3 _ _ R.hd) hc (by omega) ?_⟩
    have Sc:=ay (o:= .lst ((p.2.map (isDone kvs)).map V.bl)) hc;refine⟨c,_,rfl,aj.of ag,_,rfl,?_⟩;refine fq (fun B9=>?_) (fun B9=>?_)
    ·refine⟨_,rfl,Sc _ _ h3,?_,cw_next aS ⟨_,rfl,ag,fun b o hb=>by rw[ah (ao hb IX)];exact Sc _ _ (S3 b o hb),?_⟩⟩
     ·have h1:=F3.length
      have h2:(jb (isDone kvs) (rest.take i)).length<=(rest.take i).length:=nQ _ _;have h3:=R.lim;rw[dJ]at h2;rw[aN];omega
     ·have e1:jb (isDone kvs) (rest.take (i+1))=jb (isDone kvs) (rest.take i) ++ [p]:=by
       rw[tk];unfold jb;rw[pA,xq (by exact B9)];rfl
      rw[e1];refine cj.append (F3.keep fun b xs hb=>?_) ?_ ?_ (b:=b)
      ·rw[ah (bg hb h3)];exact Sc _ _ hb
      ·rw[ah (bg rT h3)];exact Sc _ _ rT
      ·rw[ah (bg qx h3)];exact Sc _ _ qx
    ·refine cw_next aS ⟨_,rfl,Sc _ _ h3,S3.trans Sc,?_⟩
     have e1:jb (isDone kvs) (rest.take (i+1))=jb (isDone kvs) (rest.take i):=by
      rw[tk];unfold jb;rw[pA,Ay (by exact B9)];simp
     rw[e1];exact F3.same Sc
   ·rintro rv τ H3 ⟨t0,rfl,h3,S3,F3⟩
    rw[zK,du]at F3;have lx:=F3.length;have iL:=S3 _ _ R.hd;have Rn:=S3 _ _ R.hw;have iu:cj H3 wv rest:=R.fv.same S3;have lX:rest ≠ []:=fun z=>by
     rw[z]at zK;have:wv = []:=xk zK;rw[this]at bB;cases bB
    generalize wA:jb (isDone kvs) rest=ready at F3 lx;refine⟨_,rfl,_,.inl ⟨_,aj.of h3,rfl⟩,?_⟩
    by_cases IY:ready = []
    ·have e:rv = []:=xk (by rw[lx,IY];rfl)
     rw[e];have no:∀p∈rest,¬ ∀x∈p.2,isDone kvs x=true:=fun p hp hx=>?no;exact⟨_,rfl,q d kvs H3 hd (R.same.trans S3) iL (NG R ok no) (fun al p hp=>(R.ln _ (ER R ok no (al p hp))).1.same S3) (NH R ok no)⟩;have:p∈jb (isDone kvs) rest:=Mw.mpr ⟨hp,hx⟩;rw[wA,IY]at this;cases this
    obtain⟨p0,uh⟩:=List.exists_mem_of_ne_nil _ IY;have acC:(!rv.isEmpty)=true:=by
     cases rv with
     |nil =>
      have:ready = []:=xk lx.symm;rw[this]at uh;cases uh
     |cons _ _=>rfl
    rw[acC];refine⟨_,rfl,ra,rfl,⟨_,aj.of h3⟩,xy (xs:=rv) (fun i σ H4=>∃ (fu:List (Key×V)) (v4 v5:Option V),σ = [some (.ref t),some (.ref d),some (.ref wa),some (.ref ra),v4,v5]/\H4 d=some (.dK fu)/\fu.length<=kvs.length+i /\
     (∀b u,b≠d->H3 b=some u->H4 b=some u)/\(∀x,isDone fu x=true->nJ H4 fu (aH aa) x/\Ln aa x)/\(∀x,isDone kvs x=true->isDone fu x=true)/\(∀p∈ready.take i,isDone fu p.1=true)/\yn aa fu)
     ⟨kvs,v4,v5,rfl,iL,aR _,fun _ _ _ e=>e,fun x hx=>⟨(R.ln x hx).1.same S3,(R.ln x hx).2⟩,fun _ h=>h,fun p hp=>(by cases hp),R.ky⟩ (fun i σ H4 _ hQ9=>by obtain⟨_,_,_,_,_,_,z,_⟩:=hQ9;exact aj.of (z _ _ (aO ndr) h3)) ?_ ?_⟩
    ·rintro i x σ H4 hx ⟨fu,v4,v5,rfl,iM,ug,iC,wV,iW,CL,IZ⟩
     have aS:i < rv.length:=(cR.mp hx).1;obtain⟨p,hp,a,b,rfl,ha,hb⟩:=nX F3 hx;have tk:ready.take (i+1)=ready.take i ++ [p]:=by rw[gu,hp];rfl
     have hpr:p∈jb (isDone kvs) rest:=by rw[wA];exact ia hp
     obtain⟨CK,wR⟩:=Mw.mp hpr;have gq:=R.sub p CK;have I0:∀x∈p.2,Ln aa x:=fun x hx=>(wV x (iW x (wR x hx))).2;have zL:=D6 ok (k:=p.1) (ps:=p.2) gq I0;have acD:aq H H4:=fun b u e=>iC b u (Rm e) (S3 _ _ (R.same b u e));have ha4:=iC _ _ (bg ha iL) ha
     have hb4:=iC _ _ (bg hb iL) hb
     refine⟨a,_,rfl,aC.of ha4,rfl,_,_,rfl,_,_,rfl,rfl,?_⟩;refine⟨_,rfl,_,rfl,_,rfl,aaL (L:=aH aa) iM hb4 (fun x hx=>(wV x (iW x (wR x hx))).1) zL (ok.nm p gq) (fun hg a H5 ha0 S5 h5=>qn p.1 p.2 gq I0 hg a H5 (acD.trans S5) h5) fun oo tX q5 H5 S5 h5=>?_⟩;obtain⟨Ja,hL⟩:=OC ok (k:=p.1) (ps:=p.2) gq I0 tX;refine⟨_,rfl,_,rfl,d,_,rfl,mV.k (k:=Sum.inr p.1) (S5 _ _ iM) ?_,?_⟩
     ·have h1:=R.lim
      have h2:ready.length<=rest.length:=by rw[<-wA];exact nQ _ _
      rw[aN];omega
     ·have nq:q5≠d:=bg h5 (S5 _ _ iM)
      refine⟨_,_,_,rfl,ag,?_,fun b u nb e=>?_,fun x hx=>?_,fun x hx=>?_,fun y hy=>?_,IZ.put (R.sub p CK)⟩
      ·have:=DO fu (Sum.inr p.1) (V.ref q5);omega
      ·rw[ah nb];exact S5 _ _ (iC b u nb e)
      ·unfold nJ
       rw[lM]
       by_cases e:x=p.1
       ·subst e
        refine⟨⟨q5,by rw[aB rfl],?_⟩,Ja⟩
        rw[ah nq,hL];exact h5
       ·have e2 : ¬ ((Sum.inr x:Key)=Sum.inr p.1):=fun z=>e (nL z)
        have gB:isDone fu x=true:=by unfold isDone at hx ⊢;rw[lM,au e2]at hx;exact hx
        obtain⟨⟨a',ea,Ro⟩,y8⟩:=wV x gB;refine⟨⟨a',by rw[au e2];exact ea,?_⟩,y8⟩
        rw[ah (bg Ro iM)];exact S5 _ _ Ro
      ·unfold isDone;rw[lM]
       split
       ·rfl
       ·exact iW x hx
      ·unfold isDone;rw[lM]
       split
       ·rfl
       ·rename_i hn
        rw[tk]at hy;rcases dH.mp hy with z|z
        ·exact CL _ z
        ·have:y=p:=by simpa using z
         exact absurd (by rw[this]) hn
    ·rintro σ H4 ⟨fu,v4,v5,rfl,iM,ug,iC,wV,iW,CL,IZ⟩
     rw[lx,du]at CL;have hf4:cj H4 wv rest:=iu.keep fun b xs e=>iC _ _ (bg e iL) e
     have CM:=iC _ _ (bg Rn iL) Rn
     have SH4:aq H H4:=fun b u e=>iC b u (Rm e) (S3 _ _ (R.same b u e));refine⟨_,rfl,wa,rfl,⟨_,aj.of CM⟩,fun wb Jb=>?_⟩;have nwb:d≠wb:=ao iM Jb;refine iP (xs:=wv) (fun i ys τ H5=>∃t0:Option V,τ = [t0,some (.ref d)]/\H5 wb=some (.lst ys)/\aq H4 H5/\cj H5 ys ((rest.take i).filter fun p=>!isDone fu p.1)) ⟨none,rfl,ag,ay Jb,.nil⟩ (fun i ys τ H5 ⟨_,_,z1,z2,_⟩=>⟨z1,aj.of (z2 _ _ CM)⟩) ?_ ?_
     ·rintro i x ys τ H5 hx ⟨t0,rfl,h5,S5,F5⟩
      have aS:i < wv.length:=(cR.mp hx).1;obtain⟨p,hp,a,b,rfl,ha,hb⟩:=nX hf4 hx;have tk:rest.take (i+1)=rest.take i ++ [p]:=by rw[gu,hp];rfl
      have Jc:=S5 _ _ ha;have ui:=S5 _ _ hb;refine⟨_,rfl,a,_,0,.str p.1,rfl,rfl,aC.of Jc,(show cC [V.str p.1,V.ref b] ((0:Nat):Int)=some (.str p.1) from eG rfl),?_⟩;refine⟨_,rfl,d,_,rfl,fh.k (k:=Sum.inr p.1) (S5 _ _ iM),_,rfl,?_⟩;refine fq (fun cO=>?_) (fun cO=>?_)
      ·refine⟨_,rfl,h5,?_,cw_next aS ⟨_,rfl,ag,fun b o hb=>by rw[ah (ao hb Jb)];exact S5 b o hb,?_⟩⟩
       ·have h1:=F5.length
        have h2:=nQ (fun p:Str×List Str=>!isDone fu p.1) (rest.take i);have h3:=R.lim;rw[dJ]at h2;rw[aN];omega
       ·rw[tk,pA,xq (by exact cO)]
        refine cj.append (F5.keep fun b xs hb=>?_) ?_ ?_ (b:=b)
        ·rw[ah (bg hb h5)];exact hb
        ·rw[ah (bg Jc h5)];exact Jc
        ·rw[ah (bg ui h5)];exact ui
      ·refine cw_next aS ⟨_,rfl,h5,S5,?_⟩
       rw[tk,pA,Ay (by exact cO),List.filter_nil,gr]
       exact F5
     ·rintro ys τ H5 ⟨t0,rfl,h5,S5,F5⟩
      rw[zK,du]at F5;have less:=W7 (dn:=isDone kvs) (CJ:=isDone fu) (rest:=rest) (by rw[wA];exact CL)
      rw[wA]at less;have hrp:0 < ready.length:=Ub uh;refine⟨_,by rw[R.mm];omega,fu,rest.filter fun p=>!isDone fu p.1,ys,wb,⟨_,_,_,rfl⟩,rfl,S5 _ _ iM,h5,F5,fun p hp=>R.sub p (jk.mp hp).1,fun p hp=>?_,fun x hx=>⟨(wV x hx).1.same S5,(wV x hx).2⟩,SH4.trans S5,?_,?_⟩
      ·cases e:isDone fu p.1 with
       |true=>exact .inl rfl
       |false =>
        refine .inr ?_;rcases R.all p hp with z|z
        ·rw[iW _ z]at e;cases e
        ·exact jk.mpr ⟨z,by rw[e];rfl⟩
      ·have h1:=R.lim
       omega
      ·exact IZ
  ·have hn:rest = []:=by
    cases wv with
    |nil=>exact xk zK.symm
    |cons _ _=>exact absurd rfl bB
   have no:∀p∈rest,¬ ∀x∈p.2,isDone kvs x=true:=fun p hp=>by rw[hn]at hp;cases hp
   exact⟨_,rfl,q d kvs H1 hd R.same R.hd (NG R ok no) (fun al p hp=>(R.ln _ (ER R ok no (al p hp))).1) (NH R ok no)⟩
structure gN (mg:Str->Option Value):Prop where
 ji:mg "isinstance" = none
 str:mg "str" = none
 dict:mg "dict" = none
 sorted:mg "sorted" = none
theorem i9:bootBuiltins "isinstance" = some (.builtin "isinstance"):=by decide +kernel
theorem boot_str:bootBuiltins "str" = some (.type "str"):=by decide +kernel
theorem boot_dict:bootBuiltins "dict" = some (.type "dict"):=by decide +kernel
theorem boot_sorted:bootBuiltins "sorted" = some (.builtin "sorted"):=by decide +kernel
def dq (H:Hp) (kvs:List (Key×V)) (L:Str->List Str) (x:Str):Prop:= ∃a,bU kvs (Sum.inr x)=some (.ref a)/\H a=some (.lst ((L x).map V.str))
theorem dq.same (h:dq H kvs L x) (s:aq H H'):dq H' kvs L x:=let ⟨a,e,q⟩:=h;⟨a,e,s _ _ q⟩
theorem NI (h:∀x∈ps,dq H kvs L x):∃g:Str->V,(∀x∈ps,bU kvs (Sum.inr x)=some (g x))/\dj (fun _=>True) H (ps.map g) (ps.map L):=by
 refine⟨fun x=>(bU kvs (Sum.inr x)).getD .aF,fun x hx=>?_,?_⟩
 ·obtain⟨a,e,_⟩:=h x hx;show _=some ((bU kvs (Sum.inr x)).getD V.aF);rw[e];rfl
 ·induction ps with
  |nil=>exact .nil
  |cons x ps ih =>
   obtain⟨a,e,q⟩:=h x bj;exact .cons ⟨a,by show(bU kvs (Sum.inr x)).getD V.aF=_;rw[e];rfl,trivial,q⟩ (ih fun y hy=>h y (cp _ hy))
theorem aaP (hl:H l=some (.lst ws)) (hR:dj (fun _=>True) H ws rows) (hS:Small rows) (gG:∀r∈rows,r.Nodup) (qn:bw (total rows) rows=none -> ∀H',aq H H'->Q .aF H')
  (qs:∀o,bw (total rows) rows=some o -> ∀p H',H p=none->aq H H'->H' p=some (.lst (o.map V.str))->Q (.ref p) H'):vM [.ref l] H Q E:=by unfold vM;exact⟨l,ws,rows,rfl,hl,hR,hS,gG,qn,qs⟩
@[irreducible] noncomputable def tG:Sp:=fun vs H Q _=>∃ (d oa:Addr) (kvs:List (Key×V)) (L:Str->List Str) (k:Str) (own:List Str),vs = [.ref d,.str k,.ref oa]/\H d=some (.dK kvs)/\H oa=some (.lst (own.map V.str))/\(∀x∈own,dq H kvs L x)/\Small (rowsOf L own)/\(∀r∈rowsOf L own,r.Nodup) /\
 (bw (total (rowsOf L own)) (rowsOf L own)=none -> ∀H',aq H H'->Q .aF H')/\(∀o,bw (total (rowsOf L own)) (rowsOf L own)=some o -> ∀p H',H p=none->aq H H'->H' p=some (.lst ((k::o).map V.str))->Q (.ref p) H')
theorem F9 {oa:Addr}{k:Str} (hd:H d=some (.dK kvs)) (ho:H oa=some (.lst (own.map V.str))) (hl:∀x∈own,dq H kvs L x) (hS:Small (rowsOf L own)) (gG:∀r∈rowsOf L own,r.Nodup)
  (qn:bw (total (rowsOf L own)) (rowsOf L own)=none -> ∀H',aq H H'->Q .aF H') (qs:∀o,bw (total (rowsOf L own)) (rowsOf L own)=some o -> ∀p H',H p=none->aq H H'->H' p=some (.lst ((k::o).map V.str))->Q (.ref p) H') :
  tG [.ref d,.str k,.ref oa] H Q E:=by unfold tG;exact⟨d,oa,kvs,L,k,own,rfl,hd,ho,hl,hS,gG,qn,qs⟩
noncomputable abbrev Rp:List Str:= ["_law_lines","_law_kind","_law_own","_law_found"]
theorem PD:b6 Rp ["_law_lines","_law_kind","_law_own"] (aJ xY):=cF (by decide +kernel)
noncomputable abbrev eLL:Expr:=Px (fG (fB (cb (b9 xY) 0)))
theorem PF:bX Rp (aJ xY) ["_law_one","_law_lines"] [none,some 0] (cE eLL):=c9 (by decide +kernel)
theorem OF {wU:FuncData} (F:aW K "_law_line" "_law_line" xY f fd) (B:dB mg) (FM:aW K "_law_merged" "_law_merged" nT fM wU) (bM:Binds K wU ["_law_rows"] []) (mM:mg "_law_merged" = some (.ref fM)) :
  aI P w K mg base aQ 2 f fd ["_law_lines","_law_kind","_law_own"] tG:=by
 have GM:aI P w K mg base aQ 1 fM wU ["_law_rows"] vM:=aaK FM B;refine F.ok PD (fun vs H Q E h=>?_) (fun cdv A outer s H vs Q E hr h=>?_)
 ·unfold tG at h;obtain⟨d,oa,kvs,L,k,own,rfl,_⟩:=h;rfl
 ·unfold tG at h
  obtain⟨d,oa,kvs,L,k,own,rfl,hd,ho,hl,hS,gG,qn,qs⟩:=h;have hu:=hr.units;have ck:=k6 hu;refine⟨_,aD (bq (i:=3) PD.nd rfl (Or.inl rfl) (bc GM hr rfl mM FM.kp bM .nil a9 (af (c8 pO (d4 rfl PF (gJ (pv 2)) (fun s H fp=>⟨aX (i:=0) PF.nd rfl (Or.inl rfl),eP,ja ck (pv 1) (pv 0) (fun _ _=>rfl)⟩)) (cX (af (eO uG rfl B.list boot_list (af (pv 2) ai)) ai))) ai)))
   (aD (cQ (cy xP (pv 3) iR (cI _)) (aK (bf iR)) cU)
   (aK (bf (c8 pO (cX (af (pv 1) ai)) (pv 3))))),?_⟩
  obtain⟨g,hg,hR⟩:=NI hl;have dk:own.length<=20:=hS.short own (gH _ bj);refine⟨_,rfl,oa,rfl,⟨_,aj.of ho⟩,fun c hc=>W5 ho hd hg hc (by omega) ?_⟩
  have S1:=ay (o:= .lst (own.map g)) hc;refine⟨_,rfl,oa,_,rfl,.inl (aj.of (S1 _ _ ho)),fun c1 CN=>?_⟩;have S2:=S1.trans (ay (o:= .lst (own.map V.str)) CN);refine⟨j6,fun c2 gk=>?_⟩;have S3:=S2.trans (ay (o:= .lst [V.ref c1]) gk);have k1:upd (upd H c (.lst (own.map g))) c1 (.lst (own.map V.str)) c=some (.lst (own.map g)):=by rw[ah (ao ag CN)];exact ag
  refine⟨c,c2,_,_,rfl,rfl,by rw[ah (ao k1 gk)];exact k1,ag,by rw[aA,aN];show _+1<=_;omega,fun c3 qv=>?_⟩
  have S4:=S3.trans (ay (o:= .lst (own.map g ++ [V.ref c1])) qv);have k4:upd (upd (upd (upd H c (.lst (own.map g))) c1 (.lst (own.map V.str))) c2 (.lst [V.ref c1])) c3 (.lst (own.map g ++ [V.ref c1])) c1=some (.lst (own.map V.str)):=by
   have k2:upd (upd (upd H c (.lst (own.map g))) c1 (.lst (own.map V.str))) c2 (.lst [V.ref c1]) c1=some (.lst (own.map V.str)):=by rw[ah (ao ag gk)];exact ag
   rw[ah (ao k2 qv)];exact k2
  refine aaP (rows:=rowsOf L own) ag (AF (pD hR fun a xs _ e=>⟨trivial,S4 _ _ e⟩) trivial k4) hS gG (fun e H5 S5=>?_) (fun o e p H5 hp S5 h5=>?_)
  ·exact⟨_,rfl,rfl,_,rfl,qn e H5 (S4.trans S5)⟩
  ·refine⟨_,rfl,rfl,_,rfl,?_⟩
   refine⟨_,rfl,j6,fun c5 CO=>?_⟩;have S6:=S5.trans (ay (o:= .lst [V.str k]) CO);have hz:=(Eo e);have ht:=xt hS.short;have hfw:=hS.bV;refine⟨_,rfl,c5,p,_,_,rfl,rfl,ag,by rw[ah (ao h5 CO)];exact h5,by rw[aA,aN];show 1+_<=_;omega,fun c6 Rq=>?_⟩
   exact qs o e c6 _ (S4.free (S6.free Rq)) (S4.trans (S6.trans (ay Rq))) ag
theorem D7 {α:Type}:∀ (l:List α) (k:Nat) (h:k < l.length),(l[k]::l.eraseIdx k).Perm l
 |[],k,h=>absurd h (Au _)
 |x::l,0,_=>qK _
 |x::l,k+1,h=>(List.Perm.swap _ _ _).trans ((D7 l k (KW h)).cons x)
theorem Ep {α β:Type} (f:α->β):∀ (l:List α) (k:Nat),(l.map f).eraseIdx k=(l.eraseIdx k).map f
 |[],_=>rfl
 |_::_,0=>rfl
 |x::l,k+1=>fc (f x :: ·) (Ep f l k)
theorem boot_min:bootBuiltins "min" = some (.builtin "min"):=by decide +kernel
theorem aaQ {d:Int} (h0:0<=d) (h1:d < 7):∃v:Int,cC [V.int 0,.int 1,.int 1,.int 2,.int 2,.int 3,.int 4] d=some (.int v)/\0<=v/\v<=4:=by
 obtain⟨n,rfl⟩:=DB h0
 match n,(show n < 7 by omega) with
 |0,_=>exact⟨0,eG rfl,by decide,by decide⟩
 |1,_=>exact⟨1,eG rfl,by decide,by decide⟩
 |2,_=>exact⟨1,eG rfl,by decide,by decide⟩
 |3,_=>exact⟨2,eG rfl,by decide,by decide⟩
 |4,_=>exact⟨2,eG rfl,by decide,by decide⟩
 |5,_=>exact⟨3,eG rfl,by decide,by decide⟩
 |6,_=>exact⟨4,eG rfl,by decide,by decide⟩
theorem two_at {d a b m:Int} (h0:0<=d) (h1:d < 2) (ha:0<=a/\a < m) (hb:0<=b/\b < m):∃v:Int,cC [V.int a,.int b] d=some (.int v)/\0<=v/\v < m:=by
 obtain⟨n,rfl⟩:=DB h0
 match n,(show n < 2 by omega) with
 |0,_=>exact⟨a,eG rfl,ha⟩
 |1,_=>exact⟨b,eG rfl,hb⟩
@[irreducible] noncomputable def vB:Sp:=fun vs H Q _=>∃ (p n:Addr) (ys:List Str),vs = [.ref p,.ref n]/\gf p H/\p≠n/\H n=some (.lst (ys.map V.str))/\ys.length<=20 /\
 ∀ (l:Addr) (own rest:List Str) (H':Hp),H l=none->(own++rest).Perm ys->own.length<=4->cq p H H'->H' l=some (.lst (own.map V.str))->Q (.ref l) H'
theorem ZN {n:Addr}{ys:List Str} (hp:gf p H) (zM:p≠n) (hn:H n=some (.lst (ys.map V.str))) (hl:ys.length<=20)
  (q:∀ (l:Addr) (own rest:List Str) (H':Hp),H l=none->(own++rest).Perm ys->own.length<=4->cq p H H'->H' l=some (.lst (own.map V.str))->Q (.ref l) H'):vB [.ref p,.ref n] H Q E:=by
 unfold vB;exact⟨p,n,ys,rfl,hp,zM,hn,hl,q⟩
noncomputable abbrev acE:List Str:= ["_law_pot_here","_law_made","_law_left","_law_own","_law_turn","_law_at"]
theorem yo:b6 acE ["_law_pot_here","_law_made"] (aJ El):=cF (by decide +kernel)
theorem ZO {uf:FuncData} (F:aW K "_law_parents" "_law_parents" El f fd) (B:dB mg) (FD:aW K "_law_digit" "_law_digit" xX fD uf) (bD:Binds K uf ["_law_pot_here","_law_many"] []) (mD:mg "_law_digit" = some (.ref fD)) :
  aI P w K mg base aQ 2 f fd ["_law_pot_here","_law_made"] vB:=by
 have GD:aI P w K mg base aQ 1 fD uf ["_law_pot_here","_law_many"] pL:=EM FD;refine F.ok yo (fun vs H Q E h=>?_) (fun cdv A outer s H vs Q E hr h=>?_)
 ·unfold vB at h;obtain⟨p,n,ys,rfl,_⟩:=h;rfl
 ·unfold vB at h
  obtain⟨p,n,ys,rfl,hp,zM,hn,hlen,q⟩:=h;have cK:a7 1 _:=hr;refine⟨_,aD (bq (i:=2) yo.nd rfl (Or.inl rfl) (eO uG rfl B.list boot_list (af (pv 1) ai)))
   (aD (bq (i:=3) yo.nd rfl (Or.inl rfl) (cX ai))
   (aD (jx jt rfl (pF rfl B.range (af (aZ (Ea rfl) rfl B.min boot_min (af (aZ i7 rfl B.len gW (af (pv 2) ai))
     (af (cf eQ (cX (af aP (af aP (af aP (af aP (af aP (af aP (af aP ai)))))))) (bc GD cK rfl mD FD.kp bD .nil a9 (af (pv 0) (af aP ai))) (fun _ _=>rfl)) ai))) ai)) (aX (i:=4) yo.nd rfl (Or.inl rfl))
    (aD (bq (i:=5) yo.nd rfl (Or.inl rfl) (cf eQ (cX (af (bc GD cK rfl mD FD.kp bD .nil a9 (af (pv 0) (af (aZ i7 rfl B.len gW (af (pv 2) ai)) ai)))
      (af (c8 NV (aZ i7 rfl B.len gW (af (pv 2) ai)) aP) ai))) (bc GD cK rfl mD FD.kp bD .nil a9 (af (pv 0) (af aP ai))) (fun _ _=>rfl)))
    (aK (ig (jc kh qM qN lK (pv 3)
     (af (jc kh akB akC MC (pv 2) (af (pv 5) ai)) ai))))))
   (aK (bf (pv 3))))),?_⟩
  refine⟨_,rfl,n,_,rfl,.inl (aj.of hn),fun la rV=>?_⟩;refine⟨bG _,fun fa gn=>?_⟩;have rX:p≠la:=hp.ne rV;have uj:la≠fa:=ao ag gn;have vN:H fa=none:=(ay rV).free gn;have oK:p≠fa:=hp.ne vN;have P0:cq p H (upd (upd H la (.lst (ys.map V.str))) fa (.lst [])):=((cq.refl hp).new rV).new gn;have tD:(upd (upd H la (.lst (ys.map V.str))) fa (.lst [])) la=some (.lst (ys.map V.str)):=by rw[ah uj];exact ag
  have Hd:(upd (upd H la (.lst (ys.map V.str))) fa (.lst [])) fa=some (.lst []):=ag;generalize upd (upd H la (.lst (ys.map V.str))) fa (.lst [])=H0 at P0 tD Hd ⊢;refine⟨_,rfl,la,_,rfl,.inl (aj.of tD),?_⟩;refine⟨by show 7<=sizeLine;rw[aN];decide,fun c hc=>?_⟩
  have Pc:=P0.new (o:= .lst [V.int 0,.int 1,.int 1,.int 2,.int 2,.int 3,.int 4]) hc;refine⟨_,rfl,lN (p:=p) (m:=7) Pc.ok (by decide) (by decide) fun d H1 d0 d1 rY=>?_⟩
  have npc:p≠c:=P0.ok.ne hc;obtain⟨v,hv,v0,v4⟩:=aaQ d0 d1;refine⟨c,_,d,.int v,rfl,rfl,aj.of (rY.kp _ _ ag (aO npc)),hv,?_⟩;have P1:=Pc.trans rY;have yD:H1 la=some (.lst (ys.map V.str)):=rY.kp _ _ (by rw[ah (ao tD hc)];exact tD) (aO rX)
  have yE:H1 fa=some (.lst []):=rY.kp _ _ (by rw[ah (ao Hd hc)];exact Hd) (aO oK)
  refine⟨_,v,rfl,?_⟩;rw[aA];obtain⟨N,hN,hN4,hNl⟩:∃N:Nat,(if v < (ys.length:Int) then v else (ys.length:Int))=N/\N<=4/\N<=ys.length:=by
   split
   ·exact⟨v.toNat,by omega,by omega,by omega⟩
   ·exact⟨ys.length,rfl,by omega,aR _⟩
  rw[hN];refine⟨(N:Int),rfl,by omega,by omega,uK (fun i σ H1=>∃ (zs ls:List Str) (v4 v5:Option V),σ = [some (.ref p),some (.ref n),some (.ref la),some (.ref fa),v4,v5]/\zs.length=i/\(zs++ls).Perm ys/\cq p H H1/\H1 la=some (.lst (ls.map V.str))/\H1 fa=some (.lst (zs.map V.str)))
   ⟨[],ys,none,none,rfl,rfl,qK _,P1,yD,yE⟩ ?_ ?_⟩
  ·rintro i σ H1 hi ⟨zs,ls,v4,v5,rfl,hz,hP,pa,yD,yE⟩
   have Ga:=hP.length_eq;rw[cZ]at Ga;have Ct:i < N:=by simpa using hi
   have G5:0 < ls.length:=by omega
   refine⟨_,rfl,_,rfl,la,_,rfl,.inl (aj.of yD),?_⟩;refine lN (p:=p) pa.ok (by rw[aA];omega) (by rw[aA];omega) fun d H2 d0 d1 pb=>?_
   have He:=pb.kp _ _ yD (aO rX);have PH:=pb.kp _ _ yE (aO oK);rw[aA]at d1;refine⟨_,rfl,la,_,rfl,.inl (aj.of He),_,1,rfl,rfl,?_⟩;rw[aA];refine⟨ng,fun c2 gk=>?_⟩;have Rr:=(pa.trans pb).new (o:= .lst [V.int d,.int ((ls.length:Int) - 1)]) gk;have acF:p≠c2:=pb.ok.ne gk;refine⟨_,rfl,lN (p:=p) (m:=2) Rr.ok (by decide) (by decide) fun e H3 e0 e1 pe=>?_⟩
   obtain⟨v,hv,v0,v1⟩:=two_at (a:=d) (b:=(ls.length:Int) - 1) (m:=(ls.length:Int)) e0 e1 ⟨d0,d1⟩ ⟨by omega,by omega⟩
   have rA:H3 la=some (.lst (ls.map V.str)):=pe.kp _ _ (by rw[ah (ao He gk)];exact He) (aO rX)
   have vO:H3 fa=some (.lst (zs.map V.str)):=pe.kp _ _ (by rw[ah (ao PH gk)];exact PH) (aO oK)
   have P3:=Rr.trans pe;refine⟨c2,_,e,.int v,rfl,rfl,aj.of (pe.kp _ _ ag (aO acF)),hv,?_⟩;have hd:v.toNat < ls.length:=by omega
   refine⟨_,rfl,.inl ⟨rfl,_,aj.of vO⟩,_,rfl,.inl ⟨rfl,_,aj.of rA⟩,_,rfl,?_⟩;refine⟨la,_,v,v.toNat,.str ls[v.toNat],rfl,rfl,rA,by omega,by omega,Dk v0 (by rw[aA];exact v1),by rw[eX,cP hd];rfl,?_⟩
   have acG:(upd H3 la (.lst ((ls.map V.str).eraseIdx v.toNat))) fa=some (.lst (zs.map V.str)):=by rw[ah (aO uj)];exact vO
   refine⟨fa,_,_,rfl,rfl,acG,by rw[aA,aN];omega,?_⟩
   refine⟨zs ++ [ls[v.toNat]],ls.eraseIdx v.toNat,_,_,rfl,by rw[cZ];simp[hz],?_,(P3.write rV rX).write vN oK,?_,?_⟩
   ·refine List.Perm.trans ?_ hP
    rw[ux];exact Uz zs (D7 ls _ hd)
   ·rw[ah uj,ag,Ep]
   ·rw[ag,a8];rfl
  ·rintro σ H1 ⟨zs,ls,v4,v5,rfl,hz,hP,pa,yD,yE⟩
   have zu:zs.length=N:=by simpa using hz
   exact⟨_,rfl,q fa zs ls H1 vN hP (by omega) pa yE⟩
end lu
namespace lu
open PySem L2 HT
def kept (rows:List (List Str)) (o:List Str):Bool:=rows.all fun r=>decide ((o.filter fun n=>decide (n∈r))=r)
theorem D8 {all:List (List Str)}{n:Str}:∀ {rest:List (List Str)},kj all rest=some n->cT 0 all n=none /\ ∃ (i:Nat) (r:List Str),rest[i]? = some r/\r.head? = some n /\ ∀ (j:Nat) (q:List Str) (y:Str),rest[j]? = some q->q.head? = some y->cT 0 all y=none->i<=j
 |[],h=>by cases h
 |[]::rest,h=>by
  obtain⟨h1,i,r,e1,e2,e3⟩:=D8 (rest:=rest) h;refine⟨h1,i+1,r,by simpa using e1,e2,fun j q y hj hq hy=>?_⟩
  cases j with
  |zero =>
   obtain rfl : []=q:=by simpa using hj
   simp at hq
  |succ j=>have:=e3 j q y (by simpa using hj) hq hy;omega
 |(x::t)::rest,h=>by
  have h:(if (cT 0 all x).isNone then some x else kj all rest)=some n:=h
  by_cases c:(cT 0 all x).isNone=true
  ·rw[aB c]at h
   cases h
   exact⟨by simpa using c,0,_,rfl,rfl,fun _ _ _ _ _ _=>bG _⟩
  ·rw[au c]at h
   obtain⟨h1,i,r,e1,e2,e3⟩:=D8 (rest:=rest) h;refine⟨h1,i+1,r,by simpa using e1,e2,fun j q y hj hq hy=>?_⟩
   cases j with
   |zero =>
    obtain rfl:x::t=q:=by simpa using hj
    obtain rfl:x=y:=by simpa using hq
    exact absurd (by rw[hy];rfl) c
   |succ j=>have:=e3 j q y (by simpa using hj) hq hy;omega
def YZ (rest:List (List Str)) (q:List Str):Prop:=q.Nodup /\ ∀x,x∈q ↔ ∃r∈rest,x∈r
theorem ES {q:List Str}:kept rest q=true ↔ ∀r∈rest,(q.filter fun n=>decide (n∈r))=r:=by
 unfold kept;rw[o7];simp
theorem Lu {n:Str}:(∃r∈L2.without n rest,x∈r) ↔ x≠n /\ ∃r∈rest,x∈r:=by
 constructor
 ·rintro⟨r,hr,hx⟩
  obtain⟨q,hq,rfl⟩:=aU.mp hr;have:=jk.mp hx;exact⟨by simpa using this.2,q,hq,this.1⟩
 ·rintro⟨h,q,hq,hx⟩
  exact⟨_,aU.mpr ⟨q,hq,rfl⟩,jk.mpr ⟨hx,by simpa using h⟩⟩
theorem Y0:(rest.any fun r=>!r.isEmpty)=true ↔ ∃r∈rest,∃x,x∈r:=by
 rw[sj]
 constructor
 ·rintro⟨r,hr,e⟩
  cases r with
  |nil=>simp at e
  |cons x t=>exact⟨_,hr,x,bj⟩
 ·rintro⟨r,hr,x,hx⟩
  refine⟨r,hr,?_⟩;cases r with
  |nil=>simp at hx
  |cons y t=>rfl
theorem sound:∀ (m:Nat) (rest:List (List Str)),total rest=m->(∀r∈rest,r.Nodup) -> ∀o,bw (total rest) rest=some o->YZ rest o/\kept rest o=true:=by
 intro m
 induction m using Nat.strongRecOn with
 |_ m ih =>
  intro rest hm gG o ho;cases hA:rest.any fun r=>!r.isEmpty with
  |false =>
   rw[D0 hA]at ho;cases ho
   have emp:∀r∈rest,∀x,x ∉ r:=fun r hr x hx=>by
    have:=Y0.mpr ⟨r,hr,x,hx⟩;rw[hA]at this;cases this
   refine⟨⟨pz,fun x=>⟨fun h=>by simp at h,fun⟨r,hr,hx⟩=>absurd hx (emp r hr x)⟩⟩,ES.mpr fun r hr=>?_⟩
   cases r with
   |nil=>rfl
   |cons y t=>exact absurd bj (emp _ hr y)
  |true =>
   cases e:fg rest with
   |none=>rw[D1 hA e]at ho;cases ho
   |some n =>
    rw[D3 hA e]at ho;obtain⟨o',iq,rfl⟩:=ib.mp ho;have lt:=uD (uQ e);obtain⟨⟨h1,h2⟩,h3⟩:=ih _ (by omega) (L2.without n rest) rfl (LO gG) o' iq
    rw[ES]at h3;have gZ:n ∉ o':=fun z=>((Lu.mp ((h2 n).mp z)).1 rfl);obtain⟨yb,_⟩:=D8 e;rw[AQ]at yb;refine⟨⟨gb.mpr ⟨gZ,h1⟩,fun x=>?_⟩,ES.mpr fun r hr=>?_⟩
    ·rw[aY,h2,Lu]
     constructor
     ·rintro(rfl|h)
      ·exact uQ e
      ·exact h.2
     ·intro h
      by_cases z:x=n
      ·exact .inl z
      ·exact .inr ⟨z,h⟩
    ·have ix:=h3 _ (aU.mpr ⟨r,hr,rfl⟩)
     have same:(o'.filter fun y=>decide (y∈r))=o'.filter fun y=>decide (y∈r.filter fun y=>!decide (y=n)):=by
      apply List.filter_congr
      intro y hy;have:y≠n:=fun z=>gZ (z ▸ hy);simp[this]
     by_cases hn:n∈r
     ·have hh:=yb r hr hn
      cases r with
      |nil=>simp at hn
      |cons z t =>
       obtain rfl:z=n:=by simpa using hh
       have ht:z ∉ t:=(gb.mp (gG _ hr)).1;have et:((z::t).filter fun y=>!decide (y=z))=t:=by
        rw[Ay (by simp)]
        exact US.mpr fun y hy=>by
         have:y≠z:=fun w=>ht (w ▸ hy)
         simpa using this
       rw[xq (by simp),same,ix,et]
     ·have er:(r.filter fun y=>!decide (y=n))=r:=US.mpr fun y hy=>by
       have:y≠n:=fun w=>hn (w ▸ hy)
       simpa using this
      rw[Ay (by simpa using hn),same,ix,er]
end lu
namespace lu
open PySem L2 PySem.W HT
theorem len_sub {a b:List Str} (nd:a.Nodup) (h:∀x∈a,x∈b):a.length<=b.length:=pV nd h
structure Fm (done:List Str) (L Ps:Str->List Str):Prop where
 ps:∀x∈done,(Ps x).Nodup/\(Ps x).length<=4 /\ ∀y∈Ps x,y∈done
 ln:∀x∈done,∃o,bw (total (rowsOf L (Ps x))) (rowsOf L (Ps x))=some o/\L x=x::o
 ld:∀x∈done,(L x).Nodup /\ ∀y∈L x,y∈done
 od:∀i x,done[i]? = some x -> ∀y∈Ps x,y∈done.take i
theorem lJ:r∈rowsOf L own ↔ (∃y∈own,r=L y)\/r=own:=by
 unfold rowsOf;rw[dH,aU,ff]
 constructor
 ·rintro(⟨y,h,rfl⟩|h)
  ·exact .inl ⟨y,h,rfl⟩
  ·exact .inr h
 ·rintro(⟨y,h,rfl⟩|h)
  ·exact .inl ⟨y,h,rfl⟩
  ·exact .inr h
theorem Fm.sR (F:Fm done L Ps) (nd:own.Nodup) (sub:∀y∈own,y∈done):∀r∈rowsOf L own,r.Nodup /\ ∀y∈r,y∈done:=fun r hr=>by
 rcases lJ.mp hr with⟨y,hy,rfl⟩|rfl
 ·exact F.ld y (sub y hy)
 ·exact⟨nd,sub⟩
theorem Fm.small (F:Fm done L Ps) (hk:∀x∈done,Nm x) (h8:done.length<=8) (nd:own.Nodup) (h4:own.length<=4) (sub:∀y∈own,y∈done):Small (rowsOf L own):=by
 refine⟨?_,fun r hr=>?_,fun r hr y hy=>?_⟩
 ·unfold rowsOf;rw[cZ,aA,i6];omega
 ·obtain⟨h1,h2⟩:=F.sR nd sub r hr
  have:=len_sub h1 h2;omega
 ·exact hk y ((F.sR nd sub r hr).2 y hy)
theorem Fm.order (F:Fm done L Ps) {o:List Str} (nd:own.Nodup) (sub:∀y∈own,y∈done) (hm:bw (total (rowsOf L own)) (rowsOf L own)=some o):o.Nodup/\(∀y∈o,y∈done) /\ ∀r∈rowsOf L own,∀y∈r,y∈o:=by
 obtain⟨⟨h1,h2⟩,_⟩:=sound _ _ rfl (fun r hr=>(F.sR nd sub r hr).1) o hm;refine⟨h1,fun y hy=>?_,fun r hr y hy=>(h2 y).mpr ⟨r,hr,hy⟩⟩;obtain⟨r,hr,h⟩:=(h2 y).mp hy;exact(F.sR nd sub r hr).2 y h
theorem Wg {L':Str->List Str} (h:∀y∈own,L' y=L y):rowsOf L' own=rowsOf L own:=by
 unfold rowsOf;rw[Dx h]
theorem Fm.add (F:Fm done L Ps) {k:Str}{o:List Str} (hk:k ∉ done) (nd:own.Nodup) (h4:own.length<=4) (sub:∀y∈own,y∈done) (hm:bw (total (rowsOf L own)) (rowsOf L own)=some o) :
  Fm (done ++ [k]) (fun x=>if x=k then k::o else L x) (fun x=>if x=k then own else Ps x):=by
 have nk:∀ {y},y∈done->y≠k:=fun h z=>hk (z ▸ h);have ext:∀ {ps:List Str},(∀y∈ps,y∈done)->rowsOf (fun x=>if x=k then k::o else L x) ps=rowsOf L ps:=fun h=>Wg fun y hy=>au (nk (h y hy));obtain⟨o1,o2,_⟩:=F.order nd sub hm;refine⟨fun x hx=>?_,fun x hx=>?_,fun x hx=>?_,fun i x hx y hy=>?od⟩
 case od =>
  rcases Nat.lt_or_ge i done.length with lt|ge
  ·rw[Af lt]at hx
   rw[au (nk (ia hx))]at hy;rw[akD (w9 lt)];exact F.od i x hx y hy
  ·rw[ajX ge]at hx
   have e0:i - done.length=0:=by have:=(cR.mp hx).1;rw[i6]at this;omega
   rw[e0]at hx;cases hx;rw[aB rfl]at hy;have ei:i=done.length:=by omega
   rw[ei,List.take_left];exact sub y hy
 ·by_cases e:x=k
  ·rw[aB e];exact⟨nd,h4,fun y hy=>ke _ (sub y hy)⟩
  ·rw[au e]
   obtain⟨a,b,c⟩:=F.ps x (by rcases dH.mp hx with z|z;exact z;exact absurd (by simpa using z) e)
   exact⟨a,b,fun y hy=>ke _ (c y hy)⟩
 ·by_cases e:x=k
  ·refine⟨o,?_,by rw[aB e,e]⟩
   rw[aB e,ext sub];exact hm
  ·have gB:x∈done:=by rcases dH.mp hx with z|z;exact z;exact absurd (by simpa using z) e
   obtain⟨o',h1,h2⟩:=F.ln x gB;refine⟨o',?_,by rw[au e];exact h2⟩
   rw[au e,ext (F.ps x gB).2.2];exact h1
 ·by_cases e:x=k
  ·rw[aB e]
   refine⟨gb.mpr ⟨fun z=>hk (o2 k z),o1⟩,fun y hy=>?_⟩;rcases aY.mp hy with z|z
   ·rw[z];exact gH _ bj
   ·exact ke _ (o2 y z)
  ·rw[au e]
   have gB:x∈done:=by rcases dH.mp hx with z|z;exact z;exact absurd (by simpa using z) e
   obtain⟨a,b⟩:=F.ld x gB;exact⟨a,fun y hy=>ke _ (b y hy)⟩
def cH (Ps:Str->List Str) (ks:List Str):List (Str×List Str):=ks.map fun x=>(x,Ps x)
theorem AI (Ps:Str->List Str) (ks:List Str):(cH Ps ks).map (·.1)=ks:=by
 unfold cH;rw[qL];exact List.map_id' _
theorem X4 (xs:List Str):d6 (xs.map V.str) none (some (-1))=xs.dropLast.map V.str:=by
 unfold d6;have e1:HT.bo (xs.map V.str).length 0 none=0:=rfl;have e2:HT.bo (xs.map V.str).length (xs.map V.str).length (some (-1))=xs.length - 1:=by
  rw[aA];unfold HT.bo;simp;omega
 rw[e1,e2,Ug,Nat.sub_zero,<-List.map_take,List.dropLast_eq_take]
theorem A6 (h:gf p H) (e:H a=some (.lst (xs.map V.str))):a≠p:=by
 rintro rfl;obtain⟨x,y,e2,_⟩:=h;rw[e]at e2;have e3:xs.map V.str = [.int x,.int y]:=HO.lst.inj (f' e2);cases xs with
 |nil=>cases e3
 |cons z t=>cases e3
theorem dq.Rt (h:dq H kvs L x) (ok:gf p H) (s:cq p H H'):dq H' kvs L x:=let ⟨a,e,q⟩:=h;⟨a,e,s.kp _ _ q (A6 ok q)⟩
theorem dq.write {qa:List (Key×V)}{u:HO} (h:dq H kvs L x) (hd:H d=some (.dK qa)) (e:H'=upd H d u):dq H' kvs L x:=let ⟨a,e1,q⟩:=h;⟨a,e1,by rw[e,ah (bg q hd)];exact q⟩
theorem NJ (ok:gf p H) (s:cq p H H') (e:H d=some (.dK kvs)):H' d=some (.dK kvs):=by
 obtain⟨x,y,ep,_⟩:=ok;exact s.kp _ _ e (bg e ep)
theorem sD (h:gf p H) (s:aq H H'):cq p H H':=by
 obtain⟨x,y,e,r⟩:=h;exact⟨⟨x,y,s _ _ e,r⟩,fun b o e _=>s b o e⟩
theorem NK {k:Str}{l:List Str} (hd:H d=some (.dK kvs)) (hl:H a=some (.lst (l.map V.str))) (h:x≠k->dq H kvs L x) :
  dq (upd H d (.dK (putK kvs (Sum.inr k) (.ref a)))) (putK kvs (Sum.inr k) (.ref a)) (fun x=>if x=k then l else L x) x:=by
 unfold dq;rw[lM]
 by_cases e:x=k
 ·subst e
  refine⟨a,by rw[aB rfl],?_⟩
  rw[ah (bg hl hd)];show H a=some (.lst ((if x=x then l else L x).map V.str));rw[aB rfl];exact hl
 ·obtain⟨b,e1,e2⟩:=h e
  refine⟨b,by rw[au (fun z=>e (nL z))];exact e1,?_⟩
  rw[ah (bg e2 hd)];show H b=some (.lst ((if x=k then l else L x).map V.str));rw[au e];exact e2
theorem M3 {k:Str} (h:kvs.map (·.1)=done.map Sum.inr) (hk:k ∉ done):(putK kvs (Sum.inr k) v).map (·.1)=(done ++ [k]).map Sum.inr:=by
 have hv:bU kvs (Sum.inr k)=none:=by
  have:(bU kvs (Sum.inr k)).isSome=false:=by
   rw[<-uW,Tz];intro kv fV hd;have e:kv.1=Sum.inr k:=xm hd;have:kv.1∈kvs.map (·.1):=aU.mpr ⟨kv,fV,rfl⟩;rw[h,e]at this;obtain⟨y,hy,ey⟩:=aU.mp this;exact hk (nL ey ▸ hy)
  cases e:bU kvs (Sum.inr k) with
  |none=>rfl
  |some _=>rw[e]at this;cases this
 rw[MH _ hv,a8,a8,h];rfl
theorem cj.keyed (h:cj H vs aa):∃kvs,xU H 1 vs kvs/\kvs.map (·.1)=aa.map fun p=>[p.1]:=by
 induction h with
 |nil=>exact⟨[],.nil,rfl⟩
 |@cons y p _ _ hp _ ih =>
  obtain⟨a,b,e,q,r⟩:=hp;obtain⟨kvs,h1,h2⟩:=ih;exact⟨([p.1],[.ref b])::kvs,.cons ⟨a,e,q,rfl⟩ h1,by rw[cz,cz,h2]⟩
theorem D9 {kvs:List (List Str×List V)} (h:cj H vs aa) (k:xU H 1 vs kvs):kvs.map (·.1)=aa.map fun p=>[p.1]:=by
 induction h generalizing kvs with
 |nil=>cases k;rfl
 |cons hp _ ih =>
  cases k with
  |@cons _ kv _ _ hk tk =>
   obtain⟨a,b,rfl,q,r⟩:=hp;obtain⟨a',e',q',l'⟩:=hk;cases e'
   rw[q]at q';rw[cz,cz,ih tk];obtain⟨ks,rest⟩:=kv;obtain⟨x,rfl⟩:=UP.mp l';injection (f' q') with z;injection z with z1 z2;injection z1 with z3;rw[z3]
theorem Er (h:(aa.map (·.1)).Nodup):(aa.map fun p=>[p.1]).Nodup:=by
 have:(aa.map fun p=>[p.1])=(aa.map (·.1)).map fun x=>[x]:=by rw[qL];rfl
 rw[this];exact xp.mpr (h.imp fun {a b} n e=>n (by injection e))
structure N9 (p:Addr) (H:Hp) (ks:List Str) (r t d1 d2:Addr) (ws:List V) (gO:List (Key×V)) (L Ps:Str->List Str) (aa:List (Str×List Str)) (H':Hp):Prop where
 hr:H' r=some (.tup [.ref t,.ref d1,.ref d2])
 ht:H' t=some (.tup ws)
 fv:cj H' ws aa
 pm:aa.Perm (cH Ps ks)
 fm:Fm ks L Ps
 hd:H' d2=some (.dK gO)
 hk:gO.map (·.1)=ks.map Sum.inr
 pl:∀x∈ks,dq H' gO Ps x
 pa:cq p H H'
 n2:H d2=none
 so:(aa.map (·.1)).Pairwise fun a b=>iA a b=true
@[irreducible] noncomputable def vC:Sp:=fun vs H Q _=>∃ (p n:Addr) (ks:List Str),vs = [.ref p,.ref n]/\gf p H/\H n=some (.lst (ks.map V.str))/\ks.Nodup/\(∀x∈ks,Nm x)/\ks.length<=8 /\
 ∀r t d1 d2 ws gO L Ps aa H',N9 p H ks r t d1 d2 ws gO L Ps aa H'->Q (.ref r) H'
theorem ZP {n:Addr} (hp:gf p H) (hn:H n=some (.lst (ks.map V.str))) (nd:ks.Nodup) (nm:∀x∈ks,Nm x) (h8:ks.length<=8)
  (q:∀r t d1 d2 ws gO L Ps aa H',N9 p H ks r t d1 d2 ws gO L Ps aa H'->Q (.ref r) H'):vC [.ref p,.ref n] H Q E:=by unfold vC;exact⟨p,n,ks,rfl,hp,hn,nd,nm,h8,q⟩
noncomputable abbrev PK:List Str:= ["_law_pot_here","_law_kinds","_law_lines","_law_parents_here","_law_kind","_law_own","_law_turn","_law_family_here"]
theorem rm:b6 PK ["_law_pot_here","_law_kinds"] (aJ xB):=cF (by decide +kernel)
noncomputable abbrev acH:Expr:=fG (fG (fB (cb (b9 xB) 2)))
theorem OG:bX PK (aJ xB) ["_law_kind","_law_parents_here"] [none,some 3] (cE acH):=c9 (by decide +kernel)
theorem ZQ (F:aW K "_law_family" "_law_family" xB f fd) (B:dB mg) (B2:gN mg)
  (GP:aI P w K mg base aQ 2 fP dP ["_law_pot_here","_law_made"] vB) (kP:keepIn K (.ref fP)=true) (bP:Binds K dP ["_law_pot_here","_law_made"] []) (mP:mg "_law_parents" = some (.ref fP))
  (GL:aI P w K mg base aQ 2 fL dL ["_law_lines","_law_kind","_law_own"] tG) (kL:keepIn K (.ref fL)=true) (bL:Binds K dL ["_law_lines","_law_kind","_law_own"] []) (mL:mg "_law_line" = some (.ref fL)) :
  aI P w K mg base aQ 3 f fd ["_law_pot_here","_law_kinds"] vC:=by
 refine F.ok rm (fun vs H Q E h=>?_) (fun cdv A outer s H vs Q E hr h=>?_)
 ·unfold vC at h;obtain⟨p,n,ks,rfl,_⟩:=h;rfl
 ·unfold vC at h
  obtain⟨p,n,ks,rfl,hp,hn,knd,CP,k8,q⟩:=h;have hu:=hr.units;have ck:=k6 hu;refine⟨_,aD (qV (lQ (af uX (af uX ai))) (pN rfl (eF (aX (i:=2) rm.nd rfl (Or.inl rfl)) (eF (aX (i:=3) rm.nd rfl (Or.inr rfl)) kq))))
   (aD (jx jt rfl (gJ (pv 1)) (aX (i:=4) rm.nd rfl (Or.inl rfl))
    (aD (bq (i:=5) rm.nd rfl (Or.inl rfl) (bc GP hr rfl mP kP bP .nil a9 (af (pv 0) (af (eO (LF rfl) rfl B.list boot_list (af (pv 2) ai)) ai))))
    (aD (jx jt rfl (pF rfl B.range (af aP ai)) (aX (i:=6) rm.nd rfl (Or.inl rfl))
     (aK (cQ (cy xP (bc GL hr rfl mL kL bL .nil a9 (af (pv 2) (af (pv 4) (af (pv 5) ai)))) iR (cI _))
      (aK (bq (i:=5) rm.nd rfl (Or.inl rfl) (pI sF (pv 5) pK (nV (vt vd aP))))) cU)))
    (aD (sG ck (pv 2) (pv 4) (bc GL hr rfl mL kL bL .nil a9 (af (pv 2) (af (pv 4) (af (pv 5) ai)))) rfl)
    (aK (sG ck (pv 3) (pv 4) (pv 5) rfl))))))
   (aD (bq (i:=7) rm.nd rfl (Or.inl rfl) (eO mx rfl B.tuple boot_tuple (af (aZ DK rfl B2.sorted boot_sorted (af (d4 rfl OG (gJ (pv 1)) (fun s H fp=>⟨aX (i:=0) OG.nd rfl (Or.inl rfl),eP,
     lQ (af (pv 0) (af (eO (DL K rfl) rfl B.tuple boot_tuple (af (ja ck (pv 1) (pv 0) (fun _ _=>rfl)) ai)) ai))⟩)) ai)) ai)))
   (aK (bf (lQ (af (pv 7) (af (pv 2) (af (pv 3) ai)))))))),?_⟩
  intro d1 iJ d2 hd2;have S2:aq H (upd (upd H d1 (.dK [])) d2 (.dK [])):=(ay iJ).trans (ay hd2);have nK:d1≠d2:=ao ag hd2;have Hf:H d2=none:=(ay iJ).free hd2;refine⟨ng,fun tp uk=>?_⟩;have k2:(upd (upd H d1 (.dK [])) d2 (.dK [])) d1=some (.dK []):=by rw[ah nK];exact ag
  have S3:=S2.trans (ay (o:= .tup [V.ref d1,.ref d2]) uk);have PL:upd (upd (upd H d1 (.dK [])) d2 (.dK [])) tp (.tup [V.ref d1,.ref d2]) d1=some (.dK []):=by rw[ah (ao k2 uk)];exact k2
  have PM:upd (upd (upd H d1 (.dK [])) d2 (.dK [])) tp (.tup [V.ref d1,.ref d2]) d2=some (.dK []):=by rw[ah (ao ag uk)];exact ag
  refine⟨tp,_,rfl,aC.of ag,rfl,_,_,rfl,_,_,rfl,rfl,?_⟩;generalize upd (upd (upd H d1 (.dK [])) d2 (.dK [])) tp (.tup [V.ref d1,.ref d2])=H0 at S3 PL PM ⊢;have P0:cq p H H0:=sD hp S3;have np1:p≠d1:=hp.ne iJ;have np2:p≠d2:=hp.ne Hf;have Jd:n≠p:=A6 hp hn;refine⟨_,rfl,n,rfl,⟨_,aj.of (P0.kp _ _ hn Jd)⟩,xy (xs:=ks.map V.str) (fun i σ H1=>∃ (jG gO:List (Key×V)) (L Ps:Str->List Str) (v4 v5 v6:Option V),σ = [some (.ref p),some (.ref n),some (.ref d1),some (.ref d2),v4,v5,v6,none]/\cq p H H1 /\
   H1 d1=some (.dK jG)/\H1 d2=some (.dK gO)/\jG.map (·.1)=(ks.take i).map Sum.inr/\gO.map (·.1)=(ks.take i).map Sum.inr/\(∀x∈ks.take i,dq H1 jG L x)/\(∀x∈ks.take i,dq H1 gO Ps x)/\Fm (ks.take i) L Ps)
   ⟨[],[],fun _=>[],fun _=>[],none,none,none,rfl,P0,PL,PM,rfl,rfl,fun x hx=>(by cases hx),fun x hx=>(by cases hx),⟨fun x hx=>(by cases hx),fun x hx=>(by cases hx),fun x hx=>(by cases hx),fun i x hx=>(by cases hx)⟩⟩ (fun i σ H1 _ hQ9=>by obtain⟨_,_,_,_,_,_,_,_,z,_⟩:=hQ9;exact aj.of (z.kp _ _ hn Jd)) ?_ ?_⟩
  ·rintro i x σ H1 hx ⟨jG,gO,L,Ps,v4,v5,v6,rfl,P1,rN,zk,e1,e2,l1,l2,fm⟩
   have eJ:i < ks.length:=by simpa using (cR.mp hx).1
   obtain rfl:V.str ks[i]=x:=by simpa [eJ] using hx
   have oN:ks.take (i+1)=ks.take i ++ [ks[i]]:=by rw[gu,cP eJ];rfl
   have Hg:ks[i] ∉ ks.take i:=by
    have:(ks.take (i+1)).Nodup:=knd.sublist (TF _ _);rw[oN]at this;exact fun z=>(mr.mp this).2.2 _ z _ bj rfl
   have dnd:(ks.take i).Nodup:=knd.sublist (TF _ _);have Ru:∀x∈ks.take i,Nm x:=fun x hx=>CP x (K4 hx);have d8:(ks.take i).length<=8:=by rw[dJ];omega
   have lk1:jG.length=(ks.take i).length:=by have:=fc List.length e1;simpa using this
   have lk2:gO.length=(ks.take i).length:=by have:=fc List.length e2;simpa using this
   refine⟨_,rfl,_,rfl,d1,jG,rfl,rN,fun l hl=>?_⟩;have ek:jG.map (fun kv=>kV kv.1)=(ks.take i).map V.str:=by
    have:jG.map (fun kv=>kV kv.1)=(jG.map (·.1)).map kV:=by rw[qL];rfl
    rw[this,e1,qL];rfl
   rw[ek];have Pl:=P1.new (o:= .lst ((ks.take i).map V.str)) hl;have Sl:=ay (o:= .lst ((ks.take i).map V.str)) hl;refine ZN Pl.ok (P1.ok.ne hl) ag (by omega) fun oa own rest H3 qr ip jg pb h3=>?_
   have P3:=Pl.trans pb;have hZ:own.Nodup:=(mr.mp (ip.nodup_iff.mpr dnd)).1;have jZ:∀y∈own,y∈ks.take i:=fun y hy=>ip.mem_iff.mp (ke _ hy);have Je:=NJ Pl.ok pb (Sl _ _ rN);have h32:=NJ Pl.ok pb (Sl _ _ zk);have Jf:∀x∈ks.take i,dq H3 jG L x:=fun x hx=>((l1 x hx).same Sl).Rt Pl.ok pb;have l32:∀x∈ks.take i,dq H3 gO Ps x:=fun x hx=>((l2 x hx).same Sl).Rt Pl.ok pb;refine⟨5,rfl,by decide,by decide,uK (fun j σ H4=>∃ (oa:Addr) (own:List Str) (v6:Option V),σ = [some (.ref p),some (.ref n),some (.ref d1),some (.ref d2),some (.str ks[i]),some (.ref oa),v6,none]/\aq H3 H4/\H4 oa=some (.lst (own.map V.str))/\own.Nodup/\(∀y∈own,y∈ks.take i)/\own.length<=4/\(bw (total (rowsOf L own)) (rowsOf L own)≠none\/own.length+j<=4))
    ⟨oa,own,_,rfl,aq.refl _,h3,hZ,jZ,jg,.inr jg⟩ ?_ ?_⟩
   ·clear ip jg hZ jZ h3 qr
    rintro j σ H4 hj ⟨oa,own,v6,rfl,S4,h4,hZ,jZ,jg,Jg⟩;have zL:=fm.small Ru d8 hZ jg jZ;have Jh:=fun r hr=>(fm.sR hZ jZ r hr).1;refine⟨_,rfl,_,rfl,_,rfl,F9 (S4 _ _ Je) h4 (fun x hx=>(Jf x (jZ x hx)).same S4) zL Jh (fun e H5 S5=>?_) (fun o e lp H5 Rv S5 h5=>?_)⟩
    ·refine⟨rfl,_,rfl,?_⟩
     refine⟨_,rfl,?_⟩;have bB:own ≠ []:=fun z=>by rw[z]at e;cases e
     have G5:0 < own.length:=akx.mpr bB;refine⟨1,rfl,_,rfl,oa,_,rfl,aj.of (S5 _ _ h4),fun c hc=>?_⟩;refine⟨c,own.dropLast,_,rfl,(S4.trans S5).trans (ay hc),?_,hZ.sublist (List.dropLast_sublist _),fun y hy=>jZ y (List.dropLast_subset _ hy),by rw[akE];omega,.inr ?_⟩
     ·have:=X4 own
      rw[ag];exact fc some (fc HO.lst this)
     ·rcases Jg with z|z
      ·exact absurd e z
      ·rw[akE];omega
    ·refine⟨rfl,_,rfl,?_⟩
     exact⟨oa,own,_,rfl,S4.trans S5,S5 _ _ h4,hZ,jZ,jg,.inl (by rw[e];exact Option.some_ne_none _)⟩
   ·clear ip jg hZ jZ h3 qr
    rintro σ H4 ⟨oa,own,v6,rfl,S4,h4,hZ,jZ,jg,Jg⟩;have zL:=fm.small Ru d8 hZ jg jZ;have Jh:=fun r hr=>(fm.sR hZ jZ r hr).1;have hn0:bw (total (rowsOf L own)) (rowsOf L own)≠none:=by
     rcases Jg with z|z
     ·exact z
     ·exact absurd z (by show ¬ (own.length+Int.toNat 5<=4);have:Int.toNat 5=5:=rfl;omega)
    refine⟨_,rfl,_,rfl,_,rfl,F9 (S4 _ _ Je) h4 (fun x hx=>(Jf x (jZ x hx)).same S4) zL Jh (fun e=>absurd e hn0) (fun o e lp H5 Rv S5 h5=>?_)⟩;have rZ:=S4.trans S5;have CQ:=rZ _ _ Je;have h52:=rZ _ _ h32;refine⟨_,rfl,_,rfl,d1,_,rfl,mV.k (k:=Sum.inr ks[i]) CQ (by rw[aN];omega),?_⟩
    have Ji:upd H5 d1 (.dK (putK jG (Sum.inr ks[i]) (.ref lp))) d2=some (.dK gO):=by rw[ah (aO nK)];exact h52
    refine⟨_,rfl,_,rfl,_,rfl,d2,_,rfl,mV.k (k:=Sum.inr ks[i]) Ji (by rw[aN];omega),?_⟩
    have P5:cq p H H5:=P3.trans (sD P3.ok rZ);have l61:∀x∈ks.take (i+1),dq (upd H5 d1 (.dK (putK jG (Sum.inr ks[i]) (.ref lp)))) (putK jG (Sum.inr ks[i]) (.ref lp)) (fun x=>if x=ks[i] then ks[i]::o else L x) x:=fun x hx=>NK CQ h5 fun ne=>(Jf x (by
     rw[oN]at hx;rcases dH.mp hx with z|z
     ·exact z
     ·exact absurd (by simpa using z) ne)).same rZ
    have h6o:upd H5 d1 (.dK (putK jG (Sum.inr ks[i]) (.ref lp))) oa=some (.lst (own.map V.str)):=by rw[ah (bg (S5 _ _ h4) CQ)];exact S5 _ _ h4
    refine⟨_,_,_,_,_,_,_,rfl,(P5.write iJ np1).write Hf np2,by rw[ah nK];exact ag,ag,by rw[oN];exact M3 e1 Hg,by rw[oN];exact M3 e2 Hg,fun x hx=>(l61 x hx).write Ji rfl,fun x hx=>?_,by rw[oN];exact fm.add Hg hZ jg jZ e⟩
    refine NK Ji h6o fun ne=>?_;exact((l32 x (by
     rw[oN]at hx;rcases dH.mp hx with z|z
     ·exact z
     ·exact absurd (by simpa using z) ne)).same rZ).write CQ rfl
  ·rintro σ H1 ⟨jG,gO,L,Ps,v4,v5,v6,rfl,P1,rN,zk,e1,e2,l1,l2,fm⟩
   rw[aA,du]at e2 l2 fm;have Rw:=P1.kp _ _ hn Jd;refine⟨_,rfl,n,rfl,⟨_,aj.of Rw⟩,fun c hc=>?_⟩;refine iP (xs:=ks.map V.str) (fun i ys τ H2=>∃t0:Option V,τ = [t0,some (.ref d2)]/\H2 c=some (.lst ys)/\aq H1 H2/\cj H2 ys (cH Ps (ks.take i))) ⟨none,rfl,ag,ay hc,.nil⟩ (fun i ys τ H2 ⟨_,_,z1,z2,_⟩=>⟨z1,aj.of (z2 _ _ Rw)⟩) ?_ ?_
   ·rintro i x ys τ H2 hx ⟨t0,rfl,h2,zN,F2⟩
    obtain⟨cG,eJ,rfl,oN⟩:=jV hx;obtain⟨a,ea,ha⟩:=(l2 ks[i] (iO eJ)).same zN;refine⟨_,rfl,_,rfl,_,rfl,d2,.ref a,rfl,by rw[<-ea];exact fh.k (k:=Sum.inr ks[i]) (zN _ _ zk),?_⟩
    refine⟨a,_,rfl,.inl ⟨aj.of ha,fun b hb=>?_⟩⟩;have Sb:=ay (o:= .tup ((Ps ks[i]).map V.str)) hb;refine⟨ng,fun t ht=>?_⟩;have St:=Sb.trans (ay (o:= .tup [V.str ks[i],.ref b]) ht);have zO:upd (upd H2 b (.tup ((Ps ks[i]).map V.str))) t (.tup [V.str ks[i],.ref b]) b=some (.tup ((Ps ks[i]).map V.str)):=by rw[ah (ao ag ht)];exact ag
    have um:=St _ _ h2;refine⟨um,?_,cw_next cG ⟨_,rfl,ag,fun x u hx=>by rw[ah (ao hx hc)];exact St _ _ (zN x u hx),?_⟩⟩
    ·have:=F2.length
     unfold cH at this;rw[aA,dJ]at this;rw[aN];omega
    ·have ef:cH Ps (ks.take (i+1))=cH Ps (ks.take i) ++ [(ks[i],Ps ks[i])]:=by rw[oN];unfold cH;rw[a8];rfl
     rw[ef];refine cj.append (F2.keep fun x xs hx=>?_) ?_ ?_ (b:=b)
     ·rw[ah (bg hx h2)];exact St _ _ hx
     ·rw[ah (bg ag um)];exact ag
     ·rw[ah (bg zO um)];exact zO
   ·rintro ys τ H2 ⟨t0,rfl,h2,zN,F2⟩
    rw[aA,du]at F2;obtain⟨kvs,K7,ek⟩:=F2.keyed;have zH:=F2.length;have Rx:(cH Ps ks).length=ks.length:=by unfold cH;exact aA ..
    refine⟨c,ys,kvs,1,rfl,.inl (aj.of h2),K7,aR _,by rw[ek];exact Er (by rw[AI];exact knd),by omega,fun D eZ fu hD ip hK wK lz=>?_⟩
    have SD:=ay (o:= .lst eZ) hD;refine⟨D,eZ,rfl,.inl ⟨aj.of ag,fun t ht=>?_⟩⟩;have St:=SD.trans (ay (o:= .tup eZ) ht);obtain⟨gP,gq,F3⟩:=DQ ip F2;rw[D9 F3 hK]at lz;have lz:(gP.map (·.1)).Pairwise fun a b=>iA a b=true:=by
     rw[xp]at lz ⊢;exact lz.imp fun {a b} z=>by rw[E7]at z;exact z
    refine⟨_,rfl,_,rfl,_,rfl,Ca,fun r hr=>?_⟩;have Sr:=St.trans (ay (o:= .tup [V.ref t,.ref d1,.ref d2]) hr);have Hh:=zN.trans Sr;refine q r t d1 d2 eZ gO L Ps gP _ ⟨ag,by rw[ah (ao ag hr)];exact ag,cj.same F3 Sr,gq,fm,Hh _ _ zk,e2,fun x hx=>(l2 x hx).same Hh,P1.trans (sD P1.ok Hh),Hf,lz⟩
theorem ite_ff {A B:Prop}{k:Bool} (hk:k=false) (h:B):if k=true then A else B:=by subst hk;exact h
theorem ite_tt {A B:Prop}{k:Bool} (hk:k=true) (h:A):if k=true then A else B:=by subst hk;exact h
theorem boot_set:bootBuiltins "set" = some (.type "set"):=by decide +kernel
theorem NL {a b:List Str} (ha:a.Nodup) (hb:b.Nodup) (h:∀x,x∈a ↔ x∈b):a.Perm b:=(U1 ha hb).mpr h
def qY (s:Stmt):Expr:=match s with|.If t _ _ _=>t|_=>.Constant .none 0 ⟨0,0,0,0⟩
theorem A7 (K:Frag) (h:X.K=K) {k:Nat}{t:oA} (hc:X.calm=true) (hh:wt X es t)
  (hn:(assignEach es X.env).length=n:=by rfl) (tP:(assignEach es X.env).findIdx? (·.1)=none:=by rfl):PG X (.Tuple es k pos) (OR K n t):=by subst h;exact pN hc hh hn tP
def keysOf (aa:aM):List Str:=aa.map (·.1)
def FA (H:Hp) (t:Addr) (aa:aM):Prop:=cw aa /\ ∃ws,H t=some (.tup ws)/\cj H ws aa
theorem FA.same {aa:aM} (h:FA H t aa) (s:aq H H'):FA H' t aa:=let ⟨a,ws,b,c⟩:=h;⟨a,ws,s _ _ b,c.same s⟩
theorem cw.zP {aa:aM} (s:cw aa) (h:x∈keysOf aa):Nm x:=by obtain⟨p,hp,rfl⟩:=aU.mp h;exact s.nm p hp
theorem NM:Passes (fb X.prog X.w) X fun _ _ _=>False:=fun pins σ H s e s' I z=>by
 obtain⟨_,_,_,_,_,_,_,_,_,_,_,_,_,_,_,f⟩:=z;exact f.elim
@[irreducible] noncomputable def qZ:Sp:=fun vs H Q _=>∃x:Str,vs = [.str x]/\Nm x /\ ∀H',aq H H'->Q (.bl true) H'
theorem Fh (h:Nm x) (q:∀H',aq H H'->Q (.bl true) H'):qZ [.str x] H Q E:=by unfold qZ;exact⟨x,rfl,h,q⟩
theorem ZR:b6 ["thing"] ["thing"] (aJ xG):=cF (by decide +kernel)
noncomputable abbrev acI:Expr:=fG (tw (cb (b9 xG) 1))
theorem OH:bX ["thing"] (aJ xG) ["sign"] [none] (cE acI):=c9 (by decide +kernel)
theorem Y1 (F:aW K "is_name" "is_name" xG f fd) (B:dB mg) (B2:gN mg):aI P w K mg base aQ 1 f fd ["thing"] qZ:=by
 refine F.ok ZR (fun vs H Q E h=>?_) (fun cdv A outer s H vs Q E hr h=>?_)
 ·unfold qZ at h;obtain⟨x,rfl,_⟩:=h;rfl
 ·unfold qZ at h
  obtain⟨x,rfl,hx,q⟩:=h;have hu:=hr.units;refine⟨_,aD (cQ (PW.pt (pw_or (gx (eT (aZ lL rfl B2.ji i9 (af (pv 0) (af (ko (v:= .ty "str") rfl B2.str boot_str rfl) ai)))))
     (pw_or1 (gx (Xk Oh Oh aP (aZ Vf rfl B.len gW (af (pv 0) ai)) aP))))) (aK (bf gX)) cU)
   (aK (bf (aZ (nR rfl) rfl B.all boot_all (af (d4 rfl OH (ZI (pv 0)) (fun s H fp=>⟨aX (i:=0) OH.nd rfl (Or.inl rfl),eP,Xj Mg Mg kx (pv 0) kx⟩)) ai)))),?_⟩
  have iX:=hx.lo;have j5:=hx.hi;have hlc:x.cps.size<=8:=hx.hi;refine⟨_,rfl,⟨_,.inr ⟨"str",rfl⟩⟩,.str x,.ty "str",.type "str",.type "str",true,rfl,rfl,.inl (.str x),rfl,true,rfl,?_⟩;refine⟨_,rfl,x,rfl,by rw[aN];omega,1,x.length,rfl,rfl,_,rfl,?_⟩
  refine ite_tt (gI (by omega)) ?_
  refine⟨x.length,8,rfl,rfl,_,rfl,?_⟩;have e8:decide ((x.length:Int)<=8)=true:=gI (by omega)
  rw[e8];refine⟨_,rfl,x,rfl,fun p hp=>?_⟩;refine Xv (fun i ys τ H1=>∃t0:Option V,τ = [t0]/\ys=(List.replicate i true).map V.bl/\H1=upd H p (.lst ys)) ⟨none,rfl,rfl,rfl⟩ (fun i ys τ H1 ⟨_,_,_,z⟩=>by rw[z];exact ag) ?_ ?_
  ·rintro i c ys τ H1 hc ⟨t0,rfl,rfl,rfl⟩
   have eJ:i < x.cps.size:=by
    obtain⟨h,_⟩:=Am.mp hc;exact h
   have hcz:=hx.az c (Array.mem_def.mp (aki hc));have e1:(!decide ((⟨#[c]⟩:Str).cps.toList < (Str.ofString "a").cps.toList))=true:=by
    have : ¬ ([c] < [97]):=by simp[akF];omega
    have hA:(Str.ofString "a").cps.toList = [97]:=by decide +kernel
    rw[hA];simpa using this
   have e2:(!decide ((Str.ofString "z").cps.toList < (⟨#[c]⟩:Str).cps.toList))=true:=by
    have : ¬ ([122] < [c]):=by simp[akF];omega
    have hA:(Str.ofString "z").cps.toList = [122]:=by decide +kernel
    rw[hA];simpa using this
   refine⟨_,rfl,_,_,rfl,rfl,_,rfl,ite_tt e1 ⟨_,_,rfl,rfl,ag,by rw[aA,sh,aN];omega,cw_next eJ ⟨_,rfl,?_,?_⟩⟩⟩
   ·rw[e2,uC,a8];rfl
   ·rw[ie]
  ·rintro ys τ H1 ⟨t0,rfl,rfl,rfl⟩
   refine⟨p,_,rfl,aj.of ag,?_⟩;have:(List.replicate x.cps.size true).all id=true:=by simp
   rw[this];exact q _ (ay hp)
@[irreducible] noncomputable def tH:Sp:=fun vs H Q _=>∃ (t:Addr) (xs:List Str),vs = [.ref t]/\H t=some (.tup (xs.map V.str))/\(∀x∈xs,Nm x)/\xs.Nodup/\xs.length<=100 /\ ∀H',aq H H'->Q (.bl true) H'
theorem rw_sp (ht:H t=some (.tup (xs.map V.str))) (nm:∀x∈xs,Nm x) (nd:xs.Nodup) (hl:xs.length<=100) (q:∀H',aq H H'->Q (.bl true) H'):tH [.ref t] H Q E:=by unfold tH;exact⟨t,xs,rfl,ht,nm,nd,hl,q⟩
theorem acJ:b6 ["thing"] ["thing"] (aJ xW):=cF (by decide +kernel)
noncomputable abbrev eRw:Expr:=fG (tx (vm (qY (cb (b9 xW) 0)) 1))
theorem PN:bX ["thing"] (aJ xW) ["name"] [none] (cE eRw):=c9 (by decide +kernel)
theorem aaR (F:aW K "is_row" "is_row" xW f fd) (B:dB mg) (B2:gN mg) (bs:mg "set" = none) (GN:aI P w K mg base aQ 1 fN dN ["thing"] qZ) (kN:keepIn K (.ref fN)=true) (bN:Binds K dN ["thing"] []) (mN:mg "is_name" = some (.ref fN)):aI P w K mg base aQ 2 f fd ["thing"] tH:=by
 refine F.ok acJ (fun vs H Q E h=>?_) (fun cdv A outer s H vs Q E hr h=>?_)
 ·unfold tH at h;obtain⟨t,xs,rfl,_⟩:=h;rfl
 ·unfold tH at h
  obtain⟨t,xs,rfl,ht,nm,nd,hl,q⟩:=h;have cK:a7 1 _:=hr;refine⟨_,aD (cQ (PW.pt (pw_or (gx (eT (aZ lL rfl B2.ji i9 (af (pv 0) (af (ko (v:= .ty "tuple") rfl B.tuple boot_tuple rfl) ai)))))
    (pw_or1 (gx (eT (aZ (nR rfl) rfl B.all boot_all (af (d4 rfl PN (jU (pv 0)) (fun s H fp=>⟨aX (i:=0) PN.nd rfl (Or.inl rfl),eP,bc GN cK rfl mN kN bN .nil a9 (af (pv 0) ai)⟩)) ai))))))) (aK (bf gX)) cU)
   (aK (bf (lP yd (aZ Lr rfl B.len gW (af (eO (EF rfl) rfl bs boot_set (af (pv 0) ai)) ai)) (aZ i7 rfl B.len gW (af (pv 0) ai)) (cI _)))),?_⟩
  refine⟨_,rfl,⟨_,.inr ⟨"tuple",rfl⟩⟩,.ref t,.ty "tuple",.type "tuple",.type "tuple",true,rfl,rfl,.inl (.tup ht),rfl,true,rfl,?_⟩;refine⟨_,rfl,t,rfl,⟨_,aC.of ht⟩,fun p hp=>?_⟩;refine jQ (xs:=xs.map V.str) (fun i ys τ H1=>∃t0:Option V,τ = [t0]/\ys=(List.replicate i true).map V.bl/\aq H H1/\H1 p=some (.lst ys)) ⟨none,rfl,rfl,ay hp,ag⟩ (fun i ys τ H1 ⟨_,_,_,z,z2⟩=>⟨z2,aC.of (z _ _ ht)⟩) ?_ ?_
  ·rintro i x ys τ H1 hx ⟨t0,rfl,rfl,S1,h1⟩
   obtain⟨cG,eJ,rfl,_⟩:=jV hx;refine⟨_,rfl,Fh (nm _ (iO eJ)) fun H2 S2=>⟨S2 _ _ h1,by rw[aA,sh,aN];omega,cw_next cG ⟨_,rfl,?_,fun b u e=>?_,ag⟩⟩⟩
   ·rw[uC,a8];rfl
   ·rw[ah (ao e hp)];exact S2 _ _ (S1 _ _ e)
  ·rintro ys τ H1 ⟨t0,rfl,rfl,S1,h1⟩
   refine⟨p,_,rfl,aj.of h1,_,rfl,?_⟩;have:(List.replicate (xs.map V.str).length true).all id=true:=by simp
   rw[this];have j9:=S1 _ _ ht;refine⟨_,rfl,t,xs,rfl,.inr (aC.of j9),by omega,fun a ds ha zQ mem=>?_⟩
   have S2:=ay (o:=p9 P w a ds) ha;refine⟨a,ds,rfl,ag,_,rfl,t,_,rfl,.inr (aC.of (S2 _ _ j9)),rfl,?_⟩;rw[aA,(NL zQ nd mem).length_eq];have:decide (V.int (xs.length:Int)=V.int (xs.length:Int))=true:=gI rfl;rw[this];exact q _ (S1.trans S2)
@[irreducible] noncomputable def sS:Sp:=fun vs H Q _=>∃ (t:Addr) (aa:aM) (x:Str),vs = [.ref t,.str x]/\FA H t aa/\Nm x /\ ∀H',aq H H'->Q (.bl (decide (x∈keysOf aa))) H'
theorem NN {aa:aM} (ht:FA H t aa) (hx:Nm x) (q:∀H',aq H H'->Q (.bl (decide (x∈keysOf aa))) H'):sS [.ref t,.str x] H Q E:=by unfold sS;exact⟨t,aa,x,rfl,ht,hx,q⟩
theorem ZS:b6 ["family","thing"] ["family","thing"] (aJ Fb):=cF (by decide +kernel)
theorem M4:∀ (kvs:List (Str×V)) (x:Str),(bU (jW kvs) (Sum.inr x)).isSome=decide (x∈kvs.map (·.1))
 |[],x=>rfl
 |p::kvs,x=>by
  rw[show jW (p::kvs)=(Sum.inr p.1,p.2)::jW kvs from rfl]
  by_cases e:p.1=x
  ·rw[jS (by rw[e])];simp[e]
  ·rw[ju (fun z=>e (nL z)),M4 kvs x]
   simp[aY,aO e]
theorem Y2 {Ry:FuncData} (F:aW K "is_kind" "is_kind" Fb f fd) (B2:gN mg) (GN:aI P w K mg base aQ 1 fN Ry ["thing"] qZ) (kN:keepIn K (.ref fN)=true) (bN:Binds K Ry ["thing"] []) (mN:mg "is_name" = some (.ref fN)):aI P w K mg base aQ 2 f fd ["family","thing"] sS:=by
 refine F.ok ZS (fun vs H Q E h=>?_) (fun cdv A outer s H vs Q E hr h=>?_)
 ·unfold sS at h;obtain⟨t,aa,x,rfl,_⟩:=h;rfl
 ·unfold sS at h
  obtain⟨t,aa,x,rfl,⟨st,ws,ht,hf⟩,hx,q⟩:=h;have hu:=hr.units;have ck:=k6 hu;refine⟨_,aK (bf (sL (bc GN hr rfl mN kN bN .nil a9 (af (pv 1) ai)) (xN (Bj (Bn ck (pv 1) (eO (LI rfl) rfl B2.dict boot_dict (af (pv 0) ai))))))),?_⟩;obtain⟨kvs,hp,hk⟩:=hf.pairs;refine⟨_,rfl,Fh hx fun H1 S1=>⟨true,rfl,?_⟩⟩;refine⟨_,rfl,_,rfl,t,ws,kvs,rfl,S1 _ _ ht,hp.same S1,by rw[hk];exact st.nd,fun d hd=>⟨d,_,rfl,fh.k (k:=Sum.inr x) ag,?_⟩⟩
  rw[M4,hk];exact q _ (S1.trans (ay hd))
@[irreducible] noncomputable def qT:Sp:=fun vs H Q _=>∃ (t:Addr) (aa:aM) (x:Str),vs = [.ref t,.str x]/\FA H t aa/\x∈keysOf aa /\ ∀H',aq H H'->Q .aF H'
theorem A8 {aa:aM} (ht:FA H t aa) (hx:x∈keysOf aa) (q:∀H',aq H H'->Q .aF H'):qT [.ref t,.str x] H Q E:=by unfold qT;exact⟨t,aa,x,rfl,ht,hx,q⟩
theorem Y3:b6 ["family","thing"] ["family","thing"] (aJ Fc):=cF (by decide +kernel)
theorem X5 {fK:Addr}{Rz:FuncData} (F:aW K "check_kind" "check_kind" Fc f fd) (GK:aI P w K mg base aQ 2 fK Rz ["family","thing"] sS) (kK:keepIn K (.ref fK)=true) (bK:Binds K Rz ["family","thing"] []) (mK:mg "is_kind" = some (.ref fK)):aI P w K mg base aQ 3 f fd ["family","thing"] qT:=by
 refine F.ok Y3 (fun vs H Q E h=>?_) (fun cdv A outer s H vs Q E hr h=>?_)
 ·unfold qT at h;obtain⟨t,aa,x,rfl,_⟩:=h;rfl
 ·unfold qT at h
  obtain⟨t,aa,x,rfl,ht,hx,q⟩:=h;refine⟨_,aK (cQ (gx (eT (bc GK hr rfl mK kK bK .nil a9 (af (pv 0) (af (pv 1) ai))))) LV cU),?_⟩;refine⟨_,rfl,_,rfl,NN ht (ht.1.zP hx) fun H1 S1=>⟨true,?_,q H1 S1⟩⟩;rw[gI hx]
@[irreducible] noncomputable def sE:Sp:=fun vs H Q _=>∃ (t:Addr) (aa:aM) (k:Str),vs = [.ref t,.str k]/\FA H t aa/\eu aa/\k∈keysOf aa /\ ∀p H',aq H H'->H' p=some (.tup ((aH aa k).map V.str))->Q (.ref p) H'
theorem Es {aa:aM}{k:Str} (ht:FA H t aa) (al:eu aa) (hk:k∈keysOf aa) (q:∀p H',aq H H'->H' p=some (.tup ((aH aa k).map V.str))->Q (.ref p) H'):sE [.ref t,.str k] H Q E:=by unfold sE;exact⟨t,aa,k,rfl,ht,al,hk,q⟩
theorem acK:b6 ["family","kind"] ["family","kind"] (aJ Fd):=cF (by decide +kernel)
theorem W8 {zR:FuncData} (F:aW K "line_of" "line_of" Fd f fd) (GC:aI P w K mg base aQ 3 fC zR ["family","thing"] qT) (kC:keepIn K (.ref fC)=true) (bC:Binds K zR ["family","thing"] []) (mC:mg "check_kind" = some (.ref fC))
  (GL:aI P w K mg base (fb P w) 5 fL tM ["family"] (pM C)) (kL:keepIn K (.ref fL)=true) (bL:Binds K tM ["family"] []) (mL:mg "lines_of" = some (.ref fL)):aI P w K mg base aQ 6 f fd ["family","kind"] sE:=by
 refine F.ok acK (fun vs H Q E h=>?_) (fun cdv A outer s H vs Q E hr h=>?_)
 ·unfold sE at h;obtain⟨t,aa,k,rfl,_⟩:=h;rfl
 ·unfold sE at h
  obtain⟨t,aa,k,rfl,ht,al,hk,q⟩:=h;have hu:=hr.units;have ck:=k6 hu;have mh:a7 5 _:=hr;have j':a7 3 _:=mh.mono (by decide)
  refine⟨_,aD (ig (bc GC j' rfl mC kC bC .nil a9 (af (pv 0) (af (pv 1) ai))))
   (aK (bf (ja ck (bc GL mh rfl mL kL bL .nil NM (af (pv 0) ai)) (pv 1) (fun _ _=>rfl)))),?_⟩
  refine⟨_,rfl,_,rfl,A8 ht hk fun H1 S1=>?_⟩;obtain⟨st,ws,j9,hf⟩:=ht.same S1;obtain⟨pk,wK,rfl⟩:=aU.mp hk;refine⟨_,rfl,AZ j9 hf st (fun k' bh hm hx hg=>absurd (al (k',bh) hm) (lU.no st ⟨bh,hm,hx,hg⟩)) fun d gO H2 hd S2 h2 _ hl _=>?_⟩;obtain⟨a,ea,ha⟩:=hl al pk wK;refine⟨_,rfl,d,.ref a,rfl,?_,q a H2 (S1.trans S2) ha⟩;rw[<-ea];exact fh.k (k:=Sum.inr pk.1) h2
@[irreducible] noncomputable def sT:Sp:=fun vs H Q _=>∃ (t b:Addr) (aa:aM) (xs:List Str),vs = [.ref t,.ref b]/\FA H t aa/\H b=some (.tup (xs.map V.str))/\xs.Nodup/\xs.length<=4/\(∀x∈xs,x∈keysOf aa) /\ ∀H',aq H H'->Q (.bl true) H'
theorem NO {aa:aM} (ht:FA H t aa) (hb:H b=some (.tup (xs.map V.str))) (nd:xs.Nodup) (h4:xs.length<=4) (cO:∀x∈xs,x∈keysOf aa) (q:∀H',aq H H'->Q (.bl true) H'):sT [.ref t,.ref b] H Q E:=by
 unfold sT;exact⟨t,b,aa,xs,rfl,ht,hb,nd,h4,cO,q⟩
theorem ZT:b6 ["family","thing"] ["family","thing"] (aJ ym):=cF (by decide +kernel)
noncomputable abbrev aaS:Expr:=fG (tw (cb (b9 ym) 1))
theorem Oa:bX ["family","thing"] (aJ ym) ["parent","family"] [none,some 0] (cE aaS):=c9 (by decide +kernel)
theorem Y4 {fK:Addr}{dK:FuncData} (F:aW K "are_parents" "are_parents" ym f fd) (B:dB mg) (mM:mg "MOST_PARENTS" = some (.int 4 tk)) (GK:aI P w K mg base aQ 2 fK dK ["family","thing"] sS) (kK:keepIn K (.ref fK)=true) (bK:Binds K dK ["family","thing"] []) (mK:mg "is_kind" = some (.ref fK))
  (GR:aI P w K mg base aQ 2 fR dR ["thing"] tH) (kR:keepIn K (.ref fR)=true) (bR:Binds K dR ["thing"] []) (mR:mg "is_row" = some (.ref fR)):aI P w K mg base aQ 3 f fd ["family","thing"] sT:=by
 refine F.ok ZT (fun vs H Q E h=>?_) (fun cdv A outer s H vs Q E hr h=>?_)
 ·unfold sT at h;obtain⟨t,b,aa,xs,rfl,_⟩:=h;rfl
 ·unfold sT at h
  obtain⟨t,b,aa,xs,rfl,ht,hb,nd,h4,cO,q⟩:=h;have iZ:a7 2 _:=hr;refine⟨_,aD (cQ (PW.pt (pw_or (gx (eT (bc GR iZ rfl mR kR bR .nil a9 (af (pv 1) ai)))) (pw_or1 (cy Oi (aZ i7 rfl B.len gW (af (pv 1) ai)) (Bd (v:= .int 4) rfl mM ⟨tk,rfl⟩) (cI _))))) (aK (bf gX)) cU)
   (aK (bf (aZ (nR rfl) rfl B.all boot_all (af (d4 rfl Oa (jU (pv 1)) (fun s H fp=>⟨aX (i:=0) Oa.nd rfl (Or.inl rfl),eP,bc GK iZ rfl mK kK bK .nil a9 (af (pv 1) (af (pv 0) ai))⟩)) ai)))),?_⟩
  have nm:∀x∈xs,Nm x:=fun x hx=>ht.1.zP (cO x hx);refine⟨_,rfl,rw_sp hb nm nd (by omega) fun H1 S1=>⟨true,rfl,?_⟩⟩
  have iz:=S1 _ _ hb;refine⟨_,rfl,b,_,rfl,.inr (aC.of iz),_,4,rfl,rfl,_,rfl,?_⟩;refine ite_ff (jN (by rw[aA];omega)) ?_
  refine⟨_,rfl,b,rfl,⟨_,aC.of iz⟩,fun p hp=>?_⟩;refine jQ (xs:=xs.map V.str) (fun i ys τ H2=>∃t0:Option V,τ = [t0,some (.ref t)]/\ys=(List.replicate i true).map V.bl/\aq H1 H2/\H2 p=some (.lst ys)) ⟨none,rfl,rfl,ay hp,ag⟩ (fun i ys τ H2 ⟨_,_,_,z,z2⟩=>⟨z2,aC.of (z _ _ iz)⟩) ?_ ?_
  ·rintro i x ys τ H2 hx ⟨t0,rfl,rfl,S2,h2⟩
   obtain⟨cG,eJ,rfl,_⟩:=jV hx;have hm:=iO eJ;refine⟨_,rfl,_,rfl,NN (ht.same (S1.trans S2)) (nm _ hm) fun H3 S3=>⟨S3 _ _ h2,by rw[aA,sh,aN];omega,cw_next cG ⟨_,rfl,?_,fun b u e=>?_,ag⟩⟩⟩
   ·rw[gI (cO _ hm),uC,a8];rfl
   ·rw[ah (ao e hp)];exact S3 _ _ (S2 _ _ e)
  ·rintro ys τ H2 ⟨t0,rfl,rfl,S2,h2⟩
   refine⟨p,_,rfl,aj.of h2,?_⟩;have:(List.replicate (xs.map V.str).length true).all id=true:=by simp
   rw[this];exact q _ (S1.trans S2)
@[irreducible] noncomputable def vQ:Sp:=fun vs H Q _=>∃ (t b:Addr) (aa:aM) (xs:List Str),vs = [.ref t,.ref b]/\FA H t aa/\H b=some (.tup (xs.map V.str))/\xs.Nodup/\xs.length<=4/\(∀x∈xs,x∈keysOf aa) /\ ∀H',aq H H'->Q .aF H'
theorem aaT {aa:aM} (ht:FA H t aa) (hb:H b=some (.tup (xs.map V.str))) (nd:xs.Nodup) (h4:xs.length<=4) (cO:∀x∈xs,x∈keysOf aa) (q:∀H',aq H H'->Q .aF H'):vQ [.ref t,.ref b] H Q E:=by
 unfold vQ;exact⟨t,b,aa,xs,rfl,ht,hb,nd,h4,cO,q⟩
theorem acL:b6 ["family","thing"] ["family","thing"] (aJ Fe):=cF (by decide +kernel)
theorem aaU (F:aW K "check_parents" "check_parents" Fe f fd) (GA:aI P w K mg base aQ 3 fA dA ["family","thing"] sT) (kA:keepIn K (.ref fA)=true) (bA:Binds K dA ["family","thing"] []) (mA:mg "are_parents" = some (.ref fA)):aI P w K mg base aQ 4 f fd ["family","thing"] vQ:=by
 refine F.ok acL (fun vs H Q E h=>?_) (fun cdv A outer s H vs Q E hr h=>?_)
 ·unfold vQ at h;obtain⟨t,b,aa,xs,rfl,_⟩:=h;rfl
 ·unfold vQ at h
  obtain⟨t,b,aa,xs,rfl,ht,hb,nd,h4,cO,q⟩:=h;refine⟨_,aK (cQ (gx (eT (bc GA hr rfl mA kA bA .nil a9 (af (pv 0) (af (pv 1) ai))))) LV cU),?_⟩;exact⟨_,rfl,_,rfl,NO ht hb nd h4 cO fun H1 S1=>⟨true,rfl,q H1 S1⟩⟩
theorem cD.congr {aa gP:aM} (h:∀p,p∈aa->p∈gP) {k:Str}{l:List Str} (z:cD aa k l):cD gP k l:=by
 induction z with
 |mk hm hx hg ih=>exact .mk (h _ hm) ih hg
theorem ET {aa gP:aM} (p:gP.Perm aa) {k:Str}{l:List Str}:cD gP k l ↔ cD aa k l:=⟨cD.congr fun _ h=>p.mem_iff.mp h,cD.congr fun _ h=>p.mem_iff.mpr h⟩
theorem cw.perm {aa gP:aM} (s:cw aa) (p:gP.Perm aa):cw gP:=by
 refine⟨(p.map _).nodup_iff.mpr s.nd,by rw[p.length_eq];exact s.bV,fun q h=>s.nm q (p.mem_iff.mp h),fun q h x hx=>?_,fun q h=>s.four q (p.mem_iff.mp h),fun q h=>s.rW q (p.mem_iff.mp h)⟩
 obtain⟨r,hr,e⟩:=s.up q (p.mem_iff.mp h) x hx;exact⟨r,p.mem_iff.mpr hr,e⟩
theorem Ob {aa:aM} (s:cw aa) {k:Str}:Ln aa k ↔ ∃l,cD aa k l:=⟨fun h=>⟨_,h⟩,fun⟨_,h⟩=>h.ln s⟩
theorem xJ {aa gP:aM} (s:cw aa) (p:gP.Perm aa) {k:Str}:Ln gP k ↔ Ln aa k:=by
 rw[Ob s,Ob (s.perm p)];exact⟨fun⟨l,h⟩=>⟨l,(ET p).mp h⟩,fun⟨l,h⟩=>⟨l,(ET p).mpr h⟩⟩
theorem Ba {aa gP:aM} (s:cw aa) (p:gP.Perm aa):eu gP ↔ eu aa:=⟨fun h q hq=>(xJ s p).mp (h q (p.mem_iff.mpr hq)),fun h q hq=>(xJ s p).mpr (h q (p.mem_iff.mp hq))⟩
theorem Et {a b:aM} (sb:cw b) (p:a.Perm b) (h:Ln b x):aH a x=aH b x:=((ET p).mpr h).line (sb.perm p)
theorem EU:∀xs ys:List Str,PyData.eqvAll (xs.map PyData.str) (ys.map PyData.str)=decide (xs=ys)
 |[],[]=>rfl
 |[],y::ys=>rfl
 |x::xs,[]=>rfl
 |x::xs,y::ys=>by
  show((x==y) && PyData.eqvAll (xs.map PyData.str) (ys.map PyData.str))=_;rw[EU xs ys]
  by_cases e:x=y
  ·by_cases f:xs=ys <;> simp[e,f]
  ·simp[e]
def iN (aa:aM):Prop:=(aa.map (·.1)).Pairwise fun a b=>iA a b=true
def jv (aa:aM) (k:Str):aM:=aa.filter fun p=>!decide (p.1=k)
def bH (aa:aM) (k:Str) (ps:List Str):aM:=jv aa k ++ [(k,ps)]
theorem qP {aa:aM}{k:Str}{p:Str×List Str}:p∈bH aa k ps ↔ (p∈aa/\p.1≠k)\/p=(k,ps):=by
 unfold bH jv;rw[dH,jk,ff];simp
theorem M5 {aa:aM} (st:cw aa) (hl:aa.length<=14) {k:Str} (nm:Nm k) (nd:ps.Nodup) (h4:ps.length<=4) (cO:∀x∈ps,x∈keysOf aa):cw (bH aa k ps):=by
 have sub:∀p∈jv aa k,p∈aa/\p.1≠k:=fun p hp=>by
  obtain⟨h1,h2⟩:=jk.mp hp;exact⟨h1,by simpa using h2⟩
 refine⟨?_,?_,fun p hp=>?_,fun p hp x hx=>?_,fun p hp=>?_,fun p hp=>?_⟩
 ·unfold bH
  rw[a8,mr];refine⟨List.Nodup.sublist (List.filter_sublist.map _) st.nd,by simp,fun a ha b hb e=>?_⟩
  obtain⟨p,hp,rfl⟩:=aU.mp ha;have:b=k:=by simpa using hb
  exact(sub p hp).2 (e.trans this)
 ·unfold bH
  have:(jv aa k).length<=aa.length:=nQ _ _;rw[cZ,i6];omega
 ·rcases qP.mp hp with⟨h,_⟩|rfl
  ·exact st.nm p h
  ·exact nm
 ·have key:x∈keysOf aa:=by
   rcases qP.mp hp with⟨h,_⟩|rfl
   ·obtain⟨q,hq,rfl⟩:=st.up p h x hx
    exact aU.mpr ⟨q,hq,rfl⟩
   ·exact cO x hx
  by_cases e:x=k
  ·exact⟨(k,ps),qP.mpr (.inr rfl),e.symm⟩
  ·obtain⟨q,hq,rfl⟩:=aU.mp key
   exact⟨q,qP.mpr (.inl ⟨hq,e⟩),rfl⟩
 ·rcases qP.mp hp with⟨h,_⟩|rfl
  ·exact st.four p h
  ·exact h4
 ·rcases qP.mp hp with⟨h,_⟩|rfl
  ·exact st.rW p h
  ·exact nd
theorem Fi {aa:aM} (al:eu aa) (h:x∈keysOf aa):Ln aa x:=by obtain⟨p,hp,rfl⟩:=aU.mp h;exact al p hp
@[irreducible] noncomputable def vR:Sp:=fun vs H Q _=>∃ (t:Addr) (aa:aM) (k:Str),vs = [.ref t,.str k]/\FA H t aa /\ ∀r iK H',aq H H'->H' r=some (.tup iK)->cj H' iK (jv aa k)->Q (.ref r) H'
theorem aaV {aa:aM}{k:Str} (ht:FA H t aa) (q:∀r iK H',aq H H'->H' r=some (.tup iK)->cj H' iK (jv aa k)->Q (.ref r) H'):vR [.ref t,.str k] H Q E:=by unfold vR;exact⟨t,aa,k,rfl,ht,q⟩
theorem acM:b6 ["family","kind"] ["family","kind"] (aJ xA):=cF (by decide +kernel)
noncomputable abbrev eWo:Expr:=fG (tw (cb (b9 xA) 0))
theorem PQ:bX ["family","kind"] (aJ xA) ["pair","kind"] [none,some 1] (cE eWo):=c9 (by decide +kernel)
theorem aaW (F:aW K "without_kind" "without_kind" xA f fd) (B:dB mg):aI P w K mg base aQ 1 f fd ["family","kind"] vR:=by
 refine F.ok acM (fun vs H Q E h=>?_) (fun cdv A outer s H vs Q E hr h=>?_)
 ·unfold vR at h;obtain⟨t,aa,k,rfl,_⟩:=h;rfl
 ·unfold vR at h
  obtain⟨t,aa,k,rfl,⟨st,ws,ht,hf⟩,q⟩:=h;have hl:=st.bV;refine⟨_,aK (bf (eO mx rfl B.tuple boot_tuple (af (d4 rfl PQ (jU (pv 0)) (fun s H fp=>⟨aX (i:=0) PQ.nd rfl (Or.inl rfl),my (cy sX (cf (uV K rfl) (pv 0) aP (fun _ _=>rfl)) (pv 1) (cI _)),pv 0⟩)) ai))),?_⟩;have hlen:=hf.length;refine⟨_,rfl,t,rfl,⟨_,aC.of ht⟩,fun c hc=>?_⟩;refine jQ (xs:=ws) (fun i ys τ H1=>∃t0:Option V,τ = [t0,some (.str k)]/\cj H ys (jv (aa.take i) k)/\H1=upd H c (.lst ys)) ⟨none,rfl,.nil,rfl⟩ (fun i ys τ H1 ⟨_,_,_,z⟩=>by rw[z];exact⟨ag,aC.of (by rw[ah (ao ht hc)];exact ht)⟩) ?_ ?_
  ·rintro i x ys τ H1 hx ⟨t0,rfl,F1,rfl⟩
   have aS:i < ws.length:=(cR.mp hx).1;obtain⟨p,hp,a,b,rfl,ha,hb⟩:=nX hf hx;have tk:aa.take (i+1)=aa.take i ++ [p]:=by rw[gu,hp];rfl
   refine⟨_,rfl,a,_,0,.str p.1,rfl,rfl,aC.of (by rw[ah (ao ha hc)];exact ha),(show cC [V.str p.1,V.ref b] ((0:Nat):Int)=some (.str p.1) from eG rfl),_,rfl,rfl,_,rfl,?_⟩
   refine fq (fun bB=>?_) (fun bB=>?_)
   ·have lX:p.1≠k:=fun z=>by rw[z]at bB;simp at bB
    refine⟨_,rfl,ag,?_,cw_next aS ⟨_,rfl,?_,by rw[ie]⟩⟩
    ·have h1:=F1.length
     have h2:(jv (aa.take i) k).length<=(aa.take i).length:=nQ _ _;rw[dJ]at h2;rw[aN];omega
    ·have e1:jv (aa.take (i+1)) k=jv (aa.take i) k ++ [p]:=by rw[tk];unfold jv;rw[pA,xq (by simpa using lX)];rfl
     rw[e1];exact cj.append F1 ha hb
   ·have lX:p.1=k:=by
     by_cases z:p.1=k
     ·exact z
     ·exact absurd (by simp[z]) bB
    refine cw_next aS ⟨_,rfl,?_,rfl⟩;have e1:jv (aa.take (i+1)) k=jv (aa.take i) k:=by rw[tk];unfold jv;rw[pA,Ay (by simpa using lX)];simp
    rw[e1];exact F1
  ·rintro ys τ H1 ⟨t0,rfl,F1,rfl⟩
   rw[hlen,du]at F1;refine⟨c,_,rfl,.inl ⟨aj.of ag,fun r hr=>?_⟩⟩;have S:=(ay (o:= .lst ys) hc).trans (ay (o:= .tup ys) hr);exact q r ys _ S ag (F1.same S)
@[irreducible] noncomputable def vS (C:Addr):Sp:=fun vs H Q E=>∃ (t pa:Addr) (aa:aM) (k:Str) (ps:List Str),vs = [.ref t,.str k,.ref pa]/\FA H t aa/\H pa=some (.tup (ps.map V.str))/\cw (bH aa k ps) /\
 (∀k' bh,(k',bh)∈(bH aa k ps)->(∀x∈bh,Ln (bH aa k ps) x)->bw (total (rowsOf (aH (bH aa k ps)) bh)) (rowsOf (aH (bH aa k ps)) bh)=none -> ∀a H',aq H H'->rB C k' (rowsOf (aH (bH aa k ps)) bh) H' a->E (.ref C) (some a) H') /\ ∀t' told H',aq H H'->FA H' t' told->told.Perm (bH aa k ps)->iN told->tE told->Q (.ref t') H'
theorem aaX {aa:aM}{k:Str} (ht:FA H t aa) (hp:H pa=some (.tup (ps.map V.str))) (st:cw (bH aa k ps)) (qn:∀k' bh,(k',bh)∈(bH aa k ps)->(∀x∈bh,Ln (bH aa k ps) x)->bw (total (rowsOf (aH (bH aa k ps)) bh)) (rowsOf (aH (bH aa k ps)) bh)=none -> ∀a H',aq H H'->rB C k' (rowsOf (aH (bH aa k ps)) bh) H' a->E (.ref C) (some a) H')
  (q:∀t' told H',aq H H'->FA H' t' told->told.Perm (bH aa k ps)->iN told->tE told->Q (.ref t') H'):vS C [.ref t,.str k,.ref pa] H Q E:=by
 unfold vS;exact⟨t,pa,aa,k,ps,rfl,ht,hp,st,qn,q⟩
noncomputable abbrev nWp:List Str:= ["family","kind","parents","told"]
theorem PR:b6 nWp ["family","kind","parents"] (aJ FZ):=cF (by decide +kernel)
theorem aaY (F:aW K "with_parents" "with_parents" FZ f fd) (B:dB mg) (B2:gN mg) (GW:aI P w K mg base aQ 1 fW dW ["family","kind"] vR) (kW:keepIn K (.ref fW)=true) (bW:Binds K dW ["family","kind"] []) (mW:mg "without_kind" = some (.ref fW))
  (GL:aI P w K mg base (fb P w) 5 fL dL ["family"] (pM C)) (kL:keepIn K (.ref fL)=true) (bL:Binds K dL ["family"] []) (mL:mg "lines_of" = some (.ref fL)):aI P w K mg base (fb P w) 6 f fd ["family","kind","parents"] (vS C):=by
 refine F.zd PR (fun vs H Q E h=>?_) (fun cdv A outer s H vs Q E hr h=>?_)
 ·unfold vS at h;obtain⟨t,pa,aa,k,ps,rfl,_⟩:=h;rfl
 ·unfold vS at h
  obtain⟨t,pa,aa,k,ps,rfl,ht,hp,st,qn,q⟩:=h;have mh:a7 5 _:=hr;have cK:a7 1 _:=mh.mono (by decide)
  refine⟨_,aD (bq (i:=3) PR.nd rfl (Or.inl rfl) (eO mx rfl B.tuple boot_tuple (af (aZ DK rfl B2.sorted boot_sorted (af (c8 Nn (bc GW cK rfl mW kW bW .nil a9 (af (pv 0) (af (pv 1) ai))) (lQ (af (lQ (af (pv 1) (af (pv 2) ai))) ai))) ai)) ai)))
   (aD (ig (bc GL mh rfl mL kL bL .nil FQ (af (pv 3) ai)))
   (aK (bf (pv 3)))),?_⟩
  have bV:=st.bV;rw[show(bH aa k ps).length=(jv aa k).length+1 from cZ]at bV;refine⟨_,rfl,_,rfl,aaV ht fun r iK H1 S1 h1 F1=>?_⟩;refine⟨_,rfl,_,rfl,ng,fun c1 CN=>⟨j6,fun c2 gk=>?_⟩⟩;have T1:=ay (o:= .tup [V.str k,.ref pa]) CN;have T2:=T1.trans (ay (o:= .tup [V.ref c1]) gk);have S2:=S1.trans T2;have qh:=F1.length;refine⟨r,c2,_,_,rfl,rfl,T2 _ _ h1,ag,by rw[aN];show _+1<=_;omega,fun c3 H3 S3 h3=>?_⟩
  have acN:upd (upd H1 c1 (.tup [V.str k,.ref pa])) c2 (.tup [V.ref c1]) c1=some (.tup [V.str k,.ref pa]):=by rw[ah (ao ag gk)];exact ag
  have F3:cj H3 (iK ++ [.ref c1]) (bH aa k ps):=cj.append (F1.same (T2.trans S3)) (S3 _ _ acN) (S3 _ _ (S2 _ _ hp));have zS:=S2.trans S3;obtain⟨kvs,K3,ek⟩:=F3.keyed;refine⟨c3,_,kvs,1,rfl,.inr (aC.of h3),K3,aR _,by rw[ek];exact Er st.nd,by rw[cZ,i6];omega,fun D eZ fu hD ip hK wK lz=>?_⟩
  obtain⟨told,gq,F4⟩:=DQ ip F3;rw[D9 F4 hK]at lz;have so:iN told:=by
   unfold iN;rw[xp]at lz ⊢;exact lz.imp fun {a b} z=>by rw[E7]at z;exact z
  have SD:=ay (o:= .lst eZ) hD;refine⟨D,eZ,rfl,.inl ⟨aj.of ag,fun t' ht'=>?_⟩⟩;have St:=SD.trans (ay (o:= .tup eZ) ht');have CS:=zS.trans St;have F5:=cj.same F4 St;have lg:=st.perm gq;refine⟨_,rfl,AZ ag F5 lg (fun k' bh hm hx hg a H5 S5 r5=>by
   have er:rowsOf (aH told) bh=rowsOf (aH (bH aa k ps)) bh:=AH fun x h=>Et st gq ((xJ st gq).mp (hx x h));rw[er]at hg r5;exact qn k' bh (gq.mem_iff.mp hm) (fun x h=>(xJ st gq).mp (hx x h)) hg a H5 (CS.trans S5) r5) fun d gO H5 hd S5 h5 fr _ _=>?_⟩
  exact⟨_,rfl,q t' told H5 (CS.trans S5) ⟨lg,eZ,S5 _ _ ag,F5.same S5⟩ gq so fr⟩
@[irreducible] noncomputable def vn:Sp:=fun vs H Q _=>∃ (l:Addr) (ss:List Str),vs = [.ref l]/\H l=some (.lst (ss.map V.str))/\(ss.Pairwise fun a b=>iA a b=true)/\(∀x∈ss,Nm x)/\ss.length<=63 /\ ∀H',aq H H'->Q (.bl true) H'
theorem Y5 (hl:H l=some (.lst (ss.map V.str))) (so:ss.Pairwise fun a b=>iA a b=true) (nm:∀x∈ss,Nm x) (mf:ss.length<=63) (q:∀H',aq H H'->Q (.bl true) H'):vn [.ref l] H Q E:=by unfold vn;exact⟨l,ss,rfl,hl,so,nm,mf,q⟩
theorem ZU:b6 ["names"] ["names"] (aJ E8):=cF (by decide +kernel)
theorem Y6 (F:aW K "are_rising" "are_rising" E8 f fd) (B2:gN mg) (bs:mg "set" = none):aI P w K mg base aQ 1 f fd ["names"] vn:=by
 refine F.ok ZU (fun vs H Q E h=>?_) (fun cdv A outer s H vs Q E hr h=>?_)
 ·unfold vn at h;obtain⟨l,ss,rfl,_⟩:=h;rfl
 ·unfold vn at h
  obtain⟨l,ss,rfl,hl,so,nm,mf,q⟩:=h;have hu:=hr.units;refine⟨_,aK (bf (lP (xQ hu) (pv 0) (aZ (U9 rfl) rfl B2.sorted boot_sorted (af (eO (EF rfl) rfl bs boot_set (af (pv 0) ai)) ai)) (cI _))),?_⟩;refine⟨_,rfl,_,rfl,l,ss,rfl,.inl (aj.of hl),by omega,fun a ds ha nd mem=>?_⟩
  have RB:=NL nd (aaA so) mem;refine⟨a,ds,rfl,ag,by rw[RB.length_eq];exact mf,fun D fj hD hp hs=>?_⟩
  obtain rfl:fj=ss:=Vo hs so (hp.trans RB);have S1:=(ay (o:=p9 P w a ds) ha).trans (ay (o:= .lst (fj.map V.str)) hD);have lay:(PyData.list (fj.map PyData.str)).canLay0=true:=jT nm;refine⟨.list (fj.map PyData.str),.list (fj.map PyData.str),.lst (S1 _ _ hl) (lO _ fj),.lst ag (lO _ fj),lay,lay,by show PyData.depthAll _+1<=60;rw[pE];decide,?_⟩
  have eqr:PyData.eqv (.list (fj.map PyData.str)) (.list (fj.map PyData.str))=true:=by
   show PyData.eqvAll _ _=true;rw[EU];exact gI rfl
  rw[eqr];exact q _ S1
@[irreducible] noncomputable def vo:Sp:=fun vs H Q _=>∃ (a b:Addr) (k:Str) (xs:List Str),vs = [.ref a]/\H a=some (.tup [.str k,.ref b])/\H b=some (.tup (xs.map V.str))/\Nm k/\(∀x∈xs,Nm x)/\xs.Nodup/\xs.length<=100 /\ ∀H',aq H H'->Q (.bl true) H'
theorem Y7 {k:Str} (ha:H a=some (.tup [.str k,.ref b])) (hb:H b=some (.tup (xs.map V.str))) (hk:Nm k) (nm:∀x∈xs,Nm x) (nd:xs.Nodup) (hl:xs.length<=100) (q:∀H',aq H H'->Q (.bl true) H'):vo [.ref a] H Q E:=by
 unfold vo;exact⟨a,b,k,xs,rfl,ha,hb,hk,nm,nd,hl,q⟩
theorem ZV:b6 ["thing"] ["thing"] (aJ E9):=cF (by decide +kernel)
theorem Y8 (F:aW K "is_pair" "is_pair" E9 f fd) (B:dB mg) (B2:gN mg) (GN:aI P w K mg base aQ 1 fN dN ["thing"] qZ) (kN:keepIn K (.ref fN)=true) (bN:Binds K dN ["thing"] []) (mN:mg "is_name" = some (.ref fN))
  (GR:aI P w K mg base aQ 2 fR dR ["thing"] tH) (kR:keepIn K (.ref fR)=true) (bR:Binds K dR ["thing"] []) (mR:mg "is_row" = some (.ref fR)):aI P w K mg base aQ 3 f fd ["thing"] vo:=by
 refine F.ok ZV (fun vs H Q E h=>?_) (fun cdv A outer s H vs Q E hr h=>?_)
 ·unfold vo at h;obtain⟨a,b,k,xs,rfl,_⟩:=h;rfl
 ·unfold vo at h
  obtain⟨a,b,k,xs,rfl,ha,hb,hk,nm,nd,hl,q⟩:=h;have iZ:a7 2 _:=hr;have cK:a7 1 _:=iZ.mono (by decide)
  refine⟨_,aK (bf (sL (aZ lL rfl B2.ji i9 (af (pv 0) (af (ko (v:= .ty "tuple") rfl B.tuple boot_tuple rfl) ai)))
   (sL (lP yd (aZ i7 rfl B.len gW (af (pv 0) ai)) aP (cI _))
   (sL (bc GN cK rfl mN kN bN .nil a9 (af (cf lR (pv 0) aP (fun _ _=>rfl)) ai))
   (xN (bc GR iZ rfl mR kR bR .nil a9 (af (cf lR (pv 0) aP (fun _ _=>rfl)) ai))))))),?_⟩
  refine⟨_,rfl,⟨_,.inr ⟨"tuple",rfl⟩⟩,.ref a,.ty "tuple",.type "tuple",.type "tuple",true,rfl,rfl,.inl (.tup ha),rfl,true,rfl,?_⟩;refine⟨_,rfl,a,_,rfl,.inr (aC.of ha),rfl,true,rfl,?_⟩;refine⟨_,rfl,a,_,0,.str k,rfl,rfl,aC.of ha,(show cC [V.str k,V.ref b] ((0:Nat):Int)=some (.str k) from eG rfl),Fh hk fun H1 S1=>⟨true,rfl,?_⟩⟩;have gF:=S1 _ _ ha;refine⟨_,rfl,a,_,1,.ref b,rfl,rfl,aC.of gF,(show cC [V.str k,V.ref b] ((1:Nat):Int)=some (.ref b) from eG rfl),rw_sp (S1 _ _ hb) nm nd hl fun H2 S2=>?_⟩;exact q _ (S1.trans S2)
theorem Wh (K:Frag) (h:X.K=K):d5 X (.builtin "len") (fun xs H Q=>∃p ys,xs = [.ref p]/\(aj K H p ys\/aC K H p ys)/\Q (.int ys.length) H):=by subst h;exact i7
@[irreducible] noncomputable def vD:Sp:=fun vs H Q _=>∃ (t:Addr) (aa:aM),vs = [.ref t]/\FA H t aa/\eu aa/\iN aa /\ ∀H',aq H H'->Q (.bl true) H'
theorem ZW {aa:aM} (ht:FA H t aa) (al:eu aa) (so:iN aa) (q:∀H',aq H H'->Q (.bl true) H'):vD [.ref t] H Q E:=by unfold vD;exact⟨t,aa,rfl,ht,al,so,q⟩
theorem aaZ:b6 ["thing"] ["thing"] (aJ pP):=cF (by decide +kernel)
noncomputable abbrev eF1:Expr:=fG (tx (vm (qY (cb (b9 pP) 0)) 1))
noncomputable abbrev eF2:Expr:=fG (tx (qY (cb (b9 pP) 1)))
noncomputable abbrev eF3:Expr:=fG (tx (qY (cb (b9 pP) 2)))
theorem PU:bX ["thing"] (aJ pP) ["pair"] [none] (cE eF1):=c9 (by decide +kernel)
theorem Hi:bX ["thing"] (aJ pP) ["kind","parents"] [none,none] (cE eF2):=c9 (by decide +kernel)
theorem Hj:bX ["thing"] (aJ pP) ["kind","parents","thing"] [none,none,some 0] (cE eF3):=c9 (by decide +kernel)
theorem ZX (F:aW K "is_family" "is_family" pP f fd) (B:dB mg) (B2:gN mg) (mC:mg "Ring" = some (.ref C)) (qC:eU K C ci=true) (me:mroIn K C (.ref C)=some true)
  (GP:aI P w K mg base aQ 3 fP dP ["thing"] vo) (kP:keepIn K (.ref fP)=true) (bP:Binds K dP ["thing"] []) (mP:mg "is_pair" = some (.ref fP))
  (GR:aI P w K mg base aQ 1 fR dR ["names"] vn) (kR:keepIn K (.ref fR)=true) (bR:Binds K dR ["names"] []) (mR:mg "are_rising" = some (.ref fR))
  (GA:aI P w K mg base aQ 3 fA dA ["family","thing"] sT) (kA:keepIn K (.ref fA)=true) (bA:Binds K dA ["family","thing"] []) (mA:mg "are_parents" = some (.ref fA))
  (GL:aI P w K mg base (fb P w) 5 fL dL ["family"] (pM C)) (kL:keepIn K (.ref fL)=true) (bL:Binds K dL ["family"] []) (mL:mg "lines_of" = some (.ref fL)):aI P w K mg base aQ 6 f fd ["thing"] vD:=by
 refine F.ok aaZ (fun vs H Q E h=>?_) (fun cdv A outer s H vs Q E hr h=>?_)
 ·unfold vD at h;obtain⟨t,aa,rfl,_⟩:=h;rfl
 ·unfold vD at h
  obtain⟨t,aa,rfl,hA,al,so,q⟩:=h;obtain⟨ok,ws,ht,hf⟩:=id hA;have md:∀p∈aa,p.2.Nodup/\p.2.length<=4:=fun p hp=>⟨ok.rW p hp,ok.four p hp⟩;have mh:a7 5 _:=hr;have j':a7 3 _:=mh.mono (by decide)
  have cK:a7 1 _:=mh.mono (by decide)
  have hlen:=hf.length;have bV:=ok.bV;have nmp:∀p∈aa,∀x∈p.2,Nm x:=fun p hp x hx=>by obtain⟨z,hz,rfl⟩:=ok.up p hp x hx;exact ok.nm z hz
  refine⟨_,aD (cQ (PW.pt (pw_or (gx (eT (aZ lL rfl B2.ji i9 (af (pv 0) (af (ko (v:= .ty "tuple") rfl B.tuple boot_tuple rfl) ai)))))
    (pw_or1 (gx (eT (aZ (nR rfl) rfl B.all boot_all (af (d4 rfl PU (jU (pv 0)) (fun s H fp=>⟨aX (i:=0) PU.nd rfl (Or.inl rfl),eP,bc GP j' rfl mP kP bP .nil a9 (af (pv 0) ai)⟩)) ai))))))) (aK (bf gX)) cU)
   (aD (cQ (gx (eT (bc GR cK rfl mR kR bR .nil a9 (af (d4 rfl Hi (jU (pv 0)) (fun s H fp=>⟨A7 (n:=2) K rfl rfl (eF (aX (i:=0) Hi.nd rfl (Or.inl rfl)) (eF (aX (i:=1) Hi.nd rfl (Or.inl rfl)) kq)),eP,pv 0⟩)) ai)))) (aK (bf gX)) cU)
   (aD (cQ (gx (eT (aZ (nR rfl) rfl B.all boot_all (af (d4 rfl Hj (jU (pv 0)) (fun s H fp=>⟨A7 (n:=2) K rfl rfl (eF (aX (i:=0) Hj.nd rfl (Or.inl rfl)) (eF (aX (i:=1) Hj.nd rfl (Or.inl rfl)) kq)),eP,bc GA j' rfl mA kA bA .nil a9 (af (pv 2) (af (pv 1) ai))⟩)) ai)))) (aK (bf gX)) cU)
   (aK (YJ (fun pins D=>aK (bf (lP yd (aZ Ej rfl B.len gW (af (ED GL mh rfl mL kL bL (af (pv 0) ai)) ai)) (aZ (Wh K rfl) rfl B.len gW (af (pv 0) ai)) (cI _)))) rfl rfl rfl rfl rfl mC qC (fun a=>aK (bf gX)))))),?_⟩
  refine⟨_,rfl,⟨_,.inr ⟨"tuple",rfl⟩⟩,.ref t,.ty "tuple",.type "tuple",.type "tuple",true,rfl,rfl,.inl (.tup ht),rfl,true,rfl,?_⟩;refine⟨_,rfl,t,rfl,⟨_,aC.of ht⟩,fun p hp=>?_⟩;refine jQ (xs:=ws) (fun i ys τ H1=>∃t0:Option V,τ = [t0]/\ys=(List.replicate i true).map V.bl/\aq H H1/\H1 p=some (.lst ys)) ⟨none,rfl,rfl,ay hp,ag⟩ (fun i ys τ H1 ⟨_,_,_,z,z2⟩=>⟨z2,aC.of (z _ _ ht)⟩) ?_ ?_
  ·rintro i x ys τ H1 hx ⟨t0,rfl,rfl,S1,h1⟩
   have aS:i < ws.length:=(cR.mp hx).1;obtain⟨r,eK,a,b,rfl,ha,hb⟩:=nX (hf.same S1) hx;have hr:=ia eK;refine⟨_,rfl,Y7 ha hb (ok.nm r hr) (nmp r hr) (md r hr).1 (by have:=(md r hr).2;omega) fun H2 S2=>⟨S2 _ _ h1,by rw[aA,sh,aN];omega,cw_next aS ⟨_,rfl,?_,fun b u e=>?_,ag⟩⟩⟩
   ·rw[uC,a8];rfl
   ·rw[ah (ao e hp)];exact S2 _ _ (S1 _ _ e)
  rintro ys τ H1 ⟨t0,rfl,rfl,S1,h1⟩;refine⟨p,_,rfl,aj.of h1,_,rfl,?_⟩;have CT:(List.replicate ws.length true).all id=true:=by simp
  rw[CT];have j9:=S1 _ _ ht;have qm:=hf.same S1;refine⟨_,rfl,t,rfl,⟨_,aC.of j9⟩,fun p2 hU=>?_⟩;refine jQ (xs:=ws) (fun i ys τ H2=>∃t0 t1:Option V,τ = [t0,t1]/\ys=((aa.take i).map (·.1)).map V.str/\H2=upd H1 p2 (.lst ys)) ⟨none,none,rfl,rfl,rfl⟩ (fun i ys τ H2 ⟨_,_,_,_,z⟩=>by rw[z];exact⟨ag,aC.of (by rw[ah (ao j9 hU)];exact j9)⟩) ?_ ?_
  ·rintro i x ys τ H2 hx ⟨t0,t1,rfl,rfl,rfl⟩
   have aS:i < ws.length:=(cR.mp hx).1;obtain⟨r,eK,a,b,rfl,ha,hb⟩:=nX qm hx;have tk:aa.take (i+1)=aa.take i ++ [r]:=by rw[gu,eK];rfl
   refine⟨a,_,rfl,aC.of (by rw[ah (ao ha hU)];exact ha),rfl,_,_,rfl,_,_,rfl,rfl,?_⟩
   refine⟨_,rfl,ag,by rw[aA,aA,dJ,aN];omega,cw_next aS ⟨_,_,rfl,?_,by rw[ie]⟩⟩
   rw[tk,a8,a8];rfl
  rintro ys τ H2 ⟨t0,t1,rfl,rfl,rfl⟩;rw[hlen,du];have S2:=S1.trans (ay (o:= .lst ((aa.map (·.1)).map V.str)) hU);refine Y5 ag so (fun x hx=>by obtain⟨r,hr,rfl⟩:=aU.mp hx;exact ok.nm r hr) (by rw[aA];omega) fun H3 S3=>⟨true,rfl,?_⟩
  have S3:=S2.trans S3;have wW:=S3 _ _ ht;refine⟨_,rfl,t,rfl,⟨_,aC.of wW⟩,fun p3 zA=>?_⟩;refine jQ (xs:=ws) (fun i ys τ H4=>∃t0 t1:Option V,τ = [t0,t1,some (.ref t)]/\ys=(List.replicate i true).map V.bl/\aq H3 H4/\H4 p3=some (.lst ys)) ⟨none,none,rfl,rfl,ay zA,ag⟩ (fun i ys τ H4 hQ9=>by obtain⟨_,_,_,_,z,z2⟩:=hQ9;exact ⟨z2,aC.of (z _ _ wW)⟩) ?_ ?_
  ·rintro i x ys τ H4 hx ⟨t0,t1,rfl,rfl,S4,h4⟩
   have aS:i < ws.length:=(cR.mp hx).1;have lA:=S3.trans S4;obtain⟨r,eK,a,b,rfl,ha,hb⟩:=nX (hf.same lA) hx;have hr:=ia eK;refine⟨a,_,rfl,aC.of ha,rfl,_,_,rfl,_,_,rfl,rfl,?_⟩;refine⟨_,rfl,_,rfl,NO (hA.same lA) hb (md r hr).1 (md r hr).2 (fun x hx=>by obtain⟨z,hz,rfl⟩:=ok.up r hr x hx;exact aU.mpr ⟨z,hz,rfl⟩) fun H5 S5=>⟨S5 _ _ h4,by rw[aA,sh,aN];omega,cw_next aS ⟨_,_,rfl,?_,fun b u e=>?_,ag⟩⟩⟩
   ·rw[uC,a8];rfl
   ·rw[ah (ao e zA)];exact S5 _ _ (S4 _ _ e)
  rintro ys τ H4 ⟨t0,t1,rfl,rfl,S4,h4⟩;refine⟨p3,_,rfl,aj.of h4,_,rfl,?_⟩;rw[CT];have lA:=S3.trans S4;refine⟨_,rfl,AZ (lA _ _ ht) (hf.same lA) ok (fun k' bh hm hx hg=>absurd (al (k',bh) hm) (lU.no ok ⟨bh,hm,hx,hg⟩)) fun d kvs H5 hd S5 h5 _ _ acO=>?_⟩;refine⟨d,kvs,rfl,h5,_,rfl,t,_,rfl,.inr (aC.of (S5 _ _ (lA _ _ ht))),rfl,?_⟩;have e1:kvs.length=ws.length:=by rw[acO.mpr al,hlen]
  have e2:decide (V.int (kvs.length:Int)=V.int (ws.length:Int))=true:=gI (by rw[e1])
  rw[e2];exact q _ (lA.trans S5)
def cV:Expr->Option V
 |.Constant .none _ _=>some .aF
 |.Constant (.bool b) _ _=>some (.bl b)
 |.Constant (.int i) _ _=>some (.int i)
 |.Constant (.str x) _ _=>some (.str x)
 |.UnaryOp .USub (.Constant (.int i) _ _) _=>some (.int (-i))
 |_=>none
theorem aa0 (h:cV e=some v):PE X e (tC v):=by
 unfold cV at h;split at h
 ·cases h;exact iR
 ·cases h;exact gX
 ·cases h;exact aP
 ·cases h;exact kx
 ·cases h;exact fun pins s σ H Q I q=>vt vd aP pins s σ H Q I ⟨_,rfl,q⟩
 ·cases h
theorem X6 (h:cV e=some v):starEach (e::es) X.env=(false,eval e X.env)::starEach es X.env:=by
 unfold cV at h;split at h <;> first|rfl|cases h
theorem My {rest:List Expr}{t:TA} (hr:PA X rest t):∀ {es:List Expr}{vs:List V},es.map cV=vs.map some->PA X (es++rest) (fun σ H Q=>t σ H fun xs H2=>Q (vs++xs) H2)
 |[],[],_=>hr
 |[],v::vs,h=>by cases h
 |e::es,[],h=>by cases h
 |e::es,v::vs,h=>by
  rw[cz,cz,List.cons.injEq]at h;exact af (aa0 h.1) (My hr h.2) (X6 h.1)
def eY:List (Nat×Str):= [(0,"NoName"),(1,"NoKind"),(2,"NoParents"),(3,"Taken"),(4,"InUse"),(5,"NoEntry"),(6,"NoThing"),(7,"NoNumber"),(8,"NotAbove"),(9,"Shut"),(10,"NoText"),(11,"NoRow"),(12,"Ring"),(13,"Round"),(14,"Missing"),(15,"Endless")]
structure vT (K:Frag) (mg:Str->Option Value) (c:Nat->Addr):Prop where
 n:∀p∈eY,mg p.2=some (.ref (c p.1))
 ve:mg "ValueError" = none
 k:∀i j,i=13\/i=12->j < 16->kitOne K (.ref (c i)) (.ref (c j))=some (decide (i=j))
 v:∀i,i=13\/i=12->kitOne K (.ref (c i)) (.type "ValueError")=some true
def jy:List Str:= ["name","kind","parents","taken","use","entry","thing","number","above","shut","text","row","ring","round","missing","endless","other"]
def x8 (i:Nat):List Bool:=(List.range 16).map (fun j=>decide (i=j)) ++ [false]
theorem Y9:bootBuiltins "ValueError" = some (.type "ValueError"):=by decide +kernel
section
structure oO (K:Frag) (c:Nat->Addr) (H:Hp) (x:Option Value) (a:Addr) (i:Nat):Prop where
 ob:∃n dx,H a=some (eV n (c i) dx a) /\ ∀d,dx=some d -> ∃fs,H d=some (d7 d fs)
 cl:dU K (c i)
 it:i=13\/i=12
 hx:x=some (.ref a)
 tl:pU H x
theorem oO.same {x:Option Value} (h:oO K c H x a i) (s:aq H H'):oO K c H' x a i:=
 ⟨let ⟨n,dx,e,r⟩:=h.ob;⟨n,dx,s _ _ e,fun d ed=>let ⟨fs,z⟩:=r d ed;⟨fs,s _ _ z⟩⟩,h.cl,h.it,h.hx,h.tl.same s⟩
theorem acP {x:Option Value} (T:vT K mg c) (h:oO K c H x a i) (hj:j < 16) (q:Q (.bl (decide (i=j))) H):Oz K [.ref a,.ref (c j)] H Q:=by
 obtain⟨n,dx,e,r⟩:=h.ob;exact⟨a,n,c i,dx,.ref (c j),.ref (c j),_,rfl,.inl ⟨_,rfl,rfl⟩,e,h.cl,r,T.k i j h.it hj,q⟩
@[irreducible] noncomputable def vU (K:Frag) (c:Nat->Addr):Option Value->Sp:=fun x vs H Q _=>∃ (a:Addr) (i:Nat),vs = [.ref a]/\oO K c H x a i /\ ∀l H',aq H H'->H' l=some (.lst [.str (jy.getD i "")])->Q (.ref l) H'
theorem By {x:Option Value} (h:oO K c H x a i) (q:∀l H',aq H H'->H' l=some (.lst [.str (jy.getD i "")])->Q (.ref l) H'):vU K c x [.ref a] H Q E:=by unfold vU;exact⟨a,i,rfl,h,q⟩
noncomputable abbrev Jj:List Str:= ["_law_e","_law_some","_law_words"]
theorem tJ:b6 Jj ["_law_e"] (aJ pJ):=cF (by decide +kernel)
noncomputable abbrev eCl:Expr:=tw (cb (b9 pJ) 7)
theorem Hk:bX Jj (aJ pJ) ["_law_word","_law_truth"] [none,none] (cE eCl):=c9 (by decide +kernel)
def picked (i n:Nat):List Str:=((jy.zip (x8 i)).take n).filterMap fun p=>if p.2=true then some p.1 else none
theorem Wj:∀i,i < 16->picked i 17 = [jy.getD i ""]:=by decide +kernel
def FF (e:Expr):List Expr:=match e with|.List es _=>es|_=>[]
def lstP (e:Expr):Pos:=match e with|.List _ p=>p|_=>⟨0,0,0,0⟩
def PV (s:Stmt):Pos:=match s with|.Assign _ _ p=>p|_=>⟨0,0,0,0⟩
def PX (s:Stmt):List Expr:=match s with|.Assign t _ _=>t|_=>[]
def PY (e:Expr):Expr:=match e with|.BinOp _ _ b _=>b|_=>.Constant .none 0 ⟨0,0,0,0⟩
def aa1 (e:Expr):Expr:=match e with|.BinOp a _ _ _=>a|_=>.Constant .none 0 ⟨0,0,0,0⟩
def acQ (e:Expr):Pos:=match e with|.BinOp _ _ _ p=>p|_=>⟨0,0,0,0⟩
noncomputable abbrev SC (k:Nat):Stmt:=cb (b9 pJ) k
@[irreducible] noncomputable def i4 (k:Nat):List Expr:=match k with|0=>FF (fB (SC 0))|5=>FF (fB (SC 5))|k=>FF (PY (fB (SC k)))
noncomputable abbrev sA (k:Nat):Stmt:= .Assign (PX (SC k)) (.List (i4 k) (lstP (fB (SC k)))) (PV (SC k))
noncomputable abbrev sB (k:Nat):Stmt:= .Assign (PX (SC k)) (.BinOp (aa1 (fB (SC k))) .Add (.List (i4 k) (lstP (PY (fB (SC k))))) (acQ (fB (SC k)))) (PV (SC k))
theorem bdC:b9 pJ = [sA 0,sB 1,sB 2,sB 3,SC 4,sA 5,sB 6,SC 7]:=by unfold sA sB i4;rfl
def Hl (x:Str) (e:Expr):Bool:=match e with|.Call (.Name g _) [.Name y _,.Name z _] [] _=>g == "isinstance" && y == "_law_e" && z==x|_=>false
def vV:List (Nat×Str)->List Expr->Bool
 |[],[]=>true
 |p::js,e::es=>Hl p.2 e && vV js es
 |_,_=>false
theorem ch0:vV (eY.take 4) (i4 0)=true:=by unfold i4;decide +kernel
theorem ch1:vV ((eY.drop 4).take 4) (i4 1)=true:=by unfold i4;decide +kernel
theorem ch2:vV ((eY.drop 8).take 4) (i4 2)=true:=by unfold i4;decide +kernel
theorem ch3:vV ((eY.drop 12).take 4) (i4 3)=true:=by unfold i4;decide +kernel
theorem chA:(i4 5).map cV=((jy.take 12).map V.str).map some:=by unfold i4;decide +kernel
theorem chB:(i4 6).map cV=((jy.drop 12).map V.str).map some:=by unfold i4;decide +kernel
theorem M6 (h:es.map cV=vs.map some):PA X es (fun _ H Q=>Q vs H):=by
 have:=My (X:=X) ai h;rw[gr]at this;exact fun pos pins s σ H Q I q=>this pos pins s σ H Q I (by show Q (vs ++ []) H;rw[gr];exact q)
noncomputable abbrev wX (P:Program) (w:World) (K:Frag) (mg:Str->Option Value) (base:Heap) (f:Addr) (cdv:Value) (A:Around) (outer:List Env) (s:Shared) (H:Hp) (E:XK):Cx:=vy P w K mg base Jj "_law_classes" (aJ pJ) f cdv A outer s H E
section
variable{s0:Shared}{H0:Hp}{E0:XK}
def tI (K:Frag) (c:Nat->Addr) (x:Option Value) (js:List (Nat×Str)):TA:=fun σ H Q=>∃a i,σ[0]? = some (some (.ref a))/\oO K c H x a i/\Q (js.map fun p=>.bl (decide (i=p.1))) H
theorem glC:∀p∈eY,(aJ pJ).names.lookup p.2=some .globalImplicit/\(p.2==("__debug__" : Str))=false/\p.1 < 16:=by decide +kernel
theorem ZY (B2:gN mg) (T:vT K mg c) {p:Nat×Str} (hp:p∈eY) (h:Hl p.2 e=true) :
  PE (wX P w K mg base f cdv A outer s0 H0 E0) e (fun σ H Q=>∃a i,σ[0]? = some (some (.ref a))/\oO K c H A.handled a i/\Q (.bl (decide (i=p.1))) H) /\ ∀es,starEach (e::es) (wX P w K mg base f cdv A outer s0 H0 E0).env=(false,eval e (wX P w K mg base f cdv A outer s0 H0 E0).env)::starEach es (wX P w K mg base f cdv A outer s0 H0 E0).env:=by
 unfold Hl at h;split at h
 ·rename_i g p0 y p1 z p2 p3
  simp only[o6,eW]at h;obtain⟨⟨rfl,rfl⟩,rfl⟩:=h;obtain⟨hg,hd,lt⟩:=glC p hp;have h0:PE (wX P w K mg base f cdv A outer s0 H0 E0) (.Call (.Name "isinstance" p0) [.Name "_law_e" p1,.Name p.2 p2] [] p3) _:=aZ AO rfl B2.ji i9 (af (pv 0) (af (Bd (v:= .ref (c p.1)) hg (T.n p hp) rfl hd) ai));exact⟨fun pins s σ H Q I ⟨a,i,e,ct,q⟩=>h0 pins s σ H Q I ⟨_,e,acP T ct lt q⟩,fun es=>rfl⟩
 ·cases h
theorem x9 (B2:gN mg) (T:vT K mg c):∀ {js:List (Nat×Str)}{es:List Expr},vV js es=true->(∀p∈js,p∈eY)->PA (wX P w K mg base f cdv A outer s0 H0 E0) es (tI K c A.handled js)
 |[],[],_,_=>fun pos pins s σ H Q I ⟨a,i,e,ct,q⟩=>ai pos pins s σ H Q I q
 |[],_::_,h,_=>by cases h
 |_::_,[],h,_=>by cases h
 |p::js,e::es,h,hj=>by
  obtain⟨h1,h2⟩:=qI.mp h;obtain⟨he,hs⟩:=ZY (P:=P) (w:=w) (base:=base) (f:=f) (cdv:=cdv) (A:=A) (outer:=outer) (s0:=s0) (H0:=H0) (E0:=E0) B2 T (hj p bj) h1;have hr:=x9 B2 T h2 fun q hq=>hj q (cp _ hq);refine fun pos pins s σ H Q I ⟨a,i,e,ct,q⟩=>af he hr (hs es) pos pins s σ H Q I ⟨a,i,e,ct,?_⟩;exact⟨a,i,e,ct,q⟩
abbrev jM (i:Nat) (js:List (Nat×Str)):List V:=js.map fun p=>.bl (decide (i=p.1))
theorem Br {xs:List V} (hl:H1 l=some (.lst xs)) (z:xs.length+ys.length<=40) (S:aq H H1) (h2:H1 l2=none) (k:∀l3 H3,aq H H3->H3 l3=some (.lst (xs++ys))->H l3=none->Q (.ref l3) H3):O1 (.ref l) (.ref l2) (upd H1 l2 (.lst ys)) Q:=
 ⟨l,l2,xs,ys,rfl,rfl,by rw[ah (ao hl h2)];exact hl,ag,by rw[aN];omega,fun p hp=>k p _ (S.trans ((ay h2).trans (ay hp))) ag (S.free ((ay h2).free hp))⟩
theorem aa2 (F:aW K "_law_classes" "_law_classes" pJ f fd) (B2:gN mg) (bz:mg "zip" = none) (T:vT K mg c):yj P w K mg base 1 f fd ["_law_e"] (vU K c):=by
 refine F.QC tJ (fun x vs H Q E h=>?_) (fun cdv A outer s H vs Q E hr h=>?_)
 ·unfold vU at h;obtain⟨a,i,rfl,_⟩:=h;rfl
 ·unfold vU at h
  obtain⟨a,i,rfl,ct,q⟩:=h;have in4:∀k,∀p∈(eY.drop k).take 4,p∈eY:=fun k p hp=>DA (K4 hp);rw[bdC];refine⟨_,aD (bq (i:=1) tJ.nd rfl (Or.inl rfl) (cX (x9 B2 T ch0 (in4 0))))
   (aD (bq (i:=1) tJ.nd rfl (Or.inl rfl) (c8 pO (pv 1) (cX (x9 B2 T ch1 (in4 4)))))
   (aD (bq (i:=1) tJ.nd rfl (Or.inl rfl) (c8 pO (pv 1) (cX (x9 B2 T ch2 (in4 8)))))
   (aD (bq (i:=1) tJ.nd rfl (Or.inl rfl) (c8 pO (pv 1) (cX (x9 B2 T ch3 (in4 12)))))
   (aD (ig (jc kh qM qN lK (pv 1) (af (Zh (aZ AO rfl B2.ji i9 (af (pv 0) (af (ko (v:= .ty "ValueError") rfl T.ve Y9 rfl) ai)))) ai)))
   (aD (bq (i:=2) tJ.nd rfl (Or.inl rfl) (cX (M6 chA)))
   (aD (bq (i:=2) tJ.nd rfl (Or.inl rfl) (c8 pO (pv 2) (cX (M6 chB))))
   (aK (bf (XQ Hk (YL rfl bz (af (pv 2) (af (pv 1) ai))) (fun s H fp=>⟨YK (n:=2) (K:=K) (hv:=A.handled) rfl rfl (eF (aX (i:=0) Hk.nd rfl (Or.inl rfl)) (eF (aX (i:=1) Hk.nd rfl (Or.inl rfl)) kq)),my (eT (pv 1)),pv 0⟩)))))))))),?_⟩
  have sz:∀n:Nat,n<=100->n<=sizeLine:=fun n h=>by rw[aN];omega
  refine⟨a,i,rfl,ct,sz 4 (by decide),fun l1 h1=>?_⟩
  have S1:=ay (o:= .lst (jM i (eY.take 4))) h1;have e1:upd H l1 (.lst (jM i (eY.take 4))) l1=_:=ag;generalize upd H l1 (.lst (jM i (eY.take 4)))=H1 at S1 e1 ⊢;refine⟨_,rfl,a,i,rfl,ct.same S1,sz 4 (by decide),fun l2 h2=>Br e1 (by show 8<=40;decide) S1 h2 fun l3 H3 S3 e3 _=>?_⟩
  refine⟨_,rfl,a,i,rfl,ct.same S3,sz 4 (by decide),fun l4 h4=>Br e3 (by show 12<=40;decide) S3 h4 fun l5 H5 S5 e5 _=>?_⟩
  refine⟨_,rfl,a,i,rfl,ct.same S5,sz 4 (by decide),fun l6 h6=>Br e5 (by show 16<=40;decide) S5 h6 fun l7 H7 S7 e7 hn7=>?_⟩
  refine⟨_,rfl,.inl ⟨rfl,_,aj.of e7⟩,_,rfl,?_⟩;obtain⟨nn,dx,eo,rr⟩:=(ct.same S7).ob;refine⟨a,nn,c i,dx,.ty "ValueError",.type "ValueError",true,rfl,.inr ⟨_,rfl,rfl⟩,eo,ct.cl,rr,T.v i ct.it,true,rfl,l7,_,_,rfl,rfl,e7,sz 17 (by decide),?_⟩
  have e8:upd H7 l7 (.lst (jM i (eY.take 4)++jM i ((eY.drop 4).take 4)++jM i ((eY.drop 8).take 4)++jM i ((eY.drop 12).take 4) ++ [.bl (!true)])) l7=some (.lst ((x8 i).map V.bl)):=ag;have S8:aq H (upd H7 l7 (.lst (jM i (eY.take 4)++jM i ((eY.drop 4).take 4)++jM i ((eY.drop 8).take 4)++jM i ((eY.drop 12).take 4) ++ [.bl (!true)]))):=fun b o hb=>by rw[ah (ao hb hn7)];exact S7 _ _ hb
  generalize upd H7 l7 (.lst (jM i (eY.take 4)++jM i ((eY.drop 4).take 4)++jM i ((eY.drop 8).take 4)++jM i ((eY.drop 12).take 4) ++ [.bl (!true)]))=H8 at e8 S8 ⊢;refine⟨sz 12 (by decide),fun l9 h9=>?_⟩
  have S9:=ay (o:= .lst ((jy.take 12).map V.str)) h9;have e9:upd H8 l9 (.lst ((jy.take 12).map V.str)) l9=_:=ag;generalize upd H8 l9 (.lst ((jy.take 12).map V.str))=H9 at S9 e9 ⊢;refine⟨_,rfl,sz 5 (by decide),fun l10 Cj=>Br e9 (by show 17<=40;decide) S9 Cj fun l11 HN RC t4 _=>?_⟩
  have ew:(jy.take 12).map V.str++(jy.drop 12).map V.str=jy.map V.str:=by rw[<-a8,akh]
  rw[ew]at t4;have Cm:=RC _ _ e8;have Jk:=S8.trans RC;refine⟨_,rfl,_,rfl,l11,l7,rfl,⟨_,aj.of t4⟩,⟨_,aj.of Cm⟩,fun p hp=>?_⟩;refine WX (xs:=jy.map V.str) (ys:=(x8 i).map V.bl) 17 rfl (aR 17) (fun n zs τ H1=>∃t0 t1:Option V,τ = [t0,t1]/\zs=(picked i n).map V.str/\aq HN H1/\H1 p=some (.lst zs)) ⟨none,none,rfl,rfl,ay hp,ag⟩ (fun n zs τ H1 hQ9=>by obtain⟨_,_,_,_,z1,z2⟩:=hQ9;exact ⟨z2,aj.of (z1 _ _ t4),aj.of (z1 _ _ Cm),(ct.tl.same Jk).same z1⟩) ?_ ?_
  ·rintro n x y zs τ H1 t hx hy ⟨t0,t1,rfl,rfl,Jl,zT⟩ ht
   have hl:n < 17:=(cR.mp hx).1;have hw:∃wd,jy[n]? = some wd/\x = .str wd:=by
    rw[eX]at hx;obtain⟨wd,h1,h2⟩:=ib.mp hx;exact⟨wd,h1,h2.symm⟩
   have hb:∃b,(x8 i)[n]? = some b/\y = .bl b:=by
    rw[eX]at hy;obtain⟨b,h1,h2⟩:=ib.mp hy;exact⟨b,h1,h2.symm⟩
   obtain⟨wd,hw,rfl⟩:=hw;obtain⟨b,hb,rfl⟩:=hb;have ep:picked i (n+1)=picked i n++if b=true then [wd] else []:=by
    unfold picked;rw[gu,akt (z:=(wd,b)) |>.mpr ⟨hw,hb⟩,List.filterMap_append];cases b <;> rfl
   have lp:(picked i n).length<=17:=by
    have h1:(picked i n).length<=((jy.zip (x8 i)).take n).length:=T' _ _;rw[dJ]at h1;omega
   have St:=Jl.trans (ay (o:= .tup [V.str wd,.bl b]) ht);refine⟨t,_,rfl,aC.of ag,rfl,(ct.tl.same Jk).same St,_,_,rfl,_,_,rfl,rfl,?_⟩;refine⟨_,rfl,b,rfl,?_⟩;have RE:upd H1 t (.tup [V.str wd,.bl b]) p=some (.lst ((picked i n).map V.str)):=by rw[ah (ao zT ht)];exact zT
   cases b with
   |true =>
    refine⟨_,rfl,RE,by rw[aA,aN];omega,cw_next hl ⟨_,_,rfl,?_,fun b o hb=>?_,ag⟩⟩
    ·rw[ep,a8];rfl
    ·rw[ah (ao hb hp)];exact St _ _ hb
   |false=>exact cw_next hl ⟨_,_,rfl,by rw[ep];simp,St,RE⟩
  ·rintro zs τ H1 ⟨t0,t1,rfl,rfl,Jl,zT⟩
   rw[Wj i (by rcases ct.it with rfl|rfl <;> decide)]at zT
   exact q p H1 (Jk.trans Jl) zT
end
end
structure wY (aa:List (Str×List Str)) (L:Str->List Str):Prop where
 mem:∀p∈aa,∀y,y∈L p.1 ↔ y=p.1 \/ ∃x∈p.2,y∈L x
 len:∀p∈aa,∀x∈p.2,(L x).length < (L p.1).length
 le8:∀p∈aa,(L p.1).length<=8
 lB:∀p∈aa,∀y∈L p.1,∃q∈aa,q.1=y
theorem Fm.lnP (F:Fm ks L Ps) (h8:ks.length<=8):wY (cH Ps ks) L:=by
 have mem:∀ {p:Str×List Str},p∈cH Ps ks->p.1∈ks/\p.2=Ps p.1:=fun {p} hp=>by
  obtain⟨x,hx,rfl⟩:=aU.mp hp;exact⟨hx,rfl⟩
 have self:∀x∈ks,x∈L x:=fun x hx=>by obtain⟨o,_,e⟩:=F.ln x hx;rw[e];exact bj
 refine⟨fun p hp y=>?_,fun p hp x hx=>?_,fun p hp=>?_,fun p hp y hy=>?_⟩
 ·obtain⟨h1,h2⟩:=mem hp
  rw[h2];obtain⟨o,hm,hL⟩:=F.ln _ h1;obtain⟨n1,n2,n3⟩:=F.ps _ h1;obtain⟨⟨_,s2⟩,_⟩:=sound _ _ rfl (fun r hr=>(F.sR n1 n3 r hr).1) o hm;rw[hL,aY,s2]
  constructor
  ·rintro(h|⟨r,hr,hy⟩)
   ·exact .inl h
   ·rcases lJ.mp hr with⟨z,hz,rfl⟩|rfl
    ·exact .inr ⟨z,hz,hy⟩
    ·exact .inr ⟨y,hy,self y (n3 y hy)⟩
  ·rintro(h|⟨z,hz,hy⟩)
   ·exact .inl h
   ·exact .inr ⟨L z,lJ.mpr (.inl ⟨z,hz,rfl⟩),hy⟩
 ·obtain⟨h1,h2⟩:=mem hp
  rw[h2]at hx;obtain⟨o,hm,hL⟩:=F.ln _ h1;obtain⟨n1,_,n3⟩:=F.ps _ h1;obtain⟨_,_,h5⟩:=F.order n1 n3 hm;have:=len_sub (F.ld x (n3 x hx)).1 fun y hy=>h5 (L x) (lJ.mpr (.inl ⟨x,hx,rfl⟩)) y hy;rw[hL,eN];omega
 ·obtain⟨h1,h2⟩:=mem hp
  exact dG (len_sub (F.ld _ h1).1 (F.ld _ h1).2) h8
 ·obtain⟨h1,h2⟩:=mem hp
  exact⟨(y,Ps y),aU.mpr ⟨y,(F.ld _ h1).2 y hy,rfl⟩,rfl⟩
theorem wY.trans (h:wY aa L) (up:∀p∈aa,∀x∈p.2,∃q∈aa,q.1=x):∀ (n:Nat) (p:Str×List Str),p∈aa->(L p.1).length=n -> ∀y∈L p.1,∀z∈L y,z∈L p.1:=by
 intro n
 induction n using Nat.strongRecOn with
 |_ n ih =>
  intro p hp e y hy z hz;rcases (h.mem p hp y).mp hy with rfl|⟨x,hx,zU⟩
  ·exact hz
  ·obtain⟨q,hq,rfl⟩:=up p hp x hx
   have:=ih _ (by have:=h.len p hp q.1 hx;omega) q hq rfl y zU z hz
   exact(h.mem p hp z).mpr (.inr ⟨_,hx,this⟩)
theorem wY.closed (h:wY aa L) {F:List Str} (cl:∀p∈aa,p.1∈F -> ∀x∈p.2,x∈F) (up:∀p∈aa,∀x∈p.2,∃q∈aa,q.1=x):∀ (n:Nat) (p:Str×List Str),p∈aa->(L p.1).length=n->p.1∈F -> ∀y∈L p.1,y∈F:=by
 intro n
 induction n using Nat.strongRecOn with
 |_ n ih =>
  intro p hp e hF y hy;rcases (h.mem p hp y).mp hy with rfl|⟨x,hx,zU⟩
  ·exact hF
  ·obtain⟨q,hq,rfl⟩:=up p hp x hx
   exact ih _ (by have:=h.len p hp q.1 hx;omega) q hq rfl (cl p hp hF _ hx) y zU
theorem X7 (F:Fm ks L Ps):∀p∈cH Ps ks,∀x∈p.2,∃q∈cH Ps ks,q.1=x:=fun p hp x hx=>by
 obtain⟨y,hy,rfl⟩:=aU.mp hp;exact⟨(x,Ps x),aU.mpr ⟨x,(F.ps y hy).2.2 x hx,rfl⟩,rfl⟩
theorem qQ (h:x∈ks):(x,Ps x)∈cH Ps ks:=aU.mpr ⟨x,h,rfl⟩
theorem Fm.famSt (F:Fm ks L Ps) (nd:ks.Nodup) (nm:∀x∈ks,Nm x) (h8:ks.length<=8) {aa:aM} (pm:aa.Perm (cH Ps ks)):cw aa:=by
 refine cw.perm ⟨by rw[AI];exact nd,by unfold cH;rw[aA];omega,fun p hp=>?_,X7 F,fun p hp=>?_,fun p hp=>?_⟩ pm
 ·obtain⟨x,hx,rfl⟩:=aU.mp hp;exact nm x hx
 ·obtain⟨x,hx,rfl⟩:=aU.mp hp;exact(F.ps x hx).2.1
 ·obtain⟨x,hx,rfl⟩:=aU.mp hp;exact(F.ps x hx).1
theorem Fm.has (F:Fm ks L Ps) (h8:ks.length<=8) {S:Str->Prop}{aa:aM} (h:∀x∈ks,S x->(x,Ps x)∈aa /\ ∀y∈Ps x,S y):∀x∈ks,S x->cD aa x (L x):=by
 have lp:=F.lnP h8;have key:∀n,∀x∈ks,S x->(L x).length=n->cD aa x (L x):=by
  intro n
  induction n using Nat.strongRecOn with
  |_ n ih =>
   intro x hx sx e;obtain⟨o,hg,hL⟩:=F.ln x hx;obtain⟨h1,h2⟩:=h x hx sx;have ln:∀y∈Ps x,(L y).length < (L x).length:=lp.len _ (qQ hx);rw[hL];exact .mk h1 (fun y hy=>ih _ (by rw[<-e];exact ln y hy) y ((F.ps x hx).2.2 y hy) (h2 y hy) rfl) hg
 exact fun x hx sx=>key _ x hx sx rfl
theorem Fm.acR (F:Fm ks L Ps) (h8:ks.length<=8) {aa:aM} (pm:aa.Perm (cH Ps ks)):∀x∈ks,cD aa x (L x):=fun x hx=>F.has h8 (S:=fun _=>True) (fun y hy _=>⟨pm.mem_iff.mpr (qQ hy),fun _ _=>True.intro⟩) x hx True.intro
theorem X8 {aa:aM} (fr:tE aa) (rk:Str->Nat) (h:∀p∈aa,∀x∈p.2,rk x < rk p.1 /\ ∃q∈aa,q.1=x):eu aa:=by
 have key:∀n,∀p∈aa,rk p.1=n->Ln aa p.1:=by
  intro n
  induction n using Nat.strongRecOn with
  |_ n ih =>
   intro p hp e;refine fr p hp fun x hx=>?_;obtain⟨lt,q,hq,rfl⟩:=h p hp x hx;exact ih _ (by omega) q hq rfl
 exact fun p hp=>key _ p hp rfl
theorem W9 {a b:Str} (h:iA a b=true) (h':iA b a=true):False:=by
 have:=N0 h h';rw[AY]at this;cases this
theorem Oc:∀ {a b:aM},iN a->iN b->a.Perm b->a=b
 |[],b,_,_,p=>p.nil_eq
 |x::a,[],_,_,p=>absurd p.length_eq (by simp)
 |x::a,y::b,sa,sb,p=>by
  unfold iN at sa sb;rw[cz,List.pairwise_cons]at sa sb;have hx:=p.mem_iff.mp (bj (a:=x) (l:=a));have hy:=p.mem_iff.mpr (bj (a:=y) (l:=b));have e:x=y:=by
   rcases aY.mp hx with z|z
   ·exact z
   ·rcases aY.mp hy with z'|z'
    ·exact z'.symm
    ·exact(W9 (sb.1 _ (aU.mpr ⟨x,z,rfl⟩)) (sa.1 _ (aU.mpr ⟨y,z',rfl⟩))).elim
  subst e;rw[Oc sa.2 sb.2 (List.Perm.cons_inv p)]
structure kB (H:Hp) (ks:List Str) (t d:Addr) (kvs:List (Key×V)) (L Ps:Str->List Str) (aa:aM):Prop where
 fv:∃ws,H t=some (.tup ws)/\cj H ws aa
 pm:aa.Perm (cH Ps ks)
 fm:Fm ks L Ps
 nd:ks.Nodup
 nm:∀x∈ks,Nm x
 k8:ks.length<=8
 hd:H d=some (.dK kvs)
 hk:kvs.map (·.1)=ks.map Sum.inr
 pl:∀x∈ks,dq H kvs Ps x
 so:iN aa
section
variable{aa:aM}
theorem kB.st (R:kB H ks t d kvs L Ps aa):cw aa:=R.fm.famSt R.nd R.nm R.k8 R.pm
theorem kB.fa (R:kB H ks t d kvs L Ps aa):FA H t aa:=⟨R.st,R.fv⟩
theorem kB.mem (R:kB H ks t d kvs L Ps aa) {p:Str×List Str}:p∈aa ↔ p.1∈ks/\p.2=Ps p.1:=by
 rw[R.pm.mem_iff]
 constructor
 ·intro h
  obtain⟨x,hx,rfl⟩:=aU.mp h;exact⟨hx,rfl⟩
 ·rintro⟨h1,h2⟩
  exact aU.mpr ⟨p.1,h1,by rw[<-h2]⟩
theorem kB.has (R:kB H ks t d kvs L Ps aa) (hx:x∈ks):cD aa x (L x):=R.fm.acR R.k8 R.pm x hx
theorem kB.all (R:kB H ks t d kvs L Ps aa):eu aa:=fun p hp=>(R.has (R.mem.mp hp).1).ln R.st
end
def pairD (p:Str×List Str):PyData:= .tuple [.str p.1,.tuple (p.2.map PyData.str)]
theorem Fj {H:Hp}:∀ {ws:List V}{aa:aM},cj H ws aa->ik H ws (aa.map pairD)
 |_,_,.nil=>.nil
 |_,_,.cons ⟨a,b,e,q,r⟩ t=>by
  subst e;exact .cons (.tup q (.cons (.str _) (.cons (.tup r (lO H _)) .nil))) (Fj t)
theorem Fl {aa:aM} (st:cw aa):(PyData.tuple (aa.map pairD)).canLay0=true:=by
 have key:∀l:aM,(∀p∈l,p∈aa)->PyData.canLayAll0 (l.map pairD)=true:=by
  intro l
  induction l with
  |nil=>intro _;rfl
  |cons p l ih =>
   intro h;have hp:=h p bj;have h1:(PyData.tuple ([p.1].map PyData.str)).canLay0=true:=jT (xs:= [p.1]) fun x hx=>by rw[ff.mp hx];exact st.nm p hp
   have h2:(PyData.tuple (p.2.map PyData.str)).canLay0=true:=jT fun x hx=>by
    obtain⟨q,hq,rfl⟩:=st.up p hp x hx;exact st.nm q hq
   have h3:=ih fun q hq=>h q (cp _ hq);simp only[PyData.canLay0,PyData.canLayAll0,cz,Kq,Ax,pairD]at h1 h2 h3 ⊢;rw[h1,h2];simpa using h3
 exact key aa fun _ h=>h
theorem W' (aa:aM):(PyData.tuple (aa.map pairD)).depth<=60:=by
 have key:∀l:aM,PyData.depthAll (l.map pairD)<=3:=by
  intro l
  induction l with
  |nil=>exact bG _
  |cons p l ih =>
   have h2:PyData.depthAll (p.2.map PyData.str)=0:=pE _;simp only[cz,PyData.depthAll,pairD,PyData.depth]at ih ⊢;rw[h2];omega
 have:=key aa;simp only[PyData.depth];omega
theorem ZZ {t':Addr}{aa:aM} (h:FA H t aa) (h':FA H t' aa) (q:Q (.bl false) H):BE (.ref t) (.ref t') H Q:=by
 obtain⟨st,ws,e,fv⟩:=h;obtain⟨_,iK,e',fv'⟩:=h';refine⟨_,_,.tup e (Fj fv),.tup e' (Fj fv'),Fl st,Fl st,W' aa,?_⟩;rw[DC _ (Fl st)];exact q
theorem NP (ha:H a=some (.tup (xs.map V.str))) (hb:H b=some (.tup (xs.map V.str))) (h1:∀x∈xs,Nm x) (q:Q (.bl false) H):BE (.ref a) (.ref b) H Q:=by
 refine⟨.tuple (xs.map PyData.str),.tuple (xs.map PyData.str),.tup ha (lO _ xs),.tup hb (lO _ xs),jT h1,jT h1,by show PyData.depthAll _+1<=60;rw[pE];decide,?_⟩
 rw[DC (.tuple (xs.map PyData.str)) (jT h1)];exact q
theorem Y' (ha:H a=some (.lst (xs.map V.str))) (hb:H b=some (.lst (xs.map V.str))) (h1:∀x∈xs,Nm x) (q:Q (.bl true) H):Gs (.ref a) (.ref b) H Q:=by
 refine⟨.list (xs.map PyData.str),.list (xs.map PyData.str),.lst ha (lO _ xs),.lst hb (lO _ xs),jT h1,jT h1,by show PyData.depthAll _+1<=60;rw[pE];decide,?_⟩
 rw[DC (.list (xs.map PyData.str)) (jT h1)];exact q
theorem boot_int:bootBuiltins "int" = some (.type "int"):=by decide +kernel
theorem boot_bool:bootBuiltins "bool" = some (.type "bool"):=by decide +kernel
theorem fX.get {H:Hp}:∀ {vs:List V}{W:List Wi}{i:Nat}{v:V},fX H vs W->vs[i]? = some v -> ∃a w,v=V.ref a/\W[i]? = some w/\H a=some (.tup [.int w.1,.str w.2.1,.str w.2.2])
 |_,_,i,v,.nil,h=>by simp at h
 |_,_,0,v,.cons (b:=b) ⟨a,e,q⟩ r,h=>by
  have:v=V.ref a:=by rw[<-e];simpa using h.symm
  exact⟨a,b,this,rfl,q⟩
 |_,_,i+1,v,.cons _ r,h=>by
  obtain⟨a,w,e,q,z⟩:=fX.get r (by simpa using h:_=some v)
  exact⟨a,w,e,by simpa using q,z⟩
theorem fX.length {W:List Wi} (h:fX H vs W):vs.length=W.length:=mj h
theorem LQ {n:Str} (h:nY rows (i,x,n)):∃r,rows[i]? = some r/\x∈r/\n∈r /\ ∃j j2:Nat,r[j]? = some x/\(∀m:Nat,m < j->r[m]? ≠ some x)/\r[j2]? = some n/\(∀m:Nat,m < j2->r[m]? ≠ some n)/\j < j2:=by
 obtain⟨pre,post,h0,h1,h2,h3,h4⟩:=h;have hn:n∈pre++x::post:=by simp[show n∈post from h1]
 obtain⟨j2,uo,Hm⟩:=EK hn;refine⟨_,h0,by simp,hn,pre.length,j2,by simp,fun m hm=>?_,uo,Hm,?_⟩
 ·rw[Af hm]
  intro z;exact h2 (ia z)
 ·by_cases z:pre.length < j2
  ·exact z
  ·by_cases e:j2=pre.length
   ·rw[e]at uo
    have:x=n:=by simpa using uo
    exact absurd this h4
   ·rw[Af (by omega)]at uo
    exact absurd (ia uo) h3
@[irreducible] noncomputable def vW:Sp:=fun vs H Q _=>∃ (l a:Addr) (ws:List V) (rows:List (List Str)) (w:Wi),vs = [.ref l,.ref a]/\H l=some (.lst ws)/\dj (fun _=>True) H ws rows/\H a=some (.tup [.int w.1,.str w.2.1,.str w.2.2])/\nY rows w/\Q (.bl true) H
theorem aa3 {w:Wi} (hl:H l=some (.lst ws)) (hR:dj (fun _=>True) H ws rows) (ha:H a=some (.tup [.int w.1,.str w.2.1,.str w.2.2])) (hw:nY rows w) (q:Q (.bl true) H):vW [.ref l,.ref a] H Q E:=by
 unfold vW;exact⟨l,a,ws,rows,w,rfl,hl,hR,ha,hw,q⟩
noncomputable abbrev nLW:List Str:= ["_law_rows","_law_wish","_law_k","_law_a","_law_b"]
theorem BI:b6 nLW ["_law_rows","_law_wish"] (aJ Fw):=cF (by decide +kernel)
theorem aa4 (F:aW K "_law_is_wish" "_law_is_wish" Fw f fd) (B:dB mg) (B2:gN mg) (bi:mg "int" = none) (bb:mg "bool" = none):aI P w K mg base aQ 1 f fd ["_law_rows","_law_wish"] vW:=by
 refine F.ok BI (fun vs H Q E h=>?_) (fun cdv A outer s H vs Q E hr h=>?_)
 ·unfold vW at h;obtain⟨l,a,ws,rows,w,rfl,_⟩:=h;rfl
 ·unfold vW at h
  obtain⟨l,a,ws,rows,⟨i,x,n⟩,rfl,hl,hR,ha,hw,q⟩:=h;refine⟨_,aD (cQ (PW.pt (pw_or (gx (eT (aZ lL rfl B2.ji i9 (af (pv 1) (af (ko (v:= .ty "tuple") rfl B.tuple boot_tuple rfl) ai)))))
     (pw_or (cy sX (aZ i7 rfl B.len gW (af (pv 1) ai)) aP (cI _))
     (pw_or (eT (aZ lL rfl B2.ji i9 (af (cf lR (pv 1) aP (fun _ _=>rfl)) (af (ko (v:= .ty "bool") rfl bb boot_bool rfl) ai))))
     (pw_or1 (gx (eT (aZ lL rfl B2.ji i9 (af (cf lR (pv 1) aP (fun _ _=>rfl)) (af (ko (v:= .ty "int") rfl bi boot_int rfl) ai)))))))))) (aK (bf gX)) cU)
   (aD (qV (pv 1) (pN rfl (eF (aX (i:=2) BI.nd rfl (Or.inl rfl)) (eF (aX (i:=3) BI.nd rfl (Or.inl rfl)) (eF (aX (i:=4) BI.nd rfl (Or.inl rfl)) kq)))))
   (aD (cQ (PW.pt (pw_or (cy ye (pv 2) aP (cI _))
     (pw_or (cy aad (pv 2) (aZ i7 rfl B.len gW (af (pv 0) ai)) (cI _))
     (pw_or (cy qO (pv 3) (cf eQ (pv 0) (pv 2) (fun _ _=>rfl)) rfl)
     (pw_or1 (cy qO (pv 4) (cf eQ (pv 0) (pv 2) (fun _ _=>rfl)) rfl)))))) (aK (bf gX)) cU)
   (aK (bf (lP ye (jc kh UX UY Ez (cf eQ (pv 0) (pv 2) (fun _ _=>rfl)) (af (pv 3) ai))
     (jc kh UX UY Ez (cf eQ (pv 0) (pv 2) (fun _ _=>rfl)) (af (pv 4) ai)) (cI _)))))),?_⟩
  obtain⟨r,eK,qw,IG,j,j2,hj,gZ,uo,Hm,hjj⟩:=LQ hw;have eJ:i < rows.length:=(cR.mp eK).1;have qh:ws.length=rows.length:=mj hR;obtain⟨v,hv⟩:∃v,ws[i]? = some v:=⟨ws[i]'(by omega),cP _⟩
  obtain⟨b,r',rfl,ix,_,hb⟩:=sC hR hv;rw[eK]at ix;cases ix;have ha:H a=some (.tup [.int i,.str x,.str n]):=ha;have PZ:cC [V.int i,.str x,.str n] 0=some (V.int i):=(show cC [V.int i,.str x,.str n] ((0:Nat):Int)=some (V.int i) from eG rfl);have BJ:cC ws (i:Int)=some (.ref b):=eG hv;refine⟨_,rfl,⟨_,.inr ⟨"tuple",rfl⟩⟩,.ref a,.ty "tuple",.type "tuple",.type "tuple",true,rfl,rfl,.inl (.tup ha),rfl,true,rfl,?_⟩;refine⟨_,rfl,a,_,rfl,.inr (aC.of ha),rfl,_,rfl,?_⟩;refine⟨_,rfl,a,_,0,.int i,rfl,rfl,aC.of ha,PZ,⟨_,.inr ⟨"bool",rfl⟩⟩,.int i,.ty "bool",.type "int",.type "bool",false,rfl,rfl,.inl (.int _),rfl,false,rfl,?_⟩;refine⟨_,rfl,a,_,0,.int i,rfl,rfl,aC.of ha,PZ,⟨_,.inr ⟨"int",rfl⟩⟩,.int i,.ty "int",.type "int",.type "int",true,rfl,rfl,.inl (.int _),rfl,true,rfl,?_⟩;refine⟨_,rfl,a,_,rfl,aC.of ha,rfl,_,_,rfl,_,_,rfl,_,_,rfl,rfl,?_⟩;refine⟨_,rfl,i,0,rfl,rfl,_,rfl,?_⟩;rw[show decide ((i:Int) < 0)=false from jN (by omega)]
  refine⟨_,rfl,_,rfl,l,_,rfl,.inl (aj.of hl),i,ws.length,rfl,rfl,_,rfl,?_⟩;rw[show decide ((ws.length:Int)<=(i:Int))=false from jN (by omega)]
  refine⟨_,rfl,_,rfl,_,rfl,l,ws,i,.ref b,rfl,rfl,aj.of hl,BJ,b,_,rfl,.inl (aj.of hb),rfl,i8 _,_,rfl,?_⟩;rw[aB rfl,jR,gI qw];refine⟨_,rfl,_,rfl,_,rfl,l,ws,i,.ref b,rfl,rfl,aj.of hl,BJ,b,_,rfl,.inl (aj.of hb),rfl,i8 _,_,rfl,?_⟩;rw[aB rfl,jR,gI IG];refine⟨_,rfl,_,rfl,l,ws,i,.ref b,rfl,rfl,aj.of hl,BJ,.inl ⟨rfl,_,aj.of hb⟩,_,rfl,b,r,x,j,rfl,rfl,hb,hj,gZ,?_⟩;refine⟨_,rfl,_,rfl,l,ws,i,.ref b,rfl,rfl,aj.of hl,BJ,.inl ⟨rfl,_,aj.of hb⟩,_,rfl,b,r,n,j2,rfl,rfl,hb,uo,Hm,j,j2,rfl,rfl,?_⟩;show Q (.bl (decide ((j:Int) < (j2:Int)))) H;rw[show decide ((j:Int) < (j2:Int))=true from gI (by omega)]
  exact q
def acS (e:Expr):Expr:=match e with|.Compare a _ _ _=>a|_=>.Constant .none 0 ⟨0,0,0,0⟩
@[irreducible] noncomputable def vE:Sp:=fun vs H Q _=>∃ (l p:Addr) (ws us:List V) (rows:List (List Str)) (W:List Wi),vs = [.ref l,.ref p]/\H l=some (.lst ws)/\dj (fun _=>True) H ws rows/\(∀r∈rows,∀x∈r,Nm x)/\H p=some (.tup us)/\fX H us W/\mG (nY rows) 10 W /\ ∀H',aq H H'->Q (.bl true) H'
theorem Z0 {us:List V}{W:List Wi} (hl:H l=some (.lst ws)) (hR:dj (fun _=>True) H ws rows) (nm:∀r∈rows,∀x∈r,Nm x) (hp:H p=some (.tup us)) (hW:fX H us W) (hr:mG (nY rows) 10 W) (q:∀H',aq H H'->Q (.bl true) H'):vE [.ref l,.ref p] H Q E:=by
 unfold vE;exact⟨l,p,ws,us,rows,W,rfl,hl,hR,nm,hp,hW,hr,q⟩
noncomputable abbrev CU:List Str:= ["_law_rows","_law_ring","_law_begins"]
theorem P2:b6 CU ["_law_rows","_law_ring"] (aJ pR):=cF (by decide +kernel)
noncomputable abbrev eG1:Expr:=fG (tx (vm (qY (cb (b9 pR) 0)) 2))
noncomputable abbrev eG2:Expr:=fB (cb (b9 pR) 1)
noncomputable abbrev eG3:Expr:=acS (vm (tw (cb (b9 pR) 2)) 0)
theorem P4:bX CU (aJ pR) ["_law_wish","_law_rows"] [none,some 0] (cE eG1):=c9 (by decide +kernel)
theorem P6:bX CU (aJ pR) ["_law_wish"] [none] (cE eG2):=c9 (by decide +kernel)
theorem P7:bX CU (aJ pR) ["_law_wish"] [none] (cE eG3):=c9 (by decide +kernel)
theorem Z1 (F:aW K "_law_is_ring" "_law_is_ring" pR f fd) (B:dB mg) (B2:gN mg) (bs:mg "set" = none) (GI:aI P w K mg base aQ 1 fI dI ["_law_rows","_law_wish"] vW) (kI:keepIn K (.ref fI)=true) (bI:Binds K dI ["_law_rows","_law_wish"] []) (mI:mg "_law_is_wish" = some (.ref fI)) :
  aI P w K mg base aQ 2 f fd ["_law_rows","_law_ring"] vE:=by
 refine F.ok P2 (fun vs H Q E h=>?_) (fun cdv A outer s H vs Q E hr h=>?_)
 ·unfold vE at h;obtain⟨l,p,ws,us,rows,W,rfl,_⟩:=h;rfl
 ·unfold vE at h
  obtain⟨l,p,ws,us,rows,W,rfl,hl,hR,nm,hp,hW,rp,q⟩:=h;have hu:=hr.units;have cK:a7 1 _:=hr;refine⟨_,aD (cQ (PW.pt (pw_or (gx (eT (aZ lL rfl B2.ji i9 (af (pv 1) (af (ko (v:= .ty "tuple") rfl B.tuple boot_tuple rfl) ai)))))
    (pw_or (cy ye (aZ i7 rfl B.len gW (af (pv 1) ai)) aP (cI _))
    (pw_or1 (gx (eT (aZ (nR rfl) rfl B.all boot_all (af (d4 rfl P4 (jU (pv 1)) (fun s H fp=>⟨aX (i:=0) P4.nd rfl (Or.inl rfl),eP,bc GI cK rfl mI kI bI .nil a9 (af (pv 1) (af (pv 0) ai))⟩)) ai)))))))) (aK (bf gX)) cU)
   (aD (sy rfl P6 P2.nd (i:=2) rfl rfl (jU (pv 1)) (fun s H fp=>⟨aX (i:=0) P6.nd rfl (Or.inl rfl),eP,cf (uV K rfl) (pv 0) aP (fun _ _=>rfl)⟩))
   (aK (bf (sL (lP (xQ hu) (d4 rfl P7 (jU (pv 1)) (fun s H fp=>⟨aX (i:=0) P7.nd rfl (Or.inl rfl),eP,cf (uV K rfl) (pv 0) aP (fun _ _=>rfl)⟩)) (c8 pO (pI sF (pv 2) (nV aP) pK) (pI sF (pv 2) pK (nV aP))) (cI _))
    (xN (lP yd (aZ Lr rfl B.len gW (af (eO (EF rfl) rfl bs boot_set (af (pv 2) ai)) ai)) (aZ i7 rfl B.len gW (af (pv 2) ai)) (cI _))))))),?_⟩
  have RF:=hW.length;have hlen:=rp.len;have Gk:=rp.bV;refine⟨_,rfl,⟨_,.inr ⟨"tuple",rfl⟩⟩,.ref p,.ty "tuple",.type "tuple",.type "tuple",true,rfl,rfl,.inl (.tup hp),rfl,true,rfl,?_⟩;refine⟨_,rfl,p,_,rfl,.inr (aC.of hp),us.length,2,rfl,rfl,_,rfl,?_⟩;have e2:decide ((us.length:Int) < 2)=false:=jN (by omega)
  rw[e2];refine⟨_,rfl,p,rfl,⟨_,aC.of hp⟩,fun c hc=>?_⟩;refine jQ (xs:=us) (fun i ys τ H1=>∃t0:Option V,τ = [t0,some (.ref l)]/\ys=(List.replicate i true).map V.bl/\H1=upd H c (.lst ys)) ⟨none,rfl,rfl,rfl⟩ (fun i ys τ H1 ⟨_,_,_,z⟩=>by rw[z];exact⟨ag,aC.of (by rw[ah (ao hp hc)];exact hp)⟩) ?_ ?_
  ·rintro i x ys τ H1 hx ⟨t0,rfl,rfl,rfl⟩
   have aS:i < us.length:=(cR.mp hx).1;obtain⟨a,w,rfl,zV,ha⟩:=hW.get hx;have Sc:=ay (o:= .lst ((List.replicate i true).map V.bl)) hc;refine⟨_,rfl,_,rfl,aa3 (Sc _ _ hl) (pD hR fun b xs h e=>⟨h,Sc _ _ e⟩) (Sc _ _ ha) (rp.at_ w (ia zV)) ⟨ag,by rw[aA,sh,aN];omega,cw_next aS ⟨_,rfl,?_,by rw[ie]⟩⟩⟩
   rw[uC,a8];rfl
  rintro ys τ H1 ⟨t0,rfl,rfl,rfl⟩;have CT:(List.replicate us.length true).all id=true:=by simp
  have S1:=ay (o:= .lst ((List.replicate us.length true).map V.bl)) hc;refine⟨c,_,rfl,aj.of ag,_,rfl,?_⟩;rw[CT];have rP:=S1 _ _ hp;have RG:=hW.same S1;generalize upd H c (.lst ((List.replicate us.length true).map V.bl))=H1 at S1 rP RG ⊢;have eI:∀w:Wi,cC [V.int w.1,.str w.2.1,.str w.2.2] 1=some (V.str w.2.1):=fun w=>(show cC [V.int w.1,.str w.2.1,.str w.2.2] ((1:Nat):Int)=some (V.str w.2.1) from eG rfl);have at2:∀w:Wi,cC [V.int w.1,.str w.2.1,.str w.2.2] 2=some (V.str w.2.2):=fun w=>(show cC [V.int w.1,.str w.2.1,.str w.2.2] ((2:Nat):Int)=some (V.str w.2.2) from eG rfl);refine⟨_,rfl,p,rfl,⟨_,aC.of rP⟩,fun ba Jm=>?_⟩;refine jQ (xs:=us) (fun i ys τ H2=>∃t0:Option V,τ = [t0]/\ys=((W.take i).map (·.2.1)).map V.str/\H2=upd H1 ba (.lst ys)) ⟨none,rfl,rfl,rfl⟩ (fun i ys τ H2 ⟨_,_,_,z⟩=>by rw[z];exact⟨ag,aC.of (by rw[ah (ao rP Jm)];exact rP)⟩) ?_ ?_
  ·rintro i x ys τ H2 hx ⟨t0,rfl,rfl,rfl⟩
   have aS:i < us.length:=(cR.mp hx).1;obtain⟨a,w,rfl,zV,ha⟩:=RG.get hx;have tk:W.take (i+1)=W.take i ++ [w]:=by rw[gu,zV];rfl
   refine⟨_,rfl,a,_,1,.str w.2.1,rfl,rfl,aC.of (by rw[ah (ao ha Jm)];exact ha),eI w,ag,by rw[aA,aA,dJ,aN];omega,cw_next aS ⟨_,rfl,?_,by rw[ie]⟩⟩
   rw[tk,a8,a8];rfl
  rintro ys τ H2 ⟨t0,rfl,rfl,rfl⟩;rw[RF,du];obtain⟨fr,lq⟩:∃fr,(W.map (·.2.1))=fr:=⟨_,rfl⟩;obtain⟨bk,RH⟩:∃bk,(W.map (·.2.2))=bk:=⟨_,rfl⟩;rw[lq];have S2:=S1.trans (ay (o:= .lst (fr.map V.str)) Jm);have hb:upd H1 ba (.lst (fr.map V.str)) ba=some (.lst (fr.map V.str)):=ag;have hU:=S2 _ _ hp;have RI:=hW.same S2;generalize upd H1 ba (.lst (fr.map V.str))=H2 at S2 hb hU RI ⊢;refine⟨_,rfl,p,rfl,⟨_,aC.of hU⟩,fun ea Jn=>?_⟩;refine jQ (xs:=us) (fun i ys τ H3=>∃t0:Option V,τ = [t0]/\ys=((W.take i).map (·.2.2)).map V.str/\H3=upd H2 ea (.lst ys)) ⟨none,rfl,rfl,rfl⟩ (fun i ys τ H3 ⟨_,_,_,z⟩=>by rw[z];exact⟨ag,aC.of (by rw[ah (ao hU Jn)];exact hU)⟩) ?_ ?_
  ·rintro i x ys τ H3 hx ⟨t0,rfl,rfl,rfl⟩
   have aS:i < us.length:=(cR.mp hx).1;obtain⟨a,w,rfl,zV,ha⟩:=RI.get hx;have tk:W.take (i+1)=W.take i ++ [w]:=by rw[gu,zV];rfl
   refine⟨_,rfl,a,_,2,.str w.2.2,rfl,rfl,aC.of (by rw[ah (ao ha Jn)];exact ha),at2 w,ag,by rw[aA,aA,dJ,aN];omega,cw_next aS ⟨_,rfl,?_,by rw[ie]⟩⟩
   rw[tk,a8,a8];rfl
  rintro ys τ H3 ⟨t0,rfl,rfl,rfl⟩;rw[RF,du,RH];have S3:=ay (o:= .lst (bk.map V.str)) Jn;have he:upd H2 ea (.lst (bk.map V.str)) ea=some (.lst (bk.map V.str)):=ag;have qx:=S3 _ _ hb;have zS:=S2.trans S3;generalize upd H2 ea (.lst (bk.map V.str))=H3 at S3 he qx zS ⊢;have turn:fr.drop 1++fr.take 1=bk:=by rw[<-lq,<-RH];exact rp.turn
  have Jo:fr.Nodup:=by rw[<-lq];exact rp.nd
  have RK:∀y∈fr,Nm y:=fun y hy=>by
   rw[<-lq]at hy;obtain⟨w,hw,rfl⟩:=aU.mp hy;obtain⟨r,hr,hx,_⟩:=LQ (rp.at_ w hw);exact nm r (ia hr) _ hx
  have nmb:∀y∈bk,Nm y:=fun y hy=>by
   rw[<-turn]at hy;rcases dH.mp hy with z|z
   ·exact RK y (DA z)
   ·exact RK y (K4 z)
  have lfr:fr.length<=10:=by rw[<-lq,aA];exact rp.bV
  have ec1:d6 (fr.map V.str) (some (1:Int)) none=(fr.drop 1).map V.str:=by rw[show(1:Int)=((1:Nat):Int) from rfl,EJ,Dz]
  have ec2:d6 (fr.map V.str) none (some (1:Int))=(fr.take 1).map V.str:=by rw[show(1:Int)=((1:Nat):Int) from rfl,Fz,List.map_take]
  refine⟨_,rfl,_,rfl,ba,_,rfl,aj.of qx,fun s1 zW=>?_⟩;rw[ec1];have S4:=ay (o:= .lst ((fr.drop 1).map V.str)) zW;refine⟨_,rfl,_,rfl,ba,_,rfl,aj.of (S4 _ _ qx),fun s2 nC=>?_⟩;rw[ec2];have S5:=ay (o:= .lst ((fr.take 1).map V.str)) nC;refine⟨s1,s2,_,_,rfl,rfl,S5 _ _ ag,ag,?_,fun s3 zX=>?_⟩
  ·rw[aA,aA,Ag,dJ,aN];omega
  rw[<-a8,turn];have S6:=ay (o:= .lst (bk.map V.str)) zX;have j8:=S4.trans (S5.trans S6);refine Y' (j8 _ _ he) ag nmb ?_;have RL:=j8 _ _ qx;refine⟨true,rfl,?_⟩;refine⟨_,rfl,ba,fr,rfl,.inl (aj.of RL),by omega,fun a ds ha zQ mem=>?_⟩
  have S7:=ay (o:=p9 P w a ds) ha;refine⟨a,ds,rfl,ag,_,rfl,ba,_,rfl,.inl (aj.of (S7 _ _ RL)),rfl,?_⟩;rw[aA,((U1 zQ Jo).mpr mem).length_eq];have:decide (V.int (fr.length:Int)=V.int (fr.length:Int))=true:=gI rfl;rw[this];exact q _ (zS.trans (j8.trans S7))
theorem cD.nodup {aa:aM} (s:cw aa) {k:Str}{l:List Str} (h:cD aa k l):l.Nodup /\ ∀y∈l,∃m,cD aa y m/\(y≠k->m.length < l.length):=by
 induction h with
 |mk hm hx hg ih =>
  rename_i k ps L o
  have Jp:∀r∈rowsOf L ps,r.Nodup:=fun r hr=>by
   rcases lJ.mp hr with⟨y,hy,rfl⟩|rfl
   ·exact(ih y hy).1
   ·exact s.rW _ hm
  obtain⟨⟨hZ,yF⟩,_⟩:=sound _ _ rfl Jp o hg;have sub:∀x∈ps,∀y∈L x,y∈o:=fun x i5 y hy=>(yF y).mpr ⟨L x,lJ.mpr (.inl ⟨x,i5,rfl⟩),hy⟩;have le:∀x∈ps,(L x).length<=o.length:=fun x i5=>pV (ih x i5).1 (sub x i5);have self:cD aa k (k::o):= .mk hm hx hg;have RM:∀y∈o,∃x∈ps,y∈L x:=fun y hy=>by
   obtain⟨r,hr,Jq⟩:=(yF y).mp hy;rcases lJ.mp hr with⟨x,i5,rfl⟩|rfl
   ·exact⟨x,i5,Jq⟩
   ·refine⟨y,Jq,?_⟩
    have:=hx y Jq;cases e:L y with
    |nil=>rw[e]at this;cases this
    |cons a b=>rw[e]at this;cases this;exact bj
  have line:∀x∈ps,∀y∈L x,∃m,cD aa y m/\m.length<=(L x).length:=fun x i5 y hy=>by
   obtain⟨m,h1,h2⟩:=(ih x i5).2 y hy
   by_cases e:y=x
   ·subst e;exact⟨L y,hx y i5,aR _⟩
   ·exact⟨m,h1,w9 (h2 e)⟩
  have Jr:k ∉ o:=fun hk=>by
   obtain⟨x,i5,hkx⟩:=RM k hk;obtain⟨m,h1,h2⟩:=line x i5 k hkx;have e:=h1.uniq s self;subst e;have:=le x i5;rw[eN]at h2;omega
  refine⟨gb.mpr ⟨Jr,hZ⟩,fun y hy=>?_⟩;rcases aY.mp hy with rfl|z
  ·exact⟨_,self,fun h=>absurd rfl h⟩
  ·obtain⟨x,i5,zU⟩:=RM y z
   obtain⟨m,h1,h2⟩:=line x i5 y zU;have:=le x i5;exact⟨m,h1,fun _=>by rw[eN];omega⟩
theorem uZ {aa:aM} (s:cw aa) (al:eu aa) {p:Str×List Str} (hp:p∈aa):(∀y,y∈aH aa p.1 ↔ y=p.1 \/ ∃x∈p.2,y∈aH aa x)/\(∀x∈p.2,(aH aa x).length < (aH aa p.1).length)/\aH aa p.1=p.1::(aH aa p.1).tail:=by
 have hl:cD aa p.1 (aH aa p.1):=al p hp;obtain⟨nd,lt⟩:=hl.nodup s;cases e:aH aa p.1 with
 |nil=>rw[e]at hl;cases hl
 |cons a b =>
  rw[e]at hl nd lt;cases hl with
  |mk hm hx hg =>
   rename_i ps L
   have e2:=s.key hp hm;rw[e2];have eL:∀x∈ps,aH aa x=L x:=fun x h=>(hx x h).line s;have self:∀x∈ps,x∈L x:=fun x h=>by
    have:=hx x h;cases e:L x with
    |nil=>rw[e]at this;cases this
    |cons a b=>rw[e]at this;cases this;exact bj
   have Jp:∀r∈rowsOf L ps,r.Nodup:=fun r hr=>by
    rcases lJ.mp hr with⟨y,hy,rfl⟩|rfl
    ·exact((hx y hy).nodup s).1
    ·exact s.rW _ hm
   obtain⟨⟨_,yF⟩,_⟩:=sound _ _ rfl Jp _ hg;have Jr:=(gb.mp nd).1;refine⟨fun y=>?_,fun x h=>?_,rfl⟩
   ·rw[aY,yF]
    refine or_congr_right ⟨fun⟨r,hr,hy⟩=>?_,fun⟨x,h,hy⟩=>⟨L x,lJ.mpr (.inl ⟨x,h,rfl⟩),by rw[<-eL x h];exact hy⟩⟩
    rcases lJ.mp hr with⟨z,hz,rfl⟩|rfl
    ·exact⟨z,hz,by rw[eL z hz];exact hy⟩
    ·exact⟨y,hy,by rw[eL y hy];exact self y hy⟩
   ·have xo:x∈b:=(yF x).mpr ⟨ps,lJ.mpr (.inr rfl),h⟩
    obtain⟨m,h1,h2⟩:=lt x (cp _ xo);rw[eL x h,<-h1.uniq s (hx x h)];exact h2 fun z=>Jr (by rw[<-z];exact xo)
theorem Mz {aa:aM} (s:cw aa) (al:eu aa) (h:x∈keysOf aa):x∈aH aa x:=by
 obtain⟨p,hp,rfl⟩:=aU.mp h;exact((uZ s al hp).1 _).mpr (.inl rfl)
theorem Xa {aa told:aM}{k:Str} (ok:cw aa) (st:cw (bH aa k ps)) (al:eu aa) (cO:∀x∈ps,x∈keysOf aa) (gZ:∀x∈ps,k ∉ aH aa x) (fr:tE told) (pm:told.Perm (bH aa k ps)):eu (bH aa k ps):=by
 refine(Ba st pm).mp (X8 fr (fun y=>(if k∈aH aa y\/y=k then 100 else 0)+(aH aa y).length) fun p hp x hx=>?_);have h16:∀ {y},y∈keysOf aa->(aH aa y).length<=16:=fun {y} hy=>(cD.mem ok (Fi al hy)).2;have up:∃q∈told,q.1=x:=by
  obtain⟨q,hq,e⟩:=st.up p (pm.mem_iff.mp hp) x hx;exact⟨q,pm.mem_iff.mpr hq,e⟩
 refine⟨?_,up⟩;rcases qP.mp (pm.mem_iff.mp hp) with⟨h1,h2⟩|rfl
 ·have lm:=uZ ok al h1
  have l1:=lm.2.1 x hx;have l2:(k∈aH aa x\/x=k)->k∈aH aa p.1:=by
   rintro(z|z)
   ·exact(lm.1 k).mpr (.inr ⟨x,hx,z⟩)
   ·obtain⟨q,hq,e⟩:=ok.up p h1 x hx
    exact(lm.1 k).mpr (.inr ⟨x,hx,by rw[<-z];exact Mz ok al (aU.mpr ⟨q,hq,e⟩)⟩)
  show _+_ < _+_
  by_cases z:k∈aH aa x\/x=k
  ·rw[aB z,aB (.inl (l2 z))];omega
  ·rw[au z];split <;> omega
 ·have n1:=gZ x hx
  have n2 : ¬ (k∈aH aa x\/x=k):=by
   rintro(z|z)
   ·exact n1 z
   ·have:=Mz ok al (cO x hx)
    rw[<-z]at n1;exact n1 this
  have:=h16 (cO x hx);show _+_ < _+_;rw[au n2,aB (.inr rfl)];omega
structure rC (aa:List (Str×List Str)) (a:Str) (way:List Str):Prop where
 hd:way.head? = some a
 st:∀ (i:Nat) (y z:Str),way[i]? = some y->way[i+1]? = some z -> ∃p∈aa,p.1=y/\z∈p.2
theorem rC.add {a:Str}{way:List Str}{y:Str}{p:Str×List Str} (h:rC aa a (way ++ [x])) (hp:p∈aa) (e:p.1=x) (hy:y∈p.2):rC aa a (way ++ [x] ++ [y]):=by
 refine⟨?_,fun i u v hu hv=>?_⟩
 ·have:=h.hd
  cases way with
  |nil=>exact this
  |cons _ _=>exact this
 ·by_cases hi:i+1 < (way ++ [x]).length
  ·rw[Af (by omega)]at hu
   rw[Af hi]at hv;exact h.st i u v hu hv
  ·have hl:(way ++ [x]).length=way.length+1:=by simp
   by_cases h2:i+1=(way ++ [x]).length
   ·have Iu:i=way.length:=by omega
    subst Iu;have e1:(way ++ [x] ++ [y])[way.length]? = some x:=by simp
    have e2:(way ++ [x] ++ [y])[way.length+1]? = some y:=by simp
    rw[e1]at hu;rw[e2]at hv;cases hu;cases hv
    exact⟨p,hp,e,hy⟩
   ·rw[Aq (by rw[cZ,i6];omega)]at hv
    cases hv
theorem cj.look (h:cj H vs aa) (nd:(aa.map (·.1)).Nodup):∃kvs,vh H vs kvs/\kvs.map (·.1)=aa.map (·.1) /\ ∀p∈aa,∃b,bU (jW kvs) (Sum.inr p.1)=some (.ref b)/\H b=some (.tup (p.2.map V.str)):=by
 induction h with
 |nil=>exact⟨[],.nil,rfl,fun p hp=>by cases hp⟩
 |@cons y p vs' gP hp _ ih =>
  obtain⟨a,b,e,q,r⟩:=hp;rw[cz,gb]at nd;obtain⟨kvs,h1,h2,h3⟩:=ih nd.2;refine⟨(p.1,.ref b)::kvs,.cons ⟨a,e,q⟩ h1,by rw[cz,cz,h2],fun z hz=>?_⟩
  show ∃b',bU ((Sum.inr p.1,V.ref b)::jW kvs) (Sum.inr z.1)=some (.ref b')/\_;rcases aY.mp hz with e1|hz
  ·rw[e1,jS rfl];exact⟨b,rfl,r⟩
  ·have ne : ¬ ((Sum.inr p.1:Key)=Sum.inr z.1):=fun w=>nd.1 (by rw[nL w];exact aU.mpr ⟨z,hz,rfl⟩)
   rw[ju ne];exact h3 z hz
@[irreducible] noncomputable def vF:Sp:=fun vs H Q _=>∃ (t:Addr) (aa:aM) (a b:Str),vs = [.ref t,.str a,.str b]/\FA H t aa/\eu aa/\a∈keysOf aa/\b∈keysOf aa /\
 (b ∉ aH aa a -> ∀H',aq H H'->Q .aF H')/\(b∈aH aa a -> ∀r way H',aq H H'->H' r=some (.tup ((way ++ [b]).map V.str))->rC aa a (way ++ [b])->(∀x∈way ++ [b],x∈keysOf aa)->way.length<=16->Q (.ref r) H')
theorem Z2 {aa:aM}{a b:Str} (ht:FA H t aa) (al:eu aa) (ha:a∈keysOf aa) (hb:b∈keysOf aa) (qn:b ∉ aH aa a -> ∀H',aq H H'->Q .aF H')
  (qs:b∈aH aa a -> ∀r way H',aq H H'->H' r=some (.tup ((way ++ [b]).map V.str))->rC aa a (way ++ [b])->(∀x∈way ++ [b],x∈keysOf aa)->way.length<=16->Q (.ref r) H'):vF [.ref t,.str a,.str b] H Q E:=by unfold vF;exact⟨t,aa,a,b,rfl,ht,al,ha,hb,qn,qs⟩
noncomputable abbrev RN:List Str:= ["family","a","b","lines","above","way"]
theorem BK:b6 RN ["family","a","b"] (aJ yz):=cF (by decide +kernel)
def aa5 (s:Stmt):Expr:=match s with|.Expr e _=>e|_=>.Constant .none 0 ⟨0,0,0,0⟩
noncomputable abbrev eWa:Expr:=G1 (fG (aa5 (cb (uP (cb (b9 yz) 6)) 0)))
theorem P8:bX RN (aJ yz) ["parent","b","lines"] [none,some 2,some 3] (cE eWa):=c9 (by decide +kernel)
theorem Z3 {R:Addr}{zR:FuncData} (F:aW K "way_of" "way_of" yz f fd) (B:dB mg) (B2:gN mg) (GC:aI P w K mg base aQ 3 fC zR ["family","thing"] qT) (kC:keepIn K (.ref fC)=true) (bC:Binds K zR ["family","thing"] []) (mC:mg "check_kind" = some (.ref fC))
  (GL:aI P w K mg base (fb P w) 5 fL tM ["family"] (pM R)) (kL:keepIn K (.ref fL)=true) (bL:Binds K tM ["family"] []) (mL:mg "lines_of" = some (.ref fL)):aI P w K mg base aQ 6 f fd ["family","a","b"] vF:=by
 refine F.ok BK (fun vs H Q E h=>?_) (fun cdv A outer s H vs Q E hr h=>?_)
 ·unfold vF at h;obtain⟨t,aa,a,b,rfl,_⟩:=h;rfl
 ·unfold vF at h
  obtain⟨t,aa,xa,xb,rfl,hA,al,Js,RO,qn,qs⟩:=h;have hu:=hr.units;have ck:=k6 hu;have mh:a7 5 _:=hr;have j':a7 3 _:=mh.mono (by decide)
  refine⟨_,aD (ig (bc GC j' rfl mC kC bC .nil a9 (af (pv 0) (af (pv 1) ai))))
   (aD (ig (bc GC j' rfl mC kC bC .nil a9 (af (pv 0) (af (pv 2) ai))))
   (aD (bq (i:=3) BK.nd rfl (Or.inr rfl) (bc GL mh rfl mL kL bL .nil NM (af (pv 0) ai)))
   (aD (cQ (cy qO (pv 2) (ja ck (pv 3) (pv 1) (fun _ _=>rfl)) rfl) (aK (bf iR)) cU)
   (aD (bq (i:=4) BK.nd rfl (Or.inl rfl) (eO (LI rfl) rfl B2.dict boot_dict (af (pv 0) ai)))
   (aD (bq (i:=5) BK.nd rfl (Or.inl rfl) (cX (af (pv 1) ai)))
   (aD (uS jt (cy sX (cf eQ (pv 5) (vt vd aP) (fun _ _=>rfl)) (pv 2) (cI _))
    (aK (ig (jc kh qM qN lK (pv 5) (af (cf eQ (d4 rfl P8 (jU (ja ck (pv 4) (cf eQ (pv 5) (vt vd aP) (fun _ _=>rfl)) (fun _ _=>rfl))) (fun s H fp=>⟨aX (i:=0) P8.nd rfl (Or.inl rfl),
     my (cy (Bf K rfl) (pv 1) (ja ck (pv 2) (pv 0) (fun _ _=>rfl)) rfl),pv 0⟩)) aP (fun _ _=>rfl)) ai)))))
   (aK (bf (eO mx rfl B.tuple boot_tuple (af (pv 5) ai)))))))))),?_⟩
  refine⟨_,rfl,_,rfl,A8 hA Js fun H1 S1=>?_⟩;refine⟨_,rfl,_,rfl,A8 (hA.same S1) RO fun H1' S1'=>?_⟩;have S1:=S1.trans S1';obtain⟨ok,ws,ht,hf⟩:=hA;obtain⟨pa,fo,rfl⟩:=aU.mp Js;obtain⟨pb,IM,rfl⟩:=aU.mp RO;refine⟨_,rfl,AZ (S1 _ _ ht) (hf.same S1) ok (fun k' bh hm hx hg=>absurd (al (k',bh) hm) (lU.no ok ⟨bh,hm,hx,hg⟩)) fun d kvs H2 hd S2 h2 _ hl _=>?_⟩;have hl:=hl al;have S2:=S1.trans S2;obtain⟨qa,hp,Bz,aa6⟩:=hf.look ok.nd;have acT:(qa.map (·.1)).Nodup:=by rw[Bz];exact ok.nd
  have RP:∀ {G:Hp}{p:Str×List Str},aq H2 G->p∈aa -> ∃x,fh G d (.str p.1) (some (.ref x))/\G x=some (.tup ((aH aa p.1).map V.str)):=fun {G p} S hp=>by
   obtain⟨x,e,hx⟩:=hl p hp;exact⟨x,by rw[<-e];exact fh.k (k:=Sum.inr p.1) (S _ _ h2),S _ _ hx⟩
  obtain⟨x0,dg0,oH⟩:=RP (aq.refl _) fo;refine⟨_,rfl,_,rfl,_,rfl,d,.ref x0,rfl,dg0,?_⟩;refine⟨x0,_,rfl,.inr (aC.of oH),rfl,i8 _,_,rfl,?_⟩;rw[jR];refine fq (fun cO=>?_) (fun cO=>?_)
  ·exact qn (by simpa using cO) H2 S2
  have k9:pb.1∈aH aa pa.1:=by simpa using cO
  refine⟨_,rfl,t,ws,qa,rfl,S2 _ _ ht,hp.same S2,acT,fun e he=>?_⟩;have S3:=ay (o:= .dK (jW qa)) he;refine⟨_,rfl,j6,fun wa oJ=>?_⟩;have Jt:upd (upd H2 e (.dK (jW qa))) wa (.lst [V.str pa.1]) e=some (.dK (jW qa)):=by rw[ah (ao ag oJ)];exact ag
  have Hn:upd (upd H2 e (.dK (jW qa))) wa (.lst [V.str pa.1]) wa=some (.lst [V.str pa.1]):=ag;have S4:=S3.trans (ay (o:= .lst [V.str pa.1]) oJ);have G3:H2 wa=none:=S3.free oJ;generalize upd (upd H2 e (.dK (jW qa))) wa (.lst [V.str pa.1])=H4 at Jt Hn S4 ⊢;refine⟨fun m σ H5=>∃ (way:List Str) (x:Str) (p:Str×List Str),σ = [some (.ref t),some (.str pa.1),some (.str pb.1),some (.ref d),some (.ref e),some (.ref wa)]/\H5 wa=some (.lst ((way ++ [x]).map V.str))/\(∀b u,b≠wa->H4 b=some u->H5 b=some u) /\
   rC aa pa.1 (way ++ [x])/\(∀y∈way ++ [x],y∈keysOf aa)/\p∈aa/\p.1=x/\pb.1∈aH aa x/\way.length+(aH aa x).length<=16/\m=(aH aa x).length,⟨_,[],pa.1,pa,rfl,Hn,fun _ _ _ e=>e,⟨rfl,fun i y z _ hz=>by simp at hz⟩,(fun y hy=>by rw[ff.mp hy];exact Js),fo,rfl,k9,by have:=(cD.mem ok (al pa fo)).2;simpa using this,rfl⟩,?_⟩
  rintro m σ H5 ⟨way,x,p,rfl,h5,kp,WP,W,gq,rfl,ui,hlen,rfl⟩;have wM:cC ((way ++ [p.1]).map V.str) (-1)=some (V.str p.1):=by rw[a8];exact MB _ _
  have Ju:aq H2 H5:=fun b u e=>kp b u (ao e G3) (S4 _ _ e);refine⟨_,rfl,1,rfl,wa,_,-1,_,rfl,rfl,aj.of h5,wM,_,rfl,rfl,_,rfl,?_⟩;refine fq (fun bB=>?_) (fun bB=>?_)
  ·have lX:p.1≠pb.1:=by
    intro z;rw[z]at bB;simp at bB
   refine⟨_,fun _ _ z=>z,?_⟩;refine⟨_,rfl,.inl ⟨rfl,_,aj.of h5⟩,?_⟩;obtain⟨y0,ey0,IK⟩:=aa6 p gq;have Jv:=Ju _ _ (S2 _ _ IK);have CA:=ok.four p gq;refine⟨_,rfl,_,rfl,1,rfl,wa,_,-1,_,rfl,rfl,aj.of h5,wM,e,.ref y0,rfl,by rw[<-ey0];exact fh.k (k:=Sum.inr p.1) (kp _ _ (bg Jt Hn) Jt),?_⟩
   refine⟨y0,rfl,⟨_,aC.of Jv⟩,fun c hc=>?_⟩;refine jQ (xs:=p.2.map V.str) (fun i ys τ H6=>∃t0:Option V,τ = [t0,some (.str pb.1),some (.ref d)]/\ys=((p.2.take i).filter fun x=>decide (pb.1∈aH aa x)).map V.str/\H6=upd H5 c (.lst ys)) ⟨none,rfl,rfl,rfl⟩ (fun i ys τ H6 ⟨_,_,_,z⟩=>by rw[z];exact⟨ag,aC.of (by rw[ah (ao Jv hc)];exact Jv)⟩) ?_ ?_
   ·rintro i v ys τ H6 hv ⟨t0,rfl,rfl,rfl⟩
    obtain⟨cG,eJ,rfl,tk⟩:=jV hv;obtain⟨r,hr,er⟩:=ok.up p gq p.2[i] (iO eJ);obtain⟨x1,RQ,B6⟩:=RP (Ju.trans (ay (o:= .lst (((p.2.take i).filter fun x=>decide (pb.1∈aH aa x)).map V.str)) hc)) hr;rw[er]at RQ B6;refine⟨_,rfl,_,rfl,_,rfl,d,.ref x1,rfl,RQ,?_⟩;refine⟨x1,_,rfl,.inr (aC.of B6),rfl,i8 _,_,rfl,?_⟩;rw[au de,jR];have ef:((p.2.take (i+1)).filter fun x=>decide (pb.1∈aH aa x))=((p.2.take i).filter fun x=>decide (pb.1∈aH aa x))++if pb.1∈aH aa p.2[i] then [p.2[i]] else []:=by
     rw[tk,pA]
     by_cases h:pb.1∈aH aa p.2[i]
     ·rw[aB h,xq (by simpa using h)];rfl
     ·rw[au h,Ay (by simpa using h)];rfl
    refine fq (fun cO=>?_) (fun cO=>?_)
    ·have k9:pb.1∈aH aa p.2[i]:=by simpa using cO
     refine⟨_,rfl,ag,?_,cw_next cG ⟨_,rfl,?_,by rw[ie]⟩⟩
     ·have h2:=nQ (fun x=>decide (pb.1∈aH aa x)) (p.2.take i)
      rw[dJ]at h2;rw[aA,aN];omega
     ·rw[ef,aB k9,a8];rfl
    ·have k9 : ¬ pb.1∈aH aa p.2[i]:=by simpa using cO
     refine cw_next cG ⟨_,rfl,?_,rfl⟩;rw[ef,au k9,gr]
   ·rintro ys τ H6 ⟨t0,rfl,rfl,rfl⟩
    rw[aA,du];obtain⟨y,hy,hby⟩:∃y∈p.2,pb.1∈aH aa y:=by
     rcases ((uZ ok al gq).1 pb.1).mp ui with z|z
     ·exact absurd z.symm lX
     ·exact z
    cases Cd:p.2.filter fun x=>decide (pb.1∈aH aa x) with
    |nil =>
     have z:y∈p.2.filter fun x=>decide (pb.1∈aH aa x):=jk.mpr ⟨hy,gI hby⟩;rw[Cd]at z;cases z
    |cons y1 r1 =>
     have l0:y1∈p.2/\pb.1∈aH aa y1:=by
      have:=jk.mp (show y1∈p.2.filter fun x=>decide (pb.1∈aH aa x) by rw[Cd];exact bj)
      exact⟨this.1,by simpa using this.2⟩
     obtain⟨q1,hV,eq1⟩:=ok.up p gq y1 l0.1;have aS:=(uZ ok al gq).2.1 y1 l0.1;have h56:upd H5 c (.lst ((y1::r1).map V.str)) wa=some (.lst ((way ++ [p.1]).map V.str)):=by rw[ah (ao h5 hc)];exact h5
     refine⟨c,_,0,_,rfl,rfl,aj.of ag,jK,wa,_,_,rfl,rfl,h56,by rw[aA,cZ,i6,aN];omega,?_⟩
     refine⟨(aH aa y1).length,aS,way ++ [p.1],y1,q1,rfl,?_,fun b u nb e=>?_,WP.add gq rfl l0.1,fun y hy=>?wy,hV,eq1,l0.2,by rw[cZ,i6];omega,rfl⟩
     case wy =>
      rcases dH.mp hy with z|z
      ·exact W y z
      ·rw[ff.mp z,<-eq1];exact aU.mpr ⟨q1,hV,rfl⟩
     ·rw[a8 (l₁:=way ++ [p.1])];exact ag
     ·have ui:=kp b u nb e
      rw[ah nb,ah (ao ui hc)];exact ui
  ·have Io:p.1=pb.1:=by
    by_cases z:p.1=pb.1
    ·exact z
    ·exact absurd (by simp[z]) bB
   rw[Io]at h5 W WP;refine⟨_,rfl,wa,_,rfl,.inl ⟨aj.of h5,fun r hr=>?_⟩⟩;exact qs k9 r way _ (S2.trans (Ju.trans (ay hr))) ag WP W (by omega)
@[irreducible] noncomputable def vG (K:Frag) (f:Str):Sp:=fun vs H Q _=>∃ (a C:Addr) (k:V) (i:Option Value),vs = [.ref a,k]/\H a=some (cg C none a)/\dU K C/\eU K C i=true/\kH H k/\findIn K (.ref C) f=some none /\
 ∀d H',H d=none->d≠a->H' a=some (cg C (some d) a)->H' d=some (d7 d [(f,k)])->yA a H H'->Q .aF H'
theorem Z4:b6 ["self","way"] ["self","way"] (aJ sO):=cF (by decide +kernel)
theorem X9 (F:aW K "__init__" "Round.__init__" sO f fd) (b:sN K B) (mB:mg "LineError" = some (.ref B)):aI P w K mg base aQ 1 f fd ["self","way"] (vG K "way"):=by
 refine F.ok Z4 (fun vs H Q E h=>?_) (fun cdv A outer s H vs Q E hr h=>?_)
 ·unfold vG at h;obtain⟨a,C,k,i,rfl,_⟩:=h;rfl
 ·unfold vG at h
  obtain⟨a,C,k,i,rfl,ha,c,qi,fk,nk,q⟩:=h;have hu:=hr.units;have hg:=hr.gd;refine⟨_,aD (ig (DN b rfl mB (af (pv 0) (af (EZ (nW kx (nW (xR hu hg (pv 1)) Ft))) ai)))) (aK (E1 (pv 0) (pv 1))),?_⟩;refine⟨_,rfl,⟨_,rfl,by decide +kernel⟩,_,rfl,fk,fun y1 l0=>⟨⟨_,rfl,l0⟩,fun y hy=>?_⟩⟩
  refine⟨a,C,none,_,i,rfl,ha,c,qi,?_⟩;exact⟨_,rfl,_,rfl,a,C,rfl,ha,c,nk,fun d hd jL=>q d _ hd jL ag (by rw[ah jL];exact ag) (EL hd)⟩
theorem Z5 {k:V}{i:Option Value}{f:Str} (ha:H a=some (cg C none a)) (xc:dU K C) (qi:eU K C i=true) (fk:kH H k) (nf:findIn K (.ref C) f=some none)
  (q:∀d H',H d=none->d≠a->H' a=some (cg C (some d) a)->H' d=some (d7 d [(f,k)])->yA a H H'->Q .aF H'):vG K f [.ref a,k] H Q E:=by unfold vG;exact⟨a,C,k,i,rfl,ha,xc,qi,fk,nf,q⟩
structure Od (K:Frag) (mg:Str->Option Value) (B C fI:Addr) (nH:FuncData):Prop where
 mC:mg "Round" = some (.ref C)
 q:eU K C (some (.ref fI))=true
 fn:isFn K (.ref fI)=true
 kp:keepIn K (.ref C)=true
 F:aW K "__init__" "Round.__init__" sO fI nH
 b:sN K B
 mB:mg "LineError" = some (.ref B)
 bi:Binds K nH ["self","way"] []
 x:dU K C
 nw:findIn K (.ref C) "way" = some none
theorem X' (hp:H p=some (.tup (xs.map V.str))) (nm:∀x∈xs,Nm x) (bV:xs.length<=100):kH H (.ref p):=by
 have key:∀l:List Str,(∀x∈l,Nm x)->PyData.showableAll (l.map PyData.str)=true/\PyData.hasDictAll (l.map PyData.str)=false/\PyData.leavesShortAll 13 (l.map PyData.str)=true/\PyData.bulkAll (l.map PyData.str)<=9 * l.length:=by
  intro l
  induction l with
  |nil=>intro _;exact⟨rfl,rfl,rfl,aR _⟩
  |cons x l ih =>
   intro h;obtain⟨h1,h2,h3,h4⟩:=ih fun y hy=>h y (cp _ hy);have nx:=h x bj;have z1:x.cps.size<=8:=nx.hi;refine⟨?_,?_,?_,?_⟩
   ·simp only[cz,PyData.showableAll,PyData.showable,h1,Ax]
   ·simp only[cz,PyData.hasDictAll,PyData.hasDict,h2,Km]
   ·simp only[cz,PyData.leavesShortAll,PyData.leavesShort,h3,Em nx,Ax]
   ·simp only[cz,PyData.bulkAll,PyData.bulk,eN];omega
 obtain⟨h1,h2,h3,h4⟩:=key xs nm;refine .inr (.inr ⟨p,.tuple (xs.map PyData.str),rfl,.tup hp (lO _ xs),h1,h2,?_,?_⟩)
 ·simp only[PyData.depth];rw[pE];decide
 ·have:=PyData.shown_le_bulk 13 (by decide) (.tuple (xs.map PyData.str)) h3
  simp only[PyData.bulk]at this;omega
noncomputable def Oe (C:Addr) (aa:aM) (k:Str) (ps:List Str) (H:Hp) (a:Addr):Prop:= ∃d r way x,H a=some (eV (some .none) C (some d) a)/\H d=some (d7 d [("way",.ref r)])/\H r=some (.tup ((way ++ [k]).map V.str))/\rC aa x (way ++ [k])/\x∈ps/\(∀y∈way ++ [k],y∈keysOf aa)/\way.length<=16
structure pH (H:Hp) (t pa:Addr) (aa:aM) (k:Str) (ps:List Str):Prop where
 fa:FA H t aa
 al:eu aa
 le:aa.length<=8
 hk:k∈keysOf aa
 hp:H pa=some (.tup (ps.map V.str))
 nd:ps.Nodup
 p4:ps.length<=4
 lB:∀x∈ps,x∈keysOf aa
theorem pH.same {aa:aM}{k:Str} (h:pH H t pa aa k ps) (S:aq H H'):pH H' t pa aa k ps:=⟨h.fa.same S,h.al,h.le,h.hk,S _ _ h.hp,h.nd,h.p4,h.lB⟩
theorem pH.st {aa:aM}{k:Str} (h:pH H t pa aa k ps):cw (bH aa k ps):=M5 h.fa.1 (dG h.le (by decide)) (h.fa.1.zP h.hk) h.nd h.p4 h.lB
def kG (aa:aM) (k:Str) (ps:List Str):Prop:= ∃x∈ps,k∈aH aa x
@[irreducible] noncomputable def vX (c:Nat->Addr):Sp:=fun vs H Q E=>∃ (t pa:Addr) (aa:aM) (k:Str) (ps:List Str),vs = [.ref t,.str k,.ref pa]/\pH H t pa aa k ps /\
 (kG aa k ps -> ∀a H',aq H H'->Oe (c 13) aa k ps H' a->E (.ref (c 13)) (some a) H') /\
 (¬ kG aa k ps -> ∀k' bh,(k',bh)∈bH aa k ps->(∀x∈bh,Ln (bH aa k ps) x)->bw (total (rowsOf (aH (bH aa k ps)) bh)) (rowsOf (aH (bH aa k ps)) bh)=none -> ∀a H',aq H H'->rB (c 12) k' (rowsOf (aH (bH aa k ps)) bh) H' a->E (.ref (c 12)) (some a) H') /\
 (¬ kG aa k ps -> ∀t' told H',aq H H'->FA H' t' told->told.Perm (bH aa k ps)->iN told->eu (bH aa k ps)->Q (.ref t') H')
theorem aa7 {aa:aM}{k:Str} (m:pH H t pa aa k ps)
  (q1:kG aa k ps -> ∀a H',aq H H'->Oe (c 13) aa k ps H' a->E (.ref (c 13)) (some a) H')
  (q2 : ¬ kG aa k ps -> ∀k' bh,(k',bh)∈bH aa k ps->(∀x∈bh,Ln (bH aa k ps) x)->bw (total (rowsOf (aH (bH aa k ps)) bh)) (rowsOf (aH (bH aa k ps)) bh)=none -> ∀a H',aq H H'->rB (c 12) k' (rowsOf (aH (bH aa k ps)) bh) H' a->E (.ref (c 12)) (some a) H')
  (q3 : ¬ kG aa k ps -> ∀t' told H',aq H H'->FA H' t' told->told.Perm (bH aa k ps)->iN told->eu (bH aa k ps)->Q (.ref t') H'):vX c [.ref t,.str k,.ref pa] H Q E:=by unfold vX;exact⟨t,pa,aa,k,ps,rfl,m,q1,q2,q3⟩
noncomputable abbrev nKc:List Str:= ["family","kind","parents","parent","way"]
theorem Ho:b6 nKc ["family","kind","parents"] (aJ EI):=cF (by decide +kernel)
theorem aa8 {B0 fQ fY:Addr}{dC dQ dY:FuncData} (F:aW K "kind_changed" "kind_changed" EI f fd) (T:Od K mg B0 (c 13) fI dI) (GC:aI P w K mg base aQ 3 fC dC ["family","thing"] qT) (kC:keepIn K (.ref fC)=true) (bC:Binds K dC ["family","thing"] []) (mC:mg "check_kind" = some (.ref fC))
  (GQ:aI P w K mg base aQ 4 fQ dQ ["family","thing"] vQ) (kQ:keepIn K (.ref fQ)=true) (bQ:Binds K dQ ["family","thing"] []) (mQ:mg "check_parents" = some (.ref fQ))
  (GY:aI P w K mg base aQ 6 fY dY ["family","a","b"] vF) (kY:keepIn K (.ref fY)=true) (bY:Binds K dY ["family","a","b"] []) (mY:mg "way_of" = some (.ref fY))
  (GW:aI P w K mg base (fb P w) 6 fW dW ["family","kind","parents"] (vS (c 12))) (kW:keepIn K (.ref fW)=true) (bW:Binds K dW ["family","kind","parents"] []) (mW:mg "with_parents" = some (.ref fW)):aI P w K mg base (fb P w) 7 f fd ["family","kind","parents"] (vX c):=by
 have GI:aI P w K mg base aQ 1 fI dI ["self","way"] (vG K "way"):=X9 T.F T.b T.mB;refine F.zd Ho (fun vs H Q E h=>?_) (fun cdv A outer s H vs Q E hr h=>?_)
 ·unfold vX at h;obtain⟨t,pa,aa,k,ps,rfl,_⟩:=h;rfl
 ·unfold vX at h
  obtain⟨t,pa,aa,k,ps,rfl,m,q1,q2,q3⟩:=h;have mi:a7 6 _:=hr;have hr4:a7 4 _:=mi.mono (by decide)
  have j':a7 3 _:=mi.mono (by decide)
  have iZ:a7 2 _:=mi.mono (by decide)
  refine⟨_,aD (ig (bc GC j' rfl mC kC bC .nil a9 (af (pv 0) (af (pv 1) ai))))
   (aD (ig (bc GQ hr4 rfl mQ kQ bQ .nil a9 (af (pv 0) (af (pv 2) ai))))
   (aD (jx K5 rfl (jU (pv 2)) (aX (i:=3) Ho.nd rfl (Or.inl rfl))
    (aD (bq (i:=4) Ho.nd rfl (Or.inl rfl) (bc GY mi rfl mY kY bY .nil a9 (af (pv 0) (af (pv 3) (af (pv 1) ai)))))
    (aK (cQ (cy Yf (pv 4) iR (cI _)) (aK (Mf (Nj T.q T.fn T.kp GI iZ T.bi a9 rfl T.mC (af (pv 4) ai)))) cU))))
   (aK (bf (bc GW mi rfl mW kW bW .nil FQ (af (pv 0) (af (pv 1) (af (pv 2) ai)))))))),?_⟩
  have ht:=m.fa;refine⟨_,rfl,_,rfl,A8 ht m.hk fun H1 S1=>?_⟩;refine⟨_,rfl,_,rfl,aaT (ht.same S1) (S1 _ _ m.hp) m.nd m.p4 m.lB fun H2 S2=>?_⟩;have S2:=S1.trans S2;have hU:=S2 _ _ m.hp;refine⟨_,rfl,pa,rfl,⟨_,aC.of hU⟩,Ye (xs:=ps.map V.str) (fun i σ H3=>∃v3 v4:Option V,σ = [some (.ref t),some (.str k),some (.ref pa),v3,v4]/\aq H2 H3 /\ ∀x∈ps.take i,k ∉ aH aa x) ⟨none,none,rfl,aq.refl _,fun x hx=>by cases hx⟩ (fun i σ H3 _ ⟨_,_,_,z,_⟩=>aC.of (z _ _ hU)) ?_ ?_⟩
  ·rintro i x σ H3 hx ⟨v3,v4,rfl,S3,gZ⟩
   obtain⟨cG,eJ,rfl,_⟩:=jV hx;have hm:=iO eJ;have uq:=S2.trans S3;refine⟨_,rfl,_,rfl,_,rfl,Z2 (ht.same uq) m.al (m.lB _ hm) m.hk (fun hnl H4 S4=>?_) fun Ir r way H4 S4 Jw wp Bz hlen=>?_⟩
   ·refine⟨_,rfl,rfl,_,rfl,_,_,rfl,S3.trans S4,fun y hy=>?_⟩
    rw[gu,cP eJ]at hy;rcases dH.mp hy with z|z
    ·exact gZ y z
    ·have z:y ∈ [ps[i]]:=z
     rw[ff.mp z];exact hnl
   ·refine⟨_,rfl,rfl,_,rfl,?_⟩
    have S4:=uq.trans S4;refine⟨_,rfl,by show 1<=100;decide,fun a ha=>?_⟩
    have CB:H a=none:=S4.free ha;have nra:r≠a:=ao Jw ha;refine Z5 ag T.x T.q (M0 (X' Jw (fun x hx=>ht.1.zP (Bz x hx)) (by rw[cZ,i6];omega)) (ay ha)) T.nw fun d H5 hd jL h1 h2 kp=>⟨rfl,a,c 13,some d,_,rfl,h1,fun d' ed=>by cases ed;exact⟨_,h2⟩,T.x,T.q,CB,?_⟩
    have iC:∀b o,H4 b=some o->upd H5 a (eV (some .none) (c 13) (some d) a) b=some o:=fun b o hb=>by
     have nb:b≠a:=ao hb ha;rw[ah nb];exact kp b o (by rw[ah nb];exact hb) nb
    exact q1 ⟨_,hm,Ir⟩ a _ (fun b o hb=>iC b o (S4 _ _ hb)) ⟨d,r,way,ps[i],ag,by rw[ah jL];exact h2,iC _ _ Jw,wp,hm,Bz,hlen⟩
  ·rintro σ H3 ⟨v3,v4,rfl,S3,gZ⟩
   rw[aA,du]at gZ;have nr : ¬ kG aa k ps:=fun⟨x,h1,h2⟩=>gZ x h1 h2;have uq:=S2.trans S3;refine⟨_,rfl,_,rfl,_,rfl,aaX (ht.same uq) (uq _ _ m.hp) m.st (fun k' bh hm hx hg a H4 S4 r4=>q2 nr k' bh hm hx hg a H4 (uq.trans S4) r4) fun t' told H4 S4 ft pm so fr=>?_⟩;exact q3 nr t' told H4 (uq.trans S4) ft pm so (Xa ht.1 m.st m.al m.lB gZ fr pm)
structure Up (ks:List Str) (L Ps:Str->List Str):Prop where
 ps:∀x∈ks,(Ps x).Nodup/\(Ps x).length<=4 /\ ∀y∈Ps x,y∈ks
 lp:wY (cH Ps ks) L
 ld:∀x∈ks,∀y∈L x,y∈ks
theorem Up.up (F:Up ks L Ps):∀p∈cH Ps ks,∀x∈p.2,∃q∈cH Ps ks,q.1=x:=fun p hp x hx=>by
 obtain⟨y,hy,rfl⟩:=aU.mp hp;exact⟨(x,Ps x),aU.mpr ⟨x,(F.ps y hy).2.2 x hx,rfl⟩,rfl⟩
structure fH (H:Hp) (ks:List Str) (t d:Addr) (kvs:List (Key×V)) (Ps:Str->List Str) (aa:aM):Prop where
 fa:FA H t aa
 al:eu aa
 pm:aa.Perm (cH Ps ks)
 nd:ks.Nodup
 nm:∀x∈ks,Nm x
 k8:ks.length<=8
 hd:H d=some (.dK kvs)
 hk:kvs.map (·.1)=ks.map Sum.inr
 pl:∀x∈ks,dq H kvs Ps x
 so:iN aa
section
variable{aa:aM}
theorem kB.fr (R:kB H ks t d kvs L Ps aa):fH H ks t d kvs Ps aa:=⟨R.fa,R.all,R.pm,R.nd,R.nm,R.k8,R.hd,R.hk,R.pl,R.so⟩
theorem fH.same (R:fH H ks t d kvs Ps aa) (S:aq H H'):fH H' ks t d kvs Ps aa:=
 ⟨R.fa.same S,R.al,R.pm,R.nd,R.nm,R.k8,S _ _ R.hd,R.hk,fun x hx=>let ⟨a,e,q⟩:=R.pl x hx;⟨a,e,S _ _ q⟩,R.so⟩
theorem fH.mem (R:fH H ks t d kvs Ps aa) {p:Str×List Str}:p∈aa ↔ p.1∈ks/\p.2=Ps p.1:=by
 rw[R.pm.mem_iff]
 constructor
 ·intro h
  obtain⟨x,hx,rfl⟩:=aU.mp h;exact⟨hx,rfl⟩
 ·rintro⟨h1,h2⟩
  exact aU.mpr ⟨p.1,h1,by rw[<-h2]⟩
theorem fH.key (R:fH H ks t d kvs Ps aa):x∈keysOf aa ↔ x∈ks:=
 ⟨fun h=>by obtain⟨p,hp,rfl⟩:=aU.mp h;exact(R.mem.mp hp).1,fun h=>aU.mpr ⟨(x,Ps x),R.mem.mpr ⟨h,rfl⟩,rfl⟩⟩
theorem fH.len (R:fH H ks t d kvs Ps aa):aa.length=ks.length:=by rw[R.pm.length_eq];unfold cH;rw[aA]
theorem fH.kl (R:fH H ks t d kvs Ps aa):kvs.length=ks.length:=by have:=fc List.length R.hk;simpa using this
theorem fH.line (R:fH H ks t d kvs Ps aa) (hx:x∈ks):(aH aa x).Nodup /\ ∀y∈aH aa x,y∈ks:=by
 have h:cD aa x (aH aa x):=Fi R.al (R.key.mpr hx);exact⟨(h.nodup R.fa.1).1,fun y hy=>R.key.mp ((h.mem R.fa.1).1 y hy)⟩
theorem fH.up (R:fH H ks t d kvs Ps aa):Up ks (aH aa) Ps:=by
 have st:=R.fa.1;have pf:∀ {x},x∈ks->(x,Ps x)∈aa:=fun {x} hx=>R.mem.mpr ⟨hx,rfl⟩;refine⟨fun x hx=>⟨st.rW _ (pf hx),st.four _ (pf hx),fun y hy=>?_⟩,⟨fun p hp=>?_,fun p hp=>?_,fun p hp=>?_,fun p hp y hy=>?_⟩,fun x hx=>(R.line hx).2⟩
 ·obtain⟨q,hq,rfl⟩:=st.up _ (pf hx) y hy
  exact(R.mem.mp hq).1
 ·obtain⟨x,hx,rfl⟩:=aU.mp hp
  exact(uZ st R.al (pf hx)).1
 ·obtain⟨x,hx,rfl⟩:=aU.mp hp
  exact(uZ st R.al (pf hx)).2.1
 ·obtain⟨x,hx,rfl⟩:=aU.mp hp
  exact dG (len_sub (R.line hx).1 (R.line hx).2) R.k8
 ·obtain⟨x,hx,rfl⟩:=aU.mp hp
  exact⟨(y,Ps y),aU.mpr ⟨y,(R.line hx).2 y hy,rfl⟩,rfl⟩
end
@[irreducible] noncomputable def sU:Sp:=fun vs H Q _=>∃ (d:Addr) (kvs:List (Key×V)) (ks:List Str) (L Ps:Str->List Str) (k:Str),vs = [.ref d,.str k]/\H d=some (.dK kvs)/\(∀x∈ks,dq H kvs Ps x)/\Up ks L Ps/\ks.length<=8/\k∈ks /\
 ∀ (l:Addr) (F:List Str) (H':Hp),H l=none->aq H H'->H' l=some (.lst (F.map V.str))->(∀y,y∈F ↔ y∈L k)->F.length<=8->F.Nodup->Q (.ref l) H'
theorem NQ {k:Str} (hd:H d=some (.dK kvs)) (hl:∀x∈ks,dq H kvs Ps x) (fm:Up ks L Ps) (h8:ks.length<=8) (hk:k∈ks)
  (q:∀ (l:Addr) (F:List Str) (H':Hp),H l=none->aq H H'->H' l=some (.lst (F.map V.str))->(∀y,y∈F ↔ y∈L k)->F.length<=8->F.Nodup->Q (.ref l) H'):sU [.ref d,.str k] H Q E:=by unfold sU;exact⟨d,kvs,ks,L,Ps,k,rfl,hd,hl,fm,h8,hk,q⟩
noncomputable abbrev nFo:List Str:= ["_law_parents_here","_law_kind","_law_found","_law_k","_law_one"]
theorem yG:b6 nFo ["_law_parents_here","_law_kind"] (aJ F0):=cF (by decide +kernel)
theorem Za (F:aW K "_law_forebears" "_law_forebears" F0 f fd) (B:dB mg):aI P w K mg base aQ 1 f fd ["_law_parents_here","_law_kind"] sU:=by
 refine F.ok yG (fun vs H Q E h=>?_) (fun cdv A outer s H vs Q E hr h=>?_)
 ·unfold sU at h;obtain⟨d,kvs,ks,L,Ps,k,rfl,_⟩:=h;rfl
 ·unfold sU at h
  obtain⟨d,kvs,ks,L,Ps,k,rfl,hd,hl,fm,h8,hk,q⟩:=h;have hu:=hr.units;have ck:=k6 hu;have lp:=fm.lp;have up:=fm.up;refine⟨_,aD (bq (i:=2) yG.nd rfl (Or.inl rfl) (cX (af (pv 1) ai)))
   (aD (bq (i:=3) yG.nd rfl (Or.inl rfl) aP)
   (aD (uS jt (cy ye (pv 3) (aZ i7 rfl B.len gW (af (pv 2) ai)) (cI _))
    (aD (jx jt rfl (gJ (ja ck (pv 0) (cf eQ (pv 2) (pv 3) (fun _ _=>rfl)) (fun _ _=>rfl))) (aX (i:=4) yG.nd rfl (Or.inl rfl))
     (aK (cQ (cy qO (pv 4) (pv 2) rfl) (aK (ig (jc kh qM qN lK (pv 2) (af (pv 4) ai)))) cU)))
    (aK (bq (i:=3) yG.nd rfl (Or.inl rfl) (c8 qW (pv 3) aP)))))
   (aK (bf (pv 2))))),?_⟩
  refine⟨_,rfl,j6,fun fa gn=>?_⟩;have RS:∀b u,b≠fa->H b=some u->upd H fa (.lst [V.str k]) b=some u:=fun b u n e=>by rw[ah n];exact e
  have h0:upd H fa (.lst [V.str k]) fa=some (.lst ([k].map V.str)):=ag;generalize upd H fa (.lst [V.str k])=H0 at RS h0 ⊢;have Jo:d≠fa:=ao hd gn;have hkL:k∈L k:=(lp.mem _ (qQ hk) k).mpr (.inl rfl);have Jx:(L k).length<=8:=lp.le8 _ (qQ hk);refine⟨fun m σ H1=>∃ (i:Nat) (Fs:List Str) (v4:Option V),σ = [some (.ref d),some (.str k),some (.ref fa),some (.int i),v4]/\(∀b u,b≠fa->H b=some u->H1 b=some u)/\H1 fa=some (.lst (Fs.map V.str))/\Fs.Nodup/\(∀y∈Fs,y∈L k)/\k∈Fs/\i<=Fs.length/\(∀y∈Fs.take i,∀z∈Ps y,z∈Fs)/\m=8 - i,
   ⟨_,0,[k],none,rfl,RS,h0,by simp,fun y hy=>by rw[show y=k by simpa using hy];exact hkL,bj,bG _,fun y hy=>(by cases hy),rfl⟩,?_⟩
  rintro m σ H1 ⟨i,Fs,v4,rfl,kp,h1,nd,sub,RT,hi,cl,rfl⟩;have hF8:Fs.length<=8:=dG (len_sub nd sub) Jx;refine⟨_,rfl,_,rfl,fa,_,rfl,.inl (aj.of h1),_,_,rfl,rfl,_,rfl,?_⟩;rw[aA];refine fq (fun aS=>?_) (fun hge=>?_)
  ·have tK:i < Fs.length:=by have:=xm aS;omega
   have RU:=sub _ (iO tK);have Jy:Fs[i]∈ks:=fm.ld k hk _ RU;obtain⟨pa,ep,fo⟩:=hl _ Jy;have zM:pa≠fa:=ao fo gn;obtain⟨rW,p4,acU⟩:=fm.ps _ Jy;have i5:=lp.trans up _ _ (qQ hk) rfl _ RU;have hPs:∀z∈Ps Fs[i],z∈L k:=fun z hz=>i5 z ((lp.mem _ (qQ Jy) z).mpr (.inr ⟨z,hz,(lp.mem _ (qQ (acU z hz)) z).mpr (.inl rfl)⟩));refine⟨fun aG H'=>∃m',m' < 8 - i /\ ∃ (i:Nat) (Fs:List Str) (v4:Option V),aG = [some (.ref d),some (.str k),some (.ref fa),some (.int i),v4]/\(∀b u,b≠fa->H b=some u->H' b=some u)/\H' fa=some (.lst (Fs.map V.str))/\Fs.Nodup/\(∀y∈Fs,y∈L k)/\k∈Fs/\i<=Fs.length/\(∀y∈Fs.take i,∀z∈Ps y,z∈Fs)/\m'=8 - i,fun _ _ z=>z,?_⟩;refine⟨_,rfl,_,rfl,_,rfl,fa,_,i,.str Fs[i],rfl,rfl,aj.of h1,eG (by rw[eX,cP tK];rfl),d,.ref pa,rfl,.inl ⟨kvs,Sum.inr Fs[i],.inl (kp _ _ Jo hd),rfl,ep.symm⟩,?_⟩
   refine⟨pa,rfl,⟨_,aj.of (kp _ _ zM fo)⟩,xy (xs:=(Ps Fs[i]).map V.str) (fun j σ H2=>∃ (ext:List Str) (v4:Option V),σ = [some (.ref d),some (.str k),some (.ref fa),some (.int i),v4]/\(∀b u,b≠fa->H b=some u->H2 b=some u)/\H2 fa=some (.lst ((Fs++ext).map V.str))/\(Fs++ext).Nodup/\(∀y∈Fs++ext,y∈L k)/\(∀z∈(Ps Fs[i]).take j,z∈Fs++ext))
    ⟨[],v4,rfl,kp,by rw[gr];exact h1,by rw[gr];exact nd,by rw[gr];exact sub,fun z hz=>(by cases hz)⟩ (fun j σ H2 _ ⟨_,_,_,z,_⟩=>aj.of (z _ _ zM fo)) ?_ ?_⟩
   ·rintro j x σ H2 hx ⟨ext,v4,rfl,qy,h2,oM,yH,zY⟩
    obtain⟨cG,nI,rfl,tk⟩:=jV hx;have j5:(Fs++ext).length<=8:=dG (len_sub oM yH) Jx;refine⟨_,rfl,_,rfl,fa,_,rfl,.inl (aj.of h2),rfl,i8 _,_,rfl,?_⟩;rw[jR];refine fq (fun cO=>?_) (fun cO=>?_)
    ·have k9:(Ps Fs[i])[j] ∉ Fs++ext:=by simpa using cO
     refine⟨_,rfl,.inl ⟨rfl,_,aj.of h2⟩,_,rfl,fa,_,_,rfl,rfl,h2,by rw[aA,aN];omega,?_⟩
     refine⟨ext ++ [(Ps Fs[i])[j]],_,rfl,fun b u n e=>by rw[ah n];exact qy b u n e,?_,?_,fun y hy=>?_,fun z hz=>?_⟩
     ·rw[<-ux,a8 (l₁:=Fs++ext)];exact ag
     ·rw[<-ux,mr]
      exact⟨oM,by simp,fun a ha b hb e=>k9 (by rw[<-ff.mp hb,<-e];exact ha)⟩
     ·rw[<-ux]at hy
      rcases dH.mp hy with z|z
      ·exact yH y z
      ·rw[ff.mp z];exact hPs _ (iO nI)
     ·rw[<-ux]
      rw[tk]at hz;rcases dH.mp hz with z|z
      ·exact ke _ (zY _ z)
      ·rw[ff.mp z];exact gH _ bj
    ·have k9:(Ps Fs[i])[j]∈Fs++ext:=by
      have h3 : ¬(Ps Fs[i])[j]∈Fs->(Ps Fs[i])[j]∈ext:=by simpa using cO
      by_cases z:(Ps Fs[i])[j]∈Fs
      ·exact ke _ z
      ·exact gH _ (h3 z)
     refine⟨ext,_,rfl,qy,h2,oM,yH,fun z hz=>?_⟩;rw[tk]at hz;rcases dH.mp hz with z|z
     ·exact zY _ z
     ·rw[ff.mp z];exact k9
   ·rintro σ H2 ⟨ext,v4,rfl,qy,h2,oM,yH,zY⟩
    rw[aA,du]at zY;refine⟨_,rfl,_,1,rfl,rfl,8 - (i+1),by omega,i+1,Fs++ext,v4,rfl,qy,h2,oM,yH,ke _ RT,by rw[cZ];omega,fun y hy z hz=>?_,rfl⟩
    rw[akD (by omega),gu,cP tK]at hy
    rcases dH.mp hy with w|w
    ·exact ke _ (cl y w z hz)
    ·have:y=Fs[i]:=by simpa using w
     rw[this]at hz;exact zY z hz
  ·have akX:Fs.length<=i:=by
    by_cases z:i < Fs.length
    ·exact absurd (gI (by omega)) hge
    ·omega
   have ei:i=Fs.length:=by omega
   rw[ei,du]at cl;refine⟨_,rfl,q fa Fs H1 gn (fun b u e=>kp b u (ao e gn) e) h1 (fun y=>⟨sub y,fun hy=>?_⟩) hF8 nd⟩;refine lp.closed (fun p hp hpF x hx=>?_) up _ _ (qQ hk) rfl RT y hy;obtain⟨z,hz,rfl⟩:=aU.mp hp;exact cl z hpF x hx
theorem xK (h:n<=100):n<=sizeLine:=by rw[aN];omega
@[irreducible] noncomputable def vY:Sp:=fun vs H Q _=>∃ (p l:Addr) (ys:List Str),vs = [.ref l,.ref p]/\gf p H/\H l=some (.lst (ys.map V.str))/\ys.length<=20 /\
 ∀ (o:Addr) (own rest:List Str) (H':Hp),(own++rest).Perm ys->own.length<=4->gf p H'->H o=none->(∀b u,H b=some u->b≠p->b≠l->H' b=some u)->H' o=some (.lst (own.map V.str))->Q (.ref o) H'
theorem aa9 {ys:List Str} (hp:gf p H) (hn:H l=some (.lst (ys.map V.str))) (hl:ys.length<=20)
  (q:∀ (o:Addr) (own rest:List Str) (H':Hp),(own++rest).Perm ys->own.length<=4->gf p H'->H o=none->(∀b u,H b=some u->b≠p->b≠l->H' b=some u)->H' o=some (.lst (own.map V.str))->Q (.ref o) H'):vY [.ref l,.ref p] H Q E:=by
 unfold vY;exact⟨p,l,ys,rfl,hp,hn,hl,q⟩
noncomputable abbrev nSo:List Str:= ["_law_left","_law_pot_here","_law_own","_law_turn"]
theorem Hq:b6 nSo ["_law_left","_law_pot_here"] (aJ Ff):=cF (by decide +kernel)
theorem aba {dD:FuncData} (F:aW K "_law_some_of" "_law_some_of" Ff f fd) (B:dB mg) (GD:aI P w K mg base aQ 1 fD dD ["_law_pot_here","_law_many"] pL) (kD:keepIn K (.ref fD)=true) (bD:Binds K dD ["_law_pot_here","_law_many"] []) (mD:mg "_law_digit" = some (.ref fD)) :
  aI P w K mg base aQ 2 f fd ["_law_left","_law_pot_here"] vY:=by
 refine F.ok Hq (fun vs H Q E h=>?_) (fun cdv A outer s H vs Q E hr h=>?_)
 ·unfold vY at h;obtain⟨p,l,ys,rfl,_⟩:=h;rfl
 ·unfold vY at h
  obtain⟨p,l,ys,rfl,hp,hn,hlen,q⟩:=h;have cK:a7 1 _:=hr;refine⟨_,aD (bq (i:=2) Hq.nd rfl (Or.inl rfl) (cX ai))
   (aD (jx jt rfl (pF rfl B.range (af (aZ (Ea rfl) rfl B.min boot_min (af (aZ i7 rfl B.len gW (af (pv 0) ai)) (af (bc GD cK rfl mD kD bD .nil a9 (af (pv 1) (af aP ai))) ai))) ai)) (aX (i:=3) Hq.nd rfl (Or.inl rfl))
    (aK (ig (jc kh qM qN lK (pv 2)
     (af (jc kh akB akC MC (pv 0) (af (bc GD cK rfl mD kD bD .nil a9 (af (pv 1) (af (aZ i7 rfl B.len gW (af (pv 0) ai)) ai))) ai)) ai)))))
   (aK (bf (pv 2)))),?_⟩
  refine⟨bG _,fun fa gn=>?_⟩;have rX:p≠l:=aO (A6 hp hn);have oK:p≠fa:=hp.ne gn;have uj:l≠fa:=ao hn gn;have P0:cq p H (upd H fa (.lst [])):=(cq.refl hp).new gn;have zZ:upd H fa (.lst []) l=some (.lst (ys.map V.str)):=by rw[ah uj];exact hn
  have RV:upd H fa (.lst []) fa=some (.lst []):=ag;generalize upd H fa (.lst [])=H0 at P0 zZ RV ⊢;refine⟨_,rfl,l,_,rfl,.inl (aj.of zZ),?_⟩;refine⟨_,rfl,lN (p:=p) (m:=5) P0.ok (by decide) (by decide) fun d H1 d0 d1 rY=>?_⟩
  have P1:=P0.trans rY;have iX:=rY.kp _ _ zZ (aO rX);have qm:=rY.kp _ _ RV (aO oK);refine⟨_,d,rfl,?_⟩;rw[aA];obtain⟨N,hN,hN4,hNl⟩:∃N:Nat,(if d < (ys.length:Int) then d else (ys.length:Int))=N/\N<=4/\N<=ys.length:=by
   split
   ·exact⟨d.toNat,by omega,by omega,by omega⟩
   ·exact⟨ys.length,rfl,by omega,aR _⟩
  rw[hN];refine⟨(N:Int),rfl,by omega,by omega,uK (fun i σ H1=>∃ (zs ls:List Str) (v3:Option V),σ = [some (.ref l),some (.ref p),some (.ref fa),v3]/\zs.length=i/\(zs++ls).Perm ys/\gf p H1/\(∀b u,H b=some u->b≠p->b≠l->H1 b=some u)/\H1 l=some (.lst (ls.map V.str))/\H1 fa=some (.lst (zs.map V.str)))
   ⟨[],ys,none,rfl,rfl,qK _,P1.ok,fun b u e n _=>P1.kp b u e n,iX,qm⟩ ?_ ?_⟩
  ·rintro i σ H1 hi ⟨zs,ls,v3,rfl,hz,hP,Jz,kc,iX,qm⟩
   have Ga:=hP.length_eq;rw[cZ]at Ga;have Ct:i < N:=by simpa using hi
   have G5:0 < ls.length:=by omega
   refine⟨_,rfl,.inl ⟨rfl,_,aj.of qm⟩,_,rfl,.inl ⟨rfl,_,aj.of iX⟩,_,rfl,_,rfl,l,_,rfl,.inl (aj.of iX),?_⟩;refine lN (p:=p) Jz (by rw[aA];omega) (by rw[aA];omega) fun d H2 d0 d1 pb=>?_
   have j5:=pb.kp _ _ iX (aO rX);have ua:=pb.kp _ _ qm (aO oK);rw[aA]at d1;have hd:d.toNat < ls.length:=by omega
   refine⟨l,_,d,d.toNat,.str ls[d.toNat],rfl,rfl,j5,by omega,by omega,Dk d0 (by rw[aA];exact d1),by rw[eX,cP hd];rfl,?_⟩
   have iu:(upd H2 l (.lst ((ls.map V.str).eraseIdx d.toNat))) fa=some (.lst (zs.map V.str)):=by rw[ah (aO uj)];exact ua
   refine⟨fa,_,_,rfl,rfl,iu,by rw[aA,aN];omega,?_⟩
   refine⟨zs ++ [ls[d.toNat]],ls.eraseIdx d.toNat,_,rfl,by rw[cZ];simp[hz],?_,?_,fun b u e n1 n2=>?_,?_,?_⟩
   ·refine List.Perm.trans ?_ hP
    rw[ux];exact Uz zs (D7 ls _ hd)
   ·obtain⟨x,y,e,r⟩:=pb.ok
    exact⟨x,y,by rw[ah oK,ah rX];exact e,r⟩
   ·rw[ah (ao e gn),ah n2];exact pb.kp _ _ (kc b u e n1 n2) n1
   ·rw[ah uj,ag,Ep]
   ·rw[ag,a8];rfl
  ·rintro σ H1 ⟨zs,ls,v3,rfl,hz,hP,Jz,kc,iX,qm⟩
   have zu:zs.length=N:=by simpa using hz
   exact⟨_,rfl,q fa zs ls H1 hP (by omega) Jz gn kc qm⟩
noncomputable def BL (H:Hp) (l:Addr) (k:Str) (rows:List (List Str)):Prop:= ∃ (l2 p:Addr) (us:List V) (W:List Wi),H l=some (.lst [.ref l2,.str k,.ref p])/\H l2=some (.lst [.str "ring"])/\H p=some (.tup us)/\fX H us W/\mG (nY rows) 10 W
noncomputable def BM (H:Hp) (l:Addr) (aa:aM) (k:Str) (ps:List Str):Prop:= ∃ (l2 r:Addr) (way:List Str) (x:Str),H l=some (.lst [.ref l2,.ref r,.aF])/\H l2=some (.lst [.str "round"])/\H r=some (.tup ((way ++ [k]).map V.str))/\rC aa x (way ++ [k])/\x∈ps/\(∀y∈way ++ [k],y∈keysOf aa)/\way.length<=16
theorem BL.same {k:Str} (h:BL H l k rows) (S:aq H H'):BL H' l k rows:=by
 obtain⟨l2,p,us,W,a,b,c,d,e⟩:=h;exact⟨l2,p,us,W,S _ _ a,S _ _ b,S _ _ c,d.same S,e⟩
theorem BM.same {aa:aM}{k:Str} (h:BM H l aa k ps) (S:aq H H'):BM H' l aa k ps:=by
 obtain⟨l2,r,way,x,a,b,c,d⟩:=h;exact⟨l2,r,way,x,S _ _ a,S _ _ b,S _ _ c,d⟩
inductive n9 (H:Hp) (aa:aM) (k:Str) (ps:List Str):V->Addr->Prop where
 |round {l:Addr}:kG aa k ps->BM H l aa k ps->n9 H aa k ps .aF l
 |ring {l:Addr}{k':Str}{bh:List Str} : ¬ kG aa k ps->(k',bh)∈bH aa k ps->(∀x∈bh,Ln (bH aa k ps) x)->bw (total (rowsOf (aH (bH aa k ps)) bh)) (rowsOf (aH (bH aa k ps)) bh)=none->BL H l k' (rowsOf (aH (bH aa k ps)) bh)->n9 H aa k ps .aF l
 |told {l t':Addr}{told:aM} : ¬ kG aa k ps->FA H t' told->told.Perm (bH aa k ps)->iN told->eu (bH aa k ps)->H l=some (.lst [])->n9 H aa k ps (.ref t') l
theorem n9.same {aa:aM}{k:Str} (h:n9 H aa k ps v l) (S:aq H H'):n9 H' aa k ps v l:=by
 cases h with
 |round a b=>exact .round a (b.same S)
 |ring a b c d e=>exact .ring a b c d (e.same S)
 |told a b c d e g=>exact .told a (b.same S) c d e (S _ _ g)
@[irreducible] noncomputable def vZ:Sp:=fun vs H Q _=>∃ (t pa:Addr) (aa:aM) (k:Str) (ps:List Str),vs = [.ref t,.str k,.ref pa]/\pH H t pa aa k ps /\ ∀r v l H',aq H H'->H' r=some (.tup [v,.ref l])->n9 H' aa k ps v l->Q (.ref r) H'
theorem abb {aa:aM}{k:Str} (m:pH H t pa aa k ps) (q:∀r v l H',aq H H'->H' r=some (.tup [v,.ref l])->n9 H' aa k ps v l->Q (.ref r) H'):vZ [.ref t,.str k,.ref pa] H Q E:=by
 unfold vZ;exact⟨t,pa,aa,k,ps,rfl,m,q⟩
noncomputable abbrev nTr:List Str:= ["_law_family_here","_law_kind","_law_own","_law_told_here","_law_refusal","_law_e"]
theorem tL:b6 nTr ["_law_family_here","_law_kind","_law_own"] (aJ F6):=cF (by decide +kernel)
theorem abc {B0:Addr}{dM:FuncData} (F:aW K "_law_told" "_law_told" F6 f fd) (B:dB mg) (B2:gN mg) (T:vT K mg c)
  (mB:mg "LineError" = some (.ref B0)) (qB:∃ci,eU K B0 ci=true) (me:mroIn K (c 12) (.ref B0)=some true) (me3:mroIn K (c 13) (.ref B0)=some true) (xc:dU K (c 12)) (CV:dU K (c 13)) (fk:findIn K (.ref (c 12)) "kind" = some none) (fr:findIn K (.ref (c 12)) "ring" = some none) (fw:findIn K (.ref (c 13)) "way" = some none)
  (GL:yj P w K mg base 1 fL dL ["_law_e"] (vU K c)) (kL:keepIn K (.ref fL)=true) (bL:Binds K dL ["_law_e"] []) (mL:mg "_law_classes" = some (.ref fL))
  (GM:aI P w K mg base (fb P w) 7 fM dM ["family","kind","parents"] (vX c)) (kM:keepIn K (.ref fM)=true) (bM:Binds K dM ["family","kind","parents"] []) (mM:mg "kind_changed" = some (.ref fM)) :
  aI P w K mg base aQ 8 f fd ["_law_family_here","_law_kind","_law_own"] vZ:=by
 obtain⟨ci,qB⟩:=qB;refine F.ok tL (fun vs H Q E h=>?_) (fun cdv A outer s H vs Q E hr h=>?_)
 ·unfold vZ at h;obtain⟨t,pa,aa,k,ps,rfl,_⟩:=h;rfl
 ·unfold vZ at h
  obtain⟨t,pa,aa,k,ps,rfl,mm,q⟩:=h;have r6:a7 7 _:=hr;have cK:a7 1 _:=r6.mono (by decide)
  refine⟨_,aD (Zj (i:=3) (j:=4) rfl tL.nd rfl rfl (by decide) rfl rfl (af iR (af (cX ai) ai)) rfl)
   (aD (Xt (j:=5) (C:=B0) (fun pins D=>aK (bq (i:=3) tL.nd rfl (Or.inl rfl) (ED GM r6 rfl mM kM bM (af (pv 0) (af (pv 1) (af (pv 2) ai))))))
     tL.nd rfl rfl rfl rfl rfl rfl rfl mB qB (fun a=>aD (bq (i:=4) tL.nd rfl (Or.inl rfl) (cX (af (EH GL (cK.marked _) rfl mL kL bL a9 (af (pv 5) ai)) (af iR (af iR ai)))))
      (aD (cQ (eT (aZ AO rfl B2.ji i9 (af (pv 5) (af (Bd (v:= .ref (c 12)) rfl (T.n (12,"Ring") (by decide)) rfl rfl) ai))))
       (aK (bq (i:=4) tL.nd rfl (Or.inl rfl) (cX (af (EH GL (cK.marked _) rfl mL kL bL a9 (af (pv 5) ai)) (af (Bg (pv 5)) (af (Bg (pv 5)) ai)))))) cU)
      (aK (cQ (eT (aZ AO rfl B2.ji i9 (af (pv 5) (af (Bd (v:= .ref (c 13)) rfl (T.n (13,"Round") (by decide)) rfl rfl) ai))))
       (aK (bq (i:=4) tL.nd rfl (Or.inl rfl) (cX (af (EH GL (cK.marked _) rfl mL kL bL a9 (af (pv 5) ai)) (af (Bg (pv 5)) (af iR ai)))))) cU)))))
   (aK (bf (lQ (af (pv 3) (af (pv 4) ai)))))),?_⟩
  have sz:∀n:Nat,n<=100->n<=sizeLine:=fun n h=>by rw[aN];omega
  refine⟨bG _,fun r0 uh=>⟨_,_,rfl,?_⟩⟩;have S0:=ay (o:= .lst []) uh;have e0:upd H r0 (.lst []) r0=some (.lst []):=ag;generalize upd H r0 (.lst [])=H0 at S0 e0 ⊢;refine⟨_,rfl,_,rfl,_,rfl,aa7 (mm.same S0) (fun hR a H1 S1 ro=>?_) (fun hN k' bh hm hx hg a H1 S1 ro=>?_) fun hN t' told H1 S1 ft pm so al=>?_⟩
  ·refine⟨⟨c 13,rfl,me3⟩,a,rfl,?_⟩
   obtain⟨d,r,way,x,ea,ed,er,wp,hx,JB,hlen⟩:=ro;have ct:oO K c H1 (some (.ref a)) a 13:=⟨⟨_,_,ea,fun d' e=>by cases e;exact⟨_,ed⟩⟩,CV,by decide,rfl,⟨a,_,_,rfl,.inl ea⟩⟩
   refine⟨_,rfl,By ct fun l2 H2 S2 h2=>⟨sz 3 (by decide),fun l3 zC=>?_⟩⟩
   have S3:=S2.trans (ay (o:= .lst [V.ref l2,.aF,.aF]) zC);generalize upd H2 l3 (.lst [V.ref l2,.aF,.aF])=H3 at S3 ⊢;refine⟨_,rfl,a,some .none,c 13,some d,.ref (c 12),.ref (c 12),false,rfl,.inl ⟨_,rfl,rfl⟩,S3 _ _ ea,CV,(fun d' e=>by cases e;exact⟨_,S3 _ _ ed⟩),T.k 13 12 (by decide) (by decide),false,rfl,?_⟩
   refine⟨_,rfl,a,some .none,c 13,some d,.ref (c 13),.ref (c 13),true,rfl,.inl ⟨_,rfl,rfl⟩,S3 _ _ ea,CV,(fun d' e=>by cases e;exact⟨_,S3 _ _ ed⟩),T.k 13 13 (by decide) (by decide),true,rfl,?_⟩
   refine⟨_,rfl,By (ct.same S3) fun l4 H4 S4 h4=>?_⟩;have S4:=S3.trans S4;refine⟨_,rfl,a,_,_,d,_,.ref r,rfl,S4 _ _ ea,S4 _ _ ed,CV,fw,rfl,sz 3 (by decide),fun l5 rS=>?_⟩
   have h4:H4 l4=some (.lst [.str "round"]):=h4;have S5:=ay (o:= .lst [V.ref l4,.ref r,.aF]) rS;refine⟨_,rfl,_,rfl,sz 2 (by decide),fun r1 ix=>?_⟩
   have S6:=S5.trans (ay (o:= .tup [V.aF,.ref l5]) ix);have j8:=S4.trans S6;refine q r1 .aF l5 _ (S0.trans (S1.trans j8)) ag (.round hR ⟨l4,r,way,x,?_,S6 _ _ h4,j8 _ _ er,wp,hx,JB,hlen⟩);rw[ah (ao ag ix)];exact ag
  ·refine⟨⟨c 12,rfl,me⟩,a,rfl,?_⟩
   obtain⟨cx,C',d,lr,p,us,W,ea,ed,ep,hW,rp,ID,ec⟩:=ro;have ct:oO K c H1 (some (.ref a)) a 12:=⟨⟨_,_,ea,fun d' e=>by cases e;exact⟨_,ed⟩⟩,xc,by decide,rfl,⟨a,_,_,rfl,.inr ⟨cx,C',lr,ea,ID,ec⟩⟩⟩
   refine⟨_,rfl,By ct fun l2 H2 S2 h2=>⟨sz 3 (by decide),fun l3 zC=>?_⟩⟩
   have S3:=S2.trans (ay (o:= .lst [V.ref l2,.aF,.aF]) zC);generalize upd H2 l3 (.lst [V.ref l2,.aF,.aF])=H3 at S3 ⊢;refine⟨_,rfl,a,some (.ref cx),c 12,some d,.ref (c 12),.ref (c 12),true,rfl,.inl ⟨_,rfl,rfl⟩,S3 _ _ ea,xc,(fun d' e=>by cases e;exact⟨_,S3 _ _ ed⟩),T.k 12 12 (by decide) (by decide),true,rfl,?_⟩
   refine⟨_,rfl,By (ct.same S3) fun l4 H4 S4 h4=>?_⟩;have S4:=S3.trans S4;refine⟨_,rfl,a,_,_,d,_,.str k',rfl,S4 _ _ ea,S4 _ _ ed,xc,fk,rfl,_,rfl,a,_,_,d,_,.ref p,rfl,S4 _ _ ea,S4 _ _ ed,xc,fr,rfl,sz 3 (by decide),fun l5 rS=>?_⟩
   have h4:H4 l4=some (.lst [.str "ring"]):=h4;have S5:=ay (o:= .lst [V.ref l4,.str k',.ref p]) rS;have rZ:=S4.trans S5;refine⟨_,rfl,a,some (.ref cx),c 12,some d,.ref (c 13),.ref (c 13),false,rfl,.inl ⟨_,rfl,rfl⟩,rZ _ _ ea,xc,(fun d' e=>by cases e;exact⟨_,rZ _ _ ed⟩),T.k 12 13 (by decide) (by decide),false,rfl,?_⟩
   refine⟨_,rfl,_,rfl,sz 2 (by decide),fun r ix=>?_⟩
   have S6:=S5.trans (ay (o:= .tup [V.aF,.ref l5]) ix);have j8:=S4.trans S6;refine q r .aF l5 _ (S0.trans (S1.trans j8)) ag (.ring hN hm hx hg ⟨l4,p,us,W,?_,S6 _ _ h4,j8 _ _ ep,hW.same j8,rp⟩);rw[ah (ao ag ix)];exact ag
  ·refine⟨_,rfl,_,rfl,sz 2 (by decide),fun r ix=>?_⟩
   have S2:=ay (o:= .tup [V.ref t',.ref r0]) ix;exact q r (.ref t') r0 _ (S0.trans (S1.trans S2)) ag (.told hN (ft.same S2) pm so al (S2 _ _ (S1 _ _ e0)))
@[irreducible] noncomputable def wc:Sp:=fun vs H Q _=>∃ (t d ol:Addr) (kvs:List (Key×V)) (ks ps:List Str) (Ps:Str->List Str) (a b:Str) (way:List Str),vs = [.ref t,.ref d,.ref ol,.str b]/\H t=some (.tup ((way ++ [b]).map V.str))/\H d=some (.dK kvs)/\(∀x∈ks,dq H kvs Ps x)/\H ol=some (.lst (ps.map V.str))/\a∈ps /\
 (way ++ [b]).head? = some a/\(∀ (i:Nat) (y z:Str),(way ++ [b])[i]? = some y->(way ++ [b])[i+1]? = some z->y∈ks/\z∈Ps y)/\way.length<=16/\(∀x∈way ++ [b],Nm x) /\ ∀H',aq H H'->Q (.bl true) H'
theorem abd {ol:Addr}{a b:Str}{way:List Str} (ht:H t=some (.tup ((way ++ [b]).map V.str))) (hd:H d=some (.dK kvs)) (hl:∀x∈ks,dq H kvs Ps x) (ho:H ol=some (.lst (ps.map V.str))) (JC:a∈ps)
  (hh:(way ++ [b]).head? = some a) (hc:∀ (i:Nat) (y z:Str),(way ++ [b])[i]? = some y->(way ++ [b])[i+1]? = some z->y∈ks/\z∈Ps y) (h8:way.length<=16) (hn:∀x∈way ++ [b],Nm x) (q:∀H',aq H H'->Q (.bl true) H'):wc [.ref t,.ref d,.ref ol,.str b] H Q E:=by
 unfold wc;exact⟨t,d,ol,kvs,ks,ps,Ps,a,b,way,rfl,ht,hd,hl,ho,JC,hh,hc,h8,hn,q⟩
noncomputable abbrev ur:List Str:= ["_law_told_here","_law_parents_here","_law_own","_law_kind"]
theorem acV:b6 ur ur (aJ sY):=cF (by decide +kernel)
noncomputable abbrev acW:Expr:=fG (tx (vm (qY (cb (b9 sY) 0)) 2))
noncomputable abbrev acX:Expr:=fG (tw (cb (b9 sY) 2))
theorem OI:bX ur (aJ sY) ["_law_one"] [none] (cE acW):=c9 (by decide +kernel)
theorem Gb:bX ur (aJ sY) ["_law_one","_law_other","_law_parents_here"] [none,none,some 1] (cE acX):=c9 (by decide +kernel)
theorem abe (F:aW K "_law_is_way" "_law_is_way" sY f fd) (B:dB mg) (B2:gN mg) (bz:mg "zip" = none):aI P w K mg base aQ 1 f fd ur wc:=by
 refine F.ok acV (fun vs H Q E h=>?_) (fun cdv A outer s H vs Q E hr h=>?_)
 ·unfold wc at h;obtain⟨t,d,ol,kvs,ks,ps,Ps,a,b,way,rfl,_⟩:=h;rfl
 ·unfold wc at h
  obtain⟨t,d,ol,kvs,ks,ps,Ps,a,b,way,rfl,ht,hd,hl,ho,JC,hh,hc,h8,hn,q⟩:=h;have hu:=hr.units;have ck:=k6 hu;refine⟨_,aD (cQ (PW.pt (pw_or (gx (eT (aZ lL rfl B2.ji i9 (af (pv 0) (af (ko (v:= .ty "tuple") rfl B.tuple boot_tuple rfl) ai)))))
    (pw_or (cy (xQ hu) (pv 0) (lQ ai) (cI _))
    (pw_or1 (gx (eT (aZ (nR rfl) rfl B.all boot_all (af (d4 rfl OI (jU (pv 0)) (fun s H fp=>⟨aX (i:=0) OI.nd rfl (Or.inl rfl),eP,aZ (VW K rfl) rfl B2.ji i9 (af (pv 0) (af (ko (v:= .ty "str") rfl B2.str boot_str rfl) ai))⟩)) ai)))))))) (aK (bf gX)) cU)
   (aD (cQ (PW.pt (pw_or (cy qO (cf lR (pv 0) aP (fun _ _=>rfl)) (pv 2) rfl) (pw_or1 (cy sX (cf lR (pv 0) (vt vd aP) (fun _ _=>rfl)) (pv 3) (cI _))))) (aK (bf gX)) cU)
   (aK (bf (aZ (nR rfl) rfl B.all boot_all (af (d4 rfl Gb (YH rfl bz (af (pv 0) (af (pI Yw (pv 0) (nV aP) pK) ai))) (fun s H fp=>⟨A7 (n:=2) K rfl rfl (eF (aX (i:=0) Gb.nd rfl (Or.inl rfl)) (eF (aX (i:=1) Gb.nd rfl (Or.inl rfl)) kq)),eP,
    sL (Bj (Bn ck (pv 0) (pv 2))) (xN (lP (Bf K rfl) (pv 1) (ja ck (pv 2) (pv 0) (fun _ _=>rfl)) rfl))⟩)) ai))))),?_⟩
  have hlen:(way ++ [b]).length=way.length+1:=by simp
  have acY:cC ((way ++ [b]).map V.str) 0=some (V.str a):=by
   cases hw:way ++ [b] with
   |nil=>rw[hw]at hh;cases hh
   |cons x r=>rw[hw]at hh;cases hh;exact jK
  have acZ:cC ((way ++ [b]).map V.str) (-1)=some (V.str b):=by rw[a8];exact MB _ _
  have lay:(PyData.tuple ((way ++ [b]).map PyData.str)).canLay0=true:=jT hn;refine⟨_,rfl,⟨_,.inr ⟨"tuple",rfl⟩⟩,.ref t,.ty "tuple",.type "tuple",.type "tuple",true,rfl,rfl,.inl (.tup ht),rfl,true,rfl,?_⟩;refine⟨_,rfl,bG _,fun e he=>?_⟩;have S1:=ay (o:= .tup []) he;refine⟨.tuple ((way ++ [b]).map PyData.str),.tuple [],.tup (S1 _ _ ht) (lO _ _),.tup ag .nil,lay,rfl,by show PyData.depthAll _+1<=60;rw[pE];decide,_,rfl,?_⟩
  have e0:PyData.eqv (.tuple ((way ++ [b]).map PyData.str)) (.tuple [])=false:=by
   show PyData.eqvAll _ (List.map PyData.str [])=false;rw[EU];exact jN (by simp)
  rw[e0];generalize upd H e (.tup [])=H1 at S1 ⊢;have j9:=S1 _ _ ht;refine⟨_,rfl,t,rfl,⟨_,aC.of j9⟩,fun p hp=>?_⟩;refine jQ (xs:=(way ++ [b]).map V.str) (fun i ys τ H2=>∃t0:Option V,τ = [t0]/\ys=(List.replicate i true).map V.bl/\H2=upd H1 p (.lst ys)) ⟨none,rfl,rfl,rfl⟩ (fun i ys τ H2 ⟨_,_,_,z⟩=>by rw[z];exact⟨ag,aC.of (by rw[ah (ao j9 hp)];exact j9)⟩) ?_ ?_
  ·rintro i x ys τ H2 hx ⟨t0,rfl,rfl,rfl⟩
   have cG:i < ((way ++ [b]).map V.str).length:=(cR.mp hx).1;have eJ:i < (way ++ [b]).length:=by simpa using cG
   obtain rfl:V.str (way ++ [b])[i]=x:=by
    rw[eX,cP eJ]at hx;exact f' hx
   refine⟨_,rfl,⟨_,.inr ⟨"str",rfl⟩⟩,.str (way ++ [b])[i],.ty "str",.type "str",.type "str",true,rfl,rfl,.inl (.str _),rfl,ag,by rw[aA,sh,aN];omega,cw_next cG ⟨_,rfl,?_,?_⟩⟩
   ·rw[uC,a8];rfl
   ·rw[ie]
  ·rintro ys τ H2 ⟨t0,rfl,rfl,rfl⟩
   refine⟨p,_,rfl,aj.of ag,_,rfl,?_⟩;have:(List.replicate ((way ++ [b]).map V.str).length true).all id=true:=by simp
   rw[this];have S2:=S1.trans (ay (o:= .lst ((List.replicate ((way ++ [b]).map V.str).length true).map V.bl)) hp);generalize upd H1 p (.lst ((List.replicate ((way ++ [b]).map V.str).length true).map V.bl))=H2 at S2 ⊢;have wZ:=S2 _ _ ht;refine⟨_,rfl,t,_,0,_,rfl,rfl,aC.of wZ,acY,_,rfl,ol,_,rfl,.inl (aj.of (S2 _ _ ho)),rfl,i8 _,_,rfl,?_⟩;rw[jR];refine ite_ff (by simp[JC]) ?_
   refine⟨_,rfl,1,rfl,t,_,-1,_,rfl,rfl,aC.of wZ,acZ,_,rfl,rfl,_,rfl,?_⟩;refine ite_ff (by simp) ?_
   refine⟨_,rfl,_,rfl,1,rfl,t,_,rfl,wZ,fun sp H3 S3 h3=>?_⟩;have ac0:d6 ((way ++ [b]).map V.str) (some 1) none=((way ++ [b]).drop 1).map V.str:=by rw[Dz];exact EJ _ 1
   rw[ac0]at h3;have S3:=S2.trans S3;have wW:=S3 _ _ ht;have iL:=S3 _ _ hd;refine⟨t,sp,rfl,⟨_,aC.of wW⟩,⟨_,aC.of h3⟩,fun c qv=>?_⟩;refine WU way.length (by rw[aA,aA,Ag,hlen];omega) (fun i ys τ H4=>∃t0 t1:Option V,τ = [t0,t1,some (.ref d)]/\ys=(List.replicate i true).map V.bl/\aq H3 H4/\H4 c=some (.lst ys)) ⟨none,none,rfl,rfl,ay qv,ag⟩ (fun i ys τ H4 ⟨_,_,_,_,z,z2⟩=>⟨z2,aC.of (z _ _ wW),aC.of (z _ _ h3)⟩) ?_ ?_
   ·rintro i x y ys τ H4 tt hx hy ⟨t0,t1,rfl,rfl,S4,h4⟩ JD
    rw[eX]at hx hy;obtain⟨u,hu_,rfl⟩:=ib.mp hx;obtain⟨v,RW,rfl⟩:=ib.mp hy;have RX:(way ++ [b])[i+1]? = some v:=by rw[List.getElem?_drop]at RW;rw[Nat.add_comm];exact RW
    obtain⟨huk,hvp⟩:=hc i u v hu_ RX;have eJ:i+1 < (way ++ [b]).length:=(cR.mp RX).1;obtain⟨pa,ep,fo⟩:=hl u huk;have St:=ay (o:= .tup [V.str u,V.str v]) JD;have S5:=S3.trans (S4.trans St);refine⟨tt,_,rfl,aC.of ag,rfl,_,_,rfl,_,_,rfl,rfl,?_⟩;refine⟨_,rfl,_,rfl,d,_,rfl,fh.k (k:=Sum.inr u) (S5 _ _ hd),?_⟩;rw[ep];refine⟨true,rfl,?_⟩;refine⟨_,rfl,_,rfl,_,rfl,d,.ref pa,rfl,.inl ⟨kvs,Sum.inr u,.inl (S5 _ _ hd),rfl,ep.symm⟩,?_⟩;refine⟨pa,_,rfl,.inl (aj.of (S5 _ _ fo)),rfl,i8 _,?_⟩;rw[au de,jR,gI hvp];have htc:tt≠c:=fun z=>by rw[z,h4]at JD;cases JD
    refine⟨St _ _ h4,by rw[aA,sh,aN];omega,cw_next (by omega) ⟨_,_,rfl,?_,fun b u e=>?_,ag⟩⟩
    ·rw[uC,a8];rfl
    ·rw[ah (ao e qv)];exact St _ _ (S4 b u e)
   ·rintro ys τ H4 ⟨t0,t1,rfl,rfl,S4,h4⟩
    refine⟨c,_,rfl,aj.of h4,?_⟩;have:(List.replicate way.length true).all id=true:=by simp
    rw[this];exact q _ (S3.trans S4)
def ac1 (H:Hp) (kvs:List (Key×V)) (L Ps:Str->List Str) (x:Str):Prop:= ∃a ws,bU kvs (Sum.inr x)=some (.ref a)/\H a=some (.lst ws)/\dj (fun _=>True) H ws (rowsOf L (Ps x))
theorem dj.vH (h:dj (fun _=>True) H ws rows) (k:∀b xs,H b=some (.lst xs)->H' b=some (.lst xs)):dj (fun _=>True) H' ws rows:=Paired.imp' (fun _ _ ⟨a,e,n,q⟩=>⟨a,e,n,k _ _ q⟩) h
theorem Wl (h:dj (fun _=>True) H ws rows) (n:True) (q:H a=some (.lst (r.map V.str))):dj (fun _=>True) H (ws ++ [.ref a]) (rows ++ [r]):=by
 induction h with
 |nil=>exact .cons ⟨a,rfl,n,q⟩ .nil
 |cons p _ ih=>exact .cons p ih
structure AL (aa:aM) (ks:List Str) (Ps:Str->List Str) (H:Hp) (dl df:Addr) (lk fk:List (Key×V)):Prop where
 hl:H dl=some (.dK lk)
 hf:H df=some (.dK fk)
 ln:∀x,isDone lk x=true->x∈ks/\Ln aa x/\dq H lk (aH aa) x
 fl:∀x,isDone fk x=true->x∈ks/\lU aa x/\ac1 H fk (aH aa) Ps x
 nd:(lk.map (·.1)).Nodup/\(fk.map (·.1)).Nodup
 ky:(∀k∈lk.map (·.1),∃x,k=Sum.inr x) /\ ∀k∈fk.map (·.1),∃x,k=Sum.inr x
theorem AL.keep {aa:aM} (A:AL aa ks Ps H dl df lk fk) (k:∀b o,H b=some o->(∀xs,o ≠ .cB xs (.dK []))->b=dl\/b=df\/(∃xs,o = .lst xs)->H' b=some o):AL aa ks Ps H' dl df lk fk:=by
 have kl:∀b xs,H b=some (.lst xs)->H' b=some (.lst xs):=fun b xs e=>k b _ e (by intro _ z;cases z) (.inr (.inr ⟨xs,rfl⟩))
 refine⟨k _ _ A.hl (by intro _ z;cases z) (.inl rfl),k _ _ A.hf (by intro _ z;cases z) (.inr (.inl rfl)),fun x hx=>?_,fun x hx=>?_,A.nd,A.ky⟩
 ·obtain⟨a,b,c,e,q⟩:=A.ln x hx
  exact⟨a,b,c,e,kl _ _ q⟩
 ·obtain⟨a,b,c,ws,e,q,r⟩:=A.fl x hx
  exact⟨a,b,c,ws,e,kl _ _ q,dj.vH r kl⟩
theorem AL.same {aa:aM} (A:AL aa ks Ps H dl df lk fk) (S:aq H H'):AL aa ks Ps H' dl df lk fk:=A.keep fun b o e _ _=>S b o e
theorem LR {k:Str}:isDone (putK kvs (Sum.inr k) v) x=true ↔ x=k\/isDone kvs x=true:=by
 unfold isDone;rw[lM]
 by_cases e:x=k
 ·subst e;simp
 ·rw[au (fun z=>e (nL z))];simp[e]
theorem Bi {k:Str} (h:isDone kvs k=false):(putK kvs (Sum.inr k) v).length=kvs.length+1:=by
 have:bU kvs (Sum.inr k)=none:=by
  unfold isDone at h;cases e:bU kvs (Sum.inr k) with
  |none=>rfl
  |some _=>rw[e]at h;cases h
 rw[MH v this,cZ,i6]
theorem AL.ac2 {aa:aM}{d1 d2:Addr} (A:AL aa ks Ps H d1 d2 lk fk) (nK:d1≠d2) (hx:x∈ks) (sk:lU aa x) (ha:H a=some (.lst ws)) (hR:dj (fun _=>True) H ws (rowsOf (aH aa) (Ps x))) :
  AL aa ks Ps (upd H d2 (.dK (putK fk (Sum.inr x) (.ref a)))) d1 d2 lk (putK fk (Sum.inr x) (.ref a)):=by
 have kl:∀b xs,H b=some (.lst xs)->upd H d2 (.dK (putK fk (Sum.inr x) (.ref a))) b=some (.lst xs):=fun b xs e=>by rw[ah (bg e A.hf)];exact e
 refine⟨by rw[ah nK];exact A.hl,ag,fun y hy=>?_,fun y hy=>?_,⟨A.nd.1,Fg A.nd.2⟩,A.ky.1,fun k hk=>?_⟩
 ·obtain⟨h1,h2,c,e,q⟩:=A.ln y hy
  exact⟨h1,h2,c,e,kl _ _ q⟩
 ·by_cases e:y=x
  ·subst e
   exact⟨hx,sk,a,ws,by rw[lM,aB rfl],kl _ _ ha,dj.vH hR kl⟩
  ·obtain⟨h1,h2,c,us,e1,q,r⟩:=A.fl y ((LR.mp hy).resolve_left e)
   exact⟨h1,h2,c,us,by rw[lM,au (fun z=>e (nL z))];exact e1,kl _ _ q,dj.vH r kl⟩
 ·rcases EN.mp hk with rfl|z
  ·exact⟨x,rfl⟩
  ·exact A.ky.2 k z
theorem AL.ac3 {aa:aM}{d1 d2:Addr} (A:AL aa ks Ps H d1 d2 lk fk) (nK:d1≠d2) (hx:x∈ks) (ln:Ln aa x) (ha:H a=some (.lst ((aH aa x).map V.str))) :
  AL aa ks Ps (upd H d1 (.dK (putK lk (Sum.inr x) (.ref a)))) d1 d2 (putK lk (Sum.inr x) (.ref a)) fk:=by
 have kl:∀b xs,H b=some (.lst xs)->upd H d1 (.dK (putK lk (Sum.inr x) (.ref a))) b=some (.lst xs):=fun b xs e=>by rw[ah (bg e A.hl)];exact e
 refine⟨ag,by rw[ah (aO nK)];exact A.hf,fun y hy=>?_,fun y hy=>?_,⟨Fg A.nd.1,A.nd.2⟩,fun k hk=>?_,A.ky.2⟩
 ·by_cases e:y=x
  ·subst e
   exact⟨hx,ln,a,by rw[lM,aB rfl],kl _ _ ha⟩
  ·obtain⟨h1,h2,c,e1,q⟩:=A.ln y ((LR.mp hy).resolve_left e)
   exact⟨h1,h2,c,by rw[lM,au (fun z=>e (nL z))];exact e1,kl _ _ q⟩
 ·obtain⟨h1,h2,c,us,e1,q,r⟩:=A.fl y hy
  exact⟨h1,h2,c,us,e1,kl _ _ q,dj.vH r kl⟩
 ·rcases EN.mp hk with rfl|z
  ·exact⟨x,rfl⟩
  ·exact A.ky.1 k z
theorem Ya (ha:H a=some (.lst (ps.map V.str))) (hd:H d=some (.dK kvs)) (hp:H p=none) (hs:ps.length<=100)
  (q:Q (.ref p) (upd H p (.lst ((ps.map (isDone kvs)).map V.bl)))):jz (rE K a) (sV 0) yf (Gx (lV 0) (lV 1)) [none,some (.ref d)] Q p H:=by
 have qt:a≠p:=ao ha hp;have qu:d≠p:=ao hd hp;refine iP (xs:=ps.map V.str) (fun j zs τ H2=>∃t1:Option V,τ = [t1,some (.ref d)]/\zs=((ps.take j).map (isDone kvs)).map V.bl/\H2=upd H p (.lst zs)) ⟨none,rfl,rfl,rfl⟩ (fun j zs τ H2 ⟨_,_,_,z⟩=>by rw[z];exact⟨ag,aj.of (by rw[ah qt];exact ha)⟩) ?_ ?_
 ·rintro j x zs τ H2 hx ⟨t1,rfl,rfl,rfl⟩
  obtain⟨cG,nI,rfl,i3⟩:=jV hx;refine⟨_,rfl,_,rfl,d,_,rfl,fh.k (k:=Sum.inr ps[j]) (by rw[ah qu];exact hd),ag,?_,cw_next cG ⟨_,rfl,?_,by rw[ie]⟩⟩
  ·rw[aA,aA,dJ,aN];omega
  ·rw[i3,a8,a8];rfl
 ·rintro zs τ H2 ⟨t1,rfl,rfl,rfl⟩
  rw[aA,du];exact q
def we (ks:List Str) (Ps:Str->List Str) (lk fk:List (Key×V)):Prop:= ∀x∈ks,(∀y∈Ps x,isDone lk y=true)->isDone lk x=true\/isDone fk x=true
theorem AL.all {aa:aM} (A:AL aa ks Ps H dl df lk fk) (st:cw aa) (hf:∀p,p∈aa ↔ p.1∈ks/\p.2=Ps p.1) (h:we ks Ps lk fk\/ks.length<=lk.length+fk.length) :
  (∀x,Ln aa x->isDone lk x=true) /\ ∀x,lU aa x->isDone fk x=true:=by
 have i4:∀x,isDone lk x=true->isDone fk x=true->False:=fun x h1 h2=>(A.fl x h2).2.1.no st (A.ln x h1).2.1;have cl:we ks Ps lk fk:=by
  rcases h with h|h
  ·exact h
  ·intro x hx _
   have nd:(lk.map (·.1)++fk.map (·.1)).Nodup:=by
    rw[mr];refine⟨A.nd.1,A.nd.2,fun a ha b hb e=>?_⟩;subst e;obtain⟨y,rfl⟩:=A.ky.1 a ha;exact i4 y (km ha) (km hb)
   have:=N8 nd (b:=ks.map (Sum.inr:Str->Key)) (fun k hk=>?_) (by simp only[cZ,aA];omega) (aU.mpr ⟨x,hx,rfl⟩)
   ·rcases dH.mp this with z|z
    ·exact .inl (km z)
    ·exact .inr (km z)
   ·rcases dH.mp hk with z|z
    ·obtain⟨y,rfl⟩:=A.ky.1 k z
     exact aU.mpr ⟨y,(A.ln y (km z)).1,rfl⟩
    ·obtain⟨y,rfl⟩:=A.ky.2 k z
     exact aU.mpr ⟨y,(A.fl y (km z)).1,rfl⟩
 have ln:∀x,Ln aa x->isDone lk x=true:=fun x hx=>by
  refine closed st (D:=fun x=>isDone lk x=true) (B:=lU aa) (fun k hk=>hk.no st) (fun p hp hx=>?_) hx;obtain⟨h1,h2⟩:=(hf p).mp hp;rcases cl p.1 h1 (fun y hy=>hx y (by rw[h2];exact hy)) with z|z
  ·exact .inl z
  ·exact .inr (A.fl _ z).2.1
 refine⟨ln,fun x hx=>?_⟩;obtain⟨ps,hm,hp,hg⟩:=id hx;obtain⟨h1,h2⟩:=(hf _).mp hm;rcases cl x h1 (fun y hy=>ln y (hp y (by rw[show ps=Ps x from h2];exact hy))) with z|z
 ·exact absurd (A.ln x z).2.1 (hx.no st)
 ·exact z
def rq (H:Hp) (d:Addr) (kvs:List (Key×V)):Prop:=(∃o,H d=some (.cB o (.dK kvs)))\/H d=some (.dK kvs)
theorem M7 {g:TG} (hs:σ[i]? = some (some (.ref d))) (hh:rq H d kvs)
  (q:∀o H',H' d=some (.cB o (.dK kvs))->(∀b u,H b=some u->b≠d->H' b=some u) -> ∃W:Nat->Nat->St->Hp->Prop,(∃m,W 0 m σ H') /\ ∀i m σ H,W i m σ H ->
   ((qk d o kvs).stop i H/\D.nx σ H)\/((qk d o kvs).go i H /\ ∃N:St->Hp->Prop,(∀aG H',N aG H' -> ∃m',m' < m/\W (i+1) m' aG H') /\ ∀x H',(qk d o kvs).oB i H x H'->g x σ H' fun gj H2=>tb { D with nx:=N,ct:=N,bk:=D.nx } gj H2)):OT (Ow (lV i)) g tb D σ H:=by
 refine⟨_,hs,d,kvs,rfl,?_⟩;rcases hh with⟨o,h⟩|h
 ·exact .inr ⟨o,h,q o H h fun b u e _=>e⟩
 ·exact .inl ⟨h,fun o=>q o _ ag fun b u e n=>by rw[ah n];exact e⟩
structure mH (H:Hp) (d:Addr) (kvs:List (Key×V)) (ks:List Str) (Ps:Str->List Str):Prop where
 hk:kvs.map (·.1)=ks.map Sum.inr
 pl:∀x∈ks,dq H kvs Ps x
 k8:ks.length<=8
@[irreducible] noncomputable def wg:Sp:=fun vs H Q _=>∃ (d:Addr) (kvs:List (Key×V)) (ks:List Str) (Ps:Str->List Str) (aa:aM),vs = [.ref d]/\H d=some (.dK kvs)/\mH H d kvs ks Ps/\cw aa/\(∀p,p∈aa ↔ p.1∈ks/\p.2=Ps p.1)/\ks.Nodup /\
 ∀r dl df lk fk H',H dl=none->(∀b u,H b=some u->b≠d->H' b=some u)->rq H' d kvs->H' r=some (.tup [.ref dl,.ref df])->AL aa ks Ps H' dl df lk fk->(∀x,Ln aa x->isDone lk x=true)->(∀x,lU aa x->isDone fk x=true)->Q (.ref r) H'
theorem abf {aa:aM} (hd:H d=some (.dK kvs)) (D:mH H d kvs ks Ps) (st:cw aa) (hf:∀p,p∈aa ↔ p.1∈ks/\p.2=Ps p.1) (nd:ks.Nodup)
  (q:∀r dl df lk fk H',H dl=none->(∀b u,H b=some u->b≠d->H' b=some u)->rq H' d kvs->H' r=some (.tup [.ref dl,.ref df])->AL aa ks Ps H' dl df lk fk->(∀x,Ln aa x->isDone lk x=true)->(∀x,lU aa x->isDone fk x=true)->Q (.ref r) H'):wg [.ref d] H Q E:=by
 unfold wg;exact⟨d,kvs,ks,Ps,aa,rfl,hd,D,st,hf,nd,q⟩
noncomputable abbrev JE:List Str:= ["_law_parents_here","_law_lines","_law_falls","_law_turn","_law_kind","_law_found"]
theorem wj:b6 JE ["_law_parents_here"] (aJ uN):=cF (by decide +kernel)
def abg (e:Expr):Expr:=match e with|.BinOp a _ _ _=>a|_=>.Constant .none 0 ⟨0,0,0,0⟩
noncomputable abbrev RY:Stmt:=cb (qR (cb (qR (cb (b9 uN) 1)) 0)) 0
def abh (e:Expr) (i:Nat):Expr:=match e with|.BoolOp _ es _=>es.getD i (.Constant .none 0 ⟨0,0,0,0⟩)|_=>.Constant .none 0 ⟨0,0,0,0⟩
noncomputable abbrev ac4:Expr:=fG (abh (qY RY) 2)
noncomputable abbrev ac5:Expr:=abg (fB (cb (Bq (cb (Bq RY) 1)) 0))
theorem OJ:bX JE (aJ uN) ["_law_one","_law_lines"] [none,some 1] (cE ac4):=c9 (by decide +kernel)
theorem OL:bX JE (aJ uN) ["_law_one","_law_lines"] [none,some 1] (cE ac5):=c9 (by decide +kernel)
theorem abi (F:aW K "_law_all_lines" "_law_all_lines" uN f fd) (B:dB mg)
  (GL:aI P w K mg base aQ 2 fL dL ["_law_lines","_law_kind","_law_own"] tG) (kL:keepIn K (.ref fL)=true) (bL:Binds K dL ["_law_lines","_law_kind","_law_own"] []) (mL:mg "_law_line" = some (.ref fL)) :
  aI P w K mg base aQ 3 f fd ["_law_parents_here"] wg:=by
 refine F.ok wj (fun vs H Q E h=>?_) (fun cdv A outer s H vs Q E hr h=>?_)
 ·unfold wg at h;obtain⟨d,kvs,ks,Ps,aa,rfl,_⟩:=h;rfl
 ·unfold wg at h
  obtain⟨d,kvs,ks,Ps,aa,rfl,hd,D,st,R6,knd,q⟩:=h;have iZ:a7 2 _:=hr;have hu:=hr.units;have ck:=k6 hu;refine⟨_,aD (qV (lQ (af uX (af uX ai))) (pN rfl (eF (aX (i:=1) wj.nd rfl (Or.inr rfl)) (eF (aX (i:=2) wj.nd rfl (Or.inl rfl)) kq))))
   (aD (jx jt rfl (pF rfl B.range (af (aZ Ej rfl B.len gW (af (pv 0) ai)) ai)) (aX (i:=3) wj.nd rfl (Or.inl rfl))
    (aK (jx jt rfl (Nr (pv 0)) (aX (i:=4) wj.nd rfl (Or.inl rfl))
     (aK (cQ (PW.pt (pw_and (Fn (Eg ck (pv 4) (pv 1))) (pw_and (Fn (Eg ck (pv 4) (pv 2)))
       (pw_and1 (eT (aZ (nR rfl) rfl B.all boot_all (af (d4 rfl OJ (gJ (ja ck (pv 0) (pv 4) (fun _ _=>rfl))) (fun s H fp=>⟨aX (i:=0) OJ.nd rfl (Or.inl rfl),eP,Bj (Bn ck (pv 0) (pv 1))⟩)) ai)))))))
      (aD (bq (i:=5) wj.nd rfl (Or.inl rfl) (bc GL iZ rfl mL kL bL .nil a9 (af (pv 1) (af (pv 4) (af (ja ck (pv 0) (pv 4) (fun _ _=>rfl)) ai)))))
      (aK (cQ (cy xP (pv 5) iR (cI _))
       (aK (sG ck (pv 2) (pv 4) (c8 pO (d4 rfl OL (gJ (ja ck (pv 0) (pv 4) (fun _ _=>rfl))) (fun s H fp=>⟨aX (i:=0) OL.nd rfl (Or.inl rfl),eP,ja ck (pv 1) (pv 0) (fun _ _=>rfl)⟩)) (cX (af (eO uG rfl B.list boot_list (af (ja ck (pv 0) (pv 4) (fun _ _=>rfl)) ai)) ai))) rfl))
       (aK (sG ck (pv 1) (pv 4) (pv 5) rfl))))) cU)))))
   (aK (bf (lQ (af (pv 1) (af (pv 2) ai)))))),?_⟩
  intro d1 iJ d2 hd2;have nK:d1≠d2:=ao ag hd2;refine⟨ng,fun tp uk=>?_⟩;have k2:(upd (upd H d1 (.dK [])) d2 (.dK [])) d1=some (.dK []):=by rw[ah nK];exact ag
  have S3:aq H (upd (upd (upd H d1 (.dK [])) d2 (.dK [])) tp (.tup [V.ref d1,.ref d2])):=(ay iJ).trans ((ay hd2).trans (ay uk));have R8:upd (upd (upd H d1 (.dK [])) d2 (.dK [])) tp (.tup [V.ref d1,.ref d2]) d1=some (.dK []):=by rw[ah (ao k2 uk)];exact k2
  have zm:upd (upd (upd H d1 (.dK [])) d2 (.dK [])) tp (.tup [V.ref d1,.ref d2]) d2=some (.dK []):=by rw[ah (ao ag uk)];exact ag
  have Cz:d≠d1:=ao hd iJ;have oM:d≠d2:=ao hd ((ay iJ).free hd2);refine⟨tp,_,rfl,aC.of ag,rfl,_,_,rfl,_,_,rfl,rfl,?_⟩;generalize upd (upd (upd H d1 (.dK [])) d2 (.dK [])) tp (.tup [V.ref d1,.ref d2])=H0 at S3 R8 zm ⊢;have A0:AL aa ks Ps H0 d1 d2 [] []:=⟨R8,zm,fun x hx=>(by cases hx),fun x hx=>(by cases hx),⟨pz,pz⟩,fun k hk=>(by cases hk),fun k hk=>(by cases hk)⟩
  have kl:kvs.length=ks.length:=by have:=fc List.length D.hk;simpa using this
  have k8:=D.k8;have abj:∀ {i:Nat}{kv:Key×V},kvs[i]? = some kv -> ∃x,ks[i]? = some x/\kv.1=Sum.inr x:=fun {i kv} h=>by
   have h2:(kvs.map (·.1))[i]? = some kv.1:=by rw[eX,h];rfl
   rw[D.hk,eX]at h2;obtain⟨x,h3,h4⟩:=ib.mp h2;exact⟨x,h3,h4.symm⟩
  refine⟨_,rfl,d,kvs,rfl,S3 _ _ hd,(kvs.length:Int),rfl,by omega,by omega,uK (fun i σ H1=>∃ (lk fk:List (Key×V)) (v3 v4 v5:Option V),σ = [some (.ref d),some (.ref d1),some (.ref d2),v3,v4,v5]/\AL aa ks Ps H1 d1 d2 lk fk/\(∀b u,H b=some u->b≠d->H1 b=some u)/\rq H1 d kvs/\(we ks Ps lk fk\/i<=lk.length+fk.length))
   ⟨[],[],none,none,none,rfl,A0,fun b u e _=>S3 _ _ e,.inr (S3 _ _ hd),.inr (bG _)⟩ (fun i0 σ H1 hi hP=>?_) (fun σ H1 hP=>?_)⟩
  ·obtain⟨lk,fk,v3,v4,v5,rfl,A1,kc,CY,z0⟩:=hP
   refine M7 rfl CY fun o H2 ql Qa=>?_;have qy:∀b u,H b=some u->b≠d->H2 b=some u:=fun b u e n=>Qa b u (kc b u e n) n;have A2:AL aa ks Ps H2 d1 d2 lk fk:=A1.keep fun b u e _ c=>Qa b u e (by
    rcases c with rfl|rfl|⟨xs,rfl⟩
    ·exact aO Cz
    ·exact aO oM
    ·rcases CY with⟨o',h⟩|h
     ·exact bg e h
     ·exact bg e h)
   refine MO (fun j σ H3=>∃ (lk fk:List (Key×V)) (v4 v5:Option V),σ = [some (.ref d),some (.ref d1),some (.ref d2),some (.int (0+(i0:Int))),v4,v5]/\AL aa ks Ps H3 d1 d2 lk fk/\(∀b u,H b=some u->b≠d->H3 b=some u)/\H3 d=some (.cB o (.dK kvs))/\(we ks Ps lk fk\/i0<=lk.length+fk.length)/\(i0+1<=lk.length+fk.length \/ ∀x∈ks.take j,(∀y∈Ps x,isDone lk y=true)->isDone lk x=true\/isDone fk x=true))
    ⟨lk,fk,v4,v5,rfl,A2,qy,ql,z0,.inr fun x hx=>(by cases hx)⟩ (fun j σ H3 _ hQ9=>by obtain⟨_,_,_,_,_,_,_,z,_⟩:=hQ9;exact z) ?_ ?_
   ·rintro j kv σ H3 fV ⟨lk,fk,v4,v5,rfl,A3,qz,iL,JF,CZ⟩
    obtain⟨x,R',ek⟩:=abj fV;have hx:x∈ks:=ia R';have tk:ks.take (j+1)=ks.take j ++ [x]:=by rw[gu,R'];rfl
    rw[ek];have w4:(x,Ps x)∈aa:=(R6 _).mpr ⟨hx,rfl⟩;have Sa:∀ {b:Addr}{u:HO},H b=some u->b≠d->b≠d1/\b≠d2:=fun e n=>⟨ao e iJ,ao e ((ay iJ).free hd2)⟩;obtain⟨pa,ep,BG⟩:=D.pl x hx;have ac6:pa≠d:=bg BG hd
    have fo:=qz _ _ BG ac6;have lkn:lk.length<=8/\fk.length<=8:=by
     constructor
     ·have:=pV A3.nd.1 (b:=ks.map (Sum.inr:Str->Key)) fun k hk=>by
       obtain⟨y,rfl⟩:=A3.ky.1 k hk;exact aU.mpr ⟨y,(A3.ln y (km hk)).1,rfl⟩
      simp only[aA]at this;omega
     ·have:=pV A3.nd.2 (b:=ks.map (Sum.inr:Str->Key)) fun k hk=>by
       obtain⟨y,rfl⟩:=A3.ky.2 k hk;exact aU.mpr ⟨y,(A3.fl y (km hk)).1,rfl⟩
      simp only[aA]at this;omega
    have C0:∀ {G:Hp},G d=some (.cB o (.dK kvs))->fh G d (.str x) (some (.ref pa)):=fun h=>.inl ⟨kvs,Sum.inr x,.inr ⟨o,h⟩,rfl,ep.symm⟩;have skip:∀ {G:Hp}{v:Option V},AL aa ks Ps G d1 d2 lk fk->(∀b u,H b=some u->b≠d->G b=some u)->G d=some (.cB o (.dK kvs))->((∀y∈Ps x,isDone lk y=true)->isDone lk x=true\/isDone fk x=true) -> ∃ (lk fk:List (Key×V)) (v4 v5:Option V),[some (.ref d),some (.ref d1),some (.ref d2),some (.int (0+(i0:Int))),some (.str x),v] = [some (.ref d),some (.ref d1),some (.ref d2),some (.int (0+(i0:Int))),v4,v5]/\AL aa ks Ps G d1 d2 lk fk/\(∀b u,H b=some u->b≠d->G b=some u)/\G d=some (.cB o (.dK kvs))/\(we ks Ps lk fk\/i0<=lk.length+fk.length)/\(i0+1<=lk.length+fk.length \/ ∀x∈ks.take (j+1),(∀y∈Ps x,isDone lk y=true)->isDone lk x=true\/isDone fk x=true):=fun A' rM tO h=>by
     refine⟨lk,fk,_,_,rfl,A',rM,tO,JF,CZ.imp id fun g y hy=>?_⟩;rw[tk]at hy;rcases dH.mp hy with z|z
     ·exact g y z
     ·rw[ff.mp z];exact h
    refine⟨_,rfl,_,rfl,d1,_,rfl,fh.k (k:=Sum.inr x) A3.hl,_,rfl,?_⟩;cases e1:isDone lk x with
    |true =>
     rw[show(bU lk (Sum.inr x)).isSome=true from e1];exact skip A3 qz iL fun _=>.inl e1
    |false =>
    rw[show(bU lk (Sum.inr x)).isSome=false from e1];refine⟨_,rfl,_,rfl,d2,_,rfl,fh.k (k:=Sum.inr x) A3.hf,_,rfl,?_⟩;cases e2:isDone fk x with
    |true =>
     rw[show(bU fk (Sum.inr x)).isSome=true from e2];exact skip A3 qz iL fun _=>.inr e2
    |false =>
    rw[show(bU fk (Sum.inr x)).isSome=false from e2];refine⟨_,rfl,_,rfl,d,.ref pa,rfl,C0 iL,pa,rfl,⟨_,aj.of fo⟩,fun c hc=>Ya fo A3.hl hc (dG (st.four _ w4) (by decide)) ⟨c,_,rfl,aj.of ag,_,rfl,?_⟩⟩
    have S4:=ay (o:= .lst (((Ps x).map (isDone lk)).map V.bl)) hc;generalize upd H3 c (.lst (((Ps x).map (isDone lk)).map V.bl))=H4 at S4 ⊢;have A4:=A3.same S4;have iC:∀b u,H b=some u->b≠d->H4 b=some u:=fun b u e n=>S4 _ _ (qz b u e n);have iM:=S4 _ _ iL;have Qb:=S4 _ _ fo;refine fq (fun ha=>?_) (fun ha=>?_)
    rotate_left
    ·refine skip A4 iC iM fun z=>absurd ?_ ha
     rw[U0,o7];exact z
    have JG:∀y∈Ps x,isDone lk y=true:=by rw[U0,o7]at ha;exact ha
    have C1:∀y∈Ps x,Ln aa y:=fun y hy=>(A4.ln y (JG y hy)).2.1;have Se:∀y∈Ps x,dq H4 lk (aH aa) y:=fun y hy=>(A4.ln y (JG y hy)).2.2;have sm:=D6 st w4 C1;have rn:∀r∈rowsOf (aH aa) (Ps x),r.Nodup:=fun r hr=>by
     rcases lJ.mp hr with⟨y,hy,rfl⟩|rfl
     ·exact(cD.nodup st (C1 y hy)).1
     ·exact st.rW _ w4
    have grow:∀ {Aa Ab:List (Key×V)},Aa.length+Ab.length=lk.length+fk.length+1->i0+1<=Aa.length+Ab.length:=fun {Aa Ab} e=>by
     rcases JF with z|z
     ·rcases z x hx JG with u|u
      ·rw[u]at e1;cases e1
      ·rw[u]at e2;cases e2
     ·omega
    refine⟨_,rfl,_,rfl,_,rfl,_,rfl,d,.ref pa,rfl,C0 iM,F9 A4.hl Qb Se sm rn (fun hn H5 S5=>?_) fun os hs lp H5 Rv S5 h5=>?_⟩
    ·refine⟨_,rfl,rfl,_,rfl,?_⟩
     have A5:=A4.same S5;have qA:∀b u,H b=some u->b≠d->H5 b=some u:=fun b u e n=>S5 _ _ (iC b u e n);have Ac:=S5 _ _ iM;have BN:=S5 _ _ Qb;obtain⟨g,gv,gR⟩:=NI fun y hy=>(Se y hy).same S5;have p4:(Ps x).length<=4:=st.four _ w4;refine⟨_,rfl,_,rfl,d,.ref pa,rfl,C0 Ac,pa,rfl,⟨_,aj.of BN⟩,fun c2 gk=>?_⟩;have qt:pa≠c2:=ao BN gk;have qu:d1≠c2:=ao A5.hl gk;refine iP (xs:=(Ps x).map V.str) (fun j zs τ H6=>∃t1:Option V,τ = [t1,some (.ref d1)]/\zs=((Ps x).take j).map g/\H6=upd H5 c2 (.lst zs)) ⟨none,rfl,rfl,rfl⟩ (fun j zs τ H6 ⟨_,_,_,z⟩=>by rw[z];exact⟨ag,aj.of (by rw[ah qt];exact BN)⟩) ?_ ?_
     ·rintro j y zs τ H6 hy ⟨t1,rfl,rfl,rfl⟩
      obtain⟨cG,nI,rfl,i3⟩:=jV hy;refine⟨_,rfl,_,rfl,d1,g (Ps x)[j],rfl,?_,ag,?_,cw_next cG ⟨_,rfl,?_,by rw[ie]⟩⟩
      ·rw[<-gv _ (iO nI)];exact fh.k (k:=Sum.inr (Ps x)[j]) (by rw[ah qu];exact A5.hl)
      ·rw[aA,dJ,aN];omega
      ·rw[i3,a8];rfl
     ·rintro zs τ H6 ⟨t1,rfl,rfl,rfl⟩
      rw[aA,du];have S6:=ay (o:= .lst ((Ps x).map g)) gk;have f6:upd H5 c2 (.lst ((Ps x).map g)) c2=_:=ag;generalize upd H5 c2 (.lst ((Ps x).map g))=H6 at S6 f6 ⊢;refine⟨_,rfl,_,rfl,d,.ref pa,rfl,C0 (S6 _ _ Ac),pa,_,rfl,.inl (aj.of (S6 _ _ BN)),fun c3 qv=>⟨xK (by show 1<=100;decide),fun c4 nj=>?_⟩⟩
      have S7:=ay (o:= .lst ((Ps x).map V.str)) qv;have f7:upd H6 c3 (.lst ((Ps x).map V.str)) c3=_:=ag;generalize upd H6 c3 (.lst ((Ps x).map V.str))=H7 at S7 f7 nj ⊢;have S8:=ay (o:= .lst [V.ref c3]) nj;refine⟨c2,c4,_,_,rfl,rfl,S8 _ _ (S7 _ _ f6),ag,by rw[aA];show _+1<=_;rw[aN];omega,fun c5 CO=>?_⟩
      have S9:aq H7 (upd (upd H7 c4 (.lst [V.ref c3])) c5 (.lst ((Ps x).map g ++ [V.ref c3]))):=S8.trans (ay CO);have f9:upd (upd H7 c4 (.lst [V.ref c3])) c5 (.lst ((Ps x).map g ++ [V.ref c3])) c5=_:=ag;generalize upd (upd H7 c4 (.lst [V.ref c3])) c5 (.lst ((Ps x).map g ++ [V.ref c3]))=H9 at S9 f9 ⊢;have C3:=S6.trans (S7.trans S9);have A9:=A5.same C3;refine⟨_,rfl,_,rfl,d2,_,rfl,mV.k (k:=Sum.inr x) A9.hf (by rw[aN];omega),?_⟩
      have rows:dj (fun _=>True) H9 ((Ps x).map g ++ [V.ref c3]) (rowsOf (aH aa) (Ps x)):=Wl (dj.vH gR fun b xs e=>C3 _ _ e) True.intro (S9 _ _ f7);refine⟨lk,_,_,_,rfl,A9.ac2 nK hx ⟨Ps x,w4,C1,hn⟩ f9 rows,fun b u e n=>?_,?_,.inr ?_,.inl ?_⟩
      ·rw[ah (Sa e n).2];exact C3 _ _ (qA b u e n)
      ·rw[ah oM];exact C3 _ _ Ac
      ·have:=grow (Aa:=lk) (Ab:=putK fk (Sum.inr x) (.ref c5)) (by rw[Bi e2];omega);omega
      ·exact grow (by rw[Bi e2];omega)
    ·refine⟨_,rfl,rfl,_,rfl,?_⟩
     have A5:=A4.same S5;have Ac:=S5 _ _ iM;obtain⟨ln,el⟩:=OC st w4 C1 hs;rw[<-el]at h5;refine⟨_,rfl,_,rfl,_,rfl,d1,_,rfl,mV.k (k:=Sum.inr x) A5.hl (by rw[aN];omega),?_⟩
     refine⟨_,fk,_,_,rfl,A5.ac3 nK hx ln h5,fun b u e n=>?_,?_,.inr ?_,.inl ?_⟩
     ·rw[ah (Sa e n).1];exact S5 _ _ (iC b u e n)
     ·rw[ah Cz];exact Ac
     ·have:=grow (Aa:=putK lk (Sum.inr x) (.ref lp)) (Ab:=fk) (by rw[Bi e1];omega);omega
     ·exact grow (by rw[Bi e1];omega)
   ·rintro σ H3 ⟨lk,fk,v4,v5,rfl,A3,qz,iL,JF,CZ⟩
    refine⟨lk,fk,_,v4,v5,rfl,A3,qz,.inl ⟨o,iL⟩,?_⟩;rw[kl,du]at CZ;rcases CZ with z|z
    ·exact .inr z
    ·exact .inl z
  ·obtain⟨lk,fk,v3,v4,v5,rfl,A1,kc,CY,z0⟩:=hP
   refine⟨_,rfl,_,rfl,ng,fun r ix=>?_⟩;have Sr:=ay (o:= .tup [V.ref d1,.ref d2]) ix;have z0:we ks Ps lk fk\/ks.length<=lk.length+fk.length:=by
    rcases z0 with z|z
    ·exact .inl z
    ·exact .inr (by have:(kvs.length:Int).toNat=kvs.length:=rfl;rw[this]at z;omega)
   obtain⟨a1,a2⟩:=A1.all st R6 z0;refine q r d1 d2 lk fk _ iJ (fun b u e n=>Sr _ _ (kc b u e n)) ?_ ag (A1.same Sr) a1 a2;rcases CY with⟨o,h⟩|h
   ·exact .inl ⟨o,Sr _ _ h⟩
   ·exact .inr (Sr _ _ h)
@[irreducible] noncomputable def wk:Sp:=fun vs H Q _=>∃ (t d:Addr) (lk:List (Key×V)) (aa:aM),vs = [.ref t,.ref d]/\FA H t aa/\eu aa/\H d=some (.dK lk)/\(∀k∈lk.map (·.1),∃x∈keysOf aa,k=Sum.inr x/\dq H lk (aH aa) x)/\lk.length<=20 /\ ∀H',(∀b u,H b=some u->b≠d->H' b=some u)->Q (.bl true) H'
theorem abk {aa:aM} (ht:FA H t aa) (al:eu aa) (hd:H d=some (.dK lk)) (hk:∀k∈lk.map (·.1),∃x∈keysOf aa,k=Sum.inr x/\dq H lk (aH aa) x) (hl:lk.length<=20) (q:∀H',(∀b u,H b=some u->b≠d->H' b=some u)->Q (.bl true) H'):wk [.ref t,.ref d] H Q E:=by unfold wk;exact⟨t,d,lk,aa,rfl,ht,al,hd,hk,hl,q⟩
noncomputable abbrev nLt:List Str:= ["_law_family_here","_law_lines","_law_kind","_law_found"]
theorem Hr:b6 nLt ["_law_family_here","_law_lines"] (aJ DZ):=cF (by decide +kernel)
theorem abl {fO:Addr}{dO:FuncData} (F:aW K "_law_lines_told" "_law_lines_told" DZ f fd) (B:dB mg) (B2:gN mg)
  (GO:aI P w K mg base aQ 6 fO dO ["family","kind"] sE) (kO:keepIn K (.ref fO)=true) (bO:Binds K dO ["family","kind"] []) (mO:mg "line_of" = some (.ref fO)) :
  aI P w K mg base aQ 7 f fd ["_law_family_here","_law_lines"] wk:=by
 refine F.ok Hr (fun vs H Q E h=>?_) (fun cdv A outer s H vs Q E hr h=>?_)
 ·unfold wk at h;obtain⟨t,d,lk,aa,rfl,_⟩:=h;rfl
 ·unfold wk at h
  obtain⟨t,d,lk,aa,rfl,ht,al,hd,hky,Rx,q⟩:=h;have mi:a7 6 _:=hr;have hu:=hr.units;have ck:=k6 hu;refine⟨_,aD (jx jt rfl (Nr (pv 1)) (aX (i:=2) Hr.nd rfl (Or.inl rfl))
    (aD (bq (i:=3) Hr.nd rfl (Or.inl rfl) (bc GO mi rfl mO kO bO .nil a9 (af (pv 0) (af (pv 2) ai))))
    (aK (cQ (PW.pt (pw_or (gx (eT (aZ lL rfl B2.ji i9 (af (pv 3) (af (ko (v:= .ty "tuple") rfl B.tuple boot_tuple rfl) ai)))))
     (pw_or1 (cy (vf hu) (pv 3) (eO mx rfl B.tuple boot_tuple (af (ja ck (pv 1) (pv 2) (fun _ _=>rfl)) ai)) (cI _))))) (aK (bf gX)) cU))))
   (aK (bf gX)),?_⟩
  refine M7 rfl (.inr hd) fun o H1 iJ kc=>?_;have nt:∀ {b:Addr}{xs:List V},H b=some (.tup xs)->H1 b=some (.tup xs):=fun {b xs} e=>kc _ _ e (bg e hd)
  have j9:FA H1 t aa:=by
   obtain⟨st,ws,a,b⟩:=ht;exact⟨st,ws,nt a,b.keep fun c xs e=>nt e⟩
  refine MO (fun j σ H3=>∃v2 v3:Option V,σ = [some (.ref t),some (.ref d),v2,v3]/\aq H1 H3) ⟨none,none,rfl,aq.refl _⟩ (fun j σ H3 _ ⟨_,_,_,z⟩=>z _ _ iJ) ?_ ?_
  ·rintro j kv σ H3 fV ⟨v2,v3,rfl,S3⟩
   obtain⟨x,hx,ek,a,ea,ha⟩:=hky kv.1 (aU.mpr ⟨kv,ia fV,rfl⟩);rw[ek];have gF:=kc _ _ ha (bg ha hd)
   refine⟨_,rfl,_,rfl,Es (j9.same S3) al hx fun p H4 S4 h4=>?_⟩;have lA:=S3.trans S4;refine⟨_,rfl,⟨_,.inr ⟨"tuple",rfl⟩⟩,.ref p,.ty "tuple",.type "tuple",.type "tuple",true,rfl,rfl,.inl (.tup h4),rfl,true,rfl,?_⟩;refine⟨_,rfl,_,rfl,_,rfl,d,.ref a,rfl,.inl ⟨lk,Sum.inr x,.inr ⟨o,lA _ _ iJ⟩,rfl,ea.symm⟩,a,_,rfl,.inl ⟨aj.of (lA _ _ gF),fun c hc=>?_⟩⟩;have nm:∀y∈aH aa x,Nm y:=fun y hy=>ht.1.zP ((cD.mem ht.1 (Fi al hx)).1 y hy);refine NP (xs:=aH aa x) (ay hc _ _ h4) ag nm ⟨_,rfl,?_⟩;exact⟨_,_,rfl,lA.trans (ay hc)⟩
  ·rintro σ H3 ⟨v2,v3,rfl,S3⟩
   exact q H3 fun b u e n=>S3 _ _ (kc b u e n)
theorem Xb {g:TG} (hs:σ[i]? = some (some (.ref d))) (hh:rq H d kvs)
  (q:∀o H',H' d=some (.cB o (.dK kvs))->(∀b u,H b=some u->b≠d->H' b=some u) -> ∀p,H' p=none->jz (Itm d o kvs) g ti te (pick cA σ) Q p H'):Bu (N2 (lV i)) cA g ti te σ H Q:=by
 refine⟨_,hs,d,kvs,rfl,?_⟩;rcases hh with⟨o,h⟩|h
 ·exact .inr ⟨o,h,q o H h fun b u e _=>e⟩
 ·exact .inl ⟨h,fun o=>q o _ ag fun b u e n=>by rw[ah n];exact e⟩
theorem NR {kv:Key×V}:∀ {kvs:List (Key×V)}{i:Nat},(kvs.map (·.1)).Nodup->kvs[i]? = some kv->bU kvs kv.1=some kv.2
 |[],_,_,h=>by cases h
 |q::kvs,0,_,h=>by cases h;simp[bU]
 |q::kvs,i+1,nd,h=>by
  rw[cz,gb]at nd;have h1:kvs[i]? = some kv:=h;have ne:q.1≠kv.1:=fun e=>nd.1 (aU.mpr ⟨kv,ia h1,e.symm⟩);have:=NR nd.2 h1;unfold bU at this ⊢;rw[List.find?_cons_of_neg (by simpa using ne)]
  exact this
@[irreducible] noncomputable def wm:Sp:=fun vs H Q _=>∃ (d:Addr) (kvs:List (Key×V)) (ks:List Str) (Ps:Str->List Str),vs = [.ref d]/\rq H d kvs/\mH H d kvs ks Ps/\ks.Nodup /\
 ∀t ws aa H',(∀b u,H b=some u->b≠d->H' b=some u)->H' t=some (.tup ws)->cj H' ws aa->aa.Perm (cH Ps ks)->iN aa->Q (.ref t) H'
theorem abm (hd:rq H d kvs) (D:mH H d kvs ks Ps) (nd:ks.Nodup)
  (q:∀t ws aa H',(∀b u,H b=some u->b≠d->H' b=some u)->H' t=some (.tup ws)->cj H' ws aa->aa.Perm (cH Ps ks)->iN aa->Q (.ref t) H'):wm [.ref d] H Q E:=by unfold wm;exact⟨d,kvs,ks,Ps,rfl,hd,D,nd,q⟩
theorem ac7:b6 ["_law_parents_here"] ["_law_parents_here"] (aJ xI):=cF (by decide +kernel)
noncomputable abbrev eFz:Expr:=fG (fG (tw (cb (b9 xI) 0)))
theorem Hs:bX ["_law_parents_here"] (aJ xI) ["_law_kind","_law_own"] [none,none] (cE eFz):=c9 (by decide +kernel)
theorem abn (F:aW K "_law_frozen" "_law_frozen" xI f fd) (B:dB mg) (B2:gN mg):aI P w K mg base aQ 1 f fd ["_law_parents_here"] wm:=by
 refine F.ok ac7 (fun vs H Q E h=>?_) (fun cdv A outer s H vs Q E hr h=>?_)
 ·unfold wm at h;obtain⟨d,kvs,ks,Ps,rfl,_⟩:=h;rfl
 ·unfold wm at h
  obtain⟨d,kvs,ks,Ps,rfl,hd,D,knd,q⟩:=h;refine⟨_,aK (bf (eO mx rfl B.tuple boot_tuple (af (aZ DK rfl B2.sorted boot_sorted (af (d4 rfl Hs (XR (pv 0)) (fun s H fp=>⟨A7 (n:=2) K rfl rfl (eF (aX (i:=0) Hs.nd rfl (Or.inl rfl)) (eF (aX (i:=1) Hs.nd rfl (Or.inl rfl)) kq)),eP,
   lQ (af (pv 0) (af (eO (DL K rfl) rfl B.tuple boot_tuple (af (pv 1) ai)) ai))⟩)) ai)) ai))),?_⟩
  have kl:kvs.length=ks.length:=by have:=fc List.length D.hk;simpa using this
  have k8:=D.k8;have zQ:(kvs.map (·.1)).Nodup:=by rw[D.hk];exact N7 knd
  refine Xb rfl hd fun o H1 iJ kc c hc=>?_;have hdL:∀ {b:Addr}{u:HO},H b=some u->(∀o,u ≠ .cB o (.dK kvs))->u ≠ .dK kvs->H1 b=some u:=fun {b u} e n1 n2=>kc b u e (by
   rcases hd with⟨o',h⟩|h
   ·exact bg e h (n1 o')
   ·exact bg e h n2)
  refine Wb (fun i ys τ H2=>∃t0 t1:Option V,τ = [t0,t1]/\H2 c=some (.lst ys)/\aq H1 H2/\cj H2 ys (cH Ps (ks.take i))) ⟨none,none,rfl,ag,ay hc,.nil⟩ (fun i ys τ H2 hQ9=>by obtain⟨_,_,_,z1,z2,_⟩:=hQ9;exact ⟨z1,z2 _ _ iJ⟩) ?_ ?_
  ·rintro i kv t ys τ H2 fV ht ⟨t0,t1,rfl,h2,S2,F2⟩
   have eJ:i < ks.length:=by have:=(cR.mp fV).1;omega
   have wH:kvs.length=ks.length:=kl;have ek:kv.1=Sum.inr ks[i]:=by
    have h2:(kvs.map (·.1))[i]? = some kv.1:=by rw[eX,fV];rfl
    rw[D.hk,eX,cP eJ]at h2;exact(f' h2).symm
   obtain⟨a,ea,ha⟩:=D.pl ks[i] (iO eJ);have ev:kv.2 = .ref a:=by
    have:=NR zQ fV;rw[ek,ea]at this;exact(f' this).symm
   have gF:H1 a=_:=hdL ha (by intro _ z;cases z) (by intro z;cases z)
   have oN:ks.take (i+1)=ks.take i ++ [ks[i]]:=by rw[gu,cP eJ];rfl
   have St:=ay (o:= .tup [kV kv.1,kv.2]) ht;rw[ek,ev]at *;have wW:upd H2 t (.tup [V.str ks[i],.ref a]) t=_:=ag;refine⟨t,_,rfl,aC.of ag,rfl,_,_,rfl,_,_,rfl,rfl,_,rfl,_,rfl,a,_,rfl,.inl ⟨aj.of (St _ _ (S2 _ _ gF)),fun b hb=>?_⟩⟩;have Sb:=ay (o:= .tup ((Ps ks[i]).map V.str)) hb;refine⟨ng,fun t2 wZ=>?_⟩;have S3:=St.trans (Sb.trans (ay (o:= .tup [V.str ks[i],.ref b]) wZ));have zO:upd (upd (upd H2 t (.tup [V.str ks[i],.ref a])) b (.tup ((Ps ks[i]).map V.str))) t2 (.tup [V.str ks[i],.ref b]) b=some (.tup ((Ps ks[i]).map V.str)):=by rw[ah (ao ag wZ)];exact ag
   have um:=S3 _ _ h2;refine⟨um,?_,cw_next (by omega) ⟨_,_,rfl,ag,fun x u hx=>by rw[ah (ao hx hc)];exact S3 _ _ (S2 x u hx),?_⟩⟩
   ·have:=F2.length
    unfold cH at this;rw[aA,dJ]at this;rw[aN];omega
   ·have ef:cH Ps (ks.take (i+1))=cH Ps (ks.take i) ++ [(ks[i],Ps ks[i])]:=by rw[oN];unfold cH;rw[a8];rfl
    rw[ef];refine cj.append (F2.keep fun x xs hx=>?_) ?_ ?_ (b:=b)
    ·rw[ah (bg hx h2)];exact S3 _ _ hx
    ·rw[ah (bg ag um)];exact ag
    ·rw[ah (bg zO um)];exact zO
  ·rintro ys τ H2 ⟨t0,t1,rfl,h2,S2,F2⟩
   rw[kl,du]at F2;obtain⟨gO,K7,ek⟩:=F2.keyed;have zH:=F2.length;have Rx:(cH Ps ks).length=ks.length:=by unfold cH;exact aA ..
   refine⟨c,ys,gO,1,rfl,.inl (aj.of h2),K7,aR _,by rw[ek];exact Er (by rw[AI];exact knd),by omega,fun D eZ fu hD ip hK wK lz=>?_⟩
   have SD:=ay (o:= .lst eZ) hD;refine⟨D,eZ,rfl,.inl ⟨aj.of ag,fun t ht=>?_⟩⟩;have St:=SD.trans (ay (o:= .tup eZ) ht);obtain⟨gP,gq,F3⟩:=DQ ip F2;rw[D9 F3 hK]at lz;have so:iN gP:=by
    unfold iN;rw[xp]at lz ⊢;exact lz.imp fun {a b} z=>by rw[E7]at z;exact z
   exact q t eZ gP _ (fun b u e n=>St _ _ (S2 _ _ (kc b u e n))) ag (cj.same F3 St) gq so
def je (Ps:Str->List Str) (k:Str) (own:List Str):Str->List Str:=fun x=>if x=k then own else Ps x
theorem NS {k:Str}:je Ps k own k=own:=aB rfl
theorem NT {k:Str} (h:x≠k):je Ps k own x=Ps x:=au h
theorem Bs {p:Str×List Str}:p∈cH Ps ks ↔ p.1∈ks/\p.2=Ps p.1:=by
 constructor
 ·intro h
  obtain⟨x,hx,rfl⟩:=aU.mp h;exact⟨hx,rfl⟩
 ·rintro⟨h1,h2⟩
  exact aU.mpr ⟨p.1,h1,by rw[<-h2]⟩
theorem LS {aa:aM} (h:(aa.map (·.1)).Nodup):aa.Nodup:=by
 rw[UJ]at h ⊢;rw[xp]at h;exact h.imp fun {a b} n e=>n (by rw[e])
theorem M8 {aa:aM}{k:Str} (st:cw (bH aa k own)) (hm:∀p,p∈aa ↔ p.1∈ks/\p.2=Ps p.1) (nd:ks.Nodup) (hk:k∈ks):(cH (je Ps k own) ks).Perm (bH aa k own):=by
 rw[U1 (LS (by rw[AI];exact nd)) (LS st.nd)]
 intro p;rw[Bs,qP,hm]
 by_cases e:p.1=k
 ·rw[e,NS]
  constructor
  ·rintro⟨_,h⟩;exact .inr (by rw[<-e,<-h])
  ·rintro(⟨_,h⟩|h)
   ·exact absurd rfl h
   ·rw[h];exact⟨hk,rfl⟩
 ·rw[NT e]
  constructor
  ·intro h;exact .inl ⟨h,e⟩
  ·rintro(h|h)
   ·exact h.1
   ·exact absurd (by rw[h]) e
theorem Xc {k:Key} (h:k∈kvs.map (·.1)):(putK kvs k v).map (·.1)=kvs.map (·.1):=by
 unfold putK;rw[aB (by obtain⟨q,hq,e⟩:=aU.mp h;exact sj.mpr ⟨q,hq,by simpa using e⟩),qL]
 refine Dx fun q _=>?_;show(if q.1=k then (q.1,v) else q).1=q.1;split <;> rfl
section
variable{aa:aM}
theorem fH.Sg (R:fH H ks t d kvs Ps aa) {k:Str} (hk:k∈ks) (nd:own.Nodup) (p4:own.length<=4) (lB:∀x∈own,x∈ks):cw (bH aa k own):=
 M5 R.fa.1 (dG (by rw[R.len];exact R.k8) (by decide)) (R.nm k hk) nd p4 fun x h=>R.key.mpr (lB x h)
theorem mH.put (hk:kvs.map (·.1)=ks.map Sum.inr) (pl:∀x∈ks,dq H kvs Ps x) (k8:ks.length<=8) {k:Str} (iF:k∈ks) {o:Addr} (ho:H o=some (.lst (own.map V.str))) (kp:∀b xs,H b=some (.lst xs)->H' b=some (.lst xs)):mH H' d (putK kvs (Sum.inr k) (.ref o)) ks (je Ps k own):=by
 refine⟨by rw[Xc (by rw[hk];exact aU.mpr ⟨k,iF,rfl⟩)];exact hk,fun x hx=>?_,k8⟩
 by_cases e:x=k
 ·subst e
  exact⟨o,by rw[lM,aB rfl],by rw[NS];exact kp _ _ ho⟩
 ·obtain⟨a,e1,q⟩:=pl x hx
  exact⟨a,by rw[lM,au (fun z=>e (nL z))];exact e1,by rw[NT e];exact kp _ _ q⟩
end
theorem Xd {kl:List Key} (h:∀k∈kl,∃x:Str,k=Sum.inr x):∃xs:List Str,kl=xs.map Sum.inr:=by
 induction kl with
 |nil=>exact⟨[],rfl⟩
 |cons a l ih =>
  obtain⟨x,rfl⟩:=h a bj;obtain⟨xs,rfl⟩:=ih fun k hk=>h k (cp _ hk);exact⟨x::xs,rfl⟩
theorem Zb (h:x = "ring" \/ x = "round"):Nm x:=by
 rcases h with rfl|rfl
 ·exact⟨by decide +kernel,by decide +kernel,by decide +kernel⟩
 ·exact⟨by decide +kernel,by decide +kernel,by decide +kernel⟩
theorem M9 (h:x = "ring" \/ x = "round"):(PyData.list [.list [.str x]]).canLay0=true:=by
 have h2:(PyData.list ([x].map PyData.str)).canLay0=true:=jT (xs:= [x]) fun y hy=>by rw[ff.mp hy];exact Zb h
 simp only[PyData.canLay0,PyData.canLayAll0,cz,Kq,Ax]at h2 ⊢;rw[h2]
@[irreducible] noncomputable def wo:Sp:=fun vs H Q _=>∃ (v:V) (l t d oa:Addr) (ks:List Str) (kvs:List (Key×V)) (Ps:Str->List Str) (aa:aM) (k:Str) (own:List Str),vs = [v,.ref l,.ref d,.str k,.ref oa]/\fH H ks t d kvs Ps aa/\k∈ks/\H oa=some (.lst (own.map V.str))/\own.Nodup/\own.length<=4/\(∀x∈own,x∈ks)/\n9 H aa k own v l /\ ∀H',aq H H'->Q (.bl true) H'
theorem abo {oa:Addr}{aa:aM}{k:Str} (R:fH H ks t d kvs Ps aa) (hk:k∈ks) (ho:H oa=some (.lst (own.map V.str))) (nd:own.Nodup) (p4:own.length<=4) (lB:∀x∈own,x∈ks) (T:n9 H aa k own v l) (q:∀H',aq H H'->Q (.bl true) H'):wo [v,.ref l,.ref d,.str k,.ref oa] H Q E:=by
 unfold wo;exact⟨v,l,t,d,oa,ks,kvs,Ps,aa,k,own,rfl,R,hk,ho,nd,p4,lB,T,q⟩
noncomputable abbrev C4:List Str:= ["_law_told_here","_law_refusal","_law_parents_here","_law_kind","_law_own"]
noncomputable abbrev Sh:List Str:= ["_law_told_here","_law_refusal","_law_parents_here","_law_kind","_law_own","_law_after","_law_lines","_law_falls"]
theorem BO:b6 Sh C4 (aJ xZ):=cF (by decide +kernel)
noncomputable abbrev eRt:Expr:=fG (qY (cb (b9 xZ) 0))
theorem Qc:bX Sh (aJ xZ) ["_law_one","_law_kind","_law_parents_here"] [none,some 3,some 2] (cE eRt):=c9 (by decide +kernel)
theorem abp {fZ:Addr}{dF dZ:FuncData} (F:aW K "_law_right" "_law_right" xZ f fd) (B:dB mg) (B2:gN mg)
  (GF:aI P w K mg base aQ 1 fF dF ["_law_parents_here","_law_kind"] sU) (kF:keepIn K (.ref fF)=true) (bF:Binds K dF ["_law_parents_here","_law_kind"] []) (mF:mg "_law_forebears" = some (.ref fF))
  (GW:aI P w K mg base aQ 1 fW dW ur wc) (kW:keepIn K (.ref fW)=true) (bW:Binds K dW ur []) (mW:mg "_law_is_way" = some (.ref fW))
  (GA:aI P w K mg base aQ 3 fA dA ["_law_parents_here"] wg) (kA:keepIn K (.ref fA)=true) (bA:Binds K dA ["_law_parents_here"] []) (mA:mg "_law_all_lines" = some (.ref fA))
  (GR:aI P w K mg base aQ 2 fR dR ["_law_rows","_law_ring"] vE) (kR:keepIn K (.ref fR)=true) (bR:Binds K dR ["_law_rows","_law_ring"] []) (mR:mg "_law_is_ring" = some (.ref fR))
  (GZ:aI P w K mg base aQ 1 fZ dZ ["_law_parents_here"] wm) (kZ:keepIn K (.ref fZ)=true) (bZ:Binds K dZ ["_law_parents_here"] []) (mZ:mg "_law_frozen" = some (.ref fZ))
  (GI:aI P w K mg base aQ 6 fI dI ["thing"] vD) (kI:keepIn K (.ref fI)=true) (bI:Binds K dI ["thing"] []) (mI:mg "is_family" = some (.ref fI))
  (GL:aI P w K mg base aQ 7 fL dL ["_law_family_here","_law_lines"] wk) (kL:keepIn K (.ref fL)=true) (bL:Binds K dL ["_law_family_here","_law_lines"] []) (mL:mg "_law_lines_told" = some (.ref fL)) :
  aI P w K mg base aQ 8 f fd C4 wo:=by
 refine F.ok BO (fun vs H Q E h=>?_) (fun cdv A outer s H vs Q E hr h=>?_)
 ·unfold wo at h;obtain⟨v,l,t,d,oa,ks,kvs,Ps,aa,k,own,rfl,_⟩:=h;rfl
 ·unfold wo at h
  obtain⟨v,l,t,d,oa,ks,kvs,Ps,aa,k,own,rfl,R,hk,ho,hZ,o4,lB,T,q⟩:=h;have r6:a7 7 _:=hr;have mi:a7 6 _:=r6.mono (by decide)
  have j':a7 3 _:=r6.mono (by decide)
  have iZ:a7 2 _:=r6.mono (by decide)
  have cK:a7 1 _:=r6.mono (by decide)
  have hu:=hr.units;have ck:=k6 hu;refine⟨_,aD (cQ (eT (aZ (Eh rfl) rfl B.any boot_any (af (d4 rfl Qc (gJ (pv 4)) (fun s H fp=>⟨aX (i:=0) Qc.nd rfl (Or.inl rfl),eP,lP (Bf K rfl) (pv 1) (bc GF cK rfl mF kF bF .nil a9 (af (pv 2) (af (pv 0) ai))) rfl⟩)) ai)))
    (aK (bf (sL (lP (xQ hu) (pI sF (pv 1) pK (nV aP)) (cX (af (cX (af kx ai)) ai)) (cI _))
     (xN (bc GW cK rfl mW kW bW .nil a9 (af (cf eQ (pv 1) aP (fun _ _=>rfl)) (af (pv 2) (af (pv 4) (af (pv 3) ai))))))))) cU)
   (aD (bq (i:=5) BO.nd rfl (Or.inl rfl) (eO Wa rfl B2.dict boot_dict (af (pv 2) ai)))
   (aD (sG ck (pv 5) (pv 3) (pv 4) rfl)
   (aD (qV (bc GA j' rfl mA kA bA .nil a9 (af (pv 5) ai)) (pN rfl (eF (aX (i:=6) BO.nd rfl (Or.inl rfl)) (eF (aX (i:=7) BO.nd rfl (Or.inl rfl)) kq))))
   (aD (cQ (cy (YM hu) (pv 7) uX (cI _))
    (aD (cQ (PW.pt (pw_or (cy (vf hu) (pI sF (pv 1) pK (nV aP)) (cX (af (cX (af kx ai)) ai)) (cI _))
     (pw_or1 (cy qO (cf eQ (pv 1) aP (fun _ _=>rfl)) (eO (LF rfl) rfl B.list boot_list (af (pv 7) ai)) rfl)))) (aK (bf gX)) cU)
    (aK (bf (bc GR iZ rfl mR kR bR .nil a9 (af (ja ck (pv 7) (cf eQ (pv 1) aP (fun _ _=>rfl)) (fun _ _=>rfl)) (af (cf eQ (pv 1) aP (fun _ _=>rfl)) ai)))))) cU)
   (aD (cQ (PW.pt (pw_or (gx (eT (aZ lL rfl B2.ji i9 (af (pv 0) (af (ko (v:= .ty "tuple") rfl B.tuple boot_tuple rfl) ai)))))
     (pw_or (cy (vf hu) (pv 0) (bc GZ cK rfl mZ kZ bZ .nil a9 (af (pv 5) ai)) (cI _))
     (pw_or1 (cy WK (bc GI mi rfl mI kI bI .nil a9 (af (pv 0) ai)) gX (cI _)))))) (aK (bf gX)) cU)
   (aK (bf (bc GL r6 rfl mL kL bL .nil a9 (af (pv 0) (af (pv 6) ai)))))))))),?_⟩
  have up:=R.up;have st:=R.Sg hk hZ o4 lB;refine⟨_,rfl,oa,rfl,⟨_,aj.of ho⟩,fun c hc=>?_⟩;refine iP (xs:=own.map V.str) (fun i ys τ H1=>∃t0:Option V,τ = [t0,some (.str k),some (.ref d)]/\ys=((own.take i).map fun x=>decide (k∈aH aa x)).map V.bl/\aq H H1/\H1 c=some (.lst ys)) ⟨none,rfl,rfl,ay hc,ag⟩ (fun i ys τ H1 ⟨_,_,_,S,z⟩=>⟨z,aj.of (S _ _ ho)⟩) ?_ ?_
  ·rintro i x ys τ H1 hx ⟨t0,rfl,rfl,S1,h1⟩
   have aS:i < (own.map V.str).length:=(cR.mp hx).1;have tK:i < own.length:=by simpa using aS
   obtain rfl:V.str own[i]=x:=by simpa [tK] using hx
   have tk:own.take (i+1)=own.take i ++ [own[i]]:=by rw[gu,cP tK];rfl
   have R1:=R.same S1;refine⟨_,rfl,_,rfl,_,rfl,NQ R1.hd R1.pl up R.k8 (lB _ (iO tK)) fun p Fs H2 _ S2 h2 hF _ _=>?_⟩;refine⟨p,_,rfl,.inl (aj.of h2),rfl,i8 _,?_⟩;rw[au de,jR];refine⟨S2 _ _ h1,by rw[aA,aA,dJ,aN];omega,cw_next aS ⟨_,rfl,?_,fun b u e=>?_,ag⟩⟩
   ·rw[tk,a8,a8]
    refine fc _ ?_;show [V.bl (decide (k∈Fs))] = [V.bl (decide (k∈aH aa own[i]))];rw[decide_eq_decide.mpr (hF k)]
   ·rw[ah (ao e hc)];exact S2 _ _ (S1 _ _ e)
  rintro ys τ H1 ⟨t0,rfl,rfl,S1,h1⟩;rw[aA,du]at h1;refine⟨c,_,rfl,aj.of h1,_,rfl,?_⟩;have eR:(own.map fun x=>decide (k∈aH aa x)).any id=true ↔ kG aa k own:=by
   unfold kG;simp
  have T1:=T.same S1;refine fq (fun hR=>?_) (fun hR=>?_)
  ·have hR:=eR.mp hR
   cases T1 with
   |ring a=>exact absurd hR a
   |told a=>exact absurd hR a
   |round _ rn =>
   obtain⟨l2,r,way,x,e1,e2,e3,wp,hx,JB,hlen⟩:=rn;have ec:d6 [V.ref l2,.ref r,.aF] none (some (1:Int)) = [V.ref l2]:=by rw[show(1:Int)=((1:Nat):Int) from rfl,Fz];rfl
   refine⟨_,rfl,_,rfl,l,_,rfl,aj.of e1,fun s1 zW=>?_⟩;rw[ec];have T1:=ay (o:= .lst [V.ref l2]) zW;refine⟨xK (by show 1<=100;decide),fun s2 nC=>⟨xK (by show 1<=100;decide),fun s3 zX=>?_⟩⟩
   have T2:=ay (o:= .lst [V.str "round"]) nC;have T3:=ay (o:= .lst [V.ref s2]) zX;have Ad:=T2.trans T3;have oP:=T1.trans Ad;have x1:=Ad _ _ (ag (H:=H1) (a:=s1) (o:=HO.lst [V.ref l2]));have x2:=T3 _ _ (ag (H:=upd H1 s1 (.lst [V.ref l2])) (a:=s2) (o:=HO.lst [V.str "round"]));have lay:=M9 (x:= "round") (.inr rfl);refine⟨_,_,.lst x1 (.cons (.lst (oP _ _ e2) (.cons (.str _) .nil)) .nil),.lst ag (.cons (.lst x2 (.cons (.str _) .nil)) .nil),lay,lay,by simp only[PyData.depth,PyData.depthAll];decide,?_⟩
   rw[DC _ lay];refine⟨true,rfl,?_⟩;have S2:=S1.trans oP;have R2:=R.same S2;refine⟨_,rfl,l,_,1,.ref r,rfl,rfl,aj.of (oP _ _ e1),(show cC [V.ref l2,.ref r,.aF] ((1:Nat):Int)=some (.ref r) from eG rfl),_,rfl,_,rfl,_,rfl,?_⟩;refine abd (oP _ _ e3) R2.hd R2.pl (S2 _ _ ho) hx wp.hd (fun i y z hy hz=>?_) hlen (fun y hy=>R.nm y (R.key.mp (JB y hy))) fun H3 S3=>q _ (S2.trans S3);obtain⟨p,hp,rfl,B'⟩:=wp.st i y z hy hz;obtain⟨p1,p2⟩:=R.mem.mp hp;exact⟨p1,by rw[<-p2];exact B'⟩
  have hR : ¬ kG aa k own:=fun z=>hR (eR.mpr z);have R1:=R.same S1;refine⟨_,rfl,d,kvs,rfl,R1.hd,fun e he=>?_⟩;have ek:upd H1 e (.dK kvs) e=some (.dK kvs):=ag;have kl:=R.kl;have k8:=R.k8;refine⟨_,rfl,_,rfl,_,rfl,e,_,rfl,mV.k (k:=Sum.inr k) ek (by rw[aN];omega),?_⟩
  rw[ie];have S2:=ay (o:= .dK (putK kvs (Sum.inr k) (.ref oa))) he;have e2:upd H1 e (.dK (putK kvs (Sum.inr k) (.ref oa))) e=_:=ag;have D2:mH (upd H1 e (.dK (putK kvs (Sum.inr k) (.ref oa)))) e (putK kvs (Sum.inr k) (.ref oa)) ks (je Ps k own):=mH.put R.hk R1.pl R.k8 hk (S1 _ _ ho) fun b xs h=>S2 _ _ h;generalize upd H1 e (.dK (putK kvs (Sum.inr k) (.ref oa)))=H2 at S2 e2 D2 ⊢;have pm:=M8 (ks:=ks) (Ps:=Ps) st (fun p=>R.mem) R.nd hk;have JH:=st.perm pm;refine⟨_,rfl,abf e2 D2 JH (fun p=>Bs) R.nd fun r dl df lk fk H3 Si qz iL h3 A3 dn3 sk3=>?_⟩;have ndl:e≠dl:=ao e2 Si;have S3:aq H1 H3:=fun b u h=>qz b u (S2 _ _ h) (ao h he);have zS:=S1.trans S3;refine⟨r,_,rfl,aC.of h3,rfl,_,_,rfl,_,_,rfl,rfl,?_⟩;refine⟨_,rfl,fun z hz=>?_⟩;have Sz:=ay (o:= .dK []) hz;refine⟨df,z,fk,rfl,rfl,Sz _ _ A3.hf,ag,_,rfl,?_⟩;have A4:=A3.same Sz;have S4:=S3.trans Sz;have iM:rq (upd H3 z (.dK [])) e (putK kvs (Sum.inr k) (.ref oa)):=by
   rcases iL with⟨o,h⟩|h
   ·exact .inl ⟨o,Sz _ _ h⟩
   ·exact .inr (Sz _ _ h)
  have D4:mH (upd H3 z (.dK [])) e (putK kvs (Sum.inr k) (.ref oa)) ks (je Ps k own):=⟨D2.hk,fun x hx=>let ⟨a,e1,q1⟩:=D2.pl x hx;⟨a,e1,Sz _ _ (qz _ _ q1 (bg q1 e2))⟩,D2.k8⟩
  generalize upd H3 z (.dK [])=H4 at S4 A4 iM D4 ⊢;have CS:=S1.trans S4;have T4:=T1.same S4;have fA:∀ {x},x∈ks->(x,je Ps k own x)∈cH (je Ps k own) ks:=fun {x} hx=>Bs.mpr ⟨hx,rfl⟩;cases T4 with
  |round a=>exact absurd a hR
  |@ring _ k' bh _ hm hx hg rf =>
   have Sj:=pm.mem_iff.mpr hm;have er:rowsOf (aH (cH (je Ps k own) ks)) bh=rowsOf (aH (bH aa k own)) bh:=AH fun x h=>Et st pm (hx x h);have sk:lU (cH (je Ps k own) ks) k':=⟨bh,Sj,fun x h=>(xJ st pm).mpr (hx x h),by rw[er];exact hg⟩
   have dn:=sk3 k' sk;obtain⟨_,_,fa,ws,ea,ha,C5⟩:=A4.fl k' dn;have ep:je Ps k own k'=bh:=(Bs.mp Sj).2.symm;rw[ep,er]at C5;have nef:(!fk.isEmpty)=true:=by
    cases fk with
    |nil=>cases dn
    |cons _ _=>rfl
   rw[nef];obtain⟨l2,p,us,W,e1,e3,e4,hW,rp⟩:=rf;have ec:d6 [V.ref l2,.str k',.ref p] none (some (1:Int)) = [V.ref l2]:=by rw[show(1:Int)=((1:Nat):Int) from rfl,Fz];rfl
   refine⟨_,rfl,_,rfl,l,_,rfl,aj.of e1,fun s1 zW=>?_⟩;rw[ec];have T1:=ay (o:= .lst [V.ref l2]) zW;refine⟨xK (by show 1<=100;decide),fun s2 nC=>⟨xK (by show 1<=100;decide),fun s3 zX=>?_⟩⟩
   have T2:=ay (o:= .lst [V.str "ring"]) nC;have T3:=ay (o:= .lst [V.ref s2]) zX;have Ad:=T2.trans T3;have oP:=T1.trans Ad;have x1:=Ad _ _ (ag (H:=H4) (a:=s1) (o:=HO.lst [V.ref l2]));have x2:=T3 _ _ (ag (H:=upd H4 s1 (.lst [V.ref l2])) (a:=s2) (o:=HO.lst [V.str "ring"]));have lay:=M9 (x:= "ring") (.inl rfl);refine⟨_,_,.lst x1 (.cons (.lst (oP _ _ e3) (.cons (.str _) .nil)) .nil),.lst ag (.cons (.lst x2 (.cons (.str _) .nil)) .nil),lay,lay,by simp only[PyData.depth,PyData.depthAll];decide,?_⟩
   rw[DC _ lay];refine⟨_,rfl,?_⟩;generalize upd (upd (upd H4 s1 (.lst [V.ref l2])) s2 (.lst [V.str "ring"])) s3 (.lst [V.ref s2])=H5 at oP ⊢;obtain⟨xs,Sk⟩:=Xd A4.ky.2;have el:(fk.map fun kv=>kV kv.1)=xs.map V.str:=by
    have:(fk.map fun kv=>kV kv.1)=(fk.map (·.1)).map kV:=by rw[qL];rfl
    rw[this,Sk,qL];rfl
   have iF:k'∈xs:=by
    have:=EO dn;rw[Sk]at this;obtain⟨y,hy,e⟩:=aU.mp this;cases e;exact hy
   have eI:cC [V.ref l2,.str k',.ref p] (1:Int)=some (.str k'):=(show cC [V.ref l2,.str k',.ref p] ((1:Nat):Int)=some (.str k') from eG rfl);have at2:cC [V.ref l2,.str k',.ref p] (2:Int)=some (.ref p):=(show cC [V.ref l2,.str k',.ref p] ((2:Nat):Int)=some (.ref p) from eG rfl);refine⟨_,rfl,l,_,1,.str k',rfl,rfl,aj.of (oP _ _ e1),eI,_,rfl,df,fk,rfl,oP _ _ A4.hf,fun lw hlw=>?_⟩;rw[el];have T4:=ay (o:= .lst (xs.map V.str)) hlw;refine⟨lw,_,rfl,.inl (aj.of ag),rfl,i8 _,_,rfl,?_⟩;rw[jR];refine ite_ff (by simp[iF]) ?_
   have r8:=oP.trans T4;refine⟨_,rfl,_,rfl,l,_,1,.str k',rfl,rfl,aj.of (r8 _ _ e1),eI,df,.ref fa,rfl,.inl ⟨fk,Sum.inr k',.inl (r8 _ _ A4.hf),rfl,ea.symm⟩,_,rfl,l,_,2,.ref p,rfl,rfl,aj.of (r8 _ _ e1),at2,?_⟩;exact Z0 (r8 _ _ ha) (dj.vH C5 fun b xs e=>r8 _ _ e) (D6 st hm hx).nm (r8 _ _ e4) (hW.same r8) rp fun H6 S6=>q _ (CS.trans (r8.trans S6))
  |@told _ t' told _ ft w6 so al hl =>
   have al0:eu (cH (je Ps k own) ks):=(Ba st pm).mpr al;have fk0:fk = []:=by
    cases fk with
    |nil=>rfl
    |cons a b =>
     obtain⟨x,ex⟩:=A4.ky.2 a.1 bj;have dn:isDone (a::b) x=true:=km (by rw[<-ex];exact bj)
     obtain⟨hx,sk,_⟩:=A4.fl x dn;exact absurd (al0 _ (fA hx)) (sk.no JH)
   subst fk0;have tu:∀ {b:Addr}{xs:List V},H4 b=some (.tup xs)->b≠e:=fun {b xs} h=>by
    rcases iM with⟨o,z⟩|z
    ·exact bg h z
    ·exact bg h z
   have li:∀ {b:Addr}{xs:List V},H4 b=some (.lst xs)->b≠e:=fun {b xs} h=>by
    rcases iM with⟨o,z⟩|z
    ·exact bg h z
    ·exact bg h z
   obtain⟨Sm,wsT,hT,FT⟩:=id ft;refine⟨_,rfl,⟨_,.inr ⟨"tuple",rfl⟩⟩,.ref t',.ty "tuple",.type "tuple",.type "tuple",true,rfl,rfl,.inl (.tup hT),rfl,true,rfl,?_⟩;refine⟨_,rfl,_,rfl,abm iM D4 R.nd fun t2 ws ac8 H5 qA h5 F5 pm2 so2=>?_⟩;have eq:told=ac8:=Oc so so2 (w6.trans (pm.symm.trans pm2.symm));subst eq;have f5:FA H5 t' told:=⟨Sm,wsT,qA _ _ hT (tu hT),FT.keep fun b xs h=>qA _ _ h (tu h)⟩;refine ZZ f5 ⟨Sm,ws,h5,F5⟩ ⟨_,rfl,?_⟩;have Sn:eu told:=(Ba st w6).mpr al;refine⟨_,rfl,ZW f5 Sn so fun H6 S6=>⟨_,_,rfl,rfl,_,rfl,?_⟩⟩;have l5:H5 dl=some (.dK lk):=qA _ _ A4.hl (aO ndl);have Jx:lk.length<=8:=by
    have:=pV A4.nd.1 (b:=ks.map (Sum.inr:Str->Key)) fun k hk=>by
     obtain⟨y,rfl⟩:=A4.ky.1 k hk;exact aU.mpr ⟨y,(A4.ln y (km hk)).1,rfl⟩
    simp only[aA]at this;omega
   have So:told.Perm (cH (je Ps k own) ks):=w6.trans pm.symm;refine⟨_,rfl,_,rfl,abk (f5.same S6) Sn (S6 _ _ l5) (fun x hx=>?_) (by omega) fun H7 kp7=>q _ fun b u h=>?_⟩
   ·obtain⟨y,rfl⟩:=A4.ky.1 x hx
    obtain⟨hy,ly,a,ea,ha⟩:=A4.ln y (km hx);refine⟨y,?_,rfl,a,ea,?_⟩
    ·exact aU.mpr ⟨(y,je Ps k own y),So.mem_iff.mpr (fA hy),rfl⟩
    ·rw[Et JH So ly]
     exact S6 _ _ (qA _ _ ha (li ha))
   ·have h1:=S1 _ _ h
    have ne:b≠e:=ao h1 he;have h4:=S4 _ _ h1;exact kp7 b u (S6 _ _ (qA _ _ h4 ne)) (ao (S2 _ _ h1) Si)
theorem Xe:bootBuiltins "max" = some (.builtin "max"):=by decide +kernel
theorem fH.keep {aa:aM} (R:fH H ks t d kvs Ps aa) (pk:gf p H) (k:∀b o,H b=some o->b≠p->H' b=some o):fH H' ks t d kvs Ps aa:=by
 have np:∀ {b:Addr}{o:HO},H b=some o->(∀xs,o ≠ .lst xs)->b≠p:=fun {b o} e h z=>by
  obtain⟨x,y,e2,_⟩:=pk;rw[z,e2]at e;cases e;exact h _ rfl
 refine⟨let ⟨st,ws,a,b⟩:=R.fa;⟨st,ws,k _ _ a (np a fun _ z=>by cases z),b.keep fun c xs e=>k _ _ e (np e fun _ z=>by cases z)⟩,R.al,R.pm,R.nd,R.nm,R.k8,k _ _ R.hd (np R.hd fun _ z=>by cases z),R.hk,fun x hx=>?_,R.so⟩
 obtain⟨a,e,q⟩:=R.pl x hx;exact⟨a,e,k _ _ q (A6 pk q)⟩
theorem Z6 {k:Int} (h:aj K H a (ns.map V.int)) (k0:0<=k) (k1:k<=100) (hl:ns.length<=63) (q:∀p H',H p=none->gf p H'->aq H H'->Q (.ref p) H'):vA K [.ref a,.int k] H Q E:=by
 unfold vA;exact⟨a,ns,k,rfl,h,k0,k1,hl,fun p x y hp x0 y0 y1=>q p _ hp ⟨x,y,ag,x0,y0,y1⟩ (ay hp)⟩
theorem Yb (h:gf p H) (hm:m<=20) (q:∀ (l:Addr) (ys:List Str) (H':Hp),H l=none->ys.length=m->(∀y∈ys,Nm y)->ys.Nodup->cq p H H'->H' l=some (.lst (ys.map V.str))->Q (.ref l) H'):u9 [.ref p,.int m] H Q E:=by
 unfold u9;exact⟨p,m,rfl,h,hm,q⟩
theorem Yc {xs:List V} (h:aj K H a xs) (s:aq H H'):aj K H' a xs:=by
 rcases h with(h|⟨o,h⟩)|h
 ·exact .inl (.inl (s _ _ h))
 ·exact .inl (.inr ⟨o,s _ _ h⟩)
 ·exact .inr h
@[irreducible] noncomputable def tf (K:Frag):Sp:=fun vs H Q _=>∃ (a:Addr) (ns:List Int),vs = [.ref a]/\aj K H a (ns.map V.int)/\ns.length<=63 /\ ∀H',Q (.bl true) H'
noncomputable abbrev Ht:List Str:= ["_law_script","_law_k","_law_pot_here","_law_ways","_law_family_here","_law_lines","_law_parents_here","_law_any_one","_law_kind","_law_some","_law_own","_law_ahead","_law_told_here","_law_refusal"]
theorem jB:b6 Ht ["_law_script"] (aJ vL):=cF (by decide +kernel)
noncomputable abbrev Sq:Stmt:=cb (b9 vL) 0
noncomputable abbrev ac9:Expr:=fB (cb (qR Sq) 1)
noncomputable abbrev ada:Expr:=fB (cb (qR (cb (qR Sq) 3)) 1)
theorem OM:bX Ht (aJ vL) ["_law_turn","_law_pot_here"] [none,some 2] (cE ac9):=c9 (by decide +kernel)
theorem ON:bX Ht (aJ vL) ["_law_one","_law_any_one","_law_kind","_law_parents_here"] [none,some 7,some 8,some 6] (cE ada):=c9 (by decide +kernel)
theorem Z7 {fS fE fO fT:Addr}{dD dF dS dE dO dT:FuncData} (F:aW K "law" "law" vL f fd) (B:dB mg) (B2:gN mg)
  (GP:aI P w K mg base aQ 1 fP dP ["_law_script","_law_k"] (vA K)) (kP:keepIn K (.ref fP)=true) (bP:Binds K dP ["_law_script","_law_k"] []) (mP:mg "_law_pot" = some (.ref fP))
  (GD:aI P w K mg base aQ 1 fD dD ["_law_pot_here","_law_many"] pL) (kD:keepIn K (.ref fD)=true) (bD:Binds K dD ["_law_pot_here","_law_many"] []) (mD:mg "_law_digit" = some (.ref fD))
  (GN:aI P w K mg base aQ 3 fN dN ["_law_pot_here","_law_many"] u9) (kN:keepIn K (.ref fN)=true) (bN:Binds K dN ["_law_pot_here","_law_many"] []) (mN:mg "_law_names" = some (.ref fN))
  (GF:aI P w K mg base aQ 3 fF dF ["_law_pot_here","_law_kinds"] vC) (kF:keepIn K (.ref fF)=true) (bF:Binds K dF ["_law_pot_here","_law_kinds"] []) (mF:mg "_law_family" = some (.ref fF))
  (GS:aI P w K mg base aQ 2 fS dS ["_law_left","_law_pot_here"] vY) (kS:keepIn K (.ref fS)=true) (bS:Binds K dS ["_law_left","_law_pot_here"] []) (mS:mg "_law_some_of" = some (.ref fS))
  (GE:aI P w K mg base aQ 1 fE dE ["_law_parents_here","_law_kind"] sU) (kE:keepIn K (.ref fE)=true) (bE:Binds K dE ["_law_parents_here","_law_kind"] []) (mE:mg "_law_forebears" = some (.ref fE))
  (GO:aI P w K mg base aQ 6 fO dO ["family","kind"] sE) (kO:keepIn K (.ref fO)=true) (bO:Binds K dO ["family","kind"] []) (mO:mg "line_of" = some (.ref fO))
  (GT:aI P w K mg base aQ 8 fT dT ["_law_family_here","_law_kind","_law_own"] vZ) (kT:keepIn K (.ref fT)=true) (bT:Binds K dT ["_law_family_here","_law_kind","_law_own"] []) (mT:mg "_law_told" = some (.ref fT))
  (GR:aI P w K mg base aQ 8 fR dR C4 wo) (kR:keepIn K (.ref fR)=true) (bR:Binds K dR C4 []) (mR:mg "_law_right" = some (.ref fR)) :
  aI P w K mg base aQ 9 f fd ["_law_script"] (tf K):=by
 refine F.ok jB (fun vs H Q E h=>?_) (fun cdv A outer s H vs Q E hr h=>?_)
 ·unfold tf at h;obtain⟨a,ns,rfl,_⟩:=h;rfl
 ·unfold tf at h
  obtain⟨a,sc,rfl,hS,oC,q⟩:=h;have w8:a7 8 _:=hr;have mi:a7 6 _:=w8.mono (by decide)
  have j':a7 3 _:=w8.mono (by decide)
  have iZ:a7 2 _:=w8.mono (by decide)
  have cK:a7 1 _:=w8.mono (by decide)
  have hu:=hr.units;have ck:=k6 hu;refine⟨_,aD (jx jt rfl (pF rfl B.range (af (aZ (LW rfl) rfl B.max Xe (af aP (af (aZ (Ea rfl) rfl B.min boot_min (af aP (af (aZ i7 rfl B.len gW (af (pv 0) ai)) ai))) ai))) ai)) (aX (i:=1) jB.nd rfl (Or.inl rfl))
    (aD (bq (i:=2) jB.nd rfl (Or.inr rfl) (bc GP cK rfl mP kP bP .nil a9 (af (pv 0) (af (pv 1) ai))))
    (aD (sy (i:=3) rfl OM jB.nd rfl rfl (pF rfl B.range (af (c8 qW aP (bc GD cK rfl mD kD bD .nil a9 (af (pv 2) (af aP ai)))) ai)) (fun s H fp=>⟨aX (i:=0) OM.nd rfl (Or.inl rfl),eP,bc GD cK rfl mD kD bD .nil a9 (af (pv 1) (af aP ai))⟩))
    (aD (qV (bc GF j' rfl mF kF bF .nil a9 (af (pv 2) (af (bc GN j' rfl mN kN bN .nil a9 (af (pv 2) (af (c8 qW aP (bc GD cK rfl mD kD bD .nil a9 (af (pv 2) (af aP ai)))) ai))) ai)))
      (pN rfl (eF (aX (i:=4) jB.nd rfl (Or.inl rfl)) (eF (aX (i:=5) jB.nd rfl (Or.inl rfl)) (eF (aX (i:=6) jB.nd rfl (Or.inr rfl)) kq)))))
    (aK (jx jt rfl (gJ (pv 3)) (aX (i:=7) jB.nd rfl (Or.inr rfl))
     (aD (bq (i:=8) jB.nd rfl (Or.inr rfl) (cf eQ (aZ (Le rfl) rfl B2.sorted boot_sorted (af (pv 6) ai)) (bc GD cK rfl mD kD bD .nil a9 (af (pv 2) (af (aZ Ej rfl B.len gW (af (pv 6) ai)) ai))) (fun _ _=>rfl)))
     (aD (sy (i:=9) rfl ON jB.nd rfl rfl (gJ (aZ (Le rfl) rfl B2.sorted boot_sorted (af (pv 6) ai))) (fun s H fp=>⟨aX (i:=0) ON.nd rfl (Or.inl rfl),my (PW.pt (pw_or (cy yd (pv 1) aP (cI _)) (pw_or1 (cy (LB K rfl) (pv 2) (bc GE cK rfl mE kE bE .nil a9 (af (pv 3) (af (pv 0) ai))) rfl)))),pv 0⟩))
     (aD (bq (i:=10) jB.nd rfl (Or.inl rfl) (bc GS iZ rfl mS kS bS .nil a9 (af (pv 9) (af (pv 2) ai))))
     (aD (bq (i:=11) jB.nd rfl (Or.inl rfl) (bc GO mi rfl mO kO bO .nil a9 (af (pv 4) (af (pv 8) ai))))
     (aD (qV (bc GT w8 rfl mT kT bT .nil a9 (af (pv 4) (af (pv 8) (af (eO mx rfl B.tuple boot_tuple (af (pv 10) ai)) ai)))) (pN rfl (eF (aX (i:=12) jB.nd rfl (Or.inl rfl)) (eF (aX (i:=13) jB.nd rfl (Or.inl rfl)) kq))))
     (aD (cQ (PW.pt (pw_or (gx (eT (bc GR w8 rfl mR kR bR .nil a9 (af (pv 12) (af (pv 13) (af (pv 6) (af (pv 8) (af (pv 10) ai))))))))
       (pw_or1 (cy (vf hu) (bc GO mi rfl mO kO bO .nil a9 (af (pv 4) (af (pv 8) ai))) (pv 11) (cI _))))) (aK (bf gX)) cU)
     (aK (cQ (cy (YN hu) (pv 13) (cX ai) (cI _)) (aD (bq (i:=4) jB.nd rfl (Or.inl rfl) (pv 12)) (aK (sG ck (pv 6) (pv 8) (pv 10) rfl))) cU))))))))))))))
   (aK (bf gX)),?_⟩
  refine⟨_,rfl,a,_,rfl,.inl hS,_,_,rfl,_,_,rfl,_,rfl,?_,?_,uK (fun i σ H1=>∃v1 v2 v3 v4 v5 v6 v7 v8 v9 v10 v11 uu uv:Option V,σ = [some (.ref a),v1,v2,v3,v4,v5,v6,v7,v8,v9,v10,v11,uu,uv]/\aq H H1) ⟨none,none,none,none,none,none,none,none,none,none,none,none,none,rfl,aq.refl _⟩ (fun i0 σ H1 hi hP=>?_) (fun σ H1 _=>q _)⟩
  ·split <;> (try split) <;> omega
  ·split <;> (try split) <;> omega
  obtain⟨v1,v2,v3,v4,v5,v6,v7,v8,v9,v10,v11,uu,uv,rfl,S1⟩:=hP;have hi6:i0 < 6:=by
   refine gV hi ?_;split <;> (try split) <;> omega
  refine⟨_,rfl,_,rfl,Z6 (Yc hS S1) (by omega) (by omega) oC fun p H2 hp pk S2=>?_⟩
  refine⟨_,rfl,lN (p:=p) (m:=4) pk (by decide) (by decide) fun dw H3 w0 w1 p3=>?_⟩
  obtain⟨wn,rfl⟩:=DB w0;refine⟨1,(wn:Int),rfl,rfl,(1+(wn:Int)),rfl,by omega,by omega,fun wl qh=>?_⟩
  have rR:p≠wl:=p3.ok.ne qh;refine DV (fun i zs τ H4=>∃ (ws:List Int) (t0:Option V),zs=ws.map V.int/\ws.length=i/\τ = [t0,some (.ref p)]/\cq p H3 H4/\H4 wl=some (.lst zs)) ⟨[],none,rfl,rfl,rfl,(cq.refl p3.ok).new qh,ag⟩ (fun i zs τ H4 hQ9=>by obtain⟨_,_,_,_,_,_,z⟩:=hQ9;exact z) ?_ ?_
  ·rintro j zs τ H4 hj ⟨ws,t0,rfl,gT,rfl,pe,hz⟩
   refine⟨_,rfl,lN (p:=p) (m:=3) pe.ok (by decide) (by decide) fun x H5 x0 x1 pf=>?_⟩
   refine⟨pf.kp wl _ hz (aO rR),by rw[aA,gT,aN];omega,cw_next hj ⟨ws ++ [x],_,?_,?_,rfl,(pe.trans pf).write ((cq.refl p3.ok).free qh) rR,ag⟩⟩
   ·rw[a8];rfl
   ·rw[cZ,gT];rfl
  rintro zs τ H4 ⟨Qd,t0,rfl,_,rfl,p4,CM⟩;refine⟨_,rfl,_,rfl,_,rfl,lN (p:=p) (m:=8) p4.ok (by decide) (by decide) fun dg H7 d0 d1' p7=>?_⟩
  obtain⟨dn,rfl⟩:=DB d0;refine⟨1,(dn:Int),rfl,rfl,?_⟩;refine Yb (m:=1+dn) p7.ok (by omega) fun kl ks H8 hkl hkn CP knd p8 h8=>?_
  refine ZP p8.ok h8 knd CP (by omega) fun r t d1 d ws kvs L Ps aa H9 R9=>?_
  refine⟨r,_,rfl,aC.of R9.hr,rfl,_,_,rfl,_,_,rfl,_,_,rfl,rfl,?_⟩;have RA:kB H9 ks t d kvs L Ps aa:=⟨⟨ws,R9.ht,R9.fv⟩,R9.pm,R9.fm,knd,CP,by omega,R9.hd,R9.hk,R9.pl,R9.so⟩
  have Ss:=p7.trans (p8.trans R9.pa);have P9:=p3.trans (p4.trans Ss);have Su:=R9.pa.ok;have JI:=Ss.kp _ _ CM (aO rR);have akY:0 < ks.length:=by omega
  have k8:=RA.k8;have R0:=RA.fr;have Ra:p≠d:=by
   obtain⟨x,y,e,_⟩:=Su;exact bg e R0.hd
  have IW:wl≠d:=bg JI R0.hd
  have S19:∀b o,H1 b=some o->b≠p/\b≠d/\H9 b=some o:=fun b o z=>by
   have np:=ao z hp;have z2:=S2 _ _ z;have z8:=(p3.trans (p4.trans (p7.trans p8))).kp b o z2 np;exact⟨np,ao z8 R9.n2,P9.kp b o z2 np⟩
  clear R9 RA;refine⟨_,rfl,wl,rfl,⟨_,aj.of JI⟩,xy (xs:=Qd.map V.int) (fun j σ J=>∃ (t:Addr) (kvs:List (Key×V)) (Ps:Str->List Str) (aa:aM) (v7 v8 v9 v10 v11 uu uv:Option V),σ = [some (.ref a),some (.int (0+(i0:Int))),some (.ref p),some (.ref wl),some (.ref t),some (.ref d1),some (.ref d),v7,v8,v9,v10,v11,uu,uv]/\gf p J/\(∀b o,H9 b=some o->b≠p->b≠d->J b=some o)/\fH J ks t d kvs Ps aa)
   ⟨t,kvs,Ps,aa,v7,v8,v9,v10,v11,uu,uv,rfl,Su,fun _ _ e _ _=>e,R0⟩ (fun j σ J _ hQ9=>by obtain⟨_,_,_,_,_,_,_,_,_,_,_,_,_,z,_⟩:=hQ9;exact aj.of (z _ _ JI (aO rR) IW)) ?_ ?_⟩
  ·rintro j x σ J hx ⟨t,kvs,Ps,aa,v7,v8,v9,v10,v11,uu,uv,rfl,C6,JJ,RJ⟩
   obtain⟨n,hn,rfl⟩:∃n:Int,n∈Qd/\V.int n=x:=aU.mp (ia hx);have kl:=RJ.kl;refine⟨_,rfl,d,kvs,ks,rfl,RJ.hd,RJ.hk,by omega,fun D ss hD hs _=>?_⟩
   have SD:=ay (o:= .lst (ss.map V.str)) hD;refine⟨_,rfl,_,rfl,d,kvs,rfl,SD _ _ RJ.hd,lN (p:=p) (sD C6 SD).ok (by omega) (by omega) fun x J2 x0 x1 g=>?_⟩
   obtain⟨xn,rfl⟩:=DB x0;have hl:=hs.length_eq;have hx:xn < ss.length:=by omega
   have IL:p≠D:=C6.ne hD;obtain⟨k,hk,ax⟩:∃k,k∈ks/\cC (ss.map V.str) (xn:Int)=some (.str k):=⟨ss[xn],hs.mem_iff.mp (iO hx),eG (by rw[eX,cP hx];rfl)⟩
   have qy:∀b o,J b=some o->b≠p->J2 b=some o:=fun b o e n=>g.kp b o (SD _ _ e) n;have Sv:=g.ok;have h2:=g.kp _ _ ag (aO IL);refine⟨D,_,_,.str k,rfl,rfl,aj.of h2,ax,?_⟩;have R2:=RJ.keep C6 qy;refine⟨_,rfl,d,kvs,ks,rfl,R2.hd,R2.hk,by omega,fun D2 qD hD2 nC _=>?_⟩
   have S3:=ay (o:= .lst (qD.map V.str)) hD2;have e3:upd J2 D2 (.lst (qD.map V.str)) D2=some (.lst (qD.map V.str)):=ag;generalize upd J2 D2 (.lst (qD.map V.str))=J3 at S3 e3 ⊢;have R3:=R2.same S3;have pk3:=(sD Sv S3).ok;have l2:qD.length=ks.length:=nC.length_eq;refine⟨D2,rfl,⟨_,aj.of e3⟩,fun b hb=>?_⟩;refine iP (xs:=qD.map V.str) (fun i ys τ G=>∃ (t0:Option V) (zs:List Str),τ = [t0,some (.int n),some (.str k),some (.ref d)]/\ys=zs.map V.str/\zs.Sublist (qD.take i)/\aq J3 G/\G b=some (.lst ys)) ⟨none,[],rfl,rfl,U2 _,ay hb,ag⟩ (fun i ys τ G hQ9=>by obtain⟨_,_,_,_,_,z1,z2⟩:=hQ9;exact ⟨z2,aj.of (z1 _ _ e3)⟩) ?_ ?_
   ·rintro i x ys τ G hx ⟨t0,zs,rfl,rfl,sub,S4,h4⟩
    obtain⟨cG,eJ,rfl,tk⟩:=jV hx;have zl:zs.length<=8:=dG sub.length_le (by rw[dJ];omega)
    refine⟨_,rfl,rfl,_,rfl,fq (fun _=>?_) (fun _=>?_)⟩
    ·refine⟨_,rfl,h4,by rw[aA,aN];omega,cw_next cG ⟨_,zs ++ [qD[i]],rfl,?_,?_,fun c u e=>?_,ag⟩⟩
     ·rw[a8];rfl
     ·rw[tk];exact akH sub (U2 _)
     ·rw[ah (ao e hb)];exact S4 _ _ e
    ·have R4:=R3.same S4
     refine⟨_,rfl,_,rfl,_,rfl,NQ R4.hd R4.pl R4.up R4.k8 (nC.mem_iff.mp (iO eJ)) fun l F G2 _ S5 h5 mem _ _=>⟨l,_,rfl,.inl (aj.of h5),rfl,i8 _,_,rfl,?_⟩⟩;have Sx:=S5 _ _ h4;refine fq (fun _=>?_) (fun _=>?_)
     ·refine⟨_,rfl,Sx,by rw[aA,aN];omega,cw_next cG ⟨_,zs ++ [qD[i]],rfl,?_,?_,fun c u e=>?_,ag⟩⟩
      ·rw[a8];rfl
      ·rw[tk];exact akH sub (U2 _)
      ·rw[ah (ao e hb)];exact S5 _ _ (S4 _ _ e)
     ·refine cw_next cG ⟨_,zs,rfl,rfl,?_,S4.trans S5,Sx⟩
      rw[tk];exact sub.trans (List.sublist_append_left _ _)
   rintro ys τ J4 ⟨t0,bs,rfl,rfl,sub,S4,h4⟩;rw[aA,du]at sub;have pk4:=(sD pk3 S4).ok;have dz:bs.Nodup:=List.Nodup.sublist sub (nC.nodup_iff.mpr knd);have bl:bs.length<=8:=dG sub.length_le (by omega)
   have lA:=S3.trans S4;refine⟨_,rfl,_,rfl,aa9 pk4 h4 (by omega) fun o own rest J5 Sy Hu pk5 gZ qA h5=>?_⟩
   have Qe:∀c u,J2 c=some u->c≠p->J5 c=some u:=fun c u e n=>qA c u (lA _ _ e) n (ao (S3 _ _ e) hb);have R5:=R2.keep Sv Qe;have hZ:own.Nodup:=(mr.mp (Sy.nodup_iff.mpr dz)).1;have JK:∀x∈own,x∈ks:=fun x hx=>nC.mem_iff.mp (sub.subset (Sy.mem_iff.mp (ke _ hx)));have kk:k∈keysOf aa:=R5.key.mpr hk;have nml:∀y∈aH aa k,Nm y:=fun y hy=>R5.nm y ((R5.line hk).2 y hy);refine⟨_,rfl,_,rfl,Es R5.fa R5.al kk fun pl J6 S6 h6=>?_⟩;refine⟨_,rfl,_,rfl,_,rfl,o,_,rfl,.inl ⟨aj.of (S6 _ _ h5),fun pa fo=>?_⟩⟩;have S7:=S6.trans (ay (o:= .tup (own.map V.str)) fo);have zy:upd J6 pa (.tup (own.map V.str)) pa=some (.tup (own.map V.str)):=ag;have h7:=ay (o:= .tup (own.map V.str)) fo _ _ h6;generalize upd J6 pa (.tup (own.map V.str))=J7 at S7 zy h7 ⊢;have R7:=R5.same S7;refine abb ⟨R7.fa,R7.al,by rw[R7.len];exact k8,kk,zy,hZ,Hu,fun x hx=>R7.key.mpr (JK x hx)⟩ fun r v l J8 S8 h8 T8=>?_
   refine⟨r,_,rfl,aC.of h8,rfl,_,_,rfl,_,_,rfl,rfl,?_⟩;have SE:=S7.trans S8;refine⟨_,rfl,_,rfl,_,rfl,_,rfl,_,rfl,abo (R5.same SE) hk (SE _ _ h5) hZ Hu JK T8 fun J9 S9=>⟨true,rfl,?_⟩⟩;refine⟨_,rfl,_,rfl,Es (R7.fa.same (S8.trans S9)) R5.al kk fun IE JA SA hA=>?_⟩;have SF:=S8.trans (S9.trans SA);refine⟨_,rfl,NP hA (SF _ _ h7) nml ⟨_,rfl,?_⟩⟩;have TA:=T8.same (S9.trans SA);refine⟨_,rfl,bG _,fun z hz=>?_⟩;have SZ:=SF.trans (ay (o:= .lst []) hz);have TZ:=TA.same (ay (o:= .lst []) hz);have C7:upd JA z (.lst []) z=some (.lst []):=ag;generalize upd JA z (.lst [])=JZ at SZ TZ C7 ⊢;have C8:=S7.trans SZ;have RZ:=R5.same C8;have JL:=(sD pk5 C8).ok;have JM:∀c u,H9 c=some u->c≠p->c≠d->JZ c=some u:=fun c u e n1 n2=>C8 _ _ (Qe c u (qy c u (JJ c u e n1 n2) n1) n1);cases TZ with
   |round _ rn =>
    obtain⟨l2,r2,way,x,e1,_⟩:=rn;exact⟨l,z,_,rfl,rfl,e1,C7,_,rfl,t,kvs,Ps,aa,_,_,_,_,_,_,_,rfl,JL,JM,RZ⟩
   |ring _ _ _ _ rf =>
    obtain⟨l2,r2,us,W,e1,_⟩:=rf;exact⟨l,z,_,rfl,rfl,e1,C7,_,rfl,t,kvs,Ps,aa,_,_,_,_,_,_,_,rfl,JL,JM,RZ⟩
   |@told _ t' told hN ft w6 so al zZ =>
    refine⟨l,z,_,rfl,rfl,zZ,C7,_,rfl,?_⟩;refine⟨_,rfl,?_⟩;refine⟨_,rfl,_,rfl,_,rfl,d,_,rfl,mV.k (k:=Sum.inr k) RZ.hd (by rw[aN];omega),?_⟩
    have st:=RZ.Sg hk hZ Hu JK;have pm:=M8 (ks:=ks) (Ps:=Ps) st (fun p=>RZ.mem) RZ.nd hk;have nd:∀ {c:Addr}{u:HO},JZ c=some u->c≠d->upd JZ d (.dK (putK kvs (Sum.inr k) (.ref o))) c=some u:=fun {c u} e n=>by rw[ah n];exact e
    have tup:∀ {c:Addr}{xs:List V},JZ c=some (.tup xs)->upd JZ d (.dK (putK kvs (Sum.inr k) (.ref o))) c=some (.tup xs):=fun {c xs} e=>nd e (bg e RZ.hd)
    have lis:∀ (c:Addr) (xs:List V),JZ c=some (.lst xs)->upd JZ d (.dK (putK kvs (Sum.inr k) (.ref o))) c=some (.lst xs):=fun c xs e=>nd e (bg e RZ.hd)
    have DP:mH (upd JZ d (.dK (putK kvs (Sum.inr k) (.ref o)))) d (putK kvs (Sum.inr k) (.ref o)) ks (je Ps k own):=mH.put RZ.hk RZ.pl RZ.k8 hk (C8 _ _ h5) lis;refine⟨t',putK kvs (Sum.inr k) (.ref o),je Ps k own,told,_,_,_,_,_,_,_,rfl,?_,fun c u e n1 n2=>nd (JM c u e n1 n2) n2,?_⟩
    ·obtain⟨x,y,e,rr⟩:=JL
     exact⟨x,y,nd e Ra,rr⟩
    ·exact⟨let ⟨s1,ws,e1,f1⟩:=ft;⟨s1,ws,tup e1,f1.keep fun c xs e=>tup e⟩,(Ba st w6).mpr al,w6.trans pm.symm,RZ.nd,RZ.nm,RZ.k8,ag,DP.hk,DP.pl,so⟩
  ·rintro σ J ⟨t,kvs,Ps,aa,v7,v8,v9,v10,v11,uu,uv,rfl,C6,JJ,RJ⟩
   refine⟨_,_,_,_,_,_,_,_,_,_,_,_,_,rfl,fun b o z=>?_⟩;obtain⟨n1,n2,z9⟩:=S19 b o (S1 _ _ z);exact JJ b o z9 n1 n2
end lu
namespace lu
open PySem L2 PySem.W
def adb (K:Frag) (LE:Addr):Bool:=readsIn K LE (.type "type") && (specialIn K (.ref LE) "__getattribute__" == some (some (.builtin "type.__getattribute__")))
def nsOk (K:Frag) (C D:Addr):Bool:=findIn K (.ref C) "kind" == some none && (findIn K (.ref C) "ring" == some none && (keepIn K (.ref C) && (mroIn K C (.ref C)==some true && (findIn K (.ref D) "way" == some none && keepIn K (.ref D)))))
def lC (l:List Addr) (i:Nat):Addr:=l.getD i 0
def abq (K:Frag) (LE:Addr) (l:List Addr):Bool:=([13,12]:List Nat).all fun i=>(List.range 16).all (fun j=>kitOne K (.ref (lC l i)) (.ref (lC l j))==some (decide (i=j))) && (kitOne K (.ref (lC l i)) (.type "ValueError")==some true && (FE K (lC l i) && mroIn K (lC l i) (.ref LE)==some true))
theorem all_mk {l:OpenLaw}{fa:Addr} (X:K.In h) (G:h.Ns mainGlobals mg) (gn:mg "law" = some (.ref fa)) {LE fJ g0 g1 g2 g3 g4 g5 g6 g7 g8 g9 oQ oR lD lE oS oU:Addr}{odI anI:Option Addr}{slI:Array (Option Value)}{ocI kVI dcI pmI SG ctI:Value}{odJ anJ:Option Addr}{slJ:Array (Option Value)}{ocJ kVJ dcJ pmJ SH ctJ:Value}
  (hd:Cy K [pr "merged" xH,pr "least_free" Bo,pr "wish_against" vz,pr "ring_within" vj,pr "is_name" xG,pr "are_rising" E8,pr "is_row" xW,pr "is_family" pP,pr "is_pair" E9,pr "is_kind" Fb,pr "are_parents" ym,pr "check_kind" Fc,pr "lines_of" vk,pr "line_from" xw,pr "line_of" Fd,pr "way_of" yz,pr "kind_changed" EI,pr "check_parents" Fe,pr "with_parents" FZ,pr "without_kind" xA,pr "_law_pot" GX,pr "_law_digit" xX,pr "_law_names" pQ,pr "_law_merged" nT,pr "_law_line" xY,pr "_law_parents" El,pr "_law_family" xB,pr "_law_forebears" F0,pr "_law_is_wish" Fw,pr "_law_is_ring" pR,pr "_law_classes" pJ,pr "_law_some_of" Ff,pr "_law_told" F6,pr "_law_is_way" sY,pr "_law_all_lines" uN,pr "_law_lines_told" DZ,pr "_law_frozen" xI,pr "_law_right" xZ,pr "law" vL])
  (hz:GH K ["len","max","min","abs","range","any","all","list","tuple","enumerate","isinstance","str","dict","sorted","set","zip","int","bool","ValueError"])
  (hJ:GJ K ["NoName","NoKind","NoParents","Taken","InUse","NoEntry","NoThing","NoNumber","NotAbove","Shut","NoText","NoRow","Ring","Round","Missing","Endless"] [g0,g1,g2,g3,g4,g5,g6,g7,g8,g9,oQ,oR,lD,lE,oS,oU])
  (JN:nsIn K mainGlobals "LineError" = some (some (.ref LE)))
  (SI:findIn K (.ref lD) "__init__" = some (some (.ref fI)))
  (JO:isFn K (.ref fI)=true)
  (JP:eU K lD (some (.ref fI))=true)
  (JQ:K.lookup fI=some ⟨ocI,odI,.func (fnOf "__init__" "Ring.__init__" (kr rh) (b9 rh) (aJ rh) .none kVI dcI pmI anI SG ctI),slI⟩)
  (JR:codeIn K SG "Ring.__init__" = true)
  (JS:keepIn K (.ref fI)=true)
  (SJ:findIn K (.ref lE) "__init__" = some (some (.ref fJ)))
  (JT:isFn K (.ref fJ)=true)
  (JU:eU K lE (some (.ref fJ))=true)
  (JV:K.lookup fJ=some ⟨ocJ,odJ,.func (fnOf "__init__" "Round.__init__" (kr sO) (b9 sO) (aJ sO) .none kVJ dcJ pmJ anJ SH ctJ),slJ⟩)
  (JW:codeIn K SH "Round.__init__" = true)
  (JX:keepIn K (.ref fJ)=true)
  (gT:abq K LE [g0,g1,g2,g3,g4,g5,g6,g7,g8,g9,oQ,oR,lD,lE,oS,oU]=true)
  (JY:eU K LE none=true)
  (oC:nsOk K lD lE=true)
  (C9:adb K LE=true)
  (Gd:nsIn K mainGlobals "MOST_PARENTS" = some (some (.int 4 tk)))
  (J0:findCls K (.ref LE) (.type "type") "__init__" = some (.val (.builtin "ValueError.__init__"))) :
  ∃fd:FuncData,(∀ (s:Shared) (v:Value),BindsTo s fd ⟨[v],[]⟩ [("_law_script",v)]) /\ ∀base:Heap,K.In base->base.Ns mainGlobals mg->aI l.prog w K mg base aQ 9 fa fd ["_law_script"] (tf K):=by
 have z:∀x∈_,mg x=none:=Nx X G hz;obtain⟨hM,hLf,hWa,C5,hNm,hRs,hIr,hIf,hPr,hKd,hAp,hCk,Iv,hFr,Ja,hWy,hKc,hCp,hWp,hWo,hP,hD,hN,hYm,hYn,hYp,hYf,hFo,hLw,hLr,hCs,hSo,hTr,hIw,hAl,hLt,hFz,hRt,hL,-⟩:=hd;obtain⟨fM,dM,FM,kM,bM,mM⟩:=ku X G hM "rows";obtain⟨fLf,dLf,FLf,kLf,bLf,mLf⟩:=ku X G hLf "rest";obtain⟨fWa,dWa,FWa,kWa,bWa,mWa⟩:=iQ X G hWa "rest" "name";obtain⟨fRw,dRw,FRw,kRw,bRw,mRw⟩:=ku X G C5 "rest";obtain⟨fNm,dNm,FNm,J1,J',Ka⟩:=ku X G hNm "thing";obtain⟨fRs,dRs,FRs,kRs,bRs,mRs⟩:=ku X G hRs "names";obtain⟨fIr,dIr,FIr,SK,SM,SN⟩:=ku X G hIr "thing";obtain⟨fIf,dIf,FIf,kIf,bIf,mIf⟩:=ku X G hIf "thing";obtain⟨fPr,dPr,FPr,kPr,bPr,mPr⟩:=ku X G hPr "thing";obtain⟨fKd,dKd,FKd,SO,SQ,SR⟩:=iQ X G hKd "family" "thing";obtain⟨fAp,dAp,FAp,SS,SU,SV⟩:=iQ X G hAp "family" "thing";obtain⟨fCk,dCk,FCk,Kb,Kc,Kd⟩:=iQ X G hCk "family" "thing";obtain⟨fLo,dLo,FLo,Dc,Dd,De⟩:=ku X G Iv "family";obtain⟨fFr,dFr,FFr,kFr,bFr,mFr⟩:=u0 X G hFr "lines" "kind" "parents";obtain⟨fLn,dLn,FLn,SW,SX,SY⟩:=iQ X G Ja "family" "kind";obtain⟨fWy,dWy,FWy,kWy,bWy,mWy⟩:=u0 X G hWy "family" "a" "b";obtain⟨fKc,dKc,FKc,kKc,bKc,mKc⟩:=u0 X G hKc "family" "kind" "parents";obtain⟨fCp,dCp,FCp,kCp,bCp,mCp⟩:=iQ X G hCp "family" "thing";obtain⟨fWp,dWp,FWp,kWp,bWp,mWp⟩:=u0 X G hWp "family" "kind" "parents";obtain⟨fWo,dWo,FWo,kWo,bWo,mWo⟩:=iQ X G hWo "family" "kind";obtain⟨fP,dP,FP,kP,bP,mP⟩:=iQ X G hP "_law_script" "_law_k";obtain⟨fD,dD,FD,kD,bD,mD⟩:=iQ X G hD "_law_pot_here" "_law_many";obtain⟨fN,dN,FN,kN,bN,mN⟩:=iQ X G hN "_law_pot_here" "_law_many";obtain⟨fYm,dYm,S',kYm,Ta,Tb⟩:=ku X G hYm "_law_rows";obtain⟨fYn,dYn,Tc,Td,Te,Tf⟩:=u0 X G hYn "_law_lines" "_law_kind" "_law_own";obtain⟨fYp,dYp,FYp,kYp,bYp,mYp⟩:=iQ X G hYp "_law_pot_here" "_law_made";obtain⟨fYf,dYf,FYf,kYf,bYf,mYf⟩:=iQ X G hYf "_law_pot_here" "_law_kinds";obtain⟨fFo,dFo,FFo,Tg,Th,Ti⟩:=iQ X G hFo "_law_parents_here" "_law_kind";obtain⟨fLw,dLw,FLw,kLw,bLw,mLw⟩:=iQ X G hLw "_law_rows" "_law_wish";obtain⟨fLr,dLr,FLr,kLr,bLr,mLr⟩:=iQ X G hLr "_law_rows" "_law_ring";obtain⟨fCs,dCs,FCs,kCs,bCs,mCs⟩:=ku X G hCs "_law_e";obtain⟨fSo,dSo,FSo,kSo,bSo,mSo⟩:=iQ X G hSo "_law_left" "_law_pot_here";obtain⟨fTr,dTr,FTr,kTr,bTr,mTr⟩:=u0 X G hTr "_law_family_here" "_law_kind" "_law_own";obtain⟨fIw,dIw,FIw,kIw,bIw,mIw⟩:=YO X G hIw "_law_told_here" "_law_parents_here" "_law_own" "_law_kind";obtain⟨fAl,dAl,FAl,kAl,bAl,mAl⟩:=ku X G hAl "_law_parents_here";obtain⟨fLt,dLt,FLt,kLt,bLt,mLt⟩:=iQ X G hLt "_law_family_here" "_law_lines";obtain⟨fFz,dFz,FFz,kFz,bFz,mFz⟩:=ku X G hFz "_law_parents_here";obtain⟨fRt,dRt,FRt,kRt,bRt,mRt⟩:=YQ X G hRt "_law_told_here" "_law_refusal" "_law_parents_here" "_law_kind" "_law_own";obtain⟨fL,dL,FL,aL⟩:=hL;cases gn.symm.trans (mg_of X G aL)
 have nz:∀ {x:Str},x∈_->mg x=none:=fun {x} m=>z x m;have Bl:dB mg:=⟨nz (by decide),nz (by decide),nz (by decide),nz (by decide),nz (by decide),nz (by decide),nz (by decide),nz (by decide),nz (by decide),nz (by decide)⟩
 have B2:gN mg:=⟨nz (by decide),nz (by decide),nz (by decide),nz (by decide)⟩
 have Ke:mg "set" = none:=nz (by decide)
 have Tj:mg "zip" = none:=nz (by decide)
 unfold nsOk at oC;simp only[o6,eW]at oC;obtain⟨n1,n2,n3,me,n4,n5⟩:=oC;have bs:sN K LE:=⟨(qI.mp C9).1,eW.mp (qI.mp C9).2,J0⟩;have Kf:=mg_of X G JN;have FI:=Fp (st:=rh) JQ JR JS;have bI:=FI.binds (ps:= ["self","kind","ring"]) fun _ _ _ _ _ _ us h=>by obtain⟨_,_,_,rfl⟩:=GV h;rfl
 have FJ:=Fp (st:=sO) JV JW JX;have bJ:=FJ.binds (ps:= ["self","way"]) fun _ _ _ _ _ _ us h=>by obtain⟨_,_,rfl⟩:=GU h;rfl
 have cl:∀i,i=13\/i=12->(∀j,j < 16->kitOne K (.ref (lC [g0,g1,g2,g3,g4,g5,g6,g7,g8,g9,oQ,oR,lD,lE,oS,oU] i)) (.ref (lC [g0,g1,g2,g3,g4,g5,g6,g7,g8,g9,oQ,oR,lD,lE,oS,oU] j))=some (decide (i=j)))/\kitOne K (.ref (lC [g0,g1,g2,g3,g4,g5,g6,g7,g8,g9,oQ,oR,lD,lE,oS,oU] i)) (.type "ValueError")=some true/\dU K (lC [g0,g1,g2,g3,g4,g5,g6,g7,g8,g9,oQ,oR,lD,lE,oS,oU] i)/\mroIn K (lC [g0,g1,g2,g3,g4,g5,g6,g7,g8,g9,oQ,oR,lD,lE,oS,oU] i) (.ref LE)=some true:=fun i hi=>by
  have h:=o7.mp gT i (by rcases hi with rfl|rfl <;> decide)
  simp only[o6,eW,o7]at h;exact⟨fun j hj=>h.1 j (oW.mpr hj),h.2.1,YU h.2.2.1,h.2.2.2⟩
 have TC:vT K mg (lC [g0,g1,g2,g3,g4,g5,g6,g7,g8,g9,oQ,oR,lD,lE,oS,oU]):=by
  refine⟨fun p hp=>?_,nz (by decide),fun i j hi hj=>(cl i hi).1 j hj,fun i hi=>(cl i hi).2.1⟩
  unfold eY at hp;simp only[aY,jq,jr]at hp;refine Ny X G p.1 hJ ?_ ?_ <;> rcases hp with rfl|rfl|rfl|rfl|rfl|rfl|rfl|rfl|rfl|rfl|rfl|rfl|rfl|rfl|rfl|rfl <;> rfl
 have Kg:=cl 12 (.inr rfl);have Kh:=cl 13 (.inl rfl);have TR:F7 K mg LE (lC [g0,g1,g2,g3,g4,g5,g6,g7,g8,g9,oQ,oR,lD,lE,oS,oU] 12) fI _:=⟨TC.n (12,"Ring") (by decide),JP,JO,n3,FI,bs,Kf,bI,Kg.2.2.1,n1,n2⟩
 have TJ:Od K mg LE (lC [g0,g1,g2,g3,g4,g5,g6,g7,g8,g9,oQ,oR,lD,lE,oS,oU] 13) fJ _:=⟨TC.n (13,"Round") (by decide),JU,JT,n5,FJ,bs,Kf,bJ,Kh.2.2.1,n4⟩
 obtain⟨_,_,_,_,_,_,_,_,_,rfl,_,_⟩:=FL.ex;exact⟨_,fun s v=>.of_eq rfl,fun base _ _ =>
  let GD:=EM FD
  let Ki:=Y1 FNm Bl B2
  let To:=aaR FIr Bl B2 Ke Ki J1 J' Ka
  let Tp:=Y2 FKd B2 Ki J1 J' Ka
  let Tq:=Y4 FAp Bl (mg_of X G Gd) Tp SO SQ SR To SK SM SN
  let Kj:=X5 FCk Tp SO SQ SR
  let GCp:=aaU FCp Tq SS SU SV
  let GM:=WZ FM Bl TR FWa bWa mWa FLf bLf mLf FRw bRw mRw
  let GFr:=aaM FFr Bl TR me GM kM bM mM
  let Df:=X3 FLo Bl GFr kFr bFr mFr
  let Tr:=W8 FLn Kj Kb Kc Kd Df Dc Dd De
  let GWy:=Z3 FWy Bl B2 Kj Kb Kc Kd Df Dc Dd De
  let GWo:=aaW FWo Bl
  let GWp:=aaY FWp Bl B2 GWo kWo bWo mWo Df Dc Dd De
  let GKc:=aa8 FKc TJ Kj Kb Kc Kd GCp kCp bCp mCp GWy kWy bWy mWy GWp kWp bWp mWp
  let GPr:=Y8 FPr Bl B2 Ki J1 J' Ka To SK SM SN
  let GRs:=Y6 FRs B2 Ke
  let GIf:=ZX FIf Bl B2 TR.mC TR.q me GPr kPr bPr mPr GRs kRs bRs mRs Tq SS SU SV Df Dc Dd De
  let GYf:=ZQ FYf Bl B2 (ZO FYp Bl FD bD mD) kYp bYp mYp (OF Tc Bl S' Ta Tb) Td Te Tf
  let GYn:=OF Tc Bl S' Ta Tb
  let GCs:=aa2 FCs B2 Tj TC
  let GTr:=abc FTr Bl B2 TC Kf ⟨_,JY⟩ Kg.2.2.2 Kh.2.2.2 Kg.2.2.1 Kh.2.2.1 n1 n2 n4 GCs kCs bCs mCs GKc kKc bKc mKc
  let GLw:=aa4 FLw Bl B2 (nz (by decide)) (nz (by decide))
  let GLr:=Z1 FLr Bl B2 Ke GLw kLw bLw mLw
  let Ts:=Za FFo Bl
  let GIw:=abe FIw Bl B2 Tj
  let GAl:=abi FAl Bl GYn Td Te Tf
  let GFz:=abn FFz Bl B2
  let GLt:=abl FLt Bl B2 Tr SW SX SY
  let GRt:=abp FRt Bl B2 Ts Tg Th Ti GIw kIw bIw mIw GAl kAl bAl mAl GLr kLr bLr mLr GFz kFz bFz mFz GIf kIf bIf mIf GLt kLt bLt mLt
  let GSo:=aba FSo Bl GD kD bD mD
  let GP:=ZM FP Bl
  let GN:=X0 FN Bl FD bD mD
  Z7 FL Bl B2 GP kP bP mP GD kD bD mD GN kN bN mN GYf kYf bYf mYf GSo kSo bSo mSo Ts Tg Th Ti Tr SW SX SY GTr kTr bTr mTr GRt kRt bRt mRt⟩
theorem walk {l:OpenLaw}{d:DefRec}{K:Params->Frag} (hn:l.most=some 63) (yP:d.params.defaults = [])
  (hY:∀ (w:World) (h:Heap),YP w h->(K w.params).In h)
  (F:∀ (w:World) (mg:Str->Option Value) (fa:Addr) (h:Heap),(K w.params).In h->h.Ns mainGlobals mg->mg d.name=some (.ref fa) ->
   ∃fd:FuncData,(∀ (s:Shared) (u:Value),BindsTo s fd ⟨[u],[]⟩ [("_law_script",u)]) /\ ∀base:Heap,(K w.params).In base->base.Ns mainGlobals mg->aI l.prog w (K w.params) mg base aQ 9 fa fd ["_law_script"] (tf (K w.params))) :
  WalkO q loose XP YP l.row.toRowW d [] (fun f vs=>PySem.call f vs):=
 L2.Yn (n:=63) (k:=9) (x:= "_law_script") (CX:=fun _=>aQ) (sp:=fun w=>tf (K w.params)) hn (by decide) yP ⟨rfl,by decide,by decide,rfl⟩ hY F (fun _ _ a ns hl _ hS=>by unfold tf;exact⟨a,ns,rfl,hS,hl,fun _=>rfl⟩) fun _ _ _ _ _ z=>z
end lu
structure PySem.W.Fast:Prop where
 (tw5516839451930222920 tw1447138515845015975 tw17285272190844475511 tw11303442691072580930 tw12602255719790203778 tw7672371608476672952 tw8019576088154112368 tw10548251662510874303 tw8598957374067453769 tw1476861706723466079 tw6318584952963201785 tw2608695622406176161 tw6157905281781110605 tw2375527896382782558 tw8018356094177053416 tw5072963888904960791 tw10015535421864296744 tw438716028960284017 tw16641983846170008170 tw5885284704939635883 tw1846550288567103642 tw13964914851207229683 tw5090061968544817884 tw17833363140990974247 tw10538870245332091416 tw3400608529582061993 tw6836695460516391539 tw14321388579961477194 tw4444368383003609897 tw6644092015167502793 tw12987483197445223526 tw9109322496519196692 tw2840086898327914473 tw14368140327325647596 tw2910788503267507217 tw17976416165314699589 tw402749826297007763 tw12050389821491446691 tw12954928621197428950 tw12696776273918021486 tw8604535401690126679 tw10182811936143350686 tw17648981379510193362 tw6047511299383965237 tw13830078651183252092 tw5927547615439001643 tw1112862184302833404 tw779655313647672483 tw7014643862841708041 tw420359916604482657 tw15047411073606123368 tw11420292010353353568 tw8952011356364023431 tw16889918439822149052 tw1715598744189676711 tw12000830577486545860 tw18254592391505753822 tw2709601310234354337 tw10473539384119298931 tw13048561526084460812 tw694064092314495958 tw7558199785590462833 tw1592091561948298125 tw11068558995900023993 tw4011518507322389230 tw11119271550944108495 tw429319900073824115 tw16257719453845711554 tw17884670549520978738 tw1330139407134236813 tw4246316407808812510 tw9836188549264859606 tw17206748901334265386 tw14574319194790413730 tw17065075708213198961 tw14094998756263889683 tw13197857892058366423 tw5301170051657040762 tw9663140938959519974 tw2264238259925641582 tw9531190516782271371 tw7569402093811758176 tw18304880323959426935 tw14654931503289685777 tw1941937864962050812 tw3123295576488819251 tw9744389829847137378 tw11395448916621128360 tw9187046212377622409 tw1803738397468457172 tw14986360111617710937 tw5651270258961217066 tw3029883611837810689 tw15246869796086145694 tw12129070620026592528 tw14198354815606199078 tw560445081176398300 tw8570403018013795634 tw1643145553419325553 tw16156396563777124024 tw15061874494978955041 tw14351094861808652743 tw15611526719064088925 tw1144201939941742233 tw6697655615281875922 tw7584586773990388051 tw17277275103662577258 tw6195206918560706065 tw18219619948162030545 tw8809388834833734953 tw7857199676901250575 tw7745791675067943886 tw14247651415718760289 tw7000965055671987753 tw5667748634626037051 tw460282628125529550 tw1587213413475448235 tw13936848935311601956 tw4343883769584623139 tw4585045718566485516 tw17670011292618682208 tw11494359396321705657 tw4641466103003166249 tw3269755791114669812 tw14614153420455634374 tw8830257844715516524 tw10356511694189385733 tw7534739376146725415 tw15951541105660290383 tw11191163554384032634 tw14230630748675327478 tw10133531408727739521 tw623380952906684581 tw12548533451478222806 tw17116331125862498061 tw9959588818617029326 tw17689696705888916605 tw14522370946960439607 tw5268542437977402817 tw14643263930647291982 tw10545999255145118338 tw10244727536970005611 tw8581988375945995987 tw15696441217472984127 tw2275884641899080631 tw6888311990060768909 tw11684939768615829676 tw8001986256681112371 tw2599755169892667341 tw14344697844605132480 tw8599442631621315053 tw8719363842723048393 tw9861267612360437243 tw11586160290578688976 tw4646214075399225070 tw4291298622439138628 tw14293323996046947481 tw15537582045086762300 tw11038919886323117491 tw1333138177693834627 tw17882710209733901366 tw12530419460022236537 tw8623853444445529413 tw17922203977901826438 tw11029442922643167241 tw14304496589028231716 tw3169428071467071800 tw5157538909082224330 tw3178188122648533592 tw9362654285104331697 tw13119886699354573581 tw14119943679947527654 tw15340881755192990642 tw2961750679269840257 tw17740276651000926764 tw16139150908638840240 tw15969530228989120871 tw15886788782608048239 tw11513912100805856359 tw14673526966729871643 tw2809130280449221473 tw17612310175716723206 tw2696296351711364422 tw6313300379678432651 tw7410702250727310999 tw16297281721526946248 tw13927275832308888789 tw9782076021780389735 tw11380907814940090225 tw2087205557199532828 tw7827692302740241618 tw15442953662429422579 tw9897909239736507250 tw5965159750671874704 tw13294389205567191572 tw8143087375854451085 tw3881847260611160158 tw9827776927216841091 tw12572935609384902293 tw10503544243046984170 tw6305792973776594150 tw389152807144927150 tw1362444272829390191 tw10815681437015353612 tw1610844171816958860 tw16933039176110805436 tw17214949841253843435 tw10368756166000986402 tw1626082770690350623 tw13631975470268839356 tw3812799250123025415 tw7129844649804283990 tw7922067762025683814 tw12764012454657345044 tw10788212735091511824 tw6974396859990147545 tw2860227577804786844 tw17474636336924337930 tw6178171440728683679 tw10487797703003680777 tw15447910759545678070 tw6120018783096241805 tw11289289739084569184 tw3480274376690649114 tw3770540618254069175 tw3775933119840941049 tw13523890623554286810 tw13244722388473580457 tw8775578297325055167 tw10966398079593283990 tw1669711256461111629 tw183944666850017093 tw13987278228925808509 tw7434580490927751302 tw7235777436227425390 tw11205956979924924211 tw6842997693875137255 tw8276554779251593352 tw18517203086005314 tw11413475677934493920 tw6128194274955184436 tw7528941757652787766 tw12228099053587101186 tw2740044309925112727 tw15419188015666046768 tw6085785030511195865 tw9095997319145303988 tw1001137579011318720 tw4083324761866754228 tw17244315234358106508 tw7023131547773351664 tw10985144040599782212 tw14815510690254080584 tw17817274116763084644 tw4161675766752470043 tw10509847906584454132 tw14867670482399048997 tw14810792481226779758 tw6000956272895639511 tw1804216345220450159 tw12372177921674405418 tw10474894155083697432 tw7277068336164709153 tw18029041928137089488 tw2619073545669795142 tw7653273092924024770 tw12701253563058324248 tw14367479609469857698 tw4742384184712656808 tw957632810742898012 tw12886769316345885559 tw284703136083665084 tw8275110487204994156 tw4417929588031982346 tw12757629213714585719 tw5534281929677209672 tw2430118346388082264:True)
open PySem PySem.W PyProof.Rows
set_option maxRecDepth 100000 in
set_option maxHeartbeats 0 in
theorem PySem.Challenge.cw_parentlines_k26_whole_parents_changed_holds : PySem.Challenge.rw_parentlines_k26_whole_parents_changed.Holds := by
 w_on;o_law;k_head;(case hw=>w_witness2)
 k_fill
 refine lu.walk (l:=PySem.Challenge.rw_parentlines_k26_whole_parents_changed) rfl rfl (fun w h Y=>PySem.W.kIn_of Y) ?F
 case F =>
  intro w mg fa h KX G tX;refine' lu.all_mk KX G tX ?d ?z ?hJ ?JN ?SI ?JO ?JP ?JQ ?JR ?JS ?SJ ?JT ?JU ?JV ?JW ?JX ?gT ?JY ?oC ?C9 ?Gd ?J0
  (case d=>(repeat (refine' L2.aaH ?a ?l ?c ?k ?_;(case a=>k_is);(case l=>k_is);(case c=>k_is);(case k=>k_is)));exact trivial)
  (case z=>(repeat' first|exact trivial|refine And.intro ?_ ?_) <;> k_is)
  (case hJ=>(repeat' first|exact trivial|refine And.intro ?_ ?_) <;> k_is)
  (case JN=>k_is)
  (case SI=>k_is)
  (case JO=>k_is)
  (case JQ=>k_is)
  (case JR=>k_is)
  (case JS=>k_is)
  (case SJ=>k_is)
  (case JT=>k_is)
  (case JV=>k_is)
  (case JW=>k_is)
  (case JX=>k_is)
  (case Gd=>k_is)
  (case J0=>k_is)
  (case JP=>kernel_rfl)
  (case JU=>kernel_rfl)
  (case gT=>kernel_rfl)
  (case JY=>kernel_rfl)
  (case oC=>kernel_rfl)
  (case C9=>kernel_rfl)
