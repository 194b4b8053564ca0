import PyProof.Rows.All
import Wide.All
import OpenK.AllK
import Wide.FinOn
import Lean
import PyProof.EqAt
import PyProof.EqKinds
import PyProof.TupleCall
import PyProof.ReprRoads
import PyProof.ReprBulk
import PyProof.EnumMake
import PyProof.EnumFor
import KE.KRevSl
import KE.KDictList
import PyProof.ZipIter
import PyProof.AttrMissHeap
import KE.KDictOf
import KE.KItemsList
import PyProof.Rows.ZipGen
import PyProof.CallFns
import PyProof.StrWalks
import PyProof.FString5
import KE.KSortTup
import PyProof.SetRoads
import PyProof.SetNew
import PyProof.Rows.SetFrom
import PyProof.WalksMore
import PyProof.ForAny
import PyProof.DictWalks
import PyProof.StrLawsIn
import PyProof.IsRules
import PySem.Challenge.RW_parentlines_k32_books_told_apart
set_option Elab.async false
set_option linter.all false
set_option maxRecDepth 100000
set_option maxHeartbeats 4000000
def ab:=@PySem.wpAny_bind
def ai:=@PySem.wpAny_pure
def aj:=@if_neg
def ar:=@List.length_map
def ax:=@if_pos
def ay:=@Nat.le_refl
def aA:=@PySem.sizeLine_eq
def aN:=@Nat.zero_le
def aQ:=@List.getElem?_eq_getElem
def aZ:=@List.mem_cons_self
def a9:=@List.mem_cons_of_mem
def bb:=@Ne.symm
def bc:=@PySem.Heap.get?_push_of_some
def bw:=@PySem.Heap.lt_size
def bx:=@List.mem_cons
def bX:=@List.getD_eq_getElem?_getD
def bY:=@List.size_toArray
def bZ:=@Nat.ne_of_lt
def b4:=@decide_eq_true
def b5:=@List.length_cons
def cm:=@decide_eq_false
def cn:=@List.map_cons
def cp:=@List.map_append
def cw:=@PySem.Heap.get?_push_size
def cz:=@Bool.false_ne_true
def cA:=@PySem.boot_len
def cD:=@List.mem_map
def cL:=@Nat.le_trans
def cU:=@List.getElem?_map
def cZ:=@List.getElem?_eq_some_iff
def c4:=@List.length_take
def d7:=@Array.length_toList
def d9:=@congrArg
def eN:=@List.mem_of_getElem?
def eO:=@List.length_append
def eP:=@Int.eq_ofNat_of_zero_le
def eS:=@Bool.and_eq_true
def e7:=@Option.some.inj
def e9:=@List.mem_append
def fb:=@PySem.wpAny_holding
def fc:=@if_false
def fk:=@PySem.Paired.length
def fV:=@List.getElem_mem
def fX:=@List.take_length
def fY:=@List.take_succ
def gw:=@Nat.lt_of_lt_of_le
def gx:=@List.mem_range
def gy:=@List.mem_singleton
def gN:=@if_true
def gO:=@Bool.false_eq_true
def gP:=@PySem.wpAny_setState_of
def ia:=@List.lookup_cons
def ie:=@Option.map_eq_some_iff
def ig:=@decide_eq_true_eq
def iD:=@PySem.wpAny_newObj_type
def iE:=@List.nodup_cons
def i9:=@List.all_eq_true
def ja:=@List.Perm.refl
def jt:=@List.mem_append_right
def jQ:=@List.mem_filter
def jR:=@PySem.wpAny_truthy_bool
def jS:=@PySem.wpAny_call_entry
def jT:=@Array.getElem?_eq_getElem
def jU:=@List.not_mem_nil
def jV:=@or_false
def jW:=@PySem.PassesOwn.never
def kZ:=@PySem.W.kia_one
def k7:=@List.append_nil
def k9:=@Array.getD_eq_getD_getElem?
def lg:=@List.map_map
def lj:=@decide_eq_decide
def l9:=@beq_eq_false_iff_ne
def md:=@PySem.mem_of_lookup
def me:=@Int.toNat_natCast
def mf:=@List.length_drop
def mh:=@Array.getElem?_eq_some_iff
def mi:=@PySem.codeAny_builtin
def mj:=@PySem.wpAny_askSetting
def mq:=@Nat.not_lt_zero
def nI:=@Nat.lt_irrefl
def nJ:=@PySem.wpAny_typeOf
def nK:=@List.any_cons
def nL:=@PySem.call_meets
def nM:=@beq_iff_eq
def nN:=@PySem.Heap.size_push
def nO:=@PySem.Around.under_plainId
def nP:=@PySem.F.plainAttrs_list
def pL:=@List.mem_append_left
def pM:=@PySem.wpAny_mono
def pN:=@Array.getElem?_toList
def pO:=@Nat.lt_trans
def pP:=@PySem.plainId_quiet
def pQ:=@Nat.lt_succ_of_lt
def pR:=@of_decide_eq_true
def pS:=@PySem.F.called_set
def pT:=@List.length_filter_le
def pU:=@List.length_pos_iff
def pV:=@Bool.and_true
def si:=@Sum.inr.inj
def sj:=@List.mem_filterMap
def sk:=@PySem.wpAny_passesOwn
def so:=@Nat.ne_of_gt
def sr:=@PySem.wpAny_load
def su:=@PySem.typeIs_str
def sx:=@PySem.Heap.get?_update_other
def sy:=@List.getElem?_eq_none
def sA:=@PySem.W.kia_tup
def sC:=@List.take_of_length_le
def vf:=@Option.map_some
def vg:=@Bool.eq_iff_iff
def vh:=@PyProof.Rows.slot_tuple_getitem
def vi:=@Option.bind_some
def vj:=@List.find?_cons
def vk:=@List.nodup_append
def vm:=@PySem.Heap.SameBut.update
def vn:=@PySem.wpAny_setField_rec
def vo:=@List.pairwise_map
def vp:=@List.mem_of_mem_take
def vq:=@Option.bind_eq_some_iff
def yy:=@Nat.le_of_lt
def yz:=@List.filterMap_cons
def yA:=@PySem.wpAny_rule
def yB:=@List.any_eq_false
def yC:=@Array.mem_toList_iff
def yD:=@PySem.codeAny_mono
def yE:=@List.getElem?_append_right
def yF:=@PySem.wpAny_callSpecial?_slot
def yG:=@Bool.or_false
def yH:=@PySem.Heap.get?_update_self
def yI:=@List.length_set
def yJ:=@List.length_singleton
def yK:=@beq_self_eq_true
def yL:=@PySem.wpAny_attempt
def yM:=@Array.toList_inj
def yN:=@List.length_range
def yO:=@List.getElem_of_mem
def yP:=@List.length_nil
def yQ:=@List.nodup_nil
def yR:=@List.any_eq_true
def yS:=@List.ext_getElem
def yT:=@PySem.wpAny_newList
def yU:=@PySem.wpAny_of_eq
def yV:=@List.map_congr_left
def yW:=@PySem.F.slot_dict_keyiterator_next
def yX:=@Array.getElem?_eq_none
def yY:=@Bool.and_self
def yZ:=@Nat.lt_succ_self
def y4:=@Int.emod_nonneg
def y6:=@Int.emod_lt_of_pos
def y8:=@List.filter_append
def y9:=@Nat.lt_of_le_of_lt
def za:=@Nat.add_le_add_left
def zb:=@List.all_map
def DA:=@PySem.wpAny_eqBool_str
def DB:=@PySem.Heap.get?_none_of_le
def DC:=@PySem.wpAny_execs_nil
def DD:=@PySem.wpAny_standAt
def DF:=@PySem.wpAny_pyIter_list
def DG:=@PySem.wpAny_call
def DH:=@List.getElem?_append_left
def DI:=@PySem.seqIndex_of
def DJ:=@Bool.and_false
def DK:=@PySem.wpAny_getItem_str_slice
def DL:=@PySem.post_val_or_str
def DM:=@Array.size_append
def DN:=@List.take_append_drop
def DO:=@List.eq_nil_of_length_eq_zero
def DP:=@Nat.mod_lt
def DQ:=@Nat.lt_of_succ_lt_succ
def DR:=@PySem.wpAny_pyIter_slot
def DS:=@PySem.wpAny_ite_split
def DT:=@List.nodup_range
def DU:=@Nat.le_add_right
def DV:=@List.getElem?_inj
def DW:=@PySem.W.KasFin.intro
def DX:=@PySem.F.plain_list_iadd
def DY:=@PySem.not_mem_of_deeper
def DZ:=@PySem.wpAny_typeNameOfWhole_keyiter
def D0:=@PySem.wpAny_typeNameOf_keyiter
def D1:=@Classical.byContradiction
def D2:=@List.length_eq_one_iff
def D3:=@List.sum_cons
def D5:=@List.filter_cons_of_pos
def D6:=@List.filter_cons_of_neg
def D9:=@Bool.true_and
def D':=@List.Sublist.refl
def Mp:=@PySem.SeqAt.EqAt.str_int
def Mq:=@PyProof.Rows.assignInOrder_cons
def Mr:=@PySem.wpAny_Call_Name_kw
def Mt:=@List.of_mem_zip
def Mu:=@List.getElem?_take_of_lt
def Mv:=@List.take_sublist
def Mx:=@PySem.noFill_tuple_add
def My:=@PySem.seq_tuple_add
def Mz:=@PySem.F.slot_tuple_add
def MA:=@PySem.F.entry_tuple_add
def MB:=@PySem.F.args_tuple_add_2
def MC:=@List.append_assoc
def MD:=@List.lookup_append
def MF:=@List.length_erase_of_mem
def MG:=@List.mem_erase_of_ne
def MH:=@List.any_map
def MI:=@PySem.tupleKind_room_in1
def MJ:=@PySem.wpAny_specialOf
def MK:=@List.drop_zero
def ML:=@Nat.sub_zero
def MM:=@Nat.le_antisymm
def MN:=@PySem.typeLookup_type
def MO:=@PySem.builtinLookup_eq_fast
def MP:=@PySem.F.slot_tuple_getattribute
def MQ:=@PySem.wpAny_seqItems
def MS:=@PySem.Calls.call_function_entry
def MU:=@PySem.isSubtype_type
def MV:=@PySem.wpAny_fieldsOf
def MW:=@PySem.wpAny_isInstance
def MX:=@List.pairwise_singleton
def MZ:=@PySem.wpAny_runValue
def M0:=@Bool.beq_comm
def M1:=@List.length_eq_zero_iff
def M3:=@PySem.ReadAtMost.cons
def M4:=@Nat.le_max_left
def M5:=@Nat.le_max_right
def M6:=@PySem.call_repr_slot
def M7:=@PySem.wpAny_dictEntries
def M8:=@PySem.wpAny_dictEpoch
def M9:=@Nat.succ_pos
def M':=@Nat.add_zero
def Na:=@Nat.lt_trichotomy
def Nb:=@List.getElem?_cons_succ
def Nc:=@List.getElem?_drop
def Nd:=@List.mem_iff_getElem
def Nf:=@List.perm_ext_iff_of_nodup
def Ng:=@Bool.not_true
def Nh:=@PyProof.Rows.F.plain_set_update_loop
def Ni:=@PySem.F.slot_list_append
def Nj:=@PySem.F.type_list_append
def Nk:=@List.filter_eq_self
def Nl:=@List.mem_of_mem_drop
def Nn:=@List.set_cons_zero
def Np:=@List.set_cons_succ
def Nq:=@List.take_succ_cons
def Nr:=@PySem.F.slot_list_insert
def Nt:=@PySem.F.type_list_insert
def aa6:=@List.getElem?_set_self
def aa7:=@List.getElem?_set_ne
def aa8:=@PySem.Calls.Name_function_global
def aa9:=@PyProof.Rows.callWith_type1
def aba:=@Int.fdiv_eq_ediv_of_nonneg
def abd:=@PySem.W.cellsFrom_some
def abe:=@Option.isSome_iff_exists
def abk:=@PySem.F.attrBase_ValueError
def abm:=@List.length_pos_of_mem
def abp:=@List.drop_eq_getElem_cons
def abr:=@Array.mem_of_getElem?
def abt:=@Array.perm_iff_toList_perm
def abv:=@List.length_eraseIdx
def abw:=@List.Perm.append_left
def abx:=@List.pairwise_iff_getElem
def aby:=@PySem.F.entry_proto_collect
def abz:=@PySem.F.plain_proto_collect
def abA:=@PySem.F.entry_list_iadd
def abB:=@PySem.F.entry_dict_keyiterator_next
def abC:=@PySem.F.args_dict_keyiterator_next_1
def abE:=@List.nodup_iff_pairwise_ne
def abG:=@List.mem_drop_iff_getElem
def abI:=@List.find?_eq_some_iff_append
def abJ:=@List.getElem?_range
def abL:=@List.drop_of_length_le
def abM:=@Option.bind_eq_bind
def abQ:=@PySem.F.plain_extend_loop
def abY:=@PySem.F.slot_list_pop
def abZ:=@PySem.F.type_list_pop
def ab0:=@List.dropLast_subset
def ab1:=@List.length_dropLast
def ab2:=@Option.some_ne_none
def ab3:=@List.cons_lt_cons_iff
def ab7:=@List.eraseIdx_sublist
def ab8:=@List.filter_sublist
variable{us its:List PySem.Value}{x qual name z:PySem.Str}{u doc pm aR ct oc vl vu:PySem.Value}{a b it l p dx C f sl q d I fD fP fB fN fW fS fT fE:PySem.Addr}{o ol:PySem.Obj}{h h' g base:PySem.Heap}{items:Array PySem.Value}{P prog:PySem.Program}{w:PySem.World}{e tg iter value:PySem.Expr}{L Ps:PySem.Str->List PySem.Str}{pins:List (PySem.Addr×PySem.Obj)}{s s':PySem.Shared}{t' i j c n ep m:Nat}{ch fp:List PySem.Addr}{N ps loose ns N' ks r own done:List PySem.Str}{A:PySem.Around}{E:PySem.Value->PySem.Shared->Prop}{pos pos':PySem.Pos}{K:PySem.W.Frag}{es:List PySem.Expr}{body:List PySem.Stmt}{lo hi:Option Int}{fd dP dB dN dW dS dD dT dE:PySem.FuncData}{kindOf:PySem.Str->Option PySem.NameKind}{sc scope:PySem.Scope}{mg:PySem.Str->Option PySem.Value}{an od:Option PySem.Addr}{km:Array (Option PySem.Value)}{T:String}{XP:(PySem.Str->Option PySem.Value)->PySem.Heap->Prop}{YP:PySem.World->PySem.Heap->Prop}{B:Prop}{env:PySem.Env}{cells:List (PySem.Str×PySem.Addr)}{cu:List (Option Nat)}{R:PySem.Result->PySem.Shared->Prop}{cmp:Nat->Nat->(Bool->PySem.Shared->Prop)->PySem.Shared->Prop}{hs:List Int}{aJ rest rows:List (List PySem.Str)}{av:PySem.Addr->Prop}{dc:List (PySem.Str×List PySem.Str)}
namespace L2
open PySem PySem.Spec PyProof.Rows
abbrev Key:=Sum Int Str
def qy:Key->Value->Bool
 |.inl k,v=>Value.isInt k v
 |.inr x,v=>Value.isStrOf x v
def Ux (w:World):Key->Int
 |.inl k=>hashInt k
 |.inr x=>hashStr w x
theorem lq:∀ {k:Key}{v:Value},qy k v=true->(∃i t,k=Sum.inl i/\v=Value.int i t)\/(∃x t,k=Sum.inr x/\v=Value.str x t)
 |.inl i,v,h=>by
  obtain⟨t,e⟩:=Value.isInt_shape (k:=i) (v:=v) h;exact .inl ⟨i,t,rfl,e⟩
 |.inr x,v,h=>by
  obtain⟨t,e⟩:=Value.isStrOf_shape (x:=x) (v:=v) h;exact .inr ⟨x,t,rfl,e⟩
theorem OG (i:Int) (t:Tok):qy (.inl i) (.int i t)=true:=by simp[qy,Value.isInt]
theorem OH (x:Str) (t:Tok):qy (.inr x) (.str x t)=true:=by simp[qy,Value.isStrOf]
theorem Rv (a b:Int):decide ((Sum.inl a:Key)=Sum.inl b)=(a==b):=by
 by_cases e:a=b
 ·subst e;simp
 ·have h : ¬ (Sum.inl a:Key)=Sum.inl b:=fun q=>e (Sum.inl.inj q)
  rw[cm h];exact(l9.mpr e).symm
theorem Rw (a b:Str):decide ((Sum.inr a:Key)=Sum.inr b)=decide (a=b):=by
 by_cases e:a=b
 ·subst e;simp
 ·have h : ¬ (Sum.inr a:Key)=Sum.inr b:=fun q=>e (si q)
  rw[cm h,cm e]
theorem Rx (a:Int) (b:Str):decide ((Sum.inl a:Key)=Sum.inr b)=false:=cm (fun q=>nomatch q)
theorem Ry (a:Str) (b:Int):decide ((Sum.inr a:Key)=Sum.inl b)=false:=cm (fun q=>nomatch q)
def cI (prog:Program) (w:World):PySem.KeyKind prog w Key where
 is:=qy
 hash:=Ux w
 inj:=fun v a b ha hb=>by
  rcases lq ha with⟨i,t,rfl,rfl⟩|⟨x,t,rfl,rfl⟩
  ·rcases lq hb with⟨j,u,rfl,e⟩|⟨y,u,rfl,e⟩
   ·injection e with e1 _;rw[e1]
   ·exact nomatch e
  ·rcases lq hb with⟨j,u,rfl,e⟩|⟨y,u,rfl,e⟩
   ·exact nomatch e
   ·injection e with e1 _;rw[e1]
 byValue:=fun k v h=>by
  rcases lq h with⟨i,t,rfl,rfl⟩|⟨x,t,rfl,rfl⟩ <;> rfl
 pyHash:=fun hv h=>by
  rcases lq hv with⟨i,t,rfl,rfl⟩|⟨x,t,rfl,rfl⟩
  ·exact wpAny_pyHash_int h
  ·exact wpAny_pyHash_str h
 eqBool:=fun hu hv h=>by
  rcases lq hu with⟨i,t,rfl,rfl⟩|⟨x,t,rfl,rfl⟩
  ·rcases lq hv with⟨j,u,rfl,rfl⟩|⟨y,u,rfl,rfl⟩
   ·rw[Rv]at h;exact wpAny_eqBool_int h
   ·rw[Rx]at h;exact SeqAt.EqAt.int_str i t y u _ _ _ _ h
  ·rcases lq hv with⟨j,u,rfl,rfl⟩|⟨y,u,rfl,rfl⟩
   ·rw[Ry]at h;exact Mp x t j u _ _ _ _ h
   ·rw[Rw]at h;exact DA h
 «strs» :=fun k x t v h=>by
  rcases lq h with⟨i,u,rfl,e⟩|⟨y,u,rfl,e⟩
  ·exact nomatch e
  ·injection e with e1 _
   subst e1;cases v <;> rfl
theorem NX (prog:Program) (w:World) (i:Int) (t:Tok):(cI prog w).is (.inl i) (.int i t)=true:=OG i t
theorem NY (prog:Program) (w:World) (x:Str) (t:Tok):(cI prog w).is (.inr x) (.str x t)=true:=OH x t
inductive V where
 |aD|bl (b:Bool)|int (i:Int)|str (x:Str)|iR (b:Array UInt8)|jE (b:UInt64)|ref (a:Addr)|ty (n:String)
 deriving DecidableEq
def RelV:V->Value->Prop
 |.aD,u=>u=Value.none
 |.bl b,u=>u=Value.bool b
 |.int i,u=>∃t,u=Value.int i t
 |.str x,u=>∃t,u=Value.str x t
 |.iR b,u=>∃t,u=Value.bytes b t
 |.jE b,u=>∃t,u=Value.float b t
 |.ref a,u=>u=Value.ref a
 |.ty n,u=>u=Value.type n
abbrev Vals:List V->List Value->Prop:=Paired RelV
theorem Vals.length {xs:List V} (r:Vals xs us):xs.length=us.length:=fk r
theorem Vals.get:∀ {xs:List V}{us:List Value}{i:Nat}{x:V},Vals xs us->xs[i]? = some x -> ∃u,us[i]? = some u/\RelV x u
 |_,_,_,_,.nil,e=>by simp at e
 |_,_,0,_,.cons r _,e=>by simp at e;subst e;exact⟨_,rfl,r⟩
 |_,_,i+1,x,.cons _ t,e=>by
  obtain⟨u,h1,h2⟩:=Vals.get (i:=i) (x:=x) t (by simpa using e)
  exact⟨u,by simpa using h1,h2⟩
theorem Vals.set {x:V}{u:Value} (r:RelV x u):∀ {xs:List V}{us:List Value} (i:Nat),Vals xs us->Vals (xs.set i x) (us.set i u)
 |_,_,_,.nil=>.nil
 |_,_,0,.cons _ t=>.cons r t
 |_,_,i+1,.cons q t=>.cons q (Vals.set r i t)
theorem Vals.append:∀ {xs ys:List V}{us ws:List Value},Vals xs us->Vals ys ws->Vals (xs++ys) (us++ws)
 |_,_,_,_,.nil,s=>s
 |_,_,_,_,.cons r t,s=>.cons r (Vals.append t s)
theorem Vals.take:∀ {xs:List V}{us:List Value} (n:Nat),Vals xs us->Vals (xs.take n) (us.take n)
 |_,_,0,_=>.nil
 |_,_,_+1,.nil=>.nil
 |_,_,n+1,.cons r t=>.cons r (Vals.take n t)
theorem Vals.drop:∀ {xs:List V}{us:List Value} (n:Nat),Vals xs us->Vals (xs.drop n) (us.drop n)
 |_,_,0,r=>r
 |_,_,_+1,.nil=>.nil
 |_,_,n+1,.cons _ t=>Vals.drop n t
def iK:Option V->Option Value->Prop
 |some v,some u=>RelV v u
 |none,none=>True
 |_,_=>False
def KV {κ:Type}:List (κ×V)->List (κ×Value)->Prop:=Paired fun(p:κ×V) (q:κ×Value)=>p.1=q.1/\RelV p.2 q.2
def kV:Key->V
 |.inl i=>.int i
 |.inr x=>.str x
inductive HO where
 |lst (xs:List V)
 |tup (xs:List V)
 |dK (kvs:List (Key×V))|dT (kvs:List (List Key×V))
 |set (S:Int->Bool) (n:Nat)
 |ins (C dx:Addr) (fs:List (Str×V))
 |own (x:Addr)
 |xd (fs:List (Str×V))
 |met (f x:Addr)
 |xj (lo hi:Int)
 |bo (o:Obj) (u:HO)
 |nh (ps:Array Value)
 |ext (φ:Heap->Prop)
abbrev Hp:=Addr->Option HO
def upd (H:Hp) (a:Addr) (o:HO):Hp:=fun b=>if b=a then some o else H b
theorem af {H:Hp}{o:HO}:upd H a o a=some o:=by unfold upd;rw[ax rfl]
theorem ak {H:Hp}{o:HO} (h:b≠a):upd H a o b=H b:=by unfold upd;rw[aj h]
theorem nY {H:Hp}{o u:HO}:upd (upd H a o) a u=upd H a u:=by
 funext b;unfold upd;split <;> rfl
theorem eI {H:Hp}{o u:HO} (h:H a=some o) (h':H b=some u) (d:o≠u):a≠b:=by
 intro e;subst e;rw[h]at h';exact d (e7 h')
theorem a7 {H:Hp}{o:HO} (h:H a=some o) (h':H b=none):a≠b:=by
 intro e;subst e;rw[h]at h';cases h'
def lH (h:Heap) (a:Addr) (items:Array Value):Prop:= ∃o,h.get? a=some o/\o.cls = .type "tuple" /\ ∃n,o.data = .seq items n/\o.dict=none
theorem lH.is (x:lH h a items):IsTup h a items:=let ⟨o,e,c,n,d,_⟩:=x;⟨o,e,c,n,d⟩
theorem lH.new (h:Heap) (items:Array Value):lH (h.push { cls:= .type "tuple",data:= .seq items }) h.objs.size items:=⟨_,cw _ rfl,rfl,_,rfl,rfl⟩
section
variable (P:Program) (w:World)
def ba (H:Hp) (h:Heap) (a:Addr):HO->Prop
 |.lst xs=>xs.length<=sizeLine /\ ∃ (its:List Value) (n:Nat),Vals xs its/\h.get? a=some { cls:= .type "list",data:= .seq its.toArray n }
 |.tup xs=>xs.length<=sizeLine /\ ∃its:List Value,Vals xs its/\lH h a its.toArray
 |.dK kvs=>kvs.length<=sizeLine/\(a==sysModules)=false /\ ∃vs,KV kvs vs/\h.DictOf (cI P w) a vs
 |.dT kvs=>kvs.length<=sizeLine/\(a==sysModules)=false /\ ∃xs:List (List Key×Addr×Value),
   Paired (fun(p:List Key×V) (q:List Key×Addr×Value)=>p.1=q.1/\H q.2.1=some (.tup (p.1.map kV))/\RelV p.2 q.2.2) kvs xs /\
   ∃o es ep,h.get? a=some o/\o.ExactDict/\o.data = .dict es ep/\es.toList=xs.map (entryOfKey (tupleKind (cI P w)))/\(xs.map (·.1)).Nodup
 |.set S n=>h.SetOf (intKind P w) a S n
 |.ins C dx fs=>H dx=some (.own a)/\fs.length<=1000/\dx≠a/\h.get? a=some (PySem.W.instObj C dx) /\
   ∃mA,h.Ns1 dx mA/\(∀f,iK (fs.lookup f) (mA f))/\PySem.Within mA (fs.map (·.1))
 |.own _=>∃o,h.get? a=some o
 |.xd fs=>∃mA,h.Ns1 a mA /\ ∀f,iK (fs.lookup f) (mA f)
 |.xj lo hi=>∃t u v,h.get? a=some { cls:= .type "range",data:= .fields #[.int lo t,.int hi u,.int 1 v] }
 |.bo o u=>h.get? a=some o/\ba H h a u
 |.nh ps=>h.get? a=some { cls:= .none,data:= .fields ps }
 |.met f x=>h.get? a=some (PySem.W.methodObj (.ref f) (.ref x))
 |.ext φ=>φ h/\(∃o,h.get? a=some o) /\ ∀h1 h2:Heap,φ h1->(∀o,h1.get? a=some o->h2.get? a=some o)->φ h2
def cT (H:Hp) (h:Heap):Prop:= ∀a o,H a=some o->ba P w H h a o
end
section
variable{H H':Hp}{o:HO}
theorem ba.lt (x:ba P w H h a o):a < h.objs.size:=by
 cases o with
 |lst xs=>obtain⟨_,_,_,_,e⟩:=x;exact bw e
 |tup xs=>obtain⟨_,_,_,p⟩:=x;exact p.is.lt
 |dK kvs=>obtain⟨_,_,_,_,o,_,_,e,_⟩:=x;exact bw e
 |dT kvs=>obtain⟨_,_,_,_,o,_,_,e,_⟩:=x;exact bw e
 |set S n=>obtain⟨o,_,_,_,e,_⟩:=x;exact bw e
 |ins C dx fs=>obtain⟨_,_,_,e,_⟩:=x;exact bw e
 |own y=>obtain⟨_,e⟩:=x;exact bw e
 |xd fs=>obtain⟨_,⟨_,_,_,e,_⟩,_⟩:=x;exact bw e
 |xj lo hi=>obtain⟨_,_,_,e⟩:=x;exact bw e
 |bo ob u=>obtain⟨e,_⟩:=x;exact bw e
 |nh ps=>exact bw (show h.get? a=some _ from x)
 |met f y=>exact bw (show h.get? a=some _ from x)
 |ext φ=>obtain⟨_,⟨_,e⟩,_⟩:=x;exact bw e
theorem Paired.wX {α β:Type}{F G:α->β->Prop}:∀ {tU:List α}{tV:List β},Paired F tU tV->(∀a b,F a b->G a b)->Paired G tU tV
 |_,_,.nil,_=>.nil
 |_,_,.cons r t,f=>.cons (f _ _ r) (Paired.wX t f)
theorem Paired.imp' {α β:Type}{F G:α->β->Prop} (f:∀a b,F a b->G a b) {tU:List α}{tV:List β} (r:Paired F tU tV):Paired G tU tV:=Paired.wX r f
theorem ba.gq (x:ba P w H h a o) (k:∀b u,(b=a\/H b=some (.own a))->h.get? b=some u->h'.get? b=some u)
  (ho:∀b,H b=some (.own a)->H' b=some (.own a)) (ht:∀b xs,H b=some (.tup xs)->H' b=some (.tup xs)):ba P w H' h' a o:=by
 induction o with
 |lst xs=>obtain⟨z,its,n,r,e⟩:=x;exact⟨z,its,n,r,k _ _ (.inl rfl) e⟩
 |tup xs=>obtain⟨z,its,r,ob,e,c⟩:=x;exact⟨z,its,r,ob,k _ _ (.inl rfl) e,c⟩
 |dK kvs=>obtain⟨z,y,vs,r,ob,es,ep,e,c⟩:=x;exact⟨z,y,vs,r,ob,es,ep,k _ _ (.inl rfl) e,c⟩
 |dT kvs =>
  obtain⟨z,y,xs,r,ob,es,ep,e,c⟩:=x;exact⟨z,y,xs,Paired.wX r fun p q z=>⟨z.1,ht _ _ z.2.1,z.2.2⟩,ob,es,ep,k _ _ (.inl rfl) e,c⟩
 |set S n=>obtain⟨ob,es,ep,t,e,c⟩:=x;exact⟨ob,es,ep,t,k _ _ (.inl rfl) e,c⟩
 |ins C dx fs =>
  obtain⟨d,z,ne,e,mA,⟨od,es,ep,e2,c⟩,r⟩:=x;exact⟨ho _ d,z,ne,k _ _ (.inl rfl) e,mA,⟨od,es,ep,k _ _ (.inr d) e2,c⟩,r⟩
 |own y=>obtain⟨ob,e⟩:=x;exact⟨ob,k _ _ (.inl rfl) e⟩
 |xd fs=>obtain⟨mA,⟨od,es,ep,e,c⟩,r⟩:=x;exact⟨mA,⟨od,es,ep,k _ _ (.inl rfl) e,c⟩,r⟩
 |xj lo hi=>obtain⟨t,u,v,e⟩:=x;exact⟨t,u,v,k _ _ (.inl rfl) e⟩
 |bo ob u ih=>obtain⟨e,q⟩:=x;exact⟨k _ _ (.inl rfl) e,ih q⟩
 |nh ps =>
  have e:h.get? a=some { cls:= .none,data:= .fields ps }:=x;show h'.get? a=some { cls:= .none,data:= .fields ps };exact k a _ (.inl rfl) e
 |met f y =>
  have e:h.get? a=some (PySem.W.methodObj (.ref f) (.ref y)):=x;show h'.get? a=some (PySem.W.methodObj (.ref f) (.ref y));exact k a _ (.inl rfl) e
 |ext φ=>obtain⟨p,⟨o,e⟩,st⟩:=x;exact⟨st _ _ p fun o q=>k _ _ (.inl rfl) q,⟨o,k _ _ (.inl rfl) e⟩,st⟩
theorem cT.lt (x:cT P w H h) (e:H a=some o):a < h.objs.size:=(x a o e).lt
theorem cT.fresh (x:cT P w H h) (e:h.objs.size<=a):H a=none:=by
 cases q:H a with
 |none=>rfl
 |some u=>exact absurd (gw (x.lt q) e) (nI _)
theorem cT.kept (x:cT P w H h) (k:∀b u,h.get? b=some u->h'.get? b=some u):cT P w H h':=fun a o e =>
 (x a o e).gq (fun b u _ q=>k b u q) (fun _ q=>q) fun _ _ q=>q
theorem cT.laid (x:cT P w H h) (k:∀b u,h.get? b=some u->h'.get? b=some u) (hp:h.objs.size<=a) (new:ba P w (upd H a o) h' a o):cT P w (upd H a o) h':=fun b u e=>by
 have hn:=x.fresh hp
 by_cases hb:b=a
 ·subst hb;rw[af]at e;cases e;exact new
 ·rw[ak hb]at e
  exact(x b u e).gq (fun c v _ q=>k c v q) (fun c q=>by rw[ak (a7 q hn)];exact q) fun c xs q=>by rw[ak (a7 q hn)];exact q
end
def Rd (H:Hp) (a:Addr) (u:HO):Prop:=H a=some u \/ ∃o,H a=some (.bo o u)
theorem Rd.ok {H:Hp}{u:HO} (r:Rd H a u) (x:cT P w H h):ba P w H h a u:=by
 rcases r with r|⟨o,r⟩
 ·exact x a u r
 ·obtain⟨_,q⟩:=x a _ r
  exact q
def ug:Option HO->Prop
 |some (.lst _)=>True
 |some (.dK _)=>True
 |some (.dT _)=>True
 |some (.set _ _)=>True
 |some (.ins _ _ _)=>True
 |some (.ext _)=>True
 |_=>False
section
variable{H:Hp}{x e:Addr}{o':HO}
theorem cT.write (ok:cT P w H h) (mu:ug (H x)) (he:e=x\/H e=some (.own x)) (k:∀b u,b≠e->h.get? b=some u->h'.get? b=some u) (rl:∃u,h'.get? e=some u)
  (new:ba P w (upd H x o') h' x o'):cT P w (upd H x o') h':=fun b u q=>by
 have tW:∀c y,H c=some (.own y)->c≠x:=fun c y r z=>by subst z;rw[r]at mu;exact mu
 have Uy:∀c xs,H c=some (.tup xs)->c≠x:=fun c xs r z=>by subst z;rw[r]at mu;exact mu
 by_cases hb:b=x
 ·subst hb;rw[af]at q;cases q;exact new
 ·rw[ak hb]at q
  by_cases oH:b=e
  ·have q':H b=some (.own x):=by
    rcases he with z|z
    ·exact absurd (oH.trans z) hb
    ·rw[oH];exact z
   rw[q]at q';cases q';obtain⟨v,hv⟩:=rl;exact⟨v,by rw[oH];exact hv⟩
  ·refine(ok b u q).gq (fun c v hc r=>k c v ?_ r) (fun c r=>by rw[ak (tW c b r)];exact r) fun c xs r=>by rw[ak (Uy c xs r)];exact r
   rcases hc with rfl|hc
   ·exact oH
   ·rintro rfl
    rcases he with z|z
    ·exact tW c b hc z
    ·rw[hc]at z;cases z;exact hb rfl
end
structure Un (fs ex:List Addr) (H H':Hp) (h h':Heap):Prop where
 keep:∀b o,h.get? b=some o->H b=none->b ∉ fs->b ∉ ex->h'.get? b=some o
 slot:∀b o,h.get? b=some o->H b=none->b∈fs->b ∉ ex -> ∃sl,h'.get? b=some { o with slots:=sl }
 free:∀b o,h.get? b=some o->H b=none->b ∉ ex->H' b=none
 there:∀b o,h.get? b=some o->b ∉ ex -> ∃o',h'.get? b=some o'
 kd:∀b xs,H b=some (.tup xs)->H' b=some (.tup xs)
 kf:∀b o u,H b=some (.bo o u)->H' b=some (.bo o u)
 lI:∀b ps,H b=some (.nh ps) -> ∃more,H' b=some (.nh (ps++more))
section
variable{fs VW ex ex':List Addr}{H H1 H2:Hp}{h1 h2:Heap}{x e:Addr}{o:HO}
theorem Un.any (u:Un fs ex H H1 h h1) {ob:Obj} (q:h.get? b=some ob) (n:H b=none) (hx:b ∉ ex):∃sl,h1.get? b=some { ob with slots:=sl }:=by
 by_cases hb:b∈fs
 ·exact u.slot b ob q n hb hx
 ·exact⟨ob.slots,u.keep b ob q n hb hx⟩
theorem Un.kept (k:∀b u,h.get? b=some u->h'.get? b=some u):Un fs ex H H h h':=
 ⟨fun b ob q _ _ _=>k b ob q,fun b ob q _ _ _=>⟨ob.slots,k b ob q⟩,fun _ _ _ n _=>n,fun b ob q _=>⟨ob,k b ob q⟩,fun _ _ q=>q,fun _ _ _ q=>q,fun _ ps q=>⟨#[],by rw[q];simp⟩⟩
theorem Un.refl:Un fs ex H H h h:=Un.kept fun _ _ q=>q
theorem Un.laid (k:∀b u,h.get? b=some u->h'.get? b=some u) (hp:h.objs.size<=a) (hn:H a=none):Un fs ex H (upd H a o) h h' where
 keep:=fun b u q _ _ _=>k b u q
 slot:=fun b u q _ _ _=>⟨u.slots,k b u q⟩
 free:=fun b u q n _=>by rw[ak (bZ (gw (bw q) hp))];exact n
 there:=fun b u q _=>⟨u,k b u q⟩
 kd:=fun b xs q=>by rw[ak (a7 q hn)];exact q
 kf:=fun b u xs q=>by rw[ak (a7 q hn)];exact q
 lI:=fun b ps q=>⟨#[],by rw[ak (a7 q hn),q];simp⟩
theorem Un.write (mu:ug (H x)) (he:e=x\/H e=some (.own x)) (k:∀b u,b≠e->h.get? b=some u->h'.get? b=some u) (rl:∃u,h'.get? e=some u):Un fs ex H (upd H x o) h h':=by
 have hx:∀b,H b=none->b≠x:=fun b n z=>by subst z;rw[n]at mu;exact mu
 have hb:∀b,H b=none->b≠e:=fun b n z=>by
  subst z;rcases he with r|r
  ·exact hx b n r
  ·rw[n]at r;cases r
 have hm:∀b u,H b=some u -> ¬ ug (some u)->b≠x:=fun b u q nm z=>by subst z;rw[q]at mu;exact nm mu
 refine⟨fun b u q n _ _=>k b u (hb b n) q,fun b u q n _ _=>⟨u.slots,k b u (hb b n) q⟩,fun b u q n _=>by rw[ak (hx b n)];exact n,fun b u q _=>?_,
  fun b xs q=>by rw[ak (hm b _ q fun z=>z)];exact q,fun b u xs q=>by rw[ak (hm b _ q fun z=>z)];exact q,fun b ps q=>⟨#[],by rw[ak (hm b _ q fun z=>z),q];simp⟩⟩
 by_cases oH:b=e
 ·subst oH;exact rl
 ·exact⟨u,k b u oH q⟩
end
def xk (h:Heap) (H:Hp):List Addr:=(List.range h.objs.size).filter fun a=>(H a).isSome
def lJ (h:Heap) (H:Hp):Heap:=PySem.W.hideAll h (xk h H)
theorem OI (h:Heap) (H:Hp):(lJ h H).objs.size=h.objs.size:=PySem.W.hideAll_size _ _
theorem Pk {H:Hp} (e:h.get? b=some o) (n:H b=none):(lJ h H).get? b=some o:=
 PySem.W.hideAll_get _ e fun hm=>by
  have q:(H b).isSome=true:=(jQ.mp hm).2;rw[n]at q;simp at q
theorem Qu {H:Hp} (e:(lJ h H).get? b=some o):h.get? b=some o/\H b=none:=by
 have e':h.get? b=some o:=PySem.W.of_hideAll (xk h H) e;refine⟨e',?_⟩;cases q:H b with
 |none=>rfl
 |some x =>
  have hm:b∈xk h H:=jQ.mpr ⟨gx.mpr (bw e'),by simp[q]⟩
  have z:(lJ h H).get? b=none:=PySem.W.hideAll_none (xk h H) hm;rw[z]at e;cases e
def z9 (g h:Heap) (L:Addr):List (Addr×Obj):=(List.range h.objs.size).filterMap fun a=>if a=L\/(g.get? a).isSome=true then none else (h.get? a).map fun o=>(a,o)
theorem mw {L:Addr} (h1:a≠L) (h2:g.get? a=none) (h3:h.get? a=some o):(a,o)∈z9 g h L:=
 sj.mpr ⟨a,gx.mpr (bw h3),by simp[h1,h2,h3]⟩
theorem nQ {L:Addr}{p:Addr×Obj} (hp:p∈z9 g h L):p.1≠L/\g.get? p.1=none/\h.get? p.1=some p.2:=by
 obtain⟨b,_,e⟩:=sj.mp hp;split at e
 ·cases e
 ·rename_i hn
  cases q:h.get? b with
  |none=>rw[q]at e;simp at e
  |some u =>
   rw[q]at e;simp only[vf,Option.some.injEq]at e;subst e;refine⟨fun z=>hn (.inl z),?_,q⟩;show g.get? b=none;cases r:g.get? b with
   |none=>rfl
   |some v=>exact(hn (.inr (by simp[r]))).elim
theorem zJ {L:Addr}:News g L h (z9 g h L):=fun p hp=>let ⟨a,b,c⟩:=nQ hp;⟨c,a,b⟩
structure Mod (K:PySem.W.Frag) (mg:Str->Option Value) (base:Heap):Prop where
 B5:K.In base
 glob:base.Ns mainGlobals mg
 blt:∃mb,base.Ns builtinsNs mb /\ ∀x:Str,x ≠ "__name__" -> mb x=bootBuiltins x
 nolimit:base.NoLimit
structure Cx where
 prog:Program
 w:World
 K:PySem.W.Frag
 mg:Str->Option Value
 base:Heap
 A:Around
 N:List Str
 eJ:Shared
 oz:Hp
 env:Env
 outer:List Env
 stack:List Env
 ex:List Addr
 fn:Str->Bool
 calm:Bool
 pn:List (Addr×Obj)
 xe:Value->Shared->Prop
def jF (l:List Env):List Addr:=l.filterMap (·.frame)
abbrev Cx.fs (X:Cx):List Addr:=jF X.outer
def B6 (sc:Scope) (x:Str):Prop:=sc.names.lookup x=some .local\/sc.names.lookup x=some .cell\/sc.names.lookup x=some .free
def Loc (sc:Scope) (x:Str):Prop:=sc.names.lookup x=some .local\/sc.names.lookup x=some .cell
def Look (env:Env) (h:Heap) (m:Str->Option Value) (x:Str) (u:Value):Prop:=
 (env.kindOf x=some .local/\m x=some u)\/((env.kindOf x=some .cell\/env.kindOf x=some .free) /\ ∃c,env.cells.lookup x=some c/\h.IsCell c (some u))
structure Cx.Ok (X:Cx):Prop where
 mod:Mod X.K X.mg X.base
 kind:X.env.scope.kind = .function
 glob:X.env.globals=mainGlobals
 blt:X.env.builtins=builtinsNs
 above:X.eJ.heap.objs.size<=X.env.locals
 inj:∀x y c,X.env.cells.lookup x=some c->X.env.cells.lookup y=some c->x=y
 has:∀x,(X.env.kindOf x=some .cell\/X.env.kindOf x=some .free) -> ∃c,X.env.cells.lookup x=some c
 uh:∀x c,X.fn x=true->X.env.cells.lookup x=some c->X.eJ.heap.objs.size<=c
 hd:X.calm=true->X.A.handled=none
 frames:X.A.frames=some X.stack
 xl:X.stack=X.outer\/(X.stack=X.env::X.outer/\X.env.frame=some X.env.locals)
 xm:∀b∈X.ex,b≠X.env.locals /\ ∀x c,X.env.cells.lookup x=some c->c≠b
 bs:∀b o,X.base.get? b=some o->X.eJ.heap.get? b=some o/\X.oz b=none
 oJ:X.base.objs.size<=X.eJ.heap.objs.size
 tX:∀b o,X.base.get? b=some o->b ∉ X.ex
 tY:∀b∈X.ex,b ∉ X.fs
 jy:X.eJ.heap.FunFrames X.base X.outer
 rm:∀b∈X.fs,X.oz b=none
structure Inv (X:Cx) (pins:List (Addr×Obj)) (σ:List (Option V)) (H:Hp) (s:Shared):Prop where
 ok:X.Ok
 os:s.os=X.eJ.os
 bare:AllBare s.gens
 base:Un X.fs X.ex X.oz H X.eJ.heap s.heap
 loc:∃m,s.heap.Ns X.env.locals m /\ ∀ (i:Nat) (x:Str) (v:V),X.N[i]? = some x->σ[i]? = some (some v)->B6 X.env.scope x -> ∃u,RelV v u/\Look X.env s.heap m x u
 cell:∀x c,X.env.cells.lookup x=some c -> ∃v,s.heap.IsCell c v
 free:H X.env.locals=none
 jd:∀x c,X.env.cells.lookup x=some c->H c=none
 pin:∀p∈X.pn++pins,s.heap.get? p.1=some p.2/\H p.1=none/\p.1≠X.env.locals/\p.1 ∉ X.fs /\ ∀v,p.2.data ≠ .cell v
 aq:cT X.prog X.w H s.heap
 len:σ.length=X.N.length
section
variable{X:Cx}{σ:List (Option V)}{H H':Hp}
theorem Cx.Ok.Uz (ok:X.Ok) (e:X.base.get? b=some o):b ∉ X.fs:=fun hb=>by
 have:=(ok.jy.mem hb).1;rw[e]at this;cases this
theorem Inv.bs (I:Inv X pins σ H s):∀b o,X.base.get? b=some o->s.heap.get? b=some o/\H b=none:=fun b o e =>
 ⟨I.base.keep b o (I.ok.bs b o e).1 (I.ok.bs b o e).2 (I.ok.Uz e) (I.ok.tX b o e),I.base.free b o (I.ok.bs b o e).1 (I.ok.bs b o e).2 (I.ok.tX b o e)⟩
theorem Inv.bk (I:Inv X pins σ H s):∀b o,X.base.get? b=some o->s.heap.get? b=some o:=fun b o e=>(I.bs b o e).1
theorem Inv.mod (I:Inv X pins σ H s):Mod X.K X.mg X.base:=I.ok.mod
theorem Inv.dC (I:Inv X pins σ H s):X.K.In s.heap:=I.ok.mod.B5.keeps I.bk
theorem Inv.lt (I:Inv X pins σ H s):X.env.locals < s.heap.objs.size:=let ⟨_,hn,_⟩:=I.loc;hn.lt
theorem Inv.sz (I:Inv X pins σ H s):X.eJ.heap.objs.size<=s.heap.objs.size:=cL I.ok.above (yy I.lt)
theorem Inv.UA (I:Inv X pins σ H s) (h:s.heap.objs.size<=a):a ∉ X.fs:=fun hb=>by
 obtain⟨_,o,ho,_⟩:=I.ok.jy.mem hb;exact absurd (gw (bw ho) (cL I.sz h)) (nI _)
theorem Inv.oK (I:Inv X pins σ H s):∀x c,X.env.cells.lookup x=some c->c≠X.env.locals:=fun x c e z=>by
 obtain⟨v,o,ho,hd⟩:=I.cell x c e;obtain⟨m,⟨o',es,ep,iS,oM,_⟩,_⟩:=I.loc;rw[z,iS]at ho;cases ho;rw[oM]at hd;cases hd
theorem Inv.jy (I:Inv X pins σ H s):s.heap.FunFrames X.base X.outer:=by
 have all:∀ (l:List Env),(∀b∈jF l,b∈X.fs)->X.eJ.heap.FunFrames X.base l->s.heap.FunFrames X.base l:=by
  intro l
  induction l with
  |nil=>intro _ _;trivial
  |cons env r ih =>
   intro hs hl;obtain⟨hk,⟨L,o,hf,hn,ho,hd⟩,hr⟩:=hl;have hL:L∈X.fs:=hs L (by unfold jF;rw[yz,hf];exact aZ)
   obtain⟨sl,e⟩:=I.base.slot L o ho (I.ok.rm L hL) hL fun z=>I.ok.tY L z hL;exact⟨hk,⟨L,_,hf,hn,e,hd⟩,ih (fun b hb=>hs b (by unfold jF;rw[yz,hf];exact a9 _ hb)) hr⟩
 exact all X.outer (fun _ hb=>hb) I.ok.jy
theorem Inv.stack (I:Inv X pins σ H s):s.heap.FunFrames X.base X.stack:=by
 rcases I.ok.xl with e|⟨e,hf⟩
 ·rw[e];exact I.jy
 ·rw[e]
  obtain⟨m,hn,_⟩:=I.loc;refine .cons (by rw[I.ok.kind];decide) hf hn ?_ I.jy
  exact DB (cL I.ok.oJ I.ok.above)
theorem Inv.AJ (I:Inv X pins σ H s):∀b∈jF X.stack,b∈X.env.locals::X.fs:=fun b hb=>by
 rcases I.ok.xl with e|⟨e,hf⟩
 ·rw[e]at hb;exact a9 _ hb
 ·rw[e]at hb
  unfold jF at hb;rw[yz,hf]at hb;exact hb
theorem Inv.Gs (I:Inv X pins σ H s):∀b∈jF X.stack,H b=none:=fun b hb=>by
 rcases bx.mp (I.AJ b hb) with e|hb
 ·rw[e];exact I.free
 ·obtain⟨_,o,ho,_⟩:=I.ok.jy.mem hb
  exact I.base.free b o ho (I.ok.rm b hb) fun z=>I.ok.tY b z hb
theorem Inv.step {g':Array GenState}{d':Drawn} (I:Inv X pins σ H s)
  (ko:∀b∈ch,(b∈X.ex\/X.eJ.heap.objs.size<=b)/\b≠X.env.locals/\(∀x c,X.env.cells.lookup x=some c->c≠b) /\ ∀p∈X.pn++pins,p.1≠b)
  (keep:∀b o,b≠X.env.locals->b ∉ X.fs->b ∉ ch->s.heap.get? b=some o->H b=none->h'.get? b=some o)
  (slot:∀b o,b≠X.env.locals->b∈X.fs->b ∉ ch->s.heap.get? b=some o->H b=none -> ∃sl,h'.get? b=some { o with slots:=sl }) (free:∀b o,b ∉ ch->s.heap.get? b=some o->H b=none->H' b=none)
  (there:∀b o,b ∉ ch->s.heap.get? b=some o -> ∃o',h'.get? b=some o')
  (kd:∀b xs,H b=some (.tup xs)->H' b=some (.tup xs)) (kf:∀b o u,H b=some (.bo o u)->H' b=some (.bo o u)) (lI:∀b ps,H b=some (.nh ps) -> ∃more,H' b=some (.nh (ps++more)))
  (ns:∀m,s.heap.Ns X.env.locals m->h'.Ns X.env.locals m) (aq:cT X.prog X.w H' h') (hg:AllBare g') :
  Inv X pins σ H' { s with heap:=h',gens:=g',drawn:=d',toks:=t' }:=by
 have ui:∀b o,X.eJ.heap.get? b=some o->b≠X.env.locals:=fun b o e=>bZ (gw (bw e) I.ok.above);have xn:∀b o,X.eJ.heap.get? b=some o->b ∉ X.ex->b ∉ ch:=fun b o e hx hb=>by
  rcases (ko b hb).1 with z|z
  ·exact hx z
  ·exact absurd (gw (bw e) z) (nI _)
 have cellK:∀x c,X.env.cells.lookup x=some c -> ∀v,s.heap.IsCell c v->h'.IsCell c v:=fun x c e v ⟨o,ho,hd⟩=>by
  have uj:c ∉ ch:=fun z=>(ko c z).2.2.1 x c e rfl
  by_cases hc:c∈X.fs
  ·obtain⟨sl,q⟩:=slot c o (I.oK x c e) hc uj ho (I.jd x c e)
   exact⟨_,q,hd⟩
  ·exact⟨o,keep c o (I.oK x c e) hc uj ho (I.jd x c e),hd⟩
 refine⟨I.ok,I.os,hg,⟨fun b o e n hb hx=>?_,fun b o e n hb hx=>?_,fun b o e n hx=>?_,fun b o e hx=>?_,fun b xs e=>kd b xs (I.base.kd b xs e),fun b o xs e=>kf b o xs (I.base.kf b o xs e),fun b ps e=>?_⟩,?_,fun x c e=>?_,?_,fun x c e=>?_,fun p hp=>?_,aq,I.len⟩
 ·exact keep b o (ui b o e) hb (xn b o e hx) (I.base.keep b o e n hb hx) (I.base.free b o e n hx)
 ·obtain⟨sl,e1⟩:=I.base.slot b o e n hb hx
  obtain⟨VX,e2⟩:=slot b _ (ui b o e) hb (xn b o e hx) e1 (I.base.free b o e n hx);exact⟨VX,e2⟩
 ·obtain⟨o',e1⟩:=I.base.there b o e hx
  exact free b o' (xn b o e hx) e1 (I.base.free b o e n hx)
 ·obtain⟨o',e1⟩:=I.base.there b o e hx
  exact there b o' (xn b o e hx) e1
 ·obtain⟨m1,e1⟩:=I.base.lI b ps e
  obtain⟨m2,e2⟩:=lI b _ e1;exact⟨m1++m2,by rw[e2,Array.append_assoc]⟩
 ·obtain⟨m,hn,hl⟩:=I.loc
  refine⟨m,ns m hn,fun i x v e1 e2 e3=>?_⟩;obtain⟨u,r,l⟩:=hl i x v e1 e2 e3;refine⟨u,r,?_⟩;rcases l with l|⟨k,c,e,z⟩
  ·exact .inl l
  ·exact .inr ⟨k,c,e,cellK x c e _ z⟩
 ·obtain⟨v,z⟩:=I.cell x c e
  exact⟨v,cellK x c e v z⟩
 ·obtain⟨m,⟨o,_,_,ho,_⟩,_⟩:=I.loc
  exact free _ o (fun z=>(ko _ z).2.1 rfl) ho I.free
 ·obtain⟨v,o,ho,hd⟩:=I.cell x c e
  exact free c o (fun z=>(ko c z).2.2.1 x c e rfl) ho (I.jd x c e)
 ·obtain⟨e,n,ne,nf,d⟩:=I.pin p hp
  have uj:p.1 ∉ ch:=fun z=>(ko p.1 z).2.2.2 p hp rfl;exact⟨keep p.1 p.2 ne nf uj e n,free p.1 p.2 uj e n,ne,nf,d⟩
theorem Inv.un (I:Inv X pins σ H s) (u:Un X.fs [] H H' s.heap h') (aq:cT X.prog X.w H' h'):Inv X pins σ H' { s with heap:=h',toks:=t' }:=by
 obtain⟨m,⟨o,es,ep,ho,r⟩,_⟩:=id I.loc;obtain⟨sl,hL⟩:=u.any ho I.free (by simp)
 exact I.step (g':=s.gens) (d':=s.drawn) (ch:= []) (fun _ z=>nomatch z) (fun b o _ hb _ e n=>u.keep b o e n hb (by simp)) (fun b o _ hb _ e n=>u.slot b o e n hb (by simp)) (fun b o _ e n=>u.free b o e n (by simp)) (fun b o _ e=>u.there b o e (by simp)) u.kd u.kf u.lI (fun m' hm=>by
  obtain⟨o',es',oN,iS,r'⟩:=hm;rw[ho]at iS;cases iS;exact⟨_,es',oN,hL,r'⟩) aq I.bare
theorem Inv.call {g':Array GenState}{d':Drawn} (I:Inv X pins σ H s) (u:Un (jF X.stack) ch H H' s.heap h') (aq:cT X.prog X.w H' h') (hg:AllBare g')
  (ko:∀b∈ch,(b∈X.ex\/X.eJ.heap.objs.size<=b)/\b≠X.env.locals/\(∀x c,X.env.cells.lookup x=some c->c≠b) /\ ∀p∈X.pn++pins,p.1≠b) :
  Inv X pins σ H' { s with heap:=h',gens:=g',drawn:=d',toks:=t' }:=by
 obtain⟨m,⟨o,es,ep,ho,r⟩,_⟩:=id I.loc;obtain⟨sl,hL⟩:=u.any ho I.free fun z=>(ko _ z).2.1 rfl;exact I.step (ch:=ch) ko (fun b o hL hb hc e n=>u.keep b o e n (fun z=>(bx.mp (I.AJ b z)).elim hL hb) hc) (fun b o _ _ hc e n=>u.any e n hc) (fun b o hc e n=>u.free b o e n hc) (fun b o hc e=>u.there b o e hc) u.kd u.kf u.lI (fun m' hm=>by
  obtain⟨o',es',oN,iS,r'⟩:=hm;rw[ho]at iS;cases iS;exact⟨_,es',oN,hL,r'⟩) aq hg
theorem Inv.turned (I:Inv X pins σ H s) (k:∀b o,b≠it->s.heap.get? b=some o->h'.get? b=some o) (hn:H it=none) (hL:it≠X.env.locals)
  (h1:it∈X.ex\/X.eJ.heap.objs.size<=it) (h2:∀x c,X.env.cells.lookup x=some c->c≠it) (h3:∀p∈X.pn++pins,p.1≠it):Inv X pins σ H { s with heap:=h',toks:=t' }:=by
 have J6:∀b u,H b=some u->b≠it:=fun b u e z=>by rw[z,hn]at e;cases e
 refine I.step (g':=s.gens) (d':=s.drawn) (ch:= [it]) (fun b hb=>?_) (fun b o _ _ hc e _=>k b o (fun z=>hc (by simp[z])) e) (fun b o _ _ hc e _=>⟨o.slots,k b o (fun z=>hc (by simp[z])) e⟩) (fun _ _ _ _ n=>n)
  (fun b o hc e=>⟨o,k b o (fun z=>hc (by simp[z])) e⟩) (fun _ _ e=>e) (fun _ _ _ e=>e) (fun b ps e=>⟨#[],by rw[e];simp⟩) (fun m hm=>?_) (fun b u e=>?_) I.bare
 ·have e:b=it:=by simpa using hb
  subst e;exact⟨h1,hL,h2,h3⟩
 ·obtain⟨o,es,ep,ho,r⟩:=hm
  exact⟨o,es,ep,k _ o (bb hL) ho,r⟩
 ·refine(I.aq b u e).gq (fun c v hc q=>k c v ?_ q) (fun _ q=>q) fun _ _ q=>q
  rcases hc with z|z
  ·rw[z];exact J6 b u e
  ·exact J6 c _ z
theorem Inv.tok (I:Inv X pins σ H s) (t:Nat):Inv X pins σ H { s with toks:=t }:=I.un (h':=s.heap) (t':=t) Un.refl I.aq
theorem Inv.kept (I:Inv X pins σ H s) (k:∀b u,s.heap.get? b=some u->h'.get? b=some u):Inv X pins σ H { s with heap:=h',toks:=t' }:=I.un (Un.kept k) (I.aq.kept k)
theorem Inv.laid {o:HO} (I:Inv X pins σ H s) (k:∀b u,s.heap.get? b=some u->h'.get? b=some u) (hp:s.heap.objs.size<=a) (new:ba X.prog X.w (upd H a o) h' a o) :
  Inv X pins σ (upd H a o) { s with heap:=h',toks:=t' }:=I.un (Un.laid k hp (I.aq.fresh hp)) (I.aq.laid k hp new)
theorem Inv.write {x e:Addr}{o:HO} (I:Inv X pins σ H s) (mu:ug (H x)) (he:e=x\/H e=some (.own x)) (k:∀b u,b≠e->s.heap.get? b=some u->h'.get? b=some u) (rl:∃u,h'.get? e=some u)
  (new:ba X.prog X.w (upd H x o) h' x o):Inv X pins σ (upd H x o) { s with heap:=h',toks:=t' }:=I.un (Un.write mu he k rl) (I.aq.write mu he k rl new)
theorem Inv.Gu {Ir:List (Addr×Obj)} (I:Inv X pins σ H s) (h:∀p∈Ir,s.heap.get? p.1=some p.2/\H p.1=none/\p.1≠X.env.locals/\p.1 ∉ X.fs /\ ∀v,p.2.data ≠ .cell v):Inv X Ir σ H s:=
 ⟨I.ok,I.os,I.bare,I.base,I.loc,I.cell,I.free,I.jd,fun p hp=>(e9.mp hp).elim (fun z=>I.pin p (pL _ z)) (h p),I.aq,I.len⟩
theorem Fx (hN:N.Nodup) (a:N[i]? = some x) (b:N[j]? = some x):i=j:=by
 obtain⟨h1,e1⟩:=cZ.mp a;obtain⟨h2,e2⟩:=cZ.mp b;exact(List.getElem_inj hN).mp (e1.trans e2.symm)
theorem EI {M:Model}{v:V}{Q:Unit->Shared->Prop} (I:Inv X pins σ H s) (hN:X.N.Nodup) (hi:X.N[i]? = some x) (hx:Loc X.env.scope x) (r:RelV v u)
  (h:∀s',Inv X pins (σ.set i (some v)) H s'->(∃a,Heap.SameBut a s.heap s'.heap/\(a=X.env.locals\/X.env.cells.lookup x=some a))->Q () s') (hf:X.fn x=true\/X.env.scope.names.lookup x=some .local:=by first|exact .inl rfl|exact .inr rfl|assumption):wpAny M A (storeName X.env x u) Q E s:=by
 obtain⟨m,hn,hl⟩:=id I.loc;have UB:(X.env.scope.kind == .class || (X.env.scope.kind == .module && X.env.locals != X.env.globals))=false:=by rw[I.ok.kind];rfl
 have IY:i < σ.length:=by rw[I.len];exact(cZ.mp hi).1
 have oK:=I.oK;have tracked:∀ {a:Addr}{h':Heap},(∃o,s.heap.get? a=some o/\H a=none)->Heap.SameBut a s.heap h'->cT X.prog X.w H h':=fun {a h'} ha hs b ob e=>by
  obtain⟨_,_,tM⟩:=ha;refine(I.aq b ob e).gq (fun c w' hc q=>(hs.2 c ?_).trans q) (fun _ q=>q) fun _ _ q=>q;rintro rfl;rcases hc with rfl|hc
  ·rw[tM]at e;cases e
  ·rw[tM]at hc;cases hc
 rcases hx with hk|hk
 ·refine wpAny_storeName_local hk hn (fun h' lP hs=>?_) UB
  obtain⟨oL,_,_,VY,_⟩:=id hn;refine h _ ⟨I.ok,I.os,I.bare,⟨fun b o e n hb hx=>?_,fun b o e n hb hx=>?_,I.base.free,fun b o e hx=>?_,I.base.kd,I.base.kf,I.base.lI⟩,⟨_,lP,fun j y v' e1 e2 e3=>?_⟩,fun y c e=>?_,I.free,I.jd,fun p hp=>?_,tracked ⟨oL,VY,I.free⟩ hs,by simpa using I.len⟩ ⟨_,hs,.inl rfl⟩
  ·exact(hs.2 b (bZ (gw (bw e) I.ok.above))).trans (I.base.keep b o e n hb hx)
  ·obtain⟨sl,e1⟩:=I.base.slot b o e n hb hx
   exact⟨sl,(hs.2 b (bZ (gw (bw e) I.ok.above))).trans e1⟩
  ·obtain⟨o',e1⟩:=I.base.there b o e hx
   exact⟨o',(hs.2 b (bZ (gw (bw e) I.ok.above))).trans e1⟩
  ·by_cases hj:j=i
   ·subst hj
    rw[hi]at e1;cases e1;rw[aa6 IY]at e2;cases e2
    exact⟨u,r,.inl ⟨hk,by simp⟩⟩
   ·rw[aa7 (bb hj)]at e2
    obtain⟨u',r',q⟩:=hl j y v' e1 e2 e3;refine⟨u',r',?_⟩;rcases q with⟨k,e⟩|⟨k,c,e,z⟩
    ·refine .inl ⟨k,?_⟩
     have:y≠x:=fun e=>hj (Fx hN e1 (e ▸ hi));simp[this,e]
    ·exact .inr ⟨k,c,e,z.sameBut hs (oK y c e)⟩
  ·obtain⟨w',z⟩:=I.cell y c e
   exact⟨w',z.sameBut hs (oK y c e)⟩
  ·obtain⟨e,n,ne,nf,d⟩:=I.pin p hp
   exact⟨(hs.2 p.1 ne).trans e,n,ne,nf,d⟩
 ·have B9:X.fn x=true:=by
   rcases hf with z|z
   ·exact z
   ·rw[z]at hk;cases hk
  obtain⟨c,hc⟩:=I.ok.has x (.inl hk);obtain⟨w',z⟩:=I.cell x c hc;refine wpAny_storeName_cell I.ok.kind hk hc z (fun h' lQ hs=>?_);obtain⟨oc,J7,UC⟩:=id z;refine h { s with heap:=h' } ⟨I.ok,I.os,I.bare,⟨fun b o e n hb hx=>?_,fun b o e n hb hx=>?_,I.base.free,fun b o e hx=>?_,I.base.kd,I.base.kf,I.base.lI⟩,⟨m,hn.sameBut hs (bb (oK x c hc)),fun j y v' e1 e2 e3=>?_⟩,fun y c' e=>?_,I.free,I.jd,fun p hp=>?_,tracked ⟨oc,J7,I.jd x c hc⟩ hs,by simpa using I.len⟩ ⟨c,hs,.inr hc⟩
  ·exact(hs.2 b (bZ (gw (bw e) (I.ok.uh x c B9 hc)))).trans (I.base.keep b o e n hb hx)
  ·obtain⟨sl,e1⟩:=I.base.slot b o e n hb hx
   exact⟨sl,(hs.2 b (bZ (gw (bw e) (I.ok.uh x c B9 hc)))).trans e1⟩
  ·obtain⟨o',e1⟩:=I.base.there b o e hx
   exact⟨o',(hs.2 b (bZ (gw (bw e) (I.ok.uh x c B9 hc)))).trans e1⟩
  ·by_cases hj:j=i
   ·subst hj
    rw[hi]at e1;cases e1;rw[aa6 IY]at e2;cases e2
    exact⟨u,r,.inr ⟨.inl hk,c,hc,lQ⟩⟩
   ·rw[aa7 (bb hj)]at e2
    obtain⟨u',r',q⟩:=hl j y v' e1 e2 e3;refine⟨u',r',?_⟩;rcases q with q|⟨k,c',e,z'⟩
    ·exact .inl q
    ·refine .inr ⟨k,c',e,z'.sameBut hs ?_⟩
     rintro rfl;exact hj (Fx hN e1 (I.ok.inj _ _ _ e hc ▸ hi))
  ·by_cases J8:c'=c
   ·subst J8;exact⟨_,lQ⟩
   ·obtain⟨w2,z2⟩:=I.cell y c' e
    exact⟨w2,z2.sameBut hs J8⟩
  ·obtain⟨e,n,ne,nf,d⟩:=I.pin p hp
   refine⟨(hs.2 p.1 ?_).trans e,n,ne,nf,d⟩;intro q;rw[q,J7]at e;have q':oc=p.2:=e7 e;exact d w' (by rw[<-q'];exact UC)
theorem vL {M:Model}{v:V}{Q:Unit->Shared->Prop} (I:Inv X pins σ H s) (hN:X.N.Nodup) (hi:X.N[i]? = some x) (hx:Loc X.env.scope x) (r:RelV v u)
  (h:∀s',Inv X pins (σ.set i (some v)) H s'->Q () s') (hf:X.fn x=true\/X.env.scope.names.lookup x=some .local:=by first|exact .inl rfl|exact .inr rfl|assumption):wpAny M A (storeName X.env x u) Q E s:=
 EI I hN hi hx r (fun s' I' _=>h s' I') hf
theorem Inv.Tc (I:Inv X pins σ H s) (ho:s'.os=s.os) (u:Un (jF X.stack) ch H H' s.heap s'.heap) (aq:cT X.prog X.w H' s'.heap) (hg:AllBare s'.gens)
  (ko:∀b∈ch,(b∈X.ex\/X.eJ.heap.objs.size<=b)/\b≠X.env.locals/\(∀x c,X.env.cells.lookup x=some c->c≠b) /\ ∀p∈X.pn++pins,p.1≠b):Inv X pins σ H' s':=by
 obtain⟨h',g',d',t',o'⟩:=s';have e:o'=s.os:=ho;subst e;exact I.call (g':=g') (t':=t') (d':=d') u aq hg ko
end
abbrev XK:=Value->Option Addr->Hp->Prop
abbrev St:=List (Option V)
abbrev VK:=V->Hp->Prop
abbrev TE:=St->Hp->VK->Prop
abbrev TT:=St->Hp->(Bool->Hp->Prop)->Prop
abbrev TA:=St->Hp->(List V->Hp->Prop)->Prop
structure Ends where
 nx:St->Hp->Prop
 rt:VK
 bk:St->Hp->Prop:=fun _ _=>False
 ct:St->Hp->Prop:=fun _ _=>False
abbrev TS:=Ends->St->Hp->Prop
def EP (X:Cx) (pins:List (Addr×Obj)) (σ:St) (Q:VK) (u:Value) (s':Shared):Prop:= ∃v H',Inv X pins σ H' s'/\RelV v u/\Q v H'
def TP (X:Cx) (pins:List (Addr×Obj)) (σ:St) (Q:Bool->Hp->Prop) (b:Bool) (s':Shared):Prop:= ∃H',Inv X pins σ H' s'/\Q b H'
def AP (X:Cx) (pins:List (Addr×Obj)) (σ:St) (Q:List V->Hp->Prop) (us:List Value) (s':Shared):Prop:= ∃vs H',Inv X pins σ H' s'/\Vals vs us/\Q vs H'
def SP (X:Cx) (pins:List (Addr×Obj)) (D:Ends) (f:Flow) (s':Shared):Prop:=
 match f with
 |.next=>∃aV H',Inv X pins aV H' s'/\D.nx aV H'
 |.brk=>∃aV H',Inv X pins aV H' s'/\D.bk aV H'
 |.cont=>∃aV H',Inv X pins aV H' s'/\D.ct aV H'
 |.ret u=>∃v aV H',Inv X pins aV H' s'/\RelV v u/\D.rt v H'
def PE (X:Cx) (e:Expr) (t:TE):Prop:=
 ∀ (pins:List (Addr×Obj)) (s:Shared) (σ:St) (H:Hp) (Q:VK),Inv X pins σ H s->t σ H Q->wpAny (model X.prog X.w) X.A (eval e X.env) (EP X pins σ Q) X.xe s
def PT (X:Cx) (e:Expr) (t:TT):Prop:=
 ∀ (pins:List (Addr×Obj)) (s:Shared) (σ:St) (H:Hp) (Q:Bool->Hp->Prop),Inv X pins σ H s->t σ H Q->wpAny (model X.prog X.w) X.A (isTrue e X.env (eval e X.env)) (TP X pins σ Q) X.xe s
def PW (X:Cx) (e:Expr) (t:TT):Prop:=
 ∀ (whole:Sem Value) (pins:List (Addr×Obj)) (s:Shared) (σ:St) (H:Hp) (Q:Bool->Hp->Prop),Inv X pins σ H s->t σ H Q->wpAny (model X.prog X.w) X.A (isTrue e X.env whole) (TP X pins σ Q) X.xe s
theorem PW.pt {X:Cx}{t:TT} (h:PW X e t):PT X e t:=h _
def PA (X:Cx) (es:List Expr) (t:TA):Prop:=
 ∀ (pos:Pos) (pins:List (Addr×Obj)) (s:Shared) (σ:St) (H:Hp) (Q:List V->Hp->Prop),Inv X pins σ H s->t σ H Q->wpAny (model X.prog X.w) X.A (spliced (backTo pos (starEach es X.env))) (AP X pins σ Q) X.xe s
def PS (X:Cx) (st:Stmt) (t:TS):Prop:=
 ∀ (pins:List (Addr×Obj)) (s:Shared) (σ:St) (H:Hp) (D:Ends),Inv X pins σ H s->t D σ H->wpAny (model X.prog X.w) X.A (exec st X.env) (SP X pins D) X.xe s
def iw (X:Cx) (st:List Stmt) (t:TS):Prop:=
 ∀ (pins:List (Addr×Obj)) (s:Shared) (σ:St) (H:Hp) (D:Ends),Inv X pins σ H s->t D σ H->wpAny (model X.prog X.w) X.A (execs st X.env) (SP X pins D) X.xe s
theorem aH {α:Type}{t:Sem α}{Q Q':α->Shared->Prop}{M:Model} (h:wpAny M A t Q E s) (hQ:∀a s,Q a s->Q' a s):wpAny M A t Q' E s:=pM h hQ fun _ _ x=>x
section
variable{X:Cx}
def wY (i:Nat):TE:=fun σ H Q=>∃v,σ[i]? = some (some v)/\Q v H
def tC (v:V):TE:=fun _ H Q=>Q v H
theorem Rz (hN:X.N[i]? = some x) (hv:B6 X.env.scope x) (hd:(x==("__debug__" : Str))=false:=by decide) (gu:(x==("__classdict__" : Str))=false:=by decide):PE X (.Name x pos) (wY i):=by
 intro pins s σ H Q I h;obtain⟨v,e,h⟩:=h;obtain⟨m,hn,hl⟩:=I.loc;obtain⟨u,r,l⟩:=hl i x v hN e hv;have fin:EP X pins σ Q u s:=⟨v,H,I,r,h⟩;rcases l with⟨hk,hm⟩|⟨hk,c,hc,Iu⟩
 ·exact wpAny_Name (wpAny_loadName_local I.ok.kind hk hn hm fin) hd
 ·rcases hk with hk|hk
  ·exact wpAny_Name (wpAny_loadName_cell I.ok.kind hk hc Iu fin) hd
  ·exact wpAny_Name (wpAny_loadName_free I.ok.kind hk hc Iu fin gu) hd
theorem ah {i j pos}:PE X (.Constant (.int i) j pos) (tC (.int i)):=fun _ _ _ H _ I h=>wpAny_Constant_int ⟨.int i,H,I.tok _,⟨_,rfl⟩,h⟩
theorem gn {b j pos}:PE X (.Constant (.bool b) j pos) (tC (.bl b)):=fun _ _ _ H _ I h=>Constant_bool ⟨.bl b,H,I,rfl,h⟩
theorem sY {j pos}:PE X (.Constant .none j pos) (tC .aD):=fun _ _ _ H _ I h=>Constant_none ⟨.aD,H,I,rfl,h⟩
theorem cE {x j pos}:PE X (.Constant (.str x) j pos) (tC (.str x)):=fun _ _ _ H _ I h=>Calls.Constant_str ⟨.str x,H,I.tok _,⟨_,rfl⟩,h⟩
def Gl (X:Cx) (x:Str):Prop:=X.env.kindOf x=some .globalImplicit
theorem Gv {σ:St}{H:Hp}{Q:Value->Shared->Prop} (I:Inv X pins σ H s) (hg:Gl X x) (hm:X.mg x=some u) (h:Q u s)
  (hd:(x==("__debug__" : Str))=false:=by decide):wpAny (model X.prog X.w) X.A (eval (.Name x pos) X.env) Q E s:=
 aa8 I.ok.kind hg (Calls.loadGlobal_global (by rw[I.ok.glob];exact I.mod.glob.keeps I.bk) hm h) hd
theorem wk {σ:St}{H:Hp}{Q:Value->Shared->Prop} (I:Inv X pins σ H s) (hg:Gl X x) (hm:X.mg x=none) (hv:bootBuiltins x=some u) (h:Q u s)
  (hn:x ≠ "__name__" :=by decide) (hd:(x==("__debug__" : Str))=false:=by decide):wpAny (model X.prog X.w) X.A (eval (.Name x pos) X.env) Q E s:=by
 obtain⟨mb,h1,h2⟩:=I.mod.blt;exact aa8 I.ok.kind hg (Calls.loadGlobal_builtin (by rw[I.ok.glob];exact I.mod.glob.keeps I.bk) hm (by rw[I.ok.blt];exact h1.keeps I.bk) ((h2 x hn).trans hv) h) hd
theorem Aa {v:V} (hg:Gl X x) (hm:X.mg x=some u) (r:RelV v u) (hd:(x==("__debug__" : Str))=false:=by decide):PE X (.Name x pos) (tC v):=
 fun _ _ _ H _ I h=>Gv I hg hm ⟨v,H,I,r,h⟩ hd
theorem c7 {v:V} (hg:Gl X x) (hm:X.mg x=none) (hv:bootBuiltins x=some u) (r:RelV v u) (hn:x ≠ "__name__" :=by decide) (hd:(x==("__debug__" : Str))=false:=by decide):PE X (.Name x pos) (tC v):=
 fun _ _ _ H _ I h=>wk I hg hm hv ⟨v,H,I,r,h⟩ hn hd
variable{a b:Expr}{ta tb:TE}
def PC (X:Cx) (op:CmpOp) (a b:Expr) (t:TE):Prop:=
 ∀ (pins:List (Addr×Obj)) (s:Shared) (σ:St) (H:Hp) (Q:VK),Inv X pins σ H s->t σ H Q ->
  wpAny (model X.prog X.w) X.A (eval a X.env) (fun v bu=>wpAny (model X.prog X.w) X.A (eval b X.env) (fun u jz=>wpAny (model X.prog X.w) X.A (compareOp op v u) (EP X pins σ Q) X.xe jz) X.xe bu) X.xe s
def tB (t:TE):TT:=fun σ H Q=>t σ H fun x H1=>∃c,x = .bl c/\Q c H1
theorem RA {op:CmpOp}{t:TE} (h:PC X op a b t) (h1:behindInMarks op b=false:=by first|exact ab9 _ (by decide) (by decide)|rfl):PE X (.Compare a [op] [b] pos) t:=fun pins s σ H Q I hw=>wpAny_Compare1 (h pins s σ H Q I hw) h1
theorem dQ {t:TE} (h:PE X e t) (he:∀whole,isTrue e X.env whole=(do let v <- whole;standAt e.pos;holding [v] (truthy v)):=by intro _;rfl):PT X e (tB t):=by
 intro pins s σ H Q I hw;refine isTrue_plain (aH (h pins s σ H _ I hw) fun v s1 ⟨x,H1,I1,r1,q1⟩=>?_) (he _);obtain⟨d,rfl,q⟩:=q1;cases r1
 exact jR ⟨H1,I1,q⟩
variable{tA xo:TT}{rest:List Expr}
def UD (t u:TT):TT:=fun σ H Q=>t σ H fun c H1=>if c=true then u σ H1 Q else Q false H1
def VZ (t u:TT):TT:=fun σ H Q=>t σ H fun c H1=>if c=true then Q true H1 else u σ H1 Q
def UE (t:TT):TT:=fun σ H Q=>t σ H fun c H1=>Q (!c) H1
theorem pw_and1 (ha:PT X a tA):PW X (.BoolOp .And [a] pos) tA:=by
 intro wh pins s σ H Q I h;refine isTrue_and (aH (ha pins s σ H Q I h) fun c s1 e=>?_);cases c with
 |true=>exact isTrue_and_nil e
 |false=>exact e
theorem pw_or1 (ha:PT X a tA):PW X (.BoolOp .Or [a] pos) tA:=by
 intro wh pins s σ H Q I h;refine isTrue_or (aH (ha pins s σ H Q I h) fun c s1 e=>?_);cases c with
 |false=>exact isTrue_or_nil e
 |true=>exact e
theorem pw_and (ha:PT X a tA) (hb:PW X (.BoolOp .And (b::rest) pos) xo):PW X (.BoolOp .And (a::b::rest) pos) (UD tA xo):=by
 intro wh pins s σ H Q I h;refine isTrue_and (aH (ha pins s σ H _ I h) fun c s1 ⟨H1,I1,q1⟩=>?_);cases c with
 |true=>exact hb wh pins s1 σ H1 Q I1 q1
 |false=>exact⟨H1,I1,q1⟩
theorem pw_or (ha:PT X a tA) (hb:PW X (.BoolOp .Or (b::rest) pos) xo):PW X (.BoolOp .Or (a::b::rest) pos) (VZ tA xo):=by
 intro wh pins s σ H Q I h;refine isTrue_or (aH (ha pins s σ H _ I h) fun c s1 ⟨H1,I1,q1⟩=>?_);cases c with
 |true=>exact⟨H1,I1,q1⟩
 |false=>exact hb wh pins s1 σ H1 Q I1 q1
theorem ff (ha:PT X a tA):PT X (.UnaryOp .Not a pos) (UE tA):=by
 intro pins s σ H Q I h;exact isTrue_not (ha pins s σ H (fun c H1=>Q (!c) H1) I h)
def Td (ta tb:TE):TE:=fun σ H Q=>ta σ H fun x H1=>∃c,x = .bl c/\if c=true then tb σ H1 Q else Q (.bl false) H1
def Te (ta:TE):TE:=fun σ H Q=>ta σ H fun x H1=>∃c,x = .bl c/\Q (.bl (!c)) H1
theorem gR {op}{t:TE} (h:PE X a t):PE X (.BoolOp op [a] pos) t:=fun pins s σ H Q I hw=>BoolOp_one (h pins s σ H Q I hw)
theorem eT (ha:PE X a ta) (hb:PE X (.BoolOp .And (b::rest) pos) tb):PE X (.BoolOp .And (a::b::rest) pos) (Td ta tb):=by
 intro pins s σ H Q I h;refine BoolOp_and (aH (ha pins s σ H _ I h) fun v s1 ⟨x,H1,I1,r1,q1⟩=>?_);obtain⟨c,rfl,q1⟩:=q1;cases r1
 refine jR ?_;cases c with
 |true=>exact hb pins s1 σ H1 Q I1 q1
 |false=>exact⟨.bl false,H1,I1,rfl,q1⟩
theorem Hv (ha:PE X a ta):PE X (.UnaryOp .Not a pos) (Te ta):=by
 intro pins s σ H Q I h;refine UnaryOp_ (aH (ha pins s σ H _ I h) fun v s1 ⟨x,H1,I1,r1,q1⟩=>?_);obtain⟨c,rfl,q1⟩:=q1;cases r1
 exact not_of (jR ⟨.bl (!c),H1,I1,rfl,q1⟩)
end
def ag (K:PySem.W.Frag) (H:Hp) (a:Addr) (xs:List V):Prop:=
 Rd H a (.lst xs) \/
  ∃ (o:Obj) (its:Array Value) (n:Nat),K.lookup a=some o/\o.cls = .type "list" /\ o.dict=none/\o.data = .seq its n/\its.size<=sizeLine/\Vals xs its.toList
def ao (K:PySem.W.Frag) (H:Hp) (a:Addr) (xs:List V):Prop:=
 Rd H a (.tup xs) \/
  ∃ (o:Obj) (its:Array Value) (n:Nat),K.lookup a=some o/\o.cls = .type "tuple" /\ o.data = .seq its n/\its.size<=sizeLine/\Vals xs its.toList
def UG:Value->Option V
 |.none=>some .aD
 |.bool b=>some (.bl b)
 |.int i _=>some (.int i)
 |.str x _=>some (.str x)
 |.bytes b _=>some (.iR b)
 |.float b _=>some (.jE b)
 |.ref a=>some (.ref a)
 |.type n=>some (.ty n)
 |_=>none
theorem RelV.abs {x:V} (r:RelV x u):UG u=some x:=by
 cases x with
 |aD=>cases r;rfl
 |bl _=>cases r;rfl
 |int _=>obtain⟨t,rfl⟩:=r;rfl
 |str _=>obtain⟨t,rfl⟩:=r;rfl
 |iR _=>obtain⟨t,rfl⟩:=r;rfl
 |jE _=>obtain⟨t,rfl⟩:=r;rfl
 |ref _=>cases r;rfl
 |ty _=>cases r;rfl
theorem RelV.inj {x y:V} (r:RelV x u) (q:RelV y u):x=y:=e7 (r.abs.symm.trans q.abs)
theorem Vals.inj:∀ {xs ys:List V}{us:List Value},Vals xs us->Vals ys us->xs=ys
 |_,_,_,.nil,.nil=>rfl
 |_,_,_,.cons r t,.cons r' t'=>by rw[r.inj r',Vals.inj t t']
section
variable{X:Cx}{σ:St}{H:Hp}{xs ys:List V}
theorem ag.of (h:H a=some (.lst xs)):ag K H a xs:= .inl (.inl h)
theorem ao.of (h:H a=some (.tup xs)):ao K H a xs:= .inl (.inl h)
theorem Inv.list (I:Inv X pins σ H s) (h:ag X.K H a xs):∃its:List Value,Vals xs its/\PlainL s.heap a its.toArray/\xs.length<=sizeLine:=by
 rcases h with h|⟨o,its,n,hk,hc,hd,hs,hz,r⟩
 ·obtain⟨z,its,n,r,e⟩:=h.ok I.aq
  exact⟨its,r,⟨_,n,e,rfl,rfl,rfl⟩,z⟩
 ·refine⟨its.toList,r,⟨o,n,I.dC a o hk,hc,hd,by simpa using hs⟩,?_⟩
  have e:=r.length;simp only[d7]at e;omega
theorem Inv.tuple (I:Inv X pins σ H s) (h:ao X.K H a xs):∃its:List Value,Vals xs its/\IsTup s.heap a its.toArray/\xs.length<=sizeLine:=by
 rcases h with h|⟨o,its,n,hk,hc,hs,hz,r⟩
 ·obtain⟨z,its,r,p⟩:=h.ok I.aq
  exact⟨its,r,p.is,z⟩
 ·refine⟨its.toList,r,⟨o,I.dC a o hk,hc,n,by simpa using hs⟩,?_⟩
  have e:=r.length;simp only[d7]at e;omega
theorem Inv.Pn (I:Inv X pins σ H s) (h:ag X.K H a xs) (h':ag X.K H a ys):xs=ys:=by
 obtain⟨its,r,⟨o,n,e,_,_,d⟩,_⟩:=I.list h;obtain⟨its',r',⟨o',n',e',_,_,d'⟩,_⟩:=I.list h';rw[e]at e';cases e';rw[d]at d';injection d' with d1 _;have:its=its':=by simpa using d9 Array.toList d1
 subst this;exact r.inj r'
theorem Inv.OJ (I:Inv X pins σ H s) (h:ao X.K H a xs) (h':ao X.K H a ys):xs=ys:=by
 obtain⟨its,r,⟨o,e,_,n,d⟩,_⟩:=I.tuple h;obtain⟨its',r',⟨o',e',_,n',d'⟩,_⟩:=I.tuple h';rw[e]at e';cases e';rw[d]at d';injection d' with d1 _;have:its=its':=by simpa using d9 Array.toList d1
 subst this;exact r.inj r'
end
abbrev Cx.kh (X:Cx) (E:Value->Shared->Prop):Cx:={ X with xe:=E }
abbrev Cx.xp (X:Cx):Cx:=X.kh fun _ _=>False
theorem Cx.Ok.kh {X:Cx} (ok:X.Ok) (E:Value->Shared->Prop):(X.kh E).Ok:=
 ⟨ok.mod,ok.kind,ok.glob,ok.blt,ok.above,ok.inj,ok.has,ok.uh,ok.hd,ok.frames,ok.xl,ok.xm,ok.bs,ok.oJ,ok.tX,ok.tY,ok.jy,ok.rm⟩
theorem Cx.Ok.mU {X:Cx} (ok:(X.kh E).Ok):X.Ok:=
 ⟨ok.mod,ok.kind,ok.glob,ok.blt,ok.above,ok.inj,ok.has,ok.uh,ok.hd,ok.frames,ok.xl,ok.xm,ok.bs,ok.oJ,ok.tX,ok.tY,ok.jy,ok.rm⟩
section
variable{X:Cx}{σ:St}{H:Hp}
theorem Inv.kh (I:Inv X pins σ H s) (E:Value->Shared->Prop):Inv (X.kh E) pins σ H s:=⟨I.ok.kh E,I.os,I.bare,I.base,I.loc,I.cell,I.free,I.jd,I.pin,I.aq,I.len⟩
theorem Inv.mU (I:Inv (X.kh E) pins σ H s):Inv X pins σ H s:=⟨I.ok.mU,I.os,I.bare,I.base,I.loc,I.cell,I.free,I.jd,I.pin,I.aq,I.len⟩
theorem SP.mU {D:Ends}{f:Flow} (h:SP (X.kh E) pins D f s'):SP X pins D f s':=by
 cases f with
 |next=>obtain⟨aV,H',I,q⟩:=h;exact⟨aV,H',I.mU,q⟩
 |brk=>obtain⟨aV,H',I,q⟩:=h;exact⟨aV,H',I.mU,q⟩
 |cont=>obtain⟨aV,H',I,q⟩:=h;exact⟨aV,H',I.mU,q⟩
 |ret u=>obtain⟨v,aV,H',I,r,q⟩:=h;exact⟨v,aV,H',I.mU,r,q⟩
theorem iw.xp {st:List Stmt}{t:TS} (h:iw X.xp st t):iw X st t:=fun pins s σ H D I hw =>
 pM (h pins s σ H D (I.kh _) hw) (fun _ _ q=>q.mU) fun _ _ z=>False.elim z
end
section
variable{X:Cx}{st:Stmt}{rest:List Stmt}{t u:TS}{te:TE}
def Iv:TS:=fun D σ H=>D.nx σ H
def UH (t u:TS):TS:=fun D σ H=>t { D with nx:=u D } σ H
theorem bH:iw X [] Iv:=fun _ _ σ H _ I h=>DC ⟨σ,H,I,h⟩
theorem au (h1:PS X st t) (h2:iw X rest u):iw X (st::rest) (UH t u):=by
 intro pins s σ H D I h;refine wpAny_execs_cons (aH (h1 pins s σ H { D with nx:=u D } I h) fun f s1 q=>?_);cases f with
 |next =>
  obtain⟨aV,H',I',q⟩:=q;exact h2 pins s1 aV H' D I' q
 |ret v=>exact q
 |brk=>exact q
 |cont=>exact q
theorem aE (h1:PS X st t):iw X [st] t:=by
 intro pins s σ H D I h;refine wpAny_execs_cons (aH (h1 pins s σ H D I h) fun f s1 q=>?_);cases f with
 |next=>exact DC q
 |ret v=>exact q
 |brk=>exact q
 |cont=>exact q
theorem Inv.quiet {σ:St}{H:Hp} (I:Inv X pins σ H s):interactive X.env=false:=by simp[interactive,I.ok.kind]
def Tf (te:TE):TS:=fun D σ H=>te σ H fun _ H1=>D.nx σ H1
theorem mG (he:PE X e te) (hs:swapsWith e none pos.line X.env=pure false:=by rfl):PS X (.Expr e pos) (Tf te):=by
 intro pins s σ H D I h;exact wpAny_Expr_any (aH (he pins s σ H _ I h) fun v s1 ⟨x,H1,I1,r1,q1⟩=>⟨σ,H1,I1,q1⟩) I.quiet hs
def Bn (te:TE):TS:=fun D σ H=>te σ H D.rt
theorem aY (he:PE X e te):PS X (.Return (some e) pos) (Bn te):=by
 intro pins s σ H D I h;exact wpAny_Return_some (aH (he pins s σ H _ I h) fun v s1 ⟨x,H1,I1,r1,q1⟩=>⟨x,σ,H1,I1,r1,q1⟩)
def IZ (c:TT) (t u:TS):TS:=fun D σ H=>c σ H fun b H1=>if b=true then t D σ H1 else u D σ H1
theorem bz {c:Expr}{a b:List Stmt}{tc:TT} (hc:PT X c tc) (ha:iw X a t) (hb:iw X b u):PS X (.If c a b pos) (IZ tc t u):=by
 intro pins s σ H D I h;refine wpAny_If (aH (hc pins s σ H _ I h) fun d s1 ⟨H1,I1,q1⟩=>?_);cases d with
 |true=>exact ha pins s1 σ H1 D I1 q1
 |false=>exact hb pins s1 σ H1 D I1 q1
end
abbrev TG:=V->St->Hp->(St->Hp->Prop)->Prop
abbrev ni:=List V->St->Hp->(St->Hp->Prop)->Prop
def PG (X:Cx) (target:Expr) (t:TG):Prop:=
 ∀ (pins:List (Addr×Obj)) (s:Shared) (σ:St) (H:Hp) (v:V) (u:Value) (Q:St->Hp->Prop),Inv X pins σ H s->RelV v u->t v σ H Q ->
  wpAny (model X.prog X.w) X.A (assign target X.env u) (fun _ s'=>∃aV H',Inv X pins aV H' s'/\Q aV H') X.xe s
def uk (X:Cx) (ts:List Expr) (t:ni):Prop:=
 ∀ (pins:List (Addr×Obj)) (s:Shared) (σ:St) (H:Hp) (vs:List V) (us:List Value) (Q:St->Hp->Prop),Inv X pins σ H s->Vals vs us->t vs σ H Q ->
  wpAny (model X.prog X.w) X.A (assignInOrder ((assignEach ts X.env).map (·.2)) us) (fun _ s'=>∃aV H',Inv X pins aV H' s'/\Q aV H') X.xe s
abbrev Bo:=V->V->V->Hp->(Hp->Prop)->Prop
def I0 (X:Cx) (t:Bo):Prop:=
 ∀ (pins:List (Addr×Obj)) (s:Shared) (σ:St) (H:Hp) (o i v:V) (ov iv u:Value) (Q:Hp->Prop),Inv X pins σ H s->RelV o ov->RelV i iv->RelV v u->t o i v H Q ->
  wpAny (model X.prog X.w) X.A (setItem ov iv u) (fun _ s'=>∃H',Inv X pins σ H' s'/\Q H') X.xe s
section
variable{X:Cx}
def tN (i:Nat):TG:=fun v σ H Q=>Q (σ.set i (some v)) H
theorem cb (hN:X.N.Nodup) (hi:X.N[i]? = some x) (hx:Loc X.env.scope x) (hf:X.fn x=true\/X.env.scope.names.lookup x=some .local:=by first|exact .inl rfl|exact .inr rfl|assumption):PG X (.Name x pos) (tN i):=by
 intro pins s σ H v u Q I r h;exact wpAny_assign_Name (vL I hN hi hx r (fun s' I'=>⟨_,H,I',h⟩) hf)
def UI:ni:=fun vs σ H Q=>vs = []/\Q σ H
def Tg (t:TG) (u:ni):ni:=fun vs σ H Q=>∃v r,vs=v::r/\t v σ H fun aV H'=>u r aV H' Q
theorem Gw:uk X [] UI:=by
 intro pins s σ H vs us Q I r h;obtain⟨e,h⟩:=h;subst e;cases r
 exact assignInOrder_nil ⟨σ,H,I,h⟩
theorem sN {t:TG}{u:ni} (h1:PG X e t) (h2:uk X es u)
  (hs:(assignEach (e::es) X.env).map (·.2)=assign e X.env::(assignEach es X.env).map (·.2):=by rfl):uk X (e::es) (Tg t u):=by
 intro pins s σ H vs us Q I r h;obtain⟨v,vr,e1,h⟩:=h;subst e1;cases r with
 |cons r rr =>
  rw[hs];refine Mq (aH (h1 pins s σ H _ _ _ I r h) fun _ s1 ⟨rn,H1,I1,q1⟩=>?_);exact h2 pins s1 rn H1 _ _ Q I1 rr q1
def Ja (K:PySem.W.Frag) (n:Nat) (t:ni):TG:=fun v σ H Q=>∃a xs,v = .ref a/\ao K H a xs/\xs.length=n/\t xs σ H Q
theorem RB {k:Nat}{t:ni} (hc:X.calm=true) (h:uk X es t)
  (hn:(assignEach es X.env).length=n:=by rfl) (lR:(assignEach es X.env).findIdx? (·.1)=none:=by rfl):PG X (.Tuple es k pos) (Ja X.K n t):=by
 intro pins s σ H v u Q I r hw;obtain⟨a,xs,e1,hq,hl,hw⟩:=hw;subst e1;cases r
 obtain⟨its,rv,ht,hz⟩:=I.tuple hq;refine assign_Tuple_tuple (I.ok.hd hc) ht (by simp[hn,<-hl,rv.length]) lR fun h' hx=>?_
 have I1:Inv X pins σ H { s with heap:=h' }:=I.kept (t':=s.toks) fun b o e=>hx b o (bZ (bw e)) e;exact h pins _ σ H xs _ Q I1 (by simpa using rv) hw
def UJ (to ti:TE) (t:Bo):TG:=fun v σ H Q=>to σ H fun o H1=>ti σ H1 fun i H2=>t o i v H2 fun H3=>Q σ H3
theorem sZ {o i:Expr}{to ti:TE}{t:Bo} (ho:PE X o to) (hi:PE X i ti) (hs:I0 X t)
  (ha:∀v,assign (.Subscript o i pos) X.env v=(do
   let ov <- holding [v] (eval o X.env)
   let iv <- holding [v,ov] (eval i X.env)
   standAt pos
   holding [v,ov,iv] (setItem ov iv v)
   release [v,ov,iv] []):=by intro _;rfl):PG X (.Subscript o i pos) (UJ to ti t):=by
 intro pins s σ H v u Q I r h;rw[ha];refine ab (fb (aH (ho pins s σ H _ I h) fun ov s1 ⟨x,H1,I1,r1,q1⟩=>?_));refine ab (fb (aH (hi pins s1 σ H1 _ I1 q1) fun iv s2 ⟨y,H2,I2,r2,q2⟩=>?_));refine ab (DD (ab (fb (aH (hs pins s2 σ H2 x y v ov iv u _ I2 r1 r2 r q2) fun _ s3 ⟨H3,I3,q3⟩=>?_))));exact wpAny_release ⟨σ,H3,I3,q3⟩
def Bp (te:TE) (g:TG):TS:=fun D σ H=>te σ H fun x H1=>g x σ H1 D.nx
theorem tm {te:TE}{g:TG} (he:PE X e te) (hg:PG X tg g) (hs:swapsWithSole [tg] e pos.line X.env=pure false:=by rfl) (hw:swappedStores [tg] e X.env=pure none:=by rfl)
  (h1:(assignEach [tg] X.env).map (·.2) = [assign tg X.env]:=by rfl):PS X (.Assign [tg] e pos) (Bp te g):=by
 intro pins s σ H D I h;refine wpAny_Assign_stores (aH (he pins s σ H _ I h) fun v s1 ⟨x,H1,I1,r1,q1⟩=>?_) hs hw;rw[h1];exact aH (hg pins s1 σ H1 x v _ I1 r1 q1) fun _ s2 q=>q
theorem bj {te:TE} (hN:X.N.Nodup) (hi:X.N[i]? = some x) (hx:Loc X.env.scope x) (he:PE X e te) (hs:swapsWith e (some (.Name x pos')) pos.line X.env=pure false:=by rfl) (hf:X.fn x=true\/X.env.scope.names.lookup x=some .local:=by first|exact .inl rfl|exact .inr rfl|assumption) :
  PS X (.Assign [.Name x pos'] e pos) (Bp te (tN i)):=by
 intro pins s σ H D I h;refine wpAny_Assign_Name (aH (he pins s σ H _ I h) fun v s1 ⟨y,H1,I1,r1,q1⟩=>?_) hs;exact vL I1 hN hi hx r1 (fun s2 I2=>⟨_,H1,I2,q1⟩) hf
def UK (i j:Nat) (ta:TA):TS:=fun D σ H=>ta σ H fun vs H1=>∃v w,vs = [v,w]/\D.nx ((σ.set i (some v)).set j (some w)) H1
theorem RC {y:Str}{a b:Expr}{ta:TA}{px py pt:Pos}{kt k2 B'} (hc:X.calm=true) (hN:X.N.Nodup) (hi:X.N[i]? = some x) (hj:X.N[j]? = some y) (b9:i≠j)
  (hx:X.env.scope.names.lookup x=some .local) (hy:X.env.scope.names.lookup y=some .local) (ha:PA X [a,b] ta)
  (hw:swappedStores [.Tuple [.Name x px,.Name y py] kt pt] (.Tuple [a,b] k2 B') X.env=pure (some [x,y]))
  (hs:swapsWithSole [.Tuple [.Name x px,.Name y py] kt pt] (.Tuple [a,b] k2 B') pos.line X.env=pure false:=by rfl) :
  PS X (.Assign [.Tuple [.Name x px,.Name y py] kt pt] (.Tuple [a,b] k2 B') pos) (UK i j ta):=by
 intro pins s σ H D I h;rw[exec_Assign_arm];refine ab (DD ?_);rw[hs];refine ab (ai ?_);rw[aj (by decide)]
 refine ab (Tuple_ (aH (ha _ pins s σ H _ I h) fun us s1 ⟨vs,H1,I1,r1,q1⟩=>?_));obtain⟨v,w,e1,q1⟩:=q1;subst e1;obtain⟨u1,u2,rfl,rv,gj⟩:∃u1 u2,us = [u1,u2]/\RelV v u1/\RelV w u2:=by
  cases r1 with
  |cons p q =>
   cases q with
   |cons p' q' =>
    cases q'
    exact⟨_,_,rfl,p,p'⟩
 refine iD ?_ (by show 2<=sizeLine;decide)
 have I2:Inv X pins σ H1 { s1 with heap:=s1.heap.push { cls:= .type "tuple",data:= .seq [u1,u2].toArray } }:=I1.kept (t':=s1.toks) fun b o e=>bc _ e;rw[hw];refine ab (ai ?_);show wpAny (model X.prog X.w) X.A (do rule "assign.swapped-stores"; let items <- unpackItems (.ref s1.heap.objs.size) 2 none;assignInOrder [fun v=>bindName X.env y v,fun v=>bindName X.env x v] items.reverse;pure Flow.next) _ _ _;refine ab (yA (ab (unpackItems_tuple (items:= #[u1,u2]) (I.ok.hd hc) (IsTup.new s1.heap _) fun h' g8=>?_)));have I3:=I2.kept (h':=h') (t':=s1.toks) fun b o e=>g8 b o (bZ (bw e)) e;show wpAny _ _ (assignInOrder [fun v=>bindName X.env y v,fun v=>bindName X.env x v] [u2,u1] >>= fun _=>pure Flow.next) _ _ _;refine ab (Mq (wpAny_bindName (vL I3 hN hj (.inl hy) gj (fun s2 I4=>?_) (.inr hy))));refine Mq (wpAny_bindName (vL I4 hN hi (.inl hx) rv (fun s3 I5=>assignInOrder_nil (ai ?_)) (.inr hx)));rw[List.set_comm _ _ (bb b9)]at I5;exact⟨_,H1,I5,q1⟩
def RD (c:TT) (tb:TS):TS:=fun D σ H=>∃W:Nat->St->Hp->Prop,(∃m,W m σ H) /\ ∀m σ H,W m σ H ->
 c σ H fun b H1=>if b=true then ∃N:St->Hp->Prop,(∀aV H',N aV H' -> ∃m',m' < m/\W m' aV H')/\tb { D with nx:=N,ct:=N,bk:=D.nx } σ H1 else D.nx σ H1
theorem Po {c:Expr}{tc:TT}{tb:TS} (hp:PassesOwn (model X.prog X.w) X.A X.env X.xe) (hc:PT X c tc) (hb:iw X body tb):PS X (.While c body [] pos) (RD tc tb):=by
 intro pins s σ H D I h;obtain⟨W,⟨m0,w0⟩,turn⟩:=h;refine wpAny_While (codeAny_whileLoop (fun n s'=>∃aV H',Inv X pins aV H' s'/\W n aV H') ?_ m0 ⟨σ,H,I,w0⟩);rintro n s1 ⟨rn,H1,I1,w1⟩;refine sk hp (aH (hc pins s1 rn H1 _ I1 (turn n rn H1 w1)) fun b s2 ⟨H2,I2,q2⟩=>?_);cases b with
 |true =>
  obtain⟨N,hN,q2⟩:=q2;rw[ax rfl];refine sk hp (aH (hb pins s2 rn H2 _ I2 q2) fun f s3 q3=>?_);cases f with
  |next =>
   obtain⟨jG,H3,I3,n3⟩:=q3;obtain⟨m',hm,w3⟩:=hN jG H3 n3;exact⟨m',hm,jG,H3,I3,w3⟩
  |cont =>
   obtain⟨jG,H3,I3,n3⟩:=q3;obtain⟨m',hm,w3⟩:=hN jG H3 n3;exact⟨m',hm,jG,H3,I3,w3⟩
  |brk=>exact q3
  |ret v=>exact q3
 |false =>
  rw[aj cz];exact DC ⟨rn,H2,I2,q2⟩
end
structure It where
 go:Nat->Hp->Prop
 rq:Nat->Hp->V->Hp->Prop
 stop:Nat->Hp->Prop
def jf (X:Cx) (pins:List (Addr×Obj)) (H:Hp) (b:Addr):Prop:=
 H b=none/\b≠X.env.locals/\b ∉ X.fs/\(b∈X.ex\/X.eJ.heap.objs.size<=b)/\(∀x c,X.env.cells.lookup x=some c->c≠b) /\ ∀p∈X.pn++pins,p.1≠b
theorem Inv.m3 {X:Cx}{σ:St}{H H':Hp} (I:Inv X pins σ H s) (hb:s.heap.objs.size<=b) (hn:H' b=none):jf X pins H' b:=by
 refine⟨hn,so (gw I.lt hb),I.UA hb,.inr (cL I.sz hb),fun x c e z=>?_,fun p hp z=>?_⟩
 ·obtain⟨v,q⟩:=I.cell x c e
  exact absurd (gw q.lt (by rw[z];exact hb)) (nI _)
 ·exact absurd (gw (bw (I.pin p hp).1) (by rw[z];exact hb)) (nI _)
structure Turn (P:Program) (w:World) (K:PySem.W.Frag) (tg:Expr) (J:It) (fp:List Addr) (it:Addr) (tn:Nat->Heap->Prop):Prop where
 mem:it∈fp
 obj:∀i h,tn i h -> ∀b∈fp,∃o,h.get? b=some o /\ ∀v,o.data ≠ .cell v
 keep:∀i h h',tn i h->(∀b∈fp,∀o,h.get? b=some o->h'.get? b=some o)->tn i h'
 item:∀ (X:Cx),X.prog=P->X.w=w->X.K=K->X.calm=true -> ∀ (i:Nat) (pins:List (Addr×Obj)) (s:Shared) (σ:St) (H:Hp) (E:Value->Shared->Prop),Inv X pins σ H s->(∀b∈fp,jf X pins H b)->tn i s.heap->J.go i H ->
  wpAny (model P w) X.A (pyNext (.ref it)) (fun r s1=>∃u,r=some u /\
   wpAny (model P w) X.A (letOwnedTupleGo tg (.ref it) u) (fun _ s2=>∃x H',Inv X pins σ H' s2/\RelV x u/\J.rq i H x H'/\tn (i+1) s2.heap /\ ∀b∈fp,H' b=none) E s1) E s
 done:∀ (X:Cx),X.prog=P->X.w=w->X.K=K->X.calm=true -> ∀ (i:Nat) (pins:List (Addr×Obj)) (s:Shared) (σ:St) (H:Hp) (E:Value->Shared->Prop),Inv X pins σ H s->(∀b∈fp,jf X pins H b)->tn i s.heap->J.stop i H ->
  wpAny (model P w) X.A (pyNext (.ref it)) (fun r s1=>r=none/\Inv X pins σ H s1) E s
 self:∀ (A:Around) (i:Nat) (s:Shared) (Q:Value->Shared->Prop) (E:Value->Shared->Prop),tn i s.heap->Q (.ref it) s->wpAny (model P w) A (pyIter (.ref it)) Q E s
abbrev TI:=St->Hp->(It->Hp->Prop)->Prop
def J9 (X:Cx) (pins:List (Addr×Obj)) (σ:St) (tg:Expr) (R:It->Hp->Prop) (xq:Value) (s2:Shared):Prop:=
 ∃ (it:Addr) (fp:List Addr) (tn:Nat->Heap->Prop) (J:It) (H':Hp),xq = .ref it/\Inv X pins σ H' s2/\Turn X.prog X.w X.K tg J fp it tn/\tn 0 s2.heap/\(∀b∈fp,jf X pins H' b)/\R J H'
def PI (X:Cx) (tg iter:Expr) (wi:TI):Prop:=
 ∀ (pins:List (Addr×Obj)) (s:Shared) (σ:St) (H:Hp) (R:It->Hp->Prop),Inv X pins σ H s->wi σ H R ->
  wpAny (model X.prog X.w) X.A (eval iter X.env) (fun v s1=>wpAny (model X.prog X.w) X.A (pyIter v) (J9 X pins σ tg R) X.xe s1) X.xe s
theorem qz {M:Model}{n:String}{vs:Array Value}{Q:Unit->Shared->Prop} (ho:s.heap.get? it=some o) (hc:o.cls = .type n) (hd:o.data = .fields vs)
  (hn : ["enumerate","zip","dict_itemiterator","dict_reverseitemiterator","odict_iterator","itertools.zip_longest","itertools.pairwise"].contains n=false) (hQ:Q () s):wpAny M A (letOwnedTupleGo tg (.ref it) u) Q E s:=by
 unfold letOwnedTupleGo;cases tg <;> first
  |exact ai hQ
  |(cases u <;> first
    |exact ai hQ
    |(refine ab (sr ho ?_);rw[hc,hd];show wpAny M A (if (["enumerate","zip","dict_itemiterator","dict_reverseitemiterator","odict_iterator","itertools.zip_longest","itertools.pairwise"].contains n && vs[0]? == some (rawInt _))=true then _ else _) Q E s;rw[aj (by intro h;rw[hn,Bool.false_and]at h;cases h)];exact ai hQ))
def oO (K:PySem.W.Frag) (a:Addr):It:=
 ⟨fun i H=>∃xs x,ag K H a xs/\xs[i]? = some x,fun i H x H'=>H'=H /\ ∀xs,ag K H a xs->xs[i]? = some x,fun i H=>∃xs,ag K H a xs/\xs.length<=i⟩
def oP (K:PySem.W.Frag) (a:Addr):It:=
 ⟨fun i H=>∃xs x,ao K H a xs/\xs[i]? = some x,fun i H x H'=>H'=H /\ ∀xs,ao K H a xs->xs[i]? = some x,fun i H=>∃xs,ao K H a xs/\xs.length<=i⟩
def oQ (lo:Int) (n:Nat):It:=⟨fun i _=>i < n,fun i H x H'=>H'=H/\x = .int (lo+i),fun i _=>n<=i⟩
theorem OK (a it:Addr):Turn P w K tg (oO K a) [it] it (fun i h=>h.IsListIter it a i) where
 mem:=by simp
 obj:=fun i h st b hb=>by
  have e:b=it:=by simpa using hb
  subst e;obtain⟨o,e,c,d⟩:=st;exact⟨o,e,fun v z=>by rw[d]at z;cases z⟩
 keep:=fun i h h' st k=>st.at fun o e=>k it (by simp) o e
 item:=by
  intro X hP hw hK hc i pins s σ H E I hf st hg;subst hP hw hK;obtain⟨xs,x,hq,hx⟩:=hg;obtain⟨its,rv,p,hz⟩:=I.list hq;obtain⟨u,hu,ru⟩:=rv.get hx;obtain⟨f0,f1,f2,f3,f4,f5⟩:=hf it (by simp)
  refine wpAny_pyNext_list_item st p.isList (x:=u) (by simpa using hu) fun h' fH sb=>?_
  have I1:Inv X pins σ H { s with heap:=h' }:=I.turned (t':=s.toks) (fun b o hb e=>(sb.2 b hb).trans e) f0 f1 f3 f4 f5;obtain⟨o,e,c,d⟩:=id fH;exact⟨u,rfl,qz (s:={ s with heap:=h' }) e c d (by decide) ⟨x,H,I1,ru,⟨rfl,fun ys hy=>by rw[I.Pn hy hq];exact hx⟩,fH,fun b hb=>(hf b hb).1⟩⟩
 done:=by
  intro X hP hw hK hc i pins s σ H E I hf st hg;subst hP hw hK;obtain⟨xs,hq,hx⟩:=hg;obtain⟨its,rv,p,hz⟩:=I.list hq;obtain⟨f0,f1,f2,f3,f4,f5⟩:=hf it (by simp)
  have hl:=rv.length;exact wpAny_pyNext_list_end (I.ok.hd hc) st p.isList (by simp;omega) fun h' eb=>⟨rfl,I.turned (t':=s.toks) (fun b o hb e=>eb b o hb e) f0 f1 f3 f4 f5⟩
 self:=fun _ _ _ _ _ st h=>wpAny_pyIter_listiter st h
theorem Od (a it:Addr):Turn P w K tg (oP K a) [it] it (fun i h=>h.IsTupleIter it a i) where
 mem:=by simp
 obj:=fun i h st b hb=>by
  have e:b=it:=by simpa using hb
  subst e;obtain⟨o,e,c,d⟩:=st;exact⟨o,e,fun v z=>by rw[d]at z;cases z⟩
 keep:=fun i h h' st k=>st.at fun o e=>k it (by simp) o e
 item:=by
  intro X hP hw hK hc i pins s σ H E I hf st hg;subst hP hw hK;obtain⟨xs,x,hq,hx⟩:=hg;obtain⟨its,rv,p,hz⟩:=I.tuple hq;obtain⟨u,hu,ru⟩:=rv.get hx;obtain⟨f0,f1,f2,f3,f4,f5⟩:=hf it (by simp)
  refine wpAny_pyNext_tuple_item st (show s.heap.IsTuple a its.toArray from p) (x:=u) (by simpa using hu) fun h' fH sb=>?_
  have I1:Inv X pins σ H { s with heap:=h' }:=I.turned (t':=s.toks) (fun b o hb e=>(sb.2 b hb).trans e) f0 f1 f3 f4 f5;obtain⟨o,e,c,d⟩:=id fH;exact⟨u,rfl,qz (s:={ s with heap:=h' }) e c d (by decide) ⟨x,H,I1,ru,⟨rfl,fun ys hy=>by rw[I.OJ hy hq];exact hx⟩,fH,fun b hb=>(hf b hb).1⟩⟩
 done:=by
  intro X hP hw hK hc i pins s σ H E I hf st hg;subst hP hw hK;obtain⟨xs,hq,hx⟩:=hg;obtain⟨its,rv,p,hz⟩:=I.tuple hq;obtain⟨f0,f1,f2,f3,f4,f5⟩:=hf it (by simp)
  have hl:=rv.length;exact wpAny_pyNext_tuple_end (I.ok.hd hc) st (show s.heap.IsTuple a its.toArray from p) (by simp;omega) fun h' eb=>⟨rfl,I.turned (t':=s.toks) (fun b o hb e=>eb b o hb e) f0 f1 f3 f4 f5⟩
 self:=fun _ _ _ _ _ st h=>wpAny_pyIter_tupleiter st h
theorem Oe (it:Addr) (lo:Int) (n:Nat):Turn P w K tg (oQ lo n) [it] it (fun i h=>IsRangeIter h it (lo+(i:Nat) * 1) ((n:Int) - (i:Nat)) 1) where
 mem:=by simp
 obj:=fun i h st b hb=>by
  have e:b=it:=by simpa using hb
  subst e;exact⟨_,st,fun v z=>by
   have z':Data.fields _=Data.cell v:=z;cases z'⟩
 keep:=fun i h h' st k=>k it (by simp) _ st
 item:=by
  intro X hP hw hK hc i pins s σ H E I hf st hg;subst hP hw hK;obtain⟨f0,f1,f2,f3,f4,f5⟩:=hf it (by simp)
  have W:=Walks.range (prog:=X.prog) (w:=X.w) (I.ok.hd hc) it lo 1 n;refine W.item i s _ _ hg st fun v h' tk hv fH kk=>?_;obtain⟨t,rfl⟩:=hv;have I1:Inv X pins σ H { s with heap:=h',toks:=tk }:=I.turned (fun b o hb e=>kk b o (by simpa using hb) e) f0 f1 f3 f4 f5
  refine⟨_,rfl,qz (s:={ s with heap:=h',toks:=tk }) (n:= "range_iterator") fH rfl rfl (by decide) ⟨.int (lo+i),H,I1,⟨t,?_⟩,⟨rfl,rfl⟩,fH,fun b hb=>(hf b hb).1⟩⟩
  rw[Int.mul_one]
 done:=by
  intro X hP hw hK hc i pins s σ H E I hf st hg;subst hP hw hK;obtain⟨f0,f1,f2,f3,f4,f5⟩:=hf it (by simp)
  exact wpAny_pyNext_range_end (I.ok.hd hc) st (by have:n<=i:=hg;omega) fun h' eb=>⟨rfl,I.turned (t':=s.toks) (fun b o hb e=>eb b o hb e) f0 f1 f3 f4 f5⟩
 self:=fun _ _ _ _ _ st h=>wpAny_pyIter_rangeiter st h
section
variable{X:Cx}
def Iw (K:PySem.W.Frag) (tl:TE):TI:=fun σ H R=>tl σ H fun x H1=>∃a,x = .ref a/\(∃xs,ag K H1 a xs)/\R (oO K a) H1
def UL (K:PySem.W.Frag) (tl:TE):TI:=fun σ H R=>tl σ H fun x H1=>∃a,x = .ref a/\(∃xs,ao K H1 a xs)/\R (oP K a) H1
theorem jv {l:Expr}{tl:TE} (hl:PE X l tl):PI X tg l (Iw X.K tl):=by
 intro pins s σ H R I h;refine aH (hl pins s σ H _ I h) fun v s1 ⟨x,H1,I1,r1,q1⟩=>?_;obtain⟨a,e,⟨xs,hq⟩,q⟩:=q1;subst e;cases r1
 obtain⟨its,rv,p,hz⟩:=I1.list hq;refine DF p.isList ?_;refine⟨s1.heap.objs.size,[s1.heap.objs.size],_,_,H1,rfl,I1.kept (t':=s1.toks) fun b o e=>bc _ e,OK a _,⟨_,cw _ rfl,rfl,rfl⟩,fun b hb=>?_,q⟩;have e:b=s1.heap.objs.size:=by simpa using hb
 subst e;exact I1.m3 (ay _) (I1.aq.fresh (ay _))
theorem mV {l:Expr}{tl:TE} (hl:PE X l tl):PI X tg l (UL X.K tl):=by
 intro pins s σ H R I h;refine aH (hl pins s σ H _ I h) fun v s1 ⟨x,H1,I1,r1,q1⟩=>?_;obtain⟨a,e,⟨xs,hq⟩,q⟩:=q1;subst e;cases r1
 obtain⟨its,rv,p,hz⟩:=I1.tuple hq;refine wpAny_pyIter_tuple (show s1.heap.IsTuple a its.toArray from p) ?_;refine⟨s1.heap.objs.size,[s1.heap.objs.size],_,_,H1,rfl,I1.kept (t':=s1.toks) fun b o e=>bc _ e,Od a _,⟨_,cw _ rfl,rfl,rfl⟩,fun b hb=>?_,q⟩;have e:b=s1.heap.objs.size:=by simpa using hb
 subst e;exact I1.m3 (ay _) (I1.aq.fresh (ay _))
theorem Pp {σ:St}{H:Hp}{R:It->Hp->Prop}{lo hi:Int}{t u v:Tok}{tk:Nat} (I:Inv X pins σ H s) (h1 : -(2 ^ 62)<=lo) (h2:lo < 2 ^ 62) (h3 : -(2 ^ 62)<=hi) (h4:hi < 2 ^ 62)
  (q:R (oQ lo (hi - lo).toNat) H):wpAny (model X.prog X.w) X.A (pyIter (.ref s.heap.objs.size)) (J9 X pins σ tg R) E { s with heap:=s.heap.push { cls:= .type "range",data:= .fields #[.int lo t,.int hi u,.int 1 v] },toks:=tk }:=by
 refine wpAny_pyIter_range (IsRange.new ..) (small_one h1 h2 h3 h4) ?_;have I1:Inv X pins σ H { s with heap:=s.heap.push { cls:= .type "range",data:= .fields #[.int lo t,.int hi u,.int 1 v] },toks:=tk }:=I.kept fun b o e=>bc _ e;refine⟨(s.heap.push { cls:= .type "range",data:= .fields #[.int lo t,.int hi u,.int 1 v] }).objs.size,[(s.heap.push { cls:= .type "range",data:= .fields #[.int lo t,.int hi u,.int 1 v] }).objs.size],_,_,H,rfl,
  I1.kept (t':=tk) fun b o e=>bc _ e,Oe _ lo (hi - lo).toNat,?_,fun b hb=>?_,q⟩
 ·have e1:lo+((0:Nat):Int) * 1=lo:=by simp
  have e2:(((hi - lo).toNat:Nat):Int) - ((0:Nat):Int)=Builtin.Range.rangeSize lo hi 1:=by rw[rangeSize_one];split <;> omega
  show IsRangeIter _ _ (lo+((0:Nat):Int) * 1) ((((hi - lo).toNat:Nat):Int) - ((0:Nat):Int)) 1;rw[e1,e2];exact cw _ rfl
 ·have e:b=(s.heap.push { cls:= .type "range",data:= .fields #[.int lo t,.int hi u,.int 1 v] }).objs.size:=by simpa using hb
  subst e;exact I1.m3 (ay _) (I1.aq.fresh (ay _))
def Th (ta:TA):TI:=fun σ H R=>ta σ H fun vs H1=>∃j:Int,vs = [.int j] /\ -(2 ^ 62)<=j/\j < 2 ^ 62/\R (oQ 0 j.toNat) H1
theorem jX {a:Expr}{ta:TA}{p:Pos} (hg:Gl X "range") (hm:X.mg "range" = none) (ha:PA X [a] ta) (hs:starEach [a] X.env = [(false,eval a X.env)]:=by rfl):PI X tg (.Call (.Name "range" p) [a] [] pos) (Th ta):=by
 intro pins s σ H R I h;refine Call_ (wk I hg hm boot_range (aa9 (aH (ha pos pins s σ H _ I h) fun us s1 ⟨vs,H1,I1,r1,q1⟩=>?_) hs rfl));obtain⟨j,e,q1,q2,q⟩:=q1;subst e;cases r1 with
 |cons r rr =>
  cases rr
  obtain⟨t,rfl⟩:=r;exact call_range_1 (Pp I1 (by omega) (by omega) q1 q2 (by simpa using q))
def UM (wi:TI) (g:TG) (tb:TS):TS:=fun D σ H=>wi σ H fun J H1=>∃W:Nat->Nat->St->Hp->Prop,(∃m,W 0 m σ H1) /\ ∀i m σ H,W i m σ H ->
 (J.stop i H/\D.nx σ H)\/(J.go i H /\ ∃N:St->Hp->Prop,(∀aV H',N aV H' -> ∃m',m' < m/\W (i+1) m' aV H') /\ ∀x H',J.rq i H x H'->g x σ H' fun iT H2=>tb { D with nx:=N,ct:=N,bk:=D.nx } iT H2)
def tw (fp:List Addr) (h:Heap):List (Addr×Obj):=fp.filterMap fun b=>(h.get? b).map fun o=>(b,o)
theorem vy (hb:b∈fp) (e:h.get? b=some o):(b,o)∈tw fp h:=sj.mpr ⟨b,hb,by rw[e];rfl⟩
theorem OL {p:Addr×Obj} (hp:p∈tw fp h):p.1∈fp/\h.get? p.1=some p.2:=by
 obtain⟨b,hb,e⟩:=sj.mp hp;cases q:h.get? b with
 |none=>rw[q]at e;cases e
 |some o =>
  rw[q]at e;have e':(b,o)=p:=e7 e;subst e';exact⟨hb,q⟩
theorem Inv.pinned {σ:St}{H:Hp} (I:Inv X pins σ H s) (hf:∀b∈fp,jf X pins H b) (ho:∀b∈fp,∃o,s.heap.get? b=some o /\ ∀v,o.data ≠ .cell v):Inv X (pins++tw fp s.heap) σ H s:=
 I.Gu fun p hp=>(e9.mp hp).elim (fun z=>I.pin p (jt _ z)) fun z=>by
  obtain⟨hb,e⟩:=OL z;obtain⟨f0,f1,f2,_⟩:=hf p.1 hb;obtain⟨o,e',d⟩:=ho p.1 hb;rw[e]at e';cases e';exact⟨e,f0,f1,f2,d⟩
theorem Inv.vM {pl:List (Addr×Obj)}{σ:St}{H:Hp} (I:Inv X (pins++pl) σ H s):Inv X pins σ H s:=I.Gu fun p hp=>I.pin p (jt _ (pL _ hp))
theorem jx {wi:TI}{g:TG}{tb:TS} (hp:PassesOwn (model X.prog X.w) X.A X.env X.xe) (hc:X.calm=true) (hi:PI X tg iter wi) (hg:PG X tg g) (hb:iw X body tb)
  (hs:∀x,foldedSetIterable iter X.env x=pure x:=by intro _;rfl):PS X (.For tg iter body [] pos) (UM wi g tb):=by
 intro pins s σ H D I h;refine wpAny_For (aH (hi pins s σ H _ I h) fun v s1 h1=>aH h1 fun xq s2 h2=>?_) hs;obtain⟨it,fp,tn,J,H2,e,I2,T,jH,f2,W,⟨m0,w0⟩,turn⟩:=h2;subst e;have oA:∀ {H':Hp},(∀b∈fp,H' b=none) -> ∀b∈fp,jf X pins H' b:=fun hn b hb=>⟨hn b hb,(f2 b hb).2⟩;refine codeAny_forLoop_any (fun n s'=>∃i aV H',Inv X pins aV H' s'/\tn i s'.heap/\(∀b∈fp,H' b=none)/\W i n aV H') ?_ m0 ⟨0,σ,H2,I2,jH,fun b hb=>(f2 b hb).1,w0⟩;rintro n s3 ⟨i,jG,H3,I3,uo,J',w3⟩;rcases turn i n jG H3 w3 with⟨stop,qn⟩|⟨go,N,hN,step⟩
 ·refine sk hp (aH (T.done X rfl rfl rfl hc i pins s3 jG H3 X.xe I3 (oA J') uo stop) fun r s4 ⟨hr,I4⟩=>?_)
  subst hr;exact DC ⟨jG,H3,I4,qn⟩
 ·refine sk hp (aH (T.item X rfl rfl rfl hc i pins s3 jG H3 X.xe I3 (oA J') uo go) fun r s4 ⟨u,hr,h4⟩=>?_)
  subst hr;refine sk hp (aH h4 fun _ s5 ⟨x,H5,I5,r5,y5,rz,xr⟩=>?_);have V0:=I5.pinned (oA xr) (T.obj _ _ rz);refine sk hp (aH (hg _ s5 jG H5 x u _ V0 r5 (step x H5 y5)) fun _ s6 ⟨V1,H6,I6,q6⟩=>?_);refine sk hp (aH (hb _ s6 V1 H6 _ I6 q6) fun f s7 q7=>?_);have again:∀ {jI:St}{H7:Hp},Inv X (pins++tw fp s5.heap) jI H7 s7->N jI H7 -> ∃m,m < n /\ ∃i aV H',Inv X pins aV H' s7/\tn i s7.heap/\(∀b∈fp,H' b=none)/\W i m aV H':=fun {jI H7} I7 n7=>by
   obtain⟨m',hm,w7⟩:=hN jI H7 n7;refine⟨m',hm,i+1,jI,H7,I7.vM,T.keep _ _ _ rz fun b hb o e=>(I7.pin (b,o) (jt _ (jt _ (vy hb e)))).1,fun b hb=>?_,w7⟩;obtain⟨o,e,d⟩:=T.obj _ _ rz b hb;exact(I7.pin (b,o) (jt _ (jt _ (vy hb e)))).2.1
  cases f with
  |next=>obtain⟨jI,H7,I7,n7⟩:=q7;exact again I7 n7
  |cont=>obtain⟨jI,H7,I7,n7⟩:=q7;exact again I7 n7
  |brk=>obtain⟨jI,H7,I7,q7⟩:=q7;exact⟨jI,H7,I7.vM,q7⟩
  |ret v=>obtain⟨x7,jI,H7,I7,r7,q7⟩:=q7;exact⟨x7,jI,H7,I7.vM,r7,q7⟩
end
theorem zK {xs:List V}{g:TG}{tb:TS}{D:Ends}{σ:St}{H:Hp} (Pv:Nat->St->Hp->Prop) (h0:Pv 0 σ H) (hl:∀i σ H,i<=xs.length->Pv i σ H->ag K H a xs)
  (hs:∀i x σ H,xs[i]? = some x->Pv i σ H->g x σ H fun iT H2=>tb { D with nx:=Pv (i+1),ct:=Pv (i+1),bk:=D.nx } iT H2) (hd:∀σ H,Pv xs.length σ H->D.nx σ H) :
  ∃W:Nat->Nat->St->Hp->Prop,(∃m,W 0 m σ H) /\ ∀i m σ H,W i m σ H ->
   ((oO K a).stop i H/\D.nx σ H)\/((oO K a).go i H /\ ∃N:St->Hp->Prop,(∀aV H',N aV H' -> ∃m',m' < m/\W (i+1) m' aV H') /\ ∀x H',(oO K a).rq i H x H'->g x σ H' fun iT H2=>tb { D with nx:=N,ct:=N,bk:=D.nx } iT H2):=by
 refine⟨fun i m σ H=>m=xs.length - i/\i<=xs.length/\Pv i σ H,⟨xs.length,by simp,aN _,h0⟩,?_⟩
 rintro i m σ H ⟨rfl,hi,p⟩;have q:=hl i σ H hi p
 by_cases bV:i < xs.length
 ·refine .inr ⟨⟨xs,xs[i],q,by simp[bV]⟩,Pv (i+1),fun aV H' p'=>⟨xs.length - (i+1),by omega,rfl,bV,p'⟩,fun x H' y=>?_⟩
  obtain⟨e,y⟩:=y;subst e;exact hs i x σ _ (y xs q) p
 ·have e:i=xs.length:=by omega
  subst e;exact .inl ⟨⟨xs,q,ay _⟩,hd σ H p⟩
theorem Gx {xs:List V}{g:TG}{tb:TS}{D:Ends}{σ:St}{H:Hp} (Pv:Nat->St->Hp->Prop) (h0:Pv 0 σ H) (hl:∀i σ H,i<=xs.length->Pv i σ H->ao K H a xs)
  (hs:∀i x σ H,xs[i]? = some x->Pv i σ H->g x σ H fun iT H2=>tb { D with nx:=Pv (i+1),ct:=Pv (i+1),bk:=D.nx } iT H2) (hd:∀σ H,Pv xs.length σ H->D.nx σ H) :
  ∃W:Nat->Nat->St->Hp->Prop,(∃m,W 0 m σ H) /\ ∀i m σ H,W i m σ H ->
   ((oP K a).stop i H/\D.nx σ H)\/((oP K a).go i H /\ ∃N:St->Hp->Prop,(∀aV H',N aV H' -> ∃m',m' < m/\W (i+1) m' aV H') /\ ∀x H',(oP K a).rq i H x H'->g x σ H' fun iT H2=>tb { D with nx:=N,ct:=N,bk:=D.nx } iT H2):=by
 refine⟨fun i m σ H=>m=xs.length - i/\i<=xs.length/\Pv i σ H,⟨xs.length,by simp,aN _,h0⟩,?_⟩
 rintro i m σ H ⟨rfl,hi,p⟩;have q:=hl i σ H hi p
 by_cases bV:i < xs.length
 ·refine .inr ⟨⟨xs,xs[i],q,by simp[bV]⟩,Pv (i+1),fun aV H' p'=>⟨xs.length - (i+1),by omega,rfl,bV,p'⟩,fun x H' y=>?_⟩
  obtain⟨e,y⟩:=y;subst e;exact hs i x σ _ (y xs q) p
 ·have e:i=xs.length:=by omega
  subst e;exact .inl ⟨⟨xs,q,ay _⟩,hd σ H p⟩
theorem pZ {lo:Int}{g:TG}{tb:TS}{D:Ends}{σ:St}{H:Hp} (Pv:Nat->St->Hp->Prop) (h0:Pv 0 σ H)
  (hs:∀i σ H,i < n->Pv i σ H->g (.int (lo+i)) σ H fun iT H2=>tb { D with nx:=Pv (i+1),ct:=Pv (i+1),bk:=D.nx } iT H2) (hd:∀σ H,Pv n σ H->D.nx σ H) :
  ∃W:Nat->Nat->St->Hp->Prop,(∃m,W 0 m σ H) /\ ∀i m σ H,W i m σ H ->
   ((oQ lo n).stop i H/\D.nx σ H)\/((oQ lo n).go i H /\ ∃N:St->Hp->Prop,(∀aV H',N aV H' -> ∃m',m' < m/\W (i+1) m' aV H') /\ ∀x H',(oQ lo n).rq i H x H'->g x σ H' fun iT H2=>tb { D with nx:=N,ct:=N,bk:=D.nx } iT H2):=by
 refine⟨fun i m σ H=>m=n - i/\i<=n/\Pv i σ H,⟨n,by simp,aN _,h0⟩,?_⟩
 rintro i m σ H ⟨rfl,hi,p⟩
 by_cases bV:i < n
 ·refine .inr ⟨bV,Pv (i+1),fun aV H' p'=>⟨n - (i+1),by omega,rfl,bV,p'⟩,fun x H' y=>?_⟩
  obtain⟨e,y⟩:=y;subst e y;exact hs i σ _ bV p
 ·have e:i=n:=by omega
  subst e;exact .inl ⟨ay _,hd σ H p⟩
abbrev R2:=V->V->Hp->VK->Prop
def b8 (X:Cx) (f:Value->Value->Sem Value) (r:R2):Prop:=
 ∀ (pins:List (Addr×Obj)) (s:Shared) (σ:St) (H:Hp) (x y:V) (v u:Value) (Q:VK),Inv X pins σ H s->RelV x v->RelV y u->r x y H Q ->
  wpAny (model X.prog X.w) X.A (f v u) (EP X pins σ Q) X.xe s
def Ca (X:Cx) (f:Value->Sem Value) (r:V->Hp->VK->Prop):Prop:=
 ∀ (pins:List (Addr×Obj)) (s:Shared) (σ:St) (H:Hp) (x:V) (v:Value) (Q:VK),Inv X pins σ H s->RelV x v->r x H Q ->
  wpAny (model X.prog X.w) X.A (f v) (EP X pins σ Q) X.xe s
def dq (X:Cx) (f:Value) (r:List V->Hp->VK->Prop):Prop:=
 ∀ (pins:List (Addr×Obj)) (s:Shared) (σ:St) (H:Hp) (xs:List V) (us:List Value) (Q:VK),Inv X pins σ H s->Vals xs us->r xs H Q ->
  wpAny (model X.prog X.w) X.A (call f us) (EP X pins σ Q) X.xe s
def UN (X:Cx) (r:V->Hp->(Bool->Hp->Prop)->Prop):Prop:=
 ∀ (pins:List (Addr×Obj)) (s:Shared) (σ:St) (H:Hp) (x:V) (v:Value) (Q:Bool->Hp->Prop),Inv X pins σ H s->RelV x v->r x H Q ->
  wpAny (model X.prog X.w) X.A (truthy v) (TP X pins σ Q) X.xe s
def xt (r:R2) (ta tb:TE):TE:=fun σ H Q=>ta σ H fun x H1=>tb σ H1 fun y H2=>r x y H2 Q
def Ka (r:V->Hp->VK->Prop) (ta:TE):TE:=fun σ H Q=>ta σ H fun x H1=>r x H1 Q
def rI (C:Int->Int->Prop) (g:Int->Int->V):R2:=fun x y H Q=>∃i j,x = .int i/\y = .int j/\C i j/\Q (g i j) H
def oR (g:Int->Int->V):R2:=fun x y H Q=>∃i j,x = .int i/\y = .int j/\Q (g i j) H
def rU (g:Int->V):V->Hp->VK->Prop:=fun x H Q=>∃i,x = .int i/\Q (g i) H
section
variable{X:Cx}{a b c:Expr}{ta tb tc:TE}
theorem Bq (ha:PE X a ta) (hb:PE X b tb) {σ:St}{H:Hp}{R:V->V->Hp->Prop} (I:Inv X pins σ H s)
  (h:ta σ H fun x H1=>tb σ H1 fun y H2=>R x y H2) {Q:Value->Shared->Prop}{f:Value->Value->Sem Value}
  (hf:∀v u s2 x y H2,Inv X pins σ H2 s2->RelV x v->RelV y u->R x y H2->wpAny (model X.prog X.w) X.A (f v u) Q X.xe s2) :
  wpAny (model X.prog X.w) X.A (eval a X.env) (fun v bu=>wpAny (model X.prog X.w) X.A (eval b X.env) (fun u jz=>wpAny (model X.prog X.w) X.A (f v u) Q X.xe jz) X.xe bu) X.xe s:=by
 refine aH (ha pins s σ H _ I h) fun v s1 ⟨x,H1,I1,r1,q1⟩=>?_;refine aH (hb pins s1 σ H1 _ I1 q1) fun u s2 ⟨y,H2,I2,r2,q2⟩=>?_;exact hf v u s2 x y H2 I2 r1 r2 q2
theorem bq {op:Operator}{r:R2} (ho:b8 X (binaryOp op) r) (ha:PE X a ta) (hb:PE X b tb):PE X (.BinOp a op b pos) (xt r ta tb):=by
 intro pins s σ H Q I h;exact wpAny_BinOp (Bq ha hb I h fun v u s2 x y H2 I2 rx ry q=>ho pins s2 σ H2 x y v u Q I2 rx ry q)
theorem qA {op:UnaryOp}{r:V->Hp->VK->Prop} (ho:Ca X (unaryOp op) r) (ha:PE X a ta):PE X (.UnaryOp op a pos) (Ka r ta):=by
 intro pins s σ H Q I h;exact UnaryOp_ (aH (ha pins s σ H _ I h) fun v s1 ⟨x,H1,I1,r1,q1⟩=>ho pins s1 σ H1 x v Q I1 r1 q1)
theorem ur {f:Value->Value->Sem Value}{C:Int->Int->Prop}{g:Int->Int->Int}
  (rule:∀ (i j:Int) (t u:Tok) (s:Shared) (Q:Value->Shared->Prop) (E:Value->Shared->Prop),C i j->Q (.int (g i j) s.toks) { s with toks:=s.toks+1 }->wpAny (model X.prog X.w) X.A (f (.int i t) (.int j u)) Q E s) :
  b8 X f (rI C fun i j=>.int (g i j)):=by
 intro pins s σ H x y v u Q I rx ry h;obtain⟨i,j,rfl,rfl,hc,q⟩:=h;obtain⟨t,rfl⟩:=rx;obtain⟨t',rfl⟩:=ry;exact rule i j t t' s _ _ hc ⟨.int (g i j),H,I.tok _,⟨_,rfl⟩,q⟩
theorem Jb {f:Value->Value->Sem Value}{g:Int->Int->Int}
  (rule:∀ (i j:Int) (t u:Tok) (s:Shared) (Q:Value->Shared->Prop) (E:Value->Shared->Prop),Q (.int (g i j) s.toks) { s with toks:=s.toks+1 }->wpAny (model X.prog X.w) X.A (f (.int i t) (.int j u)) Q E s) :
  b8 X f (oR fun i j=>.int (g i j)):=by
 intro pins s σ H x y v u Q I rx ry h;obtain⟨i,j,rfl,rfl,q⟩:=h;obtain⟨t,rfl⟩:=rx;obtain⟨t',rfl⟩:=ry;exact rule i j t t' s _ _ ⟨.int (g i j),H,I.tok _,⟨_,rfl⟩,q⟩
theorem Br {f:Value->Value->Sem Value}{g:Int->Int->Bool}
  (rule:∀ (i j:Int) (t u:Tok) (s:Shared) (Q:Value->Shared->Prop) (E:Value->Shared->Prop),Q (.bool (g i j)) s->wpAny (model X.prog X.w) X.A (f (.int i t) (.int j u)) Q E s) :
  b8 X f (oR fun i j=>.bl (g i j)):=by
 intro pins s σ H x y v u Q I rx ry h;obtain⟨i,j,rfl,rfl,q⟩:=h;obtain⟨t,rfl⟩:=rx;obtain⟨t',rfl⟩:=ry;exact rule i j t t' s _ _ ⟨.bl (g i j),H,I,rfl,q⟩
def UO (i j:Int):Prop:=0 < j/\j < 1073741824
def UP (i j:Int):Prop:=0<=j/\j<=1000000/\i.natAbs < 2 ^ 64
def Bs (i j:Int):Prop:=(-(2 ^ 64) < i/\i < 2 ^ 64)\/(-(2 ^ 64) < j/\j < 2 ^ 64)
theorem Bs.ok {i j:Int} (h:Bs i j):IntMulOk i j:=by
 rcases h with⟨h1,h2⟩|⟨h1,h2⟩
 ·exact .of_left (intBits_le_64 h1 h2)
 ·exact .of_right (intBits_le_64 h1 h2)
theorem gT:b8 X (binaryOp .Add) (oR fun i j=>.int (i+j)):=Jb fun _ _ _ _ _ _ _ q=>add_int q
theorem iG:b8 X (binaryOp .Sub) (oR fun i j=>.int (i - j)):=Jb fun _ _ _ _ _ _ _ q=>sub_int q
theorem wm:b8 X (binaryOp .Mult) (rI Bs fun i j=>.int (i * j)):=ur fun _ _ _ _ _ _ _ hc q=>mul_int q hc.ok
theorem Gy:b8 X (binaryOp .FloorDiv) (rI UO fun i j=>.int (i / j)):=ur fun i j _ _ _ _ _ hc q=>by
 have h1:(0:Int) < j:=hc.1;have h2:j < 1073741824:=hc.2;exact floordiv_int (by omega) (by rw[aba i (by omega)];exact q) (.inl (PyProof.noPylong_small (by omega)))
theorem qj:b8 X (binaryOp .Mod) (rI (fun _ j=>0 < j) fun i j=>.int (i % j)):=ur fun i j _ _ _ _ _ hc q=>by
 have h1:(0:Int) < j:=hc;exact mod_int' (by omega) (by rw[Int.fmod_eq_emod_of_nonneg i (by omega)];exact q)
theorem AK:b8 X (binaryOp .Pow) (rI UP fun i j=>.int (i ^ j.toNat)):=ur fun _ _ _ _ _ _ _ hc q=>pow_int_small hc.1 hc.2.1 hc.2.2 q
theorem V2 {f:Value->Sem Value}{g:Int->Int}
  (rule:∀ (i:Int) (t:Tok) (s:Shared) (Q:Value->Shared->Prop) (E:Value->Shared->Prop),Q (.int (g i) s.toks) { s with toks:=s.toks+1 }->wpAny (model X.prog X.w) X.A (f (.int i t)) Q E s) :
  Ca X f (rU fun i=>.int (g i)):=by
 intro pins s σ H x v Q I rx h;obtain⟨i,rfl,q⟩:=h;obtain⟨t,rfl⟩:=rx;exact rule i t s _ _ ⟨.int (g i),H,I.tok _,⟨_,rfl⟩,q⟩
theorem qk:Ca X (unaryOp .USub) (rU fun i=>.int (-i)):=V2 fun _ _ _ _ _ q=>neg_int q
end
def Jc:V->V->Bool
 |.aD,.aD=>true|.aD,.int _=>true|.int _,.aD=>true|.aD,.bl _=>true|.bl _,.aD=>true|.aD,.str _=>true|.str _,.aD=>true
 |.int _,.int _=>true|.bl _,.bl _=>true|.str _,.str _=>true|.iR _,.iR _=>true
 |.int _,.str _=>true|.str _,.int _=>true|.bl _,.str _=>true|.str _,.bl _=>true
 |_,_=>false
def V3:R2:=fun x y H Q=>Jc x y=true/\Q (.bl (decide (x=y))) H
def V4:R2:=fun x y H Q=>Jc x y=true/\Q (.bl (!decide (x=y))) H
theorem qd {i j:Int}:decide (V.int i=V.int j)=(i==j):=by
 rw[vg];simp
theorem Hw {i j:Bool}:decide (V.bl i=V.bl j)=(i==j):=by
 rw[vg];simp
theorem Gz {i j:Str}:decide (V.str i=V.str j)=(i==j):=by
 rw[vg];simp
theorem GC {i j:Array UInt8}:decide (V.iR i=V.iR j)=(i.toList==j.toList):=by
 rw[vg];cases i
 cases j
 simp
section
variable{X:Cx}{a b c:Expr}{ta tb tc:TE}
theorem cF {σ:St}{H:Hp}{Q:VK}{k k':Bool} (I:Inv X pins σ H s) (q:Q (.bl k) H) (e:k=k'):EP X pins σ Q (.bool k') s:=by
 subst e;exact⟨.bl k,H,I,rfl,q⟩
theorem eu:b8 X (compareOp .Eq) V3:=by
 intro pins s σ H x y v u Q I rx ry h;obtain⟨hs,q⟩:=h;cases x with
 |aD =>
  cases rx
  cases y with
  |aD=>cases ry;exact PySem.EqNone.eq_none_none (cF I q (by simp))
  |bl j=>cases ry;exact PySem.EqNone.eq_none_bool (cF I q (by simp))
  |int j=>obtain⟨t',rfl⟩:=ry;exact PySem.EqNone.eq_none_int (cF I q (by simp))
  |str j=>obtain⟨t',rfl⟩:=ry;exact PySem.EqNone.eq_none_str (cF I q (by simp))
  |_=>exact absurd (show false=true from hs) cz
 |bl i =>
  cases rx
  cases y with
  |aD=>cases ry;exact PySem.EqNone.eq_bool_none (cF I q (by simp))
  |bl j=>cases ry;exact eq_bool (cF I q Hw)
  |str j=>obtain⟨t',rfl⟩:=ry;exact PySem.EqMixed.eq_bool_str (cF I q (by simp))
  |_=>exact absurd (show false=true from hs) cz
 |int i =>
  obtain⟨t,rfl⟩:=rx;cases y with
  |aD=>cases ry;exact PySem.EqNone.eq_int_none (cF I q (by simp))
  |int j=>obtain⟨t',rfl⟩:=ry;exact eq_int (cF I q qd)
  |str j=>obtain⟨t',rfl⟩:=ry;exact PySem.EqMixed.eq_int_str (cF I q (by simp))
  |_=>exact absurd (show false=true from hs) cz
 |str i =>
  obtain⟨t,rfl⟩:=rx;cases y with
  |aD=>cases ry;exact PySem.EqNone.eq_str_none (cF I q (by simp))
  |bl j=>cases ry;exact PySem.EqMixed.eq_str_bool (cF I q (by simp))
  |int j=>obtain⟨t',rfl⟩:=ry;exact PySem.EqMixed.eq_str_int (cF I q (by simp))
  |str j=>obtain⟨t',rfl⟩:=ry;exact eq_str (cF I q Gz)
  |_=>exact absurd (show false=true from hs) cz
 |iR i =>
  obtain⟨t,rfl⟩:=rx;cases y with
  |iR j=>obtain⟨t',rfl⟩:=ry;exact PySem.W.eq_bytes (cF I q GC)
  |_=>exact absurd (show false=true from hs) cz
 |_=>cases y <;> exact absurd (show false=true from hs) cz
theorem oh:b8 X (compareOp .NotEq) V4:=by
 intro pins s σ H x y v u Q I rx ry h;obtain⟨hs,q⟩:=h;cases x with
 |aD =>
  cases rx
  cases y with
  |aD=>cases ry;exact PySem.EqNone.ne_none_none (cF I q (by simp))
  |bl j=>cases ry;exact PySem.EqNone.ne_none_bool (cF I q (by simp))
  |int j=>obtain⟨t',rfl⟩:=ry;exact PySem.EqNone.ne_none_int (cF I q (by simp))
  |str j=>obtain⟨t',rfl⟩:=ry;exact PySem.EqNone.ne_none_str (cF I q (by simp))
  |_=>exact absurd (show false=true from hs) cz
 |bl i =>
  cases rx
  cases y with
  |aD=>cases ry;exact PySem.EqNone.ne_bool_none (cF I q (by simp))
  |bl j=>cases ry;exact ne_bool (cF I q (d9 not Hw))
  |str j=>obtain⟨t',rfl⟩:=ry;exact PySem.EqMixed.ne_bool_str (cF I q (by simp))
  |_=>exact absurd (show false=true from hs) cz
 |int i =>
  obtain⟨t,rfl⟩:=rx;cases y with
  |aD=>cases ry;exact PySem.EqNone.ne_int_none (cF I q (by simp))
  |int j=>obtain⟨t',rfl⟩:=ry;exact ne_int (cF I q (d9 not qd))
  |str j=>obtain⟨t',rfl⟩:=ry;exact PySem.EqMixed.ne_int_str (cF I q (by simp))
  |_=>exact absurd (show false=true from hs) cz
 |str i =>
  obtain⟨t,rfl⟩:=rx;cases y with
  |aD=>cases ry;exact PySem.EqNone.ne_str_none (cF I q (by simp))
  |bl j=>cases ry;exact PySem.EqMixed.ne_str_bool (cF I q (by simp))
  |int j=>obtain⟨t',rfl⟩:=ry;exact PySem.EqMixed.ne_str_int (cF I q (by simp))
  |str j=>obtain⟨t',rfl⟩:=ry;exact ne_str (cF I q (d9 not Gz))
  |_=>exact absurd (show false=true from hs) cz
 |iR i =>
  obtain⟨t,rfl⟩:=rx;cases y with
  |iR j=>obtain⟨t',rfl⟩:=ry;exact PySem.W.ne_bytes (cF I q (d9 not GC))
  |_=>exact absurd (show false=true from hs) cz
 |_=>cases y <;> exact absurd (show false=true from hs) cz
theorem qB:b8 X (compareOp .Lt) (oR fun i j=>.bl (decide (i < j))):=Br fun _ _ _ _ _ _ _ q=>lt_int q
theorem lC:b8 X (compareOp .LtE) (oR fun i j=>.bl (decide (i<=j))):=Br fun _ _ _ _ _ _ _ q=>le_int q
theorem tO:b8 X (compareOp .Gt) (oR fun i j=>.bl (decide (j < i))):=Br fun _ _ _ _ _ _ _ q=>gt_int q
theorem OM:b8 X (compareOp .In) (fun x y H Q=>∃i j,x = .str i/\y = .str j/\Q (.bl (!(Builtin.Str.occurrences j i 0 j.length 1).isEmpty)) H):=by
 intro pins s σ H x y v u Q I rx ry h;obtain⟨i,j,rfl,rfl,q⟩:=h;obtain⟨t,rfl⟩:=rx;obtain⟨t',rfl⟩:=ry;exact in_str (cF I q rfl)
theorem Hx:b8 X (compareOp .Is) (fun x y H Q=>y = .aD/\Q (.bl (decide (x = .aD))) H):=by
 intro pins s σ H x y v u Q I rx ry h;obtain⟨rfl,q⟩:=h;cases ry
 refine is_none_gen (cF I q ?_);cases x <;> first
  |(cases rx;rfl)
  |(obtain⟨t,rfl⟩:=rx;rfl)
theorem a8 (b:Expr) {op:CmpOp} (h:op ≠ .In:=by decide) (h2:op ≠ .NotIn:=by decide):behindInMarks op b=false:=by
 have e1:(op==CmpOp.In)=false:=by cases op <;> first|rfl|exact absurd rfl h
 have e2:(op==CmpOp.NotIn)=false:=by cases op <;> first|rfl|exact absurd rfl h2
 cases b <;> simp[behindInMarks,e1,e2]
theorem fZ {op:CmpOp}{r:R2} (ho:b8 X (compareOp op) r) (ha:PE X a ta) (hb:PE X b tb) (hm:behindInMarks op b=false):PE X (.Compare a [op] [b] pos) (xt r ta tb):=by
 intro pins s σ H Q I h;exact wpAny_Compare1 (Bq ha hb I h fun v u s2 x y H2 I2 rx ry q=>ho pins s2 σ H2 x y v u Q I2 rx ry q) hm
def Iy (t:TE):TT:=fun σ H Q=>t σ H fun x H'=>∃k,x = .bl k/\Q k H'
theorem bh {op:CmpOp}{r:R2} (ho:b8 X (compareOp op) r) (ha:PE X a ta) (hb:PE X b tb) (hm:behindInMarks op b=false):PT X (.Compare a [op] [b] pos) (Iy (xt r ta tb)):=by
 intro pins s σ H Q I h;refine wpAny_isTrue_Compare1 (aH (ha pins s σ H _ I h) fun v s1 ⟨x,H1,I1,r1,q1⟩=>aH (hb pins s1 σ H1 _ I1 q1) fun u s2 ⟨y,H2,I2,r2,q2⟩ =>
  aH (ho pins s2 σ H2 x y v u _ I2 r1 r2 q2) fun c s3 ⟨z,H3,I3,r3,k,e,q3⟩=>?_) hm
 subst e;cases r3
 exact jR ⟨H3,I3,q3⟩
def Hy (r r':R2) (ta tb tc:TE):TE:=fun σ H Q=>ta σ H fun x H1=>tb σ H1 fun y H2=>r x y H2 fun z H3=>∃k,z = .bl k /\
 (if k=true then tc σ H3 fun w' H4=>r' y w' H4 Q else Q (.bl false) H3)
theorem zL {op oS:CmpOp}{r r':R2} (ho:b8 X (compareOp op) r) (iS:b8 X (compareOp oS) r') (ha:PE X a ta) (hb:PE X b tb) (hc:PE X c tc)
  (hm:lastMarks [op,oS] [b,c]=false:=by with_unfolding_all rfl):PE X (.Compare a [op,oS] [b,c] pos) (Hy r r' ta tb tc):=by
 intro pins s σ H Q I h;refine Compare_chain (aH (ha pins s σ H _ I h) fun v s1 ⟨x,H1,I1,r1,q1⟩=>chain_link (aH (hb pins s1 σ H1 _ I1 q1) fun u s2 ⟨y,H2,I2,r2,q2⟩ =>
  aH (ho pins s2 σ H2 x y v u _ I2 r1 r2 q2) fun d s3 ⟨z,H3,I3,r3,k,e,q3⟩=>?_)) hm
 subst e;cases r3
 refine jR ?_;cases k with
 |false=>exact ite_ff ⟨.bl false,H3,I3,rfl,q3⟩
 |true=>exact ite_tt (chain_last (aH (hc pins s3 σ H3 _ I3 q3) fun w' s4 ⟨z',H4,I4,r4,q4⟩=>iS pins s4 σ H4 y z' u w' Q I4 r2 r4 q4))
theorem Fy {op oS:CmpOp}{r r':R2} (ho:b8 X (compareOp op) r) (iS:b8 X (compareOp oS) r') (ha:PE X a ta) (hb:PE X b tb) (hc:PE X c tc)
  (hm:lastMarks [op,oS] [b,c]=false:=by with_unfolding_all rfl):PT X (.Compare a [op,oS] [b,c] pos) (Iy (Hy r r' ta tb tc)):=by
 intro pins s σ H Q I h;refine isTrue_chain (aH (ha pins s σ H _ I h) fun v s1 ⟨x,H1,I1,r1,q1⟩=>test_link (aH (hb pins s1 σ H1 _ I1 q1) fun u s2 ⟨y,H2,I2,r2,q2⟩ =>
  aH (ho pins s2 σ H2 x y v u _ I2 r1 r2 q2) fun d s3 ⟨z,H3,I3,r3,k,e,q3⟩=>?_)) hm
 subst e;cases r3
 refine jR ?_;cases k with
 |false =>
  obtain⟨k',e',q'⟩:=q3;cases e'
  exact ite_ff ⟨H3,I3,q'⟩
 |true =>
  refine ite_tt (test_last (aH (hc pins s3 σ H3 _ I3 q3) fun w' s4 ⟨z',H4,I4,r4,q4⟩=>aH (iS pins s4 σ H4 y z' u w' _ I4 r2 r4 q4) fun d' s5 ⟨z2,H5,I5,r5,k2,e2,q5⟩=>?_));subst e2;cases r5
  exact jR ⟨H5,I5,q5⟩
def Jd (K:PySem.W.Frag) (x:V) (H:Hp) (k:Bool):Prop:=
 match x with
 |.aD=>k=false
 |.bl b=>k=b
 |.int i=>k=(i != 0)
 |.str y=>y.length<=sizeLine/\k=((y.length:Int) != 0)
 |.iR y=>y.size<=sizeLine/\k=((y.size:Int) != 0)
 |.ref p=>(∃xs,ag K H p xs/\k = !xs.isEmpty)\/(∃xs,ao K H p xs/\k = !xs.isEmpty) \/ ∃kvs,H p=some (.dK kvs)/\k = !kvs.isEmpty
 |_=>False
theorem Of {κ:Type}{kvs:List (κ×V)}{vs:List (κ×Value)} (r:KV kvs vs):(!vs.isEmpty) = !kvs.isEmpty:=by
 cases r <;> rfl
theorem Ep {xs:List V} (r:Vals xs its):(!its.toArray.isEmpty) = !xs.isEmpty:=by
 cases r <;> simp
theorem og:(sizeLine:Nat) < 2 ^ 63:=by rw[aA];decide
theorem RE:UN X (fun x H Q=>∃k,Jd X.K x H k/\Q k H):=by
 intro pins s σ H x v Q I rx h;obtain⟨k,e,q⟩:=h;have hl:=og;have hs:sizeLine=16777216:=aA;cases x with
 |aD =>
  cases rx
  have e':k=false:=e;subst e';exact truthy_none ⟨H,I,q⟩
 |bl b =>
  cases rx
  have e':k=b:=e;subst e';exact jR ⟨H,I,q⟩
 |int i =>
  obtain⟨t,rfl⟩:=rx;have e':k=(i != 0):=e;subst e';exact PySem.P.truthy_int ⟨H,I,q⟩
 |str y =>
  obtain⟨t,rfl⟩:=rx;obtain⟨hy,e'⟩:y.length<=sizeLine/\k=((y.length:Int) != 0):=e;subst e';exact PySem.P.truthy_str (by omega) ⟨H,I.tok _,q⟩
 |iR y =>
  obtain⟨t,rfl⟩:=rx;obtain⟨hy,e'⟩:y.size<=sizeLine/\k=((y.size:Int) != 0):=e;subst e';exact PySem.W.truthy_bytes (by omega) ⟨H,I.tok _,q⟩
 |ref p =>
  cases rx
  have e':(∃xs,ag X.K H p xs/\k = !xs.isEmpty)\/(∃xs,ao X.K H p xs/\k = !xs.isEmpty) \/ ∃kvs,H p=some (.dK kvs)/\k = !kvs.isEmpty:=e;rcases e' with⟨xs,hx,e'⟩|⟨xs,hx,e'⟩|⟨kvs,hx,e'⟩
  ·subst e'
   obtain⟨its,r,pl,hz⟩:=I.list hx;have hlen:=r.length;exact wpAny_truthy_list pl.isList (by simp only[bY];omega) ⟨H,I.tok _,by rw[Ep r];exact q⟩
  ·subst e'
   obtain⟨its,r,pl,hz⟩:=I.tuple hx;have hlen:=r.length;exact truthy_tuple pl (by simp only[bY];omega) ⟨H,I.tok _,by rw[Ep r];exact q⟩
  ·subst e'
   obtain⟨hz,hS,vs,r,m⟩:kvs.length<=sizeLine/\(p==sysModules)=false /\ ∃vs,KV kvs vs/\s.heap.DictOf (cI X.prog X.w) p vs:=I.aq p _ hx;have hlen:kvs.length=vs.length:=fk r;exact wpAny_truthy_dict hS m (by omega) ⟨H,I.tok _,by rw[Of r];exact q⟩
 |_=>exact(show False from e).elim
theorem Pq (ha:PE X a ta) (he:∀whole,isTrue a X.env whole=(do let v <- whole;standAt a.pos;holding [v] (truthy v))) :
  PT X a (fun σ H Q=>ta σ H fun x H'=>∃k,Jd X.K x H' k/\Q k H'):=by
 intro pins s σ H Q I h;exact isTrue_plain (aH (ha pins s σ H _ I h) fun v s1 ⟨x,H1,I1,r1,q1⟩=>RE pins s1 σ H1 x v Q I1 r1 q1) (he _)
theorem vz:b8 X (binaryOp .Add) (fun x y H Q=>∃i j,x = .str i/\y = .str j/\i.length+j.length<=sizeLine/\Q (.str (i++j)) H):=by
 intro pins s σ H x y v u Q I rx ry h;obtain⟨i,j,rfl,rfl,hz,q⟩:=h;obtain⟨t,rfl⟩:=rx;obtain⟨t',rfl⟩:=ry;exact add_str (fun t' tk=>⟨.str (i++j),H,I.tok _,⟨_,rfl⟩,q⟩) hz
theorem vals1 {x:V} (r:Vals [x] us):∃u,us = [u]/\RelV x u:=by
 cases r with
 |cons r1 r2=>cases r2;exact⟨_,rfl,r1⟩
theorem vals2 {x y:V} (r:Vals [x,y] us):∃u w',us = [u,w']/\RelV x u/\RelV y w':=by
 cases r with
 |cons r1 r2 =>
  cases r2 with
  |cons r3 r4=>cases r4;exact⟨_,_,rfl,r1,r3⟩
theorem Fz:dq X (.builtin "abs") (fun xs H Q=>∃i,xs = [.int i]/\Q (.int (if i < 0 then -i else i)) H):=by
 intro pins s σ H xs us Q I r h;obtain⟨i,rfl,q⟩:=h;obtain⟨u,rfl,t,rfl⟩:=vals1 r;exact call_abs_int fun u tk=>⟨.int (if i < 0 then -i else i),H,I.tok _,⟨_,rfl⟩,q⟩
theorem ON (hc:X.calm=true):dq X (.builtin "max") (fun xs H Q=>∃i j,xs = [.int i,.int j]/\Q (.int (if j > i then j else i)) H):=by
 intro pins s σ H xs us Q I r h;obtain⟨i,j,rfl,q⟩:=h;obtain⟨u,w',rfl,⟨t,rfl⟩,⟨t',rfl⟩⟩:=vals2 r;refine max_two_ints (I.ok.hd hc) fun h' tk k=>⟨_,H,I.kept k,?_,q⟩
 by_cases hj:j > i
 ·rw[ax hj,ax hj];exact⟨_,rfl⟩
 ·rw[aj hj,aj hj];exact⟨_,rfl⟩
theorem EJ (hc:X.calm=true):dq X (.builtin "min") (fun xs H Q=>∃i j,xs = [.int i,.int j]/\Q (.int (if j < i then j else i)) H):=by
 intro pins s σ H xs us Q I r h;obtain⟨i,j,rfl,q⟩:=h;obtain⟨u,w',rfl,⟨t,rfl⟩,⟨t',rfl⟩⟩:=vals2 r;refine min_two_ints (I.ok.hd hc) fun h' tk k=>⟨_,H,I.kept k,?_,q⟩
 by_cases hj:j < i
 ·rw[ax hj,ax hj];exact⟨_,rfl⟩
 ·rw[aj hj,aj hj];exact⟨_,rfl⟩
end
structure Bt (h:Heap) (x dx C:Addr) (mA:Str->Option Value):Prop where
 obj:h.get? x=some (PySem.W.instObj C dx)
 ns:h.Ns1 dx mA
 ne:dx≠x
theorem EK {mA:Str->Option Value} (n:h.Ns1 dx mA):∃od,h.get? dx=some od /\ ∀name,PySem.W.lookIn name od=some (mA name):=by
 obtain⟨o,es,ep,ho,hd,hk,_,hm⟩:=n;refine⟨o,ho,fun name=>?_⟩;have e:=hm name;unfold nsFind findBy at e;rw[<-Array.find?_toList]at e;unfold PySem.W.lookIn;rw[hd]
 dsimp only
 split
 ·rename_i y q
  rw[q]at e;exact d9 some e
 ·rename_i q
  rw[q]at e;have a:es.toList.any (·.refKey)=false:=by
   rw[yB];intro y hy;obtain⟨z,t,Bu⟩:=hk y (yC.mp hy);simp[DictEntry.refKey,Bu]
  have a' : ¬ es.toList.any (·.refKey)=true:=by rw[a];exact cz
  rw[aj a'];exact d9 some e
theorem Bt.look {x:Addr}{mA:Str->Option Value} (I:Bt h x dx C mA):∃od,PySem.W.InstAt h x (PySem.W.instObj C dx) C (some od) /\ ∀name,PySem.W.lookIn name od=some (mA name):=
 let ⟨od,ho,hl⟩:=EK I.ns
 ⟨od,⟨I.obj,rfl,rfl,ho⟩,hl⟩
theorem iK.some_of {v:V}{o:Option Value} (r:iK (some v) o):∃u,o=some u/\RelV v u:=by
 cases o with
 |none=>exact(show False from r).elim
 |some u=>exact⟨u,rfl,r⟩
section
variable{H H':Hp}{fs VW:List (Str×V)}
theorem Qv (aq:cT P w H h) (e:H a=some (.ins C dx fs)):∃mA,Bt h a dx C mA/\(∀f,iK (fs.lookup f) (mA f))/\PySem.Within mA (fs.map (·.1))/\fs.length<=1000/\H dx=some (.own a):=by
 obtain⟨d,z,ne,ob,mA,n,r,q⟩:=(show ba P w H h a (.ins C dx fs) from aq a _ e);exact⟨mA,⟨ob,n,ne⟩,r,q,z,d⟩
end
structure Cb (K:PySem.W.Frag) (C:Addr):Prop where
 pg:PySem.W.plainGet K C Str.empty=true
 hd:PySem.W.hasDictIn K C=true
 po:PySem.W.plainOver K C=true
 sa:PySem.W.findIn K (.ref C) "__setattr__" = some (some (.builtin "object.__setattr__"))
theorem Cb.get (c:Cb K C) (f:Str):PySem.W.plainGet K C f=true:=c.pg
section
variable{X:Cx}{σ:St}{H:Hp}{Q:Value->Shared->Prop}{c:Value}{b:Bool}
inductive iq (K:PySem.W.Frag) (H:Hp):V->Value->Prop where
 |aD:iq K H .aD (.type "NoneType")
 |bl (x:Bool):iq K H (.bl x) (.type "bool")
 |int (i:Int):iq K H (.int i) (.type "int")
 |str (x:Str):iq K H (.str x) (.type "str")
 |jE (x:UInt64):iq K H (.jE x) (.type "float")
 |lst {a:Addr}{xs:List V} (e:H a=some (.lst xs)):iq K H (.ref a) (.type "list")
 |bo {a:Addr}{o:Obj}{xs:List V} (e:H a=some (.bo o (.lst xs))):iq K H (.ref a) (.type "list")
 |tup {a:Addr}{xs:List V} (e:H a=some (.tup xs)):iq K H (.ref a) (.type "tuple")
 |dK {a:Addr}{kvs:List (Key×V)} (e:H a=some (.dK kvs)):iq K H (.ref a) (.type "dict")
 |dT {a:Addr}{kvs:List (List Key×V)} (e:H a=some (.dT kvs)):iq K H (.ref a) (.type "dict")
 |ins {a C dx:Addr}{fs:List (Str×V)} (e:H a=some (.ins C dx fs)) (cl:Cb K C) (ha:PySem.W.findIn K (.ref C) "__class__" = some (some (.builtin "object.__class__")))
   (hn:PySem.W.specialIn K (.builtin "object.__class__") "__get__" = some (some (.builtin "getset_descriptor.__get__"))) (oT:PySem.W.takesIn K (.builtin "object.__class__")=some true)
   (hm:PySem.W.mroIn K C (.type "object")=some true):iq K H (.ref a) (.ref C)
theorem OO {x:V}{t:Value} (I:Inv X pins σ H s) (rx:RelV x u) (ty:iq X.K H x t) (e:PySem.W.kitOne X.K t c=some b) (h:∀tk,Q (.bool b) { s with toks:=tk }) :
  wpAny (model X.prog X.w) A (call (.builtin "isinstance") [u,c]) Q E s:=by
 cases ty with
 |aD=>cases (show u=Value.none from rx);exact kZ PySem.W.kitx_none I.dC True.intro e (fun z=>nomatch z) h
 |bl y=>cases (show u=Value.bool y from rx);exact kZ PySem.W.kitx_bool I.dC True.intro e (fun z=>nomatch z) h
 |int i=>obtain⟨t,q⟩:=(show ∃t,u=Value.int i t from rx);cases q;exact kZ PySem.W.kitx_int I.dC True.intro e (fun z=>nomatch z) h
 |str y=>obtain⟨t,q⟩:=(show ∃t,u=Value.str y t from rx);cases q;exact kZ PySem.W.kitx_str I.dC True.intro e (fun z=>nomatch z) h
 |jE y=>obtain⟨t,q⟩:=(show ∃t,u=Value.float y t from rx);cases q;exact kZ PySem.W.kitx_float I.dC True.intro e (fun z=>nomatch z) h
 |@lst a xs ea =>
  cases (show u=Value.ref a from rx)
  obtain⟨_,_,n,_,h1⟩:=(show ba X.prog X.w H s.heap a (.lst xs) from I.aq a _ ea);exact kZ PySem.W.kitx_list I.dC ⟨_,h1,rfl⟩ e (fun z=>nomatch z) h
 |@bo a ob xs ea =>
  cases (show u=Value.ref a from rx)
  obtain⟨_,_,_,n,_,h1⟩:=(show ba X.prog X.w H s.heap a (.bo ob (.lst xs)) from I.aq a _ ea);exact kZ PySem.W.kitx_list I.dC ⟨_,h1,rfl⟩ e (fun z=>nomatch z) h
 |@tup a xs ea =>
  cases (show u=Value.ref a from rx)
  obtain⟨_,_,_,p⟩:=(show ba X.prog X.w H s.heap a (.tup xs) from I.aq a _ ea);obtain⟨o,h1,h2,_⟩:=p;exact kZ PySem.W.kitx_tuple I.dC ⟨o,h1,h2⟩ e (fun z=>nomatch z) h
 |@dK a kvs ea =>
  cases (show u=Value.ref a from rx)
  obtain⟨_,_,vs,_,p⟩:=(show ba X.prog X.w H s.heap a (.dK kvs) from I.aq a _ ea);obtain⟨o,es,ep,h1,h2,_⟩:=p;exact kZ PySem.W.kitx_dict I.dC ⟨o,h1,h2.1⟩ e (fun z=>nomatch z) h
 |@dT a kvs ea =>
  cases (show u=Value.ref a from rx)
  obtain⟨_,_,xs,_,o,es,ep,h1,h2,_⟩:=(show ba X.prog X.w H s.heap a (.dT kvs) from I.aq a _ ea);exact kZ PySem.W.kitx_dict I.dC ⟨o,h1,h2.1⟩ e (fun z=>nomatch z) h
 |@ins a C dx fs ea cl ha hn oT hm =>
  cases (show u=Value.ref a from rx)
  obtain⟨mA,O,_⟩:=Qv I.aq ea;obtain⟨od,J,_⟩:=O.look;exact kZ (PySem.W.kitx_own (cl.get _) cl.hd ha hn oT hm) I.dC J e (fun z=>nomatch z) h
end
structure bf (k:Nat) (A:Around):Prop where
 hd:A.handled=none
 dp:A.depth+3 * k+5 < recursionLimit
 un:A.units+16 * k+200 < cLine
 gd:A.guards=some []
theorem bf.mono {k:Nat} (r:bf k A) (h:j<=k):bf j A:=⟨r.hd,by have:=r.dp;omega,by have:=r.un;omega,r.gd⟩
theorem bf.deeper {k:Nat} (r:bf (k+1) A) (env:Env):bf k (A.deeper env):=
 ⟨r.hd,by have:=r.dp;show A.depth+1+3 * k+5 < _;omega,by have:=r.un;show A.units+3+16 * k+200 < _;omega,by first|exact r.gd|simp[Around.deeper,r.gd]⟩
theorem bf.depth {k:Nat} (r:bf k A):A.depth < recursionLimit:=by have:=r.dp;omega
theorem bf.units {k:Nat} (r:bf k A):A.units+64 < cLine:=by have:=r.un;omega
def UQ:TA:=fun _ H Q=>Q [] H
def lD (ta:TE) (tr:TA):TA:=fun σ H Q=>ta σ H fun x H1=>tr σ H1 fun xs H2=>Q (x::xs) H2
section
variable{X:Cx}{te:TE}{t:TA}
theorem ae:PA X [] UQ:=fun _ _ _ _ H Q I h=>Calls.spliced_nil ⟨[],H,I,.nil,h⟩
theorem aa (ha:PE X e te) (hr:PA X es t) (hs:starEach (e::es) X.env=(false,eval e X.env)::starEach es X.env:=by rfl):PA X (e::es) (lD te t):=by
 intro pos pins s σ H Q I h;rw[hs];show wpAny _ _ (spliced ((false,eval e X.env)::backTo pos (starEach es X.env))) _ _ s;refine Calls.spliced_cons (aH (ha pins s σ H _ I h) fun u s1 ⟨x,H1,I1,r1,q1⟩=>?_);exact aH (hr pos pins s1 σ H1 _ I1 q1) fun us s2 ⟨xs,H2,I2,r2,q2⟩=>⟨x::xs,H2,I2,.cons r1 r2,q2⟩
def Je (t:TA):TE:=fun σ H Q=>t σ H fun xs H1=>xs.length<=sizeLine /\ ∀p,H1 p=none->Q (.ref p) (upd H1 p (.tup xs))
def Jf (t:TA):TE:=fun σ H Q=>t σ H fun xs H1=>xs.length<=sizeLine /\ ∀p,H1 p=none->Q (.ref p) (upd H1 p (.lst xs))
theorem eo {x1} (h:PA X es t):PE X (.Tuple es x1 pos) (Je t):=by
 intro pins s σ H Q I hq;refine wpAny_Tuple_spliced (aH (h pos pins s σ H _ I hq) fun us s1 ⟨xs,H1,I1,r,z,q⟩=>⟨by rw[<-r.length];exact z,?_⟩)
 have hf:H1 s1.heap.objs.size=none:=I1.aq.fresh (ay _);refine⟨.ref s1.heap.objs.size,upd H1 s1.heap.objs.size (.tup xs),I1.laid (t':=s1.toks) (fun b u e=>bc _ e) (ay _) ?_,rfl,q _ hf⟩;exact⟨z,us,r,⟨_,cw _ rfl,rfl,_,rfl,rfl⟩⟩
theorem cN (h:PA X es t):PE X (.List es pos) (Jf t):=by
 intro pins s σ H Q I hq;refine wpAny_List_spliced (aH (h pos pins s σ H _ I hq) fun us s1 ⟨xs,H1,I1,r,z,q⟩=>⟨by rw[<-r.length];exact z,?_⟩)
 have hf:H1 s1.heap.objs.size=none:=I1.aq.fresh (ay _);refine⟨.ref s1.heap.objs.size,upd H1 s1.heap.objs.size (.lst xs),I1.laid (t':=s1.toks) (fun b u e=>bc _ e) (ay _) ?_,rfl,q _ hf⟩;exact⟨z,us,0,r,cw _ rfl⟩
end
abbrev Sp:=List V->Hp->VK->XK->Prop
end L2
variable{xs ys vs:List L2.V}{H H' H1 H2:L2.Hp}{X:L2.Cx}{σ ix:L2.St}{v y:L2.V}{Q:L2.VK}{ta te tl:L2.TE}{D:L2.Ends}{tc ti:L2.TT}{sp:L2.Sp}{kvs:List (L2.Key×L2.V)}
namespace L2
open PySem PySem.Spec PyProof.Rows
abbrev kq:=List Env->Hp->Shared->XK->Value->Shared->Prop
structure wZ (P:Program) (w:World) (K:PySem.W.Frag) (mg:Str->Option Value) (base:Heap) (A:Around) (outer:List Env) (s:Shared) (H:Hp):Prop where
 frames:A.frames=some outer
 mod:Mod K mg base
 bs:∀b o,base.get? b=some o->s.heap.get? b=some o/\H b=none
 oJ:base.objs.size<=s.heap.objs.size
 jy:s.heap.FunFrames base outer
 rm:∀b∈jF outer,H b=none
 aq:cT P w H s.heap
 bare:AllBare s.gens
def CE (outer:List Env) (P:Program) (w:World) (H:Hp) (s:Shared) (Q:VK) (u:Value) (s':Shared):Prop:=
 ∃v H',s'.os=s.os/\AllBare s'.gens/\Un (jF outer) [] H H' s.heap s'.heap/\cT P w H' s'.heap/\RelV v u/\Q v H'
def CR (CX:kq) (outer:List Env) (P:Program) (w:World) (H:Hp) (s:Shared) (Q:VK) (E:XK) (r:Result) (s':Shared):Prop:=
 match r with
 |.ok (.ret u)=>CE outer P w H s Q u s'
 |.ok _=>False
 |.error e=>CX outer H s E e s'
structure aB (P:Program) (w:World) (K:PySem.W.Frag) (mg:Str->Option Value) (base:Heap) (CX:kq) (k:Nat) (f:Addr) (fd:FuncData) (ps:List Str) (sp:Sp):Prop where
 len:∀vs H Q E,sp vs H Q E->vs.length=ps.length
 run:∀ (A:Around) (outer:List Env) (s:Shared) (H:Hp) (args:Args) (us:List Value) (vs:List V) (Q:VK) (E:XK),bf k A->wZ P w K mg base A outer s H->BindsTo s fd args (ps.zip us)->Vals vs us->sp vs H Q E ->
  codeAny (model P w) A (.call (.ref f) args) (CR CX outer P w H s Q E) s
theorem Inv.UR (I:Inv X pins σ H s):wZ X.prog X.w X.K X.mg X.base X.A X.stack s H:=
 ⟨I.ok.frames,I.ok.mod,I.bs,cL I.ok.oJ I.sz,I.stack,I.Gs,I.aq,I.bare⟩
theorem Inv.after (I:Inv X pins σ H s) (h:CE X.stack X.prog X.w H s Q u s'):EP X pins σ Q u s':=by
 obtain⟨v,H',os,bare,un,aq,r,q⟩:=h;obtain⟨hh,g,d,t,Cc⟩:=s';obtain rfl:Cc=s.os:=os;exact⟨v,H',I.call (h':=hh) (g':=g) (d':=d) (t':=t) (ch:= []) un aq bare (fun b z=>absurd z (by simp)),r,q⟩
def Ti (sp:Sp) (nj:List V) (E:XK) (t:TA):TE:=fun σ H Q=>t σ H fun vs H1=>sp (vs++nj) H1 Q E
def Binds (K:PySem.W.Frag) (fd:FuncData) (ps:List Str) (ds:List Value):Prop:=
 ∀ (s:Shared) (us:List Value),K.In s.heap->(us++ds).length=ps.length->BindsTo s fd ⟨us,[]⟩ (ps.zip (us++ds))
theorem Binds.all (h:∀us:List Value,us.length=ps.length->bindArgs fd ⟨us,[]⟩=pure (ps.zip us)):Binds K fd ps []:=fun s us _ hl=>by
 rw[k7]at hl ⊢;exact .of_eq (h us hl)
def Passes (CX:kq) (X:Cx) (E:XK):Prop:= ∀ (pins:List (Addr×Obj)) (σ:St) (H:Hp) (s:Shared) (e:Value) (s':Shared),Inv X pins σ H s->CX X.stack H s E e s'->X.xe e s'
section
variable{CX:kq}{k:Nat}{nj:List V}{ds:List Value}{E:XK}{m:Str}{p apos:Pos}{o:Expr}{t:TA}
theorem RF (F:aB X.prog X.w X.K X.mg X.base CX k f fd ps sp) (hr:bf k X.A) (hb:Binds X.K fd ps ds) (hd:Vals nj ds) (hx:Passes CX X E)
  (I:Inv X pins σ H s) (r:Vals vs us) (h:sp (vs++nj) H Q E):wpAny (model X.prog X.w) X.A (call (.ref f) us) (EP X pins σ Q) X.xe s:=by
 have r2:Vals (vs++nj) (us++ds):=r.append hd;have hl:(us++ds).length=ps.length:=by rw[<-r2.length];exact F.len _ _ _ _ h
 refine DG (yD (F.run X.A X.stack s H ⟨us,[]⟩ (us++ds) (vs++nj) Q E hr I.UR (hb s us I.dC hl) r2 h) fun r s' hq=>?_);cases r with
 |error e=>exact hx pins σ H s e s' I hq
 |ok fl =>
  cases fl with
  |ret u=>exact I.after hq
  |next=>exact False.elim hq
  |brk=>exact False.elim hq
  |cont=>exact False.elim hq
theorem aF (F:aB X.prog X.w X.K X.mg X.base CX k f fd ps sp) (hr:bf k X.A) (hg:Gl X x) (hm:X.mg x=some (.ref f)) (hk:PySem.W.keepIn X.K (.ref f)=true) (hb:Binds X.K fd ps ds) (hd:Vals nj ds) (hx:Passes CX X E)
  (ha:PA X (e::es) t) (rA:(x==("__debug__" : Str))=false:=by decide) (he:starEach (e::es) X.env=(false,eval e X.env)::starEach es X.env:=by rfl) (g9:(backTo pos (starEach es X.env)).any (·.1)=false:=by rfl) :
  PE X (.Call (.Name x p) (e::es) [] pos) (Ti sp nj E t):=by
 intro pins s σ H Q I h;refine Mr (Gv I hg hm ?_ rA);refine PySem.W.callWith_K (h₀:=X.base) I.ok.mod.B5 hk (aH (ha pos pins s σ H _ I h) fun us s1 ⟨vs,H1,I1,r,q⟩=>⟨I1.dC,?_⟩) he g9;exact RF F hr hb hd hx I1 r q
end
structure b6 (N P:List Str) (sc:Scope):Prop where
 kind:sc.kind = .function
 co:sc.isCoroutine=false
 gen:sc.isGenerator=false
 nd:N.Nodup
 pre:N.take P.length=P
 par:∀x∈P,sc.names.lookup x=some .local\/sc.names.lookup x=some .cell
 RG:∀y∈sc.names,y.2 ≠ .free
theorem EL {kindOf:Str->Option NameKind}{x:Str}:∀ {binds:List (Str×Value)}{m:Str->Option Value},(∀v,(x,v) ∉ binds)->bindL kindOf binds m x=m x
 |[],_,_=>rfl
 |(n,v)::r,m,h=>by
  unfold bindL;rw[EL fun w hw=>h w (a9 _ hw)];split
  ·have:x≠n:=by rintro rfl;exact h v aZ
   simp[this]
  ·rfl
theorem EM {kindOf:Str->Option NameKind}{x:Str}:∀ {binds:List (Str×Value)}{m:Str->Option Value},(∀v,(x,v) ∉ binds)->bindC kindOf binds m x=m x
 |[],_,_=>rfl
 |(n,v)::r,m,h=>by
  unfold bindC;rw[EM fun w hw=>h w (a9 _ hw)];split
  ·rfl
  ·have:x≠n:=by rintro rfl;exact h v aZ
   simp[this]
theorem EN {kindOf:Str->Option NameKind}{x:Str}{v:Value}:∀ {P:List Str}{vs:List Value}{i:Nat}{m:Str->Option Value},P.Nodup->P[i]? = some x->vs[i]? = some v->kindOf x=some .local ->
  bindL kindOf (P.zip vs) m x=some v
 |[],_,_,_,_,h,_,_=>by simp at h
 |_::_,[],_,_,_,_,h,_=>by simp at h
 |p::P,w::vs,0,m,nd,h1,h2,hk=>by
  simp at h1 h2;subst h1;subst h2;show bindL kindOf ((p,w)::P.zip vs) m p=_;unfold bindL;rw[EL fun v hv=>(iE.mp nd).1 (Mt hv).1,ax hk];simp
 |p::P,w::vs,i+1,m,nd,h1,h2,hk=>by
  show bindL kindOf ((p,w)::P.zip vs) m x=_;unfold bindL;exact EN (i:=i) (iE.mp nd).2 (by simpa using h1) (by simpa using h2) hk
theorem EO {kindOf:Str->Option NameKind}{x:Str}{v:Value}:∀ {P:List Str}{vs:List Value}{i:Nat}{m:Str->Option Value},P.Nodup->P[i]? = some x->vs[i]? = some v->kindOf x≠some .local ->
  bindC kindOf (P.zip vs) m x=some v
 |[],_,_,_,_,h,_,_=>by simp at h
 |_::_,[],_,_,_,_,h,_=>by simp at h
 |p::P,w::vs,0,m,nd,h1,h2,hk=>by
  simp at h1 h2;subst h1;subst h2;show bindC kindOf ((p,w)::P.zip vs) m p=_;unfold bindC;rw[EM fun v hv=>(iE.mp nd).1 (Mt hv).1,aj hk];simp
 |p::P,w::vs,i+1,m,nd,h1,h2,hk=>by
  show bindC kindOf ((p,w)::P.zip vs) m x=_;unfold bindC;exact EO (i:=i) (iE.mp nd).2 (by simpa using h1) (by simpa using h2) hk
def start (N:List Str) (vs:List V):St:=vs.map some++List.replicate (N.length - vs.length) none
def qL (CX:kq) (P:Program) (w:World) (K:PySem.W.Frag) (mg:Str->Option Value) (base:Heap) (N:List Str) (qual:Str) (scope:Scope) (f:Addr) (cd:Value) (A:Around) (outer:List Env) (s:Shared) (H:Hp) (E:XK):Cx where
 prog:=P
 w:=w
 K:=K
 mg:=mg
 base:=base
 A:=A.deeper (envOfC qual scope s.heap.objs.size f cd)
 N:=N
 eJ:=s
 oz:=H
 env:=envOfC qual scope s.heap.objs.size f cd
 outer:=outer
 stack:=envOfC qual scope s.heap.objs.size f cd::outer
 ex:= []
 calm:=true
 fn:=fun _=>true
 pn:= []
 xe:=fun e s'=>wpAny (model P w) (A.deeper (envOfC qual scope s.heap.objs.size f cd)) (leaving (envOfC qual scope s.heap.objs.size f cd) e) (fun _ oU=>CX outer H s E e oU) (fun e' oU=>CX outer H s E e' oU) s'
theorem zM (h:sc.names.lookup x=some .cell):∃c,(cellsFrom n sc.names []).lookup x=some c:=by
 have q:=abd sc.names n [] (.inl h);exact abe.mp q
theorem OP {CX:kq}{cd:Value}{outer:List Env}{s1:Shared}{E:XK}
  (S:b6 N ps scope) (hd:A.handled=none) (e0:wZ P w K mg base A outer s H) (hl:vs.length=ps.length) (r:Vals vs us)
  (x:InCallC s s.heap.objs.size (bindL (envOfC qual scope s.heap.objs.size f cd).kindOf (ps.zip us) fun _=>none) (cellsFrom (s.heap.objs.size+1) scope.names []) (bindC (envOfC qual scope s.heap.objs.size f cd).kindOf (ps.zip us) fun _=>none) s1) :
  Inv (qL CX P w K mg base N qual scope f cd A outer s H E) [] (start N vs) H s1:=by
 have g9:ps.length<=N.length:=by have:=d9 List.length S.pre;rw[c4]at this;omega
 obtain⟨h1,tk,rfl,hk⟩:=x.done;have uu:∀b:Addr,b ∉ (qL CX P w K mg base N qual scope f cd A outer s H E).ex:=fun b z=>absurd (show b∈([]:List Addr) from z) (by simp)
 refine⟨⟨e0.mod,S.kind,rfl,rfl,ay _,fun y z c h1 h2=>?_,fun y hy=>?_,fun y c _ h=>?_,fun _=>hd,Around.frames_deeper e0.frames,.inr ⟨rfl,rfl⟩,fun b z=>absurd z (uu b),e0.bs,e0.oJ,fun b _ _=>uu b,fun b z=>absurd z (uu b),e0.jy,e0.rm⟩,
  rfl,e0.bare,Un.kept hk,⟨_,x.toInCall.ns,fun i y v h1 h2 h3=>?_⟩,fun y c h=>⟨_,x.cell y c h⟩,e0.aq.fresh (ay _),fun y c h=>?_,fun p hp=>absurd (show p∈([]:List (Addr×Obj)) from hp) (by simp),e0.aq.kept hk,?_⟩
 ·exact name_of_addr x.apart (md h1) (md h2)
 ·have hy:scope.names.lookup y=some .cell\/scope.names.lookup y=some .free:=hy
  rcases hy with hy|hy
  ·exact zM hy
  ·exact absurd rfl (S.RG _ (md hy))
 ·exact yy (x.above y c (md h))
 ·have hi:i < vs.length:=by
   unfold start at h2
   by_cases hi:i < vs.length
   ·exact hi
   ·rw[yE (by simpa using hi)]at h2
    rw[List.getElem?_replicate]at h2;split at h2 <;> cases h2
  have ha:vs[i]? = some v:=by
   unfold start at h2;rw[DH (by simpa using hi),cU]at h2
   cases e:vs[i]? with
   |none=>rw[e]at h2;cases h2
   |some a=>rw[e]at h2;cases h2;rfl
  obtain⟨u,hu,rv⟩:=r.get ha;have hp:ps[i]? = some y:=by
   rw[<-S.pre,Mu (by omega)];exact h1
  have Kb:ps.Nodup:=by rw[<-S.pre];exact S.nd.sublist (Mv _ _)
  refine⟨u,rv,?_⟩;rcases S.par y (eN hp) with k|k
  ·exact .inl ⟨k,EN Kb hp hu k⟩
  ·obtain⟨c,e⟩:=zM (n:=s.heap.objs.size+1) k
   refine .inr ⟨.inl k,c,e,?_⟩;have q:=x.cell y c e;rw[EO Kb hp hu (by show scope.names.lookup y≠_;rw[k];decide)]at q
   exact q
 ·exact e0.aq.fresh (yy (x.above y c (md h)))
 ·unfold start
  show _=N.length;rw[eO,ar,List.length_replicate];omega
theorem Tj {CX:kq}{k:Nat}{params:Arguments}{dV kV:Value} (lk:K.lookup f=some ⟨oc,od,.func (PySem.W.fnOf name qual params body scope dV kV doc pm an aR ct),km⟩) (gu:PySem.W.codeIn K aR qual=true) (S:b6 N ps scope)
  (len:∀vs H Q E,sp vs H Q E->vs.length=ps.length)
  (A3:∀ (A:Around) (outer:List Env) (s:Shared) (H:Hp) (vs:List V) (Q:VK) (E:XK),bf k (A.deeper (envOfC qual scope s.heap.objs.size f aR))->sp vs H Q E ->
   ∃t,iw (qL CX P w K mg base N qual scope f aR A outer s H E) body t/\t { nx:=fun _ H'=>Q .aD H',rt:=Q } (start N vs) H) :
  aB P w K mg base CX (k+1) f (PySem.W.fnOf name qual params body scope dV kV doc pm an aR ct) ps sp:=by
 refine⟨len,fun A outer s H args us vs Q E hr e0 hb r jJ=>?_⟩;have hl:=len _ _ _ _ jJ;have KX:K.In s.heap:=e0.mod.B5.keeps fun b o e=>(e0.bs b o e).1;have lim:s.heap.NoLimit:=e0.mod.nolimit.keeps fun b o e=>(e0.bs b o e).1;have To:∀y∈ps.zip us,scope.names.lookup y.1=some .local\/(scope.names.lookup y.1=some .cell/\((cellsFrom (s.heap.objs.size+1) scope.names []).lookup y.1).isSome=true):=fun⟨n,v⟩ hy=>by
  rcases S.par n (Mt hy).1 with q|q
  ·exact .inl q
  ·exact .inr ⟨q,abd _ _ _ (.inl q)⟩
 refine codeAny_call_function hr.depth (KX _ _ lk) rfl S.co S.gen rfl (PySem.W.codeRec_of KX gu) (hb _ _ _ _ ?_);refine wpAny_newFunctionEnv_cells S.kind To fun env he s1 x=>?_;subst he;refine⟨lim.keeps x.toInCall.keep,codeAny_func ?_⟩;obtain⟨t,ht,hq⟩:=A3 A outer s H vs Q E (hr.deeper _) jJ;have I:Inv (qL CX P w K mg base N qual scope f aR A outer s H E) [] (start N vs) H s1:=OP S hr.hd e0 hl r x;refine pM (ht [] s1 (start N vs) H _ I hq) (fun fl s' hs=>?_) fun e s' hs=>hs;have fin:∀ {aV:St}{H':Hp}{v:V}{u:Value},Inv (qL CX P w K mg base N qual scope f aR A outer s H E) [] aV H' s'->RelV v u->Q v H'->CE outer P w H s Q u s':=
  fun {aV H' v u} J rv q=>⟨v,H',J.os,J.bare,J.base,J.aq,rv,q⟩
 cases fl with
 |ret u =>
  obtain⟨v,aV,H',J,rv,q⟩:=hs;exact fin J rv q
 |next =>
  obtain⟨aV,H',J,q⟩:=hs;exact fin (v:=V.aD) (u:=Value.none) J rfl q
 |brk =>
  obtain⟨_,_,_,q⟩:=hs;exact False.elim q
 |cont =>
  obtain⟨_,_,_,q⟩:=hs;exact False.elim q
section
variable{p:Pos}{t:TA}{id:String}{r:List V->Hp->VK->Prop}
def Kc (r:List V->Hp->VK->Prop) (t:TA):TE:=fun σ H Q=>t σ H fun vs H1=>r vs H1 Q
theorem aP (hc:dq X (.builtin id) r) (hg:Gl X x) (hm:X.mg x=none) (hv:bootBuiltins x=some (.builtin id)) (ha:PA X (e::es) t) (hn:x ≠ "__name__" :=by decide) (rA:(x==("__debug__" : Str))=false:=by decide)
  (he:starEach (e::es) X.env=(false,eval e X.env)::starEach es X.env:=by rfl) (g9:(backTo pos (starEach es X.env)).any (·.1)=false:=by rfl):PE X (.Call (.Name x p) (e::es) [] pos) (Kc r t):=by
 intro pins s σ H Q I h;refine Mr (wk I hg hm hv ?_ hn rA);exact PyProof.Rows.callWith_builtin1 (aH (ha pos pins s σ H _ I h) fun us s1 ⟨vs,H1,I1,r1,q1⟩=>hc pins s1 σ H1 vs us Q I1 r1 q1) he g9
theorem fo (hc:dq X (.type T) r) (hg:Gl X x) (hm:X.mg x=none) (hv:bootBuiltins x=some (.type T)) (ha:PA X (e::es) t) (hn:x ≠ "__name__" :=by decide) (rA:(x==("__debug__" : Str))=false:=by decide)
  (he:starEach (e::es) X.env=(false,eval e X.env)::starEach es X.env:=by rfl) (g9:(backTo pos (starEach es X.env)).any (·.1)=false:=by rfl):PE X (.Call (.Name x p) (e::es) [] pos) (Kc r t):=by
 intro pins s σ H Q I h;refine Mr (wk I hg hm hv ?_ hn rA);exact aa9 (aH (ha pos pins s σ H _ I h) fun us s1 ⟨vs,H1,I1,r1,q1⟩=>hc pins s1 σ H1 vs us Q I1 r1 q1) he g9
end
end L2
namespace HT
open PySem PyProof.Rows
section
open PySem.SeqAt
open PySem.AutoSeq1 (wpAny_loadPart')
open PySem.MeetsSeq PySem.MeetsSeq2 PySem.MeetsSeq3
end
theorem Qw {t:Addr}{vs ws:List Value}{Q:Value->Shared->Prop} (ht:IsTup s.heap t vs.toArray) (hb:IsTup s.heap b ws.toArray) (hv:vs ≠ [])
  (h1:ws = []->Q (.ref t) s) (h2:ws ≠ []->Q (.ref s.heap.objs.size) { s with heap:=s.heap.push { cls:= .type "tuple",data:= .seq (vs++ws).toArray } })
  (hsz:vs.length+ws.length<=sizeLine):wpAny (model prog w) A (binaryOp .Add (.ref t) (.ref b)) Q E s:=by
 obtain⟨⟨cls,dd,data,sl⟩,ho,hc,n,hd⟩:=id ht;obtain⟨⟨Jg,xu,data2,xv⟩,iU,dG,n2,hd2⟩:=id hb;simp only at hc hd dG hd2;subst hc hd dG hd2;have e:vs.toArray++ws.toArray=(vs++ws).toArray:=by simp
 by_cases hw:ws = []
 ·exact concat_meets ⟨_,ho,rfl⟩ ⟨_,iU,rfl⟩ Mx My Mz MA (MB _ _)
   (tuple_addW1 t b vs.toArray ws.toArray n n2 dd xu sl xv (by simpa using hv) (by simp[hw])) ⟨ho,iU,h1 hw⟩
 ·refine concat_meets ⟨_,ho,rfl⟩ ⟨_,iU,rfl⟩ Mx My Mz MA (MB _ _)
   (tuple_addW2 t b vs.toArray ws.toArray n n2 dd xu sl xv (by simpa using hv) (by simpa using hw) (by rw[bY,bY];exact hsz)) ⟨ho,iU,?_⟩
  rw[e];exact h2 hw
def a6 (n d:Nat):Option Int->Nat
 |none=>d
 |some v=>if v < 0 then (v+(n:Int)).toNat else min v.toNat n
theorem Pr (n d:Nat):a6 n d none=d:=rfl
theorem Qx (n d k:Nat):a6 n d (some (k:Int))=min k n:=by
 show(if (k:Int) < 0 then ((k:Int)+(n:Int)).toNat else min (k:Int).toNat n)=min k n;rw[aj (by omega),me]
theorem RH (n d:Nat) (hd:d<=n) (o:Option Int):a6 n d o<=n:=by
 cases o with
 |none=>exact hd
 |some v =>
  show(if v < 0 then (v+(n:Int)).toNat else min v.toNat n)<=n
  by_cases hv:v < 0
  ·rw[ax hv];omega
  ·rw[aj hv];exact Nat.min_le_right _ _
theorem GG (v:Int) (n d:Nat):(if v < 0 then max (v+(n:Int)) 0 else min v (n:Int))=((a6 n d (some v):Nat):Int):=by
 show(if v < 0 then max (v+(n:Int)) 0 else min v (n:Int))=(((if v < 0 then (v+(n:Int)).toNat else min v.toNat n):Nat):Int)
 by_cases hv:v < 0
 ·simp only[ax hv];omega
 ·simp only[aj hv];omega
theorem Og (lo hi:Option Int) (n:Nat):Builtin.Slice.sliceAdjust lo hi 1 (n:Int)=(((a6 n 0 lo:Nat):Int),((a6 n n hi:Nat):Int)):=by
 have h1 : ¬ ((1:Int) < 0):=by omega
 unfold Builtin.Slice.sliceAdjust;simp only[h1,fc];refine Prod.ext ?_ ?_
 ·cases lo with
  |none=>rfl
  |some v=>exact GG v n 0
 ·cases hi with
  |none=>rfl
  |some v=>exact GG v n n
theorem Oh (i j:Nat):Builtin.Slice.slicePlaces (i:Int) (j:Int) 1=j - i:=by
 unfold Builtin.Slice.slicePlaces;have h1:(1:Int) > 0:=by omega
 simp only[h1,gN,Int.ediv_one];split <;> omega
theorem Er {v:Value}{o:Option Int}{Q:Option Int->Shared->Prop} (p:IsPart v o) (h:Q o s):wpAny (model prog w) A (Builtin.Slice.slicePartIndex v) Q E s:=by
 cases p with
 |none=>exact slicePart_none h
 |int i t=>exact slicePart_int h
theorem Ec {Q:Int×Int×Nat->Shared->Prop} (hs:s.heap.IsSliceOf sl vl vu .none) (pl:IsPart vl lo) (pu:IsPart vu hi)
  (h:Q (((a6 n 0 lo:Nat):Int),1,a6 n n hi - a6 n 0 lo) s):wpAny (model prog w) A (Builtin.Slice.sliceApplied (.ref sl) (pure (n:Int))) Q E s:=by
 obtain⟨os,oV,xw,uv⟩:=id hs;unfold Builtin.Slice.sliceApplied Builtin.Slice.sliceFields;refine ab (ab (wpAny_field oV uv (x:=vl) rfl (ab (wpAny_field oV uv (x:=vu) rfl (ab (wpAny_field oV uv (x:= .none) rfl (ai ?_)))))));refine ab (slicePart_none ?_);show wpAny _ _ (if ((1:Int)==0)=true then _ else _) _ _ s;rw[aj (by decide)]
 refine ab (Er pl (ab (Er pu (ab (ai ?_)))));show wpAny _ _ (match Builtin.Slice.sliceAdjust lo hi 1 (n:Int) with|(lo,hi)=>pure (lo,(1:Int),Builtin.Slice.slicePlaces lo hi 1)) _ _ s;rw[Og lo hi n];show wpAny _ _ (pure (((a6 n 0 lo:Nat):Int),(1:Int),Builtin.Slice.slicePlaces ((a6 n 0 lo:Nat):Int) ((a6 n n hi:Nat):Int) 1)) _ _ s;rw[Oh];exact ai h
theorem Pt (xs:Array Value) (i k:Nat):((List.range k).filterMap fun(m:Nat)=>xs[((i:Int)+(m:Int) * 1).toNat]?).toArray=((xs.toList.drop i).take k).toArray:=by
 have e:(fun(m:Nat)=>xs[((i:Int)+(m:Int) * 1).toNat]?)=fun m=>xs[i+m]?:=by
  funext m
  have:((i:Int)+(m:Int) * 1).toNat=i+m:=by omega
  rw[this]
 rw[e];have:=pick_run xs i k;rw[List.filterMap_map]at this;have e2:((fun x=>xs[x]?) ∘ fun x=>i+x)=fun m=>xs[i+m]?:=rfl;rw[e2]at this;rw[this]
theorem Nu {t:Addr}{Q:Value->Shared->Prop} (ht:IsTup s.heap t items) (hs:s.heap.IsSliceOf sl vl vu .none) (pl:IsPart vl lo) (pu:IsPart vu hi)
  (hw : ¬ (a6 items.size 0 lo=0/\a6 items.size items.size hi=items.size))
  (h:Q (.ref s.heap.objs.size) { s with heap:=s.heap.push { cls:= .type "tuple",data:= .seq ((items.toList.drop (a6 items.size 0 lo)).take (a6 items.size items.size hi - a6 items.size 0 lo)).toArray } })
  (hsz:items.size<=sizeLine):wpAny (model prog w) A (getItem (.ref t) (.ref sl)) Q E s:=by
 have wK:sizeOk (.seq ((items.toList.drop (a6 items.size 0 lo)).take (a6 items.size items.size hi - a6 items.size 0 lo)).toArray):=by
  show((items.toList.drop (a6 items.size 0 lo)).take (a6 items.size items.size hi - a6 items.size 0 lo)).toArray.size<=sizeLine;rw[bY,c4,mf,d7];omega
 have hj:a6 items.size items.size hi<=items.size:=RH _ _ (ay _) hi;obtain⟨os,oV,xw,uv⟩:=id hs;have Cd:s.TypeIs (.ref sl) "slice" :=⟨os,oV,xw⟩;unfold getItem
 try with_reducible refine fb ?_
 first|refine ab (ai ?_)|skip
 refine ab (wpAny_sequenceKey ht.typeIs (by decide) ?_)
 refine ab (yF (name:=Str.ofString "__getitem__") ht.typeIs vh
  (jS vh ht.typeIs entry_tuple_getitem ?_ (args_tuple_getitem _ _)))
 show wpAny _ _ (Builtin.Tuple.tupleItemsOf (.ref t) >>= _) _ _ s;refine ab (tupleItemsOf_ ht ?_);refine ab (nJ Cd ?_);rw[ax (by decide)]
 refine ab (Ec hs pl pu ?_);have xx : ¬ ((((a6 items.size 0 lo:Nat):Int)==0 && (1:Int)==1 && (a6 items.size items.size hi - a6 items.size 0 lo)==items.size)=true):=by
  intro q;rw[eS,eS]at q;have q1:((a6 items.size 0 lo:Nat):Int)=0:=eq_of_beq q.1.1;have q2:a6 items.size items.size hi - a6 items.size 0 lo=items.size:=eq_of_beq q.2;exact hw ⟨by omega,by omega⟩
 show wpAny _ _ (if (((a6 items.size 0 lo:Nat):Int)==0 && (1:Int)==1 && (a6 items.size items.size hi - a6 items.size 0 lo)==items.size)=true then _ else _) _ _ s;rw[aj xx,Pt]
 first
  |exact ab (m:=Builtin.Tuple.tupleExact _) (iD (ai ⟨_,rfl,ai h⟩) wK)
  |exact ab (m:=Builtin.Tuple.tupleExact _) (iD (ab (ai (ai ⟨_,rfl,ai h⟩))) wK)
  |exact ab (ab (m:=Builtin.Tuple.tupleExact _) (iD (ai (ai ⟨_,rfl,ai h⟩)) wK))
  |exact ab (ab (m:=Builtin.Tuple.tupleExact _) (iD (ai ⟨_,rfl,ai h⟩) wK))
end HT
namespace L2
open PySem PySem.Spec PyProof.Rows
abbrev TO:=St->Hp->(Option Int->Hp->Prop)->Prop
def PO (X:Cx) (e:Option Expr) (t:TO):Prop:=
 ∀ (pins:List (Addr×Obj)) (s:Shared) (σ:St) (H:Hp) (Q:Option Int->Hp->Prop),Inv X pins σ H s->t σ H Q ->
  wpAny (model X.prog X.w) X.A (evalPart e X.env) (fun u s'=>∃o H',Inv X pins σ H' s'/\IsPart u o/\Q o H') X.xe s
def Qy:TO:=fun _ H Q=>Q none H
def Tp (t:TE):TO:=fun σ H Q=>t σ H fun x H1=>∃i,x = .int i/\Q (some i) H1
section
variable{lo hi:Option Expr}{tl th:TO}{p2:Pos}
theorem j0:PO X none Qy:=by
 intro pins s σ H Q I h;rw[evalPart_none];exact ai ⟨none,H,I,.none,h⟩
theorem j3 (h:PE X e te):PO X (some e) (Tp te):=by
 intro pins s σ H Q I hw;rw[evalPart_some];refine aH (h pins s σ H _ I hw) fun u s1 ⟨x,H1,I1,r1,q1⟩=>?_;obtain⟨i,rfl,q⟩:=q1;obtain⟨t,rfl⟩:=r1;exact⟨some i,H1,I1,.int i t,q⟩
def rB (X:Cx) (r:V->Option Int->Option Int->Hp->VK->Prop):Prop:=
 ∀ (pins:List (Addr×Obj)) (s:Shared) (σ:St) (H:Hp) (x:V) (v vl vu:Value) (lo hi:Option Int) (sl:Addr) (Q:VK),Inv X pins σ H s->RelV x v->s.heap.IsSliceOf sl vl vu .none->IsPart vl lo->IsPart vu hi->r x lo hi H Q ->
  ∃T id,typeLookup (.type T) "__getitem__" = pure (some (.builtin id))/\s.TypeIs v T/\wpAny (model X.prog X.w) X.A (getItem v (.ref sl)) (EP X pins σ Q) X.xe s
def V5 (r:V->Option Int->Option Int->Hp->VK->Prop) (te:TE) (tl th:TO):TE:=fun σ H Q=>te σ H fun x H1=>tl σ H1 fun l H2=>th σ H2 fun u H3=>r x l u H3 Q
theorem jY {r:V->Option Int->Option Int->Hp->VK->Prop} (hr:rB X r) (he:PE X e te) (hl:PO X lo tl) (hu:PO X hi th):PE X (.Subscript e (.Slice lo hi none p2) pos) (V5 r te tl th):=by
 intro pins s σ H Q I h;refine Subscript_ (aH (he pins s σ H _ I h) fun v s1 ⟨x,H1,I1,r1,q1⟩=>?_);refine wpAny_Slice (aH (hl pins s1 σ H1 _ I1 q1) fun vl s2 ⟨l,H2,I2,pl,q2⟩=>aH (hu pins s2 σ H2 _ I2 q2) fun vu s3 ⟨u,H3,I3,pu,q3⟩=>?_);rw[evalPart_none];refine ai ?_;have I4:Inv X pins σ H3 { s3 with heap:=s3.heap.push { cls:= .type "slice",data:= .fields #[vl,vu,.none] } }:=I3.kept (t':=s3.toks) fun b ob q=>bc _ q;obtain⟨T,id,hT,ht,hg⟩:=hr pins { s3 with heap:=s3.heap.push { cls:= .type "slice",data:= .fields #[vl,vu,.none] } } σ H3 x v vl vu l u s3.heap.objs.size Q I4 r1 (Heap.IsSliceOf.new ..) pl pu q3;show wpAny (model X.prog X.w) X.A (subscriptTail e (.Slice lo hi none p2) v (.ref s3.heap.objs.size)) (EP X pins σ Q) X.xe { s3 with heap:=s3.heap.push { cls:= .type "slice",data:= .fields #[vl,vu,.none] } };exact tail_any (ops:= [.ref s3.heap.objs.size,v]) ht hT hg (by with_unfolding_all rfl)
def fu (xs:List V) (lo hi:Option Int):List V:=(xs.drop (HT.a6 xs.length 0 lo)).take (HT.a6 xs.length xs.length hi - HT.a6 xs.length 0 lo)
theorem Ek (xs:List V) (lo hi:Option Int):(fu xs lo hi).length<=xs.length:=by
 unfold fu;rw[c4,mf];omega
def US (K:PySem.W.Frag):V->Option Int->Option Int->Hp->VK->Prop:=fun x lo hi H Q=>∃a xs,x = .ref a/\ao K H a xs /\
 ¬ (HT.a6 xs.length 0 lo=0/\HT.a6 xs.length xs.length hi=xs.length) /\ ∀p,H p=none->Q (.ref p) (upd H p (.tup (fu xs lo hi)))
theorem RI:rB X (US X.K):=by
 intro pins s σ H x v vl vu lo hi sl Q I rx hs pl pu h;obtain⟨a,xs,rfl,hx,hw,q⟩:=h;cases rx
 obtain⟨its,r,ht,hz⟩:=I.tuple hx;have hlen:its.toArray.size=xs.length:=by rw[bY];exact r.length.symm
 refine⟨"tuple",_,vh.lookup,ht.typeIs,?_⟩;refine HT.Nu ht hs pl pu (by rw[hlen];exact hw) ?_ (by rw[hlen];exact hz)
 rw[hlen];refine⟨.ref s.heap.objs.size,_,I.laid (t':=s.toks) (o:= .tup (fu xs lo hi)) (fun b ob q=>bc _ q) (ay _) ?_,rfl,q _ (I.aq.fresh (ay _))⟩;exact⟨cL (Ek xs lo hi) hz,_,(r.drop (HT.a6 xs.length 0 lo)).take (HT.a6 xs.length xs.length hi - HT.a6 xs.length 0 lo),lH.new _ _⟩
def Tq (K:PySem.W.Frag):R2:=fun x y H Q=>∃a b xs ys,x = .ref a/\y = .ref b/\ao K H a xs/\ao K H b ys/\xs ≠ []/\xs.length+ys.length<=sizeLine /\
 (ys = []->Q (.ref a) H)/\(ys ≠ [] -> ∀p,H p=none->Q (.ref p) (upd H p (.tup (xs++ys))))
theorem Vals.Ab (r:Vals xs us):us = [] ↔ xs = []:=by
 cases r with
 |nil=>simp
 |cons _ _=>simp
theorem Qz:b8 X (binaryOp .Add) (Tq X.K):=by
 intro pins s σ H x y v u Q I rx ry h;obtain⟨a,b,xs,ys,rfl,rfl,ha,hb,hx,hz,q1,q2⟩:=h;cases rx
 cases ry
 obtain⟨its,r1,p1,_⟩:=I.tuple ha;obtain⟨jA,r2,p2,_⟩:=I.tuple hb;refine HT.Qw p1 p2 (fun z=>hx (r1.Ab.mp z)) (fun z=>⟨.ref a,H,I,rfl,q1 (r2.Ab.mp z)⟩) (fun z=>?_) (by rw[<-r1.length,<-r2.length];exact hz)
 refine⟨.ref s.heap.objs.size,_,I.laid (t':=s.toks) (o:= .tup (xs++ys)) (fun b ob q=>bc _ q) (ay _) ?_,rfl,q2 (fun w=>z (r2.Ab.mpr w)) _ (I.aq.fresh (ay _))⟩;exact⟨by rw[eO];exact hz,_,r1.append r2,lH.new _ _⟩
end
def kr (n:Nat) (i:Int):Option Nat:=if 0<=i then (if i < n then some i.toNat else none) else if -(n:Int)<=i then some (i+n).toNat else none
def eQ {α:Type} (xs:List α) (i:Int):Option α:=(kr xs.length i).bind fun j=>xs[j]?
theorem GH {i:Int} (h:kr n i=some j):seqIndex? i n=some j/\j < n /\ -(n:Int)<=i/\i < n:=by
 unfold kr at h
 by_cases h0:0<=i
 ·rw[ax h0]at h
  by_cases h1:i < n
  ·rw[ax h1]at h
   have e:i.toNat=j:=e7 h;exact⟨by rw[DI h0 h1,e],by omega,by omega,h1⟩
  ·rw[aj h1]at h;cases h
 ·rw[aj h0]at h
  by_cases h1 : -(n:Int)<=i
  ·rw[ax h1]at h
   have e:(i+n).toNat=j:=e7 h;exact⟨by rw[seqIndex_neg (by omega) h1,e],by omega,h1,by omega⟩
  ·rw[aj h1]at h;cases h
theorem Ac {α:Type}{xs:List α}{i:Int}{v:α} (h:eQ xs i=some v):∃j,seqIndex? i xs.length=some j/\xs[j]? = some v/\j < xs.length /\ -(xs.length:Int)<=i/\i < xs.length:=by
 unfold eQ at h;cases e:kr xs.length i with
 |none=>rw[e]at h;cases h
 |some j =>
  rw[e]at h;obtain⟨h1,h2,h3,h4⟩:=GH e;exact⟨j,h1,h,h2,h3,h4⟩
theorem bQ {α:Type}{xs:List α}{v:α} (h:xs[j]? = some v):eQ xs (j:Int)=some v:=by
 have hj:j < xs.length:=(cZ.mp h).1;have e:kr xs.length (j:Int)=some j:=by
  unfold kr;rw[ax (by omega),ax (by omega)];simp
 unfold eQ;rw[e];exact h
def QA (b:Expr):Prop:= ∀o i,subscripted b false o i=operate [o,i] (getItem o i)
def jK (X:Cx) (r:R2):Prop:=
 ∀ (value slice:Expr) (pins:List (Addr×Obj)) (s:Shared) (σ:St) (H:Hp) (x y:V) (v u:Value) (Q:VK),Inv X pins σ H s->RelV x v->RelV y u->r x y H Q ->
  subscripted slice false v u=operate [v,u] (getItem v u)->wpAny (model X.prog X.w) X.A (subscriptTail value slice v u) (EP X pins σ Q) X.xe s
def Kd (X:Cx) (id:String) (r:V->List V->Hp->VK->Prop):Prop:=
 ∀ (pins:List (Addr×Obj)) (s:Shared) (σ:St) (H:Hp) (x:V) (xs:List V) (v:Value) (us:List Value) (Q:VK),Inv X pins σ H s->RelV x v->Vals xs us->r x xs H Q ->
  wpAny (model X.prog X.w) X.A (call (.builtin id) (v::us)) (EP X pins σ Q) X.xe s
section
variable{a b:Expr}{tb:TE}
theorem jK.or {r r':R2} (h:jK X r) (h':jK X r'):jK X (fun x y H Q=>r x y H Q\/r' x y H Q):=by
 intro value slice pins s σ H x y v u Q I rx ry q hs;rcases q with q|q
 ·exact h value slice pins s σ H x y v u Q I rx ry q hs
 ·exact h' value slice pins s σ H x y v u Q I rx ry q hs
theorem aM {r:R2} (hr:jK X r) (ha:PE X a ta) (hb:PE X b tb) (hs:QA b):PE X (.Subscript a b pos) (xt r ta tb):=by
 intro pins s σ H Q I h;exact Subscript_ (Bq ha hb I h fun v u s2 x y H2 I2 rx ry q=>hr a b pins s2 σ H2 x y v u Q I2 rx ry q (hs _ _))
def m4 (K:PySem.W.Frag):R2:=fun x y H Q=>∃p xs i v,x = .ref p/\y = .int i/\ag K H p xs/\eQ xs i=some v/\Q v H
def Bv (K:PySem.W.Frag):R2:=fun x y H Q=>∃p xs i v,x = .ref p/\y = .int i/\ao K H p xs/\eQ xs i=some v/\Q v H
def Jh:R2:=fun x y H Q=>∃z i c,x = .str z/\y = .int i/\z.length<=sizeLine/\eQ z.cps.toList i=some c/\Q (.str ⟨#[c]⟩) H
theorem cq:jK X (m4 X.K):=by
 intro value slice pins s σ H x y v u Q I rx ry h hs;obtain⟨p,xs,i,z,rfl,rfl,hq,he,q⟩:=h;cases rx
 obtain⟨t,rfl⟩:=ry;obtain⟨its,r,pl,hz⟩:=I.list hq;obtain⟨j,h1,h2,h3,h4,h5⟩:=Ac he;obtain⟨w,ew,gj⟩:=r.get h2;have hl:=r.length;have hn:=og;have fin:EP X pins σ Q w s:=⟨z,H,I,gj,q⟩
 by_cases h0:0<=i
 ·have hj:i.toNat=j:=by
   rw[DI h0 h5]at h1;exact e7 h1
  exact item_listR pl.isList h0 (by omega) (by rw[hj];simpa using ew) fin hs
 ·have hj:(i+(its.toArray.size:Int)).toNat=j:=by
   rw[seqIndex_neg (by omega) h4]at h1
   rw[bY,<-hl];exact e7 h1
  exact subscriptTail_builtinR (x:=w) pl.isList.typeIs slot_list_getitem.lookup
   (wpAny_getItem_list_neg (Q:=fun r s'=>r=w/\EP X pins σ Q r s') pl.isList (by omega) (by rw[bY] <;> omega) (by omega) (by rw[hj];simpa using ew) ⟨rfl,fin⟩) hs
theorem bU:jK X (Bv X.K):=by
 intro value slice pins s σ H x y v u Q I rx ry h hs;obtain⟨p,xs,i,z,rfl,rfl,hq,he,q⟩:=h;cases rx
 obtain⟨t,rfl⟩:=ry;obtain⟨its,r,pl,hz⟩:=I.tuple hq;obtain⟨j,h1,h2,h3,h4,h5⟩:=Ac he;obtain⟨w,ew,gj⟩:=r.get h2;have hl:=r.length;have hn:=og;have fin:EP X pins σ Q w s:=⟨z,H,I,gj,q⟩;exact subscriptTail_builtinR (x:=w) pl.typeIs slot_tuple_getitem.lookup
  (getItem_tuple (j:=j) (Q:=fun r s'=>r=w/\EP X pins σ Q r s') pl (by omega) (by omega) (by rw[bY,<-hl];exact h1) (by simpa using ew) ⟨rfl,fin⟩) hs
theorem wo:jK X Jh:=by
 intro value slice pins s σ H x y v u Q I rx ry h hs;obtain⟨z,i,c,rfl,rfl,hz,he,q⟩:=h;obtain⟨t,rfl⟩:=rx;obtain⟨t',rfl⟩:=ry;obtain⟨j,h1,h2,h3,h4,h5⟩:=Ac he;have hl:z.cps.toList.length=z.length:=by simp[Str.length]
 rw[hl]at h1 h4 h5;have hn:=og;exact tail_any (su s z t) slot_str_getitem.lookup (getItem_str (c:=c) (by
  have e1:decide (i < -(2 ^ 63:Int))=false:=cm (by omega)
  have e2:decide (i ≥ 2 ^ 63)=false:=cm (by omega)
  rw[e1,e2,yG]) (by rw[h1];simpa using h2) ⟨.str ⟨#[c]⟩,H,I.tok _,⟨_,rfl⟩,q⟩) hs
def Ke (K:PySem.W.Frag):R2:=fun x y H Q=>m4 K x y H Q\/Bv K x y H Q\/Jh x y H Q
theorem AL:jK X (Ke X.K):=cq.or (bU.or wo)
theorem Oi (its:List Value) (n j:Nat) (u:Value):Obj.mapSeq (·.setIfInBounds j u) { cls:= .type "list",data:= .seq its.toArray n }={ cls:= .type "list",data:= .seq (its.set j u).toArray n }:=by
 simp[Obj.mapSeq]
theorem Inv.lst {pins:List (Addr×Obj)}{σ:St}{H:Hp}{s:Shared}{p:Addr}{xs:List V} (I:Inv X pins σ H s) (h:H p=some (.lst xs)) :
  ∃ (its:List Value) (n:Nat),Vals xs its/\s.heap.get? p=some { cls:= .type "list",data:= .seq its.toArray n }/\xs.length<=sizeLine:=by
 obtain⟨z,its,n,r,e⟩:=I.aq p _ h;exact⟨its,n,r,e,z⟩
theorem Inv.RJ {its':List Value}{n':Nat}{f:Obj->Obj} (I:Inv X pins σ H s) (h:H p=some (.lst xs))
  (ho:s.heap.get? p=some { cls:= .type "list",data:= .seq its.toArray n }) (hf:f { cls:= .type "list",data:= .seq its.toArray n }={ cls:= .type "list",data:= .seq its'.toArray n' }) (r:Vals ys its') (hz:ys.length<=sizeLine) (t:Nat) :
  Inv X pins σ (upd H p (.lst ys)) { s with heap:=s.heap.update p f,toks:=t }:=by
 have e:(s.heap.update p f).get? p=some { cls:= .type "list",data:= .seq its'.toArray n' }:=by
  rw[yH f ho (by rw[hf] <;> rfl),hf]
 refine I.write (x:=p) (e:=p) (by rw[h];trivial) (.inl rfl) (fun b u hb q=>(sx _ _ (bb hb)).trans q) ⟨_,e⟩ ?_
 exact⟨hz,its',n',r,e⟩
def Tr:V->V->V->Hp->(Hp->Prop)->Prop:=fun o i v H Q=>∃p xs k j,o = .ref p/\i = .int k/\H p=some (.lst xs)/\kr xs.length k=some j/\Q (upd H p (.lst (xs.set j v)))
theorem set_list:I0 X Tr:=by
 intro pins s σ H o i v ov iv u Q I ro ri rv h;obtain⟨p,xs,k,j,rfl,rfl,hp,hj,q⟩:=h;cases ro
 obtain⟨t,rfl⟩:=ri;obtain⟨its,n,r,ho,hz⟩:=I.lst hp;obtain⟨h1,h2,h3,h4⟩:=GH hj;have hl:=r.length;have hn:=og;have I':Inv X pins σ (upd H p (.lst (xs.set j v))) { s with heap:=s.heap.update p (Obj.mapSeq (·.setIfInBounds j u)) }:=
  I.RJ hp ho (Oi its n j u) (r.set rv j) (by rw[yI];exact hz) s.toks
 by_cases h0:0<=k
 ·have hk:k.toNat=j:=by
   rw[DI h0 h4]at h1;exact e7 h1
  exact PySem.W.ki_setAt ho h0 (by omega) (by rw[bY,<-hl];exact h4) (by rw[hk];exact⟨_,I',q⟩)
 ·have hk:(k+(its.toArray.size:Int)).toNat=j:=by
   rw[seqIndex_neg (by omega) h3]at h1
   rw[bY,<-hl];exact e7 h1
  exact PySem.W.ki_setBack ho (by omega) (by rw[bY,<-hl];exact h3) (by omega) (by rw[hk];exact⟨_,I',q⟩)
theorem NL (lo hi:Option Int) (n:Nat):(sliceBounds lo hi none n).1=((HT.a6 n 0 lo:Nat):Int)/\(sliceBounds lo hi none n).2.1=((HT.a6 n n hi:Nat):Int)/\(sliceBounds lo hi none n).2.2=1:=by
 refine⟨?_,?_,rfl⟩
 ·cases lo with
  |none=>simp[sliceBounds,HT.a6]
  |some i =>
   simp only[sliceBounds,HT.a6,Option.getD_none,show(1:Int) > 0 by decide,gN]
   by_cases h:i < 0
   ·simp only[h,gN] <;> omega
   ·simp only[h,fc] <;> omega
 ·cases hi with
  |none=>simp[sliceBounds,HT.a6]
  |some i =>
   simp only[sliceBounds,HT.a6,Option.getD_none,show(1:Int) > 0 by decide,gN]
   by_cases h:i < 0
   ·simp only[h,gN] <;> omega
   ·simp only[h,fc] <;> omega
theorem NB (its:List Value) (lo hi:Option Int):slicePick its.toArray lo hi none=((its.drop (HT.a6 its.length 0 lo)).take (HT.a6 its.length its.length hi - HT.a6 its.length 0 lo)).toArray:=by
 obtain⟨h1,h2,h3⟩:=NL lo hi its.toArray.size;unfold slicePick;rw[h1,h2,h3];simp only[sliceRange_one,pick_run,bY] <;> rfl
def Ji (K:PySem.W.Frag):V->Option Int->Option Int->Hp->VK->Prop:=fun x lo hi H Q=>∃a xs,x = .ref a/\ag K H a xs /\ ∀p,H p=none->Q (.ref p) (upd H p (.lst (fu xs lo hi)))
theorem wd:rB X (Ji X.K):=by
 intro pins s σ H x v vl vu lo hi sl Q I rx hs pl pu h;obtain⟨a,xs,rfl,hx,q⟩:=h;cases rx
 obtain⟨its,r,ht,hz⟩:=I.list hx;have hlen:=r.length;refine⟨"list",_,slot_list_getitem.lookup,ht.isList.typeIs,?_⟩;refine wpAny_getItem_list_slice ht.isList hs pl pu .none (by simp) ?_ (by rw[bY] <;> omega)
 rw[NB,<-hlen];refine⟨.ref s.heap.objs.size,_,I.laid (t':=s.toks) (o:= .lst (fu xs lo hi)) (fun b ob q=>bc _ q) (ay _) ?_,rfl,q _ (I.aq.fresh (ay _))⟩;exact⟨cL (Ek xs lo hi) hz,_,0,(r.drop (HT.a6 xs.length 0 lo)).take (HT.a6 xs.length xs.length hi - HT.a6 xs.length 0 lo),cw _ rfl⟩
def lE:V->Bool
 |.aD=>true
 |.bl _=>true
 |.int _=>true
 |.str _=>true
 |_=>false
def nq:V->V->Bool
 |.aD,.aD=>true
 |.bl a,.bl b=>a==b
 |.bl a,.int b=>(if a then 1 else 0)==b
 |.int a,.bl b=>a==(if b then 1 else 0)
 |.int a,.int b=>a==b
 |.str a,.str b=>a==b
 |_,_=>false
theorem RK {x:V}{v:Value} (ry:RelV y u) (rx:RelV x v) (fy:lE y=true) (fx:lE x=true):SeqAt.EqAt A s u v (nq y x):=by
 cases y with
 |aD =>
  cases ry
  cases x with
  |aD=>cases rx;exact SeqAt.EqAt.same _
  |bl b=>cases rx;exact SeqAt.EqAt.none_bool b
  |int b=>obtain⟨t,rfl⟩:=rx;exact SeqAt.EqAt.none_int b t
  |str b=>obtain⟨t,rfl⟩:=rx;exact SeqAt.EqAt.none_str b t
  |_=>exact absurd (show false=true from fx) cz
 |bl a =>
  cases ry
  cases x with
  |aD=>cases rx;exact SeqAt.EqAt.bool_none a
  |bl b=>cases rx;exact SeqAt.EqAt.bool_bool a b
  |int b=>obtain⟨t,rfl⟩:=rx;exact SeqAt.EqAt.bool_int a b t
  |str b=>obtain⟨t,rfl⟩:=rx;exact SeqAt.EqAt.bool_str a b t
  |_=>exact absurd (show false=true from fx) cz
 |int a =>
  obtain⟨t',rfl⟩:=ry;cases x with
  |aD=>cases rx;exact SeqAt.EqAt.int_none a t'
  |bl b=>cases rx;exact SeqAt.EqAt.int_bool a t' b
  |int b=>obtain⟨t,rfl⟩:=rx;exact SeqAt.EqAt.int_int a t' b t
  |str b=>obtain⟨t,rfl⟩:=rx;exact SeqAt.EqAt.int_str a t' b t
  |_=>exact absurd (show false=true from fx) cz
 |str a =>
  obtain⟨t',rfl⟩:=ry;cases x with
  |aD=>cases rx;exact SeqAt.EqAt.str_none a t'
  |bl b=>cases rx;exact SeqAt.EqAt.str_bool a t' b
  |int b=>obtain⟨t,rfl⟩:=rx;exact Mp a t' b t
  |str b=>obtain⟨t,rfl⟩:=rx;exact SeqAt.EqAt.str_str a t' b t
  |_=>exact absurd (show false=true from fx) cz
 |_=>exact absurd (show false=true from fy) cz
def hU (x:V) (u:Value):Bool:=match u with
 |.none=>nq .aD x
 |.bool b=>nq (.bl b) x
 |.int i _=>nq (.int i) x
 |.str z _=>nq (.str z) x
 |_=>false
theorem Hz {x:V} (r:RelV y u) (f:lE y=true):hU x u=nq y x:=by
 cases y with
 |aD=>cases r;rfl
 |bl b=>cases r;rfl
 |int i=>obtain⟨t,rfl⟩:=r;rfl
 |str z=>obtain⟨t,rfl⟩:=r;rfl
 |_=>exact absurd (show false=true from f) cz
theorem sR {x:V}:∀ {xs:List V}{us:List Value},Vals xs us->xs.all lE=true->us.any (hU x)=xs.any fun y=>nq y x
 |_,_,.nil,_=>rfl
 |y::xs,u::us,.cons r t,f=>by
  rw[List.all_cons,eS]at f;rw[nK,nK,Hz r f.1,sR t f.2]
theorem sO {A:Around}{s:Shared}{x:V}{v:Value} (rx:RelV x v) (fx:lE x=true):∀ {xs:List V}{us:List Value},Vals xs us->xs.all lE=true -> ∀u∈us,SeqAt.EqAt A s u v (hU x u)
 |_,_,.nil,_=>fun u hu=>by cases hu
 |y::xs,u::us,.cons r t,f=>fun u' hu=>by
  rw[List.all_cons,eS]at f;rcases bx.mp hu with rfl|hu
  ·rw[Hz r f.1];exact RK r rx f.1 fx
  ·exact sO rx fx t f.2 u' hu
def oW (x:V) (xs:List V):Bool:=xs.any fun y=>nq y x
def xy (K:PySem.W.Frag) (neg:Bool):R2:=fun x y H Q=>∃p xs,y = .ref p/\(ag K H p xs\/ao K H p xs)/\lE x=true/\xs.all lE=true/\Q (.bl (if neg then !oW x xs else oW x xs)) H
theorem ER:b8 X (compareOp .In) (xy X.K false):=by
 intro pins s σ H x y v u Q I rx ry h;obtain⟨p,xs,rfl,hq,fx,fs,q⟩:=h;cases ry
 rcases hq with hq|hq
 ·obtain⟨its,r,pl,hz⟩:=I.list hq
  refine SeqAt.in_listAt (hU x) pl.isList (fun w hw=>sO rx fx r fs w (by simpa using hw)) ⟨.bl _,H,I,rfl,?_⟩
  rw[show its.toArray.any (hU x)=its.any (hU x) by simp,sR r fs]
  exact q
 ·obtain⟨its,r,pl,hz⟩:=I.tuple hq
  refine SeqAt.in_tupleAt (hU x) pl (fun w hw=>sO rx fx r fs w (by simpa using hw)) ⟨.bl _,H,I,rfl,?_⟩
  rw[show its.toArray.any (hU x)=its.any (hU x) by simp,sR r fs]
  exact q
theorem Eh:b8 X (compareOp .NotIn) (xy X.K true):=by
 intro pins s σ H x y v u Q I rx ry h;obtain⟨p,xs,rfl,hq,fx,fs,q⟩:=h;cases ry
 rcases hq with hq|hq
 ·obtain⟨its,r,pl,hz⟩:=I.list hq
  refine SeqAt.notIn_listAt (hU x) pl.isList (fun w hw=>sO rx fx r fs w (by simpa using hw)) ⟨.bl _,H,I,rfl,?_⟩
  rw[show its.toArray.any (hU x)=its.any (hU x) by simp,sR r fs]
  exact q
 ·obtain⟨its,r,pl,hz⟩:=I.tuple hq
  refine SeqAt.notIn_tupleAt (hU x) pl (fun w hw=>sO rx fx r fs w (by simpa using hw)) ⟨.bl _,H,I,rfl,?_⟩
  rw[show its.toArray.any (hU x)=its.any (hU x) by simp,sR r fs]
  exact q
theorem cH:dq X (.builtin "len") (fun xs H Q=>∃p ys,xs = [.ref p]/\(ag X.K H p ys\/ao X.K H p ys)/\Q (.int ys.length) H):=by
 intro pins s σ H xs us Q I r h;obtain⟨p,ys,rfl,hq,q⟩:=h;obtain⟨u,rfl,rx⟩:=vals1 r;cases rx
 have hn:=og;rcases hq with hq|hq
 ·obtain⟨its,r',pl,hz⟩:=I.list hq
  have hlen:=r'.length;exact Calls.call_len_list pl.isList (by simp only[bY] <;> omega) ⟨.int ys.length,H,I.tok _,⟨s.toks+1,by rw[bY,hlen]⟩,q⟩
 ·obtain⟨its,r',pl,hz⟩:=I.tuple hq
  have hlen:=r'.length;exact len_tuple pl (by simp only[bY] <;> omega) ⟨.int ys.length,H,I.tok _,⟨s.toks+1,by rw[bY,hlen]⟩,q⟩
theorem zg:dq X (.builtin "len") (fun xs H Q=>∃z,xs = [.str z]/\z.length<=sizeLine/\Q (.int z.length) H):=by
 intro pins s σ H xs us Q I r h;obtain⟨z,rfl,hz,q⟩:=h;obtain⟨u,rfl,t,rfl⟩:=vals1 r;have hn:=og;exact len_str (by omega) ⟨.int z.length,H,I.tok _,⟨_,rfl⟩,q⟩
theorem pX:dq X (.type "list") (fun xs H Q=>∃p ys,xs = [.ref p]/\(ag X.K H p ys\/ao X.K H p ys) /\ ∀l,H l=none->Q (.ref l) (upd H l (.lst ys))):=by
 intro pins s σ H xs us Q I r h;obtain⟨p,ys,rfl,hq,q⟩:=h;obtain⟨u,rfl,rx⟩:=vals1 r;cases rx
 have fin:∀ (its:List Value),Vals ys its->ys.length<=sizeLine -> ∀ (h':Heap) (c':Nat),(∀b o',s.heap.get? b=some o'->h'.get? b=some o') ->
   h'.get? s.heap.objs.size=some { cls:= .type "list",dict:=none,data:= .seq its.toArray c',slots:= #[] }->EP X pins σ Q (.ref s.heap.objs.size) { s with heap:=h' }:=fun its r' hz h' c' kp e =>
  ⟨.ref s.heap.objs.size,_,I.laid (t':=s.toks) kp (ay _) (show ba X.prog X.w _ h' _ (.lst ys) from⟨hz,its,c',r',e⟩),rfl,q _ (I.aq.fresh (ay _))⟩
 rcases hq with hq|hq
 ·obtain⟨its,r',pl,hz⟩:=I.list hq
  have hlen:=r'.length;obtain⟨o,ho,hc,n,hd⟩:=pl.isList;exact call_list_seq p (.inl rfl) ho hc hd (fun h' c' kp e=>fin its r' hz h' c' kp e) (by simp only[bY] <;> omega)
 ·obtain⟨its,r',pl,hz⟩:=I.tuple hq
  have hlen:=r'.length;obtain⟨o,ho,hc,n,hd⟩:=pl;exact call_list_seq p (.inr rfl) ho hc hd (fun h' c' kp e=>fin its r' hz h' c' kp e) (by simp only[bY] <;> omega)
theorem mr:dq X (.type "tuple") (fun xs H Q=>∃p ys,xs = [.ref p]/\((ag X.K H p ys /\ ∀l,H l=none->Q (.ref l) (upd H l (.tup ys)))\/(ao X.K H p ys/\Q (.ref p) H))):=by
 intro pins s σ H xs us Q I r h;obtain⟨p,ys,rfl,h⟩:=h;obtain⟨u,rfl,rx⟩:=vals1 r;cases rx
 rcases h with⟨hq,q⟩|⟨hq,q⟩
 ·obtain⟨its,r',pl,hz⟩:=I.list hq
  have hlen:=r'.length;refine call_tuple_list pl.isList (fun h' kp=>?_) (by simp only[bY] <;> omega)
  have I1:Inv X pins σ H { s with heap:=h' }:=I.kept (t':=s.toks) kp;have I2:Inv X pins σ (upd H h'.objs.size (.tup ys)) { s with heap:=h'.push { cls:= .type "tuple",data:= .seq its.toArray } }:=
   I1.laid (t':=s.toks) (fun b o e=>bc _ e) (ay _) (show ba X.prog X.w _ _ _ (.tup ys) from⟨hz,its,r',lH.new _ _⟩)
  exact⟨.ref h'.objs.size,_,I2,rfl,q _ (I1.aq.fresh (ay _))⟩
 ·obtain⟨its,r',pl,hz⟩:=I.tuple hq
  exact call_tuple_same pl ⟨.ref p,H,I,rfl,q⟩
def Kf (K:PySem.W.Frag) (T:String) (x:V) (H:Hp):Prop:=match x with
 |.str _=>T = "str"
 |.int _=>T = "int"
 |.ref p=>(T = "list" /\ ∃xs,ag K H p xs)\/(T = "tuple" /\ ∃o,K.lookup p=some o/\o.cls = .type "tuple" /\ o.dict=none) \/
   (T = "dict" /\ ((∃kvs,H p=some (.dK kvs)) \/ ∃kvs,H p=some (.dT kvs)))\/(T = "set" /\ ∃S n,H p=some (.set S n))\/(T = "tuple" /\ ∃xs,Rd H p (.tup xs))
 |_=>False
theorem RL {x:V}{v:Value} (I:Inv X pins σ H s) (r:RelV x v) (ty:Kf X.K T x H) :
  s.TypeIs v T /\ ∀a,v = .ref a -> ∃ob,s.heap.get? a=some ob/\ob.dict=none:=by
 cases x with
 |str z =>
  obtain⟨t,rfl⟩:=r;cases (show T = "str" from ty)
  exact⟨su s z t,fun _ e=>nomatch e⟩
 |int i =>
  obtain⟨t,rfl⟩:=r;cases (show T = "int" from ty)
  exact⟨typeIs_int s i t,fun _ e=>nomatch e⟩
 |ref p =>
  cases r
  rcases ty with⟨rfl,xs,hq⟩|⟨rfl,o,hk,hc,hd⟩|⟨rfl,hk⟩|⟨rfl,S,n,hk⟩|⟨rfl,xs,hq⟩
  ·obtain⟨its,_,pl,_⟩:=I.list hq
   refine⟨pl.isList.typeIs,fun a e=>?_⟩;cases e
   obtain⟨o,n,e,c,hd,_⟩:=pl;exact⟨o,e,hd⟩
  ·refine⟨⟨o,I.dC p o hk,hc⟩,fun a e=>?_⟩
   cases e
   exact⟨o,I.dC _ o hk,hd⟩
  ·have z:∃o,s.heap.get? p=some o/\o.ExactDict:=by
    rcases hk with⟨kvs,hk⟩|⟨kvs,hk⟩
    ·obtain⟨_,_,_,_,o,_,_,e,ex,_⟩:=I.aq p _ hk
     exact⟨o,e,ex⟩
    ·obtain⟨_,_,_,_,o,_,_,e,ex,_⟩:=I.aq p _ hk
     exact⟨o,e,ex⟩
   obtain⟨o,e,ex⟩:=z;refine⟨⟨o,e,ex.1⟩,fun a e2=>?_⟩;cases e2
   exact⟨o,e,ex.2.1⟩
  ·obtain⟨o,_,_,_,e,ex,_⟩:=I.aq p _ hk
   refine⟨⟨o,e,ex.1⟩,fun a e2=>?_⟩;cases e2
   exact⟨o,e,ex.2.1⟩
  ·obtain⟨_,_,_,o,e,c,_,_,hd⟩:=hq.ok I.aq
   refine⟨⟨o,e,c⟩,fun a e2=>?_⟩;cases e2
   exact⟨o,e,hd⟩
 |_=>exact False.elim ty
def V6 (K:PySem.W.Frag) (T:String) (r:V->List V->Hp->VK->Prop) (to:TE) (t:TA):TE:=fun σ H Q=>to σ H fun x H1=>Kf K T x H1/\t σ H1 fun xs H2=>r x xs H2 Q
variable{o:Expr}{to:TE}{t:TA}{apos oB:Pos}{id:String}{r:V->List V->Hp->VK->Prop}
theorem j9 (pa:PlainAttrs T) (slot:Slot T name id) (V7:typeOf (.builtin id)=pure (.type "method_descriptor")) (hm:Kd X id r) (ho:PE X o to) (ha:PA X (e::es) t)
  (Ts:attributeBase o name X.env (eval o X.env)=eval o X.env:=by rfl)
  (UT:((backTo oB (starEach (e::es) X.env)).all (fun x=>!x.1) && (backToKw oB (keywordEach [] X.env)).all (fun x=>x.1.isSome)
   && decide ((e::es).length+([]:List Keyword).length+(if ([]:List Keyword).isEmpty then 0 else 1) < 30))=true:=by rfl)
  (Tt:(apos.endLine==oB.line)=true:=by rfl) (hs:starEach (e::es) X.env=(false,eval e X.env)::starEach es X.env:=by rfl) (RM:(backTo oB (starEach es X.env)).any (·.1)=false:=by rfl) :
  PE X (.Call (.Attribute o name apos) (e::es) [] oB) (V6 X.K T r to t):=by
 intro pins s σ H Q I h;refine wpAny_Call_method_late Ts UT Tt rfl (aH (ho pins s σ H _ I h) fun v s1 ⟨x,H1,I1,r1,ty,q1⟩=>?_);obtain⟨h1,h2⟩:=RL I1 r1 ty;refine⟨T,id,pa,slot,V7,h1,h2,?_⟩;have hA:=ha oB pins s1 σ H1 _ I1 q1;rw[hs]at hA ⊢;refine Calls.callWith_builtin (by show(false || (backTo oB (starEach es X.env)).any (·.1))=false;rw[RM] <;> rfl) (Calls.evalArgs_plain ?_)
 exact aH hA fun us s2 ⟨vs,H2,I2,r2,q2⟩=>hm pins s2 σ H2 x vs v us Q I2 r1 r2 q2
end
def xA (X:Cx) (id:String) (r:V->List V->Hp->VK->Prop):Prop:=
 ∀ (pins:List (Addr×Obj)) (s:Shared) (σ:St) (H:Hp) (x:V) (xs:List V) (v:Value) (us:List Value) (Q:VK),Inv X pins σ H s->RelV x v->Vals xs us->r x xs H Q ->
  wpAny (model X.prog X.w) X.A (call (.builtin id) (v::us)) (EP X pins σ Q) X.xe s
theorem Vals.one:∀ {x:V}{us:List Value},Vals [x] us -> ∃u,us = [u]/\RelV x u
 |_,_,.cons r .nil=>⟨_,rfl,r⟩
theorem Vals.two:∀ {x y:V}{us:List Value},Vals [x,y] us -> ∃u v,us = [u,v]/\RelV x u/\RelV y v
 |_,_,_,.cons r (.cons q .nil)=>⟨_,_,rfl,r,q⟩
theorem Vals.eraseIdx:∀ {xs:List V}{us:List Value} (i:Nat),Vals xs us->Vals (xs.eraseIdx i) (us.eraseIdx i)
 |_,_,_,.nil=>.nil
 |_,_,0,.cons _ t=>t
 |_,_,i+1,.cons r t=>.cons r (Vals.eraseIdx i t)
theorem ES {α:Type}:∀ (l:List α) (i:Nat),(l.eraseIdx i).length<=l.length
 |[],_=>ay _
 |_::_,0=>Nat.le_succ _
 |_::r,i+1=>Nat.succ_le_succ (ES r i)
section
variable{zs:List V}
theorem Inv.w4 {its':List Value}{f:Array Value->Array Value} (I:Inv X pins σ H s) (hH:H l=some (.lst xs))
  (e:s.heap.get? l=some { cls:= .type "list",data:= .seq its.toArray n }) (hf:f its.toArray=its'.toArray) (hv:Vals ys its') (hz:ys.length<=sizeLine) :
  Inv X pins σ (upd H l (.lst ys)) { s with heap:=s.heap.update l (Obj.mapSeq f),toks:=t' }:=by
 have q:=PySem.IsL.update e f;rw[hf]at q;refine I.write (x:=l) (e:=l) (by rw[hH];exact trivial) (.inl rfl) (fun b' u hb hu=>(sx s.heap (Obj.mapSeq f) (bb hb)).trans hu) ⟨_,q⟩ ?_
 exact⟨hz,its',_,hv,q⟩
theorem Inv.Jj (I:Inv X pins σ H s) (hv:Vals ys its) (hz:ys.length<=sizeLine) :
  Inv X pins σ (upd H s.heap.objs.size (.lst ys)) { s with heap:=s.heap.push { cls:= .type "list",data:= .seq its.toArray },toks:=t' }:=
 I.laid (fun _ _ q=>bc _ q) (ay _) ⟨hz,its,0,hv,cw _ rfl⟩
theorem Inv.fresh (I:Inv X pins σ H s):H s.heap.objs.size=none:=I.aq.fresh (ay _)
theorem Inv.oC (I:Inv X pins σ H s) (hH:H l=some (.lst xs)):xs.length<=sizeLine /\ ∃ (its:List Value) (n:Nat),Vals xs its/\xs.length=its.length/\s.heap.get? l=some { cls:= .type "list",data:= .seq its.toArray n }:=by
 obtain⟨z,its,n,r,e⟩:=I.aq l _ hH;exact⟨z,its,n,r,r.length,e⟩
theorem Pu (h:n<=sizeLine):Builtin.List.listTooLong n=false:=by
 unfold Builtin.List.listTooLong;exact cm (by omega)
end
def QB:V->List V->Hp->VK->Prop:=fun x vs H Q=>∃l xs y,x = .ref l/\vs = [y]/\H l=some (.lst xs)/\xs.length < sizeLine/\Q .aD (upd H l (.lst (xs ++ [y])))
theorem vD:xA X "list.append" QB:=by
 intro pins s σ H x vs v us Q I rx rv h;obtain⟨l,xs,y,rfl,rfl,hH,hz,q⟩:=h;cases rx
 obtain⟨u,rfl,ru⟩:=rv.one;obtain⟨z,its,n,r,hl,e⟩:=I.oC hH;refine nL F.slot_list_append ⟨_,e,rfl⟩ F.entry_list_append (F.args_list_append_2 _ _) (PySem.list_append l its.toArray n u (by rw[bY];omega)) ⟨e,?_⟩
 refine⟨.aD,_,I.w4 (its':=its ++ [u]) hH e (by simp) (r.append (.cons ru .nil)) ?_,rfl,q⟩
 rw[eO,yJ];omega
def QC:V->List V->Hp->VK->Prop:=fun x vs H Q=>∃l b xs zs,x = .ref l/\vs = [.ref b]/\H l=some (.lst xs)/\H b=some (.lst zs)/\xs.length+zs.length<=sizeLine/\Q .aD (upd H l (.lst (xs++zs)))
theorem OQ:xA X "list.extend" QC:=by
 intro pins s σ H x vs v us Q I rx rv h;obtain⟨l,b,xs,zs,rfl,rfl,hH,hB,hz,q⟩:=h;cases rx
 obtain⟨u,rfl,ru⟩:=rv.one;cases ru
 obtain⟨z,its,n,r,hl,e⟩:=I.oC hH;obtain⟨z2,jA,n2,r2,cY,e2⟩:=I.oC hB;have hsz:its.toArray.size+jA.toArray.size<=sizeLine:=by rw[bY,bY];omega
 have Tu : ¬ (!its.toArray.isEmpty && Builtin.List.listTooLong (its.toArray.size+jA.toArray.size))=true:=by
  rw[Pu hsz,DJ];exact cz
 refine nL F.slot_list_extend ⟨_,e,rfl⟩ F.entry_list_extend (F.args_list_extend_2 _ _)
  (AutoSeq1.list_extend_list_list_0 l its.toArray n b jA.toArray n2 Tu (by rw[bY];omega) (by omega)) ⟨e,e2,?_⟩
 refine⟨.aD,_,I.w4 (its':=its++jA) hH e (by simp) (r.append r2) ?_,rfl,q⟩
 rw[eO];omega
def RN:V->List V->Hp->VK->Prop:=fun x vs H Q=>∃l xs i k y,x = .ref l/\vs = [.int i]/\H l=some (.lst xs) /\ -(2 ^ 63)<=i/\i < 2 ^ 63/\seqIndex? i xs.length=some k/\xs[k]? = some y/\Q y (upd H l (.lst (xs.eraseIdx k)))
theorem FA:xA X "list.pop" RN:=by
 intro pins s σ H x vs v us Q I rx rv h;obtain⟨l,xs,i,k,y,rfl,rfl,hH,h1,h2,hk,hy,q⟩:=h;cases rx
 obtain⟨u,rfl,ru⟩:=rv.one;obtain⟨t,rfl⟩:=ru;obtain⟨z,its,n,r,hl,e⟩:=I.oC hH;obtain⟨w,hw,gj⟩:=r.get hy;refine nL F.slot_list_pop ⟨_,e,rfl⟩ F.entry_list_pop (F.args_list_pop_2 _ _)
  (MeetsSeq.list_pop_at l its.toArray n i t k w (fitsIndex_both h1 h2) (by rw[bY,<-hl];exact hk) (by rw[<-pN];exact hw) (by rw[bY];omega)) ⟨e,?_⟩
 refine⟨y,_,I.w4 (its':=its.eraseIdx k) hH e ?_ (r.eraseIdx k) ?_,gj,q⟩
 ·show its.toArray.eraseIdxIfInBounds k=(its.eraseIdx k).toArray
  rw[List.eraseIdxIfInBounds_toArray]
 ·have:=ES xs k
  omega
def UU:R2:=fun x y H Q=>∃l b xs zs,x = .ref l/\y = .ref b/\H l=some (.lst xs)/\H b=some (.lst zs)/\xs.length+zs.length<=sizeLine /\ ∀p,H p=none->Q (.ref p) (upd H p (.lst (xs++zs)))
theorem HG:b8 X (binaryOp .Add) UU:=by
 intro pins s σ H x y v u Q I rx ry h;obtain⟨l,b,xs,zs,rfl,rfl,hH,hB,hz,q⟩:=h;cases rx
 cases ry
 obtain⟨z,its,n,r,hl,e⟩:=I.oC hH;obtain⟨z2,jA,n2,r2,cY,e2⟩:=I.oC hB;refine PySem.P.add_list e e2 ?_ (by rw[bY,bY];omega)
 have ea:its.toArray++jA.toArray=(its++jA).toArray:=by simp
 rw[ea];exact⟨.ref _,_,I.Jj (t':=s.toks) (r.append r2) (by rw[eO];omega),rfl,q _ I.fresh⟩
section
set_option maxRecDepth 100000 in
end
end L2
namespace Kg
open PySem PySem.W PySem.Calls PyProof.Rows
theorem Nx {P:Params}:∀ (ns:List Int) (vs:List Value),WellAll P h vs (ns.map WData.int)->IntsAre vs ns:=by
 intro ns
 induction ns with
 |nil =>
  intro vs w;rw[List.map_nil]at w;cases w
  exact .nil
 |cons n ns ih =>
  intro vs w;rw[cn]at w;cases w with
  |cons a b =>
   cases a
   exact .cons _ _ (ih _ b)
theorem OR {l:OpenLaw} (hn:l.most=some n) {P:Params}{args:List WData}{vals:List Value}
  (w6:l.row.toRowW.claim.pre args=true) (Ce:WellAll P h vals args) :
  ∃a vs ns,vals = [Value.ref a]/\args = [WData.list (ns.map WData.int)]/\h.get? a=some { cls:= .type "list",data:= .seq vs.toArray }/\IntsAre vs ns/\ns.length<=n:=by
 have bC:WShape.hasAll [] args [.list .int]=true:=(pre_splitW w6).1;have hc:l.pre.holds [] { args:=args }=true:=(pre_splitW w6).2;obtain⟨d,r,rfl,h1,h2⟩:=hasAllW_cons bC;obtain rfl:=hasAllW_nil h2;obtain⟨xs,rfl,h3⟩:=hasW_list h1;obtain⟨ns,rfl⟩:=items_int h3;have hlen:ns.length<=n:=by
  unfold OpenLaw.pre at hc;have h4:(WTm.not (.lt (.lit (.int (n:Int))) (.len (.arg 0)))).holds [] { args:= [.list (ns.map .int)] }=true:=by
   have h4:=(holds_andW hc).1;rw[hn]at h4;exact h4
  have h5:=condW_of h4 (w_not (w_lt w_lit (w_len_list (w_arg rfl))));rw[ar]at h5;refine Nat.le_of_not_lt fun q=>?_;have q':(n:Int) < ((ns.length:Nat):Int):=by omega
  first
   |(rw[b4 q']at h5;exact absurd h5 (by decide))
   |(simp at h5;omega)
 cases Ce with
 |cons w1 w2 =>
  cases w2
  cases w1 with
  |list ho iL=>exact⟨_,_,ns,rfl,rfl,ho,Nx ns _ iL,hlen⟩
theorem OS (l:OpenLaw) (args:List WData):l.row.toRowW.claim.post args (.bool true) args=true:=
 postW_of (r:=l.row.toRowW) (X:=(true==true))
  (show WShape.has [] (.bool true) .bool=true by first|rfl|decide|simp[WShape.has,WShape.arms,WShape.armsAll])
  (show(WTm.eq .res (.lit (.bool true))).value [] { args:=args,res:=some (.bool true),after:=args }=some (.bool (true==true)) from w_eq_bool (w_res rfl) w_lit) rfl
theorem NZ {l:OpenLaw}{q:Program}{d:DefRec}
  (hn:l.most=some n) (uw:d.params.defaults = [])
  (call:∀ (w:World) (eJ bu:Shared) (mg mb:Str->Option Value) (fa:Addr) (o:Obj) (pm cd doc:Value) (a:Addr) (vs:List Value) (ns:List Int),
   Ground q loose [] XP w eJ mg mb bu.heap->YP w bu.heap ->
   bu.heap.get? fa=some o->o.data = .func (docDef d.name d.params d.body d.scope pm cd doc)->bu.heap.CodeRec cd d.name->mg d.name=some (.ref fa) ->
   bu.heap.get? a=some { cls:= .type "list",data:= .seq vs.toArray }->IntsAre vs ns->ns.length<=n->bu.gens = #[] ->
   codeAny (model l.prog w) callerA (.call (.ref fa) ⟨[.ref a],[]⟩) (fun r s'=>r = .ok (.ret (.bool true))/\OldK bu.heap s'.heap/\s'.os=bu.os/\AllBare s'.gens) bu) :
  WalkO q loose XP YP l.row.toRowW d [] (fun f vs=>PySem.call f vs):=by
 intro w eJ bu mg mb G Y fa o pm cd doc dV kV ho hd gu hD ux hg args vals as w6 acg hrd Ce rC;obtain rfl:dV = .none:=Dflts.none hD uw;obtain rfl:kV = .none:=Dflts.noKw hD;obtain⟨a,vs,ns,rfl,rfl,Bw,hints,hlen⟩:=OR hn w6 Ce;refine enter_call (yD (call w eJ bu mg mb fa o pm cd doc a vs ns G Y ho (fd_plain hd) gu ux Bw hints hlen hg) fun r s' hq=>?_);obtain⟨rfl,h2,h3,h4⟩:=hq;exact⟨.inl ⟨.bool true,.bool true,[],rfl,fun _=>rfl,.bool true,OS l _,fun _=>⟨List.Pairwise.nil,fun _ hm=>(nomatch hm)⟩⟩,h2,h3,h4⟩
end Kg
namespace L2
open PySem PySem.Spec PyProof.Rows
theorem ET:∀ {vs:List Value}{ns:List Int},IntsAre vs ns->Vals (ns.map V.int) vs
 |_,_,.nil=>.nil
 |_,_,.cons n t h=>.cons ⟨t,rfl⟩ (ET h)
def Bx (H:Hp):Prop:= ∀b,H b=none \/ ∃o xs,H b=some (.bo o (.lst xs))
theorem Pw {mb:Str->Option Value}{CX:kq}{k:Nat}{fa:Addr}{bu:Shared}{vs:List Value}{ns:List Int}
  (KX:K.In bu.heap) (nt:bu.heap.Ns mainGlobals mg) (hb:bu.heap.Ns builtinsNs mb) (V8:∀x:Str,x ≠ "__name__" -> mb x=bootBuiltins x) (UW:bu.heap.NoLimit) (hg:bu.gens = #[])
  (ha:bu.heap.get? a=some { cls:= .type "list",data:= .seq vs.toArray }) (hi:IntsAre vs ns) (hl:ns.length<=sizeLine) (hr:bf k callerA)
  (F:∀base:Heap,K.In base->base.Ns mainGlobals mg->aB P w K mg base CX k fa fd [x] sp) (Tv:∀ (s:Shared) (u:Value),BindsTo s fd ⟨[u],[]⟩ [(x,u)])
  (jJ:∀H:Hp,Bx H->ag K H a (ns.map V.int)->sp [.ref a] H (fun v _=>v = .bl true) fun _ _ _=>False)
  (Cf:∀H e s',CX [] H bu (fun _ _ _=>False) e s'->False) :
  codeAny (model P w) callerA (.call (.ref fa) ⟨[.ref a],[]⟩) (fun r s'=>r = .ok (.ret (.bool true))/\OldK bu.heap s'.heap/\s'.os=bu.os/\AllBare s'.gens) bu:=by
 have rv:=ET hi;have UX:=hi.length;have core:∀H:Hp,Bx H->ag K H a (ns.map V.int)->cT P w H bu.heap->(∀b,H b≠none->b=a)->(H a≠none->K.lookup a=none) ->
   codeAny (model P w) callerA (.call (.ref fa) ⟨[.ref a],[]⟩) (fun r s'=>r = .ok (.ret (.bool true))/\OldK bu.heap s'.heap/\s'.os=bu.os/\AllBare s'.gens) bu:=by
  intro H hO hS aq hA hK;have GQ:∀ {b:Addr}{o:Obj},bu.heap.get? b=some o->H b=none->(lJ bu.heap H).get? b=some o:=fun e n=>Pk e n;have uu:∀ {b:Addr}{o:Obj}{es:Array DictEntry}{ep:Nat},bu.heap.get? b=some o->o.data = .dict es ep->H b=none:=fun {b o es ep} e d=>by
   cases q:H b with
   |none=>rfl
   |some u =>
    have e':b=a:=hA b (by rw[q];simp)
    subst e';rw[ha]at e;cases e;have d':Data.seq vs.toArray _=Data.dict es ep:=d;cases d'
  have xB:∀ {b:Addr}{m:Str->Option Value},bu.heap.Ns b m->(lJ bu.heap H).Ns b m:=fun {b m} ⟨o,es,ep,e,d,r⟩=>⟨o,es,ep,GQ e (uu e d),d,r⟩;have Kh:K.In (lJ bu.heap H):=fun b o e=>GQ (KX b o e) (by
   cases q:H b with
   |none=>rfl
   |some u =>
    have e':b=a:=hA b (by rw[q];simp)
    subst e';rw[hK (by rw[q];simp)]at e;cases e)
  have hM:Mod K mg (lJ bu.heap H):=⟨Kh,xB nt,⟨mb,xB hb,V8⟩,let ⟨mc,h1,h2⟩:=UW;⟨mc,xB h1,h2⟩⟩;have e0:wZ P w K mg (lJ bu.heap H) callerA [] bu H:=⟨rfl,hM,fun b o e=>Qu e,Nat.le_of_eq (OI _ _),trivial,fun b hb=>absurd (show b∈([]:List Addr) from hb) (by simp),aq,.of_eq hg⟩
  refine yD ((F _ Kh (xB nt)).run callerA [] bu H ⟨[.ref a],[]⟩ [.ref a] [.ref a] _ _ hr e0 (Tv bu (.ref a)) (.cons rfl .nil) (jJ H hO hS)) fun r s' h=>?_;cases r with
  |error e=>exact(Cf H e s' h).elim
  |ok fl =>
   cases fl with
   |next=>exact False.elim h
   |brk=>exact False.elim h
   |cont=>exact False.elim h
   |ret u =>
    obtain⟨v,H',os,bare,un,UY,r',q⟩:=h;have q':v = .bl true:=q;subst q';obtain rfl:u=Value.bool true:=r';refine⟨rfl,OldK.of_keep fun b o e=>?_,os,bare⟩;cases q:H b with
    |none=>exact un.keep b o e q (by intro z;exact absurd (show b∈([]:List Addr) from z) (by simp)) (by simp)
    |some u =>
     rcases hO b with z|⟨ob,xs,z⟩
     ·rw[q]at z;cases z
     ·have z2:=un.kf b ob _ z
      obtain⟨e1,_⟩:=aq b _ z;obtain⟨e2,_⟩:=UY b _ z2;rw[e]at e1;cases e1;exact e2
 cases hk:K.lookup a with
 |some o =>
  have e:=KX a o hk;rw[ha]at e;cases e
  refine core (fun _=>none) (fun _=>.inl rfl) (.inr ⟨_,vs.toArray,_,hk,rfl,rfl,rfl,by rw[bY,UX];exact hl,by simpa using rv⟩) (fun b u z=>by have z':(none:Option HO)=some u:=z;cases z') (fun b z=>absurd rfl z) fun z=>absurd rfl z
 |none =>
  refine core (fun b=>if b=a then some (.bo { cls:= .type "list",data:= .seq vs.toArray } (.lst (ns.map V.int))) else none) (fun b=>?_) (.inl (.inr ⟨{ cls:= .type "list",data:= .seq vs.toArray },ax rfl⟩)) (fun b u z=>?_) (fun b z=>?_) fun _=>hk
  ·by_cases hb:b=a
   ·exact .inr ⟨_,_,ax hb⟩
   ·exact .inl (aj hb)
  ·by_cases hb:b=a
   ·have z':=(ax hb).symm.trans z
    cases z'
    subst hb;exact⟨ha,by rw[ar];exact hl,vs,_,rv,ha⟩
   ·have z':=(aj hb).symm.trans z
    cases z'
  ·by_cases hb:b=a
   ·exact hb
   ·exact absurd (aj hb) z
theorem QD {l:PySem.W.OpenLaw}{k:Nat}{q:Program}{d:DefRec}{K:Params->PySem.W.Frag}{CX:World->kq}{sp:World->Sp}
  (hn:l.most=some n) (xC:n<=sizeLine) (uw:d.params.defaults = []) (hr:bf k callerA)
  (hY:∀ (w:World) (h:Heap),YP w h->(K w.params).In h)
  (F:∀ (w:World) (mg:Str->Option Value) (fa:Addr) (h:Heap),(K w.params).In h->h.Ns mainGlobals mg->mg d.name=some (.ref fa) ->
   ∃fd:FuncData,(∀ (s:Shared) (u:Value),BindsTo s fd ⟨[u],[]⟩ [(x,u)]) /\
    ∀base:Heap,(K w.params).In base->base.Ns mainGlobals mg->aB l.prog w (K w.params) mg base (CX w) k fa fd [x] (sp w))
  (jJ:∀ (w:World) (H:Hp) (a:Addr) (ns:List Int),ns.length<=n->Bx H->ag (K w.params) H a (ns.map V.int)->sp w [.ref a] H (fun v _=>v = .bl true) fun _ _ _=>False)
  (Cf:∀ (w:World) (H:Hp) (s:Shared) (e:Value) (s':Shared),CX w [] H s (fun _ _ _=>False) e s'->False) :
  PySem.W.WalkO q loose XP YP l.row.toRowW d [] (fun f vs=>PySem.call f vs):=by
 refine Kg.NZ hn uw fun w eJ bu mg mb fa o pm cd doc a vs ns G Y ho hd gu ux Bw hints hlen hg=>?_;have KX:=hY w _ Y;obtain⟨fd,hb,hF⟩:=F w mg fa _ KX G.T.g ux;exact Pw KX G.T.g G.T.b G.T.builtins G.T.nolimit hg Bw hints (cL hlen xC) hr hF hb (fun H hO hS=>jJ w H a ns hlen hO hS) fun H e s'=>Cf w H bu e s'
def j5 (s:Stmt):Arguments:=match s with
 |.FunctionDef _ a _ _ _ _ _ _ _ _=>a
 |_=>{ posonlyargs:= [],args:= [],vararg:=none,kwonlyargs:= [],kw_defaults:= [],kwarg:=none,defaults:= [] }
def cR (s:Stmt):List Stmt:=match s with
 |.FunctionDef _ _ b _ _ _ _ _ _ _=>b
 |_=>[]
def aX (s:Stmt):Scope:=match s with
 |.FunctionDef _ _ _ _ _ _ sc _ _ _=>sc
 |_=>{ kind:= .function,names:= [],isGenerator:=false,isCoroutine:=false }
abbrev aC:kq:=fun _ _ _ _ _ _=>False
abbrev E0:XK:=fun _ _ _=>False
theorem aG:Passes aC X E0:=fun _ _ _ _ _ _ _ h=>h.elim
structure bg (K:PySem.W.Frag) (x qual:Str) (st:Stmt) (f:Addr) (fd:FuncData):Prop where
 ex:∃ (oc:Value) (od:Option Addr) (kV doc pm:Value) (an:Option Addr) (aR ct:Value) (km:Array (Option Value)),
  fd=PySem.W.fnOf x qual (j5 st) (cR st) (aX st) .none kV doc pm an aR ct/\K.lookup f=some ⟨oc,od,.func fd,km⟩/\PySem.W.codeIn K aR qual=true
 kp:PySem.W.keepIn K (.ref f)=true
theorem bg.ok {st:Stmt}{k:Nat} (F:bg K x qual st f fd) (S:b6 N ps (aX st)) (len:∀vs H Q E,sp vs H Q E->vs.length=ps.length)
  (A3:∀ (aR:Value) (A:Around) (outer:List Env) (s:Shared) (H:Hp) (vs:List V) (Q:VK) (E:XK),bf k (A.deeper (envOfC qual (aX st) s.heap.objs.size f aR))->sp vs H Q E ->
   ∃t,iw (qL aC P w K mg base N qual (aX st) f aR A outer s H E).xp (cR st) t/\t { nx:=fun _ H'=>Q .aD H',rt:=Q } (start N vs) H):aB P w K mg base aC (k+1) f fd ps sp:=by
 obtain⟨oc,od,kV,doc,pm,an,aR,ct,km,rfl,lk,gu⟩:=F.ex;refine Tj lk gu S len fun A outer s H vs Q E hr jJ=>?_;obtain⟨t,h,q⟩:=A3 aR A outer s H vs Q E hr jJ;exact⟨t,h.xp,q⟩
theorem bg.binds {st:Stmt} (F:bg K x qual st f fd)
  (h:∀ (kV doc pm:Value) (an:Option Addr) (aR ct:Value) (us:List Value),us.length=ps.length->bindArgs (PySem.W.fnOf x qual (j5 st) (cR st) (aX st) .none kV doc pm an aR ct) ⟨us,[]⟩=pure (ps.zip us)):Binds K fd ps []:=by
 obtain⟨oc,od,kV,doc,pm,an,aR,ct,km,rfl,lk,gu⟩:=F.ex;exact .all (h kV doc pm an aR ct)
theorem RO {st:Stmt}{kV:Value} (l:K.lookup f=some ⟨oc,od,.func (PySem.W.fnOf x qual (j5 st) (cR st) (aX st) .none kV doc pm an aR ct),km⟩)
  (c:PySem.W.codeIn K aR qual=true) (k:PySem.W.keepIn K (.ref f)=true):bg K x qual st f (PySem.W.fnOf x qual (j5 st) (cR st) (aX st) .none kV doc pm an aR ct):=⟨⟨oc,od,kV,doc,pm,an,aR,ct,km,rfl,l,c⟩,k⟩
theorem pv (i:Nat) (hN:X.N[i]? = some x:=by rfl) (hv:B6 X.env.scope x:=by first|exact Or.inl rfl|exact Or.inr (Or.inl rfl)|exact Or.inr (Or.inr rfl)) (hd:(x==("__debug__" : Str))=false:=by decide)
  (gu:(x==("__classdict__" : Str))=false:=by decide):PE X (.Name x pos) (wY i):=Rz hN hv hd gu
theorem dw {c A:Prop} [Decidable c] (h1:c->A) (h2 : ¬ c->B):if c then A else B:=by
 by_cases h:c
 ·rw[ax h]
  exact h1 h
 ·rw[aj h]
  exact h2 h
def aw (H H':Hp):Prop:= ∀b o,H b=some o->H' b=some o
theorem aw.refl (H:Hp):aw H H:=fun _ _ h=>h
theorem aw.trans (a:aw H H1) (b:aw H1 H2):aw H H2:=fun c o h=>b c o (a c o h)
theorem aw.free (e:aw H H') (h:H' l=Option.none):H l=Option.none:=by
 cases q:H l with
 |none=>rfl
 |some o =>
  rw[e l o q]at h;cases h
def gp (cells:List (Str×Addr)):List (Str×NameKind)->List (Str×Addr)->List (Str×Addr)
 |[],acc=>acc
 |(n,k)::r,acc=>if k == .free then gp cells r ((n,(cells.lookup n).getD 0)::acc) else gp cells r acc
theorem Ee (h:∀n,(n,NameKind.free)∈scope.names -> ∃c,env.cells.lookup n=some c) :
  closureFor scope env=pure (gp env.cells scope.names []):=by
 have key:∀ (names:List (Str×NameKind)) (acc:List (Str×Addr)),(∀n,(n,NameKind.free)∈names -> ∃c,env.cells.lookup n=some c) ->
   (forIn (m:=Sem) names acc fun x r=>match x with|(name,kind)=>if (kind==NameKind.free)=true then (do let a <- cellOf env name;pure (ForInStep.yield ((name,a)::r))) else pure (ForInStep.yield r))=pure (gp env.cells names acc):=by
  intro names
  induction names with
  |nil=>intro acc _;rfl
  |cons x r ih =>
   intro acc hx;obtain⟨n,k⟩:=x;rw[List.forIn_cons];unfold gp
   by_cases hk:k = .free
   ·subst hk
    obtain⟨c,hc⟩:=hx n aZ;simp only[yK,gN];have e:cellOf env n=pure c:=by unfold cellOf;rw[hc]
    rw[e,hc];exact ih _ fun m hm=>hx m (a9 _ hm)
   ·have hb:(k==NameKind.free)=false:=by simpa using hk
    simp only[hb,gO,fc];exact ih _ fun m hm=>hx m (a9 _ hm)
 unfold closureFor;have:=key scope.names [] h;show((forIn (m:=Sem) scope.names [] fun x r=>match x with|(name,kind)=>if (kind==NameKind.free)=true then (do let a <- cellOf env name;pure (ForInStep.yield ((name,a)::r))) else pure (ForInStep.yield r)) >>= fun cs=>pure cs)=_;rw[this]
 rfl
theorem pW:∀ (names:List (Str×NameKind)) (n:Nat) (acc:List (Str×Addr)),cellsFrom n names acc=cellsFrom n names []++acc
 |[],_,_=>rfl
 |(name,kind)::r,n,acc=>by
  unfold cellsFrom;split
  ·rw[pW r (n+1) ((name,n)::acc),pW r (n+1) [(name,n)],MC];rfl
  ·exact pW r n acc
theorem vv {cells:List (Str×Addr)}:∀ (names:List (Str×NameKind)) (acc:List (Str×Addr)) (x:Str) (c:Addr),(gp cells names acc).lookup x=some c ->
  (acc.lookup x=some c)\/((x,NameKind.free)∈names/\c=(cells.lookup x).getD 0)
 |[],acc,x,c,h=>.inl h
 |(n,k)::r,acc,x,c,h=>by
  unfold gp at h;split at h
  ·rename_i hk
   have hV:k = .free:=by simpa using hk
   subst hV;rcases vv r _ x c h with z|⟨z,e⟩
   ·rw[ia]at z
    cases hb:x==n with
    |true=>rw[hb]at z;cases z;rw[nM.mp hb];exact .inr ⟨aZ,rfl⟩
    |false=>rw[hb]at z;exact .inl z
   ·exact .inr ⟨a9 _ z,e⟩
  ·rcases vv r _ x c h with z|⟨z,e⟩
   ·exact .inl z
   ·exact .inr ⟨a9 _ z,e⟩
theorem zu {cells:List (Str×Addr)}:∀ (names:List (Str×NameKind)) (acc:List (Str×Addr)) (x:Str),(∃c,acc.lookup x=some c) -> ∃c,(gp cells names acc).lookup x=some c
 |[],acc,x,h=>h
 |(n,k)::r,acc,x,h=>by
  unfold gp;split
  ·refine zu r _ x ?_
   obtain⟨c,h⟩:=h;rw[ia];cases hb:x==n with
   |true=>exact⟨_,rfl⟩
   |false=>exact⟨c,h⟩
  ·exact zu r _ x h
theorem vE {cells:List (Str×Addr)}:∀ (names:List (Str×NameKind)) (acc:List (Str×Addr)) (x:Str),(x,NameKind.free)∈names -> ∃c,(gp cells names acc).lookup x=some c
 |[],acc,x,h=>by simp at h
 |(n,k)::r,acc,x,h=>by
  unfold gp;rcases bx.mp h with e|h
  ·cases e
   simp only[yK,gN];exact zu r _ _ ⟨(cells.lookup n).getD 0,by rw[ia];simp⟩
  ·split
   ·exact vE r _ x h
   ·exact vE r _ x h
theorem vt:∀ (names:List (Str×NameKind)) (n:Nat) (acc:List (Str×Addr)) (x:Str) (c:Addr),(x,c)∈cellsFrom n names acc->(x,c)∈acc\/(x,NameKind.cell)∈names
 |[],_,_,_,_,h=>.inl h
 |(name,kind)::r,n,acc,x,c,h=>by
  unfold cellsFrom at h;split at h
  ·rename_i hk
   have hV:kind = .cell:=by simpa using hk
   subst hV;rcases vt r _ _ x c h with z|z
   ·rcases bx.mp z with e|z
    ·cases e;exact .inr aZ
    ·exact .inl z
   ·exact .inr (a9 _ z)
  ·rcases vt r _ _ x c h with z|z
   ·exact .inl z
   ·exact .inr (a9 _ z)
structure cM (N:List Str) (rE:Scope) (N':List Str) (cu:List (Option Nat)) (sc:Scope):Prop where
 kind:sc.kind = .function
 keys:(sc.names.map (·.1)).Nodup
 nd:N'.Nodup
 len:cu.length=N'.length
 fv:∀ (j i:Nat),cu[j]? = some (some i) -> ∃x,N[i]? = some x/\N'[j]? = some x/\sc.names.lookup x=some .free
 free:∀p∈sc.names,p.2 = .free->rE.names.lookup p.1=some .cell\/rE.names.lookup p.1=some .free
theorem sE {α:Type}:∀ {l:List (Str×α)},(l.map (·.1)).Nodup -> ∀ {x:Str}{k:α},(x,k)∈l->l.lookup x=some k
 |(n,v)::r,hn,x,k,h=>by
  obtain⟨h1,h2⟩:=iE.mp hn;rw[ia];rcases bx.mp h with e|hm
  ·cases e;simp
  ·have:(x==n)=false:=by
    rw[l9];intro e;exact h1 (cD.mpr ⟨_,hm,e⟩)
   rw[this];exact sE h2 hm
def FC (scope:Scope) (L:Addr) (env:Env):Env:=
 { scope:=relabel scope env,locals:=L,globals:=env.globals,cells:=cellsFrom (L+1) scope.names (gp env.cells scope.names []),qual:=env.qual,func:=none,code:=env.code,frame:=env.frame,builtins:=env.builtins }
theorem N0 {M:Model}{globals:Addr}{cl:List (Str×Addr)}{Q:Env->Shared->Prop}
  (hQ:∀h',h'.Ns s.heap.objs.size (fun _=>none)->(∀b o,s.heap.get? b=some o->h'.get? b=some o)->(∀x c,(x,c)∈cellsFrom (s.heap.objs.size+1) scope.names []->h'.IsCell c none/\s.heap.objs.size < c) ->
   ((cellsFrom (s.heap.objs.size+1) scope.names []).Pairwise fun x y=>x.2≠y.2) ->
   Q { scope:=scope,locals:=s.heap.objs.size,globals:=globals,cells:=cellsFrom (s.heap.objs.size+1) scope.names cl,qual:=qual,func:=none,code:=env.code,frame:=env.frame,builtins:=env.builtins } { s with heap:=h' }) :
  wpAny M A (newFunctionEnv scope globals cl [] qual none .none (some env)) Q E s:=by
 simp only[newFunctionEnv,Option.isSome_some,gN];refine ab (wpAny_alloc ?_);refine ab (wpAny_layCells _ (fun name kind cells=>by cases V9:kind==NameKind.cell <;> simp[V9]) _ _ _ _ ?_)
 have ok:=cellsFrom_ok scope.names (s.heap.push { cls:= .type "dict",data:= .dict #[] }) (s.heap.objs.size+1) [] ⟨fun _ _ hm=>(nomatch hm),List.Pairwise.nil⟩ (by rw[nN];exact ay _)
 rw[nN]at ok;rw[show({ s with heap:=s.heap.push { cls:= .type "dict",data:= .dict #[] } }:Shared).heap.objs.size=s.heap.objs.size+1 from nN ..];rw[List.forIn_nil];refine ab (ai (ai ?_));exact hQ _ ((Heap.Ns.new s.heap (.type "dict")).keeps (pushCells_keeps _ _)) (fun b o e=>pushCells_keeps _ _ b o (bc _ e)) (fun x c hm=>⟨(ok.empty x c hm).1,(ok.empty x c hm).2⟩) ok.apart
def fg (X:Cx) (N':List Str) (scope:Scope) (s2:Shared) (H2:Hp) (fp:List Addr):Cx:=
 { X with N:=N',eJ:=s2,oz:=H2,env:=FC scope s2.heap.objs.size X.env,outer:=X.stack,stack:=X.stack,ex:=fp,fn:=fun x=>scope.names.lookup x==some .cell,pn:= [],xe:=fun _ _=>False }
theorem ze {env:Env}:∀ {names:List (Str×NameKind)}{x:Str}{k:NameKind},
  (names.map fun(n,k)=>if (k==NameKind.free && env.scope.kind == .function && env.kindOf n==some .cell) then (n,NameKind.cell) else (n,k)).lookup x=some k ->
  ∃k0,names.lookup x=some k0/\(k=k0\/(k0 = .free/\k = .cell))
 |[],_,_,h=>by simp at h
 |(n,k0)::r,x,k,h=>by
  have ih:=@ze env r x k;have h':List.lookup x ((if (k0==NameKind.free && env.scope.kind == .function && env.kindOf n==some .cell)=true then (n,NameKind.cell) else (n,k0))::_)=some k:=h;rw[ia]
  by_cases hc:(k0==NameKind.free && env.scope.kind == .function && env.kindOf n==some .cell)=true
  ·rw[ax hc,ia]at h'
   cases hx:x==n with
   |true =>
    rw[hx]at h';cases h';have:k0 = .free:=by
     have z:=hc;rw[eS,eS]at z
     simpa using z.1.1
    exact⟨k0,rfl,.inr ⟨this,rfl⟩⟩
   |false=>rw[hx]at h';exact ih h'
  ·rw[aj hc,ia]at h'
   cases hx:x==n with
   |true=>rw[hx]at h';cases h';exact⟨k0,rfl,.inl rfl⟩
   |false=>rw[hx]at h';exact ih h'
theorem zd {env:Env}:∀ {names:List (Str×NameKind)}{x:Str},names.lookup x=some .free ->
  (names.map fun(n,k)=>if (k==NameKind.free && env.scope.kind == .function && env.kindOf n==some .cell) then (n,NameKind.cell) else (n,k)).lookup x=some .cell \/
  (names.map fun(n,k)=>if (k==NameKind.free && env.scope.kind == .function && env.kindOf n==some .cell) then (n,NameKind.cell) else (n,k)).lookup x=some .free
 |[],_,h=>by simp at h
 |(n,k0)::r,x,h=>by
  have ih:=@zd env r x;show List.lookup x ((if (k0==NameKind.free && env.scope.kind == .function && env.kindOf n==some .cell)=true then (n,NameKind.cell) else (n,k0))::_)=_\/List.lookup x ((if (k0==NameKind.free && env.scope.kind == .function && env.kindOf n==some .cell)=true then (n,NameKind.cell) else (n,k0))::_)=_;rw[ia]at h;cases hx:x==n with
  |true =>
   rw[hx]at h;cases h
   by_cases hc:(NameKind.free==NameKind.free && env.scope.kind == .function && env.kindOf n==some .cell)=true
   ·rw[ax hc,ia,hx];exact .inl rfl
   ·rw[aj hc,ia,hx];exact .inr rfl
  |false =>
   rw[hx]at h
   by_cases hc:(k0==NameKind.free && env.scope.kind == .function && env.kindOf n==some .cell)=true
   ·rw[ax hc,ia,hx];exact ih h
   ·rw[aj hc,ia,hx];exact ih h
def pick (cu:List (Option Nat)) (σ:St):St:=cu.map fun o=>o.bind fun i=>(σ[i]?).join
section
variable{s2:Shared}
theorem zv (I:Inv X pins σ H s2) (S:cM X.N X.env.scope N' cu scope) (hx:(x,NameKind.free)∈scope.names):∃c,X.env.cells.lookup x=some c:=
 I.ok.has x (S.free _ hx rfl)
theorem Oj (I:Inv X pins σ H s2) (S:cM X.N X.env.scope N' cu scope) {c:Addr} (h:(cellsFrom n scope.names (gp X.env.cells scope.names [])).lookup x=some c) :
  ((x,c)∈cellsFrom n scope.names []/\(x,NameKind.cell)∈scope.names)\/((x,NameKind.free)∈scope.names/\X.env.cells.lookup x=some c):=by
 rw[pW,MD]at h;cases e:(cellsFrom n scope.names []).lookup x with
 |some d =>
  rw[e]at h;have z:d=c:=by simpa using h
  subst z;have m:=md e;rcases vt _ _ _ _ _ m with z|z
  ·simp at z
  ·exact .inl ⟨m,z⟩
 |none =>
  rw[e]at h;have h':(gp X.env.cells scope.names []).lookup x=some c:=by simpa using h
  rcases vv _ _ _ _ h' with z|⟨z,e2⟩
  ·simp at z
  ·obtain⟨c0,h0⟩:=zv I S z
   rw[h0]at e2;exact .inr ⟨z,by rw[h0,e2];rfl⟩
theorem Px (I:Inv X pins σ H s2) (S:cM X.N X.env.scope N' cu scope) (uy:∀b∈fp,jf X pins H b) (V':∀b∈fp,∃o,s2.heap.get? b=some o)
  (hn:h'.Ns s2.heap.objs.size (fun _=>none)) (hk:∀b o,s2.heap.get? b=some o->h'.get? b=some o)
  (hc:∀x c,(x,c)∈cellsFrom (s2.heap.objs.size+1) scope.names []->h'.IsCell c none/\s2.heap.objs.size < c) (hp:(cellsFrom (s2.heap.objs.size+1) scope.names []).Pairwise fun x y=>x.2≠y.2) :
  Inv (fg X N' scope s2 H fp) [] (pick cu σ) H { s2 with heap:=h' }:=by
 have old:∀ {x:Str}{c:Addr},X.env.cells.lookup x=some c->c < s2.heap.objs.size:=fun {x c} e=>let ⟨_,q⟩:=I.cell x c e;q.lt;have cc:∀ {x:Str}{c:Addr},(fg X N' scope s2 H fp).env.cells.lookup x=some c->((x,c)∈cellsFrom (s2.heap.objs.size+1) scope.names []/\(x,NameKind.cell)∈scope.names)\/((x,NameKind.free)∈scope.names/\X.env.cells.lookup x=some c):=
  fun {x c} e=>Oj I S e
 have Wa:∀ {x:Str}{c:Addr},(fg X N' scope s2 H fp).env.cells.lookup x=some c -> ∃v,h'.IsCell c v:=fun {x c} e=>by
  rcases cc e with⟨m,_⟩|⟨_,e0⟩
  ·exact⟨_,(hc x c m).1⟩
  ·obtain⟨v,q⟩:=I.cell x c e0
   exact⟨v,q.keeps hk⟩
 have jE:∀b∈fp,b < s2.heap.objs.size:=fun b hb=>let ⟨_,e⟩:=V' b hb;bw e;refine⟨⟨I.ok.mod,S.kind,I.ok.glob,I.ok.blt,ay _,fun x y c e1 e2=>?_,fun x hx=>?_,fun x c hx e=>?_,I.ok.hd,I.ok.frames,.inl rfl,fun b hb=>⟨bZ (jE b hb),fun x c e z=>?_⟩,I.bs,?_,fun b o e hb=>?_,fun b hb iW=>?_,I.stack,I.Gs⟩,
  rfl,I.bare,Un.kept hk,⟨_,hn,fun j x v e1 e2 e3=>?_⟩,fun x c e=>Wa e,I.aq.fresh (ay _),fun x c e=>?_,fun p hp=>absurd (show p∈([]:List (Addr×Obj)) from hp) (by simp),I.aq.kept hk,?_⟩
 ·rcases cc e1 with⟨m1,_⟩|⟨_,o1⟩ <;> rcases cc e2 with⟨m2,_⟩|⟨_,o2⟩
  ·exact name_of_addr hp m1 m2
  ·exact absurd (pO (hc _ _ m1).2 (old o2)) (nI _)
  ·exact absurd (pO (hc _ _ m2).2 (old o1)) (nI _)
  ·exact I.ok.inj x y c o1 o2
 ·have Wb:∃k0,scope.names.lookup x=some k0/\(k0 = .cell\/k0 = .free):=by
   rcases hx with hx|hx
   ·obtain⟨k0,e,z⟩:=ze (env:=X.env) hx
    refine⟨k0,e,?_⟩;rcases z with z|z
    ·exact .inl z.symm
    ·exact .inr z.1
   ·obtain⟨k0,e,z⟩:=ze (env:=X.env) hx
    refine⟨k0,e,?_⟩;rcases z with z|z
    ·exact .inr z.symm
    ·exact .inr z.1
  obtain⟨k0,e,z⟩:=Wb;show ∃c,(cellsFrom (s2.heap.objs.size+1) scope.names (gp X.env.cells scope.names [])).lookup x=some c;rw[pW,MD];rcases z with rfl|rfl
  ·obtain⟨c,lQ⟩:=zM (n:=s2.heap.objs.size+1) e
   exact⟨c,by rw[lQ];rfl⟩
  ·cases q:(cellsFrom (s2.heap.objs.size+1) scope.names []).lookup x with
   |some d=>exact⟨d,rfl⟩
   |none =>
    obtain⟨c,lQ⟩:=vE (cells:=X.env.cells) scope.names [] x (md e);exact⟨c,by rw[lQ];rfl⟩
 ·have g8:scope.names.lookup x=some .cell:=by simpa [fg] using hx
  rcases cc e with⟨m,_⟩|⟨m,_⟩
  ·exact yy (hc _ _ m).2
  ·rw[sE S.keys m]at g8;cases g8
 ·rcases cc e with⟨m,_⟩|⟨_,o1⟩
  ·have:=jE b hb
   rw[<-z]at this;exact absurd (pO (hc _ _ m).2 this) (nI _)
  ·exact(uy b hb).2.2.2.2.1 x c o1 z
 ·exact cL I.ok.oJ I.sz
 ·rcases (uy b hb).2.2.2.1 with z|z
  ·exact I.ok.tX b o e z
  ·exact absurd (gw (bw (I.ok.bs b o e).1) z) (nI _)
 ·have:=I.AJ b iW
  rcases bx.mp this with z|z
  ·exact(uy b hb).2.1 z
  ·exact(uy b hb).2.2.1 z
 ·
  have uz:(cu[j]?).bind (fun o=>some (o.bind fun i=>(σ[i]?).join))=some (some v):=by
   have uA:(cu.map fun o=>o.bind fun i=>(σ[i]?).join)[j]? = some (some v):=e2;rw[cU]at uA;cases q:cu[j]? with
   |none=>rw[q]at uA;cases uA
   |some o=>rw[q]at uA;exact uA
  cases q:cu[j]? with
  |none=>rw[q]at uz;cases uz
  |some o =>
   rw[q]at uz;cases o with
   |none=>simp at uz
   |some i =>
    have xD:(σ[i]?).join=some v:=by simpa using uz
    have e4:σ[i]? = some (some v):=by
     cases q2:σ[i]? with
     |none=>rw[q2]at xD;cases xD
     |some z=>rw[q2]at xD;rw[show z=some v from xD]
    obtain⟨y,Wc,Wd,uB⟩:=S.fv j i q;have We:x=y:=by
     have Ki:N'[j]? = some x:=e1;rw[Wd]at Ki;exact(e7 Ki).symm
    subst We;obtain⟨m,hm,hl⟩:=I.loc;have hf:=S.free _ (md uB) rfl;obtain⟨u,r,lk⟩:=hl i x v Wc e4 (by rcases hf with z|z;exact .inr (.inl z);exact .inr (.inr z))
    refine⟨u,r,.inr ⟨zd uB,?_⟩⟩;rcases lk with⟨k,_⟩|⟨_,c,ec,ic⟩
    ·have k':X.env.scope.names.lookup x=some .local:=k
     rcases hf with z|z <;> (rw[z]at k';cases k')
    ·refine⟨c,?_,ic.keeps hk⟩
     show(cellsFrom (s2.heap.objs.size+1) scope.names (gp X.env.cells scope.names [])).lookup x=some c;rw[pW,MD];cases q3:(cellsFrom (s2.heap.objs.size+1) scope.names []).lookup x with
     |some d =>
      rcases vt _ _ _ _ _ (md q3) with z|z
      ·simp at z
      ·rw[sE S.keys z]at uB;cases uB
     |none =>
      obtain⟨c',lQ⟩:=vE (cells:=X.env.cells) scope.names [] x (md uB);rcases vv _ _ _ _ lQ with z|⟨_,e5⟩
      ·simp at z
      ·rw[ec]at e5
       rw[lQ,e5];rfl
 ·rcases cc e with⟨m,_⟩|⟨_,o1⟩
  ·exact I.aq.fresh (yy (hc _ _ m).2)
  ·exact I.jd x c o1
 ·show(cu.map _).length=N'.length
  rw[ar,S.len]
end
def tZ (X:Cx) (ifs:List Expr) (t:TT):Prop:=
 ∀ (pins:List (Addr×Obj)) (s:Shared) (σ:St) (H:Hp) (Q:Bool->Hp->Prop),Inv X pins σ H s->t σ H Q ->
  wpAny (model X.prog X.w) X.A (forIn ifs true fun c r=>if r=true then do let ok <- isTrue c X.env (eval c X.env);pure (ForInStep.yield ok) else pure (ForInStep.yield r)) (TP X pins σ Q) X.xe s
def A4:TT:=fun _ H Q=>Q true H
theorem fq:tZ X [] A4:=fun _ _ _ H _ I h=>wpAny_tests_nil ⟨H,I,h⟩
theorem vN {c:Expr}{t:TT} (h:PT X c t):tZ X [c] t:=fun pins s σ H Q I hw=>wpAny_tests_one (h pins s σ H Q I hw)
theorem Nv {elt target:Expr}{ifs:List Expr}{it acc:Value} (I:Nat->Shared->Prop)
  (turn:∀n s,I n s->wpAny (model prog w) A (pyNext it) (fun r s1=>match r with
   |none=>R (.ok .next) s1
   |some v=>wpAny (model prog w) A (letOwnedTupleGo target it v) (fun _ s2=>wpAny (model prog w) A (assign target env v) (fun _ s3 =>
     wpAny (model prog w) A (forIn ifs true fun c r=>if r=true then do let ok <- isTrue c env (eval c env);pure (ForInStep.yield ok) else pure (ForInStep.yield r)) (fun ok s4 =>
      if ok=true then wpAny (model prog w) A (eval elt env) (fun x s5 =>
       wpAny (model prog w) A (call (.builtin "list.append") [acc,x]) (fun _ s6=>∃m,m < n/\I m s6) (fun _ _=>False) s5) (fun _ _=>False) s4
      else ∃m,m < n/\I m s4) (fun _ _=>False) s3) (fun _ _=>False) s2) (fun _ _=>False) s1) (fun _ _=>False) s)
  (n:Nat) (h:I n s) :
  codeAny (model prog w) A (.compLoop (.ListComp elt [⟨target,iter,ifs,0⟩] scope pos) 0 it acc env) R s:=by
 refine codeAny_loop rfl I (fun n s hI=>?_) n h;show wpAny _ A ((compTurn (.ListComp elt [⟨target,iter,ifs,0⟩] scope pos) 0 it acc env).onRaise (fun x=>do noteFrame x env;theTreesLotGoes x)) _ _ s;refine wpAny_noted (wpAny_noRaise ?_);rw[compTurn_list];refine ab (DD (ab (aH (turn n s hI) fun r s1 h1=>?_)));cases r with
 |none=>exact ai h1
 |some v =>
  refine ab (aH h1 fun _ s2 h2=>ab (aH h2 fun _ s3 h3=>ab (aH h3 fun ok s4 h4=>?_)));cases ok with
  |false=>exact ai ⟨rfl,h4⟩
  |true=>exact ab (ab (aH h4 fun x s5 h5=>ab (aH h5 fun _ s6 h6=>ai (ai ⟨rfl,h6⟩))))
def kb (J:It) (g:TG) (ti:TT) (te:TE) (ix:St) (Q:VK) (p:Addr) (H1:Hp):Prop:=
 ∃W:Nat->Nat->List V->St->Hp->Prop,(∃m,W 0 m [] ix (upd H1 p (.lst []))) /\ ∀i m ys τ H2,W i m ys τ H2->H2 p=some (.lst ys) /\
  ((J.stop i H2/\Q (.ref p) H2)\/(J.go i H2 /\ ∀x H3,J.rq i H2 x H3->g x τ H3 fun cB H4=>ti cB H4 fun b H5 =>
   if b=true then te cB H5 fun y H6=>H6 p=some (.lst ys)/\ys.length < sizeLine /\ ∃m',m' < m/\W (i+1) m' (ys ++ [y]) cB (upd H6 p (.lst (ys ++ [y])))
   else ∃m',m' < m/\W (i+1) m' ys cB H5))
def Iz (wi:TI) (cu:List (Option Nat)) (g:TG) (ti:TT) (te:TE):TE:=fun σ H Q=>wi σ H fun J H1=>∀p,H1 p=none->kb J g ti te (pick cu σ) Q p H1
section
variable{s2:Shared}{elt:Expr}{ifs:List Expr}
def CompEnd (X:Cx) (pins:List (Addr×Obj)) (σ:St) (Q:VK) (acc:Value) (C:Addr) (s':Shared):Prop:=
 ∃ (p:Addr) (H':Hp),acc = .ref p/\Inv X pins σ H' s'/\jf X pins H' C/\(∃m,s'.heap.Ns C m)/\Q (.ref p) H'
theorem EU {J:It}{tn:Nat->Heap->Prop}{g:TG}{RR:Value->Addr->Result->Shared->Prop} (hc:X.calm=true) (S:cM X.N X.env.scope N' cu scope)
  (I2:Inv X pins σ H2 s2) (T:Turn X.prog X.w X.K tg J fp it tn) (st:tn 0 s2.heap) (hf:∀b∈fp,jf X pins H2 b)
  (hb:∀s H fp,PG (fg X N' scope s H fp) tg g/\tZ (fg X N' scope s H fp) ifs ti/\PE (fg X N' scope s H fp) elt te)
  (hw:∀p,H2 p=none->kb J g ti te (pick cu σ) Q p H2) (hR:∀acc C s',CompEnd X pins σ Q acc C s'->RR acc C (.ok .next) s') :
  wpAny (model X.prog X.w) X.A (newList []) (fun acc s3=>wpAny (model X.prog X.w) X.A (newFunctionEnv scope X.env.globals (gp X.env.cells scope.names []) [] X.env.qual none .none (some X.env)) (fun Jk s4 =>
   codeAny (model X.prog X.w) X.A (.compStart (.ListComp elt [⟨tg,iter,ifs,0⟩] scope pos) 0 (.ref it) acc { Jk with scope:=relabel scope X.env }) (RR acc Jk.locals) s4) E s3) E s2:=by
 refine iD ?_;have I3:Inv X pins σ (upd H2 s2.heap.objs.size (.lst [])) { s2 with heap:=s2.heap.push { cls:= .type "list",data:= .seq ([]:List Value).toArray } }:=
  I2.Jj (its:= []) (t':=s2.toks) .nil (aN _)
 have hp:=hw s2.heap.objs.size I2.fresh;generalize e3:({ s2 with heap:=s2.heap.push { cls:= .type "list",data:= .seq ([]:List Value).toArray } }:Shared)=s3 at I3 ⊢;generalize eH:upd H2 s2.heap.objs.size (.lst [])=H3 at I3 hp;have jE:∀b∈fp,b < s2.heap.objs.size:=fun b hb=>let ⟨_,e,_⟩:=T.obj _ _ st b hb;bw e;have get3:∀b o,s2.heap.get? b=some o->s3.heap.get? b=some o:=fun b o e=>by rw[<-e3];exact bc _ e
 have uo:tn 0 s3.heap:=T.keep _ _ _ st fun b _ o e=>get3 b o e;have jj:∀b∈fp,jf X pins H3 b:=fun b hb=>⟨by rw[<-eH,ak (bZ (jE b hb))];exact(hf b hb).1,(hf b hb).2⟩
 have Wf:∀b∈fp,∃o,s3.heap.get? b=some o:=fun b hb=>let ⟨o,e,_⟩:=T.obj _ _ uo b hb;⟨o,e⟩;refine N0 fun h4 hn hk gE Wg=>?_;have I4:Inv (fg X N' scope s3 H3 fp) [] (pick cu σ) H3 { s3 with heap:=h4 }:=Px I3 S jj Wf hn hk gE Wg;have Kj:tn 0 ({ s3 with heap:=h4 }:Shared).heap:=T.keep _ _ _ uo fun b _ o e=>hk b o e;obtain⟨hG,hI,hE⟩:=hb s3 H3 fp;obtain⟨W,⟨m0,w0⟩,turn⟩:=hp;rw[eH]at w0;have oA:∀ {H':Hp},(∀b∈fp,H' b=none) -> ∀b∈fp,jf (fg X N' scope s3 H3 fp) [] H' b:=fun hn b hb =>
  ⟨hn b hb,(I4.ok.xm b hb).1,I4.ok.tY b hb,.inl hb,fun x c e=>(I4.ok.xm b hb).2 x c e,fun p hp=>absurd (show p∈([]:List (Addr×Obj)) from hp) (by simp)⟩
 have loop:codeAny (model X.prog X.w) X.A (.compLoop (.ListComp elt [⟨tg,iter,ifs,0⟩] scope pos) 0 (.ref it) (.ref s2.heap.objs.size) (FC scope s3.heap.objs.size X.env))
   (RR (.ref s2.heap.objs.size) s3.heap.objs.size) { s3 with heap:=h4 }:=by
  refine Nv (fun n s'=>∃i ys τ H',Inv (fg X N' scope s3 H3 fp) [] τ H' s'/\tn i s'.heap/\(∀b∈fp,H' b=none)/\W i n ys τ H') ?_ m0 ⟨0,[],_,H3,I4,Kj,fun b hb=>(jj b hb).1,w0⟩;rintro n s5 ⟨i,ys,τ,H5,I5,rz,xr,w5⟩;obtain⟨hp5,w5⟩:=turn i n ys τ H5 w5;rcases w5 with⟨stop,qn⟩|⟨go,step⟩
  ·refine aH (T.done (fg X N' scope s3 H3 fp) rfl rfl rfl hc i [] s5 τ H5 _ I5 (oA xr) rz stop) fun r s6 ⟨hr,I6⟩=>?_
   subst hr;refine hR _ _ _ ⟨_,H5,rfl,?_,?_,?_,qn⟩
   ·exact I3.Tc (s':=s6) (ch:=fp) I6.os I6.base I6.aq I6.bare fun b hb=>⟨(jj b hb).2.2.2.1,(jj b hb).2.1,(jj b hb).2.2.2.2.1,(jj b hb).2.2.2.2.2⟩
   ·exact I3.m3 (ay _) I6.free
   ·obtain⟨m,hm,_⟩:=I6.loc
    exact⟨m,hm⟩
  ·refine aH (T.item (fg X N' scope s3 H3 fp) rfl rfl rfl hc i [] s5 τ H5 _ I5 (oA xr) rz go) fun r s6 ⟨u,hr,h6⟩=>?_
   subst hr;refine aH h6 fun _ s7 ⟨x,H7,I7,r7,y7,Cg,Wh⟩=>?_;have Wi:=I7.pinned (oA Wh) (T.obj _ _ Cg);refine aH (hG _ s7 τ H7 x u _ Wi r7 (step x H7 y7)) fun _ s8 ⟨Ci,H8,I8,q8⟩=>?_;refine aH (hI _ s8 Ci H8 _ I8 q8) fun b s9 ⟨H9,I9,q9⟩=>?_;have again:∀ {lT:St}{H':Hp}{s':Shared}{bG:List V}{m':Nat},Inv (fg X N' scope s3 H3 fp) ([]++tw fp s7.heap) lT H' s'->m' < n->W (i+1) m' bG lT H' ->
     ∃m,m < n /\ ∃i ys τ H',Inv (fg X N' scope s3 H3 fp) [] τ H' s'/\tn i s'.heap/\(∀b∈fp,H' b=none)/\W i m ys τ H':=fun {lT H' s' bG m'} I' hm w'=>by
    refine⟨m',hm,i+1,bG,lT,H',I'.vM,T.keep _ _ _ Cg fun b hb o e=>(I'.pin (b,o) (jt _ (jt _ (vy hb e)))).1,fun b hb=>?_,w'⟩;obtain⟨o,e,d⟩:=T.obj _ _ Cg b hb;exact(I'.pin (b,o) (jt _ (jt _ (vy hb e)))).2.1
   cases b with
   |false =>
    obtain⟨m',hm,w'⟩:=q9;exact again I9 hm w'
   |true =>
    refine aH (hE _ s9 Ci H9 _ I9 q9) fun y Wj ⟨z,Kk,Wl,Wm,UZ,U0,m',hm,w'⟩=>?_;refine aH (vD _ Wj Ci Kk (.ref s2.heap.objs.size) [z] (.ref s2.heap.objs.size) [y] (fun _ H'=>H'=upd Kk s2.heap.objs.size (.lst (ys ++ [z]))) Wl rfl (.cons Wm .nil) ⟨_,_,_,rfl,rfl,UZ,U0,rfl⟩) fun _ s11 ⟨_,H11,Wn,_,Wo⟩=>?_;subst Wo;exact again Wn hm w'
 exact codeAny_compStart_list loop (T.self X.A 0 _ _ _ Kj loop)
theorem fe {wi:TI}{g:TG} (hc:X.calm=true) (S:cM X.N X.env.scope N' cu scope) (hi:PI X tg iter wi)
  (hb:∀s H fp,PG (fg X N' scope s H fp) tg g/\tZ (fg X N' scope s H fp) ifs ti/\PE (fg X N' scope s H fp) elt te)
  (hs:∀x,foldedSetIterable iter X.env x=pure x:=by intro _;rfl):PE X (.ListComp elt [⟨tg,iter,ifs,0⟩] scope pos) (Iz wi cu g ti te):=by
 intro pins s σ H Q I h;rw[eval_ListComp];refine wpAny_comprehension_free (use:=none) rfl hs (Ee fun n hn=>zv I S hn) S.kind (fun x hx hl=>sE S.keys (by rw[<-hl];exact hx)) ?_
 refine aH (hi pins s σ H _ I h) fun v s1 h1=>aH h1 fun xq s2 h2=>?_;obtain⟨it,fp,tn,J,H2,e,I2,T,jH,f2,hw⟩:=h2;subst e;refine EU (RR:=fun acc C=>compPost (model X.prog X.w) X.A X.xe none (EP X pins σ Q) acc C) hc S I2 T jH f2 hb hw ?_;rintro acc C s' ⟨p,H',rfl,I',fC,⟨m,hm⟩,q⟩;refine⟨m,hm,fun h' rF=>⟨.ref p,H',?_,rfl,q⟩⟩;exact I'.turned (it:=C) (t':=s'.toks) (fun b o hb e=>(rF.2 b hb).trans e) fC.1 fC.2.1 fC.2.2.2.1 fC.2.2.2.2.1 fC.2.2.2.2.2
theorem zi {wi:TI}{g:TG}{Jl:Pos} (hc:X.calm=true) (S:cM X.N X.env.scope N' cu scope) (hN:X.N.Nodup) (hx:X.N[i]? = some x) (hl:X.env.scope.names.lookup x=some .local) (hi:PI X tg iter wi)
  (hb:∀s H fp,PG (fg X N' scope s H fp) tg g/\tZ (fg X N' scope s H fp) ifs ti/\PE (fg X N' scope s H fp) elt te)
  (Wq:swapsWith (.ListComp elt [⟨tg,iter,ifs,0⟩] scope pos) (some (.Name x pos')) Jl.line X.env=pure true:=by rfl)
  (hs:∀x,foldedSetIterable iter X.env x=pure x:=by intro _;rfl):PS X (.Assign [.Name x pos'] (.ListComp elt [⟨tg,iter,ifs,0⟩] scope pos) Jl) (Bp (Iz wi cu g ti te) (tN i)):=by
 intro pins s σ H D I h;rw[exec_Assign_Name_used _ _ _ _ Wq];refine ab (DD (ab ?_));show wpAny _ X.A (do let _ <- comprehension (.ListComp elt [⟨tg,iter,ifs,0⟩] scope pos) scope X.env _ (newList []) false (eval iter X.env) (some (assign (.Name x pos') X.env))) _ _ s;refine ab (aH (wpAny_comprehension_free (use:=some (assign (.Name x pos') X.env)) (Q:=fun _ s'=>SP X pins D .next s') rfl hs (Ee fun n hn=>zv I S hn) S.kind (fun x hx hl=>sE S.keys (by rw[<-hl];exact hx)) ?_) fun _ s' hq=>ai (ai hq))
 refine aH (hi pins s σ H _ I h) fun v s1 h1=>aH h1 fun xq s2 h2=>?_;obtain⟨it,fp,tn,J,H2,e,I2,T,jH,f2,hw⟩:=h2;subst e;refine EU (Q:=fun v H'=>D.nx (σ.set i (some v)) H') (RR:=fun acc C=>compPost (model X.prog X.w) X.A X.xe (some (assign (.Name x pos') X.env)) (fun _ s'=>SP X pins D .next s') acc C) hc S I2 T jH f2 hb hw ?_;rintro acc C s' ⟨p,H',rfl,I',fC,⟨m,hm⟩,q⟩;show wpAny (model X.prog X.w) X.A (assign (.Name x pos') X.env (.ref p)) _ _ s';refine wpAny_assign_Name (EI (v:= .ref p) I' hN hx (.inl hl) rfl (fun oU Wr ⟨a,Ws,ha⟩=>?_) (.inr hl));have Wt:C≠a:=by
  rcases ha with ha|ha
  ·rw[ha];exact fC.2.1
  ·exact fun z=>fC.2.2.2.2.1 _ _ ha z.symm
 refine⟨m,hm.sameBut Ws Wt,fun h' rF=>⟨_,H',?_,q⟩⟩;exact Wr.turned (it:=C) (t':=oU.toks) (fun b o hb e=>(rF.2 b hb).trans e) fC.1 fC.2.1 fC.2.2.2.1 fC.2.2.2.2.1 fC.2.2.2.2.2
end
end L2
namespace L2
open PySem PySem.Spec PyProof.Rows PySem.W PySem.Builtin.ObjectAttr
abbrev Kl:List Value:= [.type "ValueError",.type "Exception",.type "BaseException",.type "object"]
def aca (K:Frag) (C:Addr) (i:Option Value):Bool:=
  match K.lookup C with
  |some ⟨.type "type",_,.cls cls,slots⟩ =>
    (match cls.mro,slots.toList with
     |.ref C'::up,[_,_,_,_,some (.builtin n),_]=>C'==C && (n == "ValueError.__new__" && (!cls.hasDel && (tailIn K Kl up && (nsOkIn K cls.ns && nsIn K cls.ns "__init__" == some i))))
     |_,_=>false)
  |_=>false
def IA:List Value->Bool
 |.ref _::r=>IA r
 |l=>l==Kl
structure t5 (K:Frag) (C:Addr):Prop where
 ga:findIn K (.ref C) "__getattribute__" = some (some (.builtin "BaseException.__getattribute__"))
 gh:findIn K (.ref C) "__getattr__" = some none
 sa:findIn K (.ref C) "__setattr__" = some (some (.builtin "object.__setattr__"))
 hd:hasDictIn K C=true
 ov:((clsIn K C).any fun cd=>IA cd.mro)=true
 be:mroIn K C (.type "BaseException")=some true
 ve:mroIn K C (.type "ValueError")=some true
 ob:mroIn K C (.type "object")=some true
 ka:findIn K (.ref C) "__class__" = some (some (.builtin "object.__class__"))
 kn:specialIn K (.builtin "object.__class__") "__get__" = some (some (.builtin "getset_descriptor.__get__"))
 kt:takesIn K (.builtin "object.__class__")=some true
section
variable{x:Addr}{ox:Obj}{od:Option Obj}
theorem OT {tk:Tok}{fill expr:Bool}{Q:Value->Shared->Prop} (X:K.In s.heap) (I:InstAt s.heap x ox C od) (c:t5 K C)
  (h:wpAny (model prog w) A.in1 (Builtin.«object.__getattribute__» ⟨[.ref x,.str name tk],[]⟩) (fun fin s'=>match fin with|.done (.ret v)=>wpAny (model prog w) A (handedOut v) Q E s'|_=>False) (fun _ _=>False) s) :
  wpAny (model prog w) A (getAttrBy (.ref x) (.str name tk) fill expr) Q E s:=by
 have L0:=I.type (M:=model prog w);have L1:=looks_findIn (M:=model prog w) X c.ga;have L2:=looks_findIn (M:=model prog w) X c.gh;have sub:Looks (model prog w) s.heap (isInstance (.ref x) (.type "BaseException")) true:=I.type.andThen (looks_mroIn X c.be);have Wu:(Value.builtin "BaseException.__getattribute__" == Value.builtin "object.__getattribute__")=false:=by decide +kernel
 have Wv:(onTheHeap (Value.ref C) && Value.builtin "BaseException.__getattribute__" == Value.builtin "object.__getattribute__")=false:=by rw[Wu];rfl
 have hk:builtinKind "BaseException.__getattribute__" = some .slot:=by decide +kernel
 have RP:splitId "BaseException.__getattribute__" = some ("BaseException","__getattribute__"):=by decide +kernel
 unfold getAttrBy;refine fb (ab (L0.here (ab (L1.here ?_))))
 dsimp only
 rw[Wv];show wpAny _ _ (getAttrByItsOwn _ _ _ _ _ _) _ _ _;unfold getAttrByItsOwn hookBefore;refine ab ?_;rw[ax (show onTheHeap (Value.ref C)=true from rfl)];refine L2.here (ab (yL (fb ?_)));unfold callGetattribute;rw[aj (show ¬ (expr && onTheHeap (Value.builtin "BaseException.__getattribute__"))=true by cases expr <;> decide)]
 unfold boundAndCalled;rw[abk.ga.bind];refine ab (ai (DG (codeAny_call_builtin abk.ga.plain PySem.F.entry_bexc_ga (@check_slot (model prog w) _ _ s "BaseException.__getattribute__" "BaseException" "__getattribute__" (.ref x) [.str name tk] [] _ hk RP sub (PySem.F.args_bexc_ga _ _) ?_))));refine pM h (fun fin s' z=>?_) fun _ _ z=>z.elim;rcases fin with(_|_|_|_)|_ <;> first|exact z|exact z.elim
theorem OU {Q:Option Value->Shared->Prop} (X:K.In s.heap) (I:InstAt s.heap x ox C od) (c:t5 K C) (h:Q (some (.ref C)) { s with toks:=s.toks+1 }):wpAny (model prog w) A (getAttr? (.ref x) "__class__") Q E s:=by
 have hf:findObj K C od "__class__" = some (.bind (.builtin "getset_descriptor.__get__") (.builtin "object.__class__")):=by
  obtain⟨cd,hc,_⟩:=any_some c.hd;unfold findObj;rw[hc,vi,c.ka,vi]
  dsimp only
  rw[c.kn,vi]
  dsimp only
  rw[c.kt,vi]
 unfold getAttr? getAttrBy?;refine ab (wpAny_mkText (ab (yL ?_)));have L0:=I.type (M:=model prog w);have L1:=looks_find (M:=model prog w) X I hf;refine OT (s:={ s with toks:=s.toks+1 }) X I c ?_;refine ab (ai (ab (ai (ab (Looks.here (s:={ s with toks:=s.toks+1 }) L0 (ab (Looks.here (s:={ s with toks:=s.toks+1 }) L1 ?_)))))));show wpAny _ _ (holding [.builtin "object.__class__"] (call (.builtin "getset_descriptor.__get__") [.builtin "object.__class__",.ref x,.ref C]) >>= ret) _ _ _;refine ab (fb (DG (class_get (s:={ s with toks:=s.toks+1 }) (ox:=ox) (od:=od) X I c.ob ?_)));exact ai (handed_on rfl (ai h))
theorem Ol {M:Model} (X:K.In h) (c:t5 K C):Looks M h (isType (.ref C)) true:=by
 obtain⟨cls,ic,_⟩:=any_some c.hd;unfold clsIn at ic;split at ic
 next at_ =>
  intro A' Q' E' s' k q;exact ab (wpAny_loadPart (part:=some headPart) (k _ _ (X _ _ at_)) (ai q))
 next=>cases ic
theorem FE (c:t5 K C):KitX K (.ref x) (.ref C) (fun h=>InstAt h x ox C od) where
 ty:=fun _ _ _ I=>I.type
 it:=fun _ _ X _=>Ol X c
 ne:=fun h tp _ _ _ _ X tup=>by
  obtain⟨cls,ic,_⟩:=any_some c.hd;cases q:(Value.ref C == .ref tp) with
  |false=>rfl
  |true =>
   have e:C=tp:=Value.ref.inj (nM.mp q);unfold clsIn at ic;split at ic
   next at_ =>
    have two:=(X _ _ at_).symm;rw[e,tup]at two;cases two
   next=>cases ic
 ca:=fun X I k=>OU X I c k
end
def Jm (C:Addr) (dx:Option Addr) (a:Addr):HO:= .ext fun h=>∃t,h.get? a=some { cls:= .ref C,dict:=dx,data:= .fields #[.ref t,.none,.none,.none,.bool false,.none] }
def Jn (d:Addr) (fs:List (Str×V)):HO:= .ext fun h=>fs.length<=100 /\ ∃mA,h.Ns1 d mA/\(∀f,iK (fs.lookup f) (mA f))/\PySem.Within mA (fs.map (·.1))
section
variable{dx:Option Addr}{fs:List (Str×V)}{f:Str}
theorem Inv.excAt (I:Inv X pins σ H s) (e:H a=some (Jm C dx a)):∃t,s.heap.get? a=some { cls:= .ref C,dict:=dx,data:= .fields #[.ref t,.none,.none,.none,.bool false,.none] }:=(I.aq a _ e).1
theorem Inv.QE (I:Inv X pins σ H s) (e:H d=some (Jn d fs)):fs.length<=100 /\ ∃mA,s.heap.Ns1 d mA/\(∀f,iK (fs.lookup f) (mA f))/\PySem.Within mA (fs.map (·.1)):=(I.aq d _ e).1
end
end L2
namespace L2
open PySem PySem.Spec PyProof.Rows PySem.W
mutual
inductive Rep (H:Hp):V->PyData->Prop where
 |aD:Rep H .aD .none
 |bl (b:Bool):Rep H (.bl b) (.bool b)
 |int (i:Int):Rep H (.int i) (.int i)
 |str (x:Str):Rep H (.str x) (.str x)
 |lst {a:Addr}{xs:List V}{ds:List PyData}:H a=some (.lst xs)->b7 H xs ds->Rep H (.ref a) (.list ds)
 |tup {a:Addr}{xs:List V}{ds:List PyData}:H a=some (.tup xs)->b7 H xs ds->Rep H (.ref a) (.tuple ds)
inductive b7 (H:Hp):List V->List PyData->Prop where
 |nil:b7 H [] []
 |cons {x:V}{d:PyData}{xs:List V}{ds:List PyData}:Rep H x d->b7 H xs ds->b7 H (x::xs) (d::ds)
end
section
mutual
theorem Rep.reads (I:Inv X pins σ H s):∀ {v:V}{d:PyData}{u:Value},Rep H v d->RelV v u -> ∃as,Reads s.heap u d as
 |_,_,_,.aD,r=>by cases r;exact⟨_,.none⟩
 |_,_,_,.bl b,r=>by cases r;exact⟨_,.bool b⟩
 |_,_,_,.int i,r=>by obtain⟨t,rfl⟩:=r;exact⟨_,.int i t⟩
 |_,_,_,.str x,r=>by obtain⟨t,rfl⟩:=r;exact⟨_,.str x t⟩
 |_,_,_,.lst (a:=a) (xs:=xs) e rs,r=>by
  cases r
  obtain⟨_,its,n,rv,at_⟩:=(show ba X.prog X.w H s.heap a (.lst xs) from I.aq a _ e);obtain⟨as,ra⟩:=b7.reads I rs rv;exact⟨_,.list at_ rfl rfl ra⟩
 |_,_,_,.tup (a:=a) (xs:=xs) e rs,r=>by
  cases r
  obtain⟨_,its,rv,ob,at_,hc,n,hd,_⟩:=(show ba X.prog X.w H s.heap a (.tup xs) from I.aq a _ e);obtain⟨as,ra⟩:=b7.reads I rs rv;exact⟨_,.tuple at_ hc hd ra⟩
theorem b7.reads (I:Inv X pins σ H s):∀ {vs:List V}{ds:List PyData}{us:List Value},b7 H vs ds->Vals vs us -> ∃as,ReadsAll s.heap us ds as
 |_,_,_,.nil,r=>by cases r;exact⟨_,.nil⟩
 |_,_,_,.cons r rs,rv=>by
  cases rv with
  |cons q qs =>
   obtain⟨as,h1⟩:=Rep.reads I r q;obtain⟨bs,h2⟩:=b7.reads I rs qs;exact⟨_,.cons h1 h2⟩
end
mutual
theorem Rep.same:∀ {v:V}{d:PyData},Rep H v d->aw H H'->Rep H' v d
 |_,_,.aD,_=>.aD
 |_,_,.bl b,_=>.bl b
 |_,_,.int i,_=>.int i
 |_,_,.str x,_=>.str x
 |_,_,.lst e rs,k=>.lst (k _ _ e) (b7.same rs k)
 |_,_,.tup e rs,k=>.tup (k _ _ e) (b7.same rs k)
theorem b7.same:∀ {vs:List V}{ds:List PyData},b7 H vs ds->aw H H'->b7 H' vs ds
 |_,_,.nil,_=>.nil
 |_,_,.cons r rs,k=>.cons (Rep.same r k) (b7.same rs k)
end
end
def Jo:R2:=fun x y H Q=>∃da db,Rep H x da/\Rep H y db/\da.canLay0=true/\db.canLay0=true/\da.depth<=60/\Q (.bl (PyData.eqv da db)) H
def Jp:R2:=fun x y H Q=>∃da db,Rep H x da/\Rep H y db/\da.canLay0=true/\db.canLay0=true/\da.depth<=60/\Q (.bl (!PyData.eqv da db)) H
theorem wq (hu:X.A.units+64 < cLine):b8 X (compareOp .Eq) Jo:=by
 intro pins s σ H x y v u Q I rx ry h;obtain⟨da,db,r1,r2,l1,l2,dp,q⟩:=h;obtain⟨as,h1⟩:=r1.reads I rx;obtain⟨bs,h2⟩:=r2.reads I ry;exact SeqAt.compareEq_reads h1 h2 l1 l2 (by omega) ⟨.bl _,H,I,rfl,q⟩
theorem HH (hu:X.A.units+64 < cLine):b8 X (compareOp .NotEq) Jp:=by
 intro pins s σ H x y v u Q I rx ry h;obtain⟨da,db,r1,r2,l1,l2,dp,q⟩:=h;obtain⟨as,h1⟩:=r1.reads I rx;obtain⟨bs,h2⟩:=r2.reads I ry;exact SeqAt.compareNe_reads h1 h2 l1 l2 (by omega) ⟨.bl _,H,I,rfl,q⟩
end L2
namespace L2
open PySem PySem.Spec PyProof.Rows PySem.W
section
variable{o:Expr}{f:Str}{tv:TE}
def Jq (K:Frag):List V->Hp->VK->Prop:=fun xs H Q=>∃x c t cv b,xs = [x,c]/\RelV c cv/\(iq K H x t \/ ∃a C dx,x = .ref a/\t = .ref C/\H a=some (Jm C dx a)/\t5 K C/\(∀d,dx=some d -> ∃fs,H d=some (Jn d fs)))/\kitOne K t cv=some b/\Q (.bl b) H
theorem eh:dq X (.builtin "isinstance") (fun xs H Q=>(∃x,(∃C,xs = [x,.ref C])\/(∃T,xs = [x,.ty T]))/\Jq X.K xs H Q):=by
 intro pins s σ H xs us Q I r h;obtain⟨hx,x,c,t,cv,b,rfl,rc,ty,e,q⟩:=h;obtain⟨u,w',rfl,ru,gj⟩:=r.two;have Ww:w'=cv:=by
  obtain⟨x',⟨C,z⟩|⟨T,z⟩⟩:=hx
  ·cases z;cases rc;cases gj;rfl
  ·cases z;cases rc;cases gj;rfl
 subst Ww;rcases ty with ty|⟨a,C,dx,rfl,rfl,ea,c,hd⟩
 ·exact OO I ru ty e fun tk=>⟨.bl b,H,I.tok _,rfl,q⟩
 ·cases ru
  obtain⟨t,at_⟩:=I.excAt ea;cases dx with
  |none =>
   have J:InstAt s.heap a _ C none:=⟨at_,rfl,rfl,True.intro⟩;exact kia_one (FE c) I.dC J e (fun z=>nomatch z) fun tk=>⟨.bl b,H,I.tok _,rfl,q⟩
  |some d =>
   obtain⟨fs,ed⟩:=hd d rfl;obtain⟨_,mA,n,_⟩:=I.QE ed;obtain⟨od,lU,_⟩:=EK n;have J:InstAt s.heap a _ C (some od):=⟨at_,rfl,rfl,lU⟩;exact kia_one (FE c) I.dC J e (fun z=>nomatch z) fun tk=>⟨.bl b,H,I.tok _,rfl,q⟩
end
theorem zj:∀ {ys:List Str}{us:List Value},Vals (ys.map V.str) us->StrsAre us ys:=by
 intro ys
 induction ys with
 |nil=>intro us r;cases r;exact .nil
 |cons y ys ih =>
  intro us r;cases r with
  |cons q qs =>
   obtain⟨t,rfl⟩:=q;exact .cons _ _ (ih qs)
def rJoin (K:Frag):V->List V->Hp->VK->Prop:=fun x vs H Q=>∃ (z:Str) (p:Addr) (ys:List Str),x = .str z/\vs = [.ref p]/\(ag K H p (ys.map V.str)\/ao K H p (ys.map V.str))/\(ys.map (·.length)).sum+ys.length * z.length<=1000000/\Q (.str (Txt.join z ys)) H
theorem QF:Kd X "str.join" (rJoin X.K):=by
 intro pins s σ H x xs v us Q I rx rv h;obtain⟨z,p,ys,rfl,rfl,hp,hz,q⟩:=h;obtain⟨t,rfl⟩:=rx;obtain⟨u,rfl,ru⟩:=rv.one;cases ru
 rcases hp with hp|hp
 ·obtain⟨its,r,pl,_⟩:=I.list hp
  exact join_list pl.isList (by simpa using zj r) (by omega) fun t' k=>⟨.str _,H,I.tok _,⟨_,rfl⟩,q⟩
 ·obtain⟨its,r,pl,_⟩:=I.tuple hp
  exact join_tuple pl (by simpa using zj r) (by omega) fun t' k=>⟨.str _,H,I.tok _,⟨_,rfl⟩,q⟩
def U1:V->Option Int->Option Int->Hp->VK->Prop:=fun x lo hi H Q=>∃z:Str,x = .str z/\z.length<=1000000/\Q (.str (Txt.slice z lo hi)) H
theorem AM:rB X U1:=by
 intro pins s σ H x v vl vu lo hi sl Q I rx hs pl pu h;obtain⟨z,rfl,hz,q⟩:=h;obtain⟨t,rfl⟩:=rx;have fz:(Txt.slice z lo hi).length<=sizeLine:=cL (Txt.slice_le z _ _) (by rw[aA];omega)
 refine⟨"str",_,PySem.F.slot_str_getitem.lookup,su _ _ _,?_⟩;cases pl with
 |none =>
  cases pu with
  |none=>exact DK (l:=none) (u:=none) (st:=none) hs rfl (DL ⟨fz,fun t' k=>⟨.str _,H,I.tok _,⟨_,rfl⟩,q⟩⟩)
  |int j tj=>exact DK (l:=none) (u:=some (j,tj)) (st:=none) hs rfl (DL ⟨fz,fun t' k=>⟨.str _,H,I.tok _,⟨_,rfl⟩,q⟩⟩)
 |int i ti =>
  cases pu with
  |none=>exact DK (l:=some (i,ti)) (u:=none) (st:=none) hs rfl (DL ⟨fz,fun t' k=>⟨.str _,H,I.tok _,⟨_,rfl⟩,q⟩⟩)
  |int j tj=>exact DK (l:=some (i,ti)) (u:=some (j,tj)) (st:=none) hs rfl (DL ⟨fz,fun t' k=>⟨.str _,H,I.tok _,⟨_,rfl⟩,q⟩⟩)
def CW (Pv:Nat->List V->St->Hp->Prop) (n i m:Nat) (ys:List V) (τ:St) (H:Hp):Prop:=m=n - i/\i<=n/\Pv i ys τ H
theorem cw_next {Pv:Nat->List V->St->Hp->Prop}{τ:St} (h:i < n) (p:Pv (i+1) ys τ H):∃m',m' < n - i/\CW Pv n (i+1) m' ys τ H:=⟨n - (i+1),by omega,rfl,h,p⟩
theorem vA {lo:Int}{g:TG} (Pv:Nat->List V->St->Hp->Prop) (h0:Pv 0 [] ix (upd H1 p (.lst []))) (hl:∀i ys τ H,Pv i ys τ H->H p=some (.lst ys))
  (hs:∀i ys τ H,i < n->Pv i ys τ H->g (.int (lo+i)) τ H fun cB H4=>ti cB H4 fun b H5=>if b=true then te cB H5 fun y H6=>H6 p=some (.lst ys)/\ys.length < sizeLine /\ ∃m',m' < n - i/\CW Pv n (i+1) m' (ys ++ [y]) cB (upd H6 p (.lst (ys ++ [y]))) else ∃m',m' < n - i/\CW Pv n (i+1) m' ys cB H5)
  (hd:∀ys τ H,Pv n ys τ H->Q (.ref p) H):kb (oQ lo n) g ti te ix Q p H1:=by
 refine⟨CW Pv n,⟨n,by simp,aN _,h0⟩,?_⟩
 rintro i m ys τ H ⟨rfl,hi,pv⟩;refine⟨hl i ys τ H pv,?_⟩
 by_cases bV:i < n
 ·refine .inr ⟨bV,fun x H3 y3=>?_⟩
  obtain⟨e3,ex⟩:=y3;subst e3 ex;exact hs i ys τ _ bV pv
 ·have e:i=n:=by omega
  subst e;exact .inl ⟨ay _,hd ys τ H pv⟩
theorem lr {g:TG} (Pv:Nat->List V->St->Hp->Prop) (h0:Pv 0 [] ix (upd H1 p (.lst []))) (hl:∀i ys τ H,Pv i ys τ H->H p=some (.lst ys)/\ag K H a xs)
  (hs:∀i x ys τ H,xs[i]? = some x->Pv i ys τ H->g x τ H fun cB H4=>ti cB H4 fun b H5=>if b=true then te cB H5 fun y H6=>H6 p=some (.lst ys)/\ys.length < sizeLine /\ ∃m',m' < xs.length - i/\CW Pv xs.length (i+1) m' (ys ++ [y]) cB (upd H6 p (.lst (ys ++ [y]))) else ∃m',m' < xs.length - i/\CW Pv xs.length (i+1) m' ys cB H5)
  (hd:∀ys τ H,Pv xs.length ys τ H->Q (.ref p) H):kb (oO K a) g ti te ix Q p H1:=by
 refine⟨CW Pv xs.length,⟨xs.length,by simp,aN _,h0⟩,?_⟩
 rintro i m ys τ H ⟨rfl,hi,pv⟩;obtain⟨hp,hq⟩:=hl i ys τ H pv;refine⟨hp,?_⟩
 by_cases bV:i < xs.length
 ·refine .inr ⟨⟨xs,xs[i],hq,by simp[bV]⟩,fun x H3 y3=>?_⟩
  obtain⟨e3,ex⟩:=y3;subst e3;exact hs i x ys τ _ (ex xs hq) pv
 ·have e:i=xs.length:=by omega
  subst e;exact .inl ⟨⟨xs,hq,ay _⟩,hd ys τ H pv⟩
theorem vO {g:TG} (Pv:Nat->List V->St->Hp->Prop) (h0:Pv 0 [] ix (upd H1 p (.lst []))) (hl:∀i ys τ H,Pv i ys τ H->H p=some (.lst ys)/\ao K H a xs)
  (hs:∀i x ys τ H,xs[i]? = some x->Pv i ys τ H->g x τ H fun cB H4=>ti cB H4 fun b H5=>if b=true then te cB H5 fun y H6=>H6 p=some (.lst ys)/\ys.length < sizeLine /\ ∃m',m' < xs.length - i/\CW Pv xs.length (i+1) m' (ys ++ [y]) cB (upd H6 p (.lst (ys ++ [y]))) else ∃m',m' < xs.length - i/\CW Pv xs.length (i+1) m' ys cB H5)
  (hd:∀ys τ H,Pv xs.length ys τ H->Q (.ref p) H):kb (oP K a) g ti te ix Q p H1:=by
 refine⟨CW Pv xs.length,⟨xs.length,by simp,aN _,h0⟩,?_⟩
 rintro i m ys τ H ⟨rfl,hi,pv⟩;obtain⟨hp,hq⟩:=hl i ys τ H pv;refine⟨hp,?_⟩
 by_cases bV:i < xs.length
 ·refine .inr ⟨⟨xs,xs[i],hq,by simp[bV]⟩,fun x H3 y3=>?_⟩
  obtain⟨e3,ex⟩:=y3;subst e3;exact hs i x ys τ _ (ex xs hq) pv
 ·have e:i=xs.length:=by omega
  subst e;exact .inl ⟨⟨xs,hq,ay _⟩,hd ys τ H pv⟩
def By (N N':List Str) (cu:List (Option Nat)) (sc:Scope):Bool:=(List.range cu.length).all fun j=>match cu[j]? with
 |some (some i)=>(match N[i]? with|some x=>N'[j]? == some x && sc.names.lookup x==some .free|none=>false)
 |_=>true
theorem f6 (h:By N N' cu sc=true) (j i:Nat) (e:cu[j]? = some (some i)):∃x,N[i]? = some x/\N'[j]? = some x/\sc.names.lookup x=some .free:=by
 have hj:j < cu.length:=(cZ.mp e).1;have z:=i9.mp h j (gx.mpr hj);rw[e]at z
 dsimp only at z
 split at z
 ·rename_i x q
  obtain⟨z1,z2⟩:=Bool.and_eq_true_iff.mp z;exact⟨x,q,nM.mp z1,nM.mp z2⟩
 ·cases z
structure Nm (x:Str):Prop where
 lo:1<=x.length
 hi:x.length<=8
 az:∀c∈x.cps.toList,97<=c/\c<=122
def sign (c:Nat):Str:=⟨#[c]⟩
theorem Es:∀ (cs:List Nat) (acc:Array Nat),(cs.map sign).foldl (fun acc p=>acc++("" : Str).cps++p.cps) acc=acc++cs.toArray
 |[],acc=>by simp
 |c::cs,acc=>by
  rw[cn,List.foldl_cons,Es cs];have e:("" : Str).cps = #[]:=rfl;rw[e]
  apply yM.mp
  simp[sign]
theorem Om (cs:List Nat):Txt.join ("" : Str) (cs.map sign)=⟨cs.toArray⟩:=by
 unfold Txt.join Builtin.Str.glued;cases cs with
 |nil=>rfl
 |cons c cs =>
  rw[cn];show(⟨(cs.map sign).foldl _ (sign c).cps⟩:Str)=_;rw[Es]
  apply d9 Str.mk
  apply yM.mp
  simp[sign]
theorem Oo (h:c∈(Txt.slice z none (some 6)).cps.toList):c∈z.cps.toList:=by
 unfold Txt.slice at h;split at h
 ·exact h
 ·simp only[sj]at h
  obtain⟨i,_,e⟩:=h;obtain⟨_,e2⟩:=mh.mp e;rw[<-e2];simp
theorem Et (z:Str):(Txt.slice z none (some 6)).length<=6:=by
 have hi:(Builtin.Str.strSliceIndices none (some 6) 1 z.length).length<=6:=by
  unfold Builtin.Str.strSliceIndices sliceRange;simp only[show(1:Int) > 0 by decide,gN,ar,yN]
  split <;> (try split) <;> omega
 unfold Txt.slice;split
 ·rename_i h
  have e:(Builtin.Str.strSliceIndices none (some 6) 1 z.length).length=z.length:=by simpa using h
  omega
 ·show(List.filterMap _ _).toArray.size<=6
  rw[bY];exact cL (List.length_filterMap_le _ _) hi
theorem tx (a b:Str):(a++b).cps=a.cps++b.cps:=rfl
theorem QG (hz:∀c∈z.cps.toList,97<=c/\c<=122) (hc:97<=c/\c<=122):Nm (Txt.slice z none (some 6)++sign c++("q" : Str)):=by
 have hq:("q" : Str).cps = #[113]:=by decide +kernel
 have hl:=Et z;have e:(Txt.slice z none (some 6)++sign c++("q" : Str)).length=(Txt.slice z none (some 6)).length+2:=by
  show(_:Array Nat).size=_;rw[tx,tx,hq];show(_ ++ #[c] ++ #[113]).size=_;rw[DM,DM];rfl
 refine⟨by omega,by omega,fun d hd=>?_⟩
 rw[tx,tx,hq]at hd;have oM:d∈(Txt.slice z none (some 6)).cps.toList\/d=c\/d=113:=by
  have:d∈((Txt.slice z none (some 6)).cps ++ #[c] ++ #[113]).toList:=hd;simp at this;rcases this with h|h|h
  ·exact .inl (by simpa using h)
  ·exact .inr (.inl h)
  ·exact .inr (.inr h)
 rcases oM with h|h|h
 ·exact hz d (Oo h)
 ·rw[h];exact hc
 ·rw[h];omega
theorem Py {p:Str}{d:Nat} (h:p++sign c++("q" : Str)=p++sign d++("q" : Str)):c=d:=by
 have h1:=d9 (fun s:Str=>s.cps.toList) h;simp only[tx]at h1;have h2:p.cps.toList++([c]++("q" : Str).cps.toList)=p.cps.toList++([d]++("q" : Str).cps.toList):=by
  simpa [sign,Array.toList_append] using h1
 have h3:=List.append_cancel_left h2
 simpa using h3
theorem AN:∀ {ys found:List Str},ys.Nodup->found.length < ys.length -> ∃y∈ys,y ∉ found
 |[],found,_,h=>by simp at h
 |y::ys,found,nd,h=>by
  obtain⟨n1,n2⟩:=iE.mp nd
  by_cases hy:y∈found
  ·have hl:=MF hy
   have hp:=abm hy;obtain⟨z,hz,hn⟩:=AN (found:=found.erase y) n2 (by rw[hl];rw[b5]at h;omega)
   refine⟨z,a9 _ hz,fun q=>hn ?_⟩;have ne:z≠y:=fun e=>n1 (by rw[<-e];exact hz)
   exact(MG ne).mpr q
  ·exact⟨y,aZ,hy⟩
theorem Ad (K:Frag) (h:X.K=K):b8 X (compareOp .In) (xy K false):=by subst h;exact ER
theorem Oq (K:Frag) (h:X.K=K):b8 X (compareOp .NotIn) (xy K true):=by subst h;exact Eh
theorem zw (K:Frag) (h:X.K=K):jK X (m4 K):=by subst h;exact cq
theorem Pz (K:Frag) (h:X.K=K):jK X (Bv K):=by subst h;exact bU
theorem EV {l:Expr} (K:Frag) (h:X.K=K) (hl:PE X l tl):PI X tg l (Iw K tl):=by subst h;exact jv hl
theorem vP (x:Str) (ys:List Str):oW (.str x) (ys.map V.str)=decide (x∈ys):=by
 unfold oW;rw[MH]
 induction ys with
 |nil=>simp
 |cons y ys ih =>
  rw[nK,ih];show((y==x) || decide (x∈ys))=decide (x∈y::ys)
  by_cases h:y=x
  ·subst h;simp
  ·have h':(y==x)=false:=l9.mpr h
   rw[h',Bool.false_or];have:x∈y::ys ↔ x∈ys:=by simp[bb h]
   simp[this]
theorem sG (ys:List Str):(ys.map V.str).all lE=true:=by
 rw[i9];intro v hv;obtain⟨y,_,rfl⟩:=cD.mp hv
 rfl
theorem sH (hc:X.calm=true):dq X (.builtin "all") (fun xs H Q=>∃ (p:Addr) (bs:List Bool),xs = [.ref p]/\ag X.K H p (bs.map V.bl)/\Q (.bl (bs.all id)) H):=by
 intro pins s σ H xs us Q I r h;obtain⟨p,bs,rfl,hq,q⟩:=h;obtain⟨u,rfl,rx⟩:=vals1 r;cases rx
 obtain⟨its,rv,pl,hz⟩:=I.list hq;have hlen:=rv.length;have vals:its=bs.map Value.bool:=by
  clear q hq pl hz r hlen
  induction bs generalizing its with
  |nil=>cases rv;rfl
  |cons b bs ih =>
   cases rv with
   |cons r1 rt=>cases r1;rw[ih _ rt];rfl
 have new:∀b o,s.heap.get? b=some o->b≠s.heap.objs.size:=fun b o e=>bZ (bw e);obtain⟨ol,Cj,_⟩:=id pl.isList;refine call_all_walk (DF pl.isList ?_);refine⟨s.heap.objs.size,_,_,_,_,_,fun i=>bs.getD i true,rfl,Walks.list (A:=X.A.in1) (I.ok.hd hc) s.heap.objs.size p (new p ol Cj) its.toArray,⟨⟨_,cw _ rfl,rfl,rfl⟩,pl.isList.at fun o e=>bc _ e⟩,fun i v s2 Q2 E2 hv oX=>?_,fun h' tk kp=>?_⟩
 ·rw[vals]at hv
  have:bs[i]?.map Value.bool=some v:=by simpa using hv
  obtain⟨b,hb,rfl⟩:=ie.mp this;refine jR ?_;have e:bs.getD i true=b:=by rw[bX,hb];rfl
  exact e ▸ oX
 ·have fin:(List.range its.toArray.size).all (fun i=>bs.getD i true)=bs.all id:=by
   have hs:its.toArray.size=bs.length:=by rw[vals];simp
   rw[hs]
   apply vg.mpr
   simp only[i9,gx]
   constructor
   ·intro h b hb
    obtain⟨i,hi,rfl⟩:=yO hb
    simpa [List.getD,hi] using h i hi
   ·intro h i hi
    simpa [List.getD,hi] using h bs[i] (fV hi)
  rw[fin];exact⟨.bl _,H,I.kept (t':=tk) fun b o e=>kp b o (by simpa using new b o e) (bc _ e),rfl,q⟩
end L2
namespace L2
open PySem PySem.Spec PyProof.Rows
section
variable{κ:Type} [DecidableEq κ]
def ck (kvs:List (κ×V)) (k:κ):Option V:=(kvs.find? fun kv=>decide (kv.1=k)).map (·.2)
def putK (kvs:List (κ×V)) (k:κ) (v:V):List (κ×V):=
 if (kvs.any fun kv=>decide (kv.1=k))=true then kvs.map (fun kv=>if kv.1=k then (kv.1,v) else kv) else kvs ++ [(k,v)]
theorem iF {p:κ×V}{r:List (κ×V)}{k:κ} (e:p.1=k):ck (p::r) k=some p.2:=by simp[ck,vj,e]
theorem ij {p:κ×V}{r:List (κ×V)}{k:κ} (e : ¬ p.1=k):ck (p::r) k=ck r k:=by simp[ck,vj,e]
theorem nV (k:κ):∀kvs:List (κ×V),(kvs.any fun kv=>decide (kv.1=k))=(ck kvs k).isSome
 |[]=>rfl
 |p::r=>by
  rw[nK]
  by_cases e:p.1=k
  ·simp only[iF e,b4 e,Bool.true_or,Option.isSome_some]
  ·rw[ij e,cm e,Bool.false_or];exact nV k r
theorem FF (k j:κ) (y:V):∀kvs:List (κ×V),ck (kvs.map fun kv=>if kv.1=k then (kv.1,y) else kv) j=(ck kvs j).map fun x=>if j=k then y else x
 |[]=>rfl
 |p::r=>by
  have ih:=FF k j y r;rw[cn]
  by_cases h:p.1=k
  ·rw[ax h]
   by_cases e:p.1=j
   ·rw[iF (p:=(p.1,y)) e,iF e,vf,ax (e.symm.trans h)]
   ·rw[ij (p:=(p.1,y)) e,ij e,ih]
  ·rw[aj h]
   by_cases e:p.1=j
   ·rw[iF (p:=p) e,iF e,vf,aj (fun z=>h (e.trans z))]
   ·rw[ij (p:=p) e,ij e,ih]
theorem EW (k j:κ) (y:V):∀kvs:List (κ×V),ck kvs k=none->ck (kvs ++ [(k,y)]) j=if j=k then some y else ck kvs j
 |[],_=>by
  by_cases e:k=j
  ·rw[ax e.symm];exact iF (p:=(k,y)) e
  ·rw[aj (fun z=>e z.symm)];exact ij (p:=(k,y)) e
 |p::r,hn=>by
  rw[List.cons_append];have hk : ¬ p.1=k:=fun z=>by rw[iF z]at hn;cases hn
  rw[ij hk]at hn;have ih:=EW k j y r hn
  by_cases e:p.1=j
  ·rw[iF e,iF e,aj (fun z=>hk (e.trans z))]
  ·rw[ij e,ij e,ih]
theorem PF (kvs:List (κ×V)) (k j:κ) (y:V):ck (putK kvs k y) j=if j=k then some y else ck kvs j:=by
 unfold putK
 by_cases a:(kvs.any fun kv=>decide (kv.1=k))=true
 ·rw[ax a,FF]
  rw[nV]at a
  by_cases e:j=k
  ·obtain⟨x,hx⟩:=abe.mp a
   rw[ax e,e,hx,vf,ax rfl]
  ·rw[aj e]
   cases ck kvs j with
   |none=>rfl
   |some x=>rw[vf,aj e]
 ·rw[aj a]
  refine EW k j y kvs ?_;rw[nV]at a;cases q:ck kvs k with
  |none=>rfl
  |some x=>rw[q]at a;exact(a rfl).elim
theorem El (kvs:List (κ×V)) (k:κ) (v:V):(putK kvs k v).length<=kvs.length+1:=by
 unfold putK;split
 ·rw[ar];omega
 ·rw[eO,b5,yP];omega
theorem FG {kvs:List (κ×V)}{k:κ} (v:V) (h:ck kvs k=none):putK kvs k v=kvs ++ [(k,v)]:=by
 unfold putK;rw[nV,h];exact aj (by decide)
theorem iK.zx {o:Option V}{u:Option Value} (r:iK o u):o.isSome=u.isSome:=by
 cases o with
 |none=>cases u with
  |none=>rfl
  |some _=>exact(show False from r).elim
 |some _=>cases u with
  |none=>exact(show False from r).elim
  |some _=>rfl
theorem KV.val {kvs:List (κ×V)}{vs:List (κ×Value)} (r:KV kvs vs) (k:κ):iK (ck kvs k) (valueAt vs k):=by
 unfold KV at r
 induction r with
 |nil=>exact True.intro
 |@cons p q ps qs h t ih =>
  obtain⟨h1,h2⟩:=h
  by_cases e:p.1=k
  ·have e':q.1=k:=h1.symm.trans e
   have b:valueAt (q::qs) k=some q.2:=by simp[valueAt,vj,e']
   rw[iF e,b];exact h2
  ·have e' : ¬ q.1=k:=fun z=>e (h1.trans z)
   have b:valueAt (q::qs) k=valueAt qs k:=by simp[valueAt,vj,e']
   rw[ij e,b];exact ih
theorem KV.any {kvs:List (κ×V)}{vs:List (κ×Value)} (r:KV kvs vs) (k:κ):(kvs.any fun kv=>decide (kv.1=k))=vs.any fun kv=>decide (kv.1=k):=by
 unfold KV at r
 induction r with
 |nil=>rfl
 |cons h t ih=>rw[nK,nK,ih,h.1]
theorem KV.Bz {kvs:List (κ×V)}{vs:List (κ×Value)} (r:KV kvs vs) (k:κ) (ry:RelV y u) :
  KV (kvs.map fun kv=>if kv.1=k then (kv.1,y) else kv) (vs.map fun kv=>if kv.1=k then (kv.1,u) else kv):=by
 unfold KV at r ⊢
 induction r with
 |nil=>exact .nil
 |@cons p q ps qs h t ih =>
  rw[cn,cn];refine .cons ?_ ih;obtain⟨h1,h2⟩:=h
  by_cases e:p.1=k
  ·rw[ax e,ax (h1.symm.trans e)];exact⟨h1,ry⟩
  ·rw[aj e,aj (fun z=>e (h1.trans z))];exact⟨h1,h2⟩
theorem KV.put {kvs:List (κ×V)}{vs:List (κ×Value)} (r:KV kvs vs) (k:κ) (ry:RelV y u):KV (putK kvs k y) (stored vs k u):=by
 unfold putK stored;rw[r.any k]
 by_cases e:(vs.any fun kv=>decide (kv.1=k))=true
 ·rw[ax e,ax e];exact r.Bz k ry
 ·rw[aj e,aj e];exact Paired.snoc r ⟨rfl,ry⟩
theorem KV.keys {kvs:List (κ×V)}{vs:List (κ×Value)} (r:KV kvs vs):kvs.map (·.1)=vs.map (·.1):=by
 unfold KV at r
 induction r with
 |nil=>rfl
 |cons h t ih=>rw[cn,cn,ih,h.1]
theorem KV.length {kvs:List (κ×V)}{vs:List (κ×Value)} (r:KV kvs vs):kvs.length=vs.length:=fk r
end
theorem tP {k:Key} (r:RelV (kV k) u):(cI P w).is k u=true:=by
 cases k with
 |inl i=>obtain⟨t,e⟩:=(show ∃t,u=Value.int i t from r);subst e;exact NX P w i t
 |inr x=>obtain⟨t,e⟩:=(show ∃t,u=Value.str x t from r);subst e;exact NY P w x t
theorem EX {P:Program}{w:World}:∀ {ks:List Key}{us:List Value},Vals (ks.map kV) us->ItemsAre (cI P w) ks us
 |[],_,r=>by rw[List.map_nil]at r;cases r;exact .nil
 |k::ks,_,r=>by
  rw[cn]at r;cases r with
  |cons h t=>exact .cons (tP h) (EX t)
abbrev KT (H:Hp):List (List Key×V)->List (List Key×Addr×Value)->Prop:=Paired fun p q=>p.1=q.1/\H q.2.1=some (.tup (p.1.map kV))/\RelV p.2 q.2.2
theorem KT.val {kvs:List (List Key×V)}{xs:List (List Key×Addr×Value)} (r:KT H kvs xs) (k:List Key):iK (ck kvs k) ((atKey xs k).map (·.2)):=by
 induction r with
 |nil=>exact True.intro
 |@cons p q ps qs h t ih =>
  obtain⟨h1,_,h2⟩:=h
  by_cases e:p.1=k
  ·have e':q.1=k:=h1.symm.trans e
   have b:atKey (q::qs) k=some q.2:=by simp[atKey,vj,e']
   rw[iF e,b];exact h2
  ·have e' : ¬ q.1=k:=fun z=>e (h1.trans z)
   have b:atKey (q::qs) k=atKey qs k:=by simp[atKey,vj,e']
   rw[ij e,b];exact ih
theorem KT.Bz {kvs:List (List Key×V)}{xs:List (List Key×Addr×Value)} (r:KT H kvs xs) (k:List Key) (ry:RelV y u) :
  KT H (kvs.map fun kv=>if kv.1=k then (kv.1,y) else kv) (xs.map (putAt k u)):=by
 induction r with
 |nil=>exact .nil
 |@cons p q ps qs h t ih =>
  rw[cn,cn];refine .cons ?_ ih;obtain⟨h1,h2,h3⟩:=h;unfold putAt
  by_cases e:p.1=k
  ·rw[ax e,ax (h1.symm.trans e)];exact⟨h1,h2,ry⟩
  ·rw[aj e,aj (fun z=>e (h1.trans z))];exact⟨h1,h2,h3⟩
theorem KT.put {kvs:List (List Key×V)}{xs:List (List Key×Addr×Value)} (r:KT H kvs xs) (k:List Key) (hb:H b=some (.tup (k.map kV))) (ry:RelV y u) :
  KT H (putK kvs k y) (storedH xs k b u):=by
 have e:(kvs.any fun kv=>decide (kv.1=k))=(atKey xs k).isSome:=by
  rw[nV,(r.val k).zx,Option.isSome_map]
 unfold putK storedH;rw[e]
 by_cases q:(atKey xs k).isSome=true
 ·rw[ax q,ax q];exact r.Bz k ry
 ·rw[aj q,aj q];exact Paired.snoc r ⟨rfl,hb,ry⟩
theorem KT.keeps {kvs:List (List Key×V)}{xs:List (List Key×Addr×Value)} (r:KT H kvs xs) (ht:∀b ys,H b=some (.tup ys)->H' b=some (.tup ys)):KT H' kvs xs:=
 Paired.wX r fun _ _ z=>⟨z.1,ht _ _ z.2.1,z.2.2⟩
theorem IB {u:HO} (ok:cT P w H h) (e:Rd H a u):ba P w H h a u:=e.ok ok
theorem tQ (ok:cT P w H h) (e:Rd H a (.dK kvs)):kvs.length<=sizeLine/\(a==sysModules)=false /\ ∃vs,KV kvs vs/\h.DictOf (cI P w) a vs:=
 show ba P w H h a (.dK kvs) from IB ok e
theorem IC (ok:cT P w H h) (e:H a=some (.dK kvs)):kvs.length<=sizeLine/\(a==sysModules)=false /\ ∃vs,KV kvs vs/\h.DictOf (cI P w) a vs:=tQ ok (.inl e)
theorem wt {ks:List Key} (ok:cT P w H h) (e:H a=some (.tup (ks.map kV))):(tupleKind (cI P w)).is h ks a:=by
 obtain⟨_,its,r,o,h1,h2,n,h3,_⟩:=(show ba P w H h a (.tup (ks.map kV)) from ok a _ e);exact⟨o,its.toArray,n,h1,h2,h3,by simpa using EX r⟩
theorem wL {kvs:List (List Key×V)} (ok:cT P w H h) (e:Rd H a (.dT kvs)):kvs.length<=sizeLine/\(a==sysModules)=false /\
  ∃xs,KT H kvs xs/\h.DictOfH (tupleKind (cI P w)) a xs:=by
 obtain⟨z,y,xs,r,o,es,ep,h1,h2,h3,h4,h5⟩:=(show ba P w H h a (.dT kvs) from IB ok e);refine⟨z,y,xs,r,o,es,ep,h1,h2,h3,h4,fun x hx=>?_,h5⟩;have all:∀ {l:List (List Key×V)}{m:List (List Key×Addr×Value)},KT H l m -> ∀x∈m,(tupleKind (cI P w)).is h x.1 x.2.1:=by
  intro l m q
  induction q with
  |nil=>intro x hx;exact nomatch hx
  |@cons p q ps qs hq t ih =>
   intro x hx;rcases bx.mp hx with e|hx
   ·subst e
    exact wt ok (by rw[<-hq.1];exact hq.2.1)
   ·exact ih x hx
 exact all r x hx
theorem Tw {kvs:List (List Key×V)} (ok:cT P w H h) (e:H a=some (.dT kvs)):kvs.length<=sizeLine/\(a==sysModules)=false /\
  ∃xs,KT H kvs xs/\h.DictOfH (tupleKind (cI P w)) a xs:=wL ok (.inl e)
def lK (H:Hp) (a:Addr) (y:V) (r:Option V):Prop:=
 (∃kvs k,Rd H a (.dK kvs)/\y=kV k/\r=ck kvs k) \/ ∃kvs k b,Rd H a (.dT kvs)/\y = .ref b/\H b=some (.tup (k.map kV))/\r=ck kvs k
def lL (H:Hp) (a:Addr) (y v:V) (H':Hp):Prop:=
 (∃kvs k,H a=some (.dK kvs)/\y=kV k/\kvs.length < sizeLine/\H'=upd H a (.dK (putK kvs k v))) \/
 ∃kvs k b,H a=some (.dT kvs)/\y = .ref b/\H b=some (.tup (k.map kV))/\kvs.length < sizeLine/\H'=upd H a (.dT (putK kvs k v))
theorem lK.k {k:Key} (e:H a=some (.dK kvs)):lK H a (kV k) (ck kvs k):= .inl ⟨kvs,k,.inl e,rfl,rfl⟩
theorem lL.k {k:Key} (e:H a=some (.dK kvs)) (hl:kvs.length < sizeLine):lL H a (kV k) v (upd H a (.dK (putK kvs k v))):= .inl ⟨kvs,k,e,rfl,hl,rfl⟩
theorem lL.t {kvs:List (List Key×V)}{k:List Key} (e:H a=some (.dT kvs)) (eb:H b=some (.tup (k.map kV))) (hl:kvs.length < sizeLine) :
  lL H a (.ref b) v (upd H a (.dT (putK kvs k v))):= .inr ⟨kvs,k,b,e,rfl,eb,hl,rfl⟩
section
variable{r:Value}{o:Option V}
theorem Inv.big (I:Inv X pins σ H s):sysModules < s.heap.objs.size:=by
 have h:mainGlobals < s.heap.objs.size:=(I.mod.glob.keeps I.bk).lt;exact pO (by decide) h
theorem OV {Q:Value->Shared->Prop} (hu:A.units+1 < cLine) (I:Inv X pins σ H s) (g:lK H a y (some v)) (ry:RelV y u) (h:∀w' s',Inv X pins σ H s'->RelV v w'->Q w' s') :
  wpAny (model X.prog X.w) A (getItem (.ref a) u) Q E s:=by
 rcases g with⟨kvs,k,e,ey,l⟩|⟨kvs,k,b,e,ey,eb,l⟩
 ·subst ey
  obtain⟨z,hd,vs,rel,dd⟩:=tQ I.aq e;obtain⟨w',hw,gj⟩:=iK.some_of (v:=v) (o:=valueAt vs k) (by rw[l];exact rel.val k)
  exact wpAny_getItem_of (tP ry) dd.mapOf hw (h w' _ (I.tok _) gj)
 ·subst ey
  cases (show u=Value.ref b from ry)
  obtain⟨z,hd,xs,rel,dd⟩:=wL I.aq e;obtain⟨w',hw,gj⟩:=iK.some_of (v:=v) (o:=(atKey xs k).map (·.2)) (by rw[l];exact rel.val k)
  obtain⟨p,hp,rG⟩:=ie.mp hw;refine wpAny_getItem_heap (MI hu) (wt I.aq eb) dd hp ?_;rw[rG];exact h w' _ (I.tok _) gj
theorem U2 {Q:Value->Shared->Prop} (hu:A.units+1 < cLine) (I:Inv X pins σ H s) (g:lK H a y o) (ry:RelV y u) (h:∀s',Inv X pins σ H s'->Q (.bool o.isSome) s') :
  wpAny (model X.prog X.w) A (compareOp .In u (.ref a)) Q E s:=by
 rcases g with⟨kvs,k,e,ey,l⟩|⟨kvs,k,b,e,ey,eb,l⟩
 ·subst ey
  obtain⟨z,hd,vs,rel,dd⟩:=tQ I.aq e;refine wpAny_in_of (tP ry) hd dd.mapOf ?_;rw[<-(rel.val k).zx,<-l];exact h _ (I.tok _)
 ·subst ey
  cases (show u=Value.ref b from ry)
  obtain⟨z,hd,xs,rel,dd⟩:=wL I.aq e;refine wpAny_in_heap (MI hu) (wt I.aq eb) hd dd ?_;have q:=(rel.val k).zx;rw[Option.isSome_map]at q;rw[<-q,<-l];exact h _ (I.tok _)
theorem GU {ob:HO} (I:Inv X pins σ H s) (mu:ug (H a)) (hs:Heap.SameBut a s.heap h') (he:∃q,h'.get? a=some q) (new:ba X.prog X.w (upd H a ob) h' a ob) :
  Inv X pins σ (upd H a ob) { s with heap:=h',toks:=t' }:=
 I.write (x:=a) (e:=a) mu (.inl rfl) (fun b q hb z=>(hs.2 b hb).trans z) he new
theorem HI {vs:List (Key×Value)} (z:kvs.length<=sizeLine) (hd:(a==sysModules)=false) (rel:KV kvs vs) (dd:h'.DictOf (cI P w) a vs) :
  ba P w H' h' a (.dK kvs):=⟨z,hd,vs,rel,dd⟩
theorem OW {Q:Unit->Shared->Prop} (hu:A.units+1 < cLine) (I:Inv X pins σ H s) (g:lL H a y v H') (ry:RelV y u) (rv:RelV v r) (h:∀s',Inv X pins σ H' s'->Q () s') :
  wpAny (model X.prog X.w) A (setItem (.ref a) u r) Q E s:=by
 rcases g with⟨kvs,k,e,ey,l,eH⟩|⟨kvs,k,b,e,ey,eb,l,eH⟩
 ·subst ey eH
  obtain⟨z,hd,vs,rel,dd⟩:=IC I.aq e;have hz:vs.length<=sizeLine:=by rw[<-rel.length];exact z
  have hl:(putK kvs k v).length<=sizeLine:=by have:=El kvs k v;omega
  refine wpAny_setItem_pairs (hsz:=hz) (tP ry) dd fun h' lV hs=>h _ ?_;have he:∃q,h'.get? a=some q:=let ⟨q,_,_,hq,_⟩:=lV;⟨q,hq⟩;exact GU I (by rw[e];exact True.intro) hs he (HI hl hd (rel.put k rv) lV)
 ·subst ey eH
  cases (show u=Value.ref b from ry)
  obtain⟨z,hd,xs,rel,dd⟩:=Tw I.aq e;have hz:xs.length<=sizeLine:=by rw[<-fk rel];exact z
  have hl:(putK kvs k v).length<=sizeLine:=by have:=El kvs k v;omega
  refine wpAny_setItem_heap (hsz:=hz) (MI hu) (wt I.aq eb) dd fun h' lV hs=>h _ ?_;obtain⟨q,es,ep,hq,h2,h3,h4,_,h5⟩:=lV;refine GU I (by rw[e];exact True.intro) hs ⟨q,hq⟩ ⟨hl,hd,_,(rel.put k eb rv).keeps fun c ys ec=>?_,q,es,ep,hq,h2,h3,h4,h5⟩
  rw[ak (eI ec e (fun z=>nomatch z))];exact ec
end
def Jr (i:Expr):Prop:= ∀ov iv,subscripted i false ov iv=operate [ov,iv] (getItem ov iv)
theorem QH {slice:Expr}{id:String}{Q:Value->Shared->Prop}
  (hl:typeLookup (.type T) "__getitem__" = pure (some (.builtin id))) (hs:Jr slice)
  (h:wpAny (model prog w) A (eval value env) (fun o bu=>wpAny (model prog w) A (eval slice env) (fun i jz=>jz.TypeIs o T/\wpAny (model prog w) A (getItem o i) Q E jz) E bu) E s) :
  wpAny (model prog w) A (eval (.Subscript value slice pos) env) Q E s:=by
 refine Subscript_ (pM h (fun o bu U3=>pM U3 (fun i jz BA=>?_) fun _ _ x=>x) fun _ _ x=>x);obtain⟨hT,BA⟩:=BA;unfold subscriptTail;refine ab ?_;rw[getitemInPython_of_ne hT.not_modules];refine ab (MJ hT hl ?_);have fin:wpAny (model prog w) A (subscripted slice false o i) (fun r Js=>wpAny (model prog w) A (letTemporaryGo value o r >>= fun _=>pure r) Q E Js) E jz:=by
  rw[hs o i];exact wpAny_operating (pM BA (fun r Js U4=>ab (wpAny_letTemporaryGo (ai U4))) fun _ _ x=>x)
 first
  |exact ai (ab fin)
  |exact ab (ai (ab fin))
  |exact ab fin
theorem N1 {o:Option V} (I:Inv X pins σ H s) (g:lK H a y o):s.TypeIs (.ref a) "dict" :=by
 rcases g with⟨kvs,k,e,_,_⟩|⟨kvs,k,b,e,_,_,_⟩
 ·obtain⟨_,_,vs,_,dd⟩:=tQ I.aq e
  exact dd.typeIs
 ·obtain⟨_,_,xs,_,dd⟩:=wL I.aq e
  exact dd.typeIs
def ID (td ty:TE):TE:=fun σ H Q=>td σ H fun x H1=>ty σ H1 fun y H2=>∃a v,x = .ref a/\lK H2 a y (some v)/\Q v H2
def U5 (ty td:TE):TE:=fun σ H Q=>ty σ H fun y H1=>td σ H1 fun x H2=>∃a o,x = .ref a/\lK H2 a y o/\Q (.bl o.isSome) H2
def Tx (td ty tv:TE):TS:=fun D σ H=>tv σ H fun v H1=>td σ H1 fun x H2=>ty σ H2 fun y H3=>∃a H4,x = .ref a/\lL H3 a y v H4/\D.nx σ H4
section
variable{o i:Expr}{ach:Pos}{td ty tv:TE}
theorem Ae (hu:X.A.units+1 < cLine) (ho:PE X o td) (hi:PE X i ty) (hs:Jr i):PE X (.Subscript o i pos) (ID td ty):=by
 intro pins s σ H Q I h;refine QH PySem.F.slot_dict_getitem.lookup hs (aH (ho pins s σ H _ I h) fun u s1 ⟨x,H1,I1,rx,q1⟩=>aH (hi pins s1 σ H1 _ I1 q1) fun iv s2 ⟨y,H2,I2,ry,a,v,ex,g,q2⟩=>?_);subst ex;obtain rfl:u=Value.ref a:=rx;exact⟨N1 I2 g,OV hu I2 g ry fun w' s3 I3 gj=>⟨v,H2,I3,gj,q2⟩⟩
theorem RQ (hu:X.A.units+1 < cLine) (hi:PE X i ty) (ho:PE X o td):PC X .In i o (U5 ty td):=by
 intro pins s σ H Q I h;refine aH (hi pins s σ H _ I h) fun iv s1 ⟨y,H1,I1,ry,q1⟩=>aH (ho pins s1 σ H1 _ I1 q1) fun u s2 ⟨x,H2,I2,rx,a,ov,ex,g,q2⟩=>?_;subst ex;obtain rfl:u=Value.ref a:=rx;exact U2 hu I2 g ry fun s3 I3=>⟨.bl ov.isSome,H2,I3,rfl,q2⟩
theorem Af (hu:X.A.units+1 < cLine) (ho:PE X o td) (hi:PE X i ty) (hv:PE X value tv) (hs:swapsWith value (some (.Subscript o i pos')) pos.line X.env=pure false) :
  PS X (.Assign [.Subscript o i pos'] value pos) (Tx td ty tv):=by
 intro pins s σ H D I h;refine wpAny_Assign_Subscript (aH (hv pins s σ H _ I h) fun r s1 ⟨v,H1,I1,rv,q1⟩=>aH (ho pins s1 σ H1 _ I1 q1) fun u s2 ⟨x,H2,I2,rx,q2⟩=>aH (hi pins s2 σ H2 _ I2 q2) fun iv s3 ⟨y,H3,I3,ry,a,H4,ex,g,q3⟩=>?_) hs;subst ex;obtain rfl:u=Value.ref a:=rx;exact OW hu I3 g ry rv fun s4 I4=>⟨σ,H4,I4,q3⟩
end
theorem PH (h:Heap) (hb:sysModules < h.objs.size):ba P w H (h.push { cls:= .type "dict",data:= .dict #[] }) h.objs.size (.dK []):=
 ⟨aN _,l9.mpr (bb (bZ hb)),[],.nil,Heap.DictOf.new h⟩
theorem PJ (h:Heap) (hb:sysModules < h.objs.size):ba P w H (h.push { cls:= .type "dict",data:= .dict #[] }) h.objs.size (.dT []):=
 ⟨aN _,l9.mpr (bb (bZ hb)),[],.nil,_,#[],0,cw _ rfl,⟨rfl,rfl,rfl⟩,rfl,rfl,yQ⟩
def HJ:TE:=fun _ H Q=>∀p,H p=none->Q (.ref p) (upd H p (.dK []))
def RS:TE:=fun _ H Q=>∀p,H p=none->Q (.ref p) (upd H p (.dT []))
theorem zN:PE X (.Dict [] [] pos) HJ:=fun pins s σ H Q I h =>
 wpAny_Dict_empty ⟨.ref s.heap.objs.size,_,I.laid (a:=s.heap.objs.size) (o:= .dK []) (t':=s.toks) (fun _ _ q=>bc _ q) (ay _) (PH s.heap I.big),rfl,h _ (I.aq.fresh (ay _))⟩
theorem PK:PE X (.Dict [] [] pos) RS:=fun pins s σ H Q I h =>
 wpAny_Dict_empty ⟨.ref s.heap.objs.size,_,I.laid (a:=s.heap.objs.size) (o:= .dT []) (t':=s.toks) (fun _ _ q=>bc _ q) (ay _) (PJ s.heap I.big),rfl,h _ (I.aq.fresh (ay _))⟩
end L2
namespace HT
open PySem PyProof.Rows
theorem Nw {t:Addr}{Q:Value->Shared->Prop} (ht:IsTup s.heap t items) (hs:s.heap.IsSliceOf sl vl vu .none) (pl:IsPart vl lo) (pu:IsPart vu hi)
  (h0:a6 items.size 0 lo=0) (h1:a6 items.size items.size hi=items.size) (h:Q (.ref t) s):wpAny (model prog w) A (getItem (.ref t) (.ref sl)) Q E s:=by
 obtain⟨os,oV,xw,uv⟩:=id hs;have Cd:s.TypeIs (.ref sl) "slice" :=⟨os,oV,xw⟩;unfold getItem
 try with_reducible refine fb ?_
 first|refine ab (ai ?_)|skip
 refine ab (wpAny_sequenceKey ht.typeIs (by decide) ?_)
 refine ab (yF (name:=Str.ofString "__getitem__") ht.typeIs vh
  (jS vh ht.typeIs entry_tuple_getitem ?_ (args_tuple_getitem _ _)))
 show wpAny _ _ (Builtin.Tuple.tupleItemsOf (.ref t) >>= _) _ _ s;refine ab (tupleItemsOf_ ht ?_);refine ab (nJ Cd ?_);rw[ax (by decide)]
 refine ab (Ec hs pl pu ?_);rw[h0,h1];have U6:((((0:Nat):Int)==0 && (1:Int)==1 && (items.size - 0)==items.size)=true):=by simp
 show wpAny _ _ (if ((((0:Nat):Int)==0 && (1:Int)==1 && (items.size - 0)==items.size)=true) then _ else _) _ _ s;rw[ax U6];refine ab (ab (nJ ht.typeIs (ai ?_)));rw[ax (by decide)]
 exact ab (yA (ai ⟨_,rfl,ai h⟩))
theorem PL {t:Addr}{ws:List Value}{Q:Value->Shared->Prop} (ht:IsTup s.heap t ([]:List Value).toArray) (hb:IsTup s.heap b ws.toArray) (h:Q (.ref b) s):wpAny (model prog w) A (binaryOp .Add (.ref t) (.ref b)) Q E s:=by
 obtain⟨⟨cls,dd,data,sl⟩,ho,hc,n,hd⟩:=id ht;obtain⟨⟨Jg,xu,data2,xv⟩,iU,dG,n2,hd2⟩:=id hb;obtain rfl:cls = .type "tuple" :=hc;obtain rfl:data = .seq #[] n:=hd;obtain rfl:Jg = .type "tuple" :=dG;obtain rfl:data2 = .seq ws.toArray n2:=hd2;exact concat_meets ⟨_,ho,rfl⟩ ⟨_,iU,rfl⟩ Mx My Mz MA (MB _ _) (tuple_addW0 t b #[] ws.toArray n n2 dd xu sl xv rfl) ⟨ho,iU,h⟩
end HT
namespace L2
open PySem PySem.Spec PyProof.Rows PySem.W
theorem FH {o:HO} (hq:H q=none):aw H (upd H q o):=fun b u e=>by rw[ak (a7 e hq)];exact e
def U7:V->Option Int->Option Int->Hp->VK->Prop:=fun x lo hi H Q=>∃a xs,x = .ref a/\H a=some (.tup xs) /\ ∀p H',aw H H'->H' p=some (.tup (fu xs lo hi))->Q (.ref p) H'
theorem Ag:rB X U7:=by
 intro pins s σ H x v vl vu lo hi sl Q I rx hs pl pu h;obtain⟨a,xs,rfl,hx,q⟩:=h
 by_cases hw:HT.a6 xs.length 0 lo=0/\HT.a6 xs.length xs.length hi=xs.length
 ·cases rx
  obtain⟨its,r,ht,hz⟩:=I.tuple (ao.of hx);have hlen:its.toArray.size=xs.length:=by rw[bY];exact r.length.symm
  refine⟨"tuple",_,vh.lookup,ht.typeIs,HT.Nw ht hs pl pu (by rw[hlen];exact hw.1) (by rw[hlen];exact hw.2) ?_⟩
  refine⟨.ref a,H,I,rfl,q a H (aw.refl _) ?_⟩;unfold fu;rw[hw.1,hw.2,MK,ML,fX];exact hx
 ·exact RI pins s σ H (.ref a) v vl vu lo hi sl Q I rx hs pl pu ⟨a,xs,rfl,ao.of hx,hw,fun p hp=>q p _ (FH hp) af⟩
def Tz:R2:=fun x y H Q=>∃a b xs ys,x = .ref a/\y = .ref b/\H a=some (.tup xs)/\H b=some (.tup ys)/\xs.length+ys.length<=sizeLine /\ ∀p H',aw H H'->H' p=some (.tup (xs++ys))->Q (.ref p) H'
theorem GV:b8 X (binaryOp .Add) Tz:=by
 intro pins s σ H x y v u Q I rx ry h;obtain⟨a,b,xs,ys,rfl,rfl,ha,hb,hz,q⟩:=h;cases xs with
 |nil =>
  cases rx
  cases ry
  obtain⟨its,r1,p1,_⟩:=I.tuple (ao.of ha);obtain⟨jA,r2,p2,_⟩:=I.tuple (ao.of hb);cases r1
  exact HT.PL p1 p2 ⟨.ref b,H,I,rfl,q b H (aw.refl _) hb⟩
 |cons z xs=>exact Qz pins s σ H (.ref a) (.ref b) v u Q I rx ry ⟨a,b,_,ys,rfl,rfl,ao.of ha,ao.of hb,by simp,hz,fun e=>q a H (aw.refl _) (by rw[e,k7];exact ha),fun _ p hp=>q p _ (FH hp) af⟩
theorem GX {k:Key} (h:(cI P w).is k u=true):RelV (kV k) u:=by
 cases k with
 |inl i=>exact Value.isInt_shape (show Value.isInt i u=true from h)
 |inr x=>exact Value.isStrOf_shape (show Value.isStrOf x u=true from h)
theorem GY:∀ {xs:List V}{us:List Value},xs.length=us.length->(∀ (i:Nat) x u,xs[i]? = some x->us[i]? = some u->RelV x u)->Vals xs us
 |[],[],_,_=>.nil
 |[],_::_,h,_=>by simp at h
 |_::_,[],h,_=>by simp at h
 |x::xs,u::us,h,f=>.cons (f 0 x u rfl rfl) (GY (by simpa using h) fun i y v a b=>f (i+1) y v (by simpa using a) (by simpa using b))
theorem Ot (hc:X.calm=true):dq X (.type "list") (fun xs H Q=>∃d kvs,xs = [.ref d]/\H d=some (.dK kvs) /\ ∀l,H l=none->Q (.ref l) (upd H l (.lst (kvs.map fun kv=>kV kv.1)))):=by
 intro pins s σ H xs us Q I r h;obtain⟨d,kvs,rfl,hd,q⟩:=h;obtain⟨u,rfl,rx⟩:=vals1 r;cases rx
 obtain⟨hz,lo,vs,kv,dd⟩:=IC I.aq hd;obtain⟨ep,da⟩:=dd.dictAt;have hlen:kvs.length=vs.length:=kv.length;refine kdl_call (kdl_dict (kvs:=vs) (ep:=ep) lo) (I.ok.hd hc) da (by rw[<-hlen];exact hz) fun h' tk acc c kp e it=>?_
 refine⟨.ref s.heap.objs.size,_,I.laid (t':=tk) kp (ay _) (show ba X.prog X.w _ h' _ (.lst (kvs.map fun kv=>kV kv.1)) from⟨by rw[ar];exact hz,acc.toList,c,?_,by rw[Array.toArray_toList];exact e⟩),rfl,q _ (I.aq.fresh (ay _))⟩
 refine GY (by rw[ar,d7];exact hlen.trans it.1.symm) fun i x v hx hv=>?_
 obtain⟨k,y,hk,hi⟩:=it.2 i v (by rw[<-pN];exact hv)
 obtain⟨rH,gF,rfl⟩:=ie.mp (by rw[<-cU];exact hx)
 have e:rH.1=k:=by
  clear it hx hv hlen da dd q hz hd
  induction kv generalizing i with
  |nil=>simp at gF
  |cons p _ ih =>
   cases i with
   |zero =>
    simp at gF hk;subst gF;rw[p.1,hk]
   |succ i=>exact ih i (by simpa using hk) (by simpa using gF)
 rw[e];exact GX hi
end L2
namespace HT
open PySem PyProof.Rows
section
open PySem.SeqAt
open PySem.AutoSeq1 (wpAny_loadPart')
open PySem.MeetsSeq PySem.MeetsSeq2 PySem.MeetsSeq3
end
end HT
namespace L2
open PySem PySem.Spec PyProof.Rows PySem.W HT
theorem qe {α β:Type}{F:α->β->Prop}:∀ {l:List α}{m:List β}{i:Nat}{x:α},Paired F l m->l[i]? = some x -> ∃y,m[i]? = some y/\F x y
 |_,_,i,x,.nil,e=>by simp at e
 |_,_,0,x,.cons p _,e=>by simp at e;subst e;exact⟨_,rfl,p⟩
 |_,_,i+1,x,.cons _ t,e=>by simpa using qe (i:=i) t (by simpa using e)
end L2
namespace HT
open PySem PyProof.Rows
open PySem.AutoSeq1 (wpAny_loadPart')
end HT
namespace L2
open PySem PySem.Spec PyProof.Rows PySem.W HT
end L2
namespace HT
open PySem PyProof.Rows
end HT
namespace HT
open PySem PyProof.Rows PySem.W
end HT
namespace HT
open PySem PyProof.Rows PySem.W L2
theorem vF:plainId "dict.update.loop" = true:=by decide +kernel
theorem EY:entryFor table "dict.update.loop" = some Builtin.«dict.update.loop» :=entryFor_of_fast (by kernel_rfl)
theorem stored_new {K:Type} [DecidableEq K] {kvs:List (K×Value)}{k:K}{v:Value} (h:k ∉ kvs.map (·.1)):stored kvs k v=kvs ++ [(k,v)]:=by
 unfold stored;rw[aj];intro z;obtain⟨p,hp,e⟩:=yR.mp z;exact h (cD.mpr ⟨p,hp,by simpa using e⟩)
end HT
namespace HT
open PySem PyProof.Rows
section
open PySem.SeqAt
open PySem.AutoSeq1 (wpAny_loadPart')
open PySem.MeetsSeq PySem.MeetsSeq2 PySem.MeetsSeq3
end
end HT
namespace L2
open PySem PySem.Spec PyProof.Rows PySem.W HT
theorem EZ (hc:X.calm=true):dq X (.builtin "any") (fun xs H Q=>∃ (p:Addr) (bs:List Bool),xs = [.ref p]/\ag X.K H p (bs.map V.bl)/\Q (.bl (bs.any id)) H):=by
 intro pins s σ H xs us Q I r h;obtain⟨p,bs,rfl,hq,q⟩:=h;obtain⟨u,rfl,rx⟩:=vals1 r;cases rx
 obtain⟨its,rv,pl,hz⟩:=I.list hq;have hlen:=rv.length;have vals:its=bs.map Value.bool:=by
  clear q hq pl hz r hlen
  induction bs generalizing its with
  |nil=>cases rv;rfl
  |cons b bs ih =>
   cases rv with
   |cons r1 rt=>cases r1;rw[ih _ rt];rfl
 have new:∀b o,s.heap.get? b=some o->b≠s.heap.objs.size:=fun b o e=>bZ (bw e);obtain⟨ol,Cj,_⟩:=id pl.isList;refine call_any_walk (DF pl.isList ?_);refine⟨s.heap.objs.size,_,_,_,_,_,fun i=>bs.getD i false,rfl,Walks.list (A:=X.A.in1) (I.ok.hd hc) s.heap.objs.size p (new p ol Cj) its.toArray,⟨⟨_,cw _ rfl,rfl,rfl⟩,pl.isList.at fun o e=>bc _ e⟩,fun i v s2 Q2 E2 hv oX=>?_,fun h' tk kp=>?_⟩
 ·rw[vals]at hv
  have:bs[i]?.map Value.bool=some v:=by simpa using hv
  obtain⟨b,hb,rfl⟩:=ie.mp this;refine jR ?_;have e:bs.getD i false=b:=by rw[bX,hb];rfl
  exact e ▸ oX
 ·have fin:(List.range its.toArray.size).any (fun i=>bs.getD i false)=bs.any id:=by
   have hs:its.toArray.size=bs.length:=by rw[vals];simp
   rw[hs]
   apply vg.mpr
   simp only[yR,gx]
   constructor
   ·rintro⟨i,hi,e⟩
    exact⟨bs[i],fV hi,by simpa [List.getD,hi] using e⟩
   ·rintro⟨b,hb,e⟩
    obtain⟨i,hi,rfl⟩:=yO hb;exact⟨i,hi,by simpa [List.getD,hi] using e⟩
  rw[fin];exact⟨.bl _,H,I.kept (t':=tk) fun b o e=>kp b o (by simpa using new b o e) (bc _ e),rfl,q⟩
def Ck (x:Str):It:=⟨fun i _=>i < x.cps.size,fun i H v H'=>H'=H /\ ∃c,x.cps[i]? = some c/\v = .str ⟨#[c]⟩,fun i _=>x.cps.size<=i⟩
theorem FI (it:Addr) (x:Str) (t:Tok) (T:String) (hT : ["enumerate","zip","dict_itemiterator","dict_reverseitemiterator","odict_iterator","itertools.zip_longest","itertools.pairwise"].contains T=false)
  (W:∀A':Around,A'.handled=none->Walks P w A' it [it] [it] x.cps.size (SignAt x) (fun i h=>h.IsStrIter it T x t i))
  (hs:∀ (A:Around) (i:Nat) (s:Shared) (Q:Value->Shared->Prop) (E:Value->Shared->Prop),s.heap.IsStrIter it T x t i->Q (.ref it) s->wpAny (model P w) A (pyIter (.ref it)) Q E s):Turn P w K tg (Ck x) [it] it (fun i h=>i<=x.cps.size/\h.IsStrIter it T x t i) where
 mem:=by simp
 obj:=fun i h st b hb=>by
  obtain rfl:b=it:=by simpa using hb
  obtain⟨_,o,e,c,d⟩:=st;exact⟨o,e,fun v z=>by rw[d]at z;cases z⟩
 keep:=fun i h h' st k=>by
  obtain⟨l,o,e,r⟩:=st;exact⟨l,o,k it (by simp) _ e,r⟩
 item:=by
  intro X hP hw hK hc i pins s σ H E I hf st hg;subst hP hw hK;obtain⟨f0,f1,f2,f3,f4,f5⟩:=hf it (by simp)
  refine(W X.A (I.ok.hd hc)).item i s _ _ hg st.2 fun v h' tk hv fH kk=>?_;obtain⟨c,u,Wx,rfl⟩:=hv;have I1:Inv X pins σ H { s with heap:=h',toks:=tk }:=I.turned (fun b o hb e=>kk b o (by simpa using hb) e) f0 f1 f3 f4 f5
  obtain⟨o,e,cl,d⟩:=id fH;exact⟨_,rfl,qz (s:={ s with heap:=h',toks:=tk }) e cl d hT ⟨.str ⟨#[c]⟩,H,I1,⟨u,rfl⟩,⟨rfl,c,Wx,rfl⟩,⟨hg,fH⟩,fun b hb=>(hf b hb).1⟩⟩
 done:=by
  intro X hP hw hK hc i pins s σ H E I hf st hg;subst hP hw hK;obtain⟨f0,f1,f2,f3,f4,f5⟩:=hf it (by simp)
  have ei:i=x.cps.size:=MM st.1 hg;subst ei;exact(W X.A (I.ok.hd hc)).done s _ _ st.2 fun h' tk kk=>⟨rfl,I.turned (fun b o hb e=>kk b o (by simpa using hb) e) f0 f1 f3 f4 f5⟩
 self:=fun A i s Q E st h=>hs A i s Q E st.2 h
def U8 (te:TE):TI:=fun σ H R=>te σ H fun v H1=>∃x,v = .str x/\R (Ck x) H1
theorem HK (he:PE X e te):PI X tg e (U8 te):=by
 intro pins s σ H R I h;refine aH (he pins s σ H _ I h) fun v s1 ⟨y,H1,I1,r1,x,ey,q⟩=>?_;subst ey;obtain⟨t,rfl⟩:=r1;have I2:∀o:Obj,Inv X pins σ H1 { s1 with heap:=s1.heap.push o }:=fun o=>I1.kept (t':=s1.toks) fun b ob z=>bc _ z;have fp:∀b ∈ [s1.heap.objs.size],jf X pins H1 b:=fun b hb=>by
  obtain rfl:b=s1.heap.objs.size:=by simpa using hb
  exact I1.m3 (ay _) (I1.aq.fresh (ay _))
 cases ha:x.cps.all (· < 128)
 ·refine wpAny_pyIter_wide ha ?_
  exact⟨s1.heap.objs.size,[s1.heap.objs.size],_,_,H1,rfl,I2 _,FI s1.heap.objs.size x t "str_iterator" (by decide) (fun A' hA=>Walks.strWide hA _ x t) (fun _ _ _ _ _ st h=>wpAny_pyIter_striter_wide st h),⟨aN _,_,cw _ rfl,rfl,rfl⟩,fp,q⟩
 ·refine wpAny_pyIter_ascii ha ?_
  exact⟨s1.heap.objs.size,[s1.heap.objs.size],_,_,H1,rfl,I2 _,FI s1.heap.objs.size x t "str_ascii_iterator" (by decide) (fun A' hA=>Walks.strAscii hA _ x t) (fun _ _ _ _ _ st h=>wpAny_pyIter_striter_ascii st h),⟨aN _,_,cw _ rfl,rfl,rfl⟩,fp,q⟩
theorem FJ {g:TG} (Pv:Nat->List V->St->Hp->Prop) (h0:Pv 0 [] ix (upd H1 p (.lst []))) (hl:∀i ys τ H,Pv i ys τ H->H p=some (.lst ys))
  (hs:∀i c ys τ H,x.cps[i]? = some c->Pv i ys τ H->g (.str ⟨#[c]⟩) τ H fun cB H4=>ti cB H4 fun b H5=>if b=true then te cB H5 fun y H6=>H6 p=some (.lst ys)/\ys.length < sizeLine /\ ∃m',m' < x.cps.size - i/\CW Pv x.cps.size (i+1) m' (ys ++ [y]) cB (upd H6 p (.lst (ys ++ [y]))) else ∃m',m' < x.cps.size - i/\CW Pv x.cps.size (i+1) m' ys cB H5)
  (hd:∀ys τ H,Pv x.cps.size ys τ H->Q (.ref p) H):kb (Ck x) g ti te ix Q p H1:=by
 refine⟨CW Pv x.cps.size,⟨x.cps.size,by simp,aN _,h0⟩,?_⟩
 rintro i m ys τ H ⟨rfl,hi,pv⟩;refine⟨hl i ys τ H pv,?_⟩
 by_cases bV:i < x.cps.size
 ·refine .inr ⟨bV,fun v H3 y3=>?_⟩
  obtain⟨e3,c,hc,rfl⟩:=y3;subst e3;exact hs i c ys τ _ hc pv
 ·have e:i=x.cps.size:=by omega
  subst e;exact .inl ⟨ay _,hd ys τ H pv⟩
end L2
namespace HT
open PySem PyProof.Rows PySem.W L2
theorem Nz (a:Addr) (vs:Array Value) (n:Nat) (u:Tok) (sl:Array (Option Value)) :
  Meets (Builtin.«object.__getattribute__» ⟨[.ref a,.str "keys" u],[]⟩) (fun A R s=>s.heap.get? a=some { cls:= .type "tuple",dict:=none,data:= .seq vs n,slots:=sl }/\raisesAttr (.ref a) "keys" A R s):=
 meets_getattribute_miss_tuple a vs n sl "keys" u (by rw[MN,MO];kernel_rfl) (by decide +kernel) (by rw[aA];decide +kernel)
theorem PM {vs:Array Value}{sl:Array (Option Value)}{Q:Option Value->Shared->Prop} (hx:s.heap.get? a=some { cls:= .type "tuple",dict:=none,data:= .seq vs n,slots:=sl }) (hA:A.handled=none)
  (h:∀h' tk,(∀b o,s.heap.get? b=some o->h'.get? b=some o)->Q none { s with heap:=h',toks:=tk }):wpAny (model prog w) A (getAttr? (.ref a) "keys") Q E s:=by
 obtain⟨hp,g,d,tk,os⟩:=s;have hT:∀uC,(⟨hp,g,d,uC,os⟩:Shared).TypeIs (.ref a) "tuple" :=fun _=>⟨_,hx,rfl⟩;have f1:=sub_AttributeError;have f3:=MP.lookup;have f4:=MP.bind (.ref a);have f5:=am_tuple_getattr_none;unfold getAttr? getAttrBy? getAttrBy
 repeat (any_goals (first|assumption|exact hT _|((with_reducible show wpAny _ _ (call (Value.builtin "tuple.__getattribute__") _ _) _ _ _);refine nL MP (hT _) am_entry_tuple_getattribute (F.args_tuple_getattribute_2 _ _) (Nz a vs n _ sl) ⟨hx,hA,fun h' uC e g8=>?_⟩)|wp_step))
 obtain⟨t',u',he⟩:=g8.there;show wpAny _ _ (getattributeRaised _ _ _ _ _ _ _) _ _ _;unfold getattributeRaised
 repeat (any_goals (first|assumption|wp_step))
 exact h h' uC g8.keeps
section
variable{t:Addr}{vs:Array Value}
theorem PN {Q:Unit->Shared->Prop}{T:Addr}{x y:Value}{k:Key}{kvs:List (Key×Value)}{i:Int} (hT:IsTup s.heap T #[x,y]) (hk:(cI prog w).is k x=true) (hd:s.heap.DictOf (cI prog w) d kvs) (new:k ∉ kvs.map (·.1)) (hz:kvs.length<=sizeLine)
  (q:∀h' tk,h'.DictOf (cI prog w) d (kvs ++ [(k,y)])->Heap.SameBut d s.heap h'->Q () { s with heap:=h',toks:=tk }) :
  wpAny (model prog w) A (holding [Value.ref T] (do
   let pair <- (Builtin.Dict.pairItems (.ref T)).tryCatch fun e=>do
    if !(<- isInstance e (.type "TypeError")) then throw e
    rule "dict.update.element-no-sequence"
    raiseError "TypeError" s!"cannot convert dictionary update sequence element #{i} to a sequence"
   match pair with
   |[k,v]=>holding [k,v] (dictSet d k v)
   |l =>
    rule "dict.update.element-length"
    raiseError "ValueError" s!"dictionary update sequence element #{i} has length {l.length}; 2 is required")) Q E s:=by
 refine fb (ab (wpAny_tryCatch ?_));unfold Builtin.Dict.pairItems;refine ab (nJ hT.typeIs ?_);rw[ax (by decide)]
 obtain⟨o,ho,_,n,gG⟩:=hT;refine ab (MQ ho gG (ai ?_));show wpAny _ _ (holding [x,y] (dictSet d x y)) _ _ _;refine fb (wpAny_dictSet_pairs (hsz:=hz) hk hd fun h' dd sb=>?_);rw[stored_new new]at dd;exact q h' _ dd sb
theorem QI (hh:A.in1.handled=none) (Cm:d≠it) (Km:d≠t) (Kn:t≠it) (ps:List (Key×Value)) (nd:(ps.map (·.1)).Nodup) (hz:ps.length<=sizeLine) (hsz:vs.size=ps.length) (hv:IsTup g t vs)
  (oY:∀ (i:Nat) p,ps[i]? = some p -> ∃a x,vs[i]? = some (.ref a)/\a≠it/\a≠d/\IsTup g a #[x,p.2]/\(cI prog w).is p.1 x=true) :
  ∀ (m k:Nat) (s:Shared),ps.length - k=m->k<=ps.length->IsTupIter s.heap it t k->s.heap.DictOf (cI prog w) d (ps.take k) ->
   (∀b o,b≠it->b≠d->g.get? b=some o->s.heap.get? b=some o) ->
   (∀h' tk,h'.DictOf (cI prog w) d ps->(∀b o,b≠it->b≠d->g.get? b=some o->h'.get? b=some o)->R (.ok (.ret .none)) { s with heap:=h',toks:=tk }) ->
   codeAny (model prog w) A (.builtin "dict.update.loop" ⟨[.ref d,.ref it,rawInt k,.none],[]⟩) R s:=by
 have up:∀ {b:Addr}{us:Array Value}{h:Heap},b≠it->b≠d->(∀b o,b≠it->b≠d->g.get? b=some o->h.get? b=some o)->IsTup g b us->IsTup h b us:=fun n1 n2 kp ⟨o,ho,r⟩=>⟨o,kp _ _ n1 n2 ho,r⟩;intro m
 induction m with
 |zero =>
  intro k s hm hk t1 dd kp hR;have ek:k=ps.length:=by omega
  refine mi EY (?_:wpAny _ _ _ _ _ _);rw[nO vF _];show wpAny _ A.in1 (pyNext (.ref it) >>= _) _ _ s;refine ab (next_tuple_end hh t1 (up Kn Km.symm kp hv) (by simp;omega) fun h' k'=>?_)
  refine ab (m:=Builtin.Dict.addKeywords d []) (ai (ai ?_));have lV:h'.DictOf (cI prog w) d (ps.take k):=dd.at fun o e=>k' d o Cm e;rw[ek,fX]at lV;exact hR h' s.toks lV fun b o a1 a2 e=>k' b o a1 (kp b o a1 a2 e)
 |succ m ih =>
  intro k s hm hk t1 dd kp hR;have bV:k < ps.length:=by omega
  have hp:ps[k]? = some ps[k]:=aQ bV;obtain⟨a,x,Wy,xE,Wz,TB,Bu⟩:=oY k _ hp;have WA:ps.take (k+1)=ps.take k ++ [ps[k]]:=by rw[fY,hp];rfl
  have new:ps[k].1 ∉ (ps.take k).map (·.1):=fun w=>by
   have e:ps.map (·.1)=(ps.take k).map (·.1)++(ps.drop k).map (·.1):=by rw[<-cp,DN]
   rw[e,vk]at nd;refine nd.2.2 _ w _ ?_ rfl;rw[abp bV];exact aZ
  refine mi EY (?_:wpAny _ _ _ _ _ _);rw[nO vF _];show wpAny _ A.in1 (pyNext (.ref it) >>= _) _ _ s;refine ab (next_tuple_item t1 (up Kn Km.symm kp hv) Wy fun h' WB sb=>?_);have Ko:∀b o,b≠it->b≠d->g.get? b=some o->h'.get? b=some o:=fun b o a1 a2 e=>sb.extBut b o a1 (kp b o a1 a2 e);have lV:h'.DictOf (cI prog w) d (ps.take k):=dd.at fun o e=>sb.extBut d o Cm e;refine ab (PN (s:={ s with heap:=h' }) (k:=ps[k].1) (up xE Wz Ko TB) Bu lV new (by rw[c4];omega) fun nu tk U9 Kp=>?_)
  rw[show((k:Int)+1)=((k+1:Nat):Int) from rfl];exact ai ⟨pP vF _,ih (k+1) _ (by omega) bV (WB.extBut Kp.extBut Cm.symm) (by rw[WA];exact U9) (fun b o a1 a2 e=>Kp.extBut b o a2 (Ko b o a1 a2 e)) hR⟩
theorem NC {Q:Value->Shared->Prop} (hh:A.handled=none) (ps:List (Key×Value)) (nd:(ps.map (·.1)).Nodup) (hz:ps.length<=sizeLine) (hsz:vs.size=ps.length) {sl:Array (Option Value)}
  (hv:s.heap.get? t=some { cls:= .type "tuple",dict:=none,data:= .seq vs n,slots:=sl })
  (oY:∀ (i:Nat) p,ps[i]? = some p -> ∃a x,vs[i]? = some (.ref a)/\IsTup s.heap a #[x,p.2]/\(cI prog w).is p.1 x=true)
  (q:∀d h' tk,s.heap.objs.size<=d->h'.DictOf (cI prog w) d ps->(∀b o,s.heap.get? b=some o->h'.get? b=some o)->Q (.ref d) { s with heap:=h',toks:=tk }) :
  wpAny (model prog w) A (call (.type "dict") [.ref t]) Q E s:=by
 refine callType_codes (Q₁:=fun obj bu=>obj = .ref s.heap.objs.size/\bu={ s with heap:=s.heap.push { cls:= .type "dict",data:= .dict #[] } }) F.kt_called_dict (F.kt_typeCall_dict_1 _) F.entry_dict_init (kt_code_dict_new _ ⟨rfl,rfl⟩) ?_;rintro obj bu ⟨rfl,rfl⟩;have dn:(s.heap.push { cls:= .type "dict",data:= .dict #[] }).DictOf (cI prog w) s.heap.objs.size []:=Heap.DictOf.new s.heap;have k2:∀b o,s.heap.get? b=some o->(s.heap.push { cls:= .type "dict",data:= .dict #[] }).get? b=some o:=fun b o e=>bc _ e;generalize s.heap.push { cls:= .type "dict",data:= .dict #[] }=h2 at dn k2 ⊢;refine⟨dn.typeIs,F.args_dict_init_2 _ _,?_⟩;unfold Builtin.«dict.__init__»;refine ab ?_;unfold Builtin.Dict.selfAndRest;refine ab (wpAny_notOrdered_dict dn.typeIs ?_);refine(ai ?_:wpAny _ _ (pure (s.heap.objs.size,[Value.ref t])) _ _ _);show wpAny _ _ (Builtin.Dict.updateFrom "dict.__init__" s.heap.objs.size (.ref t) [] .none) _ _ _;unfold Builtin.Dict.updateFrom;have v2:=k2 _ _ hv;refine ab (nJ (T:= "tuple") ⟨_,v2,rfl⟩ ?_);rw[ax (by decide)]
 refine ab (PM v2 hh fun h3 tk3 k3=>?_);rw[ax (by decide)]
 have WC:IsTup h3 t vs:=⟨_,k3 _ _ v2,rfl,n,rfl⟩;refine ab (yA (ab (iter_tuple WC ?_)));refine ai ⟨pP vF _,?_⟩;have up:∀b o,s.heap.get? b=some o->h3.get? b=some o:=fun b o e=>k3 b o (k2 b o e);have xF:s.heap.objs.size < h3.objs.size:=by
  obtain⟨o,_,_,ho,_⟩:=dn;exact bw (k3 _ _ ho)
 have WD:h3.DictOf (cI prog w) s.heap.objs.size []:=dn.at fun o e=>k3 _ o e;have lt:∀ {b:Addr}{o:Obj},s.heap.get? b=some o->b < s.heap.objs.size:=fun e=>bw e;refine QI (A:=A.in1) (g:=s.heap) (it:=h3.objs.size) hh (bZ xF) (so (lt hv)) (bZ (pO (lt hv) xF)) ps nd hz hsz ⟨_,hv,rfl,n,rfl⟩ (fun i p hp=>?_) _ 0 _ rfl (aN _) ⟨_,cw _ rfl,rfl,rfl⟩ (WD.at fun o e=>bc _ e) (fun b o _ _ e=>bc _ (up b o e)) fun h' tk dd kp=>?_
 ·obtain⟨a,x,h1,xG,WE⟩:=oY i p hp
  obtain⟨o,ho,_⟩:=id xG;exact⟨a,x,h1,bZ (pO (lt ho) xF),bZ (lt ho),xG,WE⟩
 ·exact⟨rfl,q _ h' tk (ay _) dd fun b o e=>kp b o (bZ (pO (lt e) xF)) (bZ (lt e)) e⟩
end
end HT
namespace L2
open PySem PySem.Spec PyProof.Rows PySem.W HT
theorem E1:b8 X (compareOp .LtE) (fun x y H Q=>∃i j,x = .str i/\y = .str j/\Q (.bl (!decide (j.cps.toList < i.cps.toList))) H):=by
 intro pins s σ H x y v u Q I rx ry ⟨i,j,ex,ey,q⟩;subst ex ey;obtain⟨t,rfl⟩:=rx;obtain⟨t',rfl⟩:=ry;exact P.le_str (cF I q rfl)
def ik (H:Hp) (vs:List V) (kvs:List (Str×V)):Prop:=Paired (fun y p=>∃a,y=V.ref a/\H a=some (.tup [.str p.1,p.2])) vs kvs
theorem ik.same {kvs:List (Str×V)} (h:ik H vs kvs) (s:aw H H'):ik H' vs kvs:=Paired.imp' (fun _ _ ⟨a,e,q⟩=>⟨a,e,s _ _ q⟩) h
def mX (kvs:List (Str×V)):List (Key×V):=kvs.map fun p=>(Sum.inr p.1,p.2)
theorem GZ:∀ (kvs:List (Str×V)) (ys:List Value),ys.length=kvs.length->(∀ (i:Nat) (hi:i < kvs.length),∃y,ys[i]? = some y/\RelV kvs[i].2 y)->KV (mX kvs) ((kvs.map fun p=>(Sum.inr p.1:Key)).zip ys)
 |[],ys,h,_=>.nil
 |p::kvs,[],h,_=>by simp at h
 |p::kvs,y::ys,h,f=>by
  obtain⟨y',e,r⟩:=f 0 (by simp)
  obtain rfl:y=y':=by simpa using e
  exact .cons ⟨rfl,r⟩ (GZ kvs ys (by simpa using h) fun i hi=>by
   obtain⟨y2,e2,r2⟩:=f (i+1) (Nat.succ_lt_succ hi);exact⟨y2,by simpa using e2,r2⟩)
theorem NA:dq X (.type "tuple") (fun xs H Q=>∃p ys,xs = [.ref p]/\ag X.K H p ys /\ ∀l o,H l=none->o.dict=none->Q (.ref l) (upd H l (.bo o (.tup ys)))):=by
 intro pins s σ H xs us Q I r ⟨p,ys,ex,hq,q⟩;subst ex;obtain⟨u,rfl,rx⟩:=vals1 r;cases rx
 obtain⟨its,r',pl,hz⟩:=I.list hq;have hlen:=r'.length;refine call_tuple_list pl.isList (fun h' kp=>?_) (by simp only[bY] <;> omega)
 have I1:Inv X pins σ H { s with heap:=h' }:=I.kept (t':=s.toks) kp;refine⟨.ref h'.objs.size,_,I1.laid (o:= .bo { cls:= .type "tuple",data:= .seq its.toArray } (.tup ys)) (t':=s.toks) (fun b o e=>bc _ e) (ay _) ⟨cw _ rfl,hz,its,r',lH.new _ _⟩,rfl,q _ _ (I1.aq.fresh (ay _)) rfl⟩
end L2
namespace L2
open PySem PySem.W
def TC (_ j:Int):Prop:=0 < j/\j < 4611686018427387904
theorem PQ:b8 X (binaryOp .FloorDiv) (rI TC fun i j=>.int (i / j)):=ur fun i j _ _ _ _ _ hc q=>by
 have h1:(0:Int) < j:=hc.1;have h2:j < 4611686018427387904:=hc.2;refine PyProof.Rows.floordiv_int (by omega) (by rw[aba i (by omega)];exact q) (.inl (PyProof.noPylong_of_log2 ?_))
 have h3:j.natAbs < 2 ^ 62:=by omega
 have h4:j.natAbs.log2 < 62:=(Nat.log2_lt (by omega)).mpr h3
 omega
end L2
namespace L2
open PySem PySem.W PySem.Calls PyProof.Rows
section
variable{α β:Type}
def Pm (n:Nat) (p:Array Nat):Prop:=p.toList.Perm (List.range n)
theorem Pm.lt {p:Array Nat} (h:Pm n p) (hn:0 < n) (i:Nat):p.getD i 0 < n:=by
 rw[k9];cases e:p[i]? with
 |none=>exact hn
 |some x =>
  have:x∈p.toList:=Array.mem_def.mp (abr e);exact gx.mp (h.mem_iff.mp this)
theorem Pm.rev {p:Array Nat} (h:Pm n p) (i j:Nat):Pm n (kas_rev p i j):=(abt.mp (mirror_perm p i j _)).trans h
theorem Pm.Cn {p:Array Nat} (h:Pm n p) (i j:Nat):Pm n (bubble p i j):=(abt.mp (bubble_perm p i j)).trans h
theorem ql {γ:Type}{p:Array Nat}{vs:List γ} (d:γ) (h:Pm vs.length p):(p.toList.map fun i=>vs.getD i d).Perm vs:=by
 have h1:=List.Perm.map (fun i=>vs.getD i d) h;refine h1.trans (List.Perm.of_eq ?_)
 apply yS
 ·simp
 ·intro i h1 h2
  simp[List.getD,h2]
end
theorem Em {α β:Type}{F:α->β->Prop}{l l':List α} (h:l'.Perm l):∀ {m:List β},Paired F l m -> ∃m',m'.Perm m/\Paired F l' m':=by
 induction h with
 |nil=>intro m p;exact⟨m,.refl _,p⟩
 |cons x _ ih =>
  intro m p;cases p with
  |cons q t =>
   obtain⟨m',e,r⟩:=ih t;exact⟨_::m',e.cons _,.cons q r⟩
 |swap x y l =>
  intro m p;cases p with
  |cons q t =>
   cases t with
   |cons q2 t=>exact⟨_,List.Perm.swap _ _ _,.cons q2 (.cons q t)⟩
 |trans _ _ Co Cp =>
  intro m p;obtain⟨m2,e2,p2⟩:=Cp p;obtain⟨m1,e1,p1⟩:=Co p2;exact⟨m1,e1.trans e2,p1⟩
theorem Ou {Q:Bool->Shared->Prop} (h:Q true s):wpAny (model prog w) A (eqBool (.ref a) (.ref a)) Q E s:=by
 unfold eqBool;refine fb ?_;have:((Value.ref a)==(Value.ref a))=true:=by simp
 rw[ax this];exact ab (yA (ai h))
theorem RT {o:HO} (x:ba P w H h a o):∃q,h.get? a=some q:=by
 cases o with
 |lst xs=>obtain⟨_,_,_,_,e⟩:=x;exact⟨_,e⟩
 |tup xs=>obtain⟨_,_,_,q,e,_⟩:=x;exact⟨q,e⟩
 |dK kvs=>obtain⟨_,_,_,_,o,_,_,e,_⟩:=x;exact⟨o,e⟩
 |dT kvs=>obtain⟨_,_,_,_,o,_,_,e,_⟩:=x;exact⟨o,e⟩
 |set S n=>obtain⟨o,_,_,_,e,_⟩:=x;exact⟨o,e⟩
 |ins C dx fs=>obtain⟨_,_,_,e,_⟩:=x;exact⟨_,e⟩
 |own y=>exact x
 |xd fs=>obtain⟨_,⟨o,_,_,e,_⟩,_⟩:=x;exact⟨o,e⟩
 |xj lo hi=>obtain⟨_,_,_,e⟩:=x;exact⟨_,e⟩
 |bo q u=>exact⟨q,x.1⟩
 |nh ps=>exact⟨_,x⟩
 |met f y=>exact⟨_,x⟩
 |ext φ=>exact x.2.1
theorem Inv.sorted {σ:List (Option V)}{m:Str->Option Value}{D:Addr}{out:List Value} (I:Inv X pins σ H s) (hm:s.heap.Ns X.env.locals m) (jm:h'.Ns X.env.locals m)
  (k:∀b o,b≠X.env.locals->s.heap.get? b=some o->h'.get? b=some o) (hD:∀b o,s.heap.get? b=some o->b≠D) (new:h'.get? D=some (listOf out.toArray c)) (r:Vals ys out) (hz:ys.length<=sizeLine) :
  H D=none/\Inv X pins σ (upd H D (.lst ys)) { s with heap:=h',toks:=t' }:=by
 have there:∀b u,H b=some u -> ∃o,s.heap.get? b=some o:=fun b u e=>RT (I.aq b u e);have hn:H D=none:=by
  cases q:H D with
  |none=>rfl
  |some u =>
   obtain⟨o,e⟩:=there D u q;exact absurd rfl (hD D o e)
 have uD:∀b u,H b=some u->b≠D:=fun b u e z=>by rw[z,hn]at e;cases e
 have ui:∀b u,H b=some u->b≠X.env.locals:=fun b u e z=>by rw[z,I.free]at e;cases e
 refine⟨hn,I.step (g':=s.gens) (d':=s.drawn) (ch:= []) (fun _ z=>nomatch z) (fun b o hL _ _ e _=>k b o hL e) (fun b o hL _ _ e _=>⟨o.slots,k b o hL e⟩) (fun b o _ e n=>by rw[ak (hD b o e)];exact n) (fun b o _ e=>?_)
  (fun b xs e=>by rw[ak (uD b _ e)];exact e) (fun b o u e=>by rw[ak (uD b _ e)];exact e) (fun b ps e=>⟨#[],by rw[ak (uD b _ e),e];simp⟩) (fun m' q=>?_) (fun b u e=>?_) I.bare⟩
 ·by_cases hb:b=X.env.locals
  ·obtain⟨o',es,ep,ho,_⟩:=jm
   exact⟨o',by rw[hb];exact ho⟩
  ·exact⟨o,k b o hb e⟩
 ·obtain⟨o,es,ep,ho,hd,hs,hf⟩:=hm
  obtain⟨o2,es2,Kq,iU,hd2,hs2,oZ⟩:=q;rw[ho]at iU;cases iU;rw[hd]at hd2;cases hd2;have:m'=m:=funext fun x=>(oZ x).symm.trans (hf x);rw[this];exact jm
 ·by_cases hb:b=D
  ·subst hb
   rw[af]at e;cases e;exact⟨hz,out,c,r,new⟩
  ·rw[ak hb]at e
   refine(I.aq b u e).gq (fun a v hc q=>k a v ?_ q) (fun a q=>by rw[ak (uD a _ q)];exact q) fun a xs q=>by rw[ak (uD a _ q)];exact q
   rcases hc with z|z
   ·rw[z];exact ui b u e
   ·exact ui a _ z
theorem zy {B:Around}{R:PySem.Fin->Shared->Prop} (at_:s.heap.get? a=some (seqObj "list" us.toArray n)) (cg:us.length < 2)
  (k:∀c g,(∀b o,b≠a->s.heap.get? b=some o->g.get? b=some o)->g.get? a=some (listOf us.toArray c)->R (.done (.ret .none)) { s with heap:=g }):wpAny (model P w) B (Builtin.«list.sort» ⟨[.ref a],[]⟩) R E s:=by
 obtain⟨ep,gone⟩:∃ep,(s.heap.update a (Obj.mapSeq fun _=>(#[]:Array Value))).get? a=some (seqObj "list" #[] ep):=⟨_,get?_update_seq at_ fun _=>#[]⟩;have fits:us.toArray.size<=sizeLine:=by rw[aA,bY];omega
 have small:us.toArray.size < 2:=by simpa using cg
 rw[list_sort_plain];refine ab (listItems_at at_ rfl (ab (listUpdate_at at_ rfl (ab (seqEpoch_at gone rfl (ab (wpAny_newTuple (ab (yT (fb ?_) (aN _))) (by simpa using fits))))) fits (aN _))))
 have two:∀b o,(s.heap.update a (Obj.mapSeq fun _=>(#[]:Array Value))).get? b=some o->(((s.heap.update a (Obj.mapSeq fun _=>(#[]:Array Value))).push (seqObj "tuple" us.toArray 0)).push (seqObj "list" #[] 0)).get? b=some o:=fun b o q=>bc _ (bc _ q)
 change wpAny (model P w) B _ R E { s with heap:=((s.heap.update a (Obj.mapSeq fun _=>(#[]:Array Value))).push (seqObj "tuple" us.toArray 0)).push (seqObj "list" #[] 0) }
 have qC:=two _ _ gone;have others:∀b o,b≠a->s.heap.get? b=some o->(((s.heap.update a (Obj.mapSeq fun _=>(#[]:Array Value))).push (seqObj "tuple" us.toArray 0)).push (seqObj "list" #[] 0)).get? b=some o:=fun b o nb q=>two b o (((vm s.heap a _).2 b nb).trans q);generalize (((s.heap.update a (Obj.mapSeq fun _=>(#[]:Array Value))).push (seqObj "tuple" us.toArray 0)).push (seqObj "list" #[] 0))=g at qC others ⊢
 dsimp only
 rw[ax small,ax small];refine ab (ai (ab (ai ?_)));have same:(arrOf (SortSt.mk' general' (us.toArray.zip us.toArray) #[] 7 none)).map (·.2)=us.toArray:=yM.mp (by show((us.toArray.zip us.toArray).map (·.2)).toList=_;simp[List.map_snd_zip])
 dsimp only
 rw[same];refine ab (seqEpoch_at qC rfl (ab (listUpdate_at qC rfl ?_ (aN _) (Nat.le_succ_of_le fits))));obtain⟨c,back⟩:∃c,(g.update a (Obj.mapSeq fun _=>us.toArray)).get? a=some (seqObj "list" us.toArray c):=⟨_,get?_update_seq qC fun _=>us.toArray⟩;simp only[bne_self_eq_false,fc,gO];exact ai (k c _ (fun b o nb q=>((vm g a _).2 b nb).trans (others b o nb q)) back)
theorem NM {B:Around}{R:Value->Shared->Prop} (at_:s.heap.IsList l us.toArray) (cg:us.length < 2)
  (k:∀D c g,(∀b o,s.heap.get? b=some o->g.get? b=some o)->(∀b o,s.heap.get? b=some o->b≠D)->g.get? D=some (listOf us.toArray c)->R (.ref D) { s with heap:=g }):wpAny (model P w) B (call (.builtin "sorted") [.ref l]) R E s:=by
 have fits:us.length<=sizeLine:=by rw[aA];omega
 refine MS kind_sorted plain_sorted entry_sorted (args_sorted1 _) (ab (m:=checkCount "sorted" 1 1 _) (ai (ab (collect_list at_ (ab (yT ?_ fits)) (by simpa using fits)))))
 have size:((s.heap.push (seqObj "list" #[] 0)).update s.heap.objs.size (Obj.mapSeq fun x=>x++us.toArray)).objs.size=s.heap.objs.size+1:=(Heap.size_update ..).trans (size_push' ..);have gq:∀b o,s.heap.get? b=some o->b≠s.heap.objs.size+1/\((s.heap.push (seqObj "list" #[] 0)).update s.heap.objs.size (Obj.mapSeq fun x=>x++us.toArray)).get? b=some o:=fun b o q =>
  have lt:b < s.heap.objs.size:=bw q
  ⟨bZ (pQ lt),(Heap.get?_update_ne _ _ _ _ (bZ lt)).trans ((Heap.get?_push_ne _ _ _ (bZ lt)).trans q)⟩
 change wpAny (model P w) _ _ _ E { s with heap:=((s.heap.push (seqObj "list" #[] 0)).update s.heap.objs.size (Obj.mapSeq fun x=>x++us.toArray)).push (seqObj "list" us.toArray 0) }
 have here:(((s.heap.push (seqObj "list" #[] 0)).update s.heap.objs.size (Obj.mapSeq fun x=>x++us.toArray)).push (seqObj "list" us.toArray 0)).get? (s.heap.objs.size+1)=some (seqObj "list" us.toArray 0):=size ▸ cw _ rfl;rw[size];generalize (s.heap.push (seqObj "list" #[] 0)).update s.heap.objs.size (Obj.mapSeq fun x=>x++us.toArray)=g at here gq ⊢;refine ab (fb (jS slot_list_sort ⟨_,here,rfl⟩ entry_list_sort (zy (s:={ s with heap:=g.push (seqObj "list" us.toArray 0) }) here cg fun c g2 kp new=>?_) (args_list_sort _)));exact⟨_,rfl,ai ⟨_,rfl,k _ c g2 (fun b o q=>kp b o (gq b o q).1 (bc _ (gq b o q).2)) (fun b o q=>(gq b o q).1) new⟩⟩
theorem G0 {h:Heap}:∀ {vs:List Value},(∀v∈vs,∃a k t z,v = .ref a/\IsTup h a #[.str k t,.ref z]) -> ∃fs,fs.length=vs.length/\KatTups h vs fs /\ ∀f∈fs,∃k t,f=Value.str k t
 |[],_=>⟨[],rfl,.nil,by simp⟩
 |v::vs,g=>by
  obtain⟨fs,h1,h2,h3⟩:=G0 (vs:=vs) fun x hx=>g x (a9 _ hx);obtain⟨a,k,t,z,rfl,o,ho,hc,n,hd⟩:=g v aZ;refine⟨.str k t::fs,by rw[b5,b5,h1],.cons ho hc hd rfl h2,fun f hf=>?_⟩
  rcases bx.mp hf with rfl|hf
  ·exact⟨k,t,rfl⟩
  ·exact h3 f hf
theorem vG {γ:Type}{f:γ->V}{g:γ->Value} (h:∀x,RelV (f x) (g x)):∀l:List γ,Vals (l.map f) (l.map g)
 |[]=>.nil
 |x::l=>.cons (h x) (vG h l)
end L2
namespace L2
open PySem PySem.W PySem.Spec PyProof.Rows
def xH (d:Addr) (o:Obj) (kvs:List (Key×V)):It:=⟨fun i H=>H d=some (.bo o (.dK kvs))/\i < kvs.length,fun i H v H'=>H'=H /\ ∃kv,kvs[i]? = some kv/\v=kV kv.1,fun i H=>H d=some (.bo o (.dK kvs))/\kvs.length<=i⟩
theorem E3 (d it:Addr) (dZ:d≠it) (o:Obj) (kvs:List (Key×V)) (vs:List (Key×Value)) (ep:Nat) (rk:KV kvs vs) (hD:∀h:Heap,h.get? d=some o->h.DictAt (cI P w) d vs ep) :
  Turn P w K tg (xH d o kvs) [it] it (fun i h=>i<=kvs.length/\h.IsKeyIter it d i vs.length ep) where
 mem:=by simp
 obj:=fun i h st b hb=>by
  obtain rfl:b=it:=by simpa using hb
  obtain⟨_,o,e,c,d⟩:=st;exact⟨o,e,fun v z=>by rw[d]at z;cases z⟩
 keep:=fun i h h' st k=>by
  obtain⟨l,o,e,r⟩:=st;exact⟨l,o,k it (by simp) _ e,r⟩
 item:=by
  intro X hP hw hK hc i pins s σ H E I hf st hg;subst hP hw hK;obtain⟨f0,f1,f2,f3,f4,f5⟩:=hf it (by simp)
  have hl:kvs.length=vs.length:=rk.length;have hd:=hD s.heap (show ba X.prog X.w H s.heap d (.bo o (.dK kvs)) from I.aq d _ hg.1).1;refine(Walks.dictKeys (knd:=cI X.prog X.w) (I.ok.hd hc) it d dZ vs ep).item i s _ _ (by have:=hg.2;omega) ⟨st.2,hd⟩ fun v h' tk hv fH kk=>?_
  obtain⟨k,x,hx,hk⟩:=hv;have I1:Inv X pins σ H { s with heap:=h',toks:=tk }:=I.turned (fun b o hb e=>kk b o (by simpa using hb) e) f0 f1 f3 f4 f5
  obtain⟨ob,e,cl,dt⟩:=id fH.1;have iX:i < kvs.length:=hg.2;have uE:kvs[i]? = some kvs[i]:=aQ iX;have ek:kvs[i].1=k:=by
   have h1:=d9 (fun l=>l[i]?) rk.keys;simp only[cU,uE,hx]at h1;exact e7 h1
  exact⟨_,rfl,qz (s:={ s with heap:=h',toks:=tk }) e cl dt (by decide) ⟨kV k,H,I1,GX hk,⟨rfl,kvs[i],uE,by rw[ek]⟩,⟨hg.2,fH.1⟩,fun b hb=>(hf b hb).1⟩⟩
 done:=by
  intro X hP hw hK hc i pins s σ H E I hf st hg;subst hP hw hK;obtain⟨f0,f1,f2,f3,f4,f5⟩:=hf it (by simp)
  have ei:i=kvs.length:=MM st.1 hg.2;have hl:kvs.length=vs.length:=rk.length;have hd:=hD s.heap (show ba X.prog X.w H s.heap d (.bo o (.dK kvs)) from I.aq d _ hg.1).1;have jH:=st.2;rw[ei,hl]at jH;exact(Walks.dictKeys (knd:=cI X.prog X.w) (I.ok.hd hc) it d dZ vs ep).done s _ _ ⟨jH,hd⟩ fun h' tk kk=>⟨rfl,I.turned (fun b o hb e=>kk b o (by simpa using hb) e) f0 f1 f3 f4 f5⟩
 self:=fun A i s Q E st h=>wpAny_pyIter_keyiter st.2 h
theorem Inv.freeze {σ:List (Option V)} (I:Inv X pins σ H s) (hd:H d=some (.dK kvs)) (ho:s.heap.get? d=some o):Inv X pins σ (upd H d (.bo o (.dK kvs))) s:=by
 have ok:ba X.prog X.w H s.heap d (.dK kvs):=I.aq d _ hd;have nd:∀ {b:Addr}{u:HO},H b=some u->u ≠ .dK kvs->b≠d:=fun e n z=>by rw[z,hd]at e;exact n (e7 e).symm
 refine I.un (h':=s.heap) (t':=s.toks) ⟨fun b ob q _ _ _=>q,fun b ob q _ _ _=>⟨ob.slots,q⟩,fun b ob q n _=>?_,fun b ob q _=>⟨ob,q⟩,fun b xs e=>?_,fun b ob u e=>?_,fun b ps e=>⟨#[],?_⟩⟩ fun b u e=>?_
 ·rw[ak (fun z=>by rw[z,hd]at n;cases n)];exact n
 ·rw[ak (nd e (by intro z;cases z))];exact e
 ·rw[ak (nd e (by intro z;cases z))];exact e
 ·rw[ak (nd e (by intro z;cases z)),e];simp
 ·by_cases hb:b=d
  ·subst hb
   rw[af]at e;cases e
   exact⟨ho,ok.gq (fun _ _ _ q=>q) (fun c q=>by rw[ak (nd q (by intro z;cases z))];exact q) fun c xs q=>by rw[ak (nd q (by intro z;cases z))];exact q⟩
  ·rw[ak hb]at e
   exact(I.aq b u e).gq (fun _ _ _ q=>q) (fun c q=>by rw[ak (nd q (by intro z;cases z))];exact q) fun c xs q=>by rw[ak (nd q (by intro z;cases z))];exact q
def TF (te:TE):TI:=fun σ H R=>te σ H fun v H1=>∃d kvs,v = .ref d/\((H1 d=some (.dK kvs) /\ ∀o,R (xH d o kvs) (upd H1 d (.bo o (.dK kvs)))) \/ ∃o,H1 d=some (.bo o (.dK kvs))/\R (xH d o kvs) H1)
theorem QJ (he:PE X e te):PI X tg e (TF te):=by
 intro pins s σ H R I h;refine aH (he pins s σ H _ I h) fun v s1 ⟨y,H1,I1,r1,d,kvs,ey,q⟩=>?_;subst ey;cases r1
 have rd:Rd H1 d (.dK kvs):=by
  rcases q with⟨e,_⟩|⟨o,e,_⟩
  ·exact .inl e
  ·exact .inr ⟨o,e⟩
 obtain⟨hz,hs,vs,rk,WG⟩:=tQ I1.aq rd;obtain⟨o,es,ep,ho,hx,gG,hk,hp,hn⟩:=id WG;refine wpAny_pyIter_dict (knd:=cI X.prog X.w) (kvs:=vs) (ep:=ep) hs ⟨o,es,ho,hx,gG,hk,hp,hn⟩ ?_;have dZ:d≠s1.heap.objs.size:=bZ (bw ho);have hD:∀h:Heap,h.get? d=some o->h.DictAt (cI X.prog X.w) d vs ep:=fun h e=>⟨o,es,e,hx,gG,hk,hp,hn⟩;have I2:Inv X pins σ H1 { s1 with heap:=s1.heap.push { cls:= .type "dict_keyiterator",data:= .fields #[.ref d,.int 0 0,.int vs.length 0,.int ep 0] } }:=I1.kept (t':=s1.toks) fun b ob z=>bc _ z;have st:0<=kvs.length/\Heap.IsKeyIter (s1.heap.push { cls:= .type "dict_keyiterator",data:= .fields #[.ref d,.int 0 0,.int vs.length 0,.int ep 0] }) s1.heap.objs.size d 0 vs.length ep:=⟨aN _,_,cw _ rfl,rfl,rfl⟩;have xI:H1 s1.heap.objs.size=none:=I1.aq.fresh (ay _);rcases q with⟨e,q⟩|⟨o',e,q⟩
 ·refine⟨s1.heap.objs.size,[s1.heap.objs.size],_,_,_,rfl,I2.freeze e (bc _ ho),E3 d s1.heap.objs.size dZ o kvs vs ep rk hD,st,fun b hb=>?_,q o⟩
  obtain rfl:b=s1.heap.objs.size:=by simpa using hb
  exact I1.m3 (ay _) (by rw[ak (bb dZ)];exact xI)
 ·obtain rfl:o'=o:=by
   have:=(show ba X.prog X.w H1 s1.heap d (.bo o' (.dK kvs)) from I1.aq d _ e).1;rw[ho]at this;exact(e7 this).symm
  refine⟨s1.heap.objs.size,[s1.heap.objs.size],_,_,H1,rfl,I2,E3 d s1.heap.objs.size dZ o' kvs vs ep rk hD,st,fun b hb=>?_,q⟩;obtain rfl:b=s1.heap.objs.size:=by simpa using hb
  exact I1.m3 (ay _) xI
def Kr (a b:Str):Prop:=a.cps.toList<=b.cps.toList
theorem PR {a b:Str} (h1:Kr a b) (h2:Kr b a):a=b:=by
 have e:a.cps.toList=b.cps.toList:=List.le_antisymm h1 h2;cases a;cases b
 exact d9 Str.mk (yM.mp e)
theorem OX {g:TG} (Pv:Nat->List V->St->Hp->Prop) (h0:Pv 0 [] ix (upd H1 p (.lst []))) (hl:∀i ys τ H,Pv i ys τ H->H p=some (.lst ys)/\H d=some (.bo o (.dK kvs)))
  (hs:∀i kv ys τ H,kvs[i]? = some kv->Pv i ys τ H->g (kV kv.1) τ H fun cB H4=>ti cB H4 fun b H5=>if b=true then te cB H5 fun y H6=>H6 p=some (.lst ys)/\ys.length < sizeLine /\ ∃m',m' < kvs.length - i/\CW Pv kvs.length (i+1) m' (ys ++ [y]) cB (upd H6 p (.lst (ys ++ [y]))) else ∃m',m' < kvs.length - i/\CW Pv kvs.length (i+1) m' ys cB H5)
  (hd:∀ys τ H,Pv kvs.length ys τ H->Q (.ref p) H):kb (xH d o kvs) g ti te ix Q p H1:=by
 refine⟨CW Pv kvs.length,⟨kvs.length,by simp,aN _,h0⟩,?_⟩
 rintro i m ys τ H ⟨rfl,hi,pv⟩;obtain⟨hp,hq⟩:=hl i ys τ H pv;refine⟨hp,?_⟩
 by_cases bV:i < kvs.length
 ·refine .inr ⟨⟨hq,bV⟩,fun x H3 y3=>?_⟩
  obtain⟨e3,kv,gF,ex⟩:=y3;subst e3;subst ex;exact hs i kv ys τ _ gF pv
 ·have e:i=kvs.length:=by omega
  subst e;exact .inl ⟨⟨hq,ay _⟩,hd ys τ H pv⟩
end L2
namespace HS
open PySem PySem.Spec PyProof.Rows
abbrev ki (w:World):Obj:={ cls:= .type "set",dict:=none,data:= .set #[] 0 (.fresh 0 0 (!w.params.followText "set-order")) }
theorem N2 (a:Value) {Q₁:Value->Shared->Prop} (h:Q₁ (.ref s.heap.objs.size) { s with heap:=s.heap.push (ki w) }) :
  codeAny (model P w) A (.call (.builtin "set.__new__") ⟨[.type "set",a],[]⟩) (wants Q₁ E) s:=by
 refine codeAny_of_tree ?_;show wpAny _ A.in1 (do checkBuiltinCall "set.__new__" ⟨[.type "set",a],[]⟩;again (.builtin "set.__new__" ⟨[.type "set",a],[]⟩)) _ _ s;refine ab (yU (F.newCall_set_1 a) (ai ⟨pP F.plain_set_new _,mi F.entry_set_new ?_⟩));rw[nO F.plain_set_new _];unfold Builtin.«set.__new__» Builtin.Frozenset.newClass;have ss:=sub_set_self;obtain⟨hp,g,d,tk,os⟩:=s;dsimp only
 wp_walk
 refine mj (ai ?_);dsimp only;simp only[newObj];refine ab (wpAny_alloc (ai ?_));exact ai h
structure Src (P:Program) (w:World) (T:String) (l:Addr) (ol:Obj) (n:Nat) (Pv:Nat->Value->Prop):Prop where
 cls:ol.cls = .type T
 ns:isSubtype (.type T) (.type "set")=pure false
 nf:isSubtype (.type T) (.type "frozenset")=pure false
 nd:(Value.type T==Value.type "dict")=false
 iter:∀ (A:Around) (s:Shared),A.handled=none->s.heap.get? l=some ol -> ∃ (oI:Obj) (St:Nat->Heap->Prop),
  (∀ (E:Value->Shared->Prop) (Q:Value->Shared->Prop),Q (.ref s.heap.objs.size) { s with heap:=s.heap.push oI }->wpAny (model P w) A (pyIter (.ref l)) Q E s) /\
  Walks P w A s.heap.objs.size [s.heap.objs.size,l] [s.heap.objs.size] n Pv St/\St 0 (s.heap.push oI)
theorem src_list (cl:ol.cls = .type "list") (dt:∃n,ol.data = .seq items n):Src P w "list" l ol items.size (fun i v=>items[i]? = some v) where
 cls:=cl
 ns:=F.sub_list_set
 nf:=F.sub_list_frozenset
 nd:=by decide
 iter:=fun A s hh hl=>by
  have il:s.heap.IsList l items:=⟨ol,hl,cl,dt⟩;have lt:=bw hl;exact⟨_,_,fun E Q q=>DF il q,Walks.list hh _ l (bZ lt) items,⟨_,cw _ rfl,rfl,rfl⟩,il.push _⟩
theorem QK (cl:ol.cls = .type "tuple") (dt:∃n,ol.data = .seq items n):Src P w "tuple" l ol items.size (fun i v=>items[i]? = some v) where
 cls:=cl
 ns:=F.sub_tuple_set
 nf:=F.sub_tuple_frozenset
 nd:=by decide
 iter:=fun A s hh hl=>by
  have il:s.heap.IsTuple l items:=⟨ol,hl,cl,dt⟩;have lt:=bw hl;exact⟨_,_,fun E Q q=>wpAny_pyIter_tuple il q,Walks.tuple hh _ l (bZ lt) items,⟨_,cw _ rfl,rfl,rfl⟩,il.push _⟩
theorem pY:Slot "set_iterator" "__next__" "set_iterator.__next__" :=
 Slot.of (owner:= "set_iterator") (n:= "__next__") (by rw[MN,MO];kernel_rfl) (by decide +kernel) (by decide +kernel) (by decide +kernel) (by first|exact .inl (by decide +kernel)|exact .inr (by decide +kernel)) (by rw[MU];kernel_rfl)
theorem ND:entryFor table "set_iterator.__next__" = some Builtin.«set_iterator.__next__» :=entryFor_of_tree (by kernel_rfl)
theorem FO:Manifest.owners.lookup (String.ofList "rotareti_tes".toList.reverse)=some Manifest.sig_set_iterator:=by kernel_rfl
theorem NN (a:Value):argsOk "set_iterator.__next__" ⟨[a],[]⟩:=by
 unfold argsOk;rw[signature?_of (id:= "set_iterator.__next__") (n:= ['_','_','t','x','e','n','_','_']) (o:= "rotareti_tes".toList) (by kernel_rfl) FO];kernel_rfl
theorem vw:Slot "set_iterator" "__iter__" "set_iterator.__iter__" :=
 Slot.of (owner:= "set_iterator") (n:= "__iter__") (by rw[MN,MO];kernel_rfl) (by decide +kernel) (by decide +kernel) (by decide +kernel) (by first|exact .inl (by decide +kernel)|exact .inr (by decide +kernel)) (by rw[MU];kernel_rfl)
theorem Ef:entryFor table "set_iterator.__iter__" = some Builtin.«dict_keyiterator.__iter__» :=entryFor_alias (id':= "dict_keyiterator.__iter__") (by kernel_rfl) rfl (by decide +kernel) (by kernel_rfl)
theorem Ei (a:Value):argsOk "set_iterator.__iter__" ⟨[a],[]⟩:=by
 unfold argsOk;rw[signature?_of (id:= "set_iterator.__iter__") (n:= ['_','_','r','e','t','i','_','_']) (o:= "rotareti_tes".toList) (by kernel_rfl) FO];kernel_rfl
theorem NO:entryFor table "set.__iter__" = some Builtin.«frozenset.__iter__» :=entryFor_alias (id':= "frozenset.__iter__") (by kernel_rfl) rfl (by decide +kernel) (by kernel_rfl)
abbrev jL (first:Value) (i:Nat) (a:Addr) (n ep:Nat):Obj:={ cls:= .type "set_iterator",dict:=none,data:= .fields #[first,.int i 0,.ref a,.int n 0,.int ep 0],slots:= #[] }
section
variable{es:Array (Int×Value)}{t:SetTable}
theorem vQ {first:Value}{Q:Option Value->Shared->Prop} (hit:s.heap.get? I=some (jL first i a n ep)) (ho:s.heap.get? a=some o) (hd:o.data = .set es ep t) (hf:t.fits es.size=true) (hn:es.size=n)
  (body:wpAny (model P w) A.in1 (do
   if let .int slot _:=first then
    match <- setNext a slot.toNat ((i:Int)).toNat ((ep:Int)).toNat with
    |some (x,next) =>
     setField (.ref I) 0 (rawInt next)
     setField (.ref I) 1 (rawInt ((i:Int)+1))
     ret x
    |none=>setField (.ref I) 2 .none;raiseNew (<- newExc (.type "StopIteration") [])
   else
    let some places <- seqItems? first|unsupported "internal:set_iterator"
    match places[((i:Int)).toNat]? with
    |some (.int place _) =>
     let x <- setNextDrawn a place.toNat ((ep:Int)).toNat
     setField (.ref I) 1 (rawInt ((i:Int)+1))
     ret x
    |some _=>unsupported "internal:set_iterator"
    |none=>setField (.ref I) 0 (rawInt 0);setField (.ref I) 2 .none;raiseNew (<- newExc (.type "StopIteration") []))
   (fun fin s'=>∃r,fin = .done (.ret r)/\Q (some r) s') (fun e s'=>wpAny (model P w) A (do if <- isInstance e (.type "StopIteration") then pure none else throw e) Q E s') s):wpAny (model P w) A (pyNext (.ref I)) Q E s:=by
 have hT:s.TypeIs (.ref I) "set_iterator" :=⟨_,hit,rfl⟩;unfold pyNext;refine ab (yL (yF (name:=Str.ofString "__next__") hT pY (jS pY hT ND ?_ (NN _))));unfold Builtin.«set_iterator.__next__»;refine ab (ai ?_)
 dsimp only
 refine ab (MV hit rfl ?_)
 dsimp only
 refine ab ?_;unfold setEntries;refine ab (gP ho hd hf (ai ?_))
 dsimp only
 rw[aj (by rw[hn];simp)]
 refine pM body (fun fin s' h=>?_) fun e s' h=>?_
 ·obtain⟨r,rfl,q⟩:=h
  exact⟨r,rfl,ai q⟩
 ·exact h
theorem FQ {Q:Option Value->Shared->Prop} (hh:A.handled=none) (q:∀h',(∀b ob,s.heap.get? b=some ob->h'.get? b=some ob)->Q none { s with heap:=h' }) :
  wpAny (model P w) A.in1 (newExc (.type "StopIteration") [] >>= fun e=>(raiseNew e:Sem PySem.Fin)) (fun fin s'=>∃r,fin = .done (.ret r)/\Q (some r) s') (fun e s'=>wpAny (model P w) A (do if <- isInstance e (.type "StopIteration") then pure none else throw e) Q E s') s:=by
 refine ab ?_;simp only[newExc,newTuple];refine ab (iD ?_ (by size_fits))
 refine ab (m:=firstArgMember _ _) (yU (a:=Value.none) (by first|rfl|(simp only[firstArgMember];rfl)) (iD ?_ (by size_fits)))
 simp only[raiseNew];refine ab (wpAny_handled ?_);rw[show A.in1.handled=none from hh];refine ab (ai (wpAny_throw ?_));refine ab (MW (T:= "StopIteration") (b:=true) (show Shared.TypeIs _ _ _ from⟨_,cw _ rfl,rfl⟩) isSubtype_stop ?_);exact ai (q _ fun b ob e=>bc _ (bc _ e))
theorem NF {slot nx:Nat}{x:Value}{Q:Option Value->Shared->Prop} (hit:s.heap.get? I=some (jL (.int slot 0) i a n ep)) (ho:s.heap.get? a=some o) (hd:o.data = .set es ep t) (hf:t.fits es.size=true) (hn:es.size=n)
  (Cq:∀ (E':Value->Shared->Prop) (Q':Option (Value×Nat)->Shared->Prop),Q' (some (x,nx)) s->wpAny (model P w) A.in1 (setNext a slot i ep) Q' E' s)
  (q:∀h',h'.get? I=some (jL (.int nx 0) (i+1) a n ep)->Heap.SameBut I s.heap h'->Q (some x) { s with heap:=h' }):wpAny (model P w) A (pyNext (.ref I)) Q E s:=by
 refine vQ hit ho hd hf hn ?_;simp only[me];refine ab (Cq _ _ ?_);refine ab (vn hit (by simp) fun h1 g1 s1=>?_)
 refine ab (vn g1 (by simp) fun h2 g2 s2=>?_)
 exact ai ⟨x,rfl,q h2 (by rw[g2];simp[rawInt]) (s1.trans s2)⟩
theorem NP {slot:Nat}{Q:Option Value->Shared->Prop} (hh:A.handled=none) (hit:s.heap.get? I=some (jL (.int slot 0) i a n ep)) (ho:s.heap.get? a=some o) (hd:o.data = .set es ep t) (hf:t.fits es.size=true) (hn:es.size=n)
  (Cq:∀ (E':Value->Shared->Prop) (Q':Option (Value×Nat)->Shared->Prop),Q' none s->wpAny (model P w) A.in1 (setNext a slot i ep) Q' E' s)
  (q:∀h',(∀b ob,b≠I->s.heap.get? b=some ob->h'.get? b=some ob)->Q none { s with heap:=h' }):wpAny (model P w) A (pyNext (.ref I)) Q E s:=by
 refine vQ hit ho hd hf hn ?_;simp only[me];refine ab (Cq _ _ ?_);refine ab (vn hit (by simp) fun h1 g1 s1=>?_)
 exact FQ hh fun h2 k2=>q h2 fun b ob nb e=>k2 b ob (by rw[s1.2 b nb];exact e)
theorem NG {pt:Addr}{ps:List Nat}{pl:Nat}{z:Int}{x:Value}{Q:Option Value->Shared->Prop} (hit:s.heap.get? I=some (jL (.ref pt) i a n ep)) (ho:s.heap.get? a=some o) (hd:o.data = .set es ep t) (hf:t.fits es.size=true) (hn:es.size=n)
  (hp:∃op c,s.heap.get? pt=some op/\op.data = .seq (ps.map fun(j:Nat)=>rawInt j).toArray c) (hi:ps[i]? = some pl) (hx:es[pl]? = some (z,x))
  (q:∀h',h'.get? I=some (jL (.ref pt) (i+1) a n ep)->Heap.SameBut I s.heap h'->Q (some x) { s with heap:=h' }):wpAny (model P w) A (pyNext (.ref I)) Q E s:=by
 refine vQ hit ho hd hf hn ?_;obtain⟨op,c,Cr,rJ⟩:=hp
 dsimp only
 simp only[me];refine ab ?_;unfold seqItems?;refine ab (sr Cr ?_);rw[rJ];refine ai ?_
 dsimp only
 have e1:(ps.map fun(j:Nat)=>rawInt j).toArray[i]? = some (rawInt pl):=by simp[hi]
 rw[e1];show wpAny _ _ (setNextDrawn a ((pl:Int)).toNat ep >>= _) _ _ s;rw[me];unfold setNextDrawn;refine ab (ab (gP ho hd hf ?_))
 dsimp only
 rw[aj (by simp),hx]
 refine ai ?_;refine ab (vn hit (by simp) fun h2 g2 s2=>?_)
 exact ai ⟨x,rfl,q h2 (by rw[g2];simp[rawInt]) s2⟩
theorem NQ {pt:Addr}{ps:List Nat}{Q:Option Value->Shared->Prop} (hh:A.handled=none) (hit:s.heap.get? I=some (jL (.ref pt) i a n ep)) (ho:s.heap.get? a=some o) (hd:o.data = .set es ep t) (hf:t.fits es.size=true) (hn:es.size=n)
  (hp:∃op c,s.heap.get? pt=some op/\op.data = .seq (ps.map fun(j:Nat)=>rawInt j).toArray c) (hi:ps.length<=i)
  (q:∀h',(∀b ob,b≠I->s.heap.get? b=some ob->h'.get? b=some ob)->Q none { s with heap:=h' }):wpAny (model P w) A (pyNext (.ref I)) Q E s:=by
 refine vQ hit ho hd hf hn ?_;obtain⟨op,c,Cr,rJ⟩:=hp
 dsimp only
 simp only[me];refine ab ?_;unfold seqItems?;refine ab (sr Cr ?_);rw[rJ];refine ai ?_
 dsimp only
 have e1:(ps.map fun(j:Nat)=>rawInt j).toArray[i]? = none:=by simp;omega
 rw[e1];refine ab (vn hit (by simp) fun h1 g1 s1=>?_)
 refine ab (vn g1 (by simp) fun h2 g2 s2=>?_)
 exact FQ hh fun h3 k3=>q h3 fun b ob nb e=>k3 b ob (by rw[s2.2 b nb,s1.2 b nb];exact e)
end
theorem E4 {α:Type} (next:Nat->Nat):∀ (fuel k:Nat) (left:List α) (out:Array α),left.length=fuel->(pickOrder.go next fuel k left out).toList.Perm (out.toList++left)
 |0,k,left,out,h=>by
  have:left = []:=DO h;subst this;unfold pickOrder.go;simp
 |fuel+1,k,left,out,h=>by
  have bV:next k % left.length < left.length:=DP _ (by omega)
  unfold pickOrder.go;rw[aQ bV]
  dsimp only
  refine(E4 next fuel (k+1) _ _ (by rw[abv,ax bV];omega)).trans ?_
  rw[Array.toList_push,MC];refine abw _ ?_;generalize next k % left.length=j at bV;have key:∀ (l:List α) (j:Nat) (h:j < l.length),(l[j]::l.eraseIdx j).Perm l:=by
   intro l
   induction l with
   |nil=>intro j h;exact absurd h (mq _)
   |cons x l ih =>
    intro j h;cases j with
    |zero=>exact ja _
    |succ j=>exact(List.Perm.swap _ _ _).trans ((ih j (DQ h)).cons x)
  exact key left j bV
section
variable{xs:List Str}
theorem G1 {α:Type}:∀ (m:Nat) (l:List α) {s:Shared}{Q:List α->Shared->Prop},l.length=m->(∀ps d,ps.Perm l->Q ps { s with drawn:=d })->wpAny (model P w) A (drawOrder m l) Q E s
 |0,l,s,Q,h,q=>by
  have:l = []:=DO h;subst this;unfold drawOrder;exact ai (q [] s.drawn (ja _))
 |m+1,[],s,Q,h,q=>by simp at h
 |m+1,x::l,s,Q,h,q=>by
  unfold drawOrder;refine ab ?_;have ch:∀ {Q':Nat->Shared->Prop}{s:Shared},(∀i d,i < (x::l).length->Q' i { s with drawn:=d })->wpAny (model P w) A (choose .order (x::l).length) Q' E s:=fun {Q' s} q'=>by
   intro Γ p hΓ;exact⟨by simp,q' _ _ (DP _ (by simp))⟩
  refine ch fun i d hi=>?_;rw[aQ hi]
  dsimp only
  refine ab (G1 m _ (by rw[abv,ax hi];omega) fun ps d' hp=>ai ?_)
  refine q _ _ ((hp.cons _).trans ?_);have key:∀ (l:List α) (j:Nat) (h:j < l.length),(l[j]::l.eraseIdx j).Perm l:=by
   intro l
   induction l with
   |nil=>intro j h;exact absurd h (mq _)
   |cons x l ih =>
    intro j h;cases j with
    |zero=>exact ja _
    |succ j=>exact(List.Perm.swap _ _ _).trans ((ih j (DQ h)).cons x)
  exact key _ i hi
theorem PU {vs:List Value}{ys:List Str} (h:StrsAre vs ys):vs.length=ys.length:=by
 induction h with
 |nil=>rfl
 |cons _ _ _ ih=>rw[b5,b5,ih]
structure BB (P:Program) (w:World) (a:Addr) (vs:List Value) (I:Addr) (fp:List Addr) (h:Heap):Prop where
 go:∃St:Nat->Heap->Prop,(∀A:Around,A.handled=none->Walks P w A I fp [I] vs.length (fun i v=>vs[i]? = some v) St)/\St 0 h
theorem FR {es:Array (Int×Value)}{t:SetTable} (slot:Nat->Nat) {vs:List Value} (dZ:a≠I) (hd:o.data = .set es ep t) (hf:t.fits es.size=true) (hn:es.size=vs.length) (h0:slot 0=0) (ho:h.get? a=some o) (hi:h.get? I=some (jL (.int 0 0) 0 a vs.length ep))
  (item:∀ (A:Around) (s:Shared) (i:Nat) (v:Value) (E':Value->Shared->Prop) (Q':Option (Value×Nat)->Shared->Prop),s.heap.get? a=some o->vs[i]? = some v->Q' (some (v,slot (i+1))) s->wpAny (model P w) A (setNext a (slot i) i ep) Q' E' s)
  (done:∀ (A:Around) (s:Shared) (E':Value->Shared->Prop) (Q':Option (Value×Nat)->Shared->Prop),s.heap.get? a=some o->Q' none s->wpAny (model P w) A (setNext a (slot vs.length) vs.length ep) Q' E' s):BB P w a vs I [I,a] h:=by
 refine⟨fun i h=>h.get? a=some o/\h.get? I=some (jL (.int (slot i) 0) i a vs.length ep),fun A hh=>⟨fun b hb=>(by simp at hb;simp[hb]),fun i h h' st k=>⟨k a (by simp) _ st.1,k I (by simp) _ st.2⟩,fun i s Q E hi st q=>?_,fun s Q E st q=>?_,fun i s Q E st q=>?_⟩,ho,by rw[h0];exact hi⟩
 ·have hv:vs[i]? = some vs[i]:=aQ hi
  refine NF st.2 st.1 hd hf hn (fun E' Q' q'=>item _ _ i _ E' Q' st.1 hv q') fun h' g sb=>?_;exact q _ h' s.toks hv ⟨by rw[sb.2 a dZ];exact st.1,g⟩ fun b ob hb e=>by rw[sb.2 b (fun z=>hb (by simp[z]))];exact e
 ·exact NP hh st.2 st.1 hd hf hn (fun E' Q' q'=>done _ _ E' Q' st.1 q') fun h' k=>q h' s.toks fun b ob hb e=>k b ob (fun z=>hb (by simp[z])) e
 ·have hT:s.TypeIs (.ref I) "set_iterator" :=⟨_,st.2,rfl⟩
  refine DR hT vw (jS vw hT Ef ?_ (Ei _));show wpAny _ _ (ret (.ref I)) _ _ s;exact ai ⟨_,rfl,"set_iterator",_,hT,pY.lookup,q⟩
theorem PV {es:Array (Int×Value)}{t:SetTable}{pt:Addr}{ps:List Nat}{vs:List Value} (dZ:a≠I) (WH:pt≠I) (hd:o.data = .set es ep t) (hf:t.fits es.size=true) (hn:es.size=vs.length) (g9:ps.length=vs.length) (ho:h.get? a=some o) (hi:h.get? I=some (jL (.ref pt) 0 a vs.length ep))
  {op:Obj} (hp:h.get? pt=some op) (rJ:op.data = .seq (ps.map fun(j:Nat)=>rawInt j).toArray c) (item:∀ (i:Nat) (v:Value),vs[i]? = some v -> ∃pl z,ps[i]? = some pl/\es[pl]? = some (z,v)):BB P w a vs I [I,a,pt] h:=by
 refine⟨fun i h=>h.get? a=some o/\h.get? pt=some op/\h.get? I=some (jL (.ref pt) i a vs.length ep),fun A hh=>⟨fun b hb=>(by simp at hb;simp[hb]),fun i h h' st k=>⟨k a (by simp) _ st.1,k pt (by simp) _ st.2.1,k I (by simp) _ st.2.2⟩,fun i s Q E hi st q=>?_,fun s Q E st q=>?_,fun i s Q E st q=>?_⟩,ho,hp,hi⟩
 ·have hv:vs[i]? = some vs[i]:=aQ hi
  obtain⟨pl,z,h1,h2⟩:=item i _ hv;refine NG st.2.2 st.1 hd hf hn ⟨op,c,st.2.1,rJ⟩ h1 h2 fun h' g sb=>?_;exact q _ h' s.toks hv ⟨by rw[sb.2 a dZ];exact st.1,by rw[sb.2 pt WH];exact st.2.1,g⟩ fun b ob hb e=>by rw[sb.2 b (fun z=>hb (by simp[z]))];exact e
 ·exact NQ hh st.2.2 st.1 hd hf hn ⟨op,c,st.2.1,rJ⟩ (by omega) fun h' k=>q h' s.toks fun b ob hb e=>k b ob (fun z=>hb (by simp[z])) e
 ·have hT:s.TypeIs (.ref I) "set_iterator" :=⟨_,st.2.2,rfl⟩
  refine DR hT vw (jS vw hT Ef ?_ (Ei _));show wpAny _ _ (ret (.ref I)) _ _ s;exact ai ⟨_,rfl,"set_iterator",_,hT,pY.lookup,q⟩
end
theorem E5 (j k:Nat):SetTable.below #[j] k=if j < k then 1 else 0:=by
 unfold SetTable.below;show SetTable.below.go #[j] k 1 0 1=_;unfold SetTable.below.go
 by_cases h:j < k
 ·simp[h,SetTable.below.go]
 ·simp[h,SetTable.below.go]
theorem Ov (k:Nat):SetTable.below #[] k=0:=by unfold SetTable.below;rfl
end HS
namespace HS
open PySem PySem.Spec PyProof.Rows PySem.W
section
variable{xs:List Str}
theorem PX {Q:Bool->Shared->Prop} (hT:s.TypeIs (.ref a) "set") (h:Q false s):wpAny (model P w) A (Builtin.List.listLengthHint (.ref a)) Q E s:=by
 unfold Builtin.List.listLengthHint;refine ab (MJ hT PySem.F.slot_set_len.lookup ?_);generalize iy:("set.__len__" : String)=WI
 wp_delta
 rw[show splitId WI=some ("set","__len__") from by subst iy;decide +kernel];subst iy
 refine ab (MW (T:= "set") (b:=true) hT (by rw[MU];kernel_rfl) ?_)
 refine DS (fun z=>absurd z (by decide)) fun _=>DS (fun _=>?_) fun z=>absurd (by decide +kernel) z
 exact ab (nJ hT (ai h))
end
end HS
namespace L2
open PySem PySem.Spec PyProof.Rows PySem.W HS
theorem Inv.draw {σ:List (Option V)} (I:Inv X pins σ H s) (d:Drawn):Inv X pins σ H { s with drawn:=d }:=⟨I.ok,I.os,I.bare,I.base,I.loc,I.cell,I.free,I.jd,I.pin,I.aq,I.len⟩
end L2
namespace L2
open PySem PySem.W PySem.Calls PyProof.Rows
structure Ord (n:Nat) (lt:Nat->Nat->Bool):Prop where
 tr:∀i j k,lt i j=true->lt j k=true->lt i k=true
 Cs:∀i j,i < n->j < n->i≠j->lt i j=false->lt j i=true
def cV {α:Type} (n:Nat) (lt:Nat->Nat->Bool) (φ:α->Prop):KasT α->Prop
 |.ret a=>φ a
 |.ask i j k=>i < n/\j < n/\cV n lt φ (k (lt i j))
section
variable{α β:Type}{lt:Nat->Nat->Bool}
theorem cV.bind {φ:α->Prop}{ψ:β->Prop}{f:α->KasT β} (g:∀a,φ a->cV n lt ψ (f a)):∀ {t:KasT α},cV n lt φ t->cV n lt ψ (t.bind f)
 |.ret a,h=>g a h
 |.ask _ _ _,h=>⟨h.1,h.2.1,cV.bind g h.2.2⟩
theorem cV.wp {φ:α->Prop}{cmp:Nat->Nat->(Bool->Shared->Prop)->Shared->Prop}{Q:α->Shared->Prop}{s:Shared} (hc:∀i j C,i < n->j < n->C (lt i j) s->cmp i j C s):∀ {t:KasT α},cV n lt φ t->(∀a,φ a->Q a s)->t.kasWp cmp Q s
 |.ret a,h,q=>q a h
 |.ask _ _ _,h,q=>hc _ _ _ h.1 h.2.1 (cV.wp hc h.2.2 q)
theorem cV.mono {φ ψ:α->Prop} (g:∀a,φ a->ψ a):∀ {t:KasT α},cV n lt φ t->cV n lt ψ t
 |.ret a,h=>g a h
 |.ask _ _ _,h=>⟨h.1,h.2.1,cV.mono g h.2.2⟩
def eV (lt:Nat->Nat->Bool) (p:Array Nat) (k:Nat):Prop:= ∀i j,i < j->j < k->lt (p.getD i 0) (p.getD j 0)=true
def hW (lt:Nat->Nat->Bool) (p:Array Nat) (k:Nat):Prop:= ∀i j,i < j->j < k->lt (p.getD j 0) (p.getD i 0)=true
theorem Pm.size {p:Array Nat} (h:Pm n p):p.size=n:=by have:=h.length_eq;simpa using this
theorem Pm.ne {p:Array Nat} (h:Pm n p) (hi:i < n) (hj:j < n) (e:i≠j):p.getD i 0≠p.getD j 0:=by
 have hs:=h.size;have nd:p.toList.Nodup:=h.nodup_iff.mpr DT;intro z;rw[k9,k9,jT (by omega),jT (by omega)]at z
 have z2:p.toList[i]'(by simp;omega)=p.toList[j]'(by simp;omega):=by simpa using z
 exact e ((List.getElem_inj nd).mp z2)
theorem A5 {p:Array Nat} (O:Ord n lt) (h:Pm n p) (hi:i < n) (hj:j < n) (e:i≠j) (f:lt (p.getD i 0) (p.getD j 0)=false):lt (p.getD j 0) (p.getD i 0)=true:=
 O.Cs _ _ (h.lt (by omega) i) (h.lt (by omega) j) (h.ne hi hj e) f
theorem eV.step {p:Array Nat} (O:Ord n lt) (h1:1<=m) (a:eV lt p m) (l:lt (p.getD (m - 1) 0) (p.getD m 0)=true):eV lt p (m+1):=fun i j b9 hj=>by
 by_cases e:j < m
 ·exact a i j b9 e
 ·obtain rfl:j=m:=by omega
  by_cases e2:i=j - 1
  ·rw[e2];exact l
  ·exact O.tr _ _ _ (a i (j - 1) (by omega) (by omega)) l
theorem hW.step {p:Array Nat} (O:Ord n lt) (h1:1<=m) (a:hW lt p m) (l:lt (p.getD m 0) (p.getD (m - 1) 0)=true):hW lt p (m+1):=fun i j b9 hj=>by
 by_cases e:j < m
 ·exact a i j b9 e
 ·obtain rfl:j=m:=by omega
  by_cases e2:i=j - 1
  ·rw[e2];exact l
  ·exact O.tr _ _ _ l (a i (j - 1) (by omega) (by omega))
theorem Ah {p:Array Nat} (O:Ord n lt) (h:Pm n p):∀ (f m:Nat),1<=m->m+f<=n->eV lt p m->cV n lt (fun r=>m<=r/\r<=m+f/\eV lt p r/\(r < m+f->lt (p.getD r 0) (p.getD (r - 1) 0)=true)) (kas_asc p f m)
 |0,m,h1,h2,a=>⟨ay _,ay _,a,fun z=>absurd z (by omega)⟩
 |f+1,m,h1,h2,a=>⟨h.lt (by omega) _,h.lt (by omega) _,by
  cases c:lt (p.getD m 0) (p.getD (m - 1) 0) with
  |true=>exact⟨ay _,by omega,a,fun _=>c⟩
  |false =>
   refine cV.mono (fun r hr=>?_) (Ah O h f (m+1) (by omega) (by omega) (a.step O h1 (A5 O h (by omega) (by omega) (by omega) c)))
   exact⟨by omega,by omega,hr.2.2.1,fun z=>hr.2.2.2 (by omega)⟩⟩
theorem FT {p:Array Nat} (O:Ord n lt) (h:Pm n p):∀ (f m:Nat),1<=m->m+f<=n->hW lt p m->cV n lt (fun r:Array Nat×Nat×Nat=>r.1=p/\r.2.2=0/\m<=r.2.1/\r.2.1<=m+f/\hW lt p r.2.1) (kas_desc f p m 0)
 |0,m,h1,h2,a=>⟨rfl,rfl,ay _,ay _,a⟩
 |f+1,m,h1,h2,a=>⟨h.lt (by omega) _,h.lt (by omega) _,by
  cases c:lt (p.getD m 0) (p.getD (m - 1) 0) with
  |true =>
   show cV n lt _ (if 0 > 0 then kas_desc f (kas_rev p (m - (0+1)) m) (m+1) 0 else kas_desc f p (m+1) 0);rw[aj (by omega)]
   refine cV.mono (fun r hr=>?_) (FT O h f (m+1) (by omega) (by omega) (a.step O h1 c))
   exact⟨hr.1,hr.2.1,by omega,by omega,hr.2.2.2.2⟩
  |false =>
   refine⟨h.lt (by omega) _,h.lt (by omega) _,?_⟩
   rw[A5 O h (by omega) (by omega) (by omega) c]
   exact⟨rfl,rfl,ay _,DU _ _,a⟩⟩
theorem FU {p:Array Nat} (hm:m<=p.size) (k:Nat) (hk:k < m):(kas_rev p 0 m).getD k 0=p.getD (m - 1 - k) 0:=by
 unfold kas_rev;rw[k9,getElem?_mirror_all hm,ax ⟨aN _,hk⟩,k9,Nat.zero_add]
theorem hW.rev {p:Array Nat} (hm:m<=p.size) (a:hW lt p m):eV lt (kas_rev p 0 m) m:=fun i j b9 hj=>by
 rw[FU hm i (by omega),FU hm j hj]
 exact a _ _ (by omega) (by omega)
def wM (n:Nat) (lt:Nat->Nat->Bool) (r:Nat×Array Nat):Prop:=Pm n r.2/\eV lt r.2 r.1/\1<=r.1/\r.1<=n
theorem OY {p:Array Nat} (O:Ord n lt) (h:Pm n p) (h1:1<=m) (h2:m<=n) (a:hW lt p m):cV n lt (wM n lt) (kas_tail3 m n p):=
 cV.bind (ψ:=wM n lt) (f:=fun k=>.ret (k,kas_rev p 0 m)) (fun r hr=>(show wM n lt (r,kas_rev p 0 m) from⟨h.rev _ _,hr.2.2.1,cL h1 hr.1,by have:=hr.2.1;show r<=n;omega⟩)) (Ah O (h.rev 0 m) (n - m) m h1 (by omega) (a.rev (by rw[h.size];exact h2)))
theorem OZ {p:Array Nat} (O:Ord n lt) (hn:2<=n) (h:Pm n p):cV n lt (wM n lt) (kas_count n p):=
 (Ah O h (n - 1) 1 (ay _) (by omega) (fun i j b9 hj=>absurd hj (by omega))).bind fun m hm=>by
  obtain⟨m1,m2,ma,ml⟩:=hm;show cV n lt _ (if (m==n)=true then _ else if m > 1 then _ else _);split
  ·rename_i e
   have:m=n:=by simpa using e
   subst this;exact⟨h,ma,m1,ay _⟩
  ·rename_i e
   have ne:m≠n:=by simpa using e
   split
   ·rename_i g
    refine⟨h.lt (by omega) _,h.lt (by omega) _,?_⟩
    rw[ma 0 (m - 1) (by omega) (by omega)]
    exact⟨h,ma,m1,by omega⟩
   ·obtain rfl:m=1:=by omega
    have l:=ml (by omega)
    have d2:hW lt p 2:=fun i j b9 hj=>by
     obtain rfl:j=1:=by omega
     obtain rfl:i=0:=by omega
     exact l
    refine cV.bind (fun r hr=>?_) (FT O h (n - (1+1)) (1+1) (by omega) (by omega) d2)
    obtain⟨r1,r2,r3,r4,r5⟩:=hr;show cV n lt _ (if r.2.2 > 0 then _ else _);rw[aj (by omega),r1]
    exact OY O h (by omega) (by omega) r5
theorem zz {p:Array Nat} (O:Ord n lt) (h:Pm n p) {k:Nat} (hk:k < n) (a:eV lt p k):∀ (f l r:Nat),r - l<=f->l<=r->r<=k->(∀i,i < l->lt (p.getD i 0) (p.getD k 0)=true)->(∀i,r<=i->i < k->lt (p.getD k 0) (p.getD i 0)=true) ->
  cV n lt (fun m=>m<=k/\(∀i,i < m->lt (p.getD i 0) (p.getD k 0)=true) /\ ∀i,m<=i->i < k->lt (p.getD k 0) (p.getD i 0)=true) (kas_place p k f l r)
 |0,l,r,hf,hl,hr,lo,hi=>by
  obtain rfl:l=r:=by omega
  exact⟨hr,lo,hi⟩
 |f+1,l,r,hf,hl,hr,lo,hi=>by
  show cV n lt _ (if l ≥ r then _ else _);split
  ·obtain rfl:l=r:=by omega
   exact⟨hr,lo,hi⟩
  ·refine⟨h.lt (by omega) _,h.lt (by omega) _,?_⟩
   cases c:lt (p.getD k 0) (p.getD ((l+r) / 2) 0) with
   |true =>
    refine zz O h hk a f l ((l+r) / 2) (by omega) (by omega) (by omega) lo fun i Ct Cu=>?_
    by_cases e:i=(l+r) / 2
    ·rw[e];exact c
    ·exact O.tr _ _ _ c (a _ i (by omega) Cu)
   |false =>
    have c2:=A5 O h (i:=k) (j:=(l+r) / 2) hk (by omega) (by omega) c
    refine zz O h hk a f ((l+r) / 2+1) r (by omega) (by omega) hr (fun i Ct=>?_) hi
    by_cases e:i=(l+r) / 2
    ·rw[e];exact c2
    ·exact O.tr _ _ _ (a i _ (by omega) (by omega)) c2
theorem vR {p:Array Nat}{k l:Nat} (hk:k < p.size) (hl:l<=k) (i:Nat):(bubble p k (k - l)).getD i 0=if i=l then p.getD k 0 else if l < i/\i<=k then p.getD (i - 1) 0 else p.getD i 0:=by
 rw[k9,getElem?_bubble hk (k - l) (by omega)]
 have:k - (k - l)=l:=by omega
 rw[this]
 by_cases c1:i=l
 ·rw[ax c1,ax c1];exact(k9 ..).symm
 ·rw[aj c1,aj c1]
  by_cases c2:l < i/\i<=k
  ·rw[ax c2,ax c2];exact(k9 ..).symm
  ·rw[aj c2,aj c2];exact(k9 ..).symm
theorem G2 (O:Ord n lt):∀ (f:Nat) (p:Array Nat) (k:Nat),k+f=n->Pm n p->eV lt p k->cV n lt (fun r=>Pm n r/\eV lt r n) (kas_bin f p k)
 |0,p,k,e,h,a=>by
  obtain rfl:k=n:=by omega
  exact⟨h,a⟩
 |f+1,p,k,e,h,a=>(zz O h (by omega) a k 0 k (by omega) (aN _) (ay _) (fun i hi=>absurd hi (mq _)) (fun i h1 h2=>absurd h2 (by omega))).bind fun l hl=>by
  obtain⟨l1,l2,l3⟩:=hl;refine G2 O f _ _ (by omega) (h.Cn _ _) fun i j b9 hj=>?_
  have hsz:=h.size;rw[vR (by omega) l1 i,vR (by omega) l1 j]
  by_cases i1:i=l
  ·rw[ax i1,aj (by omega),ax (by omega)]
   exact l3 _ (by omega) (by omega)
  ·rw[aj i1]
   by_cases i2:l < i/\i<=k
   ·rw[ax i2,aj (by omega),ax (by omega)]
    exact a _ _ (by omega) (by omega)
   ·rw[aj i2]
    by_cases j1:j=l
    ·rw[ax j1];exact l2 i (by omega)
    ·rw[aj j1]
     by_cases j2:l < j/\j<=k
     ·rw[ax j2]
      exact a _ _ (by omega) (by omega)
     ·rw[aj j2]
      exact a _ _ b9 (by omega)
theorem PY (O:Ord n lt) (hn:2<=n):cV n lt (fun r=>Pm n r/\eV lt r n) (kas_sort n):=
 (OZ O hn (ja _)).bind fun r hr=>by
  obtain⟨r1,r2,r3,r4⟩:=hr;show cV n lt _ (if r.1 < n then _ else _);split
  ·refine G2 O _ _ _ (by omega) r1 ?_
   rw[show max r.1 1=r.1 by omega];exact r2
  ·obtain e:r.1=n:=by omega
   rw[e]at r2;exact⟨r1,r2⟩
end
def iY (p q:Str):Bool:=decide (p.cps.toList < q.cps.toList)
theorem zO (p:Str):iY p p=false:=cm (List.lt_irrefl _)
theorem HL {p q r:Str} (h1:iY p q=true) (h2:iY q r=true):iY p r=true:=b4 (List.lt_trans (pR h1) (pR h2))
theorem G3 {p q:Str} (h:p≠q) (f:iY p q=false):iY q p=true:=by
 refine b4 ?_;have h1 : ¬ p.cps.toList < q.cps.toList:=of_decide_eq_false f;have h2:q.cps.toList<=p.cps.toList:=List.not_lt.mp h1
 by_cases z:q.cps.toList < p.cps.toList
 ·exact z
 ·exact absurd (PR (a:=p) (b:=q) (List.not_lt.mp z) h2) h
theorem O0 {x y:Addr}{p q:Str}{t u:Tok}{v z:Addr}{C:Bool->Shared->Prop} (hx:IsTup s.heap x #[.str p t,.ref v]) (hy:IsTup s.heap y #[.str q u,.ref z]) (hd:p=q->v=z) (h:C (iY p q) s) :
  wpAny (model prog w) A (keyLt' (tuples' true) (.ref x) (.ref y)) C E s:=by
 obtain⟨ox,ex,cx,nx,dx⟩:=hx;obtain⟨oy,ey,cy,ny,dy⟩:=hy;refine kat_lt ex dx ey dy (kat_cons (DA ?_))
 by_cases e:p=q
 ·rw[b4 e]
  obtain rfl:=hd e;subst e;rw[zO]at h;exact kat_yes (kat_cons (Ou (kat_yes (kat_nil h))))
 ·rw[cm e]
  exact kat_no (kas_lt_str h)
theorem zA {α β:Type}{F:α->β->Prop}{l:List α}{m:List β} (h:Paired F l m) (dl:α) (dm:β) (i:Nat) (hi:i < l.length):F (l.getD i dl) (m.getD i dm):=by
 induction h generalizing i with
 |nil=>exact absurd hi (mq _)
 |cons p _ ih =>
  cases i with
  |zero=>exact p
  |succ i=>exact ih i (DQ hi)
theorem vB {α β γ:Type}{F:α->β->Prop}{f:γ->α}{g:γ->β}:∀ {l:List γ},(∀x∈l,F (f x) (g x))->Paired F (l.map f) (l.map g)
 |[],_=>.nil
 |x::l,h=>.cons (h x aZ) (vB fun y hy=>h y (a9 _ hy))
theorem AO {lt:Nat->Nat->Bool}{p:Array Nat} (hs:p.size=n) (a:eV lt p n):p.toList.Pairwise fun i j=>lt i j=true:=by
 rw[abx];intro i j hi hj b9;have h1:i < p.size:=by simpa using hi
 have h2:j < p.size:=by simpa using hj
 have:=a i j b9 (by omega)
 rw[k9,k9,jT h1,jT h2]at this
 simpa using this
theorem NH:dq X (.builtin "sorted") (fun xs H Q=>∃ (p:Addr) (ys:List V) (kvs:List (Str×V)),xs = [.ref p]/\ag X.K H p ys/\ik H ys kvs/\(∀q∈kvs,∃z,q.2=V.ref z)/\(kvs.map (·.1)).Nodup/\ys.length<=63 /\
  ∀D bG f7,H D=none->bG.Perm ys->ik H bG f7->f7.Perm kvs->(f7.map (·.1)).Pairwise (fun a b=>iY a b=true)->Q (.ref D) (upd H D (.lst bG))):=by
 intro pins s σ H xs us Q I r ⟨p,ys,kvs,ex,hq,pr,WJ,nd,lW,q⟩;subst ex;obtain⟨u,rfl,rx⟩:=vals1 r;cases rx
 obtain⟨its,rv,pl,hz⟩:=I.list hq;have fQ:ys.length=kvs.length:=fk pr;have cY:=rv.length;have at_:∀ (i:Nat),i < its.length -> ∃k a z t,(kvs.map (·.1))[i]? = some k/\its[i]? = some (.ref a)/\H a=some (.tup [.str k,.ref z])/\IsTup s.heap a #[.str k t,.ref z]:=by
  intro i hi;have eW:i < ys.length:=by omega
  obtain⟨p',fj,a,ey,ha⟩:=qe pr (show ys[i]? = some ys[i] from aQ eW);obtain⟨z,ez⟩:=WJ p' (eN fj);obtain⟨u,hu,ru⟩:=rv.get (show ys[i]? = some (V.ref a) by rw[aQ eW,ey])
  cases ru
  obtain⟨i2,r2,t2,_⟩:=I.tuple (ao.of ha);obtain⟨x,y,rfl,rx,ry⟩:=r2.two;rw[ez]at ry ha;cases ry
  obtain⟨t,rfl⟩:∃t,x = .str p'.1 t:=rx;exact⟨p'.1,a,z,t,by rw[cU,fj];rfl,hu,ha,t2⟩
 obtain⟨m,hm,_⟩:=id I.loc
 let lt:Nat->Nat->Bool:=fun i j=>iY ((kvs.map (·.1)).getD i "") ((kvs.map (·.1)).getD j "")
 have kl:(kvs.map (·.1)).length=its.length:=by rw[ar];omega
 have O:Ord its.length lt:=⟨fun i j k h1 h2=>HL h1 h2,fun i j hi hj b9 f=>G3 (fun e=>b9 ((DV (by omega) nd).mp (by
  rw[bX,bX,aQ (by omega),aQ (by omega)]at e
  rw[aQ (by omega),aQ (by omega)]
  exact d9 some e))) f⟩
 have fin:∀ (h':Heap) (D:Addr) (c:Nat) (pa:Array Nat),(∀b o,b≠X.env.locals->s.heap.get? b=some o->h'.get? b=some o)->h'.Ns X.env.locals m->(∀b o,s.heap.get? b=some o->b≠D)->Pm its.length pa->(pa.toList.Pairwise fun i j=>lt i j=true) ->
   h'.get? D=some (listOf (pa.toList.map fun i=>its.getD i Value.none).toArray c) -> ∃v H',Inv X pins σ H' { s with heap:=h' }/\RelV v (.ref D)/\Q v H':=by
  intro h' D c pa k jm hD hp gv new;have ku:∀i∈pa.toList,i < its.length:=fun i hi=>gx.mp (hp.mem_iff.mp hi);have py:(pa.toList.map fun i=>ys.getD i V.aD).Perm ys:=ql V.aD (by rw[cY];exact hp)
  have lX:Pm kvs.length pa:=by rw[<-fQ,cY];exact hp
  have pk:(pa.toList.map fun i=>kvs.getD i (("",V.aD):Str×V)).Perm kvs:=ql _ lX;have pp:ik H (pa.toList.map fun i=>ys.getD i V.aD) (pa.toList.map fun i=>kvs.getD i ("",V.aD)):=vB fun i hi=>zA pr V.aD ("",V.aD) i (by have:=ku i hi;omega)
  have ek:(pa.toList.map fun i=>kvs.getD i ("",V.aD)).map (·.1)=pa.toList.map fun i=>(kvs.map (·.1)).getD i ("" : Str):=by
   rw[lg];refine yV fun i hi=>?_;have:i < kvs.length:=by have:=ku i hi;omega
   show(kvs.getD i ("",V.aD)).1=_;rw[bX,bX,cU,aQ this];rfl
  have rel:Vals (pa.toList.map fun i=>ys.getD i V.aD) (pa.toList.map fun i=>its.getD i Value.none):=vG (fun i=>by
   by_cases hi:i < ys.length
   ·obtain⟨u,hu,ru⟩:=rv.get (show ys[i]? = some ys[i] from aQ hi)
    rw[bX,bX,hu,aQ hi];exact ru
   ·rw[bX,bX,sy (by omega),sy (by omega)];trivial) pa.toList
  obtain⟨hn,I'⟩:=Inv.sorted (t':=s.toks) I hm jm k hD new rel (by rw[py.length_eq];exact hz)
  refine⟨.ref D,_,I',rfl,q D _ _ hn py pp pk ?_⟩;rw[ek,vo];exact gv
 have U':∀v∈its,∃a k t z,v=Value.ref a/\IsTup s.heap a #[.str k t,.ref z]/\a≠X.env.locals:=fun v hv=>by
  obtain⟨i,hi,rfl⟩:=yO hv;obtain⟨k,a,z,t,_,h2,h3,h4⟩:=at_ i hi;rw[aQ hi]at h2;exact⟨a,k,t,z,e7 h2,h4,fun e=>by rw[e,I.free]at h3;cases h3⟩
 by_cases h2:its.length < 2
 ·refine NM pl.isList h2 fun D c h' kp hD new=>?_
  obtain⟨o,es,ep,ho,rr⟩:=id hm;refine fin h' D c (List.range its.length).toArray (fun b o _ e=>kp b o e) ⟨o,es,ep,kp _ _ ho,rr⟩ hD (ja _) ?_ ?_
  ·show(List.range its.length).Pairwise _
   have:its.length=0\/its.length=1:=by omega
   rcases this with z|z <;> rw[z]
   ·exact List.Pairwise.nil
   ·exact MX _ _
  ·have:(List.range its.length).map (fun i=>its.getD i Value.none)=its:=by
    apply yS
    ·simp
    ·intro i h1 h2;simp[List.getD,h2]
   show h'.get? D=some (listOf ((List.range its.length).map fun i=>its.getD i Value.none).toArray c);rw[this];exact new
 ·have h2:2<=its.length:=by omega
  obtain⟨g0,uF,hX⟩:∃g0:Heap,g0.objs.size=0 /\ ∀b,g0.get? b=none:=⟨{ s.heap with objs:= #[] },rfl,fun b=>DB (aN _)⟩;have F:Fr g0 X.env.locals s.heap m:=⟨hm,fun b o e=>(by rw[hX]at e;cases e),by rw[uF];exact aN _⟩
  refine kat_sorted F (zJ (g:=g0) (L:=X.env.locals)) pl.isList h2 (by omega) fun D e1 h' F' N' lt'=>?_
  have kp:∀b o,b≠X.env.locals->s.heap.get? b=some o->h'.get? b=some o:=fun b o n e=>(N' (b,o) (a9 _ (mw n (hX b) e))).1;have tk:∀ {a:Addr}{k:Str}{t:Tok}{z:Addr},a≠X.env.locals->IsTup s.heap a #[.str k t,.ref z]->IsTup h' a #[.str k t,.ref z]:=fun n ⟨o,ho,r⟩=>⟨o,kp _ o n ho,r⟩;obtain⟨fs,Ks,oZ,jj⟩:=G0 (h:=h') (vs:=its) fun v hv=>by
   obtain⟨a,k,t,z,e,h4,n⟩:=U' v hv;exact⟨a,k,t,z,e,tk n h4⟩
  refine kat_kind (T:= .type "str") oZ (by omega) (fun f hf=>?_) (by decide) ?_
  ·obtain⟨k,t,rfl⟩:=jj f hf
   exact Looks.of_pure rfl
  ·have hD:∀b o,s.heap.get? b=some o->b≠D:=fun b o e=>by
    by_cases hb:b=X.env.locals
    ·rw[hb];exact bb (N' _ aZ).2.1
    ·exact bZ (lt' (b,o) (mw hb (hX b) e))
   refine(PY O h2).wp (fun i j C hi hj hC=>?_) fun pa hp=>?_
   ·obtain⟨k,a,z,t,g1,g2,g3,g4⟩:=at_ i hi
    obtain⟨k',a',z',t',o3,lY,kx,o4⟩:=at_ j hj;unfold kas_ask;rw[bX,bX,g2,lY];have el:lt i j=iY k k':=by show iY ((kvs.map (·.1)).getD i "") ((kvs.map (·.1)).getD j "")=_;rw[bX,bX,g1,o3];rfl
    rw[el]at hC;refine O0 (tk (fun e=>by rw[e,I.free]at g3;cases g3) g4) (tk (fun e=>by rw[e,I.free]at kx;cases kx) o4) (fun e=>?_) hC
    subst e;have b9:i=j:=(DV (by rw[ar];omega) nd).mp (g1.trans o3.symm)
    subst b9;rw[g2]at lY;cases lY;rw[g3]at kx;cases kx;rfl
   ·refine DW F' N' (UpdF.head fun p hp=>?_) fun nu c o5 jM=>?_
    ·have:=nQ hp
     exact hD p.1 p.2 this.2.2
    ·exact fin nu D c pa (fun b o n e=>(jM (b,o) (a9 _ (mw n (hX b) e))).1) o5.ns hD hp.1 (AO hp.1.size hp.2) (jM _ aZ).1
end L2
namespace HS
open PySem PySem.Spec PyProof.Rows PySem.W
theorem N3 {vs:List Value}{Q:List Value->Shared->Prop} (ht:IsTup s.heap l vs.toArray) (hz:vs.length<=sizeLine) (q:∀h',(∀b o,s.heap.get? b=some o->h'.get? b=some o)->Q vs { s with heap:=h' }) :
  wpAny (model P w) A (collect (.ref l)) Q E s:=by
 obtain⟨o,ho,hc,n,hd⟩:=id ht;unfold collect;refine ab (MZ (mi aby ?_));rw[nO abz _];show wpAny _ A.in1 (newList [] >>= fun z=>again (.builtin "list.__iadd__" ⟨[z,.ref l],[]⟩)) _ _ s;refine ab (yT (ai ⟨pP DX _,mi abA ?_⟩));rw[nO DX _];show wpAny _ _ (Builtin.List.listExtendWith (.ref s.heap.objs.size) (.ref l) (.ref s.heap.objs.size)) _ _ { s with heap:=s.heap.push (seqObj "list" #[] 0) };unfold Builtin.List.listExtendWith;have iU:(s.heap.push (seqObj "list" #[] 0)).get? l=some o:=bc _ ho;refine ab (nJ (T:= "tuple") ⟨o,iU,hc⟩ ?_);have t1:(Value.type "tuple" == Value.type "tuple")=true:=by rfl
 rw[ax (by rw[t1];simp)]
 refine ab (listItems_at iU hd (ab (listItems_at (xs:= #[]) (n:=0) (cw _ rfl) rfl ?_)));rw[aj (by simp)]
 refine ab (listUpdate_at (xs:= #[]) (n:=0) (cw _ rfl) rfl (ai ?_) (aN _) (by show(#[]++vs.toArray).size<=sizeLine+1;simp only[DM,bY,yP];omega))
 show wpAny (model P w) A (load s.heap.objs.size >>= _) Q E { s with heap:=(s.heap.push (seqObj "list" #[] 0)).update s.heap.objs.size (Obj.mapSeq (· ++ vs.toArray)) };refine ab (sr (get?_update_seq (cw _ rfl) _) ?_);show wpAny _ _ (pure ((#[]:Array Value)++vs.toArray).toList) Q E _;rw[show((#[]:Array Value)++vs.toArray).toList=vs by simp]
 refine ai (q _ fun b ob e=>?_);exact(sx _ _ (so (bw e))).trans (bc _ e)
end HS
namespace L2
open PySem PySem.Spec PyProof.Rows PySem.W HS
end L2
namespace HT
open PySem PyProof.Rows PySem.W
open PySem.AutoSeq1 (wpAny_loadPart')
end HT
namespace L2
open PySem PySem.Spec PyProof.Rows PySem.W HT
end L2
namespace L2
open PySem PySem.W PySem.Calls PyProof.Rows
structure jg (n:Nat) (lt:Nat->Nat->Bool):Prop where
 tr:∀i j k,i < n->j < n->k < n->lt i j=true->lt j k=true->lt i k=true
 Cs:∀i j,i < n->j < n->i≠j->lt i j=false->lt j i=true
def cW {α:Type} (n:Nat) (lt:Nat->Nat->Bool) (φ:α->Prop):KasT α->Prop
 |.ret a=>φ a
 |.ask i j k=>i < n/\j < n/\i≠j/\cW n lt φ (k (lt i j))
section
variable{α β:Type}{lt:Nat->Nat->Bool}
theorem cW.bind {φ:α->Prop}{ψ:β->Prop}{f:α->KasT β} (g:∀a,φ a->cW n lt ψ (f a)):∀ {t:KasT α},cW n lt φ t->cW n lt ψ (t.bind f)
 |.ret a,h=>g a h
 |.ask _ _ _,h=>⟨h.1,h.2.1,h.2.2.1,cW.bind g h.2.2.2⟩
theorem cW.wp {φ:α->Prop}{cmp:Nat->Nat->(Bool->Shared->Prop)->Shared->Prop}{Q:α->Shared->Prop}{s:Shared} (hc:∀i j C,i < n->j < n->i≠j->C (lt i j) s->cmp i j C s):∀ {t:KasT α},cW n lt φ t->(∀a,φ a->Q a s)->t.kasWp cmp Q s
 |.ret a,h,q=>q a h
 |.ask _ _ _,h,q=>hc _ _ _ h.1 h.2.1 h.2.2.1 (cW.wp hc h.2.2.2 q)
theorem cW.mono {φ ψ:α->Prop} (g:∀a,φ a->ψ a):∀ {t:KasT α},cW n lt φ t->cW n lt ψ t
 |.ret a,h=>g a h
 |.ask _ _ _,h=>⟨h.1,h.2.1,h.2.2.1,cW.mono g h.2.2.2⟩
theorem A6 {p:Array Nat} (O:jg n lt) (h:Pm n p) (hi:i < n) (hj:j < n) (e:i≠j) (f:lt (p.getD i 0) (p.getD j 0)=false):lt (p.getD j 0) (p.getD i 0)=true:=
 O.Cs _ _ (h.lt (by omega) i) (h.lt (by omega) j) (h.ne hi hj e) f
theorem O1 {p:Array Nat} (O:jg n lt) (h:Pm n p) (h1:1<=m) (hm:m < n) (a:eV lt p m) (l:lt (p.getD (m - 1) 0) (p.getD m 0)=true):eV lt p (m+1):=fun i j b9 hj=>by
 by_cases e:j < m
 ·exact a i j b9 e
 ·obtain rfl:j=m:=by omega
  by_cases e2:i=j - 1
  ·rw[e2];exact l
  ·exact O.tr _ _ _ (h.lt (by omega) _) (h.lt (by omega) _) (h.lt (by omega) _) (a i (j - 1) (by omega) (by omega)) l
theorem O2 {p:Array Nat} (O:jg n lt) (h:Pm n p) (h1:1<=m) (hm:m < n) (a:hW lt p m) (l:lt (p.getD m 0) (p.getD (m - 1) 0)=true):hW lt p (m+1):=fun i j b9 hj=>by
 by_cases e:j < m
 ·exact a i j b9 e
 ·obtain rfl:j=m:=by omega
  by_cases e2:i=j - 1
  ·rw[e2];exact l
  ·exact O.tr _ _ _ (h.lt (by omega) _) (h.lt (by omega) _) (h.lt (by omega) _) l (a i (j - 1) (by omega) (by omega))
theorem zP {p:Array Nat} (O:jg n lt) (h:Pm n p):∀ (f m:Nat),1<=m->m+f<=n->eV lt p m->cW n lt (fun r=>m<=r/\r<=m+f/\eV lt p r/\(r < m+f->lt (p.getD r 0) (p.getD (r - 1) 0)=true)) (kas_asc p f m)
 |0,m,h1,h2,a=>⟨ay _,ay _,a,fun z=>absurd z (by omega)⟩
 |f+1,m,h1,h2,a=>⟨h.lt (by omega) _,h.lt (by omega) _,h.ne (by omega) (by omega) (by omega),by
  cases c:lt (p.getD m 0) (p.getD (m - 1) 0) with
  |true=>exact⟨ay _,by omega,a,fun _=>c⟩
  |false =>
   refine cW.mono (fun r hr=>?_) (zP O h f (m+1) (by omega) (by omega) (O1 O h h1 (by omega) a (A6 O h (by omega) (by omega) (by omega) c)))
   exact⟨by omega,by omega,hr.2.2.1,fun z=>hr.2.2.2 (by omega)⟩⟩
theorem E6 {p:Array Nat} (O:jg n lt) (h:Pm n p):∀ (f m:Nat),1<=m->m+f<=n->hW lt p m->cW n lt (fun r:Array Nat×Nat×Nat=>r.1=p/\r.2.2=0/\m<=r.2.1/\r.2.1<=m+f/\hW lt p r.2.1) (kas_desc f p m 0)
 |0,m,h1,h2,a=>⟨rfl,rfl,ay _,ay _,a⟩
 |f+1,m,h1,h2,a=>⟨h.lt (by omega) _,h.lt (by omega) _,h.ne (by omega) (by omega) (by omega),by
  cases c:lt (p.getD m 0) (p.getD (m - 1) 0) with
  |true =>
   show cW n lt _ (if 0 > 0 then kas_desc f (kas_rev p (m - (0+1)) m) (m+1) 0 else kas_desc f p (m+1) 0);rw[aj (by omega)]
   refine cW.mono (fun r hr=>?_) (E6 O h f (m+1) (by omega) (by omega) (O2 O h h1 (by omega) a c))
   exact⟨hr.1,hr.2.1,by omega,by omega,hr.2.2.2.2⟩
  |false =>
   refine⟨h.lt (by omega) _,h.lt (by omega) _,h.ne (by omega) (by omega) (by omega),?_⟩
   rw[A6 O h (by omega) (by omega) (by omega) c]
   exact⟨rfl,rfl,ay _,DU _ _,a⟩⟩
def w9 (n:Nat) (lt:Nat->Nat->Bool) (r:Nat×Array Nat):Prop:=Pm n r.2/\eV lt r.2 r.1/\1<=r.1/\r.1<=n
theorem Ow {p:Array Nat} (O:jg n lt) (h:Pm n p) (h1:1<=m) (h2:m<=n) (a:hW lt p m):cW n lt (w9 n lt) (kas_tail3 m n p):=
 cW.bind (ψ:=w9 n lt) (f:=fun k=>.ret (k,kas_rev p 0 m)) (fun r hr=>(show w9 n lt (r,kas_rev p 0 m) from⟨h.rev _ _,hr.2.2.1,cL h1 hr.1,by have:=hr.2.1;show r<=n;omega⟩)) (zP O (h.rev 0 m) (n - m) m h1 (by omega) (a.rev (by rw[h.size];exact h2)))
theorem Ox {p:Array Nat} (O:jg n lt) (hn:2<=n) (h:Pm n p):cW n lt (w9 n lt) (kas_count n p):=
 (zP O h (n - 1) 1 (ay _) (by omega) (fun i j b9 hj=>absurd hj (by omega))).bind fun m hm=>by
  obtain⟨m1,m2,ma,ml⟩:=hm;show cW n lt _ (if (m==n)=true then _ else if m > 1 then _ else _);split
  ·rename_i e
   have:m=n:=by simpa using e
   subst this;exact⟨h,ma,m1,ay _⟩
  ·rename_i e
   have ne:m≠n:=by simpa using e
   split
   ·rename_i g
    refine⟨h.lt (by omega) _,h.lt (by omega) _,h.ne (by omega) (by omega) (by omega),?_⟩
    rw[ma 0 (m - 1) (by omega) (by omega)]
    exact⟨h,ma,m1,by omega⟩
   ·obtain rfl:m=1:=by omega
    have l:=ml (by omega)
    have d2:hW lt p 2:=fun i j b9 hj=>by
     obtain rfl:j=1:=by omega
     obtain rfl:i=0:=by omega
     exact l
    refine cW.bind (fun r hr=>?_) (E6 O h (n - (1+1)) (1+1) (by omega) (by omega) d2)
    obtain⟨r1,r2,r3,r4,r5⟩:=hr;show cW n lt _ (if r.2.2 > 0 then _ else _);rw[aj (by omega),r1]
    exact Ow O h (by omega) (by omega) r5
theorem zk {p:Array Nat} (O:jg n lt) (h:Pm n p) {k:Nat} (hk:k < n) (a:eV lt p k):∀ (f l r:Nat),r - l<=f->l<=r->r<=k->(∀i,i < l->lt (p.getD i 0) (p.getD k 0)=true)->(∀i,r<=i->i < k->lt (p.getD k 0) (p.getD i 0)=true) ->
  cW n lt (fun m=>m<=k/\(∀i,i < m->lt (p.getD i 0) (p.getD k 0)=true) /\ ∀i,m<=i->i < k->lt (p.getD k 0) (p.getD i 0)=true) (kas_place p k f l r)
 |0,l,r,hf,hl,hr,lo,hi=>by
  obtain rfl:l=r:=by omega
  exact⟨hr,lo,hi⟩
 |f+1,l,r,hf,hl,hr,lo,hi=>by
  show cW n lt _ (if l ≥ r then _ else _);split
  ·obtain rfl:l=r:=by omega
   exact⟨hr,lo,hi⟩
  ·refine⟨h.lt (by omega) _,h.lt (by omega) _,h.ne (by omega) (by omega) (by omega),?_⟩
   cases c:lt (p.getD k 0) (p.getD ((l+r) / 2) 0) with
   |true =>
    refine zk O h hk a f l ((l+r) / 2) (by omega) (by omega) (by omega) lo fun i Ct Cu=>?_
    by_cases e:i=(l+r) / 2
    ·rw[e];exact c
    ·exact O.tr _ _ _ (h.lt (by omega) _) (h.lt (by omega) _) (h.lt (by omega) _) c (a _ i (by omega) Cu)
   |false =>
    have c2:=A6 O h (i:=k) (j:=(l+r) / 2) hk (by omega) (by omega) c
    refine zk O h hk a f ((l+r) / 2+1) r (by omega) (by omega) hr (fun i Ct=>?_) hi
    by_cases e:i=(l+r) / 2
    ·rw[e];exact c2
    ·exact O.tr _ _ _ (h.lt (by omega) _) (h.lt (by omega) _) (h.lt (by omega) _) (a i _ (by omega) (by omega)) c2
theorem FV (O:jg n lt):∀ (f:Nat) (p:Array Nat) (k:Nat),k+f=n->Pm n p->eV lt p k->cW n lt (fun r=>Pm n r/\eV lt r n) (kas_bin f p k)
 |0,p,k,e,h,a=>by
  obtain rfl:k=n:=by omega
  exact⟨h,a⟩
 |f+1,p,k,e,h,a=>(zk O h (by omega) a k 0 k (by omega) (aN _) (ay _) (fun i hi=>absurd hi (mq _)) (fun i h1 h2=>absurd h2 (by omega))).bind fun l hl=>by
  obtain⟨l1,l2,l3⟩:=hl;refine FV O f _ _ (by omega) (h.Cn _ _) fun i j b9 hj=>?_
  have hsz:=h.size;rw[vR (by omega) l1 i,vR (by omega) l1 j]
  by_cases i1:i=l
  ·rw[ax i1,aj (by omega),ax (by omega)]
   exact l3 _ (by omega) (by omega)
  ·rw[aj i1]
   by_cases i2:l < i/\i<=k
   ·rw[ax i2,aj (by omega),ax (by omega)]
    exact a _ _ (by omega) (by omega)
   ·rw[aj i2]
    by_cases j1:j=l
    ·rw[ax j1];exact l2 i (by omega)
    ·rw[aj j1]
     by_cases j2:l < j/\j<=k
     ·rw[ax j2]
      exact a _ _ (by omega) (by omega)
     ·rw[aj j2]
      exact a _ _ b9 (by omega)
theorem E7 (O:jg n lt) (hn:2<=n):cW n lt (fun r=>Pm n r/\eV lt r n) (kas_sort n):=
 (Ox O hn (ja _)).bind fun r hr=>by
  obtain⟨r1,r2,r3,r4⟩:=hr;show cW n lt _ (if r.1 < n then _ else _);split
  ·refine FV O _ _ _ (by omega) r1 ?_
   rw[show max r.1 1=r.1 by omega];exact r2
  ·obtain e:r.1=n:=by omega
   rw[e]at r2;exact⟨r1,r2⟩
end
end L2
namespace L2
open PySem PySem.W PySem.Calls PyProof.Rows HS
def de:List Str->List Str->Bool
 |a::as,b::bs=>if a=b then de as bs else iY a b
 |_,_=>false
theorem wu:∀ {a b c:List Str},a.length=b.length->b.length=c.length->de a b=true->de b c=true->de a c=true
 |[],_,_,h1,_,h,_=>by unfold de at h;cases h
 |a::as,[],_,h1,_,_,_=>by simp at h1
 |a::as,b::bs,[],_,h2,_,_=>by simp at h2
 |a::as,b::bs,c::cs,h1,h2,h3,h4=>by
  unfold de at h3 h4 ⊢
  by_cases e1:a=b
  ·rw[ax e1]at h3
   subst e1
   by_cases e2:a=c
   ·rw[ax e2]at h4 ⊢;exact wu (by simpa using h1) (by simpa using h2) h3 h4
   ·rw[aj e2]at h4 ⊢;exact h4
  ·rw[aj e1]at h3
   by_cases e2:b=c
   ·subst e2
    rw[aj e1];exact h3
   ·rw[aj e2]at h4
    have t:=HL h3 h4
    by_cases e3:a=c
    ·subst e3;rw[zO]at t;cases t
    ·rw[aj e3];exact t
theorem Ai:∀ {a b:List Str},a.length=b.length->a≠b->de a b=false->de b a=true
 |[],[],_,h,_=>absurd rfl h
 |[],b::bs,h,_,_=>by simp at h
 |a::as,[],h,_,_=>by simp at h
 |a::as,b::bs,h1,h2,h3=>by
  unfold de at h3 ⊢
  by_cases e:a=b
  ·subst e
   rw[ax rfl]at h3 ⊢;exact Ai (by simpa using h1) (fun z=>h2 (by rw[z])) h3
  ·rw[aj e]at h3;rw[aj (bb e)]
   exact G3 e h3
theorem E8 {a b:Str}{t u:Tok}{c:Bool}{Q:Bool->Shared->Prop} (h:Q (iY a b) s):wpAny (model P w) A (oneLt' c (.str a t) (.str b u)) Q E s:=by
 cases c with
 |true=>exact oneLt_str h
 |false =>
  rw[oneLt'_eq];simp only[gO,fc];exact ab (PyProof.Rows.lt_str (jR h))
theorem zB {b fin:Bool}{Q:Bool->Shared->Prop}:∀ {as bs:List Str}{us vs:List Value}{ru rv:List Value} (i:Nat),StrsAre us as->StrsAre vs bs->as.length=bs.length->as≠bs->Q (de as bs) s->KatLex P w A b fin Q ((us++ru).zip (vs++rv)) i s
 |[],[],_,_,_,_,_,_,_,_,h,_=>absurd rfl h
 |[],_::_,_,_,_,_,_,_,_,h,_,_=>by simp at h
 |_::_,[],_,_,_,_,_,_,_,h,_,_=>by simp at h
 |a::as,b'::bs,_,_,ru,rv,i,.cons _ t h1,.cons _ u h2,hl,dZ,q=>by
  unfold de at q;refine kat_cons (DA ?_)
  by_cases e:a=b'
  ·rw[b4 e]
   rw[ax e]at q;exact kat_yes (zB (i+1) h1 h2 (by simpa using hl) (fun z=>dZ (by rw[e,z])) q)
  ·rw[cm e]
   rw[aj e]at q;exact kat_no (E8 q)
def gU (H:Hp) (m:Nat) (vs:List V) (kvs:List (List Str×List V)):Prop:=Paired (fun y p=>∃a,y=V.ref a/\H a=some (.tup (p.1.map V.str++p.2))/\p.1.length=m) vs kvs
theorem gU.same {kvs:List (List Str×List V)} (h:gU H m vs kvs) (s:aw H H'):gU H' m vs kvs:=Paired.imp' (fun _ _ ⟨a,e,q,l⟩=>⟨a,e,s _ _ q,l⟩) h
theorem zm {H:Hp}:∀ {ks:List Str}{rest:List V}{its:List Value},Vals (ks.map V.str++rest) its -> ∃us ru,its=us++ru/\StrsAre us ks
 |[],rest,its,h=>⟨[],its,rfl,.nil⟩
 |k::ks,rest,its,h=>by
  cases h with
  |cons r t =>
   obtain⟨tk,rfl⟩:=r;obtain⟨us,ru,e,st⟩:=zm (H:=H) t;exact⟨.str k tk::us,ru,by rw[e];rfl,.cons k tk st⟩
theorem NR:dq X (.builtin "sorted") (fun xs H Q=>∃ (p:Addr) (ys:List V) (kvs:List (List Str×List V)) (m:Nat),xs = [.ref p]/\(ag X.K H p ys\/ao X.K H p ys)/\gU H m ys kvs/\1<=m/\(kvs.map (·.1)).Nodup/\ys.length<=63 /\
  ∀D bG f7,H D=none->bG.Perm ys->gU H m bG f7->f7.Perm kvs->(f7.map (·.1)).Pairwise (fun a b=>de a b=true)->Q (.ref D) (upd H D (.lst bG))):=by
 intro pins s σ H xs us Q I r ⟨p,ys,kvs,mm,ex,hq,pr,WK,nd,lW,q⟩;subst ex;obtain⟨u,rfl,rx⟩:=vals1 r;cases rx
 obtain⟨its,rv,hz,col⟩:∃its:List Value,Vals ys its/\ys.length<=sizeLine /\ ∀ (A:Around) (E:Value->Shared->Prop) (Q':List Value->Shared->Prop),(∀h',(∀b o,s.heap.get? b=some o->h'.get? b=some o)->Q' its { s with heap:=h' })->wpAny (model X.prog X.w) A (collect (.ref p)) Q' E s:=by
  rcases hq with hq|hq
  ·obtain⟨its,rv,pl,hz⟩:=I.list hq
   have:=rv.length;refine⟨its,rv,hz,fun A E Q' q'=>collect_list pl.isList (q' _ fun b o e=>?_) (by rw[aA];omega)⟩
   exact(sx _ _ (so (bw e))).trans (bc _ e)
  ·obtain⟨its,rv,pl,hz⟩:=I.tuple hq
   have:=rv.length;exact⟨its,rv,hz,fun A E Q' q'=>N3 pl (by rw[aA];omega) q'⟩
 have fQ:ys.length=kvs.length:=fk pr;have cY:=rv.length;have at_:∀ (i:Nat),i < its.length -> ∃ (ks:List Str) (a:Addr) (tu ru:List Value),(kvs.map (·.1))[i]? = some ks/\its[i]? = some (.ref a)/\a≠X.env.locals/\IsTup s.heap a (tu++ru).toArray/\StrsAre tu ks/\ks.length=mm:=by
  intro i hi;have eW:i < ys.length:=by omega
  obtain⟨p',fj,a,ey,ha,Cv⟩:=qe pr (show ys[i]? = some ys[i] from aQ eW);obtain⟨u,hu,ru⟩:=rv.get (show ys[i]? = some (V.ref a) by rw[aQ eW,ey])
  cases ru
  obtain⟨i2,r2,t2,_⟩:=I.tuple (ao.of ha);obtain⟨tu,ru,e,st⟩:=zm (H:=H) r2;rw[e]at t2;exact⟨p'.1,a,tu,ru,by rw[cU,fj];rfl,hu,(fun z=>by rw[z,I.free]at ha;cases ha),t2,st,Cv⟩
 obtain⟨m,hm,_⟩:=id I.loc
 let lt:Nat->Nat->Bool:=fun i j=>de ((kvs.map (·.1)).getD i []) ((kvs.map (·.1)).getD j [])
 have kl:(kvs.map (·.1)).length=its.length:=by rw[ar];omega
 have iM:∀i,i < its.length->((kvs.map (·.1)).getD i []).length=mm:=fun i hi=>by
  obtain⟨ks,_,_,_,h1,_,_,_,_,h2⟩:=at_ i hi;rw[bX,h1];exact h2
 have o6:∀i j,i < its.length->j < its.length->i≠j->(kvs.map (·.1)).getD i []≠(kvs.map (·.1)).getD j []:=fun i j hi hj b9 e=>b9 ((DV (by omega) nd).mp (by
  rw[bX,bX,aQ (by omega),aQ (by omega)]at e
  rw[aQ (by omega),aQ (by omega)]
  exact d9 some e))
 have O:jg its.length lt:=⟨fun i j k hi hj hk h1 h2=>wu ((iM i hi).trans (iM j hj).symm) ((iM j hj).trans (iM k hk).symm) h1 h2,fun i j hi hj b9 f=>Ai ((iM i hi).trans (iM j hj).symm) (o6 i j hi hj b9) f⟩;have fin:∀ (h':Heap) (D:Addr) (c:Nat) (pa:Array Nat),(∀b o,b≠X.env.locals->s.heap.get? b=some o->h'.get? b=some o)->h'.Ns X.env.locals m->(∀b o,s.heap.get? b=some o->b≠D)->Pm its.length pa->(pa.toList.Pairwise fun i j=>lt i j=true) ->
   h'.get? D=some (listOf (pa.toList.map fun i=>its.getD i Value.none).toArray c) -> ∃v H',Inv X pins σ H' { s with heap:=h' }/\RelV v (.ref D)/\Q v H':=by
  intro h' D c pa k jm hD hp gv new;have ku:∀i∈pa.toList,i < its.length:=fun i hi=>gx.mp (hp.mem_iff.mp hi);have py:(pa.toList.map fun i=>ys.getD i V.aD).Perm ys:=ql V.aD (by rw[cY];exact hp)
  have lX:Pm kvs.length pa:=by rw[<-fQ,cY];exact hp
  have pk:(pa.toList.map fun i=>kvs.getD i (([],[]):List Str×List V)).Perm kvs:=ql _ lX;have pp:gU H mm (pa.toList.map fun i=>ys.getD i V.aD) (pa.toList.map fun i=>kvs.getD i ([],[])):=vB fun i hi=>zA pr V.aD ([],[]) i (by have:=ku i hi;omega)
  have ek:(pa.toList.map fun i=>kvs.getD i ([],[])).map (·.1)=pa.toList.map fun i=>(kvs.map (·.1)).getD i []:=by
   rw[lg];refine yV fun i hi=>?_;have:i < kvs.length:=by have:=ku i hi;omega
   show(kvs.getD i ([],[])).1=_;rw[bX,bX,cU,aQ this];rfl
  have rel:Vals (pa.toList.map fun i=>ys.getD i V.aD) (pa.toList.map fun i=>its.getD i Value.none):=vG (fun i=>by
   by_cases hi:i < ys.length
   ·obtain⟨u,hu,ru⟩:=rv.get (show ys[i]? = some ys[i] from aQ hi)
    rw[bX,bX,hu,aQ hi];exact ru
   ·rw[bX,bX,sy (by omega),sy (by omega)];trivial) pa.toList
  obtain⟨hn,I'⟩:=Inv.sorted (t':=s.toks) I hm jm k hD new rel (by rw[py.length_eq];exact hz)
  refine⟨.ref D,_,I',rfl,q D _ _ hn py pp pk ?_⟩;rw[ek,vo];exact gv
 refine MS kind_sorted plain_sorted entry_sorted (args_sorted1 _) ?_;unfold Builtin.«sorted»;refine ab (m:=checkCount "sorted" 1 1 _) (ai (ab (col _ _ _ fun h1 k1=>?_)));refine ab (yT ?_ (by rw[aA];omega))
 have o7:(h1.push (seqObj "list" its.toArray 0)).get? h1.objs.size=some (seqObj "list" its.toArray 0):=cw _ rfl;have hD:∀b o,s.heap.get? b=some o->b≠h1.objs.size:=fun b o e=>bZ (bw (k1 b o e));refine ab (fb (jS slot_list_sort ⟨_,o7,rfl⟩ entry_list_sort ?_ (args_list_sort _)));have keep:∀b o,s.heap.get? b=some o->(h1.push (seqObj "list" its.toArray 0)).get? b=some o:=fun b o e=>bc _ (k1 b o e)
 by_cases h2:its.length < 2
 ·refine zy o7 h2 fun c g kg new=>⟨_,rfl,ai ⟨_,rfl,?_⟩⟩
  refine fin g _ c (List.range its.length).toArray (fun b o _ e=>kg b o (hD b o e) (keep b o e)) (hm.at' fun o e=>kg _ o (hD _ o e) (keep _ o e)) hD (ja _) ?_ ?_
  ·show(List.range its.length).Pairwise _
   have:its.length=0\/its.length=1:=by omega
   rcases this with z|z <;> rw[z]
   ·exact List.Pairwise.nil
   ·exact MX _ _
  ·have:(List.range its.length).map (fun i=>its.getD i Value.none)=its:=by
    apply yS
    ·simp
    ·intro i h1 h2;simp[List.getD,h2]
   show g.get? h1.objs.size=some (listOf ((List.range its.length).map fun i=>its.getD i Value.none).toArray c);rw[this];exact new
 ·have h2:2<=its.length:=by omega
  obtain⟨g0,uF,hX⟩:∃g0:Heap,g0.objs.size=0 /\ ∀b,g0.get? b=none:=⟨{ s.heap with objs:= #[] },rfl,fun b=>DB (aN _)⟩;have F:Fr g0 X.env.locals s.heap m:=⟨hm,fun b o e=>(by rw[hX]at e;cases e),by rw[uF];exact aN _⟩
  have N:=zJ (g:=g0) (L:=X.env.locals) (h:=s.heap);have Cw:∃o,s.heap.get? X.env.locals=some o:=let ⟨o,_,_,e,_⟩:=hm;⟨o,e⟩;obtain⟨oL,eL⟩:=Cw;refine kat_list_sort (s:={ s with heap:=h1.push (seqObj "list" its.toArray 0) }) (F.kept keep) (N.grown keep) o7 (bb (hD _ _ eL)) (hX _) (fun p hp=>hD p.1 p.2 (nQ hp).2.2) h2 (by omega) fun e1 h' F' N'=>?_
  have kp:∀b o,b≠X.env.locals->s.heap.get? b=some o->h'.get? b=some o:=fun b o n e=>(N' (b,o) (a9 _ (mw n (hX b) e))).1;have tk:∀ {a:Addr}{zs:Array Value},a≠X.env.locals->IsTup s.heap a zs->IsTup h' a zs:=fun n ⟨o,ho,r⟩=>⟨o,kp _ o n ho,r⟩;have ft:∀ (vs:List Value),(∀v∈vs,∃a tu ru ks,v=Value.ref a/\IsTup h' a (tu++ru).toArray/\StrsAre tu ks/\ks.length=mm) -> ∃fs,fs.length=vs.length/\KatTups h' vs fs /\ ∀f∈fs,∃k t,f=Value.str k t:=by
   intro vs
   induction vs with
   |nil=>intro _;exact⟨[],rfl,KatTups.nil,fun f hf=>(by cases hf)⟩
   |cons v vs ih =>
    intro hv;obtain⟨fs,f1,f2,f3⟩:=ih fun v' h'=>hv v' (a9 _ h');obtain⟨a,tu,ru,ks,rfl,⟨o,ho,hc,n,hd⟩,st,o8⟩:=hv v aZ;cases st with
    |nil=>simp at o8;omega
    |cons k t r =>
     refine⟨.str k t::fs,by rw[b5,b5,f1],KatTups.cons ho hc hd (by simp) f2,fun f hf=>?_⟩
     rcases bx.mp hf with z|z
     ·exact⟨k,t,z⟩
     ·exact f3 f z
  obtain⟨fs,Ks,oZ,jj⟩:=ft its fun v hv=>by
   obtain⟨i,hi,rfl⟩:=yO hv;obtain⟨ks,a,tu,ru,_,g2,g3,g4,g5,g6⟩:=at_ i hi;rw[aQ hi]at g2;exact⟨a,tu,ru,ks,e7 g2,tk g3 g4,g5,g6⟩
  refine kat_kind (T:= .type "str") oZ (by omega) (fun f hf=>?_) (by decide) ?_
  ·obtain⟨k,t,rfl⟩:=jj f hf
   exact Looks.of_pure rfl
  ·refine(E7 O h2).wp (fun i j C hi hj b9 hC=>?_) fun pa hp=>?_
   ·obtain⟨k,a,tu,ru,g1,g2,g3,g4,g5,g6⟩:=at_ i hi
    obtain⟨k',a',Kt,xJ,o3,lY,kx,o4,uG,uH⟩:=at_ j hj;unfold kas_ask;rw[bX,bX,g2,lY];have ei:(kvs.map (·.1)).getD i []=k:=by rw[bX,g1];rfl
    have ej:(kvs.map (·.1)).getD j []=k':=by rw[bX,o3];rfl
    have el:lt i j=de k k':=by show de ((kvs.map (·.1)).getD i []) ((kvs.map (·.1)).getD j [])=_;rw[ei,ej]
    have ne:=o6 i j hi hj b9;rw[ei,ej]at ne;rw[el]at hC;obtain⟨ox,hx,_,nx,dx⟩:=tk g3 g4;obtain⟨oy,hy,_,ny,dy⟩:=tk kx o4;exact kat_lt hx dx hy dy (zB 0 g5 uG (g6.trans uH.symm) ne hC)
   ·refine DW F' N' (UpdF.head fun p hp=>?_) fun nu c o5 jM=>?_
    ·exact hD p.1 p.2 (nQ hp).2.2
    ·refine⟨_,rfl,ai ⟨_,rfl,?_⟩⟩
     exact fin nu _ c pa (fun b o n e=>(jM (b,o) (a9 _ (mw n (hX b) e))).1) o5.ns hD hp.1 (AO hp.1.size hp.2) (jM _ aZ).1
end L2
namespace HS
open PySem PySem.Spec PyProof.Rows PySem.W
end HS
namespace L2
open PySem PySem.Spec PyProof.Rows PySem.W HS
end L2
namespace L2
open PySem PySem.W PySem.Spec PyProof.Rows
end L2
namespace L2
open PySem PySem.Spec PyProof.Rows PySem.W
mutual
inductive Dt (p:Addr) (H:Hp):V->PyData->Prop where
 |aD:Dt p H .aD .none
 |bl (b:Bool):Dt p H (.bl b) (.bool b)
 |int (i:Int):Dt p H (.int i) (.int i)
 |str (x:Str):Dt p H (.str x) (.str x)
 |lst {a:Addr}{xs:List V}{ds:List PyData}:a≠p->H a=some (.lst xs)->aK p H xs ds->Dt p H (.ref a) (.list ds)
 |tup {a:Addr}{xs:List V}{ds:List PyData}:a≠p->H a=some (.tup xs)->aK p H xs ds->Dt p H (.ref a) (.tuple ds)
 |gH {a:Addr}:a≠p->H a=some (.dK [])->Dt p H (.ref a) (.dict [])
inductive aK (p:Addr) (H:Hp):List V->List PyData->Prop where
 |nil:aK p H [] []
 |cons {x:V}{d:PyData}{xs:List V}{ds:List PyData}:Dt p H x d->aK p H xs ds->aK p H (x::xs) (d::ds)
end
section
mutual
theorem Dt.keep (k:∀b o,H b=some o->b≠p->H' b=some o):∀ {v:V}{d:PyData},Dt p H v d->Dt p H' v d
 |_,_,.aD=>.aD
 |_,_,.bl b=>.bl b
 |_,_,.int i=>.int i
 |_,_,.str x=>.str x
 |_,_,.lst n e rs=>.lst n (k _ _ e n) (aK.keep k rs)
 |_,_,.tup n e rs=>.tup n (k _ _ e n) (aK.keep k rs)
 |_,_,.gH n e=>.gH n (k _ _ e n)
theorem aK.keep (k:∀b o,H b=some o->b≠p->H' b=some o):∀ {vs:List V}{ds:List PyData},aK p H vs ds->aK p H' vs ds
 |_,_,.nil=>.nil
 |_,_,.cons r rs=>.cons (Dt.keep k r) (aK.keep k rs)
end
theorem aK.length:∀ {vs:List V}{ds:List PyData},aK p H vs ds->vs.length=ds.length
 |_,_,.nil=>rfl
 |_,_,.cons _ rs=>by rw[b5,b5,aK.length rs]
theorem aK.get:∀ {vs:List V}{ds:List PyData},aK p H vs ds -> ∀ {i:Nat}{d:PyData},ds[i]? = some d -> ∃v,vs[i]? = some v/\Dt p H v d
 |_,_,.nil,i,v,h=>by cases h
 |_,_,.cons r rs,0,v,h=>by cases h;exact⟨_,rfl,r⟩
 |_,_,.cons r rs,i+1,v,h=>aK.get rs (by simpa using h)
theorem aK.app:∀ {vs ws:List V}{ds es:List PyData},aK p H vs ds->aK p H ws es->aK p H (vs++ws) (ds++es)
 |_,_,_,_,.nil,r=>r
 |_,_,_,_,.cons a as,r=>.cons a (aK.app as r)
theorem aK.take:∀ {vs:List V}{ds:List PyData} (n:Nat),aK p H vs ds->aK p H (vs.take n) (ds.take n)
 |_,_,0,_=>.nil
 |_,_,_+1,.nil=>.nil
 |_,_,n+1,.cons a as=>.cons a (aK.take n as)
theorem aK.drop:∀ {vs:List V}{ds:List PyData} (n:Nat),aK p H vs ds->aK p H (vs.drop n) (ds.drop n)
 |_,_,0,r=>r
 |_,_,_+1,.nil=>.nil
 |_,_,n+1,.cons _ as=>aK.drop n as
end
def iZ:PyData->String
 |.none => "NoneType"
 |.bool _ => "bool"
 |.int _ => "int"
 |.str _ => "str"
 |.list _ => "list"
 |.tuple _ => "tuple"
 |.dict _ => "dict"
def bp (T:String) (d:PyData):Bool:=iZ d==T || (iZ d == "bool" && T == "int")
theorem Dt.ty {d:PyData} (r:Dt p H v d):iq K H v (.type (iZ d)):=by
 cases r with
 |aD=>exact .aD
 |bl b=>exact .bl b
 |int i=>exact .int i
 |str x=>exact .str x
 |lst n e _=>exact .lst e
 |tup n e _=>exact .tup e
 |gH n e=>exact .dK e
theorem Aj (K:Frag) (d:PyData):kitOne K (.type (iZ d)) (.type "int")=some (bp "int" d):=by cases d <;> rfl
theorem vS (K:Frag) (d:PyData):kitOne K (.type (iZ d)) (.type "bool")=some (bp "bool" d):=by cases d <;> rfl
theorem we (K:Frag) (d:PyData):kitOne K (.type (iZ d)) (.type "str")=some (bp "str" d):=by cases d <;> rfl
theorem FW (K:Frag) (d:PyData):kitOne K (.type (iZ d)) (.type "list")=some (bp "list" d):=by cases d <;> rfl
theorem kit_tuple (K:Frag) (d:PyData):kitOne K (.type (iZ d)) (.type "tuple")=some (bp "tuple" d):=by cases d <;> rfl
theorem dU {d:PyData} (kt:∀ (K:Frag) (d:PyData),kitOne K (.type (iZ d)) (.type T)=some (bp T d)) (r:Dt p H v d) (q:Q (.bl (bp T d)) H) :
  (∃x,(∃C,[v,V.ty T] = [x,.ref C])\/(∃T',[v,V.ty T] = [x,.ty T']))/\Jq K [v,.ty T] H Q:=⟨⟨v,.inr ⟨T,rfl⟩⟩,v,.ty T,.type (iZ d),.type T,_,rfl,rfl,.inl r.ty,kt K d,q⟩
theorem E9:dq X (.builtin "isinstance") (fun xs H Q=>∃p v d t S T,xs = [v,.ref t]/\Dt p H v d/\H t=some (.tup [.ty S,.ty T])/\(∀K,kitOne K (.type (iZ d)) (.type S)=some (bp S d))/\(∀K,kitOne K (.type (iZ d)) (.type T)=some (bp T d))/\Q (.bl (bp S d || bp T d)) H):=by
 intro pins s σ H xs us Q I r h;obtain⟨p,v,d,t,S,T,rfl,rd,ht,kS,kT,q⟩:=h;obtain⟨u,w',rfl,ru,gj⟩:=r.two;cases gj
 obtain⟨_,its,rv,⟨oc,od,oda,km⟩,h1,h2,n,h3,_⟩:=(show ba X.prog X.w H s.heap t (.tup [.ty S,.ty T]) from I.aq t _ ht);obtain⟨a,b,rfl,ra,rb⟩:=rv.two;cases ra;cases rb
 cases h2;cases h3
 have e:kitAny X.K (.type (iZ d)) [.type S,.type T]=some (bp S d || bp T d):=by
  unfold kitAny;rw[kS];cases bp S d with
  |true=>rfl
  |false=>unfold kitAny;rw[kT];cases bp T d <;> rfl
 have fin:∀tk,EP X pins σ Q (.bool (bp S d || bp T d)) { s with toks:=tk }:=fun tk=>⟨.bl _,H,I.tok _,rfl,q⟩;have tp:s.heap.get? t=some ⟨.type "tuple",od,.seq [Value.type S,Value.type T].toArray n,km⟩:=h1;cases rd with
 |aD=>cases ru;exact sA kitx_none I.dC True.intro tp e (fun z=>nomatch z) fin
 |bl b=>cases ru;exact sA kitx_bool I.dC True.intro tp e (fun z=>nomatch z) fin
 |int i=>obtain⟨k,rfl⟩:=ru;exact sA kitx_int I.dC True.intro tp e (fun z=>nomatch z) fin
 |str x=>obtain⟨k,rfl⟩:=ru;exact sA kitx_str I.dC True.intro tp e (fun z=>nomatch z) fin
 |@lst a xs ds n ea _ =>
  cases ru
  obtain⟨_,_,n,_,g1⟩:=(show ba X.prog X.w H s.heap a (.lst xs) from I.aq a _ ea);exact sA kitx_list I.dC ⟨_,g1,rfl⟩ tp e (fun z=>nomatch z) fin
 |@tup a xs ds n ea _ =>
  cases ru
  obtain⟨_,_,_,o,g1,g2,_⟩:=(show ba X.prog X.w H s.heap a (.tup xs) from I.aq a _ ea);exact sA kitx_tuple I.dC ⟨o,g1,g2⟩ tp e (fun z=>nomatch z) fin
 |@gH a n ea =>
  cases ru
  obtain⟨_,_,vs,_,o,es,ep,g1,g2,_⟩:=(show ba X.prog X.w H s.heap a (.dK []) from I.aq a _ ea);exact sA kitx_dict I.dC ⟨o,g1,g2.1⟩ tp e (fun z=>nomatch z) fin
end L2
namespace HT
open PySem PyProof.Rows
section
open PySem.SeqAt
open PySem.AutoSeq1 (wpAny_loadPart')
open PySem.MeetsSeq PySem.MeetsSeq2 PySem.MeetsSeq3
theorem Ea (l:Addr) (es:Array DictEntry) (ep:Nat) (dd:Option Addr) (sl:Array (Option Value)) (b:Str) (u:Tok) :
  Meets (Builtin.«dict.__eq__» ⟨[.ref l,.str b u],[]⟩) (fun _ R s=>s.heap.get? l=some { cls:= .type "dict",dict:=dd,data:= .dict es ep,slots:=sl }/\R (.ok (.ret .notImplemented)) s):=
 .of_wp fun prog w A R s h=>by obtain⟨hp,g,d,tk,os⟩:=s;obtain⟨hl,h⟩:=h;have f1:=F.sub_str_dict;wp_walk using wpAny_loadPart' hl,sr hl;exact⟨_,rfl,h⟩
theorem Eb (b:Str) (u:Tok) (l:Addr) (es:Array DictEntry) (ep:Nat) (dd:Option Addr) (sl:Array (Option Value)) :
  Meets (Builtin.«str.__eq__» ⟨[.str b u,.ref l],[]⟩) (fun _ R s=>s.heap.get? l=some { cls:= .type "dict",dict:=dd,data:= .dict es ep,slots:=sl }/\R (.ok (.ret .notImplemented)) s):=
 .of_wp fun prog w A R s h=>by obtain⟨hp,g,d,tk,os⟩:=s;obtain⟨hl,h⟩:=h;wp_walk using wpAny_loadPart' hl,sr hl;exact⟨_,rfl,h⟩
theorem N4 {es:Array DictEntry} (b:Str) (u:Tok) (ho:s.heap.get? l=some o) (hc:o.cls = .type "dict") (hd:o.data = .dict es ep) (hu:A.units < cLine):RcAt A s (.ref l) (.str b u) false:=fun prog w E Q h=>by
 obtain⟨cls,dd,data,sl⟩:=o;simp only at hc hd;subst hc hd;exact rc_eq_decline_or (k:=false) ⟨_,ho,rfl⟩ (su s b u) (by decide) F.sub_str_dict F.slot_dict_eq F.slot_str_eq_refl
  (fun _ hq=>nL F.slot_dict_eq ⟨_,ho,rfl⟩ F.entry_dict_eq (F.args_dict_eq_2 _ _) (Ea l es ep dd sl b u) ⟨ho,hq⟩)
  (fun _ hq=>nL F.slot_str_eq_refl (su s b u) F.entry_str_eq (F.args_str_eq_2 _ _) (Eb b u l es ep dd sl) ⟨ho,hq⟩)
  (fun _ hq=>yU (rfl:isSame (.ref l) (.str b u)=pure false) hq) (.inr hu) h
theorem N5 {es:Array DictEntry} (b:Str) (u:Tok) (ho:s.heap.get? l=some o) (hc:o.cls = .type "dict") (hd:o.data = .dict es ep) (hu:A.units < cLine):RcAt A s (.str b u) (.ref l) false:=fun prog w E Q h=>by
 obtain⟨cls,dd,data,sl⟩:=o;simp only at hc hd;subst hc hd;exact rc_eq_decline_or (k:=false) (su s b u) ⟨_,ho,rfl⟩ (by decide) F.sub_dict_str F.slot_str_eq F.slot_dict_eq_refl
  (fun _ hq=>nL F.slot_str_eq (su s b u) F.entry_str_eq (F.args_str_eq_2 _ _) (Eb b u l es ep dd sl) ⟨ho,hq⟩)
  (fun _ hq=>nL F.slot_dict_eq_refl ⟨_,ho,rfl⟩ F.entry_dict_eq (F.args_dict_eq_2 _ _) (Ea l es ep dd sl b u) ⟨ho,hq⟩)
  (fun _ hq=>yU (rfl:isSame (.str b u) (.ref l)=pure false) hq) (.inr hu) h
theorem NI {es:Array DictEntry} (b:Str) (u:Tok) (ho:s.heap.get? l=some o) (hc:o.cls = .type "dict") (hd:o.data = .dict es ep) (hu:A.units < cLine):EqAt A s (.str b u) (.ref l) false:=fun prog w E Q h=>by
 unfold eqBool;refine fb ?_;refine DS (fun rK=>absurd (eq_of_beq rK) nofun) (fun _=>?_);exact ab (N5 b u ho hc hd hu prog w E _ (jR h))
end
end HT
namespace L2
open PySem PySem.Spec PyProof.Rows PySem.W HT
def cC (c:Str) (d:PyData):Bool:=match d with|.str x=>x==c|_=>false
section
variable{d:PyData}
theorem Dt.WL (I:Inv X pins σ H s) (r:Dt p H v d) (ru:RelV v u) (c:Str) (t:Tok) (hu:A.units < cLine):SeqAt.RcAt A s u (.str c t) (cC c d):=by
 cases r with
 |aD=>cases ru;exact SeqAt.RcAt.none_str c t
 |bl b=>cases ru;exact SeqAt.RcAt.bool_str b c t
 |int i=>obtain⟨k,rfl⟩:=ru;exact SeqAt.RcAt.int_str i k c t
 |str x=>obtain⟨k,rfl⟩:=ru;exact SeqAt.RcAt.str_str x k c t
 |@lst a xs ds n ea _ =>
  cases ru
  obtain⟨its,_,pl,_⟩:=I.list (ag.of ea);exact SeqAt.RcAt.list_str c t pl.isList hu
 |@tup a xs ds n ea _ =>
  cases ru
  obtain⟨its,_,pl,_⟩:=I.tuple (ao.of ea);exact SeqAt.RcAt.tuple_str c t pl hu
 |@gH a n ea =>
  cases ru
  obtain⟨_,_,vs,_,o,es,ep,g1,g2,g3,_⟩:=(show ba X.prog X.w H s.heap a (.dK []) from I.aq a _ ea);exact N4 c t g1 g2.1 g3 hu
theorem Dt.WM (I:Inv X pins σ H s) (r:Dt p H v d) (ru:RelV v u) (c:Str) (t:Tok) (hu:A.units < cLine):SeqAt.EqAt A s (.str c t) u (cC c d):=by
 cases r with
 |aD=>cases ru;exact SeqAt.EqAt.str_none c t
 |bl b=>cases ru;exact SeqAt.EqAt.str_bool c t b
 |int i=>obtain⟨k,rfl⟩:=ru;exact Mp c t i k
 |str x=>obtain⟨k,rfl⟩:=ru;rw[show cC c (.str x)=(c==x) from M0];exact SeqAt.EqAt.str_str c t x k
 |@lst a xs ds n ea _ =>
  cases ru
  obtain⟨its,_,pl,_⟩:=I.list (ag.of ea);exact SeqAt.EqAt.str_list c t pl.isList hu
 |@tup a xs ds n ea _ =>
  cases ru
  obtain⟨its,_,pl,_⟩:=I.tuple (ao.of ea);exact SeqAt.EqAt.str_tuple c t pl hu
 |@gH a n ea =>
  cases ru
  obtain⟨_,_,vs,_,o,es,ep,g1,g2,g3,_⟩:=(show ba X.prog X.w H s.heap a (.dK []) from I.aq a _ ea);exact NI c t g1 g2.1 g3 hu
end
def Va:R2:=fun x y H Q=>∃p d c,Dt p H x d/\y = .str c/\Q (.bl (cC c d)) H
theorem qm (hu:X.A.units+64 < cLine):b8 X (compareOp .Eq) Va:=by
 intro pins s σ H x y v u Q I rx ry h;obtain⟨p,d,c,r,rfl,q⟩:=h;obtain⟨t,rfl⟩:=ry;exact r.WL I rx c t (by omega) X.prog X.w X.xe _ ⟨.bl _,H,I,rfl,q⟩
def QL:R2:=fun x y H Q=>∃ (p:Addr) (d:PyData) (l:Addr) (cs:List Str),Dt p H x d/\y = .ref l/\H l=some (.lst (cs.map V.str))/\Q (.bl (!(cs.any fun c=>cC c d))) H
theorem Fb:∀ {cs:List Str}{us:List Value},Vals (cs.map V.str) us -> ∀w∈us,∃c t,c∈cs/\w=Value.str c t
 |[],_,r,w,h=>by cases r;cases h
 |c::cs,_,r,w,h=>by
  cases r with
  |cons a b =>
   rcases bx.mp h with rfl|h
   ·obtain⟨t,rfl⟩:=a;exact⟨c,t,aZ,rfl⟩
   ·obtain⟨c',t,m,e⟩:=Fb b w h;exact⟨c',t,a9 _ m,e⟩
def wx:Value->Option Str|.str c _=>some c|_=>none
theorem FX (g:Str->Bool):∀ {cs:List Str}{us:List Value},Vals (cs.map V.str) us->(us.any fun w=>match wx w with|some c=>g c|none=>false)=cs.any g
 |[],_,r=>by cases r;rfl
 |c::cs,_,r=>by
  cases r with
  |cons a b=>obtain⟨t,rfl⟩:=a;rw[nK,nK,FX g b];rfl
theorem Fc (hu:X.A.units+64 < cLine):b8 X (compareOp .NotIn) QL:=by
 intro pins s σ H x y v u Q I rx ry h;obtain⟨p,d,l,cs,r,rfl,hl,q⟩:=h;cases ry
 obtain⟨its,rv,pl,_⟩:=I.list (ag.of hl);refine SeqAt.notIn_listAt (fun w=>match wx w with|some c=>cC c d|none=>false) pl.isList (fun w hw=>?_) ⟨.bl _,H,I,rfl,?_⟩
 ·obtain⟨c,t,_,rfl⟩:=Fb rv w (by simpa using hw)
  exact r.WM I rx c t (show X.A.units+1 < cLine by omega)
 ·rw[show its.toArray.any (fun w=>match wx w with|some c=>cC c d|none=>false)=its.any (fun w=>match wx w with|some c=>cC c d|none=>false) by simp,FX (fun c=>cC c d) rv]
  exact q
def TH:R2:=fun x y H Q=>∃a b xs,x = .ref a/\y = .ref b/\H a=some (.tup xs)/\H b=some (.tup [])/\Q (.bl xs.isEmpty) H
theorem Ak (hu:X.A.units+64 < cLine):b8 X (compareOp .Eq) TH:=by
 intro pins s σ H x y v u Q I rx ry h;obtain⟨a,b,xs,rfl,rfl,ha,hb,q⟩:=h;cases rx;cases ry
 obtain⟨its,rv,pl,_⟩:=I.tuple (ao.of ha);obtain⟨jA,Cy,xK,_⟩:=I.tuple (ao.of hb);cases Cy
 refine SeqAt.eq_tupleAt (e:=fun _=>true) pl xK (by omega) (fun j h1 h2=>absurd h2 (by simp)) ⟨.bl _,H,I,rfl,?_⟩
 have e:its.length=xs.length:=rv.length.symm;rw[show((List.range (min its.toArray.size ([]:List Value).toArray.size)).all (fun _=>true) && its.toArray.size==([]:List Value).toArray.size)=xs.isEmpty from by
  cases xs with
  |nil=>simp only[yP,M1]at e;subst e;rfl
  |cons x xs =>
   cases its with
   |nil=>cases e
   |cons i its=>simp]
 exact q
def TJ:R2:=fun x y H Q=>∃a b xs,x = .ref a/\y = .ref b/\H a=some (.lst xs)/\H b=some (.lst [])/\Q (.bl (!xs.isEmpty)) H
theorem G4 (hu:X.A.units+64 < cLine):b8 X (compareOp .NotEq) TJ:=by
 intro pins s σ H x y v u Q I rx ry h;obtain⟨a,b,xs,rfl,rfl,ha,hb,q⟩:=h;cases rx;cases ry
 obtain⟨its,rv,pl,_⟩:=I.list (ag.of ha);obtain⟨jA,Cy,xK,_⟩:=I.list (ag.of hb);cases Cy
 have e:xs.length=its.length:=rv.length;cases xs with
 |nil =>
  have e0:its = []:=M1.mp e.symm;subst e0;exact SeqAt.RcNeAt.lists (e:=fun _=>true) pl.isList xK.isList rfl (by omega) (fun j h1 h2=>absurd h2 (by simp)) X.prog X.w X.xe _ ⟨.bl _,H,I,rfl,q⟩
 |cons x xs =>
  refine SeqAt.RcNeAt.lists_lengths pl.isList xK.isList ?_ (by omega) X.prog X.w X.xe _ ⟨.bl _,H,I,rfl,q⟩
  cases its with
  |nil=>cases e
  |cons i its=>simp
def QM:V->List V->Hp->VK->Prop:=fun x vs H Q=>∃l xs k y,x = .ref l/\vs = [.int (k:Nat),y]/\H l=some (.lst xs)/\k<=xs.length/\xs.length < 100000/\Q .aD (upd H l (.lst (xs.take k++y::xs.drop k)))
theorem Vals.take':∀ {vs:List V}{us:List Value} (n:Nat),Vals vs us->Vals (vs.take n) (us.take n)
 |_,_,0,_=>.nil
 |_,_,_+1,.nil=>.nil
 |_,_,n+1,.cons a b=>.cons a (Vals.take' n b)
theorem Vals.drop':∀ {vs:List V}{us:List Value} (n:Nat),Vals vs us->Vals (vs.drop n) (us.drop n)
 |_,_,0,r=>r
 |_,_,_+1,.nil=>.nil
 |_,_,n+1,.cons _ b=>Vals.drop' n b
theorem zC:xA X "list.insert" QM:=by
 intro pins s σ H x vs v us Q I rx rv h;obtain⟨l,xs,k,y,rfl,ev,hH,hk,h1,q⟩:=h;cases rx
 obtain⟨x,hx⟩:∃x:Int,x=(k:Int):=⟨_,rfl⟩;rw[<-hx]at ev;subst ev;obtain⟨u1,u2,rfl,WN,uI⟩:=rv.two;obtain⟨t,rfl⟩:=WN;obtain⟨z,its,n,r,hl,e⟩:=I.oC hH;have hz:its.toArray.size<=sizeLine:=by rw[bY];omega
 have fx:Builtin.List.listFitsIndex x=true:=fitsIndex_both (by omega) (by omega)
 refine nL F.slot_list_insert ⟨_,e,rfl⟩ F.entry_list_insert (F.args_list_insert_3 _ _ _) (PySem.AutoSeq1.list_insert_list_int_val_1 l its.toArray n x t u2 (by simp[fx]) hz) ⟨e,?_⟩
 have hV:k<=its.length:=by omega
 refine⟨.aD,_,I.w4 (its':=its.take k++u2::its.drop k) hH e ?_ ((r.take' k).append (.cons uI (r.drop' k))) ?_,rfl,q⟩
 ·have em:min x.toNat its.toArray.size=k:=by rw[hx];simp;omega
  show(let j:=if x < 0 then _ else min x.toNat its.toArray.size;(its.toArray.extract 0 j).push u2++its.toArray.extract j)=_;rw[aj (by omega),em]
  apply Array.ext'
  simp;exact sC (by rw[mf];omega)
 ·rw[eO,b5,c4,mf,aA];omega
section
mutual
theorem Dt.reads (I:Inv X pins σ H s):∀ {v:V}{d:PyData}{u:Value},Dt p H v d->RelV v u -> ∃as,Reads s.heap u d as
 |_,_,_,.aD,r=>by cases r;exact⟨_,.none⟩
 |_,_,_,.bl b,r=>by cases r;exact⟨_,.bool b⟩
 |_,_,_,.int i,r=>by obtain⟨t,rfl⟩:=r;exact⟨_,.int i t⟩
 |_,_,_,.str x,r=>by obtain⟨t,rfl⟩:=r;exact⟨_,.str x t⟩
 |_,_,_,.lst (a:=a) (xs:=xs) _ e rs,r=>by
  cases r
  obtain⟨_,its,n,rv,at_⟩:=(show ba X.prog X.w H s.heap a (.lst xs) from I.aq a _ e);obtain⟨as,ra⟩:=aK.reads I rs rv;exact⟨_,.list at_ rfl rfl ra⟩
 |_,_,_,.tup (a:=a) (xs:=xs) _ e rs,r=>by
  cases r
  obtain⟨_,its,rv,ob,at_,hc,n,hd,_⟩:=(show ba X.prog X.w H s.heap a (.tup xs) from I.aq a _ e);obtain⟨as,ra⟩:=aK.reads I rs rv;exact⟨_,.tuple at_ hc hd ra⟩
 |_,_,_,.gH (a:=a) _ e,r=>by
  cases r
  obtain⟨_,_,vs,kv,o,es,ep,g1,g2,g3,_,g4,_⟩:=(show ba X.prog X.w H s.heap a (.dK []) from I.aq a _ e);cases kv
  have e0:es.toList = []:=by cases h:es.toList with
   |nil=>rfl
   |cons a b=>rw[h]at g4;cases g4
  exact⟨_,.dict (kvs:= []) g1 g2.1 g3 (by rw[e0];exact .nil) (by rw[e0];exact .nil)⟩
theorem aK.reads (I:Inv X pins σ H s):∀ {vs:List V}{ds:List PyData}{us:List Value},aK p H vs ds->Vals vs us -> ∃as,ReadsAll s.heap us ds as
 |_,_,_,.nil,r=>by cases r;exact⟨_,.nil⟩
 |_,_,_,.cons r rs,rv=>by
  cases rv with
  |cons q qs =>
   obtain⟨as,h1⟩:=Dt.reads I r q;obtain⟨bs,h2⟩:=aK.reads I rs qs;exact⟨_,.cons h1 h2⟩
end
mutual
theorem Dt.oi (I:Inv X pins σ H s):∀ {v:V}{d:PyData}{u:Value},Dt p H v d->RelV v u->d.showable=true->d.shown.length<=sizeLine -> ∃bs,ReadAtMost s.heap d.depth bs/\ReprK X.prog X.w bs s.heap d.depth u d.shown
 |_,_,_,.aD,r,_,_=>by cases r;exact⟨[],(fun _ h=>nomatch h),by simp only[PyData.shown];exact .of_is ReprIs.none _ _ _⟩
 |_,_,_,.bl b,r,_,_=>by cases r;exact⟨[],(fun _ h=>nomatch h),by simp only[PyData.shown];exact .of_is (ReprIs.bool b) _ _ _⟩
 |_,_,_,.int i,r,hs,_=>by obtain⟨t,rfl⟩:=r;exact⟨[],(fun _ h=>nomatch h),by simp only[PyData.shown];exact .of_is (ReprIs.int t (by simpa [PyData.showable] using hs)) _ _ _⟩
 |_,_,_,.str x,r,_,hz=>by obtain⟨t,rfl⟩:=r;exact⟨[],(fun _ h=>nomatch h),by simp only[PyData.shown];exact .of_is (ReprIs.str x t (by simpa only [PyData.shown] using hz)) _ _ _⟩
 |_,_,_,.lst (a:=a) (xs:=xs) (ds:=ds) n e rs,r,hs,hz=>by
  cases r
  obtain⟨_,its,n',rv,h1⟩:=(show ba X.prog X.w H s.heap a (.lst xs) from I.aq a _ e);have ky:(listText (PyData.shownAll ds)).length<=sizeLine:=by simpa only [PyData.shown] using hz
  obtain⟨bs,hb,hk⟩:=aK.oi I rs rv (by simpa [PyData.showable] using hs) (fun t ht=>cL (listText_mem_le ht) ky)
  obtain⟨as,ra⟩:=aK.reads I rs rv;have r:Reads s.heap (.ref a) (.list ds) _:= .list h1 rfl rfl ra;have o9:a ∉ bs:=DY r (by simp only[PyData.depth];omega) hb
  refine⟨a::bs,M3 r (by simp only[PyData.depth];omega) hb,?_⟩
  simp only[PyData.depth,PyData.shown];cases its with
  |nil =>
   cases ra
   simp only[PyData.shownAll,listText_nil];exact ReprK.listEmpty h1 rfl rfl
  |cons x l=>exact ReprK.list h1 rfl rfl o9 (by simpa using hk.length_eq) (fun i y e=>hk.item i y (by simpa using e))
 |_,_,_,.tup (a:=a) (xs:=xs) (ds:=ds) n e rs,r,hs,hz=>by
  cases r
  obtain⟨_,its,rv,ob,h1,h2,n',h3,_⟩:=(show ba X.prog X.w H s.heap a (.tup xs) from I.aq a _ e);have ky:(tupleText (PyData.shownAll ds)).length<=sizeLine:=by simpa only [PyData.shown] using hz
  obtain⟨bs,hb,hk⟩:=aK.oi I rs rv (by simpa [PyData.showable] using hs) (fun t ht=>cL (tupleText_mem_le ht) ky)
  obtain⟨as,ra⟩:=aK.reads I rs rv;have r:Reads s.heap (.ref a) (.tuple ds) _:= .tuple h1 h2 h3 ra;have o9:a ∉ bs:=DY r (by simp only[PyData.depth];omega) hb
  refine⟨a::bs,M3 r (by simp only[PyData.depth];omega) hb,?_⟩
  simp only[PyData.depth,PyData.shown];exact ReprK.tuple h1 h2 h3 o9 hk
 |_,_,_,.gH (a:=a) n e,r,hs,hz=>by
  cases r
  obtain⟨as,rd⟩:=Dt.reads I (.gH n e) (rfl:RelV (.ref a) (.ref a));obtain⟨_,ns,vs,kv,o,es,ep,g1,g2,g3,_,g4,_⟩:=(show ba X.prog X.w H s.heap a (.dK []) from I.aq a _ e);cases kv
  have e0:es.toList = []:=by cases h:es.toList with
   |nil=>rfl
   |cons a b=>rw[h]at g4;cases g4
  refine⟨a :: [],M3 rd (aN _) (fun _ h=>nomatch h),?_⟩;exact ReprK.dict (as:= []) (d:=0) (ps:= []) g1 g2.1 g3 ns (by simp) (by rw[e0];exact .nil)
theorem aK.oi (I:Inv X pins σ H s):∀ {vs:List V}{ds:List PyData}{us:List Value},aK p H vs ds->Vals vs us->PyData.showableAll ds=true->(∀t∈PyData.shownAll ds,t.length<=sizeLine) ->
  ∃bs,ReadAtMost s.heap (PyData.depthAll ds) bs/\ReprAllK X.prog X.w bs s.heap (PyData.depthAll ds) us (PyData.shownAll ds)
 |_,_,_,.nil,r,_,_=>by cases r;exact⟨[],(fun _ h=>nomatch h),by simp only[PyData.shownAll];exact .nil⟩
 |_,_,_,.cons (d:=d) (ds:=ds) r rs,rv,hs,hz=>by
  cases rv with
  |cons q qs =>
   have rF:d.showable=true/\PyData.showableAll ds=true:=by simpa [PyData.showableAll] using hs
   obtain⟨b1,pj,k1⟩:=Dt.oi I r q rF.1 (hz _ (by simp only[PyData.shownAll];exact aZ ..))
   obtain⟨b2,iW,k2⟩:=aK.oi I rs qs rF.2 (fun t ht=>hz t (by simp only[PyData.shownAll];exact a9 _ ht))
   refine⟨b1++b2,?_,?_⟩
   ·simp only[PyData.depthAll]
    exact(pj.mono (M4 _ _)).append (iW.mono (M5 _ _))
   ·simp only[PyData.depthAll,PyData.shownAll]
    exact .cons ((k1.more fun b hb=>pL _ hb).level_le (M4 _ _)) (k2.more_le (fun b hb=>jt _ hb) (M5 _ _))
end
end
def RU:List V->Hp->VK->Prop:=fun xs H Q=>∃p v d,xs = [v]/\Dt p H v d/\d.showable=true/\d.depth<=50/\d.shown.length<=16000000/\Q (.str d.shown) H
theorem Eu (hu:X.A.units+64 < cLine) (hg:X.A.guards=some []):dq X (.builtin "repr") RU:=by
 intro pins s σ H xs us Q I r h;obtain⟨p,v,d,rfl,rd,hs,hd,hl,q⟩:=h;obtain⟨u,rfl,rx⟩:=vals1 r;have hz:d.shown.length<=sizeLine:=by rw[aA];omega
 have fin:∀h' k tk,(∀b o,s.heap.get? b=some o->h'.get? b=some o)->EP X pins σ Q (.str d.shown k) { s with heap:=h',toks:=tk }:=fun h' k tk kp=>⟨.str d.shown,H,I.kept kp,⟨_,rfl⟩,q⟩;have oD:∀h' k tk,(∀b o,s.heap.get? b=some o->h'.get? b=some o) -> ∃x t,Value.str d.shown k = .str x t/\EP X pins σ Q (.str d.shown k) { s with heap:=h',toks:=tk }:=fun h' k tk kp=>⟨_,_,rfl,fin h' k tk kp⟩;cases rd with
 |aD=>cases rx;exact P.repr_of_none ⟨.str (PyData.shown .none),H,I.tok _,⟨_,rfl⟩,q⟩
 |bl b=>cases rx;exact P.repr_of_bool ⟨.str (PyData.shown (.bool b)),H,I.tok _,⟨_,by cases b <;> rfl⟩,q⟩
 |int i=>obtain⟨t,rfl⟩:=rx;exact P.repr_of_int (by simpa [PyData.showable] using hs) ⟨.str (PyData.shown (.int i)),H,I.tok _,⟨_,rfl⟩,q⟩
 |str x=>obtain⟨t,rfl⟩:=rx;exact P.repr_of_str ⟨.str (PyData.shown (.str x)),H,I.tok _,⟨_,rfl⟩,q⟩ (by simpa only [PyData.shown] using hz)
 |@lst a xs ds n e rs =>
  cases rx
  obtain⟨_,its,n',rv,h1⟩:=(show ba X.prog X.w H s.heap a (.lst xs) from I.aq a _ e);have ky:(listText (PyData.shownAll ds)).length<=sizeLine:=by simpa only [PyData.shown] using hz
  obtain⟨bs,hb,hk⟩:=aK.oi I rs rv (by simpa [PyData.showable] using hs) (fun t ht=>cL (listText_mem_le ht) ky)
  obtain⟨as,ra⟩:=aK.reads I rs rv;have o9:a ∉ bs:=DY (.list h1 rfl rfl ra:Reads s.heap (.ref a) (.list ds) _) (by simp only[PyData.depth];omega) hb
  simp only[PyData.depth]at hd;simp only[PyData.shown]at oD;refine M6 (by omega) ⟨_,h1,rfl⟩ F.slot_list_repr.toG ?_
  cases its with
  |nil =>
   cases ra
   simp only[PyData.shownAll,listText_nil]at oD;exact call_list_repr_empty ⟨_,h1,rfl⟩ h1 rfl (oD s.heap _ _ fun _ _ e=>e)
  |cons x l =>
   exact call_list_reprK h1 rfl rfl o9 (by simpa using hk.length_eq) (fun i y e=>hk.item i y (by simpa using e)) hg (fun b _=>Clear.nil b) (by show X.A.units+1+_ < cLine;omega) (fun _ _ z=>z) oD ky
 |@tup a xs ds n e rs =>
  cases rx
  obtain⟨_,its,rv,ob,h1,h2,n',h3,_⟩:=(show ba X.prog X.w H s.heap a (.tup xs) from I.aq a _ e);have ky:(tupleText (PyData.shownAll ds)).length<=sizeLine:=by simpa only [PyData.shown] using hz
  obtain⟨bs,hb,hk⟩:=aK.oi I rs rv (by simpa [PyData.showable] using hs) (fun t ht=>cL (tupleText_mem_le ht) ky)
  obtain⟨as,ra⟩:=aK.reads I rs rv;have o9:a ∉ bs:=DY (.tuple h1 h2 h3 ra:Reads s.heap (.ref a) (.tuple ds) _) (by simp only[PyData.depth];omega) hb
  simp only[PyData.depth]at hd;simp only[PyData.shown]at oD;exact M6 (by omega) ⟨_,h1,h2⟩ F.slot_tuple_repr (call_tuple_reprK h1 h2 h3 o9 hk hg (fun b _=>Clear.nil b) (by show X.A.units+1+_ < cLine;omega) (fun _ _ z=>z) oD ky)
 |@gH a n e =>
  cases rx
  obtain⟨_,ns,vs,kv,o,es,ep,g1,g2,g3,_,g4,_⟩:=(show ba X.prog X.w H s.heap a (.dK []) from I.aq a _ e);cases kv
  have e0:es.toList = []:=by cases h:es.toList with
   |nil=>rfl
   |cons a b=>rw[h]at g4;cases g4
  exact M6 (by omega) ⟨_,g1,g2.1⟩ F.slot_dict_repr (call_dict_reprK (d:=0) (as:= []) (ps:= []) g1 g2.1 g3 ns (by simp) (by rw[e0];exact .nil) hg (fun b _=>Clear.nil b) (by show X.A.units+1+_ < cLine;omega) (fun _ _ z=>z) oD hz)
end L2
namespace L2
open PySem PySem.W
end L2
namespace L2
open PySem PySem.W PySem.Spec PyProof.Rows
def t6 (h:Heap) (d:Addr) (es:Array DictEntry) (ep:Nat):Prop:= ∃o,h.get? d=some o/\o.ExactDict/\o.data = .dict es ep
theorem t6.ty {es:Array DictEntry} (x:t6 s.heap d es ep):s.TypeIs (.ref d) "dict" :=let ⟨o,e,c,_⟩:=x;⟨o,e,c.1⟩
theorem PZ {es:Array DictEntry}{Q:Value->Shared->Prop} (hd:(d==sysModules)=false) (x:t6 s.heap d es ep)
  (q:Q (.ref s.heap.objs.size) { s with heap:=s.heap.push { cls:= .type "dict_keyiterator",data:= .fields #[.ref d,.int 0 0,.int es.size 0,.int ep 0] } }):wpAny (model P w) A (pyIter (.ref d)) Q E s:=by
 have hT:=x.ty;obtain⟨o,ho,hx,Jt⟩:=x;refine DR hT F.slot_dict_iter (jS F.slot_dict_iter hT F.entry_dict_iter ?_ (F.args_dict_iter_1 _));unfold Builtin.«dict.__iter__»;refine ab ?_;unfold Builtin.Dict.dictSlotNone;refine ab (wpAny_notOrdered_dict hT ?_);show wpAny _ _ (pure (Value.ref d)) _ _ s;refine ai ?_;show wpAny _ _ (Builtin.Dict.showsAll d >>= _) _ _ s;unfold Builtin.Dict.showsAll;rw[aj (by rw[hd];exact cz)]
 refine ab (ai (ab (M7 ho Jt (ab (M8 ho Jt ?_)))));exact ab (iD (ai ⟨_,rfl,"dict_keyiterator",_,⟨_,cw _ rfl,rfl⟩,yW.lookup,q⟩))
theorem P9 {es:Array DictEntry}{e:DictEntry}{Q:Option Value->Shared->Prop} (hit:s.heap.IsKeyIter it d i es.size ep) (x:t6 s.heap d es ep) (hx:es[i]? = some e)
  (q:∀h',h'.IsKeyIter it d (i+1) es.size ep->Heap.SameBut it s.heap h'->Q (some e.key) { s with heap:=h' }):wpAny (model P w) A (pyNext (.ref it)) Q E s:=by
 obtain⟨o,ho,hc,hd⟩:=id hit;obtain⟨od,lU,gu,uJ⟩:=id x;unfold pyNext;refine ab (yL (yF (name:=Str.ofString "__next__") hit.typeIs yW
  (jS yW hit.typeIs abB ?_ (abC _))))
 refine ab (ai (ab (ab ?_)))
 first|refine ab (DZ hit.typeIs (ai ?_))|refine ab (D0 hit.typeIs (ai ?_))
 refine ab (MV ho hd ?_);simp only[show Builtin.Dict_items.ownsTuple "dict_keyiterator" = false by decide,gO,fc]
 show wpAny _ _ (if (Value.ref d==Value.none)=true then _ else _) _ _ s;rw[aj (show ¬ ((Value.ref d==Value.none)=true) from cz)];refine ab (ai (ab (M7 lU uJ ?_)));rw[aj (by simp)]
 refine ab (ai (ab (M8 lU uJ ?_)));rw[aj (by simp)]
 refine ai ?_;simp only[show ¬ ((i:Int) < 0) from by omega,fc,me,hx]
 refine ab ?_
 first|refine ab (DZ hit.typeIs (ai ?_))|refine ab (D0 hit.typeIs (ai ?_))
 refine ab (wpAny_isOneOf_keyiter hit.typeIs ?_);show wpAny _ _ (setField (.ref it) 1 (rawInt ((i:Int)+1)) >>= _) _ _ s;refine ab (wpAny_setField ho hd (by simp) ?_)
 have Ju:(s.heap.update it (Obj.mapFields (·.setIfInBounds 1 (rawInt ((i:Int)+1))))).IsKeyIter it d (i+1) es.size ep:=
  ⟨_,yH _ ho (Obj.isFreed_of_fields (Obj.data_mapFields hd _)),(Obj.cls_mapFields ..).trans hc,by rw[Obj.data_mapFields hd];simp[rawInt]⟩
 refine ab (fb (ab (wpAny_isOneOf_keyiter (s:={ s with heap:=s.heap.update it (Obj.mapFields (·.setIfInBounds 1 (rawInt ((i:Int)+1)))) }) Ju.typeIs ?_)));show wpAny _ _ (pure e.key) _ _ _;exact ai (ai ⟨_,rfl,ai (q _ Ju (vm ..))⟩)
theorem P' {es:Array DictEntry}{Q:Option Value->Shared->Prop} (hh:A.handled=none) (hit:s.heap.IsKeyIter it d es.size es.size ep) (x:t6 s.heap d es ep)
  (q:∀h',Heap.ExtBut it s.heap h'->Q none { s with heap:=h' }):wpAny (model P w) A (pyNext (.ref it)) Q E s:=by
 obtain⟨o,ho,hc,hd⟩:=id hit;obtain⟨od,lU,gu,uJ⟩:=id x;unfold pyNext;refine ab (yL (yF (name:=Str.ofString "__next__") hit.typeIs yW
  (jS yW hit.typeIs abB ?_ (abC _))))
 refine ab (ai (ab (ab ?_)))
 first|refine ab (DZ hit.typeIs (ai ?_))|refine ab (D0 hit.typeIs (ai ?_))
 refine ab (MV ho hd ?_);simp only[show Builtin.Dict_items.ownsTuple "dict_keyiterator" = false by decide,gO,fc]
 show wpAny _ _ (if (Value.ref d==Value.none)=true then _ else _) _ _ s;rw[aj (show ¬ ((Value.ref d==Value.none)=true) from cz)];refine ab (ai (ab (M7 lU uJ ?_)));rw[aj (by simp)]
 refine ab (ai (ab (M8 lU uJ ?_)));rw[aj (by simp)]
 refine ai ?_;simp only[show ¬ ((es.size:Int) < 0) from by omega,fc,me,yX (ay es.size)]
 refine ab ?_
 first|refine ab (DZ hit.typeIs (ai ?_))|refine ab (D0 hit.typeIs (ai ?_))
 show wpAny _ _ (setField (.ref it) 0 .none >>= _) _ _ s;refine ab (wpAny_setField ho hd (by simp) ?_)
 show wpAny _ _ (newExc (.type "StopIteration") [] >>= _) _ _ _;refine ab ?_;simp only[newExc,newTuple];refine ab (iD ?_ (by size_fits))
 refine ab (m:=firstArgMember _ _) (yU (a:=Value.none) (by first|rfl|(simp only[firstArgMember];rfl)) ?_)
 refine iD ?_ (by size_fits)
 simp only[raiseNew];refine ab (wpAny_handled ?_);rw[show A.in1.handled=none from hh];refine ab (ai (wpAny_throw ?_));refine ab (MW (T:= "StopIteration") (b:=true) ⟨_,cw _ rfl,rfl⟩ isSubtype_stop ?_);exact ai (q _ (((vm ..).extBut.push _).push _))
def Cz (d:Addr) (o:Obj) (kvs:List (List Key×V)):It:=⟨fun i H=>H d=some (.bo o (.dT kvs))/\i < kvs.length,fun i H v H'=>H'=H /\ ∃kv b,kvs[i]? = some kv/\v = .ref b/\H b=some (.tup (kv.1.map kV)),fun i H=>H d=some (.bo o (.dT kvs))/\kvs.length<=i⟩
theorem Paired.get {α β:Type}{F:α->β->Prop}:∀ {l:List α}{m:List β},Paired F l m -> ∀ {i:Nat}{a:α},l[i]? = some a -> ∃b,m[i]? = some b/\F a b
 |_,_,.nil,i,a,h=>by cases h
 |_,_,.cons r t,0,a,h=>by cases h;exact⟨_,rfl,r⟩
 |_,_,.cons r t,i+1,a,h=>Paired.get t (by simpa using h)
theorem G5 {kvs:List (List Key×V)}{es:Array DictEntry} (I:Inv X pins σ H s) (hd:H d=some (.bo o (.dT kvs))) (gG:o.data = .dict es ep) :
  s.heap.get? d=some o/\o.ExactDict/\es.size=kvs.length /\ ∀ (i:Nat) (kv:List Key×V),kvs[i]? = some kv -> ∃ (b:Addr) (e:DictEntry),es[i]? = some e/\e.key = .ref b/\H b=some (.tup (kv.1.map kV)):=by
 obtain⟨h1,z,y,xs,r,o',es',oN,h2,h3,h4,h5,h6⟩:=(show ba X.prog X.w H s.heap d (.bo o (.dT kvs)) from I.aq d _ hd);rw[h1]at h2;cases h2
 rw[gG]at h4;cases h4
 refine⟨h1,h3,by rw[size_of_entries h5];exact(fk r).symm,fun i kv hk=>?_⟩
 obtain⟨x,hx,e1,e2,e3⟩:=Paired.get r hk;exact⟨x.2.1,_,by rw[entry_at h5,hx];rfl,rfl,e2⟩
theorem QN (d it:Addr) (dZ:d≠it) (o:Obj) (kvs:List (List Key×V)) (es:Array DictEntry) (ep:Nat) (gG:o.data = .dict es ep) :
  Turn P w K tg (Cz d o kvs) [it] it (fun i h=>i<=kvs.length/\h.IsKeyIter it d i es.size ep) where
 mem:=by simp
 obj:=fun i h st b hb=>by
  obtain rfl:b=it:=by simpa using hb
  obtain⟨_,o,e,c,d⟩:=st;exact⟨o,e,fun v z=>by rw[d]at z;cases z⟩
 keep:=fun i h h' st k=>by
  obtain⟨l,o,e,r⟩:=st;exact⟨l,o,k it (by simp) _ e,r⟩
 item:=by
  intro X hP hw hK hc i pins s σ H E I hf st hg;subst hP hw hK;obtain⟨f0,f1,f2,f3,f4,f5⟩:=hf it (by simp)
  obtain⟨g1,g2,g3,g4⟩:=G5 I hg.1 gG;have iX:i < kvs.length:=hg.2;have uE:kvs[i]? = some kvs[i]:=aQ iX;obtain⟨b,e,he,hk,hb⟩:=g4 i _ uE;refine P9 st.2 ⟨o,g1,g2,gG⟩ he fun h' fH sb=>?_;have I1:Inv X pins σ H { s with heap:=h' }:=I.turned (t':=s.toks) (fun b o hb e=>sb.extBut b o (by simpa using hb) e) f0 f1 f3 f4 f5
  obtain⟨ob,e0,cl,dt⟩:=id fH;exact⟨_,rfl,qz (s:={ s with heap:=h' }) e0 cl dt (by decide) ⟨.ref b,H,I1,hk,⟨rfl,kvs[i],b,uE,rfl,hb⟩,⟨hg.2,fH⟩,fun b hb=>(hf b hb).1⟩⟩
 done:=by
  intro X hP hw hK hc i pins s σ H E I hf st hg;subst hP hw hK;obtain⟨f0,f1,f2,f3,f4,f5⟩:=hf it (by simp)
  obtain⟨g1,g2,g3,g4⟩:=G5 I hg.1 gG;have ei:i=es.size:=by rw[g3];exact MM st.1 hg.2
  have jH:=st.2;rw[ei]at jH;exact P' (I.ok.hd hc) jH ⟨o,g1,g2,gG⟩ fun h' eb=>⟨rfl,I.turned (t':=s.toks) (fun b o hb e=>eb b o (by simpa using hb) e) f0 f1 f3 f4 f5⟩
 self:=fun A i s Q E st h=>wpAny_pyIter_keyiter st.2 h
theorem Inv.QO {σ:List (Option V)}{kvs:List (List Key×V)} (I:Inv X pins σ H s) (hd:H d=some (.dT kvs)) (ho:s.heap.get? d=some o):Inv X pins σ (upd H d (.bo o (.dT kvs))) s:=by
 have ok:ba X.prog X.w H s.heap d (.dT kvs):=I.aq d _ hd;have nd:∀ {b:Addr}{u:HO},H b=some u->u ≠ .dT kvs->b≠d:=fun e n z=>by rw[z,hd]at e;exact n (e7 e).symm
 refine I.un (h':=s.heap) (t':=s.toks) ⟨fun b ob q _ _ _=>q,fun b ob q _ _ _=>⟨ob.slots,q⟩,fun b ob q n _=>?_,fun b ob q _=>⟨ob,q⟩,fun b xs e=>?_,fun b ob u e=>?_,fun b ps e=>⟨#[],?_⟩⟩ fun b u e=>?_
 ·rw[ak (fun z=>by rw[z,hd]at n;cases n)];exact n
 ·rw[ak (nd e (by intro z;cases z))];exact e
 ·rw[ak (nd e (by intro z;cases z))];exact e
 ·rw[ak (nd e (by intro z;cases z)),e];simp
 ·by_cases hb:b=d
  ·subst hb
   rw[af]at e;cases e
   exact⟨ho,ok.gq (fun _ _ _ q=>q) (fun c q=>by rw[ak (nd q (by intro z;cases z))];exact q) fun c xs q=>by rw[ak (nd q (by intro z;cases z))];exact q⟩
  ·rw[ak hb]at e
   exact(I.aq b u e).gq (fun _ _ _ q=>q) (fun c q=>by rw[ak (nd q (by intro z;cases z))];exact q) fun c xs q=>by rw[ak (nd q (by intro z;cases z))];exact q
def RV (te:TE):TI:=fun σ H R=>te σ H fun v H1=>∃d kvs,v = .ref d/\H1 d=some (.dT kvs) /\ ∀o,R (Cz d o kvs) (upd H1 d (.bo o (.dT kvs)))
theorem Qa (he:PE X e te):PI X tg e (RV te):=by
 intro pins s σ H R I h;refine aH (he pins s σ H _ I h) fun v s1 ⟨y,H1,I1,r1,d,kvs,ey,e1,q⟩=>?_;subst ey;cases r1
 obtain⟨z,hs,xs,r,o,es,ep,ho,hx,gG,h4,h5⟩:=(show ba X.prog X.w H1 s1.heap d (.dT kvs) from I1.aq d _ e1);have hsz:es.size=kvs.length:=by rw[size_of_entries h4];exact(fk r).symm
 refine PZ hs ⟨o,ho,hx,gG⟩ ?_;have dZ:d≠s1.heap.objs.size:=bZ (bw ho);have I2:Inv X pins σ H1 { s1 with heap:=s1.heap.push { cls:= .type "dict_keyiterator",data:= .fields #[.ref d,.int 0 0,.int es.size 0,.int ep 0] } }:=I1.kept (t':=s1.toks) fun b ob z=>bc _ z;have st:0<=kvs.length/\Heap.IsKeyIter (s1.heap.push { cls:= .type "dict_keyiterator",data:= .fields #[.ref d,.int 0 0,.int es.size 0,.int ep 0] }) s1.heap.objs.size d 0 es.size ep:=⟨aN _,_,cw _ rfl,rfl,rfl⟩;have xI:H1 s1.heap.objs.size=none:=I1.aq.fresh (ay _);refine⟨s1.heap.objs.size,[s1.heap.objs.size],_,_,_,rfl,I2.QO e1 (bc _ ho),QN d s1.heap.objs.size dZ o kvs es ep gG,st,fun b hb=>?_,q o⟩;obtain rfl:b=s1.heap.objs.size:=by simpa using hb
 exact I1.m3 (ay _) (by rw[ak (bb dZ)];exact xI)
theorem Inv.TL {σ:List (Option V)}{kvs:List (List Key×V)} (I:Inv X pins σ H s) (hd:H d=some (.bo o (.dT kvs))) (h0:∀o u,X.oz d≠some (.bo o u)):Inv X pins σ (upd H d (.dT kvs)) s:=by
 obtain⟨_,ok⟩:=(show ba X.prog X.w H s.heap d (.bo o (.dT kvs)) from I.aq d _ hd);have nd:∀ {b:Addr}{u:HO},H b=some u->u ≠ .bo o (.dT kvs)->b≠d:=fun e n z=>by rw[z,hd]at e;exact n (e7 e).symm
 have nn:∀ {b:Addr},H b=none->upd H d (.dT kvs) b=none:=fun {b} e=>by rw[ak (fun z=>by rw[z,hd]at e;cases e)];exact e
 refine⟨I.ok,I.os,I.bare,⟨I.base.keep,I.base.slot,fun b ob e n hx=>nn (I.base.free b ob e n hx),I.base.there,fun b xs e=>?_,fun b ob u e=>?_,fun b ps e=>?_⟩,I.loc,I.cell,nn I.free,fun x c e=>nn (I.jd x c e),fun p hp=>?_,fun b u e=>?_,I.len⟩
 ·rw[ak (nd (I.base.kd b xs e) (by intro z;cases z))];exact I.base.kd b xs e
 ·have hb:b≠d:=fun z=>h0 ob u (z ▸ e)
  rw[ak hb];exact I.base.kf b ob u e
 ·obtain⟨more,e2⟩:=I.base.lI b ps e
  exact⟨more,by rw[ak (nd e2 (by intro z;cases z))];exact e2⟩
 ·obtain⟨a1,a2,a3⟩:=I.pin p hp
  exact⟨a1,nn a2,a3⟩
 ·by_cases hb:b=d
  ·subst hb
   rw[af]at e;cases e
   exact ok.gq (fun _ _ _ q=>q) (fun c q=>by rw[ak (nd q (by intro z;cases z))];exact q) fun c xs q=>by rw[ak (nd q (by intro z;cases z))];exact q
  ·rw[ak hb]at e
   exact(I.aq b u e).gq (fun _ _ _ q=>q) (fun c q=>by rw[ak (nd q (by intro z;cases z))];exact q) fun c xs q=>by rw[ak (nd q (by intro z;cases z))];exact q
def TM (H0:Hp) (t:TE):TE:=fun σ H Q=>t σ H fun v H'=>∃d o kvs,H' d=some (.bo o (.dT kvs))/\(∀o u,H0 d≠some (.bo o u))/\Q v (upd H' d (.dT kvs))
theorem QP (he:PE X e te):PE X e (TM X.oz te):=by
 intro pins s σ H Q I h;exact aH (he pins s σ H _ I h) fun v s1 ⟨y,H1,I1,r1,d,o,kvs,e1,h0,q⟩=>⟨y,_,I1.TL e1 h0,r1,q⟩
theorem Oy {kvs:List (List Key×V)}{g:TG} (Pv:Nat->List V->St->Hp->Prop) (h0:Pv 0 [] ix (upd H1 p (.lst []))) (hl:∀i ys τ H,Pv i ys τ H->H p=some (.lst ys)/\H d=some (.bo o (.dT kvs)))
  (hs:∀i kv b ys τ H,kvs[i]? = some kv->H b=some (.tup (kv.1.map kV))->Pv i ys τ H->g (.ref b) τ H fun cB H4=>ti cB H4 fun c H5=>if c=true then te cB H5 fun y H6=>H6 p=some (.lst ys)/\ys.length < sizeLine /\ ∃m',m' < kvs.length - i/\CW Pv kvs.length (i+1) m' (ys ++ [y]) cB (upd H6 p (.lst (ys ++ [y]))) else ∃m',m' < kvs.length - i/\CW Pv kvs.length (i+1) m' ys cB H5)
  (hd:∀ys τ H,Pv kvs.length ys τ H->Q (.ref p) H):kb (Cz d o kvs) g ti te ix Q p H1:=by
 refine⟨CW Pv kvs.length,⟨kvs.length,by simp,aN _,h0⟩,?_⟩
 rintro i m ys τ H ⟨rfl,hi,pv⟩;obtain⟨hp,hq⟩:=hl i ys τ H pv;refine⟨hp,?_⟩
 by_cases bV:i < kvs.length
 ·refine .inr ⟨⟨hq,bV⟩,fun x H3 y3=>?_⟩
  obtain⟨e3,kv,b,gF,ex,hb⟩:=y3;subst e3;subst ex;exact hs i kv b ys τ _ gF hb pv
 ·have e:i=kvs.length:=by omega
  subst e;exact .inl ⟨⟨hq,ay _⟩,hd ys τ H pv⟩
end L2
namespace L2
open PySem PySem.Spec PyProof.Rows PySem.W HT
end L2
namespace L2
open PySem PySem.W PySem.Spec PyProof.Rows
end L2
namespace L2
open PySem PySem.Spec PyProof.Rows PySem.W HT
theorem Oz (hc:X.calm=true):dq X (.type "dict") (fun xs H Q=>∃t vs kvs,xs = [.ref t]/\H t=some (.tup vs)/\ik H vs kvs/\(kvs.map (·.1)).Nodup /\ ∀d,H d=none->Q (.ref d) (upd H d (.dK (mX kvs)))):=by
 intro pins s σ H xs us Q I r h;obtain⟨t,vs,kvs,rfl,ht,pr,nd,q⟩:=h;obtain⟨u,rfl,ru⟩:=vals1 r;cases ru
 obtain⟨hz,its,rv,⟨cl,dd,dt,sl⟩,ho,gE,n,gG,lU⟩:=(show ba X.prog X.w H s.heap t (.tup vs) from I.aq t _ ht);obtain rfl:cl = .type "tuple" :=gE;obtain rfl:dd=none:=lU;obtain rfl:dt = .seq its.toArray n:=gG;have fQ:vs.length=kvs.length:=fk pr;have cY:=rv.length;have pairs:∀ (i:Nat) p,kvs[i]? = some p -> ∃a x y,its.toArray[i]? = some (.ref a)/\IsTup s.heap a #[x,y]/\RelV (.str p.1) x/\RelV p.2 y:=by
  intro i p hp;have hi:i < vs.length:=by rw[fQ];exact(cZ.mp hp).1
  obtain⟨p',fj,a,ey,ha⟩:=qe pr (show vs[i]? = some vs[i] from aQ hi);rw[hp]at fj;cases fj;obtain⟨u,hu,ru⟩:=rv.get (show vs[i]? = some (V.ref a) by rw[aQ hi,ey])
  cases ru
  obtain⟨i2,r2,t2,_⟩:=I.tuple (ao.of ha);obtain⟨x,y,rfl,rx,ry⟩:=r2.two;exact⟨a,x,y,by simpa using hu,t2,rx,ry⟩
 have ch:∀i:Fin kvs.length,∃y,∃a x,its.toArray[i.1]? = some (.ref a)/\IsTup s.heap a #[x,y]/\RelV (.str kvs[i].1) x/\RelV kvs[i].2 y:=fun i=>by
  obtain⟨a,x,y,h1,h2,h3,h4⟩:=pairs i.1 kvs[i] (aQ i.2);exact⟨y,a,x,h1,h2,h3,h4⟩
 obtain⟨ys,WO,Ku⟩:∃ys:List Value,ys.length=kvs.length /\ ∀ (i:Nat) (hi:i < kvs.length),∃y,ys[i]? = some y /\ ∃a x,its.toArray[i]? = some (.ref a)/\IsTup s.heap a #[x,y]/\RelV (.str kvs[i].1) x/\RelV kvs[i].2 y:=
  ⟨List.ofFn fun i=>Classical.choose (ch i),List.length_ofFn,fun i hi=>⟨Classical.choose (ch ⟨i,hi⟩),by simp[List.getElem?_ofFn,hi],Classical.choose_spec (ch ⟨i,hi⟩)⟩⟩
 have WQ:((kvs.map fun p=>(Sum.inr p.1:Key)).zip ys).map (·.1)=kvs.map fun p=>(Sum.inr p.1:Key):=by
  rw[List.map_fst_zip];rw[ar];omega
 have Kv:((kvs.map fun p=>(Sum.inr p.1:Key)).zip ys).length=kvs.length:=by rw[List.length_zip,ar];omega
 have inj:(kvs.map fun p=>(Sum.inr p.1:Key)).Nodup:=by
  have:(kvs.map fun p=>(Sum.inr p.1:Key))=(kvs.map (·.1)).map Sum.inr:=by rw[lg];rfl
  rw[this,abE,vo];exact(abE.mp nd).imp fun h z=>h (si z)
 refine NC (I.ok.hd hc) ((kvs.map fun p=>(Sum.inr p.1:Key)).zip ys) (by rw[WQ];exact inj) (by rw[Kv];omega) (by rw[bY,Kv];omega) ho (fun i p hp=>?_) fun d h' tk dl dd kp=>?_
 ·obtain⟨h1,h2⟩:=List.getElem?_zip_eq_some.mp hp
  rw[cU]at h1;obtain⟨kv,hk,ek⟩:=ie.mp h1;obtain⟨hi,rfl⟩:=cZ.mp hk;obtain⟨y,hy,a,x,g1,g2,g3,g4⟩:=Ku i hi;rw[hy]at h2;cases h2
  exact⟨a,x,g1,g2,by rw[<-ek];exact tP (k:=Sum.inr kvs[i].1) g3⟩
 ·have big:=I.big
  refine⟨.ref d,_,I.laid (a:=d) (o:= .dK (mX kvs)) (t':=tk) kp dl (HI (by unfold mX;rw[ar];omega) (l9.mpr (bb (bZ (gw big dl)))) ?_ dd),rfl,q d (I.aq.fresh dl)⟩
  exact GZ kvs ys WO fun i hi=>by
   obtain⟨y,hy,a,x,_,_,_,g4⟩:=Ku i hi;exact⟨y,hy,g4⟩
end L2
namespace HU
open PySem
abbrev Ms (m:Nat):Prop:=m=7\/m=31\/m=127
def lp (m b:Nat):Nat->Nat×Nat
 |0=>(b % (m+1),b)
 |k+1=>SetTable.leap m (lp m b k).1 (lp m b k).2
theorem A7 (m b:Nat):∀k,(lp m b k).1<=m
 |0=>Nat.le_of_lt_succ (DP _ (M9 _))
 |k+1=>Nat.le_of_lt_succ (DP _ (M9 _))
theorem HM (m b:Nat):∀k,(lp m b k).2=b / 32 ^ k
 |0=>by simp[lp]
 |k+1=>by
  show(lp m b k).2 / 32=_;rw[HM m b k,Nat.div_div_eq_div_mul,Nat.pow_succ]
theorem QQ {b:Nat} (hb:b < 2 ^ 64) {k:Nat} (hk:13<=k):(lp m b k).2=0:=by
 rw[HM];refine Nat.div_eq_of_lt (gw hb ?_);exact cL (show 2 ^ 64<=32 ^ 13 by decide) (Nat.pow_le_pow_right (by decide) hk)
def xM (m:Nat):Nat->Nat->Nat->Nat
 |0,_,a=>a
 |n+1,i,a=>xM m n ((i * 5+1) % (m+1)) (a ||| (1 <<< i))
def nv (m i:Nat):Nat->Nat
 |0=>i
 |n+1=>(nv m i n * 5+1) % (m+1)
theorem Fd (m i:Nat):∀n,nv m ((i * 5+1) % (m+1)) n=nv m i (n+1)
 |0=>rfl
 |n+1=>by show(nv m _ n * 5+1) % (m+1)=_;rw[Fd m i n];rfl
theorem G7 (m j:Nat):∀n i a,(xM m n i a).testBit j=true->a.testBit j=true \/ ∃k,k < n/\nv m i k=j
 |0,_,_,h=>.inl h
 |n+1,i,a,h=>by
  rcases G7 m j n _ _ h with h|⟨k,hk,e⟩
  ·rw[Nat.testBit_or,Bool.or_eq_true]at h
   rcases h with h|h
   ·exact .inl h
   ·rw[Nat.one_shiftLeft,Nat.testBit_two_pow]at h
    exact .inr ⟨0,M9 _,by show i=j;simpa using h⟩
  ·exact .inr ⟨k+1,by omega,by rw[<-Fd];exact e⟩
theorem QR (h:Ms m) (hi:i<=m) (hj:j<=m):∃k,k<=m/\nv m i k=j:=by
 have c:((List.range (m+1)).all fun i=>xM m (m+1) i 0==2 ^ (m+1) - 1)=true:=by
  rcases h with rfl|rfl|rfl <;> decide +kernel
 have c1:=i9.mp c i (gx.mpr (by omega))
 rw[nM]at c1;have c2:(xM m (m+1) i 0).testBit j=true:=by rw[c1,Nat.testBit_two_pow_sub_one];exact b4 (by omega)
 rcases G7 m j (m+1) i 0 c2 with h|⟨k,hk,e⟩
 ·simp at h
 ·exact⟨k,by omega,e⟩
theorem IE {m b:Nat} (hb:b < 2 ^ 64):∀k,(lp m b (13+k)).1=nv m (lp m b 13).1 k
 |0=>rfl
 |k+1=>by
  have z:=QQ (m:=m) hb (k:=13+k+1) (by omega)
  show((lp m b (13+k)).1 * 5+1+(lp m b (13+k)).2 / 32) % (m+1)=(nv m _ k * 5+1) % (m+1);rw[show(lp m b (13+k)).2 / 32=0 from z,IE hb k,M']
theorem HN {b:Nat} (h:Ms m) (hb:b < 2 ^ 64) (hj:j<=m):∃k,k < SetTable.turns m/\(lp m b k).1=j:=by
 obtain⟨k,hk,e⟩:=QR h (A7 m b 13) hj;exact⟨13+k,by unfold SetTable.turns;omega,by rw[IE hb];exact e⟩
def tb (m:Nat):SetTable:={ SetTable.fresh 0 0 false with mask:=m }
def st (m b:Nat):Nat->SetTable.Probe
 |0=>{ j:=b % (m+1),more:=SetTable.runEnd m (b % (m+1)) - b % (m+1),i:=b % (m+1),perturb:=b,dummy:=none }
 |n+1=>(tb m).advance (st m b n)
def xN (m b k:Nat):SetTable.Probe:={ j:=(lp m b k).1,more:=SetTable.runEnd m (lp m b k).1 - (lp m b k).1,i:=(lp m b k).1,perturb:=(lp m b k).2,dummy:=none }
def num (m b:Nat):Nat->Nat
 |0=>0
 |k+1=>num m b k+(SetTable.runEnd m (lp m b k).1 - (lp m b k).1)+1
theorem RW (m i:Nat):SetTable.runEnd m i - i<=9:=by unfold SetTable.runEnd;split <;> omega
theorem HP (h:i<=m):SetTable.runEnd m i<=m:=by unfold SetTable.runEnd;split <;> omega
theorem AQ (m i:Nat):i<=SetTable.runEnd m i:=by unfold SetTable.runEnd;split <;> omega
theorem HQ (m b:Nat):∀k,num m b k<=10 * k
 |0=>ay _
 |k+1=>by have:=HQ m b k;have:=RW m (lp m b k).1;show num m b k+_+1<=_;omega
theorem A8 {m b N:Nat}{p:SetTable.Probe} (e:st m b N=p):∀d,d<=p.more->st m b (N+d)={ p with j:=p.j+d,more:=p.more - d }
 |0,_=>by rw[M',e];rfl
 |d+1,h=>by
  have ih:=A8 e d (by omega)
  show(tb m).advance (st m b (N+d))=_;rw[ih];unfold SetTable.advance;rw[ax (show p.more - d > 0 by omega)]
  rfl
theorem AR (m b:Nat):∀k,st m b (num m b k)=xN m b k
 |0=>rfl
 |k+1=>by
  have e:=A8 (AR m b k) _ (ay _);show(tb m).advance (st m b (num m b k+(xN m b k).more))=_;rw[e];unfold SetTable.advance;rw[aj (show ¬ (xN m b k).more - (xN m b k).more > 0 by omega)]
  rfl
theorem tD {b k d:Nat} (h:(lp m b k).1+d<=SetTable.runEnd m (lp m b k).1):(st m b (num m b k+d)).j=(lp m b k).1+d:=by
 have:=A8 (AR m b k) d (by show d<=SetTable.runEnd m (lp m b k).1 - (lp m b k).1;omega)
 rw[this];rfl
theorem HR (m b:Nat):∀n,∃k d,n=num m b k+d/\(lp m b k).1+d<=SetTable.runEnd m (lp m b k).1
 |0=>⟨0,0,rfl,AQ _ _⟩
 |n+1=>by
  obtain⟨k,d,e,h⟩:=HR m b n
  by_cases c:(lp m b k).1+d+1<=SetTable.runEnd m (lp m b k).1
  ·exact⟨k,d+1,by omega,by omega⟩
  ·refine⟨k+1,0,?_,AQ _ _⟩
   show n+1=num m b k+(SetTable.runEnd m (lp m b k).1 - (lp m b k).1)+1+0;omega
theorem TN (m b n:Nat):(st m b n).j<=m:=by
 obtain⟨k,d,rfl,h⟩:=HR m b n;rw[tD h];exact cL h (HP (A7 m b k))
theorem zQ (m b:Nat):∀n,(st m b n).dummy=none
 |0=>rfl
 |n+1=>by
  show((tb m).advance (st m b n)).dummy=none;unfold SetTable.advance;split
  ·exact zQ m b n
  ·exact zQ m b n
theorem OA {b:Nat} (h:Ms m) (hb:b < 2 ^ 64) {L:Nat->Prop} [DecidablePred L] (hf:∃j,j<=m /\ ¬ L j):∃e,e < 10 * SetTable.turns m /\ ¬ L (st m b e).j /\ ∀n,n < e->L (st m b n).j:=by
 obtain⟨j,hj,hL⟩:=hf;obtain⟨k,hk,e⟩:=HN (b:=b) h hb hj;have e1:(st m b (num m b k)).j=j:=by rw[AR];exact e
 have nk:=HQ m b k;have ex:∃n,¬ L (st m b n).j:=⟨num m b k,by rw[e1];exact hL⟩
 have key:∀B,(∃n,n<=B /\ ¬ L (st m b n).j) -> ∃e,e<=B /\ ¬ L (st m b e).j /\ ∀n,n < e->L (st m b n).j:=by
  intro B
  induction B with
  |zero =>
   rintro⟨n,hn,hl⟩;obtain rfl:n=0:=by omega
   exact⟨0,ay _,hl,fun n h=>absurd h (mq _)⟩
  |succ B ih =>
   rintro⟨n,hn,hl⟩
   by_cases c:∃n,n<=B /\ ¬ L (st m b n).j
   ·obtain⟨e,he,r⟩:=ih c
    exact⟨e,by omega,r⟩
   ·have WR:n=B+1:=D1 fun z=>c ⟨n,by omega,hl⟩
    subst WR;exact⟨B+1,ay _,hl,fun n' h'=>D1 fun z=>c ⟨n',by omega,z⟩⟩
 obtain⟨e,he,r⟩:=key _ ⟨num m b k,ay _,by rw[e1];exact hL⟩
 exact⟨e,by omega,r⟩
theorem Jv:∀ {ys found:List Nat},ys.Nodup->found.length < ys.length -> ∃y∈ys,y ∉ found
 |[],found,_,h=>by simp at h
 |y::ys,found,nd,h=>by
  obtain⟨n1,n2⟩:=iE.mp nd
  by_cases hy:y∈found
  ·have hl:=MF hy
   have hp:=abm hy;obtain⟨z,hz,hn⟩:=Jv (found:=found.erase y) n2 (by rw[hl];rw[b5]at h;omega)
   refine⟨z,a9 _ hz,fun q=>hn ?_⟩;have ne:z≠y:=fun e=>n1 (by rw[<-e];exact hz)
   exact(MG ne).mpr q
  ·exact⟨y,aZ,hy⟩
abbrev rL (xs:Array Nat):Prop:= ∀i k (hk:k < xs.size) (h:i < k),xs[i] < xs[k]
theorem Al {xs:Array Nat}{j:Nat} (r:rL xs):∀fuel lo hi,hi - lo<=fuel->lo<=hi->hi<=xs.size->(∀i (h:i < xs.size),i < lo->xs[i] < j)->(∀i (h:i < xs.size),hi<=i->j<=xs[i]) ->
  SetTable.below.go xs j fuel lo hi<=xs.size/\(∀i (h:i < xs.size),i < SetTable.below.go xs j fuel lo hi->xs[i] < j)/\(∀i (h:i < xs.size),SetTable.below.go xs j fuel lo hi<=i->j<=xs[i])
 |0,lo,hi,h0,h1,h2,h3,h4=>by
  have:lo=hi:=by omega
  subst this;exact⟨h2,h3,h4⟩
 |f+1,lo,hi,h0,h1,h2,h3,h4=>by
  unfold SetTable.below.go
  by_cases c:lo < hi
  ·rw[ax c]
   dsimp only
   have hm:(lo+hi) / 2 < xs.size:=by omega
   have eg:xs.getD ((lo+hi) / 2) j=xs[(lo+hi) / 2]:=by simp[Array.getD,hm]
   rw[eg]
   by_cases d:xs[(lo+hi) / 2] < j
   ·rw[ax d]
    refine Al r f _ hi (by omega) (by omega) h2 (fun i h eW=>?_) h4
    by_cases e:i=(lo+hi) / 2
    ·subst e;exact d
    ·exact pO (r i _ hm (by omega)) d
   ·rw[aj d]
    refine Al r f lo _ (by omega) (by omega) (by omega) h3 (fun i h eW=>?_)
    by_cases e:i=(lo+hi) / 2
    ·subst e;omega
    ·have:=r _ i h (show(lo+hi) / 2 < i by omega);omega
  ·rw[aj c]
   have:lo=hi:=by omega
   subst this;exact⟨h2,h3,h4⟩
theorem Ew {xs:Array Nat} (r:rL xs):SetTable.below xs j<=xs.size/\(∀i (h:i < xs.size),i < SetTable.below xs j->xs[i] < j)/\(∀i (h:i < xs.size),SetTable.below xs j<=i->j<=xs[i]):=
 Al r _ _ _ (by omega) (aN _) (ay _) (fun i _ h=>absurd h (mq _)) (fun i h1 h2=>absurd h1 (by omega))
theorem below_at {xs:Array Nat} (r:rL xs) (h:xs[i]? = some j):SetTable.below xs j=i:=by
 obtain⟨hi,e⟩:=mh.mp h;obtain⟨b1,b2,b3⟩:=Ew (j:=j) r;rcases Na (SetTable.below xs j) i with c|c|c
 ·have h1:=b3 _ (by omega) (ay _)
  have h2:=r _ i hi c;omega
 ·exact c
 ·have:=b2 i hi c
  omega
theorem sI {t:SetTable} (r:rL t.place) (h:t.place[i]? = some j):t.slot j = .live i:=by
 unfold SetTable.slot
 dsimp only
 rw[below_at r h,h];simp
theorem OB {t:SetTable} (d:t.dummies = #[]) (h:j ∉ t.place):t.slot j = .empty:=by
 unfold SetTable.slot SetTable.has
 dsimp only
 rw[aj,aj]
 ·rw[d];simp
 ·intro c
  rw[nM]at c;exact h (abr c)
structure Tab (t:SetTable) (hs:List Int):Prop where
 ms:Ms t.mask
 du:t.dummies = #[]
 ri:rL t.place
 le:∀j∈t.place,j<=t.mask
 sz:t.place.size=hs.length
 room:hs.length<=t.mask
 reach:∀ (i j:Nat),t.place[i]? = some j -> ∃ (h:Int) (n:Nat),hs[i]? = some h/\(st t.mask (SetTable.bits h) n).j=j /\ ∀n',n' < n->(st t.mask (SetTable.bits h) n').j∈t.place
theorem G8 (h:Int):SetTable.bits h < 2 ^ 64:=by unfold SetTable.bits;omega
theorem Tab.fits {t:SetTable} (T:Tab t hs):t.fits hs.length=true:=by
 unfold SetTable.fits SetTable.fill;have:=T.sz;have:=T.room;rw[T.du];simp only[eS,nM,ig,bY,yP];omega
theorem Tab.way {t:SetTable} (T:Tab t hs):t.gaveWay=false:=by
 unfold SetTable.gaveWay;rcases T.ms with e|e|e <;> rw[e] <;> rfl
theorem Tab.free {t:SetTable} (T:Tab t hs) (h:Int):∃e,e < 10 * SetTable.turns t.mask/\(st t.mask (SetTable.bits h) e).j ∉ t.place /\ ∀n,n < e->(st t.mask (SetTable.bits h) n).j∈t.place:=by
 refine OA (L:=fun j=>j∈t.place) T.ms (G8 h) ?_;obtain⟨y,hy,hn⟩:=Jv (ys:=List.range (t.mask+1)) (found:=t.place.toList) DT (by have:=T.sz;have:=T.room;rw[yN,d7];omega)
 exact⟨y,by have:=gx.mp hy;omega,fun z=>hn (by simpa using z)⟩
section
variable{t:SetTable}{h:Int}{e:Nat}{hashAt:Nat->Int}
theorem HW (T:Tab t hs) (he:(st t.mask (SetTable.bits h) e).j ∉ t.place) (hl:∀n,n < e->(st t.mask (SetTable.bits h) n).j∈t.place):∀d n fuel,n+d=e->d < fuel ->
  (SetTable.probe.go t hashAt h fuel (st t.mask (SetTable.bits h) n)=some (.empty (st t.mask (SetTable.bits h) e).j none) /\ ∀n' i,n<=n'->n' < e->t.place[i]? = some (st t.mask (SetTable.bits h) n').j->hashAt i≠h) \/
  (∃n' i,n<=n'/\n' < e/\t.place[i]? = some (st t.mask (SetTable.bits h) n').j/\hashAt i=h/\SetTable.probe.go t hashAt h fuel (st t.mask (SetTable.bits h) n)=some (.candidate (st t.mask (SetTable.bits h) n').j i (st t.mask (SetTable.bits h) (n'+1))) /\
   ∀gI i',n<=gI->gI < n'->t.place[i']? = some (st t.mask (SetTable.bits h) gI).j->hashAt i'≠h)
 |0,n,fuel+1,hn,_=>by
  obtain rfl:n=e:=by omega
  left
  refine⟨?_,fun n' i h1 h2=>absurd h2 (by omega)⟩
  unfold SetTable.probe.go;rw[OB T.du he]
  dsimp only
  rw[zQ]
 |d+1,n,fuel+1,hn,hf=>by
  have hm:=hl n (by omega)
  obtain⟨i,hi⟩:=Array.mem_iff_getElem?.mp hm;have sl:=sI T.ri hi;have uq:∀i',t.place[i']? = some (st t.mask (SetTable.bits h) n).j->i'=i:=fun i' z=>by
   have:=sI T.ri z;rw[sl]at this;injection this with q;exact q.symm
  unfold SetTable.probe.go;rw[sl]
  dsimp only
  by_cases c:hashAt i=h
  ·right
   refine⟨n,i,ay _,by omega,hi,c,?_,fun gI i' h1 h2=>absurd h2 (by omega)⟩
   rw[ax (by rw[c];exact yK _)]
   rfl
  ·rw[aj (by rw[nM];exact c)]
   rw[show t.advance (st t.mask (SetTable.bits h) n)=st t.mask (SetTable.bits h) (n+1) from rfl];rcases HW T he hl d (n+1) fuel (by omega) (by omega) with⟨a,b⟩|⟨n',i',h1,h2,h3,h4,h5,h6⟩
   ·refine .inl ⟨a,fun n' i' h1 h2 h3=>?_⟩
    by_cases q:n'=n
    ·subst q;rw[uq i' h3];exact c
    ·exact b n' i' (by omega) h2 h3
   ·refine .inr ⟨n',i',by omega,h2,h3,h4,h5,fun gI Kw g1 g2 g3=>?_⟩
    by_cases q:gI=n
    ·subst q;rw[uq Kw g3];exact c
    ·exact h6 gI Kw (by omega) g2 g3
end
theorem FY {α:Type} (xs:Array α) (p:Nat) (x:α):(SetTable.insertAt xs p x).toList=xs.toList.take p++x::xs.toList.drop p:=by
 unfold SetTable.insertAt;simp[Array.toList_extract];rw[sC (by simp)]
def f9 {α:Type} (l:List α) (p:Nat) (x:α):List α:=l.take p++x::l.drop p
theorem FZ {α β:Type} (g:α->β) (l:List α) (p:Nat) (x:α):(f9 l p x).map g=f9 (l.map g) p (g x):=by simp[f9]
theorem sJ {α:Type} (l:List α) (p:Nat) (x:α):(f9 l p x).Perm (x::l):=by
 unfold f9;exact List.perm_middle.trans (by rw[DN])
theorem Qb {α:Type}{l:List α}{p:Nat}{x:α} (hp:p<=l.length) {y:α} (h:(f9 l p x)[i]? = some y):(i < p/\l[i]? = some y)\/(i=p/\y=x)\/(p < i/\l[i - 1]? = some y):=by
 unfold f9 at h;have tl:(l.take p).length=p:=by rw[c4];omega
 rcases Na i p with c|c|c
 ·rw[DH (by omega),Mu c]at h
  exact .inl ⟨c,h⟩
 ·subst c
  rw[yE (by omega),tl,Nat.sub_self]at h
  exact .inr (.inl ⟨rfl,by simpa using h.symm⟩)
 ·rw[yE (by omega),tl]at h
  obtain⟨k,hk⟩:∃k,i - p=k+1:=⟨i - p - 1,by omega⟩
  rw[hk,Nb,Nc]at h;exact .inr (.inr ⟨c,by rw[show i - 1=p+k by omega];exact h⟩)
theorem QS {α:Type}{l:List α}{p:Nat}{x:α} (hp:p<=l.length) (i:Nat):(f9 l p x)[i]? = if i < p then l[i]? else if i=p then some x else l[i - 1]?:=by
 unfold f9;have tl:(l.take p).length=p:=by rw[c4];omega
 rcases Na i p with c|c|c
 ·rw[ax c,DH (by omega),Mu c]
 ·subst c
  rw[aj (by omega),ax rfl,yE (by omega),tl,Nat.sub_self];rfl
 ·rw[aj (by omega),aj (by omega),yE (by omega),tl]
  obtain⟨k,hk⟩:∃k,i - p=k+1:=⟨i - p - 1,by omega⟩
  rw[hk,Nb,Nc,show i - 1=p+k by omega]
theorem zR {xs:Array Nat}:rL xs ↔ xs.toList.Pairwise (· < ·):=by
 rw[abx]
 constructor
 ·intro r i j hi hj b9
  exact r i j (by simpa using hj) b9
 ·intro r i k hk h
  exact r i k (by simp;omega) (by simpa using hk) h
theorem Tab.put {t u:SetTable}{h:Int}{e:Nat} (T:Tab t hs) (he:(st t.mask (SetTable.bits h) e).j ∉ t.place) (hl:∀n,n < e->(st t.mask (SetTable.bits h) n).j∈t.place)
  (hr:hs.length+1<=t.mask) (um:u.mask=t.mask) (ud:u.dummies = #[]) (up:u.place=SetTable.insertAt t.place (SetTable.below t.place (st t.mask (SetTable.bits h) e).j) (st t.mask (SetTable.bits h) e).j) :
  Tab u (f9 hs (SetTable.below t.place (st t.mask (SetTable.bits h) e).j) h)/\SetTable.below t.place (st t.mask (SetTable.bits h) e).j<=hs.length:=by
 have hj:=TN t.mask (SetTable.bits h) e;have RX:∀n,n < e->(st t.mask (SetTable.bits h) n).j∈t.place:=hl;have b:=Ew (j:=(st t.mask (SetTable.bits h) e).j) T.ri;generalize ej:(st t.mask (SetTable.bits h) e).j=j at *;obtain⟨b1,b2,b3⟩:=b;generalize SetTable.below t.place j=p at *;have ph:p<=hs.length:=by rw[<-T.sz];exact b1
 have pl:p<=t.place.toList.length:=by rw[d7];exact b1
 have el:u.place.toList=f9 t.place.toList p j:=by rw[up];exact FY _ _ _
 have lh:(f9 hs p h).length=hs.length+1:=(sJ hs p h).length_eq;have gt:∀i k:Nat,u.place[i]? = some k->(f9 t.place.toList p j)[i]? = some k:=fun i k z=>by rw[<-el];simpa using z
 have mem:∀k,k∈u.place ↔ k=j\/k∈t.place:=fun k=>by
  rw[<-yC,el,(sJ _ _ _).mem_iff,bx,yC]
 refine⟨⟨by rw[um];exact T.ms,ud,?_,?_,?_,?_,?_⟩,ph⟩
 ·rw[zR,el]
  unfold f9;have pw:=zR.mp T.ri;rw[List.pairwise_append];refine⟨pw.take,?_,fun a ha c hc=>?_⟩
  ·rw[List.pairwise_cons]
   refine⟨fun c hc=>?_,pw.drop⟩;obtain⟨i,hi,ec⟩:=abG.mp hc;have eW:p+i < t.place.size:=by have:=hi;simp at this;omega
   have h3:=b3 (p+i) eW (by omega)
   have ne:j≠t.place[p+i]:=fun z=>he (by rw[z];exact Array.getElem_mem _)
   have WS:t.place[p+i]=c:=by simpa using ec
   omega
  ·obtain⟨i,hi,ea⟩:=List.mem_take_iff_getElem.mp ha
   have eW:i < t.place.size:=by have:=hi;simp at this;omega
   have h2:=b2 i eW (by have:=hi;simp at this;omega)
   have ea':t.place[i]=a:=by simpa using ea
   rcases bx.mp hc with rfl|hc
   ·omega
   ·obtain⟨k,hk,ec⟩:=abG.mp hc
    have hV:p+k < t.place.size:=by have:=hk;simp at this;omega
    have h3:=b3 (p+k) hV (by omega)
    have WS:t.place[p+k]=c:=by simpa using ec
    omega
 ·intro k hk
  rw[um];rcases (mem k).mp hk with rfl|z
  ·exact hj
  ·exact T.le k z
 ·rw[lh,<-d7,el,(sJ _ _ _).length_eq,b5,d7,T.sz]
 ·rw[um,lh];exact hr
 ·intro i k z
  rw[um];rw[QS ph];rcases Qb pl (gt i k z) with⟨c,q⟩|⟨c,q⟩|⟨c,q⟩
  ·obtain⟨h',n,a1,a2,a3⟩:=T.reach i k (by simpa using q)
   exact⟨h',n,by rw[ax c];exact a1,a2,fun n' lP=>(mem _).mpr (.inr (a3 n' lP))⟩
  ·refine⟨h,e,by rw[aj (by omega),ax c],by rw[q];exact ej,fun n' lP=>(mem _).mpr (.inr (RX n' lP))⟩
  ·obtain⟨h',n,a1,a2,a3⟩:=T.reach (i - 1) k (by simpa using q)
   exact⟨h',n,by rw[aj (by omega),aj (by omega)];exact a1,a2,fun n' lP=>(mem _).mpr (.inr (a3 n' lP))⟩
abbrev Own (o:Array (Option Nat)) (j:Nat):Prop:= ∃k,o[j]? = some (some k)
theorem QT {o:Array (Option Nat)} (hs:o.size=m+1) (hj:j<=m):(o.getD j (some 0)).isNone=true ↔ o[j]? = some none:=by
 have:j < o.size:=by omega
 simp[Array.getD,this]
theorem F0 {m b:Nat}{o:Array (Option Nat)} (hs:o.size=m+1):∀fuel k,(SetTable.layClean.free m o fuel (lp m b k).1 (lp m b k).2=none /\ ∀k',k<=k'->k' < k+fuel->Own o (lp m b k').1) \/
  (∃n,num m b k<=n/\SetTable.layClean.free m o fuel (lp m b k).1 (lp m b k).2=some (st m b n).j/\o[(st m b n).j]? = some none /\ ∀n',num m b k<=n'->n' < n->Own o (st m b n').j)
 |0,k=>.inl ⟨rfl,fun k' h1 h2=>absurd h2 (by omega)⟩
 |f+1,k=>by
  unfold SetTable.layClean.free;have hle:=HP (A7 m b k);have hge:=AQ m (lp m b k).1;have own:∀d,(lp m b k).1+d<=SetTable.runEnd m (lp m b k).1->((o.getD ((lp m b k).1+d) (some 0)).isNone=true ↔ o[(lp m b k).1+d]? = some none):=fun d hd=>QT hs (by omega)
  have tW:∀d,(lp m b k).1+d<=SetTable.runEnd m (lp m b k).1 -> ¬ (o.getD ((lp m b k).1+d) (some 0)).isNone=true->Own o ((lp m b k).1+d):=fun d hd z=>by
   have lt:(lp m b k).1+d < o.size:=by omega
   have e1:o[(lp m b k).1+d]? = some o[(lp m b k).1+d]:=jT lt;cases c:o[(lp m b k).1+d] with
   |none=>exact absurd ((own d hd).mpr (by rw[e1,c])) z
   |some x=>exact⟨x,by rw[e1,c]⟩
  cases c:(List.range (SetTable.runEnd m (lp m b k).1+1 - (lp m b k).1)).find? fun d=>(o.getD ((lp m b k).1+d) (some 0)).isNone with
  |some d =>
   right
   obtain⟨as,bs,e1,e2⟩:=(abI.mp c).2;have hd:(o.getD ((lp m b k).1+d) (some 0)).isNone=true:=(abI.mp c).1;have mem:d∈List.range (SetTable.runEnd m (lp m b k).1+1 - (lp m b k).1):=by rw[e1];simp
   have dl:(lp m b k).1+d<=SetTable.runEnd m (lp m b k).1:=by have:=gx.mp mem;omega
   refine⟨num m b k+d,by omega,?_,?_,fun n' h1 h2=>?_⟩
   ·dsimp only;rw[tD dl]
   ·rw[tD dl];exact(own d dl).mp hd
   ·obtain⟨d',rfl⟩:∃d',n'=num m b k+d':=⟨n' - num m b k,by omega⟩
    have uK:(lp m b k).1+d'<=SetTable.runEnd m (lp m b k).1:=by omega
    rw[tD uK];refine tW d' uK fun z=>?_;have la:as.length=d:=by
     have g:(List.range (SetTable.runEnd m (lp m b k).1+1 - (lp m b k).1))[as.length]? = some d:=by rw[e1];simp
     rw[abJ (by have:=d9 List.length e1;simp at this;omega)]at g
     exact e7 g
    have ma:d'∈as:=by
     have g:(List.range (SetTable.runEnd m (lp m b k).1+1 - (lp m b k).1))[d']? = some d':=abJ (by omega)
     rw[e1,DH (by omega)]at g
     exact eN g
    have:=e2 d' ma;rw[z]at this;cases this
  |none =>
   dsimp only
   have nn:=List.find?_eq_none.mp c;have al:∀d,(lp m b k).1+d<=SetTable.runEnd m (lp m b k).1->Own o ((lp m b k).1+d):=fun d hd=>tW d hd (nn d (gx.mpr (by omega)))
   rcases F0 hs f (k+1) with⟨a1,a2⟩|⟨n,a1,a2,a3,a4⟩
   ·refine .inl ⟨a1,fun k' h1 h2=>?_⟩
    by_cases q:k'=k
    ·subst q;have:=al 0 (by omega);rwa [M']at this
    ·exact a2 k' (by omega) (by omega)
   ·refine .inr ⟨n,cL (by show _<=num m b k+_+1;omega) a1,a2,a3,fun n' h1 h2=>?_⟩
    by_cases q:num m b (k+1)<=n'
    ·exact a4 n' q h2
    ·have q':n' < num m b k+(SetTable.runEnd m (lp m b k).1 - (lp m b k).1)+1:=by
      have : ¬ (num m b k+(SetTable.runEnd m (lp m b k).1 - (lp m b k).1)+1<=n'):=q;omega
     obtain⟨d',rfl⟩:∃d',n'=num m b k+d':=⟨n' - num m b k,by omega⟩
     have uK:(lp m b k).1+d'<=SetTable.runEnd m (lp m b k).1:=by omega
     rw[tD uK];exact al d' uK
structure Lay (m:Nat) (hs:List Int) (c:Nat) (o:Array (Option Nat)):Prop where
 sz:o.size=m+1
 cnt:o.toList.count none+c=m+1
 has:∀k,k < c -> ∃j:Nat,o[j]? = some (some k)
 uL:∀ (j k:Nat),o[j]? = some (some k)->k < c /\ ∃ (h:Int) (n:Nat),hs[k]? = some h/\(st m (SetTable.bits h) n).j=j /\ ∀n',n' < n->Own o (st m (SetTable.bits h) n').j
 Kx:∀ (j j' k:Nat),o[j]? = some (some k)->o[j']? = some (some k)->j=j'
theorem Lay.more {o:Array (Option Nat)}{h:Int} (M:Ms m) (L:Lay m hs c o) (hc:c<=m) (hh:hs[c]? = some h) :
  ∃j,SetTable.layClean.free m o (SetTable.turns m) (SetTable.bits h % (m+1)) (SetTable.bits h)=some j/\Lay m hs (c+1) (o.setIfInBounds j (some c)):=by
 rcases F0 (b:=SetTable.bits h) L.sz (SetTable.turns m) 0 with⟨a1,a2⟩|⟨n,a1,a2,a3,a4⟩
 ·exfalso
  have pos:0 < o.toList.count none:=by have:=L.cnt;omega
  obtain⟨j,hj,ej⟩:=Nd.mp (List.count_pos_iff.mp pos);have lZ:j < o.size:=by simpa using hj
  obtain⟨k,hk,e⟩:=HN (b:=SetTable.bits h) M (G8 h) (j:=j) (by have:=L.sz;omega)
  obtain⟨x,hx⟩:=a2 k (aN _) (by omega)
  rw[e,jT lZ]at hx;have:o[j]=none:=by simpa using ej
  rw[this]at hx;cases hx
 ·refine⟨_,a2,?_⟩
  have WT:∀n',n' < n->Own o (st m (SetTable.bits h) n').j:=fun n' hn=>a4 n' (aN _) hn;generalize ej:(st m (SetTable.bits h) n).j=j at *;obtain⟨jl,jn⟩:=mh.mp a3;have gs:∀i:Nat,(o.setIfInBounds j (some c))[i]? = if j=i then some (some c) else o[i]?:=fun i=>by
   rw[Array.getElem?_setIfInBounds]
   by_cases q:j=i
   ·subst q;rw[ax rfl,ax rfl,ax jl]
   ·rw[aj q,aj q]
  have own:∀i,Own o i->Own (o.setIfInBounds j (some c)) i:=fun i ⟨k,hk⟩=>by
   by_cases q:j=i
   ·exact⟨c,by rw[gs,ax q]⟩
   ·exact⟨k,by rw[gs,aj q];exact hk⟩
  have Ky:∀i,o[i]? ≠ some (some c):=fun i z=>by have:=(L.uL i c z).1;omega
  refine⟨by rw[Array.size_setIfInBounds];exact L.sz,?_,?_,?_,?_⟩
  ·have uM:=L.cnt
   rw[Array.toList_setIfInBounds,List.count_set (by simpa using jl)]
   have e1:(o.toList[j]'(by simpa using jl)==none)=true:=by simp[jn]
   have pos:0 < o.toList.count none:=List.count_pos_iff.mpr (by rw[<-jn];simp)
   have e2:((some c:Option Nat)==none)=false:=rfl;rw[ax e1,aj (by rw[e2];exact cz)]
   omega
  ·intro k hk
   by_cases q:k=c
   ·subst q;exact⟨j,by rw[gs,ax rfl]⟩
   ·obtain⟨i,hi⟩:=L.has k (by omega)
    refine⟨i,?_⟩;rw[gs,aj,hi];rintro rfl;rw[a3]at hi;cases hi
  ·intro i k hi
   rw[gs]at hi
   by_cases q:j=i
   ·rw[ax q]at hi
    have:c=k:=by injection hi with z;injection z
    subst this;exact⟨by omega,h,n,hh,by rw[ej];exact q,fun n' hn=>own _ (WT n' hn)⟩
   ·rw[aj q]at hi
    obtain⟨h1,h',n',h2,h3,h4⟩:=L.uL i k hi;exact⟨by omega,h',n',h2,h3,fun gI hn=>own _ (h4 gI hn)⟩
  ·intro i i' k h1 h2
   rw[gs]at h1 h2
   by_cases q:j=i
   ·rw[ax q]at h1
    by_cases q':j=i'
    ·omega
    ·rw[aj q']at h2
     rw[<-h1]at h2;exact absurd h2 (Ky _)
   ·rw[aj q]at h1
    by_cases q':j=i'
    ·rw[ax q']at h2
     rw[<-h2]at h1;exact absurd h1 (Ky _)
    ·rw[aj q']at h2
     exact L.Kx _ _ _ h1 h2
theorem QU (M:Ms m) (hl:hs.length<=m):∃o,SetTable.layClean m hs.toArray=some o/\Lay m hs hs.length o:=by
 have key:∀ (l:List Int) (c:Nat) (o:Array (Option Nat)),Lay m hs c o->hs.drop c=l -> ∃o',(l.foldl (fun acc h=>(do
   let (owner,k) <- acc
   let j <- SetTable.layClean.free m owner (SetTable.turns m) (SetTable.bits h % (m+1)) (SetTable.bits h)
   pure (owner.setIfInBounds j (some k),k+1):Option (Array (Option Nat)×Nat))) (some (o,c)))=some (o',hs.length)/\Lay m hs hs.length o':=by
  intro l
  induction l with
  |nil =>
   intro c o L e;have gE:hs.length<=c:=List.drop_eq_nil_iff.mp e
   by_cases q:c=hs.length
   ·subst q;exact⟨o,rfl,L⟩
   ·exfalso
    obtain⟨j,hj⟩:=L.has (c - 1) (by omega)
    obtain⟨_,h,n,h1,_⟩:=L.uL j _ hj;have:=(cZ.mp h1).1;omega
  |cons h l ih =>
   intro c o L e;have hc:c < hs.length:=by
    apply D1
    intro z;rw[abL (by omega)]at e;cases e
   have hh:hs[c]? = some h:=by
    have:(hs.drop c)[0]? = some h:=by rw[e];rfl
    rw[Nc]at this;simpa using this
   obtain⟨j,hj,L'⟩:=L.more M (by omega) hh
   rw[List.foldl_cons];have e':hs.drop (c+1)=l:=by
    have:(hs.drop c).drop 1=l:=by rw[e];rfl
    rw[List.drop_drop]at this;exact this
   have:=ih (c+1) _ L' e';simp only[abM,vi]at this ⊢;rw[hj]
   simpa using this
 have IF:∀j k:Nat,(Array.replicate (m+1) (none:Option Nat))[j]? ≠ some (some k):=fun j k h=>by
  rw[Array.getElem?_replicate]at h;split at h
  ·injection h with h;cases h
  ·cases h
 obtain⟨o,h1,h2⟩:=key hs 0 (Array.replicate (m+1) none) ⟨by simp,by simp,fun k h=>absurd h (by omega),fun j k h=>absurd h (IF j k),fun j j' k h=>absurd h (IF j k)⟩ rfl
 refine⟨o,?_,h2⟩;unfold SetTable.layClean;rw[List.foldl_toArray];rw[h1];rfl
theorem all_range {α:Type}:∀xs:List α,(List.range xs.length).filterMap (xs[·]?)=xs
 |[]=>rfl
 |x::xs=>by
  rw[b5,List.range_succ_eq_map,yz];simp only[List.getElem?_cons_zero,List.filterMap_map]
  congr 1
  exact all_range xs
theorem IG {α:Type}{xs:List α}:∀ {l:List Nat},(∀k∈l,k < xs.length) -> ∀i:Nat,(l.filterMap (xs[·]?))[i]? = l[i]?.bind (xs[·]?)
 |[],_,i=>by simp
 |k::l,h,i=>by
  have hk:=h k aZ;rw[yz,aQ hk];cases i with
  |zero=>simp[hk]
  |succ i =>
   simp only[Nb];exact IG (fun k hk=>h k (a9 _ hk)) i
theorem Qc {fi mo:Nat}{led pl:Bool} (M:Ms m) (hl:hs.length<=m) :
  ∃ (t:SetTable) (ord:Array Nat),SetTable.laid m fi mo led pl hs.toArray=some (t,ord)/\t.led=led/\t.plain=pl/\t.mask=m/\ord.toList.Perm (List.range hs.length)/\Tab t (ord.toList.filterMap (hs[·]?)):=by
 obtain⟨o,ho,L⟩:=QU M hl;unfold SetTable.laid;rw[ho];have ml:∀j k,(j,k)∈(List.range (m+1)).filterMap (fun j=>(o.getD j none).map (j,·)) ↔ o[j]? = some (some k):=by
  intro j k;rw[sj]
  constructor
  ·rintro⟨j',lZ,e⟩
   have lt:j' < o.size:=by rw[L.sz];exact gx.mp lZ
   have eg:o.getD j' none=o[j']:=by simp[Array.getD,lt]
   rw[eg]at e;cases c:o[j'] with
   |none=>rw[c]at e;cases e
   |some x =>
    rw[c]at e;simp only[vf,Option.some.injEq,Prod.mk.injEq]at e;obtain⟨rfl,rfl⟩:=e;rw[jT lt,c]
  ·intro h
   obtain⟨lt,e⟩:=mh.mp h;refine⟨j,gx.mpr (by rw[<-L.sz];exact lt),?_⟩
   have eg:o.getD j none=o[j]:=by simp[Array.getD,lt]
   rw[eg,e];rfl
 have pw:((List.range (m+1)).filterMap (fun j=>(o.getD j none).map (j,·))).Pairwise fun p q=>p.1 < q.1:=by
  rw[List.pairwise_filterMap];refine List.Pairwise.imp ?_ (List.pairwise_lt_range (n:=m+1));intro a b rK p hp q hq;obtain⟨_,_,rfl⟩:=ie.mp hp;obtain⟨_,_,rfl⟩:=ie.mp hq;exact rK
 simp only[abM,vi];generalize (List.range (m+1)).filterMap (fun j=>(o.getD j none).map (j,·))=live at ml pw ⊢;have nd:(live.map (·.2)).Nodup:=by
  unfold List.Nodup;rw[vo];refine List.Pairwise.imp_of_mem ?_ pw;intro a b ha hb rK e;have:=L.Kx a.1 b.1 a.2 ((ml _ _).mp ha) (by rw[e];exact(ml _ _).mp hb)
  omega
 have lt:∀k∈live.map (·.2),k < hs.length:=by
  intro k hk;obtain⟨⟨j,k'⟩,hp,rfl⟩:=cD.mp hk;exact(L.uL j k' ((ml _ _).mp hp)).1
 have pm:(live.map (·.2)).Perm (List.range hs.length):=by
  refine(Nf nd DT).mpr fun k=>?_;rw[gx];refine⟨lt k,fun hk=>?_⟩;obtain⟨j,hj⟩:=L.has k hk;exact cD.mpr ⟨(j,k),(ml _ _).mpr hj,rfl⟩
 refine⟨_,_,rfl,rfl,rfl,rfl,pm,M,rfl,?_,?_,?_,?_,?_⟩
 ·rw[zR]
  show(live.map (·.1)).Pairwise _;rw[vo];exact pw
 ·intro j hj
  have lZ:j∈live.map (·.1):=by simpa using hj
  obtain⟨⟨j',k⟩,hp,rfl⟩:=cD.mp lZ;have:=(mh.mp ((ml _ _).mp hp)).1;show j'<=m;have:=L.sz;omega
 ·have e:=(pm.filterMap (hs[·]?)).length_eq
  rw[all_range]at e;show(live.map (·.1)).toArray.size=((live.map (·.2)).filterMap (hs[·]?)).length;rw[e,bY,ar,<-ar (f:=(·.2)),pm.length_eq,yN]
 ·have e:=(pm.filterMap (hs[·]?)).length_eq
  rw[all_range]at e;show((live.map (·.2)).filterMap (hs[·]?)).length<=m;omega
 ·intro i j hi
  have eW:(live.map (·.1))[i]? = some j:=by simpa using hi
  rw[cU]at eW;obtain⟨⟨j',k⟩,hp,rfl⟩:=ie.mp eW;obtain⟨h1,h,n,h2,h3,h4⟩:=L.uL j' k ((ml _ _).mp (eN hp));refine⟨h,n,?_,h3,fun n' hn=>?_⟩
  ·show((live.map (·.2)).filterMap (hs[·]?))[i]? = some h
   rw[IG lt,cU,hp];exact h2
  ·obtain⟨k',hV⟩:=h4 n' hn
   show _∈(live.map (·.1)).toArray;have:(st m (SetTable.bits h) n').j∈live.map (·.1):=cD.mpr ⟨(_,k'),(ml _ _).mpr hV,rfl⟩
   simpa using this
end HU
namespace HU
open PySem PySem.Spec PyProof.Rows
abbrev TK (P:Program) (w:World) (h:Heap) (ks:List Str) (a:Addr):Prop:=IsTupleKey (strKind P w) h ks a
theorem Ex {vs:List Value} (h:ItemsAre (strKind P w) ks vs):∀v∈vs,∃x t,v = .str x t:=by
 induction h with
 |nil=>intro v hv;cases hv
 |@cons k v' ks vs h1 _ ih =>
  intro v hv;rcases bx.mp hv with rfl|hv
  ·have uN:Value.isStrOf k v=true:=h1
   cases v <;> simp[Value.isStrOf]at uN
   exact⟨_,_,rfl⟩
  ·exact ih v hv
theorem F1 {Q:Bool->Shared->Prop} (hk:TK P w s.heap ks a) (h:Q false s):wpAny (model P w) A (ofAClassStatement 8 (.ref a)) Q E s:=by
 have hT:=hk.typeIs;obtain⟨o,items,n,ho,_,hd,hi⟩:=hk;unfold ofAClassStatement;refine ab (nJ hT ?_)
 dsimp only
 refine ab ?_;refine ai ?_;simp only[Ng,gO,fc];refine ab (MQ ho hd ?_)
 dsimp only
 refine ab ?_;rw[<-Array.forIn_toList];refine wpAny_forIn_list _ (fun rest r s'=>r.1=none/\s'=s /\ ∀v∈rest,∃x t,v=Value.str x t) _ ?_ ?_ _ _ ⟨rfl,rfl,Ex hi⟩
 ·rintro v rest r s' ⟨hr,rfl,iL⟩
  obtain⟨x,t,rfl⟩:=iL v aZ;refine ab ?_;unfold ofAClassStatement;refine ai ?_;simp only[gO,fc];exact ai ⟨rfl,rfl,fun u CA=>iL u (a9 _ CA)⟩
 ·rintro⟨r1,r2⟩ s' ⟨hr,rfl,_⟩
  simp only at hr;subst hr;exact ai h
theorem Qd {Q:Bool->Shared->Prop}{l:List Value} (hk:TK P w s.heap ks a) (hl:∀v∈l,∃rM b,v = .ref b/\TK P w s.heap rM b) (h:Q false s):wpAny (model P w) A (searchCouldBeSeen (.ref a) l) Q E s:=by
 unfold searchCouldBeSeen;refine ab ?_;refine wpAny_forIn_list _ (fun rest r s'=>r.1=none/\s'=s /\ ∀v∈rest,∃rM b,v = .ref b/\TK P w s.heap rM b) _ ?_ ?_ _ _ ⟨rfl,rfl,hl⟩
 ·rintro v rest r s' ⟨hr,rfl,iL⟩
  obtain⟨rM,b,rfl,hb⟩:=iL v aZ;have IH:∀v∈rest,∃rM b,v = .ref b/\TK P w s'.heap rM b:=fun u CA=>iL u (a9 _ CA)
  dsimp only
  split
  ·exact ai ⟨rfl,rfl,IH⟩
  ·refine ab (wpAny_eqIsQuiet_tuple hk ?_)
   simp only[Ng,gO,fc];refine ab (wpAny_eqIsQuiet_tuple hb ?_);simp only[Ng,gO,fc];refine ab (F1 hk ?_);simp only[gO,fc];refine ab (F1 hb ?_);simp only[gO,fc];exact ai ⟨rfl,rfl,IH⟩
 ·rintro⟨r1,r2⟩ s' ⟨hr,rfl,_⟩
  simp only at hr;subst hr;exact ai h
theorem NS {Q:Bool->Shared->Prop} (hk:TK P w s.heap ks a) (ne:ks ≠ []) (h:Q false s):wpAny (model P w) A (hashByValue 8 (.ref a)) Q E s:=by
 have hT:=hk.typeIs;obtain⟨o,items,n,ho,_,hd,hi⟩:=hk;unfold hashByValue;refine ab (MJ hT F.slot_tuple_hash.lookup ?_)
 dsimp only
 refine ab (MQ ho hd ?_);simp only[Option.getD_some];refine ab ?_;rw[<-Array.forIn_toList];obtain⟨v,vs,e⟩:∃v vs,items.toList=v::vs:=by
  cases hh:items.toList with
  |nil=>rw[hh]at hi;cases hi;exact absurd rfl ne
  |cons v vs=>exact⟨v,vs,rfl⟩
 obtain⟨x,t,rfl⟩:=Ex hi v (by rw[e];exact aZ)
 rw[e,List.forIn_cons];refine ab (ab ?_);unfold hashByValue;refine ai ?_;simp only[Bool.not_false,gN];refine ai ?_;refine ai ?_;exact ai h
abbrev bC (P:Program) (w:World) (ks:List Str):Int:=tupleKeyHash (strKind P w) ks
abbrev enc (P:Program) (w:World) (p:List Str×Addr):Int×Value:=(bC P w p.1,.ref p.2)
def hA (es:Array (Int×Value)) (i:Nat):Int:=(es[i]?.map (·.1)).getD 0
def jB (P:Program) (w:World) (h:Heap) (a:Addr) (xs:List (List Str×Addr)):Prop:=
 ∃o es ep t,h.get? a=some o/\o.ExactSet/\o.data = .set es ep t/\es.toList=xs.map (enc P w)/\Tab t (xs.map fun p=>bC P w p.1)/\xs.length * 5 < t.mask * 3/\t.led=(!w.params.followText "set-order")/\(xs ≠ []->t.plain=false)
section
variable{z:Addr}{xs:List (List Str×Addr)}{es:Array (Int×Value)}{t:SetTable}{k:List Str}{e:Nat}
theorem wN (he:es.toList=xs.map (enc P w)):es[i]? = xs[i]?.map (enc P w):=by rw[<-pN,he,cU]
theorem N6 (hu:A.units < cLine) (ho:s.heap.get? a=some o) (hd:o.data = .set es ep t) (iz:es.toList=xs.map (enc P w)) (T:Tab t (xs.map fun p=>bC P w p.1)) (all:∀p∈xs,TK P w s.heap p.1 p.2) (hk:TK P w s.heap k z)
  (he:(st t.mask (SetTable.bits (bC P w k)) e).j ∉ t.place) (hl:∀n,n < e->(st t.mask (SetTable.bits (bC P w k)) n).j∈t.place) (CB:e < 10 * SetTable.turns t.mask):∀ (d n fuel:Nat) (A9:Option SetTable.Probe) (Q:SetFound->Shared->Prop),
  n+d=e->d < fuel->A9.getD (t.probeStart (bC P w k))=st t.mask (SetTable.bits (bC P w k)) n ->
  (∀ (n' i:Nat) (p:List Str×Addr),n<=n'->n' < e->t.place[i]? = some (st t.mask (SetTable.bits (bC P w k)) n').j->xs[i]? = some p->p.1=k->Q (.there none) s) ->
  ((∀ (n' i:Nat) (p:List Str×Addr),n<=n'->n' < e->t.place[i]? = some (st t.mask (SetTable.bits (bC P w k)) n').j->xs[i]? = some p->p.1≠k)->Q (.free (st t.mask (SetTable.bits (bC P w k)) e).j false) s) ->
  wpAny (model P w) A (setSearchFrom a (.ref z) (bC P w k) true fuel A9) Q E s:=by
 intro d
 induction d using Nat.strongRecOn with
 |ind d ih =>
  intro n fuel A9 Q hn hf lR qf qn;obtain⟨fuel,rfl⟩:∃f,fuel=f+1:=⟨fuel - 1,by omega⟩
  have lx:es.size=(xs.map fun p=>bC P w p.1).length:=by rw[<-d7,iz,ar,ar]
  have fits:t.fits es.size=true:=by rw[lx];exact T.fits
  unfold setSearchFrom;refine ab (gP ho hd fits ?_)
  dsimp only
  rw[aj (by rw[T.way];exact cz),lR]
  have met:=HW (hashAt:=hA es) T he hl d n (10 * SetTable.turns t.mask) hn (by omega)
  rcases met with⟨m1,m2⟩|⟨n',i,h1,h2,h3,h4,h5,h6⟩
  ·have WU:t.probe (hA es) (bC P w k) (st t.mask (SetTable.bits (bC P w k)) n)=_:=m1
   erw[WU]
   dsimp only
   refine ai (qn fun n' i p a1 a2 a3 a4 a5=>?_);have:=m2 n' i a1 a2 a3;unfold hA at this;rw[wN iz,a4]at this;exact this (by show bC P w p.1=_;rw[a5])
  ·have WV:t.probe (hA es) (bC P w k) (st t.mask (SetTable.bits (bC P w k)) n)=_:=h5
   erw[WV]
   dsimp only
   have il:i < es.size:=by
    have:=(mh.mp h3).1;have sz:=T.sz;omega
   obtain⟨p,hp⟩:∃p,xs[i]? = some p:=by
    have:i < xs.length:=by rw[lx,ar]at il;exact il
    exact⟨xs[i],aQ this⟩
   have CC:es[i]? = some (enc P w p):=by rw[wN iz,hp];rfl
   have lX:=all p (eN hp);have Jw:wpAny (model P w) A (do
     let equal <- holding [Value.ref p.2] (eqBool (.ref p.2) (.ref z))
     let (es',_,t') <- setState a
     if true && equal then return .there none
     let some same:=t'.sameMemory t.moves t.mask|unsupported "set.changed-during-lookup:is-the-new-block-at-the-old-address"
     let qC <- match (if same then t'.slot (st t.mask (SetTable.bits (bC P w k)) n').j else .empty) with
      |.live i'=>match es'[i']? with
       |some (_,y')=>do pure (if <- isSame y' (.ref p.2) then some i' else none)
       |none=>pure none
      |_=>pure none
     match qC with
     |none=>rule "set.search.anew"; setSearchFrom a (.ref z) (bC P w k) true fuel none
     |some i'=>if equal then return .there (some i') else setSearchFrom a (.ref z) (bC P w k) true fuel (some (st t.mask (SetTable.bits (bC P w k)) (n'+1)))) Q E s:=by
    refine ab (fb (wpAny_eqBool_tuple hu lX hk ?_));refine ab (gP ho hd fits ?_)
    dsimp only
    by_cases c:p.1=k
    ·rw[b4 c]
     simp only[yY,gN];exact ai (qf n' i p h1 h2 h3 hp c)
    ·rw[cm c]
     have sm:t.sameMemory t.moves t.mask=some true:=by unfold SetTable.sameMemory;rw[ax (yK _)]
     simp only[DJ,gO,fc,sm,gN,sI T.ri h3,CC];refine ab (wpAny_isSame_ref_self (ab (ai ?_)));simp only[gN];refine ih (e - (n'+1)) (by omega) (n'+1) fuel (some (st t.mask (SetTable.bits (bC P w k)) (n'+1))) Q (by omega) (by omega) rfl (fun gI i' p' a1 a2 a3 a4 a5=>qf gI i' p' (by omega) a2 a3 a4 a5) (fun no=>qn fun gI i' p' a1 a2 a3 a4=>?_)
     by_cases b1:gI < n'
     ·have:=h6 gI i' a1 b1 a3
      unfold hA at this;rw[wN iz,a4]at this;intro a5;exact this (by show bC P w p'.1=_;rw[a5])
     ·by_cases b2:gI=n'
      ·subst b2
       have s1:=sI T.ri h3;have s2:=sI T.ri a3;rw[s1]at s2;injection s2 with s3;subst s3;rw[hp]at a4;injection a4 with a4;subst a4;exact c
      ·exact no gI i' p' (by omega) a2 a3 a4
   split
   ·refine ab (Qd hk (fun v hv=>?_) ?_)
    ·obtain⟨q,hq,rfl⟩:=cD.mp hv
     have xO:q∈es.toList:=by
      have:=yC.mp hq;rw[yC];exact(Array.mem_filter.mp this).1
     rw[iz]at xO;obtain⟨p',fj,rfl⟩:=cD.mp xO;exact⟨p'.1,p'.2,rfl,all p' fj⟩
    ·simp only[gO,fc,CC]
     exact Jw
   ·simp only[CC]
    exact Jw
theorem Qe (e:h.get? a=some { cls:= .type "set",dict:=none,data:= .set #[] 0 (.fresh 0 0 (!w.params.followText "set-order")) }):jB P w h a []:=
 ⟨_,#[],0,_,e,⟨rfl,rfl,rfl⟩,rfl,rfl,⟨.inl rfl,rfl,fun i k hk=>absurd hk (mq _),fun j hj=>(by simp[SetTable.fresh]at hj),rfl,aN _,fun i j h=>(by simp[SetTable.fresh]at h)⟩,(by decide:0 * 5 < 7 * 3),rfl,fun z=>absurd rfl z⟩
theorem jB.keep (x:jB P w h a xs) (q:∀o,h.get? a=some o->h'.get? a=some o):jB P w h' a xs:=let ⟨o,es,ep,t,e,r⟩:=x;⟨o,es,ep,t,q o e,r⟩
theorem F4 {es':Array (Int×Value)}{t':SetTable} (ho:h.get? a=some o) (hd:o.data = .set es ep t):(h.update a (Obj.putSet es' t')).get? a=some { o with data:= .set es' (ep+1) t' }:=by
 have q:=yH (Obj.putSet es' t') ho (by rw[putSet_of es' t' hd];rfl)
 rw[putSet_of es' t' hd]at q;exact q
theorem NT {x:Addr}{es:Array (Int×Value)}:byScan (.ref x) es=false:=rfl
theorem Qf {Q:Bool->Shared->Prop} (hu:A.units < cLine) (S:jB P w s.heap a xs) (hk:TK P w s.heap k z) (ne:k ≠ []) (all:∀p∈xs,TK P w s.heap p.1 p.2) (room:xs.length<=62)
  (h:∀h' rN,Heap.SameBut a s.heap h'->jB P w h' a rN->(rN=xs/\k∈xs.map (·.1)\/rN.Perm ((k,z)::xs)/\k ∉ xs.map (·.1)) -> ∀b,Q b { s with heap:=h' }) :
  wpAny (model P w) A (setAddHashed a (.ref z) (bC P w k)) Q E s:=by
 obtain⟨o,es,ep,t,ho,hex,hd,iz,T,cg,led,pl⟩:=id S;have lx:es.size=(xs.map fun p=>bC P w p.1).length:=by rw[<-d7,iz,ar,ar]
 have fits:t.fits es.size=true:=by rw[lx];exact T.fits
 obtain⟨e,CB,he,hl⟩:=T.free (bC P w k);have mm:t.mask<=127:=by rcases T.ms with q|q|q <;> omega
 unfold setAddHashed setAddHashedIn;refine fb (ab (gP ho hd fits ?_))
 dsimp only
 rw[NT];simp only[gO,fc];unfold setSearch;refine ab (N6 hu ho hd iz T all hk he hl CB e 0 100000 none _ (by omega) (by unfold SetTable.turns at CB;omega) rfl ?_ ?_)
 ·intro n' i p _ _ h3 h4 h5
  dsimp only
  refine ai ?_;have e0:s={ s with heap:=s.heap }:=by cases s;rfl
  rw[e0];exact h s.heap xs (Heap.SameBut.refl a s.heap) S (.inl ⟨rfl,cD.mpr ⟨p,eN h4,h5⟩⟩) _
 ·intro no
  have nk:k ∉ xs.map (·.1):=fun q=>by
   obtain⟨p,hp,oN⟩:=cD.mp q;obtain⟨i,hi⟩:=List.getElem?_of_mem hp;have il:i < t.place.size:=by
    have:=(cZ.mp hi).1;rw[T.sz,ar];exact this
   obtain⟨h',n,a1,a2,a3⟩:=T.reach i t.place[i] (jT il);rw[cU,hi]at a1;have Kz:bC P w p.1=h':=by simpa using a1
   rw[oN]at Kz;subst Kz;have ne':n < e:=by
    apply D1
    intro c
    by_cases c2:n=e
    ·subst c2;exact he (by rw[a2];exact Array.getElem_mem _)
    ·exact he (a3 e (by omega))
   exact no n i p (aN _) ne' (by rw[a2];exact jT il) hi oN
  dsimp only
  refine ab (gP ho hd fits ?_)
  dsimp only
  have pt:t.put (st t.mask (SetTable.bits (bC P w k)) e).j=({ t with place:=SetTable.insertAt t.place (SetTable.below t.place (st t.mask (SetTable.bits (bC P w k)) e).j) (st t.mask (SetTable.bits (bC P w k)) e).j },SetTable.below t.place (st t.mask (SetTable.bits (bC P w k)) e).j):=by
   unfold SetTable.put
   dsimp only
   have hb:SetTable.has t.dummies (st t.mask (SetTable.bits (bC P w k)) e).j=false:=by rw[T.du];unfold SetTable.has;simp
   rw[hb];simp
  rw[pt]
  dsimp only
  have Vb:xs.length+1<=t.mask:=by rcases T.ms with q|q|q <;> omega
  have put:∀u:SetTable,u.mask=t.mask->u.dummies = #[]->u.place=_->_:=fun u=>T.put (u:=u) he hl (by rw[ar];exact Vb)
  generalize (st t.mask (SetTable.bits (bC P w k)) e).j=j at put ⊢;generalize SetTable.below t.place j=pp at put ⊢;have tail:∀u:SetTable,u.mask=t.mask->u.dummies = #[]->u.place=SetTable.insertAt t.place pp j->u.led=t.led->u.plain=false->wpAny (model P w) A (do
    storeSet a (SetTable.insertAt es pp (bC P w k,.ref z)) u
    if !false && u.tooFull then setRelay a (SetTable.grown (es.size+1))
    return true) Q E s:=by
   intro u um ud up ul KA;obtain⟨T1,xP⟩:=put u um ud up;rw[ar]at xP;have qM:(SetTable.insertAt es pp (bC P w k,.ref z)).toList=(f9 xs pp (k,z)).map (enc P w):=by rw[FY,iz,FZ];rfl
   have l1:(f9 xs pp (k,z)).length=xs.length+1:=(sJ _ _ _).length_eq;have xQ:Tab u ((f9 xs pp (k,z)).map fun p=>bC P w p.1):=by rw[FZ];exact T1
   have i4:(SetTable.insertAt es pp (bC P w k,.ref z)).size=xs.length+1:=by rw[<-d7,qM,ar,l1]
   refine ab (wpAny_storeSet_of ho hd ?_ (by rw[i4,aA];omega))
   have rO:=F4 (es':=SetTable.insertAt es pp (bC P w k,.ref z)) (t':=u) ho hd;have CD:=vm s.heap a (Obj.putSet (SetTable.insertAt es pp (bC P w k,.ref z)) u);generalize s.heap.update a (Obj.putSet (SetTable.insertAt es pp (bC P w k,.ref z)) u)=h1 at rO CD ⊢;generalize SetTable.insertAt es pp (bC P w k,.ref z)=uO at qM i4 rO ⊢;have CF:=sJ xs pp (k,z);generalize f9 xs pp (k,z)=l6 at qM l1 xQ CF;have tf:u.tooFull=decide ((xs.length+1) * 5 ≥ t.mask * 3):=by
    unfold SetTable.tooFull SetTable.fill;have:=xQ.sz;rw[ar,l1]at this;rw[ud,this,um];simp
   rw[tf]
   by_cases c:(xs.length+1) * 5 ≥ t.mask * 3
   ·rw[b4 c]
    simp only[Bool.not_false,yY,gN];refine ab ?_;unfold setRelay;refine ab (gP rO rfl (by rw[i4];have:=xQ.fits;rw[ar,l1]at this;exact this) ?_)
    dsimp only
    have KC:es.size=xs.length:=by rw[lx,ar]
    obtain⟨m',em,KD,TQ⟩:∃m',SetTable.sizeAbove (SetTable.grown (es.size+1))=m'+1/\Ms m'/\(xs.length+1) * 5 < m' * 3:=by
     rcases T.ms with q|q|q
     ·have:xs.length=4:=by omega
      exact⟨31,by rw[KC,this];rfl,.inr (.inl rfl),by omega⟩
     ·have:xs.length=18:=by omega
      exact⟨127,by rw[KC,this];rfl,.inr (.inr rfl),by omega⟩
     ·omega
    have mm':m'<=127:=by rcases KD with q|q|q <;> omega
    rw[em,aj (by rw[aA];omega)]
    unfold SetTable.relaid;rw[em,Nat.add_sub_cancel];have Vc:uO.map (·.1)=(l6.map fun p=>bC P w p.1).toArray:=by
     apply yM.mp
     rw[Array.toList_map,qM,lg];rfl
    rw[Vc];obtain⟨t2,ord,e2,e3,e4,e5,pm,T2⟩:=Qc (fi:=u.finger) (mo:=u.movedTo m') (led:=u.led) (pl:=u.plain) (hs:=l6.map fun p=>bC P w p.1) KD (by rw[ar,l1];omega)
    rw[e2];refine ab ?_;show wpAny _ _ (do
     let es':=ord.filterMap (uO[·]?)
     if es'.size != uO.size then unsupported "internal:set-table-lost-an-element"
     pure (es',t2)) _ _ _
    dsimp only
    have Jx:(ord.filterMap (uO[·]?)).toList=(ord.toList.filterMap (l6[·]?)).map (enc P w):=by
     rw[Array.toList_filterMap,List.map_filterMap]
     congr 1
     funext i
     exact wN qM
    have rP:(ord.toList.filterMap (l6[·]?)).Perm l6:=by
     have:=pm.filterMap (l6[·]?);rw[ar,all_range]at this;exact this
    have rQ:(ord.filterMap (uO[·]?)).size=xs.length+1:=by rw[<-d7,Jx,ar,rP.length_eq,l1]
    rw[aj (by rw[rQ,i4];simp)]
    refine ai ?_;have WW:Tab t2 ((ord.toList.filterMap (l6[·]?)).map fun p=>bC P w p.1):=by
     rw[List.map_filterMap];have:(fun i:Nat=>(l6[i]?).map fun p=>bC P w p.1)=fun i:Nat=>(l6.map fun p=>bC P w p.1)[i]?:=by funext i;rw[cU]
     rw[this];exact T2
    refine wpAny_storeSet_of rO rfl ?_ (by rw[rQ,aA];omega)
    refine ai (h _ _ (CD.trans (vm _ a _)) ⟨_,_,_,t2,F4 rO rfl,hex,rfl,Jx,WW,by rw[rP.length_eq,l1,e5];exact TQ,by rw[e3,ul,led],fun _=>by rw[e4,KA]⟩ (.inr ⟨rP.trans CF,nk⟩) _)
   ·rw[cm c]
    simp only[DJ,gO,fc];exact ai (h _ _ CD ⟨_,_,_,u,rO,hex,rfl,qM,xQ,by rw[l1,um];omega,by rw[ul,led],fun _=>KA⟩ (.inr ⟨CF,nk⟩) _)
  by_cases hp:t.plain=true
  ·rw[ax hp]
   refine ab (NS hk ne ?_);simp only[gO,fc];exact tail _ rfl T.du rfl rfl rfl
  ·rw[aj hp]
   refine ab (ai ?_);simp only[gN];exact tail _ rfl T.du rfl rfl (by simpa using hp)
end
end HU
namespace HU
open PySem PySem.Spec PyProof.Rows HS
def lM (P:Program) (w:World) (S:Addr) (n:Nat) (val:Nat->List Str) (adr:Nat->Addr) (i:Nat) (h:Heap):Prop:=
 ∃xs,jB P w h S xs/\(xs.map (·.1)).Nodup/\xs.length<=i/\(∀p∈xs,∃j,j < i/\p=(val j,adr j))/\(∀j,j < i->val j∈xs.map (·.1)) /\ ∀j,j < n->TK P w h (val j) (adr j)
theorem Am (t:TK P w h ks a) (q:∀o,h.get? a=some o->h'.get? a=some o):TK P w h' ks a:=let ⟨o,it,n,ho,r⟩:=t;⟨o,it,n,q _ ho,r⟩
section
variable{wr:List Addr}{G:Array GenState->Array GenState->Prop}{Pv:Nat->Value->Prop}{St:Nat->Shared->Prop}{val:Nat->List Str}{adr:Nat->Addr}
theorem lM.keep {S:Addr} (M:lM P w S n val adr i h) (hs:∀o,h.get? S=some o->h'.get? S=some o) (ha:∀j,j < n -> ∀o,h.get? (adr j)=some o->h'.get? (adr j)=some o):lM P w S n val adr i h':=
 let ⟨xs,y,a,b,c,d,e⟩:=M;⟨xs,y.keep hs,a,b,c,d,fun j hj=>Am (e j hj) (ha j hj)⟩
theorem O3 (hu:A.units+3 < cLine) (W:WalksS P w A.in1 I fp wr G n Pv St) (S:Addr) (hS:S ∉ fp) (aS:∀j,j < n->adr j≠S) (aW:∀j,j < n->adr j ∉ wr) (ne:∀j,j < n->val j ≠ []) (hv:∀i v,Pv i v->v = .ref (adr i)) (hb:n<=63) :
  ∀ (k i:Nat) (s:Shared),n - i=k->i<=n->St i s->lM P w S n val adr i s.heap->(∀s',Moved (S::wr) G s s'->lM P w S n val adr n s'.heap->R (.ok (.ret .none)) s') ->
   codeAny (model P w) A (.builtin "set.update.loop" ⟨[.ref S,.ref I],[]⟩) R s:=by
 have hw:S ∉ wr:=fun z=>hS (W.sub _ z);have up:∀b∈wr,b∈S::wr:=fun b z=>a9 _ z;intro k
 induction k with
 |zero =>
  intro i s hk hi st x q;obtain rfl:i=n:=by omega
  refine mi F.entry_set_update_loop ?_;rw[nO Nh _];show wpAny _ A.in1 (pyNext (.ref I) >>= _) _ _ s;refine ab (W.done s _ _ st fun s' m=>?_);show wpAny _ A.in1 (ret Value.none) _ _ s';exact ai (q s' (m.mono up) (x.keep (fun o e=>m.heap S o hw e) fun j hj o e=>m.heap _ o (aW j hj) e))
 |succ k ih =>
  intro i s hk hi st x q;have lt:i < n:=by omega
  refine mi F.entry_set_update_loop ?_;rw[nO Nh _];show wpAny _ A.in1 (pyNext (.ref I) >>= _) _ _ s;refine ab (W.item i s _ _ lt st fun v s' hP fH m=>?_);obtain rfl:=hv i v hP;have x':lM P w S n val adr i s'.heap:=x.keep (fun o e=>m.heap S o hw e) fun j hj o e=>m.heap _ o (aW j hj) e;show wpAny _ A.in1 (holding [Value.ref (adr i)] (setAdd S (.ref (adr i))) >>= _) _ _ s';refine ab (fb ?_);unfold setAdd;obtain⟨xs,y,nd,cg,c1,c2,c3⟩:=x';have tk:=c3 i lt;have i5:A.in1.units < cLine:=by show A.units+1 < cLine;omega
  refine fb (ab (wpAny_pyHash_tuple (knd:=PySem.strKind P w) i5 tk ?_));refine Qf (s:={ s' with toks:=s'.toks+((val i).length+1) }) i5 y tk (ne i lt) (fun p hp=>?_) (by omega) fun h' rN sb y' alt b=>?_
  ·obtain⟨j,hj,rfl⟩:=c1 p hp
   exact c3 j (by omega)
  have x2:lM P w S n val adr (i+1) h':=by
   have uP:∀j,j < n->TK P w h' (val j) (adr j):=fun j hj=>Am (c3 j hj) fun o e=>by rw[sb.2 _ (aS j hj)];exact e
   rcases alt with⟨rfl,hm⟩|⟨pm,hm⟩
   ·refine⟨rN,y',nd,by omega,fun p hp=>?_,fun j hj=>?_,uP⟩
    ·obtain⟨j,hj,e⟩:=c1 p hp;exact⟨j,by omega,e⟩
    ·by_cases e:j=i
     ·subst e;exact hm
     ·exact c2 j (by omega)
   ·have rP:=pm.map (·.1)
    refine⟨rN,y',rP.nodup_iff.mpr (iE.mpr ⟨hm,nd⟩),by rw[pm.length_eq,b5];omega,fun p hp=>?_,fun j hj=>?_,uP⟩
    ·rcases bx.mp (pm.mem_iff.mp hp) with rfl|hp
     ·exact⟨i,by omega,rfl⟩
     ·obtain⟨j,hj,e⟩:=c1 p hp;exact⟨j,by omega,e⟩
    ·refine rP.mem_iff.mpr ?_
     by_cases e:j=i
     ·subst e;exact aZ
     ·exact a9 _ (c2 j (by omega))
  refine ai ⟨pP Nh _,ih (i+1) _ (by omega) lt (W.frame _ s' _ _ fH (DU _ _) fun c hc o e=>?_) x2 fun oU WX WY=>?_⟩
  ·rw[sb.2 c (fun z:c=S=>hS (by rw[<-z];exact hc))];exact e
  ·refine q oU (Moved.trans W.gtrans ((m.mono up).then_heap (DU _ _) fun c o hc e=>?_) WX) WY
   rw[sb.2 c (fun z:c=S=>hc (by rw[z];exact aZ))];exact e
end
theorem O4 {Pv:Nat->Value->Prop}{val:Nat->List Str}{adr:Nat->Addr}{Q:Value->Shared->Prop} (hu:A.units+8 < cLine) (hh:A.handled=none) (C:Src P w T l ol n Pv) (hl:s.heap.get? l=some ol) (hv:∀i v,Pv i v->v = .ref (adr i)) (hb:n<=63)
  (ne:∀j,j < n->val j ≠ []) (uP:∀j,j < n->TK P w s.heap (val j) (adr j))
  (h:∀ (h':Heap) (tk:Nat),lM P w s.heap.objs.size n val adr n h'->(∀b o,b < s.heap.objs.size->s.heap.get? b=some o->h'.get? b=some o)->Q (.ref s.heap.objs.size) { s with heap:=h',toks:=tk }) :
  wpAny (model P w) A (call (.type "set") [.ref l]) Q E s:=by
 obtain⟨c0,tl0,aci⟩:=pS.mro;have acd:=pS.made;have acj:=pS.sub;refine DG (codeAny_of_tree ?_);show wpAny _ _ (callAny (.type "set") _) _ _ _;refine ai ⟨Code.quiet_builtin _ (by decide +kernel),mi F.entry_type_call ?_⟩;rw[Around.under_plain (weight_type_call_type "set" [.ref l] []) rfl]
 have f1:=pS.notType;have f2:=pS.canCreate;have f3:=F.typeCall_set_1 (.ref l)
 repeat (any_goals (first|assumption|wp_step))
 refine yD (N2 (.ref l) (E:=E) (Q₁:=fun obj bu=>obj = .ref s.heap.objs.size/\bu={ s with heap:=s.heap.push (ki w) }) ⟨rfl,rfl⟩) fun r bu hr=>?_;cases r with
 |error e=>exact hr
 |ok fl =>
  cases fl with
  |ret obj =>
   obtain⟨rfl,rfl⟩:=hr;have gS:(s.heap.push (ki w)).get? s.heap.objs.size=some (ki w):=cw _ rfl;have tS:Shared.TypeIs { s with heap:=s.heap.push (ki w) } (.ref s.heap.objs.size) "set" :=⟨_,gS,rfl⟩;have i1:=pS.init.lookup;have i2:=pS.init.bind (.ref s.heap.objs.size)
   repeat (any_goals (first|assumption|wp_step))
   refine yD (codeAny_call_builtin (R:=wants (fun r jz=>r = .none /\ ∃h' tk,jz={ s with heap:=h',toks:=tk }/\lM P w s.heap.objs.size n val adr n h'/\(∀b o,b < s.heap.objs.size->s.heap.get? b=some o->h'.get? b=some o)) E) pS.init.plain F.entry_set_init (check_set_init_1 tS ?_)) fun Vd jz Ba=>?_
   ·have fQ:(s.heap.push (ki w)).get? l=some ol:=bc _ hl
    obtain⟨Ve,ace,acf,acb⟩:=ol;have Vf:Ve = .type T:=C.cls;subst Vf;have ns:=C.ns;have nf:=C.nf;have nd:=C.nd;unfold Builtin.«set.__init__» noKeywords Builtin.Frozenset.updateFrom;generalize WZ:pyIter=PI
    wp_walk
    subst WZ;obtain⟨oI,St,it,W,st⟩:=C.iter A.in1.in1.in1 { s with heap:=s.heap.push (ki w) } (by simp[hh]) fQ
    refine wpAny_of_in1 (it _ _ ?_);refine ab (MZ ?_);have lS:l < s.heap.objs.size:=bw hl;have nS:s.heap.objs.size ∉ [(s.heap.push (ki w)).objs.size,l]:=by
     rw[nN];simp only[bx,gy,jU,jV,not_or];exact⟨bZ (yZ _),so lS⟩
    have al:∀j,j < n->adr j < s.heap.objs.size:=fun j hj=>let ⟨_,_,_,e,_⟩:=uP j hj;bw e;refine O3 (val:=val) (adr:=adr) ?_ W.toS s.heap.objs.size nS (fun j hj=>bZ (al j hj)) (fun j hj=>?_) ne hv hb (n - 0) 0 _ (by omega) (aN _) st ⟨[],Qe (bc _ gS),yQ,aN _,fun p hp=>(by cases hp),fun j hj=>absurd hj (mq _),fun j hj=>Am (uP j hj) fun o e=>bc _ (bc _ e)⟩ ?_
    ·show _ < cLine
     simp only[Around.in1];omega
    ·rw[gy]
     show adr j≠(s.heap.push (ki w)).objs.size;rw[nN];exact bZ (pQ (al j hj))
    intro s' m x';obtain⟨h',g',d',uC,Cc⟩:=s';have e1:g'=s.gens:=m.gens;have e2:d'=s.drawn:=m.drawn;have e3:Cc=s.os:=m.os;subst e1;subst e2;subst e3;show wpAny _ _ _ _ _ _;refine ai ?_;show wpAny _ _ (ret Value.none) _ _ _;refine ai ⟨rfl,h',uC,rfl,x',fun b o hb e=>?_⟩;have b1:b≠s.heap.objs.size:=bZ hb;have b2:b≠(s.heap.push (ki w)).objs.size:=by rw[nN];exact bZ (pQ hb)
    exact m.heap b o (by simp only[bx,gy,jU,jV,not_or];exact⟨b1,b2⟩) (bc _ (bc _ e))
   ·cases Vd with
    |error e=>exact Ba
    |ok TR =>
     cases TR with
     |ret r =>
      obtain⟨rfl,h',tk,rfl,x',k'⟩:=Ba
      repeat (any_goals (first|assumption|wp_step))
      exact h _ _ x' k'
     |_=>exact Ba.elim
  |_=>exact hr.elim
end HU
namespace HU
open PySem PySem.Spec PyProof.Rows HS PySem.W
def jC (w:World) (h:Heap) (a:Addr) (us:List Value):Prop:=
 ∃o es ep t,h.get? a=some o/\o.ExactSet/\o.data = .set es ep t/\es.toList.map (·.2)=us/\es.size < scanBound/\t.fits es.size=true/\t.led=(!w.params.followText "set-order")/\(es.size≠0->t.plain=false)
theorem jC.keep (x:jC w h a us) (k:∀o,h.get? a=some o->h'.get? a=some o):jC w h' a us:=let ⟨o,es,ep,t,e,r⟩:=x;⟨o,es,ep,t,k o e,r⟩
theorem jC.lt (x:jC w h a us):a < h.objs.size:=let ⟨_,_,_,_,e,_⟩:=x;bw e
theorem jC.typeIs (x:jC w s.heap a us):s.TypeIs (.ref a) "set" :=let ⟨o,_,_,_,e,c,_⟩:=x;⟨o,e,c.1⟩
theorem jB.elems {xs:List (List Str×Addr)} (y:jB P w h a xs) (cg:xs.length<=63):jC w h a (xs.map fun p=>Value.ref p.2):=by
 obtain⟨o,es,ep,t,ho,hex,hd,iz,T,_,hl,hp⟩:=y;have sz:es.size=xs.length:=by rw[<-d7,iz,ar]
 refine⟨o,es,ep,t,ho,hex,hd,by rw[iz,lg];rfl,by rw[sz];unfold scanBound;omega,by have:=T.fits;rw[ar]at this;rw[sz];exact this,hl,fun z=>hp fun e=>z (by rw[sz,e];rfl)⟩
theorem O5 {Q:Value->Shared->Prop} (hS:jC w s.heap a us)
  (q:∀ (h':Heap) (d':Drawn) (I:Addr) (fp:List Addr) (vs:List Value),BB P w a vs I fp h'->vs.Perm us->(∀b∈fp,b=a\/s.heap.objs.size<=b)->I∈fp->(∀b∈fp,b < h'.objs.size)->s.heap.objs.size<=I->(∀b ob,s.heap.get? b=some ob->h'.get? b=some ob)->Q (.ref I) { s with heap:=h',drawn:=d' }) :
  wpAny (model P w) A (pyIter (.ref a)) Q E s:=by
 have hT:=hS.typeIs;obtain⟨o,es,ep,t,ho,hex,hd,rfl,hb,hf,Vg,g9⟩:=hS;have uQ:=bw ho;refine DR hT F.slot_set_iter (jS F.slot_set_iter hT NO ?_ (F.args_set_iter_1 _));unfold Builtin.«frozenset.__iter__» Builtin.Frozenset.slot0 Builtin.Frozenset.sizeOf setEntries setDrawn setsByText;refine ab (ab (ai (ai ?_)));refine ab (ab (ab (gP ho hd hf (ai (ai ?_)))))
 dsimp only
 refine ab (ab (gP ho hd hf ?_));dsimp only;refine ab (ab (mj (ai (ai ?_))));show wpAny _ _ (if (!w.params.followText "set-order" && (!t.plain && decide (es.size > 1)))=true then _ else _) _ _ s
 by_cases big:(!w.params.followText "set-order" && (!t.plain && decide (es.size > 1)))=true
 ·
  rw[ax big];refine ab (G1 es.size (List.range es.size) (by simp) fun ps d oY=>?_)
  have pl:ps.length=es.size:=by rw[oY.length_eq];simp
  refine ab (iD ?_ (by show(ps.map _).toArray.size<=sizeLine;rw[bY,ar,pl];exact fits_of_scanBound hb))
  refine ab ?_;unfold setEpoch;refine ab (gP (bc _ ho) hd hf (ai ?_))
  dsimp only
  refine ab (iD (ai ⟨_,rfl,"set_iterator",_,⟨_,cw _ rfl,rfl⟩,pY.lookup,?_⟩));have ku:∀p∈ps,p < es.size:=fun p hp=>gx.mp (oY.mem_iff.mp hp)
  let vs:List Value:=ps.map fun p=>(es.toList.map (·.2)).getD p .none
  have pv:vs.Perm (es.toList.map (·.2)):=by
   have e1:(List.range es.size).map (fun p=>(es.toList.map (·.2)).getD p .none)=es.toList.map (·.2):=by
    apply yS
    ·simp
    ·intro n h1 h2
     have:n < es.size:=by simpa using h1
     simp[this]
   rw[<-e1];exact oY.map _
  have vl:vs.length=es.size:=by show(ps.map _).length=_;rw[ar,pl]
  have i4:(s.heap.push { cls:= .type "tuple",data:= .seq (ps.map fun(i:Nat)=>rawInt i).toArray }).objs.size=s.heap.objs.size+1:=nN ..;refine q _ d _ [_,a,s.heap.objs.size] vs (PV (o:=o) (op:={ cls:= .type "tuple",data:= .seq (ps.map fun(i:Nat)=>rawInt i).toArray }) (ps:=ps) (by rw[i4];exact bZ (pQ uQ)) (by rw[i4];exact bZ (yZ _)) hd hf vl.symm (by rw[vl,pl]) (bc _ (bc _ ho)) ?_ (bc _ (cw _ rfl)) rfl ?_) pv ?_ aZ ?_ (by rw[i4];omega) fun b ob e=>bc _ (bc _ e)
  ·rw[cw _ rfl,vl];rfl
  ·intro i v hv
   have eX:(ps.map fun p=>(es.toList.map (·.2)).getD p .none)[i]? = some v:=hv;rw[cU]at eX;obtain⟨p,hp,ev⟩:=ie.mp eX;have bV:=ku p (eN hp);refine⟨p,es[p].1,hp,?_⟩;rw[jT bV]
   congr 1
   rw[<-ev];simp[bV]
  ·intro b eG
   simp only[bx,jU,jV]at eG;rcases eG with rfl|rfl|rfl
   ·exact .inr (by rw[i4];omega)
   ·exact .inl rfl
   ·exact .inr (ay _)
  ·intro b eG
   simp only[bx,jU,jV]at eG;rw[nN,i4];rcases eG with z|z|z
   ·rw[z,i4];exact yZ _
   ·rw[z];exact pQ (pQ uQ)
   ·rw[z];exact pQ (yZ _)
 ·rw[aj big]
  refine ab (ai ?_);refine ab ?_;unfold setEpoch;refine ab (gP ho hd hf (ai ?_))
  dsimp only
  refine ab (iD (ai ⟨_,rfl,"set_iterator",_,⟨_,cw _ rfl,rfl⟩,pY.lookup,?_⟩));have KG:∀b ∈ [s.heap.objs.size,a],b=a\/s.heap.objs.size<=b:=fun b eG=>by
   simp only[bx,jU,jV]at eG;rcases eG with rfl|rfl
   ·exact .inr (ay _)
   ·exact .inl rfl
  have KH:∀ (oo:Obj),∀b ∈ [s.heap.objs.size,a],b < (s.heap.push oo).objs.size:=fun oo b eG=>by
   simp only[bx,jU,jV]at eG;rw[nN];rcases eG with z|z
   ·rw[z];exact yZ _
   ·rw[z];exact pQ uQ
  cases bt:w.params.followText "set-order" with
  |true =>
   have sv:∀next:Nat->Nat,((pickOrder next es).toList.map (·.2)).Perm (es.toList.map (·.2)):=fun next=>by
    unfold pickOrder;have:=E4 next es.size 0 es.toList #[] (by simp)
    exact(by simpa using this:(pickOrder.go next es.size 0 es.toList #[]).toList.Perm es.toList).map _
   have vl:=(sv (w.params.setOrder a ep)).length_eq;rw[ar,d7,ar,d7]at vl;refine q _ s.drawn _ [_,a] ((pickOrder (w.params.setOrder a ep) es).toList.map (·.2)) (FR (o:=o) (fun _=>0) (bZ uQ) hd hf (by rw[ar,d7,vl]) rfl (bc _ ho) ?_ ?_ ?_) (sv _) KG aZ (KH _) (ay _) fun b ob e=>bc _ e
   ·rw[cw _ rfl,ar,d7,vl];rfl
   ·intro A s i v E' Q' ha hv hq
    unfold setNext setsByText;refine ab (gP ha hd hf ?_);dsimp only;refine ab (ab (mj (ai ?_)));show wpAny _ _ (if w.params.followText "set-order" = true then _ else _) _ _ _;rw[ax bt,aj (by simp)]
    unfold setWalk setsByText;refine ab (ab (gP ha hd hf ?_));dsimp only;refine ab (ab (mj (ai ?_)));show wpAny _ _ (if w.params.followText "set-order" = true then _ else _) _ _ _;rw[ax bt];refine ab (mj (ai (ai ?_)));show Q' (((pickOrder (w.params.setOrder a ep) es)[i]?).map fun e=>(e.2,0)) s;rw[cU,pN]at hv;obtain⟨e,he,ev⟩:=ie.mp hv;rw[he];show Q' (some (e.2,0)) s;rw[ev];exact hq
   ·intro A s E' Q' ha hq
    unfold setNext setsByText;refine ab (gP ha hd hf ?_);dsimp only;refine ab (ab (mj (ai ?_)));show wpAny _ _ (if w.params.followText "set-order" = true then _ else _) _ _ _;rw[ax bt,aj (by simp)]
    unfold setWalk setsByText;refine ab (ab (gP ha hd hf ?_));dsimp only;refine ab (ab (mj (ai ?_)));show wpAny _ _ (if w.params.followText "set-order" = true then _ else _) _ _ _;rw[ax bt];refine ab (mj (ai (ai ?_)));show Q' (((pickOrder (w.params.setOrder a ep) es)[((pickOrder (w.params.setOrder a ep) es).toList.map (·.2)).length]?).map fun e=>(e.2,0)) s;rw[yX (by simp)]
    exact hq
  |false =>
   have cg:es.size<=1:=by
    rw[bt]at big
    by_cases z:es.size<=1
    ·exact z
    ·have hp:=g9 (by omega)
     rw[hp]at big;exact absurd (by simp;omega) big
   have led:t.led=true:=by rw[Vg,bt];rfl
   have uy:t.place.size=es.size:=by
    have:=hf;simp only[SetTable.fits,eS,nM,ig]at this;exact this.1
   refine q _ s.drawn _ [_,a] (es.toList.map (·.2)) (FR (o:=o) (fun i=>if i=0 then 0 else t.place.getD 0 0+1) (bZ uQ) hd hf (by rw[ar,d7]) rfl (bc _ ho) ?_ ?_ ?_) (ja _) KG aZ (KH _) (ay _) fun b ob e=>bc _ e
   ·rw[cw _ rfl,ar,d7];rfl
   ·intro A s i v E' Q' ha hv hq
    rw[cU,pN]at hv;obtain⟨e,he,ev⟩:=ie.mp hv;have hi:i < es.size:=(mh.mp he).1;have i0:i=0:=by omega
    subst i0;obtain⟨pl,xR⟩:∃j,t.place = #[j]:=by
     have:t.place.size=1:=by omega
     exact⟨t.place[0],by
      apply Array.ext
      ·simp[this]
      ·intro k h1 h2;have:k=0:=by omega
       subst this;simp⟩
    unfold setNext setsByText;refine ab (gP ha hd hf ?_);dsimp only;refine ab (ab (mj (ai ?_)));show wpAny _ _ (if w.params.followText "set-order" = true then _ else _) _ _ _;rw[aj (by rw[bt];exact cz)]
    show wpAny _ _ (if (!t.plain && decide (es.size > 1))=true then _ else _) _ _ _;rw[aj (by simp;omega)]
    show wpAny _ _ ((if (!t.led && !es.isEmpty)=true then unsupported "set:maker-not-led" else pure ()) >>= _) _ _ _;rw[led,aj (by simp)]
    refine ab (ai ?_);rw[xR,ax rfl,E5,aj (by omega),he]
    refine ai ?_;show Q' (some (e.2,pl+1)) s;rw[ev];have:(if 0+1=0 then 0 else t.place.getD 0 0+1)=pl+1:=by rw[xR];rfl
    rw[this]at hq;exact hq
   ·intro A s E' Q' ha hq
    unfold setNext setsByText;refine ab (gP ha hd hf ?_);dsimp only;refine ab (ab (mj (ai ?_)));show wpAny _ _ (if w.params.followText "set-order" = true then _ else _) _ _ _;rw[aj (by rw[bt];exact cz)]
    show wpAny _ _ (if (!t.plain && decide (es.size > 1))=true then _ else _) _ _ _;rw[aj (by simp;omega)]
    show wpAny _ _ ((if (!t.led && !es.isEmpty)=true then unsupported "set:maker-not-led" else pure ()) >>= _) _ _ _;rw[led,aj (by simp)]
    refine ab (ai ?_);have out:es[SetTable.below t.place (if (es.toList.map (·.2)).length=0 then 0 else t.place.getD 0 0+1)]? = none:=by
     rw[ar,d7]
     by_cases z:es.size=0
     ·have:t.place = #[]:=Array.eq_empty_of_size_eq_zero (by omega)
      rw[this,Ov];exact yX (by omega)
     ·have e1:es.size=1:=by omega
      obtain⟨pl,xR⟩:∃j,t.place = #[j]:=by
       have:t.place.size=1:=by omega
       exact⟨t.place[0],by
        apply Array.ext
        ·simp[this]
        ·intro k h1 h2;have:k=0:=by omega
         subst this;simp⟩
      rw[aj z,xR,E5];have : #[pl].getD 0 0=pl:=rfl;rw[this,ax (by omega)]
      exact yX (by omega)
    rw[out];exact ai hq
theorem N7 (hh:A.handled=none) (hS:jC w s.heap a us) (S:Addr) (KI:S≠a) (res:Value) (c₀:Nat) (hL:s.heap.get? S=some { cls:= .type "list",data:= .seq #[] c₀ })
  (hR:∀h' d' tk (vs:List Value) c',(∀b o,b≠S->s.heap.get? b=some o->h'.get? b=some o)->h'.get? S=some { cls:= .type "list",dict:=none,data:= .seq vs.toArray c',slots:= #[] }->vs.Perm us->R (.ok (.ret res)) { s with heap:=h',drawn:=d',toks:=tk }) :
  wpAny (model P w) A.in1 (Builtin.List.listExtendWith (.ref S) (.ref a) res)
   (fun fin s'=>match fin with|.done f=>R (.ok f) s'|.again c'=>c'.quiet=true/\codeAny (model P w) A c' R s') (fun e s'=>R (.error e) s') s:=by
 have hT:=hS.typeIs;have hsz:us.length < scanBound:=by obtain⟨o,es,ep,t,ho,hex,hd,rfl,hb,_⟩:=hS;rw[ar,d7];exact hb
 unfold Builtin.List.listExtendWith;refine ab (nJ (T:= "set") hT ?_);have h1:Builtin.List.listSameRef (.ref S) (.ref a)=false:=by simp[Builtin.List.listSameRef,KI]
 have h2:(Value.type "set" == Value.type "list")=false:=by decide
 have h3:(Value.type "set" == Value.type "tuple")=false:=by decide
 simp only[h1,h2,h3,yG,gO,fc];refine ab (O5 hS fun h' d' I fp vs W v1 f1 f2 f3 f4 k=>?_);obtain⟨St,Wk,st⟩:=W.go;have W1:=Wk A.in1 (by simpa using hh)
 have vl:vs.length=us.length:=v1.length_eq;have KJ:S ∉ fp:=fun z=>by
  rcases f1 S z with e|e
  ·exact KI e
  ·exact absurd (bw hL) (Nat.not_lt.mpr e)
 have Tn:Shared.TypeIs { s with heap:=h',drawn:=d' } (.ref a) "set" :=by
  obtain⟨o,e,c⟩:=hT;exact⟨o,k _ _ e,c⟩
 refine ab (fb (PX Tn ?_));have CG:=k _ _ hL;have key:∀ (h:Heap) (c₁:Nat),St 0 h->(∀b o,b≠S->s.heap.get? b=some o->h.get? b=some o)->h.get? S=some { cls:= .type "list",data:= .seq #[] c₁ } ->
   codeAny (model P w) A (.builtin "list.extend.loop" ⟨[.ref S,.ref I,res],[]⟩) R { s with heap:=h,drawn:=d' }:=by
  intro h c₁ lR hk TU;refine codeAny_extend_loopS W1.toS (by rw[vl];exact fits_of_scanBound hsz) S KJ res vs.length 0 _ #[] c₁ rfl (aN _) lR TU (ItemsOf.nil _) fun s' Jy c' hm W0 BC=>?_
  rw[Moved.eq_with hm];have ev:Jy.toList=vs:=by
   apply List.ext_getElem?
   intro j;rw[pN]
   by_cases hj:j < vs.length
   ·have lZ:j < Jy.size:=by rw[BC.1];exact hj
    rw[jT lZ];exact(BC.2 j _ (jT lZ)).symm
   ·rw[yX (by rw[BC.1];omega),sy (by omega)]
  refine hR s'.heap d' s'.toks vs c' (fun b o hb e=>hm.heap b o (fun qN=>?_) (hk b o hb e)) (by rw[W0,<-ev]) v1
  rcases bx.mp qN with e'|qN
  ·exact hb e'
  ·exact absurd (bw e) (by rw[gy.mp qN];exact Nat.not_lt.mpr f4)
 refine DS (fun _=>?_) (fun _=>ai ⟨pP abQ _,key _ c₀ st (fun b o _ e=>k b o e) CG⟩);refine ab (yA (ab ?_));show wpAny _ _ (updateSeq S (·.push .none) >>= fun _=>updateSeq S (·.pop)) _ _ _;refine ab (wpAny_updateSeq CG rfl ?_);have II:=yH (Obj.mapSeq (·.push Value.none)) CG rfl;refine wpAny_updateSeq (hz:=by seq_fits) II rfl ?_
 have TV:=yH (Obj.mapSeq (·.pop)) II rfl;have KL:∀b o,b≠S->h'.get? b=some o->((h'.update S (Obj.mapSeq (·.push Value.none))).update S (Obj.mapSeq (·.pop))).get? b=some o:=fun b o hb e=>(sx _ _ (bb hb)).trans ((sx _ _ (bb hb)).trans e);exact ai ⟨pP abQ _,key _ _ (W1.frame 0 _ _ st fun b hb o e=>KL b o (fun z=>KJ (z ▸ hb)) e) (fun b o hb e=>KL b o hb (k b o e)) TV⟩
theorem NU {Q:List Value->Shared->Prop} (hh:A.handled=none) (hS:jC w s.heap a us)
  (hQ:∀h' d' tk (vs:List Value),(∀b o,s.heap.get? b=some o->h'.get? b=some o)->vs.Perm us->Q vs { s with heap:=h',drawn:=d',toks:=tk }):wpAny (model P w) A (collect (.ref a)) Q E s:=by
 unfold collect;refine ab (MZ (mi aby ?_));rw[nO abz _];show wpAny _ A.in1 (newList [] >>= fun l=>again (.builtin "list.__iadd__" ⟨[l,.ref a],[]⟩)) _ _ s;refine ab (iD (ai ⟨pP DX _,mi abA ?_⟩));rw[nO DX _];show wpAny _ A.in1 (Builtin.List.listExtendWith (.ref s.heap.objs.size) (.ref a) (.ref s.heap.objs.size)) _ _ _;have hn:s.heap.objs.size≠a:=so hS.lt;refine N7 (R:=fun r s'=>match r with|.ok (.ret v)=>wpAny (model P w) A (match v with|.ref a=>(do match (<- load a).data with|.seq xs _=>pure xs.toList|_=>unsupported "internal:collect")|_=>unsupported "internal:collect") Q E s'|.ok _=>False|.error e=>E e s') (s:={ s with heap:=s.heap.push { cls:= .type "list",data:= .seq ([]:List Value).toArray } }) hh (hS.keep fun o e=>bc _ e) _ hn _ 0 (cw _ rfl) fun h' d' tk vs c' k hl v1=>?_;show wpAny _ A (load s.heap.objs.size >>= _) _ _ _;refine ab (sr hl (ai ?_));exact hQ h' d' tk vs (fun b o e=>k b o (bZ (bw e)) (bc _ e)) v1
end HU
namespace L2
open PySem PySem.W PySem.Calls PyProof.Rows HS
def eK {α:Type} (n:Nat) (φ:α->Prop):KasT α->Prop
 |.ret a=>φ a
 |.ask i j k=>i < n/\j < n /\ ∀b,eK n φ (k b)
section
variable{α β:Type}
theorem eK.bind {φ:α->Prop}{ψ:β->Prop}{f:α->KasT β} (g:∀a,φ a->eK n ψ (f a)):∀ {t:KasT α},eK n φ t->eK n ψ (t.bind f)
 |.ret a,h=>g a h
 |.ask _ _ _,h=>⟨h.1,h.2.1,fun b=>eK.bind g (h.2.2 b)⟩
theorem eK.wp {φ:α->Prop}{cmp:Nat->Nat->(Bool->Shared->Prop)->Shared->Prop}{Q:α->Shared->Prop}{s:Shared} (hc:∀i j C,i < n->j < n->(∀b,C b s)->cmp i j C s):∀ {t:KasT α},eK n φ t->(∀a,φ a->Q a s)->t.kasWp cmp Q s
 |.ret a,h,q=>q a h
 |.ask _ _ _,h,q=>hc _ _ _ h.1 h.2.1 fun b=>eK.wp hc (h.2.2 b) q
theorem An {p:Array Nat} (h:Pm n p) (h0:0 < n):∀f m,eK n (fun _=>True) (kas_asc p f m)
 |0,m=>trivial
 |f+1,m=>⟨h.lt h0 _,h.lt h0 _,fun b=>by
  cases b with
  |true=>exact trivial
  |false=>exact An h h0 f (m+1)⟩
theorem vT (h0:0 < n):∀f (p:Array Nat) m e,Pm n p->eK n (fun r:Array Nat×Nat×Nat=>Pm n r.1) (kas_desc f p m e)
 |0,p,m,e,h=>h
 |f+1,p,m,e,h=>⟨h.lt h0 _,h.lt h0 _,fun b=>by
  cases b with
  |true =>
   show eK n _ (if e > 0 then _ else _);split
   ·exact vT h0 f _ _ _ (h.rev _ _)
   ·exact vT h0 f _ _ _ h
  |false =>
   refine⟨h.lt h0 _,h.lt h0 _,fun b=>?_⟩;cases b with
   |true=>exact h
   |false=>exact vT h0 f _ _ _ h⟩
theorem Fe {p:Array Nat} (h:Pm n p) (h0:0 < n) (m k:Nat):eK n (fun r:Nat×Array Nat=>Pm n r.2) (kas_tail3 m k p):=
 eK.bind (φ:=fun _=>True) (ψ:=fun r:Nat×Array Nat=>Pm n r.2) (f:=fun z=>.ret (z,kas_rev p 0 m)) (fun r _=>h.rev _ _) (An (h.rev 0 m) h0 _ _)
theorem F5 {p:Array Nat} (h:Pm n p) (h0:0 < n) (m k:Nat):eK n (fun r:Nat×Array Nat=>Pm n r.2) (kas_descPart m k p):=
 (vT h0 (k - (m+1)) p (m+1) 0 h).bind fun r hr=>by
  show eK n _ (if r.2.2 > 0 then _ else _);split
  ·exact Fe (hr.rev _ _) h0 _ _
  ·exact Fe hr h0 _ _
theorem O6 {p:Array Nat} (h0:0 < n) (h:Pm n p):eK n (fun r:Nat×Array Nat=>Pm n r.2) (kas_count n p):=
 (An h h0 (n - 1) 1).bind fun m _=>by
  show eK n _ (if (m==n)=true then _ else if m > 1 then _ else _);split
  ·exact h
  ·split
   ·refine⟨h.lt h0 _,h.lt h0 _,fun b=>?_⟩
    cases b with
    |true=>exact h
    |false=>exact F5 (h.rev _ _) h0 _ _
   ·exact F5 h h0 _ _
theorem Ff {p:Array Nat} (h:Pm n p) (h0:0 < n) (k:Nat):∀f l r,eK n (fun _=>True) (kas_place p k f l r)
 |0,l,r=>trivial
 |f+1,l,r=>by
  show eK n _ (if l ≥ r then _ else _);split
  ·exact trivial
  ·exact⟨h.lt h0 _,h.lt h0 _,fun b=>by cases b <;> exact Ff h h0 k f _ _⟩
theorem G9 (h0:0 < n):∀f (p:Array Nat) k,Pm n p->eK n (fun r:Array Nat=>Pm n r) (kas_bin f p k)
 |0,p,k,h=>h
 |f+1,p,k,h=>(Ff h h0 k _ _ _).bind fun l _=>G9 h0 f _ _ (h.Cn _ _)
theorem Qg (h0:0 < n):eK n (fun r:Array Nat=>Pm n r) (kas_sort n):=
 (O6 h0 (ja _)).bind fun r hr=>by
  show eK n _ (if r.1 < n then _ else _);split
  ·exact G9 h0 _ _ _ hr
  ·exact hr
end
theorem G' {b fin:Bool}{Q:Bool->Shared->Prop}:∀ {as bs:List Str}{us vs:List Value} (i:Nat),StrsAre us as->StrsAre vs bs->as.length=bs.length->(∀c,Q c s)->KatLex P w A b fin Q ((us ++ []).zip (vs ++ [])) i s
 |[],[],_,_,_,.nil,.nil,_,q=>kat_nil (q _)
 |[],_::_,_,_,_,_,_,h,_=>by simp at h
 |_::_,[],_,_,_,_,_,h,_=>by simp at h
 |a::as,b'::bs,_,_,i,.cons _ t h1,.cons _ u h2,hl,q=>by
  refine kat_cons (DA ?_)
  by_cases e:a=b'
  ·rw[b4 e]
   exact kat_yes (G' (i+1) h1 h2 (by simpa using hl) q)
  ·rw[cm e]
   exact kat_no (E8 (q _))
def Jz (H:Hp) (m:Nat) (its:List Value) (ys:List V) (kvs:List (List Str×List V)):Prop:=Vals ys its/\gU H m ys kvs/\ys.length<=63/\((kvs.map (·.1)).Nodup \/ ∀p∈kvs,p.2 = [])
theorem En {σ:List (Option V)}{mm:Nat} (I:Inv X pins σ H s) (WK:1<=mm) (hh:X.A.handled=none) (G:List V->List (List Str×List V)->Prop)
  (col:∀ (A:Around) (E:Value->Shared->Prop) (Q':List Value->Shared->Prop),A.handled=none->(∀its ys kvs h' d' tk,Jz H mm its ys kvs->G ys kvs->(∀b o,s.heap.get? b=some o->h'.get? b=some o)->Q' its { s with heap:=h',drawn:=d',toks:=tk })->wpAny (model X.prog X.w) A (collect (.ref p)) Q' E s)
  (q:∀its ys kvs,Jz H mm its ys kvs->G ys kvs -> ∀D bG f7,H D=none->bG.Perm ys->gU H mm bG f7->f7.Perm kvs->((kvs.map (·.1)).Nodup->(f7.map (·.1)).Pairwise (fun a b=>de a b=true))->Q (.ref D) (upd H D (.lst bG))) :
  wpAny (model X.prog X.w) X.A (call (.builtin "sorted") [.ref p]) (EP X pins σ Q) X.xe s:=by
 refine MS kind_sorted plain_sorted entry_sorted (args_sorted1 _) ?_;unfold Builtin.«sorted»;refine ab (m:=checkCount "sorted" 1 1 _) (ai (ab (col _ _ _ (by simpa using hh) fun its ys kvs h1 d1 t1 g gg k1=>?_)))
 obtain⟨rv,pr,lW,alt⟩:=id g;have hz:ys.length<=sizeLine:=by rw[aA];omega
 have fQ:ys.length=kvs.length:=fk pr;have cY:=rv.length;have at_:∀ (i:Nat),i < its.length -> ∃ (ks:List Str) (a:Addr) (tu ru:List Value),(kvs.map (·.1))[i]? = some ks/\its[i]? = some (.ref a)/\a≠X.env.locals/\IsTup s.heap a (tu++ru).toArray/\StrsAre tu ks/\ks.length=mm/\((∀p∈kvs,p.2 = [])->ru = []):=by
  intro i hi;have eW:i < ys.length:=by omega
  obtain⟨p',fj,a,ey,ha,Cv⟩:=qe pr (show ys[i]? = some ys[i] from aQ eW);obtain⟨u,hu,ru⟩:=rv.get (show ys[i]? = some (V.ref a) by rw[aQ eW,ey])
  cases ru
  obtain⟨i2,r2,t2,_⟩:=I.tuple (ao.of ha);obtain⟨tu,ru,e,st⟩:=zm (H:=H) r2;rw[e]at t2;refine⟨p'.1,a,tu,ru,by rw[cU,fj];rfl,hu,(fun z=>by rw[z,I.free]at ha;cases ha),t2,st,Cv,fun bare=>?_⟩
  have e0:=bare p' (eN fj);have l1:=r2.length;have l2:=PU st;rw[e0,k7,ar,e,eO]at l1;exact DO (by omega)
 obtain⟨m,hm,_⟩:=id I.loc
 let lt:Nat->Nat->Bool:=fun i j=>de ((kvs.map (·.1)).getD i []) ((kvs.map (·.1)).getD j [])
 have kl:(kvs.map (·.1)).length=its.length:=by rw[ar];omega
 have iM:∀i,i < its.length->((kvs.map (·.1)).getD i []).length=mm:=fun i hi=>by
  obtain⟨ks,_,_,_,h1,_,_,_,_,h2,_⟩:=at_ i hi;rw[bX,h1];exact h2
 have o6:(kvs.map (·.1)).Nodup -> ∀i j,i < its.length->j < its.length->i≠j->(kvs.map (·.1)).getD i []≠(kvs.map (·.1)).getD j []:=fun nd i j hi hj b9 e=>b9 ((DV (by omega) nd).mp (by
  rw[bX,bX,aQ (by omega),aQ (by omega)]at e
  rw[aQ (by omega),aQ (by omega)]
  exact d9 some e))
 have O:(kvs.map (·.1)).Nodup->jg its.length lt:=fun nd=>⟨fun i j k hi hj hk h1 h2=>wu ((iM i hi).trans (iM j hj).symm) ((iM j hj).trans (iM k hk).symm) h1 h2,fun i j hi hj b9 f=>Ai ((iM i hi).trans (iM j hj).symm) (o6 nd i j hi hj b9) f⟩;have fin:∀ (h':Heap) (D:Addr) (c:Nat) (pa:Array Nat),(∀b o,b≠X.env.locals->s.heap.get? b=some o->h'.get? b=some o)->h'.Ns X.env.locals m->(∀b o,s.heap.get? b=some o->b≠D)->Pm its.length pa->((kvs.map (·.1)).Nodup->pa.toList.Pairwise fun i j=>lt i j=true) ->
   h'.get? D=some (listOf (pa.toList.map fun i=>its.getD i Value.none).toArray c) -> ∃v H',Inv X pins σ H' { s with heap:=h',drawn:=d1,toks:=t1 }/\RelV v (.ref D)/\Q v H':=by
  intro h' D c pa k jm hD hp gv new;have ku:∀i∈pa.toList,i < its.length:=fun i hi=>gx.mp (hp.mem_iff.mp hi);have py:(pa.toList.map fun i=>ys.getD i V.aD).Perm ys:=ql V.aD (by rw[cY];exact hp)
  have lX:Pm kvs.length pa:=by rw[<-fQ,cY];exact hp
  have pk:(pa.toList.map fun i=>kvs.getD i (([],[]):List Str×List V)).Perm kvs:=ql _ lX;have pp:gU H mm (pa.toList.map fun i=>ys.getD i V.aD) (pa.toList.map fun i=>kvs.getD i ([],[])):=vB fun i hi=>zA pr V.aD ([],[]) i (by have:=ku i hi;omega)
  have ek:(pa.toList.map fun i=>kvs.getD i ([],[])).map (·.1)=pa.toList.map fun i=>(kvs.map (·.1)).getD i []:=by
   rw[lg];refine yV fun i hi=>?_;have:i < kvs.length:=by have:=ku i hi;omega
   show(kvs.getD i ([],[])).1=_;rw[bX,bX,cU,aQ this];rfl
  have rel:Vals (pa.toList.map fun i=>ys.getD i V.aD) (pa.toList.map fun i=>its.getD i Value.none):=vG (fun i=>by
   by_cases hi:i < ys.length
   ·obtain⟨u,hu,ru⟩:=rv.get (show ys[i]? = some ys[i] from aQ hi)
    rw[bX,bX,hu,aQ hi];exact ru
   ·rw[bX,bX,sy (by omega),sy (by omega)];trivial) pa.toList
  obtain⟨hn,I'⟩:=Inv.sorted (t':=t1) I hm jm k hD new rel (by rw[py.length_eq];exact hz)
  refine⟨.ref D,_,I'.draw d1,rfl,q its ys kvs g gg D _ _ hn py pp pk fun nd=>?_⟩;rw[ek,vo];exact gv nd
 refine ab (yT ?_ (by rw[aA];omega))
 have o7:(h1.push (seqObj "list" its.toArray 0)).get? h1.objs.size=some (seqObj "list" its.toArray 0):=cw _ rfl;have hD:∀b o,s.heap.get? b=some o->b≠h1.objs.size:=fun b o e=>bZ (bw (k1 b o e));refine ab (fb (jS slot_list_sort ⟨_,o7,rfl⟩ entry_list_sort ?_ (args_list_sort _)));have keep:∀b o,s.heap.get? b=some o->(h1.push (seqObj "list" its.toArray 0)).get? b=some o:=fun b o e=>bc _ (k1 b o e)
 by_cases h2:its.length < 2
 ·refine zy o7 h2 fun c g0 kg new=>⟨_,rfl,ai ⟨_,rfl,?_⟩⟩
  refine fin g0 _ c (List.range its.length).toArray (fun b o _ e=>kg b o (hD b o e) (keep b o e)) (hm.at' fun o e=>kg _ o (hD _ o e) (keep _ o e)) hD (ja _) (fun _=>?_) ?_
  ·show(List.range its.length).Pairwise _
   have:its.length=0\/its.length=1:=by omega
   rcases this with z|z <;> rw[z]
   ·exact List.Pairwise.nil
   ·exact MX _ _
  ·have:(List.range its.length).map (fun i=>its.getD i Value.none)=its:=by
    apply yS
    ·simp
    ·intro i h1 h2;simp[List.getD,h2]
   show g0.get? h1.objs.size=some (listOf ((List.range its.length).map fun i=>its.getD i Value.none).toArray c);rw[this];exact new
 ·have h2:2<=its.length:=by omega
  obtain⟨g0,uF,hX⟩:∃g0:Heap,g0.objs.size=0 /\ ∀b,g0.get? b=none:=⟨{ s.heap with objs:= #[] },rfl,fun b=>DB (aN _)⟩;have F:Fr g0 X.env.locals s.heap m:=⟨hm,fun b o e=>(by rw[hX]at e;cases e),by rw[uF];exact aN _⟩
  have N:=zJ (g:=g0) (L:=X.env.locals) (h:=s.heap);have Cw:∃o,s.heap.get? X.env.locals=some o:=let ⟨o,_,_,e,_⟩:=hm;⟨o,e⟩;obtain⟨oL,eL⟩:=Cw;refine kat_list_sort (s:={ s with heap:=h1.push (seqObj "list" its.toArray 0),drawn:=d1,toks:=t1 }) (F.kept keep) (N.grown keep) o7 (bb (hD _ _ eL)) (hX _) (fun p hp=>hD p.1 p.2 (nQ hp).2.2) h2 (by omega) fun e1 h' F' N'=>?_
  have kp:∀b o,b≠X.env.locals->s.heap.get? b=some o->h'.get? b=some o:=fun b o n e=>(N' (b,o) (a9 _ (mw n (hX b) e))).1;have tk:∀ {a:Addr}{zs:Array Value},a≠X.env.locals->IsTup s.heap a zs->IsTup h' a zs:=fun n ⟨o,ho,r⟩=>⟨o,kp _ o n ho,r⟩;have ft:∀ (vs:List Value),(∀v∈vs,∃a tu ru ks,v=Value.ref a/\IsTup h' a (tu++ru).toArray/\StrsAre tu ks/\ks.length=mm) -> ∃fs,fs.length=vs.length/\KatTups h' vs fs /\ ∀f∈fs,∃k t,f=Value.str k t:=by
   intro vs
   induction vs with
   |nil=>intro _;exact⟨[],rfl,KatTups.nil,fun f hf=>(by cases hf)⟩
   |cons v vs ih =>
    intro hv;obtain⟨fs,f1,f2,f3⟩:=ih fun v' h'=>hv v' (a9 _ h');obtain⟨a,tu,ru,ks,rfl,⟨o,ho,hc,n,hd⟩,st,o8⟩:=hv v aZ;cases st with
    |nil=>simp at o8;omega
    |cons k t r =>
     refine⟨.str k t::fs,by rw[b5,b5,f1],KatTups.cons ho hc hd (by simp) f2,fun f hf=>?_⟩
     rcases bx.mp hf with z|z
     ·exact⟨k,t,z⟩
     ·exact f3 f z
  obtain⟨fs,Ks,oZ,jj⟩:=ft its fun v hv=>by
   obtain⟨i,hi,rfl⟩:=yO hv;obtain⟨ks,a,tu,ru,_,g2,g3,g4,g5,g6,_⟩:=at_ i hi;rw[aQ hi]at g2;exact⟨a,tu,ru,ks,e7 g2,tk g3 g4,g5,g6⟩
  refine kat_kind (T:= .type "str") oZ (by omega) (fun f hf=>?_) (by decide) ?_
  ·obtain⟨k,t,rfl⟩:=jj f hf
   exact Looks.of_pure rfl
  ·by_cases nd:(kvs.map (·.1)).Nodup
   ·refine(E7 (O nd) h2).wp (fun i j C hi hj b9 hC=>?_) fun pa hp=>?_
    ·obtain⟨k,a,tu,ru,g1,g2,g3,g4,g5,g6,_⟩:=at_ i hi
     obtain⟨k',a',Kt,xJ,o3,lY,kx,o4,uG,uH,_⟩:=at_ j hj;unfold kas_ask;rw[bX,bX,g2,lY];have ei:(kvs.map (·.1)).getD i []=k:=by rw[bX,g1];rfl
     have ej:(kvs.map (·.1)).getD j []=k':=by rw[bX,o3];rfl
     have el:lt i j=de k k':=by show de ((kvs.map (·.1)).getD i []) ((kvs.map (·.1)).getD j [])=_;rw[ei,ej]
     have ne:=o6 nd i j hi hj b9;rw[ei,ej]at ne;rw[el]at hC;obtain⟨ox,hx,_,nx,dx⟩:=tk g3 g4;obtain⟨oy,hy,_,ny,dy⟩:=tk kx o4;exact kat_lt hx dx hy dy (zB 0 g5 uG (g6.trans uH.symm) ne hC)
    ·refine DW F' N' (UpdF.head fun p hp=>hD p.1 p.2 (nQ hp).2.2) fun nu c o5 jM=>⟨_,rfl,ai ⟨_,rfl,fin nu _ c pa (fun b o n e=>(jM (b,o) (a9 _ (mw n (hX b) e))).1) o5.ns hD hp.1 (fun _=>AO hp.1.size hp.2) (jM _ aZ).1⟩⟩
   ·have bare:=alt.resolve_left nd
    refine(Qg (n:=its.length) (by omega)).wp (fun i j C hi hj hC=>?_) fun pa hp=>?_
    ·obtain⟨k,a,tu,ru,g1,g2,g3,g4,g5,g6,g7⟩:=at_ i hi
     obtain⟨k',a',Kt,xJ,o3,lY,kx,o4,uG,uH,W2⟩:=at_ j hj;obtain rfl:=g7 bare;obtain rfl:=W2 bare;unfold kas_ask;rw[bX,bX,g2,lY];obtain⟨ox,hx,_,nx,dx⟩:=tk g3 g4;obtain⟨oy,hy,_,ny,dy⟩:=tk kx o4;exact kat_lt hx dx hy dy (G' 0 g5 uG (g6.trans uH.symm) hC)
    ·refine DW F' N' (UpdF.head fun p hp=>hD p.1 p.2 (nQ hp).2.2) fun nu c o5 jM=>⟨_,rfl,ai ⟨_,rfl,fin nu _ c pa (fun b o n e=>(jM (b,o) (a9 _ (mw n (hX b) e))).1) o5.ns hD hp (fun z=>absurd z nd) (jM _ aZ).1⟩⟩
end L2
namespace L2
open PySem PySem.Spec PySem.Calls PyProof.Rows PySem.W HS HU
def eU (H:Hp) (m:Nat) (vs:List V) (aJ:List (List Str)):Prop:=gU H m vs (aJ.map fun k=>(k,[]))
def m5 (P:Program) (w:World) (a:Addr) (xs:List (List Str×Addr)):HO:= .ext fun h=>xs.length<=63/\(xs.map (·.1)).Nodup/\jB P w h a xs
theorem QV {xs:List (List Str×Addr)} (cg:xs.length<=63) (nd:(xs.map (·.1)).Nodup) (x:jB P w h a xs):ba P w H h a (m5 P w a xs):=
 ⟨⟨cg,nd,x⟩,(let ⟨o,_,_,_,e,_⟩:=x;⟨o,e⟩),fun _ _ q k=>⟨q.1,q.2.1,q.2.2.keep k⟩⟩
theorem Qh {vs:List Value} (h:StrsAre vs ks):ItemsAre (PySem.strKind P w) ks vs:=by
 induction h with
 |nil=>exact .nil
 |cons y t r ih=>exact .cons (by show Value.isStrOf y (.str y t)=true;simp[Value.isStrOf]) ih
theorem eU.at (h:eU H m vs aJ) (hi:i < vs.length):∃ks a,aJ[i]? = some ks/\vs[i]? = some (V.ref a)/\H a=some (.tup (ks.map V.str))/\ks.length=m:=by
 obtain⟨p,hp,a,ey,ha,hl⟩:=qe h (show vs[i]? = some vs[i] from aQ hi);rw[cU]at hp;obtain⟨k,hk,rfl⟩:=ie.mp hp;exact⟨k,a,hk,by rw[aQ hi,ey],by rw[ha,k7],hl⟩
theorem eU.length (h:eU H m vs aJ):vs.length=aJ.length:=by have:=fk h;rw[ar]at this;exact this
theorem zS:∀ {kvs:List (List Str×List V)},(∀p∈kvs,p.2 = [])->(kvs.map (·.1)).map (fun k=>(k,([]:List V)))=kvs
 |[],_=>rfl
 |p::kvs,h=>by
  have e:=h p aZ;rw[cn,cn,zS fun q hq=>h q (a9 _ hq)]
  congr 1
  rw[<-e]
theorem Inv.tk {σ:List (Option V)} (I:Inv X pins σ H s) (h:H a=some (.tup (ks.map V.str))):TK X.prog X.w s.heap ks a:=by
 obtain⟨its,r,⟨o,ho,hc,n,hd⟩,_⟩:=I.tuple (ao.of h);exact⟨o,_,n,ho,hc,hd,Qh (zj r)⟩
theorem Fg (hu:X.A.units+64 < cLine) (hc:X.calm=true):dq X (.type "set") (fun vs H Q=>∃ (p:Addr) (ys:List V) (aJ:List (List Str)) (m:Nat),vs = [.ref p]/\(ag X.K H p ys\/ao X.K H p ys)/\eU H m ys aJ/\1<=m/\ys.length<=63 /\
  ∀a xs,H a=none->(xs.map (·.1)).Nodup->(∀y,y∈xs.map (·.1) ↔ y∈aJ)->(∀p∈xs,H p.2=some (.tup (p.1.map V.str))/\p.1.length=m)->Q (.ref a) (upd H a (m5 X.prog X.w a xs))):=by
 intro pins s σ H vs us Q I r h;obtain⟨p,ys,aJ,mm,rfl,hq,tv,m1,lW,q⟩:=h;obtain⟨u,rfl,rx⟩:=vals1 r;cases rx
 have fin:∀ (its:List Value) {T:String}{ol:Obj},Vals ys its->Src X.prog X.w T p ol its.toArray.size (fun i v=>its.toArray[i]? = some v)->s.heap.get? p=some ol->wpAny (model X.prog X.w) X.A (call (.type "set") [.ref p]) (EP X pins σ Q) X.xe s:=fun its {T ol} rv C hp=>by
  have hlen:ys.length=its.length:=rv.length;have kl:=tv.length;have all:∀j,j < ys.length -> ∃a,ys[j]? = some (V.ref a)/\its[j]? = some (.ref a)/\H a=some (.tup ((aJ.getD j []).map V.str))/\(aJ.getD j []).length=mm:=fun j hj=>by
   obtain⟨ks,a,h1,h2,h3,h4⟩:=tv.at hj;obtain⟨u,hu,ru⟩:=rv.get h2;cases ru
   have e:aJ.getD j []=ks:=by rw[bX,h1];rfl
   exact⟨a,h2,hu,by rw[e];exact h3,by rw[e];exact h4⟩
  let adr:Nat->Addr:=fun j=>match its[j]? with|some (.ref a)=>a|_=>0
  have ad:∀j a,its[j]? = some (.ref a)->adr j=a:=fun j a e=>by show(match its[j]? with|some (.ref a)=>a|_=>0)=a;rw[e]
  refine O4 (val:=fun j=>aJ.getD j []) (adr:=adr) (by omega) (I.ok.hd hc) C hp (fun i v hv=>?_) (by rw[bY];omega) (fun j hj=>?_) (fun j hj=>?_) fun h' tk x k=>?_
  ·have eX:its[i]? = some v:=by simpa using hv
   obtain⟨a,_,h2,_⟩:=all i (by have:=(cZ.mp eX).1;omega)
   rw[eX]at h2;injection h2 with h2;rw[ad i a (by rw[eX,h2]),h2]
  ·obtain⟨a,_,_,_,h4⟩:=all j (by rw[bY]at hj;omega)
   intro z;have z':aJ.getD j [] = []:=z;rw[z']at h4;simp at h4;omega
  ·obtain⟨a,_,h2,h3,_⟩:=all j (by rw[bY]at hj;omega)
   rw[ad j a h2];exact I.tk h3
  ·obtain⟨xs,y,nd,cg,c1,c2,c3⟩:=x
   rw[bY]at cg c1 c2;have kp:∀b o,s.heap.get? b=some o->h'.get? b=some o:=fun b o e=>k b o (bw e) e;refine⟨.ref s.heap.objs.size,_,I.laid (t':=tk) kp (ay _) (QV (by omega) nd y),rfl,q _ _ (I.aq.fresh (ay _)) nd (fun y=>⟨fun hy=>?_,fun hy=>?_⟩) fun p hp=>?_⟩
   ·obtain⟨p,hp,rfl⟩:=cD.mp hy
    obtain⟨j,hj,rfl⟩:=c1 p hp;show aJ.getD j []∈aJ;rw[show aJ.getD j []=aJ[j]'(by omega) by simp[show j < aJ.length by omega]]
    exact fV _
   ·obtain⟨j,hj,e⟩:=Nd.mp hy
    have:aJ.getD j []∈xs.map (·.1):=c2 j (by omega)
    rw[show aJ.getD j []=y by simp[hj,e]]at this
    exact this
   ·obtain⟨j,hj,rfl⟩:=c1 p hp
    obtain⟨a,_,h2,h3,h4⟩:=all j (by omega)
    show H (adr j)=some (.tup ((aJ.getD j []).map V.str))/\(aJ.getD j []).length=mm;rw[ad j a h2];exact⟨h3,h4⟩
 rcases hq with hq|hq
 ·obtain⟨its,r',pl,hz⟩:=I.list hq
  obtain⟨o,ho,gE,n,hd⟩:=pl.isList;exact fin its r' (src_list gE ⟨n,hd⟩) ho
 ·obtain⟨its,r',pl,hz⟩:=I.tuple hq
  obtain⟨o,ho,gE,n,hd⟩:=pl;exact fin its r' (QK gE ⟨n,hd⟩) ho
theorem NV:dq X (.builtin "len") (fun vs H Q=>∃ (a:Addr) (xs:List (List Str×Addr)),vs = [.ref a]/\H a=some (m5 X.prog X.w a xs)/\Q (.int xs.length) H):=by
 intro pins s σ H vs us Q I r h;obtain⟨a,xs,rfl,hq,q⟩:=h;obtain⟨u,rfl,rx⟩:=vals1 r;cases rx
 obtain⟨⟨cg,nd,o,es,ep,t,ho,hex,hd,iz,T,_⟩,_⟩:=(show ba X.prog X.w H s.heap a (m5 X.prog X.w a xs) from I.aq a _ hq);have sz:es.size=xs.length:=by rw[<-d7,iz,ar]
 refine call_len_set ho hex hd (by have:=T.fits;rw[ar]at this;rw[sz];exact this) (by omega) ?_
 rw[<-sz]at q;exact⟨.int es.size,H,I.tok _,⟨_,rfl⟩,q⟩
theorem Ny (hc:X.calm=true):dq X (.builtin "sorted") (fun vs H Q=>∃ (a:Addr) (xs:List (List Str×Addr)) (m:Nat),vs = [.ref a]/\H a=some (m5 X.prog X.w a xs)/\(∀p∈xs,H p.2=some (.tup (p.1.map V.str))/\p.1.length=m)/\1<=m /\
  ∀D ys aJ,H D=none->eU H m ys aJ->aJ.Perm (xs.map (·.1))->aJ.Pairwise (fun a b=>de a b=true)->Q (.ref D) (upd H D (.lst ys))):=by
 intro pins s σ H vs us Q I r h;obtain⟨a,xs,m,rfl,hq,al,m1,q⟩:=h;obtain⟨u,rfl,rx⟩:=vals1 r;cases rx
 obtain⟨⟨cg,nd,y⟩,_⟩:=(show ba X.prog X.w H s.heap a (m5 X.prog X.w a xs) from I.aq a _ hq);have key:∀ {vs:List Value}{us:List Value},vs.Perm us -> ∀ {zs:List (List Str×Addr)},us=zs.map (fun p=>Value.ref p.2) -> ∃KN:List (List Str×Addr),KN.Perm zs/\vs=KN.map fun p=>Value.ref p.2:=by
  intro vs us p
  induction p with
  |nil=>intro zs e;exact⟨zs,ja _,e⟩
  |cons x _ ih =>
   intro zs e;cases zs with
   |nil=>cases e
   |cons z zs =>
    rw[cn,List.cons.injEq]at e;obtain⟨z',p',e'⟩:=ih e.2;exact⟨z::z',p'.cons z,by rw[e',e.1];rfl⟩
  |swap x y l =>
   intro zs e
   match zs,e with
   |z1::z2::zs,e =>
    simp only[cn,List.cons.injEq]at e;exact⟨z2::z1::zs,List.Perm.swap _ _ _,by simp[e.1,e.2.1,e.2.2]⟩
  |trans _ _ Co Cp =>
   intro zs e;obtain⟨z1,p1,e1⟩:=Cp e;obtain⟨z2,p2,e2⟩:=Co e1;exact⟨z2,p2.trans p1,e2⟩
 refine En (H:=H) (mm:=m) I m1 (I.ok.hd hc) (fun _ kvs=>(kvs.map (·.1)).Perm (xs.map (·.1)) /\ ∀p∈kvs,p.2 = []) (fun A E Q' hh q'=>NU hh (y.elems cg) fun h' d' tk vs k pv=>?_) ?_
 ·obtain⟨zs,pz,rfl⟩:=key pv rfl
  refine q' _ (zs.map fun p=>V.ref p.2) (zs.map fun p=>(p.1,[])) h' d' tk ⟨?_,?_,by rw[ar,pz.length_eq];exact cg,.inr fun p hp=>?_⟩ ⟨by rw[lg];exact pz.map _,fun p hp=>?_⟩ k
  ·clear q' pz pv
   induction zs with
   |nil=>exact .nil
   |cons z zs ih=>exact .cons rfl ih
  ·have xS:∀p∈zs,H p.2=some (.tup (p.1.map V.str))/\p.1.length=m:=fun p hp=>al p (pz.mem_iff.mp hp)
   clear q' pz pv
   induction zs with
   |nil=>exact .nil
   |cons z zs ih=>exact .cons ⟨z.2,rfl,by rw[k7];exact(xS z aZ).1,(xS z aZ).2⟩ (ih fun p hp=>xS p (a9 _ hp))
  ·obtain⟨z,_,rfl⟩:=cD.mp hp;rfl
  ·obtain⟨z,_,rfl⟩:=cD.mp hp;rfl
 ·intro its ys kvs g gg D bG f7 hD py rH pk gv
  refine q D bG (f7.map (·.1)) hD ?_ ((pk.map _).trans gg.1) (gv (gg.1.nodup_iff.mpr nd));show gU H m bG ((f7.map (·.1)).map fun k=>(k,[]));rw[zS fun p hp=>gg.2 p (pk.mem_iff.mp hp)];exact rH
theorem NJ (hc:X.calm=true):dq X (.builtin "sorted") (fun vs H Q=>∃ (p:Addr) (ys:List V) (aJ:List (List Str)) (m:Nat),vs = [.ref p]/\ag X.K H p ys/\eU H m ys aJ/\1<=m/\ys.length<=63 /\
  ∀D bG iN,H D=none->eU H m bG iN->iN.Perm aJ->(aJ.Nodup->iN.Pairwise (fun a b=>de a b=true))->Q (.ref D) (upd H D (.lst bG))):=by
 intro pins s σ H vs us Q I r h;obtain⟨p,ys,aJ,m,rfl,hq,tv,m1,lW,q⟩:=h;obtain⟨u,rfl,rx⟩:=vals1 r;cases rx
 obtain⟨its,rv,pl,hz⟩:=I.list hq;have hl:=rv.length;have bare:∀p∈aJ.map (fun k=>(k,([]:List V))),p.2 = []:=fun p hp=>by obtain⟨z,_,rfl⟩:=cD.mp hp;rfl
 have e1:(aJ.map (fun k=>(k,([]:List V)))).map (·.1)=aJ:=by rw[lg];exact List.map_id _
 refine En (H:=H) (mm:=m) I m1 (I.ok.hd hc) (fun bG kvs=>bG=ys/\kvs=aJ.map fun k=>(k,[])) (fun A E Q' hh q'=>collect_list pl.isList (q' its ys _ _ s.drawn s.toks ⟨rv,tv,lW,.inr bare⟩ ⟨rfl,rfl⟩ fun b o e=>?_) (by rw[aA];omega)) ?_
 ·exact(sx _ _ (so (bw e))).trans (bc _ e)
 ·rintro its ys kvs g ⟨rfl,rfl⟩ D bG f7 hD py rH pk gv
  refine q D bG (f7.map (·.1)) hD ?_ (by have:=pk.map (·.1);rw[e1]at this;exact this) fun nd=>gv (by rw[e1];exact nd)
  show gU H m bG ((f7.map (·.1)).map fun k=>(k,[]));rw[zS fun p hp=>bare p (pk.mem_iff.mp hp)];exact rH
end L2
namespace L2
open PySem PySem.Spec PyProof.Rows PySem.W HT
theorem tR {rE:Scope} (h:(sc.names.map (·.1)).Nodup/\N'.Nodup/\By N N' cu sc=true /\ ∀p∈sc.names,p.2 = .free->rE.names.lookup p.1=some .cell\/rE.names.lookup p.1=some .free) (a:sc.kind = .function:=by rfl) (b:cu.length=N'.length:=by rfl):cM N rE N' cu sc:=⟨a,h.1,h.2.1,b,f6 h.2.2.1,h.2.2.2⟩
theorem qD {P:List Str} (h:N.Nodup/\(∀x∈P,sc.names.lookup x=some .local\/sc.names.lookup x=some .cell) /\ ∀y∈sc.names,y.2 ≠ .free) (a:sc.kind = .function:=by rfl) (b:sc.isCoroutine=false:=by rfl) (c:sc.isGenerator=false:=by rfl) (d:N.take P.length=P:=by rfl):b6 N P sc:=⟨a,b,c,h.1,d,h.2.1,h.2.2⟩
theorem Vh (h:n+64 < cLine):n+1 < cLine:=by omega
theorem W3:3<=sizeLine:=by rw[aA];decide
theorem rQ:2<=sizeLine:=Nat.le_of_succ_le W3
theorem i4:1<=sizeLine:=Nat.le_of_succ_le rQ
end L2
namespace L2
open PySem PySem.W
abbrev pr (x:Str) (s:Stmt):Str×Stmt:=(x,s)
def xT (K:Frag):List (Str×Stmt)->Prop
 |[]=>True
 |p::r=>(∃f fd,bg K p.1 p.1 p.2 f fd/\nsIn K mainGlobals p.1=some (some (.ref f)))/\xT K r
def BD (K:Frag):List Str->Prop
 |[]=>True
 |x::r=>nsIn K mainGlobals x=some none/\BD K r
theorem TX {p:Str×Stmt}{r:List (Str×Stmt)}{kV:Value} (a:nsIn K mainGlobals p.1=some (some (.ref f)))
  (l:K.lookup f=some ⟨oc,od,.func (fnOf p.1 p.1 (j5 p.2) (cR p.2) (aX p.2) .none kV doc pm an aR ct),km⟩) (c:codeIn K aR p.1=true) (k:keepIn K (.ref f)=true) (g:xT K r):xT K (p::r):=⟨⟨f,_,RO l c k,a⟩,g⟩
theorem wA {p:Str×Stmt} (X:K.In h) (G:h.Ns mainGlobals mg) (d:∃f fd,bg K p.1 p.1 p.2 f fd/\nsIn K mainGlobals p.1=some (some (.ref f))) (ps:List Str)
  (b:∀ (kV doc pm:Value) (an:Option Addr) (aR ct:Value) (us:List Value),us.length=ps.length->bindArgs (fnOf p.1 p.1 (j5 p.2) (cR p.2) (aX p.2) .none kV doc pm an aR ct) ⟨us,[]⟩=pure (ps.zip us)) :
  ∃f fd,bg K p.1 p.1 p.2 f fd/\keepIn K (.ref f)=true/\Binds K fd ps []/\mg p.1=some (.ref f):=by
 obtain⟨f,fd,F,a⟩:=d;exact⟨f,fd,F,F.kp,F.binds b,mg_of X G a⟩
theorem Bb (h:us.length=n+1):∃u r,us=u::r/\r.length=n:=by
 cases us with
 |nil=>cases h
 |cons u r=>exact⟨u,r,rfl,Nat.succ.inj h⟩
theorem BE (h:us.length=2):∃a b,us = [a,b]:=by
 obtain⟨a,r,rfl,h2⟩:=Bb h;obtain⟨b,rfl⟩:=D2.mp h2;exact⟨a,b,rfl⟩
theorem t7 (h:us.length=3):∃a b c,us = [a,b,c]:=by
 obtain⟨a,r,rfl,h2⟩:=Bb h;obtain⟨b,c,rfl⟩:=BE h2;exact⟨a,b,c,rfl⟩
theorem JA (h:us.length=4):∃a b c d,us = [a,b,c,d]:=by
 obtain⟨a,r,rfl,h2⟩:=Bb h;obtain⟨b,c,d,rfl⟩:=t7 h2;exact⟨a,b,c,d,rfl⟩
theorem gm {p:Str×Stmt} (X:K.In h) (G:h.Ns mainGlobals mg) (d:∃f fd,bg K p.1 p.1 p.2 f fd/\nsIn K mainGlobals p.1=some (some (.ref f))) (x1:Str)
  (b:∀ (kV doc pm:Value) (an:Option Addr) (aR ct u1:Value),bindArgs (fnOf p.1 p.1 (j5 p.2) (cR p.2) (aX p.2) .none kV doc pm an aR ct) ⟨[u1],[]⟩=pure ([x1].zip [u1]):=by intros;rfl) :
  ∃f fd,bg K p.1 p.1 p.2 f fd/\keepIn K (.ref f)=true/\Binds K fd [x1] []/\mg p.1=some (.ref f):=wA X G d _ fun kV doc pm an aR ct us h=>by obtain⟨u1,rfl⟩:=D2.mp h;exact b _ _ _ _ _ _ _
theorem jw {p:Str×Stmt} (X:K.In h) (G:h.Ns mainGlobals mg) (d:∃f fd,bg K p.1 p.1 p.2 f fd/\nsIn K mainGlobals p.1=some (some (.ref f))) (x1 x2:Str)
  (b:∀ (kV doc pm:Value) (an:Option Addr) (aR ct u1 u2:Value),bindArgs (fnOf p.1 p.1 (j5 p.2) (cR p.2) (aX p.2) .none kV doc pm an aR ct) ⟨[u1,u2],[]⟩=pure ([x1,x2].zip [u1,u2]):=by intros;rfl) :
  ∃f fd,bg K p.1 p.1 p.2 f fd/\keepIn K (.ref f)=true/\Binds K fd [x1,x2] []/\mg p.1=some (.ref f):=wA X G d _ fun kV doc pm an aR ct us h=>by obtain⟨u1,u2,rfl⟩:=BE h;exact b _ _ _ _ _ _ _ _
theorem qg {p:Str×Stmt} (X:K.In h) (G:h.Ns mainGlobals mg) (d:∃f fd,bg K p.1 p.1 p.2 f fd/\nsIn K mainGlobals p.1=some (some (.ref f))) (x1 x2 x3:Str)
  (b:∀ (kV doc pm:Value) (an:Option Addr) (aR ct u1 u2 u3:Value),bindArgs (fnOf p.1 p.1 (j5 p.2) (cR p.2) (aX p.2) .none kV doc pm an aR ct) ⟨[u1,u2,u3],[]⟩=pure ([x1,x2,x3].zip [u1,u2,u3]):=by intros;rfl) :
  ∃f fd,bg K p.1 p.1 p.2 f fd/\keepIn K (.ref f)=true/\Binds K fd [x1,x2,x3] []/\mg p.1=some (.ref f):=wA X G d _ fun kV doc pm an aR ct us h=>by obtain⟨u1,u2,u3,rfl⟩:=t7 h;exact b _ _ _ _ _ _ _ _ _
theorem QW {p:Str×Stmt} (X:K.In h) (G:h.Ns mainGlobals mg) (d:∃f fd,bg K p.1 p.1 p.2 f fd/\nsIn K mainGlobals p.1=some (some (.ref f))) (x1 x2 x3 x4:Str)
  (b:∀ (kV doc pm:Value) (an:Option Addr) (aR ct u1 u2 u3 u4:Value),bindArgs (fnOf p.1 p.1 (j5 p.2) (cR p.2) (aX p.2) .none kV doc pm an aR ct) ⟨[u1,u2,u3,u4],[]⟩=pure ([x1,x2,x3,x4].zip [u1,u2,u3,u4]):=by intros;rfl) :
  ∃f fd,bg K p.1 p.1 p.2 f fd/\keepIn K (.ref f)=true/\Binds K fd [x1,x2,x3,x4] []/\mg p.1=some (.ref f):=wA X G d _ fun kV doc pm an aR ct us h=>by obtain⟨u1,u2,u3,u4,rfl⟩:=JA h;exact b _ _ _ _ _ _ _ _ _ _
theorem Ha (X:K.In h) (G:h.Ns mainGlobals mg):∀ {xs:List Str},BD K xs -> ∀x∈xs,mg x=none
 |y::r,z,x,m=>by
  rcases bx.mp m with rfl|q
  ·exact mg_none_of X G z.1
  ·exact Ha X G z.2 x q
end L2
namespace L2
open PySem
def gz (k:Nat):List (List Str)->Str->Option (Nat×Str)
 |[],_=>none
 |[]::rest,n=>gz (k+1) rest n
 |(x::r)::rest,n=>if n∈x::r/\x≠n then some (k,x) else gz (k+1) rest n
def lz (all:List (List Str)):List (List Str)->Option Str
 |[]=>none
 |[]::rest=>lz all rest
 |(x::_)::rest=>if (gz 0 all x).isNone then some x else lz all rest
def lu (rest:List (List Str)):Option Str:=lz rest rest
def without (n:Str) (rest:List (List Str)):List (List Str):=rest.map fun r=>r.filter fun y=>!decide (y=n)
def total (rest:List (List Str)):Nat:=(rest.map List.length).sum
def cG:Nat->List (List Str)->Option (List Str)
 |0,_=>some []
 |k+1,rest=>if (rest.any fun r=>!r.isEmpty)=true then (match lu rest with|none=>none|some n=>(cG k (without n rest)).map (n :: ·)) else some []
theorem zf {all:List (List Str)}{n:Str}:∀ {rest:List (List Str)},lz all rest=some n -> ∃r∈rest,r.head? = some n
 |[],h=>by cases h
 |[]::rest,h=>let ⟨r,hr,e⟩:=zf (rest:=rest) h;⟨r,a9 _ hr,e⟩
 |(x::t)::rest,h=>by
  have h:(if (gz 0 all x).isNone then some x else lz all rest)=some n:=h;split at h
  ·cases h;exact⟨n::t,aZ,rfl⟩
  ·obtain⟨r,hr,e⟩:=zf (rest:=rest) h
   exact⟨r,a9 _ hr,e⟩
theorem Ed (n:Str):∀rest:List (List Str),total (without n rest)<=total rest
 |[]=>ay _
 |r::rest=>by
  have h1:=Ed n rest;have h2:=pT (fun y=>!decide (y=n)) r;simp only[total,without,cn,D3]at *;omega
theorem sD {n:Str}:∀ {rest:List (List Str)},(∃r∈rest,n∈r)->total (without n rest) < total rest
 |[],⟨_,h,_⟩=>by simp at h
 |r::rest,⟨q,hq,hn⟩=>by
  have h1:=Ed n rest;have h2:=pT (fun y=>!decide (y=n)) r;rcases bx.mp hq with rfl|hq
  ·have h3:(q.filter fun y=>!decide (y=n)).length < q.length:=by
    exact List.length_filter_lt_length_iff_exists.mpr ⟨n,hn,by simp⟩
   simp only[total,without,cn,D3]at *;omega
  ·have h3:=sD ⟨q,hq,hn⟩
   simp only[total,without,cn,D3]at *;omega
theorem le_total {r:List Str}:∀ {rest:List (List Str)},r∈rest->r.length<=total rest
 |[],h=>by simp at h
 |q::rest,h=>by
  have e:total (q::rest)=q.length+total rest:=by simp[total]
  rcases bx.mp h with rfl|h
  ·omega
  ·have:=le_total h
   omega
theorem Fh (h:(rest.any fun r=>!r.isEmpty)=true):0 < total rest:=by
 obtain⟨r,hr,e⟩:=yR.mp h;have h1:0 < r.length:=by cases r with
  |nil=>simp at e
  |cons _ _=>simp
 have h2:r.length<=total rest:=le_total hr;omega
end L2
namespace eM
open PySem L2 PySem.W
def top (i:Nat):Stmt:=PySem.Challenge.pw_parentlines_k32_books_told_apart.main.body.getD i (.Pass ⟨0,0,0,0⟩)
abbrev zT:Stmt:=top 1
abbrev sS:Stmt:=top 2
abbrev Ao:Stmt:=top 3
abbrev zU:Stmt:=top 7
abbrev sL:Stmt:=top 8
abbrev Ap:Stmt:=top 9
abbrev Aq:Stmt:=top 10
abbrev Ar:Stmt:=top 12
abbrev nZ:Stmt:=top 14
abbrev zD:Stmt:=top 15
abbrev BF:Stmt:=top 17
abbrev tE:Stmt:=top 18
abbrev lA:Stmt:=top 19
abbrev jZ:Stmt:=top 20
abbrev tF:Stmt:=top 21
abbrev zE:Stmt:=top 22
abbrev zV:Stmt:=top 23
abbrev sT:Stmt:=top 24
abbrev As:Stmt:=top 25
abbrev Bc:Stmt:=top 26
abbrev tG:Stmt:=top 27
abbrev qo:Stmt:=top 28
abbrev Bd:Stmt:=top 29
abbrev wO:Stmt:=top 30
abbrev BG:Stmt:=top 31
abbrev Au:Stmt:=top 32
abbrev Av:Stmt:=top 33
abbrev tH:Stmt:=top 34
abbrev Aw:Stmt:=top 35
abbrev AS:Stmt:=top 36
abbrev sU:Stmt:=top 37
abbrev Be:Stmt:=top 38
abbrev sP:Stmt:=top 39
abbrev tI:Stmt:=top 40
abbrev Ax:Stmt:=top 41
abbrev oE:Stmt:=top 42
structure cQ (mg:Str->Option Value):Prop where
 len:mg "len" = none
 max:mg "max" = none
 min:mg "min" = none
 abs:mg "abs" = none
 range:mg "range" = none
 any:mg "any" = none
 all:mg "all" = none
 list:mg "list" = none
 tuple:mg "tuple" = none
 enu:mg "enumerate" = none
theorem xU {y:Str}:eQ ((y::r).map V.str) 0=some (V.str y):=(show eQ ((y::r).map V.str) ((0:Nat):Int)=some (V.str y) from bQ rfl)
theorem aI {o:HO} (hq:H q=none):aw H (upd H q o):=fun b u e=>by rw[ak (a7 e hq)];exact e
def n0 (s:Stmt):List Stmt:=match s with|.For _ _ b _ _=>b|_=>[]
def Fi (s:Stmt):List Stmt:=match s with|.While _ b _ _=>b|_=>[]
def cS (l:List Stmt) (i:Nat):Stmt:=l.getD i (.Pass ⟨0,0,0,0⟩)
def jD (s:Stmt):Expr:=match s with|.Assign _ v _=>v|_=>.Constant .none 0 ⟨0,0,0,0⟩
def oF (s:Stmt):Expr:=match s with|.Return (some v) _=>v|_=>.Constant .none 0 ⟨0,0,0,0⟩
def f' (e:Expr):Expr:=match e with|.Call _ (a::_) _ _=>a|_=>.Constant .none 0 ⟨0,0,0,0⟩
def Vi (e:Expr):Expr:=match e with|.Subscript a _ _=>a|_=>.Constant .none 0 ⟨0,0,0,0⟩
def TY (e:Expr):Expr:=match e with|.ListComp x _ _ _=>x|_=>.Constant .none 0 ⟨0,0,0,0⟩
def dX (e:Expr):Scope:=match e with|.ListComp _ _ sc _=>sc|_=>{ kind:= .function,names:= [],isGenerator:=false,isCoroutine:=false }
theorem boot_tuple:bootBuiltins "tuple" = some (.type "tuple"):=by decide +kernel
theorem boot_list:bootBuiltins "list" = some (.type "list"):=by decide +kernel
structure Small (rows:List (List Str)):Prop where
 cg:rows.length<=10
 short:∀r∈rows,r.length<=20
 nm:∀r∈rows,∀n∈r,Nm n
theorem RY {hs:List Str} (nd:ps.Nodup) (h:∀n∈ps,n∈hs):ps.length<=hs.length:=by
 by_cases z:ps.length<=hs.length
 ·exact z
 ·obtain⟨y,hy,hn⟩:=AN (found:=hs) nd (by omega)
  exact absurd (h y hy) hn
theorem Ey (h:total rest=0):(rest.any fun r=>!r.isEmpty)=false:=by
 cases e:rest.any fun r=>!r.isEmpty with
 |false=>rfl
 |true=>have:=Fh e;omega
theorem sM {n:Str} (h:lu rest=some n):∃r∈rest,n∈r:=by
 obtain⟨r,hr,e⟩:=zf h;exact⟨r,hr,List.mem_of_head? e⟩
theorem Ez:∀ (k:Nat) (r:List (List Str)),total r<=k -> ∀j,total r<=j->cG k r=cG j r
 |0,r,h,j,_=>by
  have z:=Ey (show total r=0 by omega)
  cases j with
  |zero=>rfl
  |succ j=>unfold cG;rw[aj (by rw[z];exact cz)]
 |k+1,r,h,0,hj=>by
  have z:=Ey (show total r=0 by omega)
  unfold cG;rw[aj (by rw[z];exact cz)]
 |k+1,r,h,j+1,hj=>by
  unfold cG;split
  ·cases e:lu r with
   |none=>rfl
   |some n =>
    have:=sD (sM e);show Option.map _ _=Option.map _ _;rw[Ez k (without n r) (by omega) j (by omega)]
  ·rfl
theorem EA {r:List (List Str)} (h:(r.any fun r=>!r.isEmpty)=false):cG (total r) r=some []:=by
 cases total r with
 |zero=>rfl
 |succ k=>unfold cG;rw[aj (by rw[h];exact cz)]
theorem EB {r:List (List Str)} (h:(r.any fun r=>!r.isEmpty)=true) (e:lu r=none):cG (total r) r=none:=by
 have:=Fh h;cases q:total r with
 |zero=>omega
 |succ k=>unfold cG;rw[ax h,e]
theorem EC {r:List (List Str)}{n:Str} (h:(r.any fun r=>!r.isEmpty)=true) (e:lu r=some n):cG (total r) r=(cG (total (without n r)) (without n r)).map (n :: ·):=by
 have:=sD (sM e);cases q:total r with
 |zero=>omega
 |succ k =>
  show(if (r.any fun r=>!r.isEmpty)=true then _ else _)=_;rw[ax h,e];show Option.map _ _=_;rw[Ez k (without n r) (by omega) _ (ay _)]
theorem Ej {env:Env}:∀ {names:List (Str×NameKind)}{x:Str},names.lookup x=some .cell ->
  (names.map fun(n,k)=>if (k==NameKind.free && env.scope.kind == .function && env.kindOf n==some .cell) then (n,NameKind.cell) else (n,k)).lookup x=some .cell
 |[],_,h=>by simp at h
 |(n,k0)::r,x,h=>by
  have ih:=@Ej env r x;show List.lookup x ((if (k0==NameKind.free && env.scope.kind == .function && env.kindOf n==some .cell)=true then (n,NameKind.cell) else (n,k0))::_)=_;rw[ia]at h;cases hx:x==n with
  |true =>
   rw[hx]at h;cases h
   rw[aj (by simp),ia,hx]
  |false =>
   rw[hx]at h
   by_cases hc:(k0==NameKind.free && env.scope.kind == .function && env.kindOf n==some .cell)=true
   ·rw[ax hc,ia,hx];exact ih h
   ·rw[aj hc,ia,hx];exact ih h
theorem nest {CH:Scope} (kind:sc.kind = .function) (keys:(sc.names.map (·.1)).Nodup) (nd:N'.Nodup) (len:cu.length=N'.length) (fv:By N N' cu sc=true)
  (free:∀p∈sc.names,p.2 = .free->CH.names.lookup p.1=some .cell\/CH.names.lookup p.1=some .free):cM N (relabel CH env) N' cu sc:=
 ⟨kind,keys,nd,len,f6 fv,fun p hp e=>by
  rcases free p hp e with z|z
  ·exact .inl (Ej z)
  ·exact zd z⟩
theorem NW (K:Frag) (h:X.K=K):dq X (.type "tuple") (fun xs H Q=>∃p ys,xs = [.ref p]/\((ag K H p ys /\ ∀l,H l=none->Q (.ref l) (upd H l (.tup ys)))\/(ao K H p ys/\Q (.ref p) H))):=by subst h;exact mr
theorem boot_any:bootBuiltins "any" = some (.builtin "any"):=by decide +kernel
theorem NK {n:Str} (S:Small rest):Small (without n rest):=by
 refine⟨by unfold L2.without;rw[ar];exact S.cg,fun r hr=>?_,fun r hr y hy=>?_⟩
 ·obtain⟨q,hq,rfl⟩:=cD.mp hr
  exact cL (pT _ _) (S.short q hq)
 ·obtain⟨q,hq,rfl⟩:=cD.mp hr
  exact S.nm q hq y (jQ.mp hy).1
theorem zh:∀ {rows:List (List Str)},(∀r∈rows,r.length<=20)->total rows<=20 * rows.length
 |[],_=>aN _
 |r::rows,h=>by
  have h1:=zh fun q hq=>h q (a9 _ hq);have h2:=h r aZ;have e:total (r::rows)=r.length+total rows:=by simp[total]
  rw[e,b5];omega
end eM
namespace eM
open PySem L2
theorem boot_max:bootBuiltins "max" = some (.builtin "max"):=by decide +kernel
theorem boot_abs:bootBuiltins "abs" = some (.builtin "abs"):=by decide +kernel
@[irreducible] def qE (K:PySem.W.Frag):Sp:=fun vs H Q _=>∃ (a:Addr) (ns:List Int) (k:Int),vs = [.ref a,.int k]/\ag K H a (ns.map V.int)/\0<=k/\k<=100/\ns.length<=63 /\
 ∀ (p:Addr) (x y:Int),H p=none->0<=x->0<=y->y < 4294967296->Q (.ref p) (upd H p (.lst [.int x,.int y]))
theorem Bf:b6 ["_law_script","_law_k","_law_cell"] ["_law_script","_law_k"] (aX BF):=⟨rfl,rfl,rfl,by decide +kernel,rfl,by decide +kernel,by decide +kernel⟩
theorem QX {ns:List Int} (h:i < ns.length):∃z,(ns.map V.int)[i]? = some (V.int z):=⟨ns[i],by rw[cU,aQ h];rfl⟩
theorem RZ (F:bg K "_law_pot" "_law_pot" BF f fd) (B:cQ mg):aB P w K mg base aC 1 f fd ["_law_script","_law_k"] (qE K):=by
 refine F.ok Bf (fun vs H Q E h=>?_) (fun aR A outer s H vs Q E hr h=>?_)
 ·unfold qE at h;obtain⟨a,ns,k,rfl,_⟩:=h;rfl
 ·unfold qE at h
  obtain⟨a,ns,k,rfl,hS,k0,k1,hl,q⟩:=h;refine⟨_,au (bj (i:=2) Bf.nd rfl (Or.inl rfl) ah)
   (au (bz (bh qB (pv 1) (aP cH (by rfl) B.len cA (aa (pv 0) ae)) (a8 _))
     (aE (bj (i:=2) Bf.nd rfl (Or.inl rfl) (aM cq (pv 0) (pv 1) (fun _ _=>rfl)))) bH)
   (aE (aY (cN (aa (aP (ON rfl) (by rfl) B.max boot_max (aa ah (aa (bq iG (aP Fz (by rfl) B.abs boot_abs (aa (pv 2) ae)) (bq AK ah ah)) ae)))
    (aa (bq gT (bq gT (bq qj (aP Fz (by rfl) B.abs boot_abs (aa (pv 2) ae)) ah) (bq wm ah (pv 1))) ah) ae)))))),?_⟩
  refine⟨_,rfl,_,rfl,a,_,rfl,.inl hS,_,_,rfl,rfl,_,rfl,?_⟩;have ack:∀c:Int,0<=(if c < 0 then -c else c):=fun c=>by split <;> omega
  have fin:∀c:Int,∀p,H p=none->Q (.ref p) (upd H p (.lst [.int (if (if c < 0 then -c else c) - 10 ^ (18:Int).toNat > 0 then (if c < 0 then -c else c) - 10 ^ (18:Int).toNat else 0),.int ((if c < 0 then -c else c) % 2147483587+101 * k+3)])):=fun c p hp=>by
   have h1:=y4 (if c < 0 then -c else c) (show(2147483587:Int)≠0 by decide)
   have h2:=y6 (if c < 0 then -c else c) (show(0:Int) < 2147483587 by decide)
   refine q p _ _ hp ?_ (by omega) (by omega)
   generalize (if c < 0 then -c else c) - 10 ^ (18:Int).toNat=d;split <;> omega
  have tail:∀c:Int,∃ (x:V),([some (.ref a),some (.int k),some (.int c)]:St)[2]? = some (some x):=fun c=>⟨_,rfl⟩;refine dw (fun hk=>?_) (fun hk=>?_)
  ·have hV:k < ((ns.map V.int).length:Int):=pR hk
   rw[ar]at hV;obtain⟨z,hz⟩:=QX (ns:=ns) (i:=k.toNat) (by omega)
   refine⟨_,rfl,_,rfl,a,_,_,_,rfl,rfl,hS,(by rw[show k=((k.toNat:Nat):Int) by omega];exact bQ hz),?_⟩
   refine⟨_,rfl,z,rfl,_,_,rfl,rfl,⟨by decide,by decide,by decide⟩,_,_,rfl,rfl,_,_,rfl,?_⟩
   refine⟨_,rfl,z,rfl,_,_,rfl,rfl,(by show(0:Int) < 2147483587;decide),_,rfl,_,_,rfl,rfl,.inl ⟨by decide,by decide⟩,_,_,rfl,rfl,_,_,rfl,rfl,(by show 2<=sizeLine;rw[aA];decide),fun p hp=>fin z p hp⟩
  ·refine⟨_,rfl,0,rfl,_,_,rfl,rfl,⟨by decide,by decide,by decide⟩,_,_,rfl,rfl,_,_,rfl,?_⟩
   refine⟨_,rfl,0,rfl,_,_,rfl,rfl,(by show(0:Int) < 2147483587;decide),_,rfl,_,_,rfl,rfl,.inl ⟨by decide,by decide⟩,_,_,rfl,rfl,_,_,rfl,rfl,(by show 2<=sizeLine;rw[aA];decide),fun p hp=>fin 0 p hp⟩
@[irreducible] def gA:Sp:=fun vs H Q _=>∃ (p:Addr) (m x y:Int),vs = [.ref p,.int m]/\H p=some (.lst [.int x,.int y])/\0<=x/\0<=y/\y < 4294967296/\0 < m/\m < 4611686018427387904 /\
 ∀ (d x' y':Int),0<=d->d < m->0<=x'->0<=y'->y' < 4294967296->Q (.int d) (upd H p (.lst [.int x',.int y']))
theorem Hb:b6 ["_law_pot_here","_law_many","_law_digit_here"] ["_law_pot_here","_law_many"] (aX tE):=⟨rfl,rfl,rfl,by decide +kernel,rfl,by decide +kernel,by decide +kernel⟩
theorem zW (F:bg K "_law_digit" "_law_digit" tE f fd):aB P w K mg base aC 1 f fd ["_law_pot_here","_law_many"] gA:=by
 refine F.ok Hb (fun vs H Q E h=>?_) (fun aR A outer s H vs Q E hr h=>?_)
 ·unfold gA at h;obtain⟨p,m,x,y,rfl,_⟩:=h;rfl
 ·unfold gA at h
  obtain⟨p,m,x,y,rfl,hp,x0,y0,y1,m0,m1,q⟩:=h;refine⟨_,au (bz (bh tO (aM cq (pv 0) ah (fun _ _=>rfl)) ah (a8 _))
    (au (bj (i:=2) Hb.nd rfl (Or.inl rfl) (bq qj (aM cq (pv 0) ah (fun _ _=>rfl)) (pv 1)))
    (au (tm (bq PQ (aM cq (pv 0) ah (fun _ _=>rfl)) (pv 1)) (sZ (pv 0) ah set_list))
    (aE (aY (pv 2))))) bH)
   (au (tm (bq qj (bq gT (bq wm (aM cq (pv 0) ah (fun _ _=>rfl)) ah) ah) ah) (sZ (pv 0) ah set_list))
   (aE (aY (bq qj (bq Gy (bq qj (bq wm (aM cq (pv 0) ah (fun _ _=>rfl)) (aM cq (pv 0) ah (fun _ _=>rfl))) ah) ah) (pv 1))))),?_⟩
  have hl:ag K H p [.int x,.int y]:=ag.of hp;refine⟨_,rfl,p,_,0,_,rfl,rfl,hl,rfl,_,_,rfl,rfl,_,rfl,?_⟩;refine dw (fun hx=>?_) (fun hx=>?_)
  ·refine⟨_,rfl,p,_,0,_,rfl,rfl,hl,rfl,_,rfl,_,_,rfl,rfl,m0,?_⟩
   refine⟨_,rfl,p,_,0,_,rfl,rfl,hl,rfl,_,rfl,_,_,rfl,rfl,⟨m0,by omega⟩,_,rfl,p,_,0,0,rfl,rfl,hp,rfl,?_⟩
   refine⟨_,rfl,?_⟩;exact q _ _ _ (y4 _ (by omega)) (y6 _ m0) (Int.ediv_nonneg x0 (by omega)) y0 y1
  ·refine⟨_,rfl,p,_,1,_,rfl,rfl,hl,rfl,_,_,rfl,rfl,.inr ⟨by decide,by decide⟩,_,_,rfl,rfl,_,_,rfl,rfl,(by show(0:Int) < 2147483647;decide),_,rfl,p,_,1,1,rfl,rfl,hp,rfl,?_⟩
   have h1:=y4 (y * 39373+20011) (show(2147483647:Int)≠0 by decide)
   have h2:=y6 (y * 39373+20011) (show(0:Int) < 2147483647 by decide)
   refine⟨_,rfl,p,_,1,_,rfl,rfl,ag.of af,rfl,_,rfl,p,_,1,_,rfl,rfl,ag.of af,rfl,_,_,rfl,rfl,.inl ⟨Int.lt_of_lt_of_le (by decide) h1,Int.lt_of_lt_of_le h2 (by decide)⟩,_,_,rfl,rfl,(by show(0:Int) < 2147483563;decide),_,_,rfl,rfl,⟨by decide,by decide⟩,_,rfl,_,_,rfl,rfl,m0,?_⟩
   exact q _ x _ (y4 _ (by omega)) (y6 _ m0) x0 h1 (by omega)
def cf (p:Addr) (H:Hp):Prop:= ∃x y:Int,H p=some (.lst [.int x,.int y])/\0<=x/\0<=y/\y < 4294967296
structure aT (p:Addr) (H H':Hp):Prop where
 ok:cf p H'
 kp:∀b o,H b=some o->b≠p->H' b=some o
section
variable{o:HO}
theorem aT.refl (h:cf p H):aT p H H:=⟨h,fun _ _ e _=>e⟩
theorem aT.trans (a:aT p H H1) (b:aT p H1 H2):aT p H H2:=⟨b.ok,fun c o e n=>b.kp c o (a.kp c o e n) n⟩
theorem cf.ne (h:cf p H) (hq:H q=none):p≠q:=let ⟨_,_,e,_⟩:=h;a7 e hq
theorem aT.new (a:aT p H H1) (hq:H1 q=none):aT p H (upd H1 q o):=by
 refine⟨?_,fun b u e n=>?_⟩
 ·obtain⟨x,y,e,r⟩:=id a.ok
  exact⟨x,y,by rw[ak (a.ok.ne hq)];exact e,r⟩
 ·rw[ak (a7 (a.kp b u e n) hq)];exact a.kp b u e n
theorem aT.free (a:aT p H H1) (hq:H1 q=none):H q=none:=by
 cases e:H q with
 |none=>rfl
 |some u =>
  by_cases h:q=p
  ·subst h;obtain⟨_,_,z,_⟩:=a.ok;rw[z]at hq;cases hq
  ·rw[a.kp q u e h]at hq;cases hq
theorem aT.write (a:aT p H H1) (hq:H q=none) (hp:p≠q):aT p H (upd H1 q o):=by
 refine⟨?_,fun b u e n=>?_⟩
 ·obtain⟨x,y,e,r⟩:=id a.ok
  exact⟨x,y,by rw[ak hp];exact e,r⟩
 ·rw[ak (a7 e hq)];exact a.kp b u e n
theorem cj {m:Int}{E:XK} (h:cf p H) (m0:0 < m) (m1:m < 4611686018427387904) (k:∀d H',0<=d->d < m->aT p H H'->Q (.int d) H'):gA [.ref p,.int m] H Q E:=by
 obtain⟨x,y,e,x0,y0,y1⟩:=h;unfold gA;exact⟨p,m,x,y,rfl,e,x0,y0,y1,m0,m1,fun d x' y' d0 d1 h1 h2 h3=>k d _ d0 d1 ⟨⟨x',y',af,h1,h2,h3⟩,fun b o z n=>by rw[ak n];exact z⟩⟩
end
theorem Fj:∀cs:List Nat,((cs.map sign).map (·.length)).sum=cs.length
 |[]=>rfl
 |c::cs=>by
  have e:(sign c).length=1:=rfl;simp only[cn,D3,Fj cs,b5,e];omega
abbrev n4:Str:= "abcdefghijklmnopqrstuvwxyz"
theorem Fl {d:Int} (h0:0<=d) (h1:d < 26):∃c:Nat,eQ n4.cps.toList d=some c/\97<=c/\c<=122/\c=97+d.toNat:=by
 have all:∀i:Nat,i < 26->n4.cps.toList[i]? = some (97+i):=by decide +kernel
 refine⟨97+d.toNat,?_,by omega,by omega,rfl⟩
 rw[show d=((d.toNat:Nat):Int) by omega]
 exact bQ (all d.toNat (by omega))
@[irreducible] def n5:Sp:=fun vs H Q _=>∃ (p:Addr) (m:Nat),vs = [.ref p,.int m]/\cf p H/\m<=20 /\
 ∀ (l:Addr) (ys:List Str) (H':Hp),H l=none->ys.length=m->(∀y∈ys,Nm y)->ys.Nodup->aT p H H'->H' l=some (.lst (ys.map V.str))->Q (.ref l) H'
abbrev wB:List Str:= ["_law_pot_here","_law_many","_law_letters","_law_found","_law_k","_law_size","_law_name","_law_some"]
theorem mH:b6 wB ["_law_pot_here","_law_many"] (aX lA):=⟨rfl,rfl,rfl,by decide +kernel,rfl,by decide +kernel,by decide +kernel⟩
def HY (s:Stmt):List Stmt:=match s with|.If _ b _ _=>b|_=>[]
abbrev Vj:Scope:=dX (f' (jD (cS (n0 (cS (cR lA) 2)) 1)))
abbrev Vk:Scope:=dX (jD (cS (HY (cS (n0 (cS (cR lA) 2)) 2)) 0))
abbrev Vl:Scope:=dX (Vi (jD (cS (HY (cS (n0 (cS (cR lA) 2)) 2)) 1)))
theorem KO:cM wB (aX lA) ["_law_turn","_law_letters","_law_pot_here"] [none,some 2,some 0] Vj:=⟨rfl,by decide +kernel,by decide +kernel,rfl,f6 (by decide +kernel),by decide +kernel⟩
theorem KP:cM wB (aX lA) ["_law_turn","_law_letters","_law_name"] [none,some 2,some 6] Vk:=⟨rfl,by decide +kernel,by decide +kernel,rfl,f6 (by decide +kernel),by decide +kernel⟩
theorem KQ:cM wB (aX lA) ["_law_one","_law_found"] [none,some 3] Vl:=⟨rfl,by decide +kernel,by decide +kernel,rfl,f6 (by decide +kernel),by decide +kernel⟩
theorem Qi {pq:FuncData} (F:bg K "_law_names" "_law_names" lA f fd) (B:cQ mg) (FD:bg K "_law_digit" "_law_digit" tE fD pq) (bD:Binds K pq ["_law_pot_here","_law_many"] []) (mD:mg "_law_digit" = some (.ref fD)) :
  aB P w K mg base aC 3 f fd ["_law_pot_here","_law_many"] n5:=by
 have GD:aB P w K mg base aC 1 fD pq ["_law_pot_here","_law_many"] gA:=zW FD;refine F.ok mH (fun vs H Q E h=>?_) (fun aR A outer s H vs Q E hr h=>?_)
 ·unfold n5 at h;obtain⟨p,m,rfl,_⟩:=h;rfl
 ·unfold n5 at h
  obtain⟨p,m,rfl,hp,m1,q⟩:=h;have aU:bf 1 _:=hr.mono (by decide)
  refine⟨_,au (bj (i:=2) mH.nd rfl (Or.inr rfl) cE)
   (au (bj (i:=3) mH.nd rfl (Or.inr rfl) (cN ae))
   (au (jx jW rfl (jX rfl B.range (aa (pv 1) ae)) (cb (i:=4) mH.nd rfl (Or.inl rfl))
    (au (bj (i:=5) mH.nd rfl (Or.inl rfl) (bq gT ah (aF GD aU rfl mD FD.kp bD .nil aG (aa (pv 0) (aa (aM cq (cN (aa ah (aa ah (aa ah ae))))
      (aF GD aU rfl mD FD.kp bD .nil aG (aa (pv 0) (aa ah ae))) (fun _ _=>rfl)) ae)))))
    (au (bj (i:=6) mH.nd rfl (Or.inr rfl) (j9 PySem.F.plainAttrs_str PySem.F.slot_str_join PySem.F.type_str_join QF cE
      (aa (fe rfl KO (jX rfl B.range (aa (pv 5) ae)) (fun s H fp=>⟨cb (i:=0) KO.nd rfl (Or.inl rfl),fq,aM wo (pv 1) (aF GD aU rfl mD FD.kp bD .nil aG (aa (pv 2) (aa ah ae))) (fun _ _=>rfl)⟩)) ae)))
    (au (bz (bh ER (pv 6) (pv 3) rfl)
      (au (zi (i:=7) rfl KP mH.nd rfl rfl (jX rfl B.range (aa (bq gT (pv 1) ah) ae)) (fun s H fp=>⟨cb (i:=0) KP.nd rfl (Or.inl rfl),fq,
        bq vz (bq vz (jY AM (pv 2) j0 (j3 ah)) (aM wo (pv 1) (pv 0) (fun _ _=>rfl))) cE⟩))
      (aE (bj (i:=6) mH.nd rfl (Or.inr rfl) (aM cq (fe rfl KQ (jv (pv 7)) (fun s H fp=>⟨cb (i:=0) KQ.nd rfl (Or.inl rfl),vN (bh (Oq K rfl) (pv 0) (pv 1) rfl),pv 0⟩)) ah (fun _ _=>rfl)))))
      bH)
    (aE (mG (j9 nP Ni Nj vD (pv 3) (aa (pv 6) ae))))))))
   (aE (aY (pv 3))))),?_⟩
  refine⟨aN _,fun l hl=>?_⟩;have g9:p≠l:=hp.ne hl;have em:((m:Int)).toNat=m:=me m;refine⟨_,rfl,(m:Int),rfl,by omega,by omega,pZ (fun i σ H1=>∃ (ys:List Str) (v4 v5 v6 v7:Option V),σ = [some (.ref p),some (.int m),some (.str n4),some (.ref l),v4,v5,v6,v7]/\ys.length=i/\(∀y∈ys,Nm y)/\ys.Nodup/\aT p H H1/\H1 l=some (.lst (ys.map V.str)))
   ⟨[],none,none,none,none,rfl,rfl,(fun y hy=>by simp at hy),yQ,(aT.refl hp).new hl,af⟩ ?_ ?_⟩
  ·rintro i σ H1 hi ⟨ys,v4,v5,v6,v7,rfl,hlen,nA,eR,pa,fQ⟩
   rw[em]at hi;refine⟨_,rfl,by show 3<=sizeLine;rw[aA];decide,fun a hq=>⟨_,rfl,?_⟩⟩
   have W4:a≠p:=bb (pa.ok.ne hq);refine cj (p:=p) (m:=3) ((aT.refl pa.ok).new hq).ok (by decide) (by decide) fun d H2 d0 d1 pb=>?_
   obtain⟨mv,W5,W6,mv1⟩:∃mv:Int,eQ [V.int 1,V.int 2,V.int 8] d=some (V.int mv)/\0 < mv/\mv<=8:=by
    have:d=0\/d=1\/d=2:=by omega
    rcases this with rfl|rfl|rfl
    ·exact⟨1,rfl,by decide,by decide⟩
    ·exact⟨2,rfl,by decide,by decide⟩
    ·exact⟨8,rfl,by decide,by decide⟩
   refine⟨a,_,d,_,rfl,rfl,ag.of (pb.kp a _ af W4),W5,?_⟩;refine cj (p:=p) (m:=mv) pb.ok W6 (by omega) fun e H3 e0 e1 pc=>⟨_,_,rfl,rfl,?_⟩
   have pd:aT p H1 H3:=(((aT.refl pa.ok).new hq).trans pb).trans pc;have jN:H3 l=some (.lst (ys.map V.str)):=pd.kp l _ fQ (bb g9);refine⟨rfl,_,rfl,1+e,rfl,by omega,by omega,fun a1 kz=>?_⟩
   have xE:p≠a1:=pc.ok.ne kz;refine vA (fun i zs τ H4=>∃ (cs:List Nat) (t0:Option V),zs=(cs.map sign).map V.str/\cs.length=i/\(∀c∈cs,97<=c/\c<=122)/\τ = [t0,some (.str n4),some (.ref p)]/\aT p H3 H4/\H4 a1=some (.lst zs))
    ⟨[],none,rfl,rfl,(fun c hc=>by simp at hc),rfl,(aT.refl pc.ok).new kz,af⟩ (fun i zs τ H4 ⟨_,_,_,_,_,_,_,z⟩=>z) ?_ ?_
   ·rintro j zs τ H4 hj ⟨cs,t0,rfl,gE,CI,rfl,pe,hz⟩
    refine⟨_,rfl,_,rfl,cj (p:=p) (m:=26) pe.ok (by decide) (by decide) fun d H5 d0 d1 pf=>?_⟩
    obtain⟨c,hc,c0,c1,_⟩:=Fl d0 d1;have xV:H5 a1=_:=pf.kp a1 _ hz (bb xE);refine⟨n4,d,c,rfl,rfl,(by rw[aA];decide +kernel),hc,xV,?_,cw_next hj ⟨cs ++ [c],_,?_,?_,?_,rfl,?_,af⟩⟩
    ·rw[ar,ar,gE,aA];omega
    ·rw[cp,cp];rfl
    ·rw[eO,gE];rfl
    ·intro x hx
     rcases e9.mp hx with h|h
     ·exact CI x h
     ·have:x=c:=by simpa using h
      rw[this];exact⟨c0,c1⟩
    ·exact(pe.trans pf).write ((aT.refl pc.ok).free kz) xE
   ·rintro zs τ H4 ⟨cs,t0,rfl,gE,CI,rfl,pe,hz⟩
    have W7:((cs.map sign).map (·.length)).sum=cs.length:=by
     exact Fj cs
    refine⟨("" : Str),a1,cs.map sign,rfl,rfl,.inl (ag.of hz),?_,?_⟩
    ·have:(Str.length ("" : Str))=0:=rfl
     rw[W7,this,gE];omega
    rw[Om];generalize JB:(⟨cs.toArray⟩:Str)=nm;have BH:Nm nm:=by
     have el:nm.length=cs.length:=by rw[<-JB];show cs.toArray.size=_;simp
     refine⟨by omega,by omega,fun c hc=>CI c ?_⟩
     rw[<-JB]at hc;simpa using hc
    have pg:aT p H1 H4:=pd.trans pe;have gJ:H4 l=some (.lst (ys.map V.str)):=pe.kp l _ jN (bb g9);refine⟨_,rfl,_,rfl,l,_,rfl,.inl (ag.of gJ),rfl,sG _,_,rfl,?_⟩;rw[aj cz,vP];refine dw (fun rR=>?_) (fun rR=>?_)
    ·
     refine⟨_,rfl,_,_,rfl,rfl,(m:Int)+1,rfl,by omega,by omega,fun a2 uR=>?_⟩
     refine vA (fun i zs τ H5=>∃t0:Option V,zs=((List.range i).map fun j=>Txt.slice nm none (some 6)++sign (97+j)++("q" : Str)).map V.str/\τ = [t0,some (.str n4),some (.str nm)]/\H5=upd H4 a2 (.lst zs))
      ⟨none,rfl,rfl,rfl⟩ (fun i zs τ H5 ⟨_,_,_,z⟩=>by rw[z];exact af) ?_ ?_
     ·rintro j zs τ H5 hj ⟨t0,rfl,rfl,rfl⟩
      have lZ:j < m+1:=by omega
      obtain⟨c,hc,c0,c1,W8⟩:=Fl (d:=0+(j:Int)) (by omega) (by omega)
      have Vm:c=97+j:=by rw[W8];omega
      have l1:(Txt.slice nm none (some 6)).length<=6:=Et nm;refine⟨_,rfl,_,rfl,nm,rfl,by have:=BH.hi;omega,_,rfl,_,rfl,n4,_,c,rfl,rfl,(by rw[aA];decide +kernel),hc,_,_,rfl,rfl,?_,_,_,rfl,rfl,?_,af,?_,cw_next hj ⟨_,?_,rfl,?_⟩⟩
      ·show _+1<=sizeLine;rw[aA];omega
      ·have e1:(Txt.slice nm none (some 6)++(⟨#[c]⟩:Str)).length=(Txt.slice nm none (some 6)).length+1:=by
        show(_ ++ #[c]:Array Nat).size=_;rw[DM];rfl
       have e2:(("q" : Str)).length=1:=by decide +kernel
       show(Txt.slice nm none (some 6)++(⟨#[c]⟩:Str)).length+_<=sizeLine;rw[e1,e2,aA];omega
      ·rw[ar,ar,yN,aA];omega
      ·rw[List.range_succ,cp,cp,Vm];rfl
      ·rw[nY]
     ·rintro zs τ H5 ⟨t0,rfl,rfl,rfl⟩
      have W9:((m:Int)+1).toNat=m+1:=by omega
      generalize gu:(List.range ((m:Int)+1).toNat).map (fun j=>Txt.slice nm none (some 6)++sign (97+j)++("q" : Str))=cands;have W':cands.Nodup:=by
       rw[<-gu];refine List.Pairwise.map _ (fun a b rK h=>rK ?_) DT;have:=Py h;omega
      have Xa:∀y∈cands,Nm y:=by
       intro y hy;rw[<-gu]at hy;obtain⟨j,hj,rfl⟩:=cD.mp hy;have:=gx.mp hj;exact QG BH.az ⟨by omega,by omega⟩
      have acm:cands.length=m+1:=by rw[<-gu,ar,yN,W9]
      have rS:upd H4 a2 (.lst (cands.map V.str)) l=some (.lst (ys.map V.str)):=by rw[ak (a7 gJ uR)];exact gJ
      refine⟨_,rfl,a2,rfl,⟨_,ag.of af⟩,fun a3 xW=>?_⟩;refine lr (xs:=cands.map V.str) (fun i zs τ H6=>∃t0:Option V,zs=((cands.take i).filter (fun y=>!decide (y∈ys))).map V.str/\τ = [t0,some (.ref l)]/\H6=upd (upd H4 a2 (.lst (cands.map V.str))) a3 (.lst zs))
       ⟨none,rfl,rfl,rfl⟩ (fun i zs τ H6 ⟨_,_,_,z⟩=>by rw[z];exact⟨af,ag.of (by rw[ak (a7 af xW)];exact af)⟩) ?_ ?_
      ·rintro j x zs τ H6 hx ⟨t0,rfl,rfl,rfl⟩
       rw[cU]at hx;obtain⟨y,hy,rfl⟩:=ie.mp hx;have d5:j < (cands.map V.str).length:=by rw[ar];exact(cZ.mp hy).1
       have tk:cands.take (j+1)=cands.take j ++ [y]:=by rw[fY,hy];rfl
       have xX:(upd (upd H4 a2 (.lst (cands.map V.str))) a3 (.lst (((cands.take j).filter (fun y=>!decide (y∈ys))).map V.str))) l=some (.lst (ys.map V.str)):=by rw[ak (a7 rS xW)];exact rS
       refine⟨_,rfl,_,rfl,l,_,rfl,.inl (ag.of xX),rfl,sG _,_,rfl,?_⟩;rw[ax rfl,vP];refine dw (fun hn=>?_) (fun hn=>?_)
       ·refine⟨_,rfl,af,?_,cw_next d5 ⟨_,?_,rfl,?_⟩⟩
        ·have h1:=pT (fun y=>!decide (y∈ys)) (cands.take j)
         have h2:(cands.take j).length<=cands.length:=by rw[c4];omega
         rw[ar,aA];omega
        ·rw[tk,y8,cp,List.filter_cons,ax hn];rfl
        ·rw[nY]
       ·refine cw_next d5 ⟨_,?_,rfl,rfl⟩
        rw[tk,y8,List.filter_cons,aj hn,List.filter_nil,k7]
      ·rintro zs τ H6 ⟨t0,rfl,rfl,rfl⟩
       rw[ar,fX];obtain⟨y0,Xb,Xc⟩:=AN (found:=ys) W' (by omega)
       have qN:y0∈cands.filter (fun y=>!decide (y∈ys)):=jQ.mpr ⟨Xb,by simpa using Xc⟩
       cases hf:cands.filter (fun y=>!decide (y∈ys)) with
       |nil=>rw[hf]at qN;simp at qN
       |cons z1 zr =>
        have Xd:z1∈cands.filter (fun y=>!decide (y∈ys)):=by rw[hf];exact aZ
        obtain⟨zc,zn⟩:=jQ.mp Xd;have Xe:z1 ∉ ys:=by simpa using zn
        have xX:(upd (upd H4 a2 (.lst (cands.map V.str))) a3 (.lst ((z1::zr).map V.str))) l=some (.lst (ys.map V.str)):=by rw[ak (a7 rS xW)];exact rS
        have ph:aT p H (upd (upd H4 a2 (.lst (cands.map V.str))) a3 (.lst ((z1::zr).map V.str))):=((pa.trans pg).new uR).new xW;refine⟨a3,_,0,V.str z1,rfl,rfl,ag.of af,(show eQ ((z1::zr).map V.str) ((0:Nat):Int)=some (V.str z1) from bQ rfl),?_⟩;refine⟨_,rfl,.inl ⟨rfl,_,ag.of xX⟩,_,rfl,l,_,_,rfl,rfl,xX,?_,?_⟩
        ·rw[ar,aA];omega
        ·refine⟨ys ++ [z1],_,_,_,_,rfl,by rw[eO,hlen];rfl,?_,?_,?_,?_⟩
         ·intro y hy
          rcases e9.mp hy with h|h
          ·exact nA y h
          ·have:y=z1:=by simpa using h
           rw[this];exact Xa z1 zc
         ·rw[vk]
          exact⟨eR,by simp,fun a ha b hb=>by rw[show b=z1 by simpa using hb];exact fun h=>Xe (h ▸ ha)⟩
         ·exact ph.write hl g9
         ·rw[af,cp];rfl
    ·have lP:nm ∉ ys:=by simpa using rR
     have ph:aT p H H4:=pa.trans pg;refine⟨_,rfl,.inl ⟨rfl,_,ag.of gJ⟩,_,rfl,l,_,_,rfl,rfl,gJ,?_,?_⟩
     ·rw[ar,aA];omega
     ·refine⟨ys ++ [nm],_,_,_,_,rfl,by rw[eO,hlen];rfl,?_,?_,?_,?_⟩
      ·intro y hy
       rcases e9.mp hy with h|h
       ·exact nA y h
       ·have:y=nm:=by simpa using h
        rw[this];exact BH
      ·rw[vk]
       exact⟨eR,by simp,fun a ha b hb=>by rw[show b=nm by simpa using hb];exact fun h=>lP (h ▸ ha)⟩
      ·exact ph.write hl g9
      ·rw[af,cp];rfl
  ·rintro σ H1 ⟨ys,v4,v5,v6,v7,rfl,hlen,nA,eR,pa,fQ⟩
   rw[em]at hlen;exact⟨_,rfl,q l ys H1 hl hlen nA eR pa fQ⟩
end eM
namespace eM
open PySem L2 PySem.W HT
theorem N8 (K:Frag) (h:X.K=K):dq X (.type "list") (fun xs H Q=>∃p ys,xs = [.ref p]/\(ag K H p ys\/ao K H p ys) /\ ∀l,H l=none->Q (.ref l) (upd H l (.lst ys))):=by subst h;exact pX
theorem N9 (K:Frag) (h:X.K=K) (hc:X.calm=true):dq X (.builtin "any") (fun xs H Q=>∃ (p:Addr) (bs:List Bool),xs = [.ref p]/\ag K H p (bs.map V.bl)/\Q (.bl (bs.any id)) H):=by subst h;exact EZ hc
theorem O7 (K:Frag) (h:X.K=K):rB X (Ji K):=by subst h;exact wd
def gW (av:Addr->Prop) (H:Hp) (vs:List V) (rows:List (List Str)):Prop:=Paired (fun y r=>∃a,y=V.ref a/\av a/\H a=some (.lst (r.map V.str))) vs rows
theorem p9 {av:Addr->Prop}{H:Hp}:∀ {vs:List V}{rows:List (List Str)}{i:Nat}{v:V},gW av H vs rows->vs[i]? = some v -> ∃a r,v=V.ref a/\rows[i]? = some r/\av a/\H a=some (.lst (r.map V.str))
 |_,_,i,v,.nil,e=>by simp at e
 |_,_,0,v,.cons p _,e=>by
  obtain⟨a,rfl,n,q⟩:=p;simp at e;subst e;exact⟨a,_,rfl,rfl,n,q⟩
 |_,_,i+1,v,.cons _ t,e=>by
  obtain⟨a,r,e1,e2,n,q⟩:=p9 (i:=i) t (by simpa using e)
  exact⟨a,r,e1,by simpa using e2,n,q⟩
theorem mx {KR:Addr->Prop} (h:gW av H vs rows) (f:∀a xs,av a->H a=some (.lst xs)->KR a/\H' a=some (.lst xs)):gW KR H' vs rows:=
 Paired.imp' (fun _ _ ⟨a,e,n,q⟩=>⟨a,e,(f a _ n q).1,(f a _ n q).2⟩) h
theorem vx {av:Addr->Prop}{H:Hp}{vs:List V}{rows:List (List Str)}{a:Addr}{r:List Str}:gW av H vs rows->av a->H a=some (.lst (r.map V.str))->gW av H (vs ++ [.ref a]) (rows ++ [r])
 |.nil,n,q=>.cons ⟨a,rfl,n,q⟩ .nil
 |.cons p t,n,q=>.cons p (vx t n q)
theorem nR (h:gW av H vs rows):vs.length=rows.length:=fk h
theorem TZ (h:Nm x):PyData.strOk x=true:=by
 unfold PyData.strOk;rw[<-Array.all_toList,i9];intro c hc;have:=(h.az c hc).2;exact b4 (by omega)
theorem zX (H:Hp):∀xs:List Str,b7 H (xs.map V.str) (xs.map PyData.str)
 |[]=>.nil
 |x::xs=>.cons (.str x) (zX H xs)
theorem vU:∀ {xs:List Str},(∀x∈xs,Nm x)->PyData.canLayAll0 (xs.map PyData.str)=true
 |[],_=>rfl
 |x::xs,h=>by
  show(PyData.strOk x && PyData.canLayAll0 (xs.map PyData.str))=true;rw[TZ (h x aZ),vU fun y hy=>h y (a9 _ hy)];rfl
theorem zo:∀xs:List Str,PyData.depthAll (xs.map PyData.str)=0
 |[]=>rfl
 |x::xs=>by rw[cn];simp only[PyData.depthAll,PyData.depth,zo xs,Nat.max_self]
theorem ne_nil {xs:List Str} (ha:H a=some (.lst (xs.map V.str))) (hb:H b=some (.lst [])) (hn:∀x∈xs,Nm x) (q:Q (.bl (!xs.isEmpty)) H):Jp (.ref a) (.ref b) H Q:=by
 refine⟨.list (xs.map PyData.str),.list [],.lst ha (zX _ _),.lst hb .nil,vU hn,rfl,by show PyData.depthAll _+1<=60;rw[zo];decide,?_⟩
 cases xs with
 |nil=>exact q
 |cons x xs=>exact q
theorem eq_nil {xs:List Str} (ha:H a=some (.lst (xs.map V.str))) (hb:H b=some (.lst [])) (hn:∀x∈xs,Nm x) (q:Q (.bl xs.isEmpty) H):Jo (.ref a) (.ref b) H Q:=by
 refine⟨.list (xs.map PyData.str),.list [],.lst ha (zX _ _),.lst hb .nil,vU hn,rfl,by show PyData.depthAll _+1<=60;rw[zo];decide,?_⟩
 cases xs with
 |nil=>exact q
 |cons x xs=>exact q
theorem zY (xs:List V) (k:Nat):fu xs (some (k:Int)) none=xs.drop k:=by
 unfold fu;rw[HT.Pr,HT.Qx]
 by_cases h:k<=xs.length
 ·rw[Nat.min_eq_left h,sC (by rw[mf];omega)]
 ·rw[Nat.min_eq_right (by omega),List.drop_length,abL (by omega)];simp
def busy (rest:List (List Str)) (x:Str):Bool:=rest.any fun o=>decide (x∈o.drop 1)
def cX (all:List (List Str)):List (List Str)->List Str
 |[]=>[]
 |[]::rest=>cX all rest
 |(x::_)::rest=>if busy all x then cX all rest else x::cX all rest
theorem vH {n:Str}:∀ {k:Nat}{rest:List (List Str)},gz k rest n=none ↔ ∀r∈rest,n∈r->r.head? = some n
 |k,[]=>by simp[gz]
 |k,[]::rest=>by
  show gz (k+1) rest n=none ↔ _;rw[vH (k:=k+1) (rest:=rest)];simp
 |k,(x::r)::rest=>by
  show(if n∈x::r/\x≠n then some (k,x) else gz (k+1) rest n)=none ↔ _
  by_cases h:n∈x::r/\x≠n
  ·rw[ax h]
   constructor
   ·intro z;cases z
   ·intro z
    have:=z _ aZ h.1;exact absurd (by simpa using this) h.2
  ·rw[aj h,vH (k:=k+1) (rest:=rest)]
   constructor
   ·intro z q hq hn
    rcases bx.mp hq with rfl|hq
    ·by_cases e:x=n
     ·rw[e];rfl
     ·exact absurd ⟨hn,e⟩ h
    ·exact z q hq hn
   ·exact fun z q hq=>z q (a9 _ hq)
theorem F6 {all:List (List Str)} (eR:∀r∈all,r.Nodup) (x:Str):busy all x=false ↔ gz 0 all x=none:=by
 rw[vH];unfold busy;rw[yB]
 constructor
 ·intro h q hq hx
  have h1:=h q hq;cases q with
  |nil=>simp at hx
  |cons y t =>
   rcases bx.mp hx with rfl|hx
   ·rfl
   ·exact absurd (by simpa using hx) h1
 ·intro h r hr
  cases r with
  |nil=>simp
  |cons y t =>
   intro hx;have hx:x∈t:=by simpa using hx
   obtain rfl:y=x:=by simpa using h _ hr (a9 _ hx)
   exact(iE.mp (eR _ hr)).1 hx
theorem zp {all:List (List Str)} (eR:∀r∈all,r.Nodup):∀rest:List (List Str),(cX all rest).head? = lz all rest
 |[]=>rfl
 |[]::rest=>zp eR rest
 |(x::t)::rest=>by
  show(if busy all x then cX all rest else x::cX all rest).head? = if (gz 0 all x).isNone then some x else lz all rest;cases hb:busy all x with
  |false=>rw[(F6 eR x).mp hb];rfl
  |true =>
   have hn:(gz 0 all x).isNone=false:=by
    cases z:gz 0 all x with
    |none=>rw[(F6 eR x).mpr z]at hb;cases hb
    |some _=>rfl
   rw[hn];exact zp eR rest
theorem sF (all:List (List Str)) (r:List Str):∀rest:List (List Str),cX all (rest ++ [r])=cX all rest++cX all [r]
 |[]=>rfl
 |[]::rest=>sF all r rest
 |(x::t)::rest=>by
  show(if busy all x then cX all (rest ++ [r]) else x::cX all (rest ++ [r]))=(if busy all x then cX all rest else x::cX all rest)++cX all [r];rw[sF all r rest];split <;> rfl
theorem zF (all:List (List Str)):∀rest:List (List Str),(cX all rest).length<=rest.length
 |[]=>ay _
 |[]::rest=>Nat.le_succ_of_le (zF all rest)
 |(x::t)::rest=>by
  have:=zF all rest;show(if busy all x then cX all rest else x::cX all rest).length<=rest.length+1;split
  ·omega
  ·rw[b5];omega
theorem vI {all:List (List Str)}{n:Str}:∀ {rest:List (List Str)},n∈cX all rest -> ∃r∈rest,n∈r
 |[],h=>by simp[cX]at h
 |[]::rest,h=>let ⟨r,hr,e⟩:=vI (rest:=rest) h;⟨r,a9 _ hr,e⟩
 |(x::t)::rest,h=>by
  have h:n∈(if busy all x then cX all rest else x::cX all rest):=h;split at h
  ·obtain⟨r,hr,e⟩:=vI (rest:=rest) h
   exact⟨r,a9 _ hr,e⟩
  ·rcases bx.mp h with rfl|h
   ·exact⟨_,aZ,aZ⟩
   ·obtain⟨r,hr,e⟩:=vI (rest:=rest) h
    exact⟨r,a9 _ hr,e⟩
theorem ED {n:Str} (h:∀r∈rest,r.Nodup):∀r∈L2.without n rest,r.Nodup:=by
 intro r hr;obtain⟨q,hq,rfl⟩:=cD.mp hr;exact(h q hq).filter _
structure JC (H:Hp) (rows:List (List Str)) (l fa:Addr) (m:Nat) (σ:St) (H1:Hp) (rest:List (List Str)) (lv:List V) (acc:List Str) (la:Addr):Prop where
 st:∃v3:Option V,σ = [some (.ref l),some (.ref la),some (.ref fa),v3]
 mm:m=total rest
 nB:H1 la=some (.lst lv)
 rr:gW (fun a=>a≠fa) H1 lv rest
 ne:la≠fa
 jo:H1 fa=some (.lst (acc.map V.str))
 sm:Small rest
 nd:∀r∈rest,r.Nodup
 same:aw H H1
 lim:acc.length+total rest<=1000
 eq:cG (total rows) rows=(cG (total rest) rest).map (acc ++ ·)
abbrev uS:List Str:= ["_law_rows","_law_left","_law_found","_law_free"]
theorem t8:b6 uS ["_law_rows"] (aX jZ):=⟨rfl,rfl,rfl,by decide +kernel,rfl,by decide +kernel,by decide +kernel⟩
def O8 (s:Stmt):Expr:=match s with|.While t _ _ _=>t|_=>.Constant .none 0 ⟨0,0,0,0⟩
def R0 (e:Expr):Expr:=match e with|.ListComp _ (⟨_,_,i::_,_⟩::_) _ _=>i|_=>.Constant .none 0 ⟨0,0,0,0⟩
def R1 (e:Expr) (i:Nat):Expr:=match e with|.BoolOp _ es _=>es.getD i (.Constant .none 0 ⟨0,0,0,0⟩)|_=>.Constant .none 0 ⟨0,0,0,0⟩
def JD (e:Expr):Expr:=match e with|.UnaryOp _ x _=>x|_=>.Constant .none 0 ⟨0,0,0,0⟩
abbrev sW:Stmt:=cS (cR jZ) 2
abbrev eA:Expr:=jD (cS (cR jZ) 0)
abbrev eB:Expr:=f' (O8 sW)
abbrev eC:Expr:=jD (cS (Fi sW) 0)
abbrev eD:Expr:=f' (JD (R1 (R0 eC) 1))
abbrev eE:Expr:=jD (cS (Fi sW) 3)
theorem KS:cM uS (aX jZ) ["_law_row"] [none] (dX eA):=⟨rfl,by decide +kernel,by decide +kernel,rfl,f6 (by decide +kernel),by decide +kernel⟩
theorem KU:cM uS (aX jZ) ["_law_row"] [none] (dX eB):=⟨rfl,by decide +kernel,by decide +kernel,rfl,f6 (by decide +kernel),by decide +kernel⟩
theorem KW:cM uS (aX jZ) ["_law_row","_law_left"] [none,some 1] (dX eC):=⟨rfl,by decide +kernel,by decide +kernel,rfl,f6 (by decide +kernel),by decide +kernel⟩
theorem Xf:cM ["_law_row","_law_left"] (relabel (dX eC) env) ["_law_other","_law_row"] [none,some 0] (dX eD):=nest rfl (by decide +kernel) (by decide +kernel) rfl (by decide +kernel) (by decide +kernel)
theorem Xg:(["_law_other","_law_row"]:List Str).Nodup:=by decide +kernel
theorem KY:cM uS (aX jZ) ["_law_row","_law_free"] [none,some 3] (dX eE):=⟨rfl,by decide +kernel,by decide +kernel,rfl,f6 (by decide +kernel),by decide +kernel⟩
theorem Xh:cM ["_law_row","_law_free"] (relabel (dX eE) env) ["_law_name","_law_free"] [none,some 1] (dX (TY eE)):=nest rfl (by decide +kernel) (by decide +kernel) rfl (by decide +kernel) (by decide +kernel)
theorem Xi:(["_law_name","_law_free"]:List Str).Nodup:=by decide +kernel
@[irreducible] def qO:Sp:=fun vs H Q _=>∃ (l:Addr) (ws:List V) (rows:List (List Str)),vs = [.ref l]/\H l=some (.lst ws)/\gW (fun _=>True) H ws rows/\Small rows/\(∀r∈rows,r.Nodup) /\
 (cG (total rows) rows=none -> ∀H',aw H H'->Q .aD H')/\(∀o,cG (total rows) rows=some o -> ∀p H',H p=none->aw H H'->H' p=some (.lst (o.map V.str))->Q (.ref p) H')
theorem T3 (F:bg K "_law_merged" "_law_merged" jZ f fd) (B:cQ mg):aB P w K mg base aC 1 f fd ["_law_rows"] qO:=by
 refine F.ok t8 (fun vs H Q E h=>?_) (fun aR A outer s H vs Q E hr h=>?_)
 ·unfold qO at h;obtain⟨l,ws,rows,rfl,_⟩:=h;rfl
 ·unfold qO at h
  obtain⟨l,ws,rows,rfl,hl,hR,hS,eR,qn,qs⟩:=h;have hu:=hr.units;refine⟨_,au (bj (i:=1) t8.nd rfl (Or.inr rfl) (fe rfl KS (jv (pv 0)) (fun s H fp=>⟨cb (i:=0) KS.nd rfl (Or.inl rfl),fq,fo (N8 K rfl) rfl B.list boot_list (aa (pv 0) ae)⟩)))
   (au (bj (i:=2) t8.nd rfl (Or.inl rfl) (cN ae))
   (au (Po jW (Pq (aP (EZ rfl) rfl B.any boot_any (aa (fe rfl KU (jv (pv 1)) (fun s H fp=>⟨cb (i:=0) KU.nd rfl (Or.inl rfl),fq,fZ (HH hu) (pv 0) (cN ae) (a8 _)⟩)) ae)) (fun _=>rfl))
    (au (bj (i:=3) t8.nd rfl (Or.inr rfl) (fe rfl KW (jv (pv 1)) (fun s H fp=>⟨cb (i:=0) KW.nd rfl (Or.inr rfl),
      vN (PW.pt (pw_and (bh (HH hu) (pv 0) (cN ae) (a8 _)) (pw_and1 (ff (dQ (aP (N9 K rfl rfl) rfl B.any boot_any (aa (fe rfl Xf (EV K rfl (pv 1)) (fun s H fp=>⟨cb (i:=0) Xg rfl (Or.inl rfl),fq,fZ (Ad K rfl) (aM (zw K rfl) (pv 1) ah (fun _ _=>rfl)) (jY (O7 K rfl) (pv 0) (j3 ah) j0) rfl⟩)) ae))))))),
      aM (zw K rfl) (pv 0) ah (fun _ _=>rfl)⟩)))
    (au (bz (bh (wq hu) (pv 3) (cN ae) (a8 _)) (aE (aY sY)) bH)
    (au (mG (j9 nP Ni Nj vD (pv 2) (aa (aM cq (pv 3) ah (fun _ _=>rfl)) ae)))
    (aE (bj (i:=1) t8.nd rfl (Or.inr rfl) (fe rfl KY (jv (pv 1)) (fun s H fp=>⟨cb (i:=0) KY.nd rfl (Or.inl rfl),fq,
      fe rfl Xh (EV K rfl (pv 0)) (fun s H fp=>⟨cb (i:=0) Xi rfl (Or.inl rfl),vN (bh oh (pv 0) (aM (zw K rfl) (pv 1) ah (fun _ _=>rfl)) (a8 _)),pv 0⟩)⟩))))))))
   (aE (aY (pv 2))))),?_⟩
  refine⟨_,rfl,l,rfl,⟨_,ag.of hl⟩,fun xY oG=>?_⟩;refine lr (xs:=ws) (fun i ys τ H1=>∃t0:Option V,τ = [t0]/\H1 xY=some (.lst ys)/\aw H H1/\gW (fun a=>a≠xY) H1 ys (rows.take i)) ⟨none,rfl,af,aI oG,.nil⟩ (fun i ys τ H1 ⟨_,_,z1,z2,_⟩=>⟨z1,ag.of (z2 _ _ hl)⟩) ?_ ?_
  ·rintro i x ys τ H1 hx ⟨t0,rfl,h1,S1,uT⟩
   obtain⟨a,r,rfl,kC,_,nC⟩:=p9 hR hx;have bV:i < ws.length:=(cZ.mp hx).1;have tk:rows.take (i+1)=rows.take i ++ [r]:=by rw[fY,kC];rfl
   refine⟨_,rfl,a,_,rfl,.inl (ag.of (S1 _ _ nC)),fun c hc=>?_⟩;have Sc:=aI (o:= .lst (r.map V.str)) hc;have KZ:c≠xY:=bb (a7 h1 hc);refine⟨Sc _ _ h1,?_,cw_next bV ⟨_,rfl,af,fun b o hb=>?_,?_⟩⟩
   ·have h2:=nR uT
    have h3:=hS.cg;rw[c4]at h2;rw[aA];omega
   ·rw[ak (a7 hb oG)];exact Sc _ _ (S1 b o hb)
   ·rw[tk]
    refine vx (mx uT fun b xs nb hb=>⟨nb,by rw[ak nb];exact Sc _ _ hb⟩) KZ ?_
    rw[ak KZ];exact af
  ·rintro Xj τ H1 ⟨t0,rfl,h1,S1,uT⟩
   rw[nR hR,fX]at uT;refine⟨aN _,fun fa jo=>?_⟩;have Sf:=aI (o:= .lst []) jo;have qP:H fa=none:=S1.free jo;refine⟨fun m σ H2=>∃rest lv acc la,JC H rows l fa m σ H2 rest lv acc la,⟨_,rows,Xj,[],xY,⟨none,rfl⟩,rfl,Sf _ _ h1,mx uT fun b xs nb hb=>⟨a7 hb jo,Sf _ _ hb⟩,a7 h1 jo,af,hS,eR,S1.trans Sf,by have:=zh hS.short;have:=hS.cg;simp only[yP];omega,by cases cG (total rows) rows <;> rfl⟩,?_⟩
   rintro m σ H2 ⟨rest,lv,acc,la,R⟩;obtain⟨v3,rfl⟩:=R.st;refine⟨_,rfl,la,rfl,⟨_,ag.of R.nB⟩,fun pb K0=>?_⟩;refine lr (xs:=lv) (fun i ys τ H3=>∃t0:Option V,τ = [t0]/\ys=((rest.take i).map fun r=>!r.isEmpty).map V.bl/\H3 pb=some (.lst ys)/\aw H2 H3) ⟨none,rfl,rfl,af,aI K0⟩ (fun i ys τ H3 ⟨_,_,_,z1,z2⟩=>⟨z1,ag.of (z2 _ _ R.nB)⟩) ?_ ?_
   ·rintro i x ys τ H3 hx ⟨t0,rfl,rfl,h3,S3⟩
    obtain⟨a,r,rfl,kC,_,nC⟩:=p9 R.rr hx;have bV:i < lv.length:=(cZ.mp hx).1;have tk:rest.take (i+1)=rest.take i ++ [r]:=by rw[fY,kC];rfl
    have uU:=eN kC;refine⟨_,rfl,aN _,fun z hz=>?_⟩;have Sz:=aI (o:= .lst []) hz;refine ne_nil (Sz _ _ (S3 _ _ nC)) af (R.sm.nm r uU) ?_;refine⟨Sz _ _ h3,?_,cw_next bV ⟨_,rfl,by rw[tk,cp,cp];rfl,af,fun b o hb=>by rw[ak (a7 hb K0)];exact Sz _ _ (S3 b o hb)⟩⟩
    have h4:=R.sm.cg;rw[ar,ar,c4,aA];omega
   ·rintro bs τ H3 ⟨t0,rfl,rfl,h3,S3⟩
    rw[nR R.rr,fX]at h3;refine⟨pb,_,rfl,ag.of h3,_,rfl,?_⟩;have Xk:((rest.map fun r=>!r.isEmpty).any id)=rest.any fun r=>!r.isEmpty:=by rw[MH];rfl
    rw[Xk];have m6:=S3 _ _ R.nB;have qQ:=S3 _ _ R.jo;have uV:gW (fun a=>a≠fa) H3 lv rest:=mx R.rr fun b xs nb hb=>⟨nb,S3 _ _ hb⟩;have K1:=R.same.trans S3;refine dw (fun hA=>?_) (fun hA=>?_)
    ·refine⟨fun aV H'=>∃m',m' < m /\ ∃rest lv acc la,JC H rows l fa m' aV H' rest lv acc la,fun _ _ z=>z,?_⟩
     refine⟨_,rfl,la,rfl,⟨_,ag.of m6⟩,fun pc CJ=>?_⟩;refine lr (xs:=lv) (fun i ys τ H4=>∃t0:Option V,τ = [t0,some (.ref la)]/\ys=(cX rest (rest.take i)).map V.str/\H4 pc=some (.lst ys)/\aw H3 H4) ⟨none,rfl,rfl,af,aI CJ⟩ (fun i ys τ H4 ⟨_,_,_,z1,z2⟩=>⟨z1,ag.of (z2 _ _ m6)⟩) ?_ ?_
     ·rintro i x ys τ H4 hx ⟨t0,rfl,rfl,h4,S4⟩
      obtain⟨a,r,rfl,kC,_,nC⟩:=p9 uV hx;have bV:i < lv.length:=(cZ.mp hx).1;have tk:rest.take (i+1)=rest.take i ++ [r]:=by rw[fY,kC];rfl
      have uU:=eN kC;have JE:=S4 _ _ nC;refine⟨_,rfl,aN _,fun z hz=>?_⟩;have Sz:=aI (o:= .lst []) hz;refine ne_nil (Sz _ _ JE) af (R.sm.nm r uU) ⟨_,rfl,?_⟩;have h5:=Sz _ _ h4;cases r with
      |nil=>exact cw_next bV ⟨_,rfl,by rw[tk,sF];show _=(_ ++ []).map _;rw[k7],h5,S4.trans Sz⟩
      |cons y t =>
       refine⟨_,rfl,la,rfl,⟨_,ag.of (Sz _ _ (S4 _ _ m6))⟩,fun pd CK=>?_⟩;have CL:pc≠pd:=a7 h5 CK;refine lr (xs:=lv) (fun j ys τ H6=>∃t1:Option V,τ = [t1,some (.ref a)]/\ys=((rest.take j).map fun o=>decide (y∈o.drop 1)).map V.bl/\H6 pd=some (.lst ys)/\aw (upd H4 z (.lst [])) H6) ⟨none,rfl,rfl,af,aI CK⟩ (fun j ys τ H6 ⟨_,_,_,z1,z2⟩=>⟨z1,ag.of (z2 _ _ (Sz _ _ (S4 _ _ m6)))⟩) ?_ ?_
       ·rintro j x ys τ H6 K2 ⟨t1,rfl,rfl,h6,S6⟩
        obtain⟨b,o,rfl,Xl,_,Xm⟩:=p9 uV K2;have d5:j < lv.length:=(cZ.mp K2).1;have rT:rest.take (j+1)=rest.take j ++ [o]:=by rw[fY,Xl];rfl
        have K3:=S4.trans (Sz.trans S6);refine⟨_,rfl,a,_,0,.str y,rfl,rfl,ag.of (K3 _ _ nC),xU,?_⟩;refine⟨_,rfl,_,rfl,b,_,rfl,ag.of (K3 _ _ Xm),fun p2 rG=>?_⟩;have ec:fu (o.map V.str) (some 1) none=(o.drop 1).map V.str:=by
         rw[show(1:Int)=((1:Nat):Int) from rfl,zY,List.map_drop]
        rw[ec];have S7:=aI (o:= .lst ((o.drop 1).map V.str)) rG;refine⟨p2,_,rfl,.inl (ag.of af),rfl,sG _,?_⟩;rw[aj cz,vP];refine⟨S7 _ _ h6,?_,cw_next d5 ⟨_,rfl,by rw[rT,cp,cp];rfl,af,fun c u hc=>by rw[ak (a7 hc CK)];exact S7 _ _ (S6 c u hc)⟩⟩
        have h8:=R.sm.cg;rw[ar,ar,c4,aA];omega
       ·rintro bs2 τ H6 ⟨t1,rfl,rfl,h6,S6⟩
        rw[nR uV,fX]at h6;refine⟨pd,_,rfl,ag.of h6,_,rfl,?_⟩;have eb:((rest.map fun o=>decide (y∈o.drop 1)).any id)=busy rest y:=by unfold busy;rw[MH];rfl
        rw[eb];have CM:=Sz.trans S6;cases hb:busy rest y with
        |true =>
         refine cw_next bV ⟨_,rfl,?_,S6 _ _ h5,S4.trans CM⟩;rw[tk,sF];show _=(_++(if busy rest y then cX rest [] else y::cX rest [])).map _;rw[hb];show _=(_ ++ []).map _;rw[k7]
        |false =>
         refine⟨_,rfl,a,_,0,.str y,rfl,rfl,ag.of (CM _ _ JE),xU,S6 _ _ h5,?_,cw_next bV ⟨_,rfl,?_,af,fun c u hc=>by rw[ak (a7 hc CJ)];exact CM _ _ (S4 c u hc)⟩⟩
         ·have h8:=zF rest (rest.take i)
          have h9:=R.sm.cg;rw[c4]at h8;rw[ar,aA];omega
         ·rw[tk,sF]
          show _=(_++(if busy rest y then cX rest [] else y::cX rest [])).map _;rw[hb,cp];rfl
     ·rintro fr τ H4 ⟨t0,rfl,rfl,h4,S4⟩
      rw[nR uV,fX]at h4;have K4:∀x∈cX rest rest,Nm x:=fun x hx=>by
       obtain⟨r,hr,e⟩:=vI hx;exact R.sm.nm r hr x e
      have Xn:=zp R.nd rest;refine⟨_,rfl,aN _,fun z hz=>?_⟩;have Sz:=aI (o:= .lst []) hz;refine eq_nil (Sz _ _ h4) af K4 ⟨_,rfl,?_⟩;have xZ:lu rest=(cX rest rest).head?:=Xn.symm;have CN:=K1.trans (S4.trans Sz);have h5:=Sz _ _ h4;have JF:=Sz _ _ (S4 _ _ m6);have BI:=Sz _ _ (S4 _ _ qQ);generalize cX rest rest=fr at xZ h5 K4 ⊢;cases fr with
      |nil =>
       refine qn ?_ _ CN;rw[R.eq,EB hA xZ];rfl
      |cons n ft =>
       have e:lu rest=some n:=xZ;have lt:=sD (sM e);generalize hG:upd H4 z (.lst [])=G at CN h5 JF BI Sz ⊢;have Xo:gW (fun a=>a≠fa) G lv rest:=mx uV fun b xs nb hb=>⟨nb,Sz _ _ (S4 _ _ hb)⟩;refine⟨_,rfl,.inl ⟨rfl,_,ag.of BI⟩,_,rfl,pc,_,0,.str n,rfl,rfl,ag.of h5,xU,fa,_,_,rfl,rfl,BI,by have:=R.lim;rw[ar,aA];omega,?_⟩
       have rV:pc≠fa:=bb (a7 qQ CJ);have h6:(upd G fa (.lst (acc.map V.str ++ [.str n]))) pc=some (.lst ((n::ft).map V.str)):=by rw[ak rV];exact h5
       have BJ:(upd G fa (.lst (acc.map V.str ++ [.str n]))) la=some (.lst lv):=by rw[ak R.ne];exact JF
       have xa:(upd G fa (.lst (acc.map V.str ++ [.str n]))) fa=some (.lst ((acc ++ [n]).map V.str)):=by rw[af,cp];rfl
       have K5:aw H (upd G fa (.lst (acc.map V.str ++ [.str n]))):=fun b o hb=>by rw[ak (a7 hb qP)];exact CN b o hb
       have CO:gW (fun a=>a≠fa) (upd G fa (.lst (acc.map V.str ++ [.str n]))) lv rest:=mx Xo fun b xs nb hb=>⟨nb,by rw[ak nb];exact hb⟩
       generalize upd G fa (.lst (acc.map V.str ++ [.str n]))=G6 at h6 BJ xa K5 CO ⊢;refine⟨_,rfl,la,rfl,⟨_,ag.of BJ⟩,fun le hle=>?_⟩;have Xp:le≠fa:=bb (a7 xa hle);refine lr (xs:=lv) (fun i ys τ H7=>∃t0:Option V,τ = [t0,some (.ref pc)]/\H7 le=some (.lst ys)/\aw G6 H7/\gW (fun a=>a≠fa/\a≠le) H7 ys (L2.without n (rest.take i))) ⟨none,rfl,af,aI hle,.nil⟩ (fun i ys τ H7 ⟨_,_,z1,z2,_⟩=>⟨z1,ag.of (z2 _ _ BJ)⟩) ?_ ?_
       ·rintro i x ys τ H7 hx ⟨t0,rfl,h7,S7,uW⟩
        obtain⟨a,r,rfl,kC,_,nC⟩:=p9 CO hx;have bV:i < lv.length:=(cZ.mp hx).1;have tk:rest.take (i+1)=rest.take i ++ [r]:=by rw[fY,kC];rfl
        have uU:=eN kC;have BK:=S7 _ _ nC;have JG:=S7 _ _ h6;refine⟨_,rfl,a,rfl,⟨_,ag.of BK⟩,fun b1 pj=>?_⟩;have Xq:a≠b1:=a7 BK pj;have Xr:pc≠b1:=a7 JG pj;have K7:b1≠le:=bb (a7 h7 pj);have Xs:b1≠fa:=bb (a7 (S7 _ _ xa) pj);refine lr (xs:=r.map V.str) (fun j zs lT H8=>∃t1:Option V,lT = [t1,some (.ref pc)]/\zs=((r.take j).filter fun y=>!decide (y=n)).map V.str/\H8=upd H7 b1 (.lst zs)) ⟨none,rfl,rfl,rfl⟩ (fun j zs lT H8 ⟨_,_,_,z⟩=>by rw[z];exact⟨af,ag.of (by rw[ak Xq];exact BK)⟩) ?_ ?_
        ·rintro j x zs lT H8 g8 ⟨t1,rfl,rfl,rfl⟩
         have d5:j < (r.map V.str).length:=(cZ.mp g8).1;have rW:j < r.length:=by simpa using d5
         obtain rfl:V.str r[j]=x:=by simpa [rW] using g8
         have rT:r.take (j+1)=r.take j ++ [r[j]]:=by rw[fY,aQ rW];rfl
         refine⟨_,rfl,_,rfl,pc,_,0,.str n,rfl,rfl,ag.of (by rw[ak Xr];exact JG),xU,rfl,_,rfl,?_⟩
         refine dw (fun dZ=>?_) (fun dZ=>?_)
         ·have Vn:r[j]≠n:=fun z=>by rw[z]at dZ;simp at dZ
          refine⟨_,rfl,af,?_,cw_next d5 ⟨_,rfl,?_,by rw[nY]⟩⟩
          ·have h1:=pT (fun y=>!decide (y=n)) (r.take j)
           have h2:(r.take j).length<=r.length:=by rw[c4];omega
           have h3:=R.sm.short r uU;rw[ar,aA];omega
          ·rw[rT,y8,cp,D5 (by simpa using Vn)];rfl
         ·have hy:r[j]=n:=by
           by_cases z:r[j]=n
           ·exact z
           ·exact absurd (by simp[z]) dZ
          refine cw_next d5 ⟨_,rfl,?_,rfl⟩;rw[rT];simp[hy]
        ·rintro zs lT H8 ⟨t1,rfl,rfl,rfl⟩
         rw[ar,fX];have Sb:=aI (o:= .lst ((r.filter fun y=>!decide (y=n)).map V.str)) pj;refine⟨Sb _ _ h7,?_,cw_next bV ⟨_,rfl,af,fun b o hb=>?_,?_⟩⟩
         ·have h1:=nR uW
          have h2:(L2.without n (rest.take i)).length<=rest.length:=by unfold L2.without;rw[ar,c4];omega
          have h3:=R.sm.cg;rw[aA];omega
         ·rw[ak (a7 hb hle)];exact Sb _ _ (S7 b o hb)
         ·have e1:L2.without n (rest.take (i+1))=L2.without n (rest.take i) ++ [r.filter fun y=>!decide (y=n)]:=by rw[tk];unfold L2.without;rw[cp];rfl
          rw[e1];refine vx (mx uW fun b xs nb hb=>⟨nb,by rw[ak nb.2];exact Sb _ _ hb⟩) ⟨Xs,K7⟩ ?_
          rw[ak K7];exact af
       ·rintro ys τ H7 ⟨t0,rfl,h7,S7,uW⟩
        rw[nR CO,fX]at uW;refine⟨_,by rw[R.mm];exact lt,L2.without n rest,ys,acc ++ [n],le,⟨_,rfl⟩,rfl,h7,mx uW fun b xs nb hb=>⟨nb.1,hb⟩,Xp,S7 _ _ xa,NK R.sm,ED R.nd,K5.trans S7,?_,?_⟩
        ·have:=R.lim;rw[eO,yJ];omega
        ·rw[R.eq,EC hA e,Option.map_map]
         congr 1
         funext z
         simp
    ·refine⟨_,rfl,qs acc ?_ fa H3 qP K1 qQ⟩
     rw[R.eq,EA (by simpa using hA)]
     show some (acc ++ [])=some acc;rw[k7]
structure eF (mg:Str->Option Value):Prop where
 dH:mg "isinstance" = none
 str:mg "str" = none
 dict:mg "dict" = none
 sorted:mg "sorted" = none
theorem dj:bootBuiltins "isinstance" = some (.builtin "isinstance"):=by decide +kernel
theorem boot_str:bootBuiltins "str" = some (.type "str"):=by decide +kernel
theorem boot_dict:bootBuiltins "dict" = some (.type "dict"):=by decide +kernel
theorem boot_sorted:bootBuiltins "sorted" = some (.builtin "sorted"):=by decide +kernel
theorem boot_all:bootBuiltins "all" = some (.builtin "all"):=by decide +kernel
theorem ite_ff {A:Prop}{k:Bool} (hk:k=false) (h:B):if k=true then A else B:=by subst hk;exact h
theorem ite_tt {A:Prop}{k:Bool} (hk:k=true) (h:A):if k=true then A else B:=by subst hk;exact h
theorem R3:b6 ["thing"] ["thing"] (aX sS):=⟨rfl,rfl,rfl,by decide +kernel,rfl,by decide +kernel,by decide +kernel⟩
abbrev Vo:Expr:=f' (oF (cS (cR sS) 1))
theorem IJ:cM ["thing"] (aX sS) ["sign"] [none] (dX Vo):=⟨rfl,by decide +kernel,by decide +kernel,rfl,f6 (by decide +kernel),by decide +kernel⟩
theorem R4:b6 ["family","thing"] ["family","thing"] (aX Ar):=⟨rfl,rfl,rfl,by decide +kernel,rfl,by decide +kernel,by decide +kernel⟩
theorem O9 {g:Str->V} (ha:H a=some (.lst (ps.map V.str))) (hd:H d=some (.dK kvs)) (hg:∀x∈ps,ck kvs (Sum.inr x)=some (g x)) (hp:H p=none) (hs:ps.length<=100)
  (q:Q (.ref p) (upd H p (.lst (ps.map g)))):kb (oO K a) (tN 0) A4 (ID (wY 1) (wY 0)) [none,some (.ref d)] Q p H:=by
 have Xt:a≠p:=a7 ha hp;have x5:d≠p:=a7 hd hp;refine lr (xs:=ps.map V.str) (fun j zs τ H2=>∃t1:Option V,τ = [t1,some (.ref d)]/\zs=(ps.take j).map g/\H2=upd H p (.lst zs)) ⟨none,rfl,rfl,rfl⟩ (fun j zs τ H2 ⟨_,_,_,z⟩=>by rw[z];exact⟨af,ag.of (by rw[ak Xt];exact ha)⟩) ?_ ?_
 ·rintro j x zs τ H2 hx ⟨t1,rfl,rfl,rfl⟩
  have d5:j < (ps.map V.str).length:=(cZ.mp hx).1;have rW:j < ps.length:=by simpa using d5
  obtain rfl:V.str ps[j]=x:=by simpa [rW] using hx
  have rT:ps.take (j+1)=ps.take j ++ [ps[j]]:=by rw[fY,aQ rW];rfl
  refine⟨_,rfl,_,rfl,d,g ps[j],rfl,?_,af,?_,cw_next d5 ⟨_,rfl,?_,by rw[nY]⟩⟩
  ·rw[<-hg _ (fV rW)];exact lK.k (k:=Sum.inr ps[j]) (by rw[ak x5];exact hd)
  ·rw[ar,c4,aA];omega
  ·rw[rT,cp];rfl
 ·rintro zs τ H2 ⟨t1,rfl,rfl,rfl⟩
  rw[ar,fX];exact q
def rowsOf (L:Str->List Str) (ps:List Str):List (List Str):=ps.map L ++ [ps]
def Vp (e:Expr):Expr:=match e with|.BinOp a _ _ _=>a|_=>.Constant .none 0 ⟨0,0,0,0⟩
def fw (H:Hp) (vs:List V) (dc:List (Str×List Str)):Prop:=Paired (fun y p=>∃a b,y=V.ref a/\H a=some (.tup [.str p.1,.ref b])/\H b=some (.tup (p.2.map V.str))) vs dc
theorem fw.keep (h:fw H vs dc) (s:∀b xs,H b=some (.tup xs)->H' b=some (.tup xs)):fw H' vs dc:=Paired.imp' (fun _ _ ⟨a,b,e,q,r⟩=>⟨a,b,e,s _ _ q,s _ _ r⟩) h
theorem fw.same (h:fw H vs dc) (s:aw H H'):fw H' vs dc:=h.keep fun _ _ e=>s _ _ e
theorem fw.length (h:fw H vs dc):vs.length=dc.length:=fk h
theorem fw.append {H:Hp}{vs:List V}{dc:List (Str×List Str)}{a b:Addr}{p:Str×List Str}:fw H vs dc->H a=some (.tup [.str p.1,.ref b])->H b=some (.tup (p.2.map V.str))->fw H (vs ++ [.ref a]) (dc ++ [p])
 |.nil,q,r=>.cons ⟨a,b,rfl,q,r⟩ .nil
 |.cons x t,q,r=>.cons x (fw.append t q r)
def d6 (H:Hp) (kvs:List (Key×V)) (L:Str->List Str) (x:Str):Prop:= ∃a,ck kvs (Sum.inr x)=some (.ref a)/\H a=some (.lst ((L x).map V.str))
theorem d6.same (h:d6 H kvs L x) (s:aw H H'):d6 H' kvs L x:=let ⟨a,e,q⟩:=h;⟨a,e,s _ _ q⟩
theorem QY (h:∀x∈ps,d6 H kvs L x):∃g:Str->V,(∀x∈ps,ck kvs (Sum.inr x)=some (g x))/\gW (fun _=>True) H (ps.map g) (ps.map L):=by
 refine⟨fun x=>(ck kvs (Sum.inr x)).getD .aD,fun x hx=>?_,?_⟩
 ·obtain⟨a,e,_⟩:=h x hx;show _=some ((ck kvs (Sum.inr x)).getD V.aD);rw[e];rfl
 ·induction ps with
  |nil=>exact .nil
  |cons x ps ih =>
   obtain⟨a,e,q⟩:=h x aZ;exact .cons ⟨a,by show(ck kvs (Sum.inr x)).getD V.aD=_;rw[e];rfl,trivial,q⟩ (ih fun y hy=>h y (a9 _ hy))
theorem Fn:∀ {m:Nat}{rows:List (List Str)}{o:List Str},cG m rows=some o->o.length<=m
 |0,rows,o,h=>by
  unfold cG at h
  first
   |(cases h;exact ay _)
   |(split at h <;> first|(cases h;exact ay _)|cases h)
 |m+1,rows,o,h=>by
  unfold cG at h;split at h
  ·cases e:lu rows with
   |none=>rw[e]at h;cases h
   |some n =>
    rw[e]at h;obtain⟨o',h',rfl⟩:=ie.mp h;have:=Fn h';rw[b5];omega
  ·cases h;exact aN _
theorem T4 {ws:List V}{E:XK} (hl:H l=some (.lst ws)) (hR:gW (fun _=>True) H ws rows) (hS:Small rows) (eR:∀r∈rows,r.Nodup) (qn:cG (total rows) rows=none -> ∀H',aw H H'->Q .aD H')
  (qs:∀o,cG (total rows) rows=some o -> ∀p H',H p=none->aw H H'->H' p=some (.lst (o.map V.str))->Q (.ref p) H'):qO [.ref l] H Q E:=by unfold qO;exact⟨l,ws,rows,rfl,hl,hR,hS,eR,qn,qs⟩
@[irreducible] def qR:Sp:=fun vs H Q _=>∃ (d oa:Addr) (kvs:List (Key×V)) (L:Str->List Str) (k:Str) (own:List Str),vs = [.ref d,.str k,.ref oa]/\H d=some (.dK kvs)/\H oa=some (.lst (own.map V.str))/\(∀x∈own,d6 H kvs L x)/\Small (rowsOf L own)/\(∀r∈rowsOf L own,r.Nodup) /\
 (cG (total (rowsOf L own)) (rowsOf L own)=none -> ∀H',aw H H'->Q .aD H')/\(∀o,cG (total (rowsOf L own)) (rowsOf L own)=some o -> ∀p H',H p=none->aw H H'->H' p=some (.lst ((k::o).map V.str))->Q (.ref p) H')
theorem IK {oa:Addr}{k:Str}{E:XK} (hd:H d=some (.dK kvs)) (ho:H oa=some (.lst (own.map V.str))) (hl:∀x∈own,d6 H kvs L x) (hS:Small (rowsOf L own)) (eR:∀r∈rowsOf L own,r.Nodup)
  (qn:cG (total (rowsOf L own)) (rowsOf L own)=none -> ∀H',aw H H'->Q .aD H') (qs:∀o,cG (total (rowsOf L own)) (rowsOf L own)=some o -> ∀p H',H p=none->aw H H'->H' p=some (.lst ((k::o).map V.str))->Q (.ref p) H') :
  qR [.ref d,.str k,.ref oa] H Q E:=by unfold qR;exact⟨d,oa,kvs,L,k,own,rfl,hd,ho,hl,hS,eR,qn,qs⟩
abbrev K8:List Str:= ["_law_lines","_law_kind","_law_own","_law_found"]
theorem JH:b6 K8 ["_law_lines","_law_kind","_law_own"] (aX tF):=⟨rfl,rfl,rfl,by decide +kernel,rfl,by decide +kernel,by decide +kernel⟩
abbrev Xu:Expr:=Vp (f' (jD (cS (cR tF) 0)))
theorem JI:cM K8 (aX tF) ["_law_one","_law_lines"] [none,some 0] (dX Xu):=⟨rfl,by decide +kernel,by decide +kernel,rfl,f6 (by decide +kernel),by decide +kernel⟩
theorem T5 {fM:Addr}{CP:FuncData} (F:bg K "_law_line" "_law_line" tF f fd) (B:cQ mg) (FM:bg K "_law_merged" "_law_merged" jZ fM CP) (bM:Binds K CP ["_law_rows"] []) (mM:mg "_law_merged" = some (.ref fM)) :
  aB P w K mg base aC 2 f fd ["_law_lines","_law_kind","_law_own"] qR:=by
 have GM:aB P w K mg base aC 1 fM CP ["_law_rows"] qO:=T3 FM B;refine F.ok JH (fun vs H Q E h=>?_) (fun aR A outer s H vs Q E hr h=>?_)
 ·unfold qR at h;obtain⟨d,oa,kvs,L,k,own,rfl,_⟩:=h;rfl
 ·unfold qR at h
  obtain⟨d,oa,kvs,L,k,own,rfl,hd,ho,hl,hS,eR,qn,qs⟩:=h;have hu:=hr.units;have i5:=y9 (za (show 1<=64 by decide) _) hu
  refine⟨_,au (bj (i:=3) JH.nd rfl (Or.inl rfl) (aF GM hr rfl mM FM.kp bM .nil aG (aa (bq HG (fe rfl JI (jv (pv 2)) (fun s H fp=>⟨cb (i:=0) JI.nd rfl (Or.inl rfl),fq,Ae i5 (pv 1) (pv 0) (fun _ _=>rfl)⟩)) (cN (aa (fo pX rfl B.list boot_list (aa (pv 2) ae)) ae))) ae)))
   (au (bz (bh Hx (pv 3) sY (a8 _)) (aE (aY sY)) bH)
   (aE (aY (bq HG (cN (aa (pv 1) ae)) (pv 3))))),?_⟩
  obtain⟨g,hg,hR⟩:=QY hl;have g9:own.length<=20:=hS.short own (jt _ aZ);refine⟨_,rfl,oa,rfl,⟨_,ag.of ho⟩,fun c hc=>O9 ho hd hg hc (by omega) ?_⟩
  have S1:=aI (o:= .lst (own.map g)) hc;refine⟨_,rfl,oa,_,rfl,.inl (ag.of (S1 _ _ ho)),fun c1 nD=>?_⟩;have S2:=S1.trans (aI (o:= .lst (own.map V.str)) nD);refine⟨by show 1<=sizeLine;rw[aA];decide,fun c2 dG=>?_⟩
  have S3:=S2.trans (aI (o:= .lst [V.ref c1]) dG);have k1:upd (upd H c (.lst (own.map g))) c1 (.lst (own.map V.str)) c=some (.lst (own.map g)):=by rw[ak (a7 af nD)];exact af
  refine⟨c,c2,_,_,rfl,rfl,by rw[ak (a7 k1 dG)];exact k1,af,by rw[ar,aA];show _+1<=_;omega,fun c3 pB=>?_⟩
  have S4:=S3.trans (aI (o:= .lst (own.map g ++ [V.ref c1])) pB);have k4:upd (upd (upd (upd H c (.lst (own.map g))) c1 (.lst (own.map V.str))) c2 (.lst [V.ref c1])) c3 (.lst (own.map g ++ [V.ref c1])) c1=some (.lst (own.map V.str)):=by
   have k2:upd (upd (upd H c (.lst (own.map g))) c1 (.lst (own.map V.str))) c2 (.lst [V.ref c1]) c1=some (.lst (own.map V.str)):=by rw[ak (a7 af dG)];exact af
   rw[ak (a7 k2 pB)];exact k2
  refine T4 (rows:=rowsOf L own) af (vx (mx hR fun a xs _ e=>⟨trivial,S4 _ _ e⟩) trivial k4) hS eR (fun e H5 S5=>?_) (fun o e p H5 hp S5 h5=>?_)
  ·exact⟨_,rfl,rfl,_,rfl,qn e H5 (S4.trans S5)⟩
  ·refine⟨_,rfl,rfl,_,rfl,?_⟩
   refine⟨_,rfl,by show 1<=sizeLine;rw[aA];decide,fun c5 uX=>?_⟩
   have S6:=S5.trans (aI (o:= .lst [V.str k]) uX);have hz:=(Fn e);have ht:=zh hS.short;have hfw:=hS.cg;refine⟨_,rfl,c5,p,_,_,rfl,rfl,af,by rw[ak (a7 h5 uX)];exact h5,by rw[ar,aA];show 1+_<=_;omega,fun c6 K9=>?_⟩
   exact qs o e c6 _ (S4.free (S6.free K9)) (S4.trans (S6.trans (aI K9))) af
theorem EE {α:Type}:∀ (l:List α) (k:Nat) (h:k < l.length),(l[k]::l.eraseIdx k).Perm l
 |[],k,h=>absurd h (mq _)
 |x::l,0,_=>ja _
 |x::l,k+1,h=>(List.Perm.swap _ _ _).trans ((EE l k (DQ h)).cons x)
theorem Fo {α β:Type} (f:α->β):∀ (l:List α) (k:Nat),(l.map f).eraseIdx k=(l.eraseIdx k).map f
 |[],_=>rfl
 |_::_,0=>rfl
 |x::l,k+1=>d9 (f x :: ·) (Fo f l k)
theorem boot_min:bootBuiltins "min" = some (.builtin "min"):=by decide +kernel
theorem T6 {d:Int} (h0:0<=d) (h1:d < 7):∃v:Int,eQ [V.int 0,.int 1,.int 1,.int 2,.int 2,.int 3,.int 4] d=some (.int v)/\0<=v/\v<=4:=by
 obtain⟨n,rfl⟩:=eP h0
 match n,(show n < 7 by omega) with
 |0,_=>exact⟨0,bQ rfl,by decide,by decide⟩
 |1,_=>exact⟨1,bQ rfl,by decide,by decide⟩
 |2,_=>exact⟨1,bQ rfl,by decide,by decide⟩
 |3,_=>exact⟨2,bQ rfl,by decide,by decide⟩
 |4,_=>exact⟨2,bQ rfl,by decide,by decide⟩
 |5,_=>exact⟨3,bQ rfl,by decide,by decide⟩
 |6,_=>exact⟨4,bQ rfl,by decide,by decide⟩
theorem two_at {d a b m:Int} (h0:0<=d) (h1:d < 2) (ha:0<=a/\a < m) (hb:0<=b/\b < m):∃v:Int,eQ [V.int a,.int b] d=some (.int v)/\0<=v/\v < m:=by
 obtain⟨n,rfl⟩:=eP h0
 match n,(show n < 2 by omega) with
 |0,_=>exact⟨a,bQ rfl,ha⟩
 |1,_=>exact⟨b,bQ rfl,hb⟩
@[irreducible] def qF:Sp:=fun vs H Q _=>∃ (p n:Addr) (ys:List Str),vs = [.ref p,.ref n]/\cf p H/\p≠n/\H n=some (.lst (ys.map V.str))/\ys.length<=20 /\
 ∀ (l:Addr) (own rest:List Str) (H':Hp),H l=none->(own++rest).Perm ys->own.length<=4->aT p H H'->H' l=some (.lst (own.map V.str))->Q (.ref l) H'
theorem R5 {n:Addr}{ys:List Str}{E:XK} (hp:cf p H) (K':p≠n) (hn:H n=some (.lst (ys.map V.str))) (hl:ys.length<=20)
  (q:∀ (l:Addr) (own rest:List Str) (H':Hp),H l=none->(own++rest).Perm ys->own.length<=4->aT p H H'->H' l=some (.lst (own.map V.str))->Q (.ref l) H'):qF [.ref p,.ref n] H Q E:=by
 unfold qF;exact⟨p,n,ys,rfl,hp,K',hn,hl,q⟩
abbrev Vq:List Str:= ["_law_pot_here","_law_made","_law_left","_law_own","_law_turn","_law_at"]
theorem tT:b6 Vq ["_law_pot_here","_law_made"] (aX zE):=⟨rfl,rfl,rfl,by decide +kernel,rfl,by decide +kernel,by decide +kernel⟩
theorem R6 {pq:FuncData} (F:bg K "_law_parents" "_law_parents" zE f fd) (B:cQ mg) (FD:bg K "_law_digit" "_law_digit" tE fD pq) (bD:Binds K pq ["_law_pot_here","_law_many"] []) (mD:mg "_law_digit" = some (.ref fD)) :
  aB P w K mg base aC 2 f fd ["_law_pot_here","_law_made"] qF:=by
 have GD:aB P w K mg base aC 1 fD pq ["_law_pot_here","_law_many"] gA:=zW FD;refine F.ok tT (fun vs H Q E h=>?_) (fun aR A outer s H vs Q E hr h=>?_)
 ·unfold qF at h;obtain⟨p,n,ys,rfl,_⟩:=h;rfl
 ·unfold qF at h
  obtain⟨p,n,ys,rfl,hp,K',hn,hlen,q⟩:=h;have aU:bf 1 _:=hr;refine⟨_,au (bj (i:=2) tT.nd rfl (Or.inl rfl) (fo pX rfl B.list boot_list (aa (pv 1) ae)))
   (au (bj (i:=3) tT.nd rfl (Or.inl rfl) (cN ae))
   (au (jx jW rfl (jX rfl B.range (aa (aP (EJ rfl) rfl B.min boot_min (aa (aP cH rfl B.len cA (aa (pv 2) ae))
     (aa (aM cq (cN (aa ah (aa ah (aa ah (aa ah (aa ah (aa ah (aa ah ae)))))))) (aF GD aU rfl mD FD.kp bD .nil aG (aa (pv 0) (aa ah ae))) (fun _ _=>rfl)) ae))) ae)) (cb (i:=4) tT.nd rfl (Or.inl rfl))
    (au (bj (i:=5) tT.nd rfl (Or.inl rfl) (aM cq (cN (aa (aF GD aU rfl mD FD.kp bD .nil aG (aa (pv 0) (aa (aP cH rfl B.len cA (aa (pv 2) ae)) ae)))
      (aa (bq iG (aP cH rfl B.len cA (aa (pv 2) ae)) ah) ae))) (aF GD aU rfl mD FD.kp bD .nil aG (aa (pv 0) (aa ah ae))) (fun _ _=>rfl)))
    (aE (mG (j9 nP Ni Nj vD (pv 3)
     (aa (j9 nP abY abZ FA (pv 2) (aa (pv 5) ae)) ae))))))
   (aE (aY (pv 3))))),?_⟩
  refine⟨_,rfl,n,_,rfl,.inl (ag.of hn),fun la nB=>?_⟩;refine⟨aN _,fun fa jo=>?_⟩;have jq:p≠la:=hp.ne nB;have CQ:la≠fa:=a7 af jo;have qP:H fa=none:=(aI nB).free jo;have rV:p≠fa:=hp.ne qP;have P0:aT p H (upd (upd H la (.lst (ys.map V.str))) fa (.lst [])):=((aT.refl hp).new nB).new jo;have oG:(upd (upd H la (.lst (ys.map V.str))) fa (.lst [])) la=some (.lst (ys.map V.str)):=by rw[ak CQ];exact af
  have BL:(upd (upd H la (.lst (ys.map V.str))) fa (.lst [])) fa=some (.lst []):=af;generalize upd (upd H la (.lst (ys.map V.str))) fa (.lst [])=H0 at P0 oG BL ⊢;refine⟨_,rfl,la,_,rfl,.inl (ag.of oG),?_⟩;refine⟨by show 7<=sizeLine;rw[aA];decide,fun c hc=>?_⟩
  have Pc:=P0.new (o:= .lst [V.int 0,.int 1,.int 1,.int 2,.int 2,.int 3,.int 4]) hc;refine⟨_,rfl,cj (p:=p) (m:=7) Pc.ok (by decide) (by decide) fun d H1 d0 d1 x6=>?_⟩
  have iA:p≠c:=P0.ok.ne hc;obtain⟨v,hv,v0,v4⟩:=T6 d0 d1;refine⟨c,_,d,.int v,rfl,rfl,ag.of (x6.kp _ _ af (bb iA)),hv,?_⟩;have P1:=Pc.trans x6;have t9:H1 la=some (.lst (ys.map V.str)):=x6.kp _ _ (by rw[ak (a7 oG hc)];exact oG) (bb jq)
  have ua:H1 fa=some (.lst []):=x6.kp _ _ (by rw[ak (a7 BL hc)];exact BL) (bb rV)
  refine⟨_,v,rfl,?_⟩;rw[ar];obtain⟨N,hN,hN4,hNl⟩:∃N:Nat,(if v < (ys.length:Int) then v else (ys.length:Int))=N/\N<=4/\N<=ys.length:=by
   split
   ·exact⟨v.toNat,by omega,by omega,by omega⟩
   ·exact⟨ys.length,rfl,by omega,ay _⟩
  rw[hN];refine⟨(N:Int),rfl,by omega,by omega,pZ (fun i σ H1=>∃ (zs ls:List Str) (v4 v5:Option V),σ = [some (.ref p),some (.ref n),some (.ref la),some (.ref fa),v4,v5]/\zs.length=i/\(zs++ls).Perm ys/\aT p H H1/\H1 la=some (.lst (ls.map V.str))/\H1 fa=some (.lst (zs.map V.str)))
   ⟨[],ys,none,none,rfl,rfl,ja _,P1,t9,ua⟩ ?_ ?_⟩
  ·rintro i σ H1 hi ⟨zs,ls,v4,v5,rfl,hz,hP,pa,t9,ua⟩
   have T7:=hP.length_eq;rw[eO]at T7;have eW:i < N:=by simpa using hi
   have m7:0 < ls.length:=by omega
   refine⟨_,rfl,_,rfl,la,_,rfl,.inl (ag.of t9),?_⟩;refine cj (p:=p) pa.ok (by rw[ar];omega) (by rw[ar];omega) fun d H2 d0 d1 pb=>?_
   have BM:=pb.kp _ _ t9 (bb jq);have JJ:=pb.kp _ _ ua (bb rV);rw[ar]at d1;refine⟨_,rfl,la,_,rfl,.inl (ag.of BM),_,1,rfl,rfl,?_⟩;rw[ar];refine⟨by show 2<=sizeLine;rw[aA];decide,fun c2 dG=>?_⟩
   have La:=(pa.trans pb).new (o:= .lst [V.int d,.int ((ls.length:Int) - 1)]) dG;have Vr:p≠c2:=pb.ok.ne dG;refine⟨_,rfl,cj (p:=p) (m:=2) La.ok (by decide) (by decide) fun e H3 e0 e1 pe=>?_⟩
   obtain⟨v,hv,v0,v1⟩:=two_at (a:=d) (b:=(ls.length:Int) - 1) (m:=(ls.length:Int)) e0 e1 ⟨d0,d1⟩ ⟨by omega,by omega⟩
   have m6:H3 la=some (.lst (ls.map V.str)):=pe.kp _ _ (by rw[ak (a7 BM dG)];exact BM) (bb jq)
   have qQ:H3 fa=some (.lst (zs.map V.str)):=pe.kp _ _ (by rw[ak (a7 JJ dG)];exact JJ) (bb rV)
   have P3:=La.trans pe;refine⟨c2,_,e,.int v,rfl,rfl,ag.of (pe.kp _ _ af (bb Vr)),hv,?_⟩;have hd:v.toNat < ls.length:=by omega
   refine⟨_,rfl,.inl ⟨rfl,_,ag.of qQ⟩,_,rfl,.inl ⟨rfl,_,ag.of m6⟩,_,rfl,?_⟩;refine⟨la,_,v,v.toNat,.str ls[v.toNat],rfl,rfl,m6,by omega,by omega,DI v0 (by rw[ar];exact v1),by rw[cU,aQ hd];rfl,?_⟩
   have Vs:(upd H3 la (.lst ((ls.map V.str).eraseIdx v.toNat))) fa=some (.lst (zs.map V.str)):=by rw[ak (bb CQ)];exact qQ
   refine⟨fa,_,_,rfl,rfl,Vs,by rw[ar,aA];omega,?_⟩
   refine⟨zs ++ [ls[v.toNat]],ls.eraseIdx v.toNat,_,_,rfl,by rw[eO];simp[hz],?_,(P3.write nB jq).write qP rV,?_,?_⟩
   ·refine List.Perm.trans ?_ hP
    rw[MC];exact abw zs (EE ls _ hd)
   ·rw[ak CQ,af,Fo]
   ·rw[af,cp];rfl
  ·rintro σ H1 ⟨zs,ls,v4,v5,rfl,hz,hP,pa,t9,ua⟩
   have ky:zs.length=N:=by simpa using hz
   exact⟨_,rfl,q fa zs ls H1 qP hP (by omega) pa ua⟩
end eM
namespace eM
open PySem L2 HT
def kept (rows:List (List Str)) (o:List Str):Bool:=rows.all fun r=>decide ((o.filter fun n=>decide (n∈r))=r)
theorem zq {all:List (List Str)}{n:Str}:∀ {rest:List (List Str)},lz all rest=some n->gz 0 all n=none /\ ∃ (i:Nat) (r:List Str),rest[i]? = some r/\r.head? = some n /\ ∀ (j:Nat) (q:List Str) (y:Str),rest[j]? = some q->q.head? = some y->gz 0 all y=none->i<=j
 |[],h=>by cases h
 |[]::rest,h=>by
  obtain⟨h1,i,r,e1,e2,e3⟩:=zq (rest:=rest) h;refine⟨h1,i+1,r,by simpa using e1,e2,fun j q y hj hq hy=>?_⟩
  cases j with
  |zero =>
   obtain rfl : []=q:=by simpa using hj
   simp at hq
  |succ j=>have:=e3 j q y (by simpa using hj) hq hy;omega
 |(x::t)::rest,h=>by
  have h:(if (gz 0 all x).isNone then some x else lz all rest)=some n:=h
  by_cases c:(gz 0 all x).isNone=true
  ·rw[ax c]at h
   cases h
   exact⟨by simpa using c,0,_,rfl,rfl,fun _ _ _ _ _ _=>aN _⟩
  ·rw[aj c]at h
   obtain⟨h1,i,r,e1,e2,e3⟩:=zq (rest:=rest) h;refine⟨h1,i+1,r,by simpa using e1,e2,fun j q y hj hq hy=>?_⟩
   cases j with
   |zero =>
    obtain rfl:x::t=q:=by simpa using hj
    obtain rfl:x=y:=by simpa using hq
    exact absurd (by rw[hy];rfl) c
   |succ j=>have:=e3 j q y (by simpa using hj) hq hy;omega
def QZ (rest:List (List Str)) (q:List Str):Prop:=q.Nodup /\ ∀x,x∈q ↔ ∃r∈rest,x∈r
theorem zZ {q:List Str}:kept rest q=true ↔ ∀r∈rest,(q.filter fun n=>decide (n∈r))=r:=by
 unfold kept;rw[i9];simp
theorem Eo {n:Str}:(∃r∈L2.without n rest,x∈r) ↔ x≠n /\ ∃r∈rest,x∈r:=by
 constructor
 ·rintro⟨r,hr,hx⟩
  obtain⟨q,hq,rfl⟩:=cD.mp hr;have:=jQ.mp hx;exact⟨by simpa using this.2,q,hq,this.1⟩
 ·rintro⟨h,q,hq,hx⟩
  exact⟨_,cD.mpr ⟨q,hq,rfl⟩,jQ.mpr ⟨hx,by simpa using h⟩⟩
theorem Q0:(rest.any fun r=>!r.isEmpty)=true ↔ ∃r∈rest,∃x,x∈r:=by
 rw[yR]
 constructor
 ·rintro⟨r,hr,e⟩
  cases r with
  |nil=>simp at e
  |cons x t=>exact⟨_,hr,x,aZ⟩
 ·rintro⟨r,hr,x,hx⟩
  refine⟨r,hr,?_⟩;cases r with
  |nil=>simp at hx
  |cons y t=>rfl
theorem sound:∀ (m:Nat) (rest:List (List Str)),total rest=m->(∀r∈rest,r.Nodup) -> ∀o,cG (total rest) rest=some o->QZ rest o/\kept rest o=true:=by
 intro m
 induction m using Nat.strongRecOn with
 |_ m ih =>
  intro rest hm eR o ho;cases hA:rest.any fun r=>!r.isEmpty with
  |false =>
   rw[EA hA]at ho;cases ho
   have emp:∀r∈rest,∀x,x ∉ r:=fun r hr x hx=>by
    have:=Q0.mpr ⟨r,hr,x,hx⟩;rw[hA]at this;cases this
   refine⟨⟨yQ,fun x=>⟨fun h=>by simp at h,fun⟨r,hr,hx⟩=>absurd hx (emp r hr x)⟩⟩,zZ.mpr fun r hr=>?_⟩
   cases r with
   |nil=>rfl
   |cons y t=>exact absurd aZ (emp _ hr y)
  |true =>
   cases e:lu rest with
   |none=>rw[EB hA e]at ho;cases ho
   |some n =>
    rw[EC hA e]at ho;obtain⟨o',iS,rfl⟩:=ie.mp ho;have lt:=sD (sM e);obtain⟨⟨h1,h2⟩,h3⟩:=ih _ (by omega) (L2.without n rest) rfl (ED eR) o' iS
    rw[zZ]at h3;have xx:n ∉ o':=fun z=>((Eo.mp ((h2 n).mp z)).1 rfl);obtain⟨tM,_⟩:=zq e;rw[vH]at tM;refine⟨⟨iE.mpr ⟨xx,h1⟩,fun x=>?_⟩,zZ.mpr fun r hr=>?_⟩
    ·rw[bx,h2,Eo]
     constructor
     ·rintro(rfl|h)
      ·exact sM e
      ·exact h.2
     ·intro h
      by_cases z:x=n
      ·exact .inl z
      ·exact .inr ⟨z,h⟩
    ·have Lb:=h3 _ (cD.mpr ⟨r,hr,rfl⟩)
     have same:(o'.filter fun y=>decide (y∈r))=o'.filter fun y=>decide (y∈r.filter fun y=>!decide (y=n)):=by
      apply List.filter_congr
      intro y hy;have:y≠n:=fun z=>xx (z ▸ hy);simp[this]
     by_cases hn:n∈r
     ·have hh:=tM r hr hn
      cases r with
      |nil=>simp at hn
      |cons z t =>
       obtain rfl:z=n:=by simpa using hh
       have ht:z ∉ t:=(iE.mp (eR _ hr)).1;have et:((z::t).filter fun y=>!decide (y=z))=t:=by
        rw[D6 (by simp)]
        exact Nk.mpr fun y hy=>by
         have:y≠z:=fun w=>ht (w ▸ hy)
         simpa using this
       rw[D5 (by simp),same,Lb,et]
     ·have er:(r.filter fun y=>!decide (y=n))=r:=Nk.mpr fun y hy=>by
       have:y≠n:=fun w=>hn (w ▸ hy)
       simpa using this
      rw[D6 (by simpa using hn),same,Lb,er]
end eM
namespace eM
open PySem L2 PySem.W HT
theorem len_sub {a b:List Str} (nd:a.Nodup) (h:∀x∈a,x∈b):a.length<=b.length:=RY nd h
structure Fm (done:List Str) (L Ps:Str->List Str):Prop where
 ps:∀x∈done,(Ps x).Nodup/\(Ps x).length<=4 /\ ∀y∈Ps x,y∈done
 ln:∀x∈done,∃o,cG (total (rowsOf L (Ps x))) (rowsOf L (Ps x))=some o/\L x=x::o
 ld:∀x∈done,(L x).Nodup /\ ∀y∈L x,y∈done
theorem OC:r∈rowsOf L own ↔ (∃y∈own,r=L y)\/r=own:=by
 unfold rowsOf;rw[e9,cD,gy]
 constructor
 ·rintro(⟨y,h,rfl⟩|h)
  ·exact .inl ⟨y,h,rfl⟩
  ·exact .inr h
 ·rintro(⟨y,h,rfl⟩|h)
  ·exact .inl ⟨y,h,rfl⟩
  ·exact .inr h
theorem Fm.qp (F:Fm done L Ps) (nd:own.Nodup) (sub:∀y∈own,y∈done):∀r∈rowsOf L own,r.Nodup /\ ∀y∈r,y∈done:=fun r hr=>by
 rcases OC.mp hr with⟨y,hy,rfl⟩|rfl
 ·exact F.ld y (sub y hy)
 ·exact⟨nd,sub⟩
theorem Fm.small (F:Fm done L Ps) (hk:∀x∈done,Nm x) (h8:done.length<=8) (nd:own.Nodup) (h4:own.length<=4) (sub:∀y∈own,y∈done):Small (rowsOf L own):=by
 refine⟨?_,fun r hr=>?_,fun r hr y hy=>?_⟩
 ·unfold rowsOf;rw[eO,ar,yJ];omega
 ·obtain⟨h1,h2⟩:=F.qp nd sub r hr
  have:=len_sub h1 h2;omega
 ·exact hk y ((F.qp nd sub r hr).2 y hy)
theorem Fm.order (F:Fm done L Ps) {o:List Str} (nd:own.Nodup) (sub:∀y∈own,y∈done) (hm:cG (total (rowsOf L own)) (rowsOf L own)=some o):o.Nodup/\(∀y∈o,y∈done) /\ ∀r∈rowsOf L own,∀y∈r,y∈o:=by
 obtain⟨⟨h1,h2⟩,_⟩:=sound _ _ rfl (fun r hr=>(F.qp nd sub r hr).1) o hm;refine⟨h1,fun y hy=>?_,fun r hr y hy=>(h2 y).mpr ⟨r,hr,hy⟩⟩;obtain⟨r,hr,h⟩:=(h2 y).mp hy;exact(F.qp nd sub r hr).2 y h
theorem OD {L':Str->List Str} (h:∀y∈own,L' y=L y):rowsOf L' own=rowsOf L own:=by
 unfold rowsOf;rw[yV h]
theorem Fm.add (F:Fm done L Ps) {k:Str}{o:List Str} (hk:k ∉ done) (nd:own.Nodup) (h4:own.length<=4) (sub:∀y∈own,y∈done) (hm:cG (total (rowsOf L own)) (rowsOf L own)=some o) :
  Fm (done ++ [k]) (fun x=>if x=k then k::o else L x) (fun x=>if x=k then own else Ps x):=by
 have nk:∀ {y},y∈done->y≠k:=fun h z=>hk (z ▸ h);have ext:∀ {ps:List Str},(∀y∈ps,y∈done)->rowsOf (fun x=>if x=k then k::o else L x) ps=rowsOf L ps:=fun h=>OD fun y hy=>aj (nk (h y hy));obtain⟨o1,o2,_⟩:=F.order nd sub hm;refine⟨fun x hx=>?_,fun x hx=>?_,fun x hx=>?_⟩
 ·by_cases e:x=k
  ·rw[ax e];exact⟨nd,h4,fun y hy=>pL _ (sub y hy)⟩
  ·rw[aj e]
   obtain⟨a,b,c⟩:=F.ps x (by rcases e9.mp hx with z|z;exact z;exact absurd (by simpa using z) e)
   exact⟨a,b,fun y hy=>pL _ (c y hy)⟩
 ·by_cases e:x=k
  ·refine⟨o,?_,by rw[ax e,e]⟩
   rw[ax e,ext sub];exact hm
  ·have g8:x∈done:=by rcases e9.mp hx with z|z;exact z;exact absurd (by simpa using z) e
   obtain⟨o',h1,h2⟩:=F.ln x g8;refine⟨o',?_,by rw[aj e];exact h2⟩
   rw[aj e,ext (F.ps x g8).2.2];exact h1
 ·by_cases e:x=k
  ·rw[ax e]
   refine⟨iE.mpr ⟨fun z=>hk (o2 k z),o1⟩,fun y hy=>?_⟩;rcases bx.mp hy with z|z
   ·rw[z];exact jt _ aZ
   ·exact pL _ (o2 y z)
  ·rw[aj e]
   have g8:x∈done:=by rcases e9.mp hx with z|z;exact z;exact absurd (by simpa using z) e
   obtain⟨a,b⟩:=F.ld x g8;exact⟨a,fun y hy=>pL _ (b y hy)⟩
def je (Ps:Str->List Str) (ks:List Str):List (Str×List Str):=ks.map fun x=>(x,Ps x)
theorem zt (Ps:Str->List Str) (ks:List Str):(je Ps ks).map (·.1)=ks:=by
 unfold je;rw[lg];exact List.map_id' _
theorem O':cG (total (rowsOf L [])) (rowsOf L [])=some []:=rfl
theorem F7 (xs:List Str):fu (xs.map V.str) none (some (-1))=xs.dropLast.map V.str:=by
 unfold fu;have e1:HT.a6 (xs.map V.str).length 0 none=0:=rfl;have e2:HT.a6 (xs.map V.str).length (xs.map V.str).length (some (-1))=xs.length - 1:=by
  rw[ar];unfold HT.a6;simp;omega
 rw[e1,e2,MK,ML,<-List.map_take,List.dropLast_eq_take]
theorem ju {xs:List Str} (h:cf p H) (e:H a=some (.lst (xs.map V.str))):a≠p:=by
 rintro rfl;obtain⟨x,y,e2,_⟩:=h;rw[e]at e2;have e3:xs.map V.str = [.int x,.int y]:=HO.lst.inj (e7 e2);cases xs with
 |nil=>cases e3
 |cons z t=>cases e3
theorem d6.iB (h:d6 H kvs L x) (ok:cf p H) (s:aT p H H'):d6 H' kvs L x:=let ⟨a,e,q⟩:=h;⟨a,e,s.kp _ _ q (ju ok q)⟩
theorem d6.write {BN:List (Key×V)}{u:HO} (h:d6 H kvs L x) (hd:H d=some (.dK BN)) (e:H'=upd H d u):d6 H' kvs L x:=let ⟨a,e1,q⟩:=h;⟨a,e1,by rw[e,ak (eI q hd (by intro z;cases z))];exact q⟩
theorem Hc (ok:cf p H) (s:aT p H H') (e:H d=some (.dK kvs)):H' d=some (.dK kvs):=by
 obtain⟨x,y,ep,_⟩:=ok;exact s.kp _ _ e (eI e ep (by intro z;cases z))
theorem my (h:cf p H) (s:aw H H'):aT p H H':=by
 obtain⟨x,y,e,r⟩:=h;exact⟨⟨x,y,s _ _ e,r⟩,fun b o e _=>s b o e⟩
theorem Hd {k:Str}{l:List Str} (hd:H d=some (.dK kvs)) (hl:H a=some (.lst (l.map V.str))) (h:x≠k->d6 H kvs L x) :
  d6 (upd H d (.dK (putK kvs (Sum.inr k) (.ref a)))) (putK kvs (Sum.inr k) (.ref a)) (fun x=>if x=k then l else L x) x:=by
 unfold d6;rw[PF]
 by_cases e:x=k
 ·subst e
  refine⟨a,by rw[ax rfl],?_⟩
  rw[ak (eI hl hd (by intro z;cases z))];show H a=some (.lst ((if x=x then l else L x).map V.str));rw[ax rfl];exact hl
 ·obtain⟨b,e1,e2⟩:=h e
  refine⟨b,by rw[aj (fun z=>e (si z))];exact e1,?_⟩
  rw[ak (eI e2 hd (by intro z;cases z))];show H b=some (.lst ((if x=k then l else L x).map V.str));rw[aj e];exact e2
theorem F8 {k:Str} (h:kvs.map (·.1)=done.map Sum.inr) (hk:k ∉ done):(putK kvs (Sum.inr k) v).map (·.1)=(done ++ [k]).map Sum.inr:=by
 have hv:ck kvs (Sum.inr k)=none:=by
  have:(ck kvs (Sum.inr k)).isSome=false:=by
   rw[<-nV,yB];intro kv gF hd;have e:kv.1=Sum.inr k:=pR hd;have:kv.1∈kvs.map (·.1):=cD.mpr ⟨kv,gF,rfl⟩;rw[h,e]at this;obtain⟨y,hy,ey⟩:=cD.mp this;exact hk (si ey ▸ hy)
  cases e:ck kvs (Sum.inr k) with
  |none=>rfl
  |some _=>rw[e]at this;cases this
 rw[FG _ hv,cp,cp,h];rfl
theorem fw.R7 (h:fw H vs dc):∃kvs,ik H vs kvs/\kvs.map (·.1)=dc.map (·.1) /\ ∀q∈kvs,∃z,q.2=V.ref z:=by
 induction h with
 |nil=>exact⟨[],.nil,rfl,by simp⟩
 |cons p _ ih =>
  obtain⟨a,b,e,q,r⟩:=p;obtain⟨kvs,h1,h2,h3⟩:=ih;refine⟨(_,.ref b)::kvs,.cons ⟨a,e,q⟩ h1,by rw[cn,cn,h2],fun z hz=>?_⟩
  rcases bx.mp hz with rfl|hz
  ·exact⟨b,rfl⟩
  ·exact h3 z hz
@[irreducible] def qS:Sp:=fun vs H Q _=>∃ (p n:Addr) (ks:List Str),vs = [.ref p,.ref n]/\cf p H/\H n=some (.lst (ks.map V.str))/\ks.Nodup/\(∀x∈ks,Nm x)/\ks.length<=8 /\
 ∀ (r d1 d2:Addr) (gf:List (Key×V)) (Ps:Str->List Str) (H':Hp),aT p H H'->H' r=some (.tup [.ref d1,.ref d2])->H' d2=some (.dK gf)->gf.map (·.1)=ks.map Sum.inr->(∀x∈ks,d6 H' gf Ps x)->H d2=none->Q (.ref r) H'
theorem T8 {n:Addr}{E:XK} (hp:cf p H) (hn:H n=some (.lst (ks.map V.str))) (nd:ks.Nodup) (nm:∀x∈ks,Nm x) (h8:ks.length<=8)
  (q:∀ (r d1 d2:Addr) (gf:List (Key×V)) (Ps:Str->List Str) (H':Hp),aT p H H'->H' r=some (.tup [.ref d1,.ref d2])->H' d2=some (.dK gf)->gf.map (·.1)=ks.map Sum.inr->(∀x∈ks,d6 H' gf Ps x)->H d2=none->Q (.ref r) H'):qS [.ref p,.ref n] H Q E:=by unfold qS;exact⟨p,n,ks,rfl,hp,hn,nd,nm,h8,q⟩
abbrev Xv:List Str:= ["_law_pot_here","_law_kinds","_law_lines","_law_parents_here","_law_kind","_law_own","_law_turn"]
theorem qT:b6 Xv ["_law_pot_here","_law_kinds"] (aX zV):=⟨rfl,rfl,rfl,by decide +kernel,rfl,by decide +kernel,by decide +kernel⟩
theorem T9 {fL:Addr}{dL:FuncData} (F:bg K "_law_family" "_law_family" zV f fd) (B:cQ mg) (B2:eF mg)
  (GP:aB P w K mg base aC 2 fP dP ["_law_pot_here","_law_made"] qF) (kP:keepIn K (.ref fP)=true) (bP:Binds K dP ["_law_pot_here","_law_made"] []) (mP:mg "_law_parents" = some (.ref fP))
  (GL:aB P w K mg base aC 2 fL dL ["_law_lines","_law_kind","_law_own"] qR) (kL:keepIn K (.ref fL)=true) (bL:Binds K dL ["_law_lines","_law_kind","_law_own"] []) (mL:mg "_law_line" = some (.ref fL)) :
  aB P w K mg base aC 3 f fd ["_law_pot_here","_law_kinds"] qS:=by
 refine F.ok qT (fun vs H Q E h=>?_) (fun aR A outer s H vs Q E hr h=>?_)
 ·unfold qS at h;obtain⟨p,n,ks,rfl,_⟩:=h;rfl
 ·unfold qS at h
  obtain⟨p,n,ks,rfl,hp,hn,knd,uY,k8,q⟩:=h;have hu:=hr.units;have i5:=y9 (za (show 1<=64 by decide) _) hu
  refine⟨_,au (RC (i:=2) (j:=3) rfl qT.nd rfl rfl (by decide) rfl rfl (aa zN (aa zN ae)) rfl)
   (au (jx jW rfl (jv (pv 1)) (cb (i:=4) qT.nd rfl (Or.inl rfl))
    (au (bj (i:=5) qT.nd rfl (Or.inl rfl) (aF GP hr rfl mP kP bP .nil aG (aa (pv 0) (aa (fo (Ot rfl) rfl B.list boot_list (aa (pv 2) ae)) ae))))
    (au (jx jW rfl (jX rfl B.range (aa ah ae)) (cb (i:=6) qT.nd rfl (Or.inl rfl))
     (aE (bz (bh Hx (aF GL hr rfl mL kL bL .nil aG (aa (pv 2) (aa (pv 4) (aa (pv 5) ae)))) sY (a8 _))
      (aE (bj (i:=5) qT.nd rfl (Or.inl rfl) (jY wd (pv 5) j0 (j3 (qA qk ah))))) bH)))
    (au (Af i5 (pv 2) (pv 4) (aF GL hr rfl mL kL bL .nil aG (aa (pv 2) (aa (pv 4) (aa (pv 5) ae)))) rfl)
    (aE (Af i5 (pv 3) (pv 4) (pv 5) rfl))))))
   (aE (aY (eo (aa (pv 2) (aa (pv 3) ae)))))),?_⟩
  intro d1 pC d2 hd2;have S2:aw H (upd (upd H d1 (.dK [])) d2 (.dK [])):=(aI pC).trans (aI hd2);have CS:d1≠d2:=a7 af hd2;have BO:H d2=none:=(aI pC).free hd2;have JK:(upd (upd H d1 (.dK [])) d2 (.dK [])) d1=some (.dK []):=by rw[ak CS];exact af
  have JL:(upd (upd H d1 (.dK [])) d2 (.dK [])) d2=some (.dK []):=af;have S3:=S2;clear S2;refine⟨_,_,rfl,?_⟩;generalize upd (upd H d1 (.dK [])) d2 (.dK [])=H0 at S3 JK JL ⊢;have P0:aT p H H0:=my hp S3;have Xw:p≠d1:=hp.ne pC;have Xx:p≠d2:=hp.ne BO;have Lc:n≠p:=ju hp hn;refine⟨_,rfl,n,rfl,⟨_,ag.of (P0.kp _ _ hn Lc)⟩,zK (xs:=ks.map V.str) (fun i σ H1=>∃ (gY gf:List (Key×V)) (L Ps:Str->List Str) (v4 v5 v6:Option V),σ = [some (.ref p),some (.ref n),some (.ref d1),some (.ref d2),v4,v5,v6]/\aT p H H1 /\
   H1 d1=some (.dK gY)/\H1 d2=some (.dK gf)/\gY.map (·.1)=(ks.take i).map Sum.inr/\gf.map (·.1)=(ks.take i).map Sum.inr/\(∀x∈ks.take i,d6 H1 gY L x)/\(∀x∈ks.take i,d6 H1 gf Ps x)/\Fm (ks.take i) L Ps)
   ⟨[],[],fun _=>[],fun _=>[],none,none,none,rfl,P0,JK,JL,rfl,rfl,fun x hx=>(by cases hx),fun x hx=>(by cases hx),⟨fun x hx=>(by cases hx),fun x hx=>(by cases hx),fun x hx=>(by cases hx)⟩⟩ (fun i σ H1 _ ⟨_,_,_,_,_,_,_,_,z,_⟩=>ag.of (z.kp _ _ hn Lc)) ?_ ?_⟩
  ·rintro i x σ H1 hx ⟨gY,gf,L,Ps,v4,v5,v6,rfl,P1,CT,CU,e1,e2,l1,l2,fm⟩
   have iX:i < ks.length:=by simpa using (cZ.mp hx).1
   obtain rfl:V.str ks[i]=x:=by simpa [iX] using hx
   have kG:ks.take (i+1)=ks.take i ++ [ks[i]]:=by rw[fY,aQ iX];rfl
   have BP:ks[i] ∉ ks.take i:=by
    have:(ks.take (i+1)).Nodup:=knd.sublist (Mv _ _);rw[kG]at this;exact fun z=>(vk.mp this).2.2 _ z _ aZ rfl
   have Xy:(ks.take i).Nodup:=knd.sublist (Mv _ _);have rX:∀x∈ks.take i,Nm x:=fun x hx=>uY x (vp hx);have d8:(ks.take i).length<=8:=by rw[c4];omega
   have lk1:gY.length=(ks.take i).length:=by have:=d9 List.length e1;simpa using this
   have lk2:gf.length=(ks.take i).length:=by have:=d9 List.length e2;simpa using this
   refine⟨_,rfl,_,rfl,d1,gY,rfl,CT,fun l hl=>?_⟩;have ek:gY.map (fun kv=>kV kv.1)=(ks.take i).map V.str:=by
    have:gY.map (fun kv=>kV kv.1)=(gY.map (·.1)).map kV:=by rw[lg];rfl
    rw[this,e1,lg];rfl
   rw[ek];have Pl:=P1.new (o:= .lst ((ks.take i).map V.str)) hl;have Sl:=aI (o:= .lst ((ks.take i).map V.str)) hl;refine R5 Pl.ok (P1.ok.ne hl) af (by omega) fun oa own rest H3 Ld mZ kH pb h3=>?_
   have P3:=Pl.trans pb;have jr:own.Nodup:=(vk.mp (mZ.nodup_iff.mpr Xy)).1;have ir:∀y∈own,y∈ks.take i:=fun y hy=>mZ.mem_iff.mp (pL _ hy);have CV:=Hc Pl.ok pb (Sl _ _ CT);have Xz:=Hc Pl.ok pb (Sl _ _ CU);have CY:∀x∈ks.take i,d6 H3 gY L x:=fun x hx=>((l1 x hx).same Sl).iB Pl.ok pb;have XA:∀x∈ks.take i,d6 H3 gf Ps x:=fun x hx=>((l2 x hx).same Sl).iB Pl.ok pb;refine⟨4,rfl,by decide,by decide,pZ (fun j σ H4=>∃ (oa:Addr) (own:List Str) (v6:Option V),σ = [some (.ref p),some (.ref n),some (.ref d1),some (.ref d2),some (.str ks[i]),some (.ref oa),v6]/\aw H3 H4/\H4 oa=some (.lst (own.map V.str))/\own.Nodup/\(∀y∈own,y∈ks.take i)/\own.length<=4/\(cG (total (rowsOf L own)) (rowsOf L own)≠none\/own.length+j<=4))
    ⟨oa,own,_,rfl,aw.refl _,h3,jr,ir,kH,.inr kH⟩ ?_ ?_⟩
   ·clear mZ kH jr ir h3 Ld
    rintro j σ H4 hj ⟨oa,own,v6,rfl,S4,h4,jr,ir,kH,CZ⟩;have cK:=fm.small rX d8 jr kH ir;have C0:=fun r hr=>(fm.qp jr ir r hr).1;refine⟨_,rfl,_,rfl,_,rfl,IK (S4 _ _ CV) h4 (fun x hx=>(CY x (ir x hx)).same S4) cK C0 (fun e H5 S5=>?_) (fun o e lp H5 XB S5 h5=>?_)⟩
    ·refine⟨rfl,_,rfl,?_⟩
     refine⟨_,rfl,?_⟩;have dZ:own ≠ []:=fun z=>by rw[z]at e;cases e
     have m7:0 < own.length:=pU.mpr dZ;refine⟨1,rfl,_,rfl,oa,_,rfl,ag.of (S5 _ _ h4),fun c hc=>?_⟩;refine⟨c,own.dropLast,_,rfl,(S4.trans S5).trans (aI hc),?_,jr.sublist (List.dropLast_sublist _),fun y hy=>ir y (ab0 _ hy),by rw[ab1];omega,.inr ?_⟩
     ·have:=F7 own
      rw[af];exact d9 some (d9 HO.lst this)
     ·rcases CZ with z|z
      ·exact absurd e z
      ·rw[ab1];omega
    ·refine⟨rfl,_,rfl,?_⟩
     exact⟨oa,own,_,rfl,S4.trans S5,S5 _ _ h4,jr,ir,kH,.inl (by rw[e];exact ab2 _)⟩
   ·clear mZ kH jr ir h3 Ld
    rintro σ H4 ⟨oa,own,v6,rfl,S4,h4,jr,ir,kH,CZ⟩;have cK:=fm.small rX d8 jr kH ir;have C0:=fun r hr=>(fm.qp jr ir r hr).1;have XC:cG (total (rowsOf L own)) (rowsOf L own)≠none:=by
     rcases CZ with z|z
     ·exact z
     ·have z2:own.length=0:=by have:own.length+Int.toNat 4<=4:=z;have e4:Int.toNat 4=4:=rfl;omega
      rw[M1.mp z2,O'];exact ab2 _
    refine⟨_,rfl,_,rfl,_,rfl,IK (S4 _ _ CV) h4 (fun x hx=>(CY x (ir x hx)).same S4) cK C0 (fun e=>absurd e XC) (fun o e lp H5 XB S5 h5=>?_)⟩;have uZ:=S4.trans S5;have x8:=uZ _ _ CV;have XD:=uZ _ _ Xz;refine⟨_,rfl,_,rfl,d1,_,rfl,lL.k (k:=Sum.inr ks[i]) x8 (by rw[aA];omega),?_⟩
    have C1:upd H5 d1 (.dK (putK gY (Sum.inr ks[i]) (.ref lp))) d2=some (.dK gf):=by rw[ak (bb CS)];exact XD
    refine⟨_,rfl,_,rfl,_,rfl,d2,_,rfl,lL.k (k:=Sum.inr ks[i]) C1 (by rw[aA];omega),?_⟩
    have P5:aT p H H5:=P3.trans (my P3.ok uZ);have XE:∀x∈ks.take (i+1),d6 (upd H5 d1 (.dK (putK gY (Sum.inr ks[i]) (.ref lp)))) (putK gY (Sum.inr ks[i]) (.ref lp)) (fun x=>if x=ks[i] then ks[i]::o else L x) x:=fun x hx=>Hd x8 h5 fun ne=>(CY x (by
     rw[kG]at hx;rcases e9.mp hx with z|z
     ·exact z
     ·exact absurd (by simpa using z) ne)).same uZ
    have XF:upd H5 d1 (.dK (putK gY (Sum.inr ks[i]) (.ref lp))) oa=some (.lst (own.map V.str)):=by rw[ak (eI (S5 _ _ h4) x8 (by intro z;cases z))];exact S5 _ _ h4
    refine⟨_,_,_,_,_,_,_,rfl,(P5.write pC Xw).write BO Xx,by rw[ak CS];exact af,af,by rw[kG];exact F8 e1 BP,by rw[kG];exact F8 e2 BP,fun x hx=>(XE x hx).write C1 rfl,fun x hx=>?_,by rw[kG];exact fm.add BP jr kH ir e⟩
    refine Hd C1 XF fun ne=>?_;exact((XA x (by
     rw[kG]at hx;rcases e9.mp hx with z|z
     ·exact z
     ·exact absurd (by simpa using z) ne)).same uZ).write x8 rfl
  ·rintro σ H1 ⟨gY,gf,L,Ps,v4,v5,v6,rfl,P1,CT,CU,e1,e2,l1,l2,fm⟩
   rw[ar,fX]at e2 l2;refine⟨_,rfl,_,rfl,by show 2<=sizeLine;rw[aA];decide,fun r hr=>?_⟩
   have Sr:=aI (o:= .tup [V.ref d1,.ref d2]) hr;exact q r d1 d2 gf Ps _ (P1.trans (my P1.ok Sr)) af (Sr _ _ CU) e2 (fun x hx=>(l2 x hx).same Sr) BO
@[irreducible] def qU:Sp:=fun vs H Q _=>∃ (d:Addr) (kvs:List (Key×V)) (ks:List Str) (Ps:Str->List Str),vs = [.ref d]/\H d=some (.dK kvs)/\kvs.map (·.1)=ks.map Sum.inr/\ks.Nodup/\ks.length<=8/\(∀x∈ks,d6 H kvs Ps x) /\
 ∀t o ws dc H',(∀b u,b≠d->H b=some u->H' b=some u)->H' t=some (.bo o (.tup ws))->o.dict=none->fw H' ws dc->dc.Perm (je Ps ks)->Q (.ref t) H'
theorem Ua {E:XK} (hd:H d=some (.dK kvs)) (hk:kvs.map (·.1)=ks.map Sum.inr) (nd:ks.Nodup) (h8:ks.length<=8) (l:∀x∈ks,d6 H kvs Ps x)
  (q:∀t o ws dc H',(∀b u,b≠d->H b=some u->H' b=some u)->H' t=some (.bo o (.tup ws))->o.dict=none->fw H' ws dc->dc.Perm (je Ps ks)->Q (.ref t) H'):qU [.ref d] H Q E:=by unfold qU;exact⟨d,kvs,ks,Ps,rfl,hd,hk,nd,h8,l,q⟩
theorem Vt:b6 ["_law_parents_here"] ["_law_parents_here"] (aX sT):=⟨rfl,rfl,rfl,by decide +kernel,rfl,by decide +kernel,by decide +kernel⟩
abbrev XG:Expr:=f' (f' (oF (cS (cR sT) 0)))
theorem JM:cM ["_law_parents_here"] (aX sT) ["_law_kind","_law_parents_here"] [none,some 0] (dX XG):=⟨rfl,by decide +kernel,by decide +kernel,rfl,f6 (by decide +kernel),by decide +kernel⟩
theorem R8 (hk:kvs.map (·.1)=ks.map Sum.inr) {kv:Key×V} (h:kvs[i]? = some kv):∃x,ks[i]? = some x/\kv.1=Sum.inr x:=by
 have h1:(kvs.map (·.1))[i]? = some kv.1:=by rw[cU,h];rfl
 rw[hk,cU]at h1;obtain⟨x,hx,e⟩:=ie.mp h1;exact⟨x,hx,e.symm⟩
theorem Ub (F:bg K "_law_family_tuple" "_law_family_tuple" sT f fd) (B:cQ mg) (B2:eF mg):aB P w K mg base aC 1 f fd ["_law_parents_here"] qU:=by
 refine F.ok Vt (fun vs H Q E h=>?_) (fun aR A outer s H vs Q E hr h=>?_)
 ·unfold qU at h;obtain⟨d,kvs,ks,Ps,rfl,_⟩:=h;rfl
 ·unfold qU at h
  obtain⟨d,kvs,ks,Ps,rfl,hd,hk,knd,k8,l2,q⟩:=h;have hu:=hr.units;have i5:=y9 (za (show 1<=64 by decide) _) hu
  refine⟨_,aE (aY (fo NA rfl B.tuple boot_tuple (aa (aP NH rfl B2.sorted boot_sorted (aa (fe rfl JM (QJ (pv 0)) (fun s H fp=>⟨cb (i:=0) JM.nd rfl (Or.inl rfl),fq,
     eo (aa (pv 0) (aa (fo (NW K rfl) rfl B.tuple boot_tuple (aa (Ae i5 (pv 1) (pv 0) (fun _ _=>rfl)) ae)) ae))⟩)) ae)) ae))),?_⟩
  have lk:kvs.length=ks.length:=by have:=d9 List.length hk;simpa using this
  refine⟨_,rfl,d,kvs,rfl,.inl ⟨hd,fun o2 c hc=>?_⟩⟩;have pD:∀b u,b≠d->H b=some u->upd H d (.bo o2 (.dK kvs)) b=some u:=fun b u n e=>by rw[ak n];exact e
  have js:upd H d (.bo o2 (.dK kvs)) d=some (.bo o2 (.dK kvs)):=af;have l0:∀x∈ks,d6 (upd H d (.bo o2 (.dK kvs))) kvs Ps x:=fun x hx=>let ⟨b,e1,e2⟩:=l2 x hx;⟨b,e1,pD _ _ (eI e2 hd (by intro z;cases z)) e2⟩
  generalize upd H d (.bo o2 (.dK kvs))=H1 at pD js l0 hc ⊢;refine OX (fun i ys τ H2=>∃t0:Option V,τ = [t0,some (.ref d)]/\H2 c=some (.lst ys)/\aw H1 H2/\fw H2 ys (je Ps (ks.take i))) ⟨none,rfl,af,aI hc,.nil⟩ (fun i ys τ H2 ⟨_,_,z1,z2,_⟩=>⟨z1,z2 _ _ js⟩) ?_ ?_
  ·rintro i kv ys τ H2 gF ⟨t0,rfl,h2,l7,F2⟩
   have d5:i < kvs.length:=(cZ.mp gF).1;have iX:i < ks.length:=by omega
   obtain⟨x,Le,ek⟩:=R8 hk gF;rw[ek];have hx:x∈ks:=eN Le;have kG:ks.take (i+1)=ks.take i ++ [x]:=by rw[fY,Le];rfl
   obtain⟨a,ea,ha⟩:=(l0 x hx).same l7;refine⟨_,rfl,_,rfl,_,rfl,d,.ref a,rfl,.inl ⟨kvs,Sum.inr x,.inr ⟨o2,l7 _ _ js⟩,rfl,ea.symm⟩,?_⟩;refine⟨a,_,rfl,.inl ⟨ag.of ha,fun b hb=>?_⟩⟩;have Sb:=aI (o:= .tup ((Ps x).map V.str)) hb;refine⟨by show 2<=sizeLine;rw[aA];decide,fun t ht=>?_⟩
   have St:=Sb.trans (aI (o:= .tup [V.str x,.ref b]) ht);have x9:upd (upd H2 b (.tup ((Ps x).map V.str))) t (.tup [V.str x,.ref b]) b=some (.tup ((Ps x).map V.str)):=by rw[ak (a7 af ht)];exact af
   have rY:=St _ _ h2;refine⟨rY,?_,cw_next d5 ⟨_,rfl,af,fun x u hx=>by rw[ak (a7 hx hc)];exact St _ _ (l7 x u hx),?_⟩⟩
   ·have:=F2.length
    unfold je at this;rw[ar,c4]at this;rw[aA];omega
   ·have ef:je Ps (ks.take (i+1))=je Ps (ks.take i) ++ [(x,Ps x)]:=by rw[kG];unfold je;rw[cp];rfl
    rw[ef];refine fw.append (F2.keep fun x xs hx=>?_) ?_ ?_ (b:=b)
    ·rw[ak (eI hx h2 (by intro z;cases z))];exact St _ _ hx
    ·rw[ak (eI af rY (by intro z;cases z))];exact af
    ·rw[ak (eI x9 rY (by intro z;cases z))];exact x9
  ·rintro ys τ H2 ⟨t0,rfl,h2,l7,F2⟩
   rw[lk,fX]at F2;obtain⟨BN,pv,XH,XI⟩:=F2.R7;have xZ:=F2.length;have C2:(je Ps ks).length=ks.length:=by unfold je;exact ar ..
   refine⟨c,ys,BN,rfl,ag.of h2,pv,XI,by rw[XH,zt];exact knd,by omega,fun D bG f7 hD mZ hpv lX C3=>?_⟩
   have SD:=aI (o:= .lst bG) hD;refine⟨D,bG,rfl,ag.of af,fun t o ht ho=>?_⟩;have St:=SD.trans (aI (o:= .bo o (.tup bG)) ht);obtain⟨Vu,ya,F3⟩:=Em mZ F2;exact q t o bG Vu _ (fun b u n e=>St _ _ (l7 _ _ (pD b u n e))) af ho (fw.same F3 St) ya
theorem boot_int:bootBuiltins "int" = some (.type "int"):=by decide +kernel
theorem boot_bool:bootBuiltins "bool" = some (.type "bool"):=by decide +kernel
structure uc (mg:Str->Option Value):Prop where
 int:mg "int" = none
 bool:mg "bool" = none
def dg (d:PyData):Bool:=bp "int" d && !bp "bool" d
def dr (x:Str):Bool:=decide (1<=x.length) && (decide (x.length<=8) && x.cps.toList.all fun c=>decide (97<=c) && decide (c<=122))
def cO:PyData->Bool|.str x=>dr x|_=>false
@[irreducible] def jb:Sp:=fun vs H Q _=>∃ (p:Addr) (v:V) (d:PyData),vs = [v]/\Dt p H v d/\Q (.bl (dg d)) H
theorem mz {d:PyData}{E:XK} (r:Dt p H v d) (q:Q (.bl (dg d)) H):jb [v] H Q E:=by unfold jb;exact⟨p,v,d,rfl,r,q⟩
theorem Q3:b6 ["thing"] ["thing"] (aX zT):=⟨rfl,rfl,rfl,by decide +kernel,rfl,by decide +kernel,by decide +kernel⟩
theorem Qj (F:bg K "is_whole" "is_whole" zT f fd) (B2:eF mg) (B3:uc mg):aB P w K mg base aC 1 f fd ["thing"] jb:=by
 refine F.ok Q3 (fun vs H Q E h=>?_) (fun aR A outer s H vs Q E hr h=>?_)
 ·unfold jb at h;obtain⟨p,v,d,rfl,_⟩:=h;rfl
 ·unfold jb at h
  obtain⟨p,v,d,rfl,r,q⟩:=h;refine⟨_,aE (aY (eT (aP eh rfl B2.dH dj (aa (pv 0) (aa (c7 (v:= .ty "int") rfl B3.int boot_int rfl) ae))) (gR (Hv (aP eh rfl B2.dH dj (aa (pv 0) (aa (c7 (v:= .ty "bool") rfl B3.bool boot_bool rfl) ae))))))),?_⟩;refine⟨_,rfl,dU Aj r ⟨_,rfl,?_⟩⟩;cases hb:bp "int" d with
  |false=>rw[show dg d=false by unfold dg;rw[hb];rfl]at q;exact q
  |true =>
   refine⟨_,rfl,dU vS r ⟨_,rfl,?_⟩⟩;rw[show dg d = !bp "bool" d by unfold dg;rw[hb];rfl]at q;exact q
theorem Qk:b6 ["_law_thing"] ["_law_thing"] (aX Aw):=⟨rfl,rfl,rfl,by decide +kernel,rfl,by decide +kernel,by decide +kernel⟩
theorem Pa (F:bg K "_law_is_whole" "_law_is_whole" Aw f fd) (B2:eF mg) (B3:uc mg):aB P w K mg base aC 1 f fd ["_law_thing"] jb:=by
 refine F.ok Qk (fun vs H Q E h=>?_) (fun aR A outer s H vs Q E hr h=>?_)
 ·unfold jb at h;obtain⟨p,v,d,rfl,_⟩:=h;rfl
 ·unfold jb at h
  obtain⟨p,v,d,rfl,r,q⟩:=h;refine⟨_,aE (aY (eT (aP eh rfl B2.dH dj (aa (pv 0) (aa (c7 (v:= .ty "int") rfl B3.int boot_int rfl) ae))) (gR (Hv (aP eh rfl B2.dH dj (aa (pv 0) (aa (c7 (v:= .ty "bool") rfl B3.bool boot_bool rfl) ae))))))),?_⟩;refine⟨_,rfl,dU Aj r ⟨_,rfl,?_⟩⟩;cases hb:bp "int" d with
  |false=>rw[show dg d=false by unfold dg;rw[hb];rfl]at q;exact q
  |true =>
   refine⟨_,rfl,dU vS r ⟨_,rfl,?_⟩⟩;rw[show dg d = !bp "bool" d by unfold dg;rw[hb];rfl]at q;exact q
@[irreducible] def gQ:Sp:=fun vs H Q _=>∃ (p:Addr) (v:V) (d:PyData),vs = [v]/\Dt p H v d/\(∀x,d = .str x->x.length<=100000) /\ ∀H',aw H H'->Q (.bl (cO d)) H'
theorem nW {d:PyData}{E:XK} (r:Dt p H v d) (hl:∀x,d = .str x->x.length<=100000) (q:∀H',aw H H'->Q (.bl (cO d)) H'):gQ [v] H Q E:=by unfold gQ;exact⟨p,v,d,rfl,r,hl,q⟩
theorem R9 (c:Nat):(!decide ((⟨#[c]⟩:Str).cps.toList < (Str.ofString "a").cps.toList))=decide (97<=c):=by
 have hA:(Str.ofString "a").cps.toList = [97]:=by decide +kernel
 rw[hA,<-decide_not];refine lj.mpr ?_;simp[ab3]
theorem R' (c:Nat):(!decide ((Str.ofString "z").cps.toList < (⟨#[c]⟩:Str).cps.toList))=decide (c<=122):=by
 have hA:(Str.ofString "z").cps.toList = [122]:=by decide +kernel
 rw[hA,<-decide_not];refine lj.mpr ?_;simp[ab3]
theorem He {d:PyData} (h:bp "str" d=false):cO d=false:=by cases d <;> first|rfl|cases h
theorem Ql (F:bg K "is_name" "is_name" sS f fd) (B:cQ mg) (B2:eF mg):aB P w K mg base aC 1 f fd ["thing"] gQ:=by
 refine F.ok R3 (fun vs H Q E h=>?_) (fun aR A outer s H vs Q E hr h=>?_)
 ·unfold gQ at h;obtain⟨p,v,d,rfl,_⟩:=h;rfl
 ·unfold gQ at h
  obtain⟨p0,v,d,rfl,r,hlen,q⟩:=h;have hu:=hr.units;refine⟨_,au (bz (PW.pt (pw_or (ff (dQ (aP eh rfl B2.dH dj (aa (pv 0) (aa (c7 (v:= .ty "str") rfl B2.str boot_str rfl) ae)))))
     (pw_or1 (ff (Fy lC lC ah (aP zg rfl B.len cA (aa (pv 0) ae)) ah))))) (aE (aY gn)) bH)
   (aE (aY (aP (sH rfl) rfl B.all boot_all (aa (fe rfl IJ (HK (pv 0)) (fun s H fp=>⟨cb (i:=0) IJ.nd rfl (Or.inl rfl),fq,zL E1 E1 cE (pv 0) cE⟩)) ae)))),?_⟩
  refine⟨_,rfl,dU we r ⟨_,rfl,?_⟩⟩;cases hb:bp "str" d with
  |false=>have q':=q _ (aw.refl _);rw[He hb]at q';exact q'
  |true =>
   obtain⟨x,rfl⟩:∃x,d = .str x:=by cases d with
    |str x=>exact⟨x,rfl⟩
    |_=>cases hb
   obtain rfl:v = .str x:=by cases r;rfl
   have yb:=hlen x rfl;refine⟨_,rfl,x,rfl,by rw[aA];omega,1,x.length,rfl,rfl,_,rfl,?_⟩
   by_cases h1:1<=x.length
   ·refine ite_tt (b4 (by omega)) ?_
    refine⟨x.length,8,rfl,rfl,_,rfl,?_⟩
    by_cases h8:x.length<=8
    ·have e8:decide ((x.length:Int)<=8)=true:=b4 (by omega)
     have XJ:x.cps.size<=8:=h8;rw[e8];refine⟨_,rfl,x,rfl,fun p hp=>?_⟩;refine FJ (fun i ys τ H1=>∃t0:Option V,τ = [t0]/\ys=((x.cps.toList.take i).map fun c=>decide (97<=c) && decide (c<=122)).map V.bl/\H1=upd H p (.lst ys)) ⟨none,rfl,rfl,rfl⟩ (fun i ys τ H1 ⟨_,_,_,z⟩=>by rw[z];exact af) ?_ ?_
     ·rintro i c ys τ H1 hc ⟨t0,rfl,rfl,rfl⟩
      have iX:i < x.cps.size:=(mh.mp hc).1;have oT:x.cps.toList.take (i+1)=x.cps.toList.take i ++ [c]:=by rw[fY,pN,hc];rfl
      refine⟨_,rfl,_,_,rfl,rfl,_,rfl,?_⟩;rw[R9];have len:((((x.cps.toList.take i).map fun c=>decide (97<=c) && decide (c<=122)).map V.bl).length) < sizeLine:=by rw[ar,ar,c4,d7,aA];omega
      cases rC:decide (97<=c) with
      |false =>
       refine ite_ff rfl ⟨af,len,cw_next iX ⟨_,rfl,?_,by rw[nY]⟩⟩
       rw[oT,cp,cp,cn,rC];rfl
      |true =>
       refine ite_tt rfl ⟨_,_,rfl,rfl,af,len,cw_next iX ⟨_,rfl,?_,by rw[nY]⟩⟩
       rw[R',oT,cp,cp,cn,rC];rfl
     ·rintro ys τ H1 ⟨t0,rfl,rfl,rfl⟩
      refine⟨p,_,rfl,ag.of af,?_⟩;have q':=q _ (aI (o:= .lst (((x.cps.toList.take x.cps.size).map fun c=>decide (97<=c) && decide (c<=122)).map V.bl)) hp);rw[show cO (.str x)=((x.cps.toList.take x.cps.size).map fun c=>decide (97<=c) && decide (c<=122)).all id by
       show dr x=_;unfold dr;rw[b4 h1,b4 h8,zb,sC (by rw[d7];exact ay _)];rfl]at q'
      exact q'
    ·have e8:decide ((x.length:Int)<=8)=false:=cm (by omega)
     rw[e8];have q':=q _ (aw.refl _);rw[show cO (.str x)=false by show dr x=_;unfold dr;rw[cm h8];simp]at q'
     exact q'
   ·refine ite_ff (cm (by omega)) ?_
    have q':=q _ (aw.refl _);rw[show cO (.str x)=false by show dr x=_;unfold dr;rw[cm h1];simp]at q'
    exact⟨_,rfl,q'⟩
theorem gV {ds:List PyData} (r:Dt p H v (.tuple ds)):∃a vs,v = .ref a/\a≠p/\H a=some (.tup vs)/\aK p H vs ds:=by
 cases r with
 |tup n e rs=>exact⟨_,_,rfl,n,e,rs⟩
theorem df {d:PyData}{ds:List PyData} (r:aK p H vs (d::ds)):∃v ws,vs=v::ws/\Dt p H v d/\aK p H ws ds:=by
 cases r with
 |cons a b=>exact⟨_,_,rfl,a,b⟩
theorem j6 (r:aK p H vs []):vs = []:=by cases r;rfl
theorem mY (r:Dt p H v (.str x)):v = .str x:=by cases r;rfl
theorem HZ {x:Int} (r:Dt p H v (.int x)):v = .int x:=by cases r;rfl
theorem is_tup {d:PyData} (h:bp "tuple" d=true):∃ds,d = .tuple ds:=by
 cases d with
 |tuple ds=>exact⟨ds,rfl⟩
 |_=>cases h
theorem Sa {d:PyData} (h:bp "str" d=true):∃x,d = .str x:=by
 cases d with
 |str x=>exact⟨x,rfl⟩
 |_=>cases h
theorem Fp {d:PyData} (h:dg d=true):∃n,d = .int n:=by
 cases d with
 |int n=>exact⟨n,rfl⟩
 |_=>cases h
theorem fh {x:V}:eQ (x::xs) 0=some x:=(show eQ (x::xs) ((0:Nat):Int)=some x from bQ rfl)
theorem fG {x:V}:eQ (x::y::xs) 1=some y:=(show eQ (x::y::xs) ((1:Nat):Int)=some y from bQ rfl)
theorem xb {x z:V}:eQ (x::y::z::xs) 2=some z:=(show eQ (x::y::z::xs) ((2:Nat):Int)=some z from bQ rfl)
theorem qG {a b:Str}:decide (V.str a=V.str b)=(a==b):=by
 rw[show(a==b)=decide (a=b) from rfl];exact lj.mpr ⟨fun e=>by injection e,fun e=>by rw[e]⟩
theorem vV:∀ {ds:List PyData}{d:PyData},d∈ds->d.bulk+1<=PyData.bulkAll ds
 |e::ds,d,h=>by
  rcases bx.mp h with rfl|h
  ·simp only[PyData.bulkAll];omega
  ·have:=vV h;simp only[PyData.bulkAll];omega
def Sm (d:PyData):Prop:=d.bulk<=100000
theorem Sm.str {d:PyData} (h:Sm d):∀x,d = .str x->x.length<=100000:=fun x e=>by subst e;exact h
theorem Sm.tup {ds:List PyData} (h:Sm (.tuple ds)):∀d∈ds,Sm d:=fun d hd=>by
 have:=vV hd;have h':PyData.bulkAll ds<=100000:=h;unfold Sm;omega
theorem qa:∀ds:List PyData,ds.length<=PyData.bulkAll ds
 |[]=>ay _
 |d::ds=>by have:=qa ds;simp only[PyData.bulkAll,b5];omega
def lN:PyData->Bool|.tuple (.str _::_)=>true|_=>false
def c8:PyData->Bool
 |.tuple (.str s::ds)=>if s == "onward" then ds.isEmpty else match ds with
  |[e]=>if s == "ask" then cO e else if s == "times" then (match e with|.int n=>decide (-9<=n) && decide (n<=9)|_=>false) else s == "add" && dg e
  |_=>false
 |_=>false
def iH:PyData->Bool|.tuple ds=>decide (ds.length<=4) && ds.all c8|_=>false
def dh:PyData->Bool
 |.tuple (.str s::ds)=>match ds with
  |[e]=>if s == "plain" then dg e else if s == "ahead" then false else (s == "behind" || s == "shut") && iH e
  |[e,g]=>s == "ahead" && (cO e && dg g)
  |_=>false
 |_=>false
@[irreducible] def oj:Sp:=fun vs H Q _=>∃ (p:Addr) (v:V) (d:PyData),vs = [v]/\Dt p H v d/\Q (.bl (lN d)) H
theorem Ia {d:PyData}{E:XK} (r:Dt p H v d) (q:Q (.bl (lN d)) H):oj [v] H Q E:=by unfold oj;exact⟨p,v,d,rfl,r,q⟩
theorem Uc:b6 ["thing"] ["thing"] (aX Aq):=⟨rfl,rfl,rfl,by decide +kernel,rfl,by decide +kernel,by decide +kernel⟩
theorem Sd {d:PyData} (h:bp "tuple" d=false):lN d=false:=by cases d <;> first|rfl|cases h
theorem Se (F:bg K "begins_with_text" "begins_with_text" Aq f fd) (B:cQ mg) (B2:eF mg):aB P w K mg base aC 1 f fd ["thing"] oj:=by
 refine F.ok Uc (fun vs H Q E h=>?_) (fun aR A outer s H vs Q E hr h=>?_)
 ·unfold oj at h;obtain⟨p,v,d,rfl,_⟩:=h;rfl
 ·unfold oj at h
  obtain⟨p,v,d,rfl,r,q⟩:=h;refine⟨_,aE (aY (eT (aP eh rfl B2.dH dj (aa (pv 0) (aa (c7 (v:= .ty "tuple") rfl B.tuple boot_tuple rfl) ae)))
   (eT (fZ tO (aP cH rfl B.len cA (aa (pv 0) ae)) ah (a8 _))
    (gR (aP eh rfl B2.dH dj (aa (aM bU (pv 0) ah (fun _ _=>rfl)) (aa (c7 (v:= .ty "str") rfl B2.str boot_str rfl) ae))))))),?_⟩
  refine⟨_,rfl,dU kit_tuple r ⟨_,rfl,?_⟩⟩;cases hb:bp "tuple" d with
  |false=>rw[Sd hb]at q;exact q
  |true =>
   obtain⟨ds,rfl⟩:=is_tup hb;obtain⟨a,vs,rfl,na,ha,rs⟩:=gV r;refine⟨_,rfl,a,_,rfl,.inr (ao.of ha),_,_,rfl,rfl,_,rfl,?_⟩;cases ds with
   |nil =>
    obtain rfl:=j6 rs;exact q
   |cons e ds =>
    obtain⟨u,us,rfl,re,rs⟩:=df rs;refine ite_tt (b4 (by rw[b5];omega)) ?_
    refine⟨_,rfl,a,_,0,u,rfl,rfl,ao.of ha,fh,dU we re ?_⟩;rw[show lN (.tuple (e::ds))=bp "str" e by cases e <;> rfl]at q
    exact q
@[irreducible] def j7:Sp:=fun vs H Q _=>∃ (p:Addr) (v:V) (d:PyData),vs = [v]/\Dt p H v d/\Sm d /\ ∀H',aw H H'->Q (.bl (c8 d)) H'
theorem F9 {d:PyData}{E:XK} (r:Dt p H v d) (h:Sm d) (q:∀H',aw H H'->Q (.bl (c8 d)) H'):j7 [v] H Q E:=by unfold j7;exact⟨p,v,d,rfl,r,h,q⟩
theorem Q4:b6 ["thing"] ["thing"] (aX Ap):=⟨rfl,rfl,rfl,by decide +kernel,rfl,by decide +kernel,by decide +kernel⟩
theorem Ga {d:PyData} (h:lN d=true):∃s ds,d = .tuple (.str s::ds):=by
 match d,h with
 |.tuple (.str s::ds),_=>exact⟨s,ds,rfl⟩
theorem Q5 {d:PyData} (h:lN d=false):c8 d=false:=by
 match d,h with
 |.tuple (.str s::ds),h=>cases h
 |.tuple [],_=>rfl
 |.tuple (.none::_),_=>rfl
 |.tuple (.bool _::_),_=>rfl
 |.tuple (.int _::_),_=>rfl
 |.tuple (.list _::_),_=>rfl
 |.tuple (.tuple _::_),_=>rfl
 |.tuple (.dict _::_),_=>rfl
 |.none,_=>rfl
 |.bool _,_=>rfl
 |.int _,_=>rfl
 |.str _,_=>rfl
 |.list _,_=>rfl
 |.dict _,_=>rfl
theorem Qm {d:PyData} (h:lN d=false):dh d=false:=by
 match d,h with
 |.tuple (.str s::ds),h=>cases h
 |.tuple [],_=>rfl
 |.tuple (.none::_),_=>rfl
 |.tuple (.bool _::_),_=>rfl
 |.tuple (.int _::_),_=>rfl
 |.tuple (.list _::_),_=>rfl
 |.tuple (.tuple _::_),_=>rfl
 |.tuple (.dict _::_),_=>rfl
 |.none,_=>rfl
 |.bool _,_=>rfl
 |.int _,_=>rfl
 |.str _,_=>rfl
 |.list _,_=>rfl
 |.dict _,_=>rfl
theorem Qn {tk:Tok} (F:bg K "is_step" "is_step" Ap f fd) (B:cQ mg) (mT:mg "MOST_TIMES" = some (.int 9 tk))
  (GB:aB P w K mg base aC 1 fB dB ["thing"] oj) (kB:keepIn K (.ref fB)=true) (bB:Binds K dB ["thing"] []) (mB:mg "begins_with_text" = some (.ref fB))
  (GN:aB P w K mg base aC 1 fN dN ["thing"] gQ) (kN:keepIn K (.ref fN)=true) (bN:Binds K dN ["thing"] []) (mN:mg "is_name" = some (.ref fN))
  (GW:aB P w K mg base aC 1 fW dW ["thing"] jb) (kW:keepIn K (.ref fW)=true) (bW:Binds K dW ["thing"] []) (mW:mg "is_whole" = some (.ref fW)):aB P w K mg base aC 2 f fd ["thing"] j7:=by
 refine F.ok Q4 (fun vs H Q E h=>?_) (fun aR A outer s H vs Q E hr h=>?_)
 ·unfold j7 at h;obtain⟨p,v,d,rfl,_⟩:=h;rfl
 ·unfold j7 at h
  obtain⟨p,v,d,rfl,r,cK,q⟩:=h;have aU:bf 1 _:=hr;refine⟨_,au (bz (ff (dQ (aF GB aU rfl mB kB bB .nil aG (aa (pv 0) ae)))) (aE (aY gn)) bH)
   (au (bz (bh eu (aM bU (pv 0) ah (fun _ _=>rfl)) cE (a8 _)) (aE (aY (fZ eu (aP cH rfl B.len cA (aa (pv 0) ae)) ah (a8 _)))) bH)
   (au (bz (bh oh (aP cH rfl B.len cA (aa (pv 0) ae)) ah (a8 _)) (aE (aY gn)) bH)
   (au (bz (bh eu (aM bU (pv 0) ah (fun _ _=>rfl)) cE (a8 _)) (aE (aY (aF GN aU rfl mN kN bN .nil aG (aa (aM bU (pv 0) ah (fun _ _=>rfl)) ae)))) bH)
   (au (bz (bh eu (aM bU (pv 0) ah (fun _ _=>rfl)) cE (a8 _)) (aE (aY (eT (aF GW aU rfl mW kW bW .nil aG (aa (aM bU (pv 0) ah (fun _ _=>rfl)) ae))
     (gR (zL lC lC (qA qk (Aa (v:= .int 9) rfl mT ⟨tk,rfl⟩)) (aM bU (pv 0) ah (fun _ _=>rfl)) (Aa (v:= .int 9) rfl mT ⟨tk,rfl⟩)))))) bH)
   (aE (aY (eT (fZ eu (aM bU (pv 0) ah (fun _ _=>rfl)) cE (a8 _)) (gR (aF GW aU rfl mW kW bW .nil aG (aa (aM bU (pv 0) ah (fun _ _=>rfl)) ae)))))))))),?_⟩
  refine⟨_,rfl,Ia r ⟨_,rfl,?_⟩⟩;cases hb:lN d with
  |false=>have q':=q _ (aw.refl _);rw[Q5 hb]at q';exact q'
  |true =>
   obtain⟨x,ds,rfl⟩:=Ga hb;obtain⟨a,vs,rfl,na,ha,rs⟩:=gV r;obtain⟨u,us,rfl,re,r2⟩:=df rs;obtain rfl:=mY re;have el:=r2.length;clear rs;refine⟨_,rfl,a,_,0,_,rfl,rfl,ao.of ha,fh,rfl,_,rfl,?_⟩;rw[qG];have q0:=q _ (aw.refl _);cases h1:(x == "onward") with
   |true =>
    refine⟨_,rfl,a,_,rfl,.inr (ao.of ha),rfl,?_⟩;rw[show c8 (.tuple (.str x::ds))=ds.isEmpty by simp only[c8,h1,gN]]at q0
    rw[show decide (V.int (((V.str x::us).length:Nat):Int)=V.int 1)=ds.isEmpty by
     rw[qd,b5,el];cases ds with
     |nil=>rfl
     |cons e ds=>rw[b5];exact l9.mpr (by omega)]
    exact q0
   |false =>
    refine⟨_,rfl,a,_,rfl,.inr (ao.of ha),rfl,_,rfl,?_⟩;rw[qd,b5,el]
    match ds,r2,q,q0,cK with
    |[],r2,q,q0,cK =>
     rw[show c8 (.tuple [.str x])=false by simp only[c8,h1];rfl]at q0
     exact q0
    |e::e2::ds,r2,q,q0,cK =>
     rw[show c8 (.tuple (.str x::e::e2::ds))=false by simp only[c8,h1];rfl]at q0
     rw[show(!((((e::e2::ds).length+1:Nat):Int)==2))=true by
      rw[Bool.not_eq_true'];exact l9.mpr (by simp only[b5];omega)]
     exact q0
    |[e],r2,q,q0,cK =>
     obtain⟨u1,w1,rfl,r1,r3⟩:=df r2;obtain rfl:=j6 r3;clear r2;have C4:Sm e:=cK.tup e (a9 _ aZ);refine⟨_,rfl,a,_,0,_,rfl,rfl,ao.of ha,fh,rfl,_,rfl,?_⟩;rw[qG];cases h2:(x == "ask") with
     |true =>
      refine⟨_,rfl,a,_,1,_,rfl,rfl,ao.of ha,fG,nW r1 C4.str fun H1 S1=>?_⟩;have q1:=q _ S1;rw[show c8 (.tuple [.str x,e])=cO e by simp only[c8,h1,h2];rfl]at q1
      exact q1
     |false =>
      refine⟨_,rfl,a,_,0,_,rfl,rfl,ao.of ha,fh,rfl,_,rfl,?_⟩;rw[qG];cases h3:(x == "times") with
      |true =>
       refine⟨_,rfl,a,_,1,_,rfl,rfl,ao.of ha,fG,mz r1 ⟨_,rfl,?_⟩⟩;cases hw:dg e with
       |false =>
        rw[show c8 (.tuple [.str x,e])=false by
         simp only[c8,h1,h2,h3];cases e <;> first|rfl|cases hw]at q0
        exact q0
       |true =>
        obtain⟨n,rfl⟩:=Fp hw;obtain rfl:=HZ r1;rw[show c8 (.tuple [.str x,.int n])=(decide (-9<=n) && decide (n<=9)) by simp only[c8,h1,h2,h3];rfl]at q0
        refine⟨9,rfl,_,rfl,a,_,1,_,rfl,rfl,ao.of ha,fG,_,_,rfl,rfl,_,rfl,?_⟩;cases h9:decide (-9<=n) with
        |false=>rw[h9]at q0;exact ite_ff rfl q0
        |true=>rw[h9]at q0;exact ite_tt rfl ⟨_,_,rfl,rfl,q0⟩
      |false =>
       refine⟨_,rfl,a,_,0,_,rfl,rfl,ao.of ha,fh,rfl,_,rfl,?_⟩;rw[qG];rw[show c8 (.tuple [.str x,e])=(x == "add" && dg e) by simp only[c8,h1,h2,h3];rfl]at q0
       cases h4:(x == "add") with
       |false=>rw[h4]at q0;exact q0
       |true=>rw[h4]at q0;exact⟨_,rfl,a,_,1,_,rfl,rfl,ao.of ha,fG,mz r1 q0⟩
@[irreducible] def qr:Sp:=fun vs H Q _=>∃ (p:Addr) (v:V) (d:PyData),vs = [v]/\Dt p H v d/\Sm d /\ ∀H',aw H H'->Q (.bl (iH d)) H'
theorem Q6 {d:PyData}{E:XK} (r:Dt p H v d) (h:Sm d) (q:∀H',aw H H'->Q (.bl (iH d)) H'):qr [v] H Q E:=by unfold qr;exact⟨p,v,d,rfl,r,h,q⟩
theorem Sg:b6 ["thing"] ["thing"] (aX sL):=⟨rfl,rfl,rfl,by decide +kernel,rfl,by decide +kernel,by decide +kernel⟩
def IL (e:Expr) (i:Nat):Expr:=match e with|.BoolOp _ es _=>es.getD i (.Constant .none 0 ⟨0,0,0,0⟩)|_=>.Constant .none 0 ⟨0,0,0,0⟩
abbrev Ud:Expr:=f' (IL (oF (cS (cR sL) 0)) 2)
theorem Ib:cM ["thing"] (aX sL) ["step"] [none] (dX Ud):=⟨rfl,by decide +kernel,by decide +kernel,rfl,f6 (by decide +kernel),by decide +kernel⟩
theorem Gb {d:PyData} (h:bp "tuple" d=false):iH d=false:=by cases d <;> first|rfl|cases h
theorem aK.same {ds:List PyData} (r:aK p H vs ds) (S:aw H H'):aK p H' vs ds:=r.keep fun b o e _=>S b o e
theorem Dt.same {d:PyData} (r:Dt p H v d) (S:aw H H'):Dt p H' v d:=r.keep fun b o e _=>S b o e
theorem z0 {c:Addr}{ds:List PyData}{g:PyData->Bool}{tl:St} (ha:H a=some (.tup vs)) (rs:aK p H vs ds) (hc:H c=none) (h4:ds.length<=1000)
  (XM:∀ (v:V) (d:PyData) (H1:Hp) (Q1:VK),d∈ds->aw H H1->Dt p H1 v d->(∀H2,aw H1 H2->Q1 (.bl (g d)) H2)->te (some v::tl) H1 Q1)
  (q:∀H1,aw H H1->H1 c=some (.lst ((ds.map g).map V.bl))->Q (.ref c) H1):kb (oP K a) (tN 0) A4 te (none::tl) Q c H:=by
 have hl:=rs.length;refine vO (xs:=vs) (fun i ys τ H2=>∃t0:Option V,τ=t0::tl/\ys=((ds.take i).map g).map V.bl/\aw H H2/\H2 c=some (.lst ys)) ⟨none,rfl,rfl,aI hc,af⟩ (fun i ys τ H2 ⟨_,_,_,z,z2⟩=>⟨z2,ao.of (z _ _ ha)⟩) ?_ ?_
 ·rintro i x ys τ H2 hx ⟨t0,rfl,rfl,S2,h2⟩
  have d5:i < vs.length:=(cZ.mp hx).1;have gK:i < ds.length:=by omega
  obtain⟨v',eX,rd⟩:=rs.get (aQ gK);rw[hx]at eX;cases eX;refine XM x ds[i] H2 _ (fV gK) S2 (rd.keep fun b o e _=>S2 b o e) fun H3 S3=>⟨S3 _ _ h2,by rw[ar,ar,c4,aA];omega,cw_next d5 ⟨_,rfl,?_,fun b u e=>?_,af⟩⟩
  ·rw[fY,aQ gK,cp,cp];rfl
  ·rw[ak (a7 e hc)];exact S3 _ _ (S2 _ _ e)
 ·rintro ys τ H2 ⟨t0,rfl,rfl,S2,h2⟩
  rw[hl,fX]at h2;exact q H2 S2 h2
theorem Q7 {tk:Tok} (F:bg K "are_steps" "are_steps" sL f fd) (B:cQ mg) (B2:eF mg) (mM:mg "MOST_STEPS" = some (.int 4 tk))
  (GS:aB P w K mg base aC 2 fS dS ["thing"] j7) (kS:keepIn K (.ref fS)=true) (bS:Binds K dS ["thing"] []) (mS:mg "is_step" = some (.ref fS)):aB P w K mg base aC 3 f fd ["thing"] qr:=by
 refine F.ok Sg (fun vs H Q E h=>?_) (fun aR A outer s H vs Q E hr h=>?_)
 ·unfold qr at h;obtain⟨p,v,d,rfl,_⟩:=h;rfl
 ·unfold qr at h
  obtain⟨p,v,d,rfl,r,cK,q⟩:=h;have eY:bf 2 _:=hr;refine⟨_,aE (aY (eT (aP eh rfl B2.dH dj (aa (pv 0) (aa (c7 (v:= .ty "tuple") rfl B.tuple boot_tuple rfl) ae)))
   (eT (fZ lC (aP cH rfl B.len cA (aa (pv 0) ae)) (Aa (v:= .int 4) rfl mM ⟨tk,rfl⟩) (a8 _))
    (gR (aP (sH rfl) rfl B.all boot_all (aa (fe rfl Ib (mV (pv 0)) (fun s H fp=>⟨cb (i:=0) Ib.nd rfl (Or.inl rfl),fq,aF GS eY rfl mS kS bS .nil aG (aa (pv 0) ae)⟩)) ae)))))),?_⟩
  refine⟨_,rfl,dU kit_tuple r ⟨_,rfl,?_⟩⟩;have q0:=q _ (aw.refl _);cases hb:bp "tuple" d with
  |false=>rw[Gb hb]at q0;exact q0
  |true =>
   obtain⟨ds,rfl⟩:=is_tup hb;obtain⟨a,vs,rfl,na,ha,rs⟩:=gV r;have hl:=rs.length;refine⟨_,rfl,a,_,rfl,.inr (ao.of ha),_,_,rfl,rfl,_,rfl,?_⟩
   by_cases h4:ds.length<=4
   ·refine ite_tt (b4 (by omega)) ?_
    refine⟨_,rfl,a,rfl,⟨_,ao.of ha⟩,fun c hc=>z0 (g:=c8) ha rs hc (by omega) (fun v' d' H1 Q1 oM S1 u0 k=>⟨_,rfl,F9 u0 (cK.tup d' oM) k⟩) fun H1 S1 h1=>⟨c,_,rfl,ag.of h1,?_⟩⟩
    have q1:=q _ S1;rw[show iH (.tuple ds)=(ds.map c8).all id by show(decide (ds.length<=4) && ds.all c8)=_;rw[b4 h4,zb];rfl]at q1
    exact q1
   ·rw[show iH (.tuple ds)=false by show(decide (ds.length<=4) && ds.all c8)=_;rw[cm h4];rfl]at q0
    exact ite_ff (cm (by omega)) q0
@[irreducible] def j8:Sp:=fun vs H Q _=>∃ (p:Addr) (v:V) (d:PyData),vs = [v]/\Dt p H v d/\Sm d /\ ∀H',aw H H'->Q (.bl (dh d)) H'
theorem Hf {d:PyData}{E:XK} (r:Dt p H v d) (h:Sm d) (q:∀H',aw H H'->Q (.bl (dh d)) H'):j8 [v] H Q E:=by unfold j8;exact⟨p,v,d,rfl,r,h,q⟩
theorem Sh:b6 ["thing"] ["thing"] (aX zU):=⟨rfl,rfl,rfl,by decide +kernel,rfl,by decide +kernel,by decide +kernel⟩
theorem xc {a b:Str} (h:(x==a)=true) (n:(a==b)=false):(x==b)=false:=by rw[eq_of_beq h];exact n
theorem Pb {ds:List PyData} (h:(x == "plain")=true) (hl:ds.length≠1):dh (.tuple (.str x::ds))=false:=by
 have n:(x == "ahead")=false:=xc h (by decide +kernel)
 match ds,hl with
 |[],_=>rfl
 |[e],hl=>exact absurd rfl hl
 |[e,g],_=>simp only[dh,n];rfl
 |_::_::_::_,_=>rfl
theorem Pd {ds:List PyData} (h1:(x == "plain")=false) (h:(x == "ahead")=true) (hl:ds.length≠2):dh (.tuple (.str x::ds))=false:=by
 match ds,hl with
 |[],_=>rfl
 |[e],_=>simp only[dh,h1,h];rfl
 |[e,g],hl=>exact absurd rfl hl
 |_::_::_::_,_=>rfl
theorem Qo {ds:List PyData} (h:(x == "ahead")=false) (hl:ds.length≠1):dh (.tuple (.str x::ds))=false:=by
 match ds,hl with
 |[],_=>rfl
 |[e],hl=>exact absurd rfl hl
 |[e,g],_=>simp only[dh,h];rfl
 |_::_::_::_,_=>rfl
theorem Si {a b:Str}:oW (V.str x) [V.str a,V.str b]=(x==a || x==b):=by
 show((a==x) || ((b==x) || false))=_;rw[yG,show(a==x)=(x==a) from M0,show(b==x)=(x==b) from M0]
theorem Q8 (F:bg K "is_entry" "is_entry" zU f fd) (B:cQ mg)
  (GB:aB P w K mg base aC 1 fB dB ["thing"] oj) (kB:keepIn K (.ref fB)=true) (bB:Binds K dB ["thing"] []) (mB:mg "begins_with_text" = some (.ref fB))
  (GN:aB P w K mg base aC 1 fN dN ["thing"] gQ) (kN:keepIn K (.ref fN)=true) (bN:Binds K dN ["thing"] []) (mN:mg "is_name" = some (.ref fN))
  (GW:aB P w K mg base aC 1 fW dW ["thing"] jb) (kW:keepIn K (.ref fW)=true) (bW:Binds K dW ["thing"] []) (mW:mg "is_whole" = some (.ref fW))
  (GS:aB P w K mg base aC 3 fS dS ["thing"] qr) (kS:keepIn K (.ref fS)=true) (bS:Binds K dS ["thing"] []) (mS:mg "are_steps" = some (.ref fS)):aB P w K mg base aC 4 f fd ["thing"] j8:=by
 refine F.ok Sh (fun vs H Q E h=>?_) (fun aR A outer s H vs Q E hr h=>?_)
 ·unfold j8 at h;obtain⟨p,v,d,rfl,_⟩:=h;rfl
 ·unfold j8 at h
  obtain⟨p,v,d,rfl,r,cK,q⟩:=h;have iC:bf 3 _:=hr;have aU:bf 1 _:=iC.mono (by decide)
  refine⟨_,au (bz (ff (dQ (aF GB aU rfl mB kB bB .nil aG (aa (pv 0) ae)))) (aE (aY gn)) bH)
   (au (bz (bh eu (aM bU (pv 0) ah (fun _ _=>rfl)) cE (a8 _)) (aE (aY (eT (fZ eu (aP cH rfl B.len cA (aa (pv 0) ae)) ah (a8 _)) (gR (aF GW aU rfl mW kW bW .nil aG (aa (aM bU (pv 0) ah (fun _ _=>rfl)) ae)))))) bH)
   (au (bz (bh eu (aM bU (pv 0) ah (fun _ _=>rfl)) cE (a8 _)) (aE (aY (eT (fZ eu (aP cH rfl B.len cA (aa (pv 0) ae)) ah (a8 _)) (eT (aF GN aU rfl mN kN bN .nil aG (aa (aM bU (pv 0) ah (fun _ _=>rfl)) ae)) (gR (aF GW aU rfl mW kW bW .nil aG (aa (aM bU (pv 0) ah (fun _ _=>rfl)) ae))))))) bH)
   (aE (aY (eT (fZ (Ad K rfl) (aM bU (pv 0) ah (fun _ _=>rfl)) (eo (aa cE (aa cE ae))) rfl) (eT (fZ eu (aP cH rfl B.len cA (aa (pv 0) ae)) ah (a8 _)) (gR (aF GS iC rfl mS kS bS .nil aG (aa (aM bU (pv 0) ah (fun _ _=>rfl)) ae))))))))),?_⟩
  refine⟨_,rfl,Ia r ⟨_,rfl,?_⟩⟩;have q0:=q _ (aw.refl _);cases hb:lN d with
  |false=>rw[Qm hb]at q0;exact q0
  |true =>
   obtain⟨x,ds,rfl⟩:=Ga hb;obtain⟨a,vs,rfl,na,ha,rs⟩:=gV r;obtain⟨u,us,rfl,re,r2⟩:=df rs;obtain rfl:=mY re;have el:=r2.length;clear rs;refine⟨_,rfl,a,_,0,_,rfl,rfl,ao.of ha,fh,rfl,_,rfl,?_⟩;rw[qG];have BQ:∀k:Int,decide (V.int (((V.str x::us).length:Nat):Int)=V.int k)=decide ((ds.length:Int)+1=k):=fun k=>by
    rw[b5,el];exact lj.mpr ⟨fun e=>by injection e with e,fun e=>by rw[<-e];exact d9 V.int (Int.natCast_add _ _)⟩
   cases h1:(x == "plain") with
   |true =>
    refine⟨_,rfl,a,_,rfl,.inr (ao.of ha),rfl,_,rfl,?_⟩;rw[BQ]
    by_cases hl:ds.length=1
    ·obtain⟨e,rfl⟩:=D2.mp hl
     obtain⟨u1,w1,rfl,r1,r3⟩:=df r2;refine ite_tt (b4 (by omega)) ?_
     rw[show dh (.tuple [.str x,e])=dg e by simp only[dh,h1];rfl]at q0
     exact⟨_,rfl,a,_,1,_,rfl,rfl,ao.of ha,fG,mz r1 q0⟩
    ·rw[Pb h1 hl]at q0
     refine ite_ff (cm (by omega)) ?_
     exact q0
   |false =>
    refine⟨_,rfl,a,_,0,_,rfl,rfl,ao.of ha,fh,rfl,_,rfl,?_⟩;rw[qG];cases h2:(x == "ahead") with
    |true =>
     refine⟨_,rfl,a,_,rfl,.inr (ao.of ha),rfl,_,rfl,?_⟩;rw[BQ]
     by_cases hl:ds.length=2
     ·obtain⟨e,g,rfl⟩:∃e g,ds = [e,g]:=by match ds,hl with | [e,g],_=>exact⟨e,g,rfl⟩
      obtain⟨u1,w1,rfl,r1,r3⟩:=df r2;obtain⟨u2,w2,rfl,r4,r5⟩:=df r3;refine ite_tt (b4 (by omega)) ?_
      refine⟨_,rfl,a,_,1,_,rfl,rfl,ao.of ha,fG,nW r1 (cK.tup e (a9 _ aZ)).str fun H1 S1=>⟨_,rfl,?_⟩⟩;have q1:=q _ S1;rw[show dh (.tuple [.str x,e,g])=(cO e && dg g) by simp only[dh,h2,D9]]at q1
      cases hn:cO e with
      |false=>rw[hn]at q1;exact q1
      |true=>rw[hn]at q1;exact⟨_,rfl,a,_,2,_,rfl,rfl,ao.of (S1 _ _ ha),xb,mz (Dt.same r4 S1) q1⟩
     ·rw[Pd h1 h2 hl]at q0
      refine ite_ff (cm (by omega)) ?_
      exact q0
    |false =>
     refine⟨_,rfl,a,_,0,_,rfl,rfl,ao.of ha,fh,by show 2<=sizeLine;rw[aA];decide,fun c hc=>?_⟩
     have S1:=aI (o:= .tup [V.str "behind",V.str "shut"]) hc;refine⟨c,_,rfl,.inr (ao.of af),rfl,sG ["behind","shut"],_,rfl,?_⟩;rw[aj cz,show oW (V.str x) [V.str "behind",V.str "shut"]=(x == "behind" || x == "shut") from Si];have q1:=q _ S1;cases h3:(x == "behind" || x == "shut") with
     |false =>
      rw[show dh (.tuple (.str x::ds))=false by
       match ds with
       |[]=>rfl
       |[e]=>simp only[dh,h1,h2,h3];rfl
       |[e,g]=>simp only[dh,h2];rfl
       |_::_::_::_=>rfl]at q1
      exact q1
     |true =>
      refine⟨_,rfl,a,_,rfl,.inr (ao.of (S1 _ _ ha)),rfl,_,rfl,?_⟩;rw[BQ]
      by_cases hl:ds.length=1
      ·obtain⟨e,rfl⟩:=D2.mp hl
       obtain⟨u1,w1,rfl,r1,r3⟩:=df r2;refine ite_tt (b4 (by omega)) ?_
       refine⟨_,rfl,a,_,1,_,rfl,rfl,ao.of (S1 _ _ ha),fG,Q6 (Dt.same r1 S1) (cK.tup e (a9 _ aZ)) fun H2 S2=>?_⟩;have q2:=q _ (S1.trans S2);rw[show dh (.tuple [.str x,e])=iH e by simp only[dh,h1,h2,h3];rfl]at q2
       exact q2
      ·rw[Qo h2 hl]at q1
       refine ite_ff (cm (by omega)) ?_
       exact q1
theorem Sj (c:Nat):(!(Builtin.Str.occurrences (Str.ofString "abcdefghijklmnopqrstuvwxyz") ⟨#[c]⟩ 0 (Str.ofString "abcdefghijklmnopqrstuvwxyz").length 1).isEmpty)=(decide (97<=c) && decide (c<=122)):=by
 rw[StrLaws.found_one,show(Str.ofString "abcdefghijklmnopqrstuvwxyz").cps.toList=List.range' 97 26 from by decide +kernel,<-Bool.decide_and]
 refine lj.mpr ?_;rw[List.mem_range'_1];omega
theorem Q9:b6 ["_law_thing"] ["_law_thing"] (aX tH):=⟨rfl,rfl,rfl,by decide +kernel,rfl,by decide +kernel,by decide +kernel⟩
abbrev Ue:Expr:=f' (oF (cS (cR tH) 1))
theorem Ic:cM ["_law_thing"] (aX tH) ["_law_sign"] [none] (dX Ue):=⟨rfl,by decide +kernel,by decide +kernel,rfl,f6 (by decide +kernel),by decide +kernel⟩
theorem Qp (F:bg K "_law_is_name" "_law_is_name" tH f fd) (B:cQ mg) (B2:eF mg):aB P w K mg base aC 1 f fd ["_law_thing"] gQ:=by
 refine F.ok Q9 (fun vs H Q E h=>?_) (fun aR A outer s H vs Q E hr h=>?_)
 ·unfold gQ at h;obtain⟨p,v,d,rfl,_⟩:=h;rfl
 ·unfold gQ at h
  obtain⟨p0,v,d,rfl,r,hlen,q⟩:=h;have hu:=hr.units;refine⟨_,au (bz (PW.pt (pw_or (ff (dQ (aP eh rfl B2.dH dj (aa (pv 0) (aa (c7 (v:= .ty "str") rfl B2.str boot_str rfl) ae)))))
     (pw_or1 (ff (Fy lC lC ah (aP zg rfl B.len cA (aa (pv 0) ae)) ah))))) (aE (aY gn)) bH)
   (aE (aY (aP (sH rfl) rfl B.all boot_all (aa (fe rfl Ic (HK (pv 0)) (fun s H fp=>⟨cb (i:=0) Ic.nd rfl (Or.inl rfl),fq,fZ OM (pv 0) cE rfl⟩)) ae)))),?_⟩
  refine⟨_,rfl,dU we r ⟨_,rfl,?_⟩⟩;cases hb:bp "str" d with
  |false=>have q':=q _ (aw.refl _);rw[He hb]at q';exact q'
  |true =>
   obtain⟨x,rfl⟩:=Sa hb;obtain rfl:=mY r;have yb:=hlen x rfl;refine⟨_,rfl,x,rfl,by rw[aA];omega,1,x.length,rfl,rfl,_,rfl,?_⟩
   by_cases h1:1<=x.length
   ·refine ite_tt (b4 (by omega)) ?_
    refine⟨x.length,8,rfl,rfl,_,rfl,?_⟩
    by_cases h8:x.length<=8
    ·have e8:decide ((x.length:Int)<=8)=true:=b4 (by omega)
     have XJ:x.cps.size<=8:=h8;rw[e8];refine⟨_,rfl,x,rfl,fun p hp=>?_⟩;refine FJ (fun i ys τ H1=>∃t0:Option V,τ = [t0]/\ys=((x.cps.toList.take i).map fun c=>decide (97<=c) && decide (c<=122)).map V.bl/\H1=upd H p (.lst ys)) ⟨none,rfl,rfl,rfl⟩ (fun i ys τ H1 ⟨_,_,_,z⟩=>by rw[z];exact af) ?_ ?_
     ·rintro i c ys τ H1 hc ⟨t0,rfl,rfl,rfl⟩
      have iX:i < x.cps.size:=(mh.mp hc).1;have oT:x.cps.toList.take (i+1)=x.cps.toList.take i ++ [c]:=by rw[fY,pN,hc];rfl
      refine⟨_,rfl,_,_,rfl,rfl,af,by rw[ar,ar,c4,d7,aA];omega,cw_next iX ⟨_,rfl,?_,by rw[nY]⟩⟩
      rw[Sj,oT,cp,cp];rfl
     ·rintro ys τ H1 ⟨t0,rfl,rfl,rfl⟩
      refine⟨p,_,rfl,ag.of af,?_⟩;have q':=q _ (aI (o:= .lst (((x.cps.toList.take x.cps.size).map fun c=>decide (97<=c) && decide (c<=122)).map V.bl)) hp);rw[show cO (.str x)=((x.cps.toList.take x.cps.size).map fun c=>decide (97<=c) && decide (c<=122)).all id by
       show dr x=_;unfold dr;rw[b4 h1,b4 h8,zb,sC (by rw[d7];exact ay _)];rfl]at q'
      exact q'
    ·have e8:decide ((x.length:Int)<=8)=false:=cm (by omega)
     rw[e8];have q':=q _ (aw.refl _);rw[show cO (.str x)=false by show dr x=_;unfold dr;rw[cm h8];simp]at q'
     exact q'
   ·refine ite_ff (cm (by omega)) ?_
    have q':=q _ (aw.refl _);rw[show cO (.str x)=false by show dr x=_;unfold dr;rw[cm h1];simp]at q'
    exact⟨_,rfl,q'⟩
def gC (e:PyData) (ds:List PyData):Bool:=if cC "onward" e then ds.isEmpty else match ds with
  |[g]=>if cC "ask" e then cO g else if cC "times" e then (match g with|.int n=>decide (-9<=n) && decide (n<=9)|_=>false) else cC "add" e && dg g
  |_=>false
theorem step_eq (e:PyData) (ds:List PyData):c8 (.tuple (e::ds))=gC e ds:=by
 cases e with
 |str s=>rfl
 |_ =>
  match ds with
  |[]=>rfl
  |[g]=>rfl
  |_::_::_=>rfl
theorem OE {d:PyData} (h:bp "tuple" d=false):c8 d=false:=by cases d <;> first|rfl|cases h
theorem Ra:b6 ["_law_thing"] ["_law_thing"] (aX AS):=⟨rfl,rfl,rfl,by decide +kernel,rfl,by decide +kernel,by decide +kernel⟩
theorem Qq (F:bg K "_law_is_step" "_law_is_step" AS f fd) (B:cQ mg) (B2:eF mg)
  (GN:aB P w K mg base aC 1 fN dN ["_law_thing"] gQ) (kN:keepIn K (.ref fN)=true) (bN:Binds K dN ["_law_thing"] []) (mN:mg "_law_is_name" = some (.ref fN))
  (GW:aB P w K mg base aC 1 fW dW ["_law_thing"] jb) (kW:keepIn K (.ref fW)=true) (bW:Binds K dW ["_law_thing"] []) (mW:mg "_law_is_whole" = some (.ref fW)):aB P w K mg base aC 2 f fd ["_law_thing"] j7:=by
 refine F.ok Ra (fun vs H Q E h=>?_) (fun aR A outer s H vs Q E hr h=>?_)
 ·unfold j7 at h;obtain⟨p,v,d,rfl,_⟩:=h;rfl
 ·unfold j7 at h
  obtain⟨p,v,d,rfl,r,cK,q⟩:=h;have aU:bf 1 _:=hr;have hu:=hr.units;refine⟨_,au (bz (PW.pt (pw_or (ff (dQ (aP eh rfl B2.dH dj (aa (pv 0) (aa (c7 (v:= .ty "tuple") rfl B.tuple boot_tuple rfl) ae))))) (pw_or1 (bh (Ak hu) (pv 0) (eo ae) (a8 _))))) (aE (aY gn)) bH)
   (au (bz (bh (qm hu) (aM bU (pv 0) ah (fun _ _=>rfl)) cE (a8 _)) (aE (aY (fZ eu (aP cH rfl B.len cA (aa (pv 0) ae)) ah (a8 _)))) bH)
   (au (bz (bh oh (aP cH rfl B.len cA (aa (pv 0) ae)) ah (a8 _)) (aE (aY gn)) bH)
   (au (bz (bh (qm hu) (aM bU (pv 0) ah (fun _ _=>rfl)) cE (a8 _)) (aE (aY (aF GN aU rfl mN kN bN .nil aG (aa (aM bU (pv 0) ah (fun _ _=>rfl)) ae)))) bH)
   (au (bz (bh (qm hu) (aM bU (pv 0) ah (fun _ _=>rfl)) cE (a8 _)) (aE (aY (eT (aF GW aU rfl mW kW bW .nil aG (aa (aM bU (pv 0) ah (fun _ _=>rfl)) ae))
     (gR (zL lC lC (qA qk ah) (aM bU (pv 0) ah (fun _ _=>rfl)) ah))))) bH)
   (aE (aY (eT (fZ (qm hu) (aM bU (pv 0) ah (fun _ _=>rfl)) cE (a8 _)) (gR (aF GW aU rfl mW kW bW .nil aG (aa (aM bU (pv 0) ah (fun _ _=>rfl)) ae)))))))))),?_⟩
  refine⟨_,rfl,dU kit_tuple r ⟨_,rfl,?_⟩⟩;cases hb:bp "tuple" d with
  |false=>have q':=q _ (aw.refl _);rw[OE hb]at q';exact q'
  |true =>
   obtain⟨ds,rfl⟩:=is_tup hb;obtain⟨a,vs,rfl,na,ha,rs⟩:=gV r;refine⟨_,rfl,aN _,fun e0 hZ=>?_⟩;have S0:=aI (o:= .tup []) hZ;have ha:=S0 _ _ ha;have rs:=aK.same rs S0;have he:upd H e0 (.tup []) e0=some (.tup []):=af;generalize upd H e0 (.tup [])=H0 at S0 ha rs he ⊢;refine⟨a,e0,_,rfl,rfl,ha,he,_,rfl,?_⟩;have q0:=q _ S0;cases ds with
   |nil=>obtain rfl:=j6 rs;exact q0
   |cons e ds =>
    obtain⟨u,us,rfl,re,r2⟩:=df rs;have el:=r2.length;clear rs;have qs:∀H',aw H0 H'->Q (.bl (gC e ds)) H':=fun H' S=>by rw[<-step_eq];exact q _ (S0.trans S)
    have q0:=qs _ (aw.refl _);refine⟨_,rfl,a,_,0,_,rfl,rfl,ao.of ha,fh,p,e,_,re,rfl,_,rfl,?_⟩;cases h1:cC "onward" e with
    |true =>
     refine⟨_,rfl,a,_,rfl,.inr (ao.of ha),rfl,?_⟩;rw[show gC e ds=ds.isEmpty by simp only[gC,h1,gN]]at q0
     rw[show decide (V.int (((u::us).length:Nat):Int)=V.int 1)=ds.isEmpty by
      rw[qd,b5,el];cases ds with
      |nil=>rfl
      |cons e ds=>rw[b5];exact l9.mpr (by omega)]
     exact q0
    |false =>
     refine⟨_,rfl,a,_,rfl,.inr (ao.of ha),rfl,_,rfl,?_⟩;rw[qd,b5,el]
     match ds,r2,qs,q0,cK with
     |[],r2,qs,q0,cK =>
      rw[show gC e []=false by simp only[gC,h1];rfl]at q0
      exact q0
     |e1::e2::ds,r2,qs,q0,cK =>
      rw[show gC e (e1::e2::ds)=false by simp only[gC,h1];rfl]at q0
      rw[show(!((((e1::e2::ds).length+1:Nat):Int)==2))=true by
       rw[Bool.not_eq_true'];exact l9.mpr (by simp only[b5];omega)]
      exact q0
     |[g],r2,qs,q0,cK =>
      obtain⟨u1,w1,rfl,r1,r3⟩:=df r2;obtain rfl:=j6 r3;clear r2;have C4:Sm g:=cK.tup g (a9 _ aZ);refine⟨_,rfl,a,_,0,_,rfl,rfl,ao.of ha,fh,p,e,_,re,rfl,_,rfl,?_⟩;cases h2:cC "ask" e with
      |true =>
       refine⟨_,rfl,a,_,1,_,rfl,rfl,ao.of ha,fG,nW r1 C4.str fun H1 S1=>?_⟩;have q1:=qs _ S1;rw[show gC e [g]=cO g by simp only[gC,h1,h2];rfl]at q1
       exact q1
      |false =>
       refine⟨_,rfl,a,_,0,_,rfl,rfl,ao.of ha,fh,p,e,_,re,rfl,_,rfl,?_⟩;cases h3:cC "times" e with
       |true =>
        refine⟨_,rfl,a,_,1,_,rfl,rfl,ao.of ha,fG,mz r1 ⟨_,rfl,?_⟩⟩;cases hw:dg g with
        |false =>
         rw[show gC e [g]=false by
          simp only[gC,h1,h2,h3];cases g <;> first|rfl|cases hw]at q0
         exact q0
        |true =>
         obtain⟨n,rfl⟩:=Fp hw;obtain rfl:=HZ r1;rw[show gC e [.int n]=(decide (-9<=n) && decide (n<=9)) by simp only[gC,h1,h2,h3];rfl]at q0
         refine⟨9,rfl,_,rfl,a,_,1,_,rfl,rfl,ao.of ha,fG,_,_,rfl,rfl,_,rfl,?_⟩;cases h9:decide (-9<=n) with
         |false=>rw[h9]at q0;exact ite_ff rfl q0
         |true=>rw[h9]at q0;exact ite_tt rfl ⟨_,_,rfl,rfl,q0⟩
       |false =>
        refine⟨_,rfl,a,_,0,_,rfl,rfl,ao.of ha,fh,p,e,_,re,rfl,_,rfl,?_⟩;rw[show gC e [g]=(cC "add" e && dg g) by simp only[gC,h1,h2,h3];rfl]at q0
        cases h4:cC "add" e with
        |false=>rw[h4]at q0;exact q0
        |true=>rw[h4]at q0;exact⟨_,rfl,a,_,1,_,rfl,rfl,ao.of ha,fG,mz r1 q0⟩
def Vv (e:PyData):List PyData->Bool
 |[g]=>if cC "plain" e then dg g else (cC "behind" e || cC "shut" e) && iH g
 |[g,h]=>cC "ahead" e && (cO g && dg h)
 |_=>false
theorem wC (e:PyData) (ds:List PyData):dh (.tuple (e::ds))=Vv e ds:=by
 cases e with
 |str s =>
  match ds with
  |[]=>rfl
  |[g] =>
   show(if (s == "plain")=true then dg g else if (s == "ahead")=true then false else (s == "behind" || s == "shut") && iH g)=if (s == "plain")=true then dg g else (s == "behind" || s == "shut") && iH g;cases h:(s == "ahead") with
   |false=>rfl
   |true=>rw[xc h (show(("ahead" : Str) == "plain")=false by decide +kernel),xc h (show(("ahead" : Str) == "behind")=false by decide +kernel),xc h (show(("ahead" : Str) == "shut")=false by decide +kernel)];rfl
  |[g,h]=>rfl
  |_::_::_::_=>rfl
 |_ =>
  match ds with
  |[]=>rfl
  |[g]=>rfl
  |[g,h]=>rfl
  |_::_::_::_=>rfl
theorem Pe {d:PyData} (h:bp "tuple" d=false):dh d=false:=by cases d <;> first|rfl|cases h
theorem Sn:b6 ["_law_thing"] ["_law_thing"] (aX sU):=⟨rfl,rfl,rfl,by decide +kernel,rfl,by decide +kernel,by decide +kernel⟩
abbrev Ug:Expr:=f' (oF (cS (cR sU) 4))
theorem Ie:cM ["_law_thing"] (aX sU) ["_law_step_here"] [none] (dX Ug):=⟨rfl,by decide +kernel,by decide +kernel,rfl,f6 (by decide +kernel),by decide +kernel⟩
theorem Uh (n:Nat):oW (V.int (n:Int)) [V.int 2,V.int 3]=(decide (n=2) || decide (n=3)):=by
 show(((2:Int)==(n:Int)) || (((3:Int)==(n:Int)) || false))=_;rw[yG]
 congr 1
 ·exact lj.mpr ⟨fun e=>by omega,fun e=>by omega⟩
 ·exact lj.mpr ⟨fun e=>by omega,fun e=>by omega⟩
theorem Rb (F:bg K "_law_is_entry" "_law_is_entry" sU f fd) (B:cQ mg) (B2:eF mg)
  (GN:aB P w K mg base aC 1 fN dN ["_law_thing"] gQ) (kN:keepIn K (.ref fN)=true) (bN:Binds K dN ["_law_thing"] []) (mN:mg "_law_is_name" = some (.ref fN))
  (GW:aB P w K mg base aC 1 fW dW ["_law_thing"] jb) (kW:keepIn K (.ref fW)=true) (bW:Binds K dW ["_law_thing"] []) (mW:mg "_law_is_whole" = some (.ref fW))
  (GS:aB P w K mg base aC 2 fS dS ["_law_thing"] j7) (kS:keepIn K (.ref fS)=true) (bS:Binds K dS ["_law_thing"] []) (mS:mg "_law_is_step" = some (.ref fS)):aB P w K mg base aC 3 f fd ["_law_thing"] j8:=by
 refine F.ok Sn (fun vs H Q E h=>?_) (fun aR A outer s H vs Q E hr h=>?_)
 ·unfold j8 at h;obtain⟨p,v,d,rfl,_⟩:=h;rfl
 ·unfold j8 at h
  obtain⟨p,v,d,rfl,r,cK,q⟩:=h;have eY:bf 2 _:=hr;have aU:bf 1 _:=eY.mono (by decide)
  have hu:=hr.units;refine⟨_,au (bz (PW.pt (pw_or (ff (dQ (aP eh rfl B2.dH dj (aa (pv 0) (aa (c7 (v:= .ty "tuple") rfl B.tuple boot_tuple rfl) ae))))) (pw_or1 (bh Eh (aP cH rfl B.len cA (aa (pv 0) ae)) (cN (aa ah (aa ah ae))) rfl)))) (aE (aY gn)) bH)
   (au (bz (bh eu (aP cH rfl B.len cA (aa (pv 0) ae)) ah (a8 _)) (aE (aY (eT (fZ (qm hu) (aM bU (pv 0) ah (fun _ _=>rfl)) cE (a8 _)) (eT (aF GN aU rfl mN kN bN .nil aG (aa (aM bU (pv 0) ah (fun _ _=>rfl)) ae)) (gR (aF GW aU rfl mW kW bW .nil aG (aa (aM bU (pv 0) ah (fun _ _=>rfl)) ae))))))) bH)
   (au (bz (bh (qm hu) (aM bU (pv 0) ah (fun _ _=>rfl)) cE (a8 _)) (aE (aY (aF GW aU rfl mW kW bW .nil aG (aa (aM bU (pv 0) ah (fun _ _=>rfl)) ae)))) bH)
   (au (bz (PW.pt (pw_or (bh (Fc hu) (aM bU (pv 0) ah (fun _ _=>rfl)) (cN (aa cE (aa cE ae))) rfl) (pw_or (ff (dQ (aP eh rfl B2.dH dj (aa (aM bU (pv 0) ah (fun _ _=>rfl)) (aa (c7 (v:= .ty "tuple") rfl B.tuple boot_tuple rfl) ae))))) (pw_or1 (bh tO (aP cH rfl B.len cA (aa (aM bU (pv 0) ah (fun _ _=>rfl)) ae)) ah (a8 _)))))) (aE (aY gn)) bH)
   (aE (aY (aP (sH rfl) rfl B.all boot_all (aa (fe rfl Ie (mV (aM bU (pv 0) ah (fun _ _=>rfl))) (fun s H fp=>⟨cb (i:=0) Ie.nd rfl (Or.inl rfl),fq,aF GS eY rfl mS kS bS .nil aG (aa (pv 0) ae)⟩)) ae))))))),?_⟩
  refine⟨_,rfl,dU kit_tuple r ⟨_,rfl,?_⟩⟩;cases hb:bp "tuple" d with
  |false=>have q':=q _ (aw.refl _);rw[Pe hb]at q';exact q'
  |true =>
   obtain⟨ds,rfl⟩:=is_tup hb;obtain⟨a,vs,rfl,na,ha,rs⟩:=gV r;refine⟨_,rfl,a,_,rfl,.inr (ao.of ha),by show 2<=sizeLine;rw[aA];decide,fun e0 hZ=>?_⟩
   have S0:=aI (o:= .lst [V.int 2,V.int 3]) hZ;have ha:=S0 _ _ ha;have rs:=aK.same rs S0;have he:upd H e0 (.lst [V.int 2,V.int 3]) e0=some (.lst [V.int 2,V.int 3]):=af;generalize upd H e0 (.lst [V.int 2,V.int 3])=H0 at S0 ha rs he ⊢;refine⟨e0,_,rfl,.inl (ag.of he),rfl,rfl,_,rfl,?_⟩;rw[ax rfl,Uh];have q0:=q _ S0;have el:=rs.length
   match ds,rs,q,q0,cK,el with
   |[],rs,q,q0,cK,el=>rw[show vs.length=0 from el];exact q0
   |[e],rs,q,q0,cK,el=>rw[show vs.length=1 from el];rw[wC]at q0;exact q0
   |e::g::h::k::ds,rs,q,q0,cK,el =>
    have e4:vs.length=ds.length+4:=el;rw[wC]at q0;rw[cm (show ¬ vs.length=2 by omega),cm (show ¬ vs.length=3 by omega)]
    exact q0
   |[e,g,h],rs,q,q0,cK,el =>
    rw[show vs.length=3 from el];obtain⟨u,us,rfl,re,r2⟩:=df rs;obtain⟨u1,us,rfl,r1,r3⟩:=df r2;obtain⟨u2,us,rfl,r4,r5⟩:=df r3;obtain rfl:=j6 r5;have qs:∀H',aw H0 H'->Q (.bl (cC "ahead" e && (cO g && dg h))) H':=fun H' S=>by
     have:=q _ (S0.trans S);rw[wC]at this;exact this
    have q0:=qs _ (aw.refl _);refine⟨_,rfl,a,_,rfl,.inr (ao.of ha),rfl,_,rfl,?_⟩;refine⟨_,rfl,a,_,0,_,rfl,rfl,ao.of ha,fh,p,e,_,re,rfl,_,rfl,?_⟩;cases h1:cC "ahead" e with
    |false=>rw[h1]at q0;exact q0
    |true =>
     refine⟨_,rfl,a,_,1,_,rfl,rfl,ao.of ha,fG,nW r1 (cK.tup g (a9 _ aZ)).str fun H1 S1=>⟨_,rfl,?_⟩⟩;have q1:=qs _ S1;rw[h1,D9]at q1;cases hn:cO g with
     |false=>rw[hn]at q1;exact q1
     |true=>rw[hn]at q1;exact⟨_,rfl,a,_,2,_,rfl,rfl,ao.of (S1 _ _ ha),xb,mz (Dt.same r4 S1) q1⟩
   |[e,g],rs,q,q0,cK,el =>
    rw[show vs.length=2 from el];obtain⟨u,us,rfl,re,r2⟩:=df rs;obtain⟨u1,us,rfl,r1,r3⟩:=df r2;obtain rfl:=j6 r3;have qs:∀H',aw H0 H'->Q (.bl (if cC "plain" e then dg g else (cC "behind" e || cC "shut" e) && iH g)) H':=fun H' S=>by
     have:=q _ (S0.trans S);rw[wC]at this;exact this
    have q0:=qs _ (aw.refl _);refine⟨_,rfl,a,_,rfl,.inr (ao.of ha),rfl,_,rfl,?_⟩;refine⟨_,rfl,a,_,0,_,rfl,rfl,ao.of ha,fh,p,e,_,re,rfl,_,rfl,?_⟩;cases h1:cC "plain" e with
    |true =>
     rw[h1]at q0;exact⟨_,rfl,a,_,1,_,rfl,rfl,ao.of ha,fG,mz r1 q0⟩
    |false =>
     refine⟨_,rfl,a,_,0,_,rfl,rfl,ao.of ha,fh,by show 2<=sizeLine;rw[aA];decide,fun c hc=>?_⟩
     have S1:=aI (o:= .lst [V.str "behind",V.str "shut"]) hc;have nD:upd H0 c (.lst [V.str "behind",V.str "shut"]) c=some (.lst ((["behind","shut"]:List Str).map V.str)):=af;have q1:=qs _ S1;have ha:=S1 _ _ ha;have re:=Dt.same re S1;have r1:=Dt.same r1 S1;have qs:∀H',aw (upd H0 c (.lst [V.str "behind",V.str "shut"])) H'->_:=fun H' S=>qs H' (S1.trans S);generalize upd H0 c (.lst [V.str "behind",V.str "shut"])=H1 at S1 nD q1 ha re r1 qs ⊢;rw[h1]at q1;refine⟨p,e,c,(["behind","shut"]:List Str),re,rfl,nD,_,rfl,?_⟩;rw[show((["behind","shut"]:List Str).any fun c=>cC c e)=(cC "behind" e || cC "shut" e) by simp only[nK,List.any_nil,yG]]
     cases h2:(cC "behind" e || cC "shut" e) with
     |false=>rw[h2]at q1;exact q1
     |true =>
      rw[h2]at q1;refine⟨_,rfl,a,_,1,_,rfl,rfl,ao.of ha,fG,dU kit_tuple r1 ⟨_,rfl,?_⟩⟩;cases h3:bp "tuple" g with
      |false=>rw[Gb h3]at q1;exact q1
      |true =>
       obtain⟨gs,rfl⟩:=is_tup h3;obtain⟨b,ws,rfl,nb,eG,rg⟩:=gV r1;have eg:=rg.length;refine⟨_,rfl,a,_,1,_,rfl,rfl,ao.of ha,fG,b,_,rfl,.inr (ao.of eG),_,_,rfl,rfl,_,rfl,?_⟩
       by_cases h4:gs.length<=4
       ·rw[cm (show ¬ ((4:Int) < (ws.length:Int)) by omega)]
        refine⟨_,rfl,a,_,1,_,rfl,rfl,ao.of ha,fG,b,rfl,⟨_,ao.of eG⟩,fun c2 dG=>z0 (g:=c8) eG rg dG (by omega) (fun v' d' H2 Q2 oM S2 u0 k=>⟨_,rfl,F9 u0 ((cK.tup _ (a9 _ aZ)).tup d' oM) k⟩) fun H2 S2 xG=>⟨c2,_,rfl,ag.of xG,?_⟩⟩
        have q2:=qs _ S2;rw[h1,h2,show iH (.tuple gs)=(gs.map c8).all id by show(decide (gs.length<=4) && gs.all c8)=_;rw[b4 h4,zb];rfl]at q2
        exact q2
       ·rw[b4 (show((4:Int) < (ws.length:Int)) by omega)]
        rw[show iH (.tuple gs)=false by show(decide (gs.length<=4) && gs.all c8)=_;rw[cm h4];rfl]at q1
        exact q1
end eM
namespace L2
open PySem PySem.W
theorem Rep.tupI {ds:List PyData} (r:Rep H v (.tuple ds)):∃a vs,v = .ref a/\H a=some (.tup vs)/\b7 H vs ds:=by
 cases r with
 |tup e rs=>exact⟨_,_,rfl,e,rs⟩
theorem Rep.lO (r:Rep H v (.str x)):v = .str x:=by cases r;rfl
theorem Rep.m8 {x:Int} (r:Rep H v (.int x)):v = .int x:=by cases r;rfl
theorem b7.kc {d:PyData}{ds:List PyData} (r:b7 H vs (d::ds)):∃v ws,vs=v::ws/\Rep H v d/\b7 H ws ds:=by
 cases r with
 |cons a b=>exact⟨_,_,rfl,a,b⟩
theorem b7.ue (r:b7 H vs []):vs = []:=by cases r;rfl
theorem b7.length {H:Hp}:∀ {vs:List V}{ds:List PyData},b7 H vs ds->vs.length=ds.length
 |_,_,.nil=>rfl
 |_,_,.cons _ rs=>by rw[b5,b5,b7.length rs]
end L2
namespace eM
open PySem L2 PySem.W HT
inductive gk:PyData->Prop where
 |add (n:Int) (h:n.natAbs<=10 ^ 18):gk (.tuple [.str "add",.int n])
 |times (n:Int) (lo : -9<=n) (hi:n<=9):gk (.tuple [.str "times",.int n])
 |wD:gk (.tuple [.str "onward"])
 |ask (x:Str) (h:Nm x):gk (.tuple [.str "ask",.str x])
inductive Ent:PyData->Prop where
 |plain (n:Int) (h:n.natAbs<=10 ^ 18):Ent (.tuple [.str "plain",.int n])
 |ahead (x:Str) (n:Int) (h:Nm x) (hn:n.natAbs<=10 ^ 18):Ent (.tuple [.str "ahead",.str x,.int n])
 |behind (ds:List PyData) (h4:ds.length<=4) (hs:∀d∈ds,gk d):Ent (.tuple [.str "behind",.tuple ds])
 |xf (ds:List PyData) (h4:ds.length<=4) (hs:∀d∈ds,gk d):Ent (.tuple [.str "shut",.tuple ds])
theorem two1 {s:Str}{d:PyData} (r:Rep H v (.tuple [.str s,d])):∃a u,v = .ref a/\H a=some (.tup [.str s,u])/\Rep H u d:=by
 obtain⟨a,vs,rfl,ha,rs⟩:=r.tupI;obtain⟨v0,w0,rfl,r0,rs⟩:=rs.kc;obtain⟨v1,w1,rfl,r1,rs⟩:=rs.kc;obtain rfl:=rs.ue;obtain rfl:=r0.lO;exact⟨a,v1,rfl,ha,r1⟩
theorem gk.keep {d:PyData} (s:gk d) (r:Rep H v d) (k:∀b xs,H b=some (.tup xs)->H' b=some (.tup xs)):Rep H' v d:=by
 cases s with
 |add n =>
  obtain⟨a,u,rfl,ha,r1⟩:=two1 r;obtain rfl:=r1.m8;exact .tup (k _ _ ha) (.cons (.str _) (.cons (.int _) .nil))
 |times n =>
  obtain⟨a,u,rfl,ha,r1⟩:=two1 r;obtain rfl:=r1.m8;exact .tup (k _ _ ha) (.cons (.str _) (.cons (.int _) .nil))
 |ask x =>
  obtain⟨a,u,rfl,ha,r1⟩:=two1 r;obtain rfl:=r1.lO;exact .tup (k _ _ ha) (.cons (.str _) (.cons (.str _) .nil))
 |wD =>
  obtain⟨a,vs,rfl,ha,rs⟩:=r.tupI;obtain⟨v0,w0,rfl,r0,rs⟩:=rs.kc;obtain rfl:=rs.ue;obtain rfl:=r0.lO;exact .tup (k _ _ ha) (.cons (.str _) .nil)
theorem vJ {H H':Hp} (k:∀b xs,H b=some (.tup xs)->H' b=some (.tup xs)):∀ {vs:List V}{ds:List PyData},b7 H vs ds->(∀d∈ds,gk d)->b7 H' vs ds
 |_,_,.nil,_=>.nil
 |_,_,.cons r rs,h=>.cons ((h _ aZ).keep r k) (vJ k rs fun d hd=>h d (a9 _ hd))
theorem Ent.keep {d:PyData} (s:Ent d) (r:Rep H v d) (k:∀b xs,H b=some (.tup xs)->H' b=some (.tup xs)):Rep H' v d:=by
 cases s with
 |plain n =>
  obtain⟨a,u,rfl,ha,r1⟩:=two1 r;obtain rfl:=r1.m8;exact .tup (k _ _ ha) (.cons (.str _) (.cons (.int _) .nil))
 |ahead x n =>
  obtain⟨a,vs,rfl,ha,rs⟩:=r.tupI;obtain⟨v0,w0,rfl,r0,rs⟩:=rs.kc;obtain⟨v1,w1,rfl,r1,rs⟩:=rs.kc;obtain⟨v2,w2,rfl,r2,rs⟩:=rs.kc;obtain rfl:=rs.ue;obtain rfl:=r0.lO;obtain rfl:=r1.lO;obtain rfl:=r2.m8;exact .tup (k _ _ ha) (.cons (.str _) (.cons (.str _) (.cons (.int _) .nil)))
 |behind ds h4 hs =>
  obtain⟨a,u,rfl,ha,r1⟩:=two1 r;obtain⟨b,vs,rfl,hb,rs⟩:=r1.tupI;exact .tup (k _ _ ha) (.cons (.str _) (.cons (.tup (k _ _ hb) (vJ k rs hs)) .nil))
 |xf ds h4 hs =>
  obtain⟨a,u,rfl,ha,r1⟩:=two1 r;obtain⟨b,vs,rfl,hb,rs⟩:=r1.tupI;exact .tup (k _ _ ha) (.cons (.str _) (.cons (.tup (k _ _ hb) (vJ k rs hs)) .nil))
theorem n8 (pk:cf p H) (pa:aT p H H'):∀b xs,H b=some (.tup xs)->H' b=some (.tup xs):=fun b xs e=>by
 obtain⟨x,y,e0,_⟩:=pk;exact pa.kp b _ e (eI e e0 (by intro z;cases z))
theorem Eg {H:Hp}:∀ {vs:List V}{ds:List PyData}{v:V}{d:PyData},b7 H vs ds->Rep H v d->b7 H (vs ++ [v]) (ds ++ [d])
 |_,_,_,_,.nil,r=>.cons r .nil
 |_,_,_,_,.cons a as,r=>.cons a (Eg as r)
@[irreducible] def om:Sp:=fun vs H Q _=>∃p:Addr,vs = [.ref p]/\cf p H /\ ∀ (n:Int) (H':Hp),n.natAbs<=10 ^ 18->aT p H H'->Q (.int n) H'
theorem AU {E:XK} (h:cf p H) (q:∀ (n:Int) (H':Hp),n.natAbs<=10 ^ 18->aT p H H'->Q (.int n) H'):om [.ref p] H Q E:=by unfold om;exact⟨p,rfl,h,q⟩
abbrev Vw:List Str:= ["_law_pot_here","_law_near","_law_far"]
theorem Bg:b6 Vw ["_law_pot_here"] (aX As):=⟨rfl,rfl,rfl,by decide +kernel,rfl,by decide +kernel,by decide +kernel⟩
theorem So (F:bg K "_law_number" "_law_number" As f fd)
  (GD:aB P w K mg base aC 1 fD dD ["_law_pot_here","_law_many"] gA) (kD:keepIn K (.ref fD)=true) (bD:Binds K dD ["_law_pot_here","_law_many"] []) (mD:mg "_law_digit" = some (.ref fD)):aB P w K mg base aC 2 f fd ["_law_pot_here"] om:=by
 refine F.ok Bg (fun vs H Q E h=>?_) (fun aR A outer s H vs Q E hr h=>?_)
 ·unfold om at h;obtain⟨p,rfl,_⟩:=h;rfl
 ·unfold om at h
  obtain⟨p,rfl,pk,q⟩:=h;have aU:bf 1 _:=hr;refine⟨_,au (bj (i:=1) Bg.nd rfl (Or.inl rfl) (bq iG (aF GD aU rfl mD kD bD .nil aG (aa (pv 0) (aa ah ae))) ah))
   (au (bj (i:=2) Bg.nd rfl (Or.inl rfl) (bq gT (bq iG (aF GD aU rfl mD kD bD .nil aG (aa (pv 0) (aa (bq iG (bq wm ah (bq AK ah ah)) ah) ae))) (bq AK ah ah)) ah))
   (aE (aY (aM cq (cN (aa (pv 1) (aa (pv 1) (aa ah (aa (pv 2) ae))))) (aF GD aU rfl mD kD bD .nil aG (aa (pv 0) (aa ah ae))) (fun _ _=>rfl))))),?_⟩
  refine⟨_,rfl,cj (p:=p) (m:=41) pk (by decide) (by decide) fun d1 H1 a0 a1 p1=>⟨_,_,rfl,rfl,?_⟩⟩
  refine⟨_,rfl,_,_,rfl,rfl,⟨by decide,by decide,by decide⟩,_,_,rfl,rfl,.inl ⟨by decide,by decide⟩,_,_,rfl,rfl,?_⟩
  refine cj (p:=p) (m:=2 * 10 ^ (18:Int).toNat - 1) p1.ok (by decide) (by decide) fun d2 H2 b0 b1 p2=>⟨_,_,rfl,rfl,⟨by decide,by decide,by decide⟩,_,_,rfl,rfl,_,_,rfl,rfl,?_⟩
  refine⟨_,rfl,_,rfl,_,rfl,by show 4<=sizeLine;rw[aA];decide,fun c hc=>?_⟩
  have p3:=(p1.trans p2).new (o:= .lst [.int (d1 - 20),.int (d1 - 20),.int 0,.int (d2 - 10 ^ (18:Int).toNat+1)]) hc;refine⟨_,rfl,cj (p:=p) (m:=4) p3.ok (by decide) (by decide) fun d3 H3 c0 c1 p4=>?_⟩
  have XN:c≠p:=bb ((p1.trans p2).ok.ne hc);have h3:=p4.kp _ _ af XN;obtain⟨j,rfl⟩:=eP c0;have yc:(10:Int) ^ (18:Int).toNat=1000000000000000000:=rfl;have fin:∀n:Int,n.natAbs<=10 ^ 18->Q (.int n) H3:=fun n hn=>q n H3 hn (p3.trans p4);have hj:j=0\/j=1\/j=2\/j=3:=by omega
  rcases hj with rfl|rfl|rfl|rfl
  ·exact⟨c,_,((0:Nat):Int),_,rfl,rfl,ag.of h3,bQ rfl,fin _ (by first|omega|(rw[yc]at b1 ⊢;omega))⟩
  ·exact⟨c,_,((1:Nat):Int),_,rfl,rfl,ag.of h3,bQ rfl,fin _ (by first|omega|(rw[yc]at b1 ⊢;omega))⟩
  ·exact⟨c,_,((2:Nat):Int),_,rfl,rfl,ag.of h3,bQ rfl,fin _ (by first|omega|(rw[yc]at b1 ⊢;omega))⟩
  ·exact⟨c,_,((3:Nat):Int),_,rfl,rfl,ag.of h3,bQ rfl,fin _ (by first|omega|(rw[yc]at b1 ⊢;omega))⟩
@[irreducible] def qH:Sp:=fun vs H Q _=>∃ (p l:Addr) (ys:List Str) (k:Nat),vs = [.ref p,.ref l,.int k]/\cf p H/\H l=some (.lst (ys.map V.str))/\ys ≠ []/\ys.length<=20/\(∀y∈ys,Nm y) /\ ∀ (v:V) (d:PyData) (H':Hp),aT p H H'->Rep H' v d->gk d->Q v H'
theorem Sq {ys:List Str}{k:Nat}{E:XK} (h:cf p H) (hl:H l=some (.lst (ys.map V.str))) (ne:ys ≠ []) (nE:ys.length<=20) (nm:∀y∈ys,Nm y) (q:∀ (v:V) (d:PyData) (H':Hp),aT p H H'->Rep H' v d->gk d->Q v H'):qH [.ref p,.ref l,.int k] H Q E:=by unfold qH;exact⟨p,l,ys,k,rfl,h,hl,ne,nE,nm,q⟩
abbrev Vx:List Str:= ["_law_pot_here","_law_names_here","_law_at","_law_way","_law_later"]
theorem wQ:b6 Vx ["_law_pot_here","_law_names_here","_law_at"] (aX Bc):=⟨rfl,rfl,rfl,by decide +kernel,rfl,by decide +kernel,by decide +kernel⟩
theorem Ss (F:bg K "_law_step" "_law_step" Bc f fd) (B:cQ mg)
  (GD:aB P w K mg base aC 1 fD dD ["_law_pot_here","_law_many"] gA) (kD:keepIn K (.ref fD)=true) (bD:Binds K dD ["_law_pot_here","_law_many"] []) (mD:mg "_law_digit" = some (.ref fD))
  (GN:aB P w K mg base aC 2 fN dN ["_law_pot_here"] om) (kN:keepIn K (.ref fN)=true) (bN:Binds K dN ["_law_pot_here"] []) (mN:mg "_law_number" = some (.ref fN)):aB P w K mg base aC 3 f fd ["_law_pot_here","_law_names_here","_law_at"] qH:=by
 refine F.ok wQ (fun vs H Q E h=>?_) (fun aR A outer s H vs Q E hr h=>?_)
 ·unfold qH at h;obtain⟨p,l,ys,k,rfl,_⟩:=h;rfl
 ·unfold qH at h
  obtain⟨p,l,ys,k,rfl,pk,hl,ne,nE,nm,q⟩:=h;have hu:=hr.units;have eY:bf 2 _:=hr;have aU:bf 1 _:=eY.mono (by decide)
  refine⟨_,au (bj (i:=3) wQ.nd rfl (Or.inl rfl) (aF GD aU rfl mD kD bD .nil aG (aa (pv 0) (aa ah ae))))
   (au (bz (bh eu (pv 3) ah (a8 _)) (aE (aY (eo (aa cE (aa (aF GN eY rfl mN kN bN .nil aG (aa (pv 0) ae)) ae))))) bH)
   (au (bz (bh eu (pv 3) ah (a8 _)) (aE (aY (eo (aa cE (aa (bq iG (aF GD aU rfl mD kD bD .nil aG (aa (pv 0) (aa ah ae))) ah) ae))))) bH)
   (au (bz (bh qB (pv 3) ah (a8 _)) (aE (aY (eo (aa cE ae)))) bH)
   (au (bj (i:=4) wQ.nd rfl (Or.inl rfl) (jY wd (pv 1) (j3 (bq gT (pv 2) ah)) j0))
   (au (bz (PW.pt (pw_or (bh (wq hu) (pv 4) (cN ae) (a8 _)) (pw_or1 (bh eu (aF GD aU rfl mD kD bD .nil aG (aa (pv 0) (aa ah ae))) ah (a8 _))))) (aE (bj (i:=4) wQ.nd rfl (Or.inl rfl) (pv 1))) bH)
   (aE (aY (eo (aa cE (aa (aM cq (pv 4) (aF GD aU rfl mD kD bD .nil aG (aa (pv 0) (aa (aP cH rfl B.len cA (aa (pv 4) ae)) ae))) (fun _ _=>rfl)) ae)))))))))),?_⟩
  refine⟨_,rfl,cj (p:=p) (m:=6) pk (by decide) (by decide) fun wy H1 a0 a1 p1=>?_⟩
  refine⟨_,rfl,rfl,_,rfl,?_⟩;refine dw (fun h0=>?_) (fun h0=>?_)
  ·refine⟨_,rfl,AU p1.ok fun n H2 hn p2=>⟨by show 2<=sizeLine;rw[aA];decide,fun t ht=>?_⟩⟩
   exact q _ _ _ ((p1.trans p2).new ht) (.tup af (.cons (.str _) (.cons (.int _) .nil))) (.add n hn)
  refine⟨_,rfl,rfl,_,rfl,?_⟩;refine dw (fun h1=>?_) (fun h1=>?_)
  ·refine⟨_,rfl,cj (p:=p) (m:=19) p1.ok (by decide) (by decide) fun n H2 b0 b1 p2=>⟨_,_,rfl,rfl,by show 2<=sizeLine;rw[aA];decide,fun t ht=>?_⟩⟩
   exact q _ _ _ ((p1.trans p2).new ht) (.tup af (.cons (.str _) (.cons (.int _) .nil))) (.times (n - 9) (by omega) (by omega))
  refine⟨_,rfl,_,_,rfl,rfl,_,rfl,?_⟩;refine dw (fun h2=>?_) (fun h2=>?_)
  ·refine⟨by show 1<=sizeLine;rw[aA];decide,fun t ht=>?_⟩
   exact q _ _ _ (p1.new ht) (.tup af (.cons (.str _) .nil)) .wD
  have kM:l≠p:=ju pk hl;refine⟨_,rfl,_,rfl,_,_,rfl,rfl,_,rfl,l,_,rfl,ag.of (p1.kp _ _ hl kM),fun c hc=>?_⟩;have Vy:fu (ys.map V.str) (some ((k:Int)+1)) none=(ys.drop (k+1)).map V.str:=by
   rw[List.map_drop];exact zY (ys.map V.str) (k+1)
  rw[Vy];have p2:=p1.new (o:= .lst ((ys.drop (k+1)).map V.str)) hc;have dG:upd H1 c (.lst ((ys.drop (k+1)).map V.str)) c=some (.lst ((ys.drop (k+1)).map V.str)):=af;generalize upd H1 c (.lst ((ys.drop (k+1)).map V.str))=H2 at p2 dG ⊢;have rX:∀y∈ys.drop (k+1),Nm y:=fun y hy=>nm y (Nl hy);have dl:(ys.drop (k+1)).length<=ys.length:=by rw[mf];omega
  generalize ys.drop (k+1)=zs at dG rX dl;refine⟨_,rfl,aN _,fun e0 hZ=>?_⟩;have p3:=p2.new (o:= .lst []) hZ;have pB:upd H2 e0 (.lst []) c=some (.lst (zs.map V.str)):=by rw[ak (a7 dG hZ)];exact dG
  have u5:upd H2 e0 (.lst []) e0=some (.lst []):=af;generalize upd H2 e0 (.lst [])=H3 at p3 pB u5 ⊢;refine eq_nil pB u5 rX ⟨_,rfl,?_⟩;have jN:=p3.kp _ _ hl kM;refine dw (fun hE=>?_) (fun hE=>?_)
  ·refine⟨_,rfl,?_⟩
   refine⟨_,rfl,_,rfl,_,rfl,l,_,rfl,.inl (ag.of jN),?_⟩;rw[ar];have m7:0 < ys.length:=pU.mpr ne;have hle:ys.length<=20:=nE;refine cj (p:=p) (m:=(ys.length:Int)) p3.ok (by omega) (by omega) fun dz H5 c0 c1 p5=>?_
   obtain⟨j,rfl⟩:=eP c0;have hj:j < ys.length:=by omega
   have h5:=p5.kp _ _ jN (ju p3.ok jN);refine⟨l,_,(j:Int),.str ys[j],rfl,rfl,ag.of h5,bQ (by rw[cU,aQ hj];rfl),by show 2<=sizeLine;rw[aA];decide,fun t ht=>?_⟩
   exact q _ _ _ ((p3.trans p5).new ht) (.tup af (.cons (.str _) (.cons (.str _) .nil))) (.ask _ (nm _ (fV hj)))
  have XO:zs ≠ []:=fun z=>hE (by simp[z])
  refine⟨_,rfl,cj (p:=p) (m:=4) p3.ok (by decide) (by decide) fun wz H4 b0 b1 p4=>⟨rfl,_,rfl,?_⟩⟩
  have P4:=p3.trans p4;have gJ:=P4.kp _ _ hl kM;have C5:=p4.kp _ _ pB (ju p3.ok pB);refine dw (fun XQ=>?_) (fun XQ=>?_)
  ·refine⟨_,rfl,?_⟩
   refine⟨_,rfl,_,rfl,_,rfl,l,_,rfl,.inl (ag.of gJ),?_⟩;rw[ar];have m7:0 < ys.length:=pU.mpr ne;have hle:ys.length<=20:=nE;refine cj (p:=p) (m:=(ys.length:Int)) P4.ok (by omega) (by omega) fun dz H5 c0 c1 p5=>?_
   obtain⟨j,rfl⟩:=eP c0;have hj:j < ys.length:=by omega
   have h5:=p5.kp _ _ gJ (ju P4.ok gJ);refine⟨l,_,(j:Int),.str ys[j],rfl,rfl,ag.of h5,bQ (by rw[cU,aQ hj];rfl),by show 2<=sizeLine;rw[aA];decide,fun t ht=>?_⟩
   exact q _ _ _ ((P4.trans p5).new ht) (.tup af (.cons (.str _) (.cons (.str _) .nil))) (.ask _ (nm _ (fV hj)))
  ·refine⟨_,rfl,_,rfl,_,rfl,c,_,rfl,.inl (ag.of C5),?_⟩
   rw[ar];have m7:0 < zs.length:=pU.mpr XO;have hle:zs.length<=20:=(by omega)
   refine cj (p:=p) (m:=(zs.length:Int)) P4.ok (by omega) (by omega) fun dz H5 c0 c1 p5=>?_
   obtain⟨j,rfl⟩:=eP c0;have hj:j < zs.length:=by omega
   have h5:=p5.kp _ _ C5 (ju P4.ok C5);refine⟨c,_,(j:Int),.str zs[j],rfl,rfl,ag.of h5,bQ (by rw[cU,aQ hj];rfl),by show 2<=sizeLine;rw[aA];decide,fun t ht=>?_⟩
   exact q _ _ _ ((P4.trans p5).new ht) (.tup af (.cons (.str _) (.cons (.str _) .nil))) (.ask _ (rX _ (fV hj)))
@[irreducible] def oq:Sp:=fun vs H Q _=>∃ (p l:Addr) (ys:List Str) (k:Nat),vs = [.ref p,.ref l,.int k]/\cf p H/\H l=some (.lst (ys.map V.str))/\ys ≠ []/\ys.length<=20/\(∀y∈ys,Nm y) /\ ∀ (v:V) (d:PyData) (H':Hp),aT p H H'->Rep H' v d->Ent d->Q v H'
theorem Ig {ys:List Str}{k:Nat}{E:XK} (h:cf p H) (hl:H l=some (.lst (ys.map V.str))) (ne:ys ≠ []) (nE:ys.length<=20) (nm:∀y∈ys,Nm y) (q:∀ (v:V) (d:PyData) (H':Hp),aT p H H'->Rep H' v d->Ent d->Q v H'):oq [.ref p,.ref l,.int k] H Q E:=by unfold oq;exact⟨p,l,ys,k,rfl,h,hl,ne,nE,nm,q⟩
abbrev JN:List Str:= ["_law_pot_here","_law_names_here","_law_at","_law_way","_law_steps"]
theorem Bh:b6 JN ["_law_pot_here","_law_names_here","_law_at"] (aX tG):=⟨rfl,rfl,rfl,by decide +kernel,rfl,by decide +kernel,by decide +kernel⟩
abbrev Vz:Expr:=f' (jD (cS (cR tG) 3))
theorem IM:cM JN (aX tG) ["_law_turn","_law_pot_here","_law_names_here","_law_at"] [none,some 0,some 1,some 2] (dX Vz):=⟨rfl,by decide +kernel,by decide +kernel,rfl,f6 (by decide +kernel),by decide +kernel⟩
theorem Su (F:bg K "_law_entry" "_law_entry" tG f fd) (B:cQ mg)
  (GD:aB P w K mg base aC 1 fD dD ["_law_pot_here","_law_many"] gA) (kD:keepIn K (.ref fD)=true) (bD:Binds K dD ["_law_pot_here","_law_many"] []) (mD:mg "_law_digit" = some (.ref fD))
  (GN:aB P w K mg base aC 2 fN dN ["_law_pot_here"] om) (kN:keepIn K (.ref fN)=true) (bN:Binds K dN ["_law_pot_here"] []) (mN:mg "_law_number" = some (.ref fN))
  (GS:aB P w K mg base aC 3 fS dS ["_law_pot_here","_law_names_here","_law_at"] qH) (kS:keepIn K (.ref fS)=true) (bS:Binds K dS ["_law_pot_here","_law_names_here","_law_at"] []) (mS:mg "_law_step" = some (.ref fS)):aB P w K mg base aC 4 f fd ["_law_pot_here","_law_names_here","_law_at"] oq:=by
 refine F.ok Bh (fun vs H Q E h=>?_) (fun aR A outer s H vs Q E hr h=>?_)
 ·unfold oq at h;obtain⟨p,l,ys,k,rfl,_⟩:=h;rfl
 ·unfold oq at h
  obtain⟨p,l,ys,k,rfl,pk,hl,ne,nE,nm,q⟩:=h;have iC:bf 3 _:=hr;have eY:bf 2 _:=iC.mono (by decide)
  have aU:bf 1 _:=eY.mono (by decide)
  refine⟨_,au (bj (i:=3) Bh.nd rfl (Or.inl rfl) (aF GD aU rfl mD kD bD .nil aG (aa (pv 0) (aa ah ae))))
   (au (bz (bh eu (pv 3) ah (a8 _)) (aE (aY (eo (aa cE (aa (aF GN eY rfl mN kN bN .nil aG (aa (pv 0) ae)) ae))))) bH)
   (au (bz (bh eu (pv 3) ah (a8 _)) (aE (aY (eo (aa cE (aa (aM cq (pv 1) (bq qj (bq gT (bq gT (pv 2) ah) (aF GD aU rfl mD kD bD .nil aG (aa (pv 0) (aa (aP cH rfl B.len cA (aa (pv 1) ae)) ae)))) (aP cH rfl B.len cA (aa (pv 1) ae))) (fun _ _=>rfl)) (aa (aF GN eY rfl mN kN bN .nil aG (aa (pv 0) ae)) ae)))))) bH)
   (au (bj (i:=4) Bh.nd rfl (Or.inl rfl) (fo mr rfl B.tuple boot_tuple (aa (fe rfl IM (jX rfl B.range (aa (aF GD aU rfl mD kD bD .nil aG (aa (pv 0) (aa ah ae))) ae)) (fun s H fp=>⟨cb (i:=0) IM.nd rfl (Or.inl rfl),fq,aF GS iC rfl mS kS bS .nil aG (aa (pv 1) (aa (pv 2) (aa (pv 3) ae)))⟩)) ae)))
   (aE (aY (eo (aa (aM cq (cN (aa cE (aa cE (aa cE ae)))) (bq iG (pv 3) ah) (fun _ _=>rfl)) (aa (pv 4) ae)))))))),?_⟩
  have kM:l≠p:=ju pk hl;have m7:0 < ys.length:=pU.mpr ne;refine⟨_,rfl,cj (p:=p) (m:=5) pk (by decide) (by decide) fun wy H1 a0 a1 p1=>?_⟩
  refine⟨_,rfl,rfl,_,rfl,?_⟩;refine dw (fun h0=>?_) (fun h0=>?_)
  ·refine⟨_,rfl,AU p1.ok fun n H2 hn p2=>⟨by show 2<=sizeLine;rw[aA];decide,fun t ht=>?_⟩⟩
   exact q _ _ _ ((p1.trans p2).new ht) (.tup af (.cons (.str _) (.cons (.int _) .nil))) (.plain n hn)
  have fQ:=p1.kp _ _ hl kM;refine⟨_,rfl,rfl,_,rfl,?_⟩;refine dw (fun h1=>?_) (fun h1=>?_)
  ·refine⟨_,rfl,_,rfl,_,_,rfl,rfl,_,rfl,_,rfl,l,_,rfl,.inl (ag.of fQ),?_⟩
   rw[ar];refine cj (p:=p) (m:=(ys.length:Int)) p1.ok (by omega) (by omega) fun dz H2 b0 b1 p2=>?_
   have cY:=p2.kp _ _ fQ kM;refine⟨_,_,rfl,rfl,_,rfl,l,_,rfl,.inl (ag.of cY),_,_,rfl,rfl,by rw[ar];omega,?_⟩
   rw[ar];obtain⟨j,ej⟩:=eP (y4 ((k:Int)+1+dz) (show(ys.length:Int)≠0 by omega))
   have hj:j < ys.length:=by
    have:=y6 ((k:Int)+1+dz) (show(0:Int) < (ys.length:Int) by omega)
    rw[ej]at this;omega
   refine⟨l,_,(j:Int),.str ys[j],rfl,(d9 V.int ej:V.int (((k:Int)+1+dz) % (ys.length:Int))=V.int (j:Int)),ag.of cY,bQ (by rw[cU,aQ hj];rfl),_,rfl,AU p2.ok fun n H3 hn p3=>⟨by show 3<=sizeLine;rw[aA];decide,fun t ht=>?_⟩⟩
   exact q _ _ _ (((p1.trans p2).trans p3).new ht) (.tup af (.cons (.str _) (.cons (.str _) (.cons (.int _) .nil)))) (.ahead _ n (nm _ (fV hj)) hn)
  have hw:wy=2\/wy=3\/wy=4:=by
   have e0:wy≠0:=fun z=>h0 (by rw[z];rfl)
   have e1:wy≠1:=fun z=>h1 (by rw[z];rfl)
   omega
  refine⟨_,rfl,cj (p:=p) (m:=5) p1.ok (by decide) (by decide) fun dn H2 b0 b1 p2=>⟨dn,rfl,by omega,by omega,fun c hc=>?_⟩⟩
  have P2:=p1.trans p2;have iA:p≠c:=P2.ok.ne hc;have cY:=P2.kp _ _ hl kM;refine vA (fun i zs τ H4=>∃ (ds:List PyData) (t0:Option V),τ = [t0,some (.ref p),some (.ref l),some (.int (k:Int))]/\b7 H4 zs ds/\ds.length=i/\(∀d∈ds,gk d)/\aT p H2 H4/\H4 c=some (.lst zs))
   ⟨[],none,rfl,.nil,rfl,(fun d hd=>by cases hd),(aT.refl P2.ok).new hc,af⟩ (fun i zs τ H4 ⟨_,_,_,_,_,_,_,z⟩=>z) ?_ ?_
  ·rintro j zs τ H4 hj ⟨ds,t0,rfl,rs,dl,rZ,pe,hz⟩
   refine⟨_,rfl,_,rfl,_,rfl,Sq pe.ok (pe.kp _ _ cY kM) ne nE nm fun v d H5 pf rd sd=>?_⟩;have xV:=pf.kp _ _ hz (bb iA);have up:∀b xs,H5 b=some (.tup xs)->upd H5 c (.lst (zs ++ [v])) b=some (.tup xs):=fun b xs e=>by rw[ak (eI e xV (by intro z;cases z))];exact e
   refine⟨xV,by rw[rs.length,dl,aA];omega,cw_next hj ⟨ds ++ [d],_,rfl,Eg (vJ (fun b xs e=>up b xs (n8 pe.ok pf b xs e)) rs rZ) (sd.keep rd up),by rw[eO,dl];rfl,fun x hx=>?_,(pe.trans pf).write hc iA,af⟩⟩
   rcases e9.mp hx with z|z
   ·exact rZ x z
   ·rw[gy.mp z];exact sd
  rintro zs τ H4 ⟨ds,t0,rfl,rs,dl,rZ,pe,hz⟩;refine⟨c,_,rfl,.inl ⟨ag.of hz,fun b hb=>?_⟩⟩;have P4:=P2.trans pe;have p5:=P4.new (o:= .tup zs) hb;have Sb:=aI (o:= .tup zs) hb;have yd:upd H4 b (.tup zs) b=some (.tup zs):=af;have Lf:=b7.same rs Sb;generalize upd H4 b (.tup zs)=H5 at p5 yd Lf ⊢;refine⟨by show 3<=sizeLine;rw[aA];decide,fun c5 uX=>?_⟩
  have p6:=p5.new (o:= .lst [V.str "behind",V.str "behind",V.str "shut"]) uX;have S6:=aI (o:= .lst [V.str "behind",V.str "behind",V.str "shut"]) uX;have ye:upd H5 c5 (.lst [V.str "behind",V.str "behind",V.str "shut"]) c5=some (.lst [V.str "behind",V.str "behind",V.str "shut"]):=af;have yf:=S6 _ _ yd;have nF:=b7.same Lf S6;generalize upd H5 c5 (.lst [V.str "behind",V.str "behind",V.str "shut"])=H6 at p6 ye yf nF ⊢;have d4:ds.length<=4:=by omega
  refine⟨_,rfl,_,_,rfl,rfl,?_⟩;rcases hw with rfl|rfl|rfl
  ·refine⟨c5,_,((0:Nat):Int),.str "behind",rfl,rfl,ag.of ye,bQ rfl,_,rfl,by show 2<=sizeLine;rw[aA];decide,fun t ht=>?_⟩
   exact q _ _ _ (p6.new ht) (.tup af (.cons (.str _) (.cons (.tup ((aI ht) _ _ yf) (b7.same nF (aI ht))) .nil))) (.behind ds d4 rZ)
  ·refine⟨c5,_,((1:Nat):Int),.str "behind",rfl,rfl,ag.of ye,bQ rfl,_,rfl,by show 2<=sizeLine;rw[aA];decide,fun t ht=>?_⟩
   exact q _ _ _ (p6.new ht) (.tup af (.cons (.str _) (.cons (.tup ((aI ht) _ _ yf) (b7.same nF (aI ht))) .nil))) (.behind ds d4 rZ)
  ·refine⟨c5,_,((2:Nat):Int),.str "shut",rfl,rfl,ag.of ye,bQ rfl,_,rfl,by show 2<=sizeLine;rw[aA];decide,fun t ht=>?_⟩
   exact q _ _ _ (p6.new ht) (.tup af (.cons (.str _) (.cons (.tup ((aI ht) _ _ yf) (b7.same nF (aI ht))) .nil))) (.xf ds d4 rZ)
mutual
def lf:PyData->Bool
 |.int i=>decide (i.natAbs<=10 ^ 18)
 |.str x=>x.cps.toList.all fun c=>decide (c < 16 ^ 8)
 |.list xs|.tuple xs=>dM xs
 |.dict kvs=>kvs.isEmpty
 |.none|.bool _=>true
def dM:List PyData->Bool
 |[]=>true
 |x::xs=>lf x && dM xs
end
structure Gd (n m:Nat) (d:PyData):Prop where
 leaf:lf d=true
 bulk:d.bulk<=n
 dep:d.depth<=m
theorem sV:∀ {ds:List PyData}{d:PyData},dM ds=true->d∈ds->lf d=true
 |e::ds,d,h,hd=>by
  simp only[dM,eS]at h;rcases bx.mp hd with rfl|hd
  ·exact h.1
  ·exact sV h.2 hd
theorem wF:∀ {ds:List PyData},(∀d∈ds,lf d=true)->dM ds=true
 |[],_=>rfl
 |e::ds,h=>by simp only[dM,eS];exact⟨h e aZ,wF fun d hd=>h d (a9 _ hd)⟩
mutual
theorem Hg:∀d:PyData,lf d=true->d.showable=true/\d.leavesShort 70=true
 |.none,_=>⟨rfl,rfl⟩
 |.bool _,_=>⟨rfl,rfl⟩
 |.int i,h=>by
  simp only[lf,ig]at h;have l:i.natAbs.log2 < 64:=by
   by_cases z:i.natAbs=0
   ·rw[z];decide
   ·exact(Nat.log2_lt z).mpr (by omega)
  have l2:=int_text_length_le (k:=64) (by decide) l
  refine⟨by simp only[PyData.showable,ig];omega,?_⟩
  have l3:(PyData.shown (.int i)).length<=70:=by
   show(Str.ofString (toString i)).length<=70;rw[ofString_length];omega
  exact b4 l3
 |.str x,h=>by
  refine⟨rfl,?_⟩;simp only[lf]at h;simp only[PyData.leavesShort];exact h
 |.list xs,h=>z5 xs h
 |.tuple xs,h=>z5 xs h
 |.dict kvs,h=>by
  simp only[lf,List.isEmpty_iff]at h;subst h;exact⟨rfl,rfl⟩
theorem z5:∀ds:List PyData,dM ds=true->PyData.showableAll ds=true/\PyData.leavesShortAll 70 ds=true
 |[],_=>⟨rfl,rfl⟩
 |d::ds,h=>by
  simp only[dM,eS]at h;obtain⟨a,b⟩:=Hg d h.1;obtain⟨c,e⟩:=z5 ds h.2;exact⟨by simp only[PyData.showableAll,a,c,yY],by simp only[PyData.leavesShortAll,b,e,yY]⟩
end
theorem Gd.shown {d:PyData} (g:Gd n m d) (hn:n<=200000):d.showable=true/\d.shown.length<=16000000:=by
 obtain⟨a,b⟩:=Hg d g.leaf;have:=PyData.shown_le_bulk 70 (by decide) d b
 have:=g.bulk;exact⟨a,by omega⟩
def kids:PyData->List PyData
 |.list ds|.tuple ds=>ds
 |_=>[]
def lF:PyData->Bool
 |.list _|.tuple _=>true
 |_=>false
def jc (d:PyData) (ds:List PyData):PyData:=match d with|.tuple _=>.tuple ds|_=>.list ds
def iI:List Nat->PyData->Option PyData
 |[],d=>some d
 |i::r,d=>(kids d)[i]?.bind (iI r)
def putAt:List Nat->PyData->PyData->PyData
 |[],_,e=>e
 |i::r,d,e=>jc d ((kids d).set i (putAt r ((kids d).getD i .none) e))
theorem vW {d e:PyData} (h:e∈kids d):e.bulk+1<=d.bulk:=by
 cases d with
 |list ds=>exact vV h
 |tuple ds=>exact vV h
 |_=>cases h
theorem n9:∀ {ds:List PyData}{d:PyData},d∈ds->d.depth<=PyData.depthAll ds
 |e::ds,d,h=>by
  simp only[PyData.depthAll];rcases bx.mp h with rfl|h
  ·exact M4 _ _
  ·exact cL (n9 h) (M5 _ _)
theorem qh {d e:PyData} (h:e∈kids d):e.depth+1<=d.depth:=by
 cases d with
 |list ds=>have:=n9 (ds:=ds) h;simp only[PyData.depth];omega
 |tuple ds=>have:=n9 (ds:=ds) h;simp only[PyData.depth];omega
 |_=>cases h
theorem wG {d e:PyData} (hd:lf d=true) (h:e∈kids d):lf e=true:=by
 cases d with
 |list ds=>exact sV hd h
 |tuple ds=>exact sV hd h
 |_=>cases h
theorem Gd.C6 {d e:PyData} (g:Gd n m d) (h:e∈kids d):Gd (n - 1) (m - 1) e:=⟨wG g.leaf h,by have:=vW h;have:=g.bulk;omega,by have:=qh h;have:=g.dep;omega⟩
theorem Gd.mono {n' m':Nat}{d:PyData} (g:Gd n m d) (h1:n<=n') (h2:m<=m'):Gd n' m' d:=⟨g.leaf,cL g.bulk h1,cL g.dep h2⟩
theorem Hh:∀ {r:List Nat}{n m:Nat}{d e:PyData},Gd n m d->iI r d=some e->Gd n m e
 |[],_,_,_,_,g,h=>by cases h;exact g
 |i::r,n,m,d,e,g,h=>by
  obtain⟨k,hk,h⟩:=vq.mp h;exact(Hh (g.C6 (eN hk)) h).mono (Nat.sub_le _ _) (Nat.sub_le _ _)
theorem z6:∀ {r:List Nat}{d e:PyData},iI r d=some e->r.length<=d.depth
 |[],_,_,_=>aN _
 |i::r,d,e,h=>by
  obtain⟨k,hk,h⟩:=vq.mp h;have h1:=z6 h;have h2:=qh (eN hk);rw[b5];omega
theorem z7:∀ (ds:List PyData) (i:Nat) (e k:PyData),ds[i]? = some k->PyData.bulkAll (ds.set i e)+k.bulk=PyData.bulkAll ds+e.bulk
 |[],i,e,k,h=>by cases h
 |d::ds,0,e,k,h=>by cases h;simp only[Nn,PyData.bulkAll];omega
 |d::ds,i+1,e,k,h=>by
  have:=z7 ds i e k (by simpa using h)
  simp only[Np,PyData.bulkAll];omega
theorem Ay:∀ (ds:List PyData) (i:Nat) (e:PyData) (m:Nat),PyData.depthAll ds<=m->e.depth<=m->PyData.depthAll (ds.set i e)<=m
 |[],i,e,m,h,_=>h
 |d::ds,0,e,m,h,he=>by
  simp only[Nn,PyData.depthAll]at h ⊢;omega
 |d::ds,i+1,e,m,h,he=>by
  simp only[Np,PyData.depthAll]at h ⊢;have:=Ay ds i e m (by omega) he
  omega
theorem Az:∀ (ds:List PyData) (i:Nat) (e:PyData),dM ds=true->lf e=true->dM (ds.set i e)=true
 |[],i,e,h,_=>h
 |d::ds,0,e,h,he=>by simp only[Nn,dM,eS]at h ⊢;exact⟨he,h.2⟩
 |d::ds,i+1,e,h,he=>by simp only[Np,dM,eS]at h ⊢;exact⟨h.1,Az ds i e h.2 he⟩
theorem nT {d:PyData} (h:lF d=true) (ds:List PyData):(jc d ds).bulk=PyData.bulkAll ds/\d.bulk=PyData.bulkAll (kids d)/\(jc d ds).depth=PyData.depthAll ds+1/\d.depth=PyData.depthAll (kids d)+1/\lf (jc d ds)=dM ds/\lf d=dM (kids d):=by
 cases d with
 |list xs=>exact⟨rfl,rfl,rfl,rfl,rfl,rfl⟩
 |tuple xs=>exact⟨rfl,rfl,rfl,rfl,rfl,rfl⟩
 |_=>cases h
theorem vC {d e:PyData} (h:(kids d)[i]? = some e):lF d=true:=by
 cases d with
 |list xs=>rfl
 |tuple xs=>rfl
 |_=>cases h
theorem AV:∀ {r:List Nat}{n m a b:Nat}{d k e:PyData},Gd n m d->iI r d=some k->Gd a b e->Gd (n+a) (m+b) (putAt r d e)
 |[],_,_,_,_,_,_,_,g,h,ge=>ge.mono (Nat.le_add_left _ _) (Nat.le_add_left _ _)
 |i::r,n,m,a,b,d,k,e,g,h,ge=>by
  obtain⟨c,hc,h⟩:=vq.mp h;have sq:=vC hc;have gc:=g.C6 (eN hc);have ih:=AV gc h ge;have ec:(kids d).getD i .none=c:=by rw[bX,hc];rfl
  obtain⟨e1,e2,e3,e4,e5,e6⟩:=nT sq ((kids d).set i (putAt r c e));have hb:=z7 (kids d) i (putAt r c e) c hc;have hk:=vW (eN hc);have XR:=qh (eN hc);have gb:=g.bulk;have gd:=g.dep;have ib:=ih.bulk;have id:=ih.dep;show Gd (n+a) (m+b) (jc d ((kids d).set i (putAt r ((kids d).getD i .none) e)));rw[ec];refine⟨?_,?_,?_⟩
  ·rw[e5];exact Az _ _ _ (by rw[<-e6];exact g.leaf) ih.leaf
  ·rw[e1]
   have:(putAt r c e).bulk<=c.bulk+a:=(AV (n:=c.bulk) (m:=c.depth) ⟨wG g.leaf (eN hc),ay _,ay _⟩ h ge).bulk;omega
  ·rw[e3]
   have:=Ay (kids d) i (putAt r c e) (m - 1+b) (by omega) (by omega)
   omega
end eM
namespace eM
open PySem L2 PySem.W HT
abbrev iV (i:Nat):V:= .int (i:Int)
theorem tJ {d:PyData} (r:Dt p H v d) (h:lF d=true):∃a vs,v = .ref a/\a≠p/\aK p H vs (kids d)/\((H a=some (.lst vs)/\d = .list (kids d))\/(H a=some (.tup vs)/\d = .tuple (kids d))):=by
 cases r with
 |lst n e rs=>exact⟨_,_,rfl,n,rs,.inl ⟨e,rfl⟩⟩
 |tup n e rs=>exact⟨_,_,rfl,n,rs,.inr ⟨e,rfl⟩⟩
 |_=>cases h
theorem Sv {d:PyData} (h:(H a=some (.lst vs)/\d = .list (kids d))\/(H a=some (.tup vs)/\d = .tuple (kids d))):ag K H a vs\/ao K H a vs:=h.elim (fun z=>.inl (ag.of z.1)) fun z=>.inr (ao.of z.1)
theorem AW {k:Nat} (h:ag K H a vs\/ao K H a vs) (hv:vs[k]? = some v) (q:Q v H):Ke K (.ref a) (.int (k:Int)) H Q:=by
 rcases h with h|h
 ·exact .inl ⟨a,vs,_,v,rfl,rfl,h,bQ hv,q⟩
 ·exact .inr (.inl ⟨a,vs,_,v,rfl,rfl,h,bQ hv,q⟩)
section
@[irreducible] def qt:Sp:=fun vs H Q _=>∃ (p:Addr) (v:V) (d:PyData) (t:Addr) (r:List Nat) (e:PyData),vs = [v,.ref t]/\Dt p H v d/\H t=some (.tup (r.map iV))/\iI r d=some e /\ ∀u,Dt p H u e->Q u H
theorem Rc {d:PyData}{t:Addr}{r:List Nat}{e:PyData}{E:XK} (rd:Dt p H v d) (ht:H t=some (.tup (r.map iV))) (h:iI r d=some e) (q:∀u,Dt p H u e->Q u H):qt [v,.ref t] H Q E:=by unfold qt;exact⟨p,v,d,t,r,e,rfl,rd,ht,h,q⟩
abbrev Ui:List Str:= ["_law_thing","_law_path","_law_k"]
theorem AX:b6 Ui ["_law_thing","_law_path"] (aX Bd):=⟨rfl,rfl,rfl,by decide +kernel,rfl,by decide +kernel,by decide +kernel⟩
theorem Rf (F:bg K "_law_part" "_law_part" Bd f fd):aB P w K mg base aC 1 f fd ["_law_thing","_law_path"] qt:=by
 refine F.ok AX (fun vs H Q E h=>?_) (fun aR A outer s H vs Q E hr h=>?_)
 ·unfold qt at h;obtain⟨p,v,d,t,r,e,rfl,_⟩:=h;rfl
 ·unfold qt at h
  obtain⟨p,v,d,t,r,e,rfl,rd,ht,he,q⟩:=h;refine⟨_,au (jx jW rfl (mV (pv 1)) (cb (i:=2) AX.nd rfl (Or.inl rfl)) (aE (bj (i:=0) AX.nd rfl (Or.inl rfl) (aM AL (pv 0) (pv 2) (fun _ _=>rfl))))) (aE (aY (pv 0))),?_⟩;refine⟨_,rfl,t,rfl,⟨_,ao.of ht⟩,?_⟩;refine Gx (xs:=r.map iV) (fun i σ H1=>H1=H /\ ∃ (u:V) (e':PyData) (v2:Option V),σ = [some u,some (.ref t),v2]/\Dt p H u e'/\iI (r.drop i) e'=some e) ⟨rfl,v,d,none,rfl,rd,he⟩ (fun i σ H1 _ ⟨z,_⟩=>by rw[z];exact ao.of ht) ?_ ?_
  ·rintro i x σ H1 hx ⟨rfl,u,e',v2,rfl,ru,hp⟩
   have hi:i < r.length:=by have:=(cZ.mp hx).1;simpa using this
   obtain rfl:iV r[i]=x:=by simpa [hi] using hx
   rw[abp hi]at hp;obtain⟨c,hc,hp⟩:=vq.mp hp;obtain⟨a,vs,rfl,na,rs,hq⟩:=tJ ru (vC hc);obtain⟨y,hy,ry⟩:=rs.get hc;exact⟨_,rfl,_,rfl,AW (Sv hq) hy ⟨rfl,y,c,_,rfl,ry,hp⟩⟩
  ·rintro σ H1 ⟨rfl,u,e',v2,rfl,ru,hp⟩
   rw[ar,List.drop_length]at hp;cases hp
   exact⟨_,rfl,q u ru⟩
def gB (H:Hp) (ws:List V) (ps:List (List Nat)):Prop:=Paired (fun y r=>∃a,y=V.ref a/\H a=some (.tup (r.map iV))) ws ps
theorem gB.keep {ws:List V}{ps:List (List Nat)} (h:gB H ws ps) (s:∀b xs,H b=some (.tup xs)->H' b=some (.tup xs)):gB H' ws ps:=Paired.imp' (fun _ _ ⟨a,e,q⟩=>⟨a,e,s _ _ q⟩) h
theorem gB.app {H:Hp}:∀ {ws us:List V}{ps qs:List (List Nat)},gB H ws ps->gB H us qs->gB H (ws++us) (ps++qs)
 |_,_,_,_,.nil,q=>q
 |_,_,_,_,.cons a b,q=>.cons a (gB.app b q)
theorem gB.get {H:Hp}:∀ {ws:List V}{ps:List (List Nat)},gB H ws ps -> ∀ {i:Nat}{r:List Nat},ps[i]? = some r -> ∃a,ws[i]? = some (.ref a)/\H a=some (.tup (r.map iV))
 |_,_,.nil,i,r,h=>by cases h
 |_,_,.cons ⟨a,e,q⟩ b,0,r,h=>by cases h;subst e;exact⟨a,rfl,q⟩
 |_,_,.cons _ b,i+1,r,h=>gB.get b (by simpa using h)
abbrev Ih (d:PyData) (H:Hp) (Q:VK):Prop:= ∀ (l:Addr) (ps:List (List Nat)) (ws:List V) (H':Hp),H l=none->aw H H'->H' l=some (.lst ws)->gB H' ws ps->ps ≠ []->ps.length<=d.bulk+1->(∀r∈ps,∃e,iI r d=some e)->Q (.ref l) H'
@[irreducible] def mQ (n:Nat):Sp:=fun vs H Q _=>∃ (p:Addr) (v:V) (d:PyData),vs = [v]/\Dt p H v d/\d.depth<=n/\d.bulk<=50000/\Ih d H Q
theorem Ge {d:PyData}{E:XK} (rd:Dt p H v d) (hd:d.depth<=n) (hb:d.bulk<=50000) (q:Ih d H Q):mQ n [v] H Q E:=by unfold mQ;exact⟨p,v,d,rfl,rd,hd,hb,q⟩
abbrev Ii:List Str:= ["_law_thing","_law_found","_law_k"]
theorem AA:b6 Ii ["_law_thing"] (aX qo):=⟨rfl,rfl,rfl,by decide +kernel,rfl,by decide +kernel,by decide +kernel⟩
def Uj (s:Stmt):Expr:=match s with|.Expr e _=>e|_=>.Constant .none 0 ⟨0,0,0,0⟩
def Sw (s:Stmt) (i:Nat):Stmt:=match s with|.If _ b _ _=>b.getD i (.Pass ⟨0,0,0,0⟩)|_=>.Pass ⟨0,0,0,0⟩
abbrev Sx:Expr:=f' (Uj (cS (n0 (Sw (cS (cR qo) 1) 0)) 0))
theorem Hi:cM Ii (aX qo) ["_law_path","_law_k"] [none,some 2] (dX Sx):=⟨rfl,by decide +kernel,by decide +kernel,rfl,f6 (by decide +kernel),by decide +kernel⟩
def Sy:Nat->Sp
 |0=>fun _ _ _ _=>False
 |n+1=>mQ n
theorem Ij (d:PyData):(bp "tuple" d || bp "list" d)=lF d:=by cases d <;> rfl
theorem Gf:∀ (ds:List PyData) (i:Nat) (k:PyData),ds[i]? = some k->PyData.bulkAll (ds.take (i+1))=PyData.bulkAll (ds.take i)+k.bulk+1
 |[],i,k,h=>by cases h
 |d::ds,0,k,h=>by cases h;simp only[Nq,List.take_zero,PyData.bulkAll];omega
 |d::ds,i+1,k,h=>by
  have:=Gf ds i k (by simpa using h)
  simp only[Nq,PyData.bulkAll]at this ⊢;omega
mutual
theorem vX:∀d:PyData,d.depth<=d.bulk+1
 |.none=>aN _
 |.bool _=>aN _
 |.int _=>aN _
 |.str _=>aN _
 |.list ds=>by have:=zG ds;simp only[PyData.depth,PyData.bulk];omega
 |.tuple ds=>by have:=zG ds;simp only[PyData.depth,PyData.bulk];omega
 |.dict kvs=>by have:=EF kvs;simp only[PyData.depth,PyData.bulk];omega
theorem zG:∀ds:List PyData,PyData.depthAll ds<=PyData.bulkAll ds
 |[]=>aN _
 |d::ds=>by have:=vX d;have:=zG ds;simp only[PyData.depthAll,PyData.bulkAll];omega
theorem EF:∀ds:List (PyData×PyData),PyData.depthKv ds<=PyData.bulkKv ds
 |[]=>aN _
 |(a,b)::ds=>by have:=vX a;have:=vX b;have:=EF ds;simp only[PyData.depthKv,PyData.bulkKv];omega
end
theorem zH:∀ (ds:List PyData) (i:Nat),PyData.bulkAll (ds.take i)<=PyData.bulkAll ds
 |[],i=>by rw[List.take_nil];exact ay _
 |d::ds,0=>aN _
 |d::ds,i+1=>by have:=zH ds i;simp only[Nq,PyData.bulkAll];omega
theorem EG (n:Nat) (F:bg K "_law_paths" "_law_paths" qo f fd) (B:cQ mg) (B2:eF mg) (kP:keepIn K (.ref f)=true) (bP:Binds K fd ["_law_thing"] []) (mP:mg "_law_paths" = some (.ref f)) (GP:aB P w K mg base aC n f fd ["_law_thing"] (Sy n)):aB P w K mg base aC (n+1) f fd ["_law_thing"] (mQ n):=by
 refine F.ok AA (fun vs H Q E h=>?_) (fun aR A outer s H vs Q E hr h=>?_)
 ·unfold mQ at h;obtain⟨p,v,d,rfl,_⟩:=h;rfl
 ·unfold mQ at h
  obtain⟨p,v,d,rfl,rd,hd,hb,q⟩:=h;refine⟨_,au (bj (i:=1) AA.nd rfl (Or.inl rfl) (cN (aa (eo ae) ae)))
   (au (bz (dQ (aP E9 rfl B2.dH dj (aa (pv 0) (aa (eo (aa (c7 (v:= .ty "tuple") rfl B.tuple boot_tuple rfl) (aa (c7 (v:= .ty "list") rfl B.list boot_list rfl) ae))) ae))))
    (aE (jx jW rfl (jX rfl B.range (aa (aP cH rfl B.len cA (aa (pv 0) ae)) ae)) (cb (i:=2) AA.nd rfl (Or.inr rfl))
     (aE (mG (j9 nP PySem.F.slot_list_extend PySem.F.type_list_extend OQ (pv 1) (aa (fe rfl Hi (jv (aF GP hr rfl mP kP bP .nil aG (aa (aM AL (pv 0) (pv 2) (fun _ _=>rfl)) ae))) (fun s H fp=>⟨cb (i:=0) Hi.nd rfl (Or.inl rfl),fq,bq GV (eo (aa (pv 1) ae)) (pv 0)⟩)) ae)))))) bH)
   (aE (aY (pv 1)))),?_⟩
  refine⟨aN _,fun t0 yg=>⟨by show 1<=sizeLine;rw[aA];decide,fun l hl=>?_⟩⟩
  have S0:=aI (o:= .tup []) yg;have S1:=S0.trans (aI (o:= .lst [V.ref t0]) hl);have C7:H l=none:=S0.free hl;have fQ:upd (upd H t0 (.tup [])) l (.lst [V.ref t0]) l=some (.lst [V.ref t0]):=af;have kQ:upd (upd H t0 (.tup [])) l (.lst [V.ref t0]) t0=some (.tup []):=by rw[ak (a7 af hl)];exact af
  generalize upd (upd H t0 (.tup [])) l (.lst [V.ref t0])=H1 at S1 fQ kQ ⊢;refine⟨_,rfl,by show 2<=sizeLine;rw[aA];decide,fun t1 VA=>?_⟩
  have l7:=aI (o:= .tup [V.ty "tuple",V.ty "list"]) VA;have S2:=S1.trans l7;have cY:=l7 _ _ fQ;have i6:=l7 _ _ kQ;have pG:upd H1 t1 (.tup [V.ty "tuple",V.ty "list"]) t1=some (.tup [V.ty "tuple",V.ty "list"]):=af;generalize upd H1 t1 (.tup [V.ty "tuple",V.ty "list"])=H2 at S2 cY i6 pG ⊢;refine⟨p,v,d,t1,_,_,rfl,Dt.same rd S2,pG,fun K=>kit_tuple K d,fun K=>FW K d,_,rfl,?_⟩;rw[Ij];cases gL:lF d with
  |false =>
   exact⟨_,rfl,q l [[]] [.ref t0] H2 C7 S2 cY (.cons ⟨t0,rfl,i6⟩ .nil) (by simp) (by simp) (fun r hr=>by rw[gy.mp hr];exact⟨d,rfl⟩)⟩
  |true =>
   obtain⟨a,vs,rfl,na,rs,hq⟩:=tJ rd gL;have el:=rs.length;have bk:d.bulk=PyData.bulkAll (kids d):=(nT gL []).2.1;have r9:=qa (kids d);obtain⟨m,rfl⟩:∃m,n=m+1:=⟨n - 1,by have:=(nT gL []).2.2.2.1;omega⟩
   have XS:∀b o,H b=some o->b≠l:=fun b o e z=>by rw[z,C7]at e;cases e
   have tK:∀H3:Hp,(∀b o,H b=some o->H3 b=some o)->ag K H3 a vs\/ao K H3 a vs:=fun H3 S=>hq.elim (fun z=>.inl (ag.of (S _ _ z.1))) fun z=>.inr (ao.of (S _ _ z.1));refine⟨_,rfl,a,_,rfl,tK H2 S2,_,rfl,by omega,by omega,?_⟩
   refine pZ (fun i σ H3=>∃ (ps:List (List Nat)) (ws:List V) (v2:Option V),σ = [some (.ref a),some (.ref l),v2]/\(∀b o,H b=some o->H3 b=some o)/\H3 l=some (.lst ws)/\gB H3 ws ps/\ps ≠ []/\ps.length<=PyData.bulkAll ((kids d).take i)+1 /\ ∀r∈ps,∃e,iI r d=some e)
    ⟨[[]],[.ref t0],none,rfl,S2,cY,.cons ⟨t0,rfl,i6⟩ .nil,by simp,by simp,fun r hr=>by rw[gy.mp hr];exact⟨d,rfl⟩⟩ ?_ ?_
   ·rintro i σ H3 hi ⟨ps,ws,v2,rfl,k3,jN,yh,ne3,t7,C8⟩
    have jO:i < vs.length:=by simpa using hi
    have eW:i < (kids d).length:=by omega
    have hc:(kids d)[i]? = some (kids d)[i]:=aQ eW;generalize (kids d)[i]=k at hc;obtain⟨y,hy,ry⟩:=rs.get hc;have XT:=vW (eN hc);have XR:=qh (eN hc);have x9:=Gf (kids d) i k hc;have Lg:PyData.bulkAll ((kids d).take (i+1))<=PyData.bulkAll (kids d):=zH _ _;rw[Int.zero_add];refine⟨_,rfl,.inl ⟨rfl,_,ag.of jN⟩,_,rfl,_,rfl,AW (tK H3 k3) hy ?_⟩;refine Ge (n:=m) (Dt.keep (fun b o e _=>k3 b o e) ry) (by omega) (by omega) fun l2 nG C9 H4 JO S4 gJ Lh ne4 JA Li=>?_
    have BR:=S4 _ _ jN;have nll:l2≠l:=fun z=>by rw[z,jN]at JO;cases JO
    refine⟨l2,rfl,⟨_,ag.of gJ⟩,fun c uM=>?_⟩;have nlc:l≠c:=fun z=>by rw[<-z,BR]at uM;cases uM
    have Kq:C9.length=nG.length:=fk Lh;refine lr (xs:=C9) (fun j zs τ H5=>∃t0:Option V,τ = [t0,some (.int (i:Int))]/\H5 c=some (.lst zs)/\(∀b o,H4 b=some o->H5 b=some o)/\gB H5 zs ((nG.take j).map (i :: ·)))
     ⟨none,rfl,af,aI uM,.nil⟩ (fun j zs τ H5 ⟨_,_,z1,z2,_⟩=>⟨z1,ag.of (z2 _ _ gJ)⟩) ?_ ?_
    ·rintro j x zs τ H5 hx ⟨XU,rfl,hz,k5,pz⟩
     have hj:j < C9.length:=(cZ.mp hx).1;have XW:j < nG.length:=by omega
     have hr:nG[j]? = some nG[j]:=aQ XW;generalize nG[j]=r2 at hr;obtain⟨a2,uR,VB⟩:=gB.get Lh hr;rw[hx]at uR;cases uR;have XX:=z6 (Li r2 (eN hr)).choose_spec;have rA:=vX k;have zl:zs.length=j:=by have:=fk pz;rw[ar,c4]at this;omega
     refine⟨_,rfl,by show 1<=sizeLine;rw[aA];decide,fun tq u6=>⟨_,rfl,tq,a2,_,r2.map iV,rfl,rfl,af,aI u6 _ _ (k5 _ _ VB),?_,fun pp H6 S6 h6=>⟨?_,?_,cw_next hj ⟨_,rfl,af,fun b o e=>?_,?_⟩⟩⟩⟩
     ·rw[ar,aA];show 1+_<=_;omega
     ·exact S6 _ _ (aI u6 _ _ hz)
     ·rw[zl,aA];omega
     ·rw[ak (fun z=>by rw[z,uM]at e;cases e)];exact S6 _ _ (aI u6 _ _ (k5 _ _ e))
     ·rw[fY,hr,cp]
      have kp:∀b xs,H5 b=some (.tup xs)->upd H6 c (.lst (zs ++ [.ref pp])) b=some (.tup xs):=fun b xs e=>by
       rw[ak (eI e hz (by intro z;cases z))];exact S6 _ _ (aI u6 _ _ e)
      refine(pz.keep kp).app (.cons ⟨pp,rfl,?_⟩ .nil);have iA:pp≠c:=fun z=>by
       have:=S6 _ _ (aI u6 _ _ hz);rw[<-z,h6]at this;cases this
      rw[ak iA];exact h6
    ·rintro zs τ H5 ⟨XU,rfl,hz,k5,pz⟩
     rw[Kq,fX]at pz;have zl:zs.length=nG.length:=by have:=fk pz;rw[ar]at this;exact this
     have wl:ws.length=ps.length:=fk yh;refine⟨l,c,ws,zs,rfl,rfl,k5 _ _ BR,hz,by rw[aA];omega,?_⟩
     have kp:∀b xs,H5 b=some (.tup xs)->upd H5 l (.lst (ws++zs)) b=some (.tup xs):=fun b xs e=>by rw[ak (eI e (k5 _ _ BR) (by intro z;cases z))];exact e
     refine⟨ps++nG.map (i :: ·),ws++zs,_,rfl,fun b o e=>?_,af,((yh.keep fun b xs e=>k5 _ _ (S4 _ _ e)).keep kp).app (pz.keep kp),by simp[ne3],?_,fun r hr=>?_⟩
     ·rw[ak (XS b o e)];exact k5 _ _ (S4 _ _ (k3 _ _ e))
     ·rw[eO,ar,x9];omega
     ·rcases e9.mp hr with z|z
      ·exact C8 r z
      ·obtain⟨r2,eY,rfl⟩:=cD.mp z
       obtain⟨e,he⟩:=Li r2 eY;exact⟨e,by show(kids d)[i]?.bind (iI r2)=some e;rw[hc];exact he⟩
   ·rintro σ H3 ⟨ps,ws,v2,rfl,k3,jN,yh,ne3,t7,C8⟩
    have ee:((vs.length:Int)).toNat=(kids d).length:=by rw[me,el]
    exact⟨_,rfl,q l ps ws H3 C7 k3 jN yh ne3 (by rw[ee,fX]at t7;omega) C8⟩
theorem Gg (F:bg K "_law_paths" "_law_paths" qo f fd) (B:cQ mg) (B2:eF mg) (kP:keepIn K (.ref f)=true) (bP:Binds K fd ["_law_thing"] []) (mP:mg "_law_paths" = some (.ref f)):∀n,aB P w K mg base aC (n+1) f fd ["_law_thing"] (mQ n)
 |0=>EG 0 F B B2 kP bP mP ⟨fun _ _ _ _ z=>False.elim z,fun _ _ _ _ _ _ _ _ _ _ _ _ _ z=>False.elim z⟩
 |n+1=>EG (n+1) F B B2 kP bP mP (Gg F B B2 kP bP mP n)
end
end eM
namespace eM
open PySem L2 PySem.W HT
mutual
theorem AY {p q:Addr}{H H':Hp}:∀ {v:V}{d:PyData},Dt p H v d->Dt q H v d->(∀b o,H b=some o->b≠q->H' b=some o)->Dt p H' v d
 |_,_,.aD,_,_=>.aD
 |_,_,.bl b,_,_=>.bl b
 |_,_,.int i,_,_=>.int i
 |_,_,.str x,_,_=>.str x
 |_,_,.lst n e rs,z,k=>by
  cases z with
  |lst n' e' se=>rw[e]at e';cases e';exact .lst n (k _ _ e n') (AB rs se k)
 |_,_,.tup n e rs,z,k=>by
  cases z with
  |tup n' e' se=>rw[e]at e';cases e';exact .tup n (k _ _ e n') (AB rs se k)
 |_,_,.gH n e,z,k=>by
  cases z with
  |gH n' e'=>exact .gH n (k _ _ e n')
theorem AB {p q:Addr}{H H':Hp}:∀ {vs:List V}{ds:List PyData},aK p H vs ds->aK q H vs ds->(∀b o,H b=some o->b≠q->H' b=some o)->aK p H' vs ds
 |_,_,.nil,_,_=>.nil
 |_,_,.cons r rs,z,k=>by
  cases z with
  |cons z1 z2=>exact .cons (AY r z1 k) (AB rs z2 k)
end
theorem wg {p:Addr}{H:Hp}{v:V}{d:PyData} (r:Dt p H v d):∀ {vs:List V}{ds:List PyData} (i:Nat),aK p H vs ds->aK p H (vs.set i v) (ds.set i d)
 |_,_,_,.nil=>.nil
 |_,_,0,.cons _ b=>.cons r b
 |_,_,i+1,.cons a b=>.cons a (wg r i b)
mutual
theorem Dt.avoid {p q:Addr}{H:Hp} (hq:H q=none):∀ {v:V}{d:PyData},Dt p H v d->Dt q H v d
 |_,_,.aD=>.aD
 |_,_,.bl b=>.bl b
 |_,_,.int i=>.int i
 |_,_,.str x=>.str x
 |_,_,.lst n e rs=>.lst (a7 e hq) e (aK.avoid hq rs)
 |_,_,.tup n e rs=>.tup (a7 e hq) e (aK.avoid hq rs)
 |_,_,.gH n e=>.gH (a7 e hq) e
theorem aK.avoid {p q:Addr}{H:Hp} (hq:H q=none):∀ {vs:List V}{ds:List PyData},aK p H vs ds->aK q H vs ds
 |_,_,.nil=>.nil
 |_,_,.cons r rs=>.cons (Dt.avoid hq r) (aK.avoid hq rs)
end
abbrev IP (v x:V) (d e:PyData) (r:List Nat) (H:Hp) (Q:VK):Prop:= ∀ (u:V) (H':Hp),aw H H'->(∀p,H p≠none->Dt p H v d->Dt p H x e->Dt p H' u (putAt r d e))->Q u H'
@[irreducible] def lB (n:Nat):Sp:=fun vs H Q _=>∃ (p:Addr) (v:V) (d:PyData) (t:Addr) (r:List Nat) (x:V) (e k:PyData),vs = [v,.ref t,x]/\Dt p H v d/\H t=some (.tup (r.map iV))/\Dt p H x e/\iI r d=some k/\r.length<=n/\d.bulk<=50000/\IP v x d e r H Q
theorem Hj {d:PyData}{t:Addr}{r:List Nat}{x:V}{e k:PyData}{E:XK} (rd:Dt p H v d) (ht:H t=some (.tup (r.map iV))) (rx:Dt p H x e) (h:iI r d=some k) (hn:r.length<=n) (hb:d.bulk<=50000) (q:IP v x d e r H Q):lB n [v,.ref t,x] H Q E:=by unfold lB;exact⟨p,v,d,t,r,x,e,k,rfl,rd,ht,rx,h,hn,hb,q⟩
abbrev Uk:List Str:= ["_law_thing","_law_path","_law_part_here","_law_turned_here"]
theorem Ik:b6 Uk ["_law_thing","_law_path","_law_part_here"] (aX wO):=⟨rfl,rfl,rfl,by decide +kernel,rfl,by decide +kernel,by decide +kernel⟩
def Rg:Nat->Sp
 |0=>fun _ _ _ _=>False
 |n+1=>lB n
theorem Fq (n:Nat) (F:bg K "_law_with" "_law_with" wO f fd) (B:cQ mg) (B2:eF mg) (kP:keepIn K (.ref f)=true) (bP:Binds K fd ["_law_thing","_law_path","_law_part_here"] []) (mP:mg "_law_with" = some (.ref f)) (GP:aB P w K mg base aC n f fd ["_law_thing","_law_path","_law_part_here"] (Rg n)) :
  aB P w K mg base aC (n+1) f fd ["_law_thing","_law_path","_law_part_here"] (lB n):=by
 refine F.ok Ik (fun vs H Q E h=>?_) (fun aR A outer s H vs Q E hr h=>?_)
 ·unfold lB at h;obtain⟨p,v,d,t,r,x,e,k,rfl,_⟩:=h;rfl
 ·unfold lB at h
  obtain⟨p,v,d,t,r,x,e,k,rfl,rd,ht,rx,hp,hn,hb,q⟩:=h;have hu:=hr.units;refine⟨_,au (bz (bh (Ak hu) (pv 1) (eo ae) (a8 _)) (aE (aY (pv 2))) bH)
   (au (bj (i:=3) Ik.nd rfl (Or.inl rfl) (fo pX rfl B.list boot_list (aa (pv 0) ae)))
   (au (tm (aF GP hr rfl mP kP bP .nil aG (aa (aM AL (pv 0) (aM bU (pv 1) ah (fun _ _=>rfl)) (fun _ _=>rfl)) (aa (jY Ag (pv 1) (j3 ah) j0) (aa (pv 2) ae)))) (sZ (pv 3) (aM bU (pv 1) ah (fun _ _=>rfl)) set_list))
   (au (bz (dQ (aP eh rfl B2.dH dj (aa (pv 0) (aa (c7 (v:= .ty "tuple") rfl B.tuple boot_tuple rfl) ae)))) (aE (aY (fo mr rfl B.tuple boot_tuple (aa (pv 3) ae)))) bH)
   (aE (aY (pv 3)))))),?_⟩
  refine⟨_,rfl,aN _,fun e0 hZ=>?_⟩;have S0:=aI (o:= .tup []) hZ;have he:upd H e0 (.tup []) e0=some (.tup []):=af;generalize upd H e0 (.tup [])=H0 at S0 he ⊢;refine⟨t,e0,_,rfl,rfl,S0 _ _ ht,he,_,rfl,?_⟩;cases r with
  |nil=>exact⟨_,rfl,q x H0 S0 fun _ _ _ z=>Dt.same z S0⟩
  |cons i r =>
   obtain⟨c,hc,hp⟩:=vq.mp hp;obtain⟨m,rfl⟩:∃m,n=m+1:=⟨n - 1,by rw[b5]at hn;omega⟩
   have gL:=vC hc;obtain⟨a,vs,rfl,na,rs,hq⟩:=tJ rd gL;have el:=rs.length;have bk:d.bulk=PyData.bulkAll (kids d):=(nT gL []).2.1;have r9:=qa (kids d);have XT:=vW (eN hc);have tK:∀H3:Hp,aw H H3->ag K H3 a vs\/ao K H3 a vs:=fun H3 S=>hq.elim (fun z=>.inl (ag.of (S _ _ z.1))) fun z=>.inr (ao.of (S _ _ z.1));have iX:i < vs.length:=by have:=(cZ.mp hc).1;omega
   refine⟨_,rfl,a,vs,rfl,tK H0 S0,fun tl kU=>?_⟩;have S1:=S0.trans (aI (o:= .lst vs) kU);have iO:H tl=none:=S0.free kU;have BS:upd H0 tl (.lst vs) tl=some (.lst vs):=af;generalize upd H0 tl (.lst vs)=H1 at S1 BS ⊢;obtain⟨y,hy,ry⟩:=rs.get hc;refine⟨_,rfl,_,rfl,t,_,0,_,rfl,rfl,ao.of (S1 _ _ ht),fh,AW (tK H1 S1) hy ?_⟩;refine⟨_,rfl,_,rfl,t,_,rfl,S1 _ _ ht,fun t2 H2 S2 i6=>⟨_,rfl,?_⟩⟩;have S3:=S1.trans S2;have VC:H2 t2=some (.tup (r.map iV)):=by rw[i6];rw[show fu ((i::r).map iV) (some 1) none=_ from zY ((i::r).map iV) 1];rfl
   refine Hj (n:=m) (Dt.same ry S3) VC (Dt.same rx S3) hp (by rw[b5]at hn;omega) (by omega) fun u H4 S4 ru=>?_
   have S5:=S3.trans S4;have m9:=S4 _ _ (S2 _ _ BS);refine⟨_,rfl,_,rfl,t,_,0,_,rfl,rfl,ao.of (S5 _ _ ht),fh,tl,vs,_,i,rfl,rfl,m9,?_,?_⟩
   ·unfold kr;rw[ax (by omega),ax (by omega)];rfl
   have XY:∀b o,H b=some o->b≠tl:=fun b o e z=>by rw[z,iO]at e;cases e
   have S6:aw H (upd H4 tl (.lst (vs.set i u))):=fun b o e=>by rw[ak (XY b o e)];exact S5 _ _ e
   have nc:upd H4 tl (.lst (vs.set i u)) tl=some (.lst (vs.set i u)):=af;have nF:∀p',H p'≠none->Dt p' H (.ref a) d->Dt p' H x e->aK p' (upd H4 tl (.lst (vs.set i u))) (vs.set i u) ((kids d).set i (putAt r c e)):=fun p' fj z1 z2=>by
    obtain⟨a',yi,ea,_,se,xO⟩:=tJ z1 gL;cases ea
    have ev:yi=vs:=by
     rcases hq with⟨g1,g2⟩|⟨g1,g2⟩ <;> rcases xO with⟨g3,_⟩|⟨g3,_⟩ <;> rw[g1]at g3 <;> cases g3 <;> rfl
    subst ev;obtain⟨y',Lj,XZ⟩:=se.get hc;rw[hy]at Lj;cases Lj;have X0:H2 p'≠none:=by
     cases hh:H p' with
     |none=>exact absurd hh fj
     |some o=>rw[S3 _ _ hh];simp
    have d1:Dt p' H4 u (putAt r c e):=ru p' X0 (Dt.same XZ S3) (Dt.same z2 S3);have d2:Dt tl H4 u (putAt r c e):=ru tl (by rw[S2 _ _ BS];simp) (Dt.same (Dt.avoid iO ry) S3) (Dt.same (Dt.avoid iO rx) S3)
    exact wg (AY d1 d2 fun b o e n=>by rw[ak n];exact e) i (aK.same se S6)
   generalize upd H4 tl (.lst (vs.set i u))=H6 at S6 nc nF ⊢;have ep:putAt (i::r) d e=jc d ((kids d).set i (putAt r c e)):=by
    show jc d ((kids d).set i (putAt r ((kids d).getD i .none) e))=_;rw[show(kids d).getD i .none=c by rw[bX,hc];rfl]
   have qq:∀u' H',aw H H'->(∀p,H p≠none->Dt p H (.ref a) d->Dt p H x e->Dt p H' u' (jc d ((kids d).set i (putAt r c e))))->Q u' H':=fun u' H' S z=>q u' H' S (by rw[ep];exact z)
   refine⟨_,rfl,dU kit_tuple (Dt.same rd S6) ⟨_,rfl,?_⟩⟩;rcases hq with⟨_,ed⟩|⟨_,ed⟩
   ·rw[show bp "tuple" d=false by rw[ed];rfl]
    rw[show jc d ((kids d).set i (putAt r c e)) = .list ((kids d).set i (putAt r c e)) by rw[ed];rfl]at qq
    exact⟨_,rfl,qq (.ref tl) H6 S6 fun p' fj z1 z2=>.lst (fun z=>fj (by rw[<-z];exact iO)) nc (nF p' fj z1 z2)⟩
   ·rw[show bp "tuple" d=true by rw[ed];rfl]
    rw[show jc d ((kids d).set i (putAt r c e)) = .tuple ((kids d).set i (putAt r c e)) by rw[ed];rfl]at qq
    refine⟨_,rfl,tl,_,rfl,.inl ⟨ag.of nc,fun pp xP=>?_⟩⟩;have S7:=aI (o:= .tup (vs.set i u)) xP;exact qq (.ref pp) _ (S6.trans S7) fun p' fj z1 z2=>.tup (fun z=>fj (by rw[<-z];exact S6.free xP)) af (aK.same (nF p' fj z1 z2) S7)
theorem Hk (F:bg K "_law_with" "_law_with" wO f fd) (B:cQ mg) (B2:eF mg) (kP:keepIn K (.ref f)=true) (bP:Binds K fd ["_law_thing","_law_path","_law_part_here"] []) (mP:mg "_law_with" = some (.ref f)):∀n,aB P w K mg base aC (n+1) f fd ["_law_thing","_law_path","_law_part_here"] (lB n)
 |0=>Fq 0 F B B2 kP bP mP ⟨fun _ _ _ _ z=>False.elim z,fun _ _ _ _ _ _ _ _ _ _ _ _ _ z=>False.elim z⟩
 |n+1=>Fq (n+1) F B B2 kP bP mP (Hk F B B2 kP bP mP n)
end eM
namespace eM
open PySem L2 PySem.W HT
theorem Il (h:(x.cps.toList.all fun c=>decide (c < 16 ^ 8))=true):lf (.str x)=true:=by simp only[lf];exact h
theorem AZ {n:Int}{a b:Nat} (h:n.natAbs<=10 ^ 18):Gd a b (.int n):=⟨by simp only[lf,ig];exact h,aN _,aN _⟩
theorem AD {x:Bool}{a b:Nat}:Gd a b (.bool x):=⟨by simp only[lf],aN _,aN _⟩
theorem Rh {a b:Nat}:Gd a b .none:=⟨by simp only[lf],aN _,aN _⟩
theorem Im {a b:Nat} (h:(x.cps.toList.all fun c=>decide (c < 16 ^ 8))=true) (hl:x.length<=a):Gd a b (.str x):=⟨Il h,hl,aN _⟩
section
variable{t:TA}
theorem mC {c:Expr}{pos p2} (hc:PT X c tc) (he:PE X e te):PS X (.If c [.Return (some e) p2] [] pos) (IZ tc (Bn te) Iv):=bz hc (aE (aY he)) bH
theorem oe {p2} (he:PE X e te):iw X [.Return (some e) p2] (Bn te):=aE (aY he)
theorem iP {i j pos} (hr:PA X es t):PA X (.Constant (.int i) j pos::es) (lD (tC (.int i)) t):=aa ah hr
theorem gZ {x j pos} (hr:PA X es t):PA X (.Constant (.str x) j pos::es) (lD (tC (.str x)) t):=aa cE hr
theorem IQ {i j pos p2} (hr:PA X es t):PA X (.UnaryOp .USub (.Constant (.int i) j pos) p2::es) (lD (Ka (rU fun i=>.int (-i)) (tC (.int i))) t):=aa (qA qk ah) hr
theorem uf {fs x1 pos}{t1:TA} (h:PA X fs t1) (hr:PA X es t):PA X (.Tuple fs x1 pos::es) (lD (Je t1) t):=aa (eo h) hr
theorem VD {fs pos}{t1:TA} (h:PA X fs t1) (hr:PA X es t):PA X (.List fs pos::es) (lD (Jf t1) t):=aa (cN h) hr
theorem JP {b j pos} (hr:PA X es t):PA X (.Constant (.bool b) j pos::es) (lD (tC (.bl b)) t):=aa gn hr
theorem VE {j pos} (hr:PA X es t):PA X (.Constant .none j pos::es) (lD (tC .aD) t):=aa sY hr
theorem VF {pos} (hr:PA X es t):PA X (.Dict [] [] pos::es) (lD HJ t):=aa zN hr
end
abbrev JQ (p:Addr) (n m:Nat) (H:Hp) (Q:VK):Prop:= ∀ (u:V) (e:PyData) (H':Hp),aT p H H'->(∀q,H q≠none->Dt q H' u e)->Gd n m e->Q u H'
theorem Ri (a:aT p H H') (h:H q≠none):H' q≠none:=fun z=>h (a.free z)
@[irreducible] def ou:Sp:=fun vs H Q _=>∃p:Addr,vs = [.ref p]/\cf p H/\JQ p 9 1 H Q
theorem wH {E:XK} (h:cf p H) (q:JQ p 9 1 H Q):ou [.ref p] H Q E:=by unfold ou;exact⟨p,rfl,h,q⟩
theorem IS:b6 ["_law_pot_here","_law_way"] ["_law_pot_here"] (aX BG):=⟨rfl,rfl,rfl,by decide +kernel,rfl,by decide +kernel,by decide +kernel⟩
theorem pick {c:Addr}{H0:Hp} (hc:H c=some (.lst xs)) (hj:j < xs.length) (all:∀x∈xs,∃e,(∀q,H0 q≠none->Dt q H x e)/\Gd n m e) (q:∀u e,(∀q,H0 q≠none->Dt q H u e)->Gd n m e->Q u H):m4 K (.ref c) (.int (j:Int)) H Q:=by
 obtain⟨e,r,g⟩:=all xs[j] (fV hj);exact⟨c,xs,_,xs[j],rfl,rfl,ag.of hc,bQ (aQ hj),q _ e r g⟩
theorem wj {d:Int}{k:Nat} (h:(k:Int)<=d) (h2:d < m):∃j:Nat,d - (k:Int)=(j:Int)/\j < m - k:=⟨(d - k).toNat,by omega,by omega⟩
theorem SA (F:bg K "_law_odd" "_law_odd" BG f fd)
  (GD:aB P w K mg base aC 1 fD dD ["_law_pot_here","_law_many"] gA) (kD:keepIn K (.ref fD)=true) (bD:Binds K dD ["_law_pot_here","_law_many"] []) (mD:mg "_law_digit" = some (.ref fD)):aB P w K mg base aC 2 f fd ["_law_pot_here"] ou:=by
 refine F.ok IS (fun vs H Q E h=>?_) (fun aR A outer s H vs Q E hr h=>?_)
 ·unfold ou at h;obtain⟨p,rfl,_⟩:=h;rfl
 ·unfold ou at h
  obtain⟨p,rfl,pk,q⟩:=h;have aU:bf 1 _:=hr;refine⟨_,au (bj (i:=1) IS.nd rfl (Or.inl rfl) (aF GD aU rfl mD kD bD .nil aG (aa (pv 0) (iP ae))))
   (au (mC (bh qB (pv 1) ah (a8 _)) (aM cq (cN (iP (iP (IQ (iP (iP (IQ ae))))))) (pv 1) (fun _ _=>rfl)))
   (au (mC (bh qB (pv 1) ah (a8 _)) (aM cq (cN (gZ (gZ (gZ (gZ (gZ (gZ (gZ (gZ ae))))))))) (bq iG (pv 1) ah) (fun _ _=>rfl)))
   (au (mC (bh qB (pv 1) ah (a8 _)) (aM cq (cN (uf (gZ ae) (uf (gZ (iP ae)) (uf (gZ (iP ae)) (uf (gZ (gZ ae)) ae))))) (bq iG (pv 1) ah) (fun _ _=>rfl)))
   (au (mC (bh qB (pv 1) ah (a8 _)) (aM cq (cN (VE (JP (JP ae)))) (bq iG (pv 1) ah) (fun _ _=>rfl)))
   (oe (aM cq (cN (VD ae (uf ae (VF ae)))) (bq iG (pv 1) ah) (fun _ _=>rfl))))))),?_⟩
  refine⟨_,rfl,cj (p:=p) (m:=24) pk (by decide) (by decide) fun wy H1 a0 a1 p1=>?_⟩
  have iA:∀ {c q:Addr}{H2:Hp},aT p H H2->H2 c=none->H q≠none->c≠q:=fun z hc hq e=>hq (by rw[<-e];exact z.free hc)
  refine⟨_,rfl,_,_,rfl,rfl,_,rfl,?_⟩;refine dw (fun h0=>?_) (fun h0=>?_)
  ·have h6:wy < 6:=pR h0
   obtain⟨j,rfl⟩:=eP a0;refine⟨_,rfl,_,rfl,by show 6<=sizeLine;rw[aA];decide,fun c hc=>?_⟩
   refine⟨_,rfl,pick (H0:=H) (n:=9) (m:=1) af (show j < 6 by omega) (fun x hx=>?_) fun u e r g=>q u e _ (p1.new hc) r g⟩
   simp only[bx,jU,jV]at hx;rcases hx with rfl|rfl|rfl|rfl|rfl|rfl <;> exact⟨_,fun _ _=>.int _,AZ (by decide)⟩
  have h6 : ¬ wy < 6:=fun z=>h0 (b4 z);refine⟨_,rfl,_,_,rfl,rfl,_,rfl,?_⟩;refine dw (fun h1=>?_) (fun h1=>?_)
  ·have X1:wy < 14:=pR h1
   obtain⟨j,ej,hj⟩:=wj (d:=wy) (k:=6) (m:=14) (by omega) (by omega)
   refine⟨by show 8<=sizeLine;rw[aA];decide,fun c hc=>?_⟩
   refine⟨_,rfl,_,_,rfl,rfl,?_⟩;show m4 _ (.ref c) (.int (wy - 6)) _ _;rw[show wy - 6=(j:Int) from ej];refine pick (H0:=H) (n:=9) (m:=1) af (show j < 8 by omega) (fun x hx=>?_) fun u e r g=>q u e _ (p1.new hc) r g
   simp only[bx,jU,jV]at hx;rcases hx with rfl|rfl|rfl|rfl|rfl|rfl|rfl|rfl <;> exact⟨_,fun _ _=>.str _,Im (by decide +kernel) (by decide +kernel)⟩
  have X1 : ¬ wy < 14:=fun z=>h1 (b4 z);refine⟨_,rfl,_,_,rfl,rfl,_,rfl,?_⟩;refine dw (fun h2=>?_) (fun h2=>?_)
  ·have X2:wy < 18:=pR h2
   obtain⟨j,ej,hj⟩:=wj (d:=wy) (k:=14) (m:=18) (by omega) (by omega)
   refine⟨by show 1<=sizeLine;rw[aA];decide,fun t1 kQ=>⟨by show 2<=sizeLine;rw[aA];decide,fun t2 i6=>⟨by show 2<=sizeLine;rw[aA];decide,fun t3 pH=>⟨by show 2<=sizeLine;rw[aA];decide,fun t4 sf=>⟨by show 4<=sizeLine;rw[aA];decide,fun c hc=>?_⟩⟩⟩⟩⟩
   refine⟨_,rfl,_,_,rfl,rfl,?_⟩;show m4 _ (.ref c) (.int (wy - 14)) _ _;rw[show wy - 14=(j:Int) from ej];have g1:=p1.new (o:= .tup [V.str "onward"]) kQ;have g2:=g1.new (o:= .tup [V.str "add",V.int 1]) i6;have g3:=g2.new (o:= .tup [V.str "times",V.int 10]) pH;have g4:=g3.new (o:= .tup [V.str "ask",V.str "a"]) sf;have k2:=aI (o:= .tup [V.str "add",V.int 1]) i6;have k3:=aI (o:= .tup [V.str "times",V.int 10]) pH;have k4:=aI (o:= .tup [V.str "ask",V.str "a"]) sf;have k5:=aI (o:= .lst [V.ref t1,V.ref t2,V.ref t3,V.ref t4]) hc;refine pick (H0:=H) (n:=9) (m:=1) af (show j < 4 by omega) (fun x hx=>?_) fun u e r g=>q u e _ (g4.new hc) r g
   simp only[bx,jU,jV]at hx;rcases hx with rfl|rfl|rfl|rfl
   ·exact⟨.tuple [.str "onward"],fun _ hq=>.tup (iA p1 kQ hq) (k5 _ _ (k4 _ _ (k3 _ _ (k2 _ _ af)))) (.cons (.str _) .nil),by decide +kernel,by decide +kernel,by decide +kernel⟩
   ·exact⟨.tuple [.str "add",.int 1],fun _ hq=>.tup (iA g1 i6 hq) (k5 _ _ (k4 _ _ (k3 _ _ af))) (.cons (.str _) (.cons (.int _) .nil)),by decide +kernel,by decide +kernel,by decide +kernel⟩
   ·exact⟨.tuple [.str "times",.int 10],fun _ hq=>.tup (iA g2 pH hq) (k5 _ _ (k4 _ _ af)) (.cons (.str _) (.cons (.int _) .nil)),by decide +kernel,by decide +kernel,by decide +kernel⟩
   ·exact⟨.tuple [.str "ask",.str "a"],fun _ hq=>.tup (iA g3 sf hq) (k5 _ _ af) (.cons (.str _) (.cons (.str _) .nil)),by decide +kernel,by decide +kernel,by decide +kernel⟩
  have X2 : ¬ wy < 18:=fun z=>h2 (b4 z);refine⟨_,rfl,_,_,rfl,rfl,_,rfl,?_⟩;refine dw (fun h3=>?_) (fun h3=>?_)
  ·have X3:wy < 21:=pR h3
   obtain⟨j,ej,hj⟩:=wj (d:=wy) (k:=18) (m:=21) (by omega) (by omega)
   refine⟨by show 3<=sizeLine;rw[aA];decide,fun c hc=>?_⟩
   refine⟨_,rfl,_,_,rfl,rfl,?_⟩;show m4 _ (.ref c) (.int (wy - 18)) _ _;rw[show wy - 18=(j:Int) from ej];refine pick (H0:=H) (n:=9) (m:=1) af (show j < 3 by omega) (fun x hx=>?_) fun u e r g=>q u e _ (p1.new hc) r g
   simp only[bx,jU,jV]at hx;rcases hx with rfl|rfl|rfl
   ·exact⟨_,fun _ _=>.aD,Rh⟩
   ·exact⟨_,fun _ _=>.bl _,AD⟩
   ·exact⟨_,fun _ _=>.bl _,AD⟩
  have X3 : ¬ wy < 21:=fun z=>h3 (b4 z);obtain⟨j,ej,hj⟩:=wj (d:=wy) (k:=21) (m:=24) (by omega) (by omega)
  refine⟨aN _,fun t1 kQ=>⟨aN _,fun t2 i6=>fun t3 pH=>⟨by show 3<=sizeLine;rw[aA];decide,fun c hc=>?_⟩⟩⟩
  refine⟨_,rfl,_,_,rfl,rfl,?_⟩;show m4 _ (.ref c) (.int (wy - 21)) _ _;rw[show wy - 21=(j:Int) from ej];have g1:=p1.new (o:= .lst []) kQ;have g2:=g1.new (o:= .tup []) i6;have g3:=g2.new (o:= .dK []) pH;have k2:=aI (o:= .tup []) i6;have k3:=aI (o:= .dK []) pH;have k5:=aI (o:= .lst [V.ref t1,V.ref t2,V.ref t3]) hc;refine pick (H0:=H) (n:=9) (m:=1) af (show j < 3 by omega) (fun x hx=>?_) fun u e r g=>q u e _ (g3.new hc) r g
  simp only[bx,jU,jV]at hx;rcases hx with rfl|rfl|rfl
  ·exact⟨.list [],fun _ hq=>.lst (iA p1 kQ hq) (k5 _ _ (k3 _ _ (k2 _ _ af))) .nil,by decide +kernel,by decide +kernel,by decide +kernel⟩
  ·exact⟨.tuple [],fun _ hq=>.tup (iA g1 i6 hq) (k5 _ _ (k3 _ _ af)) .nil,by decide +kernel,by decide +kernel,by decide +kernel⟩
  ·exact⟨.dict [],fun _ hq=>.gH (iA g2 pH hq) (k5 _ _ af),by decide +kernel,by decide +kernel,by decide +kernel⟩
theorem qb:∀a b:List PyData,PyData.bulkAll (a++b)=PyData.bulkAll a+PyData.bulkAll b
 |[],b=>by simp[PyData.bulkAll]
 |x::a,b=>by have:=qb a b;simp only[List.cons_append,PyData.bulkAll];omega
theorem Hl:∀ {ds:List PyData}{m:Nat},(∀d∈ds,d.depth<=m)->PyData.depthAll ds<=m
 |[],_,_=>aN _
 |x::a,m,h=>by
  have h1:=h x aZ;have h2:=Hl (ds:=a) fun d hd=>h d (a9 _ hd);simp only[PyData.depthAll];omega
theorem wR {ds:List PyData} (h1:∀d∈ds,lf d=true) (h2:PyData.bulkAll ds<=n) (h3:∀d∈ds,d.depth<=m):Gd n (m+1) (.tuple ds)/\Gd n (m+1) (.list ds):=by
 have:=Hl h3;exact⟨⟨wF h1,h2,by simp only[PyData.depth];omega⟩,⟨wF h1,h2,by simp only[PyData.depth];omega⟩⟩
theorem SE {k:Nat}{d e:PyData} (g:Gd n m d) (h:lF d=true) (ge:Gd 9 1 e):Gd (2 * n+10) (m+2) (.tuple ((kids d).take k++e::(kids d).drop k)):=by
 have gb:=g.bulk;have gd:=g.dep;have eb:=ge.bulk;have ed:=ge.dep;have bk:d.bulk=PyData.bulkAll (kids d):=(nT h []).2.1;have b2:PyData.bulkAll (kids d)=PyData.bulkAll ((kids d).take k)+PyData.bulkAll ((kids d).drop k):=by rw[<-qb,DN]
 have mem:∀c∈(kids d).take k++e::(kids d).drop k,c=e\/c∈kids d:=fun c hc=>by
  rcases e9.mp hc with z|z
  ·exact .inr (vp z)
  ·rcases bx.mp z with z|z
   ·exact .inl z
   ·exact .inr (Nl z)
 refine(wR (n:=2 * n+10) (m:=m+1) (fun c hc=>?_) ?_ (fun c hc=>?_)).1
 ·rcases mem c hc with rfl|z
  ·exact ge.leaf
  ·exact wG g.leaf z
 ·rw[qb];simp only[PyData.bulkAll];omega
 ·rcases mem c hc with rfl|z
  ·omega
  ·have:=qh z;omega
theorem tL {d:PyData}{ds:List PyData} (g:Gd n m d) (h:lF d=true) (hd:ds.Sublist (kids d)):Gd (2 * n+10) (m+2) (.tuple ds)/\Gd (2 * n+10) (m+2) (.list ds):=by
 have gb:=g.bulk;have gd:=g.dep;have bk:d.bulk=PyData.bulkAll (kids d):=(nT h []).2.1;have sub:∀ {a b:List PyData},a.Sublist b->PyData.bulkAll a<=PyData.bulkAll b:=fun s=>by
  induction s with
  |slnil=>exact ay _
  |cons x _ ih=>simp only[PyData.bulkAll];omega
  |cons_cons x _ ih=>simp only[PyData.bulkAll];omega
 have:=sub hd;exact wR (m:=m+1) (fun c hc=>wG g.leaf (hd.subset hc)) (by omega) (fun c hc=>by have:=qh (hd.subset hc);omega)
theorem aK.del {p:Addr}{H:Hp}:∀ {vs:List V}{ds:List PyData} (i:Nat),aK p H vs ds->aK p H (vs.eraseIdx i) (ds.eraseIdx i)
 |_,_,_,.nil=>.nil
 |_,_,0,.cons _ b=>b
 |_,_,i+1,.cons a b=>.cons a (aK.del i b)
theorem Fs (h:c∈(Txt.slice z lo hi).cps.toList):c∈z.cps.toList:=by
 unfold Txt.slice at h;split at h
 ·exact h
 ·simp only[sj]at h
  obtain⟨i,_,e⟩:=h;obtain⟨_,e2⟩:=mh.mp e;rw[<-e2];simp
abbrev nH (x:Str):Prop:= ∀c∈x.cps.toList,c < 16 ^ 8
theorem SG {a b:Nat} (h:nH x) (hl:x.length<=a):Gd a b (.str x):=Im (by simp only[i9,ig];exact h) hl
theorem SH {a b:Nat} (g:Gd a b (.str x)):nH x/\x.length<=a:=⟨by
 have:=g.leaf;simp only[lf,i9,ig]at this;exact this,g.bulk⟩
theorem Hm {y:Str} (hx:nH x) (hy:nH y):nH (x++y):=fun c hc=>by
 have e:(x++y).cps.toList=x.cps.toList++y.cps.toList:=by show(x.cps++y.cps).toList=_;simp
 rw[e]at hc;rcases e9.mp hc with z|z
 ·exact hx c z
 ·exact hy c z
theorem len_app (x y:Str):(x++y).length=x.length+y.length:=by show(x.cps++y.cps).size=_;simp;rfl
abbrev qi:Str:= "abcdefghijklmnopqrstuvwxyz09AZ_-`{ \n"
theorem Rj {d:Int} (h0:0<=d) (h1:d < 36):∃c,eQ qi.cps.toList d=some c/\c < 16 ^ 8:=by
 obtain⟨j,rfl⟩:=eP h0;have hl:qi.cps.toList.length=36:=by decide +kernel
 have hj:j < qi.cps.toList.length:=by omega
 refine⟨qi.cps.toList[j],bQ (aQ hj),?_⟩;have:∀c∈qi.cps.toList,c < 16 ^ 8:=by decide +kernel
 exact this _ (fV hj)
abbrev kl (d:PyData):Nat:=(kids d).length
theorem Bi {d:PyData} (g:Gd n m d):kl d<=n:=by
 have h1:=qa (kids d);have h2:=g.bulk;cases d with
 |list ds=>exact cL h1 h2
 |tuple ds=>exact cL h1 h2
 |_=>exact aN _
abbrev qI (p:Addr) (n m k:Nat) (H:Hp) (Q:VK):Prop:= ∀ (u:V) (e:PyData) (H':Hp),aT p H H'->Dt p H' u e->Gd n m e->kl e<=max 9 (k+1)->Q u H'
@[irreducible] def qc:Sp:=fun vs H Q _=>∃ (p:Addr) (v:V) (d:PyData) (j n m:Nat),vs = [.ref p,v,.int (j:Int)]/\cf p H/\Dt p H v d/\Gd n m d/\n<=40000/\1<=j/\j < 4/\qI p (2 * n+10) (m+2) (kl d) H Q
theorem Pf {d:PyData}{E:XK} (h:cf p H) (r:Dt p H v d) (g:Gd n m d) (hn:n<=40000) (j1:1<=j) (j4:j < 4) (q:qI p (2 * n+10) (m+2) (kl d) H Q):qc [.ref p,v,.int (j:Int)] H Q E:=by unfold qc;exact⟨p,v,d,j,n,m,rfl,h,r,g,hn,j1,j4,q⟩
abbrev Rk:List Str:= ["_law_pot_here","_law_part_here","_law_way","_law_some","_law_sign","_law_at"]
theorem vY:b6 Rk ["_law_pot_here","_law_part_here","_law_way"] (aX Au):=⟨rfl,rfl,rfl,by decide +kernel,rfl,by decide +kernel,by decide +kernel⟩
theorem Pg {fO:Addr}{dO:FuncData} (F:bg K "_law_turned" "_law_turned" Au f fd) (B:cQ mg) (B2:eF mg) (B3:uc mg)
  (GD:aB P w K mg base aC 1 fD dD ["_law_pot_here","_law_many"] gA) (kD:keepIn K (.ref fD)=true) (bD:Binds K dD ["_law_pot_here","_law_many"] []) (mD:mg "_law_digit" = some (.ref fD))
  (GO:aB P w K mg base aC 2 fO dO ["_law_pot_here"] ou) (kO:keepIn K (.ref fO)=true) (bO:Binds K dO ["_law_pot_here"] []) (mO:mg "_law_odd" = some (.ref fO)):aB P w K mg base aC 3 f fd ["_law_pot_here","_law_part_here","_law_way"] qc:=by
 refine F.ok vY (fun vs H Q E h=>?_) (fun aR A outer s H vs Q E hr h=>?_)
 ·unfold qc at h;obtain⟨p,v,d,j,n,m,rfl,_⟩:=h;rfl
 ·unfold qc at h
  obtain⟨p,v,d,j,n,m,rfl,pk,rd,gd,hn,j1,j4,q⟩:=h;have hu:=hr.units;have eY:bf 2 _:=hr;have aU:bf 1 _:=eY.mono (by decide)
  refine⟨_,au (bz (dQ (aP E9 rfl B2.dH dj (aa (pv 1) (aa (eo (aa (c7 (v:= .ty "tuple") rfl B.tuple boot_tuple rfl) (aa (c7 (v:= .ty "list") rfl B.list boot_list rfl) ae))) ae))))
    (au (bj (i:=3) vY.nd rfl (Or.inl rfl) (fo pX rfl B.list boot_list (aa (pv 1) ae)))
    (au (bz (bh eu (pv 2) ah (a8 _))
     (aE (mG (j9 nP Nr Nt zC (pv 3) (aa (aF GD aU rfl mD kD bD .nil aG (aa (pv 0) (aa (bq gT (aP cH rfl B.len cA (aa (pv 3) ae)) ah) ae))) (aa (aF GO eY rfl mO kO bO .nil aG (aa (pv 0) ae)) ae)))))
     (aE (bz (PW.pt (pw_and (bh eu (pv 2) ah (a8 _)) (pw_and1 (bh (G4 hu) (pv 3) (cN ae) (a8 _)))))
      (aE (mG (j9 nP abY abZ FA (pv 3) (aa (aF GD aU rfl mD kD bD .nil aG (aa (pv 0) (aa (aP cH rfl B.len cA (aa (pv 3) ae)) ae))) ae))))
      (aE (mC (dQ (aP eh rfl B2.dH dj (aa (pv 1) (aa (c7 (v:= .ty "tuple") rfl B.tuple boot_tuple rfl) ae)))) (pv 3))))))
    (oe (fo mr rfl B.tuple boot_tuple (aa (pv 3) ae))))) bH)
   (au (bz (dQ (aP eh rfl B2.dH dj (aa (pv 1) (aa (c7 (v:= .ty "str") rfl B2.str boot_str rfl) ae))))
    (au (bj (i:=4) vY.nd rfl (Or.inl rfl) (aM wo cE (aF GD aU rfl mD kD bD .nil aG (aa (pv 0) (iP ae))) (fun _ _=>rfl)))
    (au (bj (i:=5) vY.nd rfl (Or.inl rfl) (aF GD aU rfl mD kD bD .nil aG (aa (pv 0) (aa (bq gT (aP zg rfl B.len cA (aa (pv 1) ae)) ah) ae))))
    (oe (bq vz (bq vz (jY AM (pv 1) j0 (j3 (pv 5))) (aM cq (cN (gZ (aa (pv 4) (gZ (aa (pv 4) ae))))) (pv 2) (fun _ _=>rfl)))
     (jY AM (pv 1) (j3 (bq gT (pv 5) (aM cq (cN (iP (iP (iP (iP ae))))) (pv 2) (fun _ _=>rfl)))) j0))))) bH)
   (au (mC (PW.pt (pw_and (dQ (aP eh rfl B2.dH dj (aa (pv 1) (aa (c7 (v:= .ty "int") rfl B3.int boot_int rfl) ae)))) (pw_and1 (ff (dQ (aP eh rfl B2.dH dj (aa (pv 1) (aa (c7 (v:= .ty "bool") rfl B3.bool boot_bool rfl) ae))))))))
    (aM cq (cN (aa (pv 1) (aa (qA qk (pv 1)) (aa (bq Gy (pv 1) ah) (aa (fZ eu (pv 1) ah (a8 _)) ae))))) (pv 2) (fun _ _=>rfl)))
   (oe (aF GO eY rfl mO kO bO .nil aG (aa (pv 0) ae))))),?_⟩
  refine⟨_,rfl,by show 2<=sizeLine;rw[aA];decide,fun t1 kQ=>?_⟩
  have p1:=(aT.refl pk).new (o:= .tup [V.ty "tuple",V.ty "list"]) kQ;have pG:upd H t1 (.tup [V.ty "tuple",V.ty "list"]) t1=some (.tup [V.ty "tuple",V.ty "list"]):=af;generalize upd H t1 (.tup [V.ty "tuple",V.ty "list"])=H1 at p1 pG ⊢;have kX:Dt p H1 v d:=Dt.keep (fun b o e n=>p1.kp b o e n) rd;refine⟨p,v,d,t1,_,_,rfl,kX,pG,fun K=>kit_tuple K d,fun K=>FW K d,_,rfl,?_⟩;rw[Ij];cases gL:lF d with
  |true =>
   obtain⟨a,vs,rfl,na,rs,hq⟩:=tJ rd gL;have el:=rs.length;have bk:d.bulk=PyData.bulkAll (kids d):=(nT gL []).2.1;have r9:=qa (kids d);have gb:=gd.bulk;have u7:(kids d).length<=max 9 (kl d+1):=by show(kids d).length<=max 9 ((kids d).length+1);omega
   have hvl:vs.length<=40000:=by omega
   refine⟨_,rfl,a,vs,rfl,hq.elim (fun z=>.inl (ag.of (p1.kp _ _ z.1 na))) (fun z=>.inr (ao.of (p1.kp _ _ z.1 na))),fun tl kU=>?_⟩;have iO:H tl=none:=p1.free kU;have gM:p≠tl:=p1.ok.ne kU;have p2:=p1.new (o:= .lst vs) kU;have ng:upd H1 tl (.lst vs) tl=some (.lst vs):=af;generalize upd H1 tl (.lst vs)=H2 at p2 ng ⊢;have fin:∀ (H3:Hp) (ys:List V) (ds:List PyData),aT p H H3->H3 tl=some (.lst ys)->aK p H3 ys ds->Gd (2 * n+10) (m+2) (.tuple ds)->ds.length<=max 9 (kl d+1) -> ∃p ys,[V.ref tl] = [V.ref p]/\((ag K H3 p ys /\ ∀l,H3 l=none->Q (.ref l) (upd H3 l (.tup ys)))\/(ao K H3 p ys/\Q (.ref p) H3)):=fun H3 ys ds p3 h3 r3 g3 k3 =>
    ⟨tl,ys,rfl,.inl ⟨ag.of h3,fun l hl=>q _ _ _ (p3.new hl) (.tup (bb (p3.ok.ne hl)) af (aK.keep (fun b o e _=>by rw[ak (a7 e hl)];exact e) r3)) g3 k3⟩⟩
   have fU:∀ {H3:Hp},aT p H H3->aK p H3 vs (kids d):=fun p3=>aK.keep (fun b o e n=>p3.kp b o e n) rs;refine⟨_,rfl,rfl,_,rfl,?_⟩;refine dw (fun h0=>?_) (fun h0=>?_)
   ·refine⟨_,rfl,.inl ⟨rfl,_,ag.of ng⟩,_,rfl,_,rfl,tl,_,rfl,.inl (ag.of ng),_,_,rfl,rfl,?_⟩
    refine cj (p:=p) (m:=(vs.length:Int)+1) p2.ok (by omega) (by omega) fun kk H3 a0 a1 p3=>?_
    obtain⟨k,rfl⟩:=eP a0;have Lk:=p2.trans p3;have iu:=p3.kp _ _ ng (bb gM);refine⟨_,rfl,wH p3.ok fun u e H4 p4 yj ge=>?_⟩;have Dc:=Lk.trans p4;have m9:=p4.kp _ _ iu (bb gM);refine⟨tl,vs,k,u,rfl,rfl,m9,by omega,by omega,?_⟩
    have p5:=Dc.write (o:= .lst (vs.take k++u::vs.drop k)) iO gM;have ru:Dt p (upd H4 tl (.lst (vs.take k++u::vs.drop k))) u e:=AY (yj p (Ri Lk (by obtain⟨x,y,z,_⟩:=pk;rw[z];simp))) (yj tl (by rw[iu];simp)) fun b o z nb=>by rw[ak nb];exact z
    exact⟨_,rfl,fin _ _ _ p5 af (((fU p5).take k).app (.cons ru ((fU p5).drop k))) (SE gd gL ge) (by rw[eO,b5,c4,mf];show _<=max 9 ((kids d).length+1);omega)⟩
   refine⟨_,rfl,rfl,_,rfl,?_⟩;refine dw (fun h1=>?_) (fun h1=>?_)
   ·refine⟨_,rfl,aN _,fun e0 hZ=>?_⟩
    have p3:=p2.new (o:= .lst []) hZ;have iu:upd H2 e0 (.lst []) tl=some (.lst vs):=by rw[ak (a7 ng hZ)];exact ng
    have u5:upd H2 e0 (.lst []) e0=some (.lst []):=af;generalize upd H2 e0 (.lst [])=H3 at p3 iu u5 ⊢;refine⟨tl,e0,vs,rfl,rfl,iu,u5,_,rfl,?_⟩;cases X4:vs.isEmpty with
    |false =>
     have m7:0 < vs.length:=by cases vs with
      |nil=>cases X4
      |cons _ _=>simp
     refine⟨_,rfl,.inl ⟨rfl,_,ag.of iu⟩,_,rfl,_,rfl,tl,_,rfl,.inl (ag.of iu),?_⟩;refine cj (p:=p) (m:=(vs.length:Int)) p3.ok (by omega) (by omega) fun kk H4 a0 a1 p4=>?_
     obtain⟨k,rfl⟩:=eP a0;have Dc:=p3.trans p4;have m9:=p4.kp _ _ iu (bb gM);have hk:k < vs.length:=by omega
     refine⟨tl,vs,_,k,vs[k],rfl,rfl,m9,by omega,by omega,?_,aQ hk,?_⟩
     ·unfold seqIndex?;simp;omega
     have p5:=Dc.write (o:= .lst (vs.eraseIdx k)) iO gM;exact⟨_,rfl,fin _ _ _ p5 af (aK.del k (fU p5)) (tL gd gL (ab7 _ _)).1 (cL (ab7 _ _).length_le u7)⟩
    |true =>
     refine⟨_,rfl,dU kit_tuple (Dt.keep (fun b o e n=>p3.kp b o e n) rd) ⟨_,rfl,?_⟩⟩;refine dw (fun h3=>?_) (fun h3=>?_)
     ·exact⟨_,rfl,q _ (.list (kids d)) _ p3 (.lst (bb gM) iu (fU p3)) (tL gd gL (D' _)).2 u7⟩
     ·exact⟨_,rfl,fin _ _ _ p3 iu (fU p3) (tL gd gL (D' _)).1 u7⟩
   ·refine⟨_,rfl,dU kit_tuple (Dt.keep (fun b o e n=>p2.kp b o e n) rd) ⟨_,rfl,?_⟩⟩
    refine dw (fun h3=>?_) (fun h3=>?_)
    ·exact⟨_,rfl,q _ (.list (kids d)) _ p2 (.lst (bb gM) ng (fU p2)) (tL gd gL (D' _)).2 u7⟩
    ·exact⟨_,rfl,fin _ _ _ p2 ng (fU p2) (tL gd gL (D' _)).1 u7⟩
  |false =>
  refine⟨_,rfl,dU we kX ⟨_,rfl,?_⟩⟩;cases lR:bp "str" d with
  |true =>
   obtain⟨x,rfl⟩:∃x,d = .str x:=by cases d with
    |str x=>exact⟨x,rfl⟩
    |_=>cases lR
   cases rd
   obtain⟨ox,lx⟩:=SH gd;refine⟨_,rfl,cj (p:=p) (m:=36) p1.ok (by decide) (by decide) fun d1 H2 a0 a1 p2=>?_⟩
   obtain⟨c,hc,gE⟩:=Rj a0 a1;have sg:=p1.trans p2;refine⟨qi,d1,c,rfl,rfl,(by rw[aA];decide +kernel),hc,?_⟩
   refine⟨_,rfl,_,rfl,x,rfl,by rw[aA];omega,_,_,rfl,rfl,?_⟩
   refine cj (p:=p) (m:=(x.length:Int)+1) sg.ok (by omega) (by omega) fun d2 H3 b0 b1 p3=>?_
   have u9:=sg.trans p3;refine⟨_,rfl,_,rfl,_,rfl,x,rfl,by omega,?_⟩
   have l1:=Txt.slice_le x none (some d2);refine⟨_,rfl,_,rfl,by show 4<=sizeLine;rw[aA];decide,fun l4 gJ=>?_⟩
   have p4:=u9.new (o:= .lst [V.str "",V.str ⟨#[c]⟩,V.str "",V.str ⟨#[c]⟩]) gJ;obtain⟨y,hy,oy,ly⟩:∃y:Str,[V.str "",V.str ⟨#[c]⟩,V.str "",V.str ⟨#[c]⟩][j]? = some (V.str y)/\nH y/\y.length<=1:=by
    have:j=1\/j=2\/j=3:=by omega
    rcases this with rfl|rfl|rfl
    ·exact⟨_,rfl,fun z hz=>by rw[gy.mp (show z ∈ [c] from hz)];exact gE,ay 1⟩
    ·exact⟨_,rfl,(fun z hz=>by rw[show((Str.ofString "").cps.toList) = [] by decide +kernel]at hz;cases hz),by decide +kernel⟩
    ·exact⟨_,rfl,fun z hz=>by rw[gy.mp (show z ∈ [c] from hz)];exact gE,ay 1⟩
   refine⟨_,rfl,l4,_,_,_,rfl,rfl,ag.of af,bQ hy,?_⟩;refine⟨_,y,rfl,rfl,by rw[aA];omega,?_⟩
   refine⟨_,rfl,_,rfl,by show 4<=sizeLine;rw[aA];decide,fun l5 rS=>?_⟩
   have p5:=p4.new (o:= .lst [V.int 0,V.int 0,V.int 1,V.int 1]) rS;obtain⟨k,hk⟩:∃k:Int,[V.int 0,V.int 0,V.int 1,V.int 1][j]? = some (V.int k):=by
    have:j=1\/j=2\/j=3:=by omega
    rcases this with rfl|rfl|rfl
    ·exact⟨_,rfl⟩
    ·exact⟨_,rfl⟩
    ·exact⟨_,rfl⟩
   refine⟨_,rfl,l5,_,_,_,rfl,rfl,ag.of af,bQ hk,_,_,rfl,rfl,_,rfl,x,rfl,by omega,?_⟩
   have l2:=Txt.slice_le x (some (d2+k)) none;have l3:=len_app (Txt.slice x none (some d2)) y;have l4':=len_app (Txt.slice x none (some d2)++y) (Txt.slice x (some (d2+k)) none);refine⟨_,_,rfl,rfl,by rw[aA];omega,?_⟩
   exact q _ _ _ p5 (.str _) (SG (Hm (Hm (fun c hc=>ox c (Fs hc)) oy) fun c hc=>ox c (Fs hc)) (by omega)) (aN _)
  |false =>
  refine⟨_,rfl,dU Aj kX ⟨_,rfl,?_⟩⟩;cases rR:bp "int" d with
  |false=>exact⟨_,rfl,wH p1.ok fun u e H2 p2 Dd ge=>q u e _ (p1.trans p2) (Dd p (by obtain⟨x,y,z,_⟩:=p1.ok;rw[z];simp)) (ge.mono (by omega) (by omega)) (cL (Bi ge) (by omega))⟩
  |true =>
  refine⟨_,rfl,dU vS kX ⟨_,rfl,?_⟩⟩;cases Lg:bp "bool" d with
  |true=>exact⟨_,rfl,wH p1.ok fun u e H2 p2 Dd ge=>q u e _ (p1.trans p2) (Dd p (by obtain⟨x,y,z,_⟩:=p1.ok;rw[z];simp)) (ge.mono (by omega) (by omega)) (cL (Bi ge) (by omega))⟩
  |false =>
   obtain⟨i,rfl⟩:∃i,d = .int i:=by cases d with
    |int i=>exact⟨i,rfl⟩
    |bool b=>cases Lg
    |_=>cases rR
   cases rd
   have hi:i.natAbs<=10 ^ 18:=by have:=gd.leaf;simpa only [lf,ig] using this
   refine⟨_,rfl,_,rfl,_,rfl,_,rfl,_,_,rfl,rfl,⟨by decide,by decide⟩,_,rfl,rfl,by show 4<=sizeLine;rw[aA];decide,fun l4 gJ=>?_⟩
   have p4:=p1.new (o:= .lst [V.int i,V.int (-i),V.int (i / 7),V.bl (decide (V.int i=V.int 1))]) gJ;refine⟨_,rfl,?_⟩;have:j=1\/j=2\/j=3:=by omega
   rcases this with rfl|rfl|rfl
   ·exact⟨l4,_,_,_,rfl,rfl,ag.of af,rfl,q _ _ _ p4 (.int _) (AZ (by omega)) (aN _)⟩
   ·exact⟨l4,_,_,_,rfl,rfl,ag.of af,rfl,q _ _ _ p4 (.int _) (AZ (by omega)) (aN _)⟩
   ·exact⟨l4,_,_,_,rfl,rfl,ag.of af,rfl,q _ _ _ p4 (.bl _) AD (aN _)⟩
@[irreducible] def nX:Sp:=fun vs H Q _=>∃ (p:Addr) (v:V) (d:PyData) (n m:Nat),vs = [.ref p,v]/\cf p H/\Dt p H v d/\Gd n m d/\n<=40000/\m<=20/\qI p (3 * n+10) (2 * m+2) (kl d) H Q
theorem Ph {d:PyData}{E:XK} (h:cf p H) (r:Dt p H v d) (g:Gd n m d) (hn:n<=40000) (hm:m<=20) (q:qI p (3 * n+10) (2 * m+2) (kl d) H Q):nX [.ref p,v] H Q E:=by unfold nX;exact⟨p,v,d,n,m,rfl,h,r,g,hn,hm,q⟩
abbrev Rl:List Str:= ["_law_pot_here","_law_thing","_law_way","_law_paths_here","_law_path"]
theorem vZ:b6 Rl ["_law_pot_here","_law_thing"] (aX Av):=⟨rfl,rfl,rfl,by decide +kernel,rfl,by decide +kernel,by decide +kernel⟩
theorem A0 (h:cf p H):H p≠none:=by obtain⟨x,y,z,_⟩:=h;rw[z];simp
theorem Rm {d:PyData} (h:lF d=true) (ds:List PyData):kids (jc d ds)=ds:=by
 cases d with
 |list xs=>rfl
 |tuple xs=>rfl
 |_=>cases h
theorem SI {r:List Nat}{d e c:PyData} (h:iI r d=some e) (hk:kl c<=max 9 (kl e+1)):kl (putAt r d c)<=max 9 (kl d+1):=by
 cases r with
 |nil=>cases h;exact hk
 |cons i r =>
  obtain⟨k,hV,_⟩:=vq.mp h;show(kids (jc d _)).length<=max 9 ((kids d).length+1);rw[Rm (vC hV),yI];omega
theorem Pj {fO fA:Addr}{dO dA:FuncData} (F:bg K "_law_spoilt" "_law_spoilt" Av f fd) (B:cQ mg)
  (GD:aB P w K mg base aC 1 fD dD ["_law_pot_here","_law_many"] gA) (kD:keepIn K (.ref fD)=true) (bD:Binds K dD ["_law_pot_here","_law_many"] []) (mD:mg "_law_digit" = some (.ref fD))
  (GO:aB P w K mg base aC 2 fO dO ["_law_pot_here"] ou) (kO:keepIn K (.ref fO)=true) (bO:Binds K dO ["_law_pot_here"] []) (mO:mg "_law_odd" = some (.ref fO))
  (GT:aB P w K mg base aC 3 fT dT ["_law_pot_here","_law_part_here","_law_way"] qc) (kT:keepIn K (.ref fT)=true) (bT:Binds K dT ["_law_pot_here","_law_part_here","_law_way"] []) (mT:mg "_law_turned" = some (.ref fT))
  (GP:aB P w K mg base aC 21 fP dP ["_law_thing"] (mQ 20)) (kP:keepIn K (.ref fP)=true) (bP:Binds K dP ["_law_thing"] []) (mP:mg "_law_paths" = some (.ref fP))
  (GA:aB P w K mg base aC 1 fA dA ["_law_thing","_law_path"] qt) (kA:keepIn K (.ref fA)=true) (bA:Binds K dA ["_law_thing","_law_path"] []) (mA:mg "_law_part" = some (.ref fA))
  (GW:aB P w K mg base aC 21 fW dW ["_law_thing","_law_path","_law_part_here"] (lB 20)) (kW:keepIn K (.ref fW)=true) (bW:Binds K dW ["_law_thing","_law_path","_law_part_here"] []) (mW:mg "_law_with" = some (.ref fW)) :
  aB P w K mg base aC 22 f fd ["_law_pot_here","_law_thing"] nX:=by
 refine F.ok vZ (fun vs H Q E h=>?_) (fun aR A outer s H vs Q E hr h=>?_)
 ·unfold nX at h;obtain⟨p,v,d,n,m,rfl,_⟩:=h;rfl
 ·unfold nX at h
  obtain⟨p,v,d,n,m,rfl,pk,rd,gd,hn,hm,q⟩:=h;have qV:bf 21 _:=hr;have iC:bf 3 _:=qV.mono (by decide)
  have eY:bf 2 _:=qV.mono (by decide)
  have aU:bf 1 _:=qV.mono (by decide)
  refine⟨_,au (bj (i:=2) vZ.nd rfl (Or.inl rfl) (aF GD aU rfl mD kD bD .nil aG (aa (pv 0) (iP ae))))
   (au (bj (i:=3) vZ.nd rfl (Or.inl rfl) (aF GP qV rfl mP kP bP .nil aG (aa (pv 1) ae)))
   (au (bj (i:=4) vZ.nd rfl (Or.inl rfl) (aM cq (pv 3) (aF GD aU rfl mD kD bD .nil aG (aa (pv 0) (aa (aP cH rfl B.len cA (aa (pv 3) ae)) ae))) (fun _ _=>rfl)))
   (au (mC (bh eu (pv 2) ah (a8 _)) (aF GW qV rfl mW kW bW .nil aG (aa (pv 1) (aa (pv 4) (aa (aF GO eY rfl mO kO bO .nil aG (aa (pv 0) ae)) ae)))))
   (oe (aF GW qV rfl mW kW bW .nil aG (aa (pv 1) (aa (pv 4) (aa (aF GT iC rfl mT kT bT .nil aG (aa (pv 0) (aa (aF GA aU rfl mA kA bA .nil aG (aa (pv 1) (aa (pv 4) ae))) (aa (pv 2) ae)))) ae)))))))),?_⟩
  refine⟨_,rfl,cj (p:=p) (m:=4) pk (by decide) (by decide) fun wy H1 a0 a1 p1=>?_⟩
  have gb:=gd.bulk;have Ll:=gd.dep;refine⟨_,rfl,Ge (n:=20) (Dt.keep (fun b o e n=>p1.kp b o e n) rd) (by omega) (by omega) fun l ps ws H2 hl S2 cY Lm ne2 BE X5=>?_⟩
  have sg:=p1.trans (my p1.ok S2);have kM:l≠p:=fun z=>A0 p1.ok (by rw[<-z];exact hl)
  have ewl:ws.length=ps.length:=fk Lm;have m7:0 < ps.length:=pU.mpr ne2;refine⟨_,rfl,_,rfl,_,rfl,l,_,rfl,.inl (ag.of cY),?_⟩;refine cj (p:=p) (m:=(ws.length:Int)) sg.ok (by omega) (by omega) fun kk H3 b0 b1 p3=>?_
  obtain⟨k,rfl⟩:=eP b0;have hk:k < ps.length:=by omega
  have hr:ps[k]? = some ps[k]:=aQ hk;generalize ps[k]=r at hr;obtain⟨a,ha,X6⟩:=gB.get Lm hr;obtain⟨e,he⟩:=X5 r (eN hr);have XX:=z6 he;have BU:=n8 sg.ok p3 _ _ X6;have u9:=sg.trans p3;refine⟨l,ws,_,_,rfl,rfl,ag.of (p3.kp _ _ cY kM),bQ ha,?_⟩;have fin:∀ (u:V) (c:PyData) (H4:Hp),aT p H H4->H4 a=some (.tup (r.map iV))->Dt p H4 u c->Gd (2 * n+10) (m+2) c->kl c<=max 9 (kl e+1)->lB 20 [v,.ref a,u] H4 Q E0:=fun u c H4 p4 X7 ru gc r9 =>
   Hj (n:=20) (Dt.keep (fun b o e n=>p4.kp b o e n) rd) X7 ru he (by omega) (by omega) fun u' H5 S5 xJ =>
    q u' _ H5 (p4.trans (my p4.ok S5)) (xJ p (A0 p4.ok) (Dt.keep (fun b o e n=>p4.kp b o e n) rd) ru) ((AV gd he gc).mono (by omega) (by omega)) (SI he r9)
  refine⟨_,rfl,rfl,_,rfl,?_⟩;refine dw (fun h0=>?_) (fun h0=>?_)
  ·refine⟨_,rfl,_,rfl,_,rfl,wH p3.ok fun u c H4 p4 yj gc=>?_⟩
   exact fin u c H4 (u9.trans p4) (n8 p3.ok p4 _ _ BU) (yj p (A0 p3.ok)) (gc.mono (by omega) (by omega)) (cL (Bi gc) (by omega))
  ·have hw : ¬ V.int wy=V.int 0:=fun z=>h0 (b4 z)
   obtain⟨j,rfl⟩:=eP a0;have hj:j≠0:=fun z=>hw (by rw[z];rfl)
   refine⟨_,rfl,_,rfl,_,rfl,_,rfl,_,rfl,Rc (Dt.keep (fun b o e n=>u9.kp b o e n) rd) BU he fun u ru=>⟨_,rfl,?_⟩⟩;refine Pf (n:=n) (m:=m) p3.ok ru (Hh gd he) hn (by omega) (by omega) fun u2 c H4 p4 uI gc r9=>?_
   exact fin u2 c H4 (u9.trans p4) (n8 p3.ok p4 _ _ BU) uI gc r9
theorem Gh:∀xs ys:List Str,PyData.eqvAll (xs.map PyData.str) (ys.map PyData.str)=decide (xs=ys)
 |[],[]=>rfl
 |[],y::ys=>rfl
 |x::xs,[]=>rfl
 |x::xs,y::ys=>by
  show((x==y) && PyData.eqvAll (xs.map PyData.str) (ys.map PyData.str))=_;rw[Gh xs ys]
  by_cases e:x=y
  ·by_cases f:xs=ys <;> simp[e,f]
  ·simp[e]
abbrev Bk:=List (Str×Str×PyData)
def cJ (p:Str×Str×PyData):List Str:= [p.1,p.2.1]
def jP (p:Str×Str×PyData):PyData:= .tuple [.str p.1,.str p.2.1,p.2.2]
def cP (H:Hp) (vs:List V) (bk:Bk):Prop:=Paired (fun v p=>∃a u,v=V.ref a/\H a=some (.tup [.str p.1,.str p.2.1,u])/\Rep H u p.2.2) vs bk
structure kj (bk:Bk):Prop where
 nm:∀p∈bk,Nm p.1/\Nm p.2.1
 ent:∀p∈bk,Ent p.2.2
 nd:(bk.map cJ).Nodup
 cg:bk.length<=48
def i7 (bk:Bk) (k n:Str):Bk:=bk.filter fun p=>!decide (cJ p = [k,n])
theorem cP.keep {H H':Hp} (k:∀b xs,H b=some (.tup xs)->H' b=some (.tup xs)):∀ {vs:List V}{bk:Bk},cP H vs bk->(∀p∈bk,Ent p.2.2)->cP H' vs bk
 |_,_,.nil,_=>.nil
 |_,_,.cons ⟨a,u,e,h,r⟩ t,he=>.cons ⟨a,u,e,k _ _ h,(he _ aZ).keep r k⟩ (cP.keep k t fun p hp=>he p (a9 _ hp))
theorem cP.same {H H':Hp} (S:aw H H'):∀ {vs:List V}{bk:Bk},cP H vs bk->cP H' vs bk
 |_,_,.nil=>.nil
 |_,_,.cons ⟨a,u,e,h,r⟩ t=>.cons ⟨a,u,e,S _ _ h,r.same S⟩ (cP.same S t)
theorem cP.length {bk:Bk} (h:cP H vs bk):vs.length=bk.length:=fk h
theorem cP.append {H:Hp}{a:Addr}{u:V}{p:Str×Str×PyData} (ha:H a=some (.tup [.str p.1,.str p.2.1,u])) (r:Rep H u p.2.2):∀ {vs:List V}{bk:Bk},cP H vs bk->cP H (vs ++ [.ref a]) (bk ++ [p])
 |_,_,.nil=>.cons ⟨a,u,rfl,ha,r⟩ .nil
 |_,_,.cons x t=>.cons x (cP.append ha r t)
theorem cP.keyed {H:Hp}:∀ {vs:List V}{bk:Bk},cP H vs bk -> ∃kvs,gU H 2 vs kvs/\kvs.map (·.1)=bk.map cJ
 |_,_,.nil=>⟨[],.nil,rfl⟩
 |_,_,.cons (b:=p) ⟨a,u,e,h,r⟩ t=>by
  obtain⟨kvs,h1,h2⟩:=cP.keyed t;exact⟨(cJ p,[u])::kvs,.cons ⟨a,e,h,rfl⟩ h1,by rw[cn,cn,h2]⟩
theorem Ft {H:Hp}:∀ {vs:List V}{bk:Bk}{kvs:List (List Str×List V)},cP H vs bk->gU H 2 vs kvs->kvs.map (·.1)=bk.map cJ
 |_,_,_,.nil,.nil=>rfl
 |_,_,_,.cons ⟨a,u,e,q,r⟩ t,.cons (b:=kv) ⟨a',e',q',l'⟩ t'=>by
  have ea:a=a':=by rw[e]at e';cases e';rfl
  subst ea;rw[q]at q';rw[cn,cn,Ft t t'];obtain⟨ks,rest⟩:=kv
  match ks,l' with
  |[k1,k2],_ =>
   injection (e7 q') with z;injection z with z1 z2;injection z2 with z3 z4;injection z1 with z1;injection z3 with z3;unfold cJ;rw[z1,z3]
def Ln (bk:Bk):Prop:=(bk.map cJ).Pairwise fun a b=>de a b=true
theorem SK {bk:Bk} (ok:kj bk) (k n:Str):kj (i7 bk k n):=
 ⟨fun p hp=>ok.nm p (jQ.mp hp).1,fun p hp=>ok.ent p (jQ.mp hp).1,ok.nd.sublist (List.Sublist.map _ ab8),cL (pT _ _) ok.cg⟩
theorem Rn {bk:Bk}{k n:Str} : [k,n] ∉ (i7 bk k n).map cJ:=fun h=>by
 obtain⟨p,hp,e⟩:=cD.mp h;have:=(jQ.mp hp).2;simp[e]at this
theorem cP.perm {yi:List V}{bk:Bk} (p:yi.Perm vs) (h:cP H vs bk):∃yk,yk.Perm bk/\cP H yi yk:=Em p h
def qW (p:Str×Str×PyData):List Key:= [Sum.inr p.1,Sum.inr p.2.1]
def c9 (H:Hp) (kvs:List (List Key×V)) (aO:Bk):Prop:=Paired (fun kv p=>kv.1=qW p/\Rep H kv.2 p.2.2) kvs aO
theorem c9.keep {H H':Hp} (k:∀b xs,H b=some (.tup xs)->H' b=some (.tup xs)):∀ {kvs:List (List Key×V)}{aO:Bk},c9 H kvs aO->(∀p∈aO,Ent p.2.2)->c9 H' kvs aO
 |_,_,.nil,_=>.nil
 |_,_,.cons ⟨e,r⟩ t,he=>.cons ⟨e,(he _ aZ).keep r k⟩ (c9.keep k t fun p hp=>he p (a9 _ hp))
theorem c9.same (S:aw H H') {kvs:List (List Key×V)}{aO:Bk} (h:c9 H kvs aO):c9 H' kvs aO:=by
 induction h with
 |nil=>exact .nil
 |cons x _ ih=>exact .cons ⟨x.1,x.2.same S⟩ ih
theorem c9.length {kvs:List (List Key×V)}{aO:Bk} (h:c9 H kvs aO):kvs.length=aO.length:=fk h
theorem wa {p:Str×Str×PyData}{k n:Str}:qW p = [Sum.inr k,Sum.inr n] ↔ cJ p = [k,n]:=by
 unfold qW cJ
 constructor
 ·intro h
  injection h with h1 h2;injection h2 with h3 _;rw[si h1,si h3]
 ·intro h
  injection h with h1 h2;injection h2 with h3 _;rw[h1,h3]
theorem c9.val {H:Hp}{k n:Str}:∀ {kvs:List (List Key×V)}{aO:Bk},c9 H kvs aO->(ck kvs [Sum.inr k,Sum.inr n]=none /\ [k,n] ∉ aO.map cJ) \/ ∃v d,ck kvs [Sum.inr k,Sum.inr n]=some v/\(k,n,d)∈aO/\Rep H v d
 |_,_,.nil=>.inl ⟨rfl,by simp⟩
 |_,_,.cons (a:=kv) (b:=p) ⟨e,r⟩ t=>by
  by_cases hk:kv.1 = [Sum.inr k,Sum.inr n]
  ·have hp:=wa.mp (e.symm.trans hk)
   have e1:p.1=k:=by injection hp
   have e2:p.2.1=n:=by injection hp with _ z;injection z
   exact .inr ⟨kv.2,p.2.2,iF hk,by rw[<-e1,<-e2];exact aZ,r⟩
  ·have hp:cJ p ≠ [k,n]:=fun z=>hk (e.trans (wa.mpr z))
   rcases c9.val (k:=k) (n:=n) t with⟨a,b⟩|⟨v,d,a,b,c⟩
   ·refine .inl ⟨(ij hk).trans a,fun z=>?_⟩
    rw[cn]at z;rcases bx.mp z with z|z
    ·exact hp z.symm
    ·exact b z
   ·exact .inr ⟨v,d,(ij hk).trans a,a9 _ b,c⟩
theorem Gi {bk:Bk}{k n:Str} (h : [k,n] ∉ bk.map cJ):i7 bk k n=bk:=Nk.mpr fun p hp=>by
 have:cJ p ≠ [k,n]:=fun e=>h (e ▸ cD.mpr ⟨p,hp,rfl⟩)
 simpa using this
theorem z8:∀a:List Str,de a a=false
 |[]=>rfl
 |x::xs=>by
  unfold de;simp[z8 xs,zO]
theorem Gj {k n:Str}{d:PyData}:∀ {aO:Bk},(aO.map cJ).Nodup -> [k,n]∈aO.map cJ->(aO.map fun p=>if cJ p = [k,n] then (k,n,d) else p).Perm (i7 aO k n ++ [(k,n,d)])
 |[],_,h=>by simp at h
 |p::aO,nd,h=>by
  rw[cn,iE]at nd
  by_cases e:cJ p = [k,n]
  ·have hn : [k,n] ∉ aO.map cJ:=e ▸ nd.1
   have e1:(aO.map fun p=>if cJ p = [k,n] then (k,n,d) else p)=aO:=by
    refine(yV (g:=id) fun q hq=>?_).trans (List.map_id aO);have:cJ q ≠ [k,n]:=fun z=>hn (z ▸ cD.mpr ⟨q,hq,rfl⟩);rw[aj this];rfl
   have e2:i7 (p::aO) k n=aO:=by
    have:=Gi hn;unfold i7 at this ⊢;rw[D6 (by simp[e])];exact this
   rw[cn,ax e,e1,e2];exact(List.perm_append_singleton _ _).symm
  ·have rR : [k,n]∈aO.map cJ:=by
    rw[cn]at h;rcases bx.mp h with z|z
    ·exact absurd z.symm e
    ·exact z
   have e2:i7 (p::aO) k n=p::i7 aO k n:=by unfold i7;rw[D5 (by simp[e])]
   rw[cn,aj e,e2];exact(Gj nd.2 rR).cons p
theorem c9.BV {H:Hp}{k n:Str}{v:V}{d:PyData} (r:Rep H v d):∀ {kvs:List (List Key×V)}{aO:Bk},c9 H kvs aO->c9 H (kvs.map fun kv=>if kv.1 = [Sum.inr k,Sum.inr n] then (kv.1,v) else kv) (aO.map fun p=>if cJ p = [k,n] then (k,n,d) else p)
 |_,_,.nil=>.nil
 |_,_,.cons (a:=kv) (b:=p) ⟨e,r'⟩ t=>by
  rw[cn,cn]
  by_cases hk:kv.1 = [Sum.inr k,Sum.inr n]
  ·have hp:=wa.mp (e.symm.trans hk)
   rw[ax hk,ax hp];exact .cons ⟨hk,r⟩ (c9.BV r t)
  ·have hp:cJ p ≠ [k,n]:=fun z=>hk (e.trans (wa.mpr z))
   rw[aj hk,aj hp];exact .cons ⟨e,r'⟩ (c9.BV r t)
theorem c9.snoc {H:Hp}{k n:Str}{v:V}{d:PyData} (r:Rep H v d):∀ {kvs:List (List Key×V)}{aO:Bk},c9 H kvs aO->c9 H (kvs ++ [([Sum.inr k,Sum.inr n],v)]) (aO ++ [(k,n,d)])
 |_,_,.nil=>.cons ⟨rfl,r⟩ .nil
 |_,_,.cons x t=>.cons x (c9.snoc r t)
theorem c9.put {k n:Str}{d:PyData}{kvs:List (List Key×V)}{aO:Bk} (h:c9 H kvs aO) (nd:(aO.map cJ).Nodup) (r:Rep H v d):∃xg,c9 H (putK kvs [Sum.inr k,Sum.inr n] v) xg/\xg.Perm (i7 aO k n ++ [(k,n,d)]):=by
 rcases h.val (k:=k) (n:=n) with⟨a,b⟩|⟨v0,d0,a,b,_⟩
 ·rw[FG v a,Gi b]
  exact⟨_,h.snoc r,.refl _⟩
 ·have e:putK kvs [Sum.inr k,Sum.inr n] v=kvs.map fun kv=>if kv.1 = [Sum.inr k,Sum.inr n] then (kv.1,v) else kv:=by
   unfold putK;rw[ax (by rw[nV,a];rfl)]
  rw[e];exact⟨_,h.BV r,Gj nd (cD.mpr ⟨_,b,rfl⟩)⟩
theorem Hn {a b:Bk} (p:a.Perm b) (ok:kj b):kj a:=
 ⟨fun q hq=>ok.nm q (p.mem_iff.mp hq),fun q hq=>ok.ent q (p.mem_iff.mp hq),(p.map cJ).nodup_iff.mpr ok.nd,by rw[p.length_eq];exact ok.cg⟩
theorem Io:∀ {bk:Bk}{p q:Str×Str×PyData},(bk.map cJ).Nodup->p∈bk->q∈bk->p≠q->cJ p≠cJ q
 |[],_,_,_,h,_,_=>by cases h
 |x::bk,p,q,nd,hp,hq,ne=>by
  rw[cn,iE]at nd;rcases bx.mp hp with e1|rG
  ·rcases bx.mp hq with e2|oX
   ·exact absurd (e1.trans e2.symm) ne
   ·intro z
    exact nd.1 (e1 ▸ z ▸ cD.mpr ⟨q,oX,rfl⟩)
  ·rcases bx.mp hq with e2|oX
   ·intro z
    exact nd.1 (e2 ▸ z ▸ cD.mpr ⟨p,rG,rfl⟩)
   ·exact Io nd.2 rG oX ne
@[irreducible] def qX:Sp:=fun vs H Q _=>∃ (d:Addr) (kvs:List (List Key×V)) (aO:Bk),vs = [.ref d]/\H d=some (.dT kvs)/\c9 H kvs aO/\kj aO /\ ∀r ws bk H',aw H H'->H' r=some (.tup ws)->cP H' ws bk->bk.Perm aO->Ln bk->Q (.ref r) H'
theorem Ul {kvs:List (List Key×V)}{aO:Bk}{E:XK} (hd:H d=some (.dT kvs)) (dv:c9 H kvs aO) (ok:kj aO) (q:∀r ws bk H',aw H H'->H' r=some (.tup ws)->cP H' ws bk->bk.Perm aO->Ln bk->Q (.ref r) H'):qX [.ref d] H Q E:=by
 unfold qX;exact⟨d,kvs,aO,rfl,hd,dv,ok,q⟩
theorem VG:b6 ["_law_book_here"] ["_law_book_here"] (aX sP):=⟨rfl,rfl,rfl,by decide +kernel,rfl,by decide +kernel,by decide +kernel⟩
abbrev X8:Expr:=f' (f' (oF (cS (cR sP) 0)))
theorem BW:cM ["_law_book_here"] (aX sP) ["_law_kind","_law_name","_law_book_here"] [none,none,some 0] (dX X8):=⟨rfl,by decide +kernel,by decide +kernel,rfl,f6 (by decide +kernel),by decide +kernel⟩
theorem Gk (K:Frag) (h:X.K=K) {k:Nat}{t:ni} (hc:X.calm=true) (hh:uk X es t)
  (hn:(assignEach es X.env).length=n:=by rfl) (lR:(assignEach es X.env).findIdx? (·.1)=none:=by rfl):PG X (.Tuple es k pos) (Ja K n t):=by subst h;exact RB hc hh hn lR
theorem Um (F:bg K "_law_book_tuple" "_law_book_tuple" sP f fd) (B:cQ mg) (B2:eF mg):aB P w K mg base aC 1 f fd ["_law_book_here"] qX:=by
 refine F.ok VG (fun vs H Q E h=>?_) (fun aR A outer s H vs Q E hr h=>?_)
 ·unfold qX at h;obtain⟨d,kvs,aO,rfl,_⟩:=h;rfl
 ·unfold qX at h
  obtain⟨d,kvs,aO,rfl,hd,dv,ok,q⟩:=h;have hu:=hr.units;have i5:=y9 (za (show 1<=64 by decide) _) hu
  refine⟨_,aE (aY (QP (fo mr rfl B.tuple boot_tuple (aa (aP NR rfl B2.sorted boot_sorted (aa (fe rfl BW (Qa (pv 0)) (fun s H fp=>⟨Gk (n:=2) K rfl rfl (sN (cb (i:=0) BW.nd rfl (Or.inl rfl)) (sN (cb (i:=1) BW.nd rfl (Or.inl rfl)) Gw)),fq,
     eo (aa (pv 0) (aa (pv 1) (aa (Ae i5 (pv 2) (eo (aa (pv 0) (aa (pv 1) ae))) (fun _ _=>rfl)) ae)))⟩)) ae)) ae)))),?_⟩
  have lk:=dv.length;have cg:=ok.cg;refine⟨_,rfl,d,kvs,rfl,hd,fun o c hc=>?_⟩;have pD:∀b u,b≠d->H b=some u->upd H d (.bo o (.dT kvs)) b=some u:=fun b u n e=>by rw[ak n];exact e
  have js:upd H d (.bo o (.dT kvs)) d=some (.bo o (.dT kvs)):=af;have De:c9 (upd H d (.bo o (.dT kvs))) kvs aO:=dv.keep (fun b xs e=>pD _ _ (eI e hd (by intro z;cases z)) e) ok.ent
  generalize upd H d (.bo o (.dT kvs))=H1 at pD js De hc ⊢;refine Oy (fun i ys τ H2=>∃t0 t1:Option V,τ = [t0,t1,some (.ref d)]/\H2 c=some (.lst ys)/\aw H1 H2/\cP H2 ys (aO.take i)) ⟨none,none,rfl,af,aI hc,.nil⟩ (fun i ys τ H2 ⟨_,_,_,z1,z2,_⟩=>⟨z1,z2 _ _ js⟩) ?_ ?_
  ·rintro i kv b ys τ H2 gF hb ⟨t0,t1,rfl,h2,S2,pI⟩
   have d5:i < kvs.length:=(cZ.mp gF).1;obtain⟨p,hp,ek,rp⟩:=L2.Paired.get (De.same S2) gF;have pm:=eN hp;have kG:aO.take (i+1)=aO.take i ++ [p]:=by rw[fY,hp];rfl
   replace hb:H2 b=some (.tup [V.str p.1,V.str p.2.1]):=by rw[ek]at hb;exact hb
   refine⟨b,_,rfl,ao.of hb,rfl,_,_,rfl,_,_,rfl,rfl,?_⟩;refine⟨_,rfl,_,rfl,_,rfl,_,rfl,_,rfl,by show 2<=sizeLine;rw[aA];decide,fun kt i8=>?_⟩
   have Sk:=aI (o:= .tup [V.str p.1,V.str p.2.1]) i8;have Lo:upd H2 kt (.tup [V.str p.1,V.str p.2.1]) kt=some (.tup ((qW p).map kV)):=af;generalize upd H2 kt (.tup [V.str p.1,V.str p.2.1])=H3 at Sk Lo ⊢;have S3:=S2.trans Sk;obtain⟨v,hv⟩:∃v,ck kvs (qW p)=some v/\Rep H3 v p.2.2:=by
    rcases (De.same S3).val (k:=p.1) (n:=p.2.1) with⟨_,z⟩|⟨v,d',z1,z2,z3⟩
    ·exact absurd (cD.mpr ⟨p,pm,rfl⟩) z
    ·refine⟨v,z1,?_⟩
     have:(p.1,p.2.1,d')=p:=by
      by_cases e:(p.1,p.2.1,d')=p
      ·exact e
      ·exact absurd (show cJ (p.1,p.2.1,d')=cJ p from rfl) (Io ok.nd z2 pm e)
     rw[<-this];exact z3
   refine⟨d,v,rfl,.inr ⟨kvs,qW p,kt,.inr ⟨o,S3 _ _ js⟩,rfl,Lo,hv.1.symm⟩,by show 3<=sizeLine;rw[aA];decide,fun t ht=>?_⟩
   have St:=Sk.trans (aI (o:= .tup [V.str p.1,V.str p.2.1,v]) ht);have sf:upd H3 t (.tup [V.str p.1,V.str p.2.1,v]) t=some (.tup [V.str p.1,V.str p.2.1,v]):=af;have Lp:=hv.2.same (aI (o:= .tup [V.str p.1,V.str p.2.1,v]) ht);generalize upd H3 t (.tup [V.str p.1,V.str p.2.1,v])=H4 at St sf Lp ⊢;have rY:=St _ _ h2;have up:∀ {zs:List V} b xs,H4 b=some (.tup xs)->upd H4 c (.lst zs) b=some (.tup xs):=fun b xs e=>by rw[ak (eI e rY (by intro z;cases z))];exact e
   refine⟨rY,?_,cw_next d5 ⟨_,_,rfl,af,fun x u hx=>by rw[ak (a7 hx hc)];exact St _ _ (S2 x u hx),?_⟩⟩
   ·have:=pI.length
    rw[c4]at this;rw[aA];omega
   ·rw[kG]
    exact cP.append (up _ _ sf) ((ok.ent p pm).keep Lp up) (cP.keep up (cP.same St pI) fun q hq=>ok.ent q (vp hq))
  ·rintro ys τ H2 ⟨t0,t1,rfl,h2,S2,pI⟩
   rw[lk,fX]at pI;obtain⟨X9,K6,ek⟩:=pI.keyed;have l2:=pI.length;refine⟨c,_,X9,2,rfl,.inl (ag.of h2),K6,by decide,by rw[ek];exact ok.nd,by omega,fun D bG rH hD mZ hK lX C3=>?_⟩
   obtain⟨yk,ya,B7⟩:=cP.perm mZ pI;rw[Ft B7 hK]at C3;have SD:=aI (o:= .lst bG) hD;refine⟨D,bG,rfl,.inl ⟨ag.of af,fun t' Lq=>?_⟩⟩;have St:=S2.trans (SD.trans (aI (o:= .tup bG) Lq));have Df:=St _ _ js;have hT:upd (upd H2 D (.lst bG)) t' (.tup bG) t'=some (.tup bG):=af;have B8:=cP.same (SD.trans (aI (o:= .tup bG) Lq)) B7;generalize upd (upd H2 D (.lst bG)) t' (.tup bG)=H5 at St Df hT B8 ⊢;refine⟨d,o,kvs,Df,fun o' u' z=>?_,?_⟩
   ·have:H d=some (.bo o' u'):=z
    rw[hd]at this;cases this
   ·have up:∀b xs,H5 b=some (.tup xs)->upd H5 d (.dT kvs) b=some (.tup xs):=fun b xs e=>by rw[ak (eI e Df (by intro z;cases z))];exact e
    refine q t' bG yk _ (fun b u e=>?_) (up _ _ hT) (cP.keep up B8 fun p hp=>ok.ent p (ya.mem_iff.mp hp)) ya C3
    by_cases hb:b=d
    ·subst hb;rw[af,<-e,hd]
    ·rw[ak hb];exact St _ _ (pD b u hb e)
theorem Ip (xs:List V) (k:Nat):fu xs none (some (k:Int))=xs.take k:=by
 unfold fu;have e1:HT.a6 xs.length 0 none=0:=rfl;rw[e1,MK,ML];have e2:HT.a6 xs.length xs.length (some (k:Int))=min k xs.length:=by
  unfold HT.a6;simp;omega
 rw[e2]
 by_cases h:k<=xs.length
 ·rw[Nat.min_eq_left h]
 ·rw[Nat.min_eq_right (by omega),sC (ay _),sC (by omega)]
theorem SM {aO:Bk}{k n:Str}{d:PyData} (ok:kj aO) (hk:Nm k) (hn:Nm n) (hd:Ent d) (cg:(i7 aO k n).length<=47):kj (i7 aO k n ++ [(k,n,d)]):=by
 have w:=SK ok k n;refine⟨fun p hp=>?_,fun p hp=>?_,?_,by rw[eO,yJ];omega⟩
 ·rcases e9.mp hp with z|z
  ·exact w.nm p z
  ·rw[gy.mp z];exact⟨hk,hn⟩
 ·rcases e9.mp hp with z|z
  ·exact w.ent p z
  ·rw[gy.mp z];exact hd
 ·rw[cp]
  refine vk.mpr ⟨w.nd,by simp,fun a ha b hb=>?_⟩
  have:b = [k,n]:=by simpa [cJ] using hb
  rw[this];intro z;exact Rn (z ▸ ha)
structure lG (H:Hp) (b:Addr) (kvs:List (List Key×V)) (aO:Bk) (ks ns:List Str):Prop where
 hb:H b=some (.dT kvs)
 dv:c9 H kvs aO
 ok:kj aO
 sub:∀q∈aO,q.1∈ks/\q.2.1∈ns
structure l8 (H:Hp) (l:Addr) (ys:List Str):Prop where
 hl:H l=some (.lst (ys.map V.str))
 ne:ys ≠ []
 cg:ys.length<=20
 nm:∀y∈ys,Nm y
theorem l8.iB {ys:List Str} (h:l8 H l ys) (pk:cf p H) (pa:aT p H H'):l8 H' l ys:=⟨pa.kp _ _ h.hl (ju pk h.hl),h.ne,h.cg,h.nm⟩
theorem lG.iB {kvs:List (List Key×V)}{aO:Bk} (h:lG H b kvs aO ks ns) (pk:cf p H) (pa:aT p H H'):lG H' b kvs aO ks ns:=by
 obtain⟨x,y,e0,_⟩:=id pk;exact⟨pa.kp _ _ h.hb (eI h.hb e0 (by intro z;cases z)),h.dv.keep (n8 pk pa) h.ok.ent,h.ok,h.sub⟩
theorem lG.same {kvs:List (List Key×V)}{aO:Bk} (h:lG H b kvs aO ks ns) (S:aw H H'):lG H' b kvs aO ks ns:=⟨S _ _ h.hb,h.dv.same S,h.ok,h.sub⟩
theorem Qr {i:Int} (h0:0<=i) (h1:i < 3):∃v:Int,eQ [V.int 4,.int 13,.int 49] i=some (.int v)/\0 < v/\v<=49:=by
 obtain⟨n,rfl⟩:=eP h0
 match n,h1 with
 |0,_=>exact⟨4,bQ rfl,by decide,by decide⟩
 |1,_=>exact⟨13,bQ rfl,by decide,by decide⟩
 |2,_=>exact⟨49,bQ rfl,by decide,by decide⟩
 |n+3,h=>exact absurd h (by omega)
@[irreducible] def qu:Sp:=fun vs H Q _=>∃ (p lk ln:Addr) (ks ns:List Str),vs = [.ref p,.ref lk,.ref ln]/\cf p H/\l8 H lk ks/\l8 H ln ns /\
 ∀ (d:Addr) (kvs:List (List Key×V)) (aO:Bk) (H':Hp),H d=none->aT p H H'->lG H' d kvs aO ks ns->Q (.ref d) H'
theorem Ro {lk ln:Addr}{E:XK} (pk:cf p H) (nk:l8 H lk ks) (nn:l8 H ln ns)
  (q:∀ (d:Addr) (kvs:List (List Key×V)) (aO:Bk) (H':Hp),H d=none->aT p H H'->lG H' d kvs aO ks ns->Q (.ref d) H'):qu [.ref p,.ref lk,.ref ln] H Q E:=by
 unfold qu;exact⟨p,lk,ln,ks,ns,rfl,pk,nk,nn,q⟩
abbrev wU:List Str:= ["_law_pot_here","_law_kinds","_law_names_here"]
abbrev Uo:List Str:= ["_law_pot_here","_law_kinds","_law_names_here","_law_book_here","_law_many","_law_turn","_law_kind","_law_at"]
theorem qv:b6 Uo wU (aX Be):=⟨rfl,rfl,rfl,by decide +kernel,rfl,by decide +kernel,by decide +kernel⟩
theorem Rp (F:bg K "_law_book" "_law_book" Be f fd) (B:cQ mg)
  (GD:aB P w K mg base aC 1 fD dD ["_law_pot_here","_law_many"] gA) (kD:keepIn K (.ref fD)=true) (bD:Binds K dD ["_law_pot_here","_law_many"] []) (mD:mg "_law_digit" = some (.ref fD))
  (GE:aB P w K mg base aC 4 fE dE ["_law_pot_here","_law_names_here","_law_at"] oq) (kE:keepIn K (.ref fE)=true) (bE:Binds K dE ["_law_pot_here","_law_names_here","_law_at"] []) (mE:mg "_law_entry" = some (.ref fE)):aB P w K mg base aC 5 f fd wU qu:=by
 refine F.ok qv (fun vs H Q E h=>?_) (fun aR A outer s H vs Q E hr h=>?_)
 ·unfold qu at h;obtain⟨p,lk,ln,ks,ns,rfl,_⟩:=h;rfl
 ·unfold qu at h
  obtain⟨p,lk,ln,ks,ns,rfl,pk,nk,nn,q⟩:=h;have hu:=hr.units;have i5:=y9 (za (show 1<=64 by decide) _) hu
  have kY:bf 4 _:=hr;have aU:bf 1 _:=kY.mono (by decide)
  refine⟨_,au (bj (i:=3) qv.nd rfl (Or.inl rfl) PK)
   (au (bj (i:=4) qv.nd rfl (Or.inl rfl) (aF GD aU rfl mD kD bD .nil aG (aa (pv 0) (aa (aM cq (cN (aa ah (aa ah (aa ah ae)))) (aF GD aU rfl mD kD bD .nil aG (aa (pv 0) (aa ah ae))) (fun _ _=>rfl)) ae))))
   (au (jx jW rfl (jX rfl B.range (aa (pv 4) ae)) (cb (i:=5) qv.nd rfl (Or.inl rfl))
    (au (bj (i:=6) qv.nd rfl (Or.inl rfl) (aM cq (pv 1) (aF GD aU rfl mD kD bD .nil aG (aa (pv 0) (aa (aP cH rfl B.len cA (aa (pv 1) ae)) ae))) (fun _ _=>rfl)))
    (au (bj (i:=7) qv.nd rfl (Or.inl rfl) (aF GD aU rfl mD kD bD .nil aG (aa (pv 0) (aa (aP cH rfl B.len cA (aa (pv 2) ae)) ae))))
    (aE (Af i5 (pv 3) (eo (aa (pv 6) (aa (aM cq (pv 2) (pv 7) (fun _ _=>rfl)) ae))) (aF GE kY rfl mE kE bE .nil aG (aa (pv 0) (aa (pv 2) (aa (pv 7) ae)))) rfl)))))
   (aE (aY (pv 3))))),?_⟩
  have kl:0 < ks.length:=pU.mpr nk.ne;have nl:0 < ns.length:=pU.mpr nn.ne;have k20:=nk.cg;have X':=nn.cg;intro d hd;have CL:p≠d:=pk.ne hd;have P0:=(aT.refl pk).new (o:= .dT []) hd;have js:upd H d (.dT []) d=some (.dT []):=af;generalize upd H d (.dT [])=H0 at P0 js ⊢;have x5:d≠p:=bb CL;refine⟨_,rfl,by show 3<=sizeLine;rw[aA];decide,fun c hc=>?_⟩
  have P1:=P0.new (o:= .lst [V.int 4,.int 13,.int 49]) hc;have nD:upd H0 c (.lst [V.int 4,.int 13,.int 49]) c=some (.lst [V.int 4,.int 13,.int 49]):=af;have pC:upd H0 c (.lst [V.int 4,.int 13,.int 49]) d=some (.dT []):=by rw[ak (a7 js hc)];exact js
  have Ya:c≠p:=bb (P0.ok.ne hc);generalize upd H0 c (.lst [V.int 4,.int 13,.int 49])=H1 at P1 nD pC ⊢;refine⟨_,rfl,cj (p:=p) (m:=3) P1.ok (by decide) (by decide) fun i3 H2 a0 a1 p2=>?_⟩
  obtain⟨v,hv,v0,v1⟩:=Qr a0 a1;refine⟨c,_,i3,.int v,rfl,rfl,ag.of (p2.kp _ _ nD Ya),hv,?_⟩;have P2:=P1.trans p2;refine cj (p:=p) (m:=v) P2.ok v0 (by omega) fun mn H3 b0 b1 p3=>?_
  have P3:=P2.trans p3;have Yb:H3 d=some (.dT []):=p3.kp _ _ (p2.kp _ _ pC x5) x5;obtain⟨M,rfl⟩:=eP b0;refine⟨_,rfl,(M:Int),rfl,by omega,by omega,pZ (fun i σ H4=>∃ (kvs:List (List Key×V)) (aO:Bk) (v5 v6 v7:Option V),σ = [some (.ref p),some (.ref lk),some (.ref ln),some (.ref d),some (.int M),v5,v6,v7]/\aT p H H4/\lG H4 d kvs aO ks ns/\aO.length<=i)
   ⟨[],[],none,none,none,rfl,P3,⟨Yb,.nil,⟨fun q hq=>(by cases hq),fun q hq=>(by cases hq),yQ,aN _⟩,fun q hq=>(by cases hq)⟩,ay _⟩ ?_ ?_⟩
  ·rintro i σ H4 hi ⟨kvs,aO,v5,v6,v7,rfl,P4,D4,dl⟩
   have eW:i < M:=by simpa using hi
   have Yc:=nk.iB pk P4;have nn4:=nn.iB pk P4;refine⟨_,rfl,_,rfl,_,rfl,lk,_,rfl,.inl (ag.of Yc.hl),?_⟩;rw[ar];refine cj (p:=p) (m:=(ks.length:Int)) P4.ok (by omega) (by omega) fun dk H5 c0 c1 p5=>?_
   have P5:=P4.trans p5;obtain⟨jk,rfl⟩:=eP c0;have Lr:jk < ks.length:=by omega
   refine⟨lk,_,(jk:Int),.str ks[jk],rfl,rfl,ag.of (nk.iB pk P5).hl,bQ (by rw[cU,aQ Lr];rfl),?_⟩
   have o8:ks[jk]∈ks:=fV Lr;generalize ks[jk]=k at o8 ⊢;refine⟨_,rfl,_,rfl,ln,_,rfl,.inl (ag.of (nn.iB pk P5).hl),?_⟩;rw[ar];refine cj (p:=p) (m:=(ns.length:Int)) P5.ok (by omega) (by omega) fun dn H6 e0 e1 p6=>?_
   have P6:=P5.trans p6;obtain⟨jn,rfl⟩:=eP e0;have Ls:jn < ns.length:=by omega
   have Yd:=nn.iB pk P6;refine⟨_,rfl,_,rfl,_,rfl,Ig (p:=p) (k:=jn) P6.ok Yd.hl nn.ne X' nn.nm fun ve dd H7 p7 r7 en=>?_⟩;have P7:=P6.trans p7;have D7:=((D4.iB P4.ok p5).iB P5.ok p6).iB P6.ok p7;have nA:ns[jn]∈ns:=fV Ls;refine⟨_,rfl,_,rfl,_,rfl,_,rfl,ln,_,(jn:Int),.str ns[jn],rfl,rfl,ag.of (nn.iB pk P7).hl,bQ (by rw[cU,aQ Ls];rfl),by show 2<=sizeLine;rw[aA];decide,fun kt i8=>?_⟩
   generalize ns[jn]=n at nA i8 ⊢;have S8:=aI (o:= .tup [V.str k,V.str n]) i8;have P8:=P7.new (o:= .tup [V.str k,V.str n]) i8;have va:upd H7 kt (.tup [V.str k,V.str n]) kt=some (.tup (([Sum.inr k,Sum.inr n]:List Key).map kV)):=af;have D8:=D7.same S8;have r8:=r7.same S8;generalize upd H7 kt (.tup [V.str k,V.str n])=H8 at S8 P8 va D8 r8 ⊢;have kvl:=D8.dv.length;refine⟨d,_,rfl,lL.t (k:= [Sum.inr k,Sum.inr n]) D8.hb va (by rw[aA];omega),?_⟩
   have up:∀b xs,H8 b=some (.tup xs)->upd H8 d (.dT (putK kvs [Sum.inr k,Sum.inr n] ve)) b=some (.tup xs):=fun b xs e=>by rw[ak (eI e D8.hb (by intro z;cases z))];exact e
   obtain⟨xg,Ye,Dg⟩:=(D8.dv.keep up D8.ok.ent).put (k:=k) (n:=n) (v:=ve) (d:=dd) D8.ok.nd (en.keep r8 up);have wl:(i7 aO k n).length<=i:=cL (pT _ _) dl;have nH:=SM D8.ok (nk.nm k o8) (nn.nm n nA) en (by omega)
   refine⟨_,xg,_,_,_,rfl,P8.write hd CL,⟨af,Ye,Hn Dg nH,fun z hz=>?_⟩,by rw[Dg.length_eq,eO,yJ];omega⟩
   rcases e9.mp (Dg.mem_iff.mp hz) with y|y
   ·exact D8.sub z (jQ.mp y).1
   ·rw[gy.mp y];exact⟨o8,nA⟩
  ·rintro σ H4 ⟨kvs,aO,v5,v6,v7,rfl,P4,D4,dl⟩
   exact⟨_,rfl,q d kvs aO H4 hd P4 D4⟩
def gX (ks:List Str):PyData->Bool|.str x=>dr x && decide (x∈ks)|_=>false
def dY (ks:List Str):PyData->Bool
 |.tuple [a,b,c]=>gX ks a && (cO b && dh c)
 |_=>false
theorem Rq {d:PyData} (h:cO d=false):gX ks d=false:=by
 cases d with
 |str x=>show(dr x && _)=false;rw[show dr x=false from h];rfl
 |_=>rfl
theorem Gm {d:PyData} (h:cO d=true):∃x,d = .str x/\dr x=true:=by
 cases d with
 |str x=>exact⟨x,rfl,h⟩
 |_=>cases h
theorem Fu:∀ (kvs:List (Str×V)) (x:Str),(ck (mX kvs) (Sum.inr x)).isSome=decide (x∈kvs.map (·.1))
 |[],x=>by simp[mX,ck]
 |p::kvs,x=>by
  show(ck ((Sum.inr p.1,p.2)::mX kvs) (Sum.inr x)).isSome=_
  by_cases e:p.1=x
  ·rw[iF (by rw[e])];simp[e]
  ·rw[ij (fun z=>e (si z)),Fu kvs x]
   simp[bx,bb e]
def FK (H:Hp) (t:Addr) (ks:List Str):Prop:= ∃ws kvs,H t=some (.tup ws)/\ik H ws kvs/\kvs.map (·.1)=ks/\ks.Nodup
theorem FK.same {t:Addr} (h:FK H t ks) (S:aw H H'):FK H' t ks:=let ⟨ws,kvs,a,b,c⟩:=h;⟨ws,kvs,S _ _ a,b.same S,c⟩
@[irreducible] def qY:Sp:=fun vs H Q _=>∃ (p t:Addr) (ks:List Str) (v:V) (d:PyData),vs = [.ref t,v]/\FK H t ks/\Dt p H v d/\Sm d /\ ∀H',aw H H'->Q (.bl (gX ks d)) H'
theorem Up {t:Addr}{d:PyData}{E:XK} (ht:FK H t ks) (r:Dt p H v d) (hb:Sm d) (q:∀H',aw H H'->Q (.bl (gX ks d)) H'):qY [.ref t,v] H Q E:=by unfold qY;exact⟨p,t,ks,v,d,rfl,ht,r,hb,q⟩
theorem Uq {Lu:FuncData} (F:bg K "is_kind" "is_kind" Ar f fd) (B2:eF mg) (GN:aB P w K mg base aC 1 fN Lu ["thing"] gQ) (kN:keepIn K (.ref fN)=true) (bN:Binds K Lu ["thing"] []) (mN:mg "is_name" = some (.ref fN)):aB P w K mg base aC 2 f fd ["family","thing"] qY:=by
 refine F.ok R4 (fun vs H Q E h=>?_) (fun aR A outer s H vs Q E hr h=>?_)
 ·unfold qY at h;obtain⟨p,t,ks,v,d,rfl,_⟩:=h;rfl
 ·unfold qY at h
  obtain⟨p,t,ks,v,d,rfl,⟨ws,kvs,ht,hp,rfl,nd⟩,r,hb,q⟩:=h;have hu:=hr.units;refine⟨_,aE (aY (eT (aF GN hr rfl mN kN bN .nil aG (aa (pv 1) ae)) (gR (RA (RQ (Vh hu) (pv 1) (fo (Oz rfl) rfl B2.dict boot_dict (aa (pv 0) ae))))))),?_⟩;refine⟨_,rfl,nW r hb.str fun H1 S1=>⟨cO d,rfl,?_⟩⟩;cases hn:cO d with
  |false=>have q1:=q _ S1;rw[Rq hn]at q1;exact q1
  |true =>
   obtain⟨x,rfl,hx⟩:=Gm hn;obtain rfl:=mY r;refine⟨_,rfl,_,rfl,t,ws,kvs,rfl,S1 _ _ ht,hp.same S1,nd,fun d hd=>⟨d,_,rfl,lK.k (k:=Sum.inr x) af,?_⟩⟩;have q1:=q _ (S1.trans (aI (o:= .dK (mX kvs)) hd));rw[show gX (kvs.map (·.1)) (.str x)=decide (x∈kvs.map (·.1)) by show(dr x && _)=_;rw[hx];rfl]at q1
   rw[Fu];exact q1
@[irreducible] def qZ:Sp:=fun vs H Q _=>∃ (p t:Addr) (ks:List Str) (v:V) (d:PyData),vs = [.ref t,v]/\FK H t ks/\Dt p H v d/\Sm d /\ ∀H',aw H H'->Q (.bl (dY ks d)) H'
theorem Ur {t:Addr}{d:PyData}{E:XK} (ht:FK H t ks) (r:Dt p H v d) (hb:Sm d) (q:∀H',aw H H'->Q (.bl (dY ks d)) H'):qZ [.ref t,v] H Q E:=by unfold qZ;exact⟨p,t,ks,v,d,rfl,ht,r,hb,q⟩
theorem VH:b6 ["family","thing"] ["family","thing"] (aX zD):=qD (by decide +kernel)
theorem Ho {d:PyData} (h:bp "tuple" d=false):dY ks d=false:=by cases d <;> first|rfl|cases h
theorem Gn {ds:List PyData} (h:ds.length≠3):dY ks (.tuple ds)=false:=by
 match ds,h with
 |[],_=>rfl
 |[_],_=>rfl
 |[_,_],_=>rfl
 |[_,_,_],h=>exact absurd rfl h
 |_::_::_::_::_,_=>rfl
theorem Us {fK:Addr}{dK:FuncData} (F:bg K "is_triple" "is_triple" zD f fd) (B:cQ mg) (B2:eF mg)
  (GK:aB P w K mg base aC 2 fK dK ["family","thing"] qY) (kK:keepIn K (.ref fK)=true) (bK:Binds K dK ["family","thing"] []) (mK:mg "is_kind" = some (.ref fK))
  (GN:aB P w K mg base aC 1 fN dN ["thing"] gQ) (kN:keepIn K (.ref fN)=true) (bN:Binds K dN ["thing"] []) (mN:mg "is_name" = some (.ref fN))
  (GE:aB P w K mg base aC 4 fE dE ["thing"] j8) (kE:keepIn K (.ref fE)=true) (bE:Binds K dE ["thing"] []) (mE:mg "is_entry" = some (.ref fE)):aB P w K mg base aC 5 f fd ["family","thing"] qZ:=by
 refine F.ok VH (fun vs H Q E h=>?_) (fun aR A outer s H vs Q E hr h=>?_)
 ·unfold qZ at h;obtain⟨p,t,ks,v,d,rfl,_⟩:=h;rfl
 ·unfold qZ at h
  obtain⟨p,t,ks,v,d,rfl,ht,r,hb,q⟩:=h;have kY:bf 4 _:=hr;have eY:bf 2 _:=kY.mono (by decide)
  have aU:bf 1 _:=kY.mono (by decide)
  refine⟨_,au (bz (PW.pt (pw_or (ff (dQ (aP eh rfl B2.dH dj (aa (pv 1) (aa (c7 (v:= .ty "tuple") rfl B.tuple boot_tuple rfl) ae)))))
    (pw_or1 (bh oh (aP cH rfl B.len cA (aa (pv 1) ae)) ah (a8 _))))) (aE (aY gn)) bH)
   (aE (aY (eT (aF GK eY rfl mK kK bK .nil aG (aa (pv 0) (aa (aM bU (pv 1) ah (fun _ _=>rfl)) ae))) (eT (aF GN aU rfl mN kN bN .nil aG (aa (aM bU (pv 1) ah (fun _ _=>rfl)) ae)) (gR (aF GE kY rfl mE kE bE .nil aG (aa (aM bU (pv 1) ah (fun _ _=>rfl)) ae))))))),?_⟩
  refine⟨_,rfl,dU kit_tuple r ⟨_,rfl,?_⟩⟩;have q0:=q _ (aw.refl _);cases eG:bp "tuple" d with
  |false=>rw[Ho eG]at q0;exact q0
  |true =>
   obtain⟨ds,rfl⟩:=is_tup eG;obtain⟨a,vs,rfl,na,ha,rs⟩:=gV r;have hl:=rs.length;refine⟨_,rfl,a,_,rfl,.inr (ao.of ha),rfl,_,rfl,?_⟩
   by_cases h3:ds.length=3
   ·obtain⟨x,y,z,rfl⟩:∃x y z,ds = [x,y,z]:=by match ds,h3 with | [x,y,z],_=>exact⟨x,y,z,rfl⟩
    obtain⟨u1,w1,rfl,r1,r3⟩:=df rs;obtain⟨u2,w2,rfl,r4,r5⟩:=df r3;obtain⟨u3,w3,rfl,r6,r7⟩:=df r5;obtain rfl:=j6 r7;have sm:=hb.tup;refine⟨_,rfl,_,rfl,a,_,0,_,rfl,rfl,ao.of ha,fh,Up ht r1 (sm _ aZ) fun H1 S1=>⟨_,rfl,?_⟩⟩;have q1:=q _ S1;rw[show dY ks (.tuple [x,y,z])=(gX ks x && (cO y && dh z)) from rfl]at q1;cases hk:gX ks x with
    |false=>rw[hk]at q1;exact q1
    |true =>
     refine⟨_,rfl,a,_,1,_,rfl,rfl,ao.of (S1 _ _ ha),fG,nW (Dt.same r4 S1) (sm y (by simp)).str fun H2 S2=>⟨_,rfl,?_⟩⟩
     have yl:=S1.trans S2;have q2:=q _ yl;rw[show dY ks (.tuple [x,y,z])=(gX ks x && (cO y && dh z)) from rfl,hk]at q2;cases hn:cO y with
     |false=>rw[hn]at q2;exact q2
     |true =>
      refine⟨_,rfl,a,_,2,_,rfl,rfl,ao.of (yl _ _ ha),xb,Hf (Dt.same r6 yl) (sm z (by simp)) fun H3 S3=>?_⟩
      have q3:=q _ (yl.trans S3);rw[show dY ks (.tuple [x,y,z])=(gX ks x && (cO y && dh z)) from rfl,hk,hn]at q3;exact q3
   ·rw[Gn h3]at q0
    have:decide (V.int ((vs.length:Nat):Int)=V.int 3)=false:=cm fun e=>h3 (by injection e with e;omega)
    show(if (!decide (V.int ((vs.length:Nat):Int)=V.int 3))=true then _ else _);rw[this];exact q0
theorem boot_set:bootBuiltins "set" = some (.type "set"):=by decide +kernel
def jh (aJ:List (List Str)):Bool:=decide (aJ.Pairwise fun a b=>de a b=true)
theorem wI (h:aJ.Pairwise fun a b=>de a b=true):aJ.Nodup:=h.imp fun z e=>by rw[e,z8]at z;cases z
theorem Gp {a b:List (List Str)} (la:∀x∈a,x.length=m) (lb:∀x∈b,x.length=m) (ha:a.Pairwise fun a b=>de a b=true) (hb:b.Pairwise fun a b=>de a b=true) (p:a.Perm b):a=b:=by
 refine List.Perm.eq_of_pairwise (fun x y _ _ h1 h2=>?_) ha hb p;have:=wu (a:=x) (b:=y) (c:=x) (by rw[la x (by assumption),lb y (by assumption)]) (by rw[la x (by assumption),lb y (by assumption)]) h1 h2
 rw[z8]at this;cases this
def eZ (k:List Str):PyData:= .tuple (k.map PyData.str)
theorem AE:∀xs ys:List (List Str),PyData.eqvAll (xs.map eZ) (ys.map eZ)=decide (xs=ys)
 |[],[]=>rfl
 |[],_::_=>rfl
 |_::_,[]=>rfl
 |x::xs,y::ys=>by
  show(PyData.eqv (eZ x) (eZ y) && PyData.eqvAll (xs.map eZ) (ys.map eZ))=_;rw[AE xs ys,show PyData.eqv (eZ x) (eZ y)=PyData.eqvAll (x.map PyData.str) (y.map PyData.str) from rfl,Gh,<-Bool.decide_and];exact lj.mpr ⟨fun⟨a,b⟩=>by rw[a,b],fun e=>by injection e with a b;exact⟨a,b⟩⟩
theorem Fv (H:Hp):∀ks:List Str,b7 H (ks.map V.str) (ks.map PyData.str)
 |[]=>.nil
 |k::ks=>.cons (.str k) (Fv H ks)
theorem sQ {H:Hp}{m:Nat}:∀ {ys:List V}{aJ:List (List Str)},eU H m ys aJ->b7 H ys (aJ.map eZ)
 |[],[],_=>.nil
 |_::_,_::_,.cons ⟨a,e,h,_⟩ t=>by rw[e];exact .cons (.tup (by rw[h,k7]) (Fv H _)) (sQ t)
theorem nU (h:eU H m ys aJ) (S:aw H H'):eU H' m ys aJ:=gU.same h S
theorem wc (h:eU H m ys aJ):∀x∈aJ,x.length=m:=fun x hx=>by
 obtain⟨i,hi,e⟩:=Nd.mp hx;obtain⟨ks,a,h1,_,_,h4⟩:=eU.at h (i:=i) (by rw[h.length];exact hi)
 rw[aQ hi,e]at h1;cases h1;exact h4
theorem Gq:∀k:List Str,PyData.depthAll (k.map PyData.str)=0
 |[]=>rfl
 |x::k=>by show max 0 (PyData.depthAll (k.map PyData.str))=0;rw[Gq k];rfl
theorem AF:∀aJ:List (List Str),PyData.depthAll (aJ.map eZ)<=1
 |[]=>aN _
 |k::aJ=>by
  show max (PyData.depthAll (k.map PyData.str)+1) (PyData.depthAll (aJ.map eZ))<=1;have:=AF aJ;rw[Gq];omega
theorem sX:∀ {aJ:List (List Str)},(∀k∈aJ,∀x∈k,Nm x)->PyData.canLayAll0 (aJ.map eZ)=true
 |[],_=>rfl
 |k::aJ,h=>by
  show(PyData.canLay0 (.tuple (k.map PyData.str)) && PyData.canLayAll0 (aJ.map eZ))=true;rw[sX fun k' hk=>h k' (a9 _ hk),pV];exact vU (h k aZ)
theorem Fw (h:eU H m ys aJ) (k:∀b xs,H b=some (.tup xs)->H' b=some (.tup xs)):eU H' m ys aJ:=Paired.imp' (fun _ _ ⟨a,e,q,l⟩=>⟨a,e,k _ _ q,l⟩) h
theorem zI {H:Hp}{m:Nat}{a:Addr}{k:List Str} (ha:H a=some (.tup (k.map V.str))) (hk:k.length=m):∀ {ys:List V}{aJ:List (List Str)},eU H m ys aJ->eU H m (ys ++ [.ref a]) (aJ ++ [k])
 |[],[],_=>.cons ⟨a,rfl,by rw[k7];exact ha,hk⟩ .nil
 |_::_,_::_,.cons r t=>.cons r (zI ha hk t)
@[irreducible] def qw:Sp:=fun vs H Q _=>∃ (l:Addr) (ys:List V) (aJ:List (List Str)),vs = [.ref l]/\H l=some (.lst ys)/\eU H 2 ys aJ/\(∀k∈aJ,∀x∈k,Nm x)/\ys.length<=63 /\ ∀H',aw H H'->Q (.bl (jh aJ)) H'
theorem Rr {E:XK} (hl:H l=some (.lst ys)) (tv:eU H 2 ys aJ) (nm:∀k∈aJ,∀x∈k,Nm x) (lW:ys.length<=63) (q:∀H',aw H H'->Q (.bl (jh aJ)) H'):qw [.ref l] H Q E:=by unfold qw;exact⟨l,ys,aJ,rfl,hl,tv,nm,lW,q⟩
theorem SN:b6 ["names"] ["names"] (aX Ao):=qD (by decide +kernel)
theorem Rt (F:bg K "are_rising" "are_rising" Ao f fd) (B2:eF mg) (bs:mg "set" = none):aB P w K mg base aC 1 f fd ["names"] qw:=by
 refine F.ok SN (fun vs H Q E h=>?_) (fun aR A outer s H vs Q E hr h=>?_)
 ·unfold qw at h;obtain⟨l,ys,aJ,rfl,_⟩:=h;rfl
 ·unfold qw at h
  obtain⟨l,ys,aJ,rfl,hl,tv,nm,lW,q⟩:=h;have hu:=hr.units;refine⟨_,aE (aY (fZ (wq hu) (pv 0) (aP (Ny rfl) rfl B2.sorted boot_sorted (aa (fo (Fg hu rfl) rfl bs boot_set (aa (pv 0) ae)) ae)) (a8 _))),?_⟩;refine⟨_,rfl,_,rfl,l,ys,aJ,2,rfl,.inl (ag.of hl),tv,by decide,lW,fun a xs ha nd mem al=>?_⟩
  have S0:=aI (o:=m5 P w a xs) ha;refine⟨a,xs,2,rfl,af,fun p hp=>⟨S0 _ _ (al p hp).1,(al p hp).2⟩,by decide,fun D bG iN hD vb pk gv=>?_⟩
  have S1:=S0.trans (aI (o:= .lst bG) hD);have Dh:∀k∈iN,∀x∈k,Nm x:=fun k hk=>nm k ((mem k).mp (pk.mem_iff.mp hk));refine⟨.list (aJ.map eZ),.list (iN.map eZ),.lst (S1 _ _ hl) (sQ (nU tv S1)),.lst af (sQ (nU vb (aI hD))),sX nm,sX Dh,by have:=AF aJ;show PyData.depthAll _+1<=60;omega,?_⟩
  have e:PyData.eqv (.list (aJ.map eZ)) (.list (iN.map eZ))=jh aJ:=by
   show PyData.eqvAll _ _=_;rw[AE];unfold jh;refine lj.mpr ⟨fun e=>by rw[e];exact gv,fun h=>?_⟩
   refine Gp (wc tv) (wc vb) h gv ?_;exact((Nf (wI h) (wI gv)).mpr fun k=>(mem k).symm.trans pk.mem_iff.symm)
  rw[e];exact q _ S1
def ji:PyData->List Str
 |.tuple [.str a,.str b,_]=>[a,b]
 |_=>[]
def iJ (ks:List Str):PyData->Bool
 |.tuple ds=>ds.all (dY ks) && jh (ds.map ji)
 |_=>false
theorem Hq {d:PyData} (h:bp "tuple" d=false):iJ ks d=false:=by cases d <;> first|rfl|cases h
theorem Hr (h:dr x=true):Nm x:=by
 unfold eM.dr at h;simp only[eS,ig,i9]at h;exact⟨h.1,h.2.1,fun c hc=>h.2.2 c hc⟩
theorem vK {d:PyData} (h:dY ks d=true):∃a b c,d = .tuple [.str a,.str b,c]/\a∈ks/\Nm a/\Nm b:=by
 match d,h with
 |.tuple [a,b,c],h =>
  have h':(gX ks a && (cO b && dh c))=true:=h;simp only[eS]at h';obtain⟨h1,h2,h3⟩:=h';obtain⟨y,rfl,hy⟩:=Gm h2;cases a with
  |str x =>
   have uN:(dr x && decide (x∈ks))=true:=h1;simp only[eS,ig]at uN;exact⟨x,y,c,rfl,uN.2,Hr uN.1,Hr hy⟩
  |_=>cases h1
@[irreducible] def qJ:Sp:=fun vs H Q _=>∃ (p t:Addr) (ks:List Str) (v:V) (d:PyData),vs = [.ref t,v]/\FK H t ks/\Dt p H v d/\Sm d/\kl d<=63 /\ ∀H',aw H H'->Q (.bl (iJ ks d)) H'
theorem SO {t:Addr}{d:PyData}{E:XK} (ht:FK H t ks) (r:Dt p H v d) (hb:Sm d) (hk:kl d<=63) (q:∀H',aw H H'->Q (.bl (iJ ks d)) H'):qJ [.ref t,v] H Q E:=by unfold qJ;exact⟨p,t,ks,v,d,rfl,ht,r,hb,hk,q⟩
theorem Ut:b6 ["family","thing"] ["family","thing"] (aX nZ):=qD (by decide +kernel)
def SQ (s:Stmt):Expr:=match s with|.If t _ _ _=>t|_=>.Constant .none 0 ⟨0,0,0,0⟩
abbrev VI:Expr:=f' (JD (IL (SQ (cS (cR nZ) 0)) 1))
abbrev VJ:Expr:=f' (oF (cS (cR nZ) 1))
theorem IT:cM ["family","thing"] (aX nZ) ["triple","family"] [none,some 0] (dX VI):=tR (by decide +kernel)
theorem wW:cM ["family","thing"] (aX nZ) ["kind","name","entry"] [none,none,none] (dX VJ):=tR (by decide +kernel)
theorem SR {fR:Addr}{dR:FuncData} (F:bg K "is_book" "is_book" nZ f fd) (B:cQ mg) (B2:eF mg)
  (GT:aB P w K mg base aC 5 fT dT ["family","thing"] qZ) (kT:keepIn K (.ref fT)=true) (bT:Binds K dT ["family","thing"] []) (mT:mg "is_triple" = some (.ref fT))
  (GR:aB P w K mg base aC 1 fR dR ["names"] qw) (kR:keepIn K (.ref fR)=true) (bR:Binds K dR ["names"] []) (mR:mg "are_rising" = some (.ref fR)):aB P w K mg base aC 6 f fd ["family","thing"] qJ:=by
 refine F.ok Ut (fun vs H Q E h=>?_) (fun aR A outer s H vs Q E hr h=>?_)
 ·unfold qJ at h;obtain⟨p,t,ks,v,d,rfl,_⟩:=h;rfl
 ·unfold qJ at h
  obtain⟨p,t,ks,v,d,rfl,ht,r,hb,hk,q⟩:=h;have ym:bf 5 _:=hr;have aU:bf 1 _:=ym.mono (by decide)
  refine⟨_,au (bz (PW.pt (pw_or (ff (dQ (aP eh rfl B2.dH dj (aa (pv 1) (aa (c7 (v:= .ty "tuple") rfl B.tuple boot_tuple rfl) ae)))))
    (pw_or1 (ff (dQ (aP (sH rfl) rfl B.all boot_all (aa (fe rfl IT (mV (pv 1)) (fun s H fp=>⟨cb (i:=0) IT.nd rfl (Or.inl rfl),fq,aF GT ym rfl mT kT bT .nil aG (aa (pv 1) (aa (pv 0) ae))⟩)) ae))))))) (aE (aY gn)) bH)
   (aE (aY (aF GR aU rfl mR kR bR .nil aG (aa (fe rfl wW (mV (pv 1)) (fun s H fp=>⟨Gk (n:=3) K rfl rfl (sN (cb (i:=0) wW.nd rfl (Or.inl rfl)) (sN (cb (i:=1) wW.nd rfl (Or.inl rfl)) (sN (cb (i:=2) wW.nd rfl (Or.inl rfl)) Gw))),fq,eo (aa (pv 0) (aa (pv 1) ae))⟩)) ae)))),?_⟩
  refine⟨_,rfl,dU kit_tuple r ⟨_,rfl,?_⟩⟩;have q0:=q _ (aw.refl _);cases eG:bp "tuple" d with
  |false=>rw[Hq eG]at q0;exact q0
  |true =>
   obtain⟨ds,rfl⟩:=is_tup eG;obtain⟨a,vs,rfl,na,ha,rs⟩:=gV r;have hl:=rs.length;have hV:ds.length<=63:=hk;refine⟨_,rfl,a,rfl,⟨_,ao.of ha⟩,fun c hc=>?_⟩;refine z0 (g:=dY ks) ha rs hc (by omega) (fun v d H1 Q1 hd S1 rd q1=>⟨_,rfl,_,rfl,Ur (ht.same S1) rd (hb.tup d hd) q1⟩) fun H1 S1 h1=>?_
   refine⟨c,_,rfl,ag.of h1,_,rfl,?_⟩;have q1:=q _ S1;have VL:(ds.map (dY ks)).all id=ds.all (dY ks):=by rw[zb];rfl
   rw[VL];cases iL:ds.all (dY ks) with
   |false =>
    rw[show iJ ks (.tuple ds)=false by show(ds.all (dY ks) && _)=false;rw[iL];rfl]at q1
    exact q1
   |true =>
    rw[i9]at iL;have kz:=S1 _ _ ha;have Di:=aK.same rs S1;refine⟨_,rfl,a,rfl,⟨_,ao.of kz⟩,fun c2 dG=>?_⟩;refine vO (xs:=vs) (fun i ys τ H2=>∃t0 t1 t2:Option V,τ = [t0,t1,t2]/\aw H1 H2/\eU H2 2 ys ((ds.take i).map ji)/\H2 c2=some (.lst ys)) ⟨none,none,none,rfl,aI dG,.nil,af⟩ (fun i ys τ H2 ⟨_,_,_,_,z,_,z2⟩=>⟨z2,ao.of (z _ _ kz)⟩) ?_ ?_
    ·rintro i x ys τ H2 hx ⟨t0,t1,t2,rfl,S2,tv,h2⟩
     have d5:i < vs.length:=(cZ.mp hx).1;have gK:i < ds.length:=by omega
     obtain⟨v',eX,rd⟩:=Di.get (aQ gK);rw[hx]at eX;cases eX;obtain⟨k,n,en,ed,_,_,_⟩:=vK (iL _ (fV gK));rw[ed]at rd;obtain⟨b,us,rfl,_,iW,r2⟩:=gV (Dt.same rd S2);obtain⟨u1,w1,rfl,r3,r4⟩:=df r2;obtain⟨u2,w2,rfl,r5,r6⟩:=df r4;obtain⟨u3,w3,rfl,r7,r8⟩:=df r6;obtain rfl:=j6 r8;obtain rfl:=mY r3;obtain rfl:=mY r5;have tl:=tv.length;rw[ar,c4]at tl;refine⟨b,_,rfl,ao.of iW,rfl,_,_,rfl,_,_,rfl,_,_,rfl,rfl,?_⟩;refine⟨_,rfl,_,rfl,rQ,fun kt i8=>?_⟩;have Sk:=aI (o:= .tup [V.str k,V.str n]) i8;refine⟨Sk _ _ h2,by rw[aA];omega,cw_next d5 ⟨_,_,_,rfl,fun b u e=>?_,?_,af⟩⟩
     ·rw[ak (a7 e dG)];exact Sk _ _ (S2 _ _ e)
     ·have up:∀b xs,upd H2 kt (.tup [V.str k,V.str n]) b=some (.tup xs)->upd (upd H2 kt (.tup [V.str k,V.str n])) c2 (.lst (ys ++ [V.ref kt])) b=some (.tup xs):=fun b xs e=>by rw[ak (eI e (Sk _ _ h2) (by intro z;cases z))];exact e
      have e1:(ds.take (i+1)).map ji=(ds.take i).map ji ++ [[k,n]]:=by rw[fY,aQ gK,cp,ed];rfl
      rw[e1];exact zI (k:= [k,n]) (up _ _ af) rfl (Fw (nU tv Sk) up)
    ·rintro ys τ H2 ⟨t0,t1,t2,rfl,S2,tv,h2⟩
     rw[hl,fX]at tv;have ll:=tv.length;rw[ar]at ll;refine Rr h2 tv (fun k hk x hx=>?_) (by omega) fun H3 S3=>?_
     ·obtain⟨e,he,rfl⟩:=cD.mp hk
      obtain⟨k,n,en,rfl,_,n1,n2⟩:=vK (iL e he);have:x ∈ [k,n]:=hx;rcases bx.mp this with rfl|z
      ·exact n1
      ·rw[gy.mp z];exact n2
     ·have q3:=q _ ((S1.trans S2).trans S3)
      rw[show iJ ks (.tuple ds)=jh (ds.map ji) by show(ds.all (dY ks) && _)=_;rw[i9.mpr iL];rfl]at q3
      exact q3
theorem Qs (h:Nm x):dr x=true:=by
 unfold eM.dr;rw[b4 h.lo,b4 h.hi,D9,D9,i9];intro c hc;have:=h.az c hc;rw[b4 this.1,b4 this.2];rfl
theorem kind_any (nm:∀k∈ks,Nm k) (d:PyData):(ks.any fun c=>cC c d)=gX ks d:=by
 cases d with
 |str x =>
  show(ks.any fun c=>x==c)=(dr x && decide (x∈ks))
  by_cases h:x∈ks
  ·rw[b4 h,Qs (nm x h),yR.mpr ⟨x,h,yK x⟩];rfl
  ·rw[cm h,DJ,yB.mpr]
   intro c hc e;exact h (by rw[eq_of_beq e];exact hc)
 |_ =>
  rw[yB.mpr]
  ·rfl
  ·intro c _ e;cases e
theorem Oa {a b:List (List Str)} (nd:a.Nodup) (hl:b.length=a.length) (h:∀x∈a,x∈b):b.Perm a:=by
 induction a generalizing b with
 |nil=>have:b = []:=DO hl;subst this;exact ja _
 |cons x a ih =>
  rw[iE]at nd;have hx:=h x aZ;have cY:(b.erase x).length=a.length:=by rw[MF hx,hl];rfl
  exact(List.perm_cons_erase hx).trans ((ih nd.2 cY fun y hy=>(MG (show y≠x from fun e=>nd.1 (by rw[<-e];exact hy))).mpr (h y (a9 _ hy))).cons x)
theorem Ob {a b:List (List Str)} (nd:a.Nodup) (mem:∀k,k∈a ↔ k∈b) (hl:a.length=b.length):b.Nodup:=(Oa nd hl.symm fun x hx=>(mem x).mp hx).nodup_iff.mpr nd
@[irreducible] def qK:Sp:=fun vs H Q _=>∃ (p lk:Addr) (ks:List Str) (v:V) (d:PyData),vs = [.ref lk,v]/\H lk=some (.lst (ks.map V.str))/\(∀k∈ks,Nm k)/\Dt p H v d/\Sm d/\kl d<=63 /\ ∀H',aw H H'->Q (.bl (iJ ks d)) H'
theorem SS {lk:Addr}{d:PyData}{E:XK} (hl:H lk=some (.lst (ks.map V.str))) (nm:∀k∈ks,Nm k) (r:Dt p H v d) (hb:Sm d) (hk:kl d<=63) (q:∀H',aw H H'->Q (.bl (iJ ks d)) H'):qK [.ref lk,v] H Q E:=by unfold qK;exact⟨p,lk,ks,v,d,rfl,hl,nm,r,hb,hk,q⟩
abbrev JR:List Str:= ["_law_kinds","_law_thing","_law_row","_law_keys"]
theorem Bj:b6 JR ["_law_kinds","_law_thing"] (aX tI):=qD (by decide +kernel)
abbrev VM:Expr:=jD (cS (cR tI) 2)
theorem IU:cM JR (aX tI) ["_law_row"] [none] (dX VM):=tR (by decide +kernel)
theorem SW (F:bg K "_law_is_book" "_law_is_book" tI f fd) (B:cQ mg) (B2:eF mg) (bs:mg "set" = none)
  (GN:aB P w K mg base aC 1 fN dN ["_law_thing"] gQ) (kN:keepIn K (.ref fN)=true) (bN:Binds K dN ["_law_thing"] []) (mN:mg "_law_is_name" = some (.ref fN))
  (GE:aB P w K mg base aC 3 fE dE ["_law_thing"] j8) (kE:keepIn K (.ref fE)=true) (bE:Binds K dE ["_law_thing"] []) (mE:mg "_law_is_entry" = some (.ref fE)):aB P w K mg base aC 4 f fd ["_law_kinds","_law_thing"] qK:=by
 refine F.ok Bj (fun vs H Q E h=>?_) (fun aR A outer s H vs Q E hr h=>?_)
 ·unfold qK at h;obtain⟨p,lk,ks,v,d,rfl,_⟩:=h;rfl
 ·unfold qK at h
  obtain⟨p,lk,ks,v,d,rfl,C2,nm,r,hb,hk,q⟩:=h;have iC:bf 3 _:=hr;have aU:bf 1 _:=iC.mono (by decide)
  have hu:=hr.units;refine⟨_,au (bz (ff (dQ (aP eh rfl B2.dH dj (aa (pv 1) (aa (c7 (v:= .ty "tuple") rfl B.tuple boot_tuple rfl) ae))))) (aE (aY gn)) bH)
   (au (jx jW rfl (mV (pv 1)) (cb (i:=2) Bj.nd rfl (Or.inl rfl))
    (au (bz (PW.pt (pw_or (ff (dQ (aP eh rfl B2.dH dj (aa (pv 2) (aa (c7 (v:= .ty "tuple") rfl B.tuple boot_tuple rfl) ae)))))
     (pw_or (bh oh (aP cH rfl B.len cA (aa (pv 2) ae)) ah (a8 _)) (pw_or1 (bh (Fc hu) (aM bU (pv 2) ah (fun _ _=>rfl)) (pv 0) rfl))))) (aE (aY gn)) bH)
    (aE (bz (PW.pt (pw_or (ff (dQ (aF GN aU rfl mN kN bN .nil aG (aa (aM bU (pv 2) ah (fun _ _=>rfl)) ae)))) (pw_or1 (ff (dQ (aF GE iC rfl mE kE bE .nil aG (aa (aM bU (pv 2) ah (fun _ _=>rfl)) ae))))))) (aE (aY gn)) bH))))
   (au (zi (i:=3) rfl IU Bj.nd rfl rfl (mV (pv 1)) (fun s H fp=>⟨cb (i:=0) IU.nd rfl (Or.inl rfl),fq,jY Ag (pv 0) j0 (j3 ah)⟩))
   (aE (aY (eT (fZ (wq hu) (pv 3) (aP (NJ rfl) rfl B2.sorted boot_sorted (aa (pv 3) ae)) (a8 _))
    (gR (fZ eu (aP NV rfl B.len cA (aa (fo (Fg hu rfl) rfl bs boot_set (aa (pv 3) ae)) ae)) (aP cH rfl B.len cA (aa (pv 3) ae)) (a8 _)))))))),?_⟩
  refine⟨_,rfl,dU kit_tuple r ⟨_,rfl,?_⟩⟩;have q0:=q _ (aw.refl _);cases eG:bp "tuple" d with
  |false=>rw[Hq eG]at q0;exact q0
  |true =>
   obtain⟨ds,rfl⟩:=is_tup eG;obtain⟨a,vs,rfl,na,ha,rs⟩:=gV r;have hl:=rs.length;have hV:ds.length<=63:=hk;refine⟨_,rfl,a,rfl,⟨_,ao.of ha⟩,Gx (xs:=vs) (fun i σ H1=>∃v2:Option V,σ = [some (.ref lk),some (.ref a),v2,none]/\aw H H1 /\ ∀d∈ds.take i,dY ks d=true) ⟨none,rfl,aw.refl _,fun d hd=>(by cases hd)⟩ (fun i σ H1 _ ⟨_,_,z,_⟩=>ao.of (z _ _ ha)) ?_ ?_⟩
   ·rintro i x σ H1 hx ⟨v2,rfl,S1,al⟩
    have d5:i < vs.length:=(cZ.mp hx).1;have gK:i < ds.length:=by omega
    obtain⟨v',eX,rd⟩:=rs.get (aQ gK);rw[hx]at eX;cases eX;have kX:=Dt.same rd S1;have sm:=hb.tup _ (fV gK);have bad:dY ks ds[i]=false -> ∀H2,aw H1 H2->Q (.bl false) H2:=fun z H2 S2=>by
     have q1:=q _ (S1.trans S2);rw[show iJ ks (.tuple ds)=false by
      show(ds.all (dY ks) && _)=false;rw[List.all_eq_false.mpr ⟨_,fV gK,by rw[z];exact cz⟩];rfl]at q1
     exact q1
    have tk:ds.take (i+1)=ds.take i ++ [ds[i]]:=by rw[fY,aQ gK];rfl
    generalize ds[i]=c at kX sm bad tk;refine⟨_,rfl,dU kit_tuple kX ⟨_,rfl,?_⟩⟩;cases hc:bp "tuple" c with
    |false=>exact bad (Ho hc) _ (aw.refl _)
    |true =>
     obtain⟨es,rfl⟩:=is_tup hc;obtain⟨b,us,rfl,nb,iW,fU⟩:=gV kX;have cY:=fU.length;refine⟨_,rfl,b,_,rfl,.inr (ao.of iW),rfl,_,rfl,?_⟩
     by_cases h3:es.length=3
     ·have e3:decide (V.int ((us.length:Nat):Int)=V.int 3)=true:=b4 (by rw[cY,h3];rfl)
      obtain⟨x,y,z,rfl⟩:∃x y z,es = [x,y,z]:=by match es,h3 with | [x,y,z],_=>exact⟨x,y,z,rfl⟩
      obtain⟨u1,w1,rfl,r1,r3⟩:=df fU;obtain⟨u2,w2,rfl,r4,r5⟩:=df r3;obtain⟨u3,w3,rfl,r6,r7⟩:=df r5;obtain rfl:=j6 r7;have Lv:=sm.tup;refine ite_ff rfl ⟨_,rfl,b,_,0,_,rfl,rfl,ao.of iW,fh,_,rfl,p,x,lk,ks,r1,rfl,S1 _ _ C2,?_⟩;have ty:dY ks (.tuple [x,y,z])=(gX ks x && (cO y && dh z)):=rfl;refine⟨_,rfl,?_⟩;rw[kind_any nm];cases yn:gX ks x with
      |false=>exact bad (by rw[ty,yn];rfl) _ (aw.refl _)
      |true =>
       refine⟨_,rfl,b,_,1,_,rfl,rfl,ao.of iW,fG,nW r4 (Lv y (by simp)).str fun H2 S2=>⟨_,rfl,?_⟩⟩
       cases hn:cO y with
       |false=>exact bad (by rw[ty,yn,hn];rfl) _ S2
       |true =>
        refine⟨_,rfl,b,_,2,_,rfl,rfl,ao.of (S2 _ _ iW),xb,Hf (Dt.same r6 S2) (Lv z (by simp)) fun H3 S3=>⟨_,rfl,?_⟩⟩
        cases he:dh z with
        |false=>exact bad (by rw[ty,yn,hn,he];rfl) _ (S2.trans S3)
        |true =>
         refine⟨_,rfl,S1.trans (S2.trans S3),fun d hd=>?_⟩;rw[tk]at hd;rcases e9.mp hd with hd|hd
         ·exact al d hd
         ·rw[gy.mp hd,ty,yn,hn,he];rfl
     ·have:decide (V.int ((us.length:Nat):Int)=V.int 3)=false:=cm fun e=>h3 (by injection e with e;omega)
      exact ite_tt (by show(!decide (V.int ((us.length:Nat):Int)=V.int 3))=true;rw[this];rfl) (bad (Gn h3) _ (aw.refl _))
   ·rintro σ H1 ⟨v2,rfl,S1,al⟩
    rw[hl,fX]at al;have kz:=S1 _ _ ha;have Di:=aK.same rs S1;refine⟨_,rfl,a,rfl,⟨_,ao.of kz⟩,fun c2 dG=>?_⟩;refine vO (xs:=vs) (fun i ys τ H2=>∃t0:Option V,τ = [t0]/\aw H1 H2/\eU H2 2 ys ((ds.take i).map ji)/\H2 c2=some (.lst ys)) ⟨none,rfl,aI dG,.nil,af⟩ (fun i ys τ H2 ⟨_,_,z,_,z2⟩=>⟨z2,ao.of (z _ _ kz)⟩) ?_ ?_
    ·rintro i x ys τ H2 hx ⟨t0,rfl,S2,tv,h2⟩
     have d5:i < vs.length:=(cZ.mp hx).1;have gK:i < ds.length:=by omega
     obtain⟨v',eX,rd⟩:=Di.get (aQ gK);rw[hx]at eX;cases eX;obtain⟨k,n,en,ed,_,_,_⟩:=vK (al _ (fV gK));rw[ed]at rd;obtain⟨b,us,rfl,_,iW,r2⟩:=gV (Dt.same rd S2);obtain⟨u1,w1,rfl,r3,r4⟩:=df r2;obtain⟨u2,w2,rfl,r5,r6⟩:=df r4;obtain⟨u3,w3,rfl,r7,r8⟩:=df r6;obtain rfl:=j6 r8;obtain rfl:=mY r3;obtain rfl:=mY r5;have tl:=tv.length;rw[ar,c4]at tl;refine⟨_,rfl,_,rfl,b,_,rfl,iW,fun kt H3 S3 i8=>?_⟩;rw[show fu [V.str k,V.str n,u3] none (some 2) = [V.str k,V.str n] from Ip _ 2]at i8;refine⟨S3 _ _ h2,by rw[aA];omega,cw_next d5 ⟨_,rfl,fun b u e=>?_,?_,af⟩⟩
     ·rw[ak (a7 e dG)];exact S3 _ _ (S2 _ _ e)
     ·have up:∀b xs,H3 b=some (.tup xs)->upd H3 c2 (.lst (ys ++ [V.ref kt])) b=some (.tup xs):=fun b xs e=>by rw[ak (eI e (S3 _ _ h2) (by intro z;cases z))];exact e
      have e1:(ds.take (i+1)).map ji=(ds.take i).map ji ++ [[k,n]]:=by rw[fY,aQ gK,cp,ed];rfl
      rw[e1];exact zI (k:= [k,n]) (up _ _ i8) rfl (Fw (nU tv S3) up)
    ·rintro ys τ H2 ⟨t0,rfl,S2,tv,h2⟩
     rw[hl,fX]at tv;have ll:=tv.length;rw[ar]at ll;have Dj:∀k∈ds.map ji,∀x∈k,Nm x:=fun k hk x hx=>by
      obtain⟨e,he,rfl⟩:=cD.mp hk;obtain⟨k,n,en,rfl,_,n1,n2⟩:=vK (al e he);have:x ∈ [k,n]:=hx;rcases bx.mp this with rfl|z
      ·exact n1
      ·rw[gy.mp z];exact n2
     have fin:∀H3,aw H2 H3->Q (.bl (jh (ds.map ji))) H3:=fun H3 S3=>by
      have q3:=q _ ((S1.trans S2).trans S3);rw[show iJ ks (.tuple ds)=jh (ds.map ji) by show(ds.all (dY ks) && _)=_;rw[i9.mpr al];rfl]at q3
      exact q3
     generalize ds.map ji=aJ at tv ll Dj fin;refine⟨_,rfl,_,rfl,c2,ys,aJ,2,rfl,ag.of h2,tv,by decide,by omega,fun D bG iN hD vb pk gv=>?_⟩
     have S3:=aI (o:= .lst bG) hD;have Dh:∀k∈iN,∀x∈k,Nm x:=fun k hk=>Dj k (pk.mem_iff.mp hk);refine⟨.list (aJ.map eZ),.list (iN.map eZ),.lst (S3 _ _ h2) (sQ (nU tv S3)),.lst af (sQ (nU vb S3)),sX Dj,sX Dh,by have:=AF aJ;show PyData.depthAll _+1<=60;omega,_,rfl,?_⟩
     rw[show PyData.eqv (.list (aJ.map eZ)) (.list (iN.map eZ))=decide (aJ=iN) from AE _ _]
     by_cases e:aJ=iN
     ·refine ite_tt (b4 e) ?_
      refine⟨_,rfl,c2,ys,aJ,2,rfl,.inl (ag.of (S3 _ _ h2)),nU tv S3,by decide,by omega,fun a' xs Yf nd mem xS=>?_⟩
      have S4:=aI (o:=m5 P w a' xs) Yf;refine⟨a',xs,rfl,af,_,rfl,c2,_,rfl,.inl (ag.of (S4 _ _ (S3 _ _ h2))),rfl,?_⟩;have q4:=fin _ (S3.trans S4);rw[show jh aJ=decide (V.int ((xs.length:Nat):Int)=V.int ((ys.length:Nat):Int)) by
       unfold jh;refine lj.mpr ⟨fun h=>?_,fun h=>?_⟩
       ·have:=((Nf nd (wI h)).mpr mem).length_eq
        rw[ar]at this;rw[this,tv.length]
       ·have hx:xs.length=aJ.length:=by injection h with h;have:=tv.length;omega
        rw[e];refine gv ?_;refine Ob nd (fun k=>mem k) ?_;rw[ar];exact hx]at q4
      exact q4
     ·refine ite_ff (cm e) ?_
      have q4:=fin _ S3;rw[show jh aJ=false by
       unfold jh;refine cm fun h=>e ?_;exact Gp (wc tv) (wc vb) h (gv (wI h)) pk.symm]at q4
      exact q4
theorem wJ (h:Nm x):lf (.str x)=true:=Il (by simp only[i9,ig];exact fun c hc=>by have:=h.az c hc;omega)
theorem gk.gd {d:PyData} (s:gk d):Gd 20 1 d:=by
 cases s with
 |add n h=>exact⟨by simp only[lf,dM,pV,eS,ig];exact⟨by decide +kernel,h⟩,by show PyData.bulkAll [.str "add",.int n]<=20;simp only[PyData.bulkAll,PyData.bulk];exact(by decide +kernel:(("add" : Str).length+1+(0+1+0))<=20),by simp[PyData.depth,PyData.depthAll]⟩
 |times n lo hi=>exact⟨by simp only[lf,dM,pV,eS,ig];exact⟨by decide +kernel,by omega⟩,by show PyData.bulkAll [.str "times",.int n]<=20;simp only[PyData.bulkAll,PyData.bulk];exact(by decide +kernel:(("times" : Str).length+1+(0+1+0))<=20),by simp[PyData.depth,PyData.depthAll]⟩
 |wD=>exact⟨by decide +kernel,by decide +kernel,by decide +kernel⟩
 |ask x h =>
  have:x.cps.size<=8:=h.hi;have:=wJ h;refine⟨by simp only[dM,lf,pV,eS];simp only[lf]at this;exact⟨by decide +kernel,this⟩,?_,by simp[PyData.depth,PyData.depthAll]⟩
  show PyData.bulkAll [.str "ask",.str x]<=20;simp only[PyData.bulkAll,PyData.bulk];have e:("ask" : Str).cps.size=3:=by decide +kernel
  omega
theorem AG:∀ {ds:List PyData},(∀d∈ds,gk d)->dM ds=true/\PyData.bulkAll ds<=21 * ds.length/\PyData.depthAll ds<=1
 |[],_=>⟨rfl,aN _,aN _⟩
 |d::ds,h=>by
  have g:=(h d aZ).gd;obtain⟨a,b,c⟩:=AG (ds:=ds) fun e he=>h e (a9 _ he);have g1:=g.bulk;have g2:=g.dep;refine⟨by simp only[dM,g.leaf,a,yY],?_,?_⟩
  ·simp only[PyData.bulkAll,b5];omega
  ·simp only[PyData.depthAll];omega
theorem Ent.gd {d:PyData} (s:Ent d):Gd 100 3 d:=by
 cases s with
 |plain n h=>exact⟨by simp only[lf,dM,pV,eS,ig];exact⟨by decide +kernel,h⟩,by show PyData.bulkAll [.str "plain",.int n]<=100;simp only[PyData.bulkAll,PyData.bulk];exact(by decide +kernel:(("plain" : Str).length+1+(0+1+0))<=100),by simp[PyData.depth,PyData.depthAll]⟩
 |ahead x n h hn =>
  have:x.cps.size<=8:=h.hi;have:=wJ h;refine⟨by simp only[dM,lf,pV,eS,ig];simp only[lf]at this;exact⟨by decide +kernel,this,hn⟩,?_,by simp[PyData.depth,PyData.depthAll]⟩
  show PyData.bulkAll [.str "ahead",.str x,.int n]<=100;simp only[PyData.bulkAll,PyData.bulk];have e:("ahead" : Str).cps.size=5:=by decide +kernel
  omega
 |behind ds h4 hs =>
  obtain⟨a,b,c⟩:=AG hs;refine⟨by simp only[dM,lf,pV,eS];exact⟨by decide +kernel,a⟩,?_,?_⟩
  ·show PyData.bulkAll [.str "behind",.tuple ds]<=100
   simp only[PyData.bulkAll,PyData.bulk];have e:("behind" : Str).cps.size=6:=by decide +kernel
   omega
  ·simp only[PyData.depth,PyData.depthAll];omega
 |xf ds h4 hs =>
  obtain⟨a,b,c⟩:=AG hs;refine⟨by simp only[dM,lf,pV,eS];exact⟨by decide +kernel,a⟩,?_,?_⟩
  ·show PyData.bulkAll [.str "shut",.tuple ds]<=100
   simp only[PyData.bulkAll,PyData.bulk];have e:("shut" : Str).cps.size=4:=by decide +kernel
   omega
  ·simp only[PyData.depth,PyData.depthAll];omega
theorem gk.dt {d:PyData} (s:gk d) (r:Rep H v d) (np:∀b xs,H b=some (.tup xs)->b≠p):Dt p H v d:=by
 cases s with
 |add n =>
  obtain⟨a,u,rfl,ha,r1⟩:=two1 r;obtain rfl:=r1.m8;exact .tup (np _ _ ha) ha (.cons (.str _) (.cons (.int _) .nil))
 |times n =>
  obtain⟨a,u,rfl,ha,r1⟩:=two1 r;obtain rfl:=r1.m8;exact .tup (np _ _ ha) ha (.cons (.str _) (.cons (.int _) .nil))
 |ask x =>
  obtain⟨a,u,rfl,ha,r1⟩:=two1 r;obtain rfl:=r1.lO;exact .tup (np _ _ ha) ha (.cons (.str _) (.cons (.str _) .nil))
 |wD =>
  obtain⟨a,vs,rfl,ha,rs⟩:=r.tupI;obtain⟨v0,w0,rfl,r0,rs⟩:=rs.kc;obtain rfl:=rs.ue;obtain rfl:=r0.lO;exact .tup (np _ _ ha) ha (.cons (.str _) .nil)
theorem AH {p:Addr}{H:Hp} (np:∀b xs,H b=some (.tup xs)->b≠p):∀ {vs:List V}{ds:List PyData},b7 H vs ds->(∀d∈ds,gk d)->aK p H vs ds
 |_,_,.nil,_=>.nil
 |_,_,.cons r rs,h=>.cons ((h _ aZ).dt r np) (AH np rs fun d hd=>h d (a9 _ hd))
theorem Ent.dt {d:PyData} (s:Ent d) (r:Rep H v d) (np:∀b xs,H b=some (.tup xs)->b≠p):Dt p H v d:=by
 cases s with
 |plain n =>
  obtain⟨a,u,rfl,ha,r1⟩:=two1 r;obtain rfl:=r1.m8;exact .tup (np _ _ ha) ha (.cons (.str _) (.cons (.int _) .nil))
 |ahead x n =>
  obtain⟨a,vs,rfl,ha,rs⟩:=r.tupI;obtain⟨v0,w0,rfl,r0,rs⟩:=rs.kc;obtain⟨v1,w1,rfl,r1,rs⟩:=rs.kc;obtain⟨v2,w2,rfl,r2,rs⟩:=rs.kc;obtain rfl:=rs.ue;obtain rfl:=r0.lO;obtain rfl:=r1.lO;obtain rfl:=r2.m8;exact .tup (np _ _ ha) ha (.cons (.str _) (.cons (.str _) (.cons (.int _) .nil)))
 |behind ds h4 hs =>
  obtain⟨a,u,rfl,ha,r1⟩:=two1 r;obtain⟨b,vs,rfl,hb,rs⟩:=r1.tupI;exact .tup (np _ _ ha) ha (.cons (.str _) (.cons (.tup (np _ _ hb) hb (AH np rs hs)) .nil))
 |xf ds h4 hs =>
  obtain⟨a,u,rfl,ha,r1⟩:=two1 r;obtain⟨b,vs,rfl,hb,rs⟩:=r1.tupI;exact .tup (np _ _ ha) ha (.cons (.str _) (.cons (.tup (np _ _ hb) hb (AH np rs hs)) .nil))
theorem S' {p:Str×Str×PyData} (n1:Nm p.1) (n2:Nm p.2.1) (e:Ent p.2.2):lf (jP p)=true/\(jP p).bulk<=119/\(jP p).depth<=4:=by
 have g:=e.gd;have h1:=g.bulk;have h2:=g.dep;refine⟨?_,?_,?_⟩
 ·show dM [_,_,_]=true
  exact wF fun d hd=>by
   simp only[bx,jU,jV]at hd;rcases hd with rfl|rfl|rfl
   ·exact wJ n1
   ·exact wJ n2
   ·exact g.leaf
 ·show PyData.bulkAll [.str p.1,.str p.2.1,p.2.2]<=119
  have a1:p.1.cps.size<=8:=n1.hi;have a2:p.2.1.cps.size<=8:=n2.hi;simp only[PyData.bulkAll,PyData.bulk];omega
 ·show PyData.depthAll [.str p.1,.str p.2.1,p.2.2]+1<=4
  simp only[PyData.depthAll,PyData.depth];omega
theorem Hs:∀ {bk:Bk},(∀p∈bk,Nm p.1/\Nm p.2.1)->(∀p∈bk,Ent p.2.2)->dM (bk.map jP)=true/\PyData.bulkAll (bk.map jP)<=120 * bk.length/\PyData.depthAll (bk.map jP)<=4
 |[],_,_=>⟨rfl,ay _,aN _⟩
 |p::bk,h1,h2=>by
  obtain⟨a,b,c⟩:=Hs (bk:=bk) (fun q hq=>h1 q (a9 _ hq)) (fun q hq=>h2 q (a9 _ hq));obtain⟨d,e,f⟩:=S' (h1 p aZ).1 (h1 p aZ).2 (h2 p aZ);simp only[cn,dM,PyData.bulkAll,PyData.depthAll,a,d,b5];exact⟨rfl,by omega,by omega⟩
theorem Ht {bk:Bk} (ok:kj bk):Gd 5760 5 (.tuple (bk.map jP))/\kl (.tuple (bk.map jP))<=48:=by
 obtain⟨a,b,c⟩:=Hs ok.nm ok.ent;have cg:=ok.cg;exact⟨⟨a,by show PyData.bulkAll _<=_;omega,by show PyData.depthAll _+1<=5;omega⟩,by show(bk.map jP).length<=48;rw[ar];omega⟩
theorem Hu {p:Addr}{H:Hp} (np:∀b xs,H b=some (.tup xs)->b≠p):∀ {ws:List V}{bk:Bk},cP H ws bk->(∀p∈bk,Ent p.2.2)->aK p H ws (bk.map jP)
 |_,_,.nil,_=>.nil
 |_,q::bk,.cons ⟨a,u,e,ha,r⟩ t,h=>by
  rw[e];exact .cons (.tup (np _ _ ha) ha (.cons (.str _) (.cons (.str _) (.cons ((h q aZ).dt r np) .nil)))) (Hu np t fun q' hq=>h q' (a9 _ hq))
theorem qx (pk:cf p H):∀b xs,H b=some (.tup xs)->b≠p:=fun b xs e z=>by
 obtain⟨x,y,h,_⟩:=pk;rw[z,h]at e;cases e
theorem AI {a b k:Nat}{ds:List PyData}{e:PyData} (g:Gd n m (.tuple ds)) (ge:Gd a b e):Gd (n+a+1) (max m (b+1)) (.tuple (ds.take k++e::ds.drop k)):=by
 have gb:PyData.bulkAll ds<=n:=g.bulk;have gd:PyData.depthAll ds+1<=m:=g.dep;have eb:=ge.bulk;have ed:=ge.dep;have b2:PyData.bulkAll ds=PyData.bulkAll (ds.take k)+PyData.bulkAll (ds.drop k):=by rw[<-qb,DN]
 have mem:∀c∈ds.take k++e::ds.drop k,c=e\/c∈ds:=fun c hc=>by
  rcases e9.mp hc with z|z
  ·exact .inr (vp z)
  ·rcases bx.mp z with z|z
   ·exact .inl z
   ·exact .inr (Nl z)
 obtain⟨m',jm⟩:∃m',max m (b+1)=m'+1:=⟨max m (b+1) - 1,by omega⟩
 rw[jm];refine(wR (m:=m') (fun c hc=>?_) ?_ (fun c hc=>?_)).1
 ·rcases mem c hc with rfl|z
  ·exact ge.leaf
  ·exact sV g.leaf z
 ·rw[qb];simp only[PyData.bulkAll];omega
 ·rcases mem c hc with rfl|z
  ·omega
  ·have:=n9 z;omega
theorem Ru {es:List PyData}{e:PyData} (g:Gd n m (.tuple es)) (ge:Gd 100 3 e):Gd (n+101) (max m 4) (.tuple (es.take 2 ++ [e])):=by
 have gb:PyData.bulkAll es<=n:=g.bulk;have gd:PyData.depthAll es+1<=m:=g.dep;have eb:=ge.bulk;have ed:=ge.dep;have b2:=zH es 2;obtain⟨m',jm⟩:∃m',max m 4=m'+1:=⟨max m 4 - 1,by omega⟩
 rw[jm];refine(wR (m:=m') (fun c hc=>?_) ?_ (fun c hc=>?_)).1
 ·rcases e9.mp hc with z|z
  ·exact sV g.leaf (vp z)
  ·rw[gy.mp z];exact ge.leaf
 ·rw[qb];simp only[PyData.bulkAll];omega
 ·rcases e9.mp hc with z|z
  ·have:=n9 (vp z);omega
  ·rw[gy.mp z];omega
theorem Iq {ds:List PyData}{e k:PyData}{a:Nat} (hk:ds[i]? = some k) (g:Gd n m (.tuple ds)) (he:lf e=true) (eb:e.bulk<=a) (ed:e.depth+1<=m):Gd (n+a) m (.tuple (ds.set i e)):=by
 have gb:PyData.bulkAll ds<=n:=g.bulk;have gd:PyData.depthAll ds+1<=m:=g.dep;have b:=z7 ds i e k hk;have d:=Ay ds i e (m - 1) (by omega) (by omega)
 exact⟨Az _ _ _ g.leaf he,by show PyData.bulkAll _<=_;omega,by show PyData.depthAll _+1<=m;omega⟩
@[irreducible] def rf:Sp:=fun vs H Q _=>∃ (p ln:Addr) (v:V) (d:PyData) (j n m:Nat) (ns:List Str),vs = [.ref p,v,.int (j:Int),.ref ln]/\cf p H/\Dt p H v d/\Gd n m d/\n<=20000/\m<=20/\kl d<=60/\l8 H ln ns/\qI p (3 * n+200) (2 * m+6) (kl d) H Q
theorem Uu {ln:Addr}{d:PyData}{E:XK} (h:cf p H) (r:Dt p H v d) (g:Gd n m d) (hn:n<=20000) (hm:m<=20) (hk:kl d<=60) (nt:l8 H ln ns) (q:qI p (3 * n+200) (2 * m+6) (kl d) H Q):rf [.ref p,v,.int (j:Int),.ref ln] H Q E:=by unfold rf;exact⟨p,ln,v,d,j,n,m,ns,rfl,h,r,g,hn,hm,hk,nt,q⟩
abbrev yo:List Str:= ["_law_pot_here","_law_thing","_law_way","_law_names_here"]
abbrev Yg:List Str:= ["_law_pot_here","_law_thing","_law_way","_law_names_here","_law_other","_law_rows","_law_here","_law_there","_law_gone"]
theorem rh:b6 Yg yo (aX Ax):=qD (by decide +kernel)
theorem Uv (F:bg K "_law_rows_spoilt" "_law_rows_spoilt" Ax f fd) (B:cQ mg) (B2:eF mg)
  (GD:aB P w K mg base aC 1 fD dD ["_law_pot_here","_law_many"] gA) (kD:keepIn K (.ref fD)=true) (bD:Binds K dD ["_law_pot_here","_law_many"] []) (mD:mg "_law_digit" = some (.ref fD))
  (GS:aB P w K mg base aC 22 fS dS ["_law_pot_here","_law_thing"] nX) (kS:keepIn K (.ref fS)=true) (bS:Binds K dS ["_law_pot_here","_law_thing"] []) (mS:mg "_law_spoilt" = some (.ref fS))
  (GE:aB P w K mg base aC 4 fE dE ["_law_pot_here","_law_names_here","_law_at"] oq) (kE:keepIn K (.ref fE)=true) (bE:Binds K dE ["_law_pot_here","_law_names_here","_law_at"] []) (mE:mg "_law_entry" = some (.ref fE)):aB P w K mg base aC 23 f fd yo rf:=by
 refine F.ok rh (fun vs H Q E h=>?_) (fun aR A outer s H vs Q E hr h=>?_)
 ·unfold rf at h;obtain⟨p,ln,v,d,j,n,m,ns,rfl,_⟩:=h;rfl
 ·unfold rf at h
  obtain⟨p,ln,v,d,j,n,m,ns,rfl,pk,rd,gd,hn,hm,hk,nt,q⟩:=h;have hu:=hr.units;have BX:bf 22 _:=hr;have kY:bf 4 _:=BX.mono (by decide)
  have aU:bf 1 _:=BX.mono (by decide)
  refine⟨_,au (bj (i:=4) rh.nd rfl (Or.inl rfl) (aF GD aU rfl mD kD bD .nil aG (aa (pv 0) (aa ah ae))))
   (au (mC (PW.pt (pw_or (bh tO (pv 2) ah (a8 _)) (pw_or (ff (dQ (aP eh rfl B2.dH dj (aa (pv 1) (aa (c7 (v:= .ty "tuple") rfl B.tuple boot_tuple rfl) ae))))) (pw_or1 (bh (Ak hu) (pv 1) (eo ae) (a8 _))))))
    (aF GS BX rfl mS kS bS .nil aG (aa (pv 0) (aa (pv 1) ae))))
   (au (bj (i:=5) rh.nd rfl (Or.inl rfl) (fo pX rfl B.list boot_list (aa (pv 1) ae)))
   (au (bj (i:=6) rh.nd rfl (Or.inl rfl) (aF GD aU rfl mD kD bD .nil aG (aa (pv 0) (aa (aP cH rfl B.len cA (aa (pv 5) ae)) ae))))
   (au (bj (i:=7) rh.nd rfl (Or.inl rfl) (aF GD aU rfl mD kD bD .nil aG (aa (pv 0) (aa (aP cH rfl B.len cA (aa (pv 5) ae)) ae))))
   (au (bz (PW.pt (pw_and (bh eu (pv 2) ah (a8 _)) (pw_and (bh tO (pv 4) ah (a8 _)) (pw_and1 (dQ (aP eh rfl B2.dH dj (aa (aM cq (pv 5) (pv 6) (fun _ _=>rfl)) (aa (c7 (v:= .ty "tuple") rfl B.tuple boot_tuple rfl) ae))))))))
    (au (mG (j9 nP Nr Nt zC (pv 5) (aa (bq iG (bq gT (pv 6) (pv 4)) ah) (aa (bq GV (jY Ag (aM cq (pv 5) (pv 6) (fun _ _=>rfl)) j0 (j3 ah)) (eo (aa (aF GE kY rfl mE kE bE .nil aG (aa (pv 0) (aa (pv 3) (aa ah ae)))) ae))) ae))))
    (oe (fo mr rfl B.tuple boot_tuple (aa (pv 5) ae)))) bH)
   (au (bz (bh eu (pv 2) ah (a8 _))
    (au (bj (i:=8) rh.nd rfl (Or.inl rfl) (aM cq (pv 5) (pv 6) (fun _ _=>rfl)))
    (au (tm (aM cq (pv 5) (pv 7) (fun _ _=>rfl)) (sZ (pv 5) (pv 6) set_list))
    (aE (tm (pv 8) (sZ (pv 5) (pv 7) set_list)))))
    (aE (mG (j9 nP Nr Nt zC (pv 5) (aa (pv 7) (aa (aM cq (pv 5) (pv 6) (fun _ _=>rfl)) ae))))))
   (oe (fo mr rfl B.tuple boot_tuple (aa (pv 5) ae))))))))),?_⟩
  refine⟨_,rfl,cj (p:=p) (m:=3) pk (by decide) (by decide) fun ot H1 a0 a1 p1=>?_⟩
  have kX:Dt p H1 v d:=Dt.keep (fun b o e n=>p1.kp b o e n) rd;have Bm:∀ {H2:Hp},aT p H H2->nX [.ref p,v] H2 Q E0:=fun {H2} p2 =>
   Ph p2.ok (Dt.keep (fun b o e n=>p2.kp b o e n) rd) gd (by omega) hm fun u e H3 p3 r3 g3 k3=>q u e H3 (p2.trans p3) r3 (g3.mono (by omega) (by omega)) k3
  obtain⟨o,rfl⟩:=eP a0;refine⟨_,rfl,_,_,rfl,rfl,_,rfl,?_⟩;refine dw (fun _=>⟨_,rfl,_,rfl,Bm p1⟩) (fun hw=>?_);refine⟨_,rfl,dU kit_tuple kX ⟨_,rfl,?_⟩⟩;cases ht:bp "tuple" d with
  |false=>exact⟨_,rfl,_,rfl,Bm p1⟩
  |true =>
   obtain⟨ds,rfl⟩:=is_tup ht;obtain⟨a,vs,rfl,na,ha,rs⟩:=gV rd;have el:=rs.length;have hV:ds.length<=60:=hk;have kz:=p1.kp _ _ ha na;refine⟨_,rfl,aN _,fun e0 hZ=>?_⟩;have p2:=p1.new (o:= .tup []) hZ;have Lw:upd H1 e0 (.tup []) e0=some (.tup []):=af;generalize upd H1 e0 (.tup [])=H2 at p2 Lw ⊢;refine⟨a,e0,vs,rfl,rfl,p2.kp _ _ ha na,Lw,_,rfl,?_⟩;refine dw (fun _=>⟨_,rfl,_,rfl,Bm p2⟩) (fun dZ=>?_);have m7:0 < vs.length:=by
    cases vs with
    |nil=>exact absurd rfl dZ
    |cons _ _=>simp
   refine⟨_,rfl,a,vs,rfl,.inr (ao.of (p2.kp _ _ ha na)),fun tl kU=>?_⟩;have iO:H tl=none:=p2.free kU;have gM:p≠tl:=p2.ok.ne kU;have p3:=p2.new (o:= .lst vs) kU;have iu:upd H2 tl (.lst vs) tl=some (.lst vs):=af;generalize upd H2 tl (.lst vs)=H3 at p3 iu ⊢;refine⟨_,rfl,_,rfl,tl,_,rfl,.inl (ag.of iu),?_⟩;refine cj (p:=p) (m:=(vs.length:Int)) p3.ok (by omega) (by omega) fun i' H4 b0 b1 p4=>?_
   obtain⟨i,rfl⟩:=eP b0;have Lx:=p3.trans p4;have m9:=p4.kp _ _ iu (bb gM);refine⟨_,rfl,_,rfl,tl,_,rfl,.inl (ag.of m9),?_⟩;refine cj (p:=p) (m:=(vs.length:Int)) Lx.ok (by omega) (by omega) fun t' H5 c0 c1 p5=>?_
   obtain⟨t,rfl⟩:=eP c0;have pK:=Lx.trans p5;have iQ:=p5.kp _ _ m9 (bb gM);have jO:i < vs.length:=by omega
   have Ly:t < vs.length:=by omega
   have iy:i < ds.length:=by omega
   have yp:t < ds.length:=by omega
   have fU:∀ {H3:Hp},aT p H H3->aK p H3 vs ds:=fun p3=>aK.keep (fun b o e n=>p3.kp b o e n) rs;have di:∀ {H3:Hp},aT p H H3 -> ∀ {k:Nat} (h1:k < vs.length) (h2:k < ds.length),Dt p H3 vs[k] ds[k]:=fun {H3} p3 {k} h1 h2=>by
    obtain⟨v',eX,u0⟩:=(fU p3).get (aQ h2);rw[aQ h1]at eX;cases eX;exact u0
   have gi:∀ {k:Nat} (h2:k < ds.length),Gd (n - 1) (m - 1) ds[k]:=fun {k} h2=>gd.C6 (d:= .tuple ds) (fV h2);have gb:PyData.bulkAll ds<=n:=gd.bulk;have Ll:PyData.depthAll ds+1<=m:=gd.dep;have fin:∀ (H6:Hp) (ys:List V) (es:List PyData),aT p H H6->H6 tl=some (.lst ys)->aK p H6 ys es->Gd (3 * n+200) (2 * m+6) (.tuple es)->es.length<=ds.length+1 -> ∃p ys,[V.ref tl] = [V.ref p]/\((ag K H6 p ys /\ ∀l,H6 l=none->Q (.ref l) (upd H6 l (.tup ys)))\/(ao K H6 p ys/\Q (.ref p) H6)):=fun H6 ys es p6 h6 r6 g6 k6 =>
    ⟨tl,ys,rfl,.inl ⟨ag.of h6,fun l hl=>q _ _ _ (p6.new hl) (.tup (bb (p6.ok.ne hl)) af (aK.keep (fun b o e _=>by rw[ak (a7 e hl)];exact e) r6)) g6 (cL k6 (by show ds.length+1<=max 9 (ds.length+1);omega))⟩⟩
   have hj:j=0\/j=1:=by
    have : ¬ (1:Int) < (j:Int):=fun z=>hw (b4 z);omega
   refine⟨_,rfl,rfl,_,rfl,?_⟩;rcases hj with rfl|rfl
   ·refine⟨_,rfl,rfl,_,rfl,?_⟩
    refine⟨_,rfl,_,rfl,tl,_,_,vs[i],rfl,rfl,ag.of iQ,bQ (aQ jO),?_⟩;refine⟨_,rfl,_,rfl,tl,_,_,vs[t],rfl,rfl,ag.of iQ,bQ (aQ Ly),?_⟩;refine⟨_,rfl,_,rfl,tl,vs,_,i,rfl,rfl,iQ,by unfold kr;simp;omega,?_⟩
    have p6:=pK.write (o:= .lst (vs.set i vs[t])) iO gM;have nc:upd H5 tl (.lst (vs.set i vs[t])) tl=some (.lst (vs.set i vs[t])):=af;generalize upd H5 tl (.lst (vs.set i vs[t]))=H6 at p6 nc ⊢;refine⟨_,rfl,_,rfl,_,rfl,tl,vs.set i vs[t],_,t,rfl,rfl,nc,by unfold kr;simp;omega,?_⟩
    have p7:=p6.write (o:= .lst ((vs.set i vs[t]).set t vs[i])) iO gM;refine⟨_,rfl,fin _ _ _ p7 af (wg (di p7 jO iy) t (wg (di p7 Ly yp) i (fU p7))) ?_ (by rw[yI,yI];omega)⟩
    have g1:=gi iy;have g2:=gi yp;have e1:=g1.dep;have e2:=g2.dep;have e3:=n9 (fV iy);have e4:=n9 (fV yp);have s1:=Iq (i:=i) (a:=n) (aQ iy) gd g2.leaf (by have:=g2.bulk;omega) (by omega)
    have:∃k,(ds.set i ds[t])[t]? = some k:=⟨_,aQ (by rw[yI];exact yp)⟩
    obtain⟨k,Yh⟩:=this;exact(Iq (i:=t) (a:=n) Yh s1 g1.leaf (by have:=g1.bulk;omega) (by omega)).mono (by omega) (by omega)
   ·refine⟨_,rfl,_,_,rfl,rfl,_,rfl,?_⟩
    refine dw (fun h0=>?_) (fun h0=>?_)
    ·refine⟨_,rfl,_,rfl,tl,_,_,vs[i],rfl,rfl,ag.of iQ,bQ (aQ jO),?_⟩
     refine dU kit_tuple (di pK jO iy) ⟨_,rfl,?_⟩;cases Yi:bp "tuple" ds[i] with
     |false =>
      refine⟨_,rfl,rfl,_,rfl,?_⟩;refine⟨_,rfl,.inl ⟨rfl,_,ag.of iQ⟩,_,rfl,_,rfl,_,rfl,tl,_,_,vs[i],rfl,rfl,ag.of iQ,bQ (aQ jO),?_⟩;refine⟨tl,vs,t,vs[i],rfl,rfl,iQ,by omega,by omega,?_⟩
      have p6:=pK.write (o:= .lst (vs.take t++vs[i]::vs.drop t)) iO gM;exact⟨_,rfl,fin _ _ _ p6 af (((fU p6).take t).app (.cons (di p6 jO iy) ((fU p6).drop t))) ((AI gd (gi iy)).mono (by omega) (by omega)) (by rw[eO,b5,c4,mf];omega)⟩
     |true =>
      obtain⟨es,Lz⟩:=is_tup Yi;have ri:=di (aT.refl pk) jO iy;rw[Lz]at ri;obtain⟨b,us,eb,nb,Yj,LA⟩:=gV ri;have yd:=pK.kp _ _ Yj nb;have gr:Gd (n - 1) (m - 1) (.tuple es):=by rw[<-Lz];exact gi iy
      have o1:(0:Int) < (o:Int):=by simpa using h0
      have o0:0 < o:=by omega
      refine⟨_,rfl,.inl ⟨rfl,_,ag.of iQ⟩,_,rfl,_,rfl,_,_,rfl,rfl,_,_,rfl,rfl,?_⟩;refine⟨_,rfl,_,rfl,tl,_,_,vs[i],rfl,rfl,ag.of iQ,bQ (aQ jO),?_⟩;refine⟨_,rfl,b,us,eb,yd,fun sp H6 S6 jJ=>?_⟩;rw[show fu us none (some 2)=us.take 2 from Ip us 2]at jJ;have yq:=pK.trans (my pK.ok S6);have nc:=S6 _ _ iQ;have n6:=(nt.iB pk yq);refine⟨_,rfl,_,rfl,Ig (k:=0) yq.ok n6.hl n6.ne n6.cg n6.nm fun ev ed H7 p7 re en=>?_⟩;have Yk:=yq.trans p7;refine⟨i4,fun kt i8=>?_⟩;have Dk:=Yk.new (o:= .tup [ev]) i8;have S8:=aI (o:= .tup [ev]) i8;have va:upd H7 kt (.tup [ev]) kt=some (.tup [ev]):=af;have JS:=S8 _ _ (n8 yq.ok p7 _ _ jJ);have LB:=en.keep re fun b xs e=>S8 _ _ e;have JT:=S8 _ _ (p7.kp _ _ nc (bb gM));generalize upd H7 kt (.tup [ev])=H8 at Dk S8 va JS LB JT ⊢;have ul:=LA.length;have ub:=qa es;have grb:PyData.bulkAll es<=n - 1:=gr.bulk;refine⟨sp,kt,_,_,rfl,rfl,JS,va,by rw[c4,aA];simp;omega,fun nr H9 S9 LC=>?_⟩
      have LD:=Dk.trans (my Dk.ok S9);have JU:=S9 _ _ JT;refine⟨tl,vs,i+o - 1,.ref nr,rfl,by rw[show((i+o - 1:Nat):Int)=(i:Int)+(o:Int) - 1 by omega],JU,by omega,by omega,?_⟩
      have vc:=LD.write (o:= .lst (vs.take (i+o - 1) ++ .ref nr::vs.drop (i+o - 1))) iO gM;have up:∀b xs,H9 b=some (.tup xs)->upd H9 tl (.lst (vs.take (i+o - 1) ++ .ref nr::vs.drop (i+o - 1))) b=some (.tup xs):=fun b xs e=>by rw[ak (eI e JU (by intro z;cases z))];exact e
      have VN:=en.keep LB fun b xs e=>up b xs (S9 _ _ e);have dn:=Dt.tup (p:=p) (ds:=es.take 2 ++ [ed]) (qx LD.ok nr _ LC) (up _ _ LC) (((aK.keep (fun b o e n=>vc.kp b o e n) LA).take 2).app (.cons (en.dt VN (qx vc.ok)) .nil));exact⟨_,rfl,fin _ _ _ vc af (((fU vc).take _).app (.cons dn ((fU vc).drop _))) ((AI gd (Ru gr en.gd)).mono (by omega) (by omega)) (by rw[eO,b5,c4,mf];omega)⟩
    ·refine⟨_,rfl,rfl,_,rfl,?_⟩
     refine⟨_,rfl,.inl ⟨rfl,_,ag.of iQ⟩,_,rfl,_,rfl,_,rfl,tl,_,_,vs[i],rfl,rfl,ag.of iQ,bQ (aQ jO),?_⟩;refine⟨tl,vs,t,vs[i],rfl,rfl,iQ,by omega,by omega,?_⟩
     have p6:=pK.write (o:= .lst (vs.take t++vs[i]::vs.drop t)) iO gM;exact⟨_,rfl,fin _ _ _ p6 af (((fU p6).take t).app (.cons (di p6 jO iy) ((fU p6).drop t))) ((AI gd (gi iy)).mono (by omega) (by omega)) (by rw[eO,b5,c4,mf];omega)⟩
theorem boot_repr:bootBuiltins "repr" = some (.builtin "repr"):=by decide +kernel
theorem Oc {a b:List Str} (h:∀x,x∈a ↔ x∈b) (d:PyData):iJ a d=iJ b d:=by
 have hk:∀d,gX a d=gX b d:=fun d=>by
  cases d with
  |str x=>show(dr x && decide (x∈a))=(dr x && decide (x∈b));rw[lj.mpr (h x)]
  |_=>rfl
 have ht:dY a=dY b:=funext fun d=>by
  unfold dY;split
  ·rw[hk]
  ·rfl
 cases d with
 |tuple ds=>show(ds.all (dY a) && _)=(ds.all (dY b) && _);rw[ht]
 |_=>rfl
theorem Uw {b:Bool}{A:Prop}{T:St->Hp->Prop} (BY:St->Hp->Prop) (h1:b=true->(∀aV H',BY aV H'->T aV H')->A) (h2:b≠true->BY σ H) (h3:∀aV H',BY aV H'->T aV H'):if b=true then A else T σ H:=by
 by_cases h:b=true
 ·rw[ax h];exact h1 h h3
 ·rw[aj h];exact h3 _ _ (h2 h)
def JV:Nat->Nat|0=>5760|1=>17480|_=>52640
def JW:Nat->Nat|0=>5|1=>16|_=>38
theorem OF {kvs:List (Str×V)} (h:ik H ys kvs) (k:∀b xs,H b=some (.tup xs)->H' b=some (.tup xs)):ik H' ys kvs:=Paired.imp' (fun _ _ ⟨a,e,q⟩=>⟨a,e,k _ _ q⟩) h
theorem EH {H:Hp}{b:Addr}{k:Str}{v:V} (hb:H b=some (.tup [.str k,v])):∀ {ys:List V}{kvs:List (Str×V)},ik H ys kvs->ik H (ys ++ [.ref b]) (kvs ++ [(k,v)])
 |[],[],_=>.cons ⟨b,rfl,hb⟩ .nil
 |_::_,_::_,.cons r t=>.cons r (EH hb t)
abbrev wV (n:Nat):V:= .int (n:Int)
theorem Ta {ns:List Int}{k:Int}{E:XK} (h:ag K H a (ns.map V.int)) (k0:0<=k) (k1:k<=100) (hl:ns.length<=63) (q:∀p H',H p=none->cf p H'->aw H H'->Q (.ref p) H'):qE K [.ref a,.int k] H Q E:=by
 unfold qE;exact⟨a,ns,k,rfl,h,k0,k1,hl,fun p x y hp x0 y0 y1=>q p _ hp ⟨x,y,af,x0,y0,y1⟩ (aI hp)⟩
theorem Gr {E:XK} (h:cf p H) (hm:m<=20) (q:∀ (l:Addr) (ys:List Str) (H':Hp),H l=none->ys.length=m->(∀y∈ys,Nm y)->ys.Nodup->aT p H H'->H' l=some (.lst (ys.map V.str))->Q (.ref l) H'):n5 [.ref p,.int m] H Q E:=by
 unfold n5;exact⟨p,m,rfl,h,hm,q⟩
theorem Qt (h:ag K H a xs) (s:aw H H'):ag K H' a xs:=by
 rcases h with(h|⟨o,h⟩)|h
 ·exact .inl (.inl (s _ _ h))
 ·exact .inl (.inr ⟨o,s _ _ h⟩)
 ·exact .inr h
@[irreducible] def ow (K:Frag):Sp:=fun vs H Q _=>∃ (a:Addr) (ns:List Int),vs = [.ref a]/\ag K H a (ns.map V.int)/\ns.length<=63 /\ ∀H',Q (.bl true) H'
abbrev BZ:List Str:= ["_law_script","_law_k","_law_pot_here","_law_ways","_law_kinds","_law_names_here","_law_family_here","_law_thing","_law_way","_law_ahead","_law_some","_law_told"]
theorem ip:b6 BZ ["_law_script"] (aX oE):=qD (by decide +kernel)
abbrev VO:Expr:=jD (cS (n0 (cS (cR oE) 0)) 1)
abbrev VP:Expr:=f' (f' (jD (cS (n0 (cS (n0 (cS (cR oE) 0)) 9)) 0)))
theorem IV:cM BZ (aX oE) ["_law_turn","_law_pot_here"] [none,some 2] (dX VO):=tR (by decide +kernel)
theorem IW:cM BZ (aX oE) ["_law_pair","_law_some"] [none,some 10] (dX VP):=tR (by decide +kernel)
theorem Tb {fF fK fR fI fJ:Addr}{dF dK dR dI dJ:FuncData} (F:bg K "law" "law" oE f fd) (B:cQ mg) (B2:eF mg) (B3:uc mg) (br:mg "repr" = none)
  (GP:aB P w K mg base aC 1 fP dP ["_law_script","_law_k"] (qE K)) (kP:keepIn K (.ref fP)=true) (bP:Binds K dP ["_law_script","_law_k"] []) (mP:mg "_law_pot" = some (.ref fP))
  (GD:aB P w K mg base aC 1 fD dD ["_law_pot_here","_law_many"] gA) (kD:keepIn K (.ref fD)=true) (bD:Binds K dD ["_law_pot_here","_law_many"] []) (mD:mg "_law_digit" = some (.ref fD))
  (GN:aB P w K mg base aC 3 fN dN ["_law_pot_here","_law_many"] n5) (kN:keepIn K (.ref fN)=true) (bN:Binds K dN ["_law_pot_here","_law_many"] []) (mN:mg "_law_names" = some (.ref fN))
  (GF:aB P w K mg base aC 3 fF dF ["_law_pot_here","_law_kinds"] qS) (kF:keepIn K (.ref fF)=true) (bF:Binds K dF ["_law_pot_here","_law_kinds"] []) (mF:mg "_law_family" = some (.ref fF))
  (GT:aB P w K mg base aC 1 fT dT ["_law_parents_here"] qU) (kT:keepIn K (.ref fT)=true) (bT:Binds K dT ["_law_parents_here"] []) (mT:mg "_law_family_tuple" = some (.ref fT))
  (GK:aB P w K mg base aC 5 fK dK wU qu) (kK:keepIn K (.ref fK)=true) (bK:Binds K dK wU []) (mK:mg "_law_book" = some (.ref fK))
  (GB:aB P w K mg base aC 1 fB dB ["_law_book_here"] qX) (kB:keepIn K (.ref fB)=true) (bB:Binds K dB ["_law_book_here"] []) (mB:mg "_law_book_tuple" = some (.ref fB))
  (GR:aB P w K mg base aC 23 fR dR yo rf) (kR:keepIn K (.ref fR)=true) (bR:Binds K dR yo []) (mR:mg "_law_rows_spoilt" = some (.ref fR))
  (GI:aB P w K mg base aC 6 fI dI ["family","thing"] qJ) (kI:keepIn K (.ref fI)=true) (bI:Binds K dI ["family","thing"] []) (mI:mg "is_book" = some (.ref fI))
  (GJ:aB P w K mg base aC 4 fJ dJ ["_law_kinds","_law_thing"] qK) (kJ:keepIn K (.ref fJ)=true) (bJ:Binds K dJ ["_law_kinds","_law_thing"] []) (mJ:mg "_law_is_book" = some (.ref fJ)) :
  aB P w K mg base aC 24 f fd ["_law_script"] (ow K):=by
 refine F.ok ip (fun vs H Q E h=>?_) (fun aR A outer s H vs Q E hr h=>?_)
 ·unfold ow at h;obtain⟨a,ns,rfl,_⟩:=h;rfl
 ·unfold ow at h
  obtain⟨a,sc,rfl,hS,nt,q⟩:=h;have hu:=hr.units;have hg:=hr.gd;have rj:bf 23 _:=hr;have Yl:bf 6 _:=rj.mono (by decide)
  have ym:bf 5 _:=rj.mono (by decide)
  have kY:bf 4 _:=rj.mono (by decide)
  have iC:bf 3 _:=rj.mono (by decide)
  have aU:bf 1 _:=rj.mono (by decide)
  refine⟨_,au (jx jW rfl (jX rfl B.range (aa (bq gT (aP (EJ rfl) rfl B.min boot_min (aa (aP cH rfl B.len cA (aa (pv 0) ae)) (aa ah ae))) ah) ae)) (cb (i:=1) ip.nd rfl (Or.inl rfl))
    (au (bj (i:=2) ip.nd rfl (Or.inr rfl) (aF GP aU rfl mP kP bP .nil aG (aa (pv 0) (aa (pv 1) ae))))
    (au (zi (i:=3) rfl IV ip.nd rfl rfl (jX rfl B.range (aa (aF GD aU rfl mD kD bD .nil aG (aa (pv 2) (aa ah ae))) ae)) (fun s H fp=>⟨cb (i:=0) IV.nd rfl (Or.inl rfl),fq,aF GD aU rfl mD kD bD .nil aG (aa (pv 1) (aa ah ae))⟩))
    (au (bj (i:=4) ip.nd rfl (Or.inl rfl) (aF GN iC rfl mN kN bN .nil aG (aa (pv 2) (aa (aF GD aU rfl mD kD bD .nil aG (aa (pv 2) (aa ah ae))) ae))))
    (au (bj (i:=5) ip.nd rfl (Or.inl rfl) (aF GN iC rfl mN kN bN .nil aG (aa (pv 2) (aa (bq gT ah (aF GD aU rfl mD kD bD .nil aG (aa (pv 2) (aa (bq iG ah (aP cH rfl B.len cA (aa (pv 3) ae))) ae)))) ae))))
    (au (bj (i:=6) ip.nd rfl (Or.inl rfl) (aF GT aU rfl mT kT bT .nil aG (aa (aM bU (aF GF iC rfl mF kF bF .nil aG (aa (pv 2) (aa (pv 4) ae))) ah (fun _ _=>rfl)) ae)))
    (au (bj (i:=7) ip.nd rfl (Or.inl rfl) (eo ae))
    (au (bz (bh (G4 hu) (pv 4) (cN ae) (a8 _)) (aE (bj (i:=7) ip.nd rfl (Or.inl rfl) (aF GB aU rfl mB kB bB .nil aG (aa (aF GK ym rfl mK kK bK .nil aG (aa (pv 2) (aa (pv 4) (aa (pv 5) ae)))) ae)))) bH)
    (au (jx jW rfl (jv (pv 3)) (cb (i:=8) ip.nd rfl (Or.inl rfl))
     (aE (bj (i:=7) ip.nd rfl (Or.inl rfl) (aF GR rj rfl mR kR bR .nil aG (aa (pv 2) (aa (pv 7) (aa (pv 8) (aa (pv 5) ae))))))))
    (au (bj (i:=9) ip.nd rfl (Or.inl rfl) (aP (Eu hu hg) rfl br boot_repr (aa (pv 7) ae)))
    (aE (jx jW rfl (jv (cN (aa (pv 4) (aa (jY wd (pv 4) j0 (j3 (qA qk ah))) ae)))) (cb (i:=10) ip.nd rfl (Or.inr rfl))
     (au (bj (i:=11) ip.nd rfl (Or.inl rfl) (aF GI Yl rfl mI kI bI .nil aG (aa (fo mr rfl B.tuple boot_tuple (aa (fe rfl IW (mV (pv 6)) (fun s H fp=>⟨cb (i:=0) IW.nd rfl (Or.inl rfl),vN (bh (Ad K rfl) (aM (Pz K rfl) (pv 0) ah (fun _ _=>rfl)) (pv 1) rfl),pv 0⟩)) ae)) (aa (pv 7) ae))))
     (aE (bz (PW.pt (pw_or (ff (dQ (aP eh rfl B2.dH dj (aa (pv 11) (aa (c7 (v:= .ty "bool") rfl B3.bool boot_bool rfl) ae)))))
      (pw_or (bh oh (pv 11) (aF GJ kY rfl mJ kJ bJ .nil aG (aa (pv 10) (aa (pv 7) ae))) (a8 _))
      (pw_or1 (bh oh (aP (Eu hu hg) rfl br boot_repr (aa (pv 7) ae)) (pv 9) (a8 _)))))) (aE (aY gn)) bH)))))))))))))))
   (aE (aY gn)),?_⟩
  refine⟨_,rfl,a,_,rfl,.inl hS,?_⟩;rw[ar];refine⟨_,_,rfl,_,_,rfl,rfl,_,rfl,?_,?_,pZ (fun i σ H1=>∃v1 v2 v3 v4 v5 v6 v7 v8 v9 v10 v11:Option V,σ = [some (.ref a),v1,v2,v3,v4,v5,v6,v7,v8,v9,v10,v11]/\aw H H1) ⟨none,none,none,none,none,none,none,none,none,none,none,rfl,aw.refl _⟩ (fun i σ H1 hi hP=>?_) (fun σ H1 _=>q _)⟩
  ·split <;> omega
  ·split <;> (try split) <;> omega
  ·obtain⟨v1,v2,v3,v4,v5,v6,v7,v8,v9,v10,v11,rfl,S1⟩:=hP
   have acn:i < 41:=by
    refine gw hi ?_;split <;> (try split) <;> omega
   refine⟨_,rfl,_,rfl,Ta (Qt hS S1) (by omega) (by omega) nt fun p H2 hp pk S2=>?_⟩
   refine⟨_,rfl,cj (p:=p) (m:=3) pk (by decide) (by decide) fun nw' H3 a0 a1 p3=>?_⟩
   obtain⟨nw,rfl⟩:=eP a0;refine⟨_,rfl,by omega,by omega,fun lw Dl=>?_⟩
   have jq:p≠lw:=p3.ok.ne Dl;refine vA (fun j zs τ J=>∃ (t0:Option V) (ws:List Nat),τ = [t0,some (.ref p)]/\zs=ws.map wV/\aT p H2 J/\J lw=some (.lst zs)/\ws.length=j) ⟨none,[],rfl,rfl,p3.new Dl,af,rfl⟩ (fun j zs τ J ⟨_,_,_,_,_,z,_⟩=>z) ?_ ?_
   ·rintro j zs τ J hj ⟨t0,ws,rfl,rfl,pJ,hz,zl⟩
    refine⟨_,rfl,cj (p:=p) (m:=5) pJ.ok (by decide) (by decide) fun x J1 x0 x1 LF=>?_⟩
    obtain⟨x,rfl⟩:=eP x0;refine⟨LF.kp _ _ hz (bb jq),by rw[ar,zl,aA];omega,cw_next hj ⟨_,ws ++ [x],rfl,by rw[cp];rfl,(pJ.trans LF).write (p3.free Dl) jq,af,by rw[eO,zl];rfl⟩⟩
   ·rintro zs τ H4 ⟨t0,ws,rfl,rfl,P4,VQ,wl⟩
    have wl2:ws.length<=2:=by omega
    clear wl;refine⟨_,rfl,_,rfl,cj (p:=p) (m:=9) P4.ok (by decide) (by decide) fun nk' H5 b0 b1 p5=>?_⟩
    obtain⟨nk,rfl⟩:=eP b0;refine Gr (m:=nk) p5.ok (by omega) fun lk ks H6 C2 ekl uY knd p6 JX=>?_
    have P6:=(P4.trans p5).trans p6;have JY:=(p5.trans p6).kp _ _ VQ (bb jq);refine⟨_,rfl,_,rfl,_,rfl,lw,_,rfl,.inl (ag.of JY),_,_,rfl,rfl,?_⟩;rw[ar];refine cj (p:=p) (m:=6 - (ws.length:Int)) P6.ok (by omega) (by omega) fun Ym H7 c0 c1 p7=>⟨1,Ym,rfl,rfl,?_⟩
    obtain⟨nn,rfl⟩:=eP c0;show n5 [V.ref p,V.int (1+(nn:Int))] H7 _ _;rw[show(1:Int)+(nn:Int)=((1+nn:Nat):Int) by omega]
    refine Gr (m:=1+nn) p7.ok (by omega) fun ln ns H8 hln nl LG nnd p8 JZ=>?_
    have P8:=(P6.trans p7).trans p8;have vd:lk≠p:=ju p6.ok JX;have J0:=(p7.trans p8).kp _ _ JX vd;have VR:=(p7.trans p8).kp _ _ JY (bb jq);refine⟨_,rfl,_,rfl,T8 P8.ok J0 knd uY (by omega) fun r d1 d2 gf Ps HA pA Yn LH Yo Yp LI=>⟨r,_,1,.ref d2,rfl,rfl,ao.of Yn,fG,?_⟩⟩
    refine Ua LH Yo knd (by omega) Yp fun t o fs dc HB Dm LJ hoB Yq Dn=>?_
    have PA:=P8.trans pA;have VS:d2≠p:=fun z=>by obtain⟨x,y,e,_⟩:=PA.ok;rw[<-z,LH]at e;cases e
    have PB:aT p H2 HB:=⟨let ⟨x,y,e,r⟩:=PA.ok;⟨x,y,Dm p _ (bb VS) e,r⟩,fun b u e n=>by
     by_cases z:b=d2
     ·exact absurd (P8.kp b u e n) (by rw[z,LI];simp)
     ·exact Dm b u z (PA.kp b u e n)⟩
    have Dp:∀b u,H8 b=some u->b≠p->HB b=some u:=fun b u e n=>Dm b u (a7 e LI) (pA.kp b u e n);have VT:=Dp _ _ J0 vd;have VU:=Dp _ _ VR (bb jq);have Dq:ln≠p:=ju p8.ok JZ;have VV:=Dp _ _ JZ Dq;have Yr:t≠p:=fun z=>by obtain⟨x,y,e,_⟩:=PB.ok;rw[<-z,LJ]at e;cases e
    refine⟨aN _,fun t0 yg=>?_⟩;have PC:=PB.new (o:= .tup []) yg;have SC:=aI (o:= .tup []) yg;have xh:upd HB t0 (.tup []) t0=some (.tup []):=af;have xi:=SC _ _ VT;have B0:=SC _ _ VU;have B1:=SC _ _ VV;have LK:=SC _ _ LJ;have LL:=Yq.same SC;generalize upd HB t0 (.tup [])=HC at PC SC xh xi B0 B1 LK LL ⊢;refine⟨_,rfl,aN _,fun e0 hZ=>?_⟩;have pe:=(aT.refl PC.ok).new (o:= .lst []) hZ;have he:upd HC e0 (.lst []) e0=some (.lst []):=af;generalize upd HC e0 (.lst [])=HD at pe he ⊢;refine⟨lk,e0,_,rfl,rfl,pe.kp _ _ xi vd,he,_,rfl,?_⟩;refine Uw (fun aV H'=>∃ (tb:Addr) (e:PyData),aV = [some (.ref a),some (.int (0+(i:Int))),some (.ref p),some (.ref lw),some (.ref lk),some (.ref ln),some (.ref t),some (.ref tb),v8,v9,v10,v11]/\aT p HC H'/\Dt p H' (.ref tb) e/\Gd 5760 5 e/\kl e<=48) (fun Dr last=>?_) (fun Dr=>?_) ?_
    ·have o6:ks ≠ []:=fun z=>by rw[z]at Dr;cases Dr
     refine⟨_,rfl,_,rfl,_,rfl,Ro (p:=p) pe.ok ⟨pe.kp _ _ xi vd,o6,by omega,uY⟩ ⟨pe.kp _ _ B1 Dq,fun z=>by rw[z]at nl;simp at nl;omega,by omega,LG⟩ fun d kvs aO HE hdD pE DE=>?_⟩
     refine Ul DE.hb DE.dv DE.ok fun tb wb bk HF SF LM Ys Yt gv=>?_;have ok:=Hn Yt DE.ok;have pF:=(pe.trans pE).trans (my pE.ok SF);exact last _ HF ⟨tb,.tuple (bk.map jP),rfl,pF,.tup (qx pF.ok _ _ LM) LM (Hu (qx pF.ok) Ys ok.ent),(Ht ok).1,(Ht ok).2⟩
    ·exact⟨t0,.tuple [],rfl,pe,.tup (qx PC.ok _ _ xh) (pe.kp _ _ xh (qx PC.ok _ _ xh)) .nil,⟨rfl,aN _,by decide⟩,aN _⟩
    rintro aV HD ⟨tb,e,rfl,PD,rD,gD,kD⟩;refine⟨_,rfl,lw,rfl,⟨_,ag.of (PD.kp _ _ B0 (bb jq))⟩,zK (xs:=ws.map wV) (fun j σ H6=>∃ (u:V) (e:PyData) (w8:Option V),σ = [some (.ref a),some (.int (0+(i:Int))),some (.ref p),some (.ref lw),some (.ref lk),some (.ref ln),some (.ref t),some u,w8,v9,v10,v11]/\aT p HC H6/\Dt p H6 u e/\Gd (JV j) (JW j) e/\kl e<=48+j) ⟨_,e,v8,rfl,PD,rD,gD,kD⟩ (fun j σ H6 _ ⟨_,_,_,_,z,_⟩=>ag.of (z.kp _ _ B0 (bb jq))) ?_ ?_⟩
    ·rintro j x σ H6 hx ⟨u,e,w8,rfl,p6,ru,ge,ke⟩
     have hj:j < ws.length:=by simpa using (cZ.mp hx).1
     obtain rfl:wV ws[j]=x:=by simpa [hj] using hx
     have yr:j=0\/j=1:=by omega
     refine⟨_,rfl,_,rfl,_,rfl,_,rfl,Uu p6.ok ru ge (by rcases yr with rfl|rfl <;> decide) (by rcases yr with rfl|rfl <;> decide) (by omega) ⟨p6.kp _ _ B1 Dq,fun z=>by rw[z]at nl;simp at nl;omega,by omega,LG⟩ fun u2 e2 H7 p7 uI Yu ke2=>?_⟩
     exact⟨u2,e2,_,rfl,p6.trans p7,uI,Yu.mono (by rcases yr with rfl|rfl <;> decide) (by rcases yr with rfl|rfl <;> decide),by omega⟩
    ·rintro σ H6 ⟨u,e,w8,rfl,p6,ru,Yv,Yw⟩
     have ge:Gd 52640 38 e:=Yv.mono (by unfold JV;split <;> decide) (by unfold JW;split <;> decide)
     have ke:kl e<=63:=by rw[ar]at Yw;omega
     obtain⟨sh,sl⟩:=ge.shown (by decide)
     have gb:=ge.bulk;have Ll:=ge.dep;have cK:Sm e:=by unfold Sm;omega
     refine⟨_,rfl,p,u,e,rfl,ru,sh,by omega,sl,?_⟩
     have IX:=p6.kp _ _ xi vd;have Yx:=p6.kp _ _ LK Yr;have Yy:=LL.keep (n8 PC.ok p6);refine⟨_,rfl,_,rfl,1,rfl,_,rfl,lk,_,rfl,ag.of IX,fun l2 cY=>?_⟩;rw[F7];have xC:=aI (o:= .lst (ks.dropLast.map V.str)) cY;have J2:upd H6 l2 (.lst (ks.dropLast.map V.str)) l2=some (.lst (ks.dropLast.map V.str)):=af;generalize upd H6 l2 (.lst (ks.dropLast.map V.str))=H7 at xC J2 ⊢;refine⟨rQ,fun lo rC=>?_⟩;have S8:=xC.trans (aI (o:= .lst [V.ref lk,V.ref l2]) rC);have J3:=aI (o:= .lst [V.ref lk,V.ref l2]) rC _ _ J2;have B4:upd H7 lo (.lst [V.ref lk,V.ref l2]) lo=some (.lst [V.ref lk,V.ref l2]):=af;generalize upd H7 lo (.lst [V.ref lk,V.ref l2])=Yz at S8 J3 B4 ⊢;refine⟨lo,rfl,⟨_,ag.of B4⟩,zK (xs:= [V.ref lk,V.ref l2]) (fun j σ HX=>∃Ds Du:Option V,σ = [some (.ref a),some (.int (0+(i:Int))),some (.ref p),some (.ref lw),some (.ref lk),some (.ref ln),some (.ref t),some u,w8,some (.str e.shown),Ds,Du]/\aw Yz HX) ⟨v10,v11,rfl,aw.refl _⟩ (fun j σ HX _ ⟨_,_,_,z⟩=>ag.of (z _ _ B4)) ?_ ?_⟩
     ·rintro j x σ HX hx ⟨Ds,Du,rfl,SX⟩
      obtain⟨lx,sm,rfl,yb,J4⟩:∃ (lx:Addr) (sm:List Str),x = .ref lx/\HX lx=some (.lst (sm.map V.str)) /\ ∀y∈sm,y∈ks:=by
       match j,hx with
       |0,hx=>cases hx;exact⟨lk,ks,rfl,SX _ _ (S8 _ _ IX),fun y hy=>hy⟩
       |1,hx=>cases hx;exact⟨l2,ks.dropLast,rfl,SX _ _ J3,fun y hy=>ab0 _ hy⟩
       |j+2,hx=>simp at hx
      have SY:=S8.trans SX;have LN:=SY _ _ Yx;have LO:=Yy.same SY;have Dv:=Dt.same ru SY;have YA:(dc.map (·.1)).Nodup:=by
       have:=Dn.map (·.1);rw[zt]at this;exact this.nodup_iff.mpr knd
      have YB:∀y,y∈dc.map (·.1) ↔ y∈ks:=fun y=>by
       have:=Dn.map (·.1);rw[zt]at this;exact this.mem_iff
      have fl:=LO.length;have fk8:dc.length<=8:=by
       have:=Dn.length_eq;unfold je at this;rw[ar]at this;omega
      refine⟨_,rfl,t,rfl,⟨_,.inl (.inr ⟨o,LN⟩)⟩,fun c hc=>?_⟩;refine vO (xs:=fs) (fun j ys τ J=>∃ (t0:Option V) (kvs:List (Str×V)),τ = [t0,some (.ref lx)]/\aw HX J/\J c=some (.lst ys)/\ik J ys kvs/\kvs.map (·.1)=((dc.take j).map (·.1)).filter (fun y=>decide (y∈sm))) ⟨none,[],rfl,aI hc,af,.nil,rfl⟩ (fun j ys τ J ⟨_,_,_,z,z2,_⟩=>⟨z2,.inl (.inr ⟨o,z _ _ LN⟩)⟩) ?_ ?_
      ·rintro j x ys τ J hx ⟨t0,kvs,rfl,SJ,hJ,pv,kv⟩
       have d5:j < fs.length:=(cZ.mp hx).1;obtain⟨q0,YC,b,b2,rfl,hb,iW⟩:=L2.Paired.get (LO.same SJ) hx;have tk:dc.take (j+1)=dc.take j ++ [q0]:=by rw[fY,YC];rfl
       have pl:=fk pv;have YD:=d9 List.length kv;rw[ar]at YD;have YE:=pT (fun y=>decide (y∈sm)) ((dc.take j).map (·.1));rw[ar,c4]at YE;refine⟨_,rfl,b,_,0,_,rfl,rfl,ao.of hb,fh,_,rfl,lx,_,rfl,.inl (ag.of (SJ _ _ yb)),rfl,sG _,_,rfl,?_⟩;rw[aj cz,vP];refine dw (fun h=>?_) (fun h=>?_)
       ·refine⟨_,rfl,hJ,by rw[aA];omega,cw_next d5 ⟨_,kvs ++ [(q0.1,.ref b2)],rfl,fun b' u' e'=>?_,af,?_,?_⟩⟩
        ·rw[ak (a7 e' hc)];exact SJ _ _ e'
        ·have up:∀b' xs,J b'=some (.tup xs)->upd J c (.lst (ys ++ [V.ref b])) b'=some (.tup xs):=fun b' xs e=>by rw[ak (eI e hJ (by intro z;cases z))];exact e
         exact EH (up _ _ hb) (OF pv up)
        ·rw[tk,cp,kv,cp,y8]
         congr 1
         show [q0.1]=List.filter _ [q0.1];rw[D5 (by simpa using h)];rfl
       ·refine cw_next d5 ⟨_,kvs,rfl,SJ,hJ,pv,?_⟩
        rw[tk,cp,y8,kv];show _=_++List.filter _ [q0.1];rw[D6 (by simpa using h)]
        simp
      ·rintro ys τ J ⟨t0,kvs,rfl,SJ,hJ,pv,kv⟩
       rw[fl,fX]at kv;refine⟨c,ys,rfl,.inl ⟨ag.of hJ,fun tt pG=>?_⟩⟩;have ST:=aI (o:= .tup ys) pG;have J5:upd J tt (.tup ys) tt=some (.tup ys):=af;have LP:=pv.same ST;generalize upd J tt (.tup ys)=HT at ST J5 LP ⊢;have SZ:=SJ.trans ST;refine⟨_,rfl,SO ⟨ys,kvs,J5,LP,kv,YA.sublist (ab8)⟩ (Dt.same Dv SZ) cK ke fun HU SU=>?_⟩;have yt:=SZ.trans SU;refine⟨_,rfl,dU vS (.bl (p:=p) _) ⟨_,rfl,?_⟩⟩;refine⟨_,rfl,_,rfl,_,rfl,SS (yt _ _ yb) (fun y hy=>uY y (J4 y hy)) (Dt.same Dv yt) cK ke fun HV SV=>⟨rfl,_,rfl,?_⟩⟩;rw[Oc (a:=(dc.map (·.1)).filter fun y=>decide (y∈sm)) (b:=sm) (fun y=>by
        rw[jQ,YB];simp only[ig];exact⟨fun z=>z.2,fun z=>⟨J4 y z,z⟩⟩) e,b4 (rfl:V.bl (iJ sm e)=V.bl (iJ sm e))]
       refine⟨_,rfl,p,u,e,rfl,Dt.same Dv (yt.trans SV),sh,by omega,sl,_,rfl,rfl,_,rfl,?_⟩
       rw[b4 (rfl:V.str e.shown=V.str e.shown)];exact⟨_,_,rfl,SX.trans (yt.trans SV)⟩
     ·rintro σ HX ⟨Ds,Du,rfl,SX⟩
      exact⟨_,_,_,_,_,_,_,_,_,_,_,rfl,fun b o z=>SX _ _ (S8 _ _ (p6.kp b o (PC.kp b o (S2 _ _ (S1 _ _ z)) (a7 (S1 _ _ z) hp)) (a7 (S1 _ _ z) hp)))⟩
end eM
namespace eM
open PySem L2 PySem.W
theorem all_mk {l:OpenLaw}{fa:Addr} (X:K.In h) (G:h.Ns mainGlobals mg) (jo:mg "law" = some (.ref fa)) {YF YG:Tok}
  (hd:xT K [pr "is_whole" zT,pr "is_name" sS,pr "are_rising" Ao,pr "is_entry" zU,pr "are_steps" sL,pr "is_step" Ap,pr "begins_with_text" Aq,pr "is_kind" Ar,pr "is_book" nZ,pr "is_triple" zD,pr "_law_pot" BF,pr "_law_digit" tE,pr "_law_names" lA,pr "_law_merged" jZ,pr "_law_line" tF,pr "_law_parents" zE,pr "_law_family" zV,pr "_law_family_tuple" sT,pr "_law_number" As,pr "_law_step" Bc,pr "_law_entry" tG,pr "_law_paths" qo,pr "_law_part" Bd,pr "_law_with" wO,pr "_law_odd" BG,pr "_law_turned" Au,pr "_law_spoilt" Av,pr "_law_is_name" tH,pr "_law_is_whole" Aw,pr "_law_is_step" AS,pr "_law_is_entry" sU,pr "_law_book" Be,pr "_law_book_tuple" sP,pr "_law_is_book" tI,pr "_law_rows_spoilt" Ax,pr "law" oE])
  (hz:BD K ["len","max","min","abs","range","any","all","list","tuple","enumerate","isinstance","str","dict","sorted","int","bool","set","repr"])
  (A1:nsIn K mainGlobals "MOST_STEPS" = some (some (.int 4 YF)))
  (A2:nsIn K mainGlobals "MOST_TIMES" = some (some (.int 9 YG))) :
  ∃fd:FuncData,(∀ (s:Shared) (v:Value),BindsTo s fd ⟨[v],[]⟩ [("_law_script",v)]) /\ ∀base:Heap,K.In base->base.Ns mainGlobals mg->aB l.prog w K mg base aC 24 fa fd ["_law_script"] (ow K):=by
 have z:∀x∈_,mg x=none:=Ha X G hz;obtain⟨YH,YI,YJ,YK,YL,YM,YN,YO,YQ,YR,hP,hD,hN,YS,YT,YU,YV,YW,YX,YY,YZ,Y0,Y1,Y2,Y3,Y4,Y5,Y6,Y7,Y8,Y9,Y',Za,Zb,Zc,hL,-⟩:=hd;obtain⟨fIw,dIw,Zd,LQ,LR,LS⟩:=gm X G YH "thing";obtain⟨fNm,dNm,Ze,yu,yv,yw⟩:=gm X G YI "thing";obtain⟨fRi,dRi,Zf,Zg,Zh,Zi⟩:=gm X G YJ "names";obtain⟨fIe,dIe,Zj,Zk,Zl,Zm⟩:=gm X G YK "thing";obtain⟨fAs,dAs,Zn,Zo,Zp,Zq⟩:=gm X G YL "thing";obtain⟨fIs,dIs,Zr,Zs,Zt,Zu⟩:=gm X G YM "thing";obtain⟨fBw,dBw,Zv,LU,LV,LW⟩:=gm X G YN "thing";obtain⟨fKd,dKd,Zw,Zx,Zy,Zz⟩:=jw X G YO "family" "thing";obtain⟨fBo,dBo,ZA,ZC,ZD,ZE⟩:=jw X G YQ "family" "thing";obtain⟨fTr,dTr,ZF,ZG,ZH,ZI⟩:=jw X G YR "family" "thing";obtain⟨fP,dP,FP,kP,bP,mP⟩:=jw X G hP "_law_script" "_law_k";obtain⟨fD,dD,FD,kD,bD,mD⟩:=jw X G hD "_law_pot_here" "_law_many";obtain⟨fN,dN,FN,kN,bN,mN⟩:=jw X G hN "_law_pot_here" "_law_many";obtain⟨fYm,dYm,ZJ,kYm,ZK,ZL⟩:=gm X G YS "_law_rows";obtain⟨fYn,dYn,ZM,ZN,ZO,ZP⟩:=qg X G YT "_law_lines" "_law_kind" "_law_own";obtain⟨fYp,dYp,ZQ,ZR,ZS,ZT⟩:=jw X G YU "_law_pot_here" "_law_made";obtain⟨fYf,dYf,ZU,ZV,ZW,ZX⟩:=jw X G YV "_law_pot_here" "_law_kinds";obtain⟨fYt,dYt,ZY,ZZ,Z0,Z1⟩:=gm X G YW "_law_parents_here";obtain⟨fNu,dNu,Z2,LX,LY,LZ⟩:=gm X G YX "_law_pot_here";obtain⟨fSt,dSt,Z3,Z4,Z5,Z6⟩:=qg X G YY "_law_pot_here" "_law_names_here" "_law_at";obtain⟨fEn,dEn,Z7,L3,L4,L5⟩:=qg X G YZ "_law_pot_here" "_law_names_here" "_law_at";obtain⟨fPz,dPz,Z8,L6,L7,L8⟩:=gm X G Y0 "_law_thing";obtain⟨fPt,dPt,Z9,Z',bPt,mPt⟩:=jw X G Y1 "_law_thing" "_law_path";obtain⟨fWi,dWi,FWi,L9,Ma,Mb⟩:=qg X G Y2 "_law_thing" "_law_path" "_law_part_here";obtain⟨fOd,dOd,FOd,Mc,Md,Me⟩:=gm X G Y3 "_law_pot_here";obtain⟨fTu,dTu,FTu,kTu,bTu,mTu⟩:=qg X G Y4 "_law_pot_here" "_law_part_here" "_law_way";obtain⟨fSp,dSp,FSp,kSp,bSp,mSp⟩:=jw X G Y5 "_law_pot_here" "_law_thing";obtain⟨fLn,dLn,FLn,Dw,Dx,Dy⟩:=gm X G Y6 "_law_thing";obtain⟨fLw,dLw,FLw,Mf,Mg,Mh⟩:=gm X G Y7 "_law_thing";obtain⟨fLt,dLt,FLt,kLt,bLt,mLt⟩:=gm X G Y8 "_law_thing";obtain⟨fLe,dLe,FLe,kLe,bLe,mLe⟩:=gm X G Y9 "_law_thing";obtain⟨fBk,dBk,FBk,kBk,bBk,mBk⟩:=qg X G Y' "_law_pot_here" "_law_kinds" "_law_names_here";obtain⟨fBt,dBt,FBt,kBt,bBt,mBt⟩:=gm X G Za "_law_book_here";obtain⟨fLb,dLb,FLb,kLb,bLb,mLb⟩:=jw X G Zb "_law_kinds" "_law_thing";obtain⟨fRr,dRr,FRr,kRr,bRr,mRr⟩:=QW X G Zc "_law_pot_here" "_law_thing" "_law_way" "_law_names_here";obtain⟨fL,dL,FL,aL⟩:=hL;cases jo.symm.trans (mg_of X G aL)
 have nz:∀ {x:Str},x∈_->mg x=none:=fun {x} m=>z x m;have Bl:cQ mg:=⟨nz (by decide),nz (by decide),nz (by decide),nz (by decide),nz (by decide),nz (by decide),nz (by decide),nz (by decide),nz (by decide),nz (by decide)⟩
 have B2:eF mg:=⟨nz (by decide),nz (by decide),nz (by decide),nz (by decide)⟩
 have B3:uc mg:=⟨nz (by decide),nz (by decide)⟩
 have Mi:mg "set" = none:=nz (by decide)
 obtain⟨_,_,_,_,_,_,_,_,_,rfl,_,_⟩:=FL.ex;exact⟨_,fun s v=>.of_eq rfl,fun base _ _ =>
  let GD:=zW FD
  let yx:=Ql Ze Bl B2
  let Mj:=Se Zv Bl B2
  let Mk:=Qj Zd B2 B3
  let GIs:=Qn Zr Bl (mg_of X G A2) Mj LU LV LW yx yu yv yw Mk LQ LR LS
  let GAs:=Q7 Zn Bl B2 (mg_of X G A1) GIs Zs Zt Zu
  let GIe:=Q8 Zj Bl Mj LU LV LW yx yu yv yw Mk LQ LR LS GAs Zo Zp Zq
  let Dz:=Qp FLn Bl B2
  let Ml:=Pa FLw B2 B3
  let GLt:=Qq FLt Bl B2 Dz Dw Dx Dy Ml Mf Mg Mh
  let GLe:=Rb FLe Bl B2 Dz Dw Dx Dy Ml Mf Mg Mh GLt kLt bLt mLt
  let Mm:=So Z2 GD kD bD mD
  let GSt:=Ss Z3 Bl GD kD bD mD Mm LX LY LZ
  let Mn:=Su Z7 Bl GD kD bD mD Mm LX LY LZ GSt Z4 Z5 Z6
  let Mo:=SA FOd GD kD bD mD
  let GTu:=Pg FTu Bl B2 B3 GD kD bD mD Mo Mc Md Me
  let GSp:=Pj FSp Bl GD kD bD mD Mo Mc Md Me GTu kTu bTu mTu (Gg Z8 Bl B2 L6 L7 L8 20) L6 L7 L8 (Rf Z9) Z' bPt mPt (Hk FWi Bl B2 L9 Ma Mb 20) L9 Ma Mb
  let GKd:=Uq Zw B2 yx yu yv yw
  let GTr:=Us ZF Bl B2 GKd Zx Zy Zz yx yu yv yw GIe Zk Zl Zm
  let GRi:=Rt Zf B2 Mi
  let GBo:=SR ZA Bl B2 GTr ZG ZH ZI GRi Zg Zh Zi
  let GLb:=SW FLb Bl B2 Mi Dz Dw Dx Dy GLe kLe bLe mLe
  let GBk:=Rp FBk Bl GD kD bD mD Mn L3 L4 L5
  let GBt:=Um FBt Bl B2
  let GRr:=Uv FRr Bl B2 GD kD bD mD GSp kSp bSp mSp Mn L3 L4 L5
  let GYf:=T9 ZU Bl B2 (R6 ZQ Bl FD bD mD) ZR ZS ZT (T5 ZM Bl ZJ ZK ZL) ZN ZO ZP
  let GYt:=Ub ZY Bl B2
  let GP:=RZ FP Bl
  let GN:=Qi FN Bl FD bD mD
  Tb FL Bl B2 B3 (nz (by decide)) GP kP bP mP GD kD bD mD GN kN bN mN GYf ZV ZW ZX GYt ZZ Z0 Z1 GBk kBk bBk mBk GBt kBt bBt mBt GRr kRr bRr mRr GBo ZC ZD ZE GLb kLb bLb mLb⟩
theorem walk {l:OpenLaw}{q:Program}{d:DefRec}{K:Params->Frag} (hn:l.most=some 63) (uw:d.params.defaults = [])
  (hY:∀ (w:World) (h:Heap),YP w h->(K w.params).In h)
  (F:∀ (w:World) (mg:Str->Option Value) (fa:Addr) (h:Heap),(K w.params).In h->h.Ns mainGlobals mg->mg d.name=some (.ref fa) ->
   ∃fd:FuncData,(∀ (s:Shared) (u:Value),BindsTo s fd ⟨[u],[]⟩ [("_law_script",u)]) /\ ∀base:Heap,(K w.params).In base->base.Ns mainGlobals mg->aB l.prog w (K w.params) mg base aC 24 fa fd ["_law_script"] (ow (K w.params))) :
  WalkO q loose XP YP l.row.toRowW d [] (fun f vs=>PySem.call f vs):=
 L2.QD (n:=63) (k:=24) (x:= "_law_script") (CX:=fun _=>aC) (sp:=fun w=>ow (K w.params)) hn (by decide) uw ⟨rfl,by decide,by decide,rfl⟩ hY F (fun _ _ a ns hl _ hS=>by unfold ow;exact⟨a,ns,rfl,hS,hl,fun _=>rfl⟩) fun _ _ _ _ _ z=>z
end eM
namespace PySem.W.Fast
def tw8677072668227383303:=0
def tw11493757186453965191:=0
def tw1946814031926334164:=0
def tw7794980628135186390:=0
def tw18129417874367270603:=0
def tw14235323519584292402:=0
def tw12187662842251458651:=0
def tw1124943082486178210:=0
def tw2326730705828143661:=0
def tw11213854068234258896:=0
def tw4669760406022952401:=0
def tw2893364778348823590:=0
def tw9640886248032700717:=0
def tw2256371598887742936:=0
def tw1940424724968686277:=0
def tw12873128081988568231:=0
def tw8976773316895712950:=0
def tw6415443662472289735:=0
def tw13475259787479199264:=0
def tw13263450194387013582:=0
def tw11179210183086667917:=0
def tw13691394003936987816:=0
def tw16483112864216019299:=0
def tw3870476101276053608:=0
def tw17572661409708951675:=0
def tw14349206983858730616:=0
def tw18397057832393536198:=0
def tw15537729067026288229:=0
def tw7185622113002064716:=0
def tw6471929918773623262:=0
def tw14748520193435124073:=0
def tw11363805760487486091:=0
def tw1080251467719041455:=0
def tw1415328090605844616:=0
def tw10792262564722699973:=0
def tw7095353889884629973:=0
def tw11027698855871863135:=0
def tw7978515188303560914:=0
def tw4982928028414374942:=0
def tw18319988804295532388:=0
def tw2352645115337349042:=0
def tw15484010289354304605:=0
def tw10118679906358737666:=0
def tw18229117135143291684:=0
def tw4525790495661809769:=0
def tw1598691610180658614:=0
def tw9513415719388231995:=0
def tw18294814544360813542:=0
def tw7862169713604817824:=0
def tw13423527918635304404:=0
def tw2391037528827620699:=0
def tw13668924321698276299:=0
def tw17567091032594028969:=0
def tw9262637523862360561:=0
def tw14633653948072802580:=0
def tw2225149847137283988:=0
def tw13133332693950705119:=0
def tw14887437634496448559:=0
def tw12993127759864772958:=0
def tw11974072235999899173:=0
def tw7003859422075411496:=0
def tw6592189934243288700:=0
def tw4184713031564586583:=0
def tw480096667890891269:=0
def tw10355907317238689268:=0
def tw2337596683660795952:=0
def tw15071405500692920245:=0
def tw10768187791218276568:=0
def tw10716804546724343267:=0
def tw8750656774553911623:=0
def tw4262028167716636802:=0
def tw7252663795779353858:=0
def tw124097004650177041:=0
def tw12725282853260648801:=0
def tw12185409246155391234:=0
def tw11128638239876456879:=0
def tw2197623443010233632:=0
def tw13563028659385486:=0
def tw8207203751847182611:=0
def tw17349568929434194013:=0
def tw17271229719470284092:=0
def tw1682253480784272801:=0
def tw11225658696227523303:=0
def tw8317822713791287013:=0
def tw14755227453074332656:=0
def tw6511177647060575873:=0
def tw4316370388157862040:=0
def tw3811913236048898079:=0
def tw12126442193089946721:=0
def tw18102035338385053836:=0
def tw11517977754022665351:=0
def tw9869256999900408417:=0
def tw13770722828399590855:=0
def tw8754520301880670090:=0
def tw2453191067219657010:=0
def tw12557219703732117527:=0
def tw16024734120168742567:=0
def tw11352113298315340487:=0
def tw11525046856756301666:=0
def tw6189301589656415999:=0
def tw7349020298642631608:=0
def tw4734455415789299547:=0
def tw9793496940593273264:=0
def tw4769288226665473914:=0
def tw7200593856379638311:=0
def tw14085636103891843027:=0
def tw1891428315080842489:=0
def tw9167418333594511823:=0
def tw15105073741481528063:=0
def tw5034079265197474556:=0
def tw1284921419060549076:=0
def tw6071413627468013337:=0
def tw4797109820504859936:=0
def tw1020694938430110212:=0
def tw4147765645609430204:=0
def tw1630102113200969670:=0
def tw11864551276932680043:=0
def tw3958699158315494726:=0
def tw15773888077187763439:=0
def tw14750411010197012001:=0
def tw6956644274964818344:=0
def tw9932211518096846569:=0
def tw13159089023791751294:=0
def tw4321065981177303722:=0
def tw4194034327473436562:=0
def tw3638254778457073094:=0
def tw17301693074991535486:=0
def tw15892997383619300526:=0
def tw17318776343297598991:=0
def tw2000557555856588668:=0
def tw872367640184033201:=0
def tw1520677147140064365:=0
def tw10855816548790517254:=0
def tw5206538175724919831:=0
end PySem.W.Fast
open PySem PySem.W PyProof.Rows
set_option maxRecDepth 100000 in
set_option maxHeartbeats 0 in
theorem PySem.Challenge.cw_parentlines_k32_books_told_apart_holds : PySem.Challenge.rw_parentlines_k32_books_told_apart.Holds := by
 w_on;o_law;k_head;(case hw=>w_witness2)
 k_fill
 refine eM.walk (l:=PySem.Challenge.rw_parentlines_k32_books_told_apart) rfl rfl (fun w h Y=>PySem.W.kIn_of Y) ?F
 case F =>
  intro w mg fa h KX G ux;refine' eM.all_mk KX G ux ?d ?z ?A1 ?A2
  (case d=>(repeat (refine' L2.TX ?a ?l ?c ?k ?_;(case a=>k_is);(case l=>k_is);(case c=>k_is);(case k=>k_is)));exact trivial)
  (case z=>(repeat' first|exact trivial|refine And.intro ?_ ?_) <;> k_is)
  (case A1=>k_is)
  (case A2=>k_is)
