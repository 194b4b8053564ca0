import PyProof.Rows.All
import Wide.All
import OpenK.AllK
import Wide.FinOn
import Lean
import PyProof.EqAt
import PyProof.EqKinds
import PyProof.TupleCall
import PyProof.ReprRoads
import PyProof.ReprBulk
import PyProof.EnumMake
import PyProof.EnumFor
import KE.KRevSl
import KE.KDictList
import PyProof.ZipIter
import PyProof.AttrMissHeap
import KE.KDictOf
import KE.KItemsList
import PyProof.Rows.ZipGen
import PyProof.CallFns
import PyProof.NsDelKeeps
import PyProof.StrWalks
import PyProof.FString5
import KE.KSortTup
import PyProof.SetRoads
import PyProof.SetNew
import PyProof.Rows.SetFrom
import PyProof.WalksMore
import PyProof.ForAny
import PyProof.DictWalks
import PyProof.P3Eq
import PyProof.StrLawsIn
import PySem.Challenge.RW_parentlines_k28_refusals_of_families
set_option Elab.async false
set_option linter.all false
set_option maxRecDepth 100000
set_option maxHeartbeats 4000000
def ag:=@PySem.wpAny_bind
def ao:=@if_neg
def au:=@if_pos
def aA:=@PySem.wpAny_pure
def aE:=@List.length_map
def aH:=@Ne.symm
def aI:=@PySem.sizeLine_eq
def aK:=@Nat.le_refl
def aV:=@List.mem_cons_self
def aW:=@PySem.Heap.lt_size
def aY:=@List.mem_cons
def bj:=@List.map_append
def bw:=@List.mem_map
def bT:=@Nat.ne_of_lt
def bU:=@PySem.Heap.get?_push_of_some
def bV:=@List.mem_cons_of_mem
def bX:=@Nat.zero_le
def b4:=@List.getElem?_eq_getElem
def cf:=@List.map_cons
def cu:=@List.getElem?_eq_some_iff
def cD:=@List.size_toArray
def cK:=@Nat.le_trans
def cO:=@List.length_cons
def cX:=@Bool.false_ne_true
def cY:=@List.length_append
def cZ:=@decide_eq_true
def dh:=@List.length_take
def dX:=@List.mem_append
def dZ:=@List.take_succ
def d5:=@List.mem_singleton
def eu:=@PySem.wpAny_holding
def eF:=@List.take_length
def eM:=@PySem.Heap.get?_push_size
def eN:=@beq_iff_eq
def eO:=@List.getD_eq_getElem?_getD
def eY:=@congrArg
def fh:=@List.append_nil
def fq:=@List.mem_append_right
def fZ:=@Option.some.inj
def f6:=@List.getElem?_map
def gv:=@decide_eq_false
def gx:=@Nat.lt_of_lt_of_le
def gD:=@List.mem_filter
def gE:=@List.nodup_cons
def gF:=@List.length_singleton
def gP:=@List.mem_of_getElem?
def gQ:=@PySem.wpAny_field
def iK:=@List.filter_append
def iU:=@List.lookup_cons
def iV:=@Option.map_eq_some_iff
def iW:=@List.all_eq_true
def iX:=@List.getElem_mem
def iY:=@List.length_filter_le
def jA:=@Bool.and_eq_true
def jB:=@PySem.boot_len
def jX:=@PySem.Heap.get?_update_other
def jY:=@Bool.and_eq_true_iff
def jZ:=@List.not_mem_nil
def j3:=@or_false
def j4:=@PySem.PassesOwn.never
def lJ:=@PySem.codeAny_builtin
def mx:=@PySem.Paired.length
def my:=@PySem.wpAny_truthy_bool
def mz:=@Array.length_toList
def mE:=@if_true
def mI:=@List.nodup_append
def mJ:=@PySem.F.plainAttrs_list
def nU:=@List.mem_range
def nV:=@PySem.wpAny_mono
def nW:=@PySem.wpAny_rule
def nX:=@PySem.W.kia_one
def nY:=@Array.getD_eq_getD_getElem?
def pA:=@beq_eq_false_iff_ne
def pB:=@Nat.lt_irrefl
def pC:=@List.mem_append_left
def pD:=@PySem.wpAny_standAt
def pE:=@PySem.wpAny_call
def pF:=@PySem.mem_of_lookup
def pG:=@Nat.le_succ
def pH:=@of_decide_eq_true
def pI:=@List.map_map
def pJ:=@PySem.F.slot_list_append
def pK:=@PySem.F.type_list_append
def qF:=@List.mem_filterMap
def qG:=@PySem.wpAny_newObj_type
def qH:=@PySem.codeAny_mono
def qI:=@PySem.wpAny_Call_Name_kw
def qJ:=@PySem.wpAny_typeOf
def qK:=@PySem.Heap.get?_update_self
def qL:=@PySem.Around.under_plainId
def qM:=@List.nodup_nil
def qN:=@List.filter_cons
def qO:=@Nat.lt_of_le_of_lt
def qP:=@Nat.add_le_add_left
def qQ:=@Int.eq_ofNat_of_zero_le
def tm:=@if_false
def tq:=@List.any_cons
def tw:=@List.any_eq_true
def tx:=@PySem.F.called_set
def tD:=@List.filter_cons_of_pos
def tF:=@List.all_map
def vF:=@Sum.inr.inj
def vG:=@Nat.le_of_lt
def vH:=@PySem.Heap.get?_none_of_le
def vI:=@PySem.wpAny_passesOwn
def vJ:=@Bool.eq_iff_iff
def vK:=@PySem.wpAny_call_entry
def vL:=@Nat.lt_trans
def vM:=@PySem.plainId_quiet
def vN:=@PySem.wpAny_setField
def vO:=@List.filter_cons_of_neg
def yN:=@PySem.wpAny_execs_nil
def yO:=@PyProof.Rows.slot_tuple_getitem
def yP:=@PySem.Heap.size_push
def yQ:=@PySem.W.any_some
def yR:=@PySem.wpAny_loadPart
def yS:=@List.length_nil
def yT:=@Array.getElem?_eq_some_iff
def yU:=@List.find?_cons
def yV:=@PySem.wpAny_throw
def yW:=@PySem.Heap.UpToSlots.trans
def yX:=@Nat.le_add_right
def yY:=@List.Perm.refl
def yZ:=@List.take_of_length_le
def y4:=@List.mem_of_mem_take
def BG:=@Option.map_some
def BH:=@Nat.ne_of_gt
def BI:=@PySem.wpAny_pyIter_list
def BJ:=@PySem.wpAny_callSpecial?_slot
def BK:=@Bool.false_eq_true
def BL:=@PySem.wpAny_loadPart_at
def BM:=@PySem.F.store_object
def BN:=@PySem.W.looks_mroIn
def BO:=@PySem.W.callWith_K
def BP:=@List.length_range
def BQ:=@List.length_filterMap_le
def BR:=@Array.size_append
def BS:=@List.drop_eq_getElem_cons
def BU:=@List.getElem_of_mem
def BV:=@PySem.W.hideAll_none
def BW:=@List.getElem?_eq_none
def BX:=@Nat.not_lt_zero
def BY:=@List.map_congr_left
def BZ:=@List.pairwise_map
def B1:=@Bool.and_true
def B3:=@PySem.PassesOwn.leaving
def B4:=@List.filter_nil
def B5:=@List.eq_nil_of_length_eq_zero
def B6:=@decide_eq_decide
def Iy:=@PyProof.Rows.callWith_type1
def Iz:=@List.of_mem_zip
def IA:=@List.take_sublist
def IB:=@Int.toNat_natCast
def IC:=@List.length_drop
def ID:=@PySem.seqIndex_of
def IE:=@List.all_cons
def IF:=@List.reverse_cons
def IG:=@PySem.call_meets
def IH:=@Array.getElem?_toList
def II:=@PySem.Code.quiet_builtin
def IJ:=@PySem.codeAny_call_builtin
def IK:=@PySem.wpAny_attempt
def IL:=@Option.bind_some
def IM:=@PySem.W.Looks.here
def IP:=@PySem.F.excBase_ValueError
def IQ:=@PySem.wpAny_getItem_str_slice
def IS:=@PySem.post_val_or_str
def IT:=@Array.toList_inj
def IU:=@List.any_map
def IV:=@PySem.F.plain_any_loop
def IW:=@List.length_reverse
def IX:=@PySem.tupleKind_room_in1
def IY:=@PySem.wpAny_runValue
def IZ:=@PySem.wpAny_seqItems
def I0:=@PySem.wpAny_newList
def Ja:=@PySem.Heap.SameBut.update
def Jb:=@Array.getElem?_eq_getElem
def Jc:=@List.sum_cons
def Jd:=@List.drop_length
def Je:=@List.mem_of_mem_drop
def Jf:=@Int.emod_nonneg
def Jg:=@Int.emod_lt_of_pos
def Jh:=@List.map_take
def Ji:=@decide_eq_true_eq
def Q0:=@PySem.wpAny_eqBool_str
def Q3:=@List.filterMap_cons
def Q4:=@List.getElem?_set_self
def Q5:=@List.getElem?_set_ne
def Q6:=@PySem.wpAny_execs_cons
def Q7:=@PyProof.Rows.assignInOrder_cons
def Q8:=@List.any_eq_false
def Q9:=@PySem.W.cellsFrom_some
def Rb:=@PySem.noFill_tuple_add
def Rc:=@PySem.seq_tuple_add
def Rf:=@PySem.F.slot_tuple_add
def Rg:=@PySem.F.entry_tuple_add
def Rh:=@PySem.F.args_tuple_add_2
def Ri:=@Int.ediv_one
def Rj:=@PySem.evalPart_none
def Rk:=@PySem.slot_list_getitem
def Rl:=@Bool.or_false
def Rm:=@List.lookup_append
def Rn:=@PySem.wpAny_noRaise
def Ro:=@PySem.wpAny_comprehension_free
def Rp:=@PySem.codeAny_of_tree
def Rq:=@List.length_pos_of_mem
def Rr:=@List.mem_erase_of_ne
def Rt:=@Bool.false_or
def Ru:=@Nat.not_lt
def Rv:=@List.drop_of_length_le
def Rw:=@List.drop_zero
def Rx:=@Option.isSome_map
def Rz:=@PySem.Obj.data_mapFields
def RB:=@PySem.F.slot_tuple_getattribute
def RC:=@List.ext_getElem
def RF:=@Nat.lt_succ_of_lt
def RG:=@PyProof.Rows.F.plain_set_update_loop
def RH:=@Nat.lt_succ_self
def RI:=@List.getElem?_inj
def RJ:=@PySem.ReadAtMost.cons
def RK:=@List.map_drop
def RL:=@List.mem_reverse
def RM:=@List.map_reverse
def RN:=@List.filter_eq_self
def RO:=@Nat.min_eq_left
def RP:=@Nat.min_eq_right
def RQ:=@List.mem_of_head?
def RS:=@List.map_id'
def RT:=@Bool.true_and
def RU:=@PySem.SeqAt.eqv_refl
def ahg:=@PySem.Calls.Name_function_global
def ahn:=@Option.isSome_iff_exists
def aho:=@List.getElem?_append_right
def ahp:=@List.getElem?_append_left
def ahs:=@PySem.wpAny_newFunctionEnv_cells
def aht:=@PyProof.Rows.callWith_builtin1
def ahD:=@PySem.F.attrBase_ValueError
def ahG:=@PySem.plainObj_wpAny_Assign_Attribute
def ahH:=@List.length_erase_of_mem
def ahI:=@List.getElem_toArray
def ahK:=@PySem.codeAny_handlers_suite_as
def ahN:=@List.take_append_drop
def ahO:=@Array.perm_iff_toList_perm
def ahQ:=@PySem.Calls.call_function_entry
def ahT:=@Nat.lt_of_succ_lt_succ
def ahU:=@List.pairwise_singleton
def ahV:=@PySem.F.plain_list_iadd
def ahY:=@Classical.choose_spec
def ahZ:=@List.nodup_iff_pairwise_ne
def ah0:=@List.getElem?_zip_eq_some
def ah1:=@List.length_pos_iff
def ah3:=@List.countP_eq_length_filter
def ah4:=@List.length_dropLast
def ah5:=@List.cons_lt_cons_iff
def ah6:=@List.filter_sublist
def ah7:=@Option.map_eq_none_iff
variable{us its:List PySem.Value}{x qual name cn:PySem.Str}{u cd doc pm cdv ct oc vl vu:PySem.Value}{a b it t l p C f sl B fI d z l2 fW fL fR fD fM fN fK fC fQ:PySem.Addr}{h h' g base h0:PySem.Heap}{items:Array PySem.Value}{P prog q:PySem.Program}{w:PySem.World}{e tg iter elt value:PySem.Expr}{L Ps:PySem.Str->List PySem.Str}{pins:List (PySem.Addr×PySem.Obj)}{s s' s1 s2:PySem.Shared}{t' i j n n1 m:Nat}{ch fp:List PySem.Addr}{N ps loose N' r own done ks:List PySem.Str}{A:PySem.Around}{pos pos' apos tp:PySem.Pos}{rest rows:List (List PySem.Str)}{K:PySem.W.Frag}{c:Nat->PySem.Addr}{es ifs elts:List PySem.Expr}{body:List PySem.Stmt}{lo:Int}{dx an od:Option PySem.Addr}{mA mg:PySem.Str->Option PySem.Value}{env:PySem.Env}{kw:List (PySem.Str×PySem.Value)}{outer:List PySem.Env}{fd ql oO dL dN dR qm dW dQ dD:PySem.FuncData}{kindOf:PySem.Str->Option PySem.NameKind}{sc scope:PySem.Scope}{nC:Array (Option PySem.Value)}{T:String}{hi:Option Int}{XP:(PySem.Str->Option PySem.Value)->PySem.Heap->Prop}{YP:PySem.World->PySem.Heap->Prop}{ns:List Int}{cells:List (PySem.Str×PySem.Addr)}{cE:List (Option Nat)}{R:PySem.Result->PySem.Shared->Prop}{ox ol:PySem.Obj}{tk:PySem.Tok}{hv:Option PySem.Value}{av:PySem.Addr->Prop}{aa:List (PySem.Str×List PySem.Str)}
namespace L2
open PySem PySem.Spec PyProof.Rows
abbrev Key:=Sum Int Str
def uj:Key->Value->Bool
 |.inl k,v=>Value.isInt k v
 |.inr x,v=>Value.isStrOf x v
def Zb (w:World):Key->Int
 |.inl k=>hashInt k
 |.inr x=>hashStr w x
theorem nZ:∀ {k:Key}{v:Value},uj k v=true->(∃i t,k=Sum.inl i/\v=Value.int i t)\/(∃x t,k=Sum.inr x/\v=Value.str x t)
 |.inl i,v,h=>by
  obtain⟨t,e⟩:=Value.isInt_shape (k:=i) (v:=v) h;exact .inl ⟨i,t,rfl,e⟩
 |.inr x,v,h=>by
  obtain⟨t,e⟩:=Value.isStrOf_shape (x:=x) (v:=v) h;exact .inr ⟨x,t,rfl,e⟩
theorem Tv (i:Int) (t:Tok):uj (.inl i) (.int i t)=true:=by simp[uj,Value.isInt]
theorem Tw (x:Str) (t:Tok):uj (.inr x) (.str x t)=true:=by simp[uj,Value.isStrOf]
theorem WO (a b:Int):decide ((Sum.inl a:Key)=Sum.inl b)=(a==b):=by
 by_cases e:a=b
 ·subst e;simp
 ·have h : ¬ (Sum.inl a:Key)=Sum.inl b:=fun q=>e (Sum.inl.inj q)
  rw[gv h];exact(pA.mpr e).symm
theorem WQ (a b:Str):decide ((Sum.inr a:Key)=Sum.inr b)=decide (a=b):=by
 by_cases e:a=b
 ·subst e;simp
 ·have h : ¬ (Sum.inr a:Key)=Sum.inr b:=fun q=>e (vF q)
  rw[gv h,gv e]
theorem WR (a:Int) (b:Str):decide ((Sum.inl a:Key)=Sum.inr b)=false:=gv (fun q=>nomatch q)
theorem WS (a:Str) (b:Int):decide ((Sum.inr a:Key)=Sum.inl b)=false:=gv (fun q=>nomatch q)
def c9 (prog:Program) (w:World):PySem.KeyKind prog w Key where
 is:=uj
 hash:=Zb w
 inj:=fun v a b ha hb=>by
  rcases nZ ha with⟨i,t,rfl,rfl⟩|⟨x,t,rfl,rfl⟩
  ·rcases nZ hb with⟨j,u,rfl,e⟩|⟨y,u,rfl,e⟩
   ·injection e with e1 _;rw[e1]
   ·exact nomatch e
  ·rcases nZ hb with⟨j,u,rfl,e⟩|⟨y,u,rfl,e⟩
   ·exact nomatch e
   ·injection e with e1 _;rw[e1]
 byValue:=fun k v h=>by
  rcases nZ h with⟨i,t,rfl,rfl⟩|⟨x,t,rfl,rfl⟩ <;> rfl
 pyHash:=fun hv h=>by
  rcases nZ hv with⟨i,t,rfl,rfl⟩|⟨x,t,rfl,rfl⟩
  ·exact wpAny_pyHash_int h
  ·exact wpAny_pyHash_str h
 eqBool:=fun hu hv h=>by
  rcases nZ hu with⟨i,t,rfl,rfl⟩|⟨x,t,rfl,rfl⟩
  ·rcases nZ hv with⟨j,u,rfl,rfl⟩|⟨y,u,rfl,rfl⟩
   ·rw[WO]at h;exact wpAny_eqBool_int h
   ·rw[WR]at h;exact SeqAt.EqAt.int_str i t y u _ _ _ _ h
  ·rcases nZ hv with⟨j,u,rfl,rfl⟩|⟨y,u,rfl,rfl⟩
   ·rw[WS]at h;exact SeqAt.EqAt.str_int x t j u _ _ _ _ h
   ·rw[WQ]at h;exact Q0 h
 «strs» :=fun k x t v h=>by
  rcases nZ h with⟨i,u,rfl,e⟩|⟨y,u,rfl,e⟩
  ·exact nomatch e
  ·injection e with e1 _
   subst e1;cases v <;> rfl
theorem Sg (prog:Program) (w:World) (i:Int) (t:Tok):(c9 prog w).is (.inl i) (.int i t)=true:=Tv i t
theorem Sh (prog:Program) (w:World) (x:Str) (t:Tok):(c9 prog w).is (.inr x) (.str x t)=true:=Tw x t
inductive V where
 |ax|bl (b:Bool)|int (i:Int)|str (x:Str)|jN (b:Array UInt8)|jO (b:UInt64)|ref (a:Addr)|ty (n:String)
 deriving DecidableEq
def RelV:V->Value->Prop
 |.ax,u=>u=Value.none
 |.bl b,u=>u=Value.bool b
 |.int i,u=>∃t,u=Value.int i t
 |.str x,u=>∃t,u=Value.str x t
 |.jN b,u=>∃t,u=Value.bytes b t
 |.jO b,u=>∃t,u=Value.float b t
 |.ref a,u=>u=Value.ref a
 |.ty n,u=>u=Value.type n
abbrev Vals:List V->List Value->Prop:=Paired RelV
theorem Vals.length {xs:List V} (r:Vals xs us):xs.length=us.length:=mx r
theorem Vals.get:∀ {xs:List V}{us:List Value}{i:Nat}{x:V},Vals xs us->xs[i]? = some x -> ∃u,us[i]? = some u/\RelV x u
 |_,_,_,_,.nil,e=>by simp at e
 |_,_,0,_,.cons r _,e=>by simp at e;subst e;exact⟨_,rfl,r⟩
 |_,_,i+1,x,.cons _ t,e=>by
  obtain⟨u,h1,h2⟩:=Vals.get (i:=i) (x:=x) t (by simpa using e)
  exact⟨u,by simpa using h1,h2⟩
theorem Vals.set {x:V}{u:Value} (r:RelV x u):∀ {xs:List V}{us:List Value} (i:Nat),Vals xs us->Vals (xs.set i x) (us.set i u)
 |_,_,_,.nil=>.nil
 |_,_,0,.cons _ t=>.cons r t
 |_,_,i+1,.cons q t=>.cons q (Vals.set r i t)
theorem Vals.append:∀ {xs ys:List V}{us ws:List Value},Vals xs us->Vals ys ws->Vals (xs++ys) (us++ws)
 |_,_,_,_,.nil,s=>s
 |_,_,_,_,.cons r t,s=>.cons r (Vals.append t s)
theorem Vals.take:∀ {xs:List V}{us:List Value} (n:Nat),Vals xs us->Vals (xs.take n) (us.take n)
 |_,_,0,_=>.nil
 |_,_,_+1,.nil=>.nil
 |_,_,n+1,.cons r t=>.cons r (Vals.take n t)
theorem Vals.drop:∀ {xs:List V}{us:List Value} (n:Nat),Vals xs us->Vals (xs.drop n) (us.drop n)
 |_,_,0,r=>r
 |_,_,_+1,.nil=>.nil
 |_,_,n+1,.cons _ t=>Vals.drop n t
def ix:Option V->Option Value->Prop
 |some v,some u=>RelV v u
 |none,none=>True
 |_,_=>False
def KV {κ:Type}:List (κ×V)->List (κ×Value)->Prop:=Paired fun(p:κ×V) (q:κ×Value)=>p.1=q.1/\RelV p.2 q.2
def kV:Key->V
 |.inl i=>.int i
 |.inr x=>.str x
inductive HO where
 |lst (xs:List V)
 |tup (xs:List V)
 |dK (kvs:List (Key×V))|dT (kvs:List (List Key×V))
 |set (S:Int->Bool) (n:Nat)
 |ins (C dx:Addr) (fs:List (Str×V))
 |own (x:Addr)
 |xd (fs:List (Str×V))
 |met (f x:Addr)
 |xK (lo hi:Int)
 |cQ (o:Obj) (u:HO)
 |oP (ps:Array Value)
 |ext (φ:Heap->Prop)
abbrev Hp:=Addr->Option HO
def upd (H:Hp) (a:Addr) (o:HO):Hp:=fun b=>if b=a then some o else H b
theorem af {H:Hp}{o:HO}:upd H a o a=some o:=by unfold upd;rw[au rfl]
theorem ai {H:Hp}{o:HO} (h:b≠a):upd H a o b=H b:=by unfold upd;rw[ao h]
theorem gR {H:Hp}{o u:HO}:upd (upd H a o) a u=upd H a u:=by
 funext b;unfold upd;split <;> rfl
theorem b6 {H:Hp}{o u:HO} (h:H a=some o) (h':H b=some u) (d:o≠u):a≠b:=by
 intro e;subst e;rw[h]at h';exact d (fZ h')
theorem aq {H:Hp}{o:HO} (h:H a=some o) (h':H b=none):a≠b:=by
 intro e;subst e;rw[h]at h';cases h'
def qa (h:Heap) (a:Addr) (items:Array Value):Prop:= ∃o,h.get? a=some o/\o.cls = .type "tuple" /\ ∃n,o.data = .seq items n/\o.dict=none
theorem qa.is (x:qa h a items):IsTup h a items:=let ⟨o,e,c,n,d,_⟩:=x;⟨o,e,c,n,d⟩
theorem qa.new (h:Heap) (items:Array Value):qa (h.push { cls:= .type "tuple",data:= .seq items }) h.objs.size items:=⟨_,eM _ rfl,rfl,_,rfl,rfl⟩
section
variable (P:Program) (w:World)
def br (H:Hp) (h:Heap) (a:Addr):HO->Prop
 |.lst xs=>xs.length<=sizeLine /\ ∃ (its:List Value) (n:Nat),Vals xs its/\h.get? a=some { cls:= .type "list",data:= .seq its.toArray n }
 |.tup xs=>xs.length<=sizeLine /\ ∃its:List Value,Vals xs its/\qa h a its.toArray
 |.dK kvs=>kvs.length<=sizeLine/\(a==sysModules)=false /\ ∃vs,KV kvs vs/\h.DictOf (c9 P w) a vs
 |.dT kvs=>kvs.length<=sizeLine/\(a==sysModules)=false /\ ∃xs:List (List Key×Addr×Value),
   Paired (fun(p:List Key×V) (q:List Key×Addr×Value)=>p.1=q.1/\H q.2.1=some (.tup (p.1.map kV))/\RelV p.2 q.2.2) kvs xs /\
   ∃o es ep,h.get? a=some o/\o.ExactDict/\o.data = .dict es ep/\es.toList=xs.map (entryOfKey (tupleKind (c9 P w)))/\(xs.map (·.1)).Nodup
 |.set S n=>h.SetOf (intKind P w) a S n
 |.ins C dx fs=>H dx=some (.own a)/\fs.length<=1000/\dx≠a/\h.get? a=some (PySem.W.instObj C dx) /\
   ∃mA,h.Ns1 dx mA/\(∀f,ix (fs.lookup f) (mA f))/\PySem.Within mA (fs.map (·.1))
 |.own _=>∃o,h.get? a=some o
 |.xd fs=>∃mA,h.Ns1 a mA /\ ∀f,ix (fs.lookup f) (mA f)
 |.xK lo hi=>∃t u v,h.get? a=some { cls:= .type "range",data:= .fields #[.int lo t,.int hi u,.int 1 v] }
 |.cQ o u=>h.get? a=some o/\br H h a u
 |.oP ps=>h.get? a=some { cls:= .none,data:= .fields ps }
 |.met f x=>h.get? a=some (PySem.W.methodObj (.ref f) (.ref x))
 |.ext φ=>φ h/\(∃o,h.get? a=some o) /\ ∀h1 h2:Heap,φ h1->(∀o,h1.get? a=some o->h2.get? a=some o)->φ h2
def cI (H:Hp) (h:Heap):Prop:= ∀a o,H a=some o->br P w H h a o
end
section
variable{H H':Hp}{o:HO}
theorem br.lt (x:br P w H h a o):a < h.objs.size:=by
 cases o with
 |lst xs=>obtain⟨_,_,_,_,e⟩:=x;exact aW e
 |tup xs=>obtain⟨_,_,_,p⟩:=x;exact p.is.lt
 |dK kvs=>obtain⟨_,_,_,_,o,_,_,e,_⟩:=x;exact aW e
 |dT kvs=>obtain⟨_,_,_,_,o,_,_,e,_⟩:=x;exact aW e
 |set S n=>obtain⟨o,_,_,_,e,_⟩:=x;exact aW e
 |ins C dx fs=>obtain⟨_,_,_,e,_⟩:=x;exact aW e
 |own y=>obtain⟨_,e⟩:=x;exact aW e
 |xd fs=>obtain⟨_,⟨_,_,_,e,_⟩,_⟩:=x;exact aW e
 |xK lo hi=>obtain⟨_,_,_,e⟩:=x;exact aW e
 |cQ ob u=>obtain⟨e,_⟩:=x;exact aW e
 |oP ps=>exact aW (show h.get? a=some _ from x)
 |met f y=>exact aW (show h.get? a=some _ from x)
 |ext φ=>obtain⟨_,⟨_,e⟩,_⟩:=x;exact aW e
theorem Paired.z6 {α β:Type}{F G:α->β->Prop}:∀ {l₁:List α}{xv:List β},Paired F l₁ xv->(∀a b,F a b->G a b)->Paired G l₁ xv
 |_,_,.nil,_=>.nil
 |_,_,.cons r t,f=>.cons (f _ _ r) (Paired.z6 t f)
theorem Paired.imp' {α β:Type}{F G:α->β->Prop} (f:∀a b,F a b->G a b) {l₁:List α}{xv:List β} (r:Paired F l₁ xv):Paired G l₁ xv:=Paired.z6 r f
theorem br.fE (x:br P w H h a o) (k:∀b u,(b=a\/H b=some (.own a))->h.get? b=some u->h'.get? b=some u)
  (ho:∀b,H b=some (.own a)->H' b=some (.own a)) (ht:∀b xs,H b=some (.tup xs)->H' b=some (.tup xs)):br P w H' h' a o:=by
 induction o with
 |lst xs=>obtain⟨z,its,n,r,e⟩:=x;exact⟨z,its,n,r,k _ _ (.inl rfl) e⟩
 |tup xs=>obtain⟨z,its,r,ob,e,c⟩:=x;exact⟨z,its,r,ob,k _ _ (.inl rfl) e,c⟩
 |dK kvs=>obtain⟨z,y,vs,r,ob,es,ep,e,c⟩:=x;exact⟨z,y,vs,r,ob,es,ep,k _ _ (.inl rfl) e,c⟩
 |dT kvs =>
  obtain⟨z,y,xs,r,ob,es,ep,e,c⟩:=x;exact⟨z,y,xs,Paired.z6 r fun p q z=>⟨z.1,ht _ _ z.2.1,z.2.2⟩,ob,es,ep,k _ _ (.inl rfl) e,c⟩
 |set S n=>obtain⟨ob,es,ep,t,e,c⟩:=x;exact⟨ob,es,ep,t,k _ _ (.inl rfl) e,c⟩
 |ins C dx fs =>
  obtain⟨d,z,ne,e,mA,⟨od,es,ep,e2,c⟩,r⟩:=x;exact⟨ho _ d,z,ne,k _ _ (.inl rfl) e,mA,⟨od,es,ep,k _ _ (.inr d) e2,c⟩,r⟩
 |own y=>obtain⟨ob,e⟩:=x;exact⟨ob,k _ _ (.inl rfl) e⟩
 |xd fs=>obtain⟨mA,⟨od,es,ep,e,c⟩,r⟩:=x;exact⟨mA,⟨od,es,ep,k _ _ (.inl rfl) e,c⟩,r⟩
 |xK lo hi=>obtain⟨t,u,v,e⟩:=x;exact⟨t,u,v,k _ _ (.inl rfl) e⟩
 |cQ ob u ih=>obtain⟨e,q⟩:=x;exact⟨k _ _ (.inl rfl) e,ih q⟩
 |oP ps =>
  have e:h.get? a=some { cls:= .none,data:= .fields ps }:=x;show h'.get? a=some { cls:= .none,data:= .fields ps };exact k a _ (.inl rfl) e
 |met f y =>
  have e:h.get? a=some (PySem.W.methodObj (.ref f) (.ref y)):=x;show h'.get? a=some (PySem.W.methodObj (.ref f) (.ref y));exact k a _ (.inl rfl) e
 |ext φ=>obtain⟨p,⟨o,e⟩,st⟩:=x;exact⟨st _ _ p fun o q=>k _ _ (.inl rfl) q,⟨o,k _ _ (.inl rfl) e⟩,st⟩
theorem cI.lt (x:cI P w H h) (e:H a=some o):a < h.objs.size:=(x a o e).lt
theorem cI.fresh (x:cI P w H h) (e:h.objs.size<=a):H a=none:=by
 cases q:H a with
 |none=>rfl
 |some u=>exact absurd (gx (x.lt q) e) (pB _)
theorem cI.kept (x:cI P w H h) (k:∀b u,h.get? b=some u->h'.get? b=some u):cI P w H h':=fun a o e =>
 (x a o e).fE (fun b u _ q=>k b u q) (fun _ q=>q) fun _ _ q=>q
theorem cI.laid (x:cI P w H h) (k:∀b u,h.get? b=some u->h'.get? b=some u) (hp:h.objs.size<=a) (new:br P w (upd H a o) h' a o):cI P w (upd H a o) h':=fun b u e=>by
 have hn:=x.fresh hp
 by_cases hb:b=a
 ·subst hb;rw[af]at e;cases e;exact new
 ·rw[ai hb]at e
  exact(x b u e).fE (fun c v _ q=>k c v q) (fun c q=>by rw[ai (aq q hn)];exact q) fun c xs q=>by rw[ai (aq q hn)];exact q
end
def Rd (H:Hp) (a:Addr) (u:HO):Prop:=H a=some u \/ ∃o,H a=some (.cQ o u)
theorem Rd.ok {H:Hp}{u:HO} (r:Rd H a u) (x:cI P w H h):br P w H h a u:=by
 rcases r with r|⟨o,r⟩
 ·exact x a u r
 ·obtain⟨_,q⟩:=x a _ r
  exact q
def xM:Option HO->Prop
 |some (.lst _)=>True
 |some (.dK _)=>True
 |some (.dT _)=>True
 |some (.set _ _)=>True
 |some (.ins _ _ _)=>True
 |some (.ext _)=>True
 |_=>False
section
variable{H:Hp}{x e:Addr}{o':HO}
theorem cI.write (ok:cI P w H h) (mu:xM (H x)) (he:e=x\/H e=some (.own x)) (k:∀b u,b≠e->h.get? b=some u->h'.get? b=some u) (uV:∃u,h'.get? e=some u)
  (new:br P w (upd H x o') h' x o'):cI P w (upd H x o') h':=fun b u q=>by
 have Nf:∀c y,H c=some (.own y)->c≠x:=fun c y r z=>by subst z;rw[r]at mu;exact mu
 have Zc:∀c xs,H c=some (.tup xs)->c≠x:=fun c xs r z=>by subst z;rw[r]at mu;exact mu
 by_cases hb:b=x
 ·subst hb;rw[af]at q;cases q;exact new
 ·rw[ai hb]at q
  by_cases sf:b=e
  ·have q':H b=some (.own x):=by
    rcases he with z|z
    ·exact absurd (sf.trans z) hb
    ·rw[sf];exact z
   rw[q]at q';cases q';obtain⟨v,hv⟩:=uV;exact⟨v,by rw[sf];exact hv⟩
  ·refine(ok b u q).fE (fun c v hc r=>k c v ?_ r) (fun c r=>by rw[ai (Nf c b r)];exact r) fun c xs r=>by rw[ai (Zc c xs r)];exact r
   rcases hc with rfl|hc
   ·exact sf
   ·rintro rfl
    rcases he with z|z
    ·exact Nf c b hc z
    ·rw[hc]at z;cases z;exact hb rfl
end
structure Un (fs ex:List Addr) (H H':Hp) (h h':Heap):Prop where
 keep:∀b o,h.get? b=some o->H b=none->b ∉ fs->b ∉ ex->h'.get? b=some o
 slot:∀b o,h.get? b=some o->H b=none->b∈fs->b ∉ ex -> ∃sl,h'.get? b=some { o with slots:=sl }
 free:∀b o,h.get? b=some o->H b=none->b ∉ ex->H' b=none
 there:∀b o,h.get? b=some o->b ∉ ex -> ∃o',h'.get? b=some o'
 kf:∀b xs,H b=some (.tup xs)->H' b=some (.tup xs)
 jH:∀b o u,H b=some (.cQ o u)->H' b=some (.cQ o u)
 kh:∀b ps,H b=some (.oP ps) -> ∃more,H' b=some (.oP (ps++more))
section
variable{fs fs' ex ex':List Addr}{H H1 H2:Hp}{h1 h2:Heap}{x e:Addr}{o:HO}
theorem Un.any (u:Un fs ex H H1 h h1) {ob:Obj} (q:h.get? b=some ob) (n:H b=none) (hx:b ∉ ex):∃sl,h1.get? b=some { ob with slots:=sl }:=by
 by_cases hb:b∈fs
 ·exact u.slot b ob q n hb hx
 ·exact⟨ob.slots,u.keep b ob q n hb hx⟩
theorem Un.kept (k:∀b u,h.get? b=some u->h'.get? b=some u):Un fs ex H H h h':=
 ⟨fun b ob q _ _ _=>k b ob q,fun b ob q _ _ _=>⟨ob.slots,k b ob q⟩,fun _ _ _ n _=>n,fun b ob q _=>⟨ob,k b ob q⟩,fun _ _ q=>q,fun _ _ _ q=>q,fun _ ps q=>⟨#[],by rw[q];simp⟩⟩
theorem Un.refl:Un fs ex H H h h:=Un.kept fun _ _ q=>q
theorem Un.laid (k:∀b u,h.get? b=some u->h'.get? b=some u) (hp:h.objs.size<=a) (hn:H a=none):Un fs ex H (upd H a o) h h' where
 keep:=fun b u q _ _ _=>k b u q
 slot:=fun b u q _ _ _=>⟨u.slots,k b u q⟩
 free:=fun b u q n _=>by rw[ai (bT (gx (aW q) hp))];exact n
 there:=fun b u q _=>⟨u,k b u q⟩
 kf:=fun b xs q=>by rw[ai (aq q hn)];exact q
 jH:=fun b u xs q=>by rw[ai (aq q hn)];exact q
 kh:=fun b ps q=>⟨#[],by rw[ai (aq q hn),q];simp⟩
theorem Un.write (mu:xM (H x)) (he:e=x\/H e=some (.own x)) (k:∀b u,b≠e->h.get? b=some u->h'.get? b=some u) (uV:∃u,h'.get? e=some u):Un fs ex H (upd H x o) h h':=by
 have hx:∀b,H b=none->b≠x:=fun b n z=>by subst z;rw[n]at mu;exact mu
 have hb:∀b,H b=none->b≠e:=fun b n z=>by
  subst z;rcases he with r|r
  ·exact hx b n r
  ·rw[n]at r;cases r
 have hm:∀b u,H b=some u -> ¬ xM (some u)->b≠x:=fun b u q nm z=>by subst z;rw[q]at mu;exact nm mu
 refine⟨fun b u q n _ _=>k b u (hb b n) q,fun b u q n _ _=>⟨u.slots,k b u (hb b n) q⟩,fun b u q n _=>by rw[ai (hx b n)];exact n,fun b u q _=>?_,
  fun b xs q=>by rw[ai (hm b _ q fun z=>z)];exact q,fun b u xs q=>by rw[ai (hm b _ q fun z=>z)];exact q,fun b ps q=>⟨#[],by rw[ai (hm b _ q fun z=>z),q];simp⟩⟩
 by_cases sf:b=e
 ·subst sf;exact uV
 ·exact⟨u,k b u sf q⟩
end
def jf (h:Heap) (H:Hp):List Addr:=(List.range h.objs.size).filter fun a=>(H a).isSome
def oH (h:Heap) (H:Hp):Heap:=PySem.W.hideAll h (jf h H)
theorem Tx (h:Heap) (H:Hp):(oH h H).objs.size=h.objs.size:=PySem.W.hideAll_size _ _
theorem UH {H:Hp}{o:Obj} (e:h.get? b=some o) (n:H b=none):(oH h H).get? b=some o:=
 PySem.W.hideAll_get _ e fun hm=>by
  have q:(H b).isSome=true:=(gD.mp hm).2;rw[n]at q;simp at q
theorem VN {H:Hp}{o:Obj} (e:(oH h H).get? b=some o):h.get? b=some o/\H b=none:=by
 have e':h.get? b=some o:=PySem.W.of_hideAll (jf h H) e;refine⟨e',?_⟩;cases q:H b with
 |none=>rfl
 |some x =>
  have hm:b∈jf h H:=gD.mpr ⟨nU.mpr (aW e'),by simp[q]⟩
  have z:(oH h H).get? b=none:=PySem.W.hideAll_none (jf h H) hm;rw[z]at e;cases e
def Dg (g h:Heap) (L:Addr):List (Addr×Obj):=(List.range h.objs.size).filterMap fun a=>if a=L\/(g.get? a).isSome=true then none else (h.get? a).map fun o=>(a,o)
theorem tK {L:Addr}{o:Obj} (h1:a≠L) (h2:g.get? a=none) (h3:h.get? a=some o):(a,o)∈Dg g h L:=
 qF.mpr ⟨a,nU.mpr (aW h3),by simp[h1,h2,h3]⟩
theorem y6 {L:Addr}{p:Addr×Obj} (hp:p∈Dg g h L):p.1≠L/\g.get? p.1=none/\h.get? p.1=some p.2:=by
 obtain⟨b,_,e⟩:=qF.mp hp;split at e
 ·cases e
 ·rename_i hn
  cases q:h.get? b with
  |none=>rw[q]at e;simp at e
  |some u =>
   rw[q]at e;simp only[BG,Option.some.injEq]at e;subst e;refine⟨fun z=>hn (.inl z),?_,q⟩;show g.get? b=none;cases r:g.get? b with
   |none=>rfl
   |some v=>exact(hn (.inr (by simp[r]))).elim
theorem CM {L:Addr}:News g L h (Dg g h L):=fun p hp=>let ⟨a,b,c⟩:=y6 hp;⟨c,a,b⟩
structure Mod (K:PySem.W.Frag) (mg:Str->Option Value) (base:Heap):Prop where
 jg:K.In base
 glob:base.Ns mainGlobals mg
 blt:∃mb,base.Ns builtinsNs mb /\ ∀x:Str,x ≠ "__name__" -> mb x=bootBuiltins x
 nolimit:base.NoLimit
structure Cx where
 prog:Program
 w:World
 K:PySem.W.Frag
 mg:Str->Option Value
 base:Heap
 A:Around
 N:List Str
 cH:Shared
 jb:Hp
 env:Env
 outer:List Env
 stack:List Env
 ex:List Addr
 fn:Str->Bool
 calm:Bool
 pn:List (Addr×Obj)
 xe:Value->Shared->Prop
def cM (l:List Env):List Addr:=l.filterMap (·.frame)
abbrev Cx.fs (X:Cx):List Addr:=cM X.outer
def E5 (sc:Scope) (x:Str):Prop:=sc.names.lookup x=some .local\/sc.names.lookup x=some .cell\/sc.names.lookup x=some .free
def Loc (sc:Scope) (x:Str):Prop:=sc.names.lookup x=some .local\/sc.names.lookup x=some .cell
def Look (env:Env) (h:Heap) (m:Str->Option Value) (x:Str) (u:Value):Prop:=
 (env.kindOf x=some .local/\m x=some u)\/((env.kindOf x=some .cell\/env.kindOf x=some .free) /\ ∃c,env.cells.lookup x=some c/\h.IsCell c (some u))
structure Cx.Ok (X:Cx):Prop where
 mod:Mod X.K X.mg X.base
 kind:X.env.scope.kind = .function
 glob:X.env.globals=mainGlobals
 blt:X.env.builtins=builtinsNs
 above:X.cH.heap.objs.size<=X.env.locals
 inj:∀x y c,X.env.cells.lookup x=some c->X.env.cells.lookup y=some c->x=y
 has:∀x,(X.env.kindOf x=some .cell\/X.env.kindOf x=some .free) -> ∃c,X.env.cells.lookup x=some c
 oQ:∀x c,X.fn x=true->X.env.cells.lookup x=some c->X.cH.heap.objs.size<=c
 hd:X.calm=true->X.A.handled=none
 frames:X.A.frames=some X.stack
 l0:X.stack=X.outer\/(X.stack=X.env::X.outer/\X.env.frame=some X.env.locals)
 nD:∀b∈X.ex,b≠X.env.locals /\ ∀x c,X.env.cells.lookup x=some c->c≠b
 bs:∀b o,X.base.get? b=some o->X.cH.heap.get? b=some o/\X.jb b=none
 ko:X.base.objs.size<=X.cH.heap.objs.size
 oJ:∀b o,X.base.get? b=some o->b ∉ X.ex
 ng:∀b∈X.ex,b ∉ X.fs
 f':X.cH.heap.FunFrames X.base X.outer
 lu:∀b∈X.fs,X.jb b=none
structure Inv (X:Cx) (pins:List (Addr×Obj)) (σ:List (Option V)) (H:Hp) (s:Shared):Prop where
 ok:X.Ok
 os:s.os=X.cH.os
 bare:AllBare s.gens
 base:Un X.fs X.ex X.jb H X.cH.heap s.heap
 loc:∃m,s.heap.Ns X.env.locals m /\ ∀ (i:Nat) (x:Str) (v:V),X.N[i]? = some x->σ[i]? = some (some v)->E5 X.env.scope x -> ∃u,RelV v u/\Look X.env s.heap m x u
 cell:∀x c,X.env.cells.lookup x=some c -> ∃v,s.heap.IsCell c v
 free:H X.env.locals=none
 ir:∀x c,X.env.cells.lookup x=some c->H c=none
 pin:∀p∈X.pn++pins,s.heap.get? p.1=some p.2/\H p.1=none/\p.1≠X.env.locals/\p.1 ∉ X.fs /\ ∀v,p.2.data ≠ .cell v
 ay:cI X.prog X.w H s.heap
 len:σ.length=X.N.length
section
variable{X:Cx}{σ:List (Option V)}{H H':Hp}
theorem Cx.Ok.rL (ok:X.Ok) {o:Obj} (e:X.base.get? b=some o):b ∉ X.fs:=fun hb=>by
 have:=(ok.f'.mem hb).1;rw[e]at this;cases this
theorem Inv.bs (I:Inv X pins σ H s):∀b o,X.base.get? b=some o->s.heap.get? b=some o/\H b=none:=fun b o e =>
 ⟨I.base.keep b o (I.ok.bs b o e).1 (I.ok.bs b o e).2 (I.ok.rL e) (I.ok.oJ b o e),I.base.free b o (I.ok.bs b o e).1 (I.ok.bs b o e).2 (I.ok.oJ b o e)⟩
theorem Inv.bk (I:Inv X pins σ H s):∀b o,X.base.get? b=some o->s.heap.get? b=some o:=fun b o e=>(I.bs b o e).1
theorem Inv.mod (I:Inv X pins σ H s):Mod X.K X.mg X.base:=I.ok.mod
theorem Inv.bc (I:Inv X pins σ H s):X.K.In s.heap:=I.ok.mod.jg.keeps I.bk
theorem Inv.lt (I:Inv X pins σ H s):X.env.locals < s.heap.objs.size:=let ⟨_,hn,_⟩:=I.loc;hn.lt
theorem Inv.sz (I:Inv X pins σ H s):X.cH.heap.objs.size<=s.heap.objs.size:=cK I.ok.above (vG I.lt)
theorem Inv.Zd (I:Inv X pins σ H s) (h:s.heap.objs.size<=a):a ∉ X.fs:=fun hb=>by
 obtain⟨_,o,ho,_⟩:=I.ok.f'.mem hb;exact absurd (gx (aW ho) (cK I.sz h)) (pB _)
theorem Inv.l8 (I:Inv X pins σ H s):∀x c,X.env.cells.lookup x=some c->c≠X.env.locals:=fun x c e z=>by
 obtain⟨v,o,ho,hd⟩:=I.cell x c e;obtain⟨m,⟨o',es,ep,gK,sg,_⟩,_⟩:=I.loc;rw[z,gK]at ho;cases ho;rw[sg]at hd;cases hd
theorem Inv.f' (I:Inv X pins σ H s):s.heap.FunFrames X.base X.outer:=by
 have all:∀ (l:List Env),(∀b∈cM l,b∈X.fs)->X.cH.heap.FunFrames X.base l->s.heap.FunFrames X.base l:=by
  intro l
  induction l with
  |nil=>intro _ _;trivial
  |cons env r ih =>
   intro hs hl;obtain⟨hk,⟨L,o,hf,hn,ho,hd⟩,hr⟩:=hl;have hL:L∈X.fs:=hs L (by unfold cM;rw[Q3,hf];exact aV)
   obtain⟨sl,e⟩:=I.base.slot L o ho (I.ok.lu L hL) hL fun z=>I.ok.ng L z hL;exact⟨hk,⟨L,_,hf,hn,e,hd⟩,ih (fun b hb=>hs b (by unfold cM;rw[Q3,hf];exact bV _ hb)) hr⟩
 exact all X.outer (fun _ hb=>hb) I.ok.f'
theorem Inv.stack (I:Inv X pins σ H s):s.heap.FunFrames X.base X.stack:=by
 rcases I.ok.l0 with e|⟨e,hf⟩
 ·rw[e];exact I.f'
 ·rw[e]
  obtain⟨m,hn,_⟩:=I.loc;refine .cons (by rw[I.ok.kind];decide) hf hn ?_ I.f'
  exact vH (cK I.ok.ko I.ok.above)
theorem Inv.wF (I:Inv X pins σ H s):∀b∈cM X.stack,b∈X.env.locals::X.fs:=fun b hb=>by
 rcases I.ok.l0 with e|⟨e,hf⟩
 ·rw[e]at hb;exact bV _ hb
 ·rw[e]at hb
  unfold cM at hb;rw[Q3,hf]at hb;exact hb
theorem Inv.zF (I:Inv X pins σ H s):∀b∈cM X.stack,H b=none:=fun b hb=>by
 rcases aY.mp (I.wF b hb) with e|hb
 ·rw[e];exact I.free
 ·obtain⟨_,o,ho,_⟩:=I.ok.f'.mem hb
  exact I.base.free b o ho (I.ok.lu b hb) fun z=>I.ok.ng b z hb
theorem Inv.step {g':Array GenState}{d':Drawn} (I:Inv X pins σ H s)
  (nE:∀b∈ch,(b∈X.ex\/X.cH.heap.objs.size<=b)/\b≠X.env.locals/\(∀x c,X.env.cells.lookup x=some c->c≠b) /\ ∀p∈X.pn++pins,p.1≠b)
  (keep:∀b o,b≠X.env.locals->b ∉ X.fs->b ∉ ch->s.heap.get? b=some o->H b=none->h'.get? b=some o)
  (slot:∀b o,b≠X.env.locals->b∈X.fs->b ∉ ch->s.heap.get? b=some o->H b=none -> ∃sl,h'.get? b=some { o with slots:=sl }) (free:∀b o,b ∉ ch->s.heap.get? b=some o->H b=none->H' b=none)
  (there:∀b o,b ∉ ch->s.heap.get? b=some o -> ∃o',h'.get? b=some o')
  (kf:∀b xs,H b=some (.tup xs)->H' b=some (.tup xs)) (jH:∀b o u,H b=some (.cQ o u)->H' b=some (.cQ o u)) (kh:∀b ps,H b=some (.oP ps) -> ∃more,H' b=some (.oP (ps++more)))
  (ns:∀m,s.heap.Ns X.env.locals m->h'.Ns X.env.locals m) (ay:cI X.prog X.w H' h') (hg:AllBare g') :
  Inv X pins σ H' { s with heap:=h',gens:=g',drawn:=d',toks:=t' }:=by
 have xN:∀b o,X.cH.heap.get? b=some o->b≠X.env.locals:=fun b o e=>bT (gx (aW e) I.ok.above);have Ao:∀b o,X.cH.heap.get? b=some o->b ∉ X.ex->b ∉ ch:=fun b o e hx hb=>by
  rcases (nE b hb).1 with z|z
  ·exact hx z
  ·exact absurd (gx (aW e) z) (pB _)
 have cellK:∀x c,X.env.cells.lookup x=some c -> ∀v,s.heap.IsCell c v->h'.IsCell c v:=fun x c e v ⟨o,ho,hd⟩=>by
  have gB:c ∉ ch:=fun z=>(nE c z).2.2.1 x c e rfl
  by_cases hc:c∈X.fs
  ·obtain⟨sl,q⟩:=slot c o (I.l8 x c e) hc gB ho (I.ir x c e)
   exact⟨_,q,hd⟩
  ·exact⟨o,keep c o (I.l8 x c e) hc gB ho (I.ir x c e),hd⟩
 refine⟨I.ok,I.os,hg,⟨fun b o e n hb hx=>?_,fun b o e n hb hx=>?_,fun b o e n hx=>?_,fun b o e hx=>?_,fun b xs e=>kf b xs (I.base.kf b xs e),fun b o xs e=>jH b o xs (I.base.jH b o xs e),fun b ps e=>?_⟩,?_,fun x c e=>?_,?_,fun x c e=>?_,fun p hp=>?_,ay,I.len⟩
 ·exact keep b o (xN b o e) hb (Ao b o e hx) (I.base.keep b o e n hb hx) (I.base.free b o e n hx)
 ·obtain⟨sl,e1⟩:=I.base.slot b o e n hb hx
  obtain⟨xO,e2⟩:=slot b _ (xN b o e) hb (Ao b o e hx) e1 (I.base.free b o e n hx);exact⟨xO,e2⟩
 ·obtain⟨o',e1⟩:=I.base.there b o e hx
  exact free b o' (Ao b o e hx) e1 (I.base.free b o e n hx)
 ·obtain⟨o',e1⟩:=I.base.there b o e hx
  exact there b o' (Ao b o e hx) e1
 ·obtain⟨m1,e1⟩:=I.base.kh b ps e
  obtain⟨m2,e2⟩:=kh b _ e1;exact⟨m1++m2,by rw[e2,Array.append_assoc]⟩
 ·obtain⟨m,hn,hl⟩:=I.loc
  refine⟨m,ns m hn,fun i x v e1 e2 e3=>?_⟩;obtain⟨u,r,l⟩:=hl i x v e1 e2 e3;refine⟨u,r,?_⟩;rcases l with l|⟨k,c,e,z⟩
  ·exact .inl l
  ·exact .inr ⟨k,c,e,cellK x c e _ z⟩
 ·obtain⟨v,z⟩:=I.cell x c e
  exact⟨v,cellK x c e v z⟩
 ·obtain⟨m,⟨o,_,_,ho,_⟩,_⟩:=I.loc
  exact free _ o (fun z=>(nE _ z).2.1 rfl) ho I.free
 ·obtain⟨v,o,ho,hd⟩:=I.cell x c e
  exact free c o (fun z=>(nE c z).2.2.1 x c e rfl) ho (I.ir x c e)
 ·obtain⟨e,n,ne,nf,d⟩:=I.pin p hp
  have gB:p.1 ∉ ch:=fun z=>(nE p.1 z).2.2.2 p hp rfl;exact⟨keep p.1 p.2 ne nf gB e n,free p.1 p.2 gB e n,ne,nf,d⟩
theorem Inv.un (I:Inv X pins σ H s) (u:Un X.fs [] H H' s.heap h') (ay:cI X.prog X.w H' h'):Inv X pins σ H' { s with heap:=h',toks:=t' }:=by
 obtain⟨m,⟨o,es,ep,ho,r⟩,_⟩:=id I.loc;obtain⟨sl,hL⟩:=u.any ho I.free (by simp)
 exact I.step (g':=s.gens) (d':=s.drawn) (ch:= []) (fun _ z=>nomatch z) (fun b o _ hb _ e n=>u.keep b o e n hb (by simp)) (fun b o _ hb _ e n=>u.slot b o e n hb (by simp)) (fun b o _ e n=>u.free b o e n (by simp)) (fun b o _ e=>u.there b o e (by simp)) u.kf u.jH u.kh (fun m' hm=>by
  obtain⟨o',gV,E6,gK,r'⟩:=hm;rw[ho]at gK;cases gK;exact⟨_,gV,E6,hL,r'⟩) ay I.bare
theorem Inv.call {g':Array GenState}{d':Drawn} (I:Inv X pins σ H s) (u:Un (cM X.stack) ch H H' s.heap h') (ay:cI X.prog X.w H' h') (hg:AllBare g')
  (nE:∀b∈ch,(b∈X.ex\/X.cH.heap.objs.size<=b)/\b≠X.env.locals/\(∀x c,X.env.cells.lookup x=some c->c≠b) /\ ∀p∈X.pn++pins,p.1≠b) :
  Inv X pins σ H' { s with heap:=h',gens:=g',drawn:=d',toks:=t' }:=by
 obtain⟨m,⟨o,es,ep,ho,r⟩,_⟩:=id I.loc;obtain⟨sl,hL⟩:=u.any ho I.free fun z=>(nE _ z).2.1 rfl;exact I.step (ch:=ch) nE (fun b o hL hb hc e n=>u.keep b o e n (fun z=>(aY.mp (I.wF b z)).elim hL hb) hc) (fun b o _ _ hc e n=>u.any e n hc) (fun b o hc e n=>u.free b o e n hc) (fun b o hc e=>u.there b o e hc) u.kf u.jH u.kh (fun m' hm=>by
  obtain⟨o',gV,E6,gK,r'⟩:=hm;rw[ho]at gK;cases gK;exact⟨_,gV,E6,hL,r'⟩) ay hg
theorem Inv.turned (I:Inv X pins σ H s) (k:∀b o,b≠it->s.heap.get? b=some o->h'.get? b=some o) (hn:H it=none) (hL:it≠X.env.locals)
  (h1:it∈X.ex\/X.cH.heap.objs.size<=it) (h2:∀x c,X.env.cells.lookup x=some c->c≠it) (h3:∀p∈X.pn++pins,p.1≠it):Inv X pins σ H { s with heap:=h',toks:=t' }:=by
 have Ou:∀b u,H b=some u->b≠it:=fun b u e z=>by rw[z,hn]at e;cases e
 refine I.step (g':=s.gens) (d':=s.drawn) (ch:= [it]) (fun b hb=>?_) (fun b o _ _ hc e _=>k b o (fun z=>hc (by simp[z])) e) (fun b o _ _ hc e _=>⟨o.slots,k b o (fun z=>hc (by simp[z])) e⟩) (fun _ _ _ _ n=>n)
  (fun b o hc e=>⟨o,k b o (fun z=>hc (by simp[z])) e⟩) (fun _ _ e=>e) (fun _ _ _ e=>e) (fun b ps e=>⟨#[],by rw[e];simp⟩) (fun m hm=>?_) (fun b u e=>?_) I.bare
 ·have e:b=it:=by simpa using hb
  subst e;exact⟨h1,hL,h2,h3⟩
 ·obtain⟨o,es,ep,ho,r⟩:=hm
  exact⟨o,es,ep,k _ o (aH hL) ho,r⟩
 ·refine(I.ay b u e).fE (fun c v hc q=>k c v ?_ q) (fun _ q=>q) fun _ _ q=>q
  rcases hc with z|z
  ·rw[z];exact Ou b u e
  ·exact Ou c _ z
theorem Inv.tok (I:Inv X pins σ H s) (t:Nat):Inv X pins σ H { s with toks:=t }:=I.un (h':=s.heap) (t':=t) Un.refl I.ay
theorem Inv.kept (I:Inv X pins σ H s) (k:∀b u,s.heap.get? b=some u->h'.get? b=some u):Inv X pins σ H { s with heap:=h',toks:=t' }:=I.un (Un.kept k) (I.ay.kept k)
theorem Inv.laid {o:HO} (I:Inv X pins σ H s) (k:∀b u,s.heap.get? b=some u->h'.get? b=some u) (hp:s.heap.objs.size<=a) (new:br X.prog X.w (upd H a o) h' a o) :
  Inv X pins σ (upd H a o) { s with heap:=h',toks:=t' }:=I.un (Un.laid k hp (I.ay.fresh hp)) (I.ay.laid k hp new)
theorem Inv.write {x e:Addr}{o:HO} (I:Inv X pins σ H s) (mu:xM (H x)) (he:e=x\/H e=some (.own x)) (k:∀b u,b≠e->s.heap.get? b=some u->h'.get? b=some u) (uV:∃u,h'.get? e=some u)
  (new:br X.prog X.w (upd H x o) h' x o):Inv X pins σ (upd H x o) { s with heap:=h',toks:=t' }:=I.un (Un.write mu he k uV) (I.ay.write mu he k uV new)
theorem Inv.Lv {w6:List (Addr×Obj)} (I:Inv X pins σ H s) (h:∀p∈w6,s.heap.get? p.1=some p.2/\H p.1=none/\p.1≠X.env.locals/\p.1 ∉ X.fs /\ ∀v,p.2.data ≠ .cell v):Inv X w6 σ H s:=
 ⟨I.ok,I.os,I.bare,I.base,I.loc,I.cell,I.free,I.ir,fun p hp=>(dX.mp hp).elim (fun z=>I.pin p (pC _ z)) (h p),I.ay,I.len⟩
theorem CN (hN:N.Nodup) (a:N[i]? = some x) (b:N[j]? = some x):i=j:=by
 obtain⟨h1,e1⟩:=cu.mp a;obtain⟨h2,e2⟩:=cu.mp b;exact(List.getElem_inj hN).mp (e1.trans e2.symm)
theorem JW {M:Model}{E:Value->Shared->Prop}{v:V}{Q:Unit->Shared->Prop} (I:Inv X pins σ H s) (hN:X.N.Nodup) (hi:X.N[i]? = some x) (hx:Loc X.env.scope x) (r:RelV v u)
  (h:∀s',Inv X pins (σ.set i (some v)) H s'->(∃a,Heap.SameBut a s.heap s'.heap/\(a=X.env.locals\/X.env.cells.lookup x=some a))->Q () s') (hf:X.fn x=true\/X.env.scope.names.lookup x=some .local:=by first|exact .inl rfl|exact .inr rfl|assumption):wpAny M A (storeName X.env x u) Q E s:=by
 obtain⟨m,hn,hl⟩:=id I.loc;have nh:(X.env.scope.kind == .class || (X.env.scope.kind == .module && X.env.locals != X.env.globals))=false:=by rw[I.ok.kind];rfl
 have Ng:i < σ.length:=by rw[I.len];exact(cu.mp hi).1
 have l8:=I.l8;have tracked:∀ {a:Addr}{h':Heap},(∃o,s.heap.get? a=some o/\H a=none)->Heap.SameBut a s.heap h'->cI X.prog X.w H h':=fun {a h'} ha hs b ob e=>by
  obtain⟨_,_,w8⟩:=ha;refine(I.ay b ob e).fE (fun c w' hc q=>(hs.2 c ?_).trans q) (fun _ q=>q) fun _ _ q=>q;rintro rfl;rcases hc with rfl|hc
  ·rw[w8]at e;cases e
  ·rw[w8]at hc;cases hc
 rcases hx with hk|hk
 ·refine wpAny_storeName_local hk hn (fun h' fo hs=>?_) nh
  obtain⟨oL,_,_,Ov,_⟩:=id hn;refine h _ ⟨I.ok,I.os,I.bare,⟨fun b o e n hb hx=>?_,fun b o e n hb hx=>?_,I.base.free,fun b o e hx=>?_,I.base.kf,I.base.jH,I.base.kh⟩,⟨_,fo,fun j y v' e1 e2 e3=>?_⟩,fun y c e=>?_,I.free,I.ir,fun p hp=>?_,tracked ⟨oL,Ov,I.free⟩ hs,by simpa using I.len⟩ ⟨_,hs,.inl rfl⟩
  ·exact(hs.2 b (bT (gx (aW e) I.ok.above))).trans (I.base.keep b o e n hb hx)
  ·obtain⟨sl,e1⟩:=I.base.slot b o e n hb hx
   exact⟨sl,(hs.2 b (bT (gx (aW e) I.ok.above))).trans e1⟩
  ·obtain⟨o',e1⟩:=I.base.there b o e hx
   exact⟨o',(hs.2 b (bT (gx (aW e) I.ok.above))).trans e1⟩
  ·by_cases hj:j=i
   ·subst hj
    rw[hi]at e1;cases e1;rw[Q4 Ng]at e2;cases e2
    exact⟨u,r,.inl ⟨hk,by simp⟩⟩
   ·rw[Q5 (aH hj)]at e2
    obtain⟨u',r',q⟩:=hl j y v' e1 e2 e3;refine⟨u',r',?_⟩;rcases q with⟨k,e⟩|⟨k,c,e,z⟩
    ·refine .inl ⟨k,?_⟩
     have:y≠x:=fun e=>hj (CN hN e1 (e ▸ hi));simp[this,e]
    ·exact .inr ⟨k,c,e,z.sameBut hs (l8 y c e)⟩
  ·obtain⟨w',z⟩:=I.cell y c e
   exact⟨w',z.sameBut hs (l8 y c e)⟩
  ·obtain⟨e,n,ne,nf,d⟩:=I.pin p hp
   exact⟨(hs.2 p.1 ne).trans e,n,ne,nf,d⟩
 ·have E7:X.fn x=true:=by
   rcases hf with z|z
   ·exact z
   ·rw[z]at hk;cases hk
  obtain⟨c,hc⟩:=I.ok.has x (.inl hk);obtain⟨w',z⟩:=I.cell x c hc;refine wpAny_storeName_cell I.ok.kind hk hc z (fun h' oR hs=>?_);obtain⟨oc,Ow,Ze⟩:=id z;refine h { s with heap:=h' } ⟨I.ok,I.os,I.bare,⟨fun b o e n hb hx=>?_,fun b o e n hb hx=>?_,I.base.free,fun b o e hx=>?_,I.base.kf,I.base.jH,I.base.kh⟩,⟨m,hn.sameBut hs (aH (l8 x c hc)),fun j y v' e1 e2 e3=>?_⟩,fun y c' e=>?_,I.free,I.ir,fun p hp=>?_,tracked ⟨oc,Ow,I.ir x c hc⟩ hs,by simpa using I.len⟩ ⟨c,hs,.inr hc⟩
  ·exact(hs.2 b (bT (gx (aW e) (I.ok.oQ x c E7 hc)))).trans (I.base.keep b o e n hb hx)
  ·obtain⟨sl,e1⟩:=I.base.slot b o e n hb hx
   exact⟨sl,(hs.2 b (bT (gx (aW e) (I.ok.oQ x c E7 hc)))).trans e1⟩
  ·obtain⟨o',e1⟩:=I.base.there b o e hx
   exact⟨o',(hs.2 b (bT (gx (aW e) (I.ok.oQ x c E7 hc)))).trans e1⟩
  ·by_cases hj:j=i
   ·subst hj
    rw[hi]at e1;cases e1;rw[Q4 Ng]at e2;cases e2
    exact⟨u,r,.inr ⟨.inl hk,c,hc,oR⟩⟩
   ·rw[Q5 (aH hj)]at e2
    obtain⟨u',r',q⟩:=hl j y v' e1 e2 e3;refine⟨u',r',?_⟩;rcases q with q|⟨k,c',e,z'⟩
    ·exact .inl q
    ·refine .inr ⟨k,c',e,z'.sameBut hs ?_⟩
     rintro rfl;exact hj (CN hN e1 (I.ok.inj _ _ _ e hc ▸ hi))
  ·by_cases Ox:c'=c
   ·subst Ox;exact⟨_,oR⟩
   ·obtain⟨w2,z2⟩:=I.cell y c' e
    exact⟨w2,z2.sameBut hs Ox⟩
  ·obtain⟨e,n,ne,nf,d⟩:=I.pin p hp
   refine⟨(hs.2 p.1 ?_).trans e,n,ne,nf,d⟩;intro q;rw[q,Ow]at e;have q':oc=p.2:=fZ e;exact d w' (by rw[<-q'];exact Ze)
theorem tU {M:Model}{E:Value->Shared->Prop}{v:V}{Q:Unit->Shared->Prop} (I:Inv X pins σ H s) (hN:X.N.Nodup) (hi:X.N[i]? = some x) (hx:Loc X.env.scope x) (r:RelV v u)
  (h:∀s',Inv X pins (σ.set i (some v)) H s'->Q () s') (hf:X.fn x=true\/X.env.scope.names.lookup x=some .local:=by first|exact .inl rfl|exact .inr rfl|assumption):wpAny M A (storeName X.env x u) Q E s:=
 JW I hN hi hx r (fun s' I' _=>h s' I') hf
theorem Inv.w9 (I:Inv X pins σ H s) (ho:s'.os=s.os) (u:Un (cM X.stack) ch H H' s.heap s'.heap) (ay:cI X.prog X.w H' s'.heap) (hg:AllBare s'.gens)
  (nE:∀b∈ch,(b∈X.ex\/X.cH.heap.objs.size<=b)/\b≠X.env.locals/\(∀x c,X.env.cells.lookup x=some c->c≠b) /\ ∀p∈X.pn++pins,p.1≠b):Inv X pins σ H' s':=by
 obtain⟨h',g',d',t',o'⟩:=s';have e:o'=s.os:=ho;subst e;exact I.call (g':=g') (t':=t') (d':=d') u ay hg nE
end
abbrev XK:=Value->Option Addr->Hp->Prop
abbrev St:=List (Option V)
abbrev VK:=V->Hp->Prop
abbrev TE:=St->Hp->VK->Prop
abbrev TT:=St->Hp->(Bool->Hp->Prop)->Prop
abbrev TA:=St->Hp->(List V->Hp->Prop)->Prop
structure Ends where
 nx:St->Hp->Prop
 rt:VK
 bk:St->Hp->Prop:=fun _ _=>False
 ct:St->Hp->Prop:=fun _ _=>False
abbrev TS:=Ends->St->Hp->Prop
end L2
variable{xs ys vs ws:List L2.V}{H H' H1 H2:L2.Hp}{o O:L2.HO}{X:L2.Cx}{σ jP:L2.St}{E:L2.XK}{v y:L2.V}{Q:L2.VK}{ta te tl:L2.TE}{tb:L2.TS}{D:L2.Ends}{tc ti:L2.TT}{kvs:List (L2.Key×L2.V)}
namespace L2
open PySem PySem.Spec PyProof.Rows
def EP (X:Cx) (pins:List (Addr×Obj)) (σ:St) (Q:VK) (u:Value) (s':Shared):Prop:= ∃v H',Inv X pins σ H' s'/\RelV v u/\Q v H'
def TP (X:Cx) (pins:List (Addr×Obj)) (σ:St) (Q:Bool->Hp->Prop) (b:Bool) (s':Shared):Prop:= ∃H',Inv X pins σ H' s'/\Q b H'
def AP (X:Cx) (pins:List (Addr×Obj)) (σ:St) (Q:List V->Hp->Prop) (us:List Value) (s':Shared):Prop:= ∃vs H',Inv X pins σ H' s'/\Vals vs us/\Q vs H'
def SP (X:Cx) (pins:List (Addr×Obj)) (D:Ends) (f:Flow) (s':Shared):Prop:=
 match f with
 |.next=>∃aJ H',Inv X pins aJ H' s'/\D.nx aJ H'
 |.brk=>∃aJ H',Inv X pins aJ H' s'/\D.bk aJ H'
 |.cont=>∃aJ H',Inv X pins aJ H' s'/\D.ct aJ H'
 |.ret u=>∃v aJ H',Inv X pins aJ H' s'/\RelV v u/\D.rt v H'
def PE (X:Cx) (e:Expr) (t:TE):Prop:=
 ∀ (pins:List (Addr×Obj)) (s:Shared) (σ:St) (H:Hp) (Q:VK),Inv X pins σ H s->t σ H Q->wpAny (model X.prog X.w) X.A (eval e X.env) (EP X pins σ Q) X.xe s
def PT (X:Cx) (e:Expr) (t:TT):Prop:=
 ∀ (pins:List (Addr×Obj)) (s:Shared) (σ:St) (H:Hp) (Q:Bool->Hp->Prop),Inv X pins σ H s->t σ H Q->wpAny (model X.prog X.w) X.A (isTrue e X.env (eval e X.env)) (TP X pins σ Q) X.xe s
def PW (X:Cx) (e:Expr) (t:TT):Prop:=
 ∀ (whole:Sem Value) (pins:List (Addr×Obj)) (s:Shared) (σ:St) (H:Hp) (Q:Bool->Hp->Prop),Inv X pins σ H s->t σ H Q->wpAny (model X.prog X.w) X.A (isTrue e X.env whole) (TP X pins σ Q) X.xe s
theorem PW.pt {t:TT} (h:PW X e t):PT X e t:=h _
def PA (X:Cx) (es:List Expr) (t:TA):Prop:=
 ∀ (pos:Pos) (pins:List (Addr×Obj)) (s:Shared) (σ:St) (H:Hp) (Q:List V->Hp->Prop),Inv X pins σ H s->t σ H Q->wpAny (model X.prog X.w) X.A (spliced (backTo pos (starEach es X.env))) (AP X pins σ Q) X.xe s
def PS (X:Cx) (st:Stmt) (t:TS):Prop:=
 ∀ (pins:List (Addr×Obj)) (s:Shared) (σ:St) (H:Hp) (D:Ends),Inv X pins σ H s->t D σ H->wpAny (model X.prog X.w) X.A (exec st X.env) (SP X pins D) X.xe s
def gC (X:Cx) (st:List Stmt) (t:TS):Prop:=
 ∀ (pins:List (Addr×Obj)) (s:Shared) (σ:St) (H:Hp) (D:Ends),Inv X pins σ H s->t D σ H->wpAny (model X.prog X.w) X.A (execs st X.env) (SP X pins D) X.xe s
theorem aC {α:Type}{t:Sem α}{Q Q':α->Shared->Prop}{M:Model}{E:Value->Shared->Prop} (h:wpAny M A t Q E s) (hQ:∀a s,Q a s->Q' a s):wpAny M A t Q' E s:=nV h hQ fun _ _ x=>x
section
def qb (i:Nat):TE:=fun σ H Q=>∃v,σ[i]? = some (some v)/\Q v H
def tC (v:V):TE:=fun _ H Q=>Q v H
theorem WT (hN:X.N[i]? = some x) (hv:E5 X.env.scope x) (hd:(x==("__debug__" : Str))=false:=by decide) (gg:(x==("__classdict__" : Str))=false:=by decide):PE X (.Name x pos) (qb i):=by
 intro pins s σ H Q I h;obtain⟨v,e,h⟩:=h;obtain⟨m,hn,hl⟩:=I.loc;obtain⟨u,r,l⟩:=hl i x v hN e hv;have fin:EP X pins σ Q u s:=⟨v,H,I,r,h⟩;rcases l with⟨hk,hm⟩|⟨hk,c,hc,MI⟩
 ·exact wpAny_Name (wpAny_loadName_local I.ok.kind hk hn hm fin) hd
 ·rcases hk with hk|hk
  ·exact wpAny_Name (wpAny_loadName_cell I.ok.kind hk hc MI fin) hd
  ·exact wpAny_Name (wpAny_loadName_free I.ok.kind hk hc MI fin gg) hd
theorem aG {i j pos}:PE X (.Constant (.int i) j pos) (tC (.int i)):=fun _ _ _ H _ I h=>wpAny_Constant_int ⟨.int i,H,I.tok _,⟨_,rfl⟩,h⟩
theorem iu {b j pos}:PE X (.Constant (.bool b) j pos) (tC (.bl b)):=fun _ _ _ H _ I h=>Constant_bool ⟨.bl b,H,I,rfl,h⟩
theorem jF {j pos}:PE X (.Constant .none j pos) (tC .ax):=fun _ _ _ H _ I h=>Constant_none ⟨.ax,H,I,rfl,h⟩
theorem eT {x j pos}:PE X (.Constant (.str x) j pos) (tC (.str x)):=fun _ _ _ H _ I h=>Calls.Constant_str ⟨.str x,H,I.tok _,⟨_,rfl⟩,h⟩
def Gl (X:Cx) (x:Str):Prop:=X.env.kindOf x=some .globalImplicit
theorem mV {E:Value->Shared->Prop}{Q:Value->Shared->Prop} (I:Inv X pins σ H s) (hg:Gl X x) (hm:X.mg x=some u) (h:Q u s)
  (hd:(x==("__debug__" : Str))=false:=by decide):wpAny (model X.prog X.w) X.A (eval (.Name x pos) X.env) Q E s:=
 ahg I.ok.kind hg (Calls.loadGlobal_global (by rw[I.ok.glob];exact I.mod.glob.keeps I.bk) hm h) hd
theorem uc {E:Value->Shared->Prop}{Q:Value->Shared->Prop} (I:Inv X pins σ H s) (hg:Gl X x) (hm:X.mg x=none) (hv:bootBuiltins x=some u) (h:Q u s)
  (hn:x ≠ "__name__" :=by decide) (hd:(x==("__debug__" : Str))=false:=by decide):wpAny (model X.prog X.w) X.A (eval (.Name x pos) X.env) Q E s:=by
 obtain⟨mb,h1,h2⟩:=I.mod.blt;exact ahg I.ok.kind hg (Calls.loadGlobal_builtin (by rw[I.ok.glob];exact I.mod.glob.keeps I.bk) hm (by rw[I.ok.blt];exact h1.keeps I.bk) ((h2 x hn).trans hv) h) hd
theorem Lw (hg:Gl X x) (hm:X.mg x=some u) (r:RelV v u) (hd:(x==("__debug__" : Str))=false:=by decide):PE X (.Name x pos) (tC v):=
 fun _ _ _ H _ I h=>mV I hg hm ⟨v,H,I,r,h⟩ hd
theorem zG (hg:Gl X x) (hm:X.mg x=none) (hv:bootBuiltins x=some u) (r:RelV v u) (hn:x ≠ "__name__" :=by decide) (hd:(x==("__debug__" : Str))=false:=by decide):PE X (.Name x pos) (tC v):=
 fun _ _ _ H _ I h=>uc I hg hm hv ⟨v,H,I,r,h⟩ hn hd
variable{a b:Expr}{tb:TE}
def PC (X:Cx) (op:CmpOp) (a b:Expr) (t:TE):Prop:=
 ∀ (pins:List (Addr×Obj)) (s:Shared) (σ:St) (H:Hp) (Q:VK),Inv X pins σ H s->t σ H Q ->
  wpAny (model X.prog X.w) X.A (eval a X.env) (fun v a4=>wpAny (model X.prog X.w) X.A (eval b X.env) (fun u lV=>wpAny (model X.prog X.w) X.A (compareOp op v u) (EP X pins σ Q) X.xe lV) X.xe a4) X.xe s
def tB (t:TE):TT:=fun σ H Q=>t σ H fun x H1=>∃c,x = .bl c/\Q c H1
theorem Mg {op:CmpOp}{t:TE} (h:PC X op a b t) (h1:behindInMarks op b=false:=by first|exact UI _ (by decide) (by decide)|rfl):PE X (.Compare a [op] [b] pos) t:=fun pins s σ H Q I hw=>wpAny_Compare1 (h pins s σ H Q I hw) h1
theorem WU {op:CmpOp}{t:TE} (h:PC X op a b t) (h1:behindInMarks op b=false:=by first|exact UI _ (by decide) (by decide)|rfl):PT X (.Compare a [op] [b] pos) (tB t):=by
 intro pins s σ H Q I hw;refine wpAny_isTrue_Compare1 (aC (h pins s σ H _ I hw) fun v s1 h1=>aC h1 fun u s2 h2=>aC h2 fun c s3 ⟨x,H1,I1,r1,q1⟩=>?_) h1;obtain⟨d,rfl,q⟩:=q1;cases r1
 exact my ⟨H1,I1,q⟩
theorem i7 {t:TE} (h:PE X e t) (he:∀whole,isTrue e X.env whole=(do let v <- whole;standAt e.pos;holding [v] (truthy v)):=by intro _;rfl):PT X e (tB t):=by
 intro pins s σ H Q I hw;refine isTrue_plain (aC (h pins s σ H _ I hw) fun v s1 ⟨x,H1,I1,r1,q1⟩=>?_) (he _);obtain⟨d,rfl,q⟩:=q1;cases r1
 exact my ⟨H1,I1,q⟩
variable{tA Ap:TT}{rest:List Expr}
def Zf (t u:TT):TT:=fun σ H Q=>t σ H fun c H1=>if c=true then u σ H1 Q else Q false H1
def tOr (t u:TT):TT:=fun σ H Q=>t σ H fun c H1=>if c=true then Q true H1 else u σ H1 Q
def Zg (t:TT):TT:=fun σ H Q=>t σ H fun c H1=>Q (!c) H1
theorem pw_and1 (ha:PT X a tA):PW X (.BoolOp .And [a] pos) tA:=by
 intro wh pins s σ H Q I h;refine isTrue_and (aC (ha pins s σ H Q I h) fun c s1 e=>?_);cases c with
 |true=>exact isTrue_and_nil e
 |false=>exact e
theorem pw_or1 (ha:PT X a tA):PW X (.BoolOp .Or [a] pos) tA:=by
 intro wh pins s σ H Q I h;refine isTrue_or (aC (ha pins s σ H Q I h) fun c s1 e=>?_);cases c with
 |false=>exact isTrue_or_nil e
 |true=>exact e
theorem pw_and (ha:PT X a tA) (hb:PW X (.BoolOp .And (b::rest) pos) Ap):PW X (.BoolOp .And (a::b::rest) pos) (Zf tA Ap):=by
 intro wh pins s σ H Q I h;refine isTrue_and (aC (ha pins s σ H _ I h) fun c s1 ⟨H1,I1,q1⟩=>?_);cases c with
 |true=>exact hb wh pins s1 σ H1 Q I1 q1
 |false=>exact⟨H1,I1,q1⟩
theorem pw_or (ha:PT X a tA) (hb:PW X (.BoolOp .Or (b::rest) pos) Ap):PW X (.BoolOp .Or (a::b::rest) pos) (tOr tA Ap):=by
 intro wh pins s σ H Q I h;refine isTrue_or (aC (ha pins s σ H _ I h) fun c s1 ⟨H1,I1,q1⟩=>?_);cases c with
 |true=>exact⟨H1,I1,q1⟩
 |false=>exact hb wh pins s1 σ H1 Q I1 q1
theorem jG (ha:PT X a tA):PT X (.UnaryOp .Not a pos) (Zg tA):=by
 intro pins s σ H Q I h;exact isTrue_not (ha pins s σ H (fun c H1=>Q (!c) H1) I h)
def XX (ta tb:TE):TE:=fun σ H Q=>ta σ H fun x H1=>∃c,x = .bl c/\if c=true then tb σ H1 Q else Q (.bl false) H1
def XY (ta:TE):TE:=fun σ H Q=>ta σ H fun x H1=>∃c,x = .bl c/\Q (.bl (!c)) H1
theorem Mh {op}{t:TE} (h:PE X a t):PE X (.BoolOp op [a] pos) t:=fun pins s σ H Q I hw=>BoolOp_one (h pins s σ H Q I hw)
theorem DA (ha:PE X a ta) (hb:PE X (.BoolOp .And (b::rest) pos) tb):PE X (.BoolOp .And (a::b::rest) pos) (XX ta tb):=by
 intro pins s σ H Q I h;refine BoolOp_and (aC (ha pins s σ H _ I h) fun v s1 ⟨x,H1,I1,r1,q1⟩=>?_);obtain⟨c,rfl,q1⟩:=q1;cases r1
 refine my ?_;cases c with
 |true=>exact hb pins s1 σ H1 Q I1 q1
 |false=>exact⟨.bl false,H1,I1,rfl,q1⟩
theorem WV (ha:PE X a ta):PE X (.UnaryOp .Not a pos) (XY ta):=by
 intro pins s σ H Q I h;refine UnaryOp_ (aC (ha pins s σ H _ I h) fun v s1 ⟨x,H1,I1,r1,q1⟩=>?_);obtain⟨c,rfl,q1⟩:=q1;cases r1
 exact not_of (my ⟨.bl (!c),H1,I1,rfl,q1⟩)
end
def aj (K:PySem.W.Frag) (H:Hp) (a:Addr) (xs:List V):Prop:=
 Rd H a (.lst xs) \/
  ∃ (o:Obj) (its:Array Value) (n:Nat),K.lookup a=some o/\o.cls = .type "list" /\ o.dict=none/\o.data = .seq its n/\its.size<=sizeLine/\Vals xs its.toList
def aN (K:PySem.W.Frag) (H:Hp) (a:Addr) (xs:List V):Prop:=
 Rd H a (.tup xs) \/
  ∃ (o:Obj) (its:Array Value) (n:Nat),K.lookup a=some o/\o.cls = .type "tuple" /\ o.data = .seq its n/\its.size<=sizeLine/\Vals xs its.toList
def Zh:Value->Option V
 |.none=>some .ax
 |.bool b=>some (.bl b)
 |.int i _=>some (.int i)
 |.str x _=>some (.str x)
 |.bytes b _=>some (.jN b)
 |.float b _=>some (.jO b)
 |.ref a=>some (.ref a)
 |.type n=>some (.ty n)
 |_=>none
theorem RelV.abs {x:V} (r:RelV x u):Zh u=some x:=by
 cases x with
 |ax=>cases r;rfl
 |bl _=>cases r;rfl
 |int _=>obtain⟨t,rfl⟩:=r;rfl
 |str _=>obtain⟨t,rfl⟩:=r;rfl
 |jN _=>obtain⟨t,rfl⟩:=r;rfl
 |jO _=>obtain⟨t,rfl⟩:=r;rfl
 |ref _=>cases r;rfl
 |ty _=>cases r;rfl
theorem RelV.inj {x:V} (r:RelV x u) (q:RelV y u):x=y:=fZ (r.abs.symm.trans q.abs)
theorem Vals.inj:∀ {xs ys:List V}{us:List Value},Vals xs us->Vals ys us->xs=ys
 |_,_,_,.nil,.nil=>rfl
 |_,_,_,.cons r t,.cons r' t'=>by rw[r.inj r',Vals.inj t t']
theorem aj.of (h:H a=some (.lst xs)):aj K H a xs:= .inl (.inl h)
theorem aN.of (h:H a=some (.tup xs)):aN K H a xs:= .inl (.inl h)
theorem Inv.list (I:Inv X pins σ H s) (h:aj X.K H a xs):∃its:List Value,Vals xs its/\PlainL s.heap a its.toArray/\xs.length<=sizeLine:=by
 rcases h with h|⟨o,its,n,hk,hc,hd,hs,hz,r⟩
 ·obtain⟨z,its,n,r,e⟩:=h.ok I.ay
  exact⟨its,r,⟨_,n,e,rfl,rfl,rfl⟩,z⟩
 ·refine⟨its.toList,r,⟨o,n,I.bc a o hk,hc,hd,by simpa using hs⟩,?_⟩
  have e:=r.length;simp only[mz]at e;omega
theorem Inv.tuple (I:Inv X pins σ H s) (h:aN X.K H a xs):∃its:List Value,Vals xs its/\IsTup s.heap a its.toArray/\xs.length<=sizeLine:=by
 rcases h with h|⟨o,its,n,hk,hc,hs,hz,r⟩
 ·obtain⟨z,its,r,p⟩:=h.ok I.ay
  exact⟨its,r,p.is,z⟩
 ·refine⟨its.toList,r,⟨o,I.bc a o hk,hc,n,by simpa using hs⟩,?_⟩
  have e:=r.length;simp only[mz]at e;omega
theorem Inv.zu (I:Inv X pins σ H s) (h:aj X.K H a xs) (h':aj X.K H a ys):xs=ys:=by
 obtain⟨its,r,⟨o,n,e,_,_,d⟩,_⟩:=I.list h;obtain⟨its',r',⟨o',n',e',_,_,d'⟩,_⟩:=I.list h';rw[e]at e';cases e';rw[d]at d';injection d' with d1 _;have:its=its':=by simpa using eY Array.toList d1
 subst this;exact r.inj r'
theorem Inv.Tz (I:Inv X pins σ H s) (h:aN X.K H a xs) (h':aN X.K H a ys):xs=ys:=by
 obtain⟨its,r,⟨o,e,_,n,d⟩,_⟩:=I.tuple h;obtain⟨its',r',⟨o',e',_,n',d'⟩,_⟩:=I.tuple h';rw[e]at e';cases e';rw[d]at d';injection d' with d1 _;have:its=its':=by simpa using eY Array.toList d1
 subst this;exact r.inj r'
abbrev Cx.ll (X:Cx) (E:Value->Shared->Prop):Cx:={ X with xe:=E }
abbrev Cx.Aq (X:Cx):Cx:=X.ll fun _ _=>False
theorem Cx.Ok.ll (ok:X.Ok) (E:Value->Shared->Prop):(X.ll E).Ok:=
 ⟨ok.mod,ok.kind,ok.glob,ok.blt,ok.above,ok.inj,ok.has,ok.oQ,ok.hd,ok.frames,ok.l0,ok.nD,ok.bs,ok.ko,ok.oJ,ok.ng,ok.f',ok.lu⟩
theorem Cx.Ok.pR {E:Value->Shared->Prop} (ok:(X.ll E).Ok):X.Ok:=
 ⟨ok.mod,ok.kind,ok.glob,ok.blt,ok.above,ok.inj,ok.has,ok.oQ,ok.hd,ok.frames,ok.l0,ok.nD,ok.bs,ok.ko,ok.oJ,ok.ng,ok.f',ok.lu⟩
section
variable{E:Value->Shared->Prop}
theorem Inv.ll (I:Inv X pins σ H s) (E:Value->Shared->Prop):Inv (X.ll E) pins σ H s:=⟨I.ok.ll E,I.os,I.bare,I.base,I.loc,I.cell,I.free,I.ir,I.pin,I.ay,I.len⟩
theorem Inv.pR (I:Inv (X.ll E) pins σ H s):Inv X pins σ H s:=⟨I.ok.pR,I.os,I.bare,I.base,I.loc,I.cell,I.free,I.ir,I.pin,I.ay,I.len⟩
theorem SP.pR {f:Flow} (h:SP (X.ll E) pins D f s'):SP X pins D f s':=by
 cases f with
 |next=>obtain⟨aJ,H',I,q⟩:=h;exact⟨aJ,H',I.pR,q⟩
 |brk=>obtain⟨aJ,H',I,q⟩:=h;exact⟨aJ,H',I.pR,q⟩
 |cont=>obtain⟨aJ,H',I,q⟩:=h;exact⟨aJ,H',I.pR,q⟩
 |ret u=>obtain⟨v,aJ,H',I,r,q⟩:=h;exact⟨v,aJ,H',I.pR,r,q⟩
theorem gC.Aq {st:List Stmt}{t:TS} (h:gC X.Aq st t):gC X st t:=fun pins s σ H D I hw =>
 nV (h pins s σ H D (I.ll _) hw) (fun _ _ q=>q.pR) fun _ _ z=>False.elim z
end
section
variable{st:Stmt}{rest:List Stmt}{t u:TS}
def MJ:TS:=fun D σ H=>D.nx σ H
def Nh (t u:TS):TS:=fun D σ H=>t { D with nx:=u D } σ H
theorem fu:gC X [] MJ:=fun _ _ σ H _ I h=>yN ⟨σ,H,I,h⟩
theorem aB (h1:PS X st t) (h2:gC X rest u):gC X (st::rest) (Nh t u):=by
 intro pins s σ H D I h;refine Q6 (aC (h1 pins s σ H { D with nx:=u D } I h) fun f s1 q=>?_);cases f with
 |next =>
  obtain⟨aJ,H',I',q⟩:=q;exact h2 pins s1 aJ H' D I' q
 |ret v=>exact q
 |brk=>exact q
 |cont=>exact q
theorem aO (h1:PS X st t):gC X [st] t:=by
 intro pins s σ H D I h;refine Q6 (aC (h1 pins s σ H D I h) fun f s1 q=>?_);cases f with
 |next=>exact yN q
 |ret v=>exact q
 |brk=>exact q
 |cont=>exact q
theorem Inv.quiet (I:Inv X pins σ H s):interactive X.env=false:=by simp[interactive,I.ok.kind]
def XZ (te:TE):TS:=fun D σ H=>te σ H fun _ H1=>D.nx σ H1
theorem eP (he:PE X e te) (hs:swapsWith e none pos.line X.env=pure false:=by rfl):PS X (.Expr e pos) (XZ te):=by
 intro pins s σ H D I h;exact wpAny_Expr_any (aC (he pins s σ H _ I h) fun v s1 ⟨x,H1,I1,r1,q1⟩=>⟨σ,H1,I1,q1⟩) I.quiet hs
def D9 (te:TE):TS:=fun D σ H=>te σ H D.rt
theorem b9 (he:PE X e te):PS X (.Return (some e) pos) (D9 te):=by
 intro pins s σ H D I h;exact wpAny_Return_some (aC (he pins s σ H _ I h) fun v s1 ⟨x,H1,I1,r1,q1⟩=>⟨x,σ,H1,I1,r1,q1⟩)
def Ni (c:TT) (t u:TS):TS:=fun D σ H=>c σ H fun b H1=>if b=true then t D σ H1 else u D σ H1
theorem fj {c:Expr}{a b:List Stmt} (hc:PT X c tc) (ha:gC X a t) (hb:gC X b u):PS X (.If c a b pos) (Ni tc t u):=by
 intro pins s σ H D I h;refine wpAny_If (aC (hc pins s σ H _ I h) fun d s1 ⟨H1,I1,q1⟩=>?_);cases d with
 |true=>exact ha pins s1 σ H1 D I1 q1
 |false=>exact hb pins s1 σ H1 D I1 q1
end
abbrev TG:=V->St->Hp->(St->Hp->Prop)->Prop
abbrev nG:=List V->St->Hp->(St->Hp->Prop)->Prop
def PG (X:Cx) (target:Expr) (t:TG):Prop:=
 ∀ (pins:List (Addr×Obj)) (s:Shared) (σ:St) (H:Hp) (v:V) (u:Value) (Q:St->Hp->Prop),Inv X pins σ H s->RelV v u->t v σ H Q ->
  wpAny (model X.prog X.w) X.A (assign target X.env u) (fun _ s'=>∃aJ H',Inv X pins aJ H' s'/\Q aJ H') X.xe s
def uW (X:Cx) (ts:List Expr) (t:nG):Prop:=
 ∀ (pins:List (Addr×Obj)) (s:Shared) (σ:St) (H:Hp) (vs:List V) (us:List Value) (Q:St->Hp->Prop),Inv X pins σ H s->Vals vs us->t vs σ H Q ->
  wpAny (model X.prog X.w) X.A (assignInOrder ((assignEach ts X.env).map (·.2)) us) (fun _ s'=>∃aJ H',Inv X pins aJ H' s'/\Q aJ H') X.xe s
abbrev D':=V->V->V->Hp->(Hp->Prop)->Prop
def Nj (X:Cx) (t:D'):Prop:=
 ∀ (pins:List (Addr×Obj)) (s:Shared) (σ:St) (H:Hp) (o i v:V) (ov iv u:Value) (Q:Hp->Prop),Inv X pins σ H s->RelV o ov->RelV i iv->RelV v u->t o i v H Q ->
  wpAny (model X.prog X.w) X.A (setItem ov iv u) (fun _ s'=>∃H',Inv X pins σ H' s'/\Q H') X.xe s
def m4 (i:Nat):TG:=fun v σ H Q=>Q (σ.set i (some v)) H
theorem bg (hN:X.N.Nodup) (hi:X.N[i]? = some x) (hx:Loc X.env.scope x) (hf:X.fn x=true\/X.env.scope.names.lookup x=some .local:=by first|exact .inl rfl|exact .inr rfl|assumption):PG X (.Name x pos) (m4 i):=by
 intro pins s σ H v u Q I r h;exact wpAny_assign_Name (tU I hN hi hx r (fun s' I'=>⟨_,H,I',h⟩) hf)
def Zi:nG:=fun vs σ H Q=>vs = []/\Q σ H
def X0 (t:TG) (u:nG):nG:=fun vs σ H Q=>∃v r,vs=v::r/\t v σ H fun aJ H'=>u r aJ H' Q
theorem tZ:uW X [] Zi:=by
 intro pins s σ H vs us Q I r h;obtain⟨e,h⟩:=h;subst e;cases r
 exact assignInOrder_nil ⟨σ,H,I,h⟩
theorem j5 {t:TG}{u:nG} (h1:PG X e t) (h2:uW X es u)
  (hs:(assignEach (e::es) X.env).map (·.2)=assign e X.env::(assignEach es X.env).map (·.2):=by rfl):uW X (e::es) (X0 t u):=by
 intro pins s σ H vs us Q I r h;obtain⟨v,vr,e1,h⟩:=h;subst e1;cases r with
 |cons r rr =>
  rw[hs];refine Q7 (aC (h1 pins s σ H _ _ _ I r h) fun _ s1 ⟨uX,H1,I1,q1⟩=>?_);exact h2 pins s1 uX H1 _ _ Q I1 rr q1
def Nk (K:PySem.W.Frag) (n:Nat) (t:nG):TG:=fun v σ H Q=>∃a xs,v = .ref a/\aN K H a xs/\xs.length=n/\t xs σ H Q
theorem wG {k:Nat}{t:nG} (hc:X.calm=true) (h:uW X es t)
  (hn:(assignEach es X.env).length=n:=by rfl) (xP:(assignEach es X.env).findIdx? (·.1)=none:=by rfl):PG X (.Tuple es k pos) (Nk X.K n t):=by
 intro pins s σ H v u Q I r hw;obtain⟨a,xs,e1,hq,hl,hw⟩:=hw;subst e1;cases r
 obtain⟨its,rv,ht,hz⟩:=I.tuple hq;refine assign_Tuple_tuple (I.ok.hd hc) ht (by simp[hn,<-hl,rv.length]) xP fun h' hx=>?_
 have I1:Inv X pins σ H { s with heap:=h' }:=I.kept (t':=s.toks) fun b o e=>hx b o (bT (aW e)) e;exact h pins _ σ H xs _ Q I1 (by simpa using rv) hw
def Zj (to ti:TE) (t:D'):TG:=fun v σ H Q=>to σ H fun o H1=>ti σ H1 fun i H2=>t o i v H2 fun H3=>Q σ H3
theorem Mi {o i:Expr}{to ti:TE}{t:D'} (ho:PE X o to) (hi:PE X i ti) (hs:Nj X t)
  (ha:∀v,assign (.Subscript o i pos) X.env v=(do
   let ov <- holding [v] (eval o X.env)
   let iv <- holding [v,ov] (eval i X.env)
   standAt pos
   holding [v,ov,iv] (setItem ov iv v)
   release [v,ov,iv] []):=by intro _;rfl):PG X (.Subscript o i pos) (Zj to ti t):=by
 intro pins s σ H v u Q I r h;rw[ha];refine ag (eu (aC (ho pins s σ H _ I h) fun ov s1 ⟨x,H1,I1,r1,q1⟩=>?_));refine ag (eu (aC (hi pins s1 σ H1 _ I1 q1) fun iv s2 ⟨y,H2,I2,r2,q2⟩=>?_));refine ag (pD (ag (eu (aC (hs pins s2 σ H2 x y v ov iv u _ I2 r1 r2 r q2) fun _ s3 ⟨H3,I3,q3⟩=>?_))));exact wpAny_release ⟨σ,H3,I3,q3⟩
def z7 (te:TE) (g:TG):TS:=fun D σ H=>te σ H fun x H1=>g x σ H1 D.nx
theorem zK {g:TG} (he:PE X e te) (hg:PG X tg g) (hs:swapsWithSole [tg] e pos.line X.env=pure false:=by rfl) (hw:swappedStores [tg] e X.env=pure none:=by rfl)
  (h1:(assignEach [tg] X.env).map (·.2) = [assign tg X.env]:=by rfl):PS X (.Assign [tg] e pos) (z7 te g):=by
 intro pins s σ H D I h;refine wpAny_Assign_stores (aC (he pins s σ H _ I h) fun v s1 ⟨x,H1,I1,r1,q1⟩=>?_) hs hw;rw[h1];exact aC (hg pins s1 σ H1 x v _ I1 r1 q1) fun _ s2 q=>q
theorem aZ (hN:X.N.Nodup) (hi:X.N[i]? = some x) (hx:Loc X.env.scope x) (he:PE X e te) (hs:swapsWith e (some (.Name x pos')) pos.line X.env=pure false:=by rfl) (hf:X.fn x=true\/X.env.scope.names.lookup x=some .local:=by first|exact .inl rfl|exact .inr rfl|assumption) :
  PS X (.Assign [.Name x pos'] e pos) (z7 te (m4 i)):=by
 intro pins s σ H D I h;refine wpAny_Assign_Name (aC (he pins s σ H _ I h) fun v s1 ⟨y,H1,I1,r1,q1⟩=>?_) hs;exact tU I1 hN hi hx r1 (fun s2 I2=>⟨_,H1,I2,q1⟩) hf
def Zk (i j:Nat) (ta:TA):TS:=fun D σ H=>ta σ H fun vs H1=>∃v w,vs = [v,w]/\D.nx ((σ.set i (some v)).set j (some w)) H1
theorem Mj {y:Str}{a b:Expr}{ta:TA}{px py pt:Pos}{kt k2 E8} (hc:X.calm=true) (hN:X.N.Nodup) (hi:X.N[i]? = some x) (hj:X.N[j]? = some y) (dw:i≠j)
  (hx:X.env.scope.names.lookup x=some .local) (hy:X.env.scope.names.lookup y=some .local) (ha:PA X [a,b] ta)
  (hw:swappedStores [.Tuple [.Name x px,.Name y py] kt pt] (.Tuple [a,b] k2 E8) X.env=pure (some [x,y]))
  (hs:swapsWithSole [.Tuple [.Name x px,.Name y py] kt pt] (.Tuple [a,b] k2 E8) pos.line X.env=pure false:=by rfl) :
  PS X (.Assign [.Tuple [.Name x px,.Name y py] kt pt] (.Tuple [a,b] k2 E8) pos) (Zk i j ta):=by
 intro pins s σ H D I h;rw[exec_Assign_arm];refine ag (pD ?_);rw[hs];refine ag (aA ?_);rw[ao (by decide)]
 refine ag (Tuple_ (aC (ha _ pins s σ H _ I h) fun us s1 ⟨vs,H1,I1,r1,q1⟩=>?_));obtain⟨v,w,e1,q1⟩:=q1;subst e1;obtain⟨u1,u2,rfl,rv,gL⟩:∃u1 u2,us = [u1,u2]/\RelV v u1/\RelV w u2:=by
  cases r1 with
  |cons p q =>
   cases q with
   |cons p' q' =>
    cases q'
    exact⟨_,_,rfl,p,p'⟩
 refine qG ?_ (by show 2<=sizeLine;decide)
 have I2:Inv X pins σ H1 { s1 with heap:=s1.heap.push { cls:= .type "tuple",data:= .seq [u1,u2].toArray } }:=I1.kept (t':=s1.toks) fun b o e=>bU _ e;rw[hw];refine ag (aA ?_);show wpAny (model X.prog X.w) X.A (do rule "assign.swapped-stores"; let items <- unpackItems (.ref s1.heap.objs.size) 2 none;assignInOrder [fun v=>bindName X.env y v,fun v=>bindName X.env x v] items.reverse;pure Flow.next) _ _ _;refine ag (nW (ag (unpackItems_tuple (items:= #[u1,u2]) (I.ok.hd hc) (IsTup.new s1.heap _) fun h' ff=>?_)));have I3:=I2.kept (h':=h') (t':=s1.toks) fun b o e=>ff b o (bT (aW e)) e;show wpAny _ _ (assignInOrder [fun v=>bindName X.env y v,fun v=>bindName X.env x v] [u2,u1] >>= fun _=>pure Flow.next) _ _ _;refine ag (Q7 (wpAny_bindName (tU I3 hN hj (.inl hy) gL (fun s2 I4=>?_) (.inr hy))));refine Q7 (wpAny_bindName (tU I4 hN hi (.inl hx) rv (fun s3 I5=>assignInOrder_nil (aA ?_)) (.inr hx)));rw[List.set_comm _ _ (aH dw)]at I5;exact⟨_,H1,I5,q1⟩
def WW (c:TT) (tb:TS):TS:=fun D σ H=>∃W:Nat->St->Hp->Prop,(∃m,W m σ H) /\ ∀m σ H,W m σ H ->
 c σ H fun b H1=>if b=true then ∃N:St->Hp->Prop,(∀aJ H',N aJ H' -> ∃m',m' < m/\W m' aJ H')/\tb { D with nx:=N,ct:=N,bk:=D.nx } σ H1 else D.nx σ H1
theorem vX {c:Expr} (hp:PassesOwn (model X.prog X.w) X.A X.env X.xe) (hc:PT X c tc) (hb:gC X body tb):PS X (.While c body [] pos) (WW tc tb):=by
 intro pins s σ H D I h;obtain⟨W,⟨m0,w0⟩,turn⟩:=h;refine wpAny_While (codeAny_whileLoop (fun n s'=>∃aJ H',Inv X pins aJ H' s'/\W n aJ H') ?_ m0 ⟨σ,H,I,w0⟩);rintro n s1 ⟨uX,H1,I1,w1⟩;refine vI hp (aC (hc pins s1 uX H1 _ I1 (turn n uX H1 w1)) fun b s2 ⟨H2,I2,q2⟩=>?_);cases b with
 |true =>
  obtain⟨N,hN,q2⟩:=q2;rw[au rfl];refine vI hp (aC (hb pins s2 uX H2 _ I2 q2) fun f s3 q3=>?_);cases f with
  |next =>
   obtain⟨md,H3,I3,n3⟩:=q3;obtain⟨m',hm,w3⟩:=hN md H3 n3;exact⟨m',hm,md,H3,I3,w3⟩
  |cont =>
   obtain⟨md,H3,I3,n3⟩:=q3;obtain⟨m',hm,w3⟩:=hN md H3 n3;exact⟨m',hm,md,H3,I3,w3⟩
  |brk=>exact q3
  |ret v=>exact q3
 |false =>
  rw[ao cX];exact yN ⟨uX,H2,I2,q2⟩
structure It where
 go:Nat->Hp->Prop
 qo:Nat->Hp->V->Hp->Prop
 stop:Nat->Hp->Prop
def gb (X:Cx) (pins:List (Addr×Obj)) (H:Hp) (b:Addr):Prop:=
 H b=none/\b≠X.env.locals/\b ∉ X.fs/\(b∈X.ex\/X.cH.heap.objs.size<=b)/\(∀x c,X.env.cells.lookup x=some c->c≠b) /\ ∀p∈X.pn++pins,p.1≠b
theorem Inv.lq (I:Inv X pins σ H s) (hb:s.heap.objs.size<=b) (hn:H' b=none):gb X pins H' b:=by
 refine⟨hn,BH (gx I.lt hb),I.Zd hb,.inr (cK I.sz hb),fun x c e z=>?_,fun p hp z=>?_⟩
 ·obtain⟨v,q⟩:=I.cell x c e
  exact absurd (gx q.lt (by rw[z];exact hb)) (pB _)
 ·exact absurd (gx (aW (I.pin p hp).1) (by rw[z];exact hb)) (pB _)
structure Turn (P:Program) (w:World) (K:PySem.W.Frag) (tg:Expr) (J:It) (fp:List Addr) (it:Addr) (tn:Nat->Heap->Prop):Prop where
 mem:it∈fp
 obj:∀i h,tn i h -> ∀b∈fp,∃o,h.get? b=some o /\ ∀v,o.data ≠ .cell v
 keep:∀i h h',tn i h->(∀b∈fp,∀o,h.get? b=some o->h'.get? b=some o)->tn i h'
 item:∀ (X:Cx),X.prog=P->X.w=w->X.K=K->X.calm=true -> ∀ (i:Nat) (pins:List (Addr×Obj)) (s:Shared) (σ:St) (H:Hp) (E:Value->Shared->Prop),Inv X pins σ H s->(∀b∈fp,gb X pins H b)->tn i s.heap->J.go i H ->
  wpAny (model P w) X.A (pyNext (.ref it)) (fun r s1=>∃u,r=some u /\
   wpAny (model P w) X.A (letOwnedTupleGo tg (.ref it) u) (fun _ s2=>∃x H',Inv X pins σ H' s2/\RelV x u/\J.qo i H x H'/\tn (i+1) s2.heap /\ ∀b∈fp,H' b=none) E s1) E s
 done:∀ (X:Cx),X.prog=P->X.w=w->X.K=K->X.calm=true -> ∀ (i:Nat) (pins:List (Addr×Obj)) (s:Shared) (σ:St) (H:Hp) (E:Value->Shared->Prop),Inv X pins σ H s->(∀b∈fp,gb X pins H b)->tn i s.heap->J.stop i H ->
  wpAny (model P w) X.A (pyNext (.ref it)) (fun r s1=>r=none/\Inv X pins σ H s1) E s
 self:∀ (A:Around) (i:Nat) (s:Shared) (Q:Value->Shared->Prop) (E:Value->Shared->Prop),tn i s.heap->Q (.ref it) s->wpAny (model P w) A (pyIter (.ref it)) Q E s
abbrev TI:=St->Hp->(It->Hp->Prop)->Prop
def Oy (X:Cx) (pins:List (Addr×Obj)) (σ:St) (tg:Expr) (R:It->Hp->Prop) (sh:Value) (s2:Shared):Prop:=
 ∃ (it:Addr) (fp:List Addr) (tn:Nat->Heap->Prop) (J:It) (H':Hp),sh = .ref it/\Inv X pins σ H' s2/\Turn X.prog X.w X.K tg J fp it tn/\tn 0 s2.heap/\(∀b∈fp,gb X pins H' b)/\R J H'
def PI (X:Cx) (tg iter:Expr) (wi:TI):Prop:=
 ∀ (pins:List (Addr×Obj)) (s:Shared) (σ:St) (H:Hp) (R:It->Hp->Prop),Inv X pins σ H s->wi σ H R ->
  wpAny (model X.prog X.w) X.A (eval iter X.env) (fun v s1=>wpAny (model X.prog X.w) X.A (pyIter v) (Oy X pins σ tg R) X.xe s1) X.xe s
theorem xf {M:Model}{E:Value->Shared->Prop}{o:Obj}{n:String}{vs:Array Value}{Q:Unit->Shared->Prop} (ho:s.heap.get? it=some o) (hc:o.cls = .type n) (hd:o.data = .fields vs)
  (hn : ["enumerate","zip","dict_itemiterator","dict_reverseitemiterator","odict_iterator","itertools.zip_longest","itertools.pairwise"].contains n=false) (hQ:Q () s):wpAny M A (letOwnedTupleGo tg (.ref it) u) Q E s:=by
 unfold letOwnedTupleGo;cases tg <;> first
  |exact aA hQ
  |(cases u <;> first
    |exact aA hQ
    |(refine ag (wpAny_load ho ?_);rw[hc,hd];show wpAny M A (if (["enumerate","zip","dict_itemiterator","dict_reverseitemiterator","odict_iterator","itertools.zip_longest","itertools.pairwise"].contains n && vs[0]? == some (rawInt _))=true then _ else _) Q E s;rw[ao (by intro h;rw[hn,Bool.false_and]at h;cases h)];exact aA hQ))
def si (K:PySem.W.Frag) (a:Addr):It:=
 ⟨fun i H=>∃xs x,aj K H a xs/\xs[i]? = some x,fun i H x H'=>H'=H /\ ∀xs,aj K H a xs->xs[i]? = some x,fun i H=>∃xs,aj K H a xs/\xs.length<=i⟩
def oS (K:PySem.W.Frag) (a:Addr):It:=
 ⟨fun i H=>∃xs x,aN K H a xs/\xs[i]? = some x,fun i H x H'=>H'=H /\ ∀xs,aN K H a xs->xs[i]? = some x,fun i H=>∃xs,aN K H a xs/\xs.length<=i⟩
def sj (lo:Int) (n:Nat):It:=⟨fun i _=>i < n,fun i H x H'=>H'=H/\x = .int (lo+i),fun i _=>n<=i⟩
theorem TB (a it:Addr):Turn P w K tg (si K a) [it] it (fun i h=>h.IsListIter it a i) where
 mem:=by simp
 obj:=fun i h st b hb=>by
  have e:b=it:=by simpa using hb
  subst e;obtain⟨o,e,c,d⟩:=st;exact⟨o,e,fun v z=>by rw[d]at z;cases z⟩
 keep:=fun i h h' st k=>st.at fun o e=>k it (by simp) o e
 item:=by
  intro X hP hw hK hc i pins s σ H E I hf st hg;subst hP hw hK;obtain⟨xs,x,hq,hx⟩:=hg;obtain⟨its,rv,p,hz⟩:=I.list hq;obtain⟨u,hu,ru⟩:=rv.get hx;obtain⟨f0,f1,f2,f3,f4,f5⟩:=hf it (by simp)
  refine wpAny_pyNext_list_item st p.isList (x:=u) (by simpa using hu) fun h' iO sb=>?_
  have I1:Inv X pins σ H { s with heap:=h' }:=I.turned (t':=s.toks) (fun b o hb e=>(sb.2 b hb).trans e) f0 f1 f3 f4 f5;obtain⟨o,e,c,d⟩:=id iO;exact⟨u,rfl,xf (s:={ s with heap:=h' }) e c d (by decide) ⟨x,H,I1,ru,⟨rfl,fun ys hy=>by rw[I.zu hy hq];exact hx⟩,iO,fun b hb=>(hf b hb).1⟩⟩
 done:=by
  intro X hP hw hK hc i pins s σ H E I hf st hg;subst hP hw hK;obtain⟨xs,hq,hx⟩:=hg;obtain⟨its,rv,p,hz⟩:=I.list hq;obtain⟨f0,f1,f2,f3,f4,f5⟩:=hf it (by simp)
  have hl:=rv.length;exact wpAny_pyNext_list_end (I.ok.hd hc) st p.isList (by simp;omega) fun h' eb=>⟨rfl,I.turned (t':=s.toks) (fun b o hb e=>eb b o hb e) f0 f1 f3 f4 f5⟩
 self:=fun _ _ _ _ _ st h=>wpAny_pyIter_listiter st h
theorem SO (a it:Addr):Turn P w K tg (oS K a) [it] it (fun i h=>h.IsTupleIter it a i) where
 mem:=by simp
 obj:=fun i h st b hb=>by
  have e:b=it:=by simpa using hb
  subst e;obtain⟨o,e,c,d⟩:=st;exact⟨o,e,fun v z=>by rw[d]at z;cases z⟩
 keep:=fun i h h' st k=>st.at fun o e=>k it (by simp) o e
 item:=by
  intro X hP hw hK hc i pins s σ H E I hf st hg;subst hP hw hK;obtain⟨xs,x,hq,hx⟩:=hg;obtain⟨its,rv,p,hz⟩:=I.tuple hq;obtain⟨u,hu,ru⟩:=rv.get hx;obtain⟨f0,f1,f2,f3,f4,f5⟩:=hf it (by simp)
  refine wpAny_pyNext_tuple_item st (show s.heap.IsTuple a its.toArray from p) (x:=u) (by simpa using hu) fun h' iO sb=>?_
  have I1:Inv X pins σ H { s with heap:=h' }:=I.turned (t':=s.toks) (fun b o hb e=>(sb.2 b hb).trans e) f0 f1 f3 f4 f5;obtain⟨o,e,c,d⟩:=id iO;exact⟨u,rfl,xf (s:={ s with heap:=h' }) e c d (by decide) ⟨x,H,I1,ru,⟨rfl,fun ys hy=>by rw[I.Tz hy hq];exact hx⟩,iO,fun b hb=>(hf b hb).1⟩⟩
 done:=by
  intro X hP hw hK hc i pins s σ H E I hf st hg;subst hP hw hK;obtain⟨xs,hq,hx⟩:=hg;obtain⟨its,rv,p,hz⟩:=I.tuple hq;obtain⟨f0,f1,f2,f3,f4,f5⟩:=hf it (by simp)
  have hl:=rv.length;exact wpAny_pyNext_tuple_end (I.ok.hd hc) st (show s.heap.IsTuple a its.toArray from p) (by simp;omega) fun h' eb=>⟨rfl,I.turned (t':=s.toks) (fun b o hb e=>eb b o hb e) f0 f1 f3 f4 f5⟩
 self:=fun _ _ _ _ _ st h=>wpAny_pyIter_tupleiter st h
theorem SQ (it:Addr) (lo:Int) (n:Nat):Turn P w K tg (sj lo n) [it] it (fun i h=>IsRangeIter h it (lo+(i:Nat) * 1) ((n:Int) - (i:Nat)) 1) where
 mem:=by simp
 obj:=fun i h st b hb=>by
  have e:b=it:=by simpa using hb
  subst e;exact⟨_,st,fun v z=>by
   have z':Data.fields _=Data.cell v:=z;cases z'⟩
 keep:=fun i h h' st k=>k it (by simp) _ st
 item:=by
  intro X hP hw hK hc i pins s σ H E I hf st hg;subst hP hw hK;obtain⟨f0,f1,f2,f3,f4,f5⟩:=hf it (by simp)
  have W:=Walks.range (prog:=X.prog) (w:=X.w) (I.ok.hd hc) it lo 1 n;refine W.item i s _ _ hg st fun v h' tk hv iO kk=>?_;obtain⟨t,rfl⟩:=hv;have I1:Inv X pins σ H { s with heap:=h',toks:=tk }:=I.turned (fun b o hb e=>kk b o (by simpa using hb) e) f0 f1 f3 f4 f5
  refine⟨_,rfl,xf (s:={ s with heap:=h',toks:=tk }) (n:= "range_iterator") iO rfl rfl (by decide) ⟨.int (lo+i),H,I1,⟨t,?_⟩,⟨rfl,rfl⟩,iO,fun b hb=>(hf b hb).1⟩⟩
  rw[Int.mul_one]
 done:=by
  intro X hP hw hK hc i pins s σ H E I hf st hg;subst hP hw hK;obtain⟨f0,f1,f2,f3,f4,f5⟩:=hf it (by simp)
  exact wpAny_pyNext_range_end (I.ok.hd hc) st (by have:n<=i:=hg;omega) fun h' eb=>⟨rfl,I.turned (t':=s.toks) (fun b o hb e=>eb b o hb e) f0 f1 f3 f4 f5⟩
 self:=fun _ _ _ _ _ st h=>wpAny_pyIter_rangeiter st h
def MK (K:PySem.W.Frag) (tl:TE):TI:=fun σ H R=>tl σ H fun x H1=>∃a,x = .ref a/\(∃xs,aj K H1 a xs)/\R (si K a) H1
def Nl (K:PySem.W.Frag) (tl:TE):TI:=fun σ H R=>tl σ H fun x H1=>∃a,x = .ref a/\(∃xs,aN K H1 a xs)/\R (oS K a) H1
theorem fw {l:Expr} (hl:PE X l tl):PI X tg l (MK X.K tl):=by
 intro pins s σ H R I h;refine aC (hl pins s σ H _ I h) fun v s1 ⟨x,H1,I1,r1,q1⟩=>?_;obtain⟨a,e,⟨xs,hq⟩,q⟩:=q1;subst e;cases r1
 obtain⟨its,rv,p,hz⟩:=I1.list hq;refine BI p.isList ?_;refine⟨s1.heap.objs.size,[s1.heap.objs.size],_,_,H1,rfl,I1.kept (t':=s1.toks) fun b o e=>bU _ e,TB a _,⟨_,eM _ rfl,rfl,rfl⟩,fun b hb=>?_,q⟩;have e:b=s1.heap.objs.size:=by simpa using hb
 subst e;exact I1.lq (aK _) (I1.ay.fresh (aK _))
theorem pS {l:Expr} (hl:PE X l tl):PI X tg l (Nl X.K tl):=by
 intro pins s σ H R I h;refine aC (hl pins s σ H _ I h) fun v s1 ⟨x,H1,I1,r1,q1⟩=>?_;obtain⟨a,e,⟨xs,hq⟩,q⟩:=q1;subst e;cases r1
 obtain⟨its,rv,p,hz⟩:=I1.tuple hq;refine wpAny_pyIter_tuple (show s1.heap.IsTuple a its.toArray from p) ?_;refine⟨s1.heap.objs.size,[s1.heap.objs.size],_,_,H1,rfl,I1.kept (t':=s1.toks) fun b o e=>bU _ e,SO a _,⟨_,eM _ rfl,rfl,rfl⟩,fun b hb=>?_,q⟩;have e:b=s1.heap.objs.size:=by simpa using hb
 subst e;exact I1.lq (aK _) (I1.ay.fresh (aK _))
theorem UJ {R:It->Hp->Prop}{E:Value->Shared->Prop}{hi:Int}{t u v:Tok}{tk:Nat} (I:Inv X pins σ H s) (h1 : -(2 ^ 62)<=lo) (h2:lo < 2 ^ 62) (h3 : -(2 ^ 62)<=hi) (h4:hi < 2 ^ 62)
  (q:R (sj lo (hi - lo).toNat) H):wpAny (model X.prog X.w) X.A (pyIter (.ref s.heap.objs.size)) (Oy X pins σ tg R) E { s with heap:=s.heap.push { cls:= .type "range",data:= .fields #[.int lo t,.int hi u,.int 1 v] },toks:=tk }:=by
 refine wpAny_pyIter_range (IsRange.new ..) (small_one h1 h2 h3 h4) ?_;have I1:Inv X pins σ H { s with heap:=s.heap.push { cls:= .type "range",data:= .fields #[.int lo t,.int hi u,.int 1 v] },toks:=tk }:=I.kept fun b o e=>bU _ e;refine⟨(s.heap.push { cls:= .type "range",data:= .fields #[.int lo t,.int hi u,.int 1 v] }).objs.size,[(s.heap.push { cls:= .type "range",data:= .fields #[.int lo t,.int hi u,.int 1 v] }).objs.size],_,_,H,rfl,
  I1.kept (t':=tk) fun b o e=>bU _ e,SQ _ lo (hi - lo).toNat,?_,fun b hb=>?_,q⟩
 ·have e1:lo+((0:Nat):Int) * 1=lo:=by simp
  have e2:(((hi - lo).toNat:Nat):Int) - ((0:Nat):Int)=Builtin.Range.rangeSize lo hi 1:=by rw[rangeSize_one];split <;> omega
  show IsRangeIter _ _ (lo+((0:Nat):Int) * 1) ((((hi - lo).toNat:Nat):Int) - ((0:Nat):Int)) 1;rw[e1,e2];exact eM _ rfl
 ·have e:b=(s.heap.push { cls:= .type "range",data:= .fields #[.int lo t,.int hi u,.int 1 v] }).objs.size:=by simpa using hb
  subst e;exact I1.lq (aK _) (I1.ay.fresh (aK _))
def X1 (ta:TA):TI:=fun σ H R=>ta σ H fun vs H1=>∃j:Int,vs = [.int j] /\ -(2 ^ 62)<=j/\j < 2 ^ 62/\R (sj 0 j.toNat) H1
theorem tN {a:Expr}{ta:TA}{p:Pos} (hg:Gl X "range") (hm:X.mg "range" = none) (ha:PA X [a] ta) (hs:starEach [a] X.env = [(false,eval a X.env)]:=by rfl):PI X tg (.Call (.Name "range" p) [a] [] pos) (X1 ta):=by
 intro pins s σ H R I h;refine Call_ (uc I hg hm boot_range (Iy (aC (ha pos pins s σ H _ I h) fun us s1 ⟨vs,H1,I1,r1,q1⟩=>?_) hs rfl));obtain⟨j,e,q1,q2,q⟩:=q1;subst e;cases r1 with
 |cons r rr =>
  cases rr
  obtain⟨t,rfl⟩:=r;exact call_range_1 (UJ I1 (by omega) (by omega) q1 q2 (by simpa using q))
def Zl (wi:TI) (g:TG) (tb:TS):TS:=fun D σ H=>wi σ H fun J H1=>∃W:Nat->Nat->St->Hp->Prop,(∃m,W 0 m σ H1) /\ ∀i m σ H,W i m σ H ->
 (J.stop i H/\D.nx σ H)\/(J.go i H /\ ∃N:St->Hp->Prop,(∀aJ H',N aJ H' -> ∃m',m' < m/\W (i+1) m' aJ H') /\ ∀x H',J.qo i H x H'->g x σ H' fun iB H2=>tb { D with nx:=N,ct:=N,bk:=D.nx } iB H2)
def ud (fp:List Addr) (h:Heap):List (Addr×Obj):=fp.filterMap fun b=>(h.get? b).map fun o=>(b,o)
theorem tM {o:Obj} (hb:b∈fp) (e:h.get? b=some o):(b,o)∈ud fp h:=qF.mpr ⟨b,hb,by rw[e];rfl⟩
theorem TF {p:Addr×Obj} (hp:p∈ud fp h):p.1∈fp/\h.get? p.1=some p.2:=by
 obtain⟨b,hb,e⟩:=qF.mp hp;cases q:h.get? b with
 |none=>rw[q]at e;cases e
 |some o =>
  rw[q]at e;have e':(b,o)=p:=fZ e;subst e';exact⟨hb,q⟩
theorem Inv.pinned (I:Inv X pins σ H s) (hf:∀b∈fp,gb X pins H b) (ho:∀b∈fp,∃o,s.heap.get? b=some o /\ ∀v,o.data ≠ .cell v):Inv X (pins++ud fp s.heap) σ H s:=
 I.Lv fun p hp=>(dX.mp hp).elim (fun z=>I.pin p (fq _ z)) fun z=>by
  obtain⟨hb,e⟩:=TF z;obtain⟨f0,f1,f2,_⟩:=hf p.1 hb;obtain⟨o,e',d⟩:=ho p.1 hb;rw[e]at e';cases e';exact⟨e,f0,f1,f2,d⟩
theorem Inv.vY {pl:List (Addr×Obj)} (I:Inv X (pins++pl) σ H s):Inv X pins σ H s:=I.Lv fun p hp=>I.pin p (fq _ (pC _ hp))
theorem i8 {wi:TI}{g:TG} (hp:PassesOwn (model X.prog X.w) X.A X.env X.xe) (hc:X.calm=true) (hi:PI X tg iter wi) (hg:PG X tg g) (hb:gC X body tb)
  (hs:∀x,foldedSetIterable iter X.env x=pure x:=by intro _;rfl):PS X (.For tg iter body [] pos) (Zl wi g tb):=by
 intro pins s σ H D I h;refine wpAny_For (aC (hi pins s σ H _ I h) fun v s1 h1=>aC h1 fun sh s2 h2=>?_) hs;obtain⟨it,fp,tn,J,H2,e,I2,T,gW,f2,W,⟨m0,w0⟩,turn⟩:=h2;subst e;have lW:∀ {H':Hp},(∀b∈fp,H' b=none) -> ∀b∈fp,gb X pins H' b:=fun hn b hb=>⟨hn b hb,(f2 b hb).2⟩;refine codeAny_forLoop_any (fun n s'=>∃i aJ H',Inv X pins aJ H' s'/\tn i s'.heap/\(∀b∈fp,H' b=none)/\W i n aJ H') ?_ m0 ⟨0,σ,H2,I2,gW,fun b hb=>(f2 b hb).1,w0⟩;rintro n s3 ⟨i,md,H3,I3,qp,Oz,w3⟩;rcases turn i n md H3 w3 with⟨stop,qn⟩|⟨go,N,hN,step⟩
 ·refine vI hp (aC (T.done X rfl rfl rfl hc i pins s3 md H3 X.xe I3 (lW Oz) qp stop) fun r s4 ⟨hr,I4⟩=>?_)
  subst hr;exact yN ⟨md,H3,I4,qn⟩
 ·refine vI hp (aC (T.item X rfl rfl rfl hc i pins s3 md H3 X.xe I3 (lW Oz) qp go) fun r s4 ⟨u,hr,h4⟩=>?_)
  subst hr;refine vI hp (aC h4 fun _ s5 ⟨x,H5,I5,r5,y5,oU,sk⟩=>?_);have I5':=I5.pinned (lW sk) (T.obj _ _ oU);refine vI hp (aC (hg _ s5 md H5 x u _ I5' r5 (step x H5 y5)) fun _ s6 ⟨σ6,H6,I6,q6⟩=>?_);refine vI hp (aC (hb _ s6 σ6 H6 _ I6 q6) fun f s7 q7=>?_);have again:∀ {jh:St}{H7:Hp},Inv X (pins++ud fp s5.heap) jh H7 s7->N jh H7 -> ∃m,m < n /\ ∃i aJ H',Inv X pins aJ H' s7/\tn i s7.heap/\(∀b∈fp,H' b=none)/\W i m aJ H':=fun {jh H7} I7 n7=>by
   obtain⟨m',hm,w7⟩:=hN jh H7 n7;refine⟨m',hm,i+1,jh,H7,I7.vY,T.keep _ _ _ oU fun b hb o e=>(I7.pin (b,o) (fq _ (fq _ (tM hb e)))).1,fun b hb=>?_,w7⟩;obtain⟨o,e,d⟩:=T.obj _ _ oU b hb;exact(I7.pin (b,o) (fq _ (fq _ (tM hb e)))).2.1
  cases f with
  |next=>obtain⟨jh,H7,I7,n7⟩:=q7;exact again I7 n7
  |cont=>obtain⟨jh,H7,I7,n7⟩:=q7;exact again I7 n7
  |brk=>obtain⟨jh,H7,I7,q7⟩:=q7;exact⟨jh,H7,I7.vY,q7⟩
  |ret v=>obtain⟨x7,jh,H7,I7,r7,q7⟩:=q7;exact⟨x7,jh,H7,I7.vY,r7,q7⟩
theorem og {g:TG} (Pv:Nat->St->Hp->Prop) (h0:Pv 0 σ H) (hl:∀i σ H,i<=xs.length->Pv i σ H->aj K H a xs)
  (hs:∀i x σ H,xs[i]? = some x->Pv i σ H->g x σ H fun iB H2=>tb { D with nx:=Pv (i+1),ct:=Pv (i+1),bk:=D.nx } iB H2) (hd:∀σ H,Pv xs.length σ H->D.nx σ H) :
  ∃W:Nat->Nat->St->Hp->Prop,(∃m,W 0 m σ H) /\ ∀i m σ H,W i m σ H ->
   ((si K a).stop i H/\D.nx σ H)\/((si K a).go i H /\ ∃N:St->Hp->Prop,(∀aJ H',N aJ H' -> ∃m',m' < m/\W (i+1) m' aJ H') /\ ∀x H',(si K a).qo i H x H'->g x σ H' fun iB H2=>tb { D with nx:=N,ct:=N,bk:=D.nx } iB H2):=by
 refine⟨fun i m σ H=>m=xs.length - i/\i<=xs.length/\Pv i σ H,⟨xs.length,by simp,bX _,h0⟩,?_⟩
 rintro i m σ H ⟨rfl,hi,p⟩;have q:=hl i σ H hi p
 by_cases aT:i < xs.length
 ·refine .inr ⟨⟨xs,xs[i],q,by simp[aT]⟩,Pv (i+1),fun aJ H' p'=>⟨xs.length - (i+1),by omega,rfl,aT,p'⟩,fun x H' y=>?_⟩
  obtain⟨e,y⟩:=y;subst e;exact hs i x σ _ (y xs q) p
 ·have e:i=xs.length:=by omega
  subst e;exact .inl ⟨⟨xs,q,aK _⟩,hd σ H p⟩
theorem VO {g:TG} (Pv:Nat->St->Hp->Prop) (h0:Pv 0 σ H) (hl:∀i σ H,i<=xs.length->Pv i σ H->aN K H a xs)
  (hs:∀i x σ H,xs[i]? = some x->Pv i σ H->g x σ H fun iB H2=>tb { D with nx:=Pv (i+1),ct:=Pv (i+1),bk:=D.nx } iB H2) (hd:∀σ H,Pv xs.length σ H->D.nx σ H) :
  ∃W:Nat->Nat->St->Hp->Prop,(∃m,W 0 m σ H) /\ ∀i m σ H,W i m σ H ->
   ((oS K a).stop i H/\D.nx σ H)\/((oS K a).go i H /\ ∃N:St->Hp->Prop,(∀aJ H',N aJ H' -> ∃m',m' < m/\W (i+1) m' aJ H') /\ ∀x H',(oS K a).qo i H x H'->g x σ H' fun iB H2=>tb { D with nx:=N,ct:=N,bk:=D.nx } iB H2):=by
 refine⟨fun i m σ H=>m=xs.length - i/\i<=xs.length/\Pv i σ H,⟨xs.length,by simp,bX _,h0⟩,?_⟩
 rintro i m σ H ⟨rfl,hi,p⟩;have q:=hl i σ H hi p
 by_cases aT:i < xs.length
 ·refine .inr ⟨⟨xs,xs[i],q,by simp[aT]⟩,Pv (i+1),fun aJ H' p'=>⟨xs.length - (i+1),by omega,rfl,aT,p'⟩,fun x H' y=>?_⟩
  obtain⟨e,y⟩:=y;subst e;exact hs i x σ _ (y xs q) p
 ·have e:i=xs.length:=by omega
  subst e;exact .inl ⟨⟨xs,q,aK _⟩,hd σ H p⟩
theorem zj {g:TG} (Pv:Nat->St->Hp->Prop) (h0:Pv 0 σ H)
  (hs:∀i σ H,i < n->Pv i σ H->g (.int (lo+i)) σ H fun iB H2=>tb { D with nx:=Pv (i+1),ct:=Pv (i+1),bk:=D.nx } iB H2) (hd:∀σ H,Pv n σ H->D.nx σ H) :
  ∃W:Nat->Nat->St->Hp->Prop,(∃m,W 0 m σ H) /\ ∀i m σ H,W i m σ H ->
   ((sj lo n).stop i H/\D.nx σ H)\/((sj lo n).go i H /\ ∃N:St->Hp->Prop,(∀aJ H',N aJ H' -> ∃m',m' < m/\W (i+1) m' aJ H') /\ ∀x H',(sj lo n).qo i H x H'->g x σ H' fun iB H2=>tb { D with nx:=N,ct:=N,bk:=D.nx } iB H2):=by
 refine⟨fun i m σ H=>m=n - i/\i<=n/\Pv i σ H,⟨n,by simp,bX _,h0⟩,?_⟩
 rintro i m σ H ⟨rfl,hi,p⟩
 by_cases aT:i < n
 ·refine .inr ⟨aT,Pv (i+1),fun aJ H' p'=>⟨n - (i+1),by omega,rfl,aT,p'⟩,fun x H' y=>?_⟩
  obtain⟨e,y⟩:=y;subst e y;exact hs i σ _ aT p
 ·have e:i=n:=by omega
  subst e;exact .inl ⟨aK _,hd σ H p⟩
abbrev R2:=V->V->Hp->VK->Prop
def cN (X:Cx) (f:Value->Value->Sem Value) (r:R2):Prop:=
 ∀ (pins:List (Addr×Obj)) (s:Shared) (σ:St) (H:Hp) (x y:V) (v u:Value) (Q:VK),Inv X pins σ H s->RelV x v->RelV y u->r x y H Q ->
  wpAny (model X.prog X.w) X.A (f v u) (EP X pins σ Q) X.xe s
def E9 (X:Cx) (f:Value->Sem Value) (r:V->Hp->VK->Prop):Prop:=
 ∀ (pins:List (Addr×Obj)) (s:Shared) (σ:St) (H:Hp) (x:V) (v:Value) (Q:VK),Inv X pins σ H s->RelV x v->r x H Q ->
  wpAny (model X.prog X.w) X.A (f v) (EP X pins σ Q) X.xe s
def eV (X:Cx) (f:Value) (r:List V->Hp->VK->Prop):Prop:=
 ∀ (pins:List (Addr×Obj)) (s:Shared) (σ:St) (H:Hp) (xs:List V) (us:List Value) (Q:VK),Inv X pins σ H s->Vals xs us->r xs H Q ->
  wpAny (model X.prog X.w) X.A (call f us) (EP X pins σ Q) X.xe s
def Zm (X:Cx) (r:V->Hp->(Bool->Hp->Prop)->Prop):Prop:=
 ∀ (pins:List (Addr×Obj)) (s:Shared) (σ:St) (H:Hp) (x:V) (v:Value) (Q:Bool->Hp->Prop),Inv X pins σ H s->RelV x v->r x H Q ->
  wpAny (model X.prog X.w) X.A (truthy v) (TP X pins σ Q) X.xe s
def xQ (r:R2) (ta tb:TE):TE:=fun σ H Q=>ta σ H fun x H1=>tb σ H1 fun y H2=>r x y H2 Q
def tUn (r:V->Hp->VK->Prop) (ta:TE):TE:=fun σ H Q=>ta σ H fun x H1=>r x H1 Q
def rI (C:Int->Int->Prop) (g:Int->Int->V):R2:=fun x y H Q=>∃i j,x = .int i/\y = .int j/\C i j/\Q (g i j) H
def sq (g:Int->Int->V):R2:=fun x y H Q=>∃i j,x = .int i/\y = .int j/\Q (g i j) H
def rU (g:Int->V):V->Hp->VK->Prop:=fun x H Q=>∃i,x = .int i/\Q (g i) H
section
variable{a b c:Expr}{tb tc:TE}
theorem Ea (ha:PE X a ta) (hb:PE X b tb) {R:V->V->Hp->Prop} (I:Inv X pins σ H s)
  (h:ta σ H fun x H1=>tb σ H1 fun y H2=>R x y H2) {Q:Value->Shared->Prop}{f:Value->Value->Sem Value}
  (hf:∀v u s2 x y H2,Inv X pins σ H2 s2->RelV x v->RelV y u->R x y H2->wpAny (model X.prog X.w) X.A (f v u) Q X.xe s2) :
  wpAny (model X.prog X.w) X.A (eval a X.env) (fun v a4=>wpAny (model X.prog X.w) X.A (eval b X.env) (fun u lV=>wpAny (model X.prog X.w) X.A (f v u) Q X.xe lV) X.xe a4) X.xe s:=by
 refine aC (ha pins s σ H _ I h) fun v s1 ⟨x,H1,I1,r1,q1⟩=>?_;refine aC (hb pins s1 σ H1 _ I1 q1) fun u s2 ⟨y,H2,I2,r2,q2⟩=>?_;exact hf v u s2 x y H2 I2 r1 r2 q2
theorem cG {op:Operator}{r:R2} (ho:cN X (binaryOp op) r) (ha:PE X a ta) (hb:PE X b tb):PE X (.BinOp a op b pos) (xQ r ta tb):=by
 intro pins s σ H Q I h;exact wpAny_BinOp (Ea ha hb I h fun v u s2 x y H2 I2 rx ry q=>ho pins s2 σ H2 x y v u Q I2 rx ry q)
theorem xg {op:UnaryOp}{r:V->Hp->VK->Prop} (ho:E9 X (unaryOp op) r) (ha:PE X a ta):PE X (.UnaryOp op a pos) (tUn r ta):=by
 intro pins s σ H Q I h;exact UnaryOp_ (aC (ha pins s σ H _ I h) fun v s1 ⟨x,H1,I1,r1,q1⟩=>ho pins s1 σ H1 x v Q I1 r1 q1)
theorem Ar {f:Value->Value->Sem Value}{C:Int->Int->Prop}{g:Int->Int->Int}
  (rule:∀ (i j:Int) (t u:Tok) (s:Shared) (Q:Value->Shared->Prop) (E:Value->Shared->Prop),C i j->Q (.int (g i j) s.toks) { s with toks:=s.toks+1 }->wpAny (model X.prog X.w) X.A (f (.int i t) (.int j u)) Q E s) :
  cN X f (rI C fun i j=>.int (g i j)):=by
 intro pins s σ H x y v u Q I rx ry h;obtain⟨i,j,rfl,rfl,hc,q⟩:=h;obtain⟨t,rfl⟩:=rx;obtain⟨t',rfl⟩:=ry;exact rule i j t t' s _ _ hc ⟨.int (g i j),H,I.tok _,⟨_,rfl⟩,q⟩
theorem Nn {f:Value->Value->Sem Value}{g:Int->Int->Int}
  (rule:∀ (i j:Int) (t u:Tok) (s:Shared) (Q:Value->Shared->Prop) (E:Value->Shared->Prop),Q (.int (g i j) s.toks) { s with toks:=s.toks+1 }->wpAny (model X.prog X.w) X.A (f (.int i t) (.int j u)) Q E s) :
  cN X f (sq fun i j=>.int (g i j)):=by
 intro pins s σ H x y v u Q I rx ry h;obtain⟨i,j,rfl,rfl,q⟩:=h;obtain⟨t,rfl⟩:=rx;obtain⟨t',rfl⟩:=ry;exact rule i j t t' s _ _ ⟨.int (g i j),H,I.tok _,⟨_,rfl⟩,q⟩
theorem Eb {f:Value->Value->Sem Value}{g:Int->Int->Bool}
  (rule:∀ (i j:Int) (t u:Tok) (s:Shared) (Q:Value->Shared->Prop) (E:Value->Shared->Prop),Q (.bool (g i j)) s->wpAny (model X.prog X.w) X.A (f (.int i t) (.int j u)) Q E s) :
  cN X f (sq fun i j=>.bl (g i j)):=by
 intro pins s σ H x y v u Q I rx ry h;obtain⟨i,j,rfl,rfl,q⟩:=h;obtain⟨t,rfl⟩:=rx;obtain⟨t',rfl⟩:=ry;exact rule i j t t' s _ _ ⟨.bl (g i j),H,I,rfl,q⟩
def Zn (i j:Int):Prop:=0 < j/\j < 1073741824
def Np (i j:Int):Prop:=0<=j/\j<=1000000/\i.natAbs < 2 ^ 64
def Ec (i j:Int):Prop:=(-(2 ^ 64) < i/\i < 2 ^ 64)\/(-(2 ^ 64) < j/\j < 2 ^ 64)
theorem Ec.ok {i j:Int} (h:Ec i j):IntMulOk i j:=by
 rcases h with⟨h1,h2⟩|⟨h1,h2⟩
 ·exact .of_left (intBits_le_64 h1 h2)
 ·exact .of_right (intBits_le_64 h1 h2)
theorem rn:cN X (binaryOp .Add) (sq fun i j=>.int (i+j)):=Nn fun _ _ _ _ _ _ _ q=>add_int q
theorem Mk:cN X (binaryOp .Sub) (sq fun i j=>.int (i - j)):=Nn fun _ _ _ _ _ _ _ q=>sub_int q
theorem DB:cN X (binaryOp .Mult) (rI Ec fun i j=>.int (i * j)):=Ar fun _ _ _ _ _ _ _ hc q=>mul_int q hc.ok
theorem Lx:cN X (binaryOp .FloorDiv) (rI Zn fun i j=>.int (i / j)):=Ar fun i j _ _ _ _ _ hc q=>by
 have h1:(0:Int) < j:=hc.1;have h2:j < 1073741824:=hc.2;exact floordiv_int (by omega) (by rw[Int.fdiv_eq_ediv_of_nonneg i (by omega)];exact q) (.inl (PyProof.noPylong_small (by omega)))
theorem wH:cN X (binaryOp .Mod) (rI (fun _ j=>0 < j) fun i j=>.int (i % j)):=Ar fun i j _ _ _ _ _ hc q=>by
 have h1:(0:Int) < j:=hc;exact mod_int' (by omega) (by rw[Int.fmod_eq_emod_of_nonneg i (by omega)];exact q)
theorem Ml:cN X (binaryOp .Pow) (rI Np fun i j=>.int (i ^ j.toNat)):=Ar fun _ _ _ _ _ _ _ hc q=>pow_int_small hc.1 hc.2.1 hc.2.2 q
theorem unI {f:Value->Sem Value}{g:Int->Int}
  (rule:∀ (i:Int) (t:Tok) (s:Shared) (Q:Value->Shared->Prop) (E:Value->Shared->Prop),Q (.int (g i) s.toks) { s with toks:=s.toks+1 }->wpAny (model X.prog X.w) X.A (f (.int i t)) Q E s) :
  E9 X f (rU fun i=>.int (g i)):=by
 intro pins s σ H x v Q I rx h;obtain⟨i,rfl,q⟩:=h;obtain⟨t,rfl⟩:=rx;exact rule i t s _ _ ⟨.int (g i),H,I.tok _,⟨_,rfl⟩,q⟩
theorem wJ:E9 X (unaryOp .USub) (rU fun i=>.int (-i)):=unI fun _ _ _ _ _ q=>neg_int q
end
def Nq:V->V->Bool
 |.ax,.ax=>true|.ax,.int _=>true|.int _,.ax=>true|.ax,.bl _=>true|.bl _,.ax=>true|.ax,.str _=>true|.str _,.ax=>true
 |.int _,.int _=>true|.bl _,.bl _=>true|.str _,.str _=>true|.jN _,.jN _=>true
 |.int _,.str _=>true|.str _,.int _=>true|.bl _,.str _=>true|.str _,.bl _=>true
 |_,_=>false
def rEq:R2:=fun x y H Q=>Nq x y=true/\Q (.bl (decide (x=y))) H
def rNe:R2:=fun x y H Q=>Nq x y=true/\Q (.bl (!decide (x=y))) H
theorem Ly {i j:Int}:decide (V.int i=V.int j)=(i==j):=by
 rw[vJ];simp
theorem Mm {i j:Bool}:decide (V.bl i=V.bl j)=(i==j):=by
 rw[vJ];simp
theorem Lz {i j:Str}:decide (V.str i=V.str j)=(i==j):=by
 rw[vJ];simp
theorem LA {i j:Array UInt8}:decide (V.jN i=V.jN j)=(i.toList==j.toList):=by
 rw[vJ];cases i
 cases j
 simp
section
variable{a b c:Expr}{tb tc:TE}
theorem cP {k k':Bool} (I:Inv X pins σ H s) (q:Q (.bl k) H) (e:k=k'):EP X pins σ Q (.bool k') s:=by
 subst e;exact⟨.bl k,H,I,rfl,q⟩
theorem oE:cN X (compareOp .Eq) rEq:=by
 intro pins s σ H x y v u Q I rx ry h;obtain⟨hs,q⟩:=h;cases x with
 |ax =>
  cases rx
  cases y with
  |ax=>cases ry;exact PySem.EqNone.eq_none_none (cP I q (by simp))
  |bl j=>cases ry;exact PySem.EqNone.eq_none_bool (cP I q (by simp))
  |int j=>obtain⟨t',rfl⟩:=ry;exact PySem.EqNone.eq_none_int (cP I q (by simp))
  |str j=>obtain⟨t',rfl⟩:=ry;exact PySem.EqNone.eq_none_str (cP I q (by simp))
  |_=>exact absurd (show false=true from hs) cX
 |bl i =>
  cases rx
  cases y with
  |ax=>cases ry;exact PySem.EqNone.eq_bool_none (cP I q (by simp))
  |bl j=>cases ry;exact eq_bool (cP I q Mm)
  |str j=>obtain⟨t',rfl⟩:=ry;exact PySem.EqMixed.eq_bool_str (cP I q (by simp))
  |_=>exact absurd (show false=true from hs) cX
 |int i =>
  obtain⟨t,rfl⟩:=rx;cases y with
  |ax=>cases ry;exact PySem.EqNone.eq_int_none (cP I q (by simp))
  |int j=>obtain⟨t',rfl⟩:=ry;exact eq_int (cP I q Ly)
  |str j=>obtain⟨t',rfl⟩:=ry;exact PySem.EqMixed.eq_int_str (cP I q (by simp))
  |_=>exact absurd (show false=true from hs) cX
 |str i =>
  obtain⟨t,rfl⟩:=rx;cases y with
  |ax=>cases ry;exact PySem.EqNone.eq_str_none (cP I q (by simp))
  |bl j=>cases ry;exact PySem.EqMixed.eq_str_bool (cP I q (by simp))
  |int j=>obtain⟨t',rfl⟩:=ry;exact PySem.EqMixed.eq_str_int (cP I q (by simp))
  |str j=>obtain⟨t',rfl⟩:=ry;exact eq_str (cP I q Lz)
  |_=>exact absurd (show false=true from hs) cX
 |jN i =>
  obtain⟨t,rfl⟩:=rx;cases y with
  |jN j=>obtain⟨t',rfl⟩:=ry;exact PySem.W.eq_bytes (cP I q LA)
  |_=>exact absurd (show false=true from hs) cX
 |_=>cases y <;> exact absurd (show false=true from hs) cX
theorem xh:cN X (compareOp .NotEq) rNe:=by
 intro pins s σ H x y v u Q I rx ry h;obtain⟨hs,q⟩:=h;cases x with
 |ax =>
  cases rx
  cases y with
  |ax=>cases ry;exact PySem.EqNone.ne_none_none (cP I q (by simp))
  |bl j=>cases ry;exact PySem.EqNone.ne_none_bool (cP I q (by simp))
  |int j=>obtain⟨t',rfl⟩:=ry;exact PySem.EqNone.ne_none_int (cP I q (by simp))
  |str j=>obtain⟨t',rfl⟩:=ry;exact PySem.EqNone.ne_none_str (cP I q (by simp))
  |_=>exact absurd (show false=true from hs) cX
 |bl i =>
  cases rx
  cases y with
  |ax=>cases ry;exact PySem.EqNone.ne_bool_none (cP I q (by simp))
  |bl j=>cases ry;exact ne_bool (cP I q (eY not Mm))
  |str j=>obtain⟨t',rfl⟩:=ry;exact PySem.EqMixed.ne_bool_str (cP I q (by simp))
  |_=>exact absurd (show false=true from hs) cX
 |int i =>
  obtain⟨t,rfl⟩:=rx;cases y with
  |ax=>cases ry;exact PySem.EqNone.ne_int_none (cP I q (by simp))
  |int j=>obtain⟨t',rfl⟩:=ry;exact ne_int (cP I q (eY not Ly))
  |str j=>obtain⟨t',rfl⟩:=ry;exact PySem.EqMixed.ne_int_str (cP I q (by simp))
  |_=>exact absurd (show false=true from hs) cX
 |str i =>
  obtain⟨t,rfl⟩:=rx;cases y with
  |ax=>cases ry;exact PySem.EqNone.ne_str_none (cP I q (by simp))
  |bl j=>cases ry;exact PySem.EqMixed.ne_str_bool (cP I q (by simp))
  |int j=>obtain⟨t',rfl⟩:=ry;exact PySem.EqMixed.ne_str_int (cP I q (by simp))
  |str j=>obtain⟨t',rfl⟩:=ry;exact ne_str (cP I q (eY not Lz))
  |_=>exact absurd (show false=true from hs) cX
 |jN i =>
  obtain⟨t,rfl⟩:=rx;cases y with
  |jN j=>obtain⟨t',rfl⟩:=ry;exact PySem.W.ne_bytes (cP I q (eY not LA))
  |_=>exact absurd (show false=true from hs) cX
 |_=>cases y <;> exact absurd (show false=true from hs) cX
theorem DR:cN X (compareOp .Lt) (sq fun i j=>.bl (decide (i < j))):=Eb fun _ _ _ _ _ _ _ q=>lt_int q
theorem ML:cN X (compareOp .LtE) (sq fun i j=>.bl (decide (i<=j))):=Eb fun _ _ _ _ _ _ _ q=>le_int q
theorem DS:cN X (compareOp .Gt) (sq fun i j=>.bl (decide (j < i))):=Eb fun _ _ _ _ _ _ _ q=>gt_int q
theorem TH:cN X (compareOp .In) (fun x y H Q=>∃i j,x = .str i/\y = .str j/\Q (.bl (!(Builtin.Str.occurrences j i 0 j.length 1).isEmpty)) H):=by
 intro pins s σ H x y v u Q I rx ry h;obtain⟨i,j,rfl,rfl,q⟩:=h;obtain⟨t,rfl⟩:=rx;obtain⟨t',rfl⟩:=ry;exact in_str (cP I q rfl)
theorem zL:cN X (compareOp .Is) (fun x y H Q=>y = .ax/\Q (.bl (decide (x = .ax))) H):=by
 intro pins s σ H x y v u Q I rx ry h;obtain⟨rfl,q⟩:=h;cases ry
 refine is_none_gen (cP I q ?_);cases x <;> first
  |(cases rx;rfl)
  |(obtain⟨t,rfl⟩:=rx;rfl)
theorem VP:cN X (compareOp .IsNot) (fun x y H Q=>y = .ax/\Q (.bl (!decide (x = .ax))) H):=by
 intro pins s σ H x y v u Q I rx ry h;obtain⟨rfl,q⟩:=h;cases ry
 refine isnot_none_gen (cP I q ?_);cases x <;> first
  |(cases rx;rfl)
  |(obtain⟨t,rfl⟩:=rx;rfl)
theorem cF (b:Expr) {op:CmpOp} (h:op ≠ .In:=by decide) (h2:op ≠ .NotIn:=by decide):behindInMarks op b=false:=by
 have e1:(op==CmpOp.In)=false:=by cases op <;> first|rfl|exact absurd rfl h
 have e2:(op==CmpOp.NotIn)=false:=by cases op <;> first|rfl|exact absurd rfl h2
 cases b <;> simp[behindInMarks,e1,e2]
theorem t4 {op:CmpOp}{r:R2} (ho:cN X (compareOp op) r) (ha:PE X a ta) (hb:PE X b tb) (hm:behindInMarks op b=false):PE X (.Compare a [op] [b] pos) (xQ r ta tb):=by
 intro pins s σ H Q I h;exact wpAny_Compare1 (Ea ha hb I h fun v u s2 x y H2 I2 rx ry q=>ho pins s2 σ H2 x y v u Q I2 rx ry q) hm
def MM (t:TE):TT:=fun σ H Q=>t σ H fun x H'=>∃k,x = .bl k/\Q k H'
theorem b5 {op:CmpOp}{r:R2} (ho:cN X (compareOp op) r) (ha:PE X a ta) (hb:PE X b tb) (hm:behindInMarks op b=false):PT X (.Compare a [op] [b] pos) (MM (xQ r ta tb)):=by
 intro pins s σ H Q I h;refine wpAny_isTrue_Compare1 (aC (ha pins s σ H _ I h) fun v s1 ⟨x,H1,I1,r1,q1⟩=>aC (hb pins s1 σ H1 _ I1 q1) fun u s2 ⟨y,H2,I2,r2,q2⟩ =>
  aC (ho pins s2 σ H2 x y v u _ I2 r1 r2 q2) fun c s3 ⟨z,H3,I3,r3,k,e,q3⟩=>?_) hm
 subst e;cases r3
 exact my ⟨H3,I3,q3⟩
def Mn (r r':R2) (ta tb tc:TE):TE:=fun σ H Q=>ta σ H fun x H1=>tb σ H1 fun y H2=>r x y H2 fun z H3=>∃k,z = .bl k /\
 (if k=true then tc σ H3 fun w' H4=>r' y w' H4 Q else Q (.bl false) H3)
theorem KR {op sr:CmpOp}{r r':R2} (ho:cN X (compareOp op) r) (gK:cN X (compareOp sr) r') (ha:PE X a ta) (hb:PE X b tb) (hc:PE X c tc)
  (hm:lastMarks [op,sr] [b,c]=false:=by with_unfolding_all rfl):PE X (.Compare a [op,sr] [b,c] pos) (Mn r r' ta tb tc):=by
 intro pins s σ H Q I h;refine Compare_chain (aC (ha pins s σ H _ I h) fun v s1 ⟨x,H1,I1,r1,q1⟩=>chain_link (aC (hb pins s1 σ H1 _ I1 q1) fun u s2 ⟨y,H2,I2,r2,q2⟩ =>
  aC (ho pins s2 σ H2 x y v u _ I2 r1 r2 q2) fun d s3 ⟨z,H3,I3,r3,k,e,q3⟩=>?_)) hm
 subst e;cases r3
 refine my ?_;cases k with
 |false=>exact ite_ff ⟨.bl false,H3,I3,rfl,q3⟩
 |true=>exact ite_tt (chain_last (aC (hc pins s3 σ H3 _ I3 q3) fun w' s4 ⟨z',H4,I4,r4,q4⟩=>gK pins s4 σ H4 y z' u w' Q I4 r2 r4 q4))
theorem UK {op sr:CmpOp}{r r':R2} (ho:cN X (compareOp op) r) (gK:cN X (compareOp sr) r') (ha:PE X a ta) (hb:PE X b tb) (hc:PE X c tc)
  (hm:lastMarks [op,sr] [b,c]=false:=by with_unfolding_all rfl):PT X (.Compare a [op,sr] [b,c] pos) (MM (Mn r r' ta tb tc)):=by
 intro pins s σ H Q I h;refine isTrue_chain (aC (ha pins s σ H _ I h) fun v s1 ⟨x,H1,I1,r1,q1⟩=>test_link (aC (hb pins s1 σ H1 _ I1 q1) fun u s2 ⟨y,H2,I2,r2,q2⟩ =>
  aC (ho pins s2 σ H2 x y v u _ I2 r1 r2 q2) fun d s3 ⟨z,H3,I3,r3,k,e,q3⟩=>?_)) hm
 subst e;cases r3
 refine my ?_;cases k with
 |false =>
  obtain⟨k',e',q'⟩:=q3;cases e'
  exact ite_ff ⟨H3,I3,q'⟩
 |true =>
  refine ite_tt (test_last (aC (hc pins s3 σ H3 _ I3 q3) fun w' s4 ⟨z',H4,I4,r4,q4⟩=>aC (gK pins s4 σ H4 y z' u w' _ I4 r2 r4 q4) fun d' s5 ⟨z2,H5,I5,r5,k2,e2,q5⟩=>?_));subst e2;cases r5
  exact my ⟨H5,I5,q5⟩
def Ed (K:PySem.W.Frag) (x:V) (H:Hp) (k:Bool):Prop:=
 match x with
 |.ax=>k=false
 |.bl b=>k=b
 |.int i=>k=(i != 0)
 |.str y=>y.length<=sizeLine/\k=((y.length:Int) != 0)
 |.jN y=>y.size<=sizeLine/\k=((y.size:Int) != 0)
 |.ref p=>(∃xs,aj K H p xs/\k = !xs.isEmpty)\/(∃xs,aN K H p xs/\k = !xs.isEmpty) \/ ∃kvs,H p=some (.dK kvs)/\k = !kvs.isEmpty
 |_=>False
theorem SR {κ:Type}{kvs:List (κ×V)}{vs:List (κ×Value)} (r:KV kvs vs):(!vs.isEmpty) = !kvs.isEmpty:=by
 cases r <;> rfl
theorem Ci (r:Vals xs its):(!its.toArray.isEmpty) = !xs.isEmpty:=by
 cases r <;> simp
theorem rq:(sizeLine:Nat) < 2 ^ 63:=by rw[aI];decide
theorem WX:Zm X (fun x H Q=>∃k,Ed X.K x H k/\Q k H):=by
 intro pins s σ H x v Q I rx h;obtain⟨k,e,q⟩:=h;have hl:=rq;have hs:sizeLine=16777216:=aI;cases x with
 |ax =>
  cases rx
  have e':k=false:=e;subst e';exact truthy_none ⟨H,I,q⟩
 |bl b =>
  cases rx
  have e':k=b:=e;subst e';exact my ⟨H,I,q⟩
 |int i =>
  obtain⟨t,rfl⟩:=rx;have e':k=(i != 0):=e;subst e';exact PySem.P.truthy_int ⟨H,I,q⟩
 |str y =>
  obtain⟨t,rfl⟩:=rx;obtain⟨hy,e'⟩:y.length<=sizeLine/\k=((y.length:Int) != 0):=e;subst e';exact PySem.P.truthy_str (by omega) ⟨H,I.tok _,q⟩
 |jN y =>
  obtain⟨t,rfl⟩:=rx;obtain⟨hy,e'⟩:y.size<=sizeLine/\k=((y.size:Int) != 0):=e;subst e';exact PySem.W.truthy_bytes (by omega) ⟨H,I.tok _,q⟩
 |ref p =>
  cases rx
  have e':(∃xs,aj X.K H p xs/\k = !xs.isEmpty)\/(∃xs,aN X.K H p xs/\k = !xs.isEmpty) \/ ∃kvs,H p=some (.dK kvs)/\k = !kvs.isEmpty:=e;rcases e' with⟨xs,hx,e'⟩|⟨xs,hx,e'⟩|⟨kvs,hx,e'⟩
  ·subst e'
   obtain⟨its,r,pl,hz⟩:=I.list hx;have hlen:=r.length;exact wpAny_truthy_list pl.isList (by simp only[cD];omega) ⟨H,I.tok _,by rw[Ci r];exact q⟩
  ·subst e'
   obtain⟨its,r,pl,hz⟩:=I.tuple hx;have hlen:=r.length;exact truthy_tuple pl (by simp only[cD];omega) ⟨H,I.tok _,by rw[Ci r];exact q⟩
  ·subst e'
   obtain⟨hz,hS,vs,r,m⟩:kvs.length<=sizeLine/\(p==sysModules)=false /\ ∃vs,KV kvs vs/\s.heap.DictOf (c9 X.prog X.w) p vs:=I.ay p _ hx;have hlen:kvs.length=vs.length:=mx r;exact wpAny_truthy_dict hS m (by omega) ⟨H,I.tok _,by rw[SR r];exact q⟩
 |_=>exact(show False from e).elim
theorem qW (ha:PE X a ta) (he:∀whole,isTrue a X.env whole=(do let v <- whole;standAt a.pos;holding [v] (truthy v))) :
  PT X a (fun σ H Q=>ta σ H fun x H'=>∃k,Ed X.K x H' k/\Q k H'):=by
 intro pins s σ H Q I h;exact isTrue_plain (aC (ha pins s σ H _ I h) fun v s1 ⟨x,H1,I1,r1,q1⟩=>WX pins s1 σ H1 x v Q I1 r1 q1) (he _)
theorem zg:cN X (binaryOp .Add) (fun x y H Q=>∃i j,x = .str i/\y = .str j/\i.length+j.length<=sizeLine/\Q (.str (i++j)) H):=by
 intro pins s σ H x y v u Q I rx ry h;obtain⟨i,j,rfl,rfl,hz,q⟩:=h;obtain⟨t,rfl⟩:=rx;obtain⟨t',rfl⟩:=ry;exact add_str (fun t' tk=>⟨.str (i++j),H,I.tok _,⟨_,rfl⟩,q⟩) hz
theorem vals1 {x:V} (r:Vals [x] us):∃u,us = [u]/\RelV x u:=by
 cases r with
 |cons r1 r2=>cases r2;exact⟨_,rfl,r1⟩
theorem vals2 {x:V} (r:Vals [x,y] us):∃u w',us = [u,w']/\RelV x u/\RelV y w':=by
 cases r with
 |cons r1 r2 =>
  cases r2 with
  |cons r3 r4=>cases r4;exact⟨_,_,rfl,r1,r3⟩
theorem KS:eV X (.builtin "abs") (fun xs H Q=>∃i,xs = [.int i]/\Q (.int (if i < 0 then -i else i)) H):=by
 intro pins s σ H xs us Q I r h;obtain⟨i,rfl,q⟩:=h;obtain⟨u,rfl,t,rfl⟩:=vals1 r;exact call_abs_int fun u tk=>⟨.int (if i < 0 then -i else i),H,I.tok _,⟨_,rfl⟩,q⟩
theorem JX (hc:X.calm=true):eV X (.builtin "max") (fun xs H Q=>∃i j,xs = [.int i,.int j]/\Q (.int (if j > i then j else i)) H):=by
 intro pins s σ H xs us Q I r h;obtain⟨i,j,rfl,q⟩:=h;obtain⟨u,w',rfl,⟨t,rfl⟩,⟨t',rfl⟩⟩:=vals2 r;refine max_two_ints (I.ok.hd hc) fun h' tk k=>⟨_,H,I.kept k,?_,q⟩
 by_cases hj:j > i
 ·rw[au hj,au hj];exact⟨_,rfl⟩
 ·rw[ao hj,ao hj];exact⟨_,rfl⟩
theorem JY (hc:X.calm=true):eV X (.builtin "min") (fun xs H Q=>∃i j,xs = [.int i,.int j]/\Q (.int (if j < i then j else i)) H):=by
 intro pins s σ H xs us Q I r h;obtain⟨i,j,rfl,q⟩:=h;obtain⟨u,w',rfl,⟨t,rfl⟩,⟨t',rfl⟩⟩:=vals2 r;refine min_two_ints (I.ok.hd hc) fun h' tk k=>⟨_,H,I.kept k,?_,q⟩
 by_cases hj:j < i
 ·rw[au hj,au hj];exact⟨_,rfl⟩
 ·rw[ao hj,ao hj];exact⟨_,rfl⟩
end
structure Ee (h:Heap) (x dx C:Addr) (mA:Str->Option Value):Prop where
 obj:h.get? x=some (PySem.W.instObj C dx)
 ns:h.Ns1 dx mA
 ne:dx≠x
theorem tO {dx:Addr} (n:h.Ns1 dx mA):∃od,h.get? dx=some od /\ ∀name,PySem.W.lookIn name od=some (mA name):=by
 obtain⟨o,es,ep,ho,hd,hk,_,hm⟩:=n;refine⟨o,ho,fun name=>?_⟩;have e:=hm name;unfold nsFind findBy at e;rw[<-Array.find?_toList]at e;unfold PySem.W.lookIn;rw[hd]
 dsimp only
 split
 ·rename_i y q
  rw[q]at e;exact eY some e
 ·rename_i q
  rw[q]at e;have a:es.toList.any (·.refKey)=false:=by
   rw[Q8];intro y hy;obtain⟨z,t,nj⟩:=hk y (Array.mem_toList_iff.mp hy);simp[DictEntry.refKey,nj]
  have a' : ¬ es.toList.any (·.refKey)=true:=by rw[a];exact cX
  rw[ao a'];exact eY some e
theorem Ee.look {x dx:Addr} (I:Ee h x dx C mA):∃od,PySem.W.InstAt h x (PySem.W.instObj C dx) C (some od) /\ ∀name,PySem.W.lookIn name od=some (mA name):=
 let ⟨od,ho,hl⟩:=tO I.ns
 ⟨od,⟨I.obj,rfl,rfl,ho⟩,hl⟩
def iN (f:Str) (v:V):List (Str×V)->List (Str×V)
 |[]=>[(f,v)]
 |(g,x)::r=>if g=f then (g,v)::r else (g,x)::iN f v r
theorem Jt (f g:Str) (v:V):∀fs:List (Str×V),(iN f v fs).lookup g=if g=f then some v else fs.lookup g
 |[]=>by
  show List.lookup g [(f,v)]=_
  by_cases h:g=f
  ·have hb:(g==f)=true:=eN.mpr h
   simp only[List.lookup,hb,au h]
  ·have hb:(g==f)=false:=pA.mpr h
   simp only[List.lookup,hb,ao h]
 |(k,x)::r=>by
  have ih:=Jt f g v r;rw[show iN f v ((k,x)::r)=(if k=f then (k,v)::r else (k,x)::iN f v r) from rfl]
  by_cases hk:k=f
  ·rw[au hk]
   by_cases h:g=k
   ·have hb:(g==k)=true:=eN.mpr h
    simp only[List.lookup,hb,au (h.trans hk)]
   ·have hb:(g==k)=false:=pA.mpr h
    simp only[List.lookup,hb,ao (fun e:g=f=>h (e.trans hk.symm))]
  ·rw[ao hk]
   by_cases h:g=k
   ·have hb:(g==k)=true:=eN.mpr h
    simp only[List.lookup,hb,ao (fun e:g=f=>hk (h.symm.trans e))]
   ·have hb:(g==k)=false:=pA.mpr h
    simp only[List.lookup,hb];exact ih
theorem Cv (f:Str) (v:V):∀fs:List (Str×V),f∈(iN f v fs).map (·.1) /\ ∀g,g∈fs.map (·.1)->g∈(iN f v fs).map (·.1)
 |[]=>⟨by simp[iN],fun g h=>by simp at h⟩
 |(k,x)::r=>by
  obtain⟨i1,i2⟩:=Cv f v r;rw[show iN f v ((k,x)::r)=(if k=f then (k,v)::r else (k,x)::iN f v r) from rfl]
  by_cases hk:k=f
  ·rw[au hk]
   subst hk;exact⟨by simp,fun g h=>by simpa using h⟩
  ·rw[ao hk]
   refine⟨?_,fun g h=>?_⟩
   ·rw[cf]
    exact bV _ i1
   ·rw[cf]at h ⊢
    rcases aY.mp h with e|e
    ·exact aY.mpr (.inl e)
    ·exact bV _ (i2 g e)
theorem Ju (f:Str) (v:V):∀fs:List (Str×V),(iN f v fs).length<=fs.length+1
 |[]=>by simp[iN]
 |(k,x)::r=>by
  have ih:=Ju f v r;rw[show iN f v ((k,x)::r)=(if k=f then (k,v)::r else (k,x)::iN f v r) from rfl]
  by_cases hk:k=f
  ·rw[au hk,cO,cO];omega
  ·rw[ao hk,cO,cO];omega
theorem ix.some_of {o:Option Value} (r:ix (some v) o):∃u,o=some u/\RelV v u:=by
 cases o with
 |none=>exact(show False from r).elim
 |some u=>exact⟨u,rfl,r⟩
theorem TK (r:RelV v u):PySem.W.handedIn u=true:=by
 cases v with
 |ax=>cases (show u=Value.none from r);rfl
 |bl b=>cases (show u=Value.bool b from r);rfl
 |int i=>obtain⟨t,e⟩:=(show ∃t,u=Value.int i t from r);cases e;rfl
 |str x=>obtain⟨t,e⟩:=(show ∃t,u=Value.str x t from r);cases e;rfl
 |jN b=>obtain⟨t,e⟩:=(show ∃t,u=Value.bytes b t from r);cases e;rfl
 |jO b=>obtain⟨t,e⟩:=(show ∃t,u=Value.float b t from r);cases e;rfl
 |ref a=>cases (show u=Value.ref a from r);rfl
 |ty n=>cases (show u=Value.type n from r);rfl
section
variable{dx:Addr}{fs fs':List (Str×V)}
theorem VQ (ay:cI P w H h) (e:H a=some (.ins C dx fs)):∃mA,Ee h a dx C mA/\(∀f,ix (fs.lookup f) (mA f))/\PySem.Within mA (fs.map (·.1))/\fs.length<=1000/\H dx=some (.own a):=by
 obtain⟨d,z,ne,ob,mA,n,r,q⟩:=(show br P w H h a (.ins C dx fs) from ay a _ e);exact⟨mA,⟨ob,n,ne⟩,r,q,z,d⟩
end
structure Fb (K:PySem.W.Frag) (C:Addr):Prop where
 pg:PySem.W.plainGet K C Str.empty=true
 hd:PySem.W.hasDictIn K C=true
 po:PySem.W.plainOver K C=true
 sa:PySem.W.findIn K (.ref C) "__setattr__" = some (some (.builtin "object.__setattr__"))
theorem Fb.get (c:Fb K C) (f:Str):PySem.W.plainGet K C f=true:=c.pg
section
variable{dx:Addr}{fs:List (Str×V)}{f:Str}{E:Value->Shared->Prop}
theorem VR {f:Str}{Q:Value->Shared->Prop} (hb:attributeBase e f env (eval e env)=eval e env)
  (h:wpAny (model prog w) A (eval e env) (fun o a4=>wpAny (model prog w) A (getAttr o f true) Q E a4) E s):wpAny (model prog w) A (eval (.Attribute e f pos) env) Q E s:=
 Attribute_any_ h (by rw[arm_eval_Attribute,hb])
end
section
variable{E:Value->Shared->Prop}{Q:Value->Shared->Prop}{c:Value}{b:Bool}
inductive jI (K:PySem.W.Frag) (H:Hp):V->Value->Prop where
 |ax:jI K H .ax (.type "NoneType")
 |bl (x:Bool):jI K H (.bl x) (.type "bool")
 |int (i:Int):jI K H (.int i) (.type "int")
 |str (x:Str):jI K H (.str x) (.type "str")
 |jO (x:UInt64):jI K H (.jO x) (.type "float")
 |lst {a:Addr}{xs:List V} (e:H a=some (.lst xs)):jI K H (.ref a) (.type "list")
 |cQ {a:Addr}{o:Obj}{xs:List V} (e:H a=some (.cQ o (.lst xs))):jI K H (.ref a) (.type "list")
 |tup {a:Addr}{xs:List V} (e:H a=some (.tup xs)):jI K H (.ref a) (.type "tuple")
 |dK {a:Addr}{kvs:List (Key×V)} (e:H a=some (.dK kvs)):jI K H (.ref a) (.type "dict")
 |dT {a:Addr}{kvs:List (List Key×V)} (e:H a=some (.dT kvs)):jI K H (.ref a) (.type "dict")
 |ins {a C dx:Addr}{fs:List (Str×V)} (e:H a=some (.ins C dx fs)) (cl:Fb K C) (ha:PySem.W.findIn K (.ref C) "__class__" = some (some (.builtin "object.__class__")))
   (hn:PySem.W.specialIn K (.builtin "object.__class__") "__get__" = some (some (.builtin "getset_descriptor.__get__"))) (su:PySem.W.takesIn K (.builtin "object.__class__")=some true)
   (hm:PySem.W.mroIn K C (.type "object")=some true):jI K H (.ref a) (.ref C)
theorem TL {x:V}{t:Value} (I:Inv X pins σ H s) (rx:RelV x u) (ty:jI X.K H x t) (e:PySem.W.kitOne X.K t c=some b) (h:∀tk,Q (.bool b) { s with toks:=tk }) :
  wpAny (model X.prog X.w) A (call (.builtin "isinstance") [u,c]) Q E s:=by
 cases ty with
 |ax=>cases (show u=Value.none from rx);exact nX PySem.W.kitx_none I.bc True.intro e (fun z=>nomatch z) h
 |bl y=>cases (show u=Value.bool y from rx);exact nX PySem.W.kitx_bool I.bc True.intro e (fun z=>nomatch z) h
 |int i=>obtain⟨t,q⟩:=(show ∃t,u=Value.int i t from rx);cases q;exact nX PySem.W.kitx_int I.bc True.intro e (fun z=>nomatch z) h
 |str y=>obtain⟨t,q⟩:=(show ∃t,u=Value.str y t from rx);cases q;exact nX PySem.W.kitx_str I.bc True.intro e (fun z=>nomatch z) h
 |jO y=>obtain⟨t,q⟩:=(show ∃t,u=Value.float y t from rx);cases q;exact nX PySem.W.kitx_float I.bc True.intro e (fun z=>nomatch z) h
 |@lst a xs ea =>
  cases (show u=Value.ref a from rx)
  obtain⟨_,_,n,_,h1⟩:=(show br X.prog X.w H s.heap a (.lst xs) from I.ay a _ ea);exact nX PySem.W.kitx_list I.bc ⟨_,h1,rfl⟩ e (fun z=>nomatch z) h
 |@cQ a ob xs ea =>
  cases (show u=Value.ref a from rx)
  obtain⟨_,_,_,n,_,h1⟩:=(show br X.prog X.w H s.heap a (.cQ ob (.lst xs)) from I.ay a _ ea);exact nX PySem.W.kitx_list I.bc ⟨_,h1,rfl⟩ e (fun z=>nomatch z) h
 |@tup a xs ea =>
  cases (show u=Value.ref a from rx)
  obtain⟨_,_,_,p⟩:=(show br X.prog X.w H s.heap a (.tup xs) from I.ay a _ ea);obtain⟨o,h1,h2,_⟩:=p;exact nX PySem.W.kitx_tuple I.bc ⟨o,h1,h2⟩ e (fun z=>nomatch z) h
 |@dK a kvs ea =>
  cases (show u=Value.ref a from rx)
  obtain⟨_,_,vs,_,p⟩:=(show br X.prog X.w H s.heap a (.dK kvs) from I.ay a _ ea);obtain⟨o,es,ep,h1,h2,_⟩:=p;exact nX PySem.W.kitx_dict I.bc ⟨o,h1,h2.1⟩ e (fun z=>nomatch z) h
 |@dT a kvs ea =>
  cases (show u=Value.ref a from rx)
  obtain⟨_,_,xs,_,o,es,ep,h1,h2,_⟩:=(show br X.prog X.w H s.heap a (.dT kvs) from I.ay a _ ea);exact nX PySem.W.kitx_dict I.bc ⟨o,h1,h2.1⟩ e (fun z=>nomatch z) h
 |@ins a C dx fs ea cl ha hn su hm =>
  cases (show u=Value.ref a from rx)
  obtain⟨mA,O,_⟩:=VQ I.ay ea;obtain⟨od,J,_⟩:=O.look;exact nX (PySem.W.kitx_own (cl.get _) cl.hd ha hn su hm) I.bc J e (fun z=>nomatch z) h
end
structure aS (k:Nat) (A:Around):Prop where
 hd:A.handled=none
 dp:A.depth+3 * k+5 < recursionLimit
 un:A.units+16 * k+200 < cLine
 gd:A.guards=some []
theorem aS.mono {k:Nat} (r:aS k A) (h:j<=k):aS j A:=⟨r.hd,by have:=r.dp;omega,by have:=r.un;omega,r.gd⟩
theorem aS.deeper {k:Nat} (r:aS (k+1) A) (env:Env):aS k (A.deeper env):=
 ⟨r.hd,by have:=r.dp;show A.depth+1+3 * k+5 < _;omega,by have:=r.un;show A.units+3+16 * k+200 < _;omega,by first|exact r.gd|simp[Around.deeper,r.gd]⟩
theorem JB:(A.under (.builtin "type.__call__" ⟨.ref C::us,kw⟩)).depth=A.depth+1:=by
 first|rfl|simp[Around.under,Code.weight,Code.isCreation,Code.isGuard,Code.isCaller,Code.frames,Code.isFrame,guardIds]
theorem JC:(A.under (.builtin "type.__call__" ⟨.ref C::us,kw⟩)).units=A.units+1:=by
 first|rfl|simp[Around.under,Code.cUnits,Code.frames,Code.isFrame]
theorem Jv (h:A.guards=some []):(A.under (.builtin "type.__call__" ⟨.ref C::us,kw⟩)).guards=some []:=by
 first|exact h|(simp[Around.under,Code.guards,Code.isGuard,guardIds,pushGuards,h])
theorem aS.make {k:Nat} (r:aS (k+1) A) (C:Addr) (us:List Value) (kw:List (Str×Value)):aS k (A.under (.builtin "type.__call__" ⟨.ref C::us,kw⟩)):=
 ⟨r.hd,by have:=r.dp;rw[JB];omega,by have:=r.un;rw[JC];omega,Jv r.gd⟩
theorem aS.depth {k:Nat} (r:aS k A):A.depth < recursionLimit:=by have:=r.dp;omega
theorem aS.units {k:Nat} (r:aS k A):A.units+64 < cLine:=by have:=r.un;omega
def Nr:TA:=fun _ H Q=>Q [] H
def DT (ta:TE) (tr:TA):TA:=fun σ H Q=>ta σ H fun x H1=>tr σ H1 fun xs H2=>Q (x::xs) H2
section
variable{t:TA}
theorem ah:PA X [] Nr:=fun _ _ _ _ H Q I h=>Calls.spliced_nil ⟨[],H,I,.nil,h⟩
theorem ae (ha:PE X e te) (hr:PA X es t) (hs:starEach (e::es) X.env=(false,eval e X.env)::starEach es X.env:=by rfl):PA X (e::es) (DT te t):=by
 intro pos pins s σ H Q I h;rw[hs];show wpAny _ _ (spliced ((false,eval e X.env)::backTo pos (starEach es X.env))) _ _ s;refine Calls.spliced_cons (aC (ha pins s σ H _ I h) fun u s1 ⟨x,H1,I1,r1,q1⟩=>?_);exact aC (hr pos pins s1 σ H1 _ I1 q1) fun us s2 ⟨xs,H2,I2,r2,q2⟩=>⟨x::xs,H2,I2,.cons r1 r2,q2⟩
def Nt (t:TA):TE:=fun σ H Q=>t σ H fun xs H1=>xs.length<=sizeLine /\ ∀p,H1 p=none->Q (.ref p) (upd H1 p (.tup xs))
def Ef (t:TA):TE:=fun σ H Q=>t σ H fun xs H1=>xs.length<=sizeLine /\ ∀p,H1 p=none->Q (.ref p) (upd H1 p (.lst xs))
theorem d7 {x1} (h:PA X es t):PE X (.Tuple es x1 pos) (Nt t):=by
 intro pins s σ H Q I hq;refine wpAny_Tuple_spliced (aC (h pos pins s σ H _ I hq) fun us s1 ⟨xs,H1,I1,r,z,q⟩=>⟨by rw[<-r.length];exact z,?_⟩)
 have hf:H1 s1.heap.objs.size=none:=I1.ay.fresh (aK _);refine⟨.ref s1.heap.objs.size,upd H1 s1.heap.objs.size (.tup xs),I1.laid (t':=s1.toks) (fun b u e=>bU _ e) (aK _) ?_,rfl,q _ hf⟩;exact⟨z,us,r,⟨_,eM _ rfl,rfl,_,rfl,rfl⟩⟩
theorem a9 (h:PA X es t):PE X (.List es pos) (Ef t):=by
 intro pins s σ H Q I hq;refine wpAny_List_spliced (aC (h pos pins s σ H _ I hq) fun us s1 ⟨xs,H1,I1,r,z,q⟩=>⟨by rw[<-r.length];exact z,?_⟩)
 have hf:H1 s1.heap.objs.size=none:=I1.ay.fresh (aK _);refine⟨.ref s1.heap.objs.size,upd H1 s1.heap.objs.size (.lst xs),I1.laid (t':=s1.toks) (fun b u e=>bU _ e) (aK _) ?_,rfl,q _ hf⟩;exact⟨z,us,0,r,eM _ rfl⟩
end
abbrev Sp:=List V->Hp->VK->XK->Prop
end L2
variable{sp:L2.Sp}
namespace L2
open PySem PySem.Spec PyProof.Rows
abbrev lx:=List Env->Hp->Shared->XK->Value->Shared->Prop
structure oK (P:Program) (w:World) (K:PySem.W.Frag) (mg:Str->Option Value) (base:Heap) (A:Around) (outer:List Env) (s:Shared) (H:Hp):Prop where
 frames:A.frames=some outer
 mod:Mod K mg base
 bs:∀b o,base.get? b=some o->s.heap.get? b=some o/\H b=none
 ko:base.objs.size<=s.heap.objs.size
 f':s.heap.FunFrames base outer
 lu:∀b∈cM outer,H b=none
 ay:cI P w H s.heap
 bare:AllBare s.gens
def CE (outer:List Env) (P:Program) (w:World) (H:Hp) (s:Shared) (Q:VK) (u:Value) (s':Shared):Prop:=
 ∃v H',s'.os=s.os/\AllBare s'.gens/\Un (cM outer) [] H H' s.heap s'.heap/\cI P w H' s'.heap/\RelV v u/\Q v H'
def CR (CX:lx) (outer:List Env) (P:Program) (w:World) (H:Hp) (s:Shared) (Q:VK) (E:XK) (r:Result) (s':Shared):Prop:=
 match r with
 |.ok (.ret u)=>CE outer P w H s Q u s'
 |.ok _=>False
 |.error e=>CX outer H s E e s'
structure aD (P:Program) (w:World) (K:PySem.W.Frag) (mg:Str->Option Value) (base:Heap) (CX:lx) (k:Nat) (f:Addr) (fd:FuncData) (ps:List Str) (sp:Sp):Prop where
 len:∀vs H Q E,sp vs H Q E->vs.length=ps.length
 run:∀ (A:Around) (outer:List Env) (s:Shared) (H:Hp) (args:Args) (us:List Value) (vs:List V) (Q:VK) (E:XK),aS k A->oK P w K mg base A outer s H->BindsTo s fd args (ps.zip us)->Vals vs us->sp vs H Q E ->
  codeAny (model P w) A (.call (.ref f) args) (CR CX outer P w H s Q E) s
theorem oK.make (e:oK P w K mg base A outer s H) (C:Addr) (us:List Value) (kw:List (Str×Value)) :
  oK P w K mg base (A.under (.builtin "type.__call__" ⟨.ref C::us,kw⟩)) outer s H:=⟨by first|exact e.frames|(simpa [Around.under,Code.envs,Code.isFrame,pushEnvs] using e.frames),e.mod,e.bs,e.ko,e.f',e.lu,e.ay,e.bare⟩
theorem Inv.xw (I:Inv X pins σ H s):oK X.prog X.w X.K X.mg X.base X.A X.stack s H:=
 ⟨I.ok.frames,I.ok.mod,I.bs,cK I.ok.ko I.sz,I.stack,I.zF,I.ay,I.bare⟩
theorem Inv.after (I:Inv X pins σ H s) (h:CE X.stack X.prog X.w H s Q u s'):EP X pins σ Q u s':=by
 obtain⟨v,H',os,bare,un,ay,r,q⟩:=h;obtain⟨hh,g,d,t,xR⟩:=s';obtain rfl:xR=s.os:=os;exact⟨v,H',I.call (h':=hh) (g':=g) (d':=d) (t':=t) (ch:= []) un ay bare (fun b z=>absurd z (by simp)),r,q⟩
def MN (sp:Sp) (qq:List V) (E:XK) (t:TA):TE:=fun σ H Q=>t σ H fun vs H1=>sp (vs++qq) H1 Q E
def Binds (K:PySem.W.Frag) (fd:FuncData) (ps:List Str) (ds:List Value):Prop:=
 ∀ (s:Shared) (us:List Value),K.In s.heap->(us++ds).length=ps.length->BindsTo s fd ⟨us,[]⟩ (ps.zip (us++ds))
theorem Binds.all (h:∀us:List Value,us.length=ps.length->bindArgs fd ⟨us,[]⟩=pure (ps.zip us)):Binds K fd ps []:=fun s us _ hl=>by
 rw[fh]at hl ⊢;exact .of_eq (h us hl)
def Passes (CX:lx) (X:Cx) (E:XK):Prop:= ∀ (pins:List (Addr×Obj)) (σ:St) (H:Hp) (s:Shared) (e:Value) (s':Shared),Inv X pins σ H s->CX X.stack H s E e s'->X.xe e s'
section
variable{CX:lx}{k:Nat}{qq:List V}{ds:List Value}{m:Str}{p:Pos}{o:Expr}{t:TA}
theorem WY (F:aD X.prog X.w X.K X.mg X.base CX k f fd ps sp) (hr:aS k X.A) (hb:Binds X.K fd ps ds) (hd:Vals qq ds) (hx:Passes CX X E)
  (I:Inv X pins σ H s) (r:Vals vs us) (h:sp (vs++qq) H Q E):wpAny (model X.prog X.w) X.A (call (.ref f) us) (EP X pins σ Q) X.xe s:=by
 have r2:Vals (vs++qq) (us++ds):=r.append hd;have hl:(us++ds).length=ps.length:=by rw[<-r2.length];exact F.len _ _ _ _ h
 refine pE (qH (F.run X.A X.stack s H ⟨us,[]⟩ (us++ds) (vs++qq) Q E hr I.xw (hb s us I.bc hl) r2 h) fun r s' hq=>?_);cases r with
 |error e=>exact hx pins σ H s e s' I hq
 |ok fl =>
  cases fl with
  |ret u=>exact I.after hq
  |next=>exact False.elim hq
  |brk=>exact False.elim hq
  |cont=>exact False.elim hq
theorem aQ (F:aD X.prog X.w X.K X.mg X.base CX k f fd ps sp) (hr:aS k X.A) (hg:Gl X x) (hm:X.mg x=some (.ref f)) (hk:PySem.W.keepIn X.K (.ref f)=true) (hb:Binds X.K fd ps ds) (hd:Vals qq ds) (hx:Passes CX X E)
  (ha:PA X (e::es) t) (iD:(x==("__debug__" : Str))=false:=by decide) (he:starEach (e::es) X.env=(false,eval e X.env)::starEach es X.env:=by rfl) (cR:(backTo pos (starEach es X.env)).any (·.1)=false:=by rfl) :
  PE X (.Call (.Name x p) (e::es) [] pos) (MN sp qq E t):=by
 intro pins s σ H Q I h;refine qI (mV I hg hm ?_ iD);refine PySem.W.callWith_K (h₀:=X.base) I.ok.mod.jg hk (aC (ha pos pins s σ H _ I h) fun us s1 ⟨vs,H1,I1,r,q⟩=>⟨I1.bc,?_⟩) he cR;exact WY F hr hb hd hx I1 r q
end
structure b3 (N P:List Str) (sc:Scope):Prop where
 kind:sc.kind = .function
 co:sc.isCoroutine=false
 gen:sc.isGenerator=false
 nd:N.Nodup
 pre:N.take P.length=P
 par:∀x∈P,sc.names.lookup x=some .local\/sc.names.lookup x=some .cell
 WZ:∀y∈sc.names,y.2 ≠ .free
theorem JZ {kindOf:Str->Option NameKind}{x:Str}:∀ {binds:List (Str×Value)}{m:Str->Option Value},(∀v,(x,v) ∉ binds)->bindL kindOf binds m x=m x
 |[],_,_=>rfl
 |(n,v)::r,m,h=>by
  unfold bindL;rw[JZ fun w hw=>h w (bV _ hw)];split
  ·have:x≠n:=by rintro rfl;exact h v aV
   simp[this]
  ·rfl
theorem J6 {kindOf:Str->Option NameKind}{x:Str}:∀ {binds:List (Str×Value)}{m:Str->Option Value},(∀v,(x,v) ∉ binds)->bindC kindOf binds m x=m x
 |[],_,_=>rfl
 |(n,v)::r,m,h=>by
  unfold bindC;rw[J6 fun w hw=>h w (bV _ hw)];split
  ·rfl
  ·have:x≠n:=by rintro rfl;exact h v aV
   simp[this]
theorem J9 {kindOf:Str->Option NameKind}{x:Str}{v:Value}:∀ {P:List Str}{vs:List Value}{i:Nat}{m:Str->Option Value},P.Nodup->P[i]? = some x->vs[i]? = some v->kindOf x=some .local ->
  bindL kindOf (P.zip vs) m x=some v
 |[],_,_,_,_,h,_,_=>by simp at h
 |_::_,[],_,_,_,_,h,_=>by simp at h
 |p::P,w::vs,0,m,nd,h1,h2,hk=>by
  simp at h1 h2;subst h1;subst h2;show bindL kindOf ((p,w)::P.zip vs) m p=_;unfold bindL;rw[JZ fun v hv=>(gE.mp nd).1 (Iz hv).1,au hk];simp
 |p::P,w::vs,i+1,m,nd,h1,h2,hk=>by
  show bindL kindOf ((p,w)::P.zip vs) m x=_;unfold bindL;exact J9 (i:=i) (gE.mp nd).2 (by simpa using h1) (by simpa using h2) hk
theorem J' {kindOf:Str->Option NameKind}{x:Str}{v:Value}:∀ {P:List Str}{vs:List Value}{i:Nat}{m:Str->Option Value},P.Nodup->P[i]? = some x->vs[i]? = some v->kindOf x≠some .local ->
  bindC kindOf (P.zip vs) m x=some v
 |[],_,_,_,_,h,_,_=>by simp at h
 |_::_,[],_,_,_,_,h,_=>by simp at h
 |p::P,w::vs,0,m,nd,h1,h2,hk=>by
  simp at h1 h2;subst h1;subst h2;show bindC kindOf ((p,w)::P.zip vs) m p=_;unfold bindC;rw[J6 fun v hv=>(gE.mp nd).1 (Iz hv).1,ao hk];simp
 |p::P,w::vs,i+1,m,nd,h1,h2,hk=>by
  show bindC kindOf ((p,w)::P.zip vs) m x=_;unfold bindC;exact J' (i:=i) (gE.mp nd).2 (by simpa using h1) (by simpa using h2) hk
def start (N:List Str) (vs:List V):St:=vs.map some++List.replicate (N.length - vs.length) none
def jJ (CX:lx) (P:Program) (w:World) (K:PySem.W.Frag) (mg:Str->Option Value) (base:Heap) (N:List Str) (qual:Str) (scope:Scope) (f:Addr) (cd:Value) (A:Around) (outer:List Env) (s:Shared) (H:Hp) (E:XK):Cx where
 prog:=P
 w:=w
 K:=K
 mg:=mg
 base:=base
 A:=A.deeper (envOfC qual scope s.heap.objs.size f cd)
 N:=N
 cH:=s
 jb:=H
 env:=envOfC qual scope s.heap.objs.size f cd
 outer:=outer
 stack:=envOfC qual scope s.heap.objs.size f cd::outer
 ex:= []
 calm:=true
 fn:=fun _=>true
 pn:= []
 xe:=fun e s'=>wpAny (model P w) (A.deeper (envOfC qual scope s.heap.objs.size f cd)) (leaving (envOfC qual scope s.heap.objs.size f cd) e) (fun _ mf=>CX outer H s E e mf) (fun e' mf=>CX outer H s E e' mf) s'
theorem CO (h:sc.names.lookup x=some .cell):∃c,(cellsFrom n sc.names []).lookup x=some c:=by
 have q:=Q9 sc.names n [] (.inl h);exact ahn.mp q
theorem Ka {CX:lx}
  (S:b3 N ps scope) (hd:A.handled=none) (e0:oK P w K mg base A outer s H) (hl:vs.length=ps.length) (r:Vals vs us)
  (x:InCallC s s.heap.objs.size (bindL (envOfC qual scope s.heap.objs.size f cd).kindOf (ps.zip us) fun _=>none) (cellsFrom (s.heap.objs.size+1) scope.names []) (bindC (envOfC qual scope s.heap.objs.size f cd).kindOf (ps.zip us) fun _=>none) s1) :
  Inv (jJ CX P w K mg base N qual scope f cd A outer s H E) [] (start N vs) H s1:=by
 have cR:ps.length<=N.length:=by have:=eY List.length S.pre;rw[dh]at this;omega
 obtain⟨h1,tk,rfl,hk⟩:=x.done;have xS:∀b:Addr,b ∉ (jJ CX P w K mg base N qual scope f cd A outer s H E).ex:=fun b z=>absurd (show b∈([]:List Addr) from z) (by simp)
 refine⟨⟨e0.mod,S.kind,rfl,rfl,aK _,fun y z c h1 h2=>?_,fun y hy=>?_,fun y c _ h=>?_,fun _=>hd,Around.frames_deeper e0.frames,.inr ⟨rfl,rfl⟩,fun b z=>absurd z (xS b),e0.bs,e0.ko,fun b _ _=>xS b,fun b z=>absurd z (xS b),e0.f',e0.lu⟩,
  rfl,e0.bare,Un.kept hk,⟨_,x.toInCall.ns,fun i y v h1 h2 h3=>?_⟩,fun y c h=>⟨_,x.cell y c h⟩,e0.ay.fresh (aK _),fun y c h=>?_,fun p hp=>absurd (show p∈([]:List (Addr×Obj)) from hp) (by simp),e0.ay.kept hk,?_⟩
 ·exact name_of_addr x.apart (pF h1) (pF h2)
 ·have hy:scope.names.lookup y=some .cell\/scope.names.lookup y=some .free:=hy
  rcases hy with hy|hy
  ·exact CO hy
  ·exact absurd rfl (S.WZ _ (pF hy))
 ·exact vG (x.above y c (pF h))
 ·have hi:i < vs.length:=by
   unfold start at h2
   by_cases hi:i < vs.length
   ·exact hi
   ·rw[aho (by simpa using hi)]at h2
    rw[List.getElem?_replicate]at h2;split at h2 <;> cases h2
  have ha:vs[i]? = some v:=by
   unfold start at h2;rw[ahp (by simpa using hi),f6]at h2
   cases e:vs[i]? with
   |none=>rw[e]at h2;cases h2
   |some a=>rw[e]at h2;cases h2;rfl
  obtain⟨u,hu,rv⟩:=r.get ha;have hp:ps[i]? = some y:=by
   rw[<-S.pre,List.getElem?_take_of_lt (by omega)];exact h1
  have OA:ps.Nodup:=by rw[<-S.pre];exact S.nd.sublist (IA _ _)
  refine⟨u,rv,?_⟩;rcases S.par y (gP hp) with k|k
  ·exact .inl ⟨k,J9 OA hp hu k⟩
  ·obtain⟨c,e⟩:=CO (n:=s.heap.objs.size+1) k
   refine .inr ⟨.inl k,c,e,?_⟩;have q:=x.cell y c e;rw[J' OA hp hu (by show scope.names.lookup y≠_;rw[k];decide)]at q
   exact q
 ·exact e0.ay.fresh (vG (x.above y c (pF h)))
 ·unfold start
  show _=N.length;rw[cY,aE,List.length_replicate];omega
theorem MO {CX:lx}{k:Nat}{params:Arguments}{dV kV:Value} (lk:K.lookup f=some ⟨oc,od,.func (PySem.W.fnOf name qual params body scope dV kV doc pm an cdv ct),nC⟩) (gg:PySem.W.codeIn K cdv qual=true) (S:b3 N ps scope)
  (len:∀vs H Q E,sp vs H Q E->vs.length=ps.length)
  (oF:∀ (A:Around) (outer:List Env) (s:Shared) (H:Hp) (vs:List V) (Q:VK) (E:XK),aS k (A.deeper (envOfC qual scope s.heap.objs.size f cdv))->sp vs H Q E ->
   ∃t,gC (jJ CX P w K mg base N qual scope f cdv A outer s H E) body t/\t { nx:=fun _ H'=>Q .ax H',rt:=Q } (start N vs) H) :
  aD P w K mg base CX (k+1) f (PySem.W.fnOf name qual params body scope dV kV doc pm an cdv ct) ps sp:=by
 refine⟨len,fun A outer s H args us vs Q E hr e0 hb r kq=>?_⟩;have hl:=len _ _ _ _ kq;have KX:K.In s.heap:=e0.mod.jg.keeps fun b o e=>(e0.bs b o e).1;have lim:s.heap.NoLimit:=e0.mod.nolimit.keeps fun b o e=>(e0.bs b o e).1;have DU:∀y∈ps.zip us,scope.names.lookup y.1=some .local\/(scope.names.lookup y.1=some .cell/\((cellsFrom (s.heap.objs.size+1) scope.names []).lookup y.1).isSome=true):=fun⟨n,v⟩ hy=>by
  rcases S.par n (Iz hy).1 with q|q
  ·exact .inl q
  ·exact .inr ⟨q,Q9 _ _ _ (.inl q)⟩
 refine codeAny_call_function hr.depth (KX _ _ lk) rfl S.co S.gen rfl (PySem.W.codeRec_of KX gg) (hb _ _ _ _ ?_);refine ahs S.kind DU fun env he s1 x=>?_;subst he;refine⟨lim.keeps x.toInCall.keep,codeAny_func ?_⟩;obtain⟨t,ht,hq⟩:=oF A outer s H vs Q E (hr.deeper _) kq;have I:Inv (jJ CX P w K mg base N qual scope f cdv A outer s H E) [] (start N vs) H s1:=Ka S hr.hd e0 hl r x;refine nV (ht [] s1 (start N vs) H _ I hq) (fun fl s' hs=>?_) fun e s' hs=>hs;have fin:∀ {aJ:St}{H':Hp}{v:V}{u:Value},Inv (jJ CX P w K mg base N qual scope f cdv A outer s H E) [] aJ H' s'->RelV v u->Q v H'->CE outer P w H s Q u s':=
  fun {aJ H' v u} J rv q=>⟨v,H',J.os,J.bare,J.base,J.ay,rv,q⟩
 cases fl with
 |ret u =>
  obtain⟨v,aJ,H',J,rv,q⟩:=hs;exact fin J rv q
 |next =>
  obtain⟨aJ,H',J,q⟩:=hs;exact fin (v:=V.ax) (u:=Value.none) J rfl q
 |brk =>
  obtain⟨_,_,_,q⟩:=hs;exact False.elim q
 |cont =>
  obtain⟨_,_,_,q⟩:=hs;exact False.elim q
section
variable{p:Pos}{t:TA}{id:String}{r:List V->Hp->VK->Prop}
def OB (r:List V->Hp->VK->Prop) (t:TA):TE:=fun σ H Q=>t σ H fun vs H1=>r vs H1 Q
theorem ck (hc:eV X (.builtin id) r) (hg:Gl X x) (hm:X.mg x=none) (hv:bootBuiltins x=some (.builtin id)) (ha:PA X (e::es) t) (hn:x ≠ "__name__" :=by decide) (iD:(x==("__debug__" : Str))=false:=by decide)
  (he:starEach (e::es) X.env=(false,eval e X.env)::starEach es X.env:=by rfl) (cR:(backTo pos (starEach es X.env)).any (·.1)=false:=by rfl):PE X (.Call (.Name x p) (e::es) [] pos) (OB r t):=by
 intro pins s σ H Q I h;refine qI (uc I hg hm hv ?_ hn iD);exact aht (aC (ha pos pins s σ H _ I h) fun us s1 ⟨vs,H1,I1,r1,q1⟩=>hc pins s1 σ H1 vs us Q I1 r1 q1) he cR
theorem f7 (hc:eV X (.type T) r) (hg:Gl X x) (hm:X.mg x=none) (hv:bootBuiltins x=some (.type T)) (ha:PA X (e::es) t) (hn:x ≠ "__name__" :=by decide) (iD:(x==("__debug__" : Str))=false:=by decide)
  (he:starEach (e::es) X.env=(false,eval e X.env)::starEach es X.env:=by rfl) (cR:(backTo pos (starEach es X.env)).any (·.1)=false:=by rfl):PE X (.Call (.Name x p) (e::es) [] pos) (OB r t):=by
 intro pins s σ H Q I h;refine qI (uc I hg hm hv ?_ hn iD);exact Iy (aC (ha pos pins s σ H _ I h) fun us s1 ⟨vs,H1,I1,r1,q1⟩=>hc pins s1 σ H1 vs us Q I1 r1 q1) he cR
end
end L2
namespace HT
open PySem PyProof.Rows
section
open PySem.SeqAt
open PySem.AutoSeq1 (wpAny_loadPart')
open PySem.MeetsSeq PySem.MeetsSeq2 PySem.MeetsSeq3
end
section
variable{E:Value->Shared->Prop}
theorem VS {vs ws:List Value}{Q:Value->Shared->Prop} (ht:IsTup s.heap t vs.toArray) (hb:IsTup s.heap b ws.toArray) (hv:vs ≠ [])
  (h1:ws = []->Q (.ref t) s) (h2:ws ≠ []->Q (.ref s.heap.objs.size) { s with heap:=s.heap.push { cls:= .type "tuple",data:= .seq (vs++ws).toArray } })
  (hsz:vs.length+ws.length<=sizeLine):wpAny (model prog w) A (binaryOp .Add (.ref t) (.ref b)) Q E s:=by
 obtain⟨⟨cls,dd,data,sl⟩,ho,hc,n,hd⟩:=id ht;obtain⟨⟨Nu,As,data2,sv⟩,ku,gj,n2,hd2⟩:=id hb;simp only at hc hd gj hd2;subst hc hd gj hd2;have e:vs.toArray++ws.toArray=(vs++ws).toArray:=by simp
 by_cases hw:ws = []
 ·exact concat_meets ⟨_,ho,rfl⟩ ⟨_,ku,rfl⟩ Rb Rc Rf Rg (Rh _ _)
   (tuple_addW1 t b vs.toArray ws.toArray n n2 dd As sl sv (by simpa using hv) (by simp[hw])) ⟨ho,ku,h1 hw⟩
 ·refine concat_meets ⟨_,ho,rfl⟩ ⟨_,ku,rfl⟩ Rb Rc Rf Rg (Rh _ _)
   (tuple_addW2 t b vs.toArray ws.toArray n n2 dd As sl sv (by simpa using hv) (by simpa using hw) (by rw[cD,cD];exact hsz)) ⟨ho,ku,?_⟩
  rw[e];exact h2 hw
def aX (n d:Nat):Option Int->Nat
 |none=>d
 |some v=>if v < 0 then (v+(n:Int)).toNat else min v.toNat n
theorem CP (n d:Nat):aX n d none=d:=rfl
theorem Dh (n d k:Nat):aX n d (some (k:Int))=min k n:=by
 show(if (k:Int) < 0 then ((k:Int)+(n:Int)).toNat else min (k:Int).toNat n)=min k n;rw[ao (by omega),IB]
theorem W0 (n d:Nat) (hd:d<=n) (o:Option Int):aX n d o<=n:=by
 cases o with
 |none=>exact hd
 |some v =>
  show(if v < 0 then (v+(n:Int)).toNat else min v.toNat n)<=n
  by_cases hv:v < 0
  ·rw[au hv];omega
  ·rw[ao hv];exact Nat.min_le_right _ _
theorem LB (v:Int) (n d:Nat):(if v < 0 then max (v+(n:Int)) 0 else min v (n:Int))=((aX n d (some v):Nat):Int):=by
 show(if v < 0 then max (v+(n:Int)) 0 else min v (n:Int))=(((if v < 0 then (v+(n:Int)).toNat else min v.toNat n):Nat):Int)
 by_cases hv:v < 0
 ·simp only[au hv];omega
 ·simp only[ao hv];omega
theorem SS (lo hi:Option Int) (n:Nat):Builtin.Slice.sliceAdjust lo hi 1 (n:Int)=(((aX n 0 lo:Nat):Int),((aX n n hi:Nat):Int)):=by
 have h1 : ¬ ((1:Int) < 0):=by omega
 unfold Builtin.Slice.sliceAdjust;simp only[h1,tm];refine Prod.ext ?_ ?_
 ·cases lo with
  |none=>rfl
  |some v=>exact LB v n 0
 ·cases hi with
  |none=>rfl
  |some v=>exact LB v n n
theorem SU (i j:Nat):Builtin.Slice.slicePlaces (i:Int) (j:Int) 1=j - i:=by
 unfold Builtin.Slice.slicePlaces;have h1:(1:Int) > 0:=by omega
 simp only[h1,mE,Ri];split <;> omega
theorem JD {v:Value}{o:Option Int}{Q:Option Int->Shared->Prop} (p:IsPart v o) (h:Q o s):wpAny (model prog w) A (Builtin.Slice.slicePartIndex v) Q E s:=by
 cases p with
 |none=>exact slicePart_none h
 |int i t=>exact slicePart_int h
theorem Jk {lo:Option Int}{Q:Int×Int×Nat->Shared->Prop} (hs:s.heap.IsSliceOf sl vl vu .none) (pl:IsPart vl lo) (pu:IsPart vu hi)
  (h:Q (((aX n 0 lo:Nat):Int),1,aX n n hi - aX n 0 lo) s):wpAny (model prog w) A (Builtin.Slice.sliceApplied (.ref sl) (pure (n:Int))) Q E s:=by
 obtain⟨os,sy,Au,xT⟩:=id hs;unfold Builtin.Slice.sliceApplied Builtin.Slice.sliceFields;refine ag (ag (gQ sy xT (x:=vl) rfl (ag (gQ sy xT (x:=vu) rfl (ag (gQ sy xT (x:= .none) rfl (aA ?_)))))));refine ag (slicePart_none ?_);show wpAny _ _ (if ((1:Int)==0)=true then _ else _) _ _ s;rw[ao (by decide)]
 refine ag (JD pl (ag (JD pu (ag (aA ?_)))));show wpAny _ _ (match Builtin.Slice.sliceAdjust lo hi 1 (n:Int) with|(lo,hi)=>pure (lo,(1:Int),Builtin.Slice.slicePlaces lo hi 1)) _ _ s;rw[SS lo hi n];show wpAny _ _ (pure (((aX n 0 lo:Nat):Int),(1:Int),Builtin.Slice.slicePlaces ((aX n 0 lo:Nat):Int) ((aX n n hi:Nat):Int) 1)) _ _ s;rw[SU];exact aA h
theorem UL (xs:Array Value) (i k:Nat):((List.range k).filterMap fun(m:Nat)=>xs[((i:Int)+(m:Int) * 1).toNat]?).toArray=((xs.toList.drop i).take k).toArray:=by
 have e:(fun(m:Nat)=>xs[((i:Int)+(m:Int) * 1).toNat]?)=fun m=>xs[i+m]?:=by
  funext m
  have:((i:Int)+(m:Int) * 1).toNat=i+m:=by omega
  rw[this]
 rw[e];have:=pick_run xs i k;rw[List.filterMap_map]at this;have e2:((fun x=>xs[x]?) ∘ fun x=>i+x)=fun m=>xs[i+m]?:=rfl;rw[e2]at this;rw[this]
theorem RW {lo:Option Int}{Q:Value->Shared->Prop} (ht:IsTup s.heap t items) (hs:s.heap.IsSliceOf sl vl vu .none) (pl:IsPart vl lo) (pu:IsPart vu hi)
  (hw : ¬ (aX items.size 0 lo=0/\aX items.size items.size hi=items.size))
  (h:Q (.ref s.heap.objs.size) { s with heap:=s.heap.push { cls:= .type "tuple",data:= .seq ((items.toList.drop (aX items.size 0 lo)).take (aX items.size items.size hi - aX items.size 0 lo)).toArray } })
  (hsz:items.size<=sizeLine):wpAny (model prog w) A (getItem (.ref t) (.ref sl)) Q E s:=by
 have zV:sizeOk (.seq ((items.toList.drop (aX items.size 0 lo)).take (aX items.size items.size hi - aX items.size 0 lo)).toArray):=by
  show((items.toList.drop (aX items.size 0 lo)).take (aX items.size items.size hi - aX items.size 0 lo)).toArray.size<=sizeLine;rw[cD,dh,IC,mz];omega
 have hj:aX items.size items.size hi<=items.size:=W0 _ _ (aK _) hi;obtain⟨os,sy,Au,xT⟩:=id hs;have Fc:s.TypeIs (.ref sl) "slice" :=⟨os,sy,Au⟩;unfold getItem
 try with_reducible refine eu ?_
 first|refine ag (aA ?_)|skip
 refine ag (wpAny_sequenceKey ht.typeIs (by decide) ?_)
 refine ag (BJ (name:=Str.ofString "__getitem__") ht.typeIs yO
  (vK yO ht.typeIs entry_tuple_getitem ?_ (args_tuple_getitem _ _)))
 show wpAny _ _ (Builtin.Tuple.tupleItemsOf (.ref t) >>= _) _ _ s;refine ag (tupleItemsOf_ ht ?_);refine ag (qJ Fc ?_);rw[au (by decide)]
 refine ag (Jk hs pl pu ?_);have iE : ¬ ((((aX items.size 0 lo:Nat):Int)==0 && (1:Int)==1 && (aX items.size items.size hi - aX items.size 0 lo)==items.size)=true):=by
  intro q;rw[jA,jA]at q;have q1:((aX items.size 0 lo:Nat):Int)=0:=eq_of_beq q.1.1;have q2:aX items.size items.size hi - aX items.size 0 lo=items.size:=eq_of_beq q.2;exact hw ⟨by omega,by omega⟩
 show wpAny _ _ (if (((aX items.size 0 lo:Nat):Int)==0 && (1:Int)==1 && (aX items.size items.size hi - aX items.size 0 lo)==items.size)=true then _ else _) _ _ s;rw[ao iE,UL]
 first
  |exact ag (m:=Builtin.Tuple.tupleExact _) (qG (aA ⟨_,rfl,aA h⟩) zV)
  |exact ag (m:=Builtin.Tuple.tupleExact _) (qG (ag (aA (aA ⟨_,rfl,aA h⟩))) zV)
  |exact ag (ag (m:=Builtin.Tuple.tupleExact _) (qG (aA (aA ⟨_,rfl,aA h⟩)) zV))
  |exact ag (ag (m:=Builtin.Tuple.tupleExact _) (qG (aA ⟨_,rfl,aA h⟩) zV))
end
end HT
namespace L2
open PySem PySem.Spec PyProof.Rows
abbrev TO:=St->Hp->(Option Int->Hp->Prop)->Prop
def PO (X:Cx) (e:Option Expr) (t:TO):Prop:=
 ∀ (pins:List (Addr×Obj)) (s:Shared) (σ:St) (H:Hp) (Q:Option Int->Hp->Prop),Inv X pins σ H s->t σ H Q ->
  wpAny (model X.prog X.w) X.A (evalPart e X.env) (fun u s'=>∃o H',Inv X pins σ H' s'/\IsPart u o/\Q o H') X.xe s
def VT:TO:=fun _ H Q=>Q none H
def X2 (t:TE):TO:=fun σ H Q=>t σ H fun x H1=>∃i,x = .int i/\Q (some i) H1
section
variable{lo hi:Option Expr}{tl th:TO}{p2:Pos}
theorem lO:PO X none VT:=by
 intro pins s σ H Q I h;rw[Rj];exact aA ⟨none,H,I,.none,h⟩
theorem k7 (h:PE X e te):PO X (some e) (X2 te):=by
 intro pins s σ H Q I hw;rw[evalPart_some];refine aC (h pins s σ H _ I hw) fun u s1 ⟨x,H1,I1,r1,q1⟩=>?_;obtain⟨i,rfl,q⟩:=q1;obtain⟨t,rfl⟩:=r1;exact⟨some i,H1,I1,.int i t,q⟩
def uY (X:Cx) (r:V->Option Int->Option Int->Hp->VK->Prop):Prop:=
 ∀ (pins:List (Addr×Obj)) (s:Shared) (σ:St) (H:Hp) (x:V) (v vl vu:Value) (lo hi:Option Int) (sl:Addr) (Q:VK),Inv X pins σ H s->RelV x v->s.heap.IsSliceOf sl vl vu .none->IsPart vl lo->IsPart vu hi->r x lo hi H Q ->
  ∃T id,typeLookup (.type T) "__getitem__" = pure (some (.builtin id))/\s.TypeIs v T/\wpAny (model X.prog X.w) X.A (getItem v (.ref sl)) (EP X pins σ Q) X.xe s
def tSl (r:V->Option Int->Option Int->Hp->VK->Prop) (te:TE) (tl th:TO):TE:=fun σ H Q=>te σ H fun x H1=>tl σ H1 fun l H2=>th σ H2 fun u H3=>r x l u H3 Q
theorem lM {r:V->Option Int->Option Int->Hp->VK->Prop} (hr:uY X r) (he:PE X e te) (hl:PO X lo tl) (hu:PO X hi th):PE X (.Subscript e (.Slice lo hi none p2) pos) (tSl r te tl th):=by
 intro pins s σ H Q I h;refine Subscript_ (aC (he pins s σ H _ I h) fun v s1 ⟨x,H1,I1,r1,q1⟩=>?_);refine wpAny_Slice (aC (hl pins s1 σ H1 _ I1 q1) fun vl s2 ⟨l,H2,I2,pl,q2⟩=>aC (hu pins s2 σ H2 _ I2 q2) fun vu s3 ⟨u,H3,I3,pu,q3⟩=>?_);rw[Rj];refine aA ?_;have I4:Inv X pins σ H3 { s3 with heap:=s3.heap.push { cls:= .type "slice",data:= .fields #[vl,vu,.none] } }:=I3.kept (t':=s3.toks) fun b ob q=>bU _ q;obtain⟨T,id,hT,ht,hg⟩:=hr pins { s3 with heap:=s3.heap.push { cls:= .type "slice",data:= .fields #[vl,vu,.none] } } σ H3 x v vl vu l u s3.heap.objs.size Q I4 r1 (Heap.IsSliceOf.new ..) pl pu q3;show wpAny (model X.prog X.w) X.A (subscriptTail e (.Slice lo hi none p2) v (.ref s3.heap.objs.size)) (EP X pins σ Q) X.xe { s3 with heap:=s3.heap.push { cls:= .type "slice",data:= .fields #[vl,vu,.none] } };exact tail_any (ops:= [.ref s3.heap.objs.size,v]) ht hT hg (by with_unfolding_all rfl)
def du (xs:List V) (lo hi:Option Int):List V:=(xs.drop (HT.aX xs.length 0 lo)).take (HT.aX xs.length xs.length hi - HT.aX xs.length 0 lo)
theorem Cc (xs:List V) (lo hi:Option Int):(du xs lo hi).length<=xs.length:=by
 unfold du;rw[dh,IC];omega
def Zo (K:PySem.W.Frag):V->Option Int->Option Int->Hp->VK->Prop:=fun x lo hi H Q=>∃a xs,x = .ref a/\aN K H a xs /\
 ¬ (HT.aX xs.length 0 lo=0/\HT.aX xs.length xs.length hi=xs.length) /\ ∀p,H p=none->Q (.ref p) (upd H p (.tup (du xs lo hi)))
theorem W2:uY X (Zo X.K):=by
 intro pins s σ H x v vl vu lo hi sl Q I rx hs pl pu h;obtain⟨a,xs,rfl,hx,hw,q⟩:=h;cases rx
 obtain⟨its,r,ht,hz⟩:=I.tuple hx;have hlen:its.toArray.size=xs.length:=by rw[cD];exact r.length.symm
 refine⟨"tuple",_,yO.lookup,ht.typeIs,?_⟩;refine HT.RW ht hs pl pu (by rw[hlen];exact hw) ?_ (by rw[hlen];exact hz)
 rw[hlen];refine⟨.ref s.heap.objs.size,_,I.laid (t':=s.toks) (o:= .tup (du xs lo hi)) (fun b ob q=>bU _ q) (aK _) ?_,rfl,q _ (I.ay.fresh (aK _))⟩;exact⟨cK (Cc xs lo hi) hz,_,(r.drop (HT.aX xs.length 0 lo)).take (HT.aX xs.length xs.length hi - HT.aX xs.length 0 lo),qa.new _ _⟩
def X3 (K:PySem.W.Frag):R2:=fun x y H Q=>∃a b xs ys,x = .ref a/\y = .ref b/\aN K H a xs/\aN K H b ys/\xs ≠ []/\xs.length+ys.length<=sizeLine /\
 (ys = []->Q (.ref a) H)/\(ys ≠ [] -> ∀p,H p=none->Q (.ref p) (upd H p (.tup (xs++ys))))
theorem Vals.Di (r:Vals xs us):us = [] ↔ xs = []:=by
 cases r with
 |nil=>simp
 |cons _ _=>simp
theorem VU:cN X (binaryOp .Add) (X3 X.K):=by
 intro pins s σ H x y v u Q I rx ry h;obtain⟨a,b,xs,ys,rfl,rfl,ha,hb,hx,hz,q1,q2⟩:=h;cases rx
 cases ry
 obtain⟨its,r1,p1,_⟩:=I.tuple ha;obtain⟨uC,r2,p2,_⟩:=I.tuple hb;refine HT.VS p1 p2 (fun z=>hx (r1.Di.mp z)) (fun z=>⟨.ref a,H,I,rfl,q1 (r2.Di.mp z)⟩) (fun z=>?_) (by rw[<-r1.length,<-r2.length];exact hz)
 refine⟨.ref s.heap.objs.size,_,I.laid (t':=s.toks) (o:= .tup (xs++ys)) (fun b ob q=>bU _ q) (aK _) ?_,rfl,q2 (fun w=>z (r2.Di.mpr w)) _ (I.ay.fresh (aK _))⟩;exact⟨by rw[cY];exact hz,_,r1.append r2,qa.new _ _⟩
end
def oV (n:Nat) (i:Int):Option Nat:=if 0<=i then (if i < n then some i.toNat else none) else if -(n:Int)<=i then some (i+n).toNat else none
def cg {α:Type} (xs:List α) (i:Int):Option α:=(oV xs.length i).bind fun j=>xs[j]?
theorem LC {i:Int} (h:oV n i=some j):seqIndex? i n=some j/\j < n /\ -(n:Int)<=i/\i < n:=by
 unfold oV at h
 by_cases h0:0<=i
 ·rw[au h0]at h
  by_cases h1:i < n
  ·rw[au h1]at h
   have e:i.toNat=j:=fZ h;exact⟨by rw[ID h0 h1,e],by omega,by omega,h1⟩
  ·rw[ao h1]at h;cases h
 ·rw[ao h0]at h
  by_cases h1 : -(n:Int)<=i
  ·rw[au h1]at h
   have e:(i+n).toNat=j:=fZ h;exact⟨by rw[seqIndex_neg (by omega) h1,e],by omega,h1,by omega⟩
  ·rw[ao h1]at h;cases h
theorem Dj {α:Type}{xs:List α}{i:Int}{v:α} (h:cg xs i=some v):∃j,seqIndex? i xs.length=some j/\xs[j]? = some v/\j < xs.length /\ -(xs.length:Int)<=i/\i < xs.length:=by
 unfold cg at h;cases e:oV xs.length i with
 |none=>rw[e]at h;cases h
 |some j =>
  rw[e]at h;obtain⟨h1,h2,h3,h4⟩:=LC e;exact⟨j,h1,h,h2,h3,h4⟩
theorem dq {α:Type}{xs:List α}{v:α} (h:xs[j]? = some v):cg xs (j:Int)=some v:=by
 have hj:j < xs.length:=(cu.mp h).1;have e:oV xs.length (j:Int)=some j:=by
  unfold oV;rw[au (by omega),au (by omega)];simp
 unfold cg;rw[e];exact h
theorem UM {α:Type} (xs:List α) (v:α):cg (xs ++ [v]) (-1)=some v:=by
 have hl:(xs ++ [v]).length=xs.length+1:=by simp
 have e:oV (xs ++ [v]).length (-1)=some xs.length:=by
  unfold oV;rw[hl,ao (by decide),au (by omega)]
  congr 1
  omega
 unfold cg;rw[e];show(xs ++ [v])[xs.length]? = some v;simp
def VV (b:Expr):Prop:= ∀o i,subscripted b false o i=operate [o,i] (getItem o i)
def uZ (X:Cx) (r:R2):Prop:=
 ∀ (value slice:Expr) (pins:List (Addr×Obj)) (s:Shared) (σ:St) (H:Hp) (x y:V) (v u:Value) (Q:VK),Inv X pins σ H s->RelV x v->RelV y u->r x y H Q ->
  subscripted slice false v u=operate [v,u] (getItem v u)->wpAny (model X.prog X.w) X.A (subscriptTail value slice v u) (EP X pins σ Q) X.xe s
def OC (X:Cx) (id:String) (r:V->List V->Hp->VK->Prop):Prop:=
 ∀ (pins:List (Addr×Obj)) (s:Shared) (σ:St) (H:Hp) (x:V) (xs:List V) (v:Value) (us:List Value) (Q:VK),Inv X pins σ H s->RelV x v->Vals xs us->r x xs H Q ->
  wpAny (model X.prog X.w) X.A (call (.builtin id) (v::us)) (EP X pins σ Q) X.xe s
section
variable{a b:Expr}{tb:TE}
theorem bh {r:R2} (hr:uZ X r) (ha:PE X a ta) (hb:PE X b tb) (hs:VV b):PE X (.Subscript a b pos) (xQ r ta tb):=by
 intro pins s σ H Q I h;exact Subscript_ (Ea ha hb I h fun v u s2 x y H2 I2 rx ry q=>hr a b pins s2 σ H2 x y v u Q I2 rx ry q (hs _ _))
def Nv (K:PySem.W.Frag):R2:=fun x y H Q=>∃p xs i v,x = .ref p/\y = .int i/\aj K H p xs/\cg xs i=some v/\Q v H
def Nw (K:PySem.W.Frag):R2:=fun x y H Q=>∃p xs i v,x = .ref p/\y = .int i/\aN K H p xs/\cg xs i=some v/\Q v H
def Zp:R2:=fun x y H Q=>∃z i c,x = .str z/\y = .int i/\z.length<=sizeLine/\cg z.cps.toList i=some c/\Q (.str ⟨#[c]⟩) H
theorem cz:uZ X (Nv X.K):=by
 intro value slice pins s σ H x y v u Q I rx ry h hs;obtain⟨p,xs,i,z,rfl,rfl,hq,he,q⟩:=h;cases rx
 obtain⟨t,rfl⟩:=ry;obtain⟨its,r,pl,hz⟩:=I.list hq;obtain⟨j,h1,h2,h3,h4,h5⟩:=Dj he;obtain⟨w,ew,gL⟩:=r.get h2;have hl:=r.length;have hn:=rq;have fin:EP X pins σ Q w s:=⟨z,H,I,gL,q⟩
 by_cases h0:0<=i
 ·have hj:i.toNat=j:=by
   rw[ID h0 h5]at h1;exact fZ h1
  exact item_listR pl.isList h0 (by omega) (by rw[hj];simpa using ew) fin hs
 ·have hj:(i+(its.toArray.size:Int)).toNat=j:=by
   rw[seqIndex_neg (by omega) h4]at h1
   rw[cD,<-hl];exact fZ h1
  exact subscriptTail_builtinR (x:=w) pl.isList.typeIs Rk.lookup
   (wpAny_getItem_list_neg (Q:=fun r s'=>r=w/\EP X pins σ Q r s') pl.isList (by omega) (by rw[cD] <;> omega) (by omega) (by rw[hj];simpa using ew) ⟨rfl,fin⟩) hs
theorem pT:uZ X (Nw X.K):=by
 intro value slice pins s σ H x y v u Q I rx ry h hs;obtain⟨p,xs,i,z,rfl,rfl,hq,he,q⟩:=h;cases rx
 obtain⟨t,rfl⟩:=ry;obtain⟨its,r,pl,hz⟩:=I.tuple hq;obtain⟨j,h1,h2,h3,h4,h5⟩:=Dj he;obtain⟨w,ew,gL⟩:=r.get h2;have hl:=r.length;have hn:=rq;have fin:EP X pins σ Q w s:=⟨z,H,I,gL,q⟩;exact subscriptTail_builtinR (x:=w) pl.typeIs slot_tuple_getitem.lookup
  (getItem_tuple (j:=j) (Q:=fun r s'=>r=w/\EP X pins σ Q r s') pl (by omega) (by omega) (by rw[cD,<-hl];exact h1) (by simpa using ew) ⟨rfl,fin⟩) hs
theorem DC:uZ X Zp:=by
 intro value slice pins s σ H x y v u Q I rx ry h hs;obtain⟨z,i,c,rfl,rfl,hz,he,q⟩:=h;obtain⟨t,rfl⟩:=rx;obtain⟨t',rfl⟩:=ry;obtain⟨j,h1,h2,h3,h4,h5⟩:=Dj he;have hl:z.cps.toList.length=z.length:=by simp[Str.length]
 rw[hl]at h1 h4 h5;have hn:=rq;exact tail_any (typeIs_str s z t) slot_str_getitem.lookup (getItem_str (c:=c) (by
  have e1:decide (i < -(2 ^ 63:Int))=false:=gv (by omega)
  have e2:decide (i ≥ 2 ^ 63)=false:=gv (by omega)
  rw[e1,e2,Rl]) (by rw[h1];simpa using h2) ⟨.str ⟨#[c]⟩,H,I.tok _,⟨_,rfl⟩,q⟩) hs
theorem SV (its:List Value) (n j:Nat) (u:Value):Obj.mapSeq (·.setIfInBounds j u) { cls:= .type "list",data:= .seq its.toArray n }={ cls:= .type "list",data:= .seq (its.set j u).toArray n }:=by
 simp[Obj.mapSeq]
theorem Inv.lst {pins:List (Addr×Obj)}{σ:St}{H:Hp}{s:Shared}{p:Addr}{xs:List V} (I:Inv X pins σ H s) (h:H p=some (.lst xs)) :
  ∃ (its:List Value) (n:Nat),Vals xs its/\s.heap.get? p=some { cls:= .type "list",data:= .seq its.toArray n }/\xs.length<=sizeLine:=by
 obtain⟨z,its,n,r,e⟩:=I.ay p _ h;exact⟨its,n,r,e,z⟩
theorem Inv.W3 {its':List Value}{n':Nat}{f:Obj->Obj} (I:Inv X pins σ H s) (h:H p=some (.lst xs))
  (ho:s.heap.get? p=some { cls:= .type "list",data:= .seq its.toArray n }) (hf:f { cls:= .type "list",data:= .seq its.toArray n }={ cls:= .type "list",data:= .seq its'.toArray n' }) (r:Vals ys its') (hz:ys.length<=sizeLine) (t:Nat) :
  Inv X pins σ (upd H p (.lst ys)) { s with heap:=s.heap.update p f,toks:=t }:=by
 have e:(s.heap.update p f).get? p=some { cls:= .type "list",data:= .seq its'.toArray n' }:=by
  rw[qK f ho (by rw[hf] <;> rfl),hf]
 refine I.write (x:=p) (e:=p) (by rw[h];trivial) (.inl rfl) (fun b u hb q=>(jX _ _ (aH hb)).trans q) ⟨_,e⟩ ?_
 exact⟨hz,its',n',r,e⟩
def X4:V->V->V->Hp->(Hp->Prop)->Prop:=fun o i v H Q=>∃p xs k j,o = .ref p/\i = .int k/\H p=some (.lst xs)/\oV xs.length k=some j/\Q (upd H p (.lst (xs.set j v)))
theorem set_list:Nj X X4:=by
 intro pins s σ H o i v ov iv u Q I ro ri rv h;obtain⟨p,xs,k,j,rfl,rfl,hp,hj,q⟩:=h;cases ro
 obtain⟨t,rfl⟩:=ri;obtain⟨its,n,r,ho,hz⟩:=I.lst hp;obtain⟨h1,h2,h3,h4⟩:=LC hj;have hl:=r.length;have hn:=rq;have I':Inv X pins σ (upd H p (.lst (xs.set j v))) { s with heap:=s.heap.update p (Obj.mapSeq (·.setIfInBounds j u)) }:=
  I.W3 hp ho (SV its n j u) (r.set rv j) (by rw[List.length_set];exact hz) s.toks
 by_cases h0:0<=k
 ·have hk:k.toNat=j:=by
   rw[ID h0 h4]at h1;exact fZ h1
  exact PySem.W.ki_setAt ho h0 (by omega) (by rw[cD,<-hl];exact h4) (by rw[hk];exact⟨_,I',q⟩)
 ·have hk:(k+(its.toArray.size:Int)).toNat=j:=by
   rw[seqIndex_neg (by omega) h3]at h1
   rw[cD,<-hl];exact fZ h1
  exact PySem.W.ki_setBack ho (by omega) (by rw[cD,<-hl];exact h3) (by omega) (by rw[hk];exact⟨_,I',q⟩)
theorem R5 (lo hi:Option Int) (n:Nat):(sliceBounds lo hi none n).1=((HT.aX n 0 lo:Nat):Int)/\(sliceBounds lo hi none n).2.1=((HT.aX n n hi:Nat):Int)/\(sliceBounds lo hi none n).2.2=1:=by
 refine⟨?_,?_,rfl⟩
 ·cases lo with
  |none=>simp[sliceBounds,HT.aX]
  |some i =>
   simp only[sliceBounds,HT.aX,Option.getD_none,show(1:Int) > 0 by decide,mE]
   by_cases h:i < 0
   ·simp only[h,mE] <;> omega
   ·simp only[h,tm] <;> omega
 ·cases hi with
  |none=>simp[sliceBounds,HT.aX]
  |some i =>
   simp only[sliceBounds,HT.aX,Option.getD_none,show(1:Int) > 0 by decide,mE]
   by_cases h:i < 0
   ·simp only[h,mE] <;> omega
   ·simp only[h,tm] <;> omega
theorem R1 (its:List Value) (lo hi:Option Int):slicePick its.toArray lo hi none=((its.drop (HT.aX its.length 0 lo)).take (HT.aX its.length its.length hi - HT.aX its.length 0 lo)).toArray:=by
 obtain⟨h1,h2,h3⟩:=R5 lo hi its.toArray.size;unfold slicePick;rw[h1,h2,h3];simp only[sliceRange_one,pick_run,cD] <;> rfl
def Nx (K:PySem.W.Frag):V->Option Int->Option Int->Hp->VK->Prop:=fun x lo hi H Q=>∃a xs,x = .ref a/\aj K H a xs /\ ∀p,H p=none->Q (.ref p) (upd H p (.lst (du xs lo hi)))
theorem rg:uY X (Nx X.K):=by
 intro pins s σ H x v vl vu lo hi sl Q I rx hs pl pu h;obtain⟨a,xs,rfl,hx,q⟩:=h;cases rx
 obtain⟨its,r,ht,hz⟩:=I.list hx;have hlen:=r.length;refine⟨"list",_,Rk.lookup,ht.isList.typeIs,?_⟩;refine wpAny_getItem_list_slice ht.isList hs pl pu .none (by simp) ?_ (by rw[cD] <;> omega)
 rw[R1,<-hlen];refine⟨.ref s.heap.objs.size,_,I.laid (t':=s.toks) (o:= .lst (du xs lo hi)) (fun b ob q=>bU _ q) (aK _) ?_,rfl,q _ (I.ay.fresh (aK _))⟩;exact⟨cK (Cc xs lo hi) hz,_,0,(r.drop (HT.aX xs.length 0 lo)).take (HT.aX xs.length xs.length hi - HT.aX xs.length 0 lo),eM _ rfl⟩
def m5:V->Bool
 |.ax=>true
 |.bl _=>true
 |.int _=>true
 |.str _=>true
 |_=>false
def qr:V->V->Bool
 |.ax,.ax=>true
 |.bl a,.bl b=>a==b
 |.bl a,.int b=>(if a then 1 else 0)==b
 |.int a,.bl b=>a==(if b then 1 else 0)
 |.int a,.int b=>a==b
 |.str a,.str b=>a==b
 |_,_=>false
theorem W4 {x:V}{v:Value} (ry:RelV y u) (rx:RelV x v) (fy:m5 y=true) (fx:m5 x=true):SeqAt.EqAt A s u v (qr y x):=by
 cases y with
 |ax =>
  cases ry
  cases x with
  |ax=>cases rx;exact SeqAt.EqAt.same _
  |bl b=>cases rx;exact SeqAt.EqAt.none_bool b
  |int b=>obtain⟨t,rfl⟩:=rx;exact SeqAt.EqAt.none_int b t
  |str b=>obtain⟨t,rfl⟩:=rx;exact SeqAt.EqAt.none_str b t
  |_=>exact absurd (show false=true from fx) cX
 |bl a =>
  cases ry
  cases x with
  |ax=>cases rx;exact SeqAt.EqAt.bool_none a
  |bl b=>cases rx;exact SeqAt.EqAt.bool_bool a b
  |int b=>obtain⟨t,rfl⟩:=rx;exact SeqAt.EqAt.bool_int a b t
  |str b=>obtain⟨t,rfl⟩:=rx;exact SeqAt.EqAt.bool_str a b t
  |_=>exact absurd (show false=true from fx) cX
 |int a =>
  obtain⟨t',rfl⟩:=ry;cases x with
  |ax=>cases rx;exact SeqAt.EqAt.int_none a t'
  |bl b=>cases rx;exact SeqAt.EqAt.int_bool a t' b
  |int b=>obtain⟨t,rfl⟩:=rx;exact SeqAt.EqAt.int_int a t' b t
  |str b=>obtain⟨t,rfl⟩:=rx;exact SeqAt.EqAt.int_str a t' b t
  |_=>exact absurd (show false=true from fx) cX
 |str a =>
  obtain⟨t',rfl⟩:=ry;cases x with
  |ax=>cases rx;exact SeqAt.EqAt.str_none a t'
  |bl b=>cases rx;exact SeqAt.EqAt.str_bool a t' b
  |int b=>obtain⟨t,rfl⟩:=rx;exact SeqAt.EqAt.str_int a t' b t
  |str b=>obtain⟨t,rfl⟩:=rx;exact SeqAt.EqAt.str_str a t' b t
  |_=>exact absurd (show false=true from fx) cX
 |_=>exact absurd (show false=true from fy) cX
def gX (x:V) (u:Value):Bool:=match u with
 |.none=>qr .ax x
 |.bool b=>qr (.bl b) x
 |.int i _=>qr (.int i) x
 |.str z _=>qr (.str z) x
 |_=>false
theorem zM {x:V} (r:RelV y u) (f:m5 y=true):gX x u=qr y x:=by
 cases y with
 |ax=>cases r;rfl
 |bl b=>cases r;rfl
 |int i=>obtain⟨t,rfl⟩:=r;rfl
 |str z=>obtain⟨t,rfl⟩:=r;rfl
 |_=>exact absurd (show false=true from f) cX
theorem wt {x:V}:∀ {xs:List V}{us:List Value},Vals xs us->xs.all m5=true->us.any (gX x)=xs.any fun y=>qr y x
 |_,_,.nil,_=>rfl
 |y::xs,u::us,.cons r t,f=>by
  rw[IE,jA]at f;rw[tq,tq,zM r f.1,wt t f.2]
theorem tV {A:Around}{s:Shared}{x:V}{v:Value} (rx:RelV x v) (fx:m5 x=true):∀ {xs:List V}{us:List Value},Vals xs us->xs.all m5=true -> ∀u∈us,SeqAt.EqAt A s u v (gX x u)
 |_,_,.nil,_=>fun u hu=>by cases hu
 |y::xs,u::us,.cons r t,f=>fun u' hu=>by
  rw[IE,jA]at f;rcases aY.mp hu with rfl|hu
  ·rw[zM r f.1];exact W4 r rx f.1 fx
  ·exact tV rx fx t f.2 u' hu
def Av (x:V) (xs:List V):Bool:=xs.any fun y=>qr y x
def Aw (K:PySem.W.Frag) (neg:Bool):R2:=fun x y H Q=>∃p xs,y = .ref p/\(aj K H p xs\/aN K H p xs)/\m5 x=true/\xs.all m5=true/\Q (.bl (if neg then !Av x xs else Av x xs)) H
theorem Cw:cN X (compareOp .In) (Aw X.K false):=by
 intro pins s σ H x y v u Q I rx ry h;obtain⟨p,xs,rfl,hq,fx,fs,q⟩:=h;cases ry
 rcases hq with hq|hq
 ·obtain⟨its,r,pl,hz⟩:=I.list hq
  refine SeqAt.in_listAt (gX x) pl.isList (fun w hw=>tV rx fx r fs w (by simpa using hw)) ⟨.bl _,H,I,rfl,?_⟩
  rw[show its.toArray.any (gX x)=its.any (gX x) by simp,wt r fs]
  exact q
 ·obtain⟨its,r,pl,hz⟩:=I.tuple hq
  refine SeqAt.in_tupleAt (gX x) pl (fun w hw=>tV rx fx r fs w (by simpa using hw)) ⟨.bl _,H,I,rfl,?_⟩
  rw[show its.toArray.any (gX x)=its.any (gX x) by simp,wt r fs]
  exact q
theorem zb:cN X (compareOp .NotIn) (Aw X.K true):=by
 intro pins s σ H x y v u Q I rx ry h;obtain⟨p,xs,rfl,hq,fx,fs,q⟩:=h;cases ry
 rcases hq with hq|hq
 ·obtain⟨its,r,pl,hz⟩:=I.list hq
  refine SeqAt.notIn_listAt (gX x) pl.isList (fun w hw=>tV rx fx r fs w (by simpa using hw)) ⟨.bl _,H,I,rfl,?_⟩
  rw[show its.toArray.any (gX x)=its.any (gX x) by simp,wt r fs]
  exact q
 ·obtain⟨its,r,pl,hz⟩:=I.tuple hq
  refine SeqAt.notIn_tupleAt (gX x) pl (fun w hw=>tV rx fx r fs w (by simpa using hw)) ⟨.bl _,H,I,rfl,?_⟩
  rw[show its.toArray.any (gX x)=its.any (gX x) by simp,wt r fs]
  exact q
theorem kX:eV X (.builtin "len") (fun xs H Q=>∃p ys,xs = [.ref p]/\(aj X.K H p ys\/aN X.K H p ys)/\Q (.int ys.length) H):=by
 intro pins s σ H xs us Q I r h;obtain⟨p,ys,rfl,hq,q⟩:=h;obtain⟨u,rfl,rx⟩:=vals1 r;cases rx
 have hn:=rq;rcases hq with hq|hq
 ·obtain⟨its,r',pl,hz⟩:=I.list hq
  have hlen:=r'.length;exact Calls.call_len_list pl.isList (by simp only[cD] <;> omega) ⟨.int ys.length,H,I.tok _,⟨s.toks+1,by rw[cD,hlen]⟩,q⟩
 ·obtain⟨its,r',pl,hz⟩:=I.tuple hq
  have hlen:=r'.length;exact len_tuple pl (by simp only[cD] <;> omega) ⟨.int ys.length,H,I.tok _,⟨s.toks+1,by rw[cD,hlen]⟩,q⟩
theorem Ca:eV X (.builtin "len") (fun xs H Q=>∃z,xs = [.str z]/\z.length<=sizeLine/\Q (.int z.length) H):=by
 intro pins s σ H xs us Q I r h;obtain⟨z,rfl,hz,q⟩:=h;obtain⟨u,rfl,t,rfl⟩:=vals1 r;have hn:=rq;exact len_str (by omega) ⟨.int z.length,H,I.tok _,⟨_,rfl⟩,q⟩
theorem vQ:eV X (.type "list") (fun xs H Q=>∃p ys,xs = [.ref p]/\(aj X.K H p ys\/aN X.K H p ys) /\ ∀l,H l=none->Q (.ref l) (upd H l (.lst ys))):=by
 intro pins s σ H xs us Q I r h;obtain⟨p,ys,rfl,hq,q⟩:=h;obtain⟨u,rfl,rx⟩:=vals1 r;cases rx
 have fin:∀ (its:List Value),Vals ys its->ys.length<=sizeLine -> ∀ (h':Heap) (c':Nat),(∀b o',s.heap.get? b=some o'->h'.get? b=some o') ->
   h'.get? s.heap.objs.size=some { cls:= .type "list",dict:=none,data:= .seq its.toArray c',slots:= #[] }->EP X pins σ Q (.ref s.heap.objs.size) { s with heap:=h' }:=fun its r' hz h' c' kp e =>
  ⟨.ref s.heap.objs.size,_,I.laid (t':=s.toks) kp (aK _) (show br X.prog X.w _ h' _ (.lst ys) from⟨hz,its,c',r',e⟩),rfl,q _ (I.ay.fresh (aK _))⟩
 rcases hq with hq|hq
 ·obtain⟨its,r',pl,hz⟩:=I.list hq
  have hlen:=r'.length;obtain⟨o,ho,hc,n,hd⟩:=pl.isList;exact call_list_seq p (.inl rfl) ho hc hd (fun h' c' kp e=>fin its r' hz h' c' kp e) (by simp only[cD] <;> omega)
 ·obtain⟨its,r',pl,hz⟩:=I.tuple hq
  have hlen:=r'.length;obtain⟨o,ho,hc,n,hd⟩:=pl;exact call_list_seq p (.inr rfl) ho hc hd (fun h' c' kp e=>fin its r' hz h' c' kp e) (by simp only[cD] <;> omega)
theorem lK:eV X (.type "tuple") (fun xs H Q=>∃p ys,xs = [.ref p]/\((aj X.K H p ys /\ ∀l,H l=none->Q (.ref l) (upd H l (.tup ys)))\/(aN X.K H p ys/\Q (.ref p) H))):=by
 intro pins s σ H xs us Q I r h;obtain⟨p,ys,rfl,h⟩:=h;obtain⟨u,rfl,rx⟩:=vals1 r;cases rx
 rcases h with⟨hq,q⟩|⟨hq,q⟩
 ·obtain⟨its,r',pl,hz⟩:=I.list hq
  have hlen:=r'.length;refine call_tuple_list pl.isList (fun h' kp=>?_) (by simp only[cD] <;> omega)
  have I1:Inv X pins σ H { s with heap:=h' }:=I.kept (t':=s.toks) kp;have I2:Inv X pins σ (upd H h'.objs.size (.tup ys)) { s with heap:=h'.push { cls:= .type "tuple",data:= .seq its.toArray } }:=
   I1.laid (t':=s.toks) (fun b o e=>bU _ e) (aK _) (show br X.prog X.w _ _ _ (.tup ys) from⟨hz,its,r',qa.new _ _⟩)
  exact⟨.ref h'.objs.size,_,I2,rfl,q _ (I1.ay.fresh (aK _))⟩
 ·obtain⟨its,r',pl,hz⟩:=I.tuple hq
  exact call_tuple_same pl ⟨.ref p,H,I,rfl,q⟩
def OD (K:PySem.W.Frag) (T:String) (x:V) (H:Hp):Prop:=match x with
 |.str _=>T = "str"
 |.int _=>T = "int"
 |.ref p=>(T = "list" /\ ∃xs,aj K H p xs)\/(T = "tuple" /\ ∃o,K.lookup p=some o/\o.cls = .type "tuple" /\ o.dict=none) \/
   (T = "dict" /\ ((∃kvs,H p=some (.dK kvs)) \/ ∃kvs,H p=some (.dT kvs)))\/(T = "set" /\ ∃S n,H p=some (.set S n))\/(T = "tuple" /\ ∃xs,Rd H p (.tup xs))
 |_=>False
theorem W5 {x:V}{v:Value} (I:Inv X pins σ H s) (r:RelV x v) (ty:OD X.K T x H) :
  s.TypeIs v T /\ ∀a,v = .ref a -> ∃ob,s.heap.get? a=some ob/\ob.dict=none:=by
 cases x with
 |str z =>
  obtain⟨t,rfl⟩:=r;cases (show T = "str" from ty)
  exact⟨typeIs_str s z t,fun _ e=>nomatch e⟩
 |int i =>
  obtain⟨t,rfl⟩:=r;cases (show T = "int" from ty)
  exact⟨typeIs_int s i t,fun _ e=>nomatch e⟩
 |ref p =>
  cases r
  rcases ty with⟨rfl,xs,hq⟩|⟨rfl,o,hk,hc,hd⟩|⟨rfl,hk⟩|⟨rfl,S,n,hk⟩|⟨rfl,xs,hq⟩
  ·obtain⟨its,_,pl,_⟩:=I.list hq
   refine⟨pl.isList.typeIs,fun a e=>?_⟩;cases e
   obtain⟨o,n,e,c,hd,_⟩:=pl;exact⟨o,e,hd⟩
  ·refine⟨⟨o,I.bc p o hk,hc⟩,fun a e=>?_⟩
   cases e
   exact⟨o,I.bc _ o hk,hd⟩
  ·have z:∃o,s.heap.get? p=some o/\o.ExactDict:=by
    rcases hk with⟨kvs,hk⟩|⟨kvs,hk⟩
    ·obtain⟨_,_,_,_,o,_,_,e,ex,_⟩:=I.ay p _ hk
     exact⟨o,e,ex⟩
    ·obtain⟨_,_,_,_,o,_,_,e,ex,_⟩:=I.ay p _ hk
     exact⟨o,e,ex⟩
   obtain⟨o,e,ex⟩:=z;refine⟨⟨o,e,ex.1⟩,fun a e2=>?_⟩;cases e2
   exact⟨o,e,ex.2.1⟩
  ·obtain⟨o,_,_,_,e,ex,_⟩:=I.ay p _ hk
   refine⟨⟨o,e,ex.1⟩,fun a e2=>?_⟩;cases e2
   exact⟨o,e,ex.2.1⟩
  ·obtain⟨_,_,_,o,e,c,_,_,hd⟩:=hq.ok I.ay
   refine⟨⟨o,e,c⟩,fun a e2=>?_⟩;cases e2
   exact⟨o,e,hd⟩
 |_=>exact False.elim ty
def tBM (K:PySem.W.Frag) (T:String) (r:V->List V->Hp->VK->Prop) (to:TE) (t:TA):TE:=fun σ H Q=>to σ H fun x H1=>OD K T x H1/\t σ H1 fun xs H2=>r x xs H2 Q
variable{o:Expr}{to:TE}{t:TA}{rM:Pos}{id:String}{r:V->List V->Hp->VK->Prop}
theorem j' (pa:PlainAttrs T) (slot:Slot T name id) (hty:typeOf (.builtin id)=pure (.type "method_descriptor")) (hm:OC X id r) (ho:PE X o to) (ha:PA X (e::es) t)
  (X5:attributeBase o name X.env (eval o X.env)=eval o X.env:=by rfl)
  (Eg:((backTo rM (starEach (e::es) X.env)).all (fun x=>!x.1) && (backToKw rM (keywordEach [] X.env)).all (fun x=>x.1.isSome)
   && decide ((e::es).length+([]:List Keyword).length+(if ([]:List Keyword).isEmpty then 0 else 1) < 30))=true:=by rfl)
  (X6:(apos.endLine==rM.line)=true:=by rfl) (hs:starEach (e::es) X.env=(false,eval e X.env)::starEach es X.env:=by rfl) (W6:(backTo rM (starEach es X.env)).any (·.1)=false:=by rfl) :
  PE X (.Call (.Attribute o name apos) (e::es) [] rM) (tBM X.K T r to t):=by
 intro pins s σ H Q I h;refine wpAny_Call_method_late X5 Eg X6 rfl (aC (ho pins s σ H _ I h) fun v s1 ⟨x,H1,I1,r1,ty,q1⟩=>?_);obtain⟨h1,h2⟩:=W5 I1 r1 ty;refine⟨T,id,pa,slot,hty,h1,h2,?_⟩;have hA:=ha rM pins s1 σ H1 _ I1 q1;rw[hs]at hA ⊢;refine Calls.callWith_builtin (by show(false || (backTo rM (starEach es X.env)).any (·.1))=false;rw[W6] <;> rfl) (Calls.evalArgs_plain ?_)
 exact aC hA fun us s2 ⟨vs,H2,I2,r2,q2⟩=>hm pins s2 σ H2 x vs v us Q I2 r1 r2 q2
end
def Fd (X:Cx) (id:String) (r:V->List V->Hp->VK->Prop):Prop:=
 ∀ (pins:List (Addr×Obj)) (s:Shared) (σ:St) (H:Hp) (x:V) (xs:List V) (v:Value) (us:List Value) (Q:VK),Inv X pins σ H s->RelV x v->Vals xs us->r x xs H Q ->
  wpAny (model X.prog X.w) X.A (call (.builtin id) (v::us)) (EP X pins σ Q) X.xe s
theorem Vals.one:∀ {x:V}{us:List Value},Vals [x] us -> ∃u,us = [u]/\RelV x u
 |_,_,.cons r .nil=>⟨_,rfl,r⟩
theorem Vals.two:∀ {x y:V}{us:List Value},Vals [x,y] us -> ∃u v,us = [u,v]/\RelV x u/\RelV y v
 |_,_,_,.cons r (.cons q .nil)=>⟨_,_,rfl,r,q⟩
theorem Vals.eraseIdx:∀ {xs:List V}{us:List Value} (i:Nat),Vals xs us->Vals (xs.eraseIdx i) (us.eraseIdx i)
 |_,_,_,.nil=>.nil
 |_,_,0,.cons _ t=>t
 |_,_,i+1,.cons r t=>.cons r (Vals.eraseIdx i t)
theorem Vals.reverse (h:Vals xs us):Vals xs.reverse us.reverse:=by
 induction h with
 |nil=>exact .nil
 |cons r t ih=>rw[IF,IF];exact Vals.append ih (.cons r .nil)
theorem Kb {α:Type}:∀ (l:List α) (i:Nat),(l.eraseIdx i).length<=l.length
 |[],_=>aK _
 |_::_,0=>pG _
 |_::r,i+1=>Nat.succ_le_succ (Kb r i)
section
variable{zs:List V}
theorem Inv.Ny {its':List Value}{f:Array Value->Array Value} (I:Inv X pins σ H s) (hH:H l=some (.lst xs))
  (e:s.heap.get? l=some { cls:= .type "list",data:= .seq its.toArray n }) (hf:f its.toArray=its'.toArray) (hv:Vals ys its') (hz:ys.length<=sizeLine) :
  Inv X pins σ (upd H l (.lst ys)) { s with heap:=s.heap.update l (Obj.mapSeq f),toks:=t' }:=by
 have q:=PySem.IsL.update e f;rw[hf]at q;refine I.write (x:=l) (e:=l) (by rw[hH];exact trivial) (.inl rfl) (fun b' u hb hu=>(jX s.heap (Obj.mapSeq f) (aH hb)).trans hu) ⟨_,q⟩ ?_
 exact⟨hz,its',_,hv,q⟩
theorem Inv.Eh (I:Inv X pins σ H s) (hv:Vals ys its) (hz:ys.length<=sizeLine) :
  Inv X pins σ (upd H s.heap.objs.size (.lst ys)) { s with heap:=s.heap.push { cls:= .type "list",data:= .seq its.toArray },toks:=t' }:=
 I.laid (fun _ _ q=>bU _ q) (aK _) ⟨hz,its,0,hv,eM _ rfl⟩
theorem Inv.fresh (I:Inv X pins σ H s):H s.heap.objs.size=none:=I.ay.fresh (aK _)
theorem Inv.xx (I:Inv X pins σ H s) (hH:H l=some (.lst xs)):xs.length<=sizeLine /\ ∃ (its:List Value) (n:Nat),Vals xs its/\xs.length=its.length/\s.heap.get? l=some { cls:= .type "list",data:= .seq its.toArray n }:=by
 obtain⟨z,its,n,r,e⟩:=I.ay l _ hH;exact⟨z,its,n,r,r.length,e⟩
end
def VW:V->List V->Hp->VK->Prop:=fun x vs H Q=>∃l xs y,x = .ref l/\vs = [y]/\H l=some (.lst xs)/\xs.length < sizeLine/\Q .ax (upd H l (.lst (xs ++ [y])))
theorem kZ:Fd X "list.append" VW:=by
 intro pins s σ H x vs v us Q I rx rv h;obtain⟨l,xs,y,rfl,rfl,hH,hz,q⟩:=h;cases rx
 obtain⟨u,rfl,ru⟩:=rv.one;obtain⟨z,its,n,r,hl,e⟩:=I.xx hH;refine IG F.slot_list_append ⟨_,e,rfl⟩ F.entry_list_append (F.args_list_append_2 _ _) (PySem.list_append l its.toArray n u (by rw[cD];omega)) ⟨e,?_⟩
 refine⟨.ax,_,I.Ny (its':=its ++ [u]) hH e (by simp) (r.append (.cons ru .nil)) ?_,rfl,q⟩
 rw[cY,gF];omega
def W7:V->List V->Hp->VK->Prop:=fun x vs H Q=>∃l xs i k y,x = .ref l/\vs = [.int i]/\H l=some (.lst xs) /\ -(2 ^ 63)<=i/\i < 2 ^ 63/\seqIndex? i xs.length=some k/\xs[k]? = some y/\Q y (upd H l (.lst (xs.eraseIdx k)))
theorem UN:Fd X "list.pop" W7:=by
 intro pins s σ H x vs v us Q I rx rv h;obtain⟨l,xs,i,k,y,rfl,rfl,hH,h1,h2,hk,hy,q⟩:=h;cases rx
 obtain⟨u,rfl,ru⟩:=rv.one;obtain⟨t,rfl⟩:=ru;obtain⟨z,its,n,r,hl,e⟩:=I.xx hH;obtain⟨w,hw,gL⟩:=r.get hy;refine IG F.slot_list_pop ⟨_,e,rfl⟩ F.entry_list_pop (F.args_list_pop_2 _ _)
  (MeetsSeq.list_pop_at l its.toArray n i t k w (fitsIndex_both h1 h2) (by rw[cD,<-hl];exact hk) (by rw[<-IH];exact hw) (by rw[cD];omega)) ⟨e,?_⟩
 refine⟨y,_,I.Ny (its':=its.eraseIdx k) hH e ?_ (r.eraseIdx k) ?_,gL,q⟩
 ·show its.toArray.eraseIdxIfInBounds k=(its.eraseIdx k).toArray
  rw[List.eraseIdxIfInBounds_toArray]
 ·have:=Kb xs k
  omega
def Nz:R2:=fun x y H Q=>∃l b xs zs,x = .ref l/\y = .ref b/\H l=some (.lst xs)/\H b=some (.lst zs)/\xs.length+zs.length<=sizeLine /\ ∀p,H p=none->Q (.ref p) (upd H p (.lst (xs++zs)))
theorem oA:cN X (binaryOp .Add) Nz:=by
 intro pins s σ H x y v u Q I rx ry h;obtain⟨l,b,xs,zs,rfl,rfl,hH,hB,hz,q⟩:=h;cases rx
 cases ry
 obtain⟨z,its,n,r,hl,e⟩:=I.xx hH;obtain⟨z2,uC,n2,r2,ji,e2⟩:=I.xx hB;refine PySem.P.add_list e e2 ?_ (by rw[cD,cD];omega)
 have ea:its.toArray++uC.toArray=(its++uC).toArray:=by simp
 rw[ea];exact⟨.ref _,_,I.Eh (t':=s.toks) (r.append r2) (by rw[cY];omega),rfl,q _ I.fresh⟩
section
variable{E:Value->Shared->Prop}
set_option maxRecDepth 100000 in
end
end L2
namespace OE
open PySem PySem.W PySem.Calls PyProof.Rows
theorem RY {P:Params}:∀ (ns:List Int) (vs:List Value),WellAll P h vs (ns.map WData.int)->IntsAre vs ns:=by
 intro ns
 induction ns with
 |nil =>
  intro vs w;rw[List.map_nil]at w;cases w
  exact .nil
 |cons n ns ih =>
  intro vs w;rw[cf]at w;cases w with
  |cons a b =>
   cases a
   exact .cons _ _ (ih _ b)
theorem TM {l:OpenLaw} (hn:l.most=some n) {P:Params}{args:List WData}{vals:List Value}
  (z9:l.row.toRowW.claim.pre args=true) (Ax:WellAll P h vals args) :
  ∃a vs ns,vals = [Value.ref a]/\args = [WData.list (ns.map WData.int)]/\h.get? a=some { cls:= .type "list",data:= .seq vs.toArray }/\IntsAre vs ns/\ns.length<=n:=by
 have hsh:WShape.hasAll [] args [.list .int]=true:=(pre_splitW z9).1;have hc:l.pre.holds [] { args:=args }=true:=(pre_splitW z9).2;obtain⟨d,r,rfl,h1,h2⟩:=hasAllW_cons hsh;obtain rfl:=hasAllW_nil h2;obtain⟨xs,rfl,h3⟩:=hasW_list h1;obtain⟨ns,rfl⟩:=items_int h3;have hlen:ns.length<=n:=by
  unfold OpenLaw.pre at hc;have h4:(WTm.not (.lt (.lit (.int (n:Int))) (.len (.arg 0)))).holds [] { args:= [.list (ns.map .int)] }=true:=by
   have h4:=(holds_andW hc).1;rw[hn]at h4;exact h4
  have h5:=condW_of h4 (w_not (w_lt w_lit (w_len_list (w_arg rfl))));rw[aE]at h5;refine Nat.le_of_not_lt fun q=>?_;have q':(n:Int) < ((ns.length:Nat):Int):=by omega
  first
   |(rw[cZ q']at h5;exact absurd h5 (by decide))
   |(simp at h5;omega)
 cases Ax with
 |cons w1 w2 =>
  cases w2
  cases w1 with
  |list ho Zq=>exact⟨_,_,ns,rfl,rfl,ho,RY ns _ Zq,hlen⟩
theorem TN (l:OpenLaw) (args:List WData):l.row.toRowW.claim.post args (.bool true) args=true:=
 postW_of (r:=l.row.toRowW) (X:=(true==true))
  (show WShape.has [] (.bool true) .bool=true by first|rfl|decide|simp[WShape.has,WShape.arms,WShape.armsAll])
  (show(WTm.eq .res (.lit (.bool true))).value [] { args:=args,res:=some (.bool true),after:=args }=some (.bool (true==true)) from w_eq_bool (w_res rfl) w_lit) rfl
theorem Si {l:OpenLaw}{d:DefRec}
  (hn:l.most=some n) (xU:d.params.defaults = [])
  (call:∀ (w:World) (cH a4:Shared) (mg mb:Str->Option Value) (fa:Addr) (o:Obj) (pm cd doc:Value) (a:Addr) (vs:List Value) (ns:List Int),
   Ground q loose [] XP w cH mg mb a4.heap->YP w a4.heap ->
   a4.heap.get? fa=some o->o.data = .func (docDef d.name d.params d.body d.scope pm cd doc)->a4.heap.CodeRec cd d.name->mg d.name=some (.ref fa) ->
   a4.heap.get? a=some { cls:= .type "list",data:= .seq vs.toArray }->IntsAre vs ns->ns.length<=n->a4.gens = #[] ->
   codeAny (model l.prog w) callerA (.call (.ref fa) ⟨[.ref a],[]⟩) (fun r s'=>r = .ok (.ret (.bool true))/\OldK a4.heap s'.heap/\s'.os=a4.os/\AllBare s'.gens) a4) :
  WalkO q loose XP YP l.row.toRowW d [] (fun f vs=>PySem.call f vs):=by
 intro w cH a4 mg mb G Y fa o pm cd doc dV kV ho hd gg hD sC hg args vals as z9 xy u3 Ax Fe;obtain rfl:dV = .none:=Dflts.none hD xU;obtain rfl:kV = .none:=Dflts.noKw hD;obtain⟨a,vs,ns,rfl,rfl,Ei,hints,hlen⟩:=TM hn z9 Ax;refine enter_call (qH (call w cH a4 mg mb fa o pm cd doc a vs ns G Y ho (fd_plain hd) gg sC Ei hints hlen hg) fun r s' hq=>?_);obtain⟨rfl,h2,h3,h4⟩:=hq;exact⟨.inl ⟨.bool true,.bool true,[],rfl,fun _=>rfl,.bool true,TN l _,fun _=>⟨List.Pairwise.nil,fun _ hm=>(nomatch hm)⟩⟩,h2,h3,h4⟩
end OE
namespace L2
open PySem PySem.Spec PyProof.Rows
theorem Kc:∀ {vs:List Value}{ns:List Int},IntsAre vs ns->Vals (ns.map V.int) vs
 |_,_,.nil=>.nil
 |_,_,.cons n t h=>.cons ⟨t,rfl⟩ (Kc h)
def Ej (H:Hp):Prop:= ∀b,H b=none \/ ∃o xs,H b=some (.cQ o (.lst xs))
theorem UO {mb:Str->Option Value}{CX:lx}{k:Nat}{fa:Addr}{a4:Shared}{vs:List Value}
  (KX:K.In a4.heap) (nH:a4.heap.Ns mainGlobals mg) (hb:a4.heap.Ns builtinsNs mb) (hbb:∀x:Str,x ≠ "__name__" -> mb x=bootBuiltins x) (NA:a4.heap.NoLimit) (hg:a4.gens = #[])
  (ha:a4.heap.get? a=some { cls:= .type "list",data:= .seq vs.toArray }) (hi:IntsAre vs ns) (hl:ns.length<=sizeLine) (hr:aS k callerA)
  (F:∀base:Heap,K.In base->base.Ns mainGlobals mg->aD P w K mg base CX k fa fd [x] sp) (X7:∀ (s:Shared) (u:Value),BindsTo s fd ⟨[u],[]⟩ [(x,u)])
  (kq:∀H:Hp,Ej H->aj K H a (ns.map V.int)->sp [.ref a] H (fun v _=>v = .bl true) fun _ _ _=>False)
  (Ff:∀H e s',CX [] H a4 (fun _ _ _=>False) e s'->False) :
  codeAny (model P w) callerA (.call (.ref fa) ⟨[.ref a],[]⟩) (fun r s'=>r = .ok (.ret (.bool true))/\OldK a4.heap s'.heap/\s'.os=a4.os/\AllBare s'.gens) a4:=by
 have rv:=Kc hi;have Zr:=hi.length;have core:∀H:Hp,Ej H->aj K H a (ns.map V.int)->cI P w H a4.heap->(∀b,H b≠none->b=a)->(H a≠none->K.lookup a=none) ->
   codeAny (model P w) callerA (.call (.ref fa) ⟨[.ref a],[]⟩) (fun r s'=>r = .ok (.ret (.bool true))/\OldK a4.heap s'.heap/\s'.os=a4.os/\AllBare s'.gens) a4:=by
  intro H hO hS ay hA hK;have LD:∀ {b:Addr}{o:Obj},a4.heap.get? b=some o->H b=none->(oH a4.heap H).get? b=some o:=fun e n=>UH e n;have xS:∀ {b:Addr}{o:Obj}{es:Array DictEntry}{ep:Nat},a4.heap.get? b=some o->o.data = .dict es ep->H b=none:=fun {b o es ep} e d=>by
   cases q:H b with
   |none=>rfl
   |some u =>
    have e':b=a:=hA b (by rw[q];simp)
    subst e';rw[ha]at e;cases e;have d':Data.seq vs.toArray _=Data.dict es ep:=d;cases d'
  have Ay:∀ {b:Addr}{m:Str->Option Value},a4.heap.Ns b m->(oH a4.heap H).Ns b m:=fun {b m} ⟨o,es,ep,e,d,r⟩=>⟨o,es,ep,LD e (xS e d),d,r⟩;have OF:K.In (oH a4.heap H):=fun b o e=>LD (KX b o e) (by
   cases q:H b with
   |none=>rfl
   |some u =>
    have e':b=a:=hA b (by rw[q];simp)
    subst e';rw[hK (by rw[q];simp)]at e;cases e)
  have hM:Mod K mg (oH a4.heap H):=⟨OF,Ay nH,⟨mb,Ay hb,hbb⟩,let ⟨mc,h1,h2⟩:=NA;⟨mc,Ay h1,h2⟩⟩;have e0:oK P w K mg (oH a4.heap H) callerA [] a4 H:=⟨rfl,hM,fun b o e=>VN e,Nat.le_of_eq (Tx _ _),trivial,fun b hb=>absurd (show b∈([]:List Addr) from hb) (by simp),ay,.of_eq hg⟩
  refine qH ((F _ OF (Ay nH)).run callerA [] a4 H ⟨[.ref a],[]⟩ [.ref a] [.ref a] _ _ hr e0 (X7 a4 (.ref a)) (.cons rfl .nil) (kq H hO hS)) fun r s' h=>?_;cases r with
  |error e=>exact(Ff H e s' h).elim
  |ok fl =>
   cases fl with
   |next=>exact False.elim h
   |brk=>exact False.elim h
   |cont=>exact False.elim h
   |ret u =>
    obtain⟨v,H',os,bare,un,Zs,r',q⟩:=h;have q':v = .bl true:=q;subst q';obtain rfl:u=Value.bool true:=r';refine⟨rfl,OldK.of_keep fun b o e=>?_,os,bare⟩;cases q:H b with
    |none=>exact un.keep b o e q (by intro z;exact absurd (show b∈([]:List Addr) from z) (by simp)) (by simp)
    |some u =>
     rcases hO b with z|⟨ob,xs,z⟩
     ·rw[q]at z;cases z
     ·have z2:=un.jH b ob _ z
      obtain⟨e1,_⟩:=ay b _ z;obtain⟨e2,_⟩:=Zs b _ z2;rw[e]at e1;cases e1;exact e2
 cases hk:K.lookup a with
 |some o =>
  have e:=KX a o hk;rw[ha]at e;cases e
  refine core (fun _=>none) (fun _=>.inl rfl) (.inr ⟨_,vs.toArray,_,hk,rfl,rfl,rfl,by rw[cD,Zr];exact hl,by simpa using rv⟩) (fun b u z=>by have z':(none:Option HO)=some u:=z;cases z') (fun b z=>absurd rfl z) fun z=>absurd rfl z
 |none =>
  refine core (fun b=>if b=a then some (.cQ { cls:= .type "list",data:= .seq vs.toArray } (.lst (ns.map V.int))) else none) (fun b=>?_) (.inl (.inr ⟨{ cls:= .type "list",data:= .seq vs.toArray },au rfl⟩)) (fun b u z=>?_) (fun b z=>?_) fun _=>hk
  ·by_cases hb:b=a
   ·exact .inr ⟨_,_,au hb⟩
   ·exact .inl (ao hb)
  ·by_cases hb:b=a
   ·have z':=(au hb).symm.trans z
    cases z'
    subst hb;exact⟨ha,by rw[aE];exact hl,vs,_,rv,ha⟩
   ·have z':=(ao hb).symm.trans z
    cases z'
  ·by_cases hb:b=a
   ·exact hb
   ·exact absurd (ao hb) z
theorem VX {l:PySem.W.OpenLaw}{k:Nat}{d:DefRec}{K:Params->PySem.W.Frag}{CX:World->lx}{sp:World->Sp}
  (hn:l.most=some n) (Az:n<=sizeLine) (xU:d.params.defaults = []) (hr:aS k callerA)
  (hY:∀ (w:World) (h:Heap),YP w h->(K w.params).In h)
  (F:∀ (w:World) (mg:Str->Option Value) (fa:Addr) (h:Heap),(K w.params).In h->h.Ns mainGlobals mg->mg d.name=some (.ref fa) ->
   ∃fd:FuncData,(∀ (s:Shared) (u:Value),BindsTo s fd ⟨[u],[]⟩ [(x,u)]) /\
    ∀base:Heap,(K w.params).In base->base.Ns mainGlobals mg->aD l.prog w (K w.params) mg base (CX w) k fa fd [x] (sp w))
  (kq:∀ (w:World) (H:Hp) (a:Addr) (ns:List Int),ns.length<=n->Ej H->aj (K w.params) H a (ns.map V.int)->sp w [.ref a] H (fun v _=>v = .bl true) fun _ _ _=>False)
  (Ff:∀ (w:World) (H:Hp) (s:Shared) (e:Value) (s':Shared),CX w [] H s (fun _ _ _=>False) e s'->False) :
  PySem.W.WalkO q loose XP YP l.row.toRowW d [] (fun f vs=>PySem.call f vs):=by
 refine OE.Si hn xU fun w cH a4 mg mb fa o pm cd doc a vs ns G Y ho hd gg sC Ei hints hlen hg=>?_;have KX:=hY w _ Y;obtain⟨fd,hb,hF⟩:=F w mg fa _ KX G.T.g sC;exact UO KX G.T.g G.T.b G.T.builtins G.T.nolimit hg Ei hints (cK hlen Az) hr hF hb (fun H hO hS=>kq w H a ns hlen hO hS) fun H e s'=>Ff w H a4 e s'
def inClass (s:Stmt) (j:Nat):Stmt:=match s with
 |.ClassDef _ _ _ body _ _ _ _ _ _ _=>body.getD j (.Pass ⟨0,0,0,0⟩)
 |_=>.Pass ⟨0,0,0,0⟩
def pN (s:Stmt):Arguments:=match s with
 |.FunctionDef _ a _ _ _ _ _ _ _ _=>a
 |_=>{ posonlyargs:= [],args:= [],vararg:=none,kwonlyargs:= [],kw_defaults:= [],kwarg:=none,defaults:= [] }
def cA (s:Stmt):List Stmt:=match s with
 |.FunctionDef _ _ b _ _ _ _ _ _ _=>b
 |_=>[]
def aM (s:Stmt):Scope:=match s with
 |.FunctionDef _ _ _ _ _ _ sc _ _ _=>sc
 |_=>{ kind:= .function,names:= [],isGenerator:=false,isCoroutine:=false }
abbrev aR:lx:=fun _ _ _ _ _ _=>False
abbrev E0:XK:=fun _ _ _=>False
theorem a7:Passes aR X E0:=fun _ _ _ _ _ _ _ h=>h.elim
structure aU (K:PySem.W.Frag) (x qual:Str) (st:Stmt) (f:Addr) (fd:FuncData):Prop where
 ex:∃ (oc:Value) (od:Option Addr) (kV doc pm:Value) (an:Option Addr) (cdv ct:Value) (nC:Array (Option Value)),
  fd=PySem.W.fnOf x qual (pN st) (cA st) (aM st) .none kV doc pm an cdv ct/\K.lookup f=some ⟨oc,od,.func fd,nC⟩/\PySem.W.codeIn K cdv qual=true
 kp:PySem.W.keepIn K (.ref f)=true
theorem aU.ok {st:Stmt}{k:Nat} (F:aU K x qual st f fd) (S:b3 N ps (aM st)) (len:∀vs H Q E,sp vs H Q E->vs.length=ps.length)
  (oF:∀ (cdv:Value) (A:Around) (outer:List Env) (s:Shared) (H:Hp) (vs:List V) (Q:VK) (E:XK),aS k (A.deeper (envOfC qual (aM st) s.heap.objs.size f cdv))->sp vs H Q E ->
   ∃t,gC (jJ aR P w K mg base N qual (aM st) f cdv A outer s H E).Aq (cA st) t/\t { nx:=fun _ H'=>Q .ax H',rt:=Q } (start N vs) H):aD P w K mg base aR (k+1) f fd ps sp:=by
 obtain⟨oc,od,kV,doc,pm,an,cdv,ct,nC,rfl,lk,gg⟩:=F.ex;refine MO lk gg S len fun A outer s H vs Q E hr kq=>?_;obtain⟨t,h,q⟩:=oF cdv A outer s H vs Q E hr kq;exact⟨t,h.Aq,q⟩
theorem aU.binds {st:Stmt} (F:aU K x qual st f fd)
  (h:∀ (kV doc pm:Value) (an:Option Addr) (cdv ct:Value) (us:List Value),us.length=ps.length->bindArgs (PySem.W.fnOf x qual (pN st) (cA st) (aM st) .none kV doc pm an cdv ct) ⟨us,[]⟩=pure (ps.zip us)):Binds K fd ps []:=by
 obtain⟨oc,od,kV,doc,pm,an,cdv,ct,nC,rfl,lk,gg⟩:=F.ex;exact .all (h kV doc pm an cdv ct)
theorem DD {st:Stmt}{kV:Value} (l:K.lookup f=some ⟨oc,od,.func (PySem.W.fnOf x qual (pN st) (cA st) (aM st) .none kV doc pm an cdv ct),nC⟩)
  (c:PySem.W.codeIn K cdv qual=true) (k:PySem.W.keepIn K (.ref f)=true):aU K x qual st f (PySem.W.fnOf x qual (pN st) (cA st) (aM st) .none kV doc pm an cdv ct):=⟨⟨oc,od,kV,doc,pm,an,cdv,ct,nC,rfl,l,c⟩,k⟩
theorem pv (i:Nat) (hN:X.N[i]? = some x:=by rfl) (hv:E5 X.env.scope x:=by first|exact Or.inl rfl|exact Or.inr (Or.inl rfl)|exact Or.inr (Or.inr rfl)) (hd:(x==("__debug__" : Str))=false:=by decide)
  (gg:(x==("__classdict__" : Str))=false:=by decide):PE X (.Name x pos) (qb i):=WT hN hv hd gg
theorem d4 {c A B:Prop} [Decidable c] (h1:c->A) (h2 : ¬ c->B):if c then A else B:=by
 by_cases h:c
 ·rw[au h]
  exact h1 h
 ·rw[ao h]
  exact h2 h
def ak (H H':Hp):Prop:= ∀b o,H b=some o->H' b=some o
theorem ak.refl (H:Hp):ak H H:=fun _ _ h=>h
theorem ak.trans (a:ak H H1) (b:ak H1 H2):ak H H2:=fun c o h=>b c o (a c o h)
theorem ak.free (e:ak H H') (h:H' l=Option.none):H l=Option.none:=by
 cases q:H l with
 |none=>rfl
 |some o =>
  rw[e l o q]at h;cases h
def gU (cells:List (Str×Addr)):List (Str×NameKind)->List (Str×Addr)->List (Str×Addr)
 |[],acc=>acc
 |(n,k)::r,acc=>if k == .free then gU cells r ((n,(cells.lookup n).getD 0)::acc) else gU cells r acc
theorem B9 (h:∀n,(n,NameKind.free)∈scope.names -> ∃c,env.cells.lookup n=some c) :
  closureFor scope env=pure (gU env.cells scope.names []):=by
 have key:∀ (names:List (Str×NameKind)) (acc:List (Str×Addr)),(∀n,(n,NameKind.free)∈names -> ∃c,env.cells.lookup n=some c) ->
   (forIn (m:=Sem) names acc fun x r=>match x with|(name,kind)=>if (kind==NameKind.free)=true then (do let a <- cellOf env name;pure (ForInStep.yield ((name,a)::r))) else pure (ForInStep.yield r))=pure (gU env.cells names acc):=by
  intro names
  induction names with
  |nil=>intro acc _;rfl
  |cons x r ih =>
   intro acc hx;obtain⟨n,k⟩:=x;rw[List.forIn_cons];unfold gU
   by_cases hk:k = .free
   ·subst hk
    obtain⟨c,hc⟩:=hx n aV;simp only[beq_self_eq_true,mE];have e:cellOf env n=pure c:=by unfold cellOf;rw[hc]
    rw[e,hc];exact ih _ fun m hm=>hx m (bV _ hm)
   ·have hb:(k==NameKind.free)=false:=by simpa using hk
    simp only[hb,BK,tm];exact ih _ fun m hm=>hx m (bV _ hm)
 unfold closureFor;have:=key scope.names [] h;show((forIn (m:=Sem) scope.names [] fun x r=>match x with|(name,kind)=>if (kind==NameKind.free)=true then (do let a <- cellOf env name;pure (ForInStep.yield ((name,a)::r))) else pure (ForInStep.yield r)) >>= fun cs=>pure cs)=_;rw[this]
 rfl
theorem tH:∀ (names:List (Str×NameKind)) (n:Nat) (acc:List (Str×Addr)),cellsFrom n names acc=cellsFrom n names []++acc
 |[],_,_=>rfl
 |(name,kind)::r,n,acc=>by
  unfold cellsFrom;split
  ·rw[tH r (n+1) ((name,n)::acc),tH r (n+1) [(name,n)],List.append_assoc];rfl
  ·exact tH r n acc
theorem zd {cells:List (Str×Addr)}:∀ (names:List (Str×NameKind)) (acc:List (Str×Addr)) (x:Str) (c:Addr),(gU cells names acc).lookup x=some c ->
  (acc.lookup x=some c)\/((x,NameKind.free)∈names/\c=(cells.lookup x).getD 0)
 |[],acc,x,c,h=>.inl h
 |(n,k)::r,acc,x,c,h=>by
  unfold gU at h;split at h
  ·rename_i hk
   have gY:k = .free:=by simpa using hk
   subst gY;rcases zd r _ x c h with z|⟨z,e⟩
   ·rw[iU]at z
    cases hb:x==n with
    |true=>rw[hb]at z;cases z;rw[eN.mp hb];exact .inr ⟨aV,rfl⟩
    |false=>rw[hb]at z;exact .inl z
   ·exact .inr ⟨bV _ z,e⟩
  ·rcases zd r _ x c h with z|⟨z,e⟩
   ·exact .inl z
   ·exact .inr ⟨bV _ z,e⟩
theorem Cy {cells:List (Str×Addr)}:∀ (names:List (Str×NameKind)) (acc:List (Str×Addr)) (x:Str),(∃c,acc.lookup x=some c) -> ∃c,(gU cells names acc).lookup x=some c
 |[],acc,x,h=>h
 |(n,k)::r,acc,x,h=>by
  unfold gU;split
  ·refine Cy r _ x ?_
   obtain⟨c,h⟩:=h;rw[iU];cases hb:x==n with
   |true=>exact⟨_,rfl⟩
   |false=>exact⟨c,h⟩
  ·exact Cy r _ x h
theorem zk {cells:List (Str×Addr)}:∀ (names:List (Str×NameKind)) (acc:List (Str×Addr)) (x:Str),(x,NameKind.free)∈names -> ∃c,(gU cells names acc).lookup x=some c
 |[],acc,x,h=>by simp at h
 |(n,k)::r,acc,x,h=>by
  unfold gU;rcases aY.mp h with e|h
  ·cases e
   simp only[beq_self_eq_true,mE];exact Cy r _ _ ⟨(cells.lookup n).getD 0,by rw[iU];simp⟩
  ·split
   ·exact zk r _ x h
   ·exact zk r _ x h
theorem y8:∀ (names:List (Str×NameKind)) (n:Nat) (acc:List (Str×Addr)) (x:Str) (c:Addr),(x,c)∈cellsFrom n names acc->(x,c)∈acc\/(x,NameKind.cell)∈names
 |[],_,_,_,_,h=>.inl h
 |(name,kind)::r,n,acc,x,c,h=>by
  unfold cellsFrom at h;split at h
  ·rename_i hk
   have gY:kind = .cell:=by simpa using hk
   subst gY;rcases y8 r _ _ x c h with z|z
   ·rcases aY.mp z with e|z
    ·cases e;exact .inr aV
    ·exact .inl z
   ·exact .inr (bV _ z)
  ·rcases y8 r _ _ x c h with z|z
   ·exact .inl z
   ·exact .inr (bV _ z)
structure cj (N:List Str) (OG:Scope) (N':List Str) (cE:List (Option Nat)) (sc:Scope):Prop where
 kind:sc.kind = .function
 keys:(sc.names.map (·.1)).Nodup
 nd:N'.Nodup
 len:cE.length=N'.length
 fv:∀ (j i:Nat),cE[j]? = some (some i) -> ∃x,N[i]? = some x/\N'[j]? = some x/\sc.names.lookup x=some .free
 free:∀p∈sc.names,p.2 = .free->OG.names.lookup p.1=some .cell\/OG.names.lookup p.1=some .free
theorem tJ {α:Type}:∀ {l:List (Str×α)},(l.map (·.1)).Nodup -> ∀ {x:Str}{k:α},(x,k)∈l->l.lookup x=some k
 |(n,v)::r,hn,x,k,h=>by
  obtain⟨h1,h2⟩:=gE.mp hn;rw[iU];rcases aY.mp h with e|hm
  ·cases e;simp
  ·have:(x==n)=false:=by
    rw[pA];intro e;exact h1 (bw.mpr ⟨_,hm,e⟩)
   rw[this];exact tJ h2 hm
def CQ (scope:Scope) (L:Addr) (env:Env):Env:=
 { scope:=relabel scope env,locals:=L,globals:=env.globals,cells:=cellsFrom (L+1) scope.names (gU env.cells scope.names []),qual:=env.qual,func:=none,code:=env.code,frame:=env.frame,builtins:=env.builtins }
theorem Jw {M:Model}{E:Value->Shared->Prop}{globals:Addr}{cl:List (Str×Addr)}{Q:Env->Shared->Prop}
  (hQ:∀h',h'.Ns s.heap.objs.size (fun _=>none)->(∀b o,s.heap.get? b=some o->h'.get? b=some o)->(∀x c,(x,c)∈cellsFrom (s.heap.objs.size+1) scope.names []->h'.IsCell c none/\s.heap.objs.size < c) ->
   ((cellsFrom (s.heap.objs.size+1) scope.names []).Pairwise fun x y=>x.2≠y.2) ->
   Q { scope:=scope,locals:=s.heap.objs.size,globals:=globals,cells:=cellsFrom (s.heap.objs.size+1) scope.names cl,qual:=qual,func:=none,code:=env.code,frame:=env.frame,builtins:=env.builtins } { s with heap:=h' }) :
  wpAny M A (newFunctionEnv scope globals cl [] qual none .none (some env)) Q E s:=by
 simp only[newFunctionEnv,Option.isSome_some,mE];refine ag (wpAny_alloc ?_);refine ag (wpAny_layCells _ (fun name kind cells=>by cases hkc:kind==NameKind.cell <;> simp[hkc]) _ _ _ _ ?_)
 have ok:=cellsFrom_ok scope.names (s.heap.push { cls:= .type "dict",data:= .dict #[] }) (s.heap.objs.size+1) [] ⟨fun _ _ hm=>(nomatch hm),List.Pairwise.nil⟩ (by rw[yP];exact aK _)
 rw[yP]at ok;rw[show({ s with heap:=s.heap.push { cls:= .type "dict",data:= .dict #[] } }:Shared).heap.objs.size=s.heap.objs.size+1 from yP ..];rw[List.forIn_nil];refine ag (aA (aA ?_));exact hQ _ ((Heap.Ns.new s.heap (.type "dict")).keeps (pushCells_keeps _ _)) (fun b o e=>pushCells_keeps _ _ b o (bU _ e)) (fun x c hm=>⟨(ok.empty x c hm).1,(ok.empty x c hm).2⟩) ok.apart
def cU (X:Cx) (N':List Str) (scope:Scope) (s2:Shared) (H2:Hp) (fp:List Addr):Cx:=
 { X with N:=N',cH:=s2,jb:=H2,env:=CQ scope s2.heap.objs.size X.env,outer:=X.stack,stack:=X.stack,ex:=fp,fn:=fun x=>scope.names.lookup x==some .cell,pn:= [],xe:=fun _ _=>False }
theorem B8 {env:Env}:∀ {names:List (Str×NameKind)}{x:Str}{k:NameKind},
  (names.map fun(n,k)=>if (k==NameKind.free && env.scope.kind == .function && env.kindOf n==some .cell) then (n,NameKind.cell) else (n,k)).lookup x=some k ->
  ∃k0,names.lookup x=some k0/\(k=k0\/(k0 = .free/\k = .cell))
 |[],_,_,h=>by simp at h
 |(n,k0)::r,x,k,h=>by
  have ih:=@B8 env r x k;have h':List.lookup x ((if (k0==NameKind.free && env.scope.kind == .function && env.kindOf n==some .cell)=true then (n,NameKind.cell) else (n,k0))::_)=some k:=h;rw[iU]
  by_cases hc:(k0==NameKind.free && env.scope.kind == .function && env.kindOf n==some .cell)=true
  ·rw[au hc,iU]at h'
   cases hx:x==n with
   |true =>
    rw[hx]at h';cases h';have:k0 = .free:=by
     have z:=hc;rw[jA,jA]at z
     simpa using z.1.1
    exact⟨k0,rfl,.inr ⟨this,rfl⟩⟩
   |false=>rw[hx]at h';exact ih h'
  ·rw[ao hc,iU]at h'
   cases hx:x==n with
   |true=>rw[hx]at h';cases h';exact⟨k0,rfl,.inl rfl⟩
   |false=>rw[hx]at h';exact ih h'
theorem B7 {env:Env}:∀ {names:List (Str×NameKind)}{x:Str},names.lookup x=some .free ->
  (names.map fun(n,k)=>if (k==NameKind.free && env.scope.kind == .function && env.kindOf n==some .cell) then (n,NameKind.cell) else (n,k)).lookup x=some .cell \/
  (names.map fun(n,k)=>if (k==NameKind.free && env.scope.kind == .function && env.kindOf n==some .cell) then (n,NameKind.cell) else (n,k)).lookup x=some .free
 |[],_,h=>by simp at h
 |(n,k0)::r,x,h=>by
  have ih:=@B7 env r x;show List.lookup x ((if (k0==NameKind.free && env.scope.kind == .function && env.kindOf n==some .cell)=true then (n,NameKind.cell) else (n,k0))::_)=_\/List.lookup x ((if (k0==NameKind.free && env.scope.kind == .function && env.kindOf n==some .cell)=true then (n,NameKind.cell) else (n,k0))::_)=_;rw[iU]at h;cases hx:x==n with
  |true =>
   rw[hx]at h;cases h
   by_cases hc:(NameKind.free==NameKind.free && env.scope.kind == .function && env.kindOf n==some .cell)=true
   ·rw[au hc,iU,hx];exact .inl rfl
   ·rw[ao hc,iU,hx];exact .inr rfl
  |false =>
   rw[hx]at h
   by_cases hc:(k0==NameKind.free && env.scope.kind == .function && env.kindOf n==some .cell)=true
   ·rw[au hc,iU,hx];exact ih h
   ·rw[ao hc,iU,hx];exact ih h
def pick (cE:List (Option Nat)) (σ:St):St:=cE.map fun o=>o.bind fun i=>(σ[i]?).join
theorem zl (I:Inv X pins σ H s2) (S:cj X.N X.env.scope N' cE scope) (hx:(x,NameKind.free)∈scope.names):∃c,X.env.cells.lookup x=some c:=
 I.ok.has x (S.free _ hx rfl)
theorem SW (I:Inv X pins σ H s2) (S:cj X.N X.env.scope N' cE scope) {c:Addr} (h:(cellsFrom n scope.names (gU X.env.cells scope.names [])).lookup x=some c) :
  ((x,c)∈cellsFrom n scope.names []/\(x,NameKind.cell)∈scope.names)\/((x,NameKind.free)∈scope.names/\X.env.cells.lookup x=some c):=by
 rw[tH,Rm]at h;cases e:(cellsFrom n scope.names []).lookup x with
 |some d =>
  rw[e]at h;have z:d=c:=by simpa using h
  subst z;have m:=pF e;rcases y8 _ _ _ _ _ m with z|z
  ·simp at z
  ·exact .inl ⟨m,z⟩
 |none =>
  rw[e]at h;have h':(gU X.env.cells scope.names []).lookup x=some c:=by simpa using h
  rcases zd _ _ _ _ h' with z|⟨z,e2⟩
  ·simp at z
  ·obtain⟨c0,h0⟩:=zl I S z
   rw[h0]at e2;exact .inr ⟨z,by rw[h0,e2];rfl⟩
theorem KU (I:Inv X pins σ H s2) (S:cj X.N X.env.scope N' cE scope) (AA:∀b∈fp,gb X pins H b) (hfo:∀b∈fp,∃o,s2.heap.get? b=some o)
  (hn:h'.Ns s2.heap.objs.size (fun _=>none)) (hk:∀b o,s2.heap.get? b=some o->h'.get? b=some o)
  (hc:∀x c,(x,c)∈cellsFrom (s2.heap.objs.size+1) scope.names []->h'.IsCell c none/\s2.heap.objs.size < c) (hp:(cellsFrom (s2.heap.objs.size+1) scope.names []).Pairwise fun x y=>x.2≠y.2) :
  Inv (cU X N' scope s2 H fp) [] (pick cE σ) H { s2 with heap:=h' }:=by
 have old:∀ {x:Str}{c:Addr},X.env.cells.lookup x=some c->c < s2.heap.objs.size:=fun {x c} e=>let ⟨_,q⟩:=I.cell x c e;q.lt;have cc:∀ {x:Str}{c:Addr},(cU X N' scope s2 H fp).env.cells.lookup x=some c->((x,c)∈cellsFrom (s2.heap.objs.size+1) scope.names []/\(x,NameKind.cell)∈scope.names)\/((x,NameKind.free)∈scope.names/\X.env.cells.lookup x=some c):=
  fun {x c} e=>SW I S e
 have isc:∀ {x:Str}{c:Addr},(cU X N' scope s2 H fp).env.cells.lookup x=some c -> ∃v,h'.IsCell c v:=fun {x c} e=>by
  rcases cc e with⟨m,_⟩|⟨_,e0⟩
  ·exact⟨_,(hc x c m).1⟩
  ·obtain⟨v,q⟩:=I.cell x c e0
   exact⟨v,q.keeps hk⟩
 have jO:∀b∈fp,b < s2.heap.objs.size:=fun b hb=>let ⟨_,e⟩:=hfo b hb;aW e;refine⟨⟨I.ok.mod,S.kind,I.ok.glob,I.ok.blt,aK _,fun x y c e1 e2=>?_,fun x hx=>?_,fun x c hx e=>?_,I.ok.hd,I.ok.frames,.inl rfl,fun b hb=>⟨bT (jO b hb),fun x c e z=>?_⟩,I.bs,?_,fun b o e hb=>?_,fun b hb xV=>?_,I.stack,I.zF⟩,
  rfl,I.bare,Un.kept hk,⟨_,hn,fun j x v e1 e2 e3=>?_⟩,fun x c e=>isc e,I.ay.fresh (aK _),fun x c e=>?_,fun p hp=>absurd (show p∈([]:List (Addr×Obj)) from hp) (by simp),I.ay.kept hk,?_⟩
 ·rcases cc e1 with⟨m1,_⟩|⟨_,o1⟩ <;> rcases cc e2 with⟨m2,_⟩|⟨_,o2⟩
  ·exact name_of_addr hp m1 m2
  ·exact absurd (vL (hc _ _ m1).2 (old o2)) (pB _)
  ·exact absurd (vL (hc _ _ m2).2 (old o1)) (pB _)
  ·exact I.ok.inj x y c o1 o2
 ·have hk0:∃k0,scope.names.lookup x=some k0/\(k0 = .cell\/k0 = .free):=by
   rcases hx with hx|hx
   ·obtain⟨k0,e,z⟩:=B8 (env:=X.env) hx
    refine⟨k0,e,?_⟩;rcases z with z|z
    ·exact .inl z.symm
    ·exact .inr z.1
   ·obtain⟨k0,e,z⟩:=B8 (env:=X.env) hx
    refine⟨k0,e,?_⟩;rcases z with z|z
    ·exact .inr z.symm
    ·exact .inr z.1
  obtain⟨k0,e,z⟩:=hk0;show ∃c,(cellsFrom (s2.heap.objs.size+1) scope.names (gU X.env.cells scope.names [])).lookup x=some c;rw[tH,Rm];rcases z with rfl|rfl
  ·obtain⟨c,oR⟩:=CO (n:=s2.heap.objs.size+1) e
   exact⟨c,by rw[oR];rfl⟩
  ·cases q:(cellsFrom (s2.heap.objs.size+1) scope.names []).lookup x with
   |some d=>exact⟨d,rfl⟩
   |none =>
    obtain⟨c,oR⟩:=zk (cells:=X.env.cells) scope.names [] x (pF e);exact⟨c,by rw[oR];rfl⟩
 ·have ff:scope.names.lookup x=some .cell:=by simpa [cU] using hx
  rcases cc e with⟨m,_⟩|⟨m,_⟩
  ·exact vG (hc _ _ m).2
  ·rw[tJ S.keys m]at ff;cases ff
 ·rcases cc e with⟨m,_⟩|⟨_,o1⟩
  ·have:=jO b hb
   rw[<-z]at this;exact absurd (vL (hc _ _ m).2 this) (pB _)
  ·exact(AA b hb).2.2.2.2.1 x c o1 z
 ·exact cK I.ok.ko I.sz
 ·rcases (AA b hb).2.2.2.1 with z|z
  ·exact I.ok.oJ b o e z
  ·exact absurd (gx (aW (I.ok.bs b o e).1) z) (pB _)
 ·have:=I.wF b xV
  rcases aY.mp this with z|z
  ·exact(AA b hb).2.1 z
  ·exact(AA b hb).2.2.1 z
 ·
  have xW:(cE[j]?).bind (fun o=>some (o.bind fun i=>(σ[i]?).join))=some (some v):=by
   have xX:(cE.map fun o=>o.bind fun i=>(σ[i]?).join)[j]? = some (some v):=e2;rw[f6]at xX;cases q:cE[j]? with
   |none=>rw[q]at xX;cases xX
   |some o=>rw[q]at xX;exact xX
  cases q:cE[j]? with
  |none=>rw[q]at xW;cases xW
  |some o =>
   rw[q]at xW;cases o with
   |none=>simp at xW
   |some i =>
    have u4:(σ[i]?).join=some v:=by simpa using xW
    have e4:σ[i]? = some (some v):=by
     cases q2:σ[i]? with
     |none=>rw[q2]at u4;cases u4
     |some z=>rw[q2]at u4;rw[show z=some v from u4]
    obtain⟨y,mh,xY,xZ⟩:=S.fv j i q;have exy:x=y:=by
     have OH:N'[j]? = some x:=e1;rw[xY]at OH;exact(fZ OH).symm
    subst exy;obtain⟨m,hm,hl⟩:=I.loc;have hf:=S.free _ (pF xZ) rfl;obtain⟨u,r,lk⟩:=hl i x v mh e4 (by rcases hf with z|z;exact .inr (.inl z);exact .inr (.inr z))
    refine⟨u,r,.inr ⟨B7 xZ,?_⟩⟩;rcases lk with⟨k,_⟩|⟨_,c,ec,ic⟩
    ·have k':X.env.scope.names.lookup x=some .local:=k
     rcases hf with z|z <;> (rw[z]at k';cases k')
    ·refine⟨c,?_,ic.keeps hk⟩
     show(cellsFrom (s2.heap.objs.size+1) scope.names (gU X.env.cells scope.names [])).lookup x=some c;rw[tH,Rm];cases q3:(cellsFrom (s2.heap.objs.size+1) scope.names []).lookup x with
     |some d =>
      rcases y8 _ _ _ _ _ (pF q3) with z|z
      ·simp at z
      ·rw[tJ S.keys z]at xZ;cases xZ
     |none =>
      obtain⟨c',oR⟩:=zk (cells:=X.env.cells) scope.names [] x (pF xZ);rcases zd _ _ _ _ oR with z|⟨_,e5⟩
      ·simp at z
      ·rw[ec]at e5
       rw[oR,e5];rfl
 ·rcases cc e with⟨m,_⟩|⟨_,o1⟩
  ·exact I.ay.fresh (vG (hc _ _ m).2)
  ·exact I.ir x c o1
 ·show(cE.map _).length=N'.length
  rw[aE,S.len]
def rN (X:Cx) (ifs:List Expr) (t:TT):Prop:=
 ∀ (pins:List (Addr×Obj)) (s:Shared) (σ:St) (H:Hp) (Q:Bool->Hp->Prop),Inv X pins σ H s->t σ H Q ->
  wpAny (model X.prog X.w) X.A (forIn ifs true fun c r=>if r=true then do let ok <- isTrue c X.env (eval c X.env);pure (ForInStep.yield ok) else pure (ForInStep.yield r)) (TP X pins σ Q) X.xe s
def xi:TT:=fun _ H Q=>Q true H
theorem iZ:rN X [] xi:=fun _ _ _ H _ I h=>wpAny_tests_nil ⟨H,I,h⟩
theorem i3 {c:Expr}{t:TT} (h:PT X c t):rN X [c] t:=fun pins s σ H Q I hw=>wpAny_tests_one (h pins s σ H Q I hw)
theorem Jj {target:Expr}{it acc:Value} (I:Nat->Shared->Prop)
  (turn:∀n s,I n s->wpAny (model prog w) A (pyNext it) (fun r s1=>match r with
   |none=>R (.ok .next) s1
   |some v=>wpAny (model prog w) A (letOwnedTupleGo target it v) (fun _ s2=>wpAny (model prog w) A (assign target env v) (fun _ s3 =>
     wpAny (model prog w) A (forIn ifs true fun c r=>if r=true then do let ok <- isTrue c env (eval c env);pure (ForInStep.yield ok) else pure (ForInStep.yield r)) (fun ok s4 =>
      if ok=true then wpAny (model prog w) A (eval elt env) (fun x s5 =>
       wpAny (model prog w) A (call (.builtin "list.append") [acc,x]) (fun _ s6=>∃m,m < n/\I m s6) (fun _ _=>False) s5) (fun _ _=>False) s4
      else ∃m,m < n/\I m s4) (fun _ _=>False) s3) (fun _ _=>False) s2) (fun _ _=>False) s1) (fun _ _=>False) s)
  (n:Nat) (h:I n s) :
  codeAny (model prog w) A (.compLoop (.ListComp elt [⟨target,iter,ifs,0⟩] scope pos) 0 it acc env) R s:=by
 refine codeAny_loop rfl I (fun n s hI=>?_) n h;show wpAny _ A ((compTurn (.ListComp elt [⟨target,iter,ifs,0⟩] scope pos) 0 it acc env).onRaise (fun x=>do noteFrame x env;theTreesLotGoes x)) _ _ s;refine wpAny_noted (Rn ?_);rw[compTurn_list];refine ag (pD (ag (aC (turn n s hI) fun r s1 h1=>?_)));cases r with
 |none=>exact aA h1
 |some v =>
  refine ag (aC h1 fun _ s2 h2=>ag (aC h2 fun _ s3 h3=>ag (aC h3 fun ok s4 h4=>?_)));cases ok with
  |false=>exact aA ⟨rfl,h4⟩
  |true=>exact ag (ag (aC h4 fun x s5 h5=>ag (aC h5 fun _ s6 h6=>aA (aA ⟨rfl,h6⟩))))
def kc (J:It) (g:TG) (ti:TT) (te:TE) (jP:St) (Q:VK) (p:Addr) (H1:Hp):Prop:=
 ∃W:Nat->Nat->List V->St->Hp->Prop,(∃m,W 0 m [] jP (upd H1 p (.lst []))) /\ ∀i m ys τ H2,W i m ys τ H2->H2 p=some (.lst ys) /\
  ((J.stop i H2/\Q (.ref p) H2)\/(J.go i H2 /\ ∀x H3,J.qo i H2 x H3->g x τ H3 fun cT H4=>ti cT H4 fun b H5 =>
   if b=true then te cT H5 fun y H6=>H6 p=some (.lst ys)/\ys.length < sizeLine /\ ∃m',m' < m/\W (i+1) m' (ys ++ [y]) cT (upd H6 p (.lst (ys ++ [y])))
   else ∃m',m' < m/\W (i+1) m' ys cT H5))
def DV (wi:TI) (cE:List (Option Nat)) (g:TG) (ti:TT) (te:TE):TE:=fun σ H Q=>wi σ H fun J H1=>∀p,H1 p=none->kc J g ti te (pick cE σ) Q p H1
def CompEnd (X:Cx) (pins:List (Addr×Obj)) (σ:St) (Q:VK) (acc:Value) (C:Addr) (s':Shared):Prop:=
 ∃ (p:Addr) (H':Hp),acc = .ref p/\Inv X pins σ H' s'/\gb X pins H' C/\(∃m,s'.heap.Ns C m)/\Q (.ref p) H'
theorem Kd {J:It}{tn:Nat->Heap->Prop}{g:TG}{E:Value->Shared->Prop}{RR:Value->Addr->Result->Shared->Prop} (hc:X.calm=true) (S:cj X.N X.env.scope N' cE scope)
  (I2:Inv X pins σ H2 s2) (T:Turn X.prog X.w X.K tg J fp it tn) (st:tn 0 s2.heap) (hf:∀b∈fp,gb X pins H2 b)
  (hb:∀s H fp,PG (cU X N' scope s H fp) tg g/\rN (cU X N' scope s H fp) ifs ti/\PE (cU X N' scope s H fp) elt te)
  (hw:∀p,H2 p=none->kc J g ti te (pick cE σ) Q p H2) (hR:∀acc C s',CompEnd X pins σ Q acc C s'->RR acc C (.ok .next) s') :
  wpAny (model X.prog X.w) X.A (newList []) (fun acc s3=>wpAny (model X.prog X.w) X.A (newFunctionEnv scope X.env.globals (gU X.env.cells scope.names []) [] X.env.qual none .none (some X.env)) (fun xA s4 =>
   codeAny (model X.prog X.w) X.A (.compStart (.ListComp elt [⟨tg,iter,ifs,0⟩] scope pos) 0 (.ref it) acc { xA with scope:=relabel scope X.env }) (RR acc xA.locals) s4) E s3) E s2:=by
 refine qG ?_;have I3:Inv X pins σ (upd H2 s2.heap.objs.size (.lst [])) { s2 with heap:=s2.heap.push { cls:= .type "list",data:= .seq ([]:List Value).toArray } }:=
  I2.Eh (its:= []) (t':=s2.toks) .nil (bX _)
 have hp:=hw s2.heap.objs.size I2.fresh;generalize e3:({ s2 with heap:=s2.heap.push { cls:= .type "list",data:= .seq ([]:List Value).toArray } }:Shared)=s3 at I3 ⊢;generalize eH:upd H2 s2.heap.objs.size (.lst [])=H3 at I3 hp;have jO:∀b∈fp,b < s2.heap.objs.size:=fun b hb=>let ⟨_,e,_⟩:=T.obj _ _ st b hb;aW e;have get3:∀b o,s2.heap.get? b=some o->s3.heap.get? b=some o:=fun b o e=>by rw[<-e3];exact bU _ e
 have qp:tn 0 s3.heap:=T.keep _ _ _ st fun b _ o e=>get3 b o e;have gM:∀b∈fp,gb X pins H3 b:=fun b hb=>⟨by rw[<-eH,ai (bT (jO b hb))];exact(hf b hb).1,(hf b hb).2⟩
 have Fg:∀b∈fp,∃o,s3.heap.get? b=some o:=fun b hb=>let ⟨o,e,_⟩:=T.obj _ _ qp b hb;⟨o,e⟩;refine Jw fun h4 hn hk gZ Fh=>?_;have I4:Inv (cU X N' scope s3 H3 fp) [] (pick cE σ) H3 { s3 with heap:=h4 }:=KU I3 S gM Fg hn hk gZ Fh;have x4:tn 0 ({ s3 with heap:=h4 }:Shared).heap:=T.keep _ _ _ qp fun b _ o e=>hk b o e;obtain⟨hG,hI,hE⟩:=hb s3 H3 fp;obtain⟨W,⟨m0,w0⟩,turn⟩:=hp;rw[eH]at w0;have lW:∀ {H':Hp},(∀b∈fp,H' b=none) -> ∀b∈fp,gb (cU X N' scope s3 H3 fp) [] H' b:=fun hn b hb =>
  ⟨hn b hb,(I4.ok.nD b hb).1,I4.ok.ng b hb,.inl hb,fun x c e=>(I4.ok.nD b hb).2 x c e,fun p hp=>absurd (show p∈([]:List (Addr×Obj)) from hp) (by simp)⟩
 have loop:codeAny (model X.prog X.w) X.A (.compLoop (.ListComp elt [⟨tg,iter,ifs,0⟩] scope pos) 0 (.ref it) (.ref s2.heap.objs.size) (CQ scope s3.heap.objs.size X.env))
   (RR (.ref s2.heap.objs.size) s3.heap.objs.size) { s3 with heap:=h4 }:=by
  refine Jj (fun n s'=>∃i ys τ H',Inv (cU X N' scope s3 H3 fp) [] τ H' s'/\tn i s'.heap/\(∀b∈fp,H' b=none)/\W i n ys τ H') ?_ m0 ⟨0,[],_,H3,I4,x4,fun b hb=>(gM b hb).1,w0⟩;rintro n s5 ⟨i,ys,τ,H5,I5,oU,sk,w5⟩;obtain⟨x5,w5⟩:=turn i n ys τ H5 w5;rcases w5 with⟨stop,qn⟩|⟨go,step⟩
  ·refine aC (T.done (cU X N' scope s3 H3 fp) rfl rfl rfl hc i [] s5 τ H5 _ I5 (lW sk) oU stop) fun r s6 ⟨hr,I6⟩=>?_
   subst hr;refine hR _ _ _ ⟨_,H5,rfl,?_,?_,?_,qn⟩
   ·exact I3.w9 (s':=s6) (ch:=fp) I6.os I6.base I6.ay I6.bare fun b hb=>⟨(gM b hb).2.2.2.1,(gM b hb).2.1,(gM b hb).2.2.2.2.1,(gM b hb).2.2.2.2.2⟩
   ·exact I3.lq (aK _) I6.free
   ·obtain⟨m,hm,_⟩:=I6.loc
    exact⟨m,hm⟩
  ·refine aC (T.item (cU X N' scope s3 H3 fp) rfl rfl rfl hc i [] s5 τ H5 _ I5 (lW sk) oU go) fun r s6 ⟨u,hr,h6⟩=>?_
   subst hr;refine aC h6 fun _ s7 ⟨x,H7,I7,r7,y7,sD,Fi⟩=>?_;have Fj:=I7.pinned (lW Fi) (T.obj _ _ sD);refine aC (hG _ s7 τ H7 x u _ Fj r7 (step x H7 y7)) fun _ s8 ⟨sE,H8,I8,q8⟩=>?_;refine aC (hI _ s8 sE H8 _ I8 q8) fun b s9 ⟨H9,I9,q9⟩=>?_;have again:∀ {gN:St}{H':Hp}{s':Shared}{eW:List V}{m':Nat},Inv (cU X N' scope s3 H3 fp) ([]++ud fp s7.heap) gN H' s'->m' < n->W (i+1) m' eW gN H' ->
     ∃m,m < n /\ ∃i ys τ H',Inv (cU X N' scope s3 H3 fp) [] τ H' s'/\tn i s'.heap/\(∀b∈fp,H' b=none)/\W i m ys τ H':=fun {gN H' s' eW m'} I' hm w'=>by
    refine⟨m',hm,i+1,eW,gN,H',I'.vY,T.keep _ _ _ sD fun b hb o e=>(I'.pin (b,o) (fq _ (fq _ (tM hb e)))).1,fun b hb=>?_,w'⟩;obtain⟨o,e,d⟩:=T.obj _ _ sD b hb;exact(I'.pin (b,o) (fq _ (fq _ (tM hb e)))).2.1
   cases b with
   |false =>
    obtain⟨m',hm,w'⟩:=q9;exact again I9 hm w'
   |true =>
    refine aC (hE _ s9 sE H9 _ I9 q9) fun y Fl ⟨z,x6,Fn,Fo,Ek,El,m',hm,w'⟩=>?_;refine aC (kZ _ Fl sE x6 (.ref s2.heap.objs.size) [z] (.ref s2.heap.objs.size) [y] (fun _ H'=>H'=upd x6 s2.heap.objs.size (.lst (ys ++ [z]))) Fn rfl (.cons Fo .nil) ⟨_,_,_,rfl,rfl,Ek,El,rfl⟩) fun _ s11 ⟨_,Fp,Fq,_,sF⟩=>?_;subst sF;exact again Fq hm w'
 exact codeAny_compStart_list loop (T.self X.A 0 _ _ _ x4 loop)
theorem eQ {wi:TI}{g:TG} (hc:X.calm=true) (S:cj X.N X.env.scope N' cE scope) (hi:PI X tg iter wi)
  (hb:∀s H fp,PG (cU X N' scope s H fp) tg g/\rN (cU X N' scope s H fp) ifs ti/\PE (cU X N' scope s H fp) elt te)
  (hs:∀x,foldedSetIterable iter X.env x=pure x:=by intro _;rfl):PE X (.ListComp elt [⟨tg,iter,ifs,0⟩] scope pos) (DV wi cE g ti te):=by
 intro pins s σ H Q I h;rw[eval_ListComp];refine Ro (use:=none) rfl hs (B9 fun n hn=>zl I S hn) S.kind (fun x hx hl=>tJ S.keys (by rw[<-hl];exact hx)) ?_
 refine aC (hi pins s σ H _ I h) fun v s1 h1=>aC h1 fun sh s2 h2=>?_;obtain⟨it,fp,tn,J,H2,e,I2,T,gW,f2,hw⟩:=h2;subst e;refine Kd (RR:=fun acc C=>compPost (model X.prog X.w) X.A X.xe none (EP X pins σ Q) acc C) hc S I2 T gW f2 hb hw ?_;rintro acc C s' ⟨p,H',rfl,I',fC,⟨m,hm⟩,q⟩;refine⟨m,hm,fun h' jQ=>⟨.ref p,H',?_,rfl,q⟩⟩;exact I'.turned (it:=C) (t':=s'.toks) (fun b o hb e=>(jQ.2 b hb).trans e) fC.1 fC.2.1 fC.2.2.2.1 fC.2.2.2.2.1 fC.2.2.2.2.2
theorem zh {wi:TI}{g:TG}{NB:Pos} (hc:X.calm=true) (S:cj X.N X.env.scope N' cE scope) (hN:X.N.Nodup) (hx:X.N[i]? = some x) (hl:X.env.scope.names.lookup x=some .local) (hi:PI X tg iter wi)
  (hb:∀s H fp,PG (cU X N' scope s H fp) tg g/\rN (cU X N' scope s H fp) ifs ti/\PE (cU X N' scope s H fp) elt te)
  (hsw:swapsWith (.ListComp elt [⟨tg,iter,ifs,0⟩] scope pos) (some (.Name x pos')) NB.line X.env=pure true:=by rfl)
  (hs:∀x,foldedSetIterable iter X.env x=pure x:=by intro _;rfl):PS X (.Assign [.Name x pos'] (.ListComp elt [⟨tg,iter,ifs,0⟩] scope pos) NB) (z7 (DV wi cE g ti te) (m4 i)):=by
 intro pins s σ H D I h;rw[exec_Assign_Name_used _ _ _ _ hsw];refine ag (pD (ag ?_));show wpAny _ X.A (do let _ <- comprehension (.ListComp elt [⟨tg,iter,ifs,0⟩] scope pos) scope X.env _ (newList []) false (eval iter X.env) (some (assign (.Name x pos') X.env))) _ _ s;refine ag (aC (Ro (use:=some (assign (.Name x pos') X.env)) (Q:=fun _ s'=>SP X pins D .next s') rfl hs (B9 fun n hn=>zl I S hn) S.kind (fun x hx hl=>tJ S.keys (by rw[<-hl];exact hx)) ?_) fun _ s' hq=>aA (aA hq))
 refine aC (hi pins s σ H _ I h) fun v s1 h1=>aC h1 fun sh s2 h2=>?_;obtain⟨it,fp,tn,J,H2,e,I2,T,gW,f2,hw⟩:=h2;subst e;refine Kd (Q:=fun v H'=>D.nx (σ.set i (some v)) H') (RR:=fun acc C=>compPost (model X.prog X.w) X.A X.xe (some (assign (.Name x pos') X.env)) (fun _ s'=>SP X pins D .next s') acc C) hc S I2 T gW f2 hb hw ?_;rintro acc C s' ⟨p,H',rfl,I',fC,⟨m,hm⟩,q⟩;show wpAny (model X.prog X.w) X.A (assign (.Name x pos') X.env (.ref p)) _ _ s';refine wpAny_assign_Name (JW (v:= .ref p) I' hN hx (.inl hl) rfl (fun mf I'' ⟨a,hsb,ha⟩=>?_) (.inr hl));have Fs:C≠a:=by
  rcases ha with ha|ha
  ·rw[ha];exact fC.2.1
  ·exact fun z=>fC.2.2.2.2.1 _ _ ha z.symm
 refine⟨m,hm.sameBut hsb Fs,fun h' jQ=>⟨_,H',?_,q⟩⟩;exact I''.turned (it:=C) (t':=mf.toks) (fun b o hb e=>(jQ.2 b hb).trans e) fC.1 fC.2.1 fC.2.2.2.1 fC.2.2.2.2.1 fC.2.2.2.2.2
end L2
namespace L2
open PySem PySem.Spec PyProof.Rows PySem.W PySem.Builtin.ObjectAttr
def lh (h:Heap) (C:Addr) (us:List Value):Heap:=(h.push { cls:= .type "tuple",data:= .seq us.toArray }).push { cls:= .ref C,data:= .fields #[.ref h.objs.size,.none,.none,.none,.bool false,.none] }
theorem tL {o:Obj} (e:h.get? b=some o):(lh h C us).get? b=some o:=bU _ (bU _ e)
theorem Cz:(lh h C us).get? (h.objs.size+1)=some { cls:= .ref C,data:= .fields #[.ref h.objs.size,.none,.none,.none,.bool false,.none] }:=by
 unfold lh;heap_get
section
variable{E:Value->Shared->Prop}{gs:Array GenState}{dr:Drawn}{tk:Nat}{os:OsState}
variable{qn:Str}{N:Addr}{bases up AB:List Value}{uD:Bool}{sl:List Str}{subs:List Value}{NC:Bool}{ND:Option Bool}{e0 e1 e2 e3 e5:Option Value}{B AD OI:String}
variable{mN:Str->Option Value}{oI:Obj}
theorem RV {Q:Fin->Shared->Prop} (F:ExcBaseFacts B AD OI AB) (T:OwnTail h AB up) (atC:h.get? C=some (excClassObj cn qn C N bases up uD sl subs NC ND od e0 e1 e2 e3 e5 AD)) (Ft:h.Ns N mN)
  (hi:mN "__init__" = some (.ref fI)) (cg:h.get? fI=some oI) (Fu:oI.cls = .type "function") (a6:us.length<=sizeLine)
  (run:wpAny (model P w) A (call (.ref fI) (.ref (h.objs.size+1)::us)) (fun r s'=>r = .none/\Q (.done (.ret (.ref (h.objs.size+1)))) s') E ⟨lh h C us,gs,dr,tk,os⟩) :
  wpAny (model P w) A (Builtin.«type.__call__» ⟨.ref C::us,[]⟩) Q E ⟨h,gs,dr,tk,os⟩:=by
 repeat (first|with_reducible refine BL atC ?_|with_reducible refine wpAny_madeBy_exc atC ?_|wp_step)
 refine codeAny_call_builtin_code (II _ F.quiet) (wpAny_check_new_subT F T atC (codeAny_exc_new_subT F T atC ?_ a6));show wpAny _ _ _ _ _ (⟨lh h C us,gs,dr,tk,os⟩:Shared);have NF:(lh h C us).get? C=_:=tL atC;have atE:(lh h C us).get? (h.objs.size+1)=_:=Cz;have has:(Value.ref C::up).contains (.ref C)=true:=List.contains_iff_mem.mpr aV;unfold isInstance
 repeat (first|with_reducible refine BL atE ?_|(with_reducible refine wpAny_isSubtype_exc NF ?_;rw[has])|wp_step)
 refine wpAny_typeLookup_tail (mN:=mN) NF (Ft.keeps fun _ _ e=>tL e) (T.keeps fun _ _ e=>tL e) F.mroIs F.init.lookup ?_;rw[hi];refine eu (ag (show wpAny _ _ (bindSpecial _ _) _ _ _ from ?_));unfold bindSpecial;refine ag (qJ (T:= "function") ⟨oI,tL cg,Fu⟩ ?_);rw[au (show _ from by decide)]
 refine aA (ag (aC run fun r s' hr=>?_));obtain⟨rfl,q⟩:=hr
 wp_walk
 exact q
theorem Jn {Q:Value->Shared->Prop} (F:ExcBaseFacts B AD OI AB) (T:OwnTail h AB up) (atC:h.get? C=some (excClassObj cn qn C N bases up uD sl subs NC ND od e0 e1 e2 e3 e5 AD)) (Ft:h.Ns N mN)
  (hi:mN "__init__" = some (.ref fI)) (cg:h.get? fI=some oI) (Fu:oI.cls = .type "function") (a6:us.length<=sizeLine)
  (run:wpAny (model P w) (A.under (.builtin "type.__call__" ⟨.ref C::us,[]⟩)) (call (.ref fI) (.ref (h.objs.size+1)::us)) (fun r s'=>r = .none/\Q (.ref (h.objs.size+1)) s') E ⟨lh h C us,gs,dr,tk,os⟩) :
  wpAny (model P w) A (call (.ref C) us) Q E ⟨h,gs,dr,tk,os⟩:=by
 have l1:=tc_lookup;have l2:=tc_bind (.ref C);have ty:(⟨h,gs,dr,tk,os⟩:Shared).TypeIs (.ref C) "type" :=⟨_,atC,rfl⟩;refine pE (Rp (show wpAny _ _ (callAny (.ref C) _) _ _ _ from ?_))
 repeat (any_goals (first|assumption|with_reducible refine BL atC ?_|wp_step))
 exact⟨rfl,codeAny_call_builtin_at (II _ (by decide +kernel)) entry_typeCall (wpAny_check_type_call_sub atC (RV F T atC Ft hi cg Fu a6 run))⟩
end
abbrev AE:List Value:= [.type "ValueError",.type "Exception",.type "BaseException",.type "object"]
def dj (K:Frag) (C:Addr) (i:Option Value):Bool:=
  match K.lookup C with
  |some ⟨.type "type",_,.cls cls,slots⟩ =>
    (match cls.mro,slots.toList with
     |.ref C'::up,[_,_,_,_,some (.builtin n),_]=>C'==C && (n == "ValueError.__new__" && (!cls.hasDel && (tailIn K AE up && (nsOkIn K cls.ns && nsIn K cls.ns "__init__" == some i))))
     |_,_=>false)
  |_=>false
theorem SX {N:Addr}{mp:Str->Option Value}{n:Str}{v:Value} (X:K.In h) (G:h.Ns N mp) (e:nsIn K N n=some (some v)):mp n=some v:=by
 obtain⟨ob,ens,_,at_,da,_,look⟩:=G;unfold nsIn at e;split at e
 next _ _ _ _ _ q =>
  have two:=X _ _ q;rw[at_]at two;cases two;cases da
  split at e
  next en he =>
   cases e
   rw[<-look,nsFind,findBy,<-Array.find?_toList,he];rfl
  next=>split at e <;> cases e
 next=>cases e
structure ExcAt (h:Heap) (C:Addr) (i:Option Value):Prop where
 ex:∃bm N nm q bs Aa sn sub ab col dd k0 k1 k2 k3 k5 mN,h.get? C=some (excClassObj nm q C N bs bm Aa sn sub ab col dd k0 k1 k2 k3 k5 "ValueError.__new__")/\h.Ns N mN/\mN "__init__" = i/\OwnTail h AE bm
theorem qU {i:Option Value} (X:K.In h) (q:dj K C i=true):ExcAt h C i:=by
 unfold dj at q;split at q
 next od cls slots at_ =>
  split at q
  next C' up a0 a1 a2 a3 n a5 em es =>
   obtain⟨p1,q⟩:=jY.mp q;obtain⟨p2,q⟩:=jY.mp q;obtain⟨p3,q⟩:=jY.mp q;obtain⟨p4,q⟩:=jY.mp q;obtain⟨p5,p6⟩:=jY.mp q;have e1:=eN.mp p1;have e2:=eN.mp p2;have e3:cls.hasDel=false:=by simpa using p3
   have e6:=eN.mp p6;subst e1 e2;obtain⟨nm,bs,mro,ns,qn,hd,sn,sb,ab,col,del⟩:=cls;have em':mro=_:=em;have u4:del=false:=e3;subst em' u4;obtain rfl:slots = #[a0,a1,a2,a3,some (.builtin "ValueError.__new__"),a5]:=by cases slots;exact eY Array.mk es
   refine⟨⟨up,ns,nm,qn,bs,hd,sn,sb,ab,col,od,a0,a1,a2,a3,a5,h.nsMap ns,X _ _ at_,.of_isNs (isNs_of_in X p5),?_,tail_of_in X p4⟩⟩;cases i with
   |none=>exact nsMap_none_of_in X p5 e6
   |some v=>exact SX X (.of_isNs (isNs_of_in X p5)) e6
  next=>cases q
 next=>cases q
def uk:List Value->Bool
 |.ref _::r=>uk r
 |l=>l==AE
theorem Sj:∀ {l:List Value},uk l=true->l=AE \/ ∃a r,l = .ref a::r/\uk r=true
 |[],e=>.inl (eN.mp e)
 |.ref a::r,e=>.inr ⟨a,r,rfl,e⟩
 |.none::r,e=>.inl (eN.mp e)
 |.bool b::r,e=>.inl (eN.mp e)
 |.int i t::r,e=>.inl (eN.mp e)
 |.float i t::r,e=>.inl (eN.mp e)
 |.str i t::r,e=>.inl (eN.mp e)
 |.bytes i t::r,e=>.inl (eN.mp e)
 |.type i::r,e=>.inl (eN.mp e)
 |.builtin i::r,e=>.inl (eN.mp e)
theorem UP (self:Value) (l:List Value):uk l=true->refuseLoop self "__setattr__" l=pure ():=by
 induction l with
 |nil=>intro e;exact absurd e (by decide)
 |cons v r ih =>
  intro e;rcases Sj e with q|⟨a,r',q,e'⟩
  ·rw[q];kernel_rfl
  ·cases q
   rw[refuseLoop_ref];exact ih e'
structure df (K:Frag) (C:Addr):Prop where
 ga:findIn K (.ref C) "__getattribute__" = some (some (.builtin "BaseException.__getattribute__"))
 gh:findIn K (.ref C) "__getattr__" = some none
 sa:findIn K (.ref C) "__setattr__" = some (some (.builtin "object.__setattr__"))
 hd:hasDictIn K C=true
 ov:((clsIn K C).any fun cd=>uk cd.mro)=true
 be:mroIn K C (.type "BaseException")=some true
 ve:mroIn K C (.type "ValueError")=some true
 ob:mroIn K C (.type "object")=some true
 ka:findIn K (.ref C) "__class__" = some (some (.builtin "object.__class__"))
 kn:specialIn K (.builtin "object.__class__") "__get__" = some (some (.builtin "getset_descriptor.__get__"))
 kt:takesIn K (.builtin "object.__class__")=some true
section
variable{E:Value->Shared->Prop}{x:Addr}{od:Option Obj}
theorem Ke {v:Value} (X:K.In s.heap) (I:InstAt s.heap x ox C od) (c:df K C) (no:findIn K (.ref C) name=some none)
  (go:wpAny (model prog w) A.in1 (storeInOwnDict (.ref x) (.ref C) (.str name tk) name v false) (fun fin s'=>match fin with|.done f=>R (.ok f) s'|.again c'=>c'.quiet=true/\codeAny (model prog w) A c' R s') (fun e s'=>R (.error e) s') s) :
  codeAny (model prog w) A (.call (.builtin "object.__setattr__") ⟨[.ref x,.str name tk,v],[]⟩) R s:=by
 obtain⟨cls,ic,ok⟩:=yQ c.ov;have ty:Looks (model prog w) s.heap (typeOf (.ref x)) (.ref C):=I.type;have up:Looks (model prog w) s.heap (mroOf (.ref C)) cls.mro:=Looks.andThen (looks_clsIn X ic) Looks.now;have X8:Looks (model prog w) s.heap (typeLookup (.ref C) name) none:=looks_findIn X no;refine IJ BM.slot.plain BM.entry (@check_slot (model prog w) _ _ s _ _ _ (.ref x) [.str name tk,v] [] _ BM.kind BM.split (ty.andThen (BN X c.ob)) (BM.args _ _ _) ?_);rw[osa_eq,refuse_eq];refine ag (ag (ty.here (ag (up.here ?_))));rw[UP _ _ ok];refine aA (show wpAny _ _ _ _ _ s from ?_);exact ag (ty.here (ag (X8.here (ag (aA go)))))
theorem Kf {fill expr:Bool}{Q:Value->Shared->Prop} (X:K.In s.heap) (I:InstAt s.heap x ox C od) (c:df K C)
  (h:wpAny (model prog w) A.in1 (Builtin.«object.__getattribute__» ⟨[.ref x,.str name tk],[]⟩) (fun fin s'=>match fin with|.done (.ret v)=>wpAny (model prog w) A (handedOut v) Q E s'|_=>False) (fun _ _=>False) s) :
  wpAny (model prog w) A (getAttrBy (.ref x) (.str name tk) fill expr) Q E s:=by
 have L0:=I.type (M:=model prog w);have L1:=looks_findIn (M:=model prog w) X c.ga;have L2:=looks_findIn (M:=model prog w) X c.gh;have sub:Looks (model prog w) s.heap (isInstance (.ref x) (.type "BaseException")) true:=I.type.andThen (BN X c.be);have hx2:(Value.builtin "BaseException.__getattribute__" == Value.builtin "object.__getattribute__")=false:=by decide +kernel
 have qt:(onTheHeap (Value.ref C) && Value.builtin "BaseException.__getattribute__" == Value.builtin "object.__getattribute__")=false:=by rw[hx2];rfl
 have hk:builtinKind "BaseException.__getattribute__" = some .slot:=by decide +kernel
 have W8:splitId "BaseException.__getattribute__" = some ("BaseException","__getattribute__"):=by decide +kernel
 unfold getAttrBy;refine eu (ag (L0.here (ag (L1.here ?_))))
 dsimp only
 rw[qt];show wpAny _ _ (getAttrByItsOwn _ _ _ _ _ _) _ _ _;unfold getAttrByItsOwn hookBefore;refine ag ?_;rw[au (show onTheHeap (Value.ref C)=true from rfl)];refine L2.here (ag (IK (eu ?_)));unfold callGetattribute;rw[ao (show ¬ (expr && onTheHeap (Value.builtin "BaseException.__getattribute__"))=true by cases expr <;> decide)]
 unfold boundAndCalled;rw[ahD.ga.bind];refine ag (aA (pE (IJ ahD.ga.plain PySem.F.entry_bexc_ga (@check_slot (model prog w) _ _ s "BaseException.__getattribute__" "BaseException" "__getattribute__" (.ref x) [.str name tk] [] _ hk W8 sub (PySem.F.args_bexc_ga _ _) ?_))));refine nV h (fun fin s' z=>?_) fun _ _ z=>z.elim;rcases fin with(_|_|_|_)|_ <;> first|exact z|exact z.elim
theorem TQ {v:Value}{Q:Fin->Shared->Prop} (X:K.In s.heap) (I:InstAt s.heap x ox C od) (hf:findObj K C od name=some (.value v)) (h:Q (.done (.ret v)) s) :
  wpAny (model prog w) A (Builtin.«object.__getattribute__» ⟨[.ref x,.str name tk],[]⟩) Q E s:=by
 have L0:=I.type (M:=model prog w);have L1:=looks_find (M:=model prog w) X I hf;refine ag (aA (ag (aA (ag (L0.here (ag (L1.here ?_)))))));exact aA h
theorem VY {expr:Bool}{v:Value}{Q:Value->Shared->Prop} (X:K.In s.heap) (I:InstAt s.heap x ox C od) (c:df K C) (hf:findObj K C od name=some (.value v)) (hh:handedIn v=true)
  (h:Q v { s with toks:=s.toks+1 }):wpAny (model prog w) A (getAttr (.ref x) name expr) Q E s:=by
 unfold getAttr;refine ag (wpAny_mkText ?_);exact Kf (s:={ s with toks:=s.toks+1 }) X I c (TQ (s:={ s with toks:=s.toks+1 }) X I hf (handed_on hh h))
theorem TU {Q:Option Value->Shared->Prop} (X:K.In s.heap) (I:InstAt s.heap x ox C od) (c:df K C) (h:Q (some (.ref C)) { s with toks:=s.toks+1 }):wpAny (model prog w) A (getAttr? (.ref x) "__class__") Q E s:=by
 have hf:findObj K C od "__class__" = some (.bind (.builtin "getset_descriptor.__get__") (.builtin "object.__class__")):=by
  obtain⟨cd,hc,_⟩:=yQ c.hd;unfold findObj;rw[hc,IL,c.ka,IL]
  dsimp only
  rw[c.kn,IL]
  dsimp only
  rw[c.kt,IL]
 unfold getAttr? getAttrBy?;refine ag (wpAny_mkText (ag (IK ?_)));have L0:=I.type (M:=model prog w);have L1:=looks_find (M:=model prog w) X I hf;refine Kf (s:={ s with toks:=s.toks+1 }) X I c ?_;refine ag (aA (ag (aA (ag (IM (s:={ s with toks:=s.toks+1 }) L0 (ag (IM (s:={ s with toks:=s.toks+1 }) L1 ?_)))))));show wpAny _ _ (holding [.builtin "object.__class__"] (call (.builtin "getset_descriptor.__get__") [.builtin "object.__class__",.ref x,.ref C]) >>= ret) _ _ _;refine ag (eu (pE (class_get (s:={ s with toks:=s.toks+1 }) (ox:=ox) (od:=od) X I c.ob ?_)));exact aA (handed_on rfl (aA h))
theorem SY {M:Model} (X:K.In h) (c:df K C):Looks M h (isType (.ref C)) true:=by
 obtain⟨cls,ic,_⟩:=yQ c.hd;unfold clsIn at ic;split at ic
 next at_ =>
  intro A' Q' E' s' k q;exact ag (yR (part:=some headPart) (k _ _ (X _ _ at_)) (aA q))
 next=>cases ic
theorem zv (c:df K C):KitX K (.ref x) (.ref C) (fun h=>InstAt h x ox C od) where
 ty:=fun _ _ _ I=>I.type
 it:=fun _ _ X _=>SY X c
 ne:=fun h tp _ _ _ _ X tup=>by
  obtain⟨cls,ic,_⟩:=yQ c.hd;cases q:(Value.ref C == .ref tp) with
  |false=>rfl
  |true =>
   have e:C=tp:=Value.ref.inj (eN.mp q);unfold clsIn at ic;split at ic
   next at_ =>
    have two:=(X _ _ at_).symm;rw[e,tup]at two;cases two
   next=>cases ic
 ca:=fun X I k=>TU X I c k
end
theorem br.there (x:br P w H h a o):∃ob,h.get? a=some ob:=by
 cases o with
 |lst xs=>obtain⟨_,_,_,_,e⟩:=x;exact⟨_,e⟩
 |tup xs=>obtain⟨_,_,_,ob,e,_⟩:=x;exact⟨_,e⟩
 |dK kvs=>obtain⟨_,_,_,_,o,_,_,e,_⟩:=x;exact⟨_,e⟩
 |dT kvs=>obtain⟨_,_,_,_,o,_,_,e,_⟩:=x;exact⟨_,e⟩
 |set S n=>obtain⟨o,_,_,_,e,_⟩:=x;exact⟨_,e⟩
 |ins C dx fs=>obtain⟨_,_,_,e,_⟩:=x;exact⟨_,e⟩
 |own y=>exact x
 |xd fs=>obtain⟨_,⟨_,_,_,e,_⟩,_⟩:=x;exact⟨_,e⟩
 |xK lo hi=>obtain⟨_,_,_,e⟩:=x;exact⟨_,e⟩
 |cQ ob u=>obtain⟨e,_⟩:=x;exact⟨_,e⟩
 |oP ps=>exact⟨_,x⟩
 |met f y=>exact⟨_,x⟩
 |ext φ=>exact x.2.1
theorem Inv.zN (I:Inv X pins σ H s) (e:s.heap.get? a=none):H a=none:=by
 cases q:H a with
 |none=>rfl
 |some u =>
  obtain⟨ob,z⟩:=(I.ay a u q).there;rw[e]at z;cases z
theorem Inv.put (I:Inv X pins σ H s) (k:∀b u,s.heap.get? b=some u->h'.get? b=some u) (e:s.heap.get? a=none) (new:br X.prog X.w (upd H a o) h' a o):Inv X pins σ (upd H a o) { s with heap:=h' }:=by
 have hn:=I.zN e;have ne:∀b u,s.heap.get? b=some u->b≠a:=fun b u q z=>by rw[z,e]at q;cases q
 refine I.un (t':=s.toks) ⟨fun b u q n _ _=>k b u q,fun b u q n _ _=>⟨u.slots,k b u q⟩,fun b u q n _=>by rw[ai (ne b u q)];exact n,fun b u q _=>⟨u,k b u q⟩,fun b xs q=>by rw[ai (aq q hn)];exact q,
  fun b u v q=>by rw[ai (aq q hn)];exact q,fun b ps q=>⟨#[],by rw[ai (aq q hn),q];simp⟩⟩ fun b u q=>?_
 by_cases hb:b=a
 ·subst hb;rw[af]at q;cases q;exact new
 ·rw[ai hb]at q
  exact(I.ay b u q).fE (fun c v _ z=>k c v z) (fun c z=>by rw[ai (aq z hn)];exact z) fun c xs z=>by rw[ai (aq z hn)];exact z
def bE (C:Addr) (dx:Option Addr) (a:Addr):HO:= .ext fun h=>∃t,h.get? a=some { cls:= .ref C,dict:=dx,data:= .fields #[.ref t,.none,.none,.none,.bool false,.none] }
def dv (d:Addr) (fs:List (Str×V)):HO:= .ext fun h=>fs.length<=100 /\ ∃mA,h.Ns1 d mA/\(∀f,ix (fs.lookup f) (mA f))/\PySem.Within mA (fs.map (·.1))
section
variable{fs:List (Str×V)}
theorem wu (e:h.get? a=some { cls:= .ref C,dict:=dx,data:= .fields #[.ref t,.none,.none,.none,.bool false,.none] }):br P w H h a (bE C dx a):=
 ⟨⟨t,e⟩,⟨_,e⟩,fun _ _ ⟨t,q⟩ k=>⟨t,k _ q⟩⟩
theorem LF (z:fs.length<=100) (n:h.Ns1 d mA) (r:∀f,ix (fs.lookup f) (mA f)) (wi:PySem.Within mA (fs.map (·.1))):br P w H h d (dv d fs):=
 ⟨⟨z,mA,n,r,wi⟩,(let ⟨o,_,_,e,_⟩:=n;⟨o,e⟩),fun _ _ ⟨z,mA,n,r⟩ k=>⟨z,mA,n.at k,r⟩⟩
end
section
variable{E:Value->Shared->Prop}{fs:List (Str×V)}{f:Str}
theorem Inv.excAt (I:Inv X pins σ H s) (e:H a=some (bE C dx a)):∃t,s.heap.get? a=some { cls:= .ref C,dict:=dx,data:= .fields #[.ref t,.none,.none,.none,.bool false,.none] }:=(I.ay a _ e).1
theorem Inv.wx (I:Inv X pins σ H s) (e:H d=some (dv d fs)):fs.length<=100 /\ ∃mA,s.heap.Ns1 d mA/\(∀f,ix (fs.lookup f) (mA f))/\PySem.Within mA (fs.map (·.1)):=(I.ay d _ e).1
theorem S' {Q:Unit->Shared->Prop} (I:Inv X pins σ H s) (e:H a=some (bE C none a)) (c:df X.K C) (no:findIn X.K (.ref C) f=some none) (ry:RelV y u)
  (h:∀d s',H d=none->d≠a->Inv X pins σ (upd (upd H d (dv d [(f,y)])) a (bE C (some d) a)) s'->Q () s'):wpAny (model X.prog X.w) A (setAttr (.ref a) f u) Q E s:=by
 obtain⟨t,at_⟩:=I.excAt e;have J:InstAt s.heap a _ C none:=⟨at_,rfl,rfl,True.intro⟩;refine PySem.W.set_plain I.bc J c.sa (Ke (s:={ s with toks:=s.toks+1 }) I.bc J c no ?_);obtain⟨cls,ic,uD⟩:=yQ c.hd;refine ag (aA (ag (show wpAny _ _ (instanceDict a true) _ _ _ from ?_)));refine ag (yR (s:={ s with toks:=s.toks+1 }) at_ (ag (IM (s:={ s with toks:=s.toks+1 }) (looks_clsIn I.bc ic) ?_)));rw[uD];refine ag (wpAny_alloc ?_);have fresh:s.heap.get? s.heap.objs.size=none:=vH (aK _);have na:a≠s.heap.objs.size:=bT (aW at_);have kx:(s.heap.push { cls:= .type "dict",data:= .dict #[] }).get? a=_:=bU _ at_;refine ag (wpAny_update (s:={ s with heap:=s.heap.push { cls:= .type "dict",data:= .dict #[] },toks:=s.toks+1 }) kx (aA ?_));generalize eh:(s.heap.push { cls:= .type "dict",data:= .dict #[] }).update a (fun o=>{ o with dict:=some s.heap.objs.size })=h1;have at2:h1.get? a=some { cls:= .ref C,dict:=some s.heap.objs.size,data:= .fields #[.ref t,.none,.none,.none,.bool false,.none] }:=by
  rw[<-eh];exact qK _ kx rfl
 have OJ:∀b o,b≠a->s.heap.get? b=some o->h1.get? b=some o:=fun b o hb q=>by
  rw[<-eh,jX _ _ (aH hb)];exact bU _ q
 have dAt:h1.get? s.heap.objs.size=some { cls:= .type "dict",data:= .dict #[] }:=by
  rw[<-eh,jX _ _ na];exact eM _ rfl
 have n0:h1.Ns1 s.heap.objs.size (fun _=>none):=Heap.Ns1.of_empty ⟨_,#[],_,dAt,rfl,(fun e he=>absurd he (by simp)),fun _=>rfl⟩
 refine ag (aA (ag (wpAny_nsSet1 (s:={ s with heap:=h1,toks:=s.toks+1 }) n0 fun h2 n2 sb=>?_)));have w0:PySem.Within (fun _=>none) ([]:List Str):=fun g hg=>absurd rfl hg;obtain⟨oD,esD,epD,AF,Fv,Fw⟩:=n2.count (PySem.Within.cons f u w0);refine ag (wpAny_lookBehind AF (by rw[Fv];exact pastItsLine_dict (cK Fw (by rw[cO,yS,aI];decide))) (aA ?_))
 refine h s.heap.objs.size _ (I.zN fresh) (aH na) ?_;have AG:=I.zN fresh;have aia:∀b o,b≠a->s.heap.get? b=some o->h2.get? b=some o:=fun b o hb q=>(sb.2 b (fun z=>by rw[z,fresh]at q;cases q)).trans (OJ b o hb q)
 have OK:h2.get? a=_:=(sb.2 a na).trans at2;have heD:upd H s.heap.objs.size (dv s.heap.objs.size [(f,y)]) a=some (bE C none a):=by rw[ai na];exact e
 have I1:Inv X pins σ (upd H a (bE C (some s.heap.objs.size) a)) { s with heap:=h1,toks:=s.toks+1 }:=by
  refine I.write (x:=a) (e:=a) (by rw[e];exact True.intro) (.inl rfl) (fun b u hb q=>OJ b u hb q) ⟨_,at2⟩ (wu at2)
 have u6:upd H a (bE C (some s.heap.objs.size) a) s.heap.objs.size=none:=by rw[ai (aH na)];exact AG
 have cm:upd (upd H s.heap.objs.size (dv s.heap.objs.size [(f,y)])) a (bE C (some s.heap.objs.size) a)=upd (upd H a (bE C (some s.heap.objs.size) a)) s.heap.objs.size (dv s.heap.objs.size [(f,y)]):=by
  funext b
  unfold upd
  by_cases h1:b=a
  ·subst h1;rw[au rfl,ao na,au rfl]
  ·rw[ao h1]
   by_cases h2:b=s.heap.objs.size
   ·rw[au h2,au h2]
   ·rw[ao h2,ao h2,ao h1]
 rw[cm];have qu:upd H a (bE C (some s.heap.objs.size) a) a=some (bE C (some s.heap.objs.size) a):=af;have fp:gb X pins (upd H a (bE C (some s.heap.objs.size) a)) s.heap.objs.size:=by
  have z:=I.lq (H':=upd H a (bE C (some s.heap.objs.size) a)) (aK _) u6;exact z
 have I2:Inv X pins σ (upd H a (bE C (some s.heap.objs.size) a)) { s with heap:=h2,toks:=s.toks+2 }:=
  Inv.turned (s:={ s with heap:=h1,toks:=s.toks+1 }) (h':=h2) I1 (it:=s.heap.objs.size) (t':=s.toks+2) (fun b o hb q=>(sb.2 b hb).trans q) fp.1 fp.2.1 fp.2.2.2.1 fp.2.2.2.2.1 fp.2.2.2.2.2
 refine⟨I2.ok,I2.os,I2.bare,?_,I2.loc,I2.cell,?_,?_,?_,?_,I2.len⟩
 ·have B:=I2.base
  have nb:∀b o,X.cH.heap.get? b=some o->b ∉ X.ex->b≠s.heap.objs.size:=fun b o q hx z=>by
   obtain⟨o',q'⟩:=I.base.there b o q hx;rw[z,fresh]at q';cases q'
  refine⟨B.keep,B.slot,fun b o q n hx=>by rw[ai (nb b o q hx)];exact B.free b o q n hx,B.there,fun b xs q=>?_,fun b o u q=>?_,fun b ps q=>?_⟩
  ·have z:=B.kf b xs q;rw[ai (aq z u6)];exact z
  ·have z:=B.jH b o u q;rw[ai (aq z u6)];exact z
  ·obtain⟨m,z⟩:=B.kh b ps q;exact⟨m,by rw[ai (aq z u6)];exact z⟩
 ·rw[ai (aH fp.2.1)];exact I2.free
 ·intro x c q;rw[ai (fp.2.2.2.2.1 x c q)];exact I2.ir x c q
 ·intro p hp
  obtain⟨p1,p2,p3,p4,p5⟩:=I2.pin p hp;exact⟨p1,by rw[ai (fp.2.2.2.2.2 p hp)];exact p2,p3,p4,p5⟩
 ·intro b o q
  by_cases hb:b=s.heap.objs.size
  ·subst hb
   rw[af]at q;cases q;refine LF (by simp) n2 (fun g=>?_) (fun g hg=>?_)
   ·show ix (List.lookup g [(f,y)]) (if g=f then some u else none)
    rw[iU]
    by_cases q:g=f
    ·rw[au q,eN.mpr q];exact ry
    ·rw[ao q,pA.mpr q];exact True.intro
   ·by_cases q:g=f
    ·rw[q];simp
    ·exact absurd (ao q) hg
  ·rw[ai hb]at q
   exact(I2.ay b o q).fE (fun _ _ _ z=>z) (fun c z=>by rw[ai (aq z u6)];exact z) fun c xs z=>by rw[ai (aq z u6)];exact z
theorem Sk {Q:Unit->Shared->Prop} (I:Inv X pins σ H s) (e:H a=some (bE C (some d) a)) (ed:H d=some (dv d fs)) (c:df X.K C) (no:findIn X.K (.ref C) f=some none) (ry:RelV y u) (a6:fs.length < 100)
  (h:∀s',Inv X pins σ (upd H d (dv d (iN f y fs))) s'->Q () s'):wpAny (model X.prog X.w) A (setAttr (.ref a) f u) Q E s:=by
 obtain⟨t,at_⟩:=I.excAt e;obtain⟨_,mA,n,r,wi⟩:=I.wx ed;obtain⟨od,mi,look⟩:=tO n;have J:InstAt s.heap a _ C (some od):=⟨at_,rfl,rfl,mi⟩;refine PySem.W.set_plain I.bc J c.sa (Ke (s:={ s with toks:=s.toks+1 }) I.bc J c no ?_);obtain⟨cls,ic,uD⟩:=yQ c.hd;refine ag (aA (ag (show wpAny _ _ (instanceDict a true) _ _ _ from ?_)));refine ag (yR (s:={ s with toks:=s.toks+1 }) at_ (ag (IM (s:={ s with toks:=s.toks+1 }) (looks_clsIn I.bc ic) ?_)));rw[uD];refine aA (a:=some d) (ag (aA (ag (wpAny_nsSet1 (s:={ s with toks:=s.toks+1 }) n fun h2 n2 sb=>?_))));obtain⟨oD,esD,epD,AF,Fv,Fw⟩:=n2.count (PySem.Within.cons f u wi);refine ag (wpAny_lookBehind AF (by rw[Fv];exact pastItsLine_dict (cK Fw (by rw[cO,aE,aI];omega))) (aA ?_))
 refine h _ (I.write (t':=s.toks+2) (x:=d) (e:=d) (by rw[ed];exact True.intro) (.inl rfl) (fun b o hb q=>(sb.2 b hb).trans q) ⟨oD,AF⟩ ?_)
 refine LF (by have:=Ju f y fs;omega) n2 (fun g=>?_) (fun g hg=>?_)
 ·show ix ((iN f y fs).lookup g) (if g=f then some u else mA g)
  rw[Jt]
  by_cases q:g=f
  ·rw[au q,au q];exact ry
  ·rw[ao q,ao q];exact r g
 ·by_cases q:g=f
  ·rw[q];exact(Cv f y fs).1
  ·exact(Cv f y fs).2 g (wi g fun z=>hg ((ao q).trans z))
end
end L2
namespace L2
open PySem PySem.Spec PyProof.Rows PySem.W
mutual
inductive Rep (H:Hp):V->PyData->Prop where
 |ax:Rep H .ax .none
 |bl (b:Bool):Rep H (.bl b) (.bool b)
 |int (i:Int):Rep H (.int i) (.int i)
 |str (x:Str):Rep H (.str x) (.str x)
 |lst {a:Addr}{xs:List V}{ds:List PyData}:H a=some (.lst xs)->gT H xs ds->Rep H (.ref a) (.list ds)
 |tup {a:Addr}{xs:List V}{ds:List PyData}:H a=some (.tup xs)->gT H xs ds->Rep H (.ref a) (.tuple ds)
inductive gT (H:Hp):List V->List PyData->Prop where
 |nil:gT H [] []
 |cons {x:V}{d:PyData}{xs:List V}{ds:List PyData}:Rep H x d->gT H xs ds->gT H (x::xs) (d::ds)
end
section
mutual
theorem Rep.reads (I:Inv X pins σ H s):∀ {v:V}{d:PyData}{u:Value},Rep H v d->RelV v u -> ∃as,Reads s.heap u d as
 |_,_,_,.ax,r=>by cases r;exact⟨_,.none⟩
 |_,_,_,.bl b,r=>by cases r;exact⟨_,.bool b⟩
 |_,_,_,.int i,r=>by obtain⟨t,rfl⟩:=r;exact⟨_,.int i t⟩
 |_,_,_,.str x,r=>by obtain⟨t,rfl⟩:=r;exact⟨_,.str x t⟩
 |_,_,_,.lst (a:=a) (xs:=xs) e rs,r=>by
  cases r
  obtain⟨_,its,n,rv,at_⟩:=(show br X.prog X.w H s.heap a (.lst xs) from I.ay a _ e);obtain⟨as,ra⟩:=gT.reads I rs rv;exact⟨_,.list at_ rfl rfl ra⟩
 |_,_,_,.tup (a:=a) (xs:=xs) e rs,r=>by
  cases r
  obtain⟨_,its,rv,ob,at_,hc,n,hd,_⟩:=(show br X.prog X.w H s.heap a (.tup xs) from I.ay a _ e);obtain⟨as,ra⟩:=gT.reads I rs rv;exact⟨_,.tuple at_ hc hd ra⟩
theorem gT.reads (I:Inv X pins σ H s):∀ {vs:List V}{ds:List PyData}{us:List Value},gT H vs ds->Vals vs us -> ∃as,ReadsAll s.heap us ds as
 |_,_,_,.nil,r=>by cases r;exact⟨_,.nil⟩
 |_,_,_,.cons r rs,rv=>by
  cases rv with
  |cons q qs =>
   obtain⟨as,h1⟩:=Rep.reads I r q;obtain⟨bs,h2⟩:=gT.reads I rs qs;exact⟨_,.cons h1 h2⟩
end
mutual
theorem Rep.same:∀ {v:V}{d:PyData},Rep H v d->ak H H'->Rep H' v d
 |_,_,.ax,_=>.ax
 |_,_,.bl b,_=>.bl b
 |_,_,.int i,_=>.int i
 |_,_,.str x,_=>.str x
 |_,_,.lst e rs,k=>.lst (k _ _ e) (gT.same rs k)
 |_,_,.tup e rs,k=>.tup (k _ _ e) (gT.same rs k)
theorem gT.same:∀ {vs:List V}{ds:List PyData},gT H vs ds->ak H H'->gT H' vs ds
 |_,_,.nil,_=>.nil
 |_,_,.cons r rs,k=>.cons (Rep.same r k) (gT.same rs k)
end
end
def Ab:R2:=fun x y H Q=>∃da db,Rep H x da/\Rep H y db/\da.canLay0=true/\db.canLay0=true/\da.depth<=60/\Q (.bl (PyData.eqv da db)) H
def Em:R2:=fun x y H Q=>∃da db,Rep H x da/\Rep H y db/\da.canLay0=true/\db.canLay0=true/\da.depth<=60/\Q (.bl (!PyData.eqv da db)) H
theorem DE (hu:X.A.units+64 < cLine):cN X (compareOp .Eq) Ab:=by
 intro pins s σ H x y v u Q I rx ry h;obtain⟨da,db,r1,r2,l1,l2,dp,q⟩:=h;obtain⟨as,h1⟩:=r1.reads I rx;obtain⟨bs,h2⟩:=r2.reads I ry;exact SeqAt.compareEq_reads h1 h2 l1 l2 (by omega) ⟨.bl _,H,I,rfl,q⟩
theorem lQ (hu:X.A.units+64 < cLine):cN X (compareOp .NotEq) Em:=by
 intro pins s σ H x y v u Q I rx ry h;obtain⟨da,db,r1,r2,l1,l2,dp,q⟩:=h;obtain⟨as,h1⟩:=r1.reads I rx;obtain⟨bs,h2⟩:=r2.reads I ry;exact SeqAt.compareNe_reads h1 h2 l1 l2 (by omega) ⟨.bl _,H,I,rfl,q⟩
def ke (H:Hp) (x:V):Prop:=(∃z:Str,x = .str z/\z.length<=100000)\/x = .ax \/ ∃a d,x = .ref a/\Rep H x d/\d.showable=true/\d.hasDict=false/\d.depth<=50/\d.shown.length<=100000
def Zt (te:TE):TE:=fun σ H Q=>te σ H fun x H1=>ke H1 x /\ ∀y:Str,y.length<=100000->Q (.str y) H1
theorem rz (hu:X.A.units+64 < cLine) (hg:X.A.guards=some []) (he:PE X e te):PE X (.FormattedValue e (-1) none pos) (Zt te):=by
 intro pins s σ H Q I h;refine wpAny_FormattedValue_plain (aC (he pins s σ H _ I h) fun v s1 ⟨x,H1,I1,rx,f,q⟩=>?_);rcases f with⟨z,rfl,hz⟩|rfl|⟨a,d,rfl,rd,hs,hd,hp,hl⟩
 ·obtain⟨t,rfl⟩:=rx
  exact wpAny_formatField_str ⟨.str z,H1,I1,⟨_,rfl⟩,q z hz⟩ ⟨.str z,H1,I1.tok _,⟨_,rfl⟩,q z hz⟩ (by rw[aI];omega)
 ·cases rx
  exact wpAny_formatField_none ⟨.str "None",H1,I1.tok _,⟨_,rfl⟩,q _ (by decide)⟩
 ·obtain⟨as,r⟩:=rd.reads I1 rx
  cases rx
  exact formatField_of_reads r hs (fun z=>by rw[hd]at z;cases z) hg (by omega) (fun _ _ z=>z) (fun h' u tk k=>⟨.str d.shown,H1,I1.kept k,⟨_,rfl⟩,q _ hl⟩) (by rw[aI];omega)
def PJ (X:Cx) (vs:List Expr) (n:Nat) (t:St->Hp->(Hp->Prop)->Prop):Prop:=
 ∀ (pins:List (Addr×Obj)) (s:Shared) (σ:St) (H:Hp) (acc:Str) (Q:Hp->Prop),acc.length+n * 100000<=2000000->Inv X pins σ H s->t σ H Q ->
  Joins (model X.prog X.w) X.A X.xe (evalEach vs X.env) acc (fun out s1=>out.length<=2000000 /\ ∃H1,Inv X pins σ H1 s1/\Q H1) s
def W9 (te:TE) (tr:St->Hp->(Hp->Prop)->Prop):St->Hp->(Hp->Prop)->Prop:=fun σ H Q=>te σ H fun x H1=>(∃y:Str,x = .str y/\y.length<=100000)/\tr σ H1 Q
def W':St->Hp->(Hp->Prop)->Prop:=fun _ H Q=>Q H
theorem wK:PJ X [] 0 W':=fun pins s σ H acc Q hz I h=>⟨by omega,H,I,h⟩
theorem jE {v:Expr}{vs:List Expr}{tr:St->Hp->(Hp->Prop)->Prop} (hv:PE X v te) (hr:PJ X vs n tr):PJ X (v::vs) (n+1) (W9 te tr):=by
 intro pins s σ H acc Q hz I h;refine aC (hv pins s σ H _ I h) fun u s1 ⟨x,H1,I1,rx,⟨y,e,hy⟩,q⟩=>?_;subst e;obtain⟨t,rfl⟩:=rx;have hl:(acc++y).length=acc.length+y.length:=strLen_append ..;exact⟨y,t,rfl,by rw[hl,aI];omega,hr pins s1 σ H1 (acc++y) Q (by rw[hl];omega) I1 q⟩
def X9 (tr:St->Hp->(Hp->Prop)->Prop):TE:=fun σ H Q=>tr σ H fun H1=>∀y:Str,y.length<=2000000->Q (.str y) H1
theorem wz {v1 v2:Expr}{rest:List Expr}{tr:St->Hp->(Hp->Prop)->Prop} (hr:PJ X (v1::v2::rest) n tr) (hn:n<=20:=by decide):PE X (.JoinedStr (v1::v2::rest) pos) (X9 tr):=by
 intro pins s σ H Q I h;have z:=hr pins s σ H Str.empty _ (by have:Str.empty.length=0:=rfl;omega) I h
 refine wpAny_JoinedStr ?_;have mono:∀ (l:List (Sem Value)) (acc:Str) (P P':Str->Shared->Prop) (s:Shared),(∀o s,P o s->P' o s)->Joins (model X.prog X.w) X.A X.xe l acc P s->Joins (model X.prog X.w) X.A X.xe l acc P' s:=by
  intro l
  induction l with
  |nil=>intro acc P P' s k q;exact k _ _ q
  |cons a l ih=>intro acc P P' s k q;exact aC q fun v s1 ⟨y,t,e,hz,q'⟩=>⟨y,t,e,hz,ih _ P P' s1 k q'⟩
 refine mono _ _ _ _ _ ?_ z;rintro o s1 ⟨hz,H1,I1,q⟩;exact⟨by rw[aI];omega,.str o,H1,I1.tok _,⟨_,rfl⟩,q o hz⟩
end L2
namespace L2
open PySem PySem.Spec PyProof.Rows PySem.W
section
variable{CX:lx}{k:Nat}{p:Pos}{t:TA}
theorem UQ (q:dj X.K C none=true) (I:Inv X pins σ H s) (a6:us.length<=100) (h:∀e,H e=none->Q (.ref e) (upd H e (bE C none e))):wpAny (model X.prog X.w) X.A (call (.ref C) us) (EP X pins σ Q) X.xe s:=by
 obtain⟨⟨up,N,nm,qn,bs,hd,sn,sb,ab,col,od,a0,a1,a2,a3,a5,mN,at_,ns,ni,T⟩⟩:=qU I.bc q;obtain⟨hp,g,d,tk,os⟩:=s;refine wpAny_call_exc_subT IP T at_ ns ni (fun h' e m=>?_) (by rw[aI];omega)
 obtain⟨kp,new,t,at2,_,_⟩:=m;exact⟨.ref e,_,Inv.put (s:=⟨hp,g,d,tk,os⟩) I kp new (wu at2),rfl,h e (Inv.zN (s:=⟨hp,g,d,tk,os⟩) I new)⟩
def X' (C:Addr) (t:TA):TE:=fun σ H Q=>t σ H fun vs H1=>vs.length<=100 /\ ∀e,H1 e=none->Q (.ref e) (upd H1 e (bE C none e))
theorem wA (q:dj X.K C none=true) (kp:keepIn X.K (.ref C)=true) (hg:Gl X x) (hm:X.mg x=some (.ref C)) (ha:PA X (e::es) t) (iD:(x==("__debug__" : Str))=false:=by decide)
  (he:starEach (e::es) X.env=(false,eval e X.env)::starEach es X.env:=by rfl) (cR:(backTo pos (starEach es X.env)).any (·.1)=false:=by rfl):PE X (.Call (.Name x p) (e::es) [] pos) (X' C t):=by
 intro pins s σ H Q I h;refine qI (mV I hg hm ?_ iD);refine BO (h₀:=X.base) I.ok.mod.jg kp (aC (ha pos pins s σ H _ I h) fun us s1 ⟨vs,H1,I1,r,a6,q1⟩=>⟨I1.bc,?_⟩) he cR;exact UQ q I1 (by show us.length<=100;rw[<-r.length];exact a6) q1
theorem UR (q:dj X.K C (some (.ref fI))=true) (fn:isFn X.K (.ref fI)=true) (F:aD X.prog X.w X.K X.mg X.base CX k fI fd ps sp) (hr:aS (k+1) X.A) (hb:Binds X.K fd ps []) (hx:Passes CX X E) (I:Inv X pins σ H s) (r:Vals vs us) (a6:us.length<=100)
  (h:∀e,H e=none->sp (.ref e::vs) (upd H e (bE C none e)) (fun v H2=>v = .ax/\Q (.ref e) H2) E):wpAny (model X.prog X.w) X.A (call (.ref C) us) (EP X pins σ Q) X.xe s:=by
 obtain⟨⟨up,N,nm,qn,bs,hd,sn,sb,ab,col,od,a0,a1,a2,a3,a5,mN,at_,ns,ni,T⟩⟩:=qU I.bc q;obtain⟨oI,lk,oc⟩:=iV.mp (show(X.K.lookup fI).map (·.cls)=some (.type "function") from eN.mp fn);have h1:=h (s.heap.objs.size+1) (I.ay.fresh (pG _));have bc:=I.bc;have I2:Inv X pins σ (upd H (s.heap.objs.size+1) (bE C none (s.heap.objs.size+1))) { s with heap:=lh s.heap C us }:=I.put (fun _ _ z=>tL z) (vH (pG _)) (wu Cz);have e0:=I2.xw.make C us [];have u7:=hr.make C us [];have r2:Vals (V.ref (s.heap.objs.size+1)::vs) (Value.ref (s.heap.objs.size+1)::us):= .cons rfl r;have hl:(Value.ref (s.heap.objs.size+1)::us).length=ps.length:=by rw[<-r2.length];exact F.len _ _ _ _ h1
 have qv:=hb { s with heap:=lh s.heap C us } (Value.ref (s.heap.objs.size+1)::us) I2.bc (by rw[fh];exact hl)
 rw[fh]at qv;have run:=F.run _ X.stack _ _ ⟨Value.ref (s.heap.objs.size+1)::us,[]⟩ (Value.ref (s.heap.objs.size+1)::us) _ _ E u7 e0 qv r2 h1;obtain⟨hp,g,d,tk,os⟩:=s;refine Jn IP T at_ ns ni (bc _ _ lk) oc (by rw[aI];omega) (pE (qH run fun r s' hq=>?_))
 cases r with
 |error e=>exact hx pins σ _ _ e s' I2 hq
 |ok fl =>
  cases fl with
  |ret u =>
   obtain⟨v,H',I3,rv,ev,q3⟩:=I2.after hq;subst ev;exact⟨rv,.ref (hp.objs.size+1),H',I3,rfl,q3⟩
  |next=>exact False.elim hq
  |brk=>exact False.elim hq
  |cont=>exact False.elim hq
def MP (C:Addr) (sp:Sp) (E:XK) (t:TA):TE:=fun σ H Q=>t σ H fun vs H1=>vs.length<=100 /\ ∀e,H1 e=none->sp (.ref e::vs) (upd H1 e (bE C none e)) (fun v H2=>v = .ax/\Q (.ref e) H2) E
theorem LG (q:dj X.K C (some (.ref fI))=true) (fn:isFn X.K (.ref fI)=true) (kp:keepIn X.K (.ref C)=true) (F:aD X.prog X.w X.K X.mg X.base CX k fI fd ps sp) (hr:aS (k+1) X.A) (hb:Binds X.K fd ps []) (hx:Passes CX X E)
  (hg:Gl X x) (hm:X.mg x=some (.ref C)) (ha:PA X (e::es) t) (iD:(x==("__debug__" : Str))=false:=by decide)
  (he:starEach (e::es) X.env=(false,eval e X.env)::starEach es X.env:=by rfl) (cR:(backTo pos (starEach es X.env)).any (·.1)=false:=by rfl):PE X (.Call (.Name x p) (e::es) [] pos) (MP C sp E t):=by
 intro pins s σ H Q I h;refine qI (mV I hg hm ?_ iD);refine BO (h₀:=X.base) I.ok.mod.jg kp (aC (ha pos pins s σ H _ I h) fun us s1 ⟨vs,H1,I1,r,a6,q1⟩=>⟨I1.bc,?_⟩) he cR;exact UR q fn F hr hb hx I1 r (by show us.length<=100;rw[<-r.length];exact a6) q1
structure rA (K:Frag) (B:Addr):Prop where
 rd:readsIn K B (.type "type")=true
 ga:specialIn K (.ref B) "__getattribute__" = some (some (.builtin "type.__getattribute__"))
 fi:findCls K (.ref B) (.type "type") "__init__" = some (.val (.builtin "ValueError.__init__"))
theorem R6 {i:Option Value} (c:df X.K C) (q:dj X.K C i=true) (I:Inv X pins σ H s) (e:H a=some (bE C dx a)) (h:Q .ax H) :
  wpAny (model X.prog X.w) X.A (call (.builtin "ValueError.__init__") [.ref a,u]) (EP X pins σ Q) X.xe s:=by
 obtain⟨t,at_⟩:=I.excAt e;obtain⟨⟨up,N,nm,qn,bs,hd,sn,sb,ab,col,od,a0,a1,a2,a3,a5,mN,atC,ns,ni,T⟩⟩:=qU I.bc q;have FI:=IP;obtain⟨hp,g,d,tk,os⟩:=s;refine pE (IJ FI.init.plain FI.initEntry (wpAny_check_init_subT (rest:= [u]) FI T atC at_ rfl ?_));have kx:(hp.push { cls:= .type "tuple",data:= .seq #[u] }).get? a=some { cls:= .ref C,dict:=dx,data:= .fields #[.ref t,.none,.none,.none,.bool false,.none] }:=bU _ at_;have at2:((hp.push { cls:= .type "tuple",data:= .seq #[u] }).update a (Obj.mapFields fun z=>z.setIfInBounds 0 (.ref hp.objs.size))).get? a=some { cls:= .ref C,dict:=dx,data:= .fields #[.ref hp.objs.size,.none,.none,.none,.bool false,.none] }:=qK _ kx rfl;have fin:∀oW,EP X pins σ Q .none ⟨(hp.push { cls:= .type "tuple",data:= .seq #[u] }).update a (Obj.mapFields fun z=>z.setIfInBounds 0 (.ref hp.objs.size)),g,d,oW,os⟩:=fun oW=>by
  refine⟨.ax,upd H a (bE C dx a),?_,rfl,?_⟩
  ·exact Inv.write (s:=⟨hp,g,d,tk,os⟩) I (x:=a) (e:=a) (t':=oW) (by rw[e];exact True.intro) (.inl rfl) (fun b o hb z=>by rw[jX _ _ (aH hb)];exact bU _ z) ⟨_,at2⟩ (wu at2)
  ·have:upd H a (bE C dx a)=H:=by
    funext b;unfold upd
    by_cases hb:b=a
    ·rw[au hb,hb,e]
    ·rw[ao hb]
   rw[this];exact h
 wp_walk
 exact fin _
def TV (X:Cx) (t:TA):TE:=fun σ H Q=>t σ H fun vs H1=>∃a C dx y i,vs = [.ref a,y]/\H1 a=some (bE C dx a)/\df X.K C/\dj X.K C i=true/\Q .ax H1
theorem Cd {pl:Sem Bool} (b:rA X.K B) (hg:Gl X x) (hm:X.mg x=some (.ref B)) (ha:PA X (e::es) t) (iD:(x==("__debug__" : Str))=false:=by decide)
  (he:starEach (e::es) X.env=(false,eval e X.env)::starEach es X.env:=by rfl) (cR:(backTo pos (starEach es X.env)).any (·.1)=false:=by rfl)
  (ht:eval (.Call (.Attribute (.Name x p) "__init__" apos) (e::es) [] pos) X.env=(do
   let ov <- eval (.Name x p) X.env
   standAt apos.atName
   let (f,first) <- holding [ov] (getMethod ov "__init__" pl)
   callWith pos f first (backTo pos (starEach (e::es) X.env)) (backToKw pos (keywordEach [] X.env))):=by rfl) :
  PE X (.Call (.Attribute (.Name x p) "__init__" apos) (e::es) [] pos) (TV X t):=by
 intro pins s σ H Q I h;refine methodCall_KW (pl:=pl) (mV I hg hm ?_ iD) ht;refine method_cls I.bc b.ga (cls_value I.bc b.rd b.fi rfl ?_);refine aht (aC (ha pos pins { s with toks:=s.toks+1 } σ H _ (I.tok _) h) fun us s1 ⟨vs,H1,I1,r1,q1⟩=>?_) he cR;obtain⟨a,C,dx,y,i,rfl,ea,c,qi,q⟩:=q1;obtain⟨u1,u2,rfl,r2,r3⟩:=r1.two;cases r2
 exact R6 c qi I1 ea q
end
section
variable{o:Expr}{f:Str}{tv:TE}
def Ya (X:Cx) (ta tv:TE) (f:Str):TS:=fun D σ H=>tv σ H fun y H1=>ta σ H1 fun x H2=>∃a C,x = .ref a/\H2 a=some (bE C none a)/\df X.K C/\findIn X.K (.ref C) f=some none /\
 ∀d,H2 d=none->d≠a->D.nx σ (upd (upd H2 d (dv d [(f,y)])) a (bE C (some d) a))
theorem Dk (ha:PE X o ta) (hv:PE X value tv) (hs:swapsWith value (some (.Attribute o f pos')) pos.line X.env=pure false:=by rfl):PS X (.Assign [.Attribute o f pos'] value pos) (Ya X ta tv f):=by
 intro pins s σ H D I h;refine ahG (aC (hv pins s σ H _ I h) fun u s1 ⟨y,H1,I1,ry,q⟩=>aC (ha pins s1 σ H1 _ I1 q) fun ov s2 ⟨x,H2,I2,rx,a,C,ex,ea,c,n,q2⟩=>?_) hs;subst ex;obtain rfl:ov=Value.ref a:=rx;exact S' I2 ea c n ry fun d s3 h1 h2 I3=>⟨σ,_,I3,q2 d h1 h2⟩
def Xa (X:Cx) (ta tv:TE) (f:Str):TS:=fun D σ H=>tv σ H fun y H1=>ta σ H1 fun x H2=>∃a C d fs,x = .ref a/\H2 a=some (bE C (some d) a)/\H2 d=some (dv d fs)/\df X.K C/\findIn X.K (.ref C) f=some none/\fs.length < 100 /\
 D.nx σ (upd H2 d (dv d (iN f y fs)))
theorem KW (ha:PE X o ta) (hv:PE X value tv) (hs:swapsWith value (some (.Attribute o f pos')) pos.line X.env=pure false:=by rfl):PS X (.Assign [.Attribute o f pos'] value pos) (Xa X ta tv f):=by
 intro pins s σ H D I h;refine ahG (aC (hv pins s σ H _ I h) fun u s1 ⟨y,H1,I1,ry,q⟩=>aC (ha pins s1 σ H1 _ I1 q) fun ov s2 ⟨x,H2,I2,rx,a,C,d,fs,ex,ea,ed,c,n,a6,q2⟩=>?_) hs;subst ex;obtain rfl:ov=Value.ref a:=rx;exact Sk I2 ea ed c n ry a6 fun s3 I3=>⟨σ,_,I3,q2⟩
def NG (K:Frag):List V->Hp->VK->Prop:=fun xs H Q=>∃x c t cv b,xs = [x,c]/\RelV c cv/\(jI K H x t \/ ∃a C dx,x = .ref a/\t = .ref C/\H a=some (bE C dx a)/\df K C/\(∀d,dx=some d -> ∃fs,H d=some (dv d fs)))/\kitOne K t cv=some b/\Q (.bl b) H
theorem CS:eV X (.builtin "isinstance") (fun xs H Q=>(∃x,(∃C,xs = [x,.ref C])\/(∃T,xs = [x,.ty T]))/\NG X.K xs H Q):=by
 intro pins s σ H xs us Q I r h;obtain⟨hx,x,c,t,cv,b,rfl,rc,ty,e,q⟩:=h;obtain⟨u,w',rfl,ru,gL⟩:=r.two;have Fx:w'=cv:=by
  obtain⟨x',⟨C,z⟩|⟨T,z⟩⟩:=hx
  ·cases z;cases rc;cases gL;rfl
  ·cases z;cases rc;cases gL;rfl
 subst Fx;rcases ty with ty|⟨a,C,dx,rfl,rfl,ea,c,hd⟩
 ·exact TL I ru ty e fun tk=>⟨.bl b,H,I.tok _,rfl,q⟩
 ·cases ru
  obtain⟨t,at_⟩:=I.excAt ea;cases dx with
  |none =>
   have J:InstAt s.heap a _ C none:=⟨at_,rfl,rfl,True.intro⟩;exact kia_one (zv c) I.bc J e (fun z=>nomatch z) fun tk=>⟨.bl b,H,I.tok _,rfl,q⟩
  |some d =>
   obtain⟨fs,ed⟩:=hd d rfl;obtain⟨_,mA,n,_⟩:=I.wx ed;obtain⟨od,mi,_⟩:=tO n;have J:InstAt s.heap a _ C (some od):=⟨at_,rfl,rfl,mi⟩;exact kia_one (zv c) I.bc J e (fun z=>nomatch z) fun tk=>⟨.bl b,H,I.tok _,rfl,q⟩
end
def x9 (K:Frag) (l:Addr):It:=
 ⟨fun i H=>∃xs x,aj K H l xs/\xs[i]? = some x,fun i H x H'=>∃t v,H t=none/\x = .ref t/\(∀xs,aj K H l xs->xs[i]? = some v)/\H'=upd H t (.tup [.int i,v]),fun i H=>∃xs,aj K H l xs/\xs.length<=i⟩
theorem TX (l e it:Addr) (bS:e≠it) :
  Turn P w K (.Tuple elts n1 tp) (x9 K l) [e,it] e (fun i h=>(∃old,IsEnum h e it i old)/\h.IsListIter it l i) where
 mem:=by simp
 obj:=fun i h st b hb=>by
  obtain⟨⟨old,h1⟩,h2⟩:=st;rcases aY.mp hb with z|z
  ·subst z;exact⟨_,h1,fun v q=>by cases q⟩
  ·have z':b=it:=by simpa using z
   subst z';obtain⟨o,q,_,d⟩:=h2;exact⟨o,q,fun v z=>by rw[d]at z;cases z⟩
 keep:=fun i h h' st k=>by
  obtain⟨⟨old,h1⟩,h2⟩:=st;exact⟨⟨old,k e (by simp) _ h1⟩,h2.at fun o q=>k it (by simp) o q⟩
 item:=by
  intro X hP hw hK hc i pins s σ H E I hf st hg;subst hP hw hK;obtain⟨xs,x,hq,hx⟩:=hg;obtain⟨its,rv,p,hz⟩:=I.list hq;obtain⟨u,hu,ru⟩:=rv.get hx;obtain⟨⟨old,h1⟩,h2⟩:=st;have fe:=hf e (by simp)
  have fi:=hf it (by simp)
  refine wpAny_pyNext_enum_item h1 h2 p.isList (x:=u) (by simpa using hu) bS fun h' e1 i1 t1 z1 k1=>⟨_,rfl,?_⟩
  refine wpAny_letOwnedTupleGo_enum (s:={ s with heap:=h',toks:=s.toks+1 }) e1 fun iP e2 sb=>?_;have eS:e≠s.heap.objs.size:=bT (aW h1);have k2:∀b o,b≠e->b≠it->s.heap.get? b=some o->iP.get? b=some o:=fun b o n1 n2 q=>(sb.2 b n1).trans (k1 b o n1 n2 q);have t2:iP.get? s.heap.objs.size=some { cls:= .type "tuple",data:= .seq #[.int i s.toks,u] }:=(sb.2 _ (aH eS)).trans t1;have hn:H s.heap.objs.size=none:=I.ay.fresh (aK _);have lt:∀b o,s.heap.get? b=some o->b≠s.heap.objs.size:=fun b o q=>bT (aW q);have jf:∀b o,H b=some o->b≠e/\b≠it:=fun b o q=>⟨(fun z=>by rw[z,fe.1]at q;cases q),(fun z=>by rw[z,fi.1]at q;cases q)⟩
  have gB:∀b,b ∉ [e,it]->b≠e/\b≠it:=fun b hb=>⟨fun z=>hb (by simp[z]),fun z=>hb (by simp[z])⟩
  have J:Inv X pins σ (upd H s.heap.objs.size (.tup [.int i,x])) { s with heap:=iP,toks:=s.toks+1 }:=by
   refine I.step (g':=s.gens) (d':=s.drawn) (t':=s.toks+1) (ch:= [e,it]) (fun b hb=>?_) (fun b o _ _ hc q _=>k2 b o (gB b hc).1 (gB b hc).2 q) (fun b o _ _ hc q _=>⟨o.slots,k2 b o (gB b hc).1 (gB b hc).2 q⟩)
    (fun b o _ q n=>by rw[ai (lt b o q)];exact n) (fun b o hc q=>⟨o,k2 b o (gB b hc).1 (gB b hc).2 q⟩) (fun b ys q=>by rw[ai (aq q hn)];exact q) (fun b o v q=>by rw[ai (aq q hn)];exact q)
    (fun b ps q=>⟨#[],by rw[ai (aq q hn),q];simp⟩) (fun m hm=>?_) (fun b o q=>?_) I.bare
   ·rcases aY.mp hb with z|z
    ·subst z;exact⟨fe.2.2.2.1,fe.2.1,fe.2.2.2.2.1,fe.2.2.2.2.2⟩
    ·have z':b=it:=by simpa using z
     subst z';exact⟨fi.2.2.2.1,fi.2.1,fi.2.2.2.2.1,fi.2.2.2.2.2⟩
   ·obtain⟨o,es,ep,ho,r⟩:=hm
    exact⟨o,es,ep,k2 _ o (aH fe.2.1) (aH fi.2.1) ho,r⟩
   ·by_cases hb:b=s.heap.objs.size
    ·subst hb
     rw[af]at q;cases q;exact⟨by rw[aI];show 2<=_;decide,[.int i s.toks,u],.cons ⟨_,rfl⟩ (.cons ru .nil),_,t2,rfl,_,rfl,rfl⟩
    ·rw[ai hb]at q
     refine(I.ay b o q).fE (fun c v hc z=>?_) (fun c z=>by rw[ai (aq z hn)];exact z) fun c ys z=>by rw[ai (aq z hn)];exact z
     rcases hc with hc|hc
     ·subst hc;exact k2 _ v (jf _ _ q).1 (jf _ _ q).2 z
     ·exact k2 c v (jf _ _ hc).1 (jf _ _ hc).2 z
  refine⟨.ref s.heap.objs.size,_,J,rfl,⟨s.heap.objs.size,x,hn,rfl,fun ys hy=>by rw[I.zu hy hq];exact hx,rfl⟩,⟨⟨u,e2⟩,?_⟩,fun b hb=>?_⟩
  ·exact i1.extBut sb.extBut (aH bS)
  ·have:b≠s.heap.objs.size:=by
    rcases aY.mp hb with z|z
    ·rw[z];exact eS
    ·have z':b=it:=by simpa using z
     obtain⟨o,q,_⟩:=h2;rw[z'];exact lt _ _ q
   rw[ai this];exact(hf b hb).1
 done:=by
  intro X hP hw hK hc i pins s σ H E I hf st hg;subst hP hw hK;obtain⟨xs,hq,hx⟩:=hg;obtain⟨its,rv,p,hz⟩:=I.list hq;obtain⟨⟨old,h1⟩,h2⟩:=st;have fi:=hf it (by simp)
  have hl:=rv.length;exact wpAny_pyNext_enum_end (I.ok.hd hc) h1 h2 p.isList (by simp;omega) fun h' eb=>⟨rfl,I.turned (t':=s.toks) (fun b o hb q=>eb b o hb q) fi.1 fi.2.1 fi.2.2.2.1 fi.2.2.2.2.1 fi.2.2.2.2.2⟩
 self:=fun _ _ _ _ _ st h=>let ⟨⟨_,h1⟩,_⟩:=st;wpAny_pyIter_enum h1 h
def Yb (K:Frag) (ta:TA):TI:=fun σ H R=>ta σ H fun vs H1=>∃a,vs = [.ref a]/\(∃xs,aj K H1 a xs)/\R (x9 K a) H1
theorem VZ {a:Expr}{ta:TA}{p:Pos} (hg:Gl X "enumerate") (hm:X.mg "enumerate" = none) (ha:PA X [a] ta) (hs:starEach [a] X.env = [(false,eval a X.env)]:=by rfl) :
  PI X (.Tuple elts n1 tp) (.Call (.Name "enumerate" p) [a] [] pos) (Yb X.K ta):=by
 intro pins s σ H R I h;refine Call_ (uc I hg hm (show bootBuiltins "enumerate" = some (.type "enumerate") by decide +kernel) (Iy (aC (ha pos pins s σ H _ I h) fun us s1 ⟨vs,H1,I1,r1,q1⟩=>?_) hs rfl))
 obtain⟨l,e,⟨xs,hq⟩,q⟩:=q1;subst e;obtain⟨u,rfl,ru⟩:=r1.one;cases ru
 obtain⟨its,rv,pl,hz⟩:=I1.list hq;refine call_enumerate_list pl.isList fun h' e1 i1 z1 k1=>?_;have I2:Inv X pins σ H1 { s1 with heap:=h' }:=I1.kept (t':=s1.toks) k1;refine wpAny_pyIter_enum (s:={ s1 with heap:=h' }) e1 ?_;refine⟨s1.heap.objs.size+1,[s1.heap.objs.size+1,s1.heap.objs.size],_,_,H1,rfl,I2,TX l (s1.heap.objs.size+1) s1.heap.objs.size (Nat.succ_ne_self _),⟨⟨.none,e1⟩,i1⟩,fun b hb=>?_,q⟩;rcases aY.mp hb with z|z
 ·subst z;exact I1.lq (pG _) (I1.ay.fresh (pG _))
 ·have z':b=s1.heap.objs.size:=by simpa using z
  subst z';exact I1.lq (aK _) (I1.ay.fresh (aK _))
theorem zi:∀ {ys:List Str}{us:List Value},Vals (ys.map V.str) us->StrsAre us ys:=by
 intro ys
 induction ys with
 |nil=>intro us r;cases r;exact .nil
 |cons y ys ih =>
  intro us r;cases r with
  |cons q qs =>
   obtain⟨t,rfl⟩:=q;exact .cons _ _ (ih qs)
def rJoin (K:Frag):V->List V->Hp->VK->Prop:=fun x vs H Q=>∃ (z:Str) (p:Addr) (ys:List Str),x = .str z/\vs = [.ref p]/\(aj K H p (ys.map V.str)\/aN K H p (ys.map V.str))/\(ys.map (·.length)).sum+ys.length * z.length<=1000000/\Q (.str (Txt.join z ys)) H
theorem V0:OC X "str.join" (rJoin X.K):=by
 intro pins s σ H x xs v us Q I rx rv h;obtain⟨z,p,ys,rfl,rfl,hp,hz,q⟩:=h;obtain⟨t,rfl⟩:=rx;obtain⟨u,rfl,ru⟩:=rv.one;cases ru
 rcases hp with hp|hp
 ·obtain⟨its,r,pl,_⟩:=I.list hp
  exact join_list pl.isList (by simpa using zi r) (by omega) fun t' k=>⟨.str _,H,I.tok _,⟨_,rfl⟩,q⟩
 ·obtain⟨its,r,pl,_⟩:=I.tuple hp
  exact join_tuple pl (by simpa using zi r) (by omega) fun t' k=>⟨.str _,H,I.tok _,⟨_,rfl⟩,q⟩
def Zu:V->Option Int->Option Int->Hp->VK->Prop:=fun x lo hi H Q=>∃z:Str,x = .str z/\z.length<=1000000/\Q (.str (Txt.slice z lo hi)) H
theorem DF:uY X Zu:=by
 intro pins s σ H x v vl vu lo hi sl Q I rx hs pl pu h;obtain⟨z,rfl,hz,q⟩:=h;obtain⟨t,rfl⟩:=rx;have fz:(Txt.slice z lo hi).length<=sizeLine:=cK (Txt.slice_le z _ _) (by rw[aI];omega)
 refine⟨"str",_,PySem.F.slot_str_getitem.lookup,typeIs_str _ _ _,?_⟩;cases pl with
 |none =>
  cases pu with
  |none=>exact IQ (l:=none) (u:=none) (st:=none) hs rfl (IS ⟨fz,fun t' k=>⟨.str _,H,I.tok _,⟨_,rfl⟩,q⟩⟩)
  |int j tj=>exact IQ (l:=none) (u:=some (j,tj)) (st:=none) hs rfl (IS ⟨fz,fun t' k=>⟨.str _,H,I.tok _,⟨_,rfl⟩,q⟩⟩)
 |int i ti =>
  cases pu with
  |none=>exact IQ (l:=some (i,ti)) (u:=none) (st:=none) hs rfl (IS ⟨fz,fun t' k=>⟨.str _,H,I.tok _,⟨_,rfl⟩,q⟩⟩)
  |int j tj=>exact IQ (l:=some (i,ti)) (u:=some (j,tj)) (st:=none) hs rfl (IS ⟨fz,fun t' k=>⟨.str _,H,I.tok _,⟨_,rfl⟩,q⟩⟩)
def CW (Pv:Nat->List V->St->Hp->Prop) (n i m:Nat) (ys:List V) (τ:St) (H:Hp):Prop:=m=n - i/\i<=n/\Pv i ys τ H
theorem cw_next {Pv:Nat->List V->St->Hp->Prop}{τ:St} (h:i < n) (p:Pv (i+1) ys τ H):∃m',m' < n - i/\CW Pv n (i+1) m' ys τ H:=⟨n - (i+1),by omega,rfl,h,p⟩
theorem JE {g:TG} (Pv:Nat->List V->St->Hp->Prop) (h0:Pv 0 [] jP (upd H1 p (.lst []))) (hl:∀i ys τ H,Pv i ys τ H->H p=some (.lst ys))
  (hs:∀i ys τ H,i < n->Pv i ys τ H->g (.int (lo+i)) τ H fun cT H4=>ti cT H4 fun b H5=>if b=true then te cT H5 fun y H6=>H6 p=some (.lst ys)/\ys.length < sizeLine /\ ∃m',m' < n - i/\CW Pv n (i+1) m' (ys ++ [y]) cT (upd H6 p (.lst (ys ++ [y]))) else ∃m',m' < n - i/\CW Pv n (i+1) m' ys cT H5)
  (hd:∀ys τ H,Pv n ys τ H->Q (.ref p) H):kc (sj lo n) g ti te jP Q p H1:=by
 refine⟨CW Pv n,⟨n,by simp,bX _,h0⟩,?_⟩
 rintro i m ys τ H ⟨rfl,hi,pv⟩;refine⟨hl i ys τ H pv,?_⟩
 by_cases aT:i < n
 ·refine .inr ⟨aT,fun x H3 y3=>?_⟩
  obtain⟨e3,ex⟩:=y3;subst e3 ex;exact hs i ys τ _ aT pv
 ·have e:i=n:=by omega
  subst e;exact .inl ⟨aK _,hd ys τ H pv⟩
theorem jC {g:TG} (Pv:Nat->List V->St->Hp->Prop) (h0:Pv 0 [] jP (upd H1 p (.lst []))) (hl:∀i ys τ H,Pv i ys τ H->H p=some (.lst ys)/\aj K H a xs)
  (hs:∀i x ys τ H,xs[i]? = some x->Pv i ys τ H->g x τ H fun cT H4=>ti cT H4 fun b H5=>if b=true then te cT H5 fun y H6=>H6 p=some (.lst ys)/\ys.length < sizeLine /\ ∃m',m' < xs.length - i/\CW Pv xs.length (i+1) m' (ys ++ [y]) cT (upd H6 p (.lst (ys ++ [y]))) else ∃m',m' < xs.length - i/\CW Pv xs.length (i+1) m' ys cT H5)
  (hd:∀ys τ H,Pv xs.length ys τ H->Q (.ref p) H):kc (si K a) g ti te jP Q p H1:=by
 refine⟨CW Pv xs.length,⟨xs.length,by simp,bX _,h0⟩,?_⟩
 rintro i m ys τ H ⟨rfl,hi,pv⟩;obtain⟨hp,hq⟩:=hl i ys τ H pv;refine⟨hp,?_⟩
 by_cases aT:i < xs.length
 ·refine .inr ⟨⟨xs,xs[i],hq,by simp[aT]⟩,fun x H3 y3=>?_⟩
  obtain⟨e3,ex⟩:=y3;subst e3;exact hs i x ys τ _ (ex xs hq) pv
 ·have e:i=xs.length:=by omega
  subst e;exact .inl ⟨⟨xs,hq,aK _⟩,hd ys τ H pv⟩
theorem qX {g:TG} (Pv:Nat->List V->St->Hp->Prop) (h0:Pv 0 [] jP (upd H1 p (.lst []))) (hl:∀i ys τ H,Pv i ys τ H->H p=some (.lst ys)/\aN K H a xs)
  (hs:∀i x ys τ H,xs[i]? = some x->Pv i ys τ H->g x τ H fun cT H4=>ti cT H4 fun b H5=>if b=true then te cT H5 fun y H6=>H6 p=some (.lst ys)/\ys.length < sizeLine /\ ∃m',m' < xs.length - i/\CW Pv xs.length (i+1) m' (ys ++ [y]) cT (upd H6 p (.lst (ys ++ [y]))) else ∃m',m' < xs.length - i/\CW Pv xs.length (i+1) m' ys cT H5)
  (hd:∀ys τ H,Pv xs.length ys τ H->Q (.ref p) H):kc (oS K a) g ti te jP Q p H1:=by
 refine⟨CW Pv xs.length,⟨xs.length,by simp,bX _,h0⟩,?_⟩
 rintro i m ys τ H ⟨rfl,hi,pv⟩;obtain⟨hp,hq⟩:=hl i ys τ H pv;refine⟨hp,?_⟩
 by_cases aT:i < xs.length
 ·refine .inr ⟨⟨xs,xs[i],hq,by simp[aT]⟩,fun x H3 y3=>?_⟩
  obtain⟨e3,ex⟩:=y3;subst e3;exact hs i x ys τ _ (ex xs hq) pv
 ·have e:i=xs.length:=by omega
  subst e;exact .inl ⟨⟨xs,hq,aK _⟩,hd ys τ H pv⟩
def NH (N N':List Str) (cE:List (Option Nat)) (sc:Scope):Bool:=(List.range cE.length).all fun j=>match cE[j]? with
 |some (some i)=>(match N[i]? with|some x=>N'[j]? == some x && sc.names.lookup x==some .free|none=>false)
 |_=>true
theorem d9 (h:NH N N' cE sc=true) (j i:Nat) (e:cE[j]? = some (some i)):∃x,N[i]? = some x/\N'[j]? = some x/\sc.names.lookup x=some .free:=by
 have hj:j < cE.length:=(cu.mp e).1;have z:=iW.mp h j (nU.mpr hj);rw[e]at z
 dsimp only at z
 split at z
 ·rename_i x q
  obtain⟨z1,z2⟩:=jY.mp z;exact⟨x,q,eN.mp z1,eN.mp z2⟩
 ·cases z
structure Nm (x:Str):Prop where
 lo:1<=x.length
 hi:x.length<=8
 az:∀c∈x.cps.toList,97<=c/\c<=122
def sign (c:Nat):Str:=⟨#[c]⟩
theorem JF:∀ (cs:List Nat) (acc:Array Nat),(cs.map sign).foldl (fun acc p=>acc++("" : Str).cps++p.cps) acc=acc++cs.toArray
 |[],acc=>by simp
 |c::cs,acc=>by
  rw[cf,List.foldl_cons,JF cs];have e:("" : Str).cps = #[]:=rfl;rw[e]
  apply IT.mp
  simp[sign]
theorem Ta (cs:List Nat):Txt.join ("" : Str) (cs.map sign)=⟨cs.toArray⟩:=by
 unfold Txt.join Builtin.Str.glued;cases cs with
 |nil=>rfl
 |cons c cs =>
  rw[cf];show(⟨(cs.map sign).foldl _ (sign c).cps⟩:Str)=_;rw[JF]
  apply eY Str.mk
  apply IT.mp
  simp[sign]
theorem Tb {z:Str}{c:Nat} (h:c∈(Txt.slice z none (some 6)).cps.toList):c∈z.cps.toList:=by
 unfold Txt.slice at h;split at h
 ·exact h
 ·simp only[qF]at h
  obtain⟨i,_,e⟩:=h;obtain⟨_,e2⟩:=yT.mp e;rw[<-e2];simp
theorem JG (z:Str):(Txt.slice z none (some 6)).length<=6:=by
 have hi:(Builtin.Str.strSliceIndices none (some 6) 1 z.length).length<=6:=by
  unfold Builtin.Str.strSliceIndices sliceRange;simp only[show(1:Int) > 0 by decide,mE,aE,BP]
  split <;> (try split) <;> omega
 unfold Txt.slice;split
 ·rename_i h
  have e:(Builtin.Str.strSliceIndices none (some 6) 1 z.length).length=z.length:=by simpa using h
  omega
 ·show(List.filterMap _ _).toArray.size<=6
  rw[cD];exact cK (BQ _ _) hi
theorem wL (a b:Str):(a++b).cps=a.cps++b.cps:=rfl
theorem V1 {z:Str}{c:Nat} (hz:∀c∈z.cps.toList,97<=c/\c<=122) (hc:97<=c/\c<=122):Nm (Txt.slice z none (some 6)++sign c++("q" : Str)):=by
 have hq:("q" : Str).cps = #[113]:=by decide +kernel
 have hl:=JG z;have e:(Txt.slice z none (some 6)++sign c++("q" : Str)).length=(Txt.slice z none (some 6)).length+2:=by
  show(_:Array Nat).size=_;rw[wL,wL,hq];show(_ ++ #[c] ++ #[113]).size=_;rw[BR,BR];rfl
 refine⟨by omega,by omega,fun d hd=>?_⟩
 rw[wL,wL,hq]at hd;have sg:d∈(Txt.slice z none (some 6)).cps.toList\/d=c\/d=113:=by
  have:d∈((Txt.slice z none (some 6)).cps ++ #[c] ++ #[113]).toList:=hd;simp at this;rcases this with h|h|h
  ·exact .inl (by simpa using h)
  ·exact .inr (.inl h)
  ·exact .inr (.inr h)
 rcases sg with h|h|h
 ·exact hz d (Tb h)
 ·rw[h];exact hc
 ·rw[h];omega
theorem US {p:Str}{c d:Nat} (h:p++sign c++("q" : Str)=p++sign d++("q" : Str)):c=d:=by
 have h1:=eY (fun s:Str=>s.cps.toList) h;simp only[wL]at h1;have h2:p.cps.toList++([c]++("q" : Str).cps.toList)=p.cps.toList++([d]++("q" : Str).cps.toList):=by
  simpa [sign,Array.toList_append] using h1
 have h3:=List.append_cancel_left h2
 simpa using h3
theorem wM:∀ {ys found:List Str},ys.Nodup->found.length < ys.length -> ∃y∈ys,y ∉ found
 |[],found,_,h=>by simp at h
 |y::ys,found,nd,h=>by
  obtain⟨n1,n2⟩:=gE.mp nd
  by_cases hy:y∈found
  ·have hl:=ahH hy
   have hp:=Rq hy;obtain⟨z,hz,hn⟩:=wM (found:=found.erase y) n2 (by rw[hl];rw[cO]at h;omega)
   refine⟨z,bV _ hz,fun q=>hn ?_⟩;have ne:z≠y:=fun e=>n1 (by rw[<-e];exact hz)
   exact(Rr ne).mpr q
  ·exact⟨y,aV,hy⟩
theorem wB (K:Frag) (h:X.K=K):cN X (compareOp .In) (Aw K false):=by subst h;exact Cw
theorem Cj (K:Frag) (h:X.K=K):cN X (compareOp .NotIn) (Aw K true):=by subst h;exact zb
theorem CA (K:Frag) (h:X.K=K):uZ X (Nv K):=by subst h;exact cz
theorem zw (K:Frag) (h:X.K=K):uZ X (Nw K):=by subst h;exact pT
theorem Kg {l:Expr} (K:Frag) (h:X.K=K) (hl:PE X l tl):PI X tg l (MK K tl):=by subst h;exact fw hl
theorem KY {l:Expr} (K:Frag) (h:X.K=K) (hl:PE X l tl):PI X tg l (Nl K tl):=by subst h;exact pS hl
theorem j6 (x:Str) (ys:List Str):Av (.str x) (ys.map V.str)=decide (x∈ys):=by
 unfold Av;rw[IU]
 induction ys with
 |nil=>simp
 |cons y ys ih =>
  rw[tq,ih];show((y==x) || decide (x∈ys))=decide (x∈y::ys)
  by_cases h:y=x
  ·subst h;simp
  ·have h':(y==x)=false:=pA.mpr h
   rw[h',Rt];have:x∈y::ys ↔ x∈ys:=by simp[aH h]
   simp[this]
theorem jD (ys:List Str):(ys.map V.str).all m5=true:=by
 rw[iW];intro v hv;obtain⟨y,_,rfl⟩:=bw.mp hv
 rfl
def i' (H:Hp) (a:Addr):Hp:=fun b=>if b=a then none else H b
theorem lN (n:b≠a):i' H a b=H b:=by unfold i';rw[ao n]
theorem JH (e:i' H a b=some o):b≠a/\H b=some o:=by
 unfold i' at e;split at e
 ·cases e
 next n=>exact⟨n,e⟩
theorem JI (e:H b=none):i' H a b=none:=by
 unfold i';split
 ·rfl
 ·exact e
theorem Inv.LH (I:Inv X pins σ H s) (e:H a=some (bE C dx a)) (hd:∀d,dx=some d -> ∃fs,H d=some (dv d fs)):∃ox od t,InstAt s.heap a ox C od/\ox={ cls:= .ref C,dict:=dx,data:= .fields #[.ref t,.none,.none,.none,.bool false,.none] }:=by
 obtain⟨t,at_⟩:=I.excAt e;cases dx with
 |none=>exact⟨_,none,t,⟨at_,rfl,rfl,True.intro⟩,rfl⟩
 |some d =>
  obtain⟨fs,ed⟩:=hd d rfl;obtain⟨_,mA,n,r,_⟩:=I.wx ed;obtain⟨od,mi,_⟩:=tO n;exact⟨_,some od,t,⟨at_,rfl,rfl,mi⟩,rfl⟩
theorem Inv.hidden (I:Inv X pins σ H s) (hx:X.ex = []) (hs:X.stack=X.env::X.outer) (hf:X.env.frame=some X.env.locals) (ha:H a=some (bE C dx a)) (h0:X.jb a=none)
  (k:(hideAll s.heap (a::cM X.stack)).StaysIn h') (up:s.heap.UpToSlots h'):Un X.fs [] X.jb (i' H a) X.cH.heap h'/\cI X.prog X.w (i' H a) h':=by
 have ub:Un X.fs [] X.jb H X.cH.heap s.heap:=by have:=I.base;rw[hx]at this;exact this
 have xB:∀b,b∈cM X.stack->b=X.env.locals\/b∈X.fs:=fun b hb=>by
  have:=I.wF b hb;rcases aY.mp this with z|z
  ·exact .inl z
  ·exact .inr z
 have nA:∀ {b:Addr},H b=none->b≠a:=fun e z=>by subst z;rw[ha]at e;cases e
 have get:∀b o,s.heap.get? b=some o->b≠a->b ∉ cM X.stack->h'.get? b=some o:=fun b o e n m=>k b o (hideAll_get _ e fun z=>by
  rcases aY.mp z with z|z
  ·exact n z
  ·exact m z)
 have xC:∀b o,X.cH.heap.get? b=some o->b≠X.env.locals:=fun b o e z=>by
  have h1:=aW e;have h2:=I.ok.above;subst z;exact absurd h1 (Ru.mpr h2)
 have xj:∀b o,b∈X.fs->s.heap.get? b=some o -> ∃sl,h'.get? b=some { o with slots:=sl }:=fun b o m e=>by
  obtain⟨_,o',e',nf⟩:=(I.f').mem m;rw[e]at e';cases e'
  exact up b o e nf
 refine⟨⟨fun b o e n m _=>?_,fun b o e n m _=>?_,fun b o e n _=>JI (ub.free b o e n (by simp)),fun b o e _=>?_,fun b xs e=>?_,fun b o u e=>?_,fun b ps e=>?_⟩,fun b o e=>?_⟩
 ·have e1:=ub.keep b o e n m (by simp)
  refine get b o e1 (nA (ub.free b o e n (by simp))) fun z=>?_
  rcases xB b z with z|z
  ·exact xC b o e z
  ·exact m z
 ·obtain⟨sl,e1⟩:=ub.slot b o e n m (by simp)
  obtain⟨xO,e2⟩:=xj b _ m e1;exact⟨xO,e2⟩
 ·obtain⟨o',e1⟩:=ub.there b o e (by simp)
  by_cases m:b∈X.fs
  ·obtain⟨sl,e2⟩:=xj b _ m e1
   exact⟨_,e2⟩
  ·refine⟨o',get b o' e1 (fun z=>?_) fun z=>?_⟩
   ·subst z
    have:=ub.free b o e h0 (by simp)
    rw[ha]at this;cases this
   ·rcases xB b z with z|z
    ·exact xC b o e z
    ·exact m z
 ·have e1:=ub.kf b xs e
  rw[lN (b6 e1 ha (by intro z;cases z))];exact e1
 ·have e1:=ub.jH b o u e
  rw[lN (b6 e1 ha (by intro z;cases z))];exact e1
 ·obtain⟨mo,e1⟩:=ub.kh b ps e
  exact⟨mo,by rw[lN (b6 e1 ha (by intro z;cases z))];exact e1⟩
 ·obtain⟨n,e1⟩:=JH e
  have rL:∀ {c:Addr}{u:HO},H c=some u->c ∉ cM X.stack:=fun q m=>by
   have:=I.zF _ m;rw[q]at this;cases this
  refine(I.ay b o e1).fE (fun c u hc q=>?_) (fun c q=>?_) fun c xs q=>?_
  ·rcases hc with rfl|q1
   ·exact get _ u q n (rL e1)
   ·exact get c u q (b6 q1 ha (by intro z;cases z)) (rL q1)
  ·rw[lN (b6 q ha (by intro z;cases z))];exact q
  ·rw[lN (b6 q ha (by intro z;cases z))];exact q
def Cx.ip (X:Cx) (a:Addr):Cx:={ X with A:=X.A.mark (some (.ref a)),calm:=false,xe:=fun _ _=>False }
theorem Inv.ip (I:Inv X pins σ H s) (a:Addr):Inv (X.ip a) pins σ H s:=
 ⟨⟨I.ok.mod,I.ok.kind,I.ok.glob,I.ok.blt,I.ok.above,I.ok.inj,I.ok.has,I.ok.oQ,(fun z=>Bool.noConfusion (show false=true from z)),I.ok.frames,I.ok.l0,I.ok.nD,I.ok.bs,I.ok.ko,I.ok.oJ,I.ok.ng,I.ok.f',I.ok.lu⟩,I.os,I.bare,I.base,I.loc,I.cell,I.free,I.ir,I.pin,I.ay,I.len⟩
theorem Inv.uncaught {Y:Cx} (ok:X.Ok) (I:Inv (X.ip a) pins σ H s):Inv X pins σ H s:=
 ⟨ok,I.os,I.bare,I.base,I.loc,I.cell,I.free,I.ir,I.pin,I.ay,I.len⟩
theorem UT {its:Array Value} (tr:Nat->Bool) (hh:A.in1.handled=none) (bS:l≠it) (hl:g.IsList l its)
  (ht:∀i v,its[i]? = some v -> ∃a ws,v = .ref a/\a≠it/\IsTup g a ws/\ws.size<=sizeLine/\tr i = !ws.isEmpty):∀ (k i:Nat) (s:Shared),its.size - i=k->i<=its.size->(∀b o,b≠it->g.get? b=some o->s.heap.get? b=some o)->s.heap.IsListIter it l i ->
  (∀h' tk,(∀b o,b≠it->g.get? b=some o->h'.get? b=some o)->R (.ok (.ret (.bool (((List.range its.size).drop i).any tr)))) { s with heap:=h',toks:=tk }) ->
  codeAny (model P w) A (.builtin "any.loop" ⟨[.ref it],[]⟩) R s:=by
 intro k
 induction k with
 |zero =>
  intro i s hk hi kp hit hR;obtain rfl:i=its.size:=by omega
  refine lJ F.entry_any_loop (?_:wpAny _ _ _ _ _ _);rw[show A.under (.builtin "any.loop" ⟨[.ref it],[]⟩)=A.in1 from qL IV _];show wpAny _ _ (pyNext (.ref it) >>= _) _ _ s;have ya:s.heap.IsList l its:=hl.at fun o e=>kp l o bS e;refine ag (wpAny_pyNext_list_end hh hit ya (by simp) fun h' ex=>ag (nW (aA ?_)))
  have:=hR h' s.toks fun b o n e=>ex b o n (kp b o n e);rw[Rv (by simp)]at this
  exact this
 |succ k ih =>
  intro i s hk hi kp hit hR;have aT:i < its.size:=by omega
  have hd:(List.range its.size).drop i=i::(List.range its.size).drop (i+1):=by rw[BS (by simpa using aT),List.getElem_range]
  refine lJ F.entry_any_loop (?_:wpAny _ _ _ _ _ _);rw[show A.under (.builtin "any.loop" ⟨[.ref it],[]⟩)=A.in1 from qL IV _];show wpAny _ _ (pyNext (.ref it) >>= _) _ _ s;have ya:s.heap.IsList l its:=hl.at fun o e=>kp l o bS e;have hx:its[i]? = some its[i]:=by simp[aT]
  obtain⟨a,ws,ea,na,Zv,hz,htr⟩:=ht i _ hx;refine ag (wpAny_pyNext_list_item hit ya hx fun h' Zw sb=>?_);have u9:∀b o,b≠it->g.get? b=some o->h'.get? b=some o:=fun b o n e=>sb.extBut b o n (kp b o n e);have Yc:IsTup h' a ws:=by
   obtain⟨o,ho,r⟩:=Zv;exact⟨o,u9 a o na ho,r⟩
  rw[ea];refine ag (eu (truthy_tuple (s:={ s with heap:=h' }) Yc (by rw[aI]at hz;omega) (ag (wpAny_letGo ?_))))
  rw[<-htr];cases hb:tr i with
  |false =>
   refine aA ⟨vM IV _,ih (i+1) _ (by omega) aT u9 Zw fun h2 tk2 k2=>?_⟩
   have:=hR h2 tk2 k2;rw[hd,tq,hb,Rt]at this;exact this
  |true =>
   refine ag (nW (aA ?_));have:=hR h' (s.toks+1+1) u9;rw[hd,tq,hb,Bool.true_or]at this;exact this
theorem TY (hc:X.calm=true):eV X (.builtin "any") (fun xs H Q=>∃ (p:Addr) (ys:List V) (rs:List (List V)),xs = [.ref p]/\aj X.K H p ys/\Paired (fun y r=>∃a,y=V.ref a/\aN X.K H a r) ys rs/\Q (.bl (rs.any fun r=>!r.isEmpty)) H):=by
 intro pins s σ H xs us Q I r h;obtain⟨p,ys,rs,rfl,hq,pr,q⟩:=h;obtain⟨u,rfl,rx⟩:=vals1 r;cases rx
 obtain⟨its,rv,pl,hz⟩:=I.list hq;have hlen:=rv.length;have all:∀i v,its[i]? = some v -> ∃a ws,v = .ref a/\IsTup s.heap a ws/\ws.size<=sizeLine/\(rs.map fun r=>!r.isEmpty).getD i false = !ws.isEmpty:=by
  intro i v e;clear q hq pl hz r
  induction rv generalizing rs i with
  |nil=>simp at e
  |cons r1 rt ih =>
   cases pr with
   |cons p1 pt =>
    cases i with
    |zero =>
     simp at e;subst e;obtain⟨a,rfl,ha⟩:=p1;cases r1
     obtain⟨ws,r2,ht,AH⟩:=I.tuple ha;have ji:=r2.length;exact⟨a,_,rfl,ht,by rw[cD];omega,by rw[Ci r2];rfl⟩
    |succ i=>exact ih _ pt (by simpa using hlen) i (by simpa using e)
 have hsz:its.toArray.size=rs.length:=by rw[cD,<-hlen];exact mx pr
 have fin:(List.range its.toArray.size).any (fun i=>(rs.map fun r=>!r.isEmpty).getD i false)=rs.any fun r=>!r.isEmpty:=by
  rw[hsz]
  apply vJ.mpr
  simp only[tw,nU]
  constructor
  ·rintro⟨i,hi,e⟩
   refine⟨rs[i],iX hi,?_⟩
   simpa [List.getD,hi] using e
  ·rintro⟨r,hr,e⟩
   obtain⟨i,hi,rfl⟩:=BU hr;exact⟨i,hi,by simpa [List.getD,hi] using e⟩
 refine call_function_tree F.kind_any F.plain_any F.entry_any (F.args_any1 (.ref p)) (?_:wpAny _ _ _ _ _ _);unfold Builtin.«any»;refine ag (m:=oneArg "any" _) (aA (ag (BI pl.isList ?_)));have new:∀b o,s.heap.get? b=some o->b≠s.heap.objs.size:=fun b o e=>bT (aW e);obtain⟨ol,yb,_⟩:=id pl.isList;refine aA ⟨vM IV _,UT (g:=s.heap) (fun i=>(rs.map fun r=>!r.isEmpty).getD i false) (I.ok.hd hc) (new p ol yb) pl.isList (fun i v e=>?_) _ 0 _ rfl (bX _) (fun b o n e=>bU _ e) ⟨_,eM _ rfl,rfl,rfl⟩ fun h' tk kp=>?_⟩
 ·obtain⟨a,ws,ea,ht,AH,e2⟩:=all i v (by simpa using e)
  obtain⟨o,ho,_⟩:=id ht;exact⟨a,ws,ea,new a o ho,ht,AH,e2⟩
 ·rw[Rw,fin]
  exact⟨.bl _,H,I.kept (t':=tk) fun b o e=>kp b o (new b o e) e,rfl,q⟩
theorem vU (hc:X.calm=true):eV X (.builtin "all") (fun xs H Q=>∃ (p:Addr) (bs:List Bool),xs = [.ref p]/\aj X.K H p (bs.map V.bl)/\Q (.bl (bs.all id)) H):=by
 intro pins s σ H xs us Q I r h;obtain⟨p,bs,rfl,hq,q⟩:=h;obtain⟨u,rfl,rx⟩:=vals1 r;cases rx
 obtain⟨its,rv,pl,hz⟩:=I.list hq;have hlen:=rv.length;have vals:its=bs.map Value.bool:=by
  clear q hq pl hz r hlen
  induction bs generalizing its with
  |nil=>cases rv;rfl
  |cons b bs ih =>
   cases rv with
   |cons r1 rt=>cases r1;rw[ih _ rt];rfl
 have new:∀b o,s.heap.get? b=some o->b≠s.heap.objs.size:=fun b o e=>bT (aW e);obtain⟨ol,yb,_⟩:=id pl.isList;refine call_all_walk (BI pl.isList ?_);refine⟨s.heap.objs.size,_,_,_,_,_,fun i=>bs.getD i true,rfl,Walks.list (A:=X.A.in1) (I.ok.hd hc) s.heap.objs.size p (new p ol yb) its.toArray,⟨⟨_,eM _ rfl,rfl,rfl⟩,pl.isList.at fun o e=>bU _ e⟩,fun i v s2 Q2 E2 hv qw=>?_,fun h' tk kp=>?_⟩
 ·rw[vals]at hv
  have:bs[i]?.map Value.bool=some v:=by simpa using hv
  obtain⟨b,hb,rfl⟩:=iV.mp this;refine my ?_;have e:bs.getD i true=b:=by rw[eO,hb];rfl
  exact e ▸ qw
 ·have fin:(List.range its.toArray.size).all (fun i=>bs.getD i true)=bs.all id:=by
   have hs:its.toArray.size=bs.length:=by rw[vals];simp
   rw[hs]
   apply vJ.mpr
   simp only[iW,nU]
   constructor
   ·intro h b hb
    obtain⟨i,hi,rfl⟩:=BU hb
    simpa [List.getD,hi] using h i hi
   ·intro h i hi
    simpa [List.getD,hi] using h bs[i] (iX hi)
  rw[fin];exact⟨.bl _,H,I.kept (t':=tk) fun b o e=>kp b o (by simpa using new b o e) (bU _ e),rfl,q⟩
def V2:V->List V->Hp->VK->Prop:=fun x vs H Q=>∃ (l:Addr) (ys:List Str) (y:Str) (j:Nat),x = .ref l/\vs = [.str y]/\H l=some (.lst (ys.map V.str))/\ys[j]? = some y/\(∀m,m < j->ys[m]? ≠ some y)/\Q (.int j) H
theorem UU:Fd X "list.index" V2:=by
 intro pins s σ H x vs v us Q I rx rv h;obtain⟨l,ys,y,j,rfl,rfl,hH,hj,iE,q⟩:=h;cases rx
 obtain⟨u,rfl,t,rfl⟩:=rv.one;obtain⟨z,its,n,r,hl,e⟩:=I.xx hH;have cC:j < its.length:=by
  have:=(cu.mp hj).1;rw[<-hl,aE];exact this
 have at_:∀m (hm:m < its.length),∃ (w:Str) (t':Tok),ys[m]? = some w/\its[m] = .str w t':=fun m hm=>by
  have jk:m < ys.length:=by rw[<-hl,aE]at hm;exact hm
  obtain⟨u,hu,t',ht⟩:=r.get (i:=m) (x:= .str ys[m]) (by rw[f6,b4 jk];rfl)
  rw[b4 hm]at hu;exact⟨ys[m],t',b4 jk,by rw[fZ hu];exact ht⟩
 have fl:(ys.map V.str).all m5=true:=jD ys;refine IG F.slot_list_index ⟨_,e,rfl⟩ F.entry_list_index (F.args_list_index_2 _ _) (SeqAt.list_indexAt l its.toArray n none #[] (.str y t) (gX (.str y)) j (by simpa using cC) ?_ ?_ ?_) ⟨e,?_,?_⟩
 ·rw[aI]at z;have:=hl;omega
 ·obtain⟨w,t',hw,ew⟩:=at_ j cC
  rw[hj]at hw;cases hw;show gX (.str y) (its.toArray[j])=true;rw[ahI,ew,zM (y:= .str y) ⟨t',rfl⟩ rfl];show decide _=true;exact cZ rfl
 ·intro m hm hmj
  have jk:m < its.length:=by simpa using hm
  obtain⟨w,t',hw,ew⟩:=at_ m jk;show gX (.str y) (its.toArray[m])=false;rw[ahI,ew,zM (y:= .str w) ⟨t',rfl⟩ rfl];have ne:=iE m hmj;rw[hw]at ne;show decide _=false;exact gv fun z=>ne (by rw[z])
 ·intro u hu
  exact tV (x:= .str y) ⟨t,rfl⟩ rfl r fl u (by simpa using hu)
 ·exact⟨.int j,H,I.tok _,⟨_,rfl⟩,q⟩
section
variable{p2 p3 p4:Pos}{k:Nat}
def Zx (K:Frag) (te:TE):TE:=fun σ H Q=>te σ H fun x H2=>∃ (l:Addr) (xs:List V),x = .ref l/\aj K H2 l xs /\ ∀p,H2 p=none->Q (.ref p) (upd H2 p (.lst xs.reverse))
theorem Xb (he:PE X e te):PE X (.Subscript e (.Slice none none (some (.UnaryOp .USub (.Constant (.int 1) k p3) p4)) p2) pos) (Zx X.K te):=by
 intro pins s σ H Q I h;refine Subscript_ (aC (he pins s σ H _ I h) fun v s1 ⟨x,H1,I1,r1,l,xs,ex,hx,q⟩=>?_);subst ex;cases r1
 refine wpAny_Slice ?_;rw[Rj];refine aA (aA ?_);refine aC (k7 (xg wJ aG) pins s1 σ H1 (fun o H'=>o=some (-1)/\H'=H1) I1 ⟨_,rfl,_,rfl,rfl,rfl⟩) fun vs s4 ⟨o,H4,I4,ps,eo,eH⟩=>?_;subst eo eH;have I5:Inv X pins σ H4 { s4 with heap:=s4.heap.push { cls:= .type "slice",data:= .fields #[.none,.none,vs] } }:=I4.kept (t':=s4.toks) fun b ob z=>bU _ z;obtain⟨its,r,ht,hz⟩:=I5.list hx;have hlen:=r.length;refine tail_any (ops:=_) ht.isList.typeIs Rk.lookup ?_ (by with_unfolding_all rfl)
 refine wpAny_getItem_list_slice ht.isList (Heap.IsSliceOf.new ..) .none .none ps (by decide) ?_ (by rw[cD];omega)
 rw[krv_pick];refine⟨.ref _,_,I5.laid (t':=s4.toks) (o:= .lst xs.reverse) (fun b ob z=>bU _ z) (aK _) ?_,rfl,q _ (I5.ay.fresh (aK _))⟩;exact⟨by rw[IW];exact hz,its.reverse,0,r.reverse,eM _ rfl⟩
end
end L2
namespace L2
open PySem PySem.Spec PyProof.Rows
section
variable{κ:Type} [DecidableEq κ]
def cb (kvs:List (κ×V)) (k:κ):Option V:=(kvs.find? fun kv=>decide (kv.1=k)).map (·.2)
def putK (kvs:List (κ×V)) (k:κ) (v:V):List (κ×V):=
 if (kvs.any fun kv=>decide (kv.1=k))=true then kvs.map (fun kv=>if kv.1=k then (kv.1,v) else kv) else kvs ++ [(k,v)]
theorem j7 {p:κ×V}{r:List (κ×V)}{k:κ} (e:p.1=k):cb (p::r) k=some p.2:=by simp[cb,yU,e]
theorem j8 {p:κ×V}{r:List (κ×V)}{k:κ} (e : ¬ p.1=k):cb (p::r) k=cb r k:=by simp[cb,yU,e]
theorem tW (k:κ):∀kvs:List (κ×V),(kvs.any fun kv=>decide (kv.1=k))=(cb kvs k).isSome
 |[]=>rfl
 |p::r=>by
  rw[tq]
  by_cases e:p.1=k
  ·simp only[j7 e,cZ e,Bool.true_or,Option.isSome_some]
  ·rw[j8 e,gv e,Rt];exact tW k r
theorem KZ (k j:κ) (y:V):∀kvs:List (κ×V),cb (kvs.map fun kv=>if kv.1=k then (kv.1,y) else kv) j=(cb kvs j).map fun x=>if j=k then y else x
 |[]=>rfl
 |p::r=>by
  have ih:=KZ k j y r;rw[cf]
  by_cases h:p.1=k
  ·rw[au h]
   by_cases e:p.1=j
   ·rw[j7 (p:=(p.1,y)) e,j7 e,BG,au (e.symm.trans h)]
   ·rw[j8 (p:=(p.1,y)) e,j8 e,ih]
  ·rw[ao h]
   by_cases e:p.1=j
   ·rw[j7 (p:=p) e,j7 e,BG,ao (fun z=>h (e.trans z))]
   ·rw[j8 (p:=p) e,j8 e,ih]
theorem Kh (k j:κ) (y:V):∀kvs:List (κ×V),cb kvs k=none->cb (kvs ++ [(k,y)]) j=if j=k then some y else cb kvs j
 |[],_=>by
  by_cases e:k=j
  ·rw[au e.symm];exact j7 (p:=(k,y)) e
  ·rw[ao (fun z=>e z.symm)];exact j8 (p:=(k,y)) e
 |p::r,hn=>by
  rw[List.cons_append];have hk : ¬ p.1=k:=fun z=>by rw[j7 z]at hn;cases hn
  rw[j8 hk]at hn;have ih:=Kh k j y r hn
  by_cases e:p.1=j
  ·rw[j7 e,j7 e,ao (fun z=>hk (e.trans z))]
  ·rw[j8 e,j8 e,ih]
theorem vZ (kvs:List (κ×V)) (k j:κ) (y:V):cb (putK kvs k y) j=if j=k then some y else cb kvs j:=by
 unfold putK
 by_cases a:(kvs.any fun kv=>decide (kv.1=k))=true
 ·rw[au a,KZ]
  rw[tW]at a
  by_cases e:j=k
  ·obtain⟨x,hx⟩:=ahn.mp a
   rw[au e,e,hx,BG,au rfl]
  ·rw[ao e]
   cases cb kvs j with
   |none=>rfl
   |some x=>rw[BG,ao e]
 ·rw[ao a]
  refine Kh k j y kvs ?_;rw[tW]at a;cases q:cb kvs k with
  |none=>rfl
  |some x=>rw[q]at a;exact(a rfl).elim
theorem Ce (kvs:List (κ×V)) (k:κ) (v:V):(putK kvs k v).length<=kvs.length+1:=by
 unfold putK;split
 ·rw[aE];omega
 ·rw[cY,cO,yS];omega
theorem UW {kvs:List (κ×V)}{k:κ} (v:V) (h:cb kvs k=none):putK kvs k v=kvs ++ [(k,v)]:=by
 unfold putK;rw[tW,h];exact ao (by decide)
theorem ix.vV {o:Option V}{u:Option Value} (r:ix o u):o.isSome=u.isSome:=by
 cases o with
 |none=>cases u with
  |none=>rfl
  |some _=>exact(show False from r).elim
 |some _=>cases u with
  |none=>exact(show False from r).elim
  |some _=>rfl
theorem KV.val {kvs:List (κ×V)}{vs:List (κ×Value)} (r:KV kvs vs) (k:κ):ix (cb kvs k) (valueAt vs k):=by
 unfold KV at r
 induction r with
 |nil=>exact True.intro
 |@cons p q ps qs h t ih =>
  obtain⟨h1,h2⟩:=h
  by_cases e:p.1=k
  ·have e':q.1=k:=h1.symm.trans e
   have b:valueAt (q::qs) k=some q.2:=by simp[valueAt,yU,e']
   rw[j7 e,b];exact h2
  ·have e' : ¬ q.1=k:=fun z=>e (h1.trans z)
   have b:valueAt (q::qs) k=valueAt qs k:=by simp[valueAt,yU,e']
   rw[j8 e,b];exact ih
theorem KV.any {kvs:List (κ×V)}{vs:List (κ×Value)} (r:KV kvs vs) (k:κ):(kvs.any fun kv=>decide (kv.1=k))=vs.any fun kv=>decide (kv.1=k):=by
 unfold KV at r
 induction r with
 |nil=>rfl
 |cons h t ih=>rw[tq,tq,ih,h.1]
theorem KV.En {kvs:List (κ×V)}{vs:List (κ×Value)} (r:KV kvs vs) (k:κ) (ry:RelV y u) :
  KV (kvs.map fun kv=>if kv.1=k then (kv.1,y) else kv) (vs.map fun kv=>if kv.1=k then (kv.1,u) else kv):=by
 unfold KV at r ⊢
 induction r with
 |nil=>exact .nil
 |@cons p q ps qs h t ih =>
  rw[cf,cf];refine .cons ?_ ih;obtain⟨h1,h2⟩:=h
  by_cases e:p.1=k
  ·rw[au e,au (h1.symm.trans e)];exact⟨h1,ry⟩
  ·rw[ao e,ao (fun z=>e (h1.trans z))];exact⟨h1,h2⟩
theorem KV.put {kvs:List (κ×V)}{vs:List (κ×Value)} (r:KV kvs vs) (k:κ) (ry:RelV y u):KV (putK kvs k y) (stored vs k u):=by
 unfold putK stored;rw[r.any k]
 by_cases e:(vs.any fun kv=>decide (kv.1=k))=true
 ·rw[au e,au e];exact r.En k ry
 ·rw[ao e,ao e];exact Paired.snoc r ⟨rfl,ry⟩
theorem KV.keys {kvs:List (κ×V)}{vs:List (κ×Value)} (r:KV kvs vs):kvs.map (·.1)=vs.map (·.1):=by
 unfold KV at r
 induction r with
 |nil=>rfl
 |cons h t ih=>rw[cf,cf,ih,h.1]
theorem KV.length {kvs:List (κ×V)}{vs:List (κ×Value)} (r:KV kvs vs):kvs.length=vs.length:=mx r
end
theorem um {k:Key} (r:RelV (kV k) u):(c9 P w).is k u=true:=by
 cases k with
 |inl i=>obtain⟨t,e⟩:=(show ∃t,u=Value.int i t from r);subst e;exact Sg P w i t
 |inr x=>obtain⟨t,e⟩:=(show ∃t,u=Value.str x t from r);subst e;exact Sh P w x t
theorem Ki {P:Program}{w:World}:∀ {ks:List Key}{us:List Value},Vals (ks.map kV) us->ItemsAre (c9 P w) ks us
 |[],_,r=>by rw[List.map_nil]at r;cases r;exact .nil
 |k::ks,_,r=>by
  rw[cf]at r;cases r with
  |cons h t=>exact .cons (um h) (Ki t)
abbrev KT (H:Hp):List (List Key×V)->List (List Key×Addr×Value)->Prop:=Paired fun p q=>p.1=q.1/\H q.2.1=some (.tup (p.1.map kV))/\RelV p.2 q.2.2
theorem KT.val {kvs:List (List Key×V)}{xs:List (List Key×Addr×Value)} (r:KT H kvs xs) (k:List Key):ix (cb kvs k) ((atKey xs k).map (·.2)):=by
 induction r with
 |nil=>exact True.intro
 |@cons p q ps qs h t ih =>
  obtain⟨h1,_,h2⟩:=h
  by_cases e:p.1=k
  ·have e':q.1=k:=h1.symm.trans e
   have b:atKey (q::qs) k=some q.2:=by simp[atKey,yU,e']
   rw[j7 e,b];exact h2
  ·have e' : ¬ q.1=k:=fun z=>e (h1.trans z)
   have b:atKey (q::qs) k=atKey qs k:=by simp[atKey,yU,e']
   rw[j8 e,b];exact ih
theorem KT.En {kvs:List (List Key×V)}{xs:List (List Key×Addr×Value)} (r:KT H kvs xs) (k:List Key) (ry:RelV y u) :
  KT H (kvs.map fun kv=>if kv.1=k then (kv.1,y) else kv) (xs.map (putAt k u)):=by
 induction r with
 |nil=>exact .nil
 |@cons p q ps qs h t ih =>
  rw[cf,cf];refine .cons ?_ ih;obtain⟨h1,h2,h3⟩:=h;unfold putAt
  by_cases e:p.1=k
  ·rw[au e,au (h1.symm.trans e)];exact⟨h1,h2,ry⟩
  ·rw[ao e,ao (fun z=>e (h1.trans z))];exact⟨h1,h2,h3⟩
theorem KT.put {kvs:List (List Key×V)}{xs:List (List Key×Addr×Value)} (r:KT H kvs xs) (k:List Key) (hb:H b=some (.tup (k.map kV))) (ry:RelV y u) :
  KT H (putK kvs k y) (storedH xs k b u):=by
 have e:(kvs.any fun kv=>decide (kv.1=k))=(atKey xs k).isSome:=by
  rw[tW,(r.val k).vV,Rx]
 unfold putK storedH;rw[e]
 by_cases q:(atKey xs k).isSome=true
 ·rw[au q,au q];exact r.En k ry
 ·rw[ao q,ao q];exact Paired.snoc r ⟨rfl,hb,ry⟩
theorem KT.keeps {kvs:List (List Key×V)}{xs:List (List Key×Addr×Value)} (r:KT H kvs xs) (ht:∀b ys,H b=some (.tup ys)->H' b=some (.tup ys)):KT H' kvs xs:=
 Paired.z6 r fun _ _ z=>⟨z.1,ht _ _ z.2.1,z.2.2⟩
theorem MQ {u:HO} (ok:cI P w H h) (e:Rd H a u):br P w H h a u:=e.ok ok
theorem uo (ok:cI P w H h) (e:Rd H a (.dK kvs)):kvs.length<=sizeLine/\(a==sysModules)=false /\ ∃vs,KV kvs vs/\h.DictOf (c9 P w) a vs:=
 show br P w H h a (.dK kvs) from MQ ok e
theorem MR (ok:cI P w H h) (e:H a=some (.dK kvs)):kvs.length<=sizeLine/\(a==sysModules)=false /\ ∃vs,KV kvs vs/\h.DictOf (c9 P w) a vs:=uo ok (.inl e)
theorem wN {ks:List Key} (ok:cI P w H h) (e:H a=some (.tup (ks.map kV))):(tupleKind (c9 P w)).is h ks a:=by
 obtain⟨_,its,r,o,h1,h2,n,h3,_⟩:=(show br P w H h a (.tup (ks.map kV)) from ok a _ e);exact⟨o,its.toArray,n,h1,h2,h3,by simpa using Ki r⟩
theorem xk {kvs:List (List Key×V)} (ok:cI P w H h) (e:Rd H a (.dT kvs)):kvs.length<=sizeLine/\(a==sysModules)=false /\
  ∃xs,KT H kvs xs/\h.DictOfH (tupleKind (c9 P w)) a xs:=by
 obtain⟨z,y,xs,r,o,es,ep,h1,h2,h3,h4,h5⟩:=(show br P w H h a (.dT kvs) from MQ ok e);refine⟨z,y,xs,r,o,es,ep,h1,h2,h3,h4,fun x hx=>?_,h5⟩;have all:∀ {l:List (List Key×V)}{m:List (List Key×Addr×Value)},KT H l m -> ∀x∈m,(tupleKind (c9 P w)).is h x.1 x.2.1:=by
  intro l m q
  induction q with
  |nil=>intro x hx;exact nomatch hx
  |@cons p q ps qs hq t ih =>
   intro x hx;rcases aY.mp hx with e|hx
   ·subst e
    exact wN ok (by rw[<-hq.1];exact hq.2.1)
   ·exact ih x hx
 exact all r x hx
theorem Yd {kvs:List (List Key×V)} (ok:cI P w H h) (e:H a=some (.dT kvs)):kvs.length<=sizeLine/\(a==sysModules)=false /\
  ∃xs,KT H kvs xs/\h.DictOfH (tupleKind (c9 P w)) a xs:=xk ok (.inl e)
def gI (H:Hp) (a:Addr) (y:V) (r:Option V):Prop:=
 (∃kvs k,Rd H a (.dK kvs)/\y=kV k/\r=cb kvs k) \/ ∃kvs k b,Rd H a (.dT kvs)/\y = .ref b/\H b=some (.tup (k.map kV))/\r=cb kvs k
def rO (H:Hp) (a:Addr) (y v:V) (H':Hp):Prop:=
 (∃kvs k,H a=some (.dK kvs)/\y=kV k/\kvs.length < sizeLine/\H'=upd H a (.dK (putK kvs k v))) \/
 ∃kvs k b,H a=some (.dT kvs)/\y = .ref b/\H b=some (.tup (k.map kV))/\kvs.length < sizeLine/\H'=upd H a (.dT (putK kvs k v))
theorem gI.k {k:Key} (e:H a=some (.dK kvs)):gI H a (kV k) (cb kvs k):= .inl ⟨kvs,k,.inl e,rfl,rfl⟩
theorem rO.k {k:Key} (e:H a=some (.dK kvs)) (hl:kvs.length < sizeLine):rO H a (kV k) v (upd H a (.dK (putK kvs k v))):= .inl ⟨kvs,k,e,rfl,hl,rfl⟩
section
variable{r:Value}{o:Option V}{E:Value->Shared->Prop}
theorem Inv.big (I:Inv X pins σ H s):sysModules < s.heap.objs.size:=by
 have h:mainGlobals < s.heap.objs.size:=(I.mod.glob.keeps I.bk).lt;exact vL (by decide) h
theorem TZ {Q:Value->Shared->Prop} (hu:A.units+1 < cLine) (I:Inv X pins σ H s) (g:gI H a y (some v)) (ry:RelV y u) (h:∀w' s',Inv X pins σ H s'->RelV v w'->Q w' s') :
  wpAny (model X.prog X.w) A (getItem (.ref a) u) Q E s:=by
 rcases g with⟨kvs,k,e,ey,l⟩|⟨kvs,k,b,e,ey,eb,l⟩
 ·subst ey
  obtain⟨z,hd,vs,rel,dd⟩:=uo I.ay e;obtain⟨w',hw,gL⟩:=ix.some_of (v:=v) (o:=valueAt vs k) (by rw[l];exact rel.val k)
  exact wpAny_getItem_of (um ry) dd.mapOf hw (h w' _ (I.tok _) gL)
 ·subst ey
  cases (show u=Value.ref b from ry)
  obtain⟨z,hd,xs,rel,dd⟩:=xk I.ay e;obtain⟨w',hw,gL⟩:=ix.some_of (v:=v) (o:=(atKey xs k).map (·.2)) (by rw[l];exact rel.val k)
  obtain⟨p,hp,jl⟩:=iV.mp hw;refine wpAny_getItem_heap (IX hu) (wN I.ay eb) dd hp ?_;rw[jl];exact h w' _ (I.tok _) gL
theorem Zy {Q:Value->Shared->Prop} (hu:A.units+1 < cLine) (I:Inv X pins σ H s) (g:gI H a y o) (ry:RelV y u) (h:∀s',Inv X pins σ H s'->Q (.bool o.isSome) s') :
  wpAny (model X.prog X.w) A (compareOp .In u (.ref a)) Q E s:=by
 rcases g with⟨kvs,k,e,ey,l⟩|⟨kvs,k,b,e,ey,eb,l⟩
 ·subst ey
  obtain⟨z,hd,vs,rel,dd⟩:=uo I.ay e;refine wpAny_in_of (um ry) hd dd.mapOf ?_;rw[<-(rel.val k).vV,<-l];exact h _ (I.tok _)
 ·subst ey
  cases (show u=Value.ref b from ry)
  obtain⟨z,hd,xs,rel,dd⟩:=xk I.ay e;refine wpAny_in_heap (IX hu) (wN I.ay eb) hd dd ?_;have q:=(rel.val k).vV;rw[Rx]at q;rw[<-q,<-l];exact h _ (I.tok _)
theorem V3 {Q:Value->Shared->Prop} (hu:A.units+1 < cLine) (I:Inv X pins σ H s) (g:gI H a y o) (ry:RelV y u) (h:∀s',Inv X pins σ H s'->Q (.bool (!o.isSome)) s') :
  wpAny (model X.prog X.w) A (compareOp .NotIn u (.ref a)) Q E s:=by
 rcases g with⟨kvs,k,e,ey,l⟩|⟨kvs,k,b,e,ey,eb,l⟩
 ·subst ey
  obtain⟨z,hd,vs,rel,dd⟩:=uo I.ay e;refine wpAny_notIn_of (um ry) hd dd.mapOf ?_;rw[<-(rel.val k).vV,<-l];exact h _ (I.tok _)
 ·subst ey
  cases (show u=Value.ref b from ry)
  obtain⟨z,hd,xs,rel,dd⟩:=xk I.ay e;refine wpAny_notIn_heap (IX hu) (wN I.ay eb) hd dd ?_;have q:=(rel.val k).vV;rw[Rx]at q;rw[<-q,<-l];exact h _ (I.tok _)
theorem LI {ob:HO} (I:Inv X pins σ H s) (mu:xM (H a)) (hs:Heap.SameBut a s.heap h') (he:∃q,h'.get? a=some q) (new:br X.prog X.w (upd H a ob) h' a ob) :
  Inv X pins σ (upd H a ob) { s with heap:=h',toks:=t' }:=
 I.write (x:=a) (e:=a) mu (.inl rfl) (fun b q hb z=>(hs.2 b hb).trans z) he new
theorem Mo {vs:List (Key×Value)} (z:kvs.length<=sizeLine) (hd:(a==sysModules)=false) (rel:KV kvs vs) (dd:h'.DictOf (c9 P w) a vs) :
  br P w H' h' a (.dK kvs):=⟨z,hd,vs,rel,dd⟩
theorem T9 {Q:Unit->Shared->Prop} (hu:A.units+1 < cLine) (I:Inv X pins σ H s) (g:rO H a y v H') (ry:RelV y u) (rv:RelV v r) (h:∀s',Inv X pins σ H' s'->Q () s') :
  wpAny (model X.prog X.w) A (setItem (.ref a) u r) Q E s:=by
 rcases g with⟨kvs,k,e,ey,l,eH⟩|⟨kvs,k,b,e,ey,eb,l,eH⟩
 ·subst ey eH
  obtain⟨z,hd,vs,rel,dd⟩:=MR I.ay e;have hz:vs.length<=sizeLine:=by rw[<-rel.length];exact z
  have hl:(putK kvs k v).length<=sizeLine:=by have:=Ce kvs k v;omega
  refine wpAny_setItem_pairs (hsz:=hz) (um ry) dd fun h' oX hs=>h _ ?_;have he:∃q,h'.get? a=some q:=let ⟨q,_,_,hq,_⟩:=oX;⟨q,hq⟩;exact LI I (by rw[e];exact True.intro) hs he (Mo hl hd (rel.put k rv) oX)
 ·subst ey eH
  cases (show u=Value.ref b from ry)
  obtain⟨z,hd,xs,rel,dd⟩:=Yd I.ay e;have hz:xs.length<=sizeLine:=by rw[<-mx rel];exact z
  have hl:(putK kvs k v).length<=sizeLine:=by have:=Ce kvs k v;omega
  refine wpAny_setItem_heap (hsz:=hz) (IX hu) (wN I.ay eb) dd fun h' oX hs=>h _ ?_;obtain⟨q,es,ep,hq,h2,h3,h4,_,h5⟩:=oX;refine LI I (by rw[e];exact True.intro) hs ⟨q,hq⟩ ⟨hl,hd,_,(rel.put k eb rv).keeps fun c ys ec=>?_,q,es,ep,hq,h2,h3,h4,h5⟩
  rw[ai (b6 ec e (fun z=>nomatch z))];exact ec
end
def NI (i:Expr):Prop:= ∀ov iv,subscripted i false ov iv=operate [ov,iv] (getItem ov iv)
theorem V4 {E:Value->Shared->Prop}{slice:Expr}{id:String}{Q:Value->Shared->Prop}
  (hl:typeLookup (.type T) "__getitem__" = pure (some (.builtin id))) (hs:NI slice)
  (h:wpAny (model prog w) A (eval value env) (fun o a4=>wpAny (model prog w) A (eval slice env) (fun i lV=>lV.TypeIs o T/\wpAny (model prog w) A (getItem o i) Q E lV) E a4) E s) :
  wpAny (model prog w) A (eval (.Subscript value slice pos) env) Q E s:=by
 refine Subscript_ (nV h (fun o a4 Zz=>nV Zz (fun i lV Eo=>?_) fun _ _ x=>x) fun _ _ x=>x);obtain⟨hT,Eo⟩:=Eo;unfold subscriptTail;refine ag ?_;rw[getitemInPython_of_ne hT.not_modules];refine ag (wpAny_specialOf hT hl ?_);have fin:wpAny (model prog w) A (subscripted slice false o i) (fun r NJ=>wpAny (model prog w) A (letTemporaryGo value o r >>= fun _=>pure r) Q E NJ) E lV:=by
  rw[hs o i];exact wpAny_operating (nV Eo (fun r NJ ZA=>ag (wpAny_letTemporaryGo (aA ZA))) fun _ _ x=>x)
 first
  |exact aA (ag fin)
  |exact ag (aA (ag fin))
  |exact ag fin
theorem Sn {o:Option V} (I:Inv X pins σ H s) (g:gI H a y o):s.TypeIs (.ref a) "dict" :=by
 rcases g with⟨kvs,k,e,_,_⟩|⟨kvs,k,b,e,_,_,_⟩
 ·obtain⟨_,_,vs,_,dd⟩:=uo I.ay e
  exact dd.typeIs
 ·obtain⟨_,_,xs,_,dd⟩:=xk I.ay e
  exact dd.typeIs
def DW (td ty:TE):TE:=fun σ H Q=>td σ H fun x H1=>ty σ H1 fun y H2=>∃a v,x = .ref a/\gI H2 a y (some v)/\Q v H2
def NK (ty td:TE):TE:=fun σ H Q=>ty σ H fun y H1=>td σ H1 fun x H2=>∃a o,x = .ref a/\gI H2 a y o/\Q (.bl o.isSome) H2
def V5 (ty td:TE):TE:=fun σ H Q=>ty σ H fun y H1=>td σ H1 fun x H2=>∃a o,x = .ref a/\gI H2 a y o/\Q (.bl (!o.isSome)) H2
def Ye (td ty tv:TE):TS:=fun D σ H=>tv σ H fun v H1=>td σ H1 fun x H2=>ty σ H2 fun y H3=>∃a H4,x = .ref a/\rO H3 a y v H4/\D.nx σ H4
section
variable{o i:Expr}{aih:Pos}{td ty tv:TE}
theorem om (hu:X.A.units+1 < cLine) (ho:PE X o td) (hi:PE X i ty) (hs:NI i):PE X (.Subscript o i pos) (DW td ty):=by
 intro pins s σ H Q I h;refine V4 PySem.F.slot_dict_getitem.lookup hs (aC (ho pins s σ H _ I h) fun u s1 ⟨x,H1,I1,rx,q1⟩=>aC (hi pins s1 σ H1 _ I1 q1) fun iv s2 ⟨y,H2,I2,ry,a,v,ex,g,q2⟩=>?_);subst ex;obtain rfl:u=Value.ref a:=rx;exact⟨Sn I2 g,TZ hu I2 g ry fun w' s3 I3 gL=>⟨v,H2,I3,gL,q2⟩⟩
theorem Mp (hu:X.A.units+1 < cLine) (hi:PE X i ty) (ho:PE X o td):PC X .In i o (NK ty td):=by
 intro pins s σ H Q I h;refine aC (hi pins s σ H _ I h) fun iv s1 ⟨y,H1,I1,ry,q1⟩=>aC (ho pins s1 σ H1 _ I1 q1) fun u s2 ⟨x,H2,I2,rx,a,ov,ex,g,q2⟩=>?_;subst ex;obtain rfl:u=Value.ref a:=rx;exact Zy hu I2 g ry fun s3 I3=>⟨.bl ov.isSome,H2,I3,rfl,q2⟩
theorem Ua (hu:X.A.units+1 < cLine) (hi:PE X i ty) (ho:PE X o td):PC X .NotIn i o (V5 ty td):=by
 intro pins s σ H Q I h;refine aC (hi pins s σ H _ I h) fun iv s1 ⟨y,H1,I1,ry,q1⟩=>aC (ho pins s1 σ H1 _ I1 q1) fun u s2 ⟨x,H2,I2,rx,a,ov,ex,g,q2⟩=>?_;subst ex;obtain rfl:u=Value.ref a:=rx;exact V3 hu I2 g ry fun s3 I3=>⟨.bl (!ov.isSome),H2,I3,rfl,q2⟩
theorem Dl (hu:X.A.units+1 < cLine) (ho:PE X o td) (hi:PE X i ty) (hv:PE X value tv) (hs:swapsWith value (some (.Subscript o i pos')) pos.line X.env=pure false) :
  PS X (.Assign [.Subscript o i pos'] value pos) (Ye td ty tv):=by
 intro pins s σ H D I h;refine wpAny_Assign_Subscript (aC (hv pins s σ H _ I h) fun r s1 ⟨v,H1,I1,rv,q1⟩=>aC (ho pins s1 σ H1 _ I1 q1) fun u s2 ⟨x,H2,I2,rx,q2⟩=>aC (hi pins s2 σ H2 _ I2 q2) fun iv s3 ⟨y,H3,I3,ry,a,H4,ex,g,q3⟩=>?_) hs;subst ex;obtain rfl:u=Value.ref a:=rx;exact T9 hu I3 g ry rv fun s4 I4=>⟨σ,H4,I4,q3⟩
end
theorem UX (h:Heap) (hb:sysModules < h.objs.size):br P w H (h.push { cls:= .type "dict",data:= .dict #[] }) h.objs.size (.dK []):=
 ⟨bX _,pA.mpr (aH (bT hb)),[],.nil,Heap.DictOf.new h⟩
def Mq:TE:=fun _ H Q=>∀p,H p=none->Q (.ref p) (upd H p (.dK []))
theorem wc:PE X (.Dict [] [] pos) Mq:=fun pins s σ H Q I h =>
 wpAny_Dict_empty ⟨.ref s.heap.objs.size,_,I.laid (a:=s.heap.objs.size) (o:= .dK []) (t':=s.toks) (fun _ _ q=>bU _ q) (aK _) (UX s.heap I.big),rfl,h _ (I.ay.fresh (aK _))⟩
end L2
namespace HT
open PySem PyProof.Rows
section
variable{E:Value->Shared->Prop}
theorem RX {lo:Option Int}{Q:Value->Shared->Prop} (ht:IsTup s.heap t items) (hs:s.heap.IsSliceOf sl vl vu .none) (pl:IsPart vl lo) (pu:IsPart vu hi)
  (h0:aX items.size 0 lo=0) (h1:aX items.size items.size hi=items.size) (h:Q (.ref t) s):wpAny (model prog w) A (getItem (.ref t) (.ref sl)) Q E s:=by
 obtain⟨os,sy,Au,xT⟩:=id hs;have Fc:s.TypeIs (.ref sl) "slice" :=⟨os,sy,Au⟩;unfold getItem
 try with_reducible refine eu ?_
 first|refine ag (aA ?_)|skip
 refine ag (wpAny_sequenceKey ht.typeIs (by decide) ?_)
 refine ag (BJ (name:=Str.ofString "__getitem__") ht.typeIs yO
  (vK yO ht.typeIs entry_tuple_getitem ?_ (args_tuple_getitem _ _)))
 show wpAny _ _ (Builtin.Tuple.tupleItemsOf (.ref t) >>= _) _ _ s;refine ag (tupleItemsOf_ ht ?_);refine ag (qJ Fc ?_);rw[au (by decide)]
 refine ag (Jk hs pl pu ?_);rw[h0,h1];have ZC:((((0:Nat):Int)==0 && (1:Int)==1 && (items.size - 0)==items.size)=true):=by simp
 show wpAny _ _ (if ((((0:Nat):Int)==0 && (1:Int)==1 && (items.size - 0)==items.size)=true) then _ else _) _ _ s;rw[au ZC];refine ag (ag (qJ ht.typeIs (aA ?_)));rw[au (by decide)]
 exact ag (nW (aA ⟨_,rfl,aA h⟩))
theorem UY {ws:List Value}{Q:Value->Shared->Prop} (ht:IsTup s.heap t ([]:List Value).toArray) (hb:IsTup s.heap b ws.toArray) (h:Q (.ref b) s):wpAny (model prog w) A (binaryOp .Add (.ref t) (.ref b)) Q E s:=by
 obtain⟨⟨cls,dd,data,sl⟩,ho,hc,n,hd⟩:=id ht;obtain⟨⟨Nu,As,data2,sv⟩,ku,gj,n2,hd2⟩:=id hb;obtain rfl:cls = .type "tuple" :=hc;obtain rfl:data = .seq #[] n:=hd;obtain rfl:Nu = .type "tuple" :=gj;obtain rfl:data2 = .seq ws.toArray n2:=hd2;exact concat_meets ⟨_,ho,rfl⟩ ⟨_,ku,rfl⟩ Rb Rc Rf Rg (Rh _ _) (tuple_addW0 t b #[] ws.toArray n n2 dd As sl sv rfl) ⟨ho,ku,h⟩
end
end HT
namespace L2
open PySem PySem.Spec PyProof.Rows PySem.W
theorem K0 {q:Addr} (hq:H q=none):ak H (upd H q o):=fun b u e=>by rw[ai (aq e hq)];exact e
def ZD:V->Option Int->Option Int->Hp->VK->Prop:=fun x lo hi H Q=>∃a xs,x = .ref a/\H a=some (.tup xs) /\ ∀p H',ak H H'->H' p=some (.tup (du xs lo hi))->Q (.ref p) H'
theorem V6:uY X ZD:=by
 intro pins s σ H x v vl vu lo hi sl Q I rx hs pl pu h;obtain⟨a,xs,rfl,hx,q⟩:=h
 by_cases hw:HT.aX xs.length 0 lo=0/\HT.aX xs.length xs.length hi=xs.length
 ·cases rx
  obtain⟨its,r,ht,hz⟩:=I.tuple (aN.of hx);have hlen:its.toArray.size=xs.length:=by rw[cD];exact r.length.symm
  refine⟨"tuple",_,yO.lookup,ht.typeIs,HT.RX ht hs pl pu (by rw[hlen];exact hw.1) (by rw[hlen];exact hw.2) ?_⟩
  refine⟨.ref a,H,I,rfl,q a H (ak.refl _) ?_⟩;unfold du;rw[hw.1,hw.2,Rw,Nat.sub_zero,eF];exact hx
 ·exact W2 pins s σ H (.ref a) v vl vu lo hi sl Q I rx hs pl pu ⟨a,xs,rfl,aN.of hx,hw,fun p hp=>q p _ (K0 hp) af⟩
def Yf:R2:=fun x y H Q=>∃a b xs ys,x = .ref a/\y = .ref b/\H a=some (.tup xs)/\H b=some (.tup ys)/\xs.length+ys.length<=sizeLine /\ ∀p H',ak H H'->H' p=some (.tup (xs++ys))->Q (.ref p) H'
theorem LJ:cN X (binaryOp .Add) Yf:=by
 intro pins s σ H x y v u Q I rx ry h;obtain⟨a,b,xs,ys,rfl,rfl,ha,hb,hz,q⟩:=h;cases xs with
 |nil =>
  cases rx
  cases ry
  obtain⟨its,r1,p1,_⟩:=I.tuple (aN.of ha);obtain⟨uC,r2,p2,_⟩:=I.tuple (aN.of hb);cases r1
  exact HT.UY p1 p2 ⟨.ref b,H,I,rfl,q b H (ak.refl _) hb⟩
 |cons z xs=>exact VU pins s σ H (.ref a) (.ref b) v u Q I rx ry ⟨a,b,_,ys,rfl,rfl,aN.of ha,aN.of hb,by simp,hz,fun e=>q a H (ak.refl _) (by rw[e,fh];exact ha),fun _ p hp=>q p _ (K0 hp) af⟩
theorem LK {k:Key} (h:(c9 P w).is k u=true):RelV (kV k) u:=by
 cases k with
 |inl i=>exact Value.isInt_shape (show Value.isInt i u=true from h)
 |inr x=>exact Value.isStrOf_shape (show Value.isStrOf x u=true from h)
theorem LL:∀ {xs:List V}{us:List Value},xs.length=us.length->(∀ (i:Nat) x u,xs[i]? = some x->us[i]? = some u->RelV x u)->Vals xs us
 |[],[],_,_=>.nil
 |[],_::_,h,_=>by simp at h
 |_::_,[],h,_=>by simp at h
 |x::xs,u::us,h,f=>.cons (f 0 x u rfl rfl) (LL (by simpa using h) fun i y v a b=>f (i+1) y v (by simpa using a) (by simpa using b))
theorem Tc (hc:X.calm=true):eV X (.type "list") (fun xs H Q=>∃d kvs,xs = [.ref d]/\H d=some (.dK kvs) /\ ∀l,H l=none->Q (.ref l) (upd H l (.lst (kvs.map fun kv=>kV kv.1)))):=by
 intro pins s σ H xs us Q I r h;obtain⟨d,kvs,rfl,hd,q⟩:=h;obtain⟨u,rfl,rx⟩:=vals1 r;cases rx
 obtain⟨hz,lo,vs,kv,dd⟩:=MR I.ay hd;obtain⟨ep,da⟩:=dd.dictAt;have hlen:kvs.length=vs.length:=kv.length;refine kdl_call (kdl_dict (kvs:=vs) (ep:=ep) lo) (I.ok.hd hc) da (by rw[<-hlen];exact hz) fun h' tk acc c kp e it=>?_
 refine⟨.ref s.heap.objs.size,_,I.laid (t':=tk) kp (aK _) (show br X.prog X.w _ h' _ (.lst (kvs.map fun kv=>kV kv.1)) from⟨by rw[aE];exact hz,acc.toList,c,?_,by rw[Array.toArray_toList];exact e⟩),rfl,q _ (I.ay.fresh (aK _))⟩
 refine LL (by rw[aE,mz];exact hlen.trans it.1.symm) fun i x v hx hv=>?_
 obtain⟨k,y,hk,hi⟩:=it.2 i v (by rw[<-IH];exact hv)
 obtain⟨kv',hU,rfl⟩:=iV.mp (by rw[<-f6];exact hx)
 have e:kv'.1=k:=by
  clear it hx hv hlen da dd q hz hd
  induction kv generalizing i with
  |nil=>simp at hU
  |cons p _ ih =>
   cases i with
   |zero =>
    simp at hU hk;subst hU;rw[p.1,hk]
   |succ i=>exact ih i (by simpa using hk) (by simpa using hU)
 rw[e];exact LK hi
end L2
namespace HT
open PySem PyProof.Rows
section
open PySem.SeqAt
open PySem.AutoSeq1 (wpAny_loadPart')
open PySem.MeetsSeq PySem.MeetsSeq2 PySem.MeetsSeq3
end
end HT
namespace L2
open PySem PySem.Spec PyProof.Rows PySem.W HT
theorem oq {α β:Type}{F:α->β->Prop}:∀ {l:List α}{m:List β}{i:Nat}{x:α},Paired F l m->l[i]? = some x -> ∃y,m[i]? = some y/\F x y
 |_,_,i,x,.nil,e=>by simp at e
 |_,_,0,x,.cons p _,e=>by simp at e;subst e;exact⟨_,rfl,p⟩
 |_,_,i+1,x,.cons _ t,e=>by simpa using oq (i:=i) t (by simpa using e)
end L2
namespace HT
open PySem PyProof.Rows
open PySem.AutoSeq1 (wpAny_loadPart')
end HT
namespace L2
open PySem PySem.Spec PyProof.Rows PySem.W HT
end L2
namespace HT
open PySem PyProof.Rows
end HT
namespace HT
open PySem PyProof.Rows PySem.W
end HT
namespace HT
open PySem PyProof.Rows PySem.W L2
theorem zm:plainId "dict.update.loop" = true:=by decide +kernel
theorem Kj:entryFor table "dict.update.loop" = some Builtin.«dict.update.loop» :=entryFor_of_fast (by kernel_rfl)
theorem stored_new {K:Type} [DecidableEq K] {kvs:List (K×Value)}{k:K}{v:Value} (h:k ∉ kvs.map (·.1)):stored kvs k v=kvs ++ [(k,v)]:=by
 unfold stored;rw[ao];intro z;obtain⟨p,hp,e⟩:=tw.mp z;exact h (bw.mpr ⟨p,hp,by simpa using e⟩)
end HT
namespace HT
open PySem PyProof.Rows
section
open PySem.SeqAt
open PySem.AutoSeq1 (wpAny_loadPart')
open PySem.MeetsSeq PySem.MeetsSeq2 PySem.MeetsSeq3
end
end HT
namespace L2
open PySem PySem.Spec PyProof.Rows PySem.W HT
end L2
namespace L2
open PySem PySem.Spec PyProof.Rows PySem.W
def pW (o:Obj):Option Value:=match o.data with|.fields vs=>vs[2]? | _=>none
def Kp (o o':Obj):Prop:=o'.dict=o.dict/\pW o'=pW o
def KD {α:Type}:Sem α->Prop
 |.pure _=>True
 |.raise _=>True
 |.unsupported _=>True
 |.finish _=>True
 |.rule _ k=>KD (k ())
 |.at _ k=>KD (k ())
 |.load _ _ k=>∀o,KD (k o)
 |.update _ _ f k=>(∀o,Kp o (f o))/\KD (k ())
 |.alloc _ k=>∀a,KD (k a)
 |.loadIfAlive _ k=>∀o,KD (k o)
 |.point _ k=>KD (k ())
 |.register _ _=>False
 |.fresh k=>∀t,KD (k t)
 |.ask k=>∀x,KD (k x)
 |.choose _ _ k=>∀n,KD (k n)
 |.os _ _ k=>∀r,KD (k r)
 |.call _ _ _ _ _=>False
 |.handled _ k=>∀v,KD (k v)
 |.newGen _ k=>∀n,KD (k n)
 |.genState _ k=>∀x,KD (k x)
 |.resume _ _ _ _=>False
 |.yield _ _ _ _=>False
 |.stack k=>∀l,KD (k l)
 |.fork _ _=>False
 |.thread k=>∀n,KD (k n)
 |.await _ _ _ _ _=>False
def RD (h h':Heap):Prop:= ∀ (a:Addr) (o:Obj),h.objs[a]? = some o -> ∃o',h'.objs[a]? = some o'/\Kp o o'
theorem RD.refl (h:Heap):RD h h:=fun a o e=>⟨o,e,rfl,rfl⟩
theorem RD.trans {h1 h2 h3:Heap} (a:RD h1 h2) (b:RD h2 h3):RD h1 h3:=fun x o e=>by
 obtain⟨o1,e1,d1⟩:=a x o e;obtain⟨o2,e2,d2⟩:=b x o1 e1;exact⟨o2,e2,d2.1.trans d1.1,d2.2.trans d1.2⟩
theorem RD.push (r:RD h0 h) (o:Obj):RD h0 (h.push o):=r.trans fun x u e=>⟨u,by
 obtain⟨objs,l⟩:=h;show(objs.push o)[x]? = some u;have hx:x < objs.size:=(yT.mp e).1;rw[Array.getElem?_push,ao (bT hx)];exact e,rfl,rfl⟩
theorem RD.update (r:RD h0 h) {f:Obj->Obj} (hf:∀o,Kp o (f o)):RD h0 (h.update a f):=r.trans fun x u e=>by
 obtain⟨objs,l⟩:=h;show ∃o',(objs.modify a f)[x]? = some o'/\_;rw[Array.getElem?_modify];have e':objs[x]? = some u:=e
 by_cases c:a=x
 ·rw[au c,e'];exact⟨f u,rfl,hf u⟩
 ·rw[ao c];exact⟨u,e',rfl,rfl⟩
theorem RD.dict (r:RD h h') {o o':Obj} (e:h.get? a=some o) (e':h'.get? a=some o'):Kp o o':=by
 have raw:∀ {g:Heap}{u:Obj},g.get? a=some u->g.objs[a]? = some u:=fun {g u} q=>by
  unfold Heap.get? at q;split at q
  ·cases q
  ·exact q
 obtain⟨o2,e2,d⟩:=r a o (raw e);rw[raw e']at e2;cases e2
 exact d
theorem Yg {α:Type}{M:Model}{Γ:PySem.Ctx}:∀ {t:Sem α}{Q:α->Pos->Shared->Prop}{E:Value->Pos->Shared->Prop}{p:Pos}{s:Shared},KD t->RD h0 s.heap->Sem.wp M Γ t Q E p s ->
  Sem.wp M Γ t (fun v p s'=>Q v p s'/\RD h0 s'.heap) (fun v p s'=>E v p s'/\RD h0 s'.heap) p s:=by
 intro t
 induction t with
 |pure a=>intro Q E p s _ r h;exact⟨h,r⟩
 |raise e=>intro Q E p s _ r h;exact⟨h,r⟩
 |unsupported w=>intro Q E p s _ r h;exact h
 |finish e=>intro Q E p s _ r h;exact h
 |rule t k ih=>intro Q E p s kd r h;exact ih () kd r h
 |«at» q k ih=>intro Q E p s kd r h;exact ih () kd r h
 |load a q k ih=>intro Q E p s kd r h;obtain⟨o,e,h⟩:=h;exact⟨o,e,ih o (kd o) r h⟩
 |update a q f k ih=>intro Q E p s kd r h;exact⟨h.1,ih () kd.2 (r.update kd.1) h.2⟩
 |alloc o k ih=>intro Q E p s kd r h;exact ih _ (kd _) (r.push o) h
 |loadIfAlive a k ih=>intro Q E p s kd r h;exact ih _ (kd _) r h
 |point l k ih=>intro Q E p s kd r h;exact ih () kd r h
 |register a k ih=>intro Q E p s kd r h;exact h
 |fresh k ih=>intro Q E p s kd r h;exact ih _ (kd _) r h
 |ask k ih=>intro Q E p s kd r h;exact ih _ (kd _) r h
 |choose src n k ih=>intro Q E p s kd r h;exact⟨h.1,ih _ (kd _) r h.2⟩
 |os q l k ih=>intro Q E p s kd r h;exact ih _ (kd _) r h
 |call c hd g l k ih=>intro Q E p s kd r h;exact False.elim kd
 |handled own k ih=>intro Q E p s kd r h;exact ih _ (kd _) r h
 |newGen c k ih=>intro Q E p s kd r h;exact ih _ (kd _) r h
 |genState g k ih=>intro Q E p s kd r h;obtain⟨st,e,h⟩:=h;exact⟨st,e,ih _ (kd _) r h⟩
 |resume g rs l k ih=>intro Q E p s kd r h;exact False.elim kd
 |yield v g l k ih=>intro Q E p s kd r h;exact False.elim kd
 |stack k ih=>intro Q E p s kd r h;exact ih _ (kd _) r h
 |fork c k ih=>intro Q E p s kd r h;exact False.elim kd
 |thread k ih=>intro Q E p s kd r h;exact ih _ (kd _) r h
 |await a t b l k ih=>intro Q E p s kd r h;exact False.elim kd
theorem Xc {α:Type}{M:Model}{t:Sem α}{Q:α->Shared->Prop}{E:Value->Shared->Prop} (k:KD t) (h:wpAny M A t Q E s) :
  wpAny M A t (fun v s'=>Q v s'/\RD s.heap s'.heap) (fun v s'=>E v s'/\RD s.heap s'.heap) s:=fun Γ p hi=>Yg k (RD.refl _) (h Γ p hi)
theorem KD.bind {α β:Type}{f:α->Sem β} (hf:∀x,KD (f x)):∀ {t:Sem α},KD t->KD (t.bind f):=by
 intro t
 induction t with
 |pure a=>intro _;exact hf a
 |raise e=>intro _;trivial
 |unsupported w=>intro _;trivial
 |finish e=>intro _;trivial
 |rule t k ih=>intro kd;exact ih () kd
 |«at» q k ih=>intro kd;exact ih () kd
 |load a q k ih=>intro kd o;exact ih o (kd o)
 |update a q g k ih=>intro kd;exact⟨kd.1,ih () kd.2⟩
 |alloc o k ih=>intro kd a;exact ih a (kd a)
 |loadIfAlive a k ih=>intro kd o;exact ih o (kd o)
 |point l k ih=>intro kd;exact ih () kd
 |register a k ih=>intro kd;exact False.elim kd
 |fresh k ih=>intro kd o;exact ih o (kd o)
 |ask k ih=>intro kd o;exact ih o (kd o)
 |choose src n k ih=>intro kd o;exact ih o (kd o)
 |os q l k ih=>intro kd o;exact ih o (kd o)
 |call c hd g l k ih=>intro kd;exact False.elim kd
 |handled own k ih=>intro kd o;exact ih o (kd o)
 |newGen c k ih=>intro kd o;exact ih o (kd o)
 |genState g k ih=>intro kd o;exact ih o (kd o)
 |resume g rs l k ih=>intro kd;exact False.elim kd
 |yield v g l k ih=>intro kd;exact False.elim kd
 |stack k ih=>intro kd o;exact ih o (kd o)
 |fork c k ih=>intro kd;exact False.elim kd
 |thread k ih=>intro kd o;exact ih o (kd o)
 |await a t b l k ih=>intro kd;exact False.elim kd
theorem KD.dz {α β:Type}{t:Sem α}{f:α->Sem β} (h:KD t) (hf:∀x,KD (f x)):KD (t >>= f):=KD.bind hf h
theorem KD.pure {α:Type}{x:α}:KD (Pure.pure x:Sem α):=True.intro
theorem KD.nI {α:Type}{w:String}:KD (PySem.unsupported w:Sem α):=True.intro
theorem CU:KD PySem.stack:=fun _=>True.intro
theorem Dm:KD (PySem.load a):=fun _=>True.intro
theorem Kk {f:Obj->Obj} (h:∀o,Kp o (f o)):KD (PySem.update a f):=⟨h,True.intro⟩
theorem So {v:Value}:KD (fieldsOf v):=by
 unfold fieldsOf;split
 ·refine KD.dz Dm fun o=>?_
  split
  ·exact KD.pure
  ·exact KD.nI
 ·exact KD.nI
theorem zx {v:Value}:KD (field v i):=by
 unfold field;refine KD.dz So fun o=>?_;split
 ·exact KD.pure
 ·exact KD.nI
theorem RZ {x:Value} (hi:i≠2):∀o:Obj,Kp o (Obj.mapFields (·.setIfInBounds i x) o):=fun⟨c,d,dt,s⟩=>by
 cases dt <;> first|exact⟨rfl,rfl⟩|exact⟨rfl,Array.getElem?_setIfInBounds_ne hi⟩
theorem vR {v x:Value} (hi:i≠2:=by decide):KD (setField v i x):=by
 unfold setField;split
 ·unfold updateField
  refine KD.dz Dm fun o=>?_;split
  ·split
   ·exact Kk (RZ hi)
   ·exact KD.nI
  ·exact KD.nI
 ·exact KD.nI
theorem Cb {ty:String}{vs:List Value}:KD (newFields ty vs):=by
 unfold newFields newObj
 dsimp only
 split
 ·exact KD.nI
 ·show KD (newObjAsIs _ _ _)
  unfold newObjAsIs;exact KD.dz (fun _=>True.intro) fun _=>KD.pure
theorem Sq {b:Bool}{l:List Env}:KD (keptBack env b l):=by
 unfold keptBack;split
 ·split
  ·exact KD.pure
  ·unfold underTheClaimsCaller
   exact KD.dz (KD.dz CU fun _=>KD.pure) fun _=>by split <;> exact KD.pure
 ·exact KD.pure
theorem Ub {l:List Env}:KD (behindIsImport env l):=by
 unfold behindIsImport;split
 ·exact KD.pure
 ·split
  ·exact KD.pure
  ·exact KD.dz zx fun _=>KD.pure
theorem K1:∀l:List Env,KD (readyFrames l)
 |[]=>by unfold readyFrames;exact KD.pure
 |env::outer=>by
  unfold readyFrames;split
  ·refine KD.dz Dm fun o=>?_
   split
   ·exact KD.pure
   ·exact KD.dz Ub fun _=>KD.dz Sq fun _=>KD.dz (Kk fun _=>⟨rfl,rfl⟩) fun _=>K1 outer
  ·exact KD.nI
theorem Ck:KD (PySem.frameOf env):=by
 unfold PySem.frameOf;refine KD.dz ?_ fun l=>KD.dz ?_ fun r=>?_
 ·unfold frameEnvs
  exact KD.dz CU fun _=>KD.pure
 ·unfold frameObject
  split
  ·exact KD.pure
  ·exact KD.dz (K1 _) fun _=>KD.pure
 ·split
  ·exact KD.pure
  ·exact KD.nI
theorem CV {b:Bool}:KD (entryPlaceOf f b):=by
 unfold entryPlaceOf;refine KD.dz CU fun l=>?_;split
 ·exact KD.pure
 ·exact KD.pure
theorem zH {e:Value}:KD (noteFrame e env):=by
 unfold noteFrame;split
 ·refine KD.dz zx fun hd=>?_
  have last:∀f b,KD (setField e 1 =<< (do EntryCells.newEntry hd (<- PySem.frameOf env) .none (rawInt f) .none (<- entryPlaceOf f b))):=fun f b=>KD.dz (KD.dz Ck fun _=>KD.dz CV fun _=>Cb) fun _=>vR;split
  ·refine KD.dz zx fun x=>?_
   split
   ·exact KD.pure
   ·exact KD.dz vR fun _=>KD.dz Ck fun _=>KD.dz CV fun _=>KD.dz Cb fun _=>vR
  ·exact KD.dz Ck fun _=>KD.dz CV fun _=>KD.dz Cb fun _=>vR
 ·exact KD.nI
theorem qR {e:Value}{f:Option Addr}:KD (setFlight e f):=by
 unfold setFlight;refine KD.dz zx fun tb=>?_;split
 ·exact vR
 ·exact KD.pure
theorem Cm {e:Value}:KD (leaving env e):=by
 unfold leaving;exact KD.dz zH fun _=>qR
def ee (n:Option Value) (C:Addr) (dx:Option Addr) (a:Addr):HO:= .ext fun h=>∃ox vs,h.get? a=some ox/\ox.cls = .ref C/\ox.dict=dx/\ox.data = .fields vs/\(∀y,n=some y->vs[2]? = some y)
section
variable{n:Option Value}
theorem V7 {vs:Array Value} (e:h.get? a=some ox) (c:ox.cls = .ref C) (d:ox.dict=dx) (f:ox.data = .fields vs) (z:∀y,n=some y->vs[2]? = some y):br P w H h a (ee n C dx a):=
 ⟨⟨ox,vs,e,c,d,f,z⟩,⟨_,e⟩,fun _ _ ⟨ox,vs,q,r⟩ k=>⟨ox,vs,k _ q,r⟩⟩
theorem LM {B:Heap}{l:List Env}{a0:Value} (f:Heap.FlyingW B l a (.ref C) a0 h) (r:∃ox,h.get? a=some ox/\ox.dict=dx/\(∀y,n=some y->pW ox=some y)):br P w H h a (ee n C dx a):=by
 obtain⟨_,_,_,oe,vs,_,_,_,he,hc,hd,_⟩:=f;obtain⟨ox,e,d,z⟩:=r;rw[he]at e;cases e;exact V7 he hc.1 d hd fun y=>by have:=z y;unfold pW at this;rw[hd]at this;exact this
theorem LN (ok:cI P w H h) (n:H a=none) (o:br P w (upd H a O) h a O):cI P w (upd H a O) h:=fun b u e=>by
 by_cases c:b=a
 ·subst c
  rw[af]at e;cases e;exact o
 ·rw[ai c]at e
  exact(ok b u e).fE (fun _ _ _ q=>q) (fun x q=>by rw[ai (aq q n)];exact q) fun x xs q=>by rw[ai (aq q n)];exact q
theorem Un.add {fs ex:List Addr} (u:Un fs ex H H' h h') (n':H' a=none) (n:h.get? a=none):Un fs ex H (upd H' a O) h h':=
 ⟨u.keep,u.slot,fun b o e q x=>by
  have:b≠a:=by rintro rfl;rw[n]at e;cases e
  rw[ai this];exact u.free b o e q x,u.there,fun b xs e=>by
  have q:=u.kf b xs e;rw[ai (aq q n')];exact q,fun b o v e=>by
  have q:=u.jH b o v e;rw[ai (aq q n')];exact q,fun b ps e=>by
  obtain⟨m,q⟩:=u.kh b ps e;exact⟨m,by rw[ai (aq q n')];exact q⟩⟩
theorem K2:upd (i' H a) a O=upd H a O:=by
 funext b;unfold upd
 by_cases c:b=a
 ·rw[au c,au c]
 ·rw[ao c,ao c,lN c]
end
section
variable{E:Value->Shared->Prop}{fs:List (Str×V)}{f:Str}{n:Option Value}
theorem Uc {b:Bool}{Q:Value->Shared->Prop} (I:Inv X pins σ H s) (e:H a=some (ee n C (some d) a)) (ed:H d=some (dv d fs)) (c:df X.K C) (no:findIn X.K (.ref C) f=some none) (l:fs.lookup f=some v)
  (h:∀u s',Inv X pins σ H s'->RelV v u->Q u s'):wpAny (model X.prog X.w) A (getAttr (.ref a) f b) Q E s:=by
 obtain⟨ox,vs,at_,hc,hd,hf,_⟩:=(I.ay a _ e).1;obtain⟨_,mA,n',r,_⟩:=I.wx ed;obtain⟨od,mi,look⟩:=tO n';have rf:=r f;rw[l]at rf;obtain⟨u,hu,ru⟩:=ix.some_of rf;have J:InstAt s.heap a ox C (some od):=⟨at_,hc,by unfold notCls;rw[hf],by rw[hd];exact mi⟩
 exact VY I.bc J c (findObj_own c.hd no rfl (by rw[look,hu])) (TK ru) (h u _ (I.tok _) ru)
end
section
variable{f:Str}
def Yh (X:Cx) (ta:TE) (f:Str):TE:=fun σ H Q=>ta σ H fun x H1=>∃a n C d fs v,x = .ref a/\H1 a=some (ee n C (some d) a)/\H1 d=some (dv d fs)/\df X.K C/\findIn X.K (.ref C) f=some none/\fs.lookup f=some v/\Q v H1
theorem V8 (he:PE X e ta) (hb:attributeBase e f X.env (eval e X.env)=eval e X.env:=by rfl):PE X (.Attribute e f pos) (Yh X ta f):=by
 intro pins s σ H Q I h;refine VR hb (aC (he pins s σ H _ I h) fun u s1 ⟨x,H1,I1,rx,a,_,C,d,fs,v,ex,ea,ed,c,n,l,q⟩=>?_);subst ex;obtain rfl:u=Value.ref a:=rx;exact Uc I1 ea ed c n l fun u' s2 I2 ru=>⟨v,H1,I2,ru,q⟩
end
theorem Ss {R:Addr->Addr->Option Addr->Hp->Prop} (I:Inv X pins σ H s) (hc:X.calm=true) (he:PE X e te)
  (h:te σ H fun v H1=>∃a C dx i,v = .ref a/\H1 a=some (bE C dx a)/\(∀d,dx=some d -> ∃fs,H1 d=some (dv d fs))/\df X.K C/\dj X.K C i=true/\R a C dx H1)
  (fin:∀a C dx H1 s1,Inv X pins σ H1 s1->H1 a=some (bE C dx a)->R a C dx H1->X.xe (.ref a) s1) :
  wpAny (model X.prog X.w) X.A (exec (.Raise (some e) none pos) X.env) (SP X pins D) X.xe s:=by
 rw[arm_exec_Raise];refine ag (pD (show wpAny _ _ (raiseStmt X.env (some (do let v <- eval e X.env;standAt pos;pure v)) none) _ _ _ from ?_));unfold raiseStmt;refine ag (ag (aC (he pins s σ H _ I h) fun u s1 ⟨v,H1,J,r,a,C,dx,i,ev,ea,hd,c,q,hR⟩=>ag (pD (aA ?_))));subst ev;obtain rfl:u = .ref a:=r;obtain⟨ox,od,t,inst,rfl⟩:=J.LH ea hd;have zW:Looks (model X.prog X.w) s1.heap (isType (.ref a)) false:=fun A' Q' E' s' k z=>by
  simp only[isType,loadHead];exact ag (yR (k _ _ inst.at_) (aA z))
 have Fy:Looks (model X.prog X.w) s1.heap (isInstance (.ref a) (.type "BaseException")) true:=inst.type.andThen (BN J.bc c.be);obtain⟨bm,N,nm,qn,bs,Aa,sn,sub,ab,col,dd,k0,k1,k2,k3,k5,mN,hC,_⟩:=(qU J.bc q).ex;have Fz:s1.TypeIs (.ref C) "type" :=⟨_,hC,rfl⟩;refine ag (aA (ag (eu ?_)));unfold excFromValue isExcClass;refine ag (ag (zW.here (aA ?_)));refine ag (Fy.here (aA ?_));refine ag (zW.here ?_);unfold raisedInstance;refine ag (ag (inst.type.here (ag (qJ Fz ?_))));rw[au (show(Value.type "type" == Value.type "type")=true from by decide)]
 refine aA ?_;unfold setFlight raiseNew;refine ag (ag (gQ inst.at_ rfl (x:= .none) rfl ?_));rw[ao (show ¬ ((Value.none != Value.none)=true) from by decide)]
 refine aA (ag (wpAny_handled_none (J.ok.hd hc) ?_))
 first
  |exact yV (fin a C dx H1 s1 J ea hR)
  |exact ag (aA (yV (fin a C dx H1 s1 J ea hR)))
def a8 (P:Program) (w:World):lx:=fun outer H s E e s'=>∃ (a:Addr) (n:Option Value) (C:Addr) (a0:Value) (dx:Option Addr) (H':Hp) (B:Heap),e = .ref a/\s'.os=s.os/\AllBare s'.gens/\Heap.FlyingW B outer a (.ref C) a0 s'.heap /\
 (∃ox,s'.heap.get? a=some ox/\ox.dict=dx/\(∀y,n=some y->pW ox=some y))/\(∀h',B.StaysIn h'->s'.heap.UpToSlots h'->Un (cM outer) [] H H' s.heap h'/\cI P w H' h')/\H' a=none/\s.heap.get? a=none/\E (.ref C) (some a) (upd H' a (ee n C dx a))
theorem k9 {α:Type}{M:Model}{t:Sem α}{Q Q':α->Shared->Prop}{E:Value->Shared->Prop} (k:KD t) (h:wpAny M A t Q E s) (q:∀v s',Q v s'->RD s.heap s'.heap->Q' v s'):wpAny M A t Q' E s:=
 nV (Xc k h) (fun v s' z=>q v s' z.1 z.2) fun _ _ z=>z.1
def V9 (K:Frag) (H0:Hp) (E:XK) (te:TE):TS:=fun _ σ H=>te σ H fun v H1=>∃a C dx i,v = .ref a/\H1 a=some (bE C dx a)/\(∀d,dx=some d -> ∃fs,H1 d=some (dv d fs))/\df K C/\dj K C i=true/\H0 a=none/\E (.ref C) (some a) (upd H1 a (ee (some .none) C dx a))
theorem qV (he:PE (jJ (a8 P w) P w K mg base N qual scope f cd A outer s H E) e te) :
  PS (jJ (a8 P w) P w K mg base N qual scope f cd A outer s H E) (.Raise (some e) none pos) (V9 K H E te):=by
 intro pins s1 σ H1 D I h;refine Ss (R:=fun a C dx H2=>H a=none/\E (.ref C) (some a) (upd H2 a (ee (some .none) C dx a))) I rfl he h fun a C dx H2 s2 J ea ⟨h0,hE⟩=>?_;have fr:s2.heap.FunFrames base (envOfC qual scope s.heap.objs.size f cd::outer):=J.stack;have all:∀env∈(envOfC qual scope s.heap.objs.size f cd::outer),∀b,env.frame=some b->b∈a::cM (envOfC qual scope s.heap.objs.size f cd::outer):=fun env m b hb=>bV _ (qF.mpr ⟨env,m,hb⟩);obtain⟨t,at_⟩:=J.excAt ea;have new:s.heap.get? a=none:=by
  have ub:Un (cM outer) [] H H2 s.heap s2.heap:=J.base;cases q:s.heap.get? a with
  |none=>rfl
  |some o =>
   have:=ub.free a o q h0 (by simp)
   rw[ea]at this;cases this
 show wpAny (model P w) _ (leaving _ (.ref a)) _ _ _;refine k9 Cm (wpAny_leaving_firstW (Q:=fun _ s'=>∃h',s'={ s2 with heap:=h' }/\Heap.LeftW (hideAll s2.heap (a::cM (envOfC qual scope s.heap.objs.size f cd::outer))) (envOfC qual scope s.heap.objs.size f cd::outer) a (.ref C) (.ref t) s2.heap h') (base:=hideAll s2.heap (a::cM (envOfC qual scope s.heap.objs.size f cd::outer))) (L:=s.heap.objs.size) (a0:= .ref t) J.ok.frames (funFrames_hide fr all) rfl at_ (fun b o q=>of_hideAll _ q) (BV _ aV) rfl rfl rfl fun h' hL=>⟨h',rfl,hL⟩) fun _ s' ⟨h',es,hL⟩ rd=>?_;subst es;obtain⟨k1,⟨_,_,k2⟩,k3,k4⟩:=hL;have fl:Heap.FlyingW (hideAll s2.heap (a::cM (envOfC qual scope s.heap.objs.size f cd::outer))) outer a (.ref C) (.ref t) h':=⟨k1,BV _ aV,k2,k3⟩;obtain⟨ox,ly,_⟩:=fl.there;refine⟨a,some .none,C,.ref t,dx,i' H2 a,hideAll s2.heap (a::cM (envOfC qual scope s.heap.objs.size f cd::outer)),rfl,J.os,J.bare,fl,⟨ox,ly,(rd.dict at_ ly).1,fun y ey=>by cases ey;exact(rd.dict at_ ly).2⟩,fun iP kb up=>?_,by unfold i';rw[au rfl],new,by rw[K2];exact hE⟩
 exact J.hidden rfl rfl rfl ea h0 kb (yW k4 up)
theorem aU.jm {st:Stmt}{k:Nat} (F:aU K x qual st f fd) (S:b3 N ps (aM st)) (len:∀vs H Q E,sp vs H Q E->vs.length=ps.length)
  (oF:∀ (cdv:Value) (A:Around) (outer:List Env) (s:Shared) (H:Hp) (vs:List V) (Q:VK) (E:XK),aS k (A.deeper (envOfC qual (aM st) s.heap.objs.size f cdv))->sp vs H Q E ->
   ∃t,gC (jJ (a8 P w) P w K mg base N qual (aM st) f cdv A outer s H E) (cA st) t/\t { nx:=fun _ H'=>Q .ax H',rt:=Q } (start N vs) H):aD P w K mg base (a8 P w) (k+1) f fd ps sp:=by
 obtain⟨oc,od,kV,doc,pm,an,cdv,ct,nC,rfl,lk,gg⟩:=F.ex;exact MO lk gg S len fun A outer s H vs Q E hr kq=>oF cdv A outer s H vs Q E hr kq
theorem Jp {E:Value->Shared->Prop}{Q:Bool->Shared->Prop}{i:Option Value}{r:Bool} (X:K.In s.heap) (q:dj K B i=true) (me:mroIn K C (.ref B)=some r) (at_:s.heap.get? a=some ox) (cl:ox.cls = .ref C) (h:Q r s) :
  wpAny (model P w) A (excMatches (.ref a) (.ref B)) Q E s:=by
 obtain⟨bm,N,nm,qn,bs,Aa,sn,sub,ab,col,dd,k0,k1,k2,k3,k5,mN,hC,_,_,T⟩:=(qU X q).ex;have L:Looks (model P w) s.heap (isSubtype (.ref C) (.ref B)) r:=BN X me;obtain⟨hh,g,d,tk,os⟩:=s;have hT:bm.contains (.type "BaseException")=true:=T.hasType (by decide)
 have hcB:(Value.ref B::bm).contains (.type "BaseException")=true:=by rw[List.contains_cons,hT,Bool.or_true]
 have f:=tc_notTuple;unfold excMatches
 repeat (first|(with_reducible refine BL at_ ?_;rw[cl])|with_reducible refine BL hC ?_|(with_reducible refine wpAny_isSubtype_exc hC ?_;rw[hcB])|(with_reducible refine L.here ?_)|wp_step)
 cases r <;> (wp_walk;exact h)
def Cx.lR (X:Cx) (pins:List (Addr×Obj)) (E:St->XK):Cx:={ X with pn:=X.pn++pins,xe:=fun e s'=>∃aJ H s1,Inv X pins aJ H s1/\a8 X.prog X.w X.stack H s1 (E aJ) e s' }
section
variable{w6:List (Addr×Obj)}{E:St->XK}
theorem Inv.lR (I:Inv X pins σ H s):Inv (X.lR pins E) [] σ H s:=
 ⟨⟨I.ok.mod,I.ok.kind,I.ok.glob,I.ok.blt,I.ok.above,I.ok.inj,I.ok.has,I.ok.oQ,I.ok.hd,I.ok.frames,I.ok.l0,I.ok.nD,I.ok.bs,I.ok.ko,I.ok.oJ,I.ok.ng,I.ok.f',I.ok.lu⟩,I.os,I.bare,I.base,I.loc,I.cell,I.free,I.ir,(fun p hp=>I.pin p (by rw[fh]at hp;exact hp)),I.ay,I.len⟩
theorem Inv.pX (ok:X.Ok) (I:Inv (X.lR pins E) w6 σ H s):Inv X pins σ H s:=
 ⟨ok,I.os,I.bare,I.base,I.loc,I.cell,I.free,I.ir,(fun p hp=>I.pin p (pC _ hp)),I.ay,I.len⟩
theorem Cx.Ok.Yi (ok:(X.lR pins E).Ok):X.Ok:=⟨ok.mod,ok.kind,ok.glob,ok.blt,ok.above,ok.inj,ok.has,ok.oQ,ok.hd,ok.frames,ok.l0,ok.nD,ok.bs,ok.ko,ok.oJ,ok.ng,ok.f',ok.lu⟩
theorem SP.pX {f:Flow} (ok:X.Ok) (h:SP (X.lR pins E) w6 D f s):SP X pins D f s:=by
 cases f with
 |next=>obtain⟨aJ,H',I,q⟩:=h;exact⟨aJ,H',I.pX ok,q⟩
 |brk=>obtain⟨aJ,H',I,q⟩:=h;exact⟨aJ,H',I.pX ok,q⟩
 |cont=>obtain⟨aJ,H',I,q⟩:=h;exact⟨aJ,H',I.pX ok,q⟩
 |ret u=>obtain⟨v,aJ,H',I,r,q⟩:=h;exact⟨v,aJ,H',I.pX ok,r,q⟩
end
section
variable{MS:List (Addr×Obj)}{EE:St->XK}{k:Nat}{p:Pos}{t:TA}
def Xd (sp:Sp) (EE:St->XK) (t:TA):TE:=fun σ H Q=>t σ H fun vs H1=>sp vs H1 Q (EE σ)
theorem K4 (F:aD X.prog X.w X.K X.mg X.base (a8 X.prog X.w) k f fd ps sp) (hr:aS k X.A) (hg:Gl X x) (hm:X.mg x=some (.ref f)) (hk:keepIn X.K (.ref f)=true) (hb:Binds X.K fd ps [])
  (ha:PA (X.lR MS EE) (e::es) t) (iD:(x==("__debug__" : Str))=false:=by decide) (he:starEach (e::es) X.env=(false,eval e X.env)::starEach es X.env:=by rfl) (cR:(backTo pos (starEach es X.env)).any (·.1)=false:=by rfl) :
  PE (X.lR MS EE) (.Call (.Name x p) (e::es) [] pos) (Xd sp EE t):=by
 intro pins s σ H Q I h;refine qI (mV I hg hm ?_ iD);refine BO (h₀:=X.base) I.ok.mod.jg hk (aC (ha pos pins s σ H _ I h) fun us s1 ⟨vs,H1,I1,r,q⟩=>⟨I1.bc,?_⟩) he cR;have hl:us.length=ps.length:=by rw[<-r.length];exact F.len _ _ _ _ q
 have AI:=hb s1 us I1.bc (by rw[fh];exact hl)
 rw[fh]at AI;refine pE (qH (F.run X.A X.stack s1 H1 ⟨us,[]⟩ us vs _ _ hr I1.xw AI r q) fun res s2 hq=>?_);cases res with
 |ok fl =>
  cases fl with
  |ret u=>exact I1.after hq
  |next=>exact False.elim hq
  |brk=>exact False.elim hq
  |cont=>exact False.elim hq
 |error ev=>exact⟨σ,H1,s1,I1.pX I1.ok.Yi,hq⟩
end
theorem zI {M:Model}{E:Value->Shared->Prop}{Q:Unit->Shared->Prop} (I:Inv X pins σ H s) (hN:X.N.Nodup) (hi:X.N[i]? = some x) (hk:X.env.scope.names.lookup x=some .local)
  (h:∀s',Inv X pins (σ.set i none) H s'->Q () s'):wpAny M A (do bindName X.env x .none;unbindBehindTheSuite X.env x pos) Q E s:=by
 obtain⟨m,hn,hl⟩:=id I.loc;have nh:(X.env.scope.kind == .class || (X.env.scope.kind == .module && X.env.locals != X.env.globals))=false:=by rw[I.ok.kind];rfl
 have l8:=I.l8;refine wpAny_nameGoes_keeps hk hn nh fun h' v fo hs=>?_;obtain⟨oL,_,_,Ov,_⟩:=id hn;have tracked:cI X.prog X.w H h':=fun b ob e=>by
  refine(I.ay b ob e).fE (fun c w' hc q=>(hs.2 c ?_).trans q) (fun _ q=>q) fun _ _ q=>q;rintro rfl;rcases hc with rfl|hc
  ·rw[I.free]at e;cases e
  ·rw[I.free]at hc;cases hc
 refine h _ ⟨I.ok,I.os,I.bare,⟨fun b o e n hb hx=>?_,fun b o e n hb hx=>?_,I.base.free,fun b o e hx=>?_,I.base.kf,I.base.jH,I.base.kh⟩,⟨_,fo,fun j y v' e1 e2 e3=>?_⟩,fun y c e=>?_,I.free,I.ir,fun p hp=>?_,tracked,by simpa using I.len⟩
 ·exact(hs.2 b (bT (gx (aW e) I.ok.above))).trans (I.base.keep b o e n hb hx)
 ·obtain⟨sl,e1⟩:=I.base.slot b o e n hb hx
  exact⟨sl,(hs.2 b (bT (gx (aW e) I.ok.above))).trans e1⟩
 ·obtain⟨o',e1⟩:=I.base.there b o e hx
  exact⟨o',(hs.2 b (bT (gx (aW e) I.ok.above))).trans e1⟩
 ·by_cases hj:j=i
  ·subst hj
   by_cases aT:j < σ.length
   ·rw[Q4 aT]at e2;cases e2
   ·rw[BW (by rw[List.length_set];omega)]at e2;cases e2
  ·rw[Q5 (aH hj)]at e2
   obtain⟨u',r',q⟩:=hl j y v' e1 e2 e3;refine⟨u',r',?_⟩;rcases q with⟨k,e⟩|⟨k,c,e,z⟩
   ·refine .inl ⟨k,?_⟩
    have:y≠x:=fun e=>hj (CN hN e1 (e ▸ hi));simp[this,e]
   ·exact .inr ⟨k,c,e,z.sameBut hs (l8 y c e)⟩
 ·obtain⟨w',z⟩:=I.cell y c e
  exact⟨w',z.sameBut hs (l8 y c e)⟩
 ·obtain⟨e,n,ne,nf,d⟩:=I.pin p hp
  exact⟨(hs.2 p.1 ne).trans e,n,ne,nf,d⟩
def OL (j:Nat) (D:Ends):Ends:={ nx:=fun σ H=>D.nx (σ.set j none) H,rt:=D.rt,bk:=fun σ H=>D.bk (σ.set j none) H,ct:=fun σ H=>D.ct (σ.set j none) H }
def asE (K:Frag) (B:Addr) (j:Nat) (th:Addr->TS) (D:Ends):St->XK:=fun aJ cls oa H2=>(∃C,cls = .ref C/\mroIn K C (.ref B)=some true) /\ ∃a,oa=some a/\th a (OL j D) (aJ.set j (some (.ref a))) H2
section
variable{n:Str}{p5 p6 p7:Pos}{b0 b1:Stmt}{MT:List Stmt}{tb:Ends->TS}{th:Addr->TS}{ci:Option Value}
def Mr (tb:Ends->TS):TS:=fun D σ H=>tb D D σ H
theorem UZ (hb:∀pins D,gC (X.lR pins (asE X.K C j th D)) (b1::body) (tb D))
  (hN:X.N.Nodup) (hj:X.N[j]? = some n) (hn:X.env.scope.names.lookup n=some .local) (h0:X.xe=fun _ _=>False) (hc:X.calm=true) (hs:X.stack=X.env::X.outer) (hf:X.env.frame=some X.env.locals)
  (gc:Gl X cn) (mc:X.mg cn=some (.ref C)) (qc:dj X.K C ci=true) (hh:∀a,gC (X.ip a) (b0::MT) (th a)) (FC:(cn==("__debug__" : Str))=false:=by decide) :
  PS X (.Try (b1::body) [.ExceptHandler (some (.Name cn p5)) (some n) (b0::MT) p6] [] [] p7) (Mr tb):=by
 intro pins s σ H D I h;refine wpAny_Try_except ?_;refine nV (hb pins D [] s σ H D I.lR h) (fun fl s1 z=>?_) fun ev s2 z=>?_
 ·have z':=SP.pX I.ok z
  cases fl with
  |next=>exact yN z'
  |brk=>exact z'
  |cont=>exact z'
  |ret u=>exact z'
 ·obtain⟨aJ,H0,s1,I1,a,nn,C',a0,dx,H',B,rfl,os,bare,sG,⟨ox,ly,hd,hz⟩,yc,na,new,⟨C2,eC,me⟩,a',ea,FE⟩:=z
  cases ea
  cases eC
  rw[hs]at sG;refine k9 zH (wpAny_looks_onW (Q:=fun _ s'=>∃h',s'={ s2 with heap:=h' }/\Heap.HeldW B (X.env::X.outer) a (.ref C') a0 X.env.locals h'/\s2.heap.UpToSlots h') (by rw[<-hs];exact I1.ok.frames) hf sG fun h3 held sH=>⟨h3,rfl,held,sH⟩) fun _ s3 ⟨h3,e3,held,sH⟩ FF=>?_
  subst e3;refine k9 qR (wpAny_landsW (Q:=fun _ s'=>∃h',s'={ s2 with heap:=h' }/\Heap.FlyingW B (X.env::X.outer) a (.ref C') a0 h'/\h3.UpToSlots h') held fun h4 lX kz=>⟨h4,rfl,lX,kz⟩) fun _ s4 ⟨h4,e4,lX,kz⟩ FG=>?_;subst e4;have up:s2.heap.UpToSlots h4:=yW sH kz;have rd:RD s2.heap h4:=FF.trans FG;have lay:∀h5,Heap.FlyingW B (X.env::X.outer) a (.ref C') a0 h5->s2.heap.UpToSlots h5->RD s2.heap h5->Inv X pins aJ (upd H' a (ee nn C' dx a)) { s2 with heap:=h5 }:=fun h5 f5 u5 r5=>by
   obtain⟨u,ok⟩:=yc h5 f5.1 u5;obtain⟨o5,e5,_⟩:=f5.there;exact I1.w9 (s':={ s2 with heap:=h5 }) os (u.add na new) (LN ok na (LM f5 ⟨o5,e5,(r5.dict ly e5).1.trans hd,fun y ey=>(r5.dict ly e5).2.trans (hz y ey)⟩)) bare (fun b z=>absurd z (by simp))
  have J:=lay h4 lX up rd;obtain⟨o4,jR,vd⟩:=lX.there;refine wpAny_handleBy_cons (codeAny_handlers_test ?_) (by intro z;cases z)
  refine mV (J.ip a) gc mc ?_ FC;refine Jp (K:=X.K) J.bc qc me jR vd ?_;refine ahK ?_;refine k9 qR (lands_againW (Q:=fun _ s'=>∃h',s'={ s2 with heap:=h' }/\Heap.FlyingW B (X.env::X.outer) a (.ref C') a0 h'/\h4.UpToSlots h') lX fun h5 rP sI=>⟨h5,rfl,rP,sI⟩) fun _ s5 ⟨h5,e5,rP,sI⟩ FH=>?_;subst e5;have J5:=lay h5 rP (yW up sI) (rd.trans FH);refine tU (X:=X.ip a) (v:= .ref a) (J5.ip a) hN hj (.inl hn) rfl (fun s6 I6=>?_) (.inr hn);refine Rn (aC (hh a pins _ _ _ (OL j D) I6 FE) fun fl s7 z=>?_);cases fl with
  |next=>obtain⟨jh,H7,I7,q⟩:=z;exact zI (I7.uncaught (Y:=X) J5.ok) hN hj hn fun s8 I8=>⟨_,H7,I8,q⟩
  |brk=>obtain⟨jh,H7,I7,q⟩:=z;exact zI (I7.uncaught (Y:=X) J5.ok) hN hj hn fun s8 I8=>⟨_,H7,I8,q⟩
  |cont=>obtain⟨jh,H7,I7,q⟩:=z;exact zI (I7.uncaught (Y:=X) J5.ok) hN hj hn fun s8 I8=>⟨_,H7,I8,q⟩
  |ret u=>obtain⟨v,jh,H7,I7,r,q⟩:=z;exact zI (I7.uncaught (Y:=X) J5.ok) hN hj hn fun s8 I8=>⟨v,_,H7,I8,r,q⟩
end
theorem eG:Passes (a8 P w) (jJ (a8 P w) P w K mg base N qual scope f cd A outer s H E) E:=by
 rintro pins σ H1 s1 e s2 I ⟨a,n,C,a0,dx,H',B,rfl,os,bare,sG,⟨ox,ly,hd,hz⟩,yc,na,new,hE⟩;show wpAny (model P w) _ (leaving _ (.ref a)) _ _ _;have xR:s1.os=s.os:=I.os;refine k9 Cm (wpAny_leaves_onW (Q:=fun _ s'=>∃h',s'={ s2 with heap:=h' }/\Heap.FlyingW B outer a (.ref C) a0 h'/\s2.heap.UpToSlots h') I.ok.frames rfl sG fun h' fl up=>⟨h',rfl,fl,up⟩) fun _ s' ⟨h',es,fl,up⟩ rd=>?_;subst es;obtain⟨o',gK,_⟩:=fl.there;refine⟨a,n,C,a0,dx,H',B,rfl,os.trans xR,bare,fl,⟨o',gK,(rd.dict ly gK).1.trans hd,fun y ey=>(rd.dict ly gK).2.trans (hz y ey)⟩,fun iP kb u2=>?_,na,?_,hE⟩
 ·obtain⟨u,ok⟩:=yc iP kb (yW up u2)
  have J:=I.w9 (s':={ s2 with heap:=iP }) os u ok bare (fun b z=>absurd z (by simp))
  exact⟨J.base,J.ay⟩
 ·cases q:s.heap.get? a with
  |none=>rfl
  |some o =>
   obtain⟨o2,e2⟩:=I.base.there a o q (by show a ∉ ([]:List Addr);simp)
   rw[new]at e2;cases e2
section
variable{M:Model}{E:Value->Shared->Prop}{B:Heap}{l:List Env}{L e:Addr}{cls a0:Value}
theorem Su {oe:Obj}{vs:Array Value}{Q:Unit->Shared->Prop} (AJ:A.frames=some (env::outer)) (hl:s.heap.FunFrames B (env::outer)) (hf:env.frame=some L)
  (he:s.heap.get? e=some oe) (yd:B.StaysIn s.heap) (vf:B.get? e=none) (hd:oe.data = .fields vs) (h1:vs[1]? = some .none) (h0:vs[0]? = some a0)
  (h:∀h',Heap.HeldW B (env::outer) e oe.cls a0 L h'->s.heap.UpToSlots h'->Q () { s with heap:=h' }):wpAny M A (noteFrame (.ref e) env) Q E s:=by
 unfold noteFrame;simp only[hf];refine ag (gQ he hd h1 ?_);rw[ao (by decide)]
 exact wpAny_entryW AJ hl hf he yd vf hd (yT.mp h1).1 h0 fun h' ⟨k1,k2,k3,k4⟩=>h h' ⟨k1,vf,k2,k3⟩ k4
theorem Jm {Q:Unit->Shared->Prop} (hh:Heap.HeldW B l e cls a0 L s.heap)
  (h:∀h',Heap.HeldW B l e cls a0 L h'->s.heap.UpToSlots h'->Q () { s with heap:=h' }):wpAny M A (setFlight (.ref e) (some L)) Q E s:=by
 obtain⟨yd,vf,hl,oe,vs,T,oT,ts,he,nh,hd,h1,AK,AL,hT,sJ,h3⟩:=hh;have NL:3 < ts.size:=(yT.mp h3).1;have other:∀b,b≠T->(s.heap.update T (Obj.mapFields (·.setIfInBounds 3 ((some L:Option Addr).elim Value.none fun f=>rawInt f)))).get? b=s.heap.get? b:=fun b hb=>jX _ _ (aH hb);have K5:∀b o,s.heap.get? b=some o->(∀vs,o.data ≠ .fields vs)->b≠T:=fun b o hb mj q=>by
  rw[q,hT]at hb;injection hb with hb;subst hb;exact mj ts sJ
 unfold setFlight;refine ag (gQ he hd h1 ?_);rw[au (show(Value.ref T != Value.none)=true from by simp)]
 refine vN hT sJ NL (h _ ⟨fun b o FO=>(other b fun q=>by rw[q,AK]at FO;cases FO).trans (yd b o FO),vf,
  hl.of_keeps fun b o hb mj=>⟨o,(other b (K5 b o hb mj)).trans hb,rfl⟩,?_⟩ fun b o hb mj=>⟨o.slots,(other b (K5 b o hb mj)).trans hb⟩)
 exact⟨oe,vs,T,_,_,(other e (aH AL)).trans he,nh,hd,h1,AK,AL,qK _ hT (Obj.isFreed_of_fields (Rz sJ _)),Rz sJ _,by simp[NL]⟩
theorem R7 {ZE:String}{Q:Flow->Shared->Prop} (hf:env.frame=some L) (hh:Heap.HeldW B l e cls a0 L s.heap)
  (h:∀h',Heap.HeldW B l e cls a0 L h'->s.heap.UpToSlots h'->RD s.heap h'->E (.ref e) { s with heap:=h' }):wpAny M A (PySem.passOn ZE (.ref e) env:Sem Flow) Q E s:=by
 have hh':=hh;obtain⟨_,_,_,oe,vs,T,oT,ts,he,nh,hd,h1,_⟩:=hh';unfold PySem.passOn;refine ag (gQ he hd h1 ?_);rw[ao (show ¬ ((Value.ref T==Value.none)=true) from by simp),hf]
 first
  |refine ag (k9 qR (Jm (Q:=fun _ s'=>∃h',s'={ s with heap:=h' }/\Heap.HeldW B l e cls a0 L h'/\s.heap.UpToSlots h') hh fun h' k u=>⟨h',rfl,k,u⟩) fun _ s' ⟨h',es,k,u⟩ rd=>?_)
  |refine ag (aA (ag (k9 qR (Jm (Q:=fun _ s'=>∃h',s'={ s with heap:=h' }/\Heap.HeldW B l e cls a0 L h'/\s.heap.UpToSlots h') hh fun h' k u=>⟨h',rfl,k,u⟩) fun _ s' ⟨h',es,k,u⟩ rd=>?_)))
 subst es;exact yV (h h' k u rd)
theorem R8 {Q:Unit->Shared->Prop} (hf:env.frame=some L) (hh:Heap.HeldW B (env::outer) e cls a0 L s.heap) (hQ:∀h',Heap.FlyingW B outer e cls a0 h'->s.heap.UpToSlots h'->Q () { s with heap:=h' }):wpAny M A (leaving env (.ref e)) Q E s:=by
 unfold leaving;refine ag (wpAny_noteFrame_againW hf hh.2.2.2 ?_);refine wpAny_landsW hh fun h' AM up=>?_;obtain⟨k1,k2,⟨_,_,k3⟩,k4⟩:=AM;exact hQ h' ⟨k1,k2,k3,k4⟩ up
theorem Jx {h h':Heap} (k:∀b o,h.get? b=some o->(∀vs,o.data ≠ .fields vs) -> ∃o',h'.get? b=some o' /\ ∀vs,o'.data ≠ .fields vs):∀ {l:List Env},h.FunFrames B l->h'.FunFrames B l
 |[],_=>trivial
 |_::_,⟨hk,⟨L,o,hf,hn,ho,hd⟩,hr⟩=>by
  obtain⟨o',gK,sg⟩:=k L o ho hd;exact⟨hk,⟨L,o',hf,hn,gK,sg⟩,Jx k hr⟩
theorem Ud {n:Addr}{m m':Str->Option Value} (hh:Heap.HeldW B l e cls a0 L h) (hs:Heap.SameBut n h h') (n0:h.Ns n m) (n1:h'.Ns n m') (hB:B.get? n=none):Heap.HeldW B l e cls a0 L h':=by
 obtain⟨yd,vf,hl,oe,vs,T,oT,ts,he,nh,hd,h1,AK,AL,hT,sJ,h3⟩:=hh;obtain⟨o0,es0,ep0,ho0,AG,_⟩:=n0;obtain⟨o1,fT,ep1,AN,jS,_⟩:=n1;have nf:∀b o us,h.get? b=some o->o.data = .fields us->b≠n:=fun b o us hb hu q=>by
  rw[q,ho0]at hb;cases hb;rw[AG]at hu;cases hu
 refine⟨fun b o q=>(hs.2 b fun z=>by rw[z,hB]at q;cases q).trans (yd b o q),vf,Jx (fun b o hb mj=>?_) hl,oe,vs,T,oT,ts,(hs.2 e (nf _ _ _ he hd)).trans he,nh,hd,h1,AK,AL,(hs.2 T (nf _ _ _ hT sJ)).trans hT,sJ,h3⟩
 by_cases c:b=n
 ·subst c
  exact⟨o1,AN,fun vs z=>by rw[jS]at z;cases z⟩
 ·exact⟨o,(hs.2 b c).trans hb,mj⟩
end
theorem B':entryFor table "proto.unchain" = some Builtin.«proto.unchain» :=entryFor_of_fast (by kernel_rfl)
section
variable{c:Addr}
def ZF (c a C t:Addr) (dx:Option Addr) (s1 s2:Shared):Prop:=(∃ox vs,s2.heap.get? a=some ox/\ox.cls = .ref C/\ox.dict=dx/\ox.data = .fields vs/\vs[0]? = some (.ref t)/\vs[1]? = some .none/\vs[2]? = some (.ref c))/\(∀b,b≠a->s2.heap.get? b=s1.heap.get? b)/\s2.os=s1.os/\s2.gens=s1.gens
theorem Td {p0:Pos}{Q:Flow->Shared->Prop}{XE:Value->Shared->Prop}{R:Addr->Addr->Option Addr->Hp->Prop} (hX:(X.ip c).xe=fun _ _=>False) (I:Inv (X.ip c) pins σ H s) (he:PE (X.ip c) e te)
  (h:te σ H fun v H1=>∃a C dx i C' kE,v = .ref a/\H1 a=some (bE C dx a)/\(∀d,dx=some d -> ∃fs,H1 d=some (dv d fs))/\df X.K C/\dj X.K C i=true/\H1 c=some (ee (some .none) C' kE c)/\a≠c/\R a C dx H1)
  (fin:∀a C t dx H1 s1 s2,Inv (X.ip c) pins σ H1 s1->H1 a=some (bE C dx a)->R a C dx H1->ZF c a C t dx s1 s2->XE (.ref a) s2) :
  wpAny (model X.prog X.w) (X.A.mark (some (.ref c))) (exec (.Raise (some e) (some (.Constant .none j p0)) pos) X.env) Q XE s:=by
 rw[arm_exec_Raise];refine ag (pD (show wpAny _ _ (raiseStmt X.env (some (do let v <- eval e X.env;standAt pos;pure v)) (some (do let v <- eval (.Constant .none j p0) X.env;standAt pos;pure v))) _ _ _ from ?_));unfold raiseStmt;refine ag (ag (Rn (aC (he pins s σ H _ I h) fun u s1 ⟨v,H1,J,r,a,C,dx,i,C',kE,ev,ea,hd,xc,q,hc,OM,hR⟩=>ag (pD (aA ?_)))));subst ev;obtain rfl:u = .ref a:=r;obtain⟨ox,od,t,inst,rfl⟩:=J.LH ea hd;have zW:Looks (model X.prog X.w) s1.heap (isType (.ref a)) false:=fun A' Q' E' s' k z=>by
  simp only[isType,loadHead];exact ag (yR (k _ _ inst.at_) (aA z))
 have Fy:Looks (model X.prog X.w) s1.heap (isInstance (.ref a) (.type "BaseException")) true:=inst.type.andThen (BN J.bc xc.be);obtain⟨bm,N,nm,qn,bs,Aa,sn,sub,ab,col,dd,k0,k1,k2,k3,k5,mN,hC,_⟩:=(qU J.bc q).ex;have naC:C≠a:=fun z=>by rw[z]at hC;have h1:=inst.at_;rw[hC]at h1;cases h1
 obtain⟨oc,vc,cat,_,_,gg,FQ⟩:=(J.ay c _ hc).1;have cx:=FQ _ rfl;have jT:=inst.at_;refine ag (eu (ag (Constant_none (ag (pD (aA (ag (aA ?_))))))));refine ag (eu ?_);unfold excFromValue isExcClass;refine ag (ag (zW.here (aA ?_)));refine ag (Fy.here (aA ?_))
 dsimp only
 rw[au (show(Value.none==Value.none)=true from by decide)]
 refine ag (aA ?_);refine ag (vN jT rfl (show 3 < 6 by decide) ?_)
 have kx:=qK (h:=s1.heap) (Obj.mapFields (·.setIfInBounds 3 Value.none)) jT rfl;refine ag (vN kx rfl (show 4 < 6 by decide) ?_)
 have at2:=qK (Obj.mapFields (·.setIfInBounds 4 (Value.bool true))) kx rfl;have AO:∀b,b≠a->((s1.heap.update a (Obj.mapFields (·.setIfInBounds 3 Value.none))).update a (Obj.mapFields (·.setIfInBounds 4 (Value.bool true)))).get? b=s1.heap.get? b:=fun b hb=>(jX _ _ (aH hb)).trans (jX _ _ (aH hb));generalize hh2:(s1.heap.update a (Obj.mapFields (·.setIfInBounds 3 Value.none))).update a (Obj.mapFields (·.setIfInBounds 4 (Value.bool true)))=h2 at at2 AO;refine ag (show wpAny _ _ (isType (.ref a)) _ _ _ from ?_);simp only[isType,loadHead];refine ag (yR at2 (aA ?_));unfold raisedInstance;have tyL:Looks (model X.prog X.w) h2 (typeOf (.ref a)) (.ref C):=(Looks.ld at2).andThen .now;have Fz:({ s1 with heap:=h2 }:Shared).TypeIs (.ref C) "type" :=⟨_,(AO C naC).trans hC,rfl⟩;refine ag (ag (tyL.here (ag (qJ Fz ?_))));rw[au (show(Value.type "type" == Value.type "type")=true from by decide)]
 refine aA ?_;unfold setFlight raiseNew;refine ag (ag (gQ at2 rfl (x:= .none) rfl ?_));rw[ao (show ¬ ((Value.none != Value.none)=true) from by decide)]
 refine aA (ag (wpAny_handled ?_));show wpAny _ _ (if (Value.ref c != Value.ref a)=true then _ else _) _ _ _;rw[au (show(Value.ref c != Value.ref a)=true from by simp;exact fun z=>OM z.symm)]
 refine ag (eu (IY (lJ B' ?_)));unfold Builtin.«proto.unchain»;refine ag (gQ ((AO c (aH OM)).trans cat) gg cx ?_);rw[au (show(Value.none==Value.none)=true from by decide)]
 refine ag (aA (aA ?_));show wpAny _ _ (do updateField a 2 (.ref c);throw (Value.ref a)) _ _ _;refine ag (show wpAny _ _ (setField (.ref a) 2 (.ref c)) _ _ _ from vN at2 rfl (show 2 < 6 by decide) ?_)
 have OK:=qK (Obj.mapFields (·.setIfInBounds 2 (Value.ref c))) at2 rfl;refine yV (fin a C t dx H1 s1 _ J ea hR ⟨⟨_,_,OK,rfl,rfl,rfl,rfl,rfl,rfl⟩,fun b hb=>(jX _ _ (aH hb)).trans (AO b hb),rfl,rfl⟩)
end
theorem Inv.V' (I:Inv X pins σ H s) (hx:X.ex = []) (hs:X.stack=X.env::X.outer) (hf:X.env.frame=some X.env.locals) (ha:H a=some (bE C dx a)) (h0:X.jb a=none)
  (k:(hideAll s.heap (a::cM X.stack)).StaysIn h') (xj:∀b o,b∈X.fs->s.heap.get? b=some o -> ∃sl,h'.get? b=some { o with slots:=sl }):Un X.fs [] X.jb (i' H a) X.cH.heap h'/\cI X.prog X.w (i' H a) h':=by
 have ub:Un X.fs [] X.jb H X.cH.heap s.heap:=by have:=I.base;rw[hx]at this;exact this
 have xB:∀b,b∈cM X.stack->b=X.env.locals\/b∈X.fs:=fun b hb=>by
  have:=I.wF b hb;rcases aY.mp this with z|z
  ·exact .inl z
  ·exact .inr z
 have nA:∀ {b:Addr},H b=none->b≠a:=fun e z=>by subst z;rw[ha]at e;cases e
 have get:∀b o,s.heap.get? b=some o->b≠a->b ∉ cM X.stack->h'.get? b=some o:=fun b o e n m=>k b o (hideAll_get _ e fun z=>by
  rcases aY.mp z with z|z
  ·exact n z
  ·exact m z)
 have xC:∀b o,X.cH.heap.get? b=some o->b≠X.env.locals:=fun b o e z=>by
  have h1:=aW e;have h2:=I.ok.above;subst z;exact absurd h1 (Ru.mpr h2)
 refine⟨⟨fun b o e n m _=>?_,fun b o e n m _=>?_,fun b o e n _=>JI (ub.free b o e n (by simp)),fun b o e _=>?_,fun b xs e=>?_,fun b o u e=>?_,fun b ps e=>?_⟩,fun b o e=>?_⟩
 ·have e1:=ub.keep b o e n m (by simp)
  refine get b o e1 (nA (ub.free b o e n (by simp))) fun z=>?_
  rcases xB b z with z|z
  ·exact xC b o e z
  ·exact m z
 ·obtain⟨sl,e1⟩:=ub.slot b o e n m (by simp)
  obtain⟨xO,e2⟩:=xj b _ m e1;exact⟨xO,e2⟩
 ·obtain⟨o',e1⟩:=ub.there b o e (by simp)
  by_cases m:b∈X.fs
  ·obtain⟨sl,e2⟩:=xj b _ m e1
   exact⟨_,e2⟩
  ·refine⟨o',get b o' e1 (fun z=>?_) fun z=>?_⟩
   ·subst z
    have:=ub.free b o e h0 (by simp)
    rw[ha]at this;cases this
   ·rcases xB b z with z|z
    ·exact xC b o e z
    ·exact m z
 ·have e1:=ub.kf b xs e
  rw[lN (b6 e1 ha (by intro z;cases z))];exact e1
 ·have e1:=ub.jH b o u e
  rw[lN (b6 e1 ha (by intro z;cases z))];exact e1
 ·obtain⟨mo,e1⟩:=ub.kh b ps e
  exact⟨mo,by rw[lN (b6 e1 ha (by intro z;cases z))];exact e1⟩
 ·obtain⟨n,e1⟩:=JH e
  have rL:∀ {c:Addr}{u:HO},H c=some u->c ∉ cM X.stack:=fun q m=>by
   have:=I.zF _ m;rw[q]at this;cases this
  refine(I.ay b o e1).fE (fun c u hc q=>?_) (fun c q=>?_) fun c xs q=>?_
  ·rcases hc with rfl|q1
   ·exact get _ u q n (rL e1)
   ·exact get c u q (b6 q1 ha (by intro z;cases z)) (rL q1)
  ·rw[lN (b6 q ha (by intro z;cases z))];exact q
  ·rw[lN (b6 q ha (by intro z;cases z))];exact q
def reE (K:Frag) (H0:Hp) (E:XK) (B:Addr) (j:Nat) (te:Addr->TE):St->XK:=fun aJ cls oa H2=>(∃C,cls = .ref C/\mroIn K C (.ref B)=some true) /\ ∃a,oa=some a/\te a (aJ.set j (some (.ref a))) H2 fun v H3 =>
 ∃a2 C2 dx i C' kE,v = .ref a2/\H3 a2=some (bE C2 dx a2)/\(∀d,dx=some d -> ∃fs,H3 d=some (dv d fs))/\df K C2/\dj K C2 i=true/\H3 a=some (ee (some .none) C' kE a)/\a2≠a/\H0 a2=none/\E (.ref C2) (some a2) (upd H3 a2 (ee (some (.ref a)) C2 dx a2))
section
variable{jj:Nat}{Bc:Addr}{n:Str}{p0 p5 p6 p7:Pos}{b1:Stmt}{te:Addr->TE}{tb:Ends->TS}{ci:Option Value}
theorem U0 (hX:X=jJ (a8 P w) P w K mg base N qual scope f cd A outer s H E) (hb:∀pins D,gC (X.lR pins (reE K H E Bc j te)) (b1::body) (tb D))
  (hN:X.N.Nodup) (hj:X.N[j]? = some n) (hn:X.env.scope.names.lookup n=some .local)
  (gc:Gl X cn) (mc:X.mg cn=some (.ref Bc)) (qc:dj X.K Bc ci=true) (he:∀a,PE (X.ip a) e (te a)) (FC:(cn==("__debug__" : Str))=false:=by decide) :
  PS X (.Try (b1::body) [.ExceptHandler (some (.Name cn p5)) (some n) [.Raise (some e) (some (.Constant .none jj p0)) pos] p6] [] [] p7) (Mr tb):=by
 subst hX;generalize hX:jJ (a8 P w) P w K mg base N qual scope f cd A outer s H E=X at *;have hs:X.stack=X.env::X.outer:=by subst hX;rfl
 have hf:X.env.frame=some X.env.locals:=by subst hX;rfl
 have hex:X.ex = []:=by subst hX;rfl
 have hK:X.K=K:=by subst hX;rfl
 have hH:X.jb=H:=by subst hX;rfl
 have hP:X.prog=P:=by subst hX;rfl
 have hw:X.w=w:=by subst hX;rfl
 intro pins s0 σ H0 D I h;refine wpAny_Try_except ?_;refine nV (hb pins D [] s0 σ H0 D I.lR h) (fun fl s1 z=>?_) fun ev s2 z=>?_
 ·have z':=SP.pX I.ok z
  cases fl with
  |next=>exact yN z'
  |brk=>exact z'
  |cont=>exact z'
  |ret u=>exact z'
 ·obtain⟨aJ,H0,s1,I1,a,nn,C',a0,dx,H',B,rfl,os,bare,sG,⟨ox,ly,hd,hz⟩,yc,na,new,⟨C2,eC,me⟩,a',ea,FE⟩:=z
  cases ea
  cases eC
  rw[hs]at sG;refine k9 zH (wpAny_looks_onW (Q:=fun _ s'=>∃h',s'={ s2 with heap:=h' }/\Heap.HeldW B (X.env::X.outer) a (.ref C') a0 X.env.locals h'/\s2.heap.UpToSlots h') (by rw[<-hs];exact I1.ok.frames) hf sG fun h3 held sH=>⟨h3,rfl,held,sH⟩) fun _ s3 ⟨h3,e3,held,sH⟩ FF=>?_
  subst e3;refine k9 qR (wpAny_landsW (Q:=fun _ s'=>∃h',s'={ s2 with heap:=h' }/\Heap.FlyingW B (X.env::X.outer) a (.ref C') a0 h'/\h3.UpToSlots h') held fun h4 lX kz=>⟨h4,rfl,lX,kz⟩) fun _ s4 ⟨h4,e4,lX,kz⟩ FG=>?_;subst e4;have up:s2.heap.UpToSlots h4:=yW sH kz;have rd:RD s2.heap h4:=FF.trans FG;have lay:∀h5,Heap.FlyingW B (X.env::X.outer) a (.ref C') a0 h5->s2.heap.UpToSlots h5->RD s2.heap h5->Inv X pins aJ (upd H' a (ee nn C' dx a)) { s2 with heap:=h5 }:=fun h5 f5 u5 r5=>by
   obtain⟨u,ok⟩:=yc h5 f5.1 u5;obtain⟨o5,e5,_⟩:=f5.there;exact I1.w9 (s':={ s2 with heap:=h5 }) os (u.add na new) (LN ok na (LM f5 ⟨o5,e5,(r5.dict ly e5).1.trans hd,fun y ey=>(r5.dict ly e5).2.trans (hz y ey)⟩)) bare (fun b z=>absurd z (by simp))
  have J:=lay h4 lX up rd;obtain⟨o4,jR,vd⟩:=lX.there;refine wpAny_handleBy_cons (codeAny_handlers_test ?_) (by intro z;cases z)
  refine mV (J.ip a) gc mc ?_ FC;refine Jp (K:=X.K) J.bc qc (hK ▸ me) jR vd ?_;refine ahK ?_;refine k9 qR (lands_againW (Q:=fun _ s'=>∃h',s'={ s2 with heap:=h' }/\Heap.FlyingW B (X.env::X.outer) a (.ref C') a0 h'/\h4.UpToSlots h') lX fun h5 rP sI=>⟨h5,rfl,rP,sI⟩) fun _ s5 ⟨h5,e5,rP,sI⟩ FH=>?_;subst e5;have J5:=lay h5 rP (yW up sI) (rd.trans FH);refine tU (X:=X.ip a) (v:= .ref a) (J5.ip a) hN hj (.inl hn) rfl (fun s6 I6=>?_) (.inr hn);refine Q6 (Td (c:=a) (X:=X) (R:=fun a2 C2 AQ H3=>H a2=none/\E (.ref C2) (some a2) (upd H3 a2 (ee (some (.ref a)) C2 AQ a2))) rfl I6 (he a) (hK ▸ FE) fun a2 C2 t AQ H3 s7 s8 J7 AR ⟨h0,hE⟩ ⟨⟨o8,vs8,FT,cl8,di8,ON,v0,v1,v2⟩,AS,os8,gs8⟩=>?_);have fr:s7.heap.FunFrames X.base X.stack:=J7.stack;obtain⟨t7,at7⟩:=J7.excAt AR;have OO:∀b o,s7.heap.get? b=some o->(∀vs,o.data ≠ .fields vs)->b≠a2:=fun b o hb mj z=>by
   rw[z,at7]at hb;cases hb;exact mj _ rfl
  have all:∀env∈X.stack,∀b,env.frame=some b->b∈a2::cM X.stack:=fun env m b hb=>bV _ (qF.mpr ⟨env,m,hb⟩);have ff7:s7.heap.FunFrames (hideAll s7.heap (a2::cM X.stack)) X.stack:=funFrames_hide fr all;have ff8:s8.heap.FunFrames (hideAll s7.heap (a2::cM X.stack)) X.stack:=ff7.of_keeps fun b o hb mj=>⟨o,(AS b (OO b o hb mj)).trans hb,rfl⟩;have st8:(hideAll s7.heap (a2::cM X.stack)).StaysIn s8.heap:=fun b o hb=>by
   have n2:b≠a2:=fun z=>by rw[z,BV _ aV]at hb;cases hb
   exact(AS b n2).trans (of_hideAll _ hb)
  have nl:X.env.locals≠a2:=fun z=>by
   have:=J7.free;rw[show(X.ip a).env.locals=X.env.locals from rfl,z,AR]at this;cases this
  have ZG:(hideAll s7.heap (a2::cM X.stack)).get? X.env.locals=none:=BV _ (bV _ (by rw[hs];exact qF.mpr ⟨X.env,aV,hf⟩))
  obtain⟨m7,ns7,_⟩:=J7.loc;have ZH:s7.heap.Ns X.env.locals m7:=ns7;have ns8:s8.heap.Ns X.env.locals m7:=by
   obtain⟨oo,es,ep,ho,r⟩:=ZH;exact⟨oo,es,ep,(AS _ nl).trans ho,r⟩
  have frA:(X.A.mark (some (.ref a))).frames=some (X.env::X.outer):=by rw[<-hs];exact J7.ok.frames
  refine k9 zH (Su (Q:=fun _ s'=>∃h',s'={ s8 with heap:=h' }/\Heap.HeldW (hideAll s7.heap (a2::cM X.stack)) (X.env::X.outer) a2 o8.cls (.ref t) X.env.locals h'/\s8.heap.UpToSlots h') frA (by rw[<-hs];exact ff8) hf FT st8 (BV _ aV) ON v1 v0 fun h' k u=>⟨h',rfl,k,u⟩) fun _ s9 ⟨h9,e9,MU,OP⟩ OQ=>?_
  subst e9;have OR:h9.Ns X.env.locals m7:=OP.ns ns8;have nh:(X.env.scope.kind == .class || (X.env.scope.kind == .module && X.env.locals != X.env.globals))=false:=by rw[I1.ok.kind];rfl
  refine wpAny_nameGoes_keeps hn OR nh fun AU v fo jQ=>?_;have Xe:=Ud MU jQ OR fo ZG;have pas:∀s',X.xe (.ref a2) s'->notedBy (model X.prog X.w) (X.A.mark (some (.ref a))) X.env (cameBackBy (model X.prog X.w) X.A X.env X.xe) (.ref a2) s':=by subst hX;exact fun s' z=>PassesOwnAt.leaving _ _ z
  have xe:∀s',X.xe (.ref a2) s' ↔ wpAny (model X.prog X.w) X.A (leaving X.env (.ref a2)) (fun _ mf=>a8 P w X.outer H s E (.ref a2) mf) (fun e' mf=>a8 P w X.outer H s E e' mf) s':=by subst hX;exact fun s'=>Iff.rfl
  refine R7 hf Xe fun qy ue ZI NM=>pas _ ((xe _).mpr ?_);have Xf:∀b o,b∈X.fs->s7.heap.get? b=some o -> ∃sl,qy.get? b=some { o with slots:=sl }:=fun b o m hb=>by
   obtain⟨_,o',e',nf⟩:=J7.f'.mem m;rw[hb]at e';cases e';obtain⟨sl,q9⟩:=OP b o ((AS b (OO b o hb nf)).trans hb) nf;have AV:b≠X.env.locals:=fun z=>by
    have lt:=aW (show X.cH.heap.get? b=some _ from(J7.ok.f'.mem m).2.choose_spec.1);have:=J7.ok.above;rw[z]at lt;exact absurd lt (Ru.mpr this)
   have q10:AU.get? b=some { o with slots:=sl }:=(jQ.2 b AV).trans q9;obtain⟨sv,q11⟩:=ZI b _ q10 nf;exact⟨sv,q11⟩
  have cx8:pW o8=some (.ref a):=by unfold pW;rw[ON];exact v2
  have ZJ:∃o,AU.get? a2=some o/\o.dict=AQ/\pW o=some (.ref a):=by
   obtain⟨o9,e9,_⟩:=MU.there;exact⟨o9,(jQ.2 a2 (aH nl)).trans e9,(OQ.dict FT e9).1.trans di8,(OQ.dict FT e9).2.trans cx8⟩
  obtain⟨o10,NN,d10,c10⟩:=ZJ;have ZK:o8.cls = .ref C2:=cl8;rw[ZK]at ue;refine k9 Cm (R8 (Q:=fun _ s'=>∃h',s'.heap=h'/\s'.os=s8.os/\s'.gens=s8.gens/\Heap.FlyingW (hideAll s7.heap (a2::cM X.stack)) X.outer a2 (.ref C2) (.ref t) h'/\qy.UpToSlots h') hf ue fun h' k u=>⟨h',rfl,rfl,rfl,k,u⟩) fun _ s12 ⟨ye,oY,ZL,ZM,NO,ZN⟩ NP=>?_;subst oY;obtain⟨o12,Ep,_⟩:=NO.there;have ZO:s7.os=X.cH.os:=J7.os;have FU:X.cH=s:=by subst hX;rfl
  have hfs:X.fs=cM X.outer:=rfl;have ZP:s.heap.get? a2=none:=by
   have ub:Un X.fs X.ex X.jb H3 X.cH.heap s7.heap:=J7.base;cases q:s.heap.get? a2 with
   |none=>rfl
   |some o =>
    have:=ub.free a2 o (by rw[FU];exact q) (by rw[hH];exact h0) (by rw[hex];simp)
    rw[AR]at this;cases this
  refine⟨a2,some (.ref a),C2,.ref t,AQ,i' H3 a2,hideAll s7.heap (a2::cM X.stack),rfl,ZL.trans (os8.trans (ZO.trans (by rw[FU]))),by rw[ZM,gs8];exact J7.bare,NO,⟨o12,Ep,?_,fun y ey=>by cases ey;exact(NP.dict (h:=qy) (ue.there.choose_spec.1) Ep).2.trans (((NM.dict NN ue.there.choose_spec.1).2).trans c10)⟩,fun h13 k13 u13=>?_,by unfold i';rw[au rfl],ZP,by rw[K2];exact hE⟩
  ·have q:=(NP.dict (h:=qy) (ue.there.choose_spec.1) Ep).1
   exact q.trans (((NM.dict NN ue.there.choose_spec.1).1).trans d10)
  ·have r:=J7.V' (h':=h13) (a:=a2) hex hs hf AR (by rw[show(X.ip a).jb=X.jb from rfl,hH];exact h0) k13 fun b o m hb=>by
    obtain⟨_,o',e',nf⟩:=J7.f'.mem m;rw[hb]at e';cases e';obtain⟨sl,q⟩:=Xf b o m hb;obtain⟨sv,q2⟩:=ZN b _ q nf;obtain⟨sl3,q3⟩:=u13 b _ q2 nf;exact⟨sl3,q3⟩
   rw[<-FU,<-hH,<-hP,<-hw];exact r
end
end L2
namespace L2
open PySem PySem.Spec PyProof.Rows PySem.W HT
theorem Kl (hc:X.calm=true):eV X (.builtin "any") (fun xs H Q=>∃ (p:Addr) (bs:List Bool),xs = [.ref p]/\aj X.K H p (bs.map V.bl)/\Q (.bl (bs.any id)) H):=by
 intro pins s σ H xs us Q I r h;obtain⟨p,bs,rfl,hq,q⟩:=h;obtain⟨u,rfl,rx⟩:=vals1 r;cases rx
 obtain⟨its,rv,pl,hz⟩:=I.list hq;have hlen:=rv.length;have vals:its=bs.map Value.bool:=by
  clear q hq pl hz r hlen
  induction bs generalizing its with
  |nil=>cases rv;rfl
  |cons b bs ih =>
   cases rv with
   |cons r1 rt=>cases r1;rw[ih _ rt];rfl
 have new:∀b o,s.heap.get? b=some o->b≠s.heap.objs.size:=fun b o e=>bT (aW e);obtain⟨ol,yb,_⟩:=id pl.isList;refine call_any_walk (BI pl.isList ?_);refine⟨s.heap.objs.size,_,_,_,_,_,fun i=>bs.getD i false,rfl,Walks.list (A:=X.A.in1) (I.ok.hd hc) s.heap.objs.size p (new p ol yb) its.toArray,⟨⟨_,eM _ rfl,rfl,rfl⟩,pl.isList.at fun o e=>bU _ e⟩,fun i v s2 Q2 E2 hv qw=>?_,fun h' tk kp=>?_⟩
 ·rw[vals]at hv
  have:bs[i]?.map Value.bool=some v:=by simpa using hv
  obtain⟨b,hb,rfl⟩:=iV.mp this;refine my ?_;have e:bs.getD i false=b:=by rw[eO,hb];rfl
  exact e ▸ qw
 ·have fin:(List.range its.toArray.size).any (fun i=>bs.getD i false)=bs.any id:=by
   have hs:its.toArray.size=bs.length:=by rw[vals];simp
   rw[hs]
   apply vJ.mpr
   simp only[tw,nU]
   constructor
   ·rintro⟨i,hi,e⟩
    exact⟨bs[i],iX hi,by simpa [List.getD,hi] using e⟩
   ·rintro⟨b,hb,e⟩
    obtain⟨i,hi,rfl⟩:=BU hb;exact⟨i,hi,by simpa [List.getD,hi] using e⟩
  rw[fin];exact⟨.bl _,H,I.kept (t':=tk) fun b o e=>kp b o (by simpa using new b o e) (bU _ e),rfl,q⟩
def FV (x:Str):It:=⟨fun i _=>i < x.cps.size,fun i H v H'=>H'=H /\ ∃c,x.cps[i]? = some c/\v = .str ⟨#[c]⟩,fun i _=>x.cps.size<=i⟩
theorem K6 (it:Addr) (x:Str) (t:Tok) (T:String) (hT : ["enumerate","zip","dict_itemiterator","dict_reverseitemiterator","odict_iterator","itertools.zip_longest","itertools.pairwise"].contains T=false)
  (W:∀A':Around,A'.handled=none->Walks P w A' it [it] [it] x.cps.size (SignAt x) (fun i h=>h.IsStrIter it T x t i))
  (hs:∀ (A:Around) (i:Nat) (s:Shared) (Q:Value->Shared->Prop) (E:Value->Shared->Prop),s.heap.IsStrIter it T x t i->Q (.ref it) s->wpAny (model P w) A (pyIter (.ref it)) Q E s):Turn P w K tg (FV x) [it] it (fun i h=>i<=x.cps.size/\h.IsStrIter it T x t i) where
 mem:=by simp
 obj:=fun i h st b hb=>by
  obtain rfl:b=it:=by simpa using hb
  obtain⟨_,o,e,c,d⟩:=st;exact⟨o,e,fun v z=>by rw[d]at z;cases z⟩
 keep:=fun i h h' st k=>by
  obtain⟨l,o,e,r⟩:=st;exact⟨l,o,k it (by simp) _ e,r⟩
 item:=by
  intro X hP hw hK hc i pins s σ H E I hf st hg;subst hP hw hK;obtain⟨f0,f1,f2,f3,f4,f5⟩:=hf it (by simp)
  refine(W X.A (I.ok.hd hc)).item i s _ _ hg st.2 fun v h' tk hv iO kk=>?_;obtain⟨c,u,FQ,rfl⟩:=hv;have I1:Inv X pins σ H { s with heap:=h',toks:=tk }:=I.turned (fun b o hb e=>kk b o (by simpa using hb) e) f0 f1 f3 f4 f5
  obtain⟨o,e,cl,d⟩:=id iO;exact⟨_,rfl,xf (s:={ s with heap:=h',toks:=tk }) e cl d hT ⟨.str ⟨#[c]⟩,H,I1,⟨u,rfl⟩,⟨rfl,c,FQ,rfl⟩,⟨hg,iO⟩,fun b hb=>(hf b hb).1⟩⟩
 done:=by
  intro X hP hw hK hc i pins s σ H E I hf st hg;subst hP hw hK;obtain⟨f0,f1,f2,f3,f4,f5⟩:=hf it (by simp)
  have ei:i=x.cps.size:=Nat.le_antisymm st.1 hg;subst ei;exact(W X.A (I.ok.hd hc)).done s _ _ st.2 fun h' tk kk=>⟨rfl,I.turned (fun b o hb e=>kk b o (by simpa using hb) e) f0 f1 f3 f4 f5⟩
 self:=fun A i s Q E st h=>hs A i s Q E st.2 h
def ZQ (te:TE):TI:=fun σ H R=>te σ H fun v H1=>∃x,v = .str x/\R (FV x) H1
theorem Ms (he:PE X e te):PI X tg e (ZQ te):=by
 intro pins s σ H R I h;refine aC (he pins s σ H _ I h) fun v s1 ⟨y,H1,I1,r1,x,ey,q⟩=>?_;subst ey;obtain⟨t,rfl⟩:=r1;have I2:∀o:Obj,Inv X pins σ H1 { s1 with heap:=s1.heap.push o }:=fun o=>I1.kept (t':=s1.toks) fun b ob z=>bU _ z;have fp:∀b ∈ [s1.heap.objs.size],gb X pins H1 b:=fun b hb=>by
  obtain rfl:b=s1.heap.objs.size:=by simpa using hb
  exact I1.lq (aK _) (I1.ay.fresh (aK _))
 cases ha:x.cps.all (· < 128)
 ·refine wpAny_pyIter_wide ha ?_
  exact⟨s1.heap.objs.size,[s1.heap.objs.size],_,_,H1,rfl,I2 _,K6 s1.heap.objs.size x t "str_iterator" (by decide) (fun A' hA=>Walks.strWide hA _ x t) (fun _ _ _ _ _ st h=>wpAny_pyIter_striter_wide st h),⟨bX _,_,eM _ rfl,rfl,rfl⟩,fp,q⟩
 ·refine wpAny_pyIter_ascii ha ?_
  exact⟨s1.heap.objs.size,[s1.heap.objs.size],_,_,H1,rfl,I2 _,K6 s1.heap.objs.size x t "str_ascii_iterator" (by decide) (fun A' hA=>Walks.strAscii hA _ x t) (fun _ _ _ _ _ st h=>wpAny_pyIter_striter_ascii st h),⟨bX _,_,eM _ rfl,rfl,rfl⟩,fp,q⟩
theorem K7 {g:TG} (Pv:Nat->List V->St->Hp->Prop) (h0:Pv 0 [] jP (upd H1 p (.lst []))) (hl:∀i ys τ H,Pv i ys τ H->H p=some (.lst ys))
  (hs:∀i c ys τ H,x.cps[i]? = some c->Pv i ys τ H->g (.str ⟨#[c]⟩) τ H fun cT H4=>ti cT H4 fun b H5=>if b=true then te cT H5 fun y H6=>H6 p=some (.lst ys)/\ys.length < sizeLine /\ ∃m',m' < x.cps.size - i/\CW Pv x.cps.size (i+1) m' (ys ++ [y]) cT (upd H6 p (.lst (ys ++ [y]))) else ∃m',m' < x.cps.size - i/\CW Pv x.cps.size (i+1) m' ys cT H5)
  (hd:∀ys τ H,Pv x.cps.size ys τ H->Q (.ref p) H):kc (FV x) g ti te jP Q p H1:=by
 refine⟨CW Pv x.cps.size,⟨x.cps.size,by simp,bX _,h0⟩,?_⟩
 rintro i m ys τ H ⟨rfl,hi,pv⟩;refine⟨hl i ys τ H pv,?_⟩
 by_cases aT:i < x.cps.size
 ·refine .inr ⟨aT,fun v H3 y3=>?_⟩
  obtain⟨e3,c,hc,rfl⟩:=y3;subst e3;exact hs i c ys τ _ hc pv
 ·have e:i=x.cps.size:=by omega
  subst e;exact .inl ⟨aK _,hd ys τ H pv⟩
end L2
namespace HT
open PySem PyProof.Rows PySem.W L2
theorem R0 (a:Addr) (vs:Array Value) (n:Nat) (u:Tok) (sl:Array (Option Value)) :
  Meets (Builtin.«object.__getattribute__» ⟨[.ref a,.str "keys" u],[]⟩) (fun A R s=>s.heap.get? a=some { cls:= .type "tuple",dict:=none,data:= .seq vs n,slots:=sl }/\raisesAttr (.ref a) "keys" A R s):=
 meets_getattribute_miss_tuple a vs n sl "keys" u (by rw[typeLookup_type,builtinLookup_eq_fast];kernel_rfl) (by decide +kernel) (by rw[aI];decide +kernel)
theorem U3 {E:Value->Shared->Prop}{vs:Array Value}{sl:Array (Option Value)}{Q:Option Value->Shared->Prop} (hx:s.heap.get? a=some { cls:= .type "tuple",dict:=none,data:= .seq vs n,slots:=sl }) (hA:A.handled=none)
  (h:∀h' tk,(∀b o,s.heap.get? b=some o->h'.get? b=some o)->Q none { s with heap:=h',toks:=tk }):wpAny (model prog w) A (getAttr? (.ref a) "keys") Q E s:=by
 obtain⟨hp,g,d,tk,os⟩:=s;have hT:∀oW,(⟨hp,g,d,oW,os⟩:Shared).TypeIs (.ref a) "tuple" :=fun _=>⟨_,hx,rfl⟩;have f1:=sub_AttributeError;have f3:=RB.lookup;have f4:=RB.bind (.ref a);have f5:=am_tuple_getattr_none;unfold getAttr? getAttrBy? getAttrBy
 repeat (any_goals (first|assumption|exact hT _|((with_reducible show wpAny _ _ (call (Value.builtin "tuple.__getattribute__") _ _) _ _ _);refine IG RB (hT _) am_entry_tuple_getattribute (F.args_tuple_getattribute_2 _ _) (R0 a vs n _ sl) ⟨hx,hA,fun h' oW e ff=>?_⟩)|wp_step))
 obtain⟨t',u',he⟩:=ff.there;show wpAny _ _ (getattributeRaised _ _ _ _ _ _ _) _ _ _;unfold getattributeRaised
 repeat (any_goals (first|assumption|wp_step))
 exact h h' oW ff.keeps
section
variable{vs:Array Value}
theorem U5 {E:Value->Shared->Prop}{Q:Unit->Shared->Prop}{T:Addr}{x y:Value}{k:Key}{kvs:List (Key×Value)}{i:Int} (hT:IsTup s.heap T #[x,y]) (hk:(c9 prog w).is k x=true) (hd:s.heap.DictOf (c9 prog w) d kvs) (new:k ∉ kvs.map (·.1)) (hz:kvs.length<=sizeLine)
  (q:∀h' tk,h'.DictOf (c9 prog w) d (kvs ++ [(k,y)])->Heap.SameBut d s.heap h'->Q () { s with heap:=h',toks:=tk }) :
  wpAny (model prog w) A (holding [Value.ref T] (do
   let pair <- (Builtin.Dict.pairItems (.ref T)).tryCatch fun e=>do
    if !(<- isInstance e (.type "TypeError")) then throw e
    rule "dict.update.element-no-sequence"
    raiseError "TypeError" s!"cannot convert dictionary update sequence element #{i} to a sequence"
   match pair with
   |[k,v]=>holding [k,v] (dictSet d k v)
   |l =>
    rule "dict.update.element-length"
    raiseError "ValueError" s!"dictionary update sequence element #{i} has length {l.length}; 2 is required")) Q E s:=by
 refine eu (ag (wpAny_tryCatch ?_));unfold Builtin.Dict.pairItems;refine ag (qJ hT.typeIs ?_);rw[au (by decide)]
 obtain⟨o,ho,_,n,vg⟩:=hT;refine ag (IZ ho vg (aA ?_));show wpAny _ _ (holding [x,y] (dictSet d x y)) _ _ _;refine eu (wpAny_dictSet_pairs (hsz:=hz) hk hd fun h' dd sb=>?_);rw[stored_new new]at dd;exact q h' _ dd sb
theorem Wa (hh:A.in1.handled=none) (FX:d≠it) (vh:d≠t) (OS:t≠it) (ps:List (Key×Value)) (nd:(ps.map (·.1)).Nodup) (hz:ps.length<=sizeLine) (hsz:vs.size=ps.length) (hv:IsTup g t vs)
  (FY:∀ (i:Nat) p,ps[i]? = some p -> ∃a x,vs[i]? = some (.ref a)/\a≠it/\a≠d/\IsTup g a #[x,p.2]/\(c9 prog w).is p.1 x=true) :
  ∀ (m k:Nat) (s:Shared),ps.length - k=m->k<=ps.length->IsTupIter s.heap it t k->s.heap.DictOf (c9 prog w) d (ps.take k) ->
   (∀b o,b≠it->b≠d->g.get? b=some o->s.heap.get? b=some o) ->
   (∀h' tk,h'.DictOf (c9 prog w) d ps->(∀b o,b≠it->b≠d->g.get? b=some o->h'.get? b=some o)->R (.ok (.ret .none)) { s with heap:=h',toks:=tk }) ->
   codeAny (model prog w) A (.builtin "dict.update.loop" ⟨[.ref d,.ref it,rawInt k,.none],[]⟩) R s:=by
 have up:∀ {b:Addr}{us:Array Value}{h:Heap},b≠it->b≠d->(∀b o,b≠it->b≠d->g.get? b=some o->h.get? b=some o)->IsTup g b us->IsTup h b us:=fun n1 n2 kp ⟨o,ho,r⟩=>⟨o,kp _ _ n1 n2 ho,r⟩;intro m
 induction m with
 |zero =>
  intro k s hm hk t1 dd kp hR;have ek:k=ps.length:=by omega
  refine lJ Kj (?_:wpAny _ _ _ _ _ _);rw[qL zm _];show wpAny _ A.in1 (pyNext (.ref it) >>= _) _ _ s;refine ag (next_tuple_end hh t1 (up OS vh.symm kp hv) (by simp;omega) fun h' k'=>?_)
  refine ag (m:=Builtin.Dict.addKeywords d []) (aA (aA ?_));have oX:h'.DictOf (c9 prog w) d (ps.take k):=dd.at fun o e=>k' d o FX e;rw[ek,eF]at oX;exact hR h' s.toks oX fun b o a1 a2 e=>k' b o a1 (kp b o a1 a2 e)
 |succ m ih =>
  intro k s hm hk t1 dd kp hR;have aT:k < ps.length:=by omega
  have hp:ps[k]? = some ps[k]:=b4 aT;obtain⟨a,x,hva,AW,na2,Yj,nj⟩:=FY k _ hp;have tk1:ps.take (k+1)=ps.take k ++ [ps[k]]:=by rw[dZ,hp];rfl
  have new:ps[k].1 ∉ (ps.take k).map (·.1):=fun w=>by
   have e:ps.map (·.1)=(ps.take k).map (·.1)++(ps.drop k).map (·.1):=by rw[<-bj,ahN]
   rw[e,mI]at nd;refine nd.2.2 _ w _ ?_ rfl;rw[BS aT];exact aV
  refine lJ Kj (?_:wpAny _ _ _ _ _ _);rw[qL zm _];show wpAny _ A.in1 (pyNext (.ref it) >>= _) _ _ s;refine ag (next_tuple_item t1 (up OS vh.symm kp hv) hva fun h' t1' sb=>?_);have u9:∀b o,b≠it->b≠d->g.get? b=some o->h'.get? b=some o:=fun b o a1 a2 e=>sb.extBut b o a1 (kp b o a1 a2 e);have oX:h'.DictOf (c9 prog w) d (ps.take k):=dd.at fun o e=>sb.extBut d o FX e;refine ag (U5 (s:={ s with heap:=h' }) (k:=ps[k].1) (up AW na2 u9 Yj) nj oX new (by rw[dh];omega) fun iP tk ZR OT=>?_)
  rw[show((k:Int)+1)=((k+1:Nat):Int) from rfl];exact aA ⟨vM zm _,ih (k+1) _ (by omega) aT (t1'.extBut OT.extBut FX.symm) (by rw[tk1];exact ZR) (fun b o a1 a2 e=>OT.extBut b o a2 (u9 b o a1 a2 e)) hR⟩
theorem R3 {E:Value->Shared->Prop}{Q:Value->Shared->Prop} (hh:A.handled=none) (ps:List (Key×Value)) (nd:(ps.map (·.1)).Nodup) (hz:ps.length<=sizeLine) (hsz:vs.size=ps.length) {sl:Array (Option Value)}
  (hv:s.heap.get? t=some { cls:= .type "tuple",dict:=none,data:= .seq vs n,slots:=sl })
  (FY:∀ (i:Nat) p,ps[i]? = some p -> ∃a x,vs[i]? = some (.ref a)/\IsTup s.heap a #[x,p.2]/\(c9 prog w).is p.1 x=true)
  (q:∀d h' tk,s.heap.objs.size<=d->h'.DictOf (c9 prog w) d ps->(∀b o,s.heap.get? b=some o->h'.get? b=some o)->Q (.ref d) { s with heap:=h',toks:=tk }) :
  wpAny (model prog w) A (call (.type "dict") [.ref t]) Q E s:=by
 refine callType_codes (Q₁:=fun obj a4=>obj = .ref s.heap.objs.size/\a4={ s with heap:=s.heap.push { cls:= .type "dict",data:= .dict #[] } }) F.kt_called_dict (F.kt_typeCall_dict_1 _) F.entry_dict_init (kt_code_dict_new _ ⟨rfl,rfl⟩) ?_;rintro obj a4 ⟨rfl,rfl⟩;have dn:(s.heap.push { cls:= .type "dict",data:= .dict #[] }).DictOf (c9 prog w) s.heap.objs.size []:=Heap.DictOf.new s.heap;have k2:∀b o,s.heap.get? b=some o->(s.heap.push { cls:= .type "dict",data:= .dict #[] }).get? b=some o:=fun b o e=>bU _ e;generalize s.heap.push { cls:= .type "dict",data:= .dict #[] }=h2 at dn k2 ⊢;refine⟨dn.typeIs,F.args_dict_init_2 _ _,?_⟩;unfold Builtin.«dict.__init__»;refine ag ?_;unfold Builtin.Dict.selfAndRest;refine ag (wpAny_notOrdered_dict dn.typeIs ?_);refine(aA ?_:wpAny _ _ (pure (s.heap.objs.size,[Value.ref t])) _ _ _);show wpAny _ _ (Builtin.Dict.updateFrom "dict.__init__" s.heap.objs.size (.ref t) [] .none) _ _ _;unfold Builtin.Dict.updateFrom;have v2:=k2 _ _ hv;refine ag (qJ (T:= "tuple") ⟨_,v2,rfl⟩ ?_);rw[au (by decide)]
 refine ag (U3 v2 hh fun h3 tk3 k3=>?_);rw[au (by decide)]
 have it3:IsTup h3 t vs:=⟨_,k3 _ _ v2,rfl,n,rfl⟩;refine ag (nW (ag (iter_tuple it3 ?_)));refine aA ⟨vM zm _,?_⟩;have up:∀b o,s.heap.get? b=some o->h3.get? b=some o:=fun b o e=>k3 b o (k2 b o e);have AX:s.heap.objs.size < h3.objs.size:=by
  obtain⟨o,_,_,ho,_⟩:=dn;exact aW (k3 _ _ ho)
 have dd3:h3.DictOf (c9 prog w) s.heap.objs.size []:=dn.at fun o e=>k3 _ o e;have lt:∀ {b:Addr}{o:Obj},s.heap.get? b=some o->b < s.heap.objs.size:=fun e=>aW e;refine Wa (A:=A.in1) (g:=s.heap) (it:=h3.objs.size) hh (bT AX) (BH (lt hv)) (bT (vL (lt hv) AX)) ps nd hz hsz ⟨_,hv,rfl,n,rfl⟩ (fun i p hp=>?_) _ 0 _ rfl (bX _) ⟨_,eM _ rfl,rfl,rfl⟩ (dd3.at fun o e=>bU _ e) (fun b o _ _ e=>bU _ (up b o e)) fun h' tk dd kp=>?_
 ·obtain⟨a,x,h1,OU,h3'⟩:=FY i p hp
  obtain⟨o,ho,_⟩:=id OU;exact⟨a,x,h1,bT (vL (lt ho) AX),bT (lt ho),OU,h3'⟩
 ·exact⟨rfl,q _ h' tk (aK _) dd fun b o e=>kp b o (bT (vL (lt e) AX)) (bT (lt e)) e⟩
end
end HT
namespace L2
open PySem PySem.Spec PyProof.Rows PySem.W HT
theorem Km:cN X (compareOp .LtE) (fun x y H Q=>∃i j,x = .str i/\y = .str j/\Q (.bl (!decide (j.cps.toList < i.cps.toList))) H):=by
 intro pins s σ H x y v u Q I rx ry ⟨i,j,ex,ey,q⟩;subst ex ey;obtain⟨t,rfl⟩:=rx;obtain⟨t',rfl⟩:=ry;exact P.le_str (cP I q rfl)
def lT (H:Hp) (vs:List V) (kvs:List (Str×V)):Prop:=Paired (fun y p=>∃a,y=V.ref a/\H a=some (.tup [.str p.1,p.2])) vs kvs
theorem lT.same {kvs:List (Str×V)} (h:lT H vs kvs) (s:ak H H'):lT H' vs kvs:=Paired.imp' (fun _ _ ⟨a,e,q⟩=>⟨a,e,s _ _ q⟩) h
def i9 (kvs:List (Str×V)):List (Key×V):=kvs.map fun p=>(Sum.inr p.1,p.2)
theorem LO:∀ (kvs:List (Str×V)) (ys:List Value),ys.length=kvs.length->(∀ (i:Nat) (hi:i < kvs.length),∃y,ys[i]? = some y/\RelV kvs[i].2 y)->KV (i9 kvs) ((kvs.map fun p=>(Sum.inr p.1:Key)).zip ys)
 |[],ys,h,_=>.nil
 |p::kvs,[],h,_=>by simp at h
 |p::kvs,y::ys,h,f=>by
  obtain⟨y',e,r⟩:=f 0 (by simp)
  obtain rfl:y=y':=by simpa using e
  exact .cons ⟨rfl,r⟩ (LO kvs ys (by simpa using h) fun i hi=>by
   obtain⟨y2,e2,r2⟩:=f (i+1) (Nat.succ_lt_succ hi);exact⟨y2,by simpa using e2,r2⟩)
end L2
namespace L2
open PySem PySem.Spec PyProof.Rows PySem.W
structure iw (k:Nat) (A:Around):Prop where
 dp:A.depth+3 * k+5 < recursionLimit
 un:A.units+16 * k+200 < cLine
 gd:A.guards=some []
theorem aS.marked {k:Nat} (r:aS k A) (v:Option Value):iw k (A.mark v):=⟨r.dp,r.un,r.gd⟩
theorem iw.deeper {k:Nat} (r:iw (k+1) A) (env:Env):iw k (A.deeper env):=
 ⟨by have:=r.dp;show A.depth+1+3 * k+5 < _;omega,by have:=r.un;show A.units+3+16 * k+200 < _;omega,by first|exact r.gd|simp[Around.deeper,r.gd]⟩
theorem iw.make {k:Nat} (r:iw (k+1) A) (C:Addr) (us:List Value) (kw:List (Str×Value)):iw k (A.under (.builtin "type.__call__" ⟨.ref C::us,kw⟩)):=
 ⟨by have:=r.dp;rw[JB];omega,by have:=r.un;rw[JC];omega,Jv r.gd⟩
theorem iw.depth {k:Nat} (r:iw k A):A.depth < recursionLimit:=by have:=r.dp;omega
theorem iw.units {k:Nat} (r:iw k A):A.units+64 < cLine:=by have:=r.un;omega
def uq (P:Program) (w:World) (K:Frag) (mg:Str->Option Value) (base:Heap) (N:List Str) (qual:Str) (scope:Scope) (f:Addr) (cd:Value) (A:Around) (outer:List Env) (s:Shared) (H:Hp) (E:XK):Cx:=
 { jJ aR P w K mg base N qual scope f cd A outer s H E with calm:=false }
structure xl (P:Program) (w:World) (K:Frag) (mg:Str->Option Value) (base:Heap) (k:Nat) (f:Addr) (fd:FuncData) (ps:List Str) (sp:Option Value->Sp):Prop where
 len:∀x vs H Q E,sp x vs H Q E->vs.length=ps.length
 run:∀ (A:Around) (outer:List Env) (s:Shared) (H:Hp) (args:Args) (us:List Value) (vs:List V) (Q:VK) (E:XK),iw k A->oK P w K mg base A outer s H->BindsTo s fd args (ps.zip us)->Vals vs us->sp A.handled vs H Q E ->
  codeAny (model P w) A (.call (.ref f) args) (CR aR outer P w H s Q E) s
abbrev xm (P:Program) (w:World) (K:Frag) (mg:Str->Option Value) (base:Heap) (k:Nat) (f:Addr) (fd:FuncData) (ps:List Str) (sp:Sp):Prop:=xl P w K mg base k f fd ps fun _=>sp
theorem Te
  (I:Inv (jJ aR P w K mg base N qual scope f cd { A with handled:=none } outer s H E) pins σ H1 s1):Inv (uq P w K mg base N qual scope f cd A outer s H E) pins σ H1 s1:=
 ⟨⟨I.ok.mod,I.ok.kind,I.ok.glob,I.ok.blt,I.ok.above,I.ok.inj,I.ok.has,I.ok.oQ,(fun z=>Bool.noConfusion (show false=true from z)),I.ok.frames,I.ok.l0,I.ok.nD,I.ok.bs,I.ok.ko,I.ok.oJ,I.ok.ng,I.ok.f',I.ok.lu⟩,I.os,I.bare,I.base,I.loc,I.cell,I.free,I.ir,I.pin,I.ay,I.len⟩
theorem aU.OV {st:Stmt}{k:Nat}{sp:Option Value->Sp} (F:aU K x qual st f fd) (S:b3 N ps (aM st)) (len:∀x vs H Q E,sp x vs H Q E->vs.length=ps.length)
  (oF:∀ (cdv:Value) (A:Around) (outer:List Env) (s:Shared) (H:Hp) (vs:List V) (Q:VK) (E:XK),iw k (A.deeper (envOfC qual (aM st) s.heap.objs.size f cdv))->sp A.handled vs H Q E ->
   ∃t,gC (uq P w K mg base N qual (aM st) f cdv A outer s H E) (cA st) t/\t { nx:=fun _ H'=>Q .ax H',rt:=Q } (start N vs) H):xl P w K mg base (k+1) f fd ps sp:=by
 obtain⟨oc,od,kV,doc,pm,an,cdv,ct,nC,rfl,lk,gg⟩:=F.ex;refine⟨len,fun A outer s H args us vs Q E hr e0 hb r kq=>?_⟩;have hl:=len _ _ _ _ _ kq;have KX:K.In s.heap:=e0.mod.jg.keeps fun b o e=>(e0.bs b o e).1;have lim:s.heap.NoLimit:=e0.mod.nolimit.keeps fun b o e=>(e0.bs b o e).1;have DU:∀y∈ps.zip us,(aM st).names.lookup y.1=some .local\/((aM st).names.lookup y.1=some .cell/\((cellsFrom (s.heap.objs.size+1) (aM st).names []).lookup y.1).isSome=true):=fun⟨n,v⟩ hy=>by
  rcases S.par n (Iz hy).1 with q|q
  ·exact .inl q
  ·exact .inr ⟨q,Q9 _ _ _ (.inl q)⟩
 refine codeAny_call_function hr.depth (KX _ _ lk) rfl S.co S.gen rfl (PySem.W.codeRec_of KX gg) (hb _ _ _ _ ?_);refine ahs S.kind DU fun env he s1 x=>?_;subst he;refine⟨lim.keeps x.toInCall.keep,codeAny_func ?_⟩;obtain⟨t,ht,hq⟩:=oF cdv A outer s H vs Q E (hr.deeper _) kq;have e0':oK P w K mg base { A with handled:=none } outer s H:=⟨e0.frames,e0.mod,e0.bs,e0.ko,e0.f',e0.lu,e0.ay,e0.bare⟩;have I:Inv (uq P w K mg base N qual (aM st) f cdv A outer s H E) [] (start N vs) H s1:=Te (Ka S rfl e0' hl r x);refine nV (ht [] s1 (start N vs) H _ I hq) (fun fl s' hs=>?_) fun e s' hs=>hs;have fin:∀ {aJ:St}{H':Hp}{v:V}{u:Value},Inv (uq P w K mg base N qual (aM st) f cdv A outer s H E) [] aJ H' s'->RelV v u->Q v H'->CE outer P w H s Q u s':=
  fun {aJ H' v u} J rv q=>⟨v,H',J.os,J.bare,J.base,J.ay,rv,q⟩
 cases fl with
 |ret u =>
  obtain⟨v,aJ,H',J,rv,q⟩:=hs;exact fin J rv q
 |next =>
  obtain⟨aJ,H',J,q⟩:=hs;exact fin (v:=V.ax) (u:=Value.none) J rfl q
 |brk =>
  obtain⟨_,_,_,q⟩:=hs;exact False.elim q
 |cont =>
  obtain⟨_,_,_,q⟩:=hs;exact False.elim q
theorem aU.okH {st:Stmt}{k:Nat} (F:aU K x qual st f fd) (S:b3 N ps (aM st)) (len:∀vs H Q E,sp vs H Q E->vs.length=ps.length)
  (oF:∀ (cdv:Value) (A:Around) (outer:List Env) (s:Shared) (H:Hp) (vs:List V) (Q:VK) (E:XK),iw k (A.deeper (envOfC qual (aM st) s.heap.objs.size f cdv))->sp vs H Q E ->
   ∃t,gC (uq P w K mg base N qual (aM st) f cdv A outer s H E) (cA st) t/\t { nx:=fun _ H'=>Q .ax H',rt:=Q } (start N vs) H):xm P w K mg base (k+1) f fd ps sp:=F.OV S (fun _=>len) oF
section
variable{k:Nat}{p:Pos}{t:TA}
theorem U6 (q:dj X.K C (some (.ref fI))=true) (fn:isFn X.K (.ref fI)=true) (F:xm X.prog X.w X.K X.mg X.base k fI fd ps sp) (hr:iw (k+1) X.A) (hb:Binds X.K fd ps []) (hx:Passes aR X E) (I:Inv X pins σ H s) (r:Vals vs us) (a6:us.length<=100)
  (h:∀e,H e=none->sp (.ref e::vs) (upd H e (bE C none e)) (fun v H2=>v = .ax/\Q (.ref e) H2) E):wpAny (model X.prog X.w) X.A (call (.ref C) us) (EP X pins σ Q) X.xe s:=by
 obtain⟨⟨up,N,nm,qn,bs,hd,sn,sb,ab,col,od,a0,a1,a2,a3,a5,mN,at_,ns,ni,T⟩⟩:=qU I.bc q;obtain⟨oI,lk,oc⟩:=iV.mp (show(X.K.lookup fI).map (·.cls)=some (.type "function") from eN.mp fn);have h1:=h (s.heap.objs.size+1) (I.ay.fresh (pG _));have bc:=I.bc;have I2:Inv X pins σ (upd H (s.heap.objs.size+1) (bE C none (s.heap.objs.size+1))) { s with heap:=lh s.heap C us }:=I.put (fun _ _ z=>tL z) (vH (pG _)) (wu Cz);have e0:=I2.xw.make C us [];have u7:=hr.make C us [];have r2:Vals (V.ref (s.heap.objs.size+1)::vs) (Value.ref (s.heap.objs.size+1)::us):= .cons rfl r;have hl:(Value.ref (s.heap.objs.size+1)::us).length=ps.length:=by rw[<-r2.length];exact F.len none _ _ _ _ h1
 have qv:=hb { s with heap:=lh s.heap C us } (Value.ref (s.heap.objs.size+1)::us) I2.bc (by rw[fh];exact hl)
 rw[fh]at qv;have run:=F.run _ X.stack _ _ ⟨Value.ref (s.heap.objs.size+1)::us,[]⟩ (Value.ref (s.heap.objs.size+1)::us) _ _ E u7 e0 qv r2 h1;obtain⟨hp,g,d,tk,os⟩:=s;refine Jn IP T at_ ns ni (bc _ _ lk) oc (by rw[aI];omega) (pE (qH run fun r s' hq=>?_))
 cases r with
 |error e=>exact hx pins σ _ _ e s' I2 hq
 |ok fl =>
  cases fl with
  |ret u =>
   obtain⟨v,H',I3,rv,ev,q3⟩:=I2.after hq;subst ev;exact⟨rv,.ref (hp.objs.size+1),H',I3,rfl,q3⟩
  |next=>exact False.elim hq
  |brk=>exact False.elim hq
  |cont=>exact False.elim hq
theorem Wb (q:dj X.K C (some (.ref fI))=true) (fn:isFn X.K (.ref fI)=true) (kp:keepIn X.K (.ref C)=true) (F:xm X.prog X.w X.K X.mg X.base k fI fd ps sp) (hr:iw (k+1) X.A) (hb:Binds X.K fd ps []) (hx:Passes aR X E)
  (hg:Gl X x) (hm:X.mg x=some (.ref C)) (ha:PA X (e::es) t) (iD:(x==("__debug__" : Str))=false:=by decide)
  (he:starEach (e::es) X.env=(false,eval e X.env)::starEach es X.env:=by rfl) (cR:(backTo pos (starEach es X.env)).any (·.1)=false:=by rfl):PE X (.Call (.Name x p) (e::es) [] pos) (MP C sp E t):=by
 intro pins s σ H Q I h;refine qI (mV I hg hm ?_ iD);refine BO (h₀:=X.base) I.ok.mod.jg kp (aC (ha pos pins s σ H _ I h) fun us s1 ⟨vs,H1,I1,r,a6,q1⟩=>⟨I1.bc,?_⟩) he cR;exact U6 q fn F hr hb hx I1 r (by show us.length<=100;rw[<-r.length];exact a6) q1
end
end L2
namespace L2
open PySem PySem.W PySem.Calls PyProof.Rows
section
variable{α β:Type}
def Pm (n:Nat) (p:Array Nat):Prop:=p.toList.Perm (List.range n)
theorem Pm.lt {p:Array Nat} (h:Pm n p) (hn:0 < n) (i:Nat):p.getD i 0 < n:=by
 rw[nY];cases e:p[i]? with
 |none=>exact hn
 |some x =>
  have:x∈p.toList:=Array.mem_def.mp (Array.mem_of_getElem? e);exact nU.mp (h.mem_iff.mp this)
theorem Pm.rev {p:Array Nat} (h:Pm n p) (i j:Nat):Pm n (kas_rev p i j):=(ahO.mp (mirror_perm p i j _)).trans h
theorem Pm.OW {p:Array Nat} (h:Pm n p) (i j:Nat):Pm n (bubble p i j):=(ahO.mp (bubble_perm p i j)).trans h
theorem zO {γ:Type}{p:Array Nat}{vs:List γ} (d:γ) (h:Pm vs.length p):(p.toList.map fun i=>vs.getD i d).Perm vs:=by
 have h1:=List.Perm.map (fun i=>vs.getD i d) h;refine h1.trans (List.Perm.of_eq ?_)
 apply RC
 ·simp
 ·intro i h1 h2
  simp[List.getD,h2]
end
theorem Jy {α β:Type}{F:α->β->Prop}{l l':List α} (h:l'.Perm l):∀ {m:List β},Paired F l m -> ∃m',m'.Perm m/\Paired F l' m':=by
 induction h with
 |nil=>intro m p;exact⟨m,.refl _,p⟩
 |cons x _ ih =>
  intro m p;cases p with
  |cons q t =>
   obtain⟨m',e,r⟩:=ih t;exact⟨_::m',e.cons _,.cons q r⟩
 |swap x y l =>
  intro m p;cases p with
  |cons q t =>
   cases t with
   |cons q2 t=>exact⟨_,List.Perm.swap _ _ _,.cons q2 (.cons q t)⟩
 |trans _ _ ih1 ih2 =>
  intro m p;obtain⟨m2,e2,p2⟩:=ih2 p;obtain⟨m1,e1,p1⟩:=ih1 p2;exact⟨m1,e1.trans e2,p1⟩
theorem Tf {E:Value->Shared->Prop}{Q:Bool->Shared->Prop} (h:Q true s):wpAny (model prog w) A (eqBool (.ref a) (.ref a)) Q E s:=by
 unfold eqBool;refine eu ?_;have:((Value.ref a)==(Value.ref a))=true:=by simp
 rw[au this];exact ag (nW (aA h))
theorem Xg (x:br P w H h a o):∃q,h.get? a=some q:=by
 cases o with
 |lst xs=>obtain⟨_,_,_,_,e⟩:=x;exact⟨_,e⟩
 |tup xs=>obtain⟨_,_,_,q,e,_⟩:=x;exact⟨q,e⟩
 |dK kvs=>obtain⟨_,_,_,_,o,_,_,e,_⟩:=x;exact⟨o,e⟩
 |dT kvs=>obtain⟨_,_,_,_,o,_,_,e,_⟩:=x;exact⟨o,e⟩
 |set S n=>obtain⟨o,_,_,_,e,_⟩:=x;exact⟨o,e⟩
 |ins C dx fs=>obtain⟨_,_,_,e,_⟩:=x;exact⟨_,e⟩
 |own y=>exact x
 |xd fs=>obtain⟨_,⟨o,_,_,e,_⟩,_⟩:=x;exact⟨o,e⟩
 |xK lo hi=>obtain⟨_,_,_,e⟩:=x;exact⟨_,e⟩
 |cQ q u=>exact⟨q,x.1⟩
 |oP ps=>exact⟨_,x⟩
 |met f y=>exact⟨_,x⟩
 |ext φ=>exact x.2.1
theorem Inv.sorted {σ:List (Option V)}{m:Str->Option Value}{D:Addr}{out:List Value}{c:Nat} (I:Inv X pins σ H s) (hm:s.heap.Ns X.env.locals m) (jk:h'.Ns X.env.locals m)
  (k:∀b o,b≠X.env.locals->s.heap.get? b=some o->h'.get? b=some o) (hD:∀b o,s.heap.get? b=some o->b≠D) (new:h'.get? D=some (listOf out.toArray c)) (r:Vals ys out) (hz:ys.length<=sizeLine) :
  H D=none/\Inv X pins σ (upd H D (.lst ys)) { s with heap:=h',toks:=t' }:=by
 have there:∀b u,H b=some u -> ∃o,s.heap.get? b=some o:=fun b u e=>Xg (I.ay b u e);have hn:H D=none:=by
  cases q:H D with
  |none=>rfl
  |some u =>
   obtain⟨o,e⟩:=there D u q;exact absurd rfl (hD D o e)
 have yf:∀b u,H b=some u->b≠D:=fun b u e z=>by rw[z,hn]at e;cases e
 have xN:∀b u,H b=some u->b≠X.env.locals:=fun b u e z=>by rw[z,I.free]at e;cases e
 refine⟨hn,I.step (g':=s.gens) (d':=s.drawn) (ch:= []) (fun _ z=>nomatch z) (fun b o hL _ _ e _=>k b o hL e) (fun b o hL _ _ e _=>⟨o.slots,k b o hL e⟩) (fun b o _ e n=>by rw[ai (hD b o e)];exact n) (fun b o _ e=>?_)
  (fun b xs e=>by rw[ai (yf b _ e)];exact e) (fun b o u e=>by rw[ai (yf b _ e)];exact e) (fun b ps e=>⟨#[],by rw[ai (yf b _ e),e];simp⟩) (fun m' q=>?_) (fun b u e=>?_) I.bare⟩
 ·by_cases hb:b=X.env.locals
  ·obtain⟨o',es,ep,ho,_⟩:=jk
   exact⟨o',by rw[hb];exact ho⟩
  ·exact⟨o,k b o hb e⟩
 ·obtain⟨o,es,ep,ho,hd,hs,hf⟩:=hm
  obtain⟨o2,FZ,ep2,ku,hd2,hs2,sL⟩:=q;rw[ho]at ku;cases ku;rw[hd]at hd2;cases hd2;have:m'=m:=funext fun x=>(sL x).symm.trans (hf x);rw[this];exact jk
 ·by_cases hb:b=D
  ·subst hb
   rw[af]at e;cases e;exact⟨hz,out,c,r,new⟩
  ·rw[ai hb]at e
   refine(I.ay b u e).fE (fun a v hc q=>k a v ?_ q) (fun a q=>by rw[ai (yf a _ q)];exact q) fun a xs q=>by rw[ai (yf a _ q)];exact q
   rcases hc with z|z
   ·rw[z];exact xN b u e
   ·exact xN a _ z
theorem Kn {B:Around}{E:Value->Shared->Prop}{R:PySem.Fin->Shared->Prop} (at_:s.heap.get? a=some (seqObj "list" us.toArray n)) (a6:us.length < 2)
  (k:∀c g,(∀b o,b≠a->s.heap.get? b=some o->g.get? b=some o)->g.get? a=some (listOf us.toArray c)->R (.done (.ret .none)) { s with heap:=g }):wpAny (model P w) B (Builtin.«list.sort» ⟨[.ref a],[]⟩) R E s:=by
 obtain⟨ep,gone⟩:∃ep,(s.heap.update a (Obj.mapSeq fun _=>(#[]:Array Value))).get? a=some (seqObj "list" #[] ep):=⟨_,get?_update_seq at_ fun _=>#[]⟩;have fits:us.toArray.size<=sizeLine:=by rw[aI,cD];omega
 have small:us.toArray.size < 2:=by simpa using a6
 rw[list_sort_plain];refine ag (listItems_at at_ rfl (ag (listUpdate_at at_ rfl (ag (seqEpoch_at gone rfl (ag (wpAny_newTuple (ag (I0 (eu ?_) (bX _))) (by simpa using fits))))) fits (bX _))))
 have two:∀b o,(s.heap.update a (Obj.mapSeq fun _=>(#[]:Array Value))).get? b=some o->(((s.heap.update a (Obj.mapSeq fun _=>(#[]:Array Value))).push (seqObj "tuple" us.toArray 0)).push (seqObj "list" #[] 0)).get? b=some o:=fun b o q=>bU _ (bU _ q)
 change wpAny (model P w) B _ R E { s with heap:=((s.heap.update a (Obj.mapSeq fun _=>(#[]:Array Value))).push (seqObj "tuple" us.toArray 0)).push (seqObj "list" #[] 0) }
 have zX:=two _ _ gone;have others:∀b o,b≠a->s.heap.get? b=some o->(((s.heap.update a (Obj.mapSeq fun _=>(#[]:Array Value))).push (seqObj "tuple" us.toArray 0)).push (seqObj "list" #[] 0)).get? b=some o:=fun b o nb q=>two b o (((Ja s.heap a _).2 b nb).trans q);generalize (((s.heap.update a (Obj.mapSeq fun _=>(#[]:Array Value))).push (seqObj "tuple" us.toArray 0)).push (seqObj "list" #[] 0))=g at zX others ⊢
 dsimp only
 rw[au small,au small];refine ag (aA (ag (aA ?_)));have same:(arrOf (SortSt.mk' general' (us.toArray.zip us.toArray) #[] 7 none)).map (·.2)=us.toArray:=IT.mp (by show((us.toArray.zip us.toArray).map (·.2)).toList=_;simp[List.map_snd_zip])
 dsimp only
 rw[same];refine ag (seqEpoch_at zX rfl (ag (listUpdate_at zX rfl ?_ (bX _) (Nat.le_succ_of_le fits))));obtain⟨c,back⟩:∃c,(g.update a (Obj.mapSeq fun _=>us.toArray)).get? a=some (seqObj "list" us.toArray c):=⟨_,get?_update_seq zX fun _=>us.toArray⟩;simp only[bne_self_eq_false,tm,BK];exact aA (k c _ (fun b o nb q=>((Ja g a _).2 b nb).trans (others b o nb q)) back)
theorem R' {B:Around}{E:Value->Shared->Prop}{R:Value->Shared->Prop} (at_:s.heap.IsList l us.toArray) (a6:us.length < 2)
  (k:∀D c g,(∀b o,s.heap.get? b=some o->g.get? b=some o)->(∀b o,s.heap.get? b=some o->b≠D)->g.get? D=some (listOf us.toArray c)->R (.ref D) { s with heap:=g }):wpAny (model P w) B (call (.builtin "sorted") [.ref l]) R E s:=by
 have fits:us.length<=sizeLine:=by rw[aI];omega
 refine ahQ kind_sorted plain_sorted entry_sorted (args_sorted1 _) (ag (m:=checkCount "sorted" 1 1 _) (aA (ag (collect_list at_ (ag (I0 ?_ fits)) (by simpa using fits)))))
 have size:((s.heap.push (seqObj "list" #[] 0)).update s.heap.objs.size (Obj.mapSeq fun x=>x++us.toArray)).objs.size=s.heap.objs.size+1:=(Heap.size_update ..).trans (size_push' ..);have fE:∀b o,s.heap.get? b=some o->b≠s.heap.objs.size+1/\((s.heap.push (seqObj "list" #[] 0)).update s.heap.objs.size (Obj.mapSeq fun x=>x++us.toArray)).get? b=some o:=fun b o q =>
  have lt:b < s.heap.objs.size:=aW q
  ⟨bT (RF lt),(Heap.get?_update_ne _ _ _ _ (bT lt)).trans ((Heap.get?_push_ne _ _ _ (bT lt)).trans q)⟩
 change wpAny (model P w) _ _ _ E { s with heap:=((s.heap.push (seqObj "list" #[] 0)).update s.heap.objs.size (Obj.mapSeq fun x=>x++us.toArray)).push (seqObj "list" us.toArray 0) }
 have here:(((s.heap.push (seqObj "list" #[] 0)).update s.heap.objs.size (Obj.mapSeq fun x=>x++us.toArray)).push (seqObj "list" us.toArray 0)).get? (s.heap.objs.size+1)=some (seqObj "list" us.toArray 0):=size ▸ eM _ rfl;rw[size];generalize (s.heap.push (seqObj "list" #[] 0)).update s.heap.objs.size (Obj.mapSeq fun x=>x++us.toArray)=g at here fE ⊢;refine ag (eu (vK slot_list_sort ⟨_,here,rfl⟩ entry_list_sort (Kn (s:={ s with heap:=g.push (seqObj "list" us.toArray 0) }) here a6 fun c g2 kp new=>?_) (args_list_sort _)));exact⟨_,rfl,aA ⟨_,rfl,k _ c g2 (fun b o q=>kp b o (fE b o q).1 (bU _ (fE b o q).2)) (fun b o q=>(fE b o q).1) new⟩⟩
theorem LP {h:Heap}:∀ {vs:List Value},(∀v∈vs,∃a k t z,v = .ref a/\IsTup h a #[.str k t,.ref z]) -> ∃fs,fs.length=vs.length/\KatTups h vs fs /\ ∀f∈fs,∃k t,f=Value.str k t
 |[],_=>⟨[],rfl,.nil,by simp⟩
 |v::vs,g=>by
  obtain⟨fs,h1,h2,h3⟩:=LP (vs:=vs) fun x hx=>g x (bV _ hx);obtain⟨a,k,t,z,rfl,o,ho,hc,n,hd⟩:=g v aV;refine⟨.str k t::fs,by rw[cO,cO,h1],.cons ho hc hd rfl h2,fun f hf=>?_⟩
  rcases aY.mp hf with rfl|hf
  ·exact⟨k,t,rfl⟩
  ·exact h3 f hf
theorem CB {γ:Type}{f:γ->V}{g:γ->Value} (h:∀x,RelV (f x) (g x)):∀l:List γ,Vals (l.map f) (l.map g)
 |[]=>.nil
 |x::l=>.cons (h x) (CB h l)
end L2
namespace L2
open PySem PySem.W PySem.Spec PyProof.Rows
def AY (d:Addr) (o:Obj) (kvs:List (Key×V)):It:=⟨fun i H=>H d=some (.cQ o (.dK kvs))/\i < kvs.length,fun i H v H'=>H'=H /\ ∃kv,kvs[i]? = some kv/\v=kV kv.1,fun i H=>H d=some (.cQ o (.dK kvs))/\kvs.length<=i⟩
theorem Ko (d it:Addr) (bS:d≠it) (o:Obj) (kvs:List (Key×V)) (vs:List (Key×Value)) (ep:Nat) (rk:KV kvs vs) (hD:∀h:Heap,h.get? d=some o->h.DictAt (c9 P w) d vs ep) :
  Turn P w K tg (AY d o kvs) [it] it (fun i h=>i<=kvs.length/\h.IsKeyIter it d i vs.length ep) where
 mem:=by simp
 obj:=fun i h st b hb=>by
  obtain rfl:b=it:=by simpa using hb
  obtain⟨_,o,e,c,d⟩:=st;exact⟨o,e,fun v z=>by rw[d]at z;cases z⟩
 keep:=fun i h h' st k=>by
  obtain⟨l,o,e,r⟩:=st;exact⟨l,o,k it (by simp) _ e,r⟩
 item:=by
  intro X hP hw hK hc i pins s σ H E I hf st hg;subst hP hw hK;obtain⟨f0,f1,f2,f3,f4,f5⟩:=hf it (by simp)
  have hl:kvs.length=vs.length:=rk.length;have hd:=hD s.heap (show br X.prog X.w H s.heap d (.cQ o (.dK kvs)) from I.ay d _ hg.1).1;refine(Walks.dictKeys (knd:=c9 X.prog X.w) (I.ok.hd hc) it d bS vs ep).item i s _ _ (by have:=hg.2;omega) ⟨st.2,hd⟩ fun v h' tk hv iO kk=>?_
  obtain⟨k,x,hx,hk⟩:=hv;have I1:Inv X pins σ H { s with heap:=h',toks:=tk }:=I.turned (fun b o hb e=>kk b o (by simpa using hb) e) f0 f1 f3 f4 f5
  obtain⟨ob,e,cl,dt⟩:=id iO.1;have gk:i < kvs.length:=hg.2;have OX:kvs[i]? = some kvs[i]:=b4 gk;have ek:kvs[i].1=k:=by
   have h1:=eY (fun l=>l[i]?) rk.keys;simp only[f6,OX,hx]at h1;exact fZ h1
  exact⟨_,rfl,xf (s:={ s with heap:=h',toks:=tk }) e cl dt (by decide) ⟨kV k,H,I1,LK hk,⟨rfl,kvs[i],OX,by rw[ek]⟩,⟨hg.2,iO.1⟩,fun b hb=>(hf b hb).1⟩⟩
 done:=by
  intro X hP hw hK hc i pins s σ H E I hf st hg;subst hP hw hK;obtain⟨f0,f1,f2,f3,f4,f5⟩:=hf it (by simp)
  have ei:i=kvs.length:=Nat.le_antisymm st.1 hg.2;have hl:kvs.length=vs.length:=rk.length;have hd:=hD s.heap (show br X.prog X.w H s.heap d (.cQ o (.dK kvs)) from I.ay d _ hg.1).1;have gW:=st.2;rw[ei,hl]at gW;exact(Walks.dictKeys (knd:=c9 X.prog X.w) (I.ok.hd hc) it d bS vs ep).done s _ _ ⟨gW,hd⟩ fun h' tk kk=>⟨rfl,I.turned (fun b o hb e=>kk b o (by simpa using hb) e) f0 f1 f3 f4 f5⟩
 self:=fun A i s Q E st h=>wpAny_pyIter_keyiter st.2 h
theorem Inv.freeze {σ:List (Option V)}{o:Obj} (I:Inv X pins σ H s) (hd:H d=some (.dK kvs)) (ho:s.heap.get? d=some o):Inv X pins σ (upd H d (.cQ o (.dK kvs))) s:=by
 have ok:br X.prog X.w H s.heap d (.dK kvs):=I.ay d _ hd;have nd:∀ {b:Addr}{u:HO},H b=some u->u ≠ .dK kvs->b≠d:=fun e n z=>by rw[z,hd]at e;exact n (fZ e).symm
 refine I.un (h':=s.heap) (t':=s.toks) ⟨fun b ob q _ _ _=>q,fun b ob q _ _ _=>⟨ob.slots,q⟩,fun b ob q n _=>?_,fun b ob q _=>⟨ob,q⟩,fun b xs e=>?_,fun b ob u e=>?_,fun b ps e=>⟨#[],?_⟩⟩ fun b u e=>?_
 ·rw[ai (fun z=>by rw[z,hd]at n;cases n)];exact n
 ·rw[ai (nd e (by intro z;cases z))];exact e
 ·rw[ai (nd e (by intro z;cases z))];exact e
 ·rw[ai (nd e (by intro z;cases z)),e];simp
 ·by_cases hb:b=d
  ·subst hb
   rw[af]at e;cases e
   exact⟨ho,ok.fE (fun _ _ _ q=>q) (fun c q=>by rw[ai (nd q (by intro z;cases z))];exact q) fun c xs q=>by rw[ai (nd q (by intro z;cases z))];exact q⟩
  ·rw[ai hb]at e
   exact(I.ay b u e).fE (fun _ _ _ q=>q) (fun c q=>by rw[ai (nd q (by intro z;cases z))];exact q) fun c xs q=>by rw[ai (nd q (by intro z;cases z))];exact q
def Yk (te:TE):TI:=fun σ H R=>te σ H fun v H1=>∃d kvs,v = .ref d/\((H1 d=some (.dK kvs) /\ ∀o,R (AY d o kvs) (upd H1 d (.cQ o (.dK kvs)))) \/ ∃o,H1 d=some (.cQ o (.dK kvs))/\R (AY d o kvs) H1)
theorem Dn (he:PE X e te):PI X tg e (Yk te):=by
 intro pins s σ H R I h;refine aC (he pins s σ H _ I h) fun v s1 ⟨y,H1,I1,r1,d,kvs,ey,q⟩=>?_;subst ey;cases r1
 have rd:Rd H1 d (.dK kvs):=by
  rcases q with⟨e,_⟩|⟨o,e,_⟩
  ·exact .inl e
  ·exact .inr ⟨o,e⟩
 obtain⟨hz,hs,vs,rk,hdo⟩:=uo I1.ay rd;obtain⟨o,es,ep,ho,hx,vg,hk,hp,hn⟩:=id hdo;refine wpAny_pyIter_dict (knd:=c9 X.prog X.w) (kvs:=vs) (ep:=ep) hs ⟨o,es,ho,hx,vg,hk,hp,hn⟩ ?_;have bS:d≠s1.heap.objs.size:=bT (aW ho);have hD:∀h:Heap,h.get? d=some o->h.DictAt (c9 X.prog X.w) d vs ep:=fun h e=>⟨o,es,e,hx,vg,hk,hp,hn⟩;have I2:Inv X pins σ H1 { s1 with heap:=s1.heap.push { cls:= .type "dict_keyiterator",data:= .fields #[.ref d,.int 0 0,.int vs.length 0,.int ep 0] } }:=I1.kept (t':=s1.toks) fun b ob z=>bU _ z;have st:0<=kvs.length/\Heap.IsKeyIter (s1.heap.push { cls:= .type "dict_keyiterator",data:= .fields #[.ref d,.int 0 0,.int vs.length 0,.int ep 0] }) s1.heap.objs.size d 0 vs.length ep:=⟨bX _,_,eM _ rfl,rfl,rfl⟩;have AJ:H1 s1.heap.objs.size=none:=I1.ay.fresh (aK _);rcases q with⟨e,q⟩|⟨o',e,q⟩
 ·refine⟨s1.heap.objs.size,[s1.heap.objs.size],_,_,_,rfl,I2.freeze e (bU _ ho),Ko d s1.heap.objs.size bS o kvs vs ep rk hD,st,fun b hb=>?_,q o⟩
  obtain rfl:b=s1.heap.objs.size:=by simpa using hb
  exact I1.lq (aK _) (by rw[ai (aH bS)];exact AJ)
 ·obtain rfl:o'=o:=by
   have:=(show br X.prog X.w H1 s1.heap d (.cQ o' (.dK kvs)) from I1.ay d _ e).1;rw[ho]at this;exact(fZ this).symm
  refine⟨s1.heap.objs.size,[s1.heap.objs.size],_,_,H1,rfl,I2,Ko d s1.heap.objs.size bS o' kvs vs ep rk hD,st,fun b hb=>?_,q⟩;obtain rfl:b=s1.heap.objs.size:=by simpa using hb
  exact I1.lq (aK _) AJ
def OY (a b:Str):Prop:=a.cps.toList<=b.cps.toList
theorem U7 {a b:Str} (h1:OY a b) (h2:OY b a):a=b:=by
 have e:a.cps.toList=b.cps.toList:=List.le_antisymm h1 h2;cases a;cases b
 exact eY Str.mk (IT.mp e)
theorem Kq:∀ {us:List Value}{ss:List Str},StrsAre us ss->Vals (ss.map V.str) us
 |_,_,.nil=>.nil
 |_,_,.cons _ t r=>.cons ⟨t,rfl⟩ (Kq r)
theorem Jq:eV X (.builtin "sorted") (fun xs H Q=>∃p ss,xs = [.ref p]/\aj X.K H p (ss.map V.str)/\ss.length<=63 /\ ∀D vi,H D=none->vi.Perm ss->sortedS vi=true->Q (.ref D) (upd H D (.lst (vi.map V.str)))):=by
 intro pins s σ H xs us Q I r ⟨p,ss,ex,hq,OZ,q⟩;subst ex;obtain⟨u,rfl,rx⟩:=vals1 r;cases rx
 obtain⟨its,rv,pl,hz⟩:=I.list hq;have hl:=rv.length;rw[aE]at hl;obtain⟨m,hm,_⟩:=id I.loc;obtain⟨g0,yg,lz⟩:∃g0:Heap,g0.objs.size=0 /\ ∀b,g0.get? b=none:=⟨{ s.heap with objs:= #[] },rfl,fun b=>vH (bX _)⟩;have F:Fr g0 X.env.locals s.heap m:=⟨hm,fun b o e=>(by rw[lz]at e;cases e),by rw[yg];exact bX _⟩
 refine sorted_N_str F (CM (g:=g0) (L:=X.env.locals)) pl.isList (zi rv) (by omega) fun h' vs' vi e F' N' hS' jU jQ=>?_
 obtain⟨hn,I'⟩:=Inv.sorted (t':=s.toks) (ys:=vi.map V.str) I hm F'.ns (fun b o n e=>(N' (b,o) (bV _ (tK n (lz b) e))).1) (fun b o e=>bT (RF (aW e))) (N' _ aV).1 (Kq hS') (by rw[aE,jU.length_eq,aI];omega)
 exact⟨.ref _,_,I',rfl,q _ vi hn jU jQ⟩
theorem CC {o:Obj}{g:TG} (Pv:Nat->List V->St->Hp->Prop) (h0:Pv 0 [] jP (upd H1 p (.lst []))) (hl:∀i ys τ H,Pv i ys τ H->H p=some (.lst ys)/\H d=some (.cQ o (.dK kvs)))
  (hs:∀i kv ys τ H,kvs[i]? = some kv->Pv i ys τ H->g (kV kv.1) τ H fun cT H4=>ti cT H4 fun b H5=>if b=true then te cT H5 fun y H6=>H6 p=some (.lst ys)/\ys.length < sizeLine /\ ∃m',m' < kvs.length - i/\CW Pv kvs.length (i+1) m' (ys ++ [y]) cT (upd H6 p (.lst (ys ++ [y]))) else ∃m',m' < kvs.length - i/\CW Pv kvs.length (i+1) m' ys cT H5)
  (hd:∀ys τ H,Pv kvs.length ys τ H->Q (.ref p) H):kc (AY d o kvs) g ti te jP Q p H1:=by
 refine⟨CW Pv kvs.length,⟨kvs.length,by simp,bX _,h0⟩,?_⟩
 rintro i m ys τ H ⟨rfl,hi,pv⟩;obtain⟨hp,hq⟩:=hl i ys τ H pv;refine⟨hp,?_⟩
 by_cases aT:i < kvs.length
 ·refine .inr ⟨⟨hq,aT⟩,fun x H3 y3=>?_⟩
  obtain⟨e3,kv,hU,ex⟩:=y3;subst e3;subst ex;exact hs i kv ys τ _ hU pv
 ·have e:i=kvs.length:=by omega
  subst e;exact .inl ⟨⟨hq,aK _⟩,hd ys τ H pv⟩
end L2
namespace HS
open PySem PySem.Spec PyProof.Rows
theorem Wc (t:SetTable) (es:Array (Int×Value)) (z:Int) (x:Value):(layNew t es z x).2.1.led=t.led:=by
 unfold layNew;split
 ·dsimp only
  unfold SetTable.orStandIn;split <;> rfl
 ·rfl
theorem Tg {t u:SetTable}{zs:Array Int}{ord:Array Nat} (e:t.relaid zs n=some (u,ord)):u.led=t.led/\u.plain=t.plain:=by
 unfold SetTable.relaid SetTable.laid at e;cases c:SetTable.layClean (SetTable.sizeAbove n - 1) zs with
 |none=>rw[c]at e;cases e
 |some ow =>
  rw[c]at e;have e2:=fZ e;have e3:=eY Prod.fst e2
  dsimp only at e3
  rw[<-e3];exact⟨rfl,rfl⟩
theorem Sv (t:SetTable) (es:Array (Int×Value)) (n:Nat):(relayAll t es n).2.1.led=t.led/\(t.plain=false->(relayAll t es n).2.1.plain=false):=by
 unfold relayAll;split
 ·rename_i u ord e
  obtain⟨h1,h2⟩:=Tg e
  dsimp only
  split
  ·exact⟨h1,fun z=>h2.trans z⟩
  ·exact⟨rfl,fun _=>rfl⟩
 ·exact⟨rfl,fun _=>rfl⟩
def jK (P:Program) (w:World) (h:Heap) (a:Addr) (xs:List Str):Prop:=
 ∃o es ep t,h.get? a=some o/\o.ExactSet/\o.data = .set es ep t/\ElemsOf (strKind P w) es.toList/\(∀k,k∈xs ↔ ∃e∈es.toList,(strKind P w).is k e.2=true) /\
  es.size < scanBound/\t.fits es.size=true/\es.size=xs.length/\t.led=(!w.params.followText "set-order")/\(es.size≠0->t.plain=false)
theorem jK.keep {xs:List Str} (x:jK P w h a xs) (k:∀o,h.get? a=some o->h'.get? a=some o):jK P w h' a xs:=let ⟨o,es,ep,t,e,r⟩:=x;⟨o,es,ep,t,k o e,r⟩
theorem U8 (e:h.get? a=some { cls:= .type "set",dict:=none,data:= .set #[] 0 (.fresh 0 0 (!w.params.followText "set-order")) }):jK P w h a []:=
 ⟨_,#[],0,_,e,⟨rfl,rfl,rfl⟩,rfl,fun z hz=>(by simp at hz),fun k=>(by simp),by decide,by rfl,rfl,rfl,fun z=>absurd rfl z⟩
def jc (xs:List Str) (k:Str):List Str:=if k∈xs then xs else xs ++ [k]
section
variable{E:Value->Shared->Prop}{xs:List Str}
theorem K8 {o:Obj}{es gV:Array (Int×Value)}{ep:Nat}{t t':SetTable}{ys:List Str} (ho:h.get? a=some o) (hx:o.ExactSet) (hd:o.data = .set es ep t) (sM:ElemsOf (strKind P w) gV.toList)
  (hm:∀k,k∈ys ↔ ∃e∈gV.toList,(strKind P w).is k e.2=true) (hb:gV.size < scanBound) (hf:t'.fits gV.size=true) (hn:gV.size=ys.length) (hl:t'.led=(!w.params.followText "set-order")) (hp:t'.plain=false) :
  (h.update a (Obj.putSet gV t')).get? a=some { o with data:= .set gV (ep+1) t' }/\jK P w (h.update a (Obj.putSet gV t')) a ys:=by
 have hg:(h.update a (Obj.putSet gV t')).get? a=some { o with data:= .set gV (ep+1) t' }:=by
  have z:=qK (Obj.putSet gV t') ho (by rw[putSet_of gV t' hd];rfl)
  rw[putSet_of gV t' hd]at z;exact z
 exact⟨hg,_,gV,ep+1,t',hg,hx,rfl,sM,hm,hb,hf,hn,hl,fun _=>hp⟩
theorem U9 {k:Str}{Q:Bool->Shared->Prop} (hS:jK P w s.heap a xs) (room:xs.length+1 < scanBound) (h:∀h',Heap.SameBut a s.heap h'->jK P w h' a (jc xs k) -> ∀b,Q b { s with heap:=h' }) :
  wpAny (model P w) A (setAddHashed a (.str k tk) (hashStr w k)) Q E s:=by
 obtain⟨o,es,ep,t,ho,hex,hd,sM,lY,hb,hf,hn,Er,cR⟩:=hS;have nj:(strKind P w).is k (.str k tk)=true:=by show Value.isStrOf k (.str k tk)=true;simp[Value.isStrOf]
 have F6:(Value.str k tk).scannable=true:=rfl;have aib:es.size+1 < scanBound:=by omega
 unfold setAddHashed setAddHashedIn;refine eu (ag (wpAny_setState_of ho hd hf ?_));dsimp only;rw[byScan_of (knd:=strKind P w) F6 hb sM,au rfl];refine ag ?_;unfold setAddByScan;refine ag (nW (ag (wpAny_setScan_of (knd:=strKind P w) (k:=k) nj ho hd hf sM ?_)));cases hr:List.findIdx? (fun e=>(strKind P w).is k e.2) es.toList with
 |some j =>
  obtain⟨hj,AZ,_⟩:=List.findIdx?_eq_some_iff_getElem.mp hr;have hk:k∈xs:=(lY k).mpr ⟨es.toList[j],iX hj,AZ⟩;refine aA (aA ?_);have e0:s={ s with heap:=s.heap }:=by cases s;rfl
  rw[e0];refine h s.heap (Heap.SameBut.refl a s.heap) ?_ _;unfold jc;rw[au hk];exact⟨o,es,ep,t,ho,hex,hd,sM,lY,hb,hf,hn,Er,cR⟩
 |none =>
  dsimp only
  have hk:k ∉ xs:=fun z=>by
   obtain⟨e,he,hp⟩:=(lY k).mp z;have:=List.findIdx?_eq_none_iff.mp hr e he;rw[hp]at this;cases this
  have gw:∀ (b:Bool) {a4:Shared}{Q':Unit->Shared->Prop},Q' () a4->wpAny (model P w) A (match b with|true=>rule "set.scan.the-table-gave-way" | false=>pure ()) Q' E a4:=fun b a4 Q' hq=>by
   cases b
   ·exact aA hq
   ·exact nW hq
  have gy:=layNew_perm t es ((strKind P w).hash k) (.str k tk);have zY:=layNew_fits t es ((strKind P w).hash k) (.str k tk);have xy:=Wc t es ((strKind P w).hash k) (.str k tk);generalize hL:layNew t es (hashStr w k) (.str k tk)=L;rw[show(strKind P w).hash k=hashStr w k from rfl,hL]at gy zY xy;obtain⟨fT,t1,wd,aii⟩:=L
  dsimp only at gy zY xy ⊢
  rw[Array.toList_push]at gy;have NQ:ElemsOf (strKind P w) fT.toList:=(sM.push (k:=k) nj F6).perm gy;have aij:fT.size=es.size+1:=by rw[<-mz,gy.length_eq,cY,mz];rfl
  have MV:∀k',k'∈jc xs k ↔ ∃e∈fT.toList,(strKind P w).is k' e.2=true:=fun k'=>by
   unfold jc;rw[ao hk,dX,d5,lY k']
   constructor
   ·rintro(⟨e,he,hp⟩|rfl)
    ·exact⟨e,gy.mem_iff.mpr (pC _ he),hp⟩
    ·exact⟨_,gy.mem_iff.mpr (fq _ (d5.mpr rfl)),nj⟩
   ·rintro⟨e,he,hp⟩
    rcases dX.mp (gy.mem_iff.mp he) with he|he
    ·exact .inl ⟨e,he,hp⟩
    ·rw[d5]at he;subst he
     exact .inr ((strKind P w).inj _ k' k hp nj)
  have hln:fT.size=(jc xs k).length:=by unfold jc;rw[ao hk,cY,gF];omega
  have jn:fT.size < scanBound:=by omega
  refine ag (gw _ ?_);have tail:∀t2:SetTable,t2.fits fT.size=true->t2.led=t.led->t2.plain=false->wpAny (model P w) A (do
    storeSet a fT t2
    if (!wd && t2.tooFull)=true then do
      let r:=relayAll t2 fT (SetTable.grown fT.size)
      (match r.2.2 with|true=>rule "set.scan.the-table-gave-way" | false=>pure ())
      storeSet a r.1 r.2.1
      pure (some true)
     else pure (some true)) (fun r s'=>wpAny (model P w) A (match r with|some added=>pure added|none=>setAddHashedIn a (.str k tk) (hashStr w k) 99999) Q E s') E s:=by
   intro t2 sL ji jl;obtain⟨AN,hS1⟩:=K8 (P:=P) (w:=w) ho hex hd NQ MV jn sL hln (ji.trans Er) jl;have O0:=Ja s.heap a (Obj.putSet fT t2);refine ag (wpAny_storeSet_of ho hd ?_ (fits_of_scanBound jn));split
   ·have q1:=relayAll_perm t2 fT (SetTable.grown fT.size)
    have q2:=relayAll_fits t2 fT (SetTable.grown fT.size);have q3:=Sv t2 fT (SetTable.grown fT.size)
    dsimp only
    generalize relayAll t2 fT (SetTable.grown fT.size)=R at q1 q2 q3 ⊢;obtain⟨FZ,t3,g2⟩:=R
    dsimp only at q1 q2 q3 ⊢
    have sz2:FZ.size=fT.size:=by rw[<-mz,q1.length_eq,mz]
    have hm2:∀k',k'∈jc xs k ↔ ∃e∈FZ.toList,(strKind P w).is k' e.2=true:=fun k'=>(MV k').trans ⟨fun⟨e,he,q⟩=>⟨e,q1.mem_iff.mpr he,q⟩,fun⟨e,he,q⟩=>⟨e,q1.mem_iff.mp he,q⟩⟩;obtain⟨_,hS2⟩:=K8 (P:=P) (w:=w) AN hex rfl (NQ.perm q1) hm2 (by omega) q2 (by omega) (q3.1.trans (ji.trans Er)) (q3.2 jl)
    refine ag (gw _ (ag (wpAny_storeSet_of AN rfl ?_ (fits_of_scanBound (by omega)))))
    exact aA (aA (h _ (O0.trans (Ja _ a _)) hS2 _))
   ·exact aA (aA (h _ O0 hS1 _))
  by_cases F7:t1.plain=true
  ·rw[au F7]
   refine ag ?_;rw[hashByValue_scannable 8 F6];refine aA ?_;show wpAny (model P w) A (do
    storeSet a fT { t1 with plain:=false }
    _) _ E s
   exact tail { t1 with plain:=false } (SetTable.fits_plain_off zY) xy rfl
  ·rw[ao F7]
   refine ag (aA ?_);show wpAny (model P w) A (do
    storeSet a fT t1
    _) _ E s
   exact tail t1 zY xy (by simpa using F7)
end
def ki (val:Nat->Str) (i:Nat):List Str:=((List.range i).map val).foldl jc []
theorem zo (val:Nat->Str) (i:Nat):ki val (i+1)=jc (ki val i) (val i):=by
 unfold ki;rw[List.range_succ,bj,List.foldl_append];rfl
theorem U' (xs:List Str) (k:Str):(jc xs k).length<=xs.length+1:=by
 unfold jc;split
 ·omega
 ·rw[cY,gF];omega
theorem Wd {xs:List Str} (h:xs.Nodup) (k:Str):(jc xs k).Nodup:=by
 unfold jc;split
 ·exact h
 ·rename_i hn
  rw[mI];exact⟨h,by simp,fun a ha b hb e=>hn (by rw[<-(d5.mp hb),<-e];exact ha)⟩
theorem Va {xs:List Str}{k y:Str}:y∈jc xs k ↔ y∈xs\/y=k:=by
 unfold jc;split
 ·rename_i h
  exact⟨.inl,fun z=>z.elim id fun e=>e ▸ h⟩
 ·rw[dX,d5]
theorem K9 (val:Nat->Str):∀i,(ki val i).length<=i
 |0=>aK _
 |i+1=>by rw[zo];have:=U' (ki val i) (val i);have:=K9 val i;omega
theorem LQ (val:Nat->Str):∀i,(ki val i).Nodup
 |0=>qM
 |i+1=>by rw[zo];exact Wd (LQ val i) _
theorem K' (val:Nat->Str) (y:Str):∀i,y∈ki val i ↔ ∃j,j < i/\val j=y
 |0=>⟨fun h=>(by cases h),fun⟨_,h,_⟩=>absurd h (BX _)⟩
 |i+1=>by
  rw[zo,Va,K' val y i]
  constructor
  ·rintro(⟨j,h,e⟩|e)
   ·exact⟨j,by omega,e⟩
   ·exact⟨i,by omega,e.symm⟩
  ·rintro⟨j,h,e⟩
   by_cases c:j=i
   ·exact .inr (by rw[<-e,c])
   ·exact .inl ⟨j,by omega,e⟩
section
variable{I:Addr}{wr:List Addr}{G:Array GenState->Array GenState->Prop}{Pv:Nat->Value->Prop}{St:Nat->Shared->Prop}
theorem Vb (W:WalksS P w A.in1 I fp wr G n Pv St) (S:Addr) (hS:S ∉ fp) (val:Nat->Str) (hv:∀i v,Pv i v -> ∃t,v = .str (val i) t) (hb:n+1 < scanBound) :
  ∀ (k i:Nat) (s:Shared),n - i=k->i<=n->St i s->jK P w s.heap S (ki val i)->(∀s',Moved (S::wr) G s s'->jK P w s'.heap S (ki val n)->R (.ok (.ret .none)) s') ->
   codeAny (model P w) A (.builtin "set.update.loop" ⟨[.ref S,.ref I],[]⟩) R s:=by
 have hw:S ∉ wr:=fun z=>hS (W.sub _ z);have up:∀b∈wr,b∈S::wr:=fun b z=>bV _ z;intro k
 induction k with
 |zero =>
  intro i s hk hi st x q;obtain rfl:i=n:=by omega
  refine lJ F.entry_set_update_loop ?_;rw[qL RG _];show wpAny _ A.in1 (pyNext (.ref I) >>= _) _ _ s;refine ag (W.done s _ _ st fun s' m=>?_);show wpAny _ A.in1 (ret Value.none) _ _ s';exact aA (q s' (m.mono up) (x.keep fun o e=>m.heap S o hw e))
 |succ k ih =>
  intro i s hk hi st x q;have lt:i < n:=by omega
  refine lJ F.entry_set_update_loop ?_;rw[qL RG _];show wpAny _ A.in1 (pyNext (.ref I) >>= _) _ _ s;refine ag (W.item i s _ _ lt st fun v s' hP iO m=>?_);obtain⟨t,rfl⟩:=hv i v hP;have x':jK P w s'.heap S (ki val i):=x.keep fun o e=>m.heap S o hw e;show wpAny _ A.in1 (holding [Value.str (val i) t] (setAdd S (.str (val i) t)) >>= _) _ _ s';refine ag (eu ?_);unfold setAdd;have nj:(strKind P w).is (val i) (.str (val i) t)=true:=by show Value.isStrOf (val i) (.str (val i) t)=true;simp[Value.isStrOf]
  refine eu (ag ((strKind P w).pyHash (k:=val i) nj ?_));have room:(ki val i).length+1 < scanBound:=by have:=K9 val i;omega
  refine U9 (s:={ s' with toks:=s'.toks+1 }) x' room fun h' sb x2 b=>?_;rw[<-zo]at x2;refine aA ⟨vM RG _,ih (i+1) _ (by omega) lt (W.frame _ s' _ _ iO (pG _) fun c hc o e=>?_) x2 fun mf m'' x''=>?_⟩
  ·rw[sb.2 c (fun z:c=S=>hS (by rw[<-z];exact hc))];exact e
  ·refine q mf (Moved.trans W.gtrans ((m.mono up).then_heap (pG _) fun c o hc e=>?_) m'') x''
   rw[sb.2 c (fun z:c=S=>hc (by rw[z];exact aV))];exact e
end
section
variable{E:Value->Shared->Prop}
abbrev oM (w:World):Obj:={ cls:= .type "set",dict:=none,data:= .set #[] 0 (.fresh 0 0 (!w.params.followText "set-order")) }
theorem Sx (a:Value) {Q₁:Value->Shared->Prop} (h:Q₁ (.ref s.heap.objs.size) { s with heap:=s.heap.push (oM w) }) :
  codeAny (model P w) A (.call (.builtin "set.__new__") ⟨[.type "set",a],[]⟩) (wants Q₁ E) s:=by
 refine Rp ?_;show wpAny _ A.in1 (do checkBuiltinCall "set.__new__" ⟨[.type "set",a],[]⟩;again (.builtin "set.__new__" ⟨[.type "set",a],[]⟩)) _ _ s;refine ag (wpAny_of_eq (F.newCall_set_1 a) (aA ⟨vM F.plain_set_new _,lJ F.entry_set_new ?_⟩));rw[qL F.plain_set_new _];unfold Builtin.«set.__new__» Builtin.Frozenset.newClass;have ss:=sub_set_self;obtain⟨hp,g,d,tk,os⟩:=s;dsimp only
 wp_walk
 refine wpAny_askSetting (aA ?_);dsimp only;simp only[newObj];refine ag (wpAny_alloc (aA ?_));exact aA h
structure Src (P:Program) (w:World) (T:String) (l:Addr) (ol:Obj) (n:Nat) (Pv:Nat->Value->Prop):Prop where
 cls:ol.cls = .type T
 ns:isSubtype (.type T) (.type "set")=pure false
 nf:isSubtype (.type T) (.type "frozenset")=pure false
 nd:(Value.type T==Value.type "dict")=false
 iter:∀ (A:Around) (s:Shared),A.handled=none->s.heap.get? l=some ol -> ∃ (oI:Obj) (St:Nat->Heap->Prop),
  (∀ (E:Value->Shared->Prop) (Q:Value->Shared->Prop),Q (.ref s.heap.objs.size) { s with heap:=s.heap.push oI }->wpAny (model P w) A (pyIter (.ref l)) Q E s) /\
  Walks P w A s.heap.objs.size [s.heap.objs.size,l] [s.heap.objs.size] n Pv St/\St 0 (s.heap.push oI)
theorem Ue {Pv:Nat->Value->Prop}{val:Nat->Str}{Q:Value->Shared->Prop} (hh:A.handled=none) (C:Src P w T l ol n Pv) (hl:s.heap.get? l=some ol) (hv:∀i v,Pv i v -> ∃t,v = .str (val i) t) (hb:n+1 < scanBound)
  (h:∀ (h':Heap) (tk:Nat),jK P w h' s.heap.objs.size (ki val n)->(∀b o,b < s.heap.objs.size->s.heap.get? b=some o->h'.get? b=some o)->Q (.ref s.heap.objs.size) { s with heap:=h',toks:=tk }) :
  wpAny (model P w) A (call (.type "set") [.ref l]) Q E s:=by
 obtain⟨c0,tl0,aik⟩:=tx.mro;have aic:=tx.made;have ail:=tx.sub;refine pE (Rp ?_);show wpAny _ _ (callAny (.type "set") _) _ _ _;refine aA ⟨II _ (by decide +kernel),lJ F.entry_type_call ?_⟩;rw[Around.under_plain (weight_type_call_type "set" [.ref l] []) rfl]
 have f1:=tx.notType;have f2:=tx.canCreate;have f3:=F.typeCall_set_1 (.ref l)
 repeat (any_goals (first|assumption|wp_step))
 refine qH (Sx (.ref l) (E:=E) (Q₁:=fun obj a4=>obj = .ref s.heap.objs.size/\a4={ s with heap:=s.heap.push (oM w) }) ⟨rfl,rfl⟩) fun r a4 hr=>?_;cases r with
 |error e=>exact hr
 |ok fl =>
  cases fl with
  |ret obj =>
   obtain⟨rfl,rfl⟩:=hr;have gS:(s.heap.push (oM w)).get? s.heap.objs.size=some (oM w):=eM _ rfl;have tS:Shared.TypeIs { s with heap:=s.heap.push (oM w) } (.ref s.heap.objs.size) "set" :=⟨_,gS,rfl⟩;have i1:=tx.init.lookup;have i2:=tx.init.bind (.ref s.heap.objs.size)
   repeat (any_goals (first|assumption|wp_step))
   refine qH (IJ (R:=wants (fun r lV=>r = .none /\ ∃h' tk,lV={ s with heap:=h',toks:=tk }/\jK P w h' s.heap.objs.size (ki val n)/\(∀b o,b < s.heap.objs.size->s.heap.get? b=some o->h'.get? b=some o)) E) tx.init.plain F.entry_set_init (check_set_init_1 tS ?_)) fun ZS lV DX=>?_
   ·have kI:(s.heap.push (oM w)).get? l=some ol:=bU _ hl
    obtain⟨ZT,aid,aie,ah9⟩:=ol;have ZU:ZT = .type T:=C.cls;subst ZU;have ns:=C.ns;have nf:=C.nf;have nd:=C.nd;unfold Builtin.«set.__init__» noKeywords Builtin.Frozenset.updateFrom;generalize hPI:pyIter=PI
    wp_walk
    subst hPI;obtain⟨oI,St,it,W,st⟩:=C.iter A.in1.in1.in1 { s with heap:=s.heap.push (oM w) } (by simp[hh]) kI
    refine wpAny_of_in1 (it _ _ ?_);refine ag (IY ?_);have lS:l < s.heap.objs.size:=aW hl;have nS:s.heap.objs.size ∉ [(s.heap.push (oM w)).objs.size,l]:=by
     rw[yP];simp only[aY,d5,jZ,j3,not_or];exact⟨bT (RH _),BH lS⟩
    refine Vb W.toS s.heap.objs.size nS val hv hb (n - 0) 0 _ (by omega) (bX _) st (U8 (bU _ gS)) ?_
    intro s' m x';obtain⟨h',g',d',oW,xR⟩:=s';have e1:g'=s.gens:=m.gens;have e2:d'=s.drawn:=m.drawn;have e3:xR=s.os:=m.os;subst e1;subst e2;subst e3;show wpAny _ _ _ _ _ _;refine aA ?_;show wpAny _ _ (ret Value.none) _ _ _;refine aA ⟨rfl,h',oW,rfl,x',fun b o hb e=>?_⟩;have b1:b≠s.heap.objs.size:=bT hb;have b2:b≠(s.heap.push (oM w)).objs.size:=by rw[yP];exact bT (RF hb)
    exact m.heap b o (by simp only[aY,d5,jZ,j3,not_or];exact⟨b1,b2⟩) (bU _ (bU _ e))
   ·cases ZS with
    |error e=>exact DX
    |ok Yl =>
     cases Yl with
     |ret r =>
      obtain⟨rfl,h',tk,rfl,x',k'⟩:=DX
      repeat (any_goals (first|assumption|wp_step))
      exact h _ _ x' k'
     |_=>exact DX.elim
  |_=>exact hr.elim
theorem src_list (cl:ol.cls = .type "list") (dt:∃n,ol.data = .seq items n):Src P w "list" l ol items.size (fun i v=>items[i]? = some v) where
 cls:=cl
 ns:=F.sub_list_set
 nf:=F.sub_list_frozenset
 nd:=by decide
 iter:=fun A s hh hl=>by
  have il:s.heap.IsList l items:=⟨ol,hl,cl,dt⟩;have lt:=aW hl;exact⟨_,_,fun E Q q=>BI il q,Walks.list hh _ l (bT lt) items,⟨_,eM _ rfl,rfl,rfl⟩,il.push _⟩
theorem We (cl:ol.cls = .type "tuple") (dt:∃n,ol.data = .seq items n):Src P w "tuple" l ol items.size (fun i v=>items[i]? = some v) where
 cls:=cl
 ns:=F.sub_tuple_set
 nf:=F.sub_tuple_frozenset
 nd:=by decide
 iter:=fun A s hh hl=>by
  have il:s.heap.IsTuple l items:=⟨ol,hl,cl,dt⟩;have lt:=aW hl;exact⟨_,_,fun E Q q=>wpAny_pyIter_tuple il q,Walks.tuple hh _ l (bT lt) items,⟨_,eM _ rfl,rfl,rfl⟩,il.push _⟩
end
section
variable{E:Value->Shared->Prop}{xs:List Str}
theorem Vc {vs:List Value}{ys:List Str} (h:StrsAre vs ys):vs.length=ys.length:=by
 induction h with
 |nil=>rfl
 |cons _ _ _ ih=>rw[cO,cO,ih]
end
end HS
namespace HS
open PySem PySem.Spec PyProof.Rows PySem.W
end HS
namespace L2
open PySem PySem.Spec PyProof.Rows PySem.W HS
def xD (P:Program) (w:World) (a:Addr) (xs:List Str):HO:= .ext fun h=>xs.Nodup/\jK P w h a xs
theorem Wf {xs:List Str} (nd:xs.Nodup) (x:jK P w h a xs):br P w H h a (xD P w a xs):=
 ⟨⟨nd,x⟩,(let ⟨o,_,_,_,e,_⟩:=x;⟨o,e⟩),fun _ _ q k=>⟨q.1,q.2.keep k⟩⟩
theorem LR:∀ {vs:List Value}{ys:List Str},StrsAre vs ys -> ∀ (i:Nat) (v:Value),vs[i]? = some v -> ∃t,v = .str (ys.getD i "") t
 |_,_,.nil,i,v,h=>by simp at h
 |_,_,.cons y t r,0,v,h=>by simp at h;exact⟨t,by rw[<-h];rfl⟩
 |_,_,.cons y t r,i+1,v,h=>by
  obtain⟨t',e⟩:=LR r i v (by simpa using h)
  exact⟨t',by rw[e];rfl⟩
theorem Vd (hc:X.calm=true):eV X (.type "set") (fun vs H Q=>∃ (p:Addr) (ss:List Str),vs = [.ref p]/\(aj X.K H p (ss.map V.str)\/aN X.K H p (ss.map V.str))/\ss.length<=1000 /\ ∀a ds,H a=none->ds.Nodup->(∀y,y∈ds ↔ y∈ss)->Q (.ref a) (upd H a (xD X.prog X.w a ds))):=by
 intro pins s σ H vs us Q I r h;obtain⟨p,ss,rfl,hq,h1k,q⟩:=h;obtain⟨u,rfl,rx⟩:=vals1 r;cases rx
 have fin:∀ (its:List Value) {T:String}{ol:Obj},Vals (ss.map V.str) its->Src X.prog X.w T p ol its.toArray.size (fun i v=>its.toArray[i]? = some v)->s.heap.get? p=some ol->wpAny (model X.prog X.w) X.A (call (.type "set") [.ref p]) (EP X pins σ Q) X.xe s:=fun its {T ol} rv C hp=>by
  have st:=zi rv;have hlen:its.length=ss.length:=Vc st;refine Ue (val:=fun i=>ss.getD i "") (I.ok.hd hc) C hp (fun i v hv=>LR st i v (by simpa using hv)) (by rw[cD,hlen];unfold scanBound;omega) fun h' tk x k=>?_
  have kp:∀b o,s.heap.get? b=some o->h'.get? b=some o:=fun b o e=>k b o (aW e) e;have nd:=LQ (fun i=>ss.getD i "") its.toArray.size;refine⟨.ref s.heap.objs.size,_,I.laid (t':=tk) kp (aK _) (Wf nd x),rfl,q _ _ (I.ay.fresh (aK _)) nd fun y=>?_⟩;rw[K',cD,hlen]
  constructor
  ·rintro⟨j,hj,rfl⟩
   rw[show ss.getD j "" = ss[j] by simp[hj]]
   exact iX hj
  ·intro hy
   obtain⟨j,hj,e⟩:=List.mem_iff_getElem.mp hy;exact⟨j,hj,by simp[hj,e]⟩
 rcases hq with hq|hq
 ·obtain⟨its,r',pl,hz⟩:=I.list hq
  obtain⟨o,ho,gZ,n,hd⟩:=pl.isList;exact fin its r' (src_list gZ ⟨n,hd⟩) ho
 ·obtain⟨its,r',pl,hz⟩:=I.tuple hq
  obtain⟨o,ho,gZ,n,hd⟩:=pl;exact fin its r' (We gZ ⟨n,hd⟩) ho
theorem Sy:eV X (.builtin "len") (fun vs H Q=>∃ (a:Addr) (ds:List Str),vs = [.ref a]/\H a=some (xD X.prog X.w a ds)/\Q (.int ds.length) H):=by
 intro pins s σ H vs us Q I r h;obtain⟨a,ds,rfl,hq,q⟩:=h;obtain⟨u,rfl,rx⟩:=vals1 r;cases rx
 obtain⟨⟨nd,o,es,ep,t,ho,hex,hd,sM,lY,hb,hf,hn,_⟩,_⟩:=(show br X.prog X.w H s.heap a (xD X.prog X.w a ds) from I.ay a _ hq);refine call_len_set ho hex hd hf (by unfold scanBound at hb;omega) ?_
 rw[<-hn]at q;exact⟨.int es.size,H,I.tok _,⟨_,rfl⟩,q⟩
end L2
namespace L2
open PySem PySem.W PySem.Calls PyProof.Rows
structure Ord (n:Nat) (lt:Nat->Nat->Bool):Prop where
 tr:∀i j k,lt i j=true->lt j k=true->lt i k=true
 F8:∀i j,i < n->j < n->i≠j->lt i j=false->lt j i=true
def dE {α:Type} (n:Nat) (lt:Nat->Nat->Bool) (φ:α->Prop):KasT α->Prop
 |.ret a=>φ a
 |.ask i j k=>i < n/\j < n/\dE n lt φ (k (lt i j))
section
variable{α β:Type}{lt:Nat->Nat->Bool}
theorem dE.bind {φ:α->Prop}{ψ:β->Prop}{f:α->KasT β} (g:∀a,φ a->dE n lt ψ (f a)):∀ {t:KasT α},dE n lt φ t->dE n lt ψ (t.bind f)
 |.ret a,h=>g a h
 |.ask _ _ _,h=>⟨h.1,h.2.1,dE.bind g h.2.2⟩
theorem dE.wp {φ:α->Prop}{cmp:Nat->Nat->(Bool->Shared->Prop)->Shared->Prop}{Q:α->Shared->Prop}{s:Shared} (hc:∀i j C,i < n->j < n->C (lt i j) s->cmp i j C s):∀ {t:KasT α},dE n lt φ t->(∀a,φ a->Q a s)->t.kasWp cmp Q s
 |.ret a,h,q=>q a h
 |.ask _ _ _,h,q=>hc _ _ _ h.1 h.2.1 (dE.wp hc h.2.2 q)
theorem dE.mono {φ ψ:α->Prop} (g:∀a,φ a->ψ a):∀ {t:KasT α},dE n lt φ t->dE n lt ψ t
 |.ret a,h=>g a h
 |.ask _ _ _,h=>⟨h.1,h.2.1,dE.mono g h.2.2⟩
def gm (lt:Nat->Nat->Bool) (p:Array Nat) (k:Nat):Prop:= ∀i j,i < j->j < k->lt (p.getD i 0) (p.getD j 0)=true
def jo (lt:Nat->Nat->Bool) (p:Array Nat) (k:Nat):Prop:= ∀i j,i < j->j < k->lt (p.getD j 0) (p.getD i 0)=true
theorem Pm.size {p:Array Nat} (h:Pm n p):p.size=n:=by have:=h.length_eq;simpa using this
theorem Pm.ne {p:Array Nat} (h:Pm n p) (hi:i < n) (hj:j < n) (e:i≠j):p.getD i 0≠p.getD j 0:=by
 have hs:=h.size;have nd:p.toList.Nodup:=h.nodup_iff.mpr List.nodup_range;intro z;rw[nY,nY,Jb (by omega),Jb (by omega)]at z
 have z2:p.toList[i]'(by simp;omega)=p.toList[j]'(by simp;omega):=by simpa using z
 exact e ((List.getElem_inj nd).mp z2)
theorem DY {p:Array Nat} (O:Ord n lt) (h:Pm n p) (hi:i < n) (hj:j < n) (e:i≠j) (f:lt (p.getD i 0) (p.getD j 0)=false):lt (p.getD j 0) (p.getD i 0)=true:=
 O.F8 _ _ (h.lt (by omega) i) (h.lt (by omega) j) (h.ne hi hj e) f
theorem gm.step {p:Array Nat} (O:Ord n lt) (h1:1<=m) (a:gm lt p m) (l:lt (p.getD (m - 1) 0) (p.getD m 0)=true):gm lt p (m+1):=fun i j dw hj=>by
 by_cases e:j < m
 ·exact a i j dw e
 ·obtain rfl:j=m:=by omega
  by_cases e2:i=j - 1
  ·rw[e2];exact l
  ·exact O.tr _ _ _ (a i (j - 1) (by omega) (by omega)) l
theorem jo.step {p:Array Nat} (O:Ord n lt) (h1:1<=m) (a:jo lt p m) (l:lt (p.getD m 0) (p.getD (m - 1) 0)=true):jo lt p (m+1):=fun i j dw hj=>by
 by_cases e:j < m
 ·exact a i j dw e
 ·obtain rfl:j=m:=by omega
  by_cases e2:i=j - 1
  ·rw[e2];exact l
  ·exact O.tr _ _ _ l (a i (j - 1) (by omega) (by omega))
theorem Dp {p:Array Nat} (O:Ord n lt) (h:Pm n p):∀ (f m:Nat),1<=m->m+f<=n->gm lt p m->dE n lt (fun r=>m<=r/\r<=m+f/\gm lt p r/\(r < m+f->lt (p.getD r 0) (p.getD (r - 1) 0)=true)) (kas_asc p f m)
 |0,m,h1,h2,a=>⟨aK _,aK _,a,fun z=>absurd z (by omega)⟩
 |f+1,m,h1,h2,a=>⟨h.lt (by omega) _,h.lt (by omega) _,by
  cases c:lt (p.getD m 0) (p.getD (m - 1) 0) with
  |true=>exact⟨aK _,by omega,a,fun _=>c⟩
  |false =>
   refine dE.mono (fun r hr=>?_) (Dp O h f (m+1) (by omega) (by omega) (a.step O h1 (DY O h (by omega) (by omega) (by omega) c)))
   exact⟨by omega,by omega,hr.2.2.1,fun z=>hr.2.2.2 (by omega)⟩⟩
theorem La {p:Array Nat} (O:Ord n lt) (h:Pm n p):∀ (f m:Nat),1<=m->m+f<=n->jo lt p m->dE n lt (fun r:Array Nat×Nat×Nat=>r.1=p/\r.2.2=0/\m<=r.2.1/\r.2.1<=m+f/\jo lt p r.2.1) (kas_desc f p m 0)
 |0,m,h1,h2,a=>⟨rfl,rfl,aK _,aK _,a⟩
 |f+1,m,h1,h2,a=>⟨h.lt (by omega) _,h.lt (by omega) _,by
  cases c:lt (p.getD m 0) (p.getD (m - 1) 0) with
  |true =>
   show dE n lt _ (if 0 > 0 then kas_desc f (kas_rev p (m - (0+1)) m) (m+1) 0 else kas_desc f p (m+1) 0);rw[ao (by omega)]
   refine dE.mono (fun r hr=>?_) (La O h f (m+1) (by omega) (by omega) (a.step O h1 c))
   exact⟨hr.1,hr.2.1,by omega,by omega,hr.2.2.2.2⟩
  |false =>
   refine⟨h.lt (by omega) _,h.lt (by omega) _,?_⟩
   rw[DY O h (by omega) (by omega) (by omega) c]
   exact⟨rfl,rfl,aK _,yX _ _,a⟩⟩
theorem Lb {p:Array Nat} (hm:m<=p.size) (k:Nat) (hk:k < m):(kas_rev p 0 m).getD k 0=p.getD (m - 1 - k) 0:=by
 unfold kas_rev;rw[nY,getElem?_mirror_all hm,au ⟨bX _,hk⟩,nY,Nat.zero_add]
theorem jo.rev {p:Array Nat} (hm:m<=p.size) (a:jo lt p m):gm lt (kas_rev p 0 m) m:=fun i j dw hj=>by
 rw[Lb hm i (by omega),Lb hm j hj]
 exact a _ _ (by omega) (by omega)
def zZ (n:Nat) (lt:Nat->Nat->Bool) (r:Nat×Array Nat):Prop:=Pm n r.2/\gm lt r.2 r.1/\1<=r.1/\r.1<=n
theorem Ug {p:Array Nat} (O:Ord n lt) (h:Pm n p) (h1:1<=m) (h2:m<=n) (a:jo lt p m):dE n lt (zZ n lt) (kas_tail3 m n p):=
 dE.bind (ψ:=zZ n lt) (f:=fun k=>.ret (k,kas_rev p 0 m)) (fun r hr=>(show zZ n lt (r,kas_rev p 0 m) from⟨h.rev _ _,hr.2.2.1,cK h1 hr.1,by have:=hr.2.1;show r<=n;omega⟩)) (Dp O (h.rev 0 m) (n - m) m h1 (by omega) (a.rev (by rw[h.size];exact h2)))
theorem Uh {p:Array Nat} (O:Ord n lt) (hn:2<=n) (h:Pm n p):dE n lt (zZ n lt) (kas_count n p):=
 (Dp O h (n - 1) 1 (aK _) (by omega) (fun i j dw hj=>absurd hj (by omega))).bind fun m hm=>by
  obtain⟨m1,m2,ma,ml⟩:=hm;show dE n lt _ (if (m==n)=true then _ else if m > 1 then _ else _);split
  ·rename_i e
   have:m=n:=by simpa using e
   subst this;exact⟨h,ma,m1,aK _⟩
  ·rename_i e
   have ne:m≠n:=by simpa using e
   split
   ·rename_i g
    refine⟨h.lt (by omega) _,h.lt (by omega) _,?_⟩
    rw[ma 0 (m - 1) (by omega) (by omega)]
    exact⟨h,ma,m1,by omega⟩
   ·obtain rfl:m=1:=by omega
    have l:=ml (by omega)
    have d2:jo lt p 2:=fun i j dw hj=>by
     obtain rfl:j=1:=by omega
     obtain rfl:i=0:=by omega
     exact l
    refine dE.bind (fun r hr=>?_) (La O h (n - (1+1)) (1+1) (by omega) (by omega) d2)
    obtain⟨r1,r2,r3,r4,r5⟩:=hr;show dE n lt _ (if r.2.2 > 0 then _ else _);rw[ao (by omega),r1]
    exact Ug O h (by omega) (by omega) r5
theorem CD {p:Array Nat} (O:Ord n lt) (h:Pm n p) {k:Nat} (hk:k < n) (a:gm lt p k):∀ (f l r:Nat),r - l<=f->l<=r->r<=k->(∀i,i < l->lt (p.getD i 0) (p.getD k 0)=true)->(∀i,r<=i->i < k->lt (p.getD k 0) (p.getD i 0)=true) ->
  dE n lt (fun m=>m<=k/\(∀i,i < m->lt (p.getD i 0) (p.getD k 0)=true) /\ ∀i,m<=i->i < k->lt (p.getD k 0) (p.getD i 0)=true) (kas_place p k f l r)
 |0,l,r,hf,hl,hr,lo,hi=>by
  obtain rfl:l=r:=by omega
  exact⟨hr,lo,hi⟩
 |f+1,l,r,hf,hl,hr,lo,hi=>by
  show dE n lt _ (if l ≥ r then _ else _);split
  ·obtain rfl:l=r:=by omega
   exact⟨hr,lo,hi⟩
  ·refine⟨h.lt (by omega) _,h.lt (by omega) _,?_⟩
   cases c:lt (p.getD k 0) (p.getD ((l+r) / 2) 0) with
   |true =>
    refine CD O h hk a f l ((l+r) / 2) (by omega) (by omega) (by omega) lo fun i sN F9=>?_
    by_cases e:i=(l+r) / 2
    ·rw[e];exact c
    ·exact O.tr _ _ _ c (a _ i (by omega) F9)
   |false =>
    have c2:=DY O h (i:=k) (j:=(l+r) / 2) hk (by omega) (by omega) c
    refine CD O h hk a f ((l+r) / 2+1) r (by omega) (by omega) hr (fun i sN=>?_) hi
    by_cases e:i=(l+r) / 2
    ·rw[e];exact c2
    ·exact O.tr _ _ _ (a i _ (by omega) (by omega)) c2
theorem zy {p:Array Nat}{k l:Nat} (hk:k < p.size) (hl:l<=k) (i:Nat):(bubble p k (k - l)).getD i 0=if i=l then p.getD k 0 else if l < i/\i<=k then p.getD (i - 1) 0 else p.getD i 0:=by
 rw[nY,getElem?_bubble hk (k - l) (by omega)]
 have:k - (k - l)=l:=by omega
 rw[this]
 by_cases c1:i=l
 ·rw[au c1,au c1];exact(nY ..).symm
 ·rw[ao c1,ao c1]
  by_cases c2:l < i/\i<=k
  ·rw[au c2,au c2];exact(nY ..).symm
  ·rw[ao c2,ao c2];exact(nY ..).symm
theorem LS (O:Ord n lt):∀ (f:Nat) (p:Array Nat) (k:Nat),k+f=n->Pm n p->gm lt p k->dE n lt (fun r=>Pm n r/\gm lt r n) (kas_bin f p k)
 |0,p,k,e,h,a=>by
  obtain rfl:k=n:=by omega
  exact⟨h,a⟩
 |f+1,p,k,e,h,a=>(CD O h (by omega) a k 0 k (by omega) (bX _) (aK _) (fun i hi=>absurd hi (BX _)) (fun i h1 h2=>absurd h2 (by omega))).bind fun l hl=>by
  obtain⟨l1,l2,l3⟩:=hl;refine LS O f _ _ (by omega) (h.OW _ _) fun i j dw hj=>?_
  have hsz:=h.size;rw[zy (by omega) l1 i,zy (by omega) l1 j]
  by_cases i1:i=l
  ·rw[au i1,ao (by omega),au (by omega)]
   exact l3 _ (by omega) (by omega)
  ·rw[ao i1]
   by_cases i2:l < i/\i<=k
   ·rw[au i2,ao (by omega),au (by omega)]
    exact a _ _ (by omega) (by omega)
   ·rw[ao i2]
    by_cases j1:j=l
    ·rw[au j1];exact l2 i (by omega)
    ·rw[ao j1]
     by_cases j2:l < j/\j<=k
     ·rw[au j2]
      exact a _ _ (by omega) (by omega)
     ·rw[ao j2]
      exact a _ _ dw (by omega)
theorem Ve (O:Ord n lt) (hn:2<=n):dE n lt (fun r=>Pm n r/\gm lt r n) (kas_sort n):=
 (Uh O hn (yY _)).bind fun r hr=>by
  obtain⟨r1,r2,r3,r4⟩:=hr;show dE n lt _ (if r.1 < n then _ else _);split
  ·refine LS O _ _ _ (by omega) r1 ?_
   rw[show max r.1 1=r.1 by omega];exact r2
  ·obtain e:r.1=n:=by omega
   rw[e]at r2;exact⟨r1,r2⟩
end
def iQ (p q:Str):Bool:=decide (p.cps.toList < q.cps.toList)
theorem CY (p:Str):iQ p p=false:=gv (List.lt_irrefl _)
theorem Mt {p q r:Str} (h1:iQ p q=true) (h2:iQ q r=true):iQ p r=true:=cZ (List.lt_trans (pH h1) (pH h2))
theorem LU {p q:Str} (h:p≠q) (f:iQ p q=false):iQ q p=true:=by
 refine cZ ?_;have h1 : ¬ p.cps.toList < q.cps.toList:=of_decide_eq_false f;have h2:q.cps.toList<=p.cps.toList:=List.not_lt.mp h1
 by_cases z:q.cps.toList < p.cps.toList
 ·exact z
 ·exact absurd (U7 (a:=p) (b:=q) (List.not_lt.mp z) h2) h
theorem Ui {E:Value->Shared->Prop}{x y:Addr}{p q:Str}{t u:Tok}{v:Addr}{C:Bool->Shared->Prop} (hx:IsTup s.heap x #[.str p t,.ref v]) (hy:IsTup s.heap y #[.str q u,.ref z]) (hd:p=q->v=z) (h:C (iQ p q) s) :
  wpAny (model prog w) A (keyLt' (tuples' true) (.ref x) (.ref y)) C E s:=by
 obtain⟨ox,ex,cx,nx,dx⟩:=hx;obtain⟨oy,ey,cy,ny,dy⟩:=hy;refine kat_lt ex dx ey dy (kat_cons (Q0 ?_))
 by_cases e:p=q
 ·rw[cZ e]
  obtain rfl:=hd e;subst e;rw[CY]at h;exact kat_yes (kat_cons (Tf (kat_yes (kat_nil h))))
 ·rw[gv e]
  exact kat_no (kas_lt_str h)
theorem Kr {α β:Type}{F:α->β->Prop}{l:List α}{m:List β} (h:Paired F l m) (dl:α) (dm:β) (i:Nat) (hi:i < l.length):F (l.getD i dl) (m.getD i dm):=by
 induction h generalizing i with
 |nil=>exact absurd hi (BX _)
 |cons p _ ih =>
  cases i with
  |zero=>exact p
  |succ i=>exact ih i (ahT hi)
theorem Cn {α β γ:Type}{F:α->β->Prop}{f:γ->α}{g:γ->β}:∀ {l:List γ},(∀x∈l,F (f x) (g x))->Paired F (l.map f) (l.map g)
 |[],_=>.nil
 |x::l,h=>.cons (h x aV) (Cn fun y hy=>h y (bV _ hy))
theorem Mu {lt:Nat->Nat->Bool}{p:Array Nat} (hs:p.size=n) (a:gm lt p n):p.toList.Pairwise fun i j=>lt i j=true:=by
 rw[List.pairwise_iff_getElem];intro i j hi hj dw;have h1:i < p.size:=by simpa using hi
 have h2:j < p.size:=by simpa using hj
 have:=a i j dw (by omega)
 rw[nY,nY,Jb h1,Jb h2]at this
 simpa using this
theorem R4:eV X (.builtin "sorted") (fun xs H Q=>∃ (p:Addr) (ys:List V) (kvs:List (Str×V)),xs = [.ref p]/\aj X.K H p ys/\lT H ys kvs/\(∀q∈kvs,∃z,q.2=V.ref z)/\(kvs.map (·.1)).Nodup/\ys.length<=63 /\
  ∀D eW eg,H D=none->eW.Perm ys->lT H eW eg->eg.Perm kvs->(eg.map (·.1)).Pairwise (fun a b=>iQ a b=true)->Q (.ref D) (upd H D (.lst eW))):=by
 intro pins s σ H xs us Q I r ⟨p,ys,kvs,ex,hq,pr,AH,nd,OZ,q⟩;subst ex;obtain⟨u,rfl,rx⟩:=vals1 r;cases rx
 obtain⟨its,rv,pl,hz⟩:=I.list hq;have kI:ys.length=kvs.length:=mx pr;have ji:=rv.length;have at_:∀ (i:Nat),i < its.length -> ∃k a z t,(kvs.map (·.1))[i]? = some k/\its[i]? = some (.ref a)/\H a=some (.tup [.str k,.ref z])/\IsTup s.heap a #[.str k t,.ref z]:=by
  intro i hi;have vj:i < ys.length:=by omega
  obtain⟨p',jU,a,ey,ha⟩:=oq pr (show ys[i]? = some ys[i] from b4 vj);obtain⟨z,ez⟩:=AH p' (gP jU);obtain⟨u,hu,ru⟩:=rv.get (show ys[i]? = some (V.ref a) by rw[b4 vj,ey])
  cases ru
  obtain⟨i2,r2,t2,_⟩:=I.tuple (aN.of ha);obtain⟨x,y,rfl,rx,ry⟩:=r2.two;rw[ez]at ry ha;cases ry
  obtain⟨t,rfl⟩:∃t,x = .str p'.1 t:=rx;exact⟨p'.1,a,z,t,by rw[f6,jU];rfl,hu,ha,t2⟩
 obtain⟨m,hm,_⟩:=id I.loc
 let lt:Nat->Nat->Bool:=fun i j=>iQ ((kvs.map (·.1)).getD i "") ((kvs.map (·.1)).getD j "")
 have kl:(kvs.map (·.1)).length=its.length:=by rw[aE];omega
 have O:Ord its.length lt:=⟨fun i j k h1 h2=>Mt h1 h2,fun i j hi hj dw f=>LU (fun e=>dw ((RI (by omega) nd).mp (by
  rw[eO,eO,b4 (by omega),b4 (by omega)]at e
  rw[b4 (by omega),b4 (by omega)]
  exact eY some e))) f⟩
 have fin:∀ (h':Heap) (D:Addr) (c:Nat) (pa:Array Nat),(∀b o,b≠X.env.locals->s.heap.get? b=some o->h'.get? b=some o)->h'.Ns X.env.locals m->(∀b o,s.heap.get? b=some o->b≠D)->Pm its.length pa->(pa.toList.Pairwise fun i j=>lt i j=true) ->
   h'.get? D=some (listOf (pa.toList.map fun i=>its.getD i Value.none).toArray c) -> ∃v H',Inv X pins σ H' { s with heap:=h' }/\RelV v (.ref D)/\Q v H':=by
  intro h' D c pa k jk hD hp Ga new;have yh:∀i∈pa.toList,i < its.length:=fun i hi=>nU.mp (hp.mem_iff.mp hi);have py:(pa.toList.map fun i=>ys.getD i V.ax).Perm ys:=zO V.ax (by rw[ji];exact hp)
  have sO:Pm kvs.length pa:=by rw[<-kI,ji];exact hp
  have pk:(pa.toList.map fun i=>kvs.getD i (("",V.ax):Str×V)).Perm kvs:=zO _ sO;have pp:lT H (pa.toList.map fun i=>ys.getD i V.ax) (pa.toList.map fun i=>kvs.getD i ("",V.ax)):=Cn fun i hi=>Kr pr V.ax ("",V.ax) i (by have:=yh i hi;omega)
  have ek:(pa.toList.map fun i=>kvs.getD i ("",V.ax)).map (·.1)=pa.toList.map fun i=>(kvs.map (·.1)).getD i ("" : Str):=by
   rw[pI];refine BY fun i hi=>?_;have:i < kvs.length:=by have:=yh i hi;omega
   show(kvs.getD i ("",V.ax)).1=_;rw[eO,eO,f6,b4 this];rfl
  have rel:Vals (pa.toList.map fun i=>ys.getD i V.ax) (pa.toList.map fun i=>its.getD i Value.none):=CB (fun i=>by
   by_cases hi:i < ys.length
   ·obtain⟨u,hu,ru⟩:=rv.get (show ys[i]? = some ys[i] from b4 hi)
    rw[eO,eO,hu,b4 hi];exact ru
   ·rw[eO,eO,BW (by omega),BW (by omega)];trivial) pa.toList
  obtain⟨hn,I'⟩:=Inv.sorted (t':=s.toks) I hm jk k hD new rel (by rw[py.length_eq];exact hz)
  refine⟨.ref D,_,I',rfl,q D _ _ hn py pp pk ?_⟩;rw[ek,BZ];exact Ga
 have ZV:∀v∈its,∃a k t z,v=Value.ref a/\IsTup s.heap a #[.str k t,.ref z]/\a≠X.env.locals:=fun v hv=>by
  obtain⟨i,hi,rfl⟩:=BU hv;obtain⟨k,a,z,t,_,h2,h3,h4⟩:=at_ i hi;rw[b4 hi]at h2;exact⟨a,k,t,z,fZ h2,h4,fun e=>by rw[e,I.free]at h3;cases h3⟩
 by_cases h2:its.length < 2
 ·refine R' pl.isList h2 fun D c h' kp hD new=>?_
  obtain⟨o,es,ep,ho,rr⟩:=id hm;refine fin h' D c (List.range its.length).toArray (fun b o _ e=>kp b o e) ⟨o,es,ep,kp _ _ ho,rr⟩ hD (yY _) ?_ ?_
  ·show(List.range its.length).Pairwise _
   have:its.length=0\/its.length=1:=by omega
   rcases this with z|z <;> rw[z]
   ·exact List.Pairwise.nil
   ·exact ahU _ _
  ·have:(List.range its.length).map (fun i=>its.getD i Value.none)=its:=by
    apply RC
    ·simp
    ·intro i h1 h2;simp[List.getD,h2]
   show h'.get? D=some (listOf ((List.range its.length).map fun i=>its.getD i Value.none).toArray c);rw[this];exact new
 ·have h2:2<=its.length:=by omega
  obtain⟨g0,yg,lz⟩:∃g0:Heap,g0.objs.size=0 /\ ∀b,g0.get? b=none:=⟨{ s.heap with objs:= #[] },rfl,fun b=>vH (bX _)⟩;have F:Fr g0 X.env.locals s.heap m:=⟨hm,fun b o e=>(by rw[lz]at e;cases e),by rw[yg];exact bX _⟩
  refine kat_sorted F (CM (g:=g0) (L:=X.env.locals)) pl.isList h2 (by omega) fun D e1 h' F' N' lt'=>?_
  have kp:∀b o,b≠X.env.locals->s.heap.get? b=some o->h'.get? b=some o:=fun b o n e=>(N' (b,o) (bV _ (tK n (lz b) e))).1;have tk:∀ {a:Addr}{k:Str}{t:Tok}{z:Addr},a≠X.env.locals->IsTup s.heap a #[.str k t,.ref z]->IsTup h' a #[.str k t,.ref z]:=fun n ⟨o,ho,r⟩=>⟨o,kp _ o n ho,r⟩;obtain⟨fs,Gb,sL,gM⟩:=LP (h:=h') (vs:=its) fun v hv=>by
   obtain⟨a,k,t,z,e,h4,n⟩:=ZV v hv;exact⟨a,k,t,z,e,tk n h4⟩
  refine kat_kind (T:= .type "str") sL (by omega) (fun f hf=>?_) (by decide) ?_
  ·obtain⟨k,t,rfl⟩:=gM f hf
   exact Looks.of_pure rfl
  ·have hD:∀b o,s.heap.get? b=some o->b≠D:=fun b o e=>by
    by_cases hb:b=X.env.locals
    ·rw[hb];exact aH (N' _ aV).2.1
    ·exact bT (lt' (b,o) (tK hb (lz b) e))
   refine(Ve O h2).wp (fun i j C hi hj hC=>?_) fun pa hp=>?_
   ·obtain⟨k,a,z,t,g1,g2,g3,g4⟩:=at_ i hi
    obtain⟨k',a',z',t',A0,yi,vk,Gd⟩:=at_ j hj;unfold kas_ask;rw[eO,eO,g2,yi];have el:lt i j=iQ k k':=by show iQ ((kvs.map (·.1)).getD i "") ((kvs.map (·.1)).getD j "")=_;rw[eO,eO,g1,A0];rfl
    rw[el]at hC;refine Ui (tk (fun e=>by rw[e,I.free]at g3;cases g3) g4) (tk (fun e=>by rw[e,I.free]at vk;cases vk) Gd) (fun e=>?_) hC
    subst e;have dw:i=j:=(RI (by rw[aE];omega) nd).mp (g1.trans A0.symm)
    subst dw;rw[g2]at yi;cases yi;rw[g3]at vk;cases vk;rfl
   ·refine KasFin.intro F' N' (UpdF.head fun p hp=>?_) fun iP c Ge yj=>?_
    ·have:=y6 hp
     exact hD p.1 p.2 this.2.2
    ·exact fin iP D c pa (fun b o n e=>(yj (b,o) (bV _ (tK n (lz b) e))).1) Ge.ns hD hp.1 (Mu hp.1.size hp.2) (yj _ aV).1
end L2
namespace HS
open PySem PySem.Spec PyProof.Rows PySem.W
section
variable{E:Value->Shared->Prop}
theorem SA {vs:List Value}{Q:List Value->Shared->Prop} (ht:IsTup s.heap l vs.toArray) (hz:vs.length<=sizeLine) (q:∀h',(∀b o,s.heap.get? b=some o->h'.get? b=some o)->Q vs { s with heap:=h' }) :
  wpAny (model P w) A (collect (.ref l)) Q E s:=by
 obtain⟨o,ho,hc,n,hd⟩:=id ht;unfold collect;refine ag (IY (lJ PySem.F.entry_proto_collect ?_));rw[qL PySem.F.plain_proto_collect _];show wpAny _ A.in1 (newList [] >>= fun z=>again (.builtin "list.__iadd__" ⟨[z,.ref l],[]⟩)) _ _ s;refine ag (I0 (aA ⟨vM ahV _,lJ PySem.F.entry_list_iadd ?_⟩));rw[qL ahV _];show wpAny _ _ (Builtin.List.listExtendWith (.ref s.heap.objs.size) (.ref l) (.ref s.heap.objs.size)) _ _ { s with heap:=s.heap.push (seqObj "list" #[] 0) };unfold Builtin.List.listExtendWith;have ku:(s.heap.push (seqObj "list" #[] 0)).get? l=some o:=bU _ ho;refine ag (qJ (T:= "tuple") ⟨o,ku,hc⟩ ?_);have t1:(Value.type "tuple" == Value.type "tuple")=true:=by rfl
 rw[au (by rw[t1];simp)]
 refine ag (listItems_at ku hd (ag (listItems_at (xs:= #[]) (n:=0) (eM _ rfl) rfl ?_)));rw[ao (by simp)]
 refine ag (listUpdate_at (xs:= #[]) (n:=0) (eM _ rfl) rfl (aA ?_) (bX _) (by show(#[]++vs.toArray).size<=sizeLine+1;simp only[BR,cD,yS];omega))
 show wpAny (model P w) A (load s.heap.objs.size >>= _) Q E { s with heap:=(s.heap.push (seqObj "list" #[] 0)).update s.heap.objs.size (Obj.mapSeq (· ++ vs.toArray)) };refine ag (wpAny_load (get?_update_seq (eM _ rfl) _) ?_);show wpAny _ _ (pure ((#[]:Array Value)++vs.toArray).toList) Q E _;rw[show((#[]:Array Value)++vs.toArray).toList=vs by simp]
 refine aA (q _ fun b ob e=>?_);exact(jX _ _ (BH (aW e))).trans (bU _ e)
end
end HS
namespace L2
open PySem PySem.Spec PyProof.Rows PySem.W HS
end L2
namespace L2
open PySem PySem.Spec PyProof.Rows PySem.W
mutual
inductive Dt (p:Addr) (H:Hp):V->PyData->Prop where
 |ax:Dt p H .ax .none
 |bl (b:Bool):Dt p H (.bl b) (.bool b)
 |int (i:Int):Dt p H (.int i) (.int i)
 |str (x:Str):Dt p H (.str x) (.str x)
 |lst {a:Addr}{xs:List V}{ds:List PyData}:a≠p->H a=some (.lst xs)->bu p H xs ds->Dt p H (.ref a) (.list ds)
 |tup {a:Addr}{xs:List V}{ds:List PyData}:a≠p->H a=some (.tup xs)->bu p H xs ds->Dt p H (.ref a) (.tuple ds)
 |iF {a:Addr}:a≠p->H a=some (.dK [])->Dt p H (.ref a) (.dict [])
inductive bu (p:Addr) (H:Hp):List V->List PyData->Prop where
 |nil:bu p H [] []
 |cons {x:V}{d:PyData}{xs:List V}{ds:List PyData}:Dt p H x d->bu p H xs ds->bu p H (x::xs) (d::ds)
end
section
mutual
theorem Dt.keep (k:∀b o,H b=some o->b≠p->H' b=some o):∀ {v:V}{d:PyData},Dt p H v d->Dt p H' v d
 |_,_,.ax=>.ax
 |_,_,.bl b=>.bl b
 |_,_,.int i=>.int i
 |_,_,.str x=>.str x
 |_,_,.lst n e rs=>.lst n (k _ _ e n) (bu.keep k rs)
 |_,_,.tup n e rs=>.tup n (k _ _ e n) (bu.keep k rs)
 |_,_,.iF n e=>.iF n (k _ _ e n)
theorem bu.keep (k:∀b o,H b=some o->b≠p->H' b=some o):∀ {vs:List V}{ds:List PyData},bu p H vs ds->bu p H' vs ds
 |_,_,.nil=>.nil
 |_,_,.cons r rs=>.cons (Dt.keep k r) (bu.keep k rs)
end
theorem bu.length:∀ {vs:List V}{ds:List PyData},bu p H vs ds->vs.length=ds.length
 |_,_,.nil=>rfl
 |_,_,.cons _ rs=>by rw[cO,cO,bu.length rs]
theorem bu.get:∀ {vs:List V}{ds:List PyData},bu p H vs ds -> ∀ {i:Nat}{d:PyData},ds[i]? = some d -> ∃v,vs[i]? = some v/\Dt p H v d
 |_,_,.nil,i,v,h=>by cases h
 |_,_,.cons r rs,0,v,h=>by cases h;exact⟨_,rfl,r⟩
 |_,_,.cons r rs,i+1,v,h=>bu.get rs (by simpa using h)
end
def sP:PyData->String
 |.none => "NoneType"
 |.bool _ => "bool"
 |.int _ => "int"
 |.str _ => "str"
 |.list _ => "list"
 |.tuple _ => "tuple"
 |.dict _ => "dict"
def mn (T:String) (d:PyData):Bool:=sP d==T || (sP d == "bool" && T == "int")
theorem Dt.ty {d:PyData} (r:Dt p H v d):jI K H v (.type (sP d)):=by
 cases r with
 |ax=>exact .ax
 |bl b=>exact .bl b
 |int i=>exact .int i
 |str x=>exact .str x
 |lst n e _=>exact .lst e
 |tup n e _=>exact .tup e
 |iF n e=>exact .dK e
theorem LV (K:Frag) (d:PyData):kitOne K (.type (sP d)) (.type "str")=some (mn "str" d):=by cases d <;> rfl
theorem kit_tuple (K:Frag) (d:PyData):kitOne K (.type (sP d)) (.type "tuple")=some (mn "tuple" d):=by cases d <;> rfl
theorem DG {d:PyData} (kt:∀ (K:Frag) (d:PyData),kitOne K (.type (sP d)) (.type T)=some (mn T d)) (r:Dt p H v d) (q:Q (.bl (mn T d)) H) :
  (∃x,(∃C,[v,V.ty T] = [x,.ref C])\/(∃T',[v,V.ty T] = [x,.ty T']))/\NG K [v,.ty T] H Q:=⟨⟨v,.inr ⟨T,rfl⟩⟩,v,.ty T,.type (sP d),.type T,_,rfl,rfl,.inl r.ty,kt K d,q⟩
end L2
namespace HT
open PySem PyProof.Rows
section
open PySem.SeqAt
open PySem.AutoSeq1 (wpAny_loadPart')
open PySem.MeetsSeq PySem.MeetsSeq2 PySem.MeetsSeq3
end
end HT
namespace L2
open PySem PySem.Spec PyProof.Rows PySem.W HT
section
mutual
theorem Dt.reads (I:Inv X pins σ H s):∀ {v:V}{d:PyData}{u:Value},Dt p H v d->RelV v u -> ∃as,Reads s.heap u d as
 |_,_,_,.ax,r=>by cases r;exact⟨_,.none⟩
 |_,_,_,.bl b,r=>by cases r;exact⟨_,.bool b⟩
 |_,_,_,.int i,r=>by obtain⟨t,rfl⟩:=r;exact⟨_,.int i t⟩
 |_,_,_,.str x,r=>by obtain⟨t,rfl⟩:=r;exact⟨_,.str x t⟩
 |_,_,_,.lst (a:=a) (xs:=xs) _ e rs,r=>by
  cases r
  obtain⟨_,its,n,rv,at_⟩:=(show br X.prog X.w H s.heap a (.lst xs) from I.ay a _ e);obtain⟨as,ra⟩:=bu.reads I rs rv;exact⟨_,.list at_ rfl rfl ra⟩
 |_,_,_,.tup (a:=a) (xs:=xs) _ e rs,r=>by
  cases r
  obtain⟨_,its,rv,ob,at_,hc,n,hd,_⟩:=(show br X.prog X.w H s.heap a (.tup xs) from I.ay a _ e);obtain⟨as,ra⟩:=bu.reads I rs rv;exact⟨_,.tuple at_ hc hd ra⟩
 |_,_,_,.iF (a:=a) _ e,r=>by
  cases r
  obtain⟨_,_,vs,kv,o,es,ep,g1,g2,g3,_,g4,_⟩:=(show br X.prog X.w H s.heap a (.dK []) from I.ay a _ e);cases kv
  have e0:es.toList = []:=by cases h:es.toList with
   |nil=>rfl
   |cons a b=>rw[h]at g4;cases g4
  exact⟨_,.dict (kvs:= []) g1 g2.1 g3 (by rw[e0];exact .nil) (by rw[e0];exact .nil)⟩
theorem bu.reads (I:Inv X pins σ H s):∀ {vs:List V}{ds:List PyData}{us:List Value},bu p H vs ds->Vals vs us -> ∃as,ReadsAll s.heap us ds as
 |_,_,_,.nil,r=>by cases r;exact⟨_,.nil⟩
 |_,_,_,.cons r rs,rv=>by
  cases rv with
  |cons q qs =>
   obtain⟨as,h1⟩:=Dt.reads I r q;obtain⟨bs,h2⟩:=bu.reads I rs qs;exact⟨_,.cons h1 h2⟩
end
mutual
theorem Dt.xn (I:Inv X pins σ H s):∀ {v:V}{d:PyData}{u:Value},Dt p H v d->RelV v u->d.showable=true->d.shown.length<=sizeLine -> ∃bs,ReadAtMost s.heap d.depth bs/\ReprK X.prog X.w bs s.heap d.depth u d.shown
 |_,_,_,.ax,r,_,_=>by cases r;exact⟨[],(fun _ h=>nomatch h),by simp only[PyData.shown];exact .of_is ReprIs.none _ _ _⟩
 |_,_,_,.bl b,r,_,_=>by cases r;exact⟨[],(fun _ h=>nomatch h),by simp only[PyData.shown];exact .of_is (ReprIs.bool b) _ _ _⟩
 |_,_,_,.int i,r,hs,_=>by obtain⟨t,rfl⟩:=r;exact⟨[],(fun _ h=>nomatch h),by simp only[PyData.shown];exact .of_is (ReprIs.int t (by simpa [PyData.showable] using hs)) _ _ _⟩
 |_,_,_,.str x,r,_,hz=>by obtain⟨t,rfl⟩:=r;exact⟨[],(fun _ h=>nomatch h),by simp only[PyData.shown];exact .of_is (ReprIs.str x t (by simpa only [PyData.shown] using hz)) _ _ _⟩
 |_,_,_,.lst (a:=a) (xs:=xs) (ds:=ds) n e rs,r,hs,hz=>by
  cases r
  obtain⟨_,its,n',rv,h1⟩:=(show br X.prog X.w H s.heap a (.lst xs) from I.ay a _ e);have A1:(listText (PyData.shownAll ds)).length<=sizeLine:=by simpa only [PyData.shown] using hz
  obtain⟨bs,hb,hk⟩:=bu.xn I rs rv (by simpa [PyData.showable] using hs) (fun t ht=>cK (listText_mem_le ht) A1)
  obtain⟨as,ra⟩:=bu.reads I rs rv;have r:Reads s.heap (.ref a) (.list ds) _:= .list h1 rfl rfl ra;have Gf:a ∉ bs:=not_mem_of_deeper r (by simp only[PyData.depth];omega) hb
  refine⟨a::bs,RJ r (by simp only[PyData.depth];omega) hb,?_⟩
  simp only[PyData.depth,PyData.shown];cases its with
  |nil =>
   cases ra
   simp only[PyData.shownAll,listText_nil];exact ReprK.listEmpty h1 rfl rfl
  |cons x l=>exact ReprK.list h1 rfl rfl Gf (by simpa using hk.length_eq) (fun i y e=>hk.item i y (by simpa using e))
 |_,_,_,.tup (a:=a) (xs:=xs) (ds:=ds) n e rs,r,hs,hz=>by
  cases r
  obtain⟨_,its,rv,ob,h1,h2,n',h3,_⟩:=(show br X.prog X.w H s.heap a (.tup xs) from I.ay a _ e);have A1:(tupleText (PyData.shownAll ds)).length<=sizeLine:=by simpa only [PyData.shown] using hz
  obtain⟨bs,hb,hk⟩:=bu.xn I rs rv (by simpa [PyData.showable] using hs) (fun t ht=>cK (tupleText_mem_le ht) A1)
  obtain⟨as,ra⟩:=bu.reads I rs rv;have r:Reads s.heap (.ref a) (.tuple ds) _:= .tuple h1 h2 h3 ra;have Gf:a ∉ bs:=not_mem_of_deeper r (by simp only[PyData.depth];omega) hb
  refine⟨a::bs,RJ r (by simp only[PyData.depth];omega) hb,?_⟩
  simp only[PyData.depth,PyData.shown];exact ReprK.tuple h1 h2 h3 Gf hk
 |_,_,_,.iF (a:=a) n e,r,hs,hz=>by
  cases r
  obtain⟨as,rd⟩:=Dt.reads I (.iF n e) (rfl:RelV (.ref a) (.ref a));obtain⟨_,ns,vs,kv,o,es,ep,g1,g2,g3,_,g4,_⟩:=(show br X.prog X.w H s.heap a (.dK []) from I.ay a _ e);cases kv
  have e0:es.toList = []:=by cases h:es.toList with
   |nil=>rfl
   |cons a b=>rw[h]at g4;cases g4
  refine⟨a :: [],RJ rd (bX _) (fun _ h=>nomatch h),?_⟩;exact ReprK.dict (as:= []) (d:=0) (ps:= []) g1 g2.1 g3 ns (by simp) (by rw[e0];exact .nil)
theorem bu.xn (I:Inv X pins σ H s):∀ {vs:List V}{ds:List PyData}{us:List Value},bu p H vs ds->Vals vs us->PyData.showableAll ds=true->(∀t∈PyData.shownAll ds,t.length<=sizeLine) ->
  ∃bs,ReadAtMost s.heap (PyData.depthAll ds) bs/\ReprAllK X.prog X.w bs s.heap (PyData.depthAll ds) us (PyData.shownAll ds)
 |_,_,_,.nil,r,_,_=>by cases r;exact⟨[],(fun _ h=>nomatch h),by simp only[PyData.shownAll];exact .nil⟩
 |_,_,_,.cons (d:=d) (ds:=ds) r rs,rv,hs,hz=>by
  cases rv with
  |cons q qs =>
   have jQ:d.showable=true/\PyData.showableAll ds=true:=by simpa [PyData.showableAll] using hs
   obtain⟨b1,jn,k1⟩:=Dt.xn I r q jQ.1 (hz _ (by simp only[PyData.shownAll];exact aV ..))
   obtain⟨b2,xV,k2⟩:=bu.xn I rs qs jQ.2 (fun t ht=>hz t (by simp only[PyData.shownAll];exact bV _ ht))
   refine⟨b1++b2,?_,?_⟩
   ·simp only[PyData.depthAll]
    exact(jn.mono (Nat.le_max_left _ _)).append (xV.mono (Nat.le_max_right _ _))
   ·simp only[PyData.depthAll,PyData.shownAll]
    exact .cons ((k1.more fun b hb=>pC _ hb).level_le (Nat.le_max_left _ _)) (k2.more_le (fun b hb=>fq _ hb) (Nat.le_max_right _ _))
end
end
end L2
namespace L2
open PySem PySem.Spec PyProof.Rows PySem.W HT
theorem JJ (hc:X.calm=true):eV X (.type "dict") (fun xs H Q=>∃t vs kvs,xs = [.ref t]/\H t=some (.tup vs)/\lT H vs kvs/\(kvs.map (·.1)).Nodup /\ ∀d,H d=none->Q (.ref d) (upd H d (.dK (i9 kvs)))):=by
 intro pins s σ H xs us Q I r h;obtain⟨t,vs,kvs,rfl,ht,pr,nd,q⟩:=h;obtain⟨u,rfl,ru⟩:=vals1 r;cases ru
 obtain⟨hz,its,rv,⟨cl,dd,dt,sl⟩,ho,gZ,n,vg,mi⟩:=(show br X.prog X.w H s.heap t (.tup vs) from I.ay t _ ht);obtain rfl:cl = .type "tuple" :=gZ;obtain rfl:dd=none:=mi;obtain rfl:dt = .seq its.toArray n:=vg;have kI:vs.length=kvs.length:=mx pr;have ji:=rv.length;have pairs:∀ (i:Nat) p,kvs[i]? = some p -> ∃a x y,its.toArray[i]? = some (.ref a)/\IsTup s.heap a #[x,y]/\RelV (.str p.1) x/\RelV p.2 y:=by
  intro i p hp;have hi:i < vs.length:=by rw[kI];exact(cu.mp hp).1
  obtain⟨p',jU,a,ey,ha⟩:=oq pr (show vs[i]? = some vs[i] from b4 hi);rw[hp]at jU;cases jU;obtain⟨u,hu,ru⟩:=rv.get (show vs[i]? = some (V.ref a) by rw[b4 hi,ey])
  cases ru
  obtain⟨i2,r2,t2,_⟩:=I.tuple (aN.of ha);obtain⟨x,y,rfl,rx,ry⟩:=r2.two;exact⟨a,x,y,by simpa using hu,t2,rx,ry⟩
 have ch:∀i:Fin kvs.length,∃y,∃a x,its.toArray[i.1]? = some (.ref a)/\IsTup s.heap a #[x,y]/\RelV (.str kvs[i].1) x/\RelV kvs[i].2 y:=fun i=>by
  obtain⟨a,x,y,h1,h2,h3,h4⟩:=pairs i.1 kvs[i] (b4 i.2);exact⟨y,a,x,h1,h2,h3,h4⟩
 obtain⟨ys,A2,O1⟩:∃ys:List Value,ys.length=kvs.length /\ ∀ (i:Nat) (hi:i < kvs.length),∃y,ys[i]? = some y /\ ∃a x,its.toArray[i]? = some (.ref a)/\IsTup s.heap a #[x,y]/\RelV (.str kvs[i].1) x/\RelV kvs[i].2 y:=
  ⟨List.ofFn fun i=>Classical.choose (ch i),List.length_ofFn,fun i hi=>⟨Classical.choose (ch ⟨i,hi⟩),by simp[List.getElem?_ofFn,hi],ahY (ch ⟨i,hi⟩)⟩⟩
 have kps:((kvs.map fun p=>(Sum.inr p.1:Key)).zip ys).map (·.1)=kvs.map fun p=>(Sum.inr p.1:Key):=by
  rw[List.map_fst_zip];rw[aE];omega
 have O2:((kvs.map fun p=>(Sum.inr p.1:Key)).zip ys).length=kvs.length:=by rw[List.length_zip,aE];omega
 have inj:(kvs.map fun p=>(Sum.inr p.1:Key)).Nodup:=by
  have:(kvs.map fun p=>(Sum.inr p.1:Key))=(kvs.map (·.1)).map Sum.inr:=by rw[pI];rfl
  rw[this,ahZ,BZ];exact(ahZ.mp nd).imp fun h z=>h (vF z)
 refine R3 (I.ok.hd hc) ((kvs.map fun p=>(Sum.inr p.1:Key)).zip ys) (by rw[kps];exact inj) (by rw[O2];omega) (by rw[cD,O2];omega) ho (fun i p hp=>?_) fun d h' tk dl dd kp=>?_
 ·obtain⟨h1,h2⟩:=ah0.mp hp
  rw[f6]at h1;obtain⟨kv,hk,ek⟩:=iV.mp h1;obtain⟨hi,rfl⟩:=cu.mp hk;obtain⟨y,hy,a,x,g1,g2,g3,g4⟩:=O1 i hi;rw[hy]at h2;cases h2
  exact⟨a,x,g1,g2,by rw[<-ek];exact um (k:=Sum.inr kvs[i].1) g3⟩
 ·have big:=I.big
  refine⟨.ref d,_,I.laid (a:=d) (o:= .dK (i9 kvs)) (t':=tk) kp dl (Mo (by unfold i9;rw[aE];omega) (pA.mpr (aH (bT (gx big dl)))) ?_ dd),rfl,q d (I.ay.fresh dl)⟩
  exact LO kvs ys A2 fun i hi=>by
   obtain⟨y,hy,a,x,_,_,_,g4⟩:=O1 i hi;exact⟨y,hy,g4⟩
end L2
namespace L2
open PySem PySem.W
end L2
namespace L2
open PySem PySem.W PySem.Calls PyProof.Rows
structure lZ (n:Nat) (lt:Nat->Nat->Bool):Prop where
 tr:∀i j k,i < n->j < n->k < n->lt i j=true->lt j k=true->lt i k=true
 F8:∀i j,i < n->j < n->i≠j->lt i j=false->lt j i=true
def dJ {α:Type} (n:Nat) (lt:Nat->Nat->Bool) (φ:α->Prop):KasT α->Prop
 |.ret a=>φ a
 |.ask i j k=>i < n/\j < n/\i≠j/\dJ n lt φ (k (lt i j))
section
variable{α β:Type}{lt:Nat->Nat->Bool}
theorem dJ.bind {φ:α->Prop}{ψ:β->Prop}{f:α->KasT β} (g:∀a,φ a->dJ n lt ψ (f a)):∀ {t:KasT α},dJ n lt φ t->dJ n lt ψ (t.bind f)
 |.ret a,h=>g a h
 |.ask _ _ _,h=>⟨h.1,h.2.1,h.2.2.1,dJ.bind g h.2.2.2⟩
theorem dJ.wp {φ:α->Prop}{cmp:Nat->Nat->(Bool->Shared->Prop)->Shared->Prop}{Q:α->Shared->Prop}{s:Shared} (hc:∀i j C,i < n->j < n->i≠j->C (lt i j) s->cmp i j C s):∀ {t:KasT α},dJ n lt φ t->(∀a,φ a->Q a s)->t.kasWp cmp Q s
 |.ret a,h,q=>q a h
 |.ask _ _ _,h,q=>hc _ _ _ h.1 h.2.1 h.2.2.1 (dJ.wp hc h.2.2.2 q)
theorem dJ.mono {φ ψ:α->Prop} (g:∀a,φ a->ψ a):∀ {t:KasT α},dJ n lt φ t->dJ n lt ψ t
 |.ret a,h=>g a h
 |.ask _ _ _,h=>⟨h.1,h.2.1,h.2.2.1,dJ.mono g h.2.2.2⟩
theorem DZ {p:Array Nat} (O:lZ n lt) (h:Pm n p) (hi:i < n) (hj:j < n) (e:i≠j) (f:lt (p.getD i 0) (p.getD j 0)=false):lt (p.getD j 0) (p.getD i 0)=true:=
 O.F8 _ _ (h.lt (by omega) i) (h.lt (by omega) j) (h.ne hi hj e) f
theorem Uj {p:Array Nat} (O:lZ n lt) (h:Pm n p) (h1:1<=m) (hm:m < n) (a:gm lt p m) (l:lt (p.getD (m - 1) 0) (p.getD m 0)=true):gm lt p (m+1):=fun i j dw hj=>by
 by_cases e:j < m
 ·exact a i j dw e
 ·obtain rfl:j=m:=by omega
  by_cases e2:i=j - 1
  ·rw[e2];exact l
  ·exact O.tr _ _ _ (h.lt (by omega) _) (h.lt (by omega) _) (h.lt (by omega) _) (a i (j - 1) (by omega) (by omega)) l
theorem Uk {p:Array Nat} (O:lZ n lt) (h:Pm n p) (h1:1<=m) (hm:m < n) (a:jo lt p m) (l:lt (p.getD m 0) (p.getD (m - 1) 0)=true):jo lt p (m+1):=fun i j dw hj=>by
 by_cases e:j < m
 ·exact a i j dw e
 ·obtain rfl:j=m:=by omega
  by_cases e2:i=j - 1
  ·rw[e2];exact l
  ·exact O.tr _ _ _ (h.lt (by omega) _) (h.lt (by omega) _) (h.lt (by omega) _) l (a i (j - 1) (by omega) (by omega))
theorem CZ {p:Array Nat} (O:lZ n lt) (h:Pm n p):∀ (f m:Nat),1<=m->m+f<=n->gm lt p m->dJ n lt (fun r=>m<=r/\r<=m+f/\gm lt p r/\(r < m+f->lt (p.getD r 0) (p.getD (r - 1) 0)=true)) (kas_asc p f m)
 |0,m,h1,h2,a=>⟨aK _,aK _,a,fun z=>absurd z (by omega)⟩
 |f+1,m,h1,h2,a=>⟨h.lt (by omega) _,h.lt (by omega) _,h.ne (by omega) (by omega) (by omega),by
  cases c:lt (p.getD m 0) (p.getD (m - 1) 0) with
  |true=>exact⟨aK _,by omega,a,fun _=>c⟩
  |false =>
   refine dJ.mono (fun r hr=>?_) (CZ O h f (m+1) (by omega) (by omega) (Uj O h h1 (by omega) a (DZ O h (by omega) (by omega) (by omega) c)))
   exact⟨by omega,by omega,hr.2.2.1,fun z=>hr.2.2.2 (by omega)⟩⟩
theorem Kt {p:Array Nat} (O:lZ n lt) (h:Pm n p):∀ (f m:Nat),1<=m->m+f<=n->jo lt p m->dJ n lt (fun r:Array Nat×Nat×Nat=>r.1=p/\r.2.2=0/\m<=r.2.1/\r.2.1<=m+f/\jo lt p r.2.1) (kas_desc f p m 0)
 |0,m,h1,h2,a=>⟨rfl,rfl,aK _,aK _,a⟩
 |f+1,m,h1,h2,a=>⟨h.lt (by omega) _,h.lt (by omega) _,h.ne (by omega) (by omega) (by omega),by
  cases c:lt (p.getD m 0) (p.getD (m - 1) 0) with
  |true =>
   show dJ n lt _ (if 0 > 0 then kas_desc f (kas_rev p (m - (0+1)) m) (m+1) 0 else kas_desc f p (m+1) 0);rw[ao (by omega)]
   refine dJ.mono (fun r hr=>?_) (Kt O h f (m+1) (by omega) (by omega) (Uk O h h1 (by omega) a c))
   exact⟨hr.1,hr.2.1,by omega,by omega,hr.2.2.2.2⟩
  |false =>
   refine⟨h.lt (by omega) _,h.lt (by omega) _,h.ne (by omega) (by omega) (by omega),?_⟩
   rw[DZ O h (by omega) (by omega) (by omega) c]
   exact⟨rfl,rfl,aK _,yX _ _,a⟩⟩
def Ac (n:Nat) (lt:Nat->Nat->Bool) (r:Nat×Array Nat):Prop:=Pm n r.2/\gm lt r.2 r.1/\1<=r.1/\r.1<=n
theorem Th {p:Array Nat} (O:lZ n lt) (h:Pm n p) (h1:1<=m) (h2:m<=n) (a:jo lt p m):dJ n lt (Ac n lt) (kas_tail3 m n p):=
 dJ.bind (ψ:=Ac n lt) (f:=fun k=>.ret (k,kas_rev p 0 m)) (fun r hr=>(show Ac n lt (r,kas_rev p 0 m) from⟨h.rev _ _,hr.2.2.1,cK h1 hr.1,by have:=hr.2.1;show r<=n;omega⟩)) (CZ O (h.rev 0 m) (n - m) m h1 (by omega) (a.rev (by rw[h.size];exact h2)))
theorem Ti {p:Array Nat} (O:lZ n lt) (hn:2<=n) (h:Pm n p):dJ n lt (Ac n lt) (kas_count n p):=
 (CZ O h (n - 1) 1 (aK _) (by omega) (fun i j dw hj=>absurd hj (by omega))).bind fun m hm=>by
  obtain⟨m1,m2,ma,ml⟩:=hm;show dJ n lt _ (if (m==n)=true then _ else if m > 1 then _ else _);split
  ·rename_i e
   have:m=n:=by simpa using e
   subst this;exact⟨h,ma,m1,aK _⟩
  ·rename_i e
   have ne:m≠n:=by simpa using e
   split
   ·rename_i g
    refine⟨h.lt (by omega) _,h.lt (by omega) _,h.ne (by omega) (by omega) (by omega),?_⟩
    rw[ma 0 (m - 1) (by omega) (by omega)]
    exact⟨h,ma,m1,by omega⟩
   ·obtain rfl:m=1:=by omega
    have l:=ml (by omega)
    have d2:jo lt p 2:=fun i j dw hj=>by
     obtain rfl:j=1:=by omega
     obtain rfl:i=0:=by omega
     exact l
    refine dJ.bind (fun r hr=>?_) (Kt O h (n - (1+1)) (1+1) (by omega) (by omega) d2)
    obtain⟨r1,r2,r3,r4,r5⟩:=hr;show dJ n lt _ (if r.2.2 > 0 then _ else _);rw[ao (by omega),r1]
    exact Th O h (by omega) (by omega) r5
theorem Co {p:Array Nat} (O:lZ n lt) (h:Pm n p) {k:Nat} (hk:k < n) (a:gm lt p k):∀ (f l r:Nat),r - l<=f->l<=r->r<=k->(∀i,i < l->lt (p.getD i 0) (p.getD k 0)=true)->(∀i,r<=i->i < k->lt (p.getD k 0) (p.getD i 0)=true) ->
  dJ n lt (fun m=>m<=k/\(∀i,i < m->lt (p.getD i 0) (p.getD k 0)=true) /\ ∀i,m<=i->i < k->lt (p.getD k 0) (p.getD i 0)=true) (kas_place p k f l r)
 |0,l,r,hf,hl,hr,lo,hi=>by
  obtain rfl:l=r:=by omega
  exact⟨hr,lo,hi⟩
 |f+1,l,r,hf,hl,hr,lo,hi=>by
  show dJ n lt _ (if l ≥ r then _ else _);split
  ·obtain rfl:l=r:=by omega
   exact⟨hr,lo,hi⟩
  ·refine⟨h.lt (by omega) _,h.lt (by omega) _,h.ne (by omega) (by omega) (by omega),?_⟩
   cases c:lt (p.getD k 0) (p.getD ((l+r) / 2) 0) with
   |true =>
    refine Co O h hk a f l ((l+r) / 2) (by omega) (by omega) (by omega) lo fun i sN F9=>?_
    by_cases e:i=(l+r) / 2
    ·rw[e];exact c
    ·exact O.tr _ _ _ (h.lt (by omega) _) (h.lt (by omega) _) (h.lt (by omega) _) c (a _ i (by omega) F9)
   |false =>
    have c2:=DZ O h (i:=k) (j:=(l+r) / 2) hk (by omega) (by omega) c
    refine Co O h hk a f ((l+r) / 2+1) r (by omega) (by omega) hr (fun i sN=>?_) hi
    by_cases e:i=(l+r) / 2
    ·rw[e];exact c2
    ·exact O.tr _ _ _ (h.lt (by omega) _) (h.lt (by omega) _) (h.lt (by omega) _) (a i _ (by omega) (by omega)) c2
theorem Lc (O:lZ n lt):∀ (f:Nat) (p:Array Nat) (k:Nat),k+f=n->Pm n p->gm lt p k->dJ n lt (fun r=>Pm n r/\gm lt r n) (kas_bin f p k)
 |0,p,k,e,h,a=>by
  obtain rfl:k=n:=by omega
  exact⟨h,a⟩
 |f+1,p,k,e,h,a=>(Co O h (by omega) a k 0 k (by omega) (bX _) (aK _) (fun i hi=>absurd hi (BX _)) (fun i h1 h2=>absurd h2 (by omega))).bind fun l hl=>by
  obtain⟨l1,l2,l3⟩:=hl;refine Lc O f _ _ (by omega) (h.OW _ _) fun i j dw hj=>?_
  have hsz:=h.size;rw[zy (by omega) l1 i,zy (by omega) l1 j]
  by_cases i1:i=l
  ·rw[au i1,ao (by omega),au (by omega)]
   exact l3 _ (by omega) (by omega)
  ·rw[ao i1]
   by_cases i2:l < i/\i<=k
   ·rw[au i2,ao (by omega),au (by omega)]
    exact a _ _ (by omega) (by omega)
   ·rw[ao i2]
    by_cases j1:j=l
    ·rw[au j1];exact l2 i (by omega)
    ·rw[ao j1]
     by_cases j2:l < j/\j<=k
     ·rw[au j2]
      exact a _ _ (by omega) (by omega)
     ·rw[ao j2]
      exact a _ _ dw (by omega)
theorem Ul (O:lZ n lt) (hn:2<=n):dJ n lt (fun r=>Pm n r/\gm lt r n) (kas_sort n):=
 (Ti O hn (yY _)).bind fun r hr=>by
  obtain⟨r1,r2,r3,r4⟩:=hr;show dJ n lt _ (if r.1 < n then _ else _);split
  ·refine Lc O _ _ _ (by omega) r1 ?_
   rw[show max r.1 1=r.1 by omega];exact r2
  ·obtain e:r.1=n:=by omega
   rw[e]at r2;exact⟨r1,r2⟩
end
end L2
namespace L2
open PySem PySem.W PySem.Calls PyProof.Rows HS
def iG:List Str->List Str->Bool
 |a::as,b::bs=>if a=b then iG as bs else iQ a b
 |_,_=>false
theorem Mv:∀ {a b c:List Str},a.length=b.length->b.length=c.length->iG a b=true->iG b c=true->iG a c=true
 |[],_,_,h1,_,h,_=>by unfold iG at h;cases h
 |a::as,[],_,h1,_,_,_=>by simp at h1
 |a::as,b::bs,[],_,h2,_,_=>by simp at h2
 |a::as,b::bs,c::cs,h1,h2,h3,h4=>by
  unfold iG at h3 h4 ⊢
  by_cases e1:a=b
  ·rw[au e1]at h3
   subst e1
   by_cases e2:a=c
   ·rw[au e2]at h4 ⊢;exact Mv (by simpa using h1) (by simpa using h2) h3 h4
   ·rw[ao e2]at h4 ⊢;exact h4
  ·rw[ao e1]at h3
   by_cases e2:b=c
   ·subst e2
    rw[ao e1];exact h3
   ·rw[ao e2]at h4
    have t:=Mt h3 h4
    by_cases e3:a=c
    ·subst e3;rw[CY]at t;cases t
    ·rw[ao e3];exact t
theorem LW:∀ {a b:List Str},a.length=b.length->a≠b->iG a b=false->iG b a=true
 |[],[],_,h,_=>absurd rfl h
 |[],b::bs,h,_,_=>by simp at h
 |a::as,[],h,_,_=>by simp at h
 |a::as,b::bs,h1,h2,h3=>by
  unfold iG at h3 ⊢
  by_cases e:a=b
  ·subst e
   rw[au rfl]at h3 ⊢;exact LW (by simpa using h1) (fun z=>h2 (by rw[z])) h3
  ·rw[ao e]at h3;rw[ao (aH e)]
   exact LU e h3
theorem Wg (a b:Str):iG [a] [b]=iQ a b:=by
 unfold iG
 by_cases e:a=b
 ·rw[au e,e,CY];rfl
 ·rw[ao e]
section
variable{E:Value->Shared->Prop}
theorem Um {a b:Str}{t u:Tok}{c:Bool}{Q:Bool->Shared->Prop} (h:Q (iQ a b) s):wpAny (model P w) A (oneLt' c (.str a t) (.str b u)) Q E s:=by
 cases c with
 |true=>exact oneLt_str h
 |false =>
  rw[oneLt'_eq];simp only[BK,tm];exact ag (PyProof.Rows.lt_str (my h))
theorem Ku {b fin:Bool}{Q:Bool->Shared->Prop}:∀ {as bs:List Str}{us vs:List Value}{ru rv:List Value} (i:Nat),StrsAre us as->StrsAre vs bs->as.length=bs.length->as≠bs->Q (iG as bs) s->KatLex P w A b fin Q ((us++ru).zip (vs++rv)) i s
 |[],[],_,_,_,_,_,_,_,_,h,_=>absurd rfl h
 |[],_::_,_,_,_,_,_,_,_,h,_,_=>by simp at h
 |_::_,[],_,_,_,_,_,_,_,h,_,_=>by simp at h
 |a::as,b'::bs,_,_,ru,rv,i,.cons _ t h1,.cons _ u h2,hl,bS,q=>by
  unfold iG at q;refine kat_cons (Q0 ?_)
  by_cases e:a=b'
  ·rw[cZ e]
   rw[au e]at q;exact kat_yes (Ku (i+1) h1 h2 (by simpa using hl) (fun z=>bS (by rw[e,z])) q)
  ·rw[gv e]
   rw[ao e]at q;exact kat_no (Um q)
end
def wO (H:Hp) (m:Nat) (vs:List V) (kvs:List (List Str×List V)):Prop:=Paired (fun y p=>∃a,y=V.ref a/\H a=some (.tup (p.1.map V.str++p.2))/\p.1.length=m) vs kvs
theorem JK {H:Hp}:∀ {ks:List Str}{rest:List V}{its:List Value},Vals (ks.map V.str++rest) its -> ∃us ru,its=us++ru/\StrsAre us ks
 |[],rest,its,h=>⟨[],its,rfl,.nil⟩
 |k::ks,rest,its,h=>by
  cases h with
  |cons r t =>
   obtain⟨tk,rfl⟩:=r;obtain⟨us,ru,e,st⟩:=JK (H:=H) t;exact⟨.str k tk::us,ru,by rw[e];rfl,.cons k tk st⟩
theorem Sa:eV X (.builtin "sorted") (fun xs H Q=>∃ (p:Addr) (ys:List V) (kvs:List (List Str×List V)) (m:Nat),xs = [.ref p]/\(aj X.K H p ys\/aN X.K H p ys)/\wO H m ys kvs/\1<=m/\(kvs.map (·.1)).Nodup/\ys.length<=63 /\
  ∀D eW eg,H D=none->eW.Perm ys->wO H m eW eg->eg.Perm kvs->(eg.map (·.1)).Pairwise (fun a b=>iG a b=true)->Q (.ref D) (upd H D (.lst eW))):=by
 intro pins s σ H xs us Q I r ⟨p,ys,kvs,mm,ex,hq,pr,hm1,nd,OZ,q⟩;subst ex;obtain⟨u,rfl,rx⟩:=vals1 r;cases rx
 obtain⟨its,rv,hz,col⟩:∃its:List Value,Vals ys its/\ys.length<=sizeLine /\ ∀ (A:Around) (E:Value->Shared->Prop) (Q':List Value->Shared->Prop),(∀h',(∀b o,s.heap.get? b=some o->h'.get? b=some o)->Q' its { s with heap:=h' })->wpAny (model X.prog X.w) A (collect (.ref p)) Q' E s:=by
  rcases hq with hq|hq
  ·obtain⟨its,rv,pl,hz⟩:=I.list hq
   have:=rv.length;refine⟨its,rv,hz,fun A E Q' q'=>collect_list pl.isList (q' _ fun b o e=>?_) (by rw[aI];omega)⟩
   exact(jX _ _ (BH (aW e))).trans (bU _ e)
  ·obtain⟨its,rv,pl,hz⟩:=I.tuple hq
   have:=rv.length;exact⟨its,rv,hz,fun A E Q' q'=>SA pl (by rw[aI];omega) q'⟩
 have kI:ys.length=kvs.length:=mx pr;have ji:=rv.length;have at_:∀ (i:Nat),i < its.length -> ∃ (ks:List Str) (a:Addr) (tu ru:List Value),(kvs.map (·.1))[i]? = some ks/\its[i]? = some (.ref a)/\a≠X.env.locals/\IsTup s.heap a (tu++ru).toArray/\StrsAre tu ks/\ks.length=mm:=by
  intro i hi;have vj:i < ys.length:=by omega
  obtain⟨p',jU,a,ey,ha,hlm⟩:=oq pr (show ys[i]? = some ys[i] from b4 vj);obtain⟨u,hu,ru⟩:=rv.get (show ys[i]? = some (V.ref a) by rw[b4 vj,ey])
  cases ru
  obtain⟨i2,r2,t2,_⟩:=I.tuple (aN.of ha);obtain⟨tu,ru,e,st⟩:=JK (H:=H) r2;rw[e]at t2;exact⟨p'.1,a,tu,ru,by rw[f6,jU];rfl,hu,(fun z=>by rw[z,I.free]at ha;cases ha),t2,st,hlm⟩
 obtain⟨m,hm,_⟩:=id I.loc
 let lt:Nat->Nat->Bool:=fun i j=>iG ((kvs.map (·.1)).getD i []) ((kvs.map (·.1)).getD j [])
 have kl:(kvs.map (·.1)).length=its.length:=by rw[aE];omega
 have uE:∀i,i < its.length->((kvs.map (·.1)).getD i []).length=mm:=fun i hi=>by
  obtain⟨ks,_,_,_,h1,_,_,_,_,h2⟩:=at_ i hi;rw[eO,h1];exact h2
 have O3:∀i j,i < its.length->j < its.length->i≠j->(kvs.map (·.1)).getD i []≠(kvs.map (·.1)).getD j []:=fun i j hi hj dw e=>dw ((RI (by omega) nd).mp (by
  rw[eO,eO,b4 (by omega),b4 (by omega)]at e
  rw[b4 (by omega),b4 (by omega)]
  exact eY some e))
 have O:lZ its.length lt:=⟨fun i j k hi hj hk h1 h2=>Mv ((uE i hi).trans (uE j hj).symm) ((uE j hj).trans (uE k hk).symm) h1 h2,fun i j hi hj dw f=>LW ((uE i hi).trans (uE j hj).symm) (O3 i j hi hj dw) f⟩;have fin:∀ (h':Heap) (D:Addr) (c:Nat) (pa:Array Nat),(∀b o,b≠X.env.locals->s.heap.get? b=some o->h'.get? b=some o)->h'.Ns X.env.locals m->(∀b o,s.heap.get? b=some o->b≠D)->Pm its.length pa->(pa.toList.Pairwise fun i j=>lt i j=true) ->
   h'.get? D=some (listOf (pa.toList.map fun i=>its.getD i Value.none).toArray c) -> ∃v H',Inv X pins σ H' { s with heap:=h' }/\RelV v (.ref D)/\Q v H':=by
  intro h' D c pa k jk hD hp Ga new;have yh:∀i∈pa.toList,i < its.length:=fun i hi=>nU.mp (hp.mem_iff.mp hi);have py:(pa.toList.map fun i=>ys.getD i V.ax).Perm ys:=zO V.ax (by rw[ji];exact hp)
  have sO:Pm kvs.length pa:=by rw[<-kI,ji];exact hp
  have pk:(pa.toList.map fun i=>kvs.getD i (([],[]):List Str×List V)).Perm kvs:=zO _ sO;have pp:wO H mm (pa.toList.map fun i=>ys.getD i V.ax) (pa.toList.map fun i=>kvs.getD i ([],[])):=Cn fun i hi=>Kr pr V.ax ([],[]) i (by have:=yh i hi;omega)
  have ek:(pa.toList.map fun i=>kvs.getD i ([],[])).map (·.1)=pa.toList.map fun i=>(kvs.map (·.1)).getD i []:=by
   rw[pI];refine BY fun i hi=>?_;have:i < kvs.length:=by have:=yh i hi;omega
   show(kvs.getD i ([],[])).1=_;rw[eO,eO,f6,b4 this];rfl
  have rel:Vals (pa.toList.map fun i=>ys.getD i V.ax) (pa.toList.map fun i=>its.getD i Value.none):=CB (fun i=>by
   by_cases hi:i < ys.length
   ·obtain⟨u,hu,ru⟩:=rv.get (show ys[i]? = some ys[i] from b4 hi)
    rw[eO,eO,hu,b4 hi];exact ru
   ·rw[eO,eO,BW (by omega),BW (by omega)];trivial) pa.toList
  obtain⟨hn,I'⟩:=Inv.sorted (t':=s.toks) I hm jk k hD new rel (by rw[py.length_eq];exact hz)
  refine⟨.ref D,_,I',rfl,q D _ _ hn py pp pk ?_⟩;rw[ek,BZ];exact Ga
 refine ahQ kind_sorted plain_sorted entry_sorted (args_sorted1 _) ?_;unfold Builtin.«sorted»;refine ag (m:=checkCount "sorted" 1 1 _) (aA (ag (col _ _ _ fun h1 k1=>?_)));refine ag (I0 ?_ (by rw[aI];omega))
 have kx:(h1.push (seqObj "list" its.toArray 0)).get? h1.objs.size=some (seqObj "list" its.toArray 0):=eM _ rfl;have hD:∀b o,s.heap.get? b=some o->b≠h1.objs.size:=fun b o e=>bT (aW (k1 b o e));refine ag (eu (vK slot_list_sort ⟨_,kx,rfl⟩ entry_list_sort ?_ (args_list_sort _)));have keep:∀b o,s.heap.get? b=some o->(h1.push (seqObj "list" its.toArray 0)).get? b=some o:=fun b o e=>bU _ (k1 b o e)
 by_cases h2:its.length < 2
 ·refine Kn kx h2 fun c g kg new=>⟨_,rfl,aA ⟨_,rfl,?_⟩⟩
  refine fin g _ c (List.range its.length).toArray (fun b o _ e=>kg b o (hD b o e) (keep b o e)) (hm.at' fun o e=>kg _ o (hD _ o e) (keep _ o e)) hD (yY _) ?_ ?_
  ·show(List.range its.length).Pairwise _
   have:its.length=0\/its.length=1:=by omega
   rcases this with z|z <;> rw[z]
   ·exact List.Pairwise.nil
   ·exact ahU _ _
  ·have:(List.range its.length).map (fun i=>its.getD i Value.none)=its:=by
    apply RC
    ·simp
    ·intro i h1 h2;simp[List.getD,h2]
   show g.get? h1.objs.size=some (listOf ((List.range its.length).map fun i=>its.getD i Value.none).toArray c);rw[this];exact new
 ·have h2:2<=its.length:=by omega
  obtain⟨g0,yg,lz⟩:∃g0:Heap,g0.objs.size=0 /\ ∀b,g0.get? b=none:=⟨{ s.heap with objs:= #[] },rfl,fun b=>vH (bX _)⟩;have F:Fr g0 X.env.locals s.heap m:=⟨hm,fun b o e=>(by rw[lz]at e;cases e),by rw[yg];exact bX _⟩
  have N:=CM (g:=g0) (L:=X.env.locals) (h:=s.heap);have Gg:∃o,s.heap.get? X.env.locals=some o:=let ⟨o,_,_,e,_⟩:=hm;⟨o,e⟩;obtain⟨oL,eL⟩:=Gg;refine kat_list_sort (s:={ s with heap:=h1.push (seqObj "list" its.toArray 0) }) (F.kept keep) (N.grown keep) kx (aH (hD _ _ eL)) (lz _) (fun p hp=>hD p.1 p.2 (y6 hp).2.2) h2 (by omega) fun e1 h' F' N'=>?_
  have kp:∀b o,b≠X.env.locals->s.heap.get? b=some o->h'.get? b=some o:=fun b o n e=>(N' (b,o) (bV _ (tK n (lz b) e))).1;have tk:∀ {a:Addr}{zs:Array Value},a≠X.env.locals->IsTup s.heap a zs->IsTup h' a zs:=fun n ⟨o,ho,r⟩=>⟨o,kp _ o n ho,r⟩;have ft:∀ (vs:List Value),(∀v∈vs,∃a tu ru ks,v=Value.ref a/\IsTup h' a (tu++ru).toArray/\StrsAre tu ks/\ks.length=mm) -> ∃fs,fs.length=vs.length/\KatTups h' vs fs /\ ∀f∈fs,∃k t,f=Value.str k t:=by
   intro vs
   induction vs with
   |nil=>intro _;exact⟨[],rfl,KatTups.nil,fun f hf=>(by cases hf)⟩
   |cons v vs ih =>
    intro hv;obtain⟨fs,f1,f2,f3⟩:=ih fun v' h'=>hv v' (bV _ h');obtain⟨a,tu,ru,ks,rfl,⟨o,ho,hc,n,hd⟩,st,hkm⟩:=hv v aV;cases st with
    |nil=>simp at hkm;omega
    |cons k t r =>
     refine⟨.str k t::fs,by rw[cO,cO,f1],KatTups.cons ho hc hd (by simp) f2,fun f hf=>?_⟩
     rcases aY.mp hf with z|z
     ·exact⟨k,t,z⟩
     ·exact f3 f z
  obtain⟨fs,Gb,sL,gM⟩:=ft its fun v hv=>by
   obtain⟨i,hi,rfl⟩:=BU hv;obtain⟨ks,a,tu,ru,_,g2,g3,g4,g5,g6⟩:=at_ i hi;rw[b4 hi]at g2;exact⟨a,tu,ru,ks,fZ g2,tk g3 g4,g5,g6⟩
  refine kat_kind (T:= .type "str") sL (by omega) (fun f hf=>?_) (by decide) ?_
  ·obtain⟨k,t,rfl⟩:=gM f hf
   exact Looks.of_pure rfl
  ·refine(Ul O h2).wp (fun i j C hi hj dw hC=>?_) fun pa hp=>?_
   ·obtain⟨k,a,tu,ru,g1,g2,g3,g4,g5,g6⟩:=at_ i hi
    obtain⟨k',a',tu',ru',A0,yi,vk,Gd,g5',g6'⟩:=at_ j hj;unfold kas_ask;rw[eO,eO,g2,yi];have ei:(kvs.map (·.1)).getD i []=k:=by rw[eO,g1];rfl
    have ej:(kvs.map (·.1)).getD j []=k':=by rw[eO,A0];rfl
    have el:lt i j=iG k k':=by show iG ((kvs.map (·.1)).getD i []) ((kvs.map (·.1)).getD j [])=_;rw[ei,ej]
    have ne:=O3 i j hi hj dw;rw[ei,ej]at ne;rw[el]at hC;obtain⟨ox,hx,_,nx,dx⟩:=tk g3 g4;obtain⟨oy,hy,_,ny,dy⟩:=tk vk Gd;exact kat_lt hx dx hy dy (Ku 0 g5 g5' (g6.trans g6'.symm) ne hC)
   ·refine KasFin.intro F' N' (UpdF.head fun p hp=>?_) fun iP c Ge yj=>?_
    ·exact hD p.1 p.2 (y6 hp).2.2
    ·refine⟨_,rfl,aA ⟨_,rfl,?_⟩⟩
     exact fin iP _ c pa (fun b o n e=>(yj (b,o) (bV _ (tK n (lz b) e))).1) Ge.ns hD hp.1 (Mu hp.1.size hp.2) (yj _ aV).1
end L2
namespace HS
open PySem PySem.Spec PyProof.Rows PySem.W
end HS
namespace L2
open PySem PySem.Spec PyProof.Rows PySem.W HS
end L2
namespace L2
open PySem PySem.W PySem.Spec PyProof.Rows
end L2
namespace L2
open PySem PySem.W
end L2
namespace L2
open PySem PySem.W PySem.Spec PyProof.Rows
end L2
namespace HT
open PySem PyProof.Rows PySem.W
open PySem.AutoSeq1 (wpAny_loadPart')
end HT
namespace L2
open PySem PySem.Spec PyProof.Rows PySem.W HT
theorem zf (x:h.IsListIter it t i) (k:∀o,h.get? it=some o->g.get? it=some o):g.IsListIter it t i:=let ⟨o,e,r⟩:=x;⟨o,k o e,r⟩
end L2
namespace L2
open PySem PySem.Spec PyProof.Rows PySem.W
def gf (h:Heap) (a:Addr) (v:Value):Prop:= ∃o vs,h.get? a=some o/\o.data = .fields vs/\vs[2]? = some v
theorem gf.keep {v:Value} (l:gf h a v) (k:∀o,h.get? a=some o->h'.get? a=some o):gf h' a v:=let ⟨o,vs,e,r⟩:=l;⟨o,vs,k o e,r⟩
theorem gf.lt {v:Value} (l:gf h a v):a < h.objs.size:=let ⟨_,_,e,_⟩:=l;aW e
def iy (h:Heap) (x:Option Value):Prop:=x=none \/ ∃a,x=some (.ref a)/\(gf h a .none \/ ∃c,gf h a (.ref c)/\c≠a/\gf h c .none)
theorem iy.keep {x:Option Value} (t:iy h x) (k:∀b v,gf h b v->gf h' b v):iy h' x:=by
 rcases t with rfl|⟨a,rfl,l|⟨c,l,n,m⟩⟩
 ·exact .inl rfl
 ·exact .inr ⟨a,rfl,.inl (k _ _ l)⟩
 ·exact .inr ⟨a,rfl,.inr ⟨c,k _ _ l,n,k _ _ m⟩⟩
section
variable{E:Value->Shared->Prop}{α:Type}
theorem Tj {e:Addr}{o:Obj}{vs:Array Value}{Q:α->Shared->Prop} (t:iy s.heap A.handled) (eo:s.heap.get? e=some o) (ed:o.data = .fields vs) (e2:2 < vs.size) (new:∀a,A.handled=some (.ref a)->a≠e /\ ¬ gf s.heap a (.ref e))
  (q:∀h',(∀b,b≠e->h'.get? b=s.heap.get? b)->(∃o',h'.get? e=some o'/\o'.cls=o.cls)->E (.ref e) { s with heap:=h' }):wpAny (model P w) A (raiseNew (.ref e):Sem α) Q E s:=by
 unfold raiseNew;refine ag (wpAny_handled ?_);have fin:∀a,wpAny (model P w) A (do updateField e 2 (.ref a);(throw (Value.ref e):Sem α)) Q E s:=fun a=>by
  refine ag (show wpAny _ _ (setField (.ref e) 2 (.ref a)) _ _ _ from vN eo ed e2 (yV (q _ (fun b hb=>jX _ _ (aH hb)) ⟨_,qK _ eo (Obj.isFreed_of_fields (Rz ed _)),Obj.cls_mapFields ..⟩)))
 rcases t with t|⟨a,t,l⟩
 ·rw[t]
  exact ag (aA (yV (q s.heap (fun b _=>rfl) ⟨o,eo,rfl⟩)))
 ·obtain⟨nae,nlk⟩:=new a t
  rw[t];show wpAny _ _ (if (Value.ref a != Value.ref e)=true then _ else _) _ _ _;rw[au (show(Value.ref a != Value.ref e)=true by simp;exact nae)]
  refine ag (eu (IY (lJ B' ?_)));unfold Builtin.«proto.unchain»;rcases l with⟨oa,va,ha,da,xa⟩|⟨c,⟨oa,va,ha,da,xa⟩,nca,oc,vc,hc,dc,xc⟩
  ·refine ag (gQ ha da xa ?_)
   rw[au (show(Value.none==Value.none)=true by decide)]
   refine ag (aA (aA ?_));exact fin a
  ·refine ag (gQ ha da xa ?_)
   have nce:c≠e:=fun z=>nlk ⟨oa,va,ha,da,by rw[xa,z]⟩
   rw[ao (show ¬ (Value.ref c==Value.none)=true from cX)];rw[ao (show ¬ (Value.ref c==Value.ref e)=true by simp;exact nce),ao (show ¬ (Value.ref c==Value.ref a)=true by simp;exact nca)]
   refine ag (aA (aA ⟨II _ (by decide +kernel),lJ B' ?_⟩))
   unfold Builtin.«proto.unchain»;refine ag (gQ hc dc xc ?_);rw[au (show(Value.none==Value.none)=true by decide)]
   refine ag (aA (aA ?_));exact fin a
theorem Kv {Q:α->Shared->Prop} (t:iy s.heap A.handled) (q:∀h' e,(∀b o,s.heap.get? b=some o->h'.get? b=some o)->(∃o,h'.get? e=some o/\o.cls = .type "StopIteration")->E (.ref e) { s with heap:=h' }) :
  wpAny (model P w) A (newExc (.type "StopIteration") [] >>= fun e=>(raiseNew e:Sem α)) Q E s:=by
 refine ag ?_;simp only[newExc,newTuple];refine ag (qG ?_ (by size_fits))
 refine ag (m:=firstArgMember _ _) (wpAny_of_eq (a:=Value.none) (by first|rfl|(simp only[firstArgMember];rfl)) ?_)
 refine qG ?_ (by size_fits)
 generalize eh:s.heap.push _=h1;have k1:∀b o,s.heap.get? b=some o->h1.get? b=some o:=fun b o z=>by rw[<-eh];exact bU _ z
 generalize eo:(Obj.mk _ _ _ _:Obj)=ob;have k2:∀b o,s.heap.get? b=some o->(h1.push ob).get? b=some o:=fun b o z=>bU _ (k1 b o z);have kx:(h1.push ob).get? h1.objs.size=some ob:=eM _ (by rw[<-eo];rfl)
 have ne:∀b o,s.heap.get? b=some o->b≠h1.objs.size:=fun b o z=>bT (aW (k1 b o z));refine Tj (o:=ob) (vs:=_) (t.keep fun b v l=>l.keep fun o z=>k2 b o z) kx (by rw[<-eo]) (by simp[ownMembersOf]) (fun a ha=>?_) fun h' ot ⟨o',e',c'⟩=>?_
 ·have la:∃v,gf s.heap a v:=by
   rcases t with t|⟨a',t,l⟩
   ·rw[t]at ha;cases ha
   ·rw[t]at ha;cases ha
    rcases l with l|⟨c,l,_⟩
    ·exact⟨_,l⟩
    ·exact⟨_,l⟩
  obtain⟨v,o,vs,e,d,x⟩:=la;refine⟨ne a o e,fun⟨o2,vs2,e2,d2,x2⟩=>?_⟩;rw[k2 a o e]at e2;cases e2;rw[d]at d2;cases d2;rw[x]at x2;rcases t with t|⟨a',t,l⟩
  ·rw[t]at ha;cases ha
  ·rw[t]at ha;cases ha
   rcases l with⟨o3,v3,e3,d3,x3⟩|⟨c,⟨o3,v3,e3,d3,x3⟩,_,lc⟩
   ·rw[e]at e3;cases e3
    rw[d]at d3;cases d3;rw[x]at x3;cases x3;cases x2
   ·rw[e]at e3;cases e3
    rw[d]at d3;cases d3;rw[x]at x3;cases x3;cases x2;exact absurd rfl (bT (gx lc.lt (by rw[<-eh,yP];exact pG _)))
 ·refine q h' _ (fun b o z=>(ot b (ne b o z)).trans (k2 b o z)) ⟨o',e',c'.trans (by rw[<-eo])⟩
theorem Vf {v:Value}{f:Obj->Obj} (l:gf h b v) (n:b≠it):gf (h.update it f) b v:=l.keep fun o e=>(jX _ _ (aH n)).trans e
theorem iy.upd {x:Option Value}{f:Obj->Obj} (t:iy h x) (n:∀b v,gf h b v->b≠it):iy (h.update it f) x:=t.keep fun b v l=>Vf l (n b v l)
theorem two_fields {o:Obj}{x y:Value} (ho:h.get? it=some o) (hd:o.data = .fields #[x,y]):∀b v,gf h b v->b≠it:=fun b v ⟨o2,vs,e,d,x2⟩ z=>by
 rw[z,ho]at e;cases e;rw[hd]at d;cases d;cases x2
theorem Ld (a:Addr) : ¬ ((Value.ref a==Value.none)=true):=cX
theorem Uo {Q:Value->Shared->Prop} (t:iy s.heap A.handled) (hit:s.heap.IsListIter it l i) (hl:s.heap.IsList l items) (hx:items[i]? = none)
  (q:∀h' e,Heap.ExtBut it s.heap h'->(∃o,h'.get? e=some o/\o.cls = .type "StopIteration")->E (.ref e) { s with heap:=h' }):wpAny (model P w) A (Builtin.SmallTypes.nextOf (.ref it)) Q E s:=by
 have ty:=hit.typeIs;obtain⟨o,ho,_,hd⟩:=hit;obtain⟨_,g1,_,_,g2⟩:=hl;have nl:=two_fields ho hd;unfold Builtin.SmallTypes.nextOf;refine ag (BJ (name:=Str.ofString "__next__") ty slot_listiter_next (vK slot_listiter_next ty entry_listiter_next (show wpAny _ _ (field (.ref it) 0 >>= _) _ _ s from ?_) (args_listiter_next _)));refine ag (gQ ho hd (x:= .ref l) rfl (show wpAny _ _ (if (Value.ref l==Value.none)=true then _ else _) _ _ s from ?_));rw[ao (Ld l)];refine ag (m:=field (.ref it) 1) (gQ ho hd (x:= .int i 0) rfl (ag (m:=seqItems? (.ref l)) (IZ g1 g2 ?_)));simp only[IB,hx];refine ag (nW (ag (vN ho hd (by simp) ?_)))
 refine Kv (A:=A.in1) (t.upd nl) fun h' e k st=>?_;exact q h' e (fun b ob n z=>k b ob ((jX _ _ (aH n)).trans z)) st
theorem Vg {Q:Option Value->Shared->Prop} (tl:iy s.heap A.handled) (hit:IsTupIter s.heap it t i) (ht:IsTup s.heap t items) (hx:items[i]? = none)
  (q:∀h',Heap.ExtBut it s.heap h'->Q none { s with heap:=h' }):wpAny (model P w) A (pyNext (.ref it)) Q E s:=by
 have ty:=hit.typeIs;obtain⟨o,ho,_,hd⟩:=hit;obtain⟨_,g1,_,_,g2⟩:=ht;have nl:=two_fields ho hd;unfold pyNext;refine ag (IK (BJ (name:=Str.ofString "__next__") ty slot_tupleiter_next (vK slot_tupleiter_next ty entry_tupleiter_next (show wpAny _ _ (field (.ref it) 0 >>= _) _ _ s from ?_) (args_tupleiter_next _))));refine ag (gQ ho hd (x:= .ref t) rfl (show wpAny _ _ (if (Value.ref t==Value.none)=true then _ else _) _ _ s from ?_));rw[ao (Ld t)];refine ag (m:=field (.ref it) 1) (gQ ho hd (x:= .int i 0) rfl (ag (m:=seqItems? (.ref t)) (IZ g1 g2 ?_)));simp only[IB,hx];refine ag (nW (ag (vN ho hd (by simp) ?_)))
 refine Kv (A:=A.in1) (tl.upd nl) fun h' e k st=>?_;exact ag (wpAny_isInstance (T:= "StopIteration") (b:=true) st isSubtype_stop (aA (q h' fun b ob n z=>k b ob ((jX _ _ (aH n)).trans z))))
theorem Wh {k:Nat}{Q:Unit->Shared->Prop} (tl:iy s.heap A.handled) (ht:IsTup s.heap t items)
  (hn:(assignEach elts env).length=items.size) (hs:(assignEach elts env).findIdx? (·.1)=none)
  (q:∀h',Heap.ExtBut s.heap.objs.size s.heap h'->wpAny (model P w) A (assignInOrder ((assignEach elts env).map (·.2)) items.toList) Q E { s with heap:=h' }) :
  wpAny (model P w) A (assign (.Tuple elts k pos) env (.ref t)) Q E s:=by
 have nt:t≠s.heap.objs.size:=let ⟨_,g,_⟩:=ht;bT (aW g);rw[assign_Tuple];refine ag (pD ?_);unfold unpack;rw[hn,hs];refine ag (eu ?_);unfold unpackItems notIterableAtAll;refine ag (ag (wpAny_specialOf ht.typeIs slot_tuple_iter.lookup (aA ?_)));simp only[BK,tm];refine ag (eu (iter_tuple ht (ag (eu (draw_tuple nt items.size 0 _ _ ⟨_,eM _ rfl,rfl,rfl⟩ (ht.push _) (Nat.le_of_eq (Nat.zero_add _)) fun h1 i1 s1=>?_)))));rw[ao (by simp)]
 have al:(items.toList.drop 0).take items.size=items.toList:=yZ (by simp)
 have lk:∀b v,gf s.heap b v->gf h1 b v:=fun b v l=>l.keep fun o e=>(s1.2 b (bT (aW e))).trans (bU _ e);refine ag (eu (Vg (s:={ s with heap:=h1 }) (tl.keep lk) i1 ((ht.push _).extBut s1.extBut nt) (by simp) fun h2 x2=>?_))
 simp only[Option.isSome_none,BK,tm];rw[al];exact aA (q h2 fun b o hb e=>x2 b o hb (s1.extBut b o hb (bU _ e)))
end
theorem iy.Ym {x:Option Value} (t:iy h x) (k:∀b v,v ≠ .bool false->gf h b v->gf h' b v):iy h' x:=by
 rcases t with rfl|⟨a,rfl,l|⟨c,l,n,m⟩⟩
 ·exact .inl rfl
 ·exact .inr ⟨a,rfl,.inl (k _ _ (fun z=>by cases z) l)⟩
 ·exact .inr ⟨a,rfl,.inr ⟨c,k _ _ (fun z=>by cases z) l,n,k _ _ (fun z=>by cases z) m⟩⟩
section
variable{E:Value->Shared->Prop}
theorem Vh {TI TO i1 i2 l1:Addr}{k:Nat}{xs:Array Value}{Q:Option Value->Shared->Prop} (t:iy s.heap A.handled) (D:ZipApart z TI TO i1 i2 l1 l2) (hz:IsZip s.heap z TI TO .none) (hI:IsPair s.heap TI (.ref i1) (.ref i2))
  (h1:s.heap.IsListIter i1 l1 k) (hl:s.heap.IsList l1 xs) (hx:xs[k]? = none) (q:∀h',(∀c o,c≠z->c≠i1->s.heap.get? c=some o->h'.get? c=some o)->Q none { s with heap:=h' }) :
  wpAny (model P w) A (pyNext (.ref z)) Q E s:=by
 have ty:s.TypeIs (.ref z) "zip" :=⟨_,hz,rfl⟩;have end_:∀h' e,(∀c o,c≠z->c≠i1->s.heap.get? c=some o->h'.get? c=some o)->(∃o,h'.get? e=some o/\o.cls = .type "StopIteration")->wpAny (model P w) A (isInstance (.ref e) (.type "StopIteration") >>= fun b=>if b=true then pure none else throw (.ref e)) Q E { s with heap:=h' }:=fun h' e kp st =>
  ag (wpAny_isInstance (T:= "StopIteration") (b:=true) st isSubtype_stop (aA (q h' kp)))
 unfold pyNext;refine ag (IK (BJ (name:=Str.ofString "__next__") ty F.slot_zip_next (vK F.slot_zip_next ty F.entry_zip_next ?_ (F.args_zip_next_1 _))));refine ag (m:=field (.ref z) 2) (gQ hz rfl (x:= .bool false) rfl ?_);refine ag (m:=field (.ref z) 3) (gQ hz rfl (x:= .ref TI) rfl (ag (IZ hI rfl ?_)));refine ag (m:=Builtin.SmallTypes.ownedTupleIsFree (.ref z)) ?_;unfold Builtin.SmallTypes.ownedTupleIsFree;refine ag (gQ hz rfl (x:= .none) rfl (aA ?_));simp only[mE];refine ag (nW (ag (gQ hz rfl (x:= .ref TO) rfl (ag (wpAny_setField_rec hz (by simp) fun g1 gz s1=>?_)))))
 replace gz:IsZip g1 z TI TO .ellipsis:=gz;refine ag ?_;simp only[List.zipIdx_cons,List.zipIdx_nil,List.forIn_cons,List.forIn_nil];refine ag (ag (wpAny_onRaise ?_));have t1:iy g1 A.handled:=t.Ym fun b v nv l=>l.keep fun o e=>(s1.2 b fun zz=>nv (by
  obtain⟨o2,vs,e2,d2,x2⟩:=l;rw[zz,hz]at e2;cases e2;cases d2;cases x2;rfl)).trans e
 refine ag (m:=Builtin.SmallTypes.nextOf (.ref i1)) (Uo (A:=A.in1) (s:={ s with heap:=g1 }) t1 (h1.extBut s1.extBut D.i1z) (hl.extBut s1.extBut D.l1z) hx fun g2 e x2 ⟨oe,he,ce⟩=>?_);have O4:IsZip g2 z TI TO .ellipsis:=x2 _ _ D.i1z.symm gz;have nez:e≠z:=fun zz=>by rw[zz,O4]at he;cases he;simp at ce
 refine wpAny_setField_rec O4 (by simp) fun g3 _ s3=>?_
 exact end_ g3 e (fun c o c1 c2 x=>s3.extBut _ _ c1 (x2 _ _ c2 (s1.extBut _ _ c1 x))) ⟨oe,s3.extBut _ _ nez he,ce⟩
end
end L2
namespace L2
open PySem PySem.Spec PyProof.Rows PySem.W HT
def m6 (H:Hp) (x:Option Value):Prop:= ∃a C dx,x=some (.ref a)/\(H a=some (ee (some .none) C dx a) \/ ∃c C' kE,H a=some (ee (some (.ref c)) C dx a)/\c≠a/\H c=some (ee (some .none) C' kE c))
theorem m6.same {x:Option Value} (t:m6 H x) (s:∀b o,H b=some o->H' b=some o):m6 H' x:=by
 obtain⟨a,C,dx,e,h|⟨c,C',kE,h1,n,h2⟩⟩:=t
 ·exact⟨a,C,dx,e,.inl (s _ _ h)⟩
 ·exact⟨a,C,dx,e,.inr ⟨c,C',kE,s _ _ h1,n,s _ _ h2⟩⟩
theorem m6.NR {x:Option Value} (I:Inv X pins σ H s) (t:m6 H x):iy s.heap x:=by
 have lk:∀ {a C:Addr}{dx:Option Addr}{v:Value},H a=some (ee (some v) C dx a)->gf s.heap a v:=fun {a C dx v} e=>by
  obtain⟨o,vs,h1,_,_,h2,h3⟩:=(I.ay a _ e).1;exact⟨o,vs,h1,h2,h3 v rfl⟩
 obtain⟨a,C,dx,e,h|⟨c,C',kE,h1,n,h2⟩⟩:=t
 ·exact .inr ⟨a,e,.inl (lk h)⟩
 ·exact .inr ⟨a,e,.inr ⟨c,lk h1,n,lk h2⟩⟩
structure D0 (P:Program) (w:World) (K:Frag) (hv:Option Value) (tg:Expr) (J:It) (fp:List Addr) (it:Addr) (tn:Nat->Heap->Prop):Prop where
 mem:it∈fp
 obj:∀i h,tn i h -> ∀b∈fp,∃o,h.get? b=some o /\ ∀v,o.data ≠ .cell v
 keep:∀i h h',tn i h->(∀b∈fp,∀o,h.get? b=some o->h'.get? b=some o)->tn i h'
 item:∀ (X:Cx),X.prog=P->X.w=w->X.K=K->X.A.handled=hv -> ∀ (i:Nat) (pins:List (Addr×Obj)) (s:Shared) (σ:St) (H:Hp) (E:Value->Shared->Prop),Inv X pins σ H s->(∀b∈fp,gb X pins H b)->tn i s.heap->J.go i H ->
  wpAny (model P w) X.A (pyNext (.ref it)) (fun r s1=>∃u,r=some u /\
   wpAny (model P w) X.A (letOwnedTupleGo tg (.ref it) u) (fun _ s2=>∃x H',Inv X pins σ H' s2/\RelV x u/\J.qo i H x H'/\tn (i+1) s2.heap /\ ∀b∈fp,H' b=none) E s1) E s
 done:∀ (X:Cx),X.prog=P->X.w=w->X.K=K->X.A.handled=hv -> ∀ (i:Nat) (pins:List (Addr×Obj)) (s:Shared) (σ:St) (H:Hp) (E:Value->Shared->Prop),Inv X pins σ H s->(∀b∈fp,gb X pins H b)->tn i s.heap->J.stop i H ->
  wpAny (model P w) X.A (pyNext (.ref it)) (fun r s1=>r=none/\Inv X pins σ H s1) E s
 self:∀ (A:Around) (i:Nat) (s:Shared) (Q:Value->Shared->Prop) (E:Value->Shared->Prop),tn i s.heap->Q (.ref it) s->wpAny (model P w) A (pyIter (.ref it)) Q E s
def ZW (X:Cx) (pins:List (Addr×Obj)) (σ:St) (tg:Expr) (R:It->Hp->Prop) (sh:Value) (s2:Shared):Prop:=
 ∃ (it:Addr) (fp:List Addr) (tn:Nat->Heap->Prop) (J:It) (H':Hp),sh = .ref it/\Inv X pins σ H' s2/\D0 X.prog X.w X.K X.A.handled tg J fp it tn/\tn 0 s2.heap/\(∀b∈fp,gb X pins H' b)/\R J H'
def O5 (X:Cx) (tg iter:Expr) (wi:TI):Prop:=
 ∀ (pins:List (Addr×Obj)) (s:Shared) (σ:St) (H:Hp) (R:It->Hp->Prop),Inv X pins σ H s->wi σ H R ->
  wpAny (model X.prog X.w) X.A (eval iter X.env) (fun v s1=>wpAny (model X.prog X.w) X.A (pyIter v) (ZW X pins σ tg R) X.xe s1) X.xe s
def Yn (K:Frag) (hv:Option Value) (n:Nat) (t:nG):TG:=fun v σ H Q=>∃a xs,v = .ref a/\aN K H a xs/\xs.length=n/\m6 H hv/\t xs σ H Q
theorem Wj {k:Nat}{t:nG} (hK:X.K=K) (hc:X.A.handled=hv) (h:uW X es t)
  (hn:(assignEach es X.env).length=n:=by rfl) (xP:(assignEach es X.env).findIdx? (·.1)=none:=by rfl):PG X (.Tuple es k pos) (Yn K hv n t):=by
 intro pins s σ H v u Q I r hw;subst hK;obtain⟨a,xs,rfl,hq,hl,tl,hw⟩:=hw;cases r
 obtain⟨its,rv,ht,hz⟩:=I.tuple hq;refine Wh (by rw[hc];exact tl.NR I) ht (by simp[hn,<-hl,rv.length]) xP fun h' hx=>?_
 have I1:Inv X pins σ H { s with heap:=h' }:=I.kept (t':=s.toks) fun b o e=>hx b o (bT (aW e)) e;exact h pins _ σ H xs _ Q I1 (by simpa using rv) hw
def Es (K:Frag) (hv:Option Value) (l1 l2:Addr):It:=
  ⟨fun i H=>∃xs ys x y,aj K H l1 xs/\aj K H l2 ys/\xs[i]? = some x/\ys[i]? = some y,
   fun i H v H'=>∃t x y,H t=none/\v = .ref t/\(∀xs,aj K H l1 xs->xs[i]? = some x)/\(∀ys,aj K H l2 ys->ys[i]? = some y)/\H'=upd H t (.tup [x,y]),
   fun i H=>∃xs,aj K H l1 xs/\xs.length<=i/\m6 H hv⟩
theorem Up {TI TO i1 i2 l1:Addr} (D:ZipApart z TI TO i1 i2 l1 l2) :
  D0 P w K hv (.Tuple elts n1 tp) (Es K hv l1 l2) [z,TI,TO,i1,i2] z (fun i h=>IsZip h z TI TO .none/\IsPair h TI (.ref i1) (.ref i2)/\(∃a b,IsPair h TO a b)/\h.IsListIter i1 l1 i/\h.IsListIter i2 l2 i) where
 mem:=by simp
 obj:=fun i h st b hb=>by
  obtain⟨hz,oZ,⟨a,b',sQ⟩,⟨o1,e1,c1,d1⟩,⟨o2,e2,c2,d2⟩⟩:=st;simp only[aY,jZ,j3]at hb;rcases hb with rfl|rfl|rfl|rfl|rfl
  ·exact⟨_,hz,fun v q=>by cases q⟩
  ·exact⟨_,oZ,fun v q=>by cases q⟩
  ·exact⟨_,sQ,fun v q=>by cases q⟩
  ·exact⟨o1,e1,fun v q=>by rw[d1]at q;cases q⟩
  ·exact⟨o2,e2,fun v q=>by rw[d2]at q;cases q⟩
 keep:=fun i h h' st k=>by
  obtain⟨hz,oZ,⟨a,b,sQ⟩,t1,t2⟩:=st;exact⟨k z (by simp) _ hz,k TI (by simp) _ oZ,⟨a,b,k TO (by simp) _ sQ⟩,zf t1 fun o e=>k i1 (by simp) o e,zf t2 fun o e=>k i2 (by simp) o e⟩
 item:=by
  intro X hP hw hK hc i pins s σ H E I hf st hg;subst hP hw hK;obtain⟨xs,ys,x,y,o6,qw,hx,hy⟩:=hg;obtain⟨NS,A3,p1,_⟩:=I.list o6;obtain⟨uC,O6,p2,_⟩:=I.list qw;obtain⟨u1,eX,Gh⟩:=A3.get hx;obtain⟨u2,hu2,Gi⟩:=O6.get hy;obtain⟨hz,oZ,⟨a,b,sQ⟩,t1,t2⟩:=st;refine wpAny_pyNext_zip_item D hz oZ sQ t1 t2 p1.isList p2.isList (by simpa using eX) (by simpa using hu2) fun g gz gTO gt1 gt2 gp _ kp=>⟨_,rfl,?_⟩
  refine wpAny_letOwnedTupleGo_zip (s:={ s with heap:=g }) gz fun iP z2 sb=>?_;have lt:∀ {c:Addr}{o:Obj},s.heap.get? c=some o->c≠s.heap.objs.size:=fun e=>bT (aW e);have k2:∀c o,c≠z->c≠TO->c≠i1->c≠i2->s.heap.get? c=some o->iP.get? c=some o:=fun c o n0 n1 n2 n3 e=>(sb.2 c n0).trans (kp c o n0 n1 n2 n3 e);have hn:H s.heap.objs.size=none:=I.ay.fresh (aK _);have tz:s.heap.objs.size≠z:=aH (lt hz);have t3:iP.get? s.heap.objs.size=some { cls:= .type "tuple",data:= .seq #[u1,u2] }:=(sb.2 _ tz).trans gp;have fz:=hf z (by simp)
  have fO:=hf TO (by simp)
  have f1:=hf i1 (by simp)
  have f2:=hf i2 (by simp)
  have jf:∀ {c:Addr}{o:HO},H c=some o->c≠z/\c≠TO/\c≠i1/\c≠i2:=fun q=>⟨fun n=>(by rw[n,fz.1]at q;cases q),fun n=>(by rw[n,fO.1]at q;cases q),fun n=>(by rw[n,f1.1]at q;cases q),fun n=>(by rw[n,f2.1]at q;cases q)⟩
  have gB:∀ {c:Addr},c ∉ [z,TO,i1,i2]->c≠z/\c≠TO/\c≠i1/\c≠i2:=fun hc=>by simpa using hc
  have J:Inv X pins σ (upd H s.heap.objs.size (.tup [x,y])) { s with heap:=iP }:=by
   refine I.step (g':=s.gens) (d':=s.drawn) (t':=s.toks) (ch:= [z,TO,i1,i2]) (fun c hc=>?_) (fun c o _ _ hc q _=>let ⟨n0,n1,n2,n3⟩:=gB hc;k2 c o n0 n1 n2 n3 q) (fun c o _ _ hc q _=>let ⟨n0,n1,n2,n3⟩:=gB hc;⟨o.slots,k2 c o n0 n1 n2 n3 q⟩)
    (fun c o _ q n=>by rw[ai (lt q)];exact n) (fun c o hc q=>let ⟨n0,n1,n2,n3⟩:=gB hc;⟨o,k2 c o n0 n1 n2 n3 q⟩) (fun c vs q=>by rw[ai (aq q hn)];exact q) (fun c o v q=>by rw[ai (aq q hn)];exact q)
    (fun c ps q=>⟨#[],by rw[ai (aq q hn),q];simp⟩) (fun m hm=>?_) (fun c o q=>?_) I.bare
   ·have ok:∀ {d:Addr},gb X pins H d->(d∈X.ex\/X.cH.heap.objs.size<=d)/\d≠X.env.locals/\(∀x c,X.env.cells.lookup x=some c->c≠d) /\ ∀p∈X.pn++pins,p.1≠d:=fun f=>⟨f.2.2.2.1,f.2.1,f.2.2.2.2.1,f.2.2.2.2.2⟩
    simp only[aY,jZ,j3]at hc;rcases hc with rfl|rfl|rfl|rfl
    ·exact ok fz
    ·exact ok fO
    ·exact ok f1
    ·exact ok f2
   ·obtain⟨o,es,ep,ho,r⟩:=hm
    exact⟨o,es,ep,k2 _ o (aH fz.2.1) (aH fO.2.1) (aH f1.2.1) (aH f2.2.1) ho,r⟩
   ·by_cases hb:c=s.heap.objs.size
    ·subst hb
     rw[af]at q;cases q;exact⟨by rw[aI];show 2<=_;decide,[u1,u2],.cons Gh (.cons Gi .nil),_,t3,rfl,_,rfl,rfl⟩
    ·rw[ai hb]at q
     refine(I.ay c o q).fE (fun d v hd e=>?_) (fun d e=>by rw[ai (aq e hn)];exact e) fun d vs e=>by rw[ai (aq e hn)];exact e
     rcases hd with hd|hd
     ·subst hd
      obtain⟨n0,n1,n2,n3⟩:=jf q;exact k2 _ v n0 n1 n2 n3 e
     ·obtain⟨n0,n1,n2,n3⟩:=jf hd
      exact k2 d v n0 n1 n2 n3 e
  refine⟨.ref s.heap.objs.size,_,J,rfl,⟨s.heap.objs.size,x,y,hn,rfl,fun vs h=>by rw[I.zu h o6];exact hx,fun vs h=>by rw[I.zu h qw];exact hy,rfl⟩,⟨z2,k2 _ _ D.TIz D.TITO D.TIi1 D.TIi2 oZ,⟨u1,u2,sb.extBut _ _ D.TOz gTO⟩,zf gt1 fun o e=>sb.extBut _ o D.i1z e,zf gt2 fun o e=>sb.extBut _ o D.i2z e⟩,fun c hc=>?_⟩
  have:c≠s.heap.objs.size:=by
   simp only[aY,jZ,j3]at hc;rcases hc with rfl|rfl|rfl|rfl|rfl
   ·exact lt hz
   ·exact lt oZ
   ·exact lt sQ
   ·obtain⟨o,e,_⟩:=t1;exact lt e
   ·obtain⟨o,e,_⟩:=t2;exact lt e
  rw[ai this];exact(hf c hc).1
 done:=by
  intro X hP hw hK hc i pins s σ H E I hf st hg;subst hP hw hK;obtain⟨xs,o6,aim,tl⟩:=hg;obtain⟨NS,A3,p1,_⟩:=I.list o6;have e1:=A3.length;obtain⟨hz,oZ,⟨a,b,sQ⟩,t1,t2⟩:=st;have fz:=hf z (by simp)
  have f1:=hf i1 (by simp)
  refine Vh (by rw[hc];exact tl.NR I) D hz oZ t1 p1.isList (by simp;omega) fun g kp=>⟨rfl,?_⟩
  have jf:∀ {c:Addr}{o:HO},H c=some o->c≠z/\c≠i1:=fun q=>⟨fun n=>(by rw[n,fz.1]at q;cases q),fun n=>(by rw[n,f1.1]at q;cases q)⟩
  have gB:∀ {c:Addr},c ∉ [z,i1]->c≠z/\c≠i1:=fun hc=>by simpa using hc
  refine I.step (g':=s.gens) (d':=s.drawn) (t':=s.toks) (ch:= [z,i1]) (fun c hc=>?_) (fun c o _ _ hc q _=>let ⟨n0,n1⟩:=gB hc;kp c o n0 n1 q) (fun c o _ _ hc q _=>let ⟨n0,n1⟩:=gB hc;⟨o.slots,kp c o n0 n1 q⟩)
   (fun c o _ q n=>n) (fun c o hc q=>let ⟨n0,n1⟩:=gB hc;⟨o,kp c o n0 n1 q⟩) (fun c vs q=>q) (fun c o v q=>q) (fun c ps q=>⟨#[],by rw[q];simp⟩) (fun m hm=>?_) (fun c o q=>?_) I.bare
  ·have ok:∀ {d:Addr},gb X pins H d->(d∈X.ex\/X.cH.heap.objs.size<=d)/\d≠X.env.locals/\(∀x c,X.env.cells.lookup x=some c->c≠d) /\ ∀p∈X.pn++pins,p.1≠d:=fun f=>⟨f.2.2.2.1,f.2.1,f.2.2.2.2.1,f.2.2.2.2.2⟩
   simp only[aY,jZ,j3]at hc;rcases hc with rfl|rfl
   ·exact ok fz
   ·exact ok f1
  ·obtain⟨o,es,ep,ho,r⟩:=hm
   exact⟨o,es,ep,kp _ o (aH fz.2.1) (aH f1.2.1) ho,r⟩
  ·refine(I.ay c o q).fE (fun d v hd e=>?_) (fun d e=>e) fun d vs e=>e
   rcases hd with hd|hd
   ·subst hd
    obtain⟨n0,n1⟩:=jf q;exact kp _ v n0 n1 e
   ·obtain⟨n0,n1⟩:=jf hd
    exact kp d v n0 n1 e
 self:=fun _ _ _ _ _ st h=>wpAny_pyIter_zip st.1 h
def Yo (K:Frag) (hv:Option Value) (ta:TA):TI:=fun σ H R=>ta σ H fun vs H1=>∃a b,vs = [.ref a,.ref b]/\(∃xs,aj K H1 a xs)/\(∃ys,aj K H1 b ys)/\R (Es K hv a b) H1
theorem Wk {a b:Expr}{ta:TA}{p:Pos} (hg:Gl X "zip") (hm:X.mg "zip" = none) (ha:PA X [a,b] ta) (he:starEach [a,b] X.env=(false,eval a X.env)::starEach [b] X.env:=by rfl) (cR:(backTo pos (starEach [b] X.env)).any (·.1)=false:=by rfl) :
  O5 X (.Tuple elts n1 tp) (.Call (.Name "zip" p) [a,b] [] pos) (Yo X.K X.A.handled ta):=by
 intro pins s σ H R I h;refine qI (uc I hg hm (show bootBuiltins "zip" = some (.type "zip") by decide +kernel) ?_)
 refine Iy (aC (ha pos pins s σ H _ I h) fun us s1 ⟨vs,H1,I1,r1,q1⟩=>?_) he cR;obtain⟨l1,l2,e,⟨xs,o6⟩,⟨ys,qw⟩,q⟩:=q1;subst e;obtain⟨u1,u2,rfl,Gh,Gi⟩:=r1.two;cases Gh
 cases Gi
 obtain⟨NS,A3,p1,_⟩:=I1.list o6;obtain⟨uC,O6,p2,_⟩:=I1.list qw;have lt1:(l1:Nat) < s1.heap.objs.size:=by obtain⟨o,_,e,_⟩:=p1;exact aW e
 have lt2:(l2:Nat) < s1.heap.objs.size:=by obtain⟨o,_,e,_⟩:=p2;exact aW e
 refine call_zip_2 p1.isList p2.isList fun g gz gi go g1 g2 _ kp=>?_;refine wpAny_pyIter_zip (s:={ s1 with heap:=g }) gz ?_;refine⟨s1.heap.objs.size+4,[s1.heap.objs.size+4,s1.heap.objs.size+2,s1.heap.objs.size+3,s1.heap.objs.size,s1.heap.objs.size+1],_,_,H1,rfl,I1.kept (t':=s1.toks) kp,Up (zipApart_new lt1 lt2),⟨gz,gi,⟨_,_,go⟩,g1,g2⟩,fun c hc=>?_,q⟩;have le:s1.heap.objs.size<=c:=by
  simp only[aY,jZ,j3]at hc;rcases hc with rfl|rfl|rfl|rfl|rfl
  ·exact yX _ _
  ·exact yX _ _
  ·exact yX _ _
  ·exact aK _
  ·exact yX _ _
 exact I1.lq le (I1.ay.fresh le)
theorem Tn {J:It}{tn:Nat->Heap->Prop}{g:TG}{E:Value->Shared->Prop}{RR:Value->Addr->Result->Shared->Prop}  (S:cj X.N X.env.scope N' cE scope)
  (I2:Inv X pins σ H2 s2) (T:D0 X.prog X.w X.K X.A.handled tg J fp it tn) (st:tn 0 s2.heap) (hf:∀b∈fp,gb X pins H2 b)
  (hb:∀s H fp,PG (cU X N' scope s H fp) tg g/\rN (cU X N' scope s H fp) ifs ti/\PE (cU X N' scope s H fp) elt te)
  (hw:∀p,H2 p=none->kc J g ti te (pick cE σ) Q p H2) (hR:∀acc C s',CompEnd X pins σ Q acc C s'->RR acc C (.ok .next) s') :
  wpAny (model X.prog X.w) X.A (newList []) (fun acc s3=>wpAny (model X.prog X.w) X.A (newFunctionEnv scope X.env.globals (gU X.env.cells scope.names []) [] X.env.qual none .none (some X.env)) (fun xA s4 =>
   codeAny (model X.prog X.w) X.A (.compStart (.ListComp elt [⟨tg,iter,ifs,0⟩] scope pos) 0 (.ref it) acc { xA with scope:=relabel scope X.env }) (RR acc xA.locals) s4) E s3) E s2:=by
 refine qG ?_;have I3:Inv X pins σ (upd H2 s2.heap.objs.size (.lst [])) { s2 with heap:=s2.heap.push { cls:= .type "list",data:= .seq ([]:List Value).toArray } }:=
  I2.Eh (its:= []) (t':=s2.toks) .nil (bX _)
 have hp:=hw s2.heap.objs.size I2.fresh;generalize e3:({ s2 with heap:=s2.heap.push { cls:= .type "list",data:= .seq ([]:List Value).toArray } }:Shared)=s3 at I3 ⊢;generalize eH:upd H2 s2.heap.objs.size (.lst [])=H3 at I3 hp;have jO:∀b∈fp,b < s2.heap.objs.size:=fun b hb=>let ⟨_,e,_⟩:=T.obj _ _ st b hb;aW e;have get3:∀b o,s2.heap.get? b=some o->s3.heap.get? b=some o:=fun b o e=>by rw[<-e3];exact bU _ e
 have qp:tn 0 s3.heap:=T.keep _ _ _ st fun b _ o e=>get3 b o e;have gM:∀b∈fp,gb X pins H3 b:=fun b hb=>⟨by rw[<-eH,ai (bT (jO b hb))];exact(hf b hb).1,(hf b hb).2⟩
 have Fg:∀b∈fp,∃o,s3.heap.get? b=some o:=fun b hb=>let ⟨o,e,_⟩:=T.obj _ _ qp b hb;⟨o,e⟩;refine Jw fun h4 hn hk gZ Fh=>?_;have I4:Inv (cU X N' scope s3 H3 fp) [] (pick cE σ) H3 { s3 with heap:=h4 }:=KU I3 S gM Fg hn hk gZ Fh;have x4:tn 0 ({ s3 with heap:=h4 }:Shared).heap:=T.keep _ _ _ qp fun b _ o e=>hk b o e;obtain⟨hG,hI,hE⟩:=hb s3 H3 fp;obtain⟨W,⟨m0,w0⟩,turn⟩:=hp;rw[eH]at w0;have lW:∀ {H':Hp},(∀b∈fp,H' b=none) -> ∀b∈fp,gb (cU X N' scope s3 H3 fp) [] H' b:=fun hn b hb =>
  ⟨hn b hb,(I4.ok.nD b hb).1,I4.ok.ng b hb,.inl hb,fun x c e=>(I4.ok.nD b hb).2 x c e,fun p hp=>absurd (show p∈([]:List (Addr×Obj)) from hp) (by simp)⟩
 have loop:codeAny (model X.prog X.w) X.A (.compLoop (.ListComp elt [⟨tg,iter,ifs,0⟩] scope pos) 0 (.ref it) (.ref s2.heap.objs.size) (CQ scope s3.heap.objs.size X.env))
   (RR (.ref s2.heap.objs.size) s3.heap.objs.size) { s3 with heap:=h4 }:=by
  refine Jj (fun n s'=>∃i ys τ H',Inv (cU X N' scope s3 H3 fp) [] τ H' s'/\tn i s'.heap/\(∀b∈fp,H' b=none)/\W i n ys τ H') ?_ m0 ⟨0,[],_,H3,I4,x4,fun b hb=>(gM b hb).1,w0⟩;rintro n s5 ⟨i,ys,τ,H5,I5,oU,sk,w5⟩;obtain⟨x5,w5⟩:=turn i n ys τ H5 w5;rcases w5 with⟨stop,qn⟩|⟨go,step⟩
  ·refine aC (T.done (cU X N' scope s3 H3 fp) rfl rfl rfl rfl i [] s5 τ H5 _ I5 (lW sk) oU stop) fun r s6 ⟨hr,I6⟩=>?_
   subst hr;refine hR _ _ _ ⟨_,H5,rfl,?_,?_,?_,qn⟩
   ·exact I3.w9 (s':=s6) (ch:=fp) I6.os I6.base I6.ay I6.bare fun b hb=>⟨(gM b hb).2.2.2.1,(gM b hb).2.1,(gM b hb).2.2.2.2.1,(gM b hb).2.2.2.2.2⟩
   ·exact I3.lq (aK _) I6.free
   ·obtain⟨m,hm,_⟩:=I6.loc
    exact⟨m,hm⟩
  ·refine aC (T.item (cU X N' scope s3 H3 fp) rfl rfl rfl rfl i [] s5 τ H5 _ I5 (lW sk) oU go) fun r s6 ⟨u,hr,h6⟩=>?_
   subst hr;refine aC h6 fun _ s7 ⟨x,H7,I7,r7,y7,sD,Fi⟩=>?_;have Fj:=I7.pinned (lW Fi) (T.obj _ _ sD);refine aC (hG _ s7 τ H7 x u _ Fj r7 (step x H7 y7)) fun _ s8 ⟨sE,H8,I8,q8⟩=>?_;refine aC (hI _ s8 sE H8 _ I8 q8) fun b s9 ⟨H9,I9,q9⟩=>?_;have again:∀ {gN:St}{H':Hp}{s':Shared}{eW:List V}{m':Nat},Inv (cU X N' scope s3 H3 fp) ([]++ud fp s7.heap) gN H' s'->m' < n->W (i+1) m' eW gN H' ->
     ∃m,m < n /\ ∃i ys τ H',Inv (cU X N' scope s3 H3 fp) [] τ H' s'/\tn i s'.heap/\(∀b∈fp,H' b=none)/\W i m ys τ H':=fun {gN H' s' eW m'} I' hm w'=>by
    refine⟨m',hm,i+1,eW,gN,H',I'.vY,T.keep _ _ _ sD fun b hb o e=>(I'.pin (b,o) (fq _ (fq _ (tM hb e)))).1,fun b hb=>?_,w'⟩;obtain⟨o,e,d⟩:=T.obj _ _ sD b hb;exact(I'.pin (b,o) (fq _ (fq _ (tM hb e)))).2.1
   cases b with
   |false =>
    obtain⟨m',hm,w'⟩:=q9;exact again I9 hm w'
   |true =>
    refine aC (hE _ s9 sE H9 _ I9 q9) fun y Fl ⟨z,x6,Fn,Fo,Ek,El,m',hm,w'⟩=>?_;refine aC (kZ _ Fl sE x6 (.ref s2.heap.objs.size) [z] (.ref s2.heap.objs.size) [y] (fun _ H'=>H'=upd x6 s2.heap.objs.size (.lst (ys ++ [z]))) Fn rfl (.cons Fo .nil) ⟨_,_,_,rfl,rfl,Ek,El,rfl⟩) fun _ s11 ⟨_,Fp,Fq,_,sF⟩=>?_;subst sF;exact again Fq hm w'
 exact codeAny_compStart_list loop (T.self X.A 0 _ _ _ x4 loop)
theorem Vi {wi:TI}{g:TG}  (S:cj X.N X.env.scope N' cE scope) (hi:O5 X tg iter wi)
  (hb:∀s H fp,PG (cU X N' scope s H fp) tg g/\rN (cU X N' scope s H fp) ifs ti/\PE (cU X N' scope s H fp) elt te)
  (hs:∀x,foldedSetIterable iter X.env x=pure x:=by intro _;rfl):PE X (.ListComp elt [⟨tg,iter,ifs,0⟩] scope pos) (DV wi cE g ti te):=by
 intro pins s σ H Q I h;rw[eval_ListComp];refine Ro (use:=none) rfl hs (B9 fun n hn=>zl I S hn) S.kind (fun x hx hl=>tJ S.keys (by rw[<-hl];exact hx)) ?_
 refine aC (hi pins s σ H _ I h) fun v s1 h1=>aC h1 fun sh s2 h2=>?_;obtain⟨it,fp,tn,J,H2,e,I2,T,gW,f2,hw⟩:=h2;subst e;refine Tn (RR:=fun acc C=>compPost (model X.prog X.w) X.A X.xe none (EP X pins σ Q) acc C) S I2 T gW f2 hb hw ?_;rintro acc C s' ⟨p,H',rfl,I',fC,⟨m,hm⟩,q⟩;refine⟨m,hm,fun h' jQ=>⟨.ref p,H',?_,rfl,q⟩⟩;exact I'.turned (it:=C) (t':=s'.toks) (fun b o hb e=>(jQ.2 b hb).trans e) fC.1 fC.2.1 fC.2.2.2.1 fC.2.2.2.2.1 fC.2.2.2.2.2
theorem Uq {g:TG} (n:Nat) (hn:n=xs.length) (hy:n<=ys.length) (Pv:Nat->List V->St->Hp->Prop) (h0:Pv 0 [] jP (upd H1 p (.lst [])))
  (hl:∀i zs τ H,Pv i zs τ H->H p=some (.lst zs)/\aj K H a xs/\aj K H b ys/\m6 H hv)
  (hs:∀i x y zs τ H t,xs[i]? = some x->ys[i]? = some y->Pv i zs τ H->H t=none->g (.ref t) τ (upd H t (.tup [x,y])) fun cT H4=>ti cT H4 fun c H5=>if c=true then te cT H5 fun v H6=>H6 p=some (.lst zs)/\zs.length < sizeLine /\ ∃m',m' < n - i/\CW Pv n (i+1) m' (zs ++ [v]) cT (upd H6 p (.lst (zs ++ [v]))) else ∃m',m' < n - i/\CW Pv n (i+1) m' zs cT H5)
  (hd:∀zs τ H,Pv n zs τ H->Q (.ref p) H):kc (Es K hv a b) g ti te jP Q p H1:=by
 refine⟨CW Pv n,⟨n,by simp,bX _,h0⟩,?_⟩
 rintro i m zs τ H ⟨rfl,hi,pv⟩;obtain⟨hp,q1,q2,tl⟩:=hl i zs τ H pv;refine⟨hp,?_⟩
 by_cases lt:i < n
 ·refine .inr ⟨⟨xs,ys,xs[i]'(by omega),ys[i]'(by omega),q1,q2,by simp,by simp⟩,fun v H3 ⟨t,x,y,ht,e,ex,ey,eH⟩=>?_⟩
  subst e eH;exact hs i x y zs τ H t (ex xs q1) (ey ys q2) pv ht
 ·obtain rfl:i=n:=by omega
  exact .inl ⟨⟨xs,q1,by omega,tl⟩,hd zs τ H pv⟩
section
variable{k:Nat}{sp:Option Value->Sp}{p:Pos}{t:TA}
theorem Vj (F:xl X.prog X.w X.K X.mg X.base k f fd ps sp) (hr:iw k X.A) (hg:Gl X x) (hm:X.mg x=some (.ref f)) (hk:keepIn X.K (.ref f)=true) (hb:Binds X.K fd ps []) (hx:Passes aR X E)
  (ha:PA X (e::es) t) (iD:(x==("__debug__" : Str))=false:=by decide) (he:starEach (e::es) X.env=(false,eval e X.env)::starEach es X.env:=by rfl) (cR:(backTo pos (starEach es X.env)).any (·.1)=false:=by rfl) :
  PE X (.Call (.Name x p) (e::es) [] pos) (MN (sp X.A.handled) [] E t):=by
 intro pins s σ H Q I h;refine qI (mV I hg hm ?_ iD);refine BO (h₀:=X.base) I.ok.mod.jg hk (aC (ha pos pins s σ H _ I h) fun us s1 ⟨vs,H1,I1,r,q⟩=>⟨I1.bc,?_⟩) he cR;replace q:sp X.A.handled vs H1 Q E:=by have q0:sp X.A.handled (vs ++ []) H1 Q E:=q;rwa [fh]at q0
 have hl:us.length=ps.length:=by rw[<-r.length];exact F.len _ _ _ _ _ q
 have qv:=hb s1 us I1.bc (by rw[fh];exact hl)
 rw[fh]at qv;refine pE (qH (F.run X.A X.stack s1 H1 ⟨us,[]⟩ us vs Q E hr I1.xw qv r q) fun r s' hq=>?_);cases r with
 |error e=>exact hx pins σ H1 s1 e s' I1 hq
 |ok fl =>
  cases fl with
  |ret u=>exact I1.after hq
  |next=>exact False.elim hq
  |brk=>exact False.elim hq
  |cont=>exact False.elim hq
def MW (K:Frag):List V->Hp->VK->Prop:=fun xs H Q=>∃a n C dx c cv b,xs = [.ref a,c]/\((∃B,c = .ref B/\cv = .ref B) \/ ∃T,c = .ty T/\cv = .type T)/\H a=some (ee n C dx a)/\df K C/\(∀d,dx=some d -> ∃fs,H d=some (dv d fs))/\kitOne K (.ref C) cv=some b/\Q (.bl b) H
theorem Kw:eV X (.builtin "isinstance") (MW X.K):=by
 intro pins s σ H xs us Q I r h;obtain⟨a,n,C,dx,c,cv,b,rfl,hc,ea,xc,hd,e,q⟩:=h;obtain⟨u,w',rfl,ru,gL⟩:=r.two;cases ru
 have Fx:w'=cv:=by
  rcases hc with⟨B,rfl,rfl⟩|⟨T,rfl,rfl⟩
  ·cases gL;rfl
  ·cases gL;rfl
 subst Fx;obtain⟨ox,vs,at_,cl,di,da,_⟩:=(I.ay a _ ea).1;cases dx with
 |none =>
  have J:InstAt s.heap a ox C none:=⟨at_,cl,by unfold notCls;rw[da],by rw[di];exact True.intro⟩
  exact kia_one (zv xc) I.bc J e (fun z=>nomatch z) fun tk=>⟨.bl b,H,I.tok _,rfl,q⟩
 |some d =>
  obtain⟨fs,ed⟩:=hd d rfl;obtain⟨_,mA,nn,_⟩:=I.wx ed;obtain⟨od,mi,_⟩:=tO nn;have J:InstAt s.heap a ox C (some od):=⟨at_,cl,by unfold notCls;rw[da],by rw[di];exact mi⟩
  exact kia_one (zv xc) I.bc J e (fun z=>nomatch z) fun tk=>⟨.bl b,H,I.tok _,rfl,q⟩
end
end L2
namespace L2
open PySem PySem.Spec PyProof.Rows PySem.W HS
end L2
namespace HS
open PySem PySem.Spec PyProof.Rows PySem.W L2
end HS
namespace L2
open PySem PySem.Spec PyProof.Rows PySem.W HS
end L2
namespace L2
open PySem PySem.W
abbrev pr (x:Str) (s:Stmt):Str×Stmt:=(x,s)
def A4 (K:Frag):List (Str×Stmt)->Prop
 |[]=>True
 |p::r=>(∃f fd,aU K p.1 p.1 p.2 f fd/\nsIn K mainGlobals p.1=some (some (.ref f)))/\A4 K r
def Et (K:Frag):List Str->Prop
 |[]=>True
 |x::r=>nsIn K mainGlobals x=some none/\Et K r
def Eu (K:Frag):List Str->List Addr->Prop
 |x::r,a::s=>nsIn K mainGlobals x=some (some (.ref a))/\Eu K r s
 |_,_=>True
theorem Yp {p:Str×Stmt}{r:List (Str×Stmt)}{kV:Value} (a:nsIn K mainGlobals p.1=some (some (.ref f)))
  (l:K.lookup f=some ⟨oc,od,.func (fnOf p.1 p.1 (pN p.2) (cA p.2) (aM p.2) .none kV doc pm an cdv ct),nC⟩) (c:codeIn K cdv p.1=true) (k:keepIn K (.ref f)=true) (g:A4 K r):A4 K (p::r):=⟨⟨f,_,DD l c k,a⟩,g⟩
theorem cB {p:Str×Stmt} (X:K.In h) (G:h.Ns mainGlobals mg) (d:∃f fd,aU K p.1 p.1 p.2 f fd/\nsIn K mainGlobals p.1=some (some (.ref f))) (ps:List Str)
  (b:∀ (kV doc pm:Value) (an:Option Addr) (cdv ct:Value) (us:List Value),us.length=ps.length->bindArgs (fnOf p.1 p.1 (pN p.2) (cA p.2) (aM p.2) .none kV doc pm an cdv ct) ⟨us,[]⟩=pure (ps.zip us)) :
  ∃f fd,aU K p.1 p.1 p.2 f fd/\keepIn K (.ref f)=true/\Binds K fd ps []/\mg p.1=some (.ref f):=by
 obtain⟨f,fd,F,a⟩:=d;exact⟨f,fd,F,F.kp,F.binds b,mg_of X G a⟩
theorem LX (X:K.In h) (G:h.Ns mainGlobals mg):∀ {xs:List Str},Et K xs -> ∀x∈xs,mg x=none
 |y::r,z,x,m=>by
  rcases aY.mp m with rfl|q
  ·exact mg_none_of X G z.1
  ·exact LX X G z.2 x q
theorem LY (X:K.In h) (G:h.Ns mainGlobals mg):∀ {xs:List Str}{as:List Addr} (i:Nat) {x:Str}{a:Addr},Eu K xs as->xs[i]? = some x->as[i]? = some a->mg x=some (.ref a)
 |y::r,b::s,0,x,a,z,e,e'=>by cases e;cases e';exact mg_of X G z.1
 |y::r,b::s,i+1,x,a,z,e,e'=>LY X G (xs:=r) (as:=s) i z.2 e e'
end L2
namespace L2
open PySem
def cw (k:Nat):List (List Str)->Str->Option (Nat×Str)
 |[],_=>none
 |[]::rest,n=>cw (k+1) rest n
 |(x::r)::rest,n=>if n∈x::r/\x≠n then some (k,x) else cw (k+1) rest n
theorem vP {k:Nat}{n:Str} (h : ¬ (n∈r/\r.head? ≠ some n)):cw k (r::rest) n=cw (k+1) rest n:=by
 cases r with
 |nil=>rfl
 |cons x r=>exact ao fun z=>h ⟨z.1,by simpa using z.2⟩
theorem Se {k:Nat}{n:Str} (h:n∈x::r/\x≠n):cw k ((x::r)::rest) n=some (k,x):=by
 exact au h
def j9 (all:List (List Str)):List (List Str)->Option Str
 |[]=>none
 |[]::rest=>j9 all rest
 |(x::_)::rest=>if (cw 0 all x).isNone then some x else j9 all rest
def d6 (rest:List (List Str)):Option Str:=j9 rest rest
def without (n:Str) (rest:List (List Str)):List (List Str):=rest.map fun r=>r.filter fun y=>!decide (y=n)
def total (rest:List (List Str)):Nat:=(rest.map List.length).sum
def bq:Nat->List (List Str)->Option (List Str)
 |0,_=>some []
 |k+1,rest=>if (rest.any fun r=>!r.isEmpty)=true then (match d6 rest with|none=>none|some n=>(bq k (without n rest)).map (n :: ·)) else some []
theorem y9 {all:List (List Str)}{n:Str}:∀ {rest:List (List Str)},j9 all rest=some n -> ∃r∈rest,r.head? = some n
 |[],h=>by cases h
 |[]::rest,h=>let ⟨r,hr,e⟩:=y9 (rest:=rest) h;⟨r,bV _ hr,e⟩
 |(x::t)::rest,h=>by
  have h:(if (cw 0 all x).isNone then some x else j9 all rest)=some n:=h;split at h
  ·cases h;exact⟨n::t,aV,rfl⟩
  ·obtain⟨r,hr,e⟩:=y9 (rest:=rest) h
   exact⟨r,bV _ hr,e⟩
theorem Jl (n:Str):∀rest:List (List Str),total (without n rest)<=total rest
 |[]=>aK _
 |r::rest=>by
  have h1:=Jl n rest;have h2:=iY (fun y=>!decide (y=n)) r;simp only[total,without,cf,Jc]at *;omega
theorem tG {n:Str}:∀ {rest:List (List Str)},(∃r∈rest,n∈r)->total (without n rest) < total rest
 |[],⟨_,h,_⟩=>by simp at h
 |r::rest,⟨q,hq,hn⟩=>by
  have h1:=Jl n rest;have h2:=iY (fun y=>!decide (y=n)) r;rcases aY.mp hq with rfl|hq
  ·have h3:(q.filter fun y=>!decide (y=n)).length < q.length:=by
    exact List.length_filter_lt_length_iff_exists.mpr ⟨n,hn,by simp⟩
   simp only[total,without,cf,Jc]at *;omega
  ·have h3:=tG ⟨q,hq,hn⟩
   simp only[total,without,cf,Jc]at *;omega
theorem le_total {r:List Str}:∀ {rest:List (List Str)},r∈rest->r.length<=total rest
 |[],h=>by simp at h
 |q::rest,h=>by
  have e:total (q::rest)=q.length+total rest:=by simp[total]
  rcases aY.mp h with rfl|h
  ·omega
  ·have:=le_total h
   omega
theorem CF (h:(rest.any fun r=>!r.isEmpty)=true):0 < total rest:=by
 obtain⟨r,hr,e⟩:=tw.mp h;have h1:0 < r.length:=by cases r with
  |nil=>simp at e
  |cons _ _=>simp
 have h2:r.length<=total rest:=le_total hr;omega
def dS (H:Hp) (vs:List V) (rows:List (List Str)):Prop:=Paired (fun y r=>∃a,y=V.ref a/\H a=some (.tup (r.map V.str))) vs rows
theorem dS.same (h:dS H vs rows) (s:ak H H'):dS H' vs rows:=Paired.imp' (fun _ _ ⟨a,e,q⟩=>⟨a,e,s _ _ q⟩) h
theorem dS.length (h:dS H vs rows):vs.length=rows.length:=mx h
theorem dS.get {H:Hp}:∀ {vs:List V}{rows:List (List Str)}{i:Nat}{v:V},dS H vs rows->vs[i]? = some v -> ∃a r,v=V.ref a/\rows[i]? = some r/\H a=some (.tup (r.map V.str))
 |_,_,i,v,.nil,e=>by simp at e
 |_,_,0,v,.cons p _,e=>by
  obtain⟨a,rfl,q⟩:=p;simp at e;subst e;exact⟨a,_,rfl,rfl,q⟩
 |_,_,i+1,v,.cons _ t,e=>by
  obtain⟨a,r,e1,e2,q⟩:=dS.get (i:=i) t (by simpa using e)
  exact⟨a,r,e1,by simpa using e2,q⟩
theorem dS.append {H:Hp}{vs:List V}{rows:List (List Str)}{a:Addr}{r:List Str}:dS H vs rows->H a=some (.tup (r.map V.str))->dS H (vs ++ [.ref a]) (rows ++ [r])
 |.nil,q=>.cons ⟨a,rfl,q⟩ .nil
 |.cons p t,q=>.cons p (dS.append t q)
end L2
namespace iR
open PySem L2 PySem.W
def top (i:Nat):Stmt:=PySem.Challenge.pw_parentlines_k28_refusals_of_families.main.body.getD i (.Pass ⟨0,0,0,0⟩)
abbrev pY:Stmt:=inClass (top 14) 0
abbrev rB:Stmt:=inClass (top 15) 0
abbrev wC:Stmt:=top 19
abbrev Dq:Stmt:=top 20
abbrev wD:Stmt:=top 22
abbrev zP:Stmt:=top 23
abbrev ur:Stmt:=top 24
abbrev uf:Stmt:=top 25
abbrev wQ:Stmt:=top 26
abbrev Dr:Stmt:=top 29
abbrev xp:Stmt:=top 30
abbrev Ds:Stmt:=top 31
abbrev ug:Stmt:=top 32
abbrev vW:Stmt:=top 33
abbrev Du:Stmt:=top 34
abbrev we:Stmt:=top 35
abbrev wR:Stmt:=top 36
abbrev xE:Stmt:=top 37
abbrev D1:Stmt:=top 39
abbrev C0:Stmt:=top 40
abbrev DH:Stmt:=top 41
abbrev Dv:Stmt:=top 42
abbrev D2:Stmt:=top 43
abbrev wg:Stmt:=top 44
abbrev Ew:Stmt:=top 46
abbrev wU:Stmt:=top 47
abbrev oC:Stmt:=top 48
abbrev mS:Stmt:=top 49
abbrev wV:Stmt:=top 50
abbrev CG:Stmt:=top 51
abbrev wj:Stmt:=top 52
abbrev oh:Stmt:=top 53
abbrev D3:Stmt:=top 54
abbrev C1:Stmt:=top 55
abbrev t5:Stmt:=top 56
abbrev DI:Stmt:=top 57
abbrev DJ:Stmt:=top 58
abbrev wW:Stmt:=top 59
abbrev C3:Stmt:=top 60
abbrev rh:Stmt:=top 61
abbrev Ex:Stmt:=top 62
structure fg (mg:Str->Option Value):Prop where
 len:mg "len" = none
 max:mg "max" = none
 min:mg "min" = none
 abs:mg "abs" = none
 range:mg "range" = none
 any:mg "any" = none
 all:mg "all" = none
 list:mg "list" = none
 tuple:mg "tuple" = none
 enu:mg "enumerate" = none
theorem jT {y:Str}:cg ((y::r).map V.str) 0=some (V.str y):=(show cg ((y::r).map V.str) ((0:Nat):Int)=some (V.str y) from dq rfl)
theorem ar {q:Addr} (hq:H q=none):ak H (upd H q o):=fun b u e=>by rw[ai (aq e hq)];exact e
theorem Vk {g:TG} (Pv:Nat->St->Hp->Prop) (h0:Pv 0 σ H) (hl:∀i σ H,i<=xs.length->Pv i σ H->aj K H a xs)
  (hs:∀i x σ H t,xs[i]? = some x->Pv i σ H->H t=none->g (.ref t) σ (upd H t (.tup [.int i,x])) fun iB H2=>tb { D with nx:=Pv (i+1),ct:=Pv (i+1),bk:=D.nx } iB H2) (hd:∀σ H,Pv xs.length σ H->D.nx σ H) :
  ∃W:Nat->Nat->St->Hp->Prop,(∃m,W 0 m σ H) /\ ∀i m σ H,W i m σ H ->
   ((x9 K a).stop i H/\D.nx σ H)\/((x9 K a).go i H /\ ∃N:St->Hp->Prop,(∀aJ H',N aJ H' -> ∃m',m' < m/\W (i+1) m' aJ H') /\ ∀x H',(x9 K a).qo i H x H'->g x σ H' fun iB H2=>tb { D with nx:=N,ct:=N,bk:=D.nx } iB H2):=by
 refine⟨fun i m σ H=>m=xs.length - i/\i<=xs.length/\Pv i σ H,⟨xs.length,by simp,bX _,h0⟩,?_⟩
 rintro i m σ H ⟨rfl,hi,p⟩;have q:=hl i σ H hi p
 by_cases aT:i < xs.length
 ·refine .inr ⟨⟨xs,xs[i],q,by simp[aT]⟩,Pv (i+1),fun aJ H' p'=>⟨xs.length - (i+1),by omega,rfl,aT,p'⟩,fun x H' y=>?_⟩
  obtain⟨t,v,ht,rfl,hv,rfl⟩:=y;exact hs i v σ _ t (hv xs q) p ht
 ·have e:i=xs.length:=by omega
  subst e;exact .inl ⟨⟨xs,q,aK _⟩,hd σ H p⟩
@[irreducible] def rC:Sp:=fun vs H Q _=>∃ (l:Addr) (ws:List V) (rows:List (List Str)) (n:Str),vs = [.ref l,.str n]/\H l=some (.lst ws)/\dS H ws rows /\
 (cw 0 rows n=none -> ∀H',ak H H'->Q .ax H')/\(∀i x,cw 0 rows n=some (i,x) -> ∀p H',H p=none->ak H H'->H' p=some (.tup [.int i,.str x,.str n])->Q (.ref p) H')
theorem DK:b3 ["rest","name","at","row"] ["rest","name"] (aM ur):=⟨rfl,rfl,rfl,by decide +kernel,rfl,by decide +kernel,by decide +kernel⟩
theorem LZ (F:aU K "wish_against" "wish_against" ur f fd) (B:fg mg):aD P w K mg base aR 1 f fd ["rest","name"] rC:=by
 refine F.ok DK (fun vs H Q E h=>?_) (fun cdv A outer s H vs Q E hr h=>?_)
 ·unfold rC at h;obtain⟨l,ws,rows,n,rfl,_⟩:=h;rfl
 ·unfold rC at h
  obtain⟨l,ws,rows,n,rfl,hl,hR,qn,qs⟩:=h;refine⟨_,aB (i8 j4 rfl (VZ rfl B.enu (ae (pv 0) ah)) (wG rfl (j5 (bg (i:=2) DK.nd rfl (Or.inl rfl)) (j5 (bg (i:=3) DK.nd rfl (Or.inl rfl)) tZ)))
    (aO (fj (PW.pt (pw_and (b5 Cw (pv 1) (pv 3) rfl) (pw_and1 (b5 xh (bh pT (pv 3) aG (fun _ _=>rfl)) (pv 1) (cF _)))))
     (aO (b9 (d7 (ae (pv 2) (ae (bh pT (pv 3) aG (fun _ _=>rfl)) (ae (pv 1) ah)))))) fu)))
   (aO (b9 jF)),?_⟩
  refine⟨_,rfl,l,rfl,⟨_,aj.of hl⟩,Vk (xs:=ws) (fun i σ H1=>∃v2 v3:Option V,σ = [some (.ref l),some (.str n),v2,v3]/\ak H H1/\cw i (rows.drop i) n=cw 0 rows n) ⟨none,none,rfl,ak.refl _,by simp⟩ (fun i σ H1 _ ⟨_,_,_,z,_⟩=>aj.of (z _ _ hl)) ?_ ?_⟩
  ·rintro i x σ H1 t hx ⟨v2,v3,rfl,S1,hw⟩ ht
   obtain⟨a,r,rfl,gO,gn⟩:=hR.get hx;have S2:ak H (upd H1 t (.tup [.int i,.ref a])):=S1.trans (ar ht);have jq:=S2 _ _ gn;have Gj:rows.drop i=r::rows.drop (i+1):=by
    have hi:=(cu.mp gO);obtain⟨sN,rfl⟩:=hi;exact BS sN
   rw[Gj]at hw;refine⟨t,_,rfl,aN.of af,rfl,_,_,rfl,_,_,rfl,rfl,?_⟩;refine⟨_,rfl,_,rfl,a,_,rfl,.inr (aN.of jq),rfl,jD _,_,rfl,?_⟩;rw[ao cX,j6];refine d4 (fun bf=>?_) (fun bf=>?_)
   ·have kj:n∈r:=by simpa using bf
    cases r with
    |nil=>simp at kj
    |cons y r =>
     refine⟨_,rfl,a,_,0,.str y,rfl,rfl,aN.of jq,jT,_,rfl,rfl,_,rfl,?_⟩;refine d4 (fun bS=>?_) (fun bS=>?_)
     ·have lr:y≠n:=fun z=>by subst z;simp at bS
      refine⟨_,rfl,_,rfl,a,_,0,.str y,rfl,rfl,aN.of jq,jT,_,rfl,by show 3<=sizeLine;rw[aI];decide,fun p hp=>?_⟩
      rw[Se ⟨kj,lr⟩]at hw;exact qs i y hw.symm p _ (S2.free hp) (S2.trans (ar hp)) af
     ·have hy:y=n:=by
       by_cases z:y=n
       ·exact z
       ·exact absurd (by simp[z]) bS
      refine⟨_,_,rfl,S2,?_⟩;rw[<-hw,vP fun z=>z.2 (by rw[hy];rfl)]
   ·refine⟨_,_,rfl,S2,?_⟩
    rw[<-hw,vP fun z=>bf (by simpa using z.1)]
  ·rintro σ H1 ⟨v2,v3,rfl,S1,hw⟩
   rw[hR.length,Jd]at hw;exact qn hw.symm H1 S1
theorem L3 {n:Str} (hl:H l=some (.lst ws)) (hR:dS H ws rows) (qn:cw 0 rows n=none -> ∀H',ak H H'->Q .ax H')
  (qs:∀i x,cw 0 rows n=some (i,x) -> ∀p H',H p=none->ak H H'->H' p=some (.tup [.int i,.str x,.str n])->Q (.ref p) H'):rC [.ref l,.str n] H Q E:=by
 unfold rC;exact⟨l,ws,rows,n,rfl,hl,hR,qn,qs⟩
def Ey:Option Str->V
 |none=>.ax
 |some n=>.str n
@[irreducible] def t6:Sp:=fun vs H Q _=>∃ (l:Addr) (ws:List V) (rows:List (List Str)),vs = [.ref l]/\H l=some (.lst ws)/\dS H ws rows /\ ∀H',ak H H'->Q (Ey (d6 rows)) H'
theorem L4:b3 ["rest","row"] ["rest"] (aM zP):=⟨rfl,rfl,rfl,by decide +kernel,rfl,by decide +kernel,by decide +kernel⟩
theorem Vl (F:aU K "least_free" "least_free" zP f fd) (B:fg mg) (FW:aU K "wish_against" "wish_against" ur fW ql) (bW:Binds K ql ["rest","name"] []) (mW:mg "wish_against" = some (.ref fW)) :
  aD P w K mg base aR 2 f fd ["rest"] t6:=by
 have GW:aD P w K mg base aR 1 fW ql ["rest","name"] rC:=LZ FW B;refine F.ok L4 (fun vs H Q E h=>?_) (fun cdv A outer s H vs Q E hr h=>?_)
 ·unfold t6 at h;obtain⟨l,ws,rows,rfl,_⟩:=h;rfl
 ·unfold t6 at h
  obtain⟨l,ws,rows,rfl,hl,hR,q⟩:=h;have cJ:aS 1 _:=hr;refine⟨_,aB (i8 j4 rfl (fw (pv 0)) (bg (i:=1) L4.nd rfl (Or.inl rfl))
    (aO (fj (PW.pt (pw_and (qW (pv 1) (fun _=>rfl)) (pw_and1 (b5 zL (aQ GW cJ rfl mW FW.kp bW .nil a7 (ae (pv 0) (ae (bh pT (pv 1) aG (fun _ _=>rfl)) ah))) jF (cF _)))))
     (aO (b9 (bh pT (pv 1) aG (fun _ _=>rfl)))) fu)))
   (aO (b9 jF)),?_⟩
  refine⟨_,rfl,l,rfl,⟨_,aj.of hl⟩,og (xs:=ws) (fun i σ H1=>∃v1:Option V,σ = [some (.ref l),v1]/\ak H H1/\j9 rows (rows.drop i)=d6 rows) ⟨none,rfl,ak.refl _,by simp[d6]⟩ (fun i σ H1 _ ⟨_,_,z,_⟩=>aj.of (z _ _ hl)) ?_ ?_⟩
  ·rintro i x σ H1 hx ⟨v1,rfl,S1,hw⟩
   obtain⟨a,r,rfl,gO,gn⟩:=hR.get hx;have gq:=S1 _ _ gn;have Gj:rows.drop i=r::rows.drop (i+1):=by
    obtain⟨sN,rfl⟩:=cu.mp gO;exact BS sN
   rw[Gj]at hw;refine⟨_,rfl,!(r.map V.str).isEmpty,.inr (.inl ⟨_,aN.of gq,rfl⟩),?_⟩;cases r with
   |nil=>exact⟨_,rfl,S1,hw⟩
   |cons y r =>
    have hw:(if (cw 0 rows y).isNone then some y else j9 rows (rows.drop (i+1)))=d6 rows:=hw;refine⟨_,rfl,_,rfl,a,_,0,.str y,rfl,rfl,aN.of gq,jT,?_⟩;refine L3 (S1 _ _ hl) (hR.same S1) (fun en H2 S2=>?_) (fun j z es p H2 hp S2 h2=>?_)
    ·refine⟨rfl,_,rfl,?_⟩
     refine⟨_,rfl,a,_,0,.str y,rfl,rfl,aN.of (S2 _ _ gq),jT,?_⟩;rw[en]at hw;have e:d6 rows=some y:=hw.symm;have:=q H2 (S1.trans S2);rw[e]at this;exact this
    ·refine⟨rfl,_,rfl,?_⟩
     rw[es]at hw;exact⟨_,rfl,S1.trans S2,hw⟩
  ·rintro σ H1 ⟨v1,rfl,S1,hw⟩
   rw[hR.length,Jd]at hw;have e:d6 rows=none:=hw.symm;have:=q H1 S1;rw[e]at this;exact this
theorem Vm (hl:H l=some (.lst ws)) (hR:dS H ws rows) (q:∀H',ak H H'->Q (Ey (d6 rows)) H'):t6 [.ref l] H Q E:=by
 unfold t6;exact⟨l,ws,rows,rfl,hl,hR,q⟩
theorem CH (h:Nm x):(x.cps.toList.all fun c=>decide (c < 16 ^ 8))=true:=by
 rw[iW];intro c hc;have:=(h.az c hc).2;exact cZ (by omega)
def pZ (H:Hp) (v:V):Prop:= ∃ (a:Addr) (i:Nat) (x n:Str),v = .ref a/\H a=some (.tup [.int i,.str x,.str n])/\i < 10/\Nm x/\Nm n
theorem pZ.same (h:pZ H v) (s:ak H H'):pZ H' v:=let ⟨a,i,x,n,e,q,r⟩:=h;⟨a,i,x,n,e,s _ _ q,r⟩
theorem Ur:∀i:Nat,i < 10->PyData.leavesShort 13 (.int i)=true/\PyData.showable (.int i)=true:=by decide +kernel
theorem Jz {H:Hp}:∀ {vs:List V},(∀v∈vs,pZ H v) -> ∃ds,gT H vs ds/\PyData.showableAll ds=true/\PyData.hasDictAll ds=false/\PyData.depthAll ds<=1/\PyData.leavesShortAll 13 ds=true/\PyData.bulkAll ds<=25 * vs.length
 |[],_=>⟨[],.nil,rfl,rfl,bX _,rfl,bX _⟩
 |v::vs,h=>by
  obtain⟨ds,h1,h2,h3,h4,h5,h6⟩:=Jz (vs:=vs) fun u hu=>h u (bV _ hu);obtain⟨a,i,x,n,rfl,ha,hi,hx,hn⟩:=h v aV;obtain⟨s1,s2⟩:=Ur i hi;have s1':PyData.leavesShort 13 (.int (i:Int))=true:=s1;have s2':PyData.showable (.int (i:Int))=true:=s2;have z1:x.cps.size<=8:=hx.hi;have z2:n.cps.size<=8:=hn.hi;refine⟨.tuple [.int i,.str x,.str n]::ds,.cons (.tup ha (.cons (.int _) (.cons (.str _) (.cons (.str _) .nil)))) h1,?_,?_,?_,?_,?_⟩
  ·simp only[PyData.showableAll,PyData.showable,h2,B1]
   simpa [PyData.showable] using s2'
  ·simp only[PyData.hasDictAll,PyData.hasDict,h3,Rl]
  ·simp only[PyData.depthAll,PyData.depth];omega
  ·simp only[PyData.leavesShortAll,PyData.leavesShort,h5,CH hx,CH hn,B1]
   simpa [PyData.leavesShort] using s1'
  ·simp only[PyData.bulkAll,PyData.bulk,cO];omega
theorem JL (hp:H p=some (.tup vs)) (h:∀v∈vs,pZ H v) (a6:vs.length<=100):ke H (.ref p):=by
 obtain⟨ds,h1,h2,h3,h4,h5,h6⟩:=Jz h;refine .inr (.inr ⟨p,.tuple ds,rfl,.tup hp h1,h2,h3,?_,?_⟩)
 ·simp only[PyData.depth];omega
 ·have:=PyData.shown_le_bulk 13 (by decide) (.tuple ds) h5
  simp only[PyData.bulk]at this;omega
def heads (rows:List (List Str)):List Str:=rows.filterMap List.head?
theorem tP (rows:List (List Str)):(heads rows).length<=rows.length:=BQ _ _
theorem n6 {n:Str}:n∈heads rows ↔ ∃r∈rows,r.head? = some n:=by
 unfold heads;rw[qF]
theorem Cf:∀ {rows:List (List Str)}{k:Nat}{n:Str}{i:Nat}{x:Str},cw k rows n=some (i,x)->k<=i/\i < k+rows.length/\x∈heads rows
 |[],k,n,i,x,h=>by cases h
 |[]::rest,k,n,i,x,h=>by
  obtain⟨h1,h2,h3⟩:=Cf (rows:=rest) (k:=k+1) (n:=n) h;refine⟨by omega,by simp only[cO];omega,?_⟩
  obtain⟨r,hr,e⟩:=n6.mp h3;exact n6.mpr ⟨r,bV _ hr,e⟩
 |(y::r)::rest,k,n,i,x,h=>by
  have h:(if n∈y::r/\y≠n then some (k,y) else cw (k+1) rest n)=some (i,x):=h;split at h
  ·cases h
   exact⟨aK _,by simp only[cO];omega,n6.mpr ⟨_::r,aV,rfl⟩⟩
  ·obtain⟨h1,h2,h3⟩:=Cf (rows:=rest) (k:=k+1) (n:=n) h
   refine⟨by omega,by simp only[cO];omega,?_⟩
   obtain⟨r',hr,e⟩:=n6.mp h3;exact n6.mpr ⟨r',bV _ hr,e⟩
theorem za {all:List (List Str)}:∀ {rest:List (List Str)},j9 all rest=none -> ∀n∈heads rest,cw 0 all n≠none
 |[],_,n,hn=>by simp[heads]at hn
 |[]::rest,h,n,hn=>za (rest:=rest) h n hn
 |(y::r)::rest,h,n,hn=>by
  have h:(if (cw 0 all y).isNone then some y else j9 all rest)=none:=h;split at h
  ·cases h
  next hy =>
   have hn:n∈y::heads rest:=hn;rcases aY.mp hn with rfl|hn
   ·intro z;rw[z]at hy;exact hy rfl
   ·exact za h n hn
abbrev Wi:=Nat×Str×Str
def m8 (rows:List (List Str)):Nat->Str->List Str->List Wi->List Wi
 |0,_,_,_=>[]
 |k+1,nm,ps,ws=>if nm∈ps then (ws.drop (ps.idxOf nm)).reverse else
  match cw 0 rows nm with
  |some (i,x)=>m8 rows k x (ps ++ [nm]) (ws ++ [(i,x,nm)])
  |none=>[]
def pU (rows:List (List Str)):List Wi:=m8 rows (rows.length+1) ((heads rows).headD "") [] []
structure rF (At:Wi->Prop) (most:Nat) (W:List Wi):Prop where
 len:2<=W.length
 a6:W.length<=most
 at_:∀w∈W,At w
 turn:(W.map (·.2.1)).drop 1++(W.map (·.2.1)).take 1=W.map (·.2.2)
 nd:(W.map (·.2.1)).Nodup
def wX (rows:List (List Str)) (w:Wi):Prop:= ∃r,rows[w.1]? = some (w.2.1::r)/\w.2.2∈r/\w.2.1≠w.2.2
theorem Cg:∀ {rows:List (List Str)}{k:Nat}{n:Str}{i:Nat}{x:Str},cw k rows n=some (i,x) -> ∃j r,i=k+j/\rows[j]? = some (x::r)/\n∈r/\x≠n
 |[],k,n,i,x,h=>by cases h
 |[]::rest,k,n,i,x,h=>by
  obtain⟨j,r,h1,h2,h3⟩:=Cg (rows:=rest) (k:=k+1) (n:=n) h;exact⟨j+1,r,by omega,by simpa using h2,h3⟩
 |(y::r)::rest,k,n,i,x,h=>by
  have h:(if n∈y::r/\y≠n then some (k,y) else cw (k+1) rest n)=some (i,x):=h;split at h
  next c =>
   cases h
   refine⟨0,r,rfl,rfl,?_,c.2⟩;rcases aY.mp c.1 with z|z
   ·exact absurd z.symm c.2
   ·exact z
  ·obtain⟨j,r',h1,h2,h3⟩:=Cg (rows:=rest) (k:=k+1) (n:=n) h
   exact⟨j+1,r',by omega,by simpa using h2,h3⟩
theorem DL {hs:List Str} (nd:ps.Nodup) (h:∀n∈ps,n∈hs):ps.length<=hs.length:=by
 by_cases z:ps.length<=hs.length
 ·exact z
 ·obtain⟨y,hy,hn⟩:=wM (found:=hs) nd (by omega)
  exact absurd (h y hy) hn
theorem Kx {rows:List (List Str)} (hF:d6 rows=none):∀ {k:Nat}{nm:Str}{ps:List Str}{ws:List Wi},nm∈heads rows->(∀n∈ps,n∈heads rows)->ps.Nodup->(∀w∈ws,wX rows w)->ws.map (·.2.2)=ps->ws.map (·.2.1)=(ps ++ [nm]).tail ->
  k+ps.length=rows.length+1->rF (wX rows) rows.length (m8 rows k nm ps ws)
 |0,nm,ps,ws,hn,hp,nd,hw,e1,e2,hk=>by
  have:=DL nd hp;have:=tP rows;omega
 |k+1,nm,ps,ws,hn,hp,nd,hw,e1,e2,hk=>by
  unfold m8
  by_cases c:nm∈ps
  ·rw[au c]
   have hj:ps.idxOf nm < ps.length:=List.idxOf_lt_length_iff.mpr c;obtain⟨j,Gk⟩:∃j,ps.idxOf nm=j:=⟨_,rfl⟩;have AZ:ps[j]? = some nm:=by rw[<-Gk];rw[b4 hj];exact eY some (List.getElem_idxOf hj)
   rw[Gk]at hj ⊢;have d1:ps.drop j=nm::ps.drop (j+1):=by
    rw[BS hj];rw[b4 hj]at AZ;rw[fZ AZ]
   generalize ht:ps.drop (j+1)=t at d1;have f2:(ws.drop j).map (·.2.2)=nm::t:=by rw[RK,e1,d1]
   have f1:(ws.drop j).map (·.2.1)=t ++ [nm]:=by
    rw[RK,e2,<-List.drop_one,List.drop_drop,Nat.add_comm 1 j,List.drop_append_of_le_length (by omega),ht]
   have vh:(nm::t).Nodup:=by rw[<-d1];exact nd.sublist (List.drop_sublist _ _)
   have l1:(ws.drop j).length=t.length+1:=by
    have:=eY List.length f2
    rwa [aE,cO]at this
   have sub:∀w∈ws.drop j,wX rows w:=fun w h=>hw w (Je h);generalize ws.drop j=U at f1 f2 l1 sub;have tne:t ≠ []:=by
    rintro rfl
    match U,f1,f2,sub with
    |[w],f1,f2,sub =>
     obtain⟨r,_,_,ne⟩:=sub w aV;have g1:w.2.1=nm:=by simpa using f1
     have g2:w.2.2=nm:=by simpa using f2
     exact ne (g1.trans g2.symm)
   have tl:1<=t.length:=ah1.mpr tne;refine⟨by rw[IW];omega,?_,fun w h=>sub w (RL.mp h),?_,?_⟩
   ·have q1:=DL vh (hs:=heads rows) fun n h=>by
     rw[<-d1]at h;exact hp n (Je h)
    have q2:=tP rows;rw[cO]at q1;rw[IW];omega
   ·rw[RM,RM,f1,f2];simp
   ·rw[RM,f1]
    rw[List.reverse_append];exact gE.mpr ⟨fun z=>(gE.mp vh).1 (RL.mp z),(List.reverse_perm t).nodup_iff.mpr (gE.mp vh).2⟩
  ·rw[ao c]
   have nn:cw 0 rows nm≠none:=za hF nm hn;cases e:cw 0 rows nm with
   |none=>exact absurd e nn
   |some w =>
    obtain⟨i,x⟩:=w;obtain⟨j,r,hi,hr,hnr,ne⟩:=Cg e;have ij:i=j:=by omega
    subst ij;refine Kx hF (n6.mpr ⟨_,gP hr,rfl⟩) (fun n h=>?_) ?_ (fun w h=>?_) ?_ ?_ ?_
    ·rcases dX.mp h with h|h
     ·exact hp n h
     ·rw[d5.mp h];exact hn
    ·rw[mI]
     exact⟨nd,by simp,fun a ha b hb=>by rw[d5.mp hb];exact fun z=>c (z ▸ ha)⟩
    ·rcases dX.mp h with h|h
     ·exact hw w h
     ·rw[d5.mp h];exact⟨r,hr,hnr,ne⟩
    ·rw[bj,e1];rfl
    ·rw[bj,e2]
     cases ps with
     |nil=>rfl
     |cons y ps=>simp
    ·rw[cY,gF];omega
theorem Wl (hF:d6 rows=none) (hA:(rows.any fun r=>!r.isEmpty)=true):rF (wX rows) rows.length (pU rows):=by
 unfold pU;have:(heads rows).headD "" ∈ heads rows:=by
  obtain⟨r,hr,e⟩:=tw.mp hA;cases r with
  |nil=>simp at e
  |cons y r =>
   have:y∈heads rows:=n6.mpr ⟨_,hr,rfl⟩;cases q:heads rows with
   |nil=>rw[q]at this;simp at this
   |cons a t=>exact aV
 exact Kx hF this (by simp) qM (by simp) rfl rfl (by simp)
def DM (rows:List (List Str)) (w:Wi):Prop:= ∃pre post,rows[w.1]? = some (pre++w.2.1::post)/\w.2.2∈post/\w.2.1 ∉ pre/\w.2.2 ∉ pre/\w.2.1≠w.2.2
def Cut (rows rest:List (List Str)):Prop:=rest.length=rows.length /\ ∀ (i:Nat) (r:List Str),rest[i]? = some r -> ∃ (r0:List Str) (p:Str->Bool),rows[i]? = some r0/\r=r0.filter p
theorem Cut.refl (rows:List (List Str)):Cut rows rows:=⟨rfl,fun i r e=>⟨r,fun _=>true,e,(RN.mpr fun _ _=>rfl).symm⟩⟩
theorem Cut.without (h:Cut rows rest) (n:Str):Cut rows (L2.without n rest):=by
 refine⟨by unfold L2.without;rw[aE];exact h.1,fun i r e=>?_⟩
 unfold L2.without at e;rw[f6]at e;obtain⟨q,hq,rfl⟩:=iV.mp e;obtain⟨r0,p,h0,rfl⟩:=h.2 i q hq;exact⟨r0,_,h0,by rw[List.filter_filter]⟩
theorem Cut.ll (h:Cut rows rest) {w:Wi} (q:wX rest w):DM rows w:=by
 obtain⟨r,hr,hn,ne⟩:=q;obtain⟨r0,p,h0,e⟩:=h.2 _ _ hr;obtain⟨l1,l2,rfl,a1,a2,a3⟩:=List.filter_eq_cons_iff.mp e.symm;have Az:w.2.2∈l2/\p w.2.2=true:=by rw[<-a3]at hn;exact gD.mp hn
 exact⟨l1,l2,h0,Az.1,fun z=>a1 _ z a2,fun z=>a1 _ z Az.2,ne⟩
theorem rF.imp {At O7:Wi->Prop}{W:List Wi} (h:rF At m W) (f:∀w,At w->O7 w):rF O7 m W:=⟨h.len,h.a6,fun w q=>f w (h.at_ w q),h.turn,h.nd⟩
def rD:Nat->List (List Str)->List (List Str)
 |0,rest=>rest
 |k+1,rest=>match d6 rest with
  |some n=>rD k (L2.without n rest)
  |none=>rest
theorem To {k:Nat}{n:Str} (h:d6 rest=some n):rD (k+1) rest=rD k (L2.without n rest):=by
 show(match d6 rest with|some n=>_|none=>_)=_;rw[h]
theorem Tp {k:Nat} (h:d6 rest=none):rD k rest=rest:=by
 cases k with
 |zero=>rfl
 |succ k=>show(match d6 rest with|some n=>_|none=>_)=_;rw[h]
def uu (rows:List (List Str)):List Wi:=pU (rD 1000 rows)
theorem Wm {k:Nat}{nm:Str}{W:List Wi} (h:nm ∉ ps) (e:cw 0 rows nm=some (j,x)):m8 rows (k+1) nm ps W=m8 rows k x (ps ++ [nm]) (W ++ [(j,x,nm)]):=by
 rw[m8,ao h,e]
theorem Vn {k:Nat}{nm:Str}{W:List Wi} (h:nm∈ps):m8 rows (k+1) nm ps W=(W.drop (ps.idxOf nm)).reverse:=by
 rw[m8,au h]
theorem Ky:∀ {ps:List Str}{n:Str}{j:Nat},ps[j]? = some n->(∀m:Nat,m < j->ps[m]? ≠ some n)->ps.idxOf n=j
 |[],n,j,h,_=>by simp at h
 |x::ps,n,0,h,_=>by
  have:x=n:=by simpa using h
  rw[this];exact List.idxOf_cons_self
 |x::ps,n,j+1,h,q=>by
  have ne:x≠n:=fun z=>q 0 (by omega) (by simp[z])
  rw[List.idxOf_cons,show(x==n)=false from pA.mpr ne,cond_false,Ky (j:=j) (by simpa using h) fun m hm=>by simpa using q (m+1) (by omega)]
def lA (H:Hp):List V->List Wi->Prop:=Paired fun v w=>∃a,v=V.ref a/\H a=some (.tup [.int w.1,.str w.2.1,.str w.2.2])
theorem Kz {W:List Wi}{w:Wi} (h:lA H vs W) (q:∃a,v=V.ref a/\H a=some (.tup [.int w.1,.str w.2.1,.str w.2.2])):lA H (vs ++ [v]) (W ++ [w]):=by
 induction h with
 |nil=>exact .cons q .nil
 |cons p _ ih=>exact .cons p ih
theorem Wn {W:List Wi} (h:lA H vs W):lA H (vs.drop j) (W.drop j):=by
 induction h generalizing j with
 |nil=>simp;exact .nil
 |cons p t ih =>
  cases j with
  |zero=>exact .cons p t
  |succ j=>exact ih
theorem Xh {W:List Wi} (h:lA H vs W):lA H vs.reverse W.reverse:=by
 induction h with
 |nil=>exact .nil
 |cons p t ih=>rw[IF,IF];exact Kz ih p
theorem Vo (xs:List V) (k:Nat):du xs (some (k:Int)) none=xs.drop k:=by
 unfold du;rw[HT.CP,HT.Dh]
 by_cases h:k<=xs.length
 ·rw[RO h,yZ (by rw[IC];omega)]
 ·rw[RP (by omega),Jd,Rv (by omega)];simp
theorem wY (xs:List V) (k:Nat):du xs none (some (k:Int))=xs.take k:=by
 unfold du;rw[HT.CP,HT.Dh]
 by_cases h:k<=xs.length
 ·rw[RO h];simp
 ·rw[RP (by omega)];simp;rw[yZ (by omega)]
theorem Tq {a:Expr} (K:Frag) (h:X.K=K) (ha:PE X a ta) (he:∀whole,isTrue a X.env whole=(do let v <- whole;standAt a.pos;holding [v] (truthy v))) :
  PT X a (fun σ H Q=>ta σ H fun x H'=>∃k,Ed K x H' k/\Q k H'):=by subst h;exact qW ha he
def Dw (s:Stmt):List Stmt:=match s with|.For _ _ b _ _=>b|_=>[]
def tQ (s:Stmt):List Stmt:=match s with|.While _ b _ _=>b|_=>[]
def cL (l:List Stmt) (i:Nat):Stmt:=l.getD i (.Pass ⟨0,0,0,0⟩)
def fb (s:Stmt):Expr:=match s with|.Assign _ v _=>v|_=>.Constant .none 0 ⟨0,0,0,0⟩
def nu (s:Stmt):Expr:=match s with|.Return (some v) _=>v|_=>.Constant .none 0 ⟨0,0,0,0⟩
def iz (e:Expr):Expr:=match e with|.Call _ (a::_) _ _=>a|_=>.Constant .none 0 ⟨0,0,0,0⟩
def Ez (e:Expr):Expr:=match e with|.Subscript a _ _=>a|_=>.Constant .none 0 ⟨0,0,0,0⟩
def MX (e:Expr):Expr:=match e with|.ListComp x _ _ _=>x|_=>.Constant .none 0 ⟨0,0,0,0⟩
def cW (e:Expr):Scope:=match e with|.ListComp _ _ sc _=>sc|_=>{ kind:= .function,names:= [],isGenerator:=false,isCoroutine:=false }
theorem boot_tuple:bootBuiltins "tuple" = some (.type "tuple"):=by decide +kernel
theorem boot_list:bootBuiltins "list" = some (.type "list"):=by decide +kernel
structure Small (rows:List (List Str)):Prop where
 a6:rows.length<=10
 short:∀r∈rows,r.length<=20
 nm:∀r∈rows,∀n∈r,Nm n
theorem Small.head (S:Small rows) {n:Str} (h:n∈heads rows):Nm n:=by
 obtain⟨r,hr,e⟩:=n6.mp h;exact S.nm r hr n (RQ e)
@[irreducible] def t8:Sp:=fun vs H Q _=>∃ (l:Addr) (ws:List V) (rows:List (List Str)),vs = [.ref l]/\H l=some (.lst ws)/\dS H ws rows/\Small rows/\d6 rows=none/\(rows.any fun r=>!r.isEmpty)=true /\
 ∀p vs H',ak H H'->H p=none->H' p=some (.tup vs)->lA H' vs (pU rows)->ke H' (.ref p)->Q (.ref p) H'
abbrev Mw:List Str:= ["rest","name","passed","wishes","wish","around"]
theorem rj:b3 Mw ["rest"] (aM uf):=⟨rfl,rfl,rfl,by decide +kernel,rfl,by decide +kernel,by decide +kernel⟩
abbrev ZX:Scope:=cW (Ez (fb (cL (cA uf) 0)))
theorem NT:cj Mw (aM uf) ["row"] [none] ZX:=⟨rfl,by decide +kernel,by decide +kernel,rfl,d9 (by decide +kernel),by decide +kernel⟩
theorem Tr (rows:List (List Str)) (h:(rows.any fun r=>!r.isEmpty)=true):∃x t,heads rows=x::t:=by
 obtain⟨r,hr,e⟩:=tw.mp h;cases r with
 |nil=>simp at e
 |cons y r =>
  have:y∈heads rows:=n6.mpr ⟨_,hr,rfl⟩;cases q:heads rows with
  |nil=>rw[q]at this;simp at this
  |cons a t=>exact⟨a,t,rfl⟩
theorem Le:∀ {ps:List Str}{n:Str},n∈ps -> ∃j:Nat,ps[j]? = some n /\ ∀m:Nat,m < j->ps[m]? ≠ some n
 |[],n,h=>by simp at h
 |x::ps,n,h=>by
  by_cases e:x=n
  ·exact⟨0,by rw[e];rfl,fun m hm=>by omega⟩
  ·have h':n∈ps:=by
    rcases aY.mp h with z|z
    ·exact absurd z.symm e
    ·exact z
   obtain⟨j,h1,h2⟩:=Le h';refine⟨j+1,by simpa using h1,fun m hm=>?_⟩
   cases m with
   |zero=>simpa using e
   |succ m=>simpa using h2 m (by omega)
structure L5 (H:Hp) (rows:List (List Str)) (l pa wa:Addr) (m:Nat) (σ:St) (H1:Hp) (nm:Str) (ps:List Str) (wv:List V) (W:List Wi):Prop where
 st:∃v4:Option V,σ = [some (.ref l),some (.str nm),some (.ref pa),some (.ref wa),v4,none]
 mm:m=rows.length - ps.length
 hn:nm∈heads rows
 hp:∀n∈ps,n∈heads rows
 nd:ps.Nodup
 pa:H1 pa=some (.lst (ps.map V.str))
 wa:H1 wa=some (.lst wv)
 ln:wv.length=ps.length
 O8:∀v∈wv,pZ H1 v
 sm:ak H H1
 pw:lA H1 wv W
 eq:m8 rows (rows.length+1 - ps.length) nm ps W=pU rows
theorem DN {hs:List Str} (nd:ps.Nodup) (h:∀n∈ps,n∈hs):ps.length<=hs.length:=by
 by_cases z:ps.length<=hs.length
 ·exact z
 ·obtain⟨y,hy,hn⟩:=wM (found:=hs) nd (by omega)
  exact absurd (h y hy) hn
theorem Vp (F:aU K "ring_within" "ring_within" uf f fd) (B:fg mg) (FW:aU K "wish_against" "wish_against" ur fW ql) (bW:Binds K ql ["rest","name"] []) (mW:mg "wish_against" = some (.ref fW)) :
  aD P w K mg base aR 2 f fd ["rest"] t8:=by
 have GW:aD P w K mg base aR 1 fW ql ["rest","name"] rC:=LZ FW B;refine F.ok rj (fun vs H Q E h=>?_) (fun cdv A outer s H vs Q E hr h=>?_)
 ·unfold t8 at h;obtain⟨l,ws,rows,rfl,_⟩:=h;rfl
 ·unfold t8 at h
  obtain⟨l,ws,rows,rfl,hl,hR,hS,hF,hA,q⟩:=h;have cJ:aS 1 _:=hr;refine⟨_,aB (aZ (i:=1) rj.nd rfl (Or.inl rfl) (bh cz (eQ rfl NT (fw (pv 0)) (fun s H fp=>⟨bg (i:=0) NT.nd rfl (Or.inl rfl),i3 (Tq K rfl (pv 0) (fun _=>rfl)),bh (zw K rfl) (pv 0) aG (fun _ _=>rfl)⟩)) aG (fun _ _=>rfl)))
   (aB (aZ (i:=2) rj.nd rfl (Or.inl rfl) (a9 ah))
   (aB (aZ (i:=3) rj.nd rfl (Or.inl rfl) (a9 ah))
   (aB (vX j4 (b5 zb (pv 1) (pv 2) rfl)
    (aB (eP (j' mJ pJ pK kZ (pv 2) (ae (pv 1) ah)))
    (aB (aZ (i:=4) rj.nd rfl (Or.inl rfl) (aQ GW cJ rfl mW FW.kp bW .nil a7 (ae (pv 0) (ae (pv 1) ah))))
    (aB (eP (j' mJ pJ pK kZ (pv 3) (ae (pv 4) ah)))
    (aO (aZ (i:=1) rj.nd rfl (Or.inl rfl) (bh pT (pv 4) aG (fun _ _=>rfl))))))))
   (aB (aZ (i:=5) rj.nd rfl (Or.inl rfl) (lM rg (pv 3) (k7 (j' mJ PySem.F.slot_list_index PySem.F.type_list_index UU (pv 2) (ae (pv 1) ah))) lO))
   (aO (b9 (f7 lK rfl B.tuple boot_tuple (ae (Xb (pv 5)) ah)))))))),?_⟩
  refine⟨_,rfl,l,rfl,⟨_,aj.of hl⟩,fun a1 gq=>?_⟩;refine jC (xs:=ws) (fun i zs τ H1=>∃t0:Option V,zs=(heads (rows.take i)).map V.str/\τ = [t0]/\H1=upd H a1 (.lst zs)) ⟨none,rfl,rfl,rfl⟩ (fun i zs τ H1 ⟨_,_,_,z⟩=>by rw[z];exact⟨af,aj.of (by rw[ai (aq hl gq)];exact hl)⟩) ?_ ?_
  ·rintro i x zs τ H1 hx ⟨t0,rfl,rfl,rfl⟩
   obtain⟨a,r,rfl,gO,gn⟩:=hR.get hx;have aT:i < ws.length:=(cu.mp hx).1;have jq:(upd H a1 (.lst ((heads (rows.take i)).map V.str))) a=some (.tup (r.map V.str)):=by rw[ai (aq gn gq)];exact gn
   have tk:rows.take (i+1)=rows.take i ++ [r]:=by rw[dZ,gO];rfl
   refine⟨_,rfl,!(r.map V.str).isEmpty,.inr (.inl ⟨_,aN.of jq,rfl⟩),?_⟩;cases r with
   |nil=>exact cw_next aT ⟨_,by rw[tk];simp[heads],rfl,rfl⟩
   |cons y r =>
    refine⟨_,rfl,a,_,0,.str y,rfl,rfl,aN.of jq,jT,af,?_,cw_next aT ⟨_,?_,rfl,by rw[gR]⟩⟩
    ·have h1:=tP (rows.take i)
     have h2:(rows.take i).length<=rows.length:=by rw[dh];omega
     have h3:=hS.a6;rw[aE,aI];omega
    ·rw[tk];simp[heads]
  ·rintro zs τ H1 ⟨t0,rfl,rfl,rfl⟩
   rw[hR.length,eF];obtain⟨x0,ht,nJ⟩:=Tr rows hA;rw[nJ];refine⟨a1,_,0,.str x0,rfl,rfl,aj.of af,jT,?_⟩;have S0:=ar (o:= .lst ((x0::ht).map V.str)) gq;refine⟨bX _,fun pa iH=>⟨bX _,fun wa nK=>?_⟩⟩;have S1:=S0.trans (ar (o:= .lst []) iH);have S2:=S1.trans (ar (o:= .lst []) nK);have ZY:H pa=none:=S0.free iH;have EA:H wa=none:=S1.free nK;have Gm:pa≠wa:=aq af nK;refine⟨fun m σ H1=>∃nm ps wv W,L5 H rows l pa wa m σ H1 nm ps wv W,⟨_,x0,[],[],[],⟨none,rfl⟩,rfl,by rw[nJ];exact aV,(fun n hn=>by simp at hn),qM,by rw[ai Gm];exact af,af,rfl,(fun v hv=>by simp at hv),S2,.nil,by unfold pU;rw[nJ];rfl⟩,?_⟩
   rintro m σ H1 ⟨nm,ps,wv,W,R⟩;obtain⟨v4,rfl⟩:=R.st;have ain:ps.length<=10:=by
    have h1:=DN R.nd R.hp;have h2:=tP rows;have h3:=hS.a6;omega
   refine⟨_,rfl,_,rfl,pa,_,rfl,.inl (aj.of R.pa),rfl,jD _,_,rfl,?_⟩;rw[au rfl,j6];refine d4 (fun hn=>?_) (fun hn=>?_)
   ·have fo:nm ∉ ps:=by simpa using hn
    have nd1:(nm::ps).Nodup:=gE.mpr ⟨fo,R.nd⟩;have ZZ:(nm::ps).length<=rows.length:=cK (DN nd1 fun n z=>by
     rcases aY.mp z with rfl|z
     ·exact R.hn
     ·exact R.hp n z) (tP rows)
    refine⟨fun aJ H'=>∃m',m' < m /\ ∃nm ps wv W,L5 H rows l pa wa m' aJ H' nm ps wv W,fun _ _ z=>z,?_⟩;refine⟨_,rfl,.inl ⟨rfl,_,aj.of R.pa⟩,_,rfl,pa,_,_,rfl,rfl,R.pa,by rw[aE,aI];omega,?_⟩
    have S3:ak H (upd H1 pa (.lst (ps.map V.str ++ [.str nm]))):=fun b o e=>by rw[ai (aq e ZY)];exact R.sm b o e
    refine⟨_,rfl,_,rfl,L3 (S3 _ _ hl) (hR.same S3) (fun en=>absurd en (za hF nm R.hn)) (fun j x es p H3 hp S4 h3=>?_)⟩;obtain⟨_,hj,hx⟩:=Cf es;have EB:H3 wa=some (.lst wv):=S4 _ _ (by rw[ai (aH Gm)];exact R.wa)
    have Z0:H3 pa=some (.lst (ps.map V.str ++ [.str nm])):=S4 _ _ af;refine⟨_,rfl,.inl ⟨rfl,_,aj.of EB⟩,_,rfl,wa,_,_,rfl,rfl,EB,by rw[R.ln,aI];omega,?_⟩
    have S5:ak H (upd H3 wa (.lst (wv ++ [.ref p]))):=fun b o e=>by rw[ai (aq e EA)];exact S4 _ _ (S3 b o e)
    have Z1:p≠wa:=b6 h3 EB (by intro z;cases z)
    have A5:(upd H3 wa (.lst (wv ++ [.ref p]))) p=some (.tup [.int j,.str x,.str nm]):=by rw[ai Z1];exact h3
    have Yq:∀v,pZ H1 v->pZ (upd H3 wa (.lst (wv ++ [.ref p]))) v:=fun v ⟨a,i,y,n,e,ha,r⟩=>⟨a,i,y,n,e,by
     have n1:a≠pa:=b6 ha R.pa (by intro z;cases z)
     have n2:a≠wa:=b6 ha R.wa (by intro z;cases z)
     rw[ai n2];exact S4 _ _ (by rw[ai n1];exact ha),r⟩
    refine⟨_,rfl,p,_,1,.str x,rfl,rfl,aN.of A5,(show cg [V.int j,.str x,.str nm] ((1:Nat):Int)=some (V.str x) from dq rfl),?_⟩;have aif:ps.length+1<=rows.length:=by simpa using ZZ
    have Eg:=hS.a6;refine⟨rows.length - (ps ++ [nm]).length,by rw[R.mm,cY];simp only[gF];omega,x,ps ++ [nm],wv ++ [.ref p],W ++ [(j,x,nm)],⟨_,rfl⟩,rfl,hx,?_,?_,?_,af,?_,?_,S5,?_,?_⟩
    ·intro n z
     rcases dX.mp z with z|z
     ·exact R.hp n z
     ·have:n=nm:=by simpa using z
      rw[this];exact R.hn
    ·rw[mI]
     exact⟨R.nd,by simp,fun a ha b hb=>by rw[show b=nm by simpa using hb];exact fun h=>fo (h ▸ ha)⟩
    ·rw[ai Gm,Z0,bj];rfl
    ·rw[cY,cY,R.ln];rfl
    ·intro v z
     rcases dX.mp z with z|z
     ·exact Yq v (R.O8 v z)
     ·have:v = .ref p:=by simpa using z
      rw[this];exact⟨p,j,x,nm,rfl,A5,by omega,hS.head hx,hS.head R.hn⟩
    ·refine Kz (Paired.imp' (fun v w' ⟨a,e,ha⟩=>⟨a,e,?_⟩) R.pw) (w:=(j,x,nm)) ⟨p,rfl,A5⟩
     have n1:a≠pa:=b6 ha R.pa (by intro z;cases z)
     have n2:a≠wa:=b6 ha R.wa (by intro z;cases z)
     rw[ai n2];exact S4 _ _ (by rw[ai n1];exact ha)
    ·rw[<-R.eq]
     obtain⟨k,hk⟩:∃k,rows.length+1 - ps.length=k+1:=⟨rows.length - ps.length,by omega⟩
     rw[hk,show rows.length+1 - (ps ++ [nm]).length=k by rw[cY,gF];omega]
     exact(Wm fo es).symm
   ·have fo:nm∈ps:=by simpa using hn
    obtain⟨j,hj,iE⟩:=Le fo;refine⟨_,rfl,_,rfl,.inl ⟨rfl,_,aj.of R.pa⟩,_,rfl,pa,ps,nm,j,rfl,rfl,R.pa,hj,iE,_,rfl,wa,wv,rfl,aj.of R.wa,fun p5 x5=>?_⟩;refine⟨_,rfl,p5,_,rfl,aj.of af,fun p6 A6=>?_⟩;refine⟨p6,_,rfl,.inl ⟨aj.of af,fun p7 O9=>?_⟩⟩;have T5:=R.sm.trans (ar (o:= .lst (du wv (some (j:Int)) none)) x5);have T1:ak H1 _:=(ar (o:= .lst (du wv (some (j:Int)) none)) x5).trans ((ar (o:= .lst (du wv (some (j:Int)) none).reverse) A6).trans (ar (o:= .tup (du wv (some (j:Int)) none).reverse) O9));refine q p7 _ _ (R.sm.trans T1) ((R.sm.trans ((ar (o:= .lst (du wv (some (j:Int)) none)) x5).trans (ar (o:= .lst (du wv (some (j:Int)) none).reverse) A6))).free O9) af ?_ (JL af (fun v hv=>?_) ?_)
    ·have ej:ps.idxOf nm=j:=Ky hj iE
     obtain⟨k,hk⟩:∃k,rows.length+1 - ps.length=k+1:=⟨rows.length - ps.length,by have:=DN R.nd R.hp;have:=tP rows;omega⟩
     rw[<-R.eq,hk,Vn fo,ej];rw[show du wv (some (j:Int)) none=wv.drop j from Vo _ _]at T1 ⊢;exact Xh (Wn (Paired.imp' (fun v w' ⟨a,e,ha⟩=>⟨a,e,T1 _ _ ha⟩) R.pw))
    ·have hv1:v∈du wv (some (j:Int)) none:=RL.mp hv
     exact(R.O8 v (Je (y4 hv1))).same T1
    ·have h1:=Cc wv (some (j:Int)) none
     rw[IW];have:=R.ln;omega
theorem Vq (hl:H l=some (.lst ws)) (hR:dS H ws rows) (hS:Small rows) (hF:d6 rows=none) (hA:(rows.any fun r=>!r.isEmpty)=true)
  (q:∀p vs H',ak H H'->H p=none->H' p=some (.tup vs)->lA H' vs (pU rows)->ke H' (.ref p)->Q (.ref p) H'):t8 [.ref l] H Q E:=by
 unfold t8;exact⟨l,ws,rows,rfl,hl,hR,hS,hF,hA,q⟩
theorem JM (h:total rest=0):(rest.any fun r=>!r.isEmpty)=false:=by
 cases e:rest.any fun r=>!r.isEmpty with
 |false=>rfl
 |true=>have:=CF e;omega
theorem tR {n:Str} (h:d6 rest=some n):∃r∈rest,n∈r:=by
 obtain⟨r,hr,e⟩:=y9 h;exact⟨r,hr,RQ e⟩
theorem JN:∀ (k:Nat) (r:List (List Str)),total r<=k -> ∀j,total r<=j->bq k r=bq j r
 |0,r,h,j,_=>by
  have z:=JM (show total r=0 by omega)
  cases j with
  |zero=>rfl
  |succ j=>unfold bq;rw[ao (by rw[z];exact cX)]
 |k+1,r,h,0,hj=>by
  have z:=JM (show total r=0 by omega)
  unfold bq;rw[ao (by rw[z];exact cX)]
 |k+1,r,h,j+1,hj=>by
  unfold bq;split
  ·cases e:d6 r with
   |none=>rfl
   |some n =>
    have:=tG (tR e);show Option.map _ _=Option.map _ _;rw[JN k (without n r) (by omega) j (by omega)]
  ·rfl
theorem Cp {r:List (List Str)} (h:(r.any fun r=>!r.isEmpty)=false):bq (total r) r=some []:=by
 cases total r with
 |zero=>rfl
 |succ k=>unfold bq;rw[ao (by rw[h];exact cX)]
theorem Cq {r:List (List Str)} (h:(r.any fun r=>!r.isEmpty)=true) (e:d6 r=none):bq (total r) r=none:=by
 have:=CF h;cases q:total r with
 |zero=>omega
 |succ k=>unfold bq;rw[au h,e]
theorem Cr {r:List (List Str)}{n:Str} (h:(r.any fun r=>!r.isEmpty)=true) (e:d6 r=some n):bq (total r) r=(bq (total (without n r)) (without n r)).map (n :: ·):=by
 have:=tG (tR e);cases q:total r with
 |zero=>omega
 |succ k =>
  show(if (r.any fun r=>!r.isEmpty)=true then _ else _)=_;rw[au h,e];show Option.map _ _=_;rw[JN k (without n r) (by omega) _ (aK _)]
theorem Jr {env:Env}:∀ {names:List (Str×NameKind)}{x:Str},names.lookup x=some .cell ->
  (names.map fun(n,k)=>if (k==NameKind.free && env.scope.kind == .function && env.kindOf n==some .cell) then (n,NameKind.cell) else (n,k)).lookup x=some .cell
 |[],_,h=>by simp at h
 |(n,k0)::r,x,h=>by
  have ih:=@Jr env r x;show List.lookup x ((if (k0==NameKind.free && env.scope.kind == .function && env.kindOf n==some .cell)=true then (n,NameKind.cell) else (n,k0))::_)=_;rw[iU]at h;cases hx:x==n with
  |true =>
   rw[hx]at h;cases h
   rw[ao (by simp),iU,hx]
  |false =>
   rw[hx]at h
   by_cases hc:(k0==NameKind.free && env.scope.kind == .function && env.kindOf n==some .cell)=true
   ·rw[au hc,iU,hx];exact ih h
   ·rw[ao hc,iU,hx];exact ih h
theorem nest {vm:Scope} (kind:sc.kind = .function) (keys:(sc.names.map (·.1)).Nodup) (nd:N'.Nodup) (len:cE.length=N'.length) (fv:NH N N' cE sc=true)
  (free:∀p∈sc.names,p.2 = .free->vm.names.lookup p.1=some .cell\/vm.names.lookup p.1=some .free):cj N (relabel vm env) N' cE sc:=
 ⟨kind,keys,nd,len,d9 fv,fun p hp e=>by
  rcases free p hp e with z|z
  ·exact .inl (Jr z)
  ·exact B7 z⟩
theorem Js (K:Frag) (h:X.K=K):eV X (.type "tuple") (fun xs H Q=>∃p ys,xs = [.ref p]/\((aj K H p ys /\ ∀l,H l=none->Q (.ref l) (upd H l (.tup ys)))\/(aN K H p ys/\Q (.ref p) H))):=by subst h;exact lK
theorem boot_any:bootBuiltins "any" = some (.builtin "any"):=by decide +kernel
def DO (K:Frag) (C:Addr):Bool:=
 findIn K (.ref C) "__getattribute__" == some (some (.builtin "BaseException.__getattribute__")) && (findIn K (.ref C) "__getattr__" == some none && (findIn K (.ref C) "__setattr__" == some (some (.builtin "object.__setattr__")) && (hasDictIn K C &&
 (((clsIn K C).any fun cd=>uk cd.mro) && (mroIn K C (.type "BaseException")==some true && (mroIn K C (.type "ValueError")==some true && (mroIn K C (.type "object")==some true && (findIn K (.ref C) "__class__" == some (some (.builtin "object.__class__")) &&
 (specialIn K (.builtin "object.__class__") "__get__" == some (some (.builtin "getset_descriptor.__get__")) && takesIn K (.builtin "object.__class__")==some true)))))))))
theorem Wo (h:DO K C=true):df K C:=by
 unfold DO at h;simp only[jA,eN]at h;obtain⟨a,b,c,d,e,f,g,i,j,k,l⟩:=h;exact⟨a,b,c,d,e,f,g,i,j,k,l⟩
def xF (a:Addr) (H H':Hp):Prop:= ∀b o,H b=some o->b≠a->H' b=some o
@[irreducible] def m9 (K:Frag) (f g:Str):Sp:=fun vs H Q _=>∃ (a C:Addr) (k r:V) (i:Option Value),vs = [.ref a,k,r]/\H a=some (bE C none a)/\df K C/\dj K C i=true/\ke H k/\ke H r/\findIn K (.ref C) f=some none/\findIn K (.ref C) g=some none /\
 ∀d H',H d=none->d≠a->H' a=some (bE C (some d) a)->H' d=some (dv d [(f,k),(g,r)])->xF a H H'->Q .ax H'
theorem C4 {fs:List (Str×V)} (hd:H d=none):xF a H (upd (upd H d (dv d fs)) a (bE C (some d) a)):=fun b o e n=>by
 rw[ai n,ai (aq e hd)];exact e
theorem Mx:b3 ["self","kind","ring"] ["self","kind","ring"] (aM pY):=⟨rfl,rfl,rfl,by decide +kernel,rfl,by decide +kernel,by decide +kernel⟩
theorem Wq (F:aU K "__init__" "Ring.__init__" pY f fd) (b:rA K B) (mB:mg "LineError" = some (.ref B)):aD P w K mg base aR 1 f fd ["self","kind","ring"] (m9 K "kind" "ring"):=by
 refine F.ok Mx (fun vs H Q E h=>?_) (fun cdv A outer s H vs Q E hr h=>?_)
 ·unfold m9 at h;obtain⟨a,C,k,r,i,rfl,_⟩:=h;rfl
 ·unfold m9 at h
  obtain⟨a,C,k,r,i,rfl,ha,c,qi,fk,fr,nk,nr,q⟩:=h;have hu:=hr.units;have hg:=hr.gd;refine⟨_,aB (eP (Cd b rfl mB (ae (pv 0) (ae (wz (jE eT (jE (rz hu hg (pv 1)) (jE eT (jE (rz hu hg (pv 2)) wK))))) ah))))
   (aB (Dk (pv 0) (pv 1)) (aO (KW (pv 0) (pv 2)))),?_⟩
  refine⟨_,rfl,⟨_,rfl,by decide +kernel⟩,_,rfl,fk,fun y1 mh=>⟨⟨_,rfl,mh⟩,⟨_,rfl,by decide +kernel⟩,_,rfl,fr,fun y2 xY=>⟨⟨_,rfl,xY⟩,fun y hy=>?_⟩⟩⟩
  refine⟨a,C,none,_,i,rfl,ha,c,qi,?_⟩;refine⟨_,rfl,_,rfl,a,C,rfl,ha,c,nk,fun d hd jr=>?_⟩;refine⟨_,rfl,_,rfl,a,C,d,_,rfl,af,(by rw[ai jr];exact af),c,nr,(by show 1 < 100;decide),?_⟩
  refine q d _ hd jr ?_ af fun b o e n=>?_
  ·rw[ai (aH jr)];exact af
  ·rw[ai (aq e hd)];exact C4 hd b o e n
abbrev L6:List Str:= ["rows","order","rest","name"]
theorem wk:b3 L6 ["rows"] (aM wD):=⟨rfl,rfl,rfl,by decide +kernel,rfl,by decide +kernel,by decide +kernel⟩
abbrev NU:Expr:=fb (cL (tQ (cL (cA wD) 2)) 3)
abbrev vm:Scope:=cW NU
abbrev scI:Scope:=cW (iz (MX NU))
theorem O':cj L6 (aM wD) ["row","name"] [none,some 3] vm:=⟨rfl,by decide +kernel,by decide +kernel,rfl,d9 (by decide +kernel),by decide +kernel⟩
theorem csI:cj ["row","name"] (relabel vm env) ["other","name"] [none,some 1] scI:=nest rfl (by decide +kernel) (by decide +kernel) rfl (by decide +kernel) (by decide +kernel)
theorem ndI:(["other","name"]:List Str).Nodup:=by decide +kernel
structure D4 (K:Frag) (mg:Str->Option Value) (B C fI:Addr) (mq:FuncData):Prop where
 mC:mg "Ring" = some (.ref C)
 q:dj K C (some (.ref fI))=true
 fn:isFn K (.ref fI)=true
 kp:keepIn K (.ref C)=true
 F:aU K "__init__" "Ring.__init__" pY fI mq
 b:rA K B
 mB:mg "LineError" = some (.ref B)
 bi:Binds K mq ["self","kind","ring"] []
 x:df K C
 nk:findIn K (.ref C) "kind" = some none
 nr:findIn K (.ref C) "ring" = some none
theorem Lf {x:V} (h:ke H x) (s:ak H H'):ke H' x:=by
 rcases h with h|h|⟨a,d,e,r,q⟩
 ·exact .inl h
 ·exact .inr (.inl h)
 ·exact .inr (.inr ⟨a,d,e,r.same s,q⟩)
theorem two_sp {f g:Str}{k r:V}{i:Option Value} (ha:H a=some (bE C none a)) (x:df K C) (q:dj K C i=true) (fk:ke H k) (fr:ke H r) (nk:findIn K (.ref C) f=some none) (nr:findIn K (.ref C) g=some none)
  (h:∀d H',H d=none->d≠a->H' a=some (bE C (some d) a)->H' d=some (dv d [(f,k),(g,r)])->xF a H H'->Q .ax H'):m9 K f g [.ref a,k,r] H Q E:=by
 unfold m9;exact⟨a,C,k,r,i,rfl,ha,x,q,fk,fr,nk,nr,h⟩
theorem KC (h:dS H vs rows) (s:∀b xs,H b=some (.tup xs)->H' b=some (.tup xs)):dS H' vs rows:=Paired.imp' (fun _ _ ⟨a,e,q⟩=>⟨a,e,s _ _ q⟩) h
theorem Jo {n:Str} (S:Small rest):Small (without n rest):=by
 refine⟨by unfold L2.without;rw[aE];exact S.a6,fun r hr=>?_,fun r hr y hy=>?_⟩
 ·obtain⟨q,hq,rfl⟩:=bw.mp hr
  exact cK (iY _ _) (S.short q hq)
 ·obtain⟨q,hq,rfl⟩:=bw.mp hr
  exact S.nm q hq y (gD.mp hy).1
structure NV (H:Hp) (rows:List (List Str)) (t oa:Addr) (m:Nat) (σ:St) (H1:Hp) (rest:List (List Str)) (ws:List V) (acc:List Str) (rl:Addr):Prop where
 st:∃v3:Option V,σ = [some (.ref t),some (.ref oa),some (.ref rl),v3]
 mm:m=total rest
 o7:H1 oa=some (.lst (acc.map V.str))
 kJ:H1 rl=some (.lst ws)
 rr:dS H1 ws rest
 sm:Small rest
 ne:rl≠oa
 same:ak H H1
 lim:acc.length+total rest<=1000
 eq:bq (total rows) rows=(bq (total rest) rest).map (acc ++ ·)
 l0:rD 1000 rows=rD (1000 - acc.length) rest
 cut:Cut rows rest
theorem vS:∀ {rows:List (List Str)},(∀r∈rows,r.length<=20)->total rows<=20 * rows.length
 |[],_=>bX _
 |r::rows,h=>by
  have h1:=vS fun q hq=>h q (bV _ hq);have h2:=h r aV;have e:total (r::rows)=r.length+total rows:=by simp[total]
  rw[e,cO];omega
theorem Vr (h:dS H ws rows):Paired (fun y r=>∃a,y=V.ref a/\aN K H a r) ws (rows.map fun r=>r.map V.str):=by
 induction h with
 |nil=>exact .nil
 |cons p _ ih=>obtain⟨a,e,q⟩:=p;exact .cons ⟨a,e,aN.of q⟩ ih
theorem any_map (rows:List (List Str)):((rows.map fun r=>r.map V.str).any fun r=>!r.isEmpty)=rows.any fun r=>!r.isEmpty:=by
 rw[IU];congr 1;funext r;cases r <;> rfl
@[irreducible] def tX (C:Addr):Sp:=fun vs H Q E=>∃ (t:Addr) (ws:List V) (rows:List (List Str)),vs = [.ref t]/\H t=some (.tup ws)/\dS H ws rows/\Small rows /\
 (bq (total rows) rows=none -> ∀a d p vs H',H a=none->H d=none->H p=none->rF (DM rows) 10 (uu rows)->ak H H'->H' a=some (ee (some .none) C (some d) a)->H' d=some (dv d [("kind",.ax),("ring",.ref p)])->H' p=some (.tup vs)->lA H' vs (uu rows)->E (.ref C) (some a) H')/\(∀o,bq (total rows) rows=some o -> ∀p H',H p=none->ak H H'->H' p=some (.tup (o.map V.str))->Q (.ref p) H')
theorem Us {mq Gn:FuncData} (F:aU K "merged" "merged" wD f fd) (Bl:fg mg) (T:D4 K mg B C fI mq)
  (FW:aU K "wish_against" "wish_against" ur fW ql) (bW:Binds K ql ["rest","name"] []) (mW:mg "wish_against" = some (.ref fW))
  (FL:aU K "least_free" "least_free" zP fL oO) (bL:Binds K oO ["rest"] []) (mL:mg "least_free" = some (.ref fL))
  (FR:aU K "ring_within" "ring_within" uf fR Gn) (bR:Binds K Gn ["rest"] []) (mR:mg "ring_within" = some (.ref fR)) :
  aD P w K mg base (a8 P w) 3 f fd ["rows"] (tX C):=by
 have GL:aD P w K mg base aR 2 fL oO ["rest"] t6:=Vl FL Bl FW bW mW;have GR:aD P w K mg base aR 2 fR Gn ["rest"] t8:=Vp FR Bl FW bW mW;have GI:aD P w K mg base aR 1 fI mq ["self","kind","ring"] (m9 K "kind" "ring"):=Wq T.F T.b T.mB;refine F.jm wk (fun vs H Q E h=>?_) (fun cdv A outer s H vs Q E hr h=>?_)
 ·unfold tX at h;obtain⟨t,ws,rows,rfl,_⟩:=h;rfl
 ·unfold tX at h
  obtain⟨t,ws,rows,rfl,ht,hR,hS,qn,qs⟩:=h;have iS:aS 2 _:=hr;refine⟨_,aB (aZ (i:=1) wk.nd rfl (Or.inl rfl) (a9 ah))
   (aB (aZ (i:=2) wk.nd rfl (Or.inl rfl) (f7 vQ rfl Bl.list boot_list (ae (pv 0) ah)))
   (aB (vX B3 (qW (ck (TY rfl) rfl Bl.any boot_any (ae (pv 2) ah)) (fun _=>rfl))
    (aB (aZ (i:=3) wk.nd rfl (Or.inr rfl) (aQ GL iS rfl mL FL.kp bL .nil a7 (ae (pv 2) ah)))
    (aB (fj (b5 zL (pv 3) jF (cF _)) (aO (qV (LG T.q T.fn T.kp GI iS T.bi a7 rfl T.mC (ae jF (ae (aQ GR iS rfl mR FR.kp bR .nil a7 (ae (pv 2) ah)) ah))))) fu)
    (aB (eP (j' mJ pJ pK kZ (pv 1) (ae (pv 3) ah)))
    (aO (zh (i:=2) rfl O' wk.nd rfl rfl (fw (pv 2)) (fun s H fp=>⟨bg (i:=0) O'.nd rfl (Or.inl rfl),iZ,
     f7 (Js K rfl) rfl Bl.tuple boot_tuple (ae (eQ rfl csI (KY K rfl (pv 0)) (fun s H fp=>⟨bg (i:=0) ndI rfl (Or.inl rfl),i3 (b5 xh (pv 0) (pv 1) rfl),pv 0⟩)) ah)⟩)))))))
   (aO (b9 (f7 lK rfl Bl.tuple boot_tuple (ae (pv 1) ah)))))),?_⟩
  refine⟨bX _,fun oa o7=>⟨_,rfl,t,ws,rfl,.inr (aN.of (by rw[ai (aq ht o7)];exact ht)),fun rl kJ=>?_⟩⟩
  have Z2:(upd (upd H oa (.lst [])) rl (.lst ws)) oa=some (.lst []):=by rw[ai (aq af kJ)];exact af
  have S1:ak H (upd (upd H oa (.lst [])) rl (.lst ws)):=(ar o7).trans (ar kJ);refine⟨fun m σ H1=>∃rest hV acc rl,NV H rows t oa m σ H1 rest hV acc rl,⟨_,rows,ws,[],rl,⟨none,rfl⟩,rfl,Z2,af,hR.same S1,hS,aH (aq af kJ),S1,by have:=vS hS.short;have:=hS.a6;simp only[yS];omega,by cases bq (total rows) rows <;> rfl,rfl,.refl _⟩,?_⟩
  rintro m σ H1 ⟨rest,hV,acc,rl,R⟩;obtain⟨v3,rfl⟩:=R.st;refine⟨_,rfl,rl,hV,_,rfl,aj.of R.kJ,Vr R.rr,_,rfl,?_⟩;rw[any_map];refine d4 (fun hA=>?_) (fun hA=>?_)
  ·refine⟨fun aJ H'=>∃m',m' < m /\ ∃rest hV acc rl,NV H rows t oa m' aJ H' rest hV acc rl,fun _ _ z=>z,?_⟩
   refine⟨_,rfl,Vm R.kJ R.rr fun H2 S2=>?_⟩;have NW:=CF hA;cases e:d6 rest with
   |none =>
    refine⟨_,rfl,rfl,_,rfl,?_⟩;refine⟨_,rfl,Vq (S2 _ _ R.kJ) (R.rr.same S2) R.sm e hA fun p vs H3 S3 jl A7 hws hf=>?_⟩;have S4:ak H H3:=R.same.trans (S2.trans S3);refine⟨by show 2<=100;decide,fun a ha=>?_⟩
    have A8:H a=none:=S4.free ha;have hpH:H p=none:=(R.same.trans S2).free jl;have npa:p≠a:=aq A7 ha;have eR:uu rows=pU rest:=by unfold uu;rw[R.l0,Tp e]
    refine two_sp af T.x T.q (.inr (.inl rfl)) (Lf hf (ar ha)) T.nk T.nr fun d H4 hd jr h1 h2 kp=>⟨rfl,a,C,some d,_,rfl,h1,fun d' ed=>by cases ed;exact⟨_,h2⟩,T.x,T.q,A8,?_⟩
    have iI:H3 d=none:=by rw[ai jr]at hd;exact hd
    have lC:∀b o,H3 b=some o->upd H4 a (ee (some .none) C (some d) a) b=some o:=fun b o hb=>by
     have nb:b≠a:=aq hb ha;rw[ai nb];exact kp b o (by rw[ai nb];exact hb) nb
    refine qn (by rw[R.eq,Cq hA e];rfl) a d p vs _ A8 (S4.free iI) hpH ?_ (fun b o hb=>lC b o (S4 b o hb)) af (by rw[ai jr];exact h2) (lC _ _ A7) ?_
    ·rw[eR]
     have q:=(Wl e hA).imp fun w=>R.cut.ll;exact⟨q.len,cK q.a6 R.sm.a6,q.at_,q.turn,q.nd⟩
    ·rw[eR];exact Paired.imp' (fun v w ⟨b,eb,hb⟩=>⟨b,eb,lC _ _ hb⟩) hws
   |some n =>
    refine⟨_,rfl,rfl,_,rfl,?_⟩;have EC:H2 oa=some (.lst (acc.map V.str)):=S2 _ _ R.o7;refine⟨_,rfl,.inl ⟨rfl,_,aj.of EC⟩,_,rfl,oa,_,_,rfl,rfl,EC,by have:=R.lim;rw[aE,aI];omega,?_⟩
    generalize A9:upd H2 oa (.lst (acc.map V.str ++ [Ey (some n)]))=H3;have S3:ak H H3:=fun b o eb=>by rw[<-A9,ai (aq eb o7)];exact S2 _ _ (R.same b o eb)
    have nro:rl≠oa:=R.ne;have NX:H3 rl=some (.lst hV):=by rw[<-A9,ai nro];exact S2 _ _ R.kJ
    have Pa:dS H3 hV rest:=KC R.rr fun b xs hb=>by rw[<-A9,ai (b6 (S2 _ _ hb) EC (by intro z;cases z))];exact S2 _ _ hb
    have NY:H3 oa=some (.lst ((acc ++ [n]).map V.str)):=by rw[<-A9,af,bj];rfl
    refine⟨_,rfl,rl,rfl,⟨_,aj.of NX⟩,fun a1 gq=>?_⟩;have n1o:a1≠oa:=fun z=>by rw[z,NY]at gq;cases gq
    refine jC (xs:=hV) (fun i ys τ H4=>∃t0:Option V,τ = [t0,some (.str n)]/\H4 a1=some (.lst ys)/\ak H3 H4/\dS H4 ys (L2.without n (rest.take i))) ⟨none,rfl,af,ar gq,.nil⟩ (fun i ys τ H4 ⟨_,_,h1,h2,_⟩=>⟨h1,aj.of (h2 _ _ NX)⟩) ?_ ?_
    ·rintro i x ys τ H4 hx ⟨t0,rfl,vn,S4,yk⟩
     obtain⟨a,r,rfl,gO,gn⟩:=Pa.get hx;have aT:i < hV.length:=(cu.mp hx).1;have tk:rest.take (i+1)=rest.take i ++ [r]:=by rw[dZ,gO];rfl
     refine⟨_,rfl,a,rfl,⟨_,aN.of (S4 _ _ gn)⟩,fun b1 jn=>?_⟩;have Pb:(upd H4 b1 (.lst [])) a=some (.tup (r.map V.str)):=by rw[ai (aq (S4 _ _ gn) jn)];exact S4 _ _ gn
     have Gp:a≠b1:=aq (S4 _ _ gn) jn;refine qX (xs:=r.map V.str) (fun j zs gN H5=>∃t1:Option V,gN = [t1,some (.str n)]/\zs=((r.take j).filter fun y=>!decide (y=n)).map V.str/\H5=upd H4 b1 (.lst zs)) ⟨none,rfl,rfl,rfl⟩ (fun j zs gN H5 ⟨_,_,_,z⟩=>by rw[z];exact⟨af,aN.of (by rw[ai Gp];exact S4 _ _ gn)⟩) ?_ ?_
     ·rintro j x zs gN H5 ff ⟨t1,rfl,rfl,rfl⟩
      have cC:j < (r.map V.str).length:=(cu.mp ff).1;have iT:j < r.length:=by simpa using cC
      obtain rfl:V.str r[j]=x:=by simpa [iT] using ff
      have kS:r.take (j+1)=r.take j ++ [r[j]]:=by rw[dZ,b4 iT];rfl
      refine⟨_,rfl,_,rfl,rfl,_,rfl,?_⟩;refine d4 (fun bS=>?_) (fun bS=>?_)
      ·have lr:r[j]≠n:=fun z=>by rw[z]at bS;simp at bS
       refine⟨_,rfl,af,?_,cw_next cC ⟨_,rfl,?_,by rw[gR]⟩⟩
       ·have h1:=iY (fun y=>!decide (y=n)) (r.take j)
        have h2:(r.take j).length<=r.length:=by rw[dh];omega
        have h3:=R.sm.short r (gP gO);rw[aE,aI];omega
       ·rw[kS,iK,bj,tD (by simpa using lr)];rfl
      ·have hy:r[j]=n:=by
        by_cases z:r[j]=n
        ·exact z
        ·exact absurd (by simp[z]) bS
       refine cw_next cC ⟨_,rfl,?_,rfl⟩;rw[kS];simp[hy]
     ·rintro zs gN H5 ⟨t1,rfl,rfl,rfl⟩
      rw[aE,eF];refine⟨b1,_,rfl,.inl ⟨aj.of af,fun l hl=>?_⟩⟩;have n1b:a1≠b1:=aq vn jn;have Sb:ak H4 (upd (upd H4 b1 (.lst ((r.filter fun y=>!decide (y=n)).map V.str))) l (.tup ((r.filter fun y=>!decide (y=n)).map V.str))):=(ar jn).trans (ar hl);have n1l:a1≠l:=aq (by rw[ai n1b];exact vn) hl
      refine⟨Sb _ _ vn,?_,cw_next aT ⟨_,rfl,af,fun b o hb=>?_,?_⟩⟩
      ·have h1:=yk.length
       have h2:(L2.without n (rest.take i)).length<=rest.length:=by unfold L2.without;rw[aE,dh];omega
       have h3:=R.sm.a6;rw[aI];omega
      ·rw[ai (aq hb gq)];exact Sb _ _ (S4 b o hb)
      ·have e1:L2.without n (rest.take (i+1))=L2.without n (rest.take i) ++ [r.filter fun y=>!decide (y=n)]:=by rw[tk];unfold L2.without;rw[bj];rfl
       rw[e1];refine dS.append (KC yk fun b xs hb=>?_) ?_
       ·rw[ai (b6 hb vn (by intro z;cases z))];exact Sb _ _ hb
       ·rw[ai (aH n1l)];exact af
    ·rintro ys τ H4 ⟨t0,rfl,vn,S4,yk⟩
     rw[Pa.length,eF]at yk;have lt:=tG (tR e);refine⟨_,by rw[R.mm];exact lt,L2.without n rest,ys,acc ++ [n],a1,⟨_,rfl⟩,rfl,S4 _ _ NY,vn,yk,Jo R.sm,n1o,S3.trans S4,?_,?_,?_,R.cut.without n⟩
     ·have:=R.lim;rw[cY,gF];omega
     ·rw[R.eq,Cr hA e,Option.map_map]
      congr 1
      funext z
      simp
     ·have NA:=R.lim
      rw[R.l0,cY,gF];obtain⟨k,hk⟩:∃k,1000 - acc.length=k+1:=⟨1000 - acc.length - 1,by omega⟩
      rw[hk,To e,show 1000 - (acc.length+1)=k by omega]
  ·refine⟨_,rfl,oa,_,rfl,.inl ⟨aj.of R.o7,fun p hp=>?_⟩⟩
   refine qs acc ?_ p _ (R.same.free hp) (R.same.trans (ar hp)) af;rw[R.eq,Cp (by simpa using hA)]
   show some (acc ++ [])=some acc;rw[fh]
end iR
namespace iR
open PySem L2
theorem boot_max:bootBuiltins "max" = some (.builtin "max"):=by decide +kernel
theorem boot_abs:bootBuiltins "abs" = some (.builtin "abs"):=by decide +kernel
@[irreducible] def uv (K:PySem.W.Frag):Sp:=fun vs H Q _=>∃ (a:Addr) (ns:List Int) (k:Int),vs = [.ref a,.int k]/\aj K H a (ns.map V.int)/\0<=k/\k<=100/\ns.length<=63 /\
 ∀ (p:Addr) (x y:Int),H p=none->0<=x->0<=y->y < 4294967296->Q (.ref p) (upd H p (.lst [.int x,.int y]))
theorem D5:b3 ["_law_script","_law_k","_law_cell"] ["_law_script","_law_k"] (aM Ew):=⟨rfl,rfl,rfl,by decide +kernel,rfl,by decide +kernel,by decide +kernel⟩
theorem Wr (h:i < ns.length):∃z,(ns.map V.int)[i]? = some (V.int z):=⟨ns[i],by rw[f6,b4 h];rfl⟩
theorem Xi (F:aU K "_law_pot" "_law_pot" Ew f fd) (B:fg mg):aD P w K mg base aR 1 f fd ["_law_script","_law_k"] (uv K):=by
 refine F.ok D5 (fun vs H Q E h=>?_) (fun cdv A outer s H vs Q E hr h=>?_)
 ·unfold uv at h;obtain⟨a,ns,k,rfl,_⟩:=h;rfl
 ·unfold uv at h
  obtain⟨a,ns,k,rfl,hS,k0,k1,hl,q⟩:=h;refine⟨_,aB (aZ (i:=2) D5.nd rfl (Or.inl rfl) aG)
   (aB (fj (b5 DR (pv 1) (ck kX (by rfl) B.len jB (ae (pv 0) ah)) (cF _))
     (aO (aZ (i:=2) D5.nd rfl (Or.inl rfl) (bh cz (pv 0) (pv 1) (fun _ _=>rfl)))) fu)
   (aO (b9 (a9 (ae (ck (JX rfl) (by rfl) B.max boot_max (ae aG (ae (cG Mk (ck KS (by rfl) B.abs boot_abs (ae (pv 2) ah)) (cG Ml aG aG)) ah)))
    (ae (cG rn (cG rn (cG wH (ck KS (by rfl) B.abs boot_abs (ae (pv 2) ah)) aG) (cG DB aG (pv 1))) aG) ah)))))),?_⟩
  refine⟨_,rfl,_,rfl,a,_,rfl,.inl hS,_,_,rfl,rfl,_,rfl,?_⟩;have aio:∀c:Int,0<=(if c < 0 then -c else c):=fun c=>by split <;> omega
  have fin:∀c:Int,∀p,H p=none->Q (.ref p) (upd H p (.lst [.int (if (if c < 0 then -c else c) - 10 ^ (18:Int).toNat > 0 then (if c < 0 then -c else c) - 10 ^ (18:Int).toNat else 0),.int ((if c < 0 then -c else c) % 2147483587+101 * k+3)])):=fun c p hp=>by
   have h1:=Jf (if c < 0 then -c else c) (show(2147483587:Int)≠0 by decide)
   have h2:=Jg (if c < 0 then -c else c) (show(0:Int) < 2147483587 by decide)
   refine q p _ _ hp ?_ (by omega) (by omega)
   generalize (if c < 0 then -c else c) - 10 ^ (18:Int).toNat=d;split <;> omega
  have tail:∀c:Int,∃ (x:V),([some (.ref a),some (.int k),some (.int c)]:St)[2]? = some (some x):=fun c=>⟨_,rfl⟩;refine d4 (fun hk=>?_) (fun hk=>?_)
  ·have gY:k < ((ns.map V.int).length:Int):=pH hk
   rw[aE]at gY;obtain⟨z,hz⟩:=Wr (ns:=ns) (i:=k.toNat) (by omega)
   refine⟨_,rfl,_,rfl,a,_,_,_,rfl,rfl,hS,(by rw[show k=((k.toNat:Nat):Int) by omega];exact dq hz),?_⟩
   refine⟨_,rfl,z,rfl,_,_,rfl,rfl,⟨by decide,by decide,by decide⟩,_,_,rfl,rfl,_,_,rfl,?_⟩
   refine⟨_,rfl,z,rfl,_,_,rfl,rfl,(by show(0:Int) < 2147483587;decide),_,rfl,_,_,rfl,rfl,.inl ⟨by decide,by decide⟩,_,_,rfl,rfl,_,_,rfl,rfl,(by show 2<=sizeLine;rw[aI];decide),fun p hp=>fin z p hp⟩
  ·refine⟨_,rfl,0,rfl,_,_,rfl,rfl,⟨by decide,by decide,by decide⟩,_,_,rfl,rfl,_,_,rfl,?_⟩
   refine⟨_,rfl,0,rfl,_,_,rfl,rfl,(by show(0:Int) < 2147483587;decide),_,rfl,_,_,rfl,rfl,.inl ⟨by decide,by decide⟩,_,_,rfl,rfl,_,_,rfl,rfl,(by show 2<=sizeLine;rw[aI];decide),fun p hp=>fin 0 p hp⟩
@[irreducible] def mX:Sp:=fun vs H Q _=>∃ (p:Addr) (m x y:Int),vs = [.ref p,.int m]/\H p=some (.lst [.int x,.int y])/\0<=x/\0<=y/\y < 4294967296/\0 < m/\m<=1000000 /\
 ∀ (d x' y':Int),0<=d->d < m->0<=x'->0<=y'->y' < 4294967296->Q (.int d) (upd H p (.lst [.int x',.int y']))
theorem L7:b3 ["_law_pot_here","_law_many","_law_digit_here"] ["_law_pot_here","_law_many"] (aM wU):=⟨rfl,rfl,rfl,by decide +kernel,rfl,by decide +kernel,by decide +kernel⟩
theorem C5 (F:aU K "_law_digit" "_law_digit" wU f fd):aD P w K mg base aR 1 f fd ["_law_pot_here","_law_many"] mX:=by
 refine F.ok L7 (fun vs H Q E h=>?_) (fun cdv A outer s H vs Q E hr h=>?_)
 ·unfold mX at h;obtain⟨p,m,x,y,rfl,_⟩:=h;rfl
 ·unfold mX at h
  obtain⟨p,m,x,y,rfl,hp,x0,y0,y1,m0,m1,q⟩:=h;refine⟨_,aB (fj (b5 DS (bh cz (pv 0) aG (fun _ _=>rfl)) aG (cF _))
    (aB (aZ (i:=2) L7.nd rfl (Or.inl rfl) (cG wH (bh cz (pv 0) aG (fun _ _=>rfl)) (pv 1)))
    (aB (zK (cG Lx (bh cz (pv 0) aG (fun _ _=>rfl)) (pv 1)) (Mi (pv 0) aG set_list))
    (aO (b9 (pv 2))))) fu)
   (aB (zK (cG wH (cG rn (cG DB (bh cz (pv 0) aG (fun _ _=>rfl)) aG) aG) aG) (Mi (pv 0) aG set_list))
   (aO (b9 (cG wH (cG Lx (cG wH (cG DB (bh cz (pv 0) aG (fun _ _=>rfl)) (bh cz (pv 0) aG (fun _ _=>rfl))) aG) aG) (pv 1))))),?_⟩
  have hl:aj K H p [.int x,.int y]:=aj.of hp;refine⟨_,rfl,p,_,0,_,rfl,rfl,hl,rfl,_,_,rfl,rfl,_,rfl,?_⟩;refine d4 (fun hx=>?_) (fun hx=>?_)
  ·refine⟨_,rfl,p,_,0,_,rfl,rfl,hl,rfl,_,rfl,_,_,rfl,rfl,m0,?_⟩
   refine⟨_,rfl,p,_,0,_,rfl,rfl,hl,rfl,_,rfl,_,_,rfl,rfl,⟨m0,by omega⟩,_,rfl,p,_,0,0,rfl,rfl,hp,rfl,?_⟩
   refine⟨_,rfl,?_⟩;exact q _ _ _ (Jf _ (by omega)) (Jg _ m0) (Int.ediv_nonneg x0 (by omega)) y0 y1
  ·refine⟨_,rfl,p,_,1,_,rfl,rfl,hl,rfl,_,_,rfl,rfl,.inr ⟨by decide,by decide⟩,_,_,rfl,rfl,_,_,rfl,rfl,(by show(0:Int) < 2147483647;decide),_,rfl,p,_,1,1,rfl,rfl,hp,rfl,?_⟩
   have h1:=Jf (y * 39373+20011) (show(2147483647:Int)≠0 by decide)
   have h2:=Jg (y * 39373+20011) (show(0:Int) < 2147483647 by decide)
   refine⟨_,rfl,p,_,1,_,rfl,rfl,aj.of af,rfl,_,rfl,p,_,1,_,rfl,rfl,aj.of af,rfl,_,_,rfl,rfl,.inl ⟨Int.lt_of_lt_of_le (by decide) h1,Int.lt_of_lt_of_le h2 (by decide)⟩,_,_,rfl,rfl,(by show(0:Int) < 2147483563;decide),_,_,rfl,rfl,⟨by decide,by decide⟩,_,rfl,_,_,rfl,rfl,m0,?_⟩
   exact q _ x _ (Jf _ (by omega)) (Jg _ m0) x0 h1 (by omega)
def f9 (p:Addr) (H:Hp):Prop:= ∃x y:Int,H p=some (.lst [.int x,.int y])/\0<=x/\0<=y/\y < 4294967296
structure bZ (p:Addr) (H H':Hp):Prop where
 ok:f9 p H'
 kp:∀b o,H b=some o->b≠p->H' b=some o
section
variable{q:Addr}
theorem bZ.refl (h:f9 p H):bZ p H H:=⟨h,fun _ _ e _=>e⟩
theorem bZ.trans (a:bZ p H H1) (b:bZ p H1 H2):bZ p H H2:=⟨b.ok,fun c o e n=>b.kp c o (a.kp c o e n) n⟩
theorem f9.ne (h:f9 p H) (hq:H q=none):p≠q:=let ⟨_,_,e,_⟩:=h;aq e hq
theorem bZ.new (a:bZ p H H1) (hq:H1 q=none):bZ p H (upd H1 q o):=by
 refine⟨?_,fun b u e n=>?_⟩
 ·obtain⟨x,y,e,r⟩:=id a.ok
  exact⟨x,y,by rw[ai (a.ok.ne hq)];exact e,r⟩
 ·rw[ai (aq (a.kp b u e n) hq)];exact a.kp b u e n
theorem bZ.free (a:bZ p H H1) (hq:H1 q=none):H q=none:=by
 cases e:H q with
 |none=>rfl
 |some u =>
  by_cases h:q=p
  ·subst h;obtain⟨_,_,z,_⟩:=a.ok;rw[z]at hq;cases hq
  ·rw[a.kp q u e h]at hq;cases hq
theorem bZ.write (a:bZ p H H1) (hq:H q=none) (hp:p≠q):bZ p H (upd H1 q o):=by
 refine⟨?_,fun b u e n=>?_⟩
 ·obtain⟨x,y,e,r⟩:=id a.ok
  exact⟨x,y,by rw[ai hp];exact e,r⟩
 ·rw[ai (aq e hq)];exact a.kp b u e n
theorem i4 {m:Int} (h:f9 p H) (m0:0 < m) (m1:m<=1000000) (k:∀d H',0<=d->d < m->bZ p H H'->Q (.int d) H'):mX [.ref p,.int m] H Q E:=by
 obtain⟨x,y,e,x0,y0,y1⟩:=h;unfold mX;exact⟨p,m,x,y,rfl,e,x0,y0,y1,m0,m1,fun d x' y' d0 d1 h1 h2 h3=>k d _ d0 d1 ⟨⟨x',y',af,h1,h2,h3⟩,fun b o z n=>by rw[ai n];exact z⟩⟩
end
theorem KG:∀cs:List Nat,((cs.map sign).map (·.length)).sum=cs.length
 |[]=>rfl
 |c::cs=>by
  have e:(sign c).length=1:=rfl;simp only[cf,Jc,KG cs,cO,e];omega
abbrev pO:Str:= "abcdefghijklmnopqrstuvwxyz"
theorem CI {d:Int} (h0:0<=d) (h1:d < 26):∃c:Nat,cg pO.cps.toList d=some c/\97<=c/\c<=122/\c=97+d.toNat:=by
 have all:∀i:Nat,i < 26->pO.cps.toList[i]? = some (97+i):=by decide +kernel
 refine⟨97+d.toNat,?_,by omega,by omega,rfl⟩
 rw[show d=((d.toNat:Nat):Int) by omega]
 exact dq (all d.toNat (by omega))
@[irreducible] def t9:Sp:=fun vs H Q _=>∃ (p:Addr) (m:Nat),vs = [.ref p,.int m]/\f9 p H/\m<=20 /\
 ∀ (l:Addr) (ys:List Str) (H':Hp),H l=none->ys.length=m->(∀y∈ys,Nm y)->ys.Nodup->bZ p H H'->H' l=some (.lst (ys.map V.str))->Q (.ref l) H'
abbrev zQ:List Str:= ["_law_pot_here","_law_many","_law_letters","_law_found","_law_k","_law_size","_law_name","_law_some"]
theorem pP:b3 zQ ["_law_pot_here","_law_many"] (aM oC):=⟨rfl,rfl,rfl,by decide +kernel,rfl,by decide +kernel,by decide +kernel⟩
def My (s:Stmt):List Stmt:=match s with|.If _ b _ _=>b|_=>[]
abbrev Z3:Scope:=cW (iz (fb (cL (Dw (cL (cA oC) 2)) 1)))
abbrev Z4:Scope:=cW (fb (cL (My (cL (Dw (cL (cA oC) 2)) 2)) 0))
abbrev Z5:Scope:=cW (Ez (fb (cL (My (cL (Dw (cL (cA oC) 2)) 2)) 1)))
theorem Pd:cj zQ (aM oC) ["_law_turn","_law_letters","_law_pot_here"] [none,some 2,some 0] Z3:=⟨rfl,by decide +kernel,by decide +kernel,rfl,d9 (by decide +kernel),by decide +kernel⟩
theorem Pe:cj zQ (aM oC) ["_law_turn","_law_letters","_law_name"] [none,some 2,some 6] Z4:=⟨rfl,by decide +kernel,by decide +kernel,rfl,d9 (by decide +kernel),by decide +kernel⟩
theorem Pf:cj zQ (aM oC) ["_law_one","_law_found"] [none,some 3] Z5:=⟨rfl,by decide +kernel,by decide +kernel,rfl,d9 (by decide +kernel),by decide +kernel⟩
theorem Vs {sR:FuncData} (F:aU K "_law_names" "_law_names" oC f fd) (B:fg mg) (FD:aU K "_law_digit" "_law_digit" wU fD sR) (bD:Binds K sR ["_law_pot_here","_law_many"] []) (mD:mg "_law_digit" = some (.ref fD)) :
  aD P w K mg base aR 3 f fd ["_law_pot_here","_law_many"] t9:=by
 have GD:aD P w K mg base aR 1 fD sR ["_law_pot_here","_law_many"] mX:=C5 FD;refine F.ok pP (fun vs H Q E h=>?_) (fun cdv A outer s H vs Q E hr h=>?_)
 ·unfold t9 at h;obtain⟨p,m,rfl,_⟩:=h;rfl
 ·unfold t9 at h
  obtain⟨p,m,rfl,hp,m1,q⟩:=h;have cJ:aS 1 _:=hr.mono (by decide)
  refine⟨_,aB (aZ (i:=2) pP.nd rfl (Or.inr rfl) eT)
   (aB (aZ (i:=3) pP.nd rfl (Or.inr rfl) (a9 ah))
   (aB (i8 j4 rfl (tN rfl B.range (ae (pv 1) ah)) (bg (i:=4) pP.nd rfl (Or.inl rfl))
    (aB (aZ (i:=5) pP.nd rfl (Or.inl rfl) (cG rn aG (aQ GD cJ rfl mD FD.kp bD .nil a7 (ae (pv 0) (ae (bh cz (a9 (ae aG (ae aG (ae aG ah))))
      (aQ GD cJ rfl mD FD.kp bD .nil a7 (ae (pv 0) (ae aG ah))) (fun _ _=>rfl)) ah)))))
    (aB (aZ (i:=6) pP.nd rfl (Or.inr rfl) (j' PySem.F.plainAttrs_str PySem.F.slot_str_join PySem.F.type_str_join V0 eT
      (ae (eQ rfl Pd (tN rfl B.range (ae (pv 5) ah)) (fun s H fp=>⟨bg (i:=0) Pd.nd rfl (Or.inl rfl),iZ,bh DC (pv 1) (aQ GD cJ rfl mD FD.kp bD .nil a7 (ae (pv 2) (ae aG ah))) (fun _ _=>rfl)⟩)) ah)))
    (aB (fj (b5 Cw (pv 6) (pv 3) rfl)
      (aB (zh (i:=7) rfl Pe pP.nd rfl rfl (tN rfl B.range (ae (cG rn (pv 1) aG) ah)) (fun s H fp=>⟨bg (i:=0) Pe.nd rfl (Or.inl rfl),iZ,
        cG zg (cG zg (lM DF (pv 2) lO (k7 aG)) (bh DC (pv 1) (pv 0) (fun _ _=>rfl))) eT⟩))
      (aO (aZ (i:=6) pP.nd rfl (Or.inr rfl) (bh cz (eQ rfl Pf (fw (pv 7)) (fun s H fp=>⟨bg (i:=0) Pf.nd rfl (Or.inl rfl),i3 (b5 (Cj K rfl) (pv 0) (pv 1) rfl),pv 0⟩)) aG (fun _ _=>rfl)))))
      fu)
    (aO (eP (j' mJ pJ pK kZ (pv 3) (ae (pv 6) ah))))))))
   (aO (b9 (pv 3))))),?_⟩
  refine⟨bX _,fun l hl=>?_⟩;have cR:p≠l:=hp.ne hl;have em:((m:Int)).toNat=m:=IB m;refine⟨_,rfl,(m:Int),rfl,by omega,by omega,zj (fun i σ H1=>∃ (ys:List Str) (v4 v5 v6 v7:Option V),σ = [some (.ref p),some (.int m),some (.str pO),some (.ref l),v4,v5,v6,v7]/\ys.length=i/\(∀y∈ys,Nm y)/\ys.Nodup/\bZ p H H1/\H1 l=some (.lst (ys.map V.str)))
   ⟨[],none,none,none,none,rfl,rfl,(fun y hy=>by simp at hy),qM,(bZ.refl hp).new hl,af⟩ ?_ ?_⟩
  ·rintro i σ H1 hi ⟨ys,v4,v5,v6,v7,rfl,hlen,Ba,fU,pa,kI⟩
   rw[em]at hi;refine⟨_,rfl,by show 3<=sizeLine;rw[aI];decide,fun a hq=>⟨_,rfl,?_⟩⟩
   have nqp:a≠p:=aH (pa.ok.ne hq);refine i4 (p:=p) (m:=3) ((bZ.refl pa.ok).new hq).ok (by decide) (by decide) fun d H2 d0 d1 pb=>?_
   obtain⟨mv,lD,mv0,mv1⟩:∃mv:Int,cg [V.int 1,V.int 2,V.int 8] d=some (V.int mv)/\0 < mv/\mv<=8:=by
    have:d=0\/d=1\/d=2:=by omega
    rcases this with rfl|rfl|rfl
    ·exact⟨1,rfl,by decide,by decide⟩
    ·exact⟨2,rfl,by decide,by decide⟩
    ·exact⟨8,rfl,by decide,by decide⟩
   refine⟨a,_,d,_,rfl,rfl,aj.of (pb.kp a _ af nqp),lD,?_⟩;refine i4 (p:=p) (m:=mv) pb.ok mv0 (by omega) fun e H3 e0 e1 pc=>⟨_,_,rfl,rfl,?_⟩
   have pd:bZ p H1 H3:=(((bZ.refl pa.ok).new hq).trans pb).trans pc;have Bb:H3 l=some (.lst (ys.map V.str)):=pd.kp l _ kI (aH cR);refine⟨rfl,_,rfl,1+e,rfl,by omega,by omega,fun a1 gq=>?_⟩
   have AW:p≠a1:=pc.ok.ne gq;refine JE (fun i zs τ H4=>∃ (cs:List Nat) (t0:Option V),zs=(cs.map sign).map V.str/\cs.length=i/\(∀c∈cs,97<=c/\c<=122)/\τ = [t0,some (.str pO),some (.ref p)]/\bZ p H3 H4/\H4 a1=some (.lst zs))
    ⟨[],none,rfl,rfl,(fun c hc=>by simp at hc),rfl,(bZ.refl pc.ok).new gq,af⟩ (fun i zs τ H4 ⟨_,_,_,_,_,_,_,z⟩=>z) ?_ ?_
   ·rintro j zs τ H4 hj ⟨cs,t0,rfl,gZ,Gq,rfl,pe,hz⟩
    refine⟨_,rfl,_,rfl,i4 (p:=p) (m:=26) pe.ok (by decide) (by decide) fun d H5 d0 d1 pf=>?_⟩
    obtain⟨c,hc,c0,c1,_⟩:=CI d0 d1;have hz5:H5 a1=_:=pf.kp a1 _ hz (aH AW);refine⟨pO,d,c,rfl,rfl,(by rw[aI];decide +kernel),hc,hz5,?_,cw_next hj ⟨cs ++ [c],_,?_,?_,?_,rfl,?_,af⟩⟩
    ·rw[aE,aE,gZ,aI];omega
    ·rw[bj,bj];rfl
    ·rw[cY,gZ];rfl
    ·intro x hx
     rcases dX.mp hx with h|h
     ·exact Gq x h
     ·have:x=c:=by simpa using h
      rw[this];exact⟨c0,c1⟩
    ·exact(pe.trans pf).write ((bZ.refl pc.ok).free gq) AW
   ·rintro zs τ H4 ⟨cs,t0,rfl,gZ,Gq,rfl,pe,hz⟩
    have hsl:((cs.map sign).map (·.length)).sum=cs.length:=by
     exact KG cs
    refine⟨("" : Str),a1,cs.map sign,rfl,rfl,.inl (aj.of hz),?_,?_⟩
    ·have:(Str.length ("" : Str))=0:=rfl
     rw[hsl,this,gZ];omega
    rw[Ta];generalize NZ:(⟨cs.toArray⟩:Str)=nm;have ED:Nm nm:=by
     have el:nm.length=cs.length:=by rw[<-NZ];show cs.toArray.size=_;simp
     refine⟨by omega,by omega,fun c hc=>Gq c ?_⟩
     rw[<-NZ]at hc;simpa using hc
    have pg:bZ p H1 H4:=pd.trans pe;have pj:H4 l=some (.lst (ys.map V.str)):=pe.kp l _ Bb (aH cR);refine⟨_,rfl,_,rfl,l,_,rfl,.inl (aj.of pj),rfl,jD _,_,rfl,?_⟩;rw[ao cX,j6];refine d4 (fun bf=>?_) (fun bf=>?_)
    ·
     refine⟨_,rfl,_,_,rfl,rfl,(m:Int)+1,rfl,by omega,by omega,fun a2 jq=>?_⟩
     refine JE (fun i zs τ H5=>∃t0:Option V,zs=((List.range i).map fun j=>Txt.slice nm none (some 6)++sign (97+j)++("q" : Str)).map V.str/\τ = [t0,some (.str pO),some (.str nm)]/\H5=upd H4 a2 (.lst zs))
      ⟨none,rfl,rfl,rfl⟩ (fun i zs τ H5 ⟨_,_,_,z⟩=>by rw[z];exact af) ?_ ?_
     ·rintro j zs τ H5 hj ⟨t0,rfl,rfl,rfl⟩
      have Gk:j < m+1:=by omega
      obtain⟨c,hc,c0,c1,hce⟩:=CI (d:=0+(j:Int)) (by omega) (by omega)
      have Z6:c=97+j:=by rw[hce];omega
      have l1:(Txt.slice nm none (some 6)).length<=6:=JG nm;refine⟨_,rfl,_,rfl,nm,rfl,by have:=ED.hi;omega,_,rfl,_,rfl,pO,_,c,rfl,rfl,(by rw[aI];decide +kernel),hc,_,_,rfl,rfl,?_,_,_,rfl,rfl,?_,af,?_,cw_next hj ⟨_,?_,rfl,?_⟩⟩
      ·show _+1<=sizeLine;rw[aI];omega
      ·have e1:(Txt.slice nm none (some 6)++(⟨#[c]⟩:Str)).length=(Txt.slice nm none (some 6)).length+1:=by
        show(_ ++ #[c]:Array Nat).size=_;rw[BR];rfl
       have e2:(("q" : Str)).length=1:=by decide +kernel
       show(Txt.slice nm none (some 6)++(⟨#[c]⟩:Str)).length+_<=sizeLine;rw[e1,e2,aI];omega
      ·rw[aE,aE,BP,aI];omega
      ·rw[List.range_succ,bj,bj,Z6];rfl
      ·rw[gR]
     ·rintro zs τ H5 ⟨t0,rfl,rfl,rfl⟩
      have em1:((m:Int)+1).toNat=m+1:=by omega
      generalize gg:(List.range ((m:Int)+1).toNat).map (fun j=>Txt.slice nm none (some 6)++sign (97+j)++("q" : Str))=cands;have cnd:cands.Nodup:=by
       rw[<-gg];refine List.Pairwise.map _ (fun a b Pb h=>Pb ?_) List.nodup_range;have:=US h;omega
      have cnm:∀y∈cands,Nm y:=by
       intro y hy;rw[<-gg]at hy;obtain⟨j,hj,rfl⟩:=bw.mp hy;have:=nU.mp hj;exact V1 ED.az ⟨by omega,by omega⟩
      have aip:cands.length=m+1:=by rw[<-gg,aE,BP,em1]
      have nL:upd H4 a2 (.lst (cands.map V.str)) l=some (.lst (ys.map V.str)):=by rw[ai (aq pj jq)];exact pj
      refine⟨_,rfl,a2,rfl,⟨_,aj.of af⟩,fun a3 lE=>?_⟩;refine jC (xs:=cands.map V.str) (fun i zs τ H6=>∃t0:Option V,zs=((cands.take i).filter (fun y=>!decide (y∈ys))).map V.str/\τ = [t0,some (.ref l)]/\H6=upd (upd H4 a2 (.lst (cands.map V.str))) a3 (.lst zs))
       ⟨none,rfl,rfl,rfl⟩ (fun i zs τ H6 ⟨_,_,_,z⟩=>by rw[z];exact⟨af,aj.of (by rw[ai (aq af lE)];exact af)⟩) ?_ ?_
      ·rintro j x zs τ H6 hx ⟨t0,rfl,rfl,rfl⟩
       rw[f6]at hx;obtain⟨y,hy,rfl⟩:=iV.mp hx;have cC:j < (cands.map V.str).length:=by rw[aE];exact(cu.mp hy).1
       have tk:cands.take (j+1)=cands.take j ++ [y]:=by rw[dZ,hy];rfl
       have sS:(upd (upd H4 a2 (.lst (cands.map V.str))) a3 (.lst (((cands.take j).filter (fun y=>!decide (y∈ys))).map V.str))) l=some (.lst (ys.map V.str)):=by rw[ai (aq nL lE)];exact nL
       refine⟨_,rfl,_,rfl,l,_,rfl,.inl (aj.of sS),rfl,jD _,_,rfl,?_⟩;rw[au rfl,j6];refine d4 (fun hn=>?_) (fun hn=>?_)
       ·refine⟨_,rfl,af,?_,cw_next cC ⟨_,?_,rfl,?_⟩⟩
        ·have h1:=iY (fun y=>!decide (y∈ys)) (cands.take j)
         have h2:(cands.take j).length<=cands.length:=by rw[dh];omega
         rw[aE,aI];omega
        ·rw[tk,iK,bj,qN,au hn];rfl
        ·rw[gR]
       ·refine cw_next cC ⟨_,?_,rfl,rfl⟩
        rw[tk,iK,qN,ao hn,B4,fh]
      ·rintro zs τ H6 ⟨t0,rfl,rfl,rfl⟩
       rw[aE,eF];obtain⟨y0,yl,Gr⟩:=wM (found:=ys) cnd (by omega)
       have lY:y0∈cands.filter (fun y=>!decide (y∈ys)):=gD.mpr ⟨yl,by simpa using Gr⟩
       cases hf:cands.filter (fun y=>!decide (y∈ys)) with
       |nil=>rw[hf]at lY;simp at lY
       |cons z1 zr =>
        have Gs:z1∈cands.filter (fun y=>!decide (y∈ys)):=by rw[hf];exact aV
        obtain⟨zc,zn⟩:=gD.mp Gs;have Gu:z1 ∉ ys:=by simpa using zn
        have sS:(upd (upd H4 a2 (.lst (cands.map V.str))) a3 (.lst ((z1::zr).map V.str))) l=some (.lst (ys.map V.str)):=by rw[ai (aq nL lE)];exact nL
        have ph:bZ p H (upd (upd H4 a2 (.lst (cands.map V.str))) a3 (.lst ((z1::zr).map V.str))):=((pa.trans pg).new jq).new lE;refine⟨a3,_,0,V.str z1,rfl,rfl,aj.of af,(show cg ((z1::zr).map V.str) ((0:Nat):Int)=some (V.str z1) from dq rfl),?_⟩;refine⟨_,rfl,.inl ⟨rfl,_,aj.of sS⟩,_,rfl,l,_,_,rfl,rfl,sS,?_,?_⟩
        ·rw[aE,aI];omega
        ·refine⟨ys ++ [z1],_,_,_,_,rfl,by rw[cY,hlen];rfl,?_,?_,?_,?_⟩
         ·intro y hy
          rcases dX.mp hy with h|h
          ·exact Ba y h
          ·have:y=z1:=by simpa using h
           rw[this];exact cnm z1 zc
         ·rw[mI]
          exact⟨fU,by simp,fun a ha b hb=>by rw[show b=z1 by simpa using hb];exact fun h=>Gu (h ▸ ha)⟩
         ·exact ph.write hl cR
         ·rw[af,bj];rfl
    ·have fo:nm ∉ ys:=by simpa using bf
     have ph:bZ p H H4:=pa.trans pg;refine⟨_,rfl,.inl ⟨rfl,_,aj.of pj⟩,_,rfl,l,_,_,rfl,rfl,pj,?_,?_⟩
     ·rw[aE,aI];omega
     ·refine⟨ys ++ [nm],_,_,_,_,rfl,by rw[cY,hlen];rfl,?_,?_,?_,?_⟩
      ·intro y hy
       rcases dX.mp hy with h|h
       ·exact Ba y h
       ·have:y=nm:=by simpa using h
        rw[this];exact ED
      ·rw[mI]
       exact⟨fU,by simp,fun a ha b hb=>by rw[show b=nm by simpa using hb];exact fun h=>fo (h ▸ ha)⟩
      ·exact ph.write hl cR
      ·rw[af,bj];rfl
  ·rintro σ H1 ⟨ys,v4,v5,v6,v7,rfl,hlen,Ba,fU,pa,kI⟩
   rw[em]at hlen;exact⟨_,rfl,q l ys H1 hl hlen Ba fU pa kI⟩
end iR
namespace iR
open PySem L2 PySem.W HT
theorem SH (K:Frag) (h:X.K=K):eV X (.type "list") (fun xs H Q=>∃p ys,xs = [.ref p]/\(aj K H p ys\/aN K H p ys) /\ ∀l,H l=none->Q (.ref l) (upd H l (.lst ys))):=by subst h;exact vQ
theorem SK (K:Frag) (h:X.K=K) (hc:X.calm=true):eV X (.builtin "any") (fun xs H Q=>∃ (p:Addr) (bs:List Bool),xs = [.ref p]/\aj K H p (bs.map V.bl)/\Q (.bl (bs.any id)) H):=by subst h;exact Kl hc
theorem Ut (K:Frag) (h:X.K=K):uY X (Nx K):=by subst h;exact rg
def ja (av:Addr->Prop) (H:Hp) (vs:List V) (rows:List (List Str)):Prop:=Paired (fun y r=>∃a,y=V.ref a/\av a/\H a=some (.lst (r.map V.str))) vs rows
theorem tT {av:Addr->Prop}{H:Hp}:∀ {vs:List V}{rows:List (List Str)}{i:Nat}{v:V},ja av H vs rows->vs[i]? = some v -> ∃a r,v=V.ref a/\rows[i]? = some r/\av a/\H a=some (.lst (r.map V.str))
 |_,_,i,v,.nil,e=>by simp at e
 |_,_,0,v,.cons p _,e=>by
  obtain⟨a,rfl,n,q⟩:=p;simp at e;subst e;exact⟨a,_,rfl,rfl,n,q⟩
 |_,_,i+1,v,.cons _ t,e=>by
  obtain⟨a,r,e1,e2,n,q⟩:=tT (i:=i) t (by simpa using e)
  exact⟨a,r,e1,by simpa using e2,n,q⟩
theorem pL {Pg:Addr->Prop} (h:ja av H vs rows) (f:∀a xs,av a->H a=some (.lst xs)->Pg a/\H' a=some (.lst xs)):ja Pg H' vs rows:=
 Paired.imp' (fun _ _ ⟨a,e,n,q⟩=>⟨a,e,(f a _ n q).1,(f a _ n q).2⟩) h
theorem ze {av:Addr->Prop}{H:Hp}{vs:List V}{rows:List (List Str)}{a:Addr}{r:List Str}:ja av H vs rows->av a->H a=some (.lst (r.map V.str))->ja av H (vs ++ [.ref a]) (rows ++ [r])
 |.nil,n,q=>.cons ⟨a,rfl,n,q⟩ .nil
 |.cons p t,n,q=>.cons p (ze t n q)
theorem qS (h:ja av H vs rows):vs.length=rows.length:=mx h
theorem Yr (h:Nm x):PyData.strOk x=true:=by
 unfold PyData.strOk;rw[<-Array.all_toList,iW];intro c hc;have:=(h.az c hc).2;exact cZ (by omega)
theorem mT (H:Hp):∀xs:List Str,gT H (xs.map V.str) (xs.map PyData.str)
 |[]=>.nil
 |x::xs=>.cons (.str x) (mT H xs)
theorem k6:∀ {xs:List Str},(∀x∈xs,Nm x)->PyData.canLayAll0 (xs.map PyData.str)=true
 |[],_=>rfl
 |x::xs,h=>by
  show(PyData.strOk x && PyData.canLayAll0 (xs.map PyData.str))=true;rw[Yr (h x aV),k6 fun y hy=>h y (bV _ hy)];rfl
theorem qT:∀xs:List Str,PyData.depthAll (xs.map PyData.str)=0
 |[]=>rfl
 |x::xs=>by rw[cf];simp only[PyData.depthAll,PyData.depth,qT xs,Nat.max_self]
theorem ne_nil {xs:List Str} (ha:H a=some (.lst (xs.map V.str))) (hb:H b=some (.lst [])) (hn:∀x∈xs,Nm x) (q:Q (.bl (!xs.isEmpty)) H):Em (.ref a) (.ref b) H Q:=by
 refine⟨.list (xs.map PyData.str),.list [],.lst ha (mT _ _),.lst hb .nil,k6 hn,rfl,by show PyData.depthAll _+1<=60;rw[qT];decide,?_⟩
 cases xs with
 |nil=>exact q
 |cons x xs=>exact q
theorem eq_nil {xs:List Str} (ha:H a=some (.lst (xs.map V.str))) (hb:H b=some (.lst [])) (hn:∀x∈xs,Nm x) (q:Q (.bl xs.isEmpty) H):Ab (.ref a) (.ref b) H Q:=by
 refine⟨.list (xs.map PyData.str),.list [],.lst ha (mT _ _),.lst hb .nil,k6 hn,rfl,by show PyData.depthAll _+1<=60;rw[qT];decide,?_⟩
 cases xs with
 |nil=>exact q
 |cons x xs=>exact q
theorem Uu (xs:List V) (k:Nat):du xs (some (k:Int)) none=xs.drop k:=by
 unfold du;rw[HT.CP,HT.Dh]
 by_cases h:k<=xs.length
 ·rw[RO h,yZ (by rw[IC];omega)]
 ·rw[RP (by omega),Jd,Rv (by omega)];simp
def busy (rest:List (List Str)) (x:Str):Bool:=rest.any fun o=>decide (x∈o.drop 1)
def dU (all:List (List Str)):List (List Str)->List Str
 |[]=>[]
 |[]::rest=>dU all rest
 |(x::_)::rest=>if busy all x then dU all rest else x::dU all rest
theorem zp {n:Str}:∀ {k:Nat}{rest:List (List Str)},cw k rest n=none ↔ ∀r∈rest,n∈r->r.head? = some n
 |k,[]=>by simp[cw]
 |k,[]::rest=>by
  show cw (k+1) rest n=none ↔ _;rw[zp (k:=k+1) (rest:=rest)];simp
 |k,(x::r)::rest=>by
  show(if n∈x::r/\x≠n then some (k,x) else cw (k+1) rest n)=none ↔ _
  by_cases h:n∈x::r/\x≠n
  ·rw[au h]
   constructor
   ·intro z;cases z
   ·intro z
    have:=z _ aV h.1;exact absurd (by simpa using this) h.2
  ·rw[ao h,zp (k:=k+1) (rest:=rest)]
   constructor
   ·intro z q hq hn
    rcases aY.mp hq with rfl|hq
    ·by_cases e:x=n
     ·rw[e];rfl
     ·exact absurd ⟨hn,e⟩ h
    ·exact z q hq hn
   ·exact fun z q hq=>z q (bV _ hq)
theorem Lg {all:List (List Str)} (fU:∀r∈all,r.Nodup) (x:Str):busy all x=false ↔ cw 0 all x=none:=by
 rw[zp];unfold busy;rw[Q8]
 constructor
 ·intro h q hq hx
  have h1:=h q hq;cases q with
  |nil=>simp at hx
  |cons y t =>
   rcases aY.mp hx with rfl|hx
   ·rfl
   ·exact absurd (by simpa using hx) h1
 ·intro h r hr
  cases r with
  |nil=>simp
  |cons y t =>
   intro hx;have hx:x∈t:=by simpa using hx
   obtain rfl:y=x:=by simpa using h _ hr (bV _ hx)
   exact(gE.mp (fU _ hr)).1 hx
theorem Cs {all:List (List Str)} (fU:∀r∈all,r.Nodup):∀rest:List (List Str),(dU all rest).head? = j9 all rest
 |[]=>rfl
 |[]::rest=>Cs fU rest
 |(x::t)::rest=>by
  show(if busy all x then dU all rest else x::dU all rest).head? = if (cw 0 all x).isNone then some x else j9 all rest;cases hb:busy all x with
  |false=>rw[(Lg fU x).mp hb];rfl
  |true =>
   have hn:(cw 0 all x).isNone=false:=by
    cases z:cw 0 all x with
    |none=>rw[(Lg fU x).mpr z]at hb;cases hb
    |some _=>rfl
   rw[hn];exact Cs fU rest
theorem vT (all:List (List Str)) (r:List Str):∀rest:List (List Str),dU all (rest ++ [r])=dU all rest++dU all [r]
 |[]=>rfl
 |[]::rest=>vT all r rest
 |(x::t)::rest=>by
  show(if busy all x then dU all (rest ++ [r]) else x::dU all (rest ++ [r]))=(if busy all x then dU all rest else x::dU all rest)++dU all [r];rw[vT all r rest];split <;> rfl
theorem CJ (all:List (List Str)):∀rest:List (List Str),(dU all rest).length<=rest.length
 |[]=>aK _
 |[]::rest=>Nat.le_succ_of_le (CJ all rest)
 |(x::t)::rest=>by
  have:=CJ all rest;show(if busy all x then dU all rest else x::dU all rest).length<=rest.length+1;split
  ·omega
  ·rw[cO];omega
theorem zq {all:List (List Str)}{n:Str}:∀ {rest:List (List Str)},n∈dU all rest -> ∃r∈rest,n∈r
 |[],h=>by simp[dU]at h
 |[]::rest,h=>let ⟨r,hr,e⟩:=zq (rest:=rest) h;⟨r,bV _ hr,e⟩
 |(x::t)::rest,h=>by
  have h:n∈(if busy all x then dU all rest else x::dU all rest):=h;split at h
  ·obtain⟨r,hr,e⟩:=zq (rest:=rest) h
   exact⟨r,bV _ hr,e⟩
  ·rcases aY.mp h with rfl|h
   ·exact⟨_,aV,aV⟩
   ·obtain⟨r,hr,e⟩:=zq (rest:=rest) h
    exact⟨r,bV _ hr,e⟩
theorem JO {n:Str} (h:∀r∈rest,r.Nodup):∀r∈L2.without n rest,r.Nodup:=by
 intro r hr;obtain⟨q,hq,rfl⟩:=bw.mp hr;exact(h q hq).filter _
structure N0 (H:Hp) (rows:List (List Str)) (l fa:Addr) (m:Nat) (σ:St) (H1:Hp) (rest:List (List Str)) (lv:List V) (acc:List Str) (la:Addr):Prop where
 st:∃v3:Option V,σ = [some (.ref l),some (.ref la),some (.ref fa),v3]
 mm:m=total rest
 nM:H1 la=some (.lst lv)
 rr:ja (fun a=>a≠fa) H1 lv rest
 ne:la≠fa
 lG:H1 fa=some (.lst (acc.map V.str))
 sm:Small rest
 nd:∀r∈rest,r.Nodup
 same:ak H H1
 lim:acc.length+total rest<=1000
 eq:bq (total rows) rows=(bq (total rest) rest).map (acc ++ ·)
abbrev ym:List Str:= ["_law_rows","_law_left","_law_found","_law_free"]
theorem xG:b3 ym ["_law_rows"] (aM mS):=⟨rfl,rfl,rfl,by decide +kernel,rfl,by decide +kernel,by decide +kernel⟩
def Uv (s:Stmt):Expr:=match s with|.While t _ _ _=>t|_=>.Constant .none 0 ⟨0,0,0,0⟩
def Mz (e:Expr):Expr:=match e with|.ListComp _ (⟨_,_,i::_,_⟩::_) _ _=>i|_=>.Constant .none 0 ⟨0,0,0,0⟩
def Xj (e:Expr) (i:Nat):Expr:=match e with|.BoolOp _ es _=>es.getD i (.Constant .none 0 ⟨0,0,0,0⟩)|_=>.Constant .none 0 ⟨0,0,0,0⟩
def N1 (e:Expr):Expr:=match e with|.UnaryOp _ x _=>x|_=>.Constant .none 0 ⟨0,0,0,0⟩
abbrev sW:Stmt:=cL (cA mS) 2
abbrev eA:Expr:=fb (cL (cA mS) 0)
abbrev eB:Expr:=iz (Uv sW)
abbrev eC:Expr:=fb (cL (tQ sW) 0)
abbrev eD:Expr:=iz (N1 (Xj (Mz eC) 1))
abbrev eE:Expr:=fb (cL (tQ sW) 3)
theorem Ph:cj ym (aM mS) ["_law_row"] [none] (cW eA):=⟨rfl,by decide +kernel,by decide +kernel,rfl,d9 (by decide +kernel),by decide +kernel⟩
theorem Pj:cj ym (aM mS) ["_law_row"] [none] (cW eB):=⟨rfl,by decide +kernel,by decide +kernel,rfl,d9 (by decide +kernel),by decide +kernel⟩
theorem Pk:cj ym (aM mS) ["_law_row","_law_left"] [none,some 1] (cW eC):=⟨rfl,by decide +kernel,by decide +kernel,rfl,d9 (by decide +kernel),by decide +kernel⟩
theorem csD:cj ["_law_row","_law_left"] (relabel (cW eC) env) ["_law_other","_law_row"] [none,some 0] (cW eD):=nest rfl (by decide +kernel) (by decide +kernel) rfl (by decide +kernel) (by decide +kernel)
theorem ndD:(["_law_other","_law_row"]:List Str).Nodup:=by decide +kernel
theorem Pn:cj ym (aM mS) ["_law_row","_law_free"] [none,some 3] (cW eE):=⟨rfl,by decide +kernel,by decide +kernel,rfl,d9 (by decide +kernel),by decide +kernel⟩
theorem csG:cj ["_law_row","_law_free"] (relabel (cW eE) env) ["_law_name","_law_free"] [none,some 1] (cW (MX eE)):=nest rfl (by decide +kernel) (by decide +kernel) rfl (by decide +kernel) (by decide +kernel)
theorem ndG:(["_law_name","_law_free"]:List Str).Nodup:=by decide +kernel
@[irreducible] def uF:Sp:=fun vs H Q _=>∃ (l:Addr) (ws:List V) (rows:List (List Str)),vs = [.ref l]/\H l=some (.lst ws)/\ja (fun _=>True) H ws rows/\Small rows/\(∀r∈rows,r.Nodup) /\
 (bq (total rows) rows=none -> ∀H',ak H H'->Q .ax H')/\(∀o,bq (total rows) rows=some o -> ∀p H',H p=none->ak H H'->H' p=some (.lst (o.map V.str))->Q (.ref p) H')
theorem Ys (F:aU K "_law_merged" "_law_merged" mS f fd) (B:fg mg):aD P w K mg base aR 1 f fd ["_law_rows"] uF:=by
 refine F.ok xG (fun vs H Q E h=>?_) (fun cdv A outer s H vs Q E hr h=>?_)
 ·unfold uF at h;obtain⟨l,ws,rows,rfl,_⟩:=h;rfl
 ·unfold uF at h
  obtain⟨l,ws,rows,rfl,hl,hR,hS,fU,qn,qs⟩:=h;have hu:=hr.units;refine⟨_,aB (aZ (i:=1) xG.nd rfl (Or.inr rfl) (eQ rfl Ph (fw (pv 0)) (fun s H fp=>⟨bg (i:=0) Ph.nd rfl (Or.inl rfl),iZ,f7 (SH K rfl) rfl B.list boot_list (ae (pv 0) ah)⟩)))
   (aB (aZ (i:=2) xG.nd rfl (Or.inl rfl) (a9 ah))
   (aB (vX j4 (qW (ck (Kl rfl) rfl B.any boot_any (ae (eQ rfl Pj (fw (pv 1)) (fun s H fp=>⟨bg (i:=0) Pj.nd rfl (Or.inl rfl),iZ,t4 (lQ hu) (pv 0) (a9 ah) (cF _)⟩)) ah)) (fun _=>rfl))
    (aB (aZ (i:=3) xG.nd rfl (Or.inr rfl) (eQ rfl Pk (fw (pv 1)) (fun s H fp=>⟨bg (i:=0) Pk.nd rfl (Or.inr rfl),
      i3 (PW.pt (pw_and (b5 (lQ hu) (pv 0) (a9 ah) (cF _)) (pw_and1 (jG (i7 (ck (SK K rfl rfl) rfl B.any boot_any (ae (eQ rfl csD (Kg K rfl (pv 1)) (fun s H fp=>⟨bg (i:=0) ndD rfl (Or.inl rfl),iZ,t4 (wB K rfl) (bh (CA K rfl) (pv 1) aG (fun _ _=>rfl)) (lM (Ut K rfl) (pv 0) (k7 aG) lO) rfl⟩)) ah))))))),
      bh (CA K rfl) (pv 0) aG (fun _ _=>rfl)⟩)))
    (aB (fj (b5 (DE hu) (pv 3) (a9 ah) (cF _)) (aO (b9 jF)) fu)
    (aB (eP (j' mJ pJ pK kZ (pv 2) (ae (bh cz (pv 3) aG (fun _ _=>rfl)) ah)))
    (aO (aZ (i:=1) xG.nd rfl (Or.inr rfl) (eQ rfl Pn (fw (pv 1)) (fun s H fp=>⟨bg (i:=0) Pn.nd rfl (Or.inl rfl),iZ,
      eQ rfl csG (Kg K rfl (pv 0)) (fun s H fp=>⟨bg (i:=0) ndG rfl (Or.inl rfl),i3 (b5 xh (pv 0) (bh (CA K rfl) (pv 1) aG (fun _ _=>rfl)) (cF _)),pv 0⟩)⟩))))))))
   (aO (b9 (pv 2))))),?_⟩
  refine⟨_,rfl,l,rfl,⟨_,aj.of hl⟩,fun Bd rQ=>?_⟩;refine jC (xs:=ws) (fun i ys τ H1=>∃t0:Option V,τ = [t0]/\H1 Bd=some (.lst ys)/\ak H H1/\ja (fun a=>a≠Bd) H1 ys (rows.take i)) ⟨none,rfl,af,ar rQ,.nil⟩ (fun i ys τ H1 ⟨_,_,z1,z2,_⟩=>⟨z1,aj.of (z2 _ _ hl)⟩) ?_ ?_
  ·rintro i x ys τ H1 hx ⟨t0,rfl,h1,S1,yn⟩
   obtain⟨a,r,rfl,gO,_,gn⟩:=tT hR hx;have aT:i < ws.length:=(cu.mp hx).1;have tk:rows.take (i+1)=rows.take i ++ [r]:=by rw[dZ,gO];rfl
   refine⟨_,rfl,a,_,rfl,.inl (aj.of (S1 _ _ gn)),fun c hc=>?_⟩;have Sc:=ar (o:= .lst (r.map V.str)) hc;have Po:c≠Bd:=aH (aq h1 hc);refine⟨Sc _ _ h1,?_,cw_next aT ⟨_,rfl,af,fun b o hb=>?_,?_⟩⟩
   ·have h2:=qS yn
    have h3:=hS.a6;rw[dh]at h2;rw[aI];omega
   ·rw[ai (aq hb rQ)];exact Sc _ _ (S1 b o hb)
   ·rw[tk]
    refine ze (pL yn fun b xs nb hb=>⟨nb,by rw[ai nb];exact Sc _ _ hb⟩) Po ?_
    rw[ai Po];exact af
  ·rintro lv0 τ H1 ⟨t0,rfl,h1,S1,yn⟩
   rw[qS hR,eF]at yn;refine⟨bX _,fun fa lG=>?_⟩;have Sf:=ar (o:= .lst []) lG;have uG:H fa=none:=S1.free lG;refine⟨fun m σ H2=>∃rest lv acc la,N0 H rows l fa m σ H2 rest lv acc la,⟨_,rows,lv0,[],Bd,⟨none,rfl⟩,rfl,Sf _ _ h1,pL yn fun b xs nb hb=>⟨aq hb lG,Sf _ _ hb⟩,aq h1 lG,af,hS,fU,S1.trans Sf,by have:=vS hS.short;have:=hS.a6;simp only[yS];omega,by cases bq (total rows) rows <;> rfl⟩,?_⟩
   rintro m σ H2 ⟨rest,lv,acc,la,R⟩;obtain⟨v3,rfl⟩:=R.st;refine⟨_,rfl,la,rfl,⟨_,aj.of R.nM⟩,fun pb Gv=>?_⟩;refine jC (xs:=lv) (fun i ys τ H3=>∃t0:Option V,τ = [t0]/\ys=((rest.take i).map fun r=>!r.isEmpty).map V.bl/\H3 pb=some (.lst ys)/\ak H2 H3) ⟨none,rfl,rfl,af,ar Gv⟩ (fun i ys τ H3 ⟨_,_,_,z1,z2⟩=>⟨z1,aj.of (z2 _ _ R.nM)⟩) ?_ ?_
   ·rintro i x ys τ H3 hx ⟨t0,rfl,rfl,h3,S3⟩
    obtain⟨a,r,rfl,gO,_,gn⟩:=tT R.rr hx;have aT:i < lv.length:=(cu.mp hx).1;have tk:rest.take (i+1)=rest.take i ++ [r]:=by rw[dZ,gO];rfl
    have yo:=gP gO;refine⟨_,rfl,bX _,fun z hz=>?_⟩;have Sz:=ar (o:= .lst []) hz;refine ne_nil (Sz _ _ (S3 _ _ gn)) af (R.sm.nm r yo) ?_;refine⟨Sz _ _ h3,?_,cw_next aT ⟨_,rfl,by rw[tk,bj,bj];rfl,af,fun b o hb=>by rw[ai (aq hb Gv)];exact Sz _ _ (S3 b o hb)⟩⟩
    have h4:=R.sm.a6;rw[aE,aE,dh,aI];omega
   ·rintro bs τ H3 ⟨t0,rfl,rfl,h3,S3⟩
    rw[qS R.rr,eF]at h3;refine⟨pb,_,rfl,aj.of h3,_,rfl,?_⟩;have ean:((rest.map fun r=>!r.isEmpty).any id)=rest.any fun r=>!r.isEmpty:=by rw[IU];rfl
    rw[ean];have qd:=S3 _ _ R.nM;have uH:=S3 _ _ R.lG;have yq:ja (fun a=>a≠fa) H3 lv rest:=pL R.rr fun b xs nb hb=>⟨nb,S3 _ _ hb⟩;have Pp:=R.same.trans S3;refine d4 (fun hA=>?_) (fun hA=>?_)
    ·refine⟨fun aJ H'=>∃m',m' < m /\ ∃rest lv acc la,N0 H rows l fa m' aJ H' rest lv acc la,fun _ _ z=>z,?_⟩
     refine⟨_,rfl,la,rfl,⟨_,aj.of qd⟩,fun pc Gw=>?_⟩;refine jC (xs:=lv) (fun i ys τ H4=>∃t0:Option V,τ = [t0,some (.ref la)]/\ys=(dU rest (rest.take i)).map V.str/\H4 pc=some (.lst ys)/\ak H3 H4) ⟨none,rfl,rfl,af,ar Gw⟩ (fun i ys τ H4 ⟨_,_,_,z1,z2⟩=>⟨z1,aj.of (z2 _ _ qd)⟩) ?_ ?_
     ·rintro i x ys τ H4 hx ⟨t0,rfl,rfl,h4,S4⟩
      obtain⟨a,r,rfl,gO,_,gn⟩:=tT yq hx;have aT:i < lv.length:=(cu.mp hx).1;have tk:rest.take (i+1)=rest.take i ++ [r]:=by rw[dZ,gO];rfl
      have yo:=gP gO;have N2:=S4 _ _ gn;refine⟨_,rfl,bX _,fun z hz=>?_⟩;have Sz:=ar (o:= .lst []) hz;refine ne_nil (Sz _ _ N2) af (R.sm.nm r yo) ⟨_,rfl,?_⟩;have h5:=Sz _ _ h4;cases r with
      |nil=>exact cw_next aT ⟨_,rfl,by rw[tk,vT];show _=(_ ++ []).map _;rw[fh],h5,S4.trans Sz⟩
      |cons y t =>
       refine⟨_,rfl,la,rfl,⟨_,aj.of (Sz _ _ (S4 _ _ qd))⟩,fun pd vo=>?_⟩;have npd:pc≠pd:=aq h5 vo;refine jC (xs:=lv) (fun j ys τ H6=>∃t1:Option V,τ = [t1,some (.ref a)]/\ys=((rest.take j).map fun o=>decide (y∈o.drop 1)).map V.bl/\H6 pd=some (.lst ys)/\ak (upd H4 z (.lst [])) H6) ⟨none,rfl,rfl,af,ar vo⟩ (fun j ys τ H6 ⟨_,_,_,z1,z2⟩=>⟨z1,aj.of (z2 _ _ (Sz _ _ (S4 _ _ qd)))⟩) ?_ ?_
       ·rintro j x ys τ H6 Pq ⟨t1,rfl,rfl,h6,S6⟩
        obtain⟨b,o,rfl,hoj,_,hob⟩:=tT yq Pq;have cC:j < lv.length:=(cu.mp Pq).1;have kS:rest.take (j+1)=rest.take j ++ [o]:=by rw[dZ,hoj];rfl
        have Pr:=S4.trans (Sz.trans S6);refine⟨_,rfl,a,_,0,.str y,rfl,rfl,aj.of (Pr _ _ gn),jT,?_⟩;refine⟨_,rfl,_,rfl,b,_,rfl,aj.of (Pr _ _ hob),fun p2 jl=>?_⟩;have ec:du (o.map V.str) (some 1) none=(o.drop 1).map V.str:=by
         rw[show(1:Int)=((1:Nat):Int) from rfl,Uu,RK]
        rw[ec];have S7:=ar (o:= .lst ((o.drop 1).map V.str)) jl;refine⟨p2,_,rfl,.inl (aj.of af),rfl,jD _,?_⟩;rw[ao cX,j6];refine⟨S7 _ _ h6,?_,cw_next cC ⟨_,rfl,by rw[kS,bj,bj];rfl,af,fun c u hc=>by rw[ai (aq hc vo)];exact S7 _ _ (S6 c u hc)⟩⟩
        have h8:=R.sm.a6;rw[aE,aE,dh,aI];omega
       ·rintro bs2 τ H6 ⟨t1,rfl,rfl,h6,S6⟩
        rw[qS yq,eF]at h6;refine⟨pd,_,rfl,aj.of h6,_,rfl,?_⟩;have eb:((rest.map fun o=>decide (y∈o.drop 1)).any id)=busy rest y:=by unfold busy;rw[IU];rfl
        rw[eb];have Gx:=Sz.trans S6;cases hb:busy rest y with
        |true =>
         refine cw_next aT ⟨_,rfl,?_,S6 _ _ h5,S4.trans Gx⟩;rw[tk,vT];show _=(_++(if busy rest y then dU rest [] else y::dU rest [])).map _;rw[hb];show _=(_ ++ []).map _;rw[fh]
        |false =>
         refine⟨_,rfl,a,_,0,.str y,rfl,rfl,aj.of (Gx _ _ N2),jT,S6 _ _ h5,?_,cw_next aT ⟨_,rfl,?_,af,fun c u hc=>by rw[ai (aq hc Gw)];exact Gx _ _ (S4 c u hc)⟩⟩
         ·have h8:=CJ rest (rest.take i)
          have h9:=R.sm.a6;rw[dh]at h8;rw[aE,aI];omega
         ·rw[tk,vT]
          show _=(_++(if busy rest y then dU rest [] else y::dU rest [])).map _;rw[hb,bj];rfl
     ·rintro fr τ H4 ⟨t0,rfl,rfl,h4,S4⟩
      rw[qS yq,eF]at h4;have Pt:∀x∈dU rest rest,Nm x:=fun x hx=>by
       obtain⟨r,hr,e⟩:=zq hx;exact R.sm.nm r hr x e
      have hfh:=Cs R.nd rest;refine⟨_,rfl,bX _,fun z hz=>?_⟩;have Sz:=ar (o:= .lst []) hz;refine eq_nil (Sz _ _ h4) af Pt ⟨_,rfl,?_⟩;have vp:d6 rest=(dU rest rest).head?:=hfh.symm;have Gy:=Pp.trans (S4.trans Sz);have h5:=Sz _ _ h4;have N3:=Sz _ _ (S4 _ _ qd);have EF:=Sz _ _ (S4 _ _ uH);generalize dU rest rest=fr at vp h5 Pt ⊢;cases fr with
      |nil =>
       refine qn ?_ _ Gy;rw[R.eq,Cq hA vp];rfl
      |cons n ft =>
       have e:d6 rest=some n:=vp;have lt:=tG (tR e);generalize hG:upd H4 z (.lst [])=G at Gy h5 N3 EF Sz ⊢;have rrG:ja (fun a=>a≠fa) G lv rest:=pL yq fun b xs nb hb=>⟨nb,Sz _ _ (S4 _ _ hb)⟩;refine⟨_,rfl,.inl ⟨rfl,_,aj.of EF⟩,_,rfl,pc,_,0,.str n,rfl,rfl,aj.of h5,jT,fa,_,_,rfl,rfl,EF,by have:=R.lim;rw[aE,aI];omega,?_⟩
       have vq:pc≠fa:=aH (aq uH Gw);have h6:(upd G fa (.lst (acc.map V.str ++ [.str n]))) pc=some (.lst ((n::ft).map V.str)):=by rw[ai vq];exact h5
       have EG:(upd G fa (.lst (acc.map V.str ++ [.str n]))) la=some (.lst lv):=by rw[ai R.ne];exact N3
       have Ad:(upd G fa (.lst (acc.map V.str ++ [.str n]))) fa=some (.lst ((acc ++ [n]).map V.str)):=by rw[af,bj];rfl
       have Pu:ak H (upd G fa (.lst (acc.map V.str ++ [.str n]))):=fun b o hb=>by rw[ai (aq hb uG)];exact Gy b o hb
       have Gz:ja (fun a=>a≠fa) (upd G fa (.lst (acc.map V.str ++ [.str n]))) lv rest:=pL rrG fun b xs nb hb=>⟨nb,by rw[ai nb];exact hb⟩
       generalize upd G fa (.lst (acc.map V.str ++ [.str n]))=G6 at h6 EG Ad Pu Gz ⊢;refine⟨_,rfl,la,rfl,⟨_,aj.of EG⟩,fun le hle=>?_⟩;have nle:le≠fa:=aH (aq Ad hle);refine jC (xs:=lv) (fun i ys τ H7=>∃t0:Option V,τ = [t0,some (.ref pc)]/\H7 le=some (.lst ys)/\ak G6 H7/\ja (fun a=>a≠fa/\a≠le) H7 ys (L2.without n (rest.take i))) ⟨none,rfl,af,ar hle,.nil⟩ (fun i ys τ H7 ⟨_,_,z1,z2,_⟩=>⟨z1,aj.of (z2 _ _ EG)⟩) ?_ ?_
       ·rintro i x ys τ H7 hx ⟨t0,rfl,h7,S7,yr⟩
        obtain⟨a,r,rfl,gO,_,gn⟩:=tT Gz hx;have aT:i < lv.length:=(cu.mp hx).1;have tk:rest.take (i+1)=rest.take i ++ [r]:=by rw[dZ,gO];rfl
        have yo:=gP gO;have EH:=S7 _ _ gn;have N4:=S7 _ _ h6;refine⟨_,rfl,a,rfl,⟨_,aj.of EH⟩,fun b1 jn=>?_⟩;have Gp:a≠b1:=aq EH jn;have npb:pc≠b1:=aq N4 jn;have AV:b1≠le:=aH (aq h7 jn);have nbf:b1≠fa:=aH (aq (S7 _ _ Ad) jn);refine jC (xs:=r.map V.str) (fun j zs gN H8=>∃t1:Option V,gN = [t1,some (.ref pc)]/\zs=((r.take j).filter fun y=>!decide (y=n)).map V.str/\H8=upd H7 b1 (.lst zs)) ⟨none,rfl,rfl,rfl⟩ (fun j zs gN H8 ⟨_,_,_,z⟩=>by rw[z];exact⟨af,aj.of (by rw[ai Gp];exact EH)⟩) ?_ ?_
        ·rintro j x zs gN H8 ff ⟨t1,rfl,rfl,rfl⟩
         have cC:j < (r.map V.str).length:=(cu.mp ff).1;have iT:j < r.length:=by simpa using cC
         obtain rfl:V.str r[j]=x:=by simpa [iT] using ff
         have kS:r.take (j+1)=r.take j ++ [r[j]]:=by rw[dZ,b4 iT];rfl
         refine⟨_,rfl,_,rfl,pc,_,0,.str n,rfl,rfl,aj.of (by rw[ai npb];exact N4),jT,rfl,_,rfl,?_⟩
         refine d4 (fun bS=>?_) (fun bS=>?_)
         ·have lr:r[j]≠n:=fun z=>by rw[z]at bS;simp at bS
          refine⟨_,rfl,af,?_,cw_next cC ⟨_,rfl,?_,by rw[gR]⟩⟩
          ·have h1:=iY (fun y=>!decide (y=n)) (r.take j)
           have h2:(r.take j).length<=r.length:=by rw[dh];omega
           have h3:=R.sm.short r yo;rw[aE,aI];omega
          ·rw[kS,iK,bj,tD (by simpa using lr)];rfl
         ·have hy:r[j]=n:=by
           by_cases z:r[j]=n
           ·exact z
           ·exact absurd (by simp[z]) bS
          refine cw_next cC ⟨_,rfl,?_,rfl⟩;rw[kS];simp[hy]
        ·rintro zs gN H8 ⟨t1,rfl,rfl,rfl⟩
         rw[aE,eF];have Sb:=ar (o:= .lst ((r.filter fun y=>!decide (y=n)).map V.str)) jn;refine⟨Sb _ _ h7,?_,cw_next aT ⟨_,rfl,af,fun b o hb=>?_,?_⟩⟩
         ·have h1:=qS yr
          have h2:(L2.without n (rest.take i)).length<=rest.length:=by unfold L2.without;rw[aE,dh];omega
          have h3:=R.sm.a6;rw[aI];omega
         ·rw[ai (aq hb hle)];exact Sb _ _ (S7 b o hb)
         ·have e1:L2.without n (rest.take (i+1))=L2.without n (rest.take i) ++ [r.filter fun y=>!decide (y=n)]:=by rw[tk];unfold L2.without;rw[bj];rfl
          rw[e1];refine ze (pL yr fun b xs nb hb=>⟨nb,by rw[ai nb.2];exact Sb _ _ hb⟩) ⟨nbf,AV⟩ ?_
          rw[ai AV];exact af
       ·rintro ys τ H7 ⟨t0,rfl,h7,S7,yr⟩
        rw[qS Gz,eF]at yr;refine⟨_,by rw[R.mm];exact lt,L2.without n rest,ys,acc ++ [n],le,⟨_,rfl⟩,rfl,h7,pL yr fun b xs nb hb=>⟨nb.1,hb⟩,nle,S7 _ _ Ad,Jo R.sm,JO R.nd,Pu.trans S7,?_,?_⟩
        ·have:=R.lim;rw[cY,gF];omega
        ·rw[R.eq,Cr hA e,Option.map_map]
         congr 1
         funext z
         simp
    ·refine⟨_,rfl,qs acc ?_ fa H3 uG Pp uH⟩
     rw[R.eq,Cp (by simpa using hA)]
     show some (acc ++ [])=some acc;rw[fh]
theorem Uw {g:Str->V} (ha:H a=some (.tup (ps.map V.str))) (hd:H d=some (.dK kvs)) (hg:∀x∈ps,cb kvs (Sum.inr x)=some (g x)) (hp:H p=none) (hs:ps.length<=100)
  (q:Q (.ref p) (upd H p (.lst (ps.map g)))):kc (oS K a) (m4 0) xi (DW (qb 1) (qb 0)) [none,some (.ref d)] Q p H:=by
 have yt:a≠p:=aq ha hp;have yu:d≠p:=aq hd hp;refine qX (xs:=ps.map V.str) (fun j zs τ H2=>∃t1:Option V,τ = [t1,some (.ref d)]/\zs=(ps.take j).map g/\H2=upd H p (.lst zs)) ⟨none,rfl,rfl,rfl⟩ (fun j zs τ H2 ⟨_,_,_,z⟩=>by rw[z];exact⟨af,aN.of (by rw[ai yt];exact ha)⟩) ?_ ?_
 ·rintro j x zs τ H2 hx ⟨t1,rfl,rfl,rfl⟩
  have cC:j < (ps.map V.str).length:=(cu.mp hx).1;have iT:j < ps.length:=by simpa using cC
  obtain rfl:V.str ps[j]=x:=by simpa [iT] using hx
  have kS:ps.take (j+1)=ps.take j ++ [ps[j]]:=by rw[dZ,b4 iT];rfl
  refine⟨_,rfl,_,rfl,d,g ps[j],rfl,?_,af,?_,cw_next cC ⟨_,rfl,?_,by rw[gR]⟩⟩
  ·rw[<-hg _ (iX iT)];exact gI.k (k:=Sum.inr ps[j]) (by rw[ai yu];exact hd)
  ·rw[aE,dh,aI];omega
  ·rw[kS,bj];rfl
 ·rintro zs τ H2 ⟨t1,rfl,rfl,rfl⟩
  rw[aE,eF];exact q
theorem Ux {g:Str->V} (ha:H a=some (.lst (ps.map V.str))) (hd:H d=some (.dK kvs)) (hg:∀x∈ps,cb kvs (Sum.inr x)=some (g x)) (hp:H p=none) (hs:ps.length<=100)
  (q:Q (.ref p) (upd H p (.lst (ps.map g)))):kc (si K a) (m4 0) xi (DW (qb 1) (qb 0)) [none,some (.ref d)] Q p H:=by
 have yt:a≠p:=aq ha hp;have yu:d≠p:=aq hd hp;refine jC (xs:=ps.map V.str) (fun j zs τ H2=>∃t1:Option V,τ = [t1,some (.ref d)]/\zs=(ps.take j).map g/\H2=upd H p (.lst zs)) ⟨none,rfl,rfl,rfl⟩ (fun j zs τ H2 ⟨_,_,_,z⟩=>by rw[z];exact⟨af,aj.of (by rw[ai yt];exact ha)⟩) ?_ ?_
 ·rintro j x zs τ H2 hx ⟨t1,rfl,rfl,rfl⟩
  have cC:j < (ps.map V.str).length:=(cu.mp hx).1;have iT:j < ps.length:=by simpa using cC
  obtain rfl:V.str ps[j]=x:=by simpa [iT] using hx
  have kS:ps.take (j+1)=ps.take j ++ [ps[j]]:=by rw[dZ,b4 iT];rfl
  refine⟨_,rfl,_,rfl,d,g ps[j],rfl,?_,af,?_,cw_next cC ⟨_,rfl,?_,by rw[gR]⟩⟩
  ·rw[<-hg _ (iX iT)];exact gI.k (k:=Sum.inr ps[j]) (by rw[ai yu];exact hd)
  ·rw[aE,dh,aI];omega
  ·rw[kS,bj];rfl
 ·rintro zs τ H2 ⟨t1,rfl,rfl,rfl⟩
  rw[aE,eF];exact q
def rowsOf (L:Str->List Str) (ps:List Str):List (List Str):=ps.map L ++ [ps]
def mr (H:Hp) (kvs:List (Key×V)) (L:Str->List Str) (x:Str):Prop:= ∃a,cb kvs (Sum.inr x)=some (.ref a)/\H a=some (.tup ((L x).map V.str))
theorem mr.same (h:mr H kvs L x) (s:ak H H'):mr H' kvs L x:=let ⟨a,e,q⟩:=h;⟨a,e,s _ _ q⟩
theorem Ws (h:∀x∈ps,mr H kvs L x):∃g:Str->V,(∀x∈ps,cb kvs (Sum.inr x)=some (g x))/\dS H (ps.map g) (ps.map L):=by
 refine⟨fun x=>(cb kvs (Sum.inr x)).getD .ax,fun x hx=>?_,?_⟩
 ·obtain⟨a,e,_⟩:=h x hx;show _=some ((cb kvs (Sum.inr x)).getD V.ax);rw[e];rfl
 ·induction ps with
  |nil=>exact .nil
  |cons x ps ih =>
   obtain⟨a,e,q⟩:=h x aV;exact .cons ⟨a,by show(cb kvs (Sum.inr x)).getD V.ax=_;rw[e];rfl,q⟩ (ih fun y hy=>h y (bV _ hy))
theorem CK:∀ {k:Nat}{rows:List (List Str)}{o:List Str},bq k rows=some o->o.length<=k
 |0,_,_,h=>by cases h;exact aK _
 |k+1,rows,o,h=>by
  unfold bq at h;split at h
  ·split at h
   ·cases h
   ·obtain⟨o',h',rfl⟩:=iV.mp h
    have:=CK h';rw[cO];omega
  ·cases h;exact bX _
theorem Uy (ht:H t=some (.tup ws)) (hR:dS H ws rows) (hS:Small rows)
  (qn:bq (total rows) rows=none -> ∀a d p vs H',H a=none->H d=none->H p=none->rF (DM rows) 10 (uu rows)->ak H H'->H' a=some (ee (some .none) C (some d) a)->H' d=some (dv d [("kind",.ax),("ring",.ref p)])->H' p=some (.tup vs)->lA H' vs (uu rows)->E (.ref C) (some a) H')
  (qs:∀o,bq (total rows) rows=some o -> ∀p H',H p=none->ak H H'->H' p=some (.tup (o.map V.str))->Q (.ref p) H'):tX C [.ref t] H Q E:=by
 unfold tX;exact⟨t,ws,rows,rfl,ht,hR,hS,qn,qs⟩
theorem Vt (F:aU K "__init__" "Ring.__init__" pY f fd) (b:rA K B) (mB:mg "LineError" = some (.ref B)):xm P w K mg base 1 f fd ["self","kind","ring"] (m9 K "kind" "ring"):=by
 refine F.okH Mx (fun vs H Q E h=>?_) (fun cdv A outer s H vs Q E hr h=>?_)
 ·unfold m9 at h;obtain⟨a,C,k,r,i,rfl,_⟩:=h;rfl
 ·unfold m9 at h
  obtain⟨a,C,k,r,i,rfl,ha,c,qi,fk,fr,nk,nr,q⟩:=h;have hu:=hr.units;have hg:=hr.gd;refine⟨_,aB (eP (Cd b rfl mB (ae (pv 0) (ae (wz (jE eT (jE (rz hu hg (pv 1)) (jE eT (jE (rz hu hg (pv 2)) wK))))) ah))))
   (aB (Dk (pv 0) (pv 1)) (aO (KW (pv 0) (pv 2)))),?_⟩
  refine⟨_,rfl,⟨_,rfl,by decide +kernel⟩,_,rfl,fk,fun y1 mh=>⟨⟨_,rfl,mh⟩,⟨_,rfl,by decide +kernel⟩,_,rfl,fr,fun y2 xY=>⟨⟨_,rfl,xY⟩,fun y hy=>?_⟩⟩⟩
  refine⟨a,C,none,_,i,rfl,ha,c,qi,?_⟩;refine⟨_,rfl,_,rfl,a,C,rfl,ha,c,nk,fun d hd jr=>?_⟩;refine⟨_,rfl,_,rfl,a,C,d,_,rfl,af,(by rw[ai jr];exact af),c,nr,(by show 1 < 100;decide),?_⟩
  refine q d _ hd jr ?_ af fun b o e n=>?_
  ·rw[ai (aH jr)];exact af
  ·rw[ai (aq e hd)];exact C4 hd b o e n
theorem MA {H:Hp}:∀ {vs:List V}{W:List Wi}{v:V},lA H vs W->v∈vs -> ∃w∈W,∃a,v=V.ref a/\H a=some (.tup [.int w.1,.str w.2.1,.str w.2.2])
 |_,_,_,.nil,h=>by cases h
 |_,w::_,_,.cons a b,h=>by
  rcases aY.mp h with rfl|z
  ·exact⟨w,aV,a⟩
  ·obtain⟨w2,h2,r⟩:=MA b z
   exact⟨w2,bV _ h2,r⟩
def qf (C:Addr) (H:Hp) (a:Addr):Prop:= ∃c C' d kE,H a=some (ee (some (.ref c)) C (some d) a)/\(∃fs,H d=some (dv d fs))/\c≠a/\H c=some (ee (some .none) C' kE c)
@[irreducible] def uI (C:Addr):Sp:=fun vs H Q E=>∃ (d pa:Addr) (kvs:List (Key×V)) (L:Str->List Str) (k:Str) (ps:List Str),vs = [.ref d,.str k,.ref pa]/\H d=some (.dK kvs)/\H pa=some (.tup (ps.map V.str))/\(∀x∈ps,mr H kvs L x)/\Small (rowsOf L ps)/\Nm k /\
 (bq (total (rowsOf L ps)) (rowsOf L ps)=none -> ∀a H',H a=none->ak H H'->qf C H' a->E (.ref C) (some a) H') /\ ∀o,bq (total (rowsOf L ps)) (rowsOf L ps)=some o -> ∀p H',ak H H'->H' p=some (.tup ((k::o).map V.str))->Q (.ref p) H'
theorem Yt {pa:Addr}{k:Str} (hd:H d=some (.dK kvs)) (iH:H pa=some (.tup (ps.map V.str))) (hl:∀x∈ps,mr H kvs L x) (hS:Small (rowsOf L ps)) (hk:Nm k)
  (qn:bq (total (rowsOf L ps)) (rowsOf L ps)=none -> ∀a H',H a=none->ak H H'->qf C H' a->E (.ref C) (some a) H')
  (q:∀o,bq (total (rowsOf L ps)) (rowsOf L ps)=some o -> ∀p H',ak H H'->H' p=some (.tup ((k::o).map V.str))->Q (.ref p) H'):uI C [.ref d,.str k,.ref pa] H Q E:=by
 unfold uI;exact⟨d,pa,kvs,L,k,ps,rfl,hd,iH,hl,hS,hk,qn,q⟩
abbrev Pw:List Str:= ["lines","kind","parents","rows","refusal"]
theorem EI:b3 Pw ["lines","kind","parents"] (aM vW):=⟨rfl,rfl,rfl,by decide +kernel,rfl,by decide +kernel,by decide +kernel⟩
def N5 (e:Expr):Expr:=match e with|.BinOp a _ _ _=>a|_=>.Constant .none 0 ⟨0,0,0,0⟩
abbrev eLF:Expr:=N5 (iz (fb (cL (cA vW) 0)))
theorem N6:cj Pw (aM vW) ["parent","lines"] [none,some 0] (cW eLF):=⟨rfl,by decide +kernel,by decide +kernel,rfl,d9 (by decide +kernel),by decide +kernel⟩
theorem Yu {mq vt:FuncData} (F:aU K "line_from" "line_from" vW f fd) (Bl:fg mg) (T:D4 K mg B C fI mq) (me:mroIn K C (.ref C)=some true) (GM:aD P w K mg base (a8 P w) 3 fM vt ["rows"] (tX C)) (kM:keepIn K (.ref fM)=true) (bM:Binds K vt ["rows"] []) (mM:mg "merged" = some (.ref fM)) :
  aD P w K mg base (a8 P w) 4 f fd ["lines","kind","parents"] (uI C):=by
 have GI:xm P w K mg base 1 fI mq ["self","kind","ring"] (m9 K "kind" "ring"):=Vt T.F T.b T.mB;refine F.jm EI (fun vs H Q E h=>?_) (fun cdv A outer s H vs Q E hr h=>?_)
 ·unfold uI at h;obtain⟨d,pa,kvs,L,k,ps,rfl,_⟩:=h;rfl
 ·unfold uI at h
  obtain⟨d,pa,kvs,L,k,ps,rfl,hd,iH,hl,hS,hk,qn,q⟩:=h;have hu:=hr.units;have eX:=qO (qP (show 1<=64 by decide) _) hu
  refine⟨_,aB (aZ (i:=3) EI.nd rfl (Or.inl rfl) (f7 lK rfl Bl.tuple boot_tuple (ae (cG oA (eQ rfl N6 (pS (pv 2)) (fun s H fp=>⟨bg (i:=0) N6.nd rfl (Or.inl rfl),iZ,om eX (pv 1) (pv 0) (fun _ _=>rfl)⟩)) (a9 (ae (pv 2) ah))) ah)))
   (aO (U0 (j:=4) rfl (fun pins D=>aO (b9 (cG LJ (d7 (ae (pv 1) ah)) (K4 GM hr rfl mM kM bM (ae (pv 3) ah))))) EI.nd rfl rfl rfl T.mC T.q
    (fun a=>Wb T.q T.fn T.kp GI ((hr.mono (by decide:2<=3)).marked _) T.bi a7 rfl T.mC (ae (pv 1) (ae (V8 (pv 4)) ah))))),?_⟩
  obtain⟨g,hg,hR⟩:=Ws hl;have cR:ps.length<=20:=hS.short ps (fq _ aV);refine⟨_,rfl,pa,rfl,⟨_,aN.of iH⟩,fun c hc=>Uw iH hd hg hc (by omega) ?_⟩
  have S1:=ar (o:= .lst (ps.map g)) hc;refine⟨_,rfl,by show 1<=sizeLine;rw[aI];decide,fun c2 gj=>?_⟩
  have S2:=S1.trans (ar (o:= .lst [V.ref pa]) gj);refine⟨c,c2,_,_,rfl,rfl,by rw[ai (aq af gj)];exact af,af,by rw[aE,aI];show _+1<=_;omega,fun c3 pq=>?_⟩
  have S3:=S2.trans (ar (o:= .lst (ps.map g ++ [V.ref pa])) pq);refine⟨c3,_,rfl,.inl ⟨aj.of af,fun r hr=>?_⟩⟩;have S4:=S3.trans (ar (o:= .tup (ps.map g ++ [V.ref pa])) hr);refine⟨_,rfl,by show 1<=sizeLine;rw[aI];decide,fun c4 vd=>?_⟩
  have S5:=S4.trans (ar (o:= .tup [V.str k]) vd);refine⟨_,rfl,Uy (rows:=rowsOf L ps) (by rw[ai (aq af vd)];exact af) (dS.append (hR.same S5) (S5 _ _ iH)) hS (fun hm a dd p vs H6 ha0 AG hp0 rp S6 Be hd6 A6 Px=>?_) (fun o hm m H6 hm6 S6 h6=>?_)⟩
  ·have Bf:=S5.trans S6
   refine⟨⟨C,rfl,me⟩,a,rfl,?_⟩;refine⟨_,rfl,_,rfl,a,some .none,C,dd,_,.ref p,rfl,Be,hd6,T.x,T.nr,rfl,by show 2<=100;decide,fun e he=>?_⟩
   have S7:=ar (o:=bE C none e) he;refine two_sp af T.x T.q (.inl ⟨k,rfl,cK hk.hi (by decide)⟩) (JL (S7 _ _ A6) (fun v hv=>?_) ?_) T.nk T.nr fun d2 H7 hd2 nd2 h7a Py kp=>⟨rfl,?_⟩
   ·obtain⟨w',hw',aw,ew,hw⟩:=MA Px hv
    obtain⟨pre,post,er,mp,_⟩:=rp.at_ w' hw';have Pz:=gP er;refine⟨aw,w'.1,_,_,ew,S7 _ _ hw,gx (cu.mp er).1 hS.a6,hS.nm _ Pz _ (fq _ aV),hS.nm _ Pz _ (fq _ (bV _ mp))⟩
   ·rw[mx Px];exact cK rp.a6 (by decide)
   ·have yv:e≠a:=fun z=>by rw[z,Be]at he;cases he
    refine⟨e,C,some d2,some (.ref fI),C,some dd,rfl,h7a,fun d' ed=>by cases ed;exact⟨_,Py⟩,T.x,T.q,kp a _ (S7 _ _ Be) (aH yv),yv,Bf.free he,?_⟩
    have Z7:d2≠e:=nd2;refine qn hm e _ (Bf.free he) (fun b o hb=>?_) ⟨a,C,d2,some dd,af,⟨_,by rw[ai Z7];exact Py⟩,aH yv,by rw[ai (aH yv)];exact kp a _ (S7 _ _ Be) (aH yv)⟩
    have PF:b≠e:=aq (Bf _ _ hb) he;rw[ai PF];exact kp b o (S7 _ _ (Bf _ _ hb)) PF
  ·have ol:o.length<=200:=cK (CK hm) (cK (vS hS.short) (by have:=hS.a6;omega))
   refine⟨c4,m,_,_,rfl,rfl,S6 _ _ af,h6,by rw[aE,aI];show 1+_<=_;omega,fun p H7 S7 h7=>?_⟩
   exact q o hm p H7 (S5.trans (S6.trans S7)) h7
abbrev aF:=List (Str×List Str)
inductive b8 (aa:aF):Str->List Str->Prop where
 |mk {k:Str}{ps:List Str}{L:Str->List Str}{o:List Str}:(k,ps)∈aa->(∀x∈ps,b8 aa x (L x))->bq (total (rowsOf L ps)) (rowsOf L ps)=some o->b8 aa k (k::o)
structure cp (aa:aF):Prop where
 nd:(aa.map (·.1)).Nodup
 a6:aa.length<=15
 nm:∀p∈aa,Nm p.1
 up:∀p∈aa,∀x∈p.2,∃q∈aa,q.1=x
 four:∀p∈aa,p.2.length<=4
 qz:∀p∈aa,p.2.Nodup
theorem cp.key {aa:aF} (s:cp aa) {k:Str}{qs:List Str} (h:(k,ps)∈aa) (h':(k,qs)∈aa):ps=qs:=by
 have nd:=s.nd;clear s
 induction aa with
 |nil=>cases h
 |cons p aa ih =>
  rw[cf,gE]at nd;have no:∀ {rs},(k,rs)∈aa->p.1≠k:=fun hm e=>nd.1 (e ▸ bw.mpr ⟨_,hm,rfl⟩);rcases aY.mp h with z|z
  ·rcases aY.mp h' with z'|z'
   ·rw[<-z']at z;exact(Prod.mk.inj z).2
   ·exact absurd (by rw[<-z]) (no z')
  ·rcases aY.mp h' with z'|z'
   ·exact absurd (by rw[<-z']) (no z)
   ·exact ih z z' nd.2
theorem JP {L':Str->List Str} (h:∀x∈ps,L x=L' x):rowsOf L ps=rowsOf L' ps:=by
 unfold rowsOf;rw[BY h]
theorem b8.uniq {aa:aF} (s:cp aa) {k:Str}{l:List Str} (h:b8 aa k l):∀ {l'},b8 aa k l'->l=l':=by
 induction h with
 |mk hm hx hg ih =>
  intro l' h';cases h' with
  |mk jk ff GJ =>
   have e:=s.key hm jk;subst e;have e:=JP fun x nJ=>ih x nJ (ff x nJ);rw[e,GJ]at hg;rw[fZ hg]
theorem KH:∀ {k:Nat}{rows:List (List Str)}{o:List Str},bq k rows=some o->o.Nodup /\ ∀x∈o,∃r∈rows,x∈r
 |0,_,_,h=>by cases h;exact⟨qM,fun x hx=>by cases hx⟩
 |k+1,rows,o,h=>by
  unfold bq at h;split at h
  ·split at h
   ·cases h
   ·rename_i n hn
    obtain⟨o',h',rfl⟩:=iV.mp h;obtain⟨nd,mem⟩:=KH h';have N7:∀x∈o',x≠n /\ ∃r∈rows,x∈r:=fun x hx=>by
     obtain⟨r,hr,sT⟩:=mem x hx;obtain⟨r0,sU,rfl⟩:=bw.mp hr;obtain⟨h1,h2⟩:=gD.mp sT;exact⟨by simpa using h2,r0,sU,h1⟩
    refine⟨gE.mpr ⟨fun z=>(N7 n z).1 rfl,nd⟩,fun x hx=>?_⟩;rcases aY.mp hx with rfl|z
    ·obtain⟨r,hr,e⟩:=y9 hn
     exact⟨r,hr,RQ e⟩
    ·exact(N7 x z).2
  ·cases h;exact⟨qM,fun x hx=>by cases hx⟩
theorem Wt {a b:List Str} (nd:a.Nodup) (h:∀x∈a,x∈b):a.length<=b.length:=DL nd h
theorem b8.mem {aa:aF} (s:cp aa) {k:Str}{l:List Str} (h:b8 aa k l):(∀x∈l,x∈aa.map (·.1))/\l.length<=16:=by
 induction h with
 |mk hm hx hg ih =>
  rename_i k ps L o
  obtain⟨nd,mem⟩:=KH hg;have jg:∀x∈o,x∈aa.map (·.1):=fun x hxo=>by
   obtain⟨r,hr,sT⟩:=mem x hxo;unfold rowsOf at hr;rcases dX.mp hr with z|z
   ·obtain⟨y,hy,rfl⟩:=bw.mp z
    exact(ih y hy).1 x sT
   ·rw[d5.mp z]at sT
    obtain⟨q,hq,e⟩:=s.up _ hm x sT;exact bw.mpr ⟨q,hq,e⟩
  have fl:=Wt nd jg;have:=s.a6;rw[aE]at fl;refine⟨fun x hx=>?_,by rw[cO];omega⟩
  rcases aY.mp hx with rfl|z
  ·exact bw.mpr ⟨_,hm,rfl⟩
  ·exact jg x z
open Classical in
noncomputable def aP (aa:aF) (k:Str):List Str:=if h:∃l,b8 aa k l then Classical.choose h else []
theorem b8.line {aa:aF} (s:cp aa) {k:Str}{l:List Str} (h:b8 aa k l):aP aa k=l:=by
 unfold aP;rw[dif_pos ⟨l,h⟩];exact b8.uniq s (ahY (⟨l,h⟩:∃l,b8 aa k l)) h
def Ln (aa:aF) (k:Str):Prop:=b8 aa k (aP aa k)
theorem b8.ln {aa:aF} (s:cp aa) {k:Str}{l:List Str} (h:b8 aa k l):Ln aa k:=by unfold Ln;rw[h.line s];exact h
def D6 (aa:aF) (k:Str):Prop:= ∃ps,(k,ps)∈aa/\(∀x∈ps,Ln aa x)/\bq (total (rowsOf (aP aa) ps)) (rowsOf (aP aa) ps)=none
theorem D6.no {aa:aF} (s:cp aa) {k:Str} (h:D6 aa k) : ¬ Ln aa k:=by
 obtain⟨ps,hm,hx,hg⟩:=h;intro hl;unfold Ln at hl;cases e:aP aa k with
 |nil=>rw[e]at hl;cases hl
 |cons a b =>
  rw[e]at hl;cases hl with
  |mk jk ff GJ =>
   have e2:=s.key hm jk;subst e2;rw[JP (fun x nJ=>(ff x nJ).line s),GJ]at hg;cases hg
theorem MY {aa:aF} (s:cp aa) {k:Str}{o:List Str} (hm:(k,ps)∈aa) (hx:∀x∈ps,Ln aa x) (hg:bq (total (rowsOf (aP aa) ps)) (rowsOf (aP aa) ps)=some o):Ln aa k/\aP aa k=k::o:=by
 have h:b8 aa k (k::o):= .mk hm hx hg;exact⟨h.ln s,h.line s⟩
def cq (aa:aF):Prop:= ∀p∈aa,Ln aa p.1
theorem Ts {aa:aF} (s:cp aa) {k:Str} (hm:(k,ps)∈aa) (hx:∀x∈ps,Ln aa x):Small (rowsOf (aP aa) ps):=by
 have f4:=s.four _ hm;have jg:∀r∈rowsOf (aP aa) ps,(∀x∈r,x∈aa.map (·.1))/\r.length<=20:=fun r hr=>by
  unfold rowsOf at hr;rcases dX.mp hr with z|z
  ·obtain⟨y,hy,rfl⟩:=bw.mp z
   obtain⟨h1,h2⟩:=b8.mem s (hx y hy);exact⟨h1,by omega⟩
  ·rw[d5.mp z]
   refine⟨fun x sT=>?_,by show ps.length<=20;have:ps.length<=4:=f4;omega⟩
   obtain⟨q,hq,e⟩:=s.up _ hm x sT;exact bw.mpr ⟨q,hq,e⟩
 refine⟨?_,fun r hr=>(jg r hr).2,fun r hr x hx=>?_⟩
 ·unfold rowsOf;rw[cY,aE];show _+1<=10
  have:ps.length<=4:=f4;omega
 ·obtain⟨q,hq,rfl⟩:=bw.mp ((jg r hr).1 x hx)
  exact s.nm q hq
theorem closed {aa:aF} (s:cp aa) {D:Str->Prop}{B:Str->Prop} (hB:∀k,B k -> ¬ Ln aa k) (hc:∀p∈aa,(∀x∈p.2,D x)->D p.1\/B p.1):∀ {k:Str}{l:List Str},b8 aa k l->D k:=by
 intro k l h
 induction h with
 |mk hm hx hg ih =>
  rcases hc _ hm ih with z|z
  ·exact z
  ·exact absurd ((b8.mk hm hx hg).ln s) (hB _ z)
theorem boot_all:bootBuiltins "all" = some (.builtin "all"):=by decide +kernel
theorem SM (K:Frag) (h:X.K=K) (hc:X.calm=true):eV X (.builtin "all") (fun xs H Q=>∃ (p:Addr) (bs:List Bool),xs = [.ref p]/\aj K H p (bs.map V.bl)/\Q (.bl (bs.all id)) H):=by subst h;exact vU hc
def b7 (H:Hp) (vs:List V) (aa:List (Str×List Str)):Prop:=Paired (fun y p=>∃a b,y=V.ref a/\H a=some (.tup [.str p.1,.ref b])/\H b=some (.tup (p.2.map V.str))) vs aa
theorem b7.keep (h:b7 H vs aa) (s:∀b xs,H b=some (.tup xs)->H' b=some (.tup xs)):b7 H' vs aa:=Paired.imp' (fun _ _ ⟨a,b,e,q,r⟩=>⟨a,b,e,s _ _ q,s _ _ r⟩) h
theorem b7.same (h:b7 H vs aa) (s:ak H H'):b7 H' vs aa:=h.keep fun _ _ e=>s _ _ e
theorem b7.length (h:b7 H vs aa):vs.length=aa.length:=mx h
theorem b7.append {H:Hp}{vs:List V}{aa:List (Str×List Str)}{a b:Addr}{p:Str×List Str}:b7 H vs aa->H a=some (.tup [.str p.1,.ref b])->H b=some (.tup (p.2.map V.str))->b7 H (vs ++ [.ref a]) (aa ++ [p])
 |.nil,q,r=>.cons ⟨a,b,rfl,q,r⟩ .nil
 |.cons x t,q,r=>.cons x (b7.append t q r)
theorem b7.pairs (h:b7 H vs aa):∃kvs,lT H vs kvs/\kvs.map (·.1)=aa.map (·.1):=by
 induction h with
 |nil=>exact⟨[],.nil,rfl⟩
 |cons p _ ih =>
  obtain⟨a,b,e,q,r⟩:=p;obtain⟨kvs,h1,h2⟩:=ih;exact⟨(_,.ref b)::kvs,.cons ⟨a,e,q⟩ h1,by rw[cf,cf,h2]⟩
def isDone (kvs:List (Key×V)) (x:Str):Bool:=(cb kvs (Sum.inr x)).isSome
def iL (dn:Str->Bool) (rest:List (Str×List Str)):List (Str×List Str):=rest.filter fun p=>(p.2.map dn).all id
theorem KI {dn:Str->Bool}{rest:List (Str×List Str)}{p:Str×List Str}:p∈iL dn rest ↔ p∈rest /\ ∀x∈p.2,dn x=true:=by
 unfold iL;rw[gD,tF,iW];rfl
theorem JQ {α:Type} (f:α->Bool):∀l:List α,(l.filter f).length+(l.filter fun x=>!f x).length=l.length
 |[]=>rfl
 |x::l=>by
  have ih:=JQ f l;cases h:f x <;> simp[qN,h] <;> omega
theorem Uz {dn Bg:Str->Bool}{rest:List (Str×List Str)} (h:∀p∈iL dn rest,Bg p.1=true):(rest.filter fun p=>!Bg p.1).length+(iL dn rest).length<=rest.length:=by
 have e:rest.length=(rest.filter fun p=>(p.2.map dn).all id).length+(rest.filter fun p=>!(p.2.map dn).all id).length:=by
  exact(JQ (fun p:Str×List Str=>(p.2.map dn).all id) rest).symm
 have le:(rest.filter fun p=>!Bg p.1).length<=(rest.filter fun p=>!(p.2.map dn).all id).length:=by
  rw[<-ah3,<-ah3];refine List.countP_mono_left fun p hp h1=>?_;cases z:(p.2.map dn).all id with
  |false=>rfl
  |true =>
   have:=h p (gD.mpr ⟨hp,z⟩);rw[this]at h1;cases h1
 unfold iL;omega
theorem Vu (ha:H a=some (.tup (ps.map V.str))) (hd:H d=some (.dK kvs)) (hp:H p=none) (hs:ps.length<=100)
  (q:Q (.ref p) (upd H p (.lst ((ps.map (isDone kvs)).map V.bl)))):kc (oS K a) (m4 0) xi (NK (qb 0) (qb 1)) [none,some (.ref d)] Q p H:=by
 have yt:a≠p:=aq ha hp;have yu:d≠p:=aq hd hp;refine qX (xs:=ps.map V.str) (fun j zs τ H2=>∃t1:Option V,τ = [t1,some (.ref d)]/\zs=((ps.take j).map (isDone kvs)).map V.bl/\H2=upd H p (.lst zs)) ⟨none,rfl,rfl,rfl⟩ (fun j zs τ H2 ⟨_,_,_,z⟩=>by rw[z];exact⟨af,aN.of (by rw[ai yt];exact ha)⟩) ?_ ?_
 ·rintro j x zs τ H2 hx ⟨t1,rfl,rfl,rfl⟩
  have cC:j < (ps.map V.str).length:=(cu.mp hx).1;have iT:j < ps.length:=by simpa using cC
  obtain rfl:V.str ps[j]=x:=by simpa [iT] using hx
  have kS:ps.take (j+1)=ps.take j ++ [ps[j]]:=by rw[dZ,b4 iT];rfl
  refine⟨_,rfl,_,rfl,d,_,rfl,gI.k (k:=Sum.inr ps[j]) (by rw[ai yu];exact hd),af,?_,cw_next cC ⟨_,rfl,?_,by rw[gR]⟩⟩
  ·rw[aE,aE,dh,aI];omega
  ·rw[kS,bj,bj];rfl
 ·rintro zs τ H2 ⟨t1,rfl,rfl,rfl⟩
  rw[aE,eF];exact q
def rH (aa:List (Str×List Str)) (kvs:List (Key×V)):Prop:=(kvs.map (·.1)).Nodup /\ ∀k∈kvs.map (·.1),∃p∈aa,k=Sum.inr p.1
theorem KJ (kvs:List (Key×V)) (k:Key) (v:V):(k∈kvs.map (·.1)/\(putK kvs k v).map (·.1)=kvs.map (·.1))\/(k ∉ kvs.map (·.1)/\(putK kvs k v).map (·.1)=kvs.map (·.1) ++ [k]):=by
 have e:(kvs.any fun kv=>decide (kv.1=k))=true ↔ k∈kvs.map (·.1):=by
  rw[tw,bw];exact⟨fun⟨x,h,d⟩=>⟨x,h,pH d⟩,fun⟨x,h,d⟩=>⟨x,h,cZ d⟩⟩
 unfold putK
 by_cases h:k∈kvs.map (·.1)
 ·refine .inl ⟨h,?_⟩
  rw[au (e.mpr h),pI];refine BY fun kv _=>?_;show(if kv.1=k then (kv.1,v) else kv).1=kv.1;split <;> rfl
 ·refine .inr ⟨h,?_⟩
  rw[ao fun z=>h (e.mp z),bj];rfl
theorem Vv {k j:Key}:j∈(putK kvs k v).map (·.1) ↔ j=k\/j∈kvs.map (·.1):=by
 rcases KJ kvs k v with⟨h,e⟩|⟨h,e⟩
 ·rw[e];exact⟨.inr,fun z=>z.elim (fun e=>e ▸ h) id⟩
 ·rw[e,dX,d5];exact Or.comm
theorem Wu {k:Key} (h:(kvs.map (·.1)).Nodup):((putK kvs k v).map (·.1)).Nodup:=by
 rcases KJ kvs k v with⟨_,e⟩|⟨hn,e⟩
 ·rw[e];exact h
 ·rw[e,mI]
  exact⟨h,by simp,fun a ha b hb e=>hn (by rw[<-(d5.mp hb),<-e];exact ha)⟩
theorem rH.put {p:Str×List Str} (h:rH aa kvs) (hp:p∈aa):rH aa (putK kvs (Sum.inr p.1) v):=by
 refine⟨Wu h.1,fun k hk=>?_⟩;rcases Vv.mp hk with z|z
 ·exact⟨p,hp,z⟩
 ·exact h.2 k z
theorem z4 {α:Type} [DecidableEq α]:∀ {a b:List α},a.Nodup->(∀x∈a,x∈b)->a.length<=b.length
 |[],b,_,_=>bX _
 |x::a,b,nd,h=>by
  rw[gE]at nd;have hx:=h x aV;have:=z4 (b:=b.erase x) nd.2 fun y hy=>(Rr (fun e=>nd.1 (by rw[<-e];exact hy))).mpr (h y (bV _ hy))
  rw[ahH hx]at this;have:=Rq hx;rw[cO];omega
def rR (aa:List (Str×List Str)):Prop:= ∀p∈aa,(∀x∈p.2,Ln aa x)->Ln aa p.1
structure Ae (H:Hp) (aa:List (Str×List Str)) (t d:Addr) (m:Nat) (σ:St) (H1:Hp) (kvs:List (Key×V)) (rest:List (Str×List Str)) (wv:List V) (wa:Addr):Prop where
 st:∃v3 v4 v5:Option V,σ = [some (.ref t),some (.ref d),some (.ref wa),v3,v4,v5]
 mm:m=rest.length
 hd:H1 d=some (.dK kvs)
 hw:H1 wa=some (.lst wv)
 fv:b7 H1 wv rest
 sub:∀p∈rest,p∈aa
 all:∀p∈aa,isDone kvs p.1=true\/p∈rest
 ln:∀x,isDone kvs x=true->mr H1 kvs (aP aa) x/\Ln aa x
 same:ak H H1
 lim:kvs.length+rest.length<=15
 ky:rH aa kvs
@[irreducible] def ou (C:Addr):Sp:=fun vs H Q E=>∃ (t:Addr) (ws:List V) (aa:List (Str×List Str)),vs = [.ref t]/\H t=some (.tup ws)/\b7 H ws aa/\cp aa /\
 (¬ cq aa -> ∀a H',ak H H'->qf C H' a->E (.ref C) (some a) H') /\ ∀d kvs H',H d=none->ak H H'->H' d=some (.dK kvs)->rH aa kvs->rR aa->(cq aa -> ∀p∈aa,mr H' kvs (aP aa) p.1)->Q (.ref d) H'
theorem zB (ht:H t=some (.tup ws)) (hf:b7 H ws aa) (ok:cp aa)
  (qn : ¬ cq aa -> ∀a H',ak H H'->qf C H' a->E (.ref C) (some a) H')
  (q:∀d kvs H',H d=none->ak H H'->H' d=some (.dK kvs)->rH aa kvs->rR aa->(cq aa -> ∀p∈aa,mr H' kvs (aP aa) p.1)->Q (.ref d) H'):ou C [.ref t] H Q E:=by unfold ou;exact⟨t,ws,aa,rfl,ht,hf,ok,qn,q⟩
theorem C6 {rest:List (Str×List Str)}{wv:List V}{wa:Addr} (R:Ae H aa t d m σ H1 kvs rest wv wa) (ok:cp aa) (no:∀p∈rest,¬ ∀x∈p.2,isDone kvs x=true) (h:Ln aa x):isDone kvs x=true:=by
 refine closed ok (D:=fun x=>isDone kvs x=true) (B:=fun _=>False) (fun _ z=>z.elim) (fun p hp hx=>?_) h;rcases R.all p hp with z|z
 ·exact .inl z
 ·exact absurd hx (no p z)
theorem L8 {rest:List (Str×List Str)}{wv:List V}{wa:Addr} (R:Ae H aa t d m σ H1 kvs rest wv wa) (ok:cp aa) (no:∀p∈rest,¬ ∀x∈p.2,isDone kvs x=true):rR aa:=fun p hp hx=>by
 rcases R.all p hp with z|z
 ·exact(R.ln p.1 z).2
 ·exact absurd (fun x h=>C6 R ok no (hx x h)) (no p z)
abbrev GS:List Str:= ["family","lines","waiting","ready","kind","parents"]
theorem rS:b3 GS ["family"] (aM ug):=⟨rfl,rfl,rfl,by decide +kernel,rfl,by decide +kernel,by decide +kernel⟩
abbrev N8:Stmt:=cL (cA ug) 2
abbrev EJ:Expr:=fb (cL (tQ N8) 0)
abbrev Z8:Expr:=iz (Mz EJ)
abbrev Z9:Expr:=fb (cL (tQ N8) 3)
theorem MZ:cj GS (aM ug) ["pair","lines"] [none,some 1] (cW EJ):=⟨rfl,by decide +kernel,by decide +kernel,rfl,d9 (by decide +kernel),by decide +kernel⟩
theorem Yv:cj ["pair","lines"] (relabel (cW EJ) env) ["parent","lines"] [none,some 1] (cW Z8):=nest rfl (by decide +kernel) (by decide +kernel) rfl (by decide +kernel) (by decide +kernel)
theorem Yw:(["parent","lines"]:List Str).Nodup:=by decide +kernel
theorem M0:cj GS (aM ug) ["pair","lines"] [none,some 1] (cW Z9):=⟨rfl,by decide +kernel,by decide +kernel,rfl,d9 (by decide +kernel),by decide +kernel⟩
theorem Vw {fF:Addr}{PH:FuncData} (F:aU K "lines_of" "lines_of" ug f fd) (B:fg mg) (GF:aD P w K mg base (a8 P w) 4 fF PH ["lines","kind","parents"] (uI C)) (kF:keepIn K (.ref fF)=true) (bF:Binds K PH ["lines","kind","parents"] []) (mF:mg "line_from" = some (.ref fF)) :
  aD P w K mg base (a8 P w) 5 f fd ["family"] (ou C):=by
 refine F.jm rS (fun vs H Q E h=>?_) (fun cdv A outer s H vs Q E hr h=>?_)
 ·unfold ou at h;obtain⟨t,ws,aa,rfl,_⟩:=h;rfl
 ·unfold ou at h
  obtain⟨t,ws,aa,rfl,ht,Z',ok,qn,q⟩:=h;have hu:=hr.units;have eX:=qO (qP (show 1<=64 by decide) _) hu
  refine⟨_,aB (aZ (i:=1) rS.nd rfl (Or.inr rfl) wc)
   (aB (aZ (i:=2) rS.nd rfl (Or.inl rfl) (f7 vQ rfl B.list boot_list (ae (pv 0) ah)))
   (aB (vX B3 (qW (pv 2) (fun _=>rfl))
    (aB (zh rfl MZ rS.nd (i:=3) rfl rfl (fw (pv 2)) (fun s H fp=>⟨bg (i:=0) MZ.nd rfl (Or.inl rfl),
      i3 (i7 (ck (SM K rfl rfl) rfl B.all boot_all (ae (eQ rfl Yv (KY K rfl (bh (zw K rfl) (pv 0) aG (fun _ _=>rfl))) (fun s H fp=>⟨bg (i:=0) Yw rfl (Or.inl rfl),iZ,Mg (Mp eX (pv 0) (pv 1))⟩)) ah))),
      pv 0⟩))
    (aB (fj (jG (qW (pv 3) (fun _=>rfl))) (aO (b9 (pv 1))) fu)
    (aB (i8 B3 rfl (fw (pv 3)) (wG rfl (j5 (bg (i:=4) rS.nd rfl (Or.inl rfl)) (j5 (bg (i:=5) rS.nd rfl (Or.inl rfl)) tZ)))
     (aO (Dl eX (pv 1) (pv 4) (aQ GF hr rfl mF kF bF .nil eG (ae (pv 1) (ae (pv 4) (ae (pv 5) ah)))) rfl)))
    (aO (zh rfl M0 rS.nd (i:=2) rfl rfl (fw (pv 2)) (fun s H fp=>⟨bg (i:=0) M0.nd rfl (Or.inl rfl),
      i3 (WU (Ua eX (bh (zw K rfl) (pv 0) aG (fun _ _=>rfl)) (pv 1))),pv 0⟩)))))))
   (aO (b9 (pv 1))))),?_⟩
  intro d hd;have Sd:=ar (o:= .dK []) hd;refine⟨_,rfl,t,ws,rfl,.inr (aN.of (Sd _ _ ht)),fun wa nK=>?_⟩;have Sw:=Sd.trans (ar (o:= .lst ws) nK);have nwd:d≠wa:=aq af nK;refine⟨fun m σ H1=>∃kvs rest wv wa,Ae H aa t d m σ H1 kvs rest wv wa,⟨_,[],aa,ws,wa,⟨none,none,none,rfl⟩,rfl,by rw[ai nwd];exact af,af,Z'.same Sw,fun _ h=>h,fun _ h=>.inr h,fun x h=>(by cases h),Sw,by have:=ok.a6;rw[yS];omega,⟨qM,fun _ h=>(by cases h)⟩⟩,?_⟩
  rintro m σ H1 ⟨kvs,rest,wv,wa,R⟩;obtain⟨v3,v4,v5,rfl⟩:=R.st;have yw:=R.fv.length;refine⟨_,rfl,_,.inl ⟨_,aj.of R.hw,rfl⟩,?_⟩;refine d4 (fun bS=>?_) (fun bS=>?_)
  ·refine⟨fun aJ H'=>∃m',m' < m /\ ∃kvs rest wv wa,Ae H aa t d m' aJ H' kvs rest wv wa,fun _ _ z=>z,?_⟩
   refine⟨_,rfl,wa,rfl,⟨_,aj.of R.hw⟩,fun ra GU=>?_⟩;have Bh:∀ {b:Addr}{u:HO},H b=some u->b≠d:=fun e=>aq e hd;have ndr:d≠ra:=aq R.hd GU;refine jC (xs:=wv) (fun i ys τ H3=>∃t0:Option V,τ = [t0,some (.ref d)]/\H3 ra=some (.lst ys)/\ak H1 H3/\b7 H3 ys (iL (isDone kvs) (rest.take i))) ⟨none,rfl,af,ar GU,.nil⟩ (fun i ys τ H3 ⟨_,_,z1,z2,_⟩=>⟨z1,aj.of (z2 _ _ R.hw)⟩) ?_ ?_
   ·rintro i x ys τ H3 hx ⟨t0,rfl,h3,S3,F3⟩
    have aT:i < wv.length:=(cu.mp hx).1;obtain⟨p,hp,a,b,rfl,ha,hb⟩:=oq R.fv hx;have tk:rest.take (i+1)=rest.take i ++ [p]:=by rw[dZ,hp];rfl
    have Bi:=R.sub p (gP hp);have cR:p.2.length<=20:=cK (ok.four p Bi) (by decide)
    have lE:=S3 _ _ ha;have Bj:=S3 _ _ hb;refine⟨_,rfl,a,_,1,.ref b,rfl,rfl,aN.of lE,(show cg [V.str p.1,V.ref b] ((1:Nat):Int)=some (.ref b) from dq rfl),?_⟩;refine⟨b,rfl,⟨_,aN.of Bj⟩,fun c hc=>Vu Bj (S3 _ _ R.hd) hc (by omega) ?_⟩
    have Sc:=ar (o:= .lst ((p.2.map (isDone kvs)).map V.bl)) hc;refine⟨c,_,rfl,aj.of af,_,rfl,?_⟩;refine d4 (fun qu=>?_) (fun qu=>?_)
    ·refine⟨_,rfl,Sc _ _ h3,?_,cw_next aT ⟨_,rfl,af,fun b o hb=>by rw[ai (aq hb GU)];exact Sc _ _ (S3 b o hb),?_⟩⟩
     ·have h1:=F3.length
      have h2:(iL (isDone kvs) (rest.take i)).length<=(rest.take i).length:=iY _ _;have h3:=R.lim;rw[dh]at h2;rw[aI];omega
     ·have e1:iL (isDone kvs) (rest.take (i+1))=iL (isDone kvs) (rest.take i) ++ [p]:=by
       rw[tk];unfold iL;rw[iK,tD (by exact qu)];rfl
      rw[e1];refine b7.append (F3.keep fun b xs hb=>?_) ?_ ?_ (b:=b)
      ·rw[ai (b6 hb h3 (by intro z;cases z))];exact Sc _ _ hb
      ·rw[ai (b6 lE h3 (by intro z;cases z))];exact Sc _ _ lE
      ·rw[ai (b6 Bj h3 (by intro z;cases z))];exact Sc _ _ Bj
    ·refine cw_next aT ⟨_,rfl,Sc _ _ h3,S3.trans Sc,?_⟩
     have e1:iL (isDone kvs) (rest.take (i+1))=iL (isDone kvs) (rest.take i):=by
      rw[tk];unfold iL;rw[iK,vO (by exact qu)];simp
     rw[e1];exact F3.same Sc
   ·rintro rv τ H3 ⟨t0,rfl,h3,S3,F3⟩
    rw[yw,eF]at F3;have kJ:=F3.length;have iI:=S3 _ _ R.hd;have PK:=S3 _ _ R.hw;have gM:b7 H3 wv rest:=R.fv.same S3;have lr:rest ≠ []:=fun z=>by
     rw[z]at yw;have:wv = []:=B5 yw;rw[this]at bS;cases bS
    generalize u3:iL (isDone kvs) rest=ready at F3 kJ;refine⟨_,rfl,_,.inl ⟨_,aj.of h3,rfl⟩,?_⟩
    by_cases GV:ready = []
    ·have e:rv = []:=B5 (by rw[kJ,GV];rfl)
     rw[e];have no:∀p∈rest,¬ ∀x∈p.2,isDone kvs x=true:=fun p hp hx=>?no;exact⟨_,rfl,q d kvs H3 hd (R.same.trans S3) iI R.ky (L8 R ok no) fun al p hp=>(R.ln _ (C6 R ok no (al p hp))).1.same S3⟩;have:p∈iL (isDone kvs) rest:=KI.mpr ⟨hp,hx⟩;rw[u3,GV]at this;cases this
    obtain⟨p0,sU⟩:=List.exists_mem_of_ne_nil _ GV;have aaa:(!rv.isEmpty)=true:=by
     cases rv with
     |nil =>
      have:ready = []:=B5 kJ.symm;rw[this]at sU;cases sU
     |cons _ _=>rfl
    rw[aaa];refine⟨_,rfl,ra,rfl,⟨_,aj.of h3⟩,og (xs:=rv) (fun i σ H4=>∃ (eg:List (Key×V)) (v4 v5:Option V),σ = [some (.ref t),some (.ref d),some (.ref wa),some (.ref ra),v4,v5]/\H4 d=some (.dK eg)/\eg.length<=kvs.length+i /\
     (∀b u,b≠d->H3 b=some u->H4 b=some u)/\(∀x,isDone eg x=true->mr H4 eg (aP aa) x/\Ln aa x)/\(∀x,isDone kvs x=true->isDone eg x=true)/\(∀p∈ready.take i,isDone eg p.1=true)/\rH aa eg)
     ⟨kvs,v4,v5,rfl,iI,aK _,fun _ _ _ e=>e,fun x hx=>⟨(R.ln x hx).1.same S3,(R.ln x hx).2⟩,fun _ h=>h,fun p hp=>(by cases hp),R.ky⟩ (fun i σ H4 _ ⟨_,_,_,_,_,_,z,_⟩=>aj.of (z _ _ (aH ndr) h3)) ?_ ?_⟩
    ·rintro i x σ H4 hx ⟨eg,v4,v5,rfl,qA,pj,lC,vv,kz,Bm,GX⟩
     have aT:i < rv.length:=(cu.mp hx).1;obtain⟨p,hp,a,b,rfl,ha,hb⟩:=oq F3 hx;have tk:ready.take (i+1)=ready.take i ++ [p]:=by rw[dZ,hp];rfl
     have hpr:p∈iL (isDone kvs) rest:=by rw[u3];exact gP hp
     obtain⟨Bi,vo⟩:=KI.mp hpr;have hW:=R.sub p Bi;have GZ:∀x∈p.2,Ln aa x:=fun x hx=>(vv x (kz x (vo x hx))).2;have yx:=Ts ok (k:=p.1) (ps:=p.2) hW GZ;have aab:ak H H4:=fun b u e=>lC b u (Bh e) (S3 _ _ (R.same b u e));have yy:=lC _ _ (b6 ha iI (by intro z;cases z)) ha
     have G0:=lC _ _ (b6 hb iI (by intro z;cases z)) hb
     refine⟨a,_,rfl,aN.of yy,rfl,_,_,rfl,_,_,rfl,rfl,?_⟩;refine⟨_,rfl,_,rfl,_,rfl,Yt (L:=aP aa) qA G0 (fun x hx=>(vv x (kz x (vo x hx))).1) yx (ok.nm p hW) (fun hg a H5 ha0 S5 h5=>qn (fun al=>D6.no ok ⟨p.2,hW,GZ,hg⟩ (al p hW)) a H5 (aab.trans S5) h5) fun oo sC q5 H5 S5 h5=>?_⟩;obtain⟨G8,hL⟩:=MY ok (k:=p.1) (ps:=p.2) hW GZ sC;refine⟨_,rfl,_,rfl,d,_,rfl,rO.k (k:=Sum.inr p.1) (S5 _ _ qA) ?_,?_⟩
     ·have h1:=R.lim
      have h2:ready.length<=rest.length:=by rw[<-u3];exact iY _ _
      rw[aI];omega
     ·have nq:q5≠d:=b6 h5 (S5 _ _ qA) (by intro z;cases z)
      refine⟨_,_,_,rfl,af,?_,fun b u nb e=>?_,fun x hx=>?_,fun x hx=>?_,fun y hy=>?_,GX.put (R.sub p Bi)⟩
      ·have:=Ce eg (Sum.inr p.1) (V.ref q5);omega
      ·rw[ai nb];exact S5 _ _ (lC b u nb e)
      ·unfold mr
       rw[vZ]
       by_cases e:x=p.1
       ·subst e
        refine⟨⟨q5,by rw[au rfl],?_⟩,G8⟩
        rw[ai nq,hL];exact h5
       ·have e2 : ¬ ((Sum.inr x:Key)=Sum.inr p.1):=fun z=>e (vF z)
        have ff:isDone eg x=true:=by unfold isDone at hx ⊢;rw[vZ,ao e2]at hx;exact hx
        obtain⟨⟨a',ea,PL⟩,ya⟩:=vv x ff;refine⟨⟨a',by rw[ao e2];exact ea,?_⟩,ya⟩
        rw[ai (b6 PL qA (by intro z;cases z))];exact S5 _ _ PL
      ·unfold isDone;rw[vZ]
       split
       ·rfl
       ·exact kz x hx
      ·unfold isDone;rw[vZ]
       split
       ·rfl
       ·rename_i hn
        rw[tk]at hy;rcases dX.mp hy with z|z
        ·exact Bm _ z
        ·have:y=p:=by simpa using z
         exact absurd (by rw[this]) hn
    ·rintro σ H4 ⟨eg,v4,v5,rfl,qA,pj,lC,vv,kz,Bm,GX⟩
     rw[kJ,eF]at Bm;have hf4:b7 H4 wv rest:=gM.keep fun b xs e=>lC _ _ (b6 e iI (by intro z;cases z)) e
     have PM:=lC _ _ (b6 PK iI (by intro z;cases z)) PK
     have SH4:ak H H4:=fun b u e=>lC b u (Bh e) (S3 _ _ (R.same b u e));refine⟨_,rfl,wa,rfl,⟨_,aj.of PM⟩,fun wb G9=>?_⟩;have nwb:d≠wb:=aq qA G9;refine jC (xs:=wv) (fun i ys τ H5=>∃t0:Option V,τ = [t0,some (.ref d)]/\H5 wb=some (.lst ys)/\ak H4 H5/\b7 H5 ys ((rest.take i).filter fun p=>!isDone eg p.1)) ⟨none,rfl,af,ar G9,.nil⟩ (fun i ys τ H5 ⟨_,_,z1,z2,_⟩=>⟨z1,aj.of (z2 _ _ PM)⟩) ?_ ?_
     ·rintro i x ys τ H5 hx ⟨t0,rfl,h5,S5,F5⟩
      have aT:i < wv.length:=(cu.mp hx).1;obtain⟨p,hp,a,b,rfl,ha,hb⟩:=oq hf4 hx;have tk:rest.take (i+1)=rest.take i ++ [p]:=by rw[dZ,hp];rfl
      have G':=S5 _ _ ha;have sV:=S5 _ _ hb;refine⟨_,rfl,a,_,0,.str p.1,rfl,rfl,aN.of G',(show cg [V.str p.1,V.ref b] ((0:Nat):Int)=some (.str p.1) from dq rfl),?_⟩;refine⟨_,rfl,d,_,rfl,gI.k (k:=Sum.inr p.1) (S5 _ _ qA),_,rfl,?_⟩;refine d4 (fun bf=>?_) (fun bf=>?_)
      ·refine⟨_,rfl,h5,?_,cw_next aT ⟨_,rfl,af,fun b o hb=>by rw[ai (aq hb G9)];exact S5 b o hb,?_⟩⟩
       ·have h1:=F5.length
        have h2:=iY (fun p:Str×List Str=>!isDone eg p.1) (rest.take i);have h3:=R.lim;rw[dh]at h2;rw[aI];omega
       ·rw[tk,iK,tD (by exact bf)]
        refine b7.append (F5.keep fun b xs hb=>?_) ?_ ?_ (b:=b)
        ·rw[ai (b6 hb h5 (by intro z;cases z))];exact hb
        ·rw[ai (b6 G' h5 (by intro z;cases z))];exact G'
        ·rw[ai (b6 sV h5 (by intro z;cases z))];exact sV
      ·refine cw_next aT ⟨_,rfl,h5,S5,?_⟩
       rw[tk,iK,vO (by exact bf),B4,fh]
       exact F5
     ·rintro ys τ H5 ⟨t0,rfl,h5,S5,F5⟩
      rw[yw,eF]at F5;have less:=Uz (dn:=isDone kvs) (Bg:=isDone eg) (rest:=rest) (by rw[u3];exact Bm)
      rw[u3]at less;have hrp:0 < ready.length:=Rq sU;refine⟨_,by rw[R.mm];omega,eg,rest.filter fun p=>!isDone eg p.1,ys,wb,⟨_,_,_,rfl⟩,rfl,S5 _ _ qA,h5,F5,fun p hp=>R.sub p (gD.mp hp).1,fun p hp=>?_,fun x hx=>⟨(vv x hx).1.same S5,(vv x hx).2⟩,SH4.trans S5,?_,?_⟩
      ·cases e:isDone eg p.1 with
       |true=>exact .inl rfl
       |false =>
        refine .inr ?_;rcases R.all p hp with z|z
        ·rw[kz _ z]at e;cases e
        ·exact gD.mpr ⟨z,by rw[e];rfl⟩
      ·have h1:=R.lim
       omega
      ·exact GX
  ·have hn:rest = []:=by
    cases wv with
    |nil=>exact B5 yw.symm
    |cons _ _=>exact absurd rfl bS
   have no:∀p∈rest,¬ ∀x∈p.2,isDone kvs x=true:=fun p hp=>by rw[hn]at hp;cases hp
   exact⟨_,rfl,q d kvs H1 hd R.same R.hd R.ky (L8 R ok no) fun al p hp=>(R.ln _ (C6 R ok no (al p hp))).1⟩
structure km (mg:Str->Option Value):Prop where
 yz:mg "isinstance" = none
 str:mg "str" = none
 dict:mg "dict" = none
 sorted:mg "sorted" = none
theorem wm:bootBuiltins "isinstance" = some (.builtin "isinstance"):=by decide +kernel
theorem boot_str:bootBuiltins "str" = some (.type "str"):=by decide +kernel
theorem boot_dict:bootBuiltins "dict" = some (.type "dict"):=by decide +kernel
theorem boot_sorted:bootBuiltins "sorted" = some (.builtin "sorted"):=by decide +kernel
def fV (H:Hp) (kvs:List (Key×V)) (L:Str->List Str) (x:Str):Prop:= ∃a,cb kvs (Sum.inr x)=some (.ref a)/\H a=some (.lst ((L x).map V.str))
theorem fV.same (h:fV H kvs L x) (s:ak H H'):fV H' kvs L x:=let ⟨a,e,q⟩:=h;⟨a,e,s _ _ q⟩
theorem Wv (h:∀x∈ps,fV H kvs L x):∃g:Str->V,(∀x∈ps,cb kvs (Sum.inr x)=some (g x))/\ja (fun _=>True) H (ps.map g) (ps.map L):=by
 refine⟨fun x=>(cb kvs (Sum.inr x)).getD .ax,fun x hx=>?_,?_⟩
 ·obtain⟨a,e,_⟩:=h x hx;show _=some ((cb kvs (Sum.inr x)).getD V.ax);rw[e];rfl
 ·induction ps with
  |nil=>exact .nil
  |cons x ps ih =>
   obtain⟨a,e,q⟩:=h x aV;exact .cons ⟨a,by show(cb kvs (Sum.inr x)).getD V.ax=_;rw[e];rfl,trivial,q⟩ (ih fun y hy=>h y (bV _ hy))
theorem Yx (hl:H l=some (.lst ws)) (hR:ja (fun _=>True) H ws rows) (hS:Small rows) (fU:∀r∈rows,r.Nodup) (qn:bq (total rows) rows=none -> ∀H',ak H H'->Q .ax H')
  (qs:∀o,bq (total rows) rows=some o -> ∀p H',H p=none->ak H H'->H' p=some (.lst (o.map V.str))->Q (.ref p) H'):uF [.ref l] H Q E:=by unfold uF;exact⟨l,ws,rows,rfl,hl,hR,hS,fU,qn,qs⟩
@[irreducible] def uJ:Sp:=fun vs H Q _=>∃ (d oa:Addr) (kvs:List (Key×V)) (L:Str->List Str) (k:Str) (own:List Str),vs = [.ref d,.str k,.ref oa]/\H d=some (.dK kvs)/\H oa=some (.lst (own.map V.str))/\(∀x∈own,fV H kvs L x)/\Small (rowsOf L own)/\(∀r∈rowsOf L own,r.Nodup) /\
 (bq (total (rowsOf L own)) (rowsOf L own)=none -> ∀H',ak H H'->Q .ax H')/\(∀o,bq (total (rowsOf L own)) (rowsOf L own)=some o -> ∀p H',H p=none->ak H H'->H' p=some (.lst ((k::o).map V.str))->Q (.ref p) H')
theorem M1 {oa:Addr}{k:Str} (hd:H d=some (.dK kvs)) (ho:H oa=some (.lst (own.map V.str))) (hl:∀x∈own,fV H kvs L x) (hS:Small (rowsOf L own)) (fU:∀r∈rowsOf L own,r.Nodup)
  (qn:bq (total (rowsOf L own)) (rowsOf L own)=none -> ∀H',ak H H'->Q .ax H') (qs:∀o,bq (total (rowsOf L own)) (rowsOf L own)=some o -> ∀p H',H p=none->ak H H'->H' p=some (.lst ((k::o).map V.str))->Q (.ref p) H') :
  uJ [.ref d,.str k,.ref oa] H Q E:=by unfold uJ;exact⟨d,oa,kvs,L,k,own,rfl,hd,ho,hl,hS,fU,qn,qs⟩
abbrev PN:List Str:= ["_law_lines","_law_kind","_law_own","_law_found"]
theorem N9:b3 PN ["_law_lines","_law_kind","_law_own"] (aM wV):=⟨rfl,rfl,rfl,by decide +kernel,rfl,by decide +kernel,by decide +kernel⟩
abbrev eLL:Expr:=N5 (iz (fb (cL (cA wV) 0)))
theorem Oa:cj PN (aM wV) ["_law_one","_law_lines"] [none,some 0] (cW eLL):=⟨rfl,by decide +kernel,by decide +kernel,rfl,d9 (by decide +kernel),by decide +kernel⟩
theorem Yy {vt:FuncData} (F:aU K "_law_line" "_law_line" wV f fd) (B:fg mg) (FM:aU K "_law_merged" "_law_merged" mS fM vt) (bM:Binds K vt ["_law_rows"] []) (mM:mg "_law_merged" = some (.ref fM)) :
  aD P w K mg base aR 2 f fd ["_law_lines","_law_kind","_law_own"] uJ:=by
 have GM:aD P w K mg base aR 1 fM vt ["_law_rows"] uF:=Ys FM B;refine F.ok N9 (fun vs H Q E h=>?_) (fun cdv A outer s H vs Q E hr h=>?_)
 ·unfold uJ at h;obtain⟨d,oa,kvs,L,k,own,rfl,_⟩:=h;rfl
 ·unfold uJ at h
  obtain⟨d,oa,kvs,L,k,own,rfl,hd,ho,hl,hS,fU,qn,qs⟩:=h;have hu:=hr.units;have eX:=qO (qP (show 1<=64 by decide) _) hu
  refine⟨_,aB (aZ (i:=3) N9.nd rfl (Or.inl rfl) (aQ GM hr rfl mM FM.kp bM .nil a7 (ae (cG oA (eQ rfl Oa (fw (pv 2)) (fun s H fp=>⟨bg (i:=0) Oa.nd rfl (Or.inl rfl),iZ,om eX (pv 1) (pv 0) (fun _ _=>rfl)⟩)) (a9 (ae (f7 vQ rfl B.list boot_list (ae (pv 2) ah)) ah))) ah)))
   (aB (fj (b5 zL (pv 3) jF (cF _)) (aO (b9 jF)) fu)
   (aO (b9 (cG oA (a9 (ae (pv 1) ah)) (pv 3))))),?_⟩
  obtain⟨g,hg,hR⟩:=Wv hl;have cR:own.length<=20:=hS.short own (fq _ aV);refine⟨_,rfl,oa,rfl,⟨_,aj.of ho⟩,fun c hc=>Ux ho hd hg hc (by omega) ?_⟩
  have S1:=ar (o:= .lst (own.map g)) hc;refine⟨_,rfl,oa,_,rfl,.inl (aj.of (S1 _ _ ho)),fun c1 Bn=>?_⟩;have S2:=S1.trans (ar (o:= .lst (own.map V.str)) Bn);refine⟨by show 1<=sizeLine;rw[aI];decide,fun c2 gj=>?_⟩
  have S3:=S2.trans (ar (o:= .lst [V.ref c1]) gj);have k1:upd (upd H c (.lst (own.map g))) c1 (.lst (own.map V.str)) c=some (.lst (own.map g)):=by rw[ai (aq af Bn)];exact af
  refine⟨c,c2,_,_,rfl,rfl,by rw[ai (aq k1 gj)];exact k1,af,by rw[aE,aI];show _+1<=_;omega,fun c3 pq=>?_⟩
  have S4:=S3.trans (ar (o:= .lst (own.map g ++ [V.ref c1])) pq);have k4:upd (upd (upd (upd H c (.lst (own.map g))) c1 (.lst (own.map V.str))) c2 (.lst [V.ref c1])) c3 (.lst (own.map g ++ [V.ref c1])) c1=some (.lst (own.map V.str)):=by
   have k2:upd (upd (upd H c (.lst (own.map g))) c1 (.lst (own.map V.str))) c2 (.lst [V.ref c1]) c1=some (.lst (own.map V.str)):=by rw[ai (aq af gj)];exact af
   rw[ai (aq k2 pq)];exact k2
  refine Yx (rows:=rowsOf L own) af (ze (pL hR fun a xs _ e=>⟨trivial,S4 _ _ e⟩) trivial k4) hS fU (fun e H5 S5=>?_) (fun o e p H5 hp S5 h5=>?_)
  ·exact⟨_,rfl,rfl,_,rfl,qn e H5 (S4.trans S5)⟩
  ·refine⟨_,rfl,rfl,_,rfl,?_⟩
   refine⟨_,rfl,by show 1<=sizeLine;rw[aI];decide,fun c5 vw=>?_⟩
   have S6:=S5.trans (ar (o:= .lst [V.str k]) vw);have hz:=(CK e);have ht:=vS hS.short;have hfw:=hS.a6;refine⟨_,rfl,c5,p,_,_,rfl,rfl,af,by rw[ai (aq h5 vw)];exact h5,by rw[aE,aI];show 1+_<=_;omega,fun c6 qC=>?_⟩
   exact qs o e c6 _ (S4.free (S6.free qC)) (S4.trans (S6.trans (ar qC))) af
theorem JR {α:Type}:∀ (l:List α) (k:Nat) (h:k < l.length),(l[k]::l.eraseIdx k).Perm l
 |[],k,h=>absurd h (BX _)
 |x::l,0,_=>yY _
 |x::l,k+1,h=>(List.Perm.swap _ _ _).trans ((JR l k (ahT h)).cons x)
theorem KL {α β:Type} (f:α->β):∀ (l:List α) (k:Nat),(l.map f).eraseIdx k=(l.eraseIdx k).map f
 |[],_=>rfl
 |_::_,0=>rfl
 |x::l,k+1=>eY (f x :: ·) (KL f l k)
theorem boot_min:bootBuiltins "min" = some (.builtin "min"):=by decide +kernel
theorem Yz {d:Int} (h0:0<=d) (h1:d < 7):∃v:Int,cg [V.int 0,.int 1,.int 1,.int 2,.int 2,.int 3,.int 4] d=some (.int v)/\0<=v/\v<=4:=by
 obtain⟨n,rfl⟩:=qQ h0
 match n,(show n < 7 by omega) with
 |0,_=>exact⟨0,dq rfl,by decide,by decide⟩
 |1,_=>exact⟨1,dq rfl,by decide,by decide⟩
 |2,_=>exact⟨1,dq rfl,by decide,by decide⟩
 |3,_=>exact⟨2,dq rfl,by decide,by decide⟩
 |4,_=>exact⟨2,dq rfl,by decide,by decide⟩
 |5,_=>exact⟨3,dq rfl,by decide,by decide⟩
 |6,_=>exact⟨4,dq rfl,by decide,by decide⟩
theorem two_at {d a b m:Int} (h0:0<=d) (h1:d < 2) (ha:0<=a/\a < m) (hb:0<=b/\b < m):∃v:Int,cg [V.int a,.int b] d=some (.int v)/\0<=v/\v < m:=by
 obtain⟨n,rfl⟩:=qQ h0
 match n,(show n < 2 by omega) with
 |0,_=>exact⟨a,dq rfl,ha⟩
 |1,_=>exact⟨b,dq rfl,hb⟩
@[irreducible] def uw:Sp:=fun vs H Q _=>∃ (p n:Addr) (ys:List Str),vs = [.ref p,.ref n]/\f9 p H/\p≠n/\H n=some (.lst (ys.map V.str))/\ys.length<=20 /\
 ∀ (l:Addr) (own rest:List Str) (H':Hp),H l=none->(own++rest).Perm ys->own.length<=4->bZ p H H'->H' l=some (.lst (own.map V.str))->Q (.ref l) H'
theorem Xk {n:Addr}{ys:List Str} (hp:f9 p H) (yA:p≠n) (hn:H n=some (.lst (ys.map V.str))) (hl:ys.length<=20)
  (q:∀ (l:Addr) (own rest:List Str) (H':Hp),H l=none->(own++rest).Perm ys->own.length<=4->bZ p H H'->H' l=some (.lst (own.map V.str))->Q (.ref l) H'):uw [.ref p,.ref n] H Q E:=by
 unfold uw;exact⟨p,n,ys,rfl,hp,yA,hn,hl,q⟩
abbrev aac:List Str:= ["_law_pot_here","_law_made","_law_left","_law_own","_law_turn","_law_at"]
theorem xq:b3 aac ["_law_pot_here","_law_made"] (aM CG):=⟨rfl,rfl,rfl,by decide +kernel,rfl,by decide +kernel,by decide +kernel⟩
theorem Xl {sR:FuncData} (F:aU K "_law_parents" "_law_parents" CG f fd) (B:fg mg) (FD:aU K "_law_digit" "_law_digit" wU fD sR) (bD:Binds K sR ["_law_pot_here","_law_many"] []) (mD:mg "_law_digit" = some (.ref fD)) :
  aD P w K mg base aR 2 f fd ["_law_pot_here","_law_made"] uw:=by
 have GD:aD P w K mg base aR 1 fD sR ["_law_pot_here","_law_many"] mX:=C5 FD;refine F.ok xq (fun vs H Q E h=>?_) (fun cdv A outer s H vs Q E hr h=>?_)
 ·unfold uw at h;obtain⟨p,n,ys,rfl,_⟩:=h;rfl
 ·unfold uw at h
  obtain⟨p,n,ys,rfl,hp,yA,hn,hlen,q⟩:=h;have cJ:aS 1 _:=hr;refine⟨_,aB (aZ (i:=2) xq.nd rfl (Or.inl rfl) (f7 vQ rfl B.list boot_list (ae (pv 1) ah)))
   (aB (aZ (i:=3) xq.nd rfl (Or.inl rfl) (a9 ah))
   (aB (i8 j4 rfl (tN rfl B.range (ae (ck (JY rfl) rfl B.min boot_min (ae (ck kX rfl B.len jB (ae (pv 2) ah))
     (ae (bh cz (a9 (ae aG (ae aG (ae aG (ae aG (ae aG (ae aG (ae aG ah)))))))) (aQ GD cJ rfl mD FD.kp bD .nil a7 (ae (pv 0) (ae aG ah))) (fun _ _=>rfl)) ah))) ah)) (bg (i:=4) xq.nd rfl (Or.inl rfl))
    (aB (aZ (i:=5) xq.nd rfl (Or.inl rfl) (bh cz (a9 (ae (aQ GD cJ rfl mD FD.kp bD .nil a7 (ae (pv 0) (ae (ck kX rfl B.len jB (ae (pv 2) ah)) ah)))
      (ae (cG Mk (ck kX rfl B.len jB (ae (pv 2) ah)) aG) ah))) (aQ GD cJ rfl mD FD.kp bD .nil a7 (ae (pv 0) (ae aG ah))) (fun _ _=>rfl)))
    (aO (eP (j' mJ pJ pK kZ (pv 3)
     (ae (j' mJ PySem.F.slot_list_pop PySem.F.type_list_pop UN (pv 2) (ae (pv 5) ah)) ah))))))
   (aO (b9 (pv 3))))),?_⟩
  refine⟨_,rfl,n,_,rfl,.inl (aj.of hn),fun la nM=>?_⟩;refine⟨bX _,fun fa lG=>?_⟩;have Bo:p≠la:=hp.ne nM;have Ha:la≠fa:=aq af lG;have uG:H fa=none:=(ar nM).free lG;have vq:p≠fa:=hp.ne uG;have P0:bZ p H (upd (upd H la (.lst (ys.map V.str))) fa (.lst [])):=((bZ.refl hp).new nM).new lG;have rQ:(upd (upd H la (.lst (ys.map V.str))) fa (.lst [])) la=some (.lst (ys.map V.str)):=by rw[ai Ha];exact af
  have EK:(upd (upd H la (.lst (ys.map V.str))) fa (.lst [])) fa=some (.lst []):=af;generalize upd (upd H la (.lst (ys.map V.str))) fa (.lst [])=H0 at P0 rQ EK ⊢;refine⟨_,rfl,la,_,rfl,.inl (aj.of rQ),?_⟩;refine⟨by show 7<=sizeLine;rw[aI];decide,fun c hc=>?_⟩
  have Pc:=P0.new (o:= .lst [V.int 0,.int 1,.int 1,.int 2,.int 2,.int 3,.int 4]) hc;refine⟨_,rfl,i4 (p:=p) (m:=7) Pc.ok (by decide) (by decide) fun d H1 d0 d1 Bp=>?_⟩
  have npc:p≠c:=P0.ok.ne hc;obtain⟨v,hv,v0,v4⟩:=Yz d0 d1;refine⟨c,_,d,.int v,rfl,rfl,aj.of (Bp.kp _ _ af (aH npc)),hv,?_⟩;have P1:=Pc.trans Bp;have xH:H1 la=some (.lst (ys.map V.str)):=Bp.kp _ _ (by rw[ai (aq rQ hc)];exact rQ) (aH Bo)
  have xI:H1 fa=some (.lst []):=Bp.kp _ _ (by rw[ai (aq EK hc)];exact EK) (aH vq)
  refine⟨_,v,rfl,?_⟩;rw[aE];obtain⟨N,hN,hN4,hNl⟩:∃N:Nat,(if v < (ys.length:Int) then v else (ys.length:Int))=N/\N<=4/\N<=ys.length:=by
   split
   ·exact⟨v.toNat,by omega,by omega,by omega⟩
   ·exact⟨ys.length,rfl,by omega,aK _⟩
  rw[hN];refine⟨(N:Int),rfl,by omega,by omega,zj (fun i σ H1=>∃ (zs ls:List Str) (v4 v5:Option V),σ = [some (.ref p),some (.ref n),some (.ref la),some (.ref fa),v4,v5]/\zs.length=i/\(zs++ls).Perm ys/\bZ p H H1/\H1 la=some (.lst (ls.map V.str))/\H1 fa=some (.lst (zs.map V.str)))
   ⟨[],ys,none,none,rfl,rfl,yY _,P1,xH,xI⟩ ?_ ?_⟩
  ·rintro i σ H1 hi ⟨zs,ls,v4,v5,rfl,hz,hP,pa,xH,xI⟩
   have YA:=hP.length_eq;rw[cY]at YA;have vj:i < N:=by simpa using hi
   have NW:0 < ls.length:=by omega
   refine⟨_,rfl,_,rfl,la,_,rfl,.inl (aj.of xH),?_⟩;refine i4 (p:=p) pa.ok (by rw[aE];omega) (by rw[aE];omega) fun d H2 d0 d1 pb=>?_
   have EL:=pb.kp _ _ xH (aH Bo);have Ob:=pb.kp _ _ xI (aH vq);rw[aE]at d1;refine⟨_,rfl,la,_,rfl,.inl (aj.of EL),_,1,rfl,rfl,?_⟩;rw[aE];refine⟨by show 2<=sizeLine;rw[aI];decide,fun c2 gj=>?_⟩
   have PQ:=(pa.trans pb).new (o:= .lst [V.int d,.int ((ls.length:Int) - 1)]) gj;have aad:p≠c2:=pb.ok.ne gj;refine⟨_,rfl,i4 (p:=p) (m:=2) PQ.ok (by decide) (by decide) fun e H3 e0 e1 pe=>?_⟩
   obtain⟨v,hv,v0,v1⟩:=two_at (a:=d) (b:=(ls.length:Int) - 1) (m:=(ls.length:Int)) e0 e1 ⟨d0,d1⟩ ⟨by omega,by omega⟩
   have qd:H3 la=some (.lst (ls.map V.str)):=pe.kp _ _ (by rw[ai (aq EL gj)];exact EL) (aH Bo)
   have uH:H3 fa=some (.lst (zs.map V.str)):=pe.kp _ _ (by rw[ai (aq Ob gj)];exact Ob) (aH vq)
   have P3:=PQ.trans pe;refine⟨c2,_,e,.int v,rfl,rfl,aj.of (pe.kp _ _ af (aH aad)),hv,?_⟩;have hd:v.toNat < ls.length:=by omega
   refine⟨_,rfl,.inl ⟨rfl,_,aj.of uH⟩,_,rfl,.inl ⟨rfl,_,aj.of qd⟩,_,rfl,?_⟩;refine⟨la,_,v,v.toNat,.str ls[v.toNat],rfl,rfl,qd,by omega,by omega,ID v0 (by rw[aE];exact v1),by rw[f6,b4 hd];rfl,?_⟩
   have aae:(upd H3 la (.lst ((ls.map V.str).eraseIdx v.toNat))) fa=some (.lst (zs.map V.str)):=by rw[ai (aH Ha)];exact uH
   refine⟨fa,_,_,rfl,rfl,aae,by rw[aE,aI];omega,?_⟩
   refine⟨zs ++ [ls[v.toNat]],ls.eraseIdx v.toNat,_,_,rfl,by rw[cY];simp[hz],?_,(P3.write nM Bo).write uG vq,?_,?_⟩
   ·refine List.Perm.trans ?_ hP
    rw[List.append_assoc];exact List.Perm.append_left zs (JR ls _ hd)
   ·rw[ai Ha,af,KL]
   ·rw[af,bj];rfl
  ·rintro σ H1 ⟨zs,ls,v4,v5,rfl,hz,hP,pa,xH,xI⟩
   have A1:zs.length=N:=by simpa using hz
   exact⟨_,rfl,q fa zs ls H1 uG hP (by omega) pa xI⟩
end iR
namespace iR
open PySem L2 HT
def kept (rows:List (List Str)) (o:List Str):Bool:=rows.all fun r=>decide ((o.filter fun n=>decide (n∈r))=r)
theorem Ct {all:List (List Str)}{n:Str}:∀ {rest:List (List Str)},j9 all rest=some n->cw 0 all n=none /\ ∃ (i:Nat) (r:List Str),rest[i]? = some r/\r.head? = some n /\ ∀ (j:Nat) (q:List Str) (y:Str),rest[j]? = some q->q.head? = some y->cw 0 all y=none->i<=j
 |[],h=>by cases h
 |[]::rest,h=>by
  obtain⟨h1,i,r,e1,e2,e3⟩:=Ct (rest:=rest) h;refine⟨h1,i+1,r,by simpa using e1,e2,fun j q y hj hq hy=>?_⟩
  cases j with
  |zero =>
   obtain rfl : []=q:=by simpa using hj
   simp at hq
  |succ j=>have:=e3 j q y (by simpa using hj) hq hy;omega
 |(x::t)::rest,h=>by
  have h:(if (cw 0 all x).isNone then some x else j9 all rest)=some n:=h
  by_cases c:(cw 0 all x).isNone=true
  ·rw[au c]at h
   cases h
   exact⟨by simpa using c,0,_,rfl,rfl,fun _ _ _ _ _ _=>bX _⟩
  ·rw[ao c]at h
   obtain⟨h1,i,r,e1,e2,e3⟩:=Ct (rest:=rest) h;refine⟨h1,i+1,r,by simpa using e1,e2,fun j q y hj hq hy=>?_⟩
   cases j with
   |zero =>
    obtain rfl:x::t=q:=by simpa using hj
    obtain rfl:x=y:=by simpa using hq
    exact absurd (by rw[hy];rfl) c
   |succ j=>have:=e3 j q y (by simpa using hj) hq hy;omega
def Ww (rest:List (List Str)) (q:List Str):Prop:=q.Nodup /\ ∀x,x∈q ↔ ∃r∈rest,x∈r
theorem C7 {q:List Str}:kept rest q=true ↔ ∀r∈rest,(q.filter fun n=>decide (n∈r))=r:=by
 unfold kept;rw[iW];simp
theorem JA {n:Str}:(∃r∈L2.without n rest,x∈r) ↔ x≠n /\ ∃r∈rest,x∈r:=by
 constructor
 ·rintro⟨r,hr,hx⟩
  obtain⟨q,hq,rfl⟩:=bw.mp hr;have:=gD.mp hx;exact⟨by simpa using this.2,q,hq,this.1⟩
 ·rintro⟨h,q,hq,hx⟩
  exact⟨_,bw.mpr ⟨q,hq,rfl⟩,gD.mpr ⟨hx,by simpa using h⟩⟩
theorem Wx:(rest.any fun r=>!r.isEmpty)=true ↔ ∃r∈rest,∃x,x∈r:=by
 rw[tw]
 constructor
 ·rintro⟨r,hr,e⟩
  cases r with
  |nil=>simp at e
  |cons x t=>exact⟨_,hr,x,aV⟩
 ·rintro⟨r,hr,x,hx⟩
  refine⟨r,hr,?_⟩;cases r with
  |nil=>simp at hx
  |cons y t=>rfl
theorem sound:∀ (m:Nat) (rest:List (List Str)),total rest=m->(∀r∈rest,r.Nodup) -> ∀o,bq (total rest) rest=some o->Ww rest o/\kept rest o=true:=by
 intro m
 induction m using Nat.strongRecOn with
 |_ m ih =>
  intro rest hm fU o ho;cases hA:rest.any fun r=>!r.isEmpty with
  |false =>
   rw[Cp hA]at ho;cases ho
   have emp:∀r∈rest,∀x,x ∉ r:=fun r hr x hx=>by
    have:=Wx.mpr ⟨r,hr,x,hx⟩;rw[hA]at this;cases this
   refine⟨⟨qM,fun x=>⟨fun h=>by simp at h,fun⟨r,hr,hx⟩=>absurd hx (emp r hr x)⟩⟩,C7.mpr fun r hr=>?_⟩
   cases r with
   |nil=>rfl
   |cons y t=>exact absurd aV (emp _ hr y)
  |true =>
   cases e:d6 rest with
   |none=>rw[Cq hA e]at ho;cases ho
   |some n =>
    rw[Cr hA e]at ho;obtain⟨o',gK,rfl⟩:=iV.mp ho;have lt:=tG (tR e);obtain⟨⟨h1,h2⟩,h3⟩:=ih _ (by omega) (L2.without n rest) rfl (JO fU) o' gK
    rw[C7]at h3;have iE:n ∉ o':=fun z=>((JA.mp ((h2 n).mp z)).1 rfl);obtain⟨w8,_⟩:=Ct e;rw[zp]at w8;refine⟨⟨gE.mpr ⟨iE,h1⟩,fun x=>?_⟩,C7.mpr fun r hr=>?_⟩
    ·rw[aY,h2,JA]
     constructor
     ·rintro(rfl|h)
      ·exact tR e
      ·exact h.2
     ·intro h
      by_cases z:x=n
      ·exact .inl z
      ·exact .inr ⟨z,h⟩
    ·have u7:=h3 _ (bw.mpr ⟨r,hr,rfl⟩)
     have same:(o'.filter fun y=>decide (y∈r))=o'.filter fun y=>decide (y∈r.filter fun y=>!decide (y=n)):=by
      apply List.filter_congr
      intro y hy;have:y≠n:=fun z=>iE (z ▸ hy);simp[this]
     by_cases hn:n∈r
     ·have hh:=w8 r hr hn
      cases r with
      |nil=>simp at hn
      |cons z t =>
       obtain rfl:z=n:=by simpa using hh
       have ht:z ∉ t:=(gE.mp (fU _ hr)).1;have et:((z::t).filter fun y=>!decide (y=z))=t:=by
        rw[vO (by simp)]
        exact RN.mpr fun y hy=>by
         have:y≠z:=fun w=>ht (w ▸ hy)
         simpa using this
       rw[tD (by simp),same,u7,et]
     ·have er:(r.filter fun y=>!decide (y=n))=r:=RN.mpr fun y hy=>by
       have:y≠n:=fun w=>hn (w ▸ hy)
       simpa using this
      rw[vO (by simpa using hn),same,u7,er]
end iR
namespace iR
open PySem L2 PySem.W HT
theorem len_sub {a b:List Str} (nd:a.Nodup) (h:∀x∈a,x∈b):a.length<=b.length:=z4 nd h
structure Fm (done:List Str) (L Ps:Str->List Str):Prop where
 ps:∀x∈done,(Ps x).Nodup/\(Ps x).length<=4 /\ ∀y∈Ps x,y∈done
 ln:∀x∈done,∃o,bq (total (rowsOf L (Ps x))) (rowsOf L (Ps x))=some o/\L x=x::o
 ld:∀x∈done,(L x).Nodup /\ ∀y∈L x,y∈done
 od:∀i x,done[i]? = some x -> ∀y∈Ps x,y∈done.take i
theorem lL:r∈rowsOf L own ↔ (∃y∈own,r=L y)\/r=own:=by
 unfold rowsOf;rw[dX,bw,d5]
 constructor
 ·rintro(⟨y,h,rfl⟩|h)
  ·exact .inl ⟨y,h,rfl⟩
  ·exact .inr h
 ·rintro(⟨y,h,rfl⟩|h)
  ·exact .inl ⟨y,h,rfl⟩
  ·exact .inr h
theorem Fm.rE (F:Fm done L Ps) (nd:own.Nodup) (sub:∀y∈own,y∈done):∀r∈rowsOf L own,r.Nodup /\ ∀y∈r,y∈done:=fun r hr=>by
 rcases lL.mp hr with⟨y,hy,rfl⟩|rfl
 ·exact F.ld y (sub y hy)
 ·exact⟨nd,sub⟩
theorem Fm.small (F:Fm done L Ps) (hk:∀x∈done,Nm x) (h8:done.length<=8) (nd:own.Nodup) (h4:own.length<=4) (sub:∀y∈own,y∈done):Small (rowsOf L own):=by
 refine⟨?_,fun r hr=>?_,fun r hr y hy=>?_⟩
 ·unfold rowsOf;rw[cY,aE,gF];omega
 ·obtain⟨h1,h2⟩:=F.rE nd sub r hr
  have:=len_sub h1 h2;omega
 ·exact hk y ((F.rE nd sub r hr).2 y hy)
theorem Fm.order (F:Fm done L Ps) {o:List Str} (nd:own.Nodup) (sub:∀y∈own,y∈done) (hm:bq (total (rowsOf L own)) (rowsOf L own)=some o):o.Nodup/\(∀y∈o,y∈done) /\ ∀r∈rowsOf L own,∀y∈r,y∈o:=by
 obtain⟨⟨h1,h2⟩,_⟩:=sound _ _ rfl (fun r hr=>(F.rE nd sub r hr).1) o hm;refine⟨h1,fun y hy=>?_,fun r hr y hy=>(h2 y).mpr ⟨r,hr,hy⟩⟩;obtain⟨r,hr,h⟩:=(h2 y).mp hy;exact(F.rE nd sub r hr).2 y h
theorem Tt {L':Str->List Str} (h:∀y∈own,L' y=L y):rowsOf L' own=rowsOf L own:=by
 unfold rowsOf;rw[BY h]
theorem Fm.add (F:Fm done L Ps) {k:Str}{o:List Str} (hk:k ∉ done) (nd:own.Nodup) (h4:own.length<=4) (sub:∀y∈own,y∈done) (hm:bq (total (rowsOf L own)) (rowsOf L own)=some o) :
  Fm (done ++ [k]) (fun x=>if x=k then k::o else L x) (fun x=>if x=k then own else Ps x):=by
 have nk:∀ {y},y∈done->y≠k:=fun h z=>hk (z ▸ h);have ext:∀ {ps:List Str},(∀y∈ps,y∈done)->rowsOf (fun x=>if x=k then k::o else L x) ps=rowsOf L ps:=fun h=>Tt fun y hy=>ao (nk (h y hy));obtain⟨o1,o2,_⟩:=F.order nd sub hm;refine⟨fun x hx=>?_,fun x hx=>?_,fun x hx=>?_,fun i x hx y hy=>?od⟩
 case od =>
  rcases Nat.lt_or_ge i done.length with lt|ge
  ·rw[ahp lt]at hx
   rw[ao (nk (gP hx))]at hy;rw[List.take_append_of_le_length (vG lt)];exact F.od i x hx y hy
  ·rw[aho ge]at hx
   have e0:i - done.length=0:=by have:=(cu.mp hx).1;rw[gF]at this;omega
   rw[e0]at hx;cases hx;rw[au rfl]at hy;have ei:i=done.length:=by omega
   rw[ei,List.take_left];exact sub y hy
 ·by_cases e:x=k
  ·rw[au e];exact⟨nd,h4,fun y hy=>pC _ (sub y hy)⟩
  ·rw[ao e]
   obtain⟨a,b,c⟩:=F.ps x (by rcases dX.mp hx with z|z;exact z;exact absurd (by simpa using z) e)
   exact⟨a,b,fun y hy=>pC _ (c y hy)⟩
 ·by_cases e:x=k
  ·refine⟨o,?_,by rw[au e,e]⟩
   rw[au e,ext sub];exact hm
  ·have ff:x∈done:=by rcases dX.mp hx with z|z;exact z;exact absurd (by simpa using z) e
   obtain⟨o',h1,h2⟩:=F.ln x ff;refine⟨o',?_,by rw[ao e];exact h2⟩
   rw[ao e,ext (F.ps x ff).2.2];exact h1
 ·by_cases e:x=k
  ·rw[au e]
   refine⟨gE.mpr ⟨fun z=>hk (o2 k z),o1⟩,fun y hy=>?_⟩;rcases aY.mp hy with z|z
   ·rw[z];exact fq _ aV
   ·exact pC _ (o2 y z)
  ·rw[ao e]
   have ff:x∈done:=by rcases dX.mp hx with z|z;exact z;exact absurd (by simpa using z) e
   obtain⟨a,b⟩:=F.ld x ff;exact⟨a,fun y hy=>pC _ (b y hy)⟩
def gA (Ps:Str->List Str) (ks:List Str):List (Str×List Str):=ks.map fun x=>(x,Ps x)
theorem JS (Ps:Str->List Str) (ks:List Str):(gA Ps ks).map (·.1)=ks:=by
 unfold gA;rw[pI];exact RS _
theorem Vx (xs:List Str):du (xs.map V.str) none (some (-1))=xs.dropLast.map V.str:=by
 unfold du;have e1:HT.aX (xs.map V.str).length 0 none=0:=rfl;have e2:HT.aX (xs.map V.str).length (xs.map V.str).length (some (-1))=xs.length - 1:=by
  rw[aE];unfold HT.aX;simp;omega
 rw[e1,e2,Rw,Nat.sub_zero,<-Jh,List.dropLast_eq_take]
theorem zC {xs:List Str} (h:f9 p H) (e:H a=some (.lst (xs.map V.str))):a≠p:=by
 rintro rfl;obtain⟨x,y,e2,_⟩:=h;rw[e]at e2;have e3:xs.map V.str = [.int x,.int y]:=HO.lst.inj (fZ e2);cases xs with
 |nil=>cases e3
 |cons z t=>cases e3
theorem fV.PR (h:fV H kvs L x) (ok:f9 p H) (s:bZ p H H'):fV H' kvs L x:=let ⟨a,e,q⟩:=h;⟨a,e,s.kp _ _ q (zC ok q)⟩
theorem fV.write {oN:List (Key×V)}{u:HO} (h:fV H kvs L x) (hd:H d=some (.dK oN)) (e:H'=upd H d u):fV H' kvs L x:=let ⟨a,e1,q⟩:=h;⟨a,e1,by rw[e,ai (b6 q hd (by intro z;cases z))];exact q⟩
theorem L9 (ok:f9 p H) (s:bZ p H H') (e:H d=some (.dK kvs)):H' d=some (.dK kvs):=by
 obtain⟨x,y,ep,_⟩:=ok;exact s.kp _ _ e (b6 e ep (by intro z;cases z))
theorem C8 (h:f9 p H) (s:ak H H'):bZ p H H':=by
 obtain⟨x,y,e,r⟩:=h;exact⟨⟨x,y,s _ _ e,r⟩,fun b o e _=>s b o e⟩
theorem Ma {k:Str}{l:List Str} (hd:H d=some (.dK kvs)) (hl:H a=some (.lst (l.map V.str))) (h:x≠k->fV H kvs L x) :
  fV (upd H d (.dK (putK kvs (Sum.inr k) (.ref a)))) (putK kvs (Sum.inr k) (.ref a)) (fun x=>if x=k then l else L x) x:=by
 unfold fV;rw[vZ]
 by_cases e:x=k
 ·subst e
  refine⟨a,by rw[au rfl],?_⟩
  rw[ai (b6 hl hd (by intro z;cases z))];show H a=some (.lst ((if x=x then l else L x).map V.str));rw[au rfl];exact hl
 ·obtain⟨b,e1,e2⟩:=h e
  refine⟨b,by rw[ao (fun z=>e (vF z))];exact e1,?_⟩
  rw[ai (b6 e2 hd (by intro z;cases z))];show H b=some (.lst ((if x=k then l else L x).map V.str));rw[ao e];exact e2
theorem Lh {k:Str} (h:kvs.map (·.1)=done.map Sum.inr) (hk:k ∉ done):(putK kvs (Sum.inr k) v).map (·.1)=(done ++ [k]).map Sum.inr:=by
 have hv:cb kvs (Sum.inr k)=none:=by
  have:(cb kvs (Sum.inr k)).isSome=false:=by
   rw[<-tW,Q8];intro kv hU hd;have e:kv.1=Sum.inr k:=pH hd;have:kv.1∈kvs.map (·.1):=bw.mpr ⟨kv,hU,rfl⟩;rw[h,e]at this;obtain⟨y,hy,ey⟩:=bw.mp this;exact hk (vF ey ▸ hy)
  cases e:cb kvs (Sum.inr k) with
  |none=>rfl
  |some _=>rw[e]at this;cases this
 rw[UW _ hv,bj,bj,h];rfl
theorem b7.Xm (h:b7 H vs aa):∃kvs,lT H vs kvs/\kvs.map (·.1)=aa.map (·.1) /\ ∀q∈kvs,∃z,q.2=V.ref z:=by
 induction h with
 |nil=>exact⟨[],.nil,rfl,by simp⟩
 |cons p _ ih =>
  obtain⟨a,b,e,q,r⟩:=p;obtain⟨kvs,h1,h2,h3⟩:=ih;refine⟨(_,.ref b)::kvs,.cons ⟨a,e,q⟩ h1,by rw[cf,cf,h2],fun z hz=>?_⟩
  rcases aY.mp hz with rfl|hz
  ·exact⟨b,rfl⟩
  ·exact h3 z hz
theorem JT {H:Hp}:∀ {vs:List V}{aa:List (Str×List Str)}{kvs:List (Str×V)},b7 H vs aa->lT H vs kvs->kvs.map (·.1)=aa.map (·.1)
 |_,_,_,.nil,.nil=>rfl
 |_,_,_,.cons ⟨a,b,e,q,r⟩ t,.cons ⟨a',e',q'⟩ t'=>by
  have ea:a=a':=by rw[e]at e';cases e';rfl
  subst ea;rw[q]at q';rw[cf,cf,JT t t'];injection (fZ q') with z;injection z with z1 z2;injection z1 with z3;rw[z3]
structure MB (p:Addr) (H:Hp) (ks:List Str) (r t d1 d2:Addr) (ws:List V) (gJ:List (Key×V)) (L Ps:Str->List Str) (aa:List (Str×List Str)) (H':Hp):Prop where
 hr:H' r=some (.tup [.ref t,.ref d1,.ref d2])
 ht:H' t=some (.tup ws)
 fv:b7 H' ws aa
 pm:aa.Perm (gA Ps ks)
 fm:Fm ks L Ps
 hd:H' d2=some (.dK gJ)
 hk:gJ.map (·.1)=ks.map Sum.inr
 pl:∀x∈ks,fV H' gJ Ps x
 pa:bZ p H H'
 n2:H d2=none
 so:(aa.map (·.1)).Pairwise fun a b=>iQ a b=true
@[irreducible] def ux:Sp:=fun vs H Q _=>∃ (p n:Addr) (ks:List Str),vs = [.ref p,.ref n]/\f9 p H/\H n=some (.lst (ks.map V.str))/\ks.Nodup/\(∀x∈ks,Nm x)/\ks.length<=8 /\
 ∀r t d1 d2 ws gJ L Ps aa H',MB p H ks r t d1 d2 ws gJ L Ps aa H'->Q (.ref r) H'
theorem Xn {n:Addr} (hp:f9 p H) (hn:H n=some (.lst (ks.map V.str))) (nd:ks.Nodup) (nm:∀x∈ks,Nm x) (h8:ks.length<=8)
  (q:∀r t d1 d2 ws gJ L Ps aa H',MB p H ks r t d1 d2 ws gJ L Ps aa H'->Q (.ref r) H'):ux [.ref p,.ref n] H Q E:=by unfold ux;exact⟨p,n,ks,rfl,hp,hn,nd,nm,h8,q⟩
abbrev Oc:List Str:= ["_law_pot_here","_law_kinds","_law_lines","_law_parents_here","_law_kind","_law_own","_law_turn","_law_family_here"]
theorem p9:b3 Oc ["_law_pot_here","_law_kinds"] (aM wj):=⟨rfl,rfl,rfl,by decide +kernel,rfl,by decide +kernel,by decide +kernel⟩
abbrev aaf:Expr:=iz (iz (fb (cL (cA wj) 2)))
theorem M3:cj Oc (aM wj) ["_law_kind","_law_parents_here"] [none,some 3] (cW aaf):=⟨rfl,by decide +kernel,by decide +kernel,rfl,d9 (by decide +kernel),by decide +kernel⟩
theorem Xo {fP:Addr}{dP:FuncData} (F:aU K "_law_family" "_law_family" wj f fd) (B:fg mg) (B2:km mg)
  (GP:aD P w K mg base aR 2 fP dP ["_law_pot_here","_law_made"] uw) (kP:keepIn K (.ref fP)=true) (bP:Binds K dP ["_law_pot_here","_law_made"] []) (mP:mg "_law_parents" = some (.ref fP))
  (GL:aD P w K mg base aR 2 fL dL ["_law_lines","_law_kind","_law_own"] uJ) (kL:keepIn K (.ref fL)=true) (bL:Binds K dL ["_law_lines","_law_kind","_law_own"] []) (mL:mg "_law_line" = some (.ref fL)) :
  aD P w K mg base aR 3 f fd ["_law_pot_here","_law_kinds"] ux:=by
 refine F.ok p9 (fun vs H Q E h=>?_) (fun cdv A outer s H vs Q E hr h=>?_)
 ·unfold ux at h;obtain⟨p,n,ks,rfl,_⟩:=h;rfl
 ·unfold ux at h
  obtain⟨p,n,ks,rfl,hp,hn,knd,vx,k8,q⟩:=h;have hu:=hr.units;have eX:=qO (qP (show 1<=64 by decide) _) hu
  refine⟨_,aB (zK (d7 (ae wc (ae wc ah))) (wG rfl (j5 (bg (i:=2) p9.nd rfl (Or.inl rfl)) (j5 (bg (i:=3) p9.nd rfl (Or.inr rfl)) tZ))))
   (aB (i8 j4 rfl (fw (pv 1)) (bg (i:=4) p9.nd rfl (Or.inl rfl))
    (aB (aZ (i:=5) p9.nd rfl (Or.inl rfl) (aQ GP hr rfl mP kP bP .nil a7 (ae (pv 0) (ae (f7 (Tc rfl) rfl B.list boot_list (ae (pv 2) ah)) ah))))
    (aB (i8 j4 rfl (tN rfl B.range (ae aG ah)) (bg (i:=6) p9.nd rfl (Or.inl rfl))
     (aO (fj (b5 zL (aQ GL hr rfl mL kL bL .nil a7 (ae (pv 2) (ae (pv 4) (ae (pv 5) ah)))) jF (cF _))
      (aO (aZ (i:=5) p9.nd rfl (Or.inl rfl) (lM rg (pv 5) lO (k7 (xg wJ aG))))) fu)))
    (aB (Dl eX (pv 2) (pv 4) (aQ GL hr rfl mL kL bL .nil a7 (ae (pv 2) (ae (pv 4) (ae (pv 5) ah)))) rfl)
    (aO (Dl eX (pv 3) (pv 4) (pv 5) rfl))))))
   (aB (aZ (i:=7) p9.nd rfl (Or.inl rfl) (f7 lK rfl B.tuple boot_tuple (ae (ck R4 rfl B2.sorted boot_sorted (ae (eQ rfl M3 (fw (pv 1)) (fun s H fp=>⟨bg (i:=0) M3.nd rfl (Or.inl rfl),iZ,
     d7 (ae (pv 0) (ae (f7 (Js K rfl) rfl B.tuple boot_tuple (ae (om eX (pv 1) (pv 0) (fun _ _=>rfl)) ah)) ah))⟩)) ah)) ah)))
   (aO (b9 (d7 (ae (pv 7) (ae (pv 2) (ae (pv 3) ah)))))))),?_⟩
  intro d1 jS d2 hd2;have S2:ak H (upd (upd H d1 (.dK [])) d2 (.dK [])):=(ar jS).trans (ar hd2);have Hb:d1≠d2:=aq af hd2;have EM:H d2=none:=(ar jS).free hd2;refine⟨by show 2<=sizeLine;rw[aI];decide,fun tp Hc=>?_⟩
  have k2:(upd (upd H d1 (.dK [])) d2 (.dK [])) d1=some (.dK []):=by rw[ai Hb];exact af
  have S3:=S2.trans (ar (o:= .tup [V.ref d1,.ref d2]) Hc);have Od:upd (upd (upd H d1 (.dK [])) d2 (.dK [])) tp (.tup [V.ref d1,.ref d2]) d1=some (.dK []):=by rw[ai (aq k2 Hc)];exact k2
  have Oe:upd (upd (upd H d1 (.dK [])) d2 (.dK [])) tp (.tup [V.ref d1,.ref d2]) d2=some (.dK []):=by rw[ai (aq af Hc)];exact af
  refine⟨tp,_,rfl,aN.of af,rfl,_,_,rfl,_,_,rfl,rfl,?_⟩;generalize upd (upd (upd H d1 (.dK [])) d2 (.dK [])) tp (.tup [V.ref d1,.ref d2])=H0 at S3 Od Oe ⊢;have P0:bZ p H H0:=C8 hp S3;have np1:p≠d1:=hp.ne jS;have np2:p≠d2:=hp.ne EM;have Hd:n≠p:=zC hp hn;refine⟨_,rfl,n,rfl,⟨_,aj.of (P0.kp _ _ hn Hd)⟩,og (xs:=ks.map V.str) (fun i σ H1=>∃ (jd gJ:List (Key×V)) (L Ps:Str->List Str) (v4 v5 v6:Option V),σ = [some (.ref p),some (.ref n),some (.ref d1),some (.ref d2),v4,v5,v6,none]/\bZ p H H1 /\
   H1 d1=some (.dK jd)/\H1 d2=some (.dK gJ)/\jd.map (·.1)=(ks.take i).map Sum.inr/\gJ.map (·.1)=(ks.take i).map Sum.inr/\(∀x∈ks.take i,fV H1 jd L x)/\(∀x∈ks.take i,fV H1 gJ Ps x)/\Fm (ks.take i) L Ps)
   ⟨[],[],fun _=>[],fun _=>[],none,none,none,rfl,P0,Od,Oe,rfl,rfl,fun x hx=>(by cases hx),fun x hx=>(by cases hx),⟨fun x hx=>(by cases hx),fun x hx=>(by cases hx),fun x hx=>(by cases hx),fun i x hx=>(by cases hx)⟩⟩ (fun i σ H1 _ ⟨_,_,_,_,_,_,_,_,z,_⟩=>aj.of (z.kp _ _ hn Hd)) ?_ ?_⟩
  ·rintro i x σ H1 hx ⟨jd,gJ,L,Ps,v4,v5,v6,rfl,P1,qy,ye,e1,e2,l1,l2,fm⟩
   have gk:i < ks.length:=by simpa using (cu.mp hx).1
   obtain rfl:V.str ks[i]=x:=by simpa [gk] using hx
   have qD:ks.take (i+1)=ks.take i ++ [ks[i]]:=by rw[dZ,b4 gk];rfl
   have EN:ks[i] ∉ ks.take i:=by
    have:(ks.take (i+1)).Nodup:=knd.sublist (IA _ _);rw[qD]at this;exact fun z=>(mI.mp this).2.2 _ z _ aV rfl
   have dnd:(ks.take i).Nodup:=knd.sublist (IA _ _);have PU:∀x∈ks.take i,Nm x:=fun x hx=>vx x (y4 hx);have d8:(ks.take i).length<=8:=by rw[dh];omega
   have lk1:jd.length=(ks.take i).length:=by have:=eY List.length e1;simpa using this
   have lk2:gJ.length=(ks.take i).length:=by have:=eY List.length e2;simpa using this
   refine⟨_,rfl,_,rfl,d1,jd,rfl,qy,fun l hl=>?_⟩;have ek:jd.map (fun kv=>kV kv.1)=(ks.take i).map V.str:=by
    have:jd.map (fun kv=>kV kv.1)=(jd.map (·.1)).map kV:=by rw[pI];rfl
    rw[this,e1,pI];rfl
   rw[ek];have Pl:=P1.new (o:= .lst ((ks.take i).map V.str)) hl;have Sl:=ar (o:= .lst ((ks.take i).map V.str)) hl;refine Xk Pl.ok (P1.ok.ne hl) af (by omega) fun oa own rest H3 o7 gy jR pb h3=>?_
   have P3:=Pl.trans pb;have jV:own.Nodup:=(mI.mp (gy.nodup_iff.mpr dnd)).1;have jL:∀y∈own,y∈ks.take i:=fun y hy=>gy.mem_iff.mp (pC _ hy);have He:=L9 Pl.ok pb (Sl _ _ qy);have h32:=L9 Pl.ok pb (Sl _ _ ye);have Hf:∀x∈ks.take i,fV H3 jd L x:=fun x hx=>((l1 x hx).same Sl).PR Pl.ok pb;have l32:∀x∈ks.take i,fV H3 gJ Ps x:=fun x hx=>((l2 x hx).same Sl).PR Pl.ok pb;refine⟨5,rfl,by decide,by decide,zj (fun j σ H4=>∃ (oa:Addr) (own:List Str) (v6:Option V),σ = [some (.ref p),some (.ref n),some (.ref d1),some (.ref d2),some (.str ks[i]),some (.ref oa),v6,none]/\ak H3 H4/\H4 oa=some (.lst (own.map V.str))/\own.Nodup/\(∀y∈own,y∈ks.take i)/\own.length<=4/\(bq (total (rowsOf L own)) (rowsOf L own)≠none\/own.length+j<=4))
    ⟨oa,own,_,rfl,ak.refl _,h3,jV,jL,jR,.inr jR⟩ ?_ ?_⟩
   ·clear gy jR jV jL h3 o7
    rintro j σ H4 hj ⟨oa,own,v6,rfl,S4,h4,jV,jL,jR,Hg⟩;have yx:=fm.small PU d8 jV jR jL;have Hh:=fun r hr=>(fm.rE jV jL r hr).1;refine⟨_,rfl,_,rfl,_,rfl,M1 (S4 _ _ He) h4 (fun x hx=>(Hf x (jL x hx)).same S4) yx Hh (fun e H5 S5=>?_) (fun o e lp H5 hlp S5 h5=>?_)⟩
    ·refine⟨rfl,_,rfl,?_⟩
     refine⟨_,rfl,?_⟩;have bS:own ≠ []:=fun z=>by rw[z]at e;cases e
     have NW:0 < own.length:=ah1.mpr bS;refine⟨1,rfl,_,rfl,oa,_,rfl,aj.of (S5 _ _ h4),fun c hc=>?_⟩;refine⟨c,own.dropLast,_,rfl,(S4.trans S5).trans (ar hc),?_,jV.sublist (List.dropLast_sublist _),fun y hy=>jL y (List.dropLast_subset _ hy),by rw[ah4];omega,.inr ?_⟩
     ·have:=Vx own
      rw[af];exact eY some (eY HO.lst this)
     ·rcases Hg with z|z
      ·exact absurd e z
      ·rw[ah4];omega
    ·refine⟨rfl,_,rfl,?_⟩
     exact⟨oa,own,_,rfl,S4.trans S5,S5 _ _ h4,jV,jL,jR,.inl (by rw[e];exact Option.some_ne_none _)⟩
   ·clear gy jR jV jL h3 o7
    rintro σ H4 ⟨oa,own,v6,rfl,S4,h4,jV,jL,jR,Hg⟩;have yx:=fm.small PU d8 jV jR jL;have Hh:=fun r hr=>(fm.rE jV jL r hr).1;have hn0:bq (total (rowsOf L own)) (rowsOf L own)≠none:=by
     rcases Hg with z|z
     ·exact z
     ·exact absurd z (by show ¬ (own.length+Int.toNat 5<=4);have:Int.toNat 5=5:=rfl;omega)
    refine⟨_,rfl,_,rfl,_,rfl,M1 (S4 _ _ He) h4 (fun x hx=>(Hf x (jL x hx)).same S4) yx Hh (fun e=>absurd e hn0) (fun o e lp H5 hlp S5 h5=>?_)⟩;have yB:=S4.trans S5;have Bq:=yB _ _ He;have h52:=yB _ _ h32;refine⟨_,rfl,_,rfl,d1,_,rfl,rO.k (k:=Sum.inr ks[i]) Bq (by rw[aI];omega),?_⟩
    have Hi:upd H5 d1 (.dK (putK jd (Sum.inr ks[i]) (.ref lp))) d2=some (.dK gJ):=by rw[ai (aH Hb)];exact h52
    refine⟨_,rfl,_,rfl,_,rfl,d2,_,rfl,rO.k (k:=Sum.inr ks[i]) Hi (by rw[aI];omega),?_⟩
    have P5:bZ p H H5:=P3.trans (C8 P3.ok yB);have l61:∀x∈ks.take (i+1),fV (upd H5 d1 (.dK (putK jd (Sum.inr ks[i]) (.ref lp)))) (putK jd (Sum.inr ks[i]) (.ref lp)) (fun x=>if x=ks[i] then ks[i]::o else L x) x:=fun x hx=>Ma Bq h5 fun ne=>(Hf x (by
     rw[qD]at hx;rcases dX.mp hx with z|z
     ·exact z
     ·exact absurd (by simpa using z) ne)).same yB
    have h6o:upd H5 d1 (.dK (putK jd (Sum.inr ks[i]) (.ref lp))) oa=some (.lst (own.map V.str)):=by rw[ai (b6 (S5 _ _ h4) Bq (by intro z;cases z))];exact S5 _ _ h4
    refine⟨_,_,_,_,_,_,_,rfl,(P5.write jS np1).write EM np2,by rw[ai Hb];exact af,af,by rw[qD];exact Lh e1 EN,by rw[qD];exact Lh e2 EN,fun x hx=>(l61 x hx).write Hi rfl,fun x hx=>?_,by rw[qD];exact fm.add EN jV jR jL e⟩
    refine Ma Hi h6o fun ne=>?_;exact((l32 x (by
     rw[qD]at hx;rcases dX.mp hx with z|z
     ·exact z
     ·exact absurd (by simpa using z) ne)).same yB).write Bq rfl
  ·rintro σ H1 ⟨jd,gJ,L,Ps,v4,v5,v6,rfl,P1,qy,ye,e1,e2,l1,l2,fm⟩
   rw[aE,eF]at e2 l2 fm;have PV:=P1.kp _ _ hn Hd;refine⟨_,rfl,n,rfl,⟨_,aj.of PV⟩,fun c hc=>?_⟩;refine jC (xs:=ks.map V.str) (fun i ys τ H2=>∃t0:Option V,τ = [t0,some (.ref d2)]/\H2 c=some (.lst ys)/\ak H1 H2/\b7 H2 ys (gA Ps (ks.take i))) ⟨none,rfl,af,ar hc,.nil⟩ (fun i ys τ H2 ⟨_,_,z1,z2,_⟩=>⟨z1,aj.of (z2 _ _ PV)⟩) ?_ ?_
   ·rintro i x ys τ H2 hx ⟨t0,rfl,h2,yC,F2⟩
    have cC:i < (ks.map V.str).length:=(cu.mp hx).1;have gk:i < ks.length:=by simpa using cC
    obtain rfl:V.str ks[i]=x:=by simpa [gk] using hx
    have qD:ks.take (i+1)=ks.take i ++ [ks[i]]:=by rw[dZ,b4 gk];rfl
    obtain⟨a,ea,ha⟩:=(l2 ks[i] (iX gk)).same yC;refine⟨_,rfl,_,rfl,_,rfl,d2,.ref a,rfl,by rw[<-ea];exact gI.k (k:=Sum.inr ks[i]) (yC _ _ ye),?_⟩
    refine⟨a,_,rfl,.inl ⟨aj.of ha,fun b hb=>?_⟩⟩;have Sb:=ar (o:= .tup ((Ps ks[i]).map V.str)) hb;refine⟨by show 2<=sizeLine;rw[aI];decide,fun t ht=>?_⟩
    have St:=Sb.trans (ar (o:= .tup [V.str ks[i],.ref b]) ht);have PX:upd (upd H2 b (.tup ((Ps ks[i]).map V.str))) t (.tup [V.str ks[i],.ref b]) b=some (.tup ((Ps ks[i]).map V.str)):=by rw[ai (aq af ht)];exact af
    have Hj:=St _ _ h2;refine⟨Hj,?_,cw_next cC ⟨_,rfl,af,fun x u hx=>by rw[ai (aq hx hc)];exact St _ _ (yC x u hx),?_⟩⟩
    ·have:=F2.length
     unfold gA at this;rw[aE,dh]at this;rw[aI];omega
    ·have ef:gA Ps (ks.take (i+1))=gA Ps (ks.take i) ++ [(ks[i],Ps ks[i])]:=by rw[qD];unfold gA;rw[bj];rfl
     rw[ef];refine b7.append (F2.keep fun x xs hx=>?_) ?_ ?_ (b:=b)
     ·rw[ai (b6 hx h2 (by intro z;cases z))];exact St _ _ hx
     ·rw[ai (b6 af Hj (by intro z;cases z))];exact af
     ·rw[ai (b6 PX Hj (by intro z;cases z))];exact PX
   ·rintro ys τ H2 ⟨t0,rfl,h2,yC,F2⟩
    rw[aE,eF]at F2;obtain⟨kvs,pv,ekv,prf⟩:=F2.Xm;have vp:=F2.length;have hlk:(gA Ps ks).length=ks.length:=by unfold gA;exact aE ..
    refine⟨c,ys,kvs,rfl,aj.of h2,pv,prf,by rw[ekv,JS];exact knd,by omega,fun D eW eg hD gy hpv sO vy=>?_⟩
    have SD:=ar (o:= .lst eW) hD;refine⟨D,eW,rfl,.inl ⟨aj.of af,fun t ht=>?_⟩⟩;have St:=SD.trans (ar (o:= .tup eW) ht);obtain⟨iA,hW,F3⟩:=Jy gy F2;rw[JT F3 hpv]at vy;refine⟨_,rfl,_,rfl,_,rfl,by show 3<=sizeLine;rw[aI];decide,fun r hr=>?_⟩
    have Sr:=St.trans (ar (o:= .tup [V.ref t,.ref d1,.ref d2]) hr);have EO:=yC.trans Sr;refine q r t d1 d2 eW gJ L Ps iA _ ⟨af,by rw[ai (aq af hr)];exact af,b7.same F3 Sr,hW,fm,EO _ _ ye,e2,fun x hx=>(l2 x hx).same EO,P1.trans (C8 P1.ok EO),EM,vy⟩
theorem Vy (K:Frag) (h:X.K=K) {k:Nat}{t:nG} (hc:X.calm=true) (hh:uW X es t)
  (hn:(assignEach es X.env).length=n:=by rfl) (xP:(assignEach es X.env).findIdx? (·.1)=none:=by rfl):PG X (.Tuple es k pos) (Nk K n t):=by subst h;exact wG hc hh hn xP
def keysOf (aa:aF):List Str:=aa.map (·.1)
def FA (H:Hp) (t:Addr) (aa:aF):Prop:=cp aa /\ ∃ws,H t=some (.tup ws)/\b7 H ws aa
theorem FA.same {aa:aF} (h:FA H t aa) (s:ak H H'):FA H' t aa:=let ⟨a,ws,b,c⟩:=h;⟨a,ws,s _ _ b,c.same s⟩
theorem cp.lH {aa:aF} (s:cp aa) (h:x∈keysOf aa):Nm x:=by obtain⟨p,hp,rfl⟩:=bw.mp h;exact s.nm p hp
theorem Wy:Passes (a8 X.prog X.w) X fun _ _ _=>False:=fun pins σ H s e s' I z=>by
 obtain⟨_,_,_,_,_,_,_,_,_,_,_,_,_,_,_,f⟩:=z;exact f.elim
theorem ite_ff {A B:Prop}{k:Bool} (hk:k=false) (h:B):if k=true then A else B:=by subst hk;exact h
theorem ite_tt {A B:Prop}{k:Bool} (hk:k=true) (h:A):if k=true then A else B:=by subst hk;exact h
def eI (x:Str):Bool:=decide (1<=x.length) && (decide (x.length<=8) && x.cps.toList.all fun c=>decide (97<=c) && decide (c<=122))
def de:PyData->Bool|.str x=>eI x|_=>false
theorem Xp:b3 ["thing"] ["thing"] (aM wC):=⟨rfl,rfl,rfl,by decide +kernel,rfl,by decide +kernel,by decide +kernel⟩
abbrev aag:Expr:=iz (nu (cL (cA wC) 1))
theorem M4:cj ["thing"] (aM wC) ["sign"] [none] (cW aag):=⟨rfl,by decide +kernel,by decide +kernel,rfl,d9 (by decide +kernel),by decide +kernel⟩
@[irreducible] def lg:Sp:=fun vs H Q _=>∃ (p:Addr) (v:V) (d:PyData),vs = [v]/\Dt p H v d/\(∀x,d = .str x->x.length<=100000) /\ ∀H',ak H H'->Q (.bl (de d)) H'
theorem zD {d:PyData} (r:Dt p H v d) (hl:∀x,d = .str x->x.length<=100000) (q:∀H',ak H H'->Q (.bl (de d)) H'):lg [v] H Q E:=by unfold lg;exact⟨p,v,d,rfl,r,hl,q⟩
theorem Xq (c:Nat):(!decide ((⟨#[c]⟩:Str).cps.toList < (Str.ofString "a").cps.toList))=decide (97<=c):=by
 have hA:(Str.ofString "a").cps.toList = [97]:=by decide +kernel
 rw[hA,<-decide_not];refine B6.mpr ?_;simp[ah5]
theorem Xr (c:Nat):(!decide ((Str.ofString "z").cps.toList < (⟨#[c]⟩:Str).cps.toList))=decide (c<=122):=by
 have hA:(Str.ofString "z").cps.toList = [122]:=by decide +kernel
 rw[hA,<-decide_not];refine B6.mpr ?_;simp[ah5]
theorem Mb {d:PyData} (h:mn "str" d=false):de d=false:=by cases d <;> first|rfl|cases h
theorem Vz (F:aU K "is_name" "is_name" wC f fd) (B:fg mg) (B2:km mg):aD P w K mg base aR 1 f fd ["thing"] lg:=by
 refine F.ok Xp (fun vs H Q E h=>?_) (fun cdv A outer s H vs Q E hr h=>?_)
 ·unfold lg at h;obtain⟨p,v,d,rfl,_⟩:=h;rfl
 ·unfold lg at h
  obtain⟨p0,v,d,rfl,r,hlen,q⟩:=h;have hu:=hr.units;refine⟨_,aB (fj (PW.pt (pw_or (jG (i7 (ck CS rfl B2.yz wm (ae (pv 0) (ae (zG (v:= .ty "str") rfl B2.str boot_str rfl) ah)))))
     (pw_or1 (jG (UK ML ML aG (ck Ca rfl B.len jB (ae (pv 0) ah)) aG))))) (aO (b9 iu)) fu)
   (aO (b9 (ck (vU rfl) rfl B.all boot_all (ae (eQ rfl M4 (Ms (pv 0)) (fun s H fp=>⟨bg (i:=0) M4.nd rfl (Or.inl rfl),iZ,KR Km Km eT (pv 0) eT⟩)) ah)))),?_⟩
  refine⟨_,rfl,DG LV r ⟨_,rfl,?_⟩⟩;cases hb:mn "str" d with
  |false=>have q':=q _ (ak.refl _);rw[Mb hb]at q';exact q'
  |true =>
   obtain⟨x,rfl⟩:∃x,d = .str x:=by cases d with
    |str x=>exact⟨x,rfl⟩
    |_=>cases hb
   obtain rfl:v = .str x:=by cases r;rfl
   have hlx:=hlen x rfl;refine⟨_,rfl,x,rfl,by rw[aI];omega,1,x.length,rfl,rfl,_,rfl,?_⟩
   by_cases h1:1<=x.length
   ·refine ite_tt (cZ (by omega)) ?_
    refine⟨x.length,8,rfl,rfl,_,rfl,?_⟩
    by_cases h8:x.length<=8
    ·have e8:decide ((x.length:Int)<=8)=true:=cZ (by omega)
     have hlc:x.cps.size<=8:=h8;rw[e8];refine⟨_,rfl,x,rfl,fun p hp=>?_⟩;refine K7 (fun i ys τ H1=>∃t0:Option V,τ = [t0]/\ys=((x.cps.toList.take i).map fun c=>decide (97<=c) && decide (c<=122)).map V.bl/\H1=upd H p (.lst ys)) ⟨none,rfl,rfl,rfl⟩ (fun i ys τ H1 ⟨_,_,_,z⟩=>by rw[z];exact af) ?_ ?_
     ·rintro i c ys τ H1 hc ⟨t0,rfl,rfl,rfl⟩
      have gk:i < x.cps.size:=(yT.mp hc).1;have su:x.cps.toList.take (i+1)=x.cps.toList.take i ++ [c]:=by rw[dZ,IH,hc];rfl
      refine⟨_,rfl,_,_,rfl,rfl,_,rfl,?_⟩;rw[Xq];have len:((((x.cps.toList.take i).map fun c=>decide (97<=c) && decide (c<=122)).map V.bl).length) < sizeLine:=by rw[aE,aE,dh,mz,aI];omega
      cases Fe:decide (97<=c) with
      |false =>
       refine ite_ff rfl ⟨af,len,cw_next gk ⟨_,rfl,?_,by rw[gR]⟩⟩
       rw[su,bj,bj,cf,Fe];rfl
      |true =>
       refine ite_tt rfl ⟨_,_,rfl,rfl,af,len,cw_next gk ⟨_,rfl,?_,by rw[gR]⟩⟩
       rw[Xr,su,bj,bj,cf,Fe];rfl
     ·rintro ys τ H1 ⟨t0,rfl,rfl,rfl⟩
      refine⟨p,_,rfl,aj.of af,?_⟩;have q':=q _ (ar (o:= .lst (((x.cps.toList.take x.cps.size).map fun c=>decide (97<=c) && decide (c<=122)).map V.bl)) hp);rw[show de (.str x)=((x.cps.toList.take x.cps.size).map fun c=>decide (97<=c) && decide (c<=122)).all id by
       show eI x=_;unfold eI;rw[cZ h1,cZ h8,tF,yZ (by rw[mz];exact aK _)];rfl]at q'
      exact q'
    ·have e8:decide ((x.length:Int)<=8)=false:=gv (by omega)
     rw[e8];have q':=q _ (ak.refl _);rw[show de (.str x)=false by show eI x=_;unfold eI;rw[gv h8];simp]at q'
     exact q'
   ·refine ite_ff (gv (by omega)) ?_
    have q':=q _ (ak.refl _);rw[show de (.str x)=false by show eI x=_;unfold eI;rw[gv h1];simp]at q'
    exact⟨_,rfl,q'⟩
theorem DP {ds:List PyData} (r:Dt p H v (.tuple ds)):∃a vs,v = .ref a/\a≠p/\H a=some (.tup vs)/\bu p H vs ds:=by
 cases r with
 |tup n e rs=>exact⟨_,_,rfl,n,e,rs⟩
theorem VA {d:PyData}{ds:List PyData} (r:bu p H vs (d::ds)):∃v ws,vs=v::ws/\Dt p H v d/\bu p H ws ds:=by
 cases r with
 |cons a b=>exact⟨_,_,rfl,a,b⟩
theorem Wz (r:bu p H vs []):vs = []:=by cases r;rfl
theorem lU (r:Dt p H v (.str x)):v = .str x:=by cases r;rfl
theorem is_tup {d:PyData} (h:mn "tuple" d=true):∃ds,d = .tuple ds:=by
 cases d with
 |tuple ds=>exact⟨ds,rfl⟩
 |_=>cases h
theorem Xs {d:PyData} (h:mn "str" d=true):∃x,d = .str x:=by
 cases d with
 |str x=>exact⟨x,rfl⟩
 |_=>cases h
theorem rT {x:V}:cg (x::xs) 0=some x:=(show cg (x::xs) ((0:Nat):Int)=some x from dq rfl)
theorem ER {x:V}:cg (x::y::xs) 1=some y:=(show cg (x::y::xs) ((1:Nat):Int)=some y from dq rfl)
theorem Li:∀ {ds:List PyData}{d:PyData},d∈ds->d.bulk+1<=PyData.bulkAll ds
 |e::ds,d,h=>by
  rcases aY.mp h with rfl|h
  ·simp only[PyData.bulkAll];omega
  ·have:=Li h;simp only[PyData.bulkAll];omega
def Sm (d:PyData):Prop:=d.bulk<=100000
theorem Sm.str {d:PyData} (h:Sm d):∀x,d = .str x->x.length<=100000:=fun x e=>by subst e;exact h
theorem Lj:∀ds:List PyData,ds.length<=PyData.bulkAll ds
 |[]=>aK _
 |d::ds=>by have:=Lj ds;simp only[PyData.bulkAll,cO];omega
theorem bu.same {ds:List PyData} (r:bu p H vs ds) (S:ak H H'):bu p H' vs ds:=r.keep fun b o e _=>S b o e
theorem Dt.same {d:PyData} (r:Dt p H v d) (S:ak H H'):Dt p H' v d:=r.keep fun b o e _=>S b o e
theorem boot_set:bootBuiltins "set" = some (.type "set"):=by decide +kernel
theorem WA {xs ys:List Str} (hx:xs.Nodup) (hy:ys.Nodup) (h:∀a,a∈xs ↔ a∈ys):xs.Perm ys:=(List.perm_ext_iff_of_nodup hx hy).mpr h
def M5 (e:Expr) (i:Nat):Expr:=match e with|.BoolOp _ es _=>es.getD i (.Constant .none 0 ⟨0,0,0,0⟩)|_=>.Constant .none 0 ⟨0,0,0,0⟩
def Xt (s:Stmt):Expr:=match s with|.If c _ _ _=>c|_=>.Constant .none 0 ⟨0,0,0,0⟩
def strOf:PyData->Str|.str x=>x|_ => ""
def je:PyData->Bool|.tuple ds=>ds.all de && decide (ds.map strOf).Nodup|_=>false
theorem Xu {d:PyData} (h:mn "tuple" d=false):je d=false:=by cases d <;> first|rfl|cases h
theorem zE {d:PyData} (h:de d=true):d = .str (strOf d):=by cases d <;> first|rfl|cases h
theorem Cu:∀ {ds:List PyData},ds.all de=true->ds=(ds.map strOf).map PyData.str
 |[],_=>rfl
 |d::ds,h=>by
  rw[IE,jA]at h;rw[cf,cf,<-zE h.1,<-Cu h.2]
theorem C9 {p:Addr}{H:Hp}:∀ {vs:List V}{xs:List Str},bu p H vs (xs.map PyData.str)->vs=xs.map V.str
 |_,[],r=>by rw[Wz r];rfl
 |_,x::xs,r=>by
  obtain⟨v,ws,rfl,r1,rs⟩:=VA r;rw[lU r1,C9 rs];rfl
theorem Lk:∀ {ds xs:List Str},ds.Nodup->(∀y∈ds,y∈xs)->xs.length<=ds.length->xs.Perm ds
 |[],xs,_,_,h=>by rw[B5 (by simpa using h:xs.length=0)]
 |d::ds,xs,nd,hs,h=>by
  obtain⟨n1,n2⟩:=gE.mp nd;have hd:=hs d aV;have p1:=List.perm_cons_erase hd;have l1:=p1.length_eq;rw[cO]at l1 h;exact p1.trans ((Lk n2 (fun y hy=>(Rr (a:=y) (b:=d) (fun e=>n1 (by rw[<-e];exact hy))).mpr (hs y (bV _ hy))) (by omega)).cons d)
theorem Xv {ds xs:List Str} (h:ds.Nodup) (m:∀y,y∈ds ↔ y∈xs):decide (ds.length=xs.length)=decide xs.Nodup:=by
 refine B6.mpr ⟨fun e=>?_,fun n=>(WA h n m).length_eq⟩;exact(Lk h (fun y hy=>(m y).mp hy) (by omega)).nodup_iff.mpr h
theorem Ll {c:Addr}{ds:List PyData}{g:PyData->Bool}{tl:St} (ha:H a=some (.tup vs)) (rs:bu p H vs ds) (hc:H c=none) (h4:ds.length<=1000)
  (hte:∀ (v:V) (d:PyData) (H1:Hp) (Q1:VK),d∈ds->ak H H1->Dt p H1 v d->(∀H2,ak H1 H2->Q1 (.bl (g d)) H2)->te (some v::tl) H1 Q1)
  (q:∀H1,ak H H1->H1 c=some (.lst ((ds.map g).map V.bl))->Q (.ref c) H1):kc (oS K a) (m4 0) xi te (none::tl) Q c H:=by
 have hl:=rs.length;refine qX (xs:=vs) (fun i ys τ H2=>∃t0:Option V,τ=t0::tl/\ys=((ds.take i).map g).map V.bl/\ak H H2/\H2 c=some (.lst ys)) ⟨none,rfl,rfl,ar hc,af⟩ (fun i ys τ H2 ⟨_,_,_,z,z2⟩=>⟨z2,aN.of (z _ _ ha)⟩) ?_ ?_
 ·rintro i x ys τ H2 hx ⟨t0,rfl,rfl,S2,h2⟩
  have cC:i < vs.length:=(cu.mp hx).1;have Hk:i < ds.length:=by omega
  obtain⟨v',PY,rd⟩:=rs.get (b4 Hk);rw[hx]at PY;cases PY;refine hte x ds[i] H2 _ (iX Hk) S2 (rd.keep fun b o e _=>S2 b o e) fun H3 S3=>⟨S3 _ _ h2,by rw[aE,aE,dh,aI];omega,cw_next cC ⟨_,rfl,?_,fun b u e=>?_,af⟩⟩
  ·rw[dZ,b4 Hk,bj,bj];rfl
  ·rw[ai (aq e hc)];exact S3 _ _ (S2 _ _ e)
 ·rintro ys τ H2 ⟨t0,rfl,rfl,S2,h2⟩
  rw[hl,eF]at h2;exact q H2 S2 h2
def Bk (d:PyData):Prop:=d.bulk<=1000
theorem Bk.sm {d:PyData} (h:Bk d):Sm d:=cK h (by decide)
theorem Bk.tup {ds:List PyData} (h:Bk (.tuple ds)):(∀d∈ds,Bk d)/\ds.length<=1000:=⟨fun d hd=>by
 have:=Li hd;have h':PyData.bulkAll ds<=1000:=h;unfold Bk;omega,cK (Lj ds) h⟩
@[irreducible] def uy:Sp:=fun vs H Q _=>∃ (p:Addr) (v:V) (d:PyData),vs = [v]/\Dt p H v d/\Bk d /\ ∀H',ak H H'->Q (.bl (je d)) H'
theorem Xw {d:PyData} (r:Dt p H v d) (h:Bk d) (q:∀H',ak H H'->Q (.bl (je d)) H'):uy [v] H Q E:=by unfold uy;exact⟨p,v,d,rfl,r,h,q⟩
theorem YB:b3 ["thing"] ["thing"] (aM wQ):=⟨rfl,rfl,rfl,by decide +kernel,rfl,by decide +kernel,by decide +kernel⟩
abbrev aah:Expr:=iz (N1 (M5 (Xt (cL (cA wQ) 0)) 1))
theorem M6:cj ["thing"] (aM wQ) ["name"] [none] (cW aah):=⟨rfl,by decide +kernel,by decide +kernel,rfl,d9 (by decide +kernel),by decide +kernel⟩
theorem Xx (F:aU K "is_row" "is_row" wQ f fd) (B:fg mg) (B2:km mg) (bs:mg "set" = none) (GN:aD P w K mg base aR 1 fN dN ["thing"] lg) (kN:keepIn K (.ref fN)=true) (bN:Binds K dN ["thing"] []) (mN:mg "is_name" = some (.ref fN)):aD P w K mg base aR 2 f fd ["thing"] uy:=by
 refine F.ok YB (fun vs H Q E h=>?_) (fun cdv A outer s H vs Q E hr h=>?_)
 ·unfold uy at h;obtain⟨p,v,d,rfl,_⟩:=h;rfl
 ·unfold uy at h
  obtain⟨p,v,d,rfl,r,hb,q⟩:=h;have cJ:aS 1 _:=hr;refine⟨_,aB (fj (PW.pt (pw_or (jG (i7 (ck CS rfl B2.yz wm (ae (pv 0) (ae (zG (v:= .ty "tuple") rfl B.tuple boot_tuple rfl) ah)))))
    (pw_or1 (jG (i7 (ck (vU rfl) rfl B.all boot_all (ae (eQ rfl M6 (pS (pv 0)) (fun s H fp=>⟨bg (i:=0) M6.nd rfl (Or.inl rfl),iZ,aQ GN cJ rfl mN kN bN .nil a7 (ae (pv 0) ah)⟩)) ah))))))) (aO (b9 iu)) fu)
   (aO (b9 (t4 oE (ck Sy rfl B.len jB (ae (f7 (Vd rfl) rfl bs boot_set (ae (pv 0) ah)) ah)) (ck kX rfl B.len jB (ae (pv 0) ah)) (cF _)))),?_⟩
  refine⟨_,rfl,DG kit_tuple r ⟨_,rfl,?_⟩⟩;cases ht:mn "tuple" d with
  |false=>have q':=q _ (ak.refl _);rw[Xu ht]at q';exact q'
  |true =>
   obtain⟨ds,rfl⟩:=is_tup ht;obtain⟨a,vs,rfl,na,ha,rs⟩:=DP r;obtain⟨Hl,Hm⟩:=hb.tup;refine⟨_,rfl,a,rfl,⟨_,aN.of ha⟩,fun c hc=>Ll (g:=de) ha rs hc Hm (fun v' d' H1 Q1 sg S1 rd' k=>⟨_,rfl,zD rd' ((Hl d' sg).sm.str) k⟩) fun H1 S1 h1=>⟨c,_,rfl,aj.of h1,_,rfl,?_⟩⟩;have er:je (.tuple ds)=(ds.all de && decide (ds.map strOf).Nodup):=rfl;rw[tF,show(id ∘ de)=de from rfl];cases qu:ds.all de with
   |false=>have q':=q _ S1;rw[er,qu]at q';exact q'
   |true =>
    have es:=Cu qu;have ev:vs=(ds.map strOf).map V.str:=C9 (by rw[<-es];exact rs)
    rw[er,qu]at q;have gq:=S1 _ _ ha;rw[ev]at gq;have el:(ds.map strOf).length=ds.length:=aE ..;generalize ds.map strOf=xs at gq el q;refine⟨_,rfl,a,xs,rfl,.inr (aN.of gq),by omega,fun b zs AI nds mem=>?_⟩
    have S2:=ar (o:=xD P w b zs) AI;refine⟨b,zs,rfl,af,_,rfl,a,_,rfl,.inr (aN.of (S2 _ _ gq)),rfl,?_⟩;rw[aE];have e2:decide (V.int (zs.length:Int)=V.int (xs.length:Int))=decide xs.Nodup:=by
     rw[<-Xv nds mem];exact B6.mpr ⟨fun z=>by injection z with z;exact Int.ofNat.inj z,fun z=>by rw[z]⟩
    rw[e2];exact q _ (S1.trans S2)
theorem Lm:∀ (kvs:List (Str×V)) (x:Str),(cb (i9 kvs) (Sum.inr x)).isSome=decide (x∈kvs.map (·.1))
 |[],x=>rfl
 |p::kvs,x=>by
  rw[show i9 (p::kvs)=(Sum.inr p.1,p.2)::i9 kvs from rfl]
  by_cases e:p.1=x
  ·rw[j7 (by rw[e])];simp[e]
  ·rw[j8 (fun z=>e (vF z)),Lm kvs x]
   simp[aY,aH e]
def bt (aa:aF):PyData->Bool|.str x=>eI x && decide (x∈keysOf aa)|_=>false
theorem WB {aa:aF}{d:PyData} (h:de d=false):bt aa d=false:=by
 cases d with
 |str x=>show(eI x && _)=false;rw[show eI x=false from h];rfl
 |_=>rfl
theorem wo (h:Nm x):eI x=true:=by
 unfold iR.eI;rw[cZ h.lo,cZ h.hi,RT,RT,iW];intro c hc;have:=h.az c hc;rw[cZ this.1,cZ this.2];rfl
theorem mU {aa:aF} (st:cp aa) (h:x∈keysOf aa):bt aa (.str x)=true:=by
 show(eI x && decide (x∈keysOf aa))=true;rw[wo (st.lH h),cZ h];rfl
theorem pQ {aa:aF}{d:PyData} (h:bt aa d=true):∃x,d = .str x/\x∈keysOf aa:=by
 cases d with
 |str x=>exact⟨x,rfl,by have:=(jY.mp h).2;simpa using this⟩
 |_=>cases h
@[irreducible] def pV:Sp:=fun vs H Q _=>∃ (p t:Addr) (aa:aF) (v:V) (d:PyData),vs = [.ref t,v]/\FA H t aa/\Dt p H v d/\Bk d /\ ∀H',ak H H'->Q (.bl (bt aa d)) H'
theorem Dx {aa:aF}{d:PyData} (ht:FA H t aa) (r:Dt p H v d) (hb:Bk d) (q:∀H',ak H H'->Q (.bl (bt aa d)) H'):pV [.ref t,v] H Q E:=by unfold pV;exact⟨p,t,aa,v,d,rfl,ht,r,hb,q⟩
theorem Xy:b3 ["family","thing"] ["family","thing"] (aM Dr):=⟨rfl,rfl,rfl,by decide +kernel,rfl,by decide +kernel,by decide +kernel⟩
theorem WC {yD:FuncData} (F:aU K "is_kind" "is_kind" Dr f fd) (B2:km mg) (GN:aD P w K mg base aR 1 fN yD ["thing"] lg) (kN:keepIn K (.ref fN)=true) (bN:Binds K yD ["thing"] []) (mN:mg "is_name" = some (.ref fN)):aD P w K mg base aR 2 f fd ["family","thing"] pV:=by
 refine F.ok Xy (fun vs H Q E h=>?_) (fun cdv A outer s H vs Q E hr h=>?_)
 ·unfold pV at h;obtain⟨p,t,aa,v,d,rfl,_⟩:=h;rfl
 ·unfold pV at h
  obtain⟨p,t,aa,v,d,rfl,⟨st,ws,ht,hf⟩,r,hb,q⟩:=h;have hu:=hr.units;have eX:=qO (qP (show 1<=64 by decide) _) hu
  refine⟨_,aO (b9 (DA (aQ GN hr rfl mN kN bN .nil a7 (ae (pv 1) ah)) (Mh (Mg (Mp eX (pv 1) (f7 (JJ rfl) rfl B2.dict boot_dict (ae (pv 0) ah))))))),?_⟩;obtain⟨kvs,hp,hk⟩:=hf.pairs;refine⟨_,rfl,zD r hb.sm.str fun H1 S1=>⟨de d,rfl,?_⟩⟩;cases hn:de d with
  |false=>have q1:=q _ S1;rw[WB hn]at q1;exact q1
  |true =>
   have ed:=zE hn;generalize strOf d=x at ed;subst ed;obtain rfl:=lU r;refine⟨_,rfl,_,rfl,t,ws,kvs,rfl,S1 _ _ ht,hp.same S1,by rw[hk];exact st.nd,fun d hd=>⟨d,_,rfl,gI.k (k:=Sum.inr x) af,?_⟩⟩
   have q1:=q _ (S1.trans (ar (o:= .dK (i9 kvs)) hd));rw[show bt aa (.str x)=decide (x∈keysOf aa) by show(eI x && _)=_;rw[show eI x=true from hn];rfl]at q1
   rw[Lm,hk];exact q1
def fc (aa:aF):PyData->Bool|.tuple ds=>je (.tuple ds) && (decide (ds.length<=4) && ds.all (bt aa))|_=>false
theorem Xz {aa:aF}{d:PyData} (h:je d=false):fc aa d=false:=by
 cases d with
 |tuple ds=>show(je (.tuple ds) && _)=false;rw[h];rfl
 |_=>rfl
@[irreducible] def uh:Sp:=fun vs H Q _=>∃ (p t:Addr) (aa:aF) (v:V) (d:PyData),vs = [.ref t,v]/\FA H t aa/\Dt p H v d/\Bk d /\ ∀H',ak H H'->Q (.bl (fc aa d)) H'
theorem WD {aa:aF}{d:PyData} (ht:FA H t aa) (r:Dt p H v d) (hb:Bk d) (q:∀H',ak H H'->Q (.bl (fc aa d)) H'):uh [.ref t,v] H Q E:=by unfold uh;exact⟨p,t,aa,v,d,rfl,ht,r,hb,q⟩
theorem XA:b3 ["family","thing"] ["family","thing"] (aM xp):=⟨rfl,rfl,rfl,by decide +kernel,rfl,by decide +kernel,by decide +kernel⟩
abbrev YC:Expr:=iz (nu (cL (cA xp) 1))
theorem MC:cj ["family","thing"] (aM xp) ["parent","family"] [none,some 0] (cW YC):=⟨rfl,by decide +kernel,by decide +kernel,rfl,d9 (by decide +kernel),by decide +kernel⟩
theorem WE {dK:FuncData} (F:aU K "are_parents" "are_parents" xp f fd) (B:fg mg) (mM:mg "MOST_PARENTS" = some (.int 4 tk))
  (GR:aD P w K mg base aR 2 fR dR ["thing"] uy) (kR:keepIn K (.ref fR)=true) (bR:Binds K dR ["thing"] []) (mR:mg "is_row" = some (.ref fR))
  (GK:aD P w K mg base aR 2 fK dK ["family","thing"] pV) (kK:keepIn K (.ref fK)=true) (bK:Binds K dK ["family","thing"] []) (mK:mg "is_kind" = some (.ref fK)):aD P w K mg base aR 3 f fd ["family","thing"] uh:=by
 refine F.ok XA (fun vs H Q E h=>?_) (fun cdv A outer s H vs Q E hr h=>?_)
 ·unfold uh at h;obtain⟨p,t,aa,v,d,rfl,_⟩:=h;rfl
 ·unfold uh at h
  obtain⟨p,t,aa,v,d,rfl,ht,r,hb,q⟩:=h;have iS:aS 2 _:=hr;refine⟨_,aB (fj (PW.pt (pw_or (jG (i7 (aQ GR iS rfl mR kR bR .nil a7 (ae (pv 1) ah)))) (pw_or1 (b5 DS (ck kX rfl B.len jB (ae (pv 1) ah)) (Lw (v:= .int 4) rfl mM ⟨tk,rfl⟩) (cF _))))) (aO (b9 iu)) fu)
   (aO (b9 (ck (vU rfl) rfl B.all boot_all (ae (eQ rfl MC (pS (pv 1)) (fun s H fp=>⟨bg (i:=0) MC.nd rfl (Or.inl rfl),iZ,aQ GK iS rfl mK kK bK .nil a7 (ae (pv 1) (ae (pv 0) ah))⟩)) ah)))),?_⟩
  refine⟨_,rfl,Xw r hb fun H1 S1=>⟨_,rfl,?_⟩⟩;cases Hn:je d with
  |false=>have q1:=q _ S1;rw[Xz Hn]at q1;exact q1
  |true =>
  obtain⟨ds,rfl⟩:∃ds,d = .tuple ds:=by
   cases d with
   |tuple ds=>exact⟨ds,rfl⟩
   |_=>cases Hn
  obtain⟨a,vs,rfl,na,ha,rs⟩:=DP r;obtain⟨Hl,Hm⟩:=hb.tup;have hl:=rs.length;refine⟨_,rfl,a,_,rfl,.inr (aN.of (S1 _ _ ha)),_,_,rfl,rfl,_,rfl,?_⟩
  by_cases h4:ds.length<=4
  case neg =>
   have e:decide ((vs.length:Int) > 4)=true:=cZ (by omega)
   have q1:=q _ S1;rw[show fc aa (.tuple ds)=false by show(_ && (decide (ds.length<=4) && _))=false;rw[gv h4];simp]at q1
   rw[e];exact q1
  have e:decide ((vs.length:Int) > 4)=false:=gv (by omega)
  rw[e];refine⟨_,rfl,a,rfl,⟨_,aN.of (S1 _ _ ha)⟩,fun c hc=>?_⟩;refine Ll (g:=bt aa) (S1 _ _ ha) (bu.same rs S1) hc Hm (fun v d H2 Q1 hd S2 rd q1=>⟨_,rfl,_,rfl,Dx (ht.same (S1.trans S2)) rd (Hl d hd) q1⟩) fun H2 S2 h2=>?_;refine⟨c,_,rfl,aj.of h2,?_⟩;have q1:=q _ (S1.trans S2);rw[show fc aa (.tuple ds)=((ds.map (bt aa)).all id) by show(je (.tuple ds) && (decide (ds.length<=4) && _))=_;rw[Hn,cZ h4,tF];rfl]at q1
  exact q1
theorem DQ {aa:aF}{d:PyData} (h:fc aa d=true):∃ps:List Str,d = .tuple (ps.map PyData.str)/\ps.Nodup/\ps.length<=4 /\ ∀x∈ps,x∈keysOf aa:=by
 cases d with
 |tuple ds =>
  have h':(je (.tuple ds) && (decide (ds.length<=4) && ds.all (bt aa)))=true:=h;simp only[jA,Ji]at h';obtain⟨h1,h2,h3⟩:=h';have Ho:(ds.all de && decide (ds.map strOf).Nodup)=true:=h1;simp only[jA,Ji]at Ho;have es:=Cu Ho.1;refine⟨ds.map strOf,by rw[<-es],Ho.2,by rw[aE];exact h2,fun x hx=>?_⟩
  rw[es,tF,iW]at h3;obtain⟨y,e,hy⟩:=pQ (h3 x hx);cases e;exact hy
 |_=>cases h
structure mZ (K:Frag) (mg:Str->Option Value) (x:Str) (C:Addr):Prop where
 q:dj K C none=true
 kp:keepIn K (.ref C)=true
 m:mg x=some (.ref C)
 x:df K C
def hZ (C:Addr) (H:Hp) (a:Addr):Prop:=(∃n dx,H a=some (ee n C dx a) /\ ∀d,dx=some d -> ∃fs,H d=some (dv d fs))/\m6 H (some (.ref a))
theorem hZ.plain (h:H a=some (ee (some .none) C none a)):hZ C H a:=⟨⟨_,_,h,fun d e=>by cases e⟩,a,C,none,rfl,.inl h⟩
def Af (C:Addr) (b:Bool) (H:Hp) (Q:VK) (E:XK):Prop:=(b=true -> ∀H',ak H H'->Q .ax H')/\(b=false -> ∀a H',ak H H'->hZ C H' a->E (.ref C) (some a) H')
@[irreducible] def lP (C:Addr):Sp:=fun vs H Q E=>∃ (p t:Addr) (aa:aF) (v:V) (d:PyData),vs = [.ref t,v]/\FA H t aa/\Dt p H v d/\Bk d/\Af C (bt aa d) H Q E
theorem qY {aa:aF}{d:PyData} (ht:FA H t aa) (r:Dt p H v d) (hb:Bk d) (q:bt aa d=true -> ∀H',ak H H'->Q .ax H') (qn:bt aa d=false -> ∀a H',ak H H'->hZ C H' a->E (.ref C) (some a) H'):lP C [.ref t,v] H Q E:=by unfold lP;exact⟨p,t,aa,v,d,rfl,ht,r,hb,q,qn⟩
theorem WG:b3 ["family","thing"] ["family","thing"] (aM Ds):=⟨rfl,rfl,rfl,by decide +kernel,rfl,by decide +kernel,by decide +kernel⟩
theorem Dy {b:Bool} (S1:ak H H1) (c:Af C b H Q E) (x:df K C) (qx:dj K C none=true) (e:Addr) (he:H1 e=none) (hb:b=false):E (.ref C) (some e) (upd (upd H1 e (bE C none e)) e (ee (some .none) C none e)):=by
 refine c.2 hb e _ (fun a o ha=>?_) (.plain af);have nb:a≠e:=aq (S1 _ _ ha) he;rw[ai nb,ai nb];exact S1 _ _ ha
theorem VB {PZ:FuncData} (F:aU K "check_kind" "check_kind" Ds f fd) (T:mZ K mg "NoKind" C) (GK:aD P w K mg base aR 2 fK PZ ["family","thing"] pV) (kK:keepIn K (.ref fK)=true) (bK:Binds K PZ ["family","thing"] []) (mK:mg "is_kind" = some (.ref fK)):aD P w K mg base (a8 P w) 3 f fd ["family","thing"] (lP C):=by
 refine F.jm WG (fun vs H Q E h=>?_) (fun cdv A outer s H vs Q E hr h=>?_)
 ·unfold lP at h;obtain⟨p,t,aa,v,d,rfl,_⟩:=h;rfl
 ·unfold lP at h
  obtain⟨p,t,aa,v,d,rfl,ht,r,hb,c⟩:=h;have iS:aS 2 _:=hr;refine⟨_,aO (fj (jG (i7 (aQ GK iS rfl mK kK bK .nil a7 (ae (pv 0) (ae (pv 1) ah))))) (aO (qV (wA T.q T.kp rfl T.m (ae eT ah)))) fu),?_⟩;refine⟨_,rfl,_,rfl,Dx ht r hb fun H1 S1=>⟨_,rfl,?_⟩⟩;cases hk:bt aa d with
  |true=>exact c.1 hk H1 S1
  |false=>exact⟨by show 1<=100;decide,fun e he=>⟨e,C,none,none,rfl,af,(fun d ed=>by cases ed),T.x,T.q,S1.free he,Dy S1 c T.x T.q e he hk⟩⟩
@[irreducible] def uz (C:Addr):Sp:=fun vs H Q E=>∃ (p:Addr) (v:V) (d:PyData),vs = [v]/\Dt p H v d/\Bk d/\Af C (de d) H Q E
theorem XB {d:PyData} (r:Dt p H v d) (hb:Bk d) (q:de d=true -> ∀H',ak H H'->Q .ax H') (qn:de d=false -> ∀a H',ak H H'->hZ C H' a->E (.ref C) (some a) H'):uz C [v] H Q E:=by unfold uz;exact⟨p,v,d,rfl,r,hb,q,qn⟩
theorem YD:b3 ["thing"] ["thing"] (aM Dq):=⟨rfl,rfl,rfl,by decide +kernel,rfl,by decide +kernel,by decide +kernel⟩
theorem XC {yD:FuncData} (F:aU K "check_name" "check_name" Dq f fd) (T:mZ K mg "NoName" C) (GN:aD P w K mg base aR 1 fN yD ["thing"] lg) (kN:keepIn K (.ref fN)=true) (bN:Binds K yD ["thing"] []) (mN:mg "is_name" = some (.ref fN)):aD P w K mg base (a8 P w) 2 f fd ["thing"] (uz C):=by
 refine F.jm YD (fun vs H Q E h=>?_) (fun cdv A outer s H vs Q E hr h=>?_)
 ·unfold uz at h;obtain⟨p,v,d,rfl,_⟩:=h;rfl
 ·unfold uz at h
  obtain⟨p,v,d,rfl,r,hb,c⟩:=h;have cJ:aS 1 _:=hr;refine⟨_,aO (fj (jG (i7 (aQ GN cJ rfl mN kN bN .nil a7 (ae (pv 0) ah)))) (aO (qV (wA T.q T.kp rfl T.m (ae eT ah)))) fu),?_⟩;refine⟨_,rfl,zD r hb.sm.str fun H1 S1=>⟨_,rfl,?_⟩⟩;cases hk:de d with
  |true=>exact c.1 hk H1 S1
  |false=>exact⟨by show 1<=100;decide,fun e he=>⟨e,C,none,none,rfl,af,(fun d ed=>by cases ed),T.x,T.q,S1.free he,Dy S1 c T.x T.q e he hk⟩⟩
@[irreducible] def rV (C:Addr):Sp:=fun vs H Q E=>∃ (p t:Addr) (aa:aF) (v:V) (d:PyData),vs = [.ref t,v]/\FA H t aa/\Dt p H v d/\Bk d/\Af C (fc aa d) H Q E
theorem M7 {aa:aF}{d:PyData} (ht:FA H t aa) (r:Dt p H v d) (hb:Bk d) (q:fc aa d=true -> ∀H',ak H H'->Q .ax H') (qn:fc aa d=false -> ∀a H',ak H H'->hZ C H' a->E (.ref C) (some a) H'):rV C [.ref t,v] H Q E:=by unfold rV;exact⟨p,t,aa,v,d,rfl,ht,r,hb,q,qn⟩
theorem aai:b3 ["family","thing"] ["family","thing"] (aM Dv):=⟨rfl,rfl,rfl,by decide +kernel,rfl,by decide +kernel,by decide +kernel⟩
theorem YE {fA:Addr}{dA:FuncData} (F:aU K "check_parents" "check_parents" Dv f fd) (T:mZ K mg "NoParents" C) (GA:aD P w K mg base aR 3 fA dA ["family","thing"] uh) (kA:keepIn K (.ref fA)=true) (bA:Binds K dA ["family","thing"] []) (mA:mg "are_parents" = some (.ref fA)):aD P w K mg base (a8 P w) 4 f fd ["family","thing"] (rV C):=by
 refine F.jm aai (fun vs H Q E h=>?_) (fun cdv A outer s H vs Q E hr h=>?_)
 ·unfold rV at h;obtain⟨p,t,aa,v,d,rfl,_⟩:=h;rfl
 ·unfold rV at h
  obtain⟨p,t,aa,v,d,rfl,ht,r,hb,c⟩:=h;have iJ:aS 3 _:=hr;refine⟨_,aO (fj (jG (i7 (aQ GA iJ rfl mA kA bA .nil a7 (ae (pv 0) (ae (pv 1) ah))))) (aO (qV (wA T.q T.kp rfl T.m (ae eT ah)))) fu),?_⟩;refine⟨_,rfl,_,rfl,WD ht r hb fun H1 S1=>⟨_,rfl,?_⟩⟩;cases hk:fc aa d with
  |true=>exact c.1 hk H1 S1
  |false=>exact⟨by show 1<=100;decide,fun e he=>⟨e,C,none,none,rfl,af,(fun d ed=>by cases ed),T.x,T.q,S1.free he,Dy S1 c T.x T.q e he hk⟩⟩
theorem zJ {aa:aF} (al:cq aa) (h:x∈keysOf aa):Ln aa x:=by obtain⟨p,hp,rfl⟩:=bw.mp h;exact al p hp
theorem b8.nodup {aa:aF} (s:cp aa) {k:Str}{l:List Str} (h:b8 aa k l):l.Nodup /\ ∀y∈l,∃m,b8 aa y m/\(y≠k->m.length < l.length):=by
 induction h with
 |mk hm hx hg ih =>
  rename_i k ps L o
  have Hq:∀r∈rowsOf L ps,r.Nodup:=fun r hr=>by
   rcases lL.mp hr with⟨y,hy,rfl⟩|rfl
   ·exact(ih y hy).1
   ·exact s.qz _ hm
  obtain⟨⟨jV,xJ⟩,_⟩:=sound _ _ rfl Hq o hg;have sub:∀x∈ps,∀y∈L x,y∈o:=fun x jt y hy=>(xJ y).mpr ⟨L x,lL.mpr (.inl ⟨x,jt,rfl⟩),hy⟩;have le:∀x∈ps,(L x).length<=o.length:=fun x jt=>z4 (ih x jt).1 (sub x jt);have self:b8 aa k (k::o):= .mk hm hx hg;have P6:∀y∈o,∃x∈ps,y∈L x:=fun y hy=>by
   obtain⟨r,hr,Hr⟩:=(xJ y).mp hy;rcases lL.mp hr with⟨x,jt,rfl⟩|rfl
   ·exact⟨x,jt,Hr⟩
   ·refine⟨y,Hr,?_⟩
    have:=hx y Hr;cases e:L y with
    |nil=>rw[e]at this;cases this
    |cons a b=>rw[e]at this;cases this;exact aV
  have line:∀x∈ps,∀y∈L x,∃m,b8 aa y m/\m.length<=(L x).length:=fun x jt y hy=>by
   obtain⟨m,h1,h2⟩:=(ih x jt).2 y hy
   by_cases e:y=x
   ·subst e;exact⟨L y,hx y jt,aK _⟩
   ·exact⟨m,h1,vG (h2 e)⟩
  have Hs:k ∉ o:=fun hk=>by
   obtain⟨x,jt,hkx⟩:=P6 k hk;obtain⟨m,h1,h2⟩:=line x jt k hkx;have e:=h1.uniq s self;subst e;have:=le x jt;rw[cO]at h2;omega
  refine⟨gE.mpr ⟨Hs,jV⟩,fun y hy=>?_⟩;rcases aY.mp hy with rfl|z
  ·exact⟨_,self,fun h=>absurd rfl h⟩
  ·obtain⟨x,jt,hyx⟩:=P6 y z
   obtain⟨m,h1,h2⟩:=line x jt y hyx;have:=le x jt;exact⟨m,h1,fun _=>by rw[cO];omega⟩
theorem pM {aa:aF} (s:cp aa) (al:cq aa) {p:Str×List Str} (hp:p∈aa):(∀y,y∈aP aa p.1 ↔ y=p.1 \/ ∃x∈p.2,y∈aP aa x)/\(∀x∈p.2,(aP aa x).length < (aP aa p.1).length)/\aP aa p.1=p.1::(aP aa p.1).tail:=by
 have hl:b8 aa p.1 (aP aa p.1):=al p hp;obtain⟨nd,lt⟩:=hl.nodup s;cases e:aP aa p.1 with
 |nil=>rw[e]at hl;cases hl
 |cons a b =>
  rw[e]at hl nd lt;cases hl with
  |mk hm hx hg =>
   rename_i ps L
   have e2:=s.key hp hm;rw[e2];have eL:∀x∈ps,aP aa x=L x:=fun x h=>(hx x h).line s;have self:∀x∈ps,x∈L x:=fun x h=>by
    have:=hx x h;cases e:L x with
    |nil=>rw[e]at this;cases this
    |cons a b=>rw[e]at this;cases this;exact aV
   have Hq:∀r∈rowsOf L ps,r.Nodup:=fun r hr=>by
    rcases lL.mp hr with⟨y,hy,rfl⟩|rfl
    ·exact((hx y hy).nodup s).1
    ·exact s.qz _ hm
   obtain⟨⟨_,xJ⟩,_⟩:=sound _ _ rfl Hq _ hg;have Hs:=(gE.mp nd).1;refine⟨fun y=>?_,fun x h=>?_,rfl⟩
   ·rw[aY,xJ]
    refine or_congr_right ⟨fun⟨r,hr,hy⟩=>?_,fun⟨x,h,hy⟩=>⟨L x,lL.mpr (.inl ⟨x,h,rfl⟩),by rw[<-eL x h];exact hy⟩⟩
    rcases lL.mp hr with⟨z,hz,rfl⟩|rfl
    ·exact⟨z,hz,by rw[eL z hz];exact hy⟩
    ·exact⟨y,hy,by rw[eL y hy];exact self y hy⟩
   ·have xo:x∈b:=(xJ x).mpr ⟨ps,lL.mpr (.inr rfl),h⟩
    obtain⟨m,h1,h2⟩:=lt x (bV _ xo);rw[eL x h,<-h1.uniq s (hx x h)];exact h2 fun z=>Hs (by rw[<-z];exact xo)
@[irreducible] def qZ (C:Addr):Sp:=fun vs H Q E=>∃ (p t:Addr) (aa:aF) (v:V) (d:PyData),vs = [.ref t,v]/\FA H t aa/\cq aa/\Dt p H v d/\Bk d/\(bt aa d=false -> ∀a H',ak H H'->hZ C H' a->E (.ref C) (some a) H') /\
 ∀k,d = .str k->k∈keysOf aa -> ∀p H',ak H H'->H' p=some (.tup ((aP aa k).map V.str))->Q (.ref p) H'
theorem KN {aa:aF}{d:PyData} (ht:FA H t aa) (al:cq aa) (r:Dt p H v d) (hb:Bk d) (qn:bt aa d=false -> ∀a H',ak H H'->hZ C H' a->E (.ref C) (some a) H')
  (q:∀k,d = .str k->k∈keysOf aa -> ∀p H',ak H H'->H' p=some (.tup ((aP aa k).map V.str))->Q (.ref p) H'):qZ C [.ref t,v] H Q E:=by unfold qZ;exact⟨p,t,aa,v,d,rfl,ht,al,r,hb,qn,q⟩
theorem aaj:b3 ["family","kind"] ["family","kind"] (aM Du):=⟨rfl,rfl,rfl,by decide +kernel,rfl,by decide +kernel,by decide +kernel⟩
theorem UA {R:Addr} (F:aU K "line_of" "line_of" Du f fd) (GC:aD P w K mg base (a8 P w) 3 fC qm ["family","thing"] (lP C)) (kC:keepIn K (.ref fC)=true) (bC:Binds K qm ["family","thing"] []) (mC:mg "check_kind" = some (.ref fC))
  (GL:aD P w K mg base (a8 P w) 5 fL oO ["family"] (ou R)) (kL:keepIn K (.ref fL)=true) (bL:Binds K oO ["family"] []) (mL:mg "lines_of" = some (.ref fL)):aD P w K mg base (a8 P w) 6 f fd ["family","kind"] (qZ C):=by
 refine F.jm aaj (fun vs H Q E h=>?_) (fun cdv A outer s H vs Q E hr h=>?_)
 ·unfold qZ at h;obtain⟨p,t,aa,v,d,rfl,_⟩:=h;rfl
 ·unfold qZ at h
  obtain⟨p,t,aa,v,dd,rfl,ht,al,r,hb,qn,q⟩:=h;have hu:=hr.units;have eX:=qO (qP (show 1<=64 by decide) _) hu
  have kT:aS 5 _:=hr;have iJ:aS 3 _:=kT.mono (by decide)
  refine⟨_,aB (eP (aQ GC iJ rfl mC kC bC .nil eG (ae (pv 0) (ae (pv 1) ah))))
   (aO (b9 (om eX (aQ GL kT rfl mL kL bL .nil eG (ae (pv 0) ah)) (pv 1) (fun _ _=>rfl)))),?_⟩
  refine⟨_,rfl,_,rfl,qY ht r hb (fun hk H1 S1=>?_) qn⟩;obtain⟨k,rfl,nN⟩:=pQ hk;obtain rfl:=lU r;obtain⟨st,ws,Ht,hf⟩:=ht.same S1;obtain⟨pk,sO,rfl⟩:=bw.mp nN;refine⟨_,rfl,zB Ht hf st (fun z=>absurd al z) fun d gJ H2 hd S2 h2 _ _ hl=>?_⟩;obtain⟨a,ea,ha⟩:=hl al pk sO;refine⟨_,rfl,d,.ref a,rfl,?_,q pk.1 rfl nN a H2 (S1.trans S2) ha⟩;rw[<-ea];exact gI.k (k:=Sum.inr pk.1) h2
@[irreducible] def uA (C:Addr):Sp:=fun vs H Q E=>∃ (p t:Addr) (aa:aF) (v:V) (d:PyData),vs = [.ref t,v]/\FA H t aa/\cq aa/\Dt p H v d/\Bk d/\(bt aa d=false -> ∀a H',ak H H'->hZ C H' a->E (.ref C) (some a) H')/\(bt aa d=true -> ∀x H',ak H H'->Q x H')
theorem XD {aa:aF}{d:PyData} (ht:FA H t aa) (al:cq aa) (r:Dt p H v d) (hb:Bk d) (qn:bt aa d=false -> ∀a H',ak H H'->hZ C H' a->E (.ref C) (some a) H') (q:bt aa d=true -> ∀x H',ak H H'->Q x H'):uA C [.ref t,v] H Q E:=by unfold uA;exact⟨p,t,aa,v,d,rfl,ht,al,r,hb,qn,q⟩
abbrev P9:List Str:= ["family","kind","lines"]
theorem Of:b3 P9 ["family","kind"] (aM we):=⟨rfl,rfl,rfl,by decide +kernel,rfl,by decide +kernel,by decide +kernel⟩
abbrev eBe:Expr:=iz (nu (cL (cA we) 2))
theorem Og:cj P9 (aM we) ["other","kind","lines"] [none,some 1,some 2] (cW eBe):=⟨rfl,by decide +kernel,by decide +kernel,rfl,d9 (by decide +kernel),by decide +kernel⟩
theorem XF {R:Addr} (F:aU K "kinds_beneath" "kinds_beneath" we f fd) (B2:km mg) (GC:aD P w K mg base (a8 P w) 3 fC qm ["family","thing"] (lP C)) (kC:keepIn K (.ref fC)=true) (bC:Binds K qm ["family","thing"] []) (mC:mg "check_kind" = some (.ref fC))
  (GL:aD P w K mg base (a8 P w) 5 fL oO ["family"] (ou R)) (kL:keepIn K (.ref fL)=true) (bL:Binds K oO ["family"] []) (mL:mg "lines_of" = some (.ref fL)):aD P w K mg base (a8 P w) 6 f fd ["family","kind"] (uA C):=by
 refine F.jm Of (fun vs H Q E h=>?_) (fun cdv A outer s H vs Q E hr h=>?_)
 ·unfold uA at h;obtain⟨p,t,aa,v,d,rfl,_⟩:=h;rfl
 ·unfold uA at h
  obtain⟨p,t,aa,v,dd,rfl,ht,al,r,hb,qn,q⟩:=h;have hu:=hr.units;have eX:=qO (qP (show 1<=64 by decide) _) hu
  have kT:aS 5 _:=hr;have iJ:aS 3 _:=kT.mono (by decide)
  refine⟨_,aB (eP (aQ GC iJ rfl mC kC bC .nil eG (ae (pv 0) (ae (pv 1) ah))))
   (aB (aZ (i:=2) Of.nd rfl (Or.inr rfl) (aQ GL kT rfl mL kL bL .nil eG (ae (pv 0) ah)))
   (aO (b9 (ck Jq rfl B2.sorted boot_sorted (ae (eQ rfl Og (Dn (pv 2)) (fun s H fp=>⟨bg (i:=0) Og.nd rfl (Or.inl rfl),
    i3 (b5 (wB K rfl) (pv 1) (om eX (pv 2) (pv 0) (fun _ _=>rfl)) rfl),pv 0⟩)) ah))))),?_⟩
  refine⟨_,rfl,_,rfl,qY ht r hb (fun hk H1 S1=>?_) qn⟩;have q2:=q hk;obtain⟨k,rfl,nN⟩:=pQ hk;obtain rfl:=lU r;obtain⟨st,ws,Ht,hf⟩:=ht.same S1;refine⟨_,rfl,zB Ht hf st (fun z=>absurd al z) fun d kvs H2 hd S2 h2 ky _ hl=>?_⟩;have S2:=S1.trans S2;have kl:kvs.length<=15:=by
   have h1:(kvs.map (·.1)).length<=((aa.map (·.1)).map (Sum.inr:Str->Key)).length:=z4 ky.1 fun k hk=>by
    obtain⟨p,hp,rfl⟩:=ky.2 k hk;exact bw.mpr ⟨p.1,bw.mpr ⟨p,hp,rfl⟩,rfl⟩
   have:=st.a6;simp only[aE]at h1;omega
  refine⟨_,rfl,d,kvs,rfl,.inl ⟨h2,fun o2=>?_⟩⟩;have Bh:∀ {b:Addr}{u:HO},H b=some u->b≠d:=fun e=>aq (S1 _ _ e) hd;have S3:ak H (upd H2 d (.cQ o2 (.dK kvs))):=fun b u e=>by rw[ai (Bh e)];exact S2 _ _ e
  have iI:upd H2 d (.cQ o2 (.dK kvs)) d=some (.cQ o2 (.dK kvs)):=af;have Qa:∀x,Sum.inr x∈kvs.map (·.1) -> ∃a,cb kvs (Sum.inr x)=some (.ref a)/\upd H2 d (.cQ o2 (.dK kvs)) a=some (.tup ((aP aa x).map V.str)):=fun x hx=>by
   obtain⟨p,hp,e⟩:=ky.2 _ hx;cases e
   obtain⟨a,e,ha⟩:=hl al p hp;exact⟨a,e,by rw[ai (b6 ha h2 (by intro z;cases z))];exact ha⟩
  generalize upd H2 d (.cQ o2 (.dK kvs))=H3 at S3 iI Qa ⊢;intro c hc;have sX:d≠c:=aq iI hc;refine CC (fun i ys τ H4=>∃ (t0:Option V) (zs:List Str),τ = [t0,some (.str k),some (.ref d)]/\zs.length<=i/\ys=zs.map V.str/\H4=upd H3 c (.lst ys)) ⟨none,[],rfl,aK _,rfl,rfl⟩ (fun i ys τ H4 ⟨_,_,_,_,_,z⟩=>by rw[z];exact⟨af,by rw[ai sX];exact iI⟩) ?_ ?_
  ·rintro i kv ys τ H4 hU ⟨t0,zs,rfl,hz,rfl,rfl⟩
   have aT:i < kvs.length:=(cu.mp hU).1;obtain⟨px,_,ek⟩:=ky.2 kv.1 (bw.mpr ⟨kv,gP hU,rfl⟩);rw[ek];obtain⟨a,ea,ha⟩:=Qa px.1 (by rw[<-ek];exact bw.mpr ⟨kv,gP hU,rfl⟩)
   have yy:upd H3 c (.lst (zs.map V.str)) a=some (.tup ((aP aa px.1).map V.str)):=by rw[ai (aq ha hc)];exact ha
   refine⟨_,rfl,_,rfl,_,rfl,d,.ref a,rfl,.inl ⟨kvs,Sum.inr px.1,.inr ⟨o2,by rw[ai sX];exact iI⟩,rfl,ea.symm⟩,?_⟩
   refine⟨a,_,rfl,.inr (aN.of yy),rfl,jD _,_,rfl,?_⟩;rw[ao cX,j6];refine d4 (fun bf=>?_) (fun bf=>?_)
   ·exact⟨_,rfl,af,by rw[aE,aI];omega,cw_next aT ⟨_,zs ++ [px.1],rfl,by rw[cY,gF];omega,by rw[bj];rfl,by rw[gR]⟩⟩
   ·exact cw_next aT ⟨_,zs,rfl,by omega,rfl,rfl⟩
  ·rintro ys τ H4 ⟨t0,zs,rfl,hz,rfl,rfl⟩
   refine⟨c,_,rfl,aj.of af,by omega,fun D ss hD gy YF=>?_⟩
   exact q2 _ _ (S3.trans ((ar hc).trans (ar hD)))
def iq (aa:aF) (k:Str):List Str:=(aa.filter fun p=>decide (k∈p.2)).map (·.1)
@[irreducible] def rm (C:Addr):Sp:=fun vs H Q E=>∃ (p t:Addr) (aa:aF) (v:V) (d:PyData),vs = [.ref t,v]/\FA H t aa/\Dt p H v d/\Bk d/\(bt aa d=false -> ∀a H',ak H H'->hZ C H' a->E (.ref C) (some a) H') /\
 ∀k,d = .str k->k∈keysOf aa -> ∀ (l:Addr) (ss:List Str) (H':Hp),ak H H'->H' l=some (.lst (ss.map V.str))->ss.Perm (iq aa k)->Q (.ref l) H'
theorem Lo {aa:aF}{d:PyData} (ht:FA H t aa) (r:Dt p H v d) (hb:Bk d) (qn:bt aa d=false -> ∀a H',ak H H'->hZ C H' a->E (.ref C) (some a) H')
  (q:∀k,d = .str k->k∈keysOf aa -> ∀ (l:Addr) (ss:List Str) (H':Hp),ak H H'->H' l=some (.lst (ss.map V.str))->ss.Perm (iq aa k)->Q (.ref l) H'):rm C [.ref t,v] H Q E:=by unfold rm;exact⟨p,t,aa,v,d,rfl,ht,r,hb,qn,q⟩
theorem aak:b3 ["family","kind"] ["family","kind"] (aM wR):=⟨rfl,rfl,rfl,by decide +kernel,rfl,by decide +kernel,by decide +kernel⟩
abbrev eHe:Expr:=iz (nu (cL (cA wR) 1))
theorem ES:cj ["family","kind"] (aM wR) ["other","parents","kind"] [none,none,some 1] (cW eHe):=⟨rfl,by decide +kernel,by decide +kernel,rfl,d9 (by decide +kernel),by decide +kernel⟩
theorem VC (F:aU K "heirs_of" "heirs_of" wR f fd) (B2:km mg) (GC:aD P w K mg base (a8 P w) 3 fC qm ["family","thing"] (lP C)) (kC:keepIn K (.ref fC)=true) (bC:Binds K qm ["family","thing"] []) (mC:mg "check_kind" = some (.ref fC)) :
  aD P w K mg base (a8 P w) 4 f fd ["family","kind"] (rm C):=by
 refine F.jm aak (fun vs H Q E h=>?_) (fun cdv A outer s H vs Q E hr h=>?_)
 ·unfold rm at h;obtain⟨p,t,aa,v,d,rfl,_⟩:=h;rfl
 ·unfold rm at h
  obtain⟨p0,t,aa,v,dd,rfl,hA,r,hb,qn,q⟩:=h;obtain⟨ok,ws,ht,hf⟩:=id hA;have hu:=hr.units;have iJ:aS 3 _:=hr;refine⟨_,aB (eP (aQ GC iJ rfl mC kC bC .nil eG (ae (pv 0) (ae (pv 1) ah))))
   (aO (b9 (ck Jq rfl B2.sorted boot_sorted (ae (eQ rfl ES (pS (pv 0)) (fun s H fp=>⟨Vy (n:=2) K rfl rfl (j5 (bg (i:=0) ES.nd rfl (Or.inl rfl)) (j5 (bg (i:=1) ES.nd rfl (Or.inl rfl)) tZ)),
    i3 (b5 (wB K rfl) (pv 2) (pv 1) rfl),pv 0⟩)) ah)))),?_⟩
  refine⟨_,rfl,_,rfl,qY hA r hb (fun hk H1 S1=>?_) qn⟩;obtain⟨k,rfl,nN⟩:=pQ hk;obtain rfl:=lU r;have hl:=hf.length;have Eg:=ok.a6;have Gb:=hf.same S1;refine⟨_,rfl,t,rfl,⟨_,aN.of (S1 _ _ ht)⟩,fun c hc=>?_⟩;have ntc:t≠c:=aq (S1 _ _ ht) hc;refine qX (xs:=ws) (fun i ys τ H2=>∃t0 t1:Option V,τ = [t0,t1,some (.str k)]/\ys=(iq (aa.take i) k).map V.str/\H2=upd H1 c (.lst ys)) ⟨none,none,rfl,rfl,rfl⟩ (fun i ys τ H2 ⟨_,_,_,_,z⟩=>by rw[z];exact⟨af,aN.of (by rw[ai ntc];exact S1 _ _ ht)⟩) ?_ ?_
  ·rintro i x ys τ H2 hx ⟨t0,t1,rfl,rfl,rfl⟩
   have aT:i < ws.length:=(cu.mp hx).1;obtain⟨p,hpi,a,b,rfl,ha,hb⟩:=oq Gb hx;have tk:aa.take (i+1)=aa.take i ++ [p]:=by rw[dZ,hpi];rfl
   have jq:upd H1 c (.lst ((iq (aa.take i) k).map V.str)) a=some (.tup [.str p.1,.ref b]):=by rw[ai (aq ha hc)];exact ha
   have xV:upd H1 c (.lst ((iq (aa.take i) k).map V.str)) b=some (.tup (p.2.map V.str)):=by rw[ai (aq hb hc)];exact hb
   refine⟨a,_,rfl,aN.of jq,rfl,_,_,rfl,_,_,rfl,rfl,?_⟩;refine⟨_,rfl,_,rfl,b,_,rfl,.inr (aN.of xV),rfl,jD _,_,rfl,?_⟩;rw[ao cX,j6];have ef:iq (aa.take (i+1)) k=iq (aa.take i) k++if k∈p.2 then [p.1] else []:=by
    rw[tk];unfold iq;rw[iK,bj]
    by_cases h:k∈p.2
    ·rw[au h,tD (by simpa using h)];rfl
    ·rw[ao h,vO (by simpa using h)];rfl
   refine d4 (fun bf=>?_) (fun bf=>?_)
   ·have kj:k∈p.2:=by simpa using bf
    refine⟨_,rfl,af,?_,cw_next aT ⟨_,_,rfl,?_,by rw[gR]⟩⟩
    ·have h2:(iq (aa.take i) k).length<=(aa.take i).length:=by unfold iq;rw[aE];exact iY _ _
     rw[dh]at h2;rw[aE,aI];omega
    ·rw[ef,au kj,bj];rfl
   ·have kj : ¬ k∈p.2:=by simpa using bf
    refine cw_next aT ⟨_,_,rfl,?_,rfl⟩;rw[ef,ao kj,fh]
  ·rintro ys τ H2 ⟨t0,t1,rfl,rfl,rfl⟩
   rw[hl,eF];have h2:(iq aa k).length<=aa.length:=by unfold iq;rw[aE];exact iY _ _
   refine⟨c,_,rfl,aj.of af,by omega,fun D ss hD gy YF=>?_⟩
   exact q k rfl nN D ss _ (S1.trans ((ar hc).trans (ar hD))) af gy
theorem b7.look (h:b7 H vs aa) (nd:(aa.map (·.1)).Nodup):∃kvs,lT H vs kvs/\kvs.map (·.1)=aa.map (·.1) /\ ∀p∈aa,∃b,cb (i9 kvs) (Sum.inr p.1)=some (.ref b)/\H b=some (.tup (p.2.map V.str)):=by
 induction h with
 |nil=>exact⟨[],.nil,rfl,fun p hp=>by cases hp⟩
 |@cons y p vs' iA hp _ ih =>
  obtain⟨a,b,e,q,r⟩:=hp;rw[cf,gE]at nd;obtain⟨kvs,h1,h2,h3⟩:=ih nd.2;refine⟨(p.1,.ref b)::kvs,.cons ⟨a,e,q⟩ h1,by rw[cf,cf,h2],fun z hz=>?_⟩
  show ∃b',cb ((Sum.inr p.1,V.ref b)::i9 kvs) (Sum.inr z.1)=some (.ref b')/\_;rcases aY.mp hz with e1|hz
  ·rw[e1,j7 rfl];exact⟨b,rfl,r⟩
  ·have ne : ¬ ((Sum.inr p.1:Key)=Sum.inr z.1):=fun w=>nd.1 (by rw[vF w];exact bw.mpr ⟨z,hz,rfl⟩)
   rw[j8 ne];exact h3 z hz
@[irreducible] def rJ (C:Addr):Sp:=fun vs H Q E=>∃ (p t:Addr) (aa:aF) (va vb:V) (da db:PyData),vs = [.ref t,va,vb]/\FA H t aa/\cq aa/\Dt p H va da/\Bk da/\Dt p H vb db/\Bk db/\((bt aa da && bt aa db)=false -> ∀a H',ak H H'->hZ C H' a->E (.ref C) (some a) H') /\
 ∀a b,da = .str a->db = .str b->a∈keysOf aa->b∈keysOf aa->(b ∉ aP aa a -> ∀H',ak H H'->Q .ax H')/\(b∈aP aa a -> ∀r way H',ak H H'->H' r=some (.tup ((way ++ [b]).map V.str))->(∀x∈way ++ [b],x∈keysOf aa)->way.length<=16->Q (.ref r) H')
theorem MD {aa:aF}{va vb:V}{da db:PyData} (ht:FA H t aa) (al:cq aa) (ra:Dt p H va da) (ba:Bk da) (rb:Dt p H vb db) (bb:Bk db) (qe:(bt aa da && bt aa db)=false -> ∀a H',ak H H'->hZ C H' a->E (.ref C) (some a) H')
  (q:∀a b,da = .str a->db = .str b->a∈keysOf aa->b∈keysOf aa->(b ∉ aP aa a -> ∀H',ak H H'->Q .ax H')/\(b∈aP aa a -> ∀r way H',ak H H'->H' r=some (.tup ((way ++ [b]).map V.str))->(∀x∈way ++ [b],x∈keysOf aa)->way.length<=16->Q (.ref r) H')):rJ C [.ref t,va,vb] H Q E:=by
 unfold rJ;exact⟨p,t,aa,va,vb,da,db,rfl,ht,al,ra,ba,rb,bb,qe,q⟩
abbrev Qb:List Str:= ["family","a","b","lines","above","way"]
theorem Ag:b3 Qb ["family","a","b"] (aM xE):=⟨rfl,rfl,rfl,by decide +kernel,rfl,by decide +kernel,by decide +kernel⟩
def YG (s:Stmt):Expr:=match s with|.Expr e _=>e|_=>.Constant .none 0 ⟨0,0,0,0⟩
abbrev eWa:Expr:=Ez (iz (YG (cL (tQ (cL (cA xE) 6)) 0)))
theorem Oh:cj Qb (aM xE) ["parent","b","lines"] [none,some 2,some 3] (cW eWa):=⟨rfl,by decide +kernel,by decide +kernel,rfl,d9 (by decide +kernel),by decide +kernel⟩
theorem XG {R:Addr} (F:aU K "way_of" "way_of" xE f fd) (B:fg mg) (B2:km mg) (GC:aD P w K mg base (a8 P w) 3 fC qm ["family","thing"] (lP C)) (kC:keepIn K (.ref fC)=true) (bC:Binds K qm ["family","thing"] []) (mC:mg "check_kind" = some (.ref fC))
  (GL:aD P w K mg base (a8 P w) 5 fL oO ["family"] (ou R)) (kL:keepIn K (.ref fL)=true) (bL:Binds K oO ["family"] []) (mL:mg "lines_of" = some (.ref fL)):aD P w K mg base (a8 P w) 6 f fd ["family","a","b"] (rJ C):=by
 refine F.jm Ag (fun vs H Q E h=>?_) (fun cdv A outer s H vs Q E hr h=>?_)
 ·unfold rJ at h;obtain⟨p,t,aa,va,vb,da,db,rfl,_⟩:=h;rfl
 ·unfold rJ at h
  obtain⟨p0,t,aa,va,vb,da,db,rfl,hA,al,ra,ba,rb,bb,qe,q⟩:=h;have hu:=hr.units;have eX:=qO (qP (show 1<=64 by decide) _) hu
  have kT:aS 5 _:=hr;have iJ:aS 3 _:=kT.mono (by decide)
  refine⟨_,aB (eP (aQ GC iJ rfl mC kC bC .nil eG (ae (pv 0) (ae (pv 1) ah))))
   (aB (eP (aQ GC iJ rfl mC kC bC .nil eG (ae (pv 0) (ae (pv 2) ah))))
   (aB (aZ (i:=3) Ag.nd rfl (Or.inr rfl) (aQ GL kT rfl mL kL bL .nil eG (ae (pv 0) ah)))
   (aB (fj (b5 zb (pv 2) (om eX (pv 3) (pv 1) (fun _ _=>rfl)) rfl) (aO (b9 jF)) fu)
   (aB (aZ (i:=4) Ag.nd rfl (Or.inl rfl) (f7 (JJ rfl) rfl B2.dict boot_dict (ae (pv 0) ah)))
   (aB (aZ (i:=5) Ag.nd rfl (Or.inl rfl) (a9 (ae (pv 1) ah)))
   (aB (vX B3 (b5 xh (bh cz (pv 5) (xg wJ aG) (fun _ _=>rfl)) (pv 2) (cF _))
    (aO (eP (j' mJ pJ pK kZ (pv 5) (ae (bh cz (eQ rfl Oh (pS (om eX (pv 4) (bh cz (pv 5) (xg wJ aG) (fun _ _=>rfl)) (fun _ _=>rfl))) (fun s H fp=>⟨bg (i:=0) Oh.nd rfl (Or.inl rfl),
     i3 (b5 (wB K rfl) (pv 1) (om eX (pv 2) (pv 0) (fun _ _=>rfl)) rfl),pv 0⟩)) aG (fun _ _=>rfl)) ah)))))
   (aO (b9 (f7 lK rfl B.tuple boot_tuple (ae (pv 5) ah)))))))))),?_⟩
  refine⟨_,rfl,_,rfl,qY hA ra ba (fun ka H1 S1=>?_) (fun z=>qe (by rw[z];rfl))⟩
  refine⟨_,rfl,_,rfl,qY (hA.same S1) (Dt.same rb S1) bb (fun kb H1' S1'=>?_) (fun z a H' S=>qe (by rw[z,Bool.and_false]) a H' (S1.trans S))⟩
  obtain⟨xa,rfl,Hu⟩:=pQ ka;obtain⟨xb,rfl,Qc⟩:=pQ kb;obtain rfl:=lU ra;obtain rfl:=lU rb;obtain⟨qn,qs⟩:=q xa xb rfl rfl Hu Qc;have S1:=S1.trans S1';obtain⟨ok,ws,ht,hf⟩:=hA;obtain⟨pa,iH,rfl⟩:=bw.mp Hu;obtain⟨pb,Gv,rfl⟩:=bw.mp Qc;refine⟨_,rfl,zB (S1 _ _ ht) (hf.same S1) ok (fun z=>absurd al z) fun d kvs H2 hd S2 h2 _ _ hl=>?_⟩;have hl:=hl al;have S2:=S1.trans S2;obtain⟨oN,hp,D7,YH⟩:=hf.look ok.nd;have aal:(oN.map (·.1)).Nodup:=by rw[D7];exact ok.nd
  have Qd:∀ {G:Hp}{p:Str×List Str},ak H2 G->p∈aa -> ∃x,gI G d (.str p.1) (some (.ref x))/\G x=some (.tup ((aP aa p.1).map V.str)):=fun {G p} S hp=>by
   obtain⟨x,e,hx⟩:=hl p hp;exact⟨x,by rw[<-e];exact gI.k (k:=Sum.inr p.1) (S _ _ h2),S _ _ hx⟩
  obtain⟨x0,dg0,nJ⟩:=Qd (ak.refl _) iH;refine⟨_,rfl,_,rfl,_,rfl,d,.ref x0,rfl,dg0,?_⟩;refine⟨x0,_,rfl,.inr (aN.of nJ),rfl,jD _,_,rfl,?_⟩;rw[j6];refine d4 (fun bf=>?_) (fun bf=>?_)
  ·exact qn (by simpa using bf) H2 S2
  have kj:pb.1∈aP aa pa.1:=by simpa using bf
  refine⟨_,rfl,t,ws,oN,rfl,S2 _ _ ht,hp.same S2,aal,fun e he=>?_⟩;have S3:=ar (o:= .dK (i9 oN)) he;refine⟨_,rfl,by show 1<=sizeLine;rw[aI];decide,fun wa nK=>?_⟩
  have Hv:upd (upd H2 e (.dK (i9 oN))) wa (.lst [V.str pa.1]) e=some (.dK (i9 oN)):=by rw[ai (aq af nK)];exact af
  have ET:upd (upd H2 e (.dK (i9 oN))) wa (.lst [V.str pa.1]) wa=some (.lst [V.str pa.1]):=af;have S4:=S3.trans (ar (o:= .lst [V.str pa.1]) nK);have EA:H2 wa=none:=S3.free nK;generalize upd (upd H2 e (.dK (i9 oN))) wa (.lst [V.str pa.1])=H4 at Hv ET S4 ⊢;refine⟨fun m σ H5=>∃ (way:List Str) (x:Str) (p:Str×List Str),σ = [some (.ref t),some (.str pa.1),some (.str pb.1),some (.ref d),some (.ref e),some (.ref wa)]/\H5 wa=some (.lst ((way ++ [x]).map V.str))/\(∀b u,b≠wa->H4 b=some u->H5 b=some u) /\
   (∀y∈way ++ [x],y∈keysOf aa)/\p∈aa/\p.1=x/\pb.1∈aP aa x/\way.length+(aP aa x).length<=16/\m=(aP aa x).length,⟨_,[],pa.1,pa,rfl,ET,fun _ _ _ e=>e,(fun y hy=>by rw[d5.mp hy];exact Hu),iH,rfl,kj,by have:=(b8.mem ok (al pa iH)).2;simpa using this,rfl⟩,?_⟩
  rintro m σ H5 ⟨way,x,p,rfl,h5,kp,W,hW,rfl,sV,hlen,rfl⟩;have Qe:cg ((way ++ [p.1]).map V.str) (-1)=some (V.str p.1):=by rw[bj];exact UM _ _
  have Hw:ak H2 H5:=fun b u e=>kp b u (aq e EA) (S4 _ _ e);refine⟨_,rfl,1,rfl,wa,_,-1,_,rfl,rfl,aj.of h5,Qe,_,rfl,rfl,_,rfl,?_⟩;refine d4 (fun bS=>?_) (fun bS=>?_)
  ·have lr:p.1≠pb.1:=by
    intro z;rw[z]at bS;simp at bS
   refine⟨_,fun _ _ z=>z,?_⟩;refine⟨_,rfl,.inl ⟨rfl,_,aj.of h5⟩,?_⟩;obtain⟨y0,ey0,yl⟩:=YH p hW;have Hx:=Hw _ _ (S2 _ _ yl);have A5:=ok.four p hW;refine⟨_,rfl,_,rfl,1,rfl,wa,_,-1,_,rfl,rfl,aj.of h5,Qe,e,.ref y0,rfl,by rw[<-ey0];exact gI.k (k:=Sum.inr p.1) (kp _ _ (b6 Hv ET (by intro z;cases z)) Hv),?_⟩
   refine⟨y0,rfl,⟨_,aN.of Hx⟩,fun c hc=>?_⟩;refine qX (xs:=p.2.map V.str) (fun i ys τ H6=>∃t0:Option V,τ = [t0,some (.str pb.1),some (.ref d)]/\ys=((p.2.take i).filter fun x=>decide (pb.1∈aP aa x)).map V.str/\H6=upd H5 c (.lst ys)) ⟨none,rfl,rfl,rfl⟩ (fun i ys τ H6 ⟨_,_,_,z⟩=>by rw[z];exact⟨af,aN.of (by rw[ai (aq Hx hc)];exact Hx)⟩) ?_ ?_
   ·rintro i v ys τ H6 hv ⟨t0,rfl,rfl,rfl⟩
    have cC:i < (p.2.map V.str).length:=(cu.mp hv).1;have gk:i < p.2.length:=by simpa using cC
    obtain rfl:V.str p.2[i]=v:=by simpa [gk] using hv
    have tk:p.2.take (i+1)=p.2.take i ++ [p.2[i]]:=by rw[dZ,b4 gk];rfl
    obtain⟨r,hr,er⟩:=ok.up p hW p.2[i] (iX gk);obtain⟨x1,Qf,qt⟩:=Qd (Hw.trans (ar (o:= .lst (((p.2.take i).filter fun x=>decide (pb.1∈aP aa x)).map V.str)) hc)) hr;rw[er]at Qf qt;refine⟨_,rfl,_,rfl,_,rfl,d,.ref x1,rfl,Qf,?_⟩;refine⟨x1,_,rfl,.inr (aN.of qt),rfl,jD _,_,rfl,?_⟩;rw[ao cX,j6];have ef:((p.2.take (i+1)).filter fun x=>decide (pb.1∈aP aa x))=((p.2.take i).filter fun x=>decide (pb.1∈aP aa x))++if pb.1∈aP aa p.2[i] then [p.2[i]] else []:=by
     rw[tk,iK]
     by_cases h:pb.1∈aP aa p.2[i]
     ·rw[au h,tD (by simpa using h)];rfl
     ·rw[ao h,vO (by simpa using h)];rfl
    refine d4 (fun bf=>?_) (fun bf=>?_)
    ·have kj:pb.1∈aP aa p.2[i]:=by simpa using bf
     refine⟨_,rfl,af,?_,cw_next cC ⟨_,rfl,?_,by rw[gR]⟩⟩
     ·have h2:=iY (fun x=>decide (pb.1∈aP aa x)) (p.2.take i)
      rw[dh]at h2;rw[aE,aI];omega
     ·rw[ef,au kj,bj];rfl
    ·have kj : ¬ pb.1∈aP aa p.2[i]:=by simpa using bf
     refine cw_next cC ⟨_,rfl,?_,rfl⟩;rw[ef,ao kj,fh]
   ·rintro ys τ H6 ⟨t0,rfl,rfl,rfl⟩
    rw[aE,eF];obtain⟨y,hy,hby⟩:∃y∈p.2,pb.1∈aP aa y:=by
     rcases ((pM ok al hW).1 pb.1).mp sV with z|z
     ·exact absurd z.symm lr
     ·exact z
    cases AM:p.2.filter fun x=>decide (pb.1∈aP aa x) with
    |nil =>
     have z:y∈p.2.filter fun x=>decide (pb.1∈aP aa x):=gD.mpr ⟨hy,cZ hby⟩;rw[AM]at z;cases z
    |cons y1 r1 =>
     have mh:y1∈p.2/\pb.1∈aP aa y1:=by
      have:=gD.mp (show y1∈p.2.filter fun x=>decide (pb.1∈aP aa x) by rw[AM];exact aV)
      exact⟨this.1,by simpa using this.2⟩
     obtain⟨q1,o6,eq1⟩:=ok.up p hW y1 mh.1;have aT:=(pM ok al hW).2.1 y1 mh.1;have h56:upd H5 c (.lst ((y1::r1).map V.str)) wa=some (.lst ((way ++ [p.1]).map V.str)):=by rw[ai (aq h5 hc)];exact h5
     refine⟨c,_,0,_,rfl,rfl,aj.of af,jT,wa,_,_,rfl,rfl,h56,by rw[aE,cY,gF,aI];omega,?_⟩
     refine⟨(aP aa y1).length,aT,way ++ [p.1],y1,q1,rfl,?_,fun b u nb e=>?_,fun y hy=>?wy,o6,eq1,mh.2,by rw[cY,gF];omega,rfl⟩
     case wy =>
      rcases dX.mp hy with z|z
      ·exact W y z
      ·rw[d5.mp z,<-eq1];exact bw.mpr ⟨q1,o6,rfl⟩
     ·rw[bj (l₁:=way ++ [p.1])];exact af
     ·have sV:=kp b u nb e
      rw[ai nb,ai (aq sV hc)];exact sV
  ·have hnp:p.1=pb.1:=by
    by_cases z:p.1=pb.1
    ·exact z
    ·exact absurd (by simp[z]) bS
   rw[hnp]at h5 W;refine⟨_,rfl,wa,_,rfl,.inl ⟨aj.of h5,fun r hr=>?_⟩⟩;exact qs kj r way _ (S2.trans (Hw.trans (ar hr))) af W (by omega)
theorem b8.congr {aa iA:aF} (h:∀p,p∈aa->p∈iA) {k:Str}{l:List Str} (z:b8 aa k l):b8 iA k l:=by
 induction z with
 |mk hm hx hg ih=>exact .mk (h _ hm) ih hg
theorem Lp {aa iA:aF} (p:iA.Perm aa) {k:Str}{l:List Str}:b8 iA k l ↔ b8 aa k l:=⟨b8.congr fun _ h=>p.mem_iff.mp h,b8.congr fun _ h=>p.mem_iff.mpr h⟩
theorem cp.perm {aa iA:aF} (s:cp aa) (p:iA.Perm aa):cp iA:=by
 refine⟨(p.map _).nodup_iff.mpr s.nd,by rw[p.length_eq];exact s.a6,fun q h=>s.nm q (p.mem_iff.mp h),fun q h x hx=>?_,fun q h=>s.four q (p.mem_iff.mp h),fun q h=>s.qz q (p.mem_iff.mp h)⟩
 obtain⟨r,hr,e⟩:=s.up q (p.mem_iff.mp h) x hx;exact⟨r,p.mem_iff.mpr hr,e⟩
theorem ME {aa:aF} (s:cp aa) {k:Str}:Ln aa k ↔ ∃l,b8 aa k l:=⟨fun h=>⟨_,h⟩,fun⟨_,h⟩=>h.ln s⟩
theorem Mc {aa iA:aF} (s:cp aa) (p:iA.Perm aa) {k:Str}:Ln iA k ↔ Ln aa k:=by
 rw[ME s,ME (s.perm p)];exact⟨fun⟨l,h⟩=>⟨l,(Lp p).mp h⟩,fun⟨l,h⟩=>⟨l,(Lp p).mpr h⟩⟩
theorem Lq {aa iA:aF} (s:cp aa) (p:iA.Perm aa):cq iA ↔ cq aa:=⟨fun h q hq=>(Mc s p).mp (h q (p.mem_iff.mpr hq)),fun h q hq=>(Mc s p).mpr (h q (p.mem_iff.mp hq))⟩
def yE (aa:aF):Prop:=(aa.map (·.1)).Pairwise fun a b=>iQ a b=true
theorem b7.keyed (h:b7 H vs aa):∃kvs,wO H 1 vs kvs/\kvs.map (·.1)=aa.map fun p=>[p.1]:=by
 induction h with
 |nil=>exact⟨[],.nil,rfl⟩
 |@cons y p _ _ hp _ ih =>
  obtain⟨a,b,e,q,r⟩:=hp;obtain⟨kvs,h1,h2⟩:=ih;exact⟨([p.1],[.ref b])::kvs,.cons ⟨a,e,q,rfl⟩ h1,by rw[cf,cf,h2]⟩
theorem JU {H:Hp}:∀ {vs:List V}{aa:List (Str×List Str)}{kvs:List (List Str×List V)},b7 H vs aa->wO H 1 vs kvs->kvs.map (·.1)=aa.map fun p=>[p.1]
 |_,_,_,.nil,.nil=>rfl
 |_,_,_,.cons ⟨a,b,e,q,r⟩ t,.cons (b:=kv) ⟨a',e',q',l'⟩ t'=>by
  have ea:a=a':=by rw[e]at e';cases e';rfl
  subst ea;rw[q]at q';rw[cf,cf,JU t t'];obtain⟨ks,rest⟩:=kv
  match ks,l' with
  |[k],_ =>
   injection (fZ q') with z;injection z with z1 z2;injection z1 with z3;rw[z3]
theorem UB (h:(aa.map (·.1)).Nodup):(aa.map fun p=>[p.1]).Nodup:=by
 have:(aa.map fun p=>[p.1])=(aa.map (·.1)).map fun x=>[x]:=by rw[pI];rfl
 rw[this];exact BZ.mpr (h.imp fun {a b} n e=>n (by injection e))
def i5 (aa:aF) (k:Str):aF:=aa.filter fun p=>!decide (p.1=k)
def dk (aa:aF) (k:Str) (ps:List Str):aF:=i5 aa k ++ [(k,ps)]
theorem n8 {aa:aF}{k:Str}{p:Str×List Str}:p∈dk aa k ps ↔ (p∈aa/\p.1≠k)\/p=(k,ps):=by
 unfold dk i5;rw[dX,gD,d5];simp
theorem Dc {aa:aF} (st:cp aa) (hl:aa.length<=14) {k:Str} (nm:Nm k) (nd:ps.Nodup) (h4:ps.length<=4) (bf:∀x∈ps,x∈keysOf aa):cp (dk aa k ps):=by
 have sub:∀p∈i5 aa k,p∈aa/\p.1≠k:=fun p hp=>by
  obtain⟨h1,h2⟩:=gD.mp hp;exact⟨h1,by simpa using h2⟩
 refine⟨?_,?_,fun p hp=>?_,fun p hp x hx=>?_,fun p hp=>?_,fun p hp=>?_⟩
 ·unfold dk
  rw[bj,mI];refine⟨List.Nodup.sublist (ah6.map _) st.nd,by simp,fun a ha b hb e=>?_⟩
  obtain⟨p,hp,rfl⟩:=bw.mp ha;have:b=k:=by simpa using hb
  exact(sub p hp).2 (e.trans this)
 ·unfold dk
  have:(i5 aa k).length<=aa.length:=iY _ _;rw[cY,gF];omega
 ·rcases n8.mp hp with⟨h,_⟩|rfl
  ·exact st.nm p h
  ·exact nm
 ·have key:x∈keysOf aa:=by
   rcases n8.mp hp with⟨h,_⟩|rfl
   ·obtain⟨q,hq,rfl⟩:=st.up p h x hx
    exact bw.mpr ⟨q,hq,rfl⟩
   ·exact bf x hx
  by_cases e:x=k
  ·exact⟨(k,ps),n8.mpr (.inr rfl),e.symm⟩
  ·obtain⟨q,hq,rfl⟩:=bw.mp key
   exact⟨q,n8.mpr (.inl ⟨hq,e⟩),rfl⟩
 ·rcases n8.mp hp with⟨h,_⟩|rfl
  ·exact st.four p h
  ·exact h4
 ·rcases n8.mp hp with⟨h,_⟩|rfl
  ·exact st.qz p h
  ·exact nd
theorem Dd {aa:aF}{k:Str} (hk:k ∉ keysOf aa) {l:List Str} (h:b8 aa x l):b8 (dk aa k ps) x l:=b8.congr (fun p hp=>n8.mpr (.inl ⟨hp,fun e=>hk (bw.mpr ⟨p,hp,e⟩)⟩)) h
theorem UC {aa:aF}{k:Str} (st:cp (dk aa k ps)) (hk:k ∉ keysOf aa) (h:Ln aa x):aP (dk aa k ps) x=aP aa x:=(Dd hk h).line st
theorem VD {aa:aF} (fr:rR aa) (rk:Str->Nat) (h:∀p∈aa,∀x∈p.2,rk x < rk p.1 /\ ∃q∈aa,q.1=x):cq aa:=by
 have key:∀n,∀p∈aa,rk p.1=n->Ln aa p.1:=by
  intro n
  induction n using Nat.strongRecOn with
  |_ n ih =>
   intro p hp e;refine fr p hp fun x hx=>?_;obtain⟨lt,q,hq,rfl⟩:=h p hp x hx;exact ih _ (by omega) q hq rfl
 exact fun p hp=>key _ p hp rfl
theorem zt {aa:aF} (s:cp aa) (al:cq aa) (h:x∈keysOf aa):x∈aP aa x:=by
 obtain⟨p,hp,rfl⟩:=bw.mp h;exact((pM s al hp).1 _).mpr (.inl rfl)
theorem KO {aa told:aF}{k:Str} (ok:cp aa) (st:cp (dk aa k ps)) (al:cq aa) (bf:∀x∈ps,x∈keysOf aa) (iE:∀x∈ps,k ∉ aP aa x) (fr:rR told) (pm:told.Perm (dk aa k ps)):cq (dk aa k ps):=by
 refine(Lq st pm).mp (VD fr (fun y=>(if k∈aP aa y\/y=k then 100 else 0)+(aP aa y).length) fun p hp x hx=>?_);have h16:∀ {y},y∈keysOf aa->(aP aa y).length<=16:=fun {y} hy=>(b8.mem ok (zJ al hy)).2;have up:∃q∈told,q.1=x:=by
  obtain⟨q,hq,e⟩:=st.up p (pm.mem_iff.mp hp) x hx;exact⟨q,pm.mem_iff.mpr hq,e⟩
 refine⟨?_,up⟩;rcases n8.mp (pm.mem_iff.mp hp) with⟨h1,h2⟩|rfl
 ·have lm:=pM ok al h1
  have l1:=lm.2.1 x hx;have l2:(k∈aP aa x\/x=k)->k∈aP aa p.1:=by
   rintro(z|z)
   ·exact(lm.1 k).mpr (.inr ⟨x,hx,z⟩)
   ·obtain⟨q,hq,e⟩:=ok.up p h1 x hx
    exact(lm.1 k).mpr (.inr ⟨x,hx,by rw[<-z];exact zt ok al (bw.mpr ⟨q,hq,e⟩)⟩)
  show _+_ < _+_
  by_cases z:k∈aP aa x\/x=k
  ·rw[au z,au (.inl (l2 z))];omega
  ·rw[ao z];split <;> omega
 ·have n1:=iE x hx
  have n2 : ¬ (k∈aP aa x\/x=k):=by
   rintro(z|z)
   ·exact n1 z
   ·have:=zt ok al (bf x hx)
    rw[<-z]at n1;exact n1 this
  have:=h16 (bf x hx);show _+_ < _+_;rw[ao n2,au (.inr rfl)];omega
section
@[irreducible] def rW:Sp:=fun vs H Q _=>∃ (t:Addr) (aa:aF) (k:Str),vs = [.ref t,.str k]/\FA H t aa /\ ∀r hV H',ak H H'->H' r=some (.tup hV)->b7 H' hV (i5 aa k)->Q (.ref r) H'
theorem M8 {aa:aF}{k:Str} (ht:FA H t aa) (q:∀r hV H',ak H H'->H' r=some (.tup hV)->b7 H' hV (i5 aa k)->Q (.ref r) H'):rW [.ref t,.str k] H Q E:=by unfold rW;exact⟨t,aa,k,rfl,ht,q⟩
theorem aam:b3 ["family","kind"] ["family","kind"] (aM wg):=⟨rfl,rfl,rfl,by decide +kernel,rfl,by decide +kernel,by decide +kernel⟩
abbrev eWo:Expr:=iz (nu (cL (cA wg) 0))
theorem Oi:cj ["family","kind"] (aM wg) ["pair","kind"] [none,some 1] (cW eWo):=⟨rfl,by decide +kernel,by decide +kernel,rfl,d9 (by decide +kernel),by decide +kernel⟩
theorem YI (F:aU K "without_kind" "without_kind" wg f fd) (B:fg mg):aD P w K mg base aR 1 f fd ["family","kind"] rW:=by
 refine F.ok aam (fun vs H Q E h=>?_) (fun cdv A outer s H vs Q E hr h=>?_)
 ·unfold rW at h;obtain⟨t,aa,k,rfl,_⟩:=h;rfl
 ·unfold rW at h
  obtain⟨t,aa,k,rfl,⟨st,ws,ht,hf⟩,q⟩:=h;have hl:=st.a6;refine⟨_,aO (b9 (f7 lK rfl B.tuple boot_tuple (ae (eQ rfl Oi (pS (pv 0)) (fun s H fp=>⟨bg (i:=0) Oi.nd rfl (Or.inl rfl),i3 (b5 xh (bh (zw K rfl) (pv 0) aG (fun _ _=>rfl)) (pv 1) (cF _)),pv 0⟩)) ah))),?_⟩;have hlen:=hf.length;refine⟨_,rfl,t,rfl,⟨_,aN.of ht⟩,fun c hc=>?_⟩;refine qX (xs:=ws) (fun i ys τ H1=>∃t0:Option V,τ = [t0,some (.str k)]/\b7 H ys (i5 (aa.take i) k)/\H1=upd H c (.lst ys)) ⟨none,rfl,.nil,rfl⟩ (fun i ys τ H1 ⟨_,_,_,z⟩=>by rw[z];exact⟨af,aN.of (by rw[ai (aq ht hc)];exact ht)⟩) ?_ ?_
  ·rintro i x ys τ H1 hx ⟨t0,rfl,F1,rfl⟩
   have aT:i < ws.length:=(cu.mp hx).1;obtain⟨p,hp,a,b,rfl,ha,hb⟩:=oq hf hx;have tk:aa.take (i+1)=aa.take i ++ [p]:=by rw[dZ,hp];rfl
   refine⟨_,rfl,a,_,0,.str p.1,rfl,rfl,aN.of (by rw[ai (aq ha hc)];exact ha),(show cg [V.str p.1,V.ref b] ((0:Nat):Int)=some (.str p.1) from dq rfl),_,rfl,rfl,_,rfl,?_⟩
   refine d4 (fun bS=>?_) (fun bS=>?_)
   ·have lr:p.1≠k:=fun z=>by rw[z]at bS;simp at bS
    refine⟨_,rfl,af,?_,cw_next aT ⟨_,rfl,?_,by rw[gR]⟩⟩
    ·have h1:=F1.length
     have h2:(i5 (aa.take i) k).length<=(aa.take i).length:=iY _ _;rw[dh]at h2;rw[aI];omega
    ·have e1:i5 (aa.take (i+1)) k=i5 (aa.take i) k ++ [p]:=by rw[tk];unfold i5;rw[iK,tD (by simpa using lr)];rfl
     rw[e1];exact b7.append F1 ha hb
   ·have lr:p.1=k:=by
     by_cases z:p.1=k
     ·exact z
     ·exact absurd (by simp[z]) bS
    refine cw_next aT ⟨_,rfl,?_,rfl⟩;have e1:i5 (aa.take (i+1)) k=i5 (aa.take i) k:=by rw[tk];unfold i5;rw[iK,vO (by simpa using lr)];simp
    rw[e1];exact F1
  ·rintro ys τ H1 ⟨t0,rfl,F1,rfl⟩
   rw[hlen,eF]at F1;refine⟨c,_,rfl,.inl ⟨aj.of af,fun r hr=>?_⟩⟩;have S:=(ar (o:= .lst ys) hc).trans (ar (o:= .tup ys) hr);exact q r ys _ S af (F1.same S)
@[irreducible] def rX (C:Addr):Sp:=fun vs H Q E=>∃ (t pa:Addr) (aa:aF) (k:Str) (ps:List Str),vs = [.ref t,.str k,.ref pa]/\FA H t aa/\H pa=some (.tup (ps.map V.str))/\cp (dk aa k ps) /\
 (¬ cq (dk aa k ps) -> ∀a H',ak H H'->qf C H' a->E (.ref C) (some a) H') /\ ∀t' told H',ak H H'->FA H' t' told->told.Perm (dk aa k ps)->yE told->rR told->Q (.ref t') H'
theorem M9 {pa:Addr}{aa:aF}{k:Str} (ht:FA H t aa) (hp:H pa=some (.tup (ps.map V.str))) (st:cp (dk aa k ps)) (qn : ¬ cq (dk aa k ps) -> ∀a H',ak H H'->qf C H' a->E (.ref C) (some a) H')
  (q:∀t' told H',ak H H'->FA H' t' told->told.Perm (dk aa k ps)->yE told->rR told->Q (.ref t') H'):rX C [.ref t,.str k,.ref pa] H Q E:=by
 unfold rX;exact⟨t,pa,aa,k,ps,rfl,ht,hp,st,qn,q⟩
abbrev nWp:List Str:= ["family","kind","parents","told"]
theorem Oj:b3 nWp ["family","kind","parents"] (aM D2):=⟨rfl,rfl,rfl,by decide +kernel,rfl,by decide +kernel,by decide +kernel⟩
theorem YJ (F:aU K "with_parents" "with_parents" D2 f fd) (B:fg mg) (B2:km mg) (GW:aD P w K mg base aR 1 fW dW ["family","kind"] rW) (kW:keepIn K (.ref fW)=true) (bW:Binds K dW ["family","kind"] []) (mW:mg "without_kind" = some (.ref fW))
  (GL:aD P w K mg base (a8 P w) 5 fL dL ["family"] (ou C)) (kL:keepIn K (.ref fL)=true) (bL:Binds K dL ["family"] []) (mL:mg "lines_of" = some (.ref fL)):aD P w K mg base (a8 P w) 6 f fd ["family","kind","parents"] (rX C):=by
 refine F.jm Oj (fun vs H Q E h=>?_) (fun cdv A outer s H vs Q E hr h=>?_)
 ·unfold rX at h;obtain⟨t,pa,aa,k,ps,rfl,_⟩:=h;rfl
 ·unfold rX at h
  obtain⟨t,pa,aa,k,ps,rfl,ht,hp,st,qn,q⟩:=h;have kT:aS 5 _:=hr;have cJ:aS 1 _:=kT.mono (by decide)
  refine⟨_,aB (aZ (i:=3) Oj.nd rfl (Or.inl rfl) (f7 lK rfl B.tuple boot_tuple (ae (ck Sa rfl B2.sorted boot_sorted (ae (cG LJ (aQ GW cJ rfl mW kW bW .nil a7 (ae (pv 0) (ae (pv 1) ah))) (d7 (ae (d7 (ae (pv 1) (ae (pv 2) ah))) ah))) ah)) ah)))
   (aB (eP (aQ GL kT rfl mL kL bL .nil eG (ae (pv 3) ah)))
   (aO (b9 (pv 3)))),?_⟩
  have a6:=st.a6;rw[show(dk aa k ps).length=(i5 aa k).length+1 from cY]at a6;refine⟨_,rfl,_,rfl,M8 ht fun r hV H1 S1 h1 F1=>?_⟩;refine⟨_,rfl,_,rfl,by show 2<=sizeLine;rw[aI];decide,fun c1 Bn=>⟨by show 1<=sizeLine;rw[aI];decide,fun c2 gj=>?_⟩⟩
  have T1:=ar (o:= .tup [V.str k,.ref pa]) Bn;have T2:=T1.trans (ar (o:= .tup [V.ref c1]) gj);have S2:=S1.trans T2;have Ax:=F1.length;refine⟨r,c2,_,_,rfl,rfl,T2 _ _ h1,af,by rw[aI];show _+1<=_;omega,fun c3 H3 S3 h3=>?_⟩
  have aan:upd (upd H1 c1 (.tup [V.str k,.ref pa])) c2 (.tup [V.ref c1]) c1=some (.tup [V.str k,.ref pa]):=by rw[ai (aq af gj)];exact af
  have F3:b7 H3 (hV ++ [.ref c1]) (dk aa k ps):=b7.append (F1.same (T2.trans S3)) (S3 _ _ aan) (S3 _ _ (S2 _ _ hp));have S03:=S2.trans S3;obtain⟨kvs,K3,ek⟩:=F3.keyed;refine⟨c3,_,kvs,1,rfl,.inr (aN.of h3),K3,aK _,by rw[ek];exact UB st.nd,by rw[cY,gF];omega,fun D eW eg hD gy hK sO vy=>?_⟩
  obtain⟨told,hW,F4⟩:=Jy gy F3;rw[JU F4 hK]at vy;have so:yE told:=by
   unfold yE;rw[BZ]at vy ⊢;exact vy.imp fun {a b} z=>by rw[Wg]at z;exact z
  have SD:=ar (o:= .lst eW) hD;refine⟨D,eW,rfl,.inl ⟨aj.of af,fun t' ht'=>?_⟩⟩;have St:=SD.trans (ar (o:= .tup eW) ht');have Qg:=S03.trans St;have F5:=b7.same F4 St;have gW:=st.perm hW;refine⟨_,rfl,zB af F5 gW (fun na a H5 S5 r5=>qn (fun z=>na ((Lq st hW).mpr z)) a H5 (Qg.trans S5) r5) fun d gJ H5 hd S5 h5 _ fr _=>?_⟩;exact⟨_,rfl,q t' told H5 (Qg.trans S5) ⟨gW,eW,S5 _ _ af,F5.same S5⟩ hW so fr⟩
@[irreducible] def uB (K:Frag) (f:Str):Sp:=fun vs H Q _=>∃ (a C:Addr) (k:V) (i:Option Value),vs = [.ref a,k]/\H a=some (bE C none a)/\df K C/\dj K C i=true/\ke H k/\findIn K (.ref C) f=some none /\
 ∀d H',H d=none->d≠a->H' a=some (bE C (some d) a)->H' d=some (dv d [(f,k)])->xF a H H'->Q .ax H'
theorem XH:b3 ["self","way"] ["self","way"] (aM rB):=⟨rfl,rfl,rfl,by decide +kernel,rfl,by decide +kernel,by decide +kernel⟩
theorem VE (F:aU K "__init__" "Round.__init__" rB f fd) (b:rA K B) (mB:mg "LineError" = some (.ref B)):aD P w K mg base aR 1 f fd ["self","way"] (uB K "way"):=by
 refine F.ok XH (fun vs H Q E h=>?_) (fun cdv A outer s H vs Q E hr h=>?_)
 ·unfold uB at h;obtain⟨a,C,k,i,rfl,_⟩:=h;rfl
 ·unfold uB at h
  obtain⟨a,C,k,i,rfl,ha,c,qi,fk,nk,q⟩:=h;have hu:=hr.units;have hg:=hr.gd;refine⟨_,aB (eP (Cd b rfl mB (ae (pv 0) (ae (wz (jE eT (jE (rz hu hg (pv 1)) wK))) ah)))) (aO (Dk (pv 0) (pv 1))),?_⟩;refine⟨_,rfl,⟨_,rfl,by decide +kernel⟩,_,rfl,fk,fun y1 mh=>⟨⟨_,rfl,mh⟩,fun y hy=>?_⟩⟩
  refine⟨a,C,none,_,i,rfl,ha,c,qi,?_⟩;exact⟨_,rfl,_,rfl,a,C,rfl,ha,c,nk,fun d hd jr=>q d _ hd jr af (by rw[ai jr];exact af) (C4 hd)⟩
theorem XI {k:V}{i:Option Value}{f:Str} (ha:H a=some (bE C none a)) (xc:df K C) (qi:dj K C i=true) (fk:ke H k) (nf:findIn K (.ref C) f=some none)
  (q:∀d H',H d=none->d≠a->H' a=some (bE C (some d) a)->H' d=some (dv d [(f,k)])->xF a H H'->Q .ax H'):uB K f [.ref a,k] H Q E:=by unfold uB;exact⟨a,C,k,i,rfl,ha,xc,qi,fk,nf,q⟩
structure MF (K:Frag) (mg:Str->Option Value) (B C fI:Addr) (mq:FuncData):Prop where
 mC:mg "Round" = some (.ref C)
 q:dj K C (some (.ref fI))=true
 fn:isFn K (.ref fI)=true
 kp:keepIn K (.ref C)=true
 F:aU K "__init__" "Round.__init__" rB fI mq
 b:rA K B
 mB:mg "LineError" = some (.ref B)
 bi:Binds K mq ["self","way"] []
 x:df K C
 nw:findIn K (.ref C) "way" = some none
theorem VF {xs:List Str} (hp:H p=some (.tup (xs.map V.str))) (nm:∀x∈xs,Nm x) (a6:xs.length<=100):ke H (.ref p):=by
 have key:∀l:List Str,(∀x∈l,Nm x)->PyData.showableAll (l.map PyData.str)=true/\PyData.hasDictAll (l.map PyData.str)=false/\PyData.leavesShortAll 13 (l.map PyData.str)=true/\PyData.bulkAll (l.map PyData.str)<=9 * l.length:=by
  intro l
  induction l with
  |nil=>intro _;exact⟨rfl,rfl,rfl,aK _⟩
  |cons x l ih =>
   intro h;obtain⟨h1,h2,h3,h4⟩:=ih fun y hy=>h y (bV _ hy);have nx:=h x aV;have z1:x.cps.size<=8:=nx.hi;refine⟨?_,?_,?_,?_⟩
   ·simp only[cf,PyData.showableAll,PyData.showable,h1,B1]
   ·simp only[cf,PyData.hasDictAll,PyData.hasDict,h2,Rl]
   ·simp only[cf,PyData.leavesShortAll,PyData.leavesShort,h3,CH nx,B1]
   ·simp only[cf,PyData.bulkAll,PyData.bulk,cO];omega
 obtain⟨h1,h2,h3,h4⟩:=key xs nm;refine .inr (.inr ⟨p,.tuple (xs.map PyData.str),rfl,.tup hp (mT _ xs),h1,h2,?_,?_⟩)
 ·simp only[PyData.depth];rw[qT];decide
 ·have:=PyData.shown_le_bulk 13 (by decide) (.tuple (xs.map PyData.str)) h3
  simp only[PyData.bulk]at this;omega
def Ends (c:Nat->Addr) (r:Option Nat) (H:Hp) (Q:VK) (E:XK):Prop:=(∀i,r=some i -> ∀a H',ak H H'->hZ (c i) H' a->E (.ref (c i)) (some a) H')/\(r=none -> ∀x H',ak H H'->Q x H')
theorem qf.er (h:qf C H a):hZ C H a:=by
 obtain⟨c,C',d,kE,h1,⟨fs,h2⟩,n,h3⟩:=h;exact⟨⟨_,_,h1,fun d' e=>by cases e;exact⟨fs,h2⟩⟩,a,C,some d,rfl,.inr ⟨c,C',kE,h1,n,h3⟩⟩
def Ah:PyData->List Str|.tuple ds=>ds.map strOf|_=>[]
theorem CL (ps:List Str):Ah (.tuple (ps.map PyData.str))=ps:=by
 show(ps.map PyData.str).map strOf=ps;rw[pI];exact RS ps
open Classical in
noncomputable def gH (aa:aF) (d e:PyData):Option Nat:=if de d=false then some 0 else if bt aa d=true then some 3 else if fc aa e=false then some 2 else if cq (dk aa (strOf d) (Ah e)) then none else some 12
open Classical in
noncomputable def i6 (aa:aF) (d e:PyData):Option Nat:=if bt aa d=false then some 1 else if fc aa e=false then some 2 else if (∃x∈Ah e,strOf d∈aP aa x) then some 13 else if cq (dk aa (strOf d) (Ah e)) then none else some 12
open Classical in
noncomputable def nO (aa:aF) (d:PyData):Option Nat:=if bt aa d=false then some 1 else if iq aa (strOf d) = [] then none else some 4
theorem Md (r:Dt p H v (.tuple (ps.map PyData.str))):∃a,v = .ref a/\H a=some (.tup (ps.map V.str)):=by
 obtain⟨a,vs,rfl,_,ha,rs⟩:=DP r;rw[C9 rs]at ha;exact⟨a,rfl,ha⟩
theorem De (h:eI x=true):Nm x:=by
 unfold eI at h;simp only[jA,Ji,iW]at h;exact⟨h.1,h.2.1,fun c hc=>h.2.2 c hc⟩
@[irreducible] def uK (c:Nat->Addr):Sp:=fun vs H Q E=>∃ (p t:Addr) (aa:aF) (v u:V) (d e:PyData),vs = [.ref t,v,u]/\FA H t aa/\cq aa/\aa.length<=14/\Dt p H v d/\Bk d/\Dt p H u e/\Bk e/\Ends c (gH aa d e) H Q E
theorem YK {aa:aF}{u:V}{d e:PyData} (ht:FA H t aa) (al:cq aa) (hl:aa.length<=14) (rd:Dt p H v d) (bd:Bk d) (re:Dt p H u e) (be:Bk e) (q:Ends c (gH aa d e) H Q E):uK c [.ref t,v,u] H Q E:=by unfold uK;exact⟨p,t,aa,v,u,d,e,rfl,ht,al,hl,rd,bd,re,be,q⟩
theorem aao:b3 ["family","kind","parents"] ["family","kind","parents"] (aM D1):=⟨rfl,rfl,rfl,by decide +kernel,rfl,by decide +kernel,by decide +kernel⟩
theorem YL {dC dK:FuncData} (F:aU K "kind_made" "kind_made" D1 f fd) (T:mZ K mg "Taken" (c 3)) (GC:aD P w K mg base (a8 P w) 2 fC dC ["thing"] (uz (c 0))) (kC:keepIn K (.ref fC)=true) (bC:Binds K dC ["thing"] []) (mC:mg "check_name" = some (.ref fC))
  (GK:aD P w K mg base aR 2 fK dK ["family","thing"] pV) (kK:keepIn K (.ref fK)=true) (bK:Binds K dK ["family","thing"] []) (mK:mg "is_kind" = some (.ref fK))
  (GQ:aD P w K mg base (a8 P w) 4 fQ dQ ["family","thing"] (rV (c 2))) (kQ:keepIn K (.ref fQ)=true) (bQ:Binds K dQ ["family","thing"] []) (mQ:mg "check_parents" = some (.ref fQ))
  (GW:aD P w K mg base (a8 P w) 6 fW dW ["family","kind","parents"] (rX (c 12))) (kW:keepIn K (.ref fW)=true) (bW:Binds K dW ["family","kind","parents"] []) (mW:mg "with_parents" = some (.ref fW)):aD P w K mg base (a8 P w) 7 f fd ["family","kind","parents"] (uK c):=by
 refine F.jm aao (fun vs H Q E h=>?_) (fun cdv A outer s H vs Q E hr h=>?_)
 ·unfold uK at h;obtain⟨p,t,aa,v,u,d,e,rfl,_⟩:=h;rfl
 ·unfold uK at h
  obtain⟨p,t,aa,v,u,d,e,rfl,ht,al,hl,rd,bd,re,be,q⟩:=h;have ju:aS 6 _:=hr;have pz:aS 4 _:=ju.mono (by decide)
  have iS:aS 2 _:=ju.mono (by decide)
  have hu:=hr.units;have hg:=hr.gd;refine⟨_,aB (eP (aQ GC iS rfl mC kC bC .nil eG (ae (pv 1) ah)))
   (aB (fj (i7 (aQ GK iS rfl mK kK bK .nil a7 (ae (pv 0) (ae (pv 1) ah)))) (aO (qV (wA T.q T.kp rfl T.m (ae (wz (jE eT (jE (rz hu hg (pv 1)) wK))) ah)))) fu)
   (aB (eP (aQ GQ pz rfl mQ kQ bQ .nil eG (ae (pv 0) (ae (pv 2) ah))))
   (aO (b9 (aQ GW ju rfl mW kW bW .nil eG (ae (pv 0) (ae (pv 1) (ae (pv 2) ah)))))))),?_⟩
  refine⟨_,rfl,XB rd bd (fun hn H1 S1=>?_) (fun z=>q.1 0 (by unfold gH;rw[au z]))⟩
  have fo : ¬ de d=false:=by simp[hn]
  obtain⟨x,rfl⟩:∃x,d = .str x:=⟨_,zE hn⟩;obtain rfl:=lU rd;refine⟨_,rfl,_,rfl,Dx (ht.same S1) (Dt.same rd S1) bd fun H2 S2=>⟨_,rfl,?_⟩⟩;have S2:=S1.trans S2;cases hk:bt aa (.str x) with
  |true =>
   refine⟨⟨_,rfl,by decide +kernel⟩,_,rfl,.inl ⟨x,rfl,bd.sm.str x rfl⟩,fun y hy=>⟨⟨_,rfl,hy⟩,fun z hz=>⟨by show 1<=100;decide,fun e he=>?_⟩⟩⟩
   refine⟨e,c 3,none,none,rfl,af,(fun d ed=>by cases ed),T.x,T.q,S2.free he,?_⟩
   refine q.1 3 (by unfold gH;rw[ao fo,au hk]) e _ (fun b o hb=>?_) (.plain af)
   have nb:b≠e:=aq (S2 _ _ hb) he;rw[ai nb,ai nb];exact S2 _ _ hb
  |false =>
  have gY : ¬ bt aa (.str x)=true:=by rw[hk];exact cX
  refine⟨_,rfl,_,rfl,M7 (ht.same S2) (Dt.same re S2) be (fun hp H3 S3=>?_) (fun z a H' S=>q.1 2 (by unfold gH;rw[ao fo,ao gY,au z]) a H' (S2.trans S))⟩
  have jU : ¬ fc aa e=false:=by simp[hp]
  have S3:=S2.trans S3;obtain⟨ps,rfl,qz,h4,bf⟩:=DQ hp;obtain⟨pa,rfl,iH⟩:=Md re;have st:=Dc ht.1 hl (De hn) qz h4 bf;have em:∀r,(cq (dk aa x ps)->r=none)->(¬ cq (dk aa x ps)->r=some 12)->gH aa (.str x) (.tuple (ps.map PyData.str))=r:=fun r h1 h2=>by
   unfold gH;rw[ao fo,ao gY,ao jU,CL,show strOf (.str x)=x from rfl];split
   ·exact(h1 ‹_›).symm
   ·exact(h2 ‹_›).symm
  have nkx:x ∉ keysOf aa:=fun z=>by rw[mU ht.1 z]at hk;cases hk
  refine⟨_,rfl,_,rfl,_,rfl,M9 (ht.same S3) (S3 _ _ iH) st (fun na a H4 S4 r4=>q.1 12 (em _ (fun z=>absurd z na) fun _=>rfl) a H4 (S3.trans S4) r4.er) fun t' told H4 S4 ft pm so fr=>?_⟩;have aw:=KO ht.1 st al bf (fun y hy z=>nkx ((b8.mem ht.1 (zJ al (bf y hy))).1 _ z)) fr pm;exact q.2 (em _ (fun _=>rfl) fun z=>absurd aw z) _ H4 (S3.trans S4)
@[irreducible] def uL (c:Nat->Addr):Sp:=fun vs H Q E=>∃ (p t:Addr) (aa:aF) (v u:V) (d e:PyData),vs = [.ref t,v,u]/\FA H t aa/\cq aa/\aa.length<=14/\Dt p H v d/\Bk d/\Dt p H u e/\Bk e/\Ends c (i6 aa d e) H Q E
theorem YM {aa:aF}{u:V}{d e:PyData} (ht:FA H t aa) (al:cq aa) (hl:aa.length<=14) (rd:Dt p H v d) (bd:Bk d) (re:Dt p H u e) (be:Bk e) (q:Ends c (i6 aa d e) H Q E):uL c [.ref t,v,u] H Q E:=by unfold uL;exact⟨p,t,aa,v,u,d,e,rfl,ht,al,hl,rd,bd,re,be,q⟩
abbrev nKc:List Str:= ["family","kind","parents","parent","way"]
theorem EU:b3 nKc ["family","kind","parents"] (aM C0):=⟨rfl,rfl,rfl,by decide +kernel,rfl,by decide +kernel,by decide +kernel⟩
theorem YN {B0 fY:Addr}{dI dC dY:FuncData} (F:aU K "kind_changed" "kind_changed" C0 f fd) (T:MF K mg B0 (c 13) fI dI) (GC:aD P w K mg base (a8 P w) 3 fC dC ["family","thing"] (lP (c 1))) (kC:keepIn K (.ref fC)=true) (bC:Binds K dC ["family","thing"] []) (mC:mg "check_kind" = some (.ref fC))
  (GQ:aD P w K mg base (a8 P w) 4 fQ dQ ["family","thing"] (rV (c 2))) (kQ:keepIn K (.ref fQ)=true) (bQ:Binds K dQ ["family","thing"] []) (mQ:mg "check_parents" = some (.ref fQ))
  (GY:aD P w K mg base (a8 P w) 6 fY dY ["family","a","b"] (rJ (c 1))) (kY:keepIn K (.ref fY)=true) (bY:Binds K dY ["family","a","b"] []) (mY:mg "way_of" = some (.ref fY))
  (GW:aD P w K mg base (a8 P w) 6 fW dW ["family","kind","parents"] (rX (c 12))) (kW:keepIn K (.ref fW)=true) (bW:Binds K dW ["family","kind","parents"] []) (mW:mg "with_parents" = some (.ref fW)):aD P w K mg base (a8 P w) 7 f fd ["family","kind","parents"] (uL c):=by
 have GI:aD P w K mg base aR 1 fI dI ["self","way"] (uB K "way"):=VE T.F T.b T.mB;refine F.jm EU (fun vs H Q E h=>?_) (fun cdv A outer s H vs Q E hr h=>?_)
 ·unfold uL at h;obtain⟨p,t,aa,v,u,d,e,rfl,_⟩:=h;rfl
 ·unfold uL at h
  obtain⟨p,t,aa,v,u,d,e,rfl,ht,al,hl,rd,bd,re,be,q⟩:=h;have ju:aS 6 _:=hr;have pz:aS 4 _:=ju.mono (by decide)
  have iJ:aS 3 _:=ju.mono (by decide)
  have iS:aS 2 _:=ju.mono (by decide)
  refine⟨_,aB (eP (aQ GC iJ rfl mC kC bC .nil eG (ae (pv 0) (ae (pv 1) ah))))
   (aB (eP (aQ GQ pz rfl mQ kQ bQ .nil eG (ae (pv 0) (ae (pv 2) ah))))
   (aB (i8 B3 rfl (pS (pv 2)) (bg (i:=3) EU.nd rfl (Or.inl rfl))
    (aB (aZ (i:=4) EU.nd rfl (Or.inl rfl) (aQ GY ju rfl mY kY bY .nil eG (ae (pv 0) (ae (pv 3) (ae (pv 1) ah)))))
    (aO (fj (b5 VP (pv 4) jF (cF _)) (aO (qV (LG T.q T.fn T.kp GI iS T.bi a7 rfl T.mC (ae (pv 4) ah)))) fu))))
   (aO (b9 (aQ GW ju rfl mW kW bW .nil eG (ae (pv 0) (ae (pv 1) (ae (pv 2) ah)))))))),?_⟩
  refine⟨_,rfl,_,rfl,qY ht rd bd (fun hk H1 S1=>?_) (fun z=>q.1 1 (by unfold i6;rw[au z]))⟩
  have gY : ¬ bt aa d=false:=by simp[hk]
  obtain⟨k,rfl,nN⟩:=pQ hk;obtain rfl:=lU rd;refine⟨_,rfl,_,rfl,M7 (ht.same S1) (Dt.same re S1) be (fun hp H2 S2=>?_) (fun z a H' S=>q.1 2 (by unfold i6;rw[ao gY,au z]) a H' (S1.trans S))⟩
  have jU : ¬ fc aa e=false:=by simp[hp]
  have S2:=S1.trans S2;obtain⟨ps,rfl,qz,h4,bf⟩:=DQ hp;obtain⟨pa,rfl,iH⟩:=Md re;have jl:=S2 _ _ iH;have ec:∀r,((∃x∈ps,k∈aP aa x)->r=some 13)->(¬ (∃x∈ps,k∈aP aa x)->cq (dk aa k ps)->r=none)->(¬ (∃x∈ps,k∈aP aa x) -> ¬ cq (dk aa k ps)->r=some 12)->i6 aa (.str k) (.tuple (ps.map PyData.str))=r:=fun r h1 h2 h3=>by
   unfold i6;rw[ao gY,ao jU,CL,show strOf (.str k)=k from rfl];split
   ·exact(h1 ‹_›).symm
   ·split
    ·exact(h2 ‹_› ‹_›).symm
    ·exact(h3 ‹_› ‹_›).symm
  refine⟨_,rfl,pa,rfl,⟨_,aN.of jl⟩,VO (xs:=ps.map V.str) (fun i σ H3=>∃v3 v4:Option V,σ = [some (.ref t),some (.str k),some (.ref pa),v3,v4]/\ak H2 H3 /\ ∀x∈ps.take i,k ∉ aP aa x) ⟨none,none,rfl,ak.refl _,fun x hx=>by cases hx⟩ (fun i σ H3 _ ⟨_,_,_,z,_⟩=>aN.of (z _ _ jl)) ?_ ?_⟩
  ·rintro i x σ H3 hx ⟨v3,v4,rfl,S3,iE⟩
   have cC:i < (ps.map V.str).length:=(cu.mp hx).1;have gk:i < ps.length:=by simpa using cC
   obtain rfl:V.str ps[i]=x:=by simpa [gk] using hx
   have hm:=iX gk;have sY:=S2.trans S3;have bs:∀y,y∈keysOf aa->Bk (.str y):=fun y hy=>cK (ht.1.lH hy).hi (by decide)
   refine⟨_,rfl,_,rfl,_,rfl,MD (p:=p) (ht.same sY) al (.str ps[i]) (bs _ (bf _ hm)) (.str k) bd (fun z=>by rw[mU ht.1 (bf _ hm),mU ht.1 nN]at z;cases z) fun a b ea eb _ _=>?_⟩
   cases ea;cases eb
   refine⟨fun Qh H4 S4=>?_,fun A2 r way H4 S4 Qi D7 hlen=>?_⟩
   ·refine⟨_,rfl,rfl,_,rfl,_,_,rfl,S3.trans S4,fun y hy=>?_⟩
    rw[dZ,b4 gk]at hy;rcases dX.mp hy with z|z
    ·exact iE y z
    ·have z:y ∈ [ps[i]]:=z
     rw[d5.mp z];exact Qh
   ·refine⟨_,rfl,rfl,_,rfl,?_⟩
    have S4:=sY.trans S4;refine⟨_,rfl,by show 1<=100;decide,fun a ha=>?_⟩
    have A8:H a=none:=S4.free ha;have nra:r≠a:=aq Qi ha;refine XI af T.x T.q (Lf (VF Qi (fun x hx=>ht.1.lH (D7 x hx)) (by rw[cY,gF];omega)) (ar ha)) T.nw fun d H5 hd jr h1 h2 kp=>⟨rfl,a,c 13,some d,_,rfl,h1,fun d' ed=>by cases ed;exact⟨_,h2⟩,T.x,T.q,A8,?_⟩
    refine q.1 13 (ec _ (fun _=>rfl) (fun z=>absurd ⟨_,hm,A2⟩ z) (fun z=>absurd ⟨_,hm,A2⟩ z)) a _ (fun b o hb=>?_) ⟨⟨_,_,af,fun d' ed=>by cases ed;exact⟨_,by rw[ai jr];exact h2⟩⟩,a,_,_,rfl,.inl af⟩
    have nb:b≠a:=aq (S4 _ _ hb) ha;rw[ai nb];exact kp b o (by rw[ai nb];exact S4 _ _ hb) nb
  ·rintro σ H3 ⟨v3,v4,rfl,S3,iE⟩
   rw[aE,eF]at iE;have nr : ¬ (∃x∈ps,k∈aP aa x):=fun⟨x,h1,h2⟩=>iE x h1 h2;have sY:=S2.trans S3;have st:=Dc ht.1 hl (ht.1.lH nN) qz h4 bf;refine⟨_,rfl,_,rfl,_,rfl,M9 (ht.same sY) (sY _ _ iH) st (fun na a H4 S4 r4=>q.1 12 (ec _ (fun z=>absurd z nr) (fun _ z=>absurd z na) fun _ _=>rfl) a H4 (sY.trans S4) r4.er) fun t' told H4 S4 ft pm so fr=>?_⟩;have aw:=KO ht.1 st al bf iE fr pm;exact q.2 (ec _ (fun z=>absurd z nr) (fun _ _=>rfl) fun _ z=>absurd aw z) _ H4 (sY.trans S4)
@[irreducible] def uM (c:Nat->Addr):Sp:=fun vs H Q E=>∃ (p t:Addr) (aa:aF) (v:V) (d:PyData),vs = [.ref t,v]/\FA H t aa/\Dt p H v d/\Bk d/\Ends c (nO aa d) H Q E
theorem YO {aa:aF}{d:PyData} (ht:FA H t aa) (rd:Dt p H v d) (bd:Bk d) (q:Ends c (nO aa d) H Q E):uM c [.ref t,v] H Q E:=by unfold uM;exact⟨p,t,aa,v,d,rfl,ht,rd,bd,q⟩
theorem aap:b3 ["family","kind"] ["family","kind"] (aM DH):=⟨rfl,rfl,rfl,by decide +kernel,rfl,by decide +kernel,by decide +kernel⟩
theorem YQ {fH:Addr}{dC dH:FuncData} (F:aU K "kind_let_go" "kind_let_go" DH f fd) (T:mZ K mg "InUse" (c 4)) (GC:aD P w K mg base (a8 P w) 3 fC dC ["family","thing"] (lP (c 1))) (kC:keepIn K (.ref fC)=true) (bC:Binds K dC ["family","thing"] []) (mC:mg "check_kind" = some (.ref fC))
  (GH:aD P w K mg base (a8 P w) 4 fH dH ["family","kind"] (rm (c 1))) (kH:keepIn K (.ref fH)=true) (bH:Binds K dH ["family","kind"] []) (mH:mg "heirs_of" = some (.ref fH))
  (GW:aD P w K mg base aR 1 fW dW ["family","kind"] rW) (kW:keepIn K (.ref fW)=true) (bW:Binds K dW ["family","kind"] []) (mW:mg "without_kind" = some (.ref fW)):aD P w K mg base (a8 P w) 5 f fd ["family","kind"] (uM c):=by
 refine F.jm aap (fun vs H Q E h=>?_) (fun cdv A outer s H vs Q E hr h=>?_)
 ·unfold uM at h;obtain⟨p,t,aa,v,d,rfl,_⟩:=h;rfl
 ·unfold uM at h
  obtain⟨p,t,aa,v,d,rfl,ht,rd,bd,q⟩:=h;have pz:aS 4 _:=hr;have iJ:aS 3 _:=pz.mono (by decide)
  have cJ:aS 1 _:=pz.mono (by decide)
  have hu:=hr.units;have hg:=hr.gd;refine⟨_,aB (eP (aQ GC iJ rfl mC kC bC .nil eG (ae (pv 0) (ae (pv 1) ah))))
   (aB (fj (qW (aQ GH pz rfl mH kH bH .nil eG (ae (pv 0) (ae (pv 1) ah))) (fun _=>rfl)) (aO (qV (wA T.q T.kp rfl T.m (ae (wz (jE eT (jE (rz hu hg (pv 1)) wK))) ah)))) fu)
   (aO (b9 (aQ GW cJ rfl mW kW bW .nil a7 (ae (pv 0) (ae (pv 1) ah)))))),?_⟩
  refine⟨_,rfl,_,rfl,qY ht rd bd (fun hk H1 S1=>?_) (fun z=>q.1 1 (by unfold nO;rw[au z]))⟩
  have gY : ¬ bt aa d=false:=by simp[hk]
  refine⟨_,rfl,_,rfl,Lo (ht.same S1) (Dt.same rd S1) bd (fun z=>absurd z gY) fun k ek nN l ss H2 S2 h2 pm=>?_⟩;subst ek;obtain rfl:=lU rd;have S2:=S1.trans S2;refine⟨_,.inl ⟨_,aj.of h2,rfl⟩,?_⟩;have nk:=ht.1.lH nN;refine d4 (fun bS=>?_) (fun bS=>?_)
  ·refine⟨⟨_,rfl,by decide +kernel⟩,_,rfl,.inl ⟨k,rfl,cK nk.hi (by decide)⟩,fun y hy=>⟨⟨_,rfl,hy⟩,fun z hz=>⟨by show 1<=100;decide,fun e he=>?_⟩⟩⟩
   refine⟨e,c 4,none,none,rfl,af,(fun d ed=>by cases ed),T.x,T.q,S2.free he,?_⟩
   have nz : ¬ iq aa (strOf (.str k)) = []:=fun z0=>by
    have z0:iq aa k = []:=z0;rw[z0]at pm;rw[pm.eq_nil]at bS;exact absurd bS cX
   refine q.1 4 (by unfold nO;rw[ao gY,ao nz]) e _ (fun b o hb=>?_) (.plain af)
   ·have nb:b≠e:=aq (S2 _ _ hb) he
    rw[ai nb,ai nb];exact S2 _ _ hb
  ·have e0:iq aa k = []:=by
    cases ss with
    |nil=>exact pm.symm.eq_nil
    |cons _ _=>exact absurd rfl bS
   refine⟨_,rfl,_,rfl,M8 (ht.same S2) fun r hV H3 S3 h3 F3=>?_⟩;exact q.2 (by unfold nO;rw[ao gY,au (show iq aa (strOf (.str k)) = [] from e0)]) _ H3 (S2.trans S3)
end
def cV:Expr->Option V
 |.Constant .none _ _=>some .ax
 |.Constant (.bool b) _ _=>some (.bl b)
 |.Constant (.int i) _ _=>some (.int i)
 |.Constant (.str x) _ _=>some (.str x)
 |.UnaryOp .USub (.Constant (.int i) _ _) _=>some (.int (-i))
 |_=>none
theorem M' (h:cV e=some v):PE X e (tC v):=by
 unfold cV at h;split at h
 ·cases h;exact jF
 ·cases h;exact iu
 ·cases h;exact aG
 ·cases h;exact eT
 ·cases h;exact fun pins s σ H Q I q=>xg wJ aG pins s σ H Q I ⟨_,rfl,q⟩
 ·cases h
theorem Lr (h:cV e=some v):starEach (e::es) X.env=(false,eval e X.env)::starEach es X.env:=by
 unfold cV at h;split at h <;> first|rfl|cases h
theorem KP {rest:List Expr}{t:TA} (hr:PA X rest t):∀ {es:List Expr}{vs:List V},es.map cV=vs.map some->PA X (es++rest) (fun σ H Q=>t σ H fun xs H2=>Q (vs++xs) H2)
 |[],[],_=>hr
 |[],v::vs,h=>by cases h
 |e::es,[],h=>by cases h
 |e::es,v::vs,h=>by
  rw[cf,cf,List.cons.injEq]at h;exact ae (M' h.1) (KP hr h.2) (Lr h.1)
def eJ:List (Nat×Str):= [(0,"NoName"),(1,"NoKind"),(2,"NoParents"),(3,"Taken"),(4,"InUse"),(5,"NoEntry"),(6,"NoThing"),(7,"NoNumber"),(8,"NotAbove"),(9,"Shut"),(10,"NoText"),(11,"NoRow"),(12,"Ring"),(13,"Round"),(14,"Missing"),(15,"Endless")]
def iC:List Nat:= [0,1,2,3,4,12,13]
structure rY (K:Frag) (mg:Str->Option Value) (c:Nat->Addr):Prop where
 n:∀p∈eJ,mg p.2=some (.ref (c p.1))
 ve:mg "ValueError" = none
 k:∀i∈iC,∀j,j < 16->kitOne K (.ref (c i)) (.ref (c j))=some (decide (i=j))
 v:∀i∈iC,kitOne K (.ref (c i)) (.type "ValueError")=some true
 x:∀i∈iC,df K (c i)
 b:∀B,mg "LineError" = some (.ref B) -> ∀i∈iC,mroIn K (c i) (.ref B)=some true
def iM:List Str:= ["name","kind","parents","taken","use","entry","thing","number","above","shut","text","row","ring","round","missing","endless","other"]
def wZ (i:Nat):List Bool:=(List.range 16).map (fun j=>decide (i=j)) ++ [false]
theorem WH:bootBuiltins "ValueError" = some (.type "ValueError"):=by decide +kernel
section
structure nQ (K:Frag) (c:Nat->Addr) (H:Hp) (x:Option Value) (a:Addr) (i:Nat):Prop where
 ob:∃n dx,H a=some (ee n (c i) dx a) /\ ∀d,dx=some d -> ∃fs,H d=some (dv d fs)
 cl:df K (c i)
 it:i∈iC
 hx:x=some (.ref a)
 tl:m6 H x
theorem nQ.same {x:Option Value} (h:nQ K c H x a i) (s:ak H H'):nQ K c H' x a i:=
 ⟨let ⟨n,dx,e,r⟩:=h.ob;⟨n,dx,s _ _ e,fun d ed=>let ⟨fs,z⟩:=r d ed;⟨fs,s _ _ z⟩⟩,h.cl,h.it,h.hx,h.tl.same s⟩
theorem nQ.of (T:rY K mg c) (h:hZ (c i) H a) (hi:i∈iC):nQ K c H (some (.ref a)) a i:=⟨h.1,T.x i hi,hi,rfl,h.2⟩
theorem aaq {x:Option Value} (T:rY K mg c) (h:nQ K c H x a i) (hj:j < 16) (q:Q (.bl (decide (i=j))) H):MW K [.ref a,.ref (c j)] H Q:=by
 obtain⟨n,dx,e,r⟩:=h.ob;exact⟨a,n,c i,dx,.ref (c j),.ref (c j),_,rfl,.inl ⟨_,rfl,rfl⟩,e,h.cl,r,T.k i h.it j hj,q⟩
@[irreducible] def uN (K:Frag) (c:Nat->Addr):Option Value->Sp:=fun x vs H Q _=>∃ (a:Addr) (i:Nat),vs = [.ref a]/\nQ K c H x a i /\ ∀l H',ak H H'->H' l=some (.lst [.str (iM.getD i "")])->Q (.ref l) H'
theorem YR {x:Option Value} (h:nQ K c H x a i) (q:∀l H',ak H H'->H' l=some (.lst [.str (iM.getD i "")])->Q (.ref l) H'):uN K c x [.ref a] H Q E:=by unfold uN;exact⟨a,i,rfl,h,q⟩
abbrev Hy:List Str:= ["_law_e","_law_some","_law_words"]
theorem rZ:b3 Hy ["_law_e"] (aM oh):=⟨rfl,rfl,rfl,by decide +kernel,rfl,by decide +kernel,by decide +kernel⟩
abbrev eCl:Expr:=nu (cL (cA oh) 7)
theorem EV:cj Hy (aM oh) ["_law_word","_law_truth"] [none,none] (cW eCl):=⟨rfl,by decide +kernel,by decide +kernel,rfl,d9 (by decide +kernel),by decide +kernel⟩
def picked (i n:Nat):List Str:=((iM.zip (wZ i)).take n).filterMap fun p=>if p.2=true then some p.1 else none
theorem Tu:∀i,i < 16->picked i 17 = [iM.getD i ""]:=by decide +kernel
def zR (e:Expr):List Expr:=match e with|.List es _=>es|_=>[]
def lstP (e:Expr):Pos:=match e with|.List _ p=>p|_=>⟨0,0,0,0⟩
def EW (s:Stmt):Pos:=match s with|.Assign _ _ p=>p|_=>⟨0,0,0,0⟩
def EX (s:Stmt):List Expr:=match s with|.Assign t _ _=>t|_=>[]
def Ol (e:Expr):Expr:=match e with|.BinOp _ _ b _=>b|_=>.Constant .none 0 ⟨0,0,0,0⟩
def YS (e:Expr):Expr:=match e with|.BinOp a _ _ _=>a|_=>.Constant .none 0 ⟨0,0,0,0⟩
def aar (e:Expr):Pos:=match e with|.BinOp _ _ _ p=>p|_=>⟨0,0,0,0⟩
abbrev SC (k:Nat):Stmt:=cL (cA oh) k
@[irreducible] def jv (k:Nat):List Expr:=match k with|0=>zR (fb (SC 0))|5=>zR (fb (SC 5))|k=>zR (Ol (fb (SC k)))
abbrev sA (k:Nat):Stmt:= .Assign (EX (SC k)) (.List (jv k) (lstP (fb (SC k)))) (EW (SC k))
abbrev sB (k:Nat):Stmt:= .Assign (EX (SC k)) (.BinOp (YS (fb (SC k))) .Add (.List (jv k) (lstP (Ol (fb (SC k))))) (aar (fb (SC k)))) (EW (SC k))
theorem bdC:cA oh = [sA 0,sB 1,sB 2,sB 3,SC 4,sA 5,sB 6,SC 7]:=by unfold sA sB jv;rfl
def EY (x:Str) (e:Expr):Bool:=match e with|.Call (.Name g _) [.Name y _,.Name z _] [] _=>g == "isinstance" && y == "_law_e" && z==x|_=>false
def uO:List (Nat×Str)->List Expr->Bool
 |[],[]=>true
 |p::js,e::es=>EY p.2 e && uO js es
 |_,_=>false
theorem ch0:uO (eJ.take 4) (jv 0)=true:=by unfold jv;decide +kernel
theorem ch1:uO ((eJ.drop 4).take 4) (jv 1)=true:=by unfold jv;decide +kernel
theorem ch2:uO ((eJ.drop 8).take 4) (jv 2)=true:=by unfold jv;decide +kernel
theorem ch3:uO ((eJ.drop 12).take 4) (jv 3)=true:=by unfold jv;decide +kernel
theorem chA:(jv 5).map cV=((iM.take 12).map V.str).map some:=by unfold jv;decide +kernel
theorem chB:(jv 6).map cV=((iM.drop 12).map V.str).map some:=by unfold jv;decide +kernel
theorem Df (h:es.map cV=vs.map some):PA X es (fun _ H Q=>Q vs H):=by
 have:=KP (X:=X) ah h;rw[fh]at this;exact fun pos pins s σ H Q I q=>this pos pins s σ H Q I (by show Q (vs ++ []) H;rw[fh];exact q)
abbrev vz (P:Program) (w:World) (K:Frag) (mg:Str->Option Value) (base:Heap) (f:Addr) (cdv:Value) (A:Around) (outer:List Env) (s:Shared) (H:Hp) (E:XK):Cx:=uq P w K mg base Hy "_law_classes" (aM oh) f cdv A outer s H E
section
variable{s0:Shared}{H0:Hp}{E0:XK}
def tI (K:Frag) (c:Nat->Addr) (x:Option Value) (js:List (Nat×Str)):TA:=fun σ H Q=>∃a i,σ[0]? = some (some (.ref a))/\nQ K c H x a i/\Q (js.map fun p=>.bl (decide (i=p.1))) H
theorem glC:∀p∈eJ,(aM oh).names.lookup p.2=some .globalImplicit/\(p.2==("__debug__" : Str))=false/\p.1 < 16:=by decide +kernel
theorem XJ (B2:km mg) (T:rY K mg c) {p:Nat×Str} (hp:p∈eJ) (h:EY p.2 e=true) :
  PE (vz P w K mg base f cdv A outer s0 H0 E0) e (fun σ H Q=>∃a i,σ[0]? = some (some (.ref a))/\nQ K c H A.handled a i/\Q (.bl (decide (i=p.1))) H) /\ ∀es,starEach (e::es) (vz P w K mg base f cdv A outer s0 H0 E0).env=(false,eval e (vz P w K mg base f cdv A outer s0 H0 E0).env)::starEach es (vz P w K mg base f cdv A outer s0 H0 E0).env:=by
 unfold EY at h;split at h
 ·rename_i g p0 y p1 z p2 p3
  simp only[jA,eN]at h;obtain⟨⟨rfl,rfl⟩,rfl⟩:=h;obtain⟨hg,hd,lt⟩:=glC p hp;have h0:PE (vz P w K mg base f cdv A outer s0 H0 E0) (.Call (.Name "isinstance" p0) [.Name "_law_e" p1,.Name p.2 p2] [] p3) _:=ck Kw rfl B2.yz wm (ae (pv 0) (ae (Lw (v:= .ref (c p.1)) hg (T.n p hp) rfl hd) ah));exact⟨fun pins s σ H Q I ⟨a,i,e,ct,q⟩=>h0 pins s σ H Q I ⟨_,e,aaq T ct lt q⟩,fun es=>rfl⟩
 ·cases h
theorem w4 (B2:km mg) (T:rY K mg c):∀ {js:List (Nat×Str)}{es:List Expr},uO js es=true->(∀p∈js,p∈eJ)->PA (vz P w K mg base f cdv A outer s0 H0 E0) es (tI K c A.handled js)
 |[],[],_,_=>fun pos pins s σ H Q I ⟨a,i,e,ct,q⟩=>ah pos pins s σ H Q I q
 |[],_::_,h,_=>by cases h
 |_::_,[],h,_=>by cases h
 |p::js,e::es,h,hj=>by
  obtain⟨h1,h2⟩:=jY.mp h;obtain⟨he,hs⟩:=XJ (P:=P) (w:=w) (base:=base) (f:=f) (cdv:=cdv) (A:=A) (outer:=outer) (s0:=s0) (H0:=H0) (E0:=E0) B2 T (hj p aV) h1;have hr:=w4 B2 T h2 fun q hq=>hj q (bV _ hq);refine fun pos pins s σ H Q I ⟨a,i,e,ct,q⟩=>ae he hr (hs es) pos pins s σ H Q I ⟨a,i,e,ct,?_⟩;exact⟨a,i,e,ct,q⟩
abbrev jw (i:Nat) (js:List (Nat×Str)):List V:=js.map fun p=>.bl (decide (i=p.1))
theorem zS (hl:H1 l=some (.lst xs)) (z:xs.length+ys.length<=40) (S:ak H H1) (h2:H1 l2=none) (k:∀l3 H3,ak H H3->H3 l3=some (.lst (xs++ys))->H l3=none->Q (.ref l3) H3):Nz (.ref l) (.ref l2) (upd H1 l2 (.lst ys)) Q:=
 ⟨l,l2,xs,ys,rfl,rfl,by rw[ai (aq hl h2)];exact hl,af,by rw[aI];omega,fun p hp=>k p _ (S.trans ((ar h2).trans (ar hp))) af (S.free ((ar h2).free hp))⟩
theorem YT (F:aU K "_law_classes" "_law_classes" oh f fd) (B2:km mg) (bz:mg "zip" = none) (T:rY K mg c):xl P w K mg base 1 f fd ["_law_e"] (uN K c):=by
 refine F.OV rZ (fun x vs H Q E h=>?_) (fun cdv A outer s H vs Q E hr h=>?_)
 ·unfold uN at h;obtain⟨a,i,rfl,_⟩:=h;rfl
 ·unfold uN at h
  obtain⟨a,i,rfl,ct,q⟩:=h;have in4:∀k,∀p∈(eJ.drop k).take 4,p∈eJ:=fun k p hp=>Je (y4 hp);rw[bdC];refine⟨_,aB (aZ (i:=1) rZ.nd rfl (Or.inl rfl) (a9 (w4 B2 T ch0 (in4 0))))
   (aB (aZ (i:=1) rZ.nd rfl (Or.inl rfl) (cG oA (pv 1) (a9 (w4 B2 T ch1 (in4 4)))))
   (aB (aZ (i:=1) rZ.nd rfl (Or.inl rfl) (cG oA (pv 1) (a9 (w4 B2 T ch2 (in4 8)))))
   (aB (aZ (i:=1) rZ.nd rfl (Or.inl rfl) (cG oA (pv 1) (a9 (w4 B2 T ch3 (in4 12)))))
   (aB (eP (j' mJ pJ pK kZ (pv 1) (ae (WV (ck Kw rfl B2.yz wm (ae (pv 0) (ae (zG (v:= .ty "ValueError") rfl T.ve WH rfl) ah)))) ah)))
   (aB (aZ (i:=2) rZ.nd rfl (Or.inl rfl) (a9 (Df chA)))
   (aB (aZ (i:=2) rZ.nd rfl (Or.inl rfl) (cG oA (pv 2) (a9 (Df chB))))
   (aO (b9 (Vi EV (Wk rfl bz (ae (pv 2) (ae (pv 1) ah))) (fun s H fp=>⟨Wj (n:=2) (K:=K) (hv:=A.handled) rfl rfl (j5 (bg (i:=0) EV.nd rfl (Or.inl rfl)) (j5 (bg (i:=1) EV.nd rfl (Or.inl rfl)) tZ)),i3 (i7 (pv 1)),pv 0⟩)))))))))),?_⟩
  have sz:∀n:Nat,n<=100->n<=sizeLine:=fun n h=>by rw[aI];omega
  refine⟨a,i,rfl,ct,sz 4 (by decide),fun l1 h1=>?_⟩
  have S1:=ar (o:= .lst (jw i (eJ.take 4))) h1;have e1:upd H l1 (.lst (jw i (eJ.take 4))) l1=_:=af;generalize upd H l1 (.lst (jw i (eJ.take 4)))=H1 at S1 e1 ⊢;refine⟨_,rfl,a,i,rfl,ct.same S1,sz 4 (by decide),fun l2 h2=>zS e1 (by show 8<=40;decide) S1 h2 fun l3 H3 S3 e3 _=>?_⟩
  refine⟨_,rfl,a,i,rfl,ct.same S3,sz 4 (by decide),fun l4 h4=>zS e3 (by show 12<=40;decide) S3 h4 fun l5 H5 S5 e5 _=>?_⟩
  refine⟨_,rfl,a,i,rfl,ct.same S5,sz 4 (by decide),fun l6 h6=>zS e5 (by show 16<=40;decide) S5 h6 fun l7 H7 S7 e7 hn7=>?_⟩
  refine⟨_,rfl,.inl ⟨rfl,_,aj.of e7⟩,_,rfl,?_⟩;obtain⟨nn,dx,eo,rr⟩:=(ct.same S7).ob;refine⟨a,nn,c i,dx,.ty "ValueError",.type "ValueError",true,rfl,.inr ⟨_,rfl,rfl⟩,eo,ct.cl,rr,T.v i ct.it,true,rfl,l7,_,_,rfl,rfl,e7,sz 17 (by decide),?_⟩
  have e8:upd H7 l7 (.lst (jw i (eJ.take 4)++jw i ((eJ.drop 4).take 4)++jw i ((eJ.drop 8).take 4)++jw i ((eJ.drop 12).take 4) ++ [.bl (!true)])) l7=some (.lst ((wZ i).map V.bl)):=af;have S8:ak H (upd H7 l7 (.lst (jw i (eJ.take 4)++jw i ((eJ.drop 4).take 4)++jw i ((eJ.drop 8).take 4)++jw i ((eJ.drop 12).take 4) ++ [.bl (!true)]))):=fun b o hb=>by rw[ai (aq hb hn7)];exact S7 _ _ hb
  generalize upd H7 l7 (.lst (jw i (eJ.take 4)++jw i ((eJ.drop 4).take 4)++jw i ((eJ.drop 8).take 4)++jw i ((eJ.drop 12).take 4) ++ [.bl (!true)]))=H8 at e8 S8 ⊢;refine⟨sz 12 (by decide),fun l9 h9=>?_⟩
  have S9:=ar (o:= .lst ((iM.take 12).map V.str)) h9;have e9:upd H8 l9 (.lst ((iM.take 12).map V.str)) l9=_:=af;generalize upd H8 l9 (.lst ((iM.take 12).map V.str))=H9 at S9 e9 ⊢;refine⟨_,rfl,sz 5 (by decide),fun l10 AU=>zS e9 (by show 17<=40;decide) S9 AU fun l11 Fp vA sF _=>?_⟩
  have ew:(iM.take 12).map V.str++(iM.drop 12).map V.str=iM.map V.str:=by rw[<-bj,ahN]
  rw[ew]at sF;have oY:=vA _ _ e8;have qE:=S8.trans vA;refine⟨_,rfl,_,rfl,l11,l7,rfl,⟨_,aj.of sF⟩,⟨_,aj.of oY⟩,fun p hp=>?_⟩;refine Uq (xs:=iM.map V.str) (ys:=(wZ i).map V.bl) 17 rfl (aK 17) (fun n zs τ H1=>∃t0 t1:Option V,τ = [t0,t1]/\zs=(picked i n).map V.str/\ak Fp H1/\H1 p=some (.lst zs)) ⟨none,none,rfl,rfl,ar hp,af⟩ (fun n zs τ H1 ⟨_,_,_,_,z1,z2⟩=>⟨z2,aj.of (z1 _ _ sF),aj.of (z1 _ _ oY),(ct.tl.same qE).same z1⟩) ?_ ?_
  ·rintro n x y zs τ H1 t hx hy ⟨t0,t1,rfl,rfl,Hz,yF⟩ ht
   have hl:n < 17:=(cu.mp hx).1;have hw:∃wd,iM[n]? = some wd/\x = .str wd:=by
    rw[f6]at hx;obtain⟨wd,h1,h2⟩:=iV.mp hx;exact⟨wd,h1,h2.symm⟩
   have hb:∃b,(wZ i)[n]? = some b/\y = .bl b:=by
    rw[f6]at hy;obtain⟨b,h1,h2⟩:=iV.mp hy;exact⟨b,h1,h2.symm⟩
   obtain⟨wd,hw,rfl⟩:=hw;obtain⟨b,hb,rfl⟩:=hb;have ep:picked i (n+1)=picked i n++if b=true then [wd] else []:=by
    unfold picked;rw[dZ,ah0 (z:=(wd,b)) |>.mpr ⟨hw,hb⟩,List.filterMap_append];cases b <;> rfl
   have lp:(picked i n).length<=17:=by
    have h1:(picked i n).length<=((iM.zip (wZ i)).take n).length:=BQ _ _;rw[dh]at h1;omega
   have St:=Hz.trans (ar (o:= .tup [V.str wd,.bl b]) ht);refine⟨t,_,rfl,aN.of af,rfl,(ct.tl.same qE).same St,_,_,rfl,_,_,rfl,rfl,?_⟩;refine⟨_,rfl,b,rfl,?_⟩;have Qj:upd H1 t (.tup [V.str wd,.bl b]) p=some (.lst ((picked i n).map V.str)):=by rw[ai (aq yF ht)];exact yF
   cases b with
   |true =>
    refine⟨_,rfl,Qj,by rw[aE,aI];omega,cw_next hl ⟨_,_,rfl,?_,fun b o hb=>?_,af⟩⟩
    ·rw[ep,bj];rfl
    ·rw[ai (aq hb hp)];exact St _ _ hb
   |false=>exact cw_next hl ⟨_,_,rfl,by rw[ep];simp,St,Qj⟩
  ·rintro zs τ H1 ⟨t0,t1,rfl,rfl,Hz,yF⟩
   rw[Tu i ((show ∀i∈iC,i < 16 by decide) i ct.it)]at yF
   exact q p H1 (qE.trans Hz) yF
end
end
theorem gG {c:Expr}{pos p2} (hc:PT X c tc) (he:PE X e te):PS X (.If c [.Return (some e) p2] [] pos) (Ni tc (D9 te) MJ):=fj hc (aO (b9 he)) fu
theorem ua {p2} (he:PE X e te):gC X [.Return (some e) p2] (D9 te):=aO (b9 he)
def nc (aa:aF) (d:PyData):Option Nat:=if bt aa d=true then none else some 1
def qg (aa:aF) (d e:PyData):Option Nat:=if (bt aa d && bt aa e)=true then none else some 1
inductive eZ (p:Addr) (H:Hp) (aa:aF):Str->Addr->Option Nat->Prop where
 |line {s:Addr}{v:V}{d:PyData}:H s=some (.lst [v])->Dt p H v d->Bk d->eZ p H aa "line" s (nc aa d)
 |beneath {s:Addr}{v:V}{d:PyData}:H s=some (.lst [v])->Dt p H v d->Bk d->eZ p H aa "beneath" s (nc aa d)
 |xr {s:Addr}{v:V}{d:PyData}:H s=some (.lst [v])->Dt p H v d->Bk d->eZ p H aa "heirs" s (nc aa d)
 |xt {s:Addr}{v:V}{d:PyData}:H s=some (.lst [v])->Dt p H v d->Bk d->eZ p H aa "let go" s (nO aa d)
 |way {s:Addr}{v:V}{d:PyData}{u:V}{e:PyData}:H s=some (.tup [v,u])->Dt p H v d->Bk d->Dt p H u e->Bk e->eZ p H aa "way" s (qg aa d e)
 |made {s:Addr}{v:V}{d:PyData}{u:V}{e:PyData}:H s=some (.lst [v,u])->Dt p H v d->Bk d->Dt p H u e->Bk e->eZ p H aa "made" s (gH aa d e)
 |changed {s:Addr}{v:V}{d:PyData}{u:V}{e:PyData}:H s=some (.lst [v,u])->Dt p H v d->Bk d->Dt p H u e->Bk e->eZ p H aa "changed" s (i6 aa d e)
theorem eZ.same {aa:aF}{s:Addr}{r:Option Nat} (h:eZ p H aa x s r) (S:ak H H'):eZ p H' aa x s r:=by
 cases h with
 |line h1 h2 h3=>exact .line (S _ _ h1) (Dt.same h2 S) h3
 |beneath h1 h2 h3=>exact .beneath (S _ _ h1) (Dt.same h2 S) h3
 |xr h1 h2 h3=>exact .xr (S _ _ h1) (Dt.same h2 S) h3
 |xt h1 h2 h3=>exact .xt (S _ _ h1) (Dt.same h2 S) h3
 |way h1 h2 h3 h4 h5=>exact .way (S _ _ h1) (Dt.same h2 S) h3 (Dt.same h4 S) h5
 |made h1 h2 h3 h4 h5=>exact .made (S _ _ h1) (Dt.same h2 S) h3 (Dt.same h4 S) h5
 |changed h1 h2 h3 h4 h5=>exact .changed (S _ _ h1) (Dt.same h2 S) h3 (Dt.same h4 S) h5
@[irreducible] def ui (c:Nat->Addr):Sp:=fun vs H Q E=>∃ (p t s:Addr) (aa:aF) (x:Str) (r:Option Nat),vs = [.str x,.ref t,.ref s]/\FA H t aa/\cq aa/\aa.length<=14/\eZ p H aa x s r/\Ends c r H Q E
theorem WI {s:Addr}{aa:aF}{r:Option Nat} (ht:FA H t aa) (al:cq aa) (hl:aa.length<=14) (i:eZ p H aa x s r) (q:Ends c r H Q E):ui c [.str x,.ref t,.ref s] H Q E:=by unfold ui;exact⟨p,t,s,aa,x,r,rfl,ht,al,hl,i,q⟩
abbrev jx:List Str:= ["_law_word","_law_family_here","_law_some"]
theorem aas:b3 jx jx (aM D3):=⟨rfl,rfl,rfl,by decide +kernel,rfl,by decide +kernel,by decide +kernel⟩
theorem tY {aa:aF}{d:PyData} (q:Ends c (nc aa d) H Q E):(bt aa d=false -> ∀a H',ak H H'->hZ (c 1) H' a->E (.ref (c 1)) (some a) H')/\(bt aa d=true -> ∀x H',ak H H'->Q x H'):=
 ⟨fun z=>q.1 1 (by unfold nc;rw[z];rfl),fun z=>q.2 (by unfold nc;rw[z];rfl)⟩
theorem WJ {fB fH fG fY:Addr}{dB dH dG dY dM dC:FuncData} (F:aU K "_law_call" "_law_call" D3 f fd)
  (GL:aD P w K mg base (a8 P w) 6 fL dL ["family","kind"] (qZ (c 1))) (kL:keepIn K (.ref fL)=true) (bL:Binds K dL ["family","kind"] []) (mL:mg "line_of" = some (.ref fL))
  (GB:aD P w K mg base (a8 P w) 6 fB dB ["family","kind"] (uA (c 1))) (kB:keepIn K (.ref fB)=true) (bB:Binds K dB ["family","kind"] []) (mB:mg "kinds_beneath" = some (.ref fB))
  (GH:aD P w K mg base (a8 P w) 4 fH dH ["family","kind"] (rm (c 1))) (kH:keepIn K (.ref fH)=true) (bH:Binds K dH ["family","kind"] []) (mH:mg "heirs_of" = some (.ref fH))
  (GG:aD P w K mg base (a8 P w) 5 fG dG ["family","kind"] (uM c)) (kG:keepIn K (.ref fG)=true) (bG:Binds K dG ["family","kind"] []) (mG:mg "kind_let_go" = some (.ref fG))
  (GY:aD P w K mg base (a8 P w) 6 fY dY ["family","a","b"] (rJ (c 1))) (kY:keepIn K (.ref fY)=true) (bY:Binds K dY ["family","a","b"] []) (mY:mg "way_of" = some (.ref fY))
  (GM:aD P w K mg base (a8 P w) 7 fM dM ["family","kind","parents"] (uK c)) (kM:keepIn K (.ref fM)=true) (bM:Binds K dM ["family","kind","parents"] []) (mM:mg "kind_made" = some (.ref fM))
  (GC:aD P w K mg base (a8 P w) 7 fC dC ["family","kind","parents"] (uL c)) (kC:keepIn K (.ref fC)=true) (bC:Binds K dC ["family","kind","parents"] []) (mC:mg "kind_changed" = some (.ref fC)) :
  aD P w K mg base (a8 P w) 8 f fd jx (ui c):=by
 refine F.jm aas (fun vs H Q E h=>?_) (fun cdv A outer s H vs Q E hr h=>?_)
 ·unfold ui at h;obtain⟨p,t,s,aa,x,r,rfl,_⟩:=h;rfl
 ·unfold ui at h
  obtain⟨p,t,s0,aa,x,r,rfl,ht,al,hl,i,q⟩:=h;have yG:aS 7 _:=hr;have ju:aS 6 _:=yG.mono (by decide)
  have kT:aS 5 _:=yG.mono (by decide)
  have pz:aS 4 _:=yG.mono (by decide)
  refine⟨_,aB (gG (b5 oE (pv 0) eT (cF _)) (aQ GL ju rfl mL kL bL .nil eG (ae (pv 1) (ae (bh cz (pv 2) aG (fun _ _=>rfl)) ah))))
   (aB (gG (b5 oE (pv 0) eT (cF _)) (aQ GB ju rfl mB kB bB .nil eG (ae (pv 1) (ae (bh cz (pv 2) aG (fun _ _=>rfl)) ah))))
   (aB (gG (b5 oE (pv 0) eT (cF _)) (aQ GH pz rfl mH kH bH .nil eG (ae (pv 1) (ae (bh cz (pv 2) aG (fun _ _=>rfl)) ah))))
   (aB (gG (b5 oE (pv 0) eT (cF _)) (aQ GG kT rfl mG kG bG .nil eG (ae (pv 1) (ae (bh cz (pv 2) aG (fun _ _=>rfl)) ah))))
   (aB (gG (b5 oE (pv 0) eT (cF _)) (aQ GY ju rfl mY kY bY .nil eG (ae (pv 1) (ae (bh pT (pv 2) aG (fun _ _=>rfl)) (ae (bh pT (pv 2) aG (fun _ _=>rfl)) ah)))))
   (aB (gG (b5 oE (pv 0) eT (cF _)) (aQ GM yG rfl mM kM bM .nil eG (ae (pv 1) (ae (bh cz (pv 2) aG (fun _ _=>rfl)) (ae (bh cz (pv 2) aG (fun _ _=>rfl)) ah)))))
   (ua (aQ GC yG rfl mC kC bC .nil eG (ae (pv 1) (ae (bh cz (pv 2) aG (fun _ _=>rfl)) (ae (bh cz (pv 2) aG (fun _ _=>rfl)) ah)))))))))),?_⟩
  cases i with
  |line h1 h2 h3 =>
   refine⟨_,rfl,rfl,_,rfl,ite_tt (cZ rfl) ?_⟩;exact⟨_,rfl,_,rfl,s0,_,0,_,rfl,rfl,aj.of h1,rT,KN ht al h2 h3 (tY q).1 fun k e hk p H' S _=>(tY q).2 (by rw[e];exact mU ht.1 hk) _ H' S⟩
  |beneath h1 h2 h3 =>
   refine⟨_,rfl,rfl,_,rfl,ite_ff (by decide +kernel) ?_⟩
   refine⟨_,rfl,rfl,_,rfl,ite_tt (cZ rfl) ?_⟩;exact⟨_,rfl,_,rfl,s0,_,0,_,rfl,rfl,aj.of h1,rT,XD ht al h2 h3 (tY q).1 (tY q).2⟩
  |xr h1 h2 h3 =>
   refine⟨_,rfl,rfl,_,rfl,ite_ff (by decide +kernel) ?_⟩
   refine⟨_,rfl,rfl,_,rfl,ite_ff (by decide +kernel) ?_⟩
   refine⟨_,rfl,rfl,_,rfl,ite_tt (cZ rfl) ?_⟩;exact⟨_,rfl,_,rfl,s0,_,0,_,rfl,rfl,aj.of h1,rT,Lo ht h2 h3 (tY q).1 fun k e hk l ss H' S _ _=>(tY q).2 (by rw[e];exact mU ht.1 hk) _ H' S⟩
  |xt h1 h2 h3 =>
   refine⟨_,rfl,rfl,_,rfl,ite_ff (by decide +kernel) ?_⟩
   refine⟨_,rfl,rfl,_,rfl,ite_ff (by decide +kernel) ?_⟩
   refine⟨_,rfl,rfl,_,rfl,ite_ff (by decide +kernel) ?_⟩
   refine⟨_,rfl,rfl,_,rfl,ite_tt (cZ rfl) ?_⟩;exact⟨_,rfl,_,rfl,s0,_,0,_,rfl,rfl,aj.of h1,rT,YO ht h2 h3 q⟩
  |@way _ v0 d0 u0 e0 h1 h2 h3 h4 h5 =>
   refine⟨_,rfl,rfl,_,rfl,ite_ff (by decide +kernel) ?_⟩
   refine⟨_,rfl,rfl,_,rfl,ite_ff (by decide +kernel) ?_⟩
   refine⟨_,rfl,rfl,_,rfl,ite_ff (by decide +kernel) ?_⟩
   refine⟨_,rfl,rfl,_,rfl,ite_ff (by decide +kernel) ?_⟩
   refine⟨_,rfl,rfl,_,rfl,ite_tt (cZ rfl) ?_⟩;refine⟨_,rfl,_,rfl,s0,_,0,_,rfl,rfl,aN.of h1,rT,_,rfl,s0,_,1,_,rfl,rfl,aN.of h1,ER,MD ht al h2 h3 h4 h5 (fun z=>q.1 1 (by unfold qg;rw[z];rfl)) fun a b ea eb ha hb=>?_⟩
   have ew:qg aa d0 e0=none:=by unfold qg;rw[ea,eb,mU ht.1 ha,mU ht.1 hb];rfl
   exact⟨fun _ H' S=>q.2 ew _ H' S,fun _ r way H' S _ _ _=>q.2 ew _ H' S⟩
  |made h1 h2 h3 h4 h5 =>
   refine⟨_,rfl,rfl,_,rfl,ite_ff (by decide +kernel) ?_⟩
   refine⟨_,rfl,rfl,_,rfl,ite_ff (by decide +kernel) ?_⟩
   refine⟨_,rfl,rfl,_,rfl,ite_ff (by decide +kernel) ?_⟩
   refine⟨_,rfl,rfl,_,rfl,ite_ff (by decide +kernel) ?_⟩
   refine⟨_,rfl,rfl,_,rfl,ite_ff (by decide +kernel) ?_⟩
   refine⟨_,rfl,rfl,_,rfl,ite_tt (cZ rfl) ?_⟩;exact⟨_,rfl,_,rfl,s0,_,0,_,rfl,rfl,aj.of h1,rT,_,rfl,s0,_,1,_,rfl,rfl,aj.of h1,ER,YK ht al hl h2 h3 h4 h5 q⟩
  |changed h1 h2 h3 h4 h5 =>
   refine⟨_,rfl,rfl,_,rfl,ite_ff (by decide +kernel) ?_⟩
   refine⟨_,rfl,rfl,_,rfl,ite_ff (by decide +kernel) ?_⟩
   refine⟨_,rfl,rfl,_,rfl,ite_ff (by decide +kernel) ?_⟩
   refine⟨_,rfl,rfl,_,rfl,ite_ff (by decide +kernel) ?_⟩
   refine⟨_,rfl,rfl,_,rfl,ite_ff (by decide +kernel) ?_⟩
   refine⟨_,rfl,rfl,_,rfl,ite_ff (by decide +kernel) ?_⟩
   exact⟨_,rfl,_,rfl,s0,_,0,_,rfl,rfl,aj.of h1,rT,_,rfl,s0,_,1,_,rfl,rfl,aj.of h1,ER,YM ht al hl h2 h3 h4 h5 q⟩
def xu:Option Nat->List Str|none=>[]|some i=>[iM.getD i ""]
theorem aat {aa:aF}{s:Addr}{r:Option Nat} (h:eZ p H aa x s r):∀i,r=some i->i∈iC:=by
 have hl:∀d i,nc aa d=some i->i∈iC:=fun d i e=>by
  unfold nc at e;split at e <;> cases e;decide
 have hg:∀d i,nO aa d=some i->i∈iC:=fun d i e=>by
  unfold nO at e;(repeat' split at e) <;> cases e <;> decide
 have hw:∀d u i,qg aa d u=some i->i∈iC:=fun d u i e=>by
  unfold qg at e;split at e <;> cases e;decide
 have hm:∀d u i,gH aa d u=some i->i∈iC:=fun d u i e=>by
  unfold gH at e;(repeat' split at e) <;> cases e <;> decide
 have hc:∀d u i,i6 aa d u=some i->i∈iC:=fun d u i e=>by
  unfold i6 at e;(repeat' split at e) <;> cases e <;> decide
 cases h with
 |line _ _ _=>exact hl _
 |beneath _ _ _=>exact hl _
 |xr _ _ _=>exact hl _
 |xt _ _ _=>exact hg _
 |way _ _ _ _ _=>exact hw _ _
 |made _ _ _ _ _=>exact hm _ _
 |changed _ _ _ _ _=>exact hc _ _
@[irreducible] def nB:Sp:=fun vs H Q _=>∃ (p t s:Addr) (aa:aF) (x:Str) (r:Option Nat),vs = [.str x,.ref t,.ref s]/\FA H t aa/\cq aa/\aa.length<=14/\eZ p H aa x s r /\ ∀l H',ak H H'->H' l=some (.lst ((xu r).map V.str))->Q (.ref l) H'
theorem YU {s:Addr}{aa:aF}{r:Option Nat} (ht:FA H t aa) (al:cq aa) (hl:aa.length<=14) (i:eZ p H aa x s r) (q:∀l H',ak H H'->H' l=some (.lst ((xu r).map V.str))->Q (.ref l) H'):nB [.str x,.ref t,.ref s] H Q E:=by unfold nB;exact⟨p,t,s,aa,x,r,rfl,ht,al,hl,i,q⟩
abbrev nRf:List Str:= ["_law_word","_law_family_here","_law_some","_law_refusal_here","_law_e"]
theorem Ai:b3 nRf jx (aM C1):=⟨rfl,rfl,rfl,by decide +kernel,rfl,by decide +kernel,by decide +kernel⟩
theorem YV {B0:Addr}{dC:FuncData} (F:aU K "_law_refusal" "_law_refusal" C1 f fd) (T:rY K mg c)
  (mB:mg "LineError" = some (.ref B0)) (qB:∃ci,dj K B0 ci=true)
  (GL:xl P w K mg base 1 fL dL ["_law_e"] (uN K c)) (kL:keepIn K (.ref fL)=true) (bL:Binds K dL ["_law_e"] []) (mL:mg "_law_classes" = some (.ref fL))
  (GC:aD P w K mg base (a8 P w) 8 fC dC jx (ui c)) (kC:keepIn K (.ref fC)=true) (bC:Binds K dC jx []) (mC:mg "_law_call" = some (.ref fC)) :
  aD P w K mg base aR 9 f fd jx nB:=by
 obtain⟨ci,qB⟩:=qB;refine F.ok Ai (fun vs H Q E h=>?_) (fun cdv A outer s H vs Q E hr h=>?_)
 ·unfold nB at h;obtain⟨p,t,s,aa,x,r,rfl,_⟩:=h;rfl
 ·unfold nB at h
  obtain⟨p,t,s0,aa,x,r,rfl,ht,al,hl,i,q⟩:=h;have Qk:aS 8 _:=hr;have cJ:aS 1 _:=Qk.mono (by decide)
  refine⟨_,aB (aZ (i:=3) Ai.nd rfl (Or.inl rfl) (a9 ah))
   (aB (UZ (j:=4) (C:=B0) (fun pins D=>aO (eP (K4 GC Qk rfl mC kC bC (ae (pv 0) (ae (pv 1) (ae (pv 2) ah))))))
     Ai.nd rfl rfl rfl rfl rfl rfl rfl mB qB (fun a=>aO (aZ (i:=3) Ai.nd rfl (Or.inl rfl) (Vj GL (cJ.marked _) rfl mL kL bL a7 (ae (pv 4) ah)))))
   (aO (b9 (pv 3)))),?_⟩
  refine⟨bX _,fun r0 sU=>?_⟩;have S0:=ar (o:= .lst []) sU;have e0:upd H r0 (.lst []) r0=some (.lst []):=af;generalize upd H r0 (.lst [])=H0 at S0 e0 ⊢;refine⟨_,rfl,_,rfl,_,rfl,WI (ht.same S0) al hl (i.same S0) ⟨fun j ej a H1 S1 er=>?_,fun e x H1 S1=>?_⟩⟩
  ·have hj:=aat i j ej
   refine⟨⟨c j,rfl,T.b B0 mB j hj⟩,a,rfl,?_⟩;refine⟨_,rfl,YR (.of T er hj) fun l H2 S2 h2=>?_⟩;subst ej;exact⟨_,rfl,q l H2 (S0.trans (S1.trans S2)) h2⟩
  ·subst e
   exact⟨_,rfl,q r0 H1 (S0.trans S1) (S1 _ _ e0)⟩
mutual
inductive CT where
 |v (x:V)
 |tup (l:jy)
 |lst (l:jy)
 |iF
 |pw
inductive jy where
 |nil
 |cons (a:CT) (b:jy)
end
mutual
def kU:CT->Expr->Bool
 |.v x,e=>decide (cV e=some x)
 |.tup l,e=>match e with|.Tuple es _ _=>qh l es|_=>false
 |.lst l,e=>match e with|.List es _=>qh l es|_=>false
 |.iF,e=>match e with|.Dict [] [] _=>true|_=>false
 |.pw,e=>match e with|.BinOp (.Constant (.int 10) _ _) .Pow (.Constant (.int 17) _ _) _=>true|_=>false
def qh:jy->List Expr->Bool
 |.nil,es=>es.isEmpty
 |.cons a b,es=>match es with|e::r=>kU a e && qh b r | []=>false
end
mutual
def tE:CT->TE
 |.v x=>tC x
 |.tup l=>Nt (tA l)
 |.lst l=>Ef (tA l)
 |.iF=>Mq
 |.pw=>xQ (rI Np fun i j=>.int (i ^ j.toNat)) (tC (.int 10)) (tC (.int 17))
def tA:jy->TA
 |.nil=>Nr
 |.cons a b=>DT (tE a) (tA b)
end
theorem UD {c:CT} (h:kU c e=true):starEach (e::es) X.env=(false,eval e X.env)::starEach es X.env:=by
 cases c with
 |v x=>unfold kU at h;exact Lr (pH h)
 |tup l=>unfold kU at h;split at h <;> first|rfl|cases h
 |lst l=>unfold kU at h;split at h <;> first|rfl|cases h
 |iF=>unfold kU at h;split at h <;> first|rfl|cases h
 |pw=>unfold kU at h;split at h <;> first|rfl|cases h
mutual
theorem YW {X:Cx}:∀ (c:CT) {e:Expr},kU c e=true->PE X e (tE c)
 |.v x,e,h=>by unfold kU at h;unfold tE;exact M' (pH h)
 |.tup l,e,h=>by
  unfold kU at h;unfold tE;split at h
  ·exact d7 (zT l h)
  ·cases h
 |.lst l,e,h=>by
  unfold kU at h;unfold tE;split at h
  ·exact a9 (zT l h)
  ·cases h
 |.iF,e,h=>by
  unfold kU at h;unfold tE;split at h
  ·exact wc
  ·cases h
 |.pw,e,h=>by
  unfold kU at h;unfold tE;split at h
  ·exact cG Ml aG aG
  ·cases h
theorem zT {X:Cx}:∀ (l:jy) {es:List Expr},qh l es=true->PA X es (tA l)
 |.nil,es,h=>by
  unfold qh at h;unfold tA;cases es with
  |nil=>exact ah
  |cons a b=>cases h
 |.cons a b,es,h=>by
  unfold qh at h;unfold tA;split at h
  ·obtain⟨h1,h2⟩:=jY.mp h
   exact ae (YW a h1) (zT b h2) (UD h1)
  ·cases h
end
def dV:V->PyData|.ax=>.none|.bl b=>.bool b|.int i=>.int i|.str x=>.str x|_=>.none
def Ql:V->Bool|.ax=>true|.bl _=>true|.int _=>true|.str _=>true|_=>false
def qj:jy->Nat|.nil=>0|.cons _ b=>qj b+1
mutual
def dC:CT->PyData
 |.v x=>dV x
 |.tup l=>.tuple (lI l)
 |.lst l=>.list (lI l)
 |.iF=>.dict []
 |.pw=>.int 100000000000000000
def lI:jy->List PyData
 |.nil=>[]
 |.cons a b=>dC a::lI b
end
mutual
def yH:CT->Bool
 |.v x=>Ql x
 |.tup l=>qk l && decide (qj l<=100)
 |.lst l=>qk l && decide (qj l<=100)
 |.iF=>true
 |.pw=>true
def qk:jy->Bool
 |.nil=>true
 |.cons a b=>yH a && qk b
end
theorem YX {x:V} (h:Ql x=true):Dt p H x (dV x):=by
 cases x <;> first|constructor|cases h
theorem bp (h:n<=100):n<=sizeLine:=by rw[aI];omega
mutual
theorem YY {p:Addr}{o:HO}{σ:St}:∀ (c:CT) {H:Hp}{Q:VK},H p=some o->yH c=true->(∀v H',ak H H'->Dt p H' v (dC c)->Q v H')->tE c σ H Q
 |.v x,H,Q,hp,hw,q=>by unfold tE;unfold yH at hw;unfold dC at q;exact q x H (ak.refl _) (YX hw)
 |.tup l,H,Q,hp,hw,q=>by
  unfold tE;unfold yH at hw;unfold dC at q;obtain⟨h1,h2⟩:=jY.mp hw;refine zU l hp h1 fun vs H1 S1 len r=>⟨bp (by rw[len];exact pH h2),fun a ha=>?_⟩
  exact q _ _ (S1.trans (ar ha)) (.tup (aH (aq (S1 _ _ hp) ha)) af (bu.same r (ar ha)))
 |.lst l,H,Q,hp,hw,q=>by
  unfold tE;unfold yH at hw;unfold dC at q;obtain⟨h1,h2⟩:=jY.mp hw;refine zU l hp h1 fun vs H1 S1 len r=>⟨bp (by rw[len];exact pH h2),fun a ha=>?_⟩
  exact q _ _ (S1.trans (ar ha)) (.lst (aH (aq (S1 _ _ hp) ha)) af (bu.same r (ar ha)))
 |.iF,H,Q,hp,hw,q=>by
  unfold tE;unfold dC at q;exact fun a ha=>q _ _ (ar ha) (.iF (aH (aq hp ha)) af)
 |.pw,H,Q,hp,hw,q=>by
  unfold tE;unfold dC at q;exact⟨10,17,rfl,rfl,⟨by decide,by decide,by decide⟩,q _ H (ak.refl _) (.int _)⟩
theorem zU {p:Addr}{o:HO}{σ:St}:∀ (l:jy) {H:Hp}{Q:List V->Hp->Prop},H p=some o->qk l=true->(∀vs H',ak H H'->vs.length=qj l->bu p H' vs (lI l)->Q vs H')->tA l σ H Q
 |.nil,H,Q,hp,hw,q=>by unfold tA;unfold lI at q;exact q [] H (ak.refl _) rfl .nil
 |.cons a b,H,Q,hp,hw,q=>by
  unfold tA;unfold qk at hw;unfold lI at q;obtain⟨h1,h2⟩:=jY.mp hw;refine YY a hp h1 fun v H1 S1 r1=>zU b (S1 _ _ hp) h2 fun vs H2 S2 len r2=>?_;exact q (v::vs) H2 (S1.trans S2) (by rw[cO,len];rfl) (.cons (Dt.same r1 S2) r2)
end
@[irreducible] def tB (l:jy):TA:=tA l
theorem XM (l:jy) (h:qh l es=true):PA X es (tB l):=by unfold tB;exact zT l h
theorem XN (l:jy) {Q:List V->Hp->Prop} (hp:H p=some o) (hw:qk l=true) (q:∀vs H',ak H H'->vs.length=qj l->bu p H' vs (lI l)->Q vs H'):tB l σ H Q:=by unfold tB;exact zU l hp hw q
theorem WK {l:jy}{t:TS} (hp:H p=some o) (hw:qk l=true) (hl:qj l<=100)
  (q:∀a vs H',ak H H'->H' a=some (.lst vs)->a≠p->vs.length=qj l->bu p H' vs (lI l)->m4 i (.ref a) σ H' (t D)):Nh (z7 (Ef (tB l)) (m4 i)) t D σ H:=by
 show tB l σ H fun xs H1=>xs.length<=sizeLine /\ ∀p,H1 p=none->m4 i (.ref p) σ (upd H1 p (.lst xs)) (t D);exact XN l hp hw fun vs H1 S1 len r=>⟨bp (by rw[len];exact hl),fun a ha=>q a vs _ (S1.trans (ar ha)) af (aH (aq (S1 _ _ hp) ha)) len (bu.same r (ar ha))⟩
abbrev cS (x:Str):CT:= .v (.str x)
@[irreducible] def lj:jy:= .cons (.v .ax) (.cons (.v (.int 5)) (.cons (.v (.bl true)) (.cons (.v (.int (-1))) (.cons .pw (.cons (cS "") (.cons (cS "A") (.cons (cS "abcdefghi") (.cons (cS "a b") (.cons (cS "a\n") (.cons (.tup .nil) (.cons (.lst (.cons (cS "a") .nil)) (.cons .iF (.cons (.tup (.cons (cS "a") .nil)) (.cons (cS "a1") .nil))))))))))))))
abbrev SN (k:Nat):Stmt:=cL (cA t5) k
@[irreducible] def Br:List Expr:=zR (fb (SN 0))
theorem aau:qh lj Br=true:=by unfold Br lj;decide +kernel
theorem wfO:qk lj=true:=by unfold lj;decide +kernel
theorem aav:((lI lj).all fun d=>!de d && decide (d.bulk<=20))=true:=by unfold lj;decide +kernel
theorem aaw:qj lj=15:=by unfold lj;rfl
theorem aax:(lI lj).length=15:=by unfold lj;rfl
def ik:List Str:= ["strange","stranger","a","b","c","d","e","f","g"]
def XO (e:Expr):List Expr:=match e with|.ListComp _ [⟨_,.List es _,_,_⟩] _ _=>es|_=>[]
def XQ (es:List Expr) (e:Expr):Expr:=match e with|.ListComp elt [⟨tg,.List _ p,ifs,n⟩] sc q=>.ListComp elt [⟨tg,.List es p,ifs,n⟩] sc q|e=>e
def EZ (e:Expr):Expr:=match e with|.Subscript o _ _=>o|_=>.Constant .none 0 ⟨0,0,0,0⟩
def aay (e:Expr):Expr:=match e with|.Subscript _ i _=>i|_=>.Constant .none 0 ⟨0,0,0,0⟩
def aaz (e:Expr):Pos:=match e with|.Subscript _ _ p=>p|_=>⟨0,0,0,0⟩
def aaA (s:Stmt):Pos:=match s with|.Return _ p=>p|_=>⟨0,0,0,0⟩
abbrev HG:Expr:=EZ (nu (SN 7))
@[irreducible] def Bs:List Expr:=XO HG
theorem aaB:Bs.map cV=(ik.map V.str).map some:=by unfold Bs;decide +kernel
theorem bdN:cA t5 = [.Assign (EX (SN 0)) (.List Br (lstP (fb (SN 0)))) (EW (SN 0)),SN 1,SN 2,SN 3,SN 4,SN 5,SN 6,.Return (some (.Subscript (XQ Bs HG) (aay (nu (SN 7))) (aaz (nu (SN 7))))) (aaA (SN 7))]:=by unfold Br Bs;rfl
end iR
namespace iR
open PySem L2 PySem.W HT
theorem VG (z:Str) (k:Nat):(Txt.slice z none (some (k:Int))).length<=k:=by
 have hi:(Builtin.Str.strSliceIndices none (some (k:Int)) 1 z.length).length<=k:=by
  unfold Builtin.Str.strSliceIndices sliceRange;simp only[show(1:Int) > 0 by decide,mE,aE,BP]
  split <;> (try split) <;> (try simp only[Ri]) <;> omega
 unfold Txt.slice;split
 ·rename_i h
  have e:(Builtin.Str.strSliceIndices none (some (k:Int)) 1 z.length).length=z.length:=by simpa using h
  omega
 ·show(List.filterMap _ _).toArray.size<=k
  rw[cD];exact cK (BQ _ _) hi
theorem VH (z:Str) (k:Nat):(Txt.slice z (some (k:Int)) none).length<=z.length - k:=by
 have hi:(Builtin.Str.strSliceIndices (some (k:Int)) none 1 z.length).length<=z.length - k:=by
  unfold Builtin.Str.strSliceIndices sliceRange;simp only[show(1:Int) > 0 by decide,mE,aE,BP]
  split <;> (try split) <;> (try simp only[Ri]) <;> omega
 unfold Txt.slice;split
 ·rename_i h
  have e:(Builtin.Str.strSliceIndices (some (k:Int)) none 1 z.length).length=z.length:=by simpa using h
  omega
 ·show(List.filterMap _ _).toArray.size<=_
  rw[cD];exact cK (BQ _ _) hi
theorem Me (a b:Str):(a++b).length=a.length+b.length:=by
 show(a.cps++b.cps).size=_;rw[BR];rfl
structure nR (p:Addr) (H:Hp) (ks:List Str) (v:V) (d:PyData):Prop where
 r:Dt p H v d
 b:d.bulk<=20
 n:∀x,d = .str x->x ∉ ks
theorem nR.keep {d:PyData} (h:nR p H ks v d) (k:bZ p H H'):nR p H' ks v d:=⟨h.r.keep k.kp,h.b,h.n⟩
theorem nR.same {d:PyData} (h:nR p H ks v d) (S:ak H H'):nR p H' ks v d:=⟨Dt.same h.r S,h.b,h.n⟩
structure Ks (H:Hp) (l:Addr) (ks:List Str):Prop where
 hl:H l=some (.lst (ks.map V.str))
 pos:0 < ks.length
 a6:ks.length<=8
 nm:∀x∈ks,Nm x
@[irreducible] def uP:Sp:=fun vs H Q _=>∃ (p l:Addr) (ks:List Str),vs = [.ref p,.ref l]/\f9 p H/\l≠p/\Ks H l ks /\ ∀v d H',bZ p H H'->nR p H' ks v d->Q v H'
theorem YZ (hp:f9 p H) (nl:l≠p) (k:Ks H l ks) (q:∀v d H',bZ p H H'->nR p H' ks v d->Q v H'):uP [.ref p,.ref l] H Q E:=by unfold uP;exact⟨p,l,ks,rfl,hp,nl,k,q⟩
abbrev Qm:List Str:= ["_law_pot_here","_law_kinds","_law_odd","_law_way","_law_at","_law_sign","_law_here","_law_near"]
theorem uQ:b3 Qm ["_law_pot_here","_law_kinds"] (aM t5):=⟨rfl,rfl,rfl,by decide +kernel,rfl,by decide +kernel,by decide +kernel⟩
theorem Om:cj Qm (aM t5) ["_law_name","_law_kinds"] [none,some 1] (cW HG):=⟨rfl,by decide +kernel,by decide +kernel,rfl,d9 (by decide +kernel),by decide +kernel⟩
theorem Y0 (F:aU K "_law_no_kind" "_law_no_kind" t5 f fd) (B:fg mg) (GD:aD P w K mg base aR 1 fD dD ["_law_pot_here","_law_many"] mX) (kD:keepIn K (.ref fD)=true) (bD:Binds K dD ["_law_pot_here","_law_many"] []) (mD:mg "_law_digit" = some (.ref fD)) :
  aD P w K mg base aR 2 f fd ["_law_pot_here","_law_kinds"] uP:=by
 refine F.ok uQ (fun vs H Q E h=>?_) (fun cdv A outer s H vs Q E hr h=>?_)
 ·unfold uP at h;obtain⟨p,l,ks,rfl,_⟩:=h;rfl
 ·unfold uP at h
  obtain⟨p,l,ks,rfl,hp,nl,k,q⟩:=h;have cJ:aS 1 _:=hr;rw[bdN];refine⟨_,aB (aZ (i:=2) uQ.nd rfl (Or.inl rfl) (a9 (XM lj aau)))
   (aB (Mj (i:=3) (j:=4) rfl uQ.nd rfl rfl (by decide) rfl rfl (ae (aQ GD cJ rfl mD kD bD .nil a7 (ae (pv 0) (ae aG ah))) (ae (aQ GD cJ rfl mD kD bD .nil a7 (ae (pv 0) (ae (ck kX rfl B.len jB (ae (pv 1) ah)) ah))) ah)) rfl)
   (aB (aZ (i:=5) uQ.nd rfl (Or.inl rfl) (bh DC eT (aQ GD cJ rfl mD kD bD .nil a7 (ae (pv 0) (ae aG ah))) (fun _ _=>rfl)))
   (aB (aZ (i:=6) uQ.nd rfl (Or.inl rfl) (aQ GD cJ rfl mD kD bD .nil a7 (ae (pv 0) (ae (cG rn (ck Ca rfl B.len jB (ae (bh cz (pv 1) (pv 4) (fun _ _=>rfl)) ah)) aG) ah))))
   (aB (aZ (i:=7) uQ.nd rfl (Or.inl rfl) (cG zg (cG zg (lM DF (bh cz (pv 1) (pv 4) (fun _ _=>rfl)) lO (k7 (pv 6))) (pv 5)) (lM DF (bh cz (pv 1) (pv 4) (fun _ _=>rfl)) (k7 (pv 6)) lO)))
   (aB (gG (b5 oE (pv 3) aG (cF _)) (bh cz (pv 2) (aQ GD cJ rfl mD kD bD .nil a7 (ae (pv 0) (ae aG ah))) (fun _ _=>rfl)))
   (aB (gG (PW.pt (pw_and (b5 oE (pv 3) aG (cF _)) (pw_and1 (b5 zb (pv 7) (pv 1) rfl)))) (pv 7))
   (ua (bh cz (eQ rfl Om (fw (a9 (Df aaB))) (fun s H fp=>⟨bg (i:=0) Om.nd rfl (Or.inl rfl),i3 (b5 (Cj K rfl) (pv 0) (pv 1) rfl),pv 0⟩)) aG (fun _ _=>rfl))))))))),?_⟩
  obtain⟨x0,y0,jW,Bt⟩:=id hp;refine WK jW wfO (by rw[aaw];decide) fun lo vs H1 S1 aaC yI len r1=>?_
  have P1:bZ p H H1:=⟨⟨x0,y0,S1 _ _ jW,Bt⟩,fun b o e _=>S1 _ _ e⟩;refine⟨_,rfl,i4 (p:=p) (m:=3) P1.ok (by decide) (by decide) fun wy H2 w0 w1 pb=>?_⟩
  have P2:=P1.trans pb;have ji:=P2.kp _ _ k.hl nl;refine⟨_,rfl,_,rfl,l,_,rfl,.inl (aj.of ji),?_⟩;have a6:=k.a6;have pos:=k.pos;refine i4 (p:=p) P2.ok (by rw[aE];omega) (by rw[aE];omega) fun at_ H3 a0 a1 pc=>?_
  rw[aE]at a1;have P3:=P2.trans pc;have aaD:=pc.kp _ _ (pb.kp _ _ aaC yI) yI;have r3:=(r1.keep pb.kp).keep pc.kp;have Bb:=P3.kp _ _ k.hl nl;refine⟨_,_,rfl,?_⟩;refine⟨_,rfl,i4 (p:=p) (m:=26) P3.ok (by decide) (by decide) fun dg H4 d0 d1 pd=>?_⟩
  obtain⟨c,hc,c0,c1,_⟩:=CI d0 d1;refine⟨pO,dg,c,rfl,rfl,(by rw[aI];decide +kernel),hc,?_⟩
  have P4:=P3.trans pd;have aaE:=pd.kp _ _ aaD yI;have r4:=r3.keep pd.kp;have pj:=P4.kp _ _ k.hl nl;have ha:at_.toNat < ks.length:=by omega
  have lD:cg (ks.map V.str) at_=some (.str ks[at_.toNat]):=by
   obtain⟨j,rfl⟩:=qQ a0;exact dq (by rw[f6,b4 (by simpa using ha)];rfl)
  have nx:=k.nm _ (iX ha);generalize ks[at_.toNat]=x at lD nx;have x8:=nx.hi;refine⟨_,rfl,_,rfl,_,rfl,l,_,at_,.str x,rfl,rfl,aj.of pj,lD,x,rfl,by rw[aI];omega,_,_,rfl,rfl,?_⟩
  refine i4 (p:=p) P4.ok (by show(0:Int) < _;omega) (by show _+(1:Int)<=_;omega) fun hr_ H5 h0 h1 pe=>?_
  have P5:=P4.trans pe;have aaF:=pe.kp _ _ aaE yI;have r5:=r4.keep pe.kp;have nL:=P5.kp _ _ k.hl nl;obtain⟨kk,rfl⟩:=qQ h0;have h1:(kk:Int) < (x.length:Int)+1:=h1;refine⟨_,rfl,_,rfl,l,_,at_,.str x,rfl,rfl,aj.of nL,lD,?_⟩;have l1:=VG x kk;have l2:=VH x kk;have e1:=Me (Txt.slice x none (some (kk:Int))) ⟨#[c]⟩;have e0:(⟨#[c]⟩:Str).length=1:=rfl;refine⟨_,rfl,_,rfl,x,rfl,by omega,_,rfl,_,_,rfl,rfl,by rw[aI];omega,?_⟩
  refine⟨_,rfl,_,rfl,l,_,at_,.str x,rfl,rfl,aj.of nL,lD,_,rfl,_,rfl,x,rfl,by omega,_,_,rfl,rfl,by rw[aI];omega,?_⟩
  have e2:=Me (Txt.slice x none (some (kk:Int))++⟨#[c]⟩) (Txt.slice x (some (kk:Int)) none);generalize Txt.slice x none (some (kk:Int))++⟨#[c]⟩++Txt.slice x (some (kk:Int)) none=near at e2 ⊢;have n9:near.length<=9:=by omega
  refine⟨_,rfl,rfl,_,rfl,?_⟩;refine d4 (fun _=>?_) (fun hw=>?_)
  ·refine⟨_,rfl,_,rfl,i4 (p:=p) (m:=15) P5.ok (by decide) (by decide) fun j H6 j0 j1 pf=>?_⟩
   have aaG:=pf.kp _ _ aaF yI;have r6:=r5.keep pf.kp;have hj:j.toNat < (lI lj).length:=by rw[aax];omega
   obtain⟨v,hv,rv⟩:=r6.get (b4 hj);have E1:cg vs j=some v:=by
    obtain⟨i,rfl⟩:=qQ j0;exact dq (by simpa using hv)
   have od:=iW.mp aav _ (iX hj);simp only[jA,Bool.not_eq_true',Ji]at od;refine⟨lo,_,j,v,rfl,rfl,aj.of aaG,E1,q v _ H6 (P5.trans pf) ⟨rv,od.2,fun y ey hy=>?_⟩⟩;have:=wo (k.nm y hy);have h2:=od.1;rw[ey]at h2;have h2:eI y=false:=h2;rw[this]at h2;cases h2
  ·refine⟨_,rfl,rfl,_,rfl,?_⟩
   refine(fun last=>d4 (fun _=>?_) (fun _=>last)) ?_
   ·refine⟨_,rfl,_,rfl,l,_,rfl,.inl (aj.of nL),rfl,jD _,_,rfl,?_⟩
    rw[au rfl,j6];refine d4 (fun hn=>?_) (fun _=>last);have fo:near ∉ ks:=by simpa using hn
    exact⟨_,rfl,q _ (.str near) H5 P5 ⟨.str near,by show near.length<=20;omega,fun y ey=>by cases ey;exact fo⟩⟩
   ·refine⟨bp (by decide),fun a2 jq=>?_⟩
    have Qn:a2≠p:=aH (P5.ok.ne jq);refine⟨a2,rfl,⟨_,aj.of af⟩,fun a3 lE=>?_⟩;have sS:upd H5 a2 (.lst (ik.map V.str)) l=some (.lst (ks.map V.str)):=by rw[ai (aq nL jq)];exact nL
    refine jC (xs:=ik.map V.str) (fun i zs τ H6=>∃t0:Option V,zs=((ik.take i).filter (fun y=>!decide (y∈ks))).map V.str/\τ = [t0,some (.ref l)]/\H6=upd (upd H5 a2 (.lst (ik.map V.str))) a3 (.lst zs))
     ⟨none,rfl,rfl,rfl⟩ (fun i zs τ H6 ⟨_,_,_,z⟩=>by rw[z];exact⟨af,aj.of (by rw[ai (aq af lE)];exact af)⟩) ?_ ?_
    ·rintro j y zs τ H6 hx ⟨t0,rfl,rfl,rfl⟩
     rw[f6]at hx;obtain⟨y,hy,rfl⟩:=iV.mp hx;have cC:j < (ik.map V.str).length:=by rw[aE];exact(cu.mp hy).1
     have tk:ik.take (j+1)=ik.take j ++ [y]:=by rw[dZ,hy];rfl
     have yJ:(upd (upd H5 a2 (.lst (ik.map V.str))) a3 (.lst (((ik.take j).filter (fun y=>!decide (y∈ks))).map V.str))) l=some (.lst (ks.map V.str)):=by rw[ai (aq sS lE)];exact sS
     refine⟨_,rfl,_,rfl,l,_,rfl,.inl (aj.of yJ),rfl,jD _,_,rfl,?_⟩;rw[au rfl,j6];refine d4 (fun hn=>?_) (fun hn=>?_)
     ·refine⟨_,rfl,af,?_,cw_next cC ⟨_,?_,rfl,?_⟩⟩
      ·have h1:=iY (fun y=>!decide (y∈ks)) (ik.take j)
       have h2:(ik.take j).length<=9:=by rw[dh];exact Nat.min_le_right _ _
       rw[aE,aI];omega
      ·rw[tk,iK,bj,qN,au hn];rfl
      ·rw[gR]
     ·refine cw_next cC ⟨_,?_,rfl,rfl⟩
      rw[tk,iK,qN,ao hn,B4,fh]
    ·rintro zs τ H6 ⟨t0,rfl,rfl,rfl⟩
     rw[aE,eF];obtain⟨y0,yl,Gr⟩:=wM (found:=ks) (ys:=ik) (by decide +kernel) (by show _ < 9;omega)
     have lY:y0∈ik.filter (fun y=>!decide (y∈ks)):=gD.mpr ⟨yl,by simpa using Gr⟩
     cases hf:ik.filter (fun y=>!decide (y∈ks)) with
     |nil=>rw[hf]at lY;simp at lY
     |cons z1 zr =>
      have Gs:z1∈ik.filter (fun y=>!decide (y∈ks)):=by rw[hf];exact aV
      obtain⟨zc,zn⟩:=gD.mp Gs;have Gu:z1 ∉ ks:=by simpa using zn
      refine⟨a3,_,0,V.str z1,rfl,rfl,aj.of af,(show cg ((z1::zr).map V.str) ((0:Nat):Int)=some (V.str z1) from dq rfl),?_⟩;exact q _ (.str z1) _ ((P5.new jq).new lE) ⟨.str z1,(show ∀y∈ik,y.length<=20 by decide +kernel) z1 zc,fun y ey=>by cases ey;exact Gu⟩
theorem aaH {G:Prop}{sd C:Hp->Prop} (h1:(∀H6,sd H6->C H6)->G) (h2:∀H6,sd H6->C H6):G:=h1 h2
theorem Dz {p:Addr}{H:Hp}:∀ {vs:List V}{ds:List PyData}{v:V}{d:PyData},bu p H vs ds->Dt p H v d->bu p H (vs ++ [v]) (ds ++ [d])
 |_,_,_,_,.nil,r=>.cons r .nil
 |_,_,_,_,.cons a b,r=>.cons a (Dz b r)
theorem wq {p:Addr}{H:Hp}:∀xs:List Str,bu p H (xs.map V.str) (xs.map PyData.str)
 |[]=>.nil
 |x::xs=>.cons (.str x) (wq xs)
structure Aj (ks:List Str) (d:PyData):Prop where
 b:d.bulk<=100
 n:∀ps:List Str,d = .tuple (ps.map PyData.str)->ps.Nodup->(∀x∈ps,x∈ks)->4 < ps.length
def sZ (x:Str) (e:PyData):List PyData:= [.list [.str x],.str x,.none,.dict [],.int 5,.tuple [e],.tuple [e,.str x],.tuple [.str x,e],.tuple [.str x,.str x]]
theorem XR {e:PyData} (hx:x∈ks) (nx:Nm x) (be:e.bulk<=20) (ne:∀y,e = .str y->y ∉ ks):∀d∈sZ x e,Aj ks d:=by
 have x8:x.cps.size<=8:=nx.hi;have bx:(PyData.str x).bulk<=8:=nx.hi;have two:∀ {ps:List Str}{a b:PyData},PyData.tuple [a,b] = .tuple (ps.map PyData.str) -> ∃y z,ps = [y,z]/\a = .str y/\b = .str z:=fun {ps a b} h=>by
  injection h with h
  match ps,h with
  |[y,z],h=>injection h with h1 h;injection h with h2 _;exact⟨y,z,rfl,h1,h2⟩
 intro d hd;unfold sZ at hd;simp only[aY,jZ,j3]at hd;rcases hd with rfl|rfl|rfl|rfl|rfl|rfl|rfl|rfl|rfl
 ·exact⟨by simp only[PyData.bulk,PyData.bulkAll]at bx ⊢;omega,fun ps h=>by cases h⟩
 ·exact⟨by omega,fun ps h=>by cases h⟩
 ·exact⟨by decide,fun ps h=>by cases h⟩
 ·exact⟨by decide,fun ps h=>by cases h⟩
 ·exact⟨by decide,fun ps h=>by cases h⟩
 ·refine⟨by simp only[PyData.bulk,PyData.bulkAll];omega,fun ps h _ bf=>?_⟩
  injection h with h
  match ps,h with
  |[y],h=>injection h with h1 _;exact absurd (bf y aV) (ne y h1)
 ·refine⟨by simp only[PyData.bulk,PyData.bulkAll]at bx ⊢;omega,fun ps h _ bf=>?_⟩
  obtain⟨y,z,rfl,h1,h2⟩:=two h;exact absurd (bf y aV) (ne y h1)
 ·refine⟨by simp only[PyData.bulk,PyData.bulkAll]at bx ⊢;omega,fun ps h _ bf=>?_⟩
  obtain⟨y,z,rfl,h1,h2⟩:=two h;exact absurd (bf z (bV _ aV)) (ne z h2)
 ·refine⟨by simp only[PyData.bulk,PyData.bulkAll]at bx ⊢;omega,fun ps h nd _=>?_⟩
  obtain⟨y,z,rfl,h1,h2⟩:=two h;cases h1;cases h2
  simp at nd
structure Qo (p:Addr) (H:Hp) (ks:List Str) (v:V) (d:PyData):Prop where
 r:Dt p H v d
 d:Aj ks d
@[irreducible] def uR:Sp:=fun vs H Q _=>∃ (p l:Addr) (ks:List Str) (u:V) (e:PyData),vs = [.ref p,.ref l,u]/\f9 p H/\l≠p/\Ks H l ks/\nR p H ks u e /\ ∀v d H',bZ p H H'->Qo p H' ks v d->Q v H'
theorem Y1 {u:V}{e:PyData} (hp:f9 p H) (nl:l≠p) (k:Ks H l ks) (b:nR p H ks u e) (q:∀v d H',bZ p H H'->Qo p H' ks v d->Q v H'):uR [.ref p,.ref l,u] H Q E:=by unfold uR;exact⟨p,l,ks,u,e,rfl,hp,nl,k,b,q⟩
abbrev nNp:List Str:= ["_law_pot_here","_law_kinds","_law_stranger","_law_at","_law_one","_law_some"]
theorem Ak:b3 nNp ["_law_pot_here","_law_kinds","_law_stranger"] (aM DI):=⟨rfl,rfl,rfl,by decide +kernel,rfl,by decide +kernel,by decide +kernel⟩
theorem Y2 (F:aU K "_law_no_parents" "_law_no_parents" DI f fd) (B:fg mg) (GD:aD P w K mg base aR 1 fD dD ["_law_pot_here","_law_many"] mX) (kD:keepIn K (.ref fD)=true) (bD:Binds K dD ["_law_pot_here","_law_many"] []) (mD:mg "_law_digit" = some (.ref fD)) :
  aD P w K mg base aR 2 f fd ["_law_pot_here","_law_kinds","_law_stranger"] uR:=by
 refine F.ok Ak (fun vs H Q E h=>?_) (fun cdv A outer s H vs Q E hr h=>?_)
 ·unfold uR at h;obtain⟨p,l,ks,u,e,rfl,_⟩:=h;rfl
 ·unfold uR at h
  obtain⟨p,l,ks,u,e,rfl,hp,nl,k,b,q⟩:=h;have cJ:aS 1 _:=hr;refine⟨_,aB (aZ (i:=3) Ak.nd rfl (Or.inl rfl) (aQ GD cJ rfl mD kD bD .nil a7 (ae (pv 0) (ae (ck kX rfl B.len jB (ae (pv 1) ah)) ah))))
   (aB (aZ (i:=4) Ak.nd rfl (Or.inl rfl) (bh cz (pv 1) (pv 3) (fun _ _=>rfl)))
   (aB (aZ (i:=5) Ak.nd rfl (Or.inl rfl) (a9 (ae (a9 (ae (pv 4) ah)) (ae (pv 4) (ae jF (ae wc (ae aG (ae (d7 (ae (pv 2) ah)) (ae (d7 (ae (pv 2) (ae (pv 4) ah))) (ae (d7 (ae (pv 4) (ae (pv 2) ah))) (ae (d7 (ae (pv 4) (ae (pv 4) ah))) ah)))))))))))
   (aB (fj (b5 DS (ck kX rfl B.len jB (ae (pv 1) ah)) aG (cF _))
    (aB (eP (j' mJ pJ pK kZ (pv 5) (ae (f7 lK rfl B.tuple boot_tuple (ae (lM rg (pv 1) lO (k7 aG)) ah)) ah)))
    (aO (eP (j' mJ pJ pK kZ (pv 5) (ae (d7 (ae (bh cz (pv 1) aG (fun _ _=>rfl)) (ae (bh cz (pv 1) aG (fun _ _=>rfl)) (ae (bh cz (pv 1) aG (fun _ _=>rfl)) (ae (bh cz (pv 1) aG (fun _ _=>rfl)) (ae (bh cz (pv 1) aG (fun _ _=>rfl)) ah)))))) ah))))) fu)
   (ua (bh cz (pv 5) (aQ GD cJ rfl mD kD bD .nil a7 (ae (pv 0) (ae (ck kX rfl B.len jB (ae (pv 5) ah)) ah))) (fun _ _=>rfl)))))),?_⟩
  have a6:=k.a6;have pos:=k.pos;refine⟨_,rfl,_,rfl,l,_,rfl,.inl (aj.of k.hl),?_⟩;refine i4 (p:=p) hp (by rw[aE];omega) (by rw[aE];omega) fun at_ H1 a0 a1 pa=>?_
  rw[aE]at a1;have P1:=pa;have kI:=P1.kp _ _ k.hl nl;have ha:at_.toNat < ks.length:=by omega
  have lD:cg (ks.map V.str) at_=some (.str ks[at_.toNat]):=by
   obtain⟨j,rfl⟩:=qQ a0;exact dq (by rw[f6,b4 (by simpa using ha)];rfl)
  have nx:=k.nm _ (iX ha);have hx:=iX ha;generalize ks[at_.toNat]=x at lD nx hx;have x8:=nx.hi;have b1:=b.keep P1;refine⟨_,rfl,_,rfl,l,_,at_,.str x,rfl,rfl,aj.of kI,lD,?_⟩;obtain⟨x0,y0,jW,Bt⟩:=id P1.ok;refine⟨_,rfl,bp (by show 1<=100;decide),fun c1 h1=>⟨_,rfl,fun c2 h2=>⟨_,rfl,bp (by show 1<=100;decide),fun c3 h3=>⟨_,rfl,_,rfl,bp (by show 2<=100;decide),fun c4 h4=>⟨_,rfl,_,rfl,bp (by show 2<=100;decide),fun c5 h5=>⟨_,rfl,_,rfl,bp (by show 2<=100;decide),fun c6 h6=>⟨bp (by show 9<=100;decide),fun ls mw=>?_⟩⟩⟩⟩⟩⟩⟩
  have T1:=ar (o:= .lst [V.str x]) h1;have e1:upd H1 c1 (.lst [V.str x]) c1=_:=af;generalize upd H1 c1 (.lst [V.str x])=G1 at T1 e1 h2 h3 h4 h5 h6 mw ⊢;have T2:=ar (o:= .dK []) h2;have e2:upd G1 c2 (.dK []) c2=_:=af;generalize upd G1 c2 (.dK [])=G2 at T2 e2 h3 h4 h5 h6 mw ⊢;have T3:=ar (o:= .tup [u]) h3;have e3:upd G2 c3 (.tup [u]) c3=_:=af;generalize upd G2 c3 (.tup [u])=G3 at T3 e3 h4 h5 h6 mw ⊢;have T4:=ar (o:= .tup [u,.str x]) h4;have e4:upd G3 c4 (.tup [u,.str x]) c4=_:=af;generalize upd G3 c4 (.tup [u,.str x])=G4 at T4 e4 h5 h6 mw ⊢;have T5:=ar (o:= .tup [.str x,u]) h5;have e5:upd G4 c5 (.tup [.str x,u]) c5=_:=af;generalize upd G4 c5 (.tup [.str x,u])=G5 at T5 e5 h6 mw ⊢;have T6:=ar (o:= .tup [V.str x,.str x]) h6;have e6:upd G5 c6 (.tup [V.str x,.str x]) c6=_:=af;generalize upd G5 c6 (.tup [V.str x,.str x])=G6 at T6 e6 mw ⊢;have S2:=T1.trans T2;have S3:=S2.trans T3;have S4:=S3.trans T4;have S5:=S4.trans T5;have S6:=S5.trans T6;have T7:=ar (o:= .lst [.ref c1,.str x,.ax,.ref c2,.int 5,.ref c3,.ref c4,.ref c5,.ref c6]) mw;have e7:upd G6 ls (.lst [.ref c1,.str x,.ax,.ref c2,.int 5,.ref c3,.ref c4,.ref c5,.ref c6]) ls=_:=af;generalize upd G6 ls (.lst [.ref c1,.str x,.ax,.ref c2,.int 5,.ref c3,.ref c4,.ref c5,.ref c6])=G7 at T7 e7 ⊢;have S7:=S6.trans T7;have HH:ls≠p:=aH (aq (S6 _ _ jW) mw);have rb:=(b1.same S6).r;have r6:bu p G6 [.ref c1,.str x,.ax,.ref c2,.int 5,.ref c3,.ref c4,.ref c5,.ref c6] (sZ x e):=by
   unfold sZ;refine .cons (.lst (aH (aq jW h1)) (T6 _ _ (T5 _ _ (T4 _ _ (T3 _ _ (T2 _ _ e1))))) (.cons (.str x) .nil)) (.cons (.str x) (.cons .ax (.cons (.iF (aH (aq (T1 _ _ jW) h2)) (T6 _ _ (T5 _ _ (T4 _ _ (T3 _ _ e2))))) (.cons (.int 5) ?_))));refine .cons (.tup (aH (aq (S2 _ _ jW) h3)) (T6 _ _ (T5 _ _ (T4 _ _ e3))) (.cons rb .nil)) (.cons (.tup (aH (aq (S3 _ _ jW) h4)) (T6 _ _ (T5 _ _ e4)) (.cons rb (.cons (.str x) .nil))) ?_);exact .cons (.tup (aH (aq (S4 _ _ jW) h5)) (T6 _ _ e5) (.cons (.str x) (.cons rb .nil))) (.cons (.tup (aH (aq (S5 _ _ jW) h6)) e6 (.cons (.str x) (.cons (.str x) .nil))) .nil)
  have r7:=bu.same r6 T7;have P7:bZ p H G7:=P1.trans ⟨⟨x0,y0,S7 _ _ jW,Bt⟩,fun b o z _=>S7 _ _ z⟩;have yJ:=P7.kp _ _ k.hl nl;have nP:=XR hx nx b.b b.n;have aaI:H1 ls=none:=S6.free mw;clear h1 h2 h3 h4 h5 h6 e1 e2 e3 e4 e5 e6 T1 T2 T3 T4 T5 T6 S2 S3 S4 S5;refine⟨_,rfl,l,_,rfl,.inl (aj.of yJ),_,_,rfl,rfl,_,rfl,?_⟩;rw[aE];refine aaH (sd:=fun H8=>∃ws ds,bZ p H H8/\H8 ls=some (.lst ws)/\bu p H8 ws ds/\0 < ds.length/\ds.length<=20 /\ ∀d∈ds,Aj ks d) (fun last=>d4 (fun h5=>?_) (fun _=>last G7 ⟨_,sZ x e,P7,e7,r7,(by show 0 < 9;decide),(by show 9<=20;decide),nP⟩)) ?_
  ·have h5:4 < ks.length:=by have:=pH h5;omega
   obtain⟨k0,k1,k2,k3,k4,kr,rfl⟩:∃k0 k1 k2 k3 k4 kr,ks=k0::k1::k2::k3::k4::kr:=by
    match ks,h5 with
    |k0::k1::k2::k3::k4::kr,_=>exact⟨k0,k1,k2,k3,k4,kr,rfl⟩
   have kn:∀y ∈ [k0,k1,k2,k3,k4],y.cps.size<=8:=fun y hy=>(k.nm y (by simp only[aY,jZ,j3]at hy ⊢;rcases hy with h|h|h|h|h <;> simp[h])).hi
   have Oo:∀a b c d e:Str,a.cps.size<=8->b.cps.size<=8->c.cps.size<=8->d.cps.size<=8->e.cps.size<=8->Aj (k0::k1::k2::k3::k4::kr) (.tuple [.str a,.str b,.str c,.str d,.str e]):=fun a b c d e ha hb hc hd he=>by
    refine⟨?_,fun ps h _ _=>?_⟩
    ·have z:(PyData.tuple [.str a,.str b,.str c,.str d,.str e]).bulk=a.length+1+(b.length+1+(c.length+1+(d.length+1+(e.length+1+0)))):=rfl
     have:a.length<=8:=ha;have:b.length<=8:=hb;have:c.length<=8:=hc;have:d.length<=8:=hd;have:e.length<=8:=he;omega
    ·injection h with h
     have:=eY List.length h;simp at this;omega
   refine⟨_,rfl,.inl ⟨rfl,_,aj.of e7⟩,_,rfl,_,rfl,l,_,rfl,aj.of yJ,fun d1 jS=>?_⟩;have ec:du ((k0::k1::k2::k3::k4::kr).map V.str) none (some (5:Int)) = [.str k0,.str k1,.str k2,.str k3,.str k4]:=wY _ 5;rw[ec];have U1:=ar (o:= .lst [.str k0,.str k1,.str k2,.str k3,.str k4]) jS;have f1:upd G7 d1 (.lst [.str k0,.str k1,.str k2,.str k3,.str k4]) d1=_:=af;generalize upd G7 d1 (.lst [.str k0,.str k1,.str k2,.str k3,.str k4])=J1 at U1 f1 ⊢;refine⟨d1,_,rfl,.inl ⟨aj.of f1,fun d2 hd2=>?_⟩⟩;have U2:=U1.trans (ar (o:= .tup [.str k0,.str k1,.str k2,.str k3,.str k4]) hd2);have f2:upd J1 d2 (.tup [.str k0,.str k1,.str k2,.str k3,.str k4]) d2=_:=af;have Qn:d2≠p:=aH (aq (U1 _ _ (S7 _ _ jW)) hd2);have Qp:ls≠d2:=aq (U1 _ _ e7) hd2;generalize upd J1 d2 (.tup [.str k0,.str k1,.str k2,.str k3,.str k4])=J2 at U2 f2 ⊢;refine⟨ls,_,_,rfl,rfl,U2 _ _ e7,bp (by show 10<=100;decide),?_⟩
   have ji:=U2 _ _ yJ;have nll:l≠ls:=aq (S6 _ _ (P1.kp _ _ k.hl nl)) mw;have g3:upd J2 ls (.lst ([.ref c1,.str x,.ax,.ref c2,.int 5,.ref c3,.ref c4,.ref c5,.ref c6] ++ [.ref d2])) ls=_:=af;have yK:∀b o,b≠ls->J2 b=some o->upd J2 ls (.lst ([.ref c1,.str x,.ax,.ref c2,.int 5,.ref c3,.ref c4,.ref c5,.ref c6] ++ [.ref d2])) b=some o:=fun b o n z=>by rw[ai n];exact z
   generalize upd J2 ls (.lst ([.ref c1,.str x,.ax,.ref c2,.int 5,.ref c3,.ref c4,.ref c5,.ref c6] ++ [.ref d2]))=J3 at g3 yK ⊢;have Bb:=yK _ _ nll ji;have s3:=aj.of (K:=K) Bb;refine⟨_,rfl,.inl ⟨rfl,_,aj.of g3⟩,_,rfl,l,_,3,.str k3,rfl,rfl,s3,(dq rfl:cg _ ((3:Nat):Int)=_),_,rfl,l,_,1,.str k1,rfl,rfl,s3,(dq rfl:cg _ ((1:Nat):Int)=_),_,rfl,l,_,0,.str k0,rfl,rfl,s3,(dq rfl:cg _ ((0:Nat):Int)=_),_,rfl,l,_,2,.str k2,rfl,rfl,s3,(dq rfl:cg _ ((2:Nat):Int)=_),_,rfl,l,_,4,.str k4,rfl,rfl,s3,(dq rfl:cg _ ((4:Nat):Int)=_),bp (by show 5<=100;decide),fun d3 iI=>?_⟩
   have n3l:ls≠d3:=aq g3 iI;have U4:=ar (o:= .tup [.str k3,.str k1,.str k0,.str k2,.str k4]) iI;have f4:upd J3 d3 (.tup [.str k3,.str k1,.str k0,.str k2,.str k4]) d3=_:=af;have A7:J3 p=some _:=yK _ _ (aH HH) (U2 _ _ (S7 _ _ jW));have n3p:d3≠p:=aH (aq A7 iI);generalize upd J3 d3 (.tup [.str k3,.str k1,.str k0,.str k2,.str k4])=J4 at U4 f4 ⊢;refine⟨ls,_,_,rfl,rfl,U4 _ _ g3,bp (by show 11<=100;decide),?_⟩
   have HJ:∀b o,b≠ls->G7 b=some o->upd J4 ls (.lst ([.ref c1,.str x,.ax,.ref c2,.int 5,.ref c3,.ref c4,.ref c5,.ref c6] ++ [.ref d2] ++ [.ref d3])) b=some o:=fun b o n z=>by rw[ai n];exact U4 _ _ (yK _ _ n (U2 _ _ z))
   have kd2:upd J4 ls (.lst ([.ref c1,.str x,.ax,.ref c2,.int 5,.ref c3,.ref c4,.ref c5,.ref c6] ++ [.ref d2] ++ [.ref d3])) d2=some (.tup [.str k0,.str k1,.str k2,.str k3,.str k4]):=by rw[ai (aH Qp)];exact U4 _ _ (yK _ _ (aH Qp) f2)
   have k3':upd J4 ls (.lst ([.ref c1,.str x,.ax,.ref c2,.int 5,.ref c3,.ref c4,.ref c5,.ref c6] ++ [.ref d2] ++ [.ref d3])) d3=some (.tup [.str k3,.str k1,.str k0,.str k2,.str k4]):=by rw[ai (aH n3l)];exact f4
   have r9:bu p (upd J4 ls (.lst ([.ref c1,.str x,.ax,.ref c2,.int 5,.ref c3,.ref c4,.ref c5,.ref c6] ++ [.ref d2] ++ [.ref d3]))) _ (sZ x e):=r6.keep fun b o z _=>HJ b o (aq z mw) (T7 _ _ z);refine last _ ⟨_,sZ x e ++ [.tuple [.str k0,.str k1,.str k2,.str k3,.str k4]] ++ [.tuple [.str k3,.str k1,.str k0,.str k2,.str k4]],P1.trans ⟨⟨x0,y0,HJ _ _ (aH HH) (S7 _ _ jW),Bt⟩,fun b o z n=>HJ b o (aq z aaI) (S7 _ _ z)⟩,af,?_,(by show 0 < 11;decide),(by show 11<=20;decide),fun d hd=>?_⟩
   ·exact Dz (Dz r9 (.tup Qn kd2 (wq [k0,k1,k2,k3,k4]))) (.tup n3p k3' (wq [k3,k1,k0,k2,k4]))
   ·rcases dX.mp hd with h|h
    ·rcases dX.mp h with h|h
     ·exact nP d h
     ·rw[d5.mp h];exact Oo _ _ _ _ _ (kn k0 (by simp)) (kn k1 (by simp)) (kn k2 (by simp)) (kn k3 (by simp)) (kn k4 (by simp))
    ·rw[d5.mp h];exact Oo _ _ _ _ _ (kn k3 (by simp)) (kn k1 (by simp)) (kn k0 (by simp)) (kn k2 (by simp)) (kn k4 (by simp))
  ·rintro H8 ⟨ws,ds,P8,h8,r8,d0,d20,nP⟩
   have wl:=r8.length;refine⟨_,rfl,_,rfl,_,rfl,ls,_,rfl,.inl (aj.of h8),?_⟩;refine i4 (p:=p) P8.ok (by omega) (by omega) fun j H9 j0 j1 pf=>?_
   have hj:j.toNat < ds.length:=by omega
   obtain⟨v,hv,rv⟩:=(r8.keep pf.kp).get (b4 hj);have E1:cg ws j=some v:=by
    obtain⟨i,rfl⟩:=qQ j0;exact dq (by simpa using hv)
   exact⟨ls,_,j,v,rfl,rfl,aj.of (pf.kp _ _ h8 HH),E1,q v _ H9 (P8.trans pf) ⟨rv,nP _ (iX hj)⟩⟩
theorem fS {t:TA}{x j pos} (hr:PA X es t):PA X (.Constant (.str x) j pos::es) (DT (tC (.str x)) t):=ae eT hr
theorem WL {xs:List Str} (ha:H a=some (.tup (xs.map V.str))) (hb:H b=some (.tup (xs.map V.str))) (h1:∀x∈xs,Nm x) (q:Q (.bl true) H):Ab (.ref a) (.ref b) H Q:=by
 refine⟨.tuple (xs.map PyData.str),.tuple (xs.map PyData.str),.tup ha (mT _ xs),.tup hb (mT _ xs),k6 h1,k6 h1,by show PyData.depthAll _+1<=60;rw[qT];decide,?_⟩
 rw[RU (.tuple (xs.map PyData.str)) (k6 h1)];exact q
theorem oz {xs:List Str} (ha:H a=some (.lst (xs.map V.str))) (hb:H b=some (.lst (xs.map V.str))) (h1:∀x∈xs,Nm x) (q:Q (.bl false) H):Em (.ref a) (.ref b) H Q:=by
 refine⟨.list (xs.map PyData.str),.list (xs.map PyData.str),.lst ha (mT _ xs),.lst hb (mT _ xs),k6 h1,k6 h1,by show PyData.depthAll _+1<=60;rw[qT];decide,?_⟩
 rw[RU (.list (xs.map PyData.str)) (k6 h1)];exact q
theorem WM {xs:List Str} (ha:H a=some (.lst (xs.map V.str))) (hb:H b=some (.lst (xs.map V.str))) (h1:∀x∈xs,Nm x) (q:Q (.bl true) H):Ab (.ref a) (.ref b) H Q:=by
 refine⟨.list (xs.map PyData.str),.list (xs.map PyData.str),.lst ha (mT _ xs),.lst hb (mT _ xs),k6 h1,k6 h1,by show PyData.depthAll _+1<=60;rw[qT];decide,?_⟩
 rw[RU (.list (xs.map PyData.str)) (k6 h1)];exact q
theorem oi:∀i∈iC,∀x∈xu (some i),Nm x:=by
 have key:∀i∈iC,∀x∈xu (some i),eI x=true:=by decide +kernel
 exact fun i hi x hx=>De (key i hi x hx)
structure jM (H:Hp) (t:Addr) (aa:aF):Prop where
 fa:FA H t aa
 al:cq aa
 le:aa.length<=14
theorem jM.same {aa:aF} (h:jM H t aa) (S:ak H H'):jM H' t aa:=⟨h.fa.same S,h.al,h.le⟩
theorem jM.kd {aa:aF} (h:jM H t aa) (hx:x∈keysOf aa):bt aa (.str x)=true:=mU h.fa.1 hx
theorem jM.bk {aa:aF} (h:jM H t aa) (hx:x∈keysOf aa):Bk (.str x):=cK (h.fa.1.lH hx).hi (by decide)
theorem m3 {s:Addr}{aa:aF}{r:Option Nat} (h:jM H t aa) (i:eZ p H aa x s r) (q:∀l H',ak H H'->H' l=some (.lst ((xu r).map V.str))->Q (.ref l) H'):nB [.str x,.ref t,.ref s] H Q E:=YU h.fa h.al h.le i q
theorem XS {s:Addr}{aa:aF}{d:PyData} (hs:H s=some (.lst [v])) (r:Dt p H v d) (b:Bk d) (hk:bt aa d=false):∀x∈(["line","beneath","heirs","let go"]:List Str),eZ p H aa x s (some 1):=by
 have e1:nc aa d=some 1:=by unfold nc;rw[hk];rfl
 have e2:nO aa d=some 1:=by unfold nO;rw[au hk]
 intro x hx;simp only[aY,jZ,j3]at hx;rcases hx with rfl|rfl|rfl|rfl
 ·exact e1 ▸ .line hs r b
 ·exact e1 ▸ .beneath hs r b
 ·exact e1 ▸ .xr hs r b
 ·exact e2 ▸ .xt hs r b
theorem E3 {s:Addr}{aa:aF}{u:V}{d e:PyData} (hs:H s=some (.tup [v,u])) (r:Dt p H v d) (b:Bk d) (r2:Dt p H u e) (b2:Bk e) (hk:(bt aa d && bt aa e)=false):eZ p H aa "way" s (some 1):=by
 have e1:qg aa d e=some 1:=by unfold qg;rw[hk];rfl
 exact e1 ▸ .way hs r b r2 b2
@[irreducible] def uS:Sp:=fun vs H Q _=>∃ (p t:Addr) (aa:aF) (u v:V) (d:PyData) (o:Str),vs = [.ref t,u,v,.str o]/\jM H t aa/\Dt p H v d/\d.bulk<=20/\bt aa d=false/\o∈keysOf aa/\(∃y,H p=some y) /\ ∀H',ak H H'->Q (.bl true) H'
theorem Y3 {aa:aF}{u:V}{d:PyData}{o:Str} (ht:jM H t aa) (r:Dt p H v d) (b:d.bulk<=20) (hk:bt aa d=false) (ho:o∈keysOf aa) (hp:∃y,H p=some y) (q:∀H',ak H H'->Q (.bl true) H'):uS [.ref t,u,v,.str o] H Q E:=by unfold uS;exact⟨p,t,aa,u,v,d,o,rfl,ht,r,b,hk,ho,hp,q⟩
abbrev nPl:List Str:= ["_law_family_here","_law_kinds","_law_bad","_law_other","_law_word","_law_pair","_law_own"]
theorem Al:b3 nPl ["_law_family_here","_law_kinds","_law_bad","_law_other"] (aM DJ):=⟨rfl,rfl,rfl,by decide +kernel,rfl,by decide +kernel,by decide +kernel⟩
theorem Y4 (F:aU K "_law_plain" "_law_plain" DJ f fd)
  (GR:aD P w K mg base aR 9 fR dR jx nB) (kR:keepIn K (.ref fR)=true) (bR:Binds K dR jx []) (mR:mg "_law_refusal" = some (.ref fR))
  (GL:aD P w K mg base (a8 P w) 6 fL dL ["family","kind"] (qZ (c 1))) (kL:keepIn K (.ref fL)=true) (bL:Binds K dL ["family","kind"] []) (mL:mg "line_of" = some (.ref fL)) :
  aD P w K mg base aR 10 f fd ["_law_family_here","_law_kinds","_law_bad","_law_other"] uS:=by
 refine F.ok Al (fun vs H Q E h=>?_) (fun cdv A outer s H vs Q E hr h=>?_)
 ·unfold uS at h;obtain⟨p,t,aa,u,v,d,o,rfl,_⟩:=h;rfl
 ·unfold uS at h
  obtain⟨p,t,aa,u,v,d,o,rfl,ht,r,b,hk,ho,⟨yp,hyp⟩,q⟩:=h;have jz:aS 9 _:=hr;have ju:aS 6 _:=jz.mono (by decide)
  have hu:=hr.units;refine⟨_,aB (i8 j4 rfl (fw (a9 (fS (fS (fS (fS ah)))))) (bg (i:=4) Al.nd rfl (Or.inl rfl))
    (aO (gG (b5 (lQ hu) (aQ GR jz rfl mR kR bR .nil a7 (ae (pv 4) (ae (pv 0) (ae (a9 (ae (pv 2) ah)) ah)))) (a9 (fS ah)) (cF _)) iu)))
   (aB (i8 j4 rfl (fw (a9 (ae (d7 (ae (pv 2) (ae (pv 3) ah))) (ae (d7 (ae (pv 3) (ae (pv 2) ah))) (ae (d7 (ae (pv 2) (ae (pv 2) ah))) ah))))) (bg (i:=5) Al.nd rfl (Or.inl rfl))
    (aO (gG (b5 (lQ hu) (aQ GR jz rfl mR kR bR .nil a7 (fS (ae (pv 0) (ae (pv 5) ah)))) (a9 (fS ah)) (cF _)) iu)))
   (aB (i8 j4 rfl (fw (a9 (ae (d7 ah) (ae (d7 (ae (pv 3) ah)) (ae (d7 (ae (pv 2) ah)) (ae jF ah)))))) (bg (i:=6) Al.nd rfl (Or.inl rfl))
    (aO (gG (b5 (lQ hu) (aQ GR jz rfl mR kR bR .nil a7 (fS (ae (pv 0) (ae (a9 (ae (pv 2) (ae (pv 6) ah))) ah)))) (a9 (fS ah)) (cF _)) iu)))
   (ua (t4 (DE hu) (lM V6 (aQ GL ju rfl mL kL bL .nil Wy (ae (pv 0) (ae (pv 3) ah))) lO (k7 aG)) (d7 (ae (pv 3) ah)) (cF _))))),?_⟩
  have bd:Bk d:=cK b (by decide)
  have one:1∈iC:=by decide
  refine⟨bp (by show 4<=100;decide),fun la nM=>⟨la,rfl,⟨_,aj.of af⟩,?_⟩⟩
  have S0:=ar (o:= .lst ((["line","beneath","heirs","let go"]:List Str).map V.str)) nM;have e0:upd H la (.lst ((["line","beneath","heirs","let go"]:List Str).map V.str)) la=_:=af;refine og (xs:=(["line","beneath","heirs","let go"]:List Str).map V.str) (fun i σ H1=>∃v4:Option V,σ = [some (.ref t),some u,some v,some (.str o),v4,none,none]/\ak (upd H la (.lst ((["line","beneath","heirs","let go"]:List Str).map V.str))) H1) ⟨none,rfl,ak.refl _⟩ (fun i σ H1 _ ⟨_,_,z⟩=>aj.of (z _ _ e0)) ?_ ?_
  ·rintro i x σ H1 hx ⟨v4,rfl,S1⟩
   rw[f6]at hx;obtain⟨wd,hw,rfl⟩:=iV.mp hx;have HL:=S0.trans S1;refine⟨_,rfl,_,rfl,_,rfl,bp (by show 1<=100;decide),fun c1 h1=>?_⟩
   have S2:=ar (o:= .lst [v]) h1;have Qq:=HL.trans S2;refine m3 (ht.same Qq) (XS af (Dt.same r Qq) bd hk wd (gP hw)) fun l2 H2 S3 h2=>⟨bp (by show 1<=100;decide),fun l3 h3=>oz (xs:= ["kind"]) (ar h3 _ _ h2) af (oi 1 one) ⟨_,rfl,?_⟩⟩
   exact⟨_,rfl,S1.trans (S2.trans (S3.trans (ar h3)))⟩
  ·rintro σ H1 ⟨v4,rfl,S1⟩
   have HL:=S0.trans S1;refine⟨_,rfl,_,rfl,bp (by show 2<=100;decide),fun c1 h1=>⟨_,rfl,_,rfl,bp (by show 2<=100;decide),fun c2 h2=>⟨_,rfl,_,rfl,bp (by show 2<=100;decide),fun c3 h3=>⟨bp (by show 3<=100;decide),fun lb eK=>⟨lb,rfl,⟨_,aj.of af⟩,?_⟩⟩⟩⟩⟩
   have T1:=ar (o:= .tup [v,.str o]) h1;have e1:upd H1 c1 (.tup [v,.str o]) c1=_:=af;generalize upd H1 c1 (.tup [v,.str o])=G1 at T1 e1 h2 h3 eK ⊢;have T2:=ar (o:= .tup [.str o,v]) h2;have e2:upd G1 c2 (.tup [.str o,v]) c2=_:=af;generalize upd G1 c2 (.tup [.str o,v])=G2 at T2 e2 h3 eK ⊢;have T3:=ar (o:= .tup [v,v]) h3;have e3:upd G2 c3 (.tup [v,v]) c3=_:=af;generalize upd G2 c3 (.tup [v,v])=G3 at T3 e3 eK ⊢;have T4:=ar (o:= .lst [.ref c1,.ref c2,.ref c3]) eK;have e4:upd G3 lb (.lst [.ref c1,.ref c2,.ref c3]) lb=_:=af;generalize upd G3 lb (.lst [.ref c1,.ref c2,.ref c3])=G4 at T4 e4 ⊢;have S4:ak H G4:=HL.trans (T1.trans (T2.trans (T3.trans T4)));have r4:=Dt.same r S4;have bo:=ht.bk ho;have wI:∀x ∈ [V.ref c1,.ref c2,.ref c3],∃s,x = .ref s/\eZ p G4 aa "way" s (some 1):=by
    intro x hx;simp only[aY,jZ,j3]at hx;rcases hx with rfl|rfl|rfl
    ·exact⟨c1,rfl,E3 (T4 _ _ (T3 _ _ (T2 _ _ e1))) r4 bd (.str o) bo (by rw[hk];rfl)⟩
    ·exact⟨c2,rfl,E3 (T4 _ _ (T3 _ _ e2)) (.str o) bo r4 bd (by rw[hk,Bool.and_false])⟩
    ·exact⟨c3,rfl,E3 (T4 _ _ e3) r4 bd r4 bd (by rw[hk];rfl)⟩
   clear T1 T2 T3 T4 e1 e2 e3 h1 h2 h3 eK;refine og (xs:= [V.ref c1,.ref c2,.ref c3]) (fun i σ H2=>∃v5:Option V,σ = [some (.ref t),some u,some v,some (.str o),v4,v5,none]/\ak G4 H2) ⟨none,rfl,ak.refl _⟩ (fun i σ H2 _ ⟨_,_,z⟩=>aj.of (z _ _ e4)) ?_ ?_
   ·rintro i x σ H2 hx ⟨v5,rfl,S2⟩
    obtain⟨s0,rfl,ci⟩:=wI x (gP hx);refine⟨_,rfl,_,rfl,m3 (ht.same (S4.trans S2)) (ci.same S2) fun l2 H3 S3 h2=>⟨bp (by show 1<=100;decide),fun l3 h3=>oz (xs:= ["kind"]) (ar h3 _ _ h2) af (oi 1 one) ⟨_,rfl,?_⟩⟩⟩
    exact⟨_,rfl,S2.trans (S3.trans (ar h3))⟩
   rintro σ H2 ⟨v5,rfl,S2⟩;have S5:=S4.trans S2;refine⟨bp (by show 0<=100;decide),fun c1 h1=>⟨_,rfl,bp (by show 1<=100;decide),fun c2 h2=>⟨_,rfl,bp (by show 1<=100;decide),fun c3 h3=>⟨bp (by show 4<=100;decide),fun lb eK=>⟨lb,rfl,⟨_,aj.of af⟩,?_⟩⟩⟩⟩⟩
   have n1:c1≠p:=aH (aq (S5 _ _ hyp) h1);have T1:=ar (o:= .tup []) h1;have e1:upd H2 c1 (.tup []) c1=_:=af;generalize upd H2 c1 (.tup [])=G1 at T1 e1 h2 h3 eK ⊢;have n2:c2≠p:=aH (aq (T1 _ _ (S5 _ _ hyp)) h2);have T2:=ar (o:= .tup [.str o]) h2;have e2:upd G1 c2 (.tup [.str o]) c2=_:=af;generalize upd G1 c2 (.tup [.str o])=G2 at T2 e2 h3 eK ⊢;have n3:c3≠p:=aH (aq (T2 _ _ (T1 _ _ (S5 _ _ hyp))) h3);have T3:=ar (o:= .tup [v]) h3;have e3:upd G2 c3 (.tup [v]) c3=_:=af;generalize upd G2 c3 (.tup [v])=G3 at T3 e3 eK ⊢;have T5:=ar (o:= .lst [.ref c1,.ref c2,.ref c3,.ax]) eK;have e5:upd G3 lb (.lst [.ref c1,.ref c2,.ref c3,.ax]) lb=_:=af;generalize upd G3 lb (.lst [.ref c1,.ref c2,.ref c3,.ax])=G5 at T5 e5 ⊢;have S6:ak H G5:=S5.trans (T1.trans (T2.trans (T3.trans T5)));have r6:=Dt.same r S6;have oD:∀x ∈ [V.ref c1,.ref c2,.ref c3,.ax],∃dx,Dt p G5 x dx/\Bk dx:=by
    intro x hx;simp only[aY,jZ,j3]at hx;rcases hx with rfl|rfl|rfl|rfl
    ·exact⟨.tuple [],.tup n1 (T5 _ _ (T3 _ _ (T2 _ _ e1))) .nil,by unfold Bk;decide⟩
    ·exact⟨.tuple [.str o],.tup n2 (T5 _ _ (T3 _ _ e2)) (.cons (.str o) .nil),by have:=(ht.fa.1.lH ho).hi;show o.length+1+0<=1000;omega⟩
    ·exact⟨.tuple [d],.tup n3 (T5 _ _ e3) (.cons r6 .nil),by show d.bulk+1+0<=1000;omega⟩
    ·exact⟨.none,.ax,by unfold Bk;decide⟩
   clear T1 T2 T3 T5 e1 e2 e3 h1 h2 h3 eK;refine og (xs:= [V.ref c1,.ref c2,.ref c3,.ax]) (fun i σ H3=>∃v6:Option V,σ = [some (.ref t),some u,some v,some (.str o),v4,v5,v6]/\ak G5 H3) ⟨none,rfl,ak.refl _⟩ (fun i σ H3 _ ⟨_,_,z⟩=>aj.of (z _ _ e5)) ?_ ?_
   ·rintro i x σ H3 hx ⟨v6,rfl,S3⟩
    obtain⟨dx,rx,bx⟩:=oD x (gP hx);refine⟨_,rfl,_,rfl,_,rfl,bp (by show 2<=100;decide),fun c1 h1=>?_⟩
    have S7:=S3.trans (ar (o:= .lst [v,x]) h1);have ci:eZ p (upd H3 c1 (.lst [v,x])) aa "changed" c1 (some 1):=by
     have e:i6 aa d dx=some 1:=by unfold i6;rw[au hk]
     exact e ▸ .changed af (Dt.same r6 S7) bd (Dt.same rx S7) bx
    refine m3 (ht.same (S6.trans S7)) ci fun l2 H4 S8 h2=>⟨bp (by show 1<=100;decide),fun l3 h3=>oz (xs:= ["kind"]) (ar h3 _ _ h2) af (oi 1 one) ⟨_,rfl,?_⟩⟩
    exact⟨_,rfl,S7.trans (S8.trans (ar h3))⟩
   rintro σ H3 ⟨v6,rfl,S3⟩;have S7:=S6.trans S3;refine⟨_,rfl,_,rfl,KN (p:=p) (ht.fa.same S7) ht.al (.str o) bo (fun z=>by rw[ht.kd ho]at z;cases z) fun k ek _ pl H4 S8 h4=>?_⟩
   cases ek
   obtain⟨po,HM,tf⟩:=bw.mp ho;have el:=(pM ht.fa.1 ht.al HM).2.2;have tf:po.1=o:=tf;rw[tf]at el;refine⟨_,rfl,pl,_,rfl,h4,fun c5 H5 S9 h5=>⟨_,rfl,bp (by show 1<=100;decide),fun c6 h6=>?_⟩⟩
   have ec:du ((aP aa o).map V.str) none (some (1:Int))=([o]:List Str).map V.str:=by
    rw[el];exact wY _ 1
   rw[ec]at h5;refine WL (xs:= [o]) (ar h6 _ _ h5) af (fun x hx=>by rw[d5.mp hx];exact ht.fa.1.lH ho) ?_
   exact q _ (S7.trans (S8.trans (S9.trans (ar h6))))
theorem XT (c:Nat):(!(Builtin.Str.occurrences (Str.ofString "abcdefghijklmnopqrstuvwxyz") ⟨#[c]⟩ 0 (Str.ofString "abcdefghijklmnopqrstuvwxyz").length 1).isEmpty)=(decide (97<=c) && decide (c<=122)):=by
 rw[StrLaws.found_one,show(Str.ofString "abcdefghijklmnopqrstuvwxyz").cps.toList=List.range' 97 26 from by decide +kernel,<-Bool.decide_and]
 refine B6.mpr ?_;rw[List.mem_range'_1];omega
theorem JV:∀ (k:Nat) (l:List Str),bq k [l,[]]≠none
 |0,l=>by intro h;cases h
 |k+1,[]=>by intro h;cases h
 |k+1,y::l=>by
  intro h;unfold bq at h;rw[au (show([y::l,[]].any fun r=>!r.isEmpty)=true from rfl)]at h;have e:d6 [y::l,[]]=some y:=by
   show(if (cw 0 [y::l,[]] y).isNone then some y else _)=some y;rw[au];rw[vP (by simp)];rfl
  rw[e]at h;exact JV k _ (ah7.mp h)
theorem UE:∀ (k:Nat) (x:Str) (l:List Str),bq k [x::l,[x]]≠none
 |0,x,l=>by intro h;cases h
 |k+1,x,l=>by
  intro h;unfold bq at h;rw[au (show([x::l,[x]].any fun r=>!r.isEmpty)=true from rfl)]at h;have e:d6 [x::l,[x]]=some x:=by
   show(if (cw 0 [x::l,[x]] x).isNone then some x else _)=some x;rw[au];rw[vP (by simp),vP (by simp)];rfl
  rw[e]at h;have h:=ah7.mp h;have e2:without x [x::l,[x]] = [(x::l).filter fun y=>!decide (y=x),[]]:=by
   simp[L2.without]
  rw[e2]at h;exact JV k _ h
theorem WN {aa:aF} (st:cp aa) (al:cq aa) (hl:aa.length<=14) {o:Str} (nx:Nm x) (hx:x ∉ keysOf aa) (ho:o∈keysOf aa):cq (dk aa x [o]):=by
 have gW:=Dc st hl nx (ps:= [o]) (by simp) (by show 1<=4;decide) (fun y hy=>by rw[d5.mp hy];exact ho)
 obtain⟨po,HM,tf⟩:=bw.mp ho;have tf:po.1=o:=tf;intro q hq;rcases n8.mp hq with⟨h1,h2⟩|rfl
 ·exact(Dd hx (al _ h1)).ln gW
 ·have ln:=(Dd (ps:= [o]) hx (zJ al ho)).ln gW
  have eo:aP (dk aa x [o]) o=o::(aP aa o).tail:=by
   rw[UC gW hx (zJ al ho),<-tf];exact(pM st al HM).2.2
  cases e:bq (total (rowsOf (aP (dk aa x [o])) [o])) (rowsOf (aP (dk aa x [o])) [o]) with
  |none =>
   have er:rowsOf (aP (dk aa x [o])) [o] = [o::(aP aa o).tail,[o]]:=by
    show [aP (dk aa x [o]) o,[o]]=_;rw[eo]
   rw[er]at e;exact absurd e (UE _ _ _)
  |some r=>exact(MY gW hq (fun y hy=>by rw[d5.mp hy];exact ln) e).1
abbrev Qr:List Str:= ["_law_thing","_law_letters"]
theorem Mf:b3 Qr ["_law_thing"] (aM wW):=⟨rfl,rfl,rfl,by decide +kernel,rfl,by decide +kernel,by decide +kernel⟩
abbrev Y5:Expr:=iz (M5 (nu (cL (cA wW) 1)) 2)
theorem MG:cj Qr (aM wW) ["_law_sign","_law_letters"] [none,some 1] (cW Y5):=⟨rfl,by decide +kernel,by decide +kernel,rfl,d9 (by decide +kernel),by decide +kernel⟩
theorem VI (F:aU K "_law_is_name" "_law_is_name" wW f fd) (B:fg mg) (B2:km mg):aD P w K mg base aR 1 f fd ["_law_thing"] lg:=by
 refine F.ok Mf (fun vs H Q E h=>?_) (fun cdv A outer s H vs Q E hr h=>?_)
 ·unfold lg at h;obtain⟨p,v,d,rfl,_⟩:=h;rfl
 ·unfold lg at h
  obtain⟨p0,v,d,rfl,r,hlen,q⟩:=h;refine⟨_,aB (aZ (i:=1) Mf.nd rfl (Or.inr rfl) eT)
   (aO (b9 (DA (ck CS rfl B2.yz wm (ae (pv 0) (ae (zG (v:= .ty "str") rfl B2.str boot_str rfl) ah)))
    (DA (KR DR DR aG (ck Ca rfl B.len jB (ae (pv 0) ah)) aG)
    (Mh (ck (vU rfl) rfl B.all boot_all (ae (eQ rfl MG (Ms (pv 0)) (fun s H fp=>⟨bg (i:=0) MG.nd rfl (Or.inl rfl),iZ,t4 TH (pv 0) (pv 1) rfl⟩)) ah))))))),?_⟩
  refine⟨_,rfl,DG LV r ⟨_,rfl,?_⟩⟩;cases hb:mn "str" d with
  |false=>have q':=q _ (ak.refl _);rw[Mb hb]at q';exact q'
  |true =>
   obtain⟨x,rfl⟩:=Xs hb;obtain rfl:=lU r;have hlx:=hlen x rfl;refine⟨_,rfl,x,rfl,by rw[aI];omega,0,x.length,rfl,rfl,_,rfl,?_⟩
   by_cases h1:1<=x.length
   ·refine ite_tt (cZ (by omega)) ?_
    refine⟨x.length,9,rfl,rfl,_,rfl,?_⟩
    by_cases h8:x.length<=8
    ·have e8:decide ((x.length:Int) < 9)=true:=cZ (by omega)
     have hlc:x.cps.size<=8:=h8;rw[e8];refine⟨_,rfl,x,rfl,fun p hp=>?_⟩;refine K7 (fun i ys τ H1=>∃t0:Option V,τ = [t0,some (.str "abcdefghijklmnopqrstuvwxyz")]/\ys=((x.cps.toList.take i).map fun c=>decide (97<=c) && decide (c<=122)).map V.bl/\H1=upd H p (.lst ys)) ⟨none,rfl,rfl,rfl⟩ (fun i ys τ H1 ⟨_,_,_,z⟩=>by rw[z];exact af) ?_ ?_
     ·rintro i c ys τ H1 hc ⟨t0,rfl,rfl,rfl⟩
      have gk:i < x.cps.size:=(yT.mp hc).1;have su:x.cps.toList.take (i+1)=x.cps.toList.take i ++ [c]:=by rw[dZ,IH,hc];rfl
      refine⟨_,rfl,_,rfl,_,_,rfl,rfl,af,by rw[aE,aE,dh,mz,aI];omega,cw_next gk ⟨_,rfl,?_,by rw[gR]⟩⟩
      rw[XT,su,bj,bj];rfl
     ·rintro ys τ H1 ⟨t0,rfl,rfl,rfl⟩
      refine⟨p,_,rfl,aj.of af,?_⟩;have q':=q _ (ar (o:= .lst (((x.cps.toList.take x.cps.size).map fun c=>decide (97<=c) && decide (c<=122)).map V.bl)) hp);rw[show de (.str x)=((x.cps.toList.take x.cps.size).map fun c=>decide (97<=c) && decide (c<=122)).all id by
       show eI x=_;unfold eI;rw[cZ h1,cZ h8,tF,yZ (by rw[mz];exact aK _)];rfl]at q'
      exact q'
    ·have e8:decide ((x.length:Int) < 9)=false:=gv (by omega)
     rw[e8];have q':=q _ (ak.refl _);rw[show de (.str x)=false by show eI x=_;unfold eI;rw[gv h8];simp]at q'
     exact q'
   ·refine ite_ff (gv (by omega)) ?_
    have q':=q _ (ak.refl _);rw[show de (.str x)=false by show eI x=_;unfold eI;rw[gv h1];simp]at q'
    exact⟨_,rfl,q'⟩
theorem aaJ {G:Prop}{sd:Hp->Prop}{C:Option V->Hp->Prop} (h1:(∀v H6,sd H6->C v H6)->G) (h2:∀v H6,sd H6->C v H6):G:=h1 h2
theorem Oq {c1 c2 lb:Addr}{yp:HO}{u:V}{e:PyData}{o:Str} (S1:ak H H1) (hyp:H p=some yp) (h1:H1 c1=none) (h2:upd H1 c1 (.tup []) c2=none) (eK:upd (upd H1 c1 (.tup [])) c2 (.tup [V.str o]) lb=none) (r2:Dt p H u e) (be:Bk e) (o8:o.length<=8) :
  (ak H (upd (upd (upd H1 c1 (.tup [])) c2 (.tup [V.str o])) lb (.lst [V.ref c1,.ref c2,u]))/\upd (upd (upd H1 c1 (.tup [])) c2 (.tup [V.str o])) lb (.lst [V.ref c1,.ref c2,u]) lb=some (.lst [V.ref c1,.ref c2,u])) /\
  ∀x ∈ [V.ref c1,.ref c2,u],∃dx,Dt p (upd (upd (upd H1 c1 (.tup [])) c2 (.tup [V.str o])) lb (.lst [V.ref c1,.ref c2,u])) x dx/\Bk dx:=by
 have n1:c1≠p:=aH (aq (S1 _ _ hyp) h1);have T1:=ar (o:= .tup []) h1;have e1:upd H1 c1 (.tup []) c1=_:=af;generalize upd H1 c1 (.tup [])=G1 at T1 e1 h2 eK ⊢;have n2:c2≠p:=aH (aq (T1 _ _ (S1 _ _ hyp)) h2);have T2:=ar (o:= .tup [V.str o]) h2;have e2:upd G1 c2 (.tup [V.str o]) c2=_:=af;generalize upd G1 c2 (.tup [V.str o])=G2 at T2 e2 eK ⊢;have T3:=ar (o:= .lst [V.ref c1,.ref c2,u]) eK;have S3:=S1.trans (T1.trans (T2.trans T3));refine⟨⟨S3,af⟩,fun x hx=>?_⟩;simp only[aY,jZ,j3]at hx;rcases hx with rfl|rfl|rfl
 ·exact⟨.tuple [],.tup n1 (T3 _ _ (T2 _ _ e1)) .nil,by unfold Bk;decide⟩
 ·exact⟨.tuple [.str o],.tup n2 (T3 _ _ e2) (.cons (.str o) .nil),by show o.length+1+0<=1000;omega⟩
 ·exact⟨e,Dt.same r2 S3,be⟩
theorem Ls {aa:aF}{ds:List PyData}{d:PyData} (h:d∈ds) (hk:bt aa d=false):fc aa (.tuple ds)=false:=by
 cases e:fc aa (.tuple ds) with
 |false=>rfl
 |true =>
  have e:(je (.tuple ds) && (decide (ds.length<=4) && ds.all (bt aa)))=true:=e;simp only[jA,iW]at e;rw[e.2.2 d h]at hk;cases hk
theorem z5 {s:Addr}{aa:aF}{u:V}{d e:PyData}{r:Option Nat} (hs:H s=some (.lst [v,u])) (rd:Dt p H v d) (b:Bk d) (r2:Dt p H u e) (b2:Bk e) (hk:gH aa d e=r):eZ p H aa "made" s r:=hk ▸ .made hs rd b r2 b2
@[irreducible] def uT:Sp:=fun vs H Q _=>∃ (p t:Addr) (aa:aF) (v u:V) (d e:PyData) (o:Str),vs = [.ref t,v,.str o,u]/\jM H t aa/\Dt p H v d/\d.bulk<=20/\bt aa d=false/\o∈keysOf aa/\Dt p H u e/\e.bulk<=100/\fc aa e=false/\(∃y,H p=some y) /\ ∀H',ak H H'->Q (.bl true) H'
theorem Y6 {aa:aF}{u:V}{d e:PyData}{o:Str} (ht:jM H t aa) (r:Dt p H v d) (b:d.bulk<=20) (hk:bt aa d=false) (ho:o∈keysOf aa) (r2:Dt p H u e) (b2:e.bulk<=100) (jl:fc aa e=false) (hp:∃y,H p=some y) (q:∀H',ak H H'->Q (.bl true) H'):uT [.ref t,v,.str o,u] H Q E:=by unfold uT;exact⟨p,t,aa,v,u,d,e,o,rfl,ht,r,b,hk,ho,r2,b2,jl,hp,q⟩
abbrev nMr:List Str:= ["_law_family_here","_law_bad","_law_other","_law_no_parents_here","_law_own"]
theorem Am:b3 nMr ["_law_family_here","_law_bad","_law_other","_law_no_parents_here"] (aM C3):=⟨rfl,rfl,rfl,by decide +kernel,rfl,by decide +kernel,by decide +kernel⟩
theorem Y7 (F:aU K "_law_made_refused" "_law_made_refused" C3 f fd)
  (GR:aD P w K mg base aR 9 fR dR jx nB) (kR:keepIn K (.ref fR)=true) (bR:Binds K dR jx []) (mR:mg "_law_refusal" = some (.ref fR))
  (GN:aD P w K mg base aR 1 fN dN ["_law_thing"] lg) (kN:keepIn K (.ref fN)=true) (bN:Binds K dN ["_law_thing"] []) (mN:mg "_law_is_name" = some (.ref fN)) :
  aD P w K mg base aR 10 f fd ["_law_family_here","_law_bad","_law_other","_law_no_parents_here"] uT:=by
 refine F.ok Am (fun vs H Q E h=>?_) (fun cdv A outer s H vs Q E hr h=>?_)
 ·unfold uT at h;obtain⟨p,t,aa,v,u,d,e,o,rfl,_⟩:=h;rfl
 ·unfold uT at h
  obtain⟨p,t,aa,v,u,d,e,o,rfl,ht,r,b,hk,ho,r2,b2,jl,⟨yp,hyp⟩,q⟩:=h;have jz:aS 9 _:=hr;have cJ:aS 1 _:=jz.mono (by decide)
  have hu:=hr.units;refine⟨_,aB (fj (jG (i7 (aQ GN cJ rfl mN kN bN .nil a7 (ae (pv 1) ah))))
    (aO (i8 j4 rfl (fw (a9 (ae (d7 ah) (ae (d7 (ae (pv 2) ah)) (ae (pv 3) ah))))) (bg (i:=4) Am.nd rfl (Or.inl rfl))
     (aO (gG (b5 (lQ hu) (aQ GR jz rfl mR kR bR .nil a7 (fS (ae (pv 0) (ae (a9 (ae (pv 1) (ae (pv 4) ah))) ah)))) (a9 (fS ah)) (cF _)) iu))))
    (aB (i8 j4 rfl (fw (a9 (ae (pv 3) (ae (d7 (ae (pv 1) ah)) (ae (d7 (ae (pv 2) (ae (pv 1) ah))) ah))))) (bg (i:=4) Am.nd rfl (Or.inl rfl))
     (aO (gG (b5 (lQ hu) (aQ GR jz rfl mR kR bR .nil a7 (fS (ae (pv 0) (ae (a9 (ae (pv 1) (ae (pv 4) ah))) ah)))) (a9 (fS ah)) (cF _)) iu)))
    (aO (gG (b5 (lQ hu) (aQ GR jz rfl mR kR bR .nil a7 (fS (ae (pv 0) (ae (a9 (ae (pv 1) (ae (d7 (ae (pv 2) ah)) ah))) ah)))) (a9 ah) (cF _)) iu))))
   (aB (i8 j4 rfl (fw (a9 (ae (d7 ah) (ae (d7 (ae (pv 2) ah)) (ae (pv 3) ah))))) (bg (i:=4) Am.nd rfl (Or.inl rfl))
    (aO (gG (b5 (lQ hu) (aQ GR jz rfl mR kR bR .nil a7 (fS (ae (pv 0) (ae (a9 (ae (pv 2) (ae (pv 4) ah))) ah)))) (a9 (fS ah)) (cF _)) iu)))
   (ua iu)),?_⟩
  have bd:Bk d:=cK b (by decide)
  have be:Bk e:=cK b2 (by decide)
  have bo:=ht.bk ho;have o8:o.length<=8:=(ht.fa.1.lH ho).hi;refine⟨_,rfl,zD r bd.sm.str fun H1 S1=>⟨_,rfl,?_⟩⟩
  apply aaJ (sd:=fun H2=>ak H H2)
  ·intro last
   cases hn:de d with
   |false =>
    have em:∀dx,gH aa d dx=some 0:=fun dx=>by unfold gH;rw[au hn]
    refine⟨bp (by show 0<=100;decide),fun c1 h1=>⟨_,rfl,bp (by show 1<=100;decide),fun c2 h2=>⟨_,rfl,bp (by show 3<=100;decide),fun lb eK=>⟨lb,rfl,⟨_,aj.of af⟩,?_⟩⟩⟩⟩
    obtain⟨T,oD⟩:=Oq S1 hyp h1 h2 eK r2 be o8;generalize upd (upd (upd H1 c1 (.tup [])) c2 (.tup [V.str o])) lb (.lst [V.ref c1,.ref c2,u])=G at T oD ⊢;refine og (xs:= [V.ref c1,.ref c2,u]) (fun i σ H3=>∃v4:Option V,σ = [some (.ref t),some v,some (.str o),some u,v4]/\ak G H3) ⟨none,rfl,ak.refl _⟩ (fun i σ H3 _ ⟨_,_,z⟩=>aj.of (z _ _ T.2)) ?_ ?_
    ·rintro i x σ H3 hx ⟨v6,rfl,S3⟩
     obtain⟨dx,rx,bx⟩:=oD x (gP hx);refine⟨_,rfl,_,rfl,_,rfl,bp (by show 2<=100;decide),fun c1 h1=>?_⟩
     have S7:=S3.trans (ar (o:= .lst [v,x]) h1);have S8:=T.1.trans S7;refine m3 (ht.same S8) (z5 af (Dt.same r S8) bd (Dt.same rx S7) bx (em dx)) fun l2 H4 S9 h2=>⟨bp (by show 1<=100;decide),fun l3 h3=>oz (xs:= ["name"]) (ar h3 _ _ h2) af (oi 0 (by decide)) ⟨_,rfl,?_⟩⟩
     exact⟨_,rfl,S7.trans (S9.trans (ar h3))⟩
    ·rintro σ H3 ⟨v6,rfl,S3⟩
     exact last v6 H3 (T.1.trans S3)
   |true =>
    have fo : ¬ de d=false:=by simp[hn]
    have gY : ¬ bt aa d=true:=by simp[hk]
    obtain⟨x,ed⟩:∃x,d = .str x:=⟨_,zE hn⟩;have nx:Nm x:=De (by rw[ed]at hn;exact hn)
    have nxk:x ∉ keysOf aa:=fun z=>by rw[ed,ht.kd z]at hk;cases hk
    have em:∀dx,fc aa dx=false->gH aa d dx=some 2:=fun dx z=>by unfold gH;rw[ao fo,ao gY,au z]
    refine⟨_,rfl,_,rfl,bp (by show 1<=100;decide),fun c1 h1=>⟨_,rfl,_,rfl,bp (by show 2<=100;decide),fun c2 h2=>⟨bp (by show 3<=100;decide),fun lb eK=>⟨lb,rfl,⟨_,aj.of af⟩,?_⟩⟩⟩⟩
    have n1:c1≠p:=aH (aq (S1 _ _ hyp) h1);have T1:=ar (o:= .tup [v]) h1;have e1:upd H1 c1 (.tup [v]) c1=_:=af;generalize upd H1 c1 (.tup [v])=G1 at T1 e1 h2 eK ⊢;have n2:c2≠p:=aH (aq (T1 _ _ (S1 _ _ hyp)) h2);have T2:=ar (o:= .tup [.str o,v]) h2;have e2:upd G1 c2 (.tup [.str o,v]) c2=_:=af;generalize upd G1 c2 (.tup [.str o,v])=G2 at T2 e2 eK ⊢;have T3:=ar (o:= .lst [u,.ref c1,.ref c2]) eK;have e3:upd G2 lb (.lst [u,.ref c1,.ref c2]) lb=_:=af;generalize upd G2 lb (.lst [u,.ref c1,.ref c2])=G at T3 e3 ⊢;have S3:=S1.trans (T1.trans (T2.trans T3));have rG:=Dt.same r S3;have oD:∀x ∈ [u,.ref c1,.ref c2],∃dx,Dt p G x dx/\Bk dx/\fc aa dx=false:=by
     intro y hy;simp only[aY,jZ,j3]at hy;rcases hy with rfl|rfl|rfl
     ·exact⟨e,Dt.same r2 S3,be,jl⟩
     ·exact⟨.tuple [d],.tup n1 (T3 _ _ (T2 _ _ e1)) (.cons rG .nil),by show d.bulk+1+0<=1000;omega,Ls aV hk⟩
     ·exact⟨.tuple [.str o,d],.tup n2 (T3 _ _ e2) (.cons (.str o) (.cons rG .nil)),by show o.length+1+(d.bulk+1+0)<=1000;omega,Ls (bV _ aV) hk⟩
    clear T1 T2 T3 e1 e2 h1 h2 eK;refine og (xs:= [u,.ref c1,.ref c2]) (fun i σ H3=>∃v4:Option V,σ = [some (.ref t),some v,some (.str o),some u,v4]/\ak G H3) ⟨none,rfl,ak.refl _⟩ (fun i σ H3 _ ⟨_,_,z⟩=>aj.of (z _ _ e3)) ?_ ?_
    ·rintro i x σ H3 hx ⟨v6,rfl,S4⟩
     obtain⟨dx,rx,bx,px⟩:=oD x (gP hx);refine⟨_,rfl,_,rfl,_,rfl,bp (by show 2<=100;decide),fun c1 h1=>?_⟩
     have S7:=S4.trans (ar (o:= .lst [v,x]) h1);refine m3 (ht.same (S3.trans S7)) (z5 af (Dt.same rG S7) bd (Dt.same rx S7) bx (em dx px)) fun l2 H4 S9 h2=>⟨bp (by show 1<=100;decide),fun l3 h3=>oz (xs:= ["parents"]) (ar h3 _ _ h2) af (oi 2 (by decide)) ⟨_,rfl,?_⟩⟩
     exact⟨_,rfl,S7.trans (S9.trans (ar h3))⟩
    ·rintro σ H3 ⟨v6,rfl,S4⟩
     have S5:=S3.trans S4;refine⟨_,rfl,_,rfl,_,rfl,bp (by show 1<=100;decide),fun c3 h3=>⟨bp (by show 2<=100;decide),fun c4 h4=>?_⟩⟩
     have n3:c3≠p:=aH (aq (S5 _ _ hyp) h3);have T1:=ar (o:= .tup [V.str o]) h3;have T2:=ar (o:= .lst [v,.ref c3]) h4;have S6:=S5.trans (T1.trans T2);have pt:fc aa (.tuple [.str o])=true:=by
      show(je _ && (_ && _))=true;have h1:je (.tuple [.str o])=true:=by
       show((eI o && true) && decide ([o]:List Str).Nodup)=true;rw[wo (ht.fa.1.lH ho)];simp
      rw[h1,IE,ht.kd ho];rfl
     have emn:gH aa d (.tuple [.str o])=none:=by
      unfold gH;rw[ao fo,ao gY,ao (by simp[pt]),ed]
      exact au (WN ht.fa.1 ht.al ht.le nx nxk ho)
     refine m3 (ht.same S6) (z5 af (Dt.same r S6) bd (.tup n3 (T2 _ _ af) (.cons (.str o) .nil)) (by show o.length+1+0<=1000;omega) emn) fun l2 H4 S9 h2=>⟨bX _,fun l3 h5=>oz (xs:= []) (ar h5 _ _ h2) af (fun x hx=>by cases hx) ⟨_,rfl,?_⟩⟩
     exact last v6 _ (S6.trans (S9.trans (ar h5)))
  ·rintro v4 H2 S2
   have nk:de (.str o)=true:=wo (ht.fa.1.lH ho);have em:∀dx,gH aa (.str o) dx=some 3:=fun dx=>by unfold gH;rw[ao (by rw[nk];decide),au (ht.kd ho)]
   refine⟨bp (by show 0<=100;decide),fun c1 h1=>⟨_,rfl,bp (by show 1<=100;decide),fun c2 h2=>⟨_,rfl,bp (by show 3<=100;decide),fun lb eK=>⟨lb,rfl,⟨_,aj.of af⟩,?_⟩⟩⟩⟩
   obtain⟨T,oD⟩:=Oq S2 hyp h1 h2 eK r2 be o8;generalize upd (upd (upd H2 c1 (.tup [])) c2 (.tup [V.str o])) lb (.lst [V.ref c1,.ref c2,u])=G at T oD ⊢;refine og (xs:= [V.ref c1,.ref c2,u]) (fun i σ H3=>∃v4:Option V,σ = [some (.ref t),some v,some (.str o),some u,v4]/\ak G H3) ⟨v4,rfl,ak.refl _⟩ (fun i σ H3 _ ⟨_,_,z⟩=>aj.of (z _ _ T.2)) ?_ ?_
   ·rintro i x σ H3 hx ⟨v6,rfl,S3⟩
    obtain⟨dx,rx,bx⟩:=oD x (gP hx);refine⟨_,rfl,_,rfl,_,rfl,bp (by show 2<=100;decide),fun c1 h1=>?_⟩
    have S7:=S3.trans (ar (o:= .lst [.str o,x]) h1);refine m3 (ht.same (T.1.trans S7)) (z5 af (.str o) bo (Dt.same rx S7) bx (em dx)) fun l2 H4 S9 h2=>⟨bp (by show 1<=100;decide),fun l3 h3=>oz (xs:= ["taken"]) (ar h3 _ _ h2) af (oi 3 (by decide)) ⟨_,rfl,?_⟩⟩
    exact⟨_,rfl,S7.trans (S9.trans (ar h3))⟩
   ·rintro σ H3 ⟨v6,rfl,S3⟩
    exact q H3 (T.1.trans S3)
structure LnP (aa:List (Str×List Str)) (L:Str->List Str):Prop where
 mem:∀p∈aa,∀y,y∈L p.1 ↔ y=p.1 \/ ∃x∈p.2,y∈L x
 len:∀p∈aa,∀x∈p.2,(L x).length < (L p.1).length
 le8:∀p∈aa,(L p.1).length<=8
 inn:∀p∈aa,∀y∈L p.1,∃q∈aa,q.1=y
theorem Fm.lnP (F:Fm ks L Ps) (h8:ks.length<=8):LnP (gA Ps ks) L:=by
 have mem:∀ {p:Str×List Str},p∈gA Ps ks->p.1∈ks/\p.2=Ps p.1:=fun {p} hp=>by
  obtain⟨x,hx,rfl⟩:=bw.mp hp;exact⟨hx,rfl⟩
 have self:∀x∈ks,x∈L x:=fun x hx=>by obtain⟨o,_,e⟩:=F.ln x hx;rw[e];exact aV
 refine⟨fun p hp y=>?_,fun p hp x hx=>?_,fun p hp=>?_,fun p hp y hy=>?_⟩
 ·obtain⟨h1,h2⟩:=mem hp
  rw[h2];obtain⟨o,hm,hL⟩:=F.ln _ h1;obtain⟨n1,n2,n3⟩:=F.ps _ h1;obtain⟨⟨_,s2⟩,_⟩:=sound _ _ rfl (fun r hr=>(F.rE n1 n3 r hr).1) o hm;rw[hL,aY,s2]
  constructor
  ·rintro(h|⟨r,hr,hy⟩)
   ·exact .inl h
   ·rcases lL.mp hr with⟨z,hz,rfl⟩|rfl
    ·exact .inr ⟨z,hz,hy⟩
    ·exact .inr ⟨y,hy,self y (n3 y hy)⟩
  ·rintro(h|⟨z,hz,hy⟩)
   ·exact .inl h
   ·exact .inr ⟨L z,lL.mpr (.inl ⟨z,hz,rfl⟩),hy⟩
 ·obtain⟨h1,h2⟩:=mem hp
  rw[h2]at hx;obtain⟨o,hm,hL⟩:=F.ln _ h1;obtain⟨n1,_,n3⟩:=F.ps _ h1;obtain⟨_,_,h5⟩:=F.order n1 n3 hm;have:=len_sub (F.ld x (n3 x hx)).1 fun y hy=>h5 (L x) (lL.mpr (.inl ⟨x,hx,rfl⟩)) y hy;rw[hL,cO];omega
 ·obtain⟨h1,h2⟩:=mem hp
  exact cK (len_sub (F.ld _ h1).1 (F.ld _ h1).2) h8
 ·obtain⟨h1,h2⟩:=mem hp
  exact⟨(y,Ps y),bw.mpr ⟨y,(F.ld _ h1).2 y hy,rfl⟩,rfl⟩
theorem VJ (F:Fm ks L Ps):∀p∈gA Ps ks,∀x∈p.2,∃q∈gA Ps ks,q.1=x:=fun p hp x hx=>by
 obtain⟨y,hy,rfl⟩:=bw.mp hp;exact⟨(x,Ps x),bw.mpr ⟨x,(F.ps y hy).2.2 x hx,rfl⟩,rfl⟩
theorem KQ (h:x∈ks):(x,Ps x)∈gA Ps ks:=bw.mpr ⟨x,h,rfl⟩
theorem Fm.famSt (F:Fm ks L Ps) (nd:ks.Nodup) (nm:∀x∈ks,Nm x) (h8:ks.length<=8) {aa:aF} (pm:aa.Perm (gA Ps ks)):cp aa:=by
 refine cp.perm ⟨by rw[JS];exact nd,by unfold gA;rw[aE];omega,fun p hp=>?_,VJ F,fun p hp=>?_,fun p hp=>?_⟩ pm
 ·obtain⟨x,hx,rfl⟩:=bw.mp hp;exact nm x hx
 ·obtain⟨x,hx,rfl⟩:=bw.mp hp;exact(F.ps x hx).2.1
 ·obtain⟨x,hx,rfl⟩:=bw.mp hp;exact(F.ps x hx).1
theorem Fm.has (F:Fm ks L Ps) (h8:ks.length<=8) {S:Str->Prop}{aa:aF} (h:∀x∈ks,S x->(x,Ps x)∈aa /\ ∀y∈Ps x,S y):∀x∈ks,S x->b8 aa x (L x):=by
 have lp:=F.lnP h8;have key:∀n,∀x∈ks,S x->(L x).length=n->b8 aa x (L x):=by
  intro n
  induction n using Nat.strongRecOn with
  |_ n ih =>
   intro x hx sx e;obtain⟨o,hg,hL⟩:=F.ln x hx;obtain⟨h1,h2⟩:=h x hx sx;have ln:∀y∈Ps x,(L y).length < (L x).length:=lp.len _ (KQ hx);rw[hL];exact .mk h1 (fun y hy=>ih _ (by rw[<-e];exact ln y hy) y ((F.ps x hx).2.2 y hy) (h2 y hy) rfl) hg
 exact fun x hx sx=>key _ x hx sx rfl
theorem Fm.aaK (F:Fm ks L Ps) (h8:ks.length<=8) {aa:aF} (pm:aa.Perm (gA Ps ks)):∀x∈ks,b8 aa x (L x):=fun x hx=>F.has h8 (S:=fun _=>True) (fun y hy _=>⟨pm.mem_iff.mpr (KQ hy),fun _ _=>True.intro⟩) x hx True.intro
structure eU (H:Hp) (ks:List Str) (t d:Addr) (kvs:List (Key×V)) (L Ps:Str->List Str) (aa:aF):Prop where
 fv:∃ws,H t=some (.tup ws)/\b7 H ws aa
 pm:aa.Perm (gA Ps ks)
 fm:Fm ks L Ps
 nd:ks.Nodup
 nm:∀x∈ks,Nm x
 k8:ks.length<=8
 hd:H d=some (.dK kvs)
 hk:kvs.map (·.1)=ks.map Sum.inr
 pl:∀x∈ks,fV H kvs Ps x
 so:yE aa
section
variable{aa:aF}
theorem eU.same (R:eU H ks t d kvs L Ps aa) (S:ak H H'):eU H' ks t d kvs L Ps aa:=
 ⟨let ⟨ws,a,b⟩:=R.fv;⟨ws,S _ _ a,b.same S⟩,R.pm,R.fm,R.nd,R.nm,R.k8,S _ _ R.hd,R.hk,fun x hx=>let ⟨a,e,q⟩:=R.pl x hx;⟨a,e,S _ _ q⟩,R.so⟩
theorem eU.st (R:eU H ks t d kvs L Ps aa):cp aa:=R.fm.famSt R.nd R.nm R.k8 R.pm
theorem eU.fa (R:eU H ks t d kvs L Ps aa):FA H t aa:=⟨R.st,R.fv⟩
theorem eU.mem (R:eU H ks t d kvs L Ps aa) {p:Str×List Str}:p∈aa ↔ p.1∈ks/\p.2=Ps p.1:=by
 rw[R.pm.mem_iff]
 constructor
 ·intro h
  obtain⟨x,hx,rfl⟩:=bw.mp h;exact⟨hx,rfl⟩
 ·rintro⟨h1,h2⟩
  exact bw.mpr ⟨p.1,h1,by rw[<-h2]⟩
theorem eU.key (R:eU H ks t d kvs L Ps aa):x∈keysOf aa ↔ x∈ks:=
 ⟨fun h=>by obtain⟨p,hp,rfl⟩:=bw.mp h;exact(R.mem.mp hp).1,fun h=>bw.mpr ⟨(x,Ps x),R.mem.mpr ⟨h,rfl⟩,rfl⟩⟩
theorem eU.len (R:eU H ks t d kvs L Ps aa):aa.length=ks.length:=by rw[R.pm.length_eq];unfold gA;rw[aE]
theorem eU.has (R:eU H ks t d kvs L Ps aa) (hx:x∈ks):b8 aa x (L x):=R.fm.aaK R.k8 R.pm x hx
theorem eU.all (R:eU H ks t d kvs L Ps aa):cq aa:=fun p hp=>(R.has (R.mem.mp hp).1).ln R.st
end
theorem eU.keep {aa:aF} (R:eU H ks t d kvs L Ps aa) (pk:f9 p H) (k:∀b o,H b=some o->b≠p->H' b=some o):eU H' ks t d kvs L Ps aa:=by
 have np:∀ {b:Addr}{o:HO},H b=some o->(∀xs,o ≠ .lst xs)->b≠p:=fun {b o} e h z=>by
  obtain⟨x,y,e2,_⟩:=pk;rw[z,e2]at e;cases e;exact h _ rfl
 refine⟨let ⟨ws,a,b⟩:=R.fv;⟨ws,k _ _ a (np a fun _ z=>by cases z),b.keep fun c xs e=>k _ _ e (np e fun _ z=>by cases z)⟩,R.pm,R.fm,R.nd,R.nm,R.k8,k _ _ R.hd (np R.hd fun _ z=>by cases z),R.hk,fun x hx=>?_,R.so⟩
 obtain⟨a,e,q⟩:=R.pl x hx;exact⟨a,e,k _ _ q (zC pk q)⟩
theorem eU.fk {aa:aF} (R:eU H ks t d kvs L Ps aa):jM H t aa:=⟨R.fa,R.all,by have:=R.len;have:=R.k8;omega⟩
theorem MH {aa:aF} (st:cp aa) (al:cq aa) {o:Str} (ho:o∈keysOf aa) (nd:ps.Nodup) (h4:ps.length<=4) (bf:∀x∈ps,x∈keysOf aa) (hx:∃x∈ps,o∈aP aa x):i6 aa (.str o) (.tuple (ps.map PyData.str))=some 13:=by
 have hk:bt aa (.str o)=true:=mU st ho;have hp:fc aa (.tuple (ps.map PyData.str))=true:=by
  have h1:je (.tuple (ps.map PyData.str))=true:=by
   show((ps.map PyData.str).all de && decide ((ps.map PyData.str).map strOf).Nodup)=true;have e:(ps.map PyData.str).map strOf=ps:=by rw[pI];exact RS ps
   rw[e,cZ nd,B1,tF,iW];exact fun y hy=>wo (st.lH (bf y hy))
  show(je _ && (decide (_<=4) && _))=true;rw[h1,aE,cZ h4,tF];simp only[RT,iW];exact fun y hy=>mU st (bf y hy)
 unfold i6;rw[ao (by simp[hk]),ao (by simp[hp]),CL]
 exact au hx
theorem Lu {xs:List Str} (h:∀x∈xs,Nm x) (l:xs.length<=10):Bk (.tuple (xs.map PyData.str)):=by
 have key:∀l:List Str,(∀x∈l,Nm x)->PyData.bulkAll (l.map PyData.str)<=9 * l.length:=by
  intro l
  induction l with
  |nil=>intro _;exact aK _
  |cons x l ih =>
   intro h;have h4:=ih fun y hy=>h y (bV _ hy);have z1:x.length<=8:=(h x aV).hi;have e:PyData.bulkAll ((x::l).map PyData.str)=x.length+1+PyData.bulkAll (l.map PyData.str):=rfl;rw[e,cO];omega
 have:=key xs h;show PyData.bulkAll _<=1000;omega
@[irreducible] def uU:Sp:=fun vs H Q _=>∃ (t d:Addr) (ks:List Str) (kvs:List (Key×V)) (L Ps:Str->List Str) (aa:aF) (o:Str),vs = [.ref t,.ref d,.str o]/\eU H ks t d kvs L Ps aa/\o∈ks /\ ∀H',(∀b u,H b=some u->b≠d->H' b=some u)->Q (.bl true) H'
theorem Y8 {aa:aF}{o:Str} (R:eU H ks t d kvs L Ps aa) (ho:o∈ks) (q:∀H',(∀b u,H b=some u->b≠d->H' b=some u)->Q (.bl true) H'):uU [.ref t,.ref d,.str o] H Q E:=by unfold uU;exact⟨t,d,ks,kvs,L,Ps,aa,o,rfl,R,ho,q⟩
abbrev HN:List Str:= ["_law_family_here","_law_parents_here","_law_other","_law_below","_law_far"]
theorem E4:b3 HN ["_law_family_here","_law_parents_here","_law_other"] (aM rh):=⟨rfl,rfl,rfl,by decide +kernel,rfl,by decide +kernel,by decide +kernel⟩
def Y9 (e:Expr):Expr:=match e with|.BinOp a _ _ _=>a|_=>.Constant .none 0 ⟨0,0,0,0⟩
abbrev aaL:Expr:=EZ (Y9 (fb (cL (cA rh) 0)))
abbrev aaM:Expr:=EZ (fb (cL (cA rh) 2))
theorem Na:cj HN (aM rh) ["_law_kind","_law_other","_law_parents_here"] [none,some 2,some 1] (cW aaL):=⟨rfl,by decide +kernel,by decide +kernel,rfl,d9 (by decide +kernel),by decide +kernel⟩
theorem Nb:cj HN (aM rh) ["_law_kind","_law_below"] [none,some 3] (cW aaM):=⟨rfl,by decide +kernel,by decide +kernel,rfl,d9 (by decide +kernel),by decide +kernel⟩
theorem Y' (F:aU K "_law_round_first" "_law_round_first" rh f fd) (B:fg mg)
  (GR:aD P w K mg base aR 9 fR dR jx nB) (kR:keepIn K (.ref fR)=true) (bR:Binds K dR jx []) (mR:mg "_law_refusal" = some (.ref fR)) :
  aD P w K mg base aR 10 f fd ["_law_family_here","_law_parents_here","_law_other"] uU:=by
 refine F.ok E4 (fun vs H Q E h=>?_) (fun cdv A outer s H vs Q E hr h=>?_)
 ·unfold uU at h;obtain⟨t,d,ks,kvs,L,Ps,aa,o,rfl,_⟩:=h;rfl
 ·unfold uU at h
  obtain⟨t,d,ks,kvs,L,Ps,aa,o,rfl,R,ho,q⟩:=h;have jz:aS 9 _:=hr;have hu:=hr.units;have eX:=qO (qP (show 1<=64 by decide) _) hu
  refine⟨_,aB (aZ (i:=3) E4.nd rfl (Or.inr rfl) (cG oA (lM rg (eQ rfl Na (Dn (pv 1)) (fun s H fp=>⟨bg (i:=0) Na.nd rfl (Or.inl rfl),i3 (b5 (wB K rfl) (pv 1) (om eX (pv 2) (pv 0) (fun _ _=>rfl)) rfl),pv 0⟩)) lO (k7 aG)) (a9 (ae (pv 2) ah))))
   (aB (gG (b5 (lQ hu) (aQ GR jz rfl mR kR bR .nil a7 (fS (ae (pv 0) (ae (a9 (ae (pv 2) (ae (f7 lK rfl B.tuple boot_tuple (ae (pv 3) ah)) ah))) ah)))) (a9 (fS ah)) (cF _)) iu)
   (aB (aZ (i:=4) E4.nd rfl (Or.inl rfl) (lM rg (eQ rfl Nb (Dn (pv 1)) (fun s H fp=>⟨bg (i:=0) Nb.nd rfl (Or.inl rfl),i3 (b5 (Cj K rfl) (pv 0) (pv 1) rfl),pv 0⟩)) lO (k7 aG)))
   (ua (t4 (DE hu) (aQ GR jz rfl mR kR bR .nil a7 (fS (ae (pv 0) (ae (a9 (ae (pv 2) (ae (f7 lK rfl B.tuple boot_tuple (ae (cG oA (pv 4) (lM rg (pv 3) lO (k7 aG))) ah)) ah))) ah)))) (a9 (fS ah)) (cF _))))),?_⟩
  have kl:kvs.length=ks.length:=by have:=eY List.length R.hk;simpa using this
  have k8:=R.k8;have FK:=R.fk;have st:=R.st;have al:=R.all;have nT:o∈keysOf aa:=R.key.mpr ho;refine⟨_,rfl,d,kvs,rfl,.inl ⟨R.hd,fun o2=>?_⟩⟩;have jS:upd H d (.cQ o2 (.dK kvs)) d=some (.cQ o2 (.dK kvs)):=af;have Bu:∀b u,H b=some u->b≠d->upd H d (.cQ o2 (.dK kvs)) b=some u:=fun b u e n=>by rw[ai n];exact e
  generalize upd H d (.cQ o2 (.dK kvs))=H1 at jS Bu ⊢;have Qs:jM H1 t aa:=by
   obtain⟨ws,a,b⟩:=R.fv;have nt:∀ {b:Addr}{xs:List V},H b=some (.tup xs)->H1 b=some (.tup xs):=fun {b xs} e=>Bu _ _ e (b6 e R.hd (by intro z;cases z))
   exact⟨⟨st,ws,nt a,b.keep fun c xs e=>nt e⟩,al,FK.le⟩
  have pl1:∀x∈ks,∃a,cb kvs (Sum.inr x)=some (.ref a)/\H1 a=some (.lst ((Ps x).map V.str)):=fun x hx=>by
   obtain⟨a,e,h⟩:=R.pl x hx;exact⟨a,e,Bu _ _ h (b6 h R.hd (by intro z;cases z))⟩
  have Nc:∀ {i:Nat}{kv:Key×V},kvs[i]? = some kv -> ∃x,ks[i]? = some x/\kv.1=Sum.inr x:=fun {i kv} h=>by
   have h2:(kvs.map (·.1))[i]? = some kv.1:=by rw[f6,h];rfl
   rw[R.hk,f6]at h2;obtain⟨x,h3,h4⟩:=iV.mp h2;exact⟨x,h3,h4.symm⟩
  intro c hc;have sX:d≠c:=aq jS hc;refine CC (fun i ys τ H4=>∃t0:Option V,τ = [t0,some (.str o),some (.ref d)]/\ys=((ks.take i).filter fun x=>decide (o∈Ps x)).map V.str/\H4=upd H1 c (.lst ys)) ⟨none,rfl,rfl,rfl⟩ (fun i ys τ H4 ⟨_,_,_,z⟩=>by rw[z];exact⟨af,by rw[ai sX];exact jS⟩) ?_ ?_
  ·rintro i kv ys τ H4 hU ⟨t0,rfl,rfl,rfl⟩
   have aT:i < kvs.length:=(cu.mp hU).1;obtain⟨x,Bv,ek⟩:=Nc hU;rw[ek];have tk:ks.take (i+1)=ks.take i ++ [x]:=by rw[dZ,Bv];rfl
   obtain⟨a,ea,ha⟩:=pl1 x (gP Bv);have yy:upd H1 c (.lst (((ks.take i).filter fun x=>decide (o∈Ps x)).map V.str)) a=some (.lst ((Ps x).map V.str)):=by rw[ai (aq ha hc)];exact ha
   refine⟨_,rfl,_,rfl,_,rfl,d,.ref a,rfl,.inl ⟨kvs,Sum.inr x,.inr ⟨o2,by rw[ai sX];exact jS⟩,rfl,ea.symm⟩,?_⟩
   refine⟨a,_,rfl,.inl (aj.of yy),rfl,jD _,_,rfl,?_⟩;rw[ao cX,j6];refine d4 (fun bf=>?_) (fun bf=>?_)
   ·refine⟨_,rfl,af,?_,cw_next aT ⟨_,rfl,?_,by rw[gR]⟩⟩
    ·have h2:=iY (fun x=>decide (o∈Ps x)) (ks.take i)
     rw[dh]at h2;rw[aE,aI];omega
    ·rw[tk,iK,bj,qN,au bf];rfl
   ·refine cw_next aT ⟨_,rfl,?_,rfl⟩
    rw[tk,iK,qN,ao bf,B4,fh]
  rintro ys τ H4 ⟨t0,rfl,rfl,rfl⟩;rw[kl,eF];have S4:=ar (o:= .lst ((ks.filter fun x=>decide (o∈Ps x)).map V.str)) hc;have e4:upd H1 c (.lst ((ks.filter fun x=>decide (o∈Ps x)).map V.str)) c=_:=af;generalize upd H1 c (.lst ((ks.filter fun x=>decide (o∈Ps x)).map V.str))=H4 at S4 e4 ⊢;refine⟨_,rfl,c,_,rfl,aj.of e4,fun c2 gj=>⟨_,rfl,bp (by show 1<=100;decide),fun c3 pq=>?_⟩⟩
  have ec:du ((ks.filter fun x=>decide (o∈Ps x)).map V.str) none (some (1:Int))=((ks.filter fun x=>decide (o∈Ps x)).take 1).map V.str:=by rw[Jh];exact wY _ 1
  rw[ec]at pq ⊢;have hB:∀x∈(ks.filter fun x=>decide (o∈Ps x)).take 1,x∈ks/\o∈Ps x:=fun x hx=>by
   have:=gD.mp (y4 hx);exact⟨this.1,by simpa using this.2⟩
  have lB:((ks.filter fun x=>decide (o∈Ps x)).take 1).length<=1:=by rw[dh];exact Nat.min_le_left _ _
  generalize (ks.filter fun x=>decide (o∈Ps x)).take 1=B0 at hB lB pq ⊢;have S5:=ar (o:= .lst (B0.map V.str)) gj;have e5:upd H4 c2 (.lst (B0.map V.str)) c2=_:=af;generalize upd H4 c2 (.lst (B0.map V.str))=H5 at S5 e5 pq ⊢;have S6:=ar (o:= .lst [V.str o]) pq;refine⟨c2,c3,_,_,rfl,rfl,S6 _ _ e5,af,by rw[aE];show _+1<=_;rw[aI];omega,fun lb eK=>?_⟩
  have S7:ak H1 (upd (upd H5 c3 (.lst [V.str o])) lb (.lst (B0.map V.str ++ [V.str o]))):=S4.trans (S5.trans (S6.trans (ar eK)));have e7:upd (upd H5 c3 (.lst [V.str o])) lb (.lst (B0.map V.str ++ [V.str o])) lb=some (.lst ((B0 ++ [o]).map V.str)):=by rw[bj];exact af
  generalize upd (upd H5 c3 (.lst [V.str o])) lb (.lst (B0.map V.str ++ [V.str o]))=H7 at S7 e7 ⊢;have HP:∀x∈B0 ++ [o],x∈ks:=fun x hx=>by
   rcases dX.mp hx with z|z
   ·exact(hB x z).1
   ·rw[d5.mp z];exact ho
  have Nd:∀x∈B0 ++ [o],o∈aP aa x:=fun x hx=>by
   rcases dX.mp hx with z|z
   ·exact((pM st al (R.mem.mpr ⟨(hB x z).1,rfl⟩:(x,Ps x)∈aa)).1 o).mpr (.inr ⟨o,(hB x z).2,zt st al nT⟩)
   ·rw[d5.mp z];exact zt st al nT
  have oB:o ∉ B0:=fun z=>by
   have:=(pM st al (R.mem.mpr ⟨ho,rfl⟩:(o,Ps o)∈aa)).2.1 o (hB o z).2;exact pB _ this
  have ndB:(B0 ++ [o]).Nodup:=by
   rw[mI];refine⟨?_,by simp,fun a ha b hb e=>?_⟩
   ·match B0,lB with
    |[],_=>exact qM
    |[_],_=>simp
   ·rw[d5.mp hb]at e;exact oB (e ▸ ha)
  have Qt:13∈iC:=by decide
  have bo:=FK.bk nT;refine⟨_,rfl,_,rfl,_,rfl,lb,_,rfl,.inl ⟨aj.of e7,fun c5 vw=>⟨bp (by show 2<=100;decide),fun c6 qC=>?_⟩⟩⟩
  have S8:=ar (o:= .tup ((B0 ++ [o]).map V.str)) vw;have S9:=S8.trans (ar (o:= .lst [.str o,.ref c5]) qC);have e9:upd (upd H7 c5 (.tup ((B0 ++ [o]).map V.str))) c6 (.lst [.str o,.ref c5]) c5=some (.tup ((B0 ++ [o]).map V.str)):=by rw[ai (aq af qC)];exact af
  have ci:eZ (c5+1) (upd (upd H7 c5 (.tup ((B0 ++ [o]).map V.str))) c6 (.lst [.str o,.ref c5])) aa "changed" c6 (some 13):=
   (MH st al nT ndB (by rw[cY,gF];omega) (fun x hx=>R.key.mpr (HP x hx)) ⟨o,fq _ aV,Nd o (fq _ aV)⟩) ▸
    .changed af (.str o) bo (.tup (bT (RH _)) e9 (wq _)) (Lu (fun x hx=>R.nm x (HP x hx)) (by rw[cY,gF];omega))
  refine m3 (Qs.same (S7.trans S9)) ci fun l2 H8 HQ h2=>⟨bp (by show 1<=100;decide),fun l3 h3=>oz (xs:= ["round"]) (ar h3 _ _ h2) af (oi 13 Qt) ⟨_,rfl,?_⟩⟩
  have vA:ak H7 (upd H8 l3 (.lst [V.str "round"])):=S9.trans (HQ.trans (ar h3));have qE:=S7.trans vA;have oY:=vA _ _ e7;generalize upd H8 l3 (.lst [V.str "round"])=J0 at vA qE oY ⊢;have HR:=qE _ _ jS;refine⟨_,rfl,d,kvs,rfl,.inr ⟨o2,HR,?_⟩⟩;intro c hc;have sX:d≠c:=aq HR hc;refine CC (fun i ys τ H4=>∃t0:Option V,τ = [t0,some (.ref lb)]/\ys=((ks.take i).filter fun x=>!decide (x∈B0 ++ [o])).map V.str/\H4=upd J0 c (.lst ys)) ⟨none,rfl,rfl,rfl⟩ (fun i ys τ H4 ⟨_,_,_,z⟩=>by rw[z];exact⟨af,by rw[ai sX];exact HR⟩) ?_ ?_
  ·rintro i kv ys τ H4 hU ⟨t0,rfl,rfl,rfl⟩
   have aT:i < kvs.length:=(cu.mp hU).1;obtain⟨x,Bv,ek⟩:=Nc hU;rw[ek];have tk:ks.take (i+1)=ks.take i ++ [x]:=by rw[dZ,Bv];rfl
   have G0:upd J0 c (.lst (((ks.take i).filter fun x=>!decide (x∈B0 ++ [o])).map V.str)) lb=some (.lst ((B0 ++ [o]).map V.str)):=by rw[ai (aq oY hc)];exact oY
   refine⟨_,rfl,_,rfl,lb,_,rfl,.inl (aj.of G0),rfl,jD _,_,rfl,?_⟩;rw[au rfl,show kV (Sum.inr x)=V.str x from rfl,j6];refine d4 (fun bf=>?_) (fun bf=>?_)
   ·refine⟨_,rfl,af,?_,cw_next aT ⟨_,rfl,?_,by rw[gR]⟩⟩
    ·have h2:=iY (fun x=>!decide (x∈B0 ++ [o])) (ks.take i)
     rw[dh]at h2;rw[aE,aI];omega
    ·rw[tk,iK,bj,qN,au bf];rfl
   ·refine cw_next aT ⟨_,rfl,?_,rfl⟩
    rw[tk,iK,qN,ao bf,B4,fh]
  rintro ys τ H4 ⟨t0,rfl,rfl,rfl⟩;rw[kl,eF];have T4:=ar (o:= .lst ((ks.filter fun x=>!decide (x∈B0 ++ [o])).map V.str)) hc;have f4:upd J0 c (.lst ((ks.filter fun x=>!decide (x∈B0 ++ [o])).map V.str)) c=_:=af;generalize upd J0 c (.lst ((ks.filter fun x=>!decide (x∈B0 ++ [o])).map V.str))=J4 at T4 f4 ⊢;refine⟨_,rfl,c,_,rfl,aj.of f4,fun lf vp=>?_⟩;have ec2:du ((ks.filter fun x=>!decide (x∈B0 ++ [o])).map V.str) none (some (2:Int))=((ks.filter fun x=>!decide (x∈B0 ++ [o])).take 2).map V.str:=by rw[Jh];exact wY _ 2
  rw[ec2];have hF:∀x∈(ks.filter fun x=>!decide (x∈B0 ++ [o])).take 2,x∈ks/\x ∉ B0 ++ [o]:=fun x hx=>by
   have:=gD.mp (y4 hx);exact⟨this.1,by simpa using this.2⟩
  have lF:((ks.filter fun x=>!decide (x∈B0 ++ [o])).take 2).length<=2:=by rw[dh];exact Nat.min_le_left _ _
  have nF:((ks.filter fun x=>!decide (x∈B0 ++ [o])).take 2).Nodup:=((IA _ _).trans ah6).nodup R.nd;generalize (ks.filter fun x=>!decide (x∈B0 ++ [o])).take 2=F0 at hF lF nF ⊢;have T5:=T4.trans (ar (o:= .lst (F0.map V.str)) vp);have f5:upd J4 lf (.lst (F0.map V.str)) lf=_:=af;generalize upd J4 lf (.lst (F0.map V.str))=J5 at T5 f5 ⊢;refine⟨_,rfl,_,rfl,_,rfl,_,rfl,_,rfl,lb,_,rfl,aj.of (T5 _ _ oY),fun c7 hc7=>?_⟩;have ec3:du ((B0 ++ [o]).map V.str) none (some (1:Int))=((B0 ++ [o]).take 1).map V.str:=by rw[Jh];exact wY _ 1
  rw[ec3];have hC:∀x∈(B0 ++ [o]).take 1,x∈B0 ++ [o]:=fun x hx=>y4 hx;obtain⟨x1,hC1⟩:∃x1,(B0 ++ [o]).take 1 = [x1]:=by
   match B0 with
   |[]=>exact⟨o,rfl⟩
   |y::_=>exact⟨y,rfl⟩
  rw[hC1]at hC ⊢;have qt:=hC x1 aV;have T7:=ar (o:= .lst (([x1]:List Str).map V.str)) hc7;refine⟨lf,c7,_,_,rfl,rfl,T7 _ _ f5,af,by rw[aE];show _+1<=_;rw[aI];omega,fun c8 hc8=>?_⟩
  have T8:ak J0 (upd (upd J5 c7 (.lst (([x1]:List Str).map V.str))) c8 (.lst (F0.map V.str++([x1]:List Str).map V.str))):=T5.trans (T7.trans (ar hc8));have f8:upd (upd J5 c7 (.lst (([x1]:List Str).map V.str))) c8 (.lst (F0.map V.str++([x1]:List Str).map V.str)) c8=some (.lst ((F0 ++ [x1]).map V.str)):=by rw[bj];exact af
  generalize upd (upd J5 c7 (.lst (([x1]:List Str).map V.str))) c8 (.lst (F0.map V.str++([x1]:List Str).map V.str))=J8 at T8 f8 ⊢;have Qu:∀x∈F0 ++ [x1],x∈ks:=fun x hx=>by
   rcases dX.mp hx with z|z
   ·exact(hF x z).1
   ·rw[d5.mp z];exact HP x1 qt
  have ndF:(F0 ++ [x1]).Nodup:=by
   rw[mI];refine⟨nF,by simp,fun a ha b hb e=>?_⟩
   rw[d5.mp hb]at e;exact(hF a ha).2 (e ▸ qt)
  refine⟨c8,_,rfl,.inl ⟨aj.of f8,fun c5 vw=>⟨bp (by show 2<=100;decide),fun c6 qC=>?_⟩⟩⟩
  have S8:=ar (o:= .tup ((F0 ++ [x1]).map V.str)) vw;have S9:=S8.trans (ar (o:= .lst [.str o,.ref c5]) qC);have e9:upd (upd J8 c5 (.tup ((F0 ++ [x1]).map V.str))) c6 (.lst [.str o,.ref c5]) c5=some (.tup ((F0 ++ [x1]).map V.str)):=by rw[ai (aq af qC)];exact af
  have ci:eZ (c5+1) (upd (upd J8 c5 (.tup ((F0 ++ [x1]).map V.str))) c6 (.lst [.str o,.ref c5])) aa "changed" c6 (some 13):=
   (MH st al nT ndF (by rw[cY,gF];omega) (fun x hx=>R.key.mpr (Qu x hx)) ⟨x1,fq _ aV,Nd x1 qt⟩) ▸
    .changed af (.str o) bo (.tup (bT (RH _)) e9 (wq _)) (Lu (fun x hx=>R.nm x (Qu x hx)) (by rw[cY,gF];omega))
  refine m3 (Qs.same (qE.trans (T8.trans S9))) ci fun l2 H8 HQ h2=>⟨bp (by show 1<=100;decide),fun l3 h3=>WM (xs:= ["round"]) (ar h3 _ _ h2) af (oi 13 Qt) ?_⟩
  exact q _ fun b u e n=>ar h3 _ _ (HQ _ _ (S9 _ _ (T8 _ _ (qE _ _ (Bu b u e n)))))
theorem UG:bootBuiltins "max" = some (.builtin "max"):=by decide +kernel
theorem XU {k:Int} (h:aj K H a (ns.map V.int)) (k0:0<=k) (k1:k<=100) (hl:ns.length<=63) (q:∀p H',H p=none->f9 p H'->ak H H'->Q (.ref p) H'):uv K [.ref a,.int k] H Q E:=by
 unfold uv;exact⟨a,ns,k,rfl,h,k0,k1,hl,fun p x y hp x0 y0 y1=>q p _ hp ⟨x,y,af,x0,y0,y1⟩ (ar hp)⟩
theorem VL (h:f9 p H) (hm:m<=20) (q:∀ (l:Addr) (ys:List Str) (H':Hp),H l=none->ys.length=m->(∀y∈ys,Nm y)->ys.Nodup->bZ p H H'->H' l=some (.lst (ys.map V.str))->Q (.ref l) H'):t9 [.ref p,.int m] H Q E:=by
 unfold t9;exact⟨p,m,rfl,h,hm,q⟩
theorem VM (h:aj K H a xs) (s:ak H H'):aj K H' a xs:=by
 rcases h with(h|⟨o,h⟩)|h
 ·exact .inl (.inl (s _ _ h))
 ·exact .inl (.inr ⟨o,s _ _ h⟩)
 ·exact .inr h
@[irreducible] def rK (K:Frag):Sp:=fun vs H Q _=>∃ (a:Addr) (ns:List Int),vs = [.ref a]/\aj K H a (ns.map V.int)/\ns.length<=63 /\ ∀H',Q (.bl true) H'
abbrev aaN:List Str:= ["_law_script","_law_k","_law_pot_here","_law_names_here","_law_family_here","_law_lines","_law_parents_here","_law_bad","_law_other","_law_no_parents_here"]
theorem oG:b3 aaN ["_law_script"] (aM Ex):=⟨rfl,rfl,rfl,by decide +kernel,rfl,by decide +kernel,by decide +kernel⟩
theorem XW {fP fF fB fO:Addr}{dP dF dB dM dO:FuncData} (F:aU K "law" "law" Ex f fd) (B:fg mg)
  (GP:aD P w K mg base aR 1 fP dP ["_law_script","_law_k"] (uv K)) (kP:keepIn K (.ref fP)=true) (bP:Binds K dP ["_law_script","_law_k"] []) (mP:mg "_law_pot" = some (.ref fP))
  (GD:aD P w K mg base aR 1 fD dD ["_law_pot_here","_law_many"] mX) (kD:keepIn K (.ref fD)=true) (bD:Binds K dD ["_law_pot_here","_law_many"] []) (mD:mg "_law_digit" = some (.ref fD))
  (GN:aD P w K mg base aR 3 fN dN ["_law_pot_here","_law_many"] t9) (kN:keepIn K (.ref fN)=true) (bN:Binds K dN ["_law_pot_here","_law_many"] []) (mN:mg "_law_names" = some (.ref fN))
  (GF:aD P w K mg base aR 3 fF dF ["_law_pot_here","_law_kinds"] ux) (kF:keepIn K (.ref fF)=true) (bF:Binds K dF ["_law_pot_here","_law_kinds"] []) (mF:mg "_law_family" = some (.ref fF))
  (GB:aD P w K mg base aR 2 fB dB ["_law_pot_here","_law_kinds"] uP) (kB:keepIn K (.ref fB)=true) (bB:Binds K dB ["_law_pot_here","_law_kinds"] []) (mB:mg "_law_no_kind" = some (.ref fB))
  (GQ:aD P w K mg base aR 2 fQ dQ ["_law_pot_here","_law_kinds","_law_stranger"] uR) (kQ:keepIn K (.ref fQ)=true) (bQ:Binds K dQ ["_law_pot_here","_law_kinds","_law_stranger"] []) (mQ:mg "_law_no_parents" = some (.ref fQ))
  (GL:aD P w K mg base aR 10 fL dL ["_law_family_here","_law_kinds","_law_bad","_law_other"] uS) (kL:keepIn K (.ref fL)=true) (bL:Binds K dL ["_law_family_here","_law_kinds","_law_bad","_law_other"] []) (mL:mg "_law_plain" = some (.ref fL))
  (GM:aD P w K mg base aR 10 fM dM ["_law_family_here","_law_bad","_law_other","_law_no_parents_here"] uT) (kM:keepIn K (.ref fM)=true) (bM:Binds K dM ["_law_family_here","_law_bad","_law_other","_law_no_parents_here"] []) (mM:mg "_law_made_refused" = some (.ref fM))
  (GR:aD P w K mg base aR 9 fR dR jx nB) (kR:keepIn K (.ref fR)=true) (bR:Binds K dR jx []) (mR:mg "_law_refusal" = some (.ref fR))
  (GO:aD P w K mg base aR 10 fO dO ["_law_family_here","_law_parents_here","_law_other"] uU) (kO:keepIn K (.ref fO)=true) (bO:Binds K dO ["_law_family_here","_law_parents_here","_law_other"] []) (mO:mg "_law_round_first" = some (.ref fO)) :
  aD P w K mg base aR 11 f fd ["_law_script"] (rK K):=by
 refine F.ok oG (fun vs H Q E h=>?_) (fun cdv A outer s H vs Q E hr h=>?_)
 ·unfold rK at h;obtain⟨a,ns,rfl,_⟩:=h;rfl
 ·unfold rK at h
  obtain⟨a,sc,rfl,hS,nH,q⟩:=h;have se:aS 10 _:=hr;have jz:aS 9 _:=se.mono (by decide)
  have iJ:aS 3 _:=se.mono (by decide)
  have iS:aS 2 _:=se.mono (by decide)
  have cJ:aS 1 _:=se.mono (by decide)
  have hu:=hr.units;refine⟨_,aB (i8 j4 rfl (tN rfl B.range (ae (ck (JX rfl) rfl B.max UG (ae aG (ae (ck (JY rfl) rfl B.min boot_min (ae aG (ae (ck kX rfl B.len jB (ae (pv 0) ah)) ah))) ah))) ah)) (bg (i:=1) oG.nd rfl (Or.inl rfl))
    (aB (aZ (i:=2) oG.nd rfl (Or.inl rfl) (aQ GP cJ rfl mP kP bP .nil a7 (ae (pv 0) (ae (pv 1) ah))))
    (aB (aZ (i:=3) oG.nd rfl (Or.inl rfl) (aQ GN iJ rfl mN kN bN .nil a7 (ae (pv 2) (ae (cG rn aG (aQ GD cJ rfl mD kD bD .nil a7 (ae (pv 2) (ae aG ah)))) ah))))
    (aB (zK (aQ GF iJ rfl mF kF bF .nil a7 (ae (pv 2) (ae (pv 3) ah)))
      (wG rfl (j5 (bg (i:=4) oG.nd rfl (Or.inl rfl)) (j5 (bg (i:=5) oG.nd rfl (Or.inl rfl)) (j5 (bg (i:=6) oG.nd rfl (Or.inl rfl)) tZ)))))
    (aB (Mj (i:=7) (j:=8) rfl oG.nd rfl rfl (by decide) rfl rfl (ae (aQ GB iS rfl mB kB bB .nil a7 (ae (pv 2) (ae (pv 3) ah))) (ae (bh cz (pv 3) (aQ GD cJ rfl mD kD bD .nil a7 (ae (pv 2) (ae (ck kX rfl B.len jB (ae (pv 3) ah)) ah))) (fun _ _=>rfl)) ah)) rfl)
    (aB (aZ (i:=9) oG.nd rfl (Or.inl rfl) (aQ GQ iS rfl mQ kQ bQ .nil a7 (ae (pv 2) (ae (pv 3) (ae (pv 7) ah)))))
    (aB (gG (PW.pt (pw_or (jG (i7 (aQ GL se rfl mL kL bL .nil a7 (ae (pv 4) (ae (pv 3) (ae (pv 7) (ae (pv 8) ah))))))) (pw_or1 (jG (i7 (aQ GM se rfl mM kM bM .nil a7 (ae (pv 4) (ae (pv 7) (ae (pv 8) (ae (pv 9) ah)))))))))) iu)
    (aB (gG (b5 (lQ hu) (aQ GR jz rfl mR kR bR .nil a7 (fS (ae (pv 4) (ae (a9 (ae (pv 8) (ae (pv 9) ah))) ah)))) (a9 (fS ah)) (cF _)) iu)
    (aO (gG (jG (i7 (aQ GO se rfl mO kO bO .nil a7 (ae (pv 4) (ae (pv 6) (ae (pv 8) ah)))))) iu))))))))))
   (aO (b9 iu)),?_⟩
  refine⟨_,rfl,a,_,rfl,.inl hS,_,_,rfl,_,_,rfl,_,rfl,?_,?_,zj (fun i σ H1=>∃v1 v2 v3 v4 v5 v6 v7 v8 v9:Option V,σ = [some (.ref a),v1,v2,v3,v4,v5,v6,v7,v8,v9]/\ak H H1) ⟨none,none,none,none,none,none,none,none,none,rfl,ak.refl _⟩ (fun i0 σ H1 hi hP=>?_) (fun σ H1 _=>q _)⟩
  ·split <;> (try split) <;> omega
  ·split <;> (try split) <;> omega
  obtain⟨v1,v2,v3,v4,v5,v6,v7,v8,v9,rfl,S1⟩:=hP;have hi6:i0 < 6:=by
   refine gx hi ?_;split <;> (try split) <;> omega
  refine⟨_,rfl,_,rfl,XU (VM hS S1) (by omega) (by omega) nH fun p H2 hp pk S2=>?_⟩
  refine⟨_,rfl,_,rfl,i4 (p:=p) (m:=7) pk (by decide) (by decide) fun dg H7 d0 d1' p7=>?_⟩
  obtain⟨dn,rfl⟩:=qQ d0;refine⟨1,(dn:Int),rfl,rfl,?_⟩;refine VL (m:=1+dn) p7.ok (by omega) fun nl ks H8 Qh hnn vx knd p8 h8=>?_
  refine⟨_,rfl,_,rfl,Xn p8.ok h8 knd vx (by omega) fun r t d1 d ws kvs L Ps aa HA R9=>?_⟩
  refine⟨r,_,rfl,aN.of R9.hr,rfl,_,_,rfl,_,_,rfl,_,_,rfl,rfl,?_⟩;have RA:eU HA ks t d kvs L Ps aa:=⟨⟨ws,R9.ht,R9.fv⟩,R9.pm,R9.fm,knd,vx,by omega,R9.hd,R9.hk,R9.pl,R9.so⟩
  have P28:=p7.trans p8;have Qv:=R9.pa.ok;have yL:nl≠p:=zC p8.ok h8;have HU:=R9.pa.kp _ _ h8 yL;have S1A:∀b o,H1 b=some o->b≠p/\b≠d/\HA b=some o:=fun b o z=>by
   have np:=aq z hp;have z8:=P28.kp b o (S2 _ _ z) np;exact⟨np,aq z8 R9.n2,R9.pa.kp b o z8 np⟩
  clear R9;have KA:Ks HA nl ks:=⟨HU,by omega,by omega,vx⟩
  refine⟨_,rfl,_,rfl,YZ Qv yL KA fun v dd HB PB bad=>?_⟩;have hnB:=PB.kp _ _ HU yL;refine⟨_,rfl,_,rfl,_,rfl,nl,_,rfl,.inl (aj.of hnB),?_⟩;refine i4 (p:=p) PB.ok (by rw[aE];omega) (by rw[aE];omega) fun oj HC o0 o1 PC=>?_
  rw[aE]at o1;have HV:=PB.trans PC;have Qw:=HV.kp _ _ HU yL;have hj:oj.toNat < ks.length:=by omega
  have lD:cg (ks.map V.str) oj=some (.str ks[oj.toNat]):=by
   obtain⟨j,rfl⟩:=qQ o0;exact dq (by rw[f6,b4 (by simpa using hj)];rfl)
  have ho:=iX hj;generalize ks[oj.toNat]=o at lD ho;refine⟨nl,_,oj,.str o,rfl,rfl,aj.of Qw,lD,?_⟩;refine⟨_,_,rfl,?_⟩;have Ot:=bad.keep PC;refine⟨_,rfl,_,rfl,_,rfl,Y1 HV.ok yL ⟨Qw,by omega,by omega,vx⟩ Ot fun u e HD PD yM=>?_⟩
  have HW:=HV.trans PD;have RD:=RA.keep Qv HW.kp;have An:=Ot.keep PD;have FK:=RD.fk;have nT:o∈keysOf aa:=RD.key.mpr ho;have hk:bt aa dd=false:=by
   cases z:bt aa dd with
   |false=>rfl
   |true =>
    obtain⟨x,e1,e2⟩:=pQ z;exact absurd (RD.key.mp e2) (bad.n x e1)
  have yA:fc aa e=false:=by
   cases z:fc aa e with
   |false=>rfl
   |true =>
    obtain⟨ps,e1,e2,e3,e4⟩:=DQ z;have:=yM.d.n ps e1 e2 fun x hx=>RD.key.mp (e4 x hx);omega
  have Qx:∃y,HD p=some y:=let ⟨x,y,e,_⟩:=HW.ok;⟨_,e⟩;refine⟨_,rfl,_,rfl,_,rfl,_,rfl,Y3 FK An.r An.b hk nT Qx fun HE SE=>⟨true,rfl,?_⟩⟩;refine⟨_,rfl,_,rfl,_,rfl,_,rfl,Y6 (FK.same SE) (Dt.same An.r SE) An.b hk nT (Dt.same yM.r SE) yM.d.b yA (let ⟨y,z⟩:=Qx;⟨y,SE _ _ z⟩) fun HF SF=>⟨true,rfl,?_⟩⟩;have SF:=SE.trans SF;refine⟨_,rfl,_,rfl,_,rfl,bp (by show 2<=100;decide),fun c1 h1=>?_⟩
  have SG:=SF.trans (ar (o:= .lst [.str o,u]) h1);have bo:=FK.bk nT;have em:i6 aa (.str o) e=some 2:=by unfold i6;rw[ao (by simp[FK.kd nT]),au yA]
  have ci:eZ p (upd HF c1 (.lst [.str o,u])) aa "changed" c1 (some 2):=em ▸ .changed af (.str o) bo (Dt.same yM.r SG) (cK yM.d.b (by decide))
  refine m3 (FK.same SG) ci fun l2 HI SI h2=>⟨bp (by show 1<=100;decide),fun l3 h3=>oz (xs:= ["parents"]) (ar h3 _ _ h2) af (oi 2 (by decide)) ⟨_,rfl,?_⟩⟩
  have SJ:=SG.trans (SI.trans (ar (o:= .lst [V.str "parents"]) h3));refine⟨_,rfl,_,rfl,_,rfl,Y8 (RD.same SJ) ho fun HK kK'=>⟨true,rfl,?_⟩⟩;refine⟨_,_,_,_,_,_,_,_,_,rfl,fun b z hz=>?_⟩;obtain⟨n1,n2,zA⟩:=S1A b z (S1 _ _ hz);exact kK' b z (SJ _ _ (HW.kp b z zA n1)) n2
end iR
namespace iR
open PySem L2 PySem.W
def aaO (K:Frag) (LE:Addr):Bool:=readsIn K LE (.type "type") && (specialIn K (.ref LE) "__getattribute__" == some (some (.builtin "type.__getattribute__")))
def nsOk (K:Frag) (C D:Addr):Bool:=findIn K (.ref C) "kind" == some none && (findIn K (.ref C) "ring" == some none && (keepIn K (.ref C) && (mroIn K C (.ref C)==some true && (findIn K (.ref D) "way" == some none && keepIn K (.ref D)))))
def fX (l:List Addr) (i:Nat):Addr:=l.getD i 0
def Za (K:Frag) (LE:Addr) (l:List Addr):Bool:=iC.all fun i=>(List.range 16).all (fun j=>kitOne K (.ref (fX l i)) (.ref (fX l j))==some (decide (i=j))) && (kitOne K (.ref (fX l i)) (.type "ValueError")==some true && (DO K (fX l i) && mroIn K (fX l i) (.ref LE)==some true))
def aaP (K:Frag) (l:List Addr):Bool:=([0,1,2,3,4]:List Nat).all fun i=>dj K (fX l i) none && keepIn K (.ref (fX l i))
theorem all_mk {l:OpenLaw}{fa:Addr} (X:K.In h) (G:h.Ns mainGlobals mg) (lG:mg "law" = some (.ref fa)) {LE fJ g0 g1 g2 g3 g4 g5 g6 g7 g8 g9 ia ib gr gu ie ig:Addr}{odI anI:Option Addr}{slI:Array (Option Value)}{ocI kVI dcI pmI Qy ctI:Value}{odJ anJ:Option Addr}{slJ:Array (Option Value)}{ocJ kVJ dcJ pmJ Qz ctJ:Value}
  (hd:A4 K [pr "merged" wD,pr "least_free" zP,pr "wish_against" ur,pr "ring_within" uf,pr "is_name" wC,pr "check_name" Dq,pr "is_row" wQ,pr "is_kind" Dr,pr "are_parents" xp,pr "check_kind" Ds,pr "lines_of" ug,pr "line_from" vW,pr "line_of" Du,pr "kinds_beneath" we,pr "heirs_of" wR,pr "way_of" xE,pr "kind_made" D1,pr "kind_changed" C0,pr "kind_let_go" DH,pr "check_parents" Dv,pr "with_parents" D2,pr "without_kind" wg,pr "_law_pot" Ew,pr "_law_digit" wU,pr "_law_names" oC,pr "_law_merged" mS,pr "_law_line" wV,pr "_law_parents" CG,pr "_law_family" wj,pr "_law_classes" oh,pr "_law_call" D3,pr "_law_refusal" C1,pr "_law_no_kind" t5,pr "_law_no_parents" DI,pr "_law_plain" DJ,pr "_law_is_name" wW,pr "_law_made_refused" C3,pr "_law_round_first" rh,pr "law" Ex])
  (hz:Et K ["len","max","min","abs","range","any","all","list","tuple","enumerate","isinstance","str","dict","sorted","set","zip","ValueError"])
  (hJ:Eu K ["NoName","NoKind","NoParents","Taken","InUse","NoEntry","NoThing","NoNumber","NotAbove","Shut","NoText","NoRow","Ring","Round","Missing","Endless"] [g0,g1,g2,g3,g4,g5,g6,g7,g8,g9,ia,ib,gr,gu,ie,ig])
  (HX:nsIn K mainGlobals "LineError" = some (some (.ref LE)))
  (QA:findIn K (.ref gr) "__init__" = some (some (.ref fI)))
  (HY:isFn K (.ref fI)=true)
  (HZ:dj K gr (some (.ref fI))=true)
  (Ia:K.lookup fI=some ⟨ocI,odI,.func (fnOf "__init__" "Ring.__init__" (pN pY) (cA pY) (aM pY) .none kVI dcI pmI anI Qy ctI),slI⟩)
  (Ib:codeIn K Qy "Ring.__init__" = true)
  (Ic:keepIn K (.ref fI)=true)
  (QB:findIn K (.ref gu) "__init__" = some (some (.ref fJ)))
  (Ie:isFn K (.ref fJ)=true)
  (Ig:dj K gu (some (.ref fJ))=true)
  (Ih:K.lookup fJ=some ⟨ocJ,odJ,.func (fnOf "__init__" "Round.__init__" (pN rB) (cA rB) (aM rB) .none kVJ dcJ pmJ anJ Qz ctJ),slJ⟩)
  (Ii:codeIn K Qz "Round.__init__" = true)
  (Ij:keepIn K (.ref fJ)=true)
  (gZ:Za K LE [g0,g1,g2,g3,g4,g5,g6,g7,g8,g9,ia,ib,gr,gu,ie,ig]=true)
  (cR:aaP K [g0,g1,g2,g3,g4,g5,g6,g7,g8,g9,ia,ib,gr,gu,ie,ig]=true)
  (Ik:dj K LE none=true)
  (nH:nsOk K gr gu=true)
  (Bw:aaO K LE=true)
  (D8:nsIn K mainGlobals "MOST_PARENTS" = some (some (.int 4 tk)))
  (Il:findCls K (.ref LE) (.type "type") "__init__" = some (.val (.builtin "ValueError.__init__"))) :
  ∃fd:FuncData,(∀ (s:Shared) (v:Value),BindsTo s fd ⟨[v],[]⟩ [("_law_script",v)]) /\ ∀base:Heap,K.In base->base.Ns mainGlobals mg->aD l.prog w K mg base aR 11 fa fd ["_law_script"] (rK K):=by
 have z:∀x∈_,mg x=none:=LX X G hz;obtain⟨hM,hLf,hWa,hRw,hNm,hCn,hIr,hKd,hAp,hCk,Gg,hFr,G8,hBe,hHe,hWy,hKm,hKc,hLg,hCp,hWp,hWo,hP,hD,hN,hYm,hYn,hYp,hYf,hCs,Fs,hRf,hNk,hNp,hPl,hLx,hMr,hRo,hL,-⟩:=hd;obtain⟨fM,dM,FM,kM,bM,mM⟩:=cB X G hM ["rows"] fun|_,_,_,_,_,_,[_],_=>rfl;obtain⟨fLf,dLf,FLf,kLf,bLf,mLf⟩:=cB X G hLf ["rest"] fun|_,_,_,_,_,_,[_],_=>rfl;obtain⟨fWa,dWa,FWa,kWa,bWa,mWa⟩:=cB X G hWa ["rest","name"] fun|_,_,_,_,_,_,[_,_],_=>rfl;obtain⟨fRw,dRw,FRw,kRw,bRw,mRw⟩:=cB X G hRw ["rest"] fun|_,_,_,_,_,_,[_],_=>rfl;obtain⟨fNm,dNm,FNm,Im,Io,Ip⟩:=cB X G hNm ["thing"] fun|_,_,_,_,_,_,[_],_=>rfl;obtain⟨fCn,dCn,FCn,kCn,bCn,mCn⟩:=cB X G hCn ["thing"] fun|_,_,_,_,_,_,[_],_=>rfl;obtain⟨fIr,dIr,FIr,kIr,bIr,mIr⟩:=cB X G hIr ["thing"] fun|_,_,_,_,_,_,[_],_=>rfl;obtain⟨fKd,dKd,FKd,Iq,Ir,Iu⟩:=cB X G hKd ["family","thing"] fun|_,_,_,_,_,_,[_,_],_=>rfl;obtain⟨fAp,dAp,FAp,kAp,bAp,mAp⟩:=cB X G hAp ["family","thing"] fun|_,_,_,_,_,_,[_,_],_=>rfl;obtain⟨fCk,dCk,FCk,vB,vC,vD⟩:=cB X G hCk ["family","thing"] fun|_,_,_,_,_,_,[_,_],_=>rfl;obtain⟨fLo,dLo,FLo,Bx,By,Bz⟩:=cB X G Gg ["family"] fun|_,_,_,_,_,_,[_],_=>rfl;obtain⟨fFr,dFr,FFr,kFr,bFr,mFr⟩:=cB X G hFr ["lines","kind","parents"] fun|_,_,_,_,_,_,[_,_,_],_=>rfl;obtain⟨fLn,dLn,FLn,QC,QD,QE⟩:=cB X G G8 ["family","kind"] fun|_,_,_,_,_,_,[_,_],_=>rfl;obtain⟨fBe,dBe,FBe,kBe,bBe,mBe⟩:=cB X G hBe ["family","kind"] fun|_,_,_,_,_,_,[_,_],_=>rfl;obtain⟨fHe,dHe,FHe,QF,QG,QH⟩:=cB X G hHe ["family","kind"] fun|_,_,_,_,_,_,[_,_],_=>rfl;obtain⟨fWy,dWy,FWy,QI,QJ,QK⟩:=cB X G hWy ["family","a","b"] fun|_,_,_,_,_,_,[_,_,_],_=>rfl;obtain⟨fKm,dKm,FKm,kKm,bKm,mKm⟩:=cB X G hKm ["family","kind","parents"] fun|_,_,_,_,_,_,[_,_,_],_=>rfl;obtain⟨fKc,dKc,FKc,kKc,bKc,mKc⟩:=cB X G hKc ["family","kind","parents"] fun|_,_,_,_,_,_,[_,_,_],_=>rfl;obtain⟨fLg,dLg,FLg,kLg,bLg,mLg⟩:=cB X G hLg ["family","kind"] fun|_,_,_,_,_,_,[_,_],_=>rfl;obtain⟨fCp,dCp,FCp,QL,QM,QN⟩:=cB X G hCp ["family","thing"] fun|_,_,_,_,_,_,[_,_],_=>rfl;obtain⟨fWp,dWp,FWp,QO,QP,QQ⟩:=cB X G hWp ["family","kind","parents"] fun|_,_,_,_,_,_,[_,_,_],_=>rfl;obtain⟨fWo,dWo,FWo,QR,QS,QT⟩:=cB X G hWo ["family","kind"] fun|_,_,_,_,_,_,[_,_],_=>rfl;obtain⟨fP,dP,FP,kP,bP,mP⟩:=cB X G hP ["_law_script","_law_k"] fun|_,_,_,_,_,_,[_,_],_=>rfl;obtain⟨fD,dD,FD,kD,bD,mD⟩:=cB X G hD ["_law_pot_here","_law_many"] fun|_,_,_,_,_,_,[_,_],_=>rfl;obtain⟨fN,dN,FN,kN,bN,mN⟩:=cB X G hN ["_law_pot_here","_law_many"] fun|_,_,_,_,_,_,[_,_],_=>rfl;obtain⟨fYm,dYm,FYm,kYm,bYm,mYm⟩:=cB X G hYm ["_law_rows"] fun|_,_,_,_,_,_,[_],_=>rfl;obtain⟨fYn,dYn,FYn,kYn,bYn,mYn⟩:=cB X G hYn ["_law_lines","_law_kind","_law_own"] fun|_,_,_,_,_,_,[_,_,_],_=>rfl;obtain⟨fYp,dYp,FYp,kYp,bYp,mYp⟩:=cB X G hYp ["_law_pot_here","_law_made"] fun|_,_,_,_,_,_,[_,_],_=>rfl;obtain⟨fYf,dYf,FYf,kYf,bYf,mYf⟩:=cB X G hYf ["_law_pot_here","_law_kinds"] fun|_,_,_,_,_,_,[_,_],_=>rfl;obtain⟨fCs,lI,FCs,kCs,bCs,mCs⟩:=cB X G hCs ["_law_e"] fun|_,_,_,_,_,_,[_],_=>rfl;obtain⟨fCa,dCa,FCa,kCa,bCa,mCa⟩:=cB X G Fs ["_law_word","_law_family_here","_law_some"] fun|_,_,_,_,_,_,[_,_,_],_=>rfl;obtain⟨fRf,dRf,FRf,BA,BB,BC⟩:=cB X G hRf ["_law_word","_law_family_here","_law_some"] fun|_,_,_,_,_,_,[_,_,_],_=>rfl;obtain⟨fNk,dNk,FNk,kNk,bNk,mNk⟩:=cB X G hNk ["_law_pot_here","_law_kinds"] fun|_,_,_,_,_,_,[_,_],_=>rfl;obtain⟨fNp,dNp,FNp,kNp,bNp,mNp⟩:=cB X G hNp ["_law_pot_here","_law_kinds","_law_stranger"] fun|_,_,_,_,_,_,[_,_,_],_=>rfl;obtain⟨fPl,dPl,FPl,kPl,bPl,mPl⟩:=cB X G hPl ["_law_family_here","_law_kinds","_law_bad","_law_other"] fun|_,_,_,_,_,_,[_,_,_,_],_=>rfl;obtain⟨fLx,dLx,FLx,kLx,bLx,mLx⟩:=cB X G hLx ["_law_thing"] fun|_,_,_,_,_,_,[_],_=>rfl;obtain⟨fMr,dMr,FMr,kMr,bMr,mMr⟩:=cB X G hMr ["_law_family_here","_law_bad","_law_other","_law_no_parents_here"] fun|_,_,_,_,_,_,[_,_,_,_],_=>rfl;obtain⟨fRo,dRo,FRo,kRo,bRo,mRo⟩:=cB X G hRo ["_law_family_here","_law_parents_here","_law_other"] fun|_,_,_,_,_,_,[_,_,_],_=>rfl;obtain⟨fL,dL,FL,aL⟩:=hL;cases lG.symm.trans (mg_of X G aL)
 have nz:∀ {x:Str},x∈_->mg x=none:=fun {x} m=>z x m;have Bl:fg mg:=⟨nz (by decide),nz (by decide),nz (by decide),nz (by decide),nz (by decide),nz (by decide),nz (by decide),nz (by decide),nz (by decide),nz (by decide)⟩
 have B2:km mg:=⟨nz (by decide),nz (by decide),nz (by decide),nz (by decide)⟩
 have bst:mg "set" = none:=nz (by decide)
 have bzp:mg "zip" = none:=nz (by decide)
 unfold nsOk at nH;simp only[jA,eN]at nH;obtain⟨n1,n2,n3,me,n4,n5⟩:=nH;have bs:rA K LE:=⟨(jY.mp Bw).1,eN.mp (jY.mp Bw).2,Il⟩;have BD:=mg_of X G HX;have FI:=DD (st:=pY) Ia Ib Ic;have bI:=FI.binds (ps:= ["self","kind","ring"]) fun|_,_,_,_,_,_,[_,_,_],_=>rfl;have FJ:=DD (st:=rB) Ih Ii Ij;have bJ:=FJ.binds (ps:= ["self","way"]) fun|_,_,_,_,_,_,[_,_],_=>rfl;have cl:∀i∈iC,(∀j,j < 16->kitOne K (.ref (fX [g0,g1,g2,g3,g4,g5,g6,g7,g8,g9,ia,ib,gr,gu,ie,ig] i)) (.ref (fX [g0,g1,g2,g3,g4,g5,g6,g7,g8,g9,ia,ib,gr,gu,ie,ig] j))=some (decide (i=j)))/\kitOne K (.ref (fX [g0,g1,g2,g3,g4,g5,g6,g7,g8,g9,ia,ib,gr,gu,ie,ig] i)) (.type "ValueError")=some true/\df K (fX [g0,g1,g2,g3,g4,g5,g6,g7,g8,g9,ia,ib,gr,gu,ie,ig] i)/\mroIn K (fX [g0,g1,g2,g3,g4,g5,g6,g7,g8,g9,ia,ib,gr,gu,ie,ig] i) (.ref LE)=some true:=fun i hi=>by
  have h:=iW.mp gZ i hi;simp only[jA,eN,iW]at h;exact⟨fun j hj=>h.1 j (nU.mpr hj),h.2.1,Wo h.2.2.1,h.2.2.2⟩
 have pl:∀i∈([0,1,2,3,4]:List Nat),dj K (fX [g0,g1,g2,g3,g4,g5,g6,g7,g8,g9,ia,ib,gr,gu,ie,ig] i) none=true/\keepIn K (.ref (fX [g0,g1,g2,g3,g4,g5,g6,g7,g8,g9,ia,ib,gr,gu,ie,ig] i))=true:=fun i hi=>jY.mp (iW.mp cR i hi);have TC:rY K mg (fX [g0,g1,g2,g3,g4,g5,g6,g7,g8,g9,ia,ib,gr,gu,ie,ig]):=by
  refine⟨fun p hp=>?_,nz (by decide),fun i hi j hj=>(cl i hi).1 j hj,fun i hi=>(cl i hi).2.1,fun i hi=>(cl i hi).2.2.1,fun B hB i hi=>?_⟩
  ·unfold eJ at hp
   simp only[aY,jZ,j3]at hp;refine LY X G p.1 hJ ?_ ?_ <;> rcases hp with rfl|rfl|rfl|rfl|rfl|rfl|rfl|rfl|rfl|rfl|rfl|rfl|rfl|rfl|rfl|rfl <;> rfl
  ·cases hB.symm.trans BD;exact(cl i hi).2.2.2
 have TR:D4 K mg LE (fX [g0,g1,g2,g3,g4,g5,g6,g7,g8,g9,ia,ib,gr,gu,ie,ig] 12) fI _:=⟨TC.n (12,"Ring") (by decide),HZ,HY,n3,FI,bs,BD,bI,(cl 12 (by decide)).2.2.1,n1,n2⟩
 have TJ:MF K mg LE (fX [g0,g1,g2,g3,g4,g5,g6,g7,g8,g9,ia,ib,gr,gu,ie,ig] 13) fJ _:=⟨TC.n (13,"Round") (by decide),Ig,Ie,n5,FJ,bs,BD,bJ,(cl 13 (by decide)).2.2.1,n4⟩
 have T0:mZ K mg "NoName" (fX [g0,g1,g2,g3,g4,g5,g6,g7,g8,g9,ia,ib,gr,gu,ie,ig] 0):=⟨(pl 0 (by decide)).1,(pl 0 (by decide)).2,TC.n (0,"NoName") (by decide),(cl 0 (by decide)).2.2.1⟩
 have T1:mZ K mg "NoKind" (fX [g0,g1,g2,g3,g4,g5,g6,g7,g8,g9,ia,ib,gr,gu,ie,ig] 1):=⟨(pl 1 (by decide)).1,(pl 1 (by decide)).2,TC.n (1,"NoKind") (by decide),(cl 1 (by decide)).2.2.1⟩
 have T2:mZ K mg "NoParents" (fX [g0,g1,g2,g3,g4,g5,g6,g7,g8,g9,ia,ib,gr,gu,ie,ig] 2):=⟨(pl 2 (by decide)).1,(pl 2 (by decide)).2,TC.n (2,"NoParents") (by decide),(cl 2 (by decide)).2.2.1⟩
 have T3:mZ K mg "Taken" (fX [g0,g1,g2,g3,g4,g5,g6,g7,g8,g9,ia,ib,gr,gu,ie,ig] 3):=⟨(pl 3 (by decide)).1,(pl 3 (by decide)).2,TC.n (3,"Taken") (by decide),(cl 3 (by decide)).2.2.1⟩
 have T4:mZ K mg "InUse" (fX [g0,g1,g2,g3,g4,g5,g6,g7,g8,g9,ia,ib,gr,gu,ie,ig] 4):=⟨(pl 4 (by decide)).1,(pl 4 (by decide)).2,TC.n (4,"InUse") (by decide),(cl 4 (by decide)).2.2.1⟩
 obtain⟨_,_,_,_,_,_,_,_,_,rfl,_,_⟩:=FL.ex;exact⟨_,fun s v=>.of_eq rfl,fun base _ _ =>
  let GD:=C5 FD
  let Iv:=Vz FNm Bl B2
  let GIr:=Xx FIr Bl B2 bst Iv Im Io Ip
  let Iw:=WC FKd B2 Iv Im Io Ip
  let GAp:=WE FAp Bl (mg_of X G D8) GIr kIr bIr mIr Iw Iq Ir Iu
  let vE:=VB FCk T1 Iw Iq Ir Iu
  let GCn:=XC FCn T0 Iv Im Io Ip
  let QU:=YE FCp T2 GAp kAp bAp mAp
  let GM:=Us FM Bl TR FWa bWa mWa FLf bLf mLf FRw bRw mRw
  let GFr:=Yu FFr Bl TR me GM kM bM mM
  let BE:=Vw FLo Bl GFr kFr bFr mFr
  let QV:=UA FLn vE vB vC vD BE Bx By Bz
  let GBe:=XF FBe B2 vE vB vC vD BE Bx By Bz
  let QW:=VC FHe B2 vE vB vC vD
  let QX:=XG FWy Bl B2 vE vB vC vD BE Bx By Bz
  let QY:=YI FWo Bl
  let QZ:=YJ FWp Bl B2 QY QR QS QT BE Bx By Bz
  let GKm:=YL FKm T3 GCn kCn bCn mCn Iw Iq Ir Iu QU QL QM QN QZ QO QP QQ
  let GKc:=YN FKc TJ vE vB vC vD QU QL QM QN QX QI QJ QK QZ QO QP QQ
  let GLg:=YQ FLg T4 vE vB vC vD QW QF QG QH QY QR QS QT
  let GYf:=Xo FYf Bl B2 (Xl FYp Bl FD bD mD) kYp bYp mYp (Yy FYn Bl FYm bYm mYm) kYn bYn mYn
  let GCs:=YT FCs B2 bzp TC
  let GCa:=WJ FCa QV QC QD QE GBe kBe bBe mBe QW QF QG QH GLg kLg bLg mLg QX QI QJ QK GKm kKm bKm mKm GKc kKc bKc mKc
  let BF:=YV FRf TC BD ⟨_,Ik⟩ GCs kCs bCs mCs GCa kCa bCa mCa
  let GNk:=Y0 FNk Bl GD kD bD mD
  let GNp:=Y2 FNp Bl GD kD bD mD
  let GPl:=Y4 FPl BF BA BB BC QV QC QD QE
  let GLx:=VI FLx Bl B2
  let GMr:=Y7 FMr BF BA BB BC GLx kLx bLx mLx
  let GRo:=Y' FRo Bl BF BA BB BC
  let GP:=Xi FP Bl
  let GN:=Vs FN Bl FD bD mD
  XW FL Bl GP kP bP mP GD kD bD mD GN kN bN mN GYf kYf bYf mYf GNk kNk bNk mNk GNp kNp bNp mNp GPl kPl bPl mPl GMr kMr bMr mMr BF BA BB BC GRo kRo bRo mRo⟩
theorem walk {l:OpenLaw}{d:DefRec}{K:Params->Frag} (hn:l.most=some 63) (xU:d.params.defaults = [])
  (hY:∀ (w:World) (h:Heap),YP w h->(K w.params).In h)
  (F:∀ (w:World) (mg:Str->Option Value) (fa:Addr) (h:Heap),(K w.params).In h->h.Ns mainGlobals mg->mg d.name=some (.ref fa) ->
   ∃fd:FuncData,(∀ (s:Shared) (u:Value),BindsTo s fd ⟨[u],[]⟩ [("_law_script",u)]) /\ ∀base:Heap,(K w.params).In base->base.Ns mainGlobals mg->aD l.prog w (K w.params) mg base aR 11 fa fd ["_law_script"] (rK (K w.params))) :
  WalkO q loose XP YP l.row.toRowW d [] (fun f vs=>PySem.call f vs):=
 L2.VX (n:=63) (k:=11) (x:= "_law_script") (CX:=fun _=>aR) (sp:=fun w=>rK (K w.params)) hn (by decide) xU ⟨rfl,by decide,by decide,rfl⟩ hY F (fun _ _ a ns hl _ hS=>by unfold rK;exact⟨a,ns,rfl,hS,hl,fun _=>rfl⟩) fun _ _ _ _ _ z=>z
end iR
namespace PySem.W.Fast
def tw18280198393050424277:=0
def tw8114472015939825001:=0
def tw2096159940485382633:=0
def tw15317471715195558838:=0
def tw11801817099595175379:=0
def tw11208292193854826801:=0
def tw14862602084621577009:=0
def tw8401727694927961706:=0
def tw16644786638849656005:=0
def tw453650335710836611:=0
def tw17338703547212872541:=0
def tw2218846038518011290:=0
def tw11534380869464863786:=0
def tw17413723720447150270:=0
def tw3217882765968403526:=0
def tw8020533832507769614:=0
def tw16197358164737616387:=0
def tw593590481295748453:=0
def tw17990170943223713908:=0
def tw11660910244241930004:=0
def tw6153839726598212042:=0
def tw6670813750456175509:=0
def tw13209001668608426132:=0
def tw14879204584574274711:=0
def tw13531961643135164340:=0
def tw17072524866476349238:=0
def tw12534603872282021439:=0
def tw12138771327707102195:=0
def tw10940247965284742985:=0
def tw11345414837255849275:=0
def tw18254976640559215297:=0
def tw2605526567939367175:=0
def tw6767489750653431592:=0
def tw17728924834504693971:=0
def tw11655730474142437529:=0
def tw10967790982472258580:=0
def tw12572368743575694997:=0
def tw14298928893199812492:=0
def tw15740016572919316204:=0
def tw7490597629294574842:=0
def tw7955081315644249707:=0
def tw8224013287027007115:=0
def tw6990366577877800288:=0
def tw2195366935056756435:=0
def tw9209912981532351026:=0
def tw10695441580088361248:=0
def tw13188840908866590755:=0
def tw5044735468234092160:=0
def tw13262217103672437923:=0
def tw15607834033568464832:=0
def tw3202163696869733964:=0
def tw7313495605442473967:=0
def tw4386886743941344242:=0
def tw4048570193321154220:=0
def tw1099975521939417120:=0
def tw2584702257820401601:=0
def tw5076521268793058518:=0
def tw15024673865120806152:=0
def tw9927193339754298703:=0
def tw6852519533466055260:=0
def tw17846264904010757808:=0
def tw15082503978436691885:=0
def tw12562806689678698114:=0
def tw11957565188207836445:=0
def tw7841761658075405734:=0
def tw9154632271105061037:=0
def tw14818286598120504526:=0
def tw10748778989459434497:=0
def tw14927413465549303948:=0
def tw3257913593245083781:=0
def tw2476786126810588075:=0
def tw14004066234875928364:=0
def tw13218647207528989360:=0
def tw12590918364119148774:=0
def tw8799873662070111549:=0
def tw7657509913619235851:=0
def tw11280626837047763984:=0
def tw17629697766321990324:=0
def tw6536874703920988260:=0
def tw4285398995681020146:=0
def tw9579637512132898008:=0
def tw10586195205767828725:=0
def tw29979334051008561:=0
def tw15876181040393186612:=0
def tw3548193303675458502:=0
def tw9365230620502643878:=0
def tw11545657062546894807:=0
def tw15498893074045665573:=0
def tw10028850693123558992:=0
def tw6735922919793086635:=0
def tw15513299953465515664:=0
def tw7375165688252639661:=0
def tw8566758041684580612:=0
def tw14857563330874973550:=0
def tw13305398702522170242:=0
def tw302707462730629702:=0
def tw17865004057715797673:=0
def tw17970408789070913748:=0
def tw12666904958893983640:=0
def tw12245834255193510361:=0
def tw11423019432699367205:=0
def tw1478455281535156405:=0
def tw7646276327496922107:=0
def tw17219980577263584680:=0
def tw12660789842784358842:=0
def tw9160770759817787237:=0
def tw7969716389984303213:=0
def tw17282230514817166512:=0
def tw5307917089221396760:=0
def tw15441932274037173306:=0
def tw3687882571131719217:=0
def tw10887456152483715627:=0
def tw18099053227385443909:=0
def tw5950966496716204751:=0
def tw9640096243242042773:=0
def tw7763972325320536614:=0
def tw10656397912907751105:=0
def tw4637788983756169154:=0
def tw6445372189106185812:=0
def tw3909147514022471098:=0
def tw15487617843919551079:=0
def tw11553486473415876630:=0
def tw14290883033035335293:=0
def tw3696376219367581575:=0
def tw2409715171068620741:=0
def tw16495077660740282678:=0
def tw5717908688871994429:=0
def tw17906026183997338370:=0
def tw6700818573558553234:=0
def tw14749839358744307592:=0
def tw4112849199232381140:=0
def tw3335510246680938428:=0
def tw9310606735586690161:=0
def tw3782333265093081955:=0
def tw7760509557014516519:=0
def tw1452132994036910700:=0
def tw14992148103278831614:=0
def tw12939524931804340622:=0
def tw6309834059629037237:=0
def tw11299024708739241153:=0
def tw15109973211807773901:=0
def tw5898684960417021387:=0
def tw11157758071504148155:=0
def tw9060300953098240050:=0
def tw16806843070100045854:=0
def tw7335364139080064683:=0
def tw16342718843699476012:=0
def tw6558045967582050075:=0
def tw15737677302127180351:=0
def tw4415809995059947320:=0
def tw11455690376311246190:=0
def tw9777611133467496594:=0
def tw11839728576253313997:=0
def tw3482661441421671117:=0
def tw3276475817651739178:=0
def tw15677312821546656525:=0
def tw15875845595861539328:=0
def tw3850893088071616960:=0
def tw17232340003374943588:=0
def tw5775107891093715938:=0
def tw5885974071951804516:=0
def tw3583442979631576866:=0
def tw17077785357116756137:=0
def tw12858018162025686442:=0
def tw1623891135298200825:=0
def tw4133148715708515865:=0
def tw13877149771857396539:=0
def tw13612826225158226380:=0
def tw12946015586004450174:=0
def tw9320902827188231522:=0
def tw12501404085592938099:=0
def tw17514269558747082451:=0
def tw12053643564644437755:=0
def tw8926220219052844421:=0
def tw17225353254338796533:=0
def tw1599820809539873688:=0
def tw13792454908731523558:=0
def tw32898077782069483:=0
def tw5863828666934812593:=0
def tw15241434610235596636:=0
def tw3082679948043530322:=0
def tw10562551370932374196:=0
def tw17138190815511015498:=0
def tw64946270470536124:=0
def tw5793849178706613169:=0
def tw2909178859214799222:=0
def tw17061466087442381136:=0
def tw10408787757072396008:=0
def tw7848867226567595170:=0
def tw4372505263206663796:=0
def tw11551795749100397156:=0
def tw1583124496045228059:=0
def tw1743316311826642426:=0
def tw3464472470147470699:=0
def tw7229169741530332120:=0
def tw11797772197403549861:=0
def tw1421520250166779729:=0
def tw8841501997786887885:=0
def tw16873677365002403130:=0
def tw8017031066748885023:=0
def tw8449599754238017143:=0
def tw15636820884434765192:=0
def tw14409467809179468637:=0
def tw18157594542478964507:=0
def tw4396904967499598767:=0
def tw113910324995300868:=0
def tw9296456104730976344:=0
def tw14154527318011662366:=0
def tw14147377468343973208:=0
def tw1268907502132902190:=0
def tw13213570477577634907:=0
def tw15120708475836697066:=0
def tw5321490448891905764:=0
def tw13961811897404261445:=0
def tw18141390193169245903:=0
def tw1637417029630741297:=0
def tw5016880193907229676:=0
def tw3476744059439744988:=0
def tw9167259300028591266:=0
def tw2239793974642652072:=0
def tw5701170299879650598:=0
def tw11364129433686652846:=0
def tw4214006302148266364:=0
def tw12698375292444176742:=0
def tw3336255114876612042:=0
def tw10806102321759187858:=0
def tw18357709435621621089:=0
def tw13755409787489152231:=0
def tw16390650678169336176:=0
def tw16028987351659014003:=0
def tw13262744927219770224:=0
def tw10349504675784112533:=0
def tw16563100995425425764:=0
def tw11654410231771248586:=0
def tw15272386750150471965:=0
def tw13824679662745323644:=0
def tw8795185374965478546:=0
def tw4965916671617257494:=0
def tw3310857408268177496:=0
def tw10997814267242049086:=0
def tw9958067224436795896:=0
def tw17642127771882633216:=0
def tw12949803263286510751:=0
def tw16034629772226402090:=0
def tw3651784338666018959:=0
def tw5898267193110307197:=0
def tw16236506010499814547:=0
def tw12957356815900706604:=0
def tw7596130920546456936:=0
def tw3390824153898077135:=0
def tw16733268950289353925:=0
def tw556734915940390220:=0
def tw15174116610603247887:=0
def tw2684859043156318634:=0
def tw8644824778705056686:=0
def tw614469882276411395:=0
def tw18037185680712538120:=0
def tw17717484916237179000:=0
def tw1879537545360484885:=0
def tw690497599815946737:=0
def tw13353548804903663800:=0
def tw14140383823059036934:=0
def tw14229626929882808879:=0
def tw11259324519523038742:=0
def tw9021111102325160505:=0
def tw3088273436704638325:=0
def tw4591517733522450537:=0
def tw2806805637418331946:=0
def tw17486975673448886351:=0
def tw16386848762821110647:=0
def tw10352681890300027293:=0
def tw17828645456265204859:=0
def tw380716647140755101:=0
def tw11841677280912809375:=0
def tw5739205898706817997:=0
def tw4177103120379004361:=0
def tw3256500256808406288:=0
def tw3899014169574821743:=0
def tw11760874263899692335:=0
end PySem.W.Fast
open PySem PySem.W PyProof.Rows
set_option maxRecDepth 100000 in
set_option maxHeartbeats 0 in
theorem PySem.Challenge.cw_parentlines_k28_refusals_of_families_holds : PySem.Challenge.rw_parentlines_k28_refusals_of_families.Holds := by
 w_on;o_law;k_head;(case hw=>w_witness2)
 k_fill
 refine iR.walk (l:=PySem.Challenge.rw_parentlines_k28_refusals_of_families) rfl rfl (fun w h Y=>PySem.W.kIn_of Y) ?F
 case F =>
  intro w mg fa h KX G sC;refine' iR.all_mk KX G sC ?d ?z ?hJ ?HX ?QA ?HY ?HZ ?Ia ?Ib ?Ic ?QB ?Ie ?Ig ?Ih ?Ii ?Ij ?gZ ?cR ?Ik ?nH ?Bw ?D8 ?Il
  (case d=>(repeat (refine' L2.Yp ?a ?l ?c ?k ?_;(case a=>k_is);(case l=>k_is);(case c=>k_is);(case k=>k_is)));exact trivial)
  (case z=>(repeat' first|exact trivial|refine And.intro ?_ ?_) <;> k_is)
  (case hJ=>(repeat' first|exact trivial|refine And.intro ?_ ?_) <;> k_is)
  (case HX=>k_is)
  (case QA=>k_is)
  (case HY=>k_is)
  (case Ia=>k_is)
  (case Ib=>k_is)
  (case Ic=>k_is)
  (case QB=>k_is)
  (case Ie=>k_is)
  (case Ih=>k_is)
  (case Ii=>k_is)
  (case Ij=>k_is)
  (case D8=>k_is)
  (case Il=>k_is)
  (case HZ=>kernel_rfl)
  (case Ig=>kernel_rfl)
  (case gZ=>kernel_rfl)
  (case cR=>kernel_rfl)
  (case Ik=>kernel_rfl)
  (case nH=>kernel_rfl)
  (case Bw=>kernel_rfl)
