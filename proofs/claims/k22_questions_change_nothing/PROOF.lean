import PyProof.Rows.All
import Wide.All
import OpenK.AllK
import Wide.FinOn
import Lean
import PyProof.EqAt
import PyProof.EqKinds
import PyProof.TupleCall
import PyProof.StrWalks
import PyProof.ConsumeWalk
import PyProof.IsiPairs
import PyProof.IsiHeapPairs
import PyProof.StationsW
import OpenK.KOwn
import KE.KIsAll
import PyProof.ExcAttrAll.ValueError
import PyProof.Rows.StrWeight2
import KE.KLam
import KE.KSortKey
import PyProof.ListRange
import KE.KRevSl
import PyProof.EnumStmt
import PyProof.EnumMake
import PyProof.NeKinds
import PyProof.Rows.SumAny
import PyProof.SliceStr2
import PyProof.StrOps2
import PyProof.MinMaxWalk
import PyProof.ZipIter
import PyProof.IsiNone
import KE.KIntText
import PyProof.StrCalls2
import PyProof.StrLawsTight
import PyProof.StrLawsChain
import PyProof.Rows.StrItems
import PySem.Challenge.RW_stairgauge_k22_questions_change_nothing
set_option linter.all false
set_option maxRecDepth 100000
set_option Elab.async false
set_option maxHeartbeats 0
abbrev NY:=PySem.W.Frag
local macro_rules|`(tactic|trivial)=>`(tactic|decide +kernel)
abbrev Kj:=@List.length_map
abbrev Kk:=@if_neg
abbrev Kl:=@List.getElem?_eq_getElem
abbrev Km:=@List.mem_singleton
abbrev Kn:=@Nat.le_refl
abbrev Ko:=@if_pos
abbrev Kp:=@List.mem_of_getElem?
abbrev Kq:=@PySem.Heap.get?_push_of_some
abbrev Kr:=@List.length_append
abbrev Ks:=@List.mem_cons
abbrev Kt:=@PySem.wpAny_bind
abbrev Ku:=@List.getD_eq_getElem?_getD
abbrev Kv:=@List.getElem?_eq_some_iff
abbrev Kw:=@PySem.F.plainAttrs_list
abbrev Kx:=@List.mem_cons_of_mem
abbrev Ky:=@List.mem_cons_self
abbrev Kz:=@List.mem_append
abbrev KA:=@PySem.Heap.lt_size
abbrev KC:=@List.size_toArray
abbrev KD:=@List.getElem?_map
abbrev KG:=@Bool.false_ne_true
abbrev KH:=@decide_eq_false
abbrev KI:=@decide_eq_true
abbrev KJ:=@Option.some.inj
abbrev KL:=@PySem.PassesOwn.never
abbrev KN:=@List.map_append
abbrev KO:=@Int.toNat_natCast
abbrev KP:=@Nat.le_trans
abbrev KQ:=@of_decide_eq_true
abbrev KR:=@PySem.F.slot_list_append
abbrev KS:=@PySem.F.type_list_append
abbrev KU:=@List.mem_range
abbrev KW:=@Ne.symm
abbrev KY:=@Nat.le_of_lt
abbrev KZ:=@List.length_cons
abbrev K0:=@List.mem_append_right
abbrev K1:=@PySem.wpAny_pure
abbrev K2:=@Int.le_refl
abbrev K3:=@Nat.ne_of_lt
abbrev K4:=@List.length_take
abbrev K5:=@List.take_length
abbrev K6:=@Bool.not_eq_true
abbrev K7:=@PySem.Heap.get?_push_size
abbrev K8:=@List.not_mem_nil
abbrev K9:=@Int.le_trans
abbrev La:=@List.take_add_one
abbrev Lb:=@Decidable.not_not
abbrev Lc:=@Bool.and_eq_true
abbrev Ld:=@of_decide_eq_false
abbrev Lg:=@List.map_cons
abbrev Lh:=@Classical.byContradiction
abbrev Li:=@List.mem_filter
abbrev Lj:=@List.mem_append_left
abbrev Lk:=@Nat.lt_of_lt_of_le
abbrev Ll:=@List.length_filter_le
abbrev Lm:=@congrArg
abbrev Ln:=@Nat.zero_le
abbrev Lo:=@PySem.Heap.get?_update_other
abbrev Lp:=@Nat.lt_of_le_of_lt
abbrev Lq:=@List.nodup_cons
abbrev Lr:=@PySem.wpAny_mono
abbrev Ls:=@List.length_drop
abbrev Lu:=@List.find?_cons_of_neg
abbrev Lv:=@List.replicate_succ
abbrev Lw:=@List.length_range
abbrev Lx:=@List.mem_map
abbrev Ly:=@List.append_nil
abbrev Lz:=@List.filter_append
abbrev LA:=@List.lookup_cons
abbrev LB:=@List.all_eq_true
abbrev LC:=@Nat.not_lt_zero
abbrev LD:=@Nat.min_le_left
abbrev LF:=@PySem.Heap.size_push
abbrev LG:=@List.mem_iff_getElem
abbrev LH:=@PySem.F.slot_list_index
abbrev LI:=@PySem.F.type_list_index
abbrev LJ:=@List.flatten_cons
abbrev LK:=@List.foldl_append
abbrev LL:=@PySem.wpAny_truthy_bool
abbrev LM:=@PySem.Heap.get?_update_ne
abbrev LO:=@List.take_of_length_le
abbrev LP:=@List.find?_cons_of_pos
abbrev LQ:=@Nat.lt_irrefl
abbrev LR:=@List.any_cons
abbrev LU:=@List.getElem_mem
abbrev LV:=@PySem.Heap.get?_update_self
abbrev LW:=@Int.emod_lt_of_pos
abbrev LX:=@Decidable.byContradiction
abbrev LY:=@Option.isSome_iff_exists
abbrev LZ:=@List.range_succ
abbrev L1:=@List.map_map
abbrev L3:=@Int.emod_nonneg
abbrev L4:=@PySem.wpAny_standAt
abbrev L5:=@List.filter_cons
abbrev L6:=@PySem.Value.type.inj
abbrev L7:=@beq_self_eq_true
abbrev L8:=@or_false
abbrev L9:=@PySem.call_meets
abbrev Ma:=@PyProof.Rows.callWith_type1
abbrev Mb:=@PyProof.Rows.assignInOrder_cons
abbrev Mc:=@PySem.wpAny_Call_Name_kw
abbrev Md:=@Bool.eq_iff_iff
abbrev Me:=@PySem.W.methodCall_KW
abbrev Mf:=@List.length_replicate
abbrev Mg:=@List.length_set
abbrev Mh:=@List.eq_nil_or_concat
abbrev Mi:=@List.concat_eq_append
abbrev Mj:=@PySem.F.slot_list_pop
abbrev Ml:=@PySem.F.type_list_pop
abbrev Mm:=@PySem.wpAny_passesOwn
abbrev Mn:=@PySem.wpAny_holding
abbrev Mo:=@List.append_assoc
abbrev Mp:=@PySem.wpAny_pyIter_list
abbrev Mq:=@PySem.wpAny_loadPart_at
abbrev Mr:=@Array.getElem?_eq_getElem
abbrev Ms:=@Nat.lt_succ_self
abbrev Mu:=@PySem.mem_of_lookup
abbrev Mv:=@List.mem_filterMap
abbrev Mw:=@Nat.not_lt
abbrev Mx:=@List.find?_cons
abbrev My:=@List.length_nil
abbrev Mz:=@PySem.tupleKind_room_in1
abbrev MB:=@Nat.le_succ
abbrev MC:=@PySem.Calls.callWith_builtin
abbrev MD:=@List.eq_nil_of_length_eq_zero
abbrev ME:=@List.take_append_of_le_length
abbrev MF:=@Nat.lt_succ_of_lt
abbrev MG:=@List.nodup_append
abbrev MH:=@List.nodup_nil
abbrev MI:=@PySem.Calls.evalArgs_plain
abbrev MJ:=@List.mem_of_mem_drop
abbrev ML:=@List.mem_of_mem_take
abbrev MM:=@List.getElem?_append_right
abbrev MN:=@List.map_congr_left
abbrev MO:=@List.getElem?_append_left
abbrev MP:=@PySem.W.callWith_K
abbrev MQ:=@List.find?_eq_none
abbrev MS:=@PySem.codeAny_mono
abbrev MT:=@PySem.wpAny_bindName
abbrev MU:=@List.length_eq_zero_iff
abbrev MV:=@PySem.wpAny_newObj_type
abbrev MW:=@Sum.inl.inj
abbrev MX:=@PySem.wpAny_field
abbrev MY:=@List.take_nil
abbrev MZ:=@Nat.le_add_right
abbrev M0:=@List.length_singleton
abbrev M3:=@Array.mem_iff_getElem
abbrev M4:=@PySem.F.slot_dict_get
abbrev M5:=@List.eraseIdxIfInBounds_toArray
abbrev M6:=@PySem.Heap.get?_none_of_le
abbrev M7:=@List.getElem?_set_ne
abbrev M8:=@Nat.ne_of_gt
abbrev M9:=@List.map_nil
abbrev Na:=@List.getElem_toArray
abbrev Nb:=@Option.map_some
abbrev Nc:=@List.map_set
abbrev Nd:=@PySem.wpAny_execs_nil
abbrev Nf:=@PySem.wpAny_call
abbrev Ng:=@List.filterMap_cons
abbrev Nh:=@Array.length_toList
abbrev Ni:=@PySem.W.plainGet_of
abbrev Nj:=@PySem.W.callWith_K0
abbrev Nk:=@List.getElem_of_mem
abbrev Nl:=@PySem.wpAny_isSubtype_exc
abbrev Nn:=@Bool.false_and
abbrev Np:=@PySem.sizeLine_eq
abbrev Nq:=@PySem.Calls.spliced_cons
abbrev Nr:=@PySem.SeqAt.EqAt.str_str
abbrev Nt:=@List.pairwise_cons
abbrev Nu:=@List.mem_replicate
abbrev Nv:=@PySem.Paired.length
abbrev Nw:=@Int.fdiv_eq_ediv_of_nonneg
abbrev Ny:=@List.all_cons
abbrev Nz:=@Array.getElem?_eq_some_iff
abbrev NA:=@List.sum_cons
abbrev NB:=@List.drop_nil
abbrev NC:=@List.any_eq_false
abbrev ND:=@Option.isSome_map
abbrev NF:=@Nat.le_of_eq
abbrev NG:=@Nat.min_le_right
abbrev NH:=@Nat.succ_le_succ
abbrev NI:=@Nat.le_of_not_lt
abbrev NJ:=@List.any_eq_true
abbrev NK:=@List.ext_getElem
abbrev NM:=@List.cons_append
abbrev NN:=@Nat.succ_pos
abbrev NO:=@List.all_map
abbrev NP:=@decide_eq_decide
abbrev NQ:=@List.of_mem_zip
abbrev NR:=@Int.ediv_nonneg
abbrev NS:=@Nat.min_eq_left
abbrev NU:=@Sum.inr.inj
namespace L2
open PySem PySem.Spec PyProof.Rows
abbrev Key:=Sum Int Str
def tu:Key->Value->Bool
 | .inl k,v=>Value.isInt k v
 | .inr x,v=>Value.isStrOf x v
def Jf (w:World):Key->Int
 | .inl k=>hashInt k
 | .inr x=>hashStr w x
theorem dZ: ∀ {k:Key}{v:Value},tu k v=true->(∃i t,k=Sum.inl i/\v=Value.int i t)\/(∃x t,k=Sum.inr x/\v=Value.str x t)
 | .inl i,v,h=>by
  obtain⟨t,e⟩:=Value.isInt_shape (k:=i) (v:=v) h
  exact .inl ⟨i,t,rfl,e⟩
 | .inr x,v,h=>by
  obtain⟨t,e⟩:=Value.isStrOf_shape (x:=x) (v:=v) h
  exact .inr ⟨x,t,rfl,e⟩
theorem BI (i:Int) (t:Tok):tu (.inl i) (.int i t)=true:=by simp[tu,Value.isInt]
theorem Br (x:Str) (t:Tok):tu (.inr x) (.str x t)=true:=by simp[tu,Value.isStrOf]
theorem Gy (a b:Int):decide ((Sum.inl a:Key)=Sum.inl b)=(a == b):=by
 by_cases e:a=b
 .subst e; simp
 .have h: ¬(Sum.inl a:Key)=Sum.inl b:=fun q=>e (MW q)
  rw[KH h]
  exact (beq_eq_false_iff_ne.mpr e).symm
theorem Hm (a b:Str):decide ((Sum.inr a:Key)=Sum.inr b)=decide (a=b):=by
 by_cases e:a=b
 .subst e; simp
 .have h: ¬(Sum.inr a:Key)=Sum.inr b:=fun q=>e (NU q)
  rw[KH h,KH e]
theorem GP (a:Int) (b:Str):decide ((Sum.inl a:Key)=Sum.inr b)=false:=KH (fun q=>nomatch q)
theorem HA (a:Str) (b:Int):decide ((Sum.inr a:Key)=Sum.inl b)=false:=KH (fun q=>nomatch q)
def cF (prog:Program) (w:World):PySem.KeyKind prog w Key where
 is:=tu
 hash:=Jf w
 inj:=fun v a b ha hb=>by
  rcases dZ ha with⟨i,t,rfl,rfl⟩ | ⟨x,t,rfl,rfl⟩
  .rcases dZ hb with⟨j,u,rfl,e⟩ | ⟨y,u,rfl,e⟩
   .injection e with e1 _; rw[e1]
   .exact nomatch e
  .rcases dZ hb with⟨j,u,rfl,e⟩ | ⟨y,u,rfl,e⟩
   .exact nomatch e
   .injection e with e1 _; rw[e1]
 byValue:=fun k v h=>by
  rcases dZ h with⟨i,t,rfl,rfl⟩ | ⟨x,t,rfl,rfl⟩ <;> rfl
 pyHash:=fun hv h=>by
  rcases dZ hv with⟨i,t,rfl,rfl⟩ | ⟨x,t,rfl,rfl⟩
  .exact wpAny_pyHash_int h
  .exact wpAny_pyHash_str h
 eqBool:=fun hu hv h=>by
  rcases dZ hu with⟨i,t,rfl,rfl⟩ | ⟨x,t,rfl,rfl⟩
  .rcases dZ hv with⟨j,u,rfl,rfl⟩ | ⟨y,u,rfl,rfl⟩
   .rw[Gy] at h; exact wpAny_eqBool_int h
   .rw[GP] at h; exact SeqAt.EqAt.int_str i t y u _ _ _ _ h
  .rcases dZ hv with⟨j,u,rfl,rfl⟩ | ⟨y,u,rfl,rfl⟩
   .rw[HA] at h; exact SeqAt.EqAt.str_int x t j u _ _ _ _ h
   .rw[Hm] at h; exact wpAny_eqBool_str h
 «strs» := fun k x t v h=>by
  rcases dZ h with⟨i,u,rfl,e⟩ | ⟨y,u,rfl,e⟩
  .exact nomatch e
  .injection e with e1 _
   subst e1
   cases v <;> rfl
theorem y6 (prog:Program) (w:World) (i:Int) (t:Tok):(cF prog w).is (.inl i) (.int i t)=true:=BI i t
theorem yM (prog:Program) (w:World) (x:Str) (t:Tok):(cF prog w).is (.inr x) (.str x t)=true:=Br x t
inductive V where
 | non | bl (b:Bool) | int (i:Int) | str (x:Str) | byt (b:Array UInt8) | flt (b:UInt64) | ref (a:Addr) | ty (n:String)
 deriving DecidableEq
def RelV:V->Value->Prop
 | .non,u=>u=Value.none
 | .bl b,u=>u=Value.bool b
 | .int i,u=> ∃t,u=Value.int i t
 | .str x,u=> ∃t,u=Value.str x t
 | .byt b,u=> ∃t,u=Value.bytes b t
 | .flt b,u=> ∃t,u=Value.float b t
 | .ref a,u=>u=Value.ref a
 | .ty n,u=>u=Value.type n
abbrev Vals:List V->List Value->Prop:=Paired RelV
theorem Vals.length {xs:List V}{us:List Value}(r:Vals xs us):xs.length=us.length:=Nv r
theorem Vals.get: ∀ {xs:List V}{us:List Value}{i:Nat}{x:V},Vals xs us->xs[i]?=some x-> ∃u,us[i]?=some u/\RelV x u
 | _,_,_,_,.nil,e=>by simp at e
 | _,_,0,_,.cons r _,e=>by simp at e; subst e; exact⟨_,rfl,r⟩
 | _,_,i+1,x,.cons _ t,e=>by
  obtain⟨u,h1,h2⟩:=Vals.get (i:=i) (x:=x) t (by simpa using e)
  exact⟨u,by simpa using h1,h2⟩
theorem Vals.set {x:V}{u:Value}(r:RelV x u): ∀ {xs:List V}{us:List Value}(i:Nat),Vals xs us->Vals (xs.set i x) (us.set i u)
 | _,_,_,.nil=> .nil
 | _,_,0,.cons _ t=> .cons r t
 | _,_,i+1,.cons q t=> .cons q (Vals.set r i t)
theorem Vals.append: ∀ {xs ys:List V}{us ws:List Value},Vals xs us->Vals ys ws->Vals (xs++ys) (us++ws)
 | _,_,_,_,.nil,s=>s
 | _,_,_,_,.cons r t,s=> .cons r (Vals.append t s)
theorem Vals.take: ∀ {xs:List V}{us:List Value}(n:Nat),Vals xs us->Vals (xs.take n) (us.take n)
 | _,_,0,_=> .nil
 | _,_,_+1,.nil=> .nil
 | _,_,n+1,.cons r t=> .cons r (Vals.take n t)
theorem Vals.drop: ∀ {xs:List V}{us:List Value}(n:Nat),Vals xs us->Vals (xs.drop n) (us.drop n)
 | _,_,0,r=>r
 | _,_,_+1,.nil=> .nil
 | _,_,n+1,.cons _ t=>Vals.drop n t
def f9:Option V->Option Value->Prop
 | some v,some u=>RelV v u
 | none,none=>True
 | _,_=>False
def KV {κ:Type}:List (κ×V)->List (κ×Value)->Prop:=Paired fun (p:κ×V) (q:κ×Value)=>p.1=q.1/\RelV p.2 q.2
def kV:Key->V
 | .inl i=> .int i
 | .inr x=> .str x
inductive HO where
 | lst (xs:List V)
 | tup (xs:List V)
 | dK (kvs:List (Key×V)) | dT (kvs:List (List Key×V))
 | set (S:Int->Bool) (n:Nat)
 | ins (C dx:Addr) (fs:List (Str×V))
 | own (x:Addr)
 | xd (fs:List (Str×V))
 | met (f x:Addr)
 | OB (lo hi:Int)
 | frz (o:Obj) (u:HO)
 | tbl (ps:Array Value)
 | ext (φ:Heap->Prop)
abbrev Hp:=Addr->Option HO
def upd (H:Hp) (a:Addr) (o:HO):Hp:=fun b=>if b=a then some o else H b
theorem ag {H:Hp}{a:Addr}{o:HO}:upd H a o a=some o:=by unfold upd; rw[Ko rfl]
theorem ao {H:Hp}{a b:Addr}{o:HO}(h:b≠a):upd H a o b=H b:=by unfold upd; rw[Kk h]
theorem vw {H:Hp}{a:Addr}{o u:HO}:upd (upd H a o) a u=upd H a u:=by
 funext b; unfold upd; split <;> rfl
theorem fE {H:Hp}{a b:Addr}{o u:HO}(h:H a=some o) (h':H b=some u) (d:o≠u):a≠b:=by
 intro e; subst e; rw[h] at h'; exact d (KJ h')
theorem aB {H:Hp}{a b:Addr}{o:HO}(h:H a=some o) (h':H b=none):a≠b:=by
 intro e; subst e; rw[h] at h'; cases h'
section
variable (P:Program) (w:World)
def dt (H:Hp) (h:Heap) (a:Addr):HO->Prop
 | .lst xs=>xs.length<=sizeLine/\ ∃(its:List Value) (n:Nat),Vals xs its/\h.get? a=some { cls:= .type "list",data:= .seq its.toArray n }
 | .tup xs=>xs.length<=sizeLine/\ ∃its:List Value,Vals xs its/\IsTup h a its.toArray
 | .dK kvs=>kvs.length<=sizeLine/\(a == sysModules)=false/\ ∃vs,KV kvs vs/\h.DictOf (cF P w) a vs
 | .dT kvs=>kvs.length<=sizeLine/\(a == sysModules)=false/\ ∃xs:List (List Key×Addr×Value),
   Paired (fun (p:List Key×V) (q:List Key×Addr×Value)=>p.1=q.1/\H q.2.1=some (.tup (p.1.map kV))/\RelV p.2 q.2.2) kvs xs /\
   ∃o es ep,h.get? a=some o/\o.ExactDict/\o.data= .dict es ep/\es.toList=xs.map (entryOfKey (tupleKind (cF P w)))/\(xs.map (·.1)).Nodup
 | .set S n=>h.SetOf (intKind P w) a S n
 | .ins C dx fs=>H dx=some (.own a)/\fs.length<=1000/\dx≠a/\h.get? a=some (PySem.W.instObj C dx) /\
   ∃mA,h.Ns1 dx mA/\(∀f,f9 (fs.lookup f) (mA f))/\PySem.Within mA (fs.map (·.1))
 | .own _=> ∃o,h.get? a=some o
 | .xd fs=> ∃mA,h.Ns1 a mA/\ ∀f,f9 (fs.lookup f) (mA f)
 | .OB lo hi=> ∃t u v,h.get? a=some { cls:= .type "range",data:= .fields #[.int lo t,.int hi u,.int 1 v] }
 | .frz o u=>h.get? a=some o/\dt H h a u
 | .tbl ps=>h.get? a=some { cls:= .none,data:= .fields ps }
 | .met f x=>h.get? a=some (PySem.W.methodObj (.ref f) (.ref x))
 | .ext φ=>φ h/\(∃o,h.get? a=some o)/\ ∀h1 h2:Heap,φ h1->(∀o,h1.get? a=some o->h2.get? a=some o)->φ h2
def Oe (H:Hp) (h:Heap):Prop:= ∀a o,H a=some o->dt P w H h a o
end
section
variable {P:Program}{w:World}{H H':Hp}{h h':Heap}{a:Addr}{o:HO}
theorem dt.lt (x:dt P w H h a o):a < h.objs.size:=by
 cases o with
 | lst xs=>obtain⟨_,_,_,_,e⟩:=x; exact KA e
 | tup xs=>obtain⟨_,_,_,p⟩:=x; exact p.lt
 | dK kvs=>obtain⟨_,_,_,_,o,_,_,e,_⟩:=x; exact KA e
 | dT kvs=>obtain⟨_,_,_,_,o,_,_,e,_⟩:=x; exact KA e
 | set S n=>obtain⟨o,_,_,_,e,_⟩:=x; exact KA e
 | ins C dx fs=>obtain⟨_,_,_,e,_⟩:=x; exact KA e
 | own y=>obtain⟨_,e⟩:=x; exact KA e
 | xd fs=>obtain⟨_,⟨_,_,_,e,_⟩,_⟩:=x; exact KA e
 | OB lo hi=>obtain⟨_,_,_,e⟩:=x; exact KA e
 | frz ob u=>obtain⟨e,_⟩:=x; exact KA e
 | tbl ps=>exact KA (show h.get? a=some _ from x)
 | met f y=>exact KA (show h.get? a=some _ from x)
 | ext φ=>obtain⟨_,⟨_,e⟩,_⟩:=x; exact KA e
theorem Paired.DD {α β:Type}{F G:α->β->Prop}: ∀ {l₁:List α}{l₂:List β},Paired F l₁ l₂->(∀a b,F a b->G a b)->Paired G l₁ l₂
 | _,_,.nil,_=> .nil
 | _,_,.cons r t,f=> .cons (f _ _ r) (Paired.DD t f)
theorem dt.o6 (x:dt P w H h a o) (k: ∀b u,(b=a\/H b=some (.own a))->h.get? b=some u->h'.get? b=some u)
  (ho: ∀b,H b=some (.own a)->H' b=some (.own a)) (ht: ∀b xs,H b=some (.tup xs)->H' b=some (.tup xs)):dt P w H' h' a o:=by
 induction o with
 | lst xs=>obtain⟨z,its,n,r,e⟩:=x; exact⟨z,its,n,r,k _ _ (.inl rfl) e⟩
 | tup xs=>obtain⟨z,its,r,ob,e,c⟩:=x; exact⟨z,its,r,ob,k _ _ (.inl rfl) e,c⟩
 | dK kvs=>obtain⟨z,y,vs,r,ob,es,ep,e,c⟩:=x; exact⟨z,y,vs,r,ob,es,ep,k _ _ (.inl rfl) e,c⟩
 | dT kvs =>
  obtain⟨z,y,xs,r,ob,es,ep,e,c⟩:=x
  exact⟨z,y,xs,Paired.DD r fun p q z=>⟨z.1,ht _ _ z.2.1,z.2.2⟩,ob,es,ep,k _ _ (.inl rfl) e,c⟩
 | set S n=>obtain⟨ob,es,ep,t,e,c⟩:=x; exact⟨ob,es,ep,t,k _ _ (.inl rfl) e,c⟩
 | ins C dx fs =>
  obtain⟨d,z,ne,e,mA,⟨od,es,ep,e2,c⟩,r⟩:=x
  exact⟨ho _ d,z,ne,k _ _ (.inl rfl) e,mA,⟨od,es,ep,k _ _ (.inr d) e2,c⟩,r⟩
 | own y=>obtain⟨ob,e⟩:=x; exact⟨ob,k _ _ (.inl rfl) e⟩
 | xd fs=>obtain⟨mA,⟨od,es,ep,e,c⟩,r⟩:=x; exact⟨mA,⟨od,es,ep,k _ _ (.inl rfl) e,c⟩,r⟩
 | OB lo hi=>obtain⟨t,u,v,e⟩:=x; exact⟨t,u,v,k _ _ (.inl rfl) e⟩
 | frz ob u ih=>obtain⟨e,q⟩:=x; exact⟨k _ _ (.inl rfl) e,ih q⟩
 | tbl ps =>
  have e:h.get? a=some { cls:= .none,data:= .fields ps }:=x
  show h'.get? a=some { cls:= .none,data:= .fields ps }
  exact k a _ (.inl rfl) e
 | met f y =>
  have e:h.get? a=some (PySem.W.methodObj (.ref f) (.ref y)):=x
  show h'.get? a=some (PySem.W.methodObj (.ref f) (.ref y))
  exact k a _ (.inl rfl) e
 | ext φ=>obtain⟨p,⟨o,e⟩,st⟩:=x; exact⟨st _ _ p fun o q=>k _ _ (.inl rfl) q,⟨o,k _ _ (.inl rfl) e⟩,st⟩
theorem Oe.lt (x:Oe P w H h) (e:H a=some o):a < h.objs.size:=(x a o e).lt
theorem Oe.fresh (x:Oe P w H h) (e:h.objs.size<=a):H a=none:=by
 cases q:H a with
 | none=>rfl
 | some u=>exact absurd (Lk (x.lt q) e) (LQ _)
theorem Oe.kept (x:Oe P w H h) (k: ∀b u,h.get? b=some u->h'.get? b=some u):Oe P w H h':=fun a o e =>
 (x a o e).o6 (fun b u _ q=>k b u q) (fun _ q=>q) fun _ _ q=>q
theorem Oe.laid (x:Oe P w H h) (k: ∀b u,h.get? b=some u->h'.get? b=some u) (hp:h.objs.size<=a) (new:dt P w (upd H a o) h' a o):Oe P w (upd H a o) h':=fun b u e=>by
 have hn:=x.fresh hp
 by_cases hb:b=a
 .subst hb; rw[ag] at e; cases e; exact new
 .rw[ao hb] at e
  exact (x b u e).o6 (fun c v _ q=>k c v q) (fun c q=>by rw[ao (aB q hn)]; exact q) fun c xs q=>by rw[ao (aB q hn)]; exact q
end
def Rd (H:Hp) (a:Addr) (u:HO):Prop:=H a=some u\/ ∃o,H a=some (.frz o u)
theorem Rd.ok {P:Program}{w:World}{H:Hp}{h:Heap}{a:Addr}{u:HO}(r:Rd H a u) (x:Oe P w H h):dt P w H h a u:=by
 rcases r with r | ⟨o,r⟩
 .exact x a u r
 .obtain⟨_,q⟩:=x a _ r
  exact q
def Pf:Option HO->Prop
 | some (.lst _)=>True
 | some (.dK _)=>True
 | some (.dT _)=>True
 | some (.set _ _)=>True
 | some (.ins _ _ _)=>True
 | some (.ext _)=>True
 | _=>False
section
variable {P:Program}{w:World}{H:Hp}{h h':Heap}{x e:Addr}{o':HO}
theorem Oe.write (ok:Oe P w H h) (mu:Pf (H x)) (he:e=x\/H e=some (.own x)) (k: ∀b u,b≠e->h.get? b=some u->h'.get? b=some u) (heo: ∃u,h'.get? e=some u)
  (new:dt P w (upd H x o') h' x o'):Oe P w (upd H x o') h':=fun b u q=>by
 have nown: ∀c y,H c=some (.own y)->c≠x:=fun c y r z=>by subst z; rw[r] at mu; exact mu
 have ntup: ∀c xs,H c=some (.tup xs)->c≠x:=fun c xs r z=>by subst z; rw[r] at mu; exact mu
 by_cases hb:b=x
 .subst hb; rw[ag] at q; cases q; exact new
 .rw[ao hb] at q
  by_cases hbe:b=e
  .have q':H b=some (.own x):=by
    rcases he with z | z
    .exact absurd (hbe.trans z) hb
    .rw[hbe]; exact z
   rw[q] at q'; cases q'
   obtain⟨v,hv⟩:=heo
   exact⟨v,by rw[hbe]; exact hv⟩
  .refine (ok b u q).o6 (fun c v hc r=>k c v ?_ r) (fun c r=>by rw[ao (nown c b r)]; exact r) fun c xs r=>by rw[ao (ntup c xs r)]; exact r
   rcases hc with rfl | hc
   .exact hbe
   .rintro rfl
    rcases he with z | z
    .exact nown c b hc z
    .rw[hc] at z; cases z; exact hb rfl
end
structure Un (fs ex:List Addr) (H H':Hp) (h h':Heap):Prop where
 keep: ∀b o,h.get? b=some o->H b=none->b∉fs->b∉ex->h'.get? b=some o
 slot: ∀b o,h.get? b=some o->H b=none->b∈fs->b∉ex-> ∃sl,h'.get? b=some { o with slots:=sl }
 free: ∀b o,h.get? b=some o->H b=none->b∉ex->H' b=none
 there: ∀b o,h.get? b=some o->b∉ex-> ∃o',h'.get? b=some o'
 tups: ∀b xs,H b=some (.tup xs)->H' b=some (.tup xs)
 frzs: ∀b o u,H b=some (.frz o u)->H' b=some (.frz o u)
 tbls: ∀b ps,H b=some (.tbl ps)-> ∃more,H' b=some (.tbl (ps++more))
section
variable {fs fs' ex ex':List Addr}{H H1 H2:Hp}{h h1 h2 h':Heap}{a x e:Addr}{o:HO}
theorem Un.any (u:Un fs ex H H1 h h1){b:Addr}{ob:Obj}(q:h.get? b=some ob) (n:H b=none) (hx:b∉ex): ∃sl,h1.get? b=some { ob with slots:=sl }:=by
 by_cases hb:b∈fs
 .exact u.slot b ob q n hb hx
 .exact⟨ob.slots,u.keep b ob q n hb hx⟩
theorem Un.kept (k: ∀b u,h.get? b=some u->h'.get? b=some u):Un fs ex H H h h' :=
 ⟨fun b ob q _ _ _=>k b ob q,fun b ob q _ _ _=>⟨ob.slots,k b ob q⟩,fun _ _ _ n _=>n,fun b ob q _=>⟨ob,k b ob q⟩,fun _ _ q=>q,fun _ _ _ q=>q,fun _ ps q=>⟨#[],by rw[q]; simp⟩⟩
theorem Un.refl:Un fs ex H H h h:=Un.kept fun _ _ q=>q
theorem Un.laid (k: ∀b u,h.get? b=some u->h'.get? b=some u) (hp:h.objs.size<=a) (hn:H a=none):Un fs ex H (upd H a o) h h' where
 keep:=fun b u q _ _ _=>k b u q
 slot:=fun b u q _ _ _=>⟨u.slots,k b u q⟩
 free:=fun b u q n _=>by rw[ao (K3 (Lk (KA q) hp))]; exact n
 there:=fun b u q _=>⟨u,k b u q⟩
 tups:=fun b xs q=>by rw[ao (aB q hn)]; exact q
 frzs:=fun b u xs q=>by rw[ao (aB q hn)]; exact q
 tbls:=fun b ps q=>⟨#[],by rw[ao (aB q hn),q]; simp⟩
theorem Un.write (mu:Pf (H x)) (he:e=x\/H e=some (.own x)) (k: ∀b u,b≠e->h.get? b=some u->h'.get? b=some u) (heo: ∃u,h'.get? e=some u):Un fs ex H (upd H x o) h h':=by
 have hx: ∀b,H b=none->b≠x:=fun b n z=>by subst z; rw[n] at mu; exact mu
 have hb: ∀b,H b=none->b≠e:=fun b n z=>by
  subst z
  rcases he with r | r
  .exact hx b n r
  .rw[n] at r; cases r
 have hm: ∀b u,H b=some u-> ¬Pf (some u)->b≠x:=fun b u q nm z=>by subst z; rw[q] at mu; exact nm mu
 refine⟨fun b u q n _ _=>k b u (hb b n) q,fun b u q n _ _=>⟨u.slots,k b u (hb b n) q⟩,fun b u q n _=>by rw[ao (hx b n)]; exact n,fun b u q _=>?_,
  fun b xs q=>by rw[ao (hm b _ q fun z=>z)]; exact q,fun b u xs q=>by rw[ao (hm b _ q fun z=>z)]; exact q,fun b ps q=>⟨#[],by rw[ao (hm b _ q fun z=>z),q]; simp⟩⟩
 by_cases hbe:b=e
 .subst hbe; exact heo
 .exact⟨u,k b u hbe q⟩
end
def Pq (h:Heap) (H:Hp):List Addr:=(List.range h.objs.size).filter fun a=>(H a).isSome
def qx (h:Heap) (H:Hp):Heap:=PySem.W.hideAll h (Pq h H)
theorem BC (h:Heap) (H:Hp):(qx h H).objs.size=h.objs.size:=PySem.W.hideAll_size _ _
theorem C4 {h:Heap}{H:Hp}{b:Addr}{o:Obj}(e:h.get? b=some o) (n:H b=none):(qx h H).get? b=some o :=
 PySem.W.hideAll_get _ e fun hm=>by
  have q:(H b).isSome=true:=(Li.mp hm).2
  rw[n] at q; simp at q
theorem Fs {h:Heap}{H:Hp}{b:Addr}{o:Obj}(e:(qx h H).get? b=some o):h.get? b=some o/\H b=none:=by
 have e':h.get? b=some o:=PySem.W.of_hideAll (Pq h H) e
 refine⟨e',?_⟩
 cases q:H b with
 | none=>rfl
 | some x =>
  have hm:b∈Pq h H:=Li.mpr ⟨KU.mpr (KA e'),by simp[q]⟩
  have z:(qx h H).get? b=none:=PySem.W.hideAll_none (Pq h H) hm
  rw[z] at e; cases e
def Fe (g h:Heap) (L:Addr):List (Addr×Obj):=(List.range h.objs.size).filterMap fun a=>if a=L\/(g.get? a).isSome=true then none else (h.get? a).map fun o=>(a,o)
def rest (g h:Heap) (L d:Addr):List (Addr×Obj):=(Fe g h L).filter fun p=>decide (p.1≠d)
structure Mod (K:NY) (mg:Str->Option Value) (base:Heap):Prop where
 kin:K.In base
 glob:base.Ns mainGlobals mg
 blt: ∃mb,base.Ns builtinsNs mb/\ ∀x:Str,x≠ "__name__" -> mb x=bootBuiltins x
 nolimit:base.NoLimit
structure Cx where
 prog:Program
 w:World
 K:NY
 mg:Str->Option Value
 base:Heap
 A:Around
 N:List Str
 s₀:Shared
 H₀:Hp
 env:Env
 outer:List Env
 stack:List Env
 ex:List Addr
 fn:Str->Bool
 calm:Bool
 pn:List (Addr×Obj)
 xe:Value->Shared->Prop
def Oz (l:List Env):List Addr:=l.filterMap (·.frame)
abbrev Cx.fs (X:Cx):List Addr:=Oz X.outer
def Pm (sc:Scope) (x:Str):Prop:=sc.names.lookup x=some .local\/sc.names.lookup x=some .cell\/sc.names.lookup x=some .free
def Loc (sc:Scope) (x:Str):Prop:=sc.names.lookup x=some .local\/sc.names.lookup x=some .cell
def Look (env:Env) (h:Heap) (m:Str->Option Value) (x:Str) (u:Value):Prop :=
 (env.kindOf x=some .local/\m x=some u)\/((env.kindOf x=some .cell\/env.kindOf x=some .free)/\ ∃c,env.cells.lookup x=some c/\h.IsCell c (some u))
structure Cx.Ok (X:Cx):Prop where
 mod:Mod X.K X.mg X.base
 kind:X.env.scope.kind= .function
 glob:X.env.globals=mainGlobals
 blt:X.env.builtins=builtinsNs
 above:X.s₀.heap.objs.size<=X.env.locals
 inj: ∀x y c,X.env.cells.lookup x=some c->X.env.cells.lookup y=some c->x=y
 has: ∀x,(X.env.kindOf x=some .cell\/X.env.kindOf x=some .free)-> ∃c,X.env.cells.lookup x=some c
 cab: ∀x c,X.fn x=true->X.env.cells.lookup x=some c->X.s₀.heap.objs.size<=c
 hd:X.calm=true->X.A.handled=none
 frames:X.A.frames=some X.stack
 stk:X.stack=X.outer\/(X.stack=X.env::X.outer/\X.env.frame=some X.env.locals)
 exf: ∀b∈X.ex,b≠X.env.locals/\ ∀x c,X.env.cells.lookup x=some c->c≠b
 bs: ∀b o,X.base.get? b=some o->X.s₀.heap.get? b=some o/\X.H₀ b=none
 bsz:X.base.objs.size<=X.s₀.heap.objs.size
 noex: ∀b o,X.base.get? b=some o->b∉X.ex
 exfs: ∀b∈X.ex,b∉X.fs
 fH:X.s₀.heap.FunFrames X.base X.outer
 frf: ∀b∈X.fs,X.H₀ b=none
structure Inv (X:Cx) (NV:List (Addr×Obj)) (σ:List (Option V)) (H:Hp) (s:Shared):Prop where
 ok:X.Ok
 os:s.os=X.s₀.os
 bare:AllBare s.gens
 base:Un X.fs X.ex X.H₀ H X.s₀.heap s.heap
 loc: ∃m,s.heap.Ns X.env.locals m/\ ∀(i:Nat) (x:Str) (v:V),X.N[i]?=some x->σ[i]?=some (some v)->Pm X.env.scope x-> ∃u,RelV v u/\Look X.env s.heap m x u
 cell: ∀x c,X.env.cells.lookup x=some c-> ∃v,s.heap.IsCell c v
 free:H X.env.locals=none
 freeC: ∀x c,X.env.cells.lookup x=some c->H c=none
 pin: ∀p∈X.pn++NV,s.heap.get? p.1=some p.2/\H p.1=none/\p.1≠X.env.locals/\p.1∉X.fs/\ ∀v,p.2.data≠ .cell v
 hok:Oe X.prog X.w H s.heap
 len:σ.length=X.N.length
section
variable {X:Cx}{NV:List (Addr×Obj)}{σ:List (Option V)}{H H':Hp}{s:Shared}{h':Heap}
theorem Cx.Ok.Jg (ok:X.Ok){b:Addr}{o:Obj}(e:X.base.get? b=some o):b∉X.fs:=fun hb=>by
 have:=(ok.fH.mem hb).1
 rw[e] at this; cases this
theorem Inv.bs (I:Inv X NV σ H s): ∀b o,X.base.get? b=some o->s.heap.get? b=some o/\H b=none:=fun b o e =>
 ⟨I.base.keep b o (I.ok.bs b o e).1 (I.ok.bs b o e).2 (I.ok.Jg e) (I.ok.noex b o e),I.base.free b o (I.ok.bs b o e).1 (I.ok.bs b o e).2 (I.ok.noex b o e)⟩
theorem Inv.bk (I:Inv X NV σ H s): ∀b o,X.base.get? b=some o->s.heap.get? b=some o:=fun b o e=>(I.bs b o e).1
theorem Inv.mod (I:Inv X NV σ H s):Mod X.K X.mg X.base:=I.ok.mod
theorem Inv.Ow (I:Inv X NV σ H s):X.K.In s.heap:=I.ok.mod.kin.keeps I.bk
theorem Inv.fr (I:Inv X NV σ H s): ∃m,Fr X.base X.env.locals s.heap m :=
 let ⟨m,hn,_⟩:=I.loc
 ⟨m,hn,I.bk,KP I.ok.bsz I.ok.above⟩
theorem Inv.lt (I:Inv X NV σ H s):X.env.locals < s.heap.objs.size:=let ⟨_,hn,_⟩:=I.loc; hn.lt
theorem Inv.sz (I:Inv X NV σ H s):X.s₀.heap.objs.size<=s.heap.objs.size:=KP I.ok.above (KY I.lt)
theorem Inv.Je (I:Inv X NV σ H s){a:Addr}(h:s.heap.objs.size<=a):a∉X.fs:=fun hb=>by
 obtain⟨_,o,ho,_⟩:=I.ok.fH.mem hb
 exact absurd (Lk (KA ho) (KP I.sz h)) (LQ _)
theorem Inv.O8 (I:Inv X NV σ H s): ∀x c,X.env.cells.lookup x=some c->c≠X.env.locals:=fun x c e z=>by
 obtain⟨v,o,ho,hd⟩:=I.cell x c e
 obtain⟨m,⟨o',es,ep,ho',hd',_⟩,_⟩:=I.loc
 rw[z,ho'] at ho; cases ho; rw[hd'] at hd; cases hd
theorem Inv.fH (I:Inv X NV σ H s):s.heap.FunFrames X.base X.outer:=by
 have all: ∀(l:List Env),(∀b∈Oz l,b∈X.fs)->X.s₀.heap.FunFrames X.base l->s.heap.FunFrames X.base l:=by
  intro l
  induction l with
  | nil=>intro _ _; trivial
  | cons env r ih =>
   intro hs hl
   obtain⟨hk,⟨L,o,hf,hn,ho,hd⟩,hr⟩:=hl
   have hL:L∈X.fs:=hs L (by unfold Oz; rw[Ng,hf]; exact Ky)
   obtain⟨sl,e⟩:=I.base.slot L o ho (I.ok.frf L hL) hL fun z=>I.ok.exfs L z hL
   exact⟨hk,⟨L,_,hf,hn,e,hd⟩,ih (fun b hb=>hs b (by unfold Oz; rw[Ng,hf]; exact Kx _ hb)) hr⟩
 exact all X.outer (fun _ hb=>hb) I.ok.fH
theorem Inv.stack (I:Inv X NV σ H s):s.heap.FunFrames X.base X.stack:=by
 rcases I.ok.stk with e | ⟨e,hf⟩
 .rw[e]; exact I.fH
 .rw[e]
  obtain⟨m,hn,_⟩:=I.loc
  refine .cons (by rw[I.ok.kind]; decide) hf hn ?_ I.fH
  exact M6 (KP I.ok.bsz I.ok.above)
theorem Inv.uN (I:Inv X NV σ H s): ∀b∈Oz X.stack,b∈X.env.locals::X.fs:=fun b hb=>by
 rcases I.ok.stk with e | ⟨e,hf⟩
 .rw[e] at hb; exact Kx _ hb
 .rw[e] at hb
  unfold Oz at hb
  rw[Ng,hf] at hb
  exact hb
theorem Inv.vL (I:Inv X NV σ H s): ∀b∈Oz X.stack,H b=none:=fun b hb=>by
 rcases Ks.mp (I.uN b hb) with e | hb
 .rw[e]; exact I.free
 .obtain⟨_,o,ho,_⟩:=I.ok.fH.mem hb
  exact I.base.free b o ho (I.ok.frf b hb) fun z=>I.ok.exfs b z hb
theorem Inv.step {g':Array GenState}{t':Nat}{d':Drawn}{ch:List Addr}(I:Inv X NV σ H s)
  (hch: ∀b∈ch,(b∈X.ex\/X.s₀.heap.objs.size<=b)/\b≠X.env.locals/\(∀x c,X.env.cells.lookup x=some c->c≠b)/\ ∀p∈X.pn++NV,p.1≠b)
  (keep: ∀b o,b≠X.env.locals->b∉X.fs->b∉ch->s.heap.get? b=some o->H b=none->h'.get? b=some o)
  (slot: ∀b o,b≠X.env.locals->b∈X.fs->b∉ch->s.heap.get? b=some o->H b=none-> ∃sl,h'.get? b=some { o with slots:=sl }) (free: ∀b o,b∉ch->s.heap.get? b=some o->H b=none->H' b=none)
  (there: ∀b o,b∉ch->s.heap.get? b=some o-> ∃o',h'.get? b=some o')
  (tups: ∀b xs,H b=some (.tup xs)->H' b=some (.tup xs)) (frzs: ∀b o u,H b=some (.frz o u)->H' b=some (.frz o u)) (tbls: ∀b ps,H b=some (.tbl ps)-> ∃more,H' b=some (.tbl (ps++more)))
  (ns: ∀m,s.heap.Ns X.env.locals m->h'.Ns X.env.locals m) (hok:Oe X.prog X.w H' h') (hg:AllBare g') :
  Inv X NV σ H' { s with heap:=h',gens:=g',drawn:=d',toks:=t' }:=by
 have neL: ∀b o,X.s₀.heap.get? b=some o->b≠X.env.locals:=fun b o e=>K3 (Lk (KA e) I.ok.above)
 have neC: ∀b o,X.s₀.heap.get? b=some o->b∉X.ex->b∉ch:=fun b o e hx hb=>by
  rcases (hch b hb).1 with z | z
  .exact hx z
  .exact absurd (Lk (KA e) z) (LQ _)
 have cellK: ∀x c,X.env.cells.lookup x=some c-> ∀v,s.heap.IsCell c v->h'.IsCell c v:=fun x c e v ⟨o,ho,hd⟩=>by
  have nch:c∉ch:=fun z=>(hch c z).2.2.1 x c e rfl
  by_cases hc:c∈X.fs
  .obtain⟨sl,q⟩:=slot c o (I.O8 x c e) hc nch ho (I.freeC x c e)
   exact⟨_,q,hd⟩
  .exact⟨o,keep c o (I.O8 x c e) hc nch ho (I.freeC x c e),hd⟩
 refine⟨I.ok,I.os,hg,⟨fun b o e n hb hx=>?_,fun b o e n hb hx=>?_,fun b o e n hx=>?_,fun b o e hx=>?_,fun b xs e=>tups b xs (I.base.tups b xs e),fun b o xs e=>frzs b o xs (I.base.frzs b o xs e),fun b ps e=>?_⟩,?_,fun x c e=>?_,?_,fun x c e=>?_,fun p hp=>?_,hok,I.len⟩
 .exact keep b o (neL b o e) hb (neC b o e hx) (I.base.keep b o e n hb hx) (I.base.free b o e n hx)
 .obtain⟨sl,e1⟩:=I.base.slot b o e n hb hx
  obtain⟨sl',e2⟩:=slot b _ (neL b o e) hb (neC b o e hx) e1 (I.base.free b o e n hx)
  exact⟨sl',e2⟩
 .obtain⟨o',e1⟩:=I.base.there b o e hx
  exact free b o' (neC b o e hx) e1 (I.base.free b o e n hx)
 .obtain⟨o',e1⟩:=I.base.there b o e hx
  exact there b o' (neC b o e hx) e1
 .obtain⟨m1,e1⟩:=I.base.tbls b ps e
  obtain⟨m2,e2⟩:=tbls b _ e1
  exact⟨m1++m2,by rw[e2,Array.append_assoc]⟩
 .obtain⟨m,hn,hl⟩:=I.loc
  refine⟨m,ns m hn,fun i x v e1 e2 e3=>?_⟩
  obtain⟨u,r,l⟩:=hl i x v e1 e2 e3
  refine⟨u,r,?_⟩
  rcases l with l | ⟨k,c,e,z⟩
  .exact .inl l
  .exact .inr ⟨k,c,e,cellK x c e _ z⟩
 .obtain⟨v,z⟩:=I.cell x c e
  exact⟨v,cellK x c e v z⟩
 .obtain⟨m,⟨o,_,_,ho,_⟩,_⟩:=I.loc
  exact free _ o (fun z=>(hch _ z).2.1 rfl) ho I.free
 .obtain⟨v,o,ho,hd⟩:=I.cell x c e
  exact free c o (fun z=>(hch c z).2.2.1 x c e rfl) ho (I.freeC x c e)
 .obtain⟨e,n,ne,nf,d⟩:=I.pin p hp
  have nch:p.1∉ch:=fun z=>(hch p.1 z).2.2.2 p hp rfl
  exact⟨keep p.1 p.2 ne nf nch e n,free p.1 p.2 nch e n,ne,nf,d⟩
theorem Inv.un {t':Nat}(I:Inv X NV σ H s) (u:Un X.fs [] H H' s.heap h') (hok:Oe X.prog X.w H' h'):Inv X NV σ H' { s with heap:=h',toks:=t' }:=by
 obtain⟨m,⟨o,es,ep,ho,r⟩,_⟩:=id I.loc
 obtain⟨sl,hL⟩:=u.any ho I.free (by simp)
 exact I.step (g':=s.gens) (d':=s.drawn) (ch:=[]) (fun _ z=>nomatch z) (fun b o _ hb _ e n=>u.keep b o e n hb (by simp)) (fun b o _ hb _ e n=>u.slot b o e n hb (by simp)) (fun b o _ e n=>u.free b o e n (by simp)) (fun b o _ e=>u.there b o e (by simp)) u.tups u.frzs u.tbls (fun m' hm=>by
  obtain⟨o',es',ep',ho',r'⟩:=hm
  rw[ho] at ho'; cases ho'
  exact⟨_,es',ep',hL,r'⟩) hok I.bare
theorem Inv.call {g':Array GenState}{t':Nat}{d':Drawn}{ch:List Addr}(I:Inv X NV σ H s) (u:Un (Oz X.stack) ch H H' s.heap h') (hok:Oe X.prog X.w H' h') (hg:AllBare g')
  (hch: ∀b∈ch,(b∈X.ex\/X.s₀.heap.objs.size<=b)/\b≠X.env.locals/\(∀x c,X.env.cells.lookup x=some c->c≠b)/\ ∀p∈X.pn++NV,p.1≠b) :
  Inv X NV σ H' { s with heap:=h',gens:=g',drawn:=d',toks:=t' }:=by
 obtain⟨m,⟨o,es,ep,ho,r⟩,_⟩:=id I.loc
 obtain⟨sl,hL⟩:=u.any ho I.free fun z=>(hch _ z).2.1 rfl
 exact I.step (ch:=ch) hch (fun b o hL hb hc e n=>u.keep b o e n (fun z=>(Ks.mp (I.uN b z)).elim hL hb) hc) (fun b o _ _ hc e n=>u.any e n hc) (fun b o hc e n=>u.free b o e n hc) (fun b o hc e=>u.there b o e hc) u.tups u.frzs u.tbls (fun m' hm=>by
  obtain⟨o',es',ep',ho',r'⟩:=hm
  rw[ho] at ho'; cases ho'
  exact⟨_,es',ep',hL,r'⟩) hok hg
theorem Inv.turned {t':Nat}{it:Addr}(I:Inv X NV σ H s) (k: ∀b o,b≠it->s.heap.get? b=some o->h'.get? b=some o) (hn:H it=none) (hL:it≠X.env.locals)
  (h1:it∈X.ex\/X.s₀.heap.objs.size<=it) (h2: ∀x c,X.env.cells.lookup x=some c->c≠it) (h3: ∀p∈X.pn++NV,p.1≠it):Inv X NV σ H { s with heap:=h',toks:=t' }:=by
 have nit: ∀b u,H b=some u->b≠it:=fun b u e z=>by rw[z,hn] at e; cases e
 refine I.step (g':=s.gens) (d':=s.drawn) (ch:=[it]) (fun b hb=>?_) (fun b o _ _ hc e _=>k b o (fun z=>hc (by simp[z])) e) (fun b o _ _ hc e _=>⟨o.slots,k b o (fun z=>hc (by simp[z])) e⟩) (fun _ _ _ _ n=>n)
  (fun b o hc e=>⟨o,k b o (fun z=>hc (by simp[z])) e⟩) (fun _ _ e=>e) (fun _ _ _ e=>e) (fun b ps e=>⟨#[],by rw[e]; simp⟩) (fun m hm=>?_) (fun b u e=>?_) I.bare
 .have e:b=it:=by simpa using hb
  subst e
  exact⟨h1,hL,h2,h3⟩
 .obtain⟨o,es,ep,ho,r⟩:=hm
  exact⟨o,es,ep,k _ o (KW hL) ho,r⟩
 .refine (I.hok b u e).o6 (fun c v hc q=>k c v ?_ q) (fun _ q=>q) fun _ _ q=>q
  rcases hc with z | z
  .rw[z]; exact nit b u e
  .exact nit c _ z
theorem Inv.tok (I:Inv X NV σ H s) (t:Nat):Inv X NV σ H { s with toks:=t }:=I.un (h':=s.heap) (t':=t) Un.refl I.hok
theorem Inv.kept {t':Nat}(I:Inv X NV σ H s) (k: ∀b u,s.heap.get? b=some u->h'.get? b=some u):Inv X NV σ H { s with heap:=h',toks:=t' }:=I.un (Un.kept k) (I.hok.kept k)
theorem Inv.laid {a:Addr}{o:HO}{t':Nat}(I:Inv X NV σ H s) (k: ∀b u,s.heap.get? b=some u->h'.get? b=some u) (hp:s.heap.objs.size<=a) (new:dt X.prog X.w (upd H a o) h' a o) :
  Inv X NV σ (upd H a o) { s with heap:=h',toks:=t' }:=I.un (Un.laid k hp (I.hok.fresh hp)) (I.hok.laid k hp new)
theorem Inv.write {x e:Addr}{o:HO}{t':Nat}(I:Inv X NV σ H s) (mu:Pf (H x)) (he:e=x\/H e=some (.own x)) (k: ∀b u,b≠e->s.heap.get? b=some u->h'.get? b=some u) (heo: ∃u,h'.get? e=some u)
  (new:dt X.prog X.w (upd H x o) h' x o):Inv X NV σ (upd H x o) { s with heap:=h',toks:=t' }:=I.un (Un.write mu he k heo) (I.hok.write mu he k heo new)
theorem Inv.weak {σ':List (Option V)}(I:Inv X NV σ H s) (hl:σ'.length=σ.length) (w: ∀(i:Nat) v,σ'[i]?=some (some v)->σ[i]?=some (some v)):Inv X NV σ' H s :=
 ⟨I.ok,I.os,I.bare,I.base,let ⟨m,hn,hl'⟩:=I.loc; ⟨m,hn,fun i x v e1 e2 e3=>hl' i x v e1 (w i v e2) e3⟩,I.cell,I.free,I.freeC,I.pin,I.hok,hl.trans I.len⟩
theorem Inv.kI {pins':List (Addr×Obj)}(I:Inv X NV σ H s) (h: ∀p∈pins',s.heap.get? p.1=some p.2/\H p.1=none/\p.1≠X.env.locals/\p.1∉X.fs/\ ∀v,p.2.data≠ .cell v):Inv X pins' σ H s :=
 ⟨I.ok,I.os,I.bare,I.base,I.loc,I.cell,I.free,I.freeC,fun p hp=>(Kz.mp hp).elim (fun z=>I.pin p (Lj _ z)) (h p),I.hok,I.len⟩
theorem yz {N:List Str}(hN:N.Nodup){i j:Nat}{x:Str}(a:N[i]?=some x) (b:N[j]?=some x):i=j:=by
 obtain⟨h1,e1⟩:=Kv.mp a
 obtain⟨h2,e2⟩:=Kv.mp b
 exact (List.getElem_inj hN).mp (e1.trans e2.symm)
theorem vZ {M:Model}{A:Around}{E:Value->Shared->Prop}{i:Nat}{x:Str}{v:V}{u:Value}{Q:Unit->Shared->Prop}(I:Inv X NV σ H s) (hN:X.N.Nodup) (hi:X.N[i]?=some x) (hx:Loc X.env.scope x) (r:RelV v u)
  (h: ∀s',Inv X NV (σ.set i (some v)) H s'->(∃a,Heap.SameBut a s.heap s'.heap/\(a=X.env.locals\/X.env.cells.lookup x=some a))->Q () s') (hf:X.fn x=true\/X.env.scope.names.lookup x=some .local:=by first | exact .inl rfl | exact .inr rfl | assumption):wpAny M A (storeName X.env x u) Q E s:=by
 obtain⟨m,hn,hl⟩:=id I.loc
 have hcls:(X.env.scope.kind == .class || (X.env.scope.kind == .module && X.env.locals !=X.env.globals))=false:=by rw[I.ok.kind]; rfl
 have hiσ:i < σ.length:=by rw[I.len]; exact (Kv.mp hi).1
 have O8:=I.O8
 have tracked: ∀ {a:Addr}{h':Heap},(∃o,s.heap.get? a=some o/\H a=none)->Heap.SameBut a s.heap h'->Oe X.prog X.w H h':=fun {a h'} ha hs b ob e=>by
  obtain⟨_,_,hfree⟩:=ha
  refine (I.hok b ob e).o6 (fun c w' hc q=>(hs.2 c ?_).trans q) (fun _ q=>q) fun _ _ q=>q
  rintro rfl
  rcases hc with rfl | hc
  .rw[hfree] at e; cases e
  .rw[hfree] at hc; cases hc
 rcases hx with hk | hk
 .refine wpAny_storeName_local hk hn (fun h' hn' hs=>?_) hcls
  obtain⟨oL,_,_,hoL,_⟩:=id hn
  refine h _ ⟨I.ok,I.os,I.bare,⟨fun b o e n hb hx=>?_,fun b o e n hb hx=>?_,I.base.free,fun b o e hx=>?_,I.base.tups,I.base.frzs,I.base.tbls⟩,⟨_,hn',fun j y v' e1 e2 e3=>?_⟩,fun y c e=>?_,I.free,I.freeC,fun p hp=>?_,tracked ⟨oL,hoL,I.free⟩ hs,by simpa using I.len⟩ ⟨_,hs,.inl rfl⟩
  .exact (hs.2 b (K3 (Lk (KA e) I.ok.above))).trans (I.base.keep b o e n hb hx)
  .obtain⟨sl,e1⟩:=I.base.slot b o e n hb hx
   exact⟨sl,(hs.2 b (K3 (Lk (KA e) I.ok.above))).trans e1⟩
  .obtain⟨o',e1⟩:=I.base.there b o e hx
   exact⟨o',(hs.2 b (K3 (Lk (KA e) I.ok.above))).trans e1⟩
  .by_cases hj:j=i
   .subst hj
    rw[hi] at e1; cases e1
    rw[List.getElem?_set_self hiσ] at e2
    cases e2
    exact⟨u,r,.inl ⟨hk,by simp⟩⟩
   .rw[M7 (KW hj)] at e2
    obtain⟨u',r',q⟩:=hl j y v' e1 e2 e3
    refine⟨u',r',?_⟩
    rcases q with⟨k,e⟩ | ⟨k,c,e,z⟩
    .refine .inl ⟨k,?_⟩
     have:y≠x:=fun e=>hj (yz hN e1 (e▸hi))
     simp[this,e]
    .exact .inr ⟨k,c,e,z.sameBut hs (O8 y c e)⟩
  .obtain⟨w',z⟩:=I.cell y c e
   exact⟨w',z.sameBut hs (O8 y c e)⟩
  .obtain⟨e,n,ne,nf,d⟩:=I.pin p hp
   exact⟨(hs.2 p.1 ne).trans e,n,ne,nf,d⟩
 .have hfn:X.fn x=true:=by
   rcases hf with z | z
   .exact z
   .rw[z] at hk; cases hk
  obtain⟨c,hc⟩:=I.ok.has x (.inl hk)
  obtain⟨w',z⟩:=I.cell x c hc
  refine wpAny_storeName_cell I.ok.kind hk hc z (fun h' hc' hs=>?_)
  obtain⟨oc,hoc,hocd⟩:=id z
  refine h { s with heap:=h' } ⟨I.ok,I.os,I.bare,⟨fun b o e n hb hx=>?_,fun b o e n hb hx=>?_,I.base.free,fun b o e hx=>?_,I.base.tups,I.base.frzs,I.base.tbls⟩,⟨m,hn.sameBut hs (KW (O8 x c hc)),fun j y v' e1 e2 e3=>?_⟩,fun y c' e=>?_,I.free,I.freeC,fun p hp=>?_,tracked ⟨oc,hoc,I.freeC x c hc⟩ hs,by simpa using I.len⟩ ⟨c,hs,.inr hc⟩
  .exact (hs.2 b (K3 (Lk (KA e) (I.ok.cab x c hfn hc)))).trans (I.base.keep b o e n hb hx)
  .obtain⟨sl,e1⟩:=I.base.slot b o e n hb hx
   exact⟨sl,(hs.2 b (K3 (Lk (KA e) (I.ok.cab x c hfn hc)))).trans e1⟩
  .obtain⟨o',e1⟩:=I.base.there b o e hx
   exact⟨o',(hs.2 b (K3 (Lk (KA e) (I.ok.cab x c hfn hc)))).trans e1⟩
  .by_cases hj:j=i
   .subst hj
    rw[hi] at e1; cases e1
    rw[List.getElem?_set_self hiσ] at e2
    cases e2
    exact⟨u,r,.inr ⟨.inl hk,c,hc,hc'⟩⟩
   .rw[M7 (KW hj)] at e2
    obtain⟨u',r',q⟩:=hl j y v' e1 e2 e3
    refine⟨u',r',?_⟩
    rcases q with q | ⟨k,c',e,z'⟩
    .exact .inl q
    .refine .inr ⟨k,c',e,z'.sameBut hs ?_⟩
     rintro rfl
     exact hj (yz hN e1 (I.ok.inj _ _ _ e hc▸hi))
  .by_cases hcc:c'=c
   .subst hcc; exact⟨_,hc'⟩
   .obtain⟨w2,z2⟩:=I.cell y c' e
    exact⟨w2,z2.sameBut hs hcc⟩
  .obtain⟨e,n,ne,nf,d⟩:=I.pin p hp
   refine⟨(hs.2 p.1 ?_).trans e,n,ne,nf,d⟩
   intro q
   rw[q,hoc] at e
   have q':oc=p.2:=KJ e
   exact d w' (by rw[<-q']; exact hocd)
theorem ju {M:Model}{A:Around}{E:Value->Shared->Prop}{i:Nat}{x:Str}{v:V}{u:Value}{Q:Unit->Shared->Prop}(I:Inv X NV σ H s) (hN:X.N.Nodup) (hi:X.N[i]?=some x) (hx:Loc X.env.scope x) (r:RelV v u)
  (h: ∀s',Inv X NV (σ.set i (some v)) H s'->Q () s') (hf:X.fn x=true\/X.env.scope.names.lookup x=some .local:=by first | exact .inl rfl | exact .inr rfl | assumption):wpAny M A (storeName X.env x u) Q E s :=
 vZ I hN hi hx r (fun s' I' _=>h s' I') hf
theorem Inv.z5 {s':Shared}{ch:List Addr}(I:Inv X NV σ H s) (ho:s'.os=s.os) (u:Un (Oz X.stack) ch H H' s.heap s'.heap) (hok:Oe X.prog X.w H' s'.heap) (hg:AllBare s'.gens)
  (hch: ∀b∈ch,(b∈X.ex\/X.s₀.heap.objs.size<=b)/\b≠X.env.locals/\(∀x c,X.env.cells.lookup x=some c->c≠b)/\ ∀p∈X.pn++NV,p.1≠b):Inv X NV σ H' s':=by
 obtain⟨h',g',d',t',o'⟩:=s'
 have e:o'=s.os:=ho
 subst e
 exact I.call (g':=g') (t':=t') (d':=d') u hok hg hch
end
abbrev XK:=Value->Option Addr->Hp->Prop
abbrev St:=List (Option V)
abbrev VK:=V->Hp->Prop
abbrev TE:=St->Hp->VK->Prop
abbrev TT:=St->Hp->(Bool->Hp->Prop)->Prop
abbrev TA:=St->Hp->(List V->Hp->Prop)->Prop
structure Ends where
 nx:St->Hp->Prop
 rt:VK
 bk:St->Hp->Prop:=fun _ _=>False
 ct:St->Hp->Prop:=fun _ _=>False
abbrev TS:=Ends->St->Hp->Prop
def EP (X:Cx) (NV:List (Addr×Obj)) (σ:St) (Q:VK) (u:Value) (s':Shared):Prop:= ∃v H',Inv X NV σ H' s'/\RelV v u/\Q v H'
def TP (X:Cx) (NV:List (Addr×Obj)) (σ:St) (Q:Bool->Hp->Prop) (b:Bool) (s':Shared):Prop:= ∃H',Inv X NV σ H' s'/\Q b H'
def AP (X:Cx) (NV:List (Addr×Obj)) (σ:St) (Q:List V->Hp->Prop) (us:List Value) (s':Shared):Prop:= ∃vs H',Inv X NV σ H' s'/\Vals vs us/\Q vs H'
def SP (X:Cx) (NV:List (Addr×Obj)) (D:Ends) (f:Flow) (s':Shared):Prop :=
 match f with
 | .next=> ∃σ' H',Inv X NV σ' H' s'/\D.nx σ' H'
 | .brk=> ∃σ' H',Inv X NV σ' H' s'/\D.bk σ' H'
 | .cont=> ∃σ' H',Inv X NV σ' H' s'/\D.ct σ' H'
 | .ret u=> ∃v σ' H',Inv X NV σ' H' s'/\RelV v u/\D.rt v H'
def PE (X:Cx) (e:Expr) (t:TE):Prop :=
 ∀(NV:List (Addr×Obj)) (s:Shared) (σ:St) (H:Hp) (Q:VK),Inv X NV σ H s->t σ H Q->wpAny (model X.prog X.w) X.A (eval e X.env) (EP X NV σ Q) X.xe s
def PT (X:Cx) (e:Expr) (t:TT):Prop :=
 ∀(NV:List (Addr×Obj)) (s:Shared) (σ:St) (H:Hp) (Q:Bool->Hp->Prop),Inv X NV σ H s->t σ H Q->wpAny (model X.prog X.w) X.A (isTrue e X.env (eval e X.env)) (TP X NV σ Q) X.xe s
def PW (X:Cx) (e:Expr) (t:TT):Prop :=
 ∀(whole:Sem Value) (NV:List (Addr×Obj)) (s:Shared) (σ:St) (H:Hp) (Q:Bool->Hp->Prop),Inv X NV σ H s->t σ H Q->wpAny (model X.prog X.w) X.A (isTrue e X.env whole) (TP X NV σ Q) X.xe s
theorem PW.pt {X:Cx}{e:Expr}{t:TT}(h:PW X e t):PT X e t:=h _
def PA (X:Cx) (es:List Expr) (t:TA):Prop :=
 ∀(pos:Pos) (NV:List (Addr×Obj)) (s:Shared) (σ:St) (H:Hp) (Q:List V->Hp->Prop),Inv X NV σ H s->t σ H Q->wpAny (model X.prog X.w) X.A (spliced (backTo pos (starEach es X.env))) (AP X NV σ Q) X.xe s
def PS (X:Cx) (st:Stmt) (t:TS):Prop :=
 ∀(NV:List (Addr×Obj)) (s:Shared) (σ:St) (H:Hp) (D:Ends),Inv X NV σ H s->t D σ H->wpAny (model X.prog X.w) X.A (exec st X.env) (SP X NV D) X.xe s
def Ol (X:Cx) (st:List Stmt) (t:TS):Prop :=
 ∀(NV:List (Addr×Obj)) (s:Shared) (σ:St) (H:Hp) (D:Ends),Inv X NV σ H s->t D σ H->wpAny (model X.prog X.w) X.A (execs st X.env) (SP X NV D) X.xe s
theorem N0 {α:Type}{t:Sem α}{Q Q':α->Shared->Prop}{M:Model}{A:Around}{E:Value->Shared->Prop}{s:Shared}(h:wpAny M A t Q E s) (hQ: ∀a s,Q a s->Q' a s):wpAny M A t Q' E s:=Lr h hQ fun _ _ x=>x
section
variable {X:Cx}
theorem bin {a b:Expr}{ta tb:TE}(ha:PE X a ta) (hb:PE X b tb){NV:List (Addr×Obj)}{s:Shared}{σ:St}{H:Hp}{R:V->V->Hp->Prop}(I:Inv X NV σ H s) (h:ta σ H fun x H1=>tb σ H1 fun y H2=>R x y H2)
  {α:Type}{Q:α->Shared->Prop}{f:Value->Value->Sem α}
  (hf: ∀v u s2 x y H2,Inv X NV σ H2 s2->RelV x v->RelV y u->R x y H2->wpAny (model X.prog X.w) X.A (f v u) Q X.xe s2) :
  wpAny (model X.prog X.w) X.A (eval a X.env) (fun v s₁=>wpAny (model X.prog X.w) X.A (eval b X.env) (fun u s₂=>wpAny (model X.prog X.w) X.A (f v u) Q X.xe s₂) X.xe s₁) X.xe s:=by
 refine N0 (ha NV s σ H _ I h) fun v s1 ⟨x,H1,I1,r1,q1⟩=>?_
 refine N0 (hb NV s1 σ H1 _ I1 q1) fun u s2 ⟨y,H2,I2,r2,q2⟩=>?_
 exact hf v u s2 x y H2 I2 r1 r2 q2
inductive HG (i:Nat) (σ:St) (H:Hp) (Q:VK):Prop | mk (v:_) (e0:σ[i]?=some (some v)) (q:Q v H)
def vB (i:Nat):TE:=fun σ H Q=>HG i σ H Q
def tC (v:V):TE:=fun _ H Q=>Q v H
theorem Gg {i:Nat}{x:Str}{pos:Pos}(hN:X.N[i]?=some x) (hv:Pm X.env.scope x) (hd:(x == ("__debug__" : Str))=false:=by decide) (hcd:(x == ("__classdict__" : Str))=false:=by decide):PE X (.Name x pos) (vB i):=by
 intro NV s σ H Q I h
 obtain⟨v,e,h⟩:=h
 obtain⟨m,hn,hl⟩:=I.loc
 obtain⟨u,r,l⟩:=hl i x v hN e hv
 have fin:EP X NV σ Q u s:=⟨v,H,I,r,h⟩
 rcases l with⟨hk,hm⟩ | ⟨hk,c,hc,hcell⟩
 .exact wpAny_Name (wpAny_loadName_local I.ok.kind hk hn hm fin) hd
 .rcases hk with hk | hk
  .exact wpAny_Name (wpAny_loadName_cell I.ok.kind hk hc hcell fin) hd
  .exact wpAny_Name (wpAny_loadName_free I.ok.kind hk hc hcell fin hcd) hd
theorem af {i j pos}:PE X (.Constant (.int i) j pos) (tC (.int i)):=fun _ _ _ H _ I h=>wpAny_Constant_int ⟨.int i,H,I.tok _,⟨_,rfl⟩,h⟩
theorem eB {b j pos}:PE X (.Constant (.bool b) j pos) (tC (.bl b)):=fun _ _ _ H _ I h=>Constant_bool ⟨.bl b,H,I,rfl,h⟩
theorem bJ {j pos}:PE X (.Constant .none j pos) (tC .non):=fun _ _ _ H _ I h=>Constant_none ⟨.non,H,I,rfl,h⟩
theorem aF {x j pos}:PE X (.Constant (.str x) j pos) (tC (.str x)):=fun _ _ _ H _ I h=>Calls.Constant_str ⟨.str x,H,I.tok _,⟨_,rfl⟩,h⟩
def Gl (X:Cx) (x:Str):Prop:=X.env.kindOf x=some .globalImplicit
theorem mX {E:Value->Shared->Prop}{NV:List (Addr×Obj)}{s:Shared}{σ:St}{H:Hp}{x:Str}{u:Value}{pos:Pos}{Q:Value->Shared->Prop}(I:Inv X NV σ H s) (hg:Gl X x) (hm:X.mg x=some u) (h:Q u s)
  (hd:(x == ("__debug__" : Str))=false:=by decide):wpAny (model X.prog X.w) X.A (eval (.Name x pos) X.env) Q E s :=
 Calls.Name_function_global I.ok.kind hg (Calls.loadGlobal_global (by rw[I.ok.glob]; exact I.mod.glob.keeps I.bk) hm h) hd
theorem m9 {E:Value->Shared->Prop}{NV:List (Addr×Obj)}{s:Shared}{σ:St}{H:Hp}{x:Str}{u:Value}{pos:Pos}{Q:Value->Shared->Prop}(I:Inv X NV σ H s) (hg:Gl X x) (hm:X.mg x=none) (hv:bootBuiltins x=some u) (h:Q u s)
  (hn:x≠ "__name__" := by decide) (hd:(x == ("__debug__" : Str))=false:=by decide):wpAny (model X.prog X.w) X.A (eval (.Name x pos) X.env) Q E s:=by
 obtain⟨mb,h1,h2⟩:=I.mod.blt
 exact Calls.Name_function_global I.ok.kind hg (Calls.loadGlobal_builtin (by rw[I.ok.glob]; exact I.mod.glob.keeps I.bk) hm (by rw[I.ok.blt]; exact h1.keeps I.bk) ((h2 x hn).trans hv) h) hd
theorem zu {x:Str}{v:V}{u:Value}{pos:Pos}(hg:Gl X x) (hm:X.mg x=some u) (r:RelV v u) (hd:(x == ("__debug__" : Str))=false:=by decide):PE X (.Name x pos) (tC v) :=
 fun _ _ _ H _ I h=>mX I hg hm ⟨v,H,I,r,h⟩ hd
theorem ft {x:Str}{v:V}{u:Value}{pos:Pos}(hg:Gl X x) (hm:X.mg x=none) (hv:bootBuiltins x=some u) (r:RelV v u) (hn:x≠ "__name__" := by decide) (hd:(x == ("__debug__" : Str))=false:=by decide):PE X (.Name x pos) (tC v) :=
 fun _ _ _ H _ I h=>m9 I hg hm hv ⟨v,H,I,r,h⟩ hn hd
inductive Ji (k:Int->Int->Hp->Prop) (x y:V) (H2:Hp):Prop | mk (i j:_) (e0:x= .int i) (e1:y= .int j) (q:k i j H2)
def P7 (ta tb:TE) (k:Int->Int->Hp->Prop):St->Hp->Prop:=fun σ H=>ta σ H fun x H1=>tb σ H1 fun y H2=>Ji k x y H2
variable {a b:Expr}{ta tb:TE}{pos:Pos}
def PC (X:Cx) (op:CmpOp) (a b:Expr) (t:TE):Prop :=
 ∀(NV:List (Addr×Obj)) (s:Shared) (σ:St) (H:Hp) (Q:VK),Inv X NV σ H s->t σ H Q ->
  wpAny (model X.prog X.w) X.A (eval a X.env) (fun v s₁=>wpAny (model X.prog X.w) X.A (eval b X.env) (fun u s₂=>wpAny (model X.prog X.w) X.A (compareOp op v u) (EP X NV σ Q) X.xe s₂) X.xe s₁) X.xe s
theorem xZ (b:Expr){op:CmpOp}(h:op≠ .In) (h2:op≠ .NotIn):behindInMarks op b=false:=by
 have e1:(op == CmpOp.In)=false:=by cases op <;> first | rfl | exact absurd rfl h
 have e2:(op == CmpOp.NotIn)=false:=by cases op <;> first | rfl | exact absurd rfl h2
 cases b <;> simp[behindInMarks,e1,e2]
def vT (p:Int->Int->Bool) (ta tb:TE):TE:=fun σ H Q=>P7 ta tb (fun i j H2=>Q (.bl (p i j)) H2) σ H
abbrev Qj:TE->TE->TE:=vT fun i j=>decide (i < j)
abbrev Qg:TE->TE->TE:=vT fun i j=>decide (i<=j)
abbrev Qh:TE->TE->TE:=vT fun i j=>decide (j < i)
abbrev Qf:TE->TE->TE:=vT fun i j=>decide (j<=i)
abbrev Kg:TE->TE->TE:=vT fun i j=>decide (i=j)
abbrev Kh:TE->TE->TE:=vT fun i j=> !decide (i=j)
inductive P8 (Q:Bool->Hp->Prop) (x:V) (H1:Hp):Prop | mk (c:_) (e0:x= .bl c) (q:Q c H1)
def tB (t:TE):TT:=fun σ H Q=>t σ H fun x H1=>P8 Q x H1
theorem B5 {op:CmpOp}{t:TE}(h:PC X op a b t) (h1:behindInMarks op b=false:=by first | exact xZ _ (by decide) (by decide) | rfl):PE X (.Compare a [op] [b] pos) t:=fun NV s σ H Q I hw=>wpAny_Compare1 (h NV s σ H Q I hw) h1
theorem pR {op:CmpOp}{t:TE}(h:PC X op a b t) (h1:behindInMarks op b=false:=by first | exact xZ _ (by decide) (by decide) | rfl):PT X (.Compare a [op] [b] pos) (tB t):=by
 intro NV s σ H Q I hw
 refine wpAny_isTrue_Compare1 (N0 (h NV s σ H _ I hw) fun v s1 h1=>N0 h1 fun u s2 h2=>N0 h2 fun c s3 ⟨x,H1,I1,r1,q1⟩=>?_) h1
 obtain⟨d,rfl,q⟩:=q1
 cases r1
 exact LL ⟨H1,I1,q⟩
variable {tA tB':TT}{rest:List Expr}
def JI (t u:TT):TT:=fun σ H Q=>t σ H fun c H1=>if c=true then u σ H1 Q else Q false H1
def P2 (t u:TT):TT:=fun σ H Q=>t σ H fun c H1=>if c=true then Q true H1 else u σ H1 Q
def Ju (t:TT):TT:=fun σ H Q=>t σ H fun c H1=>Q (!c) H1
theorem eU (ha:PT X a tA):PW X (.BoolOp .And [a] pos) tA:=by
 intro wh NV s σ H Q I h
 refine isTrue_and (N0 (ha NV s σ H Q I h) fun c s1 e=>?_)
 cases c with
 | true=>exact isTrue_and_nil e
 | false=>exact e
theorem eV (ha:PT X a tA):PW X (.BoolOp .Or [a] pos) tA:=by
 intro wh NV s σ H Q I h
 refine isTrue_or (N0 (ha NV s σ H Q I h) fun c s1 e=>?_)
 cases c with
 | false=>exact isTrue_or_nil e
 | true=>exact e
theorem eZ (ha:PT X a tA) (hb:PW X (.BoolOp .And (b::rest) pos) tB'):PW X (.BoolOp .And (a::b::rest) pos) (JI tA tB'):=by
 intro wh NV s σ H Q I h
 refine isTrue_and (N0 (ha NV s σ H _ I h) fun c s1 ⟨H1,I1,q1⟩=>?_)
 cases c with
 | true=>exact hb wh NV s1 σ H1 Q I1 q1
 | false=>exact⟨H1,I1,q1⟩
theorem ff (ha:PT X a tA) (hb:PW X (.BoolOp .Or (b::rest) pos) tB'):PW X (.BoolOp .Or (a::b::rest) pos) (P2 tA tB'):=by
 intro wh NV s σ H Q I h
 refine isTrue_or (N0 (ha NV s σ H _ I h) fun c s1 ⟨H1,I1,q1⟩=>?_)
 cases c with
 | true=>exact⟨H1,I1,q1⟩
 | false=>exact hb wh NV s1 σ H1 Q I1 q1
theorem cS (ha:PT X a tA):PT X (.UnaryOp .Not a pos) (Ju tA):=by
 intro NV s σ H Q I h
 exact isTrue_not (ha NV s σ H (fun c H1=>Q (!c) H1) I h)
inductive Ga (tb:TE) (σ:St) (Q:VK) (x:V) (H1:Hp):Prop | mk (c:_) (e0:x= .bl c) (q:if c=true then tb σ H1 Q else Q (.bl false) H1)
def Ii (ta tb:TE):TE:=fun σ H Q=>ta σ H fun x H1=>Ga tb σ Q x H1
inductive J6 (tb:TE) (σ:St) (Q:VK) (x:V) (H1:Hp):Prop | mk (c:_) (e0:x= .bl c) (q:if c=true then Q (.bl true) H1 else tb σ H1 Q)
inductive GC (Q:VK) (x:V) (H1:Hp):Prop | mk (c:_) (e0:x= .bl c) (q:Q (.bl (!c)) H1)
def HP (ta:TE):TE:=fun σ H Q=>ta σ H fun x H1=>GC Q x H1
theorem rH {op}{t:TE}(h:PE X a t):PE X (.BoolOp op [a] pos) t:=fun NV s σ H Q I hw=>BoolOp_one (h NV s σ H Q I hw)
theorem sP (ha:PE X a ta) (hb:PE X (.BoolOp .And (b::rest) pos) tb):PE X (.BoolOp .And (a::b::rest) pos) (Ii ta tb):=by
 intro NV s σ H Q I h
 refine BoolOp_and (N0 (ha NV s σ H _ I h) fun v s1 ⟨x,H1,I1,r1,q1⟩=>?_)
 obtain⟨c,rfl,q1⟩:=q1
 cases r1
 refine LL ?_
 cases c with
 | true=>exact hb NV s1 σ H1 Q I1 q1
 | false=>exact⟨.bl false,H1,I1,rfl,q1⟩
theorem GJ (ha:PE X a ta):PE X (.UnaryOp .Not a pos) (HP ta):=by
 intro NV s σ H Q I h
 refine UnaryOp_ (N0 (ha NV s σ H _ I h) fun v s1 ⟨x,H1,I1,r1,q1⟩=>?_)
 obtain⟨c,rfl,q1⟩:=q1
 cases r1
 exact not_of (LL ⟨.bl (!c),H1,I1,rfl,q1⟩)
def PX (t:TT) (ta tb:TE):TE:=fun σ H Q=>t σ H fun c H1=>if c=true then ta σ H1 Q else tb σ H1 Q
theorem yD {c:Expr}(hc:PT X c tA) (ha:PE X a ta) (hb:PE X b tb):PE X (.IfExp c a b pos) (PX tA ta tb):=by
 intro NV s σ H Q I h
 refine wpAny_IfExp (N0 (hc NV s σ H _ I h) fun d s1 ⟨H1,I1,q1⟩=>?_)
 cases d with
 | true=>exact ha NV s1 σ H1 Q I1 q1
 | false=>exact hb NV s1 σ H1 Q I1 q1
end
def NX (K:NY) (H:Hp) (a:Addr) (xs:List V):Prop :=
 Rd H a (.lst xs) \/
  ∃(o:Obj) (its:Array Value) (n:Nat),K.lookup a=some o/\o.cls= .type "list" /\ o.dict=none/\o.data= .seq its n/\its.size<=sizeLine/\Vals xs its.toList
def N1 (K:NY) (H:Hp) (a:Addr) (xs:List V):Prop :=
 Rd H a (.tup xs) \/
  ∃(o:Obj) (its:Array Value) (n:Nat),K.lookup a=some o/\o.cls= .type "tuple" /\ o.data= .seq its n/\its.size<=sizeLine/\Vals xs its.toList
def JJ:Value->Option V
 | .none=>some .non
 | .bool b=>some (.bl b)
 | .int i _=>some (.int i)
 | .str x _=>some (.str x)
 | .bytes b _=>some (.byt b)
 | .float b _=>some (.flt b)
 | .ref a=>some (.ref a)
 | .type n=>some (.ty n)
 | _=>none
theorem RelV.abs {x:V}{u:Value}(r:RelV x u):JJ u=some x:=by
 cases x with
 | non=>cases r; rfl
 | bl _=>cases r; rfl
 | int _=>obtain⟨t,rfl⟩:=r; rfl
 | str _=>obtain⟨t,rfl⟩:=r; rfl
 | byt _=>obtain⟨t,rfl⟩:=r; rfl
 | flt _=>obtain⟨t,rfl⟩:=r; rfl
 | ref _=>cases r; rfl
 | ty _=>cases r; rfl
theorem RelV.inj {x y:V}{u:Value}(r:RelV x u) (q:RelV y u):x=y:=KJ (r.abs.symm.trans q.abs)
theorem Vals.inj: ∀ {xs ys:List V}{us:List Value},Vals xs us->Vals ys us->xs=ys
 | _,_,_,.nil,.nil=>rfl
 | _,_,_,.cons r t,.cons r' t'=>by rw[r.inj r',Vals.inj t t']
section
variable {X:Cx}{NV:List (Addr×Obj)}{σ:St}{H:Hp}{s:Shared}{a:Addr}{xs ys:List V}
theorem NX.of {K:NY}(h:H a=some (.lst xs)):NX K H a xs:= .inl (.inl h)
theorem N1.of {K:NY}(h:H a=some (.tup xs)):N1 K H a xs:= .inl (.inl h)
theorem Inv.list (I:Inv X NV σ H s) (h:NX X.K H a xs): ∃its:List Value,Vals xs its/\PlainL s.heap a its.toArray/\xs.length<=sizeLine:=by
 rcases h with h | ⟨o,its,n,hk,hc,hd,hs,hz,r⟩
 .obtain⟨z,its,n,r,e⟩:=h.ok I.hok
  exact⟨its,r,⟨_,n,e,rfl,rfl,rfl⟩,z⟩
 .refine⟨its.toList,r,⟨o,n,I.Ow a o hk,hc,hd,by simpa using hs⟩,?_⟩
  have e:=r.length
  simp only[Nh] at e
  omega
theorem Inv.tuple (I:Inv X NV σ H s) (h:N1 X.K H a xs): ∃its:List Value,Vals xs its/\IsTup s.heap a its.toArray/\xs.length<=sizeLine:=by
 rcases h with h | ⟨o,its,n,hk,hc,hs,hz,r⟩
 .obtain⟨z,its,r,p⟩:=h.ok I.hok
  exact⟨its,r,p,z⟩
 .refine⟨its.toList,r,⟨o,I.Ow a o hk,hc,n,by simpa using hs⟩,?_⟩
  have e:=r.length
  simp only[Nh] at e
  omega
theorem Inv.qO (I:Inv X NV σ H s) (h:NX X.K H a xs) (h':NX X.K H a ys):xs=ys:=by
 obtain⟨its,r,⟨o,n,e,_,_,d⟩,_⟩:=I.list h
 obtain⟨its',r',⟨o',n',e',_,_,d'⟩,_⟩:=I.list h'
 rw[e] at e'; cases e'
 rw[d] at d'
 injection d' with d1 _
 have:its=its':=by simpa using Lm Array.toList d1
 subst this
 exact r.inj r'
end
abbrev Cx.oz (X:Cx) (E:Value->Shared->Prop):Cx:={ X with xe:=E }
abbrev Cx.O9 (X:Cx):Cx:=X.oz fun _ _=>False
theorem Cx.Ok.oz {X:Cx}(ok:X.Ok) (E:Value->Shared->Prop):(X.oz E).Ok :=
 ⟨ok.mod,ok.kind,ok.glob,ok.blt,ok.above,ok.inj,ok.has,ok.cab,ok.hd,ok.frames,ok.stk,ok.exf,ok.bs,ok.bsz,ok.noex,ok.exfs,ok.fH,ok.frf⟩
theorem Cx.Ok.lG {X:Cx}{E:Value->Shared->Prop}(ok:(X.oz E).Ok):X.Ok :=
 ⟨ok.mod,ok.kind,ok.glob,ok.blt,ok.above,ok.inj,ok.has,ok.cab,ok.hd,ok.frames,ok.stk,ok.exf,ok.bs,ok.bsz,ok.noex,ok.exfs,ok.fH,ok.frf⟩
section
variable {X:Cx}{NV:List (Addr×Obj)}{σ:St}{H:Hp}{s:Shared}{E:Value->Shared->Prop}
theorem Inv.oz (I:Inv X NV σ H s) (E:Value->Shared->Prop):Inv (X.oz E) NV σ H s:=⟨I.ok.oz E,I.os,I.bare,I.base,I.loc,I.cell,I.free,I.freeC,I.pin,I.hok,I.len⟩
theorem Inv.lG (I:Inv (X.oz E) NV σ H s):Inv X NV σ H s:=⟨I.ok.lG,I.os,I.bare,I.base,I.loc,I.cell,I.free,I.freeC,I.pin,I.hok,I.len⟩
theorem SP.lG {D:Ends}{f:Flow}{s':Shared}(h:SP (X.oz E) NV D f s'):SP X NV D f s':=by
 cases f with
 | next=>obtain⟨σ',H',I,q⟩:=h; exact⟨σ',H',I.lG,q⟩
 | brk=>obtain⟨σ',H',I,q⟩:=h; exact⟨σ',H',I.lG,q⟩
 | cont=>obtain⟨σ',H',I,q⟩:=h; exact⟨σ',H',I.lG,q⟩
 | ret u=>obtain⟨v,σ',H',I,r,q⟩:=h; exact⟨v,σ',H',I.lG,r,q⟩
theorem Ol.O9 {st:List Stmt}{t:TS}(h:Ol X.O9 st t):Ol X st t:=fun NV s σ H D I hw =>
 Lr (h NV s σ H D (I.oz _) hw) (fun _ _ q=>q.lG) fun _ _ z=>False.elim z
end
section
variable {X:Cx}{st:Stmt}{rest:List Stmt}{t u:TS}{e:Expr}{te:TE}{pos:Pos}
def Ew:TS:=fun D σ H=>D.nx σ H
def Jo (t u:TS):TS:=fun D σ H=>t { D with nx:=u D } σ H
theorem aD:Ol X [] Ew:=fun _ _ σ H _ I h=>Nd ⟨σ,H,I,h⟩
theorem ah (h1:PS X st t) (h2:Ol X rest u):Ol X (st::rest) (Jo t u):=by
 intro NV s σ H D I h
 refine wpAny_execs_cons (N0 (h1 NV s σ H { D with nx:=u D } I h) fun f s1 q=>?_)
 cases f with
 | next =>
  obtain⟨σ',H',I',q⟩:=q
  exact h2 NV s1 σ' H' D I' q
 | ret v=>exact q
 | brk=>exact q
 | cont=>exact q
theorem aj (h1:PS X st t):Ol X [st] t:=by
 intro NV s σ H D I h
 refine wpAny_execs_cons (N0 (h1 NV s σ H D I h) fun f s1 q=>?_)
 cases f with
 | next=>exact Nd q
 | ret v=>exact q
 | brk=>exact q
 | cont=>exact q
def HN:TS:=fun D σ H=>D.ct σ H
theorem zh:PS X (.Continue pos) HN:=fun _ _ σ H _ I h=>wpAny_Continue ⟨σ,H,I,h⟩
theorem Inv.quiet {NV:List (Addr×Obj)}{σ:St}{H:Hp}{s:Shared}(I:Inv X NV σ H s):interactive X.env=false:=by simp[interactive,I.ok.kind]
def Ik (te:TE):TS:=fun D σ H=>te σ H fun _ H1=>D.nx σ H1
theorem aU (he:PE X e te) (hs:swapsWith e none pos.line X.env=pure false:=by rfl):PS X (.Expr e pos) (Ik te):=by
 intro NV s σ H D I h
 exact wpAny_Expr_any (N0 (he NV s σ H _ I h) fun v s1 ⟨x,H1,I1,r1,q1⟩=>⟨σ,H1,I1,q1⟩) I.quiet hs
def G1 (te:TE):TS:=fun D σ H=>te σ H D.rt
theorem az (he:PE X e te):PS X (.Return (some e) pos) (G1 te):=by
 intro NV s σ H D I h
 exact wpAny_Return_some (N0 (he NV s σ H _ I h) fun v s1 ⟨x,H1,I1,r1,q1⟩=>⟨x,σ,H1,I1,r1,q1⟩)
def Hr (c:TT) (t u:TS):TS:=fun D σ H=>c σ H fun b H1=>if b=true then t D σ H1 else u D σ H1
theorem aK {c:Expr}{a b:List Stmt}{tc:TT}(hc:PT X c tc) (ha:Ol X a t) (hb:Ol X b u):PS X (.If c a b pos) (Hr tc t u):=by
 intro NV s σ H D I h
 refine wpAny_If (N0 (hc NV s σ H _ I h) fun d s1 ⟨H1,I1,q1⟩=>?_)
 cases d with
 | true=>exact ha NV s1 σ H1 D I1 q1
 | false=>exact hb NV s1 σ H1 D I1 q1
end
abbrev TG:=V->St->Hp->(St->Hp->Prop)->Prop
abbrev OK:=List V->St->Hp->(St->Hp->Prop)->Prop
def PG (X:Cx) (target:Expr) (t:TG):Prop :=
 ∀(NV:List (Addr×Obj)) (s:Shared) (σ:St) (H:Hp) (v:V) (u:Value) (Q:St->Hp->Prop),Inv X NV σ H s->RelV v u->t v σ H Q ->
  wpAny (model X.prog X.w) X.A (assign target X.env u) (fun _ s'=> ∃σ' H',Inv X NV σ' H' s'/\Q σ' H') X.xe s
def Pj (X:Cx) (ts:List Expr) (t:OK):Prop :=
 ∀(NV:List (Addr×Obj)) (s:Shared) (σ:St) (H:Hp) (vs:List V) (us:List Value) (Q:St->Hp->Prop),Inv X NV σ H s->Vals vs us->t vs σ H Q ->
  wpAny (model X.prog X.w) X.A (assignInOrder ((assignEach ts X.env).map (·.2)) us) (fun _ s'=> ∃σ' H',Inv X NV σ' H' s'/\Q σ' H') X.xe s
abbrev C3:=V->V->V->Hp->(Hp->Prop)->Prop
def Hl (X:Cx) (t:C3):Prop :=
 ∀(NV:List (Addr×Obj)) (s:Shared) (σ:St) (H:Hp) (o i v:V) (ov iv u:Value) (Q:Hp->Prop),Inv X NV σ H s->RelV o ov->RelV i iv->RelV v u->t o i v H Q ->
  wpAny (model X.prog X.w) X.A (setItem ov iv u) (fun _ s'=> ∃H',Inv X NV σ H' s'/\Q H') X.xe s
abbrev P9:=V->V->Hp->VK->Prop
section
variable {X:Cx}{pos:Pos}
def aY (i:Nat):TG:=fun v σ H Q=>Q (σ.set i (some v)) H
theorem aG {i:Nat}{x:Str}(hN:X.N.Nodup) (hi:X.N[i]?=some x) (hx:Loc X.env.scope x) (hf:X.fn x=true\/X.env.scope.names.lookup x=some .local:=by first | exact .inl rfl | exact .inr rfl | assumption):PG X (.Name x pos) (aY i):=by
 intro NV s σ H v u Q I r h
 exact wpAny_assign_Name (ju I hN hi hx r (fun s' I'=>⟨_,H,I',h⟩) hf)
def Ea:OK:=fun vs σ H Q=>vs=[]/\Q σ H
inductive Hz (t:TG) (u:OK) (vs:List V) (σ:St) (H:Hp) (Q:St->Hp->Prop):Prop | mk (v r:_) (e0:vs=v::r) (q:t v σ H fun σ' H'=>u r σ' H' Q)
def AM (t:TG) (u:OK):OK:=fun vs σ H Q=>Hz t u vs σ H Q
theorem fk:Pj X [] Ea:=by
 intro NV s σ H vs us Q I r h
 obtain⟨e,h⟩:=h
 subst e
 cases r
 exact assignInOrder_nil ⟨σ,H,I,h⟩
theorem bj {e:Expr}{es:List Expr}{t:TG}{u:OK}(h1:PG X e t) (h2:Pj X es u)
  (hs:(assignEach (e::es) X.env).map (·.2)=assign e X.env::(assignEach es X.env).map (·.2):=by rfl):Pj X (e::es) (AM t u):=by
 intro NV s σ H vs us Q I r h
 obtain⟨v,vr,e1,h⟩:=h
 subst e1
 cases r with
 | cons r rr =>
  rw[hs]
  refine Mb (N0 (h1 NV s σ H _ _ _ I r h) fun _ s1 ⟨σ1,H1,I1,q1⟩=>?_)
  exact h2 NV s1 σ1 H1 _ _ Q I1 rr q1
inductive HE (K:NY) (n:Nat) (t:OK) (v:V) (σ:St) (H:Hp) (Q:St->Hp->Prop):Prop | mk (a xs:_) (e0:v= .ref a) (e1:N1 K H a xs) (e2:xs.length=n) (q:t xs σ H Q)
def yq (K:NY) (n:Nat) (t:OK):TG:=fun v σ H Q=>HE K n t v σ H Q
theorem gx {es:List Expr}{k:Nat}{t:OK}{n:Nat}(hc:X.calm=true) (h:Pj X es t)
  (hn:(assignEach es X.env).length=n:=by rfl) (hst:(assignEach es X.env).findIdx? (·.1)=none:=by rfl):PG X (.Tuple es k pos) (yq X.K n t):=by
 intro NV s σ H v u Q I r hw
 obtain⟨a,xs,e1,hq,hl,hw⟩:=hw
 subst e1
 cases r
 obtain⟨its,rv,ht,hz⟩:=I.tuple hq
 refine assign_Tuple_tuple (I.ok.hd hc) ht (by simp[hn,<-hl,rv.length]) hst fun h' hx=>?_
 have I1:Inv X NV σ H { s with heap:=h' }:=I.kept (t':=s.toks) fun b o e=>hx b o (K3 (KA e)) e
 exact h NV _ σ H xs _ Q I1 (by simpa using rv) hw
def JD (to ti:TE) (t:C3):TG:=fun v σ H Q=>to σ H fun o H1=>ti σ H1 fun i H2=>t o i v H2 fun H3=>Q σ H3
theorem lz {o i:Expr}{to ti:TE}{t:C3}(ho:PE X o to) (hi:PE X i ti) (hs:Hl X t)
  (ha: ∀v,assign (.Subscript o i pos) X.env v=(do
   let ov <-holding [v] (eval o X.env)
   let iv <-holding [v,ov] (eval i X.env)
   standAt pos
   holding [v,ov,iv] (setItem ov iv v)
   release [v,ov,iv] []):=by intro _; rfl):PG X (.Subscript o i pos) (JD to ti t):=by
 intro NV s σ H v u Q I r h
 rw[ha]
 refine Kt (Mn (N0 (ho NV s σ H _ I h) fun ov s1 ⟨x,H1,I1,r1,q1⟩=>?_))
 refine Kt (Mn (N0 (hi NV s1 σ H1 _ I1 q1) fun iv s2 ⟨y,H2,I2,r2,q2⟩=>?_))
 refine Kt (L4 (Kt (Mn (N0 (hs NV s2 σ H2 x y v ov iv u _ I2 r1 r2 r q2) fun _ s3 ⟨H3,I3,q3⟩=>?_))))
 exact wpAny_release ⟨σ,H3,I3,q3⟩
def DK (te:TE) (g:TG):TS:=fun D σ H=>te σ H fun x H1=>g x σ H1 D.nx
theorem gY {tg e:Expr}{te:TE}{g:TG}(he:PE X e te) (hg:PG X tg g) (hs:swapsWithSole [tg] e pos.line X.env=pure false:=by rfl) (hw:swappedStores [tg] e X.env=pure none:=by rfl)
  (h1:(assignEach [tg] X.env).map (·.2)=[assign tg X.env]:=by rfl):PS X (.Assign [tg] e pos) (DK te g):=by
 intro NV s σ H D I h
 refine wpAny_Assign_stores (N0 (he NV s σ H _ I h) fun v s1 ⟨x,H1,I1,r1,q1⟩=>?_) hs hw
 rw[h1]
 exact N0 (hg NV s1 σ H1 x v _ I1 r1 q1) fun _ s2 q=>q
theorem ax {i:Nat}{x:Str}{e:Expr}{te:TE}{pos':Pos}(hN:X.N.Nodup) (hi:X.N[i]?=some x) (hx:Loc X.env.scope x) (he:PE X e te) (hs:swapsWith e (some (.Name x pos')) pos.line X.env=pure false:=by rfl) (hf:X.fn x=true\/X.env.scope.names.lookup x=some .local:=by first | exact .inl rfl | exact .inr rfl | assumption) :
  PS X (.Assign [.Name x pos'] e pos) (DK te (aY i)):=by
 intro NV s σ H D I h
 refine wpAny_Assign_Name (N0 (he NV s σ H _ I h) fun v s1 ⟨y,H1,I1,r1,q1⟩=>?_) hs
 exact ju I1 hN hi hx r1 (fun s2 I2=>⟨_,H1,I2,q1⟩) hf
inductive Ie (i j:Nat) (D:Ends) (σ:St) (vs:List V) (H1:Hp):Prop | mk (v w:_) (e0:vs=[v,w]) (q:D.nx ((σ.set i (some v)).set j (some w)) H1)
def JF (i j:Nat) (ta:TA):TS:=fun D σ H=>ta σ H fun vs H1=>Ie i j D σ vs H1
theorem G8 {i j:Nat}{x y:Str}{a b:Expr}{ta:TA}{px py pt:Pos}{kt k2 pt2}(hc:X.calm=true) (hN:X.N.Nodup) (hi:X.N[i]?=some x) (hj:X.N[j]?=some y) (hij:i≠j)
  (hx:X.env.scope.names.lookup x=some .local) (hy:X.env.scope.names.lookup y=some .local) (ha:PA X [a,b] ta)
  (hw:swappedStores [.Tuple [.Name x px,.Name y py] kt pt] (.Tuple [a,b] k2 pt2) X.env=pure (some [x,y]))
  (hs:swapsWithSole [.Tuple [.Name x px,.Name y py] kt pt] (.Tuple [a,b] k2 pt2) pos.line X.env=pure false:=by rfl) :
  PS X (.Assign [.Tuple [.Name x px,.Name y py] kt pt] (.Tuple [a,b] k2 pt2) pos) (JF i j ta):=by
 intro NV s σ H D I h
 rw[exec_Assign_arm]
 refine Kt (L4 ?_)
 rw[hs]
 refine Kt (K1 ?_)
 rw[Kk (by decide)]
 refine Kt (Tuple_ (N0 (ha _ NV s σ H _ I h) fun us s1 ⟨vs,H1,I1,r1,q1⟩=>?_))
 obtain⟨v,w,e1,q1⟩:=q1
 subst e1
 obtain⟨u1,u2,rfl,rv,rw'⟩: ∃u1 u2,us=[u1,u2]/\RelV v u1/\RelV w u2:=by
  cases r1 with
  | cons p q =>
   cases q with
   | cons p' q' =>
    cases q'
    exact⟨_,_,rfl,p,p'⟩
 refine MV ?_ (by show 2<=sizeLine; decide)
 have I2:Inv X NV σ H1 { s1 with heap:=s1.heap.push { cls:= .type "tuple",data:= .seq [u1,u2].toArray } }:=I1.kept (t':=s1.toks) fun b o e=>Kq _ e
 rw[hw]
 refine Kt (K1 ?_)
 show wpAny (model X.prog X.w) X.A (do rule "assign.swapped-stores"; let items <-unpackItems (.ref s1.heap.objs.size) 2 none; assignInOrder [fun v=>bindName X.env y v,fun v=>bindName X.env x v] items.reverse; pure Flow.next) _ _ _
 refine Kt (wpAny_rule (Kt (unpackItems_tuple (items:= #[u1,u2]) (I.ok.hd hc) (IsTup.new s1.heap _) fun h' hx'=>?_)))
 have I3:=I2.kept (h':=h') (t':=s1.toks) fun b o e=>hx' b o (K3 (KA e)) e
 show wpAny _ _ (assignInOrder [fun v=>bindName X.env y v,fun v=>bindName X.env x v] [u2,u1] >>= fun _=>pure Flow.next) _ _ _
 refine Kt (Mb (MT (ju I3 hN hj (.inl hy) rw' (fun s2 I4=>?_) (.inr hy))))
 refine Mb (MT (ju I4 hN hi (.inl hx) rv (fun s3 I5=>assignInOrder_nil (K1 ?_)) (.inr hx)))
 rw[List.set_comm _ _ (KW hij)] at I5
 exact⟨_,H1,I5,q1⟩
inductive J5 (i:Nat) (te:TE) (ti:P9) (D:Ends) (σ:St) (H:Hp):Prop | mk (x:_) (e0:σ[i]?=some (some x)) (q:te σ H fun y H1=>ti x y H1 fun z H2=>D.nx (σ.set i (some z)) H2)
inductive Ki (f:Int->Int->Int) (x y:V) (H:Hp) (Q:VK):Prop | mk (i j:_) (e0:x= .int i) (e1:y= .int j) (q:Q (.int (f i j)) H)
end
section
variable {X:Cx}{pos:Pos}
def G2 (c:TT) (tb:TS):TS:=fun D σ H=> ∃W:Nat->St->Hp->Prop,(∃m,W m σ H)/\ ∀m σ H,W m σ H ->
 c σ H fun b H1=>if b=true then ∃N:St->Hp->Prop,(∀σ' H',N σ' H'-> ∃m',m' < m/\W m' σ' H')/\tb { D with nx:=N,ct:=N,bk:=D.nx } σ H1 else D.nx σ H1
theorem qb {c:Expr}{body:List Stmt}{tc:TT}{tb:TS}(hp:PassesOwn (model X.prog X.w) X.A X.env X.xe) (hc:PT X c tc) (hb:Ol X body tb):PS X (.While c body [] pos) (G2 tc tb):=by
 intro NV s σ H D I h
 obtain⟨W,⟨m0,w0⟩,turn⟩:=h
 refine wpAny_While (codeAny_whileLoop (fun n s'=> ∃σ' H',Inv X NV σ' H' s'/\W n σ' H') ?_ m0 ⟨σ,H,I,w0⟩)
 rintro n s1 ⟨σ1,H1,I1,w1⟩
 refine Mm hp (N0 (hc NV s1 σ1 H1 _ I1 (turn n σ1 H1 w1)) fun b s2 ⟨H2,I2,q2⟩=>?_)
 cases b with
 | true =>
  obtain⟨N,hN,q2⟩:=q2
  rw[Ko rfl]
  refine Mm hp (N0 (hb NV s2 σ1 H2 _ I2 q2) fun f s3 q3=>?_)
  cases f with
  | next =>
   obtain⟨σ3,H3,I3,n3⟩:=q3
   obtain⟨m',hm,w3⟩:=hN σ3 H3 n3
   exact⟨m',hm,σ3,H3,I3,w3⟩
  | cont =>
   obtain⟨σ3,H3,I3,n3⟩:=q3
   obtain⟨m',hm,w3⟩:=hN σ3 H3 n3
   exact⟨m',hm,σ3,H3,I3,w3⟩
  | brk=>exact q3
  | ret v=>exact q3
 | false =>
  rw[Kk KG]
  exact Nd ⟨σ1,H2,I2,q2⟩
end
structure It where
 go:Nat->Hp->Prop
 yld:Nat->Hp->V->Hp->Prop
 stop:Nat->Hp->Prop
def cA (X:Cx) (NV:List (Addr×Obj)) (H:Hp) (b:Addr):Prop :=
 H b=none/\b≠X.env.locals/\b∉X.fs/\(b∈X.ex\/X.s₀.heap.objs.size<=b)/\(∀x c,X.env.cells.lookup x=some c->c≠b)/\ ∀p∈X.pn++NV,p.1≠b
theorem Inv.jg {X:Cx}{NV:List (Addr×Obj)}{σ:St}{H H':Hp}{s:Shared}{b:Addr}(I:Inv X NV σ H s) (hb:s.heap.objs.size<=b) (hn:H' b=none):cA X NV H' b:=by
 refine⟨hn,M8 (Lk I.lt hb),I.Je hb,.inr (KP I.sz hb),fun x c e z=>?_,fun p hp z=>?_⟩
 .obtain⟨v,q⟩:=I.cell x c e
  exact absurd (Lk q.lt (by rw[z]; exact hb)) (LQ _)
 .exact absurd (Lk (KA (I.pin p hp).1) (by rw[z]; exact hb)) (LQ _)
structure Turn (P:Program) (w:World) (K:NY) (tg:Expr) (J:It) (fp:List Addr) (it:Addr) (tn:Nat->Heap->Prop):Prop where
 mem:it∈fp
 obj: ∀i h,tn i h-> ∀b∈fp,∃o,h.get? b=some o/\ ∀v,o.data≠ .cell v
 keep: ∀i h h',tn i h->(∀b∈fp,∀o,h.get? b=some o->h'.get? b=some o)->tn i h'
 item: ∀(X:Cx),X.prog=P->X.w=w->X.K=K->X.calm=true-> ∀(i:Nat) (NV:List (Addr×Obj)) (s:Shared) (σ:St) (H:Hp) (E:Value->Shared->Prop),Inv X NV σ H s->(∀b∈fp,cA X NV H b)->tn i s.heap->J.go i H ->
  wpAny (model P w) X.A (pyNext (.ref it)) (fun r s1=> ∃u,r=some u /\
   wpAny (model P w) X.A (letOwnedTupleGo tg (.ref it) u) (fun _ s2=> ∃x H',Inv X NV σ H' s2/\RelV x u/\J.yld i H x H'/\tn (i+1) s2.heap/\ ∀b∈fp,H' b=none) E s1) E s
 done: ∀(X:Cx),X.prog=P->X.w=w->X.K=K->X.calm=true-> ∀(i:Nat) (NV:List (Addr×Obj)) (s:Shared) (σ:St) (H:Hp) (E:Value->Shared->Prop),Inv X NV σ H s->(∀b∈fp,cA X NV H b)->tn i s.heap->J.stop i H ->
  wpAny (model P w) X.A (pyNext (.ref it)) (fun r s1=>r=none/\Inv X NV σ H s1) E s
 self: ∀(A:Around) (i:Nat) (s:Shared) (Q:Value->Shared->Prop) (E:Value->Shared->Prop),tn i s.heap->Q (.ref it) s->wpAny (model P w) A (pyIter (.ref it)) Q E s
abbrev TI:=St->Hp->(It->Hp->Prop)->Prop
def PK (X:Cx) (NV:List (Addr×Obj)) (σ:St) (tg:Expr) (R:It->Hp->Prop) (itv:Value) (s2:Shared):Prop :=
 ∃(it:Addr) (fp:List Addr) (tn:Nat->Heap->Prop) (J:It) (H':Hp),itv= .ref it/\Inv X NV σ H' s2/\Turn X.prog X.w X.K tg J fp it tn/\tn 0 s2.heap/\(∀b∈fp,cA X NV H' b)/\R J H'
def PI (X:Cx) (tg iter:Expr) (wi:TI):Prop :=
 ∀(NV:List (Addr×Obj)) (s:Shared) (σ:St) (H:Hp) (R:It->Hp->Prop),Inv X NV σ H s->wi σ H R ->
  wpAny (model X.prog X.w) X.A (eval iter X.env) (fun v s1=>wpAny (model X.prog X.w) X.A (pyIter v) (PK X NV σ tg R) X.xe s1) X.xe s
theorem xn {M:Model}{A:Around}{E:Value->Shared->Prop}{s:Shared}{tg:Expr}{it:Addr}{u:Value}{o:Obj}{n:String}{vs:Array Value}{Q:Unit->Shared->Prop}(ho:s.heap.get? it=some o) (hc:o.cls= .type n) (hd:o.data= .fields vs)
  (hn:["enumerate","zip","dict_itemiterator","dict_reverseitemiterator","odict_iterator","itertools.zip_longest","itertools.pairwise"].contains n=false) (hQ:Q () s):wpAny M A (letOwnedTupleGo tg (.ref it) u) Q E s:=by
 unfold letOwnedTupleGo
 cases tg <;> first
  | exact K1 hQ
  | (cases u <;> first
    | exact K1 hQ
    | (refine Kt (wpAny_load ho ?_)
       rw[hc,hd]
       show wpAny M A (if (["enumerate","zip","dict_itemiterator","dict_reverseitemiterator","odict_iterator","itertools.zip_longest","itertools.pairwise"].contains n && vs[0]? == some (rawInt _))=true then _ else _) Q E s
       rw[Kk (by intro h; rw[hn,Nn] at h; cases h)]
       exact K1 hQ))
def Pu (K:NY) (a:Addr):It :=
 ⟨fun i H=> ∃xs x,NX K H a xs/\xs[i]?=some x,fun i H x H'=>H'=H/\ ∀xs,NX K H a xs->xs[i]?=some x,fun i H=> ∃xs,NX K H a xs/\xs.length<=i⟩
def Qd (K:NY) (a:Addr):It :=
 ⟨fun i H=> ∃xs x,N1 K H a xs/\xs[i]?=some x,fun i H x H'=>H'=H/\ ∀xs,N1 K H a xs->xs[i]?=some x,fun i H=> ∃xs,N1 K H a xs/\xs.length<=i⟩
def Pa (lo:Int) (n:Nat):It:=⟨fun i _=>i < n,fun i H x H'=>H'=H/\x= .int (lo+i),fun i _=>n<=i⟩
theorem Co {P:Program}{w:World}{K:NY}{tg:Expr}(a it:Addr):Turn P w K tg (Pu K a) [it] it (fun i h=>h.IsListIter it a i) where
 mem:=by simp
 obj:=fun i h st b hb=>by
  have e:b=it:=by simpa using hb
  subst e
  obtain⟨o,e,c,d⟩:=st
  exact⟨o,e,fun v z=>by rw[d] at z; cases z⟩
 keep:=fun i h h' st k=>st.at fun o e=>k it (by simp) o e
 item:=by
  intro X hP hw hK hc i NV s σ H E I hf st hg
  subst hP hw hK
  obtain⟨xs,x,hq,hx⟩:=hg
  obtain⟨its,rv,p,hz⟩:=I.list hq
  obtain⟨u,hu,ru⟩:=rv.get hx
  obtain⟨f0,f1,f2,f3,f4,f5⟩:=hf it (by simp)
  refine wpAny_pyNext_list_item st p.isList (x:=u) (by simpa using hu) fun h' st' sb=>?_
  have I1:Inv X NV σ H { s with heap:=h' }:=I.turned (t':=s.toks) (fun b o hb e=>(sb.2 b hb).trans e) f0 f1 f3 f4 f5
  obtain⟨o,e,c,d⟩:=id st'
  exact⟨u,rfl,xn (s:={ s with heap:=h' }) e c d (by decide) ⟨x,H,I1,ru,⟨rfl,fun ys hy=>by rw[I.qO hy hq]; exact hx⟩,st',fun b hb=>(hf b hb).1⟩⟩
 done:=by
  intro X hP hw hK hc i NV s σ H E I hf st hg
  subst hP hw hK
  obtain⟨xs,hq,hx⟩:=hg
  obtain⟨its,rv,p,hz⟩:=I.list hq
  obtain⟨f0,f1,f2,f3,f4,f5⟩:=hf it (by simp)
  have hl:=rv.length
  exact wpAny_pyNext_list_end (I.ok.hd hc) st p.isList (by simp; omega) fun h' eb=>⟨rfl,I.turned (t':=s.toks) (fun b o hb e=>eb b o hb e) f0 f1 f3 f4 f5⟩
 self:=fun _ _ _ _ _ st h=>wpAny_pyIter_listiter st h
theorem AA {P:Program}{w:World}{K:NY}{tg:Expr}(it:Addr) (lo:Int) (n:Nat):Turn P w K tg (Pa lo n) [it] it (fun i h=>IsRangeIter h it (lo+(i:Nat)*1) ((n:Int) - (i:Nat)) 1) where
 mem:=by simp
 obj:=fun i h st b hb=>by
  have e:b=it:=by simpa using hb
  subst e
  exact⟨_,st,fun v z=>by
   have z':Data.fields _=Data.cell v:=z
   cases z'⟩
 keep:=fun i h h' st k=>k it (by simp) _ st
 item:=by
  intro X hP hw hK hc i NV s σ H E I hf st hg
  subst hP hw hK
  obtain⟨f0,f1,f2,f3,f4,f5⟩:=hf it (by simp)
  have W:=Walks.range (prog:=X.prog) (w:=X.w) (I.ok.hd hc) it lo 1 n
  refine W.item i s _ _ hg st fun v h' tk hv st' kk=>?_
  obtain⟨t,rfl⟩:=hv
  have I1:Inv X NV σ H { s with heap:=h',toks:=tk }:=I.turned (fun b o hb e=>kk b o (by simpa using hb) e) f0 f1 f3 f4 f5
  refine⟨_,rfl,xn (s:={ s with heap:=h',toks:=tk }) (n:= "range_iterator") st' rfl rfl (by decide) ⟨.int (lo+i),H,I1,⟨t,?_⟩,⟨rfl,rfl⟩,st',fun b hb=>(hf b hb).1⟩⟩
  rw[Int.mul_one]
 done:=by
  intro X hP hw hK hc i NV s σ H E I hf st hg
  subst hP hw hK
  obtain⟨f0,f1,f2,f3,f4,f5⟩:=hf it (by simp)
  exact wpAny_pyNext_range_end (I.ok.hd hc) st (by have:n<=i:=hg; omega) fun h' eb=>⟨rfl,I.turned (t':=s.toks) (fun b o hb e=>eb b o hb e) f0 f1 f3 f4 f5⟩
 self:=fun _ _ _ _ _ st h=>wpAny_pyIter_rangeiter st h
section
variable {X:Cx}{tg:Expr}
inductive Ho (K:NY) (R:It->Hp->Prop) (x:V) (H1:Hp):Prop | mk (a:_) (e0:x= .ref a) (e1:(∃xs,NX K H1 a xs)) (q:R (Pu K a) H1)
def HZ (K:NY) (tl:TE):TI:=fun σ H R=>tl σ H fun x H1=>Ho K R x H1
inductive Kd (K:NY) (R:It->Hp->Prop) (x:V) (H1:Hp):Prop | mk (a:_) (e0:x= .ref a) (e1:(∃xs,N1 K H1 a xs)) (q:R (Qd K a) H1)
theorem bC {l:Expr}{tl:TE}(hl:PE X l tl):PI X tg l (HZ X.K tl):=by
 intro NV s σ H R I h
 refine N0 (hl NV s σ H _ I h) fun v s1 ⟨x,H1,I1,r1,q1⟩=>?_
 obtain⟨a,e,⟨xs,hq⟩,q⟩:=q1
 subst e
 cases r1
 obtain⟨its,rv,p,hz⟩:=I1.list hq
 refine Mp p.isList ?_
 refine⟨s1.heap.objs.size,[s1.heap.objs.size],_,_,H1,rfl,I1.kept (t':=s1.toks) fun b o e=>Kq _ e,Co a _,⟨_,K7 _ rfl,rfl,rfl⟩,fun b hb=>?_,q⟩
 have e:b=s1.heap.objs.size:=by simpa using hb
 subst e
 exact I1.jg (Kn _) (I1.hok.fresh (Kn _))
theorem C1 {NV:List (Addr×Obj)}{σ:St}{H:Hp}{s:Shared}{R:It->Hp->Prop}{E:Value->Shared->Prop}{lo hi:Int}{t u v:Tok}{tk:Nat}(I:Inv X NV σ H s) (h1: -(2 ^ 62)<=lo) (h2:lo < 2 ^ 62) (h3: -(2 ^ 62)<=hi) (h4:hi < 2 ^ 62)
  (q:R (Pa lo (hi - lo).toNat) H):wpAny (model X.prog X.w) X.A (pyIter (.ref s.heap.objs.size)) (PK X NV σ tg R) E { s with heap:=s.heap.push { cls:= .type "range",data:= .fields #[.int lo t,.int hi u,.int 1 v] },toks:=tk }:=by
 refine wpAny_pyIter_range (IsRange.new ..) (small_one h1 h2 h3 h4) ?_
 have I1:Inv X NV σ H { s with heap:=s.heap.push { cls:= .type "range",data:= .fields #[.int lo t,.int hi u,.int 1 v] },toks:=tk }:=I.kept fun b o e=>Kq _ e
 refine⟨(s.heap.push { cls:= .type "range",data:= .fields #[.int lo t,.int hi u,.int 1 v] }).objs.size,[(s.heap.push { cls:= .type "range",data:= .fields #[.int lo t,.int hi u,.int 1 v] }).objs.size],_,_,H,rfl,
  I1.kept (t':=tk) fun b o e=>Kq _ e,AA _ lo (hi - lo).toNat,?_,fun b hb=>?_,q⟩
 .have e1:lo+((0:Nat):Int)*1=lo:=by simp
  have e2:(((hi - lo).toNat:Nat):Int) - ((0:Nat):Int)=Builtin.Range.rangeSize lo hi 1:=by rw[rangeSize_one]; split <;> omega
  show IsRangeIter _ _ (lo+((0:Nat):Int)*1) ((((hi - lo).toNat:Nat):Int) - ((0:Nat):Int)) 1
  rw[e1,e2]
  exact K7 _ rfl
 .have e:b=(s.heap.push { cls:= .type "range",data:= .fields #[.int lo t,.int hi u,.int 1 v] }).objs.size:=by simpa using hb
  subst e
  exact I1.jg (Kn _) (I1.hok.fresh (Kn _))
inductive G7 (R:It->Hp->Prop) (vs:List V) (H1:Hp):Prop | mk (j:Int) (e0:vs=[.int j]) (e1: -(2 ^ 62)<=j) (e2:j < 2 ^ 62) (q:R (Pa 0 j.toNat) H1)
def HM (ta:TA):TI:=fun σ H R=>ta σ H fun vs H1=>G7 R vs H1
inductive JR (R:It->Hp->Prop) (vs:List V) (H1:Hp):Prop | mk (i j:Int) (e0:vs=[.int i,.int j]) (e1:(-(2 ^ 62)<=i/\i < 2 ^ 62/\ -(2 ^ 62)<=j/\j < 2 ^ 62)) (q:R (Pa i (j - i).toNat) H1)
theorem b6 {a:Expr}{ta:TA}{p pos:Pos}(hg:Gl X "range") (hm:X.mg "range" = none) (ha:PA X [a] ta) (hs:starEach [a] X.env=[(false,eval a X.env)]:=by rfl):PI X tg (.Call (.Name "range" p) [a] [] pos) (HM ta):=by
 intro NV s σ H R I h
 refine Call_ (m9 I hg hm boot_range (Ma (N0 (ha pos NV s σ H _ I h) fun us s1 ⟨vs,H1,I1,r1,q1⟩=>?_) hs rfl))
 obtain⟨j,e,q1,q2,q⟩:=q1
 subst e
 cases r1 with
 | cons r rr =>
  cases rr
  obtain⟨t,rfl⟩:=r
  exact call_range_1 (C1 I1 (by omega) (by omega) q1 q2 (by simpa using q))
def Jj (wi:TI) (g:TG) (tb:TS):TS:=fun D σ H=>wi σ H fun J H1=> ∃W:Nat->Nat->St->Hp->Prop,(∃m,W 0 m σ H1)/\ ∀i m σ H,W i m σ H ->
 (J.stop i H/\D.nx σ H)\/(J.go i H/\ ∃N:St->Hp->Prop,(∀σ' H',N σ' H'-> ∃m',m' < m/\W (i+1) m' σ' H')/\ ∀x H',J.yld i H x H'->g x σ H' fun σ2 H2=>tb { D with nx:=N,ct:=N,bk:=D.nx } σ2 H2)
def sN (fp:List Addr) (h:Heap):List (Addr×Obj):=fp.filterMap fun b=>(h.get? b).map fun o=>(b,o)
theorem mL {fp:List Addr}{h:Heap}{b:Addr}{o:Obj}(hb:b∈fp) (e:h.get? b=some o):(b,o)∈sN fp h:=Mv.mpr ⟨b,hb,by rw[e]; rfl⟩
theorem Bl {fp:List Addr}{h:Heap}{p:Addr×Obj}(hp:p∈sN fp h):p.1∈fp/\h.get? p.1=some p.2:=by
 obtain⟨b,hb,e⟩:=Mv.mp hp
 cases q:h.get? b with
 | none=>rw[q] at e; cases e
 | some o =>
  rw[q] at e
  have e':(b,o)=p:=KJ e
  subst e'
  exact⟨hb,q⟩
theorem Inv.pinned {NV:List (Addr×Obj)}{σ:St}{H:Hp}{s:Shared}{fp:List Addr}(I:Inv X NV σ H s) (hf: ∀b∈fp,cA X NV H b) (ho: ∀b∈fp,∃o,s.heap.get? b=some o/\ ∀v,o.data≠ .cell v):Inv X (NV++sN fp s.heap) σ H s :=
 I.kI fun p hp=>(Kz.mp hp).elim (fun z=>I.pin p (K0 _ z)) fun z=>by
  obtain⟨hb,e⟩:=Bl z
  obtain⟨f0,f1,f2,_⟩:=hf p.1 hb
  obtain⟨o,e',d⟩:=ho p.1 hb
  rw[e] at e'; cases e'
  exact⟨e,f0,f1,f2,d⟩
theorem Inv.uD {NV pl:List (Addr×Obj)}{σ:St}{H:Hp}{s:Shared}(I:Inv X (NV++pl) σ H s):Inv X NV σ H s:=I.kI fun p hp=>I.pin p (K0 _ (Lj _ hp))
theorem bP {iter:Expr}{body:List Stmt}{wi:TI}{g:TG}{tb:TS}{pos:Pos}(hp:PassesOwn (model X.prog X.w) X.A X.env X.xe) (hc:X.calm=true) (hi:PI X tg iter wi) (hg:PG X tg g) (hb:Ol X body tb)
  (hs: ∀x,foldedSetIterable iter X.env x=pure x:=by intro _; rfl):PS X (.For tg iter body [] pos) (Jj wi g tb):=by
 intro NV s σ H D I h
 refine wpAny_For (N0 (hi NV s σ H _ I h) fun v s1 h1=>N0 h1 fun itv s2 h2=>?_) hs
 obtain⟨it,fp,tn,J,H2,e,I2,T,st2,f2,W,⟨m0,w0⟩,turn⟩:=h2
 subst e
 have stat: ∀ {H':Hp},(∀b∈fp,H' b=none)-> ∀b∈fp,cA X NV H' b:=fun hn b hb=>⟨hn b hb,(f2 b hb).2⟩
 refine codeAny_forLoop_any (fun n s'=> ∃i σ' H',Inv X NV σ' H' s'/\tn i s'.heap/\(∀b∈fp,H' b=none)/\W i n σ' H') ?_ m0 ⟨0,σ,H2,I2,st2,fun b hb=>(f2 b hb).1,w0⟩
 rintro n s3 ⟨i,σ3,H3,I3,st3,fr3,w3⟩
 rcases turn i n σ3 H3 w3 with⟨stop,qn⟩ | ⟨go,N,hN,step⟩
 .refine Mm hp (N0 (T.done X rfl rfl rfl hc i NV s3 σ3 H3 X.xe I3 (stat fr3) st3 stop) fun r s4 ⟨hr,I4⟩=>?_)
  subst hr
  exact Nd ⟨σ3,H3,I4,qn⟩
 .refine Mm hp (N0 (T.item X rfl rfl rfl hc i NV s3 σ3 H3 X.xe I3 (stat fr3) st3 go) fun r s4 ⟨u,hr,h4⟩=>?_)
  subst hr
  refine Mm hp (N0 h4 fun _ s5 ⟨x,H5,I5,r5,y5,st5,fr5⟩=>?_)
  have I5':=I5.pinned (stat fr5) (T.obj _ _ st5)
  refine Mm hp (N0 (hg _ s5 σ3 H5 x u _ I5' r5 (step x H5 y5)) fun _ s6 ⟨σ6,H6,I6,q6⟩=>?_)
  refine Mm hp (N0 (hb _ s6 σ6 H6 _ I6 q6) fun f s7 q7=>?_)
  have again: ∀ {σ7:St}{H7:Hp},Inv X (NV++sN fp s5.heap) σ7 H7 s7->N σ7 H7-> ∃m,m < n/\ ∃i σ' H',Inv X NV σ' H' s7/\tn i s7.heap/\(∀b∈fp,H' b=none)/\W i m σ' H':=fun {σ7 H7} I7 n7=>by
   obtain⟨m',hm,w7⟩:=hN σ7 H7 n7
   refine⟨m',hm,i+1,σ7,H7,I7.uD,T.keep _ _ _ st5 fun b hb o e=>(I7.pin (b,o) (K0 _ (K0 _ (mL hb e)))).1,fun b hb=>?_,w7⟩
   obtain⟨o,e,d⟩:=T.obj _ _ st5 b hb
   exact (I7.pin (b,o) (K0 _ (K0 _ (mL hb e)))).2.1
  cases f with
  | next=>obtain⟨σ7,H7,I7,n7⟩:=q7; exact again I7 n7
  | cont=>obtain⟨σ7,H7,I7,n7⟩:=q7; exact again I7 n7
  | brk=>obtain⟨σ7,H7,I7,q7⟩:=q7; exact⟨σ7,H7,I7.uD,q7⟩
  | ret v=>obtain⟨x7,σ7,H7,I7,r7,q7⟩:=q7; exact⟨x7,σ7,H7,I7.uD,r7,q7⟩
end
abbrev R2:=V->V->Hp->VK->Prop
def N7 (X:Cx) (f:Value->Value->Sem Value) (r:R2):Prop :=
 ∀(NV:List (Addr×Obj)) (s:Shared) (σ:St) (H:Hp) (x y:V) (v u:Value) (Q:VK),Inv X NV σ H s->RelV x v->RelV y u->r x y H Q ->
  wpAny (model X.prog X.w) X.A (f v u) (EP X NV σ Q) X.xe s
def Px (X:Cx) (f:Value->Sem Value) (r:V->Hp->VK->Prop):Prop :=
 ∀(NV:List (Addr×Obj)) (s:Shared) (σ:St) (H:Hp) (x:V) (v:Value) (Q:VK),Inv X NV σ H s->RelV x v->r x H Q ->
  wpAny (model X.prog X.w) X.A (f v) (EP X NV σ Q) X.xe s
def de (X:Cx) (f:Value) (r:List V->Hp->VK->Prop):Prop :=
 ∀(NV:List (Addr×Obj)) (s:Shared) (σ:St) (H:Hp) (xs:List V) (us:List Value) (Q:VK),Inv X NV σ H s->Vals xs us->r xs H Q ->
  wpAny (model X.prog X.w) X.A (call f us) (EP X NV σ Q) X.xe s
def Jb (X:Cx) (r:V->Hp->(Bool->Hp->Prop)->Prop):Prop :=
 ∀(NV:List (Addr×Obj)) (s:Shared) (σ:St) (H:Hp) (x:V) (v:Value) (Q:Bool->Hp->Prop),Inv X NV σ H s->RelV x v->r x H Q ->
  wpAny (model X.prog X.w) X.A (truthy v) (TP X NV σ Q) X.xe s
def OX (r:R2) (ta tb:TE):TE:=fun σ H Q=>ta σ H fun x H1=>tb σ H1 fun y H2=>r x y H2 Q
def P4 (r:V->Hp->VK->Prop) (ta:TE):TE:=fun σ H Q=>ta σ H fun x H1=>r x H1 Q
inductive PY (C:Int->Int->Prop) (g:Int->Int->V) (x y:V) (H:Hp) (Q:VK):Prop | mk (i j:_) (e0:x= .int i) (e1:y= .int j) (e2:C i j) (q:Q (g i j) H)
def rI (C:Int->Int->Prop) (g:Int->Int->V):R2:=fun x y H Q=>PY C g x y H Q
inductive JB (g:Int->Int->V) (x y:V) (H:Hp) (Q:VK):Prop | mk (i j:_) (e0:x= .int i) (e1:y= .int j) (q:Q (g i j) H)
def O2 (g:Int->Int->V):R2:=fun x y H Q=>JB g x y H Q
inductive Qb (g:Int->V) (x:V) (H:Hp) (Q:VK):Prop | mk (i:_) (e0:x= .int i) (q:Q (g i) H)
def rU (g:Int->V):V->Hp->VK->Prop:=fun x H Q=>Qb g x H Q
section
variable {X:Cx}{a b c:Expr}{ta tb tc:TE}{pos:Pos}
theorem Dw (ha:PE X a ta) (hb:PE X b tb){NV:List (Addr×Obj)}{s:Shared}{σ:St}{H:Hp}{R:V->V->Hp->Prop}(I:Inv X NV σ H s)
  (h:ta σ H fun x H1=>tb σ H1 fun y H2=>R x y H2) {Q:Value->Shared->Prop}{f:Value->Value->Sem Value}
  (hf: ∀v u s2 x y H2,Inv X NV σ H2 s2->RelV x v->RelV y u->R x y H2->wpAny (model X.prog X.w) X.A (f v u) Q X.xe s2) :
  wpAny (model X.prog X.w) X.A (eval a X.env) (fun v s₁=>wpAny (model X.prog X.w) X.A (eval b X.env) (fun u s₂=>wpAny (model X.prog X.w) X.A (f v u) Q X.xe s₂) X.xe s₁) X.xe s:=by
 refine N0 (ha NV s σ H _ I h) fun v s1 ⟨x,H1,I1,r1,q1⟩=>?_
 refine N0 (hb NV s1 σ H1 _ I1 q1) fun u s2 ⟨y,H2,I2,r2,q2⟩=>?_
 exact hf v u s2 x y H2 I2 r1 r2 q2
theorem ay {op:Operator}{r:R2}(ho:N7 X (binaryOp op) r) (ha:PE X a ta) (hb:PE X b tb):PE X (.BinOp a op b pos) (OX r ta tb):=by
 intro NV s σ H Q I h
 exact wpAny_BinOp (Dw ha hb I h fun v u s2 x y H2 I2 rx ry q=>ho NV s2 σ H2 x y v u Q I2 rx ry q)
theorem xi {op:UnaryOp}{r:V->Hp->VK->Prop}(ho:Px X (unaryOp op) r) (ha:PE X a ta):PE X (.UnaryOp op a pos) (P4 r ta):=by
 intro NV s σ H Q I h
 exact UnaryOp_ (N0 (ha NV s σ H _ I h) fun v s1 ⟨x,H1,I1,r1,q1⟩=>ho NV s1 σ H1 x v Q I1 r1 q1)
theorem Pg {f:Value->Value->Sem Value}{C:Int->Int->Prop}{g:Int->Int->Int}
  (rule: ∀(i j:Int) (t u:Tok) (s:Shared) (Q:Value->Shared->Prop) (E:Value->Shared->Prop),C i j->Q (.int (g i j) s.toks) { s with toks:=s.toks+1 }->wpAny (model X.prog X.w) X.A (f (.int i t) (.int j u)) Q E s) :
  N7 X f (rI C fun i j=> .int (g i j)):=by
 intro NV s σ H x y v u Q I rx ry h
 obtain⟨i,j,rfl,rfl,hc,q⟩:=h
 obtain⟨t,rfl⟩:=rx
 obtain⟨t',rfl⟩:=ry
 exact rule i j t t' s _ _ hc ⟨.int (g i j),H,I.tok _,⟨_,rfl⟩,q⟩
theorem GL {f:Value->Value->Sem Value}{g:Int->Int->Int}
  (rule: ∀(i j:Int) (t u:Tok) (s:Shared) (Q:Value->Shared->Prop) (E:Value->Shared->Prop),Q (.int (g i j) s.toks) { s with toks:=s.toks+1 }->wpAny (model X.prog X.w) X.A (f (.int i t) (.int j u)) Q E s) :
  N7 X f (O2 fun i j=> .int (g i j)):=by
 intro NV s σ H x y v u Q I rx ry h
 obtain⟨i,j,rfl,rfl,q⟩:=h
 obtain⟨t,rfl⟩:=rx
 obtain⟨t',rfl⟩:=ry
 exact rule i j t t' s _ _ ⟨.int (g i j),H,I.tok _,⟨_,rfl⟩,q⟩
theorem z8 {f:Value->Value->Sem Value}{g:Int->Int->Bool}
  (rule: ∀(i j:Int) (t u:Tok) (s:Shared) (Q:Value->Shared->Prop) (E:Value->Shared->Prop),Q (.bool (g i j)) s->wpAny (model X.prog X.w) X.A (f (.int i t) (.int j u)) Q E s) :
  N7 X f (O2 fun i j=> .bl (g i j)):=by
 intro NV s σ H x y v u Q I rx ry h
 obtain⟨i,j,rfl,rfl,q⟩:=h
 obtain⟨t,rfl⟩:=rx
 obtain⟨t',rfl⟩:=ry
 exact rule i j t t' s _ _ ⟨.bl (g i j),H,I,rfl,q⟩
def Jd (i j:Int):Prop:=0 < j/\j < 1073741824
def Jh (i j:Int):Prop:=0<=j/\j<=1000000/\i.natAbs < 2 ^ 64
def D4 (i j:Int):Prop:=(-(2 ^ 64) < i/\i < 2 ^ 64)\/(-(2 ^ 64) < j/\j < 2 ^ 64)
theorem D4.ok {i j:Int}(h:D4 i j):IntMulOk i j:=by
 rcases h with⟨h1,h2⟩ | ⟨h1,h2⟩
 .exact .of_left (intBits_le_64 h1 h2)
 .exact .of_right (intBits_le_64 h1 h2)
theorem bN:N7 X (binaryOp .Add) (O2 fun i j=> .int (i+j)):=GL fun _ _ _ _ _ _ _ q=>add_int q
theorem jJ:N7 X (binaryOp .Sub) (O2 fun i j=> .int (i - j)):=GL fun _ _ _ _ _ _ _ q=>sub_int q
theorem yr:N7 X (binaryOp .Mult) (rI D4 fun i j=> .int (i*j)):=Pg fun _ _ _ _ _ _ _ hc q=>mul_int q hc.ok
theorem bR:N7 X (binaryOp .FloorDiv) (rI Jd fun i j=> .int (i / j)):=Pg fun i j _ _ _ _ _ hc q=>by
 have h1:(0:Int) < j:=hc.1
 have h2:j < 1073741824:=hc.2
 exact floordiv_int (by omega) (by rw[Nw i (by omega)]; exact q) (.inl (PyProof.noPylong_small (by omega)))
theorem bD:N7 X (binaryOp .Mod) (rI (fun _ j=>0 < j) fun i j=> .int (i % j)):=Pg fun i j _ _ _ _ _ hc q=>by
 have h1:(0:Int) < j:=hc
 exact mod_int' (by omega) (by rw[Int.fmod_eq_emod_of_nonneg i (by omega)]; exact q)
theorem uS:N7 X (binaryOp .Pow) (rI Jh fun i j=> .int (i ^ j.toNat)):=Pg fun _ _ _ _ _ _ _ hc q=>pow_int_small hc.1 hc.2.1 hc.2.2 q
theorem P0 {f:Value->Sem Value}{g:Int->Int}
  (rule: ∀(i:Int) (t:Tok) (s:Shared) (Q:Value->Shared->Prop) (E:Value->Shared->Prop),Q (.int (g i) s.toks) { s with toks:=s.toks+1 }->wpAny (model X.prog X.w) X.A (f (.int i t)) Q E s) :
  Px X f (rU fun i=> .int (g i)):=by
 intro NV s σ H x v Q I rx h
 obtain⟨i,rfl,q⟩:=h
 obtain⟨t,rfl⟩:=rx
 exact rule i t s _ _ ⟨.int (g i),H,I.tok _,⟨_,rfl⟩,q⟩
theorem u9:Px X (unaryOp .USub) (rU fun i=> .int (-i)):=P0 fun _ _ _ _ _ q=>neg_int q
end
def GU:V->V->Bool
 | .non,.non=>true | .non,.int _=>true | .int _,.non=>true | .non,.bl _=>true | .bl _,.non=>true | .non,.str _=>true | .str _,.non=>true
 | .int _,.int _=>true | .bl _,.bl _=>true | .str _,.str _=>true | .byt _,.byt _=>true
 | .int _,.str _=>true | .str _,.int _=>true | .bl _,.str _=>true | .str _,.bl _=>true
 | _,_=>false
def PM:R2:=fun x y H Q=>GU x y=true/\Q (.bl (decide (x=y))) H
def P1:R2:=fun x y H Q=>GU x y=true/\Q (.bl (!decide (x=y))) H
theorem zL {i j:Int}:decide (V.int i=V.int j)=(i == j):=by
 rw[Md]
 simp
theorem Cg {i j:Bool}:decide (V.bl i=V.bl j)=(i == j):=by
 rw[Md]
 simp
theorem zT {i j:Str}:decide (V.str i=V.str j)=(i == j):=by
 rw[Md]
 simp
theorem zH {i j:Array UInt8}:decide (V.byt i=V.byt j)=(i.toList == j.toList):=by
 rw[Md]
 cases i
 cases j
 simp
section
variable {X:Cx}{a b c:Expr}{ta tb tc:TE}{pos:Pos}
theorem bI {NV:List (Addr×Obj)}{σ:St}{H:Hp}{s:Shared}{Q:VK}{k k':Bool}(I:Inv X NV σ H s) (q:Q (.bl k) H) (e:k=k'):EP X NV σ Q (.bool k') s:=by
 subst e
 exact⟨.bl k,H,I,rfl,q⟩
theorem bh:N7 X (compareOp .Eq) PM:=by
 intro NV s σ H x y v u Q I rx ry h
 obtain⟨hs,q⟩:=h
 cases x with
 | non =>
  cases rx
  cases y with
  | non=>cases ry; exact PySem.EqNone.eq_none_none (bI I q (by simp))
  | bl j=>cases ry; exact PySem.EqNone.eq_none_bool (bI I q (by simp))
  | int j=>obtain⟨t',rfl⟩:=ry; exact PySem.EqNone.eq_none_int (bI I q (by simp))
  | str j=>obtain⟨t',rfl⟩:=ry; exact PySem.EqNone.eq_none_str (bI I q (by simp))
  | _=>exact absurd (show false=true from hs) KG
 | bl i =>
  cases rx
  cases y with
  | non=>cases ry; exact PySem.EqNone.eq_bool_none (bI I q (by simp))
  | bl j=>cases ry; exact eq_bool (bI I q Cg)
  | str j=>obtain⟨t',rfl⟩:=ry; exact PySem.EqMixed.eq_bool_str (bI I q (by simp))
  | _=>exact absurd (show false=true from hs) KG
 | int i =>
  obtain⟨t,rfl⟩:=rx
  cases y with
  | non=>cases ry; exact PySem.EqNone.eq_int_none (bI I q (by simp))
  | int j=>obtain⟨t',rfl⟩:=ry; exact eq_int (bI I q zL)
  | str j=>obtain⟨t',rfl⟩:=ry; exact PySem.EqMixed.eq_int_str (bI I q (by simp))
  | _=>exact absurd (show false=true from hs) KG
 | str i =>
  obtain⟨t,rfl⟩:=rx
  cases y with
  | non=>cases ry; exact PySem.EqNone.eq_str_none (bI I q (by simp))
  | bl j=>cases ry; exact PySem.EqMixed.eq_str_bool (bI I q (by simp))
  | int j=>obtain⟨t',rfl⟩:=ry; exact PySem.EqMixed.eq_str_int (bI I q (by simp))
  | str j=>obtain⟨t',rfl⟩:=ry; exact eq_str (bI I q zT)
  | _=>exact absurd (show false=true from hs) KG
 | byt i =>
  obtain⟨t,rfl⟩:=rx
  cases y with
  | byt j=>obtain⟨t',rfl⟩:=ry; exact PySem.W.eq_bytes (bI I q zH)
  | _=>exact absurd (show false=true from hs) KG
 | _=>cases y <;> exact absurd (show false=true from hs) KG
theorem gP:N7 X (compareOp .NotEq) P1:=by
 intro NV s σ H x y v u Q I rx ry h
 obtain⟨hs,q⟩:=h
 cases x with
 | non =>
  cases rx
  cases y with
  | non=>cases ry; exact PySem.EqNone.ne_none_none (bI I q (by simp))
  | bl j=>cases ry; exact PySem.EqNone.ne_none_bool (bI I q (by simp))
  | int j=>obtain⟨t',rfl⟩:=ry; exact PySem.EqNone.ne_none_int (bI I q (by simp))
  | str j=>obtain⟨t',rfl⟩:=ry; exact PySem.EqNone.ne_none_str (bI I q (by simp))
  | _=>exact absurd (show false=true from hs) KG
 | bl i =>
  cases rx
  cases y with
  | non=>cases ry; exact PySem.EqNone.ne_bool_none (bI I q (by simp))
  | bl j=>cases ry; exact ne_bool (bI I q (Lm not Cg))
  | str j=>obtain⟨t',rfl⟩:=ry; exact PySem.EqMixed.ne_bool_str (bI I q (by simp))
  | _=>exact absurd (show false=true from hs) KG
 | int i =>
  obtain⟨t,rfl⟩:=rx
  cases y with
  | non=>cases ry; exact PySem.EqNone.ne_int_none (bI I q (by simp))
  | int j=>obtain⟨t',rfl⟩:=ry; exact ne_int (bI I q (Lm not zL))
  | str j=>obtain⟨t',rfl⟩:=ry; exact PySem.EqMixed.ne_int_str (bI I q (by simp))
  | _=>exact absurd (show false=true from hs) KG
 | str i =>
  obtain⟨t,rfl⟩:=rx
  cases y with
  | non=>cases ry; exact PySem.EqNone.ne_str_none (bI I q (by simp))
  | bl j=>cases ry; exact PySem.EqMixed.ne_str_bool (bI I q (by simp))
  | int j=>obtain⟨t',rfl⟩:=ry; exact PySem.EqMixed.ne_str_int (bI I q (by simp))
  | str j=>obtain⟨t',rfl⟩:=ry; exact ne_str (bI I q (Lm not zT))
  | _=>exact absurd (show false=true from hs) KG
 | byt i =>
  obtain⟨t,rfl⟩:=rx
  cases y with
  | byt j=>obtain⟨t',rfl⟩:=ry; exact PySem.W.ne_bytes (bI I q (Lm not zH))
  | _=>exact absurd (show false=true from hs) KG
 | _=>cases y <;> exact absurd (show false=true from hs) KG
theorem oq:N7 X (compareOp .Lt) (O2 fun i j=> .bl (decide (i < j))):=z8 fun _ _ _ _ _ _ _ q=>lt_int q
theorem Ez:N7 X (compareOp .LtE) (O2 fun i j=> .bl (decide (i<=j))):=z8 fun _ _ _ _ _ _ _ q=>le_int q
theorem tw:N7 X (compareOp .Gt) (O2 fun i j=> .bl (decide (j < i))):=z8 fun _ _ _ _ _ _ _ q=>gt_int q
theorem xg:N7 X (compareOp .GtE) (O2 fun i j=> .bl (decide (j<=i))):=z8 fun _ _ _ _ _ _ _ q=>ge_int q
theorem lL:N7 X (compareOp .Is) (fun x y H Q=>y= .non/\Q (.bl (decide (x= .non))) H):=by
 intro NV s σ H x y v u Q I rx ry h
 obtain⟨rfl,q⟩:=h
 cases ry
 refine is_none_gen (bI I q ?_)
 cases x <;> first
  | (cases rx; rfl)
  | (obtain⟨t,rfl⟩:=rx; rfl)
theorem fj:N7 X (compareOp .IsNot) (fun x y H Q=>y= .non/\Q (.bl (!decide (x= .non))) H):=by
 intro NV s σ H x y v u Q I rx ry h
 obtain⟨rfl,q⟩:=h
 cases ry
 refine isnot_none_gen (bI I q ?_)
 cases x <;> first
  | (cases rx; rfl)
  | (obtain⟨t,rfl⟩:=rx; rfl)
theorem aA (b:Expr){op:CmpOp}(h:op≠ .In:=by decide) (h2:op≠ .NotIn:=by decide):behindInMarks op b=false:=by
 have e1:(op == CmpOp.In)=false:=by cases op <;> first | rfl | exact absurd rfl h
 have e2:(op == CmpOp.NotIn)=false:=by cases op <;> first | rfl | exact absurd rfl h2
 cases b <;> simp[behindInMarks,e1,e2]
theorem dX {op:CmpOp}{r:R2}(ho:N7 X (compareOp op) r) (ha:PE X a ta) (hb:PE X b tb) (hm:behindInMarks op b=false):PE X (.Compare a [op] [b] pos) (OX r ta tb):=by
 intro NV s σ H Q I h
 exact wpAny_Compare1 (Dw ha hb I h fun v u s2 x y H2 I2 rx ry q=>ho NV s2 σ H2 x y v u Q I2 rx ry q) hm
inductive Hg (Q:Bool->Hp->Prop) (x:V) (H':Hp):Prop | mk (k:_) (e0:x= .bl k) (q:Q k H')
def EB (t:TE):TT:=fun σ H Q=>t σ H fun x H'=>Hg Q x H'
theorem aw {op:CmpOp}{r:R2}(ho:N7 X (compareOp op) r) (ha:PE X a ta) (hb:PE X b tb) (hm:behindInMarks op b=false):PT X (.Compare a [op] [b] pos) (EB (OX r ta tb)):=by
 intro NV s σ H Q I h
 refine wpAny_isTrue_Compare1 (N0 (ha NV s σ H _ I h) fun v s1 ⟨x,H1,I1,r1,q1⟩=>N0 (hb NV s1 σ H1 _ I1 q1) fun u s2 ⟨y,H2,I2,r2,q2⟩ =>
  N0 (ho NV s2 σ H2 x y v u _ I2 r1 r2 q2) fun c s3 ⟨z,H3,I3,r3,k,e,q3⟩=>?_) hm
 subst e
 cases r3
 exact LL ⟨H3,I3,q3⟩
inductive FU (r':R2) (tc:TE) (σ:St) (Q:VK) (y z:V) (H3:Hp):Prop | mk (k:_) (e0:z= .bl k) (q:(if k=true then tc σ H3 fun w' H4=>r' y w' H4 Q else Q (.bl false) H3))
def GN (r r':R2) (ta tb tc:TE):TE:=fun σ H Q=>ta σ H fun x H1=>tb σ H1 fun y H2=>r x y H2 fun z H3=>FU r' tc σ Q y z H3
theorem yt {op op':CmpOp}{r r':R2}(ho:N7 X (compareOp op) r) (ho':N7 X (compareOp op') r') (ha:PE X a ta) (hb:PE X b tb) (hc:PE X c tc)
  (hm:lastMarks [op,op'] [b,c]=false:=by with_unfolding_all rfl):PE X (.Compare a [op,op'] [b,c] pos) (GN r r' ta tb tc):=by
 intro NV s σ H Q I h
 refine Compare_chain (N0 (ha NV s σ H _ I h) fun v s1 ⟨x,H1,I1,r1,q1⟩=>chain_link (N0 (hb NV s1 σ H1 _ I1 q1) fun u s2 ⟨y,H2,I2,r2,q2⟩ =>
  N0 (ho NV s2 σ H2 x y v u _ I2 r1 r2 q2) fun d s3 ⟨z,H3,I3,r3,k,e,q3⟩=>?_)) hm
 subst e
 cases r3
 refine LL ?_
 cases k with
 | false=>exact ite_ff ⟨.bl false,H3,I3,rfl,q3⟩
 | true=>exact ite_tt (chain_last (N0 (hc NV s3 σ H3 _ I3 q3) fun w' s4 ⟨z',H4,I4,r4,q4⟩=>ho' NV s4 σ H4 y z' u w' Q I4 r2 r4 q4))
def Aw (K:NY) (x:V) (H:Hp) (k:Bool):Prop :=
 match x with
 | .non=>k=false
 | .bl b=>k=b
 | .int i=>k=(i !=0)
 | .str y=>y.length<=sizeLine/\k=((y.length:Int) !=0)
 | .byt y=>y.size<=sizeLine/\k=((y.size:Int) !=0)
 | .ref p=>(∃xs,NX K H p xs/\k= !xs.isEmpty)\/(∃xs,N1 K H p xs/\k= !xs.isEmpty)\/ ∃kvs,H p=some (.dK kvs)/\k= !kvs.isEmpty
 | _=>False
theorem Aj {κ:Type}{kvs:List (κ×V)}{vs:List (κ×Value)}(r:KV kvs vs):(!vs.isEmpty)= !kvs.isEmpty:=by
 cases r <;> rfl
theorem uI {xs:List V}{its:List Value}(r:Vals xs its):(!its.toArray.isEmpty)= !xs.isEmpty:=by
 cases r <;> simp
theorem pA:(sizeLine:Nat) < 2 ^ 63:=by rw[Np]; decide
theorem HC:Jb X (fun x H Q=> ∃k,Aw X.K x H k/\Q k H):=by
 intro NV s σ H x v Q I rx h
 obtain⟨k,e,q⟩:=h
 have hl:=pA
 have hs:sizeLine=16777216:=Np
 cases x with
 | non =>
  cases rx
  have e':k=false:=e
  subst e'
  exact truthy_none ⟨H,I,q⟩
 | bl b =>
  cases rx
  have e':k=b:=e
  subst e'
  exact LL ⟨H,I,q⟩
 | int i =>
  obtain⟨t,rfl⟩:=rx
  have e':k=(i !=0):=e
  subst e'
  exact PySem.P.truthy_int ⟨H,I,q⟩
 | str y =>
  obtain⟨t,rfl⟩:=rx
  obtain⟨hy,e'⟩:y.length<=sizeLine/\k=((y.length:Int) !=0):=e
  subst e'
  exact PySem.P.truthy_str (by omega) ⟨H,I.tok _,q⟩
 | byt y =>
  obtain⟨t,rfl⟩:=rx
  obtain⟨hy,e'⟩:y.size<=sizeLine/\k=((y.size:Int) !=0):=e
  subst e'
  exact PySem.W.truthy_bytes (by omega) ⟨H,I.tok _,q⟩
 | ref p =>
  cases rx
  have e':(∃xs,NX X.K H p xs/\k= !xs.isEmpty)\/(∃xs,N1 X.K H p xs/\k= !xs.isEmpty)\/ ∃kvs,H p=some (.dK kvs)/\k= !kvs.isEmpty:=e
  rcases e' with⟨xs,hx,e'⟩ | ⟨xs,hx,e'⟩ | ⟨kvs,hx,e'⟩
  .subst e'
   obtain⟨its,r,pl,hz⟩:=I.list hx
   have hlen:=r.length
   exact wpAny_truthy_list pl.isList (by simp only[KC]; omega) ⟨H,I.tok _,by rw[uI r]; exact q⟩
  .subst e'
   obtain⟨its,r,pl,hz⟩:=I.tuple hx
   have hlen:=r.length
   exact truthy_tuple pl (by simp only[KC]; omega) ⟨H,I.tok _,by rw[uI r]; exact q⟩
  .subst e'
   obtain⟨hz,hS,vs,r,m⟩:kvs.length<=sizeLine/\(p == sysModules)=false/\ ∃vs,KV kvs vs/\s.heap.DictOf (cF X.prog X.w) p vs:=I.hok p _ hx
   have hlen:kvs.length=vs.length:=Nv r
   exact wpAny_truthy_dict hS m (by omega) ⟨H,I.tok _,by rw[Aj r]; exact q⟩
 | _=>exact (show False from e).elim
theorem ba (ha:PE X a ta) (he: ∀whole,isTrue a X.env whole=(do let v <-whole; standAt a.pos; holding [v] (truthy v))) :
  PT X a (fun σ H Q=>ta σ H fun x H'=> ∃k,Aw X.K x H' k/\Q k H'):=by
 intro NV s σ H Q I h
 exact isTrue_plain (N0 (ha NV s σ H _ I h) fun v s1 ⟨x,H1,I1,r1,q1⟩=>HC NV s1 σ H1 x v Q I1 r1 q1) (he _)
theorem mI:N7 X (binaryOp .Add) (fun x y H Q=> ∃i j,x= .str i/\y= .str j/\i.length+j.length<=sizeLine/\Q (.str (i++j)) H):=by
 intro NV s σ H x y v u Q I rx ry h
 obtain⟨i,j,rfl,rfl,hz,q⟩:=h
 obtain⟨t,rfl⟩:=rx
 obtain⟨t',rfl⟩:=ry
 exact add_str (fun t' tk=>⟨.str (i++j),H,I.tok _,⟨_,rfl⟩,q⟩) hz
theorem vals1 {x:V}{us:List Value}(r:Vals [x] us): ∃u,us=[u]/\RelV x u:=by
 cases r with
 | cons r1 r2=>cases r2; exact⟨_,rfl,r1⟩
theorem vals2 {x y:V}{us:List Value}(r:Vals [x,y] us): ∃u w',us=[u,w']/\RelV x u/\RelV y w':=by
 cases r with
 | cons r1 r2 =>
  cases r2 with
  | cons r3 r4=>cases r4; exact⟨_,_,rfl,r1,r3⟩
theorem jC (hc:X.calm=true):de X (.builtin "max") (fun xs H Q=> ∃i j,xs=[.int i,.int j]/\Q (.int (if j > i then j else i)) H):=by
 intro NV s σ H xs us Q I r h
 obtain⟨i,j,rfl,q⟩:=h
 obtain⟨u,w',rfl,⟨t,rfl⟩,⟨t',rfl⟩⟩:=vals2 r
 refine max_two_ints (I.ok.hd hc) fun h' tk k=>⟨_,H,I.kept k,?_,q⟩
 by_cases hj:j > i
 .rw[Ko hj,Ko hj]; exact⟨_,rfl⟩
 .rw[Kk hj,Kk hj]; exact⟨_,rfl⟩
theorem wG (hc:X.calm=true):de X (.builtin "min") (fun xs H Q=> ∃i j,xs=[.int i,.int j]/\Q (.int (if j < i then j else i)) H):=by
 intro NV s σ H xs us Q I r h
 obtain⟨i,j,rfl,q⟩:=h
 obtain⟨u,w',rfl,⟨t,rfl⟩,⟨t',rfl⟩⟩:=vals2 r
 refine min_two_ints (I.ok.hd hc) fun h' tk k=>⟨_,H,I.kept k,?_,q⟩
 by_cases hj:j < i
 .rw[Ko hj,Ko hj]; exact⟨_,rfl⟩
 .rw[Kk hj,Kk hj]; exact⟨_,rfl⟩
theorem gW:de X (.type "int") (fun xs H Q=>(∃i,xs=[.int i]/\Q (.int i) H)\/ ∃k,xs=[.bl k]/\Q (.int (if k then 1 else 0)) H):=by
 intro NV s σ H xs us Q I r h
 rcases h with⟨i,rfl,q⟩ | ⟨k,rfl,q⟩
 .obtain⟨u,rfl,t,rfl⟩:=vals1 r
  exact call_int_int ⟨.int i,H,I,⟨_,rfl⟩,q⟩
 .obtain⟨u,rfl,r1⟩:=vals1 r
  cases r1
  exact call_int_bool ⟨.int (if k then 1 else 0),H,I.tok _,⟨_,rfl⟩,q⟩
def Hd (K:NY) (x:V) (H:Hp) (n:Nat):Prop :=
 match x with
 | .str y=>y.length<=sizeLine/\n=y.length
 | .byt y=>y.size<=sizeLine/\n=y.size
 | .ref p=>(∃xs,NX K H p xs/\n=xs.length)\/ ∃xs,N1 K H p xs/\n=xs.length
 | _=>False
theorem Eh:de X (.builtin "len") (fun xs H Q=> ∃x n,xs=[x]/\Hd X.K x H n/\Q (.int n) H):=by
 intro NV s σ H xs us Q I r h
 obtain⟨x,n,rfl,e,q⟩:=h
 obtain⟨u,rfl,rx⟩:=vals1 r
 have hl:=pA
 have hs:sizeLine=16777216:=Np
 cases x with
 | str y =>
  obtain⟨t,rfl⟩:=rx
  obtain⟨hy,e'⟩:y.length<=sizeLine/\n=y.length:=e
  subst e'
  exact len_str (by omega) ⟨.int _,H,I.tok _,⟨_,rfl⟩,q⟩
 | byt y =>
  obtain⟨t,rfl⟩:=rx
  obtain⟨hy,e'⟩:y.size<=sizeLine/\n=y.size:=e
  subst e'
  exact PySem.W.len_bytes (by omega) ⟨.int _,H,I.tok _,⟨_,rfl⟩,q⟩
 | ref p =>
  cases rx
  have e':(∃xs,NX X.K H p xs/\n=xs.length)\/ ∃xs,N1 X.K H p xs/\n=xs.length:=e
  rcases e' with⟨xs,hx,e'⟩ | ⟨xs,hx,e'⟩
  .subst e'
   obtain⟨its,r',pl,hz⟩:=I.list hx
   have hlen:=r'.length
   exact Calls.call_len_list pl.isList (by simp only[KC]; omega) ⟨.int xs.length,H,I.tok _,⟨_,by simp only[KC]; rw[hlen]⟩,q⟩
  .subst e'
   obtain⟨its,r',pl,hz⟩:=I.tuple hx
   have hlen:=r'.length
   exact len_tuple pl (by simp only[KC]; omega) ⟨.int xs.length,H,I.tok _,⟨_,by simp only[KC]; rw[hlen]⟩,q⟩
 | _=>exact (show False from e).elim
end
structure uC (h:Heap) (x dx C:Addr) (mA:Str->Option Value):Prop where
 obj:h.get? x=some (PySem.W.instObj C dx)
 ns:h.Ns1 dx mA
 ne:dx≠x
theorem BQ {h:Heap}{dx:Addr}{mA:Str->Option Value}(n:h.Ns1 dx mA): ∃od,h.get? dx=some od/\ ∀name,PySem.W.lookIn name od=some (mA name):=by
 obtain⟨o,es,ep,ho,hd,hk,_,hm⟩:=n
 refine⟨o,ho,fun name=>?_⟩
 have e:=hm name
 unfold nsFind findBy at e
 rw[<-Array.find?_toList] at e
 unfold PySem.W.lookIn
 rw[hd]
 dsimp only
 split
 .rename_i y q
  rw[q] at e
  exact Lm some e
 .rename_i q
  rw[q] at e
  have a:es.toList.any (·.refKey)=false:=by
   rw[NC]
   intro y hy
   obtain⟨z,t,hkey⟩:=hk y (Array.mem_toList_iff.mp hy)
   simp[DictEntry.refKey,hkey]
  have a': ¬es.toList.any (·.refKey)=true:=by rw[a]; exact KG
  rw[Kk a']
  exact Lm some e
theorem uC.look {h:Heap}{x dx C:Addr}{mA:Str->Option Value}(I:uC h x dx C mA): ∃od,PySem.W.InstAt h x (PySem.W.instObj C dx) C (some od)/\ ∀name,PySem.W.lookIn name od=some (mA name) :=
 let ⟨od,ho,hl⟩:=BQ I.ns
 ⟨od,⟨I.obj,rfl,rfl,ho⟩,hl⟩
section
variable {prog:Program}{w:World}{A:Around}{E:Value->Shared->Prop}{s:Shared}{K:NY}{x dx C f:Addr}{mA:Str->Option Value}{name:Str}{v:Value}
theorem get_map {expr:Bool}{Q:Value->Shared->Prop}(X:K.In s.heap) (I:uC s.heap x dx C mA) (hg:PySem.W.plainGet K C name=true) (hh:PySem.W.hasDictIn K C=true)
  (ha:PySem.W.findIn K (.ref C) name=some none) (hv:mA name=some v) (hv':PySem.W.handedIn v=true) (h:Q v { s with toks:=s.toks+1 }) :
  wpAny (model prog w) A (getAttr (.ref x) name expr) Q E s:=by
 obtain⟨od,J,hl⟩:=I.look
 exact PySem.W.get_value X J (Ni hg).1 (PySem.W.findObj_own hh ha rfl (by rw[hl,hv])) hv' h
theorem C6 {pl:Sem Bool}{Q:Value×List Value->Shared->Prop}(X:K.In s.heap) (I:uC s.heap x dx C mA) (hg:PySem.W.plainGet K C name=true)
  (hf:PySem.W.findIn K (.ref C) name=some (some (.ref f))) (ht:PySem.W.isFn K (.ref f)=true) (hv:mA name=none) (h:Q (.ref f,[.ref x]) s) :
  wpAny (model prog w) A (getMethod (.ref x) name pl) Q E s:=by
 obtain⟨od,J,hl⟩:=I.look
 exact PySem.W.method_fn X J (Ni hg).1 (Ni hg).2 hf (beq_iff_eq.mp ht) (by show (PySem.W.lookIn name od).map (·.isSome)=some false; rw[hl,hv]; rfl) h
theorem EN {ns:List Str}{Q:Unit->Shared->Prop}(X:K.In s.heap) (I:uC s.heap x dx C mA)
  (hs:PySem.W.findIn K (.ref C) "__setattr__" = some (some (.builtin "object.__setattr__"))) (hp:PySem.W.plainOver K C=true) (ht:PySem.W.takerIn K C name=some none) (hh:PySem.W.hasDictIn K C=true)
  (hw:PySem.Within mA ns) (hsz:ns.length<=sizeLine)
  (h: ∀h',uC h' x dx C (fun y=>if y=name then some v else mA y)->Heap.SameBut dx s.heap h'->Q () { s with heap:=h',toks:=s.toks+2 }) :
  wpAny (model prog w) A (setAttr (.ref x) name v) Q E s:=by
 obtain⟨od,J,hl⟩:=I.look
 refine PySem.W.set_plain X J hs (PySem.W.osa_open (s:={ s with toks:=s.toks+1 }) (r:=none) X J hp ht fun b=>?_)
 obtain⟨cd,hc,hd'⟩:=PySem.W.any_some hh
 have hx:s.heap.get? x=some ⟨.ref C,some dx,.plain,#[]⟩:=I.obj
 refine Kt (K1 (Kt (Kt (wpAny_loadPart hx (Kt (PySem.W.Looks.here (s:={ s with toks:=s.toks+1 }) (PySem.W.looks_clsIn X hc) ?_))))))
 rw[hd']
 refine K1 (a:=some dx) (Kt (K1 (Kt ?_)))
 refine wpAny_nsSet1 (s:={ s with toks:=s.toks+1 }) I.ns fun h' hn2 hs2=>?_
 obtain⟨oD,esD,epD,hoD,hdD,hcD⟩:=hn2.count (PySem.Within.cons name v hw)
 refine Kt (wpAny_lookBehind hoD (by rw[hdD]; exact pastItsLine_dict (KP hcD (by rw[KZ]; omega))) ?_)
 exact K1 (h _ ⟨(hs2.2 _ (KW I.ne)).trans I.obj,hn2,I.ne⟩ hs2)
theorem Ef {R:Result->Shared->Prop}{vs:List Value}{kw:List (Str×Value)}(X:K.In s.heap) (hm:PySem.W.makesIn K C=true)
  (hi:PySem.W.findIn K (.ref C) "__init__" = some (some (.ref f))) (hf:PySem.W.typeIn K (.ref f)=some (.type "function"))
  (h:codeAny (model prog w) (A.under (.builtin "type.__call__" ⟨.ref C::vs,kw⟩)) (.call (.ref f) ⟨.ref (s.heap.objs.size+1)::vs,kw⟩) (PySem.W.InitBack (s.heap.objs.size+1) R)
   { s with heap:=(s.heap.push PySem.W.emptyDict).push (PySem.W.instObj C s.heap.objs.size) }) :
  codeAny (model prog w) A (.call (.ref C) ⟨vs,kw⟩) R s:=by
 obtain⟨hh,g,d,t,os⟩:=s
 exact PySem.W.make_core (PySem.W.makes_of X hm) (PySem.W.looks_findIn X hi) (fun self=>PySem.W.bind_fn X self hf) (.inl rfl) h
end
def gq (f:Str) (v:V):List (Str×V)->List (Str×V)
 | []=>[(f,v)]
 | (g,x)::r=>if g=f then (g,v)::r else (g,x)::gq f v r
theorem tW (f g:Str) (v:V): ∀fs:List (Str×V),(gq f v fs).lookup g=if g=f then some v else fs.lookup g
 | []=>by
  show List.lookup g [(f,v)]=_
  by_cases h:g=f
  .have hb:(g == f)=true:=beq_iff_eq.mpr h
   simp only[List.lookup,hb,Ko h]
  .have hb:(g == f)=false:=beq_eq_false_iff_ne.mpr h
   simp only[List.lookup,hb,Kk h]
 | (k,x)::r=>by
  have ih:=tW f g v r
  rw[show gq f v ((k,x)::r)=(if k=f then (k,v)::r else (k,x)::gq f v r) from rfl]
  by_cases hk:k=f
  .rw[Ko hk]
   by_cases h:g=k
   .have hb:(g == k)=true:=beq_iff_eq.mpr h
    simp only[List.lookup,hb,Ko (h.trans hk)]
   .have hb:(g == k)=false:=beq_eq_false_iff_ne.mpr h
    simp only[List.lookup,hb,Kk (fun e:g=f=>h (e.trans hk.symm))]
  .rw[Kk hk]
   by_cases h:g=k
   .have hb:(g == k)=true:=beq_iff_eq.mpr h
    simp only[List.lookup,hb,Kk (fun e:g=f=>hk (h.symm.trans e))]
   .have hb:(g == k)=false:=beq_eq_false_iff_ne.mpr h
    simp only[List.lookup,hb]
    exact ih
theorem rD (f:Str) (v:V): ∀fs:List (Str×V),f∈(gq f v fs).map (·.1)/\ ∀g,g∈fs.map (·.1)->g∈(gq f v fs).map (·.1)
 | []=>⟨by simp[gq],fun g h=>by simp at h⟩
 | (k,x)::r=>by
  obtain⟨i1,i2⟩:=rD f v r
  rw[show gq f v ((k,x)::r)=(if k=f then (k,v)::r else (k,x)::gq f v r) from rfl]
  by_cases hk:k=f
  .rw[Ko hk]
   subst hk
   exact⟨by simp,fun g h=>by simpa using h⟩
  .rw[Kk hk]
   refine⟨?_,fun g h=>?_⟩
   .rw[Lg]
    exact Kx _ i1
   .rw[Lg] at h ⊢
    rcases Ks.mp h with e | e
    .exact Ks.mpr (.inl e)
    .exact Kx _ (i2 g e)
theorem tY (f:Str) (v:V): ∀fs:List (Str×V),(gq f v fs).length<=fs.length+1
 | []=>by simp[gq]
 | (k,x)::r=>by
  have ih:=tY f v r
  rw[show gq f v ((k,x)::r)=(if k=f then (k,v)::r else (k,x)::gq f v r) from rfl]
  by_cases hk:k=f
  .rw[Ko hk,KZ,KZ]; omega
  .rw[Kk hk,KZ,KZ]; omega
theorem f9.some_of {v:V}{o:Option Value}(r:f9 (some v) o): ∃u,o=some u/\RelV v u:=by
 cases o with
 | none=>exact (show False from r).elim
 | some u=>exact⟨u,rfl,r⟩
theorem f9.none_of {o:Option Value}(r:f9 none o):o=none:=by
 cases o with
 | none=>rfl
 | some u=>exact (show False from r).elim
theorem BR {v:V}{u:Value}(r:RelV v u):PySem.W.handedIn u=true:=by
 cases v with
 | non=>cases (show u=Value.none from r); rfl
 | bl b=>cases (show u=Value.bool b from r); rfl
 | int i=>obtain⟨t,e⟩:=(show ∃t,u=Value.int i t from r); cases e; rfl
 | str x=>obtain⟨t,e⟩:=(show ∃t,u=Value.str x t from r); cases e; rfl
 | byt b=>obtain⟨t,e⟩:=(show ∃t,u=Value.bytes b t from r); cases e; rfl
 | flt b=>obtain⟨t,e⟩:=(show ∃t,u=Value.float b t from r); cases e; rfl
 | ref a=>cases (show u=Value.ref a from r); rfl
 | ty n=>cases (show u=Value.type n from r); rfl
section
variable {P:Program}{w:World}{H H':Hp}{h h':Heap}{a C dx:Addr}{fs fs':List (Str×V)}
theorem vV (hok:Oe P w H h) (e:H a=some (.ins C dx fs)): ∃mA,uC h a dx C mA/\(∀f,f9 (fs.lookup f) (mA f))/\PySem.Within mA (fs.map (·.1))/\fs.length<=1000/\H dx=some (.own a):=by
 obtain⟨d,z,ne,ob,mA,n,r,q⟩:=(show dt P w H h a (.ins C dx fs) from hok a _ e)
 exact⟨mA,⟨ob,n,ne⟩,r,q,z,d⟩
end
structure Oy (K:NY) (C:Addr):Prop where
 pg:PySem.W.plainGet K C Str.empty=true
 hd:PySem.W.hasDictIn K C=true
 po:PySem.W.plainOver K C=true
 sa:PySem.W.findIn K (.ref C) "__setattr__" = some (some (.builtin "object.__setattr__"))
theorem Oy.get {K:NY}{C:Addr}(c:Oy K C) (f:Str):PySem.W.plainGet K C f=true:=c.pg
def gz (K:NY) (C:Addr) (f:Str):Prop:=PySem.W.findIn K (.ref C) f=some none
theorem gz.Ic {K:NY}{C:Addr}{f:Str}(n:gz K C f):PySem.W.takerIn K C f=some none:=by
 unfold PySem.W.takerIn
 rw[show PySem.W.findIn K (.ref C) f=some none from n]
 rfl
structure PZ (K:NY) (C:Addr) (f:Str) (v:V) (u:Value):Prop where
 at_:PySem.W.findIn K (.ref C) f=some (some u)
 rel:RelV v u
 get:PySem.W.specialIn K u "__get__" = some none
 cp:PySem.W.copiedNames.contains f=false
structure Meth (K:NY) (C:Addr) (m:Str) (f:Addr):Prop where
 at_:PySem.W.findIn K (.ref C) m=some (some (.ref f))
 fn:PySem.W.isFn K (.ref f)=true
 kp:PySem.W.keepIn K (.ref f)=true
section
variable {X:Cx}{NV:List (Addr×Obj)}{σ:St}{H:Hp}{s:Shared}{a C dx:Addr}{fs:List (Str×V)}{f:Str}{v:V}{A:Around}{E:Value->Shared->Prop}
theorem Ap {b:Bool}{Q:Value->Shared->Prop}(I:Inv X NV σ H s) (e:H a=some (.ins C dx fs)) (c:Oy X.K C) (n:gz X.K C f) (l:fs.lookup f=some v)
  (h: ∀u s',Inv X NV σ H s'->RelV v u->Q u s'):wpAny (model X.prog X.w) A (getAttr (.ref a) f b) Q E s:=by
 obtain⟨mA,O,r,_,_,_⟩:=vV I.hok e
 obtain⟨u,hu,ru⟩:=f9.some_of (v:=v) (o:=mA f) (by rw[<-l]; exact r f)
 exact get_map I.Ow O (c.get f) c.hd n hu (BR ru) (h u _ (I.tok _) ru)
theorem jY {m:Str}{g:Addr}{pl:Sem Bool}{Q:Value×List Value->Shared->Prop}(I:Inv X NV σ H s) (e:H a=some (.ins C dx fs)) (c:Oy X.K C) (k:Meth X.K C m g) (l:fs.lookup m=none)
  (h:Q (.ref g,[.ref a]) s):wpAny (model X.prog X.w) A (getMethod (.ref a) m pl) Q E s:=by
 obtain⟨mA,O,r,_,_,_⟩:=vV I.hok e
 have hn:mA m=none:=f9.none_of (by rw[<-l]; exact r m)
 exact C6 I.Ow O (c.get m) k.at_ k.fn hn h
theorem Al {y:V}{u:Value}{Q:Unit->Shared->Prop}(I:Inv X NV σ H s) (e:H a=some (.ins C dx fs)) (c:Oy X.K C) (n:gz X.K C f) (hl:fs.length < 1000) (ry:RelV y u)
  (h: ∀s',Inv X NV σ (upd H a (.ins C dx (gq f y fs))) s'->Q () s'):wpAny (model X.prog X.w) A (setAttr (.ref a) f u) Q E s:=by
 obtain⟨mA,O,r,wi,_,ho⟩:=vV I.hok e
 have hz:(fs.map (·.1)).length<=sizeLine:=by rw[Kj,Np]; omega
 refine EN I.Ow O c.sa c.po n.Ic c.hd wi hz fun h' O' sb=>h _ ?_
 have hd: ∃o,h'.get? dx=some o:=let ⟨o,_,_,e',_⟩:=O'.ns; ⟨o,e'⟩
 refine I.write (x:=a) (e:=dx) (by rw[e]; exact True.intro) (.inr ho) (fun b q hb z=>(sb.2 b hb).trans z) hd ?_
 refine⟨by rw[ao O.ne]; exact ho,?_,O.ne,O'.obj,_,O'.ns,fun g=>?_,fun g hg=>?_⟩
 .have:=tY f y fs; omega
 .show f9 ((gq f y fs).lookup g) (if g=f then some u else mA g)
  rw[tW]
  by_cases q:g=f
  .rw[Ko q,Ko q]; exact ry
  .rw[Kk q,Kk q]; exact r g
 .by_cases q:g=f
  .rw[q]; exact (rD f y fs).1
  .refine (rD f y fs).2 g (wi g fun z=>hg ?_)
   show (if g=f then some u else mA g)=none
   rw[Kk q]; exact z
theorem Inv.made (I:Inv X NV σ H s):Inv X NV σ (upd (upd H s.heap.objs.size (.own (s.heap.objs.size+1))) (s.heap.objs.size+1) (.ins C s.heap.objs.size []))
  { s with heap:=(s.heap.push PySem.W.emptyDict).push (PySem.W.instObj C s.heap.objs.size) }:=by
 have e1:(s.heap.push PySem.W.emptyDict).get? s.heap.objs.size=some PySem.W.emptyDict:=K7 s.heap rfl
 have e2:((s.heap.push PySem.W.emptyDict).push (PySem.W.instObj C s.heap.objs.size)).get? (s.heap.objs.size+1)=some (PySem.W.instObj C s.heap.objs.size):=by
  have:=K7 (s.heap.push PySem.W.emptyDict) (o:=PySem.W.instObj C s.heap.objs.size) rfl
  rwa [LF] at this
 have e3:(s.heap.push PySem.W.emptyDict).Ns s.heap.objs.size (fun _=>none):=⟨PySem.W.emptyDict,#[],_,e1,rfl,(fun e he=>absurd he (by simp)),fun _=>rfl⟩
 have I1:=I.laid (a:=s.heap.objs.size) (o:= .own (s.heap.objs.size+1)) (h':=s.heap.push PySem.W.emptyDict) (t':=s.toks) (fun b u q=>Kq _ q) (Kn _) ⟨_,e1⟩
 refine I1.laid (a:=s.heap.objs.size+1) (o:= .ins C s.heap.objs.size []) (t':=s.toks) (fun b u q=>Kq _ q) (NF (LF _ _)) ?_
 have ne:s.heap.objs.size≠s.heap.objs.size+1:=K3 (Ms _)
 refine⟨by rw[ao ne,ag],Ln _,ne,e2,fun _=>none,(Heap.Ns1.of_empty e3).at fun o q=>Kq _ q,fun _=>True.intro,fun y hy=>absurd rfl hy⟩
theorem Fc {prog:Program}{w:World}{env:Env}{e:Expr}{f:Str}{pos:Pos}{s:Shared}{Q:Value->Shared->Prop}(hb:attributeBase e f env (eval e env)=eval e env)
  (h:wpAny (model prog w) A (eval e env) (fun o s₁=>wpAny (model prog w) A (getAttr o f true) Q E s₁) E s):wpAny (model prog w) A (eval (.Attribute e f pos) env) Q E s :=
 Attribute_any_ h (by rw[arm_eval_Attribute,hb])
end
inductive IP (K:NY) (f:Str) (Q:VK) (x:V) (H1:Hp):Prop | mk (a C dx fs v:_) (e0:x= .ref a) (e1:H1 a=some (.ins C dx fs)) (e2:Oy K C) (e3:gz K C f) (e4:fs.lookup f=some v) (q:Q v H1)
def GG (K:NY) (ta:TE) (f:Str):TE:=fun σ H Q=>ta σ H fun x H1=>IP K f Q x H1
inductive J3 (K:NY) (f:Str) (Q:VK) (x:V) (H1:Hp):Prop | mk (a C dx fs v u:_) (e0:x= .ref a) (e1:H1 a=some (.ins C dx fs)) (e2:Oy K C) (e3:PZ K C f v u) (e4:fs.lookup f=none) (q:Q v H1)
inductive Iu (K:NY) (f:Str) (D:Ends) (σ:St) (y x:V) (H2:Hp):Prop | mk (a C dx fs:_) (e0:x= .ref a) (e1:H2 a=some (.ins C dx fs)) (e2:Oy K C) (e3:gz K C f) (e4:fs.length < 1000) (q:D.nx σ (upd H2 a (.ins C dx (gq f y fs))))
def JA (K:NY) (ta tv:TE) (f:Str):TS:=fun D σ H=>tv σ H fun y H1=>ta σ H1 fun x H2=>Iu K f D σ y x H2
section
variable {X:Cx}{o e value:Expr}{f:Str}{pos pos' tpos:Pos}{ta tv:TE}
theorem bH (he:PE X e ta) (hb:attributeBase e f X.env (eval e X.env)=eval e X.env):PE X (.Attribute e f pos) (GG X.K ta f):=by
 intro NV s σ H Q I h
 refine Fc hb (N0 (he NV s σ H _ I h) fun u s1 hm=>?_)
 obtain⟨x,H1,I1,rx,a,C,dx,fs,v,ex,ea,c,n,l,q⟩:=hm
 subst ex
 obtain rfl:u=Value.ref a:=rx
 exact Ap I1 ea c n l fun u' s2 I2 ru=>⟨v,H1,I2,ru,q⟩
theorem i4 (ha:PE X o ta) (hv:PE X value tv) (hs:swapsWith value (some (.Attribute o f pos')) pos.line X.env=pure false):PS X (.Assign [.Attribute o f pos'] value pos) (JA X.K ta tv f):=by
 intro NV s σ H D I h
 refine plainObj_wpAny_Assign_Attribute (N0 (hv NV s σ H _ I h) fun u s1 ⟨y,H1,I1,ry,q⟩=>N0 (ha NV s1 σ H1 _ I1 q) fun ov s2 hm=>?_) hs
 obtain⟨x,H2,I2,rx,a,C,dx,fs,ex,ea,c,n,l,q2⟩:=hm
 subst ex
 obtain rfl:ov=Value.ref a:=rx
 exact Al I2 ea c n l ry fun s3 I3=>⟨σ,_,I3,q2⟩
inductive Ke (x y:V) (H:Hp) (Q:VK):Prop | mk (i j:_) (e0:x= .int i) (e1:y= .int j) (q:Q (.int (i+j)) H)
inductive Kc (x y:V) (H:Hp) (Q:VK):Prop | mk (i j:_) (e0:x= .int i) (e1:y= .int j) (q:Q (.int (i - j)) H)
theorem HD {pl:Sem Bool}{m:Str}{apos:Pos}{args:List Expr}{NV:List (Addr×Obj)}{s:Shared}{σ:St}{H:Hp}{Q:Value->Shared->Prop}{te:TE}(he:PE X e te) (I:Inv X NV σ H s)
  (h:te σ H fun x H1=> ∃a C dx fs g,x= .ref a/\H1 a=some (.ins C dx fs)/\Oy X.K C/\Meth X.K C m g/\fs.lookup m=none /\
   ∀s1,Inv X NV σ H1 s1->wpAny (model X.prog X.w) X.A (callWith pos (.ref g) [.ref a] (backTo pos (starEach args X.env)) (backToKw pos (keywordEach [] X.env))) Q X.xe s1)
  (ht:eval (.Call (.Attribute e m apos) args [] pos) X.env=(do
   let ov <-eval e X.env
   standAt apos.atName
   let (f,first) <-holding [ov] (getMethod ov m pl)
   callWith pos f first (backTo pos (starEach args X.env)) (backToKw pos (keywordEach [] X.env)))) :
  wpAny (model X.prog X.w) X.A (eval (.Call (.Attribute e m apos) args [] pos) X.env) Q X.xe s:=by
 refine Me (pl:=pl) (N0 (he NV s σ H _ I h) fun u s1 hm=>?_) ht
 obtain⟨x,H1,I1,rx,a,C,dx,fs,g,ex,ea,c,k,l,q⟩:=hm
 subst ex
 obtain rfl:u=Value.ref a:=rx
 exact jY I1 ea c k l (q s1 I1)
end
section
variable {X:Cx}{NV:List (Addr×Obj)}{σ:St}{H:Hp}{s:Shared}{A:Around}{E:Value->Shared->Prop}{Q:Value->Shared->Prop}{c:Value}{b:Bool}
inductive nG (K:NY) (H:Hp):V->Value->Prop where
 | non:nG K H .non (.type "NoneType")
 | bl (x:Bool):nG K H (.bl x) (.type "bool")
 | int (i:Int):nG K H (.int i) (.type "int")
 | str (x:Str):nG K H (.str x) (.type "str")
 | flt (x:UInt64):nG K H (.flt x) (.type "float")
 | lst {a:Addr}{xs:List V} (e:H a=some (.lst xs)):nG K H (.ref a) (.type "list")
 | frz {a:Addr}{o:Obj}{xs:List V} (e:H a=some (.frz o (.lst xs))):nG K H (.ref a) (.type "list")
 | tup {a:Addr}{xs:List V} (e:H a=some (.tup xs)):nG K H (.ref a) (.type "tuple")
 | dK {a:Addr}{kvs:List (Key×V)} (e:H a=some (.dK kvs)):nG K H (.ref a) (.type "dict")
 | dT {a:Addr}{kvs:List (List Key×V)} (e:H a=some (.dT kvs)):nG K H (.ref a) (.type "dict")
 | ins {a C dx:Addr}{fs:List (Str×V)} (e:H a=some (.ins C dx fs)) (cl:Oy K C) (ha:PySem.W.findIn K (.ref C) "__class__" = some (some (.builtin "object.__class__")))
   (hn:PySem.W.specialIn K (.builtin "object.__class__") "__get__" = some (some (.builtin "getset_descriptor.__get__"))) (htk:PySem.W.takesIn K (.builtin "object.__class__")=some true)
   (hm:PySem.W.mroIn K C (.type "object")=some true):nG K H (.ref a) (.ref C)
end
structure cf (k:Nat) (A:Around):Prop where
 hd:A.handled=none
 dp:A.depth+3*k+5 < recursionLimit
 un:A.units+16*k+200 < cLine
theorem cf.mono {j k:Nat}{A:Around}(r:cf k A) (h:j<=k):cf j A:=⟨r.hd,by have:=r.dp; omega,by have:=r.un; omega⟩
theorem cf.deeper {k:Nat}{A:Around}(r:cf (k+1) A) (env:Env):cf k (A.deeper env) :=
 ⟨r.hd,by have:=r.dp; show A.depth+1+3*k+5 < _; omega,by have:=r.un; show A.units+3+16*k+200 < _; omega⟩
theorem AR {A:Around}{C:Addr}{us:List Value}{kw:List (Str×Value)}:(A.under (.builtin "type.__call__" ⟨.ref C::us,kw⟩)).depth=A.depth+1:=by
 first | rfl | simp[Around.under,Code.weight,Code.isCreation,Code.isGuard,Code.isCaller,Code.frames,Code.isFrame,guardIds]
theorem Am {A:Around}{C:Addr}{us:List Value}{kw:List (Str×Value)}:(A.under (.builtin "type.__call__" ⟨.ref C::us,kw⟩)).units=A.units+1:=by
 first | rfl | simp[Around.under,Code.cUnits,Code.frames,Code.isFrame]
theorem cf.make {k:Nat}{A:Around}(r:cf (k+1) A) (C:Addr) (us:List Value) (kw:List (Str×Value)):cf k (A.under (.builtin "type.__call__" ⟨.ref C::us,kw⟩)) :=
 ⟨r.hd,by have:=r.dp; rw[AR]; omega,by have:=r.un; rw[Am]; omega⟩
theorem cf.depth {k:Nat}{A:Around}(r:cf k A):A.depth < recursionLimit:=by have:=r.dp; omega
theorem cf.units {k:Nat}{A:Around}(r:cf k A):A.units+64 < cLine:=by have:=r.un; omega
def oE:TA:=fun _ H Q=>Q [] H
def Ey (ta:TE) (tr:TA):TA:=fun σ H Q=>ta σ H fun x H1=>tr σ H1 fun xs H2=>Q (x::xs) H2
section
variable {X:Cx}{e:Expr}{es:List Expr}{te:TE}{t:TA}{pos:Pos}
theorem ae:PA X [] oE:=fun _ _ _ _ H Q I h=>Calls.spliced_nil ⟨[],H,I,.nil,h⟩
theorem Fu (ha:PE X e te) (hr:PA X es t) (hs:starEach (e::es) X.env=(false,eval e X.env)::starEach es X.env:=by rfl):PA X (e::es) (Ey te t):=by
 intro pos NV s σ H Q I h
 rw[hs]
 show wpAny _ _ (spliced ((false,eval e X.env)::backTo pos (starEach es X.env))) _ _ s
 refine Nq (N0 (ha NV s σ H _ I h) fun u s1 ⟨x,H1,I1,r1,q1⟩=>?_)
 exact N0 (hr pos NV s1 σ H1 _ I1 q1) fun us s2 ⟨xs,H2,I2,r2,q2⟩=>⟨x::xs,H2,I2,.cons r1 r2,q2⟩
inductive HQ (xs:List V) (H:Hp) (Q:VK):Prop | mk (e:xs.length<=sizeLine) (q: ∀p,H p=none->Q (.ref p) (upd H p (.tup xs)))
def Jl (t:TA):TE:=fun σ H Q=>t σ H fun xs H1=>HQ xs H1 Q
inductive IE (xs:List V) (H:Hp) (Q:VK):Prop | mk (e:xs.length<=sizeLine) (q: ∀p,H p=none->Q (.ref p) (upd H p (.lst xs)))
def Jc (t:TA):TE:=fun σ H Q=>t σ H fun xs H1=>IE xs H1 Q
theorem bM {x1}(h:PA X es t):PE X (.Tuple es x1 pos) (Jl t):=by
 intro NV s σ H Q I hq
 refine wpAny_Tuple_spliced (N0 (h pos NV s σ H _ I hq) fun us s1 ⟨xs,H1,I1,r,z,q⟩=>⟨by rw[<-r.length]; exact z,?_⟩)
 have hf:H1 s1.heap.objs.size=none:=I1.hok.fresh (Kn _)
 refine⟨.ref s1.heap.objs.size,upd H1 s1.heap.objs.size (.tup xs),I1.laid (t':=s1.toks) (fun b u e=>Kq _ e) (Kn _) ?_,rfl,q _ hf⟩
 exact⟨z,us,r,⟨_,K7 _ rfl,rfl,_,rfl⟩⟩
theorem aQ (h:PA X es t):PE X (.List es pos) (Jc t):=by
 intro NV s σ H Q I hq
 refine wpAny_List_spliced (N0 (h pos NV s σ H _ I hq) fun us s1 ⟨xs,H1,I1,r,z,q⟩=>⟨by rw[<-r.length]; exact z,?_⟩)
 have hf:H1 s1.heap.objs.size=none:=I1.hok.fresh (Kn _)
 refine⟨.ref s1.heap.objs.size,upd H1 s1.heap.objs.size (.lst xs),I1.laid (t':=s1.toks) (fun b u e=>Kq _ e) (Kn _) ?_,rfl,q _ hf⟩
 exact⟨z,us,0,r,K7 _ rfl⟩
end
abbrev Sp:=List V->Hp->VK->XK->Prop
abbrev Ox:=List Env->Hp->Shared->XK->Value->Shared->Prop
structure ud (P:Program) (w:World) (K:NY) (mg:Str->Option Value) (base:Heap) (A:Around) (outer:List Env) (s:Shared) (H:Hp):Prop where
 frames:A.frames=some outer
 mod:Mod K mg base
 bs: ∀b o,base.get? b=some o->s.heap.get? b=some o/\H b=none
 bsz:base.objs.size<=s.heap.objs.size
 fH:s.heap.FunFrames base outer
 frf: ∀b∈Oz outer,H b=none
 hok:Oe P w H s.heap
 bare:AllBare s.gens
def CE (outer:List Env) (P:Program) (w:World) (H:Hp) (s:Shared) (Q:VK) (u:Value) (s':Shared):Prop :=
 ∃v H',s'.os=s.os/\AllBare s'.gens/\Un (Oz outer) [] H H' s.heap s'.heap/\Oe P w H' s'.heap/\RelV v u/\Q v H'
def CR (CX:Ox) (outer:List Env) (P:Program) (w:World) (H:Hp) (s:Shared) (Q:VK) (E:XK) (r:Result) (s':Shared):Prop :=
 match r with
 | .ok (.ret u)=>CE outer P w H s Q u s'
 | .ok _=>False
 | .error e=>CX outer H s E e s'
structure eY (P:Program) (w:World) (K:NY) (mg:Str->Option Value) (base:Heap) (CX:Ox) (k:Nat) (f:Addr) (fd:FuncData) (ps:List Str) (sp:Sp):Prop where
 len: ∀vs H Q E,sp vs H Q E->vs.length=ps.length
 run: ∀(A:Around) (outer:List Env) (s:Shared) (H:Hp) (args:Args) (us:List Value) (vs:List V) (Q:VK) (E:XK),cf k A->ud P w K mg base A outer s H->BindsTo s fd args (ps.zip us)->Vals vs us->sp vs H Q E ->
  codeAny (model P w) A (.call (.ref f) args) (CR CX outer P w H s Q E) s
theorem eY.mono {P:Program}{w:World}{K:NY}{mg:Str->Option Value}{base:Heap}{CX:Ox}{j k:Nat}{f:Addr}{fd:FuncData}{ps:List Str}{sp:Sp}(F:eY P w K mg base CX j f fd ps sp) (h:j<=k) :
  eY P w K mg base CX k f fd ps sp:=⟨F.len,fun A outer s H args us vs Q E hr=>F.run A outer s H args us vs Q E (hr.mono h)⟩
theorem ud.make {P:Program}{w:World}{K:NY}{mg:Str->Option Value}{base:Heap}{A:Around}{outer:List Env}{s:Shared}{H:Hp}(e:ud P w K mg base A outer s H) (C:Addr) (us:List Value) (kw:List (Str×Value)) :
  ud P w K mg base (A.under (.builtin "type.__call__" ⟨.ref C::us,kw⟩)) outer s H:=⟨by first | exact e.frames | (simpa [Around.under,Code.envs,Code.isFrame,pushEnvs] using e.frames),e.mod,e.bs,e.bsz,e.fH,e.frf,e.hok,e.bare⟩
section
variable {X:Cx}{NV:List (Addr×Obj)}{σ:St}{H:Hp}{s s':Shared}
theorem Inv.Df (I:Inv X NV σ H s):ud X.prog X.w X.K X.mg X.base X.A X.stack s H :=
 ⟨I.ok.frames,I.ok.mod,I.bs,KP I.ok.bsz I.sz,I.stack,I.vL,I.hok,I.bare⟩
theorem Inv.after {Q:VK}{u:Value}(I:Inv X NV σ H s) (h:CE X.stack X.prog X.w H s Q u s'):EP X NV σ Q u s':=by
 obtain⟨v,H',os,bare,un,hok,r,q⟩:=h
 obtain⟨hh,g,d,t,os'⟩:=s'
 obtain rfl:os'=s.os:=os
 exact⟨v,H',I.call (h':=hh) (g':=g) (d':=d) (t':=t) (ch:=[]) un hok bare (fun b z=>absurd z (by simp)),r,q⟩
end
def EK (sp:Sp) (dvs:List V) (E:XK) (t:TA):TE:=fun σ H Q=>t σ H fun vs H1=>sp (vs++dvs) H1 Q E
inductive GY (C:Addr) (m:Str) (x:V) (H1:Hp) (k:Prop):Prop | mk (a dx fs:_) (e0:x= .ref a) (e1:H1 a=some (.ins C dx fs)) (e2:fs.lookup m=none) (q:k)
def xj (C:Addr) (m:Str) (sp:Sp) (dvs:List V) (E:XK) (ta:TE) (t:TA):TE:=fun σ H Q=>ta σ H fun x H1=>GY C m x H1 (t σ H1 fun vs H2=>sp (x::(vs++dvs)) H2 Q E)
def EF (C:Addr) (sp:Sp) (dvs:List V) (E:XK) (t:TA):TE:=fun σ H Q=>t σ H fun vs H1=> ∀x dx,H1 x=none->H1 dx=none->dx≠x ->
 sp (.ref x::(vs++dvs)) (upd (upd H1 dx (.own x)) x (.ins C dx [])) (fun v H2=>v= .non/\Q (.ref x) H2) E
def Binds (K:NY) (fd:FuncData) (ps:List Str) (ds:List Value):Prop :=
 ∀(s:Shared) (us:List Value),K.In s.heap->(us++ds).length=ps.length->BindsTo s fd ⟨us,[]⟩ (ps.zip (us++ds))
theorem Binds.all {K:NY}{fd:FuncData}{ps:List Str}(h: ∀us:List Value,us.length=ps.length->bindArgs fd ⟨us,[]⟩=pure (ps.zip us)):Binds K fd ps []:=fun s us _ hl=>by
 rw[Ly] at hl ⊢
 exact .of_eq (h us hl)
def Passes (CX:Ox) (X:Cx) (E:XK):Prop:= ∀(NV:List (Addr×Obj)) (σ:St) (H:Hp) (s:Shared) (e:Value) (s':Shared),Inv X NV σ H s->CX X.stack H s E e s'->X.xe e s'
section
variable {X:Cx}{CX:Ox}{k:Nat}{f C:Addr}{fd:FuncData}{ps:List Str}{sp:Sp}{dvs:List V}{ds:List Value}{E:XK}{x m:Str}{p pos apos:Pos}{e o:Expr}{es:List Expr}{ta:TE}{t:TA}
theorem yH {NV:List (Addr×Obj)}{σ:St}{H:Hp}{s:Shared}{Q:VK}{us:List Value}{vs:List V}(F:eY X.prog X.w X.K X.mg X.base CX k f fd ps sp) (hr:cf k X.A) (hb:Binds X.K fd ps ds) (hd:Vals dvs ds) (hx:Passes CX X E)
  (I:Inv X NV σ H s) (r:Vals vs us) (h:sp (vs++dvs) H Q E):wpAny (model X.prog X.w) X.A (call (.ref f) us) (EP X NV σ Q) X.xe s:=by
 have r2:Vals (vs++dvs) (us++ds):=r.append hd
 have hl:(us++ds).length=ps.length:=by rw[<-r2.length]; exact F.len _ _ _ _ h
 refine Nf (MS (F.run X.A X.stack s H ⟨us,[]⟩ (us++ds) (vs++dvs) Q E hr I.Df (hb s us I.Ow hl) r2 h) fun r s' hq=>?_)
 cases r with
 | error e=>exact hx NV σ H s e s' I hq
 | ok fl =>
  cases fl with
  | ret u=>exact I.after hq
  | next=>exact False.elim hq
  | brk=>exact False.elim hq
  | cont=>exact False.elim hq
theorem F3 (F:eY X.prog X.w X.K X.mg X.base CX k f fd ps sp) (hr:cf k X.A) (hg:Gl X x) (hm:X.mg x=some (.ref f)) (hk:PySem.W.keepIn X.K (.ref f)=true) (hb:Binds X.K fd ps ds) (hd:Vals dvs ds) (hx:Passes CX X E)
  (ha:PA X (e::es) t) (hdb:(x == ("__debug__" : Str))=false:=by decide) (he:starEach (e::es) X.env=(false,eval e X.env)::starEach es X.env:=by rfl) (hpl:(backTo pos (starEach es X.env)).any (·.1)=false:=by rfl) :
  PE X (.Call (.Name x p) (e::es) [] pos) (EK sp dvs E t):=by
 intro NV s σ H Q I h
 refine Mc (mX I hg hm ?_ hdb)
 refine MP (h₀:=X.base) I.ok.mod.kin hk (N0 (ha pos NV s σ H _ I h) fun us s1 ⟨vs,H1,I1,r,q⟩=>⟨I1.Ow,?_⟩) he hpl
 exact yH F hr hb hd hx I1 r q
theorem FZ {pl:Sem Bool}(he:PE X o ta) (c:Oy X.K C) (hm:Meth X.K C m f) (F:eY X.prog X.w X.K X.mg X.base CX k f fd ps sp) (hr:cf k X.A) (hb:Binds X.K fd ps ds) (hd:Vals dvs ds) (hx:Passes CX X E) (ha:PA X (e::es) t)
  (hst:starEach (e::es) X.env=(false,eval e X.env)::starEach es X.env:=by rfl) (hpl:(backTo pos (starEach es X.env)).any (·.1)=false:=by rfl)
  (ht:eval (.Call (.Attribute o m apos) (e::es) [] pos) X.env=(do
   let ov <-eval o X.env
   standAt apos.atName
   let (f,first) <-holding [ov] (getMethod ov m pl)
   callWith pos f first (backTo pos (starEach (e::es) X.env)) (backToKw pos (keywordEach [] X.env))):=by rfl) :
  PE X (.Call (.Attribute o m apos) (e::es) [] pos) (xj C m sp dvs E ta t):=by
 intro NV s σ H Q I h
 refine Me (pl:=pl) (N0 (he NV s σ H _ I h) fun u s1 hm=>?_) ht
 obtain⟨x,H1,I1,rx,a,dx,fs,ex,ea,l,q⟩:=hm
 subst ex
 obtain rfl:u=Value.ref a:=rx
 refine jY I1 ea c hm l ?_
 refine MP (first:=[.ref a]) (h₀:=X.base) I.ok.mod.kin hm.kp (N0 (ha pos NV s1 σ H1 _ I1 q) fun us s2 ⟨vs,H2,I2,r,q2⟩=>⟨I2.Ow,?_⟩) hst hpl
 exact yH (us:= .ref a::us) (vs:= .ref a::vs) F hr hb hd hx I2 (.cons rfl r) q2
theorem DC {pl:Sem Bool}(he:PE X o ta) (c:Oy X.K C) (hm:Meth X.K C m f) (F:eY X.prog X.w X.K X.mg X.base CX k f fd ps sp) (hr:cf k X.A) (hb:Binds X.K fd ps ds) (hd:Vals dvs ds) (hx:Passes CX X E)
  (ht:eval (.Call (.Attribute o m apos) [] [] pos) X.env=(do
   let ov <-eval o X.env
   standAt apos.atName
   let (f,first) <-holding [ov] (getMethod ov m pl)
   callWith pos f first (backTo pos (starEach [] X.env)) (backToKw pos (keywordEach [] X.env))):=by rfl) :
  PE X (.Call (.Attribute o m apos) [] [] pos) (xj C m sp dvs E ta oE):=by
 intro NV s σ H Q I h
 refine Me (pl:=pl) (N0 (he NV s σ H _ I h) fun u s1 hm=>?_) ht
 obtain⟨x,H1,I1,rx,a,dx,fs,ex,ea,l,q⟩:=hm
 subst ex
 obtain rfl:u=Value.ref a:=rx
 refine jY I1 ea c hm l ?_
 exact Nj (first:=[.ref a]) I1.Ow hm.kp (yH (us:=[.ref a]) (vs:=[.ref a]) F hr hb hd hx I1 (.cons rfl .nil) q)
structure Mk (K:NY) (C f:Addr):Prop where
 makes:PySem.W.makesIn K C=true
 init:PySem.W.findIn K (.ref C) "__init__" = some (some (.ref f))
 fn:PySem.W.isFn K (.ref f)=true
 kp:PySem.W.keepIn K (.ref C)=true
theorem Dt {NV:List (Addr×Obj)}{σ:St}{H:Hp}{s:Shared}{Q:VK}{us:List Value}{vs:List V}(M:Mk X.K C f) (F:eY X.prog X.w X.K X.mg X.base CX k f fd ps sp) (hr:cf (k+1) X.A) (hb:Binds X.K fd ps ds) (hd:Vals dvs ds)
  (hx:Passes CX X E) (I:Inv X NV σ H s) (r:Vals vs us)
  (h: ∀x dx,H x=none->H dx=none->dx≠x->sp (.ref x::(vs++dvs)) (upd (upd H dx (.own x)) x (.ins C dx [])) (fun v H2=>v= .non/\Q (.ref x) H2) E) :
  wpAny (model X.prog X.w) X.A (call (.ref C) us) (EP X NV σ Q) X.xe s:=by
 have hq:=h (s.heap.objs.size+1) s.heap.objs.size (I.hok.fresh (MB _)) (I.hok.fresh (Kn _)) (K3 (Ms _))
 have I2:=Inv.made (C:=C) I
 have r2:Vals (V.ref (s.heap.objs.size+1)::(vs++dvs)) (Value.ref (s.heap.objs.size+1)::(us++ds)):= .cons rfl (r.append hd)
 have hl:(Value.ref (s.heap.objs.size+1)::us++ds).length=ps.length:=by
  have e:=r2.length
  rw[F.len _ _ _ _ hq] at e
  exact e.symm
 refine Nf (Ef (f:=f) I.Ow M.makes M.init (beq_iff_eq.mp M.fn) (MS (F.run _ X.stack _ _ ⟨Value.ref (s.heap.objs.size+1)::us,[]⟩ (Value.ref (s.heap.objs.size+1)::(us++ds)) _ _ E (hr.make C us [])
  (I2.Df.make C us []) (hb _ (Value.ref (s.heap.objs.size+1)::us) I2.Ow hl) r2 hq) fun r s' hq'=>?_))
 cases r with
 | error e=>exact hx NV σ _ _ e s' I2 hq'
 | ok fl =>
  cases fl with
  | ret u =>
   obtain⟨v,H',I3,rv,ev,q3⟩:=I2.after hq'
   subst ev
   exact⟨rv,⟨V.ref (s.heap.objs.size+1),H',I3,rfl,q3⟩⟩
  | next=>exact False.elim hq'
  | brk=>exact False.elim hq'
  | cont=>exact False.elim hq'
theorem CZ (M:Mk X.K C f) (F:eY X.prog X.w X.K X.mg X.base CX k f fd ps sp) (hr:cf (k+1) X.A) (hg:Gl X x) (hm:X.mg x=some (.ref C)) (hb:Binds X.K fd ps ds) (hd:Vals dvs ds) (hx:Passes CX X E)
  (hdb:(x == ("__debug__" : Str))=false:=by decide):PE X (.Call (.Name x p) [] [] pos) (EF C sp dvs E oE):=by
 intro NV s σ H Q I h
 refine Mc (mX I hg hm ?_ hdb)
 exact Nj I.Ow M.kp (Dt (us:=[]) M F hr hb hd hx I .nil h)
end
section
variable {X:Cx}{CX:Ox}{k:Nat}{f C:Addr}{fd:FuncData}{ps ks:List Str}{sp:Sp}{E:XK}{x m:Str}{p pos apos kpos:Pos}{e o:Expr}{es:List Expr}{kws:List Keyword}{te ta:TE}{t tk:TA}{nm:Option Str}
structure JU (K:NY) (fd:FuncData) (ps ks:List Str) (g:List Value->List Value->List Value) (gV:List V->List V->List V):Prop where
 to: ∀(s:Shared) (us ws:List Value),K.In s.heap->(g us ws).length=ps.length->BindsTo s fd ⟨us,ks.zip ws⟩ (ps.zip (g us ws))
 rel: ∀ {vs:List V}{us:List Value}{zs:List V}{ws:List Value},Vals vs us->Vals zs ws->Vals (gV vs zs) (g us ws)
variable {g:List Value->List Value->List Value}{gV:List V->List V->List V}
end
structure aE (N P:List Str) (sc:Scope):Prop where
 kind:sc.kind= .function
 co:sc.isCoroutine=false
 gen:sc.isGenerator=false
 nd:N.Nodup
 pre:N.take P.length=P
 par: ∀x∈P,sc.names.lookup x=some .local\/sc.names.lookup x=some .cell
 nofree: ∀y∈sc.names,y.2≠ .free
theorem wH {kindOf:Str->Option NameKind}{x:Str}: ∀ {binds:List (Str×Value)}{m:Str->Option Value},(∀v,(x,v)∉binds)->bindL kindOf binds m x=m x
 | [],_,_=>rfl
 | (n,v)::r,m,h=>by
  unfold bindL
  rw[wH fun w hw=>h w (Kx _ hw)]
  split
  .have:x≠n:=by rintro rfl; exact h v Ky
   simp[this]
  .rfl
theorem wC {kindOf:Str->Option NameKind}{x:Str}: ∀ {binds:List (Str×Value)}{m:Str->Option Value},(∀v,(x,v)∉binds)->bindC kindOf binds m x=m x
 | [],_,_=>rfl
 | (n,v)::r,m,h=>by
  unfold bindC
  rw[wC fun w hw=>h w (Kx _ hw)]
  split
  .rfl
  .have:x≠n:=by rintro rfl; exact h v Ky
   simp[this]
theorem wt {kindOf:Str->Option NameKind}{x:Str}{v:Value}: ∀ {P:List Str}{vs:List Value}{i:Nat}{m:Str->Option Value},P.Nodup->P[i]?=some x->vs[i]?=some v->kindOf x=some .local ->
  bindL kindOf (P.zip vs) m x=some v
 | [],_,_,_,_,h,_,_=>by simp at h
 | _::_,[],_,_,_,_,h,_=>by simp at h
 | p::P,w::vs,0,m,nd,h1,h2,hk=>by
  simp at h1 h2; subst h1; subst h2
  show bindL kindOf ((p,w)::P.zip vs) m p=_
  unfold bindL
  rw[wH fun v hv=>(Lq.mp nd).1 (NQ hv).1,Ko hk]
  simp
 | p::P,w::vs,i+1,m,nd,h1,h2,hk=>by
  show bindL kindOf ((p,w)::P.zip vs) m x=_
  unfold bindL
  exact wt (i:=i) (Lq.mp nd).2 (by simpa using h1) (by simpa using h2) hk
theorem wu {kindOf:Str->Option NameKind}{x:Str}{v:Value}: ∀ {P:List Str}{vs:List Value}{i:Nat}{m:Str->Option Value},P.Nodup->P[i]?=some x->vs[i]?=some v->kindOf x≠some .local ->
  bindC kindOf (P.zip vs) m x=some v
 | [],_,_,_,_,h,_,_=>by simp at h
 | _::_,[],_,_,_,_,h,_=>by simp at h
 | p::P,w::vs,0,m,nd,h1,h2,hk=>by
  simp at h1 h2; subst h1; subst h2
  show bindC kindOf ((p,w)::P.zip vs) m p=_
  unfold bindC
  rw[wC fun v hv=>(Lq.mp nd).1 (NQ hv).1,Kk hk]
  simp
 | p::P,w::vs,i+1,m,nd,h1,h2,hk=>by
  show bindC kindOf ((p,w)::P.zip vs) m x=_
  unfold bindC
  exact wu (i:=i) (Lq.mp nd).2 (by simpa using h1) (by simpa using h2) hk
def start (N:List Str) (vs:List V):St:=vs.map some++List.replicate (N.length - vs.length) none
def jV (CX:Ox) (P:Program) (w:World) (K:NY) (mg:Str->Option Value) (base:Heap) (N:List Str) (qual:Str) (scope:Scope) (f:Addr) (cd:Value) (A:Around) (outer:List Env) (s:Shared) (H:Hp) (E:XK):Cx where
 prog:=P
 w:=w
 K:=K
 mg:=mg
 base:=base
 A:=A.deeper (envOfC qual scope s.heap.objs.size f cd)
 N:=N
 s₀:=s
 H₀:=H
 env:=envOfC qual scope s.heap.objs.size f cd
 outer:=outer
 stack:=envOfC qual scope s.heap.objs.size f cd::outer
 ex:=[]
 calm:=true
 fn:=fun _=>true
 pn:=[]
 xe:=fun e s'=>wpAny (model P w) (A.deeper (envOfC qual scope s.heap.objs.size f cd)) (leaving (envOfC qual scope s.heap.objs.size f cd) e) (fun _ s''=>CX outer H s E e s'') (fun e' s''=>CX outer H s E e' s'') s'
theorem yh {sc:Scope}{n:Nat}{x:Str}(h:sc.names.lookup x=some .cell): ∃c,(cellsFrom n sc.names []).lookup x=some c:=by
 have q:=PySem.W.cellsFrom_some sc.names n [] (.inl h)
 exact LY.mp q
theorem CV {CX:Ox}{P:Program}{w:World}{K:NY}{mg:Str->Option Value}{base:Heap}{N ps:List Str}{qual:Str}{scope:Scope}{f:Addr}{cd:Value}{A:Around}{outer:List Env}{s s1:Shared}{H:Hp}{E:XK}{us:List Value}{vs:List V}
  (S:aE N ps scope) (hd:A.handled=none) (e0:ud P w K mg base A outer s H) (hl:vs.length=ps.length) (r:Vals vs us)
  (x:InCallC s s.heap.objs.size (bindL (envOfC qual scope s.heap.objs.size f cd).kindOf (ps.zip us) fun _=>none) (cellsFrom (s.heap.objs.size+1) scope.names []) (bindC (envOfC qual scope s.heap.objs.size f cd).kindOf (ps.zip us) fun _=>none) s1) :
  Inv (jV CX P w K mg base N qual scope f cd A outer s H E) [] (start N vs) H s1:=by
 have hpl:ps.length<=N.length:=by have:=Lm List.length S.pre; rw[K4] at this; omega
 obtain⟨h1,tk,rfl,hk⟩:=x.done
 have noA: ∀b:Addr,b∉(jV CX P w K mg base N qual scope f cd A outer s H E).ex:=fun b z=>absurd (show b∈([]:List Addr) from z) (by simp)
 refine⟨⟨e0.mod,S.kind,rfl,rfl,Kn _,fun y z c h1 h2=>?_,fun y hy=>?_,fun y c _ h=>?_,fun _=>hd,Around.frames_deeper e0.frames,.inr ⟨rfl,rfl⟩,fun b z=>absurd z (noA b),e0.bs,e0.bsz,fun b _ _=>noA b,fun b z=>absurd z (noA b),e0.fH,e0.frf⟩,
  rfl,e0.bare,Un.kept hk,⟨_,x.toInCall.ns,fun i y v h1 h2 h3=>?_⟩,fun y c h=>⟨_,x.cell y c h⟩,e0.hok.fresh (Kn _),fun y c h=>?_,fun p hp=>absurd (show p∈([]:List (Addr×Obj)) from hp) (by simp),e0.hok.kept hk,?_⟩
 .exact name_of_addr x.apart (Mu h1) (Mu h2)
 .have hy:scope.names.lookup y=some .cell\/scope.names.lookup y=some .free:=hy
  rcases hy with hy | hy
  .exact yh hy
  .exact absurd rfl (S.nofree _ (Mu hy))
 .exact KY (x.above y c (Mu h))
 .have hi:i < vs.length:=by
   unfold start at h2
   by_cases hi:i < vs.length
   .exact hi
   .rw[MM (by simpa using hi)] at h2
    rw[List.getElem?_replicate] at h2
    split at h2 <;> cases h2
  have ha:vs[i]?=some v:=by
   unfold start at h2
   rw[MO (by simpa using hi),KD] at h2
   cases e:vs[i]? with
   | none=>rw[e] at h2; cases h2
   | some a=>rw[e] at h2; cases h2; rfl
  obtain⟨u,hu,rv⟩:=r.get ha
  have hp:ps[i]?=some y:=by
   rw[<-S.pre,List.getElem?_take_of_lt (by omega)]; exact h1
  have ndP:ps.Nodup:=by rw[<-S.pre]; exact S.nd.sublist (List.take_sublist _ _)
  refine⟨u,rv,?_⟩
  rcases S.par y (Kp hp) with k | k
  .exact .inl ⟨k,wt ndP hp hu k⟩
  .obtain⟨c,e⟩:=yh (n:=s.heap.objs.size+1) k
   refine .inr ⟨.inl k,c,e,?_⟩
   have q:=x.cell y c e
   rw[wu ndP hp hu (by show scope.names.lookup y≠_; rw[k]; decide)] at q
   exact q
 .exact e0.hok.fresh (KY (x.above y c (Mu h)))
 .unfold start
  show _=N.length
  rw[Kr,Kj,Mf]
  omega
theorem Az {CX:Ox}{P:Program}{w:World}{K:NY}{mg:Str->Option Value}{base:Heap}{k:Nat}{f:Addr}{name qual:Str}{params:Arguments}{body:List Stmt}{scope:Scope}{dV kV doc pm cdv ct oc:Value}{an od:Option Addr}
  {osl:Array (Option Value)}{N ps:List Str}{sp:Sp} (lk:K.lookup f=some ⟨oc,od,.func (PySem.W.fnOf name qual params body scope dV kV doc pm an cdv ct),osl⟩) (hcd:PySem.W.codeIn K cdv qual=true) (S:aE N ps scope)
  (len: ∀vs H Q E,sp vs H Q E->vs.length=ps.length)
  (hbody: ∀(A:Around) (outer:List Env) (s:Shared) (H:Hp) (vs:List V) (Q:VK) (E:XK),cf k (A.deeper (envOfC qual scope s.heap.objs.size f cdv))->sp vs H Q E ->
   ∃t,Ol (jV CX P w K mg base N qual scope f cdv A outer s H E) body t/\t { nx:=fun _ H'=>Q .non H',rt:=Q } (start N vs) H) :
  eY P w K mg base CX (k+1) f (PySem.W.fnOf name qual params body scope dV kV doc pm an cdv ct) ps sp:=by
 refine⟨len,fun A outer s H args us vs Q E hr e0 hb r hsp=>?_⟩
 have hl:=len _ _ _ _ hsp
 have KX:K.In s.heap:=e0.mod.kin.keeps fun b o e=>(e0.bs b o e).1
 have lim:s.heap.NoLimit:=e0.mod.nolimit.keeps fun b o e=>(e0.bs b o e).1
 have hkind: ∀y∈ps.zip us,scope.names.lookup y.1=some .local\/(scope.names.lookup y.1=some .cell/\((cellsFrom (s.heap.objs.size+1) scope.names []).lookup y.1).isSome=true):=fun⟨n,v⟩ hy=>by
  rcases S.par n (NQ hy).1 with q | q
  .exact .inl q
  .exact .inr ⟨q,PySem.W.cellsFrom_some _ _ _ (.inl q)⟩
 refine codeAny_call_function hr.depth (KX _ _ lk) rfl S.co S.gen rfl (PySem.W.codeRec_of KX hcd) (hb _ _ _ _ ?_)
 refine wpAny_newFunctionEnv_cells S.kind hkind fun env he s1 x=>?_
 subst he
 refine⟨lim.keeps x.toInCall.keep,codeAny_func ?_⟩
 obtain⟨t,ht,hq⟩:=hbody A outer s H vs Q E (hr.deeper _) hsp
 have I:Inv (jV CX P w K mg base N qual scope f cdv A outer s H E) [] (start N vs) H s1:=CV S hr.hd e0 hl r x
 refine Lr (ht [] s1 (start N vs) H _ I hq) (fun fl s' hs=>?_) fun e s' hs=>hs
 have fin: ∀ {σ':St}{H':Hp}{v:V}{u:Value},Inv (jV CX P w K mg base N qual scope f cdv A outer s H E) [] σ' H' s'->RelV v u->Q v H'->CE outer P w H s Q u s' :=
  fun {σ' H' v u} J rv q=>⟨v,H',J.os,J.bare,J.base,J.hok,rv,q⟩
 cases fl with
 | ret u =>
  obtain⟨v,σ',H',J,rv,q⟩:=hs
  exact fin J rv q
 | next =>
  obtain⟨σ',H',J,q⟩:=hs
  exact fin (v:=V.non) (u:=Value.none) J rfl q
 | brk =>
  obtain⟨_,_,_,q⟩:=hs
  exact False.elim q
 | cont =>
  obtain⟨_,_,_,q⟩:=hs
  exact False.elim q
section
variable {X:Cx}{x:Str}{p pos:Pos}{e:Expr}{es:List Expr}{t:TA}{id T:String}{r:List V->Hp->VK->Prop}
def PB (r:List V->Hp->VK->Prop) (t:TA):TE:=fun σ H Q=>t σ H fun vs H1=>r vs H1 Q
theorem bz (hc:de X (.builtin id) r) (hg:Gl X x) (hm:X.mg x=none) (hv:bootBuiltins x=some (.builtin id)) (ha:PA X (e::es) t) (hn:x≠ "__name__" := by decide) (hdb:(x == ("__debug__" : Str))=false:=by decide)
  (he:starEach (e::es) X.env=(false,eval e X.env)::starEach es X.env:=by rfl) (hpl:(backTo pos (starEach es X.env)).any (·.1)=false:=by rfl):PE X (.Call (.Name x p) (e::es) [] pos) (PB r t):=by
 intro NV s σ H Q I h
 refine Mc (m9 I hg hm hv ?_ hn hdb)
 exact PyProof.Rows.callWith_builtin1 (N0 (ha pos NV s σ H _ I h) fun us s1 ⟨vs,H1,I1,r1,q1⟩=>hc NV s1 σ H1 vs us Q I1 r1 q1) he hpl
theorem dG (hc:de X (.type T) r) (hg:Gl X x) (hm:X.mg x=none) (hv:bootBuiltins x=some (.type T)) (ha:PA X (e::es) t) (hn:x≠ "__name__" := by decide) (hdb:(x == ("__debug__" : Str))=false:=by decide)
  (he:starEach (e::es) X.env=(false,eval e X.env)::starEach es X.env:=by rfl) (hpl:(backTo pos (starEach es X.env)).any (·.1)=false:=by rfl):PE X (.Call (.Name x p) (e::es) [] pos) (PB r t):=by
 intro NV s σ H Q I h
 refine Mc (m9 I hg hm hv ?_ hn hdb)
 exact Ma (N0 (ha pos NV s σ H _ I h) fun us s1 ⟨vs,H1,I1,r1,q1⟩=>hc NV s1 σ H1 vs us Q I1 r1 q1) he hpl
end
end L2
namespace HT
open PySem PyProof.Rows
def lexLt:List Int->List Int->Bool
 | [],[]=>false
 | [],_::_=>true
 | _::_,[]=>false
 | x::xs,y::ys=>if x=y then lexLt xs ys else decide (x < y)
section
open PySem.SeqAt
open PySem.AutoSeq1 (wpAny_loadPart')
open PySem.MeetsSeq PySem.MeetsSeq2 PySem.MeetsSeq3
end
section
variable {prog:Program}{w:World}{A:Around}{E:Value->Shared->Prop}{s:Shared}
def Oc (n d:Nat):Option Int->Nat
 | none=>d
 | some v=>if v < 0 then (v+(n:Int)).toNat else min v.toNat n
theorem zA (n d k:Nat):Oc n d (some (k:Int))=min k n:=by
 show (if (k:Int) < 0 then ((k:Int)+(n:Int)).toNat else min (k:Int).toNat n)=min k n
 rw[Kk (by omega),KO]
theorem BG (n d:Nat) (hd:d<=n) (o:Option Int):Oc n d o<=n:=by
 cases o with
 | none=>exact hd
 | some v =>
  show (if v < 0 then (v+(n:Int)).toNat else min v.toNat n)<=n
  by_cases hv:v < 0
  .rw[Ko hv]; omega
  .rw[Kk hv]; exact NG _ _
end
end HT
namespace L2
open PySem PySem.Spec PyProof.Rows
abbrev TO:=St->Hp->(Option Int->Hp->Prop)->Prop
def PO (X:Cx) (e:Option Expr) (t:TO):Prop :=
 ∀(NV:List (Addr×Obj)) (s:Shared) (σ:St) (H:Hp) (Q:Option Int->Hp->Prop),Inv X NV σ H s->t σ H Q ->
  wpAny (model X.prog X.w) X.A (evalPart e X.env) (fun u s'=> ∃o H',Inv X NV σ H' s'/\IsPart u o/\Q o H') X.xe s
def FT:TO:=fun _ H Q=>Q none H
inductive GD (Q:Option Int->Hp->Prop) (x:V) (H1:Hp):Prop | mk (i:_) (e0:x= .int i) (q:Q (some i) H1)
def Ia (t:TE):TO:=fun σ H Q=>t σ H fun x H1=>GD Q x H1
theorem intsAre_of {ns:List Int}: ∀ {us:List Value},Vals (ns.map V.int) us->IntsAre us ns:=by
 induction ns with
 | nil=>intro us r; rw[M9] at r; cases r; exact .nil
 | cons n ns ih =>
  intro us r
  rw[Lg] at r
  cases r with
  | cons r1 r2 =>
   obtain⟨t,e⟩:=r1
   subst e
   exact .cons n t (ih r2)
section
variable {X:Cx}{e:Expr}{te:TE}{lo hi:Option Expr}{tl th:TO}{pos p2:Pos}
theorem gC:PO X none FT:=by
 intro NV s σ H Q I h
 rw[evalPart_none]
 exact K1 ⟨none,H,I,.none,h⟩
theorem gB (h:PE X e te):PO X (some e) (Ia te):=by
 intro NV s σ H Q I hw
 rw[evalPart_some]
 refine N0 (h NV s σ H _ I hw) fun u s1 ⟨x,H1,I1,r1,q1⟩=>?_
 obtain⟨i,rfl,q⟩:=q1
 obtain⟨t,rfl⟩:=r1
 exact⟨some i,H1,I1,.int i t,q⟩
def OT (X:Cx) (r:V->Option Int->Option Int->Hp->VK->Prop):Prop :=
 ∀(NV:List (Addr×Obj)) (s:Shared) (σ:St) (H:Hp) (x:V) (v vl vu:Value) (lo hi:Option Int) (sl:Addr) (Q:VK),Inv X NV σ H s->RelV x v->s.heap.IsSliceOf sl vl vu .none->IsPart vl lo->IsPart vu hi->r x lo hi H Q ->
  ∃T id,typeLookup (.type T) "__getitem__" = pure (some (.builtin id))/\s.TypeIs v T/\wpAny (model X.prog X.w) X.A (getItem v (.ref sl)) (EP X NV σ Q) X.xe s
def PV (r:V->Option Int->Option Int->Hp->VK->Prop) (te:TE) (tl th:TO):TE:=fun σ H Q=>te σ H fun x H1=>tl σ H1 fun l H2=>th σ H2 fun u H3=>r x l u H3 Q
theorem fK {r:V->Option Int->Option Int->Hp->VK->Prop}(hr:OT X r) (he:PE X e te) (hl:PO X lo tl) (hu:PO X hi th):PE X (.Subscript e (.Slice lo hi none p2) pos) (PV r te tl th):=by
 intro NV s σ H Q I h
 refine Subscript_ (N0 (he NV s σ H _ I h) fun v s1 ⟨x,H1,I1,r1,q1⟩=>?_)
 refine wpAny_Slice (N0 (hl NV s1 σ H1 _ I1 q1) fun vl s2 ⟨l,H2,I2,pl,q2⟩=>N0 (hu NV s2 σ H2 _ I2 q2) fun vu s3 ⟨u,H3,I3,pu,q3⟩=>?_)
 rw[evalPart_none]
 refine K1 ?_
 have I4:Inv X NV σ H3 { s3 with heap:=s3.heap.push { cls:= .type "slice",data:= .fields #[vl,vu,.none] } }:=I3.kept (t':=s3.toks) fun b ob q=>Kq _ q
 obtain⟨T,id,hT,ht,hg⟩:=hr NV { s3 with heap:=s3.heap.push { cls:= .type "slice",data:= .fields #[vl,vu,.none] } } σ H3 x v vl vu l u s3.heap.objs.size Q I4 r1 (Heap.IsSliceOf.new ..) pl pu q3
 show wpAny (model X.prog X.w) X.A (subscriptTail e (.Slice lo hi none p2) v (.ref s3.heap.objs.size)) (EP X NV σ Q) X.xe { s3 with heap:=s3.heap.push { cls:= .type "slice",data:= .fields #[vl,vu,.none] } }
 exact tail_any (ops:=[.ref s3.heap.objs.size,v]) ht hT hg (by with_unfolding_all rfl)
def qQ (xs:List V) (lo hi:Option Int):List V:=(xs.drop (HT.Oc xs.length 0 lo)).take (HT.Oc xs.length xs.length hi - HT.Oc xs.length 0 lo)
theorem yZ (xs:List V) (lo hi:Option Int):(qQ xs lo hi).length<=xs.length:=by
 unfold qQ
 rw[K4,Ls]
 omega
inductive Ka (K:NY) (x:V) (lo hi:Option Int) (H:Hp) (Q:VK):Prop | mk (a xs:_) (e0:x= .ref a) (e1:N1 K H a xs) (e2: ¬(HT.Oc xs.length 0 lo=0/\HT.Oc xs.length xs.length hi=xs.length)) (q: ∀p,H p=none->Q (.ref p) (upd H p (.tup (qQ xs lo hi))))
inductive JY (K:NY) (x y:V) (H:Hp) (Q:VK):Prop | mk (a b ns ms:_) (e0:x= .ref a) (e1:y= .ref b) (e2:N1 K H a (ns.map V.int)) (e3:N1 K H b (ms.map V.int)) (q:Q (.bl (HT.lexLt ns ms)) H)
inductive JV (K:NY) (x y:V) (H:Hp) (Q:VK):Prop | mk (a b xs ys:_) (e0:x= .ref a) (e1:y= .ref b) (e2:N1 K H a xs) (e3:N1 K H b ys) (e4:xs≠[]) (e5:xs.length+ys.length<=sizeLine) (e6:(ys=[]->Q (.ref a) H)) (q:(ys≠[]-> ∀p,H p=none->Q (.ref p) (upd H p (.tup (xs++ys)))))
end
def OS (n:Nat) (i:Int):Option Nat:=if 0<=i then (if i < n then some i.toNat else none) else if -(n:Int)<=i then some (i+n).toNat else none
def Ob {α:Type}(xs:List α) (i:Int):Option α:=(OS xs.length i).bind fun j=>xs[j]?
theorem zQ {n:Nat}{i:Int}{j:Nat}(h:OS n i=some j):seqIndex? i n=some j/\j < n/\ -(n:Int)<=i/\i < n:=by
 unfold OS at h
 by_cases h0:0<=i
 .rw[Ko h0] at h
  by_cases h1:i < n
  .rw[Ko h1] at h
   have e:i.toNat=j:=KJ h
   exact⟨by rw[seqIndex_of h0 h1,e],by omega,by omega,h1⟩
  .rw[Kk h1] at h; cases h
 .rw[Kk h0] at h
  by_cases h1: -(n:Int)<=i
  .rw[Ko h1] at h
   have e:(i+n).toNat=j:=KJ h
   exact⟨by rw[seqIndex_neg (by omega) h1,e],by omega,h1,by omega⟩
  .rw[Kk h1] at h; cases h
theorem vC {α:Type}{xs:List α}{i:Int}{v:α}(h:Ob xs i=some v): ∃j,seqIndex? i xs.length=some j/\xs[j]?=some v/\j < xs.length/\ -(xs.length:Int)<=i/\i < xs.length:=by
 unfold Ob at h
 cases e:OS xs.length i with
 | none=>rw[e] at h; cases h
 | some j =>
  rw[e] at h
  obtain⟨h1,h2,h3,h4⟩:=zQ e
  exact⟨j,h1,h,h2,h3,h4⟩
theorem cm {α:Type}{xs:List α}{j:Nat}{v:α}(h:xs[j]?=some v):Ob xs (j:Int)=some v:=by
 have hj:j < xs.length:=(Kv.mp h).1
 have e:OS xs.length (j:Int)=some j:=by
  unfold OS
  rw[Ko (by omega),Ko (by omega)]; simp
 unfold Ob; rw[e]; exact h
def vQ (b:Expr):Prop:= ∀o i,subscripted b false o i=operate [o,i] (getItem o i)
def Pk (X:Cx) (r:R2):Prop :=
 ∀(value slice:Expr) (NV:List (Addr×Obj)) (s:Shared) (σ:St) (H:Hp) (x y:V) (v u:Value) (Q:VK),Inv X NV σ H s->RelV x v->RelV y u->r x y H Q ->
  subscripted slice false v u=operate [v,u] (getItem v u)->wpAny (model X.prog X.w) X.A (subscriptTail value slice v u) (EP X NV σ Q) X.xe s
def Pr (X:Cx) (id:String) (r:V->List V->Hp->VK->Prop):Prop :=
 ∀(NV:List (Addr×Obj)) (s:Shared) (σ:St) (H:Hp) (x:V) (xs:List V) (v:Value) (us:List Value) (Q:VK),Inv X NV σ H s->RelV x v->Vals xs us->r x xs H Q ->
  wpAny (model X.prog X.w) X.A (call (.builtin id) (v::us)) (EP X NV σ Q) X.xe s
section
variable {X:Cx}{a b:Expr}{ta tb:TE}{pos:Pos}
theorem vi {r:R2}(hr:Pk X r) (ha:PE X a ta) (hb:PE X b tb) (hs:vQ b):PE X (.Subscript a b pos) (OX r ta tb):=by
 intro NV s σ H Q I h
 exact Subscript_ (Dw ha hb I h fun v u s2 x y H2 I2 rx ry q=>hr a b NV s2 σ H2 x y v u Q I2 rx ry q (hs _ _))
inductive II (K:NY) (x y:V) (H:Hp) (Q:VK):Prop | mk (p xs i v:_) (e0:x= .ref p) (e1:y= .int i) (e2:NX K H p xs) (e3:Ob xs i=some v) (q:Q v H)
def Hx (K:NY):R2:=fun x y H Q=>II K x y H Q
inductive HJ (K:NY) (x y:V) (H:Hp) (Q:VK):Prop | mk (p xs i v:_) (e0:x= .ref p) (e1:y= .int i) (e2:N1 K H p xs) (e3:Ob xs i=some v) (q:Q v H)
def A0 (K:NY):R2:=fun x y H Q=>HJ K x y H Q
inductive Ib (x y:V) (H:Hp) (Q:VK):Prop | mk (z i c:_) (e0:x= .str z) (e1:y= .int i) (e2:z.length<=sizeLine) (e3:Ob z.cps.toList i=some c) (q:Q (.str ⟨#[c]⟩) H)
def JE:R2:=fun x y H Q=>Ib x y H Q
theorem Fh:Pk X (Hx X.K):=by
 intro value slice NV s σ H x y v u Q I rx ry h hs
 obtain⟨p,xs,i,z,rfl,rfl,hq,he,q⟩:=h
 cases rx
 obtain⟨t,rfl⟩:=ry
 obtain⟨its,r,pl,hz⟩:=I.list hq
 obtain⟨j,h1,h2,h3,h4,h5⟩:=vC he
 obtain⟨w,ew,rw'⟩:=r.get h2
 have hl:=r.length
 have hn:=pA
 have fin:EP X NV σ Q w s:=⟨z,H,I,rw',q⟩
 by_cases h0:0<=i
 .have hj:i.toNat=j:=by
   rw[seqIndex_of h0 h5] at h1
   exact KJ h1
  exact item_listR pl.isList h0 (by omega) (by rw[hj]; simpa using ew) fin hs
 .have hj:(i+(its.toArray.size:Int)).toNat=j:=by
   rw[seqIndex_neg (by omega) h4] at h1
   rw[KC,<-hl]
   exact KJ h1
  exact subscriptTail_builtinR (x:=w) pl.isList.typeIs slot_list_getitem.lookup
   (wpAny_getItem_list_neg (Q:=fun r s'=>r=w/\EP X NV σ Q r s') pl.isList (by omega) (by rw[KC] <;> omega) (by omega) (by rw[hj]; simpa using ew) ⟨rfl,fin⟩) hs
theorem G9:Pk X (A0 X.K):=by
 intro value slice NV s σ H x y v u Q I rx ry h hs
 obtain⟨p,xs,i,z,rfl,rfl,hq,he,q⟩:=h
 cases rx
 obtain⟨t,rfl⟩:=ry
 obtain⟨its,r,pl,hz⟩:=I.tuple hq
 obtain⟨j,h1,h2,h3,h4,h5⟩:=vC he
 obtain⟨w,ew,rw'⟩:=r.get h2
 have hl:=r.length
 have hn:=pA
 have fin:EP X NV σ Q w s:=⟨z,H,I,rw',q⟩
 exact subscriptTail_builtinR (x:=w) pl.typeIs slot_tuple_getitem.lookup
  (getItem_tuple (j:=j) (Q:=fun r s'=>r=w/\EP X NV σ Q r s') pl (by omega) (by omega) (by rw[KC,<-hl]; exact h1) (by simpa using ew) ⟨rfl,fin⟩) hs
theorem yk:Pk X JE:=by
 intro value slice NV s σ H x y v u Q I rx ry h hs
 obtain⟨z,i,c,rfl,rfl,hz,he,q⟩:=h
 obtain⟨t,rfl⟩:=rx
 obtain⟨t',rfl⟩:=ry
 obtain⟨j,h1,h2,h3,h4,h5⟩:=vC he
 have hl:z.cps.toList.length=z.length:=by simp[Str.length]
 rw[hl] at h1 h4 h5
 have hn:=pA
 exact tail_any (typeIs_str s z t) slot_str_getitem.lookup (getItem_str (c:=c) (by
  have e1:decide (i < -(2 ^ 63:Int))=false:=KH (by omega)
  have e2:decide (i>=2 ^ 63)=false:=KH (by omega)
  rw[e1,e2,Bool.or_false]) (by rw[h1]; simpa using h2) ⟨.str ⟨#[c]⟩,H,I.tok _,⟨_,rfl⟩,q⟩) hs
theorem Ad (its:List Value) (n j:Nat) (u:Value):Obj.mapSeq (·.setIfInBounds j u) { cls:= .type "list",data:= .seq its.toArray n }={ cls:= .type "list",data:= .seq (its.set j u).toArray n }:=by
 simp[Obj.mapSeq]
theorem Inv.lst {NV:List (Addr×Obj)}{σ:St}{H:Hp}{s:Shared}{p:Addr}{xs:List V}(I:Inv X NV σ H s) (h:H p=some (.lst xs)) :
  ∃(its:List Value) (n:Nat),Vals xs its/\s.heap.get? p=some { cls:= .type "list",data:= .seq its.toArray n }/\xs.length<=sizeLine:=by
 obtain⟨z,its,n,r,e⟩:=I.hok p _ h
 exact⟨its,n,r,e,z⟩
theorem Inv.Gw {NV:List (Addr×Obj)}{σ:St}{H:Hp}{s:Shared}{p:Addr}{xs ys:List V}{its its':List Value}{n n':Nat}{f:Obj->Obj}(I:Inv X NV σ H s) (h:H p=some (.lst xs))
  (ho:s.heap.get? p=some { cls:= .type "list",data:= .seq its.toArray n }) (hf:f { cls:= .type "list",data:= .seq its.toArray n }={ cls:= .type "list",data:= .seq its'.toArray n' }) (r:Vals ys its') (hz:ys.length<=sizeLine) (t:Nat) :
  Inv X NV σ (upd H p (.lst ys)) { s with heap:=s.heap.update p f,toks:=t }:=by
 have e:(s.heap.update p f).get? p=some { cls:= .type "list",data:= .seq its'.toArray n' }:=by
  rw[LV f ho (by rw[hf] <;> rfl),hf]
 refine I.write (x:=p) (e:=p) (by rw[h]; trivial) (.inl rfl) (fun b u hb q=>(Lo _ _ (KW hb)).trans q) ⟨_,e⟩ ?_
 exact⟨hz,its',n',r,e⟩
inductive GH (o i v:V) (H:Hp) (Q:Hp->Prop):Prop | mk (p xs k j:_) (e0:o= .ref p) (e1:i= .int k) (e2:H p=some (.lst xs)) (e3:OS xs.length k=some j) (q:Q (upd H p (.lst (xs.set j v))))
def Im:V->V->V->Hp->(Hp->Prop)->Prop:=fun o i v H Q=>GH o i v H Q
theorem set_list:Hl X Im:=by
 intro NV s σ H o i v ov iv u Q I ro ri rv h
 obtain⟨p,xs,k,j,rfl,rfl,hp,hj,q⟩:=h
 cases ro
 obtain⟨t,rfl⟩:=ri
 obtain⟨its,n,r,ho,hz⟩:=I.lst hp
 obtain⟨h1,h2,h3,h4⟩:=zQ hj
 have hl:=r.length
 have hn:=pA
 have I':Inv X NV σ (upd H p (.lst (xs.set j v))) { s with heap:=s.heap.update p (Obj.mapSeq (·.setIfInBounds j u)) } :=
  I.Gw hp ho (Ad its n j u) (r.set rv j) (by rw[Mg]; exact hz) s.toks
 by_cases h0:0<=k
 .have hk:k.toNat=j:=by
   rw[seqIndex_of h0 h4] at h1
   exact KJ h1
  exact PySem.W.ki_setAt ho h0 (by omega) (by rw[KC,<-hl]; exact h4) (by rw[hk]; exact⟨_,I',q⟩)
 .have hk:(k+(its.toArray.size:Int)).toNat=j:=by
   rw[seqIndex_neg (by omega) h3] at h1
   rw[KC,<-hl]
   exact KJ h1
  exact PySem.W.ki_setBack ho (by omega) (by rw[KC,<-hl]; exact h3) (by omega) (by rw[hk]; exact⟨_,I',q⟩)
theorem ym (lo hi:Option Int) (n:Nat):(sliceBounds lo hi none n).1=((HT.Oc n 0 lo:Nat):Int)/\(sliceBounds lo hi none n).2.1=((HT.Oc n n hi:Nat):Int)/\(sliceBounds lo hi none n).2.2=1:=by
 have e: ∀d (o:Option Int),o.elim d (clipAt n)=HT.Oc n d o:=fun d o=>by
  cases o with
  | none=>rfl
  | some i =>
   show (max 0 (min (if i < 0 then i+n else i) n)).toNat=if i < 0 then (i+n).toNat else min i.toNat n
   by_cases c:i < 0
   .rw[Ko c,Ko c,Int.min_eq_left (by omega),Int.max_def]
    split
    .rfl
    .exact (Int.toNat_of_nonpos (Int.le_of_lt (Int.not_le.mp (by assumption)))).symm
   .obtain⟨k,rfl⟩:=Int.eq_ofNat_of_zero_le (Int.not_lt.mp c)
    rw[Kk c,Kk c,Int.max_eq_right (Int.le_min.mpr ⟨Int.not_lt.mp c,Int.natCast_nonneg n⟩)]
    rw[Int.min_def,Nat.min_def]
    split
    .rw[Ko (Int.ofNat_le.mp (by assumption))]
    .rw[Kk (fun z=>absurd (Int.ofNat_le.mpr z) (by assumption))]
     rfl
 rw[sliceBounds_plain,e,e]
 exact⟨rfl,rfl,rfl⟩
theorem wM (its:List Value) (lo hi:Option Int):slicePick its.toArray lo hi none=((its.drop (HT.Oc its.length 0 lo)).take (HT.Oc its.length its.length hi - HT.Oc its.length 0 lo)).toArray:=by
 obtain⟨h1,h2,h3⟩:=ym lo hi its.toArray.size
 unfold slicePick
 rw[h1,h2,h3]
 simp only[sliceRange_one,pick_run,KC] <;> rfl
inductive HX (K:NY) (x:V) (lo hi:Option Int) (H:Hp) (Q:VK):Prop | mk (a xs:_) (e0:x= .ref a) (e1:NX K H a xs) (q: ∀p,H p=none->Q (.ref p) (upd H p (.lst (qQ xs lo hi))))
def qc (K:NY):V->Option Int->Option Int->Hp->VK->Prop:=fun x lo hi H Q=>HX K x lo hi H Q
theorem jx:OT X (qc X.K):=by
 intro NV s σ H x v vl vu lo hi sl Q I rx hs pl pu h
 obtain⟨a,xs,rfl,hx,q⟩:=h
 cases rx
 obtain⟨its,r,ht,hz⟩:=I.list hx
 have hlen:=r.length
 refine⟨"list",_,slot_list_getitem.lookup,ht.isList.typeIs,?_⟩
 refine wpAny_getItem_list_slice ht.isList hs pl pu .none (by simp) ?_ (by rw[KC] <;> omega)
 rw[wM,<-hlen]
 refine⟨.ref s.heap.objs.size,_,I.laid (t':=s.toks) (o:= .lst (qQ xs lo hi)) (fun b ob q=>Kq _ q) (Kn _) ?_,rfl,q _ (I.hok.fresh (Kn _))⟩
 exact⟨KP (yZ xs lo hi) hz,_,0,(r.drop (HT.Oc xs.length 0 lo)).take (HT.Oc xs.length xs.length hi - HT.Oc xs.length 0 lo),K7 _ rfl⟩
def bZ:V->Bool
 | .non=>true
 | .bl _=>true
 | .int _=>true
 | .str _=>true
 | _=>false
def OI:V->V->Bool
 | .non,.non=>true
 | .bl a,.bl b=>a == b
 | .bl a,.int b=>(if a then 1 else 0) == b
 | .int a,.bl b=>a == (if b then 1 else 0)
 | .int a,.int b=>a == b
 | .str a,.str b=>a == b
 | _,_=>false
theorem yv {A:Around}{s:Shared}{y x:V}{u v:Value}(ry:RelV y u) (rx:RelV x v) (fy:bZ y=true) (fx:bZ x=true):SeqAt.EqAt A s u v (OI y x):=by
 cases y with
 | non =>
  cases ry
  cases x with
  | non=>cases rx; exact SeqAt.EqAt.same _
  | bl b=>cases rx; exact SeqAt.EqAt.none_bool b
  | int b=>obtain⟨t,rfl⟩:=rx; exact SeqAt.EqAt.none_int b t
  | str b=>obtain⟨t,rfl⟩:=rx; exact SeqAt.EqAt.none_str b t
  | _=>exact absurd (show false=true from fx) KG
 | bl a =>
  cases ry
  cases x with
  | non=>cases rx; exact SeqAt.EqAt.bool_none a
  | bl b=>cases rx; exact SeqAt.EqAt.bool_bool a b
  | int b=>obtain⟨t,rfl⟩:=rx; exact SeqAt.EqAt.bool_int a b t
  | str b=>obtain⟨t,rfl⟩:=rx; exact SeqAt.EqAt.bool_str a b t
  | _=>exact absurd (show false=true from fx) KG
 | int a =>
  obtain⟨t',rfl⟩:=ry
  cases x with
  | non=>cases rx; exact SeqAt.EqAt.int_none a t'
  | bl b=>cases rx; exact SeqAt.EqAt.int_bool a t' b
  | int b=>obtain⟨t,rfl⟩:=rx; exact SeqAt.EqAt.int_int a t' b t
  | str b=>obtain⟨t,rfl⟩:=rx; exact SeqAt.EqAt.int_str a t' b t
  | _=>exact absurd (show false=true from fx) KG
 | str a =>
  obtain⟨t',rfl⟩:=ry
  cases x with
  | non=>cases rx; exact SeqAt.EqAt.str_none a t'
  | bl b=>cases rx; exact SeqAt.EqAt.str_bool a t' b
  | int b=>obtain⟨t,rfl⟩:=rx; exact SeqAt.EqAt.str_int a t' b t
  | str b=>obtain⟨t,rfl⟩:=rx; exact Nr a t' b t
  | _=>exact absurd (show false=true from fx) KG
 | _=>exact absurd (show false=true from fy) KG
def OF (x:V) (u:Value):Bool:=match u with
 | .none=>OI .non x
 | .bool b=>OI (.bl b) x
 | .int i _=>OI (.int i) x
 | .str z _=>OI (.str z) x
 | _=>false
theorem Bd {x y:V}{u:Value}(r:RelV y u) (f:bZ y=true):OF x u=OI y x:=by
 cases y with
 | non=>cases r; rfl
 | bl b=>cases r; rfl
 | int i=>obtain⟨t,rfl⟩:=r; rfl
 | str z=>obtain⟨t,rfl⟩:=r; rfl
 | _=>exact absurd (show false=true from f) KG
theorem pN {x:V}: ∀ {xs:List V}{us:List Value},Vals xs us->xs.all bZ=true->us.any (OF x)=xs.any fun y=>OI y x
 | _,_,.nil,_=>rfl
 | y::xs,u::us,.cons r t,f=>by
  rw[Ny,Lc] at f
  rw[LR,LR,Bd r f.1,pN t f.2]
theorem oi {A:Around}{s:Shared}{x:V}{v:Value}(rx:RelV x v) (fx:bZ x=true): ∀ {xs:List V}{us:List Value},Vals xs us->xs.all bZ=true-> ∀u∈us,SeqAt.EqAt A s u v (OF x u)
 | _,_,.nil,_=>fun u hu=>by cases hu
 | y::xs,u::us,.cons r t,f=>fun u' hu=>by
  rw[Ny,Lc] at f
  rcases Ks.mp hu with rfl | hu
  .rw[Bd r f.1]; exact yv r rx f.1 fx
  .exact oi rx fx t f.2 u' hu
def Of (x:V) (xs:List V):Bool:=xs.any fun y=>OI y x
inductive Jq (K:NY) (neg:Bool) (x y:V) (H:Hp) (Q:VK):Prop | mk (p xs:_) (e0:y= .ref p) (e1:(NX K H p xs\/N1 K H p xs)) (e2:bZ x=true) (e3:xs.all bZ=true) (q:Q (.bl (if neg then !Of x xs else Of x xs)) H)
def OH (K:NY) (neg:Bool):R2:=fun x y H Q=>Jq K neg x y H Q
theorem hE:N7 X (compareOp .In) (OH X.K false):=by
 intro NV s σ H x y v u Q I rx ry h
 obtain⟨p,xs,rfl,hq,fx,fs,q⟩:=h
 cases ry
 rcases hq with hq | hq
 .obtain⟨its,r,pl,hz⟩:=I.list hq
  refine SeqAt.in_listAt (OF x) pl.isList (fun w hw=>oi rx fx r fs w (by simpa using hw)) ⟨.bl _,H,I,rfl,?_⟩
  rw[show its.toArray.any (OF x)=its.any (OF x) by simp,pN r fs]
  exact q
 .obtain⟨its,r,pl,hz⟩:=I.tuple hq
  refine SeqAt.in_tupleAt (OF x) pl (fun w hw=>oi rx fx r fs w (by simpa using hw)) ⟨.bl _,H,I,rfl,?_⟩
  rw[show its.toArray.any (OF x)=its.any (OF x) by simp,pN r fs]
  exact q
theorem ip:N7 X (compareOp .NotIn) (OH X.K true):=by
 intro NV s σ H x y v u Q I rx ry h
 obtain⟨p,xs,rfl,hq,fx,fs,q⟩:=h
 cases ry
 rcases hq with hq | hq
 .obtain⟨its,r,pl,hz⟩:=I.list hq
  refine SeqAt.notIn_listAt (OF x) pl.isList (fun w hw=>oi rx fx r fs w (by simpa using hw)) ⟨.bl _,H,I,rfl,?_⟩
  rw[show its.toArray.any (OF x)=its.any (OF x) by simp,pN r fs]
  exact q
 .obtain⟨its,r,pl,hz⟩:=I.tuple hq
  refine SeqAt.notIn_tupleAt (OF x) pl (fun w hw=>oi rx fx r fs w (by simpa using hw)) ⟨.bl _,H,I,rfl,?_⟩
  rw[show its.toArray.any (OF x)=its.any (OF x) by simp,pN r fs]
  exact q
theorem xH:de X (.type "list") (fun xs H Q=> ∃p ys,xs=[.ref p]/\(NX X.K H p ys\/N1 X.K H p ys)/\ ∀l,H l=none->Q (.ref l) (upd H l (.lst ys))):=by
 intro NV s σ H xs us Q I r h
 obtain⟨p,ys,rfl,hq,q⟩:=h
 obtain⟨u,rfl,rx⟩:=vals1 r
 cases rx
 have fin: ∀(its:List Value),Vals ys its->ys.length<=sizeLine-> ∀(h':Heap) (c':Nat),(∀b o',s.heap.get? b=some o'->h'.get? b=some o') ->
   h'.get? s.heap.objs.size=some { cls:= .type "list",dict:=none,data:= .seq its.toArray c',slots:= #[] }->EP X NV σ Q (.ref s.heap.objs.size) { s with heap:=h' }:=fun its r' hz h' c' kp e =>
  ⟨.ref s.heap.objs.size,_,I.laid (t':=s.toks) kp (Kn _) (show dt X.prog X.w _ h' _ (.lst ys) from ⟨hz,its,c',r',e⟩),rfl,q _ (I.hok.fresh (Kn _))⟩
 rcases hq with hq | hq
 .obtain⟨its,r',pl,hz⟩:=I.list hq
  have hlen:=r'.length
  obtain⟨o,ho,hc,n,hd⟩:=pl.isList
  exact call_list_seq p (.inl rfl) ho hc hd (fun h' c' kp e=>fin its r' hz h' c' kp e) (by simp only[KC] <;> omega)
 .obtain⟨its,r',pl,hz⟩:=I.tuple hq
  have hlen:=r'.length
  obtain⟨o,ho,hc,n,hd⟩:=pl
  exact call_list_seq p (.inr rfl) ho hc hd (fun h' c' kp e=>fin its r' hz h' c' kp e) (by simp only[KC] <;> omega)
def Pt (K:NY) (T:String) (x:V) (H:Hp):Prop:=match x with
 | .str _=>T= "str"
 | .int _=>T= "int"
 | .ref p=>(T= "list" /\ ∃xs,NX K H p xs)\/(T= "tuple" /\ ∃o,K.lookup p=some o/\o.cls= .type "tuple" /\ o.dict=none) \/
   (T= "dict" /\ ((∃kvs,H p=some (.dK kvs))\/ ∃kvs,H p=some (.dT kvs)))\/(T= "set" /\ ∃S n,H p=some (.set S n))
 | _=>False
theorem BE {NV:List (Addr×Obj)}{σ:St}{H:Hp}{s:Shared}{T:String}{x:V}{v:Value}(I:Inv X NV σ H s) (r:RelV x v) (ty:Pt X.K T x H) :
  s.TypeIs v T/\ ∀a,v= .ref a-> ∃ob,s.heap.get? a=some ob/\ob.dict=none:=by
 cases x with
 | str z =>
  obtain⟨t,rfl⟩:=r
  cases (show T= "str" from ty)
  exact⟨typeIs_str s z t,fun _ e=>nomatch e⟩
 | int i =>
  obtain⟨t,rfl⟩:=r
  cases (show T= "int" from ty)
  exact⟨typeIs_int s i t,fun _ e=>nomatch e⟩
 | ref p =>
  cases r
  rcases ty with⟨rfl,xs,hq⟩ | ⟨rfl,o,hk,hc,hd⟩ | ⟨rfl,hk⟩ | ⟨rfl,S,n,hk⟩
  .obtain⟨its,_,pl,_⟩:=I.list hq
   refine⟨pl.isList.typeIs,fun a e=>?_⟩
   cases e
   obtain⟨o,n,e,c,hd,_⟩:=pl
   exact⟨o,e,hd⟩
  .refine⟨⟨o,I.Ow p o hk,hc⟩,fun a e=>?_⟩
   cases e
   exact⟨o,I.Ow _ o hk,hd⟩
  .have z: ∃o,s.heap.get? p=some o/\o.ExactDict:=by
    rcases hk with⟨kvs,hk⟩ | ⟨kvs,hk⟩
    .obtain⟨_,_,_,_,o,_,_,e,ex,_⟩:=I.hok p _ hk
     exact⟨o,e,ex⟩
    .obtain⟨_,_,_,_,o,_,_,e,ex,_⟩:=I.hok p _ hk
     exact⟨o,e,ex⟩
   obtain⟨o,e,ex⟩:=z
   refine⟨⟨o,e,ex.1⟩,fun a e2=>?_⟩
   cases e2
   exact⟨o,e,ex.2.1⟩
  .obtain⟨o,_,_,_,e,ex,_⟩:=I.hok p _ hk
   refine⟨⟨o,e,ex.1⟩,fun a e2=>?_⟩
   cases e2
   exact⟨o,e,ex.2.1⟩
 | _=>exact False.elim ty
def vx (K:NY) (T:String) (r:V->List V->Hp->VK->Prop) (to:TE):TE:=fun σ H Q=>to σ H fun x H1=>Pt K T x H1/\r x [] H1 Q
def Oh (K:NY) (T:String) (r:V->List V->Hp->VK->Prop) (to:TE) (t:TA):TE:=fun σ H Q=>to σ H fun x H1=>Pt K T x H1/\t σ H1 fun xs H2=>r x xs H2 Q
variable {o e:Expr}{es:List Expr}{to:TE}{t:TA}{name:Str}{apos cpos:Pos}{T id:String}{r:V->List V->Hp->VK->Prop}
theorem sI (pa:PlainAttrs T) (slot:Slot T name id) (hty:typeOf (.builtin id)=pure (.type "method_descriptor")) (hm:Pr X id r) (ho:PE X o to)
  (hbase:attributeBase o name X.env (eval o X.env)=eval o X.env:=by rfl) (hline:(apos.endLine == cpos.line)=true:=by rfl):PE X (.Call (.Attribute o name apos) [] [] cpos) (vx X.K T r to):=by
 intro NV s σ H Q I h
 refine wpAny_Call_method0_late hbase hline (N0 (ho NV s σ H _ I h) fun v s1 ⟨x,H1,I1,r1,ty,q1⟩=>?_)
 obtain⟨h1,h2⟩:=BE I1 r1 ty
 exact⟨T,id,pa,slot,hty,h1,h2,MC rfl (PySem.evalArgs_none (hm NV s1 σ H1 x [] v [] Q I1 r1 .nil q1))⟩
theorem cz (pa:PlainAttrs T) (slot:Slot T name id) (hty:typeOf (.builtin id)=pure (.type "method_descriptor")) (hm:Pr X id r) (ho:PE X o to) (ha:PA X (e::es) t)
  (hbase:attributeBase o name X.env (eval o X.env)=eval o X.env:=by rfl)
  (hfew:((backTo cpos (starEach (e::es) X.env)).all (fun x=> !x.1) && (backToKw cpos (keywordEach [] X.env)).all (fun x=>x.1.isSome)
   && decide ((e::es).length+([]:List Keyword).length+(if ([]:List Keyword).isEmpty then 0 else 1) < 30))=true:=by rfl)
  (hline:(apos.endLine == cpos.line)=true:=by rfl) (hs:starEach (e::es) X.env=(false,eval e X.env)::starEach es X.env:=by rfl) (hplain:(backTo cpos (starEach es X.env)).any (·.1)=false:=by rfl) :
  PE X (.Call (.Attribute o name apos) (e::es) [] cpos) (Oh X.K T r to t):=by
 intro NV s σ H Q I h
 refine wpAny_Call_method_late hbase hfew hline rfl (N0 (ho NV s σ H _ I h) fun v s1 ⟨x,H1,I1,r1,ty,q1⟩=>?_)
 obtain⟨h1,h2⟩:=BE I1 r1 ty
 refine⟨T,id,pa,slot,hty,h1,h2,?_⟩
 have hA:=ha cpos NV s1 σ H1 _ I1 q1
 rw[hs] at hA ⊢
 refine MC (by show (false || (backTo cpos (starEach es X.env)).any (·.1))=false; rw[hplain] <;> rfl) (MI ?_)
 exact N0 hA fun us s2 ⟨vs,H2,I2,r2,q2⟩=>hm NV s2 σ H2 x vs v us Q I2 r1 r2 q2
end
def O3 (X:Cx) (id:String) (r:V->List V->Hp->VK->Prop):Prop :=
 ∀(NV:List (Addr×Obj)) (s:Shared) (σ:St) (H:Hp) (x:V) (xs:List V) (v:Value) (us:List Value) (Q:VK),Inv X NV σ H s->RelV x v->Vals xs us->r x xs H Q ->
  wpAny (model X.prog X.w) X.A (call (.builtin id) (v::us)) (EP X NV σ Q) X.xe s
theorem Vals.one: ∀ {x:V}{us:List Value},Vals [x] us-> ∃u,us=[u]/\RelV x u
 | _,_,.cons r .nil=>⟨_,rfl,r⟩
theorem Vals.zero: ∀ {us:List Value},Vals [] us->us=[]
 | _,.nil=>rfl
theorem Vals.dropLast {xs:List V}{us:List Value}(h:Vals xs us):Vals xs.dropLast us.dropLast:=by
 induction h with
 | nil=>exact .nil
 | cons r t ih =>
  cases t with
  | nil=>exact .nil
  | cons q t'=>exact .cons r ih
theorem Vals.eraseIdx: ∀ {xs:List V}{us:List Value}(i:Nat),Vals xs us->Vals (xs.eraseIdx i) (us.eraseIdx i)
 | _,_,_,.nil=> .nil
 | _,_,0,.cons _ t=>t
 | _,_,i+1,.cons r t=> .cons r (Vals.eraseIdx i t)
theorem Vals.reverse {xs:List V}{us:List Value}(h:Vals xs us):Vals xs.reverse us.reverse:=by
 induction h with
 | nil=>exact .nil
 | cons r t ih=>rw[List.reverse_cons,List.reverse_cons]; exact Vals.append ih (.cons r .nil)
theorem Vals.rep {xs:List V}{us:List Value}(h:Vals xs us): ∀k:Nat,Vals (List.replicate k xs).flatten (List.replicate k us).flatten
 | 0=> .nil
 | k+1=>by
  rw[Lv,Lv,LJ,LJ]
  exact Vals.append h (Vals.rep h k)
theorem AQ {α:Type}(l:List α):l.eraseIdx (l.length - 1)=l.dropLast:=by
 induction l with
 | nil=>rfl
 | cons a r ih =>
  cases r with
  | nil=>rfl
  | cons b r =>
   have e:(a::b::r).length - 1=((b::r).length - 1)+1:=by
    have h1:(a::b::r).length=r.length+2:=rfl
    have h2:(b::r).length=r.length+1:=rfl
    omega
   rw[e,List.eraseIdx_cons_succ,ih]
   all_goals rfl
theorem wI {α:Type}: ∀(l:List α) (i:Nat),(l.eraseIdx i).length<=l.length
 | [],_=>Kn _
 | _::_,0=>MB _
 | _::r,i+1=>NH (wI r i)
theorem foldl_rep (its:List Value): ∀(k:Nat) (acc:List Value),
  List.foldl (fun x1 x2=>x1++x2) acc.toArray (List.replicate k its.toArray)=(acc++(List.replicate k its).flatten).toArray
 | 0,acc=>by simp
 | k+1,acc=>by
  have e:acc.toArray++its.toArray=(acc++its).toArray:=by simp
  have e2:(acc++its)++(List.replicate k its).flatten=acc++(List.replicate (k+1) its).flatten:=by
   rw[Lv,LJ,Mo]
  rw[<-e2,<-foldl_rep its k (acc++its),<-e,Lv,List.foldl_cons]
section
variable {X:Cx}{NV:List (Addr×Obj)}{σ:St}{H:Hp}{s:Shared}{l b:Addr}{xs ys zs:List V}
theorem Inv.vG {its its':List Value}{n:Nat}{f:Array Value->Array Value}{t':Nat}(I:Inv X NV σ H s) (hH:H l=some (.lst xs))
  (e:s.heap.get? l=some { cls:= .type "list",data:= .seq its.toArray n }) (hf:f its.toArray=its'.toArray) (hv:Vals ys its') (hz:ys.length<=sizeLine) :
  Inv X NV σ (upd H l (.lst ys)) { s with heap:=s.heap.update l (Obj.mapSeq f),toks:=t' }:=by
 have q:=PySem.IsL.update e f
 rw[hf] at q
 refine I.write (x:=l) (e:=l) (by rw[hH]; exact trivial) (.inl rfl) (fun b' u hb hu=>(Lo s.heap (Obj.mapSeq f) (KW hb)).trans hu) ⟨_,q⟩ ?_
 exact⟨hz,its',_,hv,q⟩
theorem Inv.GW {its:List Value}{t':Nat}(I:Inv X NV σ H s) (hv:Vals ys its) (hz:ys.length<=sizeLine) :
  Inv X NV σ (upd H s.heap.objs.size (.lst ys)) { s with heap:=s.heap.push { cls:= .type "list",data:= .seq its.toArray },toks:=t' } :=
 I.laid (fun _ _ q=>Kq _ q) (Kn _) ⟨hz,its,0,hv,K7 _ rfl⟩
theorem Inv.fresh (I:Inv X NV σ H s):H s.heap.objs.size=none:=I.hok.fresh (Kn _)
theorem Inv.mh (I:Inv X NV σ H s) (hH:H l=some (.lst xs)):xs.length<=sizeLine/\ ∃(its:List Value) (n:Nat),Vals xs its/\xs.length=its.length/\s.heap.get? l=some { cls:= .type "list",data:= .seq its.toArray n }:=by
 obtain⟨z,its,n,r,e⟩:=I.hok l _ hH
 exact⟨z,its,n,r,r.length,e⟩
theorem xx {n:Nat}(h:n<=sizeLine):Builtin.List.listTooLong n=false:=by
 unfold Builtin.List.listTooLong
 exact KH (by omega)
end
section
variable {X:Cx}
inductive DY (x:V) (vs:List V) (H:Hp) (Q:VK):Prop | mk (l xs y:_) (e0:x= .ref l) (e1:vs=[y]) (e2:H l=some (.lst xs)) (e3:xs.length < sizeLine) (q:Q .non (upd H l (.lst (xs++[y]))))
def FO:V->List V->Hp->VK->Prop:=fun x vs H Q=>DY x vs H Q
theorem bS:O3 X "list.append" FO:=by
 intro NV s σ H x vs v us Q I rx rv h
 obtain⟨l,xs,y,rfl,rfl,hH,hz,q⟩:=h
 cases rx
 obtain⟨u,rfl,ru⟩:=rv.one
 obtain⟨z,its,n,r,hl,e⟩:=I.mh hH
 refine L9 F.slot_list_append ⟨_,e,rfl⟩ F.entry_list_append (F.args_list_append_2 _ _) (PySem.list_append l its.toArray n u (by rw[KC]; omega)) ⟨e,?_⟩
 refine⟨.non,_,I.vG (its':=its++[u]) hH e (by simp) (r.append (.cons ru .nil)) ?_,rfl,q⟩
 rw[Kr,M0]
 omega
inductive Dm (x:V) (vs:List V) (H:Hp) (Q:VK):Prop | mk (l b xs zs:_) (e0:x= .ref l) (e1:vs=[.ref b]) (e2:H l=some (.lst xs)) (e3:H b=some (.lst zs)) (e4:xs.length+zs.length<=sizeLine) (q:Q .non (upd H l (.lst (xs++zs))))
def F5:V->List V->Hp->VK->Prop:=fun x vs H Q=>Dm x vs H Q
theorem IV:O3 X "list.extend" F5:=by
 intro NV s σ H x vs v us Q I rx rv h
 obtain⟨l,b,xs,zs,rfl,rfl,hH,hB,hz,q⟩:=h
 cases rx
 obtain⟨u,rfl,ru⟩:=rv.one
 cases ru
 obtain⟨z,its,n,r,hl,e⟩:=I.mh hH
 obtain⟨z2,its2,n2,r2,hl2,e2⟩:=I.mh hB
 have hsz:its.toArray.size+its2.toArray.size<=sizeLine:=by rw[KC,KC]; omega
 have hlong: ¬(!its.toArray.isEmpty && Builtin.List.listTooLong (its.toArray.size+its2.toArray.size))=true:=by
  rw[xx hsz,Bool.and_false]
  exact KG
 refine L9 F.slot_list_extend ⟨_,e,rfl⟩ F.entry_list_extend (F.args_list_extend_2 _ _)
  (AutoSeq1.list_extend_list_list_0 l its.toArray n b its2.toArray n2 hlong (by rw[KC]; omega) (by omega)) ⟨e,e2,?_⟩
 refine⟨.non,_,I.vG (its':=its++its2) hH e (by simp) (r.append r2) ?_,rfl,q⟩
 rw[Kr]
 omega
inductive IB (x:V) (vs:List V) (H:Hp) (Q:VK):Prop | mk (l xs y:_) (e0:x= .ref l) (e1:vs=[]) (e2:H l=some (.lst xs)) (e3:xs[xs.length - 1]?=some y) (q:Q y (upd H l (.lst xs.dropLast)))
def Jz:V->List V->Hp->VK->Prop:=fun x vs H Q=>IB x vs H Q
theorem yJ:O3 X "list.pop" Jz:=by
 intro NV s σ H x vs v us Q I rx rv h
 obtain⟨l,xs,y,rfl,rfl,hH,hy,q⟩:=h
 cases rx
 have hus:=rv.zero
 subst hus
 obtain⟨z,its,n,r,hl,e⟩:=I.mh hH
 obtain⟨u,hu,ru⟩:=r.get hy
 have hy':its.toArray[its.toArray.size - 1]?=some u:=by
  show its.toArray[its.length - 1]?=some u
  rw[<-Array.getElem?_toList,<-hl]
  exact hu
 refine L9 F.slot_list_pop ⟨_,e,rfl⟩ F.entry_list_pop (F.args_list_pop_1 _) (MeetsSeq.list_pop_last l its.toArray n u hy' (by rw[KC]; omega)) ⟨e,?_⟩
 refine⟨y,_,I.vG (its':=its.dropLast) hH e ?_ r.dropLast ?_,ru,q⟩
 .show its.toArray.eraseIdxIfInBounds (its.toArray.size - 1)=its.dropLast.toArray
  rw[KC,M5,AQ]
 .rw[List.length_dropLast]
  omega
inductive Fi (x:V) (vs:List V) (H:Hp) (Q:VK):Prop | mk (l xs i k y:_) (e0:x= .ref l) (e1:vs=[.int i]) (e2:H l=some (.lst xs)) (e3: -(2 ^ 63)<=i) (e4:i < 2 ^ 63) (e5:seqIndex? i xs.length=some k) (e6:xs[k]?=some y) (q:Q y (upd H l (.lst (xs.eraseIdx k))))
def Gm:V->List V->Hp->VK->Prop:=fun x vs H Q=>Fi x vs H Q
theorem xG:O3 X "list.pop" Gm:=by
 intro NV s σ H x vs v us Q I rx rv h
 obtain⟨l,xs,i,k,y,rfl,rfl,hH,h1,h2,hk,hy,q⟩:=h
 cases rx
 obtain⟨u,rfl,ru⟩:=rv.one
 obtain⟨t,rfl⟩:=ru
 obtain⟨z,its,n,r,hl,e⟩:=I.mh hH
 obtain⟨w,hw,rw'⟩:=r.get hy
 refine L9 F.slot_list_pop ⟨_,e,rfl⟩ F.entry_list_pop (F.args_list_pop_2 _ _)
  (MeetsSeq.list_pop_at l its.toArray n i t k w (fitsIndex_both h1 h2) (by rw[KC,<-hl]; exact hk) (by rw[<-Array.getElem?_toList]; exact hw) (by rw[KC]; omega)) ⟨e,?_⟩
 refine⟨y,_,I.vG (its':=its.eraseIdx k) hH e ?_ (r.eraseIdx k) ?_,rw',q⟩
 .show its.toArray.eraseIdxIfInBounds k=(its.eraseIdx k).toArray
  rw[M5]
 .have:=wI xs k
  omega
inductive Bn (x:V) (vs:List V) (H:Hp) (Q:VK):Prop | mk (l xs:_) (e0:x= .ref l) (e1:vs=[]) (e2:H l=some (.lst xs)) (q:Q .non (upd H l (.lst xs.reverse)))
def Es:V->List V->Hp->VK->Prop:=fun x vs H Q=>Bn x vs H Q
theorem vk:O3 X "list.reverse" Es:=by
 intro NV s σ H x vs v us Q I rx rv h
 obtain⟨l,xs,rfl,rfl,hH,q⟩:=h
 cases rx
 have hus:=rv.zero
 subst hus
 obtain⟨z,its,n,r,hl,e⟩:=I.mh hH
 refine L9 F.slot_list_reverse ⟨_,e,rfl⟩ F.entry_list_reverse (F.args_list_reverse_1 _) (AutoSeq1.list_reverse_list_0 l its.toArray n (by rw[KC]; omega)) ⟨e,?_⟩
 refine⟨.non,_,I.vG (its':=its.reverse) hH e (by simp) r.reverse ?_,rfl,q⟩
 rw[List.length_reverse]
 omega
inductive JM (x:V) (vs:List V) (H:Hp) (Q:VK):Prop | mk (l xs:_) (e0:x= .ref l) (e1:vs=[]) (e2:H l=some (.lst xs)) (q:Q .non (upd H l (.lst [])))
inductive HK (x y:V) (H:Hp) (Q:VK):Prop | mk (l b xs zs:_) (e0:x= .ref l) (e1:y= .ref b) (e2:H l=some (.lst xs)) (e3:H b=some (.lst zs)) (e4:xs.length+zs.length<=sizeLine) (q: ∀p,H p=none->Q (.ref p) (upd H p (.lst (xs++zs))))
def Jn:R2:=fun x y H Q=>HK x y H Q
theorem eE:N7 X (binaryOp .Add) Jn:=by
 intro NV s σ H x y v u Q I rx ry h
 obtain⟨l,b,xs,zs,rfl,rfl,hH,hB,hz,q⟩:=h
 cases rx
 cases ry
 obtain⟨z,its,n,r,hl,e⟩:=I.mh hH
 obtain⟨z2,its2,n2,r2,hl2,e2⟩:=I.mh hB
 refine PySem.P.add_list e e2 ?_ (by rw[KC,KC]; omega)
 have ea:its.toArray++its2.toArray=(its++its2).toArray:=by simp
 rw[ea]
 exact⟨.ref _,_,I.GW (t':=s.toks) (r.append r2) (by rw[Kr]; omega),rfl,q _ I.fresh⟩
inductive HL (x y:V) (H:Hp) (Q:VK):Prop | mk (l k xs:_) (e0:x= .ref l) (e1:y= .int k) (e2:H l=some (.lst xs)) (e3: -(2 ^ 63)<=k) (e4:k < 2 ^ 63) (e5:xs.length*k.toNat<=sizeLine) (q: ∀p,H p=none->Q (.ref p) (upd H p (.lst (List.replicate k.toNat xs).flatten)))
def IY:R2:=fun x y H Q=>HL x y H Q
theorem len_rep {α:Type}(xs:List α) (k:Nat):(List.replicate k xs).flatten.length=k*xs.length:=by
 induction k with
 | zero=>simp
 | succ k ih=>rw[Lv,LJ,Kr,ih,Nat.succ_mul,Nat.add_comm]
theorem sL:N7 X (binaryOp .Mult) IY:=by
 intro NV s σ H x y v u Q I rx ry h
 obtain⟨l,k,xs,rfl,rfl,hH,h1,h2,hz,q⟩:=h
 cases rx
 obtain⟨t,rfl⟩:=ry
 obtain⟨z,its,n,r,hl,e⟩:=I.mh hH
 have hlen:its.toArray.size*k.toNat<=sizeLine:=by rw[KC,<-hl]; exact hz
 have hcap: ¬its.toArray.size*k.toNat > (2 ^ 63 - 1) / 8:=by
  have:(sizeLine:Nat)<=(2 ^ 63 - 1) / 8:=by decide
  omega
 have hfit: ¬(!Builtin.List.listFitsIndex k)=true:=by
  rw[fitsIndex_both h1 h2]
  exact KG
 have hlong: ¬Builtin.List.listTooLong (its.toArray.size*k.toNat)=true:=by
  rw[xx hlen]
  exact KG
 have hnew:List.foldl (fun x1 x2=>x1++x2) #[] (List.replicate (if its.toArray.isEmpty=true then 0 else k.toNat) its.toArray)=(List.replicate k.toNat its).flatten.toArray:=by
  have f0: ∀m:Nat,List.foldl (fun x1 x2=>x1++x2) #[] (List.replicate m its.toArray)=(List.replicate m its).flatten.toArray:=fun m=>by
   have:=foldl_rep its m []
   rw[List.nil_append] at this
   exact this
  rw[f0]
  cases its with
  | nil=>simp
  | cons a r'=>rw[Kk (by simp)]
 refine wpAny_binaryOp_repeat_ref (T:= "list") (U:= "int") (by decide) ⟨_,e,rfl⟩ (fun s'=>typeIs_int s' k t) noFill_list_mul F.fills_int_mul F.slot_int_rmul repeat_list F.slot_int_index.lookup
  (L9 F.slot_int_rmul (typeIs_int s k t) F.entry_int_rmul (F.args_int_rmul_2 _ _) (int___rmul___int_list k t l its.toArray n)
   ⟨e,rfl,⟨_,e,rfl⟩,L9 F.slot_list_mul ⟨_,e,rfl⟩ F.entry_list_mul (F.args_list_mul_2 _ _) (AutoListH.list___mul___list_int_3 l its.toArray n k t hfit hcap hlong) ⟨e,?_⟩⟩)
 rw[hnew]
 exact⟨.ref _,_,I.GW (t':=s.toks) (r.rep k.toNat) (by rw[len_rep,Nat.mul_comm]; exact hz),rfl,q _ I.fresh⟩
end
section
variable {prog:Program}{w:World}{A:Around}{E:Value->Shared->Prop}{s:Shared}
end
section
variable {X:Cx}
end
end L2
namespace Att
open PySem PySem.W PySem.Calls PyProof.Rows
theorem uR {P:Params}{h:Heap}: ∀(ns:List Int) (vs:List Value),WellAll P h vs (ns.map WData.int)->IntsAre vs ns:=by
 intro ns
 induction ns with
 | nil =>
  intro vs w
  rw[M9] at w
  cases w
  exact .nil
 | cons n ns ih =>
  intro vs w
  rw[Lg] at w
  cases w with
  | cons a b =>
   cases a
   exact .cons _ _ (ih _ b)
theorem CQ {l:OpenLaw}{n:Nat}(hn:l.most=some n){P:Params}{h:Heap}{args:List WData}{vals:List Value}
  (hpre:l.row.toRowW.claim.pre args=true) (hwl:WellAll P h vals args) :
  ∃a vs ns,vals=[Value.ref a]/\args=[WData.list (ns.map WData.int)]/\h.get? a=some { cls:= .type "list",data:= .seq vs.toArray }/\IntsAre vs ns/\ns.length<=n:=by
 have hsh:WShape.hasAll [] args [.list .int]=true:=(pre_splitW hpre).1
 have hc:l.pre.holds [] { args:=args }=true:=(pre_splitW hpre).2
 obtain⟨d,r,rfl,h1,h2⟩:=hasAllW_cons hsh
 obtain rfl:=hasAllW_nil h2
 obtain⟨xs,rfl,h3⟩:=hasW_list h1
 obtain⟨ns,rfl⟩:=items_int h3
 have hlen:ns.length<=n:=by
  unfold OpenLaw.pre at hc
  have h4:(WTm.not (.lt (.lit (.int (n:Int))) (.len (.arg 0)))).holds [] { args:=[.list (ns.map .int)] }=true:=by
   have h4:=(holds_andW hc).1
   rw[hn] at h4
   exact h4
  have h5:=condW_of h4 (w_not (w_lt w_lit (w_len_list (w_arg rfl))))
  rw[Kj] at h5
  refine NI fun q=>?_
  have q':(n:Int) < ((ns.length:Nat):Int):=by omega
  first
   | (rw[KI q'] at h5; exact absurd h5 (by decide))
   | (simp at h5; omega)
 cases hwl with
 | cons w1 w2 =>
  cases w2
  cases w1 with
  | list ho hall=>exact⟨_,_,ns,rfl,rfl,ho,uR ns _ hall,hlen⟩
theorem Bm (l:OpenLaw) (args:List WData):l.row.toRowW.claim.post args (.bool true) args=true :=
 postW_of (r:=l.row.toRowW) (X:=(true == true))
  (show WShape.has [] (.bool true) .bool=true by first | rfl | decide | simp[WShape.has,WShape.arms,WShape.armsAll])
  (show (WTm.eq .res (.lit (.bool true))).value [] { args:=args,res:=some (.bool true),after:=args }=some (.bool (true == true)) from w_eq_bool (w_res rfl) w_lit) rfl
theorem zc {l:OpenLaw}{n:Nat}{q:Program}{loose:List Str}{XP:(Str->Option Value)->Heap->Prop}{YP:World->Heap->Prop}{d:DefRec}
  (hn:l.most=some n) (hdf:d.params.defaults=[])
  (call: ∀(w:World) (s₀ s₁:Shared) (mg mb:Str->Option Value) (fa:Addr) (o:Obj) (pm cd doc:Value) (a:Addr) (vs:List Value) (ns:List Int),
   Ground q loose [] XP w s₀ mg mb s₁.heap->YP w s₁.heap ->
   s₁.heap.get? fa=some o->o.data= .func (docDef d.name d.params d.body d.scope pm cd doc)->s₁.heap.CodeRec cd d.name->mg d.name=some (.ref fa) ->
   s₁.heap.get? a=some { cls:= .type "list",data:= .seq vs.toArray }->IntsAre vs ns->ns.length<=n->s₁.gens= #[] ->
   codeAny (model l.prog w) callerA (.call (.ref fa) ⟨[.ref a],[]⟩) (fun r s'=>r= .ok (.ret (.bool true))/\OldK s₁.heap s'.heap/\s'.os=s₁.os/\AllBare s'.gens) s₁) :
  WalkO q loose XP YP l.row.toRowW d [] (fun f vs=>PySem.call f vs):=by
 intro w s₀ s₁ mg mb G Y fa o pm cd doc dV kV ho hd hcd hD hmg hg args vals as hpre hlay hrd hwl hlo
 obtain rfl:dV= .none:=Dflts.none hD hdf
 obtain rfl:kV= .none:=Dflts.noKw hD
 obtain⟨a,vs,ns,rfl,rfl,hobj,hints,hlen⟩:=CQ hn hpre hwl
 refine enter_call (MS (call w s₀ s₁ mg mb fa o pm cd doc a vs ns G Y ho (fd_plain hd) hcd hmg hobj hints hlen hg) fun r s' hq=>?_)
 obtain⟨rfl,h2,h3,h4⟩:=hq
 exact⟨.inl ⟨.bool true,.bool true,[],rfl,fun _=>rfl,.bool true,Bm l _,fun _=>⟨List.Pairwise.nil,fun _ hm=>(nomatch hm)⟩⟩,h2,h3,h4⟩
section
variable {prog:Program}{w:World}{A:Around}{E:Value->Shared->Prop}{s:Shared}{K:Frag}
def ledger (h:Heap) (L d:Addr):List (Addr×Obj):=(List.range h.objs.size).filterMap fun a=>if a=L\/a=d then none else (h.get? a).map fun o=>(a,o)
end
end Att
namespace L2
open PySem PySem.Spec PyProof.Rows
theorem wy: ∀ {vs:List Value}{ns:List Int},IntsAre vs ns->Vals (ns.map V.int) vs
 | _,_,.nil=> .nil
 | _,_,.cons n t h=> .cons ⟨t,rfl⟩ (wy h)
def z7 (H:Hp):Prop:= ∀b,H b=none\/ ∃o xs,H b=some (.frz o (.lst xs))
theorem Dj {P:Program}{w:World}{K:NY}{mg mb:Str->Option Value}{CX:Ox}{k:Nat}{fa a:Addr}{fd:FuncData}{x:Str}{sp:Sp}{s₁:Shared}{vs:List Value}{ns:List Int}
  (KX:K.In s₁.heap) (hns:s₁.heap.Ns mainGlobals mg) (hb:s₁.heap.Ns builtinsNs mb) (hbb: ∀x:Str,x≠ "__name__" -> mb x=bootBuiltins x) (hlim:s₁.heap.NoLimit) (hg:s₁.gens= #[])
  (ha:s₁.heap.get? a=some { cls:= .type "list",data:= .seq vs.toArray }) (hi:IntsAre vs ns) (hl:ns.length<=sizeLine) (hr:cf k callerA)
  (F: ∀base:Heap,K.In base->base.Ns mainGlobals mg->eY P w K mg base CX k fa fd [x] sp) (hbind: ∀(s:Shared) (u:Value),BindsTo s fd ⟨[u],[]⟩ [(x,u)])
  (hsp: ∀H:Hp,z7 H->NX K H a (ns.map V.int)->sp [.ref a] H (fun v _=>v= .bl true) fun _ _ _=>False)
  (hCX: ∀H e s',CX [] H s₁ (fun _ _ _=>False) e s'->False) :
  codeAny (model P w) callerA (.call (.ref fa) ⟨[.ref a],[]⟩) (fun r s'=>r= .ok (.ret (.bool true))/\OldK s₁.heap s'.heap/\s'.os=s₁.os/\AllBare s'.gens) s₁:=by
 have rv:=wy hi
 have lenV:=hi.length
 have core: ∀H:Hp,z7 H->NX K H a (ns.map V.int)->Oe P w H s₁.heap->(∀b,H b≠none->b=a)->(H a≠none->K.lookup a=none) ->
   codeAny (model P w) callerA (.call (.ref fa) ⟨[.ref a],[]⟩) (fun r s'=>r= .ok (.ret (.bool true))/\OldK s₁.heap s'.heap/\s'.os=s₁.os/\AllBare s'.gens) s₁:=by
  intro H hO hS hok hA hK
  have base_of: ∀ {b:Addr}{o:Obj},s₁.heap.get? b=some o->H b=none->(qx s₁.heap H).get? b=some o:=fun e n=>C4 e n
  have noA: ∀ {b:Addr}{o:Obj}{es:Array DictEntry}{ep:Nat},s₁.heap.get? b=some o->o.data= .dict es ep->H b=none:=fun {b o es ep} e d=>by
   cases q:H b with
   | none=>rfl
   | some u =>
    have e':b=a:=hA b (by rw[q]; simp)
    subst e'
    rw[ha] at e; cases e
    have d':Data.seq vs.toArray _=Data.dict es ep:=d
    cases d'
  have nsK: ∀ {b:Addr}{m:Str->Option Value},s₁.heap.Ns b m->(qx s₁.heap H).Ns b m:=fun {b m} ⟨o,es,ep,e,d,r⟩=>⟨o,es,ep,base_of e (noA e d),d,r⟩
  have hKb:K.In (qx s₁.heap H):=fun b o e=>base_of (KX b o e) (by
   cases q:H b with
   | none=>rfl
   | some u =>
    have e':b=a:=hA b (by rw[q]; simp)
    subst e'
    rw[hK (by rw[q]; simp)] at e; cases e)
  have hM:Mod K mg (qx s₁.heap H):=⟨hKb,nsK hns,⟨mb,nsK hb,hbb⟩,let ⟨mc,h1,h2⟩:=hlim; ⟨mc,nsK h1,h2⟩⟩
  have e0:ud P w K mg (qx s₁.heap H) callerA [] s₁ H:=⟨rfl,hM,fun b o e=>Fs e,NF (BC _ _),trivial,fun b hb=>absurd (show b∈([]:List Addr) from hb) (by simp),hok,.of_eq hg⟩
  refine MS ((F _ hKb (nsK hns)).run callerA [] s₁ H ⟨[.ref a],[]⟩ [.ref a] [.ref a] _ _ hr e0 (hbind s₁ (.ref a)) (.cons rfl .nil) (hsp H hO hS)) fun r s' h=>?_
  cases r with
  | error e=>exact (hCX H e s' h).elim
  | ok fl =>
   cases fl with
   | next=>exact False.elim h
   | brk=>exact False.elim h
   | cont=>exact False.elim h
   | ret u =>
    obtain⟨v,H',os,bare,un,hok',r',q⟩:=h
    have q':v= .bl true:=q
    subst q'
    obtain rfl:u=Value.bool true:=r'
    refine⟨rfl,OldK.of_keep fun b o e=>?_,os,bare⟩
    cases q:H b with
    | none=>exact un.keep b o e q (by intro z; exact absurd (show b∈([]:List Addr) from z) (by simp)) (by simp)
    | some u =>
     rcases hO b with z | ⟨ob,xs,z⟩
     .rw[q] at z; cases z
     .have z2:=un.frzs b ob _ z
      obtain⟨e1,_⟩:=hok b _ z
      obtain⟨e2,_⟩:=hok' b _ z2
      rw[e] at e1; cases e1
      exact e2
 cases hk:K.lookup a with
 | some o =>
  have e:=KX a o hk
  rw[ha] at e
  cases e
  refine core (fun _=>none) (fun _=> .inl rfl) (.inr ⟨_,vs.toArray,_,hk,rfl,rfl,rfl,by rw[KC,lenV]; exact hl,by simpa using rv⟩) (fun b u z=>by have z':(none:Option HO)=some u:=z; cases z') (fun b z=>absurd rfl z) fun z=>absurd rfl z
 | none =>
  refine core (fun b=>if b=a then some (.frz { cls:= .type "list",data:= .seq vs.toArray } (.lst (ns.map V.int))) else none) (fun b=>?_) (.inl (.inr ⟨{ cls:= .type "list",data:= .seq vs.toArray },Ko rfl⟩)) (fun b u z=>?_) (fun b z=>?_) fun _=>hk
  .by_cases hb:b=a
   .exact .inr ⟨_,_,Ko hb⟩
   .exact .inl (Kk hb)
  .by_cases hb:b=a
   .have z':=(Ko hb).symm.trans z
    cases z'
    subst hb
    exact⟨ha,by rw[Kj]; exact hl,vs,_,rv,ha⟩
   .have z':=(Kk hb).symm.trans z
    cases z'
  .by_cases hb:b=a
   .exact hb
   .exact absurd (Kk hb) z
abbrev PQ {K:NY}{h:Heap} (_:K.In h):NY:=K
theorem EU {l:PySem.W.OpenLaw}{n k:Nat}{q:Program}{loose:List Str}{XP:(Str->Option Value)->Heap->Prop}{YP:World->Heap->Prop}{d:DefRec}{K:Params->NY}{CX:World->Ox}{sp:World->Sp}{x:Str}
  (hn:l.most=some n) (hn2:n<=sizeLine) (hdf:d.params.defaults=[]) (hr:cf k callerA)
  (hY: ∀(w:World) (h:Heap),YP w h->(K w.params).In h)
  (F: ∀(w:World) (mg:Str->Option Value) (fa:Addr) (h:Heap),(K w.params).In h->h.Ns mainGlobals mg->mg d.name=some (.ref fa) ->
   ∃fd:FuncData,(∀(s:Shared) (u:Value),BindsTo s fd ⟨[u],[]⟩ [(x,u)]) /\
    ∀base:Heap,(K w.params).In base->base.Ns mainGlobals mg->eY l.prog w (K w.params) mg base (CX w) k fa fd [x] (sp w))
  (hsp: ∀(w:World) (H:Hp) (a:Addr) (ns:List Int),ns.length<=n->z7 H->NX (K w.params) H a (ns.map V.int)->sp w [.ref a] H (fun v _=>v= .bl true) fun _ _ _=>False)
  (hCX: ∀(w:World) (H:Hp) (s:Shared) (e:Value) (s':Shared),CX w [] H s (fun _ _ _=>False) e s'->False) :
  PySem.W.WalkO q loose XP YP l.row.toRowW d [] (fun f vs=>PySem.call f vs):=by
 refine Att.zc hn hdf fun w s₀ s₁ mg mb fa o pm cd doc a vs ns G Y ho hd hcd hmg hobj hints hlen hg=>?_
 have KX:=hY w _ Y
 obtain⟨fd,hb,hF⟩:=F w mg fa _ KX G.T.g hmg
 exact Dj KX G.T.g G.T.b G.T.builtins G.T.nolimit hg hobj hints (KP hlen hn2) hr hF hb (fun H hO hS=>hsp w H a ns hlen hO hS) fun H e s'=>hCX w H s₁ e s'
theorem Dv {l:PySem.W.OpenLaw}{n k:Nat}{q:Program}{loose:List Str}{XP:(Str->Option Value)->Heap->Prop}{YP:World->Heap->Prop}{d:DefRec}{K:Params->NY}{CX:Ox}{sp:NY->Sp}{x:Str}
  (hn:l.most=some n) (hn2:n<=sizeLine) (hdf:d.params.defaults=[]) (hr:cf k callerA)
  (hY: ∀(w:World) (h:Heap),YP w h->(K w.params).In h)
  (F: ∀(w:World) (mg:Str->Option Value) (fa:Addr) (h:Heap),(K w.params).In h->h.Ns mainGlobals mg->mg d.name=some (.ref fa) ->
   ∃fd:FuncData,(∀(s:Shared) (u:Value),BindsTo s fd ⟨[u],[]⟩ [(x,u)]) /\
    ∀base:Heap,(K w.params).In base->base.Ns mainGlobals mg->eY l.prog w (K w.params) mg base CX k fa fd [x] (sp (K w.params)))
  (hsp: ∀(K:NY) (H:Hp) (a:Addr) (ns:List Int),ns.length<=n->z7 H->NX K H a (ns.map V.int)->sp K [.ref a] H (fun v _=>v= .bl true) fun _ _ _=>False)
  (hCX: ∀(H:Hp) (s:Shared) (e:Value) (s':Shared),CX [] H s (fun _ _ _=>False) e s'->False) :
  PySem.W.WalkO q loose XP YP l.row.toRowW d [] (fun f vs=>PySem.call f vs) :=
 EU (K:=K) (CX:=fun _=>CX) (sp:=fun w=>sp (K w.params)) hn hn2 hdf hr hY F (fun w H a ns h1 h2 h3=>hsp (K w.params) H a ns h1 h2 h3) fun _ H s e s'=>hCX H s e s'
def inClass (s:Stmt) (j:Nat):Stmt:=match s with
 | .ClassDef _ _ _ body _ _ _ _ _ _ _=>body.getD j (.Pass ⟨0,0,0,0⟩)
 | _=> .Pass ⟨0,0,0,0⟩
def fQ (s:Stmt):Arguments:=match s with
 | .FunctionDef _ a _ _ _ _ _ _ _ _=>a
 | _=>{ posonlyargs:=[],args:=[],vararg:=none,kwonlyargs:=[],kw_defaults:=[],kwarg:=none,defaults:=[] }
def dF (s:Stmt):List Stmt:=match s with
 | .FunctionDef _ _ b _ _ _ _ _ _ _=>b
 | _=>[]
def aq (s:Stmt):Scope:=match s with
 | .FunctionDef _ _ _ _ _ _ sc _ _ _=>sc
 | _=>{ kind:= .function,names:=[],isGenerator:=false,isCoroutine:=false }
abbrev OA:Ox:=fun _ _ _ _ _ _=>False
abbrev E0:XK:=fun _ _ _=>False
theorem xt {X:Cx}:Passes OA X E0:=fun _ _ _ _ _ _ _ h=>h.elim
structure O7 (K:NY) (x qual:Str) (st:Stmt) (f:Addr) (fd:FuncData):Prop where
 ex: ∃(oc:Value) (od:Option Addr) (kV doc pm:Value) (an:Option Addr) (cdv ct:Value) (osl:Array (Option Value)),
  fd=PySem.W.fnOf x qual (fQ st) (dF st) (aq st) .none kV doc pm an cdv ct/\K.lookup f=some ⟨oc,od,.func fd,osl⟩/\PySem.W.codeIn K cdv qual=true
 kp:PySem.W.keepIn K (.ref f)=true
section
variable {P:Program}{w:World}{K:NY}{mg:Str->Option Value}{base:Heap}
theorem O7.ok {x qual:Str}{st:Stmt}{f:Addr}{fd:FuncData}{N ps:List Str}{k:Nat}{sp:Sp}(F:O7 K x qual st f fd) (S:aE N ps (aq st)) (len: ∀vs H Q E,sp vs H Q E->vs.length=ps.length)
  (hbody: ∀(cdv:Value) (A:Around) (outer:List Env) (s:Shared) (H:Hp) (vs:List V) (Q:VK) (E:XK),cf k (A.deeper (envOfC qual (aq st) s.heap.objs.size f cdv))->sp vs H Q E ->
   ∃t,Ol (jV OA P w K mg base N qual (aq st) f cdv A outer s H E).O9 (dF st) t/\t { nx:=fun _ H'=>Q .non H',rt:=Q } (start N vs) H):eY P w K mg base OA (k+1) f fd ps sp:=by
 obtain⟨oc,od,kV,doc,pm,an,cdv,ct,osl,rfl,lk,hcd⟩:=F.ex
 refine Az lk hcd S len fun A outer s H vs Q E hr hsp=>?_
 obtain⟨t,h,q⟩:=hbody cdv A outer s H vs Q E hr hsp
 exact⟨t,h.O9,q⟩
theorem O7.binds {x qual:Str}{st:Stmt}{f:Addr}{fd:FuncData}{ps:List Str}(F:O7 K x qual st f fd)
  (h: ∀(kV doc pm:Value) (an:Option Addr) (cdv ct:Value) (us:List Value),us.length=ps.length->bindArgs (PySem.W.fnOf x qual (fQ st) (dF st) (aq st) .none kV doc pm an cdv ct) ⟨us,[]⟩=pure (ps.zip us)):Binds K fd ps []:=by
 obtain⟨oc,od,kV,doc,pm,an,cdv,ct,osl,rfl,lk,hcd⟩:=F.ex
 exact .all (h kV doc pm an cdv ct)
theorem Ce {x qual:Str}{st:Stmt}{f:Addr}{oc:Value}{od an:Option Addr}{osl:Array (Option Value)}{kV doc pm cdv ct:Value}(l:K.lookup f=some ⟨oc,od,.func (PySem.W.fnOf x qual (fQ st) (dF st) (aq st) .none kV doc pm an cdv ct),osl⟩)
  (c:PySem.W.codeIn K cdv qual=true) (k:PySem.W.keepIn K (.ref f)=true):O7 K x qual st f (PySem.W.fnOf x qual (fQ st) (dF st) (aq st) .none kV doc pm an cdv ct):=⟨⟨oc,od,kV,doc,pm,an,cdv,ct,osl,rfl,l,c⟩,k⟩
end
theorem df {A:Around}{k:Nat}(hr:cf k A):A.units+1 < cLine:=Lp (Nat.add_le_add_left (by decide:1<=64) _) hr.units
theorem rM {n:Nat}(h:n<=1000):n < sizeLine:=Lp h (by decide)
section
variable {X:Cx}
theorem pv (i:Nat){x:Str}{pos:Pos}(hN:X.N[i]?=some x:=by rfl) (hv:Pm X.env.scope x:=by first | exact Or.inl rfl | exact Or.inr (Or.inl rfl) | exact Or.inr (Or.inr rfl)) (hd:(x == ("__debug__" : Str))=false:=by decide)
  (hcd:(x == ("__classdict__" : Str))=false:=by decide):PE X (.Name x pos) (vB i):=Gg hN hv hd hcd
end
theorem aM {A B:Prop}(h:B):if false=true then A else B:=by
 rw[Kk KG]
 exact h
theorem aZ {A B:Prop}(h:A):if true=true then A else B:=by
 rw[Ko rfl]
 exact h
theorem bF {c A B:Prop} [Decidable c] (h1:c->A) (h2: ¬c->B):if c then A else B:=by
 by_cases h:c
 .rw[Ko h]
  exact h1 h
 .rw[Kk h]
  exact h2 h
def ai (H H':Hp):Prop:= ∀b o,H b=some o->H' b=some o
theorem ai.refl (H:Hp):ai H H:=fun _ _ h=>h
theorem ai.trans {H H1 H2:Hp}(a:ai H H1) (b:ai H1 H2):ai H H2:=fun c o h=>b c o (a c o h)
theorem ai.free {H H':Hp}(e:ai H H'){l:Addr}(h:H' l=Option.none):H l=Option.none:=by
 cases q:H l with
 | none=>rfl
 | some o =>
  rw[e l o q] at h
  cases h
theorem ai.seq {K:NY}{H H':Hp}{a:Addr}{xs:List V}(e:ai H H') (h:NX K H a xs):NX K H' a xs:=by
 rcases h with (h | ⟨o,h⟩) | h
 .exact .inl (.inl (e _ _ h))
 .exact .inl (.inr ⟨o,e _ _ h⟩)
 .exact .inr h
end L2
namespace L2
open PySem
theorem Pd {n:Nat}{M:List PySem.Value->Prop}(f: ∀a t,t.length=n->M (a::t)) (us:List PySem.Value):us.length=n+1->M us :=
 List.rec (motive:=fun us=>us.length=n+1->M us) (fun h=>absurd h (Nat.zero_ne_add_one n)) (fun a t _ h=>f a t (Nat.succ.inj h)) us
theorem Py {M:List PySem.Value->Prop}(f:M []) (us:List PySem.Value) (h:us.length=0):M us :=
 (MD h).symm▸f
theorem Ov {M:List PySem.Value->Prop}(f: ∀a,M [a]): ∀us:List PySem.Value,us.length=1->M us:=Pd fun a=>Py (M:=fun t=>M (a::t)) (f a)
theorem Oa {M:List PySem.Value->Prop}(f: ∀a b,M [a,b]): ∀us:List PySem.Value,us.length=2->M us:=Pd fun a=>Ov (M:=fun t=>M (a::t)) (f a)
theorem OG {M:List PySem.Value->Prop}(f: ∀a b c,M [a,b,c]): ∀us:List PySem.Value,us.length=3->M us:=Pd fun a=>Oa (M:=fun t=>M (a::t)) (f a)
theorem Pn {M:List PySem.Value->Prop}(f: ∀a b c d,M [a,b,c,d]): ∀us:List PySem.Value,us.length=4->M us:=Pd fun a=>OG (M:=fun t=>M (a::t)) (f a)
theorem PR {M:List PySem.Value->Prop}(f: ∀a b c d e,M [a,b,c,d,e]): ∀us:List PySem.Value,us.length=5->M us:=Pd fun a=>Pn (M:=fun t=>M (a::t)) (f a)
theorem PF {M:List PySem.Value->Prop}(f: ∀a b c d e f,M [a,b,c,d,e,f]): ∀us:List PySem.Value,us.length=6->M us:=Pd fun a=>PR (M:=fun t=>M (a::t)) (f a)
end L2
namespace L2
open PySem PySem.Spec PyProof.Rows
def cU:List (Str×NameKind)->List (Str×Addr)->List (Str×Addr)->List (Str×Addr)
 | [],_,acc=>acc
 | (n,k)::r,cs,acc=>if k= .free then (match cs.lookup n with | some c=>cU r cs ((n,c)::acc) | none=>cU r cs acc) else cU r cs acc
theorem qZ {scope:Scope}{env:Env}(h: ∀x∈scope.names,x.2= .free-> ∃c,env.cells.lookup x.1=some c) :
  closureFor scope env=pure (cU scope.names env.cells []):=by
 simp only[closureFor]
 have key: ∀(names:List (Str×NameKind)) (acc:List (Str×Addr)),(∀x∈names,x.2= .free-> ∃c,env.cells.lookup x.1=some c) ->
   (forIn names acc fun x r=>if (x.2 == NameKind.free)=true then (do let __do_lift <-cellOf env x.1; pure (ForInStep.yield ((x.1,__do_lift)::r))) else (pure (ForInStep.yield r):Sem _))=(pure (cU names env.cells acc):Sem _):=by
  intro names
  induction names with
  | nil=>intro acc _; rfl
  | cons x r ih =>
   intro acc hx
   obtain⟨n,k⟩:=x
   have hr:=fun y hy=>hx y (Kx _ hy)
   rw[List.forIn_cons]
   by_cases hk:k= .free
   .subst hk
    obtain⟨c,hc⟩:=hx (n,.free) Ky rfl
    have hc':env.cells.lookup n=some c:=hc
    have e1:cellOf env n=pure c:=by unfold cellOf; rw[hc']
    have e2:cU ((n,NameKind.free)::r) env.cells acc=cU r env.cells ((n,c)::acc):=by
     show (if NameKind.free=NameKind.free then (match env.cells.lookup n with | some c=>cU r env.cells ((n,c)::acc) | none=>cU r env.cells acc) else _)=_
     rw[Ko rfl,hc']
    rw[e2,<-ih _ hr]
    show ((if (NameKind.free == NameKind.free)=true then _ else _) >>= _)=_
    rw[Ko (show (NameKind.free == NameKind.free)=true from rfl)]
    show ((cellOf env n >>= fun __do_lift=>pure (ForInStep.yield ((n,__do_lift)::acc))) >>= _)=_
    rw[e1]
    rfl
   .have hb:(k == NameKind.free)=false:=by simpa using hk
    have e2:cU ((n,k)::r) env.cells acc=cU r env.cells acc:=by
     show (if k=NameKind.free then _ else _)=_
     rw[Kk hk]
    rw[e2,<-ih _ hr]
    show ((if (k == NameKind.free)=true then _ else _) >>= _)=_
    rw[Kk (by rw[hb]; exact KG)]
    rfl
 exact (Lm (fun z=>z >>= fun r=>pure r) (key scope.names [] h)).trans rfl
theorem lQ: ∀ {names:List (Str×NameKind)}{cs acc:List (Str×Addr)}{x:Str}{c:Addr},(∀y d,acc.lookup y=some d->cs.lookup y=some d)->(cU names cs acc).lookup x=some c->cs.lookup x=some c
 | [],_,_,_,_,h,e=>h _ _ e
 | (n,k)::r,cs,acc,x,c,h,e=>by
  unfold cU at e
  split at e
  .split at e
   .rename_i d hd
    refine lQ (names:=r) (fun y z q=>?_) e
    rw[LA] at q
    split at q
    .rename_i hy
     cases q
     rw[eq_of_beq hy]
     exact hd
    .exact h _ _ q
   .exact lQ (names:=r) h e
  .exact lQ (names:=r) h e
theorem lF: ∀ {names:List (Str×NameKind)}{cs acc:List (Str×Addr)}{x:Str}{c:Addr},(∀y d,acc.lookup y=some d->cs.lookup y=some d)->cs.lookup x=some c->(x,NameKind.free)∈names\/(acc.lookup x=some c)->(cU names cs acc).lookup x=some c
 | [],_,_,_,_,h,e,m=>by
  rcases m with m | m
  .cases m
  .exact m
 | (n,k)::r,cs,acc,x,c,h,e,m=>by
  have h2: ∀d,cs.lookup n=some d-> ∀y z,((n,d)::acc).lookup y=some z->cs.lookup y=some z:=fun d hd y z q=>by
   rw[LA] at q
   split at q
   .rename_i hy
    cases q
    rw[eq_of_beq hy]
    exact hd
   .exact h _ _ q
  unfold cU
  split
  .rename_i hk
   subst hk
   split
   .rename_i d hd
    refine lF (names:=r) (h2 d hd) e ?_
    by_cases hx:x=n
    .subst hx
     right
     rw[List.lookup_cons_self,<-hd,e]
    .rcases m with m | m
     .left
      rcases Ks.mp m with q | q
      .cases q
       exact absurd rfl hx
      .exact q
     .right
      rw[LA]
      have:(x == n)=false:=beq_eq_false_iff_ne.mpr hx
      rw[this]
      exact m
   .rename_i hd
    refine lF (names:=r) h e ?_
    rcases m with m | m
    .rcases Ks.mp m with q | q
     .cases q
      rw[hd] at e
      cases e
     .exact .inl q
    .exact .inr m
  .rename_i hk
   refine lF (names:=r) h e ?_
   rcases m with m | m
   .rcases Ks.mp m with q | q
    .cases q
     exact absurd rfl hk
    .exact .inl q
   .exact .inr m
def x3 (scope psc:Scope):Scope :=
 { scope with names:=scope.names.map fun x=>if (x.2 == .free && psc.kind == .function && psc.names.lookup x.1 == some .cell) then (x.1,.cell) else (x.1,x.2) }
theorem uX {scope:Scope}{env:Env}{psc:Scope}(h:env.scope=psc):relabel scope env=x3 scope psc:=by
 subst h
 rfl
theorem xU {f:Str×NameKind->Str×NameKind}(hf: ∀x,(f x).1=x.1/\((f x).2=x.2\/(x.2= .free/\(f x).2= .cell))): ∀ {names:List (Str×NameKind)}{x:Str}{k:NameKind},
  names.lookup x=some k-> ∃k',(names.map f).lookup x=some k'/\(k'=k\/(k= .free/\k'= .cell))
 | [],_,_,h=>by simp at h
 | (n,j)::r,x,k,h=>by
  have e1:((n,j)::r).map f=f (n,j)::r.map f:=rfl
  rw[e1]
  obtain⟨a,b,e⟩: ∃a b,f (n,j)=(a,b):=⟨_,_,rfl⟩
  obtain⟨h1,h2⟩:=hf (n,j)
  rw[e] at h1 h2
  have h1':a=n:=h1
  subst h1'
  rw[e,LA]
  rw[LA] at h
  cases hx:x == a with
  | true =>
   rw[hx] at h
   have h':j=k:=KJ h
   subst h'
   exact⟨_,rfl,h2⟩
  | false =>
   rw[hx] at h
   exact xU hf h
theorem CT {scope psc:Scope}{x:Str}{k:NameKind}(h:scope.names.lookup x=some k): ∃k',(x3 scope psc).names.lookup x=some k'/\(k'=k\/(k= .free/\k'= .cell)):=by
 refine xU (fun y=>?_) h
 by_cases c:(y.2 == NameKind.free && psc.kind == .function && psc.names.lookup y.1 == some .cell)=true
 .rw[Ko c]
  have c':y.2= .free:=by
   rw[Lc,Lc] at c
   exact eq_of_beq c.1.1
  exact⟨rfl,.inr ⟨c',rfl⟩⟩
 .rw[Kk c]
  exact⟨rfl,.inl rfl⟩
theorem qN: ∀ {l:List (Str×NameKind)}{x:Str}{k:NameKind},l.lookup x=some k->(x,k)∈l
 | [],_,_,h=>by simp at h
 | (n,j)::r,x,k,h=>by
  rw[LA] at h
  cases hx:x == n with
  | true =>
   rw[hx] at h
   have h':j=k:=KJ h
   rw[eq_of_beq hx,h']
   exact Ky
  | false =>
   rw[hx] at h
   exact Kx _ (qN h)
theorem rP {f:Str×NameKind->Str×NameKind}(hf: ∀x,(f x).1=x.1): ∀ {l:List (Str×NameKind)}{x:Str}{k:NameKind},(l.map f).lookup x=some k-> ∃k',l.lookup x=some k'/\(f (x,k')).2=k
 | [],_,_,h=>by simp at h
 | (n,j)::r,x,k,h=>by
  have e1:((n,j)::r).map f=f (n,j)::r.map f:=rfl
  rw[e1] at h
  obtain⟨a,b,e⟩: ∃a b,f (n,j)=(a,b):=⟨_,_,rfl⟩
  have h1:=hf (n,j)
  rw[e] at h1
  have h1':a=n:=h1
  subst h1'
  rw[e,LA] at h
  rw[LA]
  cases hx:x == a with
  | true =>
   rw[hx] at h
   have h':b=k:=KJ h
   refine⟨j,rfl,?_⟩
   rw[eq_of_beq hx,e]
   exact h'
  | false =>
   rw[hx] at h
   exact rP hf h
theorem Bo {scope psc:Scope}{x:Str}(h:(x3 scope psc).names.lookup x=some .cell\/(x3 scope psc).names.lookup x=some .free):scope.names.lookup x=some .free\/scope.names.lookup x=some .cell:=by
 have key: ∀k,(x3 scope psc).names.lookup x=some k->k= .cell\/k= .free->scope.names.lookup x=some .free\/scope.names.lookup x=some .cell:=fun k hk h2=>by
  obtain⟨k',h1,h3⟩:=rP (fun y=>by split <;> rfl) hk
  by_cases c:(k' == NameKind.free && psc.kind == .function && psc.names.lookup x == some .cell)=true
  .rw[Lc,Lc] at c
   rw[h1,eq_of_beq c.1.1]
   exact .inl rfl
  .have h3':(if (k' == NameKind.free && psc.kind == .function && psc.names.lookup x == some .cell)=true then ((x,NameKind.cell):Str×NameKind) else (x,k')).2=k:=h3
   rw[Kk c] at h3'
   have e:k'=k:=h3'
   rw[h1,e]
   rcases h2 with h2 | h2
   .rw[h2]; exact .inr rfl
   .rw[h2]; exact .inl rfl
 rcases h with h | h
 .exact key _ h (.inl rfl)
 .exact key _ h (.inr rfl)
structure m6 (psc scope:Scope) (own frn:List Str):Prop where
 kind:scope.kind= .function
 cell: ∀y∈scope.names,y.2≠ .cell
 names: ∀y∈scope.names,y.2= .local->scope.names.lookup y.1=some .local
 free: ∀y∈scope.names,y.2= .free->psc.names.lookup y.1=some .cell\/psc.names.lookup y.1=some .free
 nd:(own++frn).Nodup
 frn: ∀x∈frn,scope.names.lookup x=some .free
def cR (own:List Str) (fr:List Nat) (σ:St):St:=own.map (fun _=>none)++fr.map fun j=>(σ[j]?).getD none
def bE (X:Cx) (N':List Str) (scope:Scope) (C:Addr) (s2:Shared) (H:Hp) (fp:List Addr):Cx :=
 { X with N:=N',s₀:=s2,H₀:=H,env:=compEnvC scope (cU scope.names X.env.cells []) C X.env,outer:=X.stack,ex:=fp,fn:=fun _=>false,pn:=[],xe:=fun _ _=>False }
section
variable {X:Cx}{NV:List (Addr×Obj)}{σ:St}{H:Hp}{s:Shared}
theorem zU {psc scope:Scope}{own frn:List Str}{C:Addr}{fp:List Addr}(S:m6 psc scope own frn) (hp:X.env.scope=psc) (I:Inv X NV σ H s) (hfp: ∀b∈fp,cA X NV H b) (hlt: ∀b∈fp,b < s.heap.objs.size) (hC:s.heap.objs.size<=C) :
  (bE X (own++frn) scope C s H fp).Ok:=by
 have sub: ∀x c,(cU scope.names X.env.cells []).lookup x=some c->X.env.cells.lookup x=some c:=fun x c h=>lQ (fun y d q=>by simp at q) h
 have hs:=uX (scope:=scope) hp
 exact {
  mod:=I.ok.mod
  kind:=S.kind
  glob:=I.ok.glob
  blt:=I.ok.blt
  above:=hC
  inj:=fun x y c h1 h2=>I.ok.inj x y c (sub x c h1) (sub y c h2)
  has:=fun x h=>by
   have h':(relabel scope X.env).names.lookup x=some .cell\/(relabel scope X.env).names.lookup x=some .free:=h
   rw[hs] at h'
   have hf:scope.names.lookup x=some .free:=by
    rcases Bo h' with q | q
    .exact q
    .exact absurd rfl (S.cell _ (qN q))
   have hm:=qN hf
   have hk:=S.free _ hm rfl
   rw[<-hp] at hk
   obtain⟨c,hc⟩:=I.ok.has x hk
   exact⟨c,lF (fun y d q=>by simp at q) hc (.inl hm)⟩
  cab:=fun x c h=>by cases h
  hd:=I.ok.hd
  frames:=I.ok.frames
  stk:= .inl rfl
  exf:=fun b hb=>⟨fun e=>absurd (hlt b hb) (Mw.mpr (by rw[e]; exact hC)),fun x c h=>(hfp b hb).2.2.2.2.1 x c (sub x c h)⟩
  bs:=I.bs
  bsz:=KP I.ok.bsz I.sz
  noex:=fun b o e hb=>by
   rcases (hfp b hb).2.2.2.1 with h | h
   .exact I.ok.noex b o e h
   .exact absurd (KA e) (Mw.mpr (KP I.ok.bsz h))
  exfs:=fun b hb q=>by
   rcases Ks.mp (I.uN b q) with h | h
   .exact (hfp b hb).2.1 h
   .exact (hfp b hb).2.2.1 h
  fH:=I.stack
  frf:=I.vL }
end
section
variable {X:Cx}{NV:List (Addr×Obj)}{σ:St}{H:Hp}{s:Shared}
theorem AN {psc scope:Scope}{own frn:List Str}{fr:List Nat}{C:Addr}{fp:List Addr}{h1:Heap}{tk:Nat}{m:Str->Option Value}(S:m6 psc scope own frn) (hp:X.env.scope=psc) (I:Inv X NV σ H s)
  (hfr:fr.map (fun j=>X.N[j]?)=frn.map some) (hfp: ∀b∈fp,cA X NV H b) (hlt: ∀b∈fp,b < s.heap.objs.size) (hC:s.heap.objs.size<=C) (hn:h1.Ns C m) (kp: ∀b o,s.heap.get? b=some o->h1.get? b=some o) :
  Inv (bE X (own++frn) scope C s H fp) [] (cR own fr σ) H { s with heap:=h1,toks:=tk }:=by
 have sub: ∀x c,(cU scope.names X.env.cells []).lookup x=some c->X.env.cells.lookup x=some c:=fun x c h=>lQ (fun y d q=>by simp at q) h
 have hlen:fr.length=frn.length:=by
  have:=Lm List.length hfr
  simpa using this
 exact {
  ok:=zU S hp I hfp hlt hC
  os:=rfl
  bare:=I.bare
  base:=Un.kept kp
  loc:=by
   refine⟨m,hn,fun i x v hi hv _=>?_⟩
   have hi':(own++frn)[i]?=some x:=hi
   have hv':(own.map (fun _=>(none:Option V))++fr.map fun j=>(σ[j]?).getD none)[i]?=some (some v):=hv
   by_cases hlo:i < own.length
   .rw[MO (by simpa using hlo),KD,Kl hlo] at hv'
    cases hv'
   .have hle:own.length<=i:=NI hlo
    rw[MM hle] at hi'
    rw[MM (by simpa using hle),Kj,KD] at hv'
    generalize hk:i - own.length=k at hi' hv'
    cases hj:fr[k]? with
    | none=>rw[hj] at hv'; cases hv'
    | some j =>
     rw[hj] at hv'
     have hv2:(σ[j]?).getD none=some v:=KJ hv'
     have hσ:σ[j]?=some (some v):=by
      cases e:σ[j]? with
      | none=>rw[e] at hv2; cases hv2
      | some z=>rw[e] at hv2; exact Lm some hv2
     have hN:X.N[j]?=some x:=by
      have q:=Lm (fun l=>l[k]?) hfr
      have q':(fr.map (fun j=>X.N[j]?))[k]?=(frn.map some)[k]?:=q
      rw[KD,KD,hj,hi'] at q'
      exact KJ q'
     have hx:x∈frn:=Kp hi'
     have hf:=S.frn x hx
     have hm:=qN hf
     have hkd:=S.free _ hm rfl
     rw[<-hp] at hkd
     have hvis:Pm X.env.scope x:=by
      rcases hkd with q | q
      .exact .inr (.inl q)
      .exact .inr (.inr q)
     obtain⟨m0,hn0,hl0⟩:=I.loc
     obtain⟨u,ru,hlk⟩:=hl0 j x v hN hσ hvis
     refine⟨u,ru,?_⟩
     have hkd':X.env.kindOf x=some .cell\/X.env.kindOf x=some .free:=hkd
     rcases hlk with⟨q,_⟩ | ⟨_,c,hc,hcell⟩
     .rcases hkd' with z | z <;> (rw[q] at z; cases z)
     .refine .inr ⟨?_,c,lF (fun y d q=>by simp at q) hc (.inl hm),hcell.keeps kp⟩
      obtain⟨k',h1',h2'⟩:=CT (psc:=psc) hf
      have h3:Env.kindOf (compEnvC scope (cU scope.names X.env.cells []) C X.env) x=some k':=by
       show (relabel scope X.env).names.lookup x=some k'
       rw[uX hp]
       exact h1'
      rcases h2' with e | ⟨_,e⟩
      .right; rw[e] at h3; exact h3
      .left; rw[e] at h3; exact h3
  cell:=fun x c h=>by
   obtain⟨v,hv⟩:=I.cell x c (sub x c h)
   exact⟨v,hv.keeps kp⟩
  free:=I.hok.fresh hC
  freeC:=fun x c h=>I.freeC x c (sub x c h)
  pin:=fun p hp'=>by cases hp'
  hok:=I.hok.kept kp
  len:=by
   show (own.map (fun _=>(none:Option V))++fr.map fun j=>(σ[j]?).getD none).length=(own++frn).length
   simp[hlen] }
end
section
variable {prog:Program}{w:World}{A:Around}{R:Result->Shared->Prop}{s:Shared}
theorem Bu {elt tg iter:Expr}{ifs:List Expr}{scope:Scope}{pos:Pos}{it acc:Value}{env:Env}(J:Nat->Shared->Prop)
  (turn: ∀n s,J n s->wpAny (model prog w) A (pyNext it) (fun r s1=>match r with
   | none=>R (.ok .next) s1
   | some v=>wpAny (model prog w) A (letOwnedTupleGo tg it v) (fun _ s2=>wpAny (model prog w) A (assign tg env v) (fun _ s3 =>
     wpAny (model prog w) A (forIn ifs true fun c r=>if r=true then do let ok <-isTrue c env (eval c env); pure (ForInStep.yield ok) else pure (ForInStep.yield r)) (fun ok s4 =>
      if ok=true then wpAny (model prog w) A (eval elt env) (fun x s5=>wpAny (model prog w) A (call (.builtin "list.append") [acc,x]) (fun _ s6=> ∃m,m < n/\J m s6) (fun _ _=>False) s5) (fun _ _=>False) s4
      else ∃m,m < n/\J m s4) (fun _ _=>False) s3) (fun _ _=>False) s2) (fun _ _=>False) s1) (fun _ _=>False) s)
  (n:Nat) (h:J n s):codeAny (model prog w) A (.compLoop (.ListComp elt [⟨tg,iter,ifs,0⟩] scope pos) 0 it acc env) R s:=by
 refine codeAny_loop rfl J (fun n s hJ=>?_) n h
 show wpAny (model prog w) A ((compTurn (.ListComp elt [⟨tg,iter,ifs,0⟩] scope pos) 0 it acc env).onRaise (fun x=>do noteFrame x env; theTreesLotGoes x)) _ _ s
 refine wpAny_noted ?_
 rw[compTurn_list]
 refine Kt (L4 (Kt (Lr (turn n s hJ) (fun r s1 h1=>?_) fun _ _ f=>f.elim)))
 cases r with
 | none=>exact K1 h1
 | some v =>
  refine Kt (Lr h1 (fun _ s2 h2=>?_) fun _ _ f=>f.elim)
  refine Kt (Lr h2 (fun _ s3 h3=>Kt (Lr h3 (fun ok s4 h4=>?_) fun _ _ f=>f.elim)) fun _ _ f=>f.elim)
  cases ok with
  | false=>exact K1 ⟨rfl,h4⟩
  | true=>exact Kt (Kt (Lr h4 (fun x s5 h5=>Kt (Lr h5 (fun _ s6 h6=>K1 (K1 ⟨rfl,h6⟩)) fun _ _ f=>f.elim)) fun _ _ f=>f.elim))
end
def gN:TT:=fun _ H Q=>Q true H
def O6 (X:Cx) (ifs:List Expr) (t:TT):Prop :=
 ∀(NV:List (Addr×Obj)) (s:Shared) (σ:St) (H:Hp) (Q:Bool->Hp->Prop),Inv X NV σ H s->t σ H Q ->
  wpAny (model X.prog X.w) X.A (forIn ifs true fun c r=>if r=true then do let ok <-isTrue c X.env (eval c X.env); pure (ForInStep.yield ok) else pure (ForInStep.yield r)) (TP X NV σ Q) X.xe s
theorem dD {X:Cx}:O6 X [] gN:=fun _ _ _ H _ I h=>wpAny_tests_nil ⟨H,I,h⟩
theorem iA {X:Cx}{c:Expr}{t:TT}(h:PT X c t):O6 X [c] t:=fun NV s σ H Q I q=>wpAny_tests_one (h NV s σ H Q I q)
def mO (J:It) (g:TG) (tt:TT) (te:TE) (own:List Str) (fr:List Nat) (σ:St) (H:Hp) (Q:VK):Prop :=
 ∃W:Nat->Nat->List V->Hp->Prop,(∃m,W 0 m [] H)/\ ∀i m ys H2,W i m ys H2 ->
  (J.stop i H2/\ys.length<=sizeLine/\ ∀p,H2 p=none->Q (.ref p) (upd H2 p (.lst ys))) \/
  (J.go i H2/\ys.length < sizeLine/\ ∀x H3,J.yld i H2 x H3->g x (cR own fr σ) H3 fun σ4 H4=>tt σ4 H4 fun b H5 =>
   if b=true then te σ4 H5 fun y H6=> ∃m',m' < m/\W (i+1) m' (ys++[y]) H6 else ∃m',m' < m/\W (i+1) m' ys H5)
def xc (wi:TI) (g:TG) (tt:TT) (te:TE) (own:List Str) (fr:List Nat):TE:=fun σ H Q=>wi σ H fun J H1=>mO J g tt te own fr σ H1 Q
def rQ (n:Nat) (g:TG):Prop:= ∀x σ H Q,g x σ H Q->g x σ H fun σ' H'=>(σ'.length=σ.length/\ ∀j,n<=j->σ'[j]?=σ[j]?)/\Q σ' H'
def xp (n:Nat) (g:OK):Prop:= ∀xs σ H Q,g xs σ H Q->g xs σ H fun σ' H'=>(σ'.length=σ.length/\ ∀j,n<=j->σ'[j]?=σ[j]?)/\Q σ' H'
theorem bG {n i:Nat}(h:i < n):rQ n (aY i):=fun x σ H Q q =>
 ⟨⟨Mg,fun j hj=>M7 (by omega)⟩,q⟩
theorem vR {n:Nat}:xp n Ea:=fun xs σ H Q ⟨e,q⟩=>⟨e,⟨rfl,fun _ _=>rfl⟩,q⟩
def Ay (g:TG):Prop:= ∀x σ H (Q Q':St->Hp->Prop),(∀σ' H',Q σ' H'->Q' σ' H')->g x σ H Q->g x σ H Q'
def uH (g:OK):Prop:= ∀xs σ H (Q Q':St->Hp->Prop),(∀σ' H',Q σ' H'->Q' σ' H')->g xs σ H Q->g xs σ H Q'
theorem iy {i:Nat}:Ay (aY i):=fun x σ H Q Q' h q=>h _ _ q
theorem m8:uH Ea:=fun xs σ H Q Q' h ⟨e,q⟩=>⟨e,h _ _ q⟩
theorem ur {g:TG}{gs:OK}(h1:Ay g) (h2:uH gs):uH (AM g gs):=fun xs σ H Q Q' h ⟨v,r,e,q⟩ =>
 ⟨v,r,e,h1 _ _ _ _ _ (fun σ' H' z=>h2 _ _ _ _ _ h z) q⟩
theorem ky {n:Nat}{g:TG}{gs:OK}(h1:rQ n g) (m1:Ay g) (h2:xp n gs) (m2:uH gs):xp n (AM g gs):=fun xs σ H Q ⟨v,r,e,q⟩=>by
 refine⟨v,r,e,m1 _ _ _ _ _ (fun σ' H' z=>?_) (h1 _ _ _ _ q)⟩
 obtain⟨⟨l1,k1⟩,z⟩:=z
 refine m2 _ _ _ _ _ (fun σ2 H2 z2=>?_) (h2 _ _ _ _ z)
 obtain⟨⟨l2,k2⟩,z2⟩:=z2
 exact⟨⟨l2.trans l1,fun j hj=>(k2 j hj).trans (k1 j hj)⟩,z2⟩
theorem yK {n k:Nat}{K:NY}{gs:OK}(h:xp n gs):rQ n (yq K k gs):=fun x σ H Q ⟨a,xs,e,hq,hl,q⟩=>⟨a,xs,e,hq,hl,h _ _ _ _ q⟩
structure Ai (cond:Cx->Prop) (P:Program) (w:World) (K:NY) (tg:Expr) (J:It) (fp:List Addr) (it:Addr) (tn:Nat->Heap->Prop):Prop where
 mem:it∈fp
 obj: ∀i h,tn i h-> ∀b∈fp,∃o,h.get? b=some o/\ ∀v,o.data≠ .cell v
 keep: ∀i h h',tn i h->(∀b∈fp,∀o,h.get? b=some o->h'.get? b=some o)->tn i h'
 item: ∀(X:Cx),X.prog=P->X.w=w->X.K=K->cond X-> ∀(i:Nat) (NV:List (Addr×Obj)) (s:Shared) (σ:St) (H:Hp) (E:Value->Shared->Prop),Inv X NV σ H s->(∀b∈fp,cA X NV H b)->tn i s.heap->J.go i H ->
  wpAny (model P w) X.A (pyNext (.ref it)) (fun r s1=> ∃u,r=some u /\
   wpAny (model P w) X.A (letOwnedTupleGo tg (.ref it) u) (fun _ s2=> ∃x H',Inv X NV σ H' s2/\RelV x u/\J.yld i H x H'/\tn (i+1) s2.heap/\ ∀b∈fp,H' b=none) E s1) E s
 done: ∀(X:Cx),X.prog=P->X.w=w->X.K=K->cond X-> ∀(i:Nat) (NV:List (Addr×Obj)) (s:Shared) (σ:St) (H:Hp) (E:Value->Shared->Prop),Inv X NV σ H s->(∀b∈fp,cA X NV H b)->tn i s.heap->J.stop i H ->
  wpAny (model P w) X.A (pyNext (.ref it)) (fun r s1=>r=none/\Inv X NV σ H s1) E s
 self: ∀(A:Around) (i:Nat) (s:Shared) (Q:Value->Shared->Prop) (E:Value->Shared->Prop),tn i s.heap->Q (.ref it) s->wpAny (model P w) A (pyIter (.ref it)) Q E s
theorem Turn.c {P:Program}{w:World}{K:NY}{tg:Expr}{J:It}{fp:List Addr}{it:Addr}{tn:Nat->Heap->Prop}(T:Turn P w K tg J fp it tn):Ai (fun X=>X.calm=true) P w K tg J fp it tn:=⟨T.mem,T.obj,T.keep,T.item,T.done,T.self⟩
def PD (cond:Cx->Prop) (X:Cx) (tg iter:Expr) (wi:TI):Prop :=
 ∀(NV:List (Addr×Obj)) (s:Shared) (σ:St) (H:Hp) (R:It->Hp->Prop),Inv X NV σ H s->wi σ H R ->
  wpAny (model X.prog X.w) X.A (eval iter X.env) (fun v s1=>wpAny (model X.prog X.w) X.A (pyIter v) (fun itv s2 =>
   ∃(it:Addr) (fp:List Addr) (tn:Nat->Heap->Prop) (J:It) (H':Hp),itv= .ref it/\Inv X NV σ H' s2/\Ai cond X.prog X.w X.K tg J fp it tn/\tn 0 s2.heap/\(∀b∈fp,cA X NV H' b)/\R J H') X.xe s1) X.xe s
theorem PI.c {X:Cx}{tg iter:Expr}{wi:TI}(h:PI X tg iter wi):PD (fun X=>X.calm=true) X tg iter wi:=fun NV s σ H R I q =>
 N0 (h NV s σ H R I q) fun v s1 h1=>N0 h1 fun itv s2 ⟨it,fp,tn,J,H',e,I',T,a,b,c⟩=>⟨it,fp,tn,J,H',e,I',T.c,a,b,c⟩
def gw (its:List Value) (n:Nat):Obj:={ cls:= .type "list",data:= .seq its.toArray n }
section
variable {X:Cx}{NV:List (Addr×Obj)}{σ:St}{H:Hp}{s:Shared}
theorem DE {scope:Scope}{own frn:List Str}{fr:List Nat}{C D it:Addr}{fp:List Addr}{tg elt iter:Expr}{ifs:List Expr}{pos:Pos}{tn:Nat->Heap->Prop}{J:It}{g:TG}{tt:TT}{te:TE}{Q:VK}{s4:Shared}{W:Nat->Nat->List V->Hp->Prop}{m0:Nat}{R:Result->Shared->Prop}{cond:Cx->Prop}
  (hc:cond (bE X (own++frn) scope C s H fp)) (go:rQ own.length g) (T:Ai cond X.prog X.w X.K tg J fp it tn) (hD:s.heap.objs.size<=D) (hDC:D≠C) (hDf:D∉fp)
  (hg:PG (bE X (own++frn) scope C s H fp) tg g) (ht:O6 (bE X (own++frn) scope C s H fp) ifs tt) (he:PE (bE X (own++frn) scope C s H fp) elt te)
  (I:Inv (bE X (own++frn) scope C s H fp) [] (cR own fr σ) H s4) (st:tn 0 s4.heap) (hfp: ∀b∈fp,cA (bE X (own++frn) scope C s H fp) [] H b) (hacc:s4.heap.get? D=some (gw [] 0)) (hDn:H D=none)
  (w0:W 0 m0 [] H) (turn: ∀i m ys H2,W i m ys H2 ->
   (J.stop i H2/\ys.length<=sizeLine/\ ∀p,H2 p=none->Q (.ref p) (upd H2 p (.lst ys))) \/
   (J.go i H2/\ys.length < sizeLine/\ ∀x H3,J.yld i H2 x H3->g x (cR own fr σ) H3 fun σ4 H4=>tt σ4 H4 fun b H5 =>
    if b=true then te σ4 H5 fun y H6=> ∃m',m' < m/\W (i+1) m' (ys++[y]) H6 else ∃m',m' < m/\W (i+1) m' ys H5))
  (fin: ∀s5 H5 ys its n σ5,Inv (bE X (own++frn) scope C s H fp) [] σ5 H5 s5->s5.heap.get? D=some (gw its n)->Vals ys its->ys.length<=sizeLine->H5 D=none->Q (.ref D) (upd H5 D (.lst ys))->R (.ok .next) s5) :
  codeAny (model X.prog X.w) X.A (.compLoop (.ListComp elt [⟨tg,iter,ifs,0⟩] scope pos) 0 (.ref it) (.ref D) (compEnvC scope (cU scope.names X.env.cells []) C X.env)) R s4:=by
 have stat: ∀ {H':Hp}{pl:List (Addr×Obj)},(∀b∈fp,H' b=none)->(∀p∈pl,p.1∉fp)-> ∀b∈fp,cA (bE X (own++frn) scope C s H fp) pl H' b:=fun {H' pl} hn hpl b hb=>by
  obtain⟨_,f1,f2,f3,f4,_⟩:=hfp b hb
  refine⟨hn b hb,f1,f2,f3,f4,fun p hp z=>?_⟩
  have hp':p∈pl:=hp
  exact hpl p hp' (by rw[z]; exact hb)
 refine Bu (env:=compEnvC scope (cU scope.names X.env.cells []) C X.env) (fun n s'=> ∃i ys H' its k,Inv (bE X (own++frn) scope C s H fp) [] (cR own fr σ) H' s'/\tn i s'.heap/\(∀b∈fp,H' b=none)/\s'.heap.get? D=some (gw its k)/\H' D=none/\Vals ys its/\W i n ys H') ?_ m0
  ⟨0,[],H,[],0,I,st,fun b hb=>(hfp b hb).1,hacc,hDn,.nil,w0⟩
 rintro n s3 ⟨i,ys,H3,its,k,I3,st3,fr3,ha3,hD3,rv3,w3⟩
 have hne: ∀p∈[(D,gw its k)],p.1∉fp:=fun p hp=>by
  rcases Km.mp hp with rfl
  exact hDf
 have hnofs:D∉(bE X (own++frn) scope C s H fp).fs:=fun hb=>by
  obtain⟨_,o,ho,_⟩:=I3.ok.fH.mem hb
  exact absurd (KA ho) (Mw.mpr hD)
 have I3p:Inv (bE X (own++frn) scope C s H fp) [(D,gw its k)] (cR own fr σ) H3 s3:=I3.kI fun p hp=>by
  rcases Km.mp hp with rfl
  exact⟨ha3,hD3,hDC,hnofs,fun v z=>by cases z⟩
 have back: ∀ {σ':St},(σ'.length=(cR own fr σ).length/\ ∀j,own.length<=j->σ'[j]?=(cR own fr σ)[j]?)-> ∀(j:Nat) v,(cR own fr σ)[j]?=some (some v)->σ'[j]?=some (some v):=fun {σ'} h j v e=>by
  by_cases hj:j < own.length
  .unfold cR at e
   rw[MO (by simpa using hj),KD,Kl hj] at e
   cases e
  .rw[h.2 j (NI hj)]
   exact e
 rcases turn i n ys H3 w3 with⟨stop,hz,q⟩ | ⟨hgo,hz,step⟩
 .refine N0 (T.done (bE X (own++frn) scope C s H fp) rfl rfl rfl hc i _ s3 _ H3 _ I3p (stat fr3 hne) st3 stop) fun r s4 ⟨hr,I4⟩=>?_
  subst hr
  exact fin s4 H3 ys its k _ (I4.kI fun p hp=>by cases hp) (I4.pin (D,gw its k) (K0 _ Ky)).1 rv3 hz hD3 (q D hD3)
 .refine N0 (T.item (bE X (own++frn) scope C s H fp) rfl rfl rfl hc i _ s3 _ H3 _ I3p (stat fr3 hne) st3 hgo) fun r s4 ⟨u,hr,h4⟩=>?_
  subst hr
  refine N0 h4 fun _ s5 ⟨x,H5,I5,r5,y5,st5,fr5⟩=>?_
  have I5':=I5.pinned (stat fr5 hne) (T.obj _ _ st5)
  have pinD: ∀ {σ':St}{H':Hp}{s':Shared},Inv (bE X (own++frn) scope C s H fp) ([(D,gw its k)]++sN fp s5.heap) σ' H' s'->s'.heap.get? D=some (gw its k)/\H' D=none/\tn (i+1) s'.heap/\ ∀b∈fp,H' b=none:=fun {σ' H' s'} I'=>by
   have p1:=I'.pin (D,gw its k) (K0 _ (Lj _ Ky))
   refine⟨p1.1,p1.2.1,T.keep _ _ _ st5 fun b hb o e=>(I'.pin (b,o) (K0 _ (K0 _ (mL hb e)))).1,fun b hb=>?_⟩
   obtain⟨o,e,d⟩:=T.obj _ _ st5 b hb
   exact (I'.pin (b,o) (K0 _ (K0 _ (mL hb e)))).2.1
  refine N0 (hg _ s5 _ H5 x u _ I5' r5 (go _ _ _ _ (step x H5 y5))) fun _ s6 ⟨σ6,H6,I6,hk6,q6⟩=>?_
  refine N0 (ht _ s6 σ6 H6 _ I6 q6) fun b s7 ⟨H7,I7,q7⟩=>?_
  cases b with
  | false =>
   rw[Kk KG] at q7 ⊢
   obtain⟨m',hm,w7⟩:=q7
   obtain⟨a7,d7,t7,f7⟩:=pinD I7
   exact⟨m',hm,i+1,ys,H7,its,k,(I7.weak hk6.1.symm (back hk6)).kI (fun p hp=>by cases hp),t7,f7,a7,d7,rv3,w7⟩
  | true =>
   rw[Ko rfl] at q7 ⊢
   refine N0 (he _ s7 σ6 H7 _ I7 q7) fun v s8 ⟨y,H8,I8,r8,m',hm,w8⟩=>?_
   obtain⟨a8,d8,t8,f8⟩:=pinD I8
   refine L9 F.slot_list_append ⟨_,a8,rfl⟩ F.entry_list_append (F.args_list_append_2 _ _) (PySem.list_append D its.toArray k v (by rw[KC,<-rv3.length]; omega)) ⟨a8,?_⟩
   obtain⟨n9,q9⟩: ∃n9,(s8.heap.update D (Obj.mapSeq (·.push v))).get? D=some (gw (its++[v]) n9):=by
    have q9:=PySem.IsL.update a8 (·.push v)
    have e10:(its.toArray.push v)=(its++[v]).toArray:=by simp
    rw[e10] at q9
    exact⟨_,q9⟩
   have e9: ∀b o,b≠D->s8.heap.get? b=some o->(s8.heap.update D (Obj.mapSeq (·.push v))).get? b=some o:=fun b o hb e=>(Lo s8.heap (Obj.mapSeq (·.push v)) (KW hb)).trans e
   have I8':Inv (bE X (own++frn) scope C s H fp) [] (cR own fr σ) H8 s8:=(I8.weak hk6.1.symm (back hk6)).kI fun p hp=>by cases hp
   refine⟨m',hm,i+1,ys++[y],H8,its++[v],n9,I8'.turned (t':=s8.toks) e9 d8 hDC (.inr hD) (fun z c hc' e=>?_) (fun p hp=>by cases hp),T.keep _ _ _ t8 fun b hb o e=>e9 b o (fun z=>hDf (by rw[<-z]; exact hb)) e,f8,q9,d8,rv3.append (.cons r8 .nil),w8⟩
   obtain⟨v',o,ho,hd⟩:=I8'.cell z c hc'
   rw[e,a8] at ho
   cases ho
   cases hd
end
section
variable {X:Cx}{NV:List (Addr×Obj)}{σ:St}{H:Hp}{s:Shared}
theorem comp_back {N':List Str}{scope:Scope}{C D:Addr}{fp:List Addr}{H5:Hp}{s5:Shared}{σ5:St}{ys:List V}{its:List Value}{n:Nat}{h':Heap}(I:Inv X NV σ H s) (hfp: ∀b∈fp,cA X NV H b) (hC:s.heap.objs.size<=C) (hD:s.heap.objs.size<=D) (hDC:D≠C)
  (I5:Inv (bE X N' scope C s H fp) [] σ5 H5 s5) (ha:s5.heap.get? D=some (gw its n)) (rv:Vals ys its) (hz:ys.length<=sizeLine) (hDn:H5 D=none) (sb:Heap.SameBut C s5.heap h') :
  Inv X NV σ (upd H5 D (.lst ys)) { s5 with heap:=h' }:=by
 have u5:Un (Oz X.stack) fp H H5 s.heap s5.heap:=I5.base
 have nC: ∀b o,s.heap.get? b=some o->b≠C:=fun b o e z=>absurd (KA e) (Mw.mpr (by rw[z]; exact hC))
 have nD: ∀b o,s.heap.get? b=some o->b≠D:=fun b o e z=>absurd (KA e) (Mw.mpr (by rw[z]; exact hD))
 have tD: ∀b o,H5 b=some o->b≠D:=fun b o e z=>by rw[z,hDn] at e; cases e
 have fC:H5 C=none:=I5.free
 refine I.z5 (ch:=fp) (H':=upd H5 D (.lst ys)) I5.os ?_ ?_ I5.bare fun b hb=>⟨(hfp b hb).2.2.2.1,(hfp b hb).2.1,fun x c hc=>(hfp b hb).2.2.2.2.1 x c hc,(hfp b hb).2.2.2.2.2⟩
 .exact {
   keep:=fun b o e h1 h2 h3=>sb.extBut b o (nC b o e) (u5.keep b o e h1 h2 h3)
   slot:=fun b o e h1 h2 h3=>by
    obtain⟨sl,q⟩:=u5.slot b o e h1 h2 h3
    exact⟨sl,sb.extBut b _ (nC b o e) q⟩
   free:=fun b o e h1 h3=>by
    rw[ao (nD b o e)]
    exact u5.free b o e h1 h3
   there:=fun b o e h3=>by
    obtain⟨o',q⟩:=u5.there b o e h3
    exact⟨o',sb.extBut b _ (nC b o e) q⟩
   tups:=fun b xs e=>by
    have q:=u5.tups b xs e
    rw[ao (tD b _ q)]
    exact q
   frzs:=fun b o u e=>by
    have q:=u5.frzs b o u e
    rw[ao (tD b _ q)]
    exact q
   tbls:=fun b ps e=>by
    obtain⟨more,q⟩:=u5.tbls b ps e
    refine⟨more,?_⟩
    rw[ao (tD b _ q)]
    exact q }
 .intro a o e
  by_cases hd:a=D
  .subst hd
   rw[ag] at e
   cases e
   exact⟨hz,its,n,rv,sb.extBut a _ hDC ha⟩
  .rw[ao hd] at e
   refine (I5.hok a o e).o6 (fun b u hb q=>sb.extBut b u (fun z=>?_) q) (fun b hb=>by rw[ao (tD b _ hb)]; exact hb) (fun b xs hb=>by rw[ao (tD b _ hb)]; exact hb)
   rcases hb with hb | hb
   .rw[z] at hb
    rw[<-hb,fC] at e
    cases e
   .rw[z,fC] at hb
    cases hb
theorem wD {psc scope:Scope}{own frn:List Str}{fr:List Nat}{tg elt iter:Expr}{ifs:List Expr}{pos:Pos}{wi:TI}{g:TG}{tt:TT}{te:TE}{Q:VK}{RR:Value->Addr->Result->Shared->Prop}{cond:Cx->Prop}(S:m6 psc scope own frn) (hp:X.env.scope=psc) (hfr:fr.map (fun j=>X.N[j]?)=frn.map some)
  (hc: ∀C s2 H2 fp,cond (bE X (own++frn) scope C s2 H2 fp)) (go:rQ own.length g) (hi:PD cond X tg iter wi)
  (hb: ∀C s2 H2 fp,PG (bE X (own++frn) scope C s2 H2 fp) tg g/\O6 (bE X (own++frn) scope C s2 H2 fp) ifs tt/\PE (bE X (own++frn) scope C s2 H2 fp) elt te)
  (I:Inv X NV σ H s) (h:xc wi g tt te own fr σ H Q)
  (fin: ∀C D s5 H6 m,Inv X NV σ H6 s5->(∀h',Heap.SameBut C s5.heap h'->Inv X NV σ H6 { s5 with heap:=h' })->s5.heap.Ns C m->H6 C=none->C≠X.env.locals->X.s₀.heap.objs.size<=C->(∀x c,X.env.cells.lookup x=some c->c≠C)->(∀p∈X.pn++NV,p.1≠C)->Q (.ref D) H6->RR (.ref D) C (.ok .next) s5) :
  wpAny (model X.prog X.w) X.A (eval iter X.env) (fun x s₁=>wpAny (model X.prog X.w) X.A (pyIter x) (fun it s₂=>wpAny (model X.prog X.w) X.A (newList []) (fun acc s₃=>wpAny (model X.prog X.w) X.A (newFunctionEnv scope X.env.globals (cU scope.names X.env.cells []) [] X.env.qual none .none (some X.env)) (fun cenv s₄ =>
   codeAny (model X.prog X.w) X.A (.compStart (.ListComp elt [⟨tg,iter,ifs,0⟩] scope pos) 0 it acc { cenv with scope:=relabel scope X.env }) (RR acc cenv.locals) s₄) X.xe s₃) X.xe s₂) X.xe s₁) X.xe s:=by
 refine N0 (hi NV s σ H _ I h) fun v s1 h1=>N0 h1 fun itv s2 h2=>?_
 obtain⟨it,fp,tn,J,H2,rfl,I2,T,st2,f2,W,⟨m0,w0⟩,turn⟩:=h2
 refine MV (wpAny_newFunctionEnv S.cell (by intro y hy; simp at hy) (fun h1 hns1 hsb1=>?_) S.kind)
 dsimp only at hns1 hsb1 ⊢
 generalize hH:s2.heap.push { cls:= .type "list",dict:=none,data:= .seq ([]:List Value).toArray }=HH at hns1 hsb1 ⊢
 have hC:HH.objs.size=s2.heap.objs.size+1:=by rw[<-hH,LF]
 have hDC:s2.heap.objs.size≠HH.objs.size:=by rw[hC]; exact K3 (Ms _)
 have hCle:s2.heap.objs.size<=HH.objs.size:=by rw[hC]; exact MB _
 have kp: ∀b o,s2.heap.get? b=some o->h1.get? b=some o:=fun b o e =>
  hsb1.extBut b o (fun z=>absurd (KA e) (Mw.mpr (by rw[z]; exact hCle))) (Kq _ (hH▸Kq _ e))
 have ha:h1.get? s2.heap.objs.size=some (gw [] 0):=hsb1.extBut _ _ hDC (Kq _ (hH▸K7 _ rfl))
 have hlt: ∀b∈fp,b < s2.heap.objs.size:=fun b hb=>by
  obtain⟨o,e,_⟩:=T.obj _ _ st2 b hb
  exact KA e
 obtain⟨b1,b2,b3⟩:=hb HH.objs.size s2 H2 fp
 have IS: ∀tk,Inv (bE X (own++frn) scope HH.objs.size s2 H2 fp) [] (cR own fr σ) H2 { s2 with heap:=h1,toks:=tk }:=fun tk=>AN S hp I2 hfr f2 hlt hCle hns1 kp
 have st3:tn 0 h1:=T.keep _ _ _ st2 fun b _ o e=>kp b o e
 have okc:=zU S hp I2 f2 hlt hCle
 have fp3: ∀b∈fp,cA (bE X (own++frn) scope HH.objs.size s2 H2 fp) [] H2 b:=fun b hb=>⟨(f2 b hb).1,(okc.exf b hb).1,okc.exfs b hb,.inl hb,(okc.exf b hb).2,fun p hp'=>by cases hp'⟩
 have loop: ∀tk,codeAny (model X.prog X.w) X.A (.compLoop (.ListComp elt [⟨tg,iter,ifs,0⟩] scope pos) 0 (.ref it) (.ref s2.heap.objs.size) (compEnvC scope (cU scope.names X.env.cells []) HH.objs.size X.env))
   (RR (.ref s2.heap.objs.size) HH.objs.size) { s2 with heap:=h1,toks:=tk }:=fun tk=>by
  refine DE (hc _ _ _ _) go T (Kn _) hDC (fun z=>absurd (hlt _ z) (LQ _)) b1 b2 b3 (IS tk) st3 fp3 ha I2.fresh w0 turn fun s5 H5 ys its n σ5 I5 a5 rv hz d5 q=>?_
  obtain⟨m5,n5,_⟩:=I5.loc
  have fC:=I2.jg (b:=HH.objs.size) (H':=H2) hCle (I2.hok.fresh hCle)
  have f5:H5 HH.objs.size=none:=I5.free
  refine fin HH.objs.size _ s5 _ m5 (comp_back I2 f2 hCle (Kn _) hDC I5 a5 rv hz d5 (.refl ..)) (fun h' sb=>comp_back I2 f2 hCle (Kn _) hDC I5 a5 rv hz d5 sb) n5 ?_ fC.2.1 (KP I2.sz hCle) fC.2.2.2.2.1 fC.2.2.2.2.2 q
  rw[ao (KW hDC)]
  exact f5
 exact codeAny_compStart_list (loop _) (T.self _ _ _ _ _ st3 (loop _))
theorem C0 {cond:Cx->Prop}{psc scope:Scope}{own frn:List Str}{fr:List Nat}{tg elt iter:Expr}{ifs:List Expr}{pos:Pos}{wi:TI}{g:TG}{tt:TT}{te:TE}(S:m6 psc scope own frn) (hp:X.env.scope=psc) (hfr:fr.map (fun j=>X.N[j]?)=frn.map some)
  (hc: ∀C s2 H2 fp,cond (bE X (own++frn) scope C s2 H2 fp)) (go:rQ own.length g) (hi:PD cond X tg iter wi)
  (hb: ∀C s2 H2 fp,PG (bE X (own++frn) scope C s2 H2 fp) tg g/\O6 (bE X (own++frn) scope C s2 H2 fp) ifs tt/\PE (bE X (own++frn) scope C s2 H2 fp) elt te)
  (hs: ∀x,foldedSetIterable iter X.env x=pure x:=by intro _; rfl):PE X (.ListComp elt [⟨tg,iter,ifs,0⟩] scope pos) (xc wi g tt te own fr):=by
 intro NV s σ H Q I h
 have hclos:closureFor scope X.env=pure (cU scope.names X.env.cells []):=qZ fun x hx hk=>I.ok.has x.1 (by have:=S.free x hx hk; rw[<-hp] at this; exact this)
 rw[eval_ListComp]
 refine wpAny_comprehension_free (use:=none) rfl hs hclos S.kind S.names (wD (RR:=fun acc C=>compPost (model X.prog X.w) X.A X.xe none (EP X NV σ Q) acc C) S hp hfr hc go hi hb I h ?_)
 intro C D s5 H6 m5 I5 I5' n5 _ _ _ _ _ q
 exact⟨m5,n5,fun h' sb=>⟨.ref D,H6,I5' h' sb,rfl,q⟩⟩
theorem cM {psc scope:Scope}{own frn:List Str}{fr:List Nat}{tg elt iter:Expr}{ifs:List Expr}{pos:Pos}{wi:TI}{g:TG}{tt:TT}{te:TE}(S:m6 psc scope own frn) (hp:X.env.scope=psc) (hfr:fr.map (fun j=>X.N[j]?)=frn.map some)
  (hc:X.calm=true) (go:rQ own.length g) (hi:PI X tg iter wi)
  (hb: ∀C s2 H2 fp,PG (bE X (own++frn) scope C s2 H2 fp) tg g/\O6 (bE X (own++frn) scope C s2 H2 fp) ifs tt/\PE (bE X (own++frn) scope C s2 H2 fp) elt te)
  (hs: ∀x,foldedSetIterable iter X.env x=pure x:=by intro _; rfl):PE X (.ListComp elt [⟨tg,iter,ifs,0⟩] scope pos) (xc wi g tt te own fr):=C0 S hp hfr (fun _ _ _ _=>hc) go hi.c hb hs
theorem mU {i:Nat}{y:Str}{psc scope:Scope}{own frn:List Str}{fr:List Nat}{tg elt iter:Expr}{ifs:List Expr}{pos py spos:Pos}{wi:TI}{g:TG}{tt:TT}{te:TE}(hN:X.N.Nodup) (hy:X.N[i]?=some y) (hl:Loc X.env.scope y) (S:m6 psc scope own frn) (hp:X.env.scope=psc) (hfr:fr.map (fun j=>X.N[j]?)=frn.map some)
  (hc:X.calm=true) (go:rQ own.length g) (hi:PI X tg iter wi)
  (hb: ∀C s2 H2 fp,PG (bE X (own++frn) scope C s2 H2 fp) tg g/\O6 (bE X (own++frn) scope C s2 H2 fp) ifs tt/\PE (bE X (own++frn) scope C s2 H2 fp) elt te)
  (hsw:swapsWith (.ListComp elt [⟨tg,iter,ifs,0⟩] scope pos) (some (.Name y py)) spos.line X.env=pure true:=by rfl)
  (hs: ∀x,foldedSetIterable iter X.env x=pure x:=by intro _; rfl)
  (hf:X.fn y=true\/X.env.scope.names.lookup y=some .local:=by first | exact .inl rfl | exact .inr rfl | assumption) :
  PS X (.Assign [.Name y py] (.ListComp elt [⟨tg,iter,ifs,0⟩] scope pos) spos) (DK (xc wi g tt te own fr) (aY i)):=by
 intro NV s σ H E I h
 have hclos:closureFor scope X.env=pure (cU scope.names X.env.cells []):=qZ fun x hx hk=>I.ok.has x.1 (by have:=S.free x hx hk; rw[<-hp] at this; exact this)
 rw[exec_Assign_Name_used _ _ _ _ hsw]
 refine Kt (L4 (Kt ?_))
 show wpAny _ X.A (do let _ <-comprehension (.ListComp elt [⟨tg,iter,ifs,0⟩] scope pos) scope X.env _ (newList []) false (eval iter X.env) (some (assign (.Name y py) X.env))) _ _ s
 refine Kt (Lr (wpAny_comprehension_free (use:=some (assign (.Name y py) X.env)) (Q:=fun _ s'=>SP X NV E .next s') rfl hs hclos S.kind S.names (wD (Q:=fun v H'=>E.nx (σ.set i (some v)) H')
  (RR:=fun acc C=>compPost (model X.prog X.w) X.A X.xe (some (assign (.Name y py) X.env)) (fun _ s'=>SP X NV E .next s') acc C) S hp hfr (cond:=fun X=>X.calm=true) (fun _ _ _ _=>hc) go hi.c hb I h ?_)) (fun _ s' hq=>K1 (K1 hq)) fun _ _ e=>e)
 intro C D s5 H6 m5 I5 _ n5 f1 f2 f3 f4 f5 q
 show wpAny _ X.A (assign (.Name y py) X.env (.ref D)) _ _ _
 refine wpAny_assign_Name (vZ (v:= .ref D) I5 hN hy hl rfl (fun s6 I6 ⟨a,sb,ha⟩=>?_) hf)
 have hCa:C≠a:=by
  rcases ha with rfl | e
  .exact f2
  .exact fun z=>f4 _ _ e z.symm
 exact⟨m5,n5.sameBut sb hCa,fun h' sb'=>⟨_,H6,I6.turned (t':=s6.toks) (it:=C) (fun b o hb e=>sb'.extBut b o hb e) f1 f2 (.inr f3) f4 f5,q⟩⟩
end
def Pb (z:Str):It:=⟨fun i _=>i < z.cps.size,fun i H x H'=>H'=H/\ ∃c,z.cps[i]?=some c/\x= .str ⟨#[c]⟩,fun i _=>z.cps.size<=i⟩
theorem B6 {P:Program}{w:World}{K:NY}{tg:Expr}(z:Str) (t:Tok) (it:Addr):Turn P w K tg (Pb z) [it] it (fun i h=>h.IsStrIter it "str_ascii_iterator" z t i) where
 mem:=by simp
 obj:=fun i h ⟨o,e,c,d⟩ b hb=>by
  rcases Km.mp hb with rfl
  exact⟨o,e,fun v y=>by rw[d] at y; cases y⟩
 keep:=fun i h h' ⟨o,e,r⟩ k=>⟨o,k it (by simp) o e,r⟩
 item:=by
  intro X hP hw hK hc i NV s σ H E I hf st hg
  subst hP hw hK
  obtain⟨f0,f1,f2,f3,f4,f5⟩:=hf it (by simp)
  have hg:i < z.cps.size:=hg
  refine wpAny_pyNext_ascii_item st (c:=z.cps[i]'hg) (Mr hg) fun h' st' sb=>?_
  have I1:Inv X NV σ H { s with heap:=h',toks:=s.toks+1 }:=I.turned (fun b o hb e=>(sb.2 b hb).trans e) f0 f1 f3 f4 f5
  obtain⟨o,e,c,d⟩:=id st'
  exact⟨_,rfl,xn (s:={ s with heap:=h',toks:=s.toks+1 }) e c d (by decide) ⟨.str ⟨#[z.cps[i]'hg]⟩,H,I1,⟨_,rfl⟩,⟨rfl,_,Mr hg,rfl⟩,st',fun b hb=>(hf b hb).1⟩⟩
 done:=by
  intro X hP hw hK hc i NV s σ H E I hf st hg
  subst hP hw hK
  obtain⟨f0,f1,f2,f3,f4,f5⟩:=hf it (by simp)
  exact wpAny_pyNext_ascii_end (I.ok.hd hc) st (Array.getElem?_eq_none hg) fun h' eb=>⟨rfl,I.turned (t':=s.toks) (fun b o hb e=>eb b o hb e) f0 f1 f3 f4 f5⟩
 self:=fun _ _ _ _ _ st h=>wpAny_pyIter_striter_ascii st h
theorem Cu {P:Program}{w:World}{K:NY}{tg:Expr}(z:Str) (t:Tok) (it:Addr):Turn P w K tg (Pb z) [it] it (fun i h=>h.IsStrIter it "str_iterator" z t i) where
 mem:=by simp
 obj:=fun i h ⟨o,e,c,d⟩ b hb=>by
  rcases Km.mp hb with rfl
  exact⟨o,e,fun v y=>by rw[d] at y; cases y⟩
 keep:=fun i h h' ⟨o,e,r⟩ k=>⟨o,k it (by simp) o e,r⟩
 item:=by
  intro X hP hw hK hc i NV s σ H E I hf st hg
  subst hP hw hK
  obtain⟨f0,f1,f2,f3,f4,f5⟩:=hf it (by simp)
  have hg:i < z.cps.size:=hg
  refine wpAny_pyNext_wide_item st (c:=z.cps[i]'hg) (Mr hg) fun h' st' sb=>?_
  have I1:Inv X NV σ H { s with heap:=h',toks:=s.toks+1 }:=I.turned (fun b o hb e=>(sb.2 b hb).trans e) f0 f1 f3 f4 f5
  obtain⟨o,e,c,d⟩:=id st'
  exact⟨_,rfl,xn (s:={ s with heap:=h',toks:=s.toks+1 }) e c d (by decide) ⟨.str ⟨#[z.cps[i]'hg]⟩,H,I1,⟨_,rfl⟩,⟨rfl,_,Mr hg,rfl⟩,st',fun b hb=>(hf b hb).1⟩⟩
 done:=by
  intro X hP hw hK hc i NV s σ H E I hf st hg
  subst hP hw hK
  obtain⟨f0,f1,f2,f3,f4,f5⟩:=hf it (by simp)
  exact wpAny_pyNext_wide_end (I.ok.hd hc) st (Array.getElem?_eq_none hg) fun h' eb=>⟨rfl,I.turned (t':=s.toks) (fun b o hb e=>eb b o hb e) f0 f1 f3 f4 f5⟩
 self:=fun _ _ _ _ _ st h=>wpAny_pyIter_striter_wide st h
section
variable {X:Cx}{tg:Expr}
inductive Iy (R:It->Hp->Prop) (x:V) (H1:Hp):Prop | mk (z:_) (e0:x= .str z) (q:R (Pb z) H1)
def JH (tl:TE):TI:=fun σ H R=>tl σ H fun x H1=>Iy R x H1
theorem Gf {l:Expr}{tl:TE}(hl:PE X l tl):PI X tg l (JH tl):=by
 intro NV s σ H R I h
 refine N0 (hl NV s σ H _ I h) fun v s1 ⟨x,H1,I1,r1,q1⟩=>?_
 obtain⟨z,rfl,q⟩:=q1
 obtain⟨t,rfl⟩:=r1
 cases ha:z.cps.all (· < 128) with
 | true =>
  refine wpAny_pyIter_ascii ha ⟨_,[s1.heap.objs.size],_,Pb z,H1,rfl,I1.kept (t':=s1.toks) fun b o e=>Kq _ e,B6 z t _,⟨_,K7 _ rfl,rfl,rfl⟩,fun b hb=>?_,q⟩
  rcases Km.mp hb with rfl
  exact I1.jg (Kn _) I1.fresh
 | false =>
  refine wpAny_pyIter_wide ha ⟨_,[s1.heap.objs.size],_,Pb z,H1,rfl,I1.kept (t':=s1.toks) fun b o e=>Kq _ e,Cu z t _,⟨_,K7 _ rfl,rfl,rfl⟩,fun b hb=>?_,q⟩
  rcases Km.mp hb with rfl
  exact I1.jg (Kn _) I1.fresh
end
section
variable {X:Cx}
theorem wo:N7 X (compareOp .LtE) (fun x y H Q=> ∃i j,x= .str i/\y= .str j/\Q (.bl (!decide (j.cps.toList < i.cps.toList))) H):=by
 intro NV s σ H x y v u Q I r1 r2 h
 obtain⟨i,j,rfl,rfl,q⟩:=h
 obtain⟨t,rfl⟩:=r1
 obtain⟨t',rfl⟩:=r2
 exact PySem.P.le_str ⟨.bl _,H,I,rfl,q⟩
theorem t4 {prog:Program}{w:World}{A:Around}{its:List Value}{bs:List Bool}(r:Vals (bs.map V.bl) its):TruthOf prog w A (fun i v=>its.toArray[i]?=some v) (fun i=>bs.getD i false):=by
 intro i v s Q E hv hq
 have hv':its[i]?=some v:=by simpa using hv
 have hb:i < bs.length:=by
  have h1:=(Kv.mp hv').1
  have h2:=r.length
  rw[Kj] at h2
  omega
 obtain⟨u,e1,e2⟩:=r.get (i:=i) (x:=V.bl (bs.getD i false)) (by rw[KD,Ku,Kl hb]; rfl)
 rw[hv'] at e1
 cases e1
 have e3:v=Value.bool (bs.getD i false):=e2
 rw[e3]
 exact LL hq
theorem range_all (bs:List Bool):(List.range bs.length).all (fun i=>bs.getD i false)=bs.all id:=by
 rw[Md,LB,LB]
 constructor
 .intro h x hx
  obtain⟨i,hi,rfl⟩:=Nk hx
  have:=h i (KU.mpr hi)
  rwa [Ku,Kl hi] at this
 .intro h i hi
  have hi':=KU.mp hi
  rw[Ku,Kl hi']
  exact h _ (LU hi')
theorem range_any (bs:List Bool):(List.range bs.length).any (fun i=>bs.getD i false)=bs.any id:=by
 rw[Md,NJ,NJ]
 constructor
 .rintro⟨i,hi,h⟩
  have hi':=KU.mp hi
  rw[Ku,Kl hi'] at h
  exact⟨_,LU hi',h⟩
 .rintro⟨x,hx,h⟩
  obtain⟨i,hi,rfl⟩:=Nk hx
  exact⟨i,KU.mpr hi,by rw[Ku,Kl hi]; exact h⟩
theorem Dx (hc:X.calm=true):de X (.builtin "all") (fun xs H Q=> ∃(a:Addr) (bs:List Bool),xs=[.ref a]/\NX X.K H a (bs.map V.bl)/\Q (.bl (bs.all id)) H):=by
 intro NV s σ H xs us Q I r h
 obtain⟨a,bs,rfl,hq,q⟩:=h
 obtain⟨u,rfl,ru⟩:=vals1 r
 cases ru
 obtain⟨its,rv,p,hz⟩:=I.list hq
 have hlt:a < s.heap.objs.size:=p.lt
 have hl:bs.length=its.toArray.size:=by
  have:=rv.length
  rw[Kj] at this
  simpa using this
 refine call_all_walk (Mp p.isList ⟨_,_,_,_,_,_,_,rfl,Walks.list (A:=X.A.in1) (I.ok.hd hc) s.heap.objs.size a (K3 hlt) its.toArray,
  ⟨⟨_,K7 _ rfl,rfl,rfl⟩,p.isList.at fun o e=>Kq _ e⟩,t4 rv,fun h' tk k=>?_⟩)
 rw[<-hl,range_all]
 exact⟨.bl _,H,I.kept (t':=tk) fun b o e=>k b o (fun z=>by
  rcases Km.mp z with rfl
  exact absurd (KA e) (LQ _)) (Kq _ e),rfl,q⟩
theorem El (hc:X.calm=true):de X (.builtin "any") (fun xs H Q=> ∃(a:Addr) (bs:List Bool),xs=[.ref a]/\NX X.K H a (bs.map V.bl)/\Q (.bl (bs.any id)) H):=by
 intro NV s σ H xs us Q I r h
 obtain⟨a,bs,rfl,hq,q⟩:=h
 obtain⟨u,rfl,ru⟩:=vals1 r
 cases ru
 obtain⟨its,rv,p,hz⟩:=I.list hq
 have hlt:a < s.heap.objs.size:=p.lt
 have hl:bs.length=its.toArray.size:=by
  have:=rv.length
  rw[Kj] at this
  simpa using this
 refine call_any_walk (Mp p.isList ⟨_,_,_,_,_,_,_,rfl,Walks.list (A:=X.A.in1) (I.ok.hd hc) s.heap.objs.size a (K3 hlt) its.toArray,
  ⟨⟨_,K7 _ rfl,rfl,rfl⟩,p.isList.at fun o e=>Kq _ e⟩,t4 rv,fun h' tk k=>?_⟩)
 rw[<-hl,range_any]
 exact⟨.bl _,H,I.kept (t':=tk) fun b o e=>k b o (fun z=>by
  rcases Km.mp z with rfl
  exact absurd (KA e) (LQ _)) (Kq _ e),rfl,q⟩
def Pp (K:NY) (x:V) (H:Hp) (T:String) (b:Bool):Prop :=
 match x with
 | .int _=>(T= "int" /\ b=true)\/(T∈["bool","str","list","tuple","dict"]/\b=false)
 | .bl _=>(T∈["int","bool"]/\b=true)\/(T∈["str","list","tuple","dict"]/\b=false)
 | .str _=>(T= "str" /\ b=true)\/(T∈["int","bool","list","tuple","dict"]/\b=false)
 | .ref a=>((∃xs,NX K H a xs)/\((T= "list" /\ b=true)\/(T∈["int","bool","str","tuple","dict"]/\b=false))) \/
   ((∃xs,N1 K H a xs)/\((T= "tuple" /\ b=true)\/(T∈["int","bool","str","list","dict"]/\b=false)))
 | _=>False
theorem z6 {T a b c d e:String}(h:T∈[a,b,c,d,e]):T=a\/T=b\/T=c\/T=d\/T=e:=by simpa using h
theorem I9 {T a b c d:String}(h:T∈[a,b,c,d]):T=a\/T=b\/T=c\/T=d:=by simpa using h
theorem Jx {T a b:String}(h:T∈[a,b]):T=a\/T=b:=by simpa using h
theorem eD:de X (.builtin "isinstance") (fun xs H Q=> ∃x T b,xs=[x,.ty T]/\Pp X.K x H T b/\Q (.bl b) H):=by
 intro NV s σ H xs us Q I r h
 obtain⟨x,T,b,rfl,hi,q⟩:=h
 obtain⟨u,u2,rfl,ru,ru2⟩:=vals2 r
 cases ru2
 have fin: ∀tk,EP X NV σ Q (.bool b) { s with toks:=tk }:=fun tk=>⟨.bl b,H,I.tok tk,rfl,q⟩
 have fin0:EP X NV σ Q (.bool b) s:=⟨.bl b,H,I,rfl,q⟩
 cases x with
 | int n =>
  obtain⟨t,rfl⟩:=ru
  rcases hi with⟨rfl,rfl⟩ | ⟨hm,rfl⟩
  .exact IsiPair.int_int fin0
  .rcases z6 hm with rfl | rfl | rfl | rfl | rfl
   .exact IsiPair.int_bool (fin _)
   .exact IsiPair.int_str (fin _)
   .exact IsiPair.int_list (fin _)
   .exact IsiPair.int_tuple (fin _)
   .exact IsiPair.int_dict (fin _)
 | bl n =>
  cases ru
  rcases hi with⟨hm,rfl⟩ | ⟨hm,rfl⟩
  .rcases Jx hm with rfl | rfl
   .first | exact IsiPair.bool_int fin0 | exact IsiPair.bool_int (fin _)
   .exact IsiPair.bool_bool fin0
  .rcases I9 hm with rfl | rfl | rfl | rfl
   .exact IsiPair.bool_str (fin _)
   .exact IsiPair.bool_list (fin _)
   .exact IsiPair.bool_tuple (fin _)
   .exact IsiPair.bool_dict (fin _)
 | str n =>
  obtain⟨t,rfl⟩:=ru
  rcases hi with⟨rfl,rfl⟩ | ⟨hm,rfl⟩
  .exact IsiPair.str_str fin0
  .rcases z6 hm with rfl | rfl | rfl | rfl | rfl
   .exact IsiPair.str_int (fin _)
   .exact IsiPair.str_bool (fin _)
   .exact IsiPair.str_list (fin _)
   .exact IsiPair.str_tuple (fin _)
   .exact IsiPair.str_dict (fin _)
 | ref a =>
  cases ru
  rcases hi with⟨⟨xs,hq⟩,hi⟩ | ⟨⟨xs,hq⟩,hi⟩
  .obtain⟨its,_,⟨o,n,e,c,_⟩,_⟩:=I.list hq
   rcases hi with⟨rfl,rfl⟩ | ⟨hm,rfl⟩
   .exact IsiPair.list_list e c fin0
   .rcases z6 hm with rfl | rfl | rfl | rfl | rfl
    .exact IsiPair.list_int e c (fin _)
    .exact IsiPair.list_bool e c (fin _)
    .exact IsiPair.list_str e c (fin _)
    .exact IsiPair.list_tuple e c (fin _)
    .exact IsiPair.list_dict e c (fin _)
  .obtain⟨its,_,hT,_⟩:=I.tuple hq
   obtain⟨o,e,c,_⟩:=hT
   rcases hi with⟨rfl,rfl⟩ | ⟨hm,rfl⟩
   .exact IsiPair.tuple_tuple e c fin0
   .rcases z6 hm with rfl | rfl | rfl | rfl | rfl
    .exact IsiPair.tuple_int e c (fin _)
    .exact IsiPair.tuple_bool e c (fin _)
    .exact IsiPair.tuple_str e c (fin _)
    .exact IsiPair.tuple_list e c (fin _)
    .exact IsiPair.tuple_dict e c (fin _)
 | _=>exact hi.elim
end
def TF (K:NY) (mg:Str->Option Value) (x:Str) (st:Stmt):Prop:= ∃f fd,mg x=some (.ref f)/\O7 K x x st f fd
def N8 (P:Program) (w:World) (K:NY) (mg:Str->Option Value) (base:Heap) (k:Nat) (x:Str) (ps:List Str) (sp:Sp):Prop :=
 ∃f fd,mg x=some (.ref f)/\(∃oc od osl,K.lookup f=some ⟨oc,od,.func fd,osl⟩)/\PySem.W.keepIn K (.ref f)=true/\Binds K fd ps []/\eY P w K mg base OA k f fd ps sp
section
variable {P:Program}{w:World}{K:NY}{mg:Str->Option Value}{base:Heap}
theorem bo {h:Heap}{x:Str}{st:Stmt}{f:Addr}{oc:Value}{od an:Option Addr}{osl:Array (Option Value)}{kV doc pm cdv ct:Value}(X:K.In h) (G:h.Ns mainGlobals mg) (a:PySem.W.nsIn K mainGlobals x=some (some (.ref f)))
  (l:K.lookup f=some ⟨oc,od,.func (PySem.W.fnOf x x (fQ st) (dF st) (aq st) .none kV doc pm an cdv ct),osl⟩) (c:PySem.W.codeIn K cdv x=true) (k:PySem.W.keepIn K (.ref f)=true):TF K mg x st :=
 ⟨f,_,PySem.W.mg_of X G a,Ce (st:=st) l c k⟩
theorem bf {x:Str}{st:Stmt}{N ps:List Str}{k:Nat}{sp:Sp}(h:TF K mg x st) (S:aE N ps (aq st))
  (hb: ∀(kV doc pm:Value) (an:Option Addr) (cdv ct:Value) (us:List Value),us.length=ps.length->bindArgs (PySem.W.fnOf x x (fQ st) (dF st) (aq st) .none kV doc pm an cdv ct) ⟨us,[]⟩=pure (ps.zip us))
  (len: ∀vs H Q E,sp vs H Q E->vs.length=ps.length)
  (hbody: ∀(f:Addr) (cdv:Value) (A:Around) (outer:List Env) (s:Shared) (H:Hp) (vs:List V) (Q:VK) (E:XK),cf k (A.deeper (envOfC x (aq st) s.heap.objs.size f cdv))->sp vs H Q E ->
   ∃t,Ol (jV OA P w K mg base N x (aq st) f cdv A outer s H E).O9 (dF st) t/\t { nx:=fun _ H'=>Q .non H',rt:=Q } (start N vs) H):N8 P w K mg base (k+1) x ps sp:=by
 obtain⟨f,fd,hm,F⟩:=h
 obtain⟨oc,od,_,_,_,_,_,_,osl,_,lk,_⟩:=id F.ex
 exact⟨f,fd,hm,⟨oc,od,osl,lk⟩,F.kp,F.binds hb,F.ok S len fun cdv A outer s H vs Q E hr hs=>hbody f cdv A outer s H vs Q E hr hs⟩
theorem Fn {x p:Str}{st:Stmt}{sp:Sp}{k:Nat}{fa:Addr}(h:TF K mg x st) (hg: ∀base,N8 P w K mg base k x [p] sp) (hmg:mg x=some (.ref fa))
  (hb: ∀(kV doc pm:Value) (an:Option Addr) (cdv ct:Value) (s:Shared) (u:Value),BindsTo s (PySem.W.fnOf x x (fQ st) (dF st) (aq st) .none kV doc pm an cdv ct) ⟨[u],[]⟩ [(p,u)]) :
  ∃fd:FuncData,(∀(s:Shared) (u:Value),BindsTo s fd ⟨[u],[]⟩ [(p,u)])/\ ∀base:Heap,eY P w K mg base OA k fa fd [p] sp:=by
 obtain⟨f,fd,hm,F⟩:=h
 obtain⟨oc,od,kV,doc,pm,an,cdv,ct,osl,rfl,lk,_⟩:=F.ex
 have e:=hmg.symm.trans hm
 cases e
 refine⟨_,hb kV doc pm an cdv ct,fun base=>?_⟩
 obtain⟨f',fd',hm',⟨oc',od',osl',lk'⟩,_,_,G⟩:=hg base
 have e:=hm.symm.trans hm'
 cases e
 have e2:=lk.symm.trans lk'
 cases e2
 exact G
end
section
variable {X:Cx}{k:Nat}{x:Str}{ps:List Str}{sp:Sp}{p pos:Pos}{e:Expr}{es:List Expr}{t:TA}
theorem aJ (F:N8 X.prog X.w X.K X.mg X.base k x ps sp) (hr:cf k X.A) (ha:PA X (e::es) t) (hg:Gl X x:=by rfl) (hdb:(x == ("__debug__" : Str))=false:=by decide)
  (he:starEach (e::es) X.env=(false,eval e X.env)::starEach es X.env:=by rfl) (hpl:(backTo pos (starEach es X.env)).any (·.1)=false:=by rfl):PE X (.Call (.Name x p) (e::es) [] pos) (EK sp [] E0 t):=by
 obtain⟨f,fd,hm,_,kp,hb,F⟩:=F
 exact F3 F hr hg hm kp hb .nil xt ha hdb he hpl
end
def jE (K:NY) (mg:Str->Option Value) (x:Str) (xs:List V):Prop:= ∃a,mg x=some (.ref a)/\ ∀H,N1 K H a xs
theorem mS {K:NY}{mg:Str->Option Value}{h:Heap}{x:Str}{xs:List V}{a:Addr}{o:Obj}{its:Array Value}{n:Nat}(X:K.In h) (G:h.Ns mainGlobals mg) (e:PySem.W.nsIn K mainGlobals x=some (some (.ref a)))
  (l:K.lookup a=some o) (hc:o.cls= .type "tuple") (hd:o.data= .seq its n) (hz:its.size<=sizeLine) (hv:Vals xs its.toList):jE K mg x xs :=
 ⟨a,PySem.W.mg_of X G e,fun H=> .inr ⟨o,its,n,l,hc,hd,hz,hv⟩⟩
theorem mQ {X:Cx}{x:Str}{xs:List V}{pos:Pos}(h:jE X.K X.mg x xs) (hg:Gl X x:=by rfl) (hd:(x == ("__debug__" : Str))=false:=by decide):PE X (.Name x pos) (fun _ H Q=> ∀a,(∀H',N1 X.K H' a xs)->Q (.ref a) H):=by
 obtain⟨a,hm,hq⟩:=h
 intro NV s σ H Q I q
 exact zu (v:= .ref a) hg hm rfl hd NV s σ H Q I (q a hq)
def nv (mg:Str->Option Value) (x:Str) (v:V):Prop:= ∃u,mg x=some u/\RelV v u
theorem ku {X:Cx}{x:Str}{v:V}{pos:Pos}(h:nv X.mg x v) (hg:Gl X x:=by rfl) (hd:(x == ("__debug__" : Str))=false:=by decide):PE X (.Name x pos) (tC v):=by
 obtain⟨u,hm,r⟩:=h
 exact zu hg hm r hd
theorem boot_all:bootBuiltins "all" = some (.builtin "all"):=by trivial
theorem boot_bool:bootBuiltins "bool" = some (.type "bool"):=by trivial
theorem boot_int:bootBuiltins "int" = some (.type "int"):=by trivial
theorem boot_str:bootBuiltins "str" = some (.type "str"):=by trivial
theorem boot_list:bootBuiltins "list" = some (.type "list"):=by trivial
theorem boot_tuple:bootBuiltins "tuple" = some (.type "tuple"):=by trivial
theorem boot_dict:bootBuiltins "dict" = some (.type "dict"):=by trivial
theorem boot_max:bootBuiltins "max" = some (.builtin "max"):=by trivial
theorem boot_min:bootBuiltins "min" = some (.builtin "min"):=by trivial
theorem boot_sum:bootBuiltins "sum" = some (.builtin "sum"):=by trivial
theorem boot_any:bootBuiltins "any" = some (.builtin "any"):=by trivial
theorem boot_isinstance:bootBuiltins "isinstance" = some (.builtin "isinstance"):=by trivial
structure JL (J:It) (H:Hp) (xs:List V):Prop where
 go: ∀i,i < xs.length->J.go i H
 yld: ∀i x H',i < xs.length->J.yld i H x H'->H'=H/\xs[i]?=some x
 stop: ∀i,xs.length<=i->J.stop i H
theorem bq {K:NY}{a:Addr}{H:Hp}{xs:List V}(h:NX K H a xs):JL (Pu K a) H xs :=
 ⟨fun i hi=>⟨xs,_,h,Kl hi⟩,fun i x H' _ q=>⟨q.1,q.2 xs h⟩,fun i hi=>⟨xs,h,hi⟩⟩
def cw (lo:Int) (n:Nat):List V:=(List.range n).map fun i=>V.int (lo+(i:Nat))
theorem cG {lo:Int}{n:Nat}{H:Hp}:JL (Pa lo n) H (cw lo n):=by
 have hl:(cw lo n).length=n:=by simp[cw]
 refine⟨fun i hi=>by rw[hl] at hi; exact hi,fun i x H' hi q=>⟨q.1,?_⟩,fun i hi=>by rw[hl] at hi; exact hi⟩
 rw[hl] at hi
 rw[q.2]
 simp[cw,hi]
def lJ (z:Str):List V:=z.cps.toList.map fun c=>V.str ⟨#[c]⟩
theorem Gb {z:Str}{H:Hp}:JL (Pb z) H (lJ z):=by
 have hl:(lJ z).length=z.cps.size:=by simp[lJ]
 refine⟨fun i hi=>by rw[hl] at hi; exact hi,fun i x H' hi q=>⟨q.1,?_⟩,fun i hi=>by rw[hl] at hi; exact hi⟩
 obtain⟨_,c,hc,rfl⟩:=q
 have hc':z.cps.toList[i]?=some c:=by simpa using hc
 simp[lJ,hc']
theorem zj {J:It}{xs:List V}{tt:TT}{te:TE}{own:List Str}{fr:List Nat}{σ:St}{H:Hp}{Q:VK}(hJ:JL J H xs) (pt:V->Bool) (f:V->V) (hz:xs.length < sizeLine)
  (ht: ∀x∈xs,∀R:Bool->Hp->Prop,R (pt x) H->tt ((cR own fr σ).set 0 (some x)) H R)
  (hs: ∀x∈xs,pt x=true-> ∀R:VK,R (f x) H->te ((cR own fr σ).set 0 (some x)) H R)
  (hq: ∀p,H p=none->Q (.ref p) (upd H p (.lst ((xs.filter pt).map f)))):mO J (aY 0) tt te own fr σ H Q:=by
 refine⟨fun i m ys H2=>H2=H/\i<=xs.length/\m=xs.length - i/\ys=((xs.take i).filter pt).map f,⟨xs.length,rfl,Ln _,rfl,rfl⟩,?_⟩
 rintro i m ys H2 ⟨rfl,hi,rfl,rfl⟩
 have hlen:(((xs.take i).filter pt).map f).length<=xs.length:=by
  rw[Kj]
  exact KP (Ll _ _) (by rw[K4]; exact NG _ _)
 by_cases hlt:i < xs.length
 .refine .inr ⟨hJ.go i hlt,Lp hlen hz,fun x H3 hy=>?_⟩
  obtain⟨rfl,hx⟩:=hJ.yld i x H3 hlt hy
  have hm:x∈xs:=Kp hx
  have hstep:((xs.take (i+1)).filter pt)=(xs.take i).filter pt++if pt x then [x] else []:=by
   rw[La,hx,Lz]
   cases hp:pt x <;> simp[hp]
  refine ht x hm _ ?_
  cases hp:pt x with
  | false =>
   rw[Kk KG]
   refine⟨xs.length - (i+1),by omega,rfl,hlt,rfl,?_⟩
   rw[hstep,hp]
   simp
  | true =>
   rw[Ko rfl]
   refine hs x hm hp _ ⟨xs.length - (i+1),by omega,rfl,hlt,rfl,?_⟩
   rw[hstep,hp]
   simp
 .have e:i=xs.length:=by omega
  subst e
  refine .inl ⟨hJ.stop _ (Kn _),KP hlen (KY hz),fun p hp=>?_⟩
  rw[K5]
  exact hq p hp
theorem BX {J:It}{xs:List V}{te:TE}{own:List Str}{fr:List Nat}{σ:St}{H:Hp}{Q:VK}(hJ:JL J H xs) (f:V->V) (hz:xs.length < sizeLine)
  (hs: ∀x∈xs,∀R:VK,R (f x) H->te ((cR own fr σ).set 0 (some x)) H R)
  (hq: ∀p,H p=none->Q (.ref p) (upd H p (.lst (xs.map f)))):mO J (aY 0) gN te own fr σ H Q:=by
 refine zj hJ (fun _=>true) f hz (fun _ _ R q=>q) (fun x hx _ R q=>hs x hx R q) fun p hp=>?_
 have e:xs.filter (fun _=>true)=xs:=by simp
 rw[e]
 exact hq p hp
theorem cK {J:It}{xs:List V}{g:TG}{tb:TS}{D:Ends}{σ:St}{H:Hp}(Pv:Nat->St->Hp->Prop) (h0:Pv 0 σ H) (hJ: ∀i σ H,i<=xs.length->Pv i σ H->JL J H xs)
  (hs: ∀i x σ H,xs[i]?=some x->Pv i σ H->g x σ H fun σ2 H2=>tb { D with nx:=Pv (i+1),ct:=Pv (i+1),bk:=D.nx } σ2 H2) (hd: ∀σ H,Pv xs.length σ H->D.nx σ H) :
  ∃W:Nat->Nat->St->Hp->Prop,(∃m,W 0 m σ H)/\ ∀i m σ H,W i m σ H ->
   (J.stop i H/\D.nx σ H)\/(J.go i H/\ ∃N:St->Hp->Prop,(∀σ' H',N σ' H'-> ∃m',m' < m/\W (i+1) m' σ' H')/\ ∀x H',J.yld i H x H'->g x σ H' fun σ2 H2=>tb { D with nx:=N,ct:=N,bk:=D.nx } σ2 H2):=by
 refine⟨fun i m σ H=>i<=xs.length/\m=xs.length - i/\Pv i σ H,⟨xs.length,Ln _,rfl,h0⟩,?_⟩
 rintro i m σ H ⟨hi,rfl,hp⟩
 have hj:=hJ i σ H hi hp
 by_cases hlt:i < xs.length
 .refine .inr ⟨hj.go i hlt,Pv (i+1),fun σ' H' q=>⟨xs.length - (i+1),by omega,hlt,rfl,q⟩,fun x H' hy=>?_⟩
  obtain⟨rfl,hx⟩:=hj.yld i x H' hlt hy
  exact hs i x σ H' hx hp
 .have e:i=xs.length:=by omega
  subst e
  exact .inl ⟨hj.stop _ (Kn _),hd σ H hp⟩
def Hh (t u:TS):TS:=fun D σ H=> ∃Mid:St->Hp->Prop,t { D with nx:=Mid } σ H/\ ∀σ' H',Mid σ' H'->u D σ' H'
def Iw (t:TE):TE:=fun σ H Q=> ∃Mid:VK,t σ H Mid/\ ∀v H',Mid v H'->Q v H'
section
variable {X:Cx}{st:Stmt}{rest:List Stmt}{t u:TS}{e:Expr}{te:TE}
theorem dS (h1:PS X st t) (h2:Ol X rest u):Ol X (st::rest) (Hh t u):=by
 intro NV s σ H D I h
 obtain⟨Mid,ha,hb⟩:=h
 refine wpAny_execs_cons (N0 (h1 NV s σ H { D with nx:=Mid } I ha) fun f s1 q=>?_)
 cases f with
 | next =>
  obtain⟨σ',H',I',m⟩:=q
  exact h2 NV s1 σ' H' D I' (hb _ _ m)
 | ret v=>exact q
 | brk=>exact q
 | cont=>exact q
theorem nY (h:PE X e te):PE X e (Iw te):=by
 intro NV s σ H Q I q
 obtain⟨Mid,ha,hb⟩:=q
 exact N0 (h NV s σ H Mid I ha) fun v s' ⟨x,H',I',r,m⟩=>⟨x,H',I',r,hb _ _ m⟩
end
section
variable {prog:Program}{w:World}{A:Around}{E:Value->Shared->Prop}{h:Heap}{g:Array GenState}{d:Drawn}{tk:Nat}{os:OsState}
variable {nm qn:Str}{C N:Addr}{bs bm bmB:List Value}{hd:Bool}{sn:List Str}{sub:List Value}{ab:Bool}{col:Option Bool}{dd:Option Addr}{k0 k1 k2 k3 k5:Option Value}{B newId initId:String}
theorem u4 (F:ExcBaseFacts B newId initId bmB) (T:OwnTail h bmB bm){mN:Str->Option Value}{as:List Value}{Q:PySem.Fin->Shared->Prop}
  (hC:h.get? C=some (excClassObj nm qn C N bs bm hd sn sub ab col dd k0 k1 k2 k3 k5 newId)) (hn:h.Ns N mN) (hni:mN "__init__" = none)
  (hq: ∀h' e,Heap.MadeExcOf h h' e (.ref C) as->h.objs.size<=e->Q (.done (.ret (.ref e))) ⟨h',g,d,tk,os⟩) (hz:as.length<=sizeLine) :
  wpAny (model prog w) A (Builtin.«type.__call__» ⟨.ref C::as,[]⟩) Q E ⟨h,g,d,tk,os⟩:=by
 repeat (first | with_reducible refine Mq hC ?_ | with_reducible refine wpAny_madeBy_exc hC ?_ | wp_step)
 refine codeAny_call_builtin_code (Code.quiet_builtin _ F.quiet) (wpAny_check_new_subT F T hC (codeAny_exc_new_subT F T hC ?_ hz))
 show wpAny _ _ _ _ _ _
 have c1:=Kq { cls:= .ref C,data:= .fields #[.ref h.objs.size,.none,.none,.none,.bool false,.none] } (Kq { cls:= .type "tuple",data:= .seq as.toArray } hC)
 have n1:((h.push { cls:= .type "tuple",data:= .seq as.toArray }).push { cls:= .ref C,data:= .fields #[.ref h.objs.size,.none,.none,.none,.bool false,.none] }).Ns N mN:=hn.keeps fun b o e=>Kq _ (Kq _ e)
 have g1:((h.push { cls:= .type "tuple",data:= .seq as.toArray }).push { cls:= .ref C,data:= .fields #[.ref h.objs.size,.none,.none,.none,.bool false,.none] }).get? (h.objs.size+1)=some { cls:= .ref C,data:= .fields #[.ref h.objs.size,.none,.none,.none,.bool false,.none] }:=by heap_get
 have cc:(Value.ref C::bm).contains (.ref C)=true:=by simp
 have t1:=T.keeps (h':=(h.push { cls:= .type "tuple",data:= .seq as.toArray }).push { cls:= .ref C,data:= .fields #[.ref h.objs.size,.none,.none,.none,.bool false,.none] }) fun b o e=>Kq _ (Kq _ e)
 unfold isInstance
 repeat (first | with_reducible refine Mq g1 ?_ | (with_reducible refine Nl c1 ?_; rw[cc]) | wp_step)
 show wpAny _ _ (typeLookup (.ref C) _) _ _ _
 refine wpAny_typeLookup_tail c1 n1 t1 F.mroIs F.init.lookup ?_
 rw[hni]
 refine Mn (Kt (wpAny_of_eq (F.init.bind _) (Kt (Nf (codeAny_call_builtin F.init.plain F.initEntry (wpAny_check_init_subT F t1 c1 g1 rfl ?_))))))
 wp_walk
 refine hq _ _ ⟨fun b o hb=>?_,M6 (MB _),h.objs.size+2,?_,M6 (by omega),?_⟩ (MB _)
 .rw[Lo _ _ (M8 (MF (KA hb)))]; exact Kq _ (Kq _ (Kq _ hb))
 .rw[LV _ (Kq _ g1) rfl]
  simp only[LF]
  rfl
 .rw[Lo _ _ (show h.objs.size+1≠h.objs.size+2 by omega)]; exact Heap.get?_push_at (by simp only[LF]) rfl
theorem AY (F:ExcBaseFacts B newId initId bmB) (T:OwnTail h bmB bm){mN:Str->Option Value}{as:List Value}{Q:Value->Shared->Prop}
  (hC:h.get? C=some (excClassObj nm qn C N bs bm hd sn sub ab col dd k0 k1 k2 k3 k5 newId)) (hn:h.Ns N mN) (hni:mN "__init__" = none)
  (hq: ∀h' e,Heap.MadeExcOf h h' e (.ref C) as->h.objs.size<=e->Q (.ref e) ⟨h',g,d,tk,os⟩) (hz:as.length<=sizeLine) :
  wpAny (model prog w) A (call (.ref C) as) Q E ⟨h,g,d,tk,os⟩:=by
 have f1:=tc_lookup
 have f2:=tc_bind (.ref C)
 have ty:(⟨h,g,d,tk,os⟩:Shared).TypeIs (.ref C) "type" := ⟨_,hC,rfl⟩
 refine Nf (codeAny_of_tree ?_)
 show wpAny _ _ (callAny (.ref C) _) _ _ _
 repeat (any_goals (first | assumption | with_reducible refine Mq hC ?_ | wp_step))
 exact⟨rfl,codeAny_call_builtin_at (Code.quiet_builtin _ (by trivial)) entry_typeCall (wpAny_check_type_call_sub hC (u4 F T hC hn hni (fun h' e m y=>hq h' e m y) hz))⟩
end
section
variable {prog:Program}{w:World}{A:Around}{E:Value->Shared->Prop}{s:Shared}{env:Env}
variable {nm qn:Str}{C N:Addr}{bs bm bmB:List Value}{hd:Bool}{sn:List Str}{sub:List Value}{ab:Bool}{col:Option Bool}{dd:Option Addr}{k0 k1 k2 k3 k5:Option Value}{B newId initId:String}
theorem y7 (F:ExcBaseFacts B newId initId bmB){mN:Str->Option Value}{x:Str}{np cpos pos:Pos}{args:List Expr}{Q:Flow->Shared->Prop}
  (hbase:bm.contains (.type "BaseException")=true) (hh:A.handled=none) (hplain:(backTo cpos (starEach args env)).any (·.1)=false) (hni:mN "__init__" = none)
  (h:wpAny (model prog w) A (eval (.Name x np) env) (fun f s1=>f= .ref C/\wpAny (model prog w) A (evalArgs (.ref C) true (backTo cpos (starEach args env)) [])
   (fun a s2=>a.kw=[]/\a.pos.length<=sizeLine/\s2.heap.get? C=some (excClassObj nm qn C N bs bm hd sn sub ab col dd k0 k1 k2 k3 k5 newId)/\s2.heap.Ns N mN/\OwnTail s2.heap bmB bm /\
    ∀h' e,Heap.MadeExcOf s2.heap h' e (.ref C) a.pos->s2.heap.objs.size<=e->E (.ref e) { s2 with heap:=h' }) E s1) E s) :
  wpAny (model prog w) A (exec (.Raise (some (.Call (.Name x np) args [] cpos)) none pos) env) Q E s:=by
 rw[arm_exec_Raise]
 refine Kt (L4 (wpAny_raiseStmt_made_sub (C:=C) (nm:=nm) (q:=qn) (N:=N) (bs:=bs) (bm:=bm) (hdct:=hd) (sn:=sn) (sub:=sub) (ab:=ab) (col:=col) (dd:=dd) (k0:=k0) (k1:=k1) (k2:=k2) (k3:=k3) (k5:=k5) (newId:=newId) hbase hh ?_))
 refine Kt (Lr (wpAny_Call_ofName (Lr h (fun f s1 h1=>?_) fun _ _ y=>y)) (fun v s3 h3=>Kt (L4 (K1 h3))) fun _ _ y=>y)
 obtain⟨rfl,h1⟩:=h1
 unfold callWith
 refine Kt (Mn (Lr h1 (fun a s2 h2=>Kt (L4 ?_)) fun _ _ y=>y))
 obtain⟨ap,ak⟩:=a
 obtain⟨hkw,hlen,hC,hn,T,h2⟩:=h2
 have hkw:ak=[]:=hkw
 subst hkw
 obtain⟨hp,g,d,tk,os⟩:=s2
 simp only[hplain]
 refine Kt (wpAny_keeperOf_exc hC (Kt (AY F T hC hn hni (fun h' e hm hy=>Kt (Mn (wpAny_point (K1 ?_)))) hlen)))
 obtain⟨t,ht,_,_⟩:=hm.there
 exact⟨e,t,rfl,hm.keeps _ _ hC,ht,h2 h' e hm hy⟩
end
def qF (cls:Value) (t:Addr) (tb:Value):Obj:={ cls:=cls,data:= .fields #[.ref t,tb,.none,.none,.bool false,.none] }
def D0 (h:Heap) (T:Addr) (fl:Value):Prop:= ∃oT ts,h.get? T=some oT/\oT.data= .fields ts/\ts[3]?=some fl
section
variable {M:Model}{A:Around}{E:Value->Shared->Prop}{s:Shared}
theorem wj {base:Heap}{env:Env}{outer:List Env}{L x t:Addr}{cls head:Value}{hadNext:Bool}{Q:Unit->Shared->Prop}(hfr:A.frames=some (env::outer)) (hl:s.heap.FunFrames base (env::outer)) (hf:env.frame=some L)
  (he:s.heap.get? x=some (qF cls t head)) (h: ∀h' T',s.heap.objs.size<=T'->h'.get? x=some (qF cls t (.ref T'))->D0 h' T' (rawInt L)->(∀b o,b≠x->b∉Oz (env::outer)->s.heap.get? b=some o->h'.get? b=some o) ->
   (∀b o,b≠x->s.heap.get? b=some o-> ∃sl,h'.get? b=some { o with slots:=sl })->Q () { s with heap:=h' }) :
  wpAny M A (do let a <-frameOf env; let pl <-entryPlaceOf L hadNext; let b <-EntryCells.newEntry head a .none (rawInt L) .none pl; setField (.ref x) 1 b) Q E s:=by
 have hx:x∉(env::outer).filterMap (·.frame):=fun hm=>by
  obtain⟨_,o,ho,hn⟩:=hl.mem hm
  rw[he] at ho
  cases ho
  exact hn _ rfl
 refine Kt (wpAny_frameOf_fun hfr hl hf fun h1 sl1=>Kt (wpAny_entryPlaceOf fun pl hpl=>?_))
 unfold EntryCells.newEntry newFields
 refine Kt (MV ?_ (hpl.sizeOk5 _ _ _ _ _))
 have e1:h1.get? x=some (qF cls t head):=(sl1.2.1 x hx).trans he
 generalize hT:({ cls:= .type "traceback",dict:=none,data:= .fields ([head,.ref L,.none,rawInt L,.none]++(if pl.isEmpty then List.replicate 6 Value.none else pl)).toArray }:Obj)=oT
 have e2:(h1.push oT).get? x=some (qF cls t head):=Kq _ e1
 have hTx:h1.objs.size≠x:=M8 (KA e1)
 have fT:s.heap.objs.size<=h1.objs.size:=NF sl1.1.symm
 refine wpAny_setField e2 rfl (by show 1 < 6; decide) (h _ h1.objs.size fT ?_ ?_ (fun b o hb hn e=>?_) (fun b o hb e=>?_))
 .exact LV _ e2 rfl
 .refine⟨oT,([head,.ref L,.none,rawInt L,.none]++(if pl.isEmpty then List.replicate 6 Value.none else pl)).toArray,?_,by rw[<-hT],by simp⟩
  rw[Lo _ _ (KW hTx)]
  exact K7 _ (by rw[<-hT]; rfl)
 .rw[Lo _ _ (KW hb)]
  exact Kq _ ((sl1.2.1 b hn).trans e)
 .obtain⟨sl,q⟩:=sl1.2.2 b o e
  exact⟨sl,by rw[Lo _ _ (KW hb)]; exact Kq _ q⟩
end
structure oW (X:Cx) (pn:List (Addr×Obj)) (H:Hp) (h:Heap) (x:Addr) (cls fl:Value):Prop where
 ok:cA X pn H x
 ex: ∃t T,h.get? x=some (qF cls t (.ref T))/\T≠x/\cA X pn H T/\D0 h T fl
def Exc (X:Cx) (pn:List (Addr×Obj)) (H:Hp) (h:Heap) (x:Addr) (cls:Value):Prop :=
 (cA X pn H x/\ ∃t,h.get? x=some (qF cls t .none))\/oW X pn H h x cls .none\/oW X pn H h x cls (rawInt X.env.locals)
def Own (X:Cx):Prop:=X.stack=X.env::X.outer/\X.env.frame=some X.env.locals
section
variable {X:Cx}{pn:List (Addr×Obj)}{σ:St}{H:Hp}{s:Shared}{E:Value->Shared->Prop}
theorem Inv.D7 {ch:List Addr}{h':Heap}(I:Inv X pn σ H s) (hch: ∀b∈ch,cA X pn H b) (k1: ∀b o,b∉ch->b∉Oz X.stack->s.heap.get? b=some o->h'.get? b=some o)
  (k2: ∀b o,b∉ch->s.heap.get? b=some o-> ∃sl,h'.get? b=some { o with slots:=sl }):Inv X pn σ H { s with heap:=h' }:=by
 refine I.z5 (s':={ s with heap:=h' }) (ch:=ch) (H':=H) rfl ?_ ?_ I.bare fun b hb=>⟨(hch b hb).2.2.2.1,(hch b hb).2.1,fun x c hc=>(hch b hb).2.2.2.2.1 x c hc,(hch b hb).2.2.2.2.2⟩
 .exact⟨fun b o e _ hf hx=>k1 b o hx hf e,fun b o e _ _ hx=>k2 b o hx e,fun b o _ n _=>n,fun b o e hx=>let ⟨sl,q⟩:=k2 b o hx e; ⟨_,q⟩,fun b xs e=>e,fun b o u e=>e,fun b ps e=>⟨#[],by simpa using e⟩⟩
 .intro a o e
  refine (I.hok a o e).o6 (fun b u hb q=>?_) (fun b hb=>hb) (fun b xs hb=>hb)
  have tr: ∃o',H b=some o':=by
   rcases hb with rfl | hb
   .exact⟨o,e⟩
   .exact⟨_,hb⟩
  obtain⟨o',ho'⟩:=tr
  refine k1 b u (fun z=>?_) (fun z=>?_) q
  .rw[(hch b z).1] at ho'
   cases ho'
  .rw[I.vL b z] at ho'
   cases ho'
theorem Own.frames (O:Own X) (I:Inv X pn σ H s):X.A.frames=some (X.env::X.outer):=by rw[<-O.1]; exact I.ok.frames
theorem Own.fH (O:Own X) (I:Inv X pn σ H s):s.heap.FunFrames X.base (X.env::X.outer):=by rw[<-O.1]; exact I.stack
theorem x9 {x:Addr}{cls:Value}{Q:Unit->Shared->Prop}{A:Around}(O:Own X) (hA:A.frames=X.A.frames) (I:Inv X pn σ H s) (e:Exc X pn H s.heap x cls)
  (h: ∀s',Inv X pn σ H s'->oW X pn H s'.heap x cls (rawInt X.env.locals)->Q () s'):wpAny (model X.prog X.w) A (noteFrame (.ref x) X.env) Q E s:=by
 have hfr:A.frames=some (X.env::X.outer):=hA.trans (O.frames I)
 have hxf: ∀ {b:Addr},cA X pn H b->b∉Oz (X.env::X.outer):=fun {b} f z=>by
  rw[<-O.1] at z
  rcases Ks.mp (I.uN b z) with q | q
  .exact f.2.1 q
  .exact f.2.2.1 q
 rcases e with⟨fx,t,ex⟩ | ⟨fx,t,T,ex,hTx,fT,oT,ts,eT,dT,h3⟩ | e
 .unfold noteFrame
  simp only[O.2]
  refine Kt (MX ex rfl (x:= .none) rfl ?_)
  rw[Kk (by decide)]
  refine wj hfr (O.fH I) O.2 ex fun h' T' hT' ex' tb' k1 k2=>?_
  have fT':cA X pn H T':=I.jg hT' (I.hok.fresh hT')
  refine h _ (I.D7 (ch:=[x]) (fun b hb=>by rcases Km.mp hb with rfl; exact fx) (fun b o hb hn q=>k1 b o (fun z=>hb (by simp[z])) (by rw[<-O.1]; exact hn) q) (fun b o hb q=>k2 b o (fun z=>hb (by simp[z])) q))
   ⟨fx,t,T',ex',fun z=>?_,fT',tb'⟩
  exact absurd (KA ex) (Mw.mpr (by rw[<-z]; exact hT'))
 .unfold noteFrame
  simp only[O.2]
  refine Kt (MX ex rfl (x:= .ref T) rfl ?_)
  rw[Ko (show (Value.ref T !=Value.none)=true from by simp)]
  refine Kt (MX eT dT h3 ?_)
  rw[Kk (show ¬((Value.none == rawInt X.env.locals)=true) from by simp[rawInt])]
  refine Kt (wpAny_setField eT dT (Nz.mp h3).1 ?_)
  have o1: ∀b,b≠T->(s.heap.update T (Obj.mapFields (·.setIfInBounds 3 Value.none))).get? b=s.heap.get? b:=fun b hb=>Lo _ _ (KW hb)
  have hTf:=hxf fT
  have l1:(s.heap.update T (Obj.mapFields (·.setIfInBounds 3 Value.none))).FunFrames X.base (X.env::X.outer):=(O.fH I).of_keeps fun b o hb hn=>⟨o,(o1 b fun z=>by
   rw[z,eT] at hb
   cases hb
   exact hn _ dT).trans hb,rfl⟩
  refine wj (s:={ s with heap:=s.heap.update T (Obj.mapFields (·.setIfInBounds 3 Value.none)) }) hfr l1 O.2 ((o1 x (KW hTx)).trans ex) fun h' T' hT' ex' tb' k1 k2=>?_
  have hT2:s.heap.objs.size<=T':=by
   rw[Heap.size_after_update] at hT'
   exact hT'
  have fT':cA X pn H T':=I.jg hT2 (I.hok.fresh hT2)
  refine h _ (I.D7 (ch:=[x,T]) (fun b hb=>?_) (fun b o hb hn q=>?_) (fun b o hb q=>?_)) ⟨fx,t,T',ex',fun z=>?_,fT',tb'⟩
  .rcases Ks.mp hb with rfl | hb
   .exact fx
   .rcases Km.mp hb with rfl
    exact fT
  .exact k1 b o (fun z=>hb (by simp[z])) (by rw[<-O.1]; exact hn) ((o1 b fun z=>hb (by simp[z])).trans q)
  .exact k2 b o (fun z=>hb (by simp[z])) ((o1 b fun z=>hb (by simp[z])).trans q)
  .exact absurd (KA ex) (Mw.mpr (by rw[<-z]; exact hT2))
 .obtain⟨fx,t,T,ex,hTx,fT,oT,ts,eT,dT,h3⟩:=id e
  unfold noteFrame
  simp only[O.2]
  refine Kt (MX ex rfl (x:= .ref T) rfl ?_)
  rw[Ko (show (Value.ref T !=Value.none)=true from by simp)]
  refine Kt (MX eT dT h3 ?_)
  rw[Ko (show (rawInt X.env.locals == rawInt X.env.locals)=true from by first | (simp; done) | exact L7 _)]
  exact K1 (h s I e)
theorem qG {x:Addr}{cls fl:Value}{fr:Option Addr}{Q:Unit->Shared->Prop}{A:Around}(I:Inv X pn σ H s) (e:oW X pn H s.heap x cls fl)
  (h: ∀s',Inv X pn σ H s'->oW X pn H s'.heap x cls (fr.elim .none fun f=>rawInt f)->Q () s'):wpAny (model X.prog X.w) A (setFlight (.ref x) fr) Q E s:=by
 obtain⟨fx,t,T,ex,hTx,fT,oT,ts,eT,dT,h3⟩:=e
 have hsz:3 < ts.size:=(Nz.mp h3).1
 unfold setFlight
 refine Kt (MX ex rfl (x:= .ref T) rfl ?_)
 rw[Ko (show (Value.ref T !=Value.none)=true from by simp)]
 refine wpAny_setField eT dT hsz ?_
 have o1: ∀b,b≠T->(s.heap.update T (Obj.mapFields (·.setIfInBounds 3 (fr.elim .none fun f=>rawInt f)))).get? b=s.heap.get? b:=fun b hb=>Lo _ _ (KW hb)
 have dT':=Obj.data_mapFields dT (·.setIfInBounds 3 (fr.elim .none fun f=>rawInt f))
 refine h _ (I.D7 (ch:=[T]) (fun b hb=>by rcases Km.mp hb with rfl; exact fT) (fun b o hb _ q=>(o1 b fun z=>hb (by simp[z])).trans q) (fun b o hb q=>⟨o.slots,(o1 b fun z=>hb (by simp[z])).trans q⟩))
  ⟨fx,t,T,(o1 x (KW hTx)).trans ex,hTx,fT,_,_,LV _ eT (Obj.isFreed_of_fields dT'),dT',by simp[hsz]⟩
end
def XE (X:Cx) (pn:List (Addr×Obj)) (E:St->XK):Value->Shared->Prop:=fun e s=> ∃σ H x cls,e= .ref x/\Inv X pn σ H s/\Exc X pn H s.heap x cls/\E σ cls none H
abbrev Cx.exc (X:Cx) (pn:List (Addr×Obj)) (E:St->XK):Cx:={ X with xe:=XE X pn E,pn:=X.pn++pn }
theorem Cx.Ok.exc {X:Cx}{pn:List (Addr×Obj)}{E:St->XK}(ok:X.Ok):(X.exc pn E).Ok :=
 ⟨ok.mod,ok.kind,ok.glob,ok.blt,ok.above,ok.inj,ok.has,ok.cab,ok.hd,ok.frames,ok.stk,ok.exf,ok.bs,ok.bsz,ok.noex,ok.exfs,ok.fH,ok.frf⟩
theorem Cx.Ok.fg {X:Cx}{pn:List (Addr×Obj)}{E:St->XK}(ok:(X.exc pn E).Ok):X.Ok :=
 ⟨ok.mod,ok.kind,ok.glob,ok.blt,ok.above,ok.inj,ok.has,ok.cab,ok.hd,ok.frames,ok.stk,ok.exf,ok.bs,ok.bsz,ok.noex,ok.exfs,ok.fH,ok.frf⟩
section
variable {X:Cx}{pn NV:List (Addr×Obj)}{E:St->XK}{σ:St}{H:Hp}{s:Shared}
theorem Inv.exc (I:Inv X (pn++NV) σ H s):Inv (X.exc pn E) NV σ H s :=
 ⟨I.ok.exc,I.os,I.bare,I.base,I.loc,I.cell,I.free,I.freeC,fun p hp=>I.pin p (by rw[<-Mo]; exact hp),I.hok,I.len⟩
theorem Inv.fg (I:Inv (X.exc pn E) NV σ H s):Inv X (pn++NV) σ H s :=
 ⟨I.ok.fg,I.os,I.bare,I.base,I.loc,I.cell,I.free,I.freeC,fun p hp=>I.pin p (by rw[<-Mo] at hp; exact hp),I.hok,I.len⟩
theorem cA.fg {b:Addr}(f:cA (X.exc pn E) NV H b):cA X pn H b :=
 ⟨f.1,f.2.1,f.2.2.1,f.2.2.2.1,f.2.2.2.2.1,fun p hp=>f.2.2.2.2.2 p (Lj _ hp)⟩
theorem oW.fg {h:Heap}{x:Addr}{cls fl:Value}(e:oW (X.exc pn E) NV H h x cls fl):oW X pn H h x cls fl :=
 ⟨e.ok.fg,let ⟨t,T,a,b,c,d⟩:=e.ex; ⟨t,T,a,b,c.fg,d⟩⟩
theorem Exc.fg {h:Heap}{x:Addr}{cls:Value}(e:Exc (X.exc pn E) NV H h x cls):Exc X pn H h x cls:=by
 rcases e with⟨f,t,e⟩ | e | e
 .exact .inl ⟨f.fg,t,e⟩
 .exact .inr (.inl e.fg)
 .exact .inr (.inr e.fg)
theorem xP {x:Addr}{cls:Value}(I:Inv (X.exc pn E) NV σ H s) (e:Exc (X.exc pn E) NV H s.heap x cls) (q:E σ cls none H):(X.exc pn E).xe (.ref x) s :=
 ⟨σ,H,x,cls,rfl,I.fg.kI fun p hp=>I.fg.pin p (K0 _ (Lj _ hp)),e.fg,q⟩
end
def OM (P:Program) (w:World):Ox:=fun outer H s E e s'=> ∃x t T cls H',e= .ref x/\s'.os=s.os/\AllBare s'.gens/\Un (Oz outer) [] H H' s.heap s'.heap/\Oe P w H' s'.heap /\
 s.heap.objs.size<=x/\s.heap.objs.size<=T/\s'.heap.get? x=some (qF cls t (.ref T))/\T≠x/\D0 s'.heap T .none/\H' x=none/\H' T=none/\E cls none H'
section
variable {X:Cx}{pn NV:List (Addr×Obj)}{E:St->XK}{σ:St}{H:Hp}{s:Shared}
theorem yQ (I:Inv (X.exc pn E) NV σ H s){e:Value}{s':Shared}(c:OM X.prog X.w X.stack H s (E σ) e s'):(X.exc pn E).xe e s':=by
 obtain⟨x,t,T,cls,H',rfl,ho,hg,u,hok,hx,hT,ex,hTx,tb,fx,fT,q⟩:=c
 have I':Inv (X.exc pn E) NV σ H' s':=I.z5 (ch:=[]) ho u hok hg fun b hb=>by cases hb
 have F: ∀b,s.heap.objs.size<=b->H' b=none->cA (X.exc pn E) NV H' b:=fun b hb hn=>I.jg hb hn
 exact xP I' (.inr (.inl ⟨F x hx fx,t,T,ex,hTx,F T hT fT,tb⟩)) q
end
section
variable {P:Program}{w:World}{K:NY}{mg:Str->Option Value}{base:Heap}
theorem D5 {CX:Ox}{N:List Str}{qual:Str}{scope:Scope}{f:Addr}{cd:Value}{A:Around}{outer:List Env}{s:Shared}{H:Hp}{E:XK}:Own (jV CX P w K mg base N qual scope f cd A outer s H E):=⟨rfl,rfl⟩
theorem xK {N:List Str}{qual:Str}{scope:Scope}{f:Addr}{cd:Value}{A:Around}{outer:List Env}{s:Shared}{H:Hp}{E:XK}{body:List Stmt}{t:TS}
  (h:Ol ((jV (OM P w) P w K mg base N qual scope f cd A outer s H E).exc [] fun _=>E) body t):Ol (jV (OM P w) P w K mg base N qual scope f cd A outer s H E) body t:=by
 intro NV s1 σ H1 D I q
 refine Lr (h NV s1 σ H1 D (Inv.exc (pn:=[]) I) q) (fun fl s2 sp=>?_) (fun e s2 x=>?_)
 .cases fl with
  | next=>obtain⟨σ',H',I',q'⟩:=sp; exact⟨σ',H',I'.fg,q'⟩
  | brk=>obtain⟨σ',H',I',q'⟩:=sp; exact⟨σ',H',I'.fg,q'⟩
  | cont=>obtain⟨σ',H',I',q'⟩:=sp; exact⟨σ',H',I'.fg,q'⟩
  | ret u=>obtain⟨v,σ',H',I',r,q'⟩:=sp; exact⟨v,σ',H',I'.fg,r,q'⟩
 .obtain⟨σ2,H2,x,cls,rfl,I2,ex,q2⟩:=x
  show wpAny _ _ (leaving _ (.ref x)) _ _ s2
  unfold leaving
  refine Kt (x9 D5 rfl I2 ex fun s3 I3 e3=>?_)
  refine qG (fr:=none) I3 e3 fun s4 I4 e4=>?_
  obtain⟨fx,t,T,ex4,hTx,fT,tb⟩:=e4
  have young: ∀ {b:Addr},cA (jV (OM P w) P w K mg base N qual scope f cd A outer s H E) [] H2 b->s.heap.objs.size<=b:=fun {b} z=>by
   rcases z.2.2.2.1 with y | y
   .cases y
   .exact y
  exact⟨x,t,T,cls,H2,rfl,I4.os,I4.bare,I4.base,I4.hok,young fx,young fT,ex4,hTx,tb,fx.1,fT.1,q2⟩
end
def OV (P:Program) (w:World) (K:NY) (mg:Str->Option Value) (base:Heap) (k:Nat) (x:Str) (ps:List Str) (sp:Sp):Prop :=
 ∃f fd,mg x=some (.ref f)/\(∃oc od osl,K.lookup f=some ⟨oc,od,.func fd,osl⟩)/\PySem.W.keepIn K (.ref f)=true/\Binds K fd ps []/\eY P w K mg base (OM P w) k f fd ps sp
section
variable {P:Program}{w:World}{K:NY}{mg:Str->Option Value}{base:Heap}
theorem og {x:Str}{st:Stmt}{N ps:List Str}{k:Nat}{sp:Sp}(h:TF K mg x st) (S:aE N ps (aq st))
  (hb: ∀(kV doc pm:Value) (an:Option Addr) (cdv ct:Value) (us:List Value),us.length=ps.length->bindArgs (PySem.W.fnOf x x (fQ st) (dF st) (aq st) .none kV doc pm an cdv ct) ⟨us,[]⟩=pure (ps.zip us))
  (len: ∀vs H Q E,sp vs H Q E->vs.length=ps.length)
  (hbody: ∀(f:Addr) (cdv:Value) (A:Around) (outer:List Env) (s:Shared) (H:Hp) (vs:List V) (Q:VK) (E:XK),cf k (A.deeper (envOfC x (aq st) s.heap.objs.size f cdv))->sp vs H Q E ->
   ∃t,Ol ((jV (OM P w) P w K mg base N x (aq st) f cdv A outer s H E).exc [] fun _=>E) (dF st) t/\t { nx:=fun _ H'=>Q .non H',rt:=Q } (start N vs) H):OV P w K mg base (k+1) x ps sp:=by
 obtain⟨f,fd,hm,F⟩:=h
 obtain⟨oc,od,kV,doc,pm,an,cdv,ct,osl,rfl,lk,hcd⟩:=id F.ex
 refine⟨f,_,hm,⟨oc,od,osl,lk⟩,F.kp,F.binds hb,Az lk hcd S len fun A outer s H vs Q E hr hs=>?_⟩
 obtain⟨t,h1,h2⟩:=hbody f cdv A outer s H vs Q E hr hs
 exact⟨t,xK h1,h2⟩
theorem eY.Gu {k:Nat}{f:Addr}{fd:FuncData}{ps:List Str}{sp:Sp}(F:eY P w K mg base OA k f fd ps sp):eY P w K mg base (OM P w) k f fd ps sp :=
 ⟨F.len,fun A outer s H args us vs Q E hr e0 hb hv hs=>MS (F.run A outer s H args us vs Q E hr e0 hb hv hs) fun r s' c=>by
  cases r with
  | ok f=>cases f <;> exact c
  | error e=>exact c.elim⟩
theorem N8.x {k:Nat}{x:Str}{ps:List Str}{sp:Sp}(F:N8 P w K mg base k x ps sp):OV P w K mg base k x ps sp:=by
 obtain⟨f,fd,a,l,b,c,d⟩:=F
 exact⟨f,fd,a,l,b,c,d.Gu⟩
end
section
variable {X:Cx}{pn:List (Addr×Obj)}{E:St->XK}{k:Nat}{x:Str}{ps:List Str}{sp:Sp}{p pos:Pos}{e:Expr}{es:List Expr}{t:TA}
def G6 (sp:Sp) (E:St->XK) (t:TA):TE:=fun σ H Q=>t σ H fun vs H1=>sp (vs++[]) H1 Q (E σ)
theorem vy {NV:List (Addr×Obj)}{σ:St}{H:Hp}{s:Shared}{Q:VK}{us:List Value}{vs:List V}{f:Addr}{fd:FuncData}(F:eY X.prog X.w X.K X.mg X.base (OM X.prog X.w) k f fd ps sp) (hr:cf k X.A) (hb:Binds X.K fd ps [])
  (I:Inv (X.exc pn E) NV σ H s) (r:Vals vs us) (h:sp (vs++[]) H Q (E σ)):wpAny (model X.prog X.w) X.A (call (.ref f) us) (EP (X.exc pn E) NV σ Q) (X.exc pn E).xe s:=by
 have hl:(us++[]).length=ps.length:=by
  rw[<-(r.append (.nil:Vals [] [])).length]
  exact F.len _ _ _ _ h
 refine Nf (MS (F.run X.A X.stack s H ⟨us,[]⟩ (us++[]) (vs++[]) Q (E σ) hr I.Df (hb s us I.Ow hl) (r.append .nil) h) fun r s' hq=>?_)
 cases r with
 | error e=>exact yQ I hq
 | ok fl =>
  cases fl with
  | ret u=>exact I.after hq
  | next=>exact hq.elim
  | brk=>exact hq.elim
  | cont=>exact hq.elim
theorem bu (F:OV X.prog X.w X.K X.mg X.base k x ps sp) (hr:cf k X.A) (ha:PA (X.exc pn E) (e::es) t) (hg:Gl (X.exc pn E) x:=by rfl) (hdb:(x == ("__debug__" : Str))=false:=by decide)
  (he:starEach (e::es) X.env=(false,eval e X.env)::starEach es X.env:=by rfl) (hpl:(backTo pos (starEach es X.env)).any (·.1)=false:=by rfl):PE (X.exc pn E) (.Call (.Name x p) (e::es) [] pos) (G6 sp E t):=by
 obtain⟨f,fd,hm,_,kp,hb,F⟩:=F
 intro NV s σ H Q I h
 refine Mc (mX I hg hm ?_ hdb)
 exact MP (h₀:=X.base) I.ok.mod.kin kp (N0 (ha pos NV s σ H _ I h) fun us s1 ⟨vs,H1,I1,r,q⟩=>⟨I1.Ow,vy F hr hb I1 r q⟩) he hpl
end
abbrev z9:List Value:=[.type "ValueError",.type "Exception",.type "BaseException",.type "object"]
theorem sE {K:NY}{h:Heap}{C:Addr}{bmB:List Value}{newId:String}(X:K.In h) (q:PySem.W.excIn K C bmB newId=true) :
  ∃bm N nm qn bs hdct sn sub ab col dd k0 k1 k2 k3 k5 mN,h.get? C=some (excClassObj nm qn C N bs bm hdct sn sub ab col dd k0 k1 k2 k3 k5 newId)/\h.Ns N mN/\mN "__init__" = none/\OwnTail h bmB bm/\K.lookup C=some (excClassObj nm qn C N bs bm hdct sn sub ab col dd k0 k1 k2 k3 k5 newId):=by
 unfold PySem.W.excIn at q
 split at q
 .rename_i dd cd sl ho
  split at q
  .rename_i C' bm k0 k1 k2 k3 n k5 hm hs
   simp only[Lc,beq_iff_eq,Bool.not_eq_true'] at q
   obtain⟨⟨⟨⟨⟨e1,e2⟩,hdel⟩,ht⟩,hok⟩,hni⟩:=q
   subst e1 e2
   obtain⟨nm,bs,mro,ns,qn,hd,sn,sub,ab,col,del⟩:=cd
   dsimp only at hm hdel hok hni
   subst hm hdel
   have hsl:sl= #[k0,k1,k2,k3,some (.builtin n),k5]:=by
    obtain⟨l⟩:=sl
    simp only at hs
    rw[hs]
   subst hsl
   exact⟨bm,ns,nm,qn,bs,hd,sn,sub,ab,col,dd,k0,k1,k2,k3,k5,_,X _ _ ho,.of_isNs (PySem.W.isNs_of_in X hok),PySem.W.nsMap_none_of_in X hok hni,PySem.W.tail_of_in X ht,ho⟩
  .cases q
 .cases q
def XC (K:NY) (mg:Str->Option Value) (x:Str) (C:Addr):Prop:=mg x=some (.ref C)/\PySem.W.excIn K C z9 "ValueError.__new__" = true
def G4 (E:St->XK) (C:Addr) (t:TA):TS:=fun _ σ H=>t σ H fun vs H1=>vs.length<=1000/\E σ (.ref C) none H1
section
variable {X:Cx}{pn:List (Addr×Obj)}{E:St->XK}{x:Str}{C:Addr}{np cpos pos:Pos}{e:Expr}{es:List Expr}{t:TA}
theorem C7 {NV:List (Addr×Obj)}{σ:St}{H:Hp}{s:Shared}{h':Heap}{a:Addr}{vs:List Value}(I:Inv (X.exc pn E) NV σ H s) (m:Heap.MadeExcOf s.heap h' a (.ref C) vs) (hy:s.heap.objs.size<=a) (q:E σ (.ref C) none H):(X.exc pn E).xe (.ref a) { s with heap:=h' }:=by
 obtain⟨t,e,_,_⟩:=m.there
 have I':Inv (X.exc pn E) NV σ H { s with heap:=h' }:=I.kept (t':=s.toks) m.keeps
 exact xP I' (.inl ⟨I.jg hy (I.hok.fresh hy),t,e⟩) q
theorem eC (c:XC X.K X.mg x C) (hc:X.calm=true) (ha:PA (X.exc pn E) (e::es) t) (hg:Gl (X.exc pn E) x:=by rfl) (hdb:(x == ("__debug__" : Str))=false:=by decide)
  (he:starEach (e::es) X.env=(false,eval e X.env)::starEach es X.env:=by rfl) (hpl:(backTo cpos (starEach es X.env)).any (·.1)=false:=by rfl) :
  PS (X.exc pn E) (.Raise (some (.Call (.Name x np) (e::es) [] cpos)) none pos) (G4 E C t):=by
 intro NV s σ H D I h
 obtain⟨bm,N,nm,qn,bs,hdct,sn,sub,ab,col,dd,k0,k1,k2,k3,k5,mN,hC,hN,hni,T,_⟩:=sE I.mod.kin c.2
 have kp: ∀ {s':Shared}{H':Hp},Inv (X.exc pn E) NV σ H' s'-> ∀b o,X.base.get? b=some o->s'.heap.get? b=some o:=fun I'=>I'.bk
 refine y7 (C:=C) (nm:=nm) (qn:=qn) (N:=N) (bs:=bs) (bm:=bm) (hd:=hdct) (sn:=sn) (sub:=sub) (ab:=ab) (col:=col) (dd:=dd) (k0:=k0) (k1:=k1) (k2:=k2) (k3:=k3) (k5:=k5) F.excBase_ValueError (T.hasType rfl) (I.ok.hd hc) (by rw[he]; show (false || (backTo cpos (starEach es X.env)).any (·.1))=false; rw[hpl]; rfl) hni (mX I hg c.1 ⟨rfl,?_⟩ hdb)
 have h0:=ha cpos NV s σ H _ I h
 rw[show starEach (e::es) (X.exc pn E).env=(false,eval e X.env)::starEach es X.env from he] at h0 ⊢
 refine MI (N0 h0 fun us s1 ⟨vs,H1,I1,r,hz,q⟩=>⟨rfl,?_,kp I1 _ _ hC,hN.keeps (kp I1),T.keeps (kp I1),fun h' a m y=>C7 I1 m y q⟩)
 rw[<-r.length]
 exact KY (rM hz)
end
section
variable {M:Model}{A:Around}{E:Value->Shared->Prop}{h:Heap}{g:Array GenState}{d:Drawn}{tk:Nat}{os:OsState}
variable {nm qn nm' qn':Str}{C N D N':Addr}{bs bm bs' bm':List Value}{hd hd':Bool}{sn sn':List Str}{sub sub':List Value}{ab ab':Bool}{col col':Option Bool}{dd dd':Option Addr}{k0 k1 k2 k3 k5 j0 j1 j2 j3 j5:Option Value}{newId newId':String}
theorem y3 {x:Addr}{oe:Obj}{Q:Bool->Shared->Prop}(hC:h.get? C=some (excClassObj nm qn C N bs bm hd sn sub ab col dd k0 k1 k2 k3 k5 newId)) (he:h.get? x=some oe) (hcls:oe.cls= .ref C)
  (hD:h.get? D=some (excClassObj nm' qn' D N' bs' bm' hd' sn' sub' ab' col' dd' j0 j1 j2 j3 j5 newId')) (hb:bm'.contains (.type "BaseException")=true)
  (hq:Q ((Value.ref C::bm).contains (.ref D)) ⟨h,g,d,tk,os⟩):wpAny M A (excMatches (.ref x) (.ref D)) Q E ⟨h,g,d,tk,os⟩:=by
 have cb:(Value.ref D::bm').contains (.type "BaseException")=true:=by rw[List.contains_cons,hb,Bool.or_true]
 have f:=tc_notTuple
 generalize hr:(Value.ref C::bm).contains (.ref D)=r at hq
 unfold excMatches
 repeat (first | (with_reducible refine Mq he ?_; rw[hcls]) | with_reducible refine Mq hD ?_ | with_reducible refine Mq hC ?_ | (with_reducible refine Nl hD ?_; rw[cb]) | (with_reducible refine Nl hC ?_; rw[hr]) | wp_step)
 cases r <;> (wp_walk; exact hq)
end
def cv (K:NY) (cls:Value) (D:Addr):Option Bool:=match cls with
 | .ref C=>(match K.lookup C with | some ⟨_,_,.cls cd,_⟩=>some (cd.mro.contains (.ref D)) | _=>none)
 | _=>none
theorem dr {K:NY}{C D:Addr}{c:Value}{d:Option Addr}{cd:ClassData}{sl:Array (Option Value)}{b:Bool}(l:K.lookup C=some ⟨c,d,.cls cd,sl⟩) (e:cd.mro.contains (.ref D)=b):cv K (.ref C) D=some b:=by
 unfold cv
 simp only
 rw[l]
 exact Lm some e
section
variable {X:Cx}{NV:List (Addr×Obj)}{σ:St}{H:Hp}{s:Shared}
theorem Em {A:Around}{E:Value->Shared->Prop}{C D x:Addr}{fl:Value}{b:Bool}{Q:Bool->Shared->Prop}(I:Inv X NV σ H s) (e:oW X NV H s.heap x (.ref C) fl)
  (cC:PySem.W.excIn X.K C z9 "ValueError.__new__" = true) (cD:PySem.W.excIn X.K D z9 "ValueError.__new__" = true) (hs:cv X.K (.ref C) D=some b) (q:Q b s) :
  wpAny (model X.prog X.w) A (excMatches (.ref x) (.ref D)) Q E s:=by
 obtain⟨bm,N,nm,qn,bs,hdct,sn,sub,ab,col,dd,k0,k1,k2,k3,k5,mN,hC,_,_,T,lC⟩:=sE I.mod.kin cC
 obtain⟨bm',N',nm',qn',bs',hdct',sn',sub',ab',col',dd',j0,j1,j2,j3,j5,mN',hD,_,_,T',_⟩:=sE I.mod.kin cD
 obtain⟨_,t,Tb,ex,_⟩:=e
 have e1:some ((Value.ref C::bm).contains (.ref D))=some b:=by
  unfold cv at hs
  simp only at hs
  rw[lC] at hs
  exact hs
 have e2:=KJ e1
 obtain⟨hp,g,d,tk,os⟩:=s
 exact y3 (I.bk _ _ hC) ex rfl (I.bk _ _ hD) (T'.hasType rfl) (by rw[e2]; exact q)
end
abbrev Cx.Ou (X:Cx) (NV:List (Addr×Obj)) (x:Addr) (o:Obj):Cx:={ X with A:=X.A.mark (some (.ref x)),calm:=false,xe:=fun _ _=>False,pn:=X.pn++NV++[(x,o)] }
theorem Cx.Ok.Ou {X:Cx}{NV:List (Addr×Obj)}{x:Addr}{o:Obj}(ok:X.Ok):(X.Ou NV x o).Ok :=
 ⟨ok.mod,ok.kind,ok.glob,ok.blt,ok.above,ok.inj,ok.has,ok.cab,(fun h=>by cases h),ok.frames,ok.stk,ok.exf,ok.bs,ok.bsz,ok.noex,ok.exfs,ok.fH,ok.frf⟩
theorem Cx.Ok.tH {X:Cx}{NV:List (Addr×Obj)}{x:Addr}{o:Obj}(hc:X.calm=true->X.A.handled=none) (ok:(X.Ou NV x o).Ok):X.Ok :=
 ⟨ok.mod,ok.kind,ok.glob,ok.blt,ok.above,ok.inj,ok.has,ok.cab,hc,ok.frames,ok.stk,ok.exf,ok.bs,ok.bsz,ok.noex,ok.exfs,ok.fH,ok.frf⟩
section
variable {X:Cx}{NV:List (Addr×Obj)}{σ:St}{H:Hp}{s:Shared}
theorem Inv.Ou {x t T:Addr}{cls:Value}(I:Inv X NV σ H s) (f:cA X NV H x) (ex:s.heap.get? x=some (qF cls t (.ref T))):Inv (X.Ou NV x (qF cls t (.ref T))) [] σ H s :=
 ⟨I.ok.Ou,I.os,I.bare,I.base,I.loc,I.cell,I.free,I.freeC,fun p hp=>by
  rw[Ly] at hp
  rcases Kz.mp hp with hp | hp
  .exact I.pin p hp
  .rcases Km.mp hp with rfl
   exact⟨ex,f.1,f.2.1,f.2.2.1,fun v z=>by cases z⟩,I.hok,I.len⟩
theorem Inv.tH {pl:List (Addr×Obj)}{x:Addr}{o:Obj}{σ':St}{H':Hp}{s':Shared}(hc:X.calm=true->X.A.handled=none) (I:Inv (X.Ou NV x o) pl σ' H' s'):Inv X NV σ' H' s' :=
 ⟨I.ok.tH hc,I.os,I.bare,I.base,I.loc,I.cell,I.free,I.freeC,fun p hp=>I.pin p (Lj _ (Lj _ hp)),I.hok,I.len⟩
end
abbrev TH:=Ends->Value->St->Hp->Prop
def PH (X:Cx) (hs:List ExceptHandler) (th:TH):Prop :=
 ∀(NV:List (Addr×Obj)) (s:Shared) (σ:St) (H:Hp) (D:Ends) (x:Addr) (cls:Value),Inv X NV σ H s->oW X NV H s.heap x cls .none->th D cls σ H ->
  wpAny (model X.prog X.w) X.A (handleBy (.ref x) X.env hs) (SP X NV D) X.xe s
theorem Cj {X:Cx}:PH X [] (fun _ _ _ _=>False):=fun _ _ _ _ _ _ _ _ _ h=>h.elim
def Jv (K:NY) (D:Addr) (ts:List (Addr×Obj)->Addr->Obj->TS) (th:TH):TH:=fun Ds cls σ H=> ∃C b,cls= .ref C/\PySem.W.excIn K C z9 "ValueError.__new__" = true/\cv K cls D=some b/\if b=true then ∀NV x o,ts NV x o Ds σ H else th Ds cls σ H
theorem kg {X:Cx}{n:Str}{D:Addr}{np pos:Pos}{b0:Stmt}{suite:List Stmt}{rest:List ExceptHandler}{ts:List (Addr×Obj)->Addr->Obj->TS}{th:TH}(c:XC X.K X.mg n D) (hsu: ∀NV x o,Ol (X.Ou NV x o) (b0::suite) (ts NV x o)) (hr:PH X rest th)
  (hg:Gl X n:=by rfl) (hdb:(n == ("__debug__" : Str))=false:=by decide):PH X (.ExceptHandler (some (.Name n np)) none (b0::suite) pos::rest) (Jv X.K D ts th):=by
 intro NV s σ H Ds x cls I e q
 obtain⟨C,b,rfl,hC,hsb,q⟩:=q
 obtain⟨fx,t,T,ex,hT⟩:=id e
 have Ih:=I.Ou fx ex
 refine wpAny_handleBy_cons (codeAny_handlers_test (wpAny_noRaise (mX (X:=X.Ou NV x _) (E:=fun _ _=>False) Ih hg c.1 ?_ hdb) |> fun z=>z)) (by intro z; cases z)
 refine Em I e hC c.2 hsb ?_
 cases b with
 | true =>
  rw[Ko rfl] at q
  refine codeAny_handlers_suite (wpAny_noRaise ?_)
  refine qG (X:=X) (fr:=none) I e fun s2 I2 e2=>?_
  obtain⟨fx2,t2,T2,ex2,_⟩:=id e2
  refine wpAny_noRaise (N0 (hsu NV x _ [] s2 σ H Ds (I2.Ou fx2 ex2) (q _ _ _)) fun f s3 sp=>?_)
  cases f with
  | next=>obtain⟨σ',H',I',q'⟩:=sp; exact⟨σ',H',I'.tH I.ok.hd,q'⟩
  | brk=>obtain⟨σ',H',I',q'⟩:=sp; exact⟨σ',H',I'.tH I.ok.hd,q'⟩
  | cont=>obtain⟨σ',H',I',q'⟩:=sp; exact⟨σ',H',I'.tH I.ok.hd,q'⟩
  | ret v=>obtain⟨v',σ',H',I',r,q'⟩:=sp; exact⟨v',σ',H',I'.tH I.ok.hd,r,q'⟩
 | false =>
  rw[Kk KG] at q
  exact hr NV s σ H Ds x (.ref C) I e q
def Hj (tb:List (Addr×Obj)->(St->XK)->TS) (to:TS) (th:TH):TS:=fun D σ H=> ∃E':St->XK,(∀NV,tb NV E' { D with nx:=to D } σ H)/\ ∀σ' cls H',E' σ' cls none H'->th D cls σ' H'
theorem F4 {X:Cx}{body orelse:List Stmt}{h0:ExceptHandler}{hs:List ExceptHandler}{pos:Pos}{tb:List (Addr×Obj)->(St->XK)->TS}{to:TS}{th:TH}(O:Own X) (hb: ∀NV E',Ol (X.exc NV E') body (tb NV E')) (ho:Ol X orelse to) (hh:PH X (h0::hs) th) :
  PS X (.Try body (h0::hs) orelse [] pos) (Hj tb to th):=by
 intro NV s σ H D I q
 obtain⟨E',q1,q2⟩:=q
 have I0:Inv (X.exc NV E') [] σ H s:=Inv.exc (by rw[Ly]; exact I)
 have back: ∀ {σ':St}{H':Hp}{s':Shared},Inv (X.exc NV E') [] σ' H' s'->Inv X NV σ' H' s':=fun I'=>by
  have:=I'.fg
  rwa [Ly] at this
 refine wpAny_Try_except (Lr (hb NV E' [] s σ H _ I0 (q1 NV)) (fun f s1 sp=>?_) (fun e s1 x=>?_))
 .cases f with
  | next =>
   obtain⟨σ',H',I',q'⟩:=sp
   exact ho NV s1 σ' H' D (back I') q'
  | brk=>obtain⟨σ',H',I',q'⟩:=sp; exact⟨σ',H',back I',q'⟩
  | cont=>obtain⟨σ',H',I',q'⟩:=sp; exact⟨σ',H',back I',q'⟩
  | ret v=>obtain⟨v',σ',H',I',r,q'⟩:=sp; exact⟨v',σ',H',back I',r,q'⟩
 .obtain⟨σ1,H1,x,cls,rfl,I1,ex,q'⟩:=x
  refine x9 O rfl I1 ex fun s2 I2 e2=>?_
  refine qG (fr:=none) I2 e2 fun s3 I3 e3=>?_
  exact hh NV s3 σ1 H1 D x cls I3 e3 (q2 σ1 cls H1 q')
theorem Bk {X:Cx}{body:List Stmt}{h0:ExceptHandler}{hs:List ExceptHandler}{pos:Pos}{tb:List (Addr×Obj)->(St->XK)->TS}{th:TH}(O:Own X) (hb: ∀NV E',Ol (X.exc NV E') body (tb NV E')) (hh:PH X (h0::hs) th) :
  PS X (.Try body (h0::hs) [] [] pos) (Hj tb Ew th):=F4 O hb aD hh
section
variable {prog:Program}{w:World}{A:Around}{E:Value->Shared->Prop}{s:Shared}
end
structure Kf (k:Nat) (A:Around):Prop where
 dp:A.depth+3*k+5 < recursionLimit
 un:A.units+16*k+200 < cLine
section
variable {P:Program}{w:World}{K:NY}{mg:Str->Option Value}{base:Heap}
end
end L2
namespace L2
open PySem PySem.Spec PyProof.Rows PySem.W
structure EC (K:Frag) (C:Addr):Prop where
 ga:findIn K (.ref C) "__getattribute__" = some (some (.builtin "BaseException.__getattribute__"))
 gn:findIn K (.ref C) "__getattr__" = some none
 cl:findIn K (.ref C) "__class__" = some (some (.builtin "object.__class__"))
 sb:subIn K (.ref C) (.type "BaseException")=some true
 so:subIn K (.ref C) (.type "object")=some true
section
variable {prog:Program}{w:World}{A:Around}{E:Value->Shared->Prop}{K:Frag}{h:Heap}{g:Array GenState}{d:Drawn}{tk:Nat}{os:OsState}{a C:Addr}{o:Obj}
end
end L2
namespace L2
open PySem PySem.Spec PyProof.Rows
section
variable {h base:Heap}{x b:Addr}{o:Obj}
end
section
variable {X:Cx}{NV:List (Addr×Obj)}{k:Nat}{x tt:Addr}{cls tb:Value}{n:Str}{ps:List Str}{sp:Heap->Sp}{p pos:Pos}{e:Expr}{es:List Expr}{t:TA}
end
section
variable {M:Model}{A:Around}{E:Value->Shared->Prop}{s:Shared}
end
section
variable {X:Cx}{NV:List (Addr×Obj)}{σ:St}{H:Hp}{s:Shared}
end
def isStar:Expr->Bool
 | .Starred _ _=>true
 | _=>false
theorem qY {e:Expr}{es:List Expr}{env:Env}(h:isStar e=false):starEach (e::es) env=(false,eval e env)::starEach es env:=by
 cases e <;> first | rfl | cases h
theorem aa {X:Cx}{e:Expr}{es:List Expr}{te:TE}{t:TA}(ha:PE X e te) (hr:PA X es t) (hs:isStar e=false:=by rfl):PA X (e::es) (Ey te t):=Fu ha hr (qY hs)
theorem wc: ∀ {ys:List Str}{us:List Value},Vals (ys.map V.str) us->StrsAre us ys
 | [],_,.nil=> .nil
 | y::ys,_,.cons r t=>by
  obtain⟨k,rfl⟩:=r
  exact .cons y k (wc t)
inductive Hn (K:NY) (x:V) (vs:List V) (H:Hp) (Q:VK):Prop | mk (z l ys:_) (e0:x= .str z) (e1:vs=[.ref l]) (e2:NX K H l (ys.map V.str)) (e3:z.length<=16) (e4:(ys.map (·.length)).sum+ys.length<=1048576) (q:Q (.str (Txt.join z ys)) H)
def rJoin (K:NY):V->List V->Hp->VK->Prop:=fun x vs H Q=>Hn K x vs H Q
theorem Ft {X:Cx}:Pr X "str.join" (rJoin X.K):=by
 intro NV s σ H x vs v us Q I rx rv h
 obtain⟨z,l,ys,rfl,rfl,hq,h1,h2,q⟩:=h
 obtain⟨t,rfl⟩:=rx
 obtain⟨u,rfl,ru⟩:=rv.one
 cases ru
 obtain⟨its,r,p,_⟩:=I.list hq
 exact join_listW p.isList (wc r) h1 h2 fun t' k=>⟨.str _,H,I.tok k,⟨t',rfl⟩,q⟩
end L2
namespace L2
open PySem PySem.Spec PyProof.Rows PySem.W
structure JC (psc scope:Scope) (p:Str) (frn:List Str):Prop where
 kind:scope.kind= .function
 co:scope.isCoroutine=false
 gen:scope.isGenerator=false
 cell: ∀y∈scope.names,y.2≠ .cell
 par:scope.names.lookup p=some .local
 free: ∀y∈scope.names,y.2= .free->psc.names.lookup y.1=some .cell\/psc.names.lookup y.1=some .free
 nd:(p::frn).Nodup
 frn: ∀x∈frn,scope.names.lookup x=some .free
abbrev JS (X:Cx) (qual:Str) (scope:Scope) (L f c:Addr):Env:=envX qual scope L f (.ref c) (cU scope.names X.env.cells [])
section
variable {X:Cx}{NV:List (Addr×Obj)}{σ:St}{H:Hp}{s:Shared}
end
section
variable {X:Cx}{NV:List (Addr×Obj)}{σ:St}{H:Hp}{s:Shared}
end
section
variable {X:Cx}{NV:List (Addr×Obj)}{σ:St}{H:Hp}{s:Shared}{A:Around}{E:Value->Shared->Prop}{a kS:Addr}{vs:List Value}{kz:List Int}{keys:Array Value}{e e1:Nat}{P:PySem.Fin->Shared->Prop}
end
section
variable {X:Cx}{NV:List (Addr×Obj)}{σ:St}{H:Hp}{s:Shared}{A:Around}{E:Value->Shared->Prop}{a kS:Addr}{vs:List Value}{kz:List Int}{keys:Array Value}{e e1:Nat}{P:PySem.Fin->Shared->Prop}
end
theorem Inv.EG {X:Cx}{NV:List (Addr×Obj)}{σ:St}{H:Hp}{s:Shared}{a:Addr}{o:HO}(I:Inv X NV σ H s) (f:cA X NV H a) (new:dt X.prog X.w (upd H a o) s.heap a o):Inv X NV σ (upd H a o) s:=by
 obtain⟨f0,f1,f2,f3,f4,f5⟩:=f
 have ne: ∀b u,H b=some u->b≠a:=fun b u e=>aB e f0
 refine⟨I.ok,I.os,I.bare,⟨I.base.keep,I.base.slot,fun b ob e n hx=>?_,I.base.there,fun b xs e=>?_,fun b ob u e=>?_,fun b ps e=>?_⟩,I.loc,I.cell,?_,fun x c e=>?_,fun p hp=>?_,fun b u e=>?_,I.len⟩
 .rw[ao fun z=>?_]
  .exact I.base.free b ob e n hx
  .rcases f3 with h | h
   .exact hx (z▸h)
   .exact absurd (KA e) (Mw.mpr (by rw[z]; exact h))
 .have:=I.base.tups b xs e
  rw[ao (ne b _ this)]
  exact this
 .have:=I.base.frzs b ob u e
  rw[ao (ne b _ this)]
  exact this
 .obtain⟨m,this⟩:=I.base.tbls b ps e
  exact⟨m,by rw[ao (ne b _ this)]; exact this⟩
 .rw[ao (KW f1)]
  exact I.free
 .rw[ao (f4 x c e)]
  exact I.freeC x c e
 .obtain⟨a1,a2,a3,a4,a5⟩:=I.pin p hp
  exact⟨a1,by rw[ao (f5 p hp)]; exact a2,a3,a4,a5⟩
 .by_cases hb:b=a
  .subst hb
   rw[ag] at e
   cases e
   exact new
  .rw[ao hb] at e
   exact (I.hok b u e).o6 (fun _ _ _ z=>z) (fun c z=>by rw[ao (ne c _ z)]; exact z) fun c xs z=>by rw[ao (ne c _ z)]; exact z
section
variable {X:Cx}
end
end L2
namespace L2
open PySem PySem.Spec PyProof.Rows
inductive F7 (x:V) (vs:List V) (H:Hp) (Q:VK):Prop | mk (l:Addr) (ns:List Int) (i:Int) (j:Nat) (e0:x= .ref l) (e1:vs=[.int i]) (e2:H l=some (.lst (ns.map V.int))) (e3:ns[j]?=some i) (e4:(∀m,m < j->ns[m]?≠some i)) (q:Q (.int (j:Nat)) H)
def Gz:V->List V->Hp->VK->Prop:=fun x vs H Q=>F7 x vs H Q
theorem DF {X:Cx}:O3 X "list.index" Gz:=by
 intro NV s σ H x vs v us Q I rx rv h
 obtain⟨l,ns,i,j,rfl,rfl,hH,hj,hno,q⟩:=h
 cases rx
 obtain⟨u,rfl,t,rfl⟩:=rv.one
 obtain⟨z,its,n,r,hl,e⟩:=I.mh hH
 have hlen:its.length=ns.length:=by
  rw[<-hl,Kj]
 have hat: ∀m k,ns[m]?=some k-> ∃t,its[m]?=some (Value.int k t):=fun m k hm=>by
  obtain⟨u,hu,ru⟩:=r.get (i:=m) (x:= .int k) (by rw[KD,hm]; rfl)
  obtain⟨t,rfl⟩:=ru
  exact⟨t,hu⟩
 have hjl:j < ns.length:=(Kv.mp hj).1
 have val: ∀m (hm:m < its.toArray.size),∃k t,ns[m]?=some k/\its.toArray[m]=Value.int k t:=fun m hm=>by
  have hm':m < ns.length:=by simpa [hlen] using hm
  obtain⟨t,ht⟩:=hat m ns[m] (Kl hm')
  refine⟨ns[m],t,Kl hm',?_⟩
  have:=(Kv.mp ht).2
  simpa using this
 let eq:Value->Bool:=fun y=>match y with | .int k _=>k == i | _=>false
 have he: ∀y,y∈its.toArray->MeetsSeq.EqGives y (.int i t) (eq y):=fun y hy=>by
  obtain⟨m,hm,rfl⟩:=M3.mp hy
  obtain⟨k,t',_,e2⟩:=val m hm
  rw[e2]
  exact MeetsSeq.EqGives.int k i t' t
 have hjs:j < its.toArray.size:=by rw[KC,hlen]; exact hjl
 refine L9 F.slot_list_index ⟨_,e,rfl⟩ F.entry_list_index (F.args_list_index_2 _ _) (MeetsSeq.list_index l its.toArray n (.int i t) eq he j hjs ?_ ?_ ?_) ⟨e,?_⟩
 .rw[hl] at z
  have:its.length<=sizeLine:=by omega
  have h2:sizeLine < 2 ^ 62:=by decide
  omega
 .obtain⟨k,t',e1,e2⟩:=val j hjs
  rw[e2]
  rw[hj] at e1
  cases e1
  simp[eq]
 .intro m hm hmj
  obtain⟨k,t',e1,e2⟩:=val m hm
  rw[e2]
  have:k≠i:=fun z=>hno m hmj (z▸e1)
  simpa [eq] using this
 .exact⟨.int (j:Nat),H,I.tok _,⟨_,rfl⟩,q⟩
section
variable {X:Cx}
inductive IM (K:NY) (xs:List V) (H:Hp) (Q:VK):Prop | mk (x n:_) (e0:xs=[x]) (e1:Hd K x H n) (q:Q (.int n) H)
def GX (K:NY):List V->Hp->VK->Prop:=fun xs H Q=>IM K xs H Q
theorem Bj:de X (.builtin "len") (GX X.K):=fun _ _ _ _ _ _ _ I r ⟨x,n,e,l,q⟩=>Eh _ _ _ _ _ _ _ I r ⟨x,n,e,l,q⟩
inductive Dp (K:NY) (xs:List V) (H:Hp) (Q:VK):Prop | mk (p ys:_) (e0:xs=[.ref p]) (e1:(NX K H p ys\/N1 K H p ys)) (q: ∀l,H l=none->Q (.ref l) (upd H l (.lst ys)))
def pU (K:NY):List V->Hp->VK->Prop:=fun xs H Q=>Dp K xs H Q
theorem jc:de X (.type "list") (pU X.K):=fun _ _ _ _ _ _ _ I r ⟨x,n,e,l,q⟩=>xH _ _ _ _ _ _ _ I r ⟨x,n,e,l,q⟩
end
inductive Ip (K:NY) (x y:V) (H:Hp) (Q:VK):Prop | mk (a b:Addr) (ns ms:List Int) (e0:x= .ref a) (e1:y= .ref b) (e2:NX K H a (ns.map V.int)) (e3:NX K H b (ms.map V.int)) (q:Q (.bl (decide (ns=ms))) H)
def GA (K:NY):R2:=fun x y H Q=>Ip K x y H Q
theorem tV {ns:List Int}{us:List Value}(r:Vals (ns.map V.int) us){j:Nat}(h:j < us.length): ∃t,us[j]'h=Value.int (ns.getD j 0) t:=by
 have hl:us.length=ns.length:=by rw[<-r.length,Kj]
 have hj:j < ns.length:=by omega
 obtain⟨u,hu,t,rfl⟩:=r.get (i:=j) (x:= .int ns[j]) (by rw[KD,Kl hj]; rfl)
 refine⟨t,?_⟩
 have:=(Kv.mp hu).2
 rw[this,Ku,Kl hj]
 rfl
theorem C9 (ns ms:List Int) (h:ns.length=ms.length):(List.range ns.length).all (fun i=>ns.getD i 0 == ms.getD i 0)=decide (ns=ms):=by
 rw[Md,LB,decide_eq_true_eq]
 constructor
 .intro a
  refine NK h fun i h1 h2=>?_
  have:=a i (KU.mpr h1)
  simpa [Ku,h1,h2] using this
 .intro e i _
  rw[e]
  exact L7 _
theorem Gn {X:Cx}(hu:X.A.units+1 < cLine):N7 X (compareOp .Eq) (GA X.K):=by
 intro NV s σ H x y v u Q I rx ry h
 obtain⟨a,b,ns,ms,rfl,rfl,ha,hb,q⟩:=h
 cases rx
 cases ry
 obtain⟨us,r1,p1,z1⟩:=I.list ha
 obtain⟨vs,r2,p2,z2⟩:=I.list hb
 have l1:us.length=ns.length:=by rw[<-r1.length,Kj]
 have l2:vs.length=ms.length:=by rw[<-r2.length,Kj]
 by_cases hl:ns.length=ms.length
 .refine SeqAt.eq_listAt (e:=fun i=>ns.getD i 0 == ms.getD i 0) p1.isList p2.isList (by simp; omega) (by omega) (fun j h1 h2=>?_) ?_
  .obtain⟨t1,e1⟩:=tV r1 (j:=j) (by simpa using h1)
   obtain⟨t2,e2⟩:=tV r2 (j:=j) (by simpa using h2)
   simp only[Na,e1,e2]
   exact SeqAt.EqAt.int_int _ _ _ _
  .rw[show us.toArray.size=ns.length by simpa using l1,C9 ns ms hl]
   exact⟨.bl _,H,I,rfl,q⟩
 .refine SeqAt.eq_list_lengthsAt p1.isList p2.isList (by simp; omega) (by omega) ?_
  rw[show decide (ns=ms)=false from KH fun e=>hl (by rw[e])] at q
  exact⟨.bl _,H,I,rfl,q⟩
section
variable {X:Cx}{e st:Expr}{te ts:TE}{pos p2:Pos}
inductive JZ (K:NY) (Q:VK) (x:V) (H2:Hp):Prop | mk (a xs:_) (e0:x= .ref a) (e1:NX K H2 a xs) (q: ∀p,H2 p=none->Q (.ref p) (upd H2 p (.lst xs.reverse)))
end
end L2
namespace MA
abbrev av:=Int×Int×Int
def g (ws:List Int) (i:Int):Int:=ws.getD i.toNat 0
def mx (i j:Int):Int:=if j > i then j else i
theorem fY (i j:Int):i<=mx i j:=by unfold mx; split <;> omega
theorem jz (i j:Int):j<=mx i j:=by unfold mx; split <;> omega
theorem xr {i j k:Int}(h1:i<=k) (h2:j<=k):mx i j<=k:=by unfold mx; split <;> omega
def ask (f:Int->Int) (r:av):Int:=if r.2.1= -1 then r.2.2 else f r.2.1+r.2.2
def put (ws:List Int) (i v:Int):List Int:=ws.set i.toNat v
def eh (ws:List Int) (r:av):List Int:=put ws r.1 (mx (g ws r.1) (ask (g ws) r))
def bU (rs:List av) (ws:List Int):List Int:=rs.foldl eh ws
def N5 (n:Nat) (r:av):Prop:=0<=r.1/\r.1 < n/\ -1<=r.2.1/\r.2.1 < n/\0<=r.2.2
def Met (rs:List av) (f:Int->Int):Prop:= ∀r∈rs,ask f r<=f r.1
def Le (n:Nat) (f h:Int->Int):Prop:= ∀i:Int,0<=i->i < n->f i<=h i
theorem gQ {ws:List Int}{i v j:Int}(hi:0<=i) (hl:i < ws.length) (hj:0<=j):g (put ws i v) j=if j=i then v else g ws j:=by
 unfold g put
 rw[Ku,Ku,List.getElem?_set]
 by_cases e:j=i
 .subst e
  have:j.toNat < ws.length:=by omega
  simp[this]
 .have:i.toNat≠j.toNat:=by omega
  simp[this,e]
theorem mW {ws:List Int}{i v:Int}:(put ws i v).length=ws.length:=Mg
theorem jG {ws:List Int}{r:av}:(eh ws r).length=ws.length:=mW
theorem f6 (rs:List av): ∀ws,(bU rs ws).length=ws.length:=by
 induction rs with
 | nil=>intro ws; rfl
 | cons r rs ih=>intro ws; exact (ih _).trans jG
theorem yB {n:Nat}{f h:Int->Int}{r:av}(k:N5 n r) (hl:Le n f h):ask f r<=ask h r:=by
 obtain⟨_,_,h3,h4,_⟩:=k
 unfold ask
 split
 .exact K2 _
 .have:=hl r.2.1 (by omega) h4
  omega
theorem wA {n:Nat}{ws:List Int}{r:av}(k:N5 n r) (hl:ws.length=n):Le n (g ws) (g (eh ws r)):=fun i h0 h1=>by
 unfold eh
 rw[gQ k.1 (by rw[hl]; exact k.2.1) h0]
 split
 .rename_i e; rw[e]; exact fY _ _
 .exact K2 _
theorem km {n:Nat}: ∀(rs:List av) (ws:List Int),(∀r∈rs,N5 n r)->ws.length=n->Le n (g ws) (g (bU rs ws))
 | [],ws,_,_=>fun i _ _=>K2 _
 | r::rs,ws,k,hl=>fun i h0 h1=>K9 (wA (k r (Ky)) hl i h0 h1) (km rs (eh ws r) (fun x hx=>k x (Kx _ hx)) (jG.trans hl) i h0 h1)
theorem Cb {n:Nat}{ws:List Int}{r:av}{f:Int->Int}(k:N5 n r) (hl:ws.length=n) (hf:ask f r<=f r.1) (h:Le n (g ws) f):Le n (g (eh ws r)) f:=fun i h0 h1=>by
 unfold eh
 rw[gQ k.1 (by rw[hl]; exact k.2.1) h0]
 split
 .rename_i e; rw[e]; exact xr (h _ k.1 k.2.1) (K9 (yB k h) hf)
 .exact h i h0 h1
theorem kG {n:Nat}{f:Int->Int}: ∀(rs:List av) (ws:List Int),(∀r∈rs,N5 n r)->ws.length=n->Met rs f->Le n (g ws) f->Le n (g (bU rs ws)) f
 | [],ws,_,_,_,h=>h
 | r::rs,ws,k,hl,hf,h=>kG rs (eh ws r) (fun x hx=>k x (Kx _ hx)) (jG.trans hl) (fun x hx=>hf x (Kx _ hx)) (Cb (k r (Ky)) hl (hf r (Ky)) h)
theorem sx {n:Nat}: ∀(rs:List av) (ws:List Int) (f:Int->Int),(∀r∈rs,N5 n r)->ws.length=n->Le n f (g ws)-> ∀r∈rs,ask f r<=g (bU rs ws) r.1
 | [],ws,f,_,_,_=>fun r hr=>by cases hr
 | q::rs,ws,f,k,hl,h=>fun r hr=>by
  have k':=fun x hx=>k x (Kx q hx)
  have kq:=k q (Ky)
  have hl':(eh ws q).length=n:=jG.trans hl
  rcases Ks.mp hr with rfl | hr
  .have h1:ask f r<=g (eh ws r) r.1:=by
    unfold eh
    rw[gQ kq.1 (by rw[hl]; exact kq.2.1) kq.1,Ko rfl]
    exact K9 (yB kq h) (jz _ _)
   exact K9 h1 (km rs (eh ws r) k' hl' _ kq.1 kq.2.1)
  .exact sx rs (eh ws q) f k' hl' (fun i h0 h1=>K9 (h i h0 h1) (wA kq hl i h0 h1)) r hr
theorem jb {n:Nat}{rs:List av}{ws:List Int}(k: ∀r∈rs,N5 n r) (hl:ws.length=n) (h:bU rs ws=ws):Met rs (g ws):=fun r hr=>by
 have:=sx rs ws (g ws) k hl (fun _ _ _=>K2 _) r hr
 rwa [h] at this
theorem EH {ws us:List Int}(h:ws.length=us.length) (e: ∀i:Int,0<=i->i < ws.length->g ws i=g us i):ws=us:=by
 refine NK h fun i h1 h2=>?_
 have:=e i (by omega) (by omega)
 unfold g at this
 simpa [Ku,h1,h2] using this
def it (rs:List av):Nat->List Int->List Int
 | 0,ws=>ws
 | k+1,ws=>it rs k (bU rs ws)
theorem z3 (rs:List av): ∀k ws,it rs (k+1) ws=bU rs (it rs k ws)
 | 0,ws=>rfl
 | k+1,ws=>z3 rs k (bU rs ws)
theorem pH (rs:List av): ∀k ws,(it rs k ws).length=ws.length
 | 0,ws=>rfl
 | k+1,ws=>(pH rs k _).trans (f6 rs ws)
theorem uM {n:Nat}{rs:List av}(k: ∀r∈rs,N5 n r): ∀m ws,ws.length=n->Le n (g ws) (g (it rs m ws))
 | 0,ws,_=>fun _ _ _=>K2 _
 | m+1,ws,hl=>fun i h0 h1=>K9 (km rs ws k hl i h0 h1) (uM k m (bU rs ws) ((f6 rs ws).trans hl) i h0 h1)
theorem uT {n:Nat}{rs:List av}{f:Int->Int}(k: ∀r∈rs,N5 n r) (hf:Met rs f): ∀m ws,ws.length=n->Le n (g ws) f->Le n (g (it rs m ws)) f
 | 0,ws,_,h=>h
 | m+1,ws,hl,h=>uT k hf m (bU rs ws) ((f6 rs ws).trans hl) (kG rs ws k hl hf h)
def gap (n:Nat) (f:Int->Int) (ws:List Int):Nat:=((List.range n).map fun i=>(f (i:Nat) - g ws (i:Nat)).toNat).sum
theorem uJ: ∀(l:List Nat) (a b:Nat->Nat),(∀i∈l,a i<=b i)->(l.map a).sum<=(l.map b).sum
 | [],_,_,_=>Kn _
 | x::l,a,b,h=>by
  simp only[Lg,NA]
  have:=h x (Ky)
  have:=uJ l a b fun i hi=>h i (Kx _ hi)
  omega
theorem sJ: ∀(l:List Nat) (a b:Nat->Nat),(∀i∈l,a i<=b i)->(∃i∈l,a i < b i)->(l.map a).sum < (l.map b).sum
 | [],_,_,_,⟨_,h,_⟩=>by cases h
 | x::l,a,b,h,⟨i,hi,hl⟩=>by
  simp only[Lg,NA]
  have h1:=h x (Ky)
  have h2: ∀i∈l,a i<=b i:=fun i hi=>h i (Kx _ hi)
  rcases Ks.mp hi with rfl | hi
  .have:=uJ l a b h2
   omega
  .have:=sJ l a b h2 ⟨i,hi,hl⟩
   omega
theorem xR {n:Nat}{ws us:List Int}(h1:ws.length=n) (h2:us.length=n) (hne:ws≠us): ∃i:Nat,i < n/\g ws (i:Nat)≠g us (i:Nat):=by
 refine Lh fun c=>hne (EH (h1.trans h2.symm) fun i h0 hi=>?_)
 refine Lh fun d=>c ⟨i.toNat,by omega,?_⟩
 rw[show ((i.toNat:Nat):Int)=i by omega]
 exact d
theorem ends {n:Nat}{rs:List av}{f:Int->Int}(k: ∀r∈rs,N5 n r) (hf:Met rs f): ∀(m:Nat) (ws:List Int),ws.length=n->Le n (g ws) f->gap n f ws=m-> ∃N,bU rs (it rs N ws)=it rs N ws:=by
 intro m
 induction m using Nat.strongRecOn with
 | _ m ih =>
  intro ws hl h hm
  by_cases e:bU rs ws=ws
  .exact⟨0,e⟩
  .have hl':(bU rs ws).length=n:=(f6 rs ws).trans hl
   have hf':=kG rs ws k hl hf h
   have hup:=km rs ws k hl
   obtain⟨i,hi,hd⟩:=xR hl' hl e
   have lt:gap n f (bU rs ws) < gap n f ws:=by
    refine sJ _ _ _ (fun j hj=>?_) ⟨i,KU.mpr hi,?_⟩
    .have hj:=KU.mp hj
     have:=hup (j:Nat) (by omega) (by omega)
     omega
    .have:=hup (i:Nat) (by omega) (by omega)
     have:=hf' (i:Nat) (by omega) (by omega)
     have:=h (i:Nat) (by omega) (by omega)
     omega
   obtain⟨N,hN⟩:=ih _ (hm▸lt) (bU rs ws) hl' hf' rfl
   exact⟨N+1,hN⟩
theorem EO {n:Nat}{rs:List av}{ws0 ws L:List Int}(k: ∀r∈rs,N5 n r) (hl:ws.length=n) (hL:L.length=n) (h0:Le n (g ws0) (g ws)) (h1:Le n (g ws) (g L)) (hm:Met rs (g L))
  (least: ∀f,Le n (g ws0) f->Met rs f->Le n (g L) f) (hne:ws≠L): ∃i:Nat,i < n/\g ws (i:Nat) < g L (i:Nat)/\g (bU rs ws) (i:Nat)=g L (i:Nat):=by
 refine Lh fun c=>?_
 have c': ∀i:Int,0<=i->i < n->g ws i < g L i->g (bU rs ws) i < g L i:=fun i a b d=>by
  have up:=kG rs ws k hl hm h1 i a b
  have: ¬g (bU rs ws) i=g L i:=fun e=>c ⟨i.toNat,by omega,by rw[show ((i.toNat:Nat):Int)=i by omega]; exact⟨d,e⟩⟩
  omega
 let f:Int->Int:=fun i=>if g ws i < g L i then g L i - 1 else g L i
 have f_le: ∀i,f i<=g L i:=fun i=>by
  show (if g ws i < g L i then g L i - 1 else g L i)<=g L i
  split <;> omega
 have fm:Met rs f:=fun r hr=>by
  obtain⟨r1,r2,r3,r4,r5⟩:=k r hr
  have a1:=sx rs ws (g ws) k hl (fun _ _ _=>K2 _) r hr
  have a2:=hm r hr
  have hb:=fun (x:0<=r.2.1)=>h1 r.2.1 x r4
  have ho:=c' r.1 r1 r2
  show ask f r<=if g ws r.1 < g L r.1 then g L r.1 - 1 else g L r.1
  unfold ask at a1 a2 ⊢
  by_cases e:r.2.1= -1
  .rw[Ko e] at a1 a2 ⊢
   split <;> omega
  .rw[Kk e] at a1 a2 ⊢
   have hb:=hb (by omega)
   show (if g ws r.2.1 < g L r.2.1 then g L r.2.1 - 1 else g L r.2.1)+r.2.2<=_
   split <;> split <;> omega
 have f0:Le n (g ws0) f:=fun i a b=>by
  have:=h0 i a b
  have:=h1 i a b
  show _<=if g ws i < g L i then g L i - 1 else g L i
  split <;> omega
 obtain⟨i,hi,hd⟩:=xR hl hL hne
 have q:=least f f0 fm (i:Nat) (by omega) (by omega)
 have p:=h1 (i:Nat) (by omega) (by omega)
 have fe:f (i:Nat)=g L (i:Nat) - 1:=Ko (by omega)
 omega
theorem CO: ∀l:List Nat,(l.map fun _=>1).sum=l.length
 | []=>rfl
 | _::l=>by simp only[Lg,NA,KZ,CO l]; omega
theorem ones (n:Nat):((List.range n).map fun _=>1).sum=n:=(CO _).trans Lw
def cnt (n:Nat) (ws L:List Int):Nat:=((List.range n).map fun i=>if g ws (i:Nat)=g L (i:Nat) then 1 else 0).sum
theorem FA {n:Nat}{ws L:List Int}(h1:ws.length=n) (h2:L.length=n) (h:n<=cnt n ws L):ws=L:=by
 refine Lh fun hne=>?_
 obtain⟨i,hi,hd⟩:=xR h1 h2 hne
 have:=sJ (List.range n) (fun i=>if g ws (i:Nat)=g L (i:Nat) then 1 else 0) (fun _=>1) (fun i _=>by show (if _ then 1 else 0)<=1; split <;> omega) ⟨i,KU.mpr hi,by show (if _ then 1 else 0) < 1; rw[Kk hd]; omega⟩
 have e:((List.range n).map fun _=>1).sum=n:=ones n
 unfold cnt at h
 omega
theorem yw {n:Nat}{rs:List av}{ws:List Int}{f:Int->Int}(k: ∀r∈rs,N5 n r) (hl:ws.length=n) (hf:Met rs f) (h:Le n (g ws) f):bU rs (it rs n ws)=it rs n ws:=by
 obtain⟨N,hN⟩:=ends k hf _ ws hl h rfl
 have hLl:(it rs N ws).length=n:=(pH rs N ws).trans hl
 have hm:=jb k hLl hN
 have least: ∀f,Le n (g ws) f->Met rs f->Le n (g (it rs N ws)) f:=fun f a b=>uT k b N ws hl a
 have up:=uM k N ws hl
 generalize it rs N ws=L at hN hLl hm least up
 have main: ∀m,it rs m ws=L\/m<=cnt n (it rs m ws) L:=fun m=>by
  induction m with
  | zero=>exact .inr (Ln _)
  | succ m ih =>
   rw[z3]
   rcases ih with e | ih
   .rw[e]; exact .inl hN
   .by_cases e:it rs m ws=L
    .rw[e]; exact .inl hN
    .have hml:(it rs m ws).length=n:=(pH rs m ws).trans hl
     have hmL:=uT k hm m ws hl up
     obtain⟨i,hi,a,b⟩:=EO k hml hLl (uM k m ws hl) hmL hm least e
     have hrL:=kG rs (it rs m ws) k hml hm hmL
     have hru:=km rs (it rs m ws) k hml
     refine .inr (Lp ih (sJ _ _ _ (fun j hj=>?_) ⟨i,KU.mpr hi,?_⟩))
     .have hj:=KU.mp hj
      have:=hrL (j:Nat) (by omega) (by omega)
      have:=hru (j:Nat) (by omega) (by omega)
      split <;> split <;> omega
     .show (if _ then 1 else 0) < (if _ then 1 else 0)
      rw[Kk (by omega),Ko b]
      decide
 rcases main n with e | e
 .rw[e]; exact hN
 .rw[FA ((pH rs n ws).trans hl) hLl e]; exact hN
def loop (rs:List av):Nat->List Int->Option (List Int)
 | 0,_=>none
 | k+1,ws=>if bU rs ws=ws then some ws else loop rs k (bU rs ws)
def bA (n:Nat) (rs:List av):Option (List Int):=loop rs (n+1) (List.replicate n 0)
theorem wa {n:Nat}{rs:List av}(k: ∀r∈rs,N5 n r): ∀(m:Nat) (ws L:List Int),ws.length=n->loop rs m ws=some L->L.length=n/\Met rs (g L)/\Le n (g ws) (g L)/\ ∀f,Le n (g ws) f->Met rs f->Le n (g L) f
 | 0,ws,L,_,h=>by cases h
 | m+1,ws,L,hl,h=>by
  unfold loop at h
  split at h
  .rename_i e
   cases h
   exact⟨hl,jb k hl e,fun _ _ _=>K2 _,fun f a _=>a⟩
  .obtain⟨a,b,c,d⟩:=wa k m (bU rs ws) L ((f6 rs ws).trans hl) h
   exact⟨a,b,fun i h0 h1=>K9 (km rs ws k hl i h0 h1) (c i h0 h1),fun f p q=>d f (kG rs ws k hl q p) q⟩
theorem wJ (rs:List av): ∀(m:Nat) (ws:List Int),loop rs m ws=none-> ∀j,j < m->bU rs (it rs j ws)≠it rs j ws
 | 0,_,_,_,h=>absurd h (LC _)
 | m+1,ws,h,j,hj=>by
  unfold loop at h
  split at h
  .cases h
  .rename_i e
   cases j with
   | zero=>exact e
   | succ j=>exact wJ rs m (bU rs ws) h j (by omega)
theorem nZ {n:Nat}(i:Int):g (List.replicate n 0) i=0:=by
 unfold g
 rw[Ku,List.getElem?_replicate]
 split <;> rfl
theorem dz {n:Nat}{rs:List av}{L:List Int}(k: ∀r∈rs,N5 n r) (h:bA n rs=some L):L.length=n/\Met rs (g L)/\(∀i:Int,0<=i->i < n->0<=g L i)/\ ∀f:Int->Int,(∀i:Int,0<=i->i < n->0<=f i)->Met rs f->Le n (g L) f:=by
 obtain⟨a,b,c,d⟩:=wa k (n+1) _ L (by simp) h
 refine⟨a,b,fun i h0 h1=>?_,fun f p q=>d f (fun i h0 h1=>by rw[nZ]; exact p i h0 h1) q⟩
 have:=c i h0 h1
 rwa [nZ] at this
theorem sR {n:Nat}{rs:List av}{f:Int->Int}(k: ∀r∈rs,N5 n r) (h0: ∀i:Int,0<=i->i < n->0<=f i) (hf:Met rs f): ∃L,bA n rs=some L:=by
 cases e:bA n rs with
 | some L=>exact⟨L,rfl⟩
 | none=>exact absurd (yw k (by simp) hf fun i a b=>by rw[nZ]; exact h0 i a b) (wJ rs (n+1) _ e n (by omega))
end MA
namespace L2
open PySem PySem.Spec PyProof.Rows
def jX (K:NY) (H:Hp) (v:V) (q:MA.av):Prop:= ∃a,v= .ref a/\N1 K H a [.int q.1,.int q.2.1,.int q.2.2]
inductive cH (K:NY) (H:Hp):List V->List MA.av->Prop where
 | nil:cH K H [] []
 | cons {v q xs rs}:jX K H v q->cH K H xs rs->cH K H (v::xs) (q::rs)
def OD (K:NY) (H:Hp) (r:Addr) (rs:List MA.av):Prop:= ∃xs,NX K H r xs/\cH K H xs rs
def kM (K:NY) (H:Hp) (r:Addr) (rs:List MA.av):Prop:= ∃xs,H r=some (.lst xs)/\cH K H xs rs
section
variable {K:NY}{H H':Hp}{a l r:Addr}{xs ys:List V}{rs qs:List MA.av}{v:V}{q:MA.av}{o:HO}
theorem ai.js (e:ai H H') (h:N1 K H a xs):N1 K H' a xs:=by
 rcases h with (h | ⟨o,h⟩) | h
 .exact .inl (.inl (e _ _ h))
 .exact .inl (.inr ⟨o,e _ _ h⟩)
 .exact .inr h
theorem jX.same (e:ai H H') (h:jX K H v q):jX K H' v q:=by
 obtain⟨a,rfl,h⟩:=h
 exact⟨a,rfl,e.js h⟩
theorem cH.same (e:ai H H') (h:cH K H xs rs):cH K H' xs rs:=by
 induction h with
 | nil=>exact .nil
 | cons t _ ih=>exact .cons (t.same e) ih
theorem OD.same (e:ai H H') (h:OD K H r rs):OD K H' r rs:=by
 obtain⟨xs,a,b⟩:=h
 exact⟨xs,e.seq a,b.same e⟩
theorem kM.same (e:ai H H') (h:kM K H r rs):kM K H' r rs:=by
 obtain⟨xs,a,b⟩:=h
 exact⟨xs,e _ _ a,b.same e⟩
theorem kM.O5 (h:kM K H r rs):OD K H r rs:=by
 obtain⟨xs,a,b⟩:=h
 exact⟨xs,NX.of a,b⟩
def LN (H:Hp) (l:Addr):Prop:=H l=none\/ ∃ys,H l=some (.lst ys)
theorem LN.of (h:H l=some (.lst xs)):LN H l:= .inr ⟨_,h⟩
theorem LN.free (h:H l=none):LN H l:= .inl h
theorem Fz (n:LN H l) (h:N1 K H a xs):N1 K (upd H l o) a xs:=by
 have ne: ∀u,H a=some u->(∀ys,u≠ .lst ys)->a≠l:=fun u hu hn e=>by
  subst e
  rcases n with n | ⟨ys,n⟩
  .rw[n] at hu; cases hu
  .rw[n] at hu
   exact hn ys (KJ hu).symm
 rcases h with (h | ⟨o',h⟩) | h
 .exact .inl (.inl ((ao (ne _ h fun ys z=>by cases z)).trans h))
 .exact .inl (.inr ⟨o',(ao (ne _ h fun ys z=>by cases z)).trans h⟩)
 .exact .inr h
theorem jX.upd (n:LN H l) (h:jX K H v q):jX K (upd H l o) v q:=by
 obtain⟨a,rfl,h⟩:=h
 exact⟨a,rfl,Fz n h⟩
theorem cH.upd (n:LN H l) (h:cH K H xs rs):cH K (upd H l o) xs rs:=by
 induction h with
 | nil=>exact .nil
 | cons t _ ih=>exact .cons (t.upd n) ih
theorem cH.length (h:cH K H xs rs):xs.length=rs.length:=by
 induction h with
 | nil=>rfl
 | cons _ _ ih=>rw[KZ,KZ,ih]
theorem cH.append (h:cH K H xs rs) (k:cH K H ys qs):cH K H (xs++ys) (rs++qs):=by
 induction h with
 | nil=>exact k
 | cons t _ ih=>exact .cons t ih
theorem cH.one (h:jX K H v q):cH K H [v] [q]:= .cons h .nil
theorem cH.take (h:cH K H xs rs): ∀n,cH K H (xs.take n) (rs.take n):=by
 induction h with
 | nil=>intro n; rw[MY,MY]; exact .nil
 | cons t _ ih =>
  intro n
  cases n with
  | zero=>exact .nil
  | succ n=>rw[List.take_succ_cons,List.take_succ_cons]; exact .cons t (ih n)
theorem cH.drop (h:cH K H xs rs): ∀n,cH K H (xs.drop n) (rs.drop n):=by
 induction h with
 | nil=>intro n; rw[NB,NB]; exact .nil
 | cons t k ih =>
  intro n
  cases n with
  | zero=>exact .cons t k
  | succ n=>rw[List.drop_succ_cons,List.drop_succ_cons]; exact ih n
theorem cH.get (h:cH K H xs rs): ∀ {i:Nat},xs[i]?=some v-> ∃q,rs[i]?=some q/\jX K H v q:=by
 induction h with
 | nil=>intro i e; simp at e
 | cons t _ ih =>
  intro i e
  cases i with
  | zero=>simp at e; subst e; exact⟨_,rfl,t⟩
  | succ i=>exact ih (i:=i) (by simpa using e)
theorem cH.at (h:cH K H xs rs): ∀ {i:Nat},rs[i]?=some q-> ∃v,xs[i]?=some v/\jX K H v q:=by
 induction h with
 | nil=>intro i e; simp at e
 | cons t _ ih =>
  intro i e
  cases i with
  | zero=>simp at e; subst e; exact⟨_,rfl,t⟩
  | succ i=>exact ih (i:=i) (by simpa using e)
theorem kM.push {t:Addr}(h:kM K H l rs) (ht:H t=none) (e:H l=some (.lst xs)):kM K (L2.upd (L2.upd H t (.tup [.int q.1,.int q.2.1,.int q.2.2])) l (.lst (xs++[.ref t]))) l (rs++[q]):=by
 obtain⟨xs',a,b⟩:=h
 rw[e] at a
 cases a
 have hl:(L2.upd H t (.tup [.int q.1,.int q.2.1,.int q.2.2])) l=some (.lst xs):=(ao (aB e ht)).trans e
 exact⟨_,ag,((b.upd (.free ht)).upd (.of hl)).append (.one (jX.upd (.of hl) ⟨t,rfl,N1.of ag⟩))⟩
theorem ai.upd {p:Addr}(h:H p=none):ai H (L2.upd H p o):=fun b u hb=>by
 rw[ao (aB hb h)]
 exact hb
theorem ai.cN {u:HO}(s:ai H H') (h:H l=none):ai H (L2.upd H' l u):=fun b z hb=>by
 rw[ao (aB hb h)]
 exact s b z hb
theorem ai.IW {p q:Addr}{u:HO}(s:ai H H') (hp:H' p=none) (hq:H q=none):ai H (L2.upd (L2.upd H' p o) q u):=(s.trans (ai.upd hp)).cN hq
end
theorem cj {lo:Int}{n i:Nat}{x:V}(h:(cw lo n)[i]?=some x):i < n/\x= .int (lo+(i:Nat)):=by
 unfold cw at h
 rw[KD] at h
 cases e:(List.range n)[i]? with
 | none=>rw[e] at h; cases h
 | some j =>
  rw[e] at h
  have hi:i < n:=by
   have:=(Kv.mp e).1
   rwa [Lw] at this
  rw[List.getElem?_range hi] at e
  cases e
  exact⟨hi,(KJ h).symm⟩
theorem cL {lo:Int}{n:Nat}:(cw lo n).length=n:=by simp[cw]
theorem fv {ws:List Int}{i:Int}(h0:0<=i) (h1:i < ws.length):Ob (ws.map V.int) i=some (.int (MA.g ws i)):=by
 have hn:i.toNat < ws.length:=by omega
 have e:i=((i.toNat:Nat):Int):=by omega
 have h:=cm (xs:=ws.map V.int) (j:=i.toNat) (v:= .int (MA.g ws i)) (by simp[MA.g,hn])
 rwa [<-e] at h
theorem lK {n:Nat}{i:Int}(h0:0<=i) (h1:i < n):OS n i=some i.toNat:=by
 unfold OS
 rw[Ko h0,Ko h1]
end L2
namespace MA
abbrev Mt:=Nat->Nat->Int
def setM (M:Mt) (a b:Nat) (v:Int):Mt:=fun i j=>if i=a/\j=b then v else M i j
def OO (k a:Nat) (M:Mt) (b:Nat):Mt:=if 0<=M k b then setM M a b (mx (M a b) (M a k+M k b)) else M
def inner (n k a:Nat) (M:Mt):Mt:=(List.range n).foldl (OO k a) M
def mi (n k:Nat) (M:Mt) (a:Nat):Mt:=if M a k < 0 then M else inner n k a M
def mid (n:Nat) (M:Mt) (k:Nat):Mt:=(List.range n).foldl (mi n k) M
def OE (M:Mt) (q:av):Mt:=if 0<=q.2.1 then setM M q.2.1.toNat q.1.toNat (mx (M q.2.1.toNat q.1.toNat) q.2.2) else M
def xv (M:Mt) (k:Nat):Mt:=setM M k k 0
def M1 (n:Nat):Mt:=(List.range n).foldl xv (fun _ _=> -1)
def M2 (n:Nat) (rs:List av):Mt:=rs.foldl OE (M1 n)
def aP (n:Nat) (rs:List av):Mt:=(List.range n).foldl (mid n) (M2 n rs)
def pP (n:Nat) (rs:List av):Bool:=(List.range n).any fun k=>decide (0 < aP n rs k k)
theorem gu {α β:Type}(I:β->Prop) (f:β->α->β): ∀(l:List α) (x:β),I x->(∀y a,a∈l->I y->I (f y a))->I (l.foldl f x)
 | [],_,h,_=>h
 | a::l,x,h,hs=>gu I f l (f x a) (hs x a (Ky) h) fun y b hb=>hs y b (Kx _ hb)
def Sd (f:Int->Int) (M:Mt):Prop:= ∀i j:Nat,0<=M i j->f (i:Nat)+M i j<=f (j:Nat)
theorem Sd.set {f:Int->Int}{M:Mt}{a b:Nat}{v:Int}(h:Sd f M) (hv:0<=v->f (a:Nat)+v<=f (b:Nat)):Sd f (setM M a b v):=fun i j=>by
 unfold setM
 split
 .rename_i e; rw[e.1,e.2]; exact hv
 .exact h i j
theorem xk (i j:Int):mx i j=i\/mx i j=j:=by unfold mx; split <;> simp
theorem Sd.mid {n:Nat}{f:Int->Int}{M:Mt}{k:Nat}(h:Sd f M):Sd f (MA.mid n M k):=by
 refine gu (Sd f) _ _ _ h fun y a _ hy=>?_
 unfold mi
 split
 .exact hy
 .rename_i hk
  refine (gu (fun M=>Sd f M/\0<=M a k) _ _ _ ⟨hy,by omega⟩ fun z b _ hz=>?_).1
  unfold OO
  split
  .rename_i hb
   refine⟨hz.1.set fun hv=>?_,?_⟩
   .have h1:=hz.1 a k hz.2
    have h2:=hz.1 k b hb
    have h3:=hz.1 a b
    rcases xk (z a b) (z a k+z k b) with e | e <;> rw[e] at hv ⊢ <;> omega
   .unfold setM
    split
    .rename_i e
     have:=fY (z a b) (z a k+z k b)
     have e2:=e.2
     subst e2
     exact K9 hz.2 this
    .exact hz.2
  .exact hz
theorem lB {n:Nat}{rs:List av}{f:Int->Int}(k: ∀r∈rs,N5 n r) (hf:Met rs f):Sd f (aP n rs):=by
 have h1:Sd f (M1 n):=gu (Sd f) _ _ _ (fun i j h=>absurd h (by decide)) fun y a _ hy=>hy.set fun _=>by omega
 have h2:Sd f (M2 n rs):=gu (Sd f) _ _ _ h1 fun y q hq hy=>by
  unfold OE
  split
  .rename_i hb
   refine hy.set fun hv=>?_
   have m:=hf q hq
   have kq:=k q hq
   unfold ask at m
   rw[Kk (by omega)] at m
   have e1:((q.2.1.toNat:Nat):Int)=q.2.1:=by omega
   have e2:((q.1.toNat:Nat):Int)=q.1:=by have:=kq.1; omega
   have h3:=hy q.2.1.toNat q.1.toNat
   rw[e1,e2] at h3 ⊢
   rcases xk (y q.2.1.toNat q.1.toNat) q.2.2 with e | e <;> rw[e] at hv ⊢ <;> omega
  .exact hy
 exact gu (Sd f) _ _ _ h2 fun y a _ hy=>hy.mid
theorem BU {n:Nat}{rs:List av}(k: ∀r∈rs,N5 n r) (h:pP n rs=true) (f:Int->Int): ¬Met rs f:=fun hf=>by
 unfold pP at h
 rw[NJ] at h
 obtain⟨i,_,hi⟩:=h
 have hi:=KQ hi
 have:=lB k hf i i (by omega)
 omega
def Oq (M N:Mt):Prop:= ∀i j,M i j<=N i j
theorem Oq.refl (M:Mt):Oq M M:=fun _ _=>K2 _
theorem Oq.trans {M N O:Mt}(h:Oq M N) (k:Oq N O):Oq M O:=fun i j=>K9 (h i j) (k i j)
theorem Bq {M:Mt}{a b:Nat}{v:Int}:Oq M (setM M a b (mx (M a b) v)):=fun i j=>by
 unfold setM
 split
 .rename_i e; rw[e.1,e.2]; exact fY _ _
 .exact K2 _
theorem mR {α:Type}(f:Mt->α->Mt) (h: ∀M a,Oq M (f M a)) (l:List α) (M:Mt):Oq M (l.foldl f M):=gu (Oq M) f l M (Oq.refl M) fun y a _ hy=>hy.trans (h y a)
theorem CB {n k:Nat}(M:Mt):Oq M (mid n M k):=mR _ (fun M a=>by
 unfold mi
 split
 .exact Oq.refl M
 .refine mR _ (fun M b=>?_) _ M
  unfold OO
  split
  .exact Bq
  .exact Oq.refl M) _ M
theorem Ca (M:Mt) (q:av):Oq M (OE M q):=by
 unfold OE
 split
 .exact Bq
 .exact Oq.refl M
theorem zy: ∀(m k:Nat),k < m->(List.range m).foldl xv (fun _ _=> -1) k k=0
 | 0,k,h=>absurd h (LC _)
 | m+1,k,h=>by
  rw[LZ,LK]
  show setM ((List.range m).foldl xv (fun _ _=> -1)) m m 0 k k=0
  unfold setM
  split
  .rfl
  .exact zy m k (by omega)
def U (n k:Nat) (D:Mt):Mt:=fun i j=>if i < n/\j < n/\0<=D i k/\0<=D k j then mx (D i j) (D i k+D k j) else D i j
theorem EA {n k:Nat}{D:Mt}(h:D k k=0) (i:Nat):U n k D i k=D i k:=by
 unfold U
 split
 .rw[h,Int.add_zero]; unfold mx; split <;> omega
 .rfl
theorem Eu {n k:Nat}{D:Mt}(h:D k k=0) (j:Nat):U n k D k j=D k j:=by
 unfold U
 split
 .rw[h,Int.zero_add]; unfold mx; split <;> omega
 .rfl
theorem xQ {n k a:Nat}{D:Mt}(h:D k k=0) (ha:a < n) (hp:0<=D a k): ∀b,b<=n->(List.range b).foldl (OO k a) (fun i j=>if i < a then U n k D i j else D i j)=fun i j=>if i < a\/(i=a/\j < b) then U n k D i j else D i j
 | 0,_=>by
  funext i j
  simp
 | b+1,hb=>by
  rw[LZ,LK,xQ h ha hp b (by omega)]
  show OO k a (fun i j=>if i < a\/(i=a/\j < b) then U n k D i j else D i j) b=_
  have e1: ∀j,(fun i j=>if i < a\/(i=a/\j < b) then U n k D i j else D i j:Mt) k j=D k j:=fun j=>by
   show (if k < a\/(k=a/\j < b) then U n k D k j else D k j)=D k j
   split
   .exact Eu h j
   .rfl
  have e2:(fun i j=>if i < a\/(i=a/\j < b) then U n k D i j else D i j:Mt) a k=D a k:=by
   show (if a < a\/(a=a/\k < b) then U n k D a k else D a k)=D a k
   split
   .exact EA h a
   .rfl
  have e3:(fun i j=>if i < a\/(i=a/\j < b) then U n k D i j else D i j:Mt) a b=D a b:=by
   show (if a < a\/(a=a/\b < b) then U n k D a b else D a b)=D a b
   rw[Kk (by omega)]
  unfold OO
  rw[e1,e2,e3]
  funext i j
  by_cases hc:0<=D k b
  .rw[Ko hc]
   unfold setM
   by_cases e:i=a/\j=b
   .rw[Ko e,Ko (by omega),e.1,e.2]
    unfold U
    rw[Ko ⟨ha,by omega,hp,hc⟩]
   .rw[Kk e]
    show (if i < a\/(i=a/\j < b) then U n k D i j else D i j)=_
    by_cases e':i < a\/(i=a/\j < b)
    .rw[Ko e',Ko (by omega)]
    .rw[Kk e',Kk (by omega)]
  .rw[Kk hc]
   by_cases e':i < a\/(i=a/\j < b)
   .rw[Ko e',Ko (by omega)]
   .rw[Kk e']
    split
    .rename_i e''
     have:i=a/\j=b:=by omega
     rw[this.1,this.2]
     unfold U
     rw[Kk (fun z=>hc z.2.2.2)]
    .rfl
theorem BS {n k:Nat}{D:Mt}(h:D k k=0): ∀a,a<=n->(List.range a).foldl (mi n k) D=fun i j=>if i < a then U n k D i j else D i j
 | 0,_=>by
  funext i j
  simp
 | a+1,ha=>by
  rw[LZ,LK,BS h a (by omega)]
  show mi n k (fun i j=>if i < a then U n k D i j else D i j) a=_
  unfold mi
  have e:(fun i j=>if i < a then U n k D i j else D i j:Mt) a k=D a k:=Kk (LQ a)
  rw[e]
  by_cases hp:D a k < 0
  .rw[Ko hp]
   funext i j
   by_cases e1:i < a
   .rw[Ko e1,Ko (by omega)]
   .rw[Kk e1]
    split
    .have:i=a:=by omega
     rw[this]
     unfold U
     rw[Kk (fun z=>absurd z.2.2.1 (by omega))]
    .rfl
  .rw[Kk hp]
   show (List.range n).foldl (OO k a) _=_
   rw[xQ h (by omega) (by omega) n (Kn n)]
   funext i j
   by_cases e1:i < a
   .rw[Ko (.inl e1),Ko (by omega)]
   .by_cases e2:i=a
    .by_cases e3:j < n
     .rw[Ko (.inr ⟨e2,e3⟩),Ko (by omega)]
     .rw[Kk (by omega),Ko (by omega)]
      unfold U
      rw[Kk (fun z=>e3 z.2.1)]
    .rw[Kk (by omega),Kk (by omega)]
theorem HU {n k:Nat}{D:Mt}(h:D k k=0):mid n D k=U n k D:=by
 unfold mid
 rw[BS h n (Kn n)]
 funext i j
 split
 .rfl
 .rename_i e
  unfold U
  rw[Kk (fun z=>e z.1)]
def Cl (n k:Nat) (D:Mt):Prop:= ∀m,m < k-> ∀a b,a < n->b < n->0<=D a m->0<=D m b->D a m+D m b<=D a b
theorem Cl.step {n k:Nat}{D:Mt}(hk:k < n) (h:D k k=0) (c:Cl n k D):Cl n (k+1) (U n k D):=by
 have f1: ∀i j,D i j<=U n k D i j:=fun i j=>by
  unfold U
  split
  .exact fY _ _
  .exact K2 _
 have f2: ∀i j,i < n->j < n->0<=D i k->0<=D k j->D i k+D k j<=U n k D i j:=fun i j a b p q=>by
  unfold U
  rw[Ko ⟨a,b,p,q⟩]
  exact jz _ _
 have f3: ∀i j,U n k D i j=D i j\/(0<=D i k/\0<=D k j/\U n k D i j=D i k+D k j):=fun i j=>by
  unfold U
  split
  .rename_i z
   rcases xk (D i j) (D i k+D k j) with e | e
   .exact .inl e
   .exact .inr ⟨z.2.2.1,z.2.2.2,e⟩
  .exact .inl rfl
 intro m hm a b ha hb h1 h2
 by_cases e:m=k
 .subst e
  rw[EA h] at h1 ⊢
  rw[Eu h] at h2 ⊢
  exact f2 a b ha hb h1 h2
 .have hm:m < k:=by omega
  have hmn:m < n:=by omega
  have g1:=f1 a b
  have g2:=f2 a b ha hb
  rcases f3 a m with e1 | ⟨p1,p2,e1⟩ <;> rcases f3 m b with e2 | ⟨p3,p4,e2⟩ <;> rw[e1] at h1 ⊢ <;> rw[e2] at h2 ⊢
  .have:=c m hm a b ha hb h1 h2
   omega
  .have:=c m hm a k ha hk h1 p3
   have:=g2 (by omega) p4
   omega
  .have:=c m hm k b hk hb p2 h2
   have:=g2 p1 (by omega)
   omega
  .have:=c m hm k k hk hk p2 p3
   have:=g2 p1 p4
   omega
theorem qI {n:Nat}{rs:List av}(h: ∀k,k < n->aP n rs k k<=0):Oq (M2 n rs) (aP n rs)/\(∀k,k < n->aP n rs k k=0)/\Cl n n (aP n rs):=by
 have hup: ∀k,k<=n->Oq ((List.range k).foldl (mid n) (M2 n rs)) (aP n rs):=fun k hk=>by
  have e:List.range n=List.range k++(List.range (n - k)).map (k+ ·):=by
   have:=List.range_add (n:=k) (m:=n - k)
   rwa [show k+(n - k)=n by omega] at this
  unfold aP
  rw[e,LK]
  exact mR _ (fun M a=>CB M) _ _
 have hd0: ∀k,k < n->M1 n k k=0:=fun k hk=>zy n k hk
 have h12:Oq (M1 n) (M2 n rs):=mR _ Ca _ _
 have hd: ∀m,m<=n-> ∀k,k < n->(List.range m).foldl (mid n) (M2 n rs) k k=0:=fun m hm k hk=>by
  have a:=hup m hm k k
  have b:=h k hk
  have c:Oq (M2 n rs) ((List.range m).foldl (mid n) (M2 n rs)):=mR _ (fun M a=>CB M) _ _
  have:=c k k
  have:=h12 k k
  have:=hd0 k hk
  omega
 have cl: ∀m,m<=n->Cl n m ((List.range m).foldl (mid n) (M2 n rs)):=fun m=>by
  induction m with
  | zero=>intro _ m hm; exact absurd hm (LC _)
  | succ m ih =>
   intro hm
   rw[LZ,LK]
   show Cl n (m+1) (mid n _ m)
   rw[HU (hd m (by omega) m (by omega))]
   exact (ih (by omega)).step (by omega) (hd m (by omega) m (by omega))
 exact⟨hup 0 (Ln _),hd n (Kn n),cl n (Kn n)⟩
def big:List Nat->(Nat->Int)->Int
 | [],_=>0
 | i::l,f=>mx (big l f) (f i)
theorem Ax: ∀(l:List Nat) (f:Nat->Int),0<=big l f
 | [],_=>K2 _
 | i::l,f=>K9 (Ax l f) (fY _ _)
theorem Cv: ∀(l:List Nat) (f:Nat->Int),∀i∈l,f i<=big l f
 | [],_,_,h=>by cases h
 | j::l,f,i,h=>by
  rcases Ks.mp h with rfl | h
  .exact jz _ _
  .exact K9 (Cv l f i h) (fY _ _)
theorem CI: ∀(l:List Nat) (f:Nat->Int) (c:Int),0<=c->(∀i∈l,f i<=c)->big l f<=c
 | [],_,_,h,_=>h
 | j::l,f,c,h,k=>xr (CI l f c h fun i hi=>k i (Kx _ hi)) (k j (Ky))
theorem ug: ∀rs:List av,∃C:Int,0<=C/\ ∀r∈rs,r.2.2<=C
 | []=>⟨0,K2 _,fun r h=>by cases h⟩
 | r::rs=>by
  obtain⟨C,h0,h⟩:=ug rs
  refine⟨mx C r.2.2,K9 h0 (fY _ _),fun q hq=>?_⟩
  rcases Ks.mp hq with rfl | hq
  .exact jz _ _
  .exact K9 (h q hq) (fY _ _)
theorem sY {n:Nat}: ∀(rs:List av) (M:Mt) (q:av),q∈rs->0<=q.2.1->q.2.2<=rs.foldl OE M q.2.1.toNat q.1.toNat
 | [],_,_,h,_=>by cases h
 | r::rs,M,q,h,hb=>by
  rcases Ks.mp h with rfl | h
  .refine K9 ?_ (mR OE Ca rs (OE M q) _ _)
   unfold OE
   rw[Ko hb]
   unfold setM
   rw[Ko ⟨rfl,rfl⟩]
   exact jz _ _
  .exact sY (n:=n) rs (OE M r) q h hb
theorem yT {n:Nat}{rs:List av}(k: ∀r∈rs,N5 n r) (h:pP n rs=false): ∃f:Int->Int,(∀i,0<=f i)/\Met rs f:=by
 have hd: ∀k,k < n->aP n rs k k<=0:=fun i hi=>by
  unfold pP at h
  rw[NC] at h
  have:=h i (KU.mpr hi)
  have: ¬ 0 < aP n rs i i:=fun z=>this (KI z)
  omega
 obtain⟨up,dg,cl⟩:=qI hd
 obtain⟨C,c0,hC⟩:=ug rs
 refine⟨fun v=>C+big (List.range n) fun u=>aP n rs u v.toNat,fun v=>?_,fun r hr=>?_⟩
 .have:=Ax (List.range n) fun u=>aP n rs u v.toNat
  show 0<=C+_
  omega
 .obtain⟨r1,r2,r3,r4,r5⟩:=k r hr
  have hCr:=hC r hr
  have hb0:=Ax (List.range n) fun u=>aP n rs u r.1.toNat
  unfold ask
  show (if r.2.1= -1 then r.2.2 else C+big (List.range n) (fun u=>aP n rs u r.2.1.toNat)+r.2.2)<=C+big (List.range n) (fun u=>aP n rs u r.1.toNat)
  by_cases e:r.2.1= -1
  .rw[Ko e]
   omega
  .rw[Kk e]
   have hl:r.2.2<=aP n rs r.2.1.toNat r.1.toNat:=K9 (sY (n:=n) rs (M1 n) r hr (by omega)) (up _ _)
   have t1:=Cv (List.range n) (fun u=>aP n rs u r.1.toNat)
   have t2:big (List.range n) (fun u=>aP n rs u r.2.1.toNat)<=big (List.range n) (fun u=>aP n rs u r.1.toNat) - r.2.2:=by
    refine CI _ _ _ ?_ fun u hu=>?_
    .have:=t1 r.2.1.toNat (KU.mpr (by omega))
     have:aP n rs r.2.1.toNat r.1.toNat<=_:=this
     omega
    .have hu':=KU.mp hu
     have:aP n rs r.2.1.toNat r.1.toNat<=_:=t1 r.2.1.toNat (KU.mpr (by omega))
     have:aP n rs u r.1.toNat<=_:=t1 u hu
     show aP n rs u r.2.1.toNat<=_
     by_cases hp:0<=aP n rs u r.2.1.toNat
     .have:=cl r.2.1.toNat (by omega) u r.1.toNat hu' (by omega) hp (by omega)
      omega
     .omega
   omega
end MA
namespace L2
open PySem PySem.Spec PyProof.Rows
theorem Ar {lo:Int}{n:Nat}{te:TE}{own:List Str}{fr:List Nat}{σ:St}{H:Hp}{Q:VK}(Pv:Nat->List V->Hp->Prop) (h0:Pv 0 [] H) (hz:n < sizeLine) (hlen: ∀i ys H,Pv i ys H->ys.length=i)
  (hs: ∀i ys H2,i < n->Pv i ys H2->te ((cR own fr σ).set 0 (some (.int (lo+(i:Nat))))) H2 fun y H6=>Pv (i+1) (ys++[y]) H6)
  (hq: ∀ys H2 p,Pv n ys H2->H2 p=none->Q (.ref p) (upd H2 p (.lst ys))):mO (Pa lo n) (aY 0) gN te own fr σ H Q:=by
 refine⟨fun i m ys H2=>i<=n/\m=n - i/\Pv i ys H2,⟨n,Ln _,rfl,h0⟩,?_⟩
 rintro i m ys H2 ⟨hi,rfl,hp⟩
 by_cases hlt:i < n
 .refine .inr ⟨hlt,by rw[hlen i ys H2 hp]; omega,fun x H3 hy=>?_⟩
  obtain⟨rfl,rfl⟩:=hy
  have:=hs i ys H3 hlt hp
  have e:(te ((cR own fr σ).set 0 (some (.int (lo+(i:Nat))))) H3 fun y H6=> ∃m',m' < n - i/\i+1<=n/\m'=n - (i+1)/\Pv (i+1) (ys++[y]) H6)=te ((cR own fr σ).set 0 (some (.int (lo+(i:Nat))))) H3 fun y H6=>Pv (i+1) (ys++[y]) H6:=by
   congr 1
   funext y H6
   exact propext ⟨fun⟨_,_,_,_,z⟩=>z,fun z=>⟨n - (i+1),by omega,hlt,rfl,z⟩⟩
  rw[<-e] at this
  exact this
 .have e:i=n:=by omega
  subst e
  exact .inl ⟨Kn _,by rw[hlen _ ys H2 hp]; omega,fun p np=>hq ys H2 p hp np⟩
def iV (n:Nat) (M:MA.Mt) (i:Nat):List V:=(List.range n).map fun j=>V.int (M i j)
theorem kR {n:Nat}{M:MA.Mt}{i:Nat}:(iV n M i).length=n:=by simp[iV]
structure Ot (H0 H:Hp) (n:Nat) (p:Addr) (ds:List Addr) (M:MA.Mt):Prop where
 top:H p=some (.lst (ds.map V.ref))
 len:ds.length=n
 nd:ds.Nodup
 np:p∉ds
 row: ∀i d,ds[i]?=some d->H d=some (.lst (iV n M i))
 sm:ai H0 H
 fp:H0 p=none
 fd: ∀d∈ds,H0 d=none
section
variable {H0 H:Hp}{n:Nat}{p:Addr}{ds:List Addr}{M:MA.Mt}
theorem Ot.at (m:Ot H0 H n p ds M){a:Int}(h0:0<=a) (h1:a < n): ∃d,ds[a.toNat]?=some d/\Ob (ds.map V.ref) a=some (.ref d)/\H d=some (.lst (iV n M a.toNat)):=by
 have hn:a.toNat < ds.length:=by rw[m.len]; omega
 refine⟨ds[a.toNat],Kl hn,?_,m.row _ _ (Kl hn)⟩
 have e:a=((a.toNat:Nat):Int):=by omega
 have h:=cm (xs:=ds.map V.ref) (j:=a.toNat) (v:= .ref ds[a.toNat]) (by simp[hn])
 rwa [<-e] at h
theorem mT {i:Nat}{b:Int}(h0:0<=b) (h1:b < n):Ob (iV n M i) b=some (.int (M i b.toNat)):=by
 have e:b=((b.toNat:Nat):Int):=by omega
 have h:=cm (xs:=iV n M i) (j:=b.toNat) (v:= .int (M i b.toNat)) (by
  have:b.toNat < n:=by omega
  simp[iV,this])
 rwa [<-e] at h
theorem DP {a b:Nat}{v:Int}(hb:b < n):(iV n M a).set b (.int v)=iV n (MA.setM M a b v) a:=by
 refine NK (by rw[Mg,kR,kR]) fun j h1 h2=>?_
 rw[kR] at h2
 rw[List.getElem_set]
 by_cases e:b=j
 .rw[Ko e]
  simp only[iV,List.getElem_map,List.getElem_range,MA.setM]
  rw[Ko ⟨trivial,e.symm⟩]
 .rw[Kk e]
  simp only[iV,List.getElem_map,List.getElem_range,MA.setM]
  rw[Kk (fun z=>e z.2.symm)]
theorem EM {a b i:Nat}{v:Int}(h:i≠a):iV n (MA.setM M a b v) i=iV n M i:=by
 unfold iV
 refine MN fun j _=>?_
 unfold MA.setM
 rw[Kk (fun z=>h z.1)]
theorem Ot.put (m:Ot H0 H n p ds M){a b:Nat}{d:Addr}{v:Int}(hd:ds[a]?=some d) (hb:b < n):Ot H0 (upd H d (.lst ((iV n M a).set b (.int v)))) n p ds (MA.setM M a b v):=by
 have hmem:d∈ds:=Kp hd
 refine⟨?_,m.len,m.nd,m.np,fun i e he=>?_,m.sm.cN (m.fd d hmem),m.fp,m.fd⟩
 .rw[ao (show p≠d from fun z=>m.np (by rw[z]; exact hmem))]
  exact m.top
 .by_cases q:i=a
  .subst q
   rw[hd] at he
   cases he
   rw[ag,DP hb]
  .have ne:e≠d:=fun z=>by
    subst z
    obtain⟨h1,e1⟩:=Kv.mp hd
    obtain⟨h2,e2⟩:=Kv.mp he
    exact q ((List.getElem_inj m.nd).mp (e2.trans e1.symm))
   rw[ao ne,EM q]
   exact m.row i e he
theorem Ot.grow {ys:List V}{H2:Hp}{p:Addr}(ds:List Addr) (e:ys=ds.map V.ref) (hl:ds.length=n) (nd:ds.Nodup) (hr: ∀d∈ds,H2 d=some (.lst (List.replicate n (V.int (-1))))/\H0 d=none) (sm:ai H0 H2) (hp:H2 p=none) :
  Ot H0 (upd H2 p (.lst ys)) n p ds (fun _ _=> -1):=by
 have ne: ∀d∈ds,d≠p:=fun d hd=>aB (hr d hd).1 hp
 refine⟨by rw[ag,e],hl,nd,fun z=>ne p z rfl,fun i d hi=>?_,sm.trans (ai.upd hp),sm.free hp,fun d hd=>(hr d hd).2⟩
 have hd:=Kp hi
 rw[ao (ne d hd),(hr d hd).1]
 congr 2
 unfold iV
 rw[List.map_const',Lw]
end
theorem dW {α:Type}(f:α->Nat->α) (x:α) (i:Nat):(List.range (i+1)).foldl f x=f ((List.range i).foldl f x) i:=by
 rw[LZ,LK]
 rfl
theorem foldl_take_succ {α β:Type}(f:α->β->α) (x:α){l:List β}{i:Nat}{b:β}(h:l[i]?=some b):(l.take (i+1)).foldl f x=f ((l.take i).foldl f x) b:=by
 rw[La,h,LK]
 rfl
def NT (o:HO):Prop:= ∀ps,o≠ .tbl ps
structure JX (H H':Hp):Prop where
 nt: ∀b o,H b=some o->NT o->H' b=some o
 tb: ∀b ps,H b=some (.tbl ps)-> ∃ps',H' b=some (.tbl ps')
section
variable {K:NY}{H H' H2:Hp}{a l r:Addr}{xs ys:List V}{rs qs:List MA.av}{v:V}{q:MA.av}{o:HO}
end
def aX (is:List Nat):List V:=is.map fun i=>V.int (i:Nat)
theorem zE {is:List Nat}{k:Int}(h0:0<=k) (h1:k < is.length):Ob (aX is) k=some (.int (is.getD k.toNat 0:Nat)):=by
 have hn:k.toNat < is.length:=by omega
 have e:k=((k.toNat:Nat):Int):=by omega
 have h:=cm (xs:=aX is) (j:=k.toNat) (v:= .int (is.getD k.toNat 0:Nat)) (by simp[aX,hn])
 rwa [<-e] at h
end L2
namespace MA
end MA
namespace L2
open PySem PySem.Spec PyProof.Rows
section
variable {κ:Type} [DecidableEq κ]
def aV (kvs:List (κ×V)) (k:κ):Option V:=(kvs.find? fun kv=>decide (kv.1=k)).map (·.2)
def putK (kvs:List (κ×V)) (k:κ) (v:V):List (κ×V) :=
 if (kvs.any fun kv=>decide (kv.1=k))=true then kvs.map (fun kv=>if kv.1=k then (kv.1,v) else kv) else kvs++[(k,v)]
def gv (kvs:List (κ×V)) (k:κ):List (κ×V):=kvs.filter fun kv=>decide (kv.1≠k)
theorem Dd {k:κ}:aV ([]:List (κ×V)) k=none:=rfl
theorem dj {p:κ×V}{r:List (κ×V)}{k:κ}(e:p.1=k):aV (p::r) k=some p.2:=by simp[aV,Mx,e]
theorem cT {p:κ×V}{r:List (κ×V)}{k:κ}(e: ¬p.1=k):aV (p::r) k=aV r k:=by simp[aV,Mx,e]
theorem nP (k:κ): ∀kvs:List (κ×V),(kvs.any fun kv=>decide (kv.1=k))=(aV kvs k).isSome
 | []=>rfl
 | p::r=>by
  rw[LR]
  by_cases e:p.1=k
  .simp only[dj e,KI e,Bool.true_or,Option.isSome_some]
  .rw[cT e,KH e,Bool.false_or]; exact nP k r
theorem yG (k j:κ) (y:V): ∀kvs:List (κ×V),aV (kvs.map fun kv=>if kv.1=k then (kv.1,y) else kv) j=(aV kvs j).map fun x=>if j=k then y else x
 | []=>rfl
 | p::r=>by
  have ih:=yG k j y r
  rw[Lg]
  by_cases h:p.1=k
  .rw[Ko h]
   by_cases e:p.1=j
   .rw[dj (p:=(p.1,y)) e,dj e,Nb,Ko (e.symm.trans h)]
   .rw[cT (p:=(p.1,y)) e,cT e,ih]
  .rw[Kk h]
   by_cases e:p.1=j
   .rw[dj (p:=p) e,dj e,Nb,Kk (fun z=>h (e.trans z))]
   .rw[cT (p:=p) e,cT e,ih]
theorem wz (k j:κ) (y:V): ∀kvs:List (κ×V),aV kvs k=none->aV (kvs++[(k,y)]) j=if j=k then some y else aV kvs j
 | [],_=>by
  by_cases e:k=j
  .rw[Ko e.symm]; exact dj (p:=(k,y)) e
  .rw[Kk (fun z=>e z.symm)]; exact cT (p:=(k,y)) e
 | p::r,hn=>by
  rw[NM]
  have hk: ¬p.1=k:=fun z=>by rw[dj z] at hn; cases hn
  rw[cT hk] at hn
  have ih:=wz k j y r hn
  by_cases e:p.1=j
  .rw[dj e,dj e,Kk (fun z=>hk (e.trans z))]
  .rw[cT e,cT e,ih]
theorem nU (kvs:List (κ×V)) (k j:κ) (y:V):aV (putK kvs k y) j=if j=k then some y else aV kvs j:=by
 unfold putK
 by_cases a:(kvs.any fun kv=>decide (kv.1=k))=true
 .rw[Ko a,yG]
  rw[nP] at a
  by_cases e:j=k
  .obtain⟨x,hx⟩:=LY.mp a
   rw[Ko e,e,hx,Nb,Ko rfl]
  .rw[Kk e]
   cases aV kvs j with
   | none=>rfl
   | some x=>rw[Nb,Kk e]
 .rw[Kk a]
  refine wz k j y kvs ?_
  rw[nP] at a
  cases q:aV kvs k with
  | none=>rfl
  | some x=>rw[q] at a; exact (a rfl).elim
theorem i6 (kvs:List (κ×V)) (k:κ) (v:V):(putK kvs k v).length<=kvs.length+1:=by
 unfold putK
 split
 .rw[Kj]; omega
 .rw[Kr,KZ,My]; omega
theorem xE {kvs:List (κ×V)}{k:κ}(v:V) (h:aV kvs k=none):putK kvs k v=kvs++[(k,v)]:=by
 unfold putK
 rw[nP,h]
 exact Kk (by decide)
theorem f9.jB {o:Option V}{u:Option Value}(r:f9 o u):o.isSome=u.isSome:=by
 cases o with
 | none=>cases u with
  | none=>rfl
  | some _=>exact (show False from r).elim
 | some _=>cases u with
  | none=>exact (show False from r).elim
  | some _=>rfl
theorem f9.getD {o:Option V}{u:Option Value}{d:V}{d':Value}(r:f9 o u) (rd:RelV d d'):RelV (o.getD d) (u.getD d'):=by
 cases o with
 | none=>cases u with
  | none=>exact rd
  | some _=>exact (show False from r).elim
 | some _=>cases u with
  | none=>exact (show False from r).elim
  | some _=>exact r
theorem KV.val {kvs:List (κ×V)}{vs:List (κ×Value)}(r:KV kvs vs) (k:κ):f9 (aV kvs k) (valueAt vs k):=by
 unfold KV at r
 induction r with
 | nil=>exact True.intro
 | @cons p q ps qs h t ih =>
  obtain⟨h1,h2⟩:=h
  by_cases e:p.1=k
  .have e':q.1=k:=h1.symm.trans e
   have b:valueAt (q::qs) k=some q.2:=by simp[valueAt,Mx,e']
   rw[dj e,b]; exact h2
  .have e': ¬q.1=k:=fun z=>e (h1.trans z)
   have b:valueAt (q::qs) k=valueAt qs k:=by simp[valueAt,Mx,e']
   rw[cT e,b]; exact ih
theorem KV.any {kvs:List (κ×V)}{vs:List (κ×Value)}(r:KV kvs vs) (k:κ):(kvs.any fun kv=>decide (kv.1=k))=vs.any fun kv=>decide (kv.1=k):=by
 unfold KV at r
 induction r with
 | nil=>rfl
 | cons h t ih=>rw[LR,LR,ih,h.1]
theorem KV.Dk {kvs:List (κ×V)}{vs:List (κ×Value)}(r:KV kvs vs) (k:κ){y:V}{u:Value}(ry:RelV y u) :
  KV (kvs.map fun kv=>if kv.1=k then (kv.1,y) else kv) (vs.map fun kv=>if kv.1=k then (kv.1,u) else kv):=by
 unfold KV at r ⊢
 induction r with
 | nil=>exact .nil
 | @cons p q ps qs h t ih =>
  rw[Lg,Lg]
  refine .cons ?_ ih
  obtain⟨h1,h2⟩:=h
  by_cases e:p.1=k
  .rw[Ko e,Ko (h1.symm.trans e)]; exact⟨h1,ry⟩
  .rw[Kk e,Kk (fun z=>e (h1.trans z))]; exact⟨h1,h2⟩
theorem KV.put {kvs:List (κ×V)}{vs:List (κ×Value)}(r:KV kvs vs) (k:κ){y:V}{u:Value}(ry:RelV y u):KV (putK kvs k y) (stored vs k u):=by
 unfold putK stored
 rw[r.any k]
 by_cases e:(vs.any fun kv=>decide (kv.1=k))=true
 .rw[Ko e,Ko e]; exact r.Dk k ry
 .rw[Kk e,Kk e]; exact Paired.snoc r ⟨rfl,ry⟩
theorem KV.drop {kvs:List (κ×V)}{vs:List (κ×Value)}(r:KV kvs vs) (k:κ):KV (gv kvs k) (without vs k):=by
 unfold KV at r ⊢
 unfold gv without
 induction r with
 | nil=>exact .nil
 | @cons p q ps qs h t ih =>
  obtain⟨h1,h2⟩:=h
  rw[L5,L5]
  by_cases e:p.1=k
  .have a: ¬decide (p.1≠k)=true:=by simp[e]
   have b: ¬decide (q.1≠k)=true:=by simp[h1.symm.trans e]
   rw[Kk a,Kk b]; exact ih
  .have e': ¬q.1=k:=fun z=>e (h1.trans z)
   have a:decide (p.1≠k)=true:=by simp[e]
   have b:decide (q.1≠k)=true:=by simp[e']
   rw[Ko a,Ko b]; exact .cons ⟨h1,h2⟩ ih
theorem KV.length {kvs:List (κ×V)}{vs:List (κ×Value)}(r:KV kvs vs):kvs.length=vs.length:=Nv r
theorem qf (kvs:List (κ×V)) (k:κ):(gv kvs k).length<=kvs.length:=Ll _ _
end
theorem mJ {P:Program}{w:World}{k:Key}{u:Value}(r:RelV (kV k) u):(cF P w).is k u=true:=by
 cases k with
 | inl i=>obtain⟨t,e⟩:=(show ∃t,u=Value.int i t from r); subst e; exact y6 P w i t
 | inr x=>obtain⟨t,e⟩:=(show ∃t,u=Value.str x t from r); subst e; exact yM P w x t
theorem wK {P:Program}{w:World}: ∀ {ks:List Key}{us:List Value},Vals (ks.map kV) us->ItemsAre (cF P w) ks us
 | [],_,r=>by rw[M9] at r; cases r; exact .nil
 | k::ks,_,r=>by
  rw[Lg] at r
  cases r with
  | cons h t=>exact .cons (mJ h) (wK t)
abbrev KT (H:Hp):List (List Key×V)->List (List Key×Addr×Value)->Prop:=Paired fun p q=>p.1=q.1/\H q.2.1=some (.tup (p.1.map kV))/\RelV p.2 q.2.2
theorem KT.val {H:Hp}{kvs:List (List Key×V)}{xs:List (List Key×Addr×Value)}(r:KT H kvs xs) (k:List Key):f9 (aV kvs k) ((atKey xs k).map (·.2)):=by
 induction r with
 | nil=>exact True.intro
 | @cons p q ps qs h t ih =>
  obtain⟨h1,_,h2⟩:=h
  by_cases e:p.1=k
  .have e':q.1=k:=h1.symm.trans e
   have b:atKey (q::qs) k=some q.2:=by simp[atKey,Mx,e']
   rw[dj e,b]; exact h2
  .have e': ¬q.1=k:=fun z=>e (h1.trans z)
   have b:atKey (q::qs) k=atKey qs k:=by simp[atKey,Mx,e']
   rw[cT e,b]; exact ih
theorem KT.Dk {H:Hp}{kvs:List (List Key×V)}{xs:List (List Key×Addr×Value)}(r:KT H kvs xs) (k:List Key){y:V}{u:Value}(ry:RelV y u) :
  KT H (kvs.map fun kv=>if kv.1=k then (kv.1,y) else kv) (xs.map (putAt k u)):=by
 induction r with
 | nil=>exact .nil
 | @cons p q ps qs h t ih =>
  rw[Lg,Lg]
  refine .cons ?_ ih
  obtain⟨h1,h2,h3⟩:=h
  unfold putAt
  by_cases e:p.1=k
  .rw[Ko e,Ko (h1.symm.trans e)]; exact⟨h1,h2,ry⟩
  .rw[Kk e,Kk (fun z=>e (h1.trans z))]; exact⟨h1,h2,h3⟩
theorem KT.put {H:Hp}{kvs:List (List Key×V)}{xs:List (List Key×Addr×Value)}(r:KT H kvs xs) (k:List Key){b:Addr}{y:V}{u:Value}(hb:H b=some (.tup (k.map kV))) (ry:RelV y u) :
  KT H (putK kvs k y) (storedH xs k b u):=by
 have e:(kvs.any fun kv=>decide (kv.1=k))=(atKey xs k).isSome:=by
  rw[nP,(r.val k).jB,ND]
 unfold putK storedH
 rw[e]
 by_cases q:(atKey xs k).isSome=true
 .rw[Ko q,Ko q]; exact r.Dk k ry
 .rw[Kk q,Kk q]; exact Paired.snoc r ⟨rfl,hb,ry⟩
theorem KT.keeps {H H':Hp}{kvs:List (List Key×V)}{xs:List (List Key×Addr×Value)}(r:KT H kvs xs) (ht: ∀b ys,H b=some (.tup ys)->H' b=some (.tup ys)):KT H' kvs xs :=
 Paired.DD r fun _ _ z=>⟨z.1,ht _ _ z.2.1,z.2.2⟩
section
variable {P:Program}{w:World}{H:Hp}{h:Heap}{a:Addr}
theorem EE {u:HO}(ok:Oe P w H h) (e:Rd H a u):dt P w H h a u:=e.ok ok
theorem ot {kvs:List (Key×V)}(ok:Oe P w H h) (e:Rd H a (.dK kvs)):kvs.length<=sizeLine/\(a == sysModules)=false/\ ∃vs,KV kvs vs/\h.DictOf (cF P w) a vs :=
 show dt P w H h a (.dK kvs) from EE ok e
theorem xh {kvs:List (Key×V)}(ok:Oe P w H h) (e:H a=some (.dK kvs)):kvs.length<=sizeLine/\(a == sysModules)=false/\ ∃vs,KV kvs vs/\h.DictOf (cF P w) a vs:=ot ok (.inl e)
theorem pS {ks:List Key}(ok:Oe P w H h) (e:H a=some (.tup (ks.map kV))):(tupleKind (cF P w)).is h ks a:=by
 obtain⟨_,its,r,o,h1,h2,n,h3⟩:=(show dt P w H h a (.tup (ks.map kV)) from ok a _ e)
 exact⟨o,its.toArray,n,h1,h2,h3,by simpa using wK r⟩
theorem qD {kvs:List (List Key×V)}(ok:Oe P w H h) (e:Rd H a (.dT kvs)):kvs.length<=sizeLine/\(a == sysModules)=false /\
  ∃xs,KT H kvs xs/\h.DictOfH (tupleKind (cF P w)) a xs:=by
 obtain⟨z,y,xs,r,o,es,ep,h1,h2,h3,h4,h5⟩:=(show dt P w H h a (.dT kvs) from EE ok e)
 refine⟨z,y,xs,r,o,es,ep,h1,h2,h3,h4,fun x hx=>?_,h5⟩
 have all: ∀ {l:List (List Key×V)}{m:List (List Key×Addr×Value)},KT H l m-> ∀x∈m,(tupleKind (cF P w)).is h x.1 x.2.1:=by
  intro l m q
  induction q with
  | nil=>intro x hx; exact nomatch hx
  | @cons p q ps qs hq t ih =>
   intro x hx
   rcases Ks.mp hx with e | hx
   .subst e
    exact pS ok (by rw[<-hq.1]; exact hq.2.1)
   .exact ih x hx
 exact all r x hx
theorem IJ {kvs:List (List Key×V)}(ok:Oe P w H h) (e:H a=some (.dT kvs)):kvs.length<=sizeLine/\(a == sysModules)=false /\
  ∃xs,KT H kvs xs/\h.DictOfH (tupleKind (cF P w)) a xs:=qD ok (.inl e)
end
def dw (H:Hp) (a:Addr) (y:V) (r:Option V):Prop :=
 (∃kvs k,Rd H a (.dK kvs)/\y=kV k/\r=aV kvs k)\/ ∃kvs k b,Rd H a (.dT kvs)/\y= .ref b/\H b=some (.tup (k.map kV))/\r=aV kvs k
def rZ (H:Hp) (a:Addr) (y v:V) (H':Hp):Prop :=
 (∃kvs k,H a=some (.dK kvs)/\y=kV k/\kvs.length < sizeLine/\H'=upd H a (.dK (putK kvs k v))) \/
 ∃kvs k b,H a=some (.dT kvs)/\y= .ref b/\H b=some (.tup (k.map kV))/\kvs.length < sizeLine/\H'=upd H a (.dT (putK kvs k v))
theorem dw.k {H:Hp}{a:Addr}{kvs:List (Key×V)}{k:Key}(e:H a=some (.dK kvs)):dw H a (kV k) (aV kvs k):= .inl ⟨kvs,k,.inl e,rfl,rfl⟩
theorem rZ.k {H:Hp}{a:Addr}{kvs:List (Key×V)}{k:Key}{v:V}(e:H a=some (.dK kvs)) (hl:kvs.length < sizeLine):rZ H a (kV k) v (upd H a (.dK (putK kvs k v))):= .inl ⟨kvs,k,e,rfl,hl,rfl⟩
section
variable {X:Cx}{NV:List (Addr×Obj)}{σ:St}{H:Hp}{s:Shared}{a:Addr}{y v:V}{u r:Value}{o:Option V}{A:Around}{E:Value->Shared->Prop}
theorem Inv.big (I:Inv X NV σ H s):sysModules < s.heap.objs.size:=by
 have h:mainGlobals < s.heap.objs.size:=(I.mod.glob.keeps I.bk).lt
 exact Nat.lt_trans (by decide) h
theorem Cf {Q:Value->Shared->Prop}(hu:A.units+1 < cLine) (I:Inv X NV σ H s) (g:dw H a y (some v)) (ry:RelV y u) (h: ∀w' s',Inv X NV σ H s'->RelV v w'->Q w' s') :
  wpAny (model X.prog X.w) A (getItem (.ref a) u) Q E s:=by
 rcases g with⟨kvs,k,e,ey,l⟩ | ⟨kvs,k,b,e,ey,eb,l⟩
 .subst ey
  obtain⟨z,hd,vs,rel,dd⟩:=ot I.hok e
  obtain⟨w',hw,rw'⟩:=f9.some_of (v:=v) (o:=valueAt vs k) (by rw[l]; exact rel.val k)
  exact wpAny_getItem_of (mJ ry) dd.mapOf hw (h w' _ (I.tok _) rw')
 .subst ey
  cases (show u=Value.ref b from ry)
  obtain⟨z,hd,xs,rel,dd⟩:=qD I.hok e
  obtain⟨w',hw,rw'⟩:=f9.some_of (v:=v) (o:=(atKey xs k).map (·.2)) (by rw[l]; exact rel.val k)
  obtain⟨p,hp,hp2⟩:=Option.map_eq_some_iff.mp hw
  refine wpAny_getItem_heap (Mz hu) (pS I.hok eb) dd hp ?_
  rw[hp2]
  exact h w' _ (I.tok _) rw'
theorem Jy {Q:Value->Shared->Prop}(hu:A.units+1 < cLine) (I:Inv X NV σ H s) (g:dw H a y o) (ry:RelV y u) (h: ∀s',Inv X NV σ H s'->Q (.bool o.isSome) s') :
  wpAny (model X.prog X.w) A (compareOp .In u (.ref a)) Q E s:=by
 rcases g with⟨kvs,k,e,ey,l⟩ | ⟨kvs,k,b,e,ey,eb,l⟩
 .subst ey
  obtain⟨z,hd,vs,rel,dd⟩:=ot I.hok e
  refine wpAny_in_of (mJ ry) hd dd.mapOf ?_
  rw[<-(rel.val k).jB,<-l]
  exact h _ (I.tok _)
 .subst ey
  cases (show u=Value.ref b from ry)
  obtain⟨z,hd,xs,rel,dd⟩:=qD I.hok e
  refine wpAny_in_heap (Mz hu) (pS I.hok eb) hd dd ?_
  have q:=(rel.val k).jB
  rw[ND] at q
  rw[<-q,<-l]
  exact h _ (I.tok _)
theorem F6 {Q:Value->Shared->Prop}(hu:A.units+1 < cLine) (I:Inv X NV σ H s) (g:dw H a y o) (ry:RelV y u) (h: ∀s',Inv X NV σ H s'->Q (.bool (!o.isSome)) s') :
  wpAny (model X.prog X.w) A (compareOp .NotIn u (.ref a)) Q E s:=by
 rcases g with⟨kvs,k,e,ey,l⟩ | ⟨kvs,k,b,e,ey,eb,l⟩
 .subst ey
  obtain⟨z,hd,vs,rel,dd⟩:=ot I.hok e
  refine wpAny_notIn_of (mJ ry) hd dd.mapOf ?_
  rw[<-(rel.val k).jB,<-l]
  exact h _ (I.tok _)
 .subst ey
  cases (show u=Value.ref b from ry)
  obtain⟨z,hd,xs,rel,dd⟩:=qD I.hok e
  refine wpAny_notIn_heap (Mz hu) (pS I.hok eb) hd dd ?_
  have q:=(rel.val k).jB
  rw[ND] at q
  rw[<-q,<-l]
  exact h _ (I.tok _)
theorem pI {h':Heap}{t':Nat}{ob:HO}(I:Inv X NV σ H s) (mu:Pf (H a)) (hs:Heap.SameBut a s.heap h') (he: ∃q,h'.get? a=some q) (new:dt X.prog X.w (upd H a ob) h' a ob) :
  Inv X NV σ (upd H a ob) { s with heap:=h',toks:=t' } :=
 I.write (x:=a) (e:=a) mu (.inl rfl) (fun b q hb z=>(hs.2 b hb).trans z) he new
theorem rX {P:Program}{w:World}{H':Hp}{h':Heap}{kvs:List (Key×V)}{vs:List (Key×Value)}(z:kvs.length<=sizeLine) (hd:(a == sysModules)=false) (rel:KV kvs vs) (dd:h'.DictOf (cF P w) a vs) :
  dt P w H' h' a (.dK kvs):=⟨z,hd,vs,rel,dd⟩
theorem Cn {H':Hp}{Q:Unit->Shared->Prop}(hu:A.units+1 < cLine) (I:Inv X NV σ H s) (g:rZ H a y v H') (ry:RelV y u) (rv:RelV v r) (h: ∀s',Inv X NV σ H' s'->Q () s') :
  wpAny (model X.prog X.w) A (setItem (.ref a) u r) Q E s:=by
 rcases g with⟨kvs,k,e,ey,l,eH⟩ | ⟨kvs,k,b,e,ey,eb,l,eH⟩
 .subst ey eH
  obtain⟨z,hd,vs,rel,dd⟩:=xh I.hok e
  have hz:vs.length<=sizeLine:=by rw[<-rel.length]; exact z
  have hl:(putK kvs k v).length<=sizeLine:=by have:=i6 kvs k v; omega
  refine wpAny_setItem_pairs (hsz:=hz) (mJ ry) dd fun h' dd' hs=>h _ ?_
  have he: ∃q,h'.get? a=some q:=let ⟨q,_,_,hq,_⟩:=dd'; ⟨q,hq⟩
  exact pI I (by rw[e]; exact True.intro) hs he (rX hl hd (rel.put k rv) dd')
 .subst ey eH
  cases (show u=Value.ref b from ry)
  obtain⟨z,hd,xs,rel,dd⟩:=IJ I.hok e
  have hz:xs.length<=sizeLine:=by rw[<-Nv rel]; exact z
  have hl:(putK kvs k v).length<=sizeLine:=by have:=i6 kvs k v; omega
  refine wpAny_setItem_heap (hsz:=hz) (Mz hu) (pS I.hok eb) dd fun h' dd' hs=>h _ ?_
  obtain⟨q,es,ep,hq,h2,h3,h4,_,h5⟩:=dd'
  refine pI I (by rw[e]; exact True.intro) hs ⟨q,hq⟩ ⟨hl,hd,_,(rel.put k eb rv).keeps fun c ys ec=>?_,q,es,ep,hq,h2,h3,h4,h5⟩
  rw[ao (fE ec e (fun z=>nomatch z))]
  exact ec
end
section
variable {X:Cx}{NV:List (Addr×Obj)}{σ:St}{H:Hp}{s:Shared}{a:Addr}{kvs:List (Key×V)}{k:Key}{u:Value}{A:Around}{E:Value->Shared->Prop}
theorem IU {Q:Unit->Shared->Prop}(I:Inv X NV σ H s) (e:H a=some (.dK kvs)) (ry:RelV (kV k) u) (l:(aV kvs k).isSome=true) (h: ∀s',Inv X NV σ (upd H a (.dK (gv kvs k))) s'->Q () s') :
  wpAny (model X.prog X.w) A (delItem (.ref a) u) Q E s:=by
 obtain⟨z,hd,vs,rel,dd⟩:=xh I.hok e
 refine wpAny_delItem_slot dd.typeIs (by decide) PySem.F.slot_dict_delitem
  (call_meetsIn PySem.F.slot_dict_delitem dd.typeIs PySem.F.entry_dict_delitem (PySem.F.args_dict_delitem_2 _ _) (meets_dict_delitem_pairs (cF X.prog X.w) a (mJ ry)) ⟨vs,dd,by rw[<-rel.length]; exact z,by rw[<-(rel.val k).jB]; exact l,fun h' dd' hs=>h _ ?_⟩)
 have he: ∃q,h'.get? a=some q:=let ⟨q,_,_,hq,_⟩:=dd'; ⟨q,hq⟩
 exact pI I (by rw[e]; exact True.intro) hs he (rX (KP (qf kvs k) z) hd (rel.drop k) dd')
theorem HV {v:V}{more:List Value}{Q:Value->Shared->Prop}(I:Inv X NV σ H s) (e:H a=some (.dK kvs)) (ry:RelV (kV k) u) (l:aV kvs k=some v) (hm:more=[]\/ ∃x,more=[x])
  (h: ∀w' s',Inv X NV σ (upd H a (.dK (gv kvs k))) s'->RelV v w'->Q w' s'):wpAny (model X.prog X.w) A (call (.builtin "dict.pop") (.ref a::u::more)) Q E s:=by
 obtain⟨z,hd,vs,rel,dd⟩:=xh I.hok e
 obtain⟨w',hw,rw'⟩:=f9.some_of (v:=v) (o:=valueAt vs k) (by rw[<-l]; exact rel.val k)
 have hp:(keyPart u).isSome=true:=by
  cases k with
  | inl i=>obtain⟨t,q⟩:=(show ∃t,u=Value.int i t from ry); subst q; rfl
  | inr x=>obtain⟨t,q⟩:=(show ∃t,u=Value.str x t from ry); subst q; rfl
 have ha:argsOk "dict.pop" ⟨.ref a::u::more,[]⟩:=by
  rcases hm with q | ⟨x,q⟩
  .subst q; exact PySem.F.args_dict_pop_2 _ _
  .subst q; exact PySem.F.args_dict_pop_3 _ _ _
 refine call_meetsIn PySem.F.slot_dict_pop dd.typeIs PySem.F.entry_dict_pop ha (meets_dict_pop_there (cF X.prog X.w) a (mJ ry) more hm hp)
  ⟨vs,w',dd,by rw[<-rel.length]; exact z,hw,fun h' dd' hs=>h w' _ ?_ rw'⟩
 have he: ∃q,h'.get? a=some q:=let ⟨q,_,_,hq,_⟩:=dd'; ⟨q,hq⟩
 exact pI I (by rw[e]; exact True.intro) hs he (rX (KP (qf kvs k) z) hd (rel.drop k) dd')
end
def Hs (i:Expr):Prop:= ∀ov iv,subscripted i false ov iv=operate [ov,iv] (getItem ov iv)
theorem FK {prog:Program}{w:World}{A:Around}{E:Value->Shared->Prop}{s:Shared}{env:Env}{value slice:Expr}{pos:Pos}{T id:String}{Q:Value->Shared->Prop}
  (hl:typeLookup (.type T) "__getitem__" = pure (some (.builtin id))) (hs:Hs slice)
  (h:wpAny (model prog w) A (eval value env) (fun o s₁=>wpAny (model prog w) A (eval slice env) (fun i s₂=>s₂.TypeIs o T/\wpAny (model prog w) A (getItem o i) Q E s₂) E s₁) E s) :
  wpAny (model prog w) A (eval (.Subscript value slice pos) env) Q E s:=by
 refine Subscript_ (Lr h (fun o s₁ h₁=>Lr h₁ (fun i s₂ h₂=>?_) fun _ _ x=>x) fun _ _ x=>x)
 obtain⟨hT,h₂⟩:=h₂
 unfold subscriptTail
 refine Kt ?_
 rw[getitemInPython_of_ne hT.not_modules]
 refine Kt (wpAny_specialOf hT hl ?_)
 have fin:wpAny (model prog w) A (subscripted slice false o i) (fun r s₃=>wpAny (model prog w) A (letTemporaryGo value o r >>= fun _=>pure r) Q E s₃) E s₂:=by
  rw[hs o i]
  exact wpAny_operating (Lr h₂ (fun r s₃ h₃=>Kt (wpAny_letTemporaryGo (K1 h₃))) fun _ _ x=>x)
 first
  | exact K1 (Kt fin)
  | exact Kt (K1 (Kt fin))
  | exact Kt fin
theorem zr {X:Cx}{NV:List (Addr×Obj)}{σ:St}{H:Hp}{s:Shared}{a:Addr}{y:V}{o:Option V}(I:Inv X NV σ H s) (g:dw H a y o):s.TypeIs (.ref a) "dict" := by
 rcases g with⟨kvs,k,e,_,_⟩ | ⟨kvs,k,b,e,_,_,_⟩
 .obtain⟨_,_,vs,_,dd⟩:=ot I.hok e
  exact dd.typeIs
 .obtain⟨_,_,xs,_,dd⟩:=qD I.hok e
  exact dd.typeIs
inductive Gh (Q:VK) (x y:V) (H2:Hp):Prop | mk (a v:_) (e0:x= .ref a) (e1:dw H2 a y (some v)) (q:Q v H2)
def IC (td ty:TE):TE:=fun σ H Q=>td σ H fun x H1=>ty σ H1 fun y H2=>Gh Q x y H2
inductive HS (Q:VK) (y x:V) (H2:Hp):Prop | mk (a o:_) (e0:x= .ref a) (e1:dw H2 a y o) (q:Q (.bl o.isSome) H2)
def Jp (ty td:TE):TE:=fun σ H Q=>ty σ H fun y H1=>td σ H1 fun x H2=>HS Q y x H2
inductive D8 (Q:VK) (y x:V) (H2:Hp):Prop | mk (a o:_) (e0:x= .ref a) (e1:dw H2 a y o) (q:Q (.bl (!o.isSome)) H2)
def EL (ty td:TE):TE:=fun σ H Q=>ty σ H fun y H1=>td σ H1 fun x H2=>D8 Q y x H2
inductive G5 (D:Ends) (σ:St) (v x y:V) (H3:Hp):Prop | mk (a H4:_) (e0:x= .ref a) (e1:rZ H3 a y v H4) (q:D.nx σ H4)
def Iz (td ty tv:TE):TS:=fun D σ H=>tv σ H fun v H1=>td σ H1 fun x H2=>ty σ H2 fun y H3=>G5 D σ v x y H3
inductive JP (tv:TE) (rd:V->V->Hp->VK->Prop) (D:Ends) (σ:St) (x y:V) (H2:Hp):Prop | mk (a v:_) (e0:x= .ref a) (e1:dw H2 a y (some v)) (q:tv σ H2 fun y2 H3=>rd v y2 H3 fun z H4=> ∃H5,rZ H4 a y z H5/\D.nx σ H5)
inductive JT (D:Ends) (σ:St) (x y:V) (H2:Hp):Prop | mk (a kvs k:_) (e0:x= .ref a) (e1:H2 a=some (.dK kvs)) (e2:y=kV k) (e3:(aV kvs k).isSome=true) (q:D.nx σ (upd H2 a (.dK (gv kvs k))))
section
variable {X:Cx}{o i e value:Expr}{pos pos' tpos:Pos}{td ty tv:TE}
theorem mY (hu:X.A.units+1 < cLine) (ho:PE X o td) (hi:PE X i ty) (hs:Hs i):PE X (.Subscript o i pos) (IC td ty):=by
 intro NV s σ H Q I h
 refine FK PySem.F.slot_dict_getitem.lookup hs (N0 (ho NV s σ H _ I h) fun u s1 ⟨x,H1,I1,rx,q1⟩=>N0 (hi NV s1 σ H1 _ I1 q1) fun iv s2 hm=>?_)
 obtain⟨y,H2,I2,ry,a,v,ex,g,q2⟩:=hm
 subst ex
 obtain rfl:u=Value.ref a:=rx
 exact⟨zr I2 g,Cf hu I2 g ry fun w' s3 I3 rw'=>⟨v,H2,I3,rw',q2⟩⟩
theorem rN (hu:X.A.units+1 < cLine) (hi:PE X i ty) (ho:PE X o td):PC X .In i o (Jp ty td):=by
 intro NV s σ H Q I h
 refine N0 (hi NV s σ H _ I h) fun iv s1 ⟨y,H1,I1,ry,q1⟩=>N0 (ho NV s1 σ H1 _ I1 q1) fun u s2 ⟨x,H2,I2,rx,a,ov,ex,g,q2⟩=>?_
 subst ex
 obtain rfl:u=Value.ref a:=rx
 exact Jy hu I2 g ry fun s3 I3=>⟨.bl ov.isSome,H2,I3,rfl,q2⟩
theorem r6 (hu:X.A.units+1 < cLine) (hi:PE X i ty) (ho:PE X o td):PC X .NotIn i o (EL ty td):=by
 intro NV s σ H Q I h
 refine N0 (hi NV s σ H _ I h) fun iv s1 ⟨y,H1,I1,ry,q1⟩=>N0 (ho NV s1 σ H1 _ I1 q1) fun u s2 ⟨x,H2,I2,rx,a,ov,ex,g,q2⟩=>?_
 subst ex
 obtain rfl:u=Value.ref a:=rx
 exact F6 hu I2 g ry fun s3 I3=>⟨.bl (!ov.isSome),H2,I3,rfl,q2⟩
theorem vN (hu:X.A.units+1 < cLine) (ho:PE X o td) (hi:PE X i ty) (hv:PE X value tv) (hs:swapsWith value (some (.Subscript o i pos')) pos.line X.env=pure false) :
  PS X (.Assign [.Subscript o i pos'] value pos) (Iz td ty tv):=by
 intro NV s σ H D I h
 refine wpAny_Assign_Subscript (N0 (hv NV s σ H _ I h) fun r s1 ⟨v,H1,I1,rv,q1⟩=>N0 (ho NV s1 σ H1 _ I1 q1) fun u s2 ⟨x,H2,I2,rx,q2⟩=>N0 (hi NV s2 σ H2 _ I2 q2) fun iv s3 hm=>?_) hs
 obtain⟨y,H3,I3,ry,a,H4,ex,g,q3⟩:=hm
 subst ex
 obtain rfl:u=Value.ref a:=rx
 exact Cn hu I3 g ry rv fun s4 I4=>⟨σ,H4,I4,q3⟩
end
theorem yA {P:Program}{w:World}{H:Hp}(h:Heap) (hb:sysModules < h.objs.size):dt P w H (h.push { cls:= .type "dict",data:= .dict #[] }) h.objs.size (.dK []) :=
 ⟨Ln _,beq_eq_false_iff_ne.mpr (KW (K3 hb)),[],.nil,Heap.DictOf.new h⟩
def G3:TE:=fun _ H Q=> ∀p,H p=none->Q (.ref p) (upd H p (.dK []))
section
variable {X:Cx}{pos:Pos}
theorem uu:PE X (.Dict [] [] pos) G3:=fun NV s σ H Q I h =>
 wpAny_Dict_empty ⟨.ref s.heap.objs.size,_,I.laid (a:=s.heap.objs.size) (o:= .dK []) (t':=s.toks) (fun _ _ q=>Kq _ q) (Kn _) (yA s.heap I.big),rfl,h _ (I.hok.fresh (Kn _))⟩
end
def yu:List (TE×TE)->St->Hp->(List (V×V)->Hp->Prop)->Prop
 | [],_,H,Q=>Q [] H
 | (tk,tv)::r,σ,H,Q=>tk σ H fun x H1=>tv σ H1 fun y H2=>yu r σ H2 fun ps H3=>Q ((x,y)::ps) H3
abbrev VV:List (V×V)->List (Value×Value)->Prop:=Paired fun p q=>RelV p.1 q.1/\RelV p.2 q.2
def Po (X:Cx) (pos:Pos) (keys:List (Option Expr)) (values:List Expr) (trs:List (TE×TE)):Prop :=
 ∀(NV:List (Addr×Obj)) (s:Shared) (σ:St) (H:Hp) (Q:List (V×V)->Hp->Prop),Inv X NV σ H s->yu trs σ H Q ->
  wpAny (model X.prog X.w) X.A (evalPairs (pairTrees keys values X.env pos)) (fun vs s'=> ∃ps H',Inv X NV σ H' s'/\VV ps vs/\Q ps H') X.xe s
theorem zF {X:Cx}{pos:Pos}:Po X pos [] [] []:=fun NV s σ H Q I h=>pairTrees_nil_walk ⟨[],H,I,.nil,h⟩
theorem yo {X:Cx}{pos:Pos}{k v:Expr}{ks:List (Option Expr)}{vs:List Expr}{tk tv:TE}{trs:List (TE×TE)}(hk:PE X k tk) (hv:PE X v tv) (hr:Po X pos ks vs trs) :
  Po X pos (some k::ks) (v::vs) ((tk,tv)::trs):=fun NV s σ H Q I h =>
 pairTrees_cons_walk (N0 (hk NV s σ H _ I h) fun u s1 ⟨x,H1,I1,rx,q1⟩=>N0 (hv NV s1 σ H1 _ I1 q1) fun w2 s2 ⟨y,H2,I2,ry,q2⟩ =>
  N0 (hr NV s2 σ H2 _ I2 q2) fun ws s3 ⟨ps,H3,I3,rel,q3⟩=>⟨(x,y)::ps,H3,I3,.cons ⟨rx,ry⟩ rel,q3⟩)
def nA (kvs more:List (Key×V)):List (Key×V):=more.foldl (fun acc kv=>putK acc kv.1 kv.2) kvs
theorem KV.merge: ∀ {more:List (Key×V)}{rs:List (Key×Value)}{kvs:List (Key×V)}{vs:List (Key×Value)},KV more rs->KV kvs vs->KV (nA kvs more) (merged vs rs):=by
 intro more rs kvs vs r
 unfold KV at r
 induction r generalizing kvs vs with
 | nil=>intro q; exact q
 | @cons p q ps qs h t ih =>
  intro r0
  have e:KV (putK kvs p.1 p.2) (stored vs q.1 q.2):=by
   have:=r0.put p.1 h.2
   rw[<-h.1]; exact this
  exact ih e
theorem qV: ∀(more kvs:List (Key×V)),(nA kvs more).length<=kvs.length+more.length
 | [],kvs=>by show kvs.length<=kvs.length+0; omega
 | p::r,kvs=>by
  have h1:=qV r (putK kvs p.1 p.2)
  have h2:=i6 kvs p.1 p.2
  show (nA (putK kvs p.1 p.2) r).length<=_
  rw[KZ]; omega
theorem uO {P:Program}{w:World}: ∀ {kvs:List (Key×V)}{ws:List (Value×Value)},VV (kvs.map fun kv=>(kV kv.1,kv.2)) ws-> ∃rs,Carries (cF P w) ws rs/\KV kvs rs
 | [],_,r=>by rw[M9] at r; cases r; exact⟨[],True.intro,.nil⟩
 | p::kvs,_,r=>by
  rw[Lg] at r
  cases r with
  | @cons a b as bs h t =>
   obtain⟨rs,c,q⟩:=uO (P:=P) (w:=w) t
   obtain⟨b1,b2⟩:=b
   exact⟨(p.1,b2)::rs,⟨mJ h.1,rfl,c⟩,.cons ⟨rfl,h.2⟩ q⟩
def Ir (trs:List (TE×TE)):TE:=fun σ H Q=> ∀p,H p=none->yu trs σ (upd H p (.dK [])) fun ps H2=>H2 p=some (.dK [])/\ ∃kvs:List (Key×V),ps=kvs.map (fun kv=>(kV kv.1,kv.2))/\kvs.length<=15/\Q (.ref p) (upd H2 p (.dK (nA [] kvs)))
theorem zO {X:Cx}{pos:Pos}{keys:List (Option Expr)}{values:List Expr}{trs:List (TE×TE)}(h:Po X pos keys values trs) (hall:keys.all (·.isSome)=true) (hl:keys.length=values.length) (h0:keys≠[])
  (h15:keys.length<=15):PE X (.Dict keys values pos) (Ir trs):=by
 intro NV s σ H Q I q
 have hn:=I.hok.fresh (Kn s.heap.objs.size)
 have I1:=I.laid (a:=s.heap.objs.size) (o:= .dK []) (h':=s.heap.push { cls:= .type "dict",data:= .dict #[] }) (t':=s.toks) (fun _ _ q=>Kq _ q) (Kn _) (yA s.heap I.big)
 refine wpAny_Dict_walk (knd:=cF X.prog X.w) hall hl h0 h15 (N0 (h NV _ σ _ _ I1 (q _ hn)) fun ws s2 hm=>?_)
 obtain⟨ps,H2,I2,rel,e,kvs,ep,lk,q2⟩:=hm
 subst ep
 obtain⟨rs,c,rk⟩:=uO (P:=X.prog) (w:=X.w) rel
 obtain⟨z,hd,vs0,r0,dd⟩:=xh I2.hok e
 cases r0
 refine⟨rs,c,dd,fun h' dd' hs=>⟨.ref s.heap.objs.size,_,?_,rfl,q2⟩⟩
 have hz:(nA [] kvs).length<=sizeLine:=by
  have h1:=qV kvs []
  rw[My] at h1
  rw[Np]; omega
 have he: ∃q,h'.get? s.heap.objs.size=some q:=let ⟨q,_,_,hq,_⟩:=dd'; ⟨q,hq⟩
 exact pI I2 (by rw[e]; exact True.intro) hs he (rX hz hd (rk.merge .nil) dd')
structure M1 (X:Cx) (o:Expr) (m:Str) (apos:Pos) (e:Expr) (cpos:Pos):Prop where
 base:attributeBase o m X.env (eval o X.env)=eval o X.env
 OW:((backTo cpos (starEach [e] X.env)).all (fun x=> !x.1) && (backToKw cpos (keywordEach [] X.env)).all (fun x=>x.1.isSome)
  && decide (([e]:List Expr).length+([]:List Keyword).length+(if ([]:List Keyword).isEmpty then 0 else 1) < 30))=true
 line:(apos.endLine == cpos.line)=true
 trees:backTo cpos (starEach [e] X.env)=[(false,eval e X.env)]
structure M2 (X:Cx) (o:Expr) (m:Str) (apos:Pos) (e f:Expr) (cpos:Pos):Prop where
 base:attributeBase o m X.env (eval o X.env)=eval o X.env
 OW:((backTo cpos (starEach [e,f] X.env)).all (fun x=> !x.1) && (backToKw cpos (keywordEach [] X.env)).all (fun x=>x.1.isSome)
  && decide (([e,f]:List Expr).length+([]:List Keyword).length+(if ([]:List Keyword).isEmpty then 0 else 1) < 30))=true
 line:(apos.endLine == cpos.line)=true
 trees:backTo cpos (starEach [e,f] X.env)=[(false,eval e X.env),(false,eval f X.env)]
def Ph (H:Hp) (a:Addr):Prop:=(∃kvs,Rd H a (.dK kvs))\/ ∃kvs,Rd H a (.dT kvs)
theorem CW {X:Cx}{NV:List (Addr×Obj)}{σ:St}{H:Hp}{s:Shared}{a:Addr}(I:Inv X NV σ H s) (d:Ph H a) :
  s.TypeIs (.ref a) "dict" /\ (∀b,Value.ref a= .ref b-> ∃ob,s.heap.get? b=some ob/\ob.dict=none)/\(a == sysModules)=false:=by
 rcases d with⟨kvs,e⟩ | ⟨kvs,e⟩
 .obtain⟨_,hd,vs,_,dd⟩:=ot I.hok e
  refine⟨dd.typeIs,fun b q=>?_,hd⟩
  cases q
  obtain⟨ob,_,_,h1,h2,_⟩:=dd
  exact⟨ob,h1,h2.2.1⟩
 .obtain⟨_,hd,xs,_,dd⟩:=qD I.hok e
  refine⟨dd.typeIs,fun b q=>?_,hd⟩
  cases q
  obtain⟨ob,_,_,h1,h2,_⟩:=dd
  exact⟨ob,h1,h2.2.1⟩
section
variable {X:Cx}{NV:List (Addr×Obj)}{σ:St}{H:Hp}{s:Shared}{a:Addr}{y d:V}{u r:Value}{o:Option V}{A:Around}{E:Value->Shared->Prop}
theorem GZ {Q:Value->Shared->Prop}(hu:A.units+1 < cLine) (I:Inv X NV σ H s) (g:dw H a y o) (ry:RelV y u) (h: ∀w' s',Inv X NV σ H s'->RelV (o.getD .non) w'->Q w' s') :
  wpAny (model X.prog X.w) A (call (.builtin "dict.get") [.ref a,u]) Q E s:=by
 rcases g with⟨kvs,k,e,ey,l⟩ | ⟨kvs,k,b,e,ey,eb,l⟩
 .subst ey
  obtain⟨z,hd,vs,rel,dd⟩:=ot I.hok e
  refine call_meetsIn M4 dd.typeIs PySem.F.entry_dict_get (PySem.F.args_dict_get_2 _ _) (meets_dict_get (cF X.prog X.w) a (mJ ry) hd) ⟨_,dd.mapOf,h _ _ (I.tok _) ?_⟩
  rw[l]
  exact (rel.val k).getD rfl
 .subst ey
  cases (show u=Value.ref b from ry)
  obtain⟨z,hd,xs,rel,dd⟩:=qD I.hok e
  refine call_meetsIn M4 dd.typeIs PySem.F.entry_dict_get (PySem.F.args_dict_get_2 _ _) (meetsH_dict_get (tupleKind (cF X.prog X.w)) a b hd) ⟨Mz hu,k,xs,pS I.hok eb,dd,h _ _ (I.tok _) ?_⟩
  rw[l]
  exact (rel.val k).getD rfl
end
inductive FV (ty:TE) (σ:St) (Q:VK) (x:V) (H1:Hp):Prop | mk (a:_) (e0:x= .ref a) (e1:Ph H1 a) (q:ty σ H1 fun y H2=> ∃o,dw H2 a y o/\Q (o.getD .non) H2)
def CK (td ty:TE):TE:=fun σ H Q=>td σ H fun x H1=>FV ty σ Q x H1
inductive JK (ty tx:TE) (σ:St) (Q:VK) (x:V) (H1:Hp):Prop | mk (a:_) (e0:x= .ref a) (e1:Ph H1 a) (q:ty σ H1 fun y H2=>tx σ H2 fun z H3=> ∃o,dw H3 a y o/\Q (o.getD z) H3)
inductive Fx (ty:TE) (σ:St) (Q:VK) (x:V) (H1:Hp):Prop | mk (a:_) (e0:x= .ref a) (e1:Ph H1 a) (q:ty σ H1 fun y H2=> ∃kvs k v,H2 a=some (.dK kvs)/\y=kV k/\aV kvs k=some v/\Q v (upd H2 a (.dK (gv kvs k))))
def He (td ty:TE):TE:=fun σ H Q=>td σ H fun x H1=>Fx ty σ Q x H1
inductive JO (ty tx:TE) (σ:St) (Q:VK) (x:V) (H1:Hp):Prop | mk (a:_) (e0:x= .ref a) (e1:Ph H1 a) (q:ty σ H1 fun y H2=>tx σ H2 fun z H3=> ∃kvs k,H3 a=some (.dK kvs)/\y=kV k/\(∀v,aV kvs k=some v->Q v (upd H3 a (.dK (gv kvs k))))/\(aV kvs k=none->Q z H3))
section
variable {X:Cx}{o e f:Expr}{apos cpos:Pos}{td ty tx:TE}
theorem xw (hu:X.A.units+1 < cLine) (ho:PE X o td) (he:PE X e ty) (m:M1 X o "get" apos e cpos):PE X (.Call (.Attribute o "get" apos) [e] [] cpos) (CK td ty):=by
 intro NV s σ H Q I h
 refine wpAny_Call_method m.base m.OW m.line PySem.F.plainAttrs_dict M4 PySem.F.type_dict_get (N0 (ho NV s σ H _ I h) fun u s1 ⟨x,H1,I1,rx,a,ex,d,q1⟩=>?_)
 subst ex
 obtain rfl:u=Value.ref a:=rx
 obtain⟨t1,t2,_⟩:=CW I1 d
 refine⟨t1,t2,?_⟩
 rw[m.trees]
 refine MC rfl (MI (Nq (N0 (he NV s1 σ H1 _ I1 q1) fun iv s2 ⟨y,H2,I2,ry,ov,g,q2⟩=>Calls.spliced_nil ?_)))
 exact GZ hu I2 g ry fun w' s3 I3 rw'=>⟨_,H2,I3,rw',q2⟩
theorem Ej (ho:PE X o td) (he:PE X e ty) (m:M1 X o "pop" apos e cpos):PE X (.Call (.Attribute o "pop" apos) [e] [] cpos) (He td ty):=by
 intro NV s σ H Q I h
 refine wpAny_Call_method m.base m.OW m.line PySem.F.plainAttrs_dict PySem.F.slot_dict_pop PySem.F.type_dict_pop (N0 (ho NV s σ H _ I h) fun u s1 ⟨x,H1,I1,rx,a,ex,d,q1⟩=>?_)
 subst ex
 obtain rfl:u=Value.ref a:=rx
 obtain⟨t1,t2,_⟩:=CW I1 d
 refine⟨t1,t2,?_⟩
 rw[m.trees]
 refine MC rfl (MI (Nq (N0 (he NV s1 σ H1 _ I1 q1) fun iv s2 ⟨y,H2,I2,ry,kvs,k,v,ea,ey,l,q2⟩=>Calls.spliced_nil ?_)))
 subst ey
 exact HV I2 ea ry l (.inl rfl) fun w' s3 I3 rw'=>⟨v,_,I3,rw',q2⟩
end
section
variable {X:Cx}{NV:List (Addr×Obj)}{σ:St}{H:Hp}{s:Shared}{a:Addr}{kvs:List (Key×V)}{A:Around}{E:Value->Shared->Prop}
theorem Dc {Q:Value->Shared->Prop}(I:Inv X NV σ H s) (e:Rd H a (.dK kvs)) (h: ∀p s',H p=none->Inv X NV σ (upd H p (.dK kvs)) s'->Q (.ref p) s'):wpAny (model X.prog X.w) A (call (.type "dict") [.ref a]) Q E s:=by
 obtain⟨z,hd,vs,rel,dd⟩:=ot I.hok e
 refine kt_call_dict hd dd (by rw[<-rel.length]; exact z) fun h' dd' hs=>?_
 refine h _ _ (I.hok.fresh (Kn _)) (I.laid (a:=s.heap.objs.size) (o:= .dK kvs) (t':=s.toks) (fun b q hq=>?_) (Kn _) (rX z (beq_eq_false_iff_ne.mpr (KW (K3 I.big))) rel dd'))
 exact (hs.2 b (K3 (KA hq))).trans (Kq _ hq)
end
section
variable {X:Cx}{NV:List (Addr×Obj)}{σ:St}{H:Hp}{s:Shared}{a:Addr}{y:V}{u:Value}{A:Around}{E:Value->Shared->Prop}
end
section
variable {X:Cx}
end
section
variable {κ:Type} [DecidableEq κ]
theorem B7 {p:κ×V}{r:List (κ×V)}{k:κ}(e:p.1=k):gv (p::r) k=gv r k:=by
 unfold gv
 rw[L5,Kk (by simp[e])]
theorem CG {p:κ×V}{r:List (κ×V)}{k:κ}(e: ¬p.1=k):gv (p::r) k=p::gv r k:=by
 unfold gv
 rw[L5,Ko (by simp[e])]
end
section
variable {X:Cx}{NV:List (Addr×Obj)}{σ:St}{H:Hp}{s:Shared}{h':Heap}
theorem Inv.FR {t':Nat}{a b:Addr}(I:Inv X NV σ H s) (k: ∀c o,c≠a->c≠b->s.heap.get? c=some o->h'.get? c=some o) (fa:cA X NV H a) (fb:cA X NV H b):Inv X NV σ H { s with heap:=h',toks:=t' }:=by
 have na: ∀c u,H c=some u->c≠a:=fun c u e z=>by rw[z,fa.1] at e; cases e
 have nb: ∀c u,H c=some u->c≠b:=fun c u e z=>by rw[z,fb.1] at e; cases e
 have kk: ∀c o,c∉[a,b]->s.heap.get? c=some o->h'.get? c=some o:=fun c o hc e=>k c o (fun z=>hc (by simp[z])) (fun z=>hc (by simp[z])) e
 refine I.step (g':=s.gens) (d':=s.drawn) (ch:=[a,b]) (fun c hc=>?_) (fun c o _ _ hc e _=>kk c o hc e) (fun c o _ _ hc e _=>⟨o.slots,kk c o hc e⟩) (fun _ _ _ _ n=>n)
  (fun c o hc e=>⟨o,kk c o hc e⟩) (fun _ _ e=>e) (fun _ _ _ e=>e) (fun c ps e=>⟨#[],by rw[e]; simp⟩) (fun m hm=>?_) (fun c u e=>?_) I.bare
 .rcases Ks.mp hc with rfl | hc
  .exact⟨fa.2.2.2.1,fa.2.1,fa.2.2.2.2.1,fa.2.2.2.2.2⟩
  .rw[Km.mp hc]
   exact⟨fb.2.2.2.1,fb.2.1,fb.2.2.2.2.1,fb.2.2.2.2.2⟩
 .obtain⟨o,es,ep,ho,r⟩:=hm
  exact⟨o,es,ep,k _ o (KW fa.2.1) (KW fb.2.1) ho,r⟩
 .refine (I.hok c u e).o6 (fun d v hd q=>k d v ?_ ?_ q) (fun _ q=>q) fun _ _ q=>q
  .rcases hd with z | z
   .rw[z]; exact na c u e
   .exact na d _ z
  .rcases hd with z | z
   .rw[z]; exact nb c u e
   .exact nb d _ z
end
def Pc (K:NY) (a:Addr):It :=
 ⟨fun i H=> ∃xs x,NX K H a xs/\xs[i]?=some x,fun i H v H'=> ∃t x,v= .ref t/\H t=none/\H'=upd H t (.tup [.int (i:Nat),x])/\ ∀xs,NX K H a xs->xs[i]?=some x,fun i H=> ∃xs,NX K H a xs/\xs.length<=i⟩
theorem BK {P:Program}{w:World}{K:NY}{elts:List Expr}{x1}{pos:Pos}(a e it:Addr):Turn P w K (.Tuple elts x1 pos) (Pc K a) [e,it] e (fun i h=>(∃old,IsEnum h e it (i:Nat) old)/\h.IsListIter it a i/\e≠it) where
 mem:=by simp
 obj:=fun i h st b hb=>by
  obtain⟨⟨old,he⟩,⟨o,e1,c,d⟩,_⟩:=st
  rcases Ks.mp hb with rfl | hb
  .exact⟨_,he,fun v z=>by cases z⟩
  .rw[Km.mp hb]
   exact⟨o,e1,fun v z=>by rw[d] at z; cases z⟩
 keep:=fun i h h' st k=>by
  obtain⟨⟨old,he⟩,hit,ne⟩:=st
  exact⟨⟨old,k e (by simp) _ he⟩,hit.at fun o q=>k it (by simp) o q,ne⟩
 item:=by
  intro X hP hw hK hc i NV s σ H E I hf st hg
  subst hP hw hK
  obtain⟨⟨old,he⟩,hit,hne⟩:=st
  obtain⟨xs,x,hq,hx⟩:=hg
  obtain⟨its,rv,p,hz⟩:=I.list hq
  obtain⟨u,hu,ru⟩:=rv.get hx
  have fe:=hf e (by simp)
  have fi:=hf it (by simp)
  refine wpAny_pyNext_enum_item he hit p.isList (x:=u) (by simpa using hu) hne fun h' heo hit' ht hz' hk=>?_
  refine⟨_,rfl,wpAny_letOwnedTupleGo_enum heo fun h2 he2 sb=>?_⟩
  have heS:e < s.heap.objs.size:=KA he
  have hiS:it < s.heap.objs.size:=by obtain⟨o,q,_⟩:=id hit; exact KA q
  have kall: ∀c o,c≠e->c≠it->s.heap.get? c=some o->h2.get? c=some o:=fun c o c1 c2 q=>(sb.2 c c1).trans (hk c o c1 c2 q)
  have I1:Inv X NV σ H { s with heap:=h2,toks:=s.toks+1 }:=I.FR kall fe fi
  have ht2:h2.get? s.heap.objs.size=some { cls:= .type "tuple",data:= .seq #[.int i s.toks,u] }:=(sb.2 _ (M8 heS)).trans ht
  have fT:cA X NV H s.heap.objs.size:=I.jg (Kn _) (I.hok.fresh (Kn _))
  have new:dt X.prog X.w (upd H s.heap.objs.size (.tup [.int (i:Nat),x])) h2 s.heap.objs.size (.tup [.int (i:Nat),x]):=⟨by show 2<=sizeLine; decide,[.int i s.toks,u],.cons ⟨_,rfl⟩ (.cons ru .nil),⟨_,ht2,rfl,_,rfl⟩⟩
  refine⟨.ref s.heap.objs.size,_,I1.EG fT new,rfl,⟨_,x,rfl,fT.1,rfl,fun ys hy=>by rw[I.qO hy hq]; exact hx⟩,⟨⟨u,he2⟩,?_,hne⟩,fun b hb=>?_⟩
  .exact hit'.at fun o q=>(sb.2 it (KW hne)).trans q
  .rcases Ks.mp hb with rfl | hb
   .rw[ao (K3 heS)]; exact fe.1
   .rw[Km.mp hb,ao (K3 hiS)]; exact fi.1
 done:=by
  intro X hP hw hK hc i NV s σ H E I hf st hg
  subst hP hw hK
  obtain⟨⟨old,he⟩,hit,hne⟩:=st
  obtain⟨xs,hq,hx⟩:=hg
  obtain⟨its,rv,p,hz⟩:=I.list hq
  obtain⟨f0,f1,f2,f3,f4,f5⟩:=hf it (by simp)
  have hl:=rv.length
  exact wpAny_pyNext_enum_end (I.ok.hd hc) he hit p.isList (by simp; omega) fun h' eb=>⟨rfl,I.turned (t':=s.toks) (fun b o hb e=>eb b o hb e) f0 f1 f3 f4 f5⟩
 self:=fun _ _ _ _ _ st h=>by
  obtain⟨⟨old,he⟩,_⟩:=st
  exact wpAny_pyIter_enum he h
section
variable {X:Cx}
inductive GK (K:NY) (R:It->Hp->Prop) (vs:List V) (H1:Hp):Prop | mk (a:_) (e0:vs=[.ref a]) (e1:(∃xs,NX K H1 a xs)) (q:R (Pc K a) H1)
def IK (K:NY) (ta:TA):TI:=fun σ H R=>ta σ H fun vs H1=>GK K R vs H1
theorem boot_enumerate:bootBuiltins "enumerate" = some (.type "enumerate"):=by trivial
theorem pM {elts:List Expr}{x1}{tpos:Pos}{a:Expr}{ta:TA}{p pos:Pos}(hg:Gl X "enumerate") (hm:X.mg "enumerate" = none) (ha:PA X [a] ta) (hs:starEach [a] X.env=[(false,eval a X.env)]:=by rfl):PI X (.Tuple elts x1 tpos) (.Call (.Name "enumerate" p) [a] [] pos) (IK X.K ta):=by
 intro NV s σ H R I h
 refine Call_ (m9 I hg hm boot_enumerate (Ma (N0 (ha pos NV s σ H _ I h) fun us s1 ⟨vs,H1,I1,r1,q1⟩=>?_) hs rfl))
 obtain⟨l,e,⟨xs,hq⟩,q⟩:=q1
 subst e
 cases r1 with
 | cons r rr =>
  cases rr
  cases r
  obtain⟨its,rv,pl,hz⟩:=I1.list hq
  refine call_enumerate_list pl.isList fun h' he hit hsz hk=>?_
  refine wpAny_pyIter_enum he ?_
  have I2:Inv X NV σ H1 { s1 with heap:=h' }:=I1.kept (t':=s1.toks) hk
  refine⟨s1.heap.objs.size+1,[s1.heap.objs.size+1,s1.heap.objs.size],_,_,H1,rfl,I2,BK l _ _,⟨⟨.none,he⟩,hit,Nat.succ_ne_self _⟩,fun b hb=>?_,q⟩
  have hb':s1.heap.objs.size<=b:=by
   rcases Ks.mp hb with rfl | hb
   .omega
   .rw[Km.mp hb]; exact Kn _
  exact I1.jg hb' (I1.hok.fresh hb')
end
theorem uE {K:NY}{a:Addr}{xs:List V}{g:TG}{tb:TS}{D:Ends}{σ:St}{H:Hp}(Pv:Nat->St->Hp->Prop) (h0:Pv 0 σ H) (hJ: ∀i σ H,i<=xs.length->Pv i σ H->NX K H a xs)
  (hs: ∀i x σ H t,xs[i]?=some x->Pv i σ H->H t=none->g (.ref t) σ (upd H t (.tup [.int (i:Nat),x])) fun σ2 H2=>tb { D with nx:=Pv (i+1),ct:=Pv (i+1),bk:=D.nx } σ2 H2) (hd: ∀σ H,Pv xs.length σ H->D.nx σ H) :
  ∃W:Nat->Nat->St->Hp->Prop,(∃m,W 0 m σ H)/\ ∀i m σ H,W i m σ H ->
   ((Pc K a).stop i H/\D.nx σ H)\/((Pc K a).go i H/\ ∃N:St->Hp->Prop,(∀σ' H',N σ' H'-> ∃m',m' < m/\W (i+1) m' σ' H')/\ ∀x H',(Pc K a).yld i H x H'->g x σ H' fun σ2 H2=>tb { D with nx:=N,ct:=N,bk:=D.nx } σ2 H2):=by
 refine⟨fun i m σ H=>i<=xs.length/\m=xs.length - i/\Pv i σ H,⟨xs.length,Ln _,rfl,h0⟩,?_⟩
 rintro i m σ H ⟨hi,rfl,hp⟩
 have hj:=hJ i σ H hi hp
 by_cases hlt:i < xs.length
 .refine .inr ⟨⟨xs,xs[i],hj,Kl hlt⟩,Pv (i+1),fun σ' H' q=>⟨xs.length - (i+1),by omega,hlt,rfl,q⟩,fun v H' hy=>?_⟩
  obtain⟨t,x,rfl,nt,rfl,hx⟩:=hy
  exact hs i x σ H t (hx xs hj) hp nt
 .have e:i=xs.length:=by omega
  subst e
  exact .inl ⟨⟨xs,hj,Kn _⟩,hd σ H hp⟩
end L2
namespace MA
inductive Path (rs:List av) (s:Int):Int->List Nat->Prop
 | nil:Path rs s s []
 | snoc {k:Int}{ps:List Nat}{i:Nat}{q:av}:Path rs s k ps->rs[i]?=some q->q.2.1=k->Path rs s q.1 (ps++[i])
def kC (rs:List av) (i:Nat):Int:=(rs.getD i (0,0,0)).1
def vg (rs:List av) (i:Nat):Int:=(rs.getD i (0,0,0)).2.2
def Oo (rs:List av) (ps:List Nat):List Int:=ps.map (kC rs)
theorem kx {rs:List av}{i:Nat}{q:av}(h:rs[i]?=some q):kC rs i=q.1:=by
 unfold kC
 rw[Ku,h]
 rfl
theorem Cr {rs:List av}{i:Nat}{q:av}(h:rs[i]?=some q):vg rs i=q.2.2:=by
 unfold vg
 rw[Ku,h]
 rfl
theorem jl {rs:List av}{ps:List Nat}{i:Nat}{q:av}(h:rs[i]?=some q):Oo rs (ps++[i])=Oo rs ps++[q.1]:=by
 unfold Oo
 rw[KN,Lg,M9,kx h]
theorem FY {rs:List av}{ps:List Nat}:(Oo rs ps).length=ps.length:=Kj ..
theorem Path.le {n:Nat}{rs:List av}{f:Int->Int}(k: ∀r∈rs,N5 n r) (hf:Met rs f){s e:Int}(hs:0<=s){ps:List Nat}(h:Path rs s e ps):0<=e/\f s<=f e:=by
 induction h with
 | nil=>exact⟨hs,K2 _⟩
 | @snoc e ps i q hp hi hb ih =>
  have hq:=Kp hi
  obtain⟨k1,k2,k3,k4,k5⟩:=k q hq
  have m:=hf q hq
  unfold ask at m
  rw[Kk (by omega),hb] at m
  exact⟨k1,by omega⟩
def iK:List av->(av->Int)->Int
 | [],_=>0
 | r::rs,f=>iK rs f+f r
theorem vq: ∀(rs:List av) (f h:av->Int),(∀r∈rs,f r<=h r)->iK rs f<=iK rs h
 | [],_,_,_=>K2 _
 | r::rs,f,h,k=>by
  have h1:=k r (Ky)
  have h2:=vq rs f h fun x hx=>k x (Kx _ hx)
  show iK rs f+f r<=iK rs h+h r
  omega
theorem zx: ∀(rs:List av) (f h:av->Int) (q:av) (d:Int),(∀r∈rs,f r<=h r)->q∈rs->f q+d<=h q->iK rs f+d<=iK rs h
 | [],_,_,_,_,_,hq,_=>by cases hq
 | r::rs,f,h,q,d,k,hq,hd=>by
  have k2: ∀x∈rs,f x<=h x:=fun x hx=>k x (Kx _ hx)
  show iK rs f+f r+d<=iK rs h+h r
  rcases Ks.mp hq with rfl | hq
  .have:=vq rs f h k2
   omega
  .have:=zx rs f h q d k2 hq hd
   have:=k r (Ky)
   omega
theorem Ci: ∀(rs:List av) (f:av->Int),(∀r∈rs,0<=f r)->0<=iK rs f
 | [],_,_=>K2 _
 | r::rs,f,k=>by
  have:=Ci rs f fun x hx=>k x (Kx _ hx)
  have:=k r (Ky)
  show 0<=iK rs f+f r
  omega
theorem De {n:Nat}{rs:List av}(k: ∀r∈rs,N5 n r) (h: ∀q∈rs,q.2.1≠ -1->0 < q.2.2-> ∃S:Int->Prop,S q.1/\ ¬S q.2.1/\ ∀r∈rs,0<=r.2.1->S r.2.1->S r.1):pP n rs=false:=by
 classical
 obtain⟨C,c0,hC⟩:=ug rs
 have pick: ∃S:av->Int->Prop,∀q∈rs,q.2.1≠ -1->0 < q.2.2->S q q.1/\ ¬S q q.2.1/\ ∀r∈rs,0<=r.2.1->S q r.2.1->S q r.1:=by
  refine⟨fun q=>if z:q∈rs/\q.2.1≠ -1/\0 < q.2.2 then Classical.choose (h q z.1 z.2.1 z.2.2) else fun _=>True,fun q a b c=>?_⟩
  have z:q∈rs/\q.2.1≠ -1/\0 < q.2.2:=⟨a,b,c⟩
  simp only[dif_pos z]
  exact Classical.choose_spec (h q a b c)
 obtain⟨S,hS⟩:=pick
 let w:Int->av->Int:=fun v q=>if q.2.1≠ -1/\0 < q.2.2/\S q v then q.2.2 else 0
 cases e:pP n rs with
 | false=>rfl
 | true =>
  refine absurd (?_:Met rs fun v=>C+iK rs (w v)) (BU k e _)
  intro r hr
  obtain⟨r1,r2,r3,r4,r5⟩:=k r hr
  have w0: ∀v,0<=iK rs (w v):=fun v=>Ci rs _ fun q hq=>by
   show 0<=if q.2.1≠ -1/\0 < q.2.2/\S q v then q.2.2 else 0
   split <;> omega
  unfold ask
  by_cases hp:r.2.1= -1
  .rw[Ko hp]
   have:=w0 r.1
   have:=hC r hr
   show r.2.2<=C+iK rs (w r.1)
   omega
  .rw[Kk hp]
   have mono: ∀q∈rs,w r.2.1 q<=w r.1 q:=fun q hq=>by
    show (if q.2.1≠ -1/\0 < q.2.2/\S q r.2.1 then q.2.2 else 0)<=(if q.2.1≠ -1/\0 < q.2.2/\S q r.1 then q.2.2 else 0)
    by_cases c:q.2.1≠ -1/\0 < q.2.2/\S q r.2.1
    .rw[Ko c,Ko ⟨c.1,c.2.1,(hS q hq c.1 c.2.1).2.2 r hr (by omega) c.2.2⟩]
     exact K2 _
    .rw[Kk c]
     split <;> omega
   show C+iK rs (w r.2.1)+r.2.2<=C+iK rs (w r.1)
   by_cases hm:0 < r.2.2
   .have s:=hS r hr hp hm
    have:=zx rs (w r.2.1) (w r.1) r r.2.2 mono hr (by
     show (if r.2.1≠ -1/\0 < r.2.2/\S r r.2.1 then r.2.2 else 0)+r.2.2<=(if r.2.1≠ -1/\0 < r.2.2/\S r r.1 then r.2.2 else 0)
     rw[Kk (fun z=>s.2.1 z.2.2),Ko ⟨hp,hm,s.1⟩]
     omega)
    omega
   .have:=vq rs (w r.2.1) (w r.1) mono
    omega
end MA
namespace L2
open PySem PySem.Spec PyProof.Rows
abbrev Oi:=List (Key×V)
def has (kvs:Oi) (k:Int):Prop:=(aV kvs (Sum.inl k)).isSome=true
def md (n:Nat) (kvs:Oi):Nat:=((List.range n).map fun i=>if (aV kvs (Sum.inl ((i:Nat):Int))).isSome then 0 else 1).sum
def IL (H:Hp) (rs:List MA.av) (s:Int) (q:Addr) (kvs:Oi) (k:Int) (v:V):Prop :=
 ∃a ps,v= .ref a/\H a=some (.lst (aX ps))/\a≠q/\MA.Path rs s k ps/\(s::MA.Oo rs ps).Nodup/\(∀x∈s::MA.Oo rs ps,has kvs x)/\ps.length+1<=kvs.length
structure Bf (H0 H:Hp) (n:Nat) (rs:List MA.av) (s:Int) (d q:Addr) (kvs:Oi) (ws:List Int) (sk:Int->Prop):Prop where
 hd:H d=some (.dK kvs)
 hq:H q=some (.lst (ws.map V.int))
 sm:ai H0 H
 fd:H0 d=none
 fq:H0 q=none
 OB: ∀k,has kvs k->0<=k/\k < n
 val: ∀k v,aV kvs (Sum.inl k)=some v->IL H rs s q kvs k v
 st:has kvs s
 wk: ∀m∈ws,has kvs m
 cl: ∀k,has kvs k->k∉ws-> ¬sk k-> ∀r∈rs,r.2.1=k->has kvs r.1
 cn:kvs.length+md n kvs<=n
section
variable {H0 H:Hp}{n:Nat}{rs:List MA.av}{s:Int}{d q:Addr}{kvs:Oi}{ws:List Int}{sk:Int->Prop}
theorem Bf.ne (b:Bf H0 H n rs s d q kvs ws sk):d≠q:=fE b.hd b.hq (by intro z; cases z)
theorem Bf.grow {H':Hp}(b:Bf H0 H n rs s d q kvs ws sk) (e:ai H H'):Bf H0 H' n rs s d q kvs ws sk :=
 ⟨e _ _ b.hd,e _ _ b.hq,b.sm.trans e,b.fd,b.fq,b.OB,fun k v h=>by
  obtain⟨a,ps,e1,e2,r⟩:=b.val k v h
  exact⟨a,ps,e1,e _ _ e2,r⟩,b.st,b.wk,b.cl,b.cn⟩
theorem Bf.pop {m:Int}{r:List Int}(b:Bf H0 H n rs s d q kvs (m::r) sk) (hs: ∀k,¬sk k):Bf H0 (upd H q (.lst (r.map V.int))) n rs s d q kvs r (fun k=>k=m) :=
 ⟨(ao b.ne).trans b.hd,ag,b.sm.cN b.fq,b.fd,b.fq,b.OB,fun k v h=>by
  obtain⟨a,ps,e1,e2,e3,r⟩:=b.val k v h
  exact⟨a,ps,e1,(ao e3).trans e2,e3,r⟩,b.st,fun x hx=>b.wk x (Kx _ hx),fun k h1 h2 h3=>b.cl k h1 (fun z=>(Ks.mp z).elim h3 h2) (hs k),b.cn⟩
theorem cQ {k:Int}{v:V}{j:Int}:has (putK kvs (Sum.inl k) v) j↔j=k\/has kvs j:=by
 unfold has
 rw[nU]
 by_cases e:j=k
 .subst e; simp
 .rw[Kk (fun z=>e (MW z))]; simp[e]
theorem m7 {k:Int}{v:V}(h0:0<=k) (h1:k < n) (hn: ¬has kvs k):md n (putK kvs (Sum.inl k) v)+1<=md n kvs:=by
 refine MA.sJ _ _ _ (fun i _=>?_) ⟨k.toNat,KU.mpr (by omega),?_⟩
 .by_cases c:has kvs (i:Nat)
  .rw[Ko (show (aV (putK kvs (Sum.inl k) v) (Sum.inl ((i:Nat):Int))).isSome=true from cQ.mpr (.inr c))]
   exact Ln _
  .rw[Kk (show ¬(aV kvs (Sum.inl ((i:Nat):Int))).isSome=true from c)]
   split <;> omega
 .have e:((k.toNat:Nat):Int)=k:=by omega
  rw[e,Ko (show (aV (putK kvs (Sum.inl k) v) (Sum.inl k)).isSome=true from cQ.mpr (.inl rfl)),Kk (show ¬(aV kvs (Sum.inl k)).isSome=true from hn)]
  decide
theorem Bf.reach {m:Int}{a p:Addr}{ps:List Nat}{i:Nat}{rl:MA.av}(b:Bf H0 H n rs s d q kvs ws (fun k=>k=m)) (hv:aV kvs (Sum.inl m)=some (.ref a)) (ha:H a=some (.lst (aX ps)))
  (hp:MA.Path rs s m ps) (Ou:(s::MA.Oo rs ps).Nodup) (hall: ∀x∈s::MA.Oo rs ps,has kvs x) (hl:ps.length+1<=kvs.length)
  (hr:rs[i]?=some rl) (hb:rl.2.1=m) (k0:0<=rl.1) (k1:rl.1 < n) (hn: ¬has kvs rl.1) (hpp:H p=some (.lst (aX (ps++[i])))) (npq:p≠q) :
  Bf H0 (upd (upd H d (.dK (putK kvs (Sum.inl rl.1) (.ref p)))) q (.lst ((ws++[rl.1]).map V.int))) n rs s d q (putK kvs (Sum.inl rl.1) (.ref p)) (ws++[rl.1]) (fun k=>k=m):=by
 have lenP:(putK kvs (Sum.inl rl.1) (V.ref p)).length=kvs.length+1:=by
  rw[xE _ (by unfold has at hn; simpa using hn),Kr]
  rfl
 have keep: ∀c xs,H c=some (.lst xs)->c≠q->(upd (upd H d (.dK (putK kvs (Sum.inl rl.1) (.ref p)))) q (.lst ((ws++[rl.1]).map V.int))) c=some (.lst xs):=fun c xs e ne=>by
  rw[ao ne,ao (fE e b.hd (by intro z; cases z))]
  exact e
 refine⟨(ao b.ne).trans ag,ag,?_,b.fd,b.fq,fun j hj=>?_,fun j v hj=>?_,cQ.mpr (.inr b.st),fun x hx=>?_,fun j h1 h2 h3 r hrr hrb=>?_,?_⟩
 .exact (b.sm.cN b.fd).cN b.fq
 .rcases cQ.mp hj with rfl | hj
  .exact⟨k0,k1⟩
  .exact b.OB j hj
 .rw[nU] at hj
  by_cases e:j=rl.1
  .rw[Ko (by rw[e])] at hj
   cases hj
   rw[e]
   refine⟨p,ps++[i],rfl,keep p _ hpp npq,npq,.snoc hp hr hb,?_,fun x hx=>?_,?_⟩
   .rw[MA.jl hr,<-NM]
    refine MG.mpr ⟨Ou,Lq.mpr ⟨K8,MH⟩,fun x hx y hy=>?_⟩
    rw[Km.mp hy]
    intro z
    exact hn (z▸hall x hx)
   .rw[MA.jl hr,<-NM] at hx
    rcases Kz.mp hx with hx | hx
    .exact cQ.mpr (.inr (hall x hx))
    .exact cQ.mpr (.inl (Km.mp hx))
   .rw[Kr,lenP]
    show ps.length+1+1<=_
    omega
  .rw[Kk (fun z=>e (MW z))] at hj
   obtain⟨a2,ps2,e1,e2,e3,e4,e5,e6,e7⟩:=b.val j v hj
   exact⟨a2,ps2,e1,keep a2 _ e2 e3,e3,e4,e5,fun x hx=>cQ.mpr (.inr (e6 x hx)),by rw[lenP]; omega⟩
 .rcases Kz.mp hx with hx | hx
  .exact cQ.mpr (.inr (b.wk x hx))
  .exact cQ.mpr (.inl (Km.mp hx))
 .rcases cQ.mp h1 with e | h1
  .exact absurd (K0 _ (by rw[e]; exact Km.mpr rfl)) h2
  .exact cQ.mpr (.inr (b.cl j h1 (fun z=>h2 (Lj _ z)) h3 r hrr hrb))
 .have:=m7 (v:= .ref p) k0 k1 hn
  have:=b.cn
  rw[lenP]
  omega
end
theorem D6 {ps qs:List Nat}:aX (ps++qs)=aX ps++aX qs:=KN
theorem Fy (x:Int): ∀ms:List Int,Of (.int x) (ms.map V.int)=decide (x∈ms)
 | []=>by simp[Of]
 | m::ms=>by
  have:=Fy x ms
  unfold Of at this ⊢
  rw[Lg,LR,this]
  show (m == x || decide (x∈ms))=decide (x∈m::ms)
  by_cases e:m=x
  .subst e; simp
  .have e': ¬x=m:=fun z=>e z.symm
   simp[e,e']
theorem wq: ∀ms:List Int,(ms.map V.int).all bZ=true
 | []=>rfl
 | m::ms=>by rw[Lg,Ny,wq ms]; rfl
end L2
namespace MA
def fM (ws:List Int) (q:av):List Int:=if q.2.1 < 0 then put ws q.1 (mx (g ws q.1) q.2.2) else ws
def du (n:Nat) (rs:List av):List Int:=rs.foldl fM (List.replicate n 0)
def fU (M:Mt) (fs:List Int) (a:Nat) (ws:List Int) (b:Nat):List Int:=if 0<=M a b then put ws (b:Nat) (mx (g ws (b:Nat)) (g fs (a:Nat)+M a b)) else ws
def kn (n:Nat) (M:Mt) (fs:List Int) (ws:List Int) (a:Nat):List Int:=(List.range n).foldl (fU M fs a) ws
def rE (n:Nat) (M:Mt) (fs:List Int):List Int:=(List.range n).foldl (kn n M fs) (List.replicate n 0)
def dE (n:Nat) (rs:List av):List Int:=rE n (aP n rs) (du n rs)
theorem kP {ws:List Int}{q:av}:(fM ws q).length=ws.length:=by
 unfold fM
 split
 .exact mW
 .rfl
theorem kh {M:Mt}{fs ws:List Int}{a b:Nat}:(fU M fs a ws b).length=ws.length:=by
 unfold fU
 split
 .exact mW
 .rfl
theorem iq {α:Type}(f:List Int->α->List Int) (h: ∀ws a,(f ws a).length=ws.length): ∀(l:List α) (ws:List Int),(l.foldl f ws).length=ws.length
 | [],_=>rfl
 | a::l,ws=>(iq f h l (f ws a)).trans (h ws a)
theorem Dn {n:Nat}{rs:List av}:(du n rs).length=n:=(iq _ (fun _ _=>kP) _ _).trans (by simp)
theorem ng {n:Nat}{M:Mt}{fs ws:List Int}{a:Nat}:(kn n M fs ws a).length=ws.length:=iq _ (fun _ _=>kh) _ _
theorem x6 {n:Nat}{M:Mt}{fs:List Int}:(rE n M fs).length=n:=(iq _ (fun _ _=>ng) _ _).trans (by simp)
theorem BN {n:Nat}{rs:List av}(k: ∀r∈rs,N5 n r):(∀i:Int,0<=i->i < n->0<=g (du n rs) i)/\(∀r∈rs,r.2.1= -1->r.2.2<=g (du n rs) r.1) /\
  ∀h:Int->Int,(∀i:Int,0<=i->i < n->0<=h i)->(∀r∈rs,r.2.1= -1->r.2.2<=h r.1)->Le n (g (du n rs)) h:=by
 have up: ∀(l:List av) (ws:List Int),(∀r∈l,N5 n r)->ws.length=n->Le n (g ws) (g (l.foldl fM ws)):=fun l=>by
  induction l with
  | nil=>intro ws _ _ i _ _; exact K2 _
  | cons r l ih =>
   intro ws hk hl i h0 h1
   have kr:=hk r (Ky)
   refine K9 ?_ (ih (fM ws r) (fun x hx=>hk x (Kx _ hx)) (kP.trans hl) i h0 h1)
   unfold fM
   split
   .rw[gQ kr.1 (by rw[hl]; exact kr.2.1) h0]
    split
    .rename_i e; rw[e]; exact fY _ _
    .exact K2 _
   .exact K2 _
 refine⟨fun i h0 h1=>?_,fun r hr hb=>?_,fun h h0 hh=>?_⟩
 .have:=up rs (List.replicate n 0) k (by simp) i h0 h1
  rw[nZ] at this
  exact this
 .have: ∀(l:List av) (ws:List Int),(∀r∈l,N5 n r)->ws.length=n->r∈l->r.2.2<=g (l.foldl fM ws) r.1:=fun l=>by
   induction l with
   | nil=>intro ws _ _ h; cases h
   | cons q l ih =>
    intro ws hk hl hm
    have kq:=hk q (Ky)
    have hk':=fun x hx=>hk x (Kx q hx)
    rcases Ks.mp hm with rfl | hm
    .refine K9 ?_ (up l (fM ws r) hk' (kP.trans hl) r.1 kq.1 kq.2.1)
     unfold fM
     rw[Ko (by omega),gQ kq.1 (by rw[hl]; exact kq.2.1) kq.1,Ko rfl]
     exact jz _ _
    .exact ih (fM ws q) hk' (kP.trans hl) hm
  exact this rs _ k (by simp) hr
 .have: ∀(l:List av) (ws:List Int),(∀r∈l,N5 n r)->(∀r∈l,r.2.1= -1->r.2.2<=h r.1)->ws.length=n->Le n (g ws) h->Le n (g (l.foldl fM ws)) h:=fun l=>by
   induction l with
   | nil=>intro ws _ _ _ hw; exact hw
   | cons q l ih =>
    intro ws hk hh hl hw
    have kq:=hk q (Ky)
    refine ih (fM ws q) (fun x hx=>hk x (Kx _ hx)) (fun x hx=>hh x (Kx _ hx)) (kP.trans hl) fun i i0 i1=>?_
    unfold fM
    split
    .rename_i hb
     rw[gQ kq.1 (by rw[hl]; exact kq.2.1) i0]
     split
     .rename_i e; rw[e]; exact xr (hw _ kq.1 kq.2.1) (hh q (Ky) (by have:=kq.2.2.1; omega))
     .exact hw i i0 i1
    .exact hw i i0 i1
  exact this rs _ k hh (by simp) fun i a b=>by rw[nZ]; exact h0 i a b
theorem FP {n:Nat}{M:Mt}{fs ws:List Int}{a b:Nat}(hb:b < n) (hl:ws.length=n):Le n (g ws) (g (fU M fs a ws b)):=fun i h0 h1=>by
 unfold fU
 split
 .rw[gQ (by omega) (by omega) h0]
  split
  .rename_i e; rw[e]; exact fY _ _
  .exact K2 _
 .exact K2 _
theorem vH {n:Nat}{M:Mt}{fs:List Int}{a:Nat}: ∀(l:List Nat) (ws:List Int),(∀b∈l,b < n)->ws.length=n->Le n (g ws) (g (l.foldl (fU M fs a) ws))
 | [],_,_,_=>fun _ _ _=>K2 _
 | b::l,ws,hb,hl=>fun i h0 h1=>K9 (FP (hb b (Ky)) hl i h0 h1) (vH l (fU M fs a ws b) (fun x hx=>hb x (Kx _ hx)) (kh.trans hl) i h0 h1)
theorem zY {n:Nat}{M:Mt}{fs:List Int}: ∀(l:List Nat) (ws:List Int),ws.length=n->Le n (g ws) (g (l.foldl (kn n M fs) ws))
 | [],_,_=>fun _ _ _=>K2 _
 | a::l,ws,hl=>fun i h0 h1=>K9 (vH (List.range n) ws (fun b hb=>KU.mp hb) hl i h0 h1) (zY l (kn n M fs ws a) (ng.trans hl) i h0 h1)
theorem pB {n:Nat}{M:Mt}{fs:List Int}{a b:Nat}(ha:a < n) (hb:b < n) (hm:0<=M a b):g fs (a:Nat)+M a b<=g (rE n M fs) (b:Nat):=by
 have inner: ∀(l:List Nat) (ws:List Int),(∀b∈l,b < n)->ws.length=n->b∈l->g fs (a:Nat)+M a b<=g (l.foldl (fU M fs a) ws) (b:Nat):=fun l=>by
  induction l with
  | nil=>intro ws _ _ h; cases h
  | cons c l ih =>
   intro ws hl hw hm'
   have hl':=fun x hx=>hl x (Kx c hx)
   rcases Ks.mp hm' with rfl | hm'
   .refine K9 ?_ (vH l (fU M fs a ws b) hl' (kh.trans hw) (b:Nat) (by omega) (by omega))
    unfold fU
    rw[Ko hm,gQ (by omega) (by omega) (by omega),Ko rfl]
    exact jz _ _
   .exact ih (fU M fs a ws c) hl' (kh.trans hw) hm'
 have outer: ∀(l:List Nat) (ws:List Int),ws.length=n->a∈l->g fs (a:Nat)+M a b<=g (l.foldl (kn n M fs) ws) (b:Nat):=fun l=>by
  induction l with
  | nil=>intro ws _ h; cases h
  | cons c l ih =>
   intro ws hw hm'
   rcases Ks.mp hm' with rfl | hm'
   .exact K9 (inner (List.range n) ws (fun b hb=>KU.mp hb) hw (KU.mpr hb)) (zY l (kn n M fs ws a) (ng.trans hw) (b:Nat) (by omega) (by omega))
   .exact ih (kn n M fs ws c) (ng.trans hw) hm'
 exact outer (List.range n) _ (by simp) (KU.mpr ha)
theorem zP {n:Nat}{M:Mt}{fs:List Int}{h:Int->Int}(h0: ∀i:Int,0<=i->i < n->0<=h i) (hh: ∀a b:Nat,a < n->b < n->0<=M a b->g fs (a:Nat)+M a b<=h (b:Nat)):Le n (g (rE n M fs)) h:=by
 refine (gu (fun ws=>ws.length=n/\Le n (g ws) h) _ _ _ ⟨by simp,fun i a b=>by rw[nZ]; exact h0 i a b⟩ fun ws a ha hw=>?_).2
 refine gu (fun ws=>ws.length=n/\Le n (g ws) h) _ _ _ hw fun us b hb hu=>?_
 refine⟨kh.trans hu.1,fun i i0 i1=>?_⟩
 have hb:=KU.mp hb
 unfold fU
 split
 .rename_i hm
  rw[gQ (by omega) (by have:=hu.1; omega) i0]
  split
  .rename_i e
   rw[e]
   exact xr (hu.2 _ (by omega) (by omega)) (hh a b (KU.mp ha) hb hm)
  .exact hu.2 i i0 i1
 .exact hu.2 i i0 i1
theorem CC {n:Nat}{rs:List av}{L:List Int}(k: ∀r∈rs,N5 n r) (h:bA n rs=some L):dE n rs=L:=by
 obtain⟨l1,l2,l3,l4⟩:=dz k h
 obtain⟨f1,f2,f3⟩:=BN k
 have sd:=lB k l2
 have hd: ∀i,i < n->aP n rs i i<=0:=fun i hi=>by
  refine Lh fun c=>?_
  have:=sd i i (by omega)
  omega
 obtain⟨up,dg,cl⟩:=qI hd
 have fL:Le n (g (du n rs)) (g L):=f3 (g L) l3 fun r hr hb=>by
  have:=l2 r hr
  unfold ask at this
  rw[Ko hb] at this
  exact this
 have dl:Le n (g (dE n rs)) (g L):=zP l3 fun a b ha hb hm=>by
  have h1:=sd a b hm
  have h2:=fL (a:Nat) (by omega) (by omega)
  omega
 have d0: ∀i:Int,0<=i->i < n->0<=g (dE n rs) i:=fun i i0 i1=>by
  have e:((i.toNat:Nat):Int)=i:=by omega
  have h1:=pB (n:=n) (M:=aP n rs) (fs:=du n rs) (a:=i.toNat) (b:=i.toNat) (by omega) (by omega) (by rw[dg _ (by omega)]; omega)
  rw[dg _ (by omega),e] at h1
  have:=f1 i i0 i1
  show 0<=g (rE n (aP n rs) (du n rs)) i
  omega
 have dm:Met rs (g (dE n rs)):=fun r hr=>by
  obtain⟨r1,r2,r3,r4,r5⟩:=k r hr
  have e1:((r.1.toNat:Nat):Int)=r.1:=by omega
  unfold ask
  split
  .rename_i hb
   have h1:=pB (n:=n) (M:=aP n rs) (fs:=du n rs) (a:=r.1.toNat) (b:=r.1.toNat) (by omega) (by omega) (by rw[dg _ (by omega)]; omega)
   rw[dg _ (by omega),e1] at h1
   have h2:=f2 r hr hb
   show _<=g (rE n (aP n rs) (du n rs)) r.1
   omega
  .rename_i hb
   have e2:((r.2.1.toNat:Nat):Int)=r.2.1:=by omega
   have hl:r.2.2<=aP n rs r.2.1.toNat r.1.toNat:=K9 (sY (n:=n) rs (M1 n) r hr (by omega)) (up _ _)
   have hb1:=pB (n:=n) (M:=aP n rs) (fs:=du n rs) (a:=r.2.1.toNat) (b:=r.1.toNat) (by omega) (by omega) (by omega)
   rw[e1,e2] at hb1
   have hf:=f1 r.2.1 (by omega) r4
   have:=zP (n:=n) (M:=aP n rs) (fs:=du n rs) (h:=fun v=>if v=r.2.1 then g (dE n rs) r.1 - r.2.2 else g (dE n rs) v) (fun i i0 i1=>?_) (fun a b ha hb' hm=>?_) r.2.1 (by omega) r4
   .have this:g (dE n rs) r.2.1<=if r.2.1=r.2.1 then g (dE n rs) r.1 - r.2.2 else g (dE n rs) r.2.1:=this
    rw[Ko rfl] at this
    omega
   .show 0<=if i=r.2.1 then g (dE n rs) r.1 - r.2.2 else g (dE n rs) i
    split
    .show 0<=g (rE n (aP n rs) (du n rs)) r.1 - r.2.2
     omega
    .exact d0 i i0 i1
   .show g (du n rs) (a:Nat)+aP n rs a b<=if (b:Int)=r.2.1 then g (dE n rs) r.1 - r.2.2 else g (dE n rs) (b:Nat)
    split
    .rename_i e
     have eb:b=r.2.1.toNat:=by omega
     rw[eb] at hm ⊢
     have c:=cl r.2.1.toNat (by omega) a r.1.toNat ha (by omega) hm (by omega)
     have h2:=pB (n:=n) (M:=aP n rs) (fs:=du n rs) (a:=a) (b:=r.1.toNat) ha (by omega) (by omega)
     rw[e1] at h2
     show _<=g (rE n (aP n rs) (du n rs)) r.1 - r.2.2
     omega
    .exact pB ha hb' hm
 refine EH (x6.trans l1.symm) fun i i0 i1=>?_
 have i1:i < n:=by
  have:(dE n rs).length=n:=x6
  omega
 have a:=dl i i0 i1
 have b:=l4 (g (dE n rs)) d0 dm i i0 i1
 omega
inductive Og (rs:List av):Int->List Nat->Prop
 | one {i:Nat}{q:av}:rs[i]?=some q->Og rs q.1 [i]
 | snoc {k:Int}{ps:List Nat}{i:Nat}{q:av}:Og rs k ps->rs[i]?=some q->q.2.1=k->Og rs q.1 (ps++[i])
def fc (rs:List av) (ps:List Nat):Int:=(ps.map (vg rs)).sum
theorem gX {rs:List av}{ps:List Nat}{i:Nat}{q:av}(h:rs[i]?=some q):fc rs (ps++[i])=fc rs ps+q.2.2:=by
 unfold fc
 rw[KN,List.sum_append]
 show _+(vg rs i+0)=_
 rw[Cr h,Int.add_zero]
theorem Og.lt {rs:List av}{k:Int}{ps:List Nat}(h:Og rs k ps): ∀i∈ps,i < rs.length:=by
 induction h with
 | one hi=>intro j hj; rw[Km.mp hj]; exact (Kv.mp hi).1
 | snoc _ hi _ ih =>
  intro j hj
  rcases Kz.mp hj with hj | hj
  .exact ih j hj
  .rw[Km.mp hj]; exact (Kv.mp hi).1
end MA
namespace L2
open PySem PySem.Spec PyProof.Rows
inductive J4 (K:NY) (x y:V) (H:Hp) (Q:VK):Prop | mk (a b:Addr) (ns ms:List Int) (e0:x= .ref a) (e1:y= .ref b) (e2:NX K H a (ns.map V.int)) (e3:NX K H b (ms.map V.int)) (q:Q (.bl (!decide (ns=ms))) H)
end L2
namespace MA
def over (x:Int):Option Int->Bool
 | none=>false
 | some c=>decide (c < x)
def dM (ws:List Int) (cs:List (Option Int)):Option Nat:=(List.range ws.length).find? fun i=>over (g ws (i:Nat)) (cs.getD i none)
theorem va {p:Nat->Bool}: ∀ {n i:Nat},i < n->p i=true->(∀j,j < i->p j=false)->(List.range n).find? p=some i
 | 0,_,h,_,_=>absurd h (LC _)
 | n+1,i,h,hp,hn=>by
  rw[LZ,List.find?_append]
  by_cases e:i < n
  .rw[va e hp hn]
   rfl
  .have e:i=n:=by omega
   subst e
   have:(List.range i).find? p=none:=MQ.mpr fun j hj=>by rw[hn j (KU.mp hj)]; exact KG
   rw[this]
   show ([i].find? p)=some i
   simp[hp]
theorem find_none {p:Nat->Bool}{n:Nat}(h: ∀j,j < n->p j=false):(List.range n).find? p=none:=MQ.mpr fun j hj=>by rw[h j (KU.mp hj)]; exact KG
theorem A7 {ws:List Int}{cs:List (Option Int)}{i:Nat}(hi:i < ws.length) (h:over (g ws (i:Nat)) (cs.getD i none)=true) (hn: ∀j,j < i->over (g ws (j:Nat)) (cs.getD j none)=false):dM ws cs=some i:=va hi h hn
theorem Av {ws:List Int}{cs:List (Option Int)}(h: ∀j,j < ws.length->over (g ws (j:Nat)) (cs.getD j none)=false):dM ws cs=none:=find_none h
def uP (n:Nat) (rs:List av) (L:List Int) (m x:Int):List Int:=it rs n (put L m (g L m+x))
theorem Fw {n:Nat}{rs:List av}{L:List Int}{m x:Int}(k: ∀r∈rs,N5 n r) (h:bA n rs=some L) (m0:0<=m) (m1:m < n) (x0:0<=x):(uP n rs L m x).length=n /\
  ∀v:Nat,v < n->g (uP n rs L m x) (v:Nat)=if 0<=aP n rs m.toNat v then mx (g L (v:Nat)) (g L m+x+aP n rs m.toNat v) else g L (v:Nat):=by
 obtain⟨l1,l2,l3,l4⟩:=dz k h
 have sd:=lB k l2
 have hd: ∀i,i < n->aP n rs i i<=0:=fun i hi=>by
  refine Lh fun c=>?_
  have:=sd i i (by omega)
  omega
 obtain⟨up,dg,cl⟩:=qI hd
 have em:((m.toNat:Nat):Int)=m:=by omega
 have sl:(put L m (g L m+x)).length=n:=mW.trans l1
 have sg: ∀i:Int,0<=i->g (put L m (g L m+x)) i=if i=m then g L m+x else g L i:=fun i i0=>gQ m0 (by omega) i0
 let hh:Int->Int:=fun v=>if 0<=aP n rs m.toNat v.toNat then mx (g L v) (g L m+x+aP n rs m.toNat v.toNat) else g L v
 have hL: ∀v,g L v<=hh v:=fun v=>by
  show g L v<=if 0<=aP n rs m.toNat v.toNat then mx (g L v) (g L m+x+aP n rs m.toNat v.toNat) else g L v
  split
  .exact fY _ _
  .exact K2 _
 have hX: ∀v:Int,0<=aP n rs m.toNat v.toNat->g L m+x+aP n rs m.toNat v.toNat<=hh v:=fun v c=>by
  show _<=if 0<=aP n rs m.toNat v.toNat then mx (g L v) (g L m+x+aP n rs m.toNat v.toNat) else g L v
  rw[Ko c]
  exact jz _ _
 have hC: ∀v:Int,hh v=g L v\/(0<=aP n rs m.toNat v.toNat/\hh v=g L m+x+aP n rs m.toNat v.toNat):=fun v=>by
  by_cases c:0<=aP n rs m.toNat v.toNat
  .have e:hh v=mx (g L v) (g L m+x+aP n rs m.toNat v.toNat):=Ko c
   rcases xk (g L v) (g L m+x+aP n rs m.toNat v.toNat) with z | z
   .exact .inl (e.trans z)
   .exact .inr ⟨c,e.trans z⟩
  .exact .inl (Kk c)
 have hm:Met rs hh:=fun r hr=>by
  obtain⟨r1,r2,r3,r4,r5⟩:=k r hr
  have a:=l2 r hr
  unfold ask at a ⊢
  split
  .rename_i e
   rw[Ko e] at a
   exact K9 a (hL _)
  .rename_i e
   rw[Kk e] at a
   have hb:=hL r.1
   rcases hC r.2.1 with z | ⟨c,z⟩
   .rw[z]; omega
   .rw[z]
    have hl:r.2.2<=aP n rs r.2.1.toNat r.1.toNat:=K9 (sY (n:=n) rs (M1 n) r hr (by omega)) (up _ _)
    have c2:=cl r.2.1.toNat (by omega) m.toNat r.1.toNat (by omega) (by omega) c (by omega)
    have:=hX r.1 (by omega)
    omega
 have hst:Le n (g (put L m (g L m+x))) hh:=fun i i0 i1=>by
  rw[sg i i0]
  split
  .rename_i e
   rw[e]
   have:=hX m (by rw[dg _ (by omega)]; omega)
   rw[dg _ (by omega)] at this
   omega
  .exact hL i
 have st:=yw k sl hm hst
 have rl:(uP n rs L m x).length=n:=(pH _ _ _).trans sl
 have rm:Met rs (g (uP n rs L m x)):=jb k rl st
 have ru:=uM k n (put L m (g L m+x)) sl
 have rle:=uT k hm n (put L m (g L m+x)) sl hst
 refine⟨rl,fun v hv=>?_⟩
 have e1:hh (v:Nat)=if 0<=aP n rs m.toNat v then mx (g L (v:Nat)) (g L m+x+aP n rs m.toNat v) else g L (v:Nat):=rfl
 rw[<-e1]
 have a:=rle (v:Nat) (by omega) (by omega)
 have b:=ru (v:Nat) (by omega) (by omega)
 rw[sg (v:Nat) (by omega)] at b
 have bm:=ru m m0 m1
 rw[sg m m0,Ko rfl] at bm
 have s2:=lB k rm m.toNat v
 rw[em] at s2
 have bL:g L (v:Nat)<=g (it rs n (put L m (g L m+x))) (v:Nat):=by
  split at b
  .rename_i e
   have:g L (v:Nat)=g L m:=by rw[e]
   omega
  .exact b
 show g (it rs n (put L m (g L m+x))) (v:Nat)=hh (v:Nat)
 have s2:0<=aP n rs m.toNat v->g (it rs n (put L m (g L m+x))) m+aP n rs m.toNat v<=g (it rs n (put L m (g L m+x))) (v:Nat):=s2
 rcases hC (v:Nat) with z | ⟨c,z⟩
 .omega
 .have c:0<=aP n rs m.toNat v:=c
  have z:hh (v:Nat)=g L m+x+aP n rs m.toNat v:=z
  have:=s2 c
  omega
def lA (n:Nat) (rs:List av) (L:List Int) (cs:List (Option Int)) (m:Int):Option (Int×Nat)->Prop
 | none=> ∀(v:Nat) (c:Int),v < n->cs.getD v none=some c->aP n rs m.toNat v < 0
 | some (s,stop)=>0<=s/\stop < n/\(∃c,cs.getD stop none=some c/\0<=aP n rs m.toNat stop/\c=g L m+s+aP n rs m.toNat stop) /\
   (∀(v:Nat) (c:Int),v < n->cs.getD v none=some c->0<=aP n rs m.toNat v->g L m+s+aP n rs m.toNat v<=c)/\ ∀(v:Nat) (c:Int),v < stop->cs.getD v none=some c->0<=aP n rs m.toNat v->g L m+s+aP n rs m.toNat v < c
def Within (n:Nat) (L:List Int) (cs:List (Option Int)):Prop:= ∀(v:Nat) (c:Int),v < n->cs.getD v none=some c->g L (v:Nat)<=c
section
variable {n:Nat}{rs:List av}{L:List Int}{cs:List (Option Int)}{m:Int}
end
end MA
namespace L2
open PySem PySem.Spec PyProof.Rows
inductive HR (K:NY) (xs:List V) (H:Hp) (Q:VK):Prop | mk (a:Addr) (ns:List Int) (e0:xs=[.ref a]) (e1:NX K H a (ns.map V.int)) (q:Q (.int ns.sum) H)
def Er (K:NY):List V->Hp->VK->Prop:=fun xs H Q=>HR K xs H Q
theorem yL {X:Cx}(hc:X.calm=true):de X (.builtin "sum") (Er X.K):=by
 intro NV s σ H xs us Q I r h
 obtain⟨a,ns,rfl,ha,q⟩:=h
 obtain⟨u,rfl,ru⟩:=vals1 r
 cases ru
 obtain⟨its,rv,pl,hz⟩:=I.list ha
 have hi:IntsAre its ns:=intsAre_of rv
 obtain⟨zs,e⟩:=hi.allInts.items
 have hn:(numsOf its.toArray.toList).sum=ns.sum:=by rw[show its.toArray.toList=its from rfl,hi.numsOf]
 refine sum_intListG (I.ok.hd hc) (e▸pl.isList) fun h' tk t' hk=>?_
 refine⟨.int ns.sum,H,I.kept (t':=tk) hk,⟨t',?_⟩,q⟩
 rw[<-hn,e,nums_intItems,preSum_eq,LO (by simp)]
def fG:Option Int->V
 | none=> .non
 | some c=> .int c
theorem Hf {cs:List (Option Int)}{k:Nat}(h:k < cs.length):Ob (cs.map fG) (k:Nat)=some (fG (cs.getD k none)):=cm (by rw[KD,Kl h,Ku,Kl h]; rfl)
def TM (K:NY) (C:Addr) (m qual:Str) (st:Stmt):Prop:= ∃f fd,Meth K C m f/\O7 K m qual st f fd
def GM (CX:Ox) (P:Program) (w:World) (K:NY) (mg:Str->Option Value) (base:Heap) (k:Nat) (C:Addr) (m:Str) (ps:List Str) (sp:Sp):Prop :=
 ∃f fd,Meth K C m f/\Binds K fd ps []/\eY P w K mg base CX k f fd ps sp
abbrev OY:=GM OA
abbrev OC (P:Program) (w:World):=GM (OM P w) P w
section
variable {P:Program}{w:World}{K:NY}{mg:Str->Option Value}{base:Heap}{C:Addr}{m qual:Str}{st:Stmt}{N ps:List Str}{k:Nat}{sp:Sp}
theorem cZ {f:Addr}{oc:Value}{od an:Option Addr}{osl:Array (Option Value)}{kV doc pm cdv ct:Value}(a:PySem.W.findIn K (.ref C) m=some (some (.ref f))) (i:PySem.W.isFn K (.ref f)=true)
  (l:K.lookup f=some ⟨oc,od,.func (PySem.W.fnOf m qual (fQ st) (dF st) (aq st) .none kV doc pm an cdv ct),osl⟩) (c:PySem.W.codeIn K cdv qual=true) (k:PySem.W.keepIn K (.ref f)=true):TM K C m qual st :=
 ⟨f,_,⟨a,i,k⟩,Ce (st:=st) l c k⟩
theorem jO (h:TM K C m qual st) (S:aE N ps (aq st))
  (hb: ∀(kV doc pm:Value) (an:Option Addr) (cdv ct:Value) (us:List Value),us.length=ps.length->bindArgs (PySem.W.fnOf m qual (fQ st) (dF st) (aq st) .none kV doc pm an cdv ct) ⟨us,[]⟩=pure (ps.zip us))
  (len: ∀vs H Q E,sp vs H Q E->vs.length=ps.length)
  (hbody: ∀(f:Addr) (cdv:Value) (A:Around) (outer:List Env) (s:Shared) (H:Hp) (vs:List V) (Q:VK) (E:XK),cf k (A.deeper (envOfC qual (aq st) s.heap.objs.size f cdv))->sp vs H Q E ->
   ∃t,Ol (jV OA P w K mg base N qual (aq st) f cdv A outer s H E).O9 (dF st) t/\t { nx:=fun _ H'=>Q .non H',rt:=Q } (start N vs) H):GM OA P w K mg base (k+1) C m ps sp:=by
 obtain⟨f,fd,hm,F⟩:=h
 exact⟨f,fd,hm,F.binds hb,F.ok S len fun cdv A outer s H vs Q E hr hs=>hbody f cdv A outer s H vs Q E hr hs⟩
theorem eG (h:TM K C m qual st) (S:aE N ps (aq st))
  (hb: ∀(kV doc pm:Value) (an:Option Addr) (cdv ct:Value) (us:List Value),us.length=ps.length->bindArgs (PySem.W.fnOf m qual (fQ st) (dF st) (aq st) .none kV doc pm an cdv ct) ⟨us,[]⟩=pure (ps.zip us))
  (len: ∀vs H Q E,sp vs H Q E->vs.length=ps.length)
  (hbody: ∀(f:Addr) (cdv:Value) (A:Around) (outer:List Env) (s:Shared) (H:Hp) (vs:List V) (Q:VK) (E:XK),cf k (A.deeper (envOfC qual (aq st) s.heap.objs.size f cdv))->sp vs H Q E ->
   ∃t,Ol ((jV (OM P w) P w K mg base N qual (aq st) f cdv A outer s H E).exc [] fun _=>E) (dF st) t/\t { nx:=fun _ H'=>Q .non H',rt:=Q } (start N vs) H):GM (OM P w) P w K mg base (k+1) C m ps sp:=by
 obtain⟨f,fd,hm,F⟩:=h
 obtain⟨oc,od,kV,doc,pm,an,cdv,ct,osl,rfl,lk,hcd⟩:=id F.ex
 refine⟨f,_,hm,F.binds hb,Az lk hcd S len fun A outer s H vs Q E hr hs=>?_⟩
 obtain⟨t,h1,h2⟩:=hbody f cdv A outer s H vs Q E hr hs
 exact⟨t,xK h1,h2⟩
theorem GM.x (F:GM OA P w K mg base k C m ps sp):GM (OM P w) P w K mg base k C m ps sp:=by
 obtain⟨f,fd,a,b,d⟩:=F
 exact⟨f,fd,a,b,d.Gu⟩
theorem GM.mono {CX:Ox}{j:Nat}(F:GM CX P w K mg base j C m ps sp) (h:j<=k):GM CX P w K mg base k C m ps sp:=by
 obtain⟨f,fd,a,b,d⟩:=F
 exact⟨f,fd,a,b,d.mono h⟩
end
section
variable {X:Cx}{k:Nat}{C:Addr}{m:Str}{ps:List Str}{sp:Sp}{p pos apos:Pos}{o e:Expr}{es:List Expr}{ta:TE}{t:TA}
theorem xS {pl:Sem Bool}(c:Oy X.K C) (G:GM OA X.prog X.w X.K X.mg X.base k C m ps sp) (hr:cf k X.A) (he:PE X o ta) (ha:PA X (e::es) t)
  (hst:starEach (e::es) X.env=(false,eval e X.env)::starEach es X.env:=by rfl) (hpl:(backTo pos (starEach es X.env)).any (·.1)=false:=by rfl)
  (ht:eval (.Call (.Attribute o m apos) (e::es) [] pos) X.env=(do
   let ov <-eval o X.env
   standAt apos.atName
   let (f,first) <-holding [ov] (getMethod ov m pl)
   callWith pos f first (backTo pos (starEach (e::es) X.env)) (backToKw pos (keywordEach [] X.env))):=by rfl) :
  PE X (.Call (.Attribute o m apos) (e::es) [] pos) (xj C m sp [] E0 ta t):=by
 obtain⟨f,fd,hm,hb,F⟩:=G
 exact FZ he c hm F hr hb .nil xt ha hst hpl ht
theorem dq {pl:Sem Bool}(c:Oy X.K C) (G:GM OA X.prog X.w X.K X.mg X.base k C m ps sp) (hr:cf k X.A) (he:PE X o ta)
  (ht:eval (.Call (.Attribute o m apos) [] [] pos) X.env=(do
   let ov <-eval o X.env
   standAt apos.atName
   let (f,first) <-holding [ov] (getMethod ov m pl)
   callWith pos f first (backTo pos (starEach [] X.env)) (backToKw pos (keywordEach [] X.env))):=by rfl) :
  PE X (.Call (.Attribute o m apos) [] [] pos) (xj C m sp [] E0 ta oE):=by
 obtain⟨f,fd,hm,hb,F⟩:=G
 exact DC he c hm F hr hb .nil xt ht
end
section
variable {X:Cx}{pn:List (Addr×Obj)}{E:St->XK}{k:Nat}{C:Addr}{m:Str}{ps:List Str}{sp:Sp}{p pos apos:Pos}{o e:Expr}{es:List Expr}{ta:TE}{t:TA}
inductive E4 (C:Addr) (m:Str) (x:V) (H1:Hp) (k:Prop):Prop | mk (a dx fs:_) (e0:x= .ref a) (e1:H1 a=some (.ins C dx fs)) (e2:fs.lookup m=none) (q:k)
def Cd (C:Addr) (m:Str) (sp:Sp) (E:St->XK) (ta:TE) (t:TA):TE:=fun σ H Q=>ta σ H fun x H1=>E4 C m x H1 (t σ H1 fun vs H2=>sp (x::(vs++[])) H2 Q (E σ))
theorem cy {pl:Sem Bool}(c:Oy X.K C) (G:GM (OM X.prog X.w) X.prog X.w X.K X.mg X.base k C m ps sp) (hr:cf k X.A) (he:PE (X.exc pn E) o ta) (ha:PA (X.exc pn E) (e::es) t)
  (hst:starEach (e::es) X.env=(false,eval e X.env)::starEach es X.env:=by rfl) (hpl:(backTo pos (starEach es X.env)).any (·.1)=false:=by rfl)
  (ht:eval (.Call (.Attribute o m apos) (e::es) [] pos) X.env=(do
   let ov <-eval o X.env
   standAt apos.atName
   let (f,first) <-holding [ov] (getMethod ov m pl)
   callWith pos f first (backTo pos (starEach (e::es) X.env)) (backToKw pos (keywordEach [] X.env))):=by rfl) :
  PE (X.exc pn E) (.Call (.Attribute o m apos) (e::es) [] pos) (Cd C m sp E ta t):=by
 obtain⟨f,fd,hm,hb,F⟩:=G
 intro NV s σ H Q I h
 refine Me (pl:=pl) (N0 (he NV s σ H _ I h) fun u s1 hm=>?_) ht
 obtain⟨x,H1,I1,rx,a,dx,fs,ex,ea,l,q⟩:=hm
 subst ex
 obtain rfl:u=Value.ref a:=rx
 refine jY I1 ea c hm l ?_
 refine MP (first:=[.ref a]) (h₀:=X.base) I.ok.mod.kin hm.kp (N0 (ha pos NV s1 σ H1 _ I1 q) fun us s2 ⟨vs,H2,I2,r,q2⟩=>⟨I2.Ow,?_⟩) hst hpl
 exact vy (us:= .ref a::us) (vs:= .ref a::vs) F hr hb I2 (.cons rfl r) q2
theorem bc {pl:Sem Bool}(c:Oy X.K C) (G:GM (OM X.prog X.w) X.prog X.w X.K X.mg X.base k C m ps sp) (hr:cf k X.A) (he:PE (X.exc pn E) o ta)
  (ht:eval (.Call (.Attribute o m apos) [] [] pos) X.env=(do
   let ov <-eval o X.env
   standAt apos.atName
   let (f,first) <-holding [ov] (getMethod ov m pl)
   callWith pos f first (backTo pos (starEach [] X.env)) (backToKw pos (keywordEach [] X.env))):=by rfl) :
  PE (X.exc pn E) (.Call (.Attribute o m apos) [] [] pos) (Cd C m sp E ta oE):=by
 obtain⟨f,fd,hm,hb,F⟩:=G
 intro NV s σ H Q I h
 refine Me (pl:=pl) (N0 (he NV s σ H _ I h) fun u s1 hm=>?_) ht
 obtain⟨x,H1,I1,rx,a,dx,fs,ex,ea,l,q⟩:=hm
 subst ex
 obtain rfl:u=Value.ref a:=rx
 refine jY I1 ea c hm l ?_
 exact Nj (first:=[.ref a]) I1.Ow hm.kp (vy (us:=[.ref a]) (vs:=[.ref a]) F hr hb I1 (.cons rfl .nil) q)
end
def GI (P:Program) (w:World) (K:NY) (mg:Str->Option Value) (base:Heap) (k:Nat) (C:Addr) (x:Str) (ps:List Str) (sp:Sp):Prop :=
 mg x=some (.ref C)/\ ∃f fd,Mk K C f/\Binds K fd ps []/\eY P w K mg base OA k f fd ps sp
theorem Il {P:Program}{w:World}{K:NY}{mg:Str->Option Value}{base:Heap}{k:Nat}{C:Addr}{x:Str}{ps:List Str}{sp:Sp}(hx:mg x=some (.ref C)) (hmk:PySem.W.makesIn K C=true) (hk:PySem.W.keepIn K (.ref C)=true) (G:GM OA P w K mg base k C "__init__" ps sp):GI P w K mg base k C x ps sp:=by
 obtain⟨f,fd,hm,hb,F⟩:=G
 exact⟨hx,f,fd,⟨hmk,hm.at_,hm.fn,hk⟩,hb,F⟩
section
variable {X:Cx}{k:Nat}{C:Addr}{x:Str}{ps:List Str}{sp:Sp}{p pos:Pos}{e:Expr}{es:List Expr}{t:TA}
theorem BA (G:GI X.prog X.w X.K X.mg X.base k C x ps sp) (hr:cf (k+1) X.A) (hg:Gl X x:=by rfl) (hdb:(x == ("__debug__" : Str))=false:=by decide):PE X (.Call (.Name x p) [] [] pos) (EF C sp [] E0 oE):=by
 obtain⟨hx,f,fd,M,hb,F⟩:=G
 exact CZ M F hr hg hx hb .nil xt hdb
end
structure TC (K:NY) (mg:Str->Option Value) (C:Addr) (x:Str):Prop where
 cl:Oy K C
 mg:mg x=some (.ref C)
 mks:PySem.W.makesIn K C=true
 kp:PySem.W.keepIn K (.ref C)=true
theorem bt {f g:Str}{v:V}{r:List (Str×V)}(h:(f == g)=false):List.lookup f ((g,v)::r)=List.lookup f r:=by
 rw[LA,h]
theorem bw {f:Str}{v:V}{r:List (Str×V)}:List.lookup f ((f,v)::r)=some v:=by
 rw[LA,show (f == f)=true from by simp]
theorem mV {f g:Str}{v x:V}{r:List (Str×V)}(h:(f == g)=false):gq f v ((g,x)::r)=(g,x)::gq f v r:=by
 have: ¬g=f:=fun e=>by rw[e] at h; simp at h
 show (if g=f then _ else _)=_
 rw[Kk this]
theorem kX {f:Str}{v x:V}{r:List (Str×V)}:gq f v ((f,x)::r)=(f,v)::r:=by
 show (if f=f then _ else _)=_
 rw[Ko rfl]
def jT (z:Str) (lo hi:Option Int):List Nat:=(z.cps.toList.drop (HT.Oc z.length 0 lo)).take (HT.Oc z.length z.length hi - HT.Oc z.length 0 lo)
theorem Fv (lo:Option Int) (n:Nat):(match lo with | none=>(0:Int) | some i=>let i:=if i < 0 then i+(n:Int) else i; if (1:Int) > 0 then max 0 (min i (n:Int)) else max (-1) (min i ((n:Int) - 1)))=((HT.Oc n 0 lo:Nat):Int):=by
 cases lo with
 | none=>rfl
 | some i =>
  simp only[HT.Oc,show (1:Int) > 0 by decide,if_true]
  by_cases h:i < 0
  .simp only[h,if_true] <;> omega
  .simp only[h,if_false] <;> omega
theorem EY (hi:Option Int) (n:Nat):(match hi with | none=>(n:Int) | some i=>let i:=if i < 0 then i+(n:Int) else i; if (1:Int) > 0 then max 0 (min i (n:Int)) else max (-1) (min i ((n:Int) - 1)))=((HT.Oc n n hi:Nat):Int):=by
 cases hi with
 | none=>rfl
 | some i =>
  simp only[HT.Oc,show (1:Int) > 0 by decide,if_true]
  by_cases h:i < 0
  .simp only[h,if_true] <;> omega
  .simp only[h,if_false] <;> omega
theorem yd (lo hi:Option Int) (n:Nat):Builtin.Str.strSliceIndices lo hi 1 n=(List.range (HT.Oc n n hi - HT.Oc n 0 lo)).map (HT.Oc n 0 lo+ ·):=by
 unfold Builtin.Str.strSliceIndices
 simp only[]
 rw[<-sliceRange_one,<-Fv lo n,<-EY hi n]
 rfl
inductive IA (x:V) (lo hi:Option Int) (H:Hp) (Q:VK):Prop | mk (z:_) (e0:x= .str z) (e1:z.length<=sizeLine) (q: ∀r:Str,r.cps.toList=jT z lo hi->Q (.str r) H)
def Jw:V->Option Int->Option Int->Hp->VK->Prop:=fun x lo hi H Q=>IA x lo hi H Q
theorem part_of {v:Value}{o:Option Int}(h:IsPart v o): ∃p,v=partValue p/\p.map (·.1)=o:=by
 cases h with
 | none=>exact⟨none,rfl,rfl⟩
 | int i t=>exact⟨some (i,t),rfl,rfl⟩
theorem BZ {X:Cx}:OT X Jw:=by
 intro NV s σ H x v vl vu lo hi sl Q I rx hs pl pu h
 obtain⟨z,rfl,hz,q⟩:=h
 obtain⟨t,rfl⟩:=rx
 refine⟨"str",_,F.slot_str_getitem.lookup,typeIs_str _ _ _,?_⟩
 obtain⟨p1,rfl,e1⟩:=part_of pl
 obtain⟨p2,rfl,e2⟩:=part_of pu
 obtain⟨o,ho,hc,hd⟩:=hs
 refine wpAny_getItem_str_slice (l:=p1) (u:=p2) (st:=none) ⟨o,ho,hc,hd⟩ rfl ?_
 have ep:slicePicked z p1 p2 none=(List.range (HT.Oc z.length z.length hi - HT.Oc z.length 0 lo)).map (HT.Oc z.length 0 lo+ ·):=by
  unfold slicePicked
  rw[e1,e2]
  exact yd lo hi z.length
 have er:(slicePicked z p1 p2 none).filterMap (z.cps[·]?)=jT z lo hi:=by
  rw[ep,pick_run]
  rfl
 unfold sliceMade
 split
 .rename_i c
  refine⟨.str z,H,I,⟨t,rfl⟩,q z ?_⟩
  have c2:(slicePicked z p1 p2 none).length=z.length:=by
   have:=(Lc _ _▸c).2
   exact beq_iff_eq.mp this
  rw[ep,Kj,Lw] at c2
  have h1:HT.Oc z.length z.length hi<=z.length:=HT.BG _ _ (Kn _) _
  have h2:HT.Oc z.length 0 lo<=z.length:=HT.BG _ _ (Ln _) _
  unfold jT
  by_cases hz0:z.length=0
  .have:z.cps.toList=[]:=MD (by simpa [Str.length] using hz0)
   rw[this]
   simp
  .have a0:HT.Oc z.length 0 lo=0:=by omega
   rw[a0,List.drop_zero,Nat.sub_zero,LO (by rw[show z.cps.toList.length=z.length from by simp[Str.length]]; omega)]
 .refine⟨?_,.str ⟨((slicePicked z p1 p2 none).filterMap (z.cps[·]?)).toArray⟩,H,I.tok _,⟨_,rfl⟩,q _ ?_⟩
  .rw[er]
   have:(jT z lo hi).length<=z.length:=by
    unfold jT
    rw[K4,Ls]
    have:z.cps.toList.length=z.length:=by simp[Str.length]
    omega
   show (jT z lo hi).toArray.size<=sizeLine
   rw[KC]
   omega
  .show ((slicePicked z p1 p2 none).filterMap (z.cps[·]?)).toArray.toList=jT z lo hi
   rw[List.toList_toArray]
   exact er
inductive Hv (x y:V) (H:Hp) (Q:VK):Prop | mk (z:Str) (n:Int) (e0:x= .str z) (e1:y= .int n) (e2:0<=n) (e3:n<=1000) (e4:z.length<=1000) (q: ∀r:Str,r.cps.toList=(List.replicate n.toNat z.cps.toList).flatten->Q (.str r) H)
def IG:R2:=fun x y H Q=>Hv x y H Q
theorem zZ (c:Array Nat): ∀n:Nat,((List.replicate n c).foldl (· ++ ·) #[]).toList=(List.replicate n c.toList).flatten:=by
 have: ∀(n:Nat) (b:Array Nat),((List.replicate n c).foldl (· ++ ·) b).toList=b.toList++(List.replicate n c.toList).flatten:=fun n=>by
  induction n with
  | zero=>intro b; simp
  | succ n ih =>
   intro b
   rw[Lv,List.foldl_cons,ih,Lv,LJ,Array.toList_append,Mo]
 intro n
 rw[this]
 rfl
theorem zv {X:Cx}:N7 X (binaryOp .Mult) IG:=by
 intro NV s σ H x y v u Q I rx ry h
 obtain⟨z,n,rfl,rfl,n0,n1,hz,q⟩:=h
 obtain⟨t,rfl⟩:=rx
 obtain⟨t',rfl⟩:=ry
 have big:z.length*n.toNat<=1000000:=KP (Nat.mul_le_mul hz (show n.toNat<=1000 by omega)) (by decide)
 have b2:z.length*n.toNat<=sizeLine:=KP big (by decide)
 refine P.mul_str (by simp; omega) (fun h1 h2=>?_) (fun h1 h2=>?_) ?_
 .have h3:(1000:Int)<=(2 ^ 63 - 1) / n:=Int.le_ediv_of_mul_le (by omega) (by omega)
  omega
 .show decide (z.length*n.toNat > sizeLine)=false
  exact KH (by omega)
 .by_cases c:n < 1
  .rw[Ko c]
   refine⟨by decide,.str Str.empty,H,I.tok _,⟨_,rfl⟩,q _ ?_⟩
   rw[show n.toNat=0 by omega]
   rfl
  .rw[Kk c]
   split
   .rename_i d
    refine⟨.str z,H,I,⟨t,rfl⟩,q z ?_⟩
    rcases Bool.or_eq_true _ _▸d with d | d
    .have:n=1:=beq_iff_eq.mp d
     rw[this]
     simp
    .have e:z.cps.toList=[]:=MD (by simpa [Str.length] using d)
     rw[e]
     simp
   .refine⟨?_,.str ⟨(List.replicate n.toNat z.cps).foldl (· ++ ·) #[]⟩,H,I.tok _,⟨_,rfl⟩,q _ (zZ _ _)⟩
    show ((List.replicate n.toNat z.cps).foldl (· ++ ·) #[]).size<=sizeLine
    rw[<-Nh,zZ]
    simp
    have:z.cps.size=z.length:=rfl
    rw[this,Nat.mul_comm]
    exact b2
inductive Ed (x:V) (vs:List V) (H:Hp) (Q:VK):Prop | mk (l:Addr) (xs:List Str) (y:Str) (j:Nat) (e0:x= .ref l) (e1:vs=[.str y]) (e2:H l=some (.lst (xs.map V.str))) (e3:xs[j]?=some y) (e4:(∀m,m < j->xs[m]?≠some y)) (q:Q .non (upd H l (.lst ((xs.eraseIdx j).map V.str))))
def E5:V->List V->Hp->VK->Prop:=fun x vs H Q=>Ed x vs H Q
theorem uK: ∀ {xs:List V}{us:List Value}(j:Nat),Vals xs us->Vals (xs.eraseIdx j) (us.eraseIdx j)
 | _,_,_,.nil=> .nil
 | _,_,0,.cons _ t=>t
 | _,_,j+1,.cons r t=> .cons r (uK j t)
theorem wb {α β:Type}(f:α->β): ∀(l:List α) (j:Nat),(l.map f).eraseIdx j=(l.eraseIdx j).map f
 | [],_=>rfl
 | _::_,0=>rfl
 | a::l,j+1=>by
  show f a::(l.map f).eraseIdx j=f a::(l.eraseIdx j).map f
  rw[wb f l j]
theorem Bt {X:Cx}:O3 X "list.remove" E5:=by
 intro NV s σ H x vs v us Q I rx rv h
 obtain⟨l,xs,y,j,rfl,rfl,hH,hj,hno,q⟩:=h
 cases rx
 obtain⟨u,rfl,t,rfl⟩:=rv.one
 obtain⟨z,its,n,r,hl,e⟩:=I.mh hH
 have hlen:its.length=xs.length:=by rw[<-hl,Kj]
 have val: ∀m (hm:m < its.toArray.size),∃k t,xs[m]?=some k/\its.toArray[m]=Value.str k t:=fun m hm=>by
  have hm':m < xs.length:=by simpa [hlen] using hm
  obtain⟨u,hu,t,rfl⟩:=r.get (i:=m) (x:= .str xs[m]) (by rw[KD,Kl hm']; rfl)
  refine⟨xs[m],t,Kl hm',?_⟩
  have:=(Kv.mp hu).2
  simpa using this
 have hjl:j < xs.length:=(Kv.mp hj).1
 let eq:Value->Bool:=fun w=>match w with | .str k _=>k == y | _=>false
 have he: ∀w,w∈its.toArray->MeetsSeq.EqGives w (.str y t) (eq w):=fun w hw=>by
  obtain⟨m,hm,rfl⟩:=M3.mp hw
  obtain⟨k,t',_,e2⟩:=val m hm
  rw[e2]
  exact fun prog w A E s Q h=>Nr k t' y t prog w E Q h
 have hjs:j < its.toArray.size:=by rw[KC,hlen]; exact hjl
 refine L9 F.slot_list_remove ⟨_,e,rfl⟩ F.entry_list_remove (F.args_list_remove_2 _ _) (MeetsSeq.list_remove l its.toArray n (.str y t) eq he j hjs ?_ ?_ ?_) ⟨e,?_⟩
 .obtain⟨k,t',e1,e2⟩:=val j hjs
  rw[e2]
  rw[hj] at e1
  cases e1
  simp[eq]
 .intro m hm hmj
  obtain⟨k,t',e1,e2⟩:=val m hm
  rw[e2]
  have:k≠y:=fun z=>hno m hmj (z▸e1)
  simpa [eq] using this
 .rw[KC]
  omega
 .have ee:its.toArray.eraseIdxIfInBounds j=(its.eraseIdx j).toArray:=by
   unfold Array.eraseIdxIfInBounds
   rw[dif_pos hjs]
   simp
  refine⟨.non,_,I.vG (its':=its.eraseIdx j) hH e ?_ (by rw[<-wb]; exact uK j r) ?_,rfl,q⟩
  .exact ee
  .rw[Kj]
   rw[Kj] at z
   exact KP (List.length_eraseIdx_le _ _) z
theorem jv (a b:Str):(a++b).cps.toList=a.cps.toList++b.cps.toList:=by
 show (a.cps++b.cps).toList=_
 rw[Array.toList_append]
theorem yg: ∀ys:List Str,(Str.join (Str.ofString "") ys).cps.toList=(ys.map fun y=>y.cps.toList).flatten
 | []=>rfl
 | [y]=>by
  show y.cps.toList=_
  simp
 | y::z::r=>by
  show ((y++Str.ofString "")++Str.join (Str.ofString "") (z::r)).cps.toList=_
  rw[jv,jv,yg (z::r)]
  show y.cps.toList++[]++_=y.cps.toList++_
  rw[Ly]
theorem yE (ys:List Str):(Txt.join (Str.ofString "") ys).cps.toList=(ys.map fun y=>y.cps.toList).flatten:=by
 show (Builtin.Str.glued (Str.ofString "") ys).cps.toList=_
 rw[StrLaws.glued_eq_join,yg]
def small (c:Nat):Prop:=97<=c/\c<=122
def Pe (cs:List Nat):Prop:=1<=cs.length/\cs.length<=8/\ ∀c∈cs,small c
def Nm (y:Str):Prop:=Pe y.cps.toList
theorem Nm.len {y:Str}(h:Nm y):y.length<=8:=by
 have:y.cps.toList.length=y.length:=by simp[Str.length]
 have:=h.2.1
 omega
def pX:Str:= "abcdefghijklmnopqrstuvwxyz"
theorem zw:pX.cps.toList.length=26:=by trivial
theorem Cm: ∀c∈pX.cps.toList,small c:=by
 unfold small
 decide +kernel
theorem BP {α:Type}{xs:List α}{i:Int}(h0:0<=i) (h1:i < xs.length): ∃x,Ob xs i=some x/\x∈xs:=by
 have hn:i.toNat < xs.length:=by omega
 refine⟨xs[i.toNat],?_,LU hn⟩
 have e:i=((i.toNat:Nat):Int):=by omega
 have h:=cm (xs:=xs) (j:=i.toNat) (v:=xs[i.toNat]) (by simp)
 rwa [<-e] at h
theorem Ct (m:Int): ∃c,Ob pX.cps.toList (m % 26)=some c/\small c:=by
 obtain⟨c,h1,h2⟩:=BP (xs:=pX.cps.toList) (i:=m % 26) (by omega) (by rw[zw]; omega)
 exact⟨c,h1,Cm c h2⟩
theorem zz (n:Nat) (d:Nat) (k:Int) (h:0<=k):HT.Oc n d (some k)=min k.toNat n:=by
 unfold HT.Oc
 simp only[]
 rw[Kk (by omega)]
end L2
namespace MA
variable {n:Nat}{rs:List av}{L:List Int}
structure OJ (n:Nat) (rs:List av) (L:List Int):Prop where
 k: ∀r∈rs,N5 n r
 met:Met rs (g L)
 nn: ∀i:Int,0<=i->i < n->0<=g L i
 len:L.length=n
theorem Og.OB (w:OJ n rs L){k:Int}{ps:List Nat}(h:Og rs k ps):0<=k/\k < n:=by
 cases h with
 | one hi=>have:=w.k _ (Kp hi); exact⟨this.1,this.2.1⟩
 | snoc _ hi _=>have:=w.k _ (Kp hi); exact⟨this.1,this.2.1⟩
theorem jh {i:Nat}{q:av}(h:rs[i]?=some q):fc rs [i]=q.2.2:=by
 have:=gX (ps:=[]) h
 simpa [fc] using this
theorem Og.le (w:OJ n rs L){k:Int}{ps:List Nat}(h:Og rs k ps):fc rs ps<=g L k:=by
 induction h with
 | @one i q hi =>
  have m:=Kp hi
  obtain⟨a1,a2,a3,a4,a5⟩:=w.k _ m
  have:=w.met _ m
  unfold ask at this
  rw[jh hi]
  split at this
  .exact this
  .have:=w.nn q.2.1 (by omega) a4
   omega
 | @snoc k ps i q hp hi hb ih =>
  have m:=Kp hi
  have:=w.met _ m
  have hr:=hp.OB w
  unfold ask at this
  rw[Kk (by omega),hb] at this
  rw[gX hi]
  omega
theorem Ba (w:OJ n rs L){k:Int}{ps:List Nat}{i:Nat}{q:av}(hp:Og rs k ps) (hi:rs[i]?=some q) (hb:q.2.1=k) (e:fc rs (ps++[i])=g L q.1):fc rs ps=g L k/\g L q.1=g L k+q.2.2:=by
 have m:=Kp hi
 have:=w.met _ m
 have hr:=hp.OB w
 have:=hp.le w
 unfold ask at *
 rw[Kk (by omega),hb] at *
 rw[gX hi] at e
 omega
theorem vI {i:Nat}{q:av}(h:rs[i]?=some q):Oo rs [i]=[q.1]:=by
 have:=jl (ps:=[]) h
 simpa [Oo] using this
theorem Og.Gv (w:OJ n rs L){k:Int}{ps:List Nat}(h:Og rs k ps): ∀x∈Oo rs ps,0<=x/\x < n:=by
 induction h with
 | @one i q hi =>
  intro x hx
  rw[vI hi,Km] at hx
  rw[hx]
  have:=w.k _ (Kp hi)
  exact⟨this.1,this.2.1⟩
 | @snoc k ps i q hp hi hb ih =>
  intro x hx
  rw[jl hi] at hx
  rcases Kz.mp hx with hx | hx
  .exact ih x hx
  .rw[Km] at hx
   rw[hx]
   have:=w.k _ (Kp hi)
   exact⟨this.1,this.2.1⟩
theorem Og.cut (w:OJ n rs L){k:Int}{ps:List Nat}(h:Og rs k ps):fc rs ps=g L k->(Oo rs ps).Nodup-> ∀x∈Oo rs ps,∃qs,Og rs x qs/\fc rs qs=g L x/\qs.length<=ps.length/\(Oo rs qs).Nodup:=by
 induction h with
 | @one i q hi =>
  intro e nd x hx
  rw[vI hi,Km] at hx
  rw[hx]
  exact⟨[i],.one hi,e,Kn _,nd⟩
 | @snoc k ps i q hp hi hb ih =>
  intro e nd x hx
  obtain⟨e1,_⟩:=Ba w hp hi hb e
  have hx':=hx
  rw[jl hi] at hx'
  rcases Kz.mp hx' with hx' | hx'
  .have nd':(Oo rs ps).Nodup:=by rw[jl hi] at nd; exact (MG.mp nd).1
   obtain⟨qs,a,b,c,d⟩:=ih e1 nd' x hx'
   exact⟨qs,a,b,by rw[Kr]; omega,d⟩
  .rw[Km] at hx'
   rw[hx']
   exact⟨ps++[i],.snoc hp hi hb,e,Kn _,nd⟩
theorem Og.short (w:OJ n rs L){k:Int}{ps:List Nat}(h:Og rs k ps):fc rs ps=g L k-> ∃qs,Og rs k qs/\fc rs qs=g L k/\qs.length<=ps.length/\(Oo rs qs).Nodup:=by
 induction h with
 | @one i q hi=>exact fun e=>⟨[i],.one hi,e,Kn _,by rw[vI hi]; simp⟩
 | @snoc k ps i q hp hi hb ih =>
  intro e
  obtain⟨e1,e2⟩:=Ba w hp hi hb e
  obtain⟨qs,a,b,c,d⟩:=ih e1
  by_cases hm:q.1∈Oo rs qs
  .obtain⟨us,a2,b2,c2,d2⟩:=a.cut w b d _ hm
   exact⟨us,a2,b2,by rw[Kr]; omega,d2⟩
  .refine⟨qs++[i],.snoc a hi hb,by rw[gX hi]; omega,by rw[Kr,Kr]; omega,?_⟩
   rw[jl hi,MG]
   exact⟨d,by simp,fun x hx y hy z=>by rw[Km] at hy; rw[hy] at z; rw[z] at hx; exact hm hx⟩
theorem Bw: ∀(n:Nat) (xs:List Int),xs.Nodup->(∀x∈xs,0<=x/\x < n)->xs.length<=n
 | 0,[],_,_=>Kn _
 | 0,x::xs,_,h=>by have:=h x Ky; omega
 | n+1,xs,nd,h=>by
  have a:=Bw n (xs.erase (n:Int)) (nd.erase _) fun x hx=>by
   have h1:=h x (List.mem_of_mem_erase hx)
   have h2:x≠n:=fun z=>by
    rw[z] at hx
    exact (nd.mem_erase_iff.mp hx).1 rfl
   omega
  have b:xs.length - 1<=(xs.erase (n:Int)).length:=by
   rw[List.length_erase]
   split <;> omega
  omega
theorem OW (w:OJ n rs L){k:Int}{ps:List Nat}(h:Og rs k ps) (e:fc rs ps=g L k) (m: ∀qs,Og rs k qs->fc rs qs=g L k->ps.length<=qs.length):ps.length<=n:=by
 obtain⟨qs,a,b,_,d⟩:=h.short w e
 have h1:=Bw n _ d (a.Gv w)
 have h2:=m qs a b
 have h3:(Oo rs qs).length=qs.length:=FY
 omega
def mn (i j:Int):Int:=if j < i then j else i
def OZ (L:List Int) (st:List Int) (q:av):List Int :=
 if q.2.1 < 0 then (if g L q.1=q.2.2 then put st q.1 (mn (g st q.1) 1) else st)
 else if g L q.1=g L q.2.1+q.2.2 then put st q.1 (mn (g st q.1) (g st q.2.1+1)) else st
structure O0 (n:Nat) (rs:List av) (L:List Int) (st:List Int):Prop where
 len:st.length=n
 lo: ∀m:Int,0<=m->m < n->0<=g st m
 hi: ∀m:Int,0<=m->m < n->g st m<=99
 z: ∀m:Int,0<=m->m < n->g L m=0->g st m=0
 ch: ∀m:Int,0<=m->m < n->g st m < 99->g L m=0\/ ∃ps,Og rs m ps/\fc rs ps=g L m/\(ps.length:Int)=g st m
theorem O0.put (c:O0 n rs L st){m v:Int}(h0:0<=m) (h1:m < n) (v0:0<=v) (hv:v < g st m-> ∃ps,Og rs m ps/\fc rs ps=g L m/\(ps.length:Int)=v):O0 n rs L (put st m (mn (g st m) v)):=by
 have gp: ∀j:Int,0<=j->g (MA.put st m (mn (g st m) v)) j=if j=m then mn (g st m) v else g st j:=fun j hj=>gQ h0 (by rw[c.len]; exact h1) hj
 have cl:=c.lo m h0 h1
 have cu:=c.hi m h0 h1
 refine⟨mW.trans c.len,fun j j0 j1=>?_,fun j j0 j1=>?_,fun j j0 j1 e=>?_,fun j j0 j1 e=>?_⟩
 .rw[gp j j0]
  split
  .unfold mn; split <;> omega
  .exact c.lo j j0 j1
 .rw[gp j j0]
  split
  .unfold mn; split <;> omega
  .exact c.hi j j0 j1
 .rw[gp j j0]
  split
  .rename_i ej
   rw[ej] at e
   have:=c.z m h0 h1 e
   unfold mn; split <;> omega
  .exact c.z j j0 j1 e
 .rw[gp j j0] at e ⊢
  split at e
  .rename_i ej
   rw[ej,Ko rfl]
   unfold mn at e ⊢
   split
   .rename_i l; exact .inr (hv l)
   .rename_i l
    rw[Kk l] at e
    exact c.ch m h0 h1 e
  .rename_i ej
   rw[Kk ej]
   exact c.ch j j0 j1 e
theorem O0.OZ (w:OJ n rs L) (c:O0 n rs L st){q:av}{i:Nat}(hi:rs[i]?=some q):O0 n rs L (OZ L st q):=by
 obtain⟨a1,a2,a3,a4,a5⟩:=w.k _ (Kp hi)
 unfold MA.OZ
 split
 .split
  .rename_i e
   exact c.put a1 a2 (by omega) fun _=>⟨[i],.one hi,by rw[jh hi,e],rfl⟩
  .exact c
 .split
  .rename_i hb e
   have b0:0<=q.2.1:=by omega
   have l0:=c.lo q.2.1 b0 a4
   have u0:=c.hi q.1 a1 a2
   refine c.put a1 a2 (by omega) fun hv=>?_
   by_cases z:g L q.2.1=0
   .refine⟨[i],.one hi,by rw[jh hi]; omega,?_⟩
    rw[c.z _ b0 a4 z]
    rfl
   .rcases c.ch _ b0 a4 (by omega) with z' | ⟨ps,p1,p2,p3⟩
    .exact absurd z' z
    .refine⟨ps++[i],.snoc p1 hi rfl,by rw[gX hi]; omega,?_⟩
     rw[Kr]
     show ((ps.length+1:Nat):Int)=_
     omega
  .exact c
theorem Gs (c:O0 n rs L st){q:av}(k:N5 n q):Le n (g (MA.OZ L st q)) (g st):=fun j j0 j1=>by
 obtain⟨a1,a2,a3,a4,a5⟩:=k
 unfold MA.OZ
 have gp: ∀v,g (MA.put st q.1 v) j=if j=q.1 then v else g st j:=fun v=>gQ a1 (by rw[c.len]; exact a2) j0
 split
 .split
  .rw[gp]
   split
   .rename_i e; rw[e]; unfold mn; split <;> omega
   .omega
  .omega
 .split
  .rw[gp]
   split
   .rename_i e; rw[e]; unfold mn; split <;> omega
   .omega
  .omega
theorem run (w:OJ n rs L): ∀(us:List av) (st:List Int),(∀q∈us,q∈rs)->O0 n rs L st->O0 n rs L (us.foldl (MA.OZ L) st)/\Le n (g (us.foldl (MA.OZ L) st)) (g st)
 | [],st,_,c=>⟨c,fun _ _ _=>K2 _⟩
 | q::us,st,h,c=>by
  obtain⟨i,hi,e⟩:=Nk (h q Ky)
  have hi':rs[i]?=some q:=by rw[Kl hi,e]
  obtain⟨a,b⟩:=run w us (MA.OZ L st q) (fun x hx=>h x (Kx _ hx)) (c.OZ w hi')
  exact⟨a,fun j j0 j1=>K9 (b j j0 j1) (Gs c (w.k _ (Kp hi')) j j0 j1)⟩
end MA
namespace L2
open PySem PySem.Spec PyProof.Rows
def kY (xs ys:List V):Bool:=(List.range (min xs.length ys.length)).all (fun i=>OI (xs.getD i .non) (ys.getD i .non)) && xs.length == ys.length
theorem Ep {x:V}(h:bZ x=true):OI x x=true:=by
 cases x with
 | non=>rfl
 | bl b=>exact L7 _
 | int i=>exact L7 _
 | str s=>exact L7 _
 | _=>cases h
theorem pO {xs:List V}(h:xs.all bZ=true) (i:Nat):bZ (xs.getD i .non)=true:=by
 rw[Ku]
 cases e:xs[i]? with
 | none=>rfl
 | some x=>exact LB.mp h x (Kp e)
theorem rR {xs:List V}(h:xs.all bZ=true):kY xs xs=true:=by
 unfold kY
 rw[Lc]
 exact⟨LB.mpr fun i _=>Ep (pO h i),L7 _⟩
theorem tI {xs:List V}{us:List Value}(r:Vals xs us){j:Nat}(h:j < us.length):RelV (xs.getD j .non) (us[j]'h):=by
 have hl:=r.length
 have hj:j < xs.length:=by omega
 obtain⟨u,hu,q⟩:=r.get (i:=j) (x:=xs[j]) (Kl hj)
 have:=(Kv.mp hu).2
 rw[this,Ku,Kl hj]
 exact q
inductive HF (K:NY) (x y:V) (H:Hp) (Q:VK):Prop | mk (a b:Addr) (xs ys:List V) (e0:x= .ref a) (e1:y= .ref b) (e2:N1 K H a xs) (e3:N1 K H b ys) (e4:xs.all bZ=true) (e5:ys.all bZ=true) (q:Q (.bl (!kY xs ys)) H)
def DA (K:NY):R2:=fun x y H Q=>HF K x y H Q
theorem Bh {X:Cx}(hu:X.A.units+1 < cLine):N7 X (compareOp .NotEq) (DA X.K):=by
 intro NV s σ H x y v u Q I rx ry h
 obtain⟨a,b,xs,ys,rfl,rfl,ha,hb,fx,fy,q⟩:=h
 cases rx
 cases ry
 obtain⟨us,r1,p1,z1⟩:=I.tuple ha
 obtain⟨vs,r2,p2,z2⟩:=I.tuple hb
 have l1:=r1.length
 have l2:=r2.length
 refine SeqAt.RcNeAt.tuples (e:=fun i=>OI (xs.getD i .non) (ys.getD i .non)) (show s.heap.IsTuple a us.toArray from p1) (show s.heap.IsTuple b vs.toArray from p2) (by omega) (fun j h1 h2=>?_) _ _ _ _ ?_
 .simp only[Na]
  exact yv (tI r1 (by simpa using h1)) (tI r2 (by simpa using h2)) (pO fx j) (pO fy j)
 .rw[show us.toArray.size=xs.length by simpa using l1.symm,show vs.toArray.size=ys.length by simpa using l2.symm]
  exact⟨.bl _,H,I,rfl,q⟩
inductive J2 (K:NY) (x y:V) (H:Hp) (Q:VK):Prop | mk (a b:Addr) (xs ys:List V) (e0:x= .ref a) (e1:y= .ref b) (e2:N1 K H a xs) (e3:N1 K H b ys) (e4:xs.all bZ=true) (e5:ys.all bZ=true) (q:Q (.bl (kY xs ys)) H)
end L2
namespace MA
variable {n:Nat}{rs:List av}{L:List Int}
def pK (n:Nat) (rs:List av) (ws:List Int):Prop:= ∀m:Int,0<=m->m < n->0<=g ws m/\(g ws m=0\/ ∃ps,Og rs m ps/\fc rs ps=g ws m)
theorem rL (k: ∀r∈rs,N5 n r): ∀(qs:List av) (ws:List Int),(∀q∈qs,q∈rs)->ws.length=n->pK n rs ws->pK n rs (bU qs ws)
 | [],ws,_,_,h=>h
 | q::qs,ws,hq,hl,h=>by
  refine rL k qs (eh ws q) (fun x hx=>hq x (Kx _ hx)) (jG.trans hl) fun m m0 m1=>?_
  have hm:=hq q Ky
  obtain⟨a1,a2,a3,a4,a5⟩:=k q hm
  obtain⟨i,hi,ei⟩:=LG.mp hm
  have hi':rs[i]?=some q:=by rw[Kl hi,ei]
  unfold eh
  rw[gQ a1 (by rw[hl]; exact a2) m0]
  split
  .rename_i e
   rw[e]
   unfold mx
   have h1:=h q.1 a1 a2
   split
   .rename_i c
    unfold ask at c ⊢
    split
    .rename_i b
     rw[Ko b] at c
     exact⟨a5,.inr ⟨[i],.one hi',jh hi'⟩⟩
    .rename_i b
     rw[Kk b] at c
     obtain⟨z0,h2⟩:=h q.2.1 (by omega) a4
     refine⟨by omega,?_⟩
     rcases h2 with z | ⟨ps,p1,p2⟩
     .exact .inr ⟨[i],.one hi',by rw[jh hi']; omega⟩
     .exact .inr ⟨ps++[i],.snoc p1 hi' rfl,by rw[gX hi']; omega⟩
   .exact h1
  .exact h m m0 m1
theorem tX (k: ∀r∈rs,N5 n r): ∀(j:Nat) (ws:List Int),ws.length=n->pK n rs ws->loop rs j ws=some L->pK n rs L
 | 0,ws,_,_,e=>by unfold loop at e; cases e
 | j+1,ws,hl,h,e=>by
  unfold loop at e
  split at e
  .cases e; exact h
  .exact tX k j (bU rs ws) ((f6 _ _).trans hl) (rL k rs ws (fun _ z=>z) hl h) e
theorem Hc (k: ∀r∈rs,N5 n r) (h:bA n rs=some L):pK n rs L :=
 tX k (n+1) (List.replicate n 0) (Mf ..) (fun m _ _=>by rw[nZ]; exact⟨K2 _,.inl rfl⟩) h
theorem rA (k: ∀r∈rs,N5 n r) (h:bA n rs=some L):OJ n rs L:=by
 obtain⟨l1,l2,l3,_⟩:=dz k h
 exact⟨k,l2,l3,l1⟩
def Tl (L:List Int) (q:av):Prop:=q.2.1≠ -1/\g L q.1=g L q.2.1+q.2.2
inductive Tp (rs:List av) (L:List Int) (m:Int):Int->List Nat->Prop
 | nil:Tp rs L m m []
 | cons {i:Nat}{q:av}{ps:List Nat}:rs[i]?=some q->Tl L q->Tp rs L m q.1 ps->Tp rs L m q.2.1 (i::ps)
theorem Tp.snoc {k v:Int}{ps:List Nat}{i:Nat}{q:av}(h:Tp rs L k v ps) (hi:rs[i]?=some q) (t:Tl L q) (e:q.2.1=k):Tp rs L q.1 v (ps++[i]):=by
 induction h with
 | nil=>subst e; exact .cons hi t .nil
 | cons h1 t1 _ ih=>exact .cons h1 t1 ih
theorem CP (w:OJ n rs L){m:Int}{qs:List Nat}(h:Og rs m qs):fc rs qs=g L m-> ∃i q ps,qs=i::ps/\rs[i]?=some q/\q.2.2=g L q.1/\Tp rs L m q.1 ps:=by
 induction h with
 | @one i q hi=>intro e; rw[jh hi] at e; exact⟨i,q,[],rfl,hi,e,.nil⟩
 | @snoc k ps i q hp hi hb ih =>
  intro e
  obtain⟨e1,e2⟩:=Ba w hp hi hb e
  obtain⟨i0,q0,ps0,rfl,a,b,c⟩:=ih e1
  have:=hp.OB w
  exact⟨i0,q0,ps0++[i],rfl,a,b,c.snoc hi ⟨by omega,by rw[hb]; exact e2⟩ hb⟩
theorem AX {m v:Int}{ps:List Nat}(h:Tp rs L m v ps): ∀pre,Og rs v pre->fc rs pre=g L v->Og rs m (pre++ps)/\fc rs (pre++ps)=g L m:=by
 induction h with
 | nil=>intro pre a b; rw[Ly]; exact⟨a,b⟩
 | @cons i q ps hi t _ ih =>
  intro pre a b
  have:=ih (pre++[i]) (.snoc a hi rfl) (by rw[gX hi,b]; exact t.2.symm)
  rw[Mo] at this
  exact this
theorem GF {m:Int}{i:Nat}{q:av}{ps:List Nat}(hi:rs[i]?=some q) (e:q.2.2=g L q.1) (h:Tp rs L m q.1 ps):Og rs m (i::ps)/\fc rs (i::ps)=g L m :=
 AX h [i] (.one hi) ((jh hi).trans e)
structure mP (rs:List av) (L:List Int) (m:Int) (F:Int->Option Nat):Prop where
 ex: ∀v d,F v=some d-> ∃ps,Tp rs L m v ps/\ps.length=d
 lo: ∀v ps,Tp rs L m v ps-> ∃d,F v=some d/\d<=ps.length
def Nx (rs:List av) (L:List Int) (F:Int->Option Nat) (v:Int) (i:Nat):Prop :=
 ∃(q:av) (d:Nat),rs[i]?=some q/\q.2.1=v/\Tl L q/\F v=some (d+1)/\F q.1=some d/\ ∀(j:Nat) (q':av),j < i->rs[j]?=some q'->q'.2.1=v->Tl L q'->F q'.1≠some d
inductive Gr (rs:List av) (L:List Int) (F:Int->Option Nat) (m:Int):Int->List Nat->Prop
 | nil:Gr rs L F m m []
 | cons {v:Int}{i:Nat}{q:av}{ps:List Nat}:Nx rs L F v i->rs[i]?=some q->Gr rs L F m q.1 ps->Gr rs L F m v (i::ps)
variable {F:Int->Option Nat}{m:Int}
theorem mP.zero (D:mP rs L m F):F m=some 0:=by
 obtain⟨d,e,l⟩:=D.lo m [] .nil
 rw[e,Nat.le_zero.mp l]
theorem Gr.len (D:mP rs L m F){v:Int}{ps:List Nat}(h:Gr rs L F m v ps):F v=some ps.length/\Tp rs L m v ps:=by
 induction h with
 | nil=>exact⟨D.zero,.nil⟩
 | @cons v i q ps nx hi _ ih =>
  obtain⟨q',d,a,b,c,e,f,_⟩:=nx
  rw[hi] at a
  cases a
  rw[ih.1] at f
  cases f
  refine⟨e,?_⟩
  rw[<-b]
  exact .cons hi c ih.2
def tj (one other:List Nat):Prop:= ∃k x y:Nat,one[k]?=some x/\other[k]?=some y/\x < y/\ ∀j,j < k->one[j]?=other[j]?
theorem tj.tail {i:Nat}{a b:List Nat}(h:tj (i::a) (i::b)):tj a b:=by
 obtain⟨k,x,y,h1,h2,h3,h4⟩:=h
 cases k with
 | zero=>cases h1; cases h2; omega
 | succ k=>exact⟨k,x,y,h1,h2,h3,fun j hj=>h4 (j+1) (by omega)⟩
theorem Gr.first (D:mP rs L m F){v:Int}{ps:List Nat}(h:Gr rs L F m v ps): ∀qs,Tp rs L m v qs->qs.length=ps.length-> ¬tj qs ps:=by
 induction h with
 | nil=>rintro qs _ _ ⟨k,x,y,_,h2,_⟩; cases h2
 | @cons v i q ps nx hi hg ih =>
  intro qs ht hl he
  obtain⟨q',d,a,b,c,e,f,mn⟩:=nx
  rw[hi] at a
  cases a
  have gl:=hg.len D
  rw[gl.1] at f
  cases f
  cases ht with
  | nil=>cases hl
  | @cons j q2 qs' hj t2 ht' =>
  have hl':qs'.length=ps.length:=Nat.succ.inj hl
  obtain⟨d2,e2,l2⟩:=D.lo _ _ ht'
  have l3:ps.length<=d2:=by
   obtain⟨ps2,p1,p2⟩:=D.ex _ _ e2
   obtain⟨d3,e3,l3⟩:=D.lo _ _ (Tp.cons hj t2 p1)
   rw[e] at e3
   cases e3
   rw[KZ] at l3
   omega
  have ed:d2=ps.length:=by omega
  have hij: ¬j < i:=fun z=>mn j q2 z hj rfl t2 (by rw[e2,ed])
  by_cases eq:j=i
  .subst eq
   rw[hj] at hi
   cases hi
   exact ih qs' ht' hl' he.tail
  .obtain⟨k,x,y,h1,h2,h3,h4⟩:=he
   cases k with
   | zero=>cases h1; cases h2; omega
   | succ k =>
    have:=h4 0 (NN _)
    cases this
    exact eq rfl
def ik (rs:List av) (L:List Int) (m:Int) (ps:List Nat):Prop:=(g L m=0/\ps=[])\/(0 < g L m/\Og rs m ps/\fc rs ps=g L m/\ ∀qs,Og rs m qs->fc rs qs=g L m->ps.length<=qs.length/\(qs.length=ps.length-> ¬tj qs ps))
theorem ik.lt {ps:List Nat}(h:ik rs L m ps): ∀i∈ps,i < rs.length:=by
 rcases h with⟨_,e⟩ | ⟨_,hc,_⟩
 .rw[e]; intro i hi; cases hi
 .exact hc.lt
theorem ik.OW {ps:List Nat}(w:OJ n rs L) (h:ik rs L m ps):ps.length<=n:=by
 rcases h with⟨_,e⟩ | ⟨_,hc,hs,hm⟩
 .rw[e]; exact Ln _
 .exact MA.OW w hc hs fun qs a b=>(hm qs a b).1
def PL (rs:List av) (L:List Int) (F:Int->Option Nat) (i:Nat):Prop :=
 ∃(q:av) (d:Nat),rs[i]?=some q/\q.2.2=g L q.1/\F q.1=some d/\(∀(j:Nat) (q':av) (d':Nat),rs[j]?=some q'->q'.2.2=g L q'.1->F q'.1=some d'->d<=d')/\ ∀(j:Nat) (q':av),j < i->rs[j]?=some q'->q'.2.2=g L q'.1->F q'.1≠some d
theorem AB (w:OJ n rs L) (D:mP rs L m F) (hz:0 < g L m){i:Nat}{q:av}{ps:List Nat}(h:PL rs L F i) (hi:rs[i]?=some q) (hg:Gr rs L F m q.1 ps):ik rs L m (i::ps):=by
 obtain⟨q',d,a,b,c,mn,fr⟩:=h
 rw[hi] at a
 cases a
 obtain⟨g1,g2⟩:=hg.len D
 rw[g1] at c
 cases c
 obtain⟨c1,c2⟩:=GF hi b g2
 refine .inr ⟨hz,c1,c2,fun qs h1 h2=>?_⟩
 obtain⟨j,q2,qs',rfl,a2,b2,t2⟩:=CP w h1 h2
 obtain⟨d2,e2,l2⟩:=D.lo _ _ t2
 have l3:=mn j q2 d2 a2 b2 e2
 refine⟨by rw[KZ,KZ]; omega,fun hl he=>?_⟩
 have hl':qs'.length=ps.length:=Nat.succ.inj hl
 have ed:d2=ps.length:=by omega
 have hij: ¬j < i:=fun z=>fr j q2 z a2 b2 (by rw[e2,ed])
 by_cases eq:j=i
 .subst eq
  rw[a2] at hi
  cases hi
  exact hg.first D qs' t2 hl' he.tail
 .obtain⟨k,x,y,h1,h2,h3,h4⟩:=he
  cases k with
  | zero=>cases h1; cases h2; omega
  | succ k =>
   have:=h4 0 (NN _)
   cases this
   exact eq rfl
theorem Di (w:OJ n rs L) (D:mP rs L m F) (f:pK n rs L) (m0:0<=m) (m1:m < n) (hz:0 < g L m): ∃(i:Nat) (q:av) (d:Nat),rs[i]?=some q/\q.2.2=g L q.1/\F q.1=some d:=by
 rcases (f m m0 m1).2 with z | ⟨ps,p1,p2⟩
 .omega
 .obtain⟨i,q,ps',rfl,a,b,t⟩:=CP w p1 p2
  obtain⟨d,e,_⟩:=D.lo _ _ t
  exact⟨i,q,d,a,b,e⟩
theorem E7 (D:mP rs L m F){v:Int}{d:Nat}(e:F v=some d) (hv:v≠m): ∃(d' i:Nat) (q:av),d=d'+1/\rs[i]?=some q/\q.2.1=v/\Tl L q/\F q.1=some d':=by
 obtain⟨ps,p1,p2⟩:=D.ex _ _ e
 cases p1 with
 | nil=>exact absurd rfl hv
 | @cons i q ps' hi t ht =>
  obtain⟨d2,e2,l2⟩:=D.lo _ _ ht
  rw[KZ] at p2
  refine⟨ps'.length,i,q,p2.symm,hi,rfl,t,?_⟩
  obtain⟨ps2,r1,r2⟩:=D.ex _ _ e2
  obtain⟨d3,e3,l3⟩:=D.lo _ _ (Tp.cons hi t r1)
  rw[e] at e3
  cases e3
  rw[KZ] at l3
  rw[e2,show d2=ps'.length by omega]
end MA
namespace L2
open PySem PySem.Spec PyProof.Rows
theorem uh {J:It}{g:TG}{tt:TT}{te:TE}{own:List Str}{fr:List Nat}{σ:St}{H:Hp}{Q:VK}(n:Nat) (Pv:Nat->List V->Hp->Prop) (h0:Pv 0 [] H) (hz:n < sizeLine) (hlen: ∀i ys H,Pv i ys H->ys.length<=i)
  (hgo: ∀i ys H,i < n->Pv i ys H->J.go i H) (hstop: ∀ys H,Pv n ys H->J.stop n H)
  (hs: ∀i ys H2 x H3,i < n->Pv i ys H2->J.yld i H2 x H3->g x (cR own fr σ) H3 fun σ4 H4=>tt σ4 H4 fun b H5=>if b=true then te σ4 H5 fun y H6=>Pv (i+1) (ys++[y]) H6 else Pv (i+1) ys H5)
  (hq: ∀ys H2 p,Pv n ys H2->H2 p=none->Q (.ref p) (upd H2 p (.lst ys))):mO J g tt te own fr σ H Q:=by
 refine⟨fun i m ys H2=>i<=n/\m=n - i/\Pv i ys H2,⟨n,Ln _,rfl,h0⟩,?_⟩
 rintro i m ys H2 ⟨hi,rfl,hp⟩
 by_cases hlt:i < n
 .refine .inr ⟨hgo i ys H2 hlt hp,Lp (hlen i ys H2 hp) (by omega),fun x H3 hy=>?_⟩
  have e: ∀zs H6,(∃m',m' < n - i/\i+1<=n/\m'=n - (i+1)/\Pv (i+1) zs H6)=Pv (i+1) zs H6:=fun zs H6=>propext ⟨fun⟨_,_,_,_,z⟩=>z,fun z=>⟨n - (i+1),by omega,hlt,rfl,z⟩⟩
  simp only[e]
  exact hs i ys H2 x H3 hlt hp hy
 .have e:i=n:=by omega
  subst e
  exact .inl ⟨hstop ys H2 hp,KY (Lp (hlen _ ys H2 hp) hz),fun p np=>hq ys H2 p hp np⟩
inductive IT (K:NY) (Q:Bool->Hp->Prop) (x:V) (H':Hp):Prop | mk (k:_) (e0:Aw K x H' k) (q:Q k H')
def DS (K:NY) (t:TE):TT:=fun σ H Q=>t σ H fun x H'=>IT K Q x H'
theorem B1 {X:Cx}{a:Expr}{ta:TE}(ha:PE X a ta) (he: ∀whole,isTrue a X.env whole=(do let v <-whole; standAt a.pos; holding [v] (truthy v))):PT X a (DS X.K ta):=by
 have e:DS X.K ta=fun σ H Q=>ta σ H fun x H'=> ∃k,Aw X.K x H' k/\Q k H':=by
  funext σ H Q
  exact Lm (ta σ H) (funext fun x=>funext fun H'=>propext ⟨fun⟨k,a,b⟩=>⟨k,a,b⟩,fun⟨k,a,b⟩=>⟨k,a,b⟩⟩)
 rw[e]
 exact ba ha he
theorem vY {K:NY}{a:Addr}{xs:List V}{g:TG}{tt:TT}{te:TE}{own:List Str}{fr:List Nat}{σ:St}{H:Hp}{Q:VK}(Pv:Nat->List V->Hp->Prop) (hJ: ∀i ys H,Pv i ys H->NX K H a xs) (h0:Pv 0 [] H) (hz:xs.length < sizeLine) (hlen: ∀i ys H,Pv i ys H->ys.length<=i)
  (hs: ∀i ys H2 x t,xs[i]?=some x->Pv i ys H2->H2 t=none->g (.ref t) (cR own fr σ) (upd H2 t (.tup [.int (i:Nat),x])) fun σ4 H4=>tt σ4 H4 fun b H5=>if b=true then te σ4 H5 fun y H6=>Pv (i+1) (ys++[y]) H6 else Pv (i+1) ys H5)
  (hq: ∀ys H2 p,Pv xs.length ys H2->H2 p=none->Q (.ref p) (upd H2 p (.lst ys))):mO (Pc K a) g tt te own fr σ H Q:=by
 refine uh xs.length Pv h0 hz hlen (fun i ys H hi hp=>⟨xs,xs[i],hJ i ys H hp,Kl hi⟩) (fun ys H hp=>⟨xs,hJ _ ys H hp,Kn _⟩) (fun i ys H2 x H3 hi hp hy=>?_) hq
 obtain⟨t,x,rfl,nt,rfl,hx⟩:=hy
 exact hs i ys H2 x t (hx xs (hJ i ys H2 hp)) hp nt
theorem b8 {J:It}{xs:List V}{g:TG}{tt:TT}{te:TE}{own:List Str}{fr:List Nat}{σ:St}{H:Hp}{Q:VK}(Pv:Nat->List V->Hp->Prop) (hJ: ∀i ys H,i<=xs.length->Pv i ys H->JL J H xs) (h0:Pv 0 [] H) (hz:xs.length < sizeLine) (hlen: ∀i ys H,Pv i ys H->ys.length<=i)
  (hs: ∀i ys H2 x,xs[i]?=some x->Pv i ys H2->g x (cR own fr σ) H2 fun σ4 H4=>tt σ4 H4 fun b H5=>if b=true then te σ4 H5 fun y H6=>Pv (i+1) (ys++[y]) H6 else Pv (i+1) ys H5)
  (hq: ∀ys H2 p,Pv xs.length ys H2->H2 p=none->Q (.ref p) (upd H2 p (.lst ys))):mO J g tt te own fr σ H Q:=by
 refine uh xs.length Pv h0 hz hlen (fun i ys H hi hp=>(hJ i ys H (KY hi) hp).go i hi) (fun ys H hp=>(hJ _ ys H (Kn _) hp).stop _ (Kn _)) (fun i ys H2 x H3 hi hp hy=>?_) hq
 obtain⟨rfl,hx⟩:=(hJ i ys H2 (KY hi) hp).yld i x H3 hi hy
 exact hs i ys H3 x hx hp
section
variable {X:Cx}{NV:List (Addr×Obj)}{σ:St}{H:Hp}{s:Shared}{h':Heap}
theorem Inv.tE {t':Nat}{ch:List Addr}(I:Inv X NV σ H s) (k: ∀c o,c∉ch->s.heap.get? c=some o->h'.get? c=some o) (fa: ∀a∈ch,cA X NV H a):Inv X NV σ H { s with heap:=h',toks:=t' }:=by
 have na: ∀c u,H c=some u->c∉ch:=fun c u e z=>by rw[(fa c z).1] at e; cases e
 refine I.step (g':=s.gens) (d':=s.drawn) (ch:=ch) (fun c hc=>?_) (fun c o _ _ hc e _=>k c o hc e) (fun c o _ _ hc e _=>⟨o.slots,k c o hc e⟩) (fun _ _ _ _ n=>n)
  (fun c o hc e=>⟨o,k c o hc e⟩) (fun _ _ e=>e) (fun _ _ _ e=>e) (fun c ps e=>⟨#[],by rw[e]; simp⟩) (fun m hm=>?_) (fun c u e=>?_) I.bare
 .exact⟨(fa c hc).2.2.2.1,(fa c hc).2.1,(fa c hc).2.2.2.2.1,(fa c hc).2.2.2.2.2⟩
 .obtain⟨o,es,ep,ho,r⟩:=hm
  exact⟨o,es,ep,k _ o (fun z=>(fa _ z).2.1 rfl) ho,r⟩
 .refine (I.hok c u e).o6 (fun d v hd q=>k d v ?_ q) (fun _ q=>q) fun _ _ q=>q
  rcases hd with z | z
  .rw[z]; exact na c u e
  .exact na d _ z
end
def Pz (K:NY) (a b:Addr):It :=
 ⟨fun i H=> ∃xs ys x y,NX K H a xs/\NX K H b ys/\xs[i]?=some x/\ys[i]?=some y,fun i H v H'=> ∃t x y,v= .ref t/\H t=none/\H'=upd H t (.tup [x,y])/\(∀xs,NX K H a xs->xs[i]?=some x)/\ ∀ys,NX K H b ys->ys[i]?=some y,fun i H=> ∃xs ys,NX K H a xs/\NX K H b ys/\(xs.length<=i\/ys.length<=i)⟩
theorem wF {h:Heap}{z TI TO i1 i2 a b:Addr}{f0 u v:Value}{k1 k2:Nat}{xs ys:Array Value}(hz:IsZip h z TI TO f0) (h1:h.IsListIter i1 a k1) (h2:h.IsListIter i2 b k2) (hp:IsPair h TO u v) (ha:h.IsList a xs) (hb:h.IsList b ys) :
  a≠z/\a≠TO/\a≠i1/\a≠i2/\b≠z/\b≠TO/\b≠i1/\b≠i2:=by
 obtain⟨o1,e1,c1,d1⟩:=h1
 obtain⟨o2,e2,c2,d2⟩:=h2
 obtain⟨oa,ea,ca,da⟩:=ha
 obtain⟨ob,eb,cb,db⟩:=hb
 refine⟨fun e=>?_,fun e=>?_,fun e=>?_,fun e=>?_,fun e=>?_,fun e=>?_,fun e=>?_,fun e=>?_⟩ <;> subst e
 .rw[hz] at ea; cases ea; exact absurd (L6 ca) (by decide)
 .rw[hp] at ea; cases ea; exact absurd (L6 ca) (by decide)
 .rw[e1] at ea; cases ea; rw[c1] at ca; exact absurd (L6 ca) (by decide)
 .rw[e2] at ea; cases ea; rw[c2] at ca; exact absurd (L6 ca) (by decide)
 .rw[hz] at eb; cases eb; exact absurd (L6 cb) (by decide)
 .rw[hp] at eb; cases eb; exact absurd (L6 cb) (by decide)
 .rw[e1] at eb; cases eb; rw[c1] at cb; exact absurd (L6 cb) (by decide)
 .rw[e2] at eb; cases eb; rw[c2] at cb; exact absurd (L6 cb) (by decide)
structure PU (z TI TO i1 i2:Addr):Prop where
 TIz:TI≠z
 TOz:TO≠z
 i1z:i1≠z
 i2z:i2≠z
 TITO:TI≠TO
 TIi1:TI≠i1
 TIi2:TI≠i2
 TOi1:TO≠i1
 TOi2:TO≠i2
 i12:i1≠i2
structure P5 (h:Heap) (z TI TO i1 i2 a b:Addr) (i:Nat):Prop where
 zp:IsZip h z TI TO .none
 pi:IsPair h TI (.ref i1) (.ref i2)
 po: ∃u v,IsPair h TO u v
 h1:h.IsListIter i1 a i
 h2:h.IsListIter i2 b i
 ap:PU z TI TO i1 i2
theorem Du {P:Program}{w:World}{K:NY}{elts:List Expr}{x1}{pos:Pos}(a b z TI TO i1 i2:Addr):Turn P w K (.Tuple elts x1 pos) (Pz K a b) [z,TI,TO,i1,i2] z (fun i h=>P5 h z TI TO i1 i2 a b i) where
 mem:=by simp
 obj:=fun i h st c hc=>by
  obtain⟨hz,hp,⟨u,v,ho⟩,⟨o1,e1,c1,d1⟩,⟨o2,e2,c2,d2⟩,_⟩:=st
  simp only[Ks,K8,L8] at hc
  rcases hc with rfl | rfl | rfl | rfl | rfl
  .exact⟨_,hz,fun v q=>by cases q⟩
  .exact⟨_,hp,fun v q=>by cases q⟩
  .exact⟨_,ho,fun v q=>by cases q⟩
  .exact⟨o1,e1,fun v q=>by rw[d1] at q; cases q⟩
  .exact⟨o2,e2,fun v q=>by rw[d2] at q; cases q⟩
 keep:=fun i h h' st k=>by
  obtain⟨hz,hp,⟨u,v,ho⟩,h1,h2,ap⟩:=st
  exact⟨k z (by simp) _ hz,k TI (by simp) _ hp,⟨u,v,k TO (by simp) _ ho⟩,h1.at fun o q=>k i1 (by simp) o q,h2.at fun o q=>k i2 (by simp) o q,ap⟩
 item:=by
  intro X hP hw hK hc i NV s σ H E I hf st hg
  subst hP hw hK
  obtain⟨hz,hp,⟨u,v,ho⟩,h1,h2,ap⟩:=st
  obtain⟨xs,ys,x,y,hqa,hqb,hx,hy⟩:=hg
  obtain⟨its,rv,p,hsz⟩:=I.list hqa
  obtain⟨jts,rw',p2,hsz2⟩:=I.list hqb
  obtain⟨ux,hux,rux⟩:=rv.get hx
  obtain⟨uy,huy,ruy⟩:=rw'.get hy
  obtain⟨q1,q2,q3,q4,q5,q6,q7,q8⟩:=wF hz h1 h2 ho p.isList p2.isList
  have za:ZipApart z TI TO i1 i2 a b:=⟨ap.TIz,ap.TOz,ap.i1z,ap.i2z,ap.TITO,ap.TIi1,ap.TIi2,ap.TOi1,ap.TOi2,ap.i12,q1,q2,q3,q4,q5,q6,q7,q8⟩
  have ltz:z < s.heap.objs.size:=KA hz
  have ltI:TI < s.heap.objs.size:=KA hp
  have ltO:TO < s.heap.objs.size:=KA ho
  have Pl:i1 < s.heap.objs.size:=by obtain⟨o,q,_⟩:=id h1; exact KA q
  have lt2:i2 < s.heap.objs.size:=by obtain⟨o,q,_⟩:=id h2; exact KA q
  refine wpAny_pyNext_zip_item za hz hp ho h1 h2 p.isList p2.isList (x:=ux) (y:=uy) (by simpa using hux) (by simpa using huy) fun h' hz' ho' h1' h2' ht hs' hk=>?_
  refine⟨_,rfl,wpAny_letOwnedTupleGo_zip hz' fun h3 hz3 sb=>?_⟩
  have kall: ∀c o,c∉[z,TI,TO,i1,i2]->s.heap.get? c=some o->h3.get? c=some o:=fun c o hc q=>by
   simp only[Ks,K8,L8,not_or] at hc
   exact (sb.2 c hc.1).trans (hk c o hc.1 hc.2.2.1 hc.2.2.2.1 hc.2.2.2.2 q)
  have I1:Inv X NV σ H { s with heap:=h3,toks:=s.toks }:=I.tE kall hf
  have ht2:h3.get? s.heap.objs.size=some { cls:= .type "tuple",data:= .seq #[ux,uy] }:=(sb.2 _ (M8 ltz)).trans ht
  have fT:cA X NV H s.heap.objs.size:=I.jg (Kn _) (I.hok.fresh (Kn _))
  have new:dt X.prog X.w (upd H s.heap.objs.size (.tup [x,y])) h3 s.heap.objs.size (.tup [x,y]):=⟨by show 2<=sizeLine; decide,[ux,uy],.cons rux (.cons ruy .nil),⟨_,ht2,rfl,_,rfl⟩⟩
  refine⟨.ref s.heap.objs.size,_,I1.EG fT new,rfl,⟨_,x,y,rfl,fT.1,rfl,fun zs hzs=>by rw[I.qO hzs hqa]; exact hx,fun zs hzs=>by rw[I.qO hzs hqb]; exact hy⟩,⟨hz3,?_,?_,?_,?_,ap⟩,fun c hc=>?_⟩
  .exact (sb.2 _ ap.TIz).trans (hk _ _ ap.TIz ap.TITO ap.TIi1 ap.TIi2 hp)
  .exact⟨_,_,(sb.2 _ ap.TOz).trans ho'⟩
  .exact h1'.at fun o q=>(sb.2 _ ap.i1z).trans q
  .exact h2'.at fun o q=>(sb.2 _ ap.i2z).trans q
  .have:=(hf c hc).1
   simp only[Ks,K8,L8] at hc
   rcases hc with rfl | rfl | rfl | rfl | rfl
   .rw[ao (K3 ltz)]; exact this
   .rw[ao (K3 ltI)]; exact this
   .rw[ao (K3 ltO)]; exact this
   .rw[ao (K3 Pl)]; exact this
   .rw[ao (K3 lt2)]; exact this
 done:=by
  intro X hP hw hK hc i NV s σ H E I hf st hg
  subst hP hw hK
  obtain⟨hz,hp,⟨u,v,ho⟩,h1,h2,ap⟩:=st
  obtain⟨xs,ys,hqa,hqb,hx⟩:=hg
  obtain⟨its,rv,p,hsz⟩:=I.list hqa
  obtain⟨jts,rw',p2,hsz2⟩:=I.list hqb
  obtain⟨q1,q2,q3,q4,q5,q6,q7,q8⟩:=wF hz h1 h2 ho p.isList p2.isList
  have za:ZipApart z TI TO i1 i2 a b:=⟨ap.TIz,ap.TOz,ap.i1z,ap.i2z,ap.TITO,ap.TIi1,ap.TIi2,ap.TOi1,ap.TOi2,ap.i12,q1,q2,q3,q4,q5,q6,q7,q8⟩
  have hl:=rv.length
  have hl2:=rw'.length
  refine wpAny_pyNext_zip_end (I.ok.hd hc) za hz hp ho h1 h2 p.isList p2.isList ?_ fun h' hk=>⟨rfl,I.tE (t':=s.toks) (ch:=[z,TI,TO,i1,i2]) (fun c o hc q=>?_) hf⟩
  .rcases hx with hx | hx
   .left; simp; omega
   .right; simp; omega
  .simp only[Ks,K8,L8,not_or] at hc
   exact hk c o hc.1 hc.2.2.1 hc.2.2.2.1 hc.2.2.2.2 q
 self:=fun _ _ _ _ _ st h=>wpAny_pyIter_zip st.zp h
section
variable {X:Cx}
inductive Io (K:NY) (R:It->Hp->Prop) (vs:List V) (H1:Hp):Prop | mk (a b:_) (e0:vs=[.ref a,.ref b]) (e1:(∃xs,NX K H1 a xs)) (e2:(∃ys,NX K H1 b ys)) (q:R (Pz K a b) H1)
def Ja (K:NY) (ta:TA):TI:=fun σ H R=>ta σ H fun vs H1=>Io K R vs H1
theorem boot_zip:bootBuiltins "zip" = some (.type "zip"):=by trivial
theorem GV {elts:List Expr}{x1}{tpos:Pos}{a b:Expr}{ta:TA}{p pos:Pos}(hg:Gl X "zip") (hm:X.mg "zip" = none) (ha:PA X [a,b] ta) (hs:starEach [a,b] X.env=(false,eval a X.env)::starEach [b] X.env:=by rfl) (hs2:((backTo pos (starEach [b] X.env)).any fun x=>x.fst)=false:=by rfl):PI X (.Tuple elts x1 tpos) (.Call (.Name "zip" p) [a,b] [] pos) (Ja X.K ta):=by
 intro NV s σ H R I h
 refine Call_ (m9 I hg hm boot_zip (Ma (N0 (ha pos NV s σ H _ I h) fun us s1 ⟨vs,H1,I1,r1,q1⟩=>?_) hs hs2))
 obtain⟨l1,l2,e,⟨xs,hq1⟩,⟨ys,hq2⟩,q⟩:=q1
 subst e
 obtain⟨u1,u2,rfl,ru1,ru2⟩:=vals2 r1
 cases ru1
 cases ru2
 obtain⟨its,rv,pl,hz⟩:=I1.list hq1
 obtain⟨jts,rw',pl2,hz2⟩:=I1.list hq2
 refine call_zip_2 pl.isList pl2.isList fun h' hzp hpi hpo h1 h2 hsz hk=>?_
 refine wpAny_pyIter_zip hzp ?_
 have I2:Inv X NV σ H1 { s1 with heap:=h' }:=I1.kept (t':=s1.toks) hk
 refine⟨s1.heap.objs.size+4,[s1.heap.objs.size+4,s1.heap.objs.size+2,s1.heap.objs.size+3,s1.heap.objs.size,s1.heap.objs.size+1],_,_,H1,rfl,I2,Du l1 l2 _ _ _ _ _,⟨hzp,hpi,⟨_,_,hpo⟩,h1,h2,?_⟩,fun b hb=>?_,q⟩
 .constructor <;> intro e <;> exact absurd e (by show ¬(_:Nat)=_; omega)
 .have hb':s1.heap.objs.size<=b:=by
   simp only[Ks,K8,L8] at hb
   rcases hb with rfl | rfl | rfl | rfl | rfl
   .exact MZ _ _
   .exact MZ _ _
   .exact MZ _ _
   .exact Kn _
   .exact MZ _ _
  exact I1.jg hb' (I1.hok.fresh hb')
end
theorem Ei {K:NY}{a b:Addr}{xs zs:List V}{g:TG}{tt:TT}{te:TE}{own:List Str}{fr:List Nat}{σ:St}{H:Hp}{Q:VK}(Pv:Nat->List V->Hp->Prop) (hJ: ∀i ys H,Pv i ys H->NX K H a xs/\NX K H b zs) (hl:zs.length=xs.length) (h0:Pv 0 [] H) (hz:xs.length < sizeLine) (hlen: ∀i ys H,Pv i ys H->ys.length<=i)
  (hs: ∀i ys H2 x z t,xs[i]?=some x->zs[i]?=some z->Pv i ys H2->H2 t=none->g (.ref t) (cR own fr σ) (upd H2 t (.tup [x,z])) fun σ4 H4=>tt σ4 H4 fun b H5=>if b=true then te σ4 H5 fun y H6=>Pv (i+1) (ys++[y]) H6 else Pv (i+1) ys H5)
  (hq: ∀ys H2 p,Pv xs.length ys H2->H2 p=none->Q (.ref p) (upd H2 p (.lst ys))):mO (Pz K a b) g tt te own fr σ H Q:=by
 refine uh xs.length Pv h0 hz hlen (fun i ys H hi hp=>⟨xs,zs,xs[i],zs[i],(hJ i ys H hp).1,(hJ i ys H hp).2,Kl hi,Kl _⟩) (fun ys H hp=>⟨xs,zs,(hJ _ ys H hp).1,(hJ _ ys H hp).2,.inl (Kn _)⟩) (fun i ys H2 x H3 hi hp hy=>?_) hq
 obtain⟨t,x,z,rfl,nt,rfl,hx,hz'⟩:=hy
 exact hs i ys H2 x z t (hx xs (hJ i ys H2 hp).1) (hz' zs (hJ i ys H2 hp).2) hp nt
section
variable {X:Cx}
theorem zX (val:Nat->Int): ∀n i,i<=n->val (argBest (fun i j=>decide (val i < val j)) n)<=val i/\argBest (fun i j=>decide (val i < val j)) n<=n
 | 0,i,h=>by rw[Nat.le_zero.mp h]; unfold argBest; exact⟨K2 _,Kn _⟩
 | n+1,i,h=>by
  have ih:=zX val n
  unfold argBest
  split
  .rename_i c
   have c:=KQ c
   refine⟨?_,Kn _⟩
   by_cases e:i=n+1
   .rw[e]; exact K2 _
   .have:=(ih i (by omega)).1
    omega
  .rename_i c
   have c:=Ld (K6 _▸c)
   refine⟨?_,Nat.le_succ_of_le (ih n (Kn _)).2⟩
   by_cases e:i=n+1
   .rw[e]; omega
   .exact (ih i (by omega)).1
theorem zD (val:Nat->Int): ∀n i,i<=n->val i<=val (argBest (fun i j=>decide (val i > val j)) n)/\argBest (fun i j=>decide (val i > val j)) n<=n
 | 0,i,h=>by rw[Nat.le_zero.mp h]; unfold argBest; exact⟨K2 _,Kn _⟩
 | n+1,i,h=>by
  have ih:=zD val n
  unfold argBest
  split
  .rename_i c
   have c:=KQ c
   refine⟨?_,Kn _⟩
   by_cases e:i=n+1
   .rw[e]; exact K2 _
   .have:=(ih i (by omega)).1
    omega
  .rename_i c
   have c:=Ld (K6 _▸c)
   refine⟨?_,Nat.le_succ_of_le (ih n (Kn _)).2⟩
   by_cases e:i=n+1
   .rw[e]; omega
   .exact (ih i (by omega)).1
inductive Iq (K:NY) (xs:List V) (H:Hp) (Q:VK):Prop | mk (a:Addr) (ns:List Int) (e0:xs=[.ref a]) (e1:NX K H a (ns.map V.int)) (e2:0 < ns.length) (q: ∀M,M∈ns->(∀x∈ns,M<=x)->Q (.int M) H)
def G0 (K:NY):List V->Hp->VK->Prop:=fun xs H Q=>Iq K xs H Q
inductive ID (K:NY) (xs:List V) (H:Hp) (Q:VK):Prop | mk (a:Addr) (ns:List Int) (e0:xs=[.ref a]) (e1:NX K H a (ns.map V.int)) (e2:0 < ns.length) (q: ∀M,M∈ns->(∀x∈ns,x<=M)->Q (.int M) H)
def Hq (K:NY):List V->Hp->VK->Prop:=fun xs H Q=>ID K xs H Q
theorem pJ {ns:List Int}{its:List Value}(rv:Vals (ns.map V.int) its): ∀(i:Nat) (v:Value),its.toArray[i]?=some v-> ∃t,v=Value.int (ns.getD i 0) t:=fun i v h=>by
 have h:its[i]?=some v:=by simpa using h
 obtain⟨hi,rfl⟩:=Kv.mp h
 have hl:=rv.length
 rw[Kj] at hl
 obtain⟨u,hu,ru⟩:=rv.get (i:=i) (x:= .int (ns.getD i 0)) (by rw[KD,Kl (by omega),Ku,Kl (by omega)]; rfl)
 rw[h] at hu
 cases hu
 obtain⟨t,e⟩:=ru
 exact⟨t,e⟩
theorem Bz (hc:X.calm=true):de X (.builtin "min") (G0 X.K):=by
 intro NV s σ H xs us Q I r h
 obtain⟨a,ns,rfl,ha,hn,q⟩:=h
 obtain⟨u,rfl,ru⟩:=vals1 r
 cases ru
 obtain⟨its,rv,pl,hz⟩:=I.list ha
 have hl:=rv.length
 rw[Kj] at hl
 refine call_min_walk (Mp pl.isList ?_)
 have hk0: ∀(b:Addr) (o:Obj),s.heap.get? b=some o->(s.heap.push { cls:=Value.type "list_iterator",data:=Data.fields #[Value.ref a,Value.int 0 0] }).get? b=some o:=fun b o e=>Kq _ e
 have hlt:a < s.heap.objs.size:=by obtain⟨o,q,_⟩:=pl.isList; exact KA q
 have I1:Inv X NV σ H { s with heap:=s.heap.push { cls:=Value.type "list_iterator",data:=Data.fields #[Value.ref a,Value.int 0 0] },toks:=s.toks }:=I.kept (t':=s.toks) hk0
 have fI:cA X NV H s.heap.objs.size:=I.jg (Kn _) (I.hok.fresh (Kn _))
 refine⟨s.heap.objs.size,_,_,_,_,_,_,rfl,Walks.list (A:=X.A.in1) (show X.A.in1.handled=none from I.ok.hd hc) s.heap.objs.size a (K3 hlt) its.toArray,⟨⟨_,K7 _ rfl,rfl,rfl⟩,?_⟩,fun b hb=>?_,by simp; omega,CmpOf.ints_lt (fun i=>ns.getD i 0) (pJ rv),fun v h' tk hv hk=>?_⟩
 .obtain⟨o,q1,q2⟩:=pl.isList
  exact⟨o,hk0 _ _ q1,q2⟩
 .simp only[Ks,K8,L8] at hb
  rw[LF]
  rcases hb with rfl | rfl
  .exact Ms _
  .exact MF hlt
 .obtain⟨t,rfl⟩:=pJ rv _ _ hv
  have sz:its.toArray.size - 1=ns.length - 1:=by simp; omega
  rw[sz] at *
  have hb:=zX (fun i=>ns.getD i 0) (ns.length - 1)
  refine⟨.int _,H,I1.tE (t':=tk) (ch:=[s.heap.objs.size]) (fun c o hc e=>hk c o hc e) (fun b hb=>by rw[Km.mp hb]; exact fI),⟨t,rfl⟩,q _ ?_ fun x hx=>?_⟩
  .have:=(hb 0 (Ln _)).2
   show ns.getD _ 0∈ns
   rw[Ku,Kl (show argBest _ (ns.length - 1) < ns.length by omega)]
   exact LU _
  .obtain⟨i,hi,rfl⟩:=LG.mp hx
   have:=(hb i (by omega)).1
   rw[Ku (l:=ns) (i:=i),Kl hi] at this
   exact this
theorem Bs (hc:X.calm=true):de X (.builtin "max") (Hq X.K):=by
 intro NV s σ H xs us Q I r h
 obtain⟨a,ns,rfl,ha,hn,q⟩:=h
 obtain⟨u,rfl,ru⟩:=vals1 r
 cases ru
 obtain⟨its,rv,pl,hz⟩:=I.list ha
 have hl:=rv.length
 rw[Kj] at hl
 refine call_max_walk (Mp pl.isList ?_)
 have hk0: ∀(b:Addr) (o:Obj),s.heap.get? b=some o->(s.heap.push { cls:=Value.type "list_iterator",data:=Data.fields #[Value.ref a,Value.int 0 0] }).get? b=some o:=fun b o e=>Kq _ e
 have hlt:a < s.heap.objs.size:=by obtain⟨o,q,_⟩:=pl.isList; exact KA q
 have I1:Inv X NV σ H { s with heap:=s.heap.push { cls:=Value.type "list_iterator",data:=Data.fields #[Value.ref a,Value.int 0 0] },toks:=s.toks }:=I.kept (t':=s.toks) hk0
 have fI:cA X NV H s.heap.objs.size:=I.jg (Kn _) (I.hok.fresh (Kn _))
 refine⟨s.heap.objs.size,_,_,_,_,_,_,rfl,Walks.list (A:=X.A.in1) (show X.A.in1.handled=none from I.ok.hd hc) s.heap.objs.size a (K3 hlt) its.toArray,⟨⟨_,K7 _ rfl,rfl,rfl⟩,?_⟩,fun b hb=>?_,by simp; omega,CmpOf.ints_gt (fun i=>ns.getD i 0) (pJ rv),fun v h' tk hv hk=>?_⟩
 .obtain⟨o,q1,q2⟩:=pl.isList
  exact⟨o,hk0 _ _ q1,q2⟩
 .simp only[Ks,K8,L8] at hb
  rw[LF]
  rcases hb with rfl | rfl
  .exact Ms _
  .exact MF hlt
 .obtain⟨t,rfl⟩:=pJ rv _ _ hv
  have sz:its.toArray.size - 1=ns.length - 1:=by simp; omega
  rw[sz] at *
  have hb:=zD (fun i=>ns.getD i 0) (ns.length - 1)
  refine⟨.int _,H,I1.tE (t':=tk) (ch:=[s.heap.objs.size]) (fun c o hc e=>hk c o hc e) (fun b hb=>by rw[Km.mp hb]; exact fI),⟨t,rfl⟩,q _ ?_ fun x hx=>?_⟩
  .have:=(hb 0 (Ln _)).2
   show ns.getD _ 0∈ns
   rw[Ku,Kl (show argBest _ (ns.length - 1) < ns.length by omega)]
   exact LU _
  .obtain⟨i,hi,rfl⟩:=LG.mp hx
   have:=(hb i (by omega)).1
   rw[Ku (l:=ns) (i:=i),Kl hi] at this
   exact this
end
def nD (kvs:Oi) (v:Int):Option Nat:=match aV kvs (Sum.inl v) with
 | some (.int k)=>some k.toNat
 | _=>none
theorem Et {kvs:Oi}{v:Int}{j:Nat}(h:aV kvs (Sum.inl v)=some (.int (j:Nat))):nD kvs v=some j:=by unfold nD; rw[h]; show some ((j:Int).toNat)=_; rw[KO]
theorem jR {kvs:Oi}{u v:Int}{j:Nat}:nD (putK kvs (Sum.inl u) (.int (j:Nat))) v=if v=u then some j else nD kvs v:=by
 unfold nD
 rw[nU]
 by_cases e:v=u
 .subst e
  rw[Ko rfl,Ko rfl]
  show some ((j:Int).toNat)=_
  rw[KO]
 .rw[Kk (fun z=>e (MW z)),Kk e]
structure Bg (H0 H:Hp) (n:Nat) (rs:List MA.av) (L:List Int) (m:Int) (d q:Addr) (kvs:Oi) (ws:List Int) (sk:Int->Prop):Prop where
 hd:H d=some (.dK kvs)
 hq:H q=some (.lst (ws.map V.int))
 sm:ai H0 H
 fd:H0 d=none
 fq:H0 q=none
 OB: ∀k,has kvs k->0<=k/\k < n
 num: ∀k v,aV kvs (Sum.inl k)=some v-> ∃j:Nat,v= .int (j:Nat)
 ex: ∀k j,nD kvs k=some j-> ∃ps,MA.Tp rs L m k ps/\ps.length=j
 st:nD kvs m=some 0
 wk: ∀w∈ws,has kvs w
 srt:ws.Pairwise fun a b=> ∀x y,nD kvs a=some x->nD kvs b=some y->x<=y
 top: ∀k x,nD kvs k=some x-> ∀w∈ws,∀y,nD kvs w=some y->x<=y+1
 cl: ∀k x,nD kvs k=some x->k∉ws-> ¬sk k-> ∀r∈rs,MA.Tl L r->r.1=k-> ∃y,nD kvs r.2.1=some y/\y<=x+1
 cn:kvs.length+md n kvs<=n
 bd: ∀k j,nD kvs k=some j->j+1<=kvs.length
section
variable {H0 H:Hp}{n:Nat}{rs:List MA.av}{L:List Int}{m:Int}{d q:Addr}{kvs:Oi}{ws:List Int}{sk:Int->Prop}
theorem uZ (num: ∀k v,aV kvs (Sum.inl k)=some v-> ∃j:Nat,v=V.int (j:Nat)){k:Int}(h:has kvs k): ∃j:Nat,nD kvs k=some j/\aV kvs (Sum.inl k)=some (.int (j:Nat)):=by
 obtain⟨v,hv⟩:=LY.mp (show (aV kvs (Sum.inl k)).isSome=true from h)
 obtain⟨j,rfl⟩:=num k v hv
 exact⟨j,Et hv,hv⟩
theorem xB {k:Int}{j:Nat}(h:nD kvs k=some j):has kvs k:=by
 unfold nD at h
 unfold has
 split at h
 .rename_i e; rw[e]; rfl
 .cases h
theorem ve (num: ∀k v,aV kvs (Sum.inl k)=some v-> ∃j:Nat,v=V.int (j:Nat)){k:Int}{j:Nat}(h:nD kvs k=some j):aV kvs (Sum.inl k)=some (.int (j:Nat)):=by
 obtain⟨j',e,hv⟩:=uZ num (xB h)
 rw[h] at e
 cases e
 exact hv
theorem Fl (num: ∀k v,aV kvs (Sum.inl k)=some v-> ∃j:Nat,v=V.int (j:Nat)){k:Int}(h:nD kvs k=none):aV kvs (Sum.inl k)=none:=by
 cases e:aV kvs (Sum.inl k) with
 | none=>rfl
 | some v =>
  obtain⟨j,rfl⟩:=num k v e
  rw[Et e] at h
  cases h
theorem Bg.ne (b:Bg H0 H n rs L m d q kvs ws sk):d≠q:=fE b.hd b.hq (by intro z; cases z)
theorem Bg.pop {mb:Int}{r:List Int}(b:Bg H0 H n rs L m d q kvs (mb::r) sk) (hs: ∀k,¬sk k):Bg H0 (upd H q (.lst (r.map V.int))) n rs L m d q kvs r (fun k=>k=mb) :=
 ⟨(ao b.ne).trans b.hd,ag,b.sm.cN b.fq,b.fd,b.fq,b.OB,b.num,b.ex,b.st,fun x hx=>b.wk x (Kx _ hx),(Nt.mp b.srt).2,fun k x h w hw=>b.top k x h w (Kx _ hw),fun k x h1 h2 h3=>b.cl k x h1 (fun z=>(Ks.mp z).elim h3 h2) (hs k),b.cn,b.bd⟩
theorem Bg.reach {mb:Int}{d0:Nat}{r:MA.av}(b:Bg H0 H n rs L m d q kvs ws (fun k=>k=mb)) (hm:nD kvs mb=some d0) (low: ∀w∈ws,∀y,nD kvs w=some y->d0<=y) (bnd: ∀k x,nD kvs k=some x->x<=d0+1)
  {i:Nat} (hi:rs[i]?=some r) (t:MA.Tl L r) (e:r.1=mb) (u0:0<=r.2.1) (u1:r.2.1 < n) (nh: ¬has kvs r.2.1) :
  Bg H0 (upd (upd H d (.dK (putK kvs (Sum.inl r.2.1) (.int ((d0+1:Nat):Int))))) q (.lst ((ws++[r.2.1]).map V.int))) n rs L m d q (putK kvs (Sum.inl r.2.1) (.int ((d0+1:Nat):Int))) (ws++[r.2.1]) (fun k=>k=mb) /\
  nD (putK kvs (Sum.inl r.2.1) (.int ((d0+1:Nat):Int))) mb=some d0/\(∀w∈ws++[r.2.1],∀y,nD (putK kvs (Sum.inl r.2.1) (.int ((d0+1:Nat):Int))) w=some y->d0<=y)/\(∀k x,nD (putK kvs (Sum.inl r.2.1) (.int ((d0+1:Nat):Int))) k=some x->x<=d0+1):=by
 have old: ∀k j,nD kvs k=some j->k≠r.2.1:=fun k j h z=>nh (z▸xB h)
 have low': ∀w∈ws++[r.2.1],∀y,nD (putK kvs (Sum.inl r.2.1) (.int ((d0+1:Nat):Int))) w=some y->d0<=y:=fun w hw y hy=>by
  rw[jR] at hy
  split at hy
  .cases hy; omega
  .rename_i ne
   rcases Kz.mp hw with hw | hw
   .exact low w hw y hy
   .exact absurd (Km.mp hw) ne
 have bnd': ∀k x,nD (putK kvs (Sum.inl r.2.1) (.int ((d0+1:Nat):Int))) k=some x->x<=d0+1:=fun k x h=>by
  rw[jR] at h
  split at h
  .cases h; exact Kn _
  .exact bnd k x h
 have keep: ∀k j,nD kvs k=some j->nD (putK kvs (Sum.inl r.2.1) (.int ((d0+1:Nat):Int))) k=some j:=fun k j h=>by rw[jR,Kk (old k j h)]; exact h
 refine⟨⟨(ao b.ne).trans ag,ag,(b.sm.cN b.fd).cN b.fq,b.fd,b.fq,fun k hk=>?_,fun k v hv=>?_,fun k j hj=>?_,keep _ _ b.st,fun w hw=>?_,?_,fun k x h w hw y hy=>?_,fun k x h h1 h2 r' hr' t' e'=>?_,?_,fun k j hj=>?_⟩,keep _ _ hm,low',bnd'⟩
 .rcases cQ.mp hk with rfl | hk
  .exact⟨u0,u1⟩
  .exact b.OB k hk
 .rw[nU] at hv
  split at hv
  .cases hv; exact⟨_,rfl⟩
  .exact b.num k v hv
 .rw[jR] at hj
  split at hj
  .rename_i ek
   cases hj
   obtain⟨ps,p1,p2⟩:=b.ex mb d0 hm
   rw[ek]
   exact⟨i::ps,.cons hi t (e▸p1),by rw[KZ,p2]⟩
  .exact b.ex k j hj
 .rcases Kz.mp hw with hw | hw
  .exact cQ.mpr (.inr (b.wk w hw))
  .exact cQ.mpr (.inl (Km.mp hw))
 .refine List.pairwise_append.mpr ⟨?_,List.pairwise_singleton ..,fun a ha c hc x y hx hy=>?_⟩
  .refine List.Pairwise.imp_of_mem ?_ b.srt
   intro a c ha hc h x y hx hy
   have na:a≠r.2.1:=fun z=>nh (z▸b.wk a ha)
   have nc:c≠r.2.1:=fun z=>nh (z▸b.wk c hc)
   rw[jR,Kk na] at hx
   rw[jR,Kk nc] at hy
   exact h x y hx hy
  .rw[Km.mp hc,jR,Ko rfl] at hy
   cases hy
   exact bnd' a x hx
 .have:=bnd' k x h
  have:=low' w hw y hy
  omega
 .have nk:k≠r.2.1:=fun z=>h1 (z▸K0 _ (Km.mpr rfl))
  rw[jR,Kk nk] at h
  obtain⟨y,y1,y2⟩:=b.cl k x h (fun z=>h1 (Lj _ z)) h2 r' hr' t' e'
  exact⟨y,keep _ _ y1,y2⟩
 .have c1:=b.cn
  have c2:=m7 (n:=n) (kvs:=kvs) (v:=V.int ((d0+1:Nat):Int)) u0 u1 nh
  have c3:=i6 kvs (Sum.inl r.2.1:Key) (V.int ((d0+1:Nat):Int))
  omega
 .have lenP:(putK kvs (Sum.inl r.2.1) (V.int ((d0+1:Nat):Int))).length=kvs.length+1:=by
   rw[xE _ (by unfold has at nh; simpa using nh),Kr]
   rfl
  have:=b.bd mb d0 hm
  rw[lenP]
  rw[jR] at hj
  split at hj
  .cases hj; omega
  .have:=b.bd k j hj; omega
theorem Bg.dist (b:Bg H0 H n rs L m d q kvs [] sk) (hs: ∀k,¬sk k):MA.mP rs L m (nD kvs):=by
 refine⟨b.ex,fun v ps h=>?_⟩
 induction h with
 | nil=>exact⟨0,b.st,Kn _⟩
 | @cons i q ps hi t _ ih =>
  obtain⟨x,e,l⟩:=ih
  obtain⟨y,y1,y2⟩:=b.cl _ x e K8 (hs _) q (Kp hi) t rfl
  exact⟨y,y1,by rw[KZ]; omega⟩
end
def EJ (ns:List Int) (dv v:Value):Prop:=(ns=[]/\v=dv)\/ ∃M t,v=Value.int M t/\M∈ns/\ ∀x∈ns,x<=M
theorem BD {prog:Program}{w:World}{A:Around}{R:Result->Shared->Prop}(hA:A.handled=none){l I S:Addr}{its:List Value}{ns:List Int}{dv:Value}(hv: ∀(i:Nat) (v:Value),its.toArray[i]?=some v-> ∃t,v=Value.int (ns.getD i 0) t) (hn:ns.length=its.length)
  (lI:l≠I) (lS:l≠S) (SI:S≠I): ∀(k j:Nat) (s:Shared) (bst:Array Value) (c:Nat),its.length - j=k->j<=its.length->s.heap.IsListIter I l j->s.heap.IsList l its.toArray->s.heap.get? S=some { cls:= .type "list",data:= .seq bst c } ->
  ((bst= #[]/\j=0)\/ ∃b t,bst= #[Value.int b t,Value.int b t]/\b∈ns.take j/\ ∀x∈ns.take j,x<=b) ->
  (∀(v:Value) (h':Heap) (tk:Nat),EJ ns dv v->(∀(b:Addr) (o:Obj),b≠I->b≠S->s.heap.get? b=some o->h'.get? b=some o)->R (.ok (.ret v)) { s with heap:=h',toks:=tk }) ->
  codeAny (model prog w) A (.builtin "max.loop" ⟨[.ref I,.none,.ref S],[(Str.ofString "default",dv)]⟩) R s:=by
 intro k
 induction k with
 | zero =>
  intro j s bst c hk hj hI hl hS hb q
  have ej:j=its.length:=by omega
  refine codeAny_builtin PySem.F.entry_max_loop ?_
  unfold Builtin.«max.loop»
  refine Kt (wpAny_seqItems hS rfl ?_)
  refine Kt (wpAny_tryCatch (wpAny_pyNext_list_end hA hI hl (by simp; omega) fun h' he=>?_))
  have hS':h'.get? S=some { cls:= .type "list",data:= .seq bst c }:=he S _ SI hS
  rcases hb with⟨rfl,rfl⟩ | ⟨b,t,rfl,h1,h2⟩
  .refine Kt (wpAny_rule (K1 ?_))
   refine q dv h' s.toks (.inl ⟨MU.mp (by omega),rfl⟩) fun b o n1 _ e=>he b o n1 e
  .refine Kt (wpAny_updateSeq hS' rfl ?_ (by show 2<=sizeLine; decide) (by show 0<=sizeLine+1; exact Ln _))
   refine Kt (wpAny_letGo (K1 ?_))
   rw[ej,<-hn,K5] at h1 h2
   exact q _ _ s.toks (.inr ⟨b,t,rfl,h1,h2⟩) fun d o n1 n2 e=>(LM _ _ _ _ n2).trans (he d o n1 e)
 | succ k ih =>
  intro j s bst c hk hj hI hl hS hb q
  have hlt:j < its.length:=by omega
  obtain⟨t0,e0⟩:=hv j its[j] (by simp[hlt])
  refine codeAny_builtin PySem.F.entry_max_loop ?_
  unfold Builtin.«max.loop»
  refine Kt (wpAny_seqItems hS rfl ?_)
  refine Kt (wpAny_tryCatch (wpAny_pyNext_list_item hI hl (x:=its[j]) (by simp[hlt]) fun h' hI' sb=>?_))
  have hS':h'.get? S=some { cls:= .type "list",data:= .seq bst c }:=(sb.2 S SI).trans hS
  have hl':h'.IsList l its.toArray:=by
   obtain⟨o,q1,q2⟩:=hl
   exact⟨o,(sb.2 l lI).trans q1,q2⟩
  rw[e0]
  have tk:ns.take (j+1)=ns.take j++[ns.getD j 0]:=by
   rw[La,Ku,Kl (by omega)]
   rfl
  refine Kt (K1 ?_)
  rcases hb with⟨rfl,rfl⟩ | ⟨b,t,rfl,h1,h2⟩
  .refine Kt (wpAny_updateSeq hS' rfl ?_ (by show 0<=sizeLine; decide) (by show 2<=sizeLine+1; decide))
   refine K1 ⟨rfl,?_⟩
   refine ih 1 _ #[.int (ns.getD 0 0) t0,.int (ns.getD 0 0) t0] (c+1) (by omega) (by omega) (hI'.at fun o e=>(LM _ _ _ _ SI.symm).trans e) ?_ ?_ (.inr ⟨_,t0,rfl,?_,?_⟩) fun v h2 tk2 m fr=>?_
   .obtain⟨o,q1,q2⟩:=hl'
    exact⟨o,(LM _ _ _ _ lS).trans q1,q2⟩
   .exact (LV (Obj.mapSeq fun _=> #[Value.int (ns.getD 0 0) t0,Value.int (ns.getD 0 0) t0]) hS' rfl)
   .rw[tk]; simp
   .rw[tk]; intro x hx; simp at hx; rw[hx]; exact K2 _
   .exact q v h2 tk2 m fun d o n1 n2 e=>fr d o n1 n2 ((LM _ _ _ _ n2).trans ((sb.2 d n1).trans e))
  .refine Kt (wpAny_tryCatch (Mn (Kt (CmpOf.ints_gt (A:=A.under _) (P:=fun i v=> ∃t,v=Value.int (if i=0 then ns.getD j 0 else b) t) (fun i=>if i=0 then ns.getD j 0 else b) (fun i v z=>z) 0 1 _ _ _ _ _ ⟨t0,rfl⟩ ⟨t,rfl⟩ ?_))))
   refine Kt (Mn (LL ?_))
   refine Kt (wpAny_letGo (K1 ?_))
   split
   .rename_i cmp
    have cmp:ns.getD j 0 > b:=KQ cmp
    refine Kt (wpAny_updateSeq hS' rfl ?_ (by show 2<=sizeLine; decide) (by show 2<=sizeLine+1; decide))
    refine Kt (wpAny_letGo ?_)
    refine K1 ⟨rfl,?_⟩
    refine ih (j+1) _ #[.int (ns.getD j 0) t0,.int (ns.getD j 0) t0] c (by omega) (by omega) (hI'.at fun o e=>(LM _ _ _ _ SI.symm).trans e) ?_ ?_ (.inr ⟨_,t0,rfl,?_,?_⟩) fun v h2 tk2 m fr=>?_
    .obtain⟨o,q1,q2⟩:=hl'
     exact⟨o,(LM _ _ _ _ lS).trans q1,q2⟩
    .exact (LV (Obj.mapSeq fun _=> #[Value.int (ns.getD j 0) t0,Value.int (ns.getD j 0) t0]) hS' rfl)
    .rw[tk]; simp
    .rw[tk]
     intro x hx
     rcases Kz.mp hx with hx | hx
     .have:=h2 x hx; omega
     .rw[Km.mp hx]; exact K2 _
    .exact q v h2 tk2 m fun d o n1 n2 e=>fr d o n1 n2 ((LM _ _ _ _ n2).trans ((sb.2 d n1).trans e))
   .rename_i cmp
    have cmp: ¬ns.getD j 0 > b:=Ld (K6 _▸cmp)
    refine Kt (wpAny_letGo ?_)
    refine K1 ⟨rfl,?_⟩
    refine ih (j+1) _ #[.int b t,.int b t] c (by omega) (by omega) hI' hl' hS' (.inr ⟨_,t,rfl,?_,?_⟩) fun v h2 tk2 m fr=>?_
    .rw[tk]; exact Lj _ h1
    .rw[tk]
     intro x hx
     rcases Kz.mp hx with hx | hx
     .exact h2 x hx
     .rw[Km.mp hx]; omega
    .exact q v h2 tk2 m fun d o n1 n2 e=>fr d o n1 n2 ((sb.2 d n1).trans e)
theorem Cs {prog:Program}{w:World}{A:Around}{E:Value->Shared->Prop}{s:Shared}{l:Addr}{its:List Value}{ns:List Int}{dv:Value}{Q:Value->Shared->Prop}(hA:A.handled=none) (hl:s.heap.IsList l its.toArray) (hv: ∀(i:Nat) (v:Value),its.toArray[i]?=some v-> ∃t,v=Value.int (ns.getD i 0) t) (hn:ns.length=its.length)
  (q: ∀(v:Value) (h':Heap) (tk:Nat),EJ ns dv v->(∀(b:Addr) (o:Obj),s.heap.get? b=some o->h'.get? b=some o)->Q v { s with heap:=h',toks:=tk }) :
  wpAny (model prog w) A (call (.builtin "max") [.ref l] [(Str.ofString "default",dv)]) Q E s:=by
 refine Nf (codeAny_call_builtin PySem.F.plain_max PySem.F.entry_max (K1 ?_))
 unfold Builtin.max
 refine Kt (m:=Builtin.Builtins.bindParams _ _ _ _) (K1 ?_)
 refine Kt (K1 ?_)
 refine Kt (Mp hl ?_)
 refine Kt (wpAny_newList ?_ (Ln _))
 refine K1 ⟨rfl,?_⟩
 have hlt:l < s.heap.objs.size:=by obtain⟨o,q,_⟩:=id hl; exact KA q
 have e1: ∀(b:Addr) (o:Obj),s.heap.get? b=some o->(s.heap.push { cls:=Value.type "list_iterator",data:=Data.fields #[Value.ref l,Value.int 0 0] }).get? b=some o:=fun b o e=>Kq _ e
 have e2: ∀(b:Addr) (o:Obj),s.heap.get? b=some o->((s.heap.push { cls:=Value.type "list_iterator",data:=Data.fields #[Value.ref l,Value.int 0 0] }).push { cls:=Value.type "list",data:=Data.seq #[] 0 }).get? b=some o:=fun b o e=>Kq _ (e1 b o e)
 refine BD (l:=l) (I:=s.heap.objs.size) (S:=(s.heap.push { cls:=Value.type "list_iterator",data:=Data.fields #[Value.ref l,Value.int 0 0] }).objs.size) (its:=its) (ns:=ns) hA hv hn ?_ ?_ ?_ its.length 0 _ #[] 0 rfl (Ln _) ?_ ?_ ?_ (.inl ⟨rfl,rfl⟩) fun v h' tk m fr=>?_
 .exact K3 hlt
 .rw[LF]; exact K3 (MF hlt)
 .rw[LF]; exact Nat.succ_ne_self _
 .exact⟨_,Kq _ (K7 _ rfl),rfl,rfl⟩
 .obtain⟨o,q1,q2⟩:=hl
  exact⟨o,e2 _ _ q1,q2⟩
 .exact K7 _ rfl
 .refine q v h' tk m fun b o e=>fr b o ?_ ?_ (e2 b o e)
  .exact K3 (KA e)
  .rw[LF]; exact K3 (MF (KA e))
section
variable {X:Cx}
inductive BF (K:NY) (td:TE) (σ:St) (Q:VK) (v:V) (H1:Hp):Prop | mk (a:Addr) (ns:List Int) (e0:v= .ref a) (e1:NX K H1 a (ns.map V.int)) (q:td σ H1 fun w H2=> ∃d:Int,w= .int d/\NX K H2 a (ns.map V.int)/\(ns=[]->Q (.int d) H2)/\ ∀M,M∈ns->(∀x∈ns,x<=M)->Q (.int M) H2)
def ED (K:NY) (te td:TE):TE:=fun σ H Q=>te σ H fun v H1=>BF K td σ Q v H1
theorem F8 {e d:Expr}{te td:TE}{np pos kpos:Pos}(hc:X.calm=true) (hg:Gl X "max") (hm:X.mg "max" = none) (he:PE X e te) (hd:PE X d td) (hst:isStar e=false:=by rfl) :
  PE X (.Call (.Name "max" np) [e] [⟨some "default",d,kpos⟩] pos) (ED X.K te td):=by
 intro NV s σ H Q I h
 refine Mc (m9 I hg hm boot_max ?_)
 have e1:backTo pos (starEach [e] X.env)=(false,eval e X.env)::backTo pos (starEach [] X.env):=by rw[qY hst]; rfl
 refine callWith_kw ?_ e1 (by rw[e1]; rfl)
 generalize hR:(fun (v:V) (H1:Hp)=>BF X.K td σ Q v H1)=REST
 have h':te σ H REST:=by rw[<-hR]; exact h
 have hA:=aa he (ae (X:=X)) hst pos NV s σ H (fun vs H1=>match vs with | [v]=>REST v H1 | _=>False) I h'
 refine N0 hA fun us s1 ⟨vs,H1,I1,r1,q1⟩=>?_
 cases r1 with
 | nil=>exact q1.elim
 | cons r2 r3 =>
  cases r3 with
  | cons _ _=>exact q1.elim
  | nil =>
   have q1':REST _ H1:=q1
   rw[<-hR] at q1'
   obtain⟨a,ns,rfl,ha,q2⟩:=q1'
   cases r2
   show wpAny _ _ (evalAll ((do let v <-eval d X.env; standAt pos; pure v)::(backToKw pos (keywordEach [] X.env)).map (·.2))) _ _ s1
   refine wpAny_evalAll_cons (Kt (N0 (hd NV s1 σ H1 _ I1 q2) fun u s2 ⟨w,H2,I2,rw2,q3⟩=>Kt (L4 (K1 ?_))))
   obtain⟨dd,rfl,ha2,qe,qm⟩:=q3
   obtain⟨td',rfl⟩:=rw2
   refine wpAny_evalAll_nil ?_
   obtain⟨its,rv,pl,hz⟩:=I2.list ha2
   have hl:=rv.length
   rw[Kj] at hl
   refine Cs (ns:=ns) (I2.ok.hd hc) pl.isList (pJ rv) (by omega) fun v h' tk m fr=>?_
   have I3:=I2.kept (t':=tk) fr
   rcases m with⟨rfl,rfl⟩ | ⟨M,t,rfl,m1,m2⟩
   .exact⟨.int dd,H2,I3,⟨_,rfl⟩,qe rfl⟩
   .exact⟨.int M,H2,I3,⟨_,rfl⟩,qm M m1 m2⟩
end
end L2
namespace MA
variable {n:Nat}{rs:List av}{L:List Int}{cs:List (Option Int)}{m x:Int}
theorem Ae (k: ∀r∈rs,N5 n r) (h:bA n rs=some L) (m0:0<=m) (m1:m < n) (x0:0<=x):(∀r∈rs++[(m,-1,g L m+x)],N5 n r)/\ ∃W,bA n (rs++[(m,-1,g L m+x)])=some W/\W.length=n /\
  ∀v:Nat,v < n->g W (v:Nat)=if 0<=aP n rs m.toNat v then mx (g L (v:Nat)) (g L m+x+aP n rs m.toNat v) else g L (v:Nat):=by
 obtain⟨l1,l2,l3,l4⟩:=dz k h
 have sl:(put L m (g L m+x)).length=n:=mW.trans l1
 have sg: ∀i:Int,0<=i->g (put L m (g L m+x)) i=if i=m then g L m+x else g L i:=fun i i0=>gQ m0 (by omega) i0
 have st:bU rs (it rs n (put L m (g L m+x)))=it rs n (put L m (g L m+x)):=by
  refine yw (f:=fun v=>g L v+x) k sl (fun r hr=>?_) fun i i0 i1=>?_
  .have a:=l2 r hr
   unfold ask at a ⊢
   split at a
   .rename_i e; rw[Ko e]; show r.2.2<=g L r.1+x; omega
   .rename_i e; rw[Kk e]; show g L r.2.1+x+r.2.2<=g L r.1+x; omega
  .rw[sg i i0]
   show _<=g L i+x
   split
   .rename_i e; rw[e]; exact K2 _
   .omega
 have pl:(it rs n (put L m (g L m+x))).length=n:=(pH _ _ _).trans sl
 have pm:Met rs (g (it rs n (put L m (g L m+x)))):=jb k pl st
 have pu:=uM k n _ sl
 have p0: ∀i:Int,0<=i->i < n->0<=g (it rs n (put L m (g L m+x))) i:=fun i i0 i1=>by
  have:=pu i i0 i1
  rw[sg i i0] at this
  have h1:=l3 i i0 i1
  have h2:=l3 m m0 m1
  split at this <;> omega
 have k': ∀r∈rs++[(m,-1,g L m+x)],N5 n r:=fun r hr=>by
  rcases Kz.mp hr with hr | hr
  .exact k r hr
  .rw[Km.mp hr]
   have:=l3 m m0 m1
   exact⟨m0,m1,by show (-1:Int)<= -1; decide,by show (-1:Int) < n; omega,by show 0<=g L m+x; omega⟩
 have pm':Met (rs++[(m,-1,g L m+x)]) (g (it rs n (put L m (g L m+x)))):=fun r hr=>by
  rcases Kz.mp hr with hr | hr
  .exact pm r hr
  .rw[Km.mp hr]
   have:=pu m m0 m1
   rw[sg m m0,Ko rfl] at this
   exact this
 obtain⟨W,eW⟩:=sR k' p0 pm'
 obtain⟨w1,w2,w3,w4⟩:=dz k' eW
 refine⟨k',W,eW,w1,fun v hv=>?_⟩
 have a:=w4 _ p0 pm' (v:Nat) (by omega) (by omega)
 have wm:Met rs (g W):=fun r hr=>w2 r (Lj _ hr)
 have b:=uT k wm n _ sl (fun i i0 i1=>by
  rw[sg i i0]
  split
  .rename_i e
   rw[e]
   exact w2 _ (K0 _ (Km.mpr rfl))
  .exact l4 _ w3 wm i i0 i1) (v:Nat) (by omega) (by omega)
 have e:g W (v:Nat)=g (uP n rs L m x) (v:Nat):=Int.le_antisymm a b
 rw[e]
 exact (Fw k h m0 m1 x0).2 v hv
def OQ (w:Int):Option Int->Int
 | none=>0
 | some c=>if c < w then w - c else 0
theorem Aa (k: ∀r∈rs,N5 n r) (h:bA n rs=some L) (m0:0<=m) (m1:m < n) (hw:Within n L cs) (hx: ∀(v:Nat) (c:Int),cs.getD v none=some c->c < x){W:List Int}
  (eW: ∀v:Nat,v < n->g W (v:Nat)=if 0<=aP n rs m.toNat v then mx (g L (v:Nat)) (g L m+x+aP n rs m.toNat v) else g L (v:Nat)) {M:Int} (hM: ∀v:Nat,v < n->OQ (g W (v:Nat)) (cs.getD v none)<=M) :
  (M=0->lA n rs L cs m none)/\ ∀stop,stop < n->OQ (g W (stop:Nat)) (cs.getD stop none)=M->(∀j,j < stop->OQ (g W (j:Nat)) (cs.getD j none)≠M)->M≠0->lA n rs L cs m (some (x - M,stop)):=by
 obtain⟨l1,l2,l3,l4⟩:=dz k h
 have sd:=lB k l2
 have em:((m.toNat:Nat):Int)=m:=by omega
 have hm:=l3 m m0 m1
 have reach: ∀(v:Nat) (c:Int),v < n->cs.getD v none=some c->0<=aP n rs m.toNat v->OQ (g W (v:Nat)) (cs.getD v none)=g L m+x+aP n rs m.toNat v - c/\c < g L m+x+aP n rs m.toNat v:=fun v c hv hc hf=>by
  have h1:=hw v c hv hc
  have h2:=hx v c hc
  rw[eW v hv,Ko hf,hc]
  have e:mx (g L (v:Nat)) (g L m+x+aP n rs m.toNat v)=g L m+x+aP n rs m.toNat v:=by unfold mx; split <;> omega
  rw[e]
  unfold OQ
  exact⟨Ko (by omega),by omega⟩
 have out: ∀v:Nat,v < n->OQ (g W (v:Nat)) (cs.getD v none)≠0-> ∃c,cs.getD v none=some c/\0<=aP n rs m.toNat v:=fun v hv hne=>by
  cases ec:cs.getD v none with
  | none=>rw[ec] at hne; exact absurd rfl hne
  | some c =>
   refine⟨c,rfl,Lh fun hf=>hne ?_⟩
   have h1:=hw v c hv ec
   rw[eW v hv,Kk hf,ec]
   unfold OQ
   exact Kk (by omega)
 refine⟨fun z v c hv hc=>?_,fun stop hs he hf hne=>?_⟩
 .refine Lh fun hf=>?_
  obtain⟨r1,r2⟩:=reach v c hv hc (by omega)
  have:=hM v hv
  omega
 .obtain⟨c,hc,hfar⟩:=out stop hs (by rw[he]; exact hne)
  obtain⟨r1,r2⟩:=reach stop c hs hc hfar
  have s1:=sd m.toNat stop hfar
  rw[em] at s1
  have s2:=hw stop c hs hc
  refine⟨by omega,hs,⟨c,hc,hfar,by omega⟩,fun v c' hv hc' hf'=>?_,fun v c' hv hc' hf'=>?_⟩
  .obtain⟨q1,q2⟩:=reach v c' hv hc' hf'
   have:=hM v hv
   omega
  .obtain⟨q1,q2⟩:=reach v c' (by omega) hc' hf'
   have:=hM v (by omega)
   have:=hf v hv
   omega
end MA
namespace MA
variable {n:Nat}{rs:List av}{L lv:List Int}{m:Int}
structure Lf (n:Nat) (rs:List av) (L:List Int) (m:Int) (lv:List Int):Prop where
 len:lv.length=n
 lo: ∀v:Int,0<=v->v < n->0<=g lv v
 hi: ∀v:Int,0<=v->v < n->g lv v<=99
 ch: ∀v:Int,0<=v->v < n->g lv v < 99-> ∃ps,Tp rs L m v ps/\(ps.length:Int)=g lv v
end MA
namespace L2
open PySem PySem.Spec PyProof.Rows
inductive DL (x:V) (vs:List V) (H:Hp) (Q:VK):Prop | mk (l:Addr) (xs:List Str) (y:Str) (j:Nat) (e0:x= .ref l) (e1:vs=[.str y]) (e2:H l=some (.lst (xs.map V.str))) (e3:xs[j]?=some y) (e4:(∀m,m < j->xs[m]?≠some y)) (q:Q (.int (j:Nat)) H)
def ET:V->List V->Hp->VK->Prop:=fun x vs H Q=>DL x vs H Q
theorem lN {X:Cx}:O3 X "list.index" ET:=by
 intro NV s σ H x vs v us Q I rx rv h
 obtain⟨l,xs,y,j,rfl,rfl,hH,hj,hno,q⟩:=h
 cases rx
 obtain⟨u,rfl,t,rfl⟩:=rv.one
 obtain⟨z,its,n,r,hl,e⟩:=I.mh hH
 have hlen:its.length=xs.length:=by rw[<-hl,Kj]
 have val: ∀m (hm:m < its.toArray.size),∃k t,xs[m]?=some k/\its.toArray[m]=Value.str k t:=fun m hm=>by
  have hm':m < xs.length:=by simpa [hlen] using hm
  obtain⟨u,hu,t,rfl⟩:=r.get (i:=m) (x:= .str xs[m]) (by rw[KD,Kl hm']; rfl)
  refine⟨xs[m],t,Kl hm',?_⟩
  have:=(Kv.mp hu).2
  simpa using this
 have hjl:j < xs.length:=(Kv.mp hj).1
 let eq:Value->Bool:=fun w=>match w with | .str k _=>k == y | _=>false
 have he: ∀w,w∈its.toArray->MeetsSeq.EqGives w (.str y t) (eq w):=fun w hw=>by
  obtain⟨m,hm,rfl⟩:=M3.mp hw
  obtain⟨k,t',_,e2⟩:=val m hm
  rw[e2]
  exact fun prog w A E s Q h=>Nr k t' y t prog w E Q h
 have hjs:j < its.toArray.size:=by rw[KC,hlen]; exact hjl
 refine L9 F.slot_list_index ⟨_,e,rfl⟩ F.entry_list_index (F.args_list_index_2 _ _) (MeetsSeq.list_index l its.toArray n (.str y t) eq he j hjs ?_ ?_ ?_) ⟨e,?_⟩
 .rw[hl] at z
  have:its.length<=sizeLine:=by omega
  have h2:sizeLine < 2 ^ 62:=by decide
  omega
 .obtain⟨k,t',e1,e2⟩:=val j hjs
  rw[e2]
  rw[hj] at e1
  cases e1
  simp[eq]
 .intro m hm hmj
  obtain⟨k,t',e1,e2⟩:=val m hm
  rw[e2]
  have:k≠y:=fun z=>hno m hmj (z▸e1)
  simpa [eq] using this
 .exact⟨.int (j:Nat),H,I.tok _,⟨_,rfl⟩,q⟩
inductive F2 {α β:Type} (R:α->β->Prop):List α->List β->Prop
 | nil:F2 R [] []
 | cons {a b as bs}:R a b->F2 R as bs->F2 R (a::as) (b::bs)
namespace F2
variable {α β:Type}{R S:α->β->Prop}{as as':List α}{bs bs':List β}
theorem length (h:F2 R as bs):as.length=bs.length:=by induction h with
 | nil=>rfl
 | cons _ _ ih=>rw[KZ,KZ,ih]
theorem get (h:F2 R as bs): ∀ {i:Nat}{a:α},as[i]?=some a-> ∃b,bs[i]?=some b/\R a b:=by
 induction h with
 | nil=>intro i a e; cases e
 | @cons a0 b0 _ _ r _ ih =>
  intro i a e
  cases i with
  | zero=>cases e; exact⟨_,rfl,r⟩
  | succ i=>exact ih e
theorem at' (h:F2 R as bs): ∀ {i:Nat}{b:β},bs[i]?=some b-> ∃a,as[i]?=some a/\R a b:=by
 induction h with
 | nil=>intro i a e; cases e
 | @cons a0 b0 _ _ r _ ih =>
  intro i a e
  cases i with
  | zero=>cases e; exact⟨_,rfl,r⟩
  | succ i=>exact ih e
theorem append (h:F2 R as bs) (h':F2 R as' bs'):F2 R (as++as') (bs++bs'):=by
 induction h with
 | nil=>exact h'
 | cons r _ ih=>exact .cons r ih
theorem take (h:F2 R as bs): ∀k,F2 R (as.take k) (bs.take k):=by
 induction h with
 | nil=>intro k; rw[MY,MY]; exact .nil
 | cons r _ ih =>
  intro k
  cases k with
  | zero=>exact .nil
  | succ k=>exact .cons r (ih k)
theorem drop (h:F2 R as bs): ∀k,F2 R (as.drop k) (bs.drop k):=by
 induction h with
 | nil=>intro k; rw[NB,NB]; exact .nil
 | cons r hh ih =>
  intro k
  cases k with
  | zero=>exact .cons r hh
  | succ k=>exact ih k
theorem imp (h:F2 R as bs) (f: ∀a b,R a b->S a b):F2 S as bs:=by
 induction h with
 | nil=>exact .nil
 | cons r _ ih=>exact .cons (f _ _ r) ih
theorem mem (h:F2 R as bs): ∀ {a:α},a∈as-> ∃b∈bs,R a b:=by
 induction h with
 | nil=>intro a e; cases e
 | cons r _ ih =>
  intro a e
  rcases Ks.mp e with rfl | e
  .exact⟨_,Ky,r⟩
  .obtain⟨b,hb,hr⟩:=ih e
   exact⟨b,Kx _ hb,hr⟩
end F2
abbrev Mem:=Str×Option Int
abbrev N9:=Str×Str×Option Str×Int
structure N3 where
 ms:List Mem
 ds:List N9
 ks:List (List Mem×List N9)
def iJ:Option Str->V
 | none=> .non
 | some s=> .str s
def j7 (d:N9):List V:=[.str d.1,.str d.2.1,iJ d.2.2.1,.int d.2.2.2]
def jK (m:Mem):List V:=[.str m.1,fG m.2]
def vF (is:List Addr) (H:Hp) (v:V) (m:Mem):Prop:= ∃t,v= .ref t/\t∈is/\H t=some (.tup (jK m))
def xC (is:List Addr) (H:Hp) (v:V) (d:N9):Prop:= ∃t,v= .ref t/\t∈is/\H t=some (.tup (j7 d))
def MR (is:List Addr) (H:Hp) (p:Addr) (ms:List Mem):Prop:=p∈is/\ ∃xs,H p=some (.lst xs)/\F2 (vF is H) xs ms
def DR (is:List Addr) (H:Hp) (p:Addr) (ds:List N9):Prop:=p∈is/\ ∃xs,H p=some (.lst xs)/\F2 (xC is H) xs ds
def xq (is:List Addr) (H:Hp) (v:V) (k:List Mem×List N9):Prop:= ∃t p q,v= .ref t/\t∈is/\H t=some (.tup [.ref p,.ref q])/\MR is H p k.1/\DR is H q k.2
section
variable {is is':List Addr}{H H':Hp}{p q:Addr}{ms:List Mem}{ds:List N9}{v:V}
theorem vF.mono {m:Mem}(h:vF is H v m) (si: ∀b∈is,b∈is') (sh: ∀b o,b∈is->H b=some o->H' b=some o):vF is' H' v m:=by
 obtain⟨t,e,a,b⟩:=h
 exact⟨t,e,si _ a,sh _ _ a b⟩
theorem xC.mono {m:N9}(h:xC is H v m) (si: ∀b∈is,b∈is') (sh: ∀b o,b∈is->H b=some o->H' b=some o):xC is' H' v m:=by
 obtain⟨t,e,a,b⟩:=h
 exact⟨t,e,si _ a,sh _ _ a b⟩
theorem MR.mono (h:MR is H p ms) (si: ∀b∈is,b∈is') (sh: ∀b o,b∈is->H b=some o->H' b=some o):MR is' H' p ms:=by
 obtain⟨a,xs,b,c⟩:=h
 exact⟨si _ a,xs,sh _ _ a b,c.imp fun _ _ r=>r.mono si sh⟩
theorem DR.mono (h:DR is H p ds) (si: ∀b∈is,b∈is') (sh: ∀b o,b∈is->H b=some o->H' b=some o):DR is' H' p ds:=by
 obtain⟨a,xs,b,c⟩:=h
 exact⟨si _ a,xs,sh _ _ a b,c.imp fun _ _ r=>r.mono si sh⟩
theorem xq.mono {k:List Mem×List N9}(h:xq is H v k) (si: ∀b∈is,b∈is') (sh: ∀b o,b∈is->H b=some o->H' b=some o):xq is' H' v k:=by
 obtain⟨t,p,q,e,a,b,c,d⟩:=h
 exact⟨t,p,q,e,si _ a,sh _ _ a b,c.mono si sh,d.mono si sh⟩
end
abbrev ox (p q r:Addr):List (Str×V):=[("member_rows",.ref p),("demand_rows",.ref q),("kept_deeds",.ref r)]
structure Od (C:Addr) (H:Hp) (h dx p q r:Addr) (is:List Addr) (kv:List V) (S:N3):Prop where
 n1:dx≠h
 n2:r≠h
 n3:r≠dx
 nh:h∉is
 nd:dx∉is
 nr:r∉is
 ih:H h=some (.ins C dx (ox p q r))
 id:H dx=some (.own h)
 ir:H r=some (.lst kv)
 ks:F2 (xq is H) kv S.ks
 ms:MR is H p S.ms
 ds:DR is H q S.ds
 al: ∀b∈is,∃o,H b=some o
def HI (C:Addr) (H:Hp) (h:Addr) (os:List Addr) (S:N3):Prop:= ∃dx p q r is kv,os=h::dx::r::is/\Od C H h dx p q r is kv S
def A6 (os:List Addr) (H H':Hp):Prop:= ∀b o,b∉os->H b=some o->H' b=some o
def dY (C:Addr) (H:Hp) (h:Addr) (os:List Addr) (S:N3) (H':Hp):Prop:=A6 os H H'/\ ∃os',HI C H' h os' S/\ ∀b∈os',b∈os\/H b=none
section
variable {C h dx p q r:Addr}{H H':Hp}{is os:List Addr}{kv:List V}{S:N3}
theorem Od.sh (I:Od C H h dx p q r is kv S){b:Addr}(hb:b∈is):b≠h/\b≠dx/\b≠r:=⟨fun z=>I.nh (z▸hb),fun z=>I.nd (z▸hb),fun z=>I.nr (z▸hb)⟩
theorem Od.zB (I:Od C H h dx p q r is kv S) (s: ∀b o,b∈h::dx::r::is->H b=some o->H' b=some o):Od C H' h dx p q r is kv S:=by
 have si: ∀b o,b∈is->H b=some o->H' b=some o:=fun b o hb e=>s b o (by simp[hb]) e
 exact⟨I.n1,I.n2,I.n3,I.nh,I.nd,I.nr,s _ _ (by simp) I.ih,s _ _ (by simp) I.id,s _ _ (by simp) I.ir,I.ks.imp fun _ _ z=>z.mono (fun _ z=>z) si,I.ms.mono (fun _ z=>z) si,I.ds.mono (fun _ z=>z) si,fun b hb=>by
  obtain⟨o,e⟩:=I.al b hb
  exact⟨o,si b o hb e⟩⟩
theorem Od.same (I:Od C H h dx p q r is kv S) (s:ai H H'):Od C H' h dx p q r is kv S:=I.zB fun b o _ e=>s b o e
theorem HI.grow (i:HI C H h os S) (s: ∀b o,b∈os->H b=some o->H' b=some o):HI C H' h os S:=by
 obtain⟨dx,p,q,r,is,kv,rfl,I⟩:=i
 exact⟨dx,p,q,r,is,kv,rfl,I.zB s⟩
theorem HI.has (i:HI C H h os S): ∀b∈os,∃o,H b=some o:=by
 obtain⟨dx,p,q,r,is,kv,rfl,I⟩:=i
 intro b hb
 rcases Ks.mp hb with rfl | hb
 .exact⟨_,I.ih⟩
 rcases Ks.mp hb with rfl | hb
 .exact⟨_,I.id⟩
 rcases Ks.mp hb with rfl | hb
 .exact⟨_,I.ir⟩
 .exact I.al b hb
theorem dY.of (i:HI C H h os S) (s:ai H H'):dY C H h os S H':=⟨fun b o _ e=>s b o e,os,i.grow fun b o _ e=>s b o e,fun b hb=> .inl hb⟩
theorem Od.keep {t:Addr}(I:Od C H h dx p q r is kv S) (nt:H t=none):Od C (upd (upd H t (.tup [.ref p,.ref q])) r (.lst (kv++[.ref t]))) h dx p q r (t::is) (kv++[.ref t]) ⟨S.ms,S.ds,S.ks++[(S.ms,S.ds)]⟩:=by
 have th:h≠t:=aB I.ih nt
 have td:dx≠t:=aB I.id nt
 have tr:r≠t:=aB I.ir nt
 have si: ∀b o,b∈is->H b=some o->(upd (upd H t (.tup [.ref p,.ref q])) r (.lst (kv++[.ref t]))) b=some o:=fun b o hb e=>(ao (I.sh hb).2.2).trans ((ao (aB e nt)).trans e)
 have su: ∀b∈is,b∈t::is:=fun b hb=>Kx _ hb
 have ht:(upd (upd H t (.tup [.ref p,.ref q])) r (.lst (kv++[.ref t]))) t=some (.tup [.ref p,.ref q]):=(ao (KW tr)).trans ag
 refine⟨I.n1,I.n2,I.n3,?_,?_,?_,?_,?_,ag,?_,I.ms.mono su si,I.ds.mono su si,fun b hb=>?_⟩
 .intro z; rcases Ks.mp z with z | z
  .exact th z
  .exact I.nh z
 .intro z; rcases Ks.mp z with z | z
  .exact td z
  .exact I.nd z
 .intro z; rcases Ks.mp z with z | z
  .exact tr z
  .exact I.nr z
 .exact (ao (KW I.n2)).trans ((ao th).trans I.ih)
 .exact (ao (KW I.n3)).trans ((ao td).trans I.id)
 .refine (I.ks.imp fun _ _ z=>z.mono su si).append (.cons ⟨t,p,q,rfl,Ky,ht,I.ms.mono su si,I.ds.mono su si⟩ .nil)
 .rcases Ks.mp hb with rfl | hb
  .exact⟨_,ht⟩
  .obtain⟨o,e⟩:=I.al b hb
   exact⟨o,si b o hb e⟩
theorem Od.put {p' q':Addr}{is':List Addr}{ms':List Mem}{ds':List N9}(I:Od C H h dx p q r is kv S) (su: ∀b∈is,b∈is') (new: ∀b∈is',b≠h/\b≠dx/\b≠r) (al: ∀b∈is',∃o,H b=some o) (m:MR is' H p' ms') (d:DR is' H q' ds') :
  Od C (upd H h (.ins C dx (ox p' q' r))) h dx p' q' r is' kv ⟨ms',ds',S.ks⟩:=by
 have si: ∀b o,b∈is'->H b=some o->(upd H h (.ins C dx (ox p' q' r))) b=some o:=fun b o hb e=>(ao (new b hb).1).trans e
 refine⟨I.n1,I.n2,I.n3,fun z=>(new _ z).1 rfl,fun z=>(new _ z).2.1 rfl,fun z=>(new _ z).2.2 rfl,ag,(ao I.n1).trans I.id,(ao I.n2).trans I.ir,?_,m.mono (fun _ z=>z) si,d.mono (fun _ z=>z) si,fun b hb=>?_⟩
 .exact I.ks.imp fun _ _ z=>z.mono su fun b o hb e=>si b o (su b hb) e
 .obtain⟨o,e⟩:=al b hb
  exact⟨o,si b o hb e⟩
theorem Od.next (I:Od C H h dx p q r is kv S){H':Hp}{p' q':Addr}{is':List Addr}{kv':List V}{S':N3}(I':Od C H' h dx p' q' r is' kv' S') (so: ∀b o,b≠h->b≠r->H b=some o->H' b=some o) (new: ∀b∈is',b∈is\/H b=none):dY C H h (h::dx::r::is) S' H':=by
 refine⟨fun b o hb e=>so b o (fun z=>hb (by simp[z])) (fun z=>hb (by simp[z])) e,_,⟨dx,p',q',r,is',kv',rfl,I'⟩,fun b hb=>?_⟩
 simp only[Ks] at hb ⊢
 rcases hb with rfl | rfl | rfl | hb
 .exact .inl (.inl rfl)
 .exact .inl (.inr (.inl rfl))
 .exact .inl (.inr (.inr (.inl rfl)))
 .rcases new b hb with z | z
  .exact .inl (.inr (.inr (.inr z)))
  .exact .inr z
end
def refs (xs:List V):List Addr:=xs.filterMap fun v=>match v with
 | .ref t=>some t
 | _=>none
theorem yx {xs:List V}{t:Addr}:t∈refs xs↔V.ref t∈xs:=by
 unfold refs
 rw[Mv]
 constructor
 .rintro⟨v,hv,e⟩
  cases v <;> simp at e
  subst e
  exact hv
 .exact fun h=>⟨_,h,rfl⟩
section
variable {C h dx p q r:Addr}{H:Hp}{is:List Addr}{kv:List V}{S:N3}
def qo {α:Type}(f:α->List V) (is:List Addr) (H3 H4:Hp) (v:V) (m:α):Prop:= ∃t,v= .ref t/\(t∈is\/H3 t=none)/\H4 t=some (.tup (f m))
theorem Od.rows {α:Type}{f:α->List V}(I:Od C H h dx p q r is kv S){H4:Hp}(s4: ∀b o,b∈is->H b=some o->H4 b=some o){p':Addr}(np:H p'=none){xs:List V}(hp:H4 p'=some (.lst xs)){ms:List α}(hx:F2 (qo f is H H4) xs ms) :
  (∀b∈p'::(refs xs++is),b≠h/\b≠dx/\b≠r)/\(∀b∈p'::(refs xs++is),∃o,H4 b=some o)/\(∀b∈p'::(refs xs++is),b∈is\/H b=none)/\F2 (fun v m=> ∃t,v= .ref t/\t∈p'::(refs xs++is)/\H4 t=some (.tup (f m))) xs ms:=by
 have fr: ∀b,H b=none->b≠h/\b≠dx/\b≠r:=fun b e=>⟨fun z=>(by rw[z,I.ih] at e; cases e),fun z=>(by rw[z,I.id] at e; cases e),fun z=>(by rw[z,I.ir] at e; cases e)⟩
 have key: ∀b∈p'::(refs xs++is),(b∈is\/H b=none)/\ ∃o,H4 b=some o:=fun b hb=>by
  rcases Ks.mp hb with rfl | hb
  .exact⟨.inr np,_,hp⟩
  rcases Kz.mp hb with hb | hb
  .obtain⟨m,_,t,e,ht,hh⟩:=hx.mem (yx.mp hb)
   cases e
   exact⟨ht,_,hh⟩
  .obtain⟨o,e⟩:=I.al b hb
   exact⟨.inl hb,o,s4 _ _ hb e⟩
 refine⟨fun b hb=>?_,fun b hb=>(key b hb).2,fun b hb=>(key b hb).1,?_⟩
 .rcases (key b hb).1 with z | z
  .exact I.sh z
  .exact fr b z
 .have: ∀ {ys:List V}{zs:List α},F2 (qo f is H H4) ys zs->(∀v∈ys,v∈xs)->F2 (fun v m=> ∃t,v= .ref t/\t∈p'::(refs xs++is)/\H4 t=some (.tup (f m))) ys zs:=by
   intro ys zs hy
   induction hy with
   | nil=>exact fun _=> .nil
   | @cons v m _ _ r _ ih =>
    intro sub
    obtain⟨t,rfl,_,hh⟩:=r
    exact .cons ⟨t,rfl,Kx _ (Lj _ (yx.mpr (sub _ Ky))),hh⟩ (ih fun v hv=>sub v (Kx _ hv))
  exact this hx fun _ z=>z
theorem Od.A9 (I:Od C H h dx p q r is kv S){H2:Hp}(s2:ai H H2){t:Addr}(nt:H2 t=none){H4:Hp}(s4:ai (upd (upd H2 t (.tup [.ref p,.ref q])) r (.lst (kv++[.ref t]))) H4){p':Addr}(np:H p'=none){xs:List V}(hp:H4 p'=some (.lst xs)){ms:List Mem}
  (hx:F2 (qo jK is H H4) xs ms):dY C H h (h::dx::r::is) ⟨ms,S.ds,S.ks++[(S.ms,S.ds)]⟩ (upd H4 h (.ins C dx (ox p' q r))):=by
 have I3:=(I.same s2).keep nt
 have nt0:=s2.free nt
 have s3: ∀b o,b≠r->H b=some o->(upd (upd H2 t (.tup [.ref p,.ref q])) r (.lst (kv++[.ref t]))) b=some o:=fun b o n e=>(ao n).trans ((ao (aB (s2 _ _ e) nt)).trans (s2 _ _ e))
 obtain⟨a1,a2,a3,a4⟩:=I.rows (fun b o hb e=>s4 _ _ (s3 b o (I.sh hb).2.2 e)) np hp hx
 have lift: ∀b∈p'::(refs xs++(t::is)),b=t\/b∈p'::(refs xs++is):=fun b hb=>by
  simp only[Ks,Kz] at hb ⊢
  rcases hb with z | z | z | z
  .exact .inr (.inl z)
  .exact .inr (.inr (.inl z))
  .exact .inl z
  .exact .inr (.inr (.inr z))
 have a1': ∀b∈p'::(refs xs++(t::is)),b≠h/\b≠dx/\b≠r:=fun b hb=>by
  rcases lift b hb with z | z
  .rw[z]; exact⟨(aB I.ih nt0).symm,(aB I.id nt0).symm,(aB I.ir nt0).symm⟩
  .exact a1 b z
 have a2': ∀b∈p'::(refs xs++(t::is)),∃o,H4 b=some o:=fun b hb=>by
  rcases lift b hb with z | z
  .rw[z]; obtain⟨o,e⟩:=I3.al t Ky; exact⟨o,s4 _ _ e⟩
  .exact a2 b z
 have sub: ∀b∈p'::(refs xs++is),b∈p'::(refs xs++(t::is)):=fun b hb=>by
  simp only[Ks,Kz] at hb ⊢
  rcases hb with z | z | z
  .exact .inl z
  .exact .inr (.inl z)
  .exact .inr (.inr (.inr z))
 have a4':=a4.imp (S:=fun v m=> ∃t',v=V.ref t'/\t'∈p'::(refs xs++(t::is))/\H4 t'=some (.tup (jK m))) fun v m ⟨b,e,z,w⟩=>⟨b,e,sub b z,w⟩
 have su3: ∀b∈t::is,b∈p'::(refs xs++(t::is)):=fun b hb=>Kx _ (K0 _ hb)
 have su:=su3
 have I5:=(I3.same s4).put (p':=p') (q':=q) (ms':=ms) (ds':=S.ds) su a1' a2' ⟨Ky,xs,hp,a4'⟩ ((I3.same s4).ds.mono su3 fun _ _ _ e=>e)
 refine I.next I5 (fun b o n1 n2 e=>(ao n1).trans (s4 _ _ (s3 b o n2 e))) fun b hb=>?_
 rcases lift b hb with z | z
 .rw[z]; exact .inr nt0
 .exact a3 b z
theorem Od.EI (I:Od C H h dx p q r is kv S){H2:Hp}(s2:ai H H2){t:Addr}(nt:H2 t=none){H4:Hp}(s4:ai (upd (upd H2 t (.tup [.ref p,.ref q])) r (.lst (kv++[.ref t]))) H4){q':Addr}(np:H q'=none){xs:List V}(hp:H4 q'=some (.lst xs)){ds:List N9}
  (hx:F2 (qo j7 is H H4) xs ds):dY C H h (h::dx::r::is) ⟨S.ms,ds,S.ks++[(S.ms,S.ds)]⟩ (upd H4 h (.ins C dx (ox p q' r))):=by
 have I3:=(I.same s2).keep nt
 have nt0:=s2.free nt
 have s3: ∀b o,b≠r->H b=some o->(upd (upd H2 t (.tup [.ref p,.ref q])) r (.lst (kv++[.ref t]))) b=some o:=fun b o n e=>(ao n).trans ((ao (aB (s2 _ _ e) nt)).trans (s2 _ _ e))
 obtain⟨a1,a2,a3,a4⟩:=I.rows (fun b o hb e=>s4 _ _ (s3 b o (I.sh hb).2.2 e)) np hp hx
 have lift: ∀b∈q'::(refs xs++(t::is)),b=t\/b∈q'::(refs xs++is):=fun b hb=>by
  simp only[Ks,Kz] at hb ⊢
  rcases hb with z | z | z | z
  .exact .inr (.inl z)
  .exact .inr (.inr (.inl z))
  .exact .inl z
  .exact .inr (.inr (.inr z))
 have a1': ∀b∈q'::(refs xs++(t::is)),b≠h/\b≠dx/\b≠r:=fun b hb=>by
  rcases lift b hb with z | z
  .rw[z]; exact⟨(aB I.ih nt0).symm,(aB I.id nt0).symm,(aB I.ir nt0).symm⟩
  .exact a1 b z
 have a2': ∀b∈q'::(refs xs++(t::is)),∃o,H4 b=some o:=fun b hb=>by
  rcases lift b hb with z | z
  .rw[z]; obtain⟨o,e⟩:=I3.al t Ky; exact⟨o,s4 _ _ e⟩
  .exact a2 b z
 have sub: ∀b∈q'::(refs xs++is),b∈q'::(refs xs++(t::is)):=fun b hb=>by
  simp only[Ks,Kz] at hb ⊢
  rcases hb with z | z | z
  .exact .inl z
  .exact .inr (.inl z)
  .exact .inr (.inr (.inr z))
 have a4':=a4.imp (S:=fun v m=> ∃t',v=V.ref t'/\t'∈q'::(refs xs++(t::is))/\H4 t'=some (.tup (j7 m))) fun v m ⟨b,e,z,w⟩=>⟨b,e,sub b z,w⟩
 have su3: ∀b∈t::is,b∈q'::(refs xs++(t::is)):=fun b hb=>Kx _ (K0 _ hb)
 have su:=su3
 have I5:=(I3.same s4).put (p':=p) (q':=q') (ms':=S.ms) (ds':=ds) su a1' a2' ((I3.same s4).ms.mono su3 fun _ _ _ e=>e) ⟨Ky,xs,hp,a4'⟩
 refine I.next I5 (fun b o n1 n2 e=>(ao n1).trans (s4 _ _ (s3 b o n2 e))) fun b hb=>?_
 rcases lift b hb with z | z
 .rw[z]; exact .inr nt0
 .exact a3 b z
theorem Od.back (I:Od C H h dx p q r is kv S){ks:List (List Mem×List N9)}{k:List Mem×List N9}(e:S.ks=ks++[k]): ∃kv' t p' q',kv=kv'++[.ref t]/\H t=some (.tup [.ref p',.ref q'])/\t≠r/\t≠h /\
  dY C H h (h::dx::r::is) ⟨k.1,k.2,ks⟩ (upd (upd H r (.lst kv')) h (.ins C dx (ox p' q' r))):=by
 have hk:=I.ks
 rw[e] at hk
 have hl:=hk.length
 rw[Kr,M0] at hl
 obtain⟨v,hv,t,p',q',rfl,ti,ht,hm,hd⟩:=hk.at' (i:=ks.length) (b:=k) (by simp)
 have ekv:kv=kv.take ks.length++[.ref t]:=by
  have h1:kv.drop ks.length=[.ref t]:=by
   rw[List.drop_eq_getElem_cons (by omega),List.drop_eq_nil_of_le (by omega)]
   have:=(Kv.mp hv).2
   rw[this]
  rw[<-h1,List.take_append_drop]
 have hk2:=hk.take ks.length
 rw[ME (Kn _),K5] at hk2
 have si: ∀b o,b∈is->H b=some o->(upd H r (.lst (kv.take ks.length))) b=some o:=fun b o hb e=>(ao (I.sh hb).2.2).trans e
 have I2:Od C (upd H r (.lst (kv.take ks.length))) h dx p q r is (kv.take ks.length) ⟨S.ms,S.ds,ks⟩ :=
  ⟨I.n1,I.n2,I.n3,I.nh,I.nd,I.nr,(ao (KW I.n2)).trans I.ih,(ao (KW I.n3)).trans I.id,ag,hk2.imp fun _ _ z=>z.mono (fun _ z=>z) si,I.ms.mono (fun _ z=>z) si,I.ds.mono (fun _ z=>z) si,fun b hb=>by
   obtain⟨o,e⟩:=I.al b hb
   exact⟨o,si b o hb e⟩⟩
 refine⟨kv.take ks.length,t,p',q',ekv,ht,(I.sh ti).2.2,(I.sh ti).1,?_⟩
 have I3:=I2.put (p':=p') (q':=q') (is':=is) (fun _ z=>z) (fun b hb=>I.sh hb) I2.al (hm.mono (fun _ z=>z) si) (hd.mono (fun _ z=>z) si)
 exact I.next I3 (fun b o n1 n2 e=>(ao n1).trans ((ao n2).trans e)) fun b hb=> .inl hb
end
theorem tG {p q r:Addr}{H H2:Hp}{kv:List V}(s2:ai H H2){t b:Addr}(nt:H2 t=none) (e:(upd (upd H2 t (.tup [.ref p,.ref q])) r (.lst (kv++[.ref t]))) b=none):H b=none:=by
 cases eb:H b with
 | none=>rfl
 | some o =>
  by_cases n:b=r
  .rw[n,ag] at e; cases e
  .rw[ao n,ao (aB (s2 _ _ eb) nt),s2 _ _ eb] at e; cases e
def aI (S:N3):List Str:=S.ms.map (·.1)
def bg (S:N3):List Str:=S.ds.map (·.1)
inductive dC
 | member (y:Str) | plain (y m:Str) (p e o:Int) | link (y m b:Str) (mo:Int) | top (m:Str) (wd:Int) | back | sM (m:Str) | sD (y:Str) | sT (m:Str)
def lg:dC->List V
 | .member y=>[.str "member",.str y]
 | .plain y m p e o=>[.str "plain",.str y,.str m,.int p,.int e,.int o]
 | .link y m b mo=>[.str "link",.str y,.str m,.str b,.int mo]
 | .top m wd=>[.str "top",.str m,.int wd]
 | .back=>[.str "back"]
 | .sM m=>[.str "strike",.str "member",.str m]
 | .sD y=>[.str "strike",.str "demand",.str y]
 | .sT m=>[.str "strike",.str "top",.str m]
def eI (p e o:Int):Int:=(p*e+o - 1) / o
def Oj (p e o:Int):Prop:=0<=p/\p<=999/\1<=e/\e<=999/\1<=o/\o<=999
def OL:dC->Prop
 | .member y=>Nm y
 | .plain y m p e o=>Nm y/\Nm m/\Oj p e o
 | .link y m b mo=>Nm y/\Nm m/\Nm b/\0<=mo/\mo<=99
 | .top m wd=>Nm m/\0<=wd/\wd<=99999
 | .back=>True
 | .sM m=>Nm m
 | .sD y=>Nm y
 | .sT m=>Nm m
inductive Due
 | ok | unknown | inUse | tooMuch | full | nothing
deriving DecidableEq
def wordOf:Due->Str
 | .ok=> ""
 | .unknown=> "unknown"
 | .inUse=> "in use"
 | .tooMuch=> "too much"
 | .full=> "full"
 | .nothing=> "nothing back"
def bQ (ms:List Mem) (m:Str):Option Int:=match ms.find? (fun x=>x.1 == m) with
 | some x=>x.2
 | none=>none
def rB (y:Str) (ds:List N9):Bool:=ds.any fun d=>decide (d.2.1=y) || decide (d.2.2.1=some y)
def aO (S:N3):dC->Due
 | .member y=>if y∈aI S then .inUse else if 12<=S.ms.length then .full else .ok
 | .plain y m p e o=>if m∉aI S then .unknown else if y∈bg S then .inUse else if 99999 < eI p e o then .tooMuch else if 24<=S.ds.length then .full else .ok
 | .link y m b _=>if m∉aI S\/b∉aI S then .unknown else if y∈bg S then .inUse else if 24<=S.ds.length then .full else .ok
 | .top m _=>if m∉aI S then .unknown else if bQ S.ms m≠none then .inUse else .ok
 | .back=>if S.ks=[] then .nothing else .ok
 | .sM m=>if m∉aI S then .unknown else if rB m S.ds=true then .inUse else .ok
 | .sD y=>if y∉bg S then .unknown else .ok
 | .sT m=>if bQ S.ms m=none then .unknown else .ok
def fV (ms:List Mem) (m:Str) (o:Option Int):List Mem:=ms.map fun x=>if x.1=m then (m,o) else x
def iB (S:N3):dC->N3
 | .member y=>⟨S.ms++[(y,none)],S.ds,S.ks++[(S.ms,S.ds)]⟩
 | .plain y m p e o=>⟨S.ms,S.ds++[(y,m,none,eI p e o)],S.ks++[(S.ms,S.ds)]⟩
 | .link y m b mo=>⟨S.ms,S.ds++[(y,m,some b,mo)],S.ks++[(S.ms,S.ds)]⟩
 | .top m wd=>⟨fV S.ms m (some wd),S.ds,S.ks++[(S.ms,S.ds)]⟩
 | .back=>match S.ks.getLast? with
  | some k=>⟨k.1,k.2,S.ks.dropLast⟩
  | none=>S
 | .sM m=>⟨S.ms.filter fun x=>decide (x.1≠m),S.ds,S.ks++[(S.ms,S.ds)]⟩
 | .sD y=>⟨S.ms,S.ds.filter fun x=>decide (x.1≠y),S.ks++[(S.ms,S.ds)]⟩
 | .sT m=>⟨fV S.ms m none,S.ds,S.ks++[(S.ms,S.ds)]⟩
def cO (S:N3) (d:dC):N3:=if aO S d= .ok then iB S d else S
structure OP (ms:List Mem) (ds:List N9):Prop where
 ml:ms.length<=12
 dl:ds.length<=24
 mn:(ms.map (·.1)).Nodup
 dn:(ds.map (·.1)).Nodup
 mN: ∀y∈ms.map (·.1),Nm y
 dN: ∀y∈ds.map (·.1),Nm y
structure Gd (S:N3):Prop where
 now:OP S.ms S.ds
 ks: ∀k∈S.ks,OP k.1 k.2
 bot:(S.ks=[]->S.ms=[]/\S.ds=[])/\ ∀k,S.ks[0]?=some k->k=([],[])
theorem rV {α:Type}{l:List α}{x:α}(h:l.Nodup) (n:x∉l):(l++[x]).Nodup:=by
 rw[MG]
 exact⟨h,by simp,fun a ha b hb e=>by rw[Km] at hb; subst hb; subst e; exact n ha⟩
theorem fA {ms:List Mem}{m:Str}{o:Option Int}:(fV ms m o).map (·.1)=ms.map (·.1):=by
 unfold fV
 rw[L1]
 refine MN fun x _=>?_
 show (if x.1=m then (m,o) else x).1=x.1
 split
 .rename_i e; exact e.symm
 .rfl
theorem pE {α β:Type}{f:α->β}{p:α->Bool}{l:List α}: ∀y∈(l.filter p).map f,y∈l.map f:=fun y hy=>by
 obtain⟨x,hx,rfl⟩:=Lx.mp hy
 exact Lx.mpr ⟨x,(Li.mp hx).1,rfl⟩
theorem rT {α β:Type}{f:α->β}{p:α->Bool}{l:List α}(h:(l.map f).Nodup):((l.filter p).map f).Nodup :=
 List.Pairwise.sublist (List.Sublist.map f List.filter_sublist) h
theorem xD {α:Type}{l:List α}{x:α}:l++[x]≠[]:=by simp
theorem kL {S:N3}(g:Gd S){ms:List Mem}{ds:List N9}(n:OP ms ds):Gd ⟨ms,ds,S.ks++[(S.ms,S.ds)]⟩:=by
 refine⟨n,fun k hk=>?_,fun z=>absurd z xD,fun k hk=>?_⟩
 .rcases Kz.mp hk with hk | hk
  .exact g.ks k hk
  .rw[Km.mp hk]; exact g.now
 .cases e:S.ks with
  | nil =>
   have hk:(S.ks++[(S.ms,S.ds)])[0]?=some k:=hk
   rw[e] at hk
   cases hk
   obtain⟨h1,h2⟩:=g.bot.1 e
   rw[h1,h2]
  | cons k0 r =>
   have hk:(S.ks++[(S.ms,S.ds)])[0]?=some k:=hk
   refine g.bot.2 k ?_
   rw[e] at hk ⊢
   exact hk
theorem FJ {S:N3}{d:dC}(g:Gd S) (ok:OL d) (due:aO S d= .ok):Gd (iB S d):=by
 obtain⟨⟨ml,dl,mn,dn,mN,dN⟩,gk,gb⟩:=id g
 cases d with
 | member y =>
  rw[aO] at due
  split at due
  .cases due
  rename_i hm
  split at due
  .cases due
  rename_i hl
  refine kL g ⟨by rw[Kr]; show S.ms.length+1<=12; omega,dl,?_,dn,?_,dN⟩
  .rw[KN]; exact rV mn hm
  .intro z hz
   rw[KN] at hz
   rcases Kz.mp hz with hz | hz
   .exact mN z hz
   .rw[Km.mp hz]; exact ok
 | plain y m p e o =>
  rw[aO] at due
  split at due
  .cases due
  split at due
  .cases due
  rename_i hn
  split at due
  .cases due
  split at due
  .cases due
  rename_i hl
  refine kL g ⟨ml,by rw[Kr]; show S.ds.length+1<=24; omega,mn,?_,mN,?_⟩
  .rw[KN]; exact rV dn hn
  .intro z hz
   rw[KN] at hz
   rcases Kz.mp hz with hz | hz
   .exact dN z hz
   .rw[Km.mp hz]; exact ok.1
 | link y m b mo =>
  rw[aO] at due
  split at due
  .cases due
  split at due
  .cases due
  rename_i hn
  split at due
  .cases due
  rename_i hl
  refine kL g ⟨ml,by rw[Kr]; show S.ds.length+1<=24; omega,mn,?_,mN,?_⟩
  .rw[KN]; exact rV dn hn
  .intro z hz
   rw[KN] at hz
   rcases Kz.mp hz with hz | hz
   .exact dN z hz
   .rw[Km.mp hz]; exact ok.1
 | top m wd=>exact kL g ⟨by unfold fV; rw[Kj]; exact ml,dl,by rw[fA]; exact mn,dn,by rw[fA]; exact mN,dN⟩
 | sT m=>exact kL g ⟨by unfold fV; rw[Kj]; exact ml,dl,by rw[fA]; exact mn,dn,by rw[fA]; exact mN,dN⟩
 | sM m=>exact kL g ⟨KP (Ll _ _) ml,dl,rT mn,dn,fun y hy=>mN y (pE y hy),dN⟩
 | sD y=>exact kL g ⟨ml,KP (Ll _ _) dl,mn,rT dn,mN,fun z hz=>dN z (pE z hz)⟩
 | back =>
  show Gd (match S.ks.getLast? with | some k=>⟨k.1,k.2,S.ks.dropLast⟩ | none=>S)
  rcases Mh S.ks with hk | ⟨ks,k,hk⟩
  .rw[hk]; exact g
  .have hk:S.ks=ks++[k]:=by rw[hk,Mi]
   rw[show S.ks.getLast?=some k from by rw[hk]; simp,show S.ks.dropLast=ks from by rw[hk]; simp]
   refine⟨gk k (by rw[hk]; simp),fun k' hk'=>gk k' (by rw[hk]; simp[hk']),fun z=>?_,fun k' hk'=>?_⟩
   .have z:ks=[]:=z
    have:=gb.2 k (by rw[hk,z]; rfl)
    rw[this]
    exact⟨rfl,rfl⟩
   .refine gb.2 k' ?_
    have hk':ks[0]?=some k':=hk'
    cases ks with
    | nil=>cases hk'
    | cons a b=>rw[hk]; exact hk'
theorem zN {S:N3}{d:dC}(g:Gd S) (ok:OL d):Gd (cO S d):=by
 unfold cO
 split
 .rename_i e; exact FJ g ok e
 .exact g
theorem EW {S:N3}{d:dC}:(cO S d).ks.length<=S.ks.length+1:=by
 unfold cO
 split
 .cases d with
  | back =>
   show (match S.ks.getLast? with | some k=>(⟨k.1,k.2,S.ks.dropLast⟩:N3) | none=>S).ks.length<=_
   split
   .show S.ks.dropLast.length<=_; rw[List.length_dropLast]; omega
   .omega
  | _=>show (S.ks++[(S.ms,S.ds)]).length<=_; rw[Kr]; exact Kn _
 .omega
theorem uU {α:Type}{f:α->Str}: ∀ {l:List α}{j:Nat}{y:Str},(l.map f).Nodup->(l.map f)[j]?=some y->l.take j++l.drop (j+1)=l.filter fun x=>decide (f x≠y)
 | [],j,y,_,h=>by cases h
 | x::l,0,y,nd,h=>by
  have e:f x=y:=KJ h
  have nx:f x∉l.map f:=(Lq.mp nd).1
  show l=_
  rw[L5,Kk (by simp[e])]
  symm
  rw[List.filter_eq_self]
  intro z hz
  refine KI fun q=>nx ?_
  rw[e,<-q]
  exact Lx.mpr ⟨z,hz,rfl⟩
 | x::l,j+1,y,nd,h=>by
  have nx:f x∉l.map f:=(Lq.mp nd).1
  have h':(l.map f)[j]?=some y:=h
  have ne:f x≠y:=fun q=>nx (q▸Kp h')
  show x::(l.take j++l.drop (j+1))=_
  rw[uU (Lq.mp nd).2 h',L5,Ko (KI ne)]
theorem x4: ∀ {l:List Mem}{j:Nat}{m:Str}{o:Option Int},(l.map (·.1)).Nodup->(l.map (·.1))[j]?=some m->l.take j++[(m,o)]++l.drop (j+1)=fV l m o
 | [],j,m,o,_,h=>by cases h
 | x::l,0,m,o,nd,h=>by
  have e:x.1=m:=KJ h
  have nx:x.1∉l.map (·.1):=(Lq.mp nd).1
  show (m,o)::l=(if x.1=m then (m,o) else x)::l.map _
  rw[Ko e]
  congr 1
  symm
  have q:l.map (fun x=>if x.1=m then (m,o) else x)=l.map fun x=>x:=MN fun z hz=>Kk fun q=>nx (by rw[e,<-q]; exact Lx.mpr ⟨z,hz,rfl⟩)
  rw[q,List.map_id']
 | x::l,j+1,m,o,nd,h=>by
  have nx:x.1∉l.map (·.1):=(Lq.mp nd).1
  have h':(l.map (·.1))[j]?=some m:=h
  have ne:x.1≠m:=fun q=>nx (q▸Kp h')
  show x::(l.take j++[(m,o)]++l.drop (j+1))=(if x.1=m then (m,o) else x)::fV l m o
  rw[Kk ne,x4 (Lq.mp nd).2 h']
theorem tF: ∀ {l:List Mem}{j:Nat}{m:Str}{o:Option Int},l[j]?=some (m,o)->(∀i,i < j->(l.map (·.1))[i]?≠some m)->bQ l m=o
 | [],j,m,o,h,_=>by cases h
 | x::l,0,m,o,h,_=>by
  have e:x=(m,o):=KJ h
  unfold bQ
  rw[e,LP (by simp)]
 | x::l,j+1,m,o,h,hf=>by
  have ne:x.1≠m:=fun q=>hf 0 (NN _) (by show some x.1=some m; rw[q])
  have:=tF (l:=l) (j:=j) h fun i hi=>hf (i+1) (by omega)
  unfold bQ at this ⊢
  rw[Lu (by simpa using ne)]
  exact this
theorem uo {l:List Mem}{m:Str}(h:m∉l.map (·.1)):bQ l m=none:=by
 unfold bQ
 rw[MQ.mpr fun x hx=>by
  simp only[beq_iff_eq]
  exact fun q=>h (Lx.mpr ⟨x,hx,q⟩)]
section
variable {X:Cx}{pos:Pos}
inductive Gk (i j k:Nat) (D:Ends) (σ:St) (vs:List V) (H1:Hp):Prop | mk (v w u:_) (e0:vs=[v,w,u]) (q:D.nx (((σ.set k (some u)).set j (some w)).set i (some v)) H1)
def Iv (i j k:Nat) (ta:TA):TS:=fun D σ H=>ta σ H fun vs H1=>Gk i j k D σ vs H1
theorem FN {i j k:Nat}{x y z:Str}{a b c:Expr}{ta:TA}{px py pz pt:Pos}{kt k2 pt2}(hc:X.calm=true) (hN:X.N.Nodup) (hi:X.N[i]?=some x) (hj:X.N[j]?=some y) (hk:X.N[k]?=some z)
  (hx:X.env.scope.names.lookup x=some .local) (hy:X.env.scope.names.lookup y=some .local) (hz:X.env.scope.names.lookup z=some .local) (ha:PA X [a,b,c] ta)
  (hw:swappedStores [.Tuple [.Name x px,.Name y py,.Name z pz] kt pt] (.Tuple [a,b,c] k2 pt2) X.env=pure (some [x,y,z]))
  (hs:swapsWithSole [.Tuple [.Name x px,.Name y py,.Name z pz] kt pt] (.Tuple [a,b,c] k2 pt2) pos.line X.env=pure false:=by rfl) :
  PS X (.Assign [.Tuple [.Name x px,.Name y py,.Name z pz] kt pt] (.Tuple [a,b,c] k2 pt2) pos) (Iv i j k ta):=by
 intro NV s σ H D I h
 rw[exec_Assign_arm]
 refine Kt (L4 ?_)
 rw[hs]
 refine Kt (K1 ?_)
 rw[Kk (by decide)]
 refine Kt (Tuple_ (N0 (ha _ NV s σ H _ I h) fun us s1 ⟨vs,H1,I1,r1,q1⟩=>?_))
 obtain⟨v,w,u,e1,q1⟩:=q1
 subst e1
 obtain⟨u1,u2,u3,rfl,rv,rw',ru⟩: ∃u1 u2 u3,us=[u1,u2,u3]/\RelV v u1/\RelV w u2/\RelV u u3:=by
  cases r1 with
  | cons p q =>
   cases q with
   | cons p' q' =>
    cases q' with
    | cons p'' q'' =>
     cases q''
     exact⟨_,_,_,rfl,p,p',p''⟩
 refine MV ?_ (by show 3<=sizeLine; decide)
 have I2:Inv X NV σ H1 { s1 with heap:=s1.heap.push { cls:= .type "tuple",data:= .seq [u1,u2,u3].toArray } }:=I1.kept (t':=s1.toks) fun b o e=>Kq _ e
 rw[hw]
 refine Kt (K1 ?_)
 show wpAny (model X.prog X.w) X.A (do rule "assign.swapped-stores"; let items <-unpackItems (.ref s1.heap.objs.size) 3 none; assignInOrder [fun v=>bindName X.env z v,fun v=>bindName X.env y v,fun v=>bindName X.env x v] items.reverse; pure Flow.next) _ _ _
 refine Kt (wpAny_rule (Kt (unpackItems_tuple (items:= #[u1,u2,u3]) (I.ok.hd hc) (IsTup.new s1.heap _) fun h' hx'=>?_)))
 have I3:=I2.kept (h':=h') (t':=s1.toks) fun b o e=>hx' b o (K3 (KA e)) e
 show wpAny _ _ (assignInOrder [fun v=>bindName X.env z v,fun v=>bindName X.env y v,fun v=>bindName X.env x v] [u3,u2,u1] >>= fun _=>pure Flow.next) _ _ _
 refine Kt (Mb (MT (ju I3 hN hk (.inl hz) ru (fun s2 I4=>?_) (.inr hz))))
 refine Mb (MT (ju I4 hN hj (.inl hy) rw' (fun s3 I5=>?_) (.inr hy)))
 refine Mb (MT (ju I5 hN hi (.inl hx) rv (fun s4 I6=>assignInOrder_nil (K1 ?_)) (.inr hx)))
 exact⟨_,H1,I6,q1⟩
end
theorem uk {X:Cx}:N7 X (binaryOp .FloorDiv) (rI (fun _ j=>0 < j/\j < 18446744073709551616) fun i j=> .int (i / j)):=Pg fun i j _ _ _ _ _ hc q=>by
 have h1:(0:Int) < j:=hc.1
 have h2:j < 18446744073709551616:=hc.2
 refine floordiv_int (by omega) (by rw[Nw i (by omega)]; exact q) (.inl (PyProof.noPylong_of_log2 ?_))
 have:j.natAbs.log2 < 64:=(Nat.log2_lt (by omega)).mpr (by omega)
 omega
inductive C2 (xs:List V) (H:Hp) (Q:VK):Prop | mk (a kvs:_) (e0:xs=[.ref a]) (e1:H a=some (.dK kvs)) (q: ∀p,H p=none->Q (.ref p) (upd H p (.dK kvs)))
def Fq:List V->Hp->VK->Prop:=fun xs H Q=>C2 xs H Q
theorem xF {X:Cx}:de X (.type "dict") Fq:=by
 intro NV s σ H xs us Q I r h
 obtain⟨a,kvs,rfl,ha,q⟩:=h
 obtain⟨u,rfl,ru⟩:=vals1 r
 cases ru
 exact Dc I (.inl ha) fun p s' np I'=>⟨.ref p,_,I',rfl,q p np⟩
theorem wg {kvs:Oi}{k k':Key}:aV (gv kvs k) k'=if k'=k then none else aV kvs k':=by
 induction kvs with
 | nil=>split <;> rfl
 | cons p r ih =>
  by_cases e:p.1=k
  .rw[B7 e,ih]
   split
   .rfl
   .rename_i n; rw[cT (fun z=>n (z.symm.trans e))]
  .rw[CG e]
   by_cases e2:p.1=k'
   .rw[dj e2,dj e2,Kk (fun z=>e (e2.trans z))]
   .rw[cT e2,cT e2,ih]
theorem we {ms:List Mem}{m m':Str}{o:Option Int}(h:m∈ms.map (·.1)):bQ (fV ms m o) m'=if m'=m then o else bQ ms m':=by
 induction ms with
 | nil=>cases h
 | cons x r ih =>
  have ex:fV (x::r) m o=(if x.1=m then (m,o) else x)::fV r m o:=rfl
  rw[ex]
  unfold bQ at ih ⊢
  by_cases e:x.1=m
  .rw[Ko e]
   by_cases e2:m'=m
   .rw[Ko e2,LP (by simp[e2])]
   .rw[Kk e2,Lu (by simpa using fun z=>e2 z.symm),Lu (by simpa [e] using fun z=>e2 z.symm)]
    by_cases hr:m∈r.map (·.1)
    .have:=ih hr
     rw[Kk e2] at this
     exact this
    .have es:fV r m o=r:=by
      unfold fV
      have q:r.map (fun x=>if x.1=m then (m,o) else x)=r.map fun x=>x:=MN fun z hz=>Kk fun q=>hr (by rw[<-q]; exact Lx.mpr ⟨z,hz,rfl⟩)
      rw[q,List.map_id']
     rw[es]
  .rw[Kk e]
   have hr:m∈r.map (·.1):=(Ks.mp h).resolve_left fun z=>e z.symm
   by_cases e3:x.1=m'
   .rw[LP (by simpa using e3),LP (by simpa using e3),Kk fun z=>e (e3.trans z)]
   .rw[Lu (by simpa using e3),Lu (by simpa using e3)]
    exact ih hr
theorem wx {ms:List Mem}{m m':Str}:bQ (ms.filter fun x=>decide (x.1≠m)) m'=if m'=m then none else bQ ms m':=by
 induction ms with
 | nil=>show none=if m'=m then none else none; split <;> rfl
 | cons x r ih =>
  rw[L5]
  by_cases e:x.1=m
  .rw[Kk (by simp[e]),ih]
   split
   .rfl
   .rename_i n
    unfold bQ
    rw[Lu (by simpa [e] using fun z=>n z.symm)]
  .rw[Ko (KI e)]
   unfold bQ at ih ⊢
   by_cases e3:x.1=m'
   .rw[LP (by simpa using e3),LP (by simpa using e3),Kk fun z=>e (e3.trans z)]
   .rw[Lu (by simpa using e3),Lu (by simpa using e3)]
    exact ih
theorem CA {ms:List Mem}{y m':Str}(h:y∉ms.map (·.1)):bQ (ms++[(y,none)]) m'=bQ ms m':=by
 unfold bQ
 rw[List.find?_append]
 cases e:ms.find? (fun x=>x.1 == m') with
 | some x=>rfl
 | none =>
  by_cases c:y=m'
  .simp[c]
  .simp[c]
def mC (xs:List Addr) (H:Hp) (v:V) (d:N9):Prop:= ∃t,v= .ref t/\t∉xs/\H t=some (.tup (j7 d))
structure Qa (xs:List Addr) (n:Nat) (H:Hp) (ts ln la dd:Addr) (vs:List V) (kvs:Oi) (ms:List Mem) (ds:List N9):Prop where
 t0:ts∉xs
 ht:H ts=some (.tup [.ref ln,.ref la,.ref dd])
 n0:ln∉xs
 hn:H ln=some (.lst ((ms.map (·.1)).map V.str))
 a0:la∉xs
 ha:H la=some (.lst vs)
 ar:F2 (mC xs H) vs ds
 d0:dd∉xs
 hd:H dd=some (.dK kvs)
 cp: ∀m,aV kvs (Sum.inr m)=(bQ ms m).map V.int
 kl:kvs.length<=n
def LS (xs:List Addr) (n:Nat) (H:Hp) (ts:Addr) (ms:List Mem) (ds:List N9):Prop:= ∃ln la dd vs kvs,Qa xs n H ts ln la dd vs kvs ms ds
section
variable {xs xs':List Addr}{n n':Nat}{H H':Hp}{ts:Addr}{ms:List Mem}{ds:List N9}
theorem LS.mono (l:LS xs n H ts ms ds) (h: ∀b o,b∉xs->H b=some o->H' b=some o/\b∉xs') (hn:n<=n'):LS xs' n' H' ts ms ds:=by
 obtain⟨ln,la,dd,vs,kvs,l⟩:=l
 exact⟨ln,la,dd,vs,kvs,(h _ _ l.t0 l.ht).2,(h _ _ l.t0 l.ht).1,(h _ _ l.n0 l.hn).2,(h _ _ l.n0 l.hn).1,(h _ _ l.a0 l.ha).2,(h _ _ l.a0 l.ha).1,l.ar.imp fun v d ⟨t,e,a,b⟩=>⟨t,e,(h _ _ a b).2,(h _ _ a b).1⟩,(h _ _ l.d0 l.hd).2,(h _ _ l.d0 l.hd).1,l.cp,KP l.kl hn⟩
theorem LS.same (l:LS xs n H ts ms ds) (s:ai H H'):LS xs n H' ts ms ds:=l.mono (fun b o nb e=>⟨s b o e,nb⟩) (Kn _)
end
theorem fJ {K:NY}{J:It}{nm:Str}{fr:List Nat}{σ:St}{H:Hp}{Q:VK}{vs:List V}{ds:List N9}{xs:List Addr}{i:Int}(f:N9->V) (hf: ∀d,Ob (j7 d) i=some (f d)) (hJ:JL J H vs) (ar:F2 (mC xs H) vs ds) (hl:ds.length<=100) (q: ∀p,H p=none->Q (.ref p) (upd H p (.lst (ds.map f)))) :
  mO J (aY 0) gN (OX (A0 K) (vB 0) (tC (.int i))) [nm] fr σ H Q:=by
 have vl:=ar.length
 refine b8 (xs:=vs) (fun i ys H'=>H'=H/\ys=(ds.take i).map f) (fun i ys H' _ h=>by rw[h.1]; exact hJ) ⟨rfl,rfl⟩ (Lp (show vs.length<=1000 by omega) (by decide)) (fun i ys H' h=>by rw[h.2,Kj,K4]; exact LD _ _) ?_ ?_
 .rintro j ys H2 x hi ⟨rfl,rfl⟩
  obtain⟨m,hm,t,rfl,_,ht⟩:=ar.get hi
  dsimp only[aY,gN]
  refine aZ ⟨_,rfl,t,_,_,_,rfl,rfl,N1.of ht,hf m,rfl,?_⟩
  rw[La,hm,KN]
  rfl
 .rintro ys H2 p2 ⟨rfl,rfl⟩ np
  rw[vl,K5]
  exact q p2 np
structure Wd (C:Addr) (n:Nat) (H:Hp) (h:Addr) (os:List Addr) (pl ts:Addr) (S:N3):Prop where
 it:HI C H h os S
 po:pl∉os
 pv: ∃pv,H pl=some (.lst pv)/\F2 (fun v k=> ∃t,v=V.ref t/\LS (pl::os) n H t k.1 k.2) pv S.ks
 ls:LS (pl::os) n H ts S.ms S.ds
 gd:Gd S
def OU (pl:Addr) (os os':List Addr) (H H':Hp):Prop:=(∀b o,b∉pl::os->H b=some o->H' b=some o)/\(∀b∈os',b∈os\/H b=none)/\ ∃o,H' pl=some o
theorem OU.trans {pl:Addr}{os os1 os2:List Addr}{H H1 H2:Hp}(a:OU pl os os1 H H1) (b:OU pl os1 os2 H1 H2):OU pl os os2 H H2:=by
 refine⟨fun c o hc e=>b.1 c o (fun z=>?_) (a.1 c o hc e),fun c hc=>?_,b.2.2⟩
 .rcases Ks.mp z with z | z
  .exact hc (by rw[z]; simp)
  .rcases a.2.1 c z with z | z
   .exact hc (by simp[z])
   .rw[z] at e; cases e
 .rcases b.2.1 c hc with z | z
  .exact a.2.1 c z
  .by_cases hc':c∈os
   .exact .inl hc'
   .refine .inr ?_
    cases e:H c with
    | none=>rfl
    | some o =>
     by_cases cp:c=pl
     .obtain⟨o',e'⟩:=a.2.2
      rw[cp,e'] at z; cases z
     .rw[a.1 c o (by simp[cp,hc']) e] at z; cases z
section
variable {C h pl ts:Addr}{n:Nat}{H H':Hp}{os:List Addr}{S:N3}
theorem Wd.same (w:Wd C n H h os pl ts S) (s:ai H H'):Wd C n H' h os pl ts S:=by
 obtain⟨it,po,⟨pv,hp,hF⟩,ls,gd⟩:=w
 exact⟨it.grow fun b o _ e=>s b o e,po,⟨pv,s _ _ hp,hF.imp fun v k ⟨t,e,l⟩=>⟨t,e,l.same s⟩⟩,ls.same s,gd⟩
theorem Wd.PJ (w:Wd C n H h os pl ts S) (s:ai H H'):OU pl os os H H':=⟨fun b o _ e=>s b o e,fun b hb=> .inl hb,by obtain⟨pv,hp,_⟩:=w.pv; exact⟨_,s _ _ hp⟩⟩
theorem Wd.E3 {os':List Addr}(w:Wd C n H h os pl ts S) (so:A6 os H H') (nw: ∀b∈os',b∈os\/H b=none):pl∉os'/\(∀b o,b∉pl::os->H b=some o->H' b=some o/\b∉pl::os')/\ ∃pv,H' pl=some (.lst pv)/\H pl=some (.lst pv):=by
 obtain⟨pv,hp,hF⟩:=w.pv
 refine⟨fun z=>?_,fun b o nb e=>?_,pv,so _ _ w.po hp,hp⟩
 .rcases nw _ z with z | z
  .exact w.po z
  .rw[hp] at z; cases z
 .simp only[Ks,not_or] at nb ⊢
  refine⟨so b o nb.2 e,nb.1,fun z=>?_⟩
  rcases nw _ z with z | z
  .exact nb.2 z
  .rw[e] at z; cases z
end
theorem x8 {H:Hp}{l1 l2 d ts:Addr}{us:List Str}(n1:H l1=none) (n2:(upd H l1 (.lst (us.map V.str))) l2=none) (n3:(upd (upd H l1 (.lst (us.map V.str))) l2 (.lst [])) d=none) (n4:(upd (upd (upd H l1 (.lst (us.map V.str))) l2 (.lst [])) d (.dK [])) ts=none) :
  ai H (upd (upd (upd (upd H l1 (.lst (us.map V.str))) l2 (.lst [])) d (.dK [])) ts (.tup [.ref l1,.ref l2,.ref d]))/\ ∀(xs:List Addr) (ms:List Mem),(∀b∈xs,∃o,H b=some o)->ms.map (·.1)=us->(∀m,bQ ms m=none)->LS xs 0 (upd (upd (upd (upd H l1 (.lst (us.map V.str))) l2 (.lst [])) d (.dK [])) ts (.tup [.ref l1,.ref l2,.ref d])) ts ms []:=by
 have s1:=ai.upd (o:= .lst (us.map V.str)) n1
 have s2:=ai.upd (o:= .lst []) n2
 have s3:=ai.upd (o:= .dK []) n3
 have s4:=ai.upd (o:= .tup [.ref l1,.ref l2,.ref d]) n4
 refine⟨((s1.trans s2).trans s3).trans s4,fun xs ms hx e hc=>?_⟩
 have fr: ∀ {b:Addr},H b=none->b∉xs:=fun {b} e z=>by obtain⟨o,e'⟩:=hx b z; rw[e] at e'; cases e'
 refine⟨l1,l2,d,[],[],fr (((s1.trans s2).trans s3).free n4),ag,fr n1,?_,fr (s1.free n2),((s3.trans s4) _ _ ag),.nil,fr ((s1.trans s2).free n3),s4 _ _ ag,fun m=>?_,Kn _⟩
 .rw[e]; exact ((s2.trans s3).trans s4) _ _ ag
 .rw[hc m]; rfl
theorem DT {pl:Addr}{os os':List Addr}{H H':Hp}{o0:HO}(po:pl∉os) (hp:H pl=some o0) (so:A6 os H H') (nw: ∀b∈os',b∈os\/H b=none):pl∉os'/\(∀b o,b∉pl::os->H b=some o->H' b=some o/\b∉pl::os')/\H' pl=some o0:=by
 refine⟨fun z=>?_,fun b o nb e=>?_,so _ _ po hp⟩
 .rcases nw _ z with z | z
  .exact po z
  .rw[hp] at z; cases z
 .simp only[Ks,not_or] at nb ⊢
  refine⟨so b o nb.2 e,nb.1,fun z=>?_⟩
  rcases nw _ z with z | z
  .exact nb.2 z
  .rw[e] at z; cases z
structure Wx (C:Addr) (n:Nat) (H:Hp) (h:Addr) (os:List Addr) (pl ts:Addr) (S:N3) (X:List Addr):Prop where
 it:HI C H h os S
 po:pl∉os
 xo: ∀b∈X,b∉pl::os/\ ∃o,H b=some o
 pv: ∃pv,H pl=some (.lst pv)/\F2 (fun v k=> ∃t,v=V.ref t/\LS (pl::(os++X)) n H t k.1 k.2) pv S.ks
 ls:LS (pl::(os++X)) n H ts S.ms S.ds
 gd:Gd S
section
variable {C h pl ts:Addr}{n n':Nat}{H H':Hp}{os X:List Addr}{S:N3}
end
structure Qk (C:Addr) (n:Nat) (H:Hp) (h:Addr) (os:List Addr) (pl ts:Addr) (S:N3) (h':Addr) (os':List Addr) (pl' ts':Addr) (S':N3) (sl:Addr):Prop where
 a:Wx C n H h os pl ts S (pl'::(os'++[sl]))
 b:Wx C n H h' os' pl' ts' S' (pl::(os++[sl]))
 ka:S.ks.length<=n
 kb:S'.ks.length<=n
section
variable {C h pl ts h' pl' ts' sl:Addr}{n n':Nat}{H H':Hp}{os os':List Addr}{S S':N3}
end
def bare (ys:List Str):List Mem:=ys.map fun y=>(y,none)
def ic (c:Nat):Bool:=decide (97<=c) && decide (c<=122)
def cW (cs:List Nat):Bool:=decide (1<=(cs.length:Int)) && decide ((cs.length:Int)<=8) && cs.all ic
theorem Nm.good {y:Str}(h:Nm y):cW y.cps.toList=true:=by
 obtain⟨h1,h2,h3⟩:=h
 unfold cW
 rw[Lc,Lc]
 refine⟨⟨KI (by omega),KI (by omega)⟩,LB.mpr fun c hc=>?_⟩
 have:=h3 c hc
 unfold small at this
 unfold ic
 rw[Lc]
 exact⟨KI this.1,KI this.2⟩
theorem Nm.of {y:Str}(h:cW y.cps.toList=true):Nm y:=by
 unfold cW at h
 rw[Lc,Lc] at h
 obtain⟨⟨h1,h2⟩,h3⟩:=h
 have h1:=KQ h1
 have h2:=KQ h2
 refine⟨by omega,by omega,fun c hc=>?_⟩
 have:=LB.mp h3 c hc
 unfold ic at this
 rw[Lc] at this
 exact⟨KQ this.1,KQ this.2⟩
inductive IX
 | ok | unknown | inUse | badName | badNumber | tooMuch | full | nothing
deriving DecidableEq
instance (p e o:Int):Decidable (Oj p e o):=by unfold Oj; infer_instance
def dh (S:N3):dC->IX
 | .member y=>if y∈aI S then .inUse else if cW y.cps.toList=false then .badName else if 12<=S.ms.length\/150<=S.ks.length then .full else .ok
 | .plain y m p e o=>if m∉aI S then .unknown else if y∈bg S then .inUse else if cW y.cps.toList=false then .badName else if ¬Oj p e o then .badNumber else if 99999 < eI p e o then .tooMuch else if 24<=S.ds.length\/150<=S.ks.length then .full else .ok
 | .link y m b mo=>if m∉aI S\/b∉aI S then .unknown else if y∈bg S then .inUse else if cW y.cps.toList=false then .badName else if ¬(0<=mo/\mo<=99) then .badNumber else if 24<=S.ds.length\/150<=S.ks.length then .full else .ok
 | .top m wd=>if m∉aI S then .unknown else if bQ S.ms m≠none then .inUse else if ¬(0<=wd/\wd<=99999) then .badNumber else if 150<=S.ks.length then .full else .ok
 | .back=>if S.ks=[] then .nothing else .ok
 | .sM m=>if m∉aI S then .unknown else if rB m S.ds=true then .inUse else if 150<=S.ks.length then .full else .ok
 | .sD y=>if y∉bg S then .unknown else if 150<=S.ks.length then .full else .ok
 | .sT m=>if bQ S.ms m=none then .unknown else if 150<=S.ks.length then .full else .ok
def xm (S:N3) (d:dC):N3:=if dh S d= .ok then iB S d else S
theorem EV {ms:List Mem}{m:Str}(h:bQ ms m≠none):m∈ms.map (·.1):=LX fun z=>h (uo z)
theorem Fd {S:N3}{d:dC}(g:OP S.ms S.ds) (h:dh S d= .ok):aO S d= .ok/\OL d/\(S.ks.length < 150\/d= .back):=by
 cases d with
 | member y =>
  rw[dh] at h
  split at h; · cases h
  rename_i h1; split at h; · cases h
  rename_i h2; split at h; · cases h
  rename_i h3
  exact⟨by rw[aO,Kk h1,Kk (by omega)],Nm.of (by simpa using h2),.inl (by omega)⟩
 | plain y m p e o =>
  rw[dh] at h
  split at h; · cases h
  rename_i h1; split at h; · cases h
  rename_i h2; split at h; · cases h
  rename_i h3; split at h; · cases h
  rename_i h4; split at h; · cases h
  rename_i h5; split at h; · cases h
  rename_i h6
  exact⟨by rw[aO,Kk h1,Kk h2,Kk h5,Kk (by omega)],⟨Nm.of (by simpa using h3),g.mN m (Lb.mp h1),Lb.mp h4⟩,.inl (by omega)⟩
 | link y m b mo =>
  rw[dh] at h
  split at h; · cases h
  rename_i h1; split at h; · cases h
  rename_i h2; split at h; · cases h
  rename_i h3; split at h; · cases h
  rename_i h4; split at h; · cases h
  rename_i h6
  exact⟨by rw[aO,Kk h1,Kk h2,Kk (by omega)],⟨Nm.of (by simpa using h3),g.mN m (LX fun z=>h1 (.inl z)),g.mN b (LX fun z=>h1 (.inr z)),Lb.mp h4⟩,.inl (by omega)⟩
 | top m wd =>
  rw[dh] at h
  split at h; · cases h
  rename_i h1; split at h; · cases h
  rename_i h2; split at h; · cases h
  rename_i h3; split at h; · cases h
  rename_i h4
  exact⟨by rw[aO,Kk h1,Kk h2],⟨g.mN m (Lb.mp h1),Lb.mp h3⟩,.inl (by omega)⟩
 | back =>
  rw[dh] at h
  split at h; · cases h
  rename_i h1
  exact⟨by rw[aO,Kk h1],trivial,.inr rfl⟩
 | sM m =>
  rw[dh] at h
  split at h; · cases h
  rename_i h1; split at h; · cases h
  rename_i h2; split at h; · cases h
  rename_i h3
  exact⟨by rw[aO,Kk h1,Kk h2],g.mN m (Lb.mp h1),.inl (by omega)⟩
 | sD y =>
  rw[dh] at h
  split at h; · cases h
  rename_i h1; split at h; · cases h
  rename_i h3
  exact⟨by rw[aO,Kk h1],g.dN y (Lb.mp h1),.inl (by omega)⟩
 | sT m =>
  rw[dh] at h
  split at h; · cases h
  rename_i h1; split at h; · cases h
  rename_i h3
  exact⟨by rw[aO,Kk h1],g.mN m (EV h1),.inl (by omega)⟩
section
variable {X:Cx}
end
section
variable {X:Cx}
end
section
variable {X:Cx}
def Js (K:NY) (x:V) (H:Hp) (T:String) (b:Bool):Prop:=Pp K x H T b\/(x= .non/\(T= "int" \/ T= "list" \/ T= "tuple" \/ T= "str")/\b=false)
theorem Cw:de X (.builtin "isinstance") (fun xs H Q=> ∃x T b,xs=[x,.ty T]/\Js X.K x H T b/\Q (.bl b) H):=by
 intro NV s σ H xs us Q I r h
 obtain⟨x,T,b,rfl,hi,q⟩:=h
 rcases hi with hi | ⟨rfl,hT,rfl⟩
 .exact eD NV s σ H _ us Q I r ⟨x,T,b,rfl,hi,q⟩
 .obtain⟨u,u2,rfl,ru,ru2⟩:=vals2 r
  cases ru2
  cases ru
  have fin: ∀tk,EP X NV σ Q (.bool false) { s with toks:=tk }:=fun tk=>⟨.bl false,H,I.tok tk,rfl,q⟩
  rcases hT with rfl | rfl | rfl | rfl
  .exact IsiPair.NoneType_int (fin _)
  .exact IsiPair.NoneType_list (fin _)
  .exact IsiPair.NoneType_tuple (fin _)
  .exact IsiPair.NoneType_str (fin _)
end
end L2
namespace L2
open PySem PySem.Spec PyProof.Rows
open Builtin Builtin.Str
inductive JN (x:V) (vs:List V) (H:Hp) (Q:VK):Prop | mk (z y:Str) (e0:x= .str z) (e1:vs=[.str y]) (e2:(y.length == 0)=false) (e3:z.length<=1000) (q: ∀p,H p=none->Q (.ref p) (upd H p (.lst ((Txt.split z y).map V.str))))
inductive JQ (x:V) (vs:List V) (H:Hp) (Q:VK):Prop | mk (z:Str) (e0:x= .str z) (e1:vs=[]) (q:Q (.bl (Txt.isupper z)) H)
end L2
namespace L2
open PySem PySem.Spec PyProof.Rows
section
open MA (N5 bA dM)
theorem jw {α:Type} [BEq α] [LawfulBEq α]: ∀ {ys:List α}{j:Nat}{y:α},ys[j]?=some y->(∀m,m < j->ys[m]?≠some y)->ys.idxOf y=j
 | [],_,_,h,_=>by cases h
 | z::ys,0,y,h,_=>by
  cases h
  rw[List.idxOf_cons]
  simp
 | z::ys,j+1,y,h,hm=>by
  have h0:z≠y:=fun e=>hm 0 (NN _) (by rw[e]; rfl)
  rw[List.idxOf_cons,show (z == y)=false from by simpa using h0,cond_false,jw (j:=j) h fun m hmj=>hm (m+1) (by omega)]
def fD (ns:List Str) (d:N9):MA.av:=(((ns.idxOf d.2.1:Nat):Int),match d.2.2.1 with | none=> -1 | some b=>((ns.idxOf b:Nat):Int),d.2.2.2)
def bB (ms:List Mem) (ds:List N9):List MA.av:=ds.map (fD (ms.map (·.1)))
def O1 (ms:List Mem) (ds:List N9):Prop:= ∀d∈ds,d.2.1∈ms.map (·.1)/\(∀b,d.2.2.1=some b->b∈ms.map (·.1))/\0<=d.2.2.2/\d.2.2.2<=99999
def qq (ms:List Mem):Prop:= ∀m∈ms,∀c,m.2=some c->0<=c/\c<=99999
structure GB (S:N3):Prop where
 now:O1 S.ms S.ds
 cap:qq S.ms
 ks: ∀k∈S.ks,O1 k.1 k.2/\qq k.1
theorem xW:GB ⟨[],[],[]⟩:=⟨fun d hd=>(by cases hd),fun m hm=>(by cases hm),fun k hk=>(by cases hk)⟩
theorem E1 {p e o:Int}(h:Oj p e o):0<=eI p e o:=by
 unfold Oj at h
 unfold eI
 have:0<=p*e:=Int.mul_nonneg h.1 (by omega)
 exact NR (by omega) (by omega)
theorem kf {S:N3}(g:GB S){ms:List Mem}{ds:List N9}(n:O1 ms ds) (c:qq ms):GB ⟨ms,ds,S.ks++[(S.ms,S.ds)]⟩:=⟨n,c,fun k hk=>by
 rcases Kz.mp hk with hk | hk
 .exact g.ks k hk
 .rw[Km.mp hk]; exact⟨g.now,g.cap⟩⟩
theorem zS {ms:List Mem}{m:Str}{o:Option Int}(h:qq ms) (ho: ∀c,o=some c->0<=c/\c<=99999):qq (fV ms m o):=fun x hx c e=>by
 unfold fV at hx
 obtain⟨y,hy,rfl⟩:=Lx.mp hx
 split at e
 .exact ho c e
 .exact h y hy c e
theorem Fb {S:N3}{d:dC}(g:GB S) (due:dh S d= .ok):GB (iB S d):=by
 obtain⟨gn,gc,gk⟩:=id g
 cases d with
 | member y =>
  refine kf g (fun d hd=>?_) (fun x hx c e=>?_)
  .obtain⟨h1,h2,h3⟩:=gn d hd
   rw[KN]
   exact⟨Kz.mpr (.inl h1),fun b hb=>Kz.mpr (.inl (h2 b hb)),h3⟩
  .rcases Kz.mp hx with hx | hx
   .exact gc x hx c e
   .rw[Km.mp hx] at e; cases e
 | plain y m p e o =>
  rw[dh] at due
  split at due; · cases due
  rename_i h1; split at due; · cases due
  split at due; · cases due
  split at due; · cases due
  rename_i h4; split at due; · cases due
  rename_i h5
  refine kf g (fun d hd=>?_) gc
  rcases Kz.mp hd with hd | hd
  .exact gn d hd
  .rw[Km.mp hd]
   exact⟨Lb.mp h1,fun b hb=>(by cases hb),E1 (Lb.mp h4),by show eI p e o<=99999; omega⟩
 | link y m b mo =>
  rw[dh] at due
  split at due; · cases due
  rename_i h1; split at due; · cases due
  split at due; · cases due
  split at due; · cases due
  rename_i h4
  refine kf g (fun d hd=>?_) gc
  rcases Kz.mp hd with hd | hd
  .exact gn d hd
  .rw[Km.mp hd]
   have h4:=Lb.mp h4
   exact⟨LX fun z=>h1 (.inl z),fun b' hb=>(by cases hb; exact LX fun z=>h1 (.inr z)),h4.1,by show mo<=99999; omega⟩
 | top m wd =>
  rw[dh] at due
  split at due; · cases due
  split at due; · cases due
  split at due; · cases due
  rename_i h3
  refine kf g (fun d hd=>?_) (zS gc fun c e=>by cases e; exact Lb.mp h3)
  rw[fA]
  exact gn d hd
 | sT m =>
  refine kf g (fun d hd=>?_) (zS gc fun c e=>by cases e)
  rw[fA]
  exact gn d hd
 | sM m =>
  rw[dh] at due
  split at due; · cases due
  split at due; · cases due
  rename_i h2
  refine kf g (fun d hd=>?_) (fun x hx c e=>gc x (Li.mp hx).1 c e)
  obtain⟨k1,k2,k3⟩:=gn d hd
  have nb:d.2.1≠m/\d.2.2.1≠some m:=by
   have h2:rB m S.ds=false:=by simpa using h2
   unfold rB at h2
   have:=NC.mp h2 d hd
   simp only[Bool.or_eq_true,decide_eq_true_eq,not_or] at this
   exact this
  have keep: ∀y:Str,y∈S.ms.map (·.1)->y≠m->y∈(S.ms.filter fun x=>decide (x.1≠m)).map (·.1):=fun y hy ne=>by
   obtain⟨x,hx,rfl⟩:=Lx.mp hy
   exact Lx.mpr ⟨x,Li.mpr ⟨hx,KI ne⟩,rfl⟩
  exact⟨keep _ k1 nb.1,fun b hb=>keep _ (k2 b hb) fun e=>nb.2 (by rw[hb,e]),k3⟩
 | sD y=>exact kf g (fun d hd=>gn d (Li.mp hd).1) gc
 | back =>
  show GB (match S.ks.getLast? with | some k=>⟨k.1,k.2,S.ks.dropLast⟩ | none=>S)
  rcases Mh S.ks with hk | ⟨ks,k,hk⟩
  .rw[hk]; exact g
  .have hk:S.ks=ks++[k]:=by rw[hk,Mi]
   rw[show S.ks.getLast?=some k from by rw[hk]; simp,show S.ks.dropLast=ks from by rw[hk]; simp]
   obtain⟨a1,a2⟩:=gk k (by rw[hk]; simp)
   exact⟨a1,a2,fun k' hk'=>gk k' (by rw[hk]; simp[hk'])⟩
theorem E2 {S:N3}{d:dC}(g:GB S):GB (xm S d):=by
 unfold xm
 split
 .rename_i e; exact Fb g e
 .exact g
theorem rG {ns:List Str}{y:Str}(h:y∈ns):ns.idxOf y < ns.length:=List.idxOf_lt_length_iff.mpr h
theorem ix {ms:List Mem}{ds:List N9}(h:O1 ms ds): ∀q∈bB ms ds,N5 ms.length q:=fun q hq=>by
 obtain⟨d,hd,rfl⟩:=Lx.mp hq
 obtain⟨h1,h2,h3,_⟩:=h d hd
 have a1:=rG h1
 rw[Kj] at a1
 refine⟨by show (0:Int)<=((_:Nat):Int); omega,by show ((_:Nat):Int) < _; omega,?_,?_,h3⟩
 .show -1<=(match d.2.2.1 with | none=>(-1:Int) | some b=>(((ms.map fun x:Mem=>x.1).idxOf b:Nat):Int))
  cases d.2.2.1 with
  | none=>exact K2 _
  | some b=>show (-1:Int)<=((_:Nat):Int); omega
 .show (match d.2.2.1 with | none=>(-1:Int) | some b=>(((ms.map fun x:Mem=>x.1).idxOf b:Nat):Int)) < _
  cases e:d.2.2.1 with
  | none=>show (-1:Int) < _; omega
  | some b =>
   have a2:=rG (h2 b e)
   rw[Kj] at a2
   show ((_:Nat):Int) < _
   omega
def IH (S:N3):List (Option Int):=S.ms.map (·.2)
def bX (S:N3):Option (List Int):=match bA S.ms.length (bB S.ms S.ds) with
 | none=>none
 | some L=>match dM L (IH S) with
  | none=>some L
  | some _=>none
theorem ze {n:Nat}{L:List Int}{cs:List (Option Int)}(hl:L.length=n) (h:dM L cs=none):MA.Within n L cs:=fun v c hv e=>by
 have:=MQ.mp h v (KU.mpr (by omega))
 rw[e] at this
 have this: ¬decide (c < MA.g L (v:Nat))=true:=this
 simp at this
 exact this
theorem E8 {L:List Int}{cs:List (Option Int)}{i:Nat}(h:dM L cs=some i):i < L.length:=KU.mp (List.mem_of_find?_eq_some h)
theorem Cz {n:Nat}{rs rs':List MA.av}{L:List Int}(k: ∀q∈rs,N5 n q) (h:bA n rs=some L) (s: ∀q∈rs',q∈rs): ∃L',bA n rs'=some L':=by
 obtain⟨_,l2,l3,_⟩:=MA.dz k h
 exact MA.sR (fun q hq=>k q (s q hq)) l3 fun q hq=>l2 q (s q hq)
theorem FQ {rs:List MA.av}{s k:Int}{ps:List Nat}(h:MA.Path rs s k ps): ∀i∈ps,i < rs.length:=by
 induction h with
 | nil=>intro i hi; cases hi
 | snoc hp hq e ih =>
  intro i hi
  rcases Kz.mp hi with hi | hi
  .exact ih i hi
  .rw[Km.mp hi]; exact (Kv.mp hq).1
def tK (rs:List MA.av) (way:List Nat):Prop:= ∃(i:Nat) (q:MA.av) (ps:List Nat),way=i::ps/\rs[i]?=some q/\q.2.1≠ -1/\0 < q.2.2/\MA.Path rs q.1 q.2.1 ps/\(q.1::MA.Oo rs ps).Nodup
theorem tK.lt {rs:List MA.av}{way:List Nat}(h:tK rs way): ∀i∈way,i < rs.length:=by
 obtain⟨i,q,ps,rfl,hi,_,_,hp,_⟩:=h
 intro j hj
 rcases Ks.mp hj with rfl | hj
 .exact (Kv.mp hi).1
 .exact FQ hp j hj
theorem tK.none {n:Nat}{rs:List MA.av}{way:List Nat}(k: ∀q∈rs,N5 n q) (h:tK rs way):bA n rs=none:=by
 obtain⟨i,q,ps,rfl,hi,hb,hm,hp,_⟩:=h
 cases e:bA n rs with
 | none=>rfl
 | some L =>
  exfalso
  obtain⟨_,l2,l3,_⟩:=MA.dz k e
  have hq:=Kp hi
  obtain⟨o1,o2,o3,o4,o5⟩:=k q hq
  have a1:=(MA.Path.le k l2 o1 hp).2
  have a2:=l2 q hq
  have a3:MA.ask (MA.g L) q=MA.g L q.2.1+q.2.2:=by
   unfold MA.ask
   simp[hb]
  omega
theorem CH {n:Nat}{rs:List MA.av}(k: ∀q∈rs,N5 n q) (h: ∀q∈rs,q.2.1≠ -1->0 < q.2.2-> ∃S:Int->Prop,S q.1/\ ¬S q.2.1/\ ∀r∈rs,0<=r.2.1->S r.2.1->S r.1): ∃L,bA n rs=some L:=by
 obtain⟨f,f0,f1⟩:=MA.yT k (MA.De k h)
 exact MA.sR k (fun i _ _=>f0 i) f1
theorem Eo {S:N3}(h:qq S.ms){v:Nat}{c:Int}(e:(S.ms.map fun m:Mem=>m.2).getD v none=some c):c<=99999:=by
 rw[Ku,KD] at e
 cases hm:S.ms[v]? with
 | none=>rw[hm] at e; cases e
 | some m =>
  rw[hm] at e
  exact (h m (Kp hm) c e).2
end
section
open MA (N5 bA dM)
def Qe (ns:List Str):List Mem:=ns.map fun y=>(y,none)
section
variable {ns cs:List Str}{w:Nat}{p:Int}{mo:Nat->Int}{k:Nat}
end
section
variable {S:N3}{y m b:Str}
theorem vP (h:Nm y): ¬cW y.cps.toList=false:=by rw[Nm.good h]; decide
theorem Ak (h1:y∉aI S) (h2:Nm y) (h3:S.ms.length < 12) (h4:S.ks.length < 150):dh S (.member y)= .ok:=by
 rw[dh,Kk h1,Kk (vP h2),Kk (by omega)]
theorem BL {p e o:Int}(h1:m∈aI S) (h2:y∉bg S) (h3:Nm y) (h4:Oj p e o) (h5:eI p e o<=99999) (h6:S.ds.length < 24) (h7:S.ks.length < 150):dh S (.plain y m p e o)= .ok:=by
 rw[dh,Kk (fun z=>z h1),Kk h2,Kk (vP h3),Kk (fun z=>z h4),Kk (by omega),Kk (by omega)]
theorem DG {mo:Int}(h1:m∈aI S) (h1':b∈aI S) (h2:y∉bg S) (h3:Nm y) (h4:0<=mo/\mo<=99) (h6:S.ds.length < 24) (h7:S.ks.length < 150):dh S (.link y m b mo)= .ok:=by
 rw[dh,Kk (fun z=>z.elim (fun z=>z h1) fun z=>z h1'),Kk h2,Kk (vP h3),Kk (fun z=>z h4),Kk (by omega)]
theorem F1 {wd:Int}(h1:m∈aI S) (h2:bQ S.ms m=none) (h3:0<=wd/\wd<=99999) (h7:S.ks.length < 150):dh S (.top m wd)= .ok:=by
 rw[dh,Kk (fun z=>z h1),Kk (fun z=>z h2),Kk (fun z=>z h3),Kk (by omega)]
theorem Gj (h1:y∈bg S) (h7:S.ks.length < 150):dh S (.sD y)= .ok:=by
 rw[dh,Kk (fun z=>z h1),Kk (by omega)]
theorem GO (h1:bQ S.ms m≠none) (h7:S.ks.length < 150):dh S (.sT m)= .ok:=by
 rw[dh,Kk h1,Kk (by omega)]
theorem DB (h1:S.ks≠[]):dh S .back= .ok:=by
 rw[dh,Kk h1]
end
end
section
open MA (N5 bA dM)
structure Qi (H0:Hp) (os:List Addr) (H:Hp):Prop where
 s:ai H0 H
 n: ∀b∈os,H0 b=none
section
variable {H0 H H':Hp}{os os':List Addr}{pr t:Addr}{o u:HO}{rs:List MA.av}{q:MA.av}{xs:List V}{K:NY}
end
end
def Qc {α:Type}(xs:List α):List α:=(List.range ((xs.length+1) / 2)).filterMap fun k=>xs[2*k]?
inductive J0 (K:NY) (Q:VK) (x:V) (H2:Hp):Prop | mk (a xs:_) (e0:x= .ref a) (e1:NX K H2 a xs) (q: ∀p,H2 p=none->Q (.ref p) (upd H2 p (.lst (Qc xs))))
section
variable {X:Cx}{e st:Expr}{te ts:TE}{p2 pos:Pos}
end
section
open MA (N5 bA dM)
section
variable {H H':Hp}{os os':List Addr}{la t:Addr}{ds:List N9}{d:N9}{xs:List V}
end
section
open MA
variable {n:Nat}{rs:List MA.av}{r:MA.av}{ws L:List Int}{k:Int}
end
end
section
open MA (N5 bA dM)
theorem Fp {S:N3}{d:dC}(h:aO S d= .ok) (ok:OL d) (hk:S.ks.length < 150):dh S d= .ok:=by
 cases d with
 | member y =>
  rw[aO] at h
  split at h; · cases h
  rename_i h1; split at h; · cases h
  rename_i h2
  exact Ak h1 ok (by omega) hk
 | plain y m p e o =>
  rw[aO] at h
  split at h; · cases h
  rename_i h1; split at h; · cases h
  rename_i h2; split at h; · cases h
  rename_i h3; split at h; · cases h
  rename_i h4
  obtain⟨a,_,c⟩:=ok
  exact BL (Lb.mp h1) h2 a c (by omega) (by omega) hk
 | link y m b mo =>
  rw[aO] at h
  split at h; · cases h
  rename_i h1; split at h; · cases h
  rename_i h2; split at h; · cases h
  rename_i h3
  obtain⟨a,_,_,c⟩:=ok
  exact DG (Lb.mp fun z=>h1 (.inl z)) (Lb.mp fun z=>h1 (.inr z)) h2 a c (by omega) hk
 | top m wd =>
  rw[aO] at h
  split at h; · cases h
  rename_i h1; split at h; · cases h
  rename_i h2
  obtain⟨_,c⟩:=ok
  exact F1 (Lb.mp h1) (Lb.mp h2) c hk
 | back =>
  rw[aO] at h
  split at h; · cases h
  rename_i h1
  exact DB h1
 | sM m =>
  rw[aO] at h
  split at h; · cases h
  rename_i h1; split at h; · cases h
  rename_i h2
  rw[dh,Kk h1,Kk h2,Kk (by omega)]
 | sD y =>
  rw[aO] at h
  split at h; · cases h
  rename_i h1
  exact Gj (Lb.mp h1) hk
 | sT m =>
  rw[aO] at h
  split at h; · cases h
  rename_i h1
  exact GO h1 hk
theorem Fg {S:N3}{d:dC}(g:OP S.ms S.ds) (ok:OL d) (hk:S.ks.length < 150):xm S d=cO S d:=by
 unfold xm cO
 by_cases h:aO S d= .ok
 .rw[Ko h,Ko (Fp h ok hk)]
 .rw[Kk h,Kk fun z=>h (Fd g z).1]
theorem xA {S:N3}{d:dC}(g:OP S.ms S.ds) (b:GB S) (ok:OL d) (hk:S.ks.length < 150):GB (cO S d):=by
 rw[<-Fg g ok hk]
 exact E2 b
end
inductive J8 (K:NY) (x y:V) (H:Hp) (Q:VK):Prop | mk (a b:Addr) (ys:List V) (e0:x= .ref a) (e1:y= .ref b) (e2:N1 K H b ys) (e3:ys.all bZ=true) (q:((∃xs,NX K H a xs/\Q (.bl false) H)\/ ∃xs,N1 K H a xs/\xs.all bZ=true/\Q (.bl (kY xs ys)) H))
inductive J7 (K:NY) (x y:V) (H:Hp) (Q:VK):Prop | mk (a b:Addr) (ys:List V) (e0:x= .ref a) (e1:y= .ref b) (e2:N1 K H b ys) (e3:ys.all bZ=true) (q:((∃xs,NX K H a xs/\Q (.bl true) H)\/ ∃xs,N1 K H a xs/\xs.all bZ=true/\Q (.bl (!kY xs ys)) H))
inductive HY (K:NY) (x y:V) (H:Hp) (Q:VK):Prop | mk (a b:Addr) (xs ys:List V) (e0:x= .ref a) (e1:y= .ref b) (e2:NX K H a xs) (e3:NX K H b ys) (e4:xs.length=ys.length) (e5:xs.all bZ=true) (e6:ys.all bZ=true) (q:Q (.bl ((List.range xs.length).all fun i=>OI (xs.getD i .non) (ys.getD i .non))) H)
def Jr (K:NY):R2:=fun x y H Q=>HY K x y H Q
theorem GS {X:Cx}(hu:X.A.units+1 < cLine):N7 X (compareOp .Eq) (Jr X.K):=by
 intro NV s σ H x y v u Q I rx ry h
 obtain⟨a,b,xs,ys,rfl,rfl,ha,hb,hl,fx,fy,q⟩:=h
 cases rx
 cases ry
 obtain⟨us,r1,p1,z1⟩:=I.list ha
 obtain⟨vs,r2,p2,z2⟩:=I.list hb
 have l1:=r1.length
 have l2:=r2.length
 refine SeqAt.eq_listAt (e:=fun i=>OI (xs.getD i .non) (ys.getD i .non)) p1.isList p2.isList (by simp; omega) (by omega) (fun j h1 h2=>?_) ?_
 .simp only[Na]
  exact yv (tI r1 (by simpa using h1)) (tI r2 (by simpa using h2)) (pO fx j) (pO fy j)
 .rw[show us.toArray.size=xs.length by simpa using l1.symm]
  exact⟨.bl _,H,I,rfl,q⟩
inductive J9 (K:NY) (x y:V) (H:Hp) (k:Prop):Prop | mk (a b:Addr) (xs:List V) (e0:x= .ref a) (e1:y= .ref b) (e2:NX K H a xs) (e3:NX K H b []) (e4:0 < xs.length) (q:k)
section
variable {xs xs':List Addr}{n:Nat}{H H':Hp}{ts ln la dd:Addr}{vs:List V}{kvs:Oi}{ms:List Mem}{ds:List N9}
end
inductive Pw (us:List Str):List Mem->List (List Mem×Str)->Prop
 | nil:Pw us (Qe us) []
 | snoc {mp:List Mem}{g:Str}{c:Int}{st:List (List Mem×Str)}:Pw us mp st->bQ mp g=none->g∈mp.map (·.1)->Pw us (fV mp g (some c)) (st++[(mp,g)])
theorem cP {J:It}{xs:List V}{g:TG}{tb:TS}{D:Ends}{σ:St}{H:Hp}(Pv:Nat->St->Hp->Prop) (h0:Pv 0 σ H) (hJ: ∀i σ H,i<=xs.length->Pv i σ H->JL J H xs)
  (hs: ∀i x σ H (D':Ends),(∀σ H,Pv (i+1) σ H->D'.nx σ H)->(∀v H,D.rt v H->D'.rt v H)->xs[i]?=some x->Pv i σ H->g x σ H fun σ2 H2=>tb D' σ2 H2) (hd: ∀σ H,Pv xs.length σ H->D.nx σ H) :
  ∃W:Nat->Nat->St->Hp->Prop,(∃m,W 0 m σ H)/\ ∀i m σ H,W i m σ H ->
   (J.stop i H/\D.nx σ H)\/(J.go i H/\ ∃N:St->Hp->Prop,(∀σ' H',N σ' H'-> ∃m',m' < m/\W (i+1) m' σ' H')/\ ∀x H',J.yld i H x H'->g x σ H' fun σ2 H2=>tb { D with nx:=N,ct:=N,bk:=D.nx } σ2 H2) :=
 cK Pv h0 hJ (fun i x σ H hx hp=>hs i x σ H _ (fun _ _ z=>z) (fun _ _ z=>z) hx hp) hd
theorem qE {m:Nat}{W:Nat->St->Hp->Prop}{tb:TS}{D:Ends}{σ:St}{H:Hp}(h: ∀D':Ends,(∀σ H m',m' < m->W m' σ H->D'.nx σ H)->tb D' σ H): ∃N:St->Hp->Prop,(∀σ' H',N σ' H'-> ∃m',m' < m/\W m' σ' H')/\tb { D with nx:=N,ct:=N,bk:=D.nx } σ H :=
 ⟨fun σ H=> ∃m',m' < m/\W m' σ H,fun _ _ z=>z,h _ fun _ _ m' a b=>⟨m',a,b⟩⟩
inductive HW (K:NY) (x y:V) (H:Hp) (Q:VK):Prop | mk (a b:Addr) (xs:List V) (e0:x= .ref a) (e1:y= .ref b) (e2:NX K H a xs) (e3:NX K H b []) (q:Q (.bl (decide (0 < xs.length))) H)
def DX (K:NY):R2:=fun x y H Q=>HW K x y H Q
theorem Cc {X:Cx}(hu:X.A.units+1 < cLine):N7 X (compareOp .NotEq) (DX X.K):=by
 intro NV s σ H x y v u Q I rx ry h
 obtain⟨a,b,xs,rfl,rfl,ha,hb,q⟩:=h
 cases rx
 cases ry
 obtain⟨us,r1,p1,z1⟩:=I.list ha
 obtain⟨vs,r2,p2,z2⟩:=I.list hb
 have l1:=r1.length
 have l2:=r2.length
 have l2:vs.length=0:=by rw[<-l2]; rfl
 by_cases hl:0 < xs.length
 .rw[KI hl] at q
  exact SeqAt.RcNeAt.lists_lengths p1.isList p2.isList (by simp; omega) (by omega) _ _ _ _ ⟨.bl _,H,I,rfl,q⟩
 .rw[KH hl] at q
  refine SeqAt.RcNeAt.lists (e:=fun i=>true) p1.isList p2.isList (by simp; omega) (by omega) (fun j h1 h2=>?_) _ _ _ _ ?_
  .have h1':j < us.length:=by simpa using h1
   omega
  .rw[show us.toArray.size=0 from (show us.length=0 by omega)]
   exact⟨.bl _,H,I,rfl,q⟩
section
variable {X:Cx}
end
def Jm (lo:Int) (n:Nat):It:=⟨fun i _=>i < n,fun i H x H'=>H'=H/\x= .int (lo - i),fun i _=>n<=i⟩
section
variable {X:Cx}{tg:Expr}
inductive JW (R:It->Hp->Prop) (vs:List V) (H1:Hp):Prop | mk (i j:Int) (e0:vs=[.int i,.int j,.int (-1)]) (e1:Builtin.Range.small i j (-1)=true) (q:R (Jm i (i - j).toNat) H1)
end
inductive J1 (K:NY) (x y:V) (H:Hp) (Q:VK):Prop | mk (a b:Addr) (xs ys:List V) (e0:x= .ref a) (e1:y= .ref b) (e2:NX K H a xs) (e3:NX K H b ys) (e4:xs.length=ys.length) (e5:xs.all bZ=true) (e6:ys.all bZ=true) (q:Q (.bl (!((List.range xs.length).all fun i=>OI (xs.getD i .non) (ys.getD i .non)))) H)
inductive Kb (K:NY) (x y:V) (H:Hp) (k:Prop):Prop | mk (a b:Addr) (xs:List V) (e0:x= .ref a) (e1:y= .ref b) (e2:NX K H a xs) (e3:NX K H b []) (e4:0 < xs.length) (q:k)
section
variable {X:Cx}
end
theorem Jt {t u:TS}{D:Ends}{σ:St}{H:Hp}(M:St->Hp->Prop) (h: ∀D':Ends,(∀σ' H',M σ' H'->D'.nx σ' H')->(∀v H,D.rt v H->D'.rt v H)->t D' σ H) (k: ∀σ' H',M σ' H'->u D σ' H'):Hh t u D σ H:=⟨M,h { D with nx:=M } (fun _ _ z=>z) fun _ _ z=>z,k⟩
theorem AE {J:It}{xs:List V}{g:TG}{tb:TS}{D:Ends}{σ:St}{H:Hp}(Pv:Nat->St->Hp->Prop) (h0:Pv 0 σ H) (hJ: ∀i σ H,i<=xs.length->Pv i σ H->JL J H xs)
  (hs: ∀i x σ H (D':Ends),(∀σ H,Pv (i+1) σ H->D'.nx σ H)->(∀σ H,Pv (i+1) σ H->D'.ct σ H)->(∀σ H,D.nx σ H->D'.bk σ H)->(∀v H,D.rt v H->D'.rt v H)->xs[i]?=some x->Pv i σ H->g x σ H fun σ2 H2=>tb D' σ2 H2) (hd: ∀σ H,Pv xs.length σ H->D.nx σ H) :
  ∃W:Nat->Nat->St->Hp->Prop,(∃m,W 0 m σ H)/\ ∀i m σ H,W i m σ H ->
   (J.stop i H/\D.nx σ H)\/(J.go i H/\ ∃N:St->Hp->Prop,(∀σ' H',N σ' H'-> ∃m',m' < m/\W (i+1) m' σ' H')/\ ∀x H',J.yld i H x H'->g x σ H' fun σ2 H2=>tb { D with nx:=N,ct:=N,bk:=D.nx } σ2 H2) :=
 cK Pv h0 hJ (fun i x σ H hx hp=>hs i x σ H _ (fun _ _ z=>z) (fun _ _ z=>z) (fun _ _ z=>z) (fun _ _ z=>z) hx hp) hd
theorem aN {K:NY}{i:Nat}{j:Int}{x y:Str}{A B:TS}{D:Ends}{σ:St}{H:Hp}{td:Addr}{us:List V}(hs:σ[i]?=some (some (.ref td))) (ht:N1 K H td us) (h0:Ob us j=some (.str x)) (n:x≠y) (k:B D σ H):Hr (EB (OX PM (OX (A0 K) (vB i) (tC (.int j))) (tC (.str y)))) A B D σ H :=
 ⟨_,hs,td,_,_,_,rfl,rfl,ht,h0,rfl,_,rfl,by rw[KH fun z=>n (V.str.inj z)]; exact k⟩
end L2
namespace L2
theorem cf.z {j k:Nat}{A:PySem.Around}(r:cf k A) (h:j<=k:=by decide):cf j A:=r.mono h
end L2
namespace K22
open PySem L2
theorem N4 {N P:List Str}{sc:Scope}(k:sc.kind= .function:=by rfl) (c:sc.isCoroutine=false:=by rfl) (g:sc.isGenerator=false:=by rfl) (n:N.Nodup:=by trivial) (p:N.take P.length=P:=by rfl) (r: ∀x∈P,sc.names.lookup x=some .local\/sc.names.lookup x=some .cell:=by trivial) (f: ∀y∈sc.names,y.2≠ .free:=by trivial):aE N P sc:=⟨k,c,g,n,p,r,f⟩
theorem N2 (K:NY){X:Cx}{a b:Expr}{ta tb:TE}{pos:Pos}(ha:PE X a ta) (hb:PE X b tb) (hs:vQ b:=by exact fun _ _=>rfl) (e:X.K=K:=by rfl):PE X (.Subscript a b pos) (OX (Hx K) ta tb):=e▸vi Fh ha hb hs
theorem NZ (K:NY){X:Cx}{a b:Expr}{ta tb:TE}{pos:Pos}(ha:PE X a ta) (hb:PE X b tb) (hs:vQ b:=by exact fun _ _=>rfl) (e:X.K=K:=by rfl):PE X (.Subscript a b pos) (OX (A0 K) ta tb):=e▸vi G9 ha hb hs
theorem cB (K:NY){X:Cx}{p pos:Pos}{e:Expr}{es:List Expr}{t:TA}(hm:X.mg "len" = none) (ha:PA X (e::es) t) (hg:Gl X "len" := by rfl) (he:starEach (e::es) X.env=(false,eval e X.env)::starEach es X.env:=by rfl) (hpl:(backTo pos (starEach es X.env)).any (·.1)=false:=by rfl) (eK:X.K=K:=by rfl):PE X (.Call (.Name "len" p) (e::es) [] pos) (PB (GX K) t):=eK▸bz Bj hg hm boot_len ha (by decide) (by decide) he hpl
theorem N6 {m:Str}{p q r:Addr}(h:((m == "member_rows") || (m == "demand_rows") || (m == "kept_deeds"))=false:=by trivial):(ox p q r).lookup m=none:=by
 rw[Bool.or_eq_false_iff,Bool.or_eq_false_iff] at h
 exact (bt h.1.1).trans ((bt h.1.2).trans ((bt h.2).trans rfl))
def top (i:Nat):Stmt:=PySem.Challenge.pw_stairgauge_k22_questions_change_nothing.main.body.getD i (.Pass ⟨0,0,0,0⟩)
abbrev ua:Stmt:=top 11
theorem Cp:aE ["number","span"] ["number","span"] (aq ua):=N4
abbrev sO:Stmt:=top 14
theorem AZ:aE ["rule"] ["rule"] (aq sO):=N4
abbrev mf:Stmt:=top 15
theorem vJ:aE ["rule","widths"] ["rule","widths"] (aq mf):=N4
abbrev rS:Stmt:=top 16
theorem qa:aE ["rules","widths","wider","rule"] ["rules","widths"] (aq rS):=N4
abbrev kH:Stmt:=top 17
theorem fB:aE ["count","rules","widths","spent","wider"] ["count","rules"] (aq kH):=N4
abbrev qS:Stmt:=top 19
theorem yS:aE ["rule","widths"] ["rule","widths"] (aq qS):=N4
abbrev kW:Stmt:=top 20
theorem fu:aE ["rules","widths","goal","fewest","waiting","member","rule"] ["rules","widths","goal"] (aq kW):=N4
abbrev fo:Stmt:=top 21
theorem kA:aE ["rules","widths","fewest","places","nearest"] ["rules","widths","fewest"] (aq fo):=N4
abbrev iu:Stmt:=top 22
theorem lY:aE ["rules","widths","fewest","member","nearer","links"] ["rules","widths","fewest","member"] (aq iu):=N4
abbrev qJ:Stmt:=top 23
theorem lu:aE ["count","rules","member","widths","fewest","chain"] ["count","rules","member"] (aq qJ):=N4
abbrev sC:Stmt:=top 25
theorem u6:aE ["count","rules","place","others"] ["count","rules","place"] (aq sC):=N4
abbrev kK:Stmt:=top 37
theorem uW:aE ["sign"] ["sign"] (aq kK):=N4
abbrev lh:Stmt:=top 38
theorem xO:aE ["text"] ["text"] (aq lh):=N4
abbrev rj:Stmt:=top 40
theorem vf:aE ["people","each","over","width"] ["people","each","over"] (aq rj):=N4
abbrev qB:Stmt:=top 42
theorem gA:aE ["rules","start","goal","ways","waiting","member","place","rule"] ["rules","start","goal"] (aq qB):=N4
abbrev oH:Stmt:=top 43
theorem jL:aE ["count","rules","place","rule","way"] ["count","rules"] (aq oH):=N4
abbrev vD:Stmt:=top 45
theorem DZ:aE ["width","top"] ["width","top"] (aq vD):=N4
abbrev oj:Stmt:=top 46
theorem me:aE ["widths","tops","place","width"] ["widths","tops"] (aq oj):=N4
abbrev uq:Stmt:=top 47
theorem B0:aE ["width","top"] ["width","top"] (aq uq):=N4
abbrev jD:Stmt:=top 48
theorem gD:aE ["count","rules","tops","member","least","growth","widths","excesses","worst"] ["count","rules","tops","member"] (aq jD):=N4
abbrev jf:Stmt:=top 50
theorem tR:aE ["name","names"] ["name","names"] (aq jf):=N4
abbrev qP:Stmt:=top 51
theorem yN:aE ["name","names"] ["name","names"] (aq qP):=N4
abbrev iD:Stmt:=top 52
theorem sf:aE ["name","names"] ["name","names"] (aq iD):=N4
abbrev jn:Stmt:=top 53
theorem tM:aE ["number","span"] ["number","span"] (aq jn):=N4
abbrev mq:Stmt:=top 54
theorem vM:aE ["count","most"] ["count","most"] (aq mq):=N4
abbrev rz:Stmt:=top 55
theorem u7:aE ["row","names","base"] ["row","names"] (aq rz):=N4
abbrev oA:Stmt:=top 58
theorem e8:aE ["_law_script","_law_many","_law_words_here","_law_word","_law_k","_law_cell"] ["_law_script","_law_many"] (aq oA):=N4
abbrev oM:Stmt:=top 59
theorem bT:aE ["_law_word","_law_many","_law_signs","_law_stem","_law_left","_law_k","_law_spot","_law_made","_law_sign","_law_row","_law_five"] ["_law_word","_law_many"] (aq oM):=N4
abbrev my:Stmt:=top 60
theorem vE:aE ["_law_people","_law_each","_law_over"] ["_law_people","_law_each","_law_over"] (aq my):=N4
abbrev dR:Stmt:=top 61
theorem cx:aE ["_law_state","_law_sort","_law_name","_law_names_here","_law_asked_here","_law_caps","_law_stands_here","_law_bound"] ["_law_state","_law_sort","_law_name"] (aq dR):=N4
abbrev oo:Stmt:=top 62
theorem mM:aE ["_law_state","_law_kept","_law_deed_here","_law_names_here","_law_asked_here","_law_caps"] ["_law_state","_law_kept","_law_deed_here"] (aq oo):=N4
abbrev lj:Stmt:=top 63
theorem hU:aE ["_law_state","_law_deed_here","_law_names_here","_law_asked_here","_law_caps"] ["_law_state","_law_deed_here"] (aq lj):=N4
abbrev p9:Stmt:=top 64
theorem yY:aE ["_law_house","_law_deed_here"] ["_law_house","_law_deed_here"] (aq p9):=N4
abbrev pV:Stmt:=top 65
theorem d6:aE ["_law_house","_law_deed_here","_law_word","_law_told"] ["_law_house","_law_deed_here"] (aq pV):=N4
abbrev qR:Stmt:=top 66
theorem tT:aE ["_law_house","_law_state","_law_past","_law_deed_here","_law_due_here"] ["_law_house","_law_state","_law_past","_law_deed_here"] (aq qR):=N4
abbrev qz:Stmt:=top 67
theorem dy:aE ["_law_word","_law_pool","_law_call","_law_block","_law_small","_law_kinds","_law_a","_law_b","_law_size","_law_kind","_law_over","_law_more"] ["_law_word","_law_pool","_law_call","_law_block","_law_small","_law_kinds"] (aq qz):=N4
abbrev sj:Stmt:=top 68
theorem b9:aE ["_law_script","_law_most","_law_words_here","_law_block","_law_small","_law_first","_law_many","_law_kinds","_law_pool","_law_calls","_law_day_here","_law_k","_law_word","_law_spot"] ["_law_script","_law_most"] (aq sj):=N4
abbrev oI:Stmt:=top 69
theorem xJ:aE ["_law_found"] ["_law_found"] (aq oI):=N4
abbrev oP:Stmt:=top 70
theorem rC:aE ["_law_found","_law_due_here","_law_k"] ["_law_found","_law_due_here"] (aq oP):=N4
abbrev j4:Stmt:=top 71
theorem jk:aE ["_law_house","_law_due_here","_law_found","_law_k"] ["_law_house","_law_due_here"] (aq j4):=N4
abbrev gZ:Stmt:=top 72
theorem gK:aE ["_law_house","_law_asked_here","_law_found","_law_k"] ["_law_house","_law_asked_here"] (aq gZ):=N4
abbrev jN:Stmt:=top 73
theorem i8:aE ["_law_house","_law_state","_law_names_here","_law_asked_here","_law_caps"] ["_law_house","_law_state"] (aq jN):=N4
abbrev ou:Stmt:=top 74
theorem eO:aE ["_law_count","_law_rules_here","_law_far_here","_law_k","_law_on","_law_base","_law_more","_law_mid","_law_a","_law_b"] ["_law_count","_law_rules_here"] (aq ou):=N4
abbrev oV:Stmt:=top 75
theorem dB:aE ["_law_count","_law_rules_here","_law_far_here","_law_first","_law_on","_law_base","_law_more","_law_due_here","_law_a","_law_b"] ["_law_count","_law_rules_here"] (aq oV):=N4
abbrev oO:Stmt:=top 76
theorem d9:aE ["_law_state","_law_made","_law_call","_law_member","_law_base","_law_number","_law_spot"] ["_law_state"] (aq oO):=N4
abbrev oC:Stmt:=top 77
theorem eg:aE ["_law_house","_law_kind","_law_name","_law_found"] ["_law_house","_law_kind","_law_name"] (aq oC):=N4
abbrev oh:Stmt:=top 78
theorem dH:aE ["_law_house","_law_state","_law_told","_law_reason","_law_found","_law_name","_law_row"] ["_law_house","_law_state"] (aq oh):=N4
abbrev gF:Stmt:=top 79
theorem iw:aE ["_law_house","_law_state","_law_calls","_law_told","_law_reason","_law_found"] ["_law_house","_law_state"] (aq gF):=N4
abbrev iQ:Stmt:=top 80
theorem fz:aE ["_law_house","_law_state","_law_found","_law_due_here","_law_k"] ["_law_house","_law_state"] (aq iQ):=N4
abbrev Ab:Stmt:=top 81
theorem lM:aE ["_law_script","_law_house","_law_state","_law_past","_law_day_here","_law_k"] ["_law_script"] (aq Ab):=N4
abbrev nS:Stmt:=inClass (top 56) 0
theorem wR:aE ["self"] ["self"] (aq nS):=N4
abbrev iM:Stmt:=inClass (top 56) 1
theorem sy:aE ["self"] ["self"] (aq iM):=N4
abbrev hZ:Stmt:=inClass (top 56) 2
theorem ra:aE ["self","name"] ["self","name"] (aq hZ):=N4
abbrev iH:Stmt:=inClass (top 56) 3
theorem sq:aE ["self","name","member","people","each","over"] ["self","name","member","people","each","over"] (aq iH):=N4
abbrev ji:Stmt:=inClass (top 56) 4
theorem tP:aE ["self","name","member","base","more"] ["self","name","member","base","more"] (aq ji):=N4
abbrev gh:Stmt:=inClass (top 56) 5
theorem pD:aE ["self","row"] ["self","row"] (aq gh):=N4
abbrev jU:Stmt:=inClass (top 56) 6
theorem nW:aE ["self","member","width","place"] ["self","member","width"] (aq jU):=N4
abbrev g7:Stmt:=inClass (top 56) 7
theorem j9:aE ["self","place","top","row"] ["self","place","top"] (aq g7):=N4
abbrev eA:Stmt:=inClass (top 56) 8
theorem iX:aE ["self","name","place"] ["self","name"] (aq eA):=N4
abbrev fO:Stmt:=inClass (top 56) 9
theorem i5:aE ["self","name","place"] ["self","name"] (aq fO):=N4
abbrev g8:Stmt:=inClass (top 56) 10
theorem kc:aE ["self","member","place"] ["self","member"] (aq g8):=N4
abbrev iG:Stmt:=inClass (top 56) 11
theorem lP:aE ["self","stood"] ["self"] (aq iG):=N4
abbrev gM:Stmt:=inClass (top 56) 12
theorem uF:aE ["self"] ["self"] (aq gM):=N4
abbrev jZ:Stmt:=inClass (top 56) 13
theorem uw:aE ["self"] ["self"] (aq jZ):=N4
abbrev jP:Stmt:=inClass (top 56) 14
theorem wO:aE ["self"] ["self"] (aq jP):=N4
abbrev eR:Stmt:=inClass (top 56) 15
theorem pQ:aE ["self"] ["self"] (aq eR):=N4
abbrev dI:Stmt:=inClass (top 56) 16
theorem nT:aE ["self"] ["self"] (aq dI):=N4
abbrev ja:Stmt:=inClass (top 56) 17
theorem pT:aE ["self","names"] ["self"] (aq ja):=N4
abbrev gi:Stmt:=inClass (top 56) 18
theorem tS:aE ["self","places"] ["self","places"] (aq gi):=N4
abbrev kZ:Stmt:=inClass (top 56) 19
theorem ow:aE ["self","least"] ["self"] (aq kZ):=N4
abbrev gL:Stmt:=inClass (top 56) 20
theorem jI:aE ["self","name","names","place"] ["self","name","names"] (aq gL):=N4
abbrev lX:Stmt:=inClass (top 56) 21
theorem pC:aE ["self","member","place"] ["self","member"] (aq lX):=N4
abbrev oN:Stmt:=inClass (top 56) 22
theorem hV:aE ["self","count","rules","ring","place"] ["self"] (aq oN):=N4
abbrev mr:Stmt:=inClass (top 56) 23
theorem kU:aE ["self","member","place","found"] ["self","member"] (aq mr):=N4
abbrev nB:Stmt:=inClass (top 56) 24
theorem qW:aE ["self","demand","place"] ["self","demand"] (aq nB):=N4
structure Adr where
 (Unknown InUse BadName BadNumber TooMuch Full NothingBack NoWidths House:Addr)
structure Txt (K:NY) (mg:Str->Option Value) (a:Adr):Prop where
 au:TC K mg a.House "House"
 aL:gz K a.House "member_rows"
 aW:gz K a.House "demand_rows"
 cI:gz K a.House "kept_deeds"
 ub:TF K mg "inside" ua
 sQ:TF K mg "is_link" sO
 mD:TF K mg "asked_width" mf
 rg:TF K mg "widened" rS
 kD:TF K mg "least_widths" kH
 qr:TF K mg "hands_on" qS
 ko:TF K mg "fewest_links" kW
 mw:TF K mg "first_place" fo
 nL:TF K mg "next_place" iu
 qy:TF K mg "chain_of" qJ
 sV:TF K mg "cost_of" sC
 kQ:TF K mg "small_letter" kK
 oU:TF K mg "good_name" lh
 rK:TF K mg "portion" rj
 qH:TF K mg "find_way" qB
 oG:TF K mg "find_ring" oH
 vX:TF K mg "above" vD
 nI:TF K mg "first_wide" oj
 uf:TF K mg "excess" uq
 qT:TF K mg "slack_of" jD
 jq:TF K mg "refuse_unknown" jf
 p8:TF K mg "place_of" qP
 iR:TF K mg "refuse_new_name" iD
 jr:TF K mg "refuse_outside" jn
 lZ:TF K mg "refuse_full" mq
 rn:TF K mg "as_rule" rz
 pj:TF K mg "_law_words" oA
 oS:TF K mg "_law_names" oM
 mj:TF K mg "_law_rounded" my
 jo:TF K mg "_law_due_strike" dR
 sG:TF K mg "_law_due" oo
 oB:TF K mg "_law_after" lj
 qt:TF K mg "_law_hand" p9
 qv:TF K mg "_law_done" pV
 pY:TF K mg "_law_step" qR
 qK:TF K mg "_law_deed" qz
 r9:TF K mg "_law_day" sj
 o7:TF K mg "_law_whole" oI
 oZ:TF K mg "_law_texts" oP
 jW:TF K mg "_law_tops_told" j4
 h8:TF K mg "_law_demands_told" gZ
 nX:TF K mg "_law_stands" jN
 sS:TF K mg "_law_far" ou
 o8:TF K mg "_law_least" oV
 oF:TF K mg "_law_rules" oO
 oX:TF K mg "_law_asked" oC
 nM:TF K mg "_law_spoilt" oh
 oJ:TF K mg "_law_clean" gF
 iW:TF K mg "_law_widths_same" iQ
 xf:TF K mg "law" Ab
 nz:TM K a.House "__init__" "House.__init__" nS
 iI:TM K a.House "keep_deed" "House.keep_deed" iM
 g0:TM K a.House "add_member" "House.add_member" hZ
 iT:TM K a.House "add_plain" "House.add_plain" iH
 je:TM K a.House "add_link" "House.add_link" ji
 gg:TM K a.House "bring_demand" "House.bring_demand" gh
 jM:TM K a.House "set_top" "House.set_top" jU
 gU:TM K a.House "change_top" "House.change_top" g7
 fP:TM K a.House "strike_member" "House.strike_member" eA
 fW:TM K a.House "strike_demand" "House.strike_demand" fO
 ie:TM K a.House "strike_top" "House.strike_top" g8
 iO:TM K a.House "take_back" "House.take_back" iG
 jH:TM K a.House "members" "House.members" gM
 jS:TM K a.House "demands" "House.demands" jZ
 nH:TM K a.House "tops" "House.tops" jP
 gr:TM K a.House "demand_names" "House.demand_names" eR
 fh:TM K a.House "greatest_widths" "House.greatest_widths" dI
 lU:TM K a.House "rules" "House.rules" ja
 jt:TM K a.House "names_at" "House.names_at" gi
 kj:TM K a.House "widths" "House.widths" kZ
 gI:TM K a.House "asked_place" "House.asked_place" gL
 mz:TM K a.House "chain" "House.chain" lX
 oY:TM K a.House "why" "House.why" oN
 mE:TM K a.House "slack" "House.slack" mr
 nV:TM K a.House "cost" "House.cost" nB
 nJ:jE K mg "NAME_SIGNS" [.int 1,.int 8]
 uA:jE K mg "PEOPLE" [.int 0,.int 999]
 xT:jE K mg "EACH" [.int 1,.int 999]
 ye:jE K mg "OVER" [.int 1,.int 999]
 kE:nv mg "PORTION_MOST" (.int 99999)
 kF:nv mg "MEMBERS_MOST" (.int 12)
 kJ:nv mg "DEMANDS_MOST" (.int 24)
 pq:jE K mg "LINK_MORE" [.int 0,.int 99]
 pk:jE K mg "TOP_WIDTH" [.int 0,.int 99999]
 om:nv mg "DEEDS_MOST" (.int 150)
 lR:nv mg "NO_BASE" (.int (-1))
 A1:mg "all" = none
 Bc:mg "any" = none
 yf:mg "bool" = none
 xX:mg "dict" = none
 fF:mg "enumerate" = none
 lb:mg "int" = none
 bW:mg "isinstance" = none
 bK:mg "len" = none
 i7:mg "list" = none
 lq:mg "max" = none
 uQ:mg "min" = none
 cE:mg "range" = none
 tq:mg "str" = none
 xu:mg "sum" = none
 tJ:mg "tuple" = none
 AH:mg "zip" = none
 fZ:XC K mg "Unknown" a.Unknown
 jA:XC K mg "InUse" a.InUse
 sU:XC K mg "BadName" a.BadName
 lr:XC K mg "BadNumber" a.BadNumber
 gS:XC K mg "TooMuch" a.TooMuch
 lD:XC K mg "Full" a.Full
 cY:XC K mg "NothingBack" a.NothingBack
 iz:XC K mg "NoWidths" a.NoWidths
 fN:cv K (.ref a.Unknown) a.Unknown=some true
 j6:cv K (.ref a.InUse) a.Unknown=some false
 lV:cv K (.ref a.InUse) a.InUse=some true
 iU:cv K (.ref a.TooMuch) a.Unknown=some false
 jF:cv K (.ref a.TooMuch) a.InUse=some false
 iP:cv K (.ref a.TooMuch) a.TooMuch=some true
 kN:cv K (.ref a.Full) a.Unknown=some false
 nO:cv K (.ref a.Full) a.InUse=some false
 kO:cv K (.ref a.Full) a.TooMuch=some false
 oQ:cv K (.ref a.Full) a.Full=some true
 fX:cv K (.ref a.NothingBack) a.Unknown=some false
 gJ:cv K (.ref a.NothingBack) a.InUse=some false
 fS:cv K (.ref a.NothingBack) a.TooMuch=some false
 g9:cv K (.ref a.NothingBack) a.Full=some false
 eJ:cv K (.ref a.NothingBack) a.NothingBack=some true
 ij:cv K (.ref a.NoWidths) a.Unknown=some false
 gH:cv K (.ref a.NoWidths) a.NoWidths=some true
theorem Hu {K:NY}{mg:Str->Option Value}{cUnknown cInUse cBadName cBadNumber cTooMuch cFull cNothingBack cNoWidths cHouse:Addr}(au:TC K mg cHouse "House") (aL:gz K cHouse "member_rows") (aW:gz K cHouse "demand_rows") (cI:gz K cHouse "kept_deeds") (ub:TF K mg "inside" ua) (sQ:TF K mg "is_link" sO) (mD:TF K mg "asked_width" mf) (rg:TF K mg "widened" rS) (kD:TF K mg "least_widths" kH) (qr:TF K mg "hands_on" qS) (ko:TF K mg "fewest_links" kW) (mw:TF K mg "first_place" fo) (nL:TF K mg "next_place" iu) (qy:TF K mg "chain_of" qJ) (sV:TF K mg "cost_of" sC) (kQ:TF K mg "small_letter" kK) (oU:TF K mg "good_name" lh) (rK:TF K mg "portion" rj) (qH:TF K mg "find_way" qB) (oG:TF K mg "find_ring" oH) (vX:TF K mg "above" vD) (nI:TF K mg "first_wide" oj) (uf:TF K mg "excess" uq) (qT:TF K mg "slack_of" jD) (jq:TF K mg "refuse_unknown" jf) (p8:TF K mg "place_of" qP) (iR:TF K mg "refuse_new_name" iD) (jr:TF K mg "refuse_outside" jn) (lZ:TF K mg "refuse_full" mq) (rn:TF K mg "as_rule" rz) (pj:TF K mg "_law_words" oA) (oS:TF K mg "_law_names" oM) (mj:TF K mg "_law_rounded" my) (jo:TF K mg "_law_due_strike" dR) (sG:TF K mg "_law_due" oo) (oB:TF K mg "_law_after" lj) (qt:TF K mg "_law_hand" p9) (qv:TF K mg "_law_done" pV) (pY:TF K mg "_law_step" qR) (qK:TF K mg "_law_deed" qz) (r9:TF K mg "_law_day" sj) (o7:TF K mg "_law_whole" oI) (oZ:TF K mg "_law_texts" oP) (jW:TF K mg "_law_tops_told" j4) (h8:TF K mg "_law_demands_told" gZ) (nX:TF K mg "_law_stands" jN) (sS:TF K mg "_law_far" ou) (o8:TF K mg "_law_least" oV) (oF:TF K mg "_law_rules" oO) (oX:TF K mg "_law_asked" oC) (nM:TF K mg "_law_spoilt" oh) (oJ:TF K mg "_law_clean" gF) (iW:TF K mg "_law_widths_same" iQ) (xf:TF K mg "law" Ab) (nz:TM K cHouse "__init__" "House.__init__" nS) (iI:TM K cHouse "keep_deed" "House.keep_deed" iM) (g0:TM K cHouse "add_member" "House.add_member" hZ) (iT:TM K cHouse "add_plain" "House.add_plain" iH) (je:TM K cHouse "add_link" "House.add_link" ji) (gg:TM K cHouse "bring_demand" "House.bring_demand" gh) (jM:TM K cHouse "set_top" "House.set_top" jU) (gU:TM K cHouse "change_top" "House.change_top" g7) (fP:TM K cHouse "strike_member" "House.strike_member" eA) (fW:TM K cHouse "strike_demand" "House.strike_demand" fO) (ie:TM K cHouse "strike_top" "House.strike_top" g8) (iO:TM K cHouse "take_back" "House.take_back" iG) (jH:TM K cHouse "members" "House.members" gM) (jS:TM K cHouse "demands" "House.demands" jZ) (nH:TM K cHouse "tops" "House.tops" jP) (gr:TM K cHouse "demand_names" "House.demand_names" eR) (fh:TM K cHouse "greatest_widths" "House.greatest_widths" dI) (lU:TM K cHouse "rules" "House.rules" ja) (jt:TM K cHouse "names_at" "House.names_at" gi) (kj:TM K cHouse "widths" "House.widths" kZ) (gI:TM K cHouse "asked_place" "House.asked_place" gL) (mz:TM K cHouse "chain" "House.chain" lX) (oY:TM K cHouse "why" "House.why" oN) (mE:TM K cHouse "slack" "House.slack" mr) (nV:TM K cHouse "cost" "House.cost" nB) (nJ:jE K mg "NAME_SIGNS" [.int 1,.int 8]) (uA:jE K mg "PEOPLE" [.int 0,.int 999]) (xT:jE K mg "EACH" [.int 1,.int 999]) (ye:jE K mg "OVER" [.int 1,.int 999]) (kE:nv mg "PORTION_MOST" (.int 99999)) (kF:nv mg "MEMBERS_MOST" (.int 12)) (kJ:nv mg "DEMANDS_MOST" (.int 24)) (pq:jE K mg "LINK_MORE" [.int 0,.int 99]) (pk:jE K mg "TOP_WIDTH" [.int 0,.int 99999]) (om:nv mg "DEEDS_MOST" (.int 150)) (lR:nv mg "NO_BASE" (.int (-1))) (A1:mg "all" = none) (Bc:mg "any" = none) (yf:mg "bool" = none) (xX:mg "dict" = none) (fF:mg "enumerate" = none) (lb:mg "int" = none) (bW:mg "isinstance" = none) (bK:mg "len" = none) (i7:mg "list" = none) (lq:mg "max" = none) (uQ:mg "min" = none) (cE:mg "range" = none) (tq:mg "str" = none) (xu:mg "sum" = none) (tJ:mg "tuple" = none) (AH:mg "zip" = none) (fZ:XC K mg "Unknown" cUnknown) (jA:XC K mg "InUse" cInUse) (sU:XC K mg "BadName" cBadName) (lr:XC K mg "BadNumber" cBadNumber) (gS:XC K mg "TooMuch" cTooMuch) (lD:XC K mg "Full" cFull) (cY:XC K mg "NothingBack" cNothingBack) (iz:XC K mg "NoWidths" cNoWidths) (fN:cv K (.ref cUnknown) cUnknown=some true) (j6:cv K (.ref cInUse) cUnknown=some false) (lV:cv K (.ref cInUse) cInUse=some true) (iU:cv K (.ref cTooMuch) cUnknown=some false) (jF:cv K (.ref cTooMuch) cInUse=some false) (iP:cv K (.ref cTooMuch) cTooMuch=some true) (kN:cv K (.ref cFull) cUnknown=some false) (nO:cv K (.ref cFull) cInUse=some false) (kO:cv K (.ref cFull) cTooMuch=some false) (oQ:cv K (.ref cFull) cFull=some true) (fX:cv K (.ref cNothingBack) cUnknown=some false) (gJ:cv K (.ref cNothingBack) cInUse=some false) (fS:cv K (.ref cNothingBack) cTooMuch=some false) (g9:cv K (.ref cNothingBack) cFull=some false) (eJ:cv K (.ref cNothingBack) cNothingBack=some true) (ij:cv K (.ref cNoWidths) cUnknown=some false) (gH:cv K (.ref cNoWidths) cNoWidths=some true): ∃a:Adr,Txt K mg a :=
 ⟨⟨cUnknown,cInUse,cBadName,cBadNumber,cTooMuch,cFull,cNothingBack,cNoWidths,cHouse⟩,au,aL,aW,cI,ub,sQ,mD,rg,kD,qr,ko,mw,nL,qy,sV,kQ,oU,rK,qH,oG,vX,nI,uf,qT,jq,p8,iR,jr,lZ,rn,pj,oS,mj,jo,sG,oB,qt,qv,pY,qK,r9,o7,oZ,jW,h8,nX,sS,o8,oF,oX,nM,oJ,iW,xf,nz,iI,g0,iT,je,gg,jM,gU,fP,fW,ie,iO,jH,jS,nH,gr,fh,lU,jt,kj,gI,mz,oY,mE,nV,nJ,uA,xT,ye,kE,kF,kJ,pq,pk,om,lR,A1,Bc,yf,xX,fF,lb,bW,bK,i7,lq,uQ,cE,tq,xu,tJ,AH,fZ,jA,sU,lr,gS,lD,cY,iz,fN,j6,lV,iU,jF,iP,kN,nO,kO,oQ,fX,gJ,fS,g9,eJ,ij,gH⟩
def Cq (K:NY):Sp:=fun vs H Q _=> ∃(a:Addr) (ns:List Int),vs=[.ref a]/\NX K H a (ns.map V.int)/\ns.length<=63/\ ∀H',Q (.bl true) H'
open MA (N5 bU eh bA loop Met Le)
def AV (K:NY):Sp:=fun vs H Q _=> ∃v q,vs=[v]/\jX K H v q/\Q (.bl (!decide (q.2.1= -1))) H
def Dg (K:NY):Sp:=fun vs H Q _=> ∃v q w ws,vs=[v,.ref w]/\jX K H v q/\NX K H w (ws.map V.int)/\N5 ws.length q/\Q (.int (MA.ask (MA.g ws) q)) H
def AU (K:NY):Sp:=fun vs H Q _=> ∃r rs w ws,vs=[.ref r,.ref w]/\OD K H r rs/\NX K H w (ws.map V.int)/\(∀q∈rs,N5 ws.length q)/\ ∀p H',H p=none->ai H H'->H' p=some (.lst ((bU rs ws).map V.int))->Q (.ref p) H'
def En (K:NY):Sp:=fun vs H Q _=> ∃(n:Nat) (r:Addr) (rs:List MA.av),vs=[.int n,.ref r]/\n<=1000/\OD K H r rs/\(∀q∈rs,N5 n q) /\
 (∀H',ai H H'->bA n rs=none->Q .non H')/\(∀p L H',H p=none->ai H H'->bA n rs=some L->H' p=some (.lst (L.map V.int))->Q (.ref p) H')
def isInt:V->Bool
 | .int _=>true
 | _=>false
def DJ (K:NY):Sp:=fun vs H Q _=> ∃(v:V),vs=[v]/\(∃b1 b2,Pp K v H "int" b1/\Pp K v H "bool" b2/\(b1 && !b2)=isInt v)/\Q (.bl (isInt v)) H
section
variable {P:Program}{w:World}{K:NY}{mg:Str->Option Value}{base:Heap}{a:Adr}
def DU (K:NY):Sp:=fun vs H Q _=> ∃(a:Addr) (ns:List Int) (m:Nat),vs=[.ref a,.int m]/\NX K H a (ns.map V.int)/\m<=1000/\ ∀(p:Addr) (ws:List Int) (H':Hp),H p=none->ai H H'->H' p=some (.lst (ws.map V.int))->ws.length=m->(∀x∈ws,0<=x)->Q (.ref p) H'
theorem aH {n:Nat}(h:n<=1000):n < sizeLine:=Lp h (by decide)
theorem PN {k x y:Int}(h:k=0\/k=1): ∃d:Int,Ob ([.int x,.int y]:List V) k=some (.int d)/\(d=x\/d=y):=by
 rcases h with rfl | rfl
 .exact⟨x,rfl,.inl rfl⟩
 .exact⟨y,rfl,.inr rfl⟩
theorem mod2 (x:Int):x % 2=0\/x % 2=1:=by omega
theorem Dz (T:Txt K mg a):N8 P w K mg base 1 "_law_words" ["_law_script","_law_many"] (DU K):=by
 refine bf T.pj e8 (fun _ _ _ _ _ _=>Oa fun _ _=>rfl) (fun vs H Q E h=>?_) fun f c A o s H vs Q E hr h=>?_
 .obtain⟨a,ns,m,rfl,_⟩:=h
  rfl
 .obtain⟨a,ns,m,rfl,hS,hm,q⟩:=h
  refine⟨_,(ah (ax (i:=2) e8.nd rfl (Or.inl rfl) (aQ ae))
   (ah (ax (i:=3) e8.nd rfl (Or.inl rfl) af)
   (ah (bP KL rfl (b6 rfl T.cE (aa (pv 1) ae)) (aG (i:=4) e8.nd rfl (Or.inl rfl))
   (ah (ax (i:=5) e8.nd rfl (Or.inl rfl) af)
   (dS (aK (aw oq (pv 4) (cB K T.bK (aa (pv 0) ae)) (aA _)) (aj (ax (i:=5) e8.nd rfl (Or.inl rfl) (N2 K (pv 0) (pv 4)))) aD)
   (ah (ax (i:=3) e8.nd rfl (Or.inl rfl) (ay bD (ay yr (ay bN (ay bN (pv 3) (pv 5)) (pv 4)) af) (ay bN (ay uS af af) af)))
   (aj (aU (show PE _ _ (Oh K _ _ _ _) from cz Kw KR KS bS (pv 2) (aa (pv 3) ae))))))))
   (aj (az (pv 2)))))),?_⟩
  refine⟨by decide,fun l nl=>?_⟩
  refine⟨_,rfl,_,rfl,by omega,by omega,?_⟩
  rw[KO]
  refine cK (xs:=cw 0 m) (fun i σ' H'=> ∃(ws:List Int) (wd:Int) (v4 v5:Option V),σ'=[some (.ref a),some (.int m),some (.ref l),some (.int wd),v4,v5]/\ai H H'/\H' l=some (.lst (ws.map V.int))/\ws.length=i/\ ∀x∈ws,0<=x) ⟨[],_,none,none,rfl,ai.upd nl,ag,rfl,fun x hx=>by cases hx⟩ (fun i σ' H' _ _=>cG) ?_ ?_
  .rintro i x σ' H' hi ⟨ws,wd,v4,v5,rfl,sm,hl,hw,h0⟩
   obtain⟨hi,rfl⟩:=cj hi
   refine⟨fun σ2 H2=> ∃c:Int,σ2=[some (.ref a),some (.int m),some (.ref l),some (.int wd),some (.int (0+(i:Nat))),some (.int c)]/\H2=H',?_,?_⟩
   .refine⟨_,rfl,_,rfl,_,_,rfl,.inl ⟨_,sm.seq hS,rfl⟩,_,_,rfl,rfl,_,rfl,?_⟩
    rw[Kj]
    refine bF (fun c=>?_) (fun c=>?_)
    .have c:=KQ c
     exact⟨_,rfl,_,rfl,a,_,_,_,rfl,rfl,sm.seq hS,fv (by omega) c,_,rfl,rfl⟩
    .exact⟨0,rfl,rfl⟩
   rintro σ2 H2 ⟨c,rfl,rfl⟩
   refine⟨_,rfl,_,rfl,_,_,rfl,rfl,_,rfl,_,_,rfl,rfl,_,_,rfl,rfl,.inr ⟨by decide,by decide⟩,_,_,rfl,rfl,⟨by decide,by decide,by decide⟩,_,_,rfl,rfl,_,_,rfl,rfl,(by show (0:Int) < 10 ^ 18+9; decide),?_⟩
   refine⟨_,rfl,.inl ⟨rfl,_,NX.of hl⟩,_,rfl,l,_,_,rfl,rfl,hl,by rw[Kj,hw]; exact aH (by omega),?_⟩
   refine⟨ws++[(wd+c+(0+(i:Nat)))*618033988749894849 % (10 ^ 18+9)],_,_,_,rfl,sm.cN nl,by rw[ag,KN]; rfl,by rw[Kr,hw]; rfl,fun x hx=>?_⟩
   rcases Kz.mp hx with hx | hx
   .exact h0 x hx
   .rw[Km.mp hx]
    exact L3 _ (by decide)
  .rintro σ' H' ⟨ws,wd,v4,v5,rfl,sm,hl,hw,h0⟩
   rw[cL] at hw
   exact⟨_,rfl,q l ws H' nl sm hl hw h0⟩
theorem t9 (T:Txt K mg a):N8 P w K mg base 1 "_law_whole" ["_law_found"] (DJ K):=by
 refine bf T.o7 xJ (fun _ _ _ _ _ _=>Ov fun _=>rfl) (fun vs H Q E h=>?_) fun f c A o s H vs Q E hr h=>?_
 .obtain⟨v,rfl,_⟩:=h
  rfl
 .obtain⟨v,rfl,⟨b1,b2,h1,h2,e⟩,q⟩:=h
  refine⟨_,(aj (az (nY (sP (bz eD (by rfl) T.bW boot_isinstance (aa (pv 0) (aa (ft (v:= .ty "int") rfl T.lb boot_int rfl) ae))) (rH (GJ (bz eD (by rfl) T.bW boot_isinstance (aa (pv 0) (aa (ft (v:= .ty "bool") rfl T.yf boot_bool rfl) ae))))))))),?_⟩
  refine⟨fun v' H'=>v'= .bl (isInt v)/\H'=H,?_,fun v' H' z=>by rw[z.1,z.2]; exact q⟩
  refine⟨_,rfl,_,"int",b1,rfl,h1,_,rfl,?_⟩
  rw[<-e]
  refine bF (fun c=>?_) (fun c=>?_)
  .subst c
   exact⟨_,rfl,_,"bool",b2,rfl,h2,_,rfl,rfl,rfl⟩
  .rw[K6] at c
   subst c
   exact⟨rfl,rfl⟩
def DV (K:NY):Sp:=fun vs H Q _=> ∃(x:Int) (m:Nat),vs=[.int x,.int m]/\m<=32/\ ∀(p:Addr) (ys:List Str) (H':Hp),H p=none->ai H H'->H' p=some (.lst (ys.map V.str))->ys.length=m->(∀y∈ys,Nm y)->Q (.ref p) H'
theorem dQ (z:Str):z.cps.toList.length=z.length:=by simp[Str.length]
def vh:Str:= "zyxw"
theorem FG {k:Int}(h0:0<=k) (h1:k < 4): ∃c,Ob vh.cps.toList k=some c/\small c:=by
 have l:vh.cps.toList.length=4:=by trivial
 have s: ∀c∈vh.cps.toList,small c:=by
  unfold small
  decide +kernel
 obtain⟨c,a,b⟩:=BP (xs:=vh.cps.toList) (i:=k) h0 (by omega)
 exact⟨c,a,s c b⟩
def one (y:Str):Prop:= ∃c,y.cps.toList=[c]/\small c
theorem IQ:one "z" := ⟨122,by trivial,by unfold small; decide⟩
theorem Ig:one "a" := ⟨97,by trivial,by unfold small; decide⟩
theorem Ij:one "b" := ⟨98,by trivial,by unfold small; decide⟩
theorem zI: ∀ys:List Str,(∀y∈ys,one y)->((ys.map fun y=>y.cps.toList).flatten).length=ys.length/\(∀c∈(ys.map fun y=>y.cps.toList).flatten,small c)/\(ys.map (·.length)).sum=ys.length
 | [],_=>⟨rfl,(fun c hc=>by cases hc),rfl⟩
 | y::ys,h=>by
  obtain⟨c,e,s⟩:=h y (Ky)
  obtain⟨a,b,d⟩:=zI ys fun z hz=>h z (Kx _ hz)
  have l1:y.length=1:=by rw[<-dQ,e]; rfl
  refine⟨?_,fun x hx=>?_,?_⟩
  .rw[Lg,LJ,e,Kr,a]
   show 1+ys.length=ys.length+1
   omega
  .rw[Lg,LJ,e] at hx
   rcases Kz.mp hx with hx | hx
   .rw[Km.mp hx]; exact s
   .exact b x hx
  .simp only[Lg,NA,KZ,l1]
   omega
theorem zW (n:Nat) (c:Nat):(List.replicate n [c]).flatten=List.replicate n c:=by
 induction n with
 | zero=>rfl
 | succ n ih=>rw[Lv,LJ,ih,Lv]; rfl
theorem zK {st r:Str}{spot:Int}(e:r.cps.toList=jT st none (some spot)):r.length<=st.length:=by
 rw[<-dQ,e]
 unfold jT
 rw[K4,Ls,dQ]
 omega
theorem FI {st r:Str}{spot:Int}(e:r.cps.toList=jT st (some spot) none):r.length<=st.length:=by
 rw[<-dQ,e]
 unfold jT
 rw[K4,Ls,dQ]
 omega
theorem Ee {st r1 r2:Str}{spot:Int}(h:0<=spot) (e1:r1.cps.toList=jT st none (some spot)) (e2:r2.cps.toList=jT st (some spot) none):r1.length+r2.length=st.length:=by
 rw[<-dQ r1,<-dQ r2,e1,e2]
 unfold jT
 rw[K4,Ls,K4,Ls,dQ,zz _ _ _ h,zz _ _ _ h]
 have h:=NG spot.toNat st.length
 show min (min spot.toNat st.length) st.length+min _ _=st.length
 rw[NS h]
 exact (Lm _ (Nat.min_self _)).trans (Nat.add_sub_of_le h)
theorem DW (T:Txt K mg a):N8 P w K mg base 1 "_law_names" ["_law_word","_law_many"] (DV K):=by
 refine bf T.oS bT (fun _ _ _ _ _ _=>Oa fun _ _=>rfl) (fun vs H Q E h=>?_) fun f c A o s H vs Q E hr h=>?_
 .obtain⟨x,m,rfl,_⟩:=h
  rfl
 .obtain⟨x,m,rfl,hm,q⟩:=h
  refine⟨_,(ah (ax (i:=2) bT.nd rfl (Or.inl rfl) aF)
   (ah (ax (i:=3) bT.nd rfl (Or.inl rfl) aF)
   (ah (ax (i:=4) bT.nd rfl (Or.inl rfl) (ay bR (pv 0) af))
   (ah (bP KL rfl (b6 rfl T.cE (aa (ay bD (ay bR (pv 0) af) af) ae)) (aG (i:=5) bT.nd rfl (Or.inl rfl))
   (ah (ax (i:=3) bT.nd rfl (Or.inl rfl) (ay mI (pv 3) (vi yk (pv 2) (ay bD (pv 4) af) (fun _ _=>rfl))))
   (aj (ax (i:=4) bT.nd rfl (Or.inl rfl) (ay bR (pv 4) af)))))
   (ah (ax (i:=6) bT.nd rfl (Or.inl rfl) (ay bD (ay bR (pv 0) af) af))
   (ah (ax (i:=7) bT.nd rfl (Or.inl rfl) (aQ ae))
   (ah (bP KL rfl (b6 rfl T.cE (aa (pv 1) ae)) (aG (i:=5) bT.nd rfl (Or.inl rfl))
   (ah (ax (i:=8) bT.nd rfl (Or.inl rfl) (vi yk (pv 2) (ay bD (ay bN (pv 5) (ay bR (pv 0) af)) af) (fun _ _=>rfl)))
   (ah (ax (i:=9) bT.nd rfl (Or.inl rfl) (ay sL (aQ (aa aF ae)) af))
   (ah (gY aF (lz (pv 9) (ay bD (pv 5) af) set_list))
   (ah (gY aF (lz (pv 9) (ay bD (ay bN (ay bN (ay bD (pv 5) af) af) (ay bR (pv 5) af)) af) set_list))
   (ah (ax (i:=10) bT.nd rfl (Or.inl rfl) (aQ (aa (pv 8) (aa (ay mI (ay mI (fK BZ (pv 3) gC (gB (pv 6))) (pv 8)) (fK BZ (pv 3) (gB (pv 6)) gC)) (aa (ay zv (pv 8) (ay bN af (ay bD (pv 5) af))) ae)))))
   (ah (ax (i:=10) bT.nd rfl (Or.inl rfl) (ay eE (pv 10) (aQ (aa (ay mI (ay zv aF (ay bD (pv 5) af)) (vi yk aF (ay bR (pv 5) af) (fun _ _=>rfl))) (aa (cz PySem.F.plainAttrs_str PySem.F.slot_str_join PySem.F.type_str_join Ft aF (aa (pv 9) ae)) ae)))))
   (aj (aU (show PE _ _ (Oh K _ _ _ _) from cz Kw KR KS bS (pv 7) (aa (N2 K (pv 10) (ay bD (pv 0) af)) ae)))))))))))
   (aj (az (pv 7)))))))))),?_⟩
  have big:pX.length<=sizeLine:=by rw[<-dQ,zw]; decide
  refine⟨_,rfl,_,_,rfl,rfl,⟨by decide,by decide⟩,?_⟩
  refine⟨_,rfl,_,_,rfl,rfl,⟨by decide,by decide⟩,_,_,rfl,rfl,(by show (0:Int) < 8; decide),_,rfl,by omega,by omega,?_⟩
  refine cK (xs:=cw 0 (x / 1040 % 8).toNat) (fun i σ' H'=> ∃(st:Str) (lf:Int) (v5:Option V),σ'=[some (.int x),some (.int m),some (.str pX),some (.str st),some (.int lf),v5,none,none,none,none,none]/\H'=H/\st.cps.toList.length=i/\ ∀c∈st.cps.toList,small c) ⟨"",_,none,rfl,rfl,rfl,fun c hc=>by cases hc⟩ (fun i σ' H' _ _=>cG) ?_ ?_
  .rintro i y σ' H' hi ⟨st,lf,v5,rfl,rfl,hl,hs⟩
   obtain⟨hi,rfl⟩:=cj hi
   obtain⟨c,hc,hcs⟩:=Ct lf
   refine⟨_,rfl,_,rfl,_,rfl,_,_,rfl,rfl,(by show (0:Int) < 26; decide),pX,_,c,rfl,rfl,big,hc,_,_,rfl,rfl,?_,?_⟩
   .rw[<-dQ,hl]
    show i+1<=sizeLine
    exact KY (aH (by omega))
   refine⟨_,rfl,_,_,rfl,rfl,⟨by decide,by decide⟩,_,_,_,rfl,rfl,?_,fun d hd=>?_⟩
   .rw[jv,Kr,hl]
    rfl
   .rw[jv] at hd
    rcases Kz.mp hd with hd | hd
    .exact hs d hd
    .rw[Km.mp hd]; exact hcs
  rintro σ1 H1 ⟨st,lf,v5,rfl,rfl,hstl,hsts⟩
  rw[cL] at hstl
  refine⟨_,rfl,_,_,rfl,rfl,⟨by decide,by decide⟩,_,_,rfl,rfl,(by show (0:Int) < 8; decide),?_⟩
  have sp0:0<=x / 5 % 8:=by omega
  have stl:st.length<=7:=by rw[<-dQ,hstl]; omega
  dsimp only[aY,List.set]
  generalize x / 5 % 8=spot at sp0
  refine⟨by decide,fun l nl=>?_⟩
  refine⟨_,rfl,_,rfl,by omega,by omega,?_⟩
  rw[KO]
  refine cP (xs:=cw 0 m) (fun i σ' H'=> ∃(ys:List Str) (v5 v8 v9 v10:Option V),σ'=[some (.int x),some (.int m),some (.str pX),some (.str st),some (.int lf),v5,some (.int spot),some (.ref l),v8,v9,v10]/\ai H1 H'/\H' l=some (.lst (ys.map V.str))/\ys.length=i/\ ∀y∈ys,Nm y) ⟨[],v5,none,none,none,rfl,ai.upd nl,ag,rfl,fun y hy=>by cases hy⟩ (fun i σ' H' _ _=>cG) ?_ ?_
  .rintro i y σ' H' D1 nx1 - hi ⟨ys,v5,v8,v9,v10,rfl,sm,hl,hyl,hnm⟩
   obtain⟨hin,rfl⟩:=cj hi
   obtain⟨c,hc,hcs⟩:=Ct (0+(i:Nat)+x / 40)
   refine⟨_,rfl,_,rfl,_,rfl,_,_,rfl,rfl,⟨by decide,by decide⟩,_,_,rfl,rfl,_,_,rfl,rfl,(by show (0:Int) < 26; decide),pX,_,c,rfl,rfl,big,hc,?_⟩
   refine⟨(by show 1<=sizeLine; decide),fun l0 n0=>⟨l0,_,_,rfl,rfl,ag,by decide,by decide,by decide,fun r nr=>?_⟩⟩
   have sr:=sm.trans ((ai.upd (o:= .lst [.str "z"]) n0).trans (ai.upd (o:= .lst ((List.replicate 8 (Str.ofString "z")).map V.str)) nr))
   have hr1:(upd (upd H' l0 (.lst [.str "z"])) r (.lst (List.replicate (8:Int).toNat [V.str "z"]).flatten)) r=some (.lst ((List.replicate 8 (Str.ofString "z")).map V.str)):=ag
   have hl1:(upd (upd H' l0 (.lst [.str "z"])) r (.lst (List.replicate (8:Int).toNat [V.str "z"]).flatten)) l=some (.lst (ys.map V.str)):=((ai.upd (o:= .lst [.str "z"]) n0).trans (ai.upd nr)) _ _ hl
   have nrH:H1 r=none:=(sm.trans (ai.upd n0)).free nr
   have sr:ai H1 (upd (upd H' l0 (.lst [.str "z"])) r (.lst (List.replicate (8:Int).toNat [V.str "z"]).flatten)):=sr
   have nlr:l≠r:=aB (ai.upd n0 _ _ hl) nr
   dsimp only[aY,List.set]
   generalize upd (upd H' l0 (.lst [.str "z"])) r (.lst (List.replicate (8:Int).toNat [V.str "z"]).flatten)=H2 at hr1 hl1 sr
   have j1:OS 8 ((0+(i:Nat):Int) % 8)=some ((0+(i:Nat):Int) % 8).toNat:=lK (by omega) (by omega)
   refine⟨_,rfl,_,rfl,_,_,rfl,rfl,(by show (0:Int) < 8; decide),r,_,_,_,rfl,rfl,hr1,j1,?_⟩
   generalize ((0+(i:Nat):Int) % 8).toNat=p1
   have j2:OS 8 (((0+(i:Nat):Int) % 8+1+(0+(i:Nat):Int) / 8) % 8)=some (((0+(i:Nat):Int) % 8+1+(0+(i:Nat):Int) / 8) % 8).toNat:=lK (by omega) (by omega)
   refine⟨_,rfl,_,rfl,_,_,rfl,rfl,(by show (0:Int) < 8; decide),_,_,rfl,rfl,_,rfl,_,_,rfl,rfl,⟨by decide,by decide⟩,_,_,rfl,rfl,_,_,rfl,rfl,(by show (0:Int) < 8; decide),r,_,_,_,rfl,rfl,ag,(by rw[Mg]; exact j2),?_⟩
   generalize (((0+(i:Nat):Int) % 8+1+(0+(i:Nat):Int) / 8) % 8).toNat=p2
   rw[vw]
   have erow:(((List.replicate 8 (Str.ofString "z")).map V.str).set p1 (.str "a")).set p2 (.str "b")=(((List.replicate 8 (Str.ofString "z")).set p1 "a").set p2 "b").map V.str:=by
    rw[Nc,Nc]
   rw[erow]
   have hone: ∀y∈((List.replicate 8 (Str.ofString "z")).set p1 "a").set p2 "b",one y:=fun y hy=>by
    rcases List.mem_or_eq_of_mem_set hy with hy | rfl
    .rcases List.mem_or_eq_of_mem_set hy with hy | rfl
     .rw[(Nu.mp hy).2]; exact IQ
     .exact Ig
    .exact Ij
   have hrl:(((List.replicate 8 (Str.ofString "z")).set p1 "a").set p2 "b").length=8:=by rw[Mg,Mg]; rfl
   generalize ((List.replicate 8 (Str.ofString "z")).set p1 "a").set p2 "b" = row at hone hrl
   obtain⟨o1,o2,o3⟩:=zI row hone
   have sr3:ai H1 (upd H2 r (.lst (row.map V.str))):=sr.cN nrH
   have hl3:(upd H2 r (.lst (row.map V.str))) l=some (.lst (ys.map V.str)):=(ao nlr).trans hl1
   have hr3:(upd H2 r (.lst (row.map V.str))) r=some (.lst (row.map V.str)):=ag
   generalize upd H2 r (.lst (row.map V.str))=H3 at sr3 hl3 hr3
   refine⟨_,rfl,_,rfl,_,rfl,_,rfl,st,rfl,KY (aH (by omega)),fun r1 e1=>⟨_,rfl,_,_,rfl,rfl,?_,_,rfl,_,rfl,_,rfl,st,rfl,KY (aH (by omega)),fun r2 e2=>⟨_,_,rfl,rfl,?_,?_⟩⟩⟩
   .show r1.length+1<=sizeLine
    exact KY (aH (by have:=zK e1; omega))
   .have h1:=zK e1
    have h2:=FI e2
    have h3:(r1++(⟨#[c]⟩:Str)).length=r1.length+1:=by rw[<-dQ,jv,Kr,dQ]; rfl
    rw[h3]
    exact KY (aH (by omega))
   have n1:Nm (⟨#[c]⟩:Str):=⟨Kn _,by show 1<=8; decide,fun d hd=>by rw[Km.mp hd]; exact hcs⟩
   have n2:Nm ((r1++(⟨#[c]⟩:Str))++r2):=by
    have e:((r1++(⟨#[c]⟩:Str))++r2).cps.toList=r1.cps.toList++[c]++r2.cps.toList:=by rw[jv,jv]
    have hlen:=Ee sp0 e1 e2
    unfold Nm Pe
    rw[e]
    refine⟨by simp only[Kr,KZ,My]; omega,by simp only[Kr,KZ,My,dQ]; omega,fun d hd=>?_⟩
    rcases Kz.mp hd with hd | hd
    .rcases Kz.mp hd with hd | hd
     .rw[e1] at hd
      exact hsts d (MJ (ML hd))
     .rw[Km.mp hd]; exact hcs
    .rw[e2] at hd
     exact hsts d (MJ (ML hd))
   refine⟨_,rfl,_,rfl,_,_,rfl,rfl,(by show (0:Int) < 8; decide),_,_,rfl,rfl,_,_,rfl,rfl,by omega,by omega,by show 1<=1000; decide,fun r3 e3=>?_⟩
   have n3:Nm r3:=by
    have e:r3.cps.toList=List.replicate (1+(0+(i:Nat):Int) % 8).toNat c:=e3.trans (zW _ _)
    unfold Nm Pe
    rw[e,Mf]
    exact⟨by omega,by omega,fun d hd=>by rw[(Nu.mp hd).2]; exact hcs⟩
   refine⟨(by show 3<=sizeLine; decide),fun f1 nf1=>?_⟩
   have hl4:=ai.upd (o:= .lst [.str ⟨#[c]⟩,.str ((r1++(⟨#[c]⟩:Str))++r2),.str r3]) nf1 _ _ hl3
   have hr4:=ai.upd (o:= .lst [.str ⟨#[c]⟩,.str ((r1++(⟨#[c]⟩:Str))++r2),.str r3]) nf1 _ _ hr3
   have sr4:=sr3.trans (ai.upd (o:= .lst [.str ⟨#[c]⟩,.str ((r1++(⟨#[c]⟩:Str))++r2),.str r3]) nf1)
   have hf4:(upd H3 f1 (.lst [.str ⟨#[c]⟩,.str ((r1++(⟨#[c]⟩:Str))++r2),.str r3])) f1=some (.lst [.str ⟨#[c]⟩,.str ((r1++(⟨#[c]⟩:Str))++r2),.str r3]):=ag
   dsimp only[aY,List.set]
   generalize upd H3 f1 (.lst [.str ⟨#[c]⟩,.str ((r1++(⟨#[c]⟩:Str))++r2),.str r3])=H4 at hl4 hr4 sr4 hf4
   obtain⟨c2,hc2,hcs2⟩:=FG (k:=(0+(i:Nat):Int) / 8) (by omega) (by omega)
   refine⟨_,rfl,_,rfl,_,_,rfl,rfl,(by show (0:Int) < 8; decide),_,_,rfl,rfl,by omega,by omega,by show 1<=1000; decide,fun r4 e4=>?_⟩
   have e4':r4.cps.toList=List.replicate ((0+(i:Nat):Int) % 8).toNat 122:=by
    rw[e4,show (Str.ofString "z").cps.toList=[122] from by trivial]
    exact zW _ _
   have l4:r4.length<=7:=by
    rw[<-dQ,e4',Mf]
    omega
   have n4:Nm (r4++(⟨#[c2]⟩:Str)):=by
    have e:(r4++(⟨#[c2]⟩:Str)).cps.toList=r4.cps.toList++[c2]:=by rw[jv]
    unfold Nm Pe
    rw[e,e4']
    refine⟨by simp only[Kr,KZ,My]; omega,by simp only[Kr,KZ,My,Mf]; omega,fun d hd=>?_⟩
    rcases Kz.mp hd with hd | hd
    .rw[(Nu.mp hd).2]
     unfold small
     omega
    .rw[Km.mp hd]; exact hcs2
   have n5:Nm (Txt.join (Str.ofString "") row):=by
    unfold Nm Pe
    rw[yE,o1,hrl]
    exact⟨by decide,by decide,o2⟩
   refine⟨_,rfl,_,_,rfl,rfl,⟨by decide,by decide⟩,vh,_,c2,rfl,rfl,(by trivial),hc2,_,_,rfl,rfl,?_,?_⟩
   .show r4.length+1<=sizeLine
    exact KY (aH (by omega))
   refine⟨rfl,_,rfl,_,r,row,rfl,rfl,NX.of hr4,by trivial,by rw[o3,hrl]; decide,?_⟩
   refine⟨(by show 2<=sizeLine; decide),fun f2 nf2=>⟨f1,f2,_,_,rfl,rfl,(ao (aB hf4 nf2)).trans hf4,ag,(by show 3+2<=sizeLine; decide),fun f3 nf3=>?_⟩⟩
   have s5:=(ai.upd (o:= .lst [.str (r4++(⟨#[c2]⟩:Str)),.str (Txt.join (Str.ofString "") row)]) nf2).trans (ai.upd (o:= .lst ([.str ⟨#[c]⟩,.str ((r1++(⟨#[c]⟩:Str))++r2),.str r3]++[.str (r4++(⟨#[c2]⟩:Str)),.str (Txt.join (Str.ofString "") row)])) nf3)
   have hl5:=s5 _ _ hl4
   obtain⟨y,hy,hyn⟩: ∃y:Str,Ob ([.str ⟨#[c]⟩,.str ((r1++(⟨#[c]⟩:Str))++r2),.str r3]++[.str (r4++(⟨#[c2]⟩:Str)),.str (Txt.join (Str.ofString "") row)]:List V) (x % 5)=some (.str y)/\Nm y:=by
    have h:x % 5=0\/x % 5=1\/x % 5=2\/x % 5=3\/x % 5=4:=by omega
    rcases h with e | e | e | e | e <;> rw[e]
    .exact⟨_,rfl,n1⟩
    .exact⟨_,rfl,n2⟩
    .exact⟨_,rfl,n3⟩
    .exact⟨_,rfl,n4⟩
    .exact⟨_,rfl,n5⟩
   refine⟨_,rfl,.inl ⟨rfl,_,NX.of hl5⟩,_,rfl,_,rfl,_,_,rfl,rfl,(by show (0:Int) < 5; decide),f3,_,_,_,rfl,rfl,NX.of ag,hy,l,_,_,rfl,rfl,hl5,by rw[Kj,hyl]; exact aH (by omega),?_⟩
   refine nx1 _ _ ⟨ys++[y],_,_,_,_,rfl,(sr4.trans s5).cN nl,by rw[ag,KN]; rfl,by rw[Kr,hyl]; rfl,fun z hz=>?_⟩
   rcases Kz.mp hz with hz | hz
   .exact hnm z hz
   .rw[Km.mp hz]; exact hyn
  .rintro σ' H' ⟨ys,v5,v8,v9,v10,rfl,sm,hl,hyl,hnm⟩
   rw[cL] at hyl
   exact⟨_,rfl,q l ys H' nl sm hl hyl hnm⟩
def Eg (K:NY):Sp:=fun vs H Q _=> ∃(p d:Addr) (ys:List Str),vs=[.ref p,.ref d]/\H p=some (.lst (ys.map V.str))/\NX K H d (ys.map V.str)/\ys.length<=1000/\(∀y∈ys,y.length<=1000)/\Q (.bl true) H
theorem CD {ys:List Str}{i:Nat}(h:i < ys.length): ∃y,Ob (ys.map V.str) (i:Nat)=some (.str y)/\y∈ys:=⟨ys[i],cm (by rw[KD,Kl h]; rfl),LU h⟩
theorem C8 (T:Txt K mg a):N8 P w K mg base 1 "_law_texts" ["_law_found","_law_due_here"] (Eg K):=by
 refine bf T.oZ rC (fun _ _ _ _ _ _=>Oa fun _ _=>rfl) (fun vs H Q E h=>?_) fun f c A o s H vs Q E hr h=>?_
 .obtain⟨p,d,ys,rfl,_⟩:=h
  rfl
 .obtain⟨p,d,ys,rfl,hp,hd,hl,hyl,q⟩:=h
  refine⟨_,(ah (aK (PW.pt (ff (cS (ba (bz eD (by rfl) T.bW boot_isinstance (aa (pv 0) (aa (ft (v:= .ty "list") rfl T.i7 boot_list rfl) ae))) (fun _=>rfl))) (eV (aw gP (cB K T.bK (aa (pv 0) ae)) (cB K T.bK (aa (pv 1) ae)) (aA _))))) (aj (az eB)) aD)
   (ah (bP KL rfl (b6 rfl T.cE (aa (cB K T.bK (aa (pv 1) ae)) ae)) (aG (i:=2) rC.nd rfl (Or.inl rfl))
   (aj (aK (PW.pt (ff (cS (ba (bz eD (by rfl) T.bW boot_isinstance (aa (N2 K (pv 0) (pv 2)) (aa (ft (v:= .ty "str") rfl T.tq boot_str rfl) ae))) (fun _=>rfl))) (eV (aw gP (N2 K (pv 0) (pv 2)) (N2 K (pv 1) (pv 2)) (aA _))))) (aj (az eB)) aD)))
   (aj (az eB)))),?_⟩
  refine⟨_,rfl,_,"list",true,rfl,.inl ⟨⟨_,NX.of hp⟩,.inl ⟨rfl,rfl⟩⟩,_,rfl,aM ?_⟩
  refine⟨_,rfl,_,_,rfl,.inl ⟨_,NX.of hp,rfl⟩,_,rfl,_,_,rfl,.inl ⟨_,hd,rfl⟩,rfl,_,rfl,?_⟩
  rw[show (!decide (V.int ((ys.map V.str).length:Nat)=V.int ((ys.map V.str).length:Nat)))=false from by simp]
  refine aM ?_
  refine⟨_,rfl,_,_,rfl,.inl ⟨_,hd,rfl⟩,_,rfl,by omega,by rw[Kj]; omega,?_⟩
  rw[KO,Kj]
  refine cK (xs:=cw 0 ys.length) (fun i σ' H'=> ∃v2:Option V,σ'=[some (.ref p),some (.ref d),v2]/\H'=H) ⟨none,rfl,rfl⟩ (fun i σ' H' _ _=>cG) ?_ ?_
  .rintro i x σ' H' hi ⟨v2,rfl,rfl⟩
   obtain⟨hin,rfl⟩:=cj hi
   have ei:(0+(i:Nat):Int)=(i:Nat):=by omega
   rw[ei]
   obtain⟨y,hy,_⟩:=CD hin
   refine⟨_,rfl,_,rfl,p,_,_,_,rfl,rfl,NX.of hp,hy,_,"str",true,rfl,.inl ⟨rfl,rfl⟩,_,rfl,aM ?_⟩
   refine⟨_,rfl,_,rfl,p,_,_,_,rfl,rfl,NX.of hp,hy,_,rfl,_,rfl,d,_,_,_,rfl,rfl,hd,hy,rfl,_,rfl,?_⟩
   rw[show (!decide (V.str y=V.str y))=false from by simp]
   exact aM ⟨_,rfl,rfl⟩
  .rintro σ' H' ⟨v2,rfl,rfl⟩
   exact q
theorem Pl (a b:Nat):decide (([a]:List Nat) < [b])=decide (a < b):=by
 rw[NP]
 constructor
 .intro h
  cases h with
  | rel h=>exact h
  | cons h=>cases h
 .exact fun h=> .rel h
def sA:Str:= "a"
def sZ:Str:= "z"
theorem Gx:sA.cps.toList=[97]:=by trivial
theorem Ht:sZ.cps.toList=[122]:=by trivial
def txt (cs:List Nat):Str:=⟨cs.toArray⟩
theorem Ff (cs:List Nat):(txt cs).cps.toList=cs:=by simp[txt]
theorem zV (cs:List Nat):(txt cs).length=cs.length:=by simp[txt,Str.length]
def BH (K:NY):Sp:=fun vs H Q _=> ∃(n lo hi:Int) (a:Addr),vs=[.int n,.ref a]/\N1 K H a [.int lo,.int hi]/\Q (.bl (decide (lo<=n) && decide (n<=hi))) H
def DN:Sp:=fun vs H Q _=> ∃c:Nat,vs=[.str ⟨#[c]⟩]/\Q (.bl (ic c)) H
def ER:Sp:=fun vs H Q _=> ∃cs:List Nat,vs=[.str (txt cs)]/\cs.length<=1000/\ ∀H',ai H H'->Q (.bl (cW cs)) H'
theorem se (T:Txt K mg a):N8 P w K mg base 1 "inside" ["number","span"] (BH K):=by
 refine bf T.ub Cp (fun _ _ _ _ _ _=>Oa fun _ _=>rfl) (fun vs H Q E h=>?_) fun f c A o s H vs Q E hr h=>?_
 .obtain⟨n,lo,hi,a,rfl,_⟩:=h
  rfl
 .obtain⟨n,lo,hi,a,rfl,hq,q⟩:=h
  refine⟨_,(aj (az (yt Ez Ez (NZ K (pv 1) af) (pv 0) (NZ K (pv 1) af)))),?_⟩
  refine⟨_,rfl,a,_,_,_,rfl,rfl,hq,rfl,_,rfl,_,_,rfl,rfl,_,rfl,?_⟩
  refine bF (fun h1=>?_) (fun h1=>?_)
  .refine⟨_,rfl,a,_,_,_,rfl,rfl,hq,rfl,_,_,rfl,rfl,?_⟩
   rw[h1,Bool.true_and] at q
   exact q
  .rw[K6] at h1
   rw[h1,Nn] at q
   exact q
theorem uL (T:Txt K mg a):N8 P w K mg base 1 "small_letter" ["sign"] DN:=by
 refine bf T.kQ uW (fun _ _ _ _ _ _=>Ov fun _=>rfl) (fun vs H Q E h=>?_) fun f c A o s H vs Q E hr h=>?_
 .obtain⟨c,rfl,_⟩:=h
  rfl
 .obtain⟨c,rfl,q⟩:=h
  refine⟨_,(aj (az (yt wo wo aF (pv 0) aF))),?_⟩
  have e1:(!decide ((⟨#[c]⟩:Str).cps.toList < sA.cps.toList))=decide (97<=c):=by
   rw[Gx]
   show (!decide ([c] < [97]))=_
   rw[Pl,<-decide_not,NP]
   omega
  have e2:(!decide (sZ.cps.toList < (⟨#[c]⟩:Str).cps.toList))=decide (c<=122):=by
   rw[Ht]
   show (!decide ([122] < [c]))=_
   rw[Pl,<-decide_not,NP]
   omega
  refine⟨_,rfl,sA,_,rfl,rfl,_,rfl,?_⟩
  rw[e1]
  refine bF (fun h1=>?_) (fun h1=>?_)
  .refine⟨_,sZ,rfl,rfl,?_⟩
   rw[e2]
   unfold ic at q
   rw[h1,Bool.true_and] at q
   exact q
  .rw[K6] at h1
   unfold ic at q
   rw[h1,Nn] at q
   exact q
theorem x5 (T:Txt K mg a):N8 P w K mg base 2 "good_name" ["text"] ER:=by
 have jd:=@se P w K mg base a T
 have vW:=@uL P w K mg base a T
 refine bf T.oU xO (fun _ _ _ _ _ _=>Ov fun _=>rfl) (fun vs H Q E h=>?_) fun f c A o s H vs Q E hr h=>?_
 .obtain⟨cs,rfl,_⟩:=h
  rfl
 .obtain⟨cs,rfl,hz,q⟩:=h
  refine⟨_,(aj (az (nY (sP (aJ jd hr.z (aa (cB K T.bK (aa (pv 0) ae)) (aa (mQ T.nJ) ae))) (rH (bz (Dx rfl) (by rfl) T.A1 boot_all (aa (cM (psc:=aq lh) (own:=["sign"]) (frn:=[]) (fr:=[]) (by exact⟨rfl,by trivial,by trivial,by trivial,by trivial,by trivial⟩) rfl rfl rfl (bG (by decide:0 < 1)) (Gf (pv 0))
    (fun C s2 H2 fp=>⟨(aG (i:=0) (show (["sign"]:List Str).Nodup by trivial) rfl (Or.inl rfl)),dD,(aJ vW hr.z (aa (pv 0) ae))⟩)) ae))))))),?_⟩
  have hl:(txt cs).length<=sizeLine:=by rw[zV]; exact KY (rM hz)
  refine⟨Q,?_,fun _ _ z=>z⟩
  refine⟨_,rfl,_,_,rfl,⟨hl,rfl⟩,fun a ha=>?_⟩
  refine⟨_,1,8,a,rfl,ha _,_,rfl,?_⟩
  rw[zV]
  refine bF (fun h1=>?_) (fun h1=>?_)
  .refine⟨_,rfl,_,rfl,?_⟩
   have ec:lJ (txt cs)=cs.map fun c=>V.str ⟨#[c]⟩:=by unfold lJ; rw[Ff]
   refine BX (xs:=lJ (txt cs)) Gb (fun v=>match v with | .str z=> .bl (ic (z.cps.getD 0 0)) | _=> .bl false) (by rw[ec,Kj]; exact rM hz) (fun x hx R hR=>?_) (fun p hp=>?_)
   .rw[ec] at hx
    obtain⟨c,_,rfl⟩:=Lx.mp hx
    exact⟨_,rfl,c,rfl,hR⟩
   .refine⟨p,cs.map ic,rfl,NX.of ?_,?_⟩
    .rw[ag,ec,L1,L1]
     rfl
    .have e:(cs.map ic).all id=cs.all ic:=by rw[NO]; rfl
     rw[e]
     have q':=q (upd H p (.lst ((lJ (txt cs)).map (fun v=>match v with | .str z=> .bl (ic (z.cps.getD 0 0)) | _=> .bl false)))) fun b o hb=>by
      rw[ao (aB hb hp)]
      exact hb
     unfold cW at q'
     rw[h1,Bool.true_and] at q'
     exact q'
  .have q':=q H (ai.refl H)
   rw[K6] at h1
   unfold cW at q'
   rw[h1,Nn] at q'
   exact q'
theorem Gi (y:Str):txt y.cps.toList=y:=by simp[txt]
theorem cX (x:Str): ∀ms:List Str,Of (.str x) (ms.map V.str)=decide (x∈ms)
 | []=>by simp[Of]
 | m::ms=>by
  have:=cX x ms
  unfold Of at this ⊢
  rw[Lg,LR,this]
  show (m == x || decide (x∈ms))=decide (x∈m::ms)
  by_cases e:m=x
  .subst e; simp
  .have e': ¬x=m:=fun z=>e z.symm
   simp[e,e']
theorem ck: ∀ms:List Str,(ms.map V.str).all bZ=true
 | []=>rfl
 | m::ms=>by rw[Lg,Ny,ck ms]; rfl
theorem ig {y:Str}: ∀ {ys:List Str},y∈ys-> ∃j:Nat,ys[j]?=some y/\ ∀m,m < j->ys[m]?≠some y
 | [],h=>by cases h
 | z::ys,h=>by
  by_cases e:z=y
  .subst e
   exact⟨0,rfl,fun m hm=>absurd hm (LC _)⟩
  .obtain⟨j,a,b⟩:=ig ((Ks.mp h).resolve_left fun q=>e q.symm)
   refine⟨j+1,a,fun m hm=>?_⟩
   cases m with
   | zero=>exact fun q=>e (KJ q)
   | succ m=>exact b m (by omega)
theorem uG (xs:List V) (k:Nat):qQ xs none (some (k:Nat))=xs.take k:=by
 unfold qQ
 rw[HT.zA]
 show (xs.drop 0).take (min k xs.length - 0)=xs.take k
 rw[List.drop_zero,Nat.sub_zero]
 by_cases h:k<=xs.length
 .rw[NS h]
 .rw[Nat.min_eq_right (by omega),K5,LO (by omega)]
theorem qM (xs:List V) (k:Nat):qQ xs (some (k:Nat)) none=xs.drop k:=by
 unfold qQ
 rw[HT.zA]
 show (xs.drop (min k xs.length)).take (xs.length - min k xs.length)=xs.drop k
 by_cases h:k<=xs.length
 .rw[NS h]
  exact LO (by rw[Ls]; exact Kn _)
 .rw[Nat.min_eq_right (by omega),List.drop_length,List.drop_eq_nil_of_le (by omega)]
  exact MY
def tN (K:NY) (a:Adr):Sp:=fun vs H Q E=> ∃(y:Str) (p:Addr) (ys:List Str),vs=[.str y,.ref p]/\NX K H p (ys.map V.str)/\(y∈ys->Q .non H)/\(y∉ys->E (.ref a.Unknown) none H)
theorem iE (T:Txt K mg a):OV P w K mg base 1 "refuse_unknown" ["name","names"] (tN K a):=by
 refine og T.jq tR (fun _ _ _ _ _ _=>Oa fun _ _=>rfl) (fun vs H Q E h=>?_) fun f c A o s H vs Q E hr h=>?_
 .obtain⟨y,p,ys,rfl,_⟩:=h
  rfl
 .obtain⟨y,p,ys,rfl,hp,q,e⟩:=h
  refine⟨_,(aj (aK (aw (show N7 _ _ (OH K true) from ip) (pv 0) (pv 1) (by with_unfolding_all rfl)) (aj (eC T.fZ rfl (aa aF ae))) aD)),?_⟩
  by_cases hm:y∈ys
  .exact⟨_,rfl,_,rfl,p,_,rfl,.inl hp,rfl,ck ys,false,Lm V.bl (by show (!Of (.str y) (ys.map V.str))=false; rw[cX,KI hm]; rfl),aM (q hm)⟩
  .exact⟨_,rfl,_,rfl,p,_,rfl,.inl hp,rfl,ck ys,true,Lm V.bl (by show (!Of (.str y) (ys.map V.str))=true; rw[cX,KH hm]; rfl),aZ ⟨by decide,e hm⟩⟩
def y4 (a:Adr):Sp:=fun vs H Q E=> ∃(y:Str) (p:Addr) (ys:List Str),vs=[.str y,.ref p]/\H p=some (.lst (ys.map V.str))/\(∀j:Nat,ys[j]?=some y->(∀m,m < j->ys[m]?≠some y)->Q (.int (j:Nat)) H)/\(y∉ys->E (.ref a.Unknown) none H)
theorem iY (T:Txt K mg a):OV P w K mg base 2 "place_of" ["name","names"] (y4 a):=by
 have dU:=@iE P w K mg base a T
 refine og T.p8 yN (fun _ _ _ _ _ _=>Oa fun _ _=>rfl) (fun vs H Q E h=>?_) fun f c A o s H vs Q E hr h=>?_
 .obtain⟨y,p,ys,rfl,_⟩:=h
  rfl
 .obtain⟨y,p,ys,rfl,hp,q,e⟩:=h
  refine⟨_,(ah (aU (bu dU hr.z (aa (pv 0) (aa (pv 1) ae))))
   (aj (az (show PE _ _ (Oh K _ _ _ _) from cz Kw LH LI lN (pv 1) (aa (pv 0) ae))))),?_⟩
  refine⟨_,rfl,_,rfl,y,p,ys,rfl,NX.of hp,fun hm=>?_,e⟩
  obtain⟨j,j1,j2⟩:=ig hm
  exact⟨_,rfl,.inl ⟨rfl,_,NX.of hp⟩,_,rfl,p,ys,y,j,rfl,rfl,hp,j1,j2,q j j1 j2⟩
def wX (K:NY) (a:Adr):Sp:=fun vs H Q E=> ∃(y:Str) (p:Addr) (ys:List Str),vs=[.str y,.ref p]/\NX K H p (ys.map V.str)/\y.cps.toList.length<=1000/\(y∈ys->E (.ref a.InUse) none H)/\ ∀H',ai H H'->y∉ys->(cW y.cps.toList=true->Q .non H')/\(cW y.cps.toList=false->E (.ref a.BadName) none H')
theorem h9 (T:Txt K mg a):OV P w K mg base 3 "refuse_new_name" ["name","names"] (wX K a):=by
 have yR:=@x5 P w K mg base a T
 refine og T.iR sf (fun _ _ _ _ _ _=>Oa fun _ _=>rfl) (fun vs H Q E h=>?_) fun f c A o s H vs Q E hr h=>?_
 .obtain⟨y,p,ys,rfl,_⟩:=h
  rfl
 .obtain⟨y,p,ys,rfl,hp,hy,e1,q⟩:=h
  refine⟨_,(ah (aK (aw (show N7 _ _ (OH K false) from hE) (pv 0) (pv 1) (by with_unfolding_all rfl)) (aj (eC T.jA rfl (aa aF ae))) aD)
   (aj (aK (cS (ba (bu yR.x hr.z (aa (pv 0) ae)) (fun _=>rfl))) (aj (eC T.sU rfl (aa aF ae))) aD))),?_⟩
  by_cases hm:y∈ys
  .exact⟨_,rfl,_,rfl,p,_,rfl,.inl hp,rfl,ck ys,true,Lm V.bl ((cX y ys).trans (KI hm)),aZ ⟨by decide,e1 hm⟩⟩
  .refine⟨_,rfl,_,rfl,p,_,rfl,.inl hp,rfl,ck ys,false,Lm V.bl ((cX y ys).trans (KH hm)),aM ?_⟩
   refine⟨_,rfl,y.cps.toList,by rw[Gi]; rfl,hy,fun H1 s1=>⟨_,rfl,?_⟩⟩
   cases e:cW y.cps.toList with
   | true=>exact aM ((q H1 s1 hm).1 e)
   | false=>exact aZ ⟨by decide,(q H1 s1 hm).2 e⟩
def vO (a:Adr):Sp:=fun vs H Q E=> ∃c m:Int,vs=[.int c,.int m]/\(c < m->Q .non H)/\(m<=c->E (.ref a.Full) none H)
theorem kT (T:Txt K mg a):OV P w K mg base 1 "refuse_full" ["count","most"] (vO a):=by
 refine og T.lZ vM (fun _ _ _ _ _ _=>Oa fun _ _=>rfl) (fun vs H Q E h=>?_) fun f c A o s H vs Q E hr h=>?_
 .obtain⟨c,m,rfl,_⟩:=h
  rfl
 .obtain⟨c,m,rfl,q,e⟩:=h
  refine⟨_,(aj (aK (aw xg (pv 0) (pv 1) (aA _)) (aj (eC T.lD rfl (aa aF ae))) aD)),?_⟩
  refine⟨_,rfl,_,rfl,_,_,rfl,rfl,_,rfl,?_⟩
  refine bF (fun z=>⟨by decide,e (KQ z)⟩) (fun z=>q ?_)
  have:=Ld (K6 _▸z)
  omega
def xM (C:Addr):Sp:=fun vs H Q _=> ∃(h dx:Addr),vs=[.ref h]/\H h=some (.ins C dx [])/\H dx=some (.own h)/\ ∀(os:List Addr) (H':Hp),(∀b o,b≠h->b≠dx->H b=some o->H' b=some o)->HI C H' h os ⟨[],[],[]⟩->(∀b∈os,b=h\/b=dx\/H b=none)->Q .non H'
theorem wN (T:Txt K mg a):OY P w K mg base 1 a.House "__init__" ["self"] (xM a.House):=by
 refine jO T.nz wR (fun _ _ _ _ _ _=>Ov fun _=>rfl) (fun vs H Q E h=>?_) fun f c A o s H vs Q E hr h=>?_
 .obtain⟨h,dx,rfl,_⟩:=h
  rfl
 .obtain⟨h,dx,rfl,hh,hd,q⟩:=h
  refine⟨_,(ah (i4 (pv 0) (aQ ae) rfl)
   (ah (i4 (pv 0) (aQ ae) rfl)
   (aj (i4 (pv 0) (aQ ae) rfl)))),?_⟩
  have hd1:dx≠h:=fun z=>by rw[z,hh] at hd; cases hd
  refine⟨by decide,fun p np=>⟨_,rfl,h,a.House,dx,[],rfl,ai.upd np _ _ hh,T.au.cl,T.aL,by decide,?_⟩⟩
  have ph:p≠h:=(aB hh np).symm
  have pd:p≠dx:=(aB hd np).symm
  refine⟨by decide,fun q1 nq=>?_⟩
  have qh:q1≠h:=fun z=>by rw[z,ag] at nq; cases nq
  rw[ao qh] at nq
  have qp:q1≠p:=fun z=>by rw[z,ag] at nq; cases nq
  rw[ao qp] at nq
  have qd:q1≠dx:=(aB hd nq).symm
  refine⟨_,rfl,h,a.House,dx,[("member_rows",.ref p)],rfl,(ao (KW qh)).trans ag,T.au.cl,T.aW,(by show 1 < 1000; decide),?_⟩
  refine⟨by decide,fun r nr=>?_⟩
  have rh:r≠h:=fun z=>by rw[z,ag] at nr; cases nr
  rw[ao rh] at nr
  have rq:r≠q1:=fun z=>by rw[z,ag] at nr; cases nr
  rw[ao rq,ao rh] at nr
  have rp:r≠p:=fun z=>by rw[z,ag] at nr; cases nr
  rw[ao rp] at nr
  have rd:r≠dx:=(aB hd nr).symm
  refine⟨_,rfl,h,a.House,dx,[("member_rows",.ref p),("demand_rows",.ref q1)],rfl,?_,T.au.cl,T.cI,(by show 2 < 1000; decide),?_⟩
  .rw[ao (KW rh),ag,mV (by trivial)]
   rfl
  refine q [h,dx,r,p,q1] _ (fun b o b1 b2 e=>?_) ⟨dx,p,q1,r,[p,q1],[],rfl,hd1,rh,rd,?_,?_,?_,?_,?_,?_,.nil,?_,?_,?_⟩ fun b hb=>?_
  .have b3:b≠p:=aB e np
   have b4:b≠q1:=aB e nq
   have b5:b≠r:=aB e nr
   rw[ao b1,ao b5,ao b1,ao b4,ao b1,ao b3]
   exact e
  .simp only[Ks,K8,L8,not_or]
   exact⟨KW ph,KW qh⟩
  .simp only[Ks,K8,L8,not_or]
   exact⟨KW pd,KW qd⟩
  .simp only[Ks,K8,L8,not_or]
   exact⟨rp,rq⟩
  .rw[ag,mV (by trivial),mV (by trivial)]
   rfl
  .rw[ao hd1,ao (KW rd),ao hd1,ao (KW qd),ao hd1,ao (KW pd)]
   exact hd
  .rw[ao rh,ag]
  .refine⟨by simp,[],?_,.nil⟩
   rw[ao ph,ao (KW rp),ao ph,ao (KW qp),ao ph,ag]
  .refine⟨by simp,[],?_,.nil⟩
   rw[ao qh,ao (KW rq),ao qh,ag]
  .intro b hb
   simp only[Ks,K8,L8] at hb
   rcases hb with rfl | rfl
   .exact⟨_,by rw[ao ph,ao (KW rp),ao ph,ao (KW qp),ao ph,ag]⟩
   .exact⟨_,by rw[ao qh,ao (KW rq),ao qh,ag]⟩
  .simp only[Ks,K8,L8] at hb
   rcases hb with rfl | rfl | rfl | rfl | rfl
   .exact .inl rfl
   .exact .inr (.inl rfl)
   .exact .inr (.inr nr)
   .exact .inr (.inr np)
   .exact .inr (.inr nq)
def Aq (C:Addr):Sp:=fun vs H Q _=> ∃(h:Addr) (os:List Addr) (S:N3),vs=[.ref h]/\HI C H h os S/\S.ms.length<=100/\ ∀(p:Addr) (H':Hp),H p=none->ai H H'->H' p=some (.lst ((aI S).map V.str))->Q (.ref p) H'
theorem bO (T:Txt K mg a):OY P w K mg base 1 a.House "members" ["self"] (Aq a.House):=by
 refine jO T.jH uF (fun _ _ _ _ _ _=>Ov fun _=>rfl) (fun vs H Q E h=>?_) fun f c A o s H vs Q E hr h=>?_
 .obtain⟨h,os,S,rfl,_⟩:=h
  rfl
 .obtain⟨h,os,S,rfl,⟨dx,p,q0,r,is,kv,rfl,I⟩,hl,q⟩:=h
  obtain⟨pi,xs,hp,hX⟩:=I.ms
  have xl:=hX.length
  refine⟨_,(aj (az (cM (psc:=aq gM) (own:=["row"]) (frn:=[]) (fr:=[]) (by exact⟨rfl,by trivial,by trivial,by trivial,by trivial,by trivial⟩) rfl rfl rfl (bG (by decide:0 < 1)) (bC (bH (pv 0) rfl))
    (fun C s2 H2 fp=>⟨(aG (i:=0) (show (["row"]:List Str).Nodup by trivial) rfl (Or.inl rfl)),dD,(NZ K (pv 0) af)⟩)))),?_⟩
  refine⟨_,rfl,h,a.House,dx,_,.ref p,rfl,I.ih,T.au.cl,T.aL,by (repeat (first | exact bw | refine (bt (by trivial)).trans ?_)),p,rfl,⟨_,NX.of hp⟩,?_⟩
  refine b8 (xs:=xs) (fun i ys H'=>H'=H/\ys=(S.ms.take i).map fun m=>V.str m.1) (fun i ys H' _ h=>by rw[h.1]; exact bq (NX.of hp)) ⟨rfl,rfl⟩ (aH (by omega)) (fun i ys H' h=>by rw[h.2,Kj,K4]; exact LD _ _) ?_ ?_
  .rintro i ys H2 x hi ⟨rfl,rfl⟩
   obtain⟨m,hm,t,rfl,_,ht⟩:=hX.get hi
   dsimp only[aY,gN]
   refine aZ ⟨_,rfl,t,_,_,_,rfl,rfl,N1.of ht,rfl,rfl,?_⟩
   rw[La,hm,KN]
   rfl
  .rintro ys H2 p2 ⟨rfl,rfl⟩ np
   refine q p2 _ np (ai.upd np) ?_
   rw[ag,xl,K5]
   unfold aI
   rw[L1]
   rfl
def FD (a:Adr):Sp:=fun vs H Q E=> ∃(h dx p q r:Addr) (is:List Addr) (kv:List V) (S:N3),vs=[.ref h]/\Od a.House H h dx p q r is kv S/\S.ks.length<=150/\(150<=S.ks.length->E (.ref a.Full) none H)/\(S.ks.length < 150-> ∀t,H t=none->Q .non (upd (upd H t (.tup [.ref p,.ref q])) r (.lst (kv++[.ref t]))))
theorem el (T:Txt K mg a):OC P w K mg base 2 a.House "keep_deed" ["self"] (FD a):=by
 have gy:=@kT P w K mg base a T
 refine eG T.iI sy (fun _ _ _ _ _ _=>Ov fun _=>rfl) (fun vs H Q E h=>?_) fun f c A o s H vs Q E hr h=>?_
 .obtain⟨h,dx,p,q0,r,is,kv,S,rfl,_⟩:=h
  rfl
 .obtain⟨h,dx,p,q0,r,is,kv,S,rfl,I,hl,e,q⟩:=h
  have kl:=I.ks.length
  refine⟨_,(ah (aU (bu gy hr.z (aa (cB K T.bK (aa (bH (pv 0) rfl) ae)) (aa (ku T.om) ae))))
   (aj (aU (show PE _ _ (Oh K _ _ _ _) from cz Kw KR KS bS (bH (pv 0) rfl) (aa (bM (aa (bH (pv 0) rfl) (aa (bH (pv 0) rfl) ae))) ae))))),?_⟩
  refine⟨_,rfl,h,a.House,dx,_,.ref r,rfl,I.ih,T.au.cl,T.cI,by (repeat (first | exact bw | refine (bt (by trivial)).trans ?_)),_,_,rfl,.inl ⟨_,NX.of I.ir,rfl⟩,_,_,rfl,fun z=>?_,fun z=>e (by omega)⟩
  refine⟨_,rfl,h,a.House,dx,_,.ref r,rfl,I.ih,T.au.cl,T.cI,by (repeat (first | exact bw | refine (bt (by trivial)).trans ?_)),.inl ⟨rfl,_,NX.of I.ir⟩,_,rfl,h,a.House,dx,_,.ref p,rfl,I.ih,T.au.cl,T.aL,by (repeat (first | exact bw | refine (bt (by trivial)).trans ?_)),_,rfl,h,a.House,dx,_,.ref q0,rfl,I.ih,T.au.cl,T.aW,by (repeat (first | exact bw | refine (bt (by trivial)).trans ?_)),(by show 2<=sizeLine; decide),fun t nt=>?_⟩
  refine⟨r,_,_,rfl,rfl,(ao (aB I.ir nt)).trans I.ir,aH (by omega),?_⟩
  exact q (by omega) t nt
def wY (a:Adr):Sp:=fun vs H Q E=> ∃(h:Addr) (os:List Addr) (S:N3) (y:Str),vs=[.ref h,.str y]/\HI a.House H h os S/\y.cps.toList.length<=1000/\S.ms.length<=12/\S.ks.length<=150 /\
 (∀H',ai H H'->y∈aI S->E (.ref a.InUse) none H')/\(∀H',ai H H'->y∉aI S->cW y.cps.toList=false->E (.ref a.BadName) none H') /\
 (∀H',ai H H'->y∉aI S->cW y.cps.toList=true->(12<=S.ms.length\/150<=S.ks.length)->E (.ref a.Full) none H') /\
 (∀H',y∉aI S->cW y.cps.toList=true->S.ms.length < 12->S.ks.length < 150->dY a.House H h os ⟨S.ms++[(y,none)],S.ds,S.ks++[(S.ms,S.ds)]⟩ H'->Q .non H')
theorem rf (T:Txt K mg a):OC P w K mg base 4 a.House "add_member" ["self","name"] (wY a):=by
 have eF:=@h9 P w K mg base a T
 have gy:=@kT P w K mg base a T
 have aR:=@bO P w K mg base a T
 have b7:=@el P w K mg base a T
 refine eG T.g0 ra (fun _ _ _ _ _ _=>Oa fun _ _=>rfl) (fun vs H Q E h=>?_) fun f c A o s H vs Q E hr h=>?_
 .obtain⟨h,os,S,y,rfl,_⟩:=h
  rfl
 .obtain⟨h,os,S,y,rfl,hI,hy,hml,hkl,e1,e2,e3,q⟩:=h
  have hI0:=hI
  obtain⟨dx,p,q0,r,is,kv,rfl,I⟩:=hI
  refine⟨_,(ah (aU (bu eF hr.z (aa (pv 1) (aa (bc T.au.cl aR.x hr.z (pv 0)) ae))))
   (ah (aU (bu gy hr.z (aa (cB K T.bK (aa (bH (pv 0) rfl) ae)) (aa (ku T.kF) ae))))
   (ah (aU (bc T.au.cl b7 hr.z (pv 0)))
   (aj (i4 (pv 0) (ay eE (bH (pv 0) rfl) (aQ (aa (bM (aa (pv 1) (aa bJ ae))) ae))) rfl))))),?_⟩
  refine⟨_,rfl,_,rfl,h,dx,_,rfl,I.ih,N6,h,_,S,rfl,hI0,by omega,fun pm H1 npm s1 hpm=>?_⟩
  refine⟨y,pm,aI S,rfl,NX.of hpm,hy,fun hm=>e1 H1 s1 hm,fun H2 s2 hm=>⟨fun hg=>?_,fun hb=>e2 H2 (s1.trans s2) hm hb⟩⟩
  have s12:=s1.trans s2
  have I2:=I.same s12
  obtain⟨pi,xs,hp,hX⟩:=I2.ms
  have xl:=hX.length
  refine⟨_,rfl,h,a.House,dx,_,.ref p,rfl,I2.ih,T.au.cl,T.aL,by (repeat (first | exact bw | refine (bt (by trivial)).trans ?_)),_,_,rfl,.inl ⟨_,NX.of hp,rfl⟩,_,_,rfl,fun z=>?_,fun z=>e3 H2 s12 hm hg (.inl (by omega))⟩
  refine⟨_,rfl,h,dx,_,rfl,I2.ih,N6,h,dx,p,q0,r,is,kv,S,rfl,I2,hkl,fun z=>e3 H2 s12 hm hg (.inr z),fun z2 t nt=>?_⟩
  have I3:=I2.keep nt
  have hp3:(upd (upd H2 t (.tup [.ref p,.ref q0])) r (.lst (kv++[.ref t]))) p=some (.lst xs):=(ao (I2.sh pi).2.2).trans ((ao (aB hp nt)).trans hp)
  refine⟨_,rfl,h,a.House,dx,_,.ref p,rfl,I3.ih,T.au.cl,T.aL,by (repeat (first | exact bw | refine (bt (by trivial)).trans ?_)),_,rfl,(by show 2<=sizeLine; decide),fun t2 nt2=>⟨(by show 1<=sizeLine; decide),fun l nl=>?_⟩⟩
  have st:=ai.upd (o:= .tup [.str y,.non]) nt2
  have sl:=ai.upd (o:= .lst [.ref t2]) nl
  refine⟨p,l,_,_,rfl,rfl,(st.trans sl) _ _ hp3,ag,by rw[xl]; exact KY (aH (by show S.ms.length+1<=1000; omega)),fun p' np'=>?_⟩
  have s4:=(st.trans sl).trans (ai.upd (o:= .lst (xs++[.ref t2])) np')
  have ht2:=(sl.trans (ai.upd (o:= .lst (xs++[.ref t2])) np')) _ _ (ag (H:=(upd (upd H2 t (.tup [.ref p,.ref q0])) r (.lst (kv++[.ref t])))) (a:=t2) (o:= .tup [.str y,.non]))
  have hp4:(upd (upd (upd (upd (upd H2 t (.tup [.ref p,.ref q0])) r (.lst (kv++[.ref t]))) t2 (.tup [.str y,.non])) l (.lst [.ref t2])) p' (.lst (xs++[.ref t2]))) p'=some (.lst (xs++[.ref t2])):=ag
  have np3:=(st.trans sl).free np'
  refine⟨_,rfl,h,a.House,dx,_,rfl,s4 _ _ I3.ih,T.au.cl,T.aL,(by show 3 < 1000; decide),?_⟩
  rw[kX]
  generalize upd (upd (upd (upd (upd H2 t (.tup [.ref p,.ref q0])) r (.lst (kv++[.ref t]))) t2 (.tup [.str y,.non])) l (.lst [.ref t2])) p' (.lst (xs++[.ref t2]))=H4 at s4 ht2 hp4
  refine q _ hm hg (by omega) z2 (I.A9 s12 nt s4 (tG s12 nt np3) hp4 (F2.append ?_ (.cons ⟨t2,rfl,.inr (tG s12 nt nt2),ht2⟩ .nil)))
  refine hX.imp fun v m ⟨b,e,bi,hb⟩=>⟨b,e,.inl bi,s4 _ _ ((ao (I2.sh bi).2.2).trans ((ao (aB hb nt)).trans hb))⟩
def bound (y:Str) (ds:List N9):Bool:=ds.any fun d=>decide (d.2.1=y) || decide (d.2.2.1=some y)
def ui (a:Adr):Sp:=fun vs H Q E=> ∃(h:Addr) (os:List Addr) (S:N3) (y:Str),vs=[.ref h,.str y]/\HI a.House H h os S/\S.ms.length<=12/\S.ds.length<=24/\S.ks.length<=150 /\
 (∀H',ai H H'->y∉aI S->E (.ref a.Unknown) none H')/\(∀H',ai H H'->y∈aI S->bound y S.ds=true->E (.ref a.InUse) none H') /\
 (∀H',ai H H'->y∈aI S->bound y S.ds=false->150<=S.ks.length->E (.ref a.Full) none H') /\
 (∀(H':Hp) (j:Nat),(aI S)[j]?=some y->(∀m,m < j->(aI S)[m]?≠some y)->bound y S.ds=false->S.ks.length < 150->dY a.House H h os ⟨S.ms.take j++S.ms.drop (j+1),S.ds,S.ks++[(S.ms,S.ds)]⟩ H'->Q .non H')
theorem o9 (T:Txt K mg a):OC P w K mg base 4 a.House "strike_member" ["self","name"] (ui a):=by
 have eM:=@iY P w K mg base a T
 have aR:=@bO P w K mg base a T
 have b7:=@el P w K mg base a T
 refine eG T.fP iX (fun _ _ _ _ _ _=>Oa fun _ _=>rfl) (fun vs H Q E h=>?_) fun f c A o s H vs Q E hr h=>?_
 .obtain⟨h,os,S,y,rfl,_⟩:=h
  rfl
 .obtain⟨h,os,S,y,rfl,hI,hml,hdl,hkl,e1,e2,e3,q⟩:=h
  have hI0:=hI
  obtain⟨dx,p,q0,r,is,kv,rfl,I⟩:=hI
  refine⟨_,(ah (ax (i:=2) iX.nd rfl (Or.inl rfl) (bu eM hr.z (aa (pv 1) (aa (bc T.au.cl aR.x hr.z (pv 0)) ae))))
   (ah (aK (ba (bz (El rfl) (by rfl) T.Bc boot_any (aa (cM (psc:=aq eA) (own:=["row"]) (frn:=["name"]) (fr:=[1]) (by exact⟨rfl,by trivial,by trivial,by trivial,by trivial,by trivial⟩) rfl rfl rfl (bG (by decide:0 < 1)) (bC (bH (pv 0) rfl))
    (fun C s2 H2 fp=>⟨(aG (i:=0) (show (["row","name"]:List Str).Nodup by trivial) rfl (Or.inl rfl)),dD,(dX (show N7 _ _ (OH K false) from hE) (pv 1) (bM (aa (NZ K (pv 0) af) (aa (NZ K (pv 0) af) ae))) (by with_unfolding_all rfl))⟩)) ae)) (fun _=>rfl)) (aj (eC T.jA rfl (aa aF ae))) aD)
   (ah (aU (bc T.au.cl b7 hr.z (pv 0)))
   (aj (i4 (pv 0) (ay eE (fK (show OT _ (qc K) from jx) (bH (pv 0) rfl) gC (gB (pv 2))) (fK (show OT _ (qc K) from jx) (bH (pv 0) rfl) (gB (ay bN (pv 2) af)) gC)) rfl))))),?_⟩
  refine⟨_,rfl,_,rfl,h,dx,_,rfl,I.ih,N6,h,_,S,rfl,hI0,by omega,fun pm H1 npm s1 hpm=>?_⟩
  refine⟨y,pm,aI S,rfl,hpm,fun j hj hjm=>?_,fun hm=>e1 H1 s1 hm⟩
  have hm:y∈aI S:=Kp hj
  have I1:=I.same s1
  obtain⟨qi,ys,hq,hY⟩:=I1.ds
  have yl:=hY.length
  refine⟨_,rfl,h,a.House,dx,_,.ref q0,rfl,I1.ih,T.au.cl,T.aW,by (repeat (first | exact bw | refine (bt (by trivial)).trans ?_)),q0,rfl,⟨_,NX.of hq⟩,?_⟩
  refine b8 (xs:=ys) (fun i zs H'=>ai H1 H'/\zs=(S.ds.take i).map fun d=>V.bl (decide (d.2.1=y) || decide (d.2.2.1=some y))) (fun i zs H' _ h=>bq (NX.of (h.1 _ _ hq))) ⟨ai.refl H1,rfl⟩ (aH (by omega)) (fun i zs H' h=>by rw[h.2,Kj,K4]; exact LD _ _) ?_ ?_
  .rintro i zs H2 x hi ⟨sm,rfl⟩
   obtain⟨d,hd,t,rfl,_,ht⟩:=hY.get hi
   have ht2:=sm _ _ ht
   dsimp only[aY,gN]
   refine aZ ⟨_,rfl,_,rfl,t,_,_,_,rfl,rfl,N1.of ht2,rfl,_,rfl,t,_,_,_,rfl,rfl,N1.of ht2,rfl,(by show 2<=sizeLine; decide),fun t3 nt3=>?_⟩
   refine⟨t3,_,rfl,.inr (N1.of ag),rfl,?_,sm.trans (ai.upd nt3),?_⟩
   .obtain⟨d1,d2,d3,d4⟩:=d
    cases d3 <;> rfl
   .rw[La,hd,KN]
    obtain⟨d1,d2,d3,d4⟩:=d
    congr 1
    show [V.bl (Of (.str y) [.str d2,iJ d3])]=[V.bl (decide (d2=y) || decide (d3=some y))]
    have:Of (.str y) [.str d2,iJ d3]=(decide (d2=y) || decide (d3=some y)):=by
     unfold Of
     cases d3 with
     | none=>show (d2 == y || (false || false))=_; by_cases c:d2=y <;> simp[c]
     | some z=>show (d2 == y || (z == y || false))=_; by_cases c:d2=y <;> by_cases c2:z=y <;> simp[c,c2]
    rw[this]
  .rintro zs H2 p2 ⟨sm,rfl⟩ np2
   rw[yl,K5]
   have s2:=s1.trans (sm.trans (ai.upd (o:= .lst (S.ds.map fun d=>V.bl (decide (d.2.1=y) || decide (d.2.2.1=some y)))) np2))
   have hp2:(upd H2 p2 (.lst (S.ds.map fun d=>V.bl (decide (d.2.1=y) || decide (d.2.2.1=some y))))) p2=some (.lst ((S.ds.map fun d=>(decide (d.2.1=y) || decide (d.2.2.1=some y))).map V.bl)):=by rw[ag,L1]; rfl
   generalize upd H2 p2 (.lst (S.ds.map fun d=>V.bl (decide (d.2.1=y) || decide (d.2.2.1=some y))))=H3 at s2 hp2
   have eb:(S.ds.map fun d=>(decide (d.2.1=y) || decide (d.2.2.1=some y))).any id=bound y S.ds:=by unfold bound; rw[List.any_map]; rfl
   refine⟨p2,_,rfl,NX.of hp2,_,rfl,?_⟩
   rw[eb]
   refine bF (fun c=>?_) (fun c=>?_)
   .exact⟨by decide,e2 _ s2 hm c⟩
   have c:bound y S.ds=false:=K6 _▸c
   have I3:=I.same s2
   obtain⟨pi,xs,hp,hX⟩:=I3.ms
   have xl:=hX.length
   refine⟨_,rfl,h,dx,_,rfl,I3.ih,N6,h,dx,p,q0,r,is,kv,S,rfl,I3,hkl,fun z=>e3 _ s2 hm c z,fun z2 t nt=>?_⟩
   have I4:=I3.keep nt
   have hp4:(upd (upd H3 t (.tup [.ref p,.ref q0])) r (.lst (kv++[.ref t]))) p=some (.lst xs):=(ao (I3.sh pi).2.2).trans ((ao (aB hp nt)).trans hp)
   have hold:F2 (qo jK is H (upd (upd H3 t (.tup [.ref p,.ref q0])) r (.lst (kv++[.ref t])))) xs S.ms:=hX.imp fun v m ⟨b,e,bi,hb⟩=>⟨b,e,.inl bi,(ao (I3.sh bi).2.2).trans ((ao (aB hb nt)).trans hb)⟩
   dsimp only[aY,L2.start,List.set]
   refine⟨_,rfl,h,a.House,dx,_,.ref p,rfl,I4.ih,T.au.cl,T.aL,by (repeat (first | exact bw | refine (bt (by trivial)).trans ?_)),_,rfl,_,rfl,p,xs,rfl,NX.of hp4,fun c1 nc1=>?_⟩
   rw[uG]
   refine⟨_,rfl,h,a.House,dx,_,.ref p,rfl,ai.upd nc1 _ _ I4.ih,T.au.cl,T.aL,by (repeat (first | exact bw | refine (bt (by trivial)).trans ?_)),_,rfl,_,_,rfl,rfl,_,rfl,p,xs,rfl,NX.of (ai.upd nc1 _ _ hp4),fun c2 nc2=>?_⟩
   rw[show (((j:Nat):Int)+1)=((j+1:Nat):Int) by omega,qM]
   refine⟨c1,c2,_,_,rfl,rfl,ai.upd nc2 _ _ ag,ag,by rw[K4,Ls]; exact KY (aH (by omega)),fun c3 nc3=>?_⟩
   have s4:=((ai.upd (o:= .lst (xs.take j)) nc1).trans (ai.upd (o:= .lst (xs.drop (j+1))) nc2)).trans (ai.upd (o:= .lst (xs.take j++xs.drop (j+1))) nc3)
   have hc3:(upd (upd (upd (upd (upd H3 t (.tup [.ref p,.ref q0])) r (.lst (kv++[.ref t]))) c1 (.lst (xs.take j))) c2 (.lst (xs.drop (j+1)))) c3 (.lst (xs.take j++xs.drop (j+1)))) c3=some (.lst (xs.take j++xs.drop (j+1))):=ag
   have np3:=((ai.upd (o:= .lst (xs.take j)) nc1).trans (ai.upd (o:= .lst (xs.drop (j+1))) nc2)).free nc3
   refine⟨_,rfl,h,a.House,dx,_,rfl,s4 _ _ I4.ih,T.au.cl,T.aL,(by show 3 < 1000; decide),?_⟩
   rw[kX]
   generalize upd (upd (upd (upd (upd H3 t (.tup [.ref p,.ref q0])) r (.lst (kv++[.ref t]))) c1 (.lst (xs.take j))) c2 (.lst (xs.drop (j+1)))) c3 (.lst (xs.take j++xs.drop (j+1)))=H4 at s4 hc3
   have hold4:F2 (qo jK is H H4) xs S.ms:=hold.imp fun v m ⟨b,e,bi,hb⟩=>⟨b,e,bi,s4 _ _ hb⟩
   exact q _ j hj hjm c z2 (I.A9 s2 nt s4 (tG s2 nt np3) hc3 ((hold4.take j).append (hold4.drop (j+1))))
def AI (a:Adr):Sp:=fun vs H Q E=> ∃p e o:Int,vs=[.int p,.int e,.int o]/\(Oj p e o->eI p e o<=99999->Q (.int (eI p e o)) H)/\(Oj p e o->99999 < eI p e o->E (.ref a.TooMuch) none H)/\(¬Oj p e o->E (.ref a.BadNumber) none H)
theorem A3 (T:Txt K mg a):OV P w K mg base 2 "portion" ["people","each","over"] (AI a):=by
 have jd:=@se P w K mg base a T
 refine og T.rK vf (fun _ _ _ _ _ _=>OG fun _ _ _=>rfl) (fun vs H Q E h=>?_) fun f c A o s H vs Q E hr h=>?_
 .obtain⟨p,e,o,rfl,_⟩:=h
  rfl
 .obtain⟨p,e,o,rfl,q1,q2,q3⟩:=h
  refine⟨_,(ah (aK (cS (PW.pt (eZ (ba (bu jd.x hr.z (aa (pv 0) (aa (mQ T.uA) ae))) (fun _=>rfl)) (eZ (ba (bu jd.x hr.z (aa (pv 1) (aa (mQ T.xT) ae))) (fun _=>rfl)) (eU (ba (bu jd.x hr.z (aa (pv 2) (aa (mQ T.ye) ae))) (fun _=>rfl))))))) (aj (eC T.lr rfl (aa aF ae))) aD)
   (ah (ax (i:=3) vf.nd rfl (Or.inl rfl) (ay bR (ay jJ (ay bN (ay yr (pv 0) (pv 1)) (pv 2)) af) (pv 2)))
   (ah (aK (aw tw (pv 3) (ku T.kE) (aA _)) (aj (eC T.gS rfl (aa aF ae))) aD)
   (aj (az (pv 3)))))),?_⟩
  have bad: ¬Oj p e o->([V.str "a number of the portion is outside its range"].length<=1000/\E (.ref a.BadNumber) none H):=fun z=>⟨by decide,q3 z⟩
  refine⟨_,rfl,fun a1 h1=>⟨_,0,999,a1,rfl,h1 _,_,rfl,?_⟩⟩
  refine bF (fun c1=>?_) (fun c1=>?_)
  rotate_left
  .refine aZ (bad fun z=>?_)
   unfold Oj at z
   simp at c1
   omega
  .refine⟨_,rfl,fun a2 h2=>⟨_,1,999,a2,rfl,h2 _,_,rfl,?_⟩⟩
   refine bF (fun c2=>?_) (fun c2=>?_)
   rotate_left
   .refine aZ (bad fun z=>?_)
    unfold Oj at z
    simp at c2
    omega
   .refine⟨_,rfl,fun a3 h3=>⟨_,1,999,a3,rfl,h3 _,_,rfl,?_⟩⟩
    refine bF (fun c3=>bad fun z=>?_) (fun c3=>?_)
    .unfold Oj at z
     simp at c3
     omega
    .have hin:Oj p e o:=by
      simp at c1 c2 c3
      unfold Oj
      omega
     have hin':=id hin
     unfold Oj at hin'
     refine⟨_,rfl,_,rfl,_,_,rfl,rfl,.inl ⟨by omega,by omega⟩,_,rfl,_,_,rfl,rfl,_,_,rfl,rfl,_,rfl,_,_,rfl,rfl,⟨by omega,by omega⟩,?_⟩
     refine⟨_,rfl,_,_,rfl,rfl,_,rfl,?_⟩
     refine bF (fun c4=>?_) (fun c4=>?_)
     .exact⟨by show 1<=1000; decide,q2 hin (KQ c4)⟩
     .exact⟨_,rfl,q1 hin (by have:=Ld (K6 _▸c4); unfold eI; omega)⟩
def vd (C:Addr):Sp:=fun vs H Q _=> ∃(h:Addr) (os:List Addr) (S:N3),vs=[.ref h]/\HI C H h os S/\S.ds.length<=100/\ ∀(p:Addr) (H':Hp),H p=none->ai H H'->H' p=some (.lst ((bg S).map V.str))->Q (.ref p) H'
theorem eu (T:Txt K mg a):OY P w K mg base 1 a.House "demand_names" ["self"] (vd a.House):=by
 refine jO T.gr pQ (fun _ _ _ _ _ _=>Ov fun _=>rfl) (fun vs H Q E h=>?_) fun f c A o s H vs Q E hr h=>?_
 .obtain⟨h,os,S,rfl,_⟩:=h
  rfl
 .obtain⟨h,os,S,rfl,⟨dx,p0,p,r,is,kv,rfl,I⟩,hl,q⟩:=h
  obtain⟨pi,xs,hp,hX⟩:=I.ds
  have xl:=hX.length
  refine⟨_,(aj (az (cM (psc:=aq eR) (own:=["row"]) (frn:=[]) (fr:=[]) (by exact⟨rfl,by trivial,by trivial,by trivial,by trivial,by trivial⟩) rfl rfl rfl (bG (by decide:0 < 1)) (bC (bH (pv 0) rfl))
    (fun C s2 H2 fp=>⟨(aG (i:=0) (show (["row"]:List Str).Nodup by trivial) rfl (Or.inl rfl)),dD,(NZ K (pv 0) af)⟩)))),?_⟩
  refine⟨_,rfl,h,a.House,dx,_,.ref p,rfl,I.ih,T.au.cl,T.aW,by (repeat (first | exact bw | refine (bt (by trivial)).trans ?_)),p,rfl,⟨_,NX.of hp⟩,?_⟩
  refine b8 (xs:=xs) (fun i ys H'=>H'=H/\ys=(S.ds.take i).map fun m=>V.str m.1) (fun i ys H' _ h=>by rw[h.1]; exact bq (NX.of hp)) ⟨rfl,rfl⟩ (aH (by omega)) (fun i ys H' h=>by rw[h.2,Kj,K4]; exact LD _ _) ?_ ?_
  .rintro i ys H2 x hi ⟨rfl,rfl⟩
   obtain⟨m,hm,t,rfl,_,ht⟩:=hX.get hi
   dsimp only[aY,gN]
   refine aZ ⟨_,rfl,t,_,_,_,rfl,rfl,N1.of ht,rfl,rfl,?_⟩
   rw[La,hm,KN]
   rfl
  .rintro ys H2 p2 ⟨rfl,rfl⟩ np
   refine q p2 _ np (ai.upd np) ?_
   rw[ag,xl,K5]
   unfold bg
   rw[L1]
   rfl
def Au (K:NY) (a:Adr):Sp:=fun vs H Q E=> ∃(n lo hi:Int) (p:Addr),vs=[.int n,.ref p]/\N1 K H p [.int lo,.int hi]/\(lo<=n/\n<=hi->Q .non H)/\(¬(lo<=n/\n<=hi)->E (.ref a.BadNumber) none H)
theorem mH (T:Txt K mg a):OV P w K mg base 2 "refuse_outside" ["number","span"] (Au K a):=by
 have jd:=@se P w K mg base a T
 refine og T.jr tM (fun _ _ _ _ _ _=>Oa fun _ _=>rfl) (fun vs H Q E h=>?_) fun f c A o s H vs Q E hr h=>?_
 .obtain⟨n,lo,hi,p,rfl,_⟩:=h
  rfl
 .obtain⟨n,lo,hi,p,rfl,hp,q,e⟩:=h
  refine⟨_,(aj (aK (cS (ba (bu jd.x hr.z (aa (pv 0) (aa (pv 1) ae))) (fun _=>rfl))) (aj (eC T.lr rfl (aa aF ae))) aD)),?_⟩
  refine⟨_,rfl,_,rfl,n,lo,hi,p,rfl,hp,_,rfl,?_⟩
  by_cases c:lo<=n/\n<=hi
  .rw[show (decide (lo<=n) && decide (n<=hi))=true from by simp[c.1,c.2]]
   exact aM (q c)
  .rw[show (decide (lo<=n) && decide (n<=hi))=false from by
    rw[Bool.eq_false_iff]
    intro z
    rw[Lc] at z
    exact c ⟨KQ z.1,KQ z.2⟩]
   exact aZ ⟨by decide,e c⟩
def DI (a:Adr):Sp:=fun vs H Q E=> ∃(h dx p q r:Addr) (is:List Addr) (kv:List V) (S:N3) (H0:Hp) (t:Addr) (d:N9),vs=[.ref h,.ref t]/\Od a.House H0 h dx p q r is kv S/\ai H0 H/\H0 t=none/\H t=some (.tup (j7 d))/\S.ds.length<=24/\S.ks.length<=150 /\
 ((24<=S.ds.length\/150<=S.ks.length)->E (.ref a.Full) none H)/\(∀H',S.ds.length < 24->S.ks.length < 150->dY a.House H0 h (h::dx::r::is) ⟨S.ms,S.ds++[d],S.ks++[(S.ms,S.ds)]⟩ H'->Q .non H')
theorem jy (T:Txt K mg a):OC P w K mg base 3 a.House "bring_demand" ["self","row"] (DI a):=by
 have gy:=@kT P w K mg base a T
 have b7:=@el P w K mg base a T
 refine eG T.gg pD (fun _ _ _ _ _ _=>Oa fun _ _=>rfl) (fun vs H Q E h=>?_) fun f c A o s H vs Q E hr h=>?_
 .obtain⟨h,dx,p,q0,r,is,kv,S,H0,t0,d,rfl,_⟩:=h
  rfl
 .obtain⟨h,dx,p,q0,r,is,kv,S,H0,t0,d,rfl,I,s0,nt0,ht0,hdl,hkl,e,q⟩:=h
  refine⟨_,(ah (aU (bu gy hr.z (aa (cB K T.bK (aa (bH (pv 0) rfl) ae)) (aa (ku T.kJ) ae))))
   (ah (aU (bc T.au.cl b7 hr.z (pv 0)))
   (aj (i4 (pv 0) (ay eE (bH (pv 0) rfl) (aQ (aa (pv 1) ae))) rfl)))),?_⟩
  have I2:=I.same s0
  obtain⟨pi,xs,hp,hX⟩:=I2.ds
  have xl:=hX.length
  refine⟨_,rfl,h,a.House,dx,_,.ref q0,rfl,I2.ih,T.au.cl,T.aW,by (repeat (first | exact bw | refine (bt (by trivial)).trans ?_)),_,_,rfl,.inl ⟨_,NX.of hp,rfl⟩,_,_,rfl,fun z=>?_,fun z=>e (.inl (by omega))⟩
  refine⟨_,rfl,h,dx,_,rfl,I2.ih,N6,h,dx,p,q0,r,is,kv,S,rfl,I2,hkl,fun z=>e (.inr z),fun z2 t nt=>?_⟩
  have I3:=I2.keep nt
  have hp3:(upd (upd H t (.tup [.ref p,.ref q0])) r (.lst (kv++[.ref t]))) q0=some (.lst xs):=(ao (I2.sh pi).2.2).trans ((ao (aB hp nt)).trans hp)
  have tr:t0≠r:=fun z=>by rw[z,I.ir] at nt0; cases nt0
  have ht3:(upd (upd H t (.tup [.ref p,.ref q0])) r (.lst (kv++[.ref t]))) t0=some (.tup (j7 d)):=(ao tr).trans ((ao (aB ht0 nt)).trans ht0)
  refine⟨_,rfl,h,a.House,dx,_,.ref q0,rfl,I3.ih,T.au.cl,T.aW,by (repeat (first | exact bw | refine (bt (by trivial)).trans ?_)),_,rfl,(by show 1<=sizeLine; decide),fun l nl=>?_⟩
  have sl:=ai.upd (o:= .lst [.ref t0]) nl
  refine⟨q0,l,_,_,rfl,rfl,sl _ _ hp3,ag,by rw[xl]; exact KY (aH (by show S.ds.length+1<=1000; omega)),fun p' np'=>?_⟩
  have s4:=sl.trans (ai.upd (o:= .lst (xs++[.ref t0])) np')
  have hp4:(upd (upd (upd (upd H t (.tup [.ref p,.ref q0])) r (.lst (kv++[.ref t]))) l (.lst [.ref t0])) p' (.lst (xs++[.ref t0]))) p'=some (.lst (xs++[.ref t0])):=ag
  have np3:=sl.free np'
  refine⟨_,rfl,h,a.House,dx,_,rfl,s4 _ _ I3.ih,T.au.cl,T.aW,(by show 3 < 1000; decide),?_⟩
  rw[mV (by trivial),kX]
  generalize upd (upd (upd (upd H t (.tup [.ref p,.ref q0])) r (.lst (kv++[.ref t]))) l (.lst [.ref t0])) p' (.lst (xs++[.ref t0]))=H4 at s4 hp4
  refine q _ (by omega) z2 (I.EI s0 nt s4 (tG s0 nt np3) hp4 (F2.append ?_ (.cons ⟨t0,rfl,.inr nt0,s4 _ _ ht3⟩ .nil)))
  refine hX.imp fun v m ⟨b,e,bi,hb⟩=>⟨b,e,.inl bi,s4 _ _ ((ao (I2.sh bi).2.2).trans ((ao (aB hb nt)).trans hb))⟩
def yy (a:Adr):Sp:=fun vs H Q E=> ∃(h:Addr) (os:List Addr) (S:N3) (y m:Str) (pe ea ov:Int),vs=[.ref h,.str y,.str m,.int pe,.int ea,.int ov]/\HI a.House H h os S/\y.cps.toList.length<=1000/\S.ms.length<=12/\S.ds.length<=24/\S.ks.length<=150 /\
 (∀H',ai H H'->m∉aI S->E (.ref a.Unknown) none H')/\(∀H',ai H H'->m∈aI S->y∈bg S->E (.ref a.InUse) none H')/\(∀H',ai H H'->m∈aI S->y∉bg S->cW y.cps.toList=false->E (.ref a.BadName) none H') /\
 (∀H',ai H H'->m∈aI S->y∉bg S->cW y.cps.toList=true-> ¬Oj pe ea ov->E (.ref a.BadNumber) none H')/\(∀H',ai H H'->m∈aI S->y∉bg S->cW y.cps.toList=true->Oj pe ea ov->99999 < eI pe ea ov->E (.ref a.TooMuch) none H') /\
 (∀H',ai H H'->m∈aI S->y∉bg S->cW y.cps.toList=true->Oj pe ea ov->eI pe ea ov<=99999->(24<=S.ds.length\/150<=S.ks.length)->E (.ref a.Full) none H') /\
 (∀H',m∈aI S->y∉bg S->cW y.cps.toList=true->Oj pe ea ov->eI pe ea ov<=99999->S.ds.length < 24->S.ks.length < 150->dY a.House H h os ⟨S.ms,S.ds++[(y,m,none,eI pe ea ov)],S.ks++[(S.ms,S.ds)]⟩ H'->Q .non H')
theorem sF (T:Txt K mg a):OC P w K mg base 4 a.House "add_plain" ["self","name","member","people","each","over"] (yy a):=by
 have dU:=@iE P w K mg base a T
 have eF:=@h9 P w K mg base a T
 have Bp:=@A3 P w K mg base a T
 have aR:=@bO P w K mg base a T
 have cq:=@eu P w K mg base a T
 have gj:=@jy P w K mg base a T
 refine eG T.iT sq (fun _ _ _ _ _ _=>PF fun _ _ _ _ _ _=>rfl) (fun vs H Q E h=>?_) fun f c A o s H vs Q E hr h=>?_
 .obtain⟨h,os,S,y,m,pe,ea,ov,rfl,_⟩:=h
  rfl
 .obtain⟨h,os,S,y,m,pe,ea,ov,rfl,hI,hy,hml,hdl,hkl,e1,e2,e3,e4,e5,e6,q⟩:=h
  have hI0:=hI
  obtain⟨dx,p,q0,r,is,kv,rfl,I⟩:=hI
  refine⟨_,(ah (aU (bu dU hr.z (aa (pv 2) (aa (bc T.au.cl aR.x hr.z (pv 0)) ae))))
   (ah (aU (bu eF hr.z (aa (pv 1) (aa (bc T.au.cl cq.x hr.z (pv 0)) ae))))
   (aj (aU (cy T.au.cl gj hr.z (pv 0) (aa (bM (aa (pv 1) (aa (pv 2) (aa bJ (aa (bu Bp hr.z (aa (pv 3) (aa (pv 4) (aa (pv 5) ae)))) ae))))) ae)))))),?_⟩
  refine⟨_,rfl,_,rfl,h,dx,_,rfl,I.ih,N6,h,_,S,rfl,hI0,by omega,fun pm H1 npm s1 hpm=>?_⟩
  refine⟨m,pm,aI S,rfl,NX.of hpm,fun hm=>?_,fun hm=>e1 H1 s1 hm⟩
  refine⟨_,rfl,_,rfl,h,dx,_,rfl,(I.same s1).ih,N6,h,_,S,rfl,⟨dx,p,q0,r,is,kv,rfl,I.same s1⟩,by omega,fun pd H2 npd s2 hpd=>?_⟩
  have s12:=s1.trans s2
  refine⟨y,pd,bg S,rfl,NX.of hpd,hy,fun hn=>e2 H2 s12 hm hn,fun H3 s3 hn=>⟨fun hg=>?_,fun hb=>e3 H3 (s12.trans s3) hm hn hb⟩⟩
  have s13:=s12.trans s3
  refine⟨_,rfl,h,dx,_,rfl,(I.same s13).ih,N6,_,rfl,_,rfl,_,rfl,_,rfl,_,rfl,pe,ea,ov,rfl,fun hr1 hr2=>⟨(by show 4<=sizeLine; decide),fun t nt=>?_⟩,fun hr1 hr2=>e5 H3 s13 hm hn hg hr1 hr2,fun hr1=>e4 H3 s13 hm hn hg hr1⟩
  refine⟨h,dx,p,q0,r,is,kv,S,H,t,(y,m,none,eI pe ea ov),rfl,I,s13.trans (ai.upd nt),s13.free nt,ag,hdl,hkl,fun z=>e6 _ (s13.trans (ai.upd nt)) hm hn hg hr1 hr2 z,fun H' z1 z2 hN=>q H' hm hn hg hr1 hr2 z1 z2 hN⟩
def zg (a:Adr):Sp:=fun vs H Q E=> ∃(h:Addr) (os:List Addr) (S:N3) (y m b:Str) (mo:Int),vs=[.ref h,.str y,.str m,.str b,.int mo]/\HI a.House H h os S/\y.cps.toList.length<=1000/\S.ms.length<=12/\S.ds.length<=24/\S.ks.length<=150 /\
 (∀H',ai H H'->(m∉aI S\/b∉aI S)->E (.ref a.Unknown) none H')/\(∀H',ai H H'->m∈aI S->b∈aI S->y∈bg S->E (.ref a.InUse) none H')/\(∀H',ai H H'->m∈aI S->b∈aI S->y∉bg S->cW y.cps.toList=false->E (.ref a.BadName) none H') /\
 (∀H',ai H H'->m∈aI S->b∈aI S->y∉bg S->cW y.cps.toList=true-> ¬(0<=mo/\mo<=99)->E (.ref a.BadNumber) none H') /\
 (∀H',ai H H'->m∈aI S->b∈aI S->y∉bg S->cW y.cps.toList=true->0<=mo/\mo<=99->(24<=S.ds.length\/150<=S.ks.length)->E (.ref a.Full) none H') /\
 (∀H',m∈aI S->b∈aI S->y∉bg S->cW y.cps.toList=true->0<=mo/\mo<=99->S.ds.length < 24->S.ks.length < 150->dY a.House H h os ⟨S.ms,S.ds++[(y,m,some b,mo)],S.ks++[(S.ms,S.ds)]⟩ H'->Q .non H')
theorem tO (T:Txt K mg a):OC P w K mg base 4 a.House "add_link" ["self","name","member","base","more"] (zg a):=by
 have dU:=@iE P w K mg base a T
 have eF:=@h9 P w K mg base a T
 have jj:=@mH P w K mg base a T
 have aR:=@bO P w K mg base a T
 have cq:=@eu P w K mg base a T
 have gj:=@jy P w K mg base a T
 refine eG T.je tP (fun _ _ _ _ _ _=>PR fun _ _ _ _ _=>rfl) (fun vs H Q E h=>?_) fun f c A o s H vs Q E hr h=>?_
 .obtain⟨h,os,S,y,m,b,mo,rfl,_⟩:=h
  rfl
 .obtain⟨h,os,S,y,m,b,mo,rfl,hI,hy,hml,hdl,hkl,e1,e2,e3,e4,e6,q⟩:=h
  have hI0:=hI
  obtain⟨dx,p,q0,r,is,kv,rfl,I⟩:=hI
  refine⟨_,(ah (aU (bu dU hr.z (aa (pv 2) (aa (bc T.au.cl aR.x hr.z (pv 0)) ae))))
   (ah (aU (bu dU hr.z (aa (pv 3) (aa (bc T.au.cl aR.x hr.z (pv 0)) ae))))
   (ah (aU (bu eF hr.z (aa (pv 1) (aa (bc T.au.cl cq.x hr.z (pv 0)) ae))))
   (ah (aU (bu jj hr.z (aa (pv 4) (aa (mQ T.pq) ae))))
   (aj (aU (cy T.au.cl gj hr.z (pv 0) (aa (bM (aa (pv 1) (aa (pv 2) (aa (pv 3) (aa (pv 4) ae))))) ae)))))))),?_⟩
  refine⟨_,rfl,_,rfl,h,dx,_,rfl,I.ih,N6,h,_,S,rfl,hI0,by omega,fun pm H1 npm s1 hpm=>?_⟩
  refine⟨m,pm,aI S,rfl,NX.of hpm,fun hm=>?_,fun hm=>e1 H1 s1 (.inl hm)⟩
  refine⟨_,rfl,_,rfl,h,dx,_,rfl,(I.same s1).ih,N6,h,_,S,rfl,⟨dx,p,q0,r,is,kv,rfl,I.same s1⟩,by omega,fun pb H1' npb s1' hpb=>?_⟩
  have s1:=s1.trans s1'
  refine⟨b,pb,aI S,rfl,NX.of hpb,fun hb'=>?_,fun hb'=>e1 H1' s1 (.inr hb')⟩
  refine⟨_,rfl,_,rfl,h,dx,_,rfl,(I.same s1).ih,N6,h,_,S,rfl,⟨dx,p,q0,r,is,kv,rfl,I.same s1⟩,by omega,fun pd H2 npd s2 hpd=>?_⟩
  have s12:=s1.trans s2
  refine⟨y,pd,bg S,rfl,NX.of hpd,hy,fun hn=>e2 H2 s12 hm hb' hn,fun H3 s3 hn=>⟨fun hg=>?_,fun hb=>e3 H3 (s12.trans s3) hm hb' hn hb⟩⟩
  have s13:=s12.trans s3
  refine⟨_,rfl,fun a1 h1=>⟨mo,0,99,a1,rfl,h1 _,fun hr1=>?_,fun hr1=>e4 H3 s13 hm hb' hn hg hr1⟩⟩
  refine⟨_,rfl,h,dx,_,rfl,(I.same s13).ih,N6,_,rfl,_,rfl,_,rfl,_,rfl,(by show 4<=sizeLine; decide),fun t nt=>?_⟩
  refine⟨h,dx,p,q0,r,is,kv,S,H,t,(y,m,some b,mo),rfl,I,s13.trans (ai.upd nt),s13.free nt,ag,hdl,hkl,fun z=>e6 _ (s13.trans (ai.upd nt)) hm hb' hn hg hr1 z,fun H' z1 z2 hN=>q H' hm hb' hn hg hr1 z1 z2 hN⟩
def ue (a:Adr):Sp:=fun vs H Q E=> ∃(h:Addr) (os:List Addr) (S:N3) (y:Str),vs=[.ref h,.str y]/\HI a.House H h os S/\S.ds.length<=24/\S.ks.length<=150 /\
 (∀H',ai H H'->y∉bg S->E (.ref a.Unknown) none H')/\(∀H',ai H H'->y∈bg S->150<=S.ks.length->E (.ref a.Full) none H') /\
 (∀(H':Hp) (j:Nat),(bg S)[j]?=some y->(∀m,m < j->(bg S)[m]?≠some y)->S.ks.length < 150->dY a.House H h os ⟨S.ms,S.ds.take j++S.ds.drop (j+1),S.ks++[(S.ms,S.ds)]⟩ H'->Q .non H')
theorem oK (T:Txt K mg a):OC P w K mg base 4 a.House "strike_demand" ["self","name"] (ue a):=by
 have eM:=@iY P w K mg base a T
 have cq:=@eu P w K mg base a T
 have b7:=@el P w K mg base a T
 refine eG T.fW i5 (fun _ _ _ _ _ _=>Oa fun _ _=>rfl) (fun vs H Q E h=>?_) fun f c A o s H vs Q E hr h=>?_
 .obtain⟨h,os,S,y,rfl,_⟩:=h
  rfl
 .obtain⟨h,os,S,y,rfl,hI,hdl,hkl,e1,e3,q⟩:=h
  have hI0:=hI
  obtain⟨dx,p,q0,r,is,kv,rfl,I⟩:=hI
  refine⟨_,(ah (ax (i:=2) i5.nd rfl (Or.inl rfl) (bu eM hr.z (aa (pv 1) (aa (bc T.au.cl cq.x hr.z (pv 0)) ae))))
   (ah (aU (bc T.au.cl b7 hr.z (pv 0)))
   (aj (i4 (pv 0) (ay eE (fK (show OT _ (qc K) from jx) (bH (pv 0) rfl) gC (gB (pv 2))) (fK (show OT _ (qc K) from jx) (bH (pv 0) rfl) (gB (ay bN (pv 2) af)) gC)) rfl)))),?_⟩
  refine⟨_,rfl,_,rfl,h,dx,_,rfl,I.ih,N6,h,_,S,rfl,hI0,by omega,fun pm H3 npm s2 hpm=>?_⟩
  refine⟨y,pm,bg S,rfl,hpm,fun j hj hjm=>?_,fun hm=>e1 H3 s2 hm⟩
  have hm:y∈bg S:=Kp hj
  have I3:=I.same s2
  obtain⟨pi,xs,hp,hX⟩:=I3.ds
  have xl:=hX.length
  refine⟨_,rfl,h,dx,_,rfl,I3.ih,N6,h,dx,p,q0,r,is,kv,S,rfl,I3,hkl,fun z=>e3 _ s2 hm z,fun z2 t nt=>?_⟩
  have I4:=I3.keep nt
  have hp4:(upd (upd H3 t (.tup [.ref p,.ref q0])) r (.lst (kv++[.ref t]))) q0=some (.lst xs):=(ao (I3.sh pi).2.2).trans ((ao (aB hp nt)).trans hp)
  dsimp only[aY,L2.start,List.set]
  refine⟨_,rfl,h,a.House,dx,_,.ref q0,rfl,I4.ih,T.au.cl,T.aW,by (repeat (first | exact bw | refine (bt (by trivial)).trans ?_)),_,rfl,_,rfl,q0,xs,rfl,NX.of hp4,fun c1 nc1=>?_⟩
  rw[uG]
  refine⟨_,rfl,h,a.House,dx,_,.ref q0,rfl,ai.upd nc1 _ _ I4.ih,T.au.cl,T.aW,by (repeat (first | exact bw | refine (bt (by trivial)).trans ?_)),_,rfl,_,_,rfl,rfl,_,rfl,q0,xs,rfl,NX.of (ai.upd nc1 _ _ hp4),fun c2 nc2=>?_⟩
  rw[show (((j:Nat):Int)+1)=((j+1:Nat):Int) by omega,qM]
  refine⟨c1,c2,_,_,rfl,rfl,ai.upd nc2 _ _ ag,ag,by rw[K4,Ls]; exact KY (aH (by omega)),fun c3 nc3=>?_⟩
  have s4:=((ai.upd (o:= .lst (xs.take j)) nc1).trans (ai.upd (o:= .lst (xs.drop (j+1))) nc2)).trans (ai.upd (o:= .lst (xs.take j++xs.drop (j+1))) nc3)
  have hc3:(upd (upd (upd (upd (upd H3 t (.tup [.ref p,.ref q0])) r (.lst (kv++[.ref t]))) c1 (.lst (xs.take j))) c2 (.lst (xs.drop (j+1)))) c3 (.lst (xs.take j++xs.drop (j+1)))) c3=some (.lst (xs.take j++xs.drop (j+1))):=ag
  have np3:=((ai.upd (o:= .lst (xs.take j)) nc1).trans (ai.upd (o:= .lst (xs.drop (j+1))) nc2)).free nc3
  refine⟨_,rfl,h,a.House,dx,_,rfl,s4 _ _ I4.ih,T.au.cl,T.aW,(by show 3 < 1000; decide),?_⟩
  rw[mV (by trivial),kX]
  generalize upd (upd (upd (upd (upd H3 t (.tup [.ref p,.ref q0])) r (.lst (kv++[.ref t]))) c1 (.lst (xs.take j))) c2 (.lst (xs.drop (j+1)))) c3 (.lst (xs.take j++xs.drop (j+1)))=H4 at s4 hc3
  have hold4:F2 (qo j7 is H H4) xs S.ds:=hX.imp fun v m ⟨b,e,bi,hb⟩=>⟨b,e,.inl bi,s4 _ _ ((ao (I3.sh bi).2.2).trans ((ao (aB hb nt)).trans hb))⟩
  exact q _ j hj hjm z2 (I.EI s2 nt s4 (tG s2 nt np3) hc3 ((hold4.take j).append (hold4.drop (j+1))))
def A5 (C:Addr):Sp:=fun vs H Q _=> ∃(h:Addr) (os:List Addr) (S:N3),vs=[.ref h]/\HI C H h os S/\ ∀(p:Addr) (xs:List V) (H':Hp),H p=none->ai H H'->H' p=some (.lst xs)->F2 (xC os H') xs S.ds->Q (.ref p) H'
theorem nK (T:Txt K mg a):OY P w K mg base 1 a.House "demands" ["self"] (A5 a.House):=by
 refine jO T.jS uw (fun _ _ _ _ _ _=>Ov fun _=>rfl) (fun vs H Q E h=>?_) fun f c A o s H vs Q E hr h=>?_
 .obtain⟨h,os,S,rfl,_⟩:=h
  rfl
 .obtain⟨h,os,S,rfl,⟨dx,p0,p,r,is,kv,rfl,I⟩,q⟩:=h
  obtain⟨pi,xs,hp,hX⟩:=I.ds
  refine⟨_,(aj (az (dG (show de _ _ (pU K) from jc) (by rfl) T.i7 boot_list (aa (bH (pv 0) rfl) ae)))),?_⟩
  refine⟨_,rfl,h,a.House,dx,_,.ref p,rfl,I.ih,T.au.cl,T.aW,by (repeat (first | exact bw | refine (bt (by trivial)).trans ?_)),p,xs,rfl,.inl (NX.of hp),fun l nl=>?_⟩
  exact q l xs _ nl (ai.upd nl) ag (hX.imp fun v m z=>z.mono (fun b hb=>by simp[hb]) fun b o _ e=>ai.upd nl _ _ e)
def dJ (S:N3):List (Option Int):=S.ms.map (·.2)
def yV (C:Addr):Sp:=fun vs H Q _=> ∃(h:Addr) (os:List Addr) (S:N3),vs=[.ref h]/\HI C H h os S/\S.ms.length<=100/\ ∀(p:Addr) (H':Hp),H p=none->ai H H'->H' p=some (.lst ((dJ S).map fG))->Q (.ref p) H'
theorem cJ (T:Txt K mg a):OY P w K mg base 1 a.House "greatest_widths" ["self"] (yV a.House):=by
 refine jO T.fh nT (fun _ _ _ _ _ _=>Ov fun _=>rfl) (fun vs H Q E h=>?_) fun f c A o s H vs Q E hr h=>?_
 .obtain⟨h,os,S,rfl,_⟩:=h
  rfl
 .obtain⟨h,os,S,rfl,⟨dx,p,q0,r,is,kv,rfl,I⟩,hl,q⟩:=h
  obtain⟨pi,xs,hp,hX⟩:=I.ms
  have xl:=hX.length
  refine⟨_,(aj (az (cM (psc:=aq dI) (own:=["row"]) (frn:=[]) (fr:=[]) (by exact⟨rfl,by trivial,by trivial,by trivial,by trivial,by trivial⟩) rfl rfl rfl (bG (by decide:0 < 1)) (bC (bH (pv 0) rfl))
    (fun C s2 H2 fp=>⟨(aG (i:=0) (show (["row"]:List Str).Nodup by trivial) rfl (Or.inl rfl)),dD,(NZ K (pv 0) af)⟩)))),?_⟩
  refine⟨_,rfl,h,a.House,dx,_,.ref p,rfl,I.ih,T.au.cl,T.aL,by (repeat (first | exact bw | refine (bt (by trivial)).trans ?_)),p,rfl,⟨_,NX.of hp⟩,?_⟩
  refine b8 (xs:=xs) (fun i ys H'=>H'=H/\ys=(S.ms.take i).map fun m=>fG m.2) (fun i ys H' _ h=>by rw[h.1]; exact bq (NX.of hp)) ⟨rfl,rfl⟩ (aH (by omega)) (fun i ys H' h=>by rw[h.2,Kj,K4]; exact LD _ _) ?_ ?_
  .rintro i ys H2 x hi ⟨rfl,rfl⟩
   obtain⟨m,hm,t,rfl,_,ht⟩:=hX.get hi
   dsimp only[aY,gN]
   refine aZ ⟨_,rfl,t,_,_,_,rfl,rfl,N1.of ht,rfl,rfl,?_⟩
   rw[La,hm,KN]
   rfl
  .rintro ys H2 p2 ⟨rfl,rfl⟩ np
   refine q p2 _ np (ai.upd np) ?_
   rw[ag,xl,K5]
   unfold dJ
   rw[L1]
   rfl
def CM (a:Adr):Sp:=fun vs H Q E=> ∃(h dx p q r:Addr) (is:List Addr) (kv:List V) (S:N3) (H0:Hp) (j:Nat) (o:Option Int) (m:Mem),vs=[.ref h,.int (j:Nat),fG o]/\Od a.House H0 h dx p q r is kv S/\ai H0 H/\S.ms[j]?=some m/\S.ms.length<=12/\S.ks.length<=150 /\
 (150<=S.ks.length->E (.ref a.Full) none H)/\(∀H',S.ks.length < 150->dY a.House H0 h (h::dx::r::is) ⟨S.ms.take j++[(m.1,o)]++S.ms.drop (j+1),S.ds,S.ks++[(S.ms,S.ds)]⟩ H'->Q .non H')
theorem ke (T:Txt K mg a):OC P w K mg base 3 a.House "change_top" ["self","place","top"] (CM a):=by
 have b7:=@el P w K mg base a T
 refine eG T.gU j9 (fun _ _ _ _ _ _=>OG fun _ _ _=>rfl) (fun vs H Q E h=>?_) fun f c A o s H vs Q E hr h=>?_
 .obtain⟨h,dx,p,q0,r,is,kv,S,H0,j,o,m,rfl,_⟩:=h
  rfl
 .obtain⟨h,dx,p,q0,r,is,kv,S,H0,j,o,m,rfl,I,s0,hj,hml,hkl,e,q⟩:=h
  refine⟨_,(ah (aU (bc T.au.cl b7 hr.z (pv 0)))
   (ah (ax (i:=3) j9.nd rfl (Or.inl rfl) (bM (aa (NZ K (N2 K (bH (pv 0) rfl) (pv 1)) af) (aa (pv 2) ae))))
   (aj (i4 (pv 0) (ay eE (ay eE (fK (show OT _ (qc K) from jx) (bH (pv 0) rfl) gC (gB (pv 1))) (aQ (aa (pv 3) ae))) (fK (show OT _ (qc K) from jx) (bH (pv 0) rfl) (gB (ay bN (pv 1) af)) gC)) rfl)))),?_⟩
  have I2:=I.same s0
  obtain⟨pi,xs,hp,hX⟩:=I2.ms
  have xl:=hX.length
  refine⟨_,rfl,h,dx,_,rfl,I2.ih,N6,h,dx,p,q0,r,is,kv,S,rfl,I2,hkl,fun z=>e z,fun z2 t nt=>?_⟩
  have I3:=I2.keep nt
  have hp3:(upd (upd H t (.tup [.ref p,.ref q0])) r (.lst (kv++[.ref t]))) p=some (.lst xs):=(ao (I2.sh pi).2.2).trans ((ao (aB hp nt)).trans hp)
  have hX3:F2 (qo jK is H0 (upd (upd H t (.tup [.ref p,.ref q0])) r (.lst (kv++[.ref t])))) xs S.ms:=hX.imp fun v m ⟨b,e,bi,hb⟩=>⟨b,e,.inl bi,(ao (I2.sh bi).2.2).trans ((ao (aB hb nt)).trans hb)⟩
  have fr: ∀ {b:Addr},(upd (upd H t (.tup [.ref p,.ref q0])) r (.lst (kv++[.ref t]))) b=none->H0 b=none:=fun z=>tG s0 nt z
  obtain⟨H3,e3⟩: ∃H3,H3=upd (upd H t (.tup [.ref p,.ref q0])) r (.lst (kv++[.ref t])):=⟨_,rfl⟩
  have deed:=fun {H4:Hp}=>@Od.A9 a.House h dx p q0 r H0 is kv S I H s0 t nt H4
  rw[<-e3] at I3 hp3 hX3 fr deed ⊢
  obtain⟨v,hv,tm,rfl,_,htm⟩:=hX3.at' hj
  refine⟨_,rfl,h,a.House,dx,_,.ref p,rfl,I3.ih,T.au.cl,T.aL,by (repeat (first | exact bw | refine (bt (by trivial)).trans ?_)),_,rfl,p,_,_,_,rfl,rfl,NX.of hp3,cm hv,tm,_,_,_,rfl,rfl,N1.of htm,rfl,_,rfl,(by show 2<=sizeLine; decide),fun t2 nt2=>?_⟩
  have s4:=ai.upd (o:= .tup [.str m.1,fG o]) nt2
  have ht4:(upd H3 t2 (.tup [.str m.1,fG o])) t2=some (.tup (jK (m.1,o))):=ag
  dsimp only[aY,L2.start,List.set]
  generalize upd H3 t2 (.tup [.str m.1,fG o])=H4 at s4 ht4
  refine⟨_,rfl,h,a.House,dx,_,.ref p,rfl,s4 _ _ I3.ih,T.au.cl,T.aL,by (repeat (first | exact bw | refine (bt (by trivial)).trans ?_)),_,rfl,_,rfl,p,xs,rfl,NX.of (s4 _ _ hp3),fun c1 nc1=>?_⟩
  rw[uG]
  have s5:=ai.upd (o:= .lst (xs.take j)) nc1
  have hc1:(upd H4 c1 (.lst (xs.take j))) c1=some (.lst (xs.take j)):=ag
  generalize upd H4 c1 (.lst (xs.take j))=H5 at s5 hc1
  refine⟨_,rfl,(by show 1<=sizeLine; decide),fun l nl=>?_⟩
  have s6:=ai.upd (o:= .lst [.ref t2]) nl
  have hl6:(upd H5 l (.lst [.ref t2])) l=some (.lst [.ref t2]):=ag
  generalize upd H5 l (.lst [.ref t2])=H6 at s6 hl6
  refine⟨c1,l,_,_,rfl,rfl,s6 _ _ hc1,hl6,by rw[K4]; exact KY (aH (by show min j xs.length+1<=1000; omega)),fun c2 nc2=>?_⟩
  have s7:=ai.upd (o:= .lst (xs.take j++[.ref t2])) nc2
  have hc2:(upd H6 c2 (.lst (xs.take j++[.ref t2]))) c2=some (.lst (xs.take j++[.ref t2])):=ag
  generalize upd H6 c2 (.lst (xs.take j++[.ref t2]))=H7 at s7 hc2
  have s47:=(s5.trans s6).trans s7
  refine⟨_,rfl,h,a.House,dx,_,.ref p,rfl,s47 _ _ (s4 _ _ I3.ih),T.au.cl,T.aL,by (repeat (first | exact bw | refine (bt (by trivial)).trans ?_)),_,rfl,_,_,rfl,rfl,_,rfl,p,xs,rfl,NX.of (s47 _ _ (s4 _ _ hp3)),fun c3 nc3=>?_⟩
  rw[show (((j:Nat):Int)+1)=((j+1:Nat):Int) by omega,qM]
  have s8:=ai.upd (o:= .lst (xs.drop (j+1))) nc3
  have hc3:(upd H7 c3 (.lst (xs.drop (j+1)))) c3=some (.lst (xs.drop (j+1))):=ag
  generalize upd H7 c3 (.lst (xs.drop (j+1)))=H8 at s8 hc3
  refine⟨c2,c3,_,_,rfl,rfl,s8 _ _ hc2,hc3,by rw[Kr,K4,Ls]; exact KY (aH (by show min j xs.length+1+(xs.length - (j+1))<=1000; omega)),fun c4 nc4=>?_⟩
  have s9:=ai.upd (o:= .lst (xs.take j++[.ref t2]++xs.drop (j+1))) nc4
  have hc4:(upd H8 c4 (.lst (xs.take j++[.ref t2]++xs.drop (j+1)))) c4=some (.lst (xs.take j++[.ref t2]++xs.drop (j+1))):=ag
  generalize upd H8 c4 (.lst (xs.take j++[.ref t2]++xs.drop (j+1)))=H9 at s9 hc4
  have s48:=s47.trans s8
  have s49:=s48.trans s9
  have s39:=s4.trans s49
  refine⟨_,rfl,h,a.House,dx,_,rfl,s39 _ _ I3.ih,T.au.cl,T.aL,(by show 3 < 1000; decide),?_⟩
  rw[kX]
  have hold:F2 (qo jK is H0 H9) xs S.ms:=hX3.imp fun v m ⟨b,e,bi,hb⟩=>⟨b,e,bi,s39 _ _ hb⟩
  exact q _ z2 (deed s39 (fr ((s4.trans s48).free nc4)) hc4 (((hold.take j).append (.cons ⟨t2,rfl,.inr (fr nt2),s49 _ _ ht4⟩ .nil)).append (hold.drop (j+1))))
def AW (a:Adr):Sp:=fun vs H Q E=> ∃(h:Addr) (os:List Addr) (S:N3) (m:Str) (wd:Int),vs=[.ref h,.str m,.int wd]/\HI a.House H h os S/\S.ms.length<=12/\S.ks.length<=150/\(∀H',ai H H'->m∉aI S->E (.ref a.Unknown) none H') /\
 ∀(j:Nat) (o:Option Int),(aI S)[j]?=some m->(∀i,i < j->(aI S)[i]?≠some m)->S.ms[j]?=some (m,o)->(∀H',ai H H'->o≠none->E (.ref a.InUse) none H')/\(∀H',ai H H'->o=none-> ¬(0<=wd/\wd<=99999)->E (.ref a.BadNumber) none H') /\
  (∀H',ai H H'->o=none->0<=wd/\wd<=99999->150<=S.ks.length->E (.ref a.Full) none H')/\(∀H',o=none->0<=wd/\wd<=99999->S.ks.length < 150->dY a.House H h os ⟨S.ms.take j++[(m,some wd)]++S.ms.drop (j+1),S.ds,S.ks++[(S.ms,S.ds)]⟩ H'->Q .non H')
theorem CL {S:N3}{j:Nat}{m:Str}(h:(aI S)[j]?=some m): ∃o,S.ms[j]?=some (m,o):=by
 unfold aI at h
 rw[KD] at h
 cases e:S.ms[j]? with
 | none=>rw[e] at h; cases h
 | some x=>rw[e] at h; obtain⟨m',o⟩:=x; cases h; exact⟨o,rfl⟩
theorem zC {S:N3}{j:Nat}{m:Str}{o:Option Int}(h:S.ms[j]?=some (m,o)):Ob ((dJ S).map fG) (j:Nat)=some (fG o):=cm (by unfold dJ; rw[KD,KD,h]; rfl)
theorem um (T:Txt K mg a):OC P w K mg base 4 a.House "set_top" ["self","member","width"] (AW a):=by
 have eM:=@iY P w K mg base a T
 have jj:=@mH P w K mg base a T
 have aR:=@bO P w K mg base a T
 have bx:=@cJ P w K mg base a T
 have gR:=@ke P w K mg base a T
 refine eG T.jM nW (fun _ _ _ _ _ _=>OG fun _ _ _=>rfl) (fun vs H Q E h=>?_) fun f c A o s H vs Q E hr h=>?_
 .obtain⟨h,os,S,m,wd,rfl,_⟩:=h
  rfl
 .obtain⟨h,os,S,m,wd,rfl,hI,hml,hkl,e1,k⟩:=h
  have hI0:=hI
  obtain⟨dx,p,q0,r,is,kv,rfl,I⟩:=hI
  refine⟨_,(ah (ax (i:=3) nW.nd rfl (Or.inl rfl) (bu eM hr.z (aa (pv 1) (aa (bc T.au.cl aR.x hr.z (pv 0)) ae))))
   (ah (aK (aw fj (N2 K (bc T.au.cl bx.x hr.z (pv 0)) (pv 3)) bJ (aA _)) (aj (eC T.jA rfl (aa aF ae))) aD)
   (ah (aU (bu jj hr.z (aa (pv 2) (aa (mQ T.pk) ae))))
   (aj (aU (cy T.au.cl gR hr.z (pv 0) (aa (pv 3) (aa (pv 2) ae)))))))),?_⟩
  refine⟨_,rfl,_,rfl,h,dx,_,rfl,I.ih,N6,h,_,S,rfl,hI0,by omega,fun pm H1 npm s1 hpm=>?_⟩
  refine⟨m,pm,aI S,rfl,hpm,fun j hj hjm=>?_,fun hm=>e1 H1 s1 hm⟩
  obtain⟨o,ho⟩:=CL hj
  obtain⟨k1,k2,k3,k4⟩:=k j o hj hjm ho
  refine⟨_,rfl,h,dx,_,rfl,(I.same s1).ih,N6,h,_,S,rfl,⟨dx,p,q0,r,is,kv,rfl,I.same s1⟩,by omega,fun pg H2 npg s2 hpg=>?_⟩
  have s12:=s1.trans s2
  refine⟨_,rfl,pg,_,_,_,rfl,rfl,NX.of hpg,zC ho,rfl,_,rfl,?_⟩
  cases o with
  | some c=>exact aZ ⟨by decide,k1 H2 s12 (by intro z; cases z)⟩
  | none =>
   refine aM ⟨_,rfl,fun a1 h1=>⟨wd,0,99999,a1,rfl,h1 _,fun hr1=>?_,fun hr1=>k2 H2 s12 rfl hr1⟩⟩
   exact⟨_,rfl,h,dx,_,rfl,(I.same s12).ih,N6,_,rfl,_,rfl,h,dx,p,q0,r,is,kv,S,H,j,some wd,(m,none),rfl,I,s12,ho,hml,hkl,fun z=>k3 H2 s12 rfl hr1 z,fun H' z hN=>k4 H' rfl hr1 z hN⟩
def wL (a:Adr):Sp:=fun vs H Q E=> ∃(h:Addr) (os:List Addr) (S:N3) (m:Str),vs=[.ref h,.str m]/\HI a.House H h os S/\S.ms.length<=12/\S.ks.length<=150/\(∀H',ai H H'->m∉aI S->E (.ref a.Unknown) none H') /\
 ∀(j:Nat) (o:Option Int),(aI S)[j]?=some m->(∀i,i < j->(aI S)[i]?≠some m)->S.ms[j]?=some (m,o)->(∀H',ai H H'->o=none->E (.ref a.Unknown) none H') /\
  (∀H',ai H H'->o≠none->150<=S.ks.length->E (.ref a.Full) none H')/\(∀H',o≠none->S.ks.length < 150->dY a.House H h os ⟨S.ms.take j++[(m,none)]++S.ms.drop (j+1),S.ds,S.ks++[(S.ms,S.ds)]⟩ H'->Q .non H')
theorem rb (T:Txt K mg a):OC P w K mg base 4 a.House "strike_top" ["self","member"] (wL a):=by
 have eM:=@iY P w K mg base a T
 have aR:=@bO P w K mg base a T
 have bx:=@cJ P w K mg base a T
 have gR:=@ke P w K mg base a T
 refine eG T.ie kc (fun _ _ _ _ _ _=>Oa fun _ _=>rfl) (fun vs H Q E h=>?_) fun f c A o s H vs Q E hr h=>?_
 .obtain⟨h,os,S,m,rfl,_⟩:=h
  rfl
 .obtain⟨h,os,S,m,rfl,hI,hml,hkl,e1,k⟩:=h
  have hI0:=hI
  obtain⟨dx,p,q0,r,is,kv,rfl,I⟩:=hI
  refine⟨_,(ah (ax (i:=2) kc.nd rfl (Or.inl rfl) (bu eM hr.z (aa (pv 1) (aa (bc T.au.cl aR.x hr.z (pv 0)) ae))))
   (ah (aK (aw lL (N2 K (bc T.au.cl bx.x hr.z (pv 0)) (pv 2)) bJ (aA _)) (aj (eC T.fZ rfl (aa aF ae))) aD)
   (aj (aU (cy T.au.cl gR hr.z (pv 0) (aa (pv 2) (aa bJ ae))))))),?_⟩
  refine⟨_,rfl,_,rfl,h,dx,_,rfl,I.ih,N6,h,_,S,rfl,hI0,by omega,fun pm H1 npm s1 hpm=>?_⟩
  refine⟨m,pm,aI S,rfl,hpm,fun j hj hjm=>?_,fun hm=>e1 H1 s1 hm⟩
  obtain⟨o,ho⟩:=CL hj
  obtain⟨k1,k3,k4⟩:=k j o hj hjm ho
  refine⟨_,rfl,h,dx,_,rfl,(I.same s1).ih,N6,h,_,S,rfl,⟨dx,p,q0,r,is,kv,rfl,I.same s1⟩,by omega,fun pg H2 npg s2 hpg=>?_⟩
  have s12:=s1.trans s2
  refine⟨_,rfl,pg,_,_,_,rfl,rfl,NX.of hpg,zC ho,rfl,_,rfl,?_⟩
  cases o with
  | none=>exact aZ ⟨by decide,k1 H2 s12 rfl⟩
  | some c =>
   have nn:(some c:Option Int)≠none:=by intro z; cases z
   exact aM ⟨_,rfl,h,dx,_,rfl,(I.same s12).ih,N6,_,rfl,h,dx,p,q0,r,is,kv,S,H,j,none,(m,some c),rfl,I,s12,ho,hml,hkl,fun z=>k3 H2 s12 nn z,fun H' z hN=>k4 H' nn z hN⟩
def F9 (C:Addr):Sp:=fun vs H Q _=> ∃(h:Addr) (os:List Addr) (S:N3),vs=[.ref h]/\HI C H h os S/\S.ms.length<=100/\ ∀(p:Addr) (xs:List V) (H':Hp),H p=none->ai H H'->H' p=some (.lst xs)->F2 (vF os H') xs (S.ms.filter (·.2.isSome))->Q (.ref p) H'
theorem qU (T:Txt K mg a):OY P w K mg base 1 a.House "tops" ["self"] (F9 a.House):=by
 refine jO T.nH wO (fun _ _ _ _ _ _=>Ov fun _=>rfl) (fun vs H Q E h=>?_) fun f c A o s H vs Q E hr h=>?_
 .obtain⟨h,os,S,rfl,_⟩:=h
  rfl
 .obtain⟨h,os,S,rfl,⟨dx,p,q0,r,is,kv,rfl,I⟩,hl,q⟩:=h
  obtain⟨pi,xs,hp,hX⟩:=I.ms
  have xl:=hX.length
  refine⟨_,(aj (az (cM (psc:=aq jP) (own:=["row"]) (frn:=[]) (fr:=[]) (by exact⟨rfl,by trivial,by trivial,by trivial,by trivial,by trivial⟩) rfl rfl rfl (bG (by decide:0 < 1)) (bC (bH (pv 0) rfl))
    (fun C s2 H2 fp=>⟨(aG (i:=0) (show (["row"]:List Str).Nodup by trivial) rfl (Or.inl rfl)),(iA (aw fj (NZ K (pv 0) af) bJ (aA _))),(pv 0)⟩)))),?_⟩
  refine⟨_,rfl,h,a.House,dx,_,.ref p,rfl,I.ih,T.au.cl,T.aL,by (repeat (first | exact bw | refine (bt (by trivial)).trans ?_)),p,rfl,⟨_,NX.of hp⟩,?_⟩
  refine b8 (xs:=xs) (fun i ys H'=>H'=H/\ys.length<=i/\F2 (vF is H) ys ((S.ms.take i).filter (·.2.isSome))) (fun i ys H' _ h=>by rw[h.1]; exact bq (NX.of hp)) ⟨rfl,Kn _,.nil⟩ (aH (by omega)) (fun i ys H' h=>h.2.1) ?_ ?_
  .rintro i ys H2 x hi ⟨rfl,hyl,hY⟩
   obtain⟨m,hm,t,rfl,ti,ht⟩:=hX.get hi
   have tk:(S.ms.take (i+1)).filter (·.2.isSome)=(S.ms.take i).filter (·.2.isSome)++(if m.2.isSome then [m] else []):=by
    rw[La,hm,Lz]
    congr 1
    show [m].filter _=_
    by_cases c:m.2.isSome=true <;> simp[c]
   refine⟨_,rfl,t,_,_,_,rfl,rfl,N1.of ht,rfl,rfl,_,rfl,?_⟩
   rw[tk]
   obtain⟨m1,m2⟩:=m
   cases m2 with
   | none=>exact aM ⟨rfl,by omega,by simpa using hY⟩
   | some c=>exact aZ ⟨_,rfl,rfl,by rw[Kr]; show ys.length+1<=i+1; omega,hY.append (.cons ⟨t,rfl,ti,ht⟩ .nil)⟩
  .rintro ys H2 p2 ⟨rfl,hyl,hY⟩ np
   rw[xl,K5] at hY
   exact q p2 ys _ np (ai.upd np) ag (hY.imp fun v m z=>z.mono (fun b hb=>by simp[hb]) fun b o _ e=>ai.upd np _ _ e)
theorem vw {H:Hp}{b:Addr}{o o':HO}:upd (upd H b o) b o'=upd H b o':=by
 funext c
 by_cases e:c=b
 .rw[e,ag,ag]
 .rw[ao e,ao e,ao e]
def EZ (a:Adr):Sp:=fun vs H Q E=> ∃(h:Addr) (os:List Addr) (S:N3),vs=[.ref h]/\HI a.House H h os S/\S.ks.length<=150/\(S.ks=[]->E (.ref a.NothingBack) none H)/\(∀(H':Hp) (ks:List (List Mem×List N9)) (k:List Mem×List N9),S.ks=ks++[k]->dY a.House H h os ⟨k.1,k.2,ks⟩ H'->Q .non H')
theorem rF (T:Txt K mg a):OC P w K mg base 1 a.House "take_back" ["self"] (EZ a):=by
 refine eG T.iO lP (fun _ _ _ _ _ _=>Ov fun _=>rfl) (fun vs H Q E h=>?_) fun f c A o s H vs Q E hr h=>?_
 .obtain⟨h,os,S,rfl,_⟩:=h
  rfl
 .obtain⟨h,os,S,rfl,⟨dx,p,q0,r,is,kv,rfl,I⟩,hkl,e,q⟩:=h
  have kl:=I.ks.length
  refine⟨_,(ah (aK (aw bh (cB K T.bK (aa (bH (pv 0) rfl) ae)) af (aA _)) (aj (eC T.cY rfl (aa aF ae))) aD)
   (ah (ax (i:=1) lP.nd rfl (Or.inl rfl) (show PE _ _ (vx K _ _ _) from sI Kw Mj Ml yJ (bH (pv 0) rfl)))
   (ah (i4 (pv 0) (NZ K (pv 1) af) rfl)
   (aj (i4 (pv 0) (NZ K (pv 1) af) rfl))))),?_⟩
  refine⟨_,rfl,h,a.House,dx,_,.ref r,rfl,I.ih,T.au.cl,T.cI,by (repeat (first | exact bw | refine (bt (by trivial)).trans ?_)),_,_,rfl,.inl ⟨_,NX.of I.ir,rfl⟩,rfl,_,rfl,?_⟩
  rcases Mh S.ks with hk | ⟨ks,k,hk⟩
  .rw[hk] at kl
   rw[show kv=[] from MU.mp kl]
   exact aZ ⟨by decide,e hk⟩
  .have hk:S.ks=ks++[k]:=by rw[hk,Mi]
   obtain⟨kv',t,p',q',ek,ht,tr,th,hN⟩:=I.back hk
   have l0:kv.length≠0:=by rw[ek]; simp
   rw[show decide (V.int (kv.length:Nat)=V.int 0)=false from KH fun z=>l0 (by have:=V.int.inj z; omega)]
   refine aM ⟨_,rfl,h,a.House,dx,_,.ref r,rfl,I.ih,T.au.cl,T.cI,by (repeat (first | exact bw | refine (bt (by trivial)).trans ?_)),.inl ⟨rfl,_,NX.of I.ir⟩,r,kv,.ref t,rfl,rfl,I.ir,by rw[ek]; simp,?_⟩
   rw[show kv.dropLast=kv' from by rw[ek]; simp]
   have ht2:(upd H r (.lst kv')) t=some (.tup [.ref p',.ref q']):=(ao tr).trans ht
   have hh2:(upd H r (.lst kv')) h=some (.ins a.House dx (ox p q0 r)):=(ao (KW I.n2)).trans I.ih
   dsimp only[aY,L2.start,List.set]
   refine⟨_,rfl,t,_,_,_,rfl,rfl,N1.of ht2,rfl,_,rfl,h,a.House,dx,_,rfl,hh2,T.au.cl,T.aL,(by show 3 < 1000; decide),?_⟩
   rw[kX]
   refine⟨_,rfl,t,_,_,_,rfl,rfl,N1.of ((ao th).trans ht2),rfl,_,rfl,h,a.House,dx,_,rfl,ag,T.au.cl,T.aW,(by show 3 < 1000; decide),?_⟩
   rw[mV (by trivial),kX,vw]
   exact q _ ks k hk hN
theorem lx {A B:Prop}{x y:Str}(h:x≠y) (b:B):if decide (V.str x=V.str y)=true then A else B:=by
 rw[KH fun z=>h (V.str.inj z)]
 exact b
theorem NW {A B:Prop}{x y:Str}(b:B)(h:x≠y:=by trivial):if decide (V.str x=V.str y)=true then A else B:=lx h b
theorem cV {A B:Prop}{x:Str}(b:A):if decide (V.str x=V.str x)=true then A else B:=by
 rw[KI rfl]
 exact b
def Af (a:Adr):L2.Due->Addr
 | .ok=>a.Unknown
 | .unknown=>a.Unknown
 | .inUse=>a.InUse
 | .tooMuch=>a.TooMuch
 | .full=>a.Full
 | .nothing=>a.NothingBack
def AJ:Sp:=fun vs H Q _=> ∃p e o:Int,vs=[.int p,.int e,.int o]/\Oj p e o/\Q (.int (eI p e o)) H
theorem vj (T:Txt K mg a):N8 P w K mg base 1 "_law_rounded" ["_law_people","_law_each","_law_over"] AJ:=by
 refine bf T.mj vE (fun _ _ _ _ _ _=>OG fun _ _ _=>rfl) (fun vs H Q E h=>?_) fun f c A o s H vs Q E hr h=>?_
 .obtain⟨p,e,o,rfl,_⟩:=h
  rfl
 .obtain⟨p,e,o,rfl,hin,q⟩:=h
  refine⟨_,(aj (az (ay bR (ay jJ (ay bN (ay yr (pv 0) (pv 1)) (pv 2)) af) (pv 2)))),?_⟩
  have hin':=id hin
  unfold Oj at hin'
  exact⟨_,rfl,_,rfl,_,_,rfl,rfl,.inl ⟨by omega,by omega⟩,_,rfl,_,_,rfl,rfl,_,_,rfl,rfl,_,rfl,_,_,rfl,rfl,⟨by omega,by omega⟩,q⟩
def F0 (K:NY) (a:Adr):Sp:=fun vs H Q E=> ∃(h:Addr) (os:List Addr) (S:N3) (d:dC) (td:Addr),vs=[.ref h,.ref td]/\HI a.House H h os S/\Gd S/\S.ks.length < 150/\N1 K H td (lg d)/\OL d /\
 (aO S d= .ok-> ∀H',dY a.House H h os (iB S d) H'->Q .non H')/\(aO S d≠ .ok-> ∀H',ai H H'->E (.ref (Af a (aO S d))) none H')
theorem Fm (T:Txt K mg a):OV P w K mg base 5 "_law_hand" ["_law_house","_law_deed_here"] (F0 K a):=by
 have rO:=@rf P w K mg base a T
 have pG:=@o9 P w K mg base a T
 have tL:=@sF P w K mg base a T
 have uc:=@tO P w K mg base a T
 have pF:=@oK P w K mg base a T
 have uV:=@um P w K mg base a T
 have rY:=@rb P w K mg base a T
 have tQ:=@rF P w K mg base a T
 refine og T.qt yY (fun _ _ _ _ _ _=>Oa fun _ _=>rfl) (fun vs H Q E h=>?_) fun f c A o s H vs Q E hr h=>?_
 .obtain⟨h,os,S,d,td,rfl,_⟩:=h
  rfl
 .obtain⟨h,os,S,d,td,rfl,hI,g,hk,hq,ok,qk,qe⟩:=h
  have hI0:=hI
  obtain⟨dx,p,q0,r,is,kv,rfl,I⟩:=hI
  have er: ∀x,aO S d=x->x≠ .ok-> ∀H',ai H H'->E (.ref (Af a x)) none H':=fun x hx hne H' s=>by
   have:=qe (hx▸hne) H' s
   rw[hx] at this
   exact this
  have ml:=g.now.ml
  have dl:=g.now.dl
  refine⟨_,(ah (aK (aw bh (NZ K (pv 1) af) aF (aA _)) (aj (az (cy T.au.cl rO hr.z (pv 0) (aa (NZ K (pv 1) af) ae)))) aD)
   (ah (aK (aw bh (NZ K (pv 1) af) aF (aA _)) (aj (az (cy T.au.cl tL hr.z (pv 0) (aa (NZ K (pv 1) af) (aa (NZ K (pv 1) af) (aa (NZ K (pv 1) af) (aa (NZ K (pv 1) af) (aa (NZ K (pv 1) af) ae)))))))) aD)
   (ah (aK (aw bh (NZ K (pv 1) af) aF (aA _)) (aj (az (cy T.au.cl uc hr.z (pv 0) (aa (NZ K (pv 1) af) (aa (NZ K (pv 1) af) (aa (NZ K (pv 1) af) (aa (NZ K (pv 1) af) ae))))))) aD)
   (ah (aK (aw bh (NZ K (pv 1) af) aF (aA _)) (aj (az (cy T.au.cl uV hr.z (pv 0) (aa (NZ K (pv 1) af) (aa (NZ K (pv 1) af) ae))))) aD)
   (ah (aK (aw bh (NZ K (pv 1) af) aF (aA _)) (aj (az (bc T.au.cl tQ hr.z (pv 0)))) aD)
   (ah (aK (aw bh (NZ K (pv 1) af) aF (aA _)) (aj (az (cy T.au.cl pG hr.z (pv 0) (aa (NZ K (pv 1) af) ae)))) aD)
   (ah (aK (aw bh (NZ K (pv 1) af) aF (aA _)) (aj (az (cy T.au.cl pF hr.z (pv 0) (aa (NZ K (pv 1) af) ae)))) aD)
   (aj (az (cy T.au.cl rY hr.z (pv 0) (aa (NZ K (pv 1) af) ae))))))))))),?_⟩
  cases d with
  | member y =>
   refine⟨_,rfl,td,_,_,_,rfl,rfl,hq,rfl,rfl,_,rfl,cV ⟨_,rfl,h,dx,_,rfl,I.ih,N6,_,rfl,td,_,_,_,rfl,rfl,hq,rfl,?_⟩⟩
   have ok:Nm y:=ok
   refine⟨h,_,S,y,rfl,hI0,KP ok.2.1 (by decide),ml,by omega,fun H' s hm=>?_,fun H' s hm hb=>?_,fun H' s hm hg hf=>?_,fun H' hm hg h1 h2 hN=>?_⟩
   .exact er .inUse (by rw[aO,Ko hm]) (by decide) H' s
   .rw[Nm.good ok] at hb; cases hb
   .exact er .full (by rw[aO,Kk hm,Ko (hf.resolve_right (by omega))]) (by decide) H' s
   .exact qk (by rw[aO,Kk hm,Kk (by omega)]) H' hN
  | plain y m pp e o =>
   refine aN rfl hq rfl (by trivial) ?_
   refine⟨_,rfl,td,_,_,_,rfl,rfl,hq,rfl,rfl,_,rfl,cV ⟨_,rfl,h,dx,_,rfl,I.ih,N6,_,rfl,td,_,_,_,rfl,rfl,hq,rfl,_,rfl,td,_,_,_,rfl,rfl,hq,rfl,_,rfl,td,_,_,_,rfl,rfl,hq,rfl,_,rfl,td,_,_,_,rfl,rfl,hq,rfl,_,rfl,td,_,_,_,rfl,rfl,hq,rfl,?_⟩⟩
   obtain⟨o1,o2,o3⟩:Nm y/\Nm m/\Oj pp e o:=ok
   refine⟨h,_,S,y,m,pp,e,o,rfl,hI0,KP o1.2.1 (by decide),ml,dl,by omega,fun H' s hm=>?_,fun H' s hm hn=>?_,fun H' s hm hn hb=>?_,fun H' s hm hn hg hr1=>absurd o3 hr1,fun H' s hm hn hg hr1 hr2=>?_,fun H' s hm hn hg hr1 hr2 hf=>?_,fun H' hm hn hg hr1 hr2 h1 h2 hN=>?_⟩
   .exact er .unknown (by rw[aO,Ko hm]) (by decide) H' s
   .exact er .inUse (by rw[aO,Kk (fun z=>z hm),Ko hn]) (by decide) H' s
   .rw[Nm.good o1] at hb; cases hb
   .exact er .tooMuch (by rw[aO,Kk (fun z=>z hm),Kk hn,Ko hr2]) (by decide) H' s
   .exact er .full (by rw[aO,Kk (fun z=>z hm),Kk hn,Kk (by omega),Ko (hf.resolve_right (by omega))]) (by decide) H' s
   .exact qk (by rw[aO,Kk (fun z=>z hm),Kk hn,Kk (by omega),Kk (by omega)]) H' hN
  | link y m b mo =>
   refine aN rfl hq rfl (by trivial) ?_
   refine aN rfl hq rfl (by trivial) ?_
   refine⟨_,rfl,td,_,_,_,rfl,rfl,hq,rfl,rfl,_,rfl,cV ⟨_,rfl,h,dx,_,rfl,I.ih,N6,_,rfl,td,_,_,_,rfl,rfl,hq,rfl,_,rfl,td,_,_,_,rfl,rfl,hq,rfl,_,rfl,td,_,_,_,rfl,rfl,hq,rfl,_,rfl,td,_,_,_,rfl,rfl,hq,rfl,?_⟩⟩
   obtain⟨o1,o2,o3,o4⟩:Nm y/\Nm m/\Nm b/\0<=mo/\mo<=99:=ok
   refine⟨h,_,S,y,m,b,mo,rfl,hI0,KP o1.2.1 (by decide),ml,dl,by omega,fun H' s hm=>?_,fun H' s hm hb hn=>?_,fun H' s hm hb hn hg=>?_,fun H' s hm hb hn hg hr1=>absurd o4 hr1,fun H' s hm hb hn hg hr1 hf=>?_,fun H' hm hb hn hg hr1 h1 h2 hN=>?_⟩
   .exact er .unknown (by rw[aO,Ko hm]) (by decide) H' s
   .exact er .inUse (by rw[aO,Kk (fun z=>z.elim (fun z=>z hm) fun z=>z hb),Ko hn]) (by decide) H' s
   .rw[Nm.good o1] at hg; cases hg
   .exact er .full (by rw[aO,Kk (fun z=>z.elim (fun z=>z hm) fun z=>z hb),Kk hn,Ko (hf.resolve_right (by omega))]) (by decide) H' s
   .exact qk (by rw[aO,Kk (fun z=>z.elim (fun z=>z hm) fun z=>z hb),Kk hn,Kk (by omega)]) H' hN
  | top m wd =>
   refine aN rfl hq rfl (by trivial) ?_
   refine aN rfl hq rfl (by trivial) ?_
   refine aN rfl hq rfl (by trivial) ?_
   refine⟨_,rfl,td,_,_,_,rfl,rfl,hq,rfl,rfl,_,rfl,cV ⟨_,rfl,h,dx,_,rfl,I.ih,N6,_,rfl,td,_,_,_,rfl,rfl,hq,rfl,_,rfl,td,_,_,_,rfl,rfl,hq,rfl,?_⟩⟩
   obtain⟨o1,o2⟩:Nm m/\0<=wd/\wd<=99999:=ok
   refine⟨h,_,S,m,wd,rfl,hI0,ml,by omega,fun H' s hm=>er .unknown (by rw[aO,Ko hm]) (by decide) H' s,fun j o hj hjm ho=>?_⟩
   have hm:m∈aI S:=Kp hj
   have hc:=tF ho hjm
   refine⟨fun H' s z=>?_,fun H' s z hr1=>absurd o2 hr1,fun H' s z hr1 hf=>absurd hf (by omega),fun H' z hr1 h2 hN=>?_⟩
   .exact er .inUse (by rw[aO,Kk (fun z=>z hm),Ko (by rw[hc]; exact z)]) (by decide) H' s
   .rw[x4 g.now.mn hj] at hN
    exact qk (by rw[aO,Kk (fun z=>z hm),Kk (by rw[hc,z]; exact fun q=>q rfl)]) H' hN
  | back =>
   refine aN rfl hq rfl (by trivial) ?_
   refine aN rfl hq rfl (by trivial) ?_
   refine aN rfl hq rfl (by trivial) ?_
   refine aN rfl hq rfl (by trivial) ?_
   refine⟨_,rfl,td,_,_,_,rfl,rfl,hq,rfl,rfl,_,rfl,cV ⟨_,rfl,h,dx,_,rfl,I.ih,N6,h,_,S,rfl,hI0,by omega,fun z=>er .nothing (by rw[aO,Ko z]) (by decide) H (ai.refl H),fun H' ks k e hN=>?_⟩⟩
   refine qk (by rw[aO,Kk (by rw[e]; exact xD)]) H' ?_
   have es:iB S .back=⟨k.1,k.2,ks⟩:=by
    show (match S.ks.getLast? with | some k=>(⟨k.1,k.2,S.ks.dropLast⟩:N3) | none=>S)=_
    rw[show S.ks.getLast?=some k from by rw[e]; simp,show S.ks.dropLast=ks from by rw[e]; simp]
   rw[es]
   exact hN
  | sM m =>
   refine aN rfl hq rfl (by trivial) ?_
   refine aN rfl hq rfl (by trivial) ?_
   refine aN rfl hq rfl (by trivial) ?_
   refine aN rfl hq rfl (by trivial) ?_
   refine aN rfl hq rfl (by trivial) ?_
   refine⟨_,rfl,td,_,_,_,rfl,rfl,hq,rfl,rfl,_,rfl,cV ⟨_,rfl,h,dx,_,rfl,I.ih,N6,_,rfl,td,_,_,_,rfl,rfl,hq,rfl,?_⟩⟩
   refine⟨h,_,S,m,rfl,hI0,ml,dl,by omega,fun H' s hm=>er .unknown (by rw[aO,Ko hm]) (by decide) H' s,fun H' s hm hb=>?_,fun H' s hm hb hf=>absurd hf (by omega),fun H' j hj hjm hb h2 hN=>?_⟩
   .exact er .inUse (by rw[aO,Kk (fun z=>z hm),Ko (show rB m S.ds=true from hb)]) (by decide) H' s
   .rw[uU g.now.mn hj] at hN
    refine qk ?_ H' hN
    have hb':rB m S.ds=false:=hb
    rw[aO,Kk (fun z=>z (Kp hj)),Kk (by rw[hb']; decide)]
  | sD y =>
   refine aN rfl hq rfl (by trivial) ?_
   refine aN rfl hq rfl (by trivial) ?_
   refine aN rfl hq rfl (by trivial) ?_
   refine aN rfl hq rfl (by trivial) ?_
   refine aN rfl hq rfl (by trivial) ?_
   refine aN rfl hq rfl (by trivial) ?_
   refine⟨_,rfl,td,_,_,_,rfl,rfl,hq,rfl,rfl,_,rfl,cV ⟨_,rfl,h,dx,_,rfl,I.ih,N6,_,rfl,td,_,_,_,rfl,rfl,hq,rfl,?_⟩⟩
   refine⟨h,_,S,y,rfl,hI0,dl,by omega,fun H' s hm=>er .unknown (by rw[aO,Ko hm]) (by decide) H' s,fun H' s hm hf=>absurd hf (by omega),fun H' j hj hjm h2 hN=>?_⟩
   rw[uU g.now.dn hj] at hN
   exact qk (by rw[aO,Kk (fun z=>z (Kp hj))]) H' hN
  | sT m =>
   refine aN rfl hq rfl (by trivial) ?_
   refine aN rfl hq rfl (by trivial) ?_
   refine aN rfl hq rfl (by trivial) ?_
   refine aN rfl hq rfl (by trivial) ?_
   refine aN rfl hq rfl (by trivial) ?_
   refine aN rfl hq rfl (by trivial) ?_
   refine aN rfl hq rfl (by trivial) ?_
   refine⟨_,rfl,h,dx,_,rfl,I.ih,N6,_,rfl,td,_,_,_,rfl,rfl,hq,rfl,?_⟩
   refine⟨h,_,S,m,rfl,hI0,ml,by omega,fun H' s hm=>er .unknown (by rw[aO,Ko (uo hm)]) (by decide) H' s,fun j o hj hjm ho=>?_⟩
   have hc:=tF ho hjm
   refine⟨fun H' s z=>er .unknown (by rw[aO,Ko (hc.trans z)]) (by decide) H' s,fun H' s z hf=>absurd hf (by omega),fun H' z h2 hN=>?_⟩
   rw[x4 g.now.mn hj] at hN
   exact qk (by rw[aO,Kk (by rw[hc]; exact z)]) H' hN
def FC (K:NY) (a:Adr):Sp:=fun vs H Q _=> ∃(h:Addr) (os:List Addr) (S:N3) (d:dC) (td:Addr),vs=[.ref h,.ref td]/\HI a.House H h os S/\Gd S/\S.ks.length < 150/\N1 K H td (lg d)/\OL d/\ ∀H',dY a.House H h os (cO S d) H'->Q (.str (wordOf (aO S d))) H'
theorem zR (T:Txt K mg a):N8 P w K mg base 6 "_law_done" ["_law_house","_law_deed_here"] (FC K a):=by
 have AG:=@Fm P w K mg base a T
 refine bf T.qv d6 (fun _ _ _ _ _ _=>Oa fun _ _=>rfl) (fun vs H Q E h=>?_) fun f c A o s H vs Q E hr h=>?_
 .obtain⟨h,os,S,d,td,rfl,_⟩:=h
  rfl
 .obtain⟨h,os,S,d,td,rfl,hI,g,hk,hq,ok,q⟩:=h
  refine⟨_,(ah (ax (i:=2) d6.nd rfl (Or.inl rfl) aF)
   (ah (ax (i:=3) d6.nd rfl (Or.inl rfl) bJ)
   (dS (Bk ⟨rfl,rfl⟩ (fun NV E'=>(aj (ax (i:=3) d6.nd rfl (Or.inl rfl) (bu AG hr.z (aa (pv 0) (aa (pv 1) ae)))))) (kg T.fZ (fun NV x o=>(aj (ax (i:=2) d6.nd rfl (Or.inl rfl) aF))) (kg T.jA (fun NV x o=>(aj (ax (i:=2) d6.nd rfl (Or.inl rfl) aF))) (kg T.gS (fun NV x o=>(aj (ax (i:=2) d6.nd rfl (Or.inl rfl) aF))) (kg T.lD (fun NV x o=>(aj (ax (i:=2) d6.nd rfl (Or.inl rfl) aF))) (kg T.cY (fun NV x o=>(aj (ax (i:=2) d6.nd rfl (Or.inl rfl) aF))) Cj))))))
   (ah (aK (aw fj (pv 3) bJ (aA _)) (aj (az aF)) aD)
   (aj (az (pv 2))))))),?_⟩
  refine⟨fun σ' H'=>σ'=[some (.ref h),some (.ref td),some (.str (wordOf (aO S d))),some .non]/\dY a.House H h os (cO S d) H',?_,?_⟩
  .refine⟨fun σ' cls _ H'=>σ'=[some (.ref h),some (.ref td),some (.str ""),some .non]/\ai H H'/\aO S d≠ .ok/\cls= .ref (Af a (aO S d)),fun NV=>?_,?_⟩
   .refine⟨_,rfl,_,rfl,h,os,S,d,td,rfl,hI,g,hk,hq,ok,fun due H' hN=>?_,fun due H' s=>⟨rfl,s,due,rfl⟩⟩
    rw[due]
    refine⟨rfl,?_⟩
    unfold cO
    rw[Ko due]
    exact hN
   .rintro σ' cls H' ⟨rfl,s,due,rfl⟩
    have hN:dY a.House H h os (cO S d) H':=by
     unfold cO
     rw[Kk due]
     exact dY.of hI s
    generalize aO S d=x at due
    cases x with
    | ok=>exact absurd rfl due
    | unknown=>exact⟨a.Unknown,true,rfl,T.fZ.2,T.fN,aZ fun NV x o=>⟨rfl,hN⟩⟩
    | inUse=>exact⟨a.InUse,false,rfl,T.jA.2,T.j6,aM ⟨a.InUse,true,rfl,T.jA.2,T.lV,aZ fun NV x o=>⟨rfl,hN⟩⟩⟩
    | tooMuch=>exact⟨a.TooMuch,false,rfl,T.gS.2,T.iU,aM ⟨a.TooMuch,false,rfl,T.gS.2,T.jF,aM ⟨a.TooMuch,true,rfl,T.gS.2,T.iP,aZ fun NV x o=>⟨rfl,hN⟩⟩⟩⟩
    | full=>exact⟨a.Full,false,rfl,T.lD.2,T.kN,aM ⟨a.Full,false,rfl,T.lD.2,T.nO,aM ⟨a.Full,false,rfl,T.lD.2,T.kO,aM ⟨a.Full,true,rfl,T.lD.2,T.oQ,aZ fun NV x o=>⟨rfl,hN⟩⟩⟩⟩⟩
    | nothing=>exact⟨a.NothingBack,false,rfl,T.cY.2,T.fX,aM ⟨a.NothingBack,false,rfl,T.cY.2,T.gJ,aM ⟨a.NothingBack,false,rfl,T.cY.2,T.fS,aM ⟨a.NothingBack,false,rfl,T.cY.2,T.g9,aM ⟨a.NothingBack,true,rfl,T.cY.2,T.eJ,aZ fun NV x o=>⟨rfl,hN⟩⟩⟩⟩⟩⟩
  rintro σ1 H1 ⟨rfl,hN⟩
  exact⟨_,rfl,rfl,_,rfl,aM ⟨_,rfl,q H1 hN⟩⟩
theorem at2 {x y:V}{b:Bool}:Ob [x,y] (if b=true then 1 else 0)=some (if b=true then y else x):=by cases b <;> rfl
theorem FX (y:Str) (ds:List N9):Of (.str y) (ds.map (fun d=>V.str d.2.1)++ds.map fun d=>iJ d.2.2.1)=rB y ds:=by
 unfold Of rB
 rw[List.any_append,List.any_map,List.any_map]
 have e1: ∀d:N9,(match V.str d.2.1,V.str y with | .str a,.str b=>a == b | _,_=>false)=decide (d.2.1=y):=fun d=>by
  show (d.2.1 == y)=_
  by_cases c:d.2.1=y <;> simp[c]
 induction ds with
 | nil=>rfl
 | cons d r ih =>
  obtain⟨d1,d2,d3,d4⟩:=d
  have b1:(d2 == y)=decide (d2=y):=by by_cases c:d2=y <;> simp[c]
  have b2: ∀z:Str,(z == y)=decide (z=y):=fun z=>by by_cases c:z=y <;> simp[c]
  rw[LR,LR,LR,<-ih]
  cases d3 with
  | none =>
   show ((d2 == y) || _ || (false || _))=(decide (d2=y) || decide ((none:Option Str)=some y) || (_ || _))
   rw[b1]
   simp[Bool.or_assoc]
  | some z =>
   show ((d2 == y) || _ || ((z == y) || _))=(decide (d2=y) || decide (some z=some y) || (_ || _))
   rw[b1,b2]
   by_cases c1:d2=y <;> by_cases c2:z=y <;> simp[c1,c2]
theorem Dh (ds:List N9):(ds.map (fun d=>V.str d.2.1)++ds.map fun d=>iJ d.2.2.1).all bZ=true:=by
 rw[List.all_append,NO,NO]
 have h1:ds.all (bZ∘fun d=>V.str d.2.1)=true:=LB.mpr fun d _=>rfl
 have h2:ds.all (bZ∘fun d=>iJ d.2.2.1)=true:=LB.mpr fun d _=>by
  obtain⟨d1,d2,d3,d4⟩:=d
  cases d3 <;> rfl
 rw[h1,h2]
 rfl
theorem pZ (ds:List N9):(ds.map fun d=>V.str d.1).all bZ=true:=by
 rw[NO]
 exact LB.mpr fun d _=>rfl
theorem vo (y:Str) (ds:List N9):Of (.str y) (ds.map fun d=>V.str d.1)=decide (y∈ds.map (·.1)):=by
 have e:(ds.map fun d=>V.str d.1)=(ds.map (·.1)).map V.str:=by rw[L1]; rfl
 rw[e,cX]
def xb (K:NY):Sp:=fun vs H Q _=> ∃(xs:List Addr) (n:Nat) (ts:Addr) (S:N3) (sort m:Str) (d:dC),vs=[.ref ts,.str sort,.str m]/\LS xs n H ts S.ms S.ds/\S.ds.length<=24/\((sort= "member" /\ d= .sM m)\/(sort= "demand" /\ d= .sD m)\/(sort= "top" /\ d= .sT m))/\ ∀H',ai H H'->Q (.str (wordOf (aO S d))) H'
theorem xa (T:Txt K mg a):N8 P w K mg base 1 "_law_due_strike" ["_law_state","_law_sort","_law_name"] (xb K):=by
 refine bf T.jo cx (fun _ _ _ _ _ _=>OG fun _ _ _=>rfl) (fun vs H Q E h=>?_) fun f c A o s H vs Q E hr h=>?_
 .obtain⟨xs,n,ts,S,sort,m,d,rfl,_⟩:=h
  rfl
 .obtain⟨xs,n,ts,S,sort,m,d,rfl,⟨ln,la,dd,vs,kvs,l⟩,hdl,hs,q⟩:=h
  refine⟨_,(ah (gY (pv 0) (gx rfl (bj (aG (i:=3) cx.nd rfl (Or.inl rfl)) (bj (aG (i:=4) cx.nd rfl (Or.inl rfl)) (bj (aG (i:=5) cx.nd rfl (Or.inl rfl)) fk)))))
   (ah (ax (i:=6) cx.nd rfl (Or.inl rfl) (B5 (rN (df hr) (pv 2) (pv 5)) (by with_unfolding_all rfl)))
   (dS (aK (aw bh (pv 1) aF (aA _)) (aj (ax (i:=6) cx.nd rfl (Or.inl rfl) (dX (show N7 _ _ (OH K false) from hE) (pv 2) (pv 3) (by with_unfolding_all rfl)))) aD)
   (dS (aK (aw bh (pv 1) aF (aA _)) (aj (ax (i:=6) cx.nd rfl (Or.inl rfl) (dX (show N7 _ _ (OH K false) from hE) (pv 2) (cM (psc:=aq dR) (own:=["_law_row"]) (frn:=[]) (fr:=[]) (by exact⟨rfl,by trivial,by trivial,by trivial,by trivial,by trivial⟩) rfl rfl rfl (bG (by decide:0 < 1)) (bC (pv 4))
    (fun C s2 H2 fp=>⟨(aG (i:=0) (show (["_law_row"]:List Str).Nodup by trivial) rfl (Or.inl rfl)),dD,(NZ K (pv 0) af)⟩)) (by with_unfolding_all rfl)))) aD)
   (ah (aK (cS (ba (pv 6) (fun _=>rfl))) (aj (az aF)) aD)
   (ah (ax (i:=7) cx.nd rfl (Or.inl rfl) (ay eE (cM (psc:=aq dR) (own:=["_law_row"]) (frn:=[]) (fr:=[]) (by exact⟨rfl,by trivial,by trivial,by trivial,by trivial,by trivial⟩) rfl rfl rfl (bG (by decide:0 < 1)) (bC (pv 4))
    (fun C s2 H2 fp=>⟨(aG (i:=0) (show (["_law_row"]:List Str).Nodup by trivial) rfl (Or.inl rfl)),dD,(NZ K (pv 0) af)⟩)) (cM (psc:=aq dR) (own:=["_law_row"]) (frn:=[]) (fr:=[]) (by exact⟨rfl,by trivial,by trivial,by trivial,by trivial,by trivial⟩) rfl rfl rfl (bG (by decide:0 < 1)) (bC (pv 4))
    (fun C s2 H2 fp=>⟨(aG (i:=0) (show (["_law_row"]:List Str).Nodup by trivial) rfl (Or.inl rfl)),dD,(NZ K (pv 0) af)⟩))))
   (ah (aK (PW.pt (eZ (aw bh (pv 1) aF (aA _)) (eU (aw (show N7 _ _ (OH K false) from hE) (pv 2) (pv 7) (by with_unfolding_all rfl))))) (aj (az aF)) aD)
   (aj (az aF))))))))),?_⟩
  refine⟨_,rfl,ts,_,rfl,N1.of l.ht,rfl,_,_,rfl,_,_,rfl,_,_,rfl,rfl,?_⟩
  refine⟨_,rfl,_,rfl,dd,_,rfl,dw.k (k:=Sum.inr m) l.hd,?_⟩
  dsimp only[aY,L2.start,List.set]
  have e1:bg S=S.ds.map (·.1):=rfl
  have e2:aI S=S.ms.map (·.1):=rfl
  rcases hs with⟨rfl,rfl⟩ | ⟨rfl,rfl⟩ | ⟨rfl,rfl⟩
  .refine⟨fun σ' H'=>σ'=[some (.ref ts),some (.str "member"),some (.str m),some (.ref ln),some (.ref la),some (.ref dd),some (.bl (decide (m∈aI S))),none]/\H'=H,⟨_,rfl,rfl,_,rfl,cV ⟨_,rfl,_,rfl,ln,_,rfl,.inl (NX.of l.hn),rfl,ck _,?_,rfl⟩⟩,?_⟩
   .show [some (V.ref ts),some (.str "member"),some (.str m),some (.ref ln),some (.ref la),some (.ref dd),some (.bl (Of (.str m) _)),none]=_
    rw[cX]
    rfl
   rintro σ1 H1 ⟨rfl,rfl⟩
   refine⟨fun σ' H'=>σ'=[some (.ref ts),some (.str "member"),some (.str m),some (.ref ln),some (.ref la),some (.ref dd),some (.bl (decide (m∈aI S))),none]/\H'=H1,⟨_,rfl,rfl,_,rfl,NW ⟨rfl,rfl⟩⟩,?_⟩
   rintro σ1 H2 ⟨rfl,rfl⟩
   by_cases hm:m∈aI S
   .rw[KI hm]
    refine⟨_,rfl,_,rfl,aM ?_⟩
    refine⟨_,rfl,la,rfl,⟨_,NX.of l.ha⟩,fJ (fun d=>V.str d.2.1) (fun d=>rfl) (bq (NX.of l.ha)) l.ar (by omega) fun p1 np1=>?_⟩
    have s1:=ai.upd (o:= .lst (S.ds.map fun d=>V.str d.2.1)) np1
    have h1:(upd H2 p1 (.lst (S.ds.map fun d=>V.str d.2.1))) p1=some (.lst (S.ds.map fun d=>V.str d.2.1)):=ag
    generalize upd H2 p1 (.lst (S.ds.map fun d=>V.str d.2.1))=H3 at s1 h1
    have ar3:F2 (mC xs H3) vs S.ds:=l.ar.imp fun v d ⟨t,e,a,b⟩=>⟨t,e,a,s1 _ _ b⟩
    refine⟨_,rfl,la,rfl,⟨_,NX.of (s1 _ _ l.ha)⟩,fJ (fun d=>iJ d.2.2.1) (fun d=>rfl) (bq (NX.of (s1 _ _ l.ha))) ar3 (by omega) fun p2 np2=>?_⟩
    have s2:=ai.upd (o:= .lst (S.ds.map fun d=>iJ d.2.2.1)) np2
    refine⟨p1,p2,_,_,rfl,rfl,s2 _ _ h1,ag,by rw[Kj,Kj]; exact KY (aH (by omega)),fun p3 np3=>?_⟩
    have s3:=ai.upd (o:= .lst (S.ds.map (fun d=>V.str d.2.1)++S.ds.map fun d=>iJ d.2.2.1)) np3
    have s13:=(s1.trans s2).trans s3
    refine⟨_,rfl,rfl,_,rfl,cV ⟨_,rfl,_,rfl,p3,_,rfl,.inl (NX.of ag),rfl,Dh _,_,rfl,?_⟩⟩
    show if Of (.str m) _=true then _ else _
    rw[FX]
    refine bF (fun c=>?_) (fun c=>?_)
    .have:=q _ s13
     rw[aO,Kk (fun z=>z hm),Ko c] at this
     exact this
    .have:=q _ s13
     rw[aO,Kk (fun z=>z hm),Kk c] at this
     exact this
   .rw[KH hm]
    refine⟨_,rfl,_,rfl,aZ ?_⟩
    have:=q _ (ai.refl H2)
    rw[aO,Ko hm] at this
    exact this
  .refine⟨fun σ' H'=>σ'=[some (.ref ts),some (.str "demand"),some (.str m),some (.ref ln),some (.ref la),some (.ref dd),some (.bl (aV kvs (Sum.inr m)).isSome),none]/\H'=H,⟨_,rfl,rfl,_,rfl,NW ⟨rfl,rfl⟩⟩,?_⟩
   rintro σ1 H1 ⟨rfl,rfl⟩
   refine⟨fun σ' H'=>σ'=[some (.ref ts),some (.str "demand"),some (.str m),some (.ref ln),some (.ref la),some (.ref dd),some (.bl (decide (m∈bg S))),none]/\ai H1 H',⟨_,rfl,rfl,_,rfl,cV ⟨_,rfl,_,rfl,la,rfl,⟨_,NX.of l.ha⟩,fJ (fun d=>V.str d.1) (fun d=>rfl) (bq (NX.of l.ha)) l.ar (by omega) fun p1 np1=>⟨p1,_,rfl,.inl (NX.of ag),rfl,pZ _,?_,ai.upd np1⟩⟩⟩,?_⟩
   .show [some (V.ref ts),some (.str "demand"),some (.str m),some (.ref ln),some (.ref la),some (.ref dd),some (.bl (Of (.str m) _)),none]=_
    rw[vo]
    rfl
   rintro σ1 H2 ⟨rfl,s2⟩
   by_cases hm:m∈bg S
   .rw[KI hm]
    refine⟨_,rfl,_,rfl,aM ?_⟩
    have ar2:F2 (mC xs H2) vs S.ds:=l.ar.imp fun v d ⟨t,e,a,b⟩=>⟨t,e,a,s2 _ _ b⟩
    refine⟨_,rfl,la,rfl,⟨_,NX.of (s2 _ _ l.ha)⟩,fJ (fun d=>V.str d.2.1) (fun d=>rfl) (bq (NX.of (s2 _ _ l.ha))) ar2 (by omega) fun p1 np1=>?_⟩
    have s1:=ai.upd (o:= .lst (S.ds.map fun d=>V.str d.2.1)) np1
    have h1:(upd H2 p1 (.lst (S.ds.map fun d=>V.str d.2.1))) p1=some (.lst (S.ds.map fun d=>V.str d.2.1)):=ag
    generalize upd H2 p1 (.lst (S.ds.map fun d=>V.str d.2.1))=H3 at s1 h1
    have s12:=s2.trans s1
    have ar3:F2 (mC xs H3) vs S.ds:=l.ar.imp fun v d ⟨t,e,a,b⟩=>⟨t,e,a,s12 _ _ b⟩
    refine⟨_,rfl,la,rfl,⟨_,NX.of (s12 _ _ l.ha)⟩,fJ (fun d=>iJ d.2.2.1) (fun d=>rfl) (bq (NX.of (s12 _ _ l.ha))) ar3 (by omega) fun p2 np2=>?_⟩
    have s3:=ai.upd (o:= .lst (S.ds.map fun d=>iJ d.2.2.1)) np2
    refine⟨p1,p2,_,_,rfl,rfl,s3 _ _ h1,ag,by rw[Kj,Kj]; exact KY (aH (by omega)),fun p3 np3=>?_⟩
    have s4:=ai.upd (o:= .lst (S.ds.map (fun d=>V.str d.2.1)++S.ds.map fun d=>iJ d.2.2.1)) np3
    refine⟨_,rfl,rfl,_,rfl,NW (aM ?_)⟩
    have:=q _ ((s12.trans s3).trans s4)
    rw[aO,Kk (fun z=>z hm)] at this
    exact this
   .rw[KH hm]
    refine⟨_,rfl,_,rfl,aZ ?_⟩
    have:=q _ s2
    rw[aO,Ko hm] at this
    exact this
  .refine⟨fun σ' H'=>σ'=[some (.ref ts),some (.str "top"),some (.str m),some (.ref ln),some (.ref la),some (.ref dd),some (.bl (aV kvs (Sum.inr m)).isSome),none]/\H'=H,⟨_,rfl,rfl,_,rfl,NW ⟨rfl,rfl⟩⟩,?_⟩
   rintro σ1 H1 ⟨rfl,rfl⟩
   refine⟨fun σ' H'=>σ'=[some (.ref ts),some (.str "top"),some (.str m),some (.ref ln),some (.ref la),some (.ref dd),some (.bl (aV kvs (Sum.inr m)).isSome),none]/\H'=H1,⟨_,rfl,rfl,_,rfl,NW ⟨rfl,rfl⟩⟩,?_⟩
   rintro σ1 H2 ⟨rfl,rfl⟩
   have hc:=l.cp m
   cases ec:bQ S.ms m with
   | some c =>
    rw[ec] at hc
    rw[show aV kvs (Sum.inr m)=some (V.int c) from hc]
    refine⟨_,rfl,_,rfl,aM ?_⟩
    refine⟨_,rfl,la,rfl,⟨_,NX.of l.ha⟩,fJ (fun d=>V.str d.2.1) (fun d=>rfl) (bq (NX.of l.ha)) l.ar (by omega) fun p1 np1=>?_⟩
    have s1:=ai.upd (o:= .lst (S.ds.map fun d=>V.str d.2.1)) np1
    have h1:(upd H2 p1 (.lst (S.ds.map fun d=>V.str d.2.1))) p1=some (.lst (S.ds.map fun d=>V.str d.2.1)):=ag
    generalize upd H2 p1 (.lst (S.ds.map fun d=>V.str d.2.1))=H3 at s1 h1
    have ar3:F2 (mC xs H3) vs S.ds:=l.ar.imp fun v d ⟨t,e,a,b⟩=>⟨t,e,a,s1 _ _ b⟩
    refine⟨_,rfl,la,rfl,⟨_,NX.of (s1 _ _ l.ha)⟩,fJ (fun d=>iJ d.2.2.1) (fun d=>rfl) (bq (NX.of (s1 _ _ l.ha))) ar3 (by omega) fun p2 np2=>?_⟩
    have s3:=ai.upd (o:= .lst (S.ds.map fun d=>iJ d.2.2.1)) np2
    refine⟨p1,p2,_,_,rfl,rfl,s3 _ _ h1,ag,by rw[Kj,Kj]; exact KY (aH (by omega)),fun p3 np3=>?_⟩
    have s4:=ai.upd (o:= .lst (S.ds.map (fun d=>V.str d.2.1)++S.ds.map fun d=>iJ d.2.2.1)) np3
    refine⟨_,rfl,rfl,_,rfl,NW (aM ?_)⟩
    have:=q _ ((s1.trans s3).trans s4)
    rw[aO,Kk (by rw[ec]; intro z; cases z)] at this
    exact this
   | none =>
    rw[ec] at hc
    rw[show aV kvs (Sum.inr m)=none from hc]
    refine⟨_,rfl,_,rfl,aZ ?_⟩
    have:=q _ (ai.refl H2)
    rw[aO,Ko ec] at this
    exact this
def GR (K:NY):Sp:=fun vs H Q _=> ∃(xs:List Addr) (n:Nat) (ts td:Addr) (S:N3) (d:dC),vs=[.ref ts,.int (S.ks.length:Nat),.ref td]/\LS xs n H ts S.ms S.ds/\S.ms.length<=12/\S.ds.length<=24/\N1 K H td (lg d)/\OL d/\ ∀H',ai H H'->Q (.str (wordOf (aO S d))) H'
theorem Hy (T:Txt K mg a):N8 P w K mg base 2 "_law_due" ["_law_state","_law_kept","_law_deed_here"] (GR K):=by
 have uz:=@xa P w K mg base a T
 have lW:=@vj P w K mg base a T
 refine bf T.sG mM (fun _ _ _ _ _ _=>OG fun _ _ _=>rfl) (fun vs H Q E h=>?_) fun f c A o s H vs Q E hr h=>?_
 .obtain⟨xs,n,ts,td,S,d,rfl,_⟩:=h
  rfl
 .obtain⟨xs,n,ts,td,S,d,rfl,ls,hml,hdl,hq,ok,q⟩:=h
  obtain⟨ln,la,dd,vs,kvs,l⟩:=id ls
  refine⟨_,(ah (gY (pv 0) (gx rfl (bj (aG (i:=3) mM.nd rfl (Or.inl rfl)) (bj (aG (i:=4) mM.nd rfl (Or.inl rfl)) (bj (aG (i:=5) mM.nd rfl (Or.inl rfl)) fk)))))
   (ah (aK (aw bh (NZ K (pv 2) af) aF (aA _)) (aj (az (N2 K (aQ (aa aF (aa aF ae))) (dG gW (by rfl) T.lb boot_int (aa (dX bh (pv 1) af (aA _)) ae))))) aD)
   (ah (aK (aw bh (NZ K (pv 2) af) aF (aA _)) (aj (az (aJ uz hr.z (aa (pv 0) (aa (NZ K (pv 2) af) (aa (NZ K (pv 2) af) ae)))))) aD)
   (ah (aK (aw bh (NZ K (pv 2) af) aF (aA _)) (ah (aK (aw (show N7 _ _ (OH K false) from hE) (NZ K (pv 2) af) (pv 3) (by with_unfolding_all rfl)) (aj (az aF)) aD)
   (aj (az (N2 K (aQ (aa aF (aa aF ae))) (dG gW (by rfl) T.lb boot_int (aa (dX bh (cB K T.bK (aa (pv 3) ae)) af (aA _)) ae)))))) aD)
   (ah (aK (aw bh (NZ K (pv 2) af) aF (aA _)) (ah (aK (aw (show N7 _ _ (OH K true) from ip) (NZ K (pv 2) af) (pv 3) (by with_unfolding_all rfl)) (aj (az aF)) aD)
   (aj (az (N2 K (aQ (aa aF (aa aF ae))) (dG gW (by rfl) T.lb boot_int (aa (B5 (rN (df hr) (NZ K (pv 2) af) (pv 5)) (by with_unfolding_all rfl)) ae)))))) aD)
   (ah (aK (PW.pt (ff (aw (show N7 _ _ (OH K true) from ip) (NZ K (pv 2) af) (pv 3) (by with_unfolding_all rfl)) (eV (PW.pt (eZ (aw bh (NZ K (pv 2) af) aF (aA _)) (eU (aw (show N7 _ _ (OH K true) from ip) (NZ K (pv 2) af) (pv 3) (by with_unfolding_all rfl)))))))) (aj (az aF)) aD)
   (ah (aK (aw (show N7 _ _ (OH K false) from hE) (NZ K (pv 2) af) (cM (psc:=aq oo) (own:=["_law_row"]) (frn:=[]) (fr:=[]) (by exact⟨rfl,by trivial,by trivial,by trivial,by trivial,by trivial⟩) rfl rfl rfl (bG (by decide:0 < 1)) (bC (pv 4))
    (fun C s2 H2 fp=>⟨(aG (i:=0) (show (["_law_row"]:List Str).Nodup by trivial) rfl (Or.inl rfl)),dD,(NZ K (pv 0) af)⟩)) (by with_unfolding_all rfl)) (aj (az aF)) aD)
   (ah (aK (PW.pt (eZ (aw bh (NZ K (pv 2) af) aF (aA _)) (eU (aw tw (aJ lW hr.z (aa (NZ K (pv 2) af) (aa (NZ K (pv 2) af) (aa (NZ K (pv 2) af) ae)))) af (aA _))))) (aj (az aF)) aD)
   (aj (az (N2 K (aQ (aa aF (aa aF ae))) (dG gW (by rfl) T.lb boot_int (aa (dX bh (cB K T.bK (aa (pv 4) ae)) af (aA _)) ae))))))))))))),?_⟩
  refine⟨_,rfl,ts,_,rfl,N1.of l.ht,rfl,_,_,rfl,_,_,rfl,_,_,rfl,rfl,?_⟩
  dsimp only[aY,L2.start,List.set]
  have two: ∀ {b:Bool}{z:Str}{x:L2.Due},aO S d=x->(if b=true then V.str z else V.str "")=V.str (wordOf x)-> ∀H',ai H H'->Q (if b=true then V.str z else V.str "") H':=fun {b z x} e1 e2 H' s=>by
   rw[e2,<-e1]
   exact q H' s
  cases d with
  | back =>
   refine⟨_,rfl,td,_,_,_,rfl,rfl,hq,rfl,rfl,_,rfl,cV ⟨(by show 2<=sizeLine; decide),fun p np=>⟨_,rfl,rfl,.inr ⟨_,rfl,p,_,_,_,rfl,rfl,NX.of ag,at2,?_⟩⟩⟩⟩
   by_cases c:S.ks=[]
   .exact two (x:= .nothing) (by rw[aO,Ko c]) (by rw[show decide (V.int (S.ks.length:Nat)=V.int 0)=true from KI (by rw[c]; rfl)]; rfl) _ (ai.upd np)
   .refine two (x:= .ok) (by rw[aO,Kk c]) ?_ _ (ai.upd np)
    rw[show decide (V.int (S.ks.length:Nat)=V.int 0)=false from KH fun z=>c (MU.mp (by have:=V.int.inj z; omega))]
    rfl
  | sM m =>
   refine aN rfl hq rfl (by trivial) ?_
   exact⟨_,rfl,td,_,_,_,rfl,rfl,hq,rfl,rfl,_,rfl,cV ⟨_,rfl,_,rfl,td,_,_,_,rfl,rfl,hq,rfl,_,rfl,td,_,_,_,rfl,rfl,hq,rfl,xs,n,ts,S,_,m,.sM m,rfl,ls,hdl,.inl ⟨rfl,rfl⟩,q⟩⟩
  | sD m =>
   refine aN rfl hq rfl (by trivial) ?_
   exact⟨_,rfl,td,_,_,_,rfl,rfl,hq,rfl,rfl,_,rfl,cV ⟨_,rfl,_,rfl,td,_,_,_,rfl,rfl,hq,rfl,_,rfl,td,_,_,_,rfl,rfl,hq,rfl,xs,n,ts,S,_,m,.sD m,rfl,ls,hdl,.inr (.inl ⟨rfl,rfl⟩),q⟩⟩
  | sT m =>
   refine aN rfl hq rfl (by trivial) ?_
   exact⟨_,rfl,td,_,_,_,rfl,rfl,hq,rfl,rfl,_,rfl,cV ⟨_,rfl,_,rfl,td,_,_,_,rfl,rfl,hq,rfl,_,rfl,td,_,_,_,rfl,rfl,hq,rfl,xs,n,ts,S,_,m,.sT m,rfl,ls,hdl,.inr (.inr ⟨rfl,rfl⟩),q⟩⟩
  | member y =>
   refine aN rfl hq rfl (by trivial) ?_
   refine aN rfl hq rfl (by trivial) ?_
   refine⟨_,rfl,td,_,_,_,rfl,rfl,hq,rfl,rfl,_,rfl,cV ?_⟩
   by_cases hm:y∈aI S
   .refine⟨_,rfl,td,_,_,_,rfl,rfl,hq,rfl,_,rfl,ln,_,rfl,.inl (NX.of l.hn),rfl,ck _,true,Lm V.bl ((cX y _).trans (KI hm)),aZ ?_⟩
    have:=q H (ai.refl H)
    rw[aO,Ko hm] at this
    exact this
   .refine⟨_,rfl,td,_,_,_,rfl,rfl,hq,rfl,_,rfl,ln,_,rfl,.inl (NX.of l.hn),rfl,ck _,false,Lm V.bl ((cX y _).trans (KH hm)),aM ?_⟩
    refine⟨(by show 2<=sizeLine; decide),fun p np=>⟨_,rfl,_,_,rfl,.inl ⟨_,NX.of (ai.upd np _ _ l.hn),rfl⟩,rfl,.inr ⟨_,rfl,p,_,_,_,rfl,rfl,NX.of ag,at2,?_⟩⟩⟩
    rw[Kj,Kj]
    by_cases c:12<=S.ms.length
    .exact two (x:= .full) (by rw[aO,Kk hm,Ko c]) (by rw[show decide (V.int (S.ms.length:Nat)=V.int 12)=true from KI (by rw[show S.ms.length=12 by omega]; rfl)]; rfl) _ (ai.upd np)
    .exact two (x:= .ok) (by rw[aO,Kk hm,Kk c]) (by rw[show decide (V.int (S.ms.length:Nat)=V.int 12)=false from KH fun z=>c (by have:=V.int.inj z; omega)]; rfl) _ (ai.upd np)
  | top m wd =>
   refine aN rfl hq rfl (by trivial) ?_
   refine aN rfl hq rfl (by trivial) ?_
   refine aN rfl hq rfl (by trivial) ?_
   refine⟨_,rfl,td,_,_,_,rfl,rfl,hq,rfl,rfl,_,rfl,cV ?_⟩
   by_cases hm:m∈aI S
   .refine⟨_,rfl,td,_,_,_,rfl,rfl,hq,rfl,_,rfl,ln,_,rfl,.inl (NX.of l.hn),rfl,ck _,false,Lm V.bl (by show (!Of (.str m) _)=false; rw[cX]; show (!decide (m∈aI S))=false; rw[KI hm]; rfl),aM ?_⟩
    refine⟨(by show 2<=sizeLine; decide),fun p np=>⟨_,rfl,td,_,_,_,rfl,rfl,(ai.upd np).js hq,rfl,_,rfl,dd,_,rfl,dw.k (k:=Sum.inr m) (ai.upd np _ _ l.hd),.inr ⟨_,rfl,p,_,_,_,rfl,rfl,NX.of ag,at2,?_⟩⟩⟩
    rw[l.cp m]
    cases ec:bQ S.ms m with
    | none=>exact two (x:= .ok) (by rw[aO,Kk (fun z=>z hm),Kk (by rw[ec]; exact fun z=>z rfl)]) rfl _ (ai.upd np)
    | some c=>exact two (x:= .inUse) (by rw[aO,Kk (fun z=>z hm),Ko (by rw[ec]; intro z; cases z)]) rfl _ (ai.upd np)
   .refine⟨_,rfl,td,_,_,_,rfl,rfl,hq,rfl,_,rfl,ln,_,rfl,.inl (NX.of l.hn),rfl,ck _,true,Lm V.bl (by show (!Of (.str m) _)=true; rw[cX]; show (!decide (m∈aI S))=true; rw[KH hm]; rfl),aZ ?_⟩
    have:=q H (ai.refl H)
    rw[aO,Ko hm] at this
    exact this
  | plain y m pp e o =>
   obtain⟨o1,o2,o3⟩:Nm y/\Nm m/\Oj pp e o:=ok
   refine aN rfl hq rfl (by trivial) ?_
   refine aN rfl hq rfl (by trivial) ?_
   refine aN rfl hq rfl (by trivial) ?_
   refine aN rfl hq rfl (by trivial) ?_
   by_cases hm:m∈aI S
   rotate_left
   .refine⟨_,rfl,td,_,_,_,rfl,rfl,hq,rfl,_,rfl,ln,_,rfl,.inl (NX.of l.hn),rfl,ck _,true,Lm V.bl (by show (!Of (.str m) _)=true; rw[cX]; show (!decide (m∈aI S))=true; rw[KH hm]; rfl),aZ (aZ ?_)⟩
    have:=q H (ai.refl H)
    rw[aO,Ko hm] at this
    exact this
   refine⟨_,rfl,td,_,_,_,rfl,rfl,hq,rfl,_,rfl,ln,_,rfl,.inl (NX.of l.hn),rfl,ck _,false,Lm V.bl (by show (!Of (.str m) _)=false; rw[cX]; show (!decide (m∈aI S))=false; rw[KI hm]; rfl),aM ?_⟩
   refine⟨_,rfl,td,_,_,_,rfl,rfl,hq,rfl,rfl,_,rfl,NW (aM ?_)⟩
   refine⟨_,rfl,td,_,_,_,rfl,rfl,hq,rfl,_,rfl,la,rfl,⟨_,NX.of l.ha⟩,fJ (fun d=>V.str d.1) (fun d=>rfl) (bq (NX.of l.ha)) l.ar (by omega) fun p1 np1=>⟨p1,_,rfl,.inl (NX.of ag),rfl,pZ _,_,rfl,?_⟩⟩
   have s1:=ai.upd (o:= .lst (S.ds.map fun d=>V.str d.1)) np1
   generalize upd H p1 (.lst (S.ds.map fun d=>V.str d.1))=H1 at s1
   show if Of (.str y) _=true then _ else _
   rw[vo]
   by_cases hn:y∈bg S
   .rw[show decide (y∈S.ds.map (·.1))=true from KI hn]
    refine aZ ?_
    have:=q _ s1
    rw[aO,Kk (fun z=>z hm),Ko hn] at this
    exact this
   rw[show decide (y∈S.ds.map (·.1))=false from KH hn]
   have hq1:=s1.js hq
   refine aM ⟨_,rfl,td,_,_,_,rfl,rfl,hq1,rfl,rfl,_,rfl,cV ⟨_,rfl,td,_,_,_,rfl,rfl,hq1,rfl,_,rfl,td,_,_,_,rfl,rfl,hq1,rfl,_,rfl,td,_,_,_,rfl,rfl,hq1,rfl,pp,e,o,rfl,o3,_,_,rfl,rfl,_,rfl,?_⟩⟩
   by_cases hp:99999 < eI pp e o
   .rw[show decide (99999 < eI pp e o)=true from KI hp]
    refine aZ ?_
    have:=q _ s1
    rw[aO,Kk (fun z=>z hm),Kk hn,Ko hp] at this
    exact this
   rw[show decide (99999 < eI pp e o)=false from KH hp]
   refine aM ⟨(by show 2<=sizeLine; decide),fun p np=>⟨_,rfl,_,_,rfl,.inl ⟨_,NX.of (ai.upd np _ _ (s1 _ _ l.ha)),rfl⟩,rfl,.inr ⟨_,rfl,p,_,_,_,rfl,rfl,NX.of ag,at2,?_⟩⟩⟩
   rw[l.ar.length]
   by_cases c:24<=S.ds.length
   .exact two (x:= .full) (by rw[aO,Kk (fun z=>z hm),Kk hn,Kk hp,Ko c]) (by rw[show decide (V.int (S.ds.length:Nat)=V.int 24)=true from KI (by rw[show S.ds.length=24 by omega]; rfl)]; rfl) _ (s1.trans (ai.upd np))
   .exact two (x:= .ok) (by rw[aO,Kk (fun z=>z hm),Kk hn,Kk hp,Kk c]) (by rw[show decide (V.int (S.ds.length:Nat)=V.int 24)=false from KH fun z=>c (by have:=V.int.inj z; omega)]; rfl) _ (s1.trans (ai.upd np))
  | link y m b mo =>
   refine aN rfl hq rfl (by trivial) ?_
   refine aN rfl hq rfl (by trivial) ?_
   refine aN rfl hq rfl (by trivial) ?_
   refine aN rfl hq rfl (by trivial) ?_
   by_cases hm:m∈aI S
   rotate_left
   .refine⟨_,rfl,td,_,_,_,rfl,rfl,hq,rfl,_,rfl,ln,_,rfl,.inl (NX.of l.hn),rfl,ck _,true,Lm V.bl (by show (!Of (.str m) _)=true; rw[cX]; show (!decide (m∈aI S))=true; rw[KH hm]; rfl),aZ (aZ ?_)⟩
    have:=q H (ai.refl H)
    rw[aO,Ko (.inl hm)] at this
    exact this
   refine⟨_,rfl,td,_,_,_,rfl,rfl,hq,rfl,_,rfl,ln,_,rfl,.inl (NX.of l.hn),rfl,ck _,false,Lm V.bl (by show (!Of (.str m) _)=false; rw[cX]; show (!decide (m∈aI S))=false; rw[KI hm]; rfl),aM ?_⟩
   by_cases hb:b∈aI S
   rotate_left
   .refine⟨_,rfl,td,_,_,_,rfl,rfl,hq,rfl,rfl,_,rfl,cV ⟨_,rfl,td,_,_,_,rfl,rfl,hq,rfl,_,rfl,ln,_,rfl,.inl (NX.of l.hn),rfl,ck _,true,Lm V.bl (by show (!Of (.str b) _)=true; rw[cX]; show (!decide (b∈aI S))=true; rw[KH hb]; rfl),aZ ?_⟩⟩
    have:=q H (ai.refl H)
    rw[aO,Ko (.inr hb)] at this
    exact this
   have hu: ¬(m∉aI S\/b∉aI S):=fun z=>z.elim (fun z=>z hm) fun z=>z hb
   refine⟨_,rfl,td,_,_,_,rfl,rfl,hq,rfl,rfl,_,rfl,cV ⟨_,rfl,td,_,_,_,rfl,rfl,hq,rfl,_,rfl,ln,_,rfl,.inl (NX.of l.hn),rfl,ck _,false,Lm V.bl (by show (!Of (.str b) _)=false; rw[cX]; show (!decide (b∈aI S))=false; rw[KI hb]; rfl),aM ?_⟩⟩
   refine⟨_,rfl,td,_,_,_,rfl,rfl,hq,rfl,_,rfl,la,rfl,⟨_,NX.of l.ha⟩,fJ (fun d=>V.str d.1) (fun d=>rfl) (bq (NX.of l.ha)) l.ar (by omega) fun p1 np1=>⟨p1,_,rfl,.inl (NX.of ag),rfl,pZ _,_,rfl,?_⟩⟩
   have s1:=ai.upd (o:= .lst (S.ds.map fun d=>V.str d.1)) np1
   generalize upd H p1 (.lst (S.ds.map fun d=>V.str d.1))=H1 at s1
   show if Of (.str y) _=true then _ else _
   rw[vo]
   by_cases hn:y∈bg S
   .rw[show decide (y∈S.ds.map (·.1))=true from KI hn]
    refine aZ ?_
    have:=q _ s1
    rw[aO,Kk hu,Ko hn] at this
    exact this
   rw[show decide (y∈S.ds.map (·.1))=false from KH hn]
   have hq1:=s1.js hq
   refine aM ⟨_,rfl,td,_,_,_,rfl,rfl,hq1,rfl,rfl,_,rfl,NW (aM ?_)⟩
   refine⟨(by show 2<=sizeLine; decide),fun p np=>⟨_,rfl,_,_,rfl,.inl ⟨_,NX.of (ai.upd np _ _ (s1 _ _ l.ha)),rfl⟩,rfl,.inr ⟨_,rfl,p,_,_,_,rfl,rfl,NX.of ag,at2,?_⟩⟩⟩
   rw[l.ar.length]
   by_cases c:24<=S.ds.length
   .exact two (x:= .full) (by rw[aO,Kk hu,Kk hn,Ko c]) (by rw[show decide (V.int (S.ds.length:Nat)=V.int 24)=true from KI (by rw[show S.ds.length=24 by omega]; rfl)]; rfl) _ (s1.trans (ai.upd np))
   .exact two (x:= .ok) (by rw[aO,Kk hu,Kk hn,Kk c]) (by rw[show decide (V.int (S.ds.length:Nat)=V.int 24)=false from KH fun z=>c (by have:=V.int.inj z; omega)]; rfl) _ (s1.trans (ai.upd np))
def DH (K:NY):Sp:=fun vs H Q _=> ∃(xs:List Addr) (n:Nat) (ts td:Addr) (S:N3) (d:dC),vs=[.ref ts,.ref td]/\LS xs n H ts S.ms S.ds/\(∀b∈xs,∃o,H b=some o)/\n<=500/\Gd S/\N1 K H td (lg d)/\OL d/\aO S d= .ok/\(∀z,d=z->z≠ .back)/\ ∀(ts':Addr) (H':Hp),ai H H'->LS xs (n+1) H' ts' (iB S d).ms (iB S d).ds->Q (.ref ts') H'
theorem zb {ms:List Mem}{j:Nat}{m:Str}(nd:(ms.map (·.1)).Nodup) (hj:(ms.map (·.1))[j]?=some m):(ms.map (·.1)).eraseIdx j=(ms.filter fun x=>decide (x.1≠m)).map (·.1):=by
 rw[<-uU nd hj,List.eraseIdx_eq_take_drop_succ,KN,List.map_take,List.map_drop]
theorem Eb (T:Txt K mg a):N8 P w K mg base 2 "_law_after" ["_law_state","_law_deed_here"] (DH K):=by
 have lW:=@vj P w K mg base a T
 refine bf T.oB hU (fun _ _ _ _ _ _=>Oa fun _ _=>rfl) (fun vs H Q E h=>?_) fun f c A o s H vs Q E hr h=>?_
 .obtain⟨xs,n,ts,td,S,d,rfl,_⟩:=h
  rfl
 .obtain⟨xs,n,ts,td,S,d,rfl,⟨ln0,la0,dd0,vs,kvs,l⟩,hx,hn,g,hq,ok,due,nb,q⟩:=h
  obtain⟨ml,dl,mn,dn,mN,dN⟩:=g.now
  have vl:=l.ar.length
  have fr: ∀ {b:Addr},H b=none->b∉xs:=fun {b} e z=>by obtain⟨o,e'⟩:=hx b z; rw[e] at e'; cases e'
  refine⟨_,(ah (ax (i:=2) hU.nd rfl (Or.inl rfl) (dG (show de _ _ (pU K) from jc) (by rfl) T.i7 boot_list (aa (NZ K (pv 0) af) ae)))
   (ah (ax (i:=3) hU.nd rfl (Or.inl rfl) (dG (show de _ _ (pU K) from jc) (by rfl) T.i7 boot_list (aa (NZ K (pv 0) af) ae)))
   (ah (ax (i:=4) hU.nd rfl (Or.inl rfl) (dG xF (by rfl) T.xX boot_dict (aa (NZ K (pv 0) af) ae)))
   (dS (aK (aw bh (NZ K (pv 1) af) aF (aA _)) (aj (aU (show PE _ _ (Oh K _ _ _ _) from cz Kw KR KS bS (pv 2) (aa (NZ K (pv 1) af) ae)))) (aj (aK (aw bh (NZ K (pv 1) af) aF (aA _)) (aj (vN (df hr) (pv 4) (NZ K (pv 1) af) (NZ K (pv 1) af) rfl)) (aj (aK (aw bh (NZ K (pv 1) af) aF (aA _)) (aj (aU (show PE _ _ (Oh K _ _ _ _) from cz Kw KR KS bS (pv 3) (aa (bM (aa (NZ K (pv 1) af) (aa (NZ K (pv 1) af) (aa bJ (aa (aJ lW hr.z (aa (NZ K (pv 1) af) (aa (NZ K (pv 1) af) (aa (NZ K (pv 1) af) ae)))) ae))))) ae)))) (aj (aK (aw bh (NZ K (pv 1) af) aF (aA _)) (aj (aU (show PE _ _ (Oh K _ _ _ _) from cz Kw KR KS bS (pv 3) (aa (bM (aa (NZ K (pv 1) af) (aa (NZ K (pv 1) af) (aa (NZ K (pv 1) af) (aa (NZ K (pv 1) af) ae))))) ae)))) (aj (aK (aw bh (NZ K (pv 1) af) aF (aA _)) (aj (mU (i:=3) hU.nd rfl (Or.inl rfl) (psc:=aq lj) (own:=["_law_row"]) (frn:=["_law_deed_here"]) (fr:=[1]) (by exact⟨rfl,by trivial,by trivial,by trivial,by trivial,by trivial⟩) rfl rfl rfl (bG (by decide:0 < 1)) (bC (pv 3))
    (fun C s2 H2 fp=>⟨(aG (i:=0) (show (["_law_row","_law_deed_here"]:List Str).Nodup by trivial) rfl (Or.inl rfl)),(iA (aw gP (NZ K (pv 0) af) (NZ K (pv 1) af) (aA _))),(pv 0)⟩))) (dS (aK (aw bh (NZ K (pv 1) af) aF (aA _)) (aj (aU (show PE _ _ (Oh K _ _ _ _) from cz Kw PySem.F.slot_list_remove PySem.F.type_list_remove Bt (pv 2) (aa (NZ K (pv 1) af) ae)))) aD)
   (aj (aK (pR (rN (df hr) (NZ K (pv 1) af) (pv 4)) (by with_unfolding_all rfl)) (aj (aU (Ej (pv 4) (NZ K (pv 1) af) (by constructor <;> first | rfl | (intros; rfl))))) aD))))))))))))
   (aj (az (bM (aa (pv 2) (aa (pv 3) (aa (pv 4) ae)))))))))),?_⟩
  refine⟨_,rfl,ts,_,_,_,rfl,rfl,N1.of l.ht,rfl,ln0,_,rfl,.inl (NX.of l.hn),fun ln nln=>?_⟩
  have s1:=ai.upd (o:= .lst ((S.ms.map (·.1)).map V.str)) nln
  have h1:(upd H ln (.lst ((S.ms.map (·.1)).map V.str))) ln=some (.lst ((S.ms.map (·.1)).map V.str)):=ag
  generalize upd H ln (.lst ((S.ms.map (·.1)).map V.str))=H1 at s1 h1
  refine⟨_,rfl,ts,_,_,_,rfl,rfl,N1.of (s1 _ _ l.ht),rfl,la0,_,rfl,.inl (NX.of (s1 _ _ l.ha)),fun la nla1=>?_⟩
  have nla:=s1.free nla1
  have s2':=ai.upd (o:= .lst vs) nla1
  have s2:=s1.trans s2'
  have h2:(upd H1 la (.lst vs)) la=some (.lst vs):=ag
  generalize upd H1 la (.lst vs)=H2 at s2 s2' h2
  have h12:=s2' _ _ h1
  refine⟨_,rfl,ts,_,_,_,rfl,rfl,N1.of (s2 _ _ l.ht),rfl,dd0,kvs,rfl,s2 _ _ l.hd,fun dd ndd2=>?_⟩
  have ndd:=s2.free ndd2
  have s3':=ai.upd (o:= .dK kvs) ndd2
  have s3:=s2.trans s3'
  have h3:(upd H2 dd (.dK kvs)) dd=some (.dK kvs):=ag
  have h13:=s3' _ _ h12
  have h23:=s3' _ _ h2
  dsimp only[aY,L2.start,List.set]
  generalize upd H2 dd (.dK kvs)=H3 at s3 s3' h3 h13 h23
  have hq3:=s3.js hq
  have nl1:ln≠la:=fE h13 h23 |> fun _=>fun z=>by
   have:=nla1
   rw[<-z,h1] at this
   cases this
  have nl2:ln≠dd:=fE h13 h3 (by intro z; cases z)
  have nl3:la≠dd:=fE h23 h3 (by intro z; cases z)
  have ar3:F2 (mC xs H3) vs S.ds:=l.ar.imp fun v d ⟨t,e,a,b⟩=>⟨t,e,a,s3 _ _ b⟩
  have rowne: ∀ {t:Addr}{u:List V},H t=some (.tup u)->t≠ln/\t≠la/\t≠dd:=fun e=>⟨aB e nln,aB e nla,aB e ndd⟩
  refine Jt (fun σ' H'=> ∃(la2:Addr) (vs2:List V) (kvs2:Oi),σ'=[some (.ref ts),some (.ref td),some (.ref ln),some (.ref la2),some (.ref dd)]/\ai H H'/\H la2=none/\H' ln=some (.lst (((iB S d).ms.map (·.1)).map V.str))/\H' la2=some (.lst vs2)/\F2 (mC xs H') vs2 (iB S d).ds/\H' dd=some (.dK kvs2)/\(∀m,aV kvs2 (Sum.inr m)=(bQ (iB S d).ms m).map V.int)/\kvs2.length<=n+1) (fun D2 mk2 _=>?_) ?_
  rotate_left
  .rintro σ' H' ⟨la2,vs2,kvs2,rfl,sm,nla2,g1,g2,g3,g4,g5,g6⟩
   refine⟨_,rfl,_,rfl,_,rfl,(by show 3<=sizeLine; decide),fun ts' nts=>?_⟩
   have s5:=ai.upd (o:= .tup [.ref ln,.ref la2,.ref dd]) nts
   refine q ts' _ (sm.trans s5) ⟨ln,la2,dd,vs2,kvs2,fr (sm.free nts),ag,fr nln,s5 _ _ g1,fr nla2,s5 _ _ g2,g3.imp fun v d ⟨t,e,a,b⟩=>⟨t,e,a,s5 _ _ b⟩,fr ndd,s5 _ _ g4,g5,g6⟩
  have kl:=l.kl
  cases d with
  | back=>exact absurd rfl (nb _ rfl)
  | member y =>
   refine⟨_,rfl,td,_,_,_,rfl,rfl,hq3,rfl,rfl,_,rfl,cV ⟨_,rfl,.inl ⟨rfl,_,NX.of h13⟩,_,rfl,td,_,_,_,rfl,rfl,hq3,rfl,ln,_,_,rfl,rfl,h13,by rw[Kj,Kj]; exact aH (by omega),?_⟩⟩
   have hm:y∉aI S:=fun z=>by rw[aO,Ko z] at due; cases due
   refine mk2 _ _ ⟨la,vs,kvs,rfl,s3.cN nln,nla,?_,(ao (KW nl1)).trans h23,ar3.imp fun v d ⟨t,e,a,b⟩=>⟨t,e,a,?_⟩,(ao (KW nl2)).trans h3,fun m=>?_,by omega⟩
   .rw[ag]
    show some (HO.lst ((aI S).map V.str++[V.str y]))=some (HO.lst (((S.ms++[((y,none):Mem)]).map fun x:Mem=>x.1).map V.str))
    rw[KN,KN]
    rfl
   .exact (ao (fE b h13 (by intro z; cases z))).trans b
   .show _=(bQ (S.ms++[(y,none)]) m).map V.int
    rw[CA hm]
    exact l.cp m
  | top m wd =>
   refine aN rfl hq3 rfl (by trivial) ?_
   have hm:m∈aI S:=Lh fun z=>by rw[aO,Ko z] at due; cases due
   refine⟨_,rfl,td,_,_,_,rfl,rfl,hq3,rfl,rfl,_,rfl,cV ⟨_,rfl,td,_,_,_,rfl,rfl,hq3,rfl,_,rfl,_,rfl,td,_,_,_,rfl,rfl,hq3,rfl,dd,_,rfl,rZ.k (k:=Sum.inr m) h3 (aH (by omega)),?_⟩⟩
   refine mk2 _ _ ⟨la,vs,_,rfl,s3.cN ndd,nla,?_,(ao nl3).trans h23,ar3.imp fun v d ⟨t,e,a,b⟩=>⟨t,e,a,(ao (fE b h3 (by intro z; cases z))).trans b⟩,ag,fun m'=>?_,?_⟩
   .rw[ao nl2,h13]
    show _=some (HO.lst (((fV S.ms m (some wd)).map (·.1)).map V.str))
    rw[fA]
   .show _=(bQ (fV S.ms m (some wd)) m').map V.int
    rw[nU,we hm]
    by_cases c:m'=m
    .rw[Ko (by rw[c]),Ko c]; rfl
    .rw[Kk (fun z=>c (NU z)),Kk c]; exact l.cp m'
   .have:=i6 kvs (Sum.inr m:Key) (V.int wd)
    omega
  | plain y m pp e o =>
   obtain⟨o1,o2,o3⟩:Nm y/\Nm m/\Oj pp e o:=ok
   refine aN rfl hq3 rfl (by trivial) ?_
   refine aN rfl hq3 rfl (by trivial) ?_
   refine⟨_,rfl,td,_,_,_,rfl,rfl,hq3,rfl,rfl,_,rfl,cV ⟨_,rfl,.inl ⟨rfl,_,NX.of h23⟩,_,rfl,td,_,_,_,rfl,rfl,hq3,rfl,_,rfl,td,_,_,_,rfl,rfl,hq3,rfl,_,rfl,td,_,_,_,rfl,rfl,hq3,rfl,_,rfl,td,_,_,_,rfl,rfl,hq3,rfl,_,rfl,td,_,_,_,rfl,rfl,hq3,rfl,pp,e,o,rfl,o3,(by show 4<=sizeLine; decide),fun t nt=>?_⟩⟩
   have s4:=ai.upd (o:= .tup [.str y,.str m,.non,.int (eI pp e o)]) nt
   have ht:(upd H3 t (.tup [.str y,.str m,.non,.int (eI pp e o)])) t=some (.tup (j7 (y,m,none,eI pp e o))):=ag
   generalize upd H3 t (.tup [.str y,.str m,.non,.int (eI pp e o)])=H4 at s4 ht
   refine⟨la,_,_,rfl,rfl,s4 _ _ h23,by rw[vl]; exact aH (by omega),?_⟩
   have keep: ∀ {b:Addr}{u:List V},H4 b=some (.tup u)->(upd H4 la (.lst (vs++[.ref t]))) b=some (.tup u):=fun e=>(ao (fE e (s4 _ _ h23) (by intro z; cases z))).trans e
   refine mk2 _ _ ⟨la,_,kvs,rfl,(s3.trans s4).cN nla,nla,(ao nl1).trans (s4 _ _ h13),ag,F2.append (ar3.imp fun v d ⟨t,e,a,b⟩=>⟨t,e,a,keep (s4 _ _ b)⟩) (.cons ⟨t,rfl,fr (s3.free nt),keep ht⟩ .nil),(ao (KW nl3)).trans (s4 _ _ h3),l.cp,by omega⟩
  | link y m b mo =>
   refine aN rfl hq3 rfl (by trivial) ?_
   refine aN rfl hq3 rfl (by trivial) ?_
   refine aN rfl hq3 rfl (by trivial) ?_
   refine⟨_,rfl,td,_,_,_,rfl,rfl,hq3,rfl,rfl,_,rfl,cV ⟨_,rfl,.inl ⟨rfl,_,NX.of h23⟩,_,rfl,td,_,_,_,rfl,rfl,hq3,rfl,_,rfl,td,_,_,_,rfl,rfl,hq3,rfl,_,rfl,td,_,_,_,rfl,rfl,hq3,rfl,_,rfl,td,_,_,_,rfl,rfl,hq3,rfl,(by show 4<=sizeLine; decide),fun t nt=>?_⟩⟩
   have s4:=ai.upd (o:= .tup [.str y,.str m,.str b,.int mo]) nt
   have ht:(upd H3 t (.tup [.str y,.str m,.str b,.int mo])) t=some (.tup (j7 (y,m,some b,mo))):=ag
   generalize upd H3 t (.tup [.str y,.str m,.str b,.int mo])=H4 at s4 ht
   refine⟨la,_,_,rfl,rfl,s4 _ _ h23,by rw[vl]; exact aH (by omega),?_⟩
   have keep: ∀ {b:Addr}{u:List V},H4 b=some (.tup u)->(upd H4 la (.lst (vs++[.ref t]))) b=some (.tup u):=fun e=>(ao (fE e (s4 _ _ h23) (by intro z; cases z))).trans e
   refine mk2 _ _ ⟨la,_,kvs,rfl,(s3.trans s4).cN nla,nla,(ao nl1).trans (s4 _ _ h13),ag,F2.append (ar3.imp fun v d ⟨t,e,a,b⟩=>⟨t,e,a,keep (s4 _ _ b)⟩) (.cons ⟨t,rfl,fr (s3.free nt),keep ht⟩ .nil),(ao (KW nl3)).trans (s4 _ _ h3),l.cp,by omega⟩
  | sD y =>
   refine aN rfl hq3 rfl (by trivial) ?_
   refine aN rfl hq3 rfl (by trivial) ?_
   refine aN rfl hq3 rfl (by trivial) ?_
   refine aN rfl hq3 rfl (by trivial) ?_
   refine⟨_,rfl,td,_,_,_,rfl,rfl,hq3,rfl,rfl,_,rfl,cV ⟨_,rfl,la,rfl,⟨_,NX.of h23⟩,?_⟩⟩
   refine b8 (xs:=vs) (fun i ys H'=>H'=H3/\ys.length<=i/\F2 (mC xs H3) ys ((S.ds.take i).filter fun x=>decide (x.1≠y))) (fun i ys H' _ h=>by rw[h.1]; exact bq (NX.of h23)) ⟨rfl,Kn _,.nil⟩ (aH (by omega)) (fun i ys H' h=>h.2.1) ?_ ?_
   .rintro i ys H4 x hi ⟨rfl,hyl,hY⟩
    obtain⟨dm,hdm,t,rfl,ti,ht⟩:=ar3.get hi
    have tk:(S.ds.take (i+1)).filter (fun x=>decide (x.1≠y))=(S.ds.take i).filter (fun x=>decide (x.1≠y))++(if dm.1=y then [] else [dm]):=by
     rw[La,hdm,Lz]
     congr 1
     show [dm].filter _=_
     by_cases c:dm.1=y <;> simp[c]
    refine⟨_,rfl,t,_,_,_,rfl,rfl,N1.of ht,rfl,_,rfl,td,_,_,_,rfl,rfl,hq3,rfl,rfl,_,rfl,?_⟩
    rw[tk]
    by_cases c:dm.1=y
    .rw[show (!decide (V.str dm.1=V.str y))=false from by rw[c]; simp,Ko c,Ly]
     exact aM ⟨rfl,by omega,hY⟩
    .rw[show (!decide (V.str dm.1=V.str y))=true from by simp[c],Kk c]
     exact aZ ⟨_,rfl,rfl,by rw[Kr]; show ys.length+1<=i+1; omega,hY.append (.cons ⟨t,rfl,ti,ht⟩ .nil)⟩
   .rintro ys H4 p2 ⟨rfl,hyl,hY⟩ np
    rw[vl,K5] at hY
    have s4:=ai.upd (o:= .lst ys) np
    exact mk2 _ _ ⟨p2,ys,kvs,rfl,s3.trans s4,s3.free np,s4 _ _ h13,ag,hY.imp fun v d ⟨t,e,a,b⟩=>⟨t,e,a,s4 _ _ b⟩,s4 _ _ h3,l.cp,by omega⟩
  | sM m =>
   refine aN rfl hq3 rfl (by trivial) ?_
   refine aN rfl hq3 rfl (by trivial) ?_
   refine aN rfl hq3 rfl (by trivial) ?_
   refine aN rfl hq3 rfl (by trivial) ?_
   refine aN rfl hq3 rfl (by trivial) ?_
   have hm:m∈aI S:=Lh fun z=>by rw[aO,Ko z] at due; cases due
   obtain⟨j,j1,j2⟩:=ig hm
   refine⟨fun σ' H'=>σ'=[some (.ref ts),some (.ref td),some (.ref ln),some (.ref la),some (.ref dd)]/\H'=upd H3 ln (.lst (((S.ms.filter fun x=>decide (x.1≠m)).map (·.1)).map V.str)),?_,?_⟩
   .refine⟨_,rfl,td,_,_,_,rfl,rfl,hq3,rfl,rfl,_,rfl,cV ⟨_,rfl,.inl ⟨rfl,_,NX.of h13⟩,_,rfl,td,_,_,_,rfl,rfl,hq3,rfl,ln,aI S,m,j,rfl,rfl,h13,j1,j2,rfl,?_⟩⟩
    show upd H3 ln (.lst (((S.ms.map fun x:Mem=>x.1).eraseIdx j).map V.str))=_
    rw[zb mn j1]
   rintro σ' H4 ⟨rfl,rfl⟩
   have keep: ∀ {b:Addr}{u:List V},H3 b=some (.tup u)->(upd H3 ln (.lst (((S.ms.filter fun x=>decide (x.1≠m)).map (·.1)).map V.str))) b=some (.tup u):=fun e=>(ao (fE e h13 (by intro z; cases z))).trans e
   have hd4:(upd H3 ln (.lst (((S.ms.filter fun x=>decide (x.1≠m)).map (·.1)).map V.str))) dd=some (.dK kvs):=(ao (KW nl2)).trans h3
   have sm4:ai H (upd H3 ln (.lst (((S.ms.filter fun x=>decide (x.1≠m)).map (·.1)).map V.str))):=s3.cN nln
   have hn4:(upd H3 ln (.lst (((S.ms.filter fun x=>decide (x.1≠m)).map (·.1)).map V.str))) ln=some (.lst (((S.ms.filter fun x=>decide (x.1≠m)).map (·.1)).map V.str)):=ag
   have ha4:(upd H3 ln (.lst (((S.ms.filter fun x=>decide (x.1≠m)).map (·.1)).map V.str))) la=some (.lst vs):=(ao (KW nl1)).trans h23
   have ar4:F2 (mC xs (upd H3 ln (.lst (((S.ms.filter fun x=>decide (x.1≠m)).map (·.1)).map V.str)))) vs S.ds:=ar3.imp fun v d ⟨t,e,a,b⟩=>⟨t,e,a,keep b⟩
   generalize upd H3 ln (.lst (((S.ms.filter fun x=>decide (x.1≠m)).map (·.1)).map V.str))=H4 at sm4 hd4 hn4 ha4 ar4
   have hq4:=sm4.js hq
   refine⟨_,rfl,td,_,_,_,rfl,rfl,hq4,rfl,_,rfl,dd,_,rfl,dw.k (k:=Sum.inr m) hd4,_,rfl,?_⟩
   cases ev:aV kvs (Sum.inr m) with
   | none =>
    refine aM (mk2 _ _ ⟨la,vs,kvs,rfl,sm4,nla,hn4,ha4,ar4,hd4,fun m'=>?_,by omega⟩)
    show _=(bQ (S.ms.filter fun x=>decide (x.1≠m)) m').map V.int
    rw[wx]
    by_cases c:m'=m
    .rw[Ko c,c,ev]; rfl
    .rw[Kk c]; exact l.cp m'
   | some v =>
    refine aZ ⟨_,rfl,dd,rfl,.inl ⟨kvs,.inl hd4⟩,_,rfl,td,_,_,_,rfl,rfl,hq4,rfl,kvs,Sum.inr m,v,hd4,rfl,ev,?_⟩
    refine mk2 _ _ ⟨la,vs,_,rfl,sm4.cN ndd,nla,(ao nl2).trans hn4,(ao nl3).trans ha4,ar4.imp fun v d ⟨t,e,a,b⟩=>⟨t,e,a,(ao (fE b hd4 (by intro z; cases z))).trans b⟩,ag,fun m'=>?_,by have:=qf kvs (Sum.inr m:Key); omega⟩
    show _=(bQ (S.ms.filter fun x=>decide (x.1≠m)) m').map V.int
    rw[wx,wg]
    by_cases c:m'=m
    .rw[Ko (by rw[c]),Ko c]; rfl
    .rw[Kk (fun z=>c (NU z)),Kk c]; exact l.cp m'
  | sT m =>
   refine aN rfl hq3 rfl (by trivial) ?_
   refine aN rfl hq3 rfl (by trivial) ?_
   refine aN rfl hq3 rfl (by trivial) ?_
   refine aN rfl hq3 rfl (by trivial) ?_
   refine aN rfl hq3 rfl (by trivial) ?_
   refine⟨fun σ' H'=>σ'=[some (.ref ts),some (.ref td),some (.ref ln),some (.ref la),some (.ref dd)]/\H'=H3,⟨_,rfl,td,_,_,_,rfl,rfl,hq3,rfl,rfl,_,rfl,NW ⟨rfl,rfl⟩⟩,?_⟩
   rintro σ' H4 ⟨rfl,rfl⟩
   have hc:bQ S.ms m≠none:=fun z=>by rw[aO,Ko z] at due; cases due
   have hm:m∈aI S:=Lh fun z=>hc (uo z)
   refine⟨_,rfl,td,_,_,_,rfl,rfl,hq3,rfl,_,rfl,dd,_,rfl,dw.k (k:=Sum.inr m) h3,_,rfl,?_⟩
   cases ev:aV kvs (Sum.inr m) with
   | none=>rw[l.cp m] at ev; cases ec:bQ S.ms m with
    | none=>exact absurd ec hc
    | some c=>rw[ec] at ev; cases ev
   | some v =>
    refine aZ ⟨_,rfl,dd,rfl,.inl ⟨kvs,.inl h3⟩,_,rfl,td,_,_,_,rfl,rfl,hq3,rfl,kvs,Sum.inr m,v,h3,rfl,ev,?_⟩
    refine mk2 _ _ ⟨la,vs,_,rfl,s3.cN ndd,nla,?_,(ao nl3).trans h23,ar3.imp fun v d ⟨t,e,a,b⟩=>⟨t,e,a,(ao (fE b h3 (by intro z; cases z))).trans b⟩,ag,fun m'=>?_,by have:=qf kvs (Sum.inr m:Key); omega⟩
    .rw[ao nl2,h13]
     show _=some (HO.lst (((fV S.ms m none).map (·.1)).map V.str))
     rw[fA]
    .show _=(bQ (fV S.ms m none) m').map V.int
     rw[we hm,wg]
     by_cases c:m'=m
     .rw[Ko (by rw[c]),Ko c]; rfl
     .rw[Kk (fun z=>c (NU z)),Kk c]; exact l.cp m'
theorem FF {x:L2.Due}:(wordOf x= "")↔x= .ok:=by
 cases x <;> simp[wordOf] <;> decide +kernel
def FH (K:NY) (a:Adr):Sp:=fun vs H Q _=> ∃(n:Nat) (h:Addr) (os:List Addr) (pl ts td:Addr) (S:N3) (d:dC),vs=[.ref h,.ref ts,.ref pl,.ref td]/\Wd a.House n H h os pl ts S/\n<=500/\S.ks.length < 150/\td∉pl::os/\H td=some (.tup (lg d))/\OL d/\ ∀(os':List Addr) (ts':Addr) (H':Hp),Wd a.House (n+1) H' h os' pl ts' (cO S d)->OU pl os os' H H'->Q (.ref ts') H'
theorem E6 (T:Txt K mg a):N8 P w K mg base 7 "_law_step" ["_law_house","_law_state","_law_past","_law_deed_here"] (FH K a):=by
 have CS:=@Hy P w K mg base a T
 have qA:=@zR P w K mg base a T
 have zo:=@Eb P w K mg base a T
 refine bf T.pY tT (fun _ _ _ _ _ _=>Pn fun _ _ _ _=>rfl) (fun vs H Q E h=>?_) fun f c A o s H vs Q E hr h=>?_
 .obtain⟨n,h,os,pl,ts,td,S,d,rfl,_⟩:=h
  rfl
 .obtain⟨n,h,os,pl,ts,td,S,d,rfl,wd,hn,hk,tdo,hq,ok,q⟩:=h
  obtain⟨pz,hp,hF⟩:=wd.pv
  have pl':=hF.length
  have g:=wd.gd
  refine⟨_,(ah (ax (i:=4) tT.nd rfl (Or.inl rfl) (aJ CS hr.z (aa (pv 1) (aa (cB K T.bK (aa (pv 2) ae)) (aa (pv 3) ae)))))
   (ah (aK (aw gP (aJ qA hr.z (aa (pv 0) (aa (pv 3) ae))) (pv 4) (aA _)) (aj (az bJ)) aD)
   (ah (aK (aw gP (pv 4) aF (aA _)) (aj (az (pv 1))) aD)
   (ah (aK (aw bh (NZ K (pv 3) af) aF (aA _)) (aj (az (show PE _ _ (vx K _ _ _) from sI Kw Mj Ml yJ (pv 2)))) aD)
   (ah (aU (show PE _ _ (Oh K _ _ _ _) from cz Kw KR KS bS (pv 2) (aa (pv 1) ae)))
   (aj (az (aJ zo hr.z (aa (pv 1) (aa (pv 3) ae)))))))))),?_⟩
  refine⟨_,rfl,_,rfl,_,_,rfl,.inl ⟨_,NX.of hp,rfl⟩,_,rfl,?_⟩
  rw[pl']
  refine⟨pl::os,n,ts,td,S,d,rfl,wd.ls,g.now.ml,g.now.dl,N1.of hq,ok,fun H1 s1=>?_⟩
  have wd1:=wd.same s1
  have hq1:=s1 _ _ hq
  refine⟨_,rfl,_,rfl,h,os,S,d,td,rfl,wd1.it,g,hk,N1.of hq1,ok,fun H2 hN=>?_⟩
  obtain⟨so,os',hI2,nw⟩:=hN
  obtain⟨po2,mv,pv2,hp2,hp1⟩:=wd1.E3 so nw
  obtain rfl:pv2=pz:=by rw[s1 _ _ hp] at hp1; cases hp1; rfl
  have ls2:LS (pl::os') n H2 ts S.ms S.ds:=wd1.ls.mono mv (Kn _)
  have hF2:F2 (fun v k=> ∃t,v=V.ref t/\LS (pl::os') (n+1) H2 t k.1 k.2) pv2 S.ks:=hF.imp fun v k ⟨t,e,z⟩=>⟨t,e,(z.same s1).mono mv (MB _)⟩
  have td2:=mv td _ tdo hq1
  have fr2:OU pl os os' H H2:=⟨fun b o nb e=>(mv b o nb (s1 _ _ e)).1,fun b hb=>(nw b hb).imp (fun z=>z) fun z=>s1.free z,_,hp2⟩
  refine⟨_,rfl,rfl,_,rfl,?_⟩
  rw[show (!decide (V.str (wordOf (aO S d))=V.str (wordOf (aO S d))))=false from by simp]
  refine aM ⟨_,rfl,rfl,_,rfl,?_⟩
  by_cases due:aO S d= .ok
  rotate_left
  .rw[show (!decide (V.str (wordOf (aO S d))=V.str ""))=true from by
    rw[KH fun z=>due (FF.mp (V.str.inj z))]; rfl]
   have en:cO S d=S:=by unfold cO; rw[Kk due]
   rw[en] at hI2
   refine aZ ⟨_,rfl,q os' ts H2 ?_ fr2⟩
   rw[en]
   exact⟨hI2,po2,⟨pv2,hp2,hF2⟩,ls2.mono (fun b o nb e=>⟨e,nb⟩) (MB _),g⟩
  rw[show (!decide (V.str (wordOf (aO S d))=V.str ""))=false from by
   rw[due]; simp[wordOf]]
  have en:cO S d=iB S d:=by unfold cO; rw[Ko due]
  have gn:Gd (cO S d):=zN g ok
  refine aM ?_
  have occ: ∀b∈pl::os',∃o,H2 b=some o:=fun b hb=>by
   rcases Ks.mp hb with rfl | hb
   .exact⟨_,hp2⟩
   .exact hI2.has b hb
  by_cases hb:d= .back
  .subst hb
   refine⟨_,rfl,td,_,_,_,rfl,rfl,N1.of td2.1,rfl,rfl,_,rfl,cV ?_⟩
   rcases Mh S.ks with hk0 | ⟨ks,k,hk0⟩
   .rw[aO,Ko hk0] at due; cases due
   have hk0:S.ks=ks++[k]:=by rw[hk0,Mi]
   have es:iB S .back=⟨k.1,k.2,ks⟩:=by
    show (match S.ks.getLast? with | some k=>(⟨k.1,k.2,S.ks.dropLast⟩:N3) | none=>S)=_
    rw[show S.ks.getLast?=some k from by rw[hk0]; simp,show S.ks.dropLast=ks from by rw[hk0]; simp]
   rw[hk0] at hF2
   have l2:=hF2.length
   rw[Kr,M0] at l2
   obtain⟨v,hv,t,rfl,lt⟩:=hF2.at' (i:=ks.length) (b:=k) (by simp)
   refine⟨_,rfl,.inl ⟨rfl,_,NX.of hp2⟩,pl,pv2,.ref t,rfl,rfl,hp2,by rw[show pv2.length - 1=ks.length by omega]; exact hv,?_⟩
   have hF3:=hF2.take ks.length
   rw[ME (Kn _),K5] at hF3
   have edl:pv2.dropLast=pv2.take ks.length:=by rw[List.dropLast_eq_take,show pv2.length - 1=ks.length by omega]
   rw[edl]
   have mv3: ∀b o,b∉pl::os'->H2 b=some o->(upd H2 pl (.lst (pv2.take ks.length))) b=some o/\b∉pl::os':=fun b o nb e=>⟨(ao (fun z=>nb (by rw[z]; simp))).trans e,nb⟩
   refine q os' t _ ?_ ⟨fun b o nb e=>(ao (fun z=>nb (by rw[z]; simp))).trans (fr2.1 b o nb e),fr2.2.1,_,ag⟩
   rw[en,es] at hI2 gn
   rw[en,es]
   refine⟨hI2.grow fun b o hb e=>(ao (show b≠pl from fun z=>po2 (z▸hb))).trans e,po2,⟨_,ag,hF3.imp fun v k ⟨t,e,z⟩=>⟨t,e,z.mono mv3 (Kn _)⟩⟩,lt.mono mv3 (Kn _),gn⟩
  .have hw: ∃w0 r0,lg d= .str w0::r0/\w0≠ "back" := by
    cases d with
    | back=>exact absurd rfl hb
    | member y=>exact⟨_,_,rfl,by trivial⟩
    | plain y m pp e o=>exact⟨_,_,rfl,by trivial⟩
    | link y m b mo=>exact⟨_,_,rfl,by trivial⟩
    | top m w=>exact⟨_,_,rfl,by trivial⟩
    | sM m=>exact⟨_,_,rfl,by trivial⟩
    | sD m=>exact⟨_,_,rfl,by trivial⟩
    | sT m=>exact⟨_,_,rfl,by trivial⟩
   obtain⟨w0,r0,ew,nw0⟩:=hw
   have td3:=td2.1
   rw[ew] at td3
   refine⟨_,rfl,td,_,_,_,rfl,rfl,N1.of td3,(show Ob _ ((0:Nat):Int)=_ from cm rfl),rfl,_,rfl,lx nw0 ?_⟩
   refine⟨_,rfl,.inl ⟨rfl,_,NX.of hp2⟩,_,rfl,pl,_,_,rfl,rfl,hp2,aH (by omega),?_⟩
   have mv3: ∀b o,b∉pl::os'->H2 b=some o->(upd H2 pl (.lst (pv2++[.ref ts]))) b=some o/\b∉pl::os':=fun b o nb e=>⟨(ao (fun z=>nb (by rw[z]; simp))).trans e,nb⟩
   have ls3:=ls2.mono mv3 (Kn _)
   have hF3:F2 (fun v k=> ∃t,v=V.ref t/\LS (pl::os') (n+1) (upd H2 pl (.lst (pv2++[.ref ts]))) t k.1 k.2) (pv2++[.ref ts]) (S.ks++[(S.ms,S.ds)]):=F2.append (hF2.imp fun v k ⟨t,e,z⟩=>⟨t,e,z.mono mv3 (Kn _)⟩) (.cons ⟨ts,rfl,ls3.mono (fun b o nb e=>⟨e,nb⟩) (MB _)⟩ .nil)
   have occ3: ∀b∈pl::os',∃o,(upd H2 pl (.lst (pv2++[.ref ts]))) b=some o:=fun b hb=>by
    by_cases z:b=pl
    .rw[z]; exact⟨_,ag⟩
    .obtain⟨o,e⟩:=occ b hb; exact⟨o,(ao z).trans e⟩
   have hI3:HI a.House (upd H2 pl (.lst (pv2++[.ref ts]))) h os' (cO S d):=hI2.grow fun b o hb e=>(ao (show b≠pl from fun z=>po2 (z▸hb))).trans e
   have fr3:OU pl os os' H (upd H2 pl (.lst (pv2++[.ref ts]))):=⟨fun b o nb e=>(ao (fun z=>nb (by rw[z]; simp))).trans (fr2.1 b o nb e),fr2.2.1,_,ag⟩
   have td4:=(mv3 td _ td2.2 td2.1).1
   have hp3:(upd H2 pl (.lst (pv2++[.ref ts]))) pl=some (.lst (pv2++[.ref ts])):=ag
   generalize upd H2 pl (.lst (pv2++[.ref ts]))=H3 at ls3 hF3 occ3 hI3 fr3 td4 hp3
   refine⟨_,rfl,_,rfl,pl::os',n,ts,td,S,d,rfl,ls3,occ3,hn,g,N1.of td4,ok,due,fun z e z2=>hb (e.trans z2),fun ts' H4 s4 ls4=>?_⟩
   refine q os' ts' H4 ?_ ⟨fun b o nb e=>s4 _ _ (fr3.1 b o nb e),fr3.2.1,_,s4 _ _ hp3⟩
   have ek:(cO S d).ks=S.ks++[(S.ms,S.ds)]:=by
    rw[en]
    cases d with
    | back=>exact absurd rfl hb
    | _=>rfl
   refine⟨hI3.grow fun b o _ e=>s4 _ _ e,po2,⟨_,s4 _ _ hp3,?_⟩,?_,gn⟩
   .rw[ek]
    exact hF3.imp fun v k ⟨t,e,z⟩=>⟨t,e,z.same s4⟩
   .rw[en]
    exact ls4
theorem mZ {ys:List Str}{i:Int}(h0:0<=i) (h1:i < ys.length) (hN: ∀y∈ys,Nm y): ∃y,Ob (ys.map V.str) i=some (.str y)/\Nm y:=by
 obtain⟨k,rfl⟩: ∃k:Nat,i=(k:Int):=⟨i.toNat,by omega⟩
 obtain⟨y,hy,hm⟩:=CD (ys:=ys) (i:=k) (by omega)
 exact⟨y,hy,hN y hm⟩
def FW (K:NY):Sp:=fun vs H Q _=> ∃(wd:Int) (pn:Addr) (pool:List Str) (call:Str) (block small kinds:Int),vs=[.int wd,.ref pn,.str call,.int block,.int small,.int kinds]/\0<=wd/\H pn=some (.lst (pool.map V.str))/\0 < pool.length/\(∀y∈pool,Nm y)/\Nm call/\0<=block/\block<=4/\(small=0\/small=1)/\1<=kinds/\kinds<=24 /\
 ∀(t:Addr) (d:dC) (H':Hp),ai H H'->H t=none->H' t=some (.tup (lg d))->OL d->Q (.ref t) H'
theorem Fo (T:Txt K mg a):N8 P w K mg base 1 "_law_deed" ["_law_word","_law_pool","_law_call","_law_block","_law_small","_law_kinds"] (FW K):=by
 refine bf T.qK dy (fun _ _ _ _ _ _=>PF fun _ _ _ _ _ _=>rfl) (fun vs H Q E h=>?_) fun f c A o s H vs Q E hr h=>?_
 .obtain⟨wd,pn,pool,call,block,small,kinds,rfl,_⟩:=h
  rfl
 .obtain⟨wd,pn,pool,call,block,small,kinds,rfl,w0,hp,pl0,hN,hcall,b0,b4,hsm,k17,k24,q⟩:=h
  refine⟨_,(ah (ax (i:=6) dy.nd rfl (Or.inl rfl) (ay bD (ay bR (pv 0) af) (cB K T.bK (aa (pv 1) ae))))
   (ah (ax (i:=7) dy.nd rfl (Or.inl rfl) (ay bD (ay bR (pv 0) af) (cB K T.bK (aa (pv 1) ae))))
   (ah (ax (i:=8) dy.nd rfl (Or.inl rfl) (ay bR (pv 0) af))
   (ah (ax (i:=9) dy.nd rfl (Or.inl rfl) (ay bD (ay bD (pv 0) af) (pv 5)))
   (ah (aK (PW.pt (eZ (aw oq (pv 9) af (aA _)) (eU (aw bh (pv 4) af (aA _))))) (aj (az (bM (aa aF (aa (pv 2) (aa (N2 K (pv 1) (pv 6)) (aa (ay bD (pv 8) af) (aa (ay bN af (ay bD (ay bR (pv 8) af) af)) (aa (ay bN af (ay bD (ay bR (pv 8) af) af)) ae))))))))) aD)
   (ah (aK (aw oq (pv 9) af (aA _)) (ah (ax (i:=10) dy.nd rfl (Or.inl rfl) (ay bN af (ay bD (ay bR (pv 8) af) af)))
   (dS (aK (aw bh (ay bD (ay bR (pv 8) af) af) af (aA _)) (aj (ax (i:=10) dy.nd rfl (Or.inl rfl) (ay bN af (ay bD (pv 10) af)))) aD)
   (aj (az (bM (aa aF (aa (pv 2) (aa (N2 K (pv 1) (pv 6)) (aa (ay bD (pv 8) af) (aa (ay bN af (ay bD (ay bR (pv 8) af) af)) (aa (pv 10) ae))))))))))) aD)
   (ah (aK (aw oq (pv 9) af (aA _)) (ah (ax (i:=11) dy.nd rfl (Or.inl rfl) (ay bD (pv 8) (N2 K (aQ (aa af (aa af ae))) (pv 4))))
   (dS (aK (PW.pt (eZ (aw tw (pv 3) af (aA _)) (eU (aw bh (ay bR (pv 6) (pv 3)) (ay bR (pv 7) (pv 3)) (aA _))))) (aj (ax (i:=11) dy.nd rfl (Or.inl rfl) af)) (aj (aK (aw tw (pv 3) af (aA _)) (aj (G8 (i:=6) (j:=7) rfl dy.nd rfl rfl (by decide) rfl rfl (aa (bz (jC rfl) (by rfl) T.lq boot_max (aa (pv 6) (aa (pv 7) ae))) (aa (bz (wG rfl) (by rfl) T.uQ boot_min (aa (pv 6) (aa (pv 7) ae))) ae)) (by with_unfolding_all rfl))) aD)))
   (aj (az (bM (aa aF (aa (pv 2) (aa (N2 K (pv 1) (pv 6)) (aa (N2 K (pv 1) (pv 7)) (aa (pv 11) ae)))))))))) aD)
   (ah (aK (aw oq (pv 9) af (aA _)) (aj (az (bM (aa aF (aa (N2 K (pv 1) (pv 6)) (aa (ay bD (pv 8) (N2 K (aQ (aa af (aa af ae))) (pv 4))) ae)))))) aD)
   (ah (aK (aw oq (pv 9) af (aA _)) (aj (az (bM (aa aF (aa (N2 K (pv 1) (pv 6)) ae))))) aD)
   (ah (aK (aw bh (pv 9) af (aA _)) (aj (az (bM (aa aF ae)))) aD)
   (ah (aK (aw bh (pv 9) af (aA _)) (aj (az (bM (aa aF (aa aF (aa (pv 2) ae)))))) aD)
   (aj (az (bM (aa aF (aa (N2 K (aQ (aa aF (aa aF ae))) (dG gW (by rfl) T.lb boot_int (aa (dX bh (pv 9) af (aA _)) ae))) (aa (N2 K (pv 1) (pv 6)) ae))))))))))))))))),?_⟩
  have lp:(0:Int) < ((pool.map V.str).length:Nat):=by rw[Kj]; omega
  refine⟨_,rfl,_,_,rfl,rfl,⟨by decide,by decide⟩,_,rfl,_,_,rfl,.inl ⟨_,NX.of hp,rfl⟩,_,_,rfl,rfl,lp,?_⟩
  refine⟨_,rfl,_,_,rfl,rfl,⟨by decide,by decide⟩,_,rfl,_,_,rfl,.inl ⟨_,NX.of hp,rfl⟩,_,_,rfl,rfl,lp,?_⟩
  refine⟨_,rfl,_,_,rfl,rfl,⟨by decide,by decide⟩,?_⟩
  refine⟨_,rfl,_,_,rfl,rfl,(by show (0:Int) < 24; decide),_,rfl,_,_,rfl,rfl,(by omega),?_⟩
  have a0:=L3 (wd / 24) (show ((pool.map V.str).length:Int)≠0 by omega)
  have a1:=LW (wd / 24) lp
  have c0:=L3 (wd / 336) (show ((pool.map V.str).length:Int)≠0 by omega)
  have c1:=LW (wd / 336) lp
  have d0:=L3 (wd % 24) (show kinds≠0 by omega)
  have d1:=LW (wd % 24) (show 0 < kinds by omega)
  have z0:0<=wd / 4704:=NR w0 (by decide)
  dsimp only[aY,L2.start,List.set]
  generalize wd / 24 % ((pool.map V.str).length:Nat)=ia at a0 a1
  generalize wd / 336 % ((pool.map V.str).length:Nat)=ib at c0 c1
  generalize wd % 24 % kinds=kd at d0 d1
  generalize wd / 4704=sz at z0
  rw[Kj] at a1 c1
  obtain⟨ya,hya,na⟩:=mZ a0 a1 hN
  obtain⟨yb,hyb,nb⟩:=mZ c0 c1 hN
  have tup: ∀(d:dC),OL d-> ∀t,H t=none->Q (.ref t) (upd H t (.tup (lg d))):=fun d ok t nt=>q t d _ (ai.upd nt) nt ag ok
  refine⟨_,rfl,_,_,rfl,rfl,_,rfl,?_⟩
  refine bF (fun k5=>?_) (fun k5=>?_)
  .have k5:=KQ k5
   have big: ∀o:Int,1<=o->o<=999-> ∀t,H t=none->Q (.ref t) (upd H t (.tup [.str "plain",.str call,.str ya,.int (sz % 1000),.int (1+sz / 1000 % 999),.int o])):=fun o o1 o2 t nt=>tup (.plain call ya (sz % 1000) (1+sz / 1000 % 999) o) ⟨hcall,na,by unfold Oj; omega⟩ t nt
   refine⟨_,rfl,rfl,_,rfl,?_⟩
   refine bF (fun c=>?_) (fun c=>?_)
   .exact⟨_,rfl,_,rfl,_,rfl,pn,_,_,_,rfl,rfl,NX.of hp,hya,_,rfl,_,_,rfl,rfl,(by show (0:Int) < 6; decide),_,rfl,_,_,rfl,rfl,⟨by decide,by decide⟩,_,_,rfl,rfl,(by show (0:Int) < 3; decide),_,_,rfl,rfl,_,rfl,_,_,rfl,rfl,⟨by decide,by decide⟩,_,_,rfl,rfl,(by show (0:Int) < 3; decide),_,_,rfl,rfl,(by show 6<=sizeLine; decide),fun t nt=>tup (.plain call ya (sz % 6) (1+sz / 6 % 3) (1+sz / 18 % 3)) ⟨hcall,na,by unfold Oj; omega⟩ t nt⟩
   .refine⟨_,rfl,_,_,rfl,rfl,_,rfl,?_⟩
    rw[show decide (kd < 5)=true from KI k5]
    refine aZ ⟨_,rfl,_,_,rfl,rfl,⟨by decide,by decide⟩,_,_,rfl,rfl,(by show (0:Int) < 999; decide),_,_,rfl,rfl,?_⟩
    refine⟨fun σ' H'=> ∃o:Int,1<=o/\o<=999/\σ'=[some (.int wd),some (.ref pn),some (.str call),some (.int block),some (.int small),some (.int kinds),some (.int ia),some (.int ib),some (.int sz),some (.int kd),some (.int o),none]/\H'=H,?_,?_⟩
    .refine⟨_,rfl,_,_,rfl,rfl,⟨by decide,by decide⟩,_,_,rfl,rfl,(by show (0:Int) < 4; decide),rfl,_,rfl,?_⟩
     refine bF (fun c=>?_) (fun c=>⟨1+sz / 999000 % 999,by omega,by omega,rfl,rfl⟩)
     exact⟨_,rfl,_,_,rfl,rfl,(by show (0:Int) < 4; decide),_,_,rfl,rfl,1+(1+sz / 999000 % 999) % 4,by omega,by omega,rfl,rfl⟩
    rintro σ' H' ⟨o,o1,o2,rfl,rfl⟩
    exact⟨_,rfl,_,rfl,_,rfl,pn,_,_,_,rfl,rfl,NX.of hp,hya,_,rfl,_,_,rfl,rfl,(by show (0:Int) < 1000; decide),_,rfl,_,_,rfl,rfl,⟨by decide,by decide⟩,_,_,rfl,rfl,(by show (0:Int) < 999; decide),_,_,rfl,rfl,_,rfl,(by show 6<=sizeLine; decide),fun t nt=>big o o1 o2 t nt⟩
  have k5:=Ld (K6 _▸k5)
  refine aM ⟨_,rfl,_,_,rfl,rfl,_,rfl,?_⟩
  rw[show decide (kd < 5)=false from KH k5]
  refine aM ⟨_,rfl,_,_,rfl,rfl,_,rfl,?_⟩
  refine bF (fun k16=>?_) (fun k16=>?_)
  .
   obtain⟨dv,hdv,e1⟩:=PN (k:=small) (x:=100) (y:=3) hsm
   refine⟨_,rfl,(by show 2<=sizeLine; decide),fun u nu=>⟨_,rfl,u,_,_,_,rfl,rfl,NX.of ag,hdv,_,_,rfl,rfl,(by omega),?_⟩⟩
   have s1:=ai.upd (o:= .lst [.int 100,.int 3]) nu
   dsimp only[aY,List.set]
   generalize upd H u (.lst [.int 100,.int 3])=H1 at s1
   have hp1:=s1 _ _ hp
   refine⟨fun σ' H'=> ∃(i j mo:Int),0<=i/\i < pool.length/\0<=j/\j < pool.length/\0<=mo/\mo<=99/\σ'=[some (.int wd),some (.ref pn),some (.str call),some (.int block),some (.int small),some (.int kinds),some (.int i),some (.int j),some (.int sz),some (.int kd),none,some (.int mo)]/\H'=H1,?_,?_⟩
   .have m0:=L3 sz (show dv≠0 by omega)
    have m1:=LW sz (show 0 < dv by omega)
    refine⟨_,rfl,_,_,rfl,rfl,_,rfl,?_⟩
    refine bF (fun cb=>?_) (fun cb=>?_)
    .have cb:=KQ cb
     refine⟨_,rfl,_,rfl,_,_,rfl,rfl,⟨by omega,by omega⟩,_,rfl,_,rfl,_,_,rfl,rfl,⟨by omega,by omega⟩,rfl,_,rfl,?_⟩
     refine bF (fun cc=>⟨ia,ib,0,a0,a1,c0,c1,by decide,by decide,rfl,rfl⟩) (fun cc=>?_)
     refine⟨_,rfl,_,_,rfl,rfl,_,rfl,?_⟩
     rw[show decide (block > 0)=true from KI cb]
     refine aZ ?_
     refine⟨_,rfl,_,rfl,_,_,rfl,_,rfl,_,rfl,_,_,rfl,_,_,rfl,?_⟩
     refine⟨if ib > ia then ib else ia,if ib < ia then ib else ia,sz % dv,?_,?_,?_,?_,m0,by omega,rfl,rfl⟩
     .split <;> omega
     .split <;> omega
     .split <;> omega
     .split <;> omega
    .have cb:=Ld (K6 _▸cb)
     refine aM ⟨_,rfl,_,_,rfl,rfl,_,rfl,?_⟩
     rw[show decide (block > 0)=false from KH cb]
     exact aM ⟨ia,ib,sz % dv,a0,a1,c0,c1,m0,by omega,rfl,rfl⟩
   rintro σ' H' ⟨i,j,mo,i0,i1,j0,j1,mo0,mo1,rfl,rfl⟩
   obtain⟨yi,hyi,ni⟩:=mZ i0 i1 hN
   obtain⟨yj,hyj,nj⟩:=mZ j0 j1 hN
   exact⟨_,rfl,_,rfl,_,rfl,pn,_,_,_,rfl,rfl,NX.of hp1,hyi,_,rfl,_,rfl,pn,_,_,_,rfl,rfl,NX.of hp1,hyj,_,rfl,(by show 5<=sizeLine; decide),fun t nt=>q t (.link call yi yj mo) _ (s1.trans (ai.upd nt)) (s1.free nt) ag ⟨hcall,ni,nj,mo0,mo1⟩⟩
  have k16:=Ld (K6 _▸k16)
  refine⟨_,rfl,_,_,rfl,rfl,_,rfl,?_⟩
  refine bF (fun k18=>?_) (fun k18=>?_)
  .obtain⟨dv,hdv,e1⟩:=PN (k:=small) (x:=100000) (y:=20) hsm
   have m0:=L3 sz (show dv≠0 by omega)
   have m1:=LW sz (show 0 < dv by omega)
   exact⟨_,rfl,_,rfl,pn,_,_,_,rfl,rfl,NX.of hp,hya,_,rfl,(by show 2<=sizeLine; decide),fun u nu=>⟨_,rfl,u,_,_,_,rfl,rfl,NX.of ag,hdv,_,_,rfl,rfl,(by omega),(by show 3<=sizeLine; decide),fun t nt=>q t (.top ya (sz % dv)) _ ((ai.upd nu).trans (ai.upd nt)) ((ai.upd nu).free nt) ag ⟨na,m0,by omega⟩⟩⟩
  refine⟨_,rfl,_,_,rfl,rfl,_,rfl,?_⟩
  refine bF (fun k20=>?_) (fun k20=>?_)
  .exact⟨_,rfl,_,rfl,pn,_,_,_,rfl,rfl,NX.of hp,hya,(by show 2<=sizeLine; decide),fun t nt=>tup (.member ya) na t nt⟩
  refine⟨_,rfl,rfl,_,rfl,?_⟩
  refine bF (fun k20'=>?_) (fun k20'=>?_)
  .exact⟨(by show 1<=sizeLine; decide),fun t nt=>tup .back trivial t nt⟩
  refine⟨_,rfl,rfl,_,rfl,?_⟩
  refine bF (fun k21=>?_) (fun k21=>?_)
  .exact⟨_,rfl,(by show 3<=sizeLine; decide),fun t nt=>tup (.sD call) hcall t nt⟩
  refine⟨(by show 2<=sizeLine; decide),fun u nu=>⟨_,rfl,rfl,.inr ⟨_,rfl,u,_,_,_,rfl,rfl,NX.of ag,at2,?_⟩⟩⟩
  have s1:=ai.upd (o:= .lst [.str "member",.str "top"]) nu
  refine⟨_,rfl,_,rfl,pn,_,_,_,rfl,rfl,NX.of (s1 _ _ hp),hya,(by show 3<=sizeLine; decide),fun t nt=>?_⟩
  generalize decide (V.int kd=V.int 23)=b
  cases b with
  | true=>exact q t (.sT ya) _ (s1.trans (ai.upd nt)) (s1.free nt) ag na
  | false=>exact q t (.sM ya) _ (s1.trans (ai.upd nt)) (s1.free nt) ag na
def n8 (H0 H:Hp) (v:V) (d:dC):Prop:= ∃t,v= .ref t/\H0 t=none/\H t=some (.tup (lg d))/\OL d
theorem n8.same {H0 H H':Hp}{v:V}{d:dC}(s: ∀t o,H t=some (.tup o)->H' t=some (.tup o)) (h:n8 H0 H v d):n8 H0 H' v d:=by
 obtain⟨t,e,a,b,c⟩:=h
 exact⟨t,e,a,s _ _ b,c⟩
theorem P6 {i:Int}(h0:0<=i) (h1:i < 4): ∃b:Int,Ob ([.int 0,.int 1,.int 1,.int 4]:List V) i=some (.int b)/\0<=b/\b<=4:=by
 have h:i=0\/i=1\/i=2\/i=3:=by omega
 rcases h with rfl | rfl | rfl | rfl
 .exact⟨0,rfl,by decide,by decide⟩
 .exact⟨1,rfl,by decide,by decide⟩
 .exact⟨1,rfl,by decide,by decide⟩
 .exact⟨4,rfl,by decide,by decide⟩
theorem Jk {x y:Int}{b:Bool}: ∃s:Int,Ob ([.int x,.int y]:List V) (if b=true then 1 else 0)=some (.int s):=by
 cases b
 .exact⟨x,rfl⟩
 .exact⟨y,rfl⟩
def Hw (K:NY):Sp:=fun vs H Q _=> ∃(sa:Addr) (ns:List Int) (most:Nat),vs=[.ref sa,.int (most:Nat)]/\NX K H sa (ns.map V.int)/\most<=150/\ ∀(p:Addr) (us:List V) (ds:List dC) (H':Hp),H p=none->ai H H'->H' p=some (.lst us)->F2 (n8 H H') us ds->ds.length<=most+12->Q (.ref p) H'
theorem Gp (T:Txt K mg a):N8 P w K mg base 2 "_law_day" ["_law_script","_law_most"] (Hw K):=by
 have zd:=@Dz P w K mg base a T
 have tU:=@DW P w K mg base a T
 have z4:=@Fo P w K mg base a T
 refine bf T.r9 b9 (fun _ _ _ _ _ _=>Oa fun _ _=>rfl) (fun vs H Q E h=>?_) fun f c A o s H vs Q E hr h=>?_
 .obtain⟨sa,ns,most,rfl,_⟩:=h
  rfl
 .obtain⟨sa,ns,most,rfl,hS,hmo,q⟩:=h
  refine⟨_,(ah (ax (i:=2) b9.nd rfl (Or.inl rfl) (aJ zd hr.z (aa (pv 0) (aa (ay bN (pv 1) af) ae))))
   (ah (ax (i:=3) b9.nd rfl (Or.inl rfl) (N2 K (aQ (aa af (aa af (aa af (aa af ae))))) (ay bD (N2 K (pv 2) af) af)))
   (ah (ax (i:=4) b9.nd rfl (Or.inl rfl) (ay bD (ay bR (N2 K (pv 2) af) af) af))
   (ah (ax (i:=5) b9.nd rfl (Or.inl rfl) (bz (wG rfl) (by rfl) T.uQ boot_min (aa af (aa (ay bD (ay bR (N2 K (pv 2) af) af) af) ae))))
   (ah (ax (i:=6) b9.nd rfl (Or.inl rfl) (ay bD (ay bR (N2 K (pv 2) af) af) (ay bN (pv 1) af)))
   (ah (ax (i:=7) b9.nd rfl (Or.inl rfl) af)
   (dS (aK (aw bh (ay bD (ay uk (N2 K (pv 2) af) (ay uS af af)) af) af (aA _)) (aj (ax (i:=6) b9.nd rfl (Or.inl rfl) (pv 1))) aD)
   (dS (aK (aw bh (ay bD (ay uk (N2 K (pv 2) af) (ay uS af af)) af) af (aA _)) (aj (FN (i:=5) (j:=6) (k:=7) rfl b9.nd rfl rfl rfl rfl rfl rfl (aa af (aa (pv 1) (aa af ae))) (by with_unfolding_all rfl))) aD)
   (ah (ax (i:=8) b9.nd rfl (Or.inl rfl) (aJ tU hr.z (aa (N2 K (pv 2) af) (aa (N2 K (aQ (aa (ay bN (pv 5) af) (aa af ae))) (dG gW (by rfl) T.lb boot_int (aa (dX bh (pv 7) af (aA _)) ae))) ae))))
   (ah (ax (i:=9) b9.nd rfl (Or.inl rfl) (aJ tU hr.z (aa (N2 K (pv 2) af) (aa af ae))))
   (ah (ax (i:=10) b9.nd rfl (Or.inl rfl) (aQ ae))
   (ah (bP KL rfl (b6 rfl T.cE (aa (pv 5) ae)) (aG (i:=11) b9.nd rfl (Or.inl rfl))
   (aj (aU (show PE _ _ (Oh K _ _ _ _) from cz Kw KR KS bS (pv 10) (aa (bM (aa aF (aa (N2 K (pv 8) (ay bD (ay bN (pv 11) (ay bD (ay bR (N2 K (pv 2) af) af) af)) (pv 5))) ae))) ae)))))
   (ah (bP KL rfl (b6 rfl T.cE (aa (pv 6) ae)) (aG (i:=11) b9.nd rfl (Or.inl rfl))
   (ah (ax (i:=12) b9.nd rfl (Or.inl rfl) (ay bR (N2 K (pv 2) (ay bN af (pv 11))) af))
   (ah (ax (i:=13) b9.nd rfl (Or.inl rfl) (N2 K (aQ (aa (pv 11) (aa (ay uk (pv 12) (ay uS af af)) ae))) (dG gW (by rfl) T.lb boot_int (aa (dX bh (ay bD (N2 K (pv 2) (ay bN af (pv 11))) af) af (aA _)) ae))))
   (aj (aU (show PE _ _ (Oh K _ _ _ _) from cz Kw KR KS bS (pv 10) (aa (aJ z4 hr.z (aa (pv 12) (aa (pv 8) (aa (N2 K (pv 9) (ay bD (pv 13) af)) (aa (pv 3) (aa (pv 4) (aa (pv 7) ae))))))) ae)))))))
   (aj (az (pv 10)))))))))))))))),?_⟩
  refine⟨_,rfl,_,rfl,_,_,rfl,rfl,sa,ns,most+3,rfl,hS,by omega,fun p ws H1 np s1 hp hwl h0=>?_⟩
  have p0:=fv (ws:=ws) (i:=0) (by decide) (by omega)
  have p1:=fv (ws:=ws) (i:=1) (by decide) (by omega)
  have p2:=fv (ws:=ws) (i:=2) (by decide) (by omega)
  obtain⟨block,hb,b0,b4⟩:=P6 (i:=MA.g ws 2 % 4) (by omega) (by omega)
  refine⟨(by show 4<=sizeLine; decide),fun u nu=>⟨_,rfl,p,_,_,_,rfl,rfl,NX.of (ai.upd nu _ _ hp),p2,_,_,rfl,rfl,(by show (0:Int) < 4; decide),u,_,_,_,rfl,rfl,NX.of ag,hb,?_⟩⟩
  have s2:=s1.trans (ai.upd (o:= .lst [.int 0,.int 1,.int 1,.int 4]) nu)
  have hp2:=ai.upd (o:= .lst [.int 0,.int 1,.int 1,.int 4]) nu _ _ hp
  dsimp only[aY,L2.start,List.set]
  generalize upd H1 u (.lst [.int 0,.int 1,.int 1,.int 4])=H2 at s2 hp2
  have hs2:=NX.of (K:=K) hp2
  refine⟨_,rfl,p,_,_,_,rfl,rfl,hs2,p2,_,_,rfl,rfl,⟨by decide,by decide⟩,_,_,rfl,rfl,(by show (0:Int) < 2; decide),?_⟩
  refine⟨_,rfl,p,_,_,_,rfl,rfl,hs2,p2,_,_,rfl,rfl,⟨by decide,by decide⟩,_,_,rfl,rfl,(by show (0:Int) < 17; decide),_,_,rfl,?_⟩
  refine⟨_,rfl,p,_,_,_,rfl,rfl,hs2,p2,_,_,rfl,rfl,⟨by decide,by decide⟩,_,rfl,_,_,rfl,rfl,_,_,rfl,rfl,(by omega),?_⟩
  have hsm:=mod2 (MA.g ws 2 / 4)
  have hm0:=L3 (MA.g ws 2 / 1904) (show ((most:Nat):Int)+1≠0 by omega)
  have hm1:=LW (MA.g ws 2 / 1904) (show (0:Int) < ((most:Nat):Int)+1 by omega)
  obtain⟨fi0,ef,f1⟩: ∃fi:Nat,(if MA.g ws 2 / 8 % 17 < 12 then MA.g ws 2 / 8 % 17 else 12)=(fi:Int)/\fi<=12:=⟨(if MA.g ws 2 / 8 % 17 < 12 then MA.g ws 2 / 8 % 17 else 12).toNat,by split <;> omega,by split <;> omega⟩
  obtain⟨ma0,em,m1⟩: ∃ma:Nat,MA.g ws 2 / 1904 % (((most:Nat):Int)+1)=(ma:Int)/\ma<=most:=⟨(MA.g ws 2 / 1904 % (((most:Nat):Int)+1)).toNat,by omega,by omega⟩
  dsimp only[aY,List.set]
  rw[ef,em]
  generalize MA.g ws 2 / 4 % 2=small at hsm
  refine⟨fun σ' H'=> ∃ma:Nat,ma<=most/\σ'=[some (.ref sa),some (.int (most:Nat)),some (.ref p),some (.int block),some (.int small),some (.int (fi0:Nat)),some (.int (ma:Nat)),some (.int 24),none,none,none,none,none,none]/\H'=H2,?_,?_⟩
  .refine⟨_,rfl,p,_,_,_,rfl,rfl,hs2,p2,_,_,rfl,rfl,⟨by decide,by decide,by decide⟩,_,_,rfl,rfl,⟨by decide,by decide⟩,_,_,rfl,rfl,(by show (0:Int) < 3; decide),rfl,_,rfl,?_⟩
   refine bF (fun c=>⟨_,rfl,most,Kn _,rfl,rfl⟩) (fun c=>⟨ma0,m1,rfl,rfl⟩)
  rintro σ' H' ⟨ma1,m2,rfl,rfl⟩
  refine⟨fun σ' H''=> ∃(fi ma:Nat) (ki:Int),fi<=12/\ma<=most/\(ki=24\/(ki=17/\fi=12))/\σ'=[some (.ref sa),some (.int (most:Nat)),some (.ref p),some (.int block),some (.int small),some (.int (fi:Nat)),some (.int (ma:Nat)),some (.int ki),none,none,none,none,none,none]/\ai H' H'',?_,?_⟩
  .refine⟨_,rfl,p,_,_,_,rfl,rfl,hs2,p2,_,_,rfl,rfl,⟨by decide,by decide,by decide⟩,_,_,rfl,rfl,⟨by decide,by decide⟩,_,_,rfl,rfl,(by show (0:Int) < 6; decide),rfl,_,rfl,?_⟩
   refine bF (fun c=>?_) (fun c=>⟨fi0,ma1,24,f1,m2,.inl rfl,rfl,ai.refl _⟩)
   exact⟨_,rfl,_,_,_,rfl,12,most,17,Kn _,Kn _,.inr ⟨rfl,rfl⟩,rfl,ai.refl _⟩
  clear ef em m1 f1 fi0 ma0 m2 ma1
  rintro σ' H3 ⟨fi,ma,ki,f1,m1,hki,rfl,s3'⟩
  have s3:=s2.trans s3'
  have hp3:=s3' _ _ hp2
  refine⟨_,rfl,p,_,_,_,rfl,rfl,NX.of hp3,p0,_,rfl,_,_,rfl,rfl,(by show 2<=sizeLine; decide),fun u nu=>⟨_,rfl,rfl,.inr ⟨_,rfl,u,_,_,_,rfl,rfl,NX.of ag,at2,?_⟩⟩⟩
  obtain⟨npl,enp,n1,n2,n3⟩: ∃npl:Nat,(if decide (V.int ki=V.int 17)=true then V.int 12 else V.int (((fi:Nat):Int)+2))=V.int (npl:Nat)/\fi<=npl/\0 < npl/\npl<=32:=by
   rcases hki with rfl | ⟨rfl,rfl⟩
   .exact⟨fi+2,by rw[show decide (V.int 24=V.int 17)=false from KH fun z=>by have:=V.int.inj z; omega]; rfl,by omega,by omega,by omega⟩
   .exact⟨12,by rw[show decide (V.int 17=V.int 17)=true from KI rfl]; rfl,Kn _,by decide,by decide⟩
  rw[enp]
  have s4:=s3.trans (ai.upd (o:= .lst [.int (((fi:Nat):Int)+2),.int 12]) nu)
  have hp4:=ai.upd (o:= .lst [.int (((fi:Nat):Int)+2),.int 12]) nu _ _ hp3
  generalize upd H3 u (.lst [.int (((fi:Nat):Int)+2),.int 12])=H4 at s4 hp4
  refine⟨_,npl,rfl,n3,fun pn pool H5 npn s5 hpn hpl hN=>?_⟩
  have hp5:=s5 _ _ hp4
  refine⟨_,rfl,p,_,_,_,rfl,rfl,NX.of hp5,p1,_,26,rfl,by decide,fun cn calls H6 ncn s6 hcn hcl hcN=>?_⟩
  have hp6:=s6 _ _ hp5
  have hpn6:=s6 _ _ hpn
  have s06:=(s4.trans s5).trans s6
  dsimp only[aY,List.set]
  refine⟨by decide,fun dl ndl=>?_⟩
  have ndl0:=s06.free ndl
  have hdl0:(upd H6 dl (.lst [])) dl=some (.lst []):=ag
  have s67:=ai.upd (o:= .lst []) ndl
  generalize upd H6 dl (.lst [])=H7 at hdl0 s67
  refine⟨_,rfl,_,rfl,by omega,by omega,?_⟩
  rw[KO]
  refine cP (xs:=cw 0 fi) (fun i σ' H'=> ∃(us:List V) (ds:List dC) (v11:Option V),σ'=[some (.ref sa),some (.int (most:Nat)),some (.ref p),some (.int block),some (.int small),some (.int (fi:Nat)),some (.int (ma:Nat)),some (.int ki),some (.ref pn),some (.ref cn),some (.ref dl),v11,none,none]/\ai H6 H'/\H' dl=some (.lst us)/\F2 (n8 H H') us ds/\ds.length=i) ⟨[],[],none,rfl,s67,hdl0,.nil,rfl⟩ (fun i σ' H' _ _=>cG) ?_ ?_
  .rintro i x σ' H' D1 nx1 - hi ⟨us,ds,v11,rfl,sm,hd,hF,hl⟩
   obtain⟨hin,rfl⟩:=cj hi
   have fl:us.length=i:=by rw[hF.length,hl]
   have e0:=L3 (0+(i:Nat)+MA.g ws 2 / 136 % 14) (show ((fi:Nat):Int)≠0 by omega)
   have e1:=LW (0+(i:Nat)+MA.g ws 2 / 136 % 14) (show (0:Int) < ((fi:Nat):Int) by omega)
   obtain⟨y,hy,ny⟩:=mZ e0 (by omega) hN
   refine⟨_,rfl,.inl ⟨rfl,_,NX.of hd⟩,_,rfl,_,rfl,_,rfl,p,_,_,_,rfl,rfl,NX.of (sm _ _ hp6),p2,_,_,rfl,rfl,⟨by decide,by decide⟩,_,_,rfl,rfl,(by show (0:Int) < 14; decide),_,_,rfl,rfl,_,rfl,_,_,rfl,rfl,(by omega),pn,_,_,_,rfl,rfl,NX.of (sm _ _ hpn6),hy,(by show 2<=sizeLine; decide),fun t nt=>?_⟩
   have st:=ai.upd (o:= .tup [.str "member",.str y]) nt
   have ht:(upd H' t (.tup [.str "member",.str y])) t=some (.tup (lg (.member y))):=ag
   generalize upd H' t (.tup [.str "member",.str y])=H8 at st ht
   refine⟨dl,_,_,rfl,rfl,st _ _ hd,aH (by omega),?_⟩
   have kt: ∀t o,H8 t=some (.tup o)->(upd H8 dl (.lst (us++[.ref t]))) t=some (.tup o):=fun t o e=>(ao (fE e (st _ _ hd) (by intro z; cases z))).trans e
   have kt2: ∀b o,H8 b=some (.tup o)->(upd H8 dl (.lst (us++[.ref t]))) b=some (.tup o):=fun b o e=>(ao (fE e (st _ _ hd) (by intro z; cases z))).trans e
   refine nx1 _ _ ⟨_,ds++[.member y],_,rfl,(sm.trans st).cN ndl,ag,F2.append (hF.imp fun v d z=>n8.same kt2 (n8.same (fun t o e=>st _ _ e) z)) (.cons (show n8 H _ (V.ref t) (.member y) from ⟨t,rfl,s06.free (sm.free nt),kt2 _ _ ht,ny⟩) .nil),by rw[Kr,hl]; rfl⟩
  rintro σ' H8 ⟨Py,ds0,v11,rfl,s8,hd8,hF8,hl8⟩
  rw[cL] at hl8
  refine⟨_,rfl,_,rfl,by omega,by omega,?_⟩
  rw[KO]
  refine cP (xs:=cw 0 ma) (fun i σ' H'=> ∃(us:List V) (ds:List dC) (v11 v12 v13:Option V),σ'=[some (.ref sa),some (.int (most:Nat)),some (.ref p),some (.int block),some (.int small),some (.int (fi:Nat)),some (.int (ma:Nat)),some (.int ki),some (.ref pn),some (.ref cn),some (.ref dl),v11,v12,v13]/\ai H6 H'/\H' dl=some (.lst us)/\F2 (n8 H H') us ds/\ds.length=fi+i) ⟨Py,ds0,v11,none,none,rfl,s8,hd8,hF8,hl8⟩ (fun i σ' H' _ _=>cG) ?_ ?_
  .rintro i x σ' H' D1 nx1 - hi ⟨us,ds,v11,v12,v13,rfl,sm,hd,hF,hl⟩
   obtain⟨hin,rfl⟩:=cj hi
   have fl:us.length=fi+i:=by rw[hF.length,hl]
   have hpS:=NX.of (K:=K) (sm _ _ hp6)
   have pi:=fv (ws:=ws) (i:=3+(0+(i:Nat))) (by omega) (by omega)
   have wn:0<=MA.g ws (3+(0+(i:Nat))):=by
    have hlt:(3+(0+(i:Nat)):Int).toNat < ws.length:=by omega
    unfold MA.g
    rw[Ku,Kl hlt]
    exact h0 _ (LU hlt)
   refine⟨_,rfl,_,rfl,_,_,rfl,rfl,p,_,_,_,rfl,rfl,hpS,pi,_,_,rfl,rfl,⟨by decide,by decide⟩,?_⟩
   refine⟨_,rfl,_,rfl,_,_,rfl,rfl,⟨by decide,by decide,by decide⟩,_,_,rfl,rfl,⟨by decide,by decide⟩,(by show 2<=sizeLine; decide),fun u nu=>?_⟩
   obtain⟨spot,es⟩:=Jk (x:=0+(i:Nat)) (y:=MA.g ws (3+(0+(i:Nat))) / 4 / 10 ^ 15) (b:=decide (V.int (MA.g ws (3+(0+(i:Nat))) % 4)=V.int 0))
   refine⟨_,rfl,_,rfl,_,_,rfl,rfl,p,_,_,_,rfl,rfl,(ai.upd nu).seq hpS,pi,_,_,rfl,rfl,(by show (0:Int) < 4; decide),rfl,.inr ⟨_,rfl,u,_,_,_,rfl,rfl,NX.of ag,es,?_⟩⟩
   have wn4:0<=MA.g ws (3+(0+(i:Nat))) / 4:=NR wn (by decide)
   have su:ai H' (upd H' u (.lst [.int (0+(i:Nat)),.int (MA.g ws (3+(0+(i:Nat))) / 4 / 10 ^ Int.toNat 15)])):=ai.upd nu
   dsimp only[aY,List.set]
   generalize upd H' u (.lst [.int (0+(i:Nat)),.int (MA.g ws (3+(0+(i:Nat))) / 4 / 10 ^ Int.toNat 15)])=H9 at su
   have s69:=sm.trans su
   obtain⟨yc,hyc,nc⟩:=mZ (ys:=calls) (i:=spot % 26) (by omega) (by omega) hcN
   refine⟨_,rfl,.inl ⟨rfl,_,NX.of (su _ _ hd)⟩,_,rfl,_,rfl,_,rfl,_,rfl,_,_,rfl,rfl,(by show (0:Int) < 26; decide),cn,_,_,_,rfl,rfl,NX.of (s69 _ _ hcn),hyc,_,rfl,_,rfl,_,rfl,?_⟩
   refine⟨_,pn,pool,yc,block,small,ki,rfl,wn4,s69 _ _ hpn6,by omega,hN,nc,b0,b4,hsm,by rcases hki with z | z <;> omega,by rcases hki with z | z <;> omega,fun t d H10 s10 nt ht ok=>?_⟩
   have hd10:=s10 _ _ (su _ _ hd)
   refine⟨dl,_,_,rfl,rfl,hd10,aH (by omega),?_⟩
   have kt2: ∀b o,H10 b=some (.tup o)->(upd H10 dl (.lst (us++[.ref t]))) b=some (.tup o):=fun b o e=>(ao (fE e hd10 (by intro z; cases z))).trans e
   refine nx1 _ _ ⟨_,ds++[d],_,_,_,rfl,(s69.trans s10).cN ndl,ag,F2.append (hF.imp fun v d z=>n8.same kt2 (n8.same (fun t o e=>(su.trans s10) _ _ e) z)) (.cons ⟨t,rfl,s06.free (s69.free nt),kt2 _ _ ht,ok⟩ .nil),by rw[Kr,hl]; rfl⟩
  .rintro σ' H' ⟨us,ds,v11,v12,v13,rfl,sm,hd,hF,hl⟩
   rw[cL] at hl
   exact⟨_,rfl,q dl us ds H' ndl0 (s06.trans sm) hd hF (by omega)⟩
theorem pW (T:Txt K mg a):N8 P w K mg base 1 "is_link" ["rule"] (AV K):=by
 refine bf T.sQ AZ (fun _ _ _ _ _ _=>Ov fun _=>rfl) (fun vs H Q E h=>?_) fun f c A o s H vs Q E hr h=>?_
 .obtain⟨v,q,rfl,_⟩:=h
  rfl
 .obtain⟨v,q,rfl,⟨p,rfl,hp⟩,k⟩:=h
  refine⟨_,(aj (az (dX gP (NZ K (pv 0) af) (ku T.lR) (aA _)))),?_⟩
  refine⟨_,rfl,p,_,_,_,rfl,rfl,hp,rfl,rfl,?_⟩
  rw[show decide (V.int q.2.1=V.int (-1))=decide (q.2.1= -1) from by simp]
  exact k
theorem yI (T:Txt K mg a):N8 P w K mg base 2 "asked_width" ["rule","widths"] (Dg K):=by
 have lO:=@pW P w K mg base a T
 refine bf T.mD vJ (fun _ _ _ _ _ _=>Oa fun _ _=>rfl) (fun vs H Q E h=>?_) fun f c A o s H vs Q E hr h=>?_
 .obtain⟨v,q,w,ws,rfl,_⟩:=h
  rfl
 .obtain⟨v,q,w,ws,rfl,⟨p,rfl,hp⟩,hw,hk,k⟩:=h
  refine⟨_,(ah (aK (ba (aJ lO hr.z (aa (pv 0) ae)) (fun _=>rfl)) (aj (az (ay bN (N2 K (pv 1) (NZ K (pv 0) af)) (NZ K (pv 0) af)))) aD)
   (aj (az (NZ K (pv 0) af)))),?_⟩
  refine⟨_,rfl,_,q,rfl,⟨p,rfl,hp⟩,_,rfl,?_⟩
  unfold MA.ask at k
  refine bF (fun c=>?_) (fun c=>?_)
  .have c: ¬q.2.1= -1:=by simpa using c
   rw[Kk c] at k
   obtain⟨_,_,h3,h4,_⟩:=hk
   exact⟨_,rfl,_,rfl,p,_,_,_,rfl,rfl,hp,rfl,w,_,_,_,rfl,rfl,hw,fv (by omega) h4,_,rfl,p,_,_,_,rfl,rfl,hp,rfl,_,_,rfl,rfl,k⟩
  .have c:q.2.1= -1:=by simpa using c
   rw[Ko c] at k
   exact⟨_,rfl,p,_,_,_,rfl,rfl,hp,rfl,k⟩
theorem AD {rs:List MA.av}{ws:List Int}{i:Nat}{q:MA.av}(h:rs[i]?=some q):bU (rs.take (i+1)) ws=eh (bU (rs.take i) ws) q:=by
 unfold bU
 rw[La,h,LK]
 rfl
theorem AL (T:Txt K mg a):N8 P w K mg base 3 "widened" ["rules","widths"] (AU K):=by
 have mB:=@yI P w K mg base a T
 refine bf T.rg qa (fun _ _ _ _ _ _=>Oa fun _ _=>rfl) (fun vs H Q E h=>?_) fun f c A o s H vs Q E hr h=>?_
 .obtain⟨r,rs,w,ws,rfl,_⟩:=h
  rfl
 .obtain⟨r,rs,w,ws,rfl,⟨xs,hx,hX⟩,hw,hk,k⟩:=h
  refine⟨_,(ah (ax (i:=2) qa.nd rfl (Or.inl rfl) (dG (show de _ _ (pU K) from jc) (by rfl) T.i7 boot_list (aa (pv 1) ae)))
   (ah (bP KL rfl (bC (pv 0)) (aG (i:=3) qa.nd rfl (Or.inl rfl))
   (aj (gY (bz (jC rfl) (by rfl) T.lq boot_max (aa (N2 K (pv 2) (NZ K (pv 3) af)) (aa (aJ mB hr.z (aa (pv 3) (aa (pv 2) ae))) ae))) (lz (pv 2) (NZ K (pv 3) af) set_list))))
   (aj (az (pv 2))))),?_⟩
  refine⟨_,rfl,w,_,rfl,.inl hw,fun l hl=>?_⟩
  refine⟨_,rfl,r,rfl,⟨_,(ai.upd hl).seq hx⟩,?_⟩
  refine cK (xs:=xs) (fun i σ' H'=> ∃v,σ'=[some (.ref r),some (.ref w),some (.ref l),v]/\ai H H'/\H' l=some (.lst ((bU (rs.take i) ws).map V.int))) ⟨none,rfl,ai.upd hl,ag⟩ (fun i σ' H' _ ⟨_,_,sm,_⟩=>bq (sm.seq hx)) ?_ ?_
  .rintro i x σ' H' hi ⟨v,rfl,sm,hl'⟩
   obtain⟨q,hq,p,rfl,hp⟩:=hX.get hi
   have kq:N5 ws.length q:=hk q (Kp hq)
   have hlen:(bU (rs.take i) ws).length=ws.length:=MA.f6 _ _
   have hp':=sm.js hp
   refine⟨_,rfl,_,rfl,p,_,_,_,rfl,rfl,hp',rfl,l,_,_,_,rfl,rfl,NX.of hl',fv kq.1 (by rw[hlen]; exact kq.2.1),?_⟩
   refine⟨_,rfl,_,rfl,_,q,l,_,rfl,⟨p,rfl,hp'⟩,NX.of hl',by rw[hlen]; exact kq,?_⟩
   refine⟨_,_,rfl,_,rfl,_,rfl,p,_,_,_,rfl,rfl,hp',rfl,l,_,_,_,rfl,rfl,hl',by rw[Kj,hlen]; exact lK kq.1 kq.2.1,?_⟩
   refine⟨some (.ref p),rfl,sm.cN hl,?_⟩
   rw[ag,AD hq,<-Nc]
   rfl
  .rintro σ' H' ⟨v,rfl,sm,hl'⟩
   rw[hX.length,K5] at hl'
   exact⟨_,rfl,k l H' hl sm hl'⟩
theorem nR (T:Txt K mg a):N8 P w K mg base 4 "least_widths" ["count","rules"] (En K):=by
 have B2:=@AL P w K mg base a T
 refine bf T.kD fB (fun _ _ _ _ _ _=>Oa fun _ _=>rfl) (fun vs H Q E h=>?_) fun f c A o s H vs Q E hr h=>?_
 .obtain⟨n,r,rs,rfl,_⟩:=h
  rfl
 .obtain⟨n,r,rs,rfl,hn,hR,hk,k1,k2⟩:=h
  refine⟨_,(ah (ax (i:=2) fB.nd rfl (Or.inl rfl) (ay sL (aQ (aa af ae)) (pv 0)))
   (ah (bP KL rfl (b6 rfl T.cE (aa (ay bN (pv 0) af) ae)) (aG (i:=3) fB.nd rfl (Or.inl rfl))
   (ah (ax (i:=4) fB.nd rfl (Or.inl rfl) (aJ B2 hr.z (aa (pv 1) (aa (pv 2) ae))))
   (ah (aK (aw (show N7 _ _ (GA K) from Gn (df hr)) (pv 4) (pv 2) (aA _)) (aj (az (pv 2))) aD)
   (aj (ax (i:=2) fB.nd rfl (Or.inl rfl) (pv 4))))))
   (aj (az bJ)))),?_⟩
  refine⟨(by show 1<=sizeLine; decide),fun l0 n0=>?_⟩
  refine⟨_,rfl,l0,_,_,rfl,rfl,ag,by omega,by omega,by show 1*(n:Int).toNat<=sizeLine; rw[KO,Nat.one_mul]; exact KP hn (by decide),fun l nl=>?_⟩
  refine⟨_,rfl,_,_,rfl,rfl,_,rfl,by omega,by omega,?_⟩
  have e1:((n:Int)+1).toNat=n+1:=by omega
  rw[e1]
  refine cK (xs:=cw 0 (n+1)) (fun i σ' H'=> ∃p ws v3 v4,σ'=[some (.int n),some (.ref r),some (.ref p),v3,v4]/\H p=none/\ai H H'/\H' p=some (.lst (ws.map V.int))/\ws.length=n/\bA n rs=loop rs (n+1 - i) ws) ?_ (fun i σ' H' _ _=>cG) ?_ ?_
  .refine⟨l,List.replicate n 0,none,none,rfl,(ai.upd n0).free nl,(ai.upd n0).trans (ai.upd nl),?_,by simp,rfl⟩
   rw[ag,KO]
   simp
  .rintro i x σ' H' hi ⟨p,ws,v3,v4,rfl,np,sm,hp,hl,e⟩
   obtain⟨hi,rfl⟩:=cj hi
   rw[show n+1 - i=(n - i)+1 by omega] at e
   unfold loop at e
   refine⟨_,rfl,_,rfl,r,rs,p,ws,rfl,hR.same sm,NX.of hp,by rw[hl]; exact hk,fun p2 H2 np2 sm2 hp2=>?_⟩
   refine⟨_,rfl,_,rfl,p2,p,_,ws,rfl,rfl,NX.of hp2,NX.of (sm2 _ _ hp),_,rfl,?_⟩
   refine bF (fun c=>?_) (fun c=>?_)
   .rw[Ko (KQ c)] at e
    exact⟨_,rfl,k2 p ws H2 np (sm.trans sm2) e (sm2 _ _ hp)⟩
   .rw[Kk (Ld (K6 _▸c))] at e
    refine⟨_,rfl,p2,bU rs ws,_,_,rfl,sm.free np2,sm.trans sm2,hp2,(MA.f6 _ _).trans hl,?_⟩
    rw[show n+1 - (i+1)=n - i by omega]
    exact e
  .rintro σ' H' ⟨p,ws,v3,v4,rfl,np,sm,hp,hl,e⟩
   rw[cL,Nat.sub_self] at e
   exact k1 H' sm e
def xY (rs:List MA.av) (s g:Int):Prop:= ∃S:Int->Prop,S s/\ ¬S g/\ ∀r∈rs,0<=r.2.1->S r.2.1->S r.1
def zf (K:NY):Sp:=fun vs H Q _=> ∃(r:Addr) (rs:List MA.av) (n:Nat) (s g:Int),vs=[.ref r,.int s,.int g]/\OD K H r rs/\(∀q∈rs,N5 n q)/\n<=100/\0<=s/\s < n /\
 (∀H',ai H H'->xY rs s g->Q .non H')/\(∀(H':Hp) (a:Addr) (ps:List Nat),ai H H'->H' a=some (.lst (aX ps))->ps.length<=100->MA.Path rs s g ps->(s::MA.Oo rs ps).Nodup->Q (.ref a) H')
theorem yU (T:Txt K mg a):N8 P w K mg base 1 "find_way" ["rules","start","goal"] (zf K):=by
 refine bf T.qH gA (fun _ _ _ _ _ _=>OG fun _ _ _=>rfl) (fun vs H Q E h=>?_) fun f cdv A outer s0 H vs Q E hr h=>?_
 .obtain⟨r,rs,n,s,g,rfl,_⟩:=h
  rfl
 .obtain⟨r,rs,n,s,g,rfl,⟨xs,hx,hX⟩,hk,hn,hs0,hs1,k1,k2⟩:=h
  refine⟨_,(ah (ax (i:=3) gA.nd rfl (Or.inl rfl) (zO (yo (pv 1) (aQ ae) zF) rfl rfl (by intro z; cases z) (by decide)))
   (ah (ax (i:=4) gA.nd rfl (Or.inl rfl) (aQ (aa (pv 1) ae)))
   (ah (qb KL (PW.pt (eZ (ba (pv 4) (fun _=>rfl)) (eU (pR (r6 (df hr) (pv 2) (pv 3)) (by with_unfolding_all rfl))))) (ah (ax (i:=5) gA.nd rfl (Or.inl rfl) (show PE _ _ (Oh K _ _ _ _) from cz Kw Mj Ml xG (pv 4) (aa af ae)))
   (aj (bP KL rfl (pM rfl T.fF (aa (pv 0) ae)) (gx rfl (bj (aG (i:=6) gA.nd rfl (Or.inl rfl)) (bj (aG (i:=7) gA.nd rfl (Or.inl rfl)) fk)))
   (aj (aK (PW.pt (eZ (aw bh (NZ K (pv 7) af) (pv 5) (aA _)) (eU (pR (r6 (df hr) (NZ K (pv 7) af) (pv 3)) (by with_unfolding_all rfl))))) (ah (vN (df hr) (pv 3) (NZ K (pv 7) af) (ay eE (mY (df hr) (pv 3) (pv 5) (fun _ _=>rfl)) (aQ (aa (pv 6) ae))) rfl)
   (aj (aU (show PE _ _ (Oh K _ _ _ _) from cz Kw KR KS bS (pv 4) (aa (NZ K (pv 7) af) ae))))) aD))))))
   (aj (az (xw (df hr) (pv 3) (pv 2) (by constructor <;> first | rfl | (intros; rfl)))))))),?_⟩
  refine fun d nd=>⟨_,rfl,by decide,fun l0 nl0=>⟨(ao (aB ag nl0)).trans ag,[(Sum.inl s,.ref l0)],rfl,by show 1<=15; decide,?_⟩⟩
  refine⟨_,rfl,(by show 1<=sizeLine; decide),fun q nq=>?_⟩
  have em:nA [] [(Sum.inl s,V.ref l0)]=[((Sum.inl s:Key),V.ref l0)]:=rfl
  rw[em] at nq ⊢
  have nq1:q≠d:=fun z=>by rw[z,ag] at nq; cases nq
  have nq2:(upd (upd H d (.dK [])) l0 (.lst [])) q=none:=by rw[ao nq1] at nq; exact nq
  have ld:l0≠d:=fun z=>by rw[z,ag] at nl0; cases nl0
  have nl1:H l0=none:=by rw[ao ld] at nl0; exact nl0
  have ql:q≠l0:=fun z=>by rw[z,ag] at nq2; cases nq2
  have nq0:H q=none:=by rw[ao ql,ao nq1] at nq2; exact nq2
  have v1: ∀j:Int,aV [((Sum.inl s:Key),V.ref l0)] (Sum.inl j)=if j=s then some (.ref l0) else none:=fun j=>by
   by_cases e:j=s
   .rw[Ko e,e]; exact dj rfl
   .rw[Kk e,cT (fun z=>e (MW z).symm)]; rfl
  have h1: ∀j:Int,has [((Sum.inl s:Key),V.ref l0)] j↔j=s:=fun j=>by
   unfold has
   rw[v1]
   by_cases e:j=s <;> simp[e]
  have b0:Bf H (upd (upd (upd (upd H d (.dK [])) l0 (.lst [])) d (.dK [((Sum.inl s:Key),V.ref l0)])) q (.lst [.int s])) n rs s d q [((Sum.inl s:Key),V.ref l0)] [s] (fun _=>False):=by
   refine⟨(ao (KW nq1)).trans ag,ag,?_,nd,nq0,fun j hj=>?_,fun j v hj=>?_,(h1 s).mpr rfl,fun m hm=>(h1 m).mpr (Km.mp hm),fun j hj hw=>absurd (Km.mpr ((h1 j).mp hj)) hw,?_⟩
   .exact ((((ai.upd nd).trans (ai.upd nl0)).cN nd).cN nq0)
   .rw[(h1 j).mp hj]; exact⟨hs0,hs1⟩
   .rw[v1] at hj
    by_cases e:j=s
    .rw[Ko e] at hj
     cases hj
     rw[e]
     refine⟨l0,[],rfl,?_,KW ql,.nil,Lq.mpr ⟨K8,MH⟩,fun x hx=>(h1 x).mpr (Km.mp hx),Kn _⟩
     rw[ao (KW ql),ao ld,ag]
     rfl
    .rw[Kk e] at hj; cases hj
   .have:=m7 (n:=n) (kvs:=[]) (k:=s) (v:=V.ref l0) hs0 hs1 (by unfold has; simp[Dd])
    have e:putK ([]:Oi) (Sum.inl s) (V.ref l0)=[((Sum.inl s:Key),V.ref l0)]:=rfl
    rw[e] at this
    have t:md n []<=n:=by
     have:=MA.uJ (List.range n) (fun i=>if (aV ([]:Oi) (Sum.inl ((i:Nat):Int))).isSome then 0 else 1) (fun _=>1) fun i _=>by show (if _ then 0 else 1)<=1; split <;> omega
     rw[MA.ones] at this
     exact this
    show 1+_<=n
    omega
  dsimp only[aY,L2.start,List.set]
  generalize upd (upd (upd (upd H d (.dK [])) l0 (.lst [])) d (.dK [((Sum.inl s:Key),V.ref l0)])) q (.lst [.int s])=H1 at b0
  refine⟨fun m σ' H'=> ∃(kvs:Oi) (ws:List Int) (v5 v6 v7:Option V),σ'=[some (.ref r),some (.int s),some (.int g),some (.ref d),some (.ref q),v5,v6,v7]/\Bf H H' n rs s d q kvs ws (fun _=>False)/\ws.length+md n kvs<=m/\m<=100,⟨_,_,_,none,none,none,rfl,b0,Kn _,KP b0.cn hn⟩,?_⟩
  rintro m σ' H' ⟨kvs,ws,v5,v6,v7,rfl,b,hm,hm100⟩
  have fin:(ws=[]\/has kvs g)->(G1 (CK (vB 3) (vB 2))) { nx:=fun _ H'=>Q .non H',rt:=Q } [some (.ref r),some (.int s),some (.int g),some (.ref d),some (.ref q),v5,v6,v7] H':=fun hend=>by
   refine⟨_,rfl,d,rfl,.inl ⟨kvs,.inl b.hd⟩,_,rfl,_,dw.k (k:=Sum.inl g) b.hd,?_⟩
   cases hv:aV kvs (Sum.inl g) with
   | some v =>
    obtain⟨a,ps,rfl,ha,_,hp,Ou,_,hl⟩:=b.val g v hv
    have:=b.cn
    exact k2 H' a ps b.sm ha (by omega) hp Ou
   | none =>
    have hg: ¬has kvs g:=by unfold has; rw[hv]; simp
    have hw:ws=[]:=hend.resolve_right hg
    exact k1 H' b.sm ⟨has kvs,b.st,hg,fun rl hrl _ h=>b.cl _ h (by rw[hw]; exact K8) (fun z=>z) rl hrl rfl⟩
  refine⟨_,rfl,_,.inl ⟨_,NX.of b.hq,rfl⟩,?_⟩
  cases ws with
  | nil=>exact aM (aM (fin (.inl rfl)))
  | cons mb ws =>
  refine aZ ⟨_,rfl,_,rfl,d,_,rfl,dw.k (k:=Sum.inl g) b.hd,_,rfl,?_⟩
  cases hv:aV kvs (Sum.inl g) with
  | some v=>exact aM (fin (.inr (by unfold has; rw[hv]; rfl)))
  | none =>
  refine aZ ?_
  clear hv fin
  have hmb:has kvs mb:=b.wk mb (Ky)
  have bp:=b.pop fun _ z=>z
  refine qE fun D1 nxW=>?_
  refine⟨_,rfl,.inl ⟨rfl,_,NX.of b.hq⟩,q,_,_,0,.int mb,rfl,rfl,b.hq,by decide,by decide,by unfold seqIndex?; simp,rfl,?_⟩
  have hm':ws.length+md n kvs < m:=by
   have:(mb::ws).length=ws.length+1:=rfl
   omega
  have ee:((mb::ws).map V.int).eraseIdx 0=ws.map V.int:=rfl
  rw[ee]
  clear ee
  dsimp only[aY,List.set]
  generalize upd H' q (.lst (ws.map V.int))=H2 at bp
  clear b hm
  refine⟨_,rfl,r,rfl,⟨_,bp.sm.seq hx⟩,?_⟩
  refine uE (xs:=xs) (fun i σ' H'=> ∃(kvs:Oi) (ws:List Int) (v6 v7:Option V),σ'=[some (.ref r),some (.int s),some (.int g),some (.ref d),some (.ref q),some (.int mb),v6,v7]/\Bf H H' n rs s d q kvs ws (fun k=>k=mb)/\has kvs mb/\ws.length+md n kvs < m/\ ∀(j:Nat) (rl:MA.av),j < i->rs[j]?=some rl->rl.2.1=mb->has kvs rl.1) ⟨kvs,ws,v6,v7,rfl,bp,hmb,hm',fun j _ hj=>absurd hj (LC _)⟩ (fun i σ' H' _ ⟨_,_,_,_,_,bb,_⟩=>bb.sm.seq hx) ?_ ?_
  .clear bp hmb hm' kvs ws
   rintro i x σ' H' t hi ⟨kvs,ws,v6,v7,rfl,b,hmb,hm',hdn⟩ nt
   obtain⟨rl,hq,ta,rfl,hta⟩:=hX.get hi
   obtain⟨o1,o2,o3,o4,o5⟩:=hk rl (Kp hq)
   have b1:=b.grow (ai.upd (o:= .tup [.int (i:Nat),.ref ta]) nt)
   refine⟨t,_,rfl,N1.of ag,rfl,_,_,rfl,_,_,rfl,rfl,?_⟩
   have hta1:=b1.sm.js hta
   generalize upd H' t (.tup [.int (i:Nat),.ref ta])=H1' at b1 hta1
   clear b nt
   have skip:(rl.2.1=mb->has kvs rl.1)-> ∀(j:Nat) (r':MA.av),j < i+1->rs[j]?=some r'->r'.2.1=mb->has kvs r'.1:=fun hh j r' hj hr' hb'=>by
    by_cases e:j=i
    .subst e
     rw[hq] at hr'
     cases hr'
     exact hh hb'
    .exact hdn j r' (by omega) hr' hb'
   refine⟨_,rfl,ta,_,_,_,rfl,rfl,hta1,rfl,_,rfl,rfl,_,rfl,?_⟩
   refine bF (fun c=>?_) (fun c=>?_)
   rotate_left
   .have c: ¬rl.2.1=mb:=by simpa using c
    exact aM ⟨kvs,ws,_,_,rfl,b1,hmb,hm',skip fun z=>absurd z c⟩
   have c:rl.2.1=mb:=by simpa using c
   refine⟨_,rfl,ta,_,_,_,rfl,rfl,hta1,rfl,_,rfl,d,_,rfl,dw.k (k:=Sum.inl rl.1) b1.hd,_,rfl,?_⟩
   by_cases hh:has kvs rl.1
   .rw[show (!(aV kvs (Sum.inl rl.1)).isSome)=false from by rw[show (aV kvs (Sum.inl rl.1)).isSome=true from hh]; rfl]
    exact aM ⟨kvs,ws,_,_,rfl,b1,hmb,hm',skip fun _=>hh⟩
   .rw[show (!(aV kvs (Sum.inl rl.1)).isSome)=true from by rw[show (aV kvs (Sum.inl rl.1)).isSome=false from by simpa [has] using hh]; rfl]
    refine aZ ?_
    obtain⟨vm,hvm⟩:=LY.mp (show (aV kvs (Sum.inl mb)).isSome=true from hmb)
    obtain⟨a,ps,rfl,ha,naq,hp,Ou,hall,hl⟩:=b1.val mb vm hvm
    have hcn:=b1.cn
    refine⟨_,rfl,_,rfl,d,.ref a,rfl,hvm▸dw.k (k:=Sum.inl mb) b1.hd,_,rfl,(by show 1<=sizeLine; decide),fun l1 nl1=>?_⟩
    have b2:=b1.grow (ai.upd (o:= .lst [.int (i:Nat)]) nl1)
    have ha2:=ai.upd (o:= .lst [.int (i:Nat)]) nl1 _ _ ha
    refine⟨a,l1,aX ps,[.int (i:Nat)],rfl,rfl,ha2,ag,?_,fun p np=>?_⟩
    .rw[show (aX ps).length=ps.length from Kj ..]
     show ps.length+1<=sizeLine
     exact KY (aH (by omega))
    have b3:=b2.grow (ai.upd (o:= .lst (aX ps++[.int (i:Nat)])) np)
    have ha3:=ai.upd (o:= .lst (aX ps++[.int (i:Nat)])) np _ _ ha2
    have hta3:=(((ai.upd (o:= .lst [.int (i:Nat)]) nl1).trans (ai.upd (o:= .lst (aX ps++[.int (i:Nat)])) np)).js hta1)
    have hpp:(upd (upd H1' l1 (.lst [.int (i:Nat)])) p (.lst (aX ps++[.int (i:Nat)]))) p=some (.lst (aX (ps++[i]))):=by rw[ag,D6]; rfl
    have npq:p≠q:=fun z=>by
     have:=b2.hq
     rw[z] at np
     rw[np] at this
     cases this
    generalize upd (upd H1' l1 (.lst [.int (i:Nat)])) p (.lst (aX ps++[.int (i:Nat)]))=H3 at b3 ha3 hta3 hpp
    have br:=b3.reach hvm ha3 hp Ou hall hl hq c o1 o2 hh hpp npq
    have cp:=m7 (n:=n) (v:=V.ref p) o1 o2 hh
    refine⟨_,rfl,_,rfl,ta,_,_,_,rfl,rfl,hta3,rfl,d,_,rfl,rZ.k (k:=Sum.inl rl.1) b3.hd (aH (by omega)),?_⟩
    have hq4:(upd H3 d (.dK (putK kvs (Sum.inl rl.1) (.ref p)))) q=some (.lst (ws.map V.int)):=(ao (KW b3.ne)).trans b3.hq
    have hta4:N1 K (upd H3 d (.dK (putK kvs (Sum.inl rl.1) (.ref p)))) ta [.int rl.1,.int rl.2.1,.int rl.2.2]:=by
     have hd3:=b3.hd
     have ne: ∀u,H3 ta=some u->(∀kv,u≠ .dK kv)->ta≠d:=fun u hu hn e=>by
      rw[e,hd3] at hu
      exact hn _ (KJ hu).symm
     rcases hta3 with (h | ⟨o',h⟩) | h
     .exact .inl (.inl ((ao (ne _ h fun kv z=>by cases z)).trans h))
     .exact .inl (.inr ⟨o',(ao (ne _ h fun kv z=>by cases z)).trans h⟩)
     .exact .inr h
    have hws:ws.length<=1000:=by omega
    refine⟨_,rfl,.inl ⟨rfl,_,NX.of hq4⟩,_,rfl,ta,_,_,_,rfl,rfl,hta4,rfl,q,_,_,rfl,rfl,hq4,by rw[Kj]; exact aH hws,?_⟩
    refine⟨putK kvs (Sum.inl rl.1) (.ref p),ws++[rl.1],_,_,rfl,?_,cQ.mpr (.inr hmb),?_,?_⟩
    .rw[KN] at br
     exact br
    .rw[Kr]
     show ws.length+1+_ < m
     omega
    .intro j r' hj hr' hb'
     by_cases e:j=i
     .subst e
      rw[hq] at hr'
      cases hr'
      exact cQ.mpr (.inl rfl)
     .exact cQ.mpr (.inr (hdn j r' (by omega) hr' hb'))
  .rintro σ' H' ⟨kvs,ws,v6,v7,rfl,b,hmb,hm',hdn⟩
   refine nxW _ _ _ hm' ⟨kvs,ws,_,_,_,rfl,⟨b.hd,b.hq,b.sm,b.fd,b.fq,b.OB,b.val,b.st,b.wk,fun j h1 h2 _ rl hrl hb=>?_,b.cn⟩,Kn _,by omega⟩
   by_cases e:j=mb
   .obtain⟨i,hi,rfl⟩:=LG.mp hrl
    exact hdn i _ (by rw[hX.length]; exact hi) (Kl hi) (hb.trans e)
   .exact b.cl j h1 h2 e rl hrl hb
def xI (K:NY):Sp:=fun vs H Q _=> ∃(r:Addr) (rs:List MA.av) (n:Nat),vs=[.int n,.ref r]/\OD K H r rs/\rs.length<=1000/\(∀q∈rs,N5 n q)/\n<=100 /\
 (∀(H':Hp) (a:Addr),ai H H'->H' a=some (.lst [])->(∀q∈rs,q.2.1≠ -1->0 < q.2.2->xY rs q.1 q.2.1)->Q (.ref a) H')/\(∀(H':Hp) (a:Addr) (way:List Nat),ai H H'->H' a=some (.lst (aX way))->way.length<=200->tK rs way->Q (.ref a) H')
theorem xy (T:Txt K mg a):N8 P w K mg base 2 "find_ring" ["count","rules"] (xI K):=by
 have lO:=@pW P w K mg base a T
 have AF:=@yU P w K mg base a T
 refine bf T.oG jL (fun _ _ _ _ _ _=>Oa fun _ _=>rfl) (fun vs H Q E h=>?_) fun f cdv A outer s0 H vs Q E hr h=>?_
 .obtain⟨r,rs,n,rfl,_⟩:=h
  rfl
 .obtain⟨r,rs,n,rfl,⟨xs,hx,hX⟩,hrl,hk,hn,k1,k2⟩:=h
  refine⟨_,(ah (bP KL rfl (pM rfl T.fF (aa (pv 1) ae)) (gx rfl (bj (aG (i:=2) jL.nd rfl (Or.inl rfl)) (bj (aG (i:=3) jL.nd rfl (Or.inl rfl)) fk)))
   (aj (aK (PW.pt (eZ (ba (aJ lO hr.z (aa (pv 3) ae)) (fun _=>rfl)) (eU (aw tw (NZ K (pv 3) af) af (aA _))))) (ah (ax (i:=4) jL.nd rfl (Or.inl rfl) (aJ AF hr.z (aa (pv 1) (aa (NZ K (pv 3) af) (aa (NZ K (pv 3) af) ae)))))
   (aj (aK (aw fj (pv 4) bJ (aA _)) (aj (az (ay eE (aQ (aa (pv 2) ae)) (pv 4)))) aD))) aD)))
   (aj (az (aQ ae)))),?_⟩
  refine⟨_,rfl,r,rfl,⟨_,hx⟩,?_⟩
  refine uE (xs:=xs) (fun i σ' H'=> ∃v2 v3 v4:Option V,σ'=[some (.int n),some (.ref r),v2,v3,v4]/\ai H H'/\ ∀(j:Nat) (q:MA.av),j < i->rs[j]?=some q->q.2.1≠ -1->0 < q.2.2->xY rs q.1 q.2.1) ⟨none,none,none,rfl,ai.refl H,fun j _ hj=>absurd hj (LC _)⟩ (fun i σ' H' _ ⟨_,_,_,_,sm,_⟩=>sm.seq hx) ?_ ?_
  .rintro i x σ' H' t hi ⟨v2,v3,v4,rfl,sm,hdn⟩ nt
   obtain⟨q,hq,ta,rfl,hta⟩:=hX.get hi
   obtain⟨o1,o2,o3,o4,o5⟩:=hk q (Kp hq)
   have s1:=sm.trans (ai.upd (o:= .tup [.int (i:Nat),.ref ta]) nt)
   refine⟨t,_,rfl,N1.of ag,rfl,_,_,rfl,_,_,rfl,rfl,?_⟩
   generalize upd H' t (.tup [.int (i:Nat),.ref ta])=H1 at s1
   have hta1:=s1.js hta
   have nxt: ∀H2,ai H H2->(q.2.1≠ -1->0 < q.2.2->xY rs q.1 q.2.1)-> ∀v4:Option V,∃v2' v3' v4':Option V,[some (.int n),some (.ref r),some (.int (i:Nat)),some (.ref ta),v4]=[some (V.int n),some (V.ref r),v2',v3',v4']/\ai H H2/\ ∀(j:Nat) (q:MA.av),j < i+1->rs[j]?=some q->q.2.1≠ -1->0 < q.2.2->xY rs q.1 q.2.1:=fun H2 s2 hh v4=>⟨_,_,_,rfl,s2,fun j q' hj hq'=>by
    by_cases e:j=i
    .subst e
     rw[hq] at hq'
     cases hq'
     exact hh
    .exact hdn j q' (by omega) hq'⟩
   refine⟨_,rfl,_,q,rfl,⟨ta,rfl,hta1⟩,_,rfl,?_⟩
   refine bF (fun c=>?_) (fun c=>?_)
   rotate_left
   .have c:q.2.1= -1:=by simpa using c
    exact aM (nxt H1 s1 (fun z=>absurd c z) v4)
   have c: ¬q.2.1= -1:=by simpa using c
   refine⟨_,rfl,ta,_,_,_,rfl,rfl,hta1,rfl,_,_,rfl,rfl,_,rfl,?_⟩
   refine bF (fun c2=>?_) (fun c2=>?_)
   rotate_left
   .have c2:=Ld (K6 _▸c2)
    exact nxt H1 s1 (fun _ z=>absurd z c2) v4
   have c2:=KQ c2
   refine⟨_,rfl,_,rfl,ta,_,_,_,rfl,rfl,hta1,rfl,_,rfl,ta,_,_,_,rfl,rfl,hta1,rfl,?_⟩
   refine⟨r,rs,n,q.1,q.2.1,rfl,⟨xs,s1.seq hx,hX.same s1⟩,hk,hn,o1,o2,fun H2 s2 hsh=>?_,fun H2 a ps s2 ha hpl hp Ou=>?_⟩
   .exact⟨_,rfl,rfl,_,rfl,aM (nxt H2 (s1.trans s2) (fun _ _=>hsh) _)⟩
   .refine⟨_,rfl,rfl,_,rfl,aZ ⟨_,rfl,(by show 1<=sizeLine; decide),fun l1 nl1=>⟨_,rfl,l1,a,[.int (i:Nat)],aX ps,rfl,rfl,ag,(ao (aB ha nl1)).trans ha,?_,fun p np=>?_⟩⟩⟩
    .rw[show (aX ps).length=ps.length from Kj ..]
     show 1+ps.length<=sizeLine
     exact KY (aH (by omega))
    .exact k2 _ p (i::ps) (((s1.trans s2).trans (ai.upd nl1)).trans (ai.upd np)) ag (by rw[KZ]; omega) ⟨i,q,ps,rfl,hq,c,c2,hp,Ou⟩
  .rintro σ' H' ⟨v2,v3,v4,rfl,sm,hdn⟩
   refine⟨by decide,fun p np=>k1 _ p (sm.trans (ai.upd np)) ag fun q hq=>?_⟩
   obtain⟨j,hj,rfl⟩:=LG.mp hq
   exact hdn j _ (by rw[hX.length]; exact hj) (Kl hj)
open MA (tj ik)
def yX (K:NY):Sp:=fun vs H Q _=> ∃(n:Nat) (r:Addr) (rs:List MA.av) (L:List Int) (m:Int),vs=[.int n,.ref r,.int m]/\n<=12/\rs.length<=24/\OD K H r rs/\(∀q∈rs,N5 n q)/\bA n rs=some L/\0<=m/\m < n /\
 ∀(p:Addr) (ps:List Nat) (H':Hp),H p=none->ai H H'->H' p=some (.lst (aX ps))->ik rs L m ps->Q (.ref p) H'
def O4 (L:List Int) (q:MA.av):Bool:= !decide (q.2.1= -1) && decide (MA.g L q.1=MA.g L q.2.1+q.2.2)
theorem tp {L:List Int}{q:MA.av}:O4 L q=true↔MA.Tl L q:=by
 unfold O4 MA.Tl
 simp
def Dl (K:NY):Sp:=fun vs H Q _=> ∃v q w ws,vs=[v,.ref w]/\jX K H v q/\NX K H w (ws.map V.int)/\N5 ws.length q/\Q (.bl (O4 ws q)) H
theorem tZ (T:Txt K mg a):N8 P w K mg base 3 "hands_on" ["rule","widths"] (Dl K):=by
 have lO:=@pW P w K mg base a T
 have mB:=@yI P w K mg base a T
 refine bf T.qr yS (fun _ _ _ _ _ _=>Oa fun _ _=>rfl) (fun vs H Q E h=>?_) fun f c A o s H vs Q E hr h=>?_
 .obtain⟨v,q,w,ws,rfl,_⟩:=h
  rfl
 .obtain⟨v,q,w,ws,rfl,⟨p,rfl,hp⟩,hw,hk,k⟩:=h
  obtain⟨k1,k2,k3,k4,k5⟩:=id hk
  refine⟨_,(aj (az (nY (sP (aJ lO hr.z (aa (pv 0) ae)) (rH (dX bh (N2 K (pv 1) (NZ K (pv 0) af)) (aJ mB hr.z (aa (pv 0) (aa (pv 1) ae))) (aA _))))))),?_⟩
  refine⟨fun v' H'=>v'= .bl (O4 ws q)/\H'=H,?_,fun v' H' z=>by rw[z.1,z.2]; exact k⟩
  refine⟨_,rfl,_,q,rfl,⟨p,rfl,hp⟩,_,rfl,?_⟩
  refine bF (fun c=>?_) (fun c=>?_)
  .have c: ¬q.2.1= -1:=by simpa using c
   refine⟨_,rfl,_,rfl,p,_,_,_,rfl,rfl,hp,rfl,w,_,_,_,rfl,rfl,hw,fv k1 k2,_,rfl,_,rfl,_,q,w,ws,rfl,⟨p,rfl,hp⟩,hw,hk,rfl,?_,rfl⟩
   unfold O4 MA.ask
   rw[Kk c]
   simp[c]
  .have c:q.2.1= -1:=by simpa using c
   refine⟨?_,rfl⟩
   unfold O4
   simp[c]
def BJ (K:NY):Sp:=fun vs H Q _=> ∃(r w:Addr) (rs:List MA.av) (L:List Int) (m:Int),vs=[.ref r,.ref w,.int m]/\OD K H r rs/\NX K H w (L.map V.int)/\(∀q∈rs,N5 L.length q)/\L.length<=100/\0<=m/\m < L.length /\
 ∀(d:Addr) (kvs:Oi) (H':Hp),H d=none->ai H H'->H' d=some (.dK kvs)->(∀k v,aV kvs (Sum.inl k)=some v-> ∃j:Nat,v=V.int (j:Nat))->MA.mP rs L m (nD kvs)->(∀k j,nD kvs k=some j->j<=L.length)->Q (.ref d) H'
theorem vc (T:Txt K mg a):N8 P w K mg base 4 "fewest_links" ["rules","widths","goal"] (BJ K):=by
 have qj:=@tZ P w K mg base a T
 refine bf T.ko fu (fun _ _ _ _ _ _=>OG fun _ _ _=>rfl) (fun vs H Q E h=>?_) fun f cdv A outer s0 H vs Q E hr h=>?_
 .obtain⟨r,w,rs,L,m,rfl,_⟩:=h
  rfl
 .obtain⟨r,w,rs,L,s,rfl,⟨xs,hx,hX⟩,hw,hk,hn,hs0,hs1,k2⟩:=h
  refine⟨_,(ah (ax (i:=3) fu.nd rfl (Or.inl rfl) (zO (yo (pv 2) af zF) rfl rfl (by intro z; cases z) (by decide)))
   (ah (ax (i:=4) fu.nd rfl (Or.inl rfl) (aQ (aa (pv 2) ae)))
   (ah (qb KL (ba (pv 4) (fun _=>rfl)) (ah (ax (i:=5) fu.nd rfl (Or.inl rfl) (show PE _ _ (Oh K _ _ _ _) from cz Kw Mj Ml xG (pv 4) (aa af ae)))
   (aj (bP KL rfl (bC (pv 0)) (aG (i:=6) fu.nd rfl (Or.inl rfl))
   (aj (aK (PW.pt (eZ (aw bh (NZ K (pv 6) af) (pv 5) (aA _)) (eZ (pR (r6 (df hr) (NZ K (pv 6) af) (pv 3)) (by with_unfolding_all rfl)) (eU (ba (aJ qj hr.z (aa (pv 6) (aa (pv 1) ae))) (fun _=>rfl)))))) (ah (vN (df hr) (pv 3) (NZ K (pv 6) af) (ay bN (mY (df hr) (pv 3) (pv 5) (fun _ _=>rfl)) af) rfl)
   (aj (aU (show PE _ _ (Oh K _ _ _ _) from cz Kw KR KS bS (pv 4) (aa (NZ K (pv 6) af) ae))))) aD))))))
   (aj (az (pv 3)))))),?_⟩
  refine fun d nd=>⟨_,rfl,ag,[(Sum.inl s,.int 0)],rfl,by show 1<=15; decide,?_⟩
  refine⟨_,rfl,(by show 1<=sizeLine; decide),fun q nq=>?_⟩
  have em:nA [] [(Sum.inl s,V.int 0)]=[((Sum.inl s:Key),V.int 0)]:=rfl
  rw[em] at nq ⊢
  have nq1:q≠d:=fun z=>by rw[z,ag] at nq; cases nq
  have nq0:H q=none:=by rw[ao nq1,ao nq1] at nq; exact nq
  have v1: ∀j:Int,aV [((Sum.inl s:Key),V.int 0)] (Sum.inl j)=if j=s then some (.int 0) else none:=fun j=>by
   by_cases e:j=s
   .rw[Ko e,e]; exact dj rfl
   .rw[Kk e,cT (fun z=>e (MW z).symm)]; rfl
  have h1: ∀j:Int,has [((Sum.inl s:Key),V.int 0)] j↔j=s:=fun j=>by
   unfold has
   rw[v1]
   by_cases e:j=s <;> simp[e]
  have n1: ∀j:Int,nD [((Sum.inl s:Key),V.int 0)] j=if j=s then some 0 else none:=fun j=>by
   unfold nD
   rw[v1]
   by_cases e:j=s <;> simp[e]
  have b0:Bg H (upd (upd (upd H d (.dK [])) d (.dK [((Sum.inl s:Key),V.int 0)])) q (.lst [.int s])) L.length rs L s d q [((Sum.inl s:Key),V.int 0)] [s] (fun _=>False):=by
   refine⟨(ao (KW nq1)).trans ag,ag,?_,nd,nq0,fun j hj=>?_,fun j v hj=>?_,fun j x hj=>?_,(by rw[n1,Ko rfl]),fun m hm=>(h1 m).mpr (Km.mp hm),List.pairwise_singleton ..,fun k x hx w hw y hy=>?_,fun j x hj hw=>absurd (Km.mpr ((h1 j).mp (xB hj))) hw,?_,fun j x hj=>?_⟩
   .exact ((((ai.upd nd)).cN nd).cN nq0)
   .rw[(h1 j).mp hj]; exact⟨hs0,hs1⟩
   .rw[v1] at hj
    by_cases e:j=s
    .rw[Ko e] at hj
     cases hj
     exact⟨0,rfl⟩
    .rw[Kk e] at hj; cases hj
   .rw[n1] at hj
    by_cases e:j=s
    .rw[Ko e] at hj
     cases hj
     rw[e]
     exact⟨[],.nil,rfl⟩
    .rw[Kk e] at hj; cases hj
   .rw[n1] at hx
    split at hx
    .cases hx; omega
    .cases hx
   .have:=m7 (n:=L.length) (kvs:=[]) (k:=s) (v:=V.int 0) hs0 hs1 (fun z=>by have z:(none:Option V).isSome=true:=z; cases z)
    have e:putK ([]:Oi) (Sum.inl s) (V.int 0)=[((Sum.inl s:Key),V.int 0)]:=rfl
    rw[e] at this
    have t:md L.length []<=L.length:=by
     have:=MA.uJ (List.range L.length) (fun i=>if (aV ([]:Oi) (Sum.inl ((i:Nat):Int))).isSome then 0 else 1) (fun _=>1) fun i _=>by show (if _ then 0 else 1)<=1; split <;> omega
     rw[MA.ones] at this
     exact this
    show 1+_<=L.length
    omega
   .rw[n1] at hj
    split at hj
    .cases hj; exact Kn _
    .cases hj
  dsimp only[aY,L2.start,List.set]
  generalize upd (upd (upd H d (.dK [])) d (.dK [((Sum.inl s:Key),V.int 0)])) q (.lst [.int s])=H1 at b0
  refine⟨fun m σ' H'=> ∃(kvs:Oi) (ws:List Int) (v5 v6:Option V),σ'=[some (.ref r),some (.ref w),some (.int s),some (.ref d),some (.ref q),v5,v6]/\Bg H H' L.length rs L s d q kvs ws (fun _=>False)/\ws.length+md L.length kvs<=m/\m<=100,⟨_,_,_,none,none,rfl,b0,Kn _,KP b0.cn hn⟩,?_⟩
  rintro m σ' H' ⟨kvs,ws,v5,v6,rfl,b,hm,hm100⟩
  refine⟨_,rfl,_,.inl ⟨_,NX.of b.hq,rfl⟩,?_⟩
  cases ws with
  | nil=>exact aM ⟨_,rfl,k2 d kvs H' b.fd b.sm b.hd b.num (b.dist fun _ z=>z) fun k j hj=>by have:=b.bd k j hj; have:=b.cn; omega⟩
  | cons mb ws =>
  refine aZ ?_
  have hmb0:has kvs mb:=b.wk mb (Ky)
  obtain⟨d0,hmb,hv0⟩:=uZ b.num hmb0
  have low: ∀w∈ws,∀y,nD kvs w=some y->d0<=y:=fun w hw y hy=>(Nt.mp b.srt).1 w hw d0 y hmb hy
  have bnd: ∀k x,nD kvs k=some x->x<=d0+1:=fun k x hx=>b.top k x hx mb Ky d0 hmb
  have bp:=b.pop fun _ z=>z
  refine qE fun D1 nxW=>?_
  refine⟨_,rfl,.inl ⟨rfl,_,NX.of b.hq⟩,q,_,_,0,.int mb,rfl,rfl,b.hq,by decide,by decide,by unfold seqIndex?; simp,rfl,?_⟩
  have hm':ws.length+md L.length kvs < m:=by
   have:(mb::ws).length=ws.length+1:=rfl
   omega
  have ee:((mb::ws).map V.int).eraseIdx 0=ws.map V.int:=rfl
  rw[ee]
  clear ee
  dsimp only[aY,List.set]
  generalize upd H' q (.lst (ws.map V.int))=H2 at bp
  clear b hm
  refine⟨_,rfl,r,rfl,⟨_,bp.sm.seq hx⟩,?_⟩
  refine cP (xs:=xs) (fun i σ' H'=> ∃(kvs:Oi) (ws:List Int) (v6:Option V),σ'=[some (.ref r),some (.ref w),some (.int s),some (.ref d),some (.ref q),some (.int mb),v6]/\Bg H H' L.length rs L s d q kvs ws (fun k=>k=mb)/\nD kvs mb=some d0/\(∀w∈ws,∀y,nD kvs w=some y->d0<=y)/\(∀k x,nD kvs k=some x->x<=d0+1)/\ws.length+md L.length kvs < m/\ ∀(j:Nat) (rl:MA.av),j < i->rs[j]?=some rl->MA.Tl L rl->rl.1=mb->has kvs rl.2.1) ⟨kvs,ws,v6,rfl,bp,hmb,low,bnd,hm',fun j _ hj=>absurd hj (LC _)⟩ (fun i σ' H' _ ⟨_,_,_,_,bb,_⟩=>bq (bb.sm.seq hx)) ?_ ?_
  .clear bp hmb hm' low bnd hmb0 hv0 kvs ws
   rintro i x σ' H' D2 nx2 - hi ⟨kvs,ws,v6,rfl,b,hmb,low,bnd,hm',hdn⟩
   obtain⟨rl,hq,ta,rfl,hta⟩:=hX.get hi
   have hrk:=hk rl (Kp hq)
   obtain⟨o1,o2,o3,o4,o5⟩:=id hrk
   have hta1:=b.sm.js hta
   have skip:(MA.Tl L rl->rl.1=mb->has kvs rl.2.1)-> ∀(j:Nat) (r':MA.av),j < i+1->rs[j]?=some r'->MA.Tl L r'->r'.1=mb->has kvs r'.2.1:=fun hh j r' hj hr' ht' hb'=>by
    by_cases e:j=i
    .subst e
     rw[hq] at hr'
     cases hr'
     exact hh ht' hb'
    .exact hdn j r' (by omega) hr' ht' hb'
   refine⟨_,rfl,ta,_,_,_,rfl,rfl,hta1,rfl,_,rfl,rfl,_,rfl,?_⟩
   refine bF (fun c=>?_) (fun c=>?_)
   rotate_left
   .have c: ¬rl.1=mb:=by simpa using c
    exact aM (nx2 _ _ ⟨kvs,ws,_,rfl,b,hmb,low,bnd,hm',skip fun _ z=>absurd z c⟩)
   have c:rl.1=mb:=by simpa using c
   refine⟨_,rfl,ta,_,_,_,rfl,rfl,hta1,rfl,_,rfl,d,_,rfl,dw.k (k:=Sum.inl rl.2.1) b.hd,_,rfl,?_⟩
   by_cases hh:has kvs rl.2.1
   .rw[show (!(aV kvs (Sum.inl rl.2.1)).isSome)=false from by rw[show (aV kvs (Sum.inl rl.2.1)).isSome=true from hh]; rfl]
    exact aM (aM (nx2 _ _ ⟨kvs,ws,_,rfl,b,hmb,low,bnd,hm',skip fun _ _=>hh⟩))
   .rw[show (!(aV kvs (Sum.inl rl.2.1)).isSome)=true from by rw[show (aV kvs (Sum.inl rl.2.1)).isSome=false from by simpa [has] using hh]; rfl]
    refine aZ ⟨_,rfl,_,rfl,_,rl,w,L,rfl,⟨ta,rfl,hta1⟩,b.sm.seq hw,hrk,_,rfl,?_⟩
    refine bF (fun ct=>?_) (fun ct=>?_)
    rotate_left
    .exact nx2 _ _ ⟨kvs,ws,_,rfl,b,hmb,low,bnd,hm',skip fun z=>absurd (tp.mpr z) ct⟩
    have ct:=tp.mp ct
    have u0:0<=rl.2.1:=by have:=ct.1; omega
    have vm:=ve b.num hmb
    obtain⟨br,hmb',low',bnd'⟩:=b.reach hmb low bnd hq ct c u0 o4 hh
    have cp:=m7 (n:=L.length) (v:=V.int ((d0+1:Nat):Int)) u0 o4 hh
    have hcn:=b.cn
    refine⟨_,rfl,_,rfl,d,.int (d0:Nat),rfl,vm▸dw.k (k:=Sum.inl mb) b.hd,_,_,rfl,rfl,?_⟩
    refine⟨_,rfl,_,rfl,ta,_,_,_,rfl,rfl,hta1,rfl,d,_,rfl,rZ.k (k:=Sum.inl rl.2.1) b.hd (aH (by omega)),?_⟩
    have hq4:(upd H' d (.dK (putK kvs (Sum.inl rl.2.1) (.int ((d0+1:Nat):Int))))) q=some (.lst (ws.map V.int)):=(ao (KW b.ne)).trans b.hq
    have hta4:N1 K (upd H' d (.dK (putK kvs (Sum.inl rl.2.1) (.int ((d0+1:Nat):Int))))) ta [.int rl.1,.int rl.2.1,.int rl.2.2]:=by
     have hd3:=b.hd
     have ne: ∀u,H' ta=some u->(∀kv,u≠ .dK kv)->ta≠d:=fun u hu hn e=>by
      rw[e,hd3] at hu
      exact hn _ (KJ hu).symm
     rcases hta1 with (h | ⟨o',h⟩) | h
     .exact .inl (.inl ((ao (ne _ h fun kv z=>by cases z)).trans h))
     .exact .inl (.inr ⟨o',(ao (ne _ h fun kv z=>by cases z)).trans h⟩)
     .exact .inr h
    have hws:ws.length<=1000:=by omega
    refine⟨_,rfl,.inl ⟨rfl,_,NX.of hq4⟩,_,rfl,ta,_,_,_,rfl,rfl,hta4,rfl,q,_,_,rfl,rfl,hq4,by rw[Kj]; exact aH hws,?_⟩
    refine nx2 _ _ ⟨putK kvs (Sum.inl rl.2.1) (.int ((d0+1:Nat):Int)),ws++[rl.2.1],_,rfl,?_,hmb',low',bnd',?_,?_⟩
    .rw[KN] at br
     exact br
    .rw[Kr]
     show ws.length+1+_ < m
     omega
    .intro j r' hj hr' ht' hb'
     by_cases e:j=i
     .subst e
      rw[hq] at hr'
      cases hr'
      exact cQ.mpr (.inl rfl)
     .exact cQ.mpr (.inr (hdn j r' (by omega) hr' ht' hb'))
  .rintro σ' H' ⟨kvs,ws,v6,rfl,b,hmb,low,bnd,hm',hdn⟩
   refine nxW _ _ _ hm' ⟨kvs,ws,_,_,rfl,⟨b.hd,b.hq,b.sm,b.fd,b.fq,b.OB,b.num,b.ex,b.st,b.wk,b.srt,b.top,fun j x h1 h2 _ rl hrl ht hb=>?_,b.cn,b.bd⟩,Kn _,by omega⟩
   by_cases e:j=mb
   .obtain⟨i,hi,rfl⟩:=LG.mp hrl
    have:=hdn i _ (by rw[hX.length]; exact hi) (Kl hi) ht (hb.trans e)
    obtain⟨y,y1,_⟩:=uZ b.num this
    rw[e,hmb] at h1
    cases h1
    exact⟨y,y1,bnd _ _ y1⟩
   .exact b.cl j x h1 h2 e rl hrl ht hb
theorem wB {N:Nat}{p:Nat->Bool}{i:Nat}{t:List Nat}(h:(List.range N).filter p=i::t):i < N/\p i=true/\ ∀j,j < i->p j=false:=by
 have hm:i∈(List.range N).filter p:=by rw[h]; exact Ky
 obtain⟨h1,h2⟩:=Li.mp hm
 have h1:=KU.mp h1
 refine⟨h1,h2,fun j hj=>?_⟩
 cases e:p j with
 | false=>rfl
 | true =>
  have hj':j∈(List.range N).filter p:=Li.mpr ⟨KU.mpr (by omega),e⟩
  have pw:((List.range N).filter p).Pairwise (· < ·):=List.Pairwise.filter _ List.pairwise_lt_range
  rw[h] at hj' pw
  rcases Ks.mp hj' with z | z
  .omega
  .have:=(Nt.mp pw).1 j z
   omega
theorem gO {p:Nat->Bool}{i:Nat}:(List.range (i+1)).filter p=(List.range i).filter p++(if p i=true then [i] else []):=by
 rw[LZ,Lz]
 congr 1
 by_cases h:p i=true
 .simp[h]
 .simp[h]
def Om (rs:List MA.av) (kvs:Oi) (j:Nat):Nat:=(nD kvs (MA.kC rs j)).getD 0
def j8 (rs:List MA.av) (L:List Int) (kvs:Oi) (j:Nat):Bool:=match rs[j]? with
 | some q=>decide (q.2.2=MA.g L q.1) && (aV kvs (Sum.inl q.1)).isSome
 | none=>false
theorem uj {rs:List MA.av}{L:List Int}{kvs:Oi}{j:Nat}{q:MA.av}(h:rs[j]?=some q):j8 rs L kvs j=(decide (q.2.2=MA.g L q.1) && (aV kvs (Sum.inl q.1)).isSome):=by unfold j8; rw[h]
def vt (K:NY):Sp:=fun vs H Q _=> ∃(r w d:Addr) (rs:List MA.av) (L:List Int) (kvs:Oi),vs=[.ref r,.ref w,.ref d]/\OD K H r rs/\rs.length<=100/\NX K H w (L.map V.int)/\(∀q∈rs,N5 L.length q)/\H d=some (.dK kvs)/\(∀k v,aV kvs (Sum.inl k)=some v-> ∃j:Nat,v=V.int (j:Nat)) /\
 (∃(i:Nat) (q:MA.av) (j:Nat),rs[i]?=some q/\q.2.2=MA.g L q.1/\nD kvs q.1=some j)/\ ∀(i:Nat) (H':Hp),ai H H'->MA.PL rs L (nD kvs) i->Q (.int (i:Nat)) H'
theorem lH {xs:List Nat}{i:Nat}:aX xs++[V.int (i:Nat)]=aX (xs++[i]):=by unfold aX; rw[KN]; rfl
theorem sX {ps:List Nat}{i:Nat}{x:V}(h:(aX ps)[i]?=some x): ∃y,ps[i]?=some y/\x= .int (y:Nat):=by
 unfold aX at h
 rw[KD] at h
 cases e:ps[i]? with
 | none=>rw[e] at h; cases h
 | some y=>rw[e] at h; exact⟨y,rfl,(KJ h).symm⟩
theorem take_succ_get {ps:List Nat}{i y:Nat}(h:ps[i]?=some y):ps.take (i+1)=ps.take i++[y]:=by rw[La,h]; rfl
theorem qu {H:Hp}{xs:List V}{rs:List MA.av}(h:cH K H xs rs){k:Nat}{q:MA.av}(hq:rs[k]?=some q): ∃a,Ob xs (k:Nat)=some (.ref a)/\N1 K H a [.int q.1,.int q.2.1,.int q.2.2]:=by
 obtain⟨v,hv,a,rfl,ha⟩:=h.at hq
 exact⟨a,cm hv,ha⟩
theorem vp (T:Txt K mg a):N8 P w K mg base 1 "first_place" ["rules","widths","fewest"] (vt K):=by
 refine bf T.mw kA (fun _ _ _ _ _ _=>OG fun _ _ _=>rfl) (fun vs H Q E h=>?_) fun f cdv A outer s0 H vs Q E hr h=>?_
 .obtain⟨r,w,d,rs,L,kvs,rfl,_⟩:=h
  rfl
 .obtain⟨r,w,d,rs,L,kvs,rfl,⟨xs,hx,hX⟩,hrl,hw,hk,hd,num,hex,q⟩:=h
  refine⟨_,(ah (mU (i:=3) kA.nd rfl (Or.inl rfl) (psc:=aq fo) (own:=["place","rule"]) (frn:=["fewest","widths"]) (fr:=[2,1]) (by exact⟨rfl,by trivial,by trivial,by trivial,by trivial,by trivial⟩) rfl rfl rfl (yK (K:=K) (k:=2) (ky (bG (by decide:0 < 2)) iy (ky (bG (by decide:1 < 2)) iy vR m8) (ur iy m8))) (pM rfl T.fF (aa (pv 0) ae))
    (fun C s2 H2 fp=>⟨(show PG _ _ (yq K 2 _) from gx (n:=2) rfl (bj (aG (i:=0) (show (["place","rule","fewest","widths"]:List Str).Nodup by trivial) rfl (Or.inl rfl)) (bj (aG (i:=1) (show (["place","rule","fewest","widths"]:List Str).Nodup by trivial) rfl (Or.inl rfl)) fk))),(iA (PW.pt (eZ (aw bh (NZ K (pv 1) af) (N2 K (pv 3) (NZ K (pv 1) af)) (aA _)) (eU (pR (rN (df hr) (NZ K (pv 1) af) (pv 2)) (by with_unfolding_all rfl)))))),(pv 0)⟩))
   (ah (ax (i:=4) kA.nd rfl (Or.inr rfl) (bz (show de _ _ (G0 K) from Bz rfl) (by rfl) T.uQ boot_min (aa (cM (psc:=aq fo) (own:=["place"]) (frn:=["fewest","rules"]) (fr:=[2,0]) (by exact⟨rfl,by trivial,by trivial,by trivial,by trivial,by trivial⟩) rfl rfl rfl (bG (by decide:0 < 1)) (bC (pv 3))
    (fun C s2 H2 fp=>⟨(aG (i:=0) (show (["place","fewest","rules"]:List Str).Nodup by trivial) rfl (Or.inl rfl)),dD,(mY (df hr) (pv 1) (NZ K (N2 K (pv 2) (pv 0)) af) (fun _ _=>rfl))⟩)) ae)))
   (aj (az (N2 K (cM (psc:=aq fo) (own:=["place"]) (frn:=["nearest","fewest","rules"]) (fr:=[4,2,0]) (by exact⟨rfl,by trivial,by trivial,by trivial,by trivial,by trivial⟩) rfl rfl rfl (bG (by decide:0 < 1)) (bC (pv 3))
    (fun C s2 H2 fp=>⟨(aG (i:=0) (show (["place","nearest","fewest","rules"]:List Str).Nodup by trivial) rfl (Or.inl rfl)),(iA (aw bh (mY (df hr) (pv 2) (NZ K (N2 K (pv 3) (pv 0)) af) (fun _ _=>rfl)) (pv 1) (aA _))),(pv 0)⟩)) af))))),?_⟩
  refine⟨_,rfl,r,rfl,⟨_,hx⟩,?_⟩
  have xl:=hX.length
  refine vY (xs:=xs) (fun i ys H'=>ai H H'/\ys=aX ((List.range i).filter (j8 rs L kvs))) (fun i ys H' h=>h.1.seq hx) ⟨ai.refl H,rfl⟩ (aH (by omega)) (fun i ys H' h=>by rw[h.2]; unfold aX; rw[Kj]; exact KP (Ll _ _) (by rw[Lw]; exact Kn _)) ?_ ?_
  .rintro i ys H2 x t hi ⟨sm,rfl⟩ nt
   obtain⟨rl,hq,ta,rfl,hta⟩:=hX.get hi
   obtain⟨o1,o2,o3,o4,o5⟩:=hk rl (Kp hq)
   have s1:=sm.trans (ai.upd (o:= .tup [.int (i:Nat),.ref ta]) nt)
   refine⟨t,_,rfl,N1.of ag,rfl,_,_,rfl,_,_,rfl,rfl,?_⟩
   generalize upd H2 t (.tup [.int (i:Nat),.ref ta])=H3 at s1
   have hta1:=s1.js hta
   have hc:=uj (L:=L) (kvs:=kvs) hq
   have no:j8 rs L kvs i=false->ai H H3/\aX ((List.range i).filter (j8 rs L kvs))=aX ((List.range (i+1)).filter (j8 rs L kvs)):=fun z=>⟨s1,by rw[gO,z]; simp⟩
   refine⟨_,rfl,ta,_,_,_,rfl,rfl,hta1,rfl,_,rfl,_,rfl,ta,_,_,_,rfl,rfl,hta1,rfl,w,_,_,_,rfl,rfl,s1.seq hw,fv o1 o2,rfl,_,rfl,?_⟩
   refine bF (fun c=>?_) (fun c=>?_)
   rotate_left
   .have c: ¬rl.2.2=MA.g L rl.1:=by simpa using c
    exact aM (no (by rw[hc]; simp[c]))
   have c:rl.2.2=MA.g L rl.1:=by simpa using c
   refine⟨_,rfl,ta,_,_,_,rfl,rfl,hta1,rfl,_,rfl,d,_,rfl,dw.k (k:=Sum.inl rl.1) (s1 _ _ hd),_,rfl,?_⟩
   refine bF (fun c2=>?_) (fun c2=>?_)
   .refine⟨_,rfl,s1,?_⟩
    rw[gO,Ko (by rw[hc,c2]; simp[c]),lH]
   .exact no (by rw[hc]; simp[c,c2])
  .rintro ys H2 p ⟨sm,rfl⟩ np
   rw[xl] at *
   have s1:=sm.trans (ai.upd (o:= .lst (aX ((List.range rs.length).filter (j8 rs L kvs)))) np)
   have hp1:(upd H2 p (.lst (aX ((List.range rs.length).filter (j8 rs L kvs))))) p=some (.lst (aX ((List.range rs.length).filter (j8 rs L kvs)))):=ag
   dsimp only[aY,L2.start,List.set]
   generalize upd H2 p (.lst (aX ((List.range rs.length).filter (j8 rs L kvs))))=H3 at s1 hp1
   obtain⟨cs,ecs⟩: ∃cs,(List.range rs.length).filter (j8 rs L kvs)=cs:=⟨_,rfl⟩
   rw[ecs] at hp1
   have csl:cs.length<=100:=by rw[<-ecs]; exact KP (Ll _ _) (by rw[Lw]; exact hrl)
   have csm: ∀j∈cs,∃ql,rs[j]?=some ql/\ql.2.2=MA.g L ql.1/\aV kvs (Sum.inl ql.1)=some (.int (Om rs kvs j:Nat))/\nD kvs ql.1=some (Om rs kvs j):=fun j hj=>by
    rw[<-ecs] at hj
    obtain⟨h1,h2⟩:=Li.mp hj
    have h1:=KU.mp h1
    rw[uj (Kl h1),Lc] at h2
    obtain⟨y,y1,y2⟩:=uZ num h2.2
    have ed:Om rs kvs j=y:=by unfold Om; rw[MA.kx (Kl h1),y1]; rfl
    exact⟨_,Kl h1,KQ h2.1,by rw[ed]; exact y2,by rw[ed]; exact y1⟩
   have cmem: ∀(j:Nat) (ql:MA.av) (y:Nat),rs[j]?=some ql->ql.2.2=MA.g L ql.1->nD kvs ql.1=some y->j∈cs/\Om rs kvs j=y:=fun j ql y h1 h2 h3=>by
    refine⟨?_,by unfold Om; rw[MA.kx h1,h3]; rfl⟩
    rw[<-ecs]
    refine Li.mpr ⟨KU.mpr (Kv.mp h1).1,?_⟩
    rw[uj h1,KI h2,ve num h3]
    rfl
   refine⟨_,rfl,p,rfl,⟨_,NX.of hp1⟩,?_⟩
   refine b8 (xs:=aX cs) (fun i ys H'=>ai H3 H'/\ys=((cs.take i).map fun j=>V.int (Om rs kvs j:Nat))) (fun i ys H' _ h=>bq (NX.of (h.1 _ _ hp1))) ⟨ai.refl H3,rfl⟩ (aH (by unfold aX; rw[Kj]; omega)) (fun i ys H' h=>by rw[h.2,Kj,K4]; exact LD _ _) ?_ ?_
   .rintro i ys H4 x hi ⟨sm4,rfl⟩
    obtain⟨y,hy,rfl⟩:=sX hi
    obtain⟨ql,hq,hq2,hq3,_⟩:=csm y (Kp hy)
    have s4:=s1.trans sm4
    obtain⟨ta,hat,hta⟩:=qu (hX.same s4) hq
    dsimp only[aY,gN]
    refine aZ ⟨_,rfl,_,rfl,_,rfl,r,_,_,_,rfl,rfl,s4.seq hx,hat,ta,_,_,_,rfl,rfl,hta,rfl,d,_,rfl,hq3▸dw.k (k:=Sum.inl ql.1) (s4 _ _ hd),sm4,?_⟩
    rw[take_succ_get hy,KN]
    rfl
   .rintro ys H4 p4 ⟨sm4,rfl⟩ np4
    rw[show (aX cs).length=cs.length from Kj ..,K5] at *
    have s5:=s1.trans (sm4.trans (ai.upd (o:= .lst (cs.map fun j=>V.int (Om rs kvs j:Nat))) np4))
    have hp5:=(sm4.trans (ai.upd (o:= .lst (cs.map fun j=>V.int (Om rs kvs j:Nat))) np4)) _ _ hp1
    have h45:(upd H4 p4 (.lst (cs.map fun j=>V.int (Om rs kvs j:Nat)))) p4=some (.lst ((cs.map fun j=>((Om rs kvs j:Nat):Int)).map V.int)):=by rw[ag,L1]; rfl
    generalize upd H4 p4 (.lst (cs.map fun j=>V.int (Om rs kvs j:Nat)))=H5 at s5 hp5 h45
    obtain⟨i0,q0,y0,e0,e1,e2⟩:=hex
    have hne:0 < cs.length:=List.length_pos_of_mem (cmem i0 q0 y0 e0 e1 e2).1
    refine⟨p4,_,rfl,NX.of h45,by rw[Kj]; exact hne,fun M hM hle=>?_⟩
    obtain⟨jm,hjm,rfl⟩:=Lx.mp hM
    generalize hdm:Om rs kvs jm=dm at *
    dsimp only[aY,List.set]
    refine⟨_,rfl,p,rfl,⟨_,NX.of hp5⟩,?_⟩
    refine b8 (xs:=aX cs) (fun i ys H'=>ai H5 H'/\ys=aX ((cs.take i).filter fun j=>decide (Om rs kvs j=dm))) (fun i ys H' _ h=>bq (NX.of (h.1 _ _ hp5))) ⟨ai.refl H5,rfl⟩ (aH (by unfold aX; rw[Kj]; omega)) (fun i ys H' h=>by rw[h.2]; unfold aX; rw[Kj]; exact KP (Ll _ _) (by rw[K4]; exact LD _ _)) ?_ ?_
    .rintro i ys H6 x hi ⟨sm6,rfl⟩
     obtain⟨y,hy,rfl⟩:=sX hi
     obtain⟨ql,hq,hq2,hq3,_⟩:=csm y (Kp hy)
     have s6:=s5.trans sm6
     obtain⟨ta,hat,hta⟩:=qu (hX.same s6) hq
     refine⟨_,rfl,_,rfl,_,rfl,r,_,_,_,rfl,rfl,s6.seq hx,hat,ta,_,_,_,rfl,rfl,hta,rfl,d,_,rfl,hq3▸dw.k (k:=Sum.inl ql.1) (s6 _ _ hd),_,rfl,rfl,_,rfl,?_⟩
     refine bF (fun c=>?_) (fun c=>?_)
     .have c:((Om rs kvs y:Nat):Int)=dm:=by simpa using c
      have c:Om rs kvs y=dm:=by omega
      refine⟨_,rfl,sm6,?_⟩
      rw[take_succ_get hy,Lz,lH]
      simp[c]
     .have c: ¬((Om rs kvs y:Nat):Int)=dm:=by simpa using c
      have c: ¬Om rs kvs y=dm:=by omega
      refine⟨sm6,?_⟩
      rw[take_succ_get hy,Lz]
      simp[c]
    .rintro ys H6 p6 ⟨sm6,rfl⟩ np6
     rw[show (aX cs).length=cs.length from Kj ..,K5] at *
     have hin:jm∈cs.filter fun j=>decide (Om rs kvs j=dm):=Li.mpr ⟨hjm,KI hdm⟩
     cases ef:cs.filter fun j=>decide (Om rs kvs j=dm) with
     | nil=>rw[ef] at hin; cases hin
     | cons i1 tl =>
     have ef2:=ef
     rw[<-ecs,List.filter_filter] at ef2
     obtain⟨g1,g2,g3⟩:=wB ef2
     have hi1:i1∈cs.filter fun j=>decide (Om rs kvs j=dm):=by rw[ef]; exact Ky
     obtain⟨hi2,hi3⟩:=Li.mp hi1
     have hi3:=KQ hi3
     obtain⟨q1,w1,w2,_,w4⟩:=csm i1 hi2
     refine⟨p6,_,_,_,rfl,rfl,NX.of ag,(show Ob _ ((0:Nat):Int)=_ from cm rfl),?_⟩
     refine q i1 _ (s5.trans (sm6.trans (ai.upd np6))) ⟨q1,dm,w1,w2,by rw[w4,hi3],fun j q' y a b c=>?_,fun j q' hj a b c=>?_⟩
     .obtain⟨z1,z2⟩:=cmem j q' y a b c
      have:=hle _ (Lx.mpr ⟨j,z1,rfl⟩)
      rw[z2] at this
      omega
     .obtain⟨z1,z2⟩:=cmem j q' dm a b c
      rw[<-ecs] at z1
      have:=g3 j hj
      rw[z2,(Li.mp z1).2] at this
      simp at this
def i9 (rs:List MA.av) (L:List Int) (v:Int) (j:Nat):Bool:=match rs[j]? with
 | some q=>decide (q.2.1=v) && O4 L q
 | none=>false
theorem uv {rs:List MA.av}{L:List Int}{v:Int}{j:Nat}{q:MA.av}(h:rs[j]?=some q):i9 rs L v j=(decide (q.2.1=v) && O4 L q):=by unfold i9; rw[h]
def wU (K:NY):Sp:=fun vs H Q _=> ∃(r w d:Addr) (rs:List MA.av) (L:List Int) (kvs:Oi) (v:Int) (k:Nat),vs=[.ref r,.ref w,.ref d,.int v]/\OD K H r rs/\rs.length<=100/\NX K H w (L.map V.int)/\(∀q∈rs,N5 L.length q)/\H d=some (.dK kvs)/\(∀k v,aV kvs (Sum.inl k)=some v-> ∃j:Nat,v=V.int (j:Nat)) /\
 nD kvs v=some (k+1)/\(∃(i:Nat) (q:MA.av),rs[i]?=some q/\q.2.1=v/\MA.Tl L q/\nD kvs q.1=some k)/\ ∀(i:Nat) (H':Hp),ai H H'->MA.Nx rs L (nD kvs) v i->Q (.int (i:Nat)) H'
theorem wZ (T:Txt K mg a):N8 P w K mg base 4 "next_place" ["rules","widths","fewest","member"] (wU K):=by
 have qj:=@tZ P w K mg base a T
 refine bf T.nL lY (fun _ _ _ _ _ _=>Pn fun _ _ _ _=>rfl) (fun vs H Q E h=>?_) fun f cdv A outer s0 H vs Q E hr h=>?_
 .obtain⟨r,w,d,rs,L,kvs,v,k,rfl,_⟩:=h
  rfl
 .obtain⟨r,w,d,rs,L,kvs,v,k,rfl,⟨xs,hx,hX⟩,hrl,hw,hk,hd,num,hv,hex,q⟩:=h
  refine⟨_,(ah (ax (i:=4) lY.nd rfl (Or.inr rfl) (ay jJ (mY (df hr) (pv 2) (pv 3) (fun _ _=>rfl)) af))
   (ah (mU (i:=5) lY.nd rfl (Or.inl rfl) (psc:=aq iu) (own:=["place","rule"]) (frn:=["member","widths"]) (fr:=[3,1]) (by exact⟨rfl,by trivial,by trivial,by trivial,by trivial,by trivial⟩) rfl rfl rfl (yK (K:=K) (k:=2) (ky (bG (by decide:0 < 2)) iy (ky (bG (by decide:1 < 2)) iy vR m8) (ur iy m8))) (pM rfl T.fF (aa (pv 0) ae))
    (fun C s2 H2 fp=>⟨(show PG _ _ (yq K 2 _) from gx (n:=2) rfl (bj (aG (i:=0) (show (["place","rule","member","widths"]:List Str).Nodup by trivial) rfl (Or.inl rfl)) (bj (aG (i:=1) (show (["place","rule","member","widths"]:List Str).Nodup by trivial) rfl (Or.inl rfl)) fk))),(iA (PW.pt (eZ (aw bh (NZ K (pv 1) af) (pv 2) (aA _)) (eU (show PT _ _ (DS K _) from B1 (aJ qj hr.z (aa (pv 1) (aa (pv 3) ae))) (fun _=>rfl)))))),(pv 0)⟩))
   (aj (az (N2 K (cM (psc:=aq iu) (own:=["place"]) (frn:=["nearer","fewest","rules"]) (fr:=[4,2,0]) (by exact⟨rfl,by trivial,by trivial,by trivial,by trivial,by trivial⟩) rfl rfl rfl (bG (by decide:0 < 1)) (bC (pv 5))
    (fun C s2 H2 fp=>⟨(aG (i:=0) (show (["place","nearer","fewest","rules"]:List Str).Nodup by trivial) rfl (Or.inl rfl)),(iA (aw bh (xw (df hr) (pv 2) (NZ K (N2 K (pv 3) (pv 0)) af) (by constructor <;> first | rfl | (intros; rfl))) (pv 1) (aA _))),(pv 0)⟩)) af))))),?_⟩
  have vv:=ve num hv
  refine⟨_,rfl,_,rfl,d,.int ((k+1:Nat):Int),rfl,vv▸dw.k (k:=Sum.inl v) hd,_,_,rfl,rfl,?_⟩
  refine⟨_,rfl,r,rfl,⟨_,hx⟩,?_⟩
  have xl:=hX.length
  refine vY (xs:=xs) (fun i ys H'=>ai H H'/\ys=aX ((List.range i).filter (i9 rs L v))) (fun i ys H' h=>h.1.seq hx) ⟨ai.refl H,rfl⟩ (aH (by omega)) (fun i ys H' h=>by rw[h.2]; unfold aX; rw[Kj]; exact KP (Ll _ _) (by rw[Lw]; exact Kn _)) ?_ ?_
  .rintro i ys H2 x t hi ⟨sm,rfl⟩ nt
   obtain⟨rl,hq,ta,rfl,hta⟩:=hX.get hi
   have hrk:=hk rl (Kp hq)
   have s1:=sm.trans (ai.upd (o:= .tup [.int (i:Nat),.ref ta]) nt)
   refine⟨t,_,rfl,N1.of ag,rfl,_,_,rfl,_,_,rfl,rfl,?_⟩
   generalize upd H2 t (.tup [.int (i:Nat),.ref ta])=H3 at s1
   have hta1:=s1.js hta
   have hc:=uv (L:=L) (v:=v) hq
   have no:i9 rs L v i=false->ai H H3/\aX ((List.range i).filter (i9 rs L v))=aX ((List.range (i+1)).filter (i9 rs L v)):=fun z=>⟨s1,by rw[gO,z]; simp⟩
   refine⟨_,rfl,ta,_,_,_,rfl,rfl,hta1,rfl,_,rfl,rfl,_,rfl,?_⟩
   refine bF (fun c=>?_) (fun c=>?_)
   rotate_left
   .have c: ¬rl.2.1=v:=by simpa using c
    exact aM (no (by rw[hc]; simp[c]))
   have c:rl.2.1=v:=by simpa using c
   refine⟨_,rfl,_,rfl,_,rl,w,L,rfl,⟨ta,rfl,hta1⟩,s1.seq hw,hrk,_,rfl,?_⟩
   refine bF (fun c2=>?_) (fun c2=>?_)
   .refine⟨_,rfl,s1,?_⟩
    rw[gO,Ko (by rw[hc,c2]; simp[c]),lH]
   .exact no (by rw[hc]; simp[c,c2])
  .rintro ys H2 p ⟨sm,rfl⟩ np
   rw[xl] at *
   have s1:=sm.trans (ai.upd (o:= .lst (aX ((List.range rs.length).filter (i9 rs L v)))) np)
   have hp1:(upd H2 p (.lst (aX ((List.range rs.length).filter (i9 rs L v))))) p=some (.lst (aX ((List.range rs.length).filter (i9 rs L v)))):=ag
   dsimp only[aY,L2.start,List.set]
   generalize upd H2 p (.lst (aX ((List.range rs.length).filter (i9 rs L v))))=H3 at s1 hp1
   obtain⟨cs,ecs⟩: ∃cs,(List.range rs.length).filter (i9 rs L v)=cs:=⟨_,rfl⟩
   rw[ecs] at hp1
   have csl:cs.length<=100:=by rw[<-ecs]; exact KP (Ll _ _) (by rw[Lw]; exact hrl)
   have csm: ∀j∈cs,∃ql,rs[j]?=some ql/\ql.2.1=v/\MA.Tl L ql:=fun j hj=>by
    rw[<-ecs] at hj
    obtain⟨h1,h2⟩:=Li.mp hj
    have h1:=KU.mp h1
    rw[uv (Kl h1),Lc] at h2
    exact⟨_,Kl h1,KQ h2.1,tp.mp h2.2⟩
   have cmem: ∀(j:Nat) (ql:MA.av),rs[j]?=some ql->ql.2.1=v->MA.Tl L ql->i9 rs L v j=true:=fun j ql h1 h2 h3=>by
    rw[uv h1,KI h2,tp.mpr h3]
    rfl
   refine⟨_,rfl,p,rfl,⟨_,NX.of hp1⟩,?_⟩
   refine b8 (xs:=aX cs) (fun i ys H'=>ai H3 H'/\ys=aX ((cs.take i).filter fun j=>decide (nD kvs (MA.kC rs j)=some k))) (fun i ys H' _ h=>bq (NX.of (h.1 _ _ hp1))) ⟨ai.refl H3,rfl⟩ (aH (by unfold aX; rw[Kj]; omega)) (fun i ys H' h=>by rw[h.2]; unfold aX; rw[Kj]; exact KP (Ll _ _) (by rw[K4]; exact LD _ _)) ?_ ?_
   .rintro i ys H6 x hi ⟨sm6,rfl⟩
    obtain⟨y,hy,rfl⟩:=sX hi
    obtain⟨ql,hq,hq2,hq3⟩:=csm y (Kp hy)
    have s6:=s1.trans sm6
    obtain⟨ta,hat,hta⟩:=qu (hX.same s6) hq
    have hd6:=s6 _ _ hd
    have eo:MA.kC rs y=ql.1:=MA.kx hq
    have yes:nD kvs ql.1=some k->ai H3 H6/\aX ((cs.take i).filter fun j=>decide (nD kvs (MA.kC rs j)=some k))++[V.int (y:Nat)]=aX ((cs.take (i+1)).filter fun j=>decide (nD kvs (MA.kC rs j)=some k)):=fun z=>by
     refine⟨sm6,?_⟩
     rw[take_succ_get hy,Lz,lH]
     simp[eo,z]
    have no: ¬nD kvs ql.1=some k->ai H3 H6/\aX ((cs.take i).filter fun j=>decide (nD kvs (MA.kC rs j)=some k))=aX ((cs.take (i+1)).filter fun j=>decide (nD kvs (MA.kC rs j)=some k)):=fun z=>by
     refine⟨sm6,?_⟩
     rw[take_succ_get hy,Lz]
     simp[eo,z]
    refine⟨_,rfl,d,rfl,.inl ⟨kvs,.inl hd6⟩,_,rfl,_,rfl,r,_,_,_,rfl,rfl,s6.seq hx,hat,ta,_,_,_,rfl,rfl,hta,rfl,_,dw.k (k:=Sum.inl ql.1) hd6,?_⟩
    cases en:nD kvs ql.1 with
    | none =>
     rw[Fl num en]
     exact⟨_,rfl,rfl,_,rfl,aM (no (by rw[en]; intro z; cases z))⟩
    | some y1 =>
     rw[ve num en]
     refine⟨_,rfl,rfl,_,rfl,?_⟩
     refine bF (fun c=>?_) (fun c=>?_)
     .have c:((y1:Nat):Int)=((k+1:Nat):Int) - 1:=by simpa using c
      exact⟨_,rfl,yes (by rw[en,show y1=k by omega])⟩
     .have c: ¬((y1:Nat):Int)=((k+1:Nat):Int) - 1:=by simpa using c
      exact no (by rw[en]; intro z; cases z; omega)
   .rintro ys H6 p6 ⟨sm6,rfl⟩ np6
    rw[show (aX cs).length=cs.length from Kj ..,K5] at *
    obtain⟨jm,qm,m1,m2,m3,m4⟩:=hex
    have hin:jm∈cs.filter fun j=>decide (nD kvs (MA.kC rs j)=some k):=Li.mpr ⟨by rw[<-ecs]; exact Li.mpr ⟨KU.mpr (Kv.mp m1).1,cmem jm qm m1 m2 m3⟩,KI (by rw[MA.kx m1]; exact m4)⟩
    cases ef:cs.filter fun j=>decide (nD kvs (MA.kC rs j)=some k) with
    | nil=>rw[ef] at hin; cases hin
    | cons i1 tl =>
    have ef2:=ef
    rw[<-ecs,List.filter_filter] at ef2
    obtain⟨g1,g2,g3⟩:=wB ef2
    have hi1:i1∈cs.filter fun j=>decide (nD kvs (MA.kC rs j)=some k):=by rw[ef]; exact Ky
    obtain⟨hi2,hi3⟩:=Li.mp hi1
    have hi3:=KQ hi3
    obtain⟨q1,w1,w2,w3⟩:=csm i1 hi2
    rw[MA.kx w1] at hi3
    refine⟨p6,_,_,_,rfl,rfl,NX.of ag,(show Ob _ ((0:Nat):Int)=_ from cm rfl),?_⟩
    refine q i1 _ (s1.trans (sm6.trans (ai.upd np6))) ⟨q1,k,w1,w2,w3,hv,hi3,fun j q' hj a b c e=>?_⟩
    have:=g3 j hj
    rw[MA.kx a,e,cmem j q' a b c] at this
    simp at this
theorem t5 (T:Txt K mg a):N8 P w K mg base 5 "chain_of" ["count","rules","member"] (yX K):=by
 have cg:=@nR P w K mg base a T
 have vK:=@vc P w K mg base a T
 have w5:=@vp P w K mg base a T
 have xV:=@wZ P w K mg base a T
 refine bf T.qy lu (fun _ _ _ _ _ _=>OG fun _ _ _=>rfl) (fun vs H Q E h=>?_) fun f cdv A outer s0 H vs Q E hr h=>?_
 .obtain⟨n,r,rs,L,m,rfl,_⟩:=h
  rfl
 .obtain⟨n,r,rs,L,m,rfl,hn,hl,hR,hk,eL,m0,m1,q⟩:=h
  have lw:=MA.rA hk eL
  have ll:=lw.len
  refine⟨_,(ah (ax (i:=3) lu.nd rfl (Or.inl rfl) (aJ cg hr.z (aa (pv 0) (aa (pv 1) ae))))
   (ah (aK (aw bh (N2 K (pv 3) (pv 2)) af (aA _)) (aj (az (aQ ae))) aD)
   (ah (ax (i:=4) lu.nd rfl (Or.inl rfl) (aJ vK hr.z (aa (pv 1) (aa (pv 3) (aa (pv 2) ae)))))
   (ah (ax (i:=5) lu.nd rfl (Or.inl rfl) (aQ (aa (aJ w5 hr.z (aa (pv 1) (aa (pv 3) (aa (pv 4) ae)))) ae)))
   (ah (qb KL (aw gP (NZ K (N2 K (pv 1) (N2 K (pv 5) (xi u9 af))) af) (pv 2) (aA _)) (aj (aU (show PE _ _ (Oh K _ _ _ _) from cz Kw KR KS bS (pv 5) (aa (aJ xV hr.z (aa (pv 1) (aa (pv 3) (aa (pv 4) (aa (NZ K (N2 K (pv 1) (N2 K (pv 5) (xi u9 af))) af) ae))))) ae)))))
   (aj (az (pv 5)))))))),?_⟩
  refine⟨_,rfl,_,rfl,n,r,rs,rfl,by omega,hR,hk,fun H1 _ z=>(by rw[eL] at z; cases z),fun w L0 H1 nw s1 e hw=>?_⟩
  rw[eL] at e
  cases e
  refine⟨_,rfl,_,rfl,w,_,_,_,rfl,rfl,NX.of hw,fv m0 (by rw[ll]; exact m1),rfl,_,rfl,?_⟩
  refine bF (fun c=>?_) (fun c=>?_)
  .have c:MA.g L m=0:=by simpa using c
   exact⟨by decide,fun p np=>q p [] _ (s1.free np) (s1.trans (ai.upd np)) ag (.inl ⟨c,rfl⟩)⟩
  have c: ¬MA.g L m=0:=by simpa using c
  have hz:0 < MA.g L m:=by have:=lw.nn m m0 m1; omega
  have hk': ∀q∈rs,N5 L.length q:=by rw[ll]; exact hk
  refine⟨_,rfl,_,rfl,_,rfl,r,w,rs,L,m,rfl,hR.same s1,NX.of hw,hk',by omega,m0,by rw[ll]; exact m1,fun d kvs H2 nd s2 hd num D dbd=>?_⟩
  have s12:=s1.trans s2
  have hw2:=s2 _ _ hw
  refine⟨_,rfl,_,rfl,_,rfl,r,w,d,rs,L,kvs,rfl,hR.same s12,by omega,NX.of hw2,hk',hd,num,MA.Di lw D (MA.Hc hk eL) m0 m1 hz,fun i H3 s3 hf=>?_⟩
  refine⟨(by show 1<=sizeLine; decide),fun cp ncp=>?_⟩
  have s3':=s3.trans (ai.upd (o:= .lst [.int (i:Nat)]) ncp)
  have s123:=s12.trans s3'
  have fcp:H cp=none:=(s12.trans s3).free ncp
  have ncw:w≠cp:=aB (s3 _ _ hw2) ncp
  have hcp:(upd H3 cp (.lst [.int (i:Nat)])) cp=some (.lst (aX [i])):=ag
  obtain⟨qi,di,hi,_⟩:=id hf
  dsimp only[aY,L2.start,List.set]
  generalize upd H3 cp (.lst [.int (i:Nat)])=H4 at s3' s123 hcp
  refine⟨fun μ σ' H'=> ∃(cs:List Nat) (il:Nat) (ql:MA.av),σ'=[some (.int n),some (.ref r),some (.int m),some (.ref w),some (.ref d),some (.ref cp)]/\ai H H'/\H' w=some (.lst (L.map V.int))/\H' d=some (.dK kvs)/\H' cp=some (.lst (aX (cs++[il])))/\rs[il]?=some ql/\nD kvs ql.1=some μ/\cs.length+μ<=100/\ ∀rest,MA.Gr rs L (nD kvs) m ql.1 rest->ik rs L m (cs++il::rest),?_,?_⟩
  .obtain⟨q0,d0,a1,a2,a3,a4,a5⟩:=id hf
   refine⟨d0,[],i,q0,rfl,s123,s3' _ _ hw2,s3' _ _ hd,hcp,a1,a3,?_,fun rest hg=>MA.AB lw D hz hf a1 hg⟩
   have:=dbd _ _ a3
   show 0+d0<=100
   omega
  .rintro μ σ' H' ⟨cs,il,ql,rfl,sm,hw5,hd5,hc5,hil,hμ,hle,hgood⟩
   obtain⟨xs,hx,hX⟩:=hR.same sm
   obtain⟨ta,hat,hta⟩:=qu hX hil
   have hlast:Ob (aX (cs++[il])) (-1)=some (.int (il:Nat)):=by
    unfold Ob OS aX
    rw[Kj,Kr]
    simp
    rw[Ko (by omega),show (-1+((cs.length:Int)+1)).toNat=cs.length by omega]
    simp
   refine⟨_,rfl,_,rfl,_,rfl,cp,_,_,_,rfl,rfl,NX.of hc5,hlast,r,_,_,_,rfl,rfl,hx,hat,ta,_,_,_,rfl,rfl,hta,rfl,_,rfl,rfl,_,rfl,?_⟩
   refine bF (fun c=>?_) (fun c=>?_)
   rotate_left
   .have c:ql.1=m:=by simpa using c
    refine⟨_,rfl,q cp (cs++[il]) H' fcp sm hc5 (hgood [] (c▸ .nil))⟩
   have c: ¬ql.1=m:=by simpa using c
   obtain⟨μ',i2,q2,rfl,b1,b2,b3,b4⟩:=MA.E7 D hμ c
   refine⟨fun σ' H'=> ∃m',m' < μ'+1/\ ∃(cs:List Nat) (il:Nat) (ql:MA.av),σ'=[some (.int n),some (.ref r),some (.int m),some (.ref w),some (.ref d),some (.ref cp)]/\ai H H'/\H' w=some (.lst (L.map V.int))/\H' d=some (.dK kvs)/\H' cp=some (.lst (aX (cs++[il])))/\rs[il]?=some ql/\nD kvs ql.1=some m'/\cs.length+m'<=100/\ ∀rest,MA.Gr rs L (nD kvs) m ql.1 rest->ik rs L m (cs++il::rest),fun _ _ z=>z,?_⟩
   refine⟨_,rfl,.inl ⟨rfl,_,NX.of hc5⟩,_,rfl,_,rfl,_,rfl,_,rfl,_,rfl,_,rfl,cp,_,_,_,rfl,rfl,NX.of hc5,hlast,r,_,_,_,rfl,rfl,hx,hat,ta,_,_,_,rfl,rfl,hta,rfl,?_⟩
   refine⟨r,w,d,rs,L,kvs,ql.1,μ',rfl,⟨xs,hx,hX⟩,by omega,NX.of hw5,hk',hd5,num,hμ,⟨i2,q2,b1,b2,b3,b4⟩,fun i3 H6 s6 hnx=>?_⟩
   obtain⟨q3,d3,e1,e2,e3,e4,e5,e6⟩:=id hnx
   rw[hμ] at e4
   cases e4
   have hc6:=s6 _ _ hc5
   refine⟨cp,_,_,rfl,rfl,hc6,aH (by unfold aX; rw[Kj,Kr]; show cs.length+1<=1000; omega),?_⟩
   have ncd:cp≠d:=fun z=>by
    have:=hd5
    rw[<-z,hc5] at this
    cases this
   refine⟨μ',Ms _,cs++[il],i3,q3,rfl,(sm.trans s6).cN fcp,(ao ncw).trans (s6 _ _ hw5),(ao (KW ncd)).trans (s6 _ _ hd5),?_,e1,e5,?_,fun rest hg=>?_⟩
   .rw[ag,lH]
   .rw[Kr]; show cs.length+1+μ'<=100; omega
   .have:=hgood (i3::rest) (.cons hnx e1 hg)
    rw[Mo]
    exact this
def DM (K:NY):Sp:=fun vs H Q _=> ∃(x:Int) (c:Option Int),vs=[.int x,fG c]/\Q (.bl (MA.over x c)) H
theorem yp (T:Txt K mg a):N8 P w K mg base 1 "above" ["width","top"] (DM K):=by
 refine bf T.vX DZ (fun _ _ _ _ _ _=>Oa fun _ _=>rfl) (fun vs H Q E h=>?_) fun f c A o s H vs Q E hr h=>?_
 .obtain⟨x,c,rfl,_⟩:=h
  rfl
 .obtain⟨x,c,rfl,q⟩:=h
  refine⟨_,(aj (az (nY (sP (dX fj (pv 1) bJ (aA _)) (rH (dX tw (pv 0) (pv 1) (aA _))))))),?_⟩
  refine⟨fun v' H'=>v'= .bl (MA.over x c)/\H'=H,?_,fun v' H' z=>by rw[z.1,z.2]; exact q⟩
  refine⟨_,rfl,rfl,_,rfl,?_⟩
  cases c with
  | none=>exact⟨rfl,rfl⟩
  | some c=>exact⟨_,rfl,_,rfl,_,_,rfl,rfl,rfl,rfl⟩
def JG:Option Nat->V
 | none=> .non
 | some i=> .int (i:Nat)
def wQ (K:NY):Sp:=fun vs H Q _=> ∃(p:Addr) (ws:List Int) (c:Addr) (cs:List (Option Int)),vs=[.ref p,.ref c]/\NX K H p (ws.map V.int)/\NX K H c (cs.map fG)/\cs.length=ws.length/\ws.length<=12/\ ∀H',ai H H'->Q (JG (MA.dM ws cs)) H'
theorem qX (T:Txt K mg a):N8 P w K mg base 2 "first_wide" ["widths","tops"] (wQ K):=by
 have vz:=@yp P w K mg base a T
 refine bf T.nI me (fun _ _ _ _ _ _=>Oa fun _ _=>rfl) (fun vs H Q E h=>?_) fun f c A o s H vs Q E hr h=>?_
 .obtain⟨p,ws,c,cs,rfl,_⟩:=h
  rfl
 .obtain⟨p,ws,c,cs,rfl,hp,hc,hcl,hwl,q⟩:=h
  refine⟨_,(ah (bP KL rfl (pM rfl T.fF (aa (pv 0) ae)) (gx rfl (bj (aG (i:=2) me.nd rfl (Or.inl rfl)) (bj (aG (i:=3) me.nd rfl (Or.inl rfl)) fk)))
   (aj (aK (ba (aJ vz hr.z (aa (pv 3) (aa (N2 K (pv 1) (pv 2)) ae))) (fun _=>rfl)) (aj (az (pv 2))) aD)))
   (aj (az bJ))),?_⟩
  refine⟨_,rfl,p,rfl,⟨_,hp⟩,?_⟩
  refine uE (xs:=ws.map V.int) (fun i σ' H'=> ∃v2 v3:Option V,σ'=[some (.ref p),some (.ref c),v2,v3]/\ai H H'/\ ∀j,j < i->MA.over (MA.g ws (j:Nat)) (cs.getD j none)=false) ⟨none,none,rfl,ai.refl H,fun j hj=>absurd hj (LC _)⟩ (fun i σ' H' _ ⟨_,_,_,sm,_⟩=>sm.seq hp) ?_ ?_
  .rintro i x σ' H' t hi ⟨v2,v3,rfl,sm,hdn⟩ nt
   have s1:=sm.trans (ai.upd (o:= .tup [.int (i:Nat),x]) nt)
   obtain⟨hin,rfl⟩:i < ws.length/\x= .int (MA.g ws (i:Nat)):=by
    rw[KD] at hi
    cases e:ws[i]? with
    | none=>rw[e] at hi; cases hi
    | some y =>
     rw[e] at hi
     obtain⟨hl,rfl⟩:=Kv.mp e
     refine⟨hl,?_⟩
     rw[show MA.g ws (i:Nat)=ws[i] from by unfold MA.g; rw[KO,Ku,e]; rfl]
     exact (KJ hi).symm
   refine⟨t,_,rfl,N1.of ag,rfl,_,_,rfl,_,_,rfl,rfl,?_⟩
   generalize upd H' t (.tup [.int (i:Nat),.int (MA.g ws (i:Nat))])=H1 at s1
   refine⟨_,rfl,_,rfl,_,rfl,c,_,_,_,rfl,rfl,s1.seq hc,Hf (cs:=cs) (k:=i) (by omega),?_⟩
   refine⟨_,_,rfl,_,rfl,?_⟩
   refine bF (fun z=>?_) (fun z=>?_)
   .have hw:MA.dM ws cs=some i:=MA.A7 hin z hdn
    rw[hw] at q
    exact⟨_,rfl,q _ s1⟩
   .refine⟨_,_,rfl,s1,fun j hj=>?_⟩
    by_cases e:j=i
    .rw[e]; exact K6 _▸z
    .exact hdn j (by omega)
  .rintro σ' H' ⟨v2,v3,rfl,sm,hdn⟩
   rw[Kj] at hdn
   rw[MA.Av hdn] at q
   exact q _ sm
def zi (K:NY):Sp:=fun vs H Q _=> ∃(n:Nat) (r:Addr) (rs:List MA.av) (L:List Int) (c:Addr) (cs:List (Option Int)) (m:Int),vs=[.int n,.ref r,.ref c,.int m]/\n<=12/\rs.length<=24/\kM K H r rs/\(∀q∈rs,N5 n q)/\bA n rs=some L/\NX K H c (cs.map fG)/\cs.length=n/\MA.Within n L cs/\(∀(v:Nat) (k:Int),cs.getD v none=some k->k<=99999)/\0<=m/\m < n /\
 (∀H',ai H H'->MA.lA n rs L cs m none->Q .non H')/\ ∀(t:Addr) (s:Int) (stop:Nat) (H':Hp),ai H H'->H' t=some (.tup [.int s,.int (stop:Nat)])->MA.lA n rs L cs m (some (s,stop))->Q (.ref t) H'
def Be (K:NY):Sp:=fun vs H Q _=> ∃(x:Int) (c:Option Int),vs=[.int x,fG c]/\Q (.int (MA.OQ x c)) H
theorem Bx (T:Txt K mg a):N8 P w K mg base 2 "excess" ["width","top"] (Be K):=by
 have vz:=@yp P w K mg base a T
 refine bf T.uf B0 (fun _ _ _ _ _ _=>Oa fun _ _=>rfl) (fun vs H Q E h=>?_) fun f c A o s H vs Q E hr h=>?_
 .obtain⟨x,c,rfl,_⟩:=h
  rfl
 .obtain⟨x,c,rfl,q⟩:=h
  refine⟨_,(aj (az (nY (yD (ba (aJ vz hr.z (aa (pv 0) (aa (pv 1) ae))) (fun _=>rfl)) (ay jJ (pv 0) (pv 1)) af)))),?_⟩
  refine⟨fun v' H'=>v'= .int (MA.OQ x c)/\H'=H,?_,fun v' H' z=>by rw[z.1,z.2]; exact q⟩
  refine⟨_,rfl,_,rfl,x,c,rfl,_,rfl,?_⟩
  cases c with
  | none=>exact aM ⟨rfl,rfl⟩
  | some c =>
   refine bF (fun z=>?_) (fun z=>?_)
   .have z:c < x:=KQ z
    refine⟨_,rfl,_,rfl,_,_,rfl,rfl,?_,rfl⟩
    show _=V.int (if c < x then x - c else 0)
    rw[Ko z]
   .have z: ¬c < x:=Ld (K6 _▸z)
    refine⟨?_,rfl⟩
    show _=V.int (if c < x then x - c else 0)
    rw[Kk z]
theorem zJ {cs:List (Option Int)}{i:Nat}{x:V}(h:(cs.map fG)[i]?=some x):x=fG (cs.getD i none):=by
 rw[KD] at h
 rw[Ku]
 cases e:cs[i]? with
 | none=>rw[e] at h; cases h
 | some y=>rw[e] at h; exact (KJ h).symm
theorem Fj {ws:List Int}{i:Nat}{x:V}(h:(ws.map V.int)[i]?=some x):i < ws.length/\x= .int (MA.g ws (i:Nat)):=by
 rw[KD] at h
 cases e:ws[i]? with
 | none=>rw[e] at h; cases h
 | some y =>
  rw[e] at h
  obtain⟨hl,rfl⟩:=Kv.mp e
  refine⟨hl,?_⟩
  rw[show MA.g ws (i:Nat)=ws[i] from by unfold MA.g; rw[KO,Ku,e]; rfl]
  exact (KJ h).symm
theorem CY {es:List Int}{M:Int}(h:M∈es): ∃j:Nat,es[j]?=some M/\ ∀v,v < j->es[v]?≠some M:=by
 induction es with
 | nil=>cases h
 | cons a es ih =>
  by_cases e:a=M
  .subst e
   exact⟨0,rfl,fun v hv=>absurd hv (LC _)⟩
  .obtain⟨j,h1,h2⟩:=ih ((Ks.mp h).resolve_left fun z=>e z.symm)
   refine⟨j+1,h1,fun v hv=>?_⟩
   cases v with
   | zero=>intro z; exact e (KJ z)
   | succ v=>exact h2 v (by omega)
theorem y8 (T:Txt K mg a):N8 P w K mg base 5 "slack_of" ["count","rules","tops","member"] (zi K):=by
 have cg:=@nR P w K mg base a T
 have Dr:=@Bx P w K mg base a T
 refine bf T.qT gD (fun _ _ _ _ _ _=>Pn fun _ _ _ _=>rfl) (fun vs H Q E h=>?_) fun f cdv A outer s0 H vs Q E hr h=>?_
 .obtain⟨n,r,rs,L,c,cs,m,rfl,_⟩:=h
  rfl
 .obtain⟨n,r,rs,L,c,cs,m,rfl,hn,hl,hR,hk,eL,hc,cl,hW,_,m0,m1,k1,k2⟩:=h
  obtain⟨l1,l2,l3,l4⟩:=MA.dz hk eL
  refine⟨_,(ah (ax (i:=4) gD.nd rfl (Or.inl rfl) (aJ cg hr.z (aa (pv 0) (aa (pv 1) ae))))
   (dS (ax (i:=5) gD.nd rfl (Or.inl rfl) (ay bN (show PE _ _ (ED K _ _) from F8 rfl rfl T.lq (cM (psc:=aq jD) (own:=["top"]) (frn:=[]) (fr:=[]) (by exact⟨rfl,by trivial,by trivial,by trivial,by trivial,by trivial⟩) rfl rfl rfl (bG (by decide:0 < 1)) (bC (pv 2))
    (fun C s2 H2 fp=>⟨(aG (i:=0) (show (["top"]:List Str).Nodup by trivial) rfl (Or.inl rfl)),(iA (aw fj (pv 0) bJ (aA _))),(pv 0)⟩)) af) af))
   (ah (ax (i:=6) gD.nd rfl (Or.inl rfl) (aJ cg hr.z (aa (pv 0) (aa (ay eE (pv 1) (aQ (aa (bM (aa (pv 3) (aa (ku T.lR) (aa (ay bN (N2 K (pv 4) (pv 3)) (pv 5)) ae)))) ae))) ae))))
   (ah (mU (i:=7) gD.nd rfl (Or.inl rfl) (psc:=aq jD) (own:=["width","top"]) (frn:=[]) (fr:=[]) (by exact⟨rfl,by trivial,by trivial,by trivial,by trivial,by trivial⟩) rfl rfl rfl (yK (K:=K) (k:=2) (ky (bG (by decide:0 < 2)) iy (ky (bG (by decide:1 < 2)) iy vR m8) (ur iy m8))) (GV rfl T.AH (aa (pv 6) (aa (pv 2) ae)))
    (fun C s2 H2 fp=>⟨(show PG _ _ (yq K 2 _) from gx (n:=2) rfl (bj (aG (i:=0) (show (["width","top"]:List Str).Nodup by trivial) rfl (Or.inl rfl)) (bj (aG (i:=1) (show (["width","top"]:List Str).Nodup by trivial) rfl (Or.inl rfl)) fk))),dD,(aJ Dr hr.z (aa (pv 0) (aa (pv 1) ae)))⟩))
   (ah (ax (i:=8) gD.nd rfl (Or.inl rfl) (bz (show de _ _ (Hq K) from Bs rfl) (by rfl) T.lq boot_max (aa (pv 7) ae)))
   (ah (aK (aw bh (pv 8) af (aA _)) (aj (az bJ)) aD)
   (aj (az (bM (aa (ay jJ (pv 5) (pv 8)) (aa (show PE _ _ (Oh K _ _ _ _) from cz Kw LH LI DF (pv 7) (aa (pv 8) ae)) ae))))))))))),?_⟩
  refine⟨_,rfl,_,rfl,n,r,rs,rfl,by omega,hR.O5,hk,fun H1 _ z=>(by rw[eL] at z; cases z),fun w L0 H1 nw s1 e hw=>?_⟩
  rw[eL] at e
  cases e
  have cap0: ∀(v:Nat) (k:Int),cs.getD v none=some k->k∈cs.filterMap id:=fun v k e=>by
   refine Mv.mpr ⟨some k,?_,rfl⟩
   rw[Ku] at e
   cases e2:cs[v]? with
   | none=>rw[e2] at e; cases e
   | some y=>rw[e2] at e; cases (show y=some k from e); exact Kp e2
  have nn: ∀k∈cs.filterMap id,0<=k:=fun k hk'=>by
   obtain⟨y,y1,y2⟩:=Mv.mp hk'
   cases (show y=some k from y2)
   obtain⟨v,hv,e⟩:=LG.mp y1
   have:=hW v k (by omega) (by rw[Ku,Kl hv,e]; rfl)
   have:=l3 (v:Nat) (by omega) (by omega)
   omega
  refine⟨fun σ' H'=> ∃x:Int,0<=x/\(∀k∈cs.filterMap id,k<=x)/\σ'=[some (.int n),some (.ref r),some (.ref c),some (.int m),some (.ref w),some (.int (x+1)),none,none,none]/\ai H H'/\H' w=some (.lst (L.map V.int)),?_,?_⟩
  .refine⟨_,rfl,c,rfl,⟨_,s1.seq hc⟩,?_⟩
   refine b8 (xs:=cs.map fG) (fun i ys H'=>ai H1 H'/\ys=(((cs.take i).filterMap id).map V.int)) (fun i ys H' _ h=>bq (h.1.seq (s1.seq hc))) ⟨ai.refl H1,rfl⟩ (aH (by rw[Kj]; omega)) (fun i ys H' h=>by rw[h.2,Kj]; exact KP (List.length_filterMap_le _ _) (by rw[K4]; exact LD _ _)) ?_ ?_
   .rintro i ys H2 x hi ⟨sm,rfl⟩
    have hil:i < cs.length:=by have:=(Kv.mp hi).1; rwa [Kj] at this
    obtain rfl:=zJ hi
    have tk:cs.take (i+1)=cs.take i++[cs.getD i none]:=by
     rw[La,Ku,Kl hil]
     rfl
    refine⟨_,rfl,rfl,_,rfl,?_⟩
    rw[tk,List.filterMap_append,KN]
    cases e:cs.getD i none with
    | none=>exact aM ⟨sm,by simp⟩
    | some c0=>exact aZ ⟨_,rfl,sm,by simp[fG]⟩
   .rintro ys H2 p ⟨sm,rfl⟩ np
    rw[Kj,K5] at *
    have s2:=s1.trans (sm.trans (ai.upd (o:= .lst ((cs.filterMap id).map V.int)) np))
    have hw2:=(sm.trans (ai.upd (o:= .lst ((cs.filterMap id).map V.int)) np)) _ _ hw
    have hp2:(upd H2 p (.lst ((cs.filterMap id).map V.int))) p=some (.lst ((cs.filterMap id).map V.int)):=ag
    generalize upd H2 p (.lst ((cs.filterMap id).map V.int))=H3 at s2 hw2 hp2
    exact⟨p,cs.filterMap id,rfl,NX.of hp2,0,rfl,NX.of hp2,fun z=>⟨_,_,rfl,rfl,0,K2 _,(fun k hk'=>by rw[z] at hk'; cases hk'),rfl,s2,hw2⟩,fun M hM hle=>⟨_,_,rfl,rfl,M,nn M hM,hle,rfl,s2,hw2⟩⟩
  rintro σ' H3 ⟨x,x0,hx,rfl,s2,hw2⟩
  have hx': ∀(v:Nat) (k:Int),cs.getD v none=some k->k < x+1:=fun v k e=>by have:=hx k (cap0 v k e); omega
  obtain⟨hk',W,eW,wl,wv⟩:=MA.Ae hk eL m0 m1 (show 0<=x+1 by omega)
  obtain⟨xs,hxs,hX⟩:=hR.same s2
  have xl:=hX.length
  refine⟨_,rfl,_,rfl,_,rfl,_,rfl,_,rfl,w,_,_,_,rfl,rfl,NX.of hw2,fv m0 (by rw[l1]; exact m1),_,rfl,_,_,rfl,rfl,(by show 3<=sizeLine; decide),fun t nt=>⟨(by show 1<=sizeLine; decide),fun l nl=>?_⟩⟩
  have st:=ai.upd (o:= .tup [.int m,.int (-1),.int (MA.g L m+(x+1))]) nt
  have sl:=ai.upd (o:= .lst [.ref t]) nl
  have hl1:(upd (upd H3 t (.tup [.int m,.int (-1),.int (MA.g L m+(x+1))])) l (.lst [.ref t])) l=some (.lst [.ref t]):=ag
  have ht1:=sl _ _ (ag (H:=H3) (a:=t) (o:= .tup [.int m,.int (-1),.int (MA.g L m+(x+1))]))
  refine⟨r,l,_,_,rfl,rfl,(st.trans sl) _ _ hxs,hl1,by rw[xl]; exact KY (aH (by show rs.length+1<=1000; omega)),fun r3 nr3=>?_⟩
  have sr:=ai.upd (o:= .lst (xs++[.ref t])) nr3
  have s4:=(st.trans sl).trans sr
  have ht4:=sr _ _ ht1
  have hr4:(upd (upd (upd H3 t (.tup [.int m,.int (-1),.int (MA.g L m+(x+1))])) l (.lst [.ref t])) r3 (.lst (xs++[.ref t]))) r3=some (.lst (xs++[.ref t])):=ag
  generalize upd (upd (upd H3 t (.tup [.int m,.int (-1),.int (MA.g L m+(x+1))])) l (.lst [.ref t])) r3 (.lst (xs++[.ref t]))=H4 at s4 ht4 hr4
  have hX4:cH K H4 (xs++[.ref t]) (rs++[(m,-1,MA.g L m+(x+1))]):=(hX.same s4).append (.cons ⟨t,rfl,N1.of ht4⟩ .nil)
  refine⟨n,r3,_,rfl,by omega,⟨_,NX.of hr4,hX4⟩,hk',fun H5 _ z=>(by rw[eW] at z; cases z),fun w2 L0 H5 nw2 s5 e hw5=>?_⟩
  rw[eW] at e
  cases e
  have s25:=(s2.trans s4).trans s5
  have hc5:=s25.seq hc
  refine⟨_,rfl,_,rfl,w2,c,rfl,⟨_,NX.of hw5⟩,⟨_,hc5⟩,?_⟩
  refine Ei (xs:=W.map V.int) (zs:=cs.map fG) (fun i ys H'=>ai H5 H'/\ys=((List.range i).map fun v=>MA.OQ (MA.g W (v:Nat)) (cs.getD v none)).map V.int) (fun i ys H' h=>⟨NX.of (h.1 _ _ hw5),h.1.seq hc5⟩) (by rw[Kj,Kj]; omega) ⟨ai.refl H5,rfl⟩ (aH (by rw[Kj]; omega)) (fun i ys H' h=>by rw[h.2,Kj,Kj,Lw]; exact Kn _) ?_ ?_
  .rintro i ys H6 y z t6 hy hz ⟨sm,rfl⟩ nt6
   obtain⟨hil,rfl⟩:=Fj hy
   obtain rfl:=zJ hz
   have s7:=sm.trans (ai.upd (o:= .tup [.int (MA.g W (i:Nat)),fG (cs.getD i none)]) nt6)
   refine⟨t6,_,rfl,N1.of ag,rfl,_,_,rfl,_,_,rfl,rfl,?_⟩
   dsimp only[gN]
   refine aZ ⟨_,rfl,_,rfl,_,_,rfl,s7,?_⟩
   rw[LZ,KN,KN]
   rfl
  .rintro ys H6 p6 ⟨sm,rfl⟩ np6
   rw[Kj,wl] at *
   generalize hes:((List.range n).map fun v=>MA.OQ (MA.g W (v:Nat)) (cs.getD v none))=es at *
   have esl:es.length=n:=by rw[<-hes,Kj,Lw]
   have esg: ∀v:Nat,v < n->es[v]?=some (MA.OQ (MA.g W (v:Nat)) (cs.getD v none)):=fun v hv=>by rw[<-hes,KD,List.getElem?_range hv]; rfl
   have s7:=s25.trans (sm.trans (ai.upd (o:= .lst (es.map V.int)) np6))
   have hp7:(upd H6 p6 (.lst (es.map V.int))) p6=some (.lst (es.map V.int)):=ag
   dsimp only[aY,List.set]
   generalize upd H6 p6 (.lst (es.map V.int))=H7 at s7 hp7
   refine⟨_,rfl,p6,es,rfl,NX.of hp7,by omega,fun M hM hle=>?_⟩
   have cal:=MA.Aa hk eL m0 m1 hW hx' wv (M:=M) fun v hv=>hle _ (Kp (esg v hv))
   refine⟨_,rfl,rfl,_,rfl,?_⟩
   refine bF (fun z=>?_) (fun z=>?_)
   .have z:M=0:=by simpa using z
    exact k1 _ s7 (cal.1 z)
   .have z: ¬M=0:=by simpa using z
    obtain⟨j,hj,hjm⟩:=CY hM
    have hjn:j < n:=by rw[<-esl]; exact (Kv.mp hj).1
    refine⟨_,rfl,_,rfl,_,_,rfl,rfl,_,rfl,.inl ⟨rfl,_,NX.of hp7⟩,_,rfl,p6,es,M,j,rfl,rfl,hp7,hj,hjm,(by show 2<=sizeLine; decide),fun t8 nt8=>?_⟩
    refine k2 t8 (x+1 - M) j _ (s7.trans (ai.upd nt8)) ag (cal.2 j hjn ?_ (fun v hv e=>?_) z)
    .rw[esg j hjn] at hj; exact KJ hj
    .exact hjm v hv (by rw[esg v (by omega),e])
def AK (K:NY):Sp:=fun vs H Q _=> ∃(n:Nat) (r:Addr) (rs:List MA.av) (L L':List Int) (k:Nat),vs=[.int n,.ref r,.int k]/\n<=12/\rs.length<=24/\OD K H r rs/\(∀q∈rs,N5 n q)/\bA n rs=some L/\k < rs.length/\bA n (rs.take k++rs.drop (k+1))=some L'/\ ∀H',ai H H'->Q (.int (L.sum - L'.sum)) H'
theorem A2 (T:Txt K mg a):N8 P w K mg base 5 "cost_of" ["count","rules","place"] (AK K):=by
 have cg:=@nR P w K mg base a T
 refine bf T.sV u6 (fun _ _ _ _ _ _=>OG fun _ _ _=>rfl) (fun vs H Q E h=>?_) fun f c A o s H vs Q E hr h=>?_
 .obtain⟨n,r,rs,L,L',k,rfl,_⟩:=h
  rfl
 .obtain⟨n,r,rs,L,L',k,rfl,hn,hl,hR,hk,eL,hkl,eL',q⟩:=h
  refine⟨_,(ah (ax (i:=3) u6.nd rfl (Or.inl rfl) (ay eE (fK (show OT _ (qc K) from jx) (pv 1) gC (gB (pv 2))) (fK (show OT _ (qc K) from jx) (pv 1) (gB (ay bN (pv 2) af)) gC)))
   (aj (az (ay jJ (bz (show de _ _ (Er K) from yL rfl) (by rfl) T.xu boot_sum (aa (aJ cg hr.z (aa (pv 0) (aa (pv 1) ae))) ae)) (bz (show de _ _ (Er K) from yL rfl) (by rfl) T.xu boot_sum (aa (aJ cg hr.z (aa (pv 0) (aa (pv 3) ae))) ae)))))),?_⟩
  obtain⟨xs,hx,hX⟩:=id hR
  have hxl:=hX.length
  refine⟨_,rfl,_,rfl,_,rfl,r,xs,rfl,hx,fun c1 nc1=>?_⟩
  rw[uG]
  refine⟨_,rfl,_,rfl,_,_,rfl,rfl,_,rfl,r,xs,rfl,(ai.upd nc1).seq hx,fun c2 nc2=>?_⟩
  rw[show (((k:Nat):Int)+1)=((k+1:Nat):Int) by omega,qM]
  refine⟨c1,c2,_,_,rfl,rfl,ai.upd nc2 _ _ ag,ag,by rw[K4,Ls]; exact KY (aH (by omega)),fun c3 nc3=>?_⟩
  have s4:=((ai.upd (o:= .lst (xs.take k)) nc1).trans (ai.upd (o:= .lst (xs.drop (k+1))) nc2)).trans (ai.upd (o:= .lst (xs.take k++xs.drop (k+1))) nc3)
  have hX4:cH K _ (xs.take k++xs.drop (k+1)) (rs.take k++rs.drop (k+1)):=(hX.same s4 |>.take k).append (hX.same s4 |>.drop (k+1))
  have h3:(upd (upd (upd H c1 (.lst (xs.take k))) c2 (.lst (xs.drop (k+1)))) c3 (.lst (xs.take k++xs.drop (k+1)))) c3=some (.lst (xs.take k++xs.drop (k+1))):=ag
  dsimp only[aY,L2.start,List.set]
  generalize upd (upd (upd H c1 (.lst (xs.take k))) c2 (.lst (xs.drop (k+1)))) c3 (.lst (xs.take k++xs.drop (k+1)))=H4 at s4 hX4 h3
  have hsub: ∀q∈rs.take k++rs.drop (k+1),q∈rs:=fun q hq=>by
   rcases Kz.mp hq with hq | hq
   .exact ML hq
   .exact MJ hq
  refine⟨_,rfl,_,rfl,n,r,rs,rfl,by omega,hR.same s4,hk,fun H5 _ z=>(by rw[eL] at z; cases z),fun p L0 H5 np s5 e hp=>?_⟩
  rw[eL] at e
  cases e
  refine⟨p,L,rfl,NX.of hp,?_⟩
  refine⟨_,rfl,_,rfl,n,c3,_,rfl,by omega,⟨_,NX.of (s5 _ _ h3),hX4.same s5⟩,fun q hq=>hk q (hsub q hq),fun H6 _ z=>(by rw[eL'] at z; cases z),fun p2 L0 H6 np2 s6 e hp2=>?_⟩
  rw[eL'] at e
  cases e
  exact⟨p2,L',rfl,NX.of hp2,_,_,rfl,rfl,q _ ((s4.trans s5).trans s6)⟩
def HB (K:NY):Sp:=fun vs H Q _=> ∃(n:Nat) (r:Addr) (rs:List MA.av),vs=[.int n,.ref r]/\n<=1000/\OD K H r rs/\(∀q∈rs,N5 n q)/\ ∀(p:Addr) (ds:List Addr) (H':Hp),Ot H H' n p ds (MA.aP n rs)->Q (.ref p) H'
theorem Hk (T:Txt K mg a):N8 P w K mg base 1 "_law_far" ["_law_count","_law_rules_here"] (HB K):=by
 refine bf T.sS eO (fun _ _ _ _ _ _=>Oa fun _ _=>rfl) (fun vs H Q E h=>?_) fun f c A o s H vs Q E hr h=>?_
 .obtain⟨n,r,rs,rfl,_⟩:=h
  rfl
 .obtain⟨n,r,rs,rfl,hn,⟨xs,hx,hX⟩,hk,q⟩:=h
  refine⟨_,(ah (mU (i:=2) eO.nd rfl (Or.inl rfl) (psc:=aq ou) (own:=["_law_k"]) (frn:=["_law_count"]) (fr:=[0]) (by exact⟨rfl,by trivial,by trivial,by trivial,by trivial,by trivial⟩) rfl rfl rfl (bG (by decide:0 < 1)) (b6 rfl T.cE (aa (pv 0) ae))
    (fun C s2 H2 fp=>⟨(aG (i:=0) (show (["_law_k","_law_count"]:List Str).Nodup by trivial) rfl (Or.inl rfl)),dD,(ay sL (aQ (aa (xi u9 af) ae)) (pv 1))⟩))
   (ah (bP KL rfl (b6 rfl T.cE (aa (pv 0) ae)) (aG (i:=3) eO.nd rfl (Or.inl rfl))
   (aj (gY af (lz (N2 K (pv 2) (pv 3)) (pv 3) set_list))))
   (ah (bP KL rfl (bC (pv 1)) (gx rfl (bj (aG (i:=4) eO.nd rfl (Or.inl rfl)) (bj (aG (i:=5) eO.nd rfl (Or.inl rfl)) (bj (aG (i:=6) eO.nd rfl (Or.inl rfl)) fk))))
   (aj (aK (aw xg (pv 5) af (aA _)) (aj (gY (bz (jC rfl) (by rfl) T.lq boot_max (aa (N2 K (N2 K (pv 2) (pv 5)) (pv 4)) (aa (pv 6) ae))) (lz (N2 K (pv 2) (pv 5)) (pv 4) set_list))) aD)))
   (ah (bP KL rfl (b6 rfl T.cE (aa (pv 0) ae)) (aG (i:=7) eO.nd rfl (Or.inl rfl))
   (aj (bP KL rfl (b6 rfl T.cE (aa (pv 0) ae)) (aG (i:=8) eO.nd rfl (Or.inl rfl))
   (ah (aK (aw oq (N2 K (N2 K (pv 2) (pv 8)) (pv 7)) af (aA _)) (aj zh) aD)
   (aj (bP KL rfl (b6 rfl T.cE (aa (pv 0) ae)) (aG (i:=9) eO.nd rfl (Or.inl rfl))
   (aj (aK (aw xg (N2 K (N2 K (pv 2) (pv 7)) (pv 9)) af (aA _)) (aj (gY (bz (jC rfl) (by rfl) T.lq boot_max (aa (N2 K (N2 K (pv 2) (pv 8)) (pv 9)) (aa (ay bN (N2 K (N2 K (pv 2) (pv 8)) (pv 7)) (N2 K (N2 K (pv 2) (pv 7)) (pv 9))) ae))) (lz (N2 K (pv 2) (pv 8)) (pv 9) set_list))) aD))))))))
   (aj (az (pv 2))))))),?_⟩
  refine⟨_,rfl,_,rfl,by omega,by omega,?_⟩
  rw[KO]
  refine Ar (fun i ys H2=> ∃ds:List Addr,ys=ds.map V.ref/\ds.length=i/\ds.Nodup/\(∀d∈ds,H2 d=some (.lst (List.replicate n (V.int (-1))))/\H d=none)/\ai H H2) ⟨[],rfl,rfl,MH,(fun d hd=>by cases hd),ai.refl H⟩ (aH hn) (fun i ys H2 ⟨ds,e,hl,_⟩=>by rw[e,Kj]; exact hl) ?_ ?_
  .rintro i ys H2 hi ⟨ds,rfl,hl,nd,hr2,sm⟩
   refine⟨_,rfl,(by show 1<=sizeLine; decide),fun l0 n0=>?_⟩
   refine⟨_,rfl,l0,_,_,rfl,rfl,ag,by omega,by omega,by show 1*(n:Int).toNat<=sizeLine; rw[KO,Nat.one_mul]; exact KY (aH hn),fun l nl=>?_⟩
   have s2:ai H2 (upd (upd H2 l0 (.lst [.int (-1)])) l (.lst (List.replicate n (V.int (-1))))):=(ai.upd n0).trans (ai.upd nl)
   have e1:(List.replicate (n:Int).toNat [V.int (-1)]).flatten=List.replicate n (V.int (-1)):=by rw[KO]; simp
   refine⟨ds++[l],by rw[KN]; rfl,by rw[Kr,hl]; rfl,?_,fun d hd=>?_,?_⟩
   .refine MG.mpr ⟨nd,Lq.mpr ⟨K8,MH⟩,fun d hd e he=>?_⟩
    rw[Km.mp he]
    exact aB (ai.upd n0 _ _ (hr2 d hd).1) nl
   .rcases Kz.mp hd with hd | hd
    .refine⟨?_,(hr2 d hd).2⟩
     rw[ao (aB (ai.upd n0 _ _ (hr2 d hd).1) nl)]
     exact ai.upd n0 _ _ (hr2 d hd).1
    .rw[Km.mp hd]
     exact⟨by rw[ag,e1],sm.free ((ai.upd n0).free nl)⟩
   .exact sm.trans ((ai.upd n0).trans (ai.upd nl))
  rintro ys H2 p ⟨ds,e,hl,nd,hr2,sm⟩ hp
  have m0:Ot H (upd H2 p (.lst ys)) n p ds (fun _ _=> -1):=Ot.grow ds e hl nd hr2 sm hp
  clear hr2 e nd hl sm hp
  generalize upd H2 p (.lst ys)=H3 at m0
  refine⟨_,rfl,_,rfl,by omega,by omega,?_⟩
  rw[KO]
  refine cP (xs:=cw 0 n) (fun i σ' H'=> ∃v3:Option V,σ'=[some (.int n),some (.ref r),some (.ref p),v3,none,none,none,none,none,none]/\Ot H H' n p ds ((List.range i).foldl MA.xv (fun _ _=> -1))) ⟨none,rfl,m0⟩ (fun i σ' H' _ _=>cG) ?_ ?_
  .rintro i x σ' H' D1 nx1 - hi ⟨v3,rfl,m⟩
   obtain⟨hin,rfl⟩:=cj hi
   obtain⟨d,hd,ha,hrow⟩:=m.at (a:=0+(i:Nat)) (by omega) (by omega)
   refine⟨_,rfl,_,rfl,p,_,_,_,rfl,rfl,NX.of m.top,ha,_,rfl,d,_,_,_,rfl,rfl,hrow,by rw[kR]; exact lK (by omega) (by omega),?_⟩
   have ei:(0+(i:Nat):Int).toNat=i:=by omega
   rw[ei] at hd hrow ⊢
   refine nx1 _ _ ⟨_,rfl,?_⟩
   rw[dW]
   exact m.put hd hin
  rintro σ1 H1 ⟨v3,rfl,m1⟩
  rw[cL] at m1
  have m1:Ot H H1 n p ds (MA.M1 n):=m1
  refine⟨_,rfl,r,rfl,⟨_,m1.sm.seq hx⟩,?_⟩
  refine cP (xs:=xs) (fun i σ' H'=> ∃v4 v5 v6:Option V,σ'=[some (.int n),some (.ref r),some (.ref p),v3,v4,v5,v6,none,none,none]/\Ot H H' n p ds ((rs.take i).foldl MA.OE (MA.M1 n))) ⟨none,none,none,rfl,m1⟩ (fun i σ' H' _ ⟨_,_,_,_,m⟩=>bq (m.sm.seq hx)) ?_ ?_
  .rintro i x σ' H' D1 nx1 - hi ⟨v4,v5,v6,rfl,m⟩
   obtain⟨rl,hq,t,rfl,ht⟩:=hX.get hi
   obtain⟨k1,k2,k3,k4,k5⟩:=hk rl (Kp hq)
   refine⟨t,_,rfl,m.sm.js ht,rfl,_,_,rfl,_,_,rfl,_,_,rfl,rfl,?_⟩
   refine⟨_,rfl,_,_,rfl,rfl,_,rfl,?_⟩
   refine bF (fun c=>?_) (fun c=>?_)
   .have c:=KQ c
    obtain⟨d,hd,ha,hrow⟩:=m.at (a:=rl.2.1) c k4
    refine⟨_,rfl,_,rfl,p,_,_,_,rfl,rfl,NX.of m.top,ha,_,rfl,d,_,_,_,rfl,rfl,NX.of hrow,mT k1 k2,_,rfl,_,_,rfl,?_⟩
    refine⟨_,rfl,_,rfl,p,_,_,_,rfl,rfl,NX.of m.top,ha,_,rfl,d,_,_,_,rfl,rfl,hrow,by rw[kR]; exact lK k1 k2,?_⟩
    refine nx1 _ _ ⟨_,_,_,rfl,?_⟩
    rw[foldl_take_succ MA.OE _ hq]
    unfold MA.OE
    rw[Ko c]
    exact m.put hd (by omega)
   .have c:=Ld (K6 _▸c)
    refine nx1 _ _ ⟨_,_,_,rfl,?_⟩
    rw[foldl_take_succ MA.OE _ hq]
    show Ot H H' n p ds (MA.OE _ rl)
    rw[show ∀M,MA.OE M rl=M from fun M=>Kk c]
    exact m
  rintro σ2 H2 ⟨v4,v5,v6,rfl,m2⟩
  rw[hX.length,K5] at m2
  have m2:Ot H H2 n p ds (MA.M2 n rs):=m2
  refine⟨_,rfl,_,rfl,by omega,by omega,?_⟩
  rw[KO]
  refine cP (xs:=cw 0 n) (fun k σ' H'=> ∃v7 v8 v9:Option V,σ'=[some (.int n),some (.ref r),some (.ref p),v3,v4,v5,v6,v7,v8,v9]/\Ot H H' n p ds ((List.range k).foldl (MA.mid n) (MA.M2 n rs))) ⟨none,none,none,rfl,m2⟩ (fun i σ' H' _ _=>cG) ?_ ?_
  .rintro k x σ' H' D1 nx1 - hi ⟨v7,v8,v9,rfl,m⟩
   obtain⟨hkn,rfl⟩:=cj hi
   generalize hD:(List.range k).foldl (MA.mid n) (MA.M2 n rs)=D at m
   have ek:(0+(k:Nat):Int).toNat=k:=by omega
   refine⟨_,rfl,_,rfl,by omega,by omega,?_⟩
   rw[KO]
   refine AE (xs:=cw 0 n) (fun i σ' H'=> ∃v8 v9:Option V,σ'=[some (.int n),some (.ref r),some (.ref p),v3,v4,v5,v6,some (.int (0+(k:Nat))),v8,v9]/\Ot H H' n p ds ((List.range i).foldl (MA.mi n k) D)) ⟨v8,v9,rfl,m⟩ (fun i σ' H' _ _=>cG) ?_ ?_
   .clear m
    rintro i x σ' H' D2 nx2 ct2 - - hi ⟨v8,v9,rfl,m⟩
    obtain⟨hin,rfl⟩:=cj hi
    generalize hF:(List.range i).foldl (MA.mi n k) D=F at m
    have ei:(0+(i:Nat):Int).toNat=i:=by omega
    obtain⟨d,hd,ha,hrow⟩:=m.at (a:=0+(i:Nat)) (by omega) (by omega)
    rw[ei] at hd hrow
    have hck:=mT (M:=F) (i:=i) (b:=0+(k:Nat)) (n:=n) (by omega) (by omega)
    rw[ek] at hck
    refine⟨_,rfl,_,rfl,p,_,_,_,rfl,rfl,NX.of m.top,ha,_,rfl,d,_,_,_,rfl,rfl,NX.of hrow,hck,_,_,rfl,rfl,_,rfl,?_⟩
    have hstep:(List.range (i+1)).foldl (MA.mi n k) D=MA.mi n k F i:=by rw[dW,hF]
    refine bF (fun c=>?_) (fun c=>?_)
    .have c:=KQ c
     refine ct2 _ _ ⟨_,_,rfl,?_⟩
     rw[hstep]
     unfold MA.mi
     rw[Ko c]
     exact m
    have c:=Ld (K6 _▸c)
    refine⟨_,rfl,_,rfl,by omega,by omega,?_⟩
    rw[KO]
    refine cP (xs:=cw 0 n) (fun j σ' H'=> ∃v9:Option V,σ'=[some (.int n),some (.ref r),some (.ref p),v3,v4,v5,v6,some (.int (0+(k:Nat))),some (.int (0+(i:Nat))),v9]/\Ot H H' n p ds ((List.range j).foldl (MA.OO k i) F)) ⟨v9,rfl,m⟩ (fun i σ' H' _ _=>cG) ?_ ?_
    .clear m hrow hck
     rintro j x σ' H' D3 nx3 - hi ⟨v9,rfl,m⟩
     obtain⟨hjn,rfl⟩:=cj hi
     generalize hG:(List.range j).foldl (MA.OO k i) F=G at m
     have ej:(0+(j:Nat):Int).toNat=j:=by omega
     obtain⟨dk,hdk,hak,hrk⟩:=m.at (a:=0+(k:Nat)) (by omega) (by omega)
     rw[ek] at hdk hrk
     have hkj:=mT (M:=G) (i:=k) (b:=0+(j:Nat)) (n:=n) (by omega) (by omega)
     rw[ej] at hkj
     refine⟨_,rfl,_,rfl,p,_,_,_,rfl,rfl,NX.of m.top,hak,_,rfl,dk,_,_,_,rfl,rfl,NX.of hrk,hkj,_,_,rfl,rfl,_,rfl,?_⟩
     have hst:(List.range (j+1)).foldl (MA.OO k i) F=MA.OO k i G j:=by rw[dW,hG]
     refine bF (fun c2=>?_) (fun c2=>?_)
     .have c2:=KQ c2
      obtain⟨di,hdi,hai,hri⟩:=m.at (a:=0+(i:Nat)) (by omega) (by omega)
      rw[ei] at hdi hri
      have hij:=mT (M:=G) (i:=i) (b:=0+(j:Nat)) (n:=n) (by omega) (by omega)
      rw[ej] at hij
      have hik:=mT (M:=G) (i:=i) (b:=0+(k:Nat)) (n:=n) (by omega) (by omega)
      rw[ek] at hik
      refine⟨_,rfl,_,rfl,p,_,_,_,rfl,rfl,NX.of m.top,hai,_,rfl,di,_,_,_,rfl,rfl,NX.of hri,hij,?_⟩
      refine⟨_,rfl,_,rfl,p,_,_,_,rfl,rfl,NX.of m.top,hai,_,rfl,di,_,_,_,rfl,rfl,NX.of hri,hik,?_⟩
      refine⟨_,rfl,_,rfl,p,_,_,_,rfl,rfl,NX.of m.top,hak,_,rfl,dk,_,_,_,rfl,rfl,NX.of hrk,hkj,_,_,rfl,rfl,_,_,rfl,?_⟩
      refine⟨_,rfl,_,rfl,p,_,_,_,rfl,rfl,NX.of m.top,hai,_,rfl,di,_,_,_,rfl,rfl,hri,by rw[kR]; exact lK (by omega) (by omega),?_⟩
      rw[ej]
      refine nx3 _ _ ⟨_,rfl,?_⟩
      rw[hst]
      unfold MA.OO
      rw[Ko c2]
      exact m.put hdi hjn
     .have c2:=Ld (K6 _▸c2)
      refine nx3 _ _ ⟨_,rfl,?_⟩
      rw[hst]
      unfold MA.OO
      rw[Kk c2]
      exact m
    .rintro σ' H' ⟨v9,rfl,m⟩
     rw[cL] at m
     refine nx2 _ _ ⟨_,_,rfl,?_⟩
     rw[hstep]
     unfold MA.mi
     rw[Kk c]
     exact m
   .rintro σ' H' ⟨v8,v9,rfl,m⟩
    rw[cL] at m
    refine nx1 _ _ ⟨_,_,_,rfl,?_⟩
    rw[dW,hD]
    exact m
  .rintro σ' H' ⟨v7,v8,v9,rfl,m⟩
   rw[cL] at m
   exact⟨_,rfl,q p ds H' m⟩
def CN (K:NY):Sp:=fun vs H Q _=> ∃(n:Nat) (r:Addr) (rs:List MA.av),vs=[.int n,.ref r]/\n<=1000/\OD K H r rs/\(∀q∈rs,N5 n q)/\ ∀(p:Addr) (H':Hp),H p=none->ai H H'->H' p=some (.lst ((MA.dE n rs).map V.int))->Q (.ref p) H'
theorem BO (T:Txt K mg a):N8 P w K mg base 2 "_law_least" ["_law_count","_law_rules_here"] (CN K):=by
 have Bi:=@Hk P w K mg base a T
 refine bf T.o8 dB (fun _ _ _ _ _ _=>Oa fun _ _=>rfl) (fun vs H Q E h=>?_) fun f c A o s H vs Q E hr h=>?_
 .obtain⟨n,r,rs,rfl,_⟩:=h
  rfl
 .obtain⟨n,r,rs,rfl,hn,hR,hk,q⟩:=h
  obtain⟨xs,hx,hX⟩:=id hR
  refine⟨_,(ah (ax (i:=2) dB.nd rfl (Or.inl rfl) (aJ Bi hr.z (aa (pv 0) (aa (pv 1) ae))))
   (ah (ax (i:=3) dB.nd rfl (Or.inl rfl) (ay sL (aQ (aa af ae)) (pv 0)))
   (ah (bP KL rfl (bC (pv 1)) (gx rfl (bj (aG (i:=4) dB.nd rfl (Or.inl rfl)) (bj (aG (i:=5) dB.nd rfl (Or.inl rfl)) (bj (aG (i:=6) dB.nd rfl (Or.inl rfl)) fk))))
   (aj (aK (aw oq (pv 5) af (aA _)) (aj (gY (bz (jC rfl) (by rfl) T.lq boot_max (aa (N2 K (pv 3) (pv 4)) (aa (pv 6) ae))) (lz (pv 3) (pv 4) set_list))) aD)))
   (ah (ax (i:=7) dB.nd rfl (Or.inl rfl) (ay sL (aQ (aa af ae)) (pv 0)))
   (ah (bP KL rfl (b6 rfl T.cE (aa (pv 0) ae)) (aG (i:=8) dB.nd rfl (Or.inl rfl))
   (aj (bP KL rfl (b6 rfl T.cE (aa (pv 0) ae)) (aG (i:=9) dB.nd rfl (Or.inl rfl))
   (aj (aK (aw xg (N2 K (N2 K (pv 2) (pv 8)) (pv 9)) af (aA _)) (aj (gY (bz (jC rfl) (by rfl) T.lq boot_max (aa (N2 K (pv 7) (pv 9)) (aa (ay bN (N2 K (pv 3) (pv 8)) (N2 K (N2 K (pv 2) (pv 8)) (pv 9))) ae))) (lz (pv 7) (pv 9) set_list))) aD)))))
   (aj (az (pv 7)))))))),?_⟩
  refine⟨_,rfl,_,rfl,n,r,rs,rfl,hn,hR,hk,fun p ds H1 m=>?_⟩
  have rep: ∀ {l0 l:Addr}{H':Hp} (n0:H' l0=none) (nl:(upd H' l0 (.lst [.int 0])) l=none),(upd (upd H' l0 (.lst [.int 0])) l (.lst (List.replicate (n:Int).toNat [V.int 0]).flatten)) l=some (.lst ((List.replicate n (0:Int)).map V.int)):=fun n0 nl=>by
   rw[ag,KO]
   simp
  have hrep:1*(n:Int).toNat<=sizeLine:=by rw[KO,Nat.one_mul]; exact KY (aH hn)
  refine⟨(by show 1<=sizeLine; decide),fun l0 n0=>⟨_,rfl,l0,_,_,rfl,rfl,ag,by omega,by omega,hrep,fun l nl=>?_⟩⟩
  have s1:=(ai.upd (o:= .lst [.int 0]) n0).trans (ai.upd (o:= .lst (List.replicate (n:Int).toNat [V.int 0]).flatten) nl)
  have hl1:=rep n0 nl
  have nlH:H1 l=none:=(ai.upd n0).free nl
  have m1:Ot H (upd (upd H1 l0 (.lst [.int 0])) l (.lst (List.replicate (n:Int).toNat [V.int 0]).flatten)) n p ds (MA.aP n rs):=⟨s1 _ _ m.top,m.len,m.nd,m.np,fun i d hd=>s1 _ _ (m.row i d hd),m.sm.trans s1,m.fp,m.fd⟩
  generalize upd (upd H1 l0 (.lst [.int 0])) l (.lst (List.replicate (n:Int).toNat [V.int 0]).flatten)=H2 at s1 hl1 m1
  clear n0 nl rep
  refine⟨_,rfl,r,rfl,⟨_,m1.sm.seq hx⟩,?_⟩
  refine cP (xs:=xs) (fun i σ' H'=> ∃v4 v5 v6:Option V,σ'=[some (.int n),some (.ref r),some (.ref p),some (.ref l),v4,v5,v6,none,none,none]/\ai H1 H'/\H' l=some (.lst (((rs.take i).foldl MA.fM (List.replicate n 0)).map V.int))) ⟨none,none,none,rfl,s1,hl1⟩ (fun i σ' H' _ ⟨_,_,_,_,sm,_⟩=>bq ((m.sm.trans sm).seq hx)) ?_ ?_
  .clear s1 hl1 m1
   rintro i x σ' H' D1 nx1 - hi ⟨v4,v5,v6,rfl,sm,hl⟩
   obtain⟨rl,hq,t,rfl,ht⟩:=hX.get hi
   obtain⟨k1,k2,k3,k4,k5⟩:=hk rl (Kp hq)
   have hlen:((rs.take i).foldl MA.fM (List.replicate n 0)).length=n:=(MA.iq _ (fun _ _=>MA.kP) _ _).trans (by simp)
   have hst:(rs.take (i+1)).foldl MA.fM (List.replicate n 0)=MA.fM ((rs.take i).foldl MA.fM (List.replicate n 0)) rl:=foldl_take_succ _ _ hq
   generalize (rs.take i).foldl MA.fM (List.replicate n 0)=G at hl hlen hst
   refine⟨t,_,rfl,(m.sm.trans sm).js ht,rfl,_,_,rfl,_,_,rfl,_,_,rfl,rfl,?_⟩
   refine⟨_,rfl,_,_,rfl,rfl,_,rfl,?_⟩
   refine bF (fun c=>?_) (fun c=>?_)
   .have c:=KQ c
    refine⟨_,rfl,_,rfl,l,_,_,_,rfl,rfl,NX.of hl,fv k1 (by omega),_,rfl,_,_,rfl,_,rfl,_,rfl,l,_,_,_,rfl,rfl,hl,by rw[Kj,hlen]; exact lK k1 k2,?_⟩
    refine nx1 _ _ ⟨_,_,_,rfl,sm.cN nlH,?_⟩
    rw[ag,hst,<-Nc]
    unfold MA.fM
    rw[Ko c]
    rfl
   .have c:=Ld (K6 _▸c)
    refine nx1 _ _ ⟨_,_,_,rfl,sm,?_⟩
    rw[hst]
    unfold MA.fM
    rw[Kk c]
    exact hl
  rintro σ3 H3 ⟨v4,v5,v6,rfl,s3,hl3⟩
  rw[hX.length,K5] at hl3
  have hl3:H3 l=some (.lst ((MA.du n rs).map V.int)):=hl3
  have fl:(MA.du n rs).length=n:=MA.Dn
  refine⟨(by show 1<=sizeLine; decide),fun l0 n0=>⟨_,rfl,l0,_,_,rfl,rfl,ag,by omega,by omega,hrep,fun u nu=>?_⟩⟩
  have s4:=(ai.upd (o:= .lst [.int 0]) n0).trans (ai.upd (o:= .lst (List.replicate (n:Int).toNat [V.int 0]).flatten) nu)
  have hu4:(upd (upd H3 l0 (.lst [.int 0])) u (.lst (List.replicate (n:Int).toNat [V.int 0]).flatten)) u=some (.lst ((List.replicate n (0:Int)).map V.int)):=by
   rw[ag,KO]
   simp
  have nuH:H3 u=none:=(ai.upd n0).free nu
  have nu1:H1 u=none:=s3.free nuH
  have nu0:H u=none:=m.sm.free nu1
  have mat: ∀ {H':Hp},ai H3 H'->Ot H H' n p ds (MA.aP n rs):=fun z=>⟨(s3.trans z) _ _ m.top,m.len,m.nd,m.np,fun i d hd=>(s3.trans z) _ _ (m.row i d hd),m.sm.trans (s3.trans z),m.fp,m.fd⟩
  generalize upd (upd H3 l0 (.lst [.int 0])) u (.lst (List.replicate (n:Int).toNat [V.int 0]).flatten)=H4 at s4 hu4
  refine⟨_,rfl,_,rfl,by omega,by omega,?_⟩
  rw[KO]
  refine cP (xs:=cw 0 n) (fun i σ' H'=> ∃v8 v9:Option V,σ'=[some (.int n),some (.ref r),some (.ref p),some (.ref l),v4,v5,v6,some (.ref u),v8,v9]/\ai H3 H'/\H' u=some (.lst (((List.range i).foldl (MA.kn n (MA.aP n rs) (MA.du n rs)) (List.replicate n 0)).map V.int))) ⟨none,none,rfl,s4,hu4⟩ (fun i σ' H' _ _=>cG) ?_ ?_
  .rintro a x σ' H' D1 nx1 - hi ⟨v8,v9,rfl,sm,hu⟩
   obtain⟨han,rfl⟩:=cj hi
   have ea:(0+(a:Nat):Int).toNat=a:=by omega
   have ea2:(0+(a:Nat):Int)=(a:Nat):=by omega
   refine⟨_,rfl,_,rfl,by omega,by omega,?_⟩
   rw[KO]
   have hlen0:((List.range a).foldl (MA.kn n (MA.aP n rs) (MA.du n rs)) (List.replicate n 0)).length=n:=(MA.iq _ (fun _ _=>MA.ng) _ _).trans (by simp)
   have hst:(List.range (a+1)).foldl (MA.kn n (MA.aP n rs) (MA.du n rs)) (List.replicate n 0)=MA.kn n (MA.aP n rs) (MA.du n rs) ((List.range a).foldl (MA.kn n (MA.aP n rs) (MA.du n rs)) (List.replicate n 0)) a:=dW _ _ _
   generalize (List.range a).foldl (MA.kn n (MA.aP n rs) (MA.du n rs)) (List.replicate n 0)=G at hu hlen0 hst
   refine cP (xs:=cw 0 n) (fun b σ' H'=> ∃v9:Option V,σ'=[some (.int n),some (.ref r),some (.ref p),some (.ref l),v4,v5,v6,some (.ref u),some (.int (0+(a:Nat))),v9]/\ai H3 H'/\H' u=some (.lst (((List.range b).foldl (MA.fU (MA.aP n rs) (MA.du n rs) a) G).map V.int))) ⟨v9,rfl,sm,hu⟩ (fun i σ' H' _ _=>cG) ?_ ?_
   .clear hu sm
    rintro b x σ' H' D2 nx2 - hi ⟨v9,rfl,sm,hu⟩
    obtain⟨hbn,rfl⟩:=cj hi
    have eb:(0+(b:Nat):Int).toNat=b:=by omega
    have eb2:(0+(b:Nat):Int)=(b:Nat):=by omega
    have hlen1:((List.range b).foldl (MA.fU (MA.aP n rs) (MA.du n rs) a) G).length=n:=(MA.iq _ (fun _ _=>MA.kh) _ _).trans hlen0
    have hst1:(List.range (b+1)).foldl (MA.fU (MA.aP n rs) (MA.du n rs) a) G=MA.fU (MA.aP n rs) (MA.du n rs) a ((List.range b).foldl (MA.fU (MA.aP n rs) (MA.du n rs) a) G) b:=dW _ _ _
    generalize (List.range b).foldl (MA.fU (MA.aP n rs) (MA.du n rs) a) G=F at hu hlen1 hst1
    have mm:=mat sm
    obtain⟨d,hd,had,hrow⟩:=mm.at (a:=0+(a:Nat)) (by omega) (by omega)
    rw[ea] at hrow
    have hab:=mT (M:=MA.aP n rs) (i:=a) (b:=0+(b:Nat)) (n:=n) (by omega) (by omega)
    rw[eb] at hab
    refine⟨_,rfl,_,rfl,p,_,_,_,rfl,rfl,NX.of mm.top,had,_,rfl,d,_,_,_,rfl,rfl,NX.of hrow,hab,_,_,rfl,rfl,_,rfl,?_⟩
    refine bF (fun c=>?_) (fun c=>?_)
    .have c:=KQ c
     refine⟨_,rfl,_,rfl,u,_,_,_,rfl,rfl,NX.of hu,fv (by omega) (by omega),?_⟩
     refine⟨_,rfl,_,rfl,l,_,_,_,rfl,rfl,NX.of (sm _ _ hl3),fv (by omega) (by omega),?_⟩
     refine⟨_,rfl,_,rfl,p,_,_,_,rfl,rfl,NX.of mm.top,had,_,rfl,d,_,_,_,rfl,rfl,NX.of hrow,hab,_,_,rfl,rfl,_,_,rfl,?_⟩
     refine⟨_,rfl,_,rfl,u,_,_,_,rfl,rfl,hu,by rw[Kj,hlen1]; exact lK (by omega) (by omega),?_⟩
     refine nx2 _ _ ⟨_,rfl,sm.cN nuH,?_⟩
     rw[ag,hst1,<-Nc]
     unfold MA.fU
     rw[Ko c,ea2,eb2]
     rfl
    .have c:=Ld (K6 _▸c)
     refine nx2 _ _ ⟨_,rfl,sm,?_⟩
     rw[hst1]
     unfold MA.fU
     rw[Kk c]
     exact hu
   .rintro σ' H' ⟨v9,rfl,sm,hu⟩
    rw[cL] at hu
    refine nx1 _ _ ⟨_,_,rfl,sm,?_⟩
    rw[hst]
    exact hu
  .rintro σ' H' ⟨v8,v9,rfl,sm,hu⟩
   rw[cL] at hu
   exact⟨_,rfl,q u H' nu0 (m.sm.trans (s3.trans sm)) hu⟩
def A8 (K:NY):Sp:=fun vs H Q _=> ∃(t p:Addr) (d:N9) (ns:List Str),vs=[.ref t,.ref p]/\N1 K H t (j7 d)/\H p=some (.lst (ns.map V.str))/\d.2.1∈ns/\(∀b,d.2.2.1=some b->b∈ns)/\ ∀t',H t'=none->Q (.ref t') (upd H t' (.tup [.int (fD ns d).1,.int (fD ns d).2.1,.int (fD ns d).2.2]))
theorem Bb (T:Txt K mg a):N8 P w K mg base 1 "as_rule" ["row","names"] (A8 K):=by
 refine bf T.rn u7 (fun _ _ _ _ _ _=>Oa fun _ _=>rfl) (fun vs H Q E h=>?_) fun f c A o s H vs Q E hr h=>?_
 .obtain⟨t,p,d,ns,rfl,_⟩:=h
  rfl
 .obtain⟨t,p,d,ns,rfl,ht,hp,h1,h2,q⟩:=h
  refine⟨_,(ah (ax (i:=2) u7.nd rfl (Or.inl rfl) (nY (yD (aw lL (NZ K (pv 0) af) bJ (aA _)) (ku T.lR) (show PE _ _ (Oh K _ _ _ _) from cz Kw LH LI lN (pv 1) (aa (NZ K (pv 0) af) ae)))))
   (aj (az (bM (aa (show PE _ _ (Oh K _ _ _ _) from cz Kw LH LI lN (pv 1) (aa (NZ K (pv 0) af) ae)) (aa (pv 2) (aa (NZ K (pv 0) af) ae))))))),?_⟩
  obtain⟨d1,d2,d3,d4⟩:=d
  obtain⟨j,j1,j2⟩:=ig h1
  have ej:=jw j1 j2
  refine⟨fun v H'=>v= .int (fD ns (d1,d2,d3,d4)).2.1/\H'=H,?_,?_⟩
  .refine⟨_,rfl,t,_,_,_,rfl,rfl,ht,rfl,rfl,_,rfl,?_⟩
   cases d3 with
   | none=>exact aZ ⟨rfl,rfl⟩
   | some b =>
    obtain⟨i,i1,i2⟩:=ig (h2 b rfl)
    have ei:=jw i1 i2
    refine aM ⟨_,rfl,.inl ⟨rfl,_,NX.of hp⟩,_,rfl,t,_,_,_,rfl,rfl,ht,rfl,p,ns,b,i,rfl,rfl,hp,i1,i2,?_,rfl⟩
    show V.int (i:Nat)=V.int ((ns.idxOf b:Nat):Int)
    rw[ei]
  rintro v H' ⟨rfl,rfl⟩
  refine⟨_,rfl,.inl ⟨rfl,_,NX.of hp⟩,_,rfl,t,_,_,_,rfl,rfl,ht,rfl,p,ns,d2,j,rfl,rfl,hp,j1,j2,_,rfl,_,rfl,t,_,_,_,rfl,rfl,ht,rfl,(by show 3<=sizeLine; decide),fun t' nt'=>?_⟩
  have:=q t' nt'
  unfold fD at this
  rw[show ns.idxOf (d1,d2,d3,d4).2.1=j from ej] at this
  exact this
def Ec (C:Addr) (K:NY):Sp:=fun vs H Q _=> ∃(h:Addr) (os:List Addr) (S:N3),vs=[.ref h]/\HI C H h os S/\OP S.ms S.ds/\O1 S.ms S.ds/\ ∀(p:Addr) (H':Hp),H p=none->ai H H'->kM K H' p (bB S.ms S.ds)->Q (.ref p) H'
theorem fR (T:Txt K mg a):OY P w K mg base 2 a.House "rules" ["self"] (Ec a.House K):=by
 have aR:=@bO P w K mg base a T
 have B4:=@Bb P w K mg base a T
 refine jO T.lU pT (fun _ _ _ _ _ _=>Ov fun _=>rfl) (fun vs H Q E h=>?_) fun f c A o s H vs Q E hr h=>?_
 .obtain⟨h,os,S,rfl,_⟩:=h
  rfl
 .obtain⟨h,os,S,rfl,hI,g,db,q⟩:=h
  obtain⟨dx,p0,p,r,is,kv,rfl,I⟩:=id hI
  have ml:=g.ml
  have dl:=g.dl
  refine⟨_,(ah (ax (i:=1) pT.nd rfl (Or.inr rfl) (dq T.au.cl aR hr.z (pv 0)))
   (aj (az (cM (psc:=aq ja) (own:=["row"]) (frn:=["names"]) (fr:=[1]) (by exact⟨rfl,by trivial,by trivial,by trivial,by trivial,by trivial⟩) rfl rfl rfl (bG (by decide:0 < 1)) (bC (bH (pv 0) rfl))
    (fun C s2 H2 fp=>⟨(aG (i:=0) (show (["row","names"]:List Str).Nodup by trivial) rfl (Or.inl rfl)),dD,(aJ B4 hr.z (aa (pv 0) (aa (pv 1) ae)))⟩))))),?_⟩
  refine⟨_,rfl,h,dx,_,rfl,I.ih,N6,h,_,S,rfl,hI,by omega,fun pm H1 npm s1 hpm=>?_⟩
  have I1:=I.same s1
  obtain⟨pi,xs,hp,hX⟩:=I1.ds
  have xl:=hX.length
  refine⟨_,rfl,h,a.House,dx,_,.ref p,rfl,I1.ih,T.au.cl,T.aW,by (repeat (first | exact bw | refine (bt (by trivial)).trans ?_)),p,rfl,⟨_,NX.of hp⟩,?_⟩
  refine b8 (xs:=xs) (fun i ys H'=>ai H1 H'/\ys.length=i/\cH K H' ys ((bB S.ms S.ds).take i)) (fun i ys H' _ h=>bq (NX.of (h.1 _ _ hp))) ⟨ai.refl _,rfl,.nil⟩ (aH (by omega)) (fun i ys H' h=>NF h.2.1) ?_ ?_
  .rintro i ys H2 x hi ⟨sm,yl,hY⟩
   obtain⟨d,hd,t,rfl,_,ht⟩:=hX.get hi
   obtain⟨b1,b2,_⟩:=db d (Kp hd)
   dsimp only[aY,gN]
   refine aZ ⟨_,rfl,_,rfl,t,pm,d,aI S,rfl,N1.of (sm _ _ ht),sm _ _ hpm,b1,b2,fun t' nt'=>?_⟩
   have st:=ai.upd (o:= .tup [.int (fD (aI S) d).1,.int (fD (aI S) d).2.1,.int (fD (aI S) d).2.2]) nt'
   refine⟨sm.trans st,by rw[Kr,yl]; rfl,?_⟩
   have tk:(bB S.ms S.ds).take (i+1)=(bB S.ms S.ds).take i++[fD (aI S) d]:=by
    rw[La]
    unfold bB
    rw[KD,hd]
    rfl
   rw[tk]
   exact (cH.same st hY).append (.cons ⟨t',rfl,N1.of ag⟩ .nil)
  .rintro ys H2 p2 ⟨sm,yl,hY⟩ np
   have st:=ai.upd (o:= .lst ys) np
   rw[xl,LO (by unfold bB; rw[Kj]; exact Kn _)] at hY
   exact q p2 _ (s1.free (sm.free np)) (s1.trans (sm.trans st)) ⟨ys,ag,cH.same st hY⟩
theorem zE {ps:List Nat}{i:Nat}{x:V}(h:(aX ps)[i]?=some x): ∃y,ps[i]?=some y/\x= .int (y:Nat):=by
 unfold aX at h
 rw[KD] at h
 cases e:ps[i]? with
 | none=>rw[e] at h; cases h
 | some y=>rw[e] at h; exact⟨y,rfl,(KJ h).symm⟩
def et (S:N3) (ps:List Nat):List Str:=ps.map fun i=>(bg S).getD i ""
def zt (C:Addr) (K:NY):Sp:=fun vs H Q _=> ∃(h p:Addr) (os:List Addr) (S:N3) (ps:List Nat),vs=[.ref h,.ref p]/\HI C H h os S/\NX K H p (aX ps)/\(∀i∈ps,i < S.ds.length)/\ps.length<=1000/\ ∀(q:Addr) (H':Hp),H q=none->ai H H'->H' q=some (.lst ((et S ps).map V.str))->Q (.ref q) H'
theorem mF (T:Txt K mg a):OY P w K mg base 1 a.House "names_at" ["self","places"] (zt a.House K):=by
 refine jO T.jt tS (fun _ _ _ _ _ _=>Oa fun _ _=>rfl) (fun vs H Q E h=>?_) fun f c A o s H vs Q E hr h=>?_
 .obtain⟨h,p,os,S,ps,rfl,_⟩:=h
  rfl
 .obtain⟨h,pl,os,S,ps,rfl,⟨dx,p0,p,r,is,kv,rfl,I⟩,hps,hin,hl,q⟩:=h
  obtain⟨pi,xs,hp,hX⟩:=I.ds
  refine⟨_,(aj (az (cM (psc:=aq gi) (own:=["place"]) (frn:=["self"]) (fr:=[0]) (by exact⟨rfl,by trivial,by trivial,by trivial,by trivial,by trivial⟩) rfl rfl rfl (bG (by decide:0 < 1)) (bC (pv 1))
    (fun C s2 H2 fp=>⟨(aG (i:=0) (show (["place","self"]:List Str).Nodup by trivial) rfl (Or.inl rfl)),dD,(NZ K (N2 K (show PE _ _ (GG K _ "demand_rows") from bH (pv 1) rfl) (pv 0)) af)⟩)))),?_⟩
  refine⟨_,rfl,pl,rfl,⟨_,hps⟩,?_⟩
  refine b8 (xs:=aX ps) (fun i ys H'=>H'=H/\ys=(et S (ps.take i)).map V.str) (fun i ys H' _ h=>by rw[h.1]; exact bq hps) ⟨rfl,rfl⟩ (aH (by unfold aX; rw[Kj]; exact hl)) (fun i ys H' h=>by rw[h.2,Kj]; unfold et; rw[Kj,K4]; exact LD _ _) ?_ ?_
  .rintro i ys H2 x hi ⟨rfl,rfl⟩
   obtain⟨k,hk,rfl⟩:=zE hi
   have kl:=hin k (Kp hk)
   obtain⟨d,hd⟩: ∃d,S.ds[k]?=some d:=⟨_,Kl kl⟩
   obtain⟨v,hv,t,rfl,_,ht⟩:=hX.at' hd
   dsimp only[aY,gN]
   refine aZ ⟨_,rfl,h,a.House,dx,_,.ref p,rfl,I.ih,T.au.cl,T.aW,by (repeat (first | exact bw | refine (bt (by trivial)).trans ?_)),_,rfl,p,_,_,_,rfl,rfl,NX.of hp,cm hv,t,_,_,_,rfl,rfl,N1.of ht,rfl,rfl,?_⟩
   have tk:ps.take (i+1)=ps.take i++[k]:=by rw[La,hk]; rfl
   unfold et
   rw[tk,KN,KN]
   congr 1
   show [V.str d.1]=[V.str ((bg S).getD k "")]
   rw[Ku]
   unfold bg
   rw[KD,hd]
   rfl
  .rintro ys H2 p2 ⟨rfl,rfl⟩ np
   refine q p2 _ np (ai.upd np) ?_
   rw[ag]
   unfold aX
   rw[Kj,K5]
def B8 (a:Adr):Sp:=fun vs H Q E=> ∃(h:Addr) (os:List Addr) (S:N3),vs=[.ref h]/\HI a.House H h os S/\OP S.ms S.ds/\O1 S.ms S.ds /\
 (∀L,bX S=some L-> ∀(p:Addr) (H':Hp),H p=none->ai H H'->H' p=some (.lst (L.map V.int))->Q (.ref p) H')/\(bX S=none-> ∀H',ai H H'->E (.ref a.NoWidths) none H')
theorem ly {n:Nat}{rs:List MA.av}{L:List Int}(k: ∀q∈rs,N5 n q) (h:bA n rs=some L):L.length=n:=(MA.dz k h).1
theorem oy (T:Txt K mg a):OC P w K mg base 5 a.House "widths" ["self"] (B8 a):=by
 have dc:=@fR P w K mg base a T
 have bx:=@cJ P w K mg base a T
 have cg:=@nR P w K mg base a T
 have nQ:=@qX P w K mg base a T
 refine eG T.kj ow (fun _ _ _ _ _ _=>Ov fun _=>rfl) (fun vs H Q E h=>?_) fun f c A o s H vs Q E hr h=>?_
 .obtain⟨h,os,S,rfl,_⟩:=h
  rfl
 .obtain⟨h,os,S,rfl,hI,g,db,qk,qe⟩:=h
  obtain⟨dx,p,q0,r,is,kv,rfl,I⟩:=id hI
  obtain⟨pi,xs,hp,hX⟩:=I.ms
  have xl:=hX.length
  have ml:=g.ml
  have rk:=ix db
  refine⟨_,(ah (ax (i:=1) ow.nd rfl (Or.inl rfl) (bu cg.x hr.z (aa (cB K T.bK (aa (bH (pv 0) rfl) ae)) (aa (bc T.au.cl dc.x hr.z (pv 0)) ae))))
   (ah (aK (PW.pt (ff (aw lL (pv 1) bJ (aA _)) (eV (aw fj (bu nQ.x hr.z (aa (pv 1) (aa (bc T.au.cl bx.x hr.z (pv 0)) ae))) bJ (aA _))))) (aj (eC T.iz rfl (aa aF ae))) aD)
   (aj (az (pv 1))))),?_⟩
  refine⟨_,rfl,h,a.House,dx,_,.ref p,rfl,I.ih,T.au.cl,T.aL,by (repeat (first | exact bw | refine (bt (by trivial)).trans ?_)),_,_,rfl,.inl ⟨_,NX.of hp,rfl⟩,?_⟩
  refine⟨_,rfl,h,dx,_,rfl,I.ih,N6,h,_,S,rfl,hI,g,db,fun pr H1 npr s1 hR=>?_⟩
  obtain⟨rx,hrx,hrr⟩:=hR
  rw[xl]
  refine⟨S.ms.length,pr,bB S.ms S.ds,rfl,by omega,⟨rx,NX.of hrx,hrr⟩,rk,fun H2 s2 en=>?_,fun pL L H2 npL s2 eL hpL=>?_⟩
  .refine⟨_,rfl,rfl,_,rfl,aZ (aZ ⟨by decide,qe ?_ H2 (s1.trans s2)⟩)⟩
   unfold bX
   rw[en]
  .have s12:=s1.trans s2
   have ll:=ly rk eL
   have hI2:=hI.grow (H':=H2) fun b o _ e=>s12 _ _ e
   refine⟨_,rfl,rfl,_,rfl,aM ⟨_,rfl,_,rfl,h,dx,_,rfl,(I.same s12).ih,N6,h,_,S,rfl,hI2,by omega,fun pg H3 npg s3 hpg=>?_⟩⟩
   have hpL3:=s3 _ _ hpL
   refine⟨pL,L,pg,dJ S,rfl,NX.of hpL3,NX.of hpg,by unfold dJ; rw[Kj,ll],by omega,fun H4 s4=>?_⟩
   have s04:=s12.trans (s3.trans s4)
   cases hw:MA.dM L (dJ S) with
   | none =>
    refine⟨rfl,_,rfl,aM ⟨_,rfl,qk L ?_ pL H4 (s1.free npL) s04 (s4 _ _ hpL3)⟩⟩
    unfold bX
    rw[eL]
    show (match MA.dM L (dJ S) with | none=>some L | some _=>none)=some L
    rw[hw]
   | some i =>
    refine⟨rfl,_,rfl,aZ ⟨by decide,qe ?_ H4 s04⟩⟩
    unfold bX
    rw[eL]
    show (match MA.dM L (dJ S) with | none=>some L | some _=>none)=none
    rw[hw]
def vS (a:Adr):Sp:=fun vs H Q E=> ∃(h p:Addr) (os:List Addr) (S:N3) (y:Str) (ys:List Str),vs=[.ref h,.str y,.ref p]/\HI a.House H h os S/\OP S.ms S.ds/\O1 S.ms S.ds/\H p=some (.lst (ys.map V.str)) /\
 (y∉ys->E (.ref a.Unknown) none H)/\(y∈ys->bX S=none-> ∀H',ai H H'->E (.ref a.NoWidths) none H')/\(y∈ys-> ∀L,bX S=some L-> ∀H',ai H H'->Q (.int ((ys.idxOf y:Nat):Int)) H')
theorem gm (T:Txt K mg a):OC P w K mg base 6 a.House "asked_place" ["self","name","names"] (vS a):=by
 have eM:=@iY P w K mg base a T
 have kB:=@oy P w K mg base a T
 refine eG T.gI jI (fun _ _ _ _ _ _=>OG fun _ _ _=>rfl) (fun vs H Q E h=>?_) fun f c A o s H vs Q E hr h=>?_
 .obtain⟨h,p,os,S,y,ys,rfl,_⟩:=h
  rfl
 .obtain⟨h,pn,os,S,y,ys,rfl,hI,g,db,hpn,e1,e2,k⟩:=h
  obtain⟨dx,p,q0,r,is,kv,rfl,I⟩:=id hI
  refine⟨_,(ah (ax (i:=3) jI.nd rfl (Or.inl rfl) (bu eM hr.z (aa (pv 1) (aa (pv 2) ae))))
   (ah (aU (bc T.au.cl kB hr.z (pv 0)))
   (aj (az (pv 3))))),?_⟩
  refine⟨_,rfl,_,rfl,y,pn,ys,rfl,hpn,fun j hj hjm=>?_,e1⟩
  have hy:=Kp hj
  have hj':=jw hj hjm
  refine⟨_,rfl,h,dx,_,rfl,I.ih,N6,h,_,S,rfl,hI,g,db,fun L eL p1 H1 _ s1 _=>?_,fun eN H1 s1=>e2 hy eN H1 s1⟩
  have:=k hy L eL H1 s1
  rw[hj'] at this
  exact⟨_,rfl,this⟩
def ON (H:Hp) (h:Addr) (os:List Addr) (S:N3) (C:Addr):Prop:=HI C H h os S/\OP S.ms S.ds/\O1 S.ms S.ds/\qq S.ms
def CJ (a:Adr):Sp:=fun vs H Q E=> ∃(h:Addr) (os:List Addr) (S:N3) (y:Str),vs=[.ref h,.str y]/\ON H h os S a.House /\
 (y∉aI S-> ∀H',ai H H'->E (.ref a.Unknown) none H')/\(y∈aI S->bX S=none-> ∀H',ai H H'->E (.ref a.NoWidths) none H') /\
 (y∈aI S-> ∀L,bX S=some L-> ∀(p:Addr) (ps:List Nat) (H':Hp),H p=none->ai H H'->H' p=some (.lst ((et S ps).map V.str))->MA.ik (bB S.ms S.ds) L (((aI S).idxOf y:Nat):Int) ps->Q (.ref p) H')
theorem dA {S:N3}{L:List Int}(h:bX S=some L):bA S.ms.length (bB S.ms S.ds)=some L/\MA.dM L (dJ S)=none:=by
 unfold bX at h
 cases e:bA S.ms.length (bB S.ms S.ds) with
 | none=>rw[e] at h; cases h
 | some L' =>
  rw[e] at h
  have h:(match MA.dM L' (dJ S) with | none=>some L' | some _=>none)=some L:=h
  cases e2:MA.dM L' (dJ S) with
  | none=>rw[e2] at h; cases h; exact⟨rfl,e2⟩
  | some i=>rw[e2] at h; cases h
theorem eP (S:N3):(bB S.ms S.ds).length=S.ds.length:=Kj _
theorem vn (T:Txt K mg a):OC P w K mg base 7 a.House "chain" ["self","member"] (CJ a):=by
 have dP:=@gm P w K mg base a T
 have aR:=@bO P w K mg base a T
 have gf:=@mF P w K mg base a T
 have dc:=@fR P w K mg base a T
 have qC:=@t5 P w K mg base a T
 refine eG T.mz pC (fun _ _ _ _ _ _=>Oa fun _ _=>rfl) (fun vs H Q E h=>?_) fun f c A o s H vs Q E hr h=>?_
 .obtain⟨h,os,S,y,rfl,_⟩:=h
  rfl
 .obtain⟨h,os,S,y,rfl,⟨hI,g,db,cp⟩,e1,e2,k⟩:=h
  obtain⟨dx,p,q0,r,is,kv,rfl,I⟩:=id hI
  obtain⟨pi,xs,hp,hX⟩:=I.ms
  have xl:=hX.length
  have ml:=g.ml
  have dl:=g.dl
  refine⟨_,(ah (ax (i:=2) pC.nd rfl (Or.inl rfl) (cy T.au.cl dP hr.z (pv 0) (aa (pv 1) (aa (bc T.au.cl aR.x hr.z (pv 0)) ae))))
   (aj (az (cy T.au.cl gf.x hr.z (pv 0) (aa (bu qC.x hr.z (aa (cB K T.bK (aa (bH (pv 0) rfl) ae)) (aa (bc T.au.cl dc.x hr.z (pv 0)) (aa (pv 2) ae)))) ae))))),?_⟩
  refine⟨_,rfl,h,dx,_,rfl,I.ih,N6,_,rfl,_,rfl,h,dx,_,rfl,I.ih,N6,h,_,S,rfl,hI,by omega,fun pm H1 npm s1 hpm=>?_⟩
  have hI1:=hI.grow (H':=H1) fun b o _ e=>s1 _ _ e
  refine⟨h,pm,_,S,y,aI S,rfl,hI1,g,db,hpm,fun hy=>e1 hy H1 s1,fun hy eN H2 s2=>e2 hy eN H2 (s1.trans s2),fun hy L eL H2 s2=>?_⟩
  have s12:=s1.trans s2
  have I2:=I.same s12
  have hI2:=hI.grow (H':=H2) fun b o _ e=>s12 _ _ e
  refine⟨_,rfl,h,dx,_,rfl,I2.ih,N6,_,rfl,h,a.House,dx,_,.ref p,rfl,I2.ih,T.au.cl,T.aL,by (repeat (first | exact bw | refine (bt (by trivial)).trans ?_)),_,_,rfl,.inl ⟨_,NX.of (s12 _ _ hp),rfl⟩,?_⟩
  refine⟨_,rfl,h,dx,_,rfl,I2.ih,N6,h,_,S,rfl,hI2,g,db,fun pr H3 npr s3 hR=>?_⟩
  have s13:=s12.trans s3
  have hI3:=hI.grow (H':=H3) fun b o _ e=>s13 _ _ e
  obtain⟨eL1,eL2⟩:=dA eL
  have rk:=ix db
  have il:=rG hy
  have il':(aI S).idxOf y < S.ms.length:=by unfold aI at il ⊢; rw[Kj] at il; exact il
  rw[xl]
  refine⟨_,rfl,S.ms.length,pr,bB S.ms S.ds,L,_,rfl,ml,by rw[eP]; exact dl,hR.O5,rk,eL1,by omega,by omega,fun pc ps H4 npc s4 hpc hC=>?_⟩
  have s14:=s13.trans s4
  have hI4:=hI.grow (H':=H4) fun b o _ e=>s14 _ _ e
  have fw:=hC.OW (MA.rA rk eL1)
  refine⟨h,pc,_,S,ps,rfl,hI4,NX.of hpc,fun i hi=>by have:=hC.lt i hi; rw[eP] at this; exact this,by omega,fun p5 H5 np5 s5 hp5=>?_⟩
  exact k hy L eL p5 ps H5 (s14.free np5) (s14.trans s5) hp5 hC
def Ck (a:Adr):Sp:=fun vs H Q E=> ∃(h:Addr) (os:List Addr) (S:N3) (y:Str),vs=[.ref h,.str y]/\ON H h os S a.House /\
 (y∉aI S-> ∀H',ai H H'->E (.ref a.Unknown) none H')/\(y∈aI S->bX S=none-> ∀H',ai H H'->E (.ref a.NoWidths) none H') /\
 (y∈aI S-> ∀L,bX S=some L->(∀H',ai H H'->MA.lA S.ms.length (bB S.ms S.ds) L (dJ S) (((aI S).idxOf y:Nat):Int) none->Q .non H') /\
  ∀(t:Addr) (s:Int) (stop:Nat) (H':Hp),H t=none->ai H H'->stop < S.ms.length->H' t=some (.tup [.int s,.str ((aI S).getD stop "")])->MA.lA S.ms.length (bB S.ms S.ds) L (dJ S) (((aI S).idxOf y:Nat):Int) (some (s,stop))->Q (.ref t) H')
theorem Ah {n:Nat}{rs:List MA.av}{L:List Int}{cs:List (Option Int)}{m s:Int}{stop:Nat}(h:MA.lA n rs L cs m (some (s,stop))):stop < n:=by
 unfold MA.lA at h
 exact h.2.1
theorem zM {S:N3}{m:Mem}{j:Nat}(h:S.ms[j]?=some m):(aI S).getD j "" = m.1:=by
 unfold aI
 rw[Ku,KD,h]
 rfl
theorem vA (T:Txt K mg a):OC P w K mg base 7 a.House "slack" ["self","member"] (Ck a):=by
 have dP:=@gm P w K mg base a T
 have aR:=@bO P w K mg base a T
 have bx:=@cJ P w K mg base a T
 have dc:=@fR P w K mg base a T
 have A4:=@y8 P w K mg base a T
 refine eG T.mE kU (fun _ _ _ _ _ _=>Oa fun _ _=>rfl) (fun vs H Q E h=>?_) fun f c A o s H vs Q E hr h=>?_
 .obtain⟨h,os,S,y,rfl,_⟩:=h
  rfl
 .obtain⟨h,os,S,y,rfl,⟨hI,g,db,cp⟩,e1,e2,k⟩:=h
  obtain⟨dx,p,q0,r,is,kv,rfl,I⟩:=id hI
  obtain⟨pi,xs,hp,hX⟩:=I.ms
  have xl:=hX.length
  have ml:=g.ml
  have dl:=g.dl
  refine⟨_,(ah (ax (i:=2) kU.nd rfl (Or.inl rfl) (cy T.au.cl dP hr.z (pv 0) (aa (pv 1) (aa (bc T.au.cl aR.x hr.z (pv 0)) ae))))
   (ah (ax (i:=3) kU.nd rfl (Or.inl rfl) (bu A4.x hr.z (aa (cB K T.bK (aa (bH (pv 0) rfl) ae)) (aa (bc T.au.cl dc.x hr.z (pv 0)) (aa (bc T.au.cl bx.x hr.z (pv 0)) (aa (pv 2) ae))))))
   (ah (aK (aw lL (pv 3) bJ (aA _)) (aj (az bJ)) aD)
   (aj (az (bM (aa (NZ K (pv 3) af) (aa (NZ K (N2 K (bH (pv 0) rfl) (NZ K (pv 3) af)) af) ae)))))))),?_⟩
  refine⟨_,rfl,h,dx,_,rfl,I.ih,N6,_,rfl,_,rfl,h,dx,_,rfl,I.ih,N6,h,_,S,rfl,hI,by omega,fun pm H1 npm s1 hpm=>?_⟩
  have hI1:=hI.grow (H':=H1) fun b o _ e=>s1 _ _ e
  refine⟨h,pm,_,S,y,aI S,rfl,hI1,g,db,hpm,fun hy=>e1 hy H1 s1,fun hy eN H2 s2=>e2 hy eN H2 (s1.trans s2),fun hy L eL H2 s2=>?_⟩
  have s12:=s1.trans s2
  have I2:=I.same s12
  have hI2:=hI.grow (H':=H2) fun b o _ e=>s12 _ _ e
  refine⟨_,rfl,h,a.House,dx,_,.ref p,rfl,I2.ih,T.au.cl,T.aL,by (repeat (first | exact bw | refine (bt (by trivial)).trans ?_)),_,_,rfl,.inl ⟨_,NX.of (s12 _ _ hp),rfl⟩,?_⟩
  refine⟨_,rfl,h,dx,_,rfl,I2.ih,N6,h,_,S,rfl,hI2,g,db,fun pr H3 npr s3 hR=>?_⟩
  have s13:=s12.trans s3
  have hI3:=hI.grow (H':=H3) fun b o _ e=>s13 _ _ e
  refine⟨_,rfl,h,dx,_,rfl,(I.same s13).ih,N6,h,_,S,rfl,hI3,by omega,fun pg H4 npg s4 hpg=>?_⟩
  have s14:=s13.trans s4
  obtain⟨eL1,eL2⟩:=dA eL
  have rk:=ix db
  have ll:=ly rk eL1
  have il:=rG hy
  have il':(aI S).idxOf y < S.ms.length:=by unfold aI at il ⊢; rw[Kj] at il; exact il
  obtain⟨k1,k2⟩:=k hy L eL
  rw[xl]
  refine⟨_,rfl,S.ms.length,pr,bB S.ms S.ds,L,pg,dJ S,_,rfl,ml,by rw[eP]; exact dl,hR.same s4,rk,eL1,NX.of hpg,by unfold dJ; rw[Kj],ze ll eL2,fun v c e=>Eo cp e,by omega,by omega,fun H5 s5 hS=>?_,fun t sp stop H5 s5 ht hS=>?_⟩
  .exact⟨_,rfl,rfl,_,rfl,aZ (k1 H5 (s14.trans s5) hS)⟩
  .have s15:=s14.trans s5
   have hst:=Ah hS
   obtain⟨m,hm⟩: ∃m,S.ms[stop]?=some m:=⟨_,Kl hst⟩
   obtain⟨v,hv,t2,rfl,_,ht2⟩:=hX.at' hm
   refine⟨_,rfl,rfl,_,rfl,aM ?_⟩
   refine⟨_,rfl,t,_,_,_,rfl,rfl,N1.of ht,rfl,_,rfl,h,a.House,dx,_,.ref p,rfl,(I.same s15).ih,T.au.cl,T.aL,by (repeat (first | exact bw | refine (bt (by trivial)).trans ?_)),_,rfl,t,_,_,_,rfl,rfl,N1.of ht,rfl,p,_,_,_,rfl,rfl,NX.of (s15 _ _ hp),cm hv,t2,_,_,_,rfl,rfl,N1.of (s15 _ _ ht2),rfl,?_⟩
   refine⟨(by show 2<=sizeLine; decide),fun t6 nt6=>?_⟩
   refine k2 t6 sp stop _ (s15.free nt6) (s15.trans (ai.upd nt6)) hst ?_ hS
   rw[ag,zM hm]
def Ek (a:Adr):Sp:=fun vs H Q E=> ∃(h:Addr) (os:List Addr) (S:N3) (y:Str),vs=[.ref h,.str y]/\ON H h os S a.House /\
 (y∉bg S-> ∀H',ai H H'->E (.ref a.Unknown) none H')/\(y∈bg S->bX S=none-> ∀H',ai H H'->E (.ref a.NoWidths) none H') /\
 (y∈bg S-> ∀L L',bX S=some L->bA S.ms.length ((bB S.ms S.ds).take ((bg S).idxOf y)++(bB S.ms S.ds).drop ((bg S).idxOf y+1))=some L'-> ∀H',ai H H'->Q (.int (L.sum - L'.sum)) H')
theorem FL {α:Type}{rs:List α}{k:Nat}: ∀q∈rs.take k++rs.drop (k+1),q∈rs:=fun q hq=>by
 rcases Kz.mp hq with h | h
 .exact ML h
 .exact MJ h
theorem w9 (T:Txt K mg a):OC P w K mg base 7 a.House "cost" ["self","demand"] (Ek a):=by
 have dP:=@gm P w K mg base a T
 have cq:=@eu P w K mg base a T
 have dc:=@fR P w K mg base a T
 have BW:=@A2 P w K mg base a T
 refine eG T.nV qW (fun _ _ _ _ _ _=>Oa fun _ _=>rfl) (fun vs H Q E h=>?_) fun f c A o s H vs Q E hr h=>?_
 .obtain⟨h,os,S,y,rfl,_⟩:=h
  rfl
 .obtain⟨h,os,S,y,rfl,⟨hI,g,db,cp⟩,e1,e2,k⟩:=h
  obtain⟨dx,p,q0,r,is,kv,rfl,I⟩:=id hI
  obtain⟨pi,xs,hp,hX⟩:=I.ms
  have xl:=hX.length
  have ml:=g.ml
  have dl:=g.dl
  refine⟨_,(ah (ax (i:=2) qW.nd rfl (Or.inl rfl) (cy T.au.cl dP hr.z (pv 0) (aa (pv 1) (aa (bc T.au.cl cq.x hr.z (pv 0)) ae))))
   (aj (az (bu BW.x hr.z (aa (cB K T.bK (aa (bH (pv 0) rfl) ae)) (aa (bc T.au.cl dc.x hr.z (pv 0)) (aa (pv 2) ae))))))),?_⟩
  refine⟨_,rfl,h,dx,_,rfl,I.ih,N6,_,rfl,_,rfl,h,dx,_,rfl,I.ih,N6,h,_,S,rfl,hI,by omega,fun pm H1 npm s1 hpm=>?_⟩
  have hI1:=hI.grow (H':=H1) fun b o _ e=>s1 _ _ e
  refine⟨h,pm,_,S,y,bg S,rfl,hI1,g,db,hpm,fun hy=>e1 hy H1 s1,fun hy eN H2 s2=>e2 hy eN H2 (s1.trans s2),fun hy L eL H2 s2=>?_⟩
  have s12:=s1.trans s2
  have I2:=I.same s12
  have hI2:=hI.grow (H':=H2) fun b o _ e=>s12 _ _ e
  refine⟨_,rfl,h,a.House,dx,_,.ref p,rfl,I2.ih,T.au.cl,T.aL,by (repeat (first | exact bw | refine (bt (by trivial)).trans ?_)),_,_,rfl,.inl ⟨_,NX.of (s12 _ _ hp),rfl⟩,?_⟩
  refine⟨_,rfl,h,dx,_,rfl,I2.ih,N6,h,_,S,rfl,hI2,g,db,fun pr H3 npr s3 hR=>?_⟩
  have s13:=s12.trans s3
  obtain⟨eL1,eL2⟩:=dA eL
  have rk:=ix db
  have il:=rG hy
  have il':(bg S).idxOf y < S.ds.length:=by unfold bg at il ⊢; rw[Kj] at il; exact il
  obtain⟨L',eL'⟩:=Cz rk eL1 (rs':=(bB S.ms S.ds).take ((bg S).idxOf y)++(bB S.ms S.ds).drop ((bg S).idxOf y+1)) FL
  rw[xl]
  exact⟨_,rfl,S.ms.length,pr,bB S.ms S.ds,L,L',_,rfl,ml,by rw[eP]; exact dl,hR.O5,rk,eL1,by rw[eP]; exact il',eL',fun H4 s4=>k hy L L' eL eL' H4 (s13.trans s4)⟩
def Cy (a:Adr):Sp:=fun vs H Q _=> ∃(h:Addr) (os:List Addr) (S:N3),vs=[.ref h]/\ON H h os S a.House /\
 (∀(t p:Addr) (way:List Nat) (H':Hp),bA S.ms.length (bB S.ms S.ds)=none->tK (bB S.ms S.ds) way->way.length<=200->H t=none->H p=none->ai H H'->H' p=some (.lst ((et S way).map V.str))->H' t=some (.tup [.str "ring",.ref p])->Q (.ref t) H') /\
 (∀L,bX S=some L-> ∀H',ai H H'->Q .non H') /\
 ∀(L:List Int) (i:Nat) (t p:Addr) (ps:List Nat) (H':Hp),bA S.ms.length (bB S.ms S.ds)=some L->MA.dM L (dJ S)=some i->i < S.ms.length->MA.ik (bB S.ms S.ds) L (i:Nat) ps->H t=none->H p=none->ai H H'->H' p=some (.lst ((et S ps).map V.str))->H' t=some (.tup [.str "wide",.str ((aI S).getD i ""),.ref p])->Q (.ref t) H'
theorem nF (T:Txt K mg a):OY P w K mg base 6 a.House "why" ["self"] (Cy a):=by
 have dc:=@fR P w K mg base a T
 have gf:=@mF P w K mg base a T
 have bx:=@cJ P w K mg base a T
 have yP:=@xy P w K mg base a T
 have cg:=@nR P w K mg base a T
 have nQ:=@qX P w K mg base a T
 have qC:=@t5 P w K mg base a T
 refine jO T.oY hV (fun _ _ _ _ _ _=>Ov fun _=>rfl) (fun vs H Q E h=>?_) fun f c A o s H vs Q E hr h=>?_
 .obtain⟨h,os,S,rfl,_⟩:=h
  rfl
 .obtain⟨h,os,S,rfl,⟨hI,g,db,cp⟩,k1,k2,k3⟩:=h
  obtain⟨dx,p,q0,r,is,kv,rfl,I⟩:=id hI
  obtain⟨pi,xs,hp,hX⟩:=I.ms
  have xl:=hX.length
  have ml:=g.ml
  have dl:=g.dl
  have rk:=ix db
  have rl:=eP S
  refine⟨_,(ah (ax (i:=1) hV.nd rfl (Or.inl rfl) (cB K T.bK (aa (bH (pv 0) rfl) ae)))
   (ah (ax (i:=2) hV.nd rfl (Or.inl rfl) (dq T.au.cl dc hr.z (pv 0)))
   (ah (ax (i:=3) hV.nd rfl (Or.inl rfl) (aJ yP hr.z (aa (pv 1) (aa (pv 2) ae))))
   (ah (aK (ba (pv 3) (fun _=>rfl)) (aj (az (bM (aa aF (aa (xS T.au.cl gf hr.z (pv 0) (aa (pv 3) ae)) ae))))) aD)
   (ah (ax (i:=4) hV.nd rfl (Or.inl rfl) (aJ nQ hr.z (aa (aJ cg hr.z (aa (pv 1) (aa (pv 2) ae))) (aa (dq T.au.cl bx hr.z (pv 0)) ae))))
   (ah (aK (aw lL (pv 4) bJ (aA _)) (aj (az bJ)) aD)
   (aj (az (bM (aa aF (aa (NZ K (N2 K (bH (pv 0) rfl) (pv 4)) af) (aa (xS T.au.cl gf hr.z (pv 0) (aa (aJ qC hr.z (aa (pv 1) (aa (pv 2) (aa (pv 4) ae)))) ae)) ae)))))))))))),?_⟩
  refine⟨_,rfl,h,a.House,dx,_,.ref p,rfl,I.ih,T.au.cl,T.aL,by (repeat (first | exact bw | refine (bt (by trivial)).trans ?_)),_,_,rfl,.inl ⟨_,NX.of hp,rfl⟩,?_⟩
  refine⟨_,rfl,h,dx,_,rfl,I.ih,N6,h,_,S,rfl,hI,g,db,fun pr H1 npr s1 hR=>?_⟩
  have hI1:=hI.grow (H':=H1) fun b o _ e=>s1 _ _ e
  rw[xl]
  refine⟨_,rfl,_,rfl,pr,bB S.ms S.ds,S.ms.length,rfl,hR.O5,by omega,rk,by omega,fun H2 pe s2 hpe hsh=>?_,fun H2 pe way s2 hpe hwl hw=>?_⟩
  .have s12:=s1.trans s2
   have hI2:=hI.grow (H':=H2) fun b o _ e=>s12 _ _ e
   obtain⟨L,eL⟩:=CH rk hsh
   have ll:=ly rk eL
   refine⟨_,rfl,false,.inl ⟨_,NX.of hpe,rfl⟩,?_⟩
   refine aM ?_
   refine⟨_,rfl,_,rfl,S.ms.length,pr,bB S.ms S.ds,rfl,by omega,(hR.same s2).O5,rk,fun H3 _ z=>(by rw[eL] at z; cases z),fun pL L0 H3 npL s3 e hpL=>?_⟩
   rw[eL] at e
   cases e
   have s13:=s12.trans s3
   have hI3:=hI.grow (H':=H3) fun b o _ e=>s13 _ _ e
   refine⟨_,rfl,h,dx,_,rfl,(I.same s13).ih,N6,h,_,S,rfl,hI3,by omega,fun pg H4 npg s4 hpg=>?_⟩
   refine⟨pL,L,pg,dJ S,rfl,NX.of (s4 _ _ hpL),NX.of hpg,by unfold dJ; rw[Kj,ll],by omega,fun H5 s5=>?_⟩
   have s15:=s13.trans (s4.trans s5)
   cases hw:MA.dM L (dJ S) with
   | none =>
    refine⟨_,rfl,rfl,_,rfl,aZ (k2 L ?_ H5 s15)⟩
    unfold bX
    rw[eL]
    show (match MA.dM L (dJ S) with | none=>some L | some _=>none)=some L
    rw[hw]
   | some i =>
    have hi:i < S.ms.length:=by have:=E8 hw; omega
    obtain⟨m,hm⟩: ∃m,S.ms[i]?=some m:=⟨_,Kl hi⟩
    obtain⟨v,hv,t2,rfl,_,ht2⟩:=hX.at' hm
    refine⟨_,rfl,rfl,_,rfl,aM ?_⟩
    refine⟨_,rfl,h,a.House,dx,_,.ref p,rfl,(I.same s15).ih,T.au.cl,T.aL,by (repeat (first | exact bw | refine (bt (by trivial)).trans ?_)),_,rfl,p,_,_,_,rfl,rfl,NX.of (s15 _ _ hp),cm hv,t2,_,_,_,rfl,rfl,N1.of (s15 _ _ ht2),rfl,?_⟩
    refine⟨_,rfl,h,dx,_,rfl,(I.same s15).ih,N6,_,rfl,_,rfl,_,rfl,S.ms.length,pr,bB S.ms S.ds,L,_,rfl,ml,by omega,(hR.same (s2.trans (s3.trans (s4.trans s5)))).O5,rk,eL,by omega,by omega,fun pc ps H6 npc s6 hpc hC=>?_⟩
    have s16:=s15.trans s6
    have hI6:=hI.grow (H':=H6) fun b o _ e=>s16 _ _ e
    have fw:=hC.OW (MA.rA rk eL)
    refine⟨h,pc,_,S,ps,rfl,hI6,NX.of hpc,fun j hj=>by have:=hC.lt j hj; omega,by omega,fun p7 H7 np7 s7 hp7=>?_⟩
    refine⟨(by show 3<=sizeLine; decide),fun t8 nt8=>?_⟩
    have s17:=s16.trans s7
    refine k3 L i t8 p7 ps _ eL hw hi hC (s17.free nt8) (s16.free np7) (s17.trans (ai.upd nt8)) ?_ ?_
    .rw[ao (aB hp7 nt8)]; exact hp7
    .rw[ag,zM hm]
  .have s12:=s1.trans s2
   have hI2:=hI.grow (H':=H2) fun b o _ e=>s12 _ _ e
   obtain⟨i0,q0',ps0,ew,_⟩:=id hw
   refine⟨_,rfl,true,.inl ⟨_,NX.of hpe,(by rw[ew]; rfl)⟩,?_⟩
   refine aZ ?_
   refine⟨_,rfl,h,dx,_,rfl,(I.same s12).ih,N6,_,rfl,h,pe,_,S,way,rfl,hI2,NX.of hpe,fun j hj=>by have:=hw.lt j hj; omega,by omega,fun p7 H7 np7 s7 hp7=>?_⟩
   refine⟨(by show 2<=sizeLine; decide),fun t8 nt8=>?_⟩
   have s17:=s12.trans s7
   refine k1 t8 p7 way _ (hw.none rk) hw hwl (s17.free nt8) (s12.free np7) (s17.trans (ai.upd nt8)) ?_ ?_
   .rw[ao (aB hp7 nt8)]; exact hp7
   .rw[ag]
def B9 (K:NY):Sp:=fun vs H Q _=> ∃(ts:Addr) (os:List Addr) (n:Nat) (ms:List Mem) (ds:List N9),vs=[.ref ts]/\LS os n H ts ms ds/\O1 ms ds/\ds.length<=1000/\ ∀(p:Addr) (H':Hp),H p=none->ai H H'->kM K H' p (bB ms ds)->Q (.ref p) H'
theorem BB (T:Txt K mg a):N8 P w K mg base 1 "_law_rules" ["_law_state"] (B9 K):=by
 refine bf T.oF d9 (fun _ _ _ _ _ _=>Ov fun _=>rfl) (fun vs H Q E h=>?_) fun f c A o s H vs Q E hr h=>?_
 .obtain⟨ts,os,n,ms,ds,rfl,_⟩:=h
  rfl
 .obtain⟨ts,os,n,ms,ds,rfl,⟨ln,la,dd,vs,kvs,l⟩,db,dl,q⟩:=h
  refine⟨_,(ah (ax (i:=1) d9.nd rfl (Or.inl rfl) (aQ ae))
   (ah (bP KL rfl (bC (NZ K (pv 0) af)) (gx rfl (bj (aG (i:=2) d9.nd rfl (Or.inl rfl)) (bj (aG (i:=3) d9.nd rfl (Or.inl rfl)) (bj (aG (i:=4) d9.nd rfl (Or.inl rfl)) (bj (aG (i:=5) d9.nd rfl (Or.inl rfl)) fk)))))
   (ah (ax (i:=6) d9.nd rfl (Or.inl rfl) (xi u9 af))
   (dS (aK (aw fj (pv 4) bJ (aA _)) (aj (ax (i:=6) d9.nd rfl (Or.inl rfl) (show PE _ _ (Oh K _ _ _ _) from cz Kw LH LI lN (NZ K (pv 0) af) (aa (pv 4) ae)))) aD)
   (aj (aU (show PE _ _ (Oh K _ _ _ _) from cz Kw KR KS bS (pv 1) (aa (bM (aa (show PE _ _ (Oh K _ _ _ _) from cz Kw LH LI lN (NZ K (pv 0) af) (aa (pv 3) ae)) (aa (pv 6) (aa (pv 5) ae)))) ae)))))))
   (aj (az (pv 1))))),?_⟩
  refine⟨(by show 0<=sizeLine; decide),fun p np=>?_⟩
  have s1:=ai.upd (o:= .lst []) np
  have vl:=l.ar.length
  dsimp only[aY,L2.start,List.set]
  refine⟨_,rfl,ts,_,_,_,rfl,rfl,N1.of (s1 _ _ l.ht),rfl,la,rfl,⟨_,NX.of (s1 _ _ l.ha)⟩,?_⟩
  refine cK (xs:=vs) (fun i σ' H'=> ∃(v2 v3 v4 v5 v6:Option V),σ'=[some (.ref ts),some (.ref p),v2,v3,v4,v5,v6]/\ai H H'/\kM K H' p ((bB ms ds).take i)) ⟨none,none,none,none,none,rfl,s1,[],ag,.nil⟩ (fun i σ' H' _ ⟨_,_,_,_,_,_,sm,_⟩=>bq (NX.of (sm _ _ l.ha))) ?_ ?_
  .rintro i x σ' H' hi ⟨v2,v3,v4,v5,v6,rfl,sm,hR⟩
   obtain⟨d,hd,t,rfl,_,ht⟩:=l.ar.get hi
   have ht':=sm _ _ ht
   have hn':=sm _ _ l.hn
   have hs':=sm _ _ l.ht
   obtain⟨b1,b2,b3⟩:=db d (Kp hd)
   obtain⟨j,j1,j2⟩:=ig b1
   have ej:=jw j1 j2
   have il:i < ds.length:=(Kv.mp hd).1
   refine⟨t,_,rfl,N1.of ht',rfl,_,_,rfl,_,_,rfl,_,_,rfl,_,_,rfl,rfl,?_⟩
   refine⟨_,rfl,?_⟩
   dsimp only[aY,List.set]
   refine⟨fun σ2 H2=>σ2=[some (.ref ts),some (.ref p),some (.str d.1),some (.str d.2.1),some (iJ d.2.2.1),some (.int d.2.2.2),some (.int (fD (ms.map (·.1)) d).2.1)]/\H'=H2,?_,?_⟩
   .refine⟨_,rfl,?_⟩
    cases ed:d.2.2.1 with
    | none =>
     refine⟨rfl,_,rfl,aM ⟨?_,rfl⟩⟩
     unfold fD
     rw[ed]
    | some b =>
     obtain⟨k,i1,i2⟩:=ig (b2 b ed)
     have ei:=jw i1 i2
     refine⟨rfl,_,rfl,aZ ⟨_,rfl,ts,_,_,_,rfl,rfl,N1.of hs',rfl,.inl ⟨rfl,_,NX.of hn'⟩,_,rfl,ln,_,b,k,rfl,rfl,hn',i1,i2,?_,rfl⟩⟩
     unfold fD
     rw[ed]
     show _=[_,_,_,_,_,_,some (V.int (((ms.map (·.1)).idxOf b:Nat):Int))]
     rw[ei]
     rfl
   rintro σ2 H2 ⟨rfl,rfl⟩
   obtain⟨xs,hx,hX⟩:=id hR
   refine⟨_,rfl,.inl ⟨rfl,_,NX.of hx⟩,_,rfl,ts,_,_,_,rfl,rfl,N1.of hs',rfl,.inl ⟨rfl,_,NX.of hn'⟩,_,rfl,ln,_,d.2.1,j,rfl,rfl,hn',j1,j2,_,rfl,_,rfl,(by show 3<=sizeLine; decide),fun t nt=>?_⟩
   have hx':=(ao (o:= .tup [.int ((j:Nat):Int),.int (fD (ms.map (·.1)) d).2.1,.int d.2.2.2]) (aB hx nt)).trans hx
   refine⟨p,_,_,rfl,rfl,hx',by rw[hX.length,K4]; exact aH (by omega),?_⟩
   have er:(bB ms ds).take (i+1)=(bB ms ds).take i++[(((j:Nat):Int),(fD (ms.map (·.1)) d).2.1,d.2.2.2)]:=by
    rw[La]
    congr 1
    unfold bB
    rw[KD,hd]
    show [fD (ms.map (·.1)) d]=_
    rw[<-ej]
    rfl
   rw[er]
   exact⟨_,_,_,_,_,rfl,sm.IW nt np,kM.push (q:=(((j:Nat):Int),(fD (ms.map (·.1)) d).2.1,d.2.2.2)) hR nt hx⟩
  .rintro σ' H' ⟨v2,v3,v4,v5,v6,rfl,sm,hR⟩
   rw[vl,LO (by unfold bB; rw[Kj]; omega)] at hR
   exact⟨_,rfl,q p H' np sm hR⟩
theorem nN (d:N9):(j7 d).all bZ=true:=by
 obtain⟨d1,d2,d3,d4⟩:=d
 cases d3 <;> rfl
theorem uB (m:Mem):(jK m).all bZ=true:=by
 obtain⟨m1,m2⟩:=m
 cases m2 <;> rfl
theorem zG (d:N9):kY (j7 d) (j7 d)=true:=rR (nN d)
theorem ES (m:Mem):kY (jK m) (jK m)=true:=rR (uB m)
def D9 (C:Addr) (K:NY):Sp:=fun vs H Q _=> ∃(h la:Addr) (os xs:List Addr) (S:N3) (us:List V),vs=[.ref h,.ref la]/\HI C H h os S/\H la=some (.lst us)/\F2 (mC xs H) us S.ds/\S.ds.length<=24/\ ∀H',ai H H'->Q (.bl true) H'
theorem Dq (T:Txt K mg a):N8 P w K mg base 2 "_law_demands_told" ["_law_house","_law_asked_here"] (D9 a.House K):=by
 have jQ:=@nK P w K mg base a T
 have iZ:=@t9 P w K mg base a T
 refine bf T.h8 gK (fun _ _ _ _ _ _=>Oa fun _ _=>rfl) (fun vs H Q E h=>?_) fun f c A o s H vs Q E hr h=>?_
 .obtain⟨h,la,os,xs,S,us,rfl,_⟩:=h
  rfl
 .obtain⟨h,la,os,xs,S,us,rfl,hI,ha,ar,hdl,q⟩:=h
  obtain⟨dx,p,q0,r,is,kv,rfl,I⟩:=id hI
  have ul:=ar.length
  refine⟨_,(ah (ax (i:=2) gK.nd rfl (Or.inl rfl) (dq T.au.cl jQ hr.z (pv 0)))
   (ah (aK (PW.pt (ff (cS (ba (bz eD (by rfl) T.bW boot_isinstance (aa (pv 2) (aa (ft (v:= .ty "list") rfl T.i7 boot_list rfl) ae))) (fun _=>rfl))) (eV (aw gP (cB K T.bK (aa (pv 2) ae)) (cB K T.bK (aa (pv 1) ae)) (aA _))))) (aj (az eB)) aD)
   (ah (bP KL rfl (b6 rfl T.cE (aa (cB K T.bK (aa (pv 1) ae)) ae)) (aG (i:=3) gK.nd rfl (Or.inl rfl))
   (ah (aK (PW.pt (ff (cS (ba (bz eD (by rfl) T.bW boot_isinstance (aa (N2 K (pv 2) (pv 3)) (aa (ft (v:= .ty "tuple") rfl T.tJ boot_tuple rfl) ae))) (fun _=>rfl))) (ff (aw gP (cB K T.bK (aa (N2 K (pv 2) (pv 3)) ae)) af (aA _)) (eV (cS (ba (aJ iZ hr.z (aa (NZ K (N2 K (pv 2) (pv 3)) af) ae)) (fun _=>rfl))))))) (aj (az eB)) aD)
   (ah (aK (PW.pt (ff (cS (ba (bz eD (by rfl) T.bW boot_isinstance (aa (NZ K (N2 K (pv 2) (pv 3)) af) (aa (ft (v:= .ty "str") rfl T.tq boot_str rfl) ae))) (fun _=>rfl))) (eV (cS (ba (bz eD (by rfl) T.bW boot_isinstance (aa (NZ K (N2 K (pv 2) (pv 3)) af) (aa (ft (v:= .ty "str") rfl T.tq boot_str rfl) ae))) (fun _=>rfl)))))) (aj (az eB)) aD)
   (aj (aK (PW.pt (ff (PW.pt (eZ (aw lL (NZ K (N2 K (pv 1) (pv 3)) af) bJ (aA _)) (eU (aw fj (NZ K (N2 K (pv 2) (pv 3)) af) bJ (aA _))))) (eV (aw (show N7 _ _ (DA K) from Bh (df hr)) (N2 K (pv 2) (pv 3)) (N2 K (pv 1) (pv 3)) (aA _))))) (aj (az eB)) aD)))))
   (aj (az eB))))),?_⟩
  refine⟨_,rfl,h,dx,_,rfl,I.ih,N6,h,_,S,rfl,hI,fun fp ys H1 nfp s1 hfp hY=>?_⟩
  have yl:=hY.length
  have ha1:=s1 _ _ ha
  have ar1:F2 (mC xs H1) us S.ds:=ar.imp fun v d ⟨t,e,a,b⟩=>⟨t,e,a,s1 _ _ b⟩
  refine⟨_,rfl,_,"list",true,rfl,.inl ⟨⟨_,NX.of hfp⟩,.inl ⟨rfl,rfl⟩⟩,_,rfl,aM ?_⟩
  refine⟨_,rfl,_,_,rfl,.inl ⟨_,NX.of hfp,rfl⟩,_,rfl,_,_,rfl,.inl ⟨_,NX.of ha1,rfl⟩,rfl,_,rfl,?_⟩
  rw[show (!decide (V.int (ys.length:Nat)=V.int (us.length:Nat)))=false from by rw[yl,ul]; simp]
  refine aM ?_
  refine⟨_,rfl,_,_,rfl,.inl ⟨_,NX.of ha1,rfl⟩,_,rfl,by omega,by omega,?_⟩
  rw[KO]
  refine cP (xs:=cw 0 us.length) (fun i σ' H'=> ∃v3:Option V,σ'=[some (.ref h),some (.ref la),some (.ref fp),v3]/\H'=H1) ⟨none,rfl,rfl⟩ (fun i σ' H' _ _=>cG) ?_ ?_
  .rintro i x σ' H' D1 nx1 - hi ⟨v3,rfl,rfl⟩
   obtain⟨hin,rfl⟩:=cj hi
   have ei:(0+(i:Nat):Int)=(i:Nat):=by omega
   rw[ei]
   obtain⟨d,hd,t1,e1,_,ht1⟩:=ar1.get (Kl hin)
   obtain⟨v,hv,t2,rfl,_,ht2⟩:=hY.at' hd
   have hu:us[i]?=some (.ref t1):=by rw[Kl hin,e1]
   have a1:Ob us (i:Nat)=some (.ref t1):=cm hu
   have a2:Ob ys (i:Nat)=some (.ref t2):=cm hv
   have hs1:=NX.of (K:=K) ha1
   have hs2:=NX.of (K:=K) hfp
   have q1:=N1.of (K:=K) ht1
   have q2:=N1.of (K:=K) ht2
   refine⟨_,rfl,_,rfl,fp,_,_,_,rfl,rfl,hs2,a2,_,"tuple",true,rfl,.inr ⟨⟨_,q2⟩,.inl ⟨rfl,rfl⟩⟩,_,rfl,aM ?_⟩
   refine⟨_,rfl,_,rfl,fp,_,_,_,rfl,rfl,hs2,a2,_,_,rfl,.inr ⟨_,q2,rfl⟩,rfl,_,rfl,aM ?_⟩
   refine⟨_,rfl,_,rfl,fp,_,_,_,rfl,rfl,hs2,a2,t2,_,_,_,rfl,rfl,q2,rfl,.int d.2.2.2,rfl,⟨true,false,.inl ⟨rfl,rfl⟩,.inr ⟨by decide,rfl⟩,rfl⟩,_,rfl,aM ?_⟩
   refine⟨_,rfl,_,rfl,fp,_,_,_,rfl,rfl,hs2,a2,t2,_,_,_,rfl,rfl,q2,rfl,_,"str",true,rfl,.inl ⟨rfl,rfl⟩,_,rfl,aM ?_⟩
   refine⟨_,rfl,_,rfl,fp,_,_,_,rfl,rfl,hs2,a2,t2,_,_,_,rfl,rfl,q2,rfl,_,"str",true,rfl,.inl ⟨rfl,rfl⟩,_,rfl,aM ?_⟩
   obtain⟨d1,d2,d3,d4⟩:=d
   refine⟨_,rfl,_,rfl,la,_,_,_,rfl,rfl,hs1,a1,t1,_,_,_,rfl,rfl,q1,rfl,rfl,_,rfl,?_⟩
   cases d3 with
   | none =>
    refine aZ ⟨_,rfl,_,rfl,fp,_,_,_,rfl,rfl,hs2,a2,t2,_,_,_,rfl,rfl,q2,rfl,rfl,_,rfl,aM ?_⟩
    refine⟨_,rfl,_,rfl,fp,_,_,_,rfl,rfl,hs2,a2,_,rfl,_,rfl,la,_,_,_,rfl,rfl,hs1,a1,t2,t1,_,_,rfl,rfl,q2,q1,nN _,nN _,_,rfl,?_⟩
    rw[zG]
    exact aM (nx1 _ _ ⟨_,rfl,rfl⟩)
   | some z =>
    refine aM (aM ?_)
    refine⟨_,rfl,_,rfl,fp,_,_,_,rfl,rfl,hs2,a2,_,rfl,_,rfl,la,_,_,_,rfl,rfl,hs1,a1,t2,t1,_,_,rfl,rfl,q2,q1,nN _,nN _,_,rfl,?_⟩
    rw[zG]
    exact aM (nx1 _ _ ⟨_,rfl,rfl⟩)
  .rintro σ' H' ⟨v3,rfl,rfl⟩
   exact q _ s1
def Dy (C:Addr) (K:NY):Sp:=fun vs H Q _=> ∃(h la:Addr) (os:List Addr) (S:N3) (us:List V),vs=[.ref h,.ref la]/\HI C H h os S/\H la=some (.lst us)/\F2 (fun v m=> ∃t,v=V.ref t/\H t=some (.tup (jK m))) us (S.ms.filter (·.2.isSome))/\S.ms.length<=12/\ ∀H',ai H H'->Q (.bl true) H'
theorem DQ (T:Txt K mg a):N8 P w K mg base 2 "_law_tops_told" ["_law_house","_law_due_here"] (Dy a.House K):=by
 have n6:=@qU P w K mg base a T
 have iZ:=@t9 P w K mg base a T
 refine bf T.jW jk (fun _ _ _ _ _ _=>Oa fun _ _=>rfl) (fun vs H Q E h=>?_) fun f c A o s H vs Q E hr h=>?_
 .obtain⟨h,la,os,S,us,rfl,_⟩:=h
  rfl
 .obtain⟨h,la,os,S,us,rfl,hI,ha,ar,hml,q⟩:=h
  obtain⟨dx,p,q0,r,is,kv,rfl,I⟩:=id hI
  have ul:=ar.length
  have fl:(S.ms.filter (·.2.isSome)).length<=12:=KP (Ll _ _) hml
  refine⟨_,(ah (ax (i:=2) jk.nd rfl (Or.inl rfl) (dq T.au.cl n6 hr.z (pv 0)))
   (ah (aK (PW.pt (ff (cS (ba (bz eD (by rfl) T.bW boot_isinstance (aa (pv 2) (aa (ft (v:= .ty "list") rfl T.i7 boot_list rfl) ae))) (fun _=>rfl))) (eV (aw gP (cB K T.bK (aa (pv 2) ae)) (cB K T.bK (aa (pv 1) ae)) (aA _))))) (aj (az eB)) aD)
   (ah (bP KL rfl (b6 rfl T.cE (aa (cB K T.bK (aa (pv 1) ae)) ae)) (aG (i:=3) jk.nd rfl (Or.inl rfl))
   (ah (aK (PW.pt (ff (cS (ba (bz eD (by rfl) T.bW boot_isinstance (aa (N2 K (pv 2) (pv 3)) (aa (ft (v:= .ty "tuple") rfl T.tJ boot_tuple rfl) ae))) (fun _=>rfl))) (ff (aw gP (cB K T.bK (aa (N2 K (pv 2) (pv 3)) ae)) af (aA _)) (eV (cS (ba (aJ iZ hr.z (aa (NZ K (N2 K (pv 2) (pv 3)) af) ae)) (fun _=>rfl))))))) (aj (az eB)) aD)
   (aj (aK (PW.pt (ff (cS (ba (bz eD (by rfl) T.bW boot_isinstance (aa (NZ K (N2 K (pv 2) (pv 3)) af) (aa (ft (v:= .ty "str") rfl T.tq boot_str rfl) ae))) (fun _=>rfl))) (eV (aw (show N7 _ _ (DA K) from Bh (df hr)) (N2 K (pv 2) (pv 3)) (N2 K (pv 1) (pv 3)) (aA _))))) (aj (az eB)) aD))))
   (aj (az eB))))),?_⟩
  refine⟨_,rfl,h,dx,_,rfl,I.ih,N6,h,_,S,rfl,hI,by omega,fun fp ys H1 nfp s1 hfp hY=>?_⟩
  have yl:=hY.length
  have ha1:=s1 _ _ ha
  have ar1:=ar.imp (S:=fun v m=> ∃t,v=V.ref t/\H1 t=some (.tup (jK m))) fun v d ⟨t,e,b⟩=>⟨t,e,s1 _ _ b⟩
  refine⟨_,rfl,_,"list",true,rfl,.inl ⟨⟨_,NX.of hfp⟩,.inl ⟨rfl,rfl⟩⟩,_,rfl,aM ?_⟩
  refine⟨_,rfl,_,_,rfl,.inl ⟨_,NX.of hfp,rfl⟩,_,rfl,_,_,rfl,.inl ⟨_,NX.of ha1,rfl⟩,rfl,_,rfl,?_⟩
  rw[show (!decide (V.int (ys.length:Nat)=V.int (us.length:Nat)))=false from by rw[yl,ul]; simp]
  refine aM ?_
  refine⟨_,rfl,_,_,rfl,.inl ⟨_,NX.of ha1,rfl⟩,_,rfl,by omega,by omega,?_⟩
  rw[KO]
  refine cP (xs:=cw 0 us.length) (fun i σ' H'=> ∃v3:Option V,σ'=[some (.ref h),some (.ref la),some (.ref fp),v3]/\H'=H1) ⟨none,rfl,rfl⟩ (fun i σ' H' _ _=>cG) ?_ ?_
  .rintro i x σ' H' D1 nx1 - hi ⟨v3,rfl,rfl⟩
   obtain⟨hin,rfl⟩:=cj hi
   have ei:(0+(i:Nat):Int)=(i:Nat):=by omega
   rw[ei]
   obtain⟨m,hm,t1,e1,ht1⟩:=ar1.get (Kl hin)
   obtain⟨v,hv,t2,rfl,_,ht2⟩:=hY.at' hm
   have hu:us[i]?=some (.ref t1):=by rw[Kl hin,e1]
   have a1:Ob us (i:Nat)=some (.ref t1):=cm hu
   have a2:Ob ys (i:Nat)=some (.ref t2):=cm hv
   have hs1:=NX.of (K:=K) ha1
   have hs2:=NX.of (K:=K) hfp
   have q1:=N1.of (K:=K) ht1
   have q2:=N1.of (K:=K) ht2
   obtain⟨c,hc⟩: ∃c,m.2=some c:=LY.mp (Li.mp (Kp hm)).2
   obtain⟨m1,m2⟩:=m
   cases (show m2=some c from hc)
   refine⟨_,rfl,_,rfl,fp,_,_,_,rfl,rfl,hs2,a2,_,"tuple",true,rfl,.inr ⟨⟨_,q2⟩,.inl ⟨rfl,rfl⟩⟩,_,rfl,aM ?_⟩
   refine⟨_,rfl,_,rfl,fp,_,_,_,rfl,rfl,hs2,a2,_,_,rfl,.inr ⟨_,q2,rfl⟩,rfl,_,rfl,aM ?_⟩
   refine⟨_,rfl,_,rfl,fp,_,_,_,rfl,rfl,hs2,a2,t2,_,_,_,rfl,rfl,q2,rfl,.int c,rfl,⟨true,false,.inl ⟨rfl,rfl⟩,.inr ⟨by decide,rfl⟩,rfl⟩,_,rfl,aM ?_⟩
   refine⟨_,rfl,_,rfl,fp,_,_,_,rfl,rfl,hs2,a2,t2,_,_,_,rfl,rfl,q2,rfl,_,"str",true,rfl,.inl ⟨rfl,rfl⟩,_,rfl,aM ?_⟩
   refine⟨_,rfl,_,rfl,fp,_,_,_,rfl,rfl,hs2,a2,_,rfl,_,rfl,la,_,_,_,rfl,rfl,hs1,a1,t2,t1,_,_,rfl,rfl,q2,q1,uB _,uB _,_,rfl,?_⟩
   rw[ES]
   exact aM (nx1 _ _ ⟨_,rfl,rfl⟩)
  .rintro σ' H' ⟨v3,rfl,rfl⟩
   exact q _ s1
theorem CU {ms:List Mem}{i:Nat}{m:Str}{o:Option Int}(nd:(ms.map (·.1)).Nodup) (h:ms[i]?=some (m,o)):bQ ms m=o:=by
 have hi:=(Kv.mp h).1
 refine tF h fun j hj e=>?_
 have h1:(ms.map (·.1))[i]?=some m:=by rw[KD,h]; rfl
 have:=(List.getElem?_inj (by rw[Kj]; omega) nd).mp (e.trans h1.symm)
 omega
def CF (C:Addr) (K:NY):Sp:=fun vs H Q _=> ∃(h ts:Addr) (os xs:List Addr) (n:Nat) (S:N3),vs=[.ref h,.ref ts]/\HI C H h os S/\OP S.ms S.ds/\LS xs n H ts S.ms S.ds/\ ∀H',ai H H'->Q (.bl true) H'
theorem BM (T:Txt K mg a):N8 P w K mg base 3 "_law_stands" ["_law_house","_law_state"] (CF a.House K):=by
 have yW:=@C8 P w K mg base a T
 have rJ:=@Dq P w K mg base a T
 have uY:=@DQ P w K mg base a T
 have aR:=@bO P w K mg base a T
 refine bf T.nX i8 (fun _ _ _ _ _ _=>Oa fun _ _=>rfl) (fun vs H Q E h=>?_) fun f c A o s H vs Q E hr h=>?_
 .obtain⟨h,ts,os,xs,n,S,rfl,_⟩:=h
  rfl
 .obtain⟨h,ts,os,xs,n,S,rfl,hI,g,⟨ln,la,dd,vs,kvs,l⟩,q⟩:=h
  obtain⟨dx,p,q0,r,is,kv,rfl,I⟩:=id hI
  obtain⟨ml,dl,mn,dn,mN,dN⟩:=id g
  refine⟨_,(ah (gY (pv 1) (gx rfl (bj (aG (i:=2) i8.nd rfl (Or.inl rfl)) (bj (aG (i:=3) i8.nd rfl (Or.inl rfl)) (bj (aG (i:=4) i8.nd rfl (Or.inr rfl)) fk)))))
   (ah (aK (PW.pt (ff (cS (ba (aJ yW hr.z (aa (dq T.au.cl aR hr.z (pv 0)) (aa (pv 2) ae))) (fun _=>rfl))) (eV (cS (ba (aJ rJ hr.z (aa (pv 0) (aa (pv 3) ae))) (fun _=>rfl)))))) (aj (az eB)) aD)
   (aj (az (aJ uY hr.z (aa (pv 0) (aa (cM (psc:=aq jN) (own:=["_law_name"]) (frn:=["_law_caps"]) (fr:=[4]) (by exact⟨rfl,by trivial,by trivial,by trivial,by trivial,by trivial⟩) rfl rfl rfl (bG (by decide:0 < 1)) (bC (pv 2))
    (fun C s2 H2 fp=>⟨(aG (i:=0) (show (["_law_name","_law_caps"]:List Str).Nodup by trivial) rfl (Or.inl rfl)),(iA (pR (rN (df hr) (pv 0) (pv 1)) (by with_unfolding_all rfl))),(bM (aa (pv 0) (aa (mY (df hr) (pv 1) (pv 0) (fun _ _=>rfl)) ae)))⟩)) ae))))))),?_⟩
  refine⟨_,rfl,ts,_,rfl,N1.of l.ht,rfl,_,_,rfl,_,_,rfl,_,_,rfl,rfl,?_⟩
  dsimp only[aY,L2.start,List.set]
  refine⟨_,rfl,h,dx,_,rfl,I.ih,N6,h,_,S,rfl,hI,by omega,fun pm H1 npm s1 hpm=>?_⟩
  refine⟨_,rfl,pm,ln,aI S,rfl,hpm,NX.of (s1 _ _ l.hn),by unfold aI; rw[Kj]; omega,fun y hy=>KP (mN y hy).len (by decide),_,rfl,aM ?_⟩
  refine⟨_,rfl,_,rfl,h,la,_,xs,S,vs,rfl,hI.grow fun b o _ e=>s1 _ _ e,s1 _ _ l.ha,l.ar.imp fun v d ⟨t,e,a,b⟩=>⟨t,e,a,s1 _ _ b⟩,dl,fun H2 s2'=>⟨_,rfl,aM ?_⟩⟩
  have s2:=s1.trans s2'
  have hn2:=s2 _ _ l.hn
  have hd2:=s2 _ _ l.hd
  refine⟨_,rfl,_,rfl,ln,rfl,⟨_,NX.of hn2⟩,?_⟩
  refine b8 (xs:=(S.ms.map (·.1)).map V.str) (fun i ys H'=>ai H2 H'/\ys.length<=i/\F2 (fun v m=> ∃t,v=V.ref t/\H' t=some (.tup (jK m))) ys ((S.ms.take i).filter (·.2.isSome))) (fun i ys H' _ h=>bq (NX.of (h.1 _ _ hn2))) ⟨ai.refl H2,Kn _,.nil⟩ (aH (by rw[Kj,Kj]; omega)) (fun i ys H' h=>h.2.1) ?_ ?_
  .rintro i ys H3 x hi ⟨sm,hyl,hY⟩
   obtain⟨m,hm,rfl⟩: ∃m:Mem,S.ms[i]?=some m/\x=V.str m.1:=by
    rw[KD,KD] at hi
    cases e:S.ms[i]? with
    | none=>rw[e] at hi; cases hi
    | some m=>rw[e] at hi; exact⟨m,rfl,(KJ hi).symm⟩
   have tk:(S.ms.take (i+1)).filter (·.2.isSome)=(S.ms.take i).filter (·.2.isSome)++(if m.2.isSome then [m] else []):=by
    rw[La,hm,Lz]
    congr 1
    show [m].filter _=_
    by_cases c:m.2.isSome=true <;> simp[c]
   obtain⟨m1,m2⟩:=m
   have hv:aV kvs (Sum.inr m1)=m2.map V.int:=by rw[l.cp m1,CU mn hm]
   have hd3:=sm _ _ hd2
   refine⟨_,rfl,_,rfl,dd,_,rfl,dw.k (k:=Sum.inr m1) hd3,_,rfl,?_⟩
   rw[tk,hv]
   cases m2 with
   | none=>exact aM ⟨sm,by omega,by simpa using hY⟩
   | some c =>
    refine aZ ⟨_,rfl,_,rfl,_,rfl,dd,.int c,rfl,(by have:=dw.k (k:=Sum.inr m1) hd3; rw[hv] at this; exact this),(by show 2<=sizeLine; decide),fun t nt=>?_⟩
    have s4:=ai.upd (o:= .tup [.str m1,.int c]) nt
    exact⟨sm.trans s4,by rw[Kr]; show ys.length+1<=i+1; omega,F2.append (hY.imp fun v m ⟨t,e,b⟩=>⟨t,e,s4 _ _ b⟩) (.cons ⟨t,rfl,ag⟩ .nil)⟩
  .rintro ys H3 p2 ⟨sm,hyl,hY⟩ np
   rw[Kj,Kj,K5] at hY
   have s4:=ai.upd (o:= .lst ys) np
   have s24:=s2.trans (sm.trans s4)
   exact⟨h,p2,_,S,ys,rfl,hI.grow fun b o _ e=>s24 _ _ e,ag,hY.imp fun v m ⟨t,e,b⟩=>⟨t,e,s4 _ _ b⟩,ml,fun H4 s5=>q H4 (s24.trans s5)⟩
def GQ (K:NY):R2:=fun x y H Q=> ∃(a b:Addr) (xs ys:List V),x= .ref a/\y= .ref b/\NX K H a xs/\NX K H b ys/\xs.all bZ=true/\ys.all bZ=true/\Q (.bl (kY xs ys)) H
theorem Hi {X:Cx}(hu:X.A.units+1 < cLine):N7 X (compareOp .Eq) (GQ X.K):=by
 intro NV s σ H x y v u Q I rx ry h
 obtain⟨a,b,xs,ys,rfl,rfl,ha,hb,fx,fy,q⟩:=h
 by_cases hl:xs.length=ys.length
 .refine GS hu NV s σ H (.ref a) (.ref b) v u Q I rx ry ⟨a,b,xs,ys,rfl,rfl,ha,hb,hl,fx,fy,?_⟩
  unfold kY at q
  rw[<-hl,Nat.min_self,L7,Bool.and_true] at q
  exact q
 .cases rx
  cases ry
  obtain⟨us,r1,p1,z1⟩:=I.list ha
  obtain⟨vs,r2,p2,z2⟩:=I.list hb
  have l1:=r1.length
  have l2:=r2.length
  unfold kY at q
  rw[beq_eq_false_iff_ne.mpr hl,Bool.and_false] at q
  exact SeqAt.eq_list_lengthsAt p1.isList p2.isList (by simp; omega) (by omega) ⟨.bl _,H,I,rfl,q⟩
def vU (S:N3) (k:Int) (y:Str) (xs:List V):Prop:=(k=0->y∈aI S-> ∃ys:List Str,xs=ys.map V.str/\ ∀z∈ys,z∈bg S\/z= "no widths")/\(k=3->(bX S=none/\xs=[.str "no widths"])\/ ∃L,bX S=some L/\xs=L.map V.int)
def IZ (k:Int):Prop:=k=0\/k=1\/k=2\/k=3
def Ag (a:Adr):Sp:=fun vs H Q _=> ∃(h:Addr) (os:List Addr) (S:N3) (k:Int) (y:Str),vs=[.ref h,.int k,.str y]/\ON H h os S a.House/\IZ k/\ ∀(p:Addr) (xs:List V) (H':Hp),H p=none->ai H H'->H' p=some (.lst xs)->xs.length<=1000->vU S k y xs->Q (.ref p) H'
theorem sW {S:N3}(g:OP S.ms S.ds){ps:List Nat}(lt: ∀j∈ps,j < S.ds.length): ∀z∈et S ps,z∈bg S:=fun z hz=>by
 unfold et at hz
 obtain⟨j,hj,rfl⟩:=Lx.mp hz
 have hl:j < (bg S).length:=by unfold bg; rw[Kj]; exact lt j hj
 rw[Ku,Kl hl]
 exact LU hl
theorem qL (T:Txt K mg a):N8 P w K mg base 8 "_law_asked" ["_law_house","_law_kind","_law_name"] (Ag a):=by
 have wV:=@vn P w K mg base a T
 have wW:=@vA P w K mg base a T
 have yC:=@w9 P w K mg base a T
 have kB:=@oy P w K mg base a T
 refine bf T.oX eg (fun _ _ _ _ _ _=>OG fun _ _ _=>rfl) (fun vs H Q E h=>?_) fun f c A o s H vs Q E hr h=>?_
 .obtain⟨h,os,S,k,y,rfl,_⟩:=h
  rfl
 .obtain⟨h,os,S,k,y,rfl,hQ,hk,q⟩:=h
  refine⟨_,(ah (ax (i:=3) eg.nd rfl (Or.inl rfl) (aQ ae))
   (dS (Bk ⟨rfl,rfl⟩ (fun NV E'=>(aj (aK (aw bh (pv 1) af (aA _)) (aj (ax (i:=3) eg.nd rfl (Or.inl rfl) (cy T.au.cl wV hr.z (pv 0) (aa (pv 2) ae)))) (aj (aK (aw bh (pv 1) af (aA _)) (aj (ax (i:=3) eg.nd rfl (Or.inl rfl) (aQ (aa (cy T.au.cl wW hr.z (pv 0) (aa (pv 2) ae)) ae)))) (aj (aK (aw bh (pv 1) af (aA _)) (aj (ax (i:=3) eg.nd rfl (Or.inl rfl) (aQ (aa (cy T.au.cl yC hr.z (pv 0) (aa (pv 2) ae)) ae)))) (aj (ax (i:=3) eg.nd rfl (Or.inl rfl) (bc T.au.cl kB hr.z (pv 0))))))))))) (kg T.fZ (fun NV x o=>(aj (ax (i:=3) eg.nd rfl (Or.inl rfl) (aQ (aa aF ae))))) (kg T.iz (fun NV x o=>(aj (ax (i:=3) eg.nd rfl (Or.inl rfl) (aQ (aa aF ae))))) Cj)))
   (ah (aK (cS (ba (bz Cw (by rfl) T.bW boot_isinstance (aa (pv 3) (aa (ft (v:= .ty "list") rfl T.i7 boot_list rfl) ae))) (fun _=>rfl))) (aj (az (aQ ae))) aD)
   (aj (az (pv 3)))))),?_⟩
  refine⟨(by decide),fun l0 n0=>?_⟩
  have s0:=ai.upd (o:= .lst []) n0
  have hQ:ON (upd H l0 (.lst [])) h os S a.House:=⟨hQ.1.grow fun b o _ e=>s0 _ _ e,hQ.2⟩
  generalize upd H l0 (.lst [])=H0 at s0 hQ
  obtain⟨hI,g,db,cp⟩:=id hQ
  obtain⟨dx,p,q0,r,is,kv,rfl,I⟩:=id hI
  have rk:=ix db
  have ml:=g.ml
  dsimp only[aY,L2.start,List.set]
  refine⟨fun σ' H'=> ∃(l:Addr) (xs:List V),σ'=[some (.ref h),some (.int k),some (.str y),some (.ref l)]/\ai H H'/\H l=none/\H' l=some (.lst xs)/\xs.length<=1000/\vU S k y xs,?_,?_⟩
  .have un: ∀ {z:Str},(k=3->False)->(k=0->y∈aI S->False)->vU S k y [.str z]:=fun a b=>⟨fun e m=>(b e m).elim,fun e=>(a e).elim⟩
   refine⟨fun σ' cls _ H'=>σ'=[some (.ref h),some (.int k),some (.str y),some (.ref l0)]/\ai H H'/\((cls= .ref a.Unknown/\vU S k y [.str "unknown"])\/(cls= .ref a.NoWidths/\vU S k y [.str "no widths"])),fun NV=>?_,?_⟩
   .have nw:(k=0\/k=1\/k=2)->vU S k y [.str "no widths"]:=fun e=>⟨fun _ _=>⟨["no widths"],rfl,fun z hz=> .inr (Km.mp hz)⟩,fun e'=>by omega⟩
    rcases hk with rfl | rfl | rfl | rfl
    .refine⟨_,rfl,rfl,_,rfl,aZ ?_⟩
     refine⟨_,rfl,h,dx,_,rfl,I.ih,N6,_,rfl,h,_,S,y,rfl,hQ,fun hy H' s=>⟨rfl,s0.trans s,.inl ⟨rfl,un (by decide) fun _ m=>hy m⟩⟩,fun hy e H' s=>⟨rfl,s0.trans s,.inr ⟨rfl,nw (.inl rfl)⟩⟩,fun hy L eL pc ps H' np s hpc hC=>?_⟩
     exact⟨pc,_,rfl,s0.trans s,s0.free np,hpc,by have:=hC.OW (MA.rA rk (dA eL).1); unfold et; rw[Kj,Kj]; omega,fun _ _=>⟨_,rfl,fun z hz=> .inl (sW g (fun j hj=>by have:=hC.lt j hj; rw[eP] at this; exact this) z hz)⟩,fun e=>absurd e (by decide)⟩
    .refine⟨_,rfl,rfl,_,rfl,aM ⟨_,rfl,rfl,_,rfl,aZ ?_⟩⟩
     exact⟨_,rfl,h,dx,_,rfl,I.ih,N6,_,rfl,h,_,S,y,rfl,hQ,fun hy H' s=>⟨rfl,s0.trans s,.inl ⟨rfl,un (by decide) (fun e=>absurd e (by decide))⟩⟩,fun hy e H' s=>⟨rfl,s0.trans s,.inr ⟨rfl,nw (.inr (.inl rfl))⟩⟩,fun hy L eL=>⟨fun H' s _=>⟨(by show 1<=sizeLine; decide),fun l nl=>⟨l,_,rfl,s0.trans (s.trans (ai.upd nl)),(s0.trans s).free nl,ag,(by show 1<=1000; decide),(by constructor <;> intro e <;> exact absurd e (by decide))⟩⟩,fun t _ _ H' _ s _ _ _=>⟨(by show 1<=sizeLine; decide),fun l nl=>⟨l,_,rfl,s0.trans (s.trans (ai.upd nl)),(s0.trans s).free nl,ag,(by show 1<=1000; decide),(by constructor <;> intro e <;> exact absurd e (by decide))⟩⟩⟩⟩
    .refine⟨_,rfl,rfl,_,rfl,aM ⟨_,rfl,rfl,_,rfl,aM ⟨_,rfl,rfl,_,rfl,aZ ?_⟩⟩⟩
     exact⟨_,rfl,h,dx,_,rfl,I.ih,N6,_,rfl,h,_,S,y,rfl,hQ,fun hy H' s=>⟨rfl,s0.trans s,.inl ⟨rfl,un (by decide) (fun e=>absurd e (by decide))⟩⟩,fun hy e H' s=>⟨rfl,s0.trans s,.inr ⟨rfl,nw (.inr (.inr rfl))⟩⟩,fun hy L L' eL _ H' s=>⟨(by show 1<=sizeLine; decide),fun l nl=>⟨l,_,rfl,s0.trans (s.trans (ai.upd nl)),(s0.trans s).free nl,ag,(by show 1<=1000; decide),(by constructor <;> intro e <;> exact absurd e (by decide))⟩⟩⟩
    .refine⟨_,rfl,rfl,_,rfl,aM ⟨_,rfl,rfl,_,rfl,aM ⟨_,rfl,rfl,_,rfl,aM ?_⟩⟩⟩
     exact⟨_,rfl,h,dx,_,rfl,I.ih,N6,h,_,S,rfl,hI,g,db,fun L eL pL H' np s hpL=>⟨pL,_,rfl,s0.trans s,s0.free np,hpL,by rw[Kj,ly rk (dA eL).1]; omega,fun e=>absurd e (by decide),fun _=> .inr ⟨L,eL,rfl⟩⟩,fun e H' s=>⟨rfl,s0.trans s,.inr ⟨rfl,fun e=>absurd e (by decide),fun _=> .inl ⟨e,rfl⟩⟩⟩⟩
   .rintro σ' cls H' ⟨rfl,s,⟨rfl,ez⟩ | ⟨rfl,ez⟩⟩
    .refine⟨a.Unknown,true,rfl,T.fZ.2,T.fN,aZ ?_⟩
     exact fun NV x o=>⟨(by show 1<=sizeLine; decide),fun l nl=>⟨l,_,rfl,s.trans (ai.upd nl),s.free nl,ag,(by show 1<=1000; decide),ez⟩⟩
    .refine⟨a.NoWidths,false,rfl,T.iz.2,T.ij,aM ?_⟩
     refine⟨a.NoWidths,true,rfl,T.iz.2,T.gH,aZ ?_⟩
     exact fun NV x o=>⟨(by show 1<=sizeLine; decide),fun l nl=>⟨l,_,rfl,s.trans (ai.upd nl),s.free nl,ag,(by show 1<=1000; decide),ez⟩⟩
  rintro σ1 H1 ⟨l,xs,rfl,s1,nl,hl,hx,ha⟩
  exact⟨_,rfl,_,"list",true,rfl,.inl (.inl ⟨⟨_,NX.of hl⟩,.inl ⟨rfl,rfl⟩⟩),_,rfl,aM ⟨_,rfl,q l xs H1 nl s1 hl hx ha⟩⟩
theorem xN {n:Nat}(h:n<=2000):n < sizeLine:=Lp h (by decide)
theorem qg {h:Addr}{os:List Addr}{S:N3}{H:Hp}{Q:VK}{E:XK}(hQ:ON H h os S a.House) (q: ∀v H',ai H H'->((v= .non/\ ∃L,bX S=some L)\/(bX S=none/\ ∃(t p:Addr) (us:List V) (zs:List Str),v= .ref t/\H' t=some (.tup us)/\Ob us ((us.length:Int) - 1)=some (.ref p)/\H p=none/\H' p=some (.lst (zs.map V.str))/\zs.length<=1000/\ ∀z∈zs,z∈bg S))->Q v H'):Cy a [.ref h] H Q E:=by
 have g:=hQ.2.1
 have rk:=ix hQ.2.2.1
 have wn: ∀ {L i},bA S.ms.length (bB S.ms S.ds)=some L->MA.dM L (dJ S)=some i->bX S=none:=fun e e'=>by
  cases ew:bX S with
  | none=>rfl
  | some L' =>
   obtain⟨a,b⟩:=dA ew
   rw[a] at e; cases e; rw[b] at e'; cases e'
 refine⟨h,os,S,rfl,hQ,?_,?_,?_⟩
 .intro t p way H' eN hw hl nt np s hp ht
  refine q _ H' s (.inr ⟨?_,t,p,_,et S way,rfl,ht,rfl,np,hp,by unfold et; rw[Kj]; omega,sW g fun j hj=>by have:=hw.lt j hj; rw[eP] at this; exact this⟩)
  cases ew:bX S with
  | none=>rfl
  | some L'=>have:=(dA ew).1; rw[eN] at this; cases this
 .intro L eL H' s
  exact q _ H' s (.inl ⟨rfl,L,eL⟩)
 .intro L i t p ps H' eL ew hi hC nt np s hp ht
  exact q _ H' s (.inr ⟨wn eL ew,t,p,_,et S ps,rfl,ht,rfl,np,hp,by have:=hC.OW (MA.rA rk eL); have:=g.ml; unfold et; rw[Kj]; omega,sW g fun j hj=>by have:=hC.lt j hj; rw[eP] at this; exact this⟩)
def NL (H H':Hp) (l:Addr) (m:Nat) (vs:List V):Prop:= ∀v∈vs,∃(p:Addr) (zs:List V),v= .ref p/\p≠l/\H p=none/\H' p=some (.lst zs)/\zs.length<=m
theorem NL.turn {H H':Hp}{l p:Addr}{m:Nat}{vs zs:List V}{o:HO}(h:NL H H' l m vs) (sm:ai H H') (hl:H' l=some o) (pl:p≠l) (np:H p=none) (zl:zs.length<=m) (w:V):ai H (upd (upd H' p (.lst (zs++[w]))) p (.lst (zs++[w]).reverse))/\(upd (upd H' p (.lst (zs++[w]))) p (.lst (zs++[w]).reverse)) l=some o/\NL H (upd (upd H' p (.lst (zs++[w]))) p (.lst (zs++[w]).reverse)) l (m+1) vs:=by
 refine⟨(sm.cN np).cN np,(ao (KW pl)).trans ((ao (KW pl)).trans hl),fun v hv=>?_⟩
 obtain⟨q,ys,e,ql,nq,hq,yl⟩:=h v hv
 by_cases c:q=p
 .subst c
  refine⟨q,_,e,ql,nq,ag,?_⟩
  rw[List.length_reverse,Kr]
  exact NH zl
 .exact⟨q,ys,e,ql,nq,(ao c).trans ((ao c).trans hq),by omega⟩
theorem NL.same {H H' H'':Hp}{l:Addr}{m:Nat}{vs:List V}(h:NL H H' l m vs) (s: ∀b o,b≠l->H' b=some o->H'' b=some o):NL H H'' l m vs:=fun v hv=>by
 obtain⟨q,ys,e,ql,nq,hq,yl⟩:=h v hv
 exact⟨q,ys,e,ql,nq,s _ _ ql hq,yl⟩
def zq (a:Adr):Sp:=fun vs H Q _=> ∃(h ts:Addr) (os xs:List Addr) (n:Nat) (S:N3),vs=[.ref h,.ref ts]/\ON H h os S a.House/\LS xs n H ts S.ms S.ds/\ ∀H',ai H H'->Q .non H'
theorem zm (T:Txt K mg a):N8 P w K mg base 9 "_law_spoilt" ["_law_house","_law_state"] (zq a):=by
 have eS:=@qL P w K mg base a T
 have aR:=@bO P w K mg base a T
 have jQ:=@nK P w K mg base a T
 have n6:=@qU P w K mg base a T
 have gG:=@nF P w K mg base a T
 refine bf T.nM dH (fun _ _ _ _ _ _=>Oa fun _ _=>rfl) (fun vs H Q E h=>?_) fun f c A o s H vs Q E hr h=>?_
 .obtain⟨h,ts,os,xs,n,S,rfl,_⟩:=h
  rfl
 .obtain⟨h,ts,os,xs,n,S,rfl,hQ,ls,q⟩:=h
  refine⟨_,(ah (bP KL rfl (bC (aQ (aa (dq T.au.cl aR hr.z (pv 0)) (aa (dq T.au.cl jQ hr.z (pv 0)) (aa (dq T.au.cl n6 hr.z (pv 0)) ae))))) (aG (i:=2) dH.nd rfl (Or.inl rfl))
   (ah (aU (show PE _ _ (Oh K _ _ _ _) from cz Kw KR KS bS (pv 2) (aa aF ae)))
   (aj (aU (show PE _ _ (vx K _ _ _) from sI Kw PySem.F.slot_list_reverse PySem.F.type_list_reverse vk (pv 2))))))
   (ah (ax (i:=3) dH.nd rfl (Or.inl rfl) (dq T.au.cl gG hr.z (pv 0)))
   (dS (aK (aw fj (pv 3) bJ (aA _)) (aj (aU (show PE _ _ (Oh K _ _ _ _) from cz Kw KR KS bS (NZ K (pv 3) (ay jJ (cB K T.bK (aa (pv 3) ae)) af)) (aa aF ae)))) aD)
   (ah (ax (i:=4) dH.nd rfl (Or.inl rfl) (aQ ae))
   (ah (bP KL rfl (bC (ay eE (NZ K (pv 1) af) (aQ (aa aF ae)))) (aG (i:=5) dH.nd rfl (Or.inl rfl))
   (aj (ax (i:=4) dH.nd rfl (Or.inl rfl) (ay eE (pv 4) (aQ (aa (aJ eS hr.z (aa (pv 0) (aa af (aa (pv 5) ae)))) (aa (aJ eS hr.z (aa (pv 0) (aa af (aa (pv 5) ae)))) ae)))))))
   (ah (bP KL rfl (bC (ay eE (NZ K (pv 1) af) (aQ (aa (bM (aa aF (aa aF (aa bJ (aa af ae))))) ae)))) (aG (i:=6) dH.nd rfl (Or.inl rfl))
   (aj (aU (show PE _ _ (Oh K _ _ _ _) from cz Kw KR KS bS (pv 4) (aa (aJ eS hr.z (aa (pv 0) (aa af (aa (NZ K (pv 6) af) ae)))) ae)))))
   (ah (aU (show PE _ _ (Oh K _ _ _ _) from cz Kw KR KS bS (pv 4) (aa (aJ eS hr.z (aa (pv 0) (aa af (aa aF ae)))) ae)))
   (aj (bP KL rfl (bC (pv 4)) (aG (i:=2) dH.nd rfl (Or.inl rfl))
   (ah (aU (show PE _ _ (Oh K _ _ _ _) from cz Kw KR KS bS (pv 2) (aa af ae)))
   (aj (aU (show PE _ _ (vx K _ _ _) from sI Kw PySem.F.slot_list_reverse PySem.F.type_list_reverse vk (pv 2)))))))))))))),?_⟩
  obtain⟨hI,g,db,cp⟩:=id hQ
  have ml:=g.ml
  have dl:=g.dl
  have qs: ∀ {H'},ai H H'->ON H' h os S a.House:=fun s=>⟨hI.grow fun b o _ e=>s b o e,hQ.2⟩
  obtain⟨dx,p0,q0,r0,is,kv,eo,I⟩:=id hI
  refine⟨_,rfl,h,dx,_,rfl,I.ih,N6,h,os,S,rfl,hI,by omega,fun p1 H1 n1 s1 h1=>?_⟩
  obtain⟨dx,p0,q0,r0,is,kv,eo,I⟩:=id (qs s1).1
  refine⟨_,rfl,h,dx,_,rfl,I.ih,N6,h,os,S,rfl,(qs s1).1,fun p2 xs2 H2 n2' s2' h2 hF2=>?_⟩
  have s2:=s1.trans s2'
  obtain⟨dx,p0,q0,r0,is,kv,eo,I⟩:=id (qs s2).1
  refine⟨_,rfl,h,dx,_,rfl,I.ih,N6,h,os,S,rfl,(qs s2).1,by omega,fun p3 xs3 H3 n3' s3' h3 hF3=>?_⟩
  have s3:=s2.trans s3'
  have l2:=hF2.length
  have l3:=hF3.length
  have l3':(S.ms.filter (·.2.isSome)).length<=S.ms.length:=Ll ..
  refine⟨(by show 3<=sizeLine; decide),fun l nl=>⟨l,rfl,⟨_,NX.of ag⟩,?_⟩⟩
  have s4':=ai.upd (o:= .lst [.ref p1,.ref p2,.ref p3]) nl
  have hl:(upd H3 l (.lst [.ref p1,.ref p2,.ref p3])) l=some (.lst [.ref p1,.ref p2,.ref p3]):=ag
  generalize upd H3 l (.lst [.ref p1,.ref p2,.ref p3])=H4 at s4' hl
  have h13:=(s2'.trans s3') _ _ h1
  have h23:=s3' _ _ h2
  have nl0:NL H H4 l 1000 [.ref p1,.ref p2,.ref p3]:=fun v hv=>by
   simp only[Ks,K8,L8] at hv
   rcases hv with rfl | rfl | rfl
   .exact⟨p1,_,rfl,aB h13 nl,n1,s4' _ _ h13,by rw[Kj]; unfold aI; rw[Kj]; omega⟩
   .exact⟨p2,_,rfl,aB h23 nl,s1.free n2',s4' _ _ h23,by omega⟩
   .exact⟨p3,_,rfl,aB h3 nl,s2.free n3',s4' _ _ h3,by omega⟩
  have s4:=s3.trans s4'
  refine cK (xs:=[.ref p1,.ref p2,.ref p3]) (fun i σ' H'=> ∃v2:Option V,σ'=[some (.ref h),some (.ref ts),v2,none,none,none,none]/\ai H H'/\H' l=some (.lst [.ref p1,.ref p2,.ref p3])/\NL H H' l (1000+i) [.ref p1,.ref p2,.ref p3]) ⟨none,rfl,s4,hl,nl0⟩ (fun i σ' H' _ ⟨_,_,_,e,_⟩=>bq (NX.of e)) ?_ ?_
  .rintro i x σ' H' hi ⟨v2,rfl,sm,hl',nl'⟩
   have iL:=(Kv.mp hi).1
   have iL:i < 3:=iL
   obtain⟨p,zs,rfl,pl,np,hp,zl⟩:=nl' x (Kp hi)
   refine⟨_,rfl,.inl ⟨rfl,_,NX.of hp⟩,p,zs,_,rfl,rfl,hp,Lp zl (by show 1000+i < sizeLine; exact xN (by omega)),?_⟩
   refine⟨_,rfl,.inl ⟨rfl,_,NX.of ag⟩,p,_,rfl,rfl,ag,?_⟩
   obtain⟨a1,a2,a3⟩:=nl'.turn sm hl' pl np zl (.str "zz")
   exact⟨_,rfl,a1,a2,a3⟩
  rintro σ' H5 ⟨v2,rfl,s5,-,-⟩
  clear nl0 s4 s4' hl h13 h23 nl l3' l3 l2 s3 s3' s2 s2' s1 h1 h2 h3 hF2 hF3 n1 n2' n3'
  obtain⟨dx,p0,q0,r0,is,kv,eo,I⟩:=id (qs s5).1
  refine⟨_,rfl,h,dx,_,rfl,I.ih,N6,?_⟩
  dsimp only[oE,Ly]
  refine qg (qs s5) fun v3 H6 s6 hv=>?_
  have s6':=s5.trans s6
  dsimp only[aY,L2.start,List.set]
  refine⟨fun σ' H'=>σ'=[some (.ref h),some (.ref ts),v2,some v3,none,none,none]/\ai H H',?_,?_⟩
  .rcases hv with⟨rfl,_⟩ | ⟨_,t,p,us,zs,rfl,ht,hat,np,hp,hz,_⟩
   .exact⟨_,rfl,rfl,_,rfl,aM ⟨rfl,s6'⟩⟩
   .refine⟨_,rfl,rfl,_,rfl,aZ ?_⟩
    refine⟨_,rfl,_,rfl,_,_,rfl,.inr ⟨_,N1.of ht,rfl⟩,_,_,rfl,rfl,t,_,_,_,rfl,rfl,N1.of ht,hat,.inl ⟨rfl,_,NX.of hp⟩,p,_,_,rfl,rfl,hp,aH (by rw[Kj]; omega),?_⟩
    exact⟨rfl,s6'.cN (s5.free np)⟩
  rintro σ' H7 ⟨rfl,s7⟩
  clear s6 hv s6' s5
  refine⟨by decide,fun f0 nf0=>?_⟩
  have s8:=s7.trans (ai.upd (o:= .lst []) nf0)
  have hf0:(upd H7 f0 (.lst [])) f0=some (.lst []):=ag
  dsimp only[aY,L2.start,List.set]
  generalize upd H7 f0 (.lst [])=H8 at s8 hf0
  obtain⟨ln,la,dd,vs,kvs,l⟩:=id ls
  refine⟨_,rfl,ts,_,_,_,rfl,rfl,N1.of (s8 _ _ l.ht),rfl,(by show 1<=sizeLine; decide),fun lw nlw=>?_⟩
  have s9:=s8.trans (ai.upd (o:= .lst [.str "nobodyhere"]) nlw)
  have hlw:(upd H8 lw (.lst [.str "nobodyhere"])) lw=some (.lst [.str "nobodyhere"]):=ag
  have hf9:=(ai.upd (o:= .lst [.str "nobodyhere"]) nlw) _ _ hf0
  generalize upd H8 lw (.lst [.str "nobodyhere"])=H9 at s9 hlw hf9
  refine⟨ln,lw,_,_,rfl,rfl,s9 _ _ l.hn,hlw,KY (aH (by rw[Kj,Kj]; show S.ms.length+1<=1000; omega)),fun l2 nl2=>?_⟩
  have ext:((S.ms.map (·.1)).map V.str++[V.str "nobodyhere"]:List V)=(aI S++[("nobodyhere" : Str)]).map V.str:=by rw[KN]; rfl
  rw[ext]
  have s10':=ai.upd (o:= .lst ((aI S++[("nobodyhere" : Str)]).map V.str)) nl2
  have hl2:(upd H9 l2 (.lst ((aI S++[("nobodyhere" : Str)]).map V.str))) l2=_:=ag
  have hf10:=s10' _ _ hf9
  have s10:=s9.trans s10'
  generalize upd H9 l2 (.lst ((aI S++[("nobodyhere" : Str)]).map V.str))=H10 at s10 hl2 hf10
  generalize hus:aI S++[("nobodyhere" : Str)]=us at hl2
  have usl:us.length=S.ms.length+1:=by rw[<-hus,Kr]; unfold aI; rw[Kj]; rfl
  have nfH:=s7.free nf0
  clear s10' s9 hlw hf9 s8 hf0 nf0 nlw nl2 ext s7
  refine⟨l2,rfl,⟨_,NX.of hl2⟩,?_⟩
  refine cK (xs:=us.map V.str) (fun i σ' H'=> ∃(f:Addr) (fs:List V) (v5:Option V),σ'=[some (.ref h),some (.ref ts),v2,some v3,some (.ref f),v5,none]/\ai H10 H'/\H f=none/\H' f=some (.lst fs)/\fs.length=2*i/\NL H H' f 1000 fs) ⟨f0,[],none,rfl,ai.refl _,nfH,hf10,rfl,fun v hv=>by cases hv⟩ (fun i σ' H' _ ⟨_,_,_,_,s,_⟩=>bq (NX.of (s _ _ hl2))) ?_ ?_
  .rintro i x σ' H' hi ⟨f,fs,v5,rfl,sm,nf,hf,fl,nl'⟩
   have iL:=(Kv.mp hi).1
   rw[Kj] at iL
   obtain⟨y,rfl⟩: ∃y:Str,x=V.str y:=by
    rw[KD] at hi
    cases e:us[i]? with
    | none=>rw[e] at hi; cases hi
    | some y=>rw[e] at hi; exact⟨y,(KJ hi).symm⟩
   have sH:=s10.trans sm
   refine⟨_,rfl,_,rfl,_,rfl,h,os,S,0,y,rfl,qs sH,.inl rfl,fun p1 zs1 Ha np1 sa hp1 hl1 _=>⟨_,rfl,_,rfl,h,os,S,1,y,rfl,qs (sH.trans sa),.inr (.inl rfl),fun p2 zs2 Hb np2 sb hp2 hl2 _=>⟨(by show 2<=sizeLine; decide),fun lw nlw=>⟨f,lw,fs,[.ref p1,.ref p2],rfl,rfl,(sa.trans (sb.trans (ai.upd nlw))) _ _ hf,ag,KY (aH (by rw[fl]; show 2*i+2<=1000; omega)),fun f' nf'=>?_⟩⟩⟩⟩
   have sc:=(sa.trans sb).trans (ai.upd (o:= .lst [.ref p1,.ref p2]) nlw)
   have sd:=ai.upd (o:= .lst (fs++[.ref p1,.ref p2])) nf'
   have hp1c:=(sb.trans (ai.upd (o:= .lst [.ref p1,.ref p2]) nlw)) _ _ hp1
   have hp2c:=(ai.upd (o:= .lst [.ref p1,.ref p2]) nlw) _ _ hp2
   have hd:(upd (upd Hb lw (.lst [.ref p1,.ref p2])) f' (.lst (fs++[.ref p1,.ref p2]))) f'=some (.lst (fs++[.ref p1,.ref p2])):=ag
   refine⟨f',fs++[.ref p1,.ref p2],_,rfl,sm.trans (sc.trans sd),(sH.trans sc).free nf',hd,by rw[Kr,fl]; show 2*i+2=2*(i+1); omega,fun v hv=>?_⟩
   rcases Kz.mp hv with hv | hv
   .obtain⟨p,zs,e,_,np,hp,zl⟩:=nl' v hv
    exact⟨p,zs,e,aB (sc _ _ hp) nf',np,sd _ _ (sc _ _ hp),zl⟩
   .simp only[Ks,K8,L8] at hv
    rcases hv with rfl | rfl
    .exact⟨p1,zs1,rfl,aB hp1c nf',sH.free np1,sd _ _ hp1c,hl1⟩
    .exact⟨p2,zs2,rfl,aB hp2c nf',(sH.trans sa).free np2,sd _ _ hp2c,hl2⟩
  rintro σ' H11 ⟨f,fs,v5,rfl,s11',nf,hf,fl,nl1⟩
  rw[Kj,usl] at fl
  have s11:=s10.trans s11'
  clear s11' s10 hl2 usl hus hf10 nfH
  refine⟨_,rfl,ts,_,_,_,rfl,rfl,N1.of (s11 _ _ l.ht),rfl,(by show 4<=sizeLine; decide),fun tt ntt=>⟨(by show 1<=sizeLine; decide),fun lw nlw=>?_⟩⟩
  have sa:=ai.upd (o:= .tup [.str "nobodyhere",.str "",.non,.int 0]) ntt
  have htt:(upd H11 tt (.tup [.str "nobodyhere",.str "",.non,.int 0])) tt=some (.tup [.str "nobodyhere",.str "",.non,.int 0]):=ag
  generalize upd H11 tt (.tup [.str "nobodyhere",.str "",.non,.int 0])=H12 at nlw sa htt
  have sb:=ai.upd (o:= .lst [.ref tt]) nlw
  have hlw:(upd H12 lw (.lst [.ref tt])) lw=some (.lst [.ref tt]):=ag
  have vl:=l.ar.length
  refine⟨la,lw,_,_,rfl,rfl,(s11.trans (sa.trans sb)) _ _ l.ha,hlw,KY (aH (by show vs.length+1<=1000; omega)),fun l3 nl3=>?_⟩
  have sc:=(sa.trans sb).trans (ai.upd (o:= .lst (vs++[.ref tt])) nl3)
  have hl3:(upd (upd H12 lw (.lst [.ref tt])) l3 (.lst (vs++[.ref tt]))) l3=some (.lst (vs++[.ref tt])):=ag
  have l3f:l3≠f:=fun z=>by rw[z,(sa.trans sb) _ _ hf] at nl3; cases nl3
  have htt2:=(sb.trans (ai.upd (o:= .lst (vs++[.ref tt])) nl3)) _ _ htt
  generalize upd (upd H12 lw (.lst [.ref tt])) l3 (.lst (vs++[.ref tt]))=H13 at sc hl3 htt2
  clear nl3 nlw ntt sa sb hlw htt
  have s13:=s11.trans sc
  have nl13:NL H H13 f 1000 fs:=nl1.same fun b o _ e=>sc _ _ e
  have hf13:=sc _ _ hf
  have rows: ∀x∈vs++[.ref tt],∃(t:Addr) (y:Str) (us:List V),x= .ref t/\t≠f/\H13 t=some (.tup (.str y::us)):=fun x hx=>by
   rcases Kz.mp hx with hx | hx
   .obtain⟨i,hi⟩:=List.getElem?_of_mem hx
    obtain⟨d,hd,t,rfl,_,ht⟩:=l.ar.get hi
    exact⟨t,_,_,rfl,(fun z=>by rw[z,nf] at ht; cases ht),s13 _ _ ht⟩
   .rw[Km.mp hx]
    exact⟨tt,_,_,rfl,(fun z=>by rw[z,hf13] at htt2; cases htt2),htt2⟩
  refine⟨l3,rfl,⟨_,NX.of hl3⟩,?_⟩
  refine cK (xs:=vs++[.ref tt]) (fun i σ' H'=> ∃(gs:List V) (v6:Option V),σ'=[some (.ref h),some (.ref ts),v2,some v3,some (.ref f),v5,v6]/\ai H H'/\(∀b o,b≠f->H13 b=some o->H' b=some o)/\H' f=some (.lst gs)/\gs.length<=26+i/\NL H H' f 1000 gs) ⟨fs,_,rfl,s13,fun b o _ e=>e,hf13,by omega,nl13⟩ (fun i σ' H' _ ⟨_,_,_,_,k,_⟩=>bq (NX.of (k _ _ l3f hl3))) ?_ ?_
  .rintro i x σ' H' hi ⟨gs,v6,rfl,sm,kp,hf',gl,nl'⟩
   have iL:=(Kv.mp hi).1
   rw[Kr] at iL
   have iL:i < vs.length+1:=iL
   obtain⟨t,y,us',rfl,tf,ht⟩:=rows x (Kp hi)
   refine⟨_,rfl,.inl ⟨rfl,_,NX.of hf'⟩,_,rfl,_,rfl,t,_,_,_,rfl,rfl,N1.of (kp _ _ tf ht),(show Ob _ ((0:Nat):Int)=_ from cm rfl),h,os,S,2,y,rfl,qs sm,.inr (.inr (.inl rfl)),fun p zs Ha np sa hp hl _=>⟨f,gs,_,rfl,rfl,sa _ _ hf',aH (by omega),?_⟩⟩
   have pf:p≠f:=fun z=>by rw[z,hf'] at np; cases np
   refine⟨gs++[.ref p],_,rfl,(sm.trans sa).cN nf,fun b o nb e=>(ao nb).trans (sa _ _ (kp b o nb e)),ag,by rw[Kr]; show gs.length+1<=26+(i+1); omega,fun v hv=>?_⟩
   rcases Kz.mp hv with hv | hv
   .obtain⟨p',zs',e,pl,np',hp',zl⟩:=nl' v hv
    exact⟨p',zs',e,pl,np',(ao pl).trans (sa _ _ hp'),zl⟩
   .rw[Km.mp hv]
    exact⟨p,zs,rfl,pf,sm.free np,(ao pf).trans hp,hl⟩
  rintro σ' H14 ⟨gs,v6,rfl,sm,-,hf',gl,nl'⟩
  rw[Kr,vl] at gl
  have gl:gs.length<=26+(S.ds.length+1):=gl
  refine⟨_,rfl,.inl ⟨rfl,_,NX.of hf'⟩,_,rfl,h,os,S,3,"",rfl,qs sm,.inr (.inr (.inr rfl)),fun p zs Ha np sa hp hl _=>⟨f,gs,_,rfl,rfl,sa _ _ hf',aH (by omega),?_⟩⟩
  have pf:p≠f:=fun z=>by rw[z,hf'] at np; cases np
  have nlB:NL H (upd Ha f (.lst (gs++[.ref p]))) f 1000 (gs++[.ref p]):=fun v hv=>by
   rcases Kz.mp hv with hv | hv
   .obtain⟨p',zs',e,pl,np',hp',zl⟩:=nl' v hv
    exact⟨p',zs',e,pl,np',(ao pl).trans (sa _ _ hp'),zl⟩
   .rw[Km.mp hv]
    exact⟨p,zs,rfl,pf,sm.free np,(ao pf).trans hp,hl⟩
  refine⟨_,rfl,f,rfl,⟨_,NX.of ag⟩,?_⟩
  refine cK (xs:=gs++[.ref p]) (fun i σ' H'=> ∃(v2:Option V),σ'=[some (.ref h),some (.ref ts),v2,some v3,some (.ref f),v5,v6]/\ai H H'/\H' f=some (.lst (gs++[.ref p]))/\NL H H' f (1000+i) (gs++[.ref p])) ⟨v2,rfl,(sm.trans sa).cN nf,ag,nlB⟩ (fun i σ' H' _ ⟨_,_,_,e,_⟩=>bq (NX.of e)) ?_ ?_
  .rintro i x σ' H' hi ⟨v2,rfl,sm,hl',nl'⟩
   have iL:=(Kv.mp hi).1
   rw[Kr] at iL
   have iL:i < gs.length+1:=iL
   obtain⟨p,zs,rfl,pl,np,hp,zl⟩:=nl' x (Kp hi)
   refine⟨_,rfl,.inl ⟨rfl,_,NX.of hp⟩,p,zs,_,rfl,rfl,hp,Lp zl (xN (by omega)),?_⟩
   refine⟨_,rfl,.inl ⟨rfl,_,NX.of ag⟩,p,_,rfl,rfl,ag,?_⟩
   obtain⟨a1,a2,a3⟩:=nl'.turn sm hl' pl np zl (.int 7)
   exact⟨_,rfl,a1,a2,a3⟩
  rintro σ' H15 ⟨v2',rfl,sm',-,-⟩
  exact q _ sm'
theorem E9 {L:List Int}{s:Str}:kY (L.map V.int) [V.str s]=false:=by
 match L with
 | []=>rfl
 | [x]=>rfl
 | x::y::r =>
  unfold kY
  rw[show ((List.map V.int (x::y::r)).length == ([V.str s]:List V).length)=false from by simp,Bool.and_false]
def vb (a:Adr):Sp:=fun vs H Q _=> ∃(h ts:Addr) (os xs:List Addr) (n:Nat) (S:N3),vs=[.ref h,.ref ts]/\ON H h os S a.House/\LS xs n H ts S.ms S.ds/\ ∀H',ai H H'->Q (.bl true) H'
theorem Ao (T:Txt K mg a):N8 P w K mg base 9 "_law_clean" ["_law_house","_law_state"] (vb a):=by
 have eS:=@qL P w K mg base a T
 have gG:=@nF P w K mg base a T
 refine bf T.oJ iw (fun _ _ _ _ _ _=>Oa fun _ _=>rfl) (fun vs H Q E h=>?_) fun f c A o s H vs Q E hr h=>?_
 .obtain⟨h,ts,os,xs,n,S,rfl,_⟩:=h
  rfl
 .obtain⟨h,ts,os,xs,n,S,rfl,hQ,ls,q⟩:=h
  obtain⟨hI,g,db,cp⟩:=id hQ
  have ml:=g.ml
  have dl:=g.dl
  have qs: ∀ {H'},ai H H'->ON H' h os S a.House:=fun s=>⟨hI.grow fun b o _ e=>s b o e,hQ.2⟩
  refine⟨_,(ah (ax (i:=2) iw.nd rfl (Or.inr rfl) (ay eE (cM (psc:=aq gF) (own:=["_law_row"]) (frn:=[]) (fr:=[]) (by exact⟨rfl,by trivial,by trivial,by trivial,by trivial,by trivial⟩) rfl rfl rfl (bG (by decide:0 < 1)) (bC (NZ K (pv 1) af))
    (fun C s2 H2 fp=>⟨(aG (i:=0) (show (["_law_row"]:List Str).Nodup by trivial) rfl (Or.inl rfl)),dD,(NZ K (pv 0) af)⟩)) (aQ (aa aF ae))))
   (ah (mU (i:=3) iw.nd rfl (Or.inl rfl) (psc:=aq gF) (own:=["_law_name"]) (frn:=["_law_house"]) (fr:=[0]) (by exact⟨rfl,by trivial,by trivial,by trivial,by trivial,by trivial⟩) rfl rfl rfl (bG (by decide:0 < 1)) (bC (NZ K (pv 1) af))
    (fun C s2 H2 fp=>⟨(aG (i:=0) (show (["_law_name","_law_house"]:List Str).Nodup by trivial) rfl (Or.inl rfl)),dD,(aJ eS hr.z (aa (pv 1) (aa af (aa (pv 0) ae))))⟩))
   (ah (ax (i:=4) iw.nd rfl (Or.inl rfl) (dq T.au.cl gG hr.z (pv 0)))
   (dS (aK (aw fj (pv 4) bJ (aA _)) (aj (aU (show PE _ _ (Oh K _ _ _ _) from cz Kw KR KS bS (pv 3) (aa (NZ K (pv 4) (ay jJ (cB K T.bK (aa (pv 4) ae)) af)) ae)))) aD)
   (ah (bP KL rfl (bC (pv 3)) (aG (i:=5) iw.nd rfl (Or.inl rfl))
   (aj (aK (aw (show N7 _ _ (DX K) from Cc (df hr)) (cM (psc:=aq gF) (own:=["_law_call"]) (frn:=["_law_calls"]) (fr:=[2]) (by exact⟨rfl,by trivial,by trivial,by trivial,by trivial,by trivial⟩) rfl rfl rfl (bG (by decide:0 < 1)) (bC (pv 5))
    (fun C s2 H2 fp=>⟨(aG (i:=0) (show (["_law_call","_law_calls"]:List Str).Nodup by trivial) rfl (Or.inl rfl)),(iA (aw (show N7 _ _ (OH K true) from ip) (pv 0) (pv 1) (by with_unfolding_all rfl))),(pv 0)⟩)) (aQ ae) (aA _)) (aj (az eB)) aD)))
   (aj (az eB))))))),?_⟩
  obtain⟨ln,la,dd,vs,kvs,l⟩:=id ls
  refine⟨_,rfl,ts,_,_,_,rfl,rfl,N1.of l.ht,rfl,la,rfl,⟨_,NX.of l.ha⟩,fJ (fun d=>V.str d.1) (fun d=>rfl) (bq (NX.of l.ha)) l.ar (by omega) fun p1 np1=>⟨(by show 1<=sizeLine; decide),fun lw nlw=>⟨p1,lw,_,_,rfl,rfl,(ai.upd nlw) _ _ ag,ag,KY (aH (by rw[Kj]; show S.ds.length+1<=1000; omega)),fun pc npc=>?_⟩⟩⟩
  have ec:(S.ds.map (fun d=>V.str d.1)++[V.str "no widths"]:List V)=(bg S++[("no widths" : Str)]).map V.str:=by
   rw[KN]
   unfold bg
   rw[L1]
   rfl
  rw[ec]
  have s1:=((ai.upd (o:= .lst (S.ds.map fun d=>V.str d.1)) np1).trans (ai.upd (o:= .lst [V.str "no widths"]) nlw)).trans (ai.upd (o:= .lst ((bg S++[("no widths" : Str)]).map V.str)) npc)
  have hpc:(upd (upd (upd H p1 (.lst (S.ds.map fun d=>V.str d.1))) lw (.lst [V.str "no widths"])) pc (.lst ((bg S++[("no widths" : Str)]).map V.str))) pc=some (.lst ((bg S++[("no widths" : Str)]).map V.str)):=ag
  dsimp only[aY,L2.start,List.set]
  generalize upd (upd (upd H p1 (.lst (S.ds.map fun d=>V.str d.1))) lw (.lst [V.str "no widths"])) pc (.lst ((bg S++[("no widths" : Str)]).map V.str))=H1 at s1 hpc
  clear npc nlw np1 ec
  refine⟨_,rfl,ts,_,_,_,rfl,rfl,N1.of (s1 _ _ l.ht),rfl,ln,rfl,⟨_,NX.of (s1 _ _ l.hn)⟩,?_⟩
  refine b8 (xs:=(aI S).map V.str) (fun i ys H'=>ai H1 H'/\ys.length<=i/\ ∀v∈ys,∃(p:Addr) (zs:List Str),v= .ref p/\H' p=some (.lst (zs.map V.str))/\zs.length<=1000/\ ∀z∈zs,z∈bg S\/z= "no widths") (fun i ys H' _ h=>bq (NX.of ((s1.trans h.1) _ _ l.hn))) ⟨ai.refl H1,Kn _,fun v hv=>by cases hv⟩ (aH (by rw[Kj]; unfold aI; rw[Kj]; omega)) (fun i ys H' h=>h.2.1) ?_ ?_
  .rintro i ys H3 x hi ⟨sm,hyl,hY⟩
   obtain⟨y,hy,rfl⟩: ∃y:Str,y∈aI S/\x=V.str y:=by
    rw[KD] at hi
    cases e:(aI S)[i]? with
    | none=>rw[e] at hi; cases hi
    | some y=>rw[e] at hi; exact⟨y,Kp e,(KJ hi).symm⟩
   dsimp only[gN,reduceIte]
   refine⟨_,rfl,_,rfl,h,os,S,0,y,rfl,qs (s1.trans sm),.inl rfl,fun p zs Ha np sa hp hl hA=>?_⟩
   obtain⟨ws,rfl,hw⟩:=hA.1 rfl hy
   refine⟨sm.trans sa,by rw[Kr]; exact NH hyl,fun v hv=>?_⟩
   rcases Kz.mp hv with hv | hv
   .obtain⟨p',zs',e,hp',r⟩:=hY v hv
    exact⟨p',zs',e,sa _ _ hp',r⟩
   .rw[Km.mp hv]
    rw[Kj] at hl
    exact⟨p,ws,rfl,hp,hl,hw⟩
  rintro ys H3 p2 ⟨s3',hyl,hY⟩ np2
  rw[Kj] at hyl
  have hyl:ys.length<=12:=KP hyl (by unfold aI; rw[Kj]; omega)
  have s4':=s3'.trans (ai.upd (o:= .lst ys) np2)
  have s4:=s1.trans s4'
  have hp2:(upd H3 p2 (.lst ys)) p2=some (.lst ys):=ag
  have hpc4:=s4' _ _ hpc
  have n2H:=(s1.trans s3').free np2
  have hY4: ∀v∈ys,∃(p:Addr) (zs:List Str),v= .ref p/\p≠p2/\(upd H3 p2 (.lst ys)) p=some (.lst (zs.map V.str))/\zs.length<=1000/\ ∀z∈zs,z∈bg S\/z= "no widths" := fun v hv=>by
   obtain⟨p,zs,e,hp,r⟩:=hY v hv
   exact⟨p,zs,e,aB hp np2,(ao (aB hp np2)).trans hp,r⟩
  have pcn:pc≠p2:=aB (s3' _ _ hpc) np2
  dsimp only[aY,L2.start,List.set]
  generalize upd H3 p2 (.lst ys)=H4 at s4 s4' hp2 hpc4 hY4
  clear hY np2 s3' s1 hpc s4'
  obtain⟨dx,p0,q0,r0,is,kv,eo,I⟩:=id (qs s4).1
  refine⟨_,rfl,h,dx,_,rfl,I.ih,N6,?_⟩
  dsimp only[oE,Ly]
  refine qg (qs s4) fun v3 H6 s6 hv=>?_
  dsimp only[aY,L2.start,List.set]
  refine⟨fun σ' H'=> ∃ys',σ'=[some (.ref h),some (.ref ts),some (.ref pc),some (.ref p2),some v3,none]/\ai H H'/\H' pc=some (.lst ((bg S++[("no widths" : Str)]).map V.str))/\H' p2=some (.lst ys')/\ ∀v∈ys',∃(p:Addr) (zs:List Str),v= .ref p/\H' p=some (.lst (zs.map V.str))/\zs.length<=1000/\ ∀z∈zs,z∈bg S\/z= "no widths",?_,?_⟩
  .rcases hv with⟨rfl,_⟩ | ⟨_,t,p,us,zs,rfl,ht,hat,np,hp,hz,hm⟩
   .refine⟨_,rfl,rfl,_,rfl,aM ⟨ys,rfl,s4.trans s6,s6 _ _ hpc4,s6 _ _ hp2,fun v hv=>?_⟩⟩
    obtain⟨p,zs,e,_,hp,r⟩:=hY4 v hv
    exact⟨p,zs,e,s6 _ _ hp,r⟩
   .refine⟨_,rfl,rfl,_,rfl,aZ ?_⟩
    refine⟨_,rfl,.inl ⟨rfl,_,NX.of (s6 _ _ hp2)⟩,_,rfl,_,rfl,_,_,rfl,.inr ⟨_,N1.of ht,rfl⟩,_,_,rfl,rfl,t,_,_,_,rfl,rfl,N1.of ht,hat,p2,_,_,rfl,rfl,s6 _ _ hp2,aH (by omega),?_⟩
    have pp:p≠p2:=fun z=>by rw[z,hp2] at np; cases np
    refine⟨ys++[.ref p],rfl,(s4.trans s6).cN n2H,(ao pcn).trans (s6 _ _ hpc4),ag,fun v hv=>?_⟩
    rcases Kz.mp hv with hv | hv
    .obtain⟨p',zs',e,n',hp',r⟩:=hY4 v hv
     exact⟨p',zs',e,(ao n').trans (s6 _ _ hp'),r⟩
    .rw[Km.mp hv]
     exact⟨p,zs,rfl,(ao pp).trans hp,hz,fun z hz'=> .inl (hm z hz')⟩
  rintro σ' H7 ⟨ys',rfl,s7,hpc7,hp7,hY7⟩
  refine⟨_,rfl,p2,rfl,⟨_,NX.of hp7⟩,?_⟩
  refine cK (xs:=ys') (fun i σ' H'=> ∃(v5:Option V),σ'=[some (.ref h),some (.ref ts),some (.ref pc),some (.ref p2),some v3,v5]/\ai H7 H') ⟨none,rfl,ai.refl _⟩ (fun i σ' H' _ ⟨_,_,s⟩=>bq (NX.of (s _ _ hp7))) ?_ ?_
  .rintro i x σ' H' hi ⟨v5,rfl,sm⟩
   obtain⟨p,zs,rfl,hp,hl,hz⟩:=hY7 x (Kp hi)
   have hp':=sm _ _ hp
   refine⟨_,rfl,p,rfl,⟨_,NX.of hp'⟩,?_⟩
   refine b8 (xs:=zs.map V.str) (fun i ys H2=>H2=H'/\ys=[]) (fun i ys H2 _ h=>by rw[h.1]; exact bq (NX.of hp')) ⟨rfl,rfl⟩ (aH (by rw[Kj]; exact hl)) (fun i ys H2 h=>by rw[h.2]; exact Ln _) ?_ ?_
   .rintro i ys H2 x hi2 ⟨rfl,rfl⟩
    obtain⟨z,hz2,rfl⟩: ∃z:Str,z∈zs/\x=V.str z:=by
     rw[KD] at hi2
     cases e:zs[i]? with
     | none=>rw[e] at hi2; cases hi2
     | some y=>rw[e] at hi2; exact⟨y,Kp e,(KJ hi2).symm⟩
    refine⟨_,rfl,_,rfl,pc,_,rfl,.inl (NX.of (sm _ _ hpc7)),rfl,ck _,_,rfl,?_⟩
    show if (!Of (V.str z) ((bg S++[("no widths" : Str)]).map V.str))=true then _ else _
    rw[cX,KI (by
     rcases hz z hz2 with k | k
     .exact Lj _ k
     .rw[k]; exact K0 _ (List.mem_singleton_self _))]
    exact aM ⟨rfl,rfl⟩
   .rintro ys H2 p5 ⟨rfl,rfl⟩ np5
    have s8:=ai.upd (o:= .lst []) np5
    refine⟨by decide,fun u nu=>⟨p5,u,[],rfl,rfl,NX.of ((ai.upd nu) _ _ ag),NX.of ag,_,rfl,aM ?_⟩⟩
    exact⟨_,rfl,sm.trans (s8.trans (ai.upd nu))⟩
  rintro σ' H8 ⟨v5,rfl,s8⟩
  exact q _ (s7.trans s8)
theorem AO (T:Txt K mg a):N8 P w K mg base 9 "_law_widths_same" ["_law_house","_law_state"] (vb a):=by
 have eS:=@qL P w K mg base a T
 have gG:=@nF P w K mg base a T
 have yO:=@BO P w K mg base a T
 have y9:=@BB P w K mg base a T
 have iZ:=@t9 P w K mg base a T
 refine bf T.iW fz (fun _ _ _ _ _ _=>Oa fun _ _=>rfl) (fun vs H Q E h=>?_) fun f c A o s H vs Q E hr h=>?_
 .obtain⟨h,ts,os,xs,n,S,rfl,_⟩:=h
  rfl
 .obtain⟨h,ts,os,xs,n,S,rfl,hQ,ls,q⟩:=h
  obtain⟨hI,g,db,cp⟩:=id hQ
  have ml:=g.ml
  have dl:=g.dl
  have qs: ∀ {H'},ai H H'->ON H' h os S a.House:=fun s=>⟨hI.grow fun b o _ e=>s b o e,hQ.2⟩
  refine⟨_,(ah (ax (i:=2) fz.nd rfl (Or.inl rfl) (aJ eS hr.z (aa (pv 0) (aa af (aa aF ae)))))
   (ah (ax (i:=3) fz.nd rfl (Or.inl rfl) (aJ yO hr.z (aa (cB K T.bK (aa (NZ K (pv 1) af) ae)) (aa (aJ y9 hr.z (aa (pv 1) ae)) ae))))
   (ah (aK (aw (show N7 _ _ (GQ K) from Hi (df hr)) (pv 2) (aQ (aa aF ae)) (aA _)) (aj (az (dX fj (dq T.au.cl gG hr.z (pv 0)) bJ (aA _)))) aD)
   (ah (bP KL rfl (b6 rfl T.cE (aa (cB K T.bK (aa (pv 3) ae)) ae)) (aG (i:=4) fz.nd rfl (Or.inl rfl))
   (aj (aK (PW.pt (ff (aw gP (cB K T.bK (aa (pv 2) ae)) (cB K T.bK (aa (pv 3) ae)) (aA _)) (ff (cS (ba (aJ iZ hr.z (aa (N2 K (pv 2) (pv 4)) ae)) (fun _=>rfl))) (eV (aw gP (N2 K (pv 2) (pv 4)) (N2 K (pv 3) (pv 4)) (aA _)))))) (aj (az eB)) aD)))
   (aj (az (dX lL (dq T.au.cl gG hr.z (pv 0)) bJ (aA _)))))))),?_⟩
  refine⟨_,rfl,h,os,S,3,"",rfl,hQ,.inr (.inr (.inr rfl)),fun pf zs H1 npf s1 hpf hl hA=>?_⟩
  have hA:=hA.2 rfl
  dsimp only[aY,L2.start,List.set]
  obtain⟨ln,la,dd,vs,kvs,l⟩:=id ls
  have rk:=ix db
  refine⟨_,rfl,ts,_,_,_,rfl,rfl,N1.of (s1 _ _ l.ht),rfl,_,_,rfl,.inl ⟨_,NX.of (s1 _ _ l.hn),rfl⟩,_,rfl,ts,_,_,S.ms,S.ds,rfl,ls.same s1,db,by omega,fun pr H2 npr s2 hR=>⟨S.ms.length,pr,_,by rw[Kj,Kj]; rfl,by omega,hR.O5,rk,fun pd H3 npd s3 hpd=>?_⟩⟩
  dsimp only[aY,List.set]
  refine⟨_,rfl,(by show 1<=sizeLine; decide),fun u nu=>?_⟩
  have su:=ai.upd (o:= .lst [.str "no widths"]) nu
  have s4:=((s1.trans s2).trans s3).trans su
  have hpf4:=((s2.trans s3).trans su) _ _ hpf
  have hpd4:=su _ _ hpd
  have hu:(upd H3 u (.lst [.str "no widths"])) u=some (.lst [.str "no widths"]):=ag
  generalize upd H3 u (.lst [.str "no widths"])=H4 at su s4 hpf4 hpd4 hu
  have qw: ∀ {H'},ai H H'-> ∃dx p q r is kv,Od a.House H' h dx p q r is kv S:=fun s=>by
   obtain⟨dx,p0,q0,r0,is,kv,eo,I⟩:=id (qs s).1
   exact⟨_,_,_,_,_,_,I⟩
  rcases hA with⟨eN,rfl⟩ | ⟨L,eL,rfl⟩
  .refine⟨pf,u,_,_,rfl,rfl,NX.of hpf4,NX.of hu,rfl,rfl,_,rfl,?_⟩
   rw[rR (xs:=[V.str "no widths"]) rfl]
   obtain⟨dx,p0,q0,r0,is,kv,I⟩:=qw s4
   refine aZ ⟨_,rfl,h,dx,_,rfl,I.ih,N6,?_⟩
   dsimp only[oE,Ly]
   refine qg (qs s4) fun v H5 s5 hv=>?_
   rcases hv with⟨_,L,eL⟩ | ⟨_,t,p,us,zs,rfl,_⟩
   .rw[eN] at eL; cases eL
   .exact⟨rfl,q _ (s4.trans s5)⟩
  .refine⟨pf,u,_,_,rfl,rfl,NX.of hpf4,NX.of hu,wq _,rfl,_,rfl,?_⟩
   rw[E9]
   rw[MA.CC rk (dA eL).1] at hpd4
   have wl:L.length=S.ms.length:=ly rk (dA eL).1
   refine aM ⟨_,rfl,_,_,rfl,.inl ⟨_,NX.of hpd4,rfl⟩,_,rfl,by omega,by rw[Kj]; omega,?_⟩
   rw[KO,Kj]
   refine cK (xs:=cw 0 L.length) (fun i σ' H'=> ∃v:Option V,σ'=[some (.ref h),some (.ref ts),some (.ref pf),some (.ref pd),v]/\H'=H4) ⟨none,rfl,rfl⟩ (fun i σ' H' _ _=>cG) ?_ ?_
   .rintro i x σ' H' hi ⟨v,rfl,rfl⟩
    obtain⟨il,rfl⟩:=cj hi
    refine⟨_,rfl,_,_,rfl,.inl ⟨_,NX.of hpf4,rfl⟩,_,rfl,_,_,rfl,.inl ⟨_,NX.of hpd4,rfl⟩,rfl,_,rfl,?_⟩
    rw[show (!decide (V.int ((L.map V.int).length:Nat)=V.int ((L.map V.int).length:Nat)))=false from by simp]
    refine aM ⟨_,rfl,_,rfl,pf,_,_,_,rfl,rfl,NX.of hpf4,fv (by omega) (by omega),_,rfl,⟨true,false,.inl ⟨rfl,rfl⟩,.inr ⟨by decide,rfl⟩,rfl⟩,_,rfl,aM ?_⟩
    refine⟨_,rfl,_,rfl,pf,_,_,_,rfl,rfl,NX.of hpf4,fv (by omega) (by omega),_,rfl,_,rfl,pd,_,_,_,rfl,rfl,NX.of hpd4,fv (by omega) (by omega),rfl,_,rfl,?_⟩
    rw[show (!decide (V.int (MA.g L (0+(i:Nat)))=V.int (MA.g L (0+(i:Nat)))))=false from by simp]
    exact aM ⟨_,rfl,rfl⟩
   rintro σ' H5 ⟨v,rfl,rfl⟩
   obtain⟨dx,p0,q0,r0,is,kv,I⟩:=qw s4
   refine⟨_,rfl,h,dx,_,rfl,I.ih,N6,?_⟩
   dsimp only[oE,Ly]
   refine qg (qs s4) fun v H5 s5 hv=>?_
   rcases hv with⟨rfl,_⟩ | ⟨eN,_⟩
   .exact⟨rfl,q _ (s4.trans s5)⟩
   .rw[eN] at eL; cases eL
theorem yn:Gd ⟨[],[],[]⟩:=⟨⟨Ln _,Ln _,MH,MH,fun y hy=>(by cases hy),fun y hy=>(by cases hy)⟩,fun k hk=>(by cases hk),fun _=>⟨rfl,rfl⟩,fun k hk=>(by cases hk)⟩
theorem C5 (T:Txt K mg a):GI P w K mg base 4 a.House "House" ["self"] (xM a.House):=Il T.au.mg T.au.mks T.au.kp ((wN T).mono (by decide))
theorem Wd.qs {C h pl ts:Addr}{n:Nat}{H:Hp}{os:List Addr}{S:N3}(w:L2.Wd C n H h os pl ts S) (b:GB S):ON H h os S C:=⟨w.it,w.gd.now,b.now,b.cap⟩
theorem Gq (T:Txt K mg a):N8 P w K mg base 10 "law" ["_law_script"] (Cq K):=by
 have FE:=@C5 P w K mg base a T
 have B3:=@Gp P w K mg base a T
 have An:=@E6 P w K mg base a T
 have qA:=@zR P w K mg base a T
 have sv:=@BM P w K mg base a T
 have yF:=@zm P w K mg base a T
 have zk:=@Ao P w K mg base a T
 have mG:=@AO P w K mg base a T
 refine bf T.xf lM (fun _ _ _ _ _ _=>Ov fun _=>rfl) (fun vs H Q E h=>?_) fun f c A o s H vs Q E hr h=>?_
 .obtain⟨sa,ns,rfl,_⟩:=h
  rfl
 .obtain⟨sa,ns,rfl,hS,hlen,q⟩:=h
  refine⟨_,(ah (ax (i:=1) lM.nd rfl (Or.inl rfl) (BA FE hr.z))
   (ah (ax (i:=2) lM.nd rfl (Or.inl rfl) (bM (aa (aQ ae) (aa (aQ ae) (aa uu ae)))))
   (ah (ax (i:=3) lM.nd rfl (Or.inl rfl) (aQ ae))
   (ah (ax (i:=4) lM.nd rfl (Or.inl rfl) (aJ B3 hr.z (aa (pv 0) (aa af ae))))
   (ah (bP KL rfl (b6 rfl T.cE (aa (cB K T.bK (aa (pv 4) ae)) ae)) (aG (i:=5) lM.nd rfl (Or.inl rfl))
   (ah (ax (i:=2) lM.nd rfl (Or.inl rfl) (aJ An hr.z (aa (pv 1) (aa (pv 2) (aa (pv 3) (aa (N2 K (pv 4) (pv 5)) ae))))))
   (ah (aK (aw lL (pv 2) bJ (aA _)) (aj (az eB)) aD)
   (aj (aK (PW.pt (ff (aw bh (pv 5) (ay bR (cB K T.bK (aa (pv 4) ae)) af) (aA _)) (eV (aw bh (pv 5) (ay jJ (cB K T.bK (aa (pv 4) ae)) af) (aA _))))) (ah (aU (aJ yF hr.z (aa (pv 1) (aa (pv 2) ae))))
   (ah (aK (PW.pt (ff (cS (ba (aJ sv hr.z (aa (pv 1) (aa (pv 2) ae))) (fun _=>rfl))) (eV (cS (ba (aJ mG hr.z (aa (pv 1) (aa (pv 2) ae))) (fun _=>rfl)))))) (aj (az eB)) aD)
   (aj (aK (cS (ba (aJ zk hr.z (aa (pv 1) (aa (pv 2) ae))) (fun _=>rfl))) (aj (az eB)) aD)))) aD)))))
   (ah (qb KL (aw (show N7 _ _ (DX K) from Cc (df hr)) (pv 3) (aQ ae) (aA _)) (ah (aK (aw gP (aJ qA hr.z (aa (pv 1) (aa (bM (aa aF ae)) ae))) aF (aA _)) (aj (az eB)) aD)
   (aj (ax (i:=2) lM.nd rfl (Or.inl rfl) (show PE _ _ (vx K _ _ _) from sI Kw Mj Ml yJ (pv 3))))))
   (aj (az (nY (sP (aJ sv hr.z (aa (pv 1) (aa (bM (aa (aQ ae) (aa (aQ ae) (aa uu ae)))) ae))) (rH (aJ mG hr.z (aa (pv 1) (aa (bM (aa (aQ ae) (aa (aQ ae) (aa uu ae)))) ae)))))))))))))),?_⟩
  refine fun h dx nh ndx hdx=>⟨h,dx,rfl,ag,(ao hdx).trans ag,fun os0 H1 hs hI hos=>⟨rfl,?_⟩⟩
  have s1:ai H H1:=fun b o e=>by
   have b1:b≠h:=fun z=>by rw[z,nh] at e; cases e
   have b2:b≠dx:=fun z=>by rw[z,ndx] at e; cases e
   exact hs b o b1 b2 (((ao b1).trans (ao b2)).trans e)
  dsimp only[aY,L2.start,List.set]
  refine⟨by decide,fun l1 n1=>⟨by decide,fun l2 n2=>fun d n3=>⟨(by show 3<=sizeLine; decide),fun ts n4=>?_⟩⟩⟩
  obtain⟨s2,mk⟩:=x8 (us:=[]) n1 n2 n3 n4
  have s2:ai H1 (upd (upd (upd (upd H1 l1 (.lst [])) l2 (.lst [])) d (.dK [])) ts (.tup [.ref l1,.ref l2,.ref d])):=s2
  have mk2: ∀xs,(∀b∈xs,∃o,H1 b=some o)->LS xs 0 (upd (upd (upd (upd H1 l1 (.lst [])) l2 (.lst [])) d (.dK [])) ts (.tup [.ref l1,.ref l2,.ref d])) ts [] []:=fun xs hx=>mk xs [] hx rfl fun m=>rfl
  clear mk n2 n3 n4
  generalize upd (upd (upd (upd H1 l1 (.lst [])) l2 (.lst [])) d (.dK [])) ts (.tup [.ref l1,.ref l2,.ref d])=H2 at s2 mk2
  refine⟨by decide,fun pl npl=>?_⟩
  have s3:=ai.upd (o:= .lst []) npl
  have hpl:(upd H2 pl (.lst [])) pl=some (.lst []):=ag
  generalize hH3:upd H2 pl (.lst [])=H3 at s3 hpl
  have s13:=s2.trans s3
  have hI3:HI a.House H3 h os0 ⟨[],[],[]⟩:=hI.grow fun b o _ e=>s13 _ _ e
  have po:pl∉os0:=fun z=>by obtain⟨o,e⟩:=hI.has pl z; rw[s2 _ _ e] at npl; cases npl
  have ls3:LS (pl::os0) 0 H3 ts [] []:=(mk2 os0 hI.has).mono (fun b o nb e=>⟨s3 _ _ e,fun z=>by
   rcases Ks.mp z with z | z
   .rw[z,npl] at e; cases e
   .exact nb z⟩) (Kn _)
  refine⟨_,rfl,sa,ns,80,rfl,(s1.trans s13).seq hS,by decide,fun p us ds H4 np s4 hp hF hl=>?_⟩
  have wd0:Wd a.House 0 H4 h os0 pl ts ⟨[],[],[]⟩:=⟨hI3.grow fun b o _ e=>s4 _ _ e,po,⟨[],s4 _ _ hpl,.nil⟩,ls3.same s4,yn⟩
  have occ: ∀b∈pl::os0,∃o,H3 b=some o:=fun b hb=>by
   rcases Ks.mp hb with rfl | hb
   .exact⟨_,hpl⟩
   .exact hI3.has b hb
  have out: ∀b,H3 b=none->b∉pl::os0:=fun b e z=>by obtain⟨o,e'⟩:=occ b z; rw[e] at e'; cases e'
  have ul:=hF.length
  dsimp only[aY,List.set]
  refine⟨_,rfl,_,_,rfl,.inl ⟨_,NX.of hp,rfl⟩,_,rfl,by omega,by omega,?_⟩
  rw[KO]
  refine cK (xs:=cw 0 us.length) (fun i σ' H'=> ∃(os:List Addr) (ts:Addr) (S:N3) (v5:Option V),σ'=[some (.ref sa),some (.ref h),some (.ref ts),some (.ref pl),some (.ref p),v5]/\Wd a.House i H' h os pl ts S/\GB S/\S.ks.length<=i/\OU pl os0 os H4 H') ⟨os0,ts,_,none,rfl,wd0,xW,Kn _,wd0.PJ (ai.refl _)⟩ (fun i σ' H' _ _=>cG) ?_ ?_
  .rintro i x σ' H' hi ⟨os,ts',S,v5,rfl,wd,gb,hk,fr⟩
   obtain⟨il,rfl⟩:=cj hi
   have iC:(0+(i:Nat):Int)=((i:Nat):Int):=by omega
   obtain⟨u,hu⟩: ∃u,us[i]?=some u:=⟨_,Kl il⟩
   obtain⟨d,hd,t,rfl,nt,ht,ok⟩:=hF.get hu
   have tout:t∉pl::os:=fun z=>by
    rcases Ks.mp z with z | z
    .exact out t nt (by rw[z]; simp)
    .rcases fr.2.1 t z with z | z
     .exact out t nt (by simp[z])
     .rw[ht] at z; cases z
   refine⟨_,rfl,_,rfl,_,rfl,_,rfl,_,rfl,p,_,_,_,rfl,rfl,NX.of (fr.1 _ _ (out _ np) hp),(by rw[iC]; exact cm hu),i,h,os,pl,ts',t,S,d,rfl,wd,by omega,by omega,tout,fr.1 _ _ (out t nt) ht,ok,fun os' ts2 H5 wd' fr'=>?_⟩
   have gb':=xA wd.gd.now gb ok (by omega)
   dsimp only[aY,List.set]
   have fin: ∀H6,ai H5 H6-> ∃(os:List Addr) (ts:Addr) (S:N3) (v5:Option V),[some (V.ref sa),some (.ref h),some (.ref ts2),some (.ref pl),some (.ref p),some (.int (0+(i:Nat)))]=[some (V.ref sa),some (.ref h),some (.ref ts),some (.ref pl),some (.ref p),v5]/\Wd a.House (i+1) H6 h os pl ts S/\GB S/\S.ks.length<=i+1/\OU pl os0 os H4 H6:=fun H6 s6=>⟨os',ts2,cO S d,_,rfl,wd'.same s6,gb',KP EW (by omega),fr.trans (fr'.trans (wd'.PJ s6))⟩
   have hp5:H5 p=some (.lst us):=(fr.trans fr').1 _ _ (out _ np) hp
   refine⟨_,rfl,rfl,_,rfl,aM ⟨_,rfl,_,rfl,_,_,rfl,.inl ⟨_,NX.of hp5,rfl⟩,_,_,rfl,rfl,(by constructor <;> decide),rfl,_,rfl,bF (fun _=>?_) (fun _=>⟨_,rfl,_,rfl,_,_,rfl,.inl ⟨_,NX.of hp5,rfl⟩,_,_,rfl,rfl,rfl,_,rfl,bF (fun _=>?_) (fun _=>fin _ (ai.refl _))⟩)⟩⟩
   all_goals
    refine⟨_,rfl,_,rfl,h,ts2,os',_,_,cO S d,rfl,Wd.qs wd' gb',wd'.ls,fun H6 s6=>?_⟩
    have w6:=wd'.same s6
    refine⟨_,rfl,_,rfl,h,ts2,os',_,_,cO S d,rfl,w6.it,w6.gd.now,w6.ls,fun H7 s7=>⟨true,rfl,aM ?_⟩⟩
    have w7:=w6.same s7
    refine⟨_,rfl,_,rfl,h,ts2,os',_,_,cO S d,rfl,Wd.qs w7 gb',w7.ls,fun H8 s8=>⟨true,rfl,aM ?_⟩⟩
    have w8:=w7.same s8
    exact⟨_,rfl,_,rfl,h,ts2,os',_,_,cO S d,rfl,Wd.qs w8 gb',w8.ls,fun H9 s9=>⟨true,rfl,aM (fin _ (s6.trans (s7.trans (s8.trans s9))))⟩⟩
  rintro σ' H5 ⟨os,ts',S,v5,rfl,wd,gb,hk,_⟩
  rw[cL] at wd hk
  generalize us.length=n0 at wd hk ul
  clear hF hp np s4 wd0 occ out ls3 mk2 hI3 hI
  refine⟨fun m σ' H'=> ∃(os:List Addr) (ts:Addr) (S:N3),σ'=[some (.ref sa),some (.ref h),some (.ref ts),some (.ref pl),some (.ref p),v5]/\Wd a.House n0 H' h os pl ts S/\GB S/\S.ks.length<=n0/\S.ks.length=m,⟨_,os,ts',S,rfl,wd,gb,hk,rfl⟩,?_⟩
  rintro m σ' H' ⟨os,ts',S,rfl,wd,gb,hk,rfl⟩
  obtain⟨pv1,hp1,hF0⟩:=id wd.pv
  have pl1:=hF0.length
  refine⟨_,rfl,by decide,fun u nu=>⟨pl,u,pv1,rfl,rfl,NX.of ((ai.upd nu) _ _ hp1),NX.of ag,_,rfl,?_⟩⟩
  have wd:=wd.same (ai.upd (o:= .lst []) nu)
  have hp1:=(ai.upd (o:= .lst []) nu) _ _ hp1
  obtain⟨pv2,hp2',hF1⟩:=id wd.pv
  obtain rfl:pv2=pv1:=by rw[hp1] at hp2'; cases hp2'; rfl
  generalize upd H' u (.lst [])=H6 at wd hp1 hp2' hF1
  rcases Mh S.ks with hk0 | ⟨ks,k,hk0⟩
  .rw[show decide (0 < pv2.length)=false from KH (by rw[pl1,hk0]; exact LQ 0)]
   refine aM ?_
   obtain⟨em,ed⟩:=wd.gd.bot.1 hk0
   obtain⟨ms0,ds0,ks0⟩:=S
   cases (show ms0=[] from em)
   cases (show ds0=[] from ed)
   cases (show ks0=[] from hk0)
   have hI:=wd.it
   refine⟨fun v _=>v= .bl true,?_,fun v H8 z=>by rw[z]; exact q _⟩
   refine⟨_,rfl,by decide,fun l1 n1=>⟨by decide,fun l2 n2=>fun d n3=>⟨(by show 3<=sizeLine; decide),fun t2 n4=>?_⟩⟩⟩
   obtain⟨s2,mk⟩:=x8 (us:=[]) n1 n2 n3 n4
   have ls:=mk [] [] (fun b hb=>by cases hb) rfl fun m=>rfl
   refine⟨h,t2,os,[],0,⟨[],[],[]⟩,rfl,hI.grow fun b o _ e=>s2 _ _ e,yn.now,ls,fun H9 s9=>⟨true,rfl,aZ ?_⟩⟩
   refine⟨_,rfl,by decide,fun l1 n1=>⟨by decide,fun l2 n2=>fun d n3=>⟨(by show 3<=sizeLine; decide),fun t3 n4=>?_⟩⟩⟩
   obtain⟨s3,mk3⟩:=x8 (us:=[]) n1 n2 n3 n4
   have ls3:=mk3 [] [] (fun b hb=>by cases hb) rfl fun m=>rfl
   exact⟨h,t3,os,[],0,⟨[],[],[]⟩,rfl,⟨hI.grow fun b o _ e=>s3 _ _ (s9 _ _ (s2 _ _ e)),yn.now,xW.now,xW.cap⟩,ls3,fun H13 s13=>rfl⟩
  .have hk0:S.ks=ks++[k]:=by rw[hk0,Mi]
   have ksl:S.ks.length=ks.length+1:=by rw[hk0,Kr]; rfl
   rw[show decide (0 < pv2.length)=true from KI (by omega)]
   refine aZ (qE fun D1 nxW=>?_)
   have ed:aO S .back= .ok:=by rw[aO,Kk (by rw[hk0]; exact xD)]
   have es:cO S .back=⟨k.1,k.2,ks⟩:=by
    unfold cO
    rw[Ko ed]
    show (match S.ks.getLast? with | some k=>(⟨k.1,k.2,S.ks.dropLast⟩:N3) | none=>S)=_
    rw[show S.ks.getLast?=some k from by rw[hk0]; simp,show S.ks.dropLast=ks from by rw[hk0]; simp]
   rw[hk0] at hF1
   obtain⟨v,hv,t,rfl,lt⟩:=hF1.at' (i:=ks.length) (b:=k) (by simp)
   have hF3:=hF1.take ks.length
   rw[ME (Kn _),K5] at hF3
   have edl:pv2.dropLast=pv2.take ks.length:=by rw[List.dropLast_eq_take,show pv2.length - 1=ks.length by omega]
   refine⟨_,rfl,(by show 1<=sizeLine; decide),fun td ntd=>?_⟩
   have st:=ai.upd (o:= .tup [.str "back"]) ntd
   refine⟨h,os,S,.back,td,rfl,wd.it.grow fun b o _ e=>st _ _ e,wd.gd,by omega,N1.of ag,trivial,fun H9 hN=>?_⟩
   rw[es] at hN
   obtain⟨so,os',hI9,nw⟩:=hN
   obtain⟨po9,mv9,hp9⟩:=DT wd.po (st _ _ hp1) so nw
   have mv: ∀b o,b∉pl::os->H6 b=some o->(upd H9 pl (.lst (pv2.take ks.length))) b=some o/\b∉pl::os':=fun b o nb e=>by
    obtain⟨e9,n9⟩:=mv9 b o nb (st _ _ e)
    exact⟨(ao (fun z=>nb (by rw[z]; simp))).trans e9,n9⟩
   have gn:Gd ⟨k.1,k.2,ks⟩:=by rw[<-es]; exact zN wd.gd trivial
   have gb9:GB ⟨k.1,k.2,ks⟩:=by rw[<-es]; exact xA wd.gd.now gb trivial (by omega)
   refine⟨rfl,_,rfl,?_⟩
   rw[ed,show (!decide (V.str (wordOf .ok)=V.str ""))=false from by simp[wordOf]]
   refine aM ⟨_,rfl,.inl ⟨rfl,_,NX.of hp9⟩,pl,pv2,.ref t,rfl,rfl,hp9,by rw[show pv2.length - 1=ks.length by omega]; exact hv,?_⟩
   rw[edl]
   refine nxW _ _ ks.length (by omega) ⟨os',t,⟨k.1,k.2,ks⟩,rfl,⟨hI9.grow fun b o hb e=>(ao (show b≠pl from fun z=>po9 (z▸hb))).trans e,po9,⟨_,ag,hF3.imp fun v k ⟨t,e,z⟩=>⟨t,e,z.mono mv (Kn _)⟩⟩,lt.mono mv (Kn _),gn⟩,gb9,by show ks.length<=n0; omega,rfl⟩
end
end K22
namespace PySem.W.Fast
def tw13049340158958730100:=0
def tw11277500687943413165:=0
def tw4432933847202086512:=0
def tw2157586240241604148:=0
def tw2475766091566167067:=0
def tw5806255693802166568:=0
def tw10885794477110999456:=0
def tw13494574164751311427:=0
def tw17404789405184120298:=0
def tw1912675646570452697:=0
def tw15547759901108852739:=0
def tw10537148751609211752:=0
def tw16557008545409439116:=0
def tw10295243653811989188:=0
def tw4310977594125399454:=0
def tw2223997502213095375:=0
def tw406518677952832000:=0
def tw8239796444857296878:=0
def tw14301115141298453375:=0
def tw6436810055406529371:=0
def tw9822444335649606877:=0
def tw7677141690949288453:=0
def tw10864708408400519934:=0
def tw4160320266403095614:=0
def tw10812879300482480652:=0
def tw17910258288166934892:=0
def tw10747977934069920331:=0
def tw3172822376250319895:=0
def tw822118117185564111:=0
def tw12536633704427352467:=0
def tw15697712758600218243:=0
def tw4793257125151660818:=0
def tw13807913166984129930:=0
def tw9370877564132381940:=0
def tw6010731180099359851:=0
def tw14558995626500187269:=0
def tw1507496800861688465:=0
def tw7066412721128532683:=0
def tw11244429861701447865:=0
def tw12595844178903973698:=0
def tw4116558113752045926:=0
def tw10896163440710994563:=0
def tw7110412128239679281:=0
def tw7726649819055598053:=0
def tw767818531281589053:=0
def tw4128786083154263051:=0
def tw8868527564362792151:=0
def tw8053191486334331958:=0
def tw8676356040884458543:=0
def tw13962142449386115874:=0
def tw9291946944522566835:=0
def tw2299236475700891025:=0
def tw14356591360131067936:=0
def tw409598370415246164:=0
def tw14303383912047154393:=0
def tw9313927907765424054:=0
def tw16932744287206439401:=0
def tw4242113770280580967:=0
def tw11258288870764486337:=0
def tw10981298766437395348:=0
def tw6635058504797690143:=0
def tw2920697873253739279:=0
def tw4668070381768690152:=0
def tw14607065359242872529:=0
def tw4447645944086733897:=0
def tw15315096514132758555:=0
def tw7091298178782595431:=0
def tw12870441151111685918:=0
def tw7812635743427647293:=0
def tw12652727988575197844:=0
def tw3101137113836883987:=0
def tw2102013599348733439:=0
def tw17043128367915586439:=0
def tw11161887474782106280:=0
def tw14168930297305431087:=0
def tw3240013963526757956:=0
def tw11964071194063557851:=0
def tw14958525117483238819:=0
def tw1924716693116730946:=0
def tw13663936099722678742:=0
def tw7949192313481383914:=0
def tw11012503704396669757:=0
def tw10613740833905786429:=0
def tw16310221994100104391:=0
def tw11458178750993334443:=0
def tw13790253460404510771:=0
def tw5105937506290325102:=0
def tw2683184071915964859:=0
def tw1426550278371503290:=0
def tw12785559230199615736:=0
def tw18013746333275220998:=0
def tw16013038415990999366:=0
def tw14607025126758343584:=0
def tw1075315489089220609:=0
def tw13188013128255711008:=0
def tw15308823549940587358:=0
def tw12726660386362762176:=0
def tw13243817995936652559:=0
def tw2645071513657447901:=0
def tw3026679268157747614:=0
def tw11416943166233216472:=0
def tw5762367321366201664:=0
def tw12676972607706499720:=0
def tw15764313387019489393:=0
def tw17879962304982115014:=0
def tw8220078957314872918:=0
def tw1858037705620574742:=0
def tw12486016185646087742:=0
def tw16974289156459209753:=0
def tw16169206146619627769:=0
def tw15378255048916737046:=0
def tw8580172386048581680:=0
def tw5981509252412584096:=0
def tw1745555673013601314:=0
def tw1519902813713200993:=0
def tw1843415444157852560:=0
def tw959546145994077718:=0
def tw16760953493080581665:=0
def tw18358748062021975617:=0
def tw10606835658517109231:=0
def tw13462770213247584397:=0
def tw4356541912511011338:=0
def tw12193387008430180488:=0
def tw12241558405939586303:=0
def tw3327759735322356388:=0
def tw4277769048814185235:=0
def tw9894387658806271245:=0
def tw1726019511485895397:=0
def tw7749393590214874170:=0
def tw17775336100346608186:=0
def tw10872504852368308204:=0
def tw13646528537879158469:=0
def tw13758087579624511514:=0
def tw7904468133002933514:=0
def tw8359025580180316098:=0
def tw11771556757097673284:=0
def tw7378155957634450779:=0
def tw6221090971143387213:=0
def tw13802728661799100105:=0
def tw5921985876312484155:=0
def tw14259859010733947090:=0
def tw16136743757280488208:=0
def tw9590104844569288778:=0
def tw9839891104874739405:=0
def tw7161556544827787254:=0
def tw16754081504426079686:=0
def tw5278016394827471684:=0
def tw4778258805355153899:=0
def tw11897588361114190833:=0
def tw12522304240143965631:=0
def tw7320828805815660318:=0
def tw2050484529228700705:=0
def tw7085080536284047174:=0
def tw14894219529352099448:=0
def tw5843220032180462496:=0
end PySem.W.Fast
theorem PySem.Challenge.cw_stairgauge_k22_questions_change_nothing_holds : PySem.Challenge.rw_stairgauge_k22_questions_change_nothing.Holds := by
 w_on; o_law; k_head; (case hw=>w_witness2)
 k_fill
 refine L2.Dv (l:=PySem.Challenge.rw_stairgauge_k22_questions_change_nothing) (n:=63) (k:=10) (x:= "_law_script") (CX:=L2.OA) (sp:=K22.Cq) rfl (by decide) rfl ⟨rfl,by decide,by decide⟩ (fun w h Y=>PySem.W.kIn_of Y) ?F (fun K H a ns hl _ hS=>⟨a,ns,rfl,hS,hl,fun _=>rfl⟩) (fun _ _ _ _ z=>z)
 case F =>
  intro w mg fa h KX G hmg
  obtain⟨a,T⟩: ∃a:K22.Adr,K22.Txt (L2.PQ KX) mg a:=by
   dsimp only[L2.PQ]
   refine' K22.Hu ⟨⟨?a1,?b1,?c1,?d1⟩,PySem.W.mg_of KX G ?e1,?f1,?g1⟩
     (?e2)
     (?e3)
     (?e4)
     (L2.bo KX G ?a5 ?l5 ?c5 ?k5)
     (L2.bo KX G ?a6 ?l6 ?c6 ?k6)
     (L2.bo KX G ?a7 ?l7 ?c7 ?k7)
     (L2.bo KX G ?a8 ?l8 ?c8 ?k8)
     (L2.bo KX G ?a9 ?l9 ?c9 ?k9)
     (L2.bo KX G ?a10 ?l10 ?c10 ?k10)
     (L2.bo KX G ?a11 ?l11 ?c11 ?k11)
     (L2.bo KX G ?a12 ?l12 ?c12 ?k12)
     (L2.bo KX G ?a13 ?l13 ?c13 ?k13)
     (L2.bo KX G ?a14 ?l14 ?c14 ?k14)
     (L2.bo KX G ?a15 ?l15 ?c15 ?k15)
     (L2.bo KX G ?a16 ?l16 ?c16 ?k16)
     (L2.bo KX G ?a17 ?l17 ?c17 ?k17)
     (L2.bo KX G ?a18 ?l18 ?c18 ?k18)
     (L2.bo KX G ?a19 ?l19 ?c19 ?k19)
     (L2.bo KX G ?a20 ?l20 ?c20 ?k20)
     (L2.bo KX G ?a21 ?l21 ?c21 ?k21)
     (L2.bo KX G ?a22 ?l22 ?c22 ?k22)
     (L2.bo KX G ?a23 ?l23 ?c23 ?k23)
     (L2.bo KX G ?a24 ?l24 ?c24 ?k24)
     (L2.bo KX G ?a25 ?l25 ?c25 ?k25)
     (L2.bo KX G ?a26 ?l26 ?c26 ?k26)
     (L2.bo KX G ?a27 ?l27 ?c27 ?k27)
     (L2.bo KX G ?a28 ?l28 ?c28 ?k28)
     (L2.bo KX G ?a29 ?l29 ?c29 ?k29)
     (L2.bo KX G ?a30 ?l30 ?c30 ?k30)
     (L2.bo KX G ?a31 ?l31 ?c31 ?k31)
     (L2.bo KX G ?a32 ?l32 ?c32 ?k32)
     (L2.bo KX G ?a33 ?l33 ?c33 ?k33)
     (L2.bo KX G ?a34 ?l34 ?c34 ?k34)
     (L2.bo KX G ?a35 ?l35 ?c35 ?k35)
     (L2.bo KX G ?a36 ?l36 ?c36 ?k36)
     (L2.bo KX G ?a37 ?l37 ?c37 ?k37)
     (L2.bo KX G ?a38 ?l38 ?c38 ?k38)
     (L2.bo KX G ?a39 ?l39 ?c39 ?k39)
     (L2.bo KX G ?a40 ?l40 ?c40 ?k40)
     (L2.bo KX G ?a41 ?l41 ?c41 ?k41)
     (L2.bo KX G ?a42 ?l42 ?c42 ?k42)
     (L2.bo KX G ?a43 ?l43 ?c43 ?k43)
     (L2.bo KX G ?a44 ?l44 ?c44 ?k44)
     (L2.bo KX G ?a45 ?l45 ?c45 ?k45)
     (L2.bo KX G ?a46 ?l46 ?c46 ?k46)
     (L2.bo KX G ?a47 ?l47 ?c47 ?k47)
     (L2.bo KX G ?a48 ?l48 ?c48 ?k48)
     (L2.bo KX G ?a49 ?l49 ?c49 ?k49)
     (L2.bo KX G ?a50 ?l50 ?c50 ?k50)
     (L2.bo KX G ?a51 ?l51 ?c51 ?k51)
     (L2.bo KX G ?a52 ?l52 ?c52 ?k52)
     (L2.bo KX G ?a53 ?l53 ?c53 ?k53)
     (L2.bo KX G ?a54 ?l54 ?c54 ?k54)
     (L2.cZ ?a55 ?i55 ?l55 ?c55 ?k55)
     (L2.cZ ?a56 ?i56 ?l56 ?c56 ?k56)
     (L2.cZ ?a57 ?i57 ?l57 ?c57 ?k57)
     (L2.cZ ?a58 ?i58 ?l58 ?c58 ?k58)
     (L2.cZ ?a59 ?i59 ?l59 ?c59 ?k59)
     (L2.cZ ?a60 ?i60 ?l60 ?c60 ?k60)
     (L2.cZ ?a61 ?i61 ?l61 ?c61 ?k61)
     (L2.cZ ?a62 ?i62 ?l62 ?c62 ?k62)
     (L2.cZ ?a63 ?i63 ?l63 ?c63 ?k63)
     (L2.cZ ?a64 ?i64 ?l64 ?c64 ?k64)
     (L2.cZ ?a65 ?i65 ?l65 ?c65 ?k65)
     (L2.cZ ?a66 ?i66 ?l66 ?c66 ?k66)
     (L2.cZ ?a67 ?i67 ?l67 ?c67 ?k67)
     (L2.cZ ?a68 ?i68 ?l68 ?c68 ?k68)
     (L2.cZ ?a69 ?i69 ?l69 ?c69 ?k69)
     (L2.cZ ?a70 ?i70 ?l70 ?c70 ?k70)
     (L2.cZ ?a71 ?i71 ?l71 ?c71 ?k71)
     (L2.cZ ?a72 ?i72 ?l72 ?c72 ?k72)
     (L2.cZ ?a73 ?i73 ?l73 ?c73 ?k73)
     (L2.cZ ?a74 ?i74 ?l74 ?c74 ?k74)
     (L2.cZ ?a75 ?i75 ?l75 ?c75 ?k75)
     (L2.cZ ?a76 ?i76 ?l76 ?c76 ?k76)
     (L2.cZ ?a77 ?i77 ?l77 ?c77 ?k77)
     (L2.cZ ?a78 ?i78 ?l78 ?c78 ?k78)
     (L2.cZ ?a79 ?i79 ?l79 ?c79 ?k79)
     (L2.mS KX G ?a80 ?l80 ?c80 ?d80 ?z80 ?v80)
     (L2.mS KX G ?a81 ?l81 ?c81 ?d81 ?z81 ?v81)
     (L2.mS KX G ?a82 ?l82 ?c82 ?d82 ?z82 ?v82)
     (L2.mS KX G ?a83 ?l83 ?c83 ?d83 ?z83 ?v83)
     ⟨_,PySem.W.mg_of KX G ?a84,?r84⟩
     ⟨_,PySem.W.mg_of KX G ?a85,?r85⟩
     ⟨_,PySem.W.mg_of KX G ?a86,?r86⟩
     (L2.mS KX G ?a87 ?l87 ?c87 ?d87 ?z87 ?v87)
     (L2.mS KX G ?a88 ?l88 ?c88 ?d88 ?z88 ?v88)
     ⟨_,PySem.W.mg_of KX G ?a89,?r89⟩
     ⟨_,PySem.W.mg_of KX G ?a90,?r90⟩
     (PySem.W.mg_none_of KX G ?a91)
     (PySem.W.mg_none_of KX G ?a92)
     (PySem.W.mg_none_of KX G ?a93)
     (PySem.W.mg_none_of KX G ?a94)
     (PySem.W.mg_none_of KX G ?a95)
     (PySem.W.mg_none_of KX G ?a96)
     (PySem.W.mg_none_of KX G ?a97)
     (PySem.W.mg_none_of KX G ?a98)
     (PySem.W.mg_none_of KX G ?a99)
     (PySem.W.mg_none_of KX G ?a100)
     (PySem.W.mg_none_of KX G ?a101)
     (PySem.W.mg_none_of KX G ?a102)
     (PySem.W.mg_none_of KX G ?a103)
     (PySem.W.mg_none_of KX G ?a104)
     (PySem.W.mg_none_of KX G ?a105)
     (PySem.W.mg_none_of KX G ?a106)
     ⟨PySem.W.mg_of KX G ?a108,?e108⟩
     ⟨PySem.W.mg_of KX G ?a109,?e109⟩
     ⟨PySem.W.mg_of KX G ?a110,?e110⟩
     ⟨PySem.W.mg_of KX G ?a111,?e111⟩
     ⟨PySem.W.mg_of KX G ?a112,?e112⟩
     ⟨PySem.W.mg_of KX G ?a113,?e113⟩
     ⟨PySem.W.mg_of KX G ?a114,?e114⟩
     ⟨PySem.W.mg_of KX G ?a115,?e115⟩
     (L2.dr ?l126 ?e126)
     (L2.dr ?l135 ?e135)
     (L2.dr ?l136 ?e136)
     (L2.dr ?l162 ?e162)
     (L2.dr ?l163 ?e163)
     (L2.dr ?l166 ?e166)
     (L2.dr ?l171 ?e171)
     (L2.dr ?l172 ?e172)
     (L2.dr ?l175 ?e175)
     (L2.dr ?l176 ?e176)
     (L2.dr ?l180 ?e180)
     (L2.dr ?l181 ?e181)
     (L2.dr ?l184 ?e184)
     (L2.dr ?l185 ?e185)
     (L2.dr ?l186 ?e186)
     (L2.dr ?l189 ?e189)
     (L2.dr ?l196 ?e196)
   (case e1=>k_is); (case a1=>k_is); (case b1=>k_is); (case c1=>k_is); (case d1=>k_is); (case f1=>k_is); (case g1=>k_is)
   (case e2=>(show PySem.W.findIn _ _ _=_); k_is)
   (case e3=>(show PySem.W.findIn _ _ _=_); k_is)
   (case e4=>(show PySem.W.findIn _ _ _=_); k_is)
   (case a5=>k_is); (case l5=>k_is); (case c5=>k_is); (case k5=>k_is)
   (case a6=>k_is); (case l6=>k_is); (case c6=>k_is); (case k6=>k_is)
   (case a7=>k_is); (case l7=>k_is); (case c7=>k_is); (case k7=>k_is)
   (case a8=>k_is); (case l8=>k_is); (case c8=>k_is); (case k8=>k_is)
   (case a9=>k_is); (case l9=>k_is); (case c9=>k_is); (case k9=>k_is)
   (case a10=>k_is); (case l10=>k_is); (case c10=>k_is); (case k10=>k_is)
   (case a11=>k_is); (case l11=>k_is); (case c11=>k_is); (case k11=>k_is)
   (case a12=>k_is); (case l12=>k_is); (case c12=>k_is); (case k12=>k_is)
   (case a13=>k_is); (case l13=>k_is); (case c13=>k_is); (case k13=>k_is)
   (case a14=>k_is); (case l14=>k_is); (case c14=>k_is); (case k14=>k_is)
   (case a15=>k_is); (case l15=>k_is); (case c15=>k_is); (case k15=>k_is)
   (case a16=>k_is); (case l16=>k_is); (case c16=>k_is); (case k16=>k_is)
   (case a17=>k_is); (case l17=>k_is); (case c17=>k_is); (case k17=>k_is)
   (case a18=>k_is); (case l18=>k_is); (case c18=>k_is); (case k18=>k_is)
   (case a19=>k_is); (case l19=>k_is); (case c19=>k_is); (case k19=>k_is)
   (case a20=>k_is); (case l20=>k_is); (case c20=>k_is); (case k20=>k_is)
   (case a21=>k_is); (case l21=>k_is); (case c21=>k_is); (case k21=>k_is)
   (case a22=>k_is); (case l22=>k_is); (case c22=>k_is); (case k22=>k_is)
   (case a23=>k_is); (case l23=>k_is); (case c23=>k_is); (case k23=>k_is)
   (case a24=>k_is); (case l24=>k_is); (case c24=>k_is); (case k24=>k_is)
   (case a25=>k_is); (case l25=>k_is); (case c25=>k_is); (case k25=>k_is)
   (case a26=>k_is); (case l26=>k_is); (case c26=>k_is); (case k26=>k_is)
   (case a27=>k_is); (case l27=>k_is); (case c27=>k_is); (case k27=>k_is)
   (case a28=>k_is); (case l28=>k_is); (case c28=>k_is); (case k28=>k_is)
   (case a29=>k_is); (case l29=>k_is); (case c29=>k_is); (case k29=>k_is)
   (case a30=>k_is); (case l30=>k_is); (case c30=>k_is); (case k30=>k_is)
   (case a31=>k_is); (case l31=>k_is); (case c31=>k_is); (case k31=>k_is)
   (case a32=>k_is); (case l32=>k_is); (case c32=>k_is); (case k32=>k_is)
   (case a33=>k_is); (case l33=>k_is); (case c33=>k_is); (case k33=>k_is)
   (case a34=>k_is); (case l34=>k_is); (case c34=>k_is); (case k34=>k_is)
   (case a35=>k_is); (case l35=>k_is); (case c35=>k_is); (case k35=>k_is)
   (case a36=>k_is); (case l36=>k_is); (case c36=>k_is); (case k36=>k_is)
   (case a37=>k_is); (case l37=>k_is); (case c37=>k_is); (case k37=>k_is)
   (case a38=>k_is); (case l38=>k_is); (case c38=>k_is); (case k38=>k_is)
   (case a39=>k_is); (case l39=>k_is); (case c39=>k_is); (case k39=>k_is)
   (case a40=>k_is); (case l40=>k_is); (case c40=>k_is); (case k40=>k_is)
   (case a41=>k_is); (case l41=>k_is); (case c41=>k_is); (case k41=>k_is)
   (case a42=>k_is); (case l42=>k_is); (case c42=>k_is); (case k42=>k_is)
   (case a43=>k_is); (case l43=>k_is); (case c43=>k_is); (case k43=>k_is)
   (case a44=>k_is); (case l44=>k_is); (case c44=>k_is); (case k44=>k_is)
   (case a45=>k_is); (case l45=>k_is); (case c45=>k_is); (case k45=>k_is)
   (case a46=>k_is); (case l46=>k_is); (case c46=>k_is); (case k46=>k_is)
   (case a47=>k_is); (case l47=>k_is); (case c47=>k_is); (case k47=>k_is)
   (case a48=>k_is); (case l48=>k_is); (case c48=>k_is); (case k48=>k_is)
   (case a49=>k_is); (case l49=>k_is); (case c49=>k_is); (case k49=>k_is)
   (case a50=>k_is); (case l50=>k_is); (case c50=>k_is); (case k50=>k_is)
   (case a51=>k_is); (case l51=>k_is); (case c51=>k_is); (case k51=>k_is)
   (case a52=>k_is); (case l52=>k_is); (case c52=>k_is); (case k52=>k_is)
   (case a53=>k_is); (case l53=>k_is); (case c53=>k_is); (case k53=>k_is)
   (case a54=>k_is); (case l54=>k_is); (case c54=>k_is); (case k54=>k_is)
   (case a55=>k_is); (case i55=>k_is); (case l55=>k_is); (case c55=>k_is); (case k55=>k_is)
   (case a56=>k_is); (case i56=>k_is); (case l56=>k_is); (case c56=>k_is); (case k56=>k_is)
   (case a57=>k_is); (case i57=>k_is); (case l57=>k_is); (case c57=>k_is); (case k57=>k_is)
   (case a58=>k_is); (case i58=>k_is); (case l58=>k_is); (case c58=>k_is); (case k58=>k_is)
   (case a59=>k_is); (case i59=>k_is); (case l59=>k_is); (case c59=>k_is); (case k59=>k_is)
   (case a60=>k_is); (case i60=>k_is); (case l60=>k_is); (case c60=>k_is); (case k60=>k_is)
   (case a61=>k_is); (case i61=>k_is); (case l61=>k_is); (case c61=>k_is); (case k61=>k_is)
   (case a62=>k_is); (case i62=>k_is); (case l62=>k_is); (case c62=>k_is); (case k62=>k_is)
   (case a63=>k_is); (case i63=>k_is); (case l63=>k_is); (case c63=>k_is); (case k63=>k_is)
   (case a64=>k_is); (case i64=>k_is); (case l64=>k_is); (case c64=>k_is); (case k64=>k_is)
   (case a65=>k_is); (case i65=>k_is); (case l65=>k_is); (case c65=>k_is); (case k65=>k_is)
   (case a66=>k_is); (case i66=>k_is); (case l66=>k_is); (case c66=>k_is); (case k66=>k_is)
   (case a67=>k_is); (case i67=>k_is); (case l67=>k_is); (case c67=>k_is); (case k67=>k_is)
   (case a68=>k_is); (case i68=>k_is); (case l68=>k_is); (case c68=>k_is); (case k68=>k_is)
   (case a69=>k_is); (case i69=>k_is); (case l69=>k_is); (case c69=>k_is); (case k69=>k_is)
   (case a70=>k_is); (case i70=>k_is); (case l70=>k_is); (case c70=>k_is); (case k70=>k_is)
   (case a71=>k_is); (case i71=>k_is); (case l71=>k_is); (case c71=>k_is); (case k71=>k_is)
   (case a72=>k_is); (case i72=>k_is); (case l72=>k_is); (case c72=>k_is); (case k72=>k_is)
   (case a73=>k_is); (case i73=>k_is); (case l73=>k_is); (case c73=>k_is); (case k73=>k_is)
   (case a74=>k_is); (case i74=>k_is); (case l74=>k_is); (case c74=>k_is); (case k74=>k_is)
   (case a75=>k_is); (case i75=>k_is); (case l75=>k_is); (case c75=>k_is); (case k75=>k_is)
   (case a76=>k_is); (case i76=>k_is); (case l76=>k_is); (case c76=>k_is); (case k76=>k_is)
   (case a77=>k_is); (case i77=>k_is); (case l77=>k_is); (case c77=>k_is); (case k77=>k_is)
   (case a78=>k_is); (case i78=>k_is); (case l78=>k_is); (case c78=>k_is); (case k78=>k_is)
   (case a79=>k_is); (case i79=>k_is); (case l79=>k_is); (case c79=>k_is); (case k79=>k_is)
   (case a80=>k_is); (case l80=>k_is); (case c80=>rfl); (case d80=>rfl); (case z80=>decide); (case v80=>exact (.cons ⟨_,rfl⟩ (.cons ⟨_,rfl⟩ .nil)))
   (case a81=>k_is); (case l81=>k_is); (case c81=>rfl); (case d81=>rfl); (case z81=>decide); (case v81=>exact (.cons ⟨_,rfl⟩ (.cons ⟨_,rfl⟩ .nil)))
   (case a82=>k_is); (case l82=>k_is); (case c82=>rfl); (case d82=>rfl); (case z82=>decide); (case v82=>exact (.cons ⟨_,rfl⟩ (.cons ⟨_,rfl⟩ .nil)))
   (case a83=>k_is); (case l83=>k_is); (case c83=>rfl); (case d83=>rfl); (case z83=>decide); (case v83=>exact (.cons ⟨_,rfl⟩ (.cons ⟨_,rfl⟩ .nil)))
   (case a84=>k_is); (case r84=>exact⟨_,rfl⟩)
   (case a85=>k_is); (case r85=>exact⟨_,rfl⟩)
   (case a86=>k_is); (case r86=>exact⟨_,rfl⟩)
   (case a87=>k_is); (case l87=>k_is); (case c87=>rfl); (case d87=>rfl); (case z87=>decide); (case v87=>exact (.cons ⟨_,rfl⟩ (.cons ⟨_,rfl⟩ .nil)))
   (case a88=>k_is); (case l88=>k_is); (case c88=>rfl); (case d88=>rfl); (case z88=>decide); (case v88=>exact (.cons ⟨_,rfl⟩ (.cons ⟨_,rfl⟩ .nil)))
   (case a89=>k_is); (case r89=>exact⟨_,rfl⟩)
   (case a90=>k_is); (case r90=>exact⟨_,rfl⟩)
   (case a91=>k_is)
   (case a92=>k_is)
   (case a93=>k_is)
   (case a94=>k_is)
   (case a95=>k_is)
   (case a96=>k_is)
   (case a97=>k_is)
   (case a98=>k_is)
   (case a99=>k_is)
   (case a100=>k_is)
   (case a101=>k_is)
   (case a102=>k_is)
   (case a103=>k_is)
   (case a104=>k_is)
   (case a105=>k_is)
   (case a106=>k_is)
   (case a108=>k_is); (case e108=>k_exc)
   (case a109=>k_is); (case e109=>k_exc)
   (case a110=>k_is); (case e110=>k_exc)
   (case a111=>k_is); (case e111=>k_exc)
   (case a112=>k_is); (case e112=>k_exc)
   (case a113=>k_is); (case e113=>k_exc)
   (case a114=>k_is); (case e114=>k_exc)
   (case a115=>k_is); (case e115=>k_exc)
   (case l126=>k_is); (case e126=>rfl)
   (case l135=>k_is); (case e135=>rfl)
   (case l136=>k_is); (case e136=>rfl)
   (case l162=>k_is); (case e162=>rfl)
   (case l163=>k_is); (case e163=>rfl)
   (case l166=>k_is); (case e166=>rfl)
   (case l171=>k_is); (case e171=>rfl)
   (case l172=>k_is); (case e172=>rfl)
   (case l175=>k_is); (case e175=>rfl)
   (case l176=>k_is); (case e176=>rfl)
   (case l180=>k_is); (case e180=>rfl)
   (case l181=>k_is); (case e181=>rfl)
   (case l184=>k_is); (case e184=>rfl)
   (case l185=>k_is); (case e185=>rfl)
   (case l186=>k_is); (case e186=>rfl)
   (case l189=>k_is); (case e189=>rfl)
   (case l196=>k_is); (case e196=>rfl)
  exact (L2.Fn T.xf (fun base=>K22.Gq T) hmg (fun _ _ _ _ _ _ s u=> .of_eq rfl)).imp fun fd hf=>⟨hf.1,fun base _ _=>hf.2 base⟩
