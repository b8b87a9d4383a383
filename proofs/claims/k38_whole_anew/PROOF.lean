import PyProof.Rows.All
import Wide.All
import OpenK.AllK
import Wide.FinOn
import Lean
import PyProof.EqAt
import PyProof.EqKinds
import PyProof.TupleCall
import PyProof.StrWalks
import PyProof.ConsumeWalk
import PyProof.IsiPairs
import PyProof.IsiHeapPairs
import PyProof.StationsW
import OpenK.KOwn
import KE.KIsAll
import PyProof.ExcAttrAll.ValueError
import PyProof.Rows.StrWeight2
import KE.KLam
import KE.KSortKey
import PyProof.ListRange
import KE.KRevSl
import PyProof.EnumStmt
import PyProof.EnumMake
import PyProof.NeKinds
import PyProof.Rows.SumAny
import PyProof.SliceStr2
import PyProof.StrOps2
import PyProof.MinMaxWalk
import PyProof.ZipIter
import KE.KIntText
import PyProof.StrCalls2
import PyProof.StrLawsTight
import PyProof.StrLawsChain
import PyProof.Rows.StrItems
import PySem.Challenge.RW_stairgauge_k38_whole_anew
set_option linter.all false
set_option maxRecDepth 100000
set_option Elab.async false
set_option maxHeartbeats 0
abbrev N7:=PySem.W.Frag
local macro_rules|`(tactic|trivial)=>`(tactic|decide +kernel)
abbrev Kp:=@if_neg
abbrev Kq:=@List.length_map
abbrev Kr:=@List.getElem?_eq_getElem
abbrev Ks:=@if_pos
abbrev Kt:=@List.mem_singleton
abbrev Ku:=@Nat.le_refl
abbrev Kv:=@PySem.wpAny_bind
abbrev Kw:=@List.mem_of_getElem?
abbrev Kx:=@PySem.Heap.get?_push_of_some
abbrev Ky:=@List.getElem?_eq_some_iff
abbrev Kz:=@List.mem_cons
abbrev KA:=@List.getD_eq_getElem?_getD
abbrev KC:=@List.length_append
abbrev KD:=@List.mem_cons_of_mem
abbrev KG:=@List.mem_cons_self
abbrev KH:=@List.getElem?_map
abbrev KI:=@List.mem_append
abbrev KJ:=@PySem.Heap.lt_size
abbrev KL:=@List.size_toArray
abbrev KN:=@Bool.false_ne_true
abbrev KO:=@List.map_append
abbrev KP:=@PySem.wpAny_pure
abbrev KQ:=@decide_eq_true
abbrev KR:=@Nat.le_trans
abbrev KS:=@Option.some.inj
abbrev KU:=@decide_eq_false
abbrev KW:=@Int.toNat_natCast
abbrev KY:=@of_decide_eq_true
abbrev KZ:=@List.mem_range
abbrev K0:=@List.length_take
abbrev K1:=@List.length_cons
abbrev K2:=@Ne.symm
abbrev K3:=@Int.le_refl
abbrev K4:=@Nat.ne_of_lt
abbrev K5:=@List.mem_append_right
abbrev K6:=@List.take_length
abbrev K7:=@Nat.le_of_lt
abbrev K8:=@Bool.not_eq_true
abbrev K9:=@PySem.Heap.get?_push_size
abbrev La:=@List.take_add_one
abbrev Lb:=@Bool.and_eq_true
abbrev Lc:=@Int.le_trans
abbrev Ld:=@List.map_cons
abbrev Lg:=@Decidable.not_not
abbrev Lh:=@of_decide_eq_false
abbrev Li:=@List.mem_filter
abbrev Lj:=@PySem.F.plainAttrs_list
abbrev Lk:=@Classical.byContradiction
abbrev Ll:=@List.not_mem_nil
abbrev Lm:=@Nat.lt_of_lt_of_le
abbrev Ln:=@congrArg
abbrev Lo:=@List.mem_append_left
abbrev Lp:=@List.length_filter_le
abbrev Lq:=@List.mem_map
abbrev Lr:=@PySem.Heap.get?_update_other
abbrev Ls:=@List.nodup_cons
abbrev Lu:=@Nat.zero_le
abbrev Lv:=@List.length_drop
abbrev Lw:=@Nat.not_lt_zero
abbrev Lx:=@PySem.wpAny_mono
abbrev Ly:=@List.find?_cons_of_neg
abbrev Lz:=@List.replicate_succ
abbrev LA:=@List.length_range
abbrev LB:=@List.filter_append
abbrev LC:=@List.lookup_cons
abbrev LD:=@List.all_eq_true
abbrev LF:=@List.map_map
abbrev LG:=@List.take_of_length_le
abbrev LH:=@PySem.wpAny_truthy_bool
abbrev LI:=@Nat.min_le_left
abbrev LJ:=@Nat.lt_of_le_of_lt
abbrev LK:=@PySem.Heap.size_push
abbrev LL:=@List.mem_iff_getElem
abbrev LM:=@PySem.F.slot_list_index
abbrev LO:=@PySem.F.type_list_index
abbrev LP:=@List.flatten_cons
abbrev LQ:=@List.foldl_append
abbrev LR:=@List.nodup_append
abbrev LU:=@PySem.wpAny_newObj_type
abbrev LV:=@PySem.Heap.get?_update_ne
abbrev LW:=@List.find?_cons_of_pos
abbrev LX:=@PySem.Heap.get?_update_self
abbrev LY:=@Int.emod_lt_of_pos
abbrev LZ:=@Decidable.byContradiction
abbrev L3:=@Option.isSome_iff_exists
abbrev L4:=@List.range_succ
abbrev L5:=@Int.emod_nonneg
abbrev L6:=@List.append_assoc
abbrev L7:=@Nat.lt_irrefl
abbrev L8:=@List.any_cons
abbrev L9:=@PySem.wpAny_holding
abbrev Ma:=@PySem.wpAny_standAt
abbrev Mb:=@List.map_congr_left
abbrev Mc:=@List.getElem_mem
abbrev Md:=@List.filter_cons
abbrev Me:=@PySem.Value.type.inj
abbrev Mf:=@PyProof.Rows.callWith_type1
abbrev Mg:=@List.find?_eq_none
abbrev Mh:=@PyProof.Rows.assignInOrder_cons
abbrev Mi:=@PySem.wpAny_Call_Name_kw
abbrev Mj:=@Bool.eq_iff_iff
abbrev Ml:=@PySem.W.methodCall_KW
abbrev Mm:=@List.append_nil
abbrev Mn:=@List.length_replicate
abbrev Mo:=@List.length_set
abbrev Mp:=@List.eq_nil_or_concat
abbrev Mq:=@List.concat_eq_append
abbrev Mr:=@PySem.wpAny_passesOwn
abbrev Ms:=@PySem.wpAny_pyIter_list
abbrev Mu:=@PySem.wpAny_loadPart_at
abbrev Mv:=@Array.getElem?_eq_getElem
abbrev Mw:=@PySem.call_meets
abbrev Mx:=@PySem.wpAny_field
abbrev My:=@Nat.lt_succ_self
abbrev Mz:=@beq_self_eq_true
abbrev MB:=@or_false
abbrev MC:=@PySem.mem_of_lookup
abbrev MD:=@PyProof.Rows.slot_tuple_getitem
abbrev ME:=@List.mem_filterMap
abbrev MF:=@Nat.not_lt
abbrev MG:=@List.find?_cons
abbrev MH:=@List.length_nil
abbrev MI:=@PySem.tupleKind_room_in1
abbrev MJ:=@Nat.le_succ
abbrev ML:=@PySem.Calls.callWith_builtin
abbrev MM:=@List.eq_nil_of_length_eq_zero
abbrev MN:=@Nat.lt_succ_of_lt
abbrev MO:=@List.nodup_nil
abbrev MP:=@PySem.F.slot_list_pop
abbrev MQ:=@PySem.F.type_list_pop
abbrev MS:=@PySem.codeAny_mono
abbrev MT:=@PySem.Calls.evalArgs_plain
abbrev MU:=@List.mem_of_mem_drop
abbrev MV:=@List.mem_of_mem_take
abbrev MW:=@List.getElem?_append_right
abbrev MX:=@Sum.inl.inj
abbrev MY:=@Array.length_toList
abbrev MZ:=@List.getElem?_append_left
abbrev M0:=@PySem.W.callWith_K
abbrev M3:=@PySem.wpAny_bindName
abbrev M4:=@List.length_eq_zero_iff
abbrev M5:=@List.take_nil
abbrev M6:=@List.getElem_map
abbrev M7:=@Nat.le_add_right
abbrev M8:=@List.length_singleton
abbrev M9:=@Array.mem_iff_getElem
abbrev Na:=@PySem.F.slot_dict_get
abbrev Nb:=@List.eraseIdxIfInBounds_toArray
abbrev Nc:=@PySem.Heap.get?_none_of_le
abbrev Nd:=@List.getElem?_set_ne
abbrev Nf:=@Nat.ne_of_gt
abbrev Ng:=@List.map_nil
abbrev Nh:=@List.getElem_toArray
abbrev Ni:=@Option.map_some
abbrev Nj:=@PySem.PassesOwn.never
abbrev Nk:=@List.map_set
abbrev Nl:=@PySem.wpAny_execs_nil
abbrev Nn:=@PySem.wpAny_call
abbrev Np:=@List.take_append_of_le_length
abbrev Nq:=@List.filterMap_cons
abbrev Nr:=@PySem.W.plainGet_of
abbrev Nt:=@PySem.W.callWith_K0
abbrev Nu:=@List.getElem_of_mem
abbrev Nv:=@PySem.wpAny_isSubtype_exc
abbrev Nw:=@Bool.false_and
abbrev Ny:=@PySem.sizeLine_eq
abbrev Nz:=@PySem.Calls.spliced_cons
abbrev NA:=@PySem.SeqAt.EqAt.str_str
abbrev NB:=@List.pairwise_cons
abbrev NC:=@List.mem_replicate
abbrev ND:=@PySem.Paired.length
abbrev NF:=@Int.fdiv_eq_ediv_of_nonneg
abbrev NG:=@Array.getElem?_eq_some_iff
abbrev NH:=@List.sum_cons
abbrev NI:=@List.drop_nil
abbrev NJ:=@List.any_eq_false
abbrev NK:=@List.take_sublist
abbrev NL:=@Option.isSome_map
abbrev NM:=@List.find?_append
abbrev NN:=@List.getElem_inj
abbrev NO:=@Nat.le_of_eq
abbrev NP:=@Nat.min_le_right
abbrev NQ:=@Nat.le_of_not_lt
abbrev NR:=@Nat.succ.inj
abbrev NS:=@List.any_eq_true
abbrev NU:=@List.ext_getElem
abbrev NV:=@List.cons_append
abbrev NW:=@Nat.succ_pos
abbrev NX:=@List.all_map
abbrev NY:=@decide_eq_decide
abbrev NZ:=@List.of_mem_zip
abbrev N0:=@Int.ediv_nonneg
abbrev N1:=@Nat.min_eq_left
abbrev N2:=@Sum.inr.inj
namespace L2
open PySem PySem.Spec PyProof.Rows
abbrev Key:=Sum Int Str
def sO:Key->Value->Bool
 | .inl k,v=>Value.isInt k v
 | .inr x,v=>Value.isStrOf x v
def Jh (w:World):Key->Int
 | .inl k=>hashInt k
 | .inr x=>hashStr w x
theorem dR: ∀ {k:Key}{v:Value},sO k v=true->(∃i t,k=Sum.inl i/\v=Value.int i t)\/(∃x t,k=Sum.inr x/\v=Value.str x t)
 | .inl i,v,h=>by
  obtain⟨t,e⟩:=Value.isInt_shape (k:=i) (v:=v) h
  exact .inl ⟨i,t,rfl,e⟩
 | .inr x,v,h=>by
  obtain⟨t,e⟩:=Value.isStrOf_shape (x:=x) (v:=v) h
  exact .inr ⟨x,t,rfl,e⟩
theorem BR (i:Int) (t:Tok):sO (.inl i) (.int i t)=true:=by simp[sO,Value.isInt]
theorem Bk (x:Str) (t:Tok):sO (.inr x) (.str x t)=true:=by simp[sO,Value.isStrOf]
theorem GO (a b:Int):decide ((Sum.inl a:Key)=Sum.inl b)=(a == b):=by
 by_cases e:a=b
 .subst e; simp
 .have h: ¬(Sum.inl a:Key)=Sum.inl b:=fun q=>e (MX q)
  rw[KU h]
  exact (beq_eq_false_iff_ne.mpr e).symm
theorem Gg (a b:Str):decide ((Sum.inr a:Key)=Sum.inr b)=decide (a=b):=by
 by_cases e:a=b
 .subst e; simp
 .have h: ¬(Sum.inr a:Key)=Sum.inr b:=fun q=>e (N2 q)
  rw[KU h,KU e]
theorem Hy (a:Int) (b:Str):decide ((Sum.inl a:Key)=Sum.inr b)=false:=KU (fun q=>nomatch q)
theorem G4 (a:Str) (b:Int):decide ((Sum.inr a:Key)=Sum.inl b)=false:=KU (fun q=>nomatch q)
def cm (prog:Program) (w:World):PySem.KeyKind prog w Key where
 is:=sO
 hash:=Jh w
 inj:=fun v a b ha hb=>by
  rcases dR ha with⟨i,t,rfl,rfl⟩ | ⟨x,t,rfl,rfl⟩
  .rcases dR hb with⟨j,u,rfl,e⟩ | ⟨y,u,rfl,e⟩
   .injection e with e1 _; rw[e1]
   .exact nomatch e
  .rcases dR hb with⟨j,u,rfl,e⟩ | ⟨y,u,rfl,e⟩
   .exact nomatch e
   .injection e with e1 _; rw[e1]
 byValue:=fun k v h=>by
  rcases dR h with⟨i,t,rfl,rfl⟩ | ⟨x,t,rfl,rfl⟩ <;> rfl
 pyHash:=fun hv h=>by
  rcases dR hv with⟨i,t,rfl,rfl⟩ | ⟨x,t,rfl,rfl⟩
  .exact wpAny_pyHash_int h
  .exact wpAny_pyHash_str h
 eqBool:=fun hu hv h=>by
  rcases dR hu with⟨i,t,rfl,rfl⟩ | ⟨x,t,rfl,rfl⟩
  .rcases dR hv with⟨j,u,rfl,rfl⟩ | ⟨y,u,rfl,rfl⟩
   .rw[GO] at h; exact wpAny_eqBool_int h
   .rw[Hy] at h; exact SeqAt.EqAt.int_str i t y u _ _ _ _ h
  .rcases dR hv with⟨j,u,rfl,rfl⟩ | ⟨y,u,rfl,rfl⟩
   .rw[G4] at h; exact SeqAt.EqAt.str_int x t j u _ _ _ _ h
   .rw[Gg] at h; exact wpAny_eqBool_str h
 «strs» := fun k x t v h=>by
  rcases dR h with⟨i,u,rfl,e⟩ | ⟨y,u,rfl,e⟩
  .exact nomatch e
  .injection e with e1 _
   subst e1
   cases v <;> rfl
theorem yC (prog:Program) (w:World) (i:Int) (t:Tok):(cm prog w).is (.inl i) (.int i t)=true:=BR i t
theorem yG (prog:Program) (w:World) (x:Str) (t:Tok):(cm prog w).is (.inr x) (.str x t)=true:=Bk x t
inductive V where
 | non | bl (b:Bool) | int (i:Int) | str (x:Str) | byt (b:Array UInt8) | flt (b:UInt64) | ref (a:Addr) | ty (n:String)
 deriving DecidableEq
def RelV:V->Value->Prop
 | .non,u=>u=Value.none
 | .bl b,u=>u=Value.bool b
 | .int i,u=> ∃t,u=Value.int i t
 | .str x,u=> ∃t,u=Value.str x t
 | .byt b,u=> ∃t,u=Value.bytes b t
 | .flt b,u=> ∃t,u=Value.float b t
 | .ref a,u=>u=Value.ref a
 | .ty n,u=>u=Value.type n
abbrev Vals:List V->List Value->Prop:=Paired RelV
theorem Vals.length {xs:List V}{us:List Value}(r:Vals xs us):xs.length=us.length:=ND r
theorem Vals.get: ∀ {xs:List V}{us:List Value}{i:Nat}{x:V},Vals xs us->xs[i]?=some x-> ∃u,us[i]?=some u/\RelV x u
 | _,_,_,_,.nil,e=>by simp at e
 | _,_,0,_,.cons r _,e=>by simp at e; subst e; exact⟨_,rfl,r⟩
 | _,_,i+1,x,.cons _ t,e=>by
  obtain⟨u,h1,h2⟩:=Vals.get (i:=i) (x:=x) t (by simpa using e)
  exact⟨u,by simpa using h1,h2⟩
theorem Vals.set {x:V}{u:Value}(r:RelV x u): ∀ {xs:List V}{us:List Value}(i:Nat),Vals xs us->Vals (xs.set i x) (us.set i u)
 | _,_,_,.nil=> .nil
 | _,_,0,.cons _ t=> .cons r t
 | _,_,i+1,.cons q t=> .cons q (Vals.set r i t)
theorem Vals.append: ∀ {xs ys:List V}{us ws:List Value},Vals xs us->Vals ys ws->Vals (xs++ys) (us++ws)
 | _,_,_,_,.nil,s=>s
 | _,_,_,_,.cons r t,s=> .cons r (Vals.append t s)
theorem Vals.take: ∀ {xs:List V}{us:List Value}(n:Nat),Vals xs us->Vals (xs.take n) (us.take n)
 | _,_,0,_=> .nil
 | _,_,_+1,.nil=> .nil
 | _,_,n+1,.cons r t=> .cons r (Vals.take n t)
theorem Vals.drop: ∀ {xs:List V}{us:List Value}(n:Nat),Vals xs us->Vals (xs.drop n) (us.drop n)
 | _,_,0,r=>r
 | _,_,_+1,.nil=> .nil
 | _,_,n+1,.cons _ t=>Vals.drop n t
def fR:Option V->Option Value->Prop
 | some v,some u=>RelV v u
 | none,none=>True
 | _,_=>False
def KV {κ:Type}:List (κ×V)->List (κ×Value)->Prop:=Paired fun (p:κ×V) (q:κ×Value)=>p.1=q.1/\RelV p.2 q.2
def kV:Key->V
 | .inl i=> .int i
 | .inr x=> .str x
inductive HO where
 | lst (xs:List V)
 | tup (xs:List V)
 | dK (kvs:List (Key×V)) | dT (kvs:List (List Key×V))
 | set (S:Int->Bool) (n:Nat)
 | ins (C dx:Addr) (fs:List (Str×V))
 | own (x:Addr)
 | xd (fs:List (Str×V))
 | met (f x:Addr)
 | OQ (lo hi:Int)
 | frz (o:Obj) (u:HO)
 | tbl (ps:Array Value)
 | ext (φ:Heap->Prop)
abbrev Hp:=Addr->Option HO
def upd (H:Hp) (a:Addr) (o:HO):Hp:=fun b=>if b=a then some o else H b
theorem af {H:Hp}{a:Addr}{o:HO}:upd H a o a=some o:=by unfold upd; rw[Ks rfl]
theorem ai {H:Hp}{a b:Addr}{o:HO}(h:b≠a):upd H a o b=H b:=by unfold upd; rw[Kp h]
theorem vd {H:Hp}{a:Addr}{o u:HO}:upd (upd H a o) a u=upd H a u:=by
 funext b; unfold upd; split <;> rfl
theorem eV {H:Hp}{a b:Addr}{o u:HO}(h:H a=some o) (h':H b=some u) (d:o≠u):a≠b:=by
 intro e; subst e; rw[h] at h'; exact d (KS h')
theorem az {H:Hp}{a b:Addr}{o:HO}(h:H a=some o) (h':H b=none):a≠b:=by
 intro e; subst e; rw[h] at h'; cases h'
section
variable (P:Program) (w:World)
def cZ (H:Hp) (h:Heap) (a:Addr):HO->Prop
 | .lst xs=>xs.length<=sizeLine/\ ∃(its:List Value) (n:Nat),Vals xs its/\h.get? a=some { cls:= .type "list",data:= .seq its.toArray n }
 | .tup xs=>xs.length<=sizeLine/\ ∃its:List Value,Vals xs its/\IsTup h a its.toArray
 | .dK kvs=>kvs.length<=sizeLine/\(a == sysModules)=false/\ ∃vs,KV kvs vs/\h.DictOf (cm P w) a vs
 | .dT kvs=>kvs.length<=sizeLine/\(a == sysModules)=false/\ ∃xs:List (List Key×Addr×Value),
   Paired (fun (p:List Key×V) (q:List Key×Addr×Value)=>p.1=q.1/\H q.2.1=some (.tup (p.1.map kV))/\RelV p.2 q.2.2) kvs xs /\
   ∃o es ep,h.get? a=some o/\o.ExactDict/\o.data= .dict es ep/\es.toList=xs.map (entryOfKey (tupleKind (cm P w)))/\(xs.map (·.1)).Nodup
 | .set S n=>h.SetOf (intKind P w) a S n
 | .ins C dx fs=>H dx=some (.own a)/\fs.length<=1000/\dx≠a/\h.get? a=some (PySem.W.instObj C dx) /\
   ∃mA,h.Ns1 dx mA/\(∀f,fR (fs.lookup f) (mA f))/\PySem.Within mA (fs.map (·.1))
 | .own _=> ∃o,h.get? a=some o
 | .xd fs=> ∃mA,h.Ns1 a mA/\ ∀f,fR (fs.lookup f) (mA f)
 | .OQ lo hi=> ∃t u v,h.get? a=some { cls:= .type "range",data:= .fields #[.int lo t,.int hi u,.int 1 v] }
 | .frz o u=>h.get? a=some o/\cZ H h a u
 | .tbl ps=>h.get? a=some { cls:= .none,data:= .fields ps }
 | .met f x=>h.get? a=some (PySem.W.methodObj (.ref f) (.ref x))
 | .ext φ=>φ h/\(∃o,h.get? a=some o)/\ ∀h1 h2:Heap,φ h1->(∀o,h1.get? a=some o->h2.get? a=some o)->φ h2
def Oq (H:Hp) (h:Heap):Prop:= ∀a o,H a=some o->cZ P w H h a o
end
section
variable {P:Program}{w:World}{H H':Hp}{h h':Heap}{a:Addr}{o:HO}
theorem cZ.lt (x:cZ P w H h a o):a < h.objs.size:=by
 cases o with
 | lst xs=>obtain⟨_,_,_,_,e⟩:=x; exact KJ e
 | tup xs=>obtain⟨_,_,_,p⟩:=x; exact p.lt
 | dK kvs=>obtain⟨_,_,_,_,o,_,_,e,_⟩:=x; exact KJ e
 | dT kvs=>obtain⟨_,_,_,_,o,_,_,e,_⟩:=x; exact KJ e
 | set S n=>obtain⟨o,_,_,_,e,_⟩:=x; exact KJ e
 | ins C dx fs=>obtain⟨_,_,_,e,_⟩:=x; exact KJ e
 | own y=>obtain⟨_,e⟩:=x; exact KJ e
 | xd fs=>obtain⟨_,⟨_,_,_,e,_⟩,_⟩:=x; exact KJ e
 | OQ lo hi=>obtain⟨_,_,_,e⟩:=x; exact KJ e
 | frz ob u=>obtain⟨e,_⟩:=x; exact KJ e
 | tbl ps=>exact KJ (show h.get? a=some _ from x)
 | met f y=>exact KJ (show h.get? a=some _ from x)
 | ext φ=>obtain⟨_,⟨_,e⟩,_⟩:=x; exact KJ e
theorem Paired.C9 {α β:Type}{F G:α->β->Prop}: ∀ {l₁:List α}{l₂:List β},Paired F l₁ l₂->(∀a b,F a b->G a b)->Paired G l₁ l₂
 | _,_,.nil,_=> .nil
 | _,_,.cons r t,f=> .cons (f _ _ r) (Paired.C9 t f)
theorem cZ.oi (x:cZ P w H h a o) (k: ∀b u,(b=a\/H b=some (.own a))->h.get? b=some u->h'.get? b=some u)
  (ho: ∀b,H b=some (.own a)->H' b=some (.own a)) (ht: ∀b xs,H b=some (.tup xs)->H' b=some (.tup xs)):cZ P w H' h' a o:=by
 induction o with
 | lst xs=>obtain⟨z,its,n,r,e⟩:=x; exact⟨z,its,n,r,k _ _ (.inl rfl) e⟩
 | tup xs=>obtain⟨z,its,r,ob,e,c⟩:=x; exact⟨z,its,r,ob,k _ _ (.inl rfl) e,c⟩
 | dK kvs=>obtain⟨z,y,vs,r,ob,es,ep,e,c⟩:=x; exact⟨z,y,vs,r,ob,es,ep,k _ _ (.inl rfl) e,c⟩
 | dT kvs =>
  obtain⟨z,y,xs,r,ob,es,ep,e,c⟩:=x
  exact⟨z,y,xs,Paired.C9 r fun p q z=>⟨z.1,ht _ _ z.2.1,z.2.2⟩,ob,es,ep,k _ _ (.inl rfl) e,c⟩
 | set S n=>obtain⟨ob,es,ep,t,e,c⟩:=x; exact⟨ob,es,ep,t,k _ _ (.inl rfl) e,c⟩
 | ins C dx fs =>
  obtain⟨d,z,ne,e,mA,⟨od,es,ep,e2,c⟩,r⟩:=x
  exact⟨ho _ d,z,ne,k _ _ (.inl rfl) e,mA,⟨od,es,ep,k _ _ (.inr d) e2,c⟩,r⟩
 | own y=>obtain⟨ob,e⟩:=x; exact⟨ob,k _ _ (.inl rfl) e⟩
 | xd fs=>obtain⟨mA,⟨od,es,ep,e,c⟩,r⟩:=x; exact⟨mA,⟨od,es,ep,k _ _ (.inl rfl) e,c⟩,r⟩
 | OQ lo hi=>obtain⟨t,u,v,e⟩:=x; exact⟨t,u,v,k _ _ (.inl rfl) e⟩
 | frz ob u ih=>obtain⟨e,q⟩:=x; exact⟨k _ _ (.inl rfl) e,ih q⟩
 | tbl ps =>
  have e:h.get? a=some { cls:= .none,data:= .fields ps }:=x
  show h'.get? a=some { cls:= .none,data:= .fields ps }
  exact k a _ (.inl rfl) e
 | met f y =>
  have e:h.get? a=some (PySem.W.methodObj (.ref f) (.ref y)):=x
  show h'.get? a=some (PySem.W.methodObj (.ref f) (.ref y))
  exact k a _ (.inl rfl) e
 | ext φ=>obtain⟨p,⟨o,e⟩,st⟩:=x; exact⟨st _ _ p fun o q=>k _ _ (.inl rfl) q,⟨o,k _ _ (.inl rfl) e⟩,st⟩
theorem Oq.lt (x:Oq P w H h) (e:H a=some o):a < h.objs.size:=(x a o e).lt
theorem Oq.fresh (x:Oq P w H h) (e:h.objs.size<=a):H a=none:=by
 cases q:H a with
 | none=>rfl
 | some u=>exact absurd (Lm (x.lt q) e) (L7 _)
theorem Oq.kept (x:Oq P w H h) (k: ∀b u,h.get? b=some u->h'.get? b=some u):Oq P w H h':=fun a o e =>
 (x a o e).oi (fun b u _ q=>k b u q) (fun _ q=>q) fun _ _ q=>q
theorem Oq.laid (x:Oq P w H h) (k: ∀b u,h.get? b=some u->h'.get? b=some u) (hp:h.objs.size<=a) (new:cZ P w (upd H a o) h' a o):Oq P w (upd H a o) h':=fun b u e=>by
 have hn:=x.fresh hp
 by_cases hb:b=a
 .subst hb; rw[af] at e; cases e; exact new
 .rw[ai hb] at e
  exact (x b u e).oi (fun c v _ q=>k c v q) (fun c q=>by rw[ai (az q hn)]; exact q) fun c xs q=>by rw[ai (az q hn)]; exact q
end
def Rd (H:Hp) (a:Addr) (u:HO):Prop:=H a=some u\/ ∃o,H a=some (.frz o u)
theorem Rd.ok {P:Program}{w:World}{H:Hp}{h:Heap}{a:Addr}{u:HO}(r:Rd H a u) (x:Oq P w H h):cZ P w H h a u:=by
 rcases r with r | ⟨o,r⟩
 .exact x a u r
 .obtain⟨_,q⟩:=x a _ r
  exact q
def Pu:Option HO->Prop
 | some (.lst _)=>True
 | some (.dK _)=>True
 | some (.dT _)=>True
 | some (.set _ _)=>True
 | some (.ins _ _ _)=>True
 | some (.ext _)=>True
 | _=>False
section
variable {P:Program}{w:World}{H:Hp}{h h':Heap}{x e:Addr}{o':HO}
theorem Oq.write (ok:Oq P w H h) (mu:Pu (H x)) (he:e=x\/H e=some (.own x)) (k: ∀b u,b≠e->h.get? b=some u->h'.get? b=some u) (heo: ∃u,h'.get? e=some u)
  (new:cZ P w (upd H x o') h' x o'):Oq P w (upd H x o') h':=fun b u q=>by
 have nown: ∀c y,H c=some (.own y)->c≠x:=fun c y r z=>by subst z; rw[r] at mu; exact mu
 have ntup: ∀c xs,H c=some (.tup xs)->c≠x:=fun c xs r z=>by subst z; rw[r] at mu; exact mu
 by_cases hb:b=x
 .subst hb; rw[af] at q; cases q; exact new
 .rw[ai hb] at q
  by_cases hbe:b=e
  .have q':H b=some (.own x):=by
    rcases he with z | z
    .exact absurd (hbe.trans z) hb
    .rw[hbe]; exact z
   rw[q] at q'; cases q'
   obtain⟨v,hv⟩:=heo
   exact⟨v,by rw[hbe]; exact hv⟩
  .refine (ok b u q).oi (fun c v hc r=>k c v ?_ r) (fun c r=>by rw[ai (nown c b r)]; exact r) fun c xs r=>by rw[ai (ntup c xs r)]; exact r
   rcases hc with rfl | hc
   .exact hbe
   .rintro rfl
    rcases he with z | z
    .exact nown c b hc z
    .rw[hc] at z; cases z; exact hb rfl
end
structure Un (fs ex:List Addr) (H H':Hp) (h h':Heap):Prop where
 keep: ∀b o,h.get? b=some o->H b=none->b∉fs->b∉ex->h'.get? b=some o
 slot: ∀b o,h.get? b=some o->H b=none->b∈fs->b∉ex-> ∃sl,h'.get? b=some { o with slots:=sl }
 free: ∀b o,h.get? b=some o->H b=none->b∉ex->H' b=none
 there: ∀b o,h.get? b=some o->b∉ex-> ∃o',h'.get? b=some o'
 tups: ∀b xs,H b=some (.tup xs)->H' b=some (.tup xs)
 frzs: ∀b o u,H b=some (.frz o u)->H' b=some (.frz o u)
 tbls: ∀b ps,H b=some (.tbl ps)-> ∃more,H' b=some (.tbl (ps++more))
section
variable {fs fs' ex ex':List Addr}{H H1 H2:Hp}{h h1 h2 h':Heap}{a x e:Addr}{o:HO}
theorem Un.any (u:Un fs ex H H1 h h1){b:Addr}{ob:Obj}(q:h.get? b=some ob) (n:H b=none) (hx:b∉ex): ∃sl,h1.get? b=some { ob with slots:=sl }:=by
 by_cases hb:b∈fs
 .exact u.slot b ob q n hb hx
 .exact⟨ob.slots,u.keep b ob q n hb hx⟩
theorem Un.kept (k: ∀b u,h.get? b=some u->h'.get? b=some u):Un fs ex H H h h' :=
 ⟨fun b ob q _ _ _=>k b ob q,fun b ob q _ _ _=>⟨ob.slots,k b ob q⟩,fun _ _ _ n _=>n,fun b ob q _=>⟨ob,k b ob q⟩,fun _ _ q=>q,fun _ _ _ q=>q,fun _ ps q=>⟨#[],by rw[q]; simp⟩⟩
theorem Un.refl:Un fs ex H H h h:=Un.kept fun _ _ q=>q
theorem Un.laid (k: ∀b u,h.get? b=some u->h'.get? b=some u) (hp:h.objs.size<=a) (hn:H a=none):Un fs ex H (upd H a o) h h' where
 keep:=fun b u q _ _ _=>k b u q
 slot:=fun b u q _ _ _=>⟨u.slots,k b u q⟩
 free:=fun b u q n _=>by rw[ai (K4 (Lm (KJ q) hp))]; exact n
 there:=fun b u q _=>⟨u,k b u q⟩
 tups:=fun b xs q=>by rw[ai (az q hn)]; exact q
 frzs:=fun b u xs q=>by rw[ai (az q hn)]; exact q
 tbls:=fun b ps q=>⟨#[],by rw[ai (az q hn),q]; simp⟩
theorem Un.write (mu:Pu (H x)) (he:e=x\/H e=some (.own x)) (k: ∀b u,b≠e->h.get? b=some u->h'.get? b=some u) (heo: ∃u,h'.get? e=some u):Un fs ex H (upd H x o) h h':=by
 have hx: ∀b,H b=none->b≠x:=fun b n z=>by subst z; rw[n] at mu; exact mu
 have hb: ∀b,H b=none->b≠e:=fun b n z=>by
  subst z
  rcases he with r | r
  .exact hx b n r
  .rw[n] at r; cases r
 have hm: ∀b u,H b=some u-> ¬Pu (some u)->b≠x:=fun b u q nm z=>by subst z; rw[q] at mu; exact nm mu
 refine⟨fun b u q n _ _=>k b u (hb b n) q,fun b u q n _ _=>⟨u.slots,k b u (hb b n) q⟩,fun b u q n _=>by rw[ai (hx b n)]; exact n,fun b u q _=>?_,
  fun b xs q=>by rw[ai (hm b _ q fun z=>z)]; exact q,fun b u xs q=>by rw[ai (hm b _ q fun z=>z)]; exact q,fun b ps q=>⟨#[],by rw[ai (hm b _ q fun z=>z),q]; simp⟩⟩
 by_cases hbe:b=e
 .subst hbe; exact heo
 .exact⟨u,k b u hbe q⟩
end
def PN (h:Heap) (H:Hp):List Addr:=(List.range h.objs.size).filter fun a=>(H a).isSome
def pK (h:Heap) (H:Hp):Heap:=PySem.W.hideAll h (PN h H)
theorem Be (h:Heap) (H:Hp):(pK h H).objs.size=h.objs.size:=PySem.W.hideAll_size _ _
theorem CJ {h:Heap}{H:Hp}{b:Addr}{o:Obj}(e:h.get? b=some o) (n:H b=none):(pK h H).get? b=some o :=
 PySem.W.hideAll_get _ e fun hm=>by
  have q:(H b).isSome=true:=(Li.mp hm).2
  rw[n] at q; simp at q
theorem Eu {h:Heap}{H:Hp}{b:Addr}{o:Obj}(e:(pK h H).get? b=some o):h.get? b=some o/\H b=none:=by
 have e':h.get? b=some o:=PySem.W.of_hideAll (PN h H) e
 refine⟨e',?_⟩
 cases q:H b with
 | none=>rfl
 | some x =>
  have hm:b∈PN h H:=Li.mpr ⟨KZ.mpr (KJ e'),by simp[q]⟩
  have z:(pK h H).get? b=none:=PySem.W.hideAll_none (PN h H) hm
  rw[z] at e; cases e
def EY (g h:Heap) (L:Addr):List (Addr×Obj):=(List.range h.objs.size).filterMap fun a=>if a=L\/(g.get? a).isSome=true then none else (h.get? a).map fun o=>(a,o)
def rest (g h:Heap) (L d:Addr):List (Addr×Obj):=(EY g h L).filter fun p=>decide (p.1≠d)
structure Mod (K:N7) (mg:Str->Option Value) (base:Heap):Prop where
 kin:K.In base
 glob:base.Ns mainGlobals mg
 blt: ∃mb,base.Ns builtinsNs mb/\ ∀x:Str,x≠ "__name__" -> mb x=bootBuiltins x
 nolimit:base.NoLimit
structure Cx where
 prog:Program
 w:World
 K:N7
 mg:Str->Option Value
 base:Heap
 A:Around
 N:List Str
 s₀:Shared
 H₀:Hp
 env:Env
 outer:List Env
 stack:List Env
 ex:List Addr
 fn:Str->Bool
 calm:Bool
 pn:List (Addr×Obj)
 xe:Value->Shared->Prop
def OP (l:List Env):List Addr:=l.filterMap (·.frame)
abbrev Cx.fs (X:Cx):List Addr:=OP X.outer
def PK (sc:Scope) (x:Str):Prop:=sc.names.lookup x=some .local\/sc.names.lookup x=some .cell\/sc.names.lookup x=some .free
def Loc (sc:Scope) (x:Str):Prop:=sc.names.lookup x=some .local\/sc.names.lookup x=some .cell
def Look (env:Env) (h:Heap) (m:Str->Option Value) (x:Str) (u:Value):Prop :=
 (env.kindOf x=some .local/\m x=some u)\/((env.kindOf x=some .cell\/env.kindOf x=some .free)/\ ∃c,env.cells.lookup x=some c/\h.IsCell c (some u))
structure Cx.Ok (X:Cx):Prop where
 mod:Mod X.K X.mg X.base
 kind:X.env.scope.kind= .function
 glob:X.env.globals=mainGlobals
 blt:X.env.builtins=builtinsNs
 above:X.s₀.heap.objs.size<=X.env.locals
 inj: ∀x y c,X.env.cells.lookup x=some c->X.env.cells.lookup y=some c->x=y
 has: ∀x,(X.env.kindOf x=some .cell\/X.env.kindOf x=some .free)-> ∃c,X.env.cells.lookup x=some c
 cab: ∀x c,X.fn x=true->X.env.cells.lookup x=some c->X.s₀.heap.objs.size<=c
 hd:X.calm=true->X.A.handled=none
 frames:X.A.frames=some X.stack
 stk:X.stack=X.outer\/(X.stack=X.env::X.outer/\X.env.frame=some X.env.locals)
 exf: ∀b∈X.ex,b≠X.env.locals/\ ∀x c,X.env.cells.lookup x=some c->c≠b
 bs: ∀b o,X.base.get? b=some o->X.s₀.heap.get? b=some o/\X.H₀ b=none
 bsz:X.base.objs.size<=X.s₀.heap.objs.size
 noex: ∀b o,X.base.get? b=some o->b∉X.ex
 exfs: ∀b∈X.ex,b∉X.fs
 fu:X.s₀.heap.FunFrames X.base X.outer
 frf: ∀b∈X.fs,X.H₀ b=none
structure Inv (X:Cx) (N3:List (Addr×Obj)) (σ:List (Option V)) (H:Hp) (s:Shared):Prop where
 ok:X.Ok
 os:s.os=X.s₀.os
 bare:AllBare s.gens
 base:Un X.fs X.ex X.H₀ H X.s₀.heap s.heap
 loc: ∃m,s.heap.Ns X.env.locals m/\ ∀(i:Nat) (x:Str) (v:V),X.N[i]?=some x->σ[i]?=some (some v)->PK X.env.scope x-> ∃u,RelV v u/\Look X.env s.heap m x u
 cell: ∀x c,X.env.cells.lookup x=some c-> ∃v,s.heap.IsCell c v
 free:H X.env.locals=none
 freeC: ∀x c,X.env.cells.lookup x=some c->H c=none
 pin: ∀p∈X.pn++N3,s.heap.get? p.1=some p.2/\H p.1=none/\p.1≠X.env.locals/\p.1∉X.fs/\ ∀v,p.2.data≠ .cell v
 hok:Oq X.prog X.w H s.heap
 len:σ.length=X.N.length
section
variable {X:Cx}{N3:List (Addr×Obj)}{σ:List (Option V)}{H H':Hp}{s:Shared}{h':Heap}
theorem Cx.Ok.Jy (ok:X.Ok){b:Addr}{o:Obj}(e:X.base.get? b=some o):b∉X.fs:=fun hb=>by
 have:=(ok.fu.mem hb).1
 rw[e] at this; cases this
theorem Inv.bs (I:Inv X N3 σ H s): ∀b o,X.base.get? b=some o->s.heap.get? b=some o/\H b=none:=fun b o e =>
 ⟨I.base.keep b o (I.ok.bs b o e).1 (I.ok.bs b o e).2 (I.ok.Jy e) (I.ok.noex b o e),I.base.free b o (I.ok.bs b o e).1 (I.ok.bs b o e).2 (I.ok.noex b o e)⟩
theorem Inv.bk (I:Inv X N3 σ H s): ∀b o,X.base.get? b=some o->s.heap.get? b=some o:=fun b o e=>(I.bs b o e).1
theorem Inv.mod (I:Inv X N3 σ H s):Mod X.K X.mg X.base:=I.ok.mod
theorem Inv.OJ (I:Inv X N3 σ H s):X.K.In s.heap:=I.ok.mod.kin.keeps I.bk
theorem Inv.fr (I:Inv X N3 σ H s): ∃m,Fr X.base X.env.locals s.heap m :=
 let ⟨m,hn,_⟩:=I.loc
 ⟨m,hn,I.bk,KR I.ok.bsz I.ok.above⟩
theorem Inv.lt (I:Inv X N3 σ H s):X.env.locals < s.heap.objs.size:=let ⟨_,hn,_⟩:=I.loc; hn.lt
theorem Inv.sz (I:Inv X N3 σ H s):X.s₀.heap.objs.size<=s.heap.objs.size:=KR I.ok.above (K7 I.lt)
theorem Inv.JH (I:Inv X N3 σ H s){a:Addr}(h:s.heap.objs.size<=a):a∉X.fs:=fun hb=>by
 obtain⟨_,o,ho,_⟩:=I.ok.fu.mem hb
 exact absurd (Lm (KJ ho) (KR I.sz h)) (L7 _)
theorem Inv.Pj (I:Inv X N3 σ H s): ∀x c,X.env.cells.lookup x=some c->c≠X.env.locals:=fun x c e z=>by
 obtain⟨v,o,ho,hd⟩:=I.cell x c e
 obtain⟨m,⟨o',es,ep,ho',hd',_⟩,_⟩:=I.loc
 rw[z,ho'] at ho; cases ho; rw[hd'] at hd; cases hd
theorem Inv.fu (I:Inv X N3 σ H s):s.heap.FunFrames X.base X.outer:=by
 have all: ∀(l:List Env),(∀b∈OP l,b∈X.fs)->X.s₀.heap.FunFrames X.base l->s.heap.FunFrames X.base l:=by
  intro l
  induction l with
  | nil=>intro _ _; trivial
  | cons env r ih =>
   intro hs hl
   obtain⟨hk,⟨L,o,hf,hn,ho,hd⟩,hr⟩:=hl
   have hL:L∈X.fs:=hs L (by unfold OP; rw[Nq,hf]; exact KG)
   obtain⟨sl,e⟩:=I.base.slot L o ho (I.ok.frf L hL) hL fun z=>I.ok.exfs L z hL
   exact⟨hk,⟨L,_,hf,hn,e,hd⟩,ih (fun b hb=>hs b (by unfold OP; rw[Nq,hf]; exact KD _ hb)) hr⟩
 exact all X.outer (fun _ hb=>hb) I.ok.fu
theorem Inv.stack (I:Inv X N3 σ H s):s.heap.FunFrames X.base X.stack:=by
 rcases I.ok.stk with e | ⟨e,hf⟩
 .rw[e]; exact I.fu
 .rw[e]
  obtain⟨m,hn,_⟩:=I.loc
  refine .cons (by rw[I.ok.kind]; decide) hf hn ?_ I.fu
  exact Nc (KR I.ok.bsz I.ok.above)
theorem Inv.uh (I:Inv X N3 σ H s): ∀b∈OP X.stack,b∈X.env.locals::X.fs:=fun b hb=>by
 rcases I.ok.stk with e | ⟨e,hf⟩
 .rw[e] at hb; exact KD _ hb
 .rw[e] at hb
  unfold OP at hb
  rw[Nq,hf] at hb
  exact hb
theorem Inv.u9 (I:Inv X N3 σ H s): ∀b∈OP X.stack,H b=none:=fun b hb=>by
 rcases Kz.mp (I.uh b hb) with e | hb
 .rw[e]; exact I.free
 .obtain⟨_,o,ho,_⟩:=I.ok.fu.mem hb
  exact I.base.free b o ho (I.ok.frf b hb) fun z=>I.ok.exfs b z hb
theorem Inv.step {g':Array GenState}{t':Nat}{d':Drawn}{ch:List Addr}(I:Inv X N3 σ H s)
  (hch: ∀b∈ch,(b∈X.ex\/X.s₀.heap.objs.size<=b)/\b≠X.env.locals/\(∀x c,X.env.cells.lookup x=some c->c≠b)/\ ∀p∈X.pn++N3,p.1≠b)
  (keep: ∀b o,b≠X.env.locals->b∉X.fs->b∉ch->s.heap.get? b=some o->H b=none->h'.get? b=some o)
  (slot: ∀b o,b≠X.env.locals->b∈X.fs->b∉ch->s.heap.get? b=some o->H b=none-> ∃sl,h'.get? b=some { o with slots:=sl }) (free: ∀b o,b∉ch->s.heap.get? b=some o->H b=none->H' b=none)
  (there: ∀b o,b∉ch->s.heap.get? b=some o-> ∃o',h'.get? b=some o')
  (tups: ∀b xs,H b=some (.tup xs)->H' b=some (.tup xs)) (frzs: ∀b o u,H b=some (.frz o u)->H' b=some (.frz o u)) (tbls: ∀b ps,H b=some (.tbl ps)-> ∃more,H' b=some (.tbl (ps++more)))
  (ns: ∀m,s.heap.Ns X.env.locals m->h'.Ns X.env.locals m) (hok:Oq X.prog X.w H' h') (hg:AllBare g') :
  Inv X N3 σ H' { s with heap:=h',gens:=g',drawn:=d',toks:=t' }:=by
 have neL: ∀b o,X.s₀.heap.get? b=some o->b≠X.env.locals:=fun b o e=>K4 (Lm (KJ e) I.ok.above)
 have neC: ∀b o,X.s₀.heap.get? b=some o->b∉X.ex->b∉ch:=fun b o e hx hb=>by
  rcases (hch b hb).1 with z | z
  .exact hx z
  .exact absurd (Lm (KJ e) z) (L7 _)
 have cellK: ∀x c,X.env.cells.lookup x=some c-> ∀v,s.heap.IsCell c v->h'.IsCell c v:=fun x c e v ⟨o,ho,hd⟩=>by
  have nch:c∉ch:=fun z=>(hch c z).2.2.1 x c e rfl
  by_cases hc:c∈X.fs
  .obtain⟨sl,q⟩:=slot c o (I.Pj x c e) hc nch ho (I.freeC x c e)
   exact⟨_,q,hd⟩
  .exact⟨o,keep c o (I.Pj x c e) hc nch ho (I.freeC x c e),hd⟩
 refine⟨I.ok,I.os,hg,⟨fun b o e n hb hx=>?_,fun b o e n hb hx=>?_,fun b o e n hx=>?_,fun b o e hx=>?_,fun b xs e=>tups b xs (I.base.tups b xs e),fun b o xs e=>frzs b o xs (I.base.frzs b o xs e),fun b ps e=>?_⟩,?_,fun x c e=>?_,?_,fun x c e=>?_,fun p hp=>?_,hok,I.len⟩
 .exact keep b o (neL b o e) hb (neC b o e hx) (I.base.keep b o e n hb hx) (I.base.free b o e n hx)
 .obtain⟨sl,e1⟩:=I.base.slot b o e n hb hx
  obtain⟨sl',e2⟩:=slot b _ (neL b o e) hb (neC b o e hx) e1 (I.base.free b o e n hx)
  exact⟨sl',e2⟩
 .obtain⟨o',e1⟩:=I.base.there b o e hx
  exact free b o' (neC b o e hx) e1 (I.base.free b o e n hx)
 .obtain⟨o',e1⟩:=I.base.there b o e hx
  exact there b o' (neC b o e hx) e1
 .obtain⟨m1,e1⟩:=I.base.tbls b ps e
  obtain⟨m2,e2⟩:=tbls b _ e1
  exact⟨m1++m2,by rw[e2,Array.append_assoc]⟩
 .obtain⟨m,hn,hl⟩:=I.loc
  refine⟨m,ns m hn,fun i x v e1 e2 e3=>?_⟩
  obtain⟨u,r,l⟩:=hl i x v e1 e2 e3
  refine⟨u,r,?_⟩
  rcases l with l | ⟨k,c,e,z⟩
  .exact .inl l
  .exact .inr ⟨k,c,e,cellK x c e _ z⟩
 .obtain⟨v,z⟩:=I.cell x c e
  exact⟨v,cellK x c e v z⟩
 .obtain⟨m,⟨o,_,_,ho,_⟩,_⟩:=I.loc
  exact free _ o (fun z=>(hch _ z).2.1 rfl) ho I.free
 .obtain⟨v,o,ho,hd⟩:=I.cell x c e
  exact free c o (fun z=>(hch c z).2.2.1 x c e rfl) ho (I.freeC x c e)
 .obtain⟨e,n,ne,nf,d⟩:=I.pin p hp
  have nch:p.1∉ch:=fun z=>(hch p.1 z).2.2.2 p hp rfl
  exact⟨keep p.1 p.2 ne nf nch e n,free p.1 p.2 nch e n,ne,nf,d⟩
theorem Inv.un {t':Nat}(I:Inv X N3 σ H s) (u:Un X.fs [] H H' s.heap h') (hok:Oq X.prog X.w H' h'):Inv X N3 σ H' { s with heap:=h',toks:=t' }:=by
 obtain⟨m,⟨o,es,ep,ho,r⟩,_⟩:=id I.loc
 obtain⟨sl,hL⟩:=u.any ho I.free (by simp)
 exact I.step (g':=s.gens) (d':=s.drawn) (ch:=[]) (fun _ z=>nomatch z) (fun b o _ hb _ e n=>u.keep b o e n hb (by simp)) (fun b o _ hb _ e n=>u.slot b o e n hb (by simp)) (fun b o _ e n=>u.free b o e n (by simp)) (fun b o _ e=>u.there b o e (by simp)) u.tups u.frzs u.tbls (fun m' hm=>by
  obtain⟨o',es',ep',ho',r'⟩:=hm
  rw[ho] at ho'; cases ho'
  exact⟨_,es',ep',hL,r'⟩) hok I.bare
theorem Inv.call {g':Array GenState}{t':Nat}{d':Drawn}{ch:List Addr}(I:Inv X N3 σ H s) (u:Un (OP X.stack) ch H H' s.heap h') (hok:Oq X.prog X.w H' h') (hg:AllBare g')
  (hch: ∀b∈ch,(b∈X.ex\/X.s₀.heap.objs.size<=b)/\b≠X.env.locals/\(∀x c,X.env.cells.lookup x=some c->c≠b)/\ ∀p∈X.pn++N3,p.1≠b) :
  Inv X N3 σ H' { s with heap:=h',gens:=g',drawn:=d',toks:=t' }:=by
 obtain⟨m,⟨o,es,ep,ho,r⟩,_⟩:=id I.loc
 obtain⟨sl,hL⟩:=u.any ho I.free fun z=>(hch _ z).2.1 rfl
 exact I.step (ch:=ch) hch (fun b o hL hb hc e n=>u.keep b o e n (fun z=>(Kz.mp (I.uh b z)).elim hL hb) hc) (fun b o _ _ hc e n=>u.any e n hc) (fun b o hc e n=>u.free b o e n hc) (fun b o hc e=>u.there b o e hc) u.tups u.frzs u.tbls (fun m' hm=>by
  obtain⟨o',es',ep',ho',r'⟩:=hm
  rw[ho] at ho'; cases ho'
  exact⟨_,es',ep',hL,r'⟩) hok hg
theorem Inv.turned {t':Nat}{it:Addr}(I:Inv X N3 σ H s) (k: ∀b o,b≠it->s.heap.get? b=some o->h'.get? b=some o) (hn:H it=none) (hL:it≠X.env.locals)
  (h1:it∈X.ex\/X.s₀.heap.objs.size<=it) (h2: ∀x c,X.env.cells.lookup x=some c->c≠it) (h3: ∀p∈X.pn++N3,p.1≠it):Inv X N3 σ H { s with heap:=h',toks:=t' }:=by
 have nit: ∀b u,H b=some u->b≠it:=fun b u e z=>by rw[z,hn] at e; cases e
 refine I.step (g':=s.gens) (d':=s.drawn) (ch:=[it]) (fun b hb=>?_) (fun b o _ _ hc e _=>k b o (fun z=>hc (by simp[z])) e) (fun b o _ _ hc e _=>⟨o.slots,k b o (fun z=>hc (by simp[z])) e⟩) (fun _ _ _ _ n=>n)
  (fun b o hc e=>⟨o,k b o (fun z=>hc (by simp[z])) e⟩) (fun _ _ e=>e) (fun _ _ _ e=>e) (fun b ps e=>⟨#[],by rw[e]; simp⟩) (fun m hm=>?_) (fun b u e=>?_) I.bare
 .have e:b=it:=by simpa using hb
  subst e
  exact⟨h1,hL,h2,h3⟩
 .obtain⟨o,es,ep,ho,r⟩:=hm
  exact⟨o,es,ep,k _ o (K2 hL) ho,r⟩
 .refine (I.hok b u e).oi (fun c v hc q=>k c v ?_ q) (fun _ q=>q) fun _ _ q=>q
  rcases hc with z | z
  .rw[z]; exact nit b u e
  .exact nit c _ z
theorem Inv.tok (I:Inv X N3 σ H s) (t:Nat):Inv X N3 σ H { s with toks:=t }:=I.un (h':=s.heap) (t':=t) Un.refl I.hok
theorem Inv.kept {t':Nat}(I:Inv X N3 σ H s) (k: ∀b u,s.heap.get? b=some u->h'.get? b=some u):Inv X N3 σ H { s with heap:=h',toks:=t' }:=I.un (Un.kept k) (I.hok.kept k)
theorem Inv.laid {a:Addr}{o:HO}{t':Nat}(I:Inv X N3 σ H s) (k: ∀b u,s.heap.get? b=some u->h'.get? b=some u) (hp:s.heap.objs.size<=a) (new:cZ X.prog X.w (upd H a o) h' a o) :
  Inv X N3 σ (upd H a o) { s with heap:=h',toks:=t' }:=I.un (Un.laid k hp (I.hok.fresh hp)) (I.hok.laid k hp new)
theorem Inv.write {x e:Addr}{o:HO}{t':Nat}(I:Inv X N3 σ H s) (mu:Pu (H x)) (he:e=x\/H e=some (.own x)) (k: ∀b u,b≠e->s.heap.get? b=some u->h'.get? b=some u) (heo: ∃u,h'.get? e=some u)
  (new:cZ X.prog X.w (upd H x o) h' x o):Inv X N3 σ (upd H x o) { s with heap:=h',toks:=t' }:=I.un (Un.write mu he k heo) (I.hok.write mu he k heo new)
theorem Inv.weak {σ':List (Option V)}(I:Inv X N3 σ H s) (hl:σ'.length=σ.length) (w: ∀(i:Nat) v,σ'[i]?=some (some v)->σ[i]?=some (some v)):Inv X N3 σ' H s :=
 ⟨I.ok,I.os,I.bare,I.base,let ⟨m,hn,hl'⟩:=I.loc; ⟨m,hn,fun i x v e1 e2 e3=>hl' i x v e1 (w i v e2) e3⟩,I.cell,I.free,I.freeC,I.pin,I.hok,hl.trans I.len⟩
theorem Inv.jY {pins':List (Addr×Obj)}(I:Inv X N3 σ H s) (h: ∀p∈pins',s.heap.get? p.1=some p.2/\H p.1=none/\p.1≠X.env.locals/\p.1∉X.fs/\ ∀v,p.2.data≠ .cell v):Inv X pins' σ H s :=
 ⟨I.ok,I.os,I.bare,I.base,I.loc,I.cell,I.free,I.freeC,fun p hp=>(KI.mp hp).elim (fun z=>I.pin p (Lo _ z)) (h p),I.hok,I.len⟩
theorem xn {N:List Str}(hN:N.Nodup){i j:Nat}{x:Str}(a:N[i]?=some x) (b:N[j]?=some x):i=j:=by
 obtain⟨h1,e1⟩:=Ky.mp a
 obtain⟨h2,e2⟩:=Ky.mp b
 exact (NN hN).mp (e1.trans e2.symm)
theorem vK {M:Model}{A:Around}{E:Value->Shared->Prop}{i:Nat}{x:Str}{v:V}{u:Value}{Q:Unit->Shared->Prop}(I:Inv X N3 σ H s) (hN:X.N.Nodup) (hi:X.N[i]?=some x) (hx:Loc X.env.scope x) (r:RelV v u)
  (h: ∀s',Inv X N3 (σ.set i (some v)) H s'->(∃a,Heap.SameBut a s.heap s'.heap/\(a=X.env.locals\/X.env.cells.lookup x=some a))->Q () s') (hf:X.fn x=true\/X.env.scope.names.lookup x=some .local:=by first | exact .inl rfl | exact .inr rfl | assumption):wpAny M A (storeName X.env x u) Q E s:=by
 obtain⟨m,hn,hl⟩:=id I.loc
 have hcls:(X.env.scope.kind == .class || (X.env.scope.kind == .module && X.env.locals !=X.env.globals))=false:=by rw[I.ok.kind]; rfl
 have hiσ:i < σ.length:=by rw[I.len]; exact (Ky.mp hi).1
 have Pj:=I.Pj
 have tracked: ∀ {a:Addr}{h':Heap},(∃o,s.heap.get? a=some o/\H a=none)->Heap.SameBut a s.heap h'->Oq X.prog X.w H h':=fun {a h'} ha hs b ob e=>by
  obtain⟨_,_,hfree⟩:=ha
  refine (I.hok b ob e).oi (fun c w' hc q=>(hs.2 c ?_).trans q) (fun _ q=>q) fun _ _ q=>q
  rintro rfl
  rcases hc with rfl | hc
  .rw[hfree] at e; cases e
  .rw[hfree] at hc; cases hc
 rcases hx with hk | hk
 .refine wpAny_storeName_local hk hn (fun h' hn' hs=>?_) hcls
  obtain⟨oL,_,_,hoL,_⟩:=id hn
  refine h _ ⟨I.ok,I.os,I.bare,⟨fun b o e n hb hx=>?_,fun b o e n hb hx=>?_,I.base.free,fun b o e hx=>?_,I.base.tups,I.base.frzs,I.base.tbls⟩,⟨_,hn',fun j y v' e1 e2 e3=>?_⟩,fun y c e=>?_,I.free,I.freeC,fun p hp=>?_,tracked ⟨oL,hoL,I.free⟩ hs,by simpa using I.len⟩ ⟨_,hs,.inl rfl⟩
  .exact (hs.2 b (K4 (Lm (KJ e) I.ok.above))).trans (I.base.keep b o e n hb hx)
  .obtain⟨sl,e1⟩:=I.base.slot b o e n hb hx
   exact⟨sl,(hs.2 b (K4 (Lm (KJ e) I.ok.above))).trans e1⟩
  .obtain⟨o',e1⟩:=I.base.there b o e hx
   exact⟨o',(hs.2 b (K4 (Lm (KJ e) I.ok.above))).trans e1⟩
  .by_cases hj:j=i
   .subst hj
    rw[hi] at e1; cases e1
    rw[List.getElem?_set_self hiσ] at e2
    cases e2
    exact⟨u,r,.inl ⟨hk,by simp⟩⟩
   .rw[Nd (K2 hj)] at e2
    obtain⟨u',r',q⟩:=hl j y v' e1 e2 e3
    refine⟨u',r',?_⟩
    rcases q with⟨k,e⟩ | ⟨k,c,e,z⟩
    .refine .inl ⟨k,?_⟩
     have:y≠x:=fun e=>hj (xn hN e1 (e▸hi))
     simp[this,e]
    .exact .inr ⟨k,c,e,z.sameBut hs (Pj y c e)⟩
  .obtain⟨w',z⟩:=I.cell y c e
   exact⟨w',z.sameBut hs (Pj y c e)⟩
  .obtain⟨e,n,ne,nf,d⟩:=I.pin p hp
   exact⟨(hs.2 p.1 ne).trans e,n,ne,nf,d⟩
 .have hfn:X.fn x=true:=by
   rcases hf with z | z
   .exact z
   .rw[z] at hk; cases hk
  obtain⟨c,hc⟩:=I.ok.has x (.inl hk)
  obtain⟨w',z⟩:=I.cell x c hc
  refine wpAny_storeName_cell I.ok.kind hk hc z (fun h' hc' hs=>?_)
  obtain⟨oc,hoc,hocd⟩:=id z
  refine h { s with heap:=h' } ⟨I.ok,I.os,I.bare,⟨fun b o e n hb hx=>?_,fun b o e n hb hx=>?_,I.base.free,fun b o e hx=>?_,I.base.tups,I.base.frzs,I.base.tbls⟩,⟨m,hn.sameBut hs (K2 (Pj x c hc)),fun j y v' e1 e2 e3=>?_⟩,fun y c' e=>?_,I.free,I.freeC,fun p hp=>?_,tracked ⟨oc,hoc,I.freeC x c hc⟩ hs,by simpa using I.len⟩ ⟨c,hs,.inr hc⟩
  .exact (hs.2 b (K4 (Lm (KJ e) (I.ok.cab x c hfn hc)))).trans (I.base.keep b o e n hb hx)
  .obtain⟨sl,e1⟩:=I.base.slot b o e n hb hx
   exact⟨sl,(hs.2 b (K4 (Lm (KJ e) (I.ok.cab x c hfn hc)))).trans e1⟩
  .obtain⟨o',e1⟩:=I.base.there b o e hx
   exact⟨o',(hs.2 b (K4 (Lm (KJ e) (I.ok.cab x c hfn hc)))).trans e1⟩
  .by_cases hj:j=i
   .subst hj
    rw[hi] at e1; cases e1
    rw[List.getElem?_set_self hiσ] at e2
    cases e2
    exact⟨u,r,.inr ⟨.inl hk,c,hc,hc'⟩⟩
   .rw[Nd (K2 hj)] at e2
    obtain⟨u',r',q⟩:=hl j y v' e1 e2 e3
    refine⟨u',r',?_⟩
    rcases q with q | ⟨k,c',e,z'⟩
    .exact .inl q
    .refine .inr ⟨k,c',e,z'.sameBut hs ?_⟩
     rintro rfl
     exact hj (xn hN e1 (I.ok.inj _ _ _ e hc▸hi))
  .by_cases hcc:c'=c
   .subst hcc; exact⟨_,hc'⟩
   .obtain⟨w2,z2⟩:=I.cell y c' e
    exact⟨w2,z2.sameBut hs hcc⟩
  .obtain⟨e,n,ne,nf,d⟩:=I.pin p hp
   refine⟨(hs.2 p.1 ?_).trans e,n,ne,nf,d⟩
   intro q
   rw[q,hoc] at e
   have q':oc=p.2:=KS e
   exact d w' (by rw[<-q']; exact hocd)
theorem iY {M:Model}{A:Around}{E:Value->Shared->Prop}{i:Nat}{x:Str}{v:V}{u:Value}{Q:Unit->Shared->Prop}(I:Inv X N3 σ H s) (hN:X.N.Nodup) (hi:X.N[i]?=some x) (hx:Loc X.env.scope x) (r:RelV v u)
  (h: ∀s',Inv X N3 (σ.set i (some v)) H s'->Q () s') (hf:X.fn x=true\/X.env.scope.names.lookup x=some .local:=by first | exact .inl rfl | exact .inr rfl | assumption):wpAny M A (storeName X.env x u) Q E s :=
 vK I hN hi hx r (fun s' I' _=>h s' I') hf
theorem Inv.Aj {s':Shared}{ch:List Addr}(I:Inv X N3 σ H s) (ho:s'.os=s.os) (u:Un (OP X.stack) ch H H' s.heap s'.heap) (hok:Oq X.prog X.w H' s'.heap) (hg:AllBare s'.gens)
  (hch: ∀b∈ch,(b∈X.ex\/X.s₀.heap.objs.size<=b)/\b≠X.env.locals/\(∀x c,X.env.cells.lookup x=some c->c≠b)/\ ∀p∈X.pn++N3,p.1≠b):Inv X N3 σ H' s':=by
 obtain⟨h',g',d',t',o'⟩:=s'
 have e:o'=s.os:=ho
 subst e
 exact I.call (g':=g') (t':=t') (d':=d') u hok hg hch
end
abbrev XK:=Value->Option Addr->Hp->Prop
abbrev St:=List (Option V)
abbrev VK:=V->Hp->Prop
abbrev TE:=St->Hp->VK->Prop
abbrev TT:=St->Hp->(Bool->Hp->Prop)->Prop
abbrev TA:=St->Hp->(List V->Hp->Prop)->Prop
structure Ends where
 nx:St->Hp->Prop
 rt:VK
 bk:St->Hp->Prop:=fun _ _=>False
 ct:St->Hp->Prop:=fun _ _=>False
abbrev TS:=Ends->St->Hp->Prop
def EP (X:Cx) (N3:List (Addr×Obj)) (σ:St) (Q:VK) (u:Value) (s':Shared):Prop:= ∃v H',Inv X N3 σ H' s'/\RelV v u/\Q v H'
def TP (X:Cx) (N3:List (Addr×Obj)) (σ:St) (Q:Bool->Hp->Prop) (b:Bool) (s':Shared):Prop:= ∃H',Inv X N3 σ H' s'/\Q b H'
def AP (X:Cx) (N3:List (Addr×Obj)) (σ:St) (Q:List V->Hp->Prop) (us:List Value) (s':Shared):Prop:= ∃vs H',Inv X N3 σ H' s'/\Vals vs us/\Q vs H'
def SP (X:Cx) (N3:List (Addr×Obj)) (D:Ends) (f:Flow) (s':Shared):Prop :=
 match f with
 | .next=> ∃σ' H',Inv X N3 σ' H' s'/\D.nx σ' H'
 | .brk=> ∃σ' H',Inv X N3 σ' H' s'/\D.bk σ' H'
 | .cont=> ∃σ' H',Inv X N3 σ' H' s'/\D.ct σ' H'
 | .ret u=> ∃v σ' H',Inv X N3 σ' H' s'/\RelV v u/\D.rt v H'
def PE (X:Cx) (e:Expr) (t:TE):Prop :=
 ∀(N3:List (Addr×Obj)) (s:Shared) (σ:St) (H:Hp) (Q:VK),Inv X N3 σ H s->t σ H Q->wpAny (model X.prog X.w) X.A (eval e X.env) (EP X N3 σ Q) X.xe s
def PT (X:Cx) (e:Expr) (t:TT):Prop :=
 ∀(N3:List (Addr×Obj)) (s:Shared) (σ:St) (H:Hp) (Q:Bool->Hp->Prop),Inv X N3 σ H s->t σ H Q->wpAny (model X.prog X.w) X.A (isTrue e X.env (eval e X.env)) (TP X N3 σ Q) X.xe s
def PW (X:Cx) (e:Expr) (t:TT):Prop :=
 ∀(whole:Sem Value) (N3:List (Addr×Obj)) (s:Shared) (σ:St) (H:Hp) (Q:Bool->Hp->Prop),Inv X N3 σ H s->t σ H Q->wpAny (model X.prog X.w) X.A (isTrue e X.env whole) (TP X N3 σ Q) X.xe s
theorem PW.pt {X:Cx}{e:Expr}{t:TT}(h:PW X e t):PT X e t:=h _
def PA (X:Cx) (es:List Expr) (t:TA):Prop :=
 ∀(pos:Pos) (N3:List (Addr×Obj)) (s:Shared) (σ:St) (H:Hp) (Q:List V->Hp->Prop),Inv X N3 σ H s->t σ H Q->wpAny (model X.prog X.w) X.A (spliced (backTo pos (starEach es X.env))) (AP X N3 σ Q) X.xe s
def PS (X:Cx) (st:Stmt) (t:TS):Prop :=
 ∀(N3:List (Addr×Obj)) (s:Shared) (σ:St) (H:Hp) (D:Ends),Inv X N3 σ H s->t D σ H->wpAny (model X.prog X.w) X.A (exec st X.env) (SP X N3 D) X.xe s
def Ov (X:Cx) (st:List Stmt) (t:TS):Prop :=
 ∀(N3:List (Addr×Obj)) (s:Shared) (σ:St) (H:Hp) (D:Ends),Inv X N3 σ H s->t D σ H->wpAny (model X.prog X.w) X.A (execs st X.env) (SP X N3 D) X.xe s
theorem Oc {α:Type}{t:Sem α}{Q Q':α->Shared->Prop}{M:Model}{A:Around}{E:Value->Shared->Prop}{s:Shared}(h:wpAny M A t Q E s) (hQ: ∀a s,Q a s->Q' a s):wpAny M A t Q' E s:=Lx h hQ fun _ _ x=>x
section
variable {X:Cx}
theorem bin {a b:Expr}{ta tb:TE}(ha:PE X a ta) (hb:PE X b tb){N3:List (Addr×Obj)}{s:Shared}{σ:St}{H:Hp}{R:V->V->Hp->Prop}(I:Inv X N3 σ H s) (h:ta σ H fun x H1=>tb σ H1 fun y H2=>R x y H2)
  {α:Type}{Q:α->Shared->Prop}{f:Value->Value->Sem α}
  (hf: ∀v u s2 x y H2,Inv X N3 σ H2 s2->RelV x v->RelV y u->R x y H2->wpAny (model X.prog X.w) X.A (f v u) Q X.xe s2) :
  wpAny (model X.prog X.w) X.A (eval a X.env) (fun v s₁=>wpAny (model X.prog X.w) X.A (eval b X.env) (fun u s₂=>wpAny (model X.prog X.w) X.A (f v u) Q X.xe s₂) X.xe s₁) X.xe s:=by
 refine Oc (ha N3 s σ H _ I h) fun v s1 ⟨x,H1,I1,r1,q1⟩=>?_
 refine Oc (hb N3 s1 σ H1 _ I1 q1) fun u s2 ⟨y,H2,I2,r2,q2⟩=>?_
 exact hf v u s2 x y H2 I2 r1 r2 q2
inductive I9 (i:Nat) (σ:St) (H:Hp) (Q:VK):Prop | mk (v:_) (e0:σ[i]?=some (some v)) (q:Q v H)
def rD (i:Nat):TE:=fun σ H Q=>I9 i σ H Q
def tC (v:V):TE:=fun _ H Q=>Q v H
theorem F6 {i:Nat}{x:Str}{pos:Pos}(hN:X.N[i]?=some x) (hv:PK X.env.scope x) (hd:(x == ("__debug__" : Str))=false:=by decide) (hcd:(x == ("__classdict__" : Str))=false:=by decide):PE X (.Name x pos) (rD i):=by
 intro N3 s σ H Q I h
 obtain⟨v,e,h⟩:=h
 obtain⟨m,hn,hl⟩:=I.loc
 obtain⟨u,r,l⟩:=hl i x v hN e hv
 have fin:EP X N3 σ Q u s:=⟨v,H,I,r,h⟩
 rcases l with⟨hk,hm⟩ | ⟨hk,c,hc,hcell⟩
 .exact wpAny_Name (wpAny_loadName_local I.ok.kind hk hn hm fin) hd
 .rcases hk with hk | hk
  .exact wpAny_Name (wpAny_loadName_cell I.ok.kind hk hc hcell fin) hd
  .exact wpAny_Name (wpAny_loadName_free I.ok.kind hk hc hcell fin hcd) hd
theorem aa {i j pos}:PE X (.Constant (.int i) j pos) (tC (.int i)):=fun _ _ _ H _ I h=>wpAny_Constant_int ⟨.int i,H,I.tok _,⟨_,rfl⟩,h⟩
theorem cO {b j pos}:PE X (.Constant (.bool b) j pos) (tC (.bl b)):=fun _ _ _ H _ I h=>Constant_bool ⟨.bl b,H,I,rfl,h⟩
theorem bu {j pos}:PE X (.Constant .none j pos) (tC .non):=fun _ _ _ H _ I h=>Constant_none ⟨.non,H,I,rfl,h⟩
theorem aB {x j pos}:PE X (.Constant (.str x) j pos) (tC (.str x)):=fun _ _ _ H _ I h=>Calls.Constant_str ⟨.str x,H,I.tok _,⟨_,rfl⟩,h⟩
def Gl (X:Cx) (x:Str):Prop:=X.env.kindOf x=some .globalImplicit
theorem mD {E:Value->Shared->Prop}{N3:List (Addr×Obj)}{s:Shared}{σ:St}{H:Hp}{x:Str}{u:Value}{pos:Pos}{Q:Value->Shared->Prop}(I:Inv X N3 σ H s) (hg:Gl X x) (hm:X.mg x=some u) (h:Q u s)
  (hd:(x == ("__debug__" : Str))=false:=by decide):wpAny (model X.prog X.w) X.A (eval (.Name x pos) X.env) Q E s :=
 Calls.Name_function_global I.ok.kind hg (Calls.loadGlobal_global (by rw[I.ok.glob]; exact I.mod.glob.keeps I.bk) hm h) hd
theorem nG {E:Value->Shared->Prop}{N3:List (Addr×Obj)}{s:Shared}{σ:St}{H:Hp}{x:Str}{u:Value}{pos:Pos}{Q:Value->Shared->Prop}(I:Inv X N3 σ H s) (hg:Gl X x) (hm:X.mg x=none) (hv:bootBuiltins x=some u) (h:Q u s)
  (hn:x≠ "__name__" := by decide) (hd:(x == ("__debug__" : Str))=false:=by decide):wpAny (model X.prog X.w) X.A (eval (.Name x pos) X.env) Q E s:=by
 obtain⟨mb,h1,h2⟩:=I.mod.blt
 exact Calls.Name_function_global I.ok.kind hg (Calls.loadGlobal_builtin (by rw[I.ok.glob]; exact I.mod.glob.keeps I.bk) hm (by rw[I.ok.blt]; exact h1.keeps I.bk) ((h2 x hn).trans hv) h) hd
theorem zA {x:Str}{v:V}{u:Value}{pos:Pos}(hg:Gl X x) (hm:X.mg x=some u) (r:RelV v u) (hd:(x == ("__debug__" : Str))=false:=by decide):PE X (.Name x pos) (tC v) :=
 fun _ _ _ H _ I h=>mD I hg hm ⟨v,H,I,r,h⟩ hd
theorem d9 {x:Str}{v:V}{u:Value}{pos:Pos}(hg:Gl X x) (hm:X.mg x=none) (hv:bootBuiltins x=some u) (r:RelV v u) (hn:x≠ "__name__" := by decide) (hd:(x == ("__debug__" : Str))=false:=by decide):PE X (.Name x pos) (tC v) :=
 fun _ _ _ H _ I h=>nG I hg hm hv ⟨v,H,I,r,h⟩ hn hd
inductive Jt (k:Int->Int->Hp->Prop) (x y:V) (H2:Hp):Prop | mk (i j:_) (e0:x= .int i) (e1:y= .int j) (q:k i j H2)
def Qj (ta tb:TE) (k:Int->Int->Hp->Prop):St->Hp->Prop:=fun σ H=>ta σ H fun x H1=>tb σ H1 fun y H2=>Jt k x y H2
variable {a b:Expr}{ta tb:TE}{pos:Pos}
def PC (X:Cx) (op:CmpOp) (a b:Expr) (t:TE):Prop :=
 ∀(N3:List (Addr×Obj)) (s:Shared) (σ:St) (H:Hp) (Q:VK),Inv X N3 σ H s->t σ H Q ->
  wpAny (model X.prog X.w) X.A (eval a X.env) (fun v s₁=>wpAny (model X.prog X.w) X.A (eval b X.env) (fun u s₂=>wpAny (model X.prog X.w) X.A (compareOp op v u) (EP X N3 σ Q) X.xe s₂) X.xe s₁) X.xe s
theorem w9 (b:Expr){op:CmpOp}(h:op≠ .In) (h2:op≠ .NotIn):behindInMarks op b=false:=by
 have e1:(op == CmpOp.In)=false:=by cases op <;> first | rfl | exact absurd rfl h
 have e2:(op == CmpOp.NotIn)=false:=by cases op <;> first | rfl | exact absurd rfl h2
 cases b <;> simp[behindInMarks,e1,e2]
def u6 (p:Int->Int->Bool) (ta tb:TE):TE:=fun σ H Q=>Qj ta tb (fun i j H2=>Q (.bl (p i j)) H2) σ H
abbrev Qz:TE->TE->TE:=u6 fun i j=>decide (i < j)
abbrev QA:TE->TE->TE:=u6 fun i j=>decide (i<=j)
abbrev QB:TE->TE->TE:=u6 fun i j=>decide (j < i)
abbrev Qv:TE->TE->TE:=u6 fun i j=>decide (j<=i)
abbrev Kn:TE->TE->TE:=u6 fun i j=>decide (i=j)
abbrev Km:TE->TE->TE:=u6 fun i j=> !decide (i=j)
inductive Qu (Q:Bool->Hp->Prop) (x:V) (H1:Hp):Prop | mk (c:_) (e0:x= .bl c) (q:Q c H1)
def tB (t:TE):TT:=fun σ H Q=>t σ H fun x H1=>Qu Q x H1
theorem A5 {op:CmpOp}{t:TE}(h:PC X op a b t) (h1:behindInMarks op b=false:=by first | exact w9 _ (by decide) (by decide) | rfl):PE X (.Compare a [op] [b] pos) t:=fun N3 s σ H Q I hw=>wpAny_Compare1 (h N3 s σ H Q I hw) h1
theorem mP {op:CmpOp}{t:TE}(h:PC X op a b t) (h1:behindInMarks op b=false:=by first | exact w9 _ (by decide) (by decide) | rfl):PT X (.Compare a [op] [b] pos) (tB t):=by
 intro N3 s σ H Q I hw
 refine wpAny_isTrue_Compare1 (Oc (h N3 s σ H _ I hw) fun v s1 h1=>Oc h1 fun u s2 h2=>Oc h2 fun c s3 ⟨x,H1,I1,r1,q1⟩=>?_) h1
 obtain⟨d,rfl,q⟩:=q1
 cases r1
 exact LH ⟨H1,I1,q⟩
variable {tA tB':TT}{rest:List Expr}
def Jf (t u:TT):TT:=fun σ H Q=>t σ H fun c H1=>if c=true then u σ H1 Q else Q false H1
def Qc (t u:TT):TT:=fun σ H Q=>t σ H fun c H1=>if c=true then Q true H1 else u σ H1 Q
def JK (t:TT):TT:=fun σ H Q=>t σ H fun c H1=>Q (!c) H1
theorem eI (ha:PT X a tA):PW X (.BoolOp .And [a] pos) tA:=by
 intro wh N3 s σ H Q I h
 refine isTrue_and (Oc (ha N3 s σ H Q I h) fun c s1 e=>?_)
 cases c with
 | true=>exact isTrue_and_nil e
 | false=>exact e
theorem cz (ha:PT X a tA):PW X (.BoolOp .Or [a] pos) tA:=by
 intro wh N3 s σ H Q I h
 refine isTrue_or (Oc (ha N3 s σ H Q I h) fun c s1 e=>?_)
 cases c with
 | false=>exact isTrue_or_nil e
 | true=>exact e
theorem eP (ha:PT X a tA) (hb:PW X (.BoolOp .And (b::rest) pos) tB'):PW X (.BoolOp .And (a::b::rest) pos) (Jf tA tB'):=by
 intro wh N3 s σ H Q I h
 refine isTrue_and (Oc (ha N3 s σ H _ I h) fun c s1 ⟨H1,I1,q1⟩=>?_)
 cases c with
 | true=>exact hb wh N3 s1 σ H1 Q I1 q1
 | false=>exact⟨H1,I1,q1⟩
theorem cq (ha:PT X a tA) (hb:PW X (.BoolOp .Or (b::rest) pos) tB'):PW X (.BoolOp .Or (a::b::rest) pos) (Qc tA tB'):=by
 intro wh N3 s σ H Q I h
 refine isTrue_or (Oc (ha N3 s σ H _ I h) fun c s1 ⟨H1,I1,q1⟩=>?_)
 cases c with
 | true=>exact⟨H1,I1,q1⟩
 | false=>exact hb wh N3 s1 σ H1 Q I1 q1
theorem bK (ha:PT X a tA):PT X (.UnaryOp .Not a pos) (JK tA):=by
 intro N3 s σ H Q I h
 exact isTrue_not (ha N3 s σ H (fun c H1=>Q (!c) H1) I h)
inductive GP (tb:TE) (σ:St) (Q:VK) (x:V) (H1:Hp):Prop | mk (c:_) (e0:x= .bl c) (q:if c=true then tb σ H1 Q else Q (.bl false) H1)
def IQ (ta tb:TE):TE:=fun σ H Q=>ta σ H fun x H1=>GP tb σ Q x H1
inductive Ik (tb:TE) (σ:St) (Q:VK) (x:V) (H1:Hp):Prop | mk (c:_) (e0:x= .bl c) (q:if c=true then Q (.bl true) H1 else tb σ H1 Q)
def Jz (ta tb:TE):TE:=fun σ H Q=>ta σ H fun x H1=>Ik tb σ Q x H1
inductive G5 (Q:VK) (x:V) (H1:Hp):Prop | mk (c:_) (e0:x= .bl c) (q:Q (.bl (!c)) H1)
def IP (ta:TE):TE:=fun σ H Q=>ta σ H fun x H1=>G5 Q x H1
theorem nI {op}{t:TE}(h:PE X a t):PE X (.BoolOp op [a] pos) t:=fun N3 s σ H Q I hw=>BoolOp_one (h N3 s σ H Q I hw)
theorem oW (ha:PE X a ta) (hb:PE X (.BoolOp .And (b::rest) pos) tb):PE X (.BoolOp .And (a::b::rest) pos) (IQ ta tb):=by
 intro N3 s σ H Q I h
 refine BoolOp_and (Oc (ha N3 s σ H _ I h) fun v s1 ⟨x,H1,I1,r1,q1⟩=>?_)
 obtain⟨c,rfl,q1⟩:=q1
 cases r1
 refine LH ?_
 cases c with
 | true=>exact hb N3 s1 σ H1 Q I1 q1
 | false=>exact⟨.bl false,H1,I1,rfl,q1⟩
theorem IW (ha:PE X a ta) (hb:PE X (.BoolOp .Or (b::rest) pos) tb):PE X (.BoolOp .Or (a::b::rest) pos) (Jz ta tb):=by
 intro N3 s σ H Q I h
 refine BoolOp_or (Oc (ha N3 s σ H _ I h) fun v s1 ⟨x,H1,I1,r1,q1⟩=>?_)
 obtain⟨c,rfl,q1⟩:=q1
 cases r1
 refine LH ?_
 cases c with
 | false=>exact hb N3 s1 σ H1 Q I1 q1
 | true=>exact⟨.bl true,H1,I1,rfl,q1⟩
theorem Hz (ha:PE X a ta):PE X (.UnaryOp .Not a pos) (IP ta):=by
 intro N3 s σ H Q I h
 refine UnaryOp_ (Oc (ha N3 s σ H _ I h) fun v s1 ⟨x,H1,I1,r1,q1⟩=>?_)
 obtain⟨c,rfl,q1⟩:=q1
 cases r1
 exact not_of (LH ⟨.bl (!c),H1,I1,rfl,q1⟩)
def Qh (t:TT) (ta tb:TE):TE:=fun σ H Q=>t σ H fun c H1=>if c=true then ta σ H1 Q else tb σ H1 Q
theorem xD {c:Expr}(hc:PT X c tA) (ha:PE X a ta) (hb:PE X b tb):PE X (.IfExp c a b pos) (Qh tA ta tb):=by
 intro N3 s σ H Q I h
 refine wpAny_IfExp (Oc (hc N3 s σ H _ I h) fun d s1 ⟨H1,I1,q1⟩=>?_)
 cases d with
 | true=>exact ha N3 s1 σ H1 Q I1 q1
 | false=>exact hb N3 s1 σ H1 Q I1 q1
end
def N5 (K:N7) (H:Hp) (a:Addr) (xs:List V):Prop :=
 Rd H a (.lst xs) \/
  ∃(o:Obj) (its:Array Value) (n:Nat),K.lookup a=some o/\o.cls= .type "list" /\ o.dict=none/\o.data= .seq its n/\its.size<=sizeLine/\Vals xs its.toList
def N9 (K:N7) (H:Hp) (a:Addr) (xs:List V):Prop :=
 Rd H a (.tup xs) \/
  ∃(o:Obj) (its:Array Value) (n:Nat),K.lookup a=some o/\o.cls= .type "tuple" /\ o.data= .seq its n/\its.size<=sizeLine/\Vals xs its.toList
def JM:Value->Option V
 | .none=>some .non
 | .bool b=>some (.bl b)
 | .int i _=>some (.int i)
 | .str x _=>some (.str x)
 | .bytes b _=>some (.byt b)
 | .float b _=>some (.flt b)
 | .ref a=>some (.ref a)
 | .type n=>some (.ty n)
 | _=>none
theorem RelV.abs {x:V}{u:Value}(r:RelV x u):JM u=some x:=by
 cases x with
 | non=>cases r; rfl
 | bl _=>cases r; rfl
 | int _=>obtain⟨t,rfl⟩:=r; rfl
 | str _=>obtain⟨t,rfl⟩:=r; rfl
 | byt _=>obtain⟨t,rfl⟩:=r; rfl
 | flt _=>obtain⟨t,rfl⟩:=r; rfl
 | ref _=>cases r; rfl
 | ty _=>cases r; rfl
theorem RelV.inj {x y:V}{u:Value}(r:RelV x u) (q:RelV y u):x=y:=KS (r.abs.symm.trans q.abs)
theorem Vals.inj: ∀ {xs ys:List V}{us:List Value},Vals xs us->Vals ys us->xs=ys
 | _,_,_,.nil,.nil=>rfl
 | _,_,_,.cons r t,.cons r' t'=>by rw[r.inj r',Vals.inj t t']
section
variable {X:Cx}{N3:List (Addr×Obj)}{σ:St}{H:Hp}{s:Shared}{a:Addr}{xs ys:List V}
theorem N5.of {K:N7}(h:H a=some (.lst xs)):N5 K H a xs:= .inl (.inl h)
theorem N9.of {K:N7}(h:H a=some (.tup xs)):N9 K H a xs:= .inl (.inl h)
theorem Inv.list (I:Inv X N3 σ H s) (h:N5 X.K H a xs): ∃its:List Value,Vals xs its/\PlainL s.heap a its.toArray/\xs.length<=sizeLine:=by
 rcases h with h | ⟨o,its,n,hk,hc,hd,hs,hz,r⟩
 .obtain⟨z,its,n,r,e⟩:=h.ok I.hok
  exact⟨its,r,⟨_,n,e,rfl,rfl,rfl⟩,z⟩
 .refine⟨its.toList,r,⟨o,n,I.OJ a o hk,hc,hd,by simpa using hs⟩,?_⟩
  have e:=r.length
  simp only[MY] at e
  omega
theorem Inv.tuple (I:Inv X N3 σ H s) (h:N9 X.K H a xs): ∃its:List Value,Vals xs its/\IsTup s.heap a its.toArray/\xs.length<=sizeLine:=by
 rcases h with h | ⟨o,its,n,hk,hc,hs,hz,r⟩
 .obtain⟨z,its,r,p⟩:=h.ok I.hok
  exact⟨its,r,p,z⟩
 .refine⟨its.toList,r,⟨o,I.OJ a o hk,hc,n,by simpa using hs⟩,?_⟩
  have e:=r.length
  simp only[MY] at e
  omega
theorem Inv.qb (I:Inv X N3 σ H s) (h:N5 X.K H a xs) (h':N5 X.K H a ys):xs=ys:=by
 obtain⟨its,r,⟨o,n,e,_,_,d⟩,_⟩:=I.list h
 obtain⟨its',r',⟨o',n',e',_,_,d'⟩,_⟩:=I.list h'
 rw[e] at e'; cases e'
 rw[d] at d'
 injection d' with d1 _
 have:its=its':=by simpa using Ln Array.toList d1
 subst this
 exact r.inj r'
end
abbrev Cx.og (X:Cx) (E:Value->Shared->Prop):Cx:={ X with xe:=E }
abbrev Cx.Pe (X:Cx):Cx:=X.og fun _ _=>False
theorem Cx.Ok.og {X:Cx}(ok:X.Ok) (E:Value->Shared->Prop):(X.og E).Ok :=
 ⟨ok.mod,ok.kind,ok.glob,ok.blt,ok.above,ok.inj,ok.has,ok.cab,ok.hd,ok.frames,ok.stk,ok.exf,ok.bs,ok.bsz,ok.noex,ok.exfs,ok.fu,ok.frf⟩
theorem Cx.Ok.lF {X:Cx}{E:Value->Shared->Prop}(ok:(X.og E).Ok):X.Ok :=
 ⟨ok.mod,ok.kind,ok.glob,ok.blt,ok.above,ok.inj,ok.has,ok.cab,ok.hd,ok.frames,ok.stk,ok.exf,ok.bs,ok.bsz,ok.noex,ok.exfs,ok.fu,ok.frf⟩
section
variable {X:Cx}{N3:List (Addr×Obj)}{σ:St}{H:Hp}{s:Shared}{E:Value->Shared->Prop}
theorem Inv.og (I:Inv X N3 σ H s) (E:Value->Shared->Prop):Inv (X.og E) N3 σ H s:=⟨I.ok.og E,I.os,I.bare,I.base,I.loc,I.cell,I.free,I.freeC,I.pin,I.hok,I.len⟩
theorem Inv.lF (I:Inv (X.og E) N3 σ H s):Inv X N3 σ H s:=⟨I.ok.lF,I.os,I.bare,I.base,I.loc,I.cell,I.free,I.freeC,I.pin,I.hok,I.len⟩
theorem SP.lF {D:Ends}{f:Flow}{s':Shared}(h:SP (X.og E) N3 D f s'):SP X N3 D f s':=by
 cases f with
 | next=>obtain⟨σ',H',I,q⟩:=h; exact⟨σ',H',I.lF,q⟩
 | brk=>obtain⟨σ',H',I,q⟩:=h; exact⟨σ',H',I.lF,q⟩
 | cont=>obtain⟨σ',H',I,q⟩:=h; exact⟨σ',H',I.lF,q⟩
 | ret u=>obtain⟨v,σ',H',I,r,q⟩:=h; exact⟨v,σ',H',I.lF,r,q⟩
theorem Ov.Pe {st:List Stmt}{t:TS}(h:Ov X.Pe st t):Ov X st t:=fun N3 s σ H D I hw =>
 Lx (h N3 s σ H D (I.og _) hw) (fun _ _ q=>q.lF) fun _ _ z=>False.elim z
end
section
variable {X:Cx}{st:Stmt}{rest:List Stmt}{t u:TS}{e:Expr}{te:TE}{pos:Pos}
def Ej:TS:=fun D σ H=>D.nx σ H
def Hv (t u:TS):TS:=fun D σ H=>t { D with nx:=u D } σ H
theorem aw:Ov X [] Ej:=fun _ _ σ H _ I h=>Nl ⟨σ,H,I,h⟩
theorem ae (h1:PS X st t) (h2:Ov X rest u):Ov X (st::rest) (Hv t u):=by
 intro N3 s σ H D I h
 refine wpAny_execs_cons (Oc (h1 N3 s σ H { D with nx:=u D } I h) fun f s1 q=>?_)
 cases f with
 | next =>
  obtain⟨σ',H',I',q⟩:=q
  exact h2 N3 s1 σ' H' D I' q
 | ret v=>exact q
 | brk=>exact q
 | cont=>exact q
theorem ah (h1:PS X st t):Ov X [st] t:=by
 intro N3 s σ H D I h
 refine wpAny_execs_cons (Oc (h1 N3 s σ H D I h) fun f s1 q=>?_)
 cases f with
 | next=>exact Nl q
 | ret v=>exact q
 | brk=>exact q
 | cont=>exact q
def HW:TS:=fun D σ H=>D.ct σ H
theorem yw:PS X (.Continue pos) HW:=fun _ _ σ H _ I h=>wpAny_Continue ⟨σ,H,I,h⟩
theorem Inv.quiet {N3:List (Addr×Obj)}{σ:St}{H:Hp}{s:Shared}(I:Inv X N3 σ H s):interactive X.env=false:=by simp[interactive,I.ok.kind]
def Ie (te:TE):TS:=fun D σ H=>te σ H fun _ H1=>D.nx σ H1
theorem aP (he:PE X e te) (hs:swapsWith e none pos.line X.env=pure false:=by rfl):PS X (.Expr e pos) (Ie te):=by
 intro N3 s σ H D I h
 exact wpAny_Expr_any (Oc (he N3 s σ H _ I h) fun v s1 ⟨x,H1,I1,r1,q1⟩=>⟨σ,H1,I1,q1⟩) I.quiet hs
def GJ (te:TE):TS:=fun D σ H=>te σ H D.rt
theorem av (he:PE X e te):PS X (.Return (some e) pos) (GJ te):=by
 intro N3 s σ H D I h
 exact wpAny_Return_some (Oc (he N3 s σ H _ I h) fun v s1 ⟨x,H1,I1,r1,q1⟩=>⟨x,σ,H1,I1,r1,q1⟩)
def Hb (c:TT) (t u:TS):TS:=fun D σ H=>c σ H fun b H1=>if b=true then t D σ H1 else u D σ H1
theorem aF {c:Expr}{a b:List Stmt}{tc:TT}(hc:PT X c tc) (ha:Ov X a t) (hb:Ov X b u):PS X (.If c a b pos) (Hb tc t u):=by
 intro N3 s σ H D I h
 refine wpAny_If (Oc (hc N3 s σ H _ I h) fun d s1 ⟨H1,I1,q1⟩=>?_)
 cases d with
 | true=>exact ha N3 s1 σ H1 D I1 q1
 | false=>exact hb N3 s1 σ H1 D I1 q1
end
abbrev TG:=V->St->Hp->(St->Hp->Prop)->Prop
abbrev OY:=List V->St->Hp->(St->Hp->Prop)->Prop
def PG (X:Cx) (target:Expr) (t:TG):Prop :=
 ∀(N3:List (Addr×Obj)) (s:Shared) (σ:St) (H:Hp) (v:V) (u:Value) (Q:St->Hp->Prop),Inv X N3 σ H s->RelV v u->t v σ H Q ->
  wpAny (model X.prog X.w) X.A (assign target X.env u) (fun _ s'=> ∃σ' H',Inv X N3 σ' H' s'/\Q σ' H') X.xe s
def Py (X:Cx) (ts:List Expr) (t:OY):Prop :=
 ∀(N3:List (Addr×Obj)) (s:Shared) (σ:St) (H:Hp) (vs:List V) (us:List Value) (Q:St->Hp->Prop),Inv X N3 σ H s->Vals vs us->t vs σ H Q ->
  wpAny (model X.prog X.w) X.A (assignInOrder ((assignEach ts X.env).map (·.2)) us) (fun _ s'=> ∃σ' H',Inv X N3 σ' H' s'/\Q σ' H') X.xe s
abbrev CI:=V->V->V->Hp->(Hp->Prop)->Prop
def Hu (X:Cx) (t:CI):Prop :=
 ∀(N3:List (Addr×Obj)) (s:Shared) (σ:St) (H:Hp) (o i v:V) (ov iv u:Value) (Q:Hp->Prop),Inv X N3 σ H s->RelV o ov->RelV i iv->RelV v u->t o i v H Q ->
  wpAny (model X.prog X.w) X.A (setItem ov iv u) (fun _ s'=> ∃H',Inv X N3 σ H' s'/\Q H') X.xe s
abbrev Qt:=V->V->Hp->VK->Prop
section
variable {X:Cx}{pos:Pos}
def aO (i:Nat):TG:=fun v σ H Q=>Q (σ.set i (some v)) H
theorem FU {i:Nat}{x:Str}(hN:X.N.Nodup) (hi:X.N[i]?=some x) (hx:Loc X.env.scope x) (hf:X.fn x=true\/X.env.scope.names.lookup x=some .local:=by first | exact .inl rfl | exact .inr rfl | assumption):PG X (.Name x pos) (aO i):=by
 intro N3 s σ H v u Q I r h
 exact wpAny_assign_Name (iY I hN hi hx r (fun s' I'=>⟨_,H,I',h⟩) hf)
def DW:OY:=fun vs σ H Q=>vs=[]/\Q σ H
inductive Gu (t:TG) (u:OY) (vs:List V) (σ:St) (H:Hp) (Q:St->Hp->Prop):Prop | mk (v r:_) (e0:vs=v::r) (q:t v σ H fun σ' H'=>u r σ' H' Q)
def zY (t:TG) (u:OY):OY:=fun vs σ H Q=>Gu t u vs σ H Q
theorem eG:Py X [] DW:=by
 intro N3 s σ H vs us Q I r h
 obtain⟨e,h⟩:=h
 subst e
 cases r
 exact assignInOrder_nil ⟨σ,H,I,h⟩
theorem aR {e:Expr}{es:List Expr}{t:TG}{u:OY}(h1:PG X e t) (h2:Py X es u)
  (hs:(assignEach (e::es) X.env).map (·.2)=assign e X.env::(assignEach es X.env).map (·.2):=by rfl):Py X (e::es) (zY t u):=by
 intro N3 s σ H vs us Q I r h
 obtain⟨v,vr,e1,h⟩:=h
 subst e1
 cases r with
 | cons r rr =>
  rw[hs]
  refine Mh (Oc (h1 N3 s σ H _ _ _ I r h) fun _ s1 ⟨σ1,H1,I1,q1⟩=>?_)
  exact h2 N3 s1 σ1 H1 _ _ Q I1 rr q1
inductive IB (K:N7) (n:Nat) (t:OY) (v:V) (σ:St) (H:Hp) (Q:St->Hp->Prop):Prop | mk (a xs:_) (e0:v= .ref a) (e1:N9 K H a xs) (e2:xs.length=n) (q:t xs σ H Q)
def xM (K:N7) (n:Nat) (t:OY):TG:=fun v σ H Q=>IB K n t v σ H Q
theorem fG {es:List Expr}{k:Nat}{t:OY}{n:Nat}(hc:X.calm=true) (h:Py X es t)
  (hn:(assignEach es X.env).length=n:=by rfl) (hst:(assignEach es X.env).findIdx? (·.1)=none:=by rfl):PG X (.Tuple es k pos) (xM X.K n t):=by
 intro N3 s σ H v u Q I r hw
 obtain⟨a,xs,e1,hq,hl,hw⟩:=hw
 subst e1
 cases r
 obtain⟨its,rv,ht,hz⟩:=I.tuple hq
 refine assign_Tuple_tuple (I.ok.hd hc) ht (by simp[hn,<-hl,rv.length]) hst fun h' hx=>?_
 have I1:Inv X N3 σ H { s with heap:=h' }:=I.kept (t':=s.toks) fun b o e=>hx b o (K4 (KJ e)) e
 exact h N3 _ σ H xs _ Q I1 (by simpa using rv) hw
def JD (to ti:TE) (t:CI):TG:=fun v σ H Q=>to σ H fun o H1=>ti σ H1 fun i H2=>t o i v H2 fun H3=>Q σ H3
theorem lu {o i:Expr}{to ti:TE}{t:CI}(ho:PE X o to) (hi:PE X i ti) (hs:Hu X t)
  (ha: ∀v,assign (.Subscript o i pos) X.env v=(do
   let ov <-holding [v] (eval o X.env)
   let iv <-holding [v,ov] (eval i X.env)
   standAt pos
   holding [v,ov,iv] (setItem ov iv v)
   release [v,ov,iv] []):=by intro _; rfl):PG X (.Subscript o i pos) (JD to ti t):=by
 intro N3 s σ H v u Q I r h
 rw[ha]
 refine Kv (L9 (Oc (ho N3 s σ H _ I h) fun ov s1 ⟨x,H1,I1,r1,q1⟩=>?_))
 refine Kv (L9 (Oc (hi N3 s1 σ H1 _ I1 q1) fun iv s2 ⟨y,H2,I2,r2,q2⟩=>?_))
 refine Kv (Ma (Kv (L9 (Oc (hs N3 s2 σ H2 x y v ov iv u _ I2 r1 r2 r q2) fun _ s3 ⟨H3,I3,q3⟩=>?_))))
 exact wpAny_release ⟨σ,H3,I3,q3⟩
def yf (te:TE) (g:TG):TS:=fun D σ H=>te σ H fun x H1=>g x σ H1 D.nx
theorem gF {tg e:Expr}{te:TE}{g:TG}(he:PE X e te) (hg:PG X tg g) (hs:swapsWithSole [tg] e pos.line X.env=pure false:=by rfl) (hw:swappedStores [tg] e X.env=pure none:=by rfl)
  (h1:(assignEach [tg] X.env).map (·.2)=[assign tg X.env]:=by rfl):PS X (.Assign [tg] e pos) (yf te g):=by
 intro N3 s σ H D I h
 refine wpAny_Assign_stores (Oc (he N3 s σ H _ I h) fun v s1 ⟨x,H1,I1,r1,q1⟩=>?_) hs hw
 rw[h1]
 exact Oc (hg N3 s1 σ H1 x v _ I1 r1 q1) fun _ s2 q=>q
theorem GW {i:Nat}{x:Str}{e:Expr}{te:TE}{pos':Pos}(hN:X.N.Nodup) (hi:X.N[i]?=some x) (hx:Loc X.env.scope x) (he:PE X e te) (hs:swapsWith e (some (.Name x pos')) pos.line X.env=pure false:=by rfl) (hf:X.fn x=true\/X.env.scope.names.lookup x=some .local:=by first | exact .inl rfl | exact .inr rfl | assumption) :
  PS X (.Assign [.Name x pos'] e pos) (yf te (aO i)):=by
 intro N3 s σ H D I h
 refine wpAny_Assign_Name (Oc (he N3 s σ H _ I h) fun v s1 ⟨y,H1,I1,r1,q1⟩=>?_) hs
 exact iY I1 hN hi hx r1 (fun s2 I2=>⟨_,H1,I2,q1⟩) hf
inductive Ii (i j:Nat) (D:Ends) (σ:St) (vs:List V) (H1:Hp):Prop | mk (v w:_) (e0:vs=[v,w]) (q:D.nx ((σ.set i (some v)).set j (some w)) H1)
def JC (i j:Nat) (ta:TA):TS:=fun D σ H=>ta σ H fun vs H1=>Ii i j D σ vs H1
theorem Hg {i j:Nat}{x y:Str}{a b:Expr}{ta:TA}{px py pt:Pos}{kt k2 pt2}(hc:X.calm=true) (hN:X.N.Nodup) (hi:X.N[i]?=some x) (hj:X.N[j]?=some y) (hij:i≠j)
  (hx:X.env.scope.names.lookup x=some .local) (hy:X.env.scope.names.lookup y=some .local) (ha:PA X [a,b] ta)
  (hw:swappedStores [.Tuple [.Name x px,.Name y py] kt pt] (.Tuple [a,b] k2 pt2) X.env=pure (some [x,y]))
  (hs:swapsWithSole [.Tuple [.Name x px,.Name y py] kt pt] (.Tuple [a,b] k2 pt2) pos.line X.env=pure false:=by rfl) :
  PS X (.Assign [.Tuple [.Name x px,.Name y py] kt pt] (.Tuple [a,b] k2 pt2) pos) (JC i j ta):=by
 intro N3 s σ H D I h
 rw[exec_Assign_arm]
 refine Kv (Ma ?_)
 rw[hs]
 refine Kv (KP ?_)
 rw[Kp (by decide)]
 refine Kv (Tuple_ (Oc (ha _ N3 s σ H _ I h) fun us s1 ⟨vs,H1,I1,r1,q1⟩=>?_))
 obtain⟨v,w,e1,q1⟩:=q1
 subst e1
 obtain⟨u1,u2,rfl,rv,rw'⟩: ∃u1 u2,us=[u1,u2]/\RelV v u1/\RelV w u2:=by
  cases r1 with
  | cons p q =>
   cases q with
   | cons p' q' =>
    cases q'
    exact⟨_,_,rfl,p,p'⟩
 refine LU ?_ (by show 2<=sizeLine; decide)
 have I2:Inv X N3 σ H1 { s1 with heap:=s1.heap.push { cls:= .type "tuple",data:= .seq [u1,u2].toArray } }:=I1.kept (t':=s1.toks) fun b o e=>Kx _ e
 rw[hw]
 refine Kv (KP ?_)
 show wpAny (model X.prog X.w) X.A (do rule "assign.swapped-stores"; let items <-unpackItems (.ref s1.heap.objs.size) 2 none; assignInOrder [fun v=>bindName X.env y v,fun v=>bindName X.env x v] items.reverse; pure Flow.next) _ _ _
 refine Kv (wpAny_rule (Kv (unpackItems_tuple (items:= #[u1,u2]) (I.ok.hd hc) (IsTup.new s1.heap _) fun h' hx'=>?_)))
 have I3:=I2.kept (h':=h') (t':=s1.toks) fun b o e=>hx' b o (K4 (KJ e)) e
 show wpAny _ _ (assignInOrder [fun v=>bindName X.env y v,fun v=>bindName X.env x v] [u2,u1] >>= fun _=>pure Flow.next) _ _ _
 refine Kv (Mh (M3 (iY I3 hN hj (.inl hy) rw' (fun s2 I4=>?_) (.inr hy))))
 refine Mh (M3 (iY I4 hN hi (.inl hx) rv (fun s3 I5=>assignInOrder_nil (KP ?_)) (.inr hx)))
 rw[List.set_comm _ _ (K2 hij)] at I5
 exact⟨_,H1,I5,q1⟩
inductive Kb (i:Nat) (te:TE) (ti:Qt) (D:Ends) (σ:St) (H:Hp):Prop | mk (x:_) (e0:σ[i]?=some (some x)) (q:te σ H fun y H1=>ti x y H1 fun z H2=>D.nx (σ.set i (some z)) H2)
inductive Kl (f:Int->Int->Int) (x y:V) (H:Hp) (Q:VK):Prop | mk (i j:_) (e0:x= .int i) (e1:y= .int j) (q:Q (.int (f i j)) H)
end
section
variable {X:Cx}{pos:Pos}
def Hr (c:TT) (tb:TS):TS:=fun D σ H=> ∃W:Nat->St->Hp->Prop,(∃m,W m σ H)/\ ∀m σ H,W m σ H ->
 c σ H fun b H1=>if b=true then ∃N:St->Hp->Prop,(∀σ' H',N σ' H'-> ∃m',m' < m/\W m' σ' H')/\tb { D with nx:=N,ct:=N,bk:=D.nx } σ H1 else D.nx σ H1
theorem tU {c:Expr}{body:List Stmt}{tc:TT}{tb:TS}(hp:PassesOwn (model X.prog X.w) X.A X.env X.xe) (hc:PT X c tc) (hb:Ov X body tb):PS X (.While c body [] pos) (Hr tc tb):=by
 intro N3 s σ H D I h
 obtain⟨W,⟨m0,w0⟩,turn⟩:=h
 refine wpAny_While (codeAny_whileLoop (fun n s'=> ∃σ' H',Inv X N3 σ' H' s'/\W n σ' H') ?_ m0 ⟨σ,H,I,w0⟩)
 rintro n s1 ⟨σ1,H1,I1,w1⟩
 refine Mr hp (Oc (hc N3 s1 σ1 H1 _ I1 (turn n σ1 H1 w1)) fun b s2 ⟨H2,I2,q2⟩=>?_)
 cases b with
 | true =>
  obtain⟨N,hN,q2⟩:=q2
  rw[Ks rfl]
  refine Mr hp (Oc (hb N3 s2 σ1 H2 _ I2 q2) fun f s3 q3=>?_)
  cases f with
  | next =>
   obtain⟨σ3,H3,I3,n3⟩:=q3
   obtain⟨m',hm,w3⟩:=hN σ3 H3 n3
   exact⟨m',hm,σ3,H3,I3,w3⟩
  | cont =>
   obtain⟨σ3,H3,I3,n3⟩:=q3
   obtain⟨m',hm,w3⟩:=hN σ3 H3 n3
   exact⟨m',hm,σ3,H3,I3,w3⟩
  | brk=>exact q3
  | ret v=>exact q3
 | false =>
  rw[Kp KN]
  exact Nl ⟨σ1,H2,I2,q2⟩
end
structure It where
 go:Nat->Hp->Prop
 yld:Nat->Hp->V->Hp->Prop
 stop:Nat->Hp->Prop
def ck (X:Cx) (N3:List (Addr×Obj)) (H:Hp) (b:Addr):Prop :=
 H b=none/\b≠X.env.locals/\b∉X.fs/\(b∈X.ex\/X.s₀.heap.objs.size<=b)/\(∀x c,X.env.cells.lookup x=some c->c≠b)/\ ∀p∈X.pn++N3,p.1≠b
theorem Inv.iZ {X:Cx}{N3:List (Addr×Obj)}{σ:St}{H H':Hp}{s:Shared}{b:Addr}(I:Inv X N3 σ H s) (hb:s.heap.objs.size<=b) (hn:H' b=none):ck X N3 H' b:=by
 refine⟨hn,Nf (Lm I.lt hb),I.JH hb,.inr (KR I.sz hb),fun x c e z=>?_,fun p hp z=>?_⟩
 .obtain⟨v,q⟩:=I.cell x c e
  exact absurd (Lm q.lt (by rw[z]; exact hb)) (L7 _)
 .exact absurd (Lm (KJ (I.pin p hp).1) (by rw[z]; exact hb)) (L7 _)
structure Turn (P:Program) (w:World) (K:N7) (tg:Expr) (J:It) (fp:List Addr) (it:Addr) (tn:Nat->Heap->Prop):Prop where
 mem:it∈fp
 obj: ∀i h,tn i h-> ∀b∈fp,∃o,h.get? b=some o/\ ∀v,o.data≠ .cell v
 keep: ∀i h h',tn i h->(∀b∈fp,∀o,h.get? b=some o->h'.get? b=some o)->tn i h'
 item: ∀(X:Cx),X.prog=P->X.w=w->X.K=K->X.calm=true-> ∀(i:Nat) (N3:List (Addr×Obj)) (s:Shared) (σ:St) (H:Hp) (E:Value->Shared->Prop),Inv X N3 σ H s->(∀b∈fp,ck X N3 H b)->tn i s.heap->J.go i H ->
  wpAny (model P w) X.A (pyNext (.ref it)) (fun r s1=> ∃u,r=some u /\
   wpAny (model P w) X.A (letOwnedTupleGo tg (.ref it) u) (fun _ s2=> ∃x H',Inv X N3 σ H' s2/\RelV x u/\J.yld i H x H'/\tn (i+1) s2.heap/\ ∀b∈fp,H' b=none) E s1) E s
 done: ∀(X:Cx),X.prog=P->X.w=w->X.K=K->X.calm=true-> ∀(i:Nat) (N3:List (Addr×Obj)) (s:Shared) (σ:St) (H:Hp) (E:Value->Shared->Prop),Inv X N3 σ H s->(∀b∈fp,ck X N3 H b)->tn i s.heap->J.stop i H ->
  wpAny (model P w) X.A (pyNext (.ref it)) (fun r s1=>r=none/\Inv X N3 σ H s1) E s
 self: ∀(A:Around) (i:Nat) (s:Shared) (Q:Value->Shared->Prop) (E:Value->Shared->Prop),tn i s.heap->Q (.ref it) s->wpAny (model P w) A (pyIter (.ref it)) Q E s
abbrev TI:=St->Hp->(It->Hp->Prop)->Prop
def P7 (X:Cx) (N3:List (Addr×Obj)) (σ:St) (tg:Expr) (R:It->Hp->Prop) (itv:Value) (s2:Shared):Prop :=
 ∃(it:Addr) (fp:List Addr) (tn:Nat->Heap->Prop) (J:It) (H':Hp),itv= .ref it/\Inv X N3 σ H' s2/\Turn X.prog X.w X.K tg J fp it tn/\tn 0 s2.heap/\(∀b∈fp,ck X N3 H' b)/\R J H'
def PI (X:Cx) (tg iter:Expr) (wi:TI):Prop :=
 ∀(N3:List (Addr×Obj)) (s:Shared) (σ:St) (H:Hp) (R:It->Hp->Prop),Inv X N3 σ H s->wi σ H R ->
  wpAny (model X.prog X.w) X.A (eval iter X.env) (fun v s1=>wpAny (model X.prog X.w) X.A (pyIter v) (P7 X N3 σ tg R) X.xe s1) X.xe s
theorem wF {M:Model}{A:Around}{E:Value->Shared->Prop}{s:Shared}{tg:Expr}{it:Addr}{u:Value}{o:Obj}{n:String}{vs:Array Value}{Q:Unit->Shared->Prop}(ho:s.heap.get? it=some o) (hc:o.cls= .type n) (hd:o.data= .fields vs)
  (hn:["enumerate","zip","dict_itemiterator","dict_reverseitemiterator","odict_iterator","itertools.zip_longest","itertools.pairwise"].contains n=false) (hQ:Q () s):wpAny M A (letOwnedTupleGo tg (.ref it) u) Q E s:=by
 unfold letOwnedTupleGo
 cases tg <;> first
  | exact KP hQ
  | (cases u <;> first
    | exact KP hQ
    | (refine Kv (wpAny_load ho ?_)
       rw[hc,hd]
       show wpAny M A (if (["enumerate","zip","dict_itemiterator","dict_reverseitemiterator","odict_iterator","itertools.zip_longest","itertools.pairwise"].contains n && vs[0]? == some (rawInt _))=true then _ else _) Q E s
       rw[Kp (by intro h; rw[hn,Nw] at h; cases h)]
       exact KP hQ))
def PR (K:N7) (a:Addr):It :=
 ⟨fun i H=> ∃xs x,N5 K H a xs/\xs[i]?=some x,fun i H x H'=>H'=H/\ ∀xs,N5 K H a xs->xs[i]?=some x,fun i H=> ∃xs,N5 K H a xs/\xs.length<=i⟩
def Qo (K:N7) (a:Addr):It :=
 ⟨fun i H=> ∃xs x,N9 K H a xs/\xs[i]?=some x,fun i H x H'=>H'=H/\ ∀xs,N9 K H a xs->xs[i]?=some x,fun i H=> ∃xs,N9 K H a xs/\xs.length<=i⟩
def Pm (lo:Int) (n:Nat):It:=⟨fun i _=>i < n,fun i H x H'=>H'=H/\x= .int (lo+i),fun i _=>n<=i⟩
theorem Bd {P:Program}{w:World}{K:N7}{tg:Expr}(a it:Addr):Turn P w K tg (PR K a) [it] it (fun i h=>h.IsListIter it a i) where
 mem:=by simp
 obj:=fun i h st b hb=>by
  have e:b=it:=by simpa using hb
  subst e
  obtain⟨o,e,c,d⟩:=st
  exact⟨o,e,fun v z=>by rw[d] at z; cases z⟩
 keep:=fun i h h' st k=>st.at fun o e=>k it (by simp) o e
 item:=by
  intro X hP hw hK hc i N3 s σ H E I hf st hg
  subst hP hw hK
  obtain⟨xs,x,hq,hx⟩:=hg
  obtain⟨its,rv,p,hz⟩:=I.list hq
  obtain⟨u,hu,ru⟩:=rv.get hx
  obtain⟨f0,f1,f2,f3,f4,f5⟩:=hf it (by simp)
  refine wpAny_pyNext_list_item st p.isList (x:=u) (by simpa using hu) fun h' st' sb=>?_
  have I1:Inv X N3 σ H { s with heap:=h' }:=I.turned (t':=s.toks) (fun b o hb e=>(sb.2 b hb).trans e) f0 f1 f3 f4 f5
  obtain⟨o,e,c,d⟩:=id st'
  exact⟨u,rfl,wF (s:={ s with heap:=h' }) e c d (by decide) ⟨x,H,I1,ru,⟨rfl,fun ys hy=>by rw[I.qb hy hq]; exact hx⟩,st',fun b hb=>(hf b hb).1⟩⟩
 done:=by
  intro X hP hw hK hc i N3 s σ H E I hf st hg
  subst hP hw hK
  obtain⟨xs,hq,hx⟩:=hg
  obtain⟨its,rv,p,hz⟩:=I.list hq
  obtain⟨f0,f1,f2,f3,f4,f5⟩:=hf it (by simp)
  have hl:=rv.length
  exact wpAny_pyNext_list_end (I.ok.hd hc) st p.isList (by simp; omega) fun h' eb=>⟨rfl,I.turned (t':=s.toks) (fun b o hb e=>eb b o hb e) f0 f1 f3 f4 f5⟩
 self:=fun _ _ _ _ _ st h=>wpAny_pyIter_listiter st h
theorem AH {P:Program}{w:World}{K:N7}{tg:Expr}(it:Addr) (lo:Int) (n:Nat):Turn P w K tg (Pm lo n) [it] it (fun i h=>IsRangeIter h it (lo+(i:Nat)*1) ((n:Int) - (i:Nat)) 1) where
 mem:=by simp
 obj:=fun i h st b hb=>by
  have e:b=it:=by simpa using hb
  subst e
  exact⟨_,st,fun v z=>by
   have z':Data.fields _=Data.cell v:=z
   cases z'⟩
 keep:=fun i h h' st k=>k it (by simp) _ st
 item:=by
  intro X hP hw hK hc i N3 s σ H E I hf st hg
  subst hP hw hK
  obtain⟨f0,f1,f2,f3,f4,f5⟩:=hf it (by simp)
  have W:=Walks.range (prog:=X.prog) (w:=X.w) (I.ok.hd hc) it lo 1 n
  refine W.item i s _ _ hg st fun v h' tk hv st' kk=>?_
  obtain⟨t,rfl⟩:=hv
  have I1:Inv X N3 σ H { s with heap:=h',toks:=tk }:=I.turned (fun b o hb e=>kk b o (by simpa using hb) e) f0 f1 f3 f4 f5
  refine⟨_,rfl,wF (s:={ s with heap:=h',toks:=tk }) (n:= "range_iterator") st' rfl rfl (by decide) ⟨.int (lo+i),H,I1,⟨t,?_⟩,⟨rfl,rfl⟩,st',fun b hb=>(hf b hb).1⟩⟩
  rw[Int.mul_one]
 done:=by
  intro X hP hw hK hc i N3 s σ H E I hf st hg
  subst hP hw hK
  obtain⟨f0,f1,f2,f3,f4,f5⟩:=hf it (by simp)
  exact wpAny_pyNext_range_end (I.ok.hd hc) st (by have:n<=i:=hg; omega) fun h' eb=>⟨rfl,I.turned (t':=s.toks) (fun b o hb e=>eb b o hb e) f0 f1 f3 f4 f5⟩
 self:=fun _ _ _ _ _ st h=>wpAny_pyIter_rangeiter st h
section
variable {X:Cx}{tg:Expr}
inductive Gf (K:N7) (R:It->Hp->Prop) (x:V) (H1:Hp):Prop | mk (a:_) (e0:x= .ref a) (e1:(∃xs,N5 K H1 a xs)) (q:R (PR K a) H1)
def En (K:N7) (tl:TE):TI:=fun σ H R=>tl σ H fun x H1=>Gf K R x H1
inductive Kk (K:N7) (R:It->Hp->Prop) (x:V) (H1:Hp):Prop | mk (a:_) (e0:x= .ref a) (e1:(∃xs,N9 K H1 a xs)) (q:R (Qo K a) H1)
theorem FE {l:Expr}{tl:TE}(hl:PE X l tl):PI X tg l (En X.K tl):=by
 intro N3 s σ H R I h
 refine Oc (hl N3 s σ H _ I h) fun v s1 ⟨x,H1,I1,r1,q1⟩=>?_
 obtain⟨a,e,⟨xs,hq⟩,q⟩:=q1
 subst e
 cases r1
 obtain⟨its,rv,p,hz⟩:=I1.list hq
 refine Ms p.isList ?_
 refine⟨s1.heap.objs.size,[s1.heap.objs.size],_,_,H1,rfl,I1.kept (t':=s1.toks) fun b o e=>Kx _ e,Bd a _,⟨_,K9 _ rfl,rfl,rfl⟩,fun b hb=>?_,q⟩
 have e:b=s1.heap.objs.size:=by simpa using hb
 subst e
 exact I1.iZ (Ku _) (I1.hok.fresh (Ku _))
theorem DK {N3:List (Addr×Obj)}{σ:St}{H:Hp}{s:Shared}{R:It->Hp->Prop}{E:Value->Shared->Prop}{lo hi:Int}{t u v:Tok}{tk:Nat}(I:Inv X N3 σ H s) (h1: -(2 ^ 62)<=lo) (h2:lo < 2 ^ 62) (h3: -(2 ^ 62)<=hi) (h4:hi < 2 ^ 62)
  (q:R (Pm lo (hi - lo).toNat) H):wpAny (model X.prog X.w) X.A (pyIter (.ref s.heap.objs.size)) (P7 X N3 σ tg R) E { s with heap:=s.heap.push { cls:= .type "range",data:= .fields #[.int lo t,.int hi u,.int 1 v] },toks:=tk }:=by
 refine wpAny_pyIter_range (IsRange.new ..) (small_one h1 h2 h3 h4) ?_
 have I1:Inv X N3 σ H { s with heap:=s.heap.push { cls:= .type "range",data:= .fields #[.int lo t,.int hi u,.int 1 v] },toks:=tk }:=I.kept fun b o e=>Kx _ e
 refine⟨(s.heap.push { cls:= .type "range",data:= .fields #[.int lo t,.int hi u,.int 1 v] }).objs.size,[(s.heap.push { cls:= .type "range",data:= .fields #[.int lo t,.int hi u,.int 1 v] }).objs.size],_,_,H,rfl,
  I1.kept (t':=tk) fun b o e=>Kx _ e,AH _ lo (hi - lo).toNat,?_,fun b hb=>?_,q⟩
 .have e1:lo+((0:Nat):Int)*1=lo:=by simp
  have e2:(((hi - lo).toNat:Nat):Int) - ((0:Nat):Int)=Builtin.Range.rangeSize lo hi 1:=by rw[rangeSize_one]; split <;> omega
  show IsRangeIter _ _ (lo+((0:Nat):Int)*1) ((((hi - lo).toNat:Nat):Int) - ((0:Nat):Int)) 1
  rw[e1,e2]
  exact K9 _ rfl
 .have e:b=(s.heap.push { cls:= .type "range",data:= .fields #[.int lo t,.int hi u,.int 1 v] }).objs.size:=by simpa using hb
  subst e
  exact I1.iZ (Ku _) (I1.hok.fresh (Ku _))
inductive Ha (R:It->Hp->Prop) (vs:List V) (H1:Hp):Prop | mk (j:Int) (e0:vs=[.int j]) (e1: -(2 ^ 62)<=j) (e2:j < 2 ^ 62) (q:R (Pm 0 j.toNat) H1)
def Eh (ta:TA):TI:=fun σ H R=>ta σ H fun vs H1=>Ha R vs H1
inductive JV (R:It->Hp->Prop) (vs:List V) (H1:Hp):Prop | mk (i j:Int) (e0:vs=[.int i,.int j]) (e1:(-(2 ^ 62)<=i/\i < 2 ^ 62/\ -(2 ^ 62)<=j/\j < 2 ^ 62)) (q:R (Pm i (j - i).toNat) H1)
theorem A0 {a:Expr}{ta:TA}{p pos:Pos}(hg:Gl X "range") (hm:X.mg "range" = none) (ha:PA X [a] ta) (hs:starEach [a] X.env=[(false,eval a X.env)]:=by rfl):PI X tg (.Call (.Name "range" p) [a] [] pos) (Eh ta):=by
 intro N3 s σ H R I h
 refine Call_ (nG I hg hm boot_range (Mf (Oc (ha pos N3 s σ H _ I h) fun us s1 ⟨vs,H1,I1,r1,q1⟩=>?_) hs rfl))
 obtain⟨j,e,q1,q2,q⟩:=q1
 subst e
 cases r1 with
 | cons r rr =>
  cases rr
  obtain⟨t,rfl⟩:=r
  exact call_range_1 (DK I1 (by omega) (by omega) q1 q2 (by simpa using q))
def G0 (wi:TI) (g:TG) (tb:TS):TS:=fun D σ H=>wi σ H fun J H1=> ∃W:Nat->Nat->St->Hp->Prop,(∃m,W 0 m σ H1)/\ ∀i m σ H,W i m σ H ->
 (J.stop i H/\D.nx σ H)\/(J.go i H/\ ∃N:St->Hp->Prop,(∀σ' H',N σ' H'-> ∃m',m' < m/\W (i+1) m' σ' H')/\ ∀x H',J.yld i H x H'->g x σ H' fun σ2 H2=>tb { D with nx:=N,ct:=N,bk:=D.nx } σ2 H2)
def qV (fp:List Addr) (h:Heap):List (Addr×Obj):=fp.filterMap fun b=>(h.get? b).map fun o=>(b,o)
theorem mq {fp:List Addr}{h:Heap}{b:Addr}{o:Obj}(hb:b∈fp) (e:h.get? b=some o):(b,o)∈qV fp h:=ME.mpr ⟨b,hb,by rw[e]; rfl⟩
theorem Bi {fp:List Addr}{h:Heap}{p:Addr×Obj}(hp:p∈qV fp h):p.1∈fp/\h.get? p.1=some p.2:=by
 obtain⟨b,hb,e⟩:=ME.mp hp
 cases q:h.get? b with
 | none=>rw[q] at e; cases e
 | some o =>
  rw[q] at e
  have e':(b,o)=p:=KS e
  subst e'
  exact⟨hb,q⟩
theorem Inv.pinned {N3:List (Addr×Obj)}{σ:St}{H:Hp}{s:Shared}{fp:List Addr}(I:Inv X N3 σ H s) (hf: ∀b∈fp,ck X N3 H b) (ho: ∀b∈fp,∃o,s.heap.get? b=some o/\ ∀v,o.data≠ .cell v):Inv X (N3++qV fp s.heap) σ H s :=
 I.jY fun p hp=>(KI.mp hp).elim (fun z=>I.pin p (K5 _ z)) fun z=>by
  obtain⟨hb,e⟩:=Bi z
  obtain⟨f0,f1,f2,_⟩:=hf p.1 hb
  obtain⟨o,e',d⟩:=ho p.1 hb
  rw[e] at e'; cases e'
  exact⟨e,f0,f1,f2,d⟩
theorem Inv.tP {N3 pl:List (Addr×Obj)}{σ:St}{H:Hp}{s:Shared}(I:Inv X (N3++pl) σ H s):Inv X N3 σ H s:=I.jY fun p hp=>I.pin p (K5 _ (Lo _ hp))
theorem F5 {iter:Expr}{body:List Stmt}{wi:TI}{g:TG}{tb:TS}{pos:Pos}(hp:PassesOwn (model X.prog X.w) X.A X.env X.xe) (hc:X.calm=true) (hi:PI X tg iter wi) (hg:PG X tg g) (hb:Ov X body tb)
  (hs: ∀x,foldedSetIterable iter X.env x=pure x:=by intro _; rfl):PS X (.For tg iter body [] pos) (G0 wi g tb):=by
 intro N3 s σ H D I h
 refine wpAny_For (Oc (hi N3 s σ H _ I h) fun v s1 h1=>Oc h1 fun itv s2 h2=>?_) hs
 obtain⟨it,fp,tn,J,H2,e,I2,T,st2,f2,W,⟨m0,w0⟩,turn⟩:=h2
 subst e
 have stat: ∀ {H':Hp},(∀b∈fp,H' b=none)-> ∀b∈fp,ck X N3 H' b:=fun hn b hb=>⟨hn b hb,(f2 b hb).2⟩
 refine codeAny_forLoop_any (fun n s'=> ∃i σ' H',Inv X N3 σ' H' s'/\tn i s'.heap/\(∀b∈fp,H' b=none)/\W i n σ' H') ?_ m0 ⟨0,σ,H2,I2,st2,fun b hb=>(f2 b hb).1,w0⟩
 rintro n s3 ⟨i,σ3,H3,I3,st3,fr3,w3⟩
 rcases turn i n σ3 H3 w3 with⟨stop,qn⟩ | ⟨go,N,hN,step⟩
 .refine Mr hp (Oc (T.done X rfl rfl rfl hc i N3 s3 σ3 H3 X.xe I3 (stat fr3) st3 stop) fun r s4 ⟨hr,I4⟩=>?_)
  subst hr
  exact Nl ⟨σ3,H3,I4,qn⟩
 .refine Mr hp (Oc (T.item X rfl rfl rfl hc i N3 s3 σ3 H3 X.xe I3 (stat fr3) st3 go) fun r s4 ⟨u,hr,h4⟩=>?_)
  subst hr
  refine Mr hp (Oc h4 fun _ s5 ⟨x,H5,I5,r5,y5,st5,fr5⟩=>?_)
  have I5':=I5.pinned (stat fr5) (T.obj _ _ st5)
  refine Mr hp (Oc (hg _ s5 σ3 H5 x u _ I5' r5 (step x H5 y5)) fun _ s6 ⟨σ6,H6,I6,q6⟩=>?_)
  refine Mr hp (Oc (hb _ s6 σ6 H6 _ I6 q6) fun f s7 q7=>?_)
  have again: ∀ {σ7:St}{H7:Hp},Inv X (N3++qV fp s5.heap) σ7 H7 s7->N σ7 H7-> ∃m,m < n/\ ∃i σ' H',Inv X N3 σ' H' s7/\tn i s7.heap/\(∀b∈fp,H' b=none)/\W i m σ' H':=fun {σ7 H7} I7 n7=>by
   obtain⟨m',hm,w7⟩:=hN σ7 H7 n7
   refine⟨m',hm,i+1,σ7,H7,I7.tP,T.keep _ _ _ st5 fun b hb o e=>(I7.pin (b,o) (K5 _ (K5 _ (mq hb e)))).1,fun b hb=>?_,w7⟩
   obtain⟨o,e,d⟩:=T.obj _ _ st5 b hb
   exact (I7.pin (b,o) (K5 _ (K5 _ (mq hb e)))).2.1
  cases f with
  | next=>obtain⟨σ7,H7,I7,n7⟩:=q7; exact again I7 n7
  | cont=>obtain⟨σ7,H7,I7,n7⟩:=q7; exact again I7 n7
  | brk=>obtain⟨σ7,H7,I7,q7⟩:=q7; exact⟨σ7,H7,I7.tP,q7⟩
  | ret v=>obtain⟨x7,σ7,H7,I7,r7,q7⟩:=q7; exact⟨x7,σ7,H7,I7.tP,r7,q7⟩
end
abbrev R2:=V->V->Hp->VK->Prop
def Ol (X:Cx) (f:Value->Value->Sem Value) (r:R2):Prop :=
 ∀(N3:List (Addr×Obj)) (s:Shared) (σ:St) (H:Hp) (x y:V) (v u:Value) (Q:VK),Inv X N3 σ H s->RelV x v->RelV y u->r x y H Q ->
  wpAny (model X.prog X.w) X.A (f v u) (EP X N3 σ Q) X.xe s
def PX (X:Cx) (f:Value->Sem Value) (r:V->Hp->VK->Prop):Prop :=
 ∀(N3:List (Addr×Obj)) (s:Shared) (σ:St) (H:Hp) (x:V) (v:Value) (Q:VK),Inv X N3 σ H s->RelV x v->r x H Q ->
  wpAny (model X.prog X.w) X.A (f v) (EP X N3 σ Q) X.xe s
def cX (X:Cx) (f:Value) (r:List V->Hp->VK->Prop):Prop :=
 ∀(N3:List (Addr×Obj)) (s:Shared) (σ:St) (H:Hp) (xs:List V) (us:List Value) (Q:VK),Inv X N3 σ H s->Vals xs us->r xs H Q ->
  wpAny (model X.prog X.w) X.A (call f us) (EP X N3 σ Q) X.xe s
def JP (X:Cx) (r:V->Hp->(Bool->Hp->Prop)->Prop):Prop :=
 ∀(N3:List (Addr×Obj)) (s:Shared) (σ:St) (H:Hp) (x:V) (v:Value) (Q:Bool->Hp->Prop),Inv X N3 σ H s->RelV x v->r x H Q ->
  wpAny (model X.prog X.w) X.A (truthy v) (TP X N3 σ Q) X.xe s
def OT (r:R2) (ta tb:TE):TE:=fun σ H Q=>ta σ H fun x H1=>tb σ H1 fun y H2=>r x y H2 Q
def Qs (r:V->Hp->VK->Prop) (ta:TE):TE:=fun σ H Q=>ta σ H fun x H1=>r x H1 Q
inductive Qp (C:Int->Int->Prop) (g:Int->Int->V) (x y:V) (H:Hp) (Q:VK):Prop | mk (i j:_) (e0:x= .int i) (e1:y= .int j) (e2:C i j) (q:Q (g i j) H)
def rI (C:Int->Int->Prop) (g:Int->Int->V):R2:=fun x y H Q=>Qp C g x y H Q
inductive Ju (g:Int->Int->V) (x y:V) (H:Hp) (Q:VK):Prop | mk (i j:_) (e0:x= .int i) (e1:y= .int j) (q:Q (g i j) H)
def Pa (g:Int->Int->V):R2:=fun x y H Q=>Ju g x y H Q
inductive Qq (g:Int->V) (x:V) (H:Hp) (Q:VK):Prop | mk (i:_) (e0:x= .int i) (q:Q (g i) H)
def rU (g:Int->V):V->Hp->VK->Prop:=fun x H Q=>Qq g x H Q
section
variable {X:Cx}{a b c:Expr}{ta tb tc:TE}{pos:Pos}
theorem Dc (ha:PE X a ta) (hb:PE X b tb){N3:List (Addr×Obj)}{s:Shared}{σ:St}{H:Hp}{R:V->V->Hp->Prop}(I:Inv X N3 σ H s)
  (h:ta σ H fun x H1=>tb σ H1 fun y H2=>R x y H2) {Q:Value->Shared->Prop}{f:Value->Value->Sem Value}
  (hf: ∀v u s2 x y H2,Inv X N3 σ H2 s2->RelV x v->RelV y u->R x y H2->wpAny (model X.prog X.w) X.A (f v u) Q X.xe s2) :
  wpAny (model X.prog X.w) X.A (eval a X.env) (fun v s₁=>wpAny (model X.prog X.w) X.A (eval b X.env) (fun u s₂=>wpAny (model X.prog X.w) X.A (f v u) Q X.xe s₂) X.xe s₁) X.xe s:=by
 refine Oc (ha N3 s σ H _ I h) fun v s1 ⟨x,H1,I1,r1,q1⟩=>?_
 refine Oc (hb N3 s1 σ H1 _ I1 q1) fun u s2 ⟨y,H2,I2,r2,q2⟩=>?_
 exact hf v u s2 x y H2 I2 r1 r2 q2
theorem ax {op:Operator}{r:R2}(ho:Ol X (binaryOp op) r) (ha:PE X a ta) (hb:PE X b tb):PE X (.BinOp a op b pos) (OT r ta tb):=by
 intro N3 s σ H Q I h
 exact wpAny_BinOp (Dc ha hb I h fun v u s2 x y H2 I2 rx ry q=>ho N3 s2 σ H2 x y v u Q I2 rx ry q)
theorem wN {op:UnaryOp}{r:V->Hp->VK->Prop}(ho:PX X (unaryOp op) r) (ha:PE X a ta):PE X (.UnaryOp op a pos) (Qs r ta):=by
 intro N3 s σ H Q I h
 exact UnaryOp_ (Oc (ha N3 s σ H _ I h) fun v s1 ⟨x,H1,I1,r1,q1⟩=>ho N3 s1 σ H1 x v Q I1 r1 q1)
theorem Pt {f:Value->Value->Sem Value}{C:Int->Int->Prop}{g:Int->Int->Int}
  (rule: ∀(i j:Int) (t u:Tok) (s:Shared) (Q:Value->Shared->Prop) (E:Value->Shared->Prop),C i j->Q (.int (g i j) s.toks) { s with toks:=s.toks+1 }->wpAny (model X.prog X.w) X.A (f (.int i t) (.int j u)) Q E s) :
  Ol X f (rI C fun i j=> .int (g i j)):=by
 intro N3 s σ H x y v u Q I rx ry h
 obtain⟨i,j,rfl,rfl,hc,q⟩:=h
 obtain⟨t,rfl⟩:=rx
 obtain⟨t',rfl⟩:=ry
 exact rule i j t t' s _ _ hc ⟨.int (g i j),H,I.tok _,⟨_,rfl⟩,q⟩
theorem Gx {f:Value->Value->Sem Value}{g:Int->Int->Int}
  (rule: ∀(i j:Int) (t u:Tok) (s:Shared) (Q:Value->Shared->Prop) (E:Value->Shared->Prop),Q (.int (g i j) s.toks) { s with toks:=s.toks+1 }->wpAny (model X.prog X.w) X.A (f (.int i t) (.int j u)) Q E s) :
  Ol X f (Pa fun i j=> .int (g i j)):=by
 intro N3 s σ H x y v u Q I rx ry h
 obtain⟨i,j,rfl,rfl,q⟩:=h
 obtain⟨t,rfl⟩:=rx
 obtain⟨t',rfl⟩:=ry
 exact rule i j t t' s _ _ ⟨.int (g i j),H,I.tok _,⟨_,rfl⟩,q⟩
theorem AJ {f:Value->Value->Sem Value}{g:Int->Int->Bool}
  (rule: ∀(i j:Int) (t u:Tok) (s:Shared) (Q:Value->Shared->Prop) (E:Value->Shared->Prop),Q (.bool (g i j)) s->wpAny (model X.prog X.w) X.A (f (.int i t) (.int j u)) Q E s) :
  Ol X f (Pa fun i j=> .bl (g i j)):=by
 intro N3 s σ H x y v u Q I rx ry h
 obtain⟨i,j,rfl,rfl,q⟩:=h
 obtain⟨t,rfl⟩:=rx
 obtain⟨t',rfl⟩:=ry
 exact rule i j t t' s _ _ ⟨.bl (g i j),H,I,rfl,q⟩
def JO (i j:Int):Prop:=0 < j/\j < 1073741824
def JA (i j:Int):Prop:=0<=j/\j<=1000000/\i.natAbs < 2 ^ 64
def Dd (i j:Int):Prop:=(-(2 ^ 64) < i/\i < 2 ^ 64)\/(-(2 ^ 64) < j/\j < 2 ^ 64)
theorem Dd.ok {i j:Int}(h:Dd i j):IntMulOk i j:=by
 rcases h with⟨h1,h2⟩ | ⟨h1,h2⟩
 .exact .of_left (intBits_le_64 h1 h2)
 .exact .of_right (intBits_le_64 h1 h2)
theorem bH:Ol X (binaryOp .Add) (Pa fun i j=> .int (i+j)):=Gx fun _ _ _ _ _ _ _ q=>add_int q
theorem pj:Ol X (binaryOp .Sub) (Pa fun i j=> .int (i - j)):=Gx fun _ _ _ _ _ _ _ q=>sub_int q
theorem xF:Ol X (binaryOp .Mult) (rI Dd fun i j=> .int (i*j)):=Pt fun _ _ _ _ _ _ _ hc q=>mul_int q hc.ok
theorem bN:Ol X (binaryOp .FloorDiv) (rI JO fun i j=> .int (i / j)):=Pt fun i j _ _ _ _ _ hc q=>by
 have h1:(0:Int) < j:=hc.1
 have h2:j < 1073741824:=hc.2
 exact floordiv_int (by omega) (by rw[NF i (by omega)]; exact q) (.inl (PyProof.noPylong_small (by omega)))
theorem bx:Ol X (binaryOp .Mod) (rI (fun _ j=>0 < j) fun i j=> .int (i % j)):=Pt fun i j _ _ _ _ _ hc q=>by
 have h1:(0:Int) < j:=hc
 exact mod_int' (by omega) (by rw[Int.fmod_eq_emod_of_nonneg i (by omega)]; exact q)
theorem uz:Ol X (binaryOp .Pow) (rI JA fun i j=> .int (i ^ j.toNat)):=Pt fun _ _ _ _ _ _ _ hc q=>pow_int_small hc.1 hc.2.1 hc.2.2 q
theorem Qe {f:Value->Sem Value}{g:Int->Int}
  (rule: ∀(i:Int) (t:Tok) (s:Shared) (Q:Value->Shared->Prop) (E:Value->Shared->Prop),Q (.int (g i) s.toks) { s with toks:=s.toks+1 }->wpAny (model X.prog X.w) X.A (f (.int i t)) Q E s) :
  PX X f (rU fun i=> .int (g i)):=by
 intro N3 s σ H x v Q I rx h
 obtain⟨i,rfl,q⟩:=h
 obtain⟨t,rfl⟩:=rx
 exact rule i t s _ _ ⟨.int (g i),H,I.tok _,⟨_,rfl⟩,q⟩
theorem ue:PX X (unaryOp .USub) (rU fun i=> .int (-i)):=Qe fun _ _ _ _ _ q=>neg_int q
end
def Gb:V->V->Bool
 | .non,.non=>true | .non,.int _=>true | .int _,.non=>true | .non,.bl _=>true | .bl _,.non=>true | .non,.str _=>true | .str _,.non=>true
 | .int _,.int _=>true | .bl _,.bl _=>true | .str _,.str _=>true | .byt _,.byt _=>true
 | .int _,.str _=>true | .str _,.int _=>true | .bl _,.str _=>true | .str _,.bl _=>true
 | _,_=>false
def P4:R2:=fun x y H Q=>Gb x y=true/\Q (.bl (decide (x=y))) H
def Qk:R2:=fun x y H Q=>Gb x y=true/\Q (.bl (!decide (x=y))) H
theorem y4 {i j:Int}:decide (V.int i=V.int j)=(i == j):=by
 rw[Mj]
 simp
theorem BZ {i j:Bool}:decide (V.bl i=V.bl j)=(i == j):=by
 rw[Mj]
 simp
theorem zi {i j:Str}:decide (V.str i=V.str j)=(i == j):=by
 rw[Mj]
 simp
theorem zk {i j:Array UInt8}:decide (V.byt i=V.byt j)=(i.toList == j.toList):=by
 rw[Mj]
 cases i
 cases j
 simp
section
variable {X:Cx}{a b c:Expr}{ta tb tc:TE}{pos:Pos}
theorem bB {N3:List (Addr×Obj)}{σ:St}{H:Hp}{s:Shared}{Q:VK}{k k':Bool}(I:Inv X N3 σ H s) (q:Q (.bl k) H) (e:k=k'):EP X N3 σ Q (.bool k') s:=by
 subst e
 exact⟨.bl k,H,I,rfl,q⟩
theorem aZ:Ol X (compareOp .Eq) P4:=by
 intro N3 s σ H x y v u Q I rx ry h
 obtain⟨hs,q⟩:=h
 cases x with
 | non =>
  cases rx
  cases y with
  | non=>cases ry; exact PySem.EqNone.eq_none_none (bB I q (by simp))
  | bl j=>cases ry; exact PySem.EqNone.eq_none_bool (bB I q (by simp))
  | int j=>obtain⟨t',rfl⟩:=ry; exact PySem.EqNone.eq_none_int (bB I q (by simp))
  | str j=>obtain⟨t',rfl⟩:=ry; exact PySem.EqNone.eq_none_str (bB I q (by simp))
  | _=>exact absurd (show false=true from hs) KN
 | bl i =>
  cases rx
  cases y with
  | non=>cases ry; exact PySem.EqNone.eq_bool_none (bB I q (by simp))
  | bl j=>cases ry; exact eq_bool (bB I q BZ)
  | str j=>obtain⟨t',rfl⟩:=ry; exact PySem.EqMixed.eq_bool_str (bB I q (by simp))
  | _=>exact absurd (show false=true from hs) KN
 | int i =>
  obtain⟨t,rfl⟩:=rx
  cases y with
  | non=>cases ry; exact PySem.EqNone.eq_int_none (bB I q (by simp))
  | int j=>obtain⟨t',rfl⟩:=ry; exact eq_int (bB I q y4)
  | str j=>obtain⟨t',rfl⟩:=ry; exact PySem.EqMixed.eq_int_str (bB I q (by simp))
  | _=>exact absurd (show false=true from hs) KN
 | str i =>
  obtain⟨t,rfl⟩:=rx
  cases y with
  | non=>cases ry; exact PySem.EqNone.eq_str_none (bB I q (by simp))
  | bl j=>cases ry; exact PySem.EqMixed.eq_str_bool (bB I q (by simp))
  | int j=>obtain⟨t',rfl⟩:=ry; exact PySem.EqMixed.eq_str_int (bB I q (by simp))
  | str j=>obtain⟨t',rfl⟩:=ry; exact eq_str (bB I q zi)
  | _=>exact absurd (show false=true from hs) KN
 | byt i =>
  obtain⟨t,rfl⟩:=rx
  cases y with
  | byt j=>obtain⟨t',rfl⟩:=ry; exact PySem.W.eq_bytes (bB I q zk)
  | _=>exact absurd (show false=true from hs) KN
 | _=>cases y <;> exact absurd (show false=true from hs) KN
theorem eU:Ol X (compareOp .NotEq) Qk:=by
 intro N3 s σ H x y v u Q I rx ry h
 obtain⟨hs,q⟩:=h
 cases x with
 | non =>
  cases rx
  cases y with
  | non=>cases ry; exact PySem.EqNone.ne_none_none (bB I q (by simp))
  | bl j=>cases ry; exact PySem.EqNone.ne_none_bool (bB I q (by simp))
  | int j=>obtain⟨t',rfl⟩:=ry; exact PySem.EqNone.ne_none_int (bB I q (by simp))
  | str j=>obtain⟨t',rfl⟩:=ry; exact PySem.EqNone.ne_none_str (bB I q (by simp))
  | _=>exact absurd (show false=true from hs) KN
 | bl i =>
  cases rx
  cases y with
  | non=>cases ry; exact PySem.EqNone.ne_bool_none (bB I q (by simp))
  | bl j=>cases ry; exact ne_bool (bB I q (Ln not BZ))
  | str j=>obtain⟨t',rfl⟩:=ry; exact PySem.EqMixed.ne_bool_str (bB I q (by simp))
  | _=>exact absurd (show false=true from hs) KN
 | int i =>
  obtain⟨t,rfl⟩:=rx
  cases y with
  | non=>cases ry; exact PySem.EqNone.ne_int_none (bB I q (by simp))
  | int j=>obtain⟨t',rfl⟩:=ry; exact ne_int (bB I q (Ln not y4))
  | str j=>obtain⟨t',rfl⟩:=ry; exact PySem.EqMixed.ne_int_str (bB I q (by simp))
  | _=>exact absurd (show false=true from hs) KN
 | str i =>
  obtain⟨t,rfl⟩:=rx
  cases y with
  | non=>cases ry; exact PySem.EqNone.ne_str_none (bB I q (by simp))
  | bl j=>cases ry; exact PySem.EqMixed.ne_str_bool (bB I q (by simp))
  | int j=>obtain⟨t',rfl⟩:=ry; exact PySem.EqMixed.ne_str_int (bB I q (by simp))
  | str j=>obtain⟨t',rfl⟩:=ry; exact ne_str (bB I q (Ln not zi))
  | _=>exact absurd (show false=true from hs) KN
 | byt i =>
  obtain⟨t,rfl⟩:=rx
  cases y with
  | byt j=>obtain⟨t',rfl⟩:=ry; exact PySem.W.ne_bytes (bB I q (Ln not zk))
  | _=>exact absurd (show false=true from hs) KN
 | _=>cases y <;> exact absurd (show false=true from hs) KN
theorem nY:Ol X (compareOp .Lt) (Pa fun i j=> .bl (decide (i < j))):=AJ fun _ _ _ _ _ _ _ q=>lt_int q
theorem Ep:Ol X (compareOp .LtE) (Pa fun i j=> .bl (decide (i<=j))):=AJ fun _ _ _ _ _ _ _ q=>le_int q
theorem sq:Ol X (compareOp .Gt) (Pa fun i j=> .bl (decide (j < i))):=AJ fun _ _ _ _ _ _ _ q=>gt_int q
theorem wM:Ol X (compareOp .GtE) (Pa fun i j=> .bl (decide (j<=i))):=AJ fun _ _ _ _ _ _ _ q=>ge_int q
theorem eR:Ol X (compareOp .Is) (fun x y H Q=>y= .non/\Q (.bl (decide (x= .non))) H):=by
 intro N3 s σ H x y v u Q I rx ry h
 obtain⟨rfl,q⟩:=h
 cases ry
 refine is_none_gen (bB I q ?_)
 cases x <;> first
  | (cases rx; rfl)
  | (obtain⟨t,rfl⟩:=rx; rfl)
theorem fN:Ol X (compareOp .IsNot) (fun x y H Q=>y= .non/\Q (.bl (!decide (x= .non))) H):=by
 intro N3 s σ H x y v u Q I rx ry h
 obtain⟨rfl,q⟩:=h
 cases ry
 refine isnot_none_gen (bB I q ?_)
 cases x <;> first
  | (cases rx; rfl)
  | (obtain⟨t,rfl⟩:=rx; rfl)
theorem AQ (b:Expr){op:CmpOp}(h:op≠ .In:=by decide) (h2:op≠ .NotIn:=by decide):behindInMarks op b=false:=by
 have e1:(op == CmpOp.In)=false:=by cases op <;> first | rfl | exact absurd rfl h
 have e2:(op == CmpOp.NotIn)=false:=by cases op <;> first | rfl | exact absurd rfl h2
 cases b <;> simp[behindInMarks,e1,e2]
theorem zC {op:CmpOp}{r:R2}(ho:Ol X (compareOp op) r) (ha:PE X a ta) (hb:PE X b tb) (hm:behindInMarks op b=false):PE X (.Compare a [op] [b] pos) (OT r ta tb):=by
 intro N3 s σ H Q I h
 exact wpAny_Compare1 (Dc ha hb I h fun v u s2 x y H2 I2 rx ry q=>ho N3 s2 σ H2 x y v u Q I2 rx ry q) hm
inductive GN (Q:Bool->Hp->Prop) (x:V) (H':Hp):Prop | mk (k:_) (e0:x= .bl k) (q:Q k H')
def wI (t:TE):TT:=fun σ H Q=>t σ H fun x H'=>GN Q x H'
theorem zo {op:CmpOp}{r:R2}(ho:Ol X (compareOp op) r) (ha:PE X a ta) (hb:PE X b tb) (hm:behindInMarks op b=false):PT X (.Compare a [op] [b] pos) (wI (OT r ta tb)):=by
 intro N3 s σ H Q I h
 refine wpAny_isTrue_Compare1 (Oc (ha N3 s σ H _ I h) fun v s1 ⟨x,H1,I1,r1,q1⟩=>Oc (hb N3 s1 σ H1 _ I1 q1) fun u s2 ⟨y,H2,I2,r2,q2⟩ =>
  Oc (ho N3 s2 σ H2 x y v u _ I2 r1 r2 q2) fun c s3 ⟨z,H3,I3,r3,k,e,q3⟩=>?_) hm
 subst e
 cases r3
 exact LH ⟨H3,I3,q3⟩
inductive FT (r':R2) (tc:TE) (σ:St) (Q:VK) (y z:V) (H3:Hp):Prop | mk (k:_) (e0:z= .bl k) (q:(if k=true then tc σ H3 fun w' H4=>r' y w' H4 Q else Q (.bl false) H3))
def Gv (r r':R2) (ta tb tc:TE):TE:=fun σ H Q=>ta σ H fun x H1=>tb σ H1 fun y H2=>r x y H2 fun z H3=>FT r' tc σ Q y z H3
theorem xQ {op op':CmpOp}{r r':R2}(ho:Ol X (compareOp op) r) (ho':Ol X (compareOp op') r') (ha:PE X a ta) (hb:PE X b tb) (hc:PE X c tc)
  (hm:lastMarks [op,op'] [b,c]=false:=by with_unfolding_all rfl):PE X (.Compare a [op,op'] [b,c] pos) (Gv r r' ta tb tc):=by
 intro N3 s σ H Q I h
 refine Compare_chain (Oc (ha N3 s σ H _ I h) fun v s1 ⟨x,H1,I1,r1,q1⟩=>chain_link (Oc (hb N3 s1 σ H1 _ I1 q1) fun u s2 ⟨y,H2,I2,r2,q2⟩ =>
  Oc (ho N3 s2 σ H2 x y v u _ I2 r1 r2 q2) fun d s3 ⟨z,H3,I3,r3,k,e,q3⟩=>?_)) hm
 subst e
 cases r3
 refine LH ?_
 cases k with
 | false=>exact ite_ff ⟨.bl false,H3,I3,rfl,q3⟩
 | true=>exact ite_tt (chain_last (Oc (hc N3 s3 σ H3 _ I3 q3) fun w' s4 ⟨z',H4,I4,r4,q4⟩=>ho' N3 s4 σ H4 y z' u w' Q I4 r2 r4 q4))
def AA (K:N7) (x:V) (H:Hp) (k:Bool):Prop :=
 match x with
 | .non=>k=false
 | .bl b=>k=b
 | .int i=>k=(i !=0)
 | .str y=>y.length<=sizeLine/\k=((y.length:Int) !=0)
 | .byt y=>y.size<=sizeLine/\k=((y.size:Int) !=0)
 | .ref p=>(∃xs,N5 K H p xs/\k= !xs.isEmpty)\/(∃xs,N9 K H p xs/\k= !xs.isEmpty)\/ ∃kvs,H p=some (.dK kvs)/\k= !kvs.isEmpty
 | _=>False
theorem Av {κ:Type}{kvs:List (κ×V)}{vs:List (κ×Value)}(r:KV kvs vs):(!vs.isEmpty)= !kvs.isEmpty:=by
 cases r <;> rfl
theorem uG {xs:List V}{its:List Value}(r:Vals xs its):(!its.toArray.isEmpty)= !xs.isEmpty:=by
 cases r <;> simp
theorem pE:(sizeLine:Nat) < 2 ^ 63:=by rw[Ny]; decide
theorem G9:JP X (fun x H Q=> ∃k,AA X.K x H k/\Q k H):=by
 intro N3 s σ H x v Q I rx h
 obtain⟨k,e,q⟩:=h
 have hl:=pE
 have hs:sizeLine=16777216:=Ny
 cases x with
 | non =>
  cases rx
  have e':k=false:=e
  subst e'
  exact truthy_none ⟨H,I,q⟩
 | bl b =>
  cases rx
  have e':k=b:=e
  subst e'
  exact LH ⟨H,I,q⟩
 | int i =>
  obtain⟨t,rfl⟩:=rx
  have e':k=(i !=0):=e
  subst e'
  exact PySem.P.truthy_int ⟨H,I,q⟩
 | str y =>
  obtain⟨t,rfl⟩:=rx
  obtain⟨hy,e'⟩:y.length<=sizeLine/\k=((y.length:Int) !=0):=e
  subst e'
  exact PySem.P.truthy_str (by omega) ⟨H,I.tok _,q⟩
 | byt y =>
  obtain⟨t,rfl⟩:=rx
  obtain⟨hy,e'⟩:y.size<=sizeLine/\k=((y.size:Int) !=0):=e
  subst e'
  exact PySem.W.truthy_bytes (by omega) ⟨H,I.tok _,q⟩
 | ref p =>
  cases rx
  have e':(∃xs,N5 X.K H p xs/\k= !xs.isEmpty)\/(∃xs,N9 X.K H p xs/\k= !xs.isEmpty)\/ ∃kvs,H p=some (.dK kvs)/\k= !kvs.isEmpty:=e
  rcases e' with⟨xs,hx,e'⟩ | ⟨xs,hx,e'⟩ | ⟨kvs,hx,e'⟩
  .subst e'
   obtain⟨its,r,pl,hz⟩:=I.list hx
   have hlen:=r.length
   exact wpAny_truthy_list pl.isList (by simp only[KL]; omega) ⟨H,I.tok _,by rw[uG r]; exact q⟩
  .subst e'
   obtain⟨its,r,pl,hz⟩:=I.tuple hx
   have hlen:=r.length
   exact truthy_tuple pl (by simp only[KL]; omega) ⟨H,I.tok _,by rw[uG r]; exact q⟩
  .subst e'
   obtain⟨hz,hS,vs,r,m⟩:kvs.length<=sizeLine/\(p == sysModules)=false/\ ∃vs,KV kvs vs/\s.heap.DictOf (cm X.prog X.w) p vs:=I.hok p _ hx
   have hlen:kvs.length=vs.length:=ND r
   exact wpAny_truthy_dict hS m (by omega) ⟨H,I.tok _,by rw[Av r]; exact q⟩
 | _=>exact (show False from e).elim
theorem CS (ha:PE X a ta) (he: ∀whole,isTrue a X.env whole=(do let v <-whole; standAt a.pos; holding [v] (truthy v))) :
  PT X a (fun σ H Q=>ta σ H fun x H'=> ∃k,AA X.K x H' k/\Q k H'):=by
 intro N3 s σ H Q I h
 exact isTrue_plain (Oc (ha N3 s σ H _ I h) fun v s1 ⟨x,H1,I1,r1,q1⟩=>G9 N3 s1 σ H1 x v Q I1 r1 q1) (he _)
theorem mj:Ol X (binaryOp .Add) (fun x y H Q=> ∃i j,x= .str i/\y= .str j/\i.length+j.length<=sizeLine/\Q (.str (i++j)) H):=by
 intro N3 s σ H x y v u Q I rx ry h
 obtain⟨i,j,rfl,rfl,hz,q⟩:=h
 obtain⟨t,rfl⟩:=rx
 obtain⟨t',rfl⟩:=ry
 exact add_str (fun t' tk=>⟨.str (i++j),H,I.tok _,⟨_,rfl⟩,q⟩) hz
theorem vals1 {x:V}{us:List Value}(r:Vals [x] us): ∃u,us=[u]/\RelV x u:=by
 cases r with
 | cons r1 r2=>cases r2; exact⟨_,rfl,r1⟩
theorem vals2 {x y:V}{us:List Value}(r:Vals [x,y] us): ∃u w',us=[u,w']/\RelV x u/\RelV y w':=by
 cases r with
 | cons r1 r2 =>
  cases r2 with
  | cons r3 r4=>cases r4; exact⟨_,_,rfl,r1,r3⟩
theorem jg (hc:X.calm=true):cX X (.builtin "max") (fun xs H Q=> ∃i j,xs=[.int i,.int j]/\Q (.int (if j > i then j else i)) H):=by
 intro N3 s σ H xs us Q I r h
 obtain⟨i,j,rfl,q⟩:=h
 obtain⟨u,w',rfl,⟨t,rfl⟩,⟨t',rfl⟩⟩:=vals2 r
 refine max_two_ints (I.ok.hd hc) fun h' tk k=>⟨_,H,I.kept k,?_,q⟩
 by_cases hj:j > i
 .rw[Ks hj,Ks hj]; exact⟨_,rfl⟩
 .rw[Kp hj,Kp hj]; exact⟨_,rfl⟩
theorem vD (hc:X.calm=true):cX X (.builtin "min") (fun xs H Q=> ∃i j,xs=[.int i,.int j]/\Q (.int (if j < i then j else i)) H):=by
 intro N3 s σ H xs us Q I r h
 obtain⟨i,j,rfl,q⟩:=h
 obtain⟨u,w',rfl,⟨t,rfl⟩,⟨t',rfl⟩⟩:=vals2 r
 refine min_two_ints (I.ok.hd hc) fun h' tk k=>⟨_,H,I.kept k,?_,q⟩
 by_cases hj:j < i
 .rw[Ks hj,Ks hj]; exact⟨_,rfl⟩
 .rw[Kp hj,Kp hj]; exact⟨_,rfl⟩
theorem gK:cX X (.type "int") (fun xs H Q=>(∃i,xs=[.int i]/\Q (.int i) H)\/ ∃k,xs=[.bl k]/\Q (.int (if k then 1 else 0)) H):=by
 intro N3 s σ H xs us Q I r h
 rcases h with⟨i,rfl,q⟩ | ⟨k,rfl,q⟩
 .obtain⟨u,rfl,t,rfl⟩:=vals1 r
  exact call_int_int ⟨.int i,H,I,⟨_,rfl⟩,q⟩
 .obtain⟨u,rfl,r1⟩:=vals1 r
  cases r1
  exact call_int_bool ⟨.int (if k then 1 else 0),H,I.tok _,⟨_,rfl⟩,q⟩
def F3 (K:N7) (x:V) (H:Hp) (n:Nat):Prop :=
 match x with
 | .str y=>y.length<=sizeLine/\n=y.length
 | .byt y=>y.size<=sizeLine/\n=y.size
 | .ref p=>(∃xs,N5 K H p xs/\n=xs.length)\/ ∃xs,N9 K H p xs/\n=xs.length
 | _=>False
theorem Dg:cX X (.builtin "len") (fun xs H Q=> ∃x n,xs=[x]/\F3 X.K x H n/\Q (.int n) H):=by
 intro N3 s σ H xs us Q I r h
 obtain⟨x,n,rfl,e,q⟩:=h
 obtain⟨u,rfl,rx⟩:=vals1 r
 have hl:=pE
 have hs:sizeLine=16777216:=Ny
 cases x with
 | str y =>
  obtain⟨t,rfl⟩:=rx
  obtain⟨hy,e'⟩:y.length<=sizeLine/\n=y.length:=e
  subst e'
  exact len_str (by omega) ⟨.int _,H,I.tok _,⟨_,rfl⟩,q⟩
 | byt y =>
  obtain⟨t,rfl⟩:=rx
  obtain⟨hy,e'⟩:y.size<=sizeLine/\n=y.size:=e
  subst e'
  exact PySem.W.len_bytes (by omega) ⟨.int _,H,I.tok _,⟨_,rfl⟩,q⟩
 | ref p =>
  cases rx
  have e':(∃xs,N5 X.K H p xs/\n=xs.length)\/ ∃xs,N9 X.K H p xs/\n=xs.length:=e
  rcases e' with⟨xs,hx,e'⟩ | ⟨xs,hx,e'⟩
  .subst e'
   obtain⟨its,r',pl,hz⟩:=I.list hx
   have hlen:=r'.length
   exact Calls.call_len_list pl.isList (by simp only[KL]; omega) ⟨.int xs.length,H,I.tok _,⟨_,by simp only[KL]; rw[hlen]⟩,q⟩
  .subst e'
   obtain⟨its,r',pl,hz⟩:=I.tuple hx
   have hlen:=r'.length
   exact len_tuple pl (by simp only[KL]; omega) ⟨.int xs.length,H,I.tok _,⟨_,by simp only[KL]; rw[hlen]⟩,q⟩
 | _=>exact (show False from e).elim
end
structure tG (h:Heap) (x dx C:Addr) (mA:Str->Option Value):Prop where
 obj:h.get? x=some (PySem.W.instObj C dx)
 ns:h.Ns1 dx mA
 ne:dx≠x
theorem Bs {h:Heap}{dx:Addr}{mA:Str->Option Value}(n:h.Ns1 dx mA): ∃od,h.get? dx=some od/\ ∀name,PySem.W.lookIn name od=some (mA name):=by
 obtain⟨o,es,ep,ho,hd,hk,_,hm⟩:=n
 refine⟨o,ho,fun name=>?_⟩
 have e:=hm name
 unfold nsFind findBy at e
 rw[<-Array.find?_toList] at e
 unfold PySem.W.lookIn
 rw[hd]
 dsimp only
 split
 .rename_i y q
  rw[q] at e
  exact Ln some e
 .rename_i q
  rw[q] at e
  have a:es.toList.any (·.refKey)=false:=by
   rw[NJ]
   intro y hy
   obtain⟨z,t,hkey⟩:=hk y (Array.mem_toList_iff.mp hy)
   simp[DictEntry.refKey,hkey]
  have a': ¬es.toList.any (·.refKey)=true:=by rw[a]; exact KN
  rw[Kp a']
  exact Ln some e
theorem tG.look {h:Heap}{x dx C:Addr}{mA:Str->Option Value}(I:tG h x dx C mA): ∃od,PySem.W.InstAt h x (PySem.W.instObj C dx) C (some od)/\ ∀name,PySem.W.lookIn name od=some (mA name) :=
 let ⟨od,ho,hl⟩:=Bs I.ns
 ⟨od,⟨I.obj,rfl,rfl,ho⟩,hl⟩
section
variable {prog:Program}{w:World}{A:Around}{E:Value->Shared->Prop}{s:Shared}{K:N7}{x dx C f:Addr}{mA:Str->Option Value}{name:Str}{v:Value}
theorem get_map {expr:Bool}{Q:Value->Shared->Prop}(X:K.In s.heap) (I:tG s.heap x dx C mA) (hg:PySem.W.plainGet K C name=true) (hh:PySem.W.hasDictIn K C=true)
  (ha:PySem.W.findIn K (.ref C) name=some none) (hv:mA name=some v) (hv':PySem.W.handedIn v=true) (h:Q v { s with toks:=s.toks+1 }) :
  wpAny (model prog w) A (getAttr (.ref x) name expr) Q E s:=by
 obtain⟨od,J,hl⟩:=I.look
 exact PySem.W.get_value X J (Nr hg).1 (PySem.W.findObj_own hh ha rfl (by rw[hl,hv])) hv' h
theorem Ec {pl:Sem Bool}{Q:Value×List Value->Shared->Prop}(X:K.In s.heap) (I:tG s.heap x dx C mA) (hg:PySem.W.plainGet K C name=true)
  (hf:PySem.W.findIn K (.ref C) name=some (some (.ref f))) (ht:PySem.W.isFn K (.ref f)=true) (hv:mA name=none) (h:Q (.ref f,[.ref x]) s) :
  wpAny (model prog w) A (getMethod (.ref x) name pl) Q E s:=by
 obtain⟨od,J,hl⟩:=I.look
 exact PySem.W.method_fn X J (Nr hg).1 (Nr hg).2 hf (beq_iff_eq.mp ht) (by show (PySem.W.lookIn name od).map (·.isSome)=some false; rw[hl,hv]; rfl) h
theorem E4 {ns:List Str}{Q:Unit->Shared->Prop}(X:K.In s.heap) (I:tG s.heap x dx C mA)
  (hs:PySem.W.findIn K (.ref C) "__setattr__" = some (some (.builtin "object.__setattr__"))) (hp:PySem.W.plainOver K C=true) (ht:PySem.W.takerIn K C name=some none) (hh:PySem.W.hasDictIn K C=true)
  (hw:PySem.Within mA ns) (hsz:ns.length<=sizeLine)
  (h: ∀h',tG h' x dx C (fun y=>if y=name then some v else mA y)->Heap.SameBut dx s.heap h'->Q () { s with heap:=h',toks:=s.toks+2 }) :
  wpAny (model prog w) A (setAttr (.ref x) name v) Q E s:=by
 obtain⟨od,J,hl⟩:=I.look
 refine PySem.W.set_plain X J hs (PySem.W.osa_open (s:={ s with toks:=s.toks+1 }) (r:=none) X J hp ht fun b=>?_)
 obtain⟨cd,hc,hd'⟩:=PySem.W.any_some hh
 have hx:s.heap.get? x=some ⟨.ref C,some dx,.plain,#[]⟩:=I.obj
 refine Kv (KP (Kv (Kv (wpAny_loadPart hx (Kv (PySem.W.Looks.here (s:={ s with toks:=s.toks+1 }) (PySem.W.looks_clsIn X hc) ?_))))))
 rw[hd']
 refine KP (a:=some dx) (Kv (KP (Kv ?_)))
 refine wpAny_nsSet1 (s:={ s with toks:=s.toks+1 }) I.ns fun h' hn2 hs2=>?_
 obtain⟨oD,esD,epD,hoD,hdD,hcD⟩:=hn2.count (PySem.Within.cons name v hw)
 refine Kv (wpAny_lookBehind hoD (by rw[hdD]; exact pastItsLine_dict (KR hcD (by rw[K1]; omega))) ?_)
 exact KP (h _ ⟨(hs2.2 _ (K2 I.ne)).trans I.obj,hn2,I.ne⟩ hs2)
theorem C1 {R:Result->Shared->Prop}{vs:List Value}{kw:List (Str×Value)}(X:K.In s.heap) (hm:PySem.W.makesIn K C=true)
  (hi:PySem.W.findIn K (.ref C) "__init__" = some (some (.ref f))) (hf:PySem.W.typeIn K (.ref f)=some (.type "function"))
  (h:codeAny (model prog w) (A.under (.builtin "type.__call__" ⟨.ref C::vs,kw⟩)) (.call (.ref f) ⟨.ref (s.heap.objs.size+1)::vs,kw⟩) (PySem.W.InitBack (s.heap.objs.size+1) R)
   { s with heap:=(s.heap.push PySem.W.emptyDict).push (PySem.W.instObj C s.heap.objs.size) }) :
  codeAny (model prog w) A (.call (.ref C) ⟨vs,kw⟩) R s:=by
 obtain⟨hh,g,d,t,os⟩:=s
 exact PySem.W.make_core (PySem.W.makes_of X hm) (PySem.W.looks_findIn X hi) (fun self=>PySem.W.bind_fn X self hf) (.inl rfl) h
end
def fV (f:Str) (v:V):List (Str×V)->List (Str×V)
 | []=>[(f,v)]
 | (g,x)::r=>if g=f then (g,v)::r else (g,x)::fV f v r
theorem tj (f g:Str) (v:V): ∀fs:List (Str×V),(fV f v fs).lookup g=if g=f then some v else fs.lookup g
 | []=>by
  show List.lookup g [(f,v)]=_
  by_cases h:g=f
  .have hb:(g == f)=true:=beq_iff_eq.mpr h
   simp only[List.lookup,hb,Ks h]
  .have hb:(g == f)=false:=beq_eq_false_iff_ne.mpr h
   simp only[List.lookup,hb,Kp h]
 | (k,x)::r=>by
  have ih:=tj f g v r
  rw[show fV f v ((k,x)::r)=(if k=f then (k,v)::r else (k,x)::fV f v r) from rfl]
  by_cases hk:k=f
  .rw[Ks hk]
   by_cases h:g=k
   .have hb:(g == k)=true:=beq_iff_eq.mpr h
    simp only[List.lookup,hb,Ks (h.trans hk)]
   .have hb:(g == k)=false:=beq_eq_false_iff_ne.mpr h
    simp only[List.lookup,hb,Kp (fun e:g=f=>h (e.trans hk.symm))]
  .rw[Kp hk]
   by_cases h:g=k
   .have hb:(g == k)=true:=beq_iff_eq.mpr h
    simp only[List.lookup,hb,Kp (fun e:g=f=>hk (h.symm.trans e))]
   .have hb:(g == k)=false:=beq_eq_false_iff_ne.mpr h
    simp only[List.lookup,hb]
    exact ih
theorem r6 (f:Str) (v:V): ∀fs:List (Str×V),f∈(fV f v fs).map (·.1)/\ ∀g,g∈fs.map (·.1)->g∈(fV f v fs).map (·.1)
 | []=>⟨by simp[fV],fun g h=>by simp at h⟩
 | (k,x)::r=>by
  obtain⟨i1,i2⟩:=r6 f v r
  rw[show fV f v ((k,x)::r)=(if k=f then (k,v)::r else (k,x)::fV f v r) from rfl]
  by_cases hk:k=f
  .rw[Ks hk]
   subst hk
   exact⟨by simp,fun g h=>by simpa using h⟩
  .rw[Kp hk]
   refine⟨?_,fun g h=>?_⟩
   .rw[Ld]
    exact KD _ i1
   .rw[Ld] at h ⊢
    rcases Kz.mp h with e | e
    .exact Kz.mpr (.inl e)
    .exact KD _ (i2 g e)
theorem tp (f:Str) (v:V): ∀fs:List (Str×V),(fV f v fs).length<=fs.length+1
 | []=>by simp[fV]
 | (k,x)::r=>by
  have ih:=tp f v r
  rw[show fV f v ((k,x)::r)=(if k=f then (k,v)::r else (k,x)::fV f v r) from rfl]
  by_cases hk:k=f
  .rw[Ks hk,K1,K1]; omega
  .rw[Kp hk,K1,K1]; omega
theorem fR.some_of {v:V}{o:Option Value}(r:fR (some v) o): ∃u,o=some u/\RelV v u:=by
 cases o with
 | none=>exact (show False from r).elim
 | some u=>exact⟨u,rfl,r⟩
theorem fR.none_of {o:Option Value}(r:fR none o):o=none:=by
 cases o with
 | none=>rfl
 | some u=>exact (show False from r).elim
theorem AW {v:V}{u:Value}(r:RelV v u):PySem.W.handedIn u=true:=by
 cases v with
 | non=>cases (show u=Value.none from r); rfl
 | bl b=>cases (show u=Value.bool b from r); rfl
 | int i=>obtain⟨t,e⟩:=(show ∃t,u=Value.int i t from r); cases e; rfl
 | str x=>obtain⟨t,e⟩:=(show ∃t,u=Value.str x t from r); cases e; rfl
 | byt b=>obtain⟨t,e⟩:=(show ∃t,u=Value.bytes b t from r); cases e; rfl
 | flt b=>obtain⟨t,e⟩:=(show ∃t,u=Value.float b t from r); cases e; rfl
 | ref a=>cases (show u=Value.ref a from r); rfl
 | ty n=>cases (show u=Value.type n from r); rfl
section
variable {P:Program}{w:World}{H H':Hp}{h h':Heap}{a C dx:Addr}{fs fs':List (Str×V)}
theorem u4 (hok:Oq P w H h) (e:H a=some (.ins C dx fs)): ∃mA,tG h a dx C mA/\(∀f,fR (fs.lookup f) (mA f))/\PySem.Within mA (fs.map (·.1))/\fs.length<=1000/\H dx=some (.own a):=by
 obtain⟨d,z,ne,ob,mA,n,r,q⟩:=(show cZ P w H h a (.ins C dx fs) from hok a _ e)
 exact⟨mA,⟨ob,n,ne⟩,r,q,z,d⟩
end
structure OL (K:N7) (C:Addr):Prop where
 pg:PySem.W.plainGet K C Str.empty=true
 hd:PySem.W.hasDictIn K C=true
 po:PySem.W.plainOver K C=true
 sa:PySem.W.findIn K (.ref C) "__setattr__" = some (some (.builtin "object.__setattr__"))
theorem OL.get {K:N7}{C:Addr}(c:OL K C) (f:Str):PySem.W.plainGet K C f=true:=c.pg
def gg (K:N7) (C:Addr) (f:Str):Prop:=PySem.W.findIn K (.ref C) f=some none
theorem gg.IT {K:N7}{C:Addr}{f:Str}(n:gg K C f):PySem.W.takerIn K C f=some none:=by
 unfold PySem.W.takerIn
 rw[show PySem.W.findIn K (.ref C) f=some none from n]
 rfl
structure Qn (K:N7) (C:Addr) (f:Str) (v:V) (u:Value):Prop where
 at_:PySem.W.findIn K (.ref C) f=some (some u)
 rel:RelV v u
 get:PySem.W.specialIn K u "__get__" = some none
 cp:PySem.W.copiedNames.contains f=false
structure Meth (K:N7) (C:Addr) (m:Str) (f:Addr):Prop where
 at_:PySem.W.findIn K (.ref C) m=some (some (.ref f))
 fn:PySem.W.isFn K (.ref f)=true
 kp:PySem.W.keepIn K (.ref f)=true
section
variable {X:Cx}{N3:List (Addr×Obj)}{σ:St}{H:Hp}{s:Shared}{a C dx:Addr}{fs:List (Str×V)}{f:Str}{v:V}{A:Around}{E:Value->Shared->Prop}
theorem Ao {b:Bool}{Q:Value->Shared->Prop}(I:Inv X N3 σ H s) (e:H a=some (.ins C dx fs)) (c:OL X.K C) (n:gg X.K C f) (l:fs.lookup f=some v)
  (h: ∀u s',Inv X N3 σ H s'->RelV v u->Q u s'):wpAny (model X.prog X.w) A (getAttr (.ref a) f b) Q E s:=by
 obtain⟨mA,O,r,_,_,_⟩:=u4 I.hok e
 obtain⟨u,hu,ru⟩:=fR.some_of (v:=v) (o:=mA f) (by rw[<-l]; exact r f)
 exact get_map I.OJ O (c.get f) c.hd n hu (AW ru) (h u _ (I.tok _) ru)
theorem jA {m:Str}{g:Addr}{pl:Sem Bool}{Q:Value×List Value->Shared->Prop}(I:Inv X N3 σ H s) (e:H a=some (.ins C dx fs)) (c:OL X.K C) (k:Meth X.K C m g) (l:fs.lookup m=none)
  (h:Q (.ref g,[.ref a]) s):wpAny (model X.prog X.w) A (getMethod (.ref a) m pl) Q E s:=by
 obtain⟨mA,O,r,_,_,_⟩:=u4 I.hok e
 have hn:mA m=none:=fR.none_of (by rw[<-l]; exact r m)
 exact Ec I.OJ O (c.get m) k.at_ k.fn hn h
theorem Ai {y:V}{u:Value}{Q:Unit->Shared->Prop}(I:Inv X N3 σ H s) (e:H a=some (.ins C dx fs)) (c:OL X.K C) (n:gg X.K C f) (hl:fs.length < 1000) (ry:RelV y u)
  (h: ∀s',Inv X N3 σ (upd H a (.ins C dx (fV f y fs))) s'->Q () s'):wpAny (model X.prog X.w) A (setAttr (.ref a) f u) Q E s:=by
 obtain⟨mA,O,r,wi,_,ho⟩:=u4 I.hok e
 have hz:(fs.map (·.1)).length<=sizeLine:=by rw[Kq,Ny]; omega
 refine E4 I.OJ O c.sa c.po n.IT c.hd wi hz fun h' O' sb=>h _ ?_
 have hd: ∃o,h'.get? dx=some o:=let ⟨o,_,_,e',_⟩:=O'.ns; ⟨o,e'⟩
 refine I.write (x:=a) (e:=dx) (by rw[e]; exact True.intro) (.inr ho) (fun b q hb z=>(sb.2 b hb).trans z) hd ?_
 refine⟨by rw[ai O.ne]; exact ho,?_,O.ne,O'.obj,_,O'.ns,fun g=>?_,fun g hg=>?_⟩
 .have:=tp f y fs; omega
 .show fR ((fV f y fs).lookup g) (if g=f then some u else mA g)
  rw[tj]
  by_cases q:g=f
  .rw[Ks q,Ks q]; exact ry
  .rw[Kp q,Kp q]; exact r g
 .by_cases q:g=f
  .rw[q]; exact (r6 f y fs).1
  .refine (r6 f y fs).2 g (wi g fun z=>hg ?_)
   show (if g=f then some u else mA g)=none
   rw[Kp q]; exact z
theorem Inv.made (I:Inv X N3 σ H s):Inv X N3 σ (upd (upd H s.heap.objs.size (.own (s.heap.objs.size+1))) (s.heap.objs.size+1) (.ins C s.heap.objs.size []))
  { s with heap:=(s.heap.push PySem.W.emptyDict).push (PySem.W.instObj C s.heap.objs.size) }:=by
 have e1:(s.heap.push PySem.W.emptyDict).get? s.heap.objs.size=some PySem.W.emptyDict:=K9 s.heap rfl
 have e2:((s.heap.push PySem.W.emptyDict).push (PySem.W.instObj C s.heap.objs.size)).get? (s.heap.objs.size+1)=some (PySem.W.instObj C s.heap.objs.size):=by
  have:=K9 (s.heap.push PySem.W.emptyDict) (o:=PySem.W.instObj C s.heap.objs.size) rfl
  rwa [LK] at this
 have e3:(s.heap.push PySem.W.emptyDict).Ns s.heap.objs.size (fun _=>none):=⟨PySem.W.emptyDict,#[],_,e1,rfl,(fun e he=>absurd he (by simp)),fun _=>rfl⟩
 have I1:=I.laid (a:=s.heap.objs.size) (o:= .own (s.heap.objs.size+1)) (h':=s.heap.push PySem.W.emptyDict) (t':=s.toks) (fun b u q=>Kx _ q) (Ku _) ⟨_,e1⟩
 refine I1.laid (a:=s.heap.objs.size+1) (o:= .ins C s.heap.objs.size []) (t':=s.toks) (fun b u q=>Kx _ q) (NO (LK _ _)) ?_
 have ne:s.heap.objs.size≠s.heap.objs.size+1:=K4 (My _)
 refine⟨by rw[ai ne,af],Lu _,ne,e2,fun _=>none,(Heap.Ns1.of_empty e3).at fun o q=>Kx _ q,fun _=>True.intro,fun y hy=>absurd rfl hy⟩
theorem E9 {prog:Program}{w:World}{env:Env}{e:Expr}{f:Str}{pos:Pos}{s:Shared}{Q:Value->Shared->Prop}(hb:attributeBase e f env (eval e env)=eval e env)
  (h:wpAny (model prog w) A (eval e env) (fun o s₁=>wpAny (model prog w) A (getAttr o f true) Q E s₁) E s):wpAny (model prog w) A (eval (.Attribute e f pos) env) Q E s :=
 Attribute_any_ h (by rw[arm_eval_Attribute,hb])
end
inductive HZ (K:N7) (f:Str) (Q:VK) (x:V) (H1:Hp):Prop | mk (a C dx fs v:_) (e0:x= .ref a) (e1:H1 a=some (.ins C dx fs)) (e2:OL K C) (e3:gg K C f) (e4:fs.lookup f=some v) (q:Q v H1)
def GU (K:N7) (ta:TE) (f:Str):TE:=fun σ H Q=>ta σ H fun x H1=>HZ K f Q x H1
inductive J2 (K:N7) (f:Str) (Q:VK) (x:V) (H1:Hp):Prop | mk (a C dx fs v u:_) (e0:x= .ref a) (e1:H1 a=some (.ins C dx fs)) (e2:OL K C) (e3:Qn K C f v u) (e4:fs.lookup f=none) (q:Q v H1)
inductive Ia (K:N7) (f:Str) (D:Ends) (σ:St) (y x:V) (H2:Hp):Prop | mk (a C dx fs:_) (e0:x= .ref a) (e1:H2 a=some (.ins C dx fs)) (e2:OL K C) (e3:gg K C f) (e4:fs.length < 1000) (q:D.nx σ (upd H2 a (.ins C dx (fV f y fs))))
def Ji (K:N7) (ta tv:TE) (f:Str):TS:=fun D σ H=>tv σ H fun y H1=>ta σ H1 fun x H2=>Ia K f D σ y x H2
section
variable {X:Cx}{o e value:Expr}{f:Str}{pos pos' tpos:Pos}{ta tv:TE}
theorem Hx (he:PE X e ta) (hb:attributeBase e f X.env (eval e X.env)=eval e X.env):PE X (.Attribute e f pos) (GU X.K ta f):=by
 intro N3 s σ H Q I h
 refine E9 hb (Oc (he N3 s σ H _ I h) fun u s1 hm=>?_)
 obtain⟨x,H1,I1,rx,a,C,dx,fs,v,ex,ea,c,n,l,q⟩:=hm
 subst ex
 obtain rfl:u=Value.ref a:=rx
 exact Ao I1 ea c n l fun u' s2 I2 ru=>⟨v,H1,I2,ru,q⟩
theorem iG (ha:PE X o ta) (hv:PE X value tv) (hs:swapsWith value (some (.Attribute o f pos')) pos.line X.env=pure false):PS X (.Assign [.Attribute o f pos'] value pos) (Ji X.K ta tv f):=by
 intro N3 s σ H D I h
 refine plainObj_wpAny_Assign_Attribute (Oc (hv N3 s σ H _ I h) fun u s1 ⟨y,H1,I1,ry,q⟩=>Oc (ha N3 s1 σ H1 _ I1 q) fun ov s2 hm=>?_) hs
 obtain⟨x,H2,I2,rx,a,C,dx,fs,ex,ea,c,n,l,q2⟩:=hm
 subst ex
 obtain rfl:ov=Value.ref a:=rx
 exact Ai I2 ea c n l ry fun s3 I3=>⟨σ,_,I3,q2⟩
inductive J8 (x y:V) (H:Hp) (Q:VK):Prop | mk (i j:_) (e0:x= .int i) (e1:y= .int j) (q:Q (.int (i+j)) H)
inductive Ka (x y:V) (H:Hp) (Q:VK):Prop | mk (i j:_) (e0:x= .int i) (e1:y= .int j) (q:Q (.int (i - j)) H)
theorem HM {pl:Sem Bool}{m:Str}{apos:Pos}{args:List Expr}{N3:List (Addr×Obj)}{s:Shared}{σ:St}{H:Hp}{Q:Value->Shared->Prop}{te:TE}(he:PE X e te) (I:Inv X N3 σ H s)
  (h:te σ H fun x H1=> ∃a C dx fs g,x= .ref a/\H1 a=some (.ins C dx fs)/\OL X.K C/\Meth X.K C m g/\fs.lookup m=none /\
   ∀s1,Inv X N3 σ H1 s1->wpAny (model X.prog X.w) X.A (callWith pos (.ref g) [.ref a] (backTo pos (starEach args X.env)) (backToKw pos (keywordEach [] X.env))) Q X.xe s1)
  (ht:eval (.Call (.Attribute e m apos) args [] pos) X.env=(do
   let ov <-eval e X.env
   standAt apos.atName
   let (f,first) <-holding [ov] (getMethod ov m pl)
   callWith pos f first (backTo pos (starEach args X.env)) (backToKw pos (keywordEach [] X.env)))) :
  wpAny (model X.prog X.w) X.A (eval (.Call (.Attribute e m apos) args [] pos) X.env) Q X.xe s:=by
 refine Ml (pl:=pl) (Oc (he N3 s σ H _ I h) fun u s1 hm=>?_) ht
 obtain⟨x,H1,I1,rx,a,C,dx,fs,g,ex,ea,c,k,l,q⟩:=hm
 subst ex
 obtain rfl:u=Value.ref a:=rx
 exact jA I1 ea c k l (q s1 I1)
end
section
variable {X:Cx}{N3:List (Addr×Obj)}{σ:St}{H:Hp}{s:Shared}{A:Around}{E:Value->Shared->Prop}{Q:Value->Shared->Prop}{c:Value}{b:Bool}
inductive nP (K:N7) (H:Hp):V->Value->Prop where
 | non:nP K H .non (.type "NoneType")
 | bl (x:Bool):nP K H (.bl x) (.type "bool")
 | int (i:Int):nP K H (.int i) (.type "int")
 | str (x:Str):nP K H (.str x) (.type "str")
 | flt (x:UInt64):nP K H (.flt x) (.type "float")
 | lst {a:Addr}{xs:List V} (e:H a=some (.lst xs)):nP K H (.ref a) (.type "list")
 | frz {a:Addr}{o:Obj}{xs:List V} (e:H a=some (.frz o (.lst xs))):nP K H (.ref a) (.type "list")
 | tup {a:Addr}{xs:List V} (e:H a=some (.tup xs)):nP K H (.ref a) (.type "tuple")
 | dK {a:Addr}{kvs:List (Key×V)} (e:H a=some (.dK kvs)):nP K H (.ref a) (.type "dict")
 | dT {a:Addr}{kvs:List (List Key×V)} (e:H a=some (.dT kvs)):nP K H (.ref a) (.type "dict")
 | ins {a C dx:Addr}{fs:List (Str×V)} (e:H a=some (.ins C dx fs)) (cl:OL K C) (ha:PySem.W.findIn K (.ref C) "__class__" = some (some (.builtin "object.__class__")))
   (hn:PySem.W.specialIn K (.builtin "object.__class__") "__get__" = some (some (.builtin "getset_descriptor.__get__"))) (htk:PySem.W.takesIn K (.builtin "object.__class__")=some true)
   (hm:PySem.W.mroIn K C (.type "object")=some true):nP K H (.ref a) (.ref C)
end
structure bC (k:Nat) (A:Around):Prop where
 hd:A.handled=none
 dp:A.depth+3*k+5 < recursionLimit
 un:A.units+16*k+200 < cLine
theorem bC.mono {j k:Nat}{A:Around}(r:bC k A) (h:j<=k):bC j A:=⟨r.hd,by have:=r.dp; omega,by have:=r.un; omega⟩
theorem bC.deeper {k:Nat}{A:Around}(r:bC (k+1) A) (env:Env):bC k (A.deeper env) :=
 ⟨r.hd,by have:=r.dp; show A.depth+1+3*k+5 < _; omega,by have:=r.un; show A.units+3+16*k+200 < _; omega⟩
theorem zX {A:Around}{C:Addr}{us:List Value}{kw:List (Str×Value)}:(A.under (.builtin "type.__call__" ⟨.ref C::us,kw⟩)).depth=A.depth+1:=by
 first | rfl | simp[Around.under,Code.weight,Code.isCreation,Code.isGuard,Code.isCaller,Code.frames,Code.isFrame,guardIds]
theorem z3 {A:Around}{C:Addr}{us:List Value}{kw:List (Str×Value)}:(A.under (.builtin "type.__call__" ⟨.ref C::us,kw⟩)).units=A.units+1:=by
 first | rfl | simp[Around.under,Code.cUnits,Code.frames,Code.isFrame]
theorem bC.make {k:Nat}{A:Around}(r:bC (k+1) A) (C:Addr) (us:List Value) (kw:List (Str×Value)):bC k (A.under (.builtin "type.__call__" ⟨.ref C::us,kw⟩)) :=
 ⟨r.hd,by have:=r.dp; rw[zX]; omega,by have:=r.un; rw[z3]; omega⟩
theorem bC.depth {k:Nat}{A:Around}(r:bC k A):A.depth < recursionLimit:=by have:=r.dp; omega
theorem bC.units {k:Nat}{A:Around}(r:bC k A):A.units+64 < cLine:=by have:=r.un; omega
def kg:TA:=fun _ H Q=>Q [] H
def nX (ta:TE) (tr:TA):TA:=fun σ H Q=>ta σ H fun x H1=>tr σ H1 fun xs H2=>Q (x::xs) H2
section
variable {X:Cx}{e:Expr}{es:List Expr}{te:TE}{t:TA}{pos:Pos}
theorem dD:PA X [] kg:=fun _ _ _ _ H Q I h=>Calls.spliced_nil ⟨[],H,I,.nil,h⟩
theorem E3 (ha:PE X e te) (hr:PA X es t) (hs:starEach (e::es) X.env=(false,eval e X.env)::starEach es X.env:=by rfl):PA X (e::es) (nX te t):=by
 intro pos N3 s σ H Q I h
 rw[hs]
 show wpAny _ _ (spliced ((false,eval e X.env)::backTo pos (starEach es X.env))) _ _ s
 refine Nz (Oc (ha N3 s σ H _ I h) fun u s1 ⟨x,H1,I1,r1,q1⟩=>?_)
 exact Oc (hr pos N3 s1 σ H1 _ I1 q1) fun us s2 ⟨xs,H2,I2,r2,q2⟩=>⟨x::xs,H2,I2,.cons r1 r2,q2⟩
inductive Im (xs:List V) (H:Hp) (Q:VK):Prop | mk (e:xs.length<=sizeLine) (q: ∀p,H p=none->Q (.ref p) (upd H p (.tup xs)))
def JJ (t:TA):TE:=fun σ H Q=>t σ H fun xs H1=>Im xs H1 Q
inductive IM (xs:List V) (H:Hp) (Q:VK):Prop | mk (e:xs.length<=sizeLine) (q: ∀p,H p=none->Q (.ref p) (upd H p (.lst xs)))
def JF (t:TA):TE:=fun σ H Q=>t σ H fun xs H1=>IM xs H1 Q
theorem bF {x1}(h:PA X es t):PE X (.Tuple es x1 pos) (JJ t):=by
 intro N3 s σ H Q I hq
 refine wpAny_Tuple_spliced (Oc (h pos N3 s σ H _ I hq) fun us s1 ⟨xs,H1,I1,r,z,q⟩=>⟨by rw[<-r.length]; exact z,?_⟩)
 have hf:H1 s1.heap.objs.size=none:=I1.hok.fresh (Ku _)
 refine⟨.ref s1.heap.objs.size,upd H1 s1.heap.objs.size (.tup xs),I1.laid (t':=s1.toks) (fun b u e=>Kx _ e) (Ku _) ?_,rfl,q _ hf⟩
 exact⟨z,us,r,⟨_,K9 _ rfl,rfl,_,rfl⟩⟩
theorem bh (h:PA X es t):PE X (.List es pos) (JF t):=by
 intro N3 s σ H Q I hq
 refine wpAny_List_spliced (Oc (h pos N3 s σ H _ I hq) fun us s1 ⟨xs,H1,I1,r,z,q⟩=>⟨by rw[<-r.length]; exact z,?_⟩)
 have hf:H1 s1.heap.objs.size=none:=I1.hok.fresh (Ku _)
 refine⟨.ref s1.heap.objs.size,upd H1 s1.heap.objs.size (.lst xs),I1.laid (t':=s1.toks) (fun b u e=>Kx _ e) (Ku _) ?_,rfl,q _ hf⟩
 exact⟨z,us,0,r,K9 _ rfl⟩
end
abbrev Sp:=List V->Hp->VK->XK->Prop
abbrev OM:=List Env->Hp->Shared->XK->Value->Shared->Prop
structure tO (P:Program) (w:World) (K:N7) (mg:Str->Option Value) (base:Heap) (A:Around) (outer:List Env) (s:Shared) (H:Hp):Prop where
 frames:A.frames=some outer
 mod:Mod K mg base
 bs: ∀b o,base.get? b=some o->s.heap.get? b=some o/\H b=none
 bsz:base.objs.size<=s.heap.objs.size
 fu:s.heap.FunFrames base outer
 frf: ∀b∈OP outer,H b=none
 hok:Oq P w H s.heap
 bare:AllBare s.gens
def CE (outer:List Env) (P:Program) (w:World) (H:Hp) (s:Shared) (Q:VK) (u:Value) (s':Shared):Prop :=
 ∃v H',s'.os=s.os/\AllBare s'.gens/\Un (OP outer) [] H H' s.heap s'.heap/\Oq P w H' s'.heap/\RelV v u/\Q v H'
def CR (CX:OM) (outer:List Env) (P:Program) (w:World) (H:Hp) (s:Shared) (Q:VK) (E:XK) (r:Result) (s':Shared):Prop :=
 match r with
 | .ok (.ret u)=>CE outer P w H s Q u s'
 | .ok _=>False
 | .error e=>CX outer H s E e s'
structure dW (P:Program) (w:World) (K:N7) (mg:Str->Option Value) (base:Heap) (CX:OM) (k:Nat) (f:Addr) (fd:FuncData) (ps:List Str) (sp:Sp):Prop where
 len: ∀vs H Q E,sp vs H Q E->vs.length=ps.length
 run: ∀(A:Around) (outer:List Env) (s:Shared) (H:Hp) (args:Args) (us:List Value) (vs:List V) (Q:VK) (E:XK),bC k A->tO P w K mg base A outer s H->BindsTo s fd args (ps.zip us)->Vals vs us->sp vs H Q E ->
  codeAny (model P w) A (.call (.ref f) args) (CR CX outer P w H s Q E) s
theorem dW.mono {P:Program}{w:World}{K:N7}{mg:Str->Option Value}{base:Heap}{CX:OM}{j k:Nat}{f:Addr}{fd:FuncData}{ps:List Str}{sp:Sp}(F:dW P w K mg base CX j f fd ps sp) (h:j<=k) :
  dW P w K mg base CX k f fd ps sp:=⟨F.len,fun A outer s H args us vs Q E hr=>F.run A outer s H args us vs Q E (hr.mono h)⟩
theorem tO.make {P:Program}{w:World}{K:N7}{mg:Str->Option Value}{base:Heap}{A:Around}{outer:List Env}{s:Shared}{H:Hp}(e:tO P w K mg base A outer s H) (C:Addr) (us:List Value) (kw:List (Str×Value)) :
  tO P w K mg base (A.under (.builtin "type.__call__" ⟨.ref C::us,kw⟩)) outer s H:=⟨by first | exact e.frames | (simpa [Around.under,Code.envs,Code.isFrame,pushEnvs] using e.frames),e.mod,e.bs,e.bsz,e.fu,e.frf,e.hok,e.bare⟩
section
variable {X:Cx}{N3:List (Addr×Obj)}{σ:St}{H:Hp}{s s':Shared}
theorem Inv.C0 (I:Inv X N3 σ H s):tO X.prog X.w X.K X.mg X.base X.A X.stack s H :=
 ⟨I.ok.frames,I.ok.mod,I.bs,KR I.ok.bsz I.sz,I.stack,I.u9,I.hok,I.bare⟩
theorem Inv.after {Q:VK}{u:Value}(I:Inv X N3 σ H s) (h:CE X.stack X.prog X.w H s Q u s'):EP X N3 σ Q u s':=by
 obtain⟨v,H',os,bare,un,hok,r,q⟩:=h
 obtain⟨hh,g,d,t,os'⟩:=s'
 obtain rfl:os'=s.os:=os
 exact⟨v,H',I.call (h':=hh) (g':=g) (d':=d) (t':=t) (ch:=[]) un hok bare (fun b z=>absurd z (by simp)),r,q⟩
end
def zP (sp:Sp) (dvs:List V) (E:XK) (t:TA):TE:=fun σ H Q=>t σ H fun vs H1=>sp (vs++dvs) H1 Q E
inductive Gq (C:Addr) (m:Str) (x:V) (H1:Hp) (k:Prop):Prop | mk (a dx fs:_) (e0:x= .ref a) (e1:H1 a=some (.ins C dx fs)) (e2:fs.lookup m=none) (q:k)
def sy (C:Addr) (m:Str) (sp:Sp) (dvs:List V) (E:XK) (ta:TE) (t:TA):TE:=fun σ H Q=>ta σ H fun x H1=>Gq C m x H1 (t σ H1 fun vs H2=>sp (x::(vs++dvs)) H2 Q E)
def Em (C:Addr) (sp:Sp) (dvs:List V) (E:XK) (t:TA):TE:=fun σ H Q=>t σ H fun vs H1=> ∀x dx,H1 x=none->H1 dx=none->dx≠x ->
 sp (.ref x::(vs++dvs)) (upd (upd H1 dx (.own x)) x (.ins C dx [])) (fun v H2=>v= .non/\Q (.ref x) H2) E
def Binds (K:N7) (fd:FuncData) (ps:List Str) (ds:List Value):Prop :=
 ∀(s:Shared) (us:List Value),K.In s.heap->(us++ds).length=ps.length->BindsTo s fd ⟨us,[]⟩ (ps.zip (us++ds))
theorem Binds.all {K:N7}{fd:FuncData}{ps:List Str}(h: ∀us:List Value,us.length=ps.length->bindArgs fd ⟨us,[]⟩=pure (ps.zip us)):Binds K fd ps []:=fun s us _ hl=>by
 rw[Mm] at hl ⊢
 exact .of_eq (h us hl)
def Passes (CX:OM) (X:Cx) (E:XK):Prop:= ∀(N3:List (Addr×Obj)) (σ:St) (H:Hp) (s:Shared) (e:Value) (s':Shared),Inv X N3 σ H s->CX X.stack H s E e s'->X.xe e s'
section
variable {X:Cx}{CX:OM}{k:Nat}{f C:Addr}{fd:FuncData}{ps:List Str}{sp:Sp}{dvs:List V}{ds:List Value}{E:XK}{x m:Str}{p pos apos:Pos}{e o:Expr}{es:List Expr}{ta:TE}{t:TA}
theorem x9 {N3:List (Addr×Obj)}{σ:St}{H:Hp}{s:Shared}{Q:VK}{us:List Value}{vs:List V}(F:dW X.prog X.w X.K X.mg X.base CX k f fd ps sp) (hr:bC k X.A) (hb:Binds X.K fd ps ds) (hd:Vals dvs ds) (hx:Passes CX X E)
  (I:Inv X N3 σ H s) (r:Vals vs us) (h:sp (vs++dvs) H Q E):wpAny (model X.prog X.w) X.A (call (.ref f) us) (EP X N3 σ Q) X.xe s:=by
 have r2:Vals (vs++dvs) (us++ds):=r.append hd
 have hl:(us++ds).length=ps.length:=by rw[<-r2.length]; exact F.len _ _ _ _ h
 refine Nn (MS (F.run X.A X.stack s H ⟨us,[]⟩ (us++ds) (vs++dvs) Q E hr I.C0 (hb s us I.OJ hl) r2 h) fun r s' hq=>?_)
 cases r with
 | error e=>exact hx N3 σ H s e s' I hq
 | ok fl =>
  cases fl with
  | ret u=>exact I.after hq
  | next=>exact False.elim hq
  | brk=>exact False.elim hq
  | cont=>exact False.elim hq
theorem FQ (F:dW X.prog X.w X.K X.mg X.base CX k f fd ps sp) (hr:bC k X.A) (hg:Gl X x) (hm:X.mg x=some (.ref f)) (hk:PySem.W.keepIn X.K (.ref f)=true) (hb:Binds X.K fd ps ds) (hd:Vals dvs ds) (hx:Passes CX X E)
  (ha:PA X (e::es) t) (hdb:(x == ("__debug__" : Str))=false:=by decide) (he:starEach (e::es) X.env=(false,eval e X.env)::starEach es X.env:=by rfl) (hpl:(backTo pos (starEach es X.env)).any (·.1)=false:=by rfl) :
  PE X (.Call (.Name x p) (e::es) [] pos) (zP sp dvs E t):=by
 intro N3 s σ H Q I h
 refine Mi (mD I hg hm ?_ hdb)
 refine M0 (h₀:=X.base) I.ok.mod.kin hk (Oc (ha pos N3 s σ H _ I h) fun us s1 ⟨vs,H1,I1,r,q⟩=>⟨I1.OJ,?_⟩) he hpl
 exact x9 F hr hb hd hx I1 r q
theorem FZ {pl:Sem Bool}(he:PE X o ta) (c:OL X.K C) (hm:Meth X.K C m f) (F:dW X.prog X.w X.K X.mg X.base CX k f fd ps sp) (hr:bC k X.A) (hb:Binds X.K fd ps ds) (hd:Vals dvs ds) (hx:Passes CX X E) (ha:PA X (e::es) t)
  (hst:starEach (e::es) X.env=(false,eval e X.env)::starEach es X.env:=by rfl) (hpl:(backTo pos (starEach es X.env)).any (·.1)=false:=by rfl)
  (ht:eval (.Call (.Attribute o m apos) (e::es) [] pos) X.env=(do
   let ov <-eval o X.env
   standAt apos.atName
   let (f,first) <-holding [ov] (getMethod ov m pl)
   callWith pos f first (backTo pos (starEach (e::es) X.env)) (backToKw pos (keywordEach [] X.env))):=by rfl) :
  PE X (.Call (.Attribute o m apos) (e::es) [] pos) (sy C m sp dvs E ta t):=by
 intro N3 s σ H Q I h
 refine Ml (pl:=pl) (Oc (he N3 s σ H _ I h) fun u s1 hm=>?_) ht
 obtain⟨x,H1,I1,rx,a,dx,fs,ex,ea,l,q⟩:=hm
 subst ex
 obtain rfl:u=Value.ref a:=rx
 refine jA I1 ea c hm l ?_
 refine M0 (first:=[.ref a]) (h₀:=X.base) I.ok.mod.kin hm.kp (Oc (ha pos N3 s1 σ H1 _ I1 q) fun us s2 ⟨vs,H2,I2,r,q2⟩=>⟨I2.OJ,?_⟩) hst hpl
 exact x9 (us:= .ref a::us) (vs:= .ref a::vs) F hr hb hd hx I2 (.cons rfl r) q2
theorem Eb {pl:Sem Bool}(he:PE X o ta) (c:OL X.K C) (hm:Meth X.K C m f) (F:dW X.prog X.w X.K X.mg X.base CX k f fd ps sp) (hr:bC k X.A) (hb:Binds X.K fd ps ds) (hd:Vals dvs ds) (hx:Passes CX X E)
  (ht:eval (.Call (.Attribute o m apos) [] [] pos) X.env=(do
   let ov <-eval o X.env
   standAt apos.atName
   let (f,first) <-holding [ov] (getMethod ov m pl)
   callWith pos f first (backTo pos (starEach [] X.env)) (backToKw pos (keywordEach [] X.env))):=by rfl) :
  PE X (.Call (.Attribute o m apos) [] [] pos) (sy C m sp dvs E ta kg):=by
 intro N3 s σ H Q I h
 refine Ml (pl:=pl) (Oc (he N3 s σ H _ I h) fun u s1 hm=>?_) ht
 obtain⟨x,H1,I1,rx,a,dx,fs,ex,ea,l,q⟩:=hm
 subst ex
 obtain rfl:u=Value.ref a:=rx
 refine jA I1 ea c hm l ?_
 exact Nt (first:=[.ref a]) I1.OJ hm.kp (x9 (us:=[.ref a]) (vs:=[.ref a]) F hr hb hd hx I1 (.cons rfl .nil) q)
structure Mk (K:N7) (C f:Addr):Prop where
 makes:PySem.W.makesIn K C=true
 init:PySem.W.findIn K (.ref C) "__init__" = some (some (.ref f))
 fn:PySem.W.isFn K (.ref f)=true
 kp:PySem.W.keepIn K (.ref C)=true
theorem D9 {N3:List (Addr×Obj)}{σ:St}{H:Hp}{s:Shared}{Q:VK}{us:List Value}{vs:List V}(M:Mk X.K C f) (F:dW X.prog X.w X.K X.mg X.base CX k f fd ps sp) (hr:bC (k+1) X.A) (hb:Binds X.K fd ps ds) (hd:Vals dvs ds)
  (hx:Passes CX X E) (I:Inv X N3 σ H s) (r:Vals vs us)
  (h: ∀x dx,H x=none->H dx=none->dx≠x->sp (.ref x::(vs++dvs)) (upd (upd H dx (.own x)) x (.ins C dx [])) (fun v H2=>v= .non/\Q (.ref x) H2) E) :
  wpAny (model X.prog X.w) X.A (call (.ref C) us) (EP X N3 σ Q) X.xe s:=by
 have hq:=h (s.heap.objs.size+1) s.heap.objs.size (I.hok.fresh (MJ _)) (I.hok.fresh (Ku _)) (K4 (My _))
 have I2:=Inv.made (C:=C) I
 have r2:Vals (V.ref (s.heap.objs.size+1)::(vs++dvs)) (Value.ref (s.heap.objs.size+1)::(us++ds)):= .cons rfl (r.append hd)
 have hl:(Value.ref (s.heap.objs.size+1)::us++ds).length=ps.length:=by
  have e:=r2.length
  rw[F.len _ _ _ _ hq] at e
  exact e.symm
 refine Nn (C1 (f:=f) I.OJ M.makes M.init (beq_iff_eq.mp M.fn) (MS (F.run _ X.stack _ _ ⟨Value.ref (s.heap.objs.size+1)::us,[]⟩ (Value.ref (s.heap.objs.size+1)::(us++ds)) _ _ E (hr.make C us [])
  (I2.C0.make C us []) (hb _ (Value.ref (s.heap.objs.size+1)::us) I2.OJ hl) r2 hq) fun r s' hq'=>?_))
 cases r with
 | error e=>exact hx N3 σ _ _ e s' I2 hq'
 | ok fl =>
  cases fl with
  | ret u =>
   obtain⟨v,H',I3,rv,ev,q3⟩:=I2.after hq'
   subst ev
   exact⟨rv,⟨V.ref (s.heap.objs.size+1),H',I3,rfl,q3⟩⟩
  | next=>exact False.elim hq'
  | brk=>exact False.elim hq'
  | cont=>exact False.elim hq'
theorem Dq (M:Mk X.K C f) (F:dW X.prog X.w X.K X.mg X.base CX k f fd ps sp) (hr:bC (k+1) X.A) (hg:Gl X x) (hm:X.mg x=some (.ref C)) (hb:Binds X.K fd ps ds) (hd:Vals dvs ds) (hx:Passes CX X E)
  (hdb:(x == ("__debug__" : Str))=false:=by decide):PE X (.Call (.Name x p) [] [] pos) (Em C sp dvs E kg):=by
 intro N3 s σ H Q I h
 refine Mi (mD I hg hm ?_ hdb)
 exact Nt I.OJ M.kp (D9 (us:=[]) M F hr hb hd hx I .nil h)
end
section
variable {X:Cx}{CX:OM}{k:Nat}{f C:Addr}{fd:FuncData}{ps ks:List Str}{sp:Sp}{E:XK}{x m:Str}{p pos apos kpos:Pos}{e o:Expr}{es:List Expr}{kws:List Keyword}{te ta:TE}{t tk:TA}{nm:Option Str}
structure J1 (K:N7) (fd:FuncData) (ps ks:List Str) (g:List Value->List Value->List Value) (gV:List V->List V->List V):Prop where
 to: ∀(s:Shared) (us ws:List Value),K.In s.heap->(g us ws).length=ps.length->BindsTo s fd ⟨us,ks.zip ws⟩ (ps.zip (g us ws))
 rel: ∀ {vs:List V}{us:List Value}{zs:List V}{ws:List Value},Vals vs us->Vals zs ws->Vals (gV vs zs) (g us ws)
variable {g:List Value->List Value->List Value}{gV:List V->List V->List V}
end
structure ay (N P:List Str) (sc:Scope):Prop where
 kind:sc.kind= .function
 co:sc.isCoroutine=false
 gen:sc.isGenerator=false
 nd:N.Nodup
 pre:N.take P.length=P
 par: ∀x∈P,sc.names.lookup x=some .local\/sc.names.lookup x=some .cell
 nofree: ∀y∈sc.names,y.2≠ .free
theorem vH {kindOf:Str->Option NameKind}{x:Str}: ∀ {binds:List (Str×Value)}{m:Str->Option Value},(∀v,(x,v)∉binds)->bindL kindOf binds m x=m x
 | [],_,_=>rfl
 | (n,v)::r,m,h=>by
  unfold bindL
  rw[vH fun w hw=>h w (KD _ hw)]
  split
  .have:x≠n:=by rintro rfl; exact h v KG
   simp[this]
  .rfl
theorem vT {kindOf:Str->Option NameKind}{x:Str}: ∀ {binds:List (Str×Value)}{m:Str->Option Value},(∀v,(x,v)∉binds)->bindC kindOf binds m x=m x
 | [],_,_=>rfl
 | (n,v)::r,m,h=>by
  unfold bindC
  rw[vT fun w hw=>h w (KD _ hw)]
  split
  .rfl
  .have:x≠n:=by rintro rfl; exact h v KG
   simp[this]
theorem vZ {kindOf:Str->Option NameKind}{x:Str}{v:Value}: ∀ {P:List Str}{vs:List Value}{i:Nat}{m:Str->Option Value},P.Nodup->P[i]?=some x->vs[i]?=some v->kindOf x=some .local ->
  bindL kindOf (P.zip vs) m x=some v
 | [],_,_,_,_,h,_,_=>by simp at h
 | _::_,[],_,_,_,_,h,_=>by simp at h
 | p::P,w::vs,0,m,nd,h1,h2,hk=>by
  simp at h1 h2; subst h1; subst h2
  show bindL kindOf ((p,w)::P.zip vs) m p=_
  unfold bindL
  rw[vH fun v hv=>(Ls.mp nd).1 (NZ hv).1,Ks hk]
  simp
 | p::P,w::vs,i+1,m,nd,h1,h2,hk=>by
  show bindL kindOf ((p,w)::P.zip vs) m x=_
  unfold bindL
  exact vZ (i:=i) (Ls.mp nd).2 (by simpa using h1) (by simpa using h2) hk
theorem wb {kindOf:Str->Option NameKind}{x:Str}{v:Value}: ∀ {P:List Str}{vs:List Value}{i:Nat}{m:Str->Option Value},P.Nodup->P[i]?=some x->vs[i]?=some v->kindOf x≠some .local ->
  bindC kindOf (P.zip vs) m x=some v
 | [],_,_,_,_,h,_,_=>by simp at h
 | _::_,[],_,_,_,_,h,_=>by simp at h
 | p::P,w::vs,0,m,nd,h1,h2,hk=>by
  simp at h1 h2; subst h1; subst h2
  show bindC kindOf ((p,w)::P.zip vs) m p=_
  unfold bindC
  rw[vT fun v hv=>(Ls.mp nd).1 (NZ hv).1,Kp hk]
  simp
 | p::P,w::vs,i+1,m,nd,h1,h2,hk=>by
  show bindC kindOf ((p,w)::P.zip vs) m x=_
  unfold bindC
  exact wb (i:=i) (Ls.mp nd).2 (by simpa using h1) (by simpa using h2) hk
def start (N:List Str) (vs:List V):St:=vs.map some++List.replicate (N.length - vs.length) none
def gu (CX:OM) (P:Program) (w:World) (K:N7) (mg:Str->Option Value) (base:Heap) (N:List Str) (qual:Str) (scope:Scope) (f:Addr) (cd:Value) (A:Around) (outer:List Env) (s:Shared) (H:Hp) (E:XK):Cx where
 prog:=P
 w:=w
 K:=K
 mg:=mg
 base:=base
 A:=A.deeper (envOfC qual scope s.heap.objs.size f cd)
 N:=N
 s₀:=s
 H₀:=H
 env:=envOfC qual scope s.heap.objs.size f cd
 outer:=outer
 stack:=envOfC qual scope s.heap.objs.size f cd::outer
 ex:=[]
 calm:=true
 fn:=fun _=>true
 pn:=[]
 xe:=fun e s'=>wpAny (model P w) (A.deeper (envOfC qual scope s.heap.objs.size f cd)) (leaving (envOfC qual scope s.heap.objs.size f cd) e) (fun _ s''=>CX outer H s E e s'') (fun e' s''=>CX outer H s E e' s'') s'
theorem xx {sc:Scope}{n:Nat}{x:Str}(h:sc.names.lookup x=some .cell): ∃c,(cellsFrom n sc.names []).lookup x=some c:=by
 have q:=PySem.W.cellsFrom_some sc.names n [] (.inl h)
 exact L3.mp q
theorem AM {CX:OM}{P:Program}{w:World}{K:N7}{mg:Str->Option Value}{base:Heap}{N ps:List Str}{qual:Str}{scope:Scope}{f:Addr}{cd:Value}{A:Around}{outer:List Env}{s s1:Shared}{H:Hp}{E:XK}{us:List Value}{vs:List V}
  (S:ay N ps scope) (hd:A.handled=none) (e0:tO P w K mg base A outer s H) (hl:vs.length=ps.length) (r:Vals vs us)
  (x:InCallC s s.heap.objs.size (bindL (envOfC qual scope s.heap.objs.size f cd).kindOf (ps.zip us) fun _=>none) (cellsFrom (s.heap.objs.size+1) scope.names []) (bindC (envOfC qual scope s.heap.objs.size f cd).kindOf (ps.zip us) fun _=>none) s1) :
  Inv (gu CX P w K mg base N qual scope f cd A outer s H E) [] (start N vs) H s1:=by
 have hpl:ps.length<=N.length:=by have:=Ln List.length S.pre; rw[K0] at this; omega
 obtain⟨h1,tk,rfl,hk⟩:=x.done
 have noA: ∀b:Addr,b∉(gu CX P w K mg base N qual scope f cd A outer s H E).ex:=fun b z=>absurd (show b∈([]:List Addr) from z) (by simp)
 refine⟨⟨e0.mod,S.kind,rfl,rfl,Ku _,fun y z c h1 h2=>?_,fun y hy=>?_,fun y c _ h=>?_,fun _=>hd,Around.frames_deeper e0.frames,.inr ⟨rfl,rfl⟩,fun b z=>absurd z (noA b),e0.bs,e0.bsz,fun b _ _=>noA b,fun b z=>absurd z (noA b),e0.fu,e0.frf⟩,
  rfl,e0.bare,Un.kept hk,⟨_,x.toInCall.ns,fun i y v h1 h2 h3=>?_⟩,fun y c h=>⟨_,x.cell y c h⟩,e0.hok.fresh (Ku _),fun y c h=>?_,fun p hp=>absurd (show p∈([]:List (Addr×Obj)) from hp) (by simp),e0.hok.kept hk,?_⟩
 .exact name_of_addr x.apart (MC h1) (MC h2)
 .have hy:scope.names.lookup y=some .cell\/scope.names.lookup y=some .free:=hy
  rcases hy with hy | hy
  .exact xx hy
  .exact absurd rfl (S.nofree _ (MC hy))
 .exact K7 (x.above y c (MC h))
 .have hi:i < vs.length:=by
   unfold start at h2
   by_cases hi:i < vs.length
   .exact hi
   .rw[MW (by simpa using hi)] at h2
    rw[List.getElem?_replicate] at h2
    split at h2 <;> cases h2
  have ha:vs[i]?=some v:=by
   unfold start at h2
   rw[MZ (by simpa using hi),KH] at h2
   cases e:vs[i]? with
   | none=>rw[e] at h2; cases h2
   | some a=>rw[e] at h2; cases h2; rfl
  obtain⟨u,hu,rv⟩:=r.get ha
  have hp:ps[i]?=some y:=by
   rw[<-S.pre,List.getElem?_take_of_lt (by omega)]; exact h1
  have ndP:ps.Nodup:=by rw[<-S.pre]; exact S.nd.sublist (NK _ _)
  refine⟨u,rv,?_⟩
  rcases S.par y (Kw hp) with k | k
  .exact .inl ⟨k,vZ ndP hp hu k⟩
  .obtain⟨c,e⟩:=xx (n:=s.heap.objs.size+1) k
   refine .inr ⟨.inl k,c,e,?_⟩
   have q:=x.cell y c e
   rw[wb ndP hp hu (by show scope.names.lookup y≠_; rw[k]; decide)] at q
   exact q
 .exact e0.hok.fresh (K7 (x.above y c (MC h)))
 .unfold start
  show _=N.length
  rw[KC,Kq,Mn]
  omega
theorem Ap {CX:OM}{P:Program}{w:World}{K:N7}{mg:Str->Option Value}{base:Heap}{k:Nat}{f:Addr}{name qual:Str}{params:Arguments}{body:List Stmt}{scope:Scope}{dV kV doc pm cdv ct oc:Value}{an od:Option Addr}
  {osl:Array (Option Value)}{N ps:List Str}{sp:Sp} (lk:K.lookup f=some ⟨oc,od,.func (PySem.W.fnOf name qual params body scope dV kV doc pm an cdv ct),osl⟩) (hcd:PySem.W.codeIn K cdv qual=true) (S:ay N ps scope)
  (len: ∀vs H Q E,sp vs H Q E->vs.length=ps.length)
  (hbody: ∀(A:Around) (outer:List Env) (s:Shared) (H:Hp) (vs:List V) (Q:VK) (E:XK),bC k (A.deeper (envOfC qual scope s.heap.objs.size f cdv))->sp vs H Q E ->
   ∃t,Ov (gu CX P w K mg base N qual scope f cdv A outer s H E) body t/\t { nx:=fun _ H'=>Q .non H',rt:=Q } (start N vs) H) :
  dW P w K mg base CX (k+1) f (PySem.W.fnOf name qual params body scope dV kV doc pm an cdv ct) ps sp:=by
 refine⟨len,fun A outer s H args us vs Q E hr e0 hb r hsp=>?_⟩
 have hl:=len _ _ _ _ hsp
 have KX:K.In s.heap:=e0.mod.kin.keeps fun b o e=>(e0.bs b o e).1
 have lim:s.heap.NoLimit:=e0.mod.nolimit.keeps fun b o e=>(e0.bs b o e).1
 have hkind: ∀y∈ps.zip us,scope.names.lookup y.1=some .local\/(scope.names.lookup y.1=some .cell/\((cellsFrom (s.heap.objs.size+1) scope.names []).lookup y.1).isSome=true):=fun⟨n,v⟩ hy=>by
  rcases S.par n (NZ hy).1 with q | q
  .exact .inl q
  .exact .inr ⟨q,PySem.W.cellsFrom_some _ _ _ (.inl q)⟩
 refine codeAny_call_function hr.depth (KX _ _ lk) rfl S.co S.gen rfl (PySem.W.codeRec_of KX hcd) (hb _ _ _ _ ?_)
 refine wpAny_newFunctionEnv_cells S.kind hkind fun env he s1 x=>?_
 subst he
 refine⟨lim.keeps x.toInCall.keep,codeAny_func ?_⟩
 obtain⟨t,ht,hq⟩:=hbody A outer s H vs Q E (hr.deeper _) hsp
 have I:Inv (gu CX P w K mg base N qual scope f cdv A outer s H E) [] (start N vs) H s1:=AM S hr.hd e0 hl r x
 refine Lx (ht [] s1 (start N vs) H _ I hq) (fun fl s' hs=>?_) fun e s' hs=>hs
 have fin: ∀ {σ':St}{H':Hp}{v:V}{u:Value},Inv (gu CX P w K mg base N qual scope f cdv A outer s H E) [] σ' H' s'->RelV v u->Q v H'->CE outer P w H s Q u s' :=
  fun {σ' H' v u} J rv q=>⟨v,H',J.os,J.bare,J.base,J.hok,rv,q⟩
 cases fl with
 | ret u =>
  obtain⟨v,σ',H',J,rv,q⟩:=hs
  exact fin J rv q
 | next =>
  obtain⟨σ',H',J,q⟩:=hs
  exact fin (v:=V.non) (u:=Value.none) J rfl q
 | brk =>
  obtain⟨_,_,_,q⟩:=hs
  exact False.elim q
 | cont =>
  obtain⟨_,_,_,q⟩:=hs
  exact False.elim q
section
variable {X:Cx}{x:Str}{p pos:Pos}{e:Expr}{es:List Expr}{t:TA}{id T:String}{r:List V->Hp->VK->Prop}
def PB (r:List V->Hp->VK->Prop) (t:TA):TE:=fun σ H Q=>t σ H fun vs H1=>r vs H1 Q
theorem bc (hc:cX X (.builtin id) r) (hg:Gl X x) (hm:X.mg x=none) (hv:bootBuiltins x=some (.builtin id)) (ha:PA X (e::es) t) (hn:x≠ "__name__" := by decide) (hdb:(x == ("__debug__" : Str))=false:=by decide)
  (he:starEach (e::es) X.env=(false,eval e X.env)::starEach es X.env:=by rfl) (hpl:(backTo pos (starEach es X.env)).any (·.1)=false:=by rfl):PE X (.Call (.Name x p) (e::es) [] pos) (PB r t):=by
 intro N3 s σ H Q I h
 refine Mi (nG I hg hm hv ?_ hn hdb)
 exact PyProof.Rows.callWith_builtin1 (Oc (ha pos N3 s σ H _ I h) fun us s1 ⟨vs,H1,I1,r1,q1⟩=>hc N3 s1 σ H1 vs us Q I1 r1 q1) he hpl
theorem dz (hc:cX X (.type T) r) (hg:Gl X x) (hm:X.mg x=none) (hv:bootBuiltins x=some (.type T)) (ha:PA X (e::es) t) (hn:x≠ "__name__" := by decide) (hdb:(x == ("__debug__" : Str))=false:=by decide)
  (he:starEach (e::es) X.env=(false,eval e X.env)::starEach es X.env:=by rfl) (hpl:(backTo pos (starEach es X.env)).any (·.1)=false:=by rfl):PE X (.Call (.Name x p) (e::es) [] pos) (PB r t):=by
 intro N3 s σ H Q I h
 refine Mi (nG I hg hm hv ?_ hn hdb)
 exact Mf (Oc (ha pos N3 s σ H _ I h) fun us s1 ⟨vs,H1,I1,r1,q1⟩=>hc N3 s1 σ H1 vs us Q I1 r1 q1) he hpl
end
end L2
namespace HT
open PySem PyProof.Rows
def lexLt:List Int->List Int->Bool
 | [],[]=>false
 | [],_::_=>true
 | _::_,[]=>false
 | x::xs,y::ys=>if x=y then lexLt xs ys else decide (x < y)
section
open PySem.SeqAt
open PySem.AutoSeq1 (wpAny_loadPart')
open PySem.MeetsSeq PySem.MeetsSeq2 PySem.MeetsSeq3
end
section
variable {prog:Program}{w:World}{A:Around}{E:Value->Shared->Prop}{s:Shared}
def Og (n d:Nat):Option Int->Nat
 | none=>d
 | some v=>if v < 0 then (v+(n:Int)).toNat else min v.toNat n
theorem zf (n d k:Nat):Og n d (some (k:Int))=min k n:=by
 show (if (k:Int) < 0 then ((k:Int)+(n:Int)).toNat else min (k:Int).toNat n)=min k n
 rw[Kp (by omega),KW]
theorem xN (n d:Nat) (hd:d<=n) (o:Option Int):Og n d o<=n:=by
 cases o with
 | none=>exact hd
 | some v =>
  show (if v < 0 then (v+(n:Int)).toNat else min v.toNat n)<=n
  by_cases hv:v < 0
  .rw[Ks hv]; omega
  .rw[Kp hv]; exact NP _ _
theorem zx (v:Int) (n d:Nat):(if v < 0 then max (v+(n:Int)) 0 else min v (n:Int))=((Og n d (some v):Nat):Int):=by
 show (if v < 0 then max (v+(n:Int)) 0 else min v (n:Int))=(((if v < 0 then (v+(n:Int)).toNat else min v.toNat n):Nat):Int)
 by_cases hv:v < 0
 .simp only[Ks hv]; omega
 .simp only[Kp hv]; omega
theorem AI (lo hi:Option Int) (n:Nat):Builtin.Slice.sliceAdjust lo hi 1 (n:Int)=(((Og n 0 lo:Nat):Int),((Og n n hi:Nat):Int)):=by
 have h1: ¬((1:Int) < 0):=by omega
 unfold Builtin.Slice.sliceAdjust
 simp only[h1,if_false]
 refine Prod.ext ?_ ?_
 .cases lo with
  | none=>rfl
  | some v=>exact zx v n 0
 .cases hi with
  | none=>rfl
  | some v=>exact zx v n n
theorem Ax (i j:Nat):Builtin.Slice.slicePlaces (i:Int) (j:Int) 1=j - i:=by
 unfold Builtin.Slice.slicePlaces
 have h1:(1:Int) > 0:=by omega
 simp only[h1,if_true,Int.ediv_one]
 split <;> omega
theorem um {v:Value}{o:Option Int}{Q:Option Int->Shared->Prop}(p:IsPart v o) (h:Q o s):wpAny (model prog w) A (Builtin.Slice.slicePartIndex v) Q E s:=by
 cases p with
 | none=>exact slicePart_none h
 | int i t=>exact slicePart_int h
theorem tT {sl:Addr}{vl vu:Value}{lo hi:Option Int}{n:Nat}{Q:Int×Int×Nat->Shared->Prop}(hs:s.heap.IsSliceOf sl vl vu .none) (pl:IsPart vl lo) (pu:IsPart vu hi)
  (h:Q (((Og n 0 lo:Nat):Int),1,Og n n hi - Og n 0 lo) s):wpAny (model prog w) A (Builtin.Slice.sliceApplied (.ref sl) (pure (n:Int))) Q E s:=by
 obtain⟨os,hos,hcs,hds⟩:=id hs
 unfold Builtin.Slice.sliceApplied Builtin.Slice.sliceFields
 refine Kv (Kv (Mx hos hds (x:=vl) rfl (Kv (Mx hos hds (x:=vu) rfl (Kv (Mx hos hds (x:= .none) rfl (KP ?_)))))))
 refine Kv (slicePart_none ?_)
 show wpAny _ _ (if ((1:Int) == 0)=true then _ else _) _ _ s
 rw[Kp (by decide)]
 refine Kv (um pl (Kv (um pu (Kv (KP ?_)))))
 show wpAny _ _ (match Builtin.Slice.sliceAdjust lo hi 1 (n:Int) with | (lo,hi)=>pure (lo,(1:Int),Builtin.Slice.slicePlaces lo hi 1)) _ _ s
 rw[AI lo hi n]
 show wpAny _ _ (pure (((Og n 0 lo:Nat):Int),(1:Int),Builtin.Slice.slicePlaces ((Og n 0 lo:Nat):Int) ((Og n n hi:Nat):Int) 1)) _ _ s
 rw[Ax]
 exact KP h
theorem CP (xs:Array Value) (i k:Nat):((List.range k).filterMap fun (m:Nat)=>xs[((i:Int)+(m:Int)*1).toNat]?).toArray=((xs.toList.drop i).take k).toArray:=by
 have e:(fun (m:Nat)=>xs[((i:Int)+(m:Int)*1).toNat]?)=fun m=>xs[i+m]?:=by
  funext m
  have:((i:Int)+(m:Int)*1).toNat=i+m:=by omega
  rw[this]
 rw[e]
 have:=pick_run xs i k
 rw[List.filterMap_map] at this
 have e2:((fun x=>xs[x]?)∘fun x=>i+x)=fun m=>xs[i+m]?:=rfl
 rw[e2] at this
 rw[this]
theorem sR {t sl:Addr}{items:Array Value}{vl vu:Value}{lo hi:Option Int}{Q:Value->Shared->Prop}(ht:IsTup s.heap t items) (hs:s.heap.IsSliceOf sl vl vu .none) (pl:IsPart vl lo) (pu:IsPart vu hi)
  (hw: ¬(Og items.size 0 lo=0/\Og items.size items.size hi=items.size))
  (h:Q (.ref s.heap.objs.size) { s with heap:=s.heap.push { cls:= .type "tuple",data:= .seq ((items.toList.drop (Og items.size 0 lo)).take (Og items.size items.size hi - Og items.size 0 lo)).toArray } })
  (hsz:items.size<=sizeLine):wpAny (model prog w) A (getItem (.ref t) (.ref sl)) Q E s:=by
 have htake:sizeOk (.seq ((items.toList.drop (Og items.size 0 lo)).take (Og items.size items.size hi - Og items.size 0 lo)).toArray):=by
  show ((items.toList.drop (Og items.size 0 lo)).take (Og items.size items.size hi - Og items.size 0 lo)).toArray.size<=sizeLine
  rw[KL,K0,Lv,MY]
  omega
 have hj:Og items.size items.size hi<=items.size:=xN _ _ (Ku _) hi
 obtain⟨os,hos,hcs,hds⟩:=id hs
 have hTs:s.TypeIs (.ref sl) "slice" := ⟨os,hos,hcs⟩
 unfold getItem
 try with_reducible refine L9 ?_
 first | refine Kv (KP ?_) | skip
 refine Kv (wpAny_sequenceKey ht.typeIs (by decide) ?_)
 refine Kv (wpAny_callSpecial?_slot (name:=Str.ofString "__getitem__") ht.typeIs MD
  (wpAny_call_entry MD ht.typeIs entry_tuple_getitem ?_ (args_tuple_getitem _ _)))
 show wpAny _ _ (Builtin.Tuple.tupleItemsOf (.ref t) >>= _) _ _ s
 refine Kv (tupleItemsOf_ ht ?_)
 refine Kv (wpAny_typeOf hTs ?_)
 rw[Ks (by decide)]
 refine Kv (tT hs pl pu ?_)
 have hno: ¬((((Og items.size 0 lo:Nat):Int) == 0 && (1:Int) == 1 && (Og items.size items.size hi - Og items.size 0 lo) == items.size)=true):=by
  intro q
  rw[Lb,Lb] at q
  have q1:((Og items.size 0 lo:Nat):Int)=0:=eq_of_beq q.1.1
  have q2:Og items.size items.size hi - Og items.size 0 lo=items.size:=eq_of_beq q.2
  exact hw ⟨by omega,by omega⟩
 show wpAny _ _ (if (((Og items.size 0 lo:Nat):Int) == 0 && (1:Int) == 1 && (Og items.size items.size hi - Og items.size 0 lo) == items.size)=true then _ else _) _ _ s
 rw[Kp hno,CP]
 first
  | exact Kv (m:=Builtin.Tuple.tupleExact _) (LU (KP ⟨_,rfl,KP h⟩) htake)
  | exact Kv (m:=Builtin.Tuple.tupleExact _) (LU (Kv (KP (KP ⟨_,rfl,KP h⟩))) htake)
  | exact Kv (Kv (m:=Builtin.Tuple.tupleExact _) (LU (KP (KP ⟨_,rfl,KP h⟩)) htake))
  | exact Kv (Kv (m:=Builtin.Tuple.tupleExact _) (LU (KP ⟨_,rfl,KP h⟩) htake))
end
end HT
namespace L2
open PySem PySem.Spec PyProof.Rows
abbrev TO:=St->Hp->(Option Int->Hp->Prop)->Prop
def PO (X:Cx) (e:Option Expr) (t:TO):Prop :=
 ∀(N3:List (Addr×Obj)) (s:Shared) (σ:St) (H:Hp) (Q:Option Int->Hp->Prop),Inv X N3 σ H s->t σ H Q ->
  wpAny (model X.prog X.w) X.A (evalPart e X.env) (fun u s'=> ∃o H',Inv X N3 σ H' s'/\IsPart u o/\Q o H') X.xe s
def EK:TO:=fun _ H Q=>Q none H
inductive GG (Q:Option Int->Hp->Prop) (x:V) (H1:Hp):Prop | mk (i:_) (e0:x= .int i) (q:Q (some i) H1)
def Ib (t:TE):TO:=fun σ H Q=>t σ H fun x H1=>GG Q x H1
theorem intsAre_of {ns:List Int}: ∀ {us:List Value},Vals (ns.map V.int) us->IntsAre us ns:=by
 induction ns with
 | nil=>intro us r; rw[Ng] at r; cases r; exact .nil
 | cons n ns ih =>
  intro us r
  rw[Ld] at r
  cases r with
  | cons r1 r2 =>
   obtain⟨t,e⟩:=r1
   subst e
   exact .cons n t (ih r2)
section
variable {X:Cx}{e:Expr}{te:TE}{lo hi:Option Expr}{tl th:TO}{pos p2:Pos}
theorem fP:PO X none EK:=by
 intro N3 s σ H Q I h
 rw[evalPart_none]
 exact KP ⟨none,H,I,.none,h⟩
theorem fE (h:PE X e te):PO X (some e) (Ib te):=by
 intro N3 s σ H Q I hw
 rw[evalPart_some]
 refine Oc (h N3 s σ H _ I hw) fun u s1 ⟨x,H1,I1,r1,q1⟩=>?_
 obtain⟨i,rfl,q⟩:=q1
 obtain⟨t,rfl⟩:=r1
 exact⟨some i,H1,I1,.int i t,q⟩
def Pl (X:Cx) (r:V->Option Int->Option Int->Hp->VK->Prop):Prop :=
 ∀(N3:List (Addr×Obj)) (s:Shared) (σ:St) (H:Hp) (x:V) (v vl vu:Value) (lo hi:Option Int) (sl:Addr) (Q:VK),Inv X N3 σ H s->RelV x v->s.heap.IsSliceOf sl vl vu .none->IsPart vl lo->IsPart vu hi->r x lo hi H Q ->
  ∃T id,typeLookup (.type T) "__getitem__" = pure (some (.builtin id))/\s.TypeIs v T/\wpAny (model X.prog X.w) X.A (getItem v (.ref sl)) (EP X N3 σ Q) X.xe s
def Qf (r:V->Option Int->Option Int->Hp->VK->Prop) (te:TE) (tl th:TO):TE:=fun σ H Q=>te σ H fun x H1=>tl σ H1 fun l H2=>th σ H2 fun u H3=>r x l u H3 Q
theorem eJ {r:V->Option Int->Option Int->Hp->VK->Prop}(hr:Pl X r) (he:PE X e te) (hl:PO X lo tl) (hu:PO X hi th):PE X (.Subscript e (.Slice lo hi none p2) pos) (Qf r te tl th):=by
 intro N3 s σ H Q I h
 refine Subscript_ (Oc (he N3 s σ H _ I h) fun v s1 ⟨x,H1,I1,r1,q1⟩=>?_)
 refine wpAny_Slice (Oc (hl N3 s1 σ H1 _ I1 q1) fun vl s2 ⟨l,H2,I2,pl,q2⟩=>Oc (hu N3 s2 σ H2 _ I2 q2) fun vu s3 ⟨u,H3,I3,pu,q3⟩=>?_)
 rw[evalPart_none]
 refine KP ?_
 have I4:Inv X N3 σ H3 { s3 with heap:=s3.heap.push { cls:= .type "slice",data:= .fields #[vl,vu,.none] } }:=I3.kept (t':=s3.toks) fun b ob q=>Kx _ q
 obtain⟨T,id,hT,ht,hg⟩:=hr N3 { s3 with heap:=s3.heap.push { cls:= .type "slice",data:= .fields #[vl,vu,.none] } } σ H3 x v vl vu l u s3.heap.objs.size Q I4 r1 (Heap.IsSliceOf.new ..) pl pu q3
 show wpAny (model X.prog X.w) X.A (subscriptTail e (.Slice lo hi none p2) v (.ref s3.heap.objs.size)) (EP X N3 σ Q) X.xe { s3 with heap:=s3.heap.push { cls:= .type "slice",data:= .fields #[vl,vu,.none] } }
 exact tail_any (ops:=[.ref s3.heap.objs.size,v]) ht hT hg (by with_unfolding_all rfl)
def mZ (xs:List V) (lo hi:Option Int):List V:=(xs.drop (HT.Og xs.length 0 lo)).take (HT.Og xs.length xs.length hi - HT.Og xs.length 0 lo)
theorem tE (xs:List V) (lo hi:Option Int):(mZ xs lo hi).length<=xs.length:=by
 unfold mZ
 rw[K0,Lv]
 omega
inductive Il (K:N7) (x:V) (lo hi:Option Int) (H:Hp) (Q:VK):Prop | mk (a xs:_) (e0:x= .ref a) (e1:N9 K H a xs) (e2: ¬(HT.Og xs.length 0 lo=0/\HT.Og xs.length xs.length hi=xs.length)) (q: ∀p,H p=none->Q (.ref p) (upd H p (.tup (mZ xs lo hi))))
def Gj (K:N7):V->Option Int->Option Int->Hp->VK->Prop:=fun x lo hi H Q=>Il K x lo hi H Q
theorem Hj:Pl X (Gj X.K):=by
 intro N3 s σ H x v vl vu lo hi sl Q I rx hs pl pu h
 obtain⟨a,xs,rfl,hx,hw,q⟩:=h
 cases rx
 obtain⟨its,r,ht,hz⟩:=I.tuple hx
 have hlen:its.toArray.size=xs.length:=by rw[KL]; exact r.length.symm
 refine⟨"tuple",_,MD.lookup,ht.typeIs,?_⟩
 refine HT.sR ht hs pl pu (by rw[hlen]; exact hw) ?_ (by rw[hlen]; exact hz)
 rw[hlen]
 refine⟨.ref s.heap.objs.size,_,I.laid (t':=s.toks) (o:= .tup (mZ xs lo hi)) (fun b ob q=>Kx _ q) (Ku _) ?_,rfl,q _ (I.hok.fresh (Ku _))⟩
 exact⟨KR (tE xs lo hi) hz,_,(r.drop (HT.Og xs.length 0 lo)).take (HT.Og xs.length xs.length hi - HT.Og xs.length 0 lo),IsTup.new _ _⟩
inductive Kj (K:N7) (x y:V) (H:Hp) (Q:VK):Prop | mk (a b ns ms:_) (e0:x= .ref a) (e1:y= .ref b) (e2:N9 K H a (ns.map V.int)) (e3:N9 K H b (ms.map V.int)) (q:Q (.bl (HT.lexLt ns ms)) H)
inductive JX (K:N7) (x y:V) (H:Hp) (Q:VK):Prop | mk (a b xs ys:_) (e0:x= .ref a) (e1:y= .ref b) (e2:N9 K H a xs) (e3:N9 K H b ys) (e4:xs≠[]) (e5:xs.length+ys.length<=sizeLine) (e6:(ys=[]->Q (.ref a) H)) (q:(ys≠[]-> ∀p,H p=none->Q (.ref p) (upd H p (.tup (xs++ys)))))
end
def O1 (n:Nat) (i:Int):Option Nat:=if 0<=i then (if i < n then some i.toNat else none) else if -(n:Int)<=i then some (i+n).toNat else none
def Om {α:Type}(xs:List α) (i:Int):Option α:=(O1 xs.length i).bind fun j=>xs[j]?
theorem yU {n:Nat}{i:Int}{j:Nat}(h:O1 n i=some j):seqIndex? i n=some j/\j < n/\ -(n:Int)<=i/\i < n:=by
 unfold O1 at h
 by_cases h0:0<=i
 .rw[Ks h0] at h
  by_cases h1:i < n
  .rw[Ks h1] at h
   have e:i.toNat=j:=KS h
   exact⟨by rw[seqIndex_of h0 h1,e],by omega,by omega,h1⟩
  .rw[Kp h1] at h; cases h
 .rw[Kp h0] at h
  by_cases h1: -(n:Int)<=i
  .rw[Ks h1] at h
   have e:(i+n).toNat=j:=KS h
   exact⟨by rw[seqIndex_neg (by omega) h1,e],by omega,h1,by omega⟩
  .rw[Kp h1] at h; cases h
theorem vf {α:Type}{xs:List α}{i:Int}{v:α}(h:Om xs i=some v): ∃j,seqIndex? i xs.length=some j/\xs[j]?=some v/\j < xs.length/\ -(xs.length:Int)<=i/\i < xs.length:=by
 unfold Om at h
 cases e:O1 xs.length i with
 | none=>rw[e] at h; cases h
 | some j =>
  rw[e] at h
  obtain⟨h1,h2,h3,h4⟩:=yU e
  exact⟨j,h1,h,h2,h3,h4⟩
theorem bT {α:Type}{xs:List α}{j:Nat}{v:α}(h:xs[j]?=some v):Om xs (j:Int)=some v:=by
 have hj:j < xs.length:=(Ky.mp h).1
 have e:O1 xs.length (j:Int)=some j:=by
  unfold O1
  rw[Ks (by omega),Ks (by omega)]; simp
 unfold Om; rw[e]; exact h
def pH (b:Expr):Prop:= ∀o i,subscripted b false o i=operate [o,i] (getItem o i)
def PL (X:Cx) (r:R2):Prop :=
 ∀(value slice:Expr) (N3:List (Addr×Obj)) (s:Shared) (σ:St) (H:Hp) (x y:V) (v u:Value) (Q:VK),Inv X N3 σ H s->RelV x v->RelV y u->r x y H Q ->
  subscripted slice false v u=operate [v,u] (getItem v u)->wpAny (model X.prog X.w) X.A (subscriptTail value slice v u) (EP X N3 σ Q) X.xe s
def PQ (X:Cx) (id:String) (r:V->List V->Hp->VK->Prop):Prop :=
 ∀(N3:List (Addr×Obj)) (s:Shared) (σ:St) (H:Hp) (x:V) (xs:List V) (v:Value) (us:List Value) (Q:VK),Inv X N3 σ H s->RelV x v->Vals xs us->r x xs H Q ->
  wpAny (model X.prog X.w) X.A (call (.builtin id) (v::us)) (EP X N3 σ Q) X.xe s
section
variable {X:Cx}{a b:Expr}{ta tb:TE}{pos:Pos}
theorem qC {r:R2}(hr:PL X r) (ha:PE X a ta) (hb:PE X b tb) (hs:pH b):PE X (.Subscript a b pos) (OT r ta tb):=by
 intro N3 s σ H Q I h
 exact Subscript_ (Dc ha hb I h fun v u s2 x y H2 I2 rx ry q=>hr a b N3 s2 σ H2 x y v u Q I2 rx ry q (hs _ _))
inductive Jb (K:N7) (x y:V) (H:Hp) (Q:VK):Prop | mk (p xs i v:_) (e0:x= .ref p) (e1:y= .int i) (e2:N5 K H p xs) (e3:Om xs i=some v) (q:Q v H)
def CG (K:N7):R2:=fun x y H Q=>Jb K x y H Q
inductive Iq (K:N7) (x y:V) (H:Hp) (Q:VK):Prop | mk (p xs i v:_) (e0:x= .ref p) (e1:y= .int i) (e2:N9 K H p xs) (e3:Om xs i=some v) (q:Q v H)
def xU (K:N7):R2:=fun x y H Q=>Iq K x y H Q
inductive HU (x y:V) (H:Hp) (Q:VK):Prop | mk (z i c:_) (e0:x= .str z) (e1:y= .int i) (e2:z.length<=sizeLine) (e3:Om z.cps.toList i=some c) (q:Q (.str ⟨#[c]⟩) H)
def Jq:R2:=fun x y H Q=>HU x y H Q
theorem y6:PL X (CG X.K):=by
 intro value slice N3 s σ H x y v u Q I rx ry h hs
 obtain⟨p,xs,i,z,rfl,rfl,hq,he,q⟩:=h
 cases rx
 obtain⟨t,rfl⟩:=ry
 obtain⟨its,r,pl,hz⟩:=I.list hq
 obtain⟨j,h1,h2,h3,h4,h5⟩:=vf he
 obtain⟨w,ew,rw'⟩:=r.get h2
 have hl:=r.length
 have hn:=pE
 have fin:EP X N3 σ Q w s:=⟨z,H,I,rw',q⟩
 by_cases h0:0<=i
 .have hj:i.toNat=j:=by
   rw[seqIndex_of h0 h5] at h1
   exact KS h1
  exact item_listR pl.isList h0 (by omega) (by rw[hj]; simpa using ew) fin hs
 .have hj:(i+(its.toArray.size:Int)).toNat=j:=by
   rw[seqIndex_neg (by omega) h4] at h1
   rw[KL,<-hl]
   exact KS h1
  exact subscriptTail_builtinR (x:=w) pl.isList.typeIs slot_list_getitem.lookup
   (wpAny_getItem_list_neg (Q:=fun r s'=>r=w/\EP X N3 σ Q r s') pl.isList (by omega) (by rw[KL] <;> omega) (by omega) (by rw[hj]; simpa using ew) ⟨rfl,fin⟩) hs
theorem AY:PL X (xU X.K):=by
 intro value slice N3 s σ H x y v u Q I rx ry h hs
 obtain⟨p,xs,i,z,rfl,rfl,hq,he,q⟩:=h
 cases rx
 obtain⟨t,rfl⟩:=ry
 obtain⟨its,r,pl,hz⟩:=I.tuple hq
 obtain⟨j,h1,h2,h3,h4,h5⟩:=vf he
 obtain⟨w,ew,rw'⟩:=r.get h2
 have hl:=r.length
 have hn:=pE
 have fin:EP X N3 σ Q w s:=⟨z,H,I,rw',q⟩
 exact subscriptTail_builtinR (x:=w) pl.typeIs slot_tuple_getitem.lookup
  (getItem_tuple (j:=j) (Q:=fun r s'=>r=w/\EP X N3 σ Q r s') pl (by omega) (by omega) (by rw[KL,<-hl]; exact h1) (by simpa using ew) ⟨rfl,fin⟩) hs
theorem xm:PL X Jq:=by
 intro value slice N3 s σ H x y v u Q I rx ry h hs
 obtain⟨z,i,c,rfl,rfl,hz,he,q⟩:=h
 obtain⟨t,rfl⟩:=rx
 obtain⟨t',rfl⟩:=ry
 obtain⟨j,h1,h2,h3,h4,h5⟩:=vf he
 have hl:z.cps.toList.length=z.length:=by simp[Str.length]
 rw[hl] at h1 h4 h5
 have hn:=pE
 exact tail_any (typeIs_str s z t) slot_str_getitem.lookup (getItem_str (c:=c) (by
  have e1:decide (i < -(2 ^ 63:Int))=false:=KU (by omega)
  have e2:decide (i>=2 ^ 63)=false:=KU (by omega)
  rw[e1,e2,Bool.or_false]) (by rw[h1]; simpa using h2) ⟨.str ⟨#[c]⟩,H,I.tok _,⟨_,rfl⟩,q⟩) hs
theorem z5 (its:List Value) (n j:Nat) (u:Value):Obj.mapSeq (·.setIfInBounds j u) { cls:= .type "list",data:= .seq its.toArray n }={ cls:= .type "list",data:= .seq (its.set j u).toArray n }:=by
 simp[Obj.mapSeq]
theorem Inv.lst {N3:List (Addr×Obj)}{σ:St}{H:Hp}{s:Shared}{p:Addr}{xs:List V}(I:Inv X N3 σ H s) (h:H p=some (.lst xs)) :
  ∃(its:List Value) (n:Nat),Vals xs its/\s.heap.get? p=some { cls:= .type "list",data:= .seq its.toArray n }/\xs.length<=sizeLine:=by
 obtain⟨z,its,n,r,e⟩:=I.hok p _ h
 exact⟨its,n,r,e,z⟩
theorem Inv.Gh {N3:List (Addr×Obj)}{σ:St}{H:Hp}{s:Shared}{p:Addr}{xs ys:List V}{its its':List Value}{n n':Nat}{f:Obj->Obj}(I:Inv X N3 σ H s) (h:H p=some (.lst xs))
  (ho:s.heap.get? p=some { cls:= .type "list",data:= .seq its.toArray n }) (hf:f { cls:= .type "list",data:= .seq its.toArray n }={ cls:= .type "list",data:= .seq its'.toArray n' }) (r:Vals ys its') (hz:ys.length<=sizeLine) (t:Nat) :
  Inv X N3 σ (upd H p (.lst ys)) { s with heap:=s.heap.update p f,toks:=t }:=by
 have e:(s.heap.update p f).get? p=some { cls:= .type "list",data:= .seq its'.toArray n' }:=by
  rw[LX f ho (by rw[hf] <;> rfl),hf]
 refine I.write (x:=p) (e:=p) (by rw[h]; trivial) (.inl rfl) (fun b u hb q=>(Lr _ _ (K2 hb)).trans q) ⟨_,e⟩ ?_
 exact⟨hz,its',n',r,e⟩
inductive Gm (o i v:V) (H:Hp) (Q:Hp->Prop):Prop | mk (p xs k j:_) (e0:o= .ref p) (e1:i= .int k) (e2:H p=some (.lst xs)) (e3:O1 xs.length k=some j) (q:Q (upd H p (.lst (xs.set j v))))
def HS:V->V->V->Hp->(Hp->Prop)->Prop:=fun o i v H Q=>Gm o i v H Q
theorem set_list:Hu X HS:=by
 intro N3 s σ H o i v ov iv u Q I ro ri rv h
 obtain⟨p,xs,k,j,rfl,rfl,hp,hj,q⟩:=h
 cases ro
 obtain⟨t,rfl⟩:=ri
 obtain⟨its,n,r,ho,hz⟩:=I.lst hp
 obtain⟨h1,h2,h3,h4⟩:=yU hj
 have hl:=r.length
 have hn:=pE
 have I':Inv X N3 σ (upd H p (.lst (xs.set j v))) { s with heap:=s.heap.update p (Obj.mapSeq (·.setIfInBounds j u)) } :=
  I.Gh hp ho (z5 its n j u) (r.set rv j) (by rw[Mo]; exact hz) s.toks
 by_cases h0:0<=k
 .have hk:k.toNat=j:=by
   rw[seqIndex_of h0 h4] at h1
   exact KS h1
  exact PySem.W.ki_setAt ho h0 (by omega) (by rw[KL,<-hl]; exact h4) (by rw[hk]; exact⟨_,I',q⟩)
 .have hk:(k+(its.toArray.size:Int)).toNat=j:=by
   rw[seqIndex_neg (by omega) h3] at h1
   rw[KL,<-hl]
   exact KS h1
  exact PySem.W.ki_setBack ho (by omega) (by rw[KL,<-hl]; exact h3) (by omega) (by rw[hk]; exact⟨_,I',q⟩)
theorem w6 (lo hi:Option Int) (n:Nat):(sliceBounds lo hi none n).1=((HT.Og n 0 lo:Nat):Int)/\(sliceBounds lo hi none n).2.1=((HT.Og n n hi:Nat):Int)/\(sliceBounds lo hi none n).2.2=1:=by
 have e: ∀d (o:Option Int),o.elim d (clipAt n)=HT.Og n d o:=fun d o=>by
  cases o with
  | none=>rfl
  | some i =>
   show (max 0 (min (if i < 0 then i+n else i) n)).toNat=if i < 0 then (i+n).toNat else min i.toNat n
   by_cases c:i < 0
   .rw[Ks c,Ks c,Int.min_eq_left (by omega),Int.max_def]
    split
    .rfl
    .exact (Int.toNat_of_nonpos (Int.le_of_lt (Int.not_le.mp (by assumption)))).symm
   .obtain⟨k,rfl⟩:=Int.eq_ofNat_of_zero_le (Int.not_lt.mp c)
    rw[Kp c,Kp c,Int.max_eq_right (Int.le_min.mpr ⟨Int.not_lt.mp c,Int.natCast_nonneg n⟩)]
    rw[Int.min_def,Nat.min_def]
    split
    .rw[Ks (Int.ofNat_le.mp (by assumption))]
    .rw[Kp (fun z=>absurd (Int.ofNat_le.mpr z) (by assumption))]
     rfl
 rw[sliceBounds_plain,e,e]
 exact⟨rfl,rfl,rfl⟩
theorem wB (its:List Value) (lo hi:Option Int):slicePick its.toArray lo hi none=((its.drop (HT.Og its.length 0 lo)).take (HT.Og its.length its.length hi - HT.Og its.length 0 lo)).toArray:=by
 obtain⟨h1,h2,h3⟩:=w6 lo hi its.toArray.size
 unfold slicePick
 rw[h1,h2,h3]
 simp only[sliceRange_one,pick_run,KL] <;> rfl
inductive HQ (K:N7) (x:V) (lo hi:Option Int) (H:Hp) (Q:VK):Prop | mk (a xs:_) (e0:x= .ref a) (e1:N5 K H a xs) (q: ∀p,H p=none->Q (.ref p) (upd H p (.lst (mZ xs lo hi))))
def GK (K:N7):V->Option Int->Option Int->Hp->VK->Prop:=fun x lo hi H Q=>HQ K x lo hi H Q
theorem EU:Pl X (GK X.K):=by
 intro N3 s σ H x v vl vu lo hi sl Q I rx hs pl pu h
 obtain⟨a,xs,rfl,hx,q⟩:=h
 cases rx
 obtain⟨its,r,ht,hz⟩:=I.list hx
 have hlen:=r.length
 refine⟨"list",_,slot_list_getitem.lookup,ht.isList.typeIs,?_⟩
 refine wpAny_getItem_list_slice ht.isList hs pl pu .none (by simp) ?_ (by rw[KL] <;> omega)
 rw[wB,<-hlen]
 refine⟨.ref s.heap.objs.size,_,I.laid (t':=s.toks) (o:= .lst (mZ xs lo hi)) (fun b ob q=>Kx _ q) (Ku _) ?_,rfl,q _ (I.hok.fresh (Ku _))⟩
 exact⟨KR (tE xs lo hi) hz,_,0,(r.drop (HT.Og xs.length 0 lo)).take (HT.Og xs.length xs.length hi - HT.Og xs.length 0 lo),K9 _ rfl⟩
def bS:V->Bool
 | .non=>true
 | .bl _=>true
 | .int _=>true
 | .str _=>true
 | _=>false
def OZ:V->V->Bool
 | .non,.non=>true
 | .bl a,.bl b=>a == b
 | .bl a,.int b=>(if a then 1 else 0) == b
 | .int a,.bl b=>a == (if b then 1 else 0)
 | .int a,.int b=>a == b
 | .str a,.str b=>a == b
 | _,_=>false
theorem xk {A:Around}{s:Shared}{y x:V}{u v:Value}(ry:RelV y u) (rx:RelV x v) (fy:bS y=true) (fx:bS x=true):SeqAt.EqAt A s u v (OZ y x):=by
 cases y with
 | non =>
  cases ry
  cases x with
  | non=>cases rx; exact SeqAt.EqAt.same _
  | bl b=>cases rx; exact SeqAt.EqAt.none_bool b
  | int b=>obtain⟨t,rfl⟩:=rx; exact SeqAt.EqAt.none_int b t
  | str b=>obtain⟨t,rfl⟩:=rx; exact SeqAt.EqAt.none_str b t
  | _=>exact absurd (show false=true from fx) KN
 | bl a =>
  cases ry
  cases x with
  | non=>cases rx; exact SeqAt.EqAt.bool_none a
  | bl b=>cases rx; exact SeqAt.EqAt.bool_bool a b
  | int b=>obtain⟨t,rfl⟩:=rx; exact SeqAt.EqAt.bool_int a b t
  | str b=>obtain⟨t,rfl⟩:=rx; exact SeqAt.EqAt.bool_str a b t
  | _=>exact absurd (show false=true from fx) KN
 | int a =>
  obtain⟨t',rfl⟩:=ry
  cases x with
  | non=>cases rx; exact SeqAt.EqAt.int_none a t'
  | bl b=>cases rx; exact SeqAt.EqAt.int_bool a t' b
  | int b=>obtain⟨t,rfl⟩:=rx; exact SeqAt.EqAt.int_int a t' b t
  | str b=>obtain⟨t,rfl⟩:=rx; exact SeqAt.EqAt.int_str a t' b t
  | _=>exact absurd (show false=true from fx) KN
 | str a =>
  obtain⟨t',rfl⟩:=ry
  cases x with
  | non=>cases rx; exact SeqAt.EqAt.str_none a t'
  | bl b=>cases rx; exact SeqAt.EqAt.str_bool a t' b
  | int b=>obtain⟨t,rfl⟩:=rx; exact SeqAt.EqAt.str_int a t' b t
  | str b=>obtain⟨t,rfl⟩:=rx; exact NA a t' b t
  | _=>exact absurd (show false=true from fx) KN
 | _=>exact absurd (show false=true from fy) KN
def OS (x:V) (u:Value):Bool:=match u with
 | .none=>OZ .non x
 | .bool b=>OZ (.bl b) x
 | .int i _=>OZ (.int i) x
 | .str z _=>OZ (.str z) x
 | _=>false
theorem Ck {x y:V}{u:Value}(r:RelV y u) (f:bS y=true):OS x u=OZ y x:=by
 cases y with
 | non=>cases r; rfl
 | bl b=>cases r; rfl
 | int i=>obtain⟨t,rfl⟩:=r; rfl
 | str z=>obtain⟨t,rfl⟩:=r; rfl
 | _=>exact absurd (show false=true from f) KN
theorem o6 {x:V}: ∀ {xs:List V}{us:List Value},Vals xs us->xs.all bS=true->us.any (OS x)=xs.any fun y=>OZ y x
 | _,_,.nil,_=>rfl
 | y::xs,u::us,.cons r t,f=>by
  rw[List.all_cons,Lb] at f
  rw[L8,L8,Ck r f.1,o6 t f.2]
theorem mO {A:Around}{s:Shared}{x:V}{v:Value}(rx:RelV x v) (fx:bS x=true): ∀ {xs:List V}{us:List Value},Vals xs us->xs.all bS=true-> ∀u∈us,SeqAt.EqAt A s u v (OS x u)
 | _,_,.nil,_=>fun u hu=>by cases hu
 | y::xs,u::us,.cons r t,f=>fun u' hu=>by
  rw[List.all_cons,Lb] at f
  rcases Kz.mp hu with rfl | hu
  .rw[Ck r f.1]; exact xk r rx f.1 fx
  .exact mO rx fx t f.2 u' hu
def Ox (x:V) (xs:List V):Bool:=xs.any fun y=>OZ y x
inductive Jl (K:N7) (neg:Bool) (x y:V) (H:Hp) (Q:VK):Prop | mk (p xs:_) (e0:y= .ref p) (e1:(N5 K H p xs\/N9 K H p xs)) (e2:bS x=true) (e3:xs.all bS=true) (q:Q (.bl (if neg then !Ox x xs else Ox x xs)) H)
def PF (K:N7) (neg:Bool):R2:=fun x y H Q=>Jl K neg x y H Q
theorem Ca:Ol X (compareOp .In) (PF X.K false):=by
 intro N3 s σ H x y v u Q I rx ry h
 obtain⟨p,xs,rfl,hq,fx,fs,q⟩:=h
 cases ry
 rcases hq with hq | hq
 .obtain⟨its,r,pl,hz⟩:=I.list hq
  refine SeqAt.in_listAt (OS x) pl.isList (fun w hw=>mO rx fx r fs w (by simpa using hw)) ⟨.bl _,H,I,rfl,?_⟩
  rw[show its.toArray.any (OS x)=its.any (OS x) by simp,o6 r fs]
  exact q
 .obtain⟨its,r,pl,hz⟩:=I.tuple hq
  refine SeqAt.in_tupleAt (OS x) pl (fun w hw=>mO rx fx r fs w (by simpa using hw)) ⟨.bl _,H,I,rfl,?_⟩
  rw[show its.toArray.any (OS x)=its.any (OS x) by simp,o6 r fs]
  exact q
theorem xa:Ol X (compareOp .NotIn) (PF X.K true):=by
 intro N3 s σ H x y v u Q I rx ry h
 obtain⟨p,xs,rfl,hq,fx,fs,q⟩:=h
 cases ry
 rcases hq with hq | hq
 .obtain⟨its,r,pl,hz⟩:=I.list hq
  refine SeqAt.notIn_listAt (OS x) pl.isList (fun w hw=>mO rx fx r fs w (by simpa using hw)) ⟨.bl _,H,I,rfl,?_⟩
  rw[show its.toArray.any (OS x)=its.any (OS x) by simp,o6 r fs]
  exact q
 .obtain⟨its,r,pl,hz⟩:=I.tuple hq
  refine SeqAt.notIn_tupleAt (OS x) pl (fun w hw=>mO rx fx r fs w (by simpa using hw)) ⟨.bl _,H,I,rfl,?_⟩
  rw[show its.toArray.any (OS x)=its.any (OS x) by simp,o6 r fs]
  exact q
theorem xV:cX X (.type "list") (fun xs H Q=> ∃p ys,xs=[.ref p]/\(N5 X.K H p ys\/N9 X.K H p ys)/\ ∀l,H l=none->Q (.ref l) (upd H l (.lst ys))):=by
 intro N3 s σ H xs us Q I r h
 obtain⟨p,ys,rfl,hq,q⟩:=h
 obtain⟨u,rfl,rx⟩:=vals1 r
 cases rx
 have fin: ∀(its:List Value),Vals ys its->ys.length<=sizeLine-> ∀(h':Heap) (c':Nat),(∀b o',s.heap.get? b=some o'->h'.get? b=some o') ->
   h'.get? s.heap.objs.size=some { cls:= .type "list",dict:=none,data:= .seq its.toArray c',slots:= #[] }->EP X N3 σ Q (.ref s.heap.objs.size) { s with heap:=h' }:=fun its r' hz h' c' kp e =>
  ⟨.ref s.heap.objs.size,_,I.laid (t':=s.toks) kp (Ku _) (show cZ X.prog X.w _ h' _ (.lst ys) from ⟨hz,its,c',r',e⟩),rfl,q _ (I.hok.fresh (Ku _))⟩
 rcases hq with hq | hq
 .obtain⟨its,r',pl,hz⟩:=I.list hq
  have hlen:=r'.length
  obtain⟨o,ho,hc,n,hd⟩:=pl.isList
  exact call_list_seq p (.inl rfl) ho hc hd (fun h' c' kp e=>fin its r' hz h' c' kp e) (by simp only[KL] <;> omega)
 .obtain⟨its,r',pl,hz⟩:=I.tuple hq
  have hlen:=r'.length
  obtain⟨o,ho,hc,n,hd⟩:=pl
  exact call_list_seq p (.inr rfl) ho hc hd (fun h' c' kp e=>fin its r' hz h' c' kp e) (by simp only[KL] <;> omega)
def PZ (K:N7) (T:String) (x:V) (H:Hp):Prop:=match x with
 | .str _=>T= "str"
 | .int _=>T= "int"
 | .ref p=>(T= "list" /\ ∃xs,N5 K H p xs)\/(T= "tuple" /\ ∃o,K.lookup p=some o/\o.cls= .type "tuple" /\ o.dict=none) \/
   (T= "dict" /\ ((∃kvs,H p=some (.dK kvs))\/ ∃kvs,H p=some (.dT kvs)))\/(T= "set" /\ ∃S n,H p=some (.set S n))
 | _=>False
theorem BJ {N3:List (Addr×Obj)}{σ:St}{H:Hp}{s:Shared}{T:String}{x:V}{v:Value}(I:Inv X N3 σ H s) (r:RelV x v) (ty:PZ X.K T x H) :
  s.TypeIs v T/\ ∀a,v= .ref a-> ∃ob,s.heap.get? a=some ob/\ob.dict=none:=by
 cases x with
 | str z =>
  obtain⟨t,rfl⟩:=r
  cases (show T= "str" from ty)
  exact⟨typeIs_str s z t,fun _ e=>nomatch e⟩
 | int i =>
  obtain⟨t,rfl⟩:=r
  cases (show T= "int" from ty)
  exact⟨typeIs_int s i t,fun _ e=>nomatch e⟩
 | ref p =>
  cases r
  rcases ty with⟨rfl,xs,hq⟩ | ⟨rfl,o,hk,hc,hd⟩ | ⟨rfl,hk⟩ | ⟨rfl,S,n,hk⟩
  .obtain⟨its,_,pl,_⟩:=I.list hq
   refine⟨pl.isList.typeIs,fun a e=>?_⟩
   cases e
   obtain⟨o,n,e,c,hd,_⟩:=pl
   exact⟨o,e,hd⟩
  .refine⟨⟨o,I.OJ p o hk,hc⟩,fun a e=>?_⟩
   cases e
   exact⟨o,I.OJ _ o hk,hd⟩
  .have z: ∃o,s.heap.get? p=some o/\o.ExactDict:=by
    rcases hk with⟨kvs,hk⟩ | ⟨kvs,hk⟩
    .obtain⟨_,_,_,_,o,_,_,e,ex,_⟩:=I.hok p _ hk
     exact⟨o,e,ex⟩
    .obtain⟨_,_,_,_,o,_,_,e,ex,_⟩:=I.hok p _ hk
     exact⟨o,e,ex⟩
   obtain⟨o,e,ex⟩:=z
   refine⟨⟨o,e,ex.1⟩,fun a e2=>?_⟩
   cases e2
   exact⟨o,e,ex.2.1⟩
  .obtain⟨o,_,_,_,e,ex,_⟩:=I.hok p _ hk
   refine⟨⟨o,e,ex.1⟩,fun a e2=>?_⟩
   cases e2
   exact⟨o,e,ex.2.1⟩
 | _=>exact False.elim ty
def C4 (K:N7) (T:String) (r:V->List V->Hp->VK->Prop) (to:TE):TE:=fun σ H Q=>to σ H fun x H1=>PZ K T x H1/\r x [] H1 Q
def O3 (K:N7) (T:String) (r:V->List V->Hp->VK->Prop) (to:TE) (t:TA):TE:=fun σ H Q=>to σ H fun x H1=>PZ K T x H1/\t σ H1 fun xs H2=>r x xs H2 Q
variable {o e:Expr}{es:List Expr}{to:TE}{t:TA}{name:Str}{apos cpos:Pos}{T id:String}{r:V->List V->Hp->VK->Prop}
theorem Bw (pa:PlainAttrs T) (slot:Slot T name id) (hty:typeOf (.builtin id)=pure (.type "method_descriptor")) (hm:PQ X id r) (ho:PE X o to)
  (hbase:attributeBase o name X.env (eval o X.env)=eval o X.env:=by rfl) (hline:(apos.endLine == cpos.line)=true:=by rfl):PE X (.Call (.Attribute o name apos) [] [] cpos) (C4 X.K T r to):=by
 intro N3 s σ H Q I h
 refine wpAny_Call_method0_late hbase hline (Oc (ho N3 s σ H _ I h) fun v s1 ⟨x,H1,I1,r1,ty,q1⟩=>?_)
 obtain⟨h1,h2⟩:=BJ I1 r1 ty
 exact⟨T,id,pa,slot,hty,h1,h2,ML rfl (PySem.evalArgs_none (hm N3 s1 σ H1 x [] v [] Q I1 r1 .nil q1))⟩
theorem jP (pa:PlainAttrs T) (slot:Slot T name id) (hty:typeOf (.builtin id)=pure (.type "method_descriptor")) (hm:PQ X id r) (ho:PE X o to) (ha:PA X (e::es) t)
  (hbase:attributeBase o name X.env (eval o X.env)=eval o X.env:=by rfl)
  (hfew:((backTo cpos (starEach (e::es) X.env)).all (fun x=> !x.1) && (backToKw cpos (keywordEach [] X.env)).all (fun x=>x.1.isSome)
   && decide ((e::es).length+([]:List Keyword).length+(if ([]:List Keyword).isEmpty then 0 else 1) < 30))=true:=by rfl)
  (hline:(apos.endLine == cpos.line)=true:=by rfl) (hs:starEach (e::es) X.env=(false,eval e X.env)::starEach es X.env:=by rfl) (hplain:(backTo cpos (starEach es X.env)).any (·.1)=false:=by rfl) :
  PE X (.Call (.Attribute o name apos) (e::es) [] cpos) (O3 X.K T r to t):=by
 intro N3 s σ H Q I h
 refine wpAny_Call_method_late hbase hfew hline rfl (Oc (ho N3 s σ H _ I h) fun v s1 ⟨x,H1,I1,r1,ty,q1⟩=>?_)
 obtain⟨h1,h2⟩:=BJ I1 r1 ty
 refine⟨T,id,pa,slot,hty,h1,h2,?_⟩
 have hA:=ha cpos N3 s1 σ H1 _ I1 q1
 rw[hs] at hA ⊢
 refine ML (by show (false || (backTo cpos (starEach es X.env)).any (·.1))=false; rw[hplain] <;> rfl) (MT ?_)
 exact Oc hA fun us s2 ⟨vs,H2,I2,r2,q2⟩=>hm N3 s2 σ H2 x vs v us Q I2 r1 r2 q2
end
def Pk (X:Cx) (id:String) (r:V->List V->Hp->VK->Prop):Prop :=
 ∀(N3:List (Addr×Obj)) (s:Shared) (σ:St) (H:Hp) (x:V) (xs:List V) (v:Value) (us:List Value) (Q:VK),Inv X N3 σ H s->RelV x v->Vals xs us->r x xs H Q ->
  wpAny (model X.prog X.w) X.A (call (.builtin id) (v::us)) (EP X N3 σ Q) X.xe s
theorem Vals.one: ∀ {x:V}{us:List Value},Vals [x] us-> ∃u,us=[u]/\RelV x u
 | _,_,.cons r .nil=>⟨_,rfl,r⟩
theorem Vals.zero: ∀ {us:List Value},Vals [] us->us=[]
 | _,.nil=>rfl
theorem Vals.dropLast {xs:List V}{us:List Value}(h:Vals xs us):Vals xs.dropLast us.dropLast:=by
 induction h with
 | nil=>exact .nil
 | cons r t ih =>
  cases t with
  | nil=>exact .nil
  | cons q t'=>exact .cons r ih
theorem Vals.eraseIdx: ∀ {xs:List V}{us:List Value}(i:Nat),Vals xs us->Vals (xs.eraseIdx i) (us.eraseIdx i)
 | _,_,_,.nil=> .nil
 | _,_,0,.cons _ t=>t
 | _,_,i+1,.cons r t=> .cons r (Vals.eraseIdx i t)
theorem Vals.rep {xs:List V}{us:List Value}(h:Vals xs us): ∀k:Nat,Vals (List.replicate k xs).flatten (List.replicate k us).flatten
 | 0=> .nil
 | k+1=>by
  rw[Lz,Lz,LP,LP]
  exact Vals.append h (Vals.rep h k)
theorem zQ {α:Type}(l:List α):l.eraseIdx (l.length - 1)=l.dropLast:=by
 induction l with
 | nil=>rfl
 | cons a r ih =>
  cases r with
  | nil=>rfl
  | cons b r =>
   have e:(a::b::r).length - 1=((b::r).length - 1)+1:=by
    have h1:(a::b::r).length=r.length+2:=rfl
    have h2:(b::r).length=r.length+1:=rfl
    omega
   rw[e,List.eraseIdx_cons_succ,ih]
   all_goals rfl
theorem vI {α:Type}: ∀(l:List α) (i:Nat),(l.eraseIdx i).length<=l.length
 | [],_=>Ku _
 | _::_,0=>MJ _
 | _::r,i+1=>Nat.succ_le_succ (vI r i)
theorem foldl_rep (its:List Value): ∀(k:Nat) (acc:List Value),
  List.foldl (fun x1 x2=>x1++x2) acc.toArray (List.replicate k its.toArray)=(acc++(List.replicate k its).flatten).toArray
 | 0,acc=>by simp
 | k+1,acc=>by
  have e:acc.toArray++its.toArray=(acc++its).toArray:=by simp
  have e2:(acc++its)++(List.replicate k its).flatten=acc++(List.replicate (k+1) its).flatten:=by
   rw[Lz,LP,L6]
  rw[<-e2,<-foldl_rep its k (acc++its),<-e,Lz,List.foldl_cons]
section
variable {X:Cx}{N3:List (Addr×Obj)}{σ:St}{H:Hp}{s:Shared}{l b:Addr}{xs ys zs:List V}
theorem Inv.xS {its its':List Value}{n:Nat}{f:Array Value->Array Value}{t':Nat}(I:Inv X N3 σ H s) (hH:H l=some (.lst xs))
  (e:s.heap.get? l=some { cls:= .type "list",data:= .seq its.toArray n }) (hf:f its.toArray=its'.toArray) (hv:Vals ys its') (hz:ys.length<=sizeLine) :
  Inv X N3 σ (upd H l (.lst ys)) { s with heap:=s.heap.update l (Obj.mapSeq f),toks:=t' }:=by
 have q:=PySem.IsL.update e f
 rw[hf] at q
 refine I.write (x:=l) (e:=l) (by rw[hH]; exact trivial) (.inl rfl) (fun b' u hb hu=>(Lr s.heap (Obj.mapSeq f) (K2 hb)).trans hu) ⟨_,q⟩ ?_
 exact⟨hz,its',_,hv,q⟩
theorem Inv.HK {its:List Value}{t':Nat}(I:Inv X N3 σ H s) (hv:Vals ys its) (hz:ys.length<=sizeLine) :
  Inv X N3 σ (upd H s.heap.objs.size (.lst ys)) { s with heap:=s.heap.push { cls:= .type "list",data:= .seq its.toArray },toks:=t' } :=
 I.laid (fun _ _ q=>Kx _ q) (Ku _) ⟨hz,its,0,hv,K9 _ rfl⟩
theorem Inv.fresh (I:Inv X N3 σ H s):H s.heap.objs.size=none:=I.hok.fresh (Ku _)
theorem Inv.m7 (I:Inv X N3 σ H s) (hH:H l=some (.lst xs)):xs.length<=sizeLine/\ ∃(its:List Value) (n:Nat),Vals xs its/\xs.length=its.length/\s.heap.get? l=some { cls:= .type "list",data:= .seq its.toArray n }:=by
 obtain⟨z,its,n,r,e⟩:=I.hok l _ hH
 exact⟨z,its,n,r,r.length,e⟩
theorem xG {n:Nat}(h:n<=sizeLine):Builtin.List.listTooLong n=false:=by
 unfold Builtin.List.listTooLong
 exact KU (by omega)
end
section
variable {X:Cx}
inductive Df (x:V) (vs:List V) (H:Hp) (Q:VK):Prop | mk (l xs y:_) (e0:x= .ref l) (e1:vs=[y]) (e2:H l=some (.lst xs)) (e3:xs.length < sizeLine) (q:Q .non (upd H l (.lst (xs++[y]))))
def zm:V->List V->Hp->VK->Prop:=fun x vs H Q=>Df x vs H Q
theorem BS:Pk X "list.append" zm:=by
 intro N3 s σ H x vs v us Q I rx rv h
 obtain⟨l,xs,y,rfl,rfl,hH,hz,q⟩:=h
 cases rx
 obtain⟨u,rfl,ru⟩:=rv.one
 obtain⟨z,its,n,r,hl,e⟩:=I.m7 hH
 refine Mw F.slot_list_append ⟨_,e,rfl⟩ F.entry_list_append (F.args_list_append_2 _ _) (PySem.list_append l its.toArray n u (by rw[KL]; omega)) ⟨e,?_⟩
 refine⟨.non,_,I.xS (its':=its++[u]) hH e (by simp) (r.append (.cons ru .nil)) ?_,rfl,q⟩
 rw[KC,M8]
 omega
inductive Dw (x:V) (vs:List V) (H:Hp) (Q:VK):Prop | mk (l b xs zs:_) (e0:x= .ref l) (e1:vs=[.ref b]) (e2:H l=some (.lst xs)) (e3:H b=some (.lst zs)) (e4:xs.length+zs.length<=sizeLine) (q:Q .non (upd H l (.lst (xs++zs))))
def FA:V->List V->Hp->VK->Prop:=fun x vs H Q=>Dw x vs H Q
theorem Jd:Pk X "list.extend" FA:=by
 intro N3 s σ H x vs v us Q I rx rv h
 obtain⟨l,b,xs,zs,rfl,rfl,hH,hB,hz,q⟩:=h
 cases rx
 obtain⟨u,rfl,ru⟩:=rv.one
 cases ru
 obtain⟨z,its,n,r,hl,e⟩:=I.m7 hH
 obtain⟨z2,its2,n2,r2,hl2,e2⟩:=I.m7 hB
 have hsz:its.toArray.size+its2.toArray.size<=sizeLine:=by rw[KL,KL]; omega
 have hlong: ¬(!its.toArray.isEmpty && Builtin.List.listTooLong (its.toArray.size+its2.toArray.size))=true:=by
  rw[xG hsz,Bool.and_false]
  exact KN
 refine Mw F.slot_list_extend ⟨_,e,rfl⟩ F.entry_list_extend (F.args_list_extend_2 _ _)
  (AutoSeq1.list_extend_list_list_0 l its.toArray n b its2.toArray n2 hlong (by rw[KL]; omega) (by omega)) ⟨e,e2,?_⟩
 refine⟨.non,_,I.xS (its':=its++its2) hH e (by simp) (r.append r2) ?_,rfl,q⟩
 rw[KC]
 omega
inductive HR (x:V) (vs:List V) (H:Hp) (Q:VK):Prop | mk (l xs y:_) (e0:x= .ref l) (e1:vs=[]) (e2:H l=some (.lst xs)) (e3:xs[xs.length - 1]?=some y) (q:Q y (upd H l (.lst xs.dropLast)))
def Jg:V->List V->Hp->VK->Prop:=fun x vs H Q=>HR x vs H Q
theorem BW:Pk X "list.pop" Jg:=by
 intro N3 s σ H x vs v us Q I rx rv h
 obtain⟨l,xs,y,rfl,rfl,hH,hy,q⟩:=h
 cases rx
 have hus:=rv.zero
 subst hus
 obtain⟨z,its,n,r,hl,e⟩:=I.m7 hH
 obtain⟨u,hu,ru⟩:=r.get hy
 have hy':its.toArray[its.toArray.size - 1]?=some u:=by
  show its.toArray[its.length - 1]?=some u
  rw[<-Array.getElem?_toList,<-hl]
  exact hu
 refine Mw F.slot_list_pop ⟨_,e,rfl⟩ F.entry_list_pop (F.args_list_pop_1 _) (MeetsSeq.list_pop_last l its.toArray n u hy' (by rw[KL]; omega)) ⟨e,?_⟩
 refine⟨y,_,I.xS (its':=its.dropLast) hH e ?_ r.dropLast ?_,ru,q⟩
 .show its.toArray.eraseIdxIfInBounds (its.toArray.size - 1)=its.dropLast.toArray
  rw[KL,Nb,zQ]
 .rw[List.length_dropLast]
  omega
inductive FG (x:V) (vs:List V) (H:Hp) (Q:VK):Prop | mk (l xs i k y:_) (e0:x= .ref l) (e1:vs=[.int i]) (e2:H l=some (.lst xs)) (e3: -(2 ^ 63)<=i) (e4:i < 2 ^ 63) (e5:seqIndex? i xs.length=some k) (e6:xs[k]?=some y) (q:Q y (upd H l (.lst (xs.eraseIdx k))))
def Hk:V->List V->Hp->VK->Prop:=fun x vs H Q=>FG x vs H Q
theorem xr:Pk X "list.pop" Hk:=by
 intro N3 s σ H x vs v us Q I rx rv h
 obtain⟨l,xs,i,k,y,rfl,rfl,hH,h1,h2,hk,hy,q⟩:=h
 cases rx
 obtain⟨u,rfl,ru⟩:=rv.one
 obtain⟨t,rfl⟩:=ru
 obtain⟨z,its,n,r,hl,e⟩:=I.m7 hH
 obtain⟨w,hw,rw'⟩:=r.get hy
 refine Mw F.slot_list_pop ⟨_,e,rfl⟩ F.entry_list_pop (F.args_list_pop_2 _ _)
  (MeetsSeq.list_pop_at l its.toArray n i t k w (fitsIndex_both h1 h2) (by rw[KL,<-hl]; exact hk) (by rw[<-Array.getElem?_toList]; exact hw) (by rw[KL]; omega)) ⟨e,?_⟩
 refine⟨y,_,I.xS (its':=its.eraseIdx k) hH e ?_ (r.eraseIdx k) ?_,rw',q⟩
 .show its.toArray.eraseIdxIfInBounds k=(its.eraseIdx k).toArray
  rw[Nb]
 .have:=vI xs k
  omega
inductive Je (x:V) (vs:List V) (H:Hp) (Q:VK):Prop | mk (l xs:_) (e0:x= .ref l) (e1:vs=[]) (e2:H l=some (.lst xs)) (q:Q .non (upd H l (.lst xs.reverse)))
inductive JT (x:V) (vs:List V) (H:Hp) (Q:VK):Prop | mk (l xs:_) (e0:x= .ref l) (e1:vs=[]) (e2:H l=some (.lst xs)) (q:Q .non (upd H l (.lst [])))
inductive IV (x y:V) (H:Hp) (Q:VK):Prop | mk (l b xs zs:_) (e0:x= .ref l) (e1:y= .ref b) (e2:H l=some (.lst xs)) (e3:H b=some (.lst zs)) (e4:xs.length+zs.length<=sizeLine) (q: ∀p,H p=none->Q (.ref p) (upd H p (.lst (xs++zs))))
def Jk:R2:=fun x y H Q=>IV x y H Q
theorem gh:Ol X (binaryOp .Add) Jk:=by
 intro N3 s σ H x y v u Q I rx ry h
 obtain⟨l,b,xs,zs,rfl,rfl,hH,hB,hz,q⟩:=h
 cases rx
 cases ry
 obtain⟨z,its,n,r,hl,e⟩:=I.m7 hH
 obtain⟨z2,its2,n2,r2,hl2,e2⟩:=I.m7 hB
 refine PySem.P.add_list e e2 ?_ (by rw[KL,KL]; omega)
 have ea:its.toArray++its2.toArray=(its++its2).toArray:=by simp
 rw[ea]
 exact⟨.ref _,_,I.HK (t':=s.toks) (r.append r2) (by rw[KC]; omega),rfl,q _ I.fresh⟩
inductive Ic (x y:V) (H:Hp) (Q:VK):Prop | mk (l k xs:_) (e0:x= .ref l) (e1:y= .int k) (e2:H l=some (.lst xs)) (e3: -(2 ^ 63)<=k) (e4:k < 2 ^ 63) (e5:xs.length*k.toNat<=sizeLine) (q: ∀p,H p=none->Q (.ref p) (upd H p (.lst (List.replicate k.toNat xs).flatten)))
def JE:R2:=fun x y H Q=>Ic x y H Q
theorem len_rep {α:Type}(xs:List α) (k:Nat):(List.replicate k xs).flatten.length=k*xs.length:=by
 induction k with
 | zero=>simp
 | succ k ih=>rw[Lz,LP,KC,ih,Nat.succ_mul,Nat.add_comm]
theorem rC:Ol X (binaryOp .Mult) JE:=by
 intro N3 s σ H x y v u Q I rx ry h
 obtain⟨l,k,xs,rfl,rfl,hH,h1,h2,hz,q⟩:=h
 cases rx
 obtain⟨t,rfl⟩:=ry
 obtain⟨z,its,n,r,hl,e⟩:=I.m7 hH
 have hlen:its.toArray.size*k.toNat<=sizeLine:=by rw[KL,<-hl]; exact hz
 have hcap: ¬its.toArray.size*k.toNat > (2 ^ 63 - 1) / 8:=by
  have:(sizeLine:Nat)<=(2 ^ 63 - 1) / 8:=by decide
  omega
 have hfit: ¬(!Builtin.List.listFitsIndex k)=true:=by
  rw[fitsIndex_both h1 h2]
  exact KN
 have hlong: ¬Builtin.List.listTooLong (its.toArray.size*k.toNat)=true:=by
  rw[xG hlen]
  exact KN
 have hnew:List.foldl (fun x1 x2=>x1++x2) #[] (List.replicate (if its.toArray.isEmpty=true then 0 else k.toNat) its.toArray)=(List.replicate k.toNat its).flatten.toArray:=by
  have f0: ∀m:Nat,List.foldl (fun x1 x2=>x1++x2) #[] (List.replicate m its.toArray)=(List.replicate m its).flatten.toArray:=fun m=>by
   have:=foldl_rep its m []
   rw[List.nil_append] at this
   exact this
  rw[f0]
  cases its with
  | nil=>simp
  | cons a r'=>rw[Kp (by simp)]
 refine wpAny_binaryOp_repeat_ref (T:= "list") (U:= "int") (by decide) ⟨_,e,rfl⟩ (fun s'=>typeIs_int s' k t) noFill_list_mul F.fills_int_mul F.slot_int_rmul repeat_list F.slot_int_index.lookup
  (Mw F.slot_int_rmul (typeIs_int s k t) F.entry_int_rmul (F.args_int_rmul_2 _ _) (int___rmul___int_list k t l its.toArray n)
   ⟨e,rfl,⟨_,e,rfl⟩,Mw F.slot_list_mul ⟨_,e,rfl⟩ F.entry_list_mul (F.args_list_mul_2 _ _) (AutoListH.list___mul___list_int_3 l its.toArray n k t hfit hcap hlong) ⟨e,?_⟩⟩)
 rw[hnew]
 exact⟨.ref _,_,I.HK (t':=s.toks) (r.rep k.toNat) (by rw[len_rep,Nat.mul_comm]; exact hz),rfl,q _ I.fresh⟩
end
section
variable {prog:Program}{w:World}{A:Around}{E:Value->Shared->Prop}{s:Shared}
end
section
variable {X:Cx}
end
end L2
namespace Att
open PySem PySem.W PySem.Calls PyProof.Rows
theorem uS {P:Params}{h:Heap}: ∀(ns:List Int) (vs:List Value),WellAll P h vs (ns.map WData.int)->IntsAre vs ns:=by
 intro ns
 induction ns with
 | nil =>
  intro vs w
  rw[Ng] at w
  cases w
  exact .nil
 | cons n ns ih =>
  intro vs w
  rw[Ld] at w
  cases w with
  | cons a b =>
   cases a
   exact .cons _ _ (ih _ b)
theorem BF {l:OpenLaw}{n:Nat}(hn:l.most=some n){P:Params}{h:Heap}{args:List WData}{vals:List Value}
  (hpre:l.row.toRowW.claim.pre args=true) (hwl:WellAll P h vals args) :
  ∃a vs ns,vals=[Value.ref a]/\args=[WData.list (ns.map WData.int)]/\h.get? a=some { cls:= .type "list",data:= .seq vs.toArray }/\IntsAre vs ns/\ns.length<=n:=by
 have hsh:WShape.hasAll [] args [.list .int]=true:=(pre_splitW hpre).1
 have hc:l.pre.holds [] { args:=args }=true:=(pre_splitW hpre).2
 obtain⟨d,r,rfl,h1,h2⟩:=hasAllW_cons hsh
 obtain rfl:=hasAllW_nil h2
 obtain⟨xs,rfl,h3⟩:=hasW_list h1
 obtain⟨ns,rfl⟩:=items_int h3
 have hlen:ns.length<=n:=by
  unfold OpenLaw.pre at hc
  have h4:(WTm.not (.lt (.lit (.int (n:Int))) (.len (.arg 0)))).holds [] { args:=[.list (ns.map .int)] }=true:=by
   have h4:=(holds_andW hc).1
   rw[hn] at h4
   exact h4
  have h5:=condW_of h4 (w_not (w_lt w_lit (w_len_list (w_arg rfl))))
  rw[Kq] at h5
  refine NQ fun q=>?_
  have q':(n:Int) < ((ns.length:Nat):Int):=by omega
  first
   | (rw[KQ q'] at h5; exact absurd h5 (by decide))
   | (simp at h5; omega)
 cases hwl with
 | cons w1 w2 =>
  cases w2
  cases w1 with
  | list ho hall=>exact⟨_,_,ns,rfl,rfl,ho,uS ns _ hall,hlen⟩
theorem Cg (l:OpenLaw) (args:List WData):l.row.toRowW.claim.post args (.bool true) args=true :=
 postW_of (r:=l.row.toRowW) (X:=(true == true))
  (show WShape.has [] (.bool true) .bool=true by first | rfl | decide | simp[WShape.has,WShape.arms,WShape.armsAll])
  (show (WTm.eq .res (.lit (.bool true))).value [] { args:=args,res:=some (.bool true),after:=args }=some (.bool (true == true)) from w_eq_bool (w_res rfl) w_lit) rfl
theorem yy {l:OpenLaw}{n:Nat}{q:Program}{loose:List Str}{XP:(Str->Option Value)->Heap->Prop}{YP:World->Heap->Prop}{d:DefRec}
  (hn:l.most=some n) (hdf:d.params.defaults=[])
  (call: ∀(w:World) (s₀ s₁:Shared) (mg mb:Str->Option Value) (fa:Addr) (o:Obj) (pm cd doc:Value) (a:Addr) (vs:List Value) (ns:List Int),
   Ground q loose [] XP w s₀ mg mb s₁.heap->YP w s₁.heap ->
   s₁.heap.get? fa=some o->o.data= .func (docDef d.name d.params d.body d.scope pm cd doc)->s₁.heap.CodeRec cd d.name->mg d.name=some (.ref fa) ->
   s₁.heap.get? a=some { cls:= .type "list",data:= .seq vs.toArray }->IntsAre vs ns->ns.length<=n->s₁.gens= #[] ->
   codeAny (model l.prog w) callerA (.call (.ref fa) ⟨[.ref a],[]⟩) (fun r s'=>r= .ok (.ret (.bool true))/\OldK s₁.heap s'.heap/\s'.os=s₁.os/\AllBare s'.gens) s₁) :
  WalkO q loose XP YP l.row.toRowW d [] (fun f vs=>PySem.call f vs):=by
 intro w s₀ s₁ mg mb G Y fa o pm cd doc dV kV ho hd hcd hD hmg hg args vals as hpre hlay hrd hwl hlo
 obtain rfl:dV= .none:=Dflts.none hD hdf
 obtain rfl:kV= .none:=Dflts.noKw hD
 obtain⟨a,vs,ns,rfl,rfl,hobj,hints,hlen⟩:=BF hn hpre hwl
 refine enter_call (MS (call w s₀ s₁ mg mb fa o pm cd doc a vs ns G Y ho (fd_plain hd) hcd hmg hobj hints hlen hg) fun r s' hq=>?_)
 obtain⟨rfl,h2,h3,h4⟩:=hq
 exact⟨.inl ⟨.bool true,.bool true,[],rfl,fun _=>rfl,.bool true,Cg l _,fun _=>⟨List.Pairwise.nil,fun _ hm=>(nomatch hm)⟩⟩,h2,h3,h4⟩
section
variable {prog:Program}{w:World}{A:Around}{E:Value->Shared->Prop}{s:Shared}{K:Frag}
def ledger (h:Heap) (L d:Addr):List (Addr×Obj):=(List.range h.objs.size).filterMap fun a=>if a=L\/a=d then none else (h.get? a).map fun o=>(a,o)
end
end Att
namespace L2
open PySem PySem.Spec PyProof.Rows
theorem vN: ∀ {vs:List Value}{ns:List Int},IntsAre vs ns->Vals (ns.map V.int) vs
 | _,_,.nil=> .nil
 | _,_,.cons n t h=> .cons ⟨t,rfl⟩ (vN h)
def z7 (H:Hp):Prop:= ∀b,H b=none\/ ∃o xs,H b=some (.frz o (.lst xs))
theorem C6 {P:Program}{w:World}{K:N7}{mg mb:Str->Option Value}{CX:OM}{k:Nat}{fa a:Addr}{fd:FuncData}{x:Str}{sp:Sp}{s₁:Shared}{vs:List Value}{ns:List Int}
  (KX:K.In s₁.heap) (hns:s₁.heap.Ns mainGlobals mg) (hb:s₁.heap.Ns builtinsNs mb) (hbb: ∀x:Str,x≠ "__name__" -> mb x=bootBuiltins x) (hlim:s₁.heap.NoLimit) (hg:s₁.gens= #[])
  (ha:s₁.heap.get? a=some { cls:= .type "list",data:= .seq vs.toArray }) (hi:IntsAre vs ns) (hl:ns.length<=sizeLine) (hr:bC k callerA)
  (F: ∀base:Heap,K.In base->base.Ns mainGlobals mg->dW P w K mg base CX k fa fd [x] sp) (hbind: ∀(s:Shared) (u:Value),BindsTo s fd ⟨[u],[]⟩ [(x,u)])
  (hsp: ∀H:Hp,z7 H->N5 K H a (ns.map V.int)->sp [.ref a] H (fun v _=>v= .bl true) fun _ _ _=>False)
  (hCX: ∀H e s',CX [] H s₁ (fun _ _ _=>False) e s'->False) :
  codeAny (model P w) callerA (.call (.ref fa) ⟨[.ref a],[]⟩) (fun r s'=>r= .ok (.ret (.bool true))/\OldK s₁.heap s'.heap/\s'.os=s₁.os/\AllBare s'.gens) s₁:=by
 have rv:=vN hi
 have lenV:=hi.length
 have core: ∀H:Hp,z7 H->N5 K H a (ns.map V.int)->Oq P w H s₁.heap->(∀b,H b≠none->b=a)->(H a≠none->K.lookup a=none) ->
   codeAny (model P w) callerA (.call (.ref fa) ⟨[.ref a],[]⟩) (fun r s'=>r= .ok (.ret (.bool true))/\OldK s₁.heap s'.heap/\s'.os=s₁.os/\AllBare s'.gens) s₁:=by
  intro H hO hS hok hA hK
  have base_of: ∀ {b:Addr}{o:Obj},s₁.heap.get? b=some o->H b=none->(pK s₁.heap H).get? b=some o:=fun e n=>CJ e n
  have noA: ∀ {b:Addr}{o:Obj}{es:Array DictEntry}{ep:Nat},s₁.heap.get? b=some o->o.data= .dict es ep->H b=none:=fun {b o es ep} e d=>by
   cases q:H b with
   | none=>rfl
   | some u =>
    have e':b=a:=hA b (by rw[q]; simp)
    subst e'
    rw[ha] at e; cases e
    have d':Data.seq vs.toArray _=Data.dict es ep:=d
    cases d'
  have nsK: ∀ {b:Addr}{m:Str->Option Value},s₁.heap.Ns b m->(pK s₁.heap H).Ns b m:=fun {b m} ⟨o,es,ep,e,d,r⟩=>⟨o,es,ep,base_of e (noA e d),d,r⟩
  have hKb:K.In (pK s₁.heap H):=fun b o e=>base_of (KX b o e) (by
   cases q:H b with
   | none=>rfl
   | some u =>
    have e':b=a:=hA b (by rw[q]; simp)
    subst e'
    rw[hK (by rw[q]; simp)] at e; cases e)
  have hM:Mod K mg (pK s₁.heap H):=⟨hKb,nsK hns,⟨mb,nsK hb,hbb⟩,let ⟨mc,h1,h2⟩:=hlim; ⟨mc,nsK h1,h2⟩⟩
  have e0:tO P w K mg (pK s₁.heap H) callerA [] s₁ H:=⟨rfl,hM,fun b o e=>Eu e,NO (Be _ _),trivial,fun b hb=>absurd (show b∈([]:List Addr) from hb) (by simp),hok,.of_eq hg⟩
  refine MS ((F _ hKb (nsK hns)).run callerA [] s₁ H ⟨[.ref a],[]⟩ [.ref a] [.ref a] _ _ hr e0 (hbind s₁ (.ref a)) (.cons rfl .nil) (hsp H hO hS)) fun r s' h=>?_
  cases r with
  | error e=>exact (hCX H e s' h).elim
  | ok fl =>
   cases fl with
   | next=>exact False.elim h
   | brk=>exact False.elim h
   | cont=>exact False.elim h
   | ret u =>
    obtain⟨v,H',os,bare,un,hok',r',q⟩:=h
    have q':v= .bl true:=q
    subst q'
    obtain rfl:u=Value.bool true:=r'
    refine⟨rfl,OldK.of_keep fun b o e=>?_,os,bare⟩
    cases q:H b with
    | none=>exact un.keep b o e q (by intro z; exact absurd (show b∈([]:List Addr) from z) (by simp)) (by simp)
    | some u =>
     rcases hO b with z | ⟨ob,xs,z⟩
     .rw[q] at z; cases z
     .have z2:=un.frzs b ob _ z
      obtain⟨e1,_⟩:=hok b _ z
      obtain⟨e2,_⟩:=hok' b _ z2
      rw[e] at e1; cases e1
      exact e2
 cases hk:K.lookup a with
 | some o =>
  have e:=KX a o hk
  rw[ha] at e
  cases e
  refine core (fun _=>none) (fun _=> .inl rfl) (.inr ⟨_,vs.toArray,_,hk,rfl,rfl,rfl,by rw[KL,lenV]; exact hl,by simpa using rv⟩) (fun b u z=>by have z':(none:Option HO)=some u:=z; cases z') (fun b z=>absurd rfl z) fun z=>absurd rfl z
 | none =>
  refine core (fun b=>if b=a then some (.frz { cls:= .type "list",data:= .seq vs.toArray } (.lst (ns.map V.int))) else none) (fun b=>?_) (.inl (.inr ⟨{ cls:= .type "list",data:= .seq vs.toArray },Ks rfl⟩)) (fun b u z=>?_) (fun b z=>?_) fun _=>hk
  .by_cases hb:b=a
   .exact .inr ⟨_,_,Ks hb⟩
   .exact .inl (Kp hb)
  .by_cases hb:b=a
   .have z':=(Ks hb).symm.trans z
    cases z'
    subst hb
    exact⟨ha,by rw[Kq]; exact hl,vs,_,rv,ha⟩
   .have z':=(Kp hb).symm.trans z
    cases z'
  .by_cases hb:b=a
   .exact hb
   .exact absurd (Kp hb) z
abbrev P8 {K:N7}{h:Heap} (_:K.In h):N7:=K
theorem FF {l:PySem.W.OpenLaw}{n k:Nat}{q:Program}{loose:List Str}{XP:(Str->Option Value)->Heap->Prop}{YP:World->Heap->Prop}{d:DefRec}{K:Params->N7}{CX:World->OM}{sp:World->Sp}{x:Str}
  (hn:l.most=some n) (hn2:n<=sizeLine) (hdf:d.params.defaults=[]) (hr:bC k callerA)
  (hY: ∀(w:World) (h:Heap),YP w h->(K w.params).In h)
  (F: ∀(w:World) (mg:Str->Option Value) (fa:Addr) (h:Heap),(K w.params).In h->h.Ns mainGlobals mg->mg d.name=some (.ref fa) ->
   ∃fd:FuncData,(∀(s:Shared) (u:Value),BindsTo s fd ⟨[u],[]⟩ [(x,u)]) /\
    ∀base:Heap,(K w.params).In base->base.Ns mainGlobals mg->dW l.prog w (K w.params) mg base (CX w) k fa fd [x] (sp w))
  (hsp: ∀(w:World) (H:Hp) (a:Addr) (ns:List Int),ns.length<=n->z7 H->N5 (K w.params) H a (ns.map V.int)->sp w [.ref a] H (fun v _=>v= .bl true) fun _ _ _=>False)
  (hCX: ∀(w:World) (H:Hp) (s:Shared) (e:Value) (s':Shared),CX w [] H s (fun _ _ _=>False) e s'->False) :
  PySem.W.WalkO q loose XP YP l.row.toRowW d [] (fun f vs=>PySem.call f vs):=by
 refine Att.yy hn hdf fun w s₀ s₁ mg mb fa o pm cd doc a vs ns G Y ho hd hcd hmg hobj hints hlen hg=>?_
 have KX:=hY w _ Y
 obtain⟨fd,hb,hF⟩:=F w mg fa _ KX G.T.g hmg
 exact C6 KX G.T.g G.T.b G.T.builtins G.T.nolimit hg hobj hints (KR hlen hn2) hr hF hb (fun H hO hS=>hsp w H a ns hlen hO hS) fun H e s'=>hCX w H s₁ e s'
theorem CO {l:PySem.W.OpenLaw}{n k:Nat}{q:Program}{loose:List Str}{XP:(Str->Option Value)->Heap->Prop}{YP:World->Heap->Prop}{d:DefRec}{K:Params->N7}{CX:OM}{sp:N7->Sp}{x:Str}
  (hn:l.most=some n) (hn2:n<=sizeLine) (hdf:d.params.defaults=[]) (hr:bC k callerA)
  (hY: ∀(w:World) (h:Heap),YP w h->(K w.params).In h)
  (F: ∀(w:World) (mg:Str->Option Value) (fa:Addr) (h:Heap),(K w.params).In h->h.Ns mainGlobals mg->mg d.name=some (.ref fa) ->
   ∃fd:FuncData,(∀(s:Shared) (u:Value),BindsTo s fd ⟨[u],[]⟩ [(x,u)]) /\
    ∀base:Heap,(K w.params).In base->base.Ns mainGlobals mg->dW l.prog w (K w.params) mg base CX k fa fd [x] (sp (K w.params)))
  (hsp: ∀(K:N7) (H:Hp) (a:Addr) (ns:List Int),ns.length<=n->z7 H->N5 K H a (ns.map V.int)->sp K [.ref a] H (fun v _=>v= .bl true) fun _ _ _=>False)
  (hCX: ∀(H:Hp) (s:Shared) (e:Value) (s':Shared),CX [] H s (fun _ _ _=>False) e s'->False) :
  PySem.W.WalkO q loose XP YP l.row.toRowW d [] (fun f vs=>PySem.call f vs) :=
 FF (K:=K) (CX:=fun _=>CX) (sp:=fun w=>sp (K w.params)) hn hn2 hdf hr hY F (fun w H a ns h1 h2 h3=>hsp (K w.params) H a ns h1 h2 h3) fun _ H s e s'=>hCX H s e s'
def inClass (s:Stmt) (j:Nat):Stmt:=match s with
 | .ClassDef _ _ _ body _ _ _ _ _ _ _=>body.getD j (.Pass ⟨0,0,0,0⟩)
 | _=> .Pass ⟨0,0,0,0⟩
def dG (s:Stmt):Arguments:=match s with
 | .FunctionDef _ a _ _ _ _ _ _ _ _=>a
 | _=>{ posonlyargs:=[],args:=[],vararg:=none,kwonlyargs:=[],kw_defaults:=[],kwarg:=none,defaults:=[] }
def bO (s:Stmt):List Stmt:=match s with
 | .FunctionDef _ _ b _ _ _ _ _ _ _=>b
 | _=>[]
def aj (s:Stmt):Scope:=match s with
 | .FunctionDef _ _ _ _ _ _ sc _ _ _=>sc
 | _=>{ kind:= .function,names:=[],isGenerator:=false,isCoroutine:=false }
abbrev OC:OM:=fun _ _ _ _ _ _=>False
abbrev E0:XK:=fun _ _ _=>False
theorem wD {X:Cx}:Passes OC X E0:=fun _ _ _ _ _ _ _ h=>h.elim
structure Pg (K:N7) (x qual:Str) (st:Stmt) (f:Addr) (fd:FuncData):Prop where
 ex: ∃(oc:Value) (od:Option Addr) (kV doc pm:Value) (an:Option Addr) (cdv ct:Value) (osl:Array (Option Value)),
  fd=PySem.W.fnOf x qual (dG st) (bO st) (aj st) .none kV doc pm an cdv ct/\K.lookup f=some ⟨oc,od,.func fd,osl⟩/\PySem.W.codeIn K cdv qual=true
 kp:PySem.W.keepIn K (.ref f)=true
section
variable {P:Program}{w:World}{K:N7}{mg:Str->Option Value}{base:Heap}
theorem Pg.ok {x qual:Str}{st:Stmt}{f:Addr}{fd:FuncData}{N ps:List Str}{k:Nat}{sp:Sp}(F:Pg K x qual st f fd) (S:ay N ps (aj st)) (len: ∀vs H Q E,sp vs H Q E->vs.length=ps.length)
  (hbody: ∀(cdv:Value) (A:Around) (outer:List Env) (s:Shared) (H:Hp) (vs:List V) (Q:VK) (E:XK),bC k (A.deeper (envOfC qual (aj st) s.heap.objs.size f cdv))->sp vs H Q E ->
   ∃t,Ov (gu OC P w K mg base N qual (aj st) f cdv A outer s H E).Pe (bO st) t/\t { nx:=fun _ H'=>Q .non H',rt:=Q } (start N vs) H):dW P w K mg base OC (k+1) f fd ps sp:=by
 obtain⟨oc,od,kV,doc,pm,an,cdv,ct,osl,rfl,lk,hcd⟩:=F.ex
 refine Ap lk hcd S len fun A outer s H vs Q E hr hsp=>?_
 obtain⟨t,h,q⟩:=hbody cdv A outer s H vs Q E hr hsp
 exact⟨t,h.Pe,q⟩
theorem Pg.binds {x qual:Str}{st:Stmt}{f:Addr}{fd:FuncData}{ps:List Str}(F:Pg K x qual st f fd)
  (h: ∀(kV doc pm:Value) (an:Option Addr) (cdv ct:Value) (us:List Value),us.length=ps.length->bindArgs (PySem.W.fnOf x qual (dG st) (bO st) (aj st) .none kV doc pm an cdv ct) ⟨us,[]⟩=pure (ps.zip us)):Binds K fd ps []:=by
 obtain⟨oc,od,kV,doc,pm,an,cdv,ct,osl,rfl,lk,hcd⟩:=F.ex
 exact .all (h kV doc pm an cdv ct)
theorem BM {x qual:Str}{st:Stmt}{f:Addr}{oc:Value}{od an:Option Addr}{osl:Array (Option Value)}{kV doc pm cdv ct:Value}(l:K.lookup f=some ⟨oc,od,.func (PySem.W.fnOf x qual (dG st) (bO st) (aj st) .none kV doc pm an cdv ct),osl⟩)
  (c:PySem.W.codeIn K cdv qual=true) (k:PySem.W.keepIn K (.ref f)=true):Pg K x qual st f (PySem.W.fnOf x qual (dG st) (bO st) (aj st) .none kV doc pm an cdv ct):=⟨⟨oc,od,kV,doc,pm,an,cdv,ct,osl,rfl,l,c⟩,k⟩
end
theorem cf {A:Around}{k:Nat}(hr:bC k A):A.units+1 < cLine:=LJ (Nat.add_le_add_left (by decide:1<=64) _) hr.units
theorem qO {n:Nat}(h:n<=1000):n < sizeLine:=LJ h (by decide)
section
variable {X:Cx}
theorem pv (i:Nat){x:Str}{pos:Pos}(hN:X.N[i]?=some x:=by rfl) (hv:PK X.env.scope x:=by first | exact Or.inl rfl | exact Or.inr (Or.inl rfl) | exact Or.inr (Or.inr rfl)) (hd:(x == ("__debug__" : Str))=false:=by decide)
  (hcd:(x == ("__classdict__" : Str))=false:=by decide):PE X (.Name x pos) (rD i):=F6 hN hv hd hcd
end
theorem aD {A B:Prop}(h:B):if false=true then A else B:=by
 rw[Kp KN]
 exact h
theorem aU {A B:Prop}(h:A):if true=true then A else B:=by
 rw[Ks rfl]
 exact h
theorem bD {c A B:Prop} [Decidable c] (h1:c->A) (h2: ¬c->B):if c then A else B:=by
 by_cases h:c
 .rw[Ks h]
  exact h1 h
 .rw[Kp h]
  exact h2 h
def ag (H H':Hp):Prop:= ∀b o,H b=some o->H' b=some o
theorem ag.refl (H:Hp):ag H H:=fun _ _ h=>h
theorem ag.trans {H H1 H2:Hp}(a:ag H H1) (b:ag H1 H2):ag H H2:=fun c o h=>b c o (a c o h)
theorem ag.free {H H':Hp}(e:ag H H'){l:Addr}(h:H' l=Option.none):H l=Option.none:=by
 cases q:H l with
 | none=>rfl
 | some o =>
  rw[e l o q] at h
  cases h
theorem ag.seq {K:N7}{H H':Hp}{a:Addr}{xs:List V}(e:ag H H') (h:N5 K H a xs):N5 K H' a xs:=by
 rcases h with (h | ⟨o,h⟩) | h
 .exact .inl (.inl (e _ _ h))
 .exact .inl (.inr ⟨o,e _ _ h⟩)
 .exact .inr h
end L2
namespace L2
open PySem
theorem Pp {n:Nat}{M:List PySem.Value->Prop}(f: ∀a t,t.length=n->M (a::t)) (us:List PySem.Value):us.length=n+1->M us :=
 List.rec (motive:=fun us=>us.length=n+1->M us) (fun h=>absurd h (Nat.zero_ne_add_one n)) (fun a t _ h=>f a t (NR h)) us
theorem PD {M:List PySem.Value->Prop}(f:M []) (us:List PySem.Value) (h:us.length=0):M us :=
 (MM h).symm▸f
theorem P9 {M:List PySem.Value->Prop}(f: ∀a,M [a]): ∀us:List PySem.Value,us.length=1->M us:=Pp fun a=>PD (M:=fun t=>M (a::t)) (f a)
theorem PV {M:List PySem.Value->Prop}(f: ∀a b,M [a,b]): ∀us:List PySem.Value,us.length=2->M us:=Pp fun a=>P9 (M:=fun t=>M (a::t)) (f a)
theorem Po {M:List PySem.Value->Prop}(f: ∀a b c,M [a,b,c]): ∀us:List PySem.Value,us.length=3->M us:=Pp fun a=>PV (M:=fun t=>M (a::t)) (f a)
theorem Pz {M:List PySem.Value->Prop}(f: ∀a b c d,M [a,b,c,d]): ∀us:List PySem.Value,us.length=4->M us:=Pp fun a=>Po (M:=fun t=>M (a::t)) (f a)
theorem P5 {M:List PySem.Value->Prop}(f: ∀a b c d e,M [a,b,c,d,e]): ∀us:List PySem.Value,us.length=5->M us:=Pp fun a=>Pz (M:=fun t=>M (a::t)) (f a)
theorem Qd {M:List PySem.Value->Prop}(f: ∀a b c d e f,M [a,b,c,d,e,f]): ∀us:List PySem.Value,us.length=6->M us:=Pp fun a=>P5 (M:=fun t=>M (a::t)) (f a)
end L2
namespace L2
open PySem PySem.Spec PyProof.Rows
def cL:List (Str×NameKind)->List (Str×Addr)->List (Str×Addr)->List (Str×Addr)
 | [],_,acc=>acc
 | (n,k)::r,cs,acc=>if k= .free then (match cs.lookup n with | some c=>cL r cs ((n,c)::acc) | none=>cL r cs acc) else cL r cs acc
theorem qI {scope:Scope}{env:Env}(h: ∀x∈scope.names,x.2= .free-> ∃c,env.cells.lookup x.1=some c) :
  closureFor scope env=pure (cL scope.names env.cells []):=by
 simp only[closureFor]
 have key: ∀(names:List (Str×NameKind)) (acc:List (Str×Addr)),(∀x∈names,x.2= .free-> ∃c,env.cells.lookup x.1=some c) ->
   (forIn names acc fun x r=>if (x.2 == NameKind.free)=true then (do let __do_lift <-cellOf env x.1; pure (ForInStep.yield ((x.1,__do_lift)::r))) else (pure (ForInStep.yield r):Sem _))=(pure (cL names env.cells acc):Sem _):=by
  intro names
  induction names with
  | nil=>intro acc _; rfl
  | cons x r ih =>
   intro acc hx
   obtain⟨n,k⟩:=x
   have hr:=fun y hy=>hx y (KD _ hy)
   rw[List.forIn_cons]
   by_cases hk:k= .free
   .subst hk
    obtain⟨c,hc⟩:=hx (n,.free) KG rfl
    have hc':env.cells.lookup n=some c:=hc
    have e1:cellOf env n=pure c:=by unfold cellOf; rw[hc']
    have e2:cL ((n,NameKind.free)::r) env.cells acc=cL r env.cells ((n,c)::acc):=by
     show (if NameKind.free=NameKind.free then (match env.cells.lookup n with | some c=>cL r env.cells ((n,c)::acc) | none=>cL r env.cells acc) else _)=_
     rw[Ks rfl,hc']
    rw[e2,<-ih _ hr]
    show ((if (NameKind.free == NameKind.free)=true then _ else _) >>= _)=_
    rw[Ks (show (NameKind.free == NameKind.free)=true from rfl)]
    show ((cellOf env n >>= fun __do_lift=>pure (ForInStep.yield ((n,__do_lift)::acc))) >>= _)=_
    rw[e1]
    rfl
   .have hb:(k == NameKind.free)=false:=by simpa using hk
    have e2:cL ((n,k)::r) env.cells acc=cL r env.cells acc:=by
     show (if k=NameKind.free then _ else _)=_
     rw[Kp hk]
    rw[e2,<-ih _ hr]
    show ((if (k == NameKind.free)=true then _ else _) >>= _)=_
    rw[Kp (by rw[hb]; exact KN)]
    rfl
 exact (Ln (fun z=>z >>= fun r=>pure r) (key scope.names [] h)).trans rfl
theorem lj: ∀ {names:List (Str×NameKind)}{cs acc:List (Str×Addr)}{x:Str}{c:Addr},(∀y d,acc.lookup y=some d->cs.lookup y=some d)->(cL names cs acc).lookup x=some c->cs.lookup x=some c
 | [],_,_,_,_,h,e=>h _ _ e
 | (n,k)::r,cs,acc,x,c,h,e=>by
  unfold cL at e
  split at e
  .split at e
   .rename_i d hd
    refine lj (names:=r) (fun y z q=>?_) e
    rw[LC] at q
    split at q
    .rename_i hy
     cases q
     rw[eq_of_beq hy]
     exact hd
    .exact h _ _ q
   .exact lj (names:=r) h e
  .exact lj (names:=r) h e
theorem kZ: ∀ {names:List (Str×NameKind)}{cs acc:List (Str×Addr)}{x:Str}{c:Addr},(∀y d,acc.lookup y=some d->cs.lookup y=some d)->cs.lookup x=some c->(x,NameKind.free)∈names\/(acc.lookup x=some c)->(cL names cs acc).lookup x=some c
 | [],_,_,_,_,h,e,m=>by
  rcases m with m | m
  .cases m
  .exact m
 | (n,k)::r,cs,acc,x,c,h,e,m=>by
  have h2: ∀d,cs.lookup n=some d-> ∀y z,((n,d)::acc).lookup y=some z->cs.lookup y=some z:=fun d hd y z q=>by
   rw[LC] at q
   split at q
   .rename_i hy
    cases q
    rw[eq_of_beq hy]
    exact hd
   .exact h _ _ q
  unfold cL
  split
  .rename_i hk
   subst hk
   split
   .rename_i d hd
    refine kZ (names:=r) (h2 d hd) e ?_
    by_cases hx:x=n
    .subst hx
     right
     rw[List.lookup_cons_self,<-hd,e]
    .rcases m with m | m
     .left
      rcases Kz.mp m with q | q
      .cases q
       exact absurd rfl hx
      .exact q
     .right
      rw[LC]
      have:(x == n)=false:=beq_eq_false_iff_ne.mpr hx
      rw[this]
      exact m
   .rename_i hd
    refine kZ (names:=r) h e ?_
    rcases m with m | m
    .rcases Kz.mp m with q | q
     .cases q
      rw[hd] at e
      cases e
     .exact .inl q
    .exact .inr m
  .rename_i hk
   refine kZ (names:=r) h e ?_
   rcases m with m | m
   .rcases Kz.mp m with q | q
    .cases q
     exact absurd rfl hk
    .exact .inl q
   .exact .inr m
def xB (scope psc:Scope):Scope :=
 { scope with names:=scope.names.map fun x=>if (x.2 == .free && psc.kind == .function && psc.names.lookup x.1 == some .cell) then (x.1,.cell) else (x.1,x.2) }
theorem uB {scope:Scope}{env:Env}{psc:Scope}(h:env.scope=psc):relabel scope env=xB scope psc:=by
 subst h
 rfl
theorem xC {f:Str×NameKind->Str×NameKind}(hf: ∀x,(f x).1=x.1/\((f x).2=x.2\/(x.2= .free/\(f x).2= .cell))): ∀ {names:List (Str×NameKind)}{x:Str}{k:NameKind},
  names.lookup x=some k-> ∃k',(names.map f).lookup x=some k'/\(k'=k\/(k= .free/\k'= .cell))
 | [],_,_,h=>by simp at h
 | (n,j)::r,x,k,h=>by
  have e1:((n,j)::r).map f=f (n,j)::r.map f:=rfl
  rw[e1]
  obtain⟨a,b,e⟩: ∃a b,f (n,j)=(a,b):=⟨_,_,rfl⟩
  obtain⟨h1,h2⟩:=hf (n,j)
  rw[e] at h1 h2
  have h1':a=n:=h1
  subst h1'
  rw[e,LC]
  rw[LC] at h
  cases hx:x == a with
  | true =>
   rw[hx] at h
   have h':j=k:=KS h
   subst h'
   exact⟨_,rfl,h2⟩
  | false =>
   rw[hx] at h
   exact xC hf h
theorem Bm {scope psc:Scope}{x:Str}{k:NameKind}(h:scope.names.lookup x=some k): ∃k',(xB scope psc).names.lookup x=some k'/\(k'=k\/(k= .free/\k'= .cell)):=by
 refine xC (fun y=>?_) h
 by_cases c:(y.2 == NameKind.free && psc.kind == .function && psc.names.lookup y.1 == some .cell)=true
 .rw[Ks c]
  have c':y.2= .free:=by
   rw[Lb,Lb] at c
   exact eq_of_beq c.1.1
  exact⟨rfl,.inr ⟨c',rfl⟩⟩
 .rw[Kp c]
  exact⟨rfl,.inl rfl⟩
theorem pV: ∀ {l:List (Str×NameKind)}{x:Str}{k:NameKind},l.lookup x=some k->(x,k)∈l
 | [],_,_,h=>by simp at h
 | (n,j)::r,x,k,h=>by
  rw[LC] at h
  cases hx:x == n with
  | true =>
   rw[hx] at h
   have h':j=k:=KS h
   rw[eq_of_beq hx,h']
   exact KG
  | false =>
   rw[hx] at h
   exact KD _ (pV h)
theorem qQ {f:Str×NameKind->Str×NameKind}(hf: ∀x,(f x).1=x.1): ∀ {l:List (Str×NameKind)}{x:Str}{k:NameKind},(l.map f).lookup x=some k-> ∃k',l.lookup x=some k'/\(f (x,k')).2=k
 | [],_,_,h=>by simp at h
 | (n,j)::r,x,k,h=>by
  have e1:((n,j)::r).map f=f (n,j)::r.map f:=rfl
  rw[e1] at h
  obtain⟨a,b,e⟩: ∃a b,f (n,j)=(a,b):=⟨_,_,rfl⟩
  have h1:=hf (n,j)
  rw[e] at h1
  have h1':a=n:=h1
  subst h1'
  rw[e,LC] at h
  rw[LC]
  cases hx:x == a with
  | true =>
   rw[hx] at h
   have h':b=k:=KS h
   refine⟨j,rfl,?_⟩
   rw[eq_of_beq hx,e]
   exact h'
  | false =>
   rw[hx] at h
   exact qQ hf h
theorem Ce {scope psc:Scope}{x:Str}(h:(xB scope psc).names.lookup x=some .cell\/(xB scope psc).names.lookup x=some .free):scope.names.lookup x=some .free\/scope.names.lookup x=some .cell:=by
 have key: ∀k,(xB scope psc).names.lookup x=some k->k= .cell\/k= .free->scope.names.lookup x=some .free\/scope.names.lookup x=some .cell:=fun k hk h2=>by
  obtain⟨k',h1,h3⟩:=qQ (fun y=>by split <;> rfl) hk
  by_cases c:(k' == NameKind.free && psc.kind == .function && psc.names.lookup x == some .cell)=true
  .rw[Lb,Lb] at c
   rw[h1,eq_of_beq c.1.1]
   exact .inl rfl
  .have h3':(if (k' == NameKind.free && psc.kind == .function && psc.names.lookup x == some .cell)=true then ((x,NameKind.cell):Str×NameKind) else (x,k')).2=k:=h3
   rw[Kp c] at h3'
   have e:k'=k:=h3'
   rw[h1,e]
   rcases h2 with h2 | h2
   .rw[h2]; exact .inr rfl
   .rw[h2]; exact .inl rfl
 rcases h with h | h
 .exact key _ h (.inl rfl)
 .exact key _ h (.inr rfl)
structure i9 (psc scope:Scope) (own frn:List Str):Prop where
 kind:scope.kind= .function
 cell: ∀y∈scope.names,y.2≠ .cell
 names: ∀y∈scope.names,y.2= .local->scope.names.lookup y.1=some .local
 free: ∀y∈scope.names,y.2= .free->psc.names.lookup y.1=some .cell\/psc.names.lookup y.1=some .free
 nd:(own++frn).Nodup
 frn: ∀x∈frn,scope.names.lookup x=some .free
def cH (own:List Str) (fr:List Nat) (σ:St):St:=own.map (fun _=>none)++fr.map fun j=>(σ[j]?).getD none
def bf (X:Cx) (N':List Str) (scope:Scope) (C:Addr) (s2:Shared) (H:Hp) (fp:List Addr):Cx :=
 { X with N:=N',s₀:=s2,H₀:=H,env:=compEnvC scope (cL scope.names X.env.cells []) C X.env,outer:=X.stack,ex:=fp,fn:=fun _=>false,pn:=[],xe:=fun _ _=>False }
section
variable {X:Cx}{N3:List (Addr×Obj)}{σ:St}{H:Hp}{s:Shared}
theorem zg {psc scope:Scope}{own frn:List Str}{C:Addr}{fp:List Addr}(S:i9 psc scope own frn) (hp:X.env.scope=psc) (I:Inv X N3 σ H s) (hfp: ∀b∈fp,ck X N3 H b) (hlt: ∀b∈fp,b < s.heap.objs.size) (hC:s.heap.objs.size<=C) :
  (bf X (own++frn) scope C s H fp).Ok:=by
 have sub: ∀x c,(cL scope.names X.env.cells []).lookup x=some c->X.env.cells.lookup x=some c:=fun x c h=>lj (fun y d q=>by simp at q) h
 have hs:=uB (scope:=scope) hp
 exact {
  mod:=I.ok.mod
  kind:=S.kind
  glob:=I.ok.glob
  blt:=I.ok.blt
  above:=hC
  inj:=fun x y c h1 h2=>I.ok.inj x y c (sub x c h1) (sub y c h2)
  has:=fun x h=>by
   have h':(relabel scope X.env).names.lookup x=some .cell\/(relabel scope X.env).names.lookup x=some .free:=h
   rw[hs] at h'
   have hf:scope.names.lookup x=some .free:=by
    rcases Ce h' with q | q
    .exact q
    .exact absurd rfl (S.cell _ (pV q))
   have hm:=pV hf
   have hk:=S.free _ hm rfl
   rw[<-hp] at hk
   obtain⟨c,hc⟩:=I.ok.has x hk
   exact⟨c,kZ (fun y d q=>by simp at q) hc (.inl hm)⟩
  cab:=fun x c h=>by cases h
  hd:=I.ok.hd
  frames:=I.ok.frames
  stk:= .inl rfl
  exf:=fun b hb=>⟨fun e=>absurd (hlt b hb) (MF.mpr (by rw[e]; exact hC)),fun x c h=>(hfp b hb).2.2.2.2.1 x c (sub x c h)⟩
  bs:=I.bs
  bsz:=KR I.ok.bsz I.sz
  noex:=fun b o e hb=>by
   rcases (hfp b hb).2.2.2.1 with h | h
   .exact I.ok.noex b o e h
   .exact absurd (KJ e) (MF.mpr (KR I.ok.bsz h))
  exfs:=fun b hb q=>by
   rcases Kz.mp (I.uh b q) with h | h
   .exact (hfp b hb).2.1 h
   .exact (hfp b hb).2.2.1 h
  fu:=I.stack
  frf:=I.u9 }
end
section
variable {X:Cx}{N3:List (Addr×Obj)}{σ:St}{H:Hp}{s:Shared}
theorem Af {psc scope:Scope}{own frn:List Str}{fr:List Nat}{C:Addr}{fp:List Addr}{h1:Heap}{tk:Nat}{m:Str->Option Value}(S:i9 psc scope own frn) (hp:X.env.scope=psc) (I:Inv X N3 σ H s)
  (hfr:fr.map (fun j=>X.N[j]?)=frn.map some) (hfp: ∀b∈fp,ck X N3 H b) (hlt: ∀b∈fp,b < s.heap.objs.size) (hC:s.heap.objs.size<=C) (hn:h1.Ns C m) (kp: ∀b o,s.heap.get? b=some o->h1.get? b=some o) :
  Inv (bf X (own++frn) scope C s H fp) [] (cH own fr σ) H { s with heap:=h1,toks:=tk }:=by
 have sub: ∀x c,(cL scope.names X.env.cells []).lookup x=some c->X.env.cells.lookup x=some c:=fun x c h=>lj (fun y d q=>by simp at q) h
 have hlen:fr.length=frn.length:=by
  have:=Ln List.length hfr
  simpa using this
 exact {
  ok:=zg S hp I hfp hlt hC
  os:=rfl
  bare:=I.bare
  base:=Un.kept kp
  loc:=by
   refine⟨m,hn,fun i x v hi hv _=>?_⟩
   have hi':(own++frn)[i]?=some x:=hi
   have hv':(own.map (fun _=>(none:Option V))++fr.map fun j=>(σ[j]?).getD none)[i]?=some (some v):=hv
   by_cases hlo:i < own.length
   .rw[MZ (by simpa using hlo),KH,Kr hlo] at hv'
    cases hv'
   .have hle:own.length<=i:=NQ hlo
    rw[MW hle] at hi'
    rw[MW (by simpa using hle),Kq,KH] at hv'
    generalize hk:i - own.length=k at hi' hv'
    cases hj:fr[k]? with
    | none=>rw[hj] at hv'; cases hv'
    | some j =>
     rw[hj] at hv'
     have hv2:(σ[j]?).getD none=some v:=KS hv'
     have hσ:σ[j]?=some (some v):=by
      cases e:σ[j]? with
      | none=>rw[e] at hv2; cases hv2
      | some z=>rw[e] at hv2; exact Ln some hv2
     have hN:X.N[j]?=some x:=by
      have q:=Ln (fun l=>l[k]?) hfr
      have q':(fr.map (fun j=>X.N[j]?))[k]?=(frn.map some)[k]?:=q
      rw[KH,KH,hj,hi'] at q'
      exact KS q'
     have hx:x∈frn:=Kw hi'
     have hf:=S.frn x hx
     have hm:=pV hf
     have hkd:=S.free _ hm rfl
     rw[<-hp] at hkd
     have hvis:PK X.env.scope x:=by
      rcases hkd with q | q
      .exact .inr (.inl q)
      .exact .inr (.inr q)
     obtain⟨m0,hn0,hl0⟩:=I.loc
     obtain⟨u,ru,hlk⟩:=hl0 j x v hN hσ hvis
     refine⟨u,ru,?_⟩
     have hkd':X.env.kindOf x=some .cell\/X.env.kindOf x=some .free:=hkd
     rcases hlk with⟨q,_⟩ | ⟨_,c,hc,hcell⟩
     .rcases hkd' with z | z <;> (rw[q] at z; cases z)
     .refine .inr ⟨?_,c,kZ (fun y d q=>by simp at q) hc (.inl hm),hcell.keeps kp⟩
      obtain⟨k',h1',h2'⟩:=Bm (psc:=psc) hf
      have h3:Env.kindOf (compEnvC scope (cL scope.names X.env.cells []) C X.env) x=some k':=by
       show (relabel scope X.env).names.lookup x=some k'
       rw[uB hp]
       exact h1'
      rcases h2' with e | ⟨_,e⟩
      .right; rw[e] at h3; exact h3
      .left; rw[e] at h3; exact h3
  cell:=fun x c h=>by
   obtain⟨v,hv⟩:=I.cell x c (sub x c h)
   exact⟨v,hv.keeps kp⟩
  free:=I.hok.fresh hC
  freeC:=fun x c h=>I.freeC x c (sub x c h)
  pin:=fun p hp'=>by cases hp'
  hok:=I.hok.kept kp
  len:=by
   show (own.map (fun _=>(none:Option V))++fr.map fun j=>(σ[j]?).getD none).length=(own++frn).length
   simp[hlen] }
end
section
variable {prog:Program}{w:World}{A:Around}{R:Result->Shared->Prop}{s:Shared}
theorem A6 {elt tg iter:Expr}{ifs:List Expr}{scope:Scope}{pos:Pos}{it acc:Value}{env:Env}(J:Nat->Shared->Prop)
  (turn: ∀n s,J n s->wpAny (model prog w) A (pyNext it) (fun r s1=>match r with
   | none=>R (.ok .next) s1
   | some v=>wpAny (model prog w) A (letOwnedTupleGo tg it v) (fun _ s2=>wpAny (model prog w) A (assign tg env v) (fun _ s3 =>
     wpAny (model prog w) A (forIn ifs true fun c r=>if r=true then do let ok <-isTrue c env (eval c env); pure (ForInStep.yield ok) else pure (ForInStep.yield r)) (fun ok s4 =>
      if ok=true then wpAny (model prog w) A (eval elt env) (fun x s5=>wpAny (model prog w) A (call (.builtin "list.append") [acc,x]) (fun _ s6=> ∃m,m < n/\J m s6) (fun _ _=>False) s5) (fun _ _=>False) s4
      else ∃m,m < n/\J m s4) (fun _ _=>False) s3) (fun _ _=>False) s2) (fun _ _=>False) s1) (fun _ _=>False) s)
  (n:Nat) (h:J n s):codeAny (model prog w) A (.compLoop (.ListComp elt [⟨tg,iter,ifs,0⟩] scope pos) 0 it acc env) R s:=by
 refine codeAny_loop rfl J (fun n s hJ=>?_) n h
 show wpAny (model prog w) A ((compTurn (.ListComp elt [⟨tg,iter,ifs,0⟩] scope pos) 0 it acc env).onRaise (fun x=>do noteFrame x env; theTreesLotGoes x)) _ _ s
 refine wpAny_noted ?_
 rw[compTurn_list]
 refine Kv (Ma (Kv (Lx (turn n s hJ) (fun r s1 h1=>?_) fun _ _ f=>f.elim)))
 cases r with
 | none=>exact KP h1
 | some v =>
  refine Kv (Lx h1 (fun _ s2 h2=>?_) fun _ _ f=>f.elim)
  refine Kv (Lx h2 (fun _ s3 h3=>Kv (Lx h3 (fun ok s4 h4=>?_) fun _ _ f=>f.elim)) fun _ _ f=>f.elim)
  cases ok with
  | false=>exact KP ⟨rfl,h4⟩
  | true=>exact Kv (Kv (Lx h4 (fun x s5 h5=>Kv (Lx h5 (fun _ s6 h6=>KP (KP ⟨rfl,h6⟩)) fun _ _ f=>f.elim)) fun _ _ f=>f.elim))
end
def g8:TT:=fun _ H Q=>Q true H
def O9 (X:Cx) (ifs:List Expr) (t:TT):Prop :=
 ∀(N3:List (Addr×Obj)) (s:Shared) (σ:St) (H:Hp) (Q:Bool->Hp->Prop),Inv X N3 σ H s->t σ H Q ->
  wpAny (model X.prog X.w) X.A (forIn ifs true fun c r=>if r=true then do let ok <-isTrue c X.env (eval c X.env); pure (ForInStep.yield ok) else pure (ForInStep.yield r)) (TP X N3 σ Q) X.xe s
theorem d6 {X:Cx}:O9 X [] g8:=fun _ _ _ H _ I h=>wpAny_tests_nil ⟨H,I,h⟩
theorem jb {X:Cx}{c:Expr}{t:TT}(h:PT X c t):O9 X [c] t:=fun N3 s σ H Q I q=>wpAny_tests_one (h N3 s σ H Q I q)
def mr (J:It) (g:TG) (tt:TT) (te:TE) (own:List Str) (fr:List Nat) (σ:St) (H:Hp) (Q:VK):Prop :=
 ∃W:Nat->Nat->List V->Hp->Prop,(∃m,W 0 m [] H)/\ ∀i m ys H2,W i m ys H2 ->
  (J.stop i H2/\ys.length<=sizeLine/\ ∀p,H2 p=none->Q (.ref p) (upd H2 p (.lst ys))) \/
  (J.go i H2/\ys.length < sizeLine/\ ∀x H3,J.yld i H2 x H3->g x (cH own fr σ) H3 fun σ4 H4=>tt σ4 H4 fun b H5 =>
   if b=true then te σ4 H5 fun y H6=> ∃m',m' < m/\W (i+1) m' (ys++[y]) H6 else ∃m',m' < m/\W (i+1) m' ys H5)
def sN (wi:TI) (g:TG) (tt:TT) (te:TE) (own:List Str) (fr:List Nat):TE:=fun σ H Q=>wi σ H fun J H1=>mr J g tt te own fr σ H1 Q
def mS (n:Nat) (g:TG):Prop:= ∀x σ H Q,g x σ H Q->g x σ H fun σ' H'=>(σ'.length=σ.length/\ ∀j,n<=j->σ'[j]?=σ[j]?)/\Q σ' H'
def wQ (n:Nat) (g:OY):Prop:= ∀xs σ H Q,g xs σ H Q->g xs σ H fun σ' H'=>(σ'.length=σ.length/\ ∀j,n<=j->σ'[j]?=σ[j]?)/\Q σ' H'
theorem kn {n i:Nat}(h:i < n):mS n (aO i):=fun x σ H Q q =>
 ⟨⟨Mo,fun j hj=>Nd (by omega)⟩,q⟩
theorem vb {n:Nat}:wQ n DW:=fun xs σ H Q ⟨e,q⟩=>⟨e,⟨rfl,fun _ _=>rfl⟩,q⟩
def zS (g:TG):Prop:= ∀x σ H (Q Q':St->Hp->Prop),(∀σ' H',Q σ' H'->Q' σ' H')->g x σ H Q->g x σ H Q'
def uV (g:OY):Prop:= ∀xs σ H (Q Q':St->Hp->Prop),(∀σ' H',Q σ' H'->Q' σ' H')->g xs σ H Q->g xs σ H Q'
theorem g9 {i:Nat}:zS (aO i):=fun x σ H Q Q' h q=>h _ _ q
theorem mC:uV DW:=fun xs σ H Q Q' h ⟨e,q⟩=>⟨e,h _ _ q⟩
theorem tY {g:TG}{gs:OY}(h1:zS g) (h2:uV gs):uV (zY g gs):=fun xs σ H Q Q' h ⟨v,r,e,q⟩ =>
 ⟨v,r,e,h1 _ _ _ _ _ (fun σ' H' z=>h2 _ _ _ _ _ h z) q⟩
theorem kj {n:Nat}{g:TG}{gs:OY}(h1:mS n g) (m1:zS g) (h2:wQ n gs) (m2:uV gs):wQ n (zY g gs):=fun xs σ H Q ⟨v,r,e,q⟩=>by
 refine⟨v,r,e,m1 _ _ _ _ _ (fun σ' H' z=>?_) (h1 _ _ _ _ q)⟩
 obtain⟨⟨l1,k1⟩,z⟩:=z
 refine m2 _ _ _ _ _ (fun σ2 H2 z2=>?_) (h2 _ _ _ _ z)
 obtain⟨⟨l2,k2⟩,z2⟩:=z2
 exact⟨⟨l2.trans l1,fun j hj=>(k2 j hj).trans (k1 j hj)⟩,z2⟩
theorem yg {n k:Nat}{K:N7}{gs:OY}(h:wQ n gs):mS n (xM K k gs):=fun x σ H Q ⟨a,xs,e,hq,hl,q⟩=>⟨a,xs,e,hq,hl,h _ _ _ _ q⟩
structure zO (cond:Cx->Prop) (P:Program) (w:World) (K:N7) (tg:Expr) (J:It) (fp:List Addr) (it:Addr) (tn:Nat->Heap->Prop):Prop where
 mem:it∈fp
 obj: ∀i h,tn i h-> ∀b∈fp,∃o,h.get? b=some o/\ ∀v,o.data≠ .cell v
 keep: ∀i h h',tn i h->(∀b∈fp,∀o,h.get? b=some o->h'.get? b=some o)->tn i h'
 item: ∀(X:Cx),X.prog=P->X.w=w->X.K=K->cond X-> ∀(i:Nat) (N3:List (Addr×Obj)) (s:Shared) (σ:St) (H:Hp) (E:Value->Shared->Prop),Inv X N3 σ H s->(∀b∈fp,ck X N3 H b)->tn i s.heap->J.go i H ->
  wpAny (model P w) X.A (pyNext (.ref it)) (fun r s1=> ∃u,r=some u /\
   wpAny (model P w) X.A (letOwnedTupleGo tg (.ref it) u) (fun _ s2=> ∃x H',Inv X N3 σ H' s2/\RelV x u/\J.yld i H x H'/\tn (i+1) s2.heap/\ ∀b∈fp,H' b=none) E s1) E s
 done: ∀(X:Cx),X.prog=P->X.w=w->X.K=K->cond X-> ∀(i:Nat) (N3:List (Addr×Obj)) (s:Shared) (σ:St) (H:Hp) (E:Value->Shared->Prop),Inv X N3 σ H s->(∀b∈fp,ck X N3 H b)->tn i s.heap->J.stop i H ->
  wpAny (model P w) X.A (pyNext (.ref it)) (fun r s1=>r=none/\Inv X N3 σ H s1) E s
 self: ∀(A:Around) (i:Nat) (s:Shared) (Q:Value->Shared->Prop) (E:Value->Shared->Prop),tn i s.heap->Q (.ref it) s->wpAny (model P w) A (pyIter (.ref it)) Q E s
theorem Turn.c {P:Program}{w:World}{K:N7}{tg:Expr}{J:It}{fp:List Addr}{it:Addr}{tn:Nat->Heap->Prop}(T:Turn P w K tg J fp it tn):zO (fun X=>X.calm=true) P w K tg J fp it tn:=⟨T.mem,T.obj,T.keep,T.item,T.done,T.self⟩
def P1 (cond:Cx->Prop) (X:Cx) (tg iter:Expr) (wi:TI):Prop :=
 ∀(N3:List (Addr×Obj)) (s:Shared) (σ:St) (H:Hp) (R:It->Hp->Prop),Inv X N3 σ H s->wi σ H R ->
  wpAny (model X.prog X.w) X.A (eval iter X.env) (fun v s1=>wpAny (model X.prog X.w) X.A (pyIter v) (fun itv s2 =>
   ∃(it:Addr) (fp:List Addr) (tn:Nat->Heap->Prop) (J:It) (H':Hp),itv= .ref it/\Inv X N3 σ H' s2/\zO cond X.prog X.w X.K tg J fp it tn/\tn 0 s2.heap/\(∀b∈fp,ck X N3 H' b)/\R J H') X.xe s1) X.xe s
theorem PI.c {X:Cx}{tg iter:Expr}{wi:TI}(h:PI X tg iter wi):P1 (fun X=>X.calm=true) X tg iter wi:=fun N3 s σ H R I q =>
 Oc (h N3 s σ H R I q) fun v s1 h1=>Oc h1 fun itv s2 ⟨it,fp,tn,J,H',e,I',T,a,b,c⟩=>⟨it,fp,tn,J,H',e,I',T.c,a,b,c⟩
def gf (its:List Value) (n:Nat):Obj:={ cls:= .type "list",data:= .seq its.toArray n }
section
variable {X:Cx}{N3:List (Addr×Obj)}{σ:St}{H:Hp}{s:Shared}
theorem D6 {scope:Scope}{own frn:List Str}{fr:List Nat}{C D it:Addr}{fp:List Addr}{tg elt iter:Expr}{ifs:List Expr}{pos:Pos}{tn:Nat->Heap->Prop}{J:It}{g:TG}{tt:TT}{te:TE}{Q:VK}{s4:Shared}{W:Nat->Nat->List V->Hp->Prop}{m0:Nat}{R:Result->Shared->Prop}{cond:Cx->Prop}
  (hc:cond (bf X (own++frn) scope C s H fp)) (go:mS own.length g) (T:zO cond X.prog X.w X.K tg J fp it tn) (hD:s.heap.objs.size<=D) (hDC:D≠C) (hDf:D∉fp)
  (hg:PG (bf X (own++frn) scope C s H fp) tg g) (ht:O9 (bf X (own++frn) scope C s H fp) ifs tt) (he:PE (bf X (own++frn) scope C s H fp) elt te)
  (I:Inv (bf X (own++frn) scope C s H fp) [] (cH own fr σ) H s4) (st:tn 0 s4.heap) (hfp: ∀b∈fp,ck (bf X (own++frn) scope C s H fp) [] H b) (hacc:s4.heap.get? D=some (gf [] 0)) (hDn:H D=none)
  (w0:W 0 m0 [] H) (turn: ∀i m ys H2,W i m ys H2 ->
   (J.stop i H2/\ys.length<=sizeLine/\ ∀p,H2 p=none->Q (.ref p) (upd H2 p (.lst ys))) \/
   (J.go i H2/\ys.length < sizeLine/\ ∀x H3,J.yld i H2 x H3->g x (cH own fr σ) H3 fun σ4 H4=>tt σ4 H4 fun b H5 =>
    if b=true then te σ4 H5 fun y H6=> ∃m',m' < m/\W (i+1) m' (ys++[y]) H6 else ∃m',m' < m/\W (i+1) m' ys H5))
  (fin: ∀s5 H5 ys its n σ5,Inv (bf X (own++frn) scope C s H fp) [] σ5 H5 s5->s5.heap.get? D=some (gf its n)->Vals ys its->ys.length<=sizeLine->H5 D=none->Q (.ref D) (upd H5 D (.lst ys))->R (.ok .next) s5) :
  codeAny (model X.prog X.w) X.A (.compLoop (.ListComp elt [⟨tg,iter,ifs,0⟩] scope pos) 0 (.ref it) (.ref D) (compEnvC scope (cL scope.names X.env.cells []) C X.env)) R s4:=by
 have stat: ∀ {H':Hp}{pl:List (Addr×Obj)},(∀b∈fp,H' b=none)->(∀p∈pl,p.1∉fp)-> ∀b∈fp,ck (bf X (own++frn) scope C s H fp) pl H' b:=fun {H' pl} hn hpl b hb=>by
  obtain⟨_,f1,f2,f3,f4,_⟩:=hfp b hb
  refine⟨hn b hb,f1,f2,f3,f4,fun p hp z=>?_⟩
  have hp':p∈pl:=hp
  exact hpl p hp' (by rw[z]; exact hb)
 refine A6 (env:=compEnvC scope (cL scope.names X.env.cells []) C X.env) (fun n s'=> ∃i ys H' its k,Inv (bf X (own++frn) scope C s H fp) [] (cH own fr σ) H' s'/\tn i s'.heap/\(∀b∈fp,H' b=none)/\s'.heap.get? D=some (gf its k)/\H' D=none/\Vals ys its/\W i n ys H') ?_ m0
  ⟨0,[],H,[],0,I,st,fun b hb=>(hfp b hb).1,hacc,hDn,.nil,w0⟩
 rintro n s3 ⟨i,ys,H3,its,k,I3,st3,fr3,ha3,hD3,rv3,w3⟩
 have hne: ∀p∈[(D,gf its k)],p.1∉fp:=fun p hp=>by
  rcases Kt.mp hp with rfl
  exact hDf
 have hnofs:D∉(bf X (own++frn) scope C s H fp).fs:=fun hb=>by
  obtain⟨_,o,ho,_⟩:=I3.ok.fu.mem hb
  exact absurd (KJ ho) (MF.mpr hD)
 have I3p:Inv (bf X (own++frn) scope C s H fp) [(D,gf its k)] (cH own fr σ) H3 s3:=I3.jY fun p hp=>by
  rcases Kt.mp hp with rfl
  exact⟨ha3,hD3,hDC,hnofs,fun v z=>by cases z⟩
 have back: ∀ {σ':St},(σ'.length=(cH own fr σ).length/\ ∀j,own.length<=j->σ'[j]?=(cH own fr σ)[j]?)-> ∀(j:Nat) v,(cH own fr σ)[j]?=some (some v)->σ'[j]?=some (some v):=fun {σ'} h j v e=>by
  by_cases hj:j < own.length
  .unfold cH at e
   rw[MZ (by simpa using hj),KH,Kr hj] at e
   cases e
  .rw[h.2 j (NQ hj)]
   exact e
 rcases turn i n ys H3 w3 with⟨stop,hz,q⟩ | ⟨hgo,hz,step⟩
 .refine Oc (T.done (bf X (own++frn) scope C s H fp) rfl rfl rfl hc i _ s3 _ H3 _ I3p (stat fr3 hne) st3 stop) fun r s4 ⟨hr,I4⟩=>?_
  subst hr
  exact fin s4 H3 ys its k _ (I4.jY fun p hp=>by cases hp) (I4.pin (D,gf its k) (K5 _ KG)).1 rv3 hz hD3 (q D hD3)
 .refine Oc (T.item (bf X (own++frn) scope C s H fp) rfl rfl rfl hc i _ s3 _ H3 _ I3p (stat fr3 hne) st3 hgo) fun r s4 ⟨u,hr,h4⟩=>?_
  subst hr
  refine Oc h4 fun _ s5 ⟨x,H5,I5,r5,y5,st5,fr5⟩=>?_
  have I5':=I5.pinned (stat fr5 hne) (T.obj _ _ st5)
  have pinD: ∀ {σ':St}{H':Hp}{s':Shared},Inv (bf X (own++frn) scope C s H fp) ([(D,gf its k)]++qV fp s5.heap) σ' H' s'->s'.heap.get? D=some (gf its k)/\H' D=none/\tn (i+1) s'.heap/\ ∀b∈fp,H' b=none:=fun {σ' H' s'} I'=>by
   have p1:=I'.pin (D,gf its k) (K5 _ (Lo _ KG))
   refine⟨p1.1,p1.2.1,T.keep _ _ _ st5 fun b hb o e=>(I'.pin (b,o) (K5 _ (K5 _ (mq hb e)))).1,fun b hb=>?_⟩
   obtain⟨o,e,d⟩:=T.obj _ _ st5 b hb
   exact (I'.pin (b,o) (K5 _ (K5 _ (mq hb e)))).2.1
  refine Oc (hg _ s5 _ H5 x u _ I5' r5 (go _ _ _ _ (step x H5 y5))) fun _ s6 ⟨σ6,H6,I6,hk6,q6⟩=>?_
  refine Oc (ht _ s6 σ6 H6 _ I6 q6) fun b s7 ⟨H7,I7,q7⟩=>?_
  cases b with
  | false =>
   rw[Kp KN] at q7 ⊢
   obtain⟨m',hm,w7⟩:=q7
   obtain⟨a7,d7,t7,f7⟩:=pinD I7
   exact⟨m',hm,i+1,ys,H7,its,k,(I7.weak hk6.1.symm (back hk6)).jY (fun p hp=>by cases hp),t7,f7,a7,d7,rv3,w7⟩
  | true =>
   rw[Ks rfl] at q7 ⊢
   refine Oc (he _ s7 σ6 H7 _ I7 q7) fun v s8 ⟨y,H8,I8,r8,m',hm,w8⟩=>?_
   obtain⟨a8,d8,t8,f8⟩:=pinD I8
   refine Mw F.slot_list_append ⟨_,a8,rfl⟩ F.entry_list_append (F.args_list_append_2 _ _) (PySem.list_append D its.toArray k v (by rw[KL,<-rv3.length]; omega)) ⟨a8,?_⟩
   obtain⟨n9,q9⟩: ∃n9,(s8.heap.update D (Obj.mapSeq (·.push v))).get? D=some (gf (its++[v]) n9):=by
    have q9:=PySem.IsL.update a8 (·.push v)
    have e10:(its.toArray.push v)=(its++[v]).toArray:=by simp
    rw[e10] at q9
    exact⟨_,q9⟩
   have e9: ∀b o,b≠D->s8.heap.get? b=some o->(s8.heap.update D (Obj.mapSeq (·.push v))).get? b=some o:=fun b o hb e=>(Lr s8.heap (Obj.mapSeq (·.push v)) (K2 hb)).trans e
   have I8':Inv (bf X (own++frn) scope C s H fp) [] (cH own fr σ) H8 s8:=(I8.weak hk6.1.symm (back hk6)).jY fun p hp=>by cases hp
   refine⟨m',hm,i+1,ys++[y],H8,its++[v],n9,I8'.turned (t':=s8.toks) e9 d8 hDC (.inr hD) (fun z c hc' e=>?_) (fun p hp=>by cases hp),T.keep _ _ _ t8 fun b hb o e=>e9 b o (fun z=>hDf (by rw[<-z]; exact hb)) e,f8,q9,d8,rv3.append (.cons r8 .nil),w8⟩
   obtain⟨v',o,ho,hd⟩:=I8'.cell z c hc'
   rw[e,a8] at ho
   cases ho
   cases hd
end
section
variable {X:Cx}{N3:List (Addr×Obj)}{σ:St}{H:Hp}{s:Shared}
theorem comp_back {N':List Str}{scope:Scope}{C D:Addr}{fp:List Addr}{H5:Hp}{s5:Shared}{σ5:St}{ys:List V}{its:List Value}{n:Nat}{h':Heap}(I:Inv X N3 σ H s) (hfp: ∀b∈fp,ck X N3 H b) (hC:s.heap.objs.size<=C) (hD:s.heap.objs.size<=D) (hDC:D≠C)
  (I5:Inv (bf X N' scope C s H fp) [] σ5 H5 s5) (ha:s5.heap.get? D=some (gf its n)) (rv:Vals ys its) (hz:ys.length<=sizeLine) (hDn:H5 D=none) (sb:Heap.SameBut C s5.heap h') :
  Inv X N3 σ (upd H5 D (.lst ys)) { s5 with heap:=h' }:=by
 have u5:Un (OP X.stack) fp H H5 s.heap s5.heap:=I5.base
 have nC: ∀b o,s.heap.get? b=some o->b≠C:=fun b o e z=>absurd (KJ e) (MF.mpr (by rw[z]; exact hC))
 have nD: ∀b o,s.heap.get? b=some o->b≠D:=fun b o e z=>absurd (KJ e) (MF.mpr (by rw[z]; exact hD))
 have tD: ∀b o,H5 b=some o->b≠D:=fun b o e z=>by rw[z,hDn] at e; cases e
 have fC:H5 C=none:=I5.free
 refine I.Aj (ch:=fp) (H':=upd H5 D (.lst ys)) I5.os ?_ ?_ I5.bare fun b hb=>⟨(hfp b hb).2.2.2.1,(hfp b hb).2.1,fun x c hc=>(hfp b hb).2.2.2.2.1 x c hc,(hfp b hb).2.2.2.2.2⟩
 .exact {
   keep:=fun b o e h1 h2 h3=>sb.extBut b o (nC b o e) (u5.keep b o e h1 h2 h3)
   slot:=fun b o e h1 h2 h3=>by
    obtain⟨sl,q⟩:=u5.slot b o e h1 h2 h3
    exact⟨sl,sb.extBut b _ (nC b o e) q⟩
   free:=fun b o e h1 h3=>by
    rw[ai (nD b o e)]
    exact u5.free b o e h1 h3
   there:=fun b o e h3=>by
    obtain⟨o',q⟩:=u5.there b o e h3
    exact⟨o',sb.extBut b _ (nC b o e) q⟩
   tups:=fun b xs e=>by
    have q:=u5.tups b xs e
    rw[ai (tD b _ q)]
    exact q
   frzs:=fun b o u e=>by
    have q:=u5.frzs b o u e
    rw[ai (tD b _ q)]
    exact q
   tbls:=fun b ps e=>by
    obtain⟨more,q⟩:=u5.tbls b ps e
    refine⟨more,?_⟩
    rw[ai (tD b _ q)]
    exact q }
 .intro a o e
  by_cases hd:a=D
  .subst hd
   rw[af] at e
   cases e
   exact⟨hz,its,n,rv,sb.extBut a _ hDC ha⟩
  .rw[ai hd] at e
   refine (I5.hok a o e).oi (fun b u hb q=>sb.extBut b u (fun z=>?_) q) (fun b hb=>by rw[ai (tD b _ hb)]; exact hb) (fun b xs hb=>by rw[ai (tD b _ hb)]; exact hb)
   rcases hb with hb | hb
   .rw[z] at hb
    rw[<-hb,fC] at e
    cases e
   .rw[z,fC] at hb
    cases hb
theorem vQ {psc scope:Scope}{own frn:List Str}{fr:List Nat}{tg elt iter:Expr}{ifs:List Expr}{pos:Pos}{wi:TI}{g:TG}{tt:TT}{te:TE}{Q:VK}{RR:Value->Addr->Result->Shared->Prop}{cond:Cx->Prop}(S:i9 psc scope own frn) (hp:X.env.scope=psc) (hfr:fr.map (fun j=>X.N[j]?)=frn.map some)
  (hc: ∀C s2 H2 fp,cond (bf X (own++frn) scope C s2 H2 fp)) (go:mS own.length g) (hi:P1 cond X tg iter wi)
  (hb: ∀C s2 H2 fp,PG (bf X (own++frn) scope C s2 H2 fp) tg g/\O9 (bf X (own++frn) scope C s2 H2 fp) ifs tt/\PE (bf X (own++frn) scope C s2 H2 fp) elt te)
  (I:Inv X N3 σ H s) (h:sN wi g tt te own fr σ H Q)
  (fin: ∀C D s5 H6 m,Inv X N3 σ H6 s5->(∀h',Heap.SameBut C s5.heap h'->Inv X N3 σ H6 { s5 with heap:=h' })->s5.heap.Ns C m->H6 C=none->C≠X.env.locals->X.s₀.heap.objs.size<=C->(∀x c,X.env.cells.lookup x=some c->c≠C)->(∀p∈X.pn++N3,p.1≠C)->Q (.ref D) H6->RR (.ref D) C (.ok .next) s5) :
  wpAny (model X.prog X.w) X.A (eval iter X.env) (fun x s₁=>wpAny (model X.prog X.w) X.A (pyIter x) (fun it s₂=>wpAny (model X.prog X.w) X.A (newList []) (fun acc s₃=>wpAny (model X.prog X.w) X.A (newFunctionEnv scope X.env.globals (cL scope.names X.env.cells []) [] X.env.qual none .none (some X.env)) (fun cenv s₄ =>
   codeAny (model X.prog X.w) X.A (.compStart (.ListComp elt [⟨tg,iter,ifs,0⟩] scope pos) 0 it acc { cenv with scope:=relabel scope X.env }) (RR acc cenv.locals) s₄) X.xe s₃) X.xe s₂) X.xe s₁) X.xe s:=by
 refine Oc (hi N3 s σ H _ I h) fun v s1 h1=>Oc h1 fun itv s2 h2=>?_
 obtain⟨it,fp,tn,J,H2,rfl,I2,T,st2,f2,W,⟨m0,w0⟩,turn⟩:=h2
 refine LU (wpAny_newFunctionEnv S.cell (by intro y hy; simp at hy) (fun h1 hns1 hsb1=>?_) S.kind)
 dsimp only at hns1 hsb1 ⊢
 generalize hH:s2.heap.push { cls:= .type "list",dict:=none,data:= .seq ([]:List Value).toArray }=HH at hns1 hsb1 ⊢
 have hC:HH.objs.size=s2.heap.objs.size+1:=by rw[<-hH,LK]
 have hDC:s2.heap.objs.size≠HH.objs.size:=by rw[hC]; exact K4 (My _)
 have hCle:s2.heap.objs.size<=HH.objs.size:=by rw[hC]; exact MJ _
 have kp: ∀b o,s2.heap.get? b=some o->h1.get? b=some o:=fun b o e =>
  hsb1.extBut b o (fun z=>absurd (KJ e) (MF.mpr (by rw[z]; exact hCle))) (Kx _ (hH▸Kx _ e))
 have ha:h1.get? s2.heap.objs.size=some (gf [] 0):=hsb1.extBut _ _ hDC (Kx _ (hH▸K9 _ rfl))
 have hlt: ∀b∈fp,b < s2.heap.objs.size:=fun b hb=>by
  obtain⟨o,e,_⟩:=T.obj _ _ st2 b hb
  exact KJ e
 obtain⟨b1,b2,b3⟩:=hb HH.objs.size s2 H2 fp
 have IS: ∀tk,Inv (bf X (own++frn) scope HH.objs.size s2 H2 fp) [] (cH own fr σ) H2 { s2 with heap:=h1,toks:=tk }:=fun tk=>Af S hp I2 hfr f2 hlt hCle hns1 kp
 have st3:tn 0 h1:=T.keep _ _ _ st2 fun b _ o e=>kp b o e
 have okc:=zg S hp I2 f2 hlt hCle
 have fp3: ∀b∈fp,ck (bf X (own++frn) scope HH.objs.size s2 H2 fp) [] H2 b:=fun b hb=>⟨(f2 b hb).1,(okc.exf b hb).1,okc.exfs b hb,.inl hb,(okc.exf b hb).2,fun p hp'=>by cases hp'⟩
 have loop: ∀tk,codeAny (model X.prog X.w) X.A (.compLoop (.ListComp elt [⟨tg,iter,ifs,0⟩] scope pos) 0 (.ref it) (.ref s2.heap.objs.size) (compEnvC scope (cL scope.names X.env.cells []) HH.objs.size X.env))
   (RR (.ref s2.heap.objs.size) HH.objs.size) { s2 with heap:=h1,toks:=tk }:=fun tk=>by
  refine D6 (hc _ _ _ _) go T (Ku _) hDC (fun z=>absurd (hlt _ z) (L7 _)) b1 b2 b3 (IS tk) st3 fp3 ha I2.fresh w0 turn fun s5 H5 ys its n σ5 I5 a5 rv hz d5 q=>?_
  obtain⟨m5,n5,_⟩:=I5.loc
  have fC:=I2.iZ (b:=HH.objs.size) (H':=H2) hCle (I2.hok.fresh hCle)
  have f5:H5 HH.objs.size=none:=I5.free
  refine fin HH.objs.size _ s5 _ m5 (comp_back I2 f2 hCle (Ku _) hDC I5 a5 rv hz d5 (.refl ..)) (fun h' sb=>comp_back I2 f2 hCle (Ku _) hDC I5 a5 rv hz d5 sb) n5 ?_ fC.2.1 (KR I2.sz hCle) fC.2.2.2.2.1 fC.2.2.2.2.2 q
  rw[ai (K2 hDC)]
  exact f5
 exact codeAny_compStart_list (loop _) (T.self _ _ _ _ _ st3 (loop _))
theorem CZ {cond:Cx->Prop}{psc scope:Scope}{own frn:List Str}{fr:List Nat}{tg elt iter:Expr}{ifs:List Expr}{pos:Pos}{wi:TI}{g:TG}{tt:TT}{te:TE}(S:i9 psc scope own frn) (hp:X.env.scope=psc) (hfr:fr.map (fun j=>X.N[j]?)=frn.map some)
  (hc: ∀C s2 H2 fp,cond (bf X (own++frn) scope C s2 H2 fp)) (go:mS own.length g) (hi:P1 cond X tg iter wi)
  (hb: ∀C s2 H2 fp,PG (bf X (own++frn) scope C s2 H2 fp) tg g/\O9 (bf X (own++frn) scope C s2 H2 fp) ifs tt/\PE (bf X (own++frn) scope C s2 H2 fp) elt te)
  (hs: ∀x,foldedSetIterable iter X.env x=pure x:=by intro _; rfl):PE X (.ListComp elt [⟨tg,iter,ifs,0⟩] scope pos) (sN wi g tt te own fr):=by
 intro N3 s σ H Q I h
 have hclos:closureFor scope X.env=pure (cL scope.names X.env.cells []):=qI fun x hx hk=>I.ok.has x.1 (by have:=S.free x hx hk; rw[<-hp] at this; exact this)
 rw[eval_ListComp]
 refine wpAny_comprehension_free (use:=none) rfl hs hclos S.kind S.names (vQ (RR:=fun acc C=>compPost (model X.prog X.w) X.A X.xe none (EP X N3 σ Q) acc C) S hp hfr hc go hi hb I h ?_)
 intro C D s5 H6 m5 I5 I5' n5 _ _ _ _ _ q
 exact⟨m5,n5,fun h' sb=>⟨.ref D,H6,I5' h' sb,rfl,q⟩⟩
theorem Fl {psc scope:Scope}{own frn:List Str}{fr:List Nat}{tg elt iter:Expr}{ifs:List Expr}{pos:Pos}{wi:TI}{g:TG}{tt:TT}{te:TE}(S:i9 psc scope own frn) (hp:X.env.scope=psc) (hfr:fr.map (fun j=>X.N[j]?)=frn.map some)
  (hc:X.calm=true) (go:mS own.length g) (hi:PI X tg iter wi)
  (hb: ∀C s2 H2 fp,PG (bf X (own++frn) scope C s2 H2 fp) tg g/\O9 (bf X (own++frn) scope C s2 H2 fp) ifs tt/\PE (bf X (own++frn) scope C s2 H2 fp) elt te)
  (hs: ∀x,foldedSetIterable iter X.env x=pure x:=by intro _; rfl):PE X (.ListComp elt [⟨tg,iter,ifs,0⟩] scope pos) (sN wi g tt te own fr):=CZ S hp hfr (fun _ _ _ _=>hc) go hi.c hb hs
theorem EI {i:Nat}{y:Str}{psc scope:Scope}{own frn:List Str}{fr:List Nat}{tg elt iter:Expr}{ifs:List Expr}{pos py spos:Pos}{wi:TI}{g:TG}{tt:TT}{te:TE}(hN:X.N.Nodup) (hy:X.N[i]?=some y) (hl:Loc X.env.scope y) (S:i9 psc scope own frn) (hp:X.env.scope=psc) (hfr:fr.map (fun j=>X.N[j]?)=frn.map some)
  (hc:X.calm=true) (go:mS own.length g) (hi:PI X tg iter wi)
  (hb: ∀C s2 H2 fp,PG (bf X (own++frn) scope C s2 H2 fp) tg g/\O9 (bf X (own++frn) scope C s2 H2 fp) ifs tt/\PE (bf X (own++frn) scope C s2 H2 fp) elt te)
  (hsw:swapsWith (.ListComp elt [⟨tg,iter,ifs,0⟩] scope pos) (some (.Name y py)) spos.line X.env=pure true:=by rfl)
  (hs: ∀x,foldedSetIterable iter X.env x=pure x:=by intro _; rfl)
  (hf:X.fn y=true\/X.env.scope.names.lookup y=some .local:=by first | exact .inl rfl | exact .inr rfl | assumption) :
  PS X (.Assign [.Name y py] (.ListComp elt [⟨tg,iter,ifs,0⟩] scope pos) spos) (yf (sN wi g tt te own fr) (aO i)):=by
 intro N3 s σ H E I h
 have hclos:closureFor scope X.env=pure (cL scope.names X.env.cells []):=qI fun x hx hk=>I.ok.has x.1 (by have:=S.free x hx hk; rw[<-hp] at this; exact this)
 rw[exec_Assign_Name_used _ _ _ _ hsw]
 refine Kv (Ma (Kv ?_))
 show wpAny _ X.A (do let _ <-comprehension (.ListComp elt [⟨tg,iter,ifs,0⟩] scope pos) scope X.env _ (newList []) false (eval iter X.env) (some (assign (.Name y py) X.env))) _ _ s
 refine Kv (Lx (wpAny_comprehension_free (use:=some (assign (.Name y py) X.env)) (Q:=fun _ s'=>SP X N3 E .next s') rfl hs hclos S.kind S.names (vQ (Q:=fun v H'=>E.nx (σ.set i (some v)) H')
  (RR:=fun acc C=>compPost (model X.prog X.w) X.A X.xe (some (assign (.Name y py) X.env)) (fun _ s'=>SP X N3 E .next s') acc C) S hp hfr (cond:=fun X=>X.calm=true) (fun _ _ _ _=>hc) go hi.c hb I h ?_)) (fun _ s' hq=>KP (KP hq)) fun _ _ e=>e)
 intro C D s5 H6 m5 I5 _ n5 f1 f2 f3 f4 f5 q
 show wpAny _ X.A (assign (.Name y py) X.env (.ref D)) _ _ _
 refine wpAny_assign_Name (vK (v:= .ref D) I5 hN hy hl rfl (fun s6 I6 ⟨a,sb,ha⟩=>?_) hf)
 have hCa:C≠a:=by
  rcases ha with rfl | e
  .exact f2
  .exact fun z=>f4 _ _ e z.symm
 exact⟨m5,n5.sameBut sb hCa,fun h' sb'=>⟨_,H6,I6.turned (t':=s6.toks) (it:=C) (fun b o hb e=>sb'.extBut b o hb e) f1 f2 (.inr f3) f4 f5,q⟩⟩
end
def Pq (z:Str):It:=⟨fun i _=>i < z.cps.size,fun i H x H'=>H'=H/\ ∃c,z.cps[i]?=some c/\x= .str ⟨#[c]⟩,fun i _=>z.cps.size<=i⟩
theorem Bu {P:Program}{w:World}{K:N7}{tg:Expr}(z:Str) (t:Tok) (it:Addr):Turn P w K tg (Pq z) [it] it (fun i h=>h.IsStrIter it "str_ascii_iterator" z t i) where
 mem:=by simp
 obj:=fun i h ⟨o,e,c,d⟩ b hb=>by
  rcases Kt.mp hb with rfl
  exact⟨o,e,fun v y=>by rw[d] at y; cases y⟩
 keep:=fun i h h' ⟨o,e,r⟩ k=>⟨o,k it (by simp) o e,r⟩
 item:=by
  intro X hP hw hK hc i N3 s σ H E I hf st hg
  subst hP hw hK
  obtain⟨f0,f1,f2,f3,f4,f5⟩:=hf it (by simp)
  have hg:i < z.cps.size:=hg
  refine wpAny_pyNext_ascii_item st (c:=z.cps[i]'hg) (Mv hg) fun h' st' sb=>?_
  have I1:Inv X N3 σ H { s with heap:=h',toks:=s.toks+1 }:=I.turned (fun b o hb e=>(sb.2 b hb).trans e) f0 f1 f3 f4 f5
  obtain⟨o,e,c,d⟩:=id st'
  exact⟨_,rfl,wF (s:={ s with heap:=h',toks:=s.toks+1 }) e c d (by decide) ⟨.str ⟨#[z.cps[i]'hg]⟩,H,I1,⟨_,rfl⟩,⟨rfl,_,Mv hg,rfl⟩,st',fun b hb=>(hf b hb).1⟩⟩
 done:=by
  intro X hP hw hK hc i N3 s σ H E I hf st hg
  subst hP hw hK
  obtain⟨f0,f1,f2,f3,f4,f5⟩:=hf it (by simp)
  exact wpAny_pyNext_ascii_end (I.ok.hd hc) st (Array.getElem?_eq_none hg) fun h' eb=>⟨rfl,I.turned (t':=s.toks) (fun b o hb e=>eb b o hb e) f0 f1 f3 f4 f5⟩
 self:=fun _ _ _ _ _ st h=>wpAny_pyIter_striter_ascii st h
theorem Cm {P:Program}{w:World}{K:N7}{tg:Expr}(z:Str) (t:Tok) (it:Addr):Turn P w K tg (Pq z) [it] it (fun i h=>h.IsStrIter it "str_iterator" z t i) where
 mem:=by simp
 obj:=fun i h ⟨o,e,c,d⟩ b hb=>by
  rcases Kt.mp hb with rfl
  exact⟨o,e,fun v y=>by rw[d] at y; cases y⟩
 keep:=fun i h h' ⟨o,e,r⟩ k=>⟨o,k it (by simp) o e,r⟩
 item:=by
  intro X hP hw hK hc i N3 s σ H E I hf st hg
  subst hP hw hK
  obtain⟨f0,f1,f2,f3,f4,f5⟩:=hf it (by simp)
  have hg:i < z.cps.size:=hg
  refine wpAny_pyNext_wide_item st (c:=z.cps[i]'hg) (Mv hg) fun h' st' sb=>?_
  have I1:Inv X N3 σ H { s with heap:=h',toks:=s.toks+1 }:=I.turned (fun b o hb e=>(sb.2 b hb).trans e) f0 f1 f3 f4 f5
  obtain⟨o,e,c,d⟩:=id st'
  exact⟨_,rfl,wF (s:={ s with heap:=h',toks:=s.toks+1 }) e c d (by decide) ⟨.str ⟨#[z.cps[i]'hg]⟩,H,I1,⟨_,rfl⟩,⟨rfl,_,Mv hg,rfl⟩,st',fun b hb=>(hf b hb).1⟩⟩
 done:=by
  intro X hP hw hK hc i N3 s σ H E I hf st hg
  subst hP hw hK
  obtain⟨f0,f1,f2,f3,f4,f5⟩:=hf it (by simp)
  exact wpAny_pyNext_wide_end (I.ok.hd hc) st (Array.getElem?_eq_none hg) fun h' eb=>⟨rfl,I.turned (t':=s.toks) (fun b o hb e=>eb b o hb e) f0 f1 f3 f4 f5⟩
 self:=fun _ _ _ _ _ st h=>wpAny_pyIter_striter_wide st h
section
variable {X:Cx}{tg:Expr}
inductive Iv (R:It->Hp->Prop) (x:V) (H1:Hp):Prop | mk (z:_) (e0:x= .str z) (q:R (Pq z) H1)
def Jx (tl:TE):TI:=fun σ H R=>tl σ H fun x H1=>Iv R x H1
theorem F8 {l:Expr}{tl:TE}(hl:PE X l tl):PI X tg l (Jx tl):=by
 intro N3 s σ H R I h
 refine Oc (hl N3 s σ H _ I h) fun v s1 ⟨x,H1,I1,r1,q1⟩=>?_
 obtain⟨z,rfl,q⟩:=q1
 obtain⟨t,rfl⟩:=r1
 cases ha:z.cps.all (· < 128) with
 | true =>
  refine wpAny_pyIter_ascii ha ⟨_,[s1.heap.objs.size],_,Pq z,H1,rfl,I1.kept (t':=s1.toks) fun b o e=>Kx _ e,Bu z t _,⟨_,K9 _ rfl,rfl,rfl⟩,fun b hb=>?_,q⟩
  rcases Kt.mp hb with rfl
  exact I1.iZ (Ku _) I1.fresh
 | false =>
  refine wpAny_pyIter_wide ha ⟨_,[s1.heap.objs.size],_,Pq z,H1,rfl,I1.kept (t':=s1.toks) fun b o e=>Kx _ e,Cm z t _,⟨_,K9 _ rfl,rfl,rfl⟩,fun b hb=>?_,q⟩
  rcases Kt.mp hb with rfl
  exact I1.iZ (Ku _) I1.fresh
end
section
variable {X:Cx}
theorem vO:Ol X (compareOp .LtE) (fun x y H Q=> ∃i j,x= .str i/\y= .str j/\Q (.bl (!decide (j.cps.toList < i.cps.toList))) H):=by
 intro N3 s σ H x y v u Q I r1 r2 h
 obtain⟨i,j,rfl,rfl,q⟩:=h
 obtain⟨t,rfl⟩:=r1
 obtain⟨t',rfl⟩:=r2
 exact PySem.P.le_str ⟨.bl _,H,I,rfl,q⟩
theorem tF {prog:Program}{w:World}{A:Around}{its:List Value}{bs:List Bool}(r:Vals (bs.map V.bl) its):TruthOf prog w A (fun i v=>its.toArray[i]?=some v) (fun i=>bs.getD i false):=by
 intro i v s Q E hv hq
 have hv':its[i]?=some v:=by simpa using hv
 have hb:i < bs.length:=by
  have h1:=(Ky.mp hv').1
  have h2:=r.length
  rw[Kq] at h2
  omega
 obtain⟨u,e1,e2⟩:=r.get (i:=i) (x:=V.bl (bs.getD i false)) (by rw[KH,KA,Kr hb]; rfl)
 rw[hv'] at e1
 cases e1
 have e3:v=Value.bool (bs.getD i false):=e2
 rw[e3]
 exact LH hq
theorem range_all (bs:List Bool):(List.range bs.length).all (fun i=>bs.getD i false)=bs.all id:=by
 rw[Mj,LD,LD]
 constructor
 .intro h x hx
  obtain⟨i,hi,rfl⟩:=Nu hx
  have:=h i (KZ.mpr hi)
  rwa [KA,Kr hi] at this
 .intro h i hi
  have hi':=KZ.mp hi
  rw[KA,Kr hi']
  exact h _ (Mc hi')
theorem range_any (bs:List Bool):(List.range bs.length).any (fun i=>bs.getD i false)=bs.any id:=by
 rw[Mj,NS,NS]
 constructor
 .rintro⟨i,hi,h⟩
  have hi':=KZ.mp hi
  rw[KA,Kr hi'] at h
  exact⟨_,Mc hi',h⟩
 .rintro⟨x,hx,h⟩
  obtain⟨i,hi,rfl⟩:=Nu hx
  exact⟨i,KZ.mpr hi,by rw[KA,Kr hi]; exact h⟩
theorem D0 (hc:X.calm=true):cX X (.builtin "all") (fun xs H Q=> ∃(a:Addr) (bs:List Bool),xs=[.ref a]/\N5 X.K H a (bs.map V.bl)/\Q (.bl (bs.all id)) H):=by
 intro N3 s σ H xs us Q I r h
 obtain⟨a,bs,rfl,hq,q⟩:=h
 obtain⟨u,rfl,ru⟩:=vals1 r
 cases ru
 obtain⟨its,rv,p,hz⟩:=I.list hq
 have hlt:a < s.heap.objs.size:=p.lt
 have hl:bs.length=its.toArray.size:=by
  have:=rv.length
  rw[Kq] at this
  simpa using this
 refine call_all_walk (Ms p.isList ⟨_,_,_,_,_,_,_,rfl,Walks.list (A:=X.A.in1) (I.ok.hd hc) s.heap.objs.size a (K4 hlt) its.toArray,
  ⟨⟨_,K9 _ rfl,rfl,rfl⟩,p.isList.at fun o e=>Kx _ e⟩,tF rv,fun h' tk k=>?_⟩)
 rw[<-hl,range_all]
 exact⟨.bl _,H,I.kept (t':=tk) fun b o e=>k b o (fun z=>by
  rcases Kt.mp z with rfl
  exact absurd (KJ e) (L7 _)) (Kx _ e),rfl,q⟩
theorem CK (hc:X.calm=true):cX X (.builtin "any") (fun xs H Q=> ∃(a:Addr) (bs:List Bool),xs=[.ref a]/\N5 X.K H a (bs.map V.bl)/\Q (.bl (bs.any id)) H):=by
 intro N3 s σ H xs us Q I r h
 obtain⟨a,bs,rfl,hq,q⟩:=h
 obtain⟨u,rfl,ru⟩:=vals1 r
 cases ru
 obtain⟨its,rv,p,hz⟩:=I.list hq
 have hlt:a < s.heap.objs.size:=p.lt
 have hl:bs.length=its.toArray.size:=by
  have:=rv.length
  rw[Kq] at this
  simpa using this
 refine call_any_walk (Ms p.isList ⟨_,_,_,_,_,_,_,rfl,Walks.list (A:=X.A.in1) (I.ok.hd hc) s.heap.objs.size a (K4 hlt) its.toArray,
  ⟨⟨_,K9 _ rfl,rfl,rfl⟩,p.isList.at fun o e=>Kx _ e⟩,tF rv,fun h' tk k=>?_⟩)
 rw[<-hl,range_any]
 exact⟨.bl _,H,I.kept (t':=tk) fun b o e=>k b o (fun z=>by
  rcases Kt.mp z with rfl
  exact absurd (KJ e) (L7 _)) (Kx _ e),rfl,q⟩
def P0 (K:N7) (x:V) (H:Hp) (T:String) (b:Bool):Prop :=
 match x with
 | .int _=>(T= "int" /\ b=true)\/(T∈["bool","str","list","tuple","dict"]/\b=false)
 | .bl _=>(T∈["int","bool"]/\b=true)\/(T∈["str","list","tuple","dict"]/\b=false)
 | .str _=>(T= "str" /\ b=true)\/(T∈["int","bool","list","tuple","dict"]/\b=false)
 | .ref a=>((∃xs,N5 K H a xs)/\((T= "list" /\ b=true)\/(T∈["int","bool","str","tuple","dict"]/\b=false))) \/
   ((∃xs,N9 K H a xs)/\((T= "tuple" /\ b=true)\/(T∈["int","bool","str","list","dict"]/\b=false)))
 | _=>False
theorem zZ {T a b c d e:String}(h:T∈[a,b,c,d,e]):T=a\/T=b\/T=c\/T=d\/T=e:=by simpa using h
theorem JN {T a b c d:String}(h:T∈[a,b,c,d]):T=a\/T=b\/T=c\/T=d:=by simpa using h
theorem Jr {T a b:String}(h:T∈[a,b]):T=a\/T=b:=by simpa using h
theorem dr:cX X (.builtin "isinstance") (fun xs H Q=> ∃x T b,xs=[x,.ty T]/\P0 X.K x H T b/\Q (.bl b) H):=by
 intro N3 s σ H xs us Q I r h
 obtain⟨x,T,b,rfl,hi,q⟩:=h
 obtain⟨u,u2,rfl,ru,ru2⟩:=vals2 r
 cases ru2
 have fin: ∀tk,EP X N3 σ Q (.bool b) { s with toks:=tk }:=fun tk=>⟨.bl b,H,I.tok tk,rfl,q⟩
 have fin0:EP X N3 σ Q (.bool b) s:=⟨.bl b,H,I,rfl,q⟩
 cases x with
 | int n =>
  obtain⟨t,rfl⟩:=ru
  rcases hi with⟨rfl,rfl⟩ | ⟨hm,rfl⟩
  .exact IsiPair.int_int fin0
  .rcases zZ hm with rfl | rfl | rfl | rfl | rfl
   .exact IsiPair.int_bool (fin _)
   .exact IsiPair.int_str (fin _)
   .exact IsiPair.int_list (fin _)
   .exact IsiPair.int_tuple (fin _)
   .exact IsiPair.int_dict (fin _)
 | bl n =>
  cases ru
  rcases hi with⟨hm,rfl⟩ | ⟨hm,rfl⟩
  .rcases Jr hm with rfl | rfl
   .first | exact IsiPair.bool_int fin0 | exact IsiPair.bool_int (fin _)
   .exact IsiPair.bool_bool fin0
  .rcases JN hm with rfl | rfl | rfl | rfl
   .exact IsiPair.bool_str (fin _)
   .exact IsiPair.bool_list (fin _)
   .exact IsiPair.bool_tuple (fin _)
   .exact IsiPair.bool_dict (fin _)
 | str n =>
  obtain⟨t,rfl⟩:=ru
  rcases hi with⟨rfl,rfl⟩ | ⟨hm,rfl⟩
  .exact IsiPair.str_str fin0
  .rcases zZ hm with rfl | rfl | rfl | rfl | rfl
   .exact IsiPair.str_int (fin _)
   .exact IsiPair.str_bool (fin _)
   .exact IsiPair.str_list (fin _)
   .exact IsiPair.str_tuple (fin _)
   .exact IsiPair.str_dict (fin _)
 | ref a =>
  cases ru
  rcases hi with⟨⟨xs,hq⟩,hi⟩ | ⟨⟨xs,hq⟩,hi⟩
  .obtain⟨its,_,⟨o,n,e,c,_⟩,_⟩:=I.list hq
   rcases hi with⟨rfl,rfl⟩ | ⟨hm,rfl⟩
   .exact IsiPair.list_list e c fin0
   .rcases zZ hm with rfl | rfl | rfl | rfl | rfl
    .exact IsiPair.list_int e c (fin _)
    .exact IsiPair.list_bool e c (fin _)
    .exact IsiPair.list_str e c (fin _)
    .exact IsiPair.list_tuple e c (fin _)
    .exact IsiPair.list_dict e c (fin _)
  .obtain⟨its,_,hT,_⟩:=I.tuple hq
   obtain⟨o,e,c,_⟩:=hT
   rcases hi with⟨rfl,rfl⟩ | ⟨hm,rfl⟩
   .exact IsiPair.tuple_tuple e c fin0
   .rcases zZ hm with rfl | rfl | rfl | rfl | rfl
    .exact IsiPair.tuple_int e c (fin _)
    .exact IsiPair.tuple_bool e c (fin _)
    .exact IsiPair.tuple_str e c (fin _)
    .exact IsiPair.tuple_list e c (fin _)
    .exact IsiPair.tuple_dict e c (fin _)
 | _=>exact hi.elim
end
def TF (K:N7) (mg:Str->Option Value) (x:Str) (st:Stmt):Prop:= ∃f fd,mg x=some (.ref f)/\Pg K x x st f fd
def Oj (P:Program) (w:World) (K:N7) (mg:Str->Option Value) (base:Heap) (k:Nat) (x:Str) (ps:List Str) (sp:Sp):Prop :=
 ∃f fd,mg x=some (.ref f)/\(∃oc od osl,K.lookup f=some ⟨oc,od,.func fd,osl⟩)/\PySem.W.keepIn K (.ref f)=true/\Binds K fd ps []/\dW P w K mg base OC k f fd ps sp
section
variable {P:Program}{w:World}{K:N7}{mg:Str->Option Value}{base:Heap}
theorem aX {h:Heap}{x:Str}{st:Stmt}{f:Addr}{oc:Value}{od an:Option Addr}{osl:Array (Option Value)}{kV doc pm cdv ct:Value}(X:K.In h) (G:h.Ns mainGlobals mg) (a:PySem.W.nsIn K mainGlobals x=some (some (.ref f)))
  (l:K.lookup f=some ⟨oc,od,.func (PySem.W.fnOf x x (dG st) (bO st) (aj st) .none kV doc pm an cdv ct),osl⟩) (c:PySem.W.codeIn K cdv x=true) (k:PySem.W.keepIn K (.ref f)=true):TF K mg x st :=
 ⟨f,_,PySem.W.mg_of X G a,BM (st:=st) l c k⟩
theorem lb {x:Str}{st:Stmt}{N ps:List Str}{k:Nat}{sp:Sp}(h:TF K mg x st) (S:ay N ps (aj st))
  (hb: ∀(kV doc pm:Value) (an:Option Addr) (cdv ct:Value) (us:List Value),us.length=ps.length->bindArgs (PySem.W.fnOf x x (dG st) (bO st) (aj st) .none kV doc pm an cdv ct) ⟨us,[]⟩=pure (ps.zip us))
  (len: ∀vs H Q E,sp vs H Q E->vs.length=ps.length)
  (hbody: ∀(f:Addr) (cdv:Value) (A:Around) (outer:List Env) (s:Shared) (H:Hp) (vs:List V) (Q:VK) (E:XK),bC k (A.deeper (envOfC x (aj st) s.heap.objs.size f cdv))->sp vs H Q E ->
   ∃t,Ov (gu OC P w K mg base N x (aj st) f cdv A outer s H E).Pe (bO st) t/\t { nx:=fun _ H'=>Q .non H',rt:=Q } (start N vs) H):Oj P w K mg base (k+1) x ps sp:=by
 obtain⟨f,fd,hm,F⟩:=h
 obtain⟨oc,od,_,_,_,_,_,_,osl,_,lk,_⟩:=id F.ex
 exact⟨f,fd,hm,⟨oc,od,osl,lk⟩,F.kp,F.binds hb,F.ok S len fun cdv A outer s H vs Q E hr hs=>hbody f cdv A outer s H vs Q E hr hs⟩
theorem FD {x p:Str}{st:Stmt}{sp:Sp}{k:Nat}{fa:Addr}(h:TF K mg x st) (hg: ∀base,Oj P w K mg base k x [p] sp) (hmg:mg x=some (.ref fa))
  (hb: ∀(kV doc pm:Value) (an:Option Addr) (cdv ct:Value) (s:Shared) (u:Value),BindsTo s (PySem.W.fnOf x x (dG st) (bO st) (aj st) .none kV doc pm an cdv ct) ⟨[u],[]⟩ [(p,u)]) :
  ∃fd:FuncData,(∀(s:Shared) (u:Value),BindsTo s fd ⟨[u],[]⟩ [(p,u)])/\ ∀base:Heap,dW P w K mg base OC k fa fd [p] sp:=by
 obtain⟨f,fd,hm,F⟩:=h
 obtain⟨oc,od,kV,doc,pm,an,cdv,ct,osl,rfl,lk,_⟩:=F.ex
 have e:=hmg.symm.trans hm
 cases e
 refine⟨_,hb kV doc pm an cdv ct,fun base=>?_⟩
 obtain⟨f',fd',hm',⟨oc',od',osl',lk'⟩,_,_,G⟩:=hg base
 have e:=hm.symm.trans hm'
 cases e
 have e2:=lk.symm.trans lk'
 cases e2
 exact G
end
section
variable {X:Cx}{k:Nat}{x:Str}{ps:List Str}{sp:Sp}{p pos:Pos}{e:Expr}{es:List Expr}{t:TA}
theorem aE (F:Oj X.prog X.w X.K X.mg X.base k x ps sp) (hr:bC k X.A) (ha:PA X (e::es) t) (hg:Gl X x:=by rfl) (hdb:(x == ("__debug__" : Str))=false:=by decide)
  (he:starEach (e::es) X.env=(false,eval e X.env)::starEach es X.env:=by rfl) (hpl:(backTo pos (starEach es X.env)).any (·.1)=false:=by rfl):PE X (.Call (.Name x p) (e::es) [] pos) (zP sp [] E0 t):=by
 obtain⟨f,fd,hm,_,kp,hb,F⟩:=F
 exact FQ F hr hg hm kp hb .nil wD ha hdb he hpl
end
def jz (K:N7) (mg:Str->Option Value) (x:Str) (xs:List V):Prop:= ∃a,mg x=some (.ref a)/\ ∀H,N9 K H a xs
theorem mB {K:N7}{mg:Str->Option Value}{h:Heap}{x:Str}{xs:List V}{a:Addr}{o:Obj}{its:Array Value}{n:Nat}(X:K.In h) (G:h.Ns mainGlobals mg) (e:PySem.W.nsIn K mainGlobals x=some (some (.ref a)))
  (l:K.lookup a=some o) (hc:o.cls= .type "tuple") (hd:o.data= .seq its n) (hz:its.size<=sizeLine) (hv:Vals xs its.toList):jz K mg x xs :=
 ⟨a,PySem.W.mg_of X G e,fun H=> .inr ⟨o,its,n,l,hc,hd,hz,hv⟩⟩
theorem mI {X:Cx}{x:Str}{xs:List V}{pos:Pos}(h:jz X.K X.mg x xs) (hg:Gl X x:=by rfl) (hd:(x == ("__debug__" : Str))=false:=by decide):PE X (.Name x pos) (fun _ H Q=> ∀a,(∀H',N9 X.K H' a xs)->Q (.ref a) H):=by
 obtain⟨a,hm,hq⟩:=h
 intro N3 s σ H Q I q
 exact zA (v:= .ref a) hg hm rfl hd N3 s σ H Q I (q a hq)
def mT (mg:Str->Option Value) (x:Str) (v:V):Prop:= ∃u,mg x=some u/\RelV v u
theorem j9 {X:Cx}{x:Str}{v:V}{pos:Pos}(h:mT X.mg x v) (hg:Gl X x:=by rfl) (hd:(x == ("__debug__" : Str))=false:=by decide):PE X (.Name x pos) (tC v):=by
 obtain⟨u,hm,r⟩:=h
 exact zA hg hm r hd
theorem boot_all:bootBuiltins "all" = some (.builtin "all"):=by trivial
theorem boot_bool:bootBuiltins "bool" = some (.type "bool"):=by trivial
theorem boot_int:bootBuiltins "int" = some (.type "int"):=by trivial
theorem boot_str:bootBuiltins "str" = some (.type "str"):=by trivial
theorem boot_list:bootBuiltins "list" = some (.type "list"):=by trivial
theorem boot_tuple:bootBuiltins "tuple" = some (.type "tuple"):=by trivial
theorem boot_dict:bootBuiltins "dict" = some (.type "dict"):=by trivial
theorem boot_max:bootBuiltins "max" = some (.builtin "max"):=by trivial
theorem boot_min:bootBuiltins "min" = some (.builtin "min"):=by trivial
theorem boot_sum:bootBuiltins "sum" = some (.builtin "sum"):=by trivial
theorem boot_any:bootBuiltins "any" = some (.builtin "any"):=by trivial
theorem boot_isinstance:bootBuiltins "isinstance" = some (.builtin "isinstance"):=by trivial
structure JL (J:It) (H:Hp) (xs:List V):Prop where
 go: ∀i,i < xs.length->J.go i H
 yld: ∀i x H',i < xs.length->J.yld i H x H'->H'=H/\xs[i]?=some x
 stop: ∀i,xs.length<=i->J.stop i H
theorem bo {K:N7}{a:Addr}{H:Hp}{xs:List V}(h:N5 K H a xs):JL (PR K a) H xs :=
 ⟨fun i hi=>⟨xs,_,h,Kr hi⟩,fun i x H' _ q=>⟨q.1,q.2 xs h⟩,fun i hi=>⟨xs,h,hi⟩⟩
def cj (lo:Int) (n:Nat):List V:=(List.range n).map fun i=>V.int (lo+(i:Nat))
theorem cK {lo:Int}{n:Nat}{H:Hp}:JL (Pm lo n) H (cj lo n):=by
 have hl:(cj lo n).length=n:=by simp[cj]
 refine⟨fun i hi=>by rw[hl] at hi; exact hi,fun i x H' hi q=>⟨q.1,?_⟩,fun i hi=>by rw[hl] at hi; exact hi⟩
 rw[hl] at hi
 rw[q.2]
 simp[cj,hi]
def lD (z:Str):List V:=z.cps.toList.map fun c=>V.str ⟨#[c]⟩
theorem G3 {z:Str}{H:Hp}:JL (Pq z) H (lD z):=by
 have hl:(lD z).length=z.cps.size:=by simp[lD]
 refine⟨fun i hi=>by rw[hl] at hi; exact hi,fun i x H' hi q=>⟨q.1,?_⟩,fun i hi=>by rw[hl] at hi; exact hi⟩
 obtain⟨_,c,hc,rfl⟩:=q
 have hc':z.cps.toList[i]?=some c:=by simpa using hc
 simp[lD,hc']
theorem yF {J:It}{xs:List V}{tt:TT}{te:TE}{own:List Str}{fr:List Nat}{σ:St}{H:Hp}{Q:VK}(hJ:JL J H xs) (pt:V->Bool) (f:V->V) (hz:xs.length < sizeLine)
  (ht: ∀x∈xs,∀R:Bool->Hp->Prop,R (pt x) H->tt ((cH own fr σ).set 0 (some x)) H R)
  (hs: ∀x∈xs,pt x=true-> ∀R:VK,R (f x) H->te ((cH own fr σ).set 0 (some x)) H R)
  (hq: ∀p,H p=none->Q (.ref p) (upd H p (.lst ((xs.filter pt).map f)))):mr J (aO 0) tt te own fr σ H Q:=by
 refine⟨fun i m ys H2=>H2=H/\i<=xs.length/\m=xs.length - i/\ys=((xs.take i).filter pt).map f,⟨xs.length,rfl,Lu _,rfl,rfl⟩,?_⟩
 rintro i m ys H2 ⟨rfl,hi,rfl,rfl⟩
 have hlen:(((xs.take i).filter pt).map f).length<=xs.length:=by
  rw[Kq]
  exact KR (Lp _ _) (by rw[K0]; exact NP _ _)
 by_cases hlt:i < xs.length
 .refine .inr ⟨hJ.go i hlt,LJ hlen hz,fun x H3 hy=>?_⟩
  obtain⟨rfl,hx⟩:=hJ.yld i x H3 hlt hy
  have hm:x∈xs:=Kw hx
  have hstep:((xs.take (i+1)).filter pt)=(xs.take i).filter pt++if pt x then [x] else []:=by
   rw[La,hx,LB]
   cases hp:pt x <;> simp[hp]
  refine ht x hm _ ?_
  cases hp:pt x with
  | false =>
   rw[Kp KN]
   refine⟨xs.length - (i+1),by omega,rfl,hlt,rfl,?_⟩
   rw[hstep,hp]
   simp
  | true =>
   rw[Ks rfl]
   refine hs x hm hp _ ⟨xs.length - (i+1),by omega,rfl,hlt,rfl,?_⟩
   rw[hstep,hp]
   simp
 .have e:i=xs.length:=by omega
  subst e
  refine .inl ⟨hJ.stop _ (Ku _),KR hlen (K7 hz),fun p hp=>?_⟩
  rw[K6]
  exact hq p hp
theorem B2 {J:It}{xs:List V}{te:TE}{own:List Str}{fr:List Nat}{σ:St}{H:Hp}{Q:VK}(hJ:JL J H xs) (f:V->V) (hz:xs.length < sizeLine)
  (hs: ∀x∈xs,∀R:VK,R (f x) H->te ((cH own fr σ).set 0 (some x)) H R)
  (hq: ∀p,H p=none->Q (.ref p) (upd H p (.lst (xs.map f)))):mr J (aO 0) g8 te own fr σ H Q:=by
 refine yF hJ (fun _=>true) f hz (fun _ _ R q=>q) (fun x hx _ R q=>hs x hx R q) fun p hp=>?_
 have e:xs.filter (fun _=>true)=xs:=by simp
 rw[e]
 exact hq p hp
theorem fk {J:It}{xs:List V}{g:TG}{tb:TS}{D:Ends}{σ:St}{H:Hp}(Pv:Nat->St->Hp->Prop) (h0:Pv 0 σ H) (hJ: ∀i σ H,i<=xs.length->Pv i σ H->JL J H xs)
  (hs: ∀i x σ H,xs[i]?=some x->Pv i σ H->g x σ H fun σ2 H2=>tb { D with nx:=Pv (i+1),ct:=Pv (i+1),bk:=D.nx } σ2 H2) (hd: ∀σ H,Pv xs.length σ H->D.nx σ H) :
  ∃W:Nat->Nat->St->Hp->Prop,(∃m,W 0 m σ H)/\ ∀i m σ H,W i m σ H ->
   (J.stop i H/\D.nx σ H)\/(J.go i H/\ ∃N:St->Hp->Prop,(∀σ' H',N σ' H'-> ∃m',m' < m/\W (i+1) m' σ' H')/\ ∀x H',J.yld i H x H'->g x σ H' fun σ2 H2=>tb { D with nx:=N,ct:=N,bk:=D.nx } σ2 H2):=by
 refine⟨fun i m σ H=>i<=xs.length/\m=xs.length - i/\Pv i σ H,⟨xs.length,Lu _,rfl,h0⟩,?_⟩
 rintro i m σ H ⟨hi,rfl,hp⟩
 have hj:=hJ i σ H hi hp
 by_cases hlt:i < xs.length
 .refine .inr ⟨hj.go i hlt,Pv (i+1),fun σ' H' q=>⟨xs.length - (i+1),by omega,hlt,rfl,q⟩,fun x H' hy=>?_⟩
  obtain⟨rfl,hx⟩:=hj.yld i x H' hlt hy
  exact hs i x σ H' hx hp
 .have e:i=xs.length:=by omega
  subst e
  exact .inl ⟨hj.stop _ (Ku _),hd σ H hp⟩
def Hq (t u:TS):TS:=fun D σ H=> ∃Mid:St->Hp->Prop,t { D with nx:=Mid } σ H/\ ∀σ' H',Mid σ' H'->u D σ' H'
def Iu (t:TE):TE:=fun σ H Q=> ∃Mid:VK,t σ H Mid/\ ∀v H',Mid v H'->Q v H'
section
variable {X:Cx}{st:Stmt}{rest:List Stmt}{t u:TS}{e:Expr}{te:TE}
theorem eF (h1:PS X st t) (h2:Ov X rest u):Ov X (st::rest) (Hq t u):=by
 intro N3 s σ H D I h
 obtain⟨Mid,ha,hb⟩:=h
 refine wpAny_execs_cons (Oc (h1 N3 s σ H { D with nx:=Mid } I ha) fun f s1 q=>?_)
 cases f with
 | next =>
  obtain⟨σ',H',I',m⟩:=q
  exact h2 N3 s1 σ' H' D I' (hb _ _ m)
 | ret v=>exact q
 | brk=>exact q
 | cont=>exact q
theorem jy (h:PE X e te):PE X e (Iu te):=by
 intro N3 s σ H Q I q
 obtain⟨Mid,ha,hb⟩:=q
 exact Oc (h N3 s σ H Mid I ha) fun v s' ⟨x,H',I',r,m⟩=>⟨x,H',I',r,hb _ _ m⟩
end
section
variable {prog:Program}{w:World}{A:Around}{E:Value->Shared->Prop}{h:Heap}{g:Array GenState}{d:Drawn}{tk:Nat}{os:OsState}
variable {nm qn:Str}{C N:Addr}{bs bm bmB:List Value}{hd:Bool}{sn:List Str}{sub:List Value}{ab:Bool}{col:Option Bool}{dd:Option Addr}{k0 k1 k2 k3 k5:Option Value}{B newId initId:String}
theorem uK (F:ExcBaseFacts B newId initId bmB) (T:OwnTail h bmB bm){mN:Str->Option Value}{as:List Value}{Q:PySem.Fin->Shared->Prop}
  (hC:h.get? C=some (excClassObj nm qn C N bs bm hd sn sub ab col dd k0 k1 k2 k3 k5 newId)) (hn:h.Ns N mN) (hni:mN "__init__" = none)
  (hq: ∀h' e,Heap.MadeExcOf h h' e (.ref C) as->h.objs.size<=e->Q (.done (.ret (.ref e))) ⟨h',g,d,tk,os⟩) (hz:as.length<=sizeLine) :
  wpAny (model prog w) A (Builtin.«type.__call__» ⟨.ref C::as,[]⟩) Q E ⟨h,g,d,tk,os⟩:=by
 repeat (first | with_reducible refine Mu hC ?_ | with_reducible refine wpAny_madeBy_exc hC ?_ | wp_step)
 refine codeAny_call_builtin_code (Code.quiet_builtin _ F.quiet) (wpAny_check_new_subT F T hC (codeAny_exc_new_subT F T hC ?_ hz))
 show wpAny _ _ _ _ _ _
 have c1:=Kx { cls:= .ref C,data:= .fields #[.ref h.objs.size,.none,.none,.none,.bool false,.none] } (Kx { cls:= .type "tuple",data:= .seq as.toArray } hC)
 have n1:((h.push { cls:= .type "tuple",data:= .seq as.toArray }).push { cls:= .ref C,data:= .fields #[.ref h.objs.size,.none,.none,.none,.bool false,.none] }).Ns N mN:=hn.keeps fun b o e=>Kx _ (Kx _ e)
 have g1:((h.push { cls:= .type "tuple",data:= .seq as.toArray }).push { cls:= .ref C,data:= .fields #[.ref h.objs.size,.none,.none,.none,.bool false,.none] }).get? (h.objs.size+1)=some { cls:= .ref C,data:= .fields #[.ref h.objs.size,.none,.none,.none,.bool false,.none] }:=by heap_get
 have cc:(Value.ref C::bm).contains (.ref C)=true:=by simp
 have t1:=T.keeps (h':=(h.push { cls:= .type "tuple",data:= .seq as.toArray }).push { cls:= .ref C,data:= .fields #[.ref h.objs.size,.none,.none,.none,.bool false,.none] }) fun b o e=>Kx _ (Kx _ e)
 unfold isInstance
 repeat (first | with_reducible refine Mu g1 ?_ | (with_reducible refine Nv c1 ?_; rw[cc]) | wp_step)
 show wpAny _ _ (typeLookup (.ref C) _) _ _ _
 refine wpAny_typeLookup_tail c1 n1 t1 F.mroIs F.init.lookup ?_
 rw[hni]
 refine L9 (Kv (wpAny_of_eq (F.init.bind _) (Kv (Nn (codeAny_call_builtin F.init.plain F.initEntry (wpAny_check_init_subT F t1 c1 g1 rfl ?_))))))
 wp_walk
 refine hq _ _ ⟨fun b o hb=>?_,Nc (MJ _),h.objs.size+2,?_,Nc (by omega),?_⟩ (MJ _)
 .rw[Lr _ _ (Nf (MN (KJ hb)))]; exact Kx _ (Kx _ (Kx _ hb))
 .rw[LX _ (Kx _ g1) rfl]
  simp only[LK]
  rfl
 .rw[Lr _ _ (show h.objs.size+1≠h.objs.size+2 by omega)]; exact Heap.get?_push_at (by simp only[LK]) rfl
theorem zT (F:ExcBaseFacts B newId initId bmB) (T:OwnTail h bmB bm){mN:Str->Option Value}{as:List Value}{Q:Value->Shared->Prop}
  (hC:h.get? C=some (excClassObj nm qn C N bs bm hd sn sub ab col dd k0 k1 k2 k3 k5 newId)) (hn:h.Ns N mN) (hni:mN "__init__" = none)
  (hq: ∀h' e,Heap.MadeExcOf h h' e (.ref C) as->h.objs.size<=e->Q (.ref e) ⟨h',g,d,tk,os⟩) (hz:as.length<=sizeLine) :
  wpAny (model prog w) A (call (.ref C) as) Q E ⟨h,g,d,tk,os⟩:=by
 have f1:=tc_lookup
 have f2:=tc_bind (.ref C)
 have ty:(⟨h,g,d,tk,os⟩:Shared).TypeIs (.ref C) "type" := ⟨_,hC,rfl⟩
 refine Nn (codeAny_of_tree ?_)
 show wpAny _ _ (callAny (.ref C) _) _ _ _
 repeat (any_goals (first | assumption | with_reducible refine Mu hC ?_ | wp_step))
 exact⟨rfl,codeAny_call_builtin_at (Code.quiet_builtin _ (by trivial)) entry_typeCall (wpAny_check_type_call_sub hC (uK F T hC hn hni (fun h' e m y=>hq h' e m y) hz))⟩
end
section
variable {prog:Program}{w:World}{A:Around}{E:Value->Shared->Prop}{s:Shared}{env:Env}
variable {nm qn:Str}{C N:Addr}{bs bm bmB:List Value}{hd:Bool}{sn:List Str}{sub:List Value}{ab:Bool}{col:Option Bool}{dd:Option Addr}{k0 k1 k2 k3 k5:Option Value}{B newId initId:String}
theorem yx (F:ExcBaseFacts B newId initId bmB){mN:Str->Option Value}{x:Str}{np cpos pos:Pos}{args:List Expr}{Q:Flow->Shared->Prop}
  (hbase:bm.contains (.type "BaseException")=true) (hh:A.handled=none) (hplain:(backTo cpos (starEach args env)).any (·.1)=false) (hni:mN "__init__" = none)
  (h:wpAny (model prog w) A (eval (.Name x np) env) (fun f s1=>f= .ref C/\wpAny (model prog w) A (evalArgs (.ref C) true (backTo cpos (starEach args env)) [])
   (fun a s2=>a.kw=[]/\a.pos.length<=sizeLine/\s2.heap.get? C=some (excClassObj nm qn C N bs bm hd sn sub ab col dd k0 k1 k2 k3 k5 newId)/\s2.heap.Ns N mN/\OwnTail s2.heap bmB bm /\
    ∀h' e,Heap.MadeExcOf s2.heap h' e (.ref C) a.pos->s2.heap.objs.size<=e->E (.ref e) { s2 with heap:=h' }) E s1) E s) :
  wpAny (model prog w) A (exec (.Raise (some (.Call (.Name x np) args [] cpos)) none pos) env) Q E s:=by
 rw[arm_exec_Raise]
 refine Kv (Ma (wpAny_raiseStmt_made_sub (C:=C) (nm:=nm) (q:=qn) (N:=N) (bs:=bs) (bm:=bm) (hdct:=hd) (sn:=sn) (sub:=sub) (ab:=ab) (col:=col) (dd:=dd) (k0:=k0) (k1:=k1) (k2:=k2) (k3:=k3) (k5:=k5) (newId:=newId) hbase hh ?_))
 refine Kv (Lx (wpAny_Call_ofName (Lx h (fun f s1 h1=>?_) fun _ _ y=>y)) (fun v s3 h3=>Kv (Ma (KP h3))) fun _ _ y=>y)
 obtain⟨rfl,h1⟩:=h1
 unfold callWith
 refine Kv (L9 (Lx h1 (fun a s2 h2=>Kv (Ma ?_)) fun _ _ y=>y))
 obtain⟨ap,ak⟩:=a
 obtain⟨hkw,hlen,hC,hn,T,h2⟩:=h2
 have hkw:ak=[]:=hkw
 subst hkw
 obtain⟨hp,g,d,tk,os⟩:=s2
 simp only[hplain]
 refine Kv (wpAny_keeperOf_exc hC (Kv (zT F T hC hn hni (fun h' e hm hy=>Kv (L9 (wpAny_point (KP ?_)))) hlen)))
 obtain⟨t,ht,_,_⟩:=hm.there
 exact⟨e,t,rfl,hm.keeps _ _ hC,ht,h2 h' e hm hy⟩
end
def pT (cls:Value) (t:Addr) (tb:Value):Obj:={ cls:=cls,data:= .fields #[.ref t,tb,.none,.none,.bool false,.none] }
def DN (h:Heap) (T:Addr) (fl:Value):Prop:= ∃oT ts,h.get? T=some oT/\oT.data= .fields ts/\ts[3]?=some fl
section
variable {M:Model}{A:Around}{E:Value->Shared->Prop}{s:Shared}
theorem vP {base:Heap}{env:Env}{outer:List Env}{L x t:Addr}{cls head:Value}{hadNext:Bool}{Q:Unit->Shared->Prop}(hfr:A.frames=some (env::outer)) (hl:s.heap.FunFrames base (env::outer)) (hf:env.frame=some L)
  (he:s.heap.get? x=some (pT cls t head)) (h: ∀h' T',s.heap.objs.size<=T'->h'.get? x=some (pT cls t (.ref T'))->DN h' T' (rawInt L)->(∀b o,b≠x->b∉OP (env::outer)->s.heap.get? b=some o->h'.get? b=some o) ->
   (∀b o,b≠x->s.heap.get? b=some o-> ∃sl,h'.get? b=some { o with slots:=sl })->Q () { s with heap:=h' }) :
  wpAny M A (do let a <-frameOf env; let pl <-entryPlaceOf L hadNext; let b <-EntryCells.newEntry head a .none (rawInt L) .none pl; setField (.ref x) 1 b) Q E s:=by
 have hx:x∉(env::outer).filterMap (·.frame):=fun hm=>by
  obtain⟨_,o,ho,hn⟩:=hl.mem hm
  rw[he] at ho
  cases ho
  exact hn _ rfl
 refine Kv (wpAny_frameOf_fun hfr hl hf fun h1 sl1=>Kv (wpAny_entryPlaceOf fun pl hpl=>?_))
 unfold EntryCells.newEntry newFields
 refine Kv (LU ?_ (hpl.sizeOk5 _ _ _ _ _))
 have e1:h1.get? x=some (pT cls t head):=(sl1.2.1 x hx).trans he
 generalize hT:({ cls:= .type "traceback",dict:=none,data:= .fields ([head,.ref L,.none,rawInt L,.none]++(if pl.isEmpty then List.replicate 6 Value.none else pl)).toArray }:Obj)=oT
 have e2:(h1.push oT).get? x=some (pT cls t head):=Kx _ e1
 have hTx:h1.objs.size≠x:=Nf (KJ e1)
 have fT:s.heap.objs.size<=h1.objs.size:=NO sl1.1.symm
 refine wpAny_setField e2 rfl (by show 1 < 6; decide) (h _ h1.objs.size fT ?_ ?_ (fun b o hb hn e=>?_) (fun b o hb e=>?_))
 .exact LX _ e2 rfl
 .refine⟨oT,([head,.ref L,.none,rawInt L,.none]++(if pl.isEmpty then List.replicate 6 Value.none else pl)).toArray,?_,by rw[<-hT],by simp⟩
  rw[Lr _ _ (K2 hTx)]
  exact K9 _ (by rw[<-hT]; rfl)
 .rw[Lr _ _ (K2 hb)]
  exact Kx _ ((sl1.2.1 b hn).trans e)
 .obtain⟨sl,q⟩:=sl1.2.2 b o e
  exact⟨sl,by rw[Lr _ _ (K2 hb)]; exact Kx _ q⟩
end
structure oh (X:Cx) (pn:List (Addr×Obj)) (H:Hp) (h:Heap) (x:Addr) (cls fl:Value):Prop where
 ok:ck X pn H x
 ex: ∃t T,h.get? x=some (pT cls t (.ref T))/\T≠x/\ck X pn H T/\DN h T fl
def Exc (X:Cx) (pn:List (Addr×Obj)) (H:Hp) (h:Heap) (x:Addr) (cls:Value):Prop :=
 (ck X pn H x/\ ∃t,h.get? x=some (pT cls t .none))\/oh X pn H h x cls .none\/oh X pn H h x cls (rawInt X.env.locals)
def Own (X:Cx):Prop:=X.stack=X.env::X.outer/\X.env.frame=some X.env.locals
section
variable {X:Cx}{pn:List (Addr×Obj)}{σ:St}{H:Hp}{s:Shared}{E:Value->Shared->Prop}
theorem Inv.CL {ch:List Addr}{h':Heap}(I:Inv X pn σ H s) (hch: ∀b∈ch,ck X pn H b) (k1: ∀b o,b∉ch->b∉OP X.stack->s.heap.get? b=some o->h'.get? b=some o)
  (k2: ∀b o,b∉ch->s.heap.get? b=some o-> ∃sl,h'.get? b=some { o with slots:=sl }):Inv X pn σ H { s with heap:=h' }:=by
 refine I.Aj (s':={ s with heap:=h' }) (ch:=ch) (H':=H) rfl ?_ ?_ I.bare fun b hb=>⟨(hch b hb).2.2.2.1,(hch b hb).2.1,fun x c hc=>(hch b hb).2.2.2.2.1 x c hc,(hch b hb).2.2.2.2.2⟩
 .exact⟨fun b o e _ hf hx=>k1 b o hx hf e,fun b o e _ _ hx=>k2 b o hx e,fun b o _ n _=>n,fun b o e hx=>let ⟨sl,q⟩:=k2 b o hx e; ⟨_,q⟩,fun b xs e=>e,fun b o u e=>e,fun b ps e=>⟨#[],by simpa using e⟩⟩
 .intro a o e
  refine (I.hok a o e).oi (fun b u hb q=>?_) (fun b hb=>hb) (fun b xs hb=>hb)
  have tr: ∃o',H b=some o':=by
   rcases hb with rfl | hb
   .exact⟨o,e⟩
   .exact⟨_,hb⟩
  obtain⟨o',ho'⟩:=tr
  refine k1 b u (fun z=>?_) (fun z=>?_) q
  .rw[(hch b z).1] at ho'
   cases ho'
  .rw[I.u9 b z] at ho'
   cases ho'
theorem Own.frames (O:Own X) (I:Inv X pn σ H s):X.A.frames=some (X.env::X.outer):=by rw[<-O.1]; exact I.ok.frames
theorem Own.fu (O:Own X) (I:Inv X pn σ H s):s.heap.FunFrames X.base (X.env::X.outer):=by rw[<-O.1]; exact I.stack
theorem xu {x:Addr}{cls:Value}{Q:Unit->Shared->Prop}{A:Around}(O:Own X) (hA:A.frames=X.A.frames) (I:Inv X pn σ H s) (e:Exc X pn H s.heap x cls)
  (h: ∀s',Inv X pn σ H s'->oh X pn H s'.heap x cls (rawInt X.env.locals)->Q () s'):wpAny (model X.prog X.w) A (noteFrame (.ref x) X.env) Q E s:=by
 have hfr:A.frames=some (X.env::X.outer):=hA.trans (O.frames I)
 have hxf: ∀ {b:Addr},ck X pn H b->b∉OP (X.env::X.outer):=fun {b} f z=>by
  rw[<-O.1] at z
  rcases Kz.mp (I.uh b z) with q | q
  .exact f.2.1 q
  .exact f.2.2.1 q
 rcases e with⟨fx,t,ex⟩ | ⟨fx,t,T,ex,hTx,fT,oT,ts,eT,dT,h3⟩ | e
 .unfold noteFrame
  simp only[O.2]
  refine Kv (Mx ex rfl (x:= .none) rfl ?_)
  rw[Kp (by decide)]
  refine vP hfr (O.fu I) O.2 ex fun h' T' hT' ex' tb' k1 k2=>?_
  have fT':ck X pn H T':=I.iZ hT' (I.hok.fresh hT')
  refine h _ (I.CL (ch:=[x]) (fun b hb=>by rcases Kt.mp hb with rfl; exact fx) (fun b o hb hn q=>k1 b o (fun z=>hb (by simp[z])) (by rw[<-O.1]; exact hn) q) (fun b o hb q=>k2 b o (fun z=>hb (by simp[z])) q))
   ⟨fx,t,T',ex',fun z=>?_,fT',tb'⟩
  exact absurd (KJ ex) (MF.mpr (by rw[<-z]; exact hT'))
 .unfold noteFrame
  simp only[O.2]
  refine Kv (Mx ex rfl (x:= .ref T) rfl ?_)
  rw[Ks (show (Value.ref T !=Value.none)=true from by simp)]
  refine Kv (Mx eT dT h3 ?_)
  rw[Kp (show ¬((Value.none == rawInt X.env.locals)=true) from by simp[rawInt])]
  refine Kv (wpAny_setField eT dT (NG.mp h3).1 ?_)
  have o1: ∀b,b≠T->(s.heap.update T (Obj.mapFields (·.setIfInBounds 3 Value.none))).get? b=s.heap.get? b:=fun b hb=>Lr _ _ (K2 hb)
  have hTf:=hxf fT
  have l1:(s.heap.update T (Obj.mapFields (·.setIfInBounds 3 Value.none))).FunFrames X.base (X.env::X.outer):=(O.fu I).of_keeps fun b o hb hn=>⟨o,(o1 b fun z=>by
   rw[z,eT] at hb
   cases hb
   exact hn _ dT).trans hb,rfl⟩
  refine vP (s:={ s with heap:=s.heap.update T (Obj.mapFields (·.setIfInBounds 3 Value.none)) }) hfr l1 O.2 ((o1 x (K2 hTx)).trans ex) fun h' T' hT' ex' tb' k1 k2=>?_
  have hT2:s.heap.objs.size<=T':=by
   rw[Heap.size_after_update] at hT'
   exact hT'
  have fT':ck X pn H T':=I.iZ hT2 (I.hok.fresh hT2)
  refine h _ (I.CL (ch:=[x,T]) (fun b hb=>?_) (fun b o hb hn q=>?_) (fun b o hb q=>?_)) ⟨fx,t,T',ex',fun z=>?_,fT',tb'⟩
  .rcases Kz.mp hb with rfl | hb
   .exact fx
   .rcases Kt.mp hb with rfl
    exact fT
  .exact k1 b o (fun z=>hb (by simp[z])) (by rw[<-O.1]; exact hn) ((o1 b fun z=>hb (by simp[z])).trans q)
  .exact k2 b o (fun z=>hb (by simp[z])) ((o1 b fun z=>hb (by simp[z])).trans q)
  .exact absurd (KJ ex) (MF.mpr (by rw[<-z]; exact hT2))
 .obtain⟨fx,t,T,ex,hTx,fT,oT,ts,eT,dT,h3⟩:=id e
  unfold noteFrame
  simp only[O.2]
  refine Kv (Mx ex rfl (x:= .ref T) rfl ?_)
  rw[Ks (show (Value.ref T !=Value.none)=true from by simp)]
  refine Kv (Mx eT dT h3 ?_)
  rw[Ks (show (rawInt X.env.locals == rawInt X.env.locals)=true from by first | (simp; done) | exact Mz _)]
  exact KP (h s I e)
theorem qz {x:Addr}{cls fl:Value}{fr:Option Addr}{Q:Unit->Shared->Prop}{A:Around}(I:Inv X pn σ H s) (e:oh X pn H s.heap x cls fl)
  (h: ∀s',Inv X pn σ H s'->oh X pn H s'.heap x cls (fr.elim .none fun f=>rawInt f)->Q () s'):wpAny (model X.prog X.w) A (setFlight (.ref x) fr) Q E s:=by
 obtain⟨fx,t,T,ex,hTx,fT,oT,ts,eT,dT,h3⟩:=e
 have hsz:3 < ts.size:=(NG.mp h3).1
 unfold setFlight
 refine Kv (Mx ex rfl (x:= .ref T) rfl ?_)
 rw[Ks (show (Value.ref T !=Value.none)=true from by simp)]
 refine wpAny_setField eT dT hsz ?_
 have o1: ∀b,b≠T->(s.heap.update T (Obj.mapFields (·.setIfInBounds 3 (fr.elim .none fun f=>rawInt f)))).get? b=s.heap.get? b:=fun b hb=>Lr _ _ (K2 hb)
 have dT':=Obj.data_mapFields dT (·.setIfInBounds 3 (fr.elim .none fun f=>rawInt f))
 refine h _ (I.CL (ch:=[T]) (fun b hb=>by rcases Kt.mp hb with rfl; exact fT) (fun b o hb _ q=>(o1 b fun z=>hb (by simp[z])).trans q) (fun b o hb q=>⟨o.slots,(o1 b fun z=>hb (by simp[z])).trans q⟩))
  ⟨fx,t,T,(o1 x (K2 hTx)).trans ex,hTx,fT,_,_,LX _ eT (Obj.isFreed_of_fields dT'),dT',by simp[hsz]⟩
end
def XE (X:Cx) (pn:List (Addr×Obj)) (E:St->XK):Value->Shared->Prop:=fun e s=> ∃σ H x cls,e= .ref x/\Inv X pn σ H s/\Exc X pn H s.heap x cls/\E σ cls none H
abbrev Cx.exc (X:Cx) (pn:List (Addr×Obj)) (E:St->XK):Cx:={ X with xe:=XE X pn E,pn:=X.pn++pn }
theorem Cx.Ok.exc {X:Cx}{pn:List (Addr×Obj)}{E:St->XK}(ok:X.Ok):(X.exc pn E).Ok :=
 ⟨ok.mod,ok.kind,ok.glob,ok.blt,ok.above,ok.inj,ok.has,ok.cab,ok.hd,ok.frames,ok.stk,ok.exf,ok.bs,ok.bsz,ok.noex,ok.exfs,ok.fu,ok.frf⟩
theorem Cx.Ok.eS {X:Cx}{pn:List (Addr×Obj)}{E:St->XK}(ok:(X.exc pn E).Ok):X.Ok :=
 ⟨ok.mod,ok.kind,ok.glob,ok.blt,ok.above,ok.inj,ok.has,ok.cab,ok.hd,ok.frames,ok.stk,ok.exf,ok.bs,ok.bsz,ok.noex,ok.exfs,ok.fu,ok.frf⟩
section
variable {X:Cx}{pn N3:List (Addr×Obj)}{E:St->XK}{σ:St}{H:Hp}{s:Shared}
theorem Inv.exc (I:Inv X (pn++N3) σ H s):Inv (X.exc pn E) N3 σ H s :=
 ⟨I.ok.exc,I.os,I.bare,I.base,I.loc,I.cell,I.free,I.freeC,fun p hp=>I.pin p (by rw[<-L6]; exact hp),I.hok,I.len⟩
theorem Inv.eS (I:Inv (X.exc pn E) N3 σ H s):Inv X (pn++N3) σ H s :=
 ⟨I.ok.eS,I.os,I.bare,I.base,I.loc,I.cell,I.free,I.freeC,fun p hp=>I.pin p (by rw[<-L6] at hp; exact hp),I.hok,I.len⟩
theorem ck.eS {b:Addr}(f:ck (X.exc pn E) N3 H b):ck X pn H b :=
 ⟨f.1,f.2.1,f.2.2.1,f.2.2.2.1,f.2.2.2.2.1,fun p hp=>f.2.2.2.2.2 p (Lo _ hp)⟩
theorem oh.eS {h:Heap}{x:Addr}{cls fl:Value}(e:oh (X.exc pn E) N3 H h x cls fl):oh X pn H h x cls fl :=
 ⟨e.ok.eS,let ⟨t,T,a,b,c,d⟩:=e.ex; ⟨t,T,a,b,c.eS,d⟩⟩
theorem Exc.eS {h:Heap}{x:Addr}{cls:Value}(e:Exc (X.exc pn E) N3 H h x cls):Exc X pn H h x cls:=by
 rcases e with⟨f,t,e⟩ | e | e
 .exact .inl ⟨f.eS,t,e⟩
 .exact .inr (.inl e.eS)
 .exact .inr (.inr e.eS)
theorem xI {x:Addr}{cls:Value}(I:Inv (X.exc pn E) N3 σ H s) (e:Exc (X.exc pn E) N3 H s.heap x cls) (q:E σ cls none H):(X.exc pn E).xe (.ref x) s :=
 ⟨σ,H,x,cls,rfl,I.eS.jY fun p hp=>I.eS.pin p (K5 _ (Lo _ hp)),e.eS,q⟩
end
def OH (P:Program) (w:World):OM:=fun outer H s E e s'=> ∃x t T cls H',e= .ref x/\s'.os=s.os/\AllBare s'.gens/\Un (OP outer) [] H H' s.heap s'.heap/\Oq P w H' s'.heap /\
 s.heap.objs.size<=x/\s.heap.objs.size<=T/\s'.heap.get? x=some (pT cls t (.ref T))/\T≠x/\DN s'.heap T .none/\H' x=none/\H' T=none/\E cls none H'
section
variable {X:Cx}{pn N3:List (Addr×Obj)}{E:St->XK}{σ:St}{H:Hp}{s:Shared}
theorem yK (I:Inv (X.exc pn E) N3 σ H s){e:Value}{s':Shared}(c:OH X.prog X.w X.stack H s (E σ) e s'):(X.exc pn E).xe e s':=by
 obtain⟨x,t,T,cls,H',rfl,ho,hg,u,hok,hx,hT,ex,hTx,tb,fx,fT,q⟩:=c
 have I':Inv (X.exc pn E) N3 σ H' s':=I.Aj (ch:=[]) ho u hok hg fun b hb=>by cases hb
 have F: ∀b,s.heap.objs.size<=b->H' b=none->ck (X.exc pn E) N3 H' b:=fun b hb hn=>I.iZ hb hn
 exact xI I' (.inr (.inl ⟨F x hx fx,t,T,ex,hTx,F T hT fT,tb⟩)) q
end
section
variable {P:Program}{w:World}{K:N7}{mg:Str->Option Value}{base:Heap}
theorem Di {CX:OM}{N:List Str}{qual:Str}{scope:Scope}{f:Addr}{cd:Value}{A:Around}{outer:List Env}{s:Shared}{H:Hp}{E:XK}:Own (gu CX P w K mg base N qual scope f cd A outer s H E):=⟨rfl,rfl⟩
theorem xW {N:List Str}{qual:Str}{scope:Scope}{f:Addr}{cd:Value}{A:Around}{outer:List Env}{s:Shared}{H:Hp}{E:XK}{body:List Stmt}{t:TS}
  (h:Ov ((gu (OH P w) P w K mg base N qual scope f cd A outer s H E).exc [] fun _=>E) body t):Ov (gu (OH P w) P w K mg base N qual scope f cd A outer s H E) body t:=by
 intro N3 s1 σ H1 D I q
 refine Lx (h N3 s1 σ H1 D (Inv.exc (pn:=[]) I) q) (fun fl s2 sp=>?_) (fun e s2 x=>?_)
 .cases fl with
  | next=>obtain⟨σ',H',I',q'⟩:=sp; exact⟨σ',H',I'.eS,q'⟩
  | brk=>obtain⟨σ',H',I',q'⟩:=sp; exact⟨σ',H',I'.eS,q'⟩
  | cont=>obtain⟨σ',H',I',q'⟩:=sp; exact⟨σ',H',I'.eS,q'⟩
  | ret u=>obtain⟨v,σ',H',I',r,q'⟩:=sp; exact⟨v,σ',H',I'.eS,r,q'⟩
 .obtain⟨σ2,H2,x,cls,rfl,I2,ex,q2⟩:=x
  show wpAny _ _ (leaving _ (.ref x)) _ _ s2
  unfold leaving
  refine Kv (xu Di rfl I2 ex fun s3 I3 e3=>?_)
  refine qz (fr:=none) I3 e3 fun s4 I4 e4=>?_
  obtain⟨fx,t,T,ex4,hTx,fT,tb⟩:=e4
  have young: ∀ {b:Addr},ck (gu (OH P w) P w K mg base N qual scope f cd A outer s H E) [] H2 b->s.heap.objs.size<=b:=fun {b} z=>by
   rcases z.2.2.2.1 with y | y
   .cases y
   .exact y
  exact⟨x,t,T,cls,H2,rfl,I4.os,I4.bare,I4.base,I4.hok,young fx,young fT,ex4,hTx,tb,fx.1,fT.1,q2⟩
end
def O5 (P:Program) (w:World) (K:N7) (mg:Str->Option Value) (base:Heap) (k:Nat) (x:Str) (ps:List Str) (sp:Sp):Prop :=
 ∃f fd,mg x=some (.ref f)/\(∃oc od osl,K.lookup f=some ⟨oc,od,.func fd,osl⟩)/\PySem.W.keepIn K (.ref f)=true/\Binds K fd ps []/\dW P w K mg base (OH P w) k f fd ps sp
section
variable {P:Program}{w:World}{K:N7}{mg:Str->Option Value}{base:Heap}
theorem GF {x:Str}{st:Stmt}{N ps:List Str}{k:Nat}{sp:Sp}(h:TF K mg x st) (S:ay N ps (aj st))
  (hb: ∀(kV doc pm:Value) (an:Option Addr) (cdv ct:Value) (us:List Value),us.length=ps.length->bindArgs (PySem.W.fnOf x x (dG st) (bO st) (aj st) .none kV doc pm an cdv ct) ⟨us,[]⟩=pure (ps.zip us))
  (len: ∀vs H Q E,sp vs H Q E->vs.length=ps.length)
  (hbody: ∀(f:Addr) (cdv:Value) (A:Around) (outer:List Env) (s:Shared) (H:Hp) (vs:List V) (Q:VK) (E:XK),bC k (A.deeper (envOfC x (aj st) s.heap.objs.size f cdv))->sp vs H Q E ->
   ∃t,Ov ((gu (OH P w) P w K mg base N x (aj st) f cdv A outer s H E).exc [] fun _=>E) (bO st) t/\t { nx:=fun _ H'=>Q .non H',rt:=Q } (start N vs) H):O5 P w K mg base (k+1) x ps sp:=by
 obtain⟨f,fd,hm,F⟩:=h
 obtain⟨oc,od,kV,doc,pm,an,cdv,ct,osl,rfl,lk,hcd⟩:=id F.ex
 refine⟨f,_,hm,⟨oc,od,osl,lk⟩,F.kp,F.binds hb,Ap lk hcd S len fun A outer s H vs Q E hr hs=>?_⟩
 obtain⟨t,h1,h2⟩:=hbody f cdv A outer s H vs Q E hr hs
 exact⟨t,xW h1,h2⟩
theorem dW.GY {k:Nat}{f:Addr}{fd:FuncData}{ps:List Str}{sp:Sp}(F:dW P w K mg base OC k f fd ps sp):dW P w K mg base (OH P w) k f fd ps sp :=
 ⟨F.len,fun A outer s H args us vs Q E hr e0 hb hv hs=>MS (F.run A outer s H args us vs Q E hr e0 hb hv hs) fun r s' c=>by
  cases r with
  | ok f=>cases f <;> exact c
  | error e=>exact c.elim⟩
theorem Oj.x {k:Nat}{x:Str}{ps:List Str}{sp:Sp}(F:Oj P w K mg base k x ps sp):O5 P w K mg base k x ps sp:=by
 obtain⟨f,fd,a,l,b,c,d⟩:=F
 exact⟨f,fd,a,l,b,c,d.GY⟩
end
section
variable {X:Cx}{pn:List (Addr×Obj)}{E:St->XK}{k:Nat}{x:Str}{ps:List Str}{sp:Sp}{p pos:Pos}{e:Expr}{es:List Expr}{t:TA}
def Ga (sp:Sp) (E:St->XK) (t:TA):TE:=fun σ H Q=>t σ H fun vs H1=>sp (vs++[]) H1 Q (E σ)
theorem vg {N3:List (Addr×Obj)}{σ:St}{H:Hp}{s:Shared}{Q:VK}{us:List Value}{vs:List V}{f:Addr}{fd:FuncData}(F:dW X.prog X.w X.K X.mg X.base (OH X.prog X.w) k f fd ps sp) (hr:bC k X.A) (hb:Binds X.K fd ps [])
  (I:Inv (X.exc pn E) N3 σ H s) (r:Vals vs us) (h:sp (vs++[]) H Q (E σ)):wpAny (model X.prog X.w) X.A (call (.ref f) us) (EP (X.exc pn E) N3 σ Q) (X.exc pn E).xe s:=by
 have hl:(us++[]).length=ps.length:=by
  rw[<-(r.append (.nil:Vals [] [])).length]
  exact F.len _ _ _ _ h
 refine Nn (MS (F.run X.A X.stack s H ⟨us,[]⟩ (us++[]) (vs++[]) Q (E σ) hr I.C0 (hb s us I.OJ hl) (r.append .nil) h) fun r s' hq=>?_)
 cases r with
 | error e=>exact yK I hq
 | ok fl =>
  cases fl with
  | ret u=>exact I.after hq
  | next=>exact hq.elim
  | brk=>exact hq.elim
  | cont=>exact hq.elim
theorem bj (F:O5 X.prog X.w X.K X.mg X.base k x ps sp) (hr:bC k X.A) (ha:PA (X.exc pn E) (e::es) t) (hg:Gl (X.exc pn E) x:=by rfl) (hdb:(x == ("__debug__" : Str))=false:=by decide)
  (he:starEach (e::es) X.env=(false,eval e X.env)::starEach es X.env:=by rfl) (hpl:(backTo pos (starEach es X.env)).any (·.1)=false:=by rfl):PE (X.exc pn E) (.Call (.Name x p) (e::es) [] pos) (Ga sp E t):=by
 obtain⟨f,fd,hm,_,kp,hb,F⟩:=F
 intro N3 s σ H Q I h
 refine Mi (mD I hg hm ?_ hdb)
 exact M0 (h₀:=X.base) I.ok.mod.kin kp (Oc (ha pos N3 s σ H _ I h) fun us s1 ⟨vs,H1,I1,r,q⟩=>⟨I1.OJ,vg F hr hb I1 r q⟩) he hpl
end
abbrev AF:List Value:=[.type "ValueError",.type "Exception",.type "BaseException",.type "object"]
theorem qU {K:N7}{h:Heap}{C:Addr}{bmB:List Value}{newId:String}(X:K.In h) (q:PySem.W.excIn K C bmB newId=true) :
  ∃bm N nm qn bs hdct sn sub ab col dd k0 k1 k2 k3 k5 mN,h.get? C=some (excClassObj nm qn C N bs bm hdct sn sub ab col dd k0 k1 k2 k3 k5 newId)/\h.Ns N mN/\mN "__init__" = none/\OwnTail h bmB bm/\K.lookup C=some (excClassObj nm qn C N bs bm hdct sn sub ab col dd k0 k1 k2 k3 k5 newId):=by
 unfold PySem.W.excIn at q
 split at q
 .rename_i dd cd sl ho
  split at q
  .rename_i C' bm k0 k1 k2 k3 n k5 hm hs
   simp only[Lb,beq_iff_eq,Bool.not_eq_true'] at q
   obtain⟨⟨⟨⟨⟨e1,e2⟩,hdel⟩,ht⟩,hok⟩,hni⟩:=q
   subst e1 e2
   obtain⟨nm,bs,mro,ns,qn,hd,sn,sub,ab,col,del⟩:=cd
   dsimp only at hm hdel hok hni
   subst hm hdel
   have hsl:sl= #[k0,k1,k2,k3,some (.builtin n),k5]:=by
    obtain⟨l⟩:=sl
    simp only at hs
    rw[hs]
   subst hsl
   exact⟨bm,ns,nm,qn,bs,hd,sn,sub,ab,col,dd,k0,k1,k2,k3,k5,_,X _ _ ho,.of_isNs (PySem.W.isNs_of_in X hok),PySem.W.nsMap_none_of_in X hok hni,PySem.W.tail_of_in X ht,ho⟩
  .cases q
 .cases q
def XC (K:N7) (mg:Str->Option Value) (x:Str) (C:Addr):Prop:=mg x=some (.ref C)/\PySem.W.excIn K C AF "ValueError.__new__" = true
def GZ (E:St->XK) (C:Addr) (t:TA):TS:=fun _ σ H=>t σ H fun vs H1=>vs.length<=1000/\E σ (.ref C) none H1
section
variable {X:Cx}{pn:List (Addr×Obj)}{E:St->XK}{x:Str}{C:Addr}{np cpos pos:Pos}{e:Expr}{es:List Expr}{t:TA}
theorem DH {N3:List (Addr×Obj)}{σ:St}{H:Hp}{s:Shared}{h':Heap}{a:Addr}{vs:List Value}(I:Inv (X.exc pn E) N3 σ H s) (m:Heap.MadeExcOf s.heap h' a (.ref C) vs) (hy:s.heap.objs.size<=a) (q:E σ (.ref C) none H):(X.exc pn E).xe (.ref a) { s with heap:=h' }:=by
 obtain⟨t,e,_,_⟩:=m.there
 have I':Inv (X.exc pn E) N3 σ H { s with heap:=h' }:=I.kept (t':=s.toks) m.keeps
 exact xI I' (.inl ⟨I.iZ hy (I.hok.fresh hy),t,e⟩) q
theorem eg (c:XC X.K X.mg x C) (hc:X.calm=true) (ha:PA (X.exc pn E) (e::es) t) (hg:Gl (X.exc pn E) x:=by rfl) (hdb:(x == ("__debug__" : Str))=false:=by decide)
  (he:starEach (e::es) X.env=(false,eval e X.env)::starEach es X.env:=by rfl) (hpl:(backTo cpos (starEach es X.env)).any (·.1)=false:=by rfl) :
  PS (X.exc pn E) (.Raise (some (.Call (.Name x np) (e::es) [] cpos)) none pos) (GZ E C t):=by
 intro N3 s σ H D I h
 obtain⟨bm,N,nm,qn,bs,hdct,sn,sub,ab,col,dd,k0,k1,k2,k3,k5,mN,hC,hN,hni,T,_⟩:=qU I.mod.kin c.2
 have kp: ∀ {s':Shared}{H':Hp},Inv (X.exc pn E) N3 σ H' s'-> ∀b o,X.base.get? b=some o->s'.heap.get? b=some o:=fun I'=>I'.bk
 refine yx (C:=C) (nm:=nm) (qn:=qn) (N:=N) (bs:=bs) (bm:=bm) (hd:=hdct) (sn:=sn) (sub:=sub) (ab:=ab) (col:=col) (dd:=dd) (k0:=k0) (k1:=k1) (k2:=k2) (k3:=k3) (k5:=k5) F.excBase_ValueError (T.hasType rfl) (I.ok.hd hc) (by rw[he]; show (false || (backTo cpos (starEach es X.env)).any (·.1))=false; rw[hpl]; rfl) hni (mD I hg c.1 ⟨rfl,?_⟩ hdb)
 have h0:=ha cpos N3 s σ H _ I h
 rw[show starEach (e::es) (X.exc pn E).env=(false,eval e X.env)::starEach es X.env from he] at h0 ⊢
 refine MT (Oc h0 fun us s1 ⟨vs,H1,I1,r,hz,q⟩=>⟨rfl,?_,kp I1 _ _ hC,hN.keeps (kp I1),T.keeps (kp I1),fun h' a m y=>DH I1 m y q⟩)
 rw[<-r.length]
 exact K7 (qO hz)
end
section
variable {M:Model}{A:Around}{E:Value->Shared->Prop}{h:Heap}{g:Array GenState}{d:Drawn}{tk:Nat}{os:OsState}
variable {nm qn nm' qn':Str}{C N D N':Addr}{bs bm bs' bm':List Value}{hd hd':Bool}{sn sn':List Str}{sub sub':List Value}{ab ab':Bool}{col col':Option Bool}{dd dd':Option Addr}{k0 k1 k2 k3 k5 j0 j1 j2 j3 j5:Option Value}{newId newId':String}
theorem yE {x:Addr}{oe:Obj}{Q:Bool->Shared->Prop}(hC:h.get? C=some (excClassObj nm qn C N bs bm hd sn sub ab col dd k0 k1 k2 k3 k5 newId)) (he:h.get? x=some oe) (hcls:oe.cls= .ref C)
  (hD:h.get? D=some (excClassObj nm' qn' D N' bs' bm' hd' sn' sub' ab' col' dd' j0 j1 j2 j3 j5 newId')) (hb:bm'.contains (.type "BaseException")=true)
  (hq:Q ((Value.ref C::bm).contains (.ref D)) ⟨h,g,d,tk,os⟩):wpAny M A (excMatches (.ref x) (.ref D)) Q E ⟨h,g,d,tk,os⟩:=by
 have cb:(Value.ref D::bm').contains (.type "BaseException")=true:=by rw[List.contains_cons,hb,Bool.or_true]
 have f:=tc_notTuple
 generalize hr:(Value.ref C::bm).contains (.ref D)=r at hq
 unfold excMatches
 repeat (first | (with_reducible refine Mu he ?_; rw[hcls]) | with_reducible refine Mu hD ?_ | with_reducible refine Mu hC ?_ | (with_reducible refine Nv hD ?_; rw[cb]) | (with_reducible refine Nv hC ?_; rw[hr]) | wp_step)
 cases r <;> (wp_walk; exact hq)
end
def b8 (K:N7) (cls:Value) (D:Addr):Option Bool:=match cls with
 | .ref C=>(match K.lookup C with | some ⟨_,_,.cls cd,_⟩=>some (cd.mro.contains (.ref D)) | _=>none)
 | _=>none
theorem dw {K:N7}{C D:Addr}{c:Value}{d:Option Addr}{cd:ClassData}{sl:Array (Option Value)}{b:Bool}(l:K.lookup C=some ⟨c,d,.cls cd,sl⟩) (e:cd.mro.contains (.ref D)=b):b8 K (.ref C) D=some b:=by
 unfold b8
 simp only
 rw[l]
 exact Ln some e
section
variable {X:Cx}{N3:List (Addr×Obj)}{σ:St}{H:Hp}{s:Shared}
theorem DU {A:Around}{E:Value->Shared->Prop}{C D x:Addr}{fl:Value}{b:Bool}{Q:Bool->Shared->Prop}(I:Inv X N3 σ H s) (e:oh X N3 H s.heap x (.ref C) fl)
  (cC:PySem.W.excIn X.K C AF "ValueError.__new__" = true) (cD:PySem.W.excIn X.K D AF "ValueError.__new__" = true) (hs:b8 X.K (.ref C) D=some b) (q:Q b s) :
  wpAny (model X.prog X.w) A (excMatches (.ref x) (.ref D)) Q E s:=by
 obtain⟨bm,N,nm,qn,bs,hdct,sn,sub,ab,col,dd,k0,k1,k2,k3,k5,mN,hC,_,_,T,lC⟩:=qU I.mod.kin cC
 obtain⟨bm',N',nm',qn',bs',hdct',sn',sub',ab',col',dd',j0,j1,j2,j3,j5,mN',hD,_,_,T',_⟩:=qU I.mod.kin cD
 obtain⟨_,t,Tb,ex,_⟩:=e
 have e1:some ((Value.ref C::bm).contains (.ref D))=some b:=by
  unfold b8 at hs
  simp only at hs
  rw[lC] at hs
  exact hs
 have e2:=KS e1
 obtain⟨hp,g,d,tk,os⟩:=s
 exact yE (I.bk _ _ hC) ex rfl (I.bk _ _ hD) (T'.hasType rfl) (by rw[e2]; exact q)
end
abbrev Cx.OF (X:Cx) (N3:List (Addr×Obj)) (x:Addr) (o:Obj):Cx:={ X with A:=X.A.mark (some (.ref x)),calm:=false,xe:=fun _ _=>False,pn:=X.pn++N3++[(x,o)] }
theorem Cx.Ok.OF {X:Cx}{N3:List (Addr×Obj)}{x:Addr}{o:Obj}(ok:X.Ok):(X.OF N3 x o).Ok :=
 ⟨ok.mod,ok.kind,ok.glob,ok.blt,ok.above,ok.inj,ok.has,ok.cab,(fun h=>by cases h),ok.frames,ok.stk,ok.exf,ok.bs,ok.bsz,ok.noex,ok.exfs,ok.fu,ok.frf⟩
theorem Cx.Ok.sL {X:Cx}{N3:List (Addr×Obj)}{x:Addr}{o:Obj}(hc:X.calm=true->X.A.handled=none) (ok:(X.OF N3 x o).Ok):X.Ok :=
 ⟨ok.mod,ok.kind,ok.glob,ok.blt,ok.above,ok.inj,ok.has,ok.cab,hc,ok.frames,ok.stk,ok.exf,ok.bs,ok.bsz,ok.noex,ok.exfs,ok.fu,ok.frf⟩
section
variable {X:Cx}{N3:List (Addr×Obj)}{σ:St}{H:Hp}{s:Shared}
theorem Inv.OF {x t T:Addr}{cls:Value}(I:Inv X N3 σ H s) (f:ck X N3 H x) (ex:s.heap.get? x=some (pT cls t (.ref T))):Inv (X.OF N3 x (pT cls t (.ref T))) [] σ H s :=
 ⟨I.ok.OF,I.os,I.bare,I.base,I.loc,I.cell,I.free,I.freeC,fun p hp=>by
  rw[Mm] at hp
  rcases KI.mp hp with hp | hp
  .exact I.pin p hp
  .rcases Kt.mp hp with rfl
   exact⟨ex,f.1,f.2.1,f.2.2.1,fun v z=>by cases z⟩,I.hok,I.len⟩
theorem Inv.sL {pl:List (Addr×Obj)}{x:Addr}{o:Obj}{σ':St}{H':Hp}{s':Shared}(hc:X.calm=true->X.A.handled=none) (I:Inv (X.OF N3 x o) pl σ' H' s'):Inv X N3 σ' H' s' :=
 ⟨I.ok.sL hc,I.os,I.bare,I.base,I.loc,I.cell,I.free,I.freeC,fun p hp=>I.pin p (Lo _ (Lo _ hp)),I.hok,I.len⟩
end
abbrev TH:=Ends->Value->St->Hp->Prop
def PH (X:Cx) (hs:List ExceptHandler) (th:TH):Prop :=
 ∀(N3:List (Addr×Obj)) (s:Shared) (σ:St) (H:Hp) (D:Ends) (x:Addr) (cls:Value),Inv X N3 σ H s->oh X N3 H s.heap x cls .none->th D cls σ H ->
  wpAny (model X.prog X.w) X.A (handleBy (.ref x) X.env hs) (SP X N3 D) X.xe s
theorem AV {X:Cx}:PH X [] (fun _ _ _ _=>False):=fun _ _ _ _ _ _ _ _ _ h=>h.elim
def Jj (K:N7) (D:Addr) (ts:List (Addr×Obj)->Addr->Obj->TS) (th:TH):TH:=fun Ds cls σ H=> ∃C b,cls= .ref C/\PySem.W.excIn K C AF "ValueError.__new__" = true/\b8 K cls D=some b/\if b=true then ∀N3 x o,ts N3 x o Ds σ H else th Ds cls σ H
theorem mL {X:Cx}{n:Str}{D:Addr}{np pos:Pos}{b0:Stmt}{suite:List Stmt}{rest:List ExceptHandler}{ts:List (Addr×Obj)->Addr->Obj->TS}{th:TH}(c:XC X.K X.mg n D) (hsu: ∀N3 x o,Ov (X.OF N3 x o) (b0::suite) (ts N3 x o)) (hr:PH X rest th)
  (hg:Gl X n:=by rfl) (hdb:(n == ("__debug__" : Str))=false:=by decide):PH X (.ExceptHandler (some (.Name n np)) none (b0::suite) pos::rest) (Jj X.K D ts th):=by
 intro N3 s σ H Ds x cls I e q
 obtain⟨C,b,rfl,hC,hsb,q⟩:=q
 obtain⟨fx,t,T,ex,hT⟩:=id e
 have Ih:=I.OF fx ex
 refine wpAny_handleBy_cons (codeAny_handlers_test (wpAny_noRaise (mD (X:=X.OF N3 x _) (E:=fun _ _=>False) Ih hg c.1 ?_ hdb) |> fun z=>z)) (by intro z; cases z)
 refine DU I e hC c.2 hsb ?_
 cases b with
 | true =>
  rw[Ks rfl] at q
  refine codeAny_handlers_suite (wpAny_noRaise ?_)
  refine qz (X:=X) (fr:=none) I e fun s2 I2 e2=>?_
  obtain⟨fx2,t2,T2,ex2,_⟩:=id e2
  refine wpAny_noRaise (Oc (hsu N3 x _ [] s2 σ H Ds (I2.OF fx2 ex2) (q _ _ _)) fun f s3 sp=>?_)
  cases f with
  | next=>obtain⟨σ',H',I',q'⟩:=sp; exact⟨σ',H',I'.sL I.ok.hd,q'⟩
  | brk=>obtain⟨σ',H',I',q'⟩:=sp; exact⟨σ',H',I'.sL I.ok.hd,q'⟩
  | cont=>obtain⟨σ',H',I',q'⟩:=sp; exact⟨σ',H',I'.sL I.ok.hd,q'⟩
  | ret v=>obtain⟨v',σ',H',I',r,q'⟩:=sp; exact⟨v',σ',H',I'.sL I.ok.hd,r,q'⟩
 | false =>
  rw[Kp KN] at q
  exact hr N3 s σ H Ds x (.ref C) I e q
def Gz (tb:List (Addr×Obj)->(St->XK)->TS) (to:TS) (th:TH):TS:=fun D σ H=> ∃E':St->XK,(∀N3,tb N3 E' { D with nx:=to D } σ H)/\ ∀σ' cls H',E' σ' cls none H'->th D cls σ' H'
theorem Ft {X:Cx}{body orelse:List Stmt}{h0:ExceptHandler}{hs:List ExceptHandler}{pos:Pos}{tb:List (Addr×Obj)->(St->XK)->TS}{to:TS}{th:TH}(O:Own X) (hb: ∀N3 E',Ov (X.exc N3 E') body (tb N3 E')) (ho:Ov X orelse to) (hh:PH X (h0::hs) th) :
  PS X (.Try body (h0::hs) orelse [] pos) (Gz tb to th):=by
 intro N3 s σ H D I q
 obtain⟨E',q1,q2⟩:=q
 have I0:Inv (X.exc N3 E') [] σ H s:=Inv.exc (by rw[Mm]; exact I)
 have back: ∀ {σ':St}{H':Hp}{s':Shared},Inv (X.exc N3 E') [] σ' H' s'->Inv X N3 σ' H' s':=fun I'=>by
  have:=I'.eS
  rwa [Mm] at this
 refine wpAny_Try_except (Lx (hb N3 E' [] s σ H _ I0 (q1 N3)) (fun f s1 sp=>?_) (fun e s1 x=>?_))
 .cases f with
  | next =>
   obtain⟨σ',H',I',q'⟩:=sp
   exact ho N3 s1 σ' H' D (back I') q'
  | brk=>obtain⟨σ',H',I',q'⟩:=sp; exact⟨σ',H',back I',q'⟩
  | cont=>obtain⟨σ',H',I',q'⟩:=sp; exact⟨σ',H',back I',q'⟩
  | ret v=>obtain⟨v',σ',H',I',r,q'⟩:=sp; exact⟨v',σ',H',back I',r,q'⟩
 .obtain⟨σ1,H1,x,cls,rfl,I1,ex,q'⟩:=x
  refine xu O rfl I1 ex fun s2 I2 e2=>?_
  refine qz (fr:=none) I2 e2 fun s3 I3 e3=>?_
  exact hh N3 s3 σ1 H1 D x cls I3 e3 (q2 σ1 cls H1 q')
theorem Cp {X:Cx}{body:List Stmt}{h0:ExceptHandler}{hs:List ExceptHandler}{pos:Pos}{tb:List (Addr×Obj)->(St->XK)->TS}{th:TH}(O:Own X) (hb: ∀N3 E',Ov (X.exc N3 E') body (tb N3 E')) (hh:PH X (h0::hs) th) :
  PS X (.Try body (h0::hs) [] [] pos) (Gz tb Ej th):=Ft O hb aw hh
section
variable {prog:Program}{w:World}{A:Around}{E:Value->Shared->Prop}{s:Shared}
end
structure J6 (k:Nat) (A:Around):Prop where
 dp:A.depth+3*k+5 < recursionLimit
 un:A.units+16*k+200 < cLine
section
variable {P:Program}{w:World}{K:N7}{mg:Str->Option Value}{base:Heap}
end
end L2
namespace L2
open PySem PySem.Spec PyProof.Rows PySem.W
structure EC (K:Frag) (C:Addr):Prop where
 ga:findIn K (.ref C) "__getattribute__" = some (some (.builtin "BaseException.__getattribute__"))
 gn:findIn K (.ref C) "__getattr__" = some none
 cl:findIn K (.ref C) "__class__" = some (some (.builtin "object.__class__"))
 sb:subIn K (.ref C) (.type "BaseException")=some true
 so:subIn K (.ref C) (.type "object")=some true
section
variable {prog:Program}{w:World}{A:Around}{E:Value->Shared->Prop}{K:Frag}{h:Heap}{g:Array GenState}{d:Drawn}{tk:Nat}{os:OsState}{a C:Addr}{o:Obj}
end
end L2
namespace L2
open PySem PySem.Spec PyProof.Rows
section
variable {h base:Heap}{x b:Addr}{o:Obj}
end
section
variable {X:Cx}{N3:List (Addr×Obj)}{k:Nat}{x tt:Addr}{cls tb:Value}{n:Str}{ps:List Str}{sp:Heap->Sp}{p pos:Pos}{e:Expr}{es:List Expr}{t:TA}
end
section
variable {M:Model}{A:Around}{E:Value->Shared->Prop}{s:Shared}
end
section
variable {X:Cx}{N3:List (Addr×Obj)}{σ:St}{H:Hp}{s:Shared}
end
def isStar:Expr->Bool
 | .Starred _ _=>true
 | _=>false
theorem qF {e:Expr}{es:List Expr}{env:Env}(h:isStar e=false):starEach (e::es) env=(false,eval e env)::starEach es env:=by
 cases e <;> first | rfl | cases h
theorem ao {X:Cx}{e:Expr}{es:List Expr}{te:TE}{t:TA}(ha:PE X e te) (hr:PA X es t) (hs:isStar e=false:=by rfl):PA X (e::es) (nX te t):=E3 ha hr (qF hs)
theorem vW: ∀ {ys:List Str}{us:List Value},Vals (ys.map V.str) us->StrsAre us ys
 | [],_,.nil=> .nil
 | y::ys,_,.cons r t=>by
  obtain⟨k,rfl⟩:=r
  exact .cons y k (vW t)
inductive HJ (K:N7) (x:V) (vs:List V) (H:Hp) (Q:VK):Prop | mk (z l ys:_) (e0:x= .str z) (e1:vs=[.ref l]) (e2:N5 K H l (ys.map V.str)) (e3:z.length<=16) (e4:(ys.map (·.length)).sum+ys.length<=1048576) (q:Q (.str (Txt.join z ys)) H)
def rJoin (K:N7):V->List V->Hp->VK->Prop:=fun x vs H Q=>HJ K x vs H Q
theorem EN {X:Cx}:PQ X "str.join" (rJoin X.K):=by
 intro N3 s σ H x vs v us Q I rx rv h
 obtain⟨z,l,ys,rfl,rfl,hq,h1,h2,q⟩:=h
 obtain⟨t,rfl⟩:=rx
 obtain⟨u,rfl,ru⟩:=rv.one
 cases ru
 obtain⟨its,r,p,_⟩:=I.list hq
 exact join_listW p.isList (vW r) h1 h2 fun t' k=>⟨.str _,H,I.tok k,⟨t',rfl⟩,q⟩
end L2
namespace L2
open PySem PySem.Spec PyProof.Rows PySem.W
structure Jn (psc scope:Scope) (p:Str) (frn:List Str):Prop where
 kind:scope.kind= .function
 co:scope.isCoroutine=false
 gen:scope.isGenerator=false
 cell: ∀y∈scope.names,y.2≠ .cell
 par:scope.names.lookup p=some .local
 free: ∀y∈scope.names,y.2= .free->psc.names.lookup y.1=some .cell\/psc.names.lookup y.1=some .free
 nd:(p::frn).Nodup
 frn: ∀x∈frn,scope.names.lookup x=some .free
abbrev JW (X:Cx) (qual:Str) (scope:Scope) (L f c:Addr):Env:=envX qual scope L f (.ref c) (cL scope.names X.env.cells [])
section
variable {X:Cx}{N3:List (Addr×Obj)}{σ:St}{H:Hp}{s:Shared}
end
section
variable {X:Cx}{N3:List (Addr×Obj)}{σ:St}{H:Hp}{s:Shared}
end
section
variable {X:Cx}{N3:List (Addr×Obj)}{σ:St}{H:Hp}{s:Shared}{A:Around}{E:Value->Shared->Prop}{a kS:Addr}{vs:List Value}{kz:List Int}{keys:Array Value}{e e1:Nat}{P:PySem.Fin->Shared->Prop}
end
section
variable {X:Cx}{N3:List (Addr×Obj)}{σ:St}{H:Hp}{s:Shared}{A:Around}{E:Value->Shared->Prop}{a kS:Addr}{vs:List Value}{kz:List Int}{keys:Array Value}{e e1:Nat}{P:PySem.Fin->Shared->Prop}
end
theorem Inv.Ef {X:Cx}{N3:List (Addr×Obj)}{σ:St}{H:Hp}{s:Shared}{a:Addr}{o:HO}(I:Inv X N3 σ H s) (f:ck X N3 H a) (new:cZ X.prog X.w (upd H a o) s.heap a o):Inv X N3 σ (upd H a o) s:=by
 obtain⟨f0,f1,f2,f3,f4,f5⟩:=f
 have ne: ∀b u,H b=some u->b≠a:=fun b u e=>az e f0
 refine⟨I.ok,I.os,I.bare,⟨I.base.keep,I.base.slot,fun b ob e n hx=>?_,I.base.there,fun b xs e=>?_,fun b ob u e=>?_,fun b ps e=>?_⟩,I.loc,I.cell,?_,fun x c e=>?_,fun p hp=>?_,fun b u e=>?_,I.len⟩
 .rw[ai fun z=>?_]
  .exact I.base.free b ob e n hx
  .rcases f3 with h | h
   .exact hx (z▸h)
   .exact absurd (KJ e) (MF.mpr (by rw[z]; exact h))
 .have:=I.base.tups b xs e
  rw[ai (ne b _ this)]
  exact this
 .have:=I.base.frzs b ob u e
  rw[ai (ne b _ this)]
  exact this
 .obtain⟨m,this⟩:=I.base.tbls b ps e
  exact⟨m,by rw[ai (ne b _ this)]; exact this⟩
 .rw[ai (K2 f1)]
  exact I.free
 .rw[ai (f4 x c e)]
  exact I.freeC x c e
 .obtain⟨a1,a2,a3,a4,a5⟩:=I.pin p hp
  exact⟨a1,by rw[ai (f5 p hp)]; exact a2,a3,a4,a5⟩
 .by_cases hb:b=a
  .subst hb
   rw[af] at e
   cases e
   exact new
  .rw[ai hb] at e
   exact (I.hok b u e).oi (fun _ _ _ z=>z) (fun c z=>by rw[ai (ne c _ z)]; exact z) fun c xs z=>by rw[ai (ne c _ z)]; exact z
section
variable {X:Cx}
end
end L2
namespace L2
open PySem PySem.Spec PyProof.Rows
inductive Fv (x:V) (vs:List V) (H:Hp) (Q:VK):Prop | mk (l:Addr) (ns:List Int) (i:Int) (j:Nat) (e0:x= .ref l) (e1:vs=[.int i]) (e2:H l=some (.lst (ns.map V.int))) (e3:ns[j]?=some i) (e4:(∀m,m < j->ns[m]?≠some i)) (q:Q (.int (j:Nat)) H)
def GC:V->List V->Hp->VK->Prop:=fun x vs H Q=>Fv x vs H Q
theorem CW {X:Cx}:Pk X "list.index" GC:=by
 intro N3 s σ H x vs v us Q I rx rv h
 obtain⟨l,ns,i,j,rfl,rfl,hH,hj,hno,q⟩:=h
 cases rx
 obtain⟨u,rfl,t,rfl⟩:=rv.one
 obtain⟨z,its,n,r,hl,e⟩:=I.m7 hH
 have hlen:its.length=ns.length:=by
  rw[<-hl,Kq]
 have hat: ∀m k,ns[m]?=some k-> ∃t,its[m]?=some (Value.int k t):=fun m k hm=>by
  obtain⟨u,hu,ru⟩:=r.get (i:=m) (x:= .int k) (by rw[KH,hm]; rfl)
  obtain⟨t,rfl⟩:=ru
  exact⟨t,hu⟩
 have hjl:j < ns.length:=(Ky.mp hj).1
 have val: ∀m (hm:m < its.toArray.size),∃k t,ns[m]?=some k/\its.toArray[m]=Value.int k t:=fun m hm=>by
  have hm':m < ns.length:=by simpa [hlen] using hm
  obtain⟨t,ht⟩:=hat m ns[m] (Kr hm')
  refine⟨ns[m],t,Kr hm',?_⟩
  have:=(Ky.mp ht).2
  simpa using this
 let eq:Value->Bool:=fun y=>match y with | .int k _=>k == i | _=>false
 have he: ∀y,y∈its.toArray->MeetsSeq.EqGives y (.int i t) (eq y):=fun y hy=>by
  obtain⟨m,hm,rfl⟩:=M9.mp hy
  obtain⟨k,t',_,e2⟩:=val m hm
  rw[e2]
  exact MeetsSeq.EqGives.int k i t' t
 have hjs:j < its.toArray.size:=by rw[KL,hlen]; exact hjl
 refine Mw F.slot_list_index ⟨_,e,rfl⟩ F.entry_list_index (F.args_list_index_2 _ _) (MeetsSeq.list_index l its.toArray n (.int i t) eq he j hjs ?_ ?_ ?_) ⟨e,?_⟩
 .rw[hl] at z
  have:its.length<=sizeLine:=by omega
  have h2:sizeLine < 2 ^ 62:=by decide
  omega
 .obtain⟨k,t',e1,e2⟩:=val j hjs
  rw[e2]
  rw[hj] at e1
  cases e1
  simp[eq]
 .intro m hm hmj
  obtain⟨k,t',e1,e2⟩:=val m hm
  rw[e2]
  have:k≠i:=fun z=>hno m hmj (z▸e1)
  simpa [eq] using this
 .exact⟨.int (j:Nat),H,I.tok _,⟨_,rfl⟩,q⟩
section
variable {X:Cx}
inductive HV (K:N7) (xs:List V) (H:Hp) (Q:VK):Prop | mk (x n:_) (e0:xs=[x]) (e1:F3 K x H n) (q:Q (.int n) H)
def CY (K:N7):List V->Hp->VK->Prop:=fun xs H Q=>HV K xs H Q
theorem vJ:cX X (.builtin "len") (CY X.K):=fun _ _ _ _ _ _ _ I r ⟨x,n,e,l,q⟩=>Dg _ _ _ _ _ _ _ I r ⟨x,n,e,l,q⟩
inductive DS (K:N7) (xs:List V) (H:Hp) (Q:VK):Prop | mk (p ys:_) (e0:xs=[.ref p]) (e1:(N5 K H p ys\/N9 K H p ys)) (q: ∀l,H l=none->Q (.ref l) (upd H l (.lst ys)))
def oU (K:N7):List V->Hp->VK->Prop:=fun xs H Q=>DS K xs H Q
theorem iI:cX X (.type "list") (oU X.K):=fun _ _ _ _ _ _ _ I r ⟨x,n,e,l,q⟩=>xV _ _ _ _ _ _ _ I r ⟨x,n,e,l,q⟩
end
inductive Ij (K:N7) (x y:V) (H:Hp) (Q:VK):Prop | mk (a b:Addr) (ns ms:List Int) (e0:x= .ref a) (e1:y= .ref b) (e2:N5 K H a (ns.map V.int)) (e3:N5 K H b (ms.map V.int)) (q:Q (.bl (decide (ns=ms))) H)
def Gs (K:N7):R2:=fun x y H Q=>Ij K x y H Q
theorem tq {ns:List Int}{us:List Value}(r:Vals (ns.map V.int) us){j:Nat}(h:j < us.length): ∃t,us[j]'h=Value.int (ns.getD j 0) t:=by
 have hl:us.length=ns.length:=by rw[<-r.length,Kq]
 have hj:j < ns.length:=by omega
 obtain⟨u,hu,t,rfl⟩:=r.get (i:=j) (x:= .int ns[j]) (by rw[KH,Kr hj]; rfl)
 refine⟨t,?_⟩
 have:=(Ky.mp hu).2
 rw[this,KA,Kr hj]
 rfl
theorem C2 (ns ms:List Int) (h:ns.length=ms.length):(List.range ns.length).all (fun i=>ns.getD i 0 == ms.getD i 0)=decide (ns=ms):=by
 rw[Mj,LD,decide_eq_true_eq]
 constructor
 .intro a
  refine NU h fun i h1 h2=>?_
  have:=a i (KZ.mpr h1)
  simpa [KA,h1,h2] using this
 .intro e i _
  rw[e]
  exact Mz _
theorem GV {X:Cx}(hu:X.A.units+1 < cLine):Ol X (compareOp .Eq) (Gs X.K):=by
 intro N3 s σ H x y v u Q I rx ry h
 obtain⟨a,b,ns,ms,rfl,rfl,ha,hb,q⟩:=h
 cases rx
 cases ry
 obtain⟨us,r1,p1,z1⟩:=I.list ha
 obtain⟨vs,r2,p2,z2⟩:=I.list hb
 have l1:us.length=ns.length:=by rw[<-r1.length,Kq]
 have l2:vs.length=ms.length:=by rw[<-r2.length,Kq]
 by_cases hl:ns.length=ms.length
 .refine SeqAt.eq_listAt (e:=fun i=>ns.getD i 0 == ms.getD i 0) p1.isList p2.isList (by simp; omega) (by omega) (fun j h1 h2=>?_) ?_
  .obtain⟨t1,e1⟩:=tq r1 (j:=j) (by simpa using h1)
   obtain⟨t2,e2⟩:=tq r2 (j:=j) (by simpa using h2)
   simp only[Nh,e1,e2]
   exact SeqAt.EqAt.int_int _ _ _ _
  .rw[show us.toArray.size=ns.length by simpa using l1,C2 ns ms hl]
   exact⟨.bl _,H,I,rfl,q⟩
 .refine SeqAt.eq_list_lengthsAt p1.isList p2.isList (by simp; omega) (by omega) ?_
  rw[show decide (ns=ms)=false from KU fun e=>hl (by rw[e])] at q
  exact⟨.bl _,H,I,rfl,q⟩
section
variable {X:Cx}{e st:Expr}{te ts:TE}{pos p2:Pos}
inductive Ke (K:N7) (Q:VK) (x:V) (H2:Hp):Prop | mk (a xs:_) (e0:x= .ref a) (e1:N5 K H2 a xs) (q: ∀p,H2 p=none->Q (.ref p) (upd H2 p (.lst xs.reverse)))
end
end L2
namespace MA
abbrev au:=Int×Int×Int
def g (ws:List Int) (i:Int):Int:=ws.getD i.toNat 0
def mx (i j:Int):Int:=if j > i then j else i
theorem fM (i j:Int):i<=mx i j:=by unfold mx; split <;> omega
theorem jk (i j:Int):j<=mx i j:=by unfold mx; split <;> omega
theorem wL {i j k:Int}(h1:i<=k) (h2:j<=k):mx i j<=k:=by unfold mx; split <;> omega
def ask (f:Int->Int) (r:au):Int:=if r.2.1= -1 then r.2.2 else f r.2.1+r.2.2
def put (ws:List Int) (i v:Int):List Int:=ws.set i.toNat v
def dX (ws:List Int) (r:au):List Int:=put ws r.1 (mx (g ws r.1) (ask (g ws) r))
def bJ (rs:List au) (ws:List Int):List Int:=rs.foldl dX ws
def Oh (n:Nat) (r:au):Prop:=0<=r.1/\r.1 < n/\ -1<=r.2.1/\r.2.1 < n/\0<=r.2.2
def Met (rs:List au) (f:Int->Int):Prop:= ∀r∈rs,ask f r<=f r.1
def Le (n:Nat) (f h:Int->Int):Prop:= ∀i:Int,0<=i->i < n->f i<=h i
theorem gA {ws:List Int}{i v j:Int}(hi:0<=i) (hl:i < ws.length) (hj:0<=j):g (put ws i v) j=if j=i then v else g ws j:=by
 unfold g put
 rw[KA,KA,List.getElem?_set]
 by_cases e:j=i
 .subst e
  have:j.toNat < ws.length:=by omega
  simp[this]
 .have:i.toNat≠j.toNat:=by omega
  simp[this,e]
theorem mF {ws:List Int}{i v:Int}:(put ws i v).length=ws.length:=Mo
theorem jK {ws:List Int}{r:au}:(dX ws r).length=ws.length:=mF
theorem fQ (rs:List au): ∀ws,(bJ rs ws).length=ws.length:=by
 induction rs with
 | nil=>intro ws; rfl
 | cons r rs ih=>intro ws; exact (ih _).trans jK
theorem wW {n:Nat}{f h:Int->Int}{r:au}(k:Oh n r) (hl:Le n f h):ask f r<=ask h r:=by
 obtain⟨_,_,h3,h4,_⟩:=k
 unfold ask
 split
 .exact K3 _
 .have:=hl r.2.1 (by omega) h4
  omega
theorem vX {n:Nat}{ws:List Int}{r:au}(k:Oh n r) (hl:ws.length=n):Le n (g ws) (g (dX ws r)):=fun i h0 h1=>by
 unfold dX
 rw[gA k.1 (by rw[hl]; exact k.2.1) h0]
 split
 .rename_i e; rw[e]; exact fM _ _
 .exact K3 _
theorem kD {n:Nat}: ∀(rs:List au) (ws:List Int),(∀r∈rs,Oh n r)->ws.length=n->Le n (g ws) (g (bJ rs ws))
 | [],ws,_,_=>fun i _ _=>K3 _
 | r::rs,ws,k,hl=>fun i h0 h1=>Lc (vX (k r (KG)) hl i h0 h1) (kD rs (dX ws r) (fun x hx=>k x (KD _ hx)) (jK.trans hl) i h0 h1)
theorem Bz {n:Nat}{ws:List Int}{r:au}{f:Int->Int}(k:Oh n r) (hl:ws.length=n) (hf:ask f r<=f r.1) (h:Le n (g ws) f):Le n (g (dX ws r)) f:=fun i h0 h1=>by
 unfold dX
 rw[gA k.1 (by rw[hl]; exact k.2.1) h0]
 split
 .rename_i e; rw[e]; exact wL (h _ k.1 k.2.1) (Lc (wW k h) hf)
 .exact h i h0 h1
theorem kC {n:Nat}{f:Int->Int}: ∀(rs:List au) (ws:List Int),(∀r∈rs,Oh n r)->ws.length=n->Met rs f->Le n (g ws) f->Le n (g (bJ rs ws)) f
 | [],ws,_,_,_,h=>h
 | r::rs,ws,k,hl,hf,h=>kC rs (dX ws r) (fun x hx=>k x (KD _ hx)) (jK.trans hl) (fun x hx=>hf x (KD _ hx)) (Bz (k r (KG)) hl (hf r (KG)) h)
theorem rf {n:Nat}: ∀(rs:List au) (ws:List Int) (f:Int->Int),(∀r∈rs,Oh n r)->ws.length=n->Le n f (g ws)-> ∀r∈rs,ask f r<=g (bJ rs ws) r.1
 | [],ws,f,_,_,_=>fun r hr=>by cases hr
 | q::rs,ws,f,k,hl,h=>fun r hr=>by
  have k':=fun x hx=>k x (KD q hx)
  have kq:=k q (KG)
  have hl':(dX ws q).length=n:=jK.trans hl
  rcases Kz.mp hr with rfl | hr
  .have h1:ask f r<=g (dX ws r) r.1:=by
    unfold dX
    rw[gA kq.1 (by rw[hl]; exact kq.2.1) kq.1,Ks rfl]
    exact Lc (wW kq h) (jk _ _)
   exact Lc h1 (kD rs (dX ws r) k' hl' _ kq.1 kq.2.1)
  .exact rf rs (dX ws q) f k' hl' (fun i h0 h1=>Lc (h i h0 h1) (vX kq hl i h0 h1)) r hr
theorem iK {n:Nat}{rs:List au}{ws:List Int}(k: ∀r∈rs,Oh n r) (hl:ws.length=n) (h:bJ rs ws=ws):Met rs (g ws):=fun r hr=>by
 have:=rf rs ws (g ws) k hl (fun _ _ _=>K3 _) r hr
 rwa [h] at this
theorem Ee {ws us:List Int}(h:ws.length=us.length) (e: ∀i:Int,0<=i->i < ws.length->g ws i=g us i):ws=us:=by
 refine NU h fun i h1 h2=>?_
 have:=e i (by omega) (by omega)
 unfold g at this
 simpa [KA,h1,h2] using this
def it (rs:List au):Nat->List Int->List Int
 | 0,ws=>ws
 | k+1,ws=>it rs k (bJ rs ws)
theorem y8 (rs:List au): ∀k ws,it rs (k+1) ws=bJ rs (it rs k ws)
 | 0,ws=>rfl
 | k+1,ws=>y8 rs k (bJ rs ws)
theorem pq (rs:List au): ∀k ws,(it rs k ws).length=ws.length
 | 0,ws=>rfl
 | k+1,ws=>(pq rs k _).trans (fQ rs ws)
theorem uR {n:Nat}{rs:List au}(k: ∀r∈rs,Oh n r): ∀m ws,ws.length=n->Le n (g ws) (g (it rs m ws))
 | 0,ws,_=>fun _ _ _=>K3 _
 | m+1,ws,hl=>fun i h0 h1=>Lc (kD rs ws k hl i h0 h1) (uR k m (bJ rs ws) ((fQ rs ws).trans hl) i h0 h1)
theorem ug {n:Nat}{rs:List au}{f:Int->Int}(k: ∀r∈rs,Oh n r) (hf:Met rs f): ∀m ws,ws.length=n->Le n (g ws) f->Le n (g (it rs m ws)) f
 | 0,ws,_,h=>h
 | m+1,ws,hl,h=>ug k hf m (bJ rs ws) ((fQ rs ws).trans hl) (kC rs ws k hl hf h)
def gap (n:Nat) (f:Int->Int) (ws:List Int):Nat:=((List.range n).map fun i=>(f (i:Nat) - g ws (i:Nat)).toNat).sum
theorem uJ: ∀(l:List Nat) (a b:Nat->Nat),(∀i∈l,a i<=b i)->(l.map a).sum<=(l.map b).sum
 | [],_,_,_=>Ku _
 | x::l,a,b,h=>by
  simp only[Ld,NH]
  have:=h x (KG)
  have:=uJ l a b fun i hi=>h i (KD _ hi)
  omega
theorem qM: ∀(l:List Nat) (a b:Nat->Nat),(∀i∈l,a i<=b i)->(∃i∈l,a i < b i)->(l.map a).sum < (l.map b).sum
 | [],_,_,_,⟨_,h,_⟩=>by cases h
 | x::l,a,b,h,⟨i,hi,hl⟩=>by
  simp only[Ld,NH]
  have h1:=h x (KG)
  have h2: ∀i∈l,a i<=b i:=fun i hi=>h i (KD _ hi)
  rcases Kz.mp hi with rfl | hi
  .have:=uJ l a b h2
   omega
  .have:=qM l a b h2 ⟨i,hi,hl⟩
   omega
theorem xP {n:Nat}{ws us:List Int}(h1:ws.length=n) (h2:us.length=n) (hne:ws≠us): ∃i:Nat,i < n/\g ws (i:Nat)≠g us (i:Nat):=by
 refine Lk fun c=>hne (Ee (h1.trans h2.symm) fun i h0 hi=>?_)
 refine Lk fun d=>c ⟨i.toNat,by omega,?_⟩
 rw[show ((i.toNat:Nat):Int)=i by omega]
 exact d
theorem ends {n:Nat}{rs:List au}{f:Int->Int}(k: ∀r∈rs,Oh n r) (hf:Met rs f): ∀(m:Nat) (ws:List Int),ws.length=n->Le n (g ws) f->gap n f ws=m-> ∃N,bJ rs (it rs N ws)=it rs N ws:=by
 intro m
 induction m using Nat.strongRecOn with
 | _ m ih =>
  intro ws hl h hm
  by_cases e:bJ rs ws=ws
  .exact⟨0,e⟩
  .have hl':(bJ rs ws).length=n:=(fQ rs ws).trans hl
   have hf':=kC rs ws k hl hf h
   have hup:=kD rs ws k hl
   obtain⟨i,hi,hd⟩:=xP hl' hl e
   have lt:gap n f (bJ rs ws) < gap n f ws:=by
    refine qM _ _ _ (fun j hj=>?_) ⟨i,KZ.mpr hi,?_⟩
    .have hj:=KZ.mp hj
     have:=hup (j:Nat) (by omega) (by omega)
     omega
    .have:=hup (i:Nat) (by omega) (by omega)
     have:=hf' (i:Nat) (by omega) (by omega)
     have:=h (i:Nat) (by omega) (by omega)
     omega
   obtain⟨N,hN⟩:=ih _ (hm▸lt) (bJ rs ws) hl' hf' rfl
   exact⟨N+1,hN⟩
theorem Fe {n:Nat}{rs:List au}{ws0 ws L:List Int}(k: ∀r∈rs,Oh n r) (hl:ws.length=n) (hL:L.length=n) (h0:Le n (g ws0) (g ws)) (h1:Le n (g ws) (g L)) (hm:Met rs (g L))
  (least: ∀f,Le n (g ws0) f->Met rs f->Le n (g L) f) (hne:ws≠L): ∃i:Nat,i < n/\g ws (i:Nat) < g L (i:Nat)/\g (bJ rs ws) (i:Nat)=g L (i:Nat):=by
 refine Lk fun c=>?_
 have c': ∀i:Int,0<=i->i < n->g ws i < g L i->g (bJ rs ws) i < g L i:=fun i a b d=>by
  have up:=kC rs ws k hl hm h1 i a b
  have: ¬g (bJ rs ws) i=g L i:=fun e=>c ⟨i.toNat,by omega,by rw[show ((i.toNat:Nat):Int)=i by omega]; exact⟨d,e⟩⟩
  omega
 let f:Int->Int:=fun i=>if g ws i < g L i then g L i - 1 else g L i
 have f_le: ∀i,f i<=g L i:=fun i=>by
  show (if g ws i < g L i then g L i - 1 else g L i)<=g L i
  split <;> omega
 have fm:Met rs f:=fun r hr=>by
  obtain⟨r1,r2,r3,r4,r5⟩:=k r hr
  have a1:=rf rs ws (g ws) k hl (fun _ _ _=>K3 _) r hr
  have a2:=hm r hr
  have hb:=fun (x:0<=r.2.1)=>h1 r.2.1 x r4
  have ho:=c' r.1 r1 r2
  show ask f r<=if g ws r.1 < g L r.1 then g L r.1 - 1 else g L r.1
  unfold ask at a1 a2 ⊢
  by_cases e:r.2.1= -1
  .rw[Ks e] at a1 a2 ⊢
   split <;> omega
  .rw[Kp e] at a1 a2 ⊢
   have hb:=hb (by omega)
   show (if g ws r.2.1 < g L r.2.1 then g L r.2.1 - 1 else g L r.2.1)+r.2.2<=_
   split <;> split <;> omega
 have f0:Le n (g ws0) f:=fun i a b=>by
  have:=h0 i a b
  have:=h1 i a b
  show _<=if g ws i < g L i then g L i - 1 else g L i
  split <;> omega
 obtain⟨i,hi,hd⟩:=xP hl hL hne
 have q:=least f f0 fm (i:Nat) (by omega) (by omega)
 have p:=h1 (i:Nat) (by omega) (by omega)
 have fe:f (i:Nat)=g L (i:Nat) - 1:=Ks (by omega)
 omega
theorem BB: ∀l:List Nat,(l.map fun _=>1).sum=l.length
 | []=>rfl
 | _::l=>by simp only[Ld,NH,K1,BB l]; omega
theorem ones (n:Nat):((List.range n).map fun _=>1).sum=n:=(BB _).trans LA
def cnt (n:Nat) (ws L:List Int):Nat:=((List.range n).map fun i=>if g ws (i:Nat)=g L (i:Nat) then 1 else 0).sum
theorem FK {n:Nat}{ws L:List Int}(h1:ws.length=n) (h2:L.length=n) (h:n<=cnt n ws L):ws=L:=by
 refine Lk fun hne=>?_
 obtain⟨i,hi,hd⟩:=xP h1 h2 hne
 have:=qM (List.range n) (fun i=>if g ws (i:Nat)=g L (i:Nat) then 1 else 0) (fun _=>1) (fun i _=>by show (if _ then 1 else 0)<=1; split <;> omega) ⟨i,KZ.mpr hi,by show (if _ then 1 else 0) < 1; rw[Kp hd]; omega⟩
 have e:((List.range n).map fun _=>1).sum=n:=ones n
 unfold cnt at h
 omega
theorem xO {n:Nat}{rs:List au}{ws:List Int}{f:Int->Int}(k: ∀r∈rs,Oh n r) (hl:ws.length=n) (hf:Met rs f) (h:Le n (g ws) f):bJ rs (it rs n ws)=it rs n ws:=by
 obtain⟨N,hN⟩:=ends k hf _ ws hl h rfl
 have hLl:(it rs N ws).length=n:=(pq rs N ws).trans hl
 have hm:=iK k hLl hN
 have least: ∀f,Le n (g ws) f->Met rs f->Le n (g (it rs N ws)) f:=fun f a b=>ug k b N ws hl a
 have up:=uR k N ws hl
 generalize it rs N ws=L at hN hLl hm least up
 have main: ∀m,it rs m ws=L\/m<=cnt n (it rs m ws) L:=fun m=>by
  induction m with
  | zero=>exact .inr (Lu _)
  | succ m ih =>
   rw[y8]
   rcases ih with e | ih
   .rw[e]; exact .inl hN
   .by_cases e:it rs m ws=L
    .rw[e]; exact .inl hN
    .have hml:(it rs m ws).length=n:=(pq rs m ws).trans hl
     have hmL:=ug k hm m ws hl up
     obtain⟨i,hi,a,b⟩:=Fe k hml hLl (uR k m ws hl) hmL hm least e
     have hrL:=kC rs (it rs m ws) k hml hm hmL
     have hru:=kD rs (it rs m ws) k hml
     refine .inr (LJ ih (qM _ _ _ (fun j hj=>?_) ⟨i,KZ.mpr hi,?_⟩))
     .have hj:=KZ.mp hj
      have:=hrL (j:Nat) (by omega) (by omega)
      have:=hru (j:Nat) (by omega) (by omega)
      split <;> split <;> omega
     .show (if _ then 1 else 0) < (if _ then 1 else 0)
      rw[Kp (by omega),Ks b]
      decide
 rcases main n with e | e
 .rw[e]; exact hN
 .rw[FK ((pq rs n ws).trans hl) hLl e]; exact hN
def loop (rs:List au):Nat->List Int->Option (List Int)
 | 0,_=>none
 | k+1,ws=>if bJ rs ws=ws then some ws else loop rs k (bJ rs ws)
def bg (n:Nat) (rs:List au):Option (List Int):=loop rs (n+1) (List.replicate n 0)
theorem vR {n:Nat}{rs:List au}(k: ∀r∈rs,Oh n r): ∀(m:Nat) (ws L:List Int),ws.length=n->loop rs m ws=some L->L.length=n/\Met rs (g L)/\Le n (g ws) (g L)/\ ∀f,Le n (g ws) f->Met rs f->Le n (g L) f
 | 0,ws,L,_,h=>by cases h
 | m+1,ws,L,hl,h=>by
  unfold loop at h
  split at h
  .rename_i e
   cases h
   exact⟨hl,iK k hl e,fun _ _ _=>K3 _,fun f a _=>a⟩
  .obtain⟨a,b,c,d⟩:=vR k m (bJ rs ws) L ((fQ rs ws).trans hl) h
   exact⟨a,b,fun i h0 h1=>Lc (kD rs ws k hl i h0 h1) (c i h0 h1),fun f p q=>d f (kC rs ws k hl q p) q⟩
theorem vy (rs:List au): ∀(m:Nat) (ws:List Int),loop rs m ws=none-> ∀j,j < m->bJ rs (it rs j ws)≠it rs j ws
 | 0,_,_,_,h=>absurd h (Lw _)
 | m+1,ws,h,j,hj=>by
  unfold loop at h
  split at h
  .cases h
  .rename_i e
   cases j with
   | zero=>exact e
   | succ j=>exact vy rs m (bJ rs ws) h j (by omega)
theorem nB {n:Nat}(i:Int):g (List.replicate n 0) i=0:=by
 unfold g
 rw[KA,List.getElem?_replicate]
 split <;> rfl
theorem cP {n:Nat}{rs:List au}{L:List Int}(k: ∀r∈rs,Oh n r) (h:bg n rs=some L):L.length=n/\Met rs (g L)/\(∀i:Int,0<=i->i < n->0<=g L i)/\ ∀f:Int->Int,(∀i:Int,0<=i->i < n->0<=f i)->Met rs f->Le n (g L) f:=by
 obtain⟨a,b,c,d⟩:=vR k (n+1) _ L (by simp) h
 refine⟨a,b,fun i h0 h1=>?_,fun f p q=>d f (fun i h0 h1=>by rw[nB]; exact p i h0 h1) q⟩
 have:=c i h0 h1
 rwa [nB] at this
theorem rJ {n:Nat}{rs:List au}{f:Int->Int}(k: ∀r∈rs,Oh n r) (h0: ∀i:Int,0<=i->i < n->0<=f i) (hf:Met rs f): ∃L,bg n rs=some L:=by
 cases e:bg n rs with
 | some L=>exact⟨L,rfl⟩
 | none=>exact absurd (xO k (by simp) hf fun i a b=>by rw[nB]; exact h0 i a b) (vy rs (n+1) _ e n (by omega))
end MA
namespace L2
open PySem PySem.Spec PyProof.Rows
def js (K:N7) (H:Hp) (v:V) (q:MA.au):Prop:= ∃a,v= .ref a/\N9 K H a [.int q.1,.int q.2.1,.int q.2.2]
inductive cy (K:N7) (H:Hp):List V->List MA.au->Prop where
 | nil:cy K H [] []
 | cons {v q xs rs}:js K H v q->cy K H xs rs->cy K H (v::xs) (q::rs)
def OU (K:N7) (H:Hp) (r:Addr) (rs:List MA.au):Prop:= ∃xs,N5 K H r xs/\cy K H xs rs
def kx (K:N7) (H:Hp) (r:Addr) (rs:List MA.au):Prop:= ∃xs,H r=some (.lst xs)/\cy K H xs rs
section
variable {K:N7}{H H':Hp}{a l r:Addr}{xs ys:List V}{rs qs:List MA.au}{v:V}{q:MA.au}{o:HO}
theorem ag.iX (e:ag H H') (h:N9 K H a xs):N9 K H' a xs:=by
 rcases h with (h | ⟨o,h⟩) | h
 .exact .inl (.inl (e _ _ h))
 .exact .inl (.inr ⟨o,e _ _ h⟩)
 .exact .inr h
theorem js.same (e:ag H H') (h:js K H v q):js K H' v q:=by
 obtain⟨a,rfl,h⟩:=h
 exact⟨a,rfl,e.iX h⟩
theorem cy.same (e:ag H H') (h:cy K H xs rs):cy K H' xs rs:=by
 induction h with
 | nil=>exact .nil
 | cons t _ ih=>exact .cons (t.same e) ih
theorem OU.same (e:ag H H') (h:OU K H r rs):OU K H' r rs:=by
 obtain⟨xs,a,b⟩:=h
 exact⟨xs,e.seq a,b.same e⟩
theorem kx.same (e:ag H H') (h:kx K H r rs):kx K H' r rs:=by
 obtain⟨xs,a,b⟩:=h
 exact⟨xs,e _ _ a,b.same e⟩
theorem kx.Ph (h:kx K H r rs):OU K H r rs:=by
 obtain⟨xs,a,b⟩:=h
 exact⟨xs,N5.of a,b⟩
def LN (H:Hp) (l:Addr):Prop:=H l=none\/ ∃ys,H l=some (.lst ys)
theorem LN.of (h:H l=some (.lst xs)):LN H l:= .inr ⟨_,h⟩
theorem LN.free (h:H l=none):LN H l:= .inl h
theorem FX (n:LN H l) (h:N9 K H a xs):N9 K (upd H l o) a xs:=by
 have ne: ∀u,H a=some u->(∀ys,u≠ .lst ys)->a≠l:=fun u hu hn e=>by
  subst e
  rcases n with n | ⟨ys,n⟩
  .rw[n] at hu; cases hu
  .rw[n] at hu
   exact hn ys (KS hu).symm
 rcases h with (h | ⟨o',h⟩) | h
 .exact .inl (.inl ((ai (ne _ h fun ys z=>by cases z)).trans h))
 .exact .inl (.inr ⟨o',(ai (ne _ h fun ys z=>by cases z)).trans h⟩)
 .exact .inr h
theorem js.upd (n:LN H l) (h:js K H v q):js K (upd H l o) v q:=by
 obtain⟨a,rfl,h⟩:=h
 exact⟨a,rfl,FX n h⟩
theorem cy.upd (n:LN H l) (h:cy K H xs rs):cy K (upd H l o) xs rs:=by
 induction h with
 | nil=>exact .nil
 | cons t _ ih=>exact .cons (t.upd n) ih
theorem cy.length (h:cy K H xs rs):xs.length=rs.length:=by
 induction h with
 | nil=>rfl
 | cons _ _ ih=>rw[K1,K1,ih]
theorem cy.append (h:cy K H xs rs) (k:cy K H ys qs):cy K H (xs++ys) (rs++qs):=by
 induction h with
 | nil=>exact k
 | cons t _ ih=>exact .cons t ih
theorem cy.one (h:js K H v q):cy K H [v] [q]:= .cons h .nil
theorem cy.take (h:cy K H xs rs): ∀n,cy K H (xs.take n) (rs.take n):=by
 induction h with
 | nil=>intro n; rw[M5,M5]; exact .nil
 | cons t _ ih =>
  intro n
  cases n with
  | zero=>exact .nil
  | succ n=>rw[List.take_succ_cons,List.take_succ_cons]; exact .cons t (ih n)
theorem cy.drop (h:cy K H xs rs): ∀n,cy K H (xs.drop n) (rs.drop n):=by
 induction h with
 | nil=>intro n; rw[NI,NI]; exact .nil
 | cons t k ih =>
  intro n
  cases n with
  | zero=>exact .cons t k
  | succ n=>rw[List.drop_succ_cons,List.drop_succ_cons]; exact ih n
theorem cy.get (h:cy K H xs rs): ∀ {i:Nat},xs[i]?=some v-> ∃q,rs[i]?=some q/\js K H v q:=by
 induction h with
 | nil=>intro i e; simp at e
 | cons t _ ih =>
  intro i e
  cases i with
  | zero=>simp at e; subst e; exact⟨_,rfl,t⟩
  | succ i=>exact ih (i:=i) (by simpa using e)
theorem cy.at (h:cy K H xs rs): ∀ {i:Nat},rs[i]?=some q-> ∃v,xs[i]?=some v/\js K H v q:=by
 induction h with
 | nil=>intro i e; simp at e
 | cons t _ ih =>
  intro i e
  cases i with
  | zero=>simp at e; subst e; exact⟨_,rfl,t⟩
  | succ i=>exact ih (i:=i) (by simpa using e)
theorem kx.push {t:Addr}(h:kx K H l rs) (ht:H t=none) (e:H l=some (.lst xs)):kx K (L2.upd (L2.upd H t (.tup [.int q.1,.int q.2.1,.int q.2.2])) l (.lst (xs++[.ref t]))) l (rs++[q]):=by
 obtain⟨xs',a,b⟩:=h
 rw[e] at a
 cases a
 have hl:(L2.upd H t (.tup [.int q.1,.int q.2.1,.int q.2.2])) l=some (.lst xs):=(ai (az e ht)).trans e
 exact⟨_,af,((b.upd (.free ht)).upd (.of hl)).append (.one (js.upd (.of hl) ⟨t,rfl,N9.of af⟩))⟩
theorem ag.upd {p:Addr}(h:H p=none):ag H (L2.upd H p o):=fun b u hb=>by
 rw[ai (az hb h)]
 exact hb
theorem ag.dA {u:HO}(s:ag H H') (h:H l=none):ag H (L2.upd H' l u):=fun b z hb=>by
 rw[ai (az hb h)]
 exact s b z hb
theorem ag.JI {p q:Addr}{u:HO}(s:ag H H') (hp:H' p=none) (hq:H q=none):ag H (L2.upd (L2.upd H' p o) q u):=(s.trans (ag.upd hp)).dA hq
end
theorem bW {lo:Int}{n i:Nat}{x:V}(h:(cj lo n)[i]?=some x):i < n/\x= .int (lo+(i:Nat)):=by
 unfold cj at h
 rw[KH] at h
 cases e:(List.range n)[i]? with
 | none=>rw[e] at h; cases h
 | some j =>
  rw[e] at h
  have hi:i < n:=by
   have:=(Ky.mp e).1
   rwa [LA] at this
  rw[List.getElem?_range hi] at e
  cases e
  exact⟨hi,(KS h).symm⟩
theorem cR {lo:Int}{n:Nat}:(cj lo n).length=n:=by simp[cj]
theorem fj {ws:List Int}{i:Int}(h0:0<=i) (h1:i < ws.length):Om (ws.map V.int) i=some (.int (MA.g ws i)):=by
 have hn:i.toNat < ws.length:=by omega
 have e:i=((i.toNat:Nat):Int):=by omega
 have h:=bT (xs:=ws.map V.int) (j:=i.toNat) (v:= .int (MA.g ws i)) (by simp[MA.g,hn])
 rwa [<-e] at h
theorem lg {n:Nat}{i:Int}(h0:0<=i) (h1:i < n):O1 n i=some i.toNat:=by
 unfold O1
 rw[Ks h0,Ks h1]
end L2
namespace MA
abbrev Mt:=Nat->Nat->Int
def setM (M:Mt) (a b:Nat) (v:Int):Mt:=fun i j=>if i=a/\j=b then v else M i j
def O0 (k a:Nat) (M:Mt) (b:Nat):Mt:=if 0<=M k b then setM M a b (mx (M a b) (M a k+M k b)) else M
def inner (n k a:Nat) (M:Mt):Mt:=(List.range n).foldl (O0 k a) M
def lV (n k:Nat) (M:Mt) (a:Nat):Mt:=if M a k < 0 then M else inner n k a M
def mid (n:Nat) (M:Mt) (k:Nat):Mt:=(List.range n).foldl (lV n k) M
def OV (M:Mt) (q:au):Mt:=if 0<=q.2.1 then setM M q.2.1.toNat q.1.toNat (mx (M q.2.1.toNat q.1.toNat) q.2.2) else M
def wR (M:Mt) (k:Nat):Mt:=setM M k k 0
def M1 (n:Nat):Mt:=(List.range n).foldl wR (fun _ _=> -1)
def M2 (n:Nat) (rs:List au):Mt:=rs.foldl OV (M1 n)
def aL (n:Nat) (rs:List au):Mt:=(List.range n).foldl (mid n) (M2 n rs)
def oV (n:Nat) (rs:List au):Bool:=(List.range n).any fun k=>decide (0 < aL n rs k k)
theorem fZ {α β:Type}(I:β->Prop) (f:β->α->β): ∀(l:List α) (x:β),I x->(∀y a,a∈l->I y->I (f y a))->I (l.foldl f x)
 | [],_,h,_=>h
 | a::l,x,h,hs=>fZ I f l (f x a) (hs x a (KG) h) fun y b hb=>hs y b (KD _ hb)
def Sd (f:Int->Int) (M:Mt):Prop:= ∀i j:Nat,0<=M i j->f (i:Nat)+M i j<=f (j:Nat)
theorem Sd.set {f:Int->Int}{M:Mt}{a b:Nat}{v:Int}(h:Sd f M) (hv:0<=v->f (a:Nat)+v<=f (b:Nat)):Sd f (setM M a b v):=fun i j=>by
 unfold setM
 split
 .rename_i e; rw[e.1,e.2]; exact hv
 .exact h i j
theorem wH (i j:Int):mx i j=i\/mx i j=j:=by unfold mx; split <;> simp
theorem Sd.mid {n:Nat}{f:Int->Int}{M:Mt}{k:Nat}(h:Sd f M):Sd f (MA.mid n M k):=by
 refine fZ (Sd f) _ _ _ h fun y a _ hy=>?_
 unfold lV
 split
 .exact hy
 .rename_i hk
  refine (fZ (fun M=>Sd f M/\0<=M a k) _ _ _ ⟨hy,by omega⟩ fun z b _ hz=>?_).1
  unfold O0
  split
  .rename_i hb
   refine⟨hz.1.set fun hv=>?_,?_⟩
   .have h1:=hz.1 a k hz.2
    have h2:=hz.1 k b hb
    have h3:=hz.1 a b
    rcases wH (z a b) (z a k+z k b) with e | e <;> rw[e] at hv ⊢ <;> omega
   .unfold setM
    split
    .rename_i e
     have:=fM (z a b) (z a k+z k b)
     have e2:=e.2
     subst e2
     exact Lc hz.2 this
    .exact hz.2
  .exact hz
theorem lh {n:Nat}{rs:List au}{f:Int->Int}(k: ∀r∈rs,Oh n r) (hf:Met rs f):Sd f (aL n rs):=by
 have h1:Sd f (M1 n):=fZ (Sd f) _ _ _ (fun i j h=>absurd h (by decide)) fun y a _ hy=>hy.set fun _=>by omega
 have h2:Sd f (M2 n rs):=fZ (Sd f) _ _ _ h1 fun y q hq hy=>by
  unfold OV
  split
  .rename_i hb
   refine hy.set fun hv=>?_
   have m:=hf q hq
   have kq:=k q hq
   unfold ask at m
   rw[Kp (by omega)] at m
   have e1:((q.2.1.toNat:Nat):Int)=q.2.1:=by omega
   have e2:((q.1.toNat:Nat):Int)=q.1:=by have:=kq.1; omega
   have h3:=hy q.2.1.toNat q.1.toNat
   rw[e1,e2] at h3 ⊢
   rcases wH (y q.2.1.toNat q.1.toNat) q.2.2 with e | e <;> rw[e] at hv ⊢ <;> omega
  .exact hy
 exact fZ (Sd f) _ _ _ h2 fun y a _ hy=>hy.mid
theorem Bh {n:Nat}{rs:List au}(k: ∀r∈rs,Oh n r) (h:oV n rs=true) (f:Int->Int): ¬Met rs f:=fun hf=>by
 unfold oV at h
 rw[NS] at h
 obtain⟨i,_,hi⟩:=h
 have hi:=KY hi
 have:=lh k hf i i (by omega)
 omega
def OE (M N:Mt):Prop:= ∀i j,M i j<=N i j
theorem OE.refl (M:Mt):OE M M:=fun _ _=>K3 _
theorem OE.trans {M N O:Mt}(h:OE M N) (k:OE N O):OE M O:=fun i j=>Lc (h i j) (k i j)
theorem Cw {M:Mt}{a b:Nat}{v:Int}:OE M (setM M a b (mx (M a b) v)):=fun i j=>by
 unfold setM
 split
 .rename_i e; rw[e.1,e.2]; exact fM _ _
 .exact K3 _
theorem mH {α:Type}(f:Mt->α->Mt) (h: ∀M a,OE M (f M a)) (l:List α) (M:Mt):OE M (l.foldl f M):=fZ (OE M) f l M (OE.refl M) fun y a _ hy=>hy.trans (h y a)
theorem AO {n k:Nat}(M:Mt):OE M (mid n M k):=mH _ (fun M a=>by
 unfold lV
 split
 .exact OE.refl M
 .refine mH _ (fun M b=>?_) _ M
  unfold O0
  split
  .exact Cw
  .exact OE.refl M) _ M
theorem A7 (M:Mt) (q:au):OE M (OV M q):=by
 unfold OV
 split
 .exact Cw
 .exact OE.refl M
theorem y3: ∀(m k:Nat),k < m->(List.range m).foldl wR (fun _ _=> -1) k k=0
 | 0,k,h=>absurd h (Lw _)
 | m+1,k,h=>by
  rw[L4,LQ]
  show setM ((List.range m).foldl wR (fun _ _=> -1)) m m 0 k k=0
  unfold setM
  split
  .rfl
  .exact y3 m k (by omega)
def U (n k:Nat) (D:Mt):Mt:=fun i j=>if i < n/\j < n/\0<=D i k/\0<=D k j then mx (D i j) (D i k+D k j) else D i j
theorem Eg {n k:Nat}{D:Mt}(h:D k k=0) (i:Nat):U n k D i k=D i k:=by
 unfold U
 split
 .rw[h,Int.add_zero]; unfold mx; split <;> omega
 .rfl
theorem Eo {n k:Nat}{D:Mt}(h:D k k=0) (j:Nat):U n k D k j=D k j:=by
 unfold U
 split
 .rw[h,Int.zero_add]; unfold mx; split <;> omega
 .rfl
theorem xi {n k a:Nat}{D:Mt}(h:D k k=0) (ha:a < n) (hp:0<=D a k): ∀b,b<=n->(List.range b).foldl (O0 k a) (fun i j=>if i < a then U n k D i j else D i j)=fun i j=>if i < a\/(i=a/\j < b) then U n k D i j else D i j
 | 0,_=>by
  funext i j
  simp
 | b+1,hb=>by
  rw[L4,LQ,xi h ha hp b (by omega)]
  show O0 k a (fun i j=>if i < a\/(i=a/\j < b) then U n k D i j else D i j) b=_
  have e1: ∀j,(fun i j=>if i < a\/(i=a/\j < b) then U n k D i j else D i j:Mt) k j=D k j:=fun j=>by
   show (if k < a\/(k=a/\j < b) then U n k D k j else D k j)=D k j
   split
   .exact Eo h j
   .rfl
  have e2:(fun i j=>if i < a\/(i=a/\j < b) then U n k D i j else D i j:Mt) a k=D a k:=by
   show (if a < a\/(a=a/\k < b) then U n k D a k else D a k)=D a k
   split
   .exact Eg h a
   .rfl
  have e3:(fun i j=>if i < a\/(i=a/\j < b) then U n k D i j else D i j:Mt) a b=D a b:=by
   show (if a < a\/(a=a/\b < b) then U n k D a b else D a b)=D a b
   rw[Kp (by omega)]
  unfold O0
  rw[e1,e2,e3]
  funext i j
  by_cases hc:0<=D k b
  .rw[Ks hc]
   unfold setM
   by_cases e:i=a/\j=b
   .rw[Ks e,Ks (by omega),e.1,e.2]
    unfold U
    rw[Ks ⟨ha,by omega,hp,hc⟩]
   .rw[Kp e]
    show (if i < a\/(i=a/\j < b) then U n k D i j else D i j)=_
    by_cases e':i < a\/(i=a/\j < b)
    .rw[Ks e',Ks (by omega)]
    .rw[Kp e',Kp (by omega)]
  .rw[Kp hc]
   by_cases e':i < a\/(i=a/\j < b)
   .rw[Ks e',Ks (by omega)]
   .rw[Kp e']
    split
    .rename_i e''
     have:i=a/\j=b:=by omega
     rw[this.1,this.2]
     unfold U
     rw[Kp (fun z=>hc z.2.2.2)]
    .rfl
theorem BC {n k:Nat}{D:Mt}(h:D k k=0): ∀a,a<=n->(List.range a).foldl (lV n k) D=fun i j=>if i < a then U n k D i j else D i j
 | 0,_=>by
  funext i j
  simp
 | a+1,ha=>by
  rw[L4,LQ,BC h a (by omega)]
  show lV n k (fun i j=>if i < a then U n k D i j else D i j) a=_
  unfold lV
  have e:(fun i j=>if i < a then U n k D i j else D i j:Mt) a k=D a k:=Kp (L7 a)
  rw[e]
  by_cases hp:D a k < 0
  .rw[Ks hp]
   funext i j
   by_cases e1:i < a
   .rw[Ks e1,Ks (by omega)]
   .rw[Kp e1]
    split
    .have:i=a:=by omega
     rw[this]
     unfold U
     rw[Kp (fun z=>absurd z.2.2.1 (by omega))]
    .rfl
  .rw[Kp hp]
   show (List.range n).foldl (O0 k a) _=_
   rw[xi h (by omega) (by omega) n (Ku n)]
   funext i j
   by_cases e1:i < a
   .rw[Ks (.inl e1),Ks (by omega)]
   .by_cases e2:i=a
    .by_cases e3:j < n
     .rw[Ks (.inr ⟨e2,e3⟩),Ks (by omega)]
     .rw[Kp (by omega),Ks (by omega)]
      unfold U
      rw[Kp (fun z=>e3 z.2.1)]
    .rw[Kp (by omega),Kp (by omega)]
theorem Ir {n k:Nat}{D:Mt}(h:D k k=0):mid n D k=U n k D:=by
 unfold mid
 rw[BC h n (Ku n)]
 funext i j
 split
 .rfl
 .rename_i e
  unfold U
  rw[Kp (fun z=>e z.1)]
def Cl (n k:Nat) (D:Mt):Prop:= ∀m,m < k-> ∀a b,a < n->b < n->0<=D a m->0<=D m b->D a m+D m b<=D a b
theorem Cl.step {n k:Nat}{D:Mt}(hk:k < n) (h:D k k=0) (c:Cl n k D):Cl n (k+1) (U n k D):=by
 have f1: ∀i j,D i j<=U n k D i j:=fun i j=>by
  unfold U
  split
  .exact fM _ _
  .exact K3 _
 have f2: ∀i j,i < n->j < n->0<=D i k->0<=D k j->D i k+D k j<=U n k D i j:=fun i j a b p q=>by
  unfold U
  rw[Ks ⟨a,b,p,q⟩]
  exact jk _ _
 have f3: ∀i j,U n k D i j=D i j\/(0<=D i k/\0<=D k j/\U n k D i j=D i k+D k j):=fun i j=>by
  unfold U
  split
  .rename_i z
   rcases wH (D i j) (D i k+D k j) with e | e
   .exact .inl e
   .exact .inr ⟨z.2.2.1,z.2.2.2,e⟩
  .exact .inl rfl
 intro m hm a b ha hb h1 h2
 by_cases e:m=k
 .subst e
  rw[Eg h] at h1 ⊢
  rw[Eo h] at h2 ⊢
  exact f2 a b ha hb h1 h2
 .have hm:m < k:=by omega
  have hmn:m < n:=by omega
  have g1:=f1 a b
  have g2:=f2 a b ha hb
  rcases f3 a m with e1 | ⟨p1,p2,e1⟩ <;> rcases f3 m b with e2 | ⟨p3,p4,e2⟩ <;> rw[e1] at h1 ⊢ <;> rw[e2] at h2 ⊢
  .have:=c m hm a b ha hb h1 h2
   omega
  .have:=c m hm a k ha hk h1 p3
   have:=g2 (by omega) p4
   omega
  .have:=c m hm k b hk hb p2 h2
   have:=g2 p1 (by omega)
   omega
  .have:=c m hm k k hk hk p2 p3
   have:=g2 p1 p4
   omega
theorem qy {n:Nat}{rs:List au}(h: ∀k,k < n->aL n rs k k<=0):OE (M2 n rs) (aL n rs)/\(∀k,k < n->aL n rs k k=0)/\Cl n n (aL n rs):=by
 have hup: ∀k,k<=n->OE ((List.range k).foldl (mid n) (M2 n rs)) (aL n rs):=fun k hk=>by
  have e:List.range n=List.range k++(List.range (n - k)).map (k+ ·):=by
   have:=List.range_add (n:=k) (m:=n - k)
   rwa [show k+(n - k)=n by omega] at this
  unfold aL
  rw[e,LQ]
  exact mH _ (fun M a=>AO M) _ _
 have hd0: ∀k,k < n->M1 n k k=0:=fun k hk=>y3 n k hk
 have h12:OE (M1 n) (M2 n rs):=mH _ A7 _ _
 have hd: ∀m,m<=n-> ∀k,k < n->(List.range m).foldl (mid n) (M2 n rs) k k=0:=fun m hm k hk=>by
  have a:=hup m hm k k
  have b:=h k hk
  have c:OE (M2 n rs) ((List.range m).foldl (mid n) (M2 n rs)):=mH _ (fun M a=>AO M) _ _
  have:=c k k
  have:=h12 k k
  have:=hd0 k hk
  omega
 have cl: ∀m,m<=n->Cl n m ((List.range m).foldl (mid n) (M2 n rs)):=fun m=>by
  induction m with
  | zero=>intro _ m hm; exact absurd hm (Lw _)
  | succ m ih =>
   intro hm
   rw[L4,LQ]
   show Cl n (m+1) (mid n _ m)
   rw[Ir (hd m (by omega) m (by omega))]
   exact (ih (by omega)).step (by omega) (hd m (by omega) m (by omega))
 exact⟨hup 0 (Lu _),hd n (Ku n),cl n (Ku n)⟩
def big:List Nat->(Nat->Int)->Int
 | [],_=>0
 | i::l,f=>mx (big l f) (f i)
theorem Az: ∀(l:List Nat) (f:Nat->Int),0<=big l f
 | [],_=>K3 _
 | i::l,f=>Lc (Az l f) (fM _ _)
theorem Bq: ∀(l:List Nat) (f:Nat->Int),∀i∈l,f i<=big l f
 | [],_,_,h=>by cases h
 | j::l,f,i,h=>by
  rcases Kz.mp h with rfl | h
  .exact jk _ _
  .exact Lc (Bq l f i h) (fM _ _)
theorem Bx: ∀(l:List Nat) (f:Nat->Int) (c:Int),0<=c->(∀i∈l,f i<=c)->big l f<=c
 | [],_,_,h,_=>h
 | j::l,f,c,h,k=>wL (Bx l f c h fun i hi=>k i (KD _ hi)) (k j (KG))
theorem tK: ∀rs:List au,∃C:Int,0<=C/\ ∀r∈rs,r.2.2<=C
 | []=>⟨0,K3 _,fun r h=>by cases h⟩
 | r::rs=>by
  obtain⟨C,h0,h⟩:=tK rs
  refine⟨mx C r.2.2,Lc h0 (fM _ _),fun q hq=>?_⟩
  rcases Kz.mp hq with rfl | hq
  .exact jk _ _
  .exact Lc (h q hq) (fM _ _)
theorem sv {n:Nat}: ∀(rs:List au) (M:Mt) (q:au),q∈rs->0<=q.2.1->q.2.2<=rs.foldl OV M q.2.1.toNat q.1.toNat
 | [],_,_,h,_=>by cases h
 | r::rs,M,q,h,hb=>by
  rcases Kz.mp h with rfl | h
  .refine Lc ?_ (mH OV A7 rs (OV M q) _ _)
   unfold OV
   rw[Ks hb]
   unfold setM
   rw[Ks ⟨rfl,rfl⟩]
   exact jk _ _
  .exact sv (n:=n) rs (OV M r) q h hb
theorem yz {n:Nat}{rs:List au}(k: ∀r∈rs,Oh n r) (h:oV n rs=false): ∃f:Int->Int,(∀i,0<=f i)/\Met rs f:=by
 have hd: ∀k,k < n->aL n rs k k<=0:=fun i hi=>by
  unfold oV at h
  rw[NJ] at h
  have:=h i (KZ.mpr hi)
  have: ¬ 0 < aL n rs i i:=fun z=>this (KQ z)
  omega
 obtain⟨up,dg,cl⟩:=qy hd
 obtain⟨C,c0,hC⟩:=tK rs
 refine⟨fun v=>C+big (List.range n) fun u=>aL n rs u v.toNat,fun v=>?_,fun r hr=>?_⟩
 .have:=Az (List.range n) fun u=>aL n rs u v.toNat
  show 0<=C+_
  omega
 .obtain⟨r1,r2,r3,r4,r5⟩:=k r hr
  have hCr:=hC r hr
  have hb0:=Az (List.range n) fun u=>aL n rs u r.1.toNat
  unfold ask
  show (if r.2.1= -1 then r.2.2 else C+big (List.range n) (fun u=>aL n rs u r.2.1.toNat)+r.2.2)<=C+big (List.range n) (fun u=>aL n rs u r.1.toNat)
  by_cases e:r.2.1= -1
  .rw[Ks e]
   omega
  .rw[Kp e]
   have hl:r.2.2<=aL n rs r.2.1.toNat r.1.toNat:=Lc (sv (n:=n) rs (M1 n) r hr (by omega)) (up _ _)
   have t1:=Bq (List.range n) (fun u=>aL n rs u r.1.toNat)
   have t2:big (List.range n) (fun u=>aL n rs u r.2.1.toNat)<=big (List.range n) (fun u=>aL n rs u r.1.toNat) - r.2.2:=by
    refine Bx _ _ _ ?_ fun u hu=>?_
    .have:=t1 r.2.1.toNat (KZ.mpr (by omega))
     have:aL n rs r.2.1.toNat r.1.toNat<=_:=this
     omega
    .have hu':=KZ.mp hu
     have:aL n rs r.2.1.toNat r.1.toNat<=_:=t1 r.2.1.toNat (KZ.mpr (by omega))
     have:aL n rs u r.1.toNat<=_:=t1 u hu
     show aL n rs u r.2.1.toNat<=_
     by_cases hp:0<=aL n rs u r.2.1.toNat
     .have:=cl r.2.1.toNat (by omega) u r.1.toNat hu' (by omega) hp (by omega)
      omega
     .omega
   omega
end MA
namespace L2
open PySem PySem.Spec PyProof.Rows
theorem Ad {lo:Int}{n:Nat}{te:TE}{own:List Str}{fr:List Nat}{σ:St}{H:Hp}{Q:VK}(Pv:Nat->List V->Hp->Prop) (h0:Pv 0 [] H) (hz:n < sizeLine) (hlen: ∀i ys H,Pv i ys H->ys.length=i)
  (hs: ∀i ys H2,i < n->Pv i ys H2->te ((cH own fr σ).set 0 (some (.int (lo+(i:Nat))))) H2 fun y H6=>Pv (i+1) (ys++[y]) H6)
  (hq: ∀ys H2 p,Pv n ys H2->H2 p=none->Q (.ref p) (upd H2 p (.lst ys))):mr (Pm lo n) (aO 0) g8 te own fr σ H Q:=by
 refine⟨fun i m ys H2=>i<=n/\m=n - i/\Pv i ys H2,⟨n,Lu _,rfl,h0⟩,?_⟩
 rintro i m ys H2 ⟨hi,rfl,hp⟩
 by_cases hlt:i < n
 .refine .inr ⟨hlt,by rw[hlen i ys H2 hp]; omega,fun x H3 hy=>?_⟩
  obtain⟨rfl,rfl⟩:=hy
  have:=hs i ys H3 hlt hp
  have e:(te ((cH own fr σ).set 0 (some (.int (lo+(i:Nat))))) H3 fun y H6=> ∃m',m' < n - i/\i+1<=n/\m'=n - (i+1)/\Pv (i+1) (ys++[y]) H6)=te ((cH own fr σ).set 0 (some (.int (lo+(i:Nat))))) H3 fun y H6=>Pv (i+1) (ys++[y]) H6:=by
   congr 1
   funext y H6
   exact propext ⟨fun⟨_,_,_,_,z⟩=>z,fun z=>⟨n - (i+1),by omega,hlt,rfl,z⟩⟩
  rw[<-e] at this
  exact this
 .have e:i=n:=by omega
  subst e
  exact .inl ⟨Ku _,by rw[hlen _ ys H2 hp]; omega,fun p np=>hq ys H2 p hp np⟩
def ic (n:Nat) (M:MA.Mt) (i:Nat):List V:=(List.range n).map fun j=>V.int (M i j)
theorem kO {n:Nat}{M:MA.Mt}{i:Nat}:(ic n M i).length=n:=by simp[ic]
structure OB (H0 H:Hp) (n:Nat) (p:Addr) (ds:List Addr) (M:MA.Mt):Prop where
 top:H p=some (.lst (ds.map V.ref))
 len:ds.length=n
 nd:ds.Nodup
 np:p∉ds
 row: ∀i d,ds[i]?=some d->H d=some (.lst (ic n M i))
 sm:ag H0 H
 fp:H0 p=none
 fd: ∀d∈ds,H0 d=none
section
variable {H0 H:Hp}{n:Nat}{p:Addr}{ds:List Addr}{M:MA.Mt}
theorem OB.at (m:OB H0 H n p ds M){a:Int}(h0:0<=a) (h1:a < n): ∃d,ds[a.toNat]?=some d/\Om (ds.map V.ref) a=some (.ref d)/\H d=some (.lst (ic n M a.toNat)):=by
 have hn:a.toNat < ds.length:=by rw[m.len]; omega
 refine⟨ds[a.toNat],Kr hn,?_,m.row _ _ (Kr hn)⟩
 have e:a=((a.toNat:Nat):Int):=by omega
 have h:=bT (xs:=ds.map V.ref) (j:=a.toNat) (v:= .ref ds[a.toNat]) (by simp[hn])
 rwa [<-e] at h
theorem my {i:Nat}{b:Int}(h0:0<=b) (h1:b < n):Om (ic n M i) b=some (.int (M i b.toNat)):=by
 have e:b=((b.toNat:Nat):Int):=by omega
 have h:=bT (xs:=ic n M i) (j:=b.toNat) (v:= .int (M i b.toNat)) (by
  have:b.toNat < n:=by omega
  simp[ic,this])
 rwa [<-e] at h
theorem DX {a b:Nat}{v:Int}(hb:b < n):(ic n M a).set b (.int v)=ic n (MA.setM M a b v) a:=by
 refine NU (by rw[Mo,kO,kO]) fun j h1 h2=>?_
 rw[kO] at h2
 rw[List.getElem_set]
 by_cases e:b=j
 .rw[Ks e]
  simp only[ic,M6,List.getElem_range,MA.setM]
  rw[Ks ⟨trivial,e.symm⟩]
 .rw[Kp e]
  simp only[ic,M6,List.getElem_range,MA.setM]
  rw[Kp (fun z=>e z.2.symm)]
theorem EH {a b i:Nat}{v:Int}(h:i≠a):ic n (MA.setM M a b v) i=ic n M i:=by
 unfold ic
 refine Mb fun j _=>?_
 unfold MA.setM
 rw[Kp (fun z=>h z.1)]
theorem OB.put (m:OB H0 H n p ds M){a b:Nat}{d:Addr}{v:Int}(hd:ds[a]?=some d) (hb:b < n):OB H0 (upd H d (.lst ((ic n M a).set b (.int v)))) n p ds (MA.setM M a b v):=by
 have hmem:d∈ds:=Kw hd
 refine⟨?_,m.len,m.nd,m.np,fun i e he=>?_,m.sm.dA (m.fd d hmem),m.fp,m.fd⟩
 .rw[ai (show p≠d from fun z=>m.np (by rw[z]; exact hmem))]
  exact m.top
 .by_cases q:i=a
  .subst q
   rw[hd] at he
   cases he
   rw[af,DX hb]
  .have ne:e≠d:=fun z=>by
    subst z
    obtain⟨h1,e1⟩:=Ky.mp hd
    obtain⟨h2,e2⟩:=Ky.mp he
    exact q ((NN m.nd).mp (e2.trans e1.symm))
   rw[ai ne,EH q]
   exact m.row i e he
theorem OB.grow {ys:List V}{H2:Hp}{p:Addr}(ds:List Addr) (e:ys=ds.map V.ref) (hl:ds.length=n) (nd:ds.Nodup) (hr: ∀d∈ds,H2 d=some (.lst (List.replicate n (V.int (-1))))/\H0 d=none) (sm:ag H0 H2) (hp:H2 p=none) :
  OB H0 (upd H2 p (.lst ys)) n p ds (fun _ _=> -1):=by
 have ne: ∀d∈ds,d≠p:=fun d hd=>az (hr d hd).1 hp
 refine⟨by rw[af,e],hl,nd,fun z=>ne p z rfl,fun i d hi=>?_,sm.trans (ag.upd hp),sm.free hp,fun d hd=>(hr d hd).2⟩
 have hd:=Kw hi
 rw[ai (ne d hd),(hr d hd).1]
 congr 2
 unfold ic
 rw[List.map_const',LA]
end
theorem dI {α:Type}(f:α->Nat->α) (x:α) (i:Nat):(List.range (i+1)).foldl f x=f ((List.range i).foldl f x) i:=by
 rw[L4,LQ]
 rfl
theorem foldl_take_succ {α β:Type}(f:α->β->α) (x:α){l:List β}{i:Nat}{b:β}(h:l[i]?=some b):(l.take (i+1)).foldl f x=f ((l.take i).foldl f x) b:=by
 rw[La,h,LQ]
 rfl
def NT (o:HO):Prop:= ∀ps,o≠ .tbl ps
structure Kh (H H':Hp):Prop where
 nt: ∀b o,H b=some o->NT o->H' b=some o
 tb: ∀b ps,H b=some (.tbl ps)-> ∃ps',H' b=some (.tbl ps')
section
variable {K:N7}{H H' H2:Hp}{a l r:Addr}{xs ys:List V}{rs qs:List MA.au}{v:V}{q:MA.au}{o:HO}
end
def aQ (is:List Nat):List V:=is.map fun i=>V.int (i:Nat)
theorem zh {is:List Nat}{k:Int}(h0:0<=k) (h1:k < is.length):Om (aQ is) k=some (.int (is.getD k.toNat 0:Nat)):=by
 have hn:k.toNat < is.length:=by omega
 have e:k=((k.toNat:Nat):Int):=by omega
 have h:=bT (xs:=aQ is) (j:=k.toNat) (v:= .int (is.getD k.toNat 0:Nat)) (by simp[aQ,hn])
 rwa [<-e] at h
end L2
namespace MA
end MA
namespace L2
open PySem PySem.Spec PyProof.Rows
section
variable {κ:Type} [DecidableEq κ]
def aM (kvs:List (κ×V)) (k:κ):Option V:=(kvs.find? fun kv=>decide (kv.1=k)).map (·.2)
def putK (kvs:List (κ×V)) (k:κ) (v:V):List (κ×V) :=
 if (kvs.any fun kv=>decide (kv.1=k))=true then kvs.map (fun kv=>if kv.1=k then (kv.1,v) else kv) else kvs++[(k,v)]
def f6 (kvs:List (κ×V)) (k:κ):List (κ×V):=kvs.filter fun kv=>decide (kv.1≠k)
theorem Dz {k:κ}:aM ([]:List (κ×V)) k=none:=rfl
theorem cU {p:κ×V}{r:List (κ×V)}{k:κ}(e:p.1=k):aM (p::r) k=some p.2:=by simp[aM,MG,e]
theorem cI {p:κ×V}{r:List (κ×V)}{k:κ}(e: ¬p.1=k):aM (p::r) k=aM r k:=by simp[aM,MG,e]
theorem nJ (k:κ): ∀kvs:List (κ×V),(kvs.any fun kv=>decide (kv.1=k))=(aM kvs k).isSome
 | []=>rfl
 | p::r=>by
  rw[L8]
  by_cases e:p.1=k
  .simp only[cU e,KQ e,Bool.true_or,Option.isSome_some]
  .rw[cI e,KU e,Bool.false_or]; exact nJ k r
theorem wV (k j:κ) (y:V): ∀kvs:List (κ×V),aM (kvs.map fun kv=>if kv.1=k then (kv.1,y) else kv) j=(aM kvs j).map fun x=>if j=k then y else x
 | []=>rfl
 | p::r=>by
  have ih:=wV k j y r
  rw[Ld]
  by_cases h:p.1=k
  .rw[Ks h]
   by_cases e:p.1=j
   .rw[cU (p:=(p.1,y)) e,cU e,Ni,Ks (e.symm.trans h)]
   .rw[cI (p:=(p.1,y)) e,cI e,ih]
  .rw[Kp h]
   by_cases e:p.1=j
   .rw[cU (p:=p) e,cU e,Ni,Kp (fun z=>h (e.trans z))]
   .rw[cI (p:=p) e,cI e,ih]
theorem vY (k j:κ) (y:V): ∀kvs:List (κ×V),aM kvs k=none->aM (kvs++[(k,y)]) j=if j=k then some y else aM kvs j
 | [],_=>by
  by_cases e:k=j
  .rw[Ks e.symm]; exact cU (p:=(k,y)) e
  .rw[Kp (fun z=>e z.symm)]; exact cI (p:=(k,y)) e
 | p::r,hn=>by
  rw[NV]
  have hk: ¬p.1=k:=fun z=>by rw[cU z] at hn; cases hn
  rw[cI hk] at hn
  have ih:=vY k j y r hn
  by_cases e:p.1=j
  .rw[cU e,cU e,Kp (fun z=>hk (e.trans z))]
  .rw[cI e,cI e,ih]
theorem iW (kvs:List (κ×V)) (k j:κ) (y:V):aM (putK kvs k y) j=if j=k then some y else aM kvs j:=by
 unfold putK
 by_cases a:(kvs.any fun kv=>decide (kv.1=k))=true
 .rw[Ks a,wV]
  rw[nJ] at a
  by_cases e:j=k
  .obtain⟨x,hx⟩:=L3.mp a
   rw[Ks e,e,hx,Ni,Ks rfl]
  .rw[Kp e]
   cases aM kvs j with
   | none=>rfl
   | some x=>rw[Ni,Kp e]
 .rw[Kp a]
  refine vY k j y kvs ?_
  rw[nJ] at a
  cases q:aM kvs k with
  | none=>rfl
  | some x=>rw[q] at a; exact (a rfl).elim
theorem gj (kvs:List (κ×V)) (k:κ) (v:V):(putK kvs k v).length<=kvs.length+1:=by
 unfold putK
 split
 .rw[Kq]; omega
 .rw[KC,K1,MH]; omega
theorem yn {kvs:List (κ×V)}{k:κ}(v:V) (h:aM kvs k=none):putK kvs k v=kvs++[(k,v)]:=by
 unfold putK
 rw[nJ,h]
 exact Kp (by decide)
theorem fR.jd {o:Option V}{u:Option Value}(r:fR o u):o.isSome=u.isSome:=by
 cases o with
 | none=>cases u with
  | none=>rfl
  | some _=>exact (show False from r).elim
 | some _=>cases u with
  | none=>exact (show False from r).elim
  | some _=>rfl
theorem fR.getD {o:Option V}{u:Option Value}{d:V}{d':Value}(r:fR o u) (rd:RelV d d'):RelV (o.getD d) (u.getD d'):=by
 cases o with
 | none=>cases u with
  | none=>exact rd
  | some _=>exact (show False from r).elim
 | some _=>cases u with
  | none=>exact (show False from r).elim
  | some _=>exact r
theorem KV.val {kvs:List (κ×V)}{vs:List (κ×Value)}(r:KV kvs vs) (k:κ):fR (aM kvs k) (valueAt vs k):=by
 unfold KV at r
 induction r with
 | nil=>exact True.intro
 | @cons p q ps qs h t ih =>
  obtain⟨h1,h2⟩:=h
  by_cases e:p.1=k
  .have e':q.1=k:=h1.symm.trans e
   have b:valueAt (q::qs) k=some q.2:=by simp[valueAt,MG,e']
   rw[cU e,b]; exact h2
  .have e': ¬q.1=k:=fun z=>e (h1.trans z)
   have b:valueAt (q::qs) k=valueAt qs k:=by simp[valueAt,MG,e']
   rw[cI e,b]; exact ih
theorem KV.any {kvs:List (κ×V)}{vs:List (κ×Value)}(r:KV kvs vs) (k:κ):(kvs.any fun kv=>decide (kv.1=k))=vs.any fun kv=>decide (kv.1=k):=by
 unfold KV at r
 induction r with
 | nil=>rfl
 | cons h t ih=>rw[L8,L8,ih,h.1]
theorem KV.C5 {kvs:List (κ×V)}{vs:List (κ×Value)}(r:KV kvs vs) (k:κ){y:V}{u:Value}(ry:RelV y u) :
  KV (kvs.map fun kv=>if kv.1=k then (kv.1,y) else kv) (vs.map fun kv=>if kv.1=k then (kv.1,u) else kv):=by
 unfold KV at r ⊢
 induction r with
 | nil=>exact .nil
 | @cons p q ps qs h t ih =>
  rw[Ld,Ld]
  refine .cons ?_ ih
  obtain⟨h1,h2⟩:=h
  by_cases e:p.1=k
  .rw[Ks e,Ks (h1.symm.trans e)]; exact⟨h1,ry⟩
  .rw[Kp e,Kp (fun z=>e (h1.trans z))]; exact⟨h1,h2⟩
theorem KV.put {kvs:List (κ×V)}{vs:List (κ×Value)}(r:KV kvs vs) (k:κ){y:V}{u:Value}(ry:RelV y u):KV (putK kvs k y) (stored vs k u):=by
 unfold putK stored
 rw[r.any k]
 by_cases e:(vs.any fun kv=>decide (kv.1=k))=true
 .rw[Ks e,Ks e]; exact r.C5 k ry
 .rw[Kp e,Kp e]; exact Paired.snoc r ⟨rfl,ry⟩
theorem KV.drop {kvs:List (κ×V)}{vs:List (κ×Value)}(r:KV kvs vs) (k:κ):KV (f6 kvs k) (without vs k):=by
 unfold KV at r ⊢
 unfold f6 without
 induction r with
 | nil=>exact .nil
 | @cons p q ps qs h t ih =>
  obtain⟨h1,h2⟩:=h
  rw[Md,Md]
  by_cases e:p.1=k
  .have a: ¬decide (p.1≠k)=true:=by simp[e]
   have b: ¬decide (q.1≠k)=true:=by simp[h1.symm.trans e]
   rw[Kp a,Kp b]; exact ih
  .have e': ¬q.1=k:=fun z=>e (h1.trans z)
   have a:decide (p.1≠k)=true:=by simp[e]
   have b:decide (q.1≠k)=true:=by simp[e']
   rw[Ks a,Ks b]; exact .cons ⟨h1,h2⟩ ih
theorem KV.length {kvs:List (κ×V)}{vs:List (κ×Value)}(r:KV kvs vs):kvs.length=vs.length:=ND r
theorem qD (kvs:List (κ×V)) (k:κ):(f6 kvs k).length<=kvs.length:=Lp _ _
end
theorem mh {P:Program}{w:World}{k:Key}{u:Value}(r:RelV (kV k) u):(cm P w).is k u=true:=by
 cases k with
 | inl i=>obtain⟨t,e⟩:=(show ∃t,u=Value.int i t from r); subst e; exact yC P w i t
 | inr x=>obtain⟨t,e⟩:=(show ∃t,u=Value.str x t from r); subst e; exact yG P w x t
theorem vC {P:Program}{w:World}: ∀ {ks:List Key}{us:List Value},Vals (ks.map kV) us->ItemsAre (cm P w) ks us
 | [],_,r=>by rw[Ng] at r; cases r; exact .nil
 | k::ks,_,r=>by
  rw[Ld] at r
  cases r with
  | cons h t=>exact .cons (mh h) (vC t)
abbrev KT (H:Hp):List (List Key×V)->List (List Key×Addr×Value)->Prop:=Paired fun p q=>p.1=q.1/\H q.2.1=some (.tup (p.1.map kV))/\RelV p.2 q.2.2
theorem KT.val {H:Hp}{kvs:List (List Key×V)}{xs:List (List Key×Addr×Value)}(r:KT H kvs xs) (k:List Key):fR (aM kvs k) ((atKey xs k).map (·.2)):=by
 induction r with
 | nil=>exact True.intro
 | @cons p q ps qs h t ih =>
  obtain⟨h1,_,h2⟩:=h
  by_cases e:p.1=k
  .have e':q.1=k:=h1.symm.trans e
   have b:atKey (q::qs) k=some q.2:=by simp[atKey,MG,e']
   rw[cU e,b]; exact h2
  .have e': ¬q.1=k:=fun z=>e (h1.trans z)
   have b:atKey (q::qs) k=atKey qs k:=by simp[atKey,MG,e']
   rw[cI e,b]; exact ih
theorem KT.C5 {H:Hp}{kvs:List (List Key×V)}{xs:List (List Key×Addr×Value)}(r:KT H kvs xs) (k:List Key){y:V}{u:Value}(ry:RelV y u) :
  KT H (kvs.map fun kv=>if kv.1=k then (kv.1,y) else kv) (xs.map (putAt k u)):=by
 induction r with
 | nil=>exact .nil
 | @cons p q ps qs h t ih =>
  rw[Ld,Ld]
  refine .cons ?_ ih
  obtain⟨h1,h2,h3⟩:=h
  unfold putAt
  by_cases e:p.1=k
  .rw[Ks e,Ks (h1.symm.trans e)]; exact⟨h1,h2,ry⟩
  .rw[Kp e,Kp (fun z=>e (h1.trans z))]; exact⟨h1,h2,h3⟩
theorem KT.put {H:Hp}{kvs:List (List Key×V)}{xs:List (List Key×Addr×Value)}(r:KT H kvs xs) (k:List Key){b:Addr}{y:V}{u:Value}(hb:H b=some (.tup (k.map kV))) (ry:RelV y u) :
  KT H (putK kvs k y) (storedH xs k b u):=by
 have e:(kvs.any fun kv=>decide (kv.1=k))=(atKey xs k).isSome:=by
  rw[nJ,(r.val k).jd,NL]
 unfold putK storedH
 rw[e]
 by_cases q:(atKey xs k).isSome=true
 .rw[Ks q,Ks q]; exact r.C5 k ry
 .rw[Kp q,Kp q]; exact Paired.snoc r ⟨rfl,hb,ry⟩
theorem KT.keeps {H H':Hp}{kvs:List (List Key×V)}{xs:List (List Key×Addr×Value)}(r:KT H kvs xs) (ht: ∀b ys,H b=some (.tup ys)->H' b=some (.tup ys)):KT H' kvs xs :=
 Paired.C9 r fun _ _ z=>⟨z.1,ht _ _ z.2.1,z.2.2⟩
section
variable {P:Program}{w:World}{H:Hp}{h:Heap}{a:Addr}
theorem Er {u:HO}(ok:Oq P w H h) (e:Rd H a u):cZ P w H h a u:=e.ok ok
theorem n8 {kvs:List (Key×V)}(ok:Oq P w H h) (e:Rd H a (.dK kvs)):kvs.length<=sizeLine/\(a == sysModules)=false/\ ∃vs,KV kvs vs/\h.DictOf (cm P w) a vs :=
 show cZ P w H h a (.dK kvs) from Er ok e
theorem wK {kvs:List (Key×V)}(ok:Oq P w H h) (e:H a=some (.dK kvs)):kvs.length<=sizeLine/\(a == sysModules)=false/\ ∃vs,KV kvs vs/\h.DictOf (cm P w) a vs:=n8 ok (.inl e)
theorem pG {ks:List Key}(ok:Oq P w H h) (e:H a=some (.tup (ks.map kV))):(tupleKind (cm P w)).is h ks a:=by
 obtain⟨_,its,r,o,h1,h2,n,h3⟩:=(show cZ P w H h a (.tup (ks.map kV)) from ok a _ e)
 exact⟨o,its.toArray,n,h1,h2,h3,by simpa using vC r⟩
theorem qu {kvs:List (List Key×V)}(ok:Oq P w H h) (e:Rd H a (.dT kvs)):kvs.length<=sizeLine/\(a == sysModules)=false /\
  ∃xs,KT H kvs xs/\h.DictOfH (tupleKind (cm P w)) a xs:=by
 obtain⟨z,y,xs,r,o,es,ep,h1,h2,h3,h4,h5⟩:=(show cZ P w H h a (.dT kvs) from Er ok e)
 refine⟨z,y,xs,r,o,es,ep,h1,h2,h3,h4,fun x hx=>?_,h5⟩
 have all: ∀ {l:List (List Key×V)}{m:List (List Key×Addr×Value)},KT H l m-> ∀x∈m,(tupleKind (cm P w)).is h x.1 x.2.1:=by
  intro l m q
  induction q with
  | nil=>intro x hx; exact nomatch hx
  | @cons p q ps qs hq t ih =>
   intro x hx
   rcases Kz.mp hx with e | hx
   .subst e
    exact pG ok (by rw[<-hq.1]; exact hq.2.1)
   .exact ih x hx
 exact all r x hx
theorem HP {kvs:List (List Key×V)}(ok:Oq P w H h) (e:H a=some (.dT kvs)):kvs.length<=sizeLine/\(a == sysModules)=false /\
  ∃xs,KT H kvs xs/\h.DictOfH (tupleKind (cm P w)) a xs:=qu ok (.inl e)
end
def cJ (H:Hp) (a:Addr) (y:V) (r:Option V):Prop :=
 (∃kvs k,Rd H a (.dK kvs)/\y=kV k/\r=aM kvs k)\/ ∃kvs k b,Rd H a (.dT kvs)/\y= .ref b/\H b=some (.tup (k.map kV))/\r=aM kvs k
def pY (H:Hp) (a:Addr) (y v:V) (H':Hp):Prop :=
 (∃kvs k,H a=some (.dK kvs)/\y=kV k/\kvs.length < sizeLine/\H'=upd H a (.dK (putK kvs k v))) \/
 ∃kvs k b,H a=some (.dT kvs)/\y= .ref b/\H b=some (.tup (k.map kV))/\kvs.length < sizeLine/\H'=upd H a (.dT (putK kvs k v))
theorem cJ.k {H:Hp}{a:Addr}{kvs:List (Key×V)}{k:Key}(e:H a=some (.dK kvs)):cJ H a (kV k) (aM kvs k):= .inl ⟨kvs,k,.inl e,rfl,rfl⟩
theorem pY.k {H:Hp}{a:Addr}{kvs:List (Key×V)}{k:Key}{v:V}(e:H a=some (.dK kvs)) (hl:kvs.length < sizeLine):pY H a (kV k) v (upd H a (.dK (putK kvs k v))):= .inl ⟨kvs,k,e,rfl,hl,rfl⟩
section
variable {X:Cx}{N3:List (Addr×Obj)}{σ:St}{H:Hp}{s:Shared}{a:Addr}{y v:V}{u r:Value}{o:Option V}{A:Around}{E:Value->Shared->Prop}
theorem Inv.big (I:Inv X N3 σ H s):sysModules < s.heap.objs.size:=by
 have h:mainGlobals < s.heap.objs.size:=(I.mod.glob.keeps I.bk).lt
 exact Nat.lt_trans (by decide) h
theorem BG {Q:Value->Shared->Prop}(hu:A.units+1 < cLine) (I:Inv X N3 σ H s) (g:cJ H a y (some v)) (ry:RelV y u) (h: ∀w' s',Inv X N3 σ H s'->RelV v w'->Q w' s') :
  wpAny (model X.prog X.w) A (getItem (.ref a) u) Q E s:=by
 rcases g with⟨kvs,k,e,ey,l⟩ | ⟨kvs,k,b,e,ey,eb,l⟩
 .subst ey
  obtain⟨z,hd,vs,rel,dd⟩:=n8 I.hok e
  obtain⟨w',hw,rw'⟩:=fR.some_of (v:=v) (o:=valueAt vs k) (by rw[l]; exact rel.val k)
  exact wpAny_getItem_of (mh ry) dd.mapOf hw (h w' _ (I.tok _) rw')
 .subst ey
  cases (show u=Value.ref b from ry)
  obtain⟨z,hd,xs,rel,dd⟩:=qu I.hok e
  obtain⟨w',hw,rw'⟩:=fR.some_of (v:=v) (o:=(atKey xs k).map (·.2)) (by rw[l]; exact rel.val k)
  obtain⟨p,hp,hp2⟩:=Option.map_eq_some_iff.mp hw
  refine wpAny_getItem_heap (MI hu) (pG I.hok eb) dd hp ?_
  rw[hp2]
  exact h w' _ (I.tok _) rw'
theorem Jv {Q:Value->Shared->Prop}(hu:A.units+1 < cLine) (I:Inv X N3 σ H s) (g:cJ H a y o) (ry:RelV y u) (h: ∀s',Inv X N3 σ H s'->Q (.bool o.isSome) s') :
  wpAny (model X.prog X.w) A (compareOp .In u (.ref a)) Q E s:=by
 rcases g with⟨kvs,k,e,ey,l⟩ | ⟨kvs,k,b,e,ey,eb,l⟩
 .subst ey
  obtain⟨z,hd,vs,rel,dd⟩:=n8 I.hok e
  refine wpAny_in_of (mh ry) hd dd.mapOf ?_
  rw[<-(rel.val k).jd,<-l]
  exact h _ (I.tok _)
 .subst ey
  cases (show u=Value.ref b from ry)
  obtain⟨z,hd,xs,rel,dd⟩:=qu I.hok e
  refine wpAny_in_heap (MI hu) (pG I.hok eb) hd dd ?_
  have q:=(rel.val k).jd
  rw[NL] at q
  rw[<-q,<-l]
  exact h _ (I.tok _)
theorem F0 {Q:Value->Shared->Prop}(hu:A.units+1 < cLine) (I:Inv X N3 σ H s) (g:cJ H a y o) (ry:RelV y u) (h: ∀s',Inv X N3 σ H s'->Q (.bool (!o.isSome)) s') :
  wpAny (model X.prog X.w) A (compareOp .NotIn u (.ref a)) Q E s:=by
 rcases g with⟨kvs,k,e,ey,l⟩ | ⟨kvs,k,b,e,ey,eb,l⟩
 .subst ey
  obtain⟨z,hd,vs,rel,dd⟩:=n8 I.hok e
  refine wpAny_notIn_of (mh ry) hd dd.mapOf ?_
  rw[<-(rel.val k).jd,<-l]
  exact h _ (I.tok _)
 .subst ey
  cases (show u=Value.ref b from ry)
  obtain⟨z,hd,xs,rel,dd⟩:=qu I.hok e
  refine wpAny_notIn_heap (MI hu) (pG I.hok eb) hd dd ?_
  have q:=(rel.val k).jd
  rw[NL] at q
  rw[<-q,<-l]
  exact h _ (I.tok _)
theorem oX {h':Heap}{t':Nat}{ob:HO}(I:Inv X N3 σ H s) (mu:Pu (H a)) (hs:Heap.SameBut a s.heap h') (he: ∃q,h'.get? a=some q) (new:cZ X.prog X.w (upd H a ob) h' a ob) :
  Inv X N3 σ (upd H a ob) { s with heap:=h',toks:=t' } :=
 I.write (x:=a) (e:=a) mu (.inl rfl) (fun b q hb z=>(hs.2 b hb).trans z) he new
theorem qS {P:Program}{w:World}{H':Hp}{h':Heap}{kvs:List (Key×V)}{vs:List (Key×Value)}(z:kvs.length<=sizeLine) (hd:(a == sysModules)=false) (rel:KV kvs vs) (dd:h'.DictOf (cm P w) a vs) :
  cZ P w H' h' a (.dK kvs):=⟨z,hd,vs,rel,dd⟩
theorem Ba {H':Hp}{Q:Unit->Shared->Prop}(hu:A.units+1 < cLine) (I:Inv X N3 σ H s) (g:pY H a y v H') (ry:RelV y u) (rv:RelV v r) (h: ∀s',Inv X N3 σ H' s'->Q () s') :
  wpAny (model X.prog X.w) A (setItem (.ref a) u r) Q E s:=by
 rcases g with⟨kvs,k,e,ey,l,eH⟩ | ⟨kvs,k,b,e,ey,eb,l,eH⟩
 .subst ey eH
  obtain⟨z,hd,vs,rel,dd⟩:=wK I.hok e
  have hz:vs.length<=sizeLine:=by rw[<-rel.length]; exact z
  have hl:(putK kvs k v).length<=sizeLine:=by have:=gj kvs k v; omega
  refine wpAny_setItem_pairs (hsz:=hz) (mh ry) dd fun h' dd' hs=>h _ ?_
  have he: ∃q,h'.get? a=some q:=let ⟨q,_,_,hq,_⟩:=dd'; ⟨q,hq⟩
  exact oX I (by rw[e]; exact True.intro) hs he (qS hl hd (rel.put k rv) dd')
 .subst ey eH
  cases (show u=Value.ref b from ry)
  obtain⟨z,hd,xs,rel,dd⟩:=HP I.hok e
  have hz:xs.length<=sizeLine:=by rw[<-ND rel]; exact z
  have hl:(putK kvs k v).length<=sizeLine:=by have:=gj kvs k v; omega
  refine wpAny_setItem_heap (hsz:=hz) (MI hu) (pG I.hok eb) dd fun h' dd' hs=>h _ ?_
  obtain⟨q,es,ep,hq,h2,h3,h4,_,h5⟩:=dd'
  refine oX I (by rw[e]; exact True.intro) hs ⟨q,hq⟩ ⟨hl,hd,_,(rel.put k eb rv).keeps fun c ys ec=>?_,q,es,ep,hq,h2,h3,h4,h5⟩
  rw[ai (eV ec e (fun z=>nomatch z))]
  exact ec
end
section
variable {X:Cx}{N3:List (Addr×Obj)}{σ:St}{H:Hp}{s:Shared}{a:Addr}{kvs:List (Key×V)}{k:Key}{u:Value}{A:Around}{E:Value->Shared->Prop}
theorem Jc {Q:Unit->Shared->Prop}(I:Inv X N3 σ H s) (e:H a=some (.dK kvs)) (ry:RelV (kV k) u) (l:(aM kvs k).isSome=true) (h: ∀s',Inv X N3 σ (upd H a (.dK (f6 kvs k))) s'->Q () s') :
  wpAny (model X.prog X.w) A (delItem (.ref a) u) Q E s:=by
 obtain⟨z,hd,vs,rel,dd⟩:=wK I.hok e
 refine wpAny_delItem_slot dd.typeIs (by decide) PySem.F.slot_dict_delitem
  (call_meetsIn PySem.F.slot_dict_delitem dd.typeIs PySem.F.entry_dict_delitem (PySem.F.args_dict_delitem_2 _ _) (meets_dict_delitem_pairs (cm X.prog X.w) a (mh ry)) ⟨vs,dd,by rw[<-rel.length]; exact z,by rw[<-(rel.val k).jd]; exact l,fun h' dd' hs=>h _ ?_⟩)
 have he: ∃q,h'.get? a=some q:=let ⟨q,_,_,hq,_⟩:=dd'; ⟨q,hq⟩
 exact oX I (by rw[e]; exact True.intro) hs he (qS (KR (qD kvs k) z) hd (rel.drop k) dd')
theorem Ja {v:V}{more:List Value}{Q:Value->Shared->Prop}(I:Inv X N3 σ H s) (e:H a=some (.dK kvs)) (ry:RelV (kV k) u) (l:aM kvs k=some v) (hm:more=[]\/ ∃x,more=[x])
  (h: ∀w' s',Inv X N3 σ (upd H a (.dK (f6 kvs k))) s'->RelV v w'->Q w' s'):wpAny (model X.prog X.w) A (call (.builtin "dict.pop") (.ref a::u::more)) Q E s:=by
 obtain⟨z,hd,vs,rel,dd⟩:=wK I.hok e
 obtain⟨w',hw,rw'⟩:=fR.some_of (v:=v) (o:=valueAt vs k) (by rw[<-l]; exact rel.val k)
 have hp:(keyPart u).isSome=true:=by
  cases k with
  | inl i=>obtain⟨t,q⟩:=(show ∃t,u=Value.int i t from ry); subst q; rfl
  | inr x=>obtain⟨t,q⟩:=(show ∃t,u=Value.str x t from ry); subst q; rfl
 have ha:argsOk "dict.pop" ⟨.ref a::u::more,[]⟩:=by
  rcases hm with q | ⟨x,q⟩
  .subst q; exact PySem.F.args_dict_pop_2 _ _
  .subst q; exact PySem.F.args_dict_pop_3 _ _ _
 refine call_meetsIn PySem.F.slot_dict_pop dd.typeIs PySem.F.entry_dict_pop ha (meets_dict_pop_there (cm X.prog X.w) a (mh ry) more hm hp)
  ⟨vs,w',dd,by rw[<-rel.length]; exact z,hw,fun h' dd' hs=>h w' _ ?_ rw'⟩
 have he: ∃q,h'.get? a=some q:=let ⟨q,_,_,hq,_⟩:=dd'; ⟨q,hq⟩
 exact oX I (by rw[e]; exact True.intro) hs he (qS (KR (qD kvs k) z) hd (rel.drop k) dd')
end
def Gi (i:Expr):Prop:= ∀ov iv,subscripted i false ov iv=operate [ov,iv] (getItem ov iv)
theorem Fb {prog:Program}{w:World}{A:Around}{E:Value->Shared->Prop}{s:Shared}{env:Env}{value slice:Expr}{pos:Pos}{T id:String}{Q:Value->Shared->Prop}
  (hl:typeLookup (.type T) "__getitem__" = pure (some (.builtin id))) (hs:Gi slice)
  (h:wpAny (model prog w) A (eval value env) (fun o s₁=>wpAny (model prog w) A (eval slice env) (fun i s₂=>s₂.TypeIs o T/\wpAny (model prog w) A (getItem o i) Q E s₂) E s₁) E s) :
  wpAny (model prog w) A (eval (.Subscript value slice pos) env) Q E s:=by
 refine Subscript_ (Lx h (fun o s₁ h₁=>Lx h₁ (fun i s₂ h₂=>?_) fun _ _ x=>x) fun _ _ x=>x)
 obtain⟨hT,h₂⟩:=h₂
 unfold subscriptTail
 refine Kv ?_
 rw[getitemInPython_of_ne hT.not_modules]
 refine Kv (wpAny_specialOf hT hl ?_)
 have fin:wpAny (model prog w) A (subscripted slice false o i) (fun r s₃=>wpAny (model prog w) A (letTemporaryGo value o r >>= fun _=>pure r) Q E s₃) E s₂:=by
  rw[hs o i]
  exact wpAny_operating (Lx h₂ (fun r s₃ h₃=>Kv (wpAny_letTemporaryGo (KP h₃))) fun _ _ x=>x)
 first
  | exact KP (Kv fin)
  | exact Kv (KP (Kv fin))
  | exact Kv fin
theorem yv {X:Cx}{N3:List (Addr×Obj)}{σ:St}{H:Hp}{s:Shared}{a:Addr}{y:V}{o:Option V}(I:Inv X N3 σ H s) (g:cJ H a y o):s.TypeIs (.ref a) "dict" := by
 rcases g with⟨kvs,k,e,_,_⟩ | ⟨kvs,k,b,e,_,_,_⟩
 .obtain⟨_,_,vs,_,dd⟩:=n8 I.hok e
  exact dd.typeIs
 .obtain⟨_,_,xs,_,dd⟩:=qu I.hok e
  exact dd.typeIs
inductive Hc (Q:VK) (x y:V) (H2:Hp):Prop | mk (a v:_) (e0:x= .ref a) (e1:cJ H2 a y (some v)) (q:Q v H2)
def Iz (td ty:TE):TE:=fun σ H Q=>td σ H fun x H1=>ty σ H1 fun y H2=>Hc Q x y H2
inductive IG (Q:VK) (y x:V) (H2:Hp):Prop | mk (a o:_) (e0:x= .ref a) (e1:cJ H2 a y o) (q:Q (.bl o.isSome) H2)
def JB (ty td:TE):TE:=fun σ H Q=>ty σ H fun y H1=>td σ H1 fun x H2=>IG Q y x H2
inductive Du (Q:VK) (y x:V) (H2:Hp):Prop | mk (a o:_) (e0:x= .ref a) (e1:cJ H2 a y o) (q:Q (.bl (!o.isSome)) H2)
def EF (ty td:TE):TE:=fun σ H Q=>ty σ H fun y H1=>td σ H1 fun x H2=>Du Q y x H2
inductive Hd (D:Ends) (σ:St) (v x y:V) (H3:Hp):Prop | mk (a H4:_) (e0:x= .ref a) (e1:pY H3 a y v H4) (q:D.nx σ H4)
def Iw (td ty tv:TE):TS:=fun D σ H=>tv σ H fun v H1=>td σ H1 fun x H2=>ty σ H2 fun y H3=>Hd D σ v x y H3
inductive JY (tv:TE) (rd:V->V->Hp->VK->Prop) (D:Ends) (σ:St) (x y:V) (H2:Hp):Prop | mk (a v:_) (e0:x= .ref a) (e1:cJ H2 a y (some v)) (q:tv σ H2 fun y2 H3=>rd v y2 H3 fun z H4=> ∃H5,pY H4 a y z H5/\D.nx σ H5)
inductive J0 (D:Ends) (σ:St) (x y:V) (H2:Hp):Prop | mk (a kvs k:_) (e0:x= .ref a) (e1:H2 a=some (.dK kvs)) (e2:y=kV k) (e3:(aM kvs k).isSome=true) (q:D.nx σ (upd H2 a (.dK (f6 kvs k))))
section
variable {X:Cx}{o i e value:Expr}{pos pos' tpos:Pos}{td ty tv:TE}
theorem jj (hu:X.A.units+1 < cLine) (ho:PE X o td) (hi:PE X i ty) (hs:Gi i):PE X (.Subscript o i pos) (Iz td ty):=by
 intro N3 s σ H Q I h
 refine Fb PySem.F.slot_dict_getitem.lookup hs (Oc (ho N3 s σ H _ I h) fun u s1 ⟨x,H1,I1,rx,q1⟩=>Oc (hi N3 s1 σ H1 _ I1 q1) fun iv s2 hm=>?_)
 obtain⟨y,H2,I2,ry,a,v,ex,g,q2⟩:=hm
 subst ex
 obtain rfl:u=Value.ref a:=rx
 exact⟨yv I2 g,BG hu I2 g ry fun w' s3 I3 rw'=>⟨v,H2,I3,rw',q2⟩⟩
theorem pk (hu:X.A.units+1 < cLine) (hi:PE X i ty) (ho:PE X o td):PC X .In i o (JB ty td):=by
 intro N3 s σ H Q I h
 refine Oc (hi N3 s σ H _ I h) fun iv s1 ⟨y,H1,I1,ry,q1⟩=>Oc (ho N3 s1 σ H1 _ I1 q1) fun u s2 ⟨x,H2,I2,rx,a,ov,ex,g,q2⟩=>?_
 subst ex
 obtain rfl:u=Value.ref a:=rx
 exact Jv hu I2 g ry fun s3 I3=>⟨.bl ov.isSome,H2,I3,rfl,q2⟩
theorem rK (hu:X.A.units+1 < cLine) (hi:PE X i ty) (ho:PE X o td):PC X .NotIn i o (EF ty td):=by
 intro N3 s σ H Q I h
 refine Oc (hi N3 s σ H _ I h) fun iv s1 ⟨y,H1,I1,ry,q1⟩=>Oc (ho N3 s1 σ H1 _ I1 q1) fun u s2 ⟨x,H2,I2,rx,a,ov,ex,g,q2⟩=>?_
 subst ex
 obtain rfl:u=Value.ref a:=rx
 exact F0 hu I2 g ry fun s3 I3=>⟨.bl (!ov.isSome),H2,I3,rfl,q2⟩
theorem sJ (hu:X.A.units+1 < cLine) (ho:PE X o td) (hi:PE X i ty) (hv:PE X value tv) (hs:swapsWith value (some (.Subscript o i pos')) pos.line X.env=pure false) :
  PS X (.Assign [.Subscript o i pos'] value pos) (Iw td ty tv):=by
 intro N3 s σ H D I h
 refine wpAny_Assign_Subscript (Oc (hv N3 s σ H _ I h) fun r s1 ⟨v,H1,I1,rv,q1⟩=>Oc (ho N3 s1 σ H1 _ I1 q1) fun u s2 ⟨x,H2,I2,rx,q2⟩=>Oc (hi N3 s2 σ H2 _ I2 q2) fun iv s3 hm=>?_) hs
 obtain⟨y,H3,I3,ry,a,H4,ex,g,q3⟩:=hm
 subst ex
 obtain rfl:u=Value.ref a:=rx
 exact Ba hu I3 g ry rv fun s4 I4=>⟨σ,H4,I4,q3⟩
end
theorem xJ {P:Program}{w:World}{H:Hp}(h:Heap) (hb:sysModules < h.objs.size):cZ P w H (h.push { cls:= .type "dict",data:= .dict #[] }) h.objs.size (.dK []) :=
 ⟨Lu _,beq_eq_false_iff_ne.mpr (K2 (K4 hb)),[],.nil,Heap.DictOf.new h⟩
def He:TE:=fun _ H Q=> ∀p,H p=none->Q (.ref p) (upd H p (.dK []))
section
variable {X:Cx}{pos:Pos}
theorem yd:PE X (.Dict [] [] pos) He:=fun N3 s σ H Q I h =>
 wpAny_Dict_empty ⟨.ref s.heap.objs.size,_,I.laid (a:=s.heap.objs.size) (o:= .dK []) (t':=s.toks) (fun _ _ q=>Kx _ q) (Ku _) (xJ s.heap I.big),rfl,h _ (I.hok.fresh (Ku _))⟩
end
def xZ:List (TE×TE)->St->Hp->(List (V×V)->Hp->Prop)->Prop
 | [],_,H,Q=>Q [] H
 | (tk,tv)::r,σ,H,Q=>tk σ H fun x H1=>tv σ H1 fun y H2=>xZ r σ H2 fun ps H3=>Q ((x,y)::ps) H3
abbrev VV:List (V×V)->List (Value×Value)->Prop:=Paired fun p q=>RelV p.1 q.1/\RelV p.2 q.2
def PJ (X:Cx) (pos:Pos) (keys:List (Option Expr)) (values:List Expr) (trs:List (TE×TE)):Prop :=
 ∀(N3:List (Addr×Obj)) (s:Shared) (σ:St) (H:Hp) (Q:List (V×V)->Hp->Prop),Inv X N3 σ H s->xZ trs σ H Q ->
  wpAny (model X.prog X.w) X.A (evalPairs (pairTrees keys values X.env pos)) (fun vs s'=> ∃ps H',Inv X N3 σ H' s'/\VV ps vs/\Q ps H') X.xe s
theorem zw {X:Cx}{pos:Pos}:PJ X pos [] [] []:=fun N3 s σ H Q I h=>pairTrees_nil_walk ⟨[],H,I,.nil,h⟩
theorem xw {X:Cx}{pos:Pos}{k v:Expr}{ks:List (Option Expr)}{vs:List Expr}{tk tv:TE}{trs:List (TE×TE)}(hk:PE X k tk) (hv:PE X v tv) (hr:PJ X pos ks vs trs) :
  PJ X pos (some k::ks) (v::vs) ((tk,tv)::trs):=fun N3 s σ H Q I h =>
 pairTrees_cons_walk (Oc (hk N3 s σ H _ I h) fun u s1 ⟨x,H1,I1,rx,q1⟩=>Oc (hv N3 s1 σ H1 _ I1 q1) fun w2 s2 ⟨y,H2,I2,ry,q2⟩ =>
  Oc (hr N3 s2 σ H2 _ I2 q2) fun ws s3 ⟨ps,H3,I3,rel,q3⟩=>⟨(x,y)::ps,H3,I3,.cons ⟨rx,ry⟩ rel,q3⟩)
def nH (kvs more:List (Key×V)):List (Key×V):=more.foldl (fun acc kv=>putK acc kv.1 kv.2) kvs
theorem KV.merge: ∀ {more:List (Key×V)}{rs:List (Key×Value)}{kvs:List (Key×V)}{vs:List (Key×Value)},KV more rs->KV kvs vs->KV (nH kvs more) (merged vs rs):=by
 intro more rs kvs vs r
 unfold KV at r
 induction r generalizing kvs vs with
 | nil=>intro q; exact q
 | @cons p q ps qs h t ih =>
  intro r0
  have e:KV (putK kvs p.1 p.2) (stored vs q.1 q.2):=by
   have:=r0.put p.1 h.2
   rw[<-h.1]; exact this
  exact ih e
theorem qE: ∀(more kvs:List (Key×V)),(nH kvs more).length<=kvs.length+more.length
 | [],kvs=>by show kvs.length<=kvs.length+0; omega
 | p::r,kvs=>by
  have h1:=qE r (putK kvs p.1 p.2)
  have h2:=gj kvs p.1 p.2
  show (nH (putK kvs p.1 p.2) r).length<=_
  rw[K1]; omega
theorem uA {P:Program}{w:World}: ∀ {kvs:List (Key×V)}{ws:List (Value×Value)},VV (kvs.map fun kv=>(kV kv.1,kv.2)) ws-> ∃rs,Carries (cm P w) ws rs/\KV kvs rs
 | [],_,r=>by rw[Ng] at r; cases r; exact⟨[],True.intro,.nil⟩
 | p::kvs,_,r=>by
  rw[Ld] at r
  cases r with
  | @cons a b as bs h t =>
   obtain⟨rs,c,q⟩:=uA (P:=P) (w:=w) t
   obtain⟨b1,b2⟩:=b
   exact⟨(p.1,b2)::rs,⟨mh h.1,rfl,c⟩,.cons ⟨rfl,h.2⟩ q⟩
def IY (trs:List (TE×TE)):TE:=fun σ H Q=> ∀p,H p=none->xZ trs σ (upd H p (.dK [])) fun ps H2=>H2 p=some (.dK [])/\ ∃kvs:List (Key×V),ps=kvs.map (fun kv=>(kV kv.1,kv.2))/\kvs.length<=15/\Q (.ref p) (upd H2 p (.dK (nH [] kvs)))
theorem zB {X:Cx}{pos:Pos}{keys:List (Option Expr)}{values:List Expr}{trs:List (TE×TE)}(h:PJ X pos keys values trs) (hall:keys.all (·.isSome)=true) (hl:keys.length=values.length) (h0:keys≠[])
  (h15:keys.length<=15):PE X (.Dict keys values pos) (IY trs):=by
 intro N3 s σ H Q I q
 have hn:=I.hok.fresh (Ku s.heap.objs.size)
 have I1:=I.laid (a:=s.heap.objs.size) (o:= .dK []) (h':=s.heap.push { cls:= .type "dict",data:= .dict #[] }) (t':=s.toks) (fun _ _ q=>Kx _ q) (Ku _) (xJ s.heap I.big)
 refine wpAny_Dict_walk (knd:=cm X.prog X.w) hall hl h0 h15 (Oc (h N3 _ σ _ _ I1 (q _ hn)) fun ws s2 hm=>?_)
 obtain⟨ps,H2,I2,rel,e,kvs,ep,lk,q2⟩:=hm
 subst ep
 obtain⟨rs,c,rk⟩:=uA (P:=X.prog) (w:=X.w) rel
 obtain⟨z,hd,vs0,r0,dd⟩:=wK I2.hok e
 cases r0
 refine⟨rs,c,dd,fun h' dd' hs=>⟨.ref s.heap.objs.size,_,?_,rfl,q2⟩⟩
 have hz:(nH [] kvs).length<=sizeLine:=by
  have h1:=qE kvs []
  rw[MH] at h1
  rw[Ny]; omega
 have he: ∃q,h'.get? s.heap.objs.size=some q:=let ⟨q,_,_,hq,_⟩:=dd'; ⟨q,hq⟩
 exact oX I2 (by rw[e]; exact True.intro) hs he (qS hz hd (rk.merge .nil) dd')
structure M1 (X:Cx) (o:Expr) (m:Str) (apos:Pos) (e:Expr) (cpos:Pos):Prop where
 base:attributeBase o m X.env (eval o X.env)=eval o X.env
 O4:((backTo cpos (starEach [e] X.env)).all (fun x=> !x.1) && (backToKw cpos (keywordEach [] X.env)).all (fun x=>x.1.isSome)
  && decide (([e]:List Expr).length+([]:List Keyword).length+(if ([]:List Keyword).isEmpty then 0 else 1) < 30))=true
 line:(apos.endLine == cpos.line)=true
 trees:backTo cpos (starEach [e] X.env)=[(false,eval e X.env)]
structure M2 (X:Cx) (o:Expr) (m:Str) (apos:Pos) (e f:Expr) (cpos:Pos):Prop where
 base:attributeBase o m X.env (eval o X.env)=eval o X.env
 O4:((backTo cpos (starEach [e,f] X.env)).all (fun x=> !x.1) && (backToKw cpos (keywordEach [] X.env)).all (fun x=>x.1.isSome)
  && decide (([e,f]:List Expr).length+([]:List Keyword).length+(if ([]:List Keyword).isEmpty then 0 else 1) < 30))=true
 line:(apos.endLine == cpos.line)=true
 trees:backTo cpos (starEach [e,f] X.env)=[(false,eval e X.env),(false,eval f X.env)]
def Pw (H:Hp) (a:Addr):Prop:=(∃kvs,Rd H a (.dK kvs))\/ ∃kvs,Rd H a (.dT kvs)
theorem BO {X:Cx}{N3:List (Addr×Obj)}{σ:St}{H:Hp}{s:Shared}{a:Addr}(I:Inv X N3 σ H s) (d:Pw H a) :
  s.TypeIs (.ref a) "dict" /\ (∀b,Value.ref a= .ref b-> ∃ob,s.heap.get? b=some ob/\ob.dict=none)/\(a == sysModules)=false:=by
 rcases d with⟨kvs,e⟩ | ⟨kvs,e⟩
 .obtain⟨_,hd,vs,_,dd⟩:=n8 I.hok e
  refine⟨dd.typeIs,fun b q=>?_,hd⟩
  cases q
  obtain⟨ob,_,_,h1,h2,_⟩:=dd
  exact⟨ob,h1,h2.2.1⟩
 .obtain⟨_,hd,xs,_,dd⟩:=qu I.hok e
  refine⟨dd.typeIs,fun b q=>?_,hd⟩
  cases q
  obtain⟨ob,_,_,h1,h2,_⟩:=dd
  exact⟨ob,h1,h2.2.1⟩
section
variable {X:Cx}{N3:List (Addr×Obj)}{σ:St}{H:Hp}{s:Shared}{a:Addr}{y d:V}{u r:Value}{o:Option V}{A:Around}{E:Value->Shared->Prop}
theorem GD {Q:Value->Shared->Prop}(hu:A.units+1 < cLine) (I:Inv X N3 σ H s) (g:cJ H a y o) (ry:RelV y u) (h: ∀w' s',Inv X N3 σ H s'->RelV (o.getD .non) w'->Q w' s') :
  wpAny (model X.prog X.w) A (call (.builtin "dict.get") [.ref a,u]) Q E s:=by
 rcases g with⟨kvs,k,e,ey,l⟩ | ⟨kvs,k,b,e,ey,eb,l⟩
 .subst ey
  obtain⟨z,hd,vs,rel,dd⟩:=n8 I.hok e
  refine call_meetsIn Na dd.typeIs PySem.F.entry_dict_get (PySem.F.args_dict_get_2 _ _) (meets_dict_get (cm X.prog X.w) a (mh ry) hd) ⟨_,dd.mapOf,h _ _ (I.tok _) ?_⟩
  rw[l]
  exact (rel.val k).getD rfl
 .subst ey
  cases (show u=Value.ref b from ry)
  obtain⟨z,hd,xs,rel,dd⟩:=qu I.hok e
  refine call_meetsIn Na dd.typeIs PySem.F.entry_dict_get (PySem.F.args_dict_get_2 _ _) (meetsH_dict_get (tupleKind (cm X.prog X.w)) a b hd) ⟨MI hu,k,xs,pG I.hok eb,dd,h _ _ (I.tok _) ?_⟩
  rw[l]
  exact (rel.val k).getD rfl
end
inductive Fm (ty:TE) (σ:St) (Q:VK) (x:V) (H1:Hp):Prop | mk (a:_) (e0:x= .ref a) (e1:Pw H1 a) (q:ty σ H1 fun y H2=> ∃o,cJ H2 a y o/\Q (o.getD .non) H2)
def Bp (td ty:TE):TE:=fun σ H Q=>td σ H fun x H1=>Fm ty σ Q x H1
inductive JS (ty tx:TE) (σ:St) (Q:VK) (x:V) (H1:Hp):Prop | mk (a:_) (e0:x= .ref a) (e1:Pw H1 a) (q:ty σ H1 fun y H2=>tx σ H2 fun z H3=> ∃o,cJ H3 a y o/\Q (o.getD z) H3)
inductive FL (ty:TE) (σ:St) (Q:VK) (x:V) (H1:Hp):Prop | mk (a:_) (e0:x= .ref a) (e1:Pw H1 a) (q:ty σ H1 fun y H2=> ∃kvs k v,H2 a=some (.dK kvs)/\y=kV k/\aM kvs k=some v/\Q v (upd H2 a (.dK (f6 kvs k))))
def Ht (td ty:TE):TE:=fun σ H Q=>td σ H fun x H1=>FL ty σ Q x H1
inductive JR (ty tx:TE) (σ:St) (Q:VK) (x:V) (H1:Hp):Prop | mk (a:_) (e0:x= .ref a) (e1:Pw H1 a) (q:ty σ H1 fun y H2=>tx σ H2 fun z H3=> ∃kvs k,H3 a=some (.dK kvs)/\y=kV k/\(∀v,aM kvs k=some v->Q v (upd H3 a (.dK (f6 kvs k))))/\(aM kvs k=none->Q z H3))
section
variable {X:Cx}{o e f:Expr}{apos cpos:Pos}{td ty tx:TE}
theorem xK (hu:X.A.units+1 < cLine) (ho:PE X o td) (he:PE X e ty) (m:M1 X o "get" apos e cpos):PE X (.Call (.Attribute o "get" apos) [e] [] cpos) (Bp td ty):=by
 intro N3 s σ H Q I h
 refine wpAny_Call_method m.base m.O4 m.line PySem.F.plainAttrs_dict Na PySem.F.type_dict_get (Oc (ho N3 s σ H _ I h) fun u s1 ⟨x,H1,I1,rx,a,ex,d,q1⟩=>?_)
 subst ex
 obtain rfl:u=Value.ref a:=rx
 obtain⟨t1,t2,_⟩:=BO I1 d
 refine⟨t1,t2,?_⟩
 rw[m.trees]
 refine ML rfl (MT (Nz (Oc (he N3 s1 σ H1 _ I1 q1) fun iv s2 ⟨y,H2,I2,ry,ov,g,q2⟩=>Calls.spliced_nil ?_)))
 exact GD hu I2 g ry fun w' s3 I3 rw'=>⟨_,H2,I3,rw',q2⟩
theorem DG (ho:PE X o td) (he:PE X e ty) (m:M1 X o "pop" apos e cpos):PE X (.Call (.Attribute o "pop" apos) [e] [] cpos) (Ht td ty):=by
 intro N3 s σ H Q I h
 refine wpAny_Call_method m.base m.O4 m.line PySem.F.plainAttrs_dict PySem.F.slot_dict_pop PySem.F.type_dict_pop (Oc (ho N3 s σ H _ I h) fun u s1 ⟨x,H1,I1,rx,a,ex,d,q1⟩=>?_)
 subst ex
 obtain rfl:u=Value.ref a:=rx
 obtain⟨t1,t2,_⟩:=BO I1 d
 refine⟨t1,t2,?_⟩
 rw[m.trees]
 refine ML rfl (MT (Nz (Oc (he N3 s1 σ H1 _ I1 q1) fun iv s2 ⟨y,H2,I2,ry,kvs,k,v,ea,ey,l,q2⟩=>Calls.spliced_nil ?_)))
 subst ey
 exact Ja I2 ea ry l (.inl rfl) fun w' s3 I3 rw'=>⟨v,_,I3,rw',q2⟩
end
section
variable {X:Cx}{N3:List (Addr×Obj)}{σ:St}{H:Hp}{s:Shared}{a:Addr}{kvs:List (Key×V)}{A:Around}{E:Value->Shared->Prop}
theorem Dk {Q:Value->Shared->Prop}(I:Inv X N3 σ H s) (e:Rd H a (.dK kvs)) (h: ∀p s',H p=none->Inv X N3 σ (upd H p (.dK kvs)) s'->Q (.ref p) s'):wpAny (model X.prog X.w) A (call (.type "dict") [.ref a]) Q E s:=by
 obtain⟨z,hd,vs,rel,dd⟩:=n8 I.hok e
 refine kt_call_dict hd dd (by rw[<-rel.length]; exact z) fun h' dd' hs=>?_
 refine h _ _ (I.hok.fresh (Ku _)) (I.laid (a:=s.heap.objs.size) (o:= .dK kvs) (t':=s.toks) (fun b q hq=>?_) (Ku _) (qS z (beq_eq_false_iff_ne.mpr (K2 (K4 I.big))) rel dd'))
 exact (hs.2 b (K4 (KJ hq))).trans (Kx _ hq)
end
section
variable {X:Cx}{N3:List (Addr×Obj)}{σ:St}{H:Hp}{s:Shared}{a:Addr}{y:V}{u:Value}{A:Around}{E:Value->Shared->Prop}
end
section
variable {X:Cx}
end
section
variable {κ:Type} [DecidableEq κ]
theorem Bo {p:κ×V}{r:List (κ×V)}{k:κ}(e:p.1=k):f6 (p::r) k=f6 r k:=by
 unfold f6
 rw[Md,Kp (by simp[e])]
theorem Cf {p:κ×V}{r:List (κ×V)}{k:κ}(e: ¬p.1=k):f6 (p::r) k=p::f6 r k:=by
 unfold f6
 rw[Md,Ks (by simp[e])]
end
section
variable {X:Cx}{N3:List (Addr×Obj)}{σ:St}{H:Hp}{s:Shared}{h':Heap}
theorem Inv.Fo {t':Nat}{a b:Addr}(I:Inv X N3 σ H s) (k: ∀c o,c≠a->c≠b->s.heap.get? c=some o->h'.get? c=some o) (fa:ck X N3 H a) (fb:ck X N3 H b):Inv X N3 σ H { s with heap:=h',toks:=t' }:=by
 have na: ∀c u,H c=some u->c≠a:=fun c u e z=>by rw[z,fa.1] at e; cases e
 have nb: ∀c u,H c=some u->c≠b:=fun c u e z=>by rw[z,fb.1] at e; cases e
 have kk: ∀c o,c∉[a,b]->s.heap.get? c=some o->h'.get? c=some o:=fun c o hc e=>k c o (fun z=>hc (by simp[z])) (fun z=>hc (by simp[z])) e
 refine I.step (g':=s.gens) (d':=s.drawn) (ch:=[a,b]) (fun c hc=>?_) (fun c o _ _ hc e _=>kk c o hc e) (fun c o _ _ hc e _=>⟨o.slots,kk c o hc e⟩) (fun _ _ _ _ n=>n)
  (fun c o hc e=>⟨o,kk c o hc e⟩) (fun _ _ e=>e) (fun _ _ _ e=>e) (fun c ps e=>⟨#[],by rw[e]; simp⟩) (fun m hm=>?_) (fun c u e=>?_) I.bare
 .rcases Kz.mp hc with rfl | hc
  .exact⟨fa.2.2.2.1,fa.2.1,fa.2.2.2.2.1,fa.2.2.2.2.2⟩
  .rw[Kt.mp hc]
   exact⟨fb.2.2.2.1,fb.2.1,fb.2.2.2.2.1,fb.2.2.2.2.2⟩
 .obtain⟨o,es,ep,ho,r⟩:=hm
  exact⟨o,es,ep,k _ o (K2 fa.2.1) (K2 fb.2.1) ho,r⟩
 .refine (I.hok c u e).oi (fun d v hd q=>k d v ?_ ?_ q) (fun _ q=>q) fun _ _ q=>q
  .rcases hd with z | z
   .rw[z]; exact na c u e
   .exact na d _ z
  .rcases hd with z | z
   .rw[z]; exact nb c u e
   .exact nb d _ z
end
def Pn (K:N7) (a:Addr):It :=
 ⟨fun i H=> ∃xs x,N5 K H a xs/\xs[i]?=some x,fun i H v H'=> ∃t x,v= .ref t/\H t=none/\H'=upd H t (.tup [.int (i:Nat),x])/\ ∀xs,N5 K H a xs->xs[i]?=some x,fun i H=> ∃xs,N5 K H a xs/\xs.length<=i⟩
theorem BA {P:Program}{w:World}{K:N7}{elts:List Expr}{x1}{pos:Pos}(a e it:Addr):Turn P w K (.Tuple elts x1 pos) (Pn K a) [e,it] e (fun i h=>(∃old,IsEnum h e it (i:Nat) old)/\h.IsListIter it a i/\e≠it) where
 mem:=by simp
 obj:=fun i h st b hb=>by
  obtain⟨⟨old,he⟩,⟨o,e1,c,d⟩,_⟩:=st
  rcases Kz.mp hb with rfl | hb
  .exact⟨_,he,fun v z=>by cases z⟩
  .rw[Kt.mp hb]
   exact⟨o,e1,fun v z=>by rw[d] at z; cases z⟩
 keep:=fun i h h' st k=>by
  obtain⟨⟨old,he⟩,hit,ne⟩:=st
  exact⟨⟨old,k e (by simp) _ he⟩,hit.at fun o q=>k it (by simp) o q,ne⟩
 item:=by
  intro X hP hw hK hc i N3 s σ H E I hf st hg
  subst hP hw hK
  obtain⟨⟨old,he⟩,hit,hne⟩:=st
  obtain⟨xs,x,hq,hx⟩:=hg
  obtain⟨its,rv,p,hz⟩:=I.list hq
  obtain⟨u,hu,ru⟩:=rv.get hx
  have fe:=hf e (by simp)
  have fi:=hf it (by simp)
  refine wpAny_pyNext_enum_item he hit p.isList (x:=u) (by simpa using hu) hne fun h' heo hit' ht hz' hk=>?_
  refine⟨_,rfl,wpAny_letOwnedTupleGo_enum heo fun h2 he2 sb=>?_⟩
  have heS:e < s.heap.objs.size:=KJ he
  have hiS:it < s.heap.objs.size:=by obtain⟨o,q,_⟩:=id hit; exact KJ q
  have kall: ∀c o,c≠e->c≠it->s.heap.get? c=some o->h2.get? c=some o:=fun c o c1 c2 q=>(sb.2 c c1).trans (hk c o c1 c2 q)
  have I1:Inv X N3 σ H { s with heap:=h2,toks:=s.toks+1 }:=I.Fo kall fe fi
  have ht2:h2.get? s.heap.objs.size=some { cls:= .type "tuple",data:= .seq #[.int i s.toks,u] }:=(sb.2 _ (Nf heS)).trans ht
  have fT:ck X N3 H s.heap.objs.size:=I.iZ (Ku _) (I.hok.fresh (Ku _))
  have new:cZ X.prog X.w (upd H s.heap.objs.size (.tup [.int (i:Nat),x])) h2 s.heap.objs.size (.tup [.int (i:Nat),x]):=⟨by show 2<=sizeLine; decide,[.int i s.toks,u],.cons ⟨_,rfl⟩ (.cons ru .nil),⟨_,ht2,rfl,_,rfl⟩⟩
  refine⟨.ref s.heap.objs.size,_,I1.Ef fT new,rfl,⟨_,x,rfl,fT.1,rfl,fun ys hy=>by rw[I.qb hy hq]; exact hx⟩,⟨⟨u,he2⟩,?_,hne⟩,fun b hb=>?_⟩
  .exact hit'.at fun o q=>(sb.2 it (K2 hne)).trans q
  .rcases Kz.mp hb with rfl | hb
   .rw[ai (K4 heS)]; exact fe.1
   .rw[Kt.mp hb,ai (K4 hiS)]; exact fi.1
 done:=by
  intro X hP hw hK hc i N3 s σ H E I hf st hg
  subst hP hw hK
  obtain⟨⟨old,he⟩,hit,hne⟩:=st
  obtain⟨xs,hq,hx⟩:=hg
  obtain⟨its,rv,p,hz⟩:=I.list hq
  obtain⟨f0,f1,f2,f3,f4,f5⟩:=hf it (by simp)
  have hl:=rv.length
  exact wpAny_pyNext_enum_end (I.ok.hd hc) he hit p.isList (by simp; omega) fun h' eb=>⟨rfl,I.turned (t':=s.toks) (fun b o hb e=>eb b o hb e) f0 f1 f3 f4 f5⟩
 self:=fun _ _ _ _ _ st h=>by
  obtain⟨⟨old,he⟩,_⟩:=st
  exact wpAny_pyIter_enum he h
section
variable {X:Cx}
inductive HL (K:N7) (R:It->Hp->Prop) (vs:List V) (H1:Hp):Prop | mk (a:_) (e0:vs=[.ref a]) (e1:(∃xs,N5 K H1 a xs)) (q:R (Pn K a) H1)
def IX (K:N7) (ta:TA):TI:=fun σ H R=>ta σ H fun vs H1=>HL K R vs H1
theorem boot_enumerate:bootBuiltins "enumerate" = some (.type "enumerate"):=by trivial
theorem oY {elts:List Expr}{x1}{tpos:Pos}{a:Expr}{ta:TA}{p pos:Pos}(hg:Gl X "enumerate") (hm:X.mg "enumerate" = none) (ha:PA X [a] ta) (hs:starEach [a] X.env=[(false,eval a X.env)]:=by rfl):PI X (.Tuple elts x1 tpos) (.Call (.Name "enumerate" p) [a] [] pos) (IX X.K ta):=by
 intro N3 s σ H R I h
 refine Call_ (nG I hg hm boot_enumerate (Mf (Oc (ha pos N3 s σ H _ I h) fun us s1 ⟨vs,H1,I1,r1,q1⟩=>?_) hs rfl))
 obtain⟨l,e,⟨xs,hq⟩,q⟩:=q1
 subst e
 cases r1 with
 | cons r rr =>
  cases rr
  cases r
  obtain⟨its,rv,pl,hz⟩:=I1.list hq
  refine call_enumerate_list pl.isList fun h' he hit hsz hk=>?_
  refine wpAny_pyIter_enum he ?_
  have I2:Inv X N3 σ H1 { s1 with heap:=h' }:=I1.kept (t':=s1.toks) hk
  refine⟨s1.heap.objs.size+1,[s1.heap.objs.size+1,s1.heap.objs.size],_,_,H1,rfl,I2,BA l _ _,⟨⟨.none,he⟩,hit,Nat.succ_ne_self _⟩,fun b hb=>?_,q⟩
  have hb':s1.heap.objs.size<=b:=by
   rcases Kz.mp hb with rfl | hb
   .omega
   .rw[Kt.mp hb]; exact Ku _
  exact I1.iZ hb' (I1.hok.fresh hb')
end
theorem ud {K:N7}{a:Addr}{xs:List V}{g:TG}{tb:TS}{D:Ends}{σ:St}{H:Hp}(Pv:Nat->St->Hp->Prop) (h0:Pv 0 σ H) (hJ: ∀i σ H,i<=xs.length->Pv i σ H->N5 K H a xs)
  (hs: ∀i x σ H t,xs[i]?=some x->Pv i σ H->H t=none->g (.ref t) σ (upd H t (.tup [.int (i:Nat),x])) fun σ2 H2=>tb { D with nx:=Pv (i+1),ct:=Pv (i+1),bk:=D.nx } σ2 H2) (hd: ∀σ H,Pv xs.length σ H->D.nx σ H) :
  ∃W:Nat->Nat->St->Hp->Prop,(∃m,W 0 m σ H)/\ ∀i m σ H,W i m σ H ->
   ((Pn K a).stop i H/\D.nx σ H)\/((Pn K a).go i H/\ ∃N:St->Hp->Prop,(∀σ' H',N σ' H'-> ∃m',m' < m/\W (i+1) m' σ' H')/\ ∀x H',(Pn K a).yld i H x H'->g x σ H' fun σ2 H2=>tb { D with nx:=N,ct:=N,bk:=D.nx } σ2 H2):=by
 refine⟨fun i m σ H=>i<=xs.length/\m=xs.length - i/\Pv i σ H,⟨xs.length,Lu _,rfl,h0⟩,?_⟩
 rintro i m σ H ⟨hi,rfl,hp⟩
 have hj:=hJ i σ H hi hp
 by_cases hlt:i < xs.length
 .refine .inr ⟨⟨xs,xs[i],hj,Kr hlt⟩,Pv (i+1),fun σ' H' q=>⟨xs.length - (i+1),by omega,hlt,rfl,q⟩,fun v H' hy=>?_⟩
  obtain⟨t,x,rfl,nt,rfl,hx⟩:=hy
  exact hs i x σ H t (hx xs hj) hp nt
 .have e:i=xs.length:=by omega
  subst e
  exact .inl ⟨⟨xs,hj,Ku _⟩,hd σ H hp⟩
end L2
namespace MA
inductive Path (rs:List au) (s:Int):Int->List Nat->Prop
 | nil:Path rs s s []
 | snoc {k:Int}{ps:List Nat}{i:Nat}{q:au}:Path rs s k ps->rs[i]?=some q->q.2.1=k->Path rs s q.1 (ps++[i])
def kG (rs:List au) (i:Nat):Int:=(rs.getD i (0,0,0)).1
def uP (rs:List au) (i:Nat):Int:=(rs.getD i (0,0,0)).2.2
def OD (rs:List au) (ps:List Nat):List Int:=ps.map (kG rs)
theorem j8 {rs:List au}{i:Nat}{q:au}(h:rs[i]?=some q):kG rs i=q.1:=by
 unfold kG
 rw[KA,h]
 rfl
theorem Cd {rs:List au}{i:Nat}{q:au}(h:rs[i]?=some q):uP rs i=q.2.2:=by
 unfold uP
 rw[KA,h]
 rfl
theorem iV {rs:List au}{ps:List Nat}{i:Nat}{q:au}(h:rs[i]?=some q):OD rs (ps++[i])=OD rs ps++[q.1]:=by
 unfold OD
 rw[KO,Ld,Ng,j8 h]
theorem EO {rs:List au}{ps:List Nat}:(OD rs ps).length=ps.length:=Kq ..
theorem Path.le {n:Nat}{rs:List au}{f:Int->Int}(k: ∀r∈rs,Oh n r) (hf:Met rs f){s e:Int}(hs:0<=s){ps:List Nat}(h:Path rs s e ps):0<=e/\f s<=f e:=by
 induction h with
 | nil=>exact⟨hs,K3 _⟩
 | @snoc e ps i q hp hi hb ih =>
  have hq:=Kw hi
  obtain⟨k1,k2,k3,k4,k5⟩:=k q hq
  have m:=hf q hq
  unfold ask at m
  rw[Kp (by omega),hb] at m
  exact⟨k1,by omega⟩
def iu:List au->(au->Int)->Int
 | [],_=>0
 | r::rs,f=>iu rs f+f r
theorem vi: ∀(rs:List au) (f h:au->Int),(∀r∈rs,f r<=h r)->iu rs f<=iu rs h
 | [],_,_,_=>K3 _
 | r::rs,f,h,k=>by
  have h1:=k r (KG)
  have h2:=vi rs f h fun x hx=>k x (KD _ hx)
  show iu rs f+f r<=iu rs h+h r
  omega
theorem zc: ∀(rs:List au) (f h:au->Int) (q:au) (d:Int),(∀r∈rs,f r<=h r)->q∈rs->f q+d<=h q->iu rs f+d<=iu rs h
 | [],_,_,_,_,_,hq,_=>by cases hq
 | r::rs,f,h,q,d,k,hq,hd=>by
  have k2: ∀x∈rs,f x<=h x:=fun x hx=>k x (KD _ hx)
  show iu rs f+f r+d<=iu rs h+h r
  rcases Kz.mp hq with rfl | hq
  .have:=vi rs f h k2
   omega
  .have:=zc rs f h q d k2 hq hd
   have:=k r (KG)
   omega
theorem Ct: ∀(rs:List au) (f:au->Int),(∀r∈rs,0<=f r)->0<=iu rs f
 | [],_,_=>K3 _
 | r::rs,f,k=>by
  have:=Ct rs f fun x hx=>k x (KD _ hx)
  have:=k r (KG)
  show 0<=iu rs f+f r
  omega
theorem CF {n:Nat}{rs:List au}(k: ∀r∈rs,Oh n r) (h: ∀q∈rs,q.2.1≠ -1->0 < q.2.2-> ∃S:Int->Prop,S q.1/\ ¬S q.2.1/\ ∀r∈rs,0<=r.2.1->S r.2.1->S r.1):oV n rs=false:=by
 classical
 obtain⟨C,c0,hC⟩:=tK rs
 have pick: ∃S:au->Int->Prop,∀q∈rs,q.2.1≠ -1->0 < q.2.2->S q q.1/\ ¬S q q.2.1/\ ∀r∈rs,0<=r.2.1->S q r.2.1->S q r.1:=by
  refine⟨fun q=>if z:q∈rs/\q.2.1≠ -1/\0 < q.2.2 then Classical.choose (h q z.1 z.2.1 z.2.2) else fun _=>True,fun q a b c=>?_⟩
  have z:q∈rs/\q.2.1≠ -1/\0 < q.2.2:=⟨a,b,c⟩
  simp only[dif_pos z]
  exact Classical.choose_spec (h q a b c)
 obtain⟨S,hS⟩:=pick
 let w:Int->au->Int:=fun v q=>if q.2.1≠ -1/\0 < q.2.2/\S q v then q.2.2 else 0
 cases e:oV n rs with
 | false=>rfl
 | true =>
  refine absurd (?_:Met rs fun v=>C+iu rs (w v)) (Bh k e _)
  intro r hr
  obtain⟨r1,r2,r3,r4,r5⟩:=k r hr
  have w0: ∀v,0<=iu rs (w v):=fun v=>Ct rs _ fun q hq=>by
   show 0<=if q.2.1≠ -1/\0 < q.2.2/\S q v then q.2.2 else 0
   split <;> omega
  unfold ask
  by_cases hp:r.2.1= -1
  .rw[Ks hp]
   have:=w0 r.1
   have:=hC r hr
   show r.2.2<=C+iu rs (w r.1)
   omega
  .rw[Kp hp]
   have mono: ∀q∈rs,w r.2.1 q<=w r.1 q:=fun q hq=>by
    show (if q.2.1≠ -1/\0 < q.2.2/\S q r.2.1 then q.2.2 else 0)<=(if q.2.1≠ -1/\0 < q.2.2/\S q r.1 then q.2.2 else 0)
    by_cases c:q.2.1≠ -1/\0 < q.2.2/\S q r.2.1
    .rw[Ks c,Ks ⟨c.1,c.2.1,(hS q hq c.1 c.2.1).2.2 r hr (by omega) c.2.2⟩]
     exact K3 _
    .rw[Kp c]
     split <;> omega
   show C+iu rs (w r.2.1)+r.2.2<=C+iu rs (w r.1)
   by_cases hm:0 < r.2.2
   .have s:=hS r hr hp hm
    have:=zc rs (w r.2.1) (w r.1) r r.2.2 mono hr (by
     show (if r.2.1≠ -1/\0 < r.2.2/\S r r.2.1 then r.2.2 else 0)+r.2.2<=(if r.2.1≠ -1/\0 < r.2.2/\S r r.1 then r.2.2 else 0)
     rw[Kp (fun z=>s.2.1 z.2.2),Ks ⟨hp,hm,s.1⟩]
     omega)
    omega
   .have:=vi rs (w r.2.1) (w r.1) mono
    omega
end MA
namespace L2
open PySem PySem.Spec PyProof.Rows
abbrev Oo:=List (Key×V)
def has (kvs:Oo) (k:Int):Prop:=(aM kvs (Sum.inl k)).isSome=true
def lJ (n:Nat) (kvs:Oo):Nat:=((List.range n).map fun i=>if (aM kvs (Sum.inl ((i:Nat):Int))).isSome then 0 else 1).sum
def Iy (H:Hp) (rs:List MA.au) (s:Int) (q:Addr) (kvs:Oo) (k:Int) (v:V):Prop :=
 ∃a ps,v= .ref a/\H a=some (.lst (aQ ps))/\a≠q/\MA.Path rs s k ps/\(s::MA.OD rs ps).Nodup/\(∀x∈s::MA.OD rs ps,has kvs x)/\ps.length+1<=kvs.length
structure Bf (H0 H:Hp) (n:Nat) (rs:List MA.au) (s:Int) (d q:Addr) (kvs:Oo) (ws:List Int) (sk:Int->Prop):Prop where
 hd:H d=some (.dK kvs)
 hq:H q=some (.lst (ws.map V.int))
 sm:ag H0 H
 fd:H0 d=none
 fq:H0 q=none
 OQ: ∀k,has kvs k->0<=k/\k < n
 val: ∀k v,aM kvs (Sum.inl k)=some v->Iy H rs s q kvs k v
 st:has kvs s
 wk: ∀m∈ws,has kvs m
 cl: ∀k,has kvs k->k∉ws-> ¬sk k-> ∀r∈rs,r.2.1=k->has kvs r.1
 cn:kvs.length+lJ n kvs<=n
section
variable {H0 H:Hp}{n:Nat}{rs:List MA.au}{s:Int}{d q:Addr}{kvs:Oo}{ws:List Int}{sk:Int->Prop}
theorem Bf.ne (b:Bf H0 H n rs s d q kvs ws sk):d≠q:=eV b.hd b.hq (by intro z; cases z)
theorem Bf.grow {H':Hp}(b:Bf H0 H n rs s d q kvs ws sk) (e:ag H H'):Bf H0 H' n rs s d q kvs ws sk :=
 ⟨e _ _ b.hd,e _ _ b.hq,b.sm.trans e,b.fd,b.fq,b.OQ,fun k v h=>by
  obtain⟨a,ps,e1,e2,r⟩:=b.val k v h
  exact⟨a,ps,e1,e _ _ e2,r⟩,b.st,b.wk,b.cl,b.cn⟩
theorem Bf.pop {m:Int}{r:List Int}(b:Bf H0 H n rs s d q kvs (m::r) sk) (hs: ∀k,¬sk k):Bf H0 (upd H q (.lst (r.map V.int))) n rs s d q kvs r (fun k=>k=m) :=
 ⟨(ai b.ne).trans b.hd,af,b.sm.dA b.fq,b.fd,b.fq,b.OQ,fun k v h=>by
  obtain⟨a,ps,e1,e2,e3,r⟩:=b.val k v h
  exact⟨a,ps,e1,(ai e3).trans e2,e3,r⟩,b.st,fun x hx=>b.wk x (KD _ hx),fun k h1 h2 h3=>b.cl k h1 (fun z=>(Kz.mp z).elim h3 h2) (hs k),b.cn⟩
theorem cB {k:Int}{v:V}{j:Int}:has (putK kvs (Sum.inl k) v) j↔j=k\/has kvs j:=by
 unfold has
 rw[iW]
 by_cases e:j=k
 .subst e; simp
 .rw[Kp (fun z=>e (MX z))]; simp[e]
theorem mM {k:Int}{v:V}(h0:0<=k) (h1:k < n) (hn: ¬has kvs k):lJ n (putK kvs (Sum.inl k) v)+1<=lJ n kvs:=by
 refine MA.qM _ _ _ (fun i _=>?_) ⟨k.toNat,KZ.mpr (by omega),?_⟩
 .by_cases c:has kvs (i:Nat)
  .rw[Ks (show (aM (putK kvs (Sum.inl k) v) (Sum.inl ((i:Nat):Int))).isSome=true from cB.mpr (.inr c))]
   exact Lu _
  .rw[Kp (show ¬(aM kvs (Sum.inl ((i:Nat):Int))).isSome=true from c)]
   split <;> omega
 .have e:((k.toNat:Nat):Int)=k:=by omega
  rw[e,Ks (show (aM (putK kvs (Sum.inl k) v) (Sum.inl k)).isSome=true from cB.mpr (.inl rfl)),Kp (show ¬(aM kvs (Sum.inl k)).isSome=true from hn)]
  decide
theorem Bf.reach {m:Int}{a p:Addr}{ps:List Nat}{i:Nat}{rl:MA.au}(b:Bf H0 H n rs s d q kvs ws (fun k=>k=m)) (hv:aM kvs (Sum.inl m)=some (.ref a)) (ha:H a=some (.lst (aQ ps)))
  (hp:MA.Path rs s m ps) (OF:(s::MA.OD rs ps).Nodup) (hall: ∀x∈s::MA.OD rs ps,has kvs x) (hl:ps.length+1<=kvs.length)
  (hr:rs[i]?=some rl) (hb:rl.2.1=m) (k0:0<=rl.1) (k1:rl.1 < n) (hn: ¬has kvs rl.1) (hpp:H p=some (.lst (aQ (ps++[i])))) (npq:p≠q) :
  Bf H0 (upd (upd H d (.dK (putK kvs (Sum.inl rl.1) (.ref p)))) q (.lst ((ws++[rl.1]).map V.int))) n rs s d q (putK kvs (Sum.inl rl.1) (.ref p)) (ws++[rl.1]) (fun k=>k=m):=by
 have lenP:(putK kvs (Sum.inl rl.1) (V.ref p)).length=kvs.length+1:=by
  rw[yn _ (by unfold has at hn; simpa using hn),KC]
  rfl
 have keep: ∀c xs,H c=some (.lst xs)->c≠q->(upd (upd H d (.dK (putK kvs (Sum.inl rl.1) (.ref p)))) q (.lst ((ws++[rl.1]).map V.int))) c=some (.lst xs):=fun c xs e ne=>by
  rw[ai ne,ai (eV e b.hd (by intro z; cases z))]
  exact e
 refine⟨(ai b.ne).trans af,af,?_,b.fd,b.fq,fun j hj=>?_,fun j v hj=>?_,cB.mpr (.inr b.st),fun x hx=>?_,fun j h1 h2 h3 r hrr hrb=>?_,?_⟩
 .exact (b.sm.dA b.fd).dA b.fq
 .rcases cB.mp hj with rfl | hj
  .exact⟨k0,k1⟩
  .exact b.OQ j hj
 .rw[iW] at hj
  by_cases e:j=rl.1
  .rw[Ks (by rw[e])] at hj
   cases hj
   rw[e]
   refine⟨p,ps++[i],rfl,keep p _ hpp npq,npq,.snoc hp hr hb,?_,fun x hx=>?_,?_⟩
   .rw[MA.iV hr,<-NV]
    refine LR.mpr ⟨OF,Ls.mpr ⟨Ll,MO⟩,fun x hx y hy=>?_⟩
    rw[Kt.mp hy]
    intro z
    exact hn (z▸hall x hx)
   .rw[MA.iV hr,<-NV] at hx
    rcases KI.mp hx with hx | hx
    .exact cB.mpr (.inr (hall x hx))
    .exact cB.mpr (.inl (Kt.mp hx))
   .rw[KC,lenP]
    show ps.length+1+1<=_
    omega
  .rw[Kp (fun z=>e (MX z))] at hj
   obtain⟨a2,ps2,e1,e2,e3,e4,e5,e6,e7⟩:=b.val j v hj
   exact⟨a2,ps2,e1,keep a2 _ e2 e3,e3,e4,e5,fun x hx=>cB.mpr (.inr (e6 x hx)),by rw[lenP]; omega⟩
 .rcases KI.mp hx with hx | hx
  .exact cB.mpr (.inr (b.wk x hx))
  .exact cB.mpr (.inl (Kt.mp hx))
 .rcases cB.mp h1 with e | h1
  .exact absurd (K5 _ (by rw[e]; exact Kt.mpr rfl)) h2
  .exact cB.mpr (.inr (b.cl j h1 (fun z=>h2 (Lo _ z)) h3 r hrr hrb))
 .have:=mM (v:= .ref p) k0 k1 hn
  have:=b.cn
  rw[lenP]
  omega
end
theorem De {ps qs:List Nat}:aQ (ps++qs)=aQ ps++aQ qs:=KO
end L2
namespace MA
def ft (ws:List Int) (q:au):List Int:=if q.2.1 < 0 then put ws q.1 (mx (g ws q.1) q.2.2) else ws
def df (n:Nat) (rs:List au):List Int:=rs.foldl ft (List.replicate n 0)
def fJ (M:Mt) (fs:List Int) (a:Nat) (ws:List Int) (b:Nat):List Int:=if 0<=M a b then put ws (b:Nat) (mx (g ws (b:Nat)) (g fs (a:Nat)+M a b)) else ws
def ku (n:Nat) (M:Mt) (fs:List Int) (ws:List Int) (a:Nat):List Int:=(List.range n).foldl (fJ M fs a) ws
def rP (n:Nat) (M:Mt) (fs:List Int):List Int:=(List.range n).foldl (ku n M fs) (List.replicate n 0)
def du (n:Nat) (rs:List au):List Int:=rP n (aL n rs) (df n rs)
theorem kA {ws:List Int}{q:au}:(ft ws q).length=ws.length:=by
 unfold ft
 split
 .exact mF
 .rfl
theorem kf {M:Mt}{fs ws:List Int}{a b:Nat}:(fJ M fs a ws b).length=ws.length:=by
 unfold fJ
 split
 .exact mF
 .rfl
theorem gS {α:Type}(f:List Int->α->List Int) (h: ∀ws a,(f ws a).length=ws.length): ∀(l:List α) (ws:List Int),(l.foldl f ws).length=ws.length
 | [],_=>rfl
 | a::l,ws=>(gS f h l (f ws a)).trans (h ws a)
theorem DA {n:Nat}{rs:List au}:(df n rs).length=n:=(gS _ (fun _ _=>kA) _ _).trans (by simp)
theorem m6 {n:Nat}{M:Mt}{fs ws:List Int}{a:Nat}:(ku n M fs ws a).length=ws.length:=gS _ (fun _ _=>kf) _ _
theorem xb {n:Nat}{M:Mt}{fs:List Int}:(rP n M fs).length=n:=(gS _ (fun _ _=>m6) _ _).trans (by simp)
theorem BU {n:Nat}{rs:List au}(k: ∀r∈rs,Oh n r):(∀i:Int,0<=i->i < n->0<=g (df n rs) i)/\(∀r∈rs,r.2.1= -1->r.2.2<=g (df n rs) r.1) /\
  ∀h:Int->Int,(∀i:Int,0<=i->i < n->0<=h i)->(∀r∈rs,r.2.1= -1->r.2.2<=h r.1)->Le n (g (df n rs)) h:=by
 have up: ∀(l:List au) (ws:List Int),(∀r∈l,Oh n r)->ws.length=n->Le n (g ws) (g (l.foldl ft ws)):=fun l=>by
  induction l with
  | nil=>intro ws _ _ i _ _; exact K3 _
  | cons r l ih =>
   intro ws hk hl i h0 h1
   have kr:=hk r (KG)
   refine Lc ?_ (ih (ft ws r) (fun x hx=>hk x (KD _ hx)) (kA.trans hl) i h0 h1)
   unfold ft
   split
   .rw[gA kr.1 (by rw[hl]; exact kr.2.1) h0]
    split
    .rename_i e; rw[e]; exact fM _ _
    .exact K3 _
   .exact K3 _
 refine⟨fun i h0 h1=>?_,fun r hr hb=>?_,fun h h0 hh=>?_⟩
 .have:=up rs (List.replicate n 0) k (by simp) i h0 h1
  rw[nB] at this
  exact this
 .have: ∀(l:List au) (ws:List Int),(∀r∈l,Oh n r)->ws.length=n->r∈l->r.2.2<=g (l.foldl ft ws) r.1:=fun l=>by
   induction l with
   | nil=>intro ws _ _ h; cases h
   | cons q l ih =>
    intro ws hk hl hm
    have kq:=hk q (KG)
    have hk':=fun x hx=>hk x (KD q hx)
    rcases Kz.mp hm with rfl | hm
    .refine Lc ?_ (up l (ft ws r) hk' (kA.trans hl) r.1 kq.1 kq.2.1)
     unfold ft
     rw[Ks (by omega),gA kq.1 (by rw[hl]; exact kq.2.1) kq.1,Ks rfl]
     exact jk _ _
    .exact ih (ft ws q) hk' (kA.trans hl) hm
  exact this rs _ k (by simp) hr
 .have: ∀(l:List au) (ws:List Int),(∀r∈l,Oh n r)->(∀r∈l,r.2.1= -1->r.2.2<=h r.1)->ws.length=n->Le n (g ws) h->Le n (g (l.foldl ft ws)) h:=fun l=>by
   induction l with
   | nil=>intro ws _ _ _ hw; exact hw
   | cons q l ih =>
    intro ws hk hh hl hw
    have kq:=hk q (KG)
    refine ih (ft ws q) (fun x hx=>hk x (KD _ hx)) (fun x hx=>hh x (KD _ hx)) (kA.trans hl) fun i i0 i1=>?_
    unfold ft
    split
    .rename_i hb
     rw[gA kq.1 (by rw[hl]; exact kq.2.1) i0]
     split
     .rename_i e; rw[e]; exact wL (hw _ kq.1 kq.2.1) (hh q (KG) (by have:=kq.2.2.1; omega))
     .exact hw i i0 i1
    .exact hw i i0 i1
  exact this rs _ k hh (by simp) fun i a b=>by rw[nB]; exact h0 i a b
theorem FI {n:Nat}{M:Mt}{fs ws:List Int}{a b:Nat}(hb:b < n) (hl:ws.length=n):Le n (g ws) (g (fJ M fs a ws b)):=fun i h0 h1=>by
 unfold fJ
 split
 .rw[gA (by omega) (by omega) h0]
  split
  .rename_i e; rw[e]; exact fM _ _
  .exact K3 _
 .exact K3 _
theorem va {n:Nat}{M:Mt}{fs:List Int}{a:Nat}: ∀(l:List Nat) (ws:List Int),(∀b∈l,b < n)->ws.length=n->Le n (g ws) (g (l.foldl (fJ M fs a) ws))
 | [],_,_,_=>fun _ _ _=>K3 _
 | b::l,ws,hb,hl=>fun i h0 h1=>Lc (FI (hb b (KG)) hl i h0 h1) (va l (fJ M fs a ws b) (fun x hx=>hb x (KD _ hx)) (kf.trans hl) i h0 h1)
theorem zD {n:Nat}{M:Mt}{fs:List Int}: ∀(l:List Nat) (ws:List Int),ws.length=n->Le n (g ws) (g (l.foldl (ku n M fs) ws))
 | [],_,_=>fun _ _ _=>K3 _
 | a::l,ws,hl=>fun i h0 h1=>Lc (va (List.range n) ws (fun b hb=>KZ.mp hb) hl i h0 h1) (zD l (ku n M fs ws a) (m6.trans hl) i h0 h1)
theorem pA {n:Nat}{M:Mt}{fs:List Int}{a b:Nat}(ha:a < n) (hb:b < n) (hm:0<=M a b):g fs (a:Nat)+M a b<=g (rP n M fs) (b:Nat):=by
 have inner: ∀(l:List Nat) (ws:List Int),(∀b∈l,b < n)->ws.length=n->b∈l->g fs (a:Nat)+M a b<=g (l.foldl (fJ M fs a) ws) (b:Nat):=fun l=>by
  induction l with
  | nil=>intro ws _ _ h; cases h
  | cons c l ih =>
   intro ws hl hw hm'
   have hl':=fun x hx=>hl x (KD c hx)
   rcases Kz.mp hm' with rfl | hm'
   .refine Lc ?_ (va l (fJ M fs a ws b) hl' (kf.trans hw) (b:Nat) (by omega) (by omega))
    unfold fJ
    rw[Ks hm,gA (by omega) (by omega) (by omega),Ks rfl]
    exact jk _ _
   .exact ih (fJ M fs a ws c) hl' (kf.trans hw) hm'
 have outer: ∀(l:List Nat) (ws:List Int),ws.length=n->a∈l->g fs (a:Nat)+M a b<=g (l.foldl (ku n M fs) ws) (b:Nat):=fun l=>by
  induction l with
  | nil=>intro ws _ h; cases h
  | cons c l ih =>
   intro ws hw hm'
   rcases Kz.mp hm' with rfl | hm'
   .exact Lc (inner (List.range n) ws (fun b hb=>KZ.mp hb) hw (KZ.mpr hb)) (zD l (ku n M fs ws a) (m6.trans hw) (b:Nat) (by omega) (by omega))
   .exact ih (ku n M fs ws c) (m6.trans hw) hm'
 exact outer (List.range n) _ (by simp) (KZ.mpr ha)
theorem yV {n:Nat}{M:Mt}{fs:List Int}{h:Int->Int}(h0: ∀i:Int,0<=i->i < n->0<=h i) (hh: ∀a b:Nat,a < n->b < n->0<=M a b->g fs (a:Nat)+M a b<=h (b:Nat)):Le n (g (rP n M fs)) h:=by
 refine (fZ (fun ws=>ws.length=n/\Le n (g ws) h) _ _ _ ⟨by simp,fun i a b=>by rw[nB]; exact h0 i a b⟩ fun ws a ha hw=>?_).2
 refine fZ (fun ws=>ws.length=n/\Le n (g ws) h) _ _ _ hw fun us b hb hu=>?_
 refine⟨kf.trans hu.1,fun i i0 i1=>?_⟩
 have hb:=KZ.mp hb
 unfold fJ
 split
 .rename_i hm
  rw[gA (by omega) (by have:=hu.1; omega) i0]
  split
  .rename_i e
   rw[e]
   exact wL (hu.2 _ (by omega) (by omega)) (hh a b (KZ.mp ha) hb hm)
  .exact hu.2 i i0 i1
 .exact hu.2 i i0 i1
theorem Cv {n:Nat}{rs:List au}{L:List Int}(k: ∀r∈rs,Oh n r) (h:bg n rs=some L):du n rs=L:=by
 obtain⟨l1,l2,l3,l4⟩:=cP k h
 obtain⟨f1,f2,f3⟩:=BU k
 have sd:=lh k l2
 have hd: ∀i,i < n->aL n rs i i<=0:=fun i hi=>by
  refine Lk fun c=>?_
  have:=sd i i (by omega)
  omega
 obtain⟨up,dg,cl⟩:=qy hd
 have fL:Le n (g (df n rs)) (g L):=f3 (g L) l3 fun r hr hb=>by
  have:=l2 r hr
  unfold ask at this
  rw[Ks hb] at this
  exact this
 have dl:Le n (g (du n rs)) (g L):=yV l3 fun a b ha hb hm=>by
  have h1:=sd a b hm
  have h2:=fL (a:Nat) (by omega) (by omega)
  omega
 have d0: ∀i:Int,0<=i->i < n->0<=g (du n rs) i:=fun i i0 i1=>by
  have e:((i.toNat:Nat):Int)=i:=by omega
  have h1:=pA (n:=n) (M:=aL n rs) (fs:=df n rs) (a:=i.toNat) (b:=i.toNat) (by omega) (by omega) (by rw[dg _ (by omega)]; omega)
  rw[dg _ (by omega),e] at h1
  have:=f1 i i0 i1
  show 0<=g (rP n (aL n rs) (df n rs)) i
  omega
 have dm:Met rs (g (du n rs)):=fun r hr=>by
  obtain⟨r1,r2,r3,r4,r5⟩:=k r hr
  have e1:((r.1.toNat:Nat):Int)=r.1:=by omega
  unfold ask
  split
  .rename_i hb
   have h1:=pA (n:=n) (M:=aL n rs) (fs:=df n rs) (a:=r.1.toNat) (b:=r.1.toNat) (by omega) (by omega) (by rw[dg _ (by omega)]; omega)
   rw[dg _ (by omega),e1] at h1
   have h2:=f2 r hr hb
   show _<=g (rP n (aL n rs) (df n rs)) r.1
   omega
  .rename_i hb
   have e2:((r.2.1.toNat:Nat):Int)=r.2.1:=by omega
   have hl:r.2.2<=aL n rs r.2.1.toNat r.1.toNat:=Lc (sv (n:=n) rs (M1 n) r hr (by omega)) (up _ _)
   have hb1:=pA (n:=n) (M:=aL n rs) (fs:=df n rs) (a:=r.2.1.toNat) (b:=r.1.toNat) (by omega) (by omega) (by omega)
   rw[e1,e2] at hb1
   have hf:=f1 r.2.1 (by omega) r4
   have:=yV (n:=n) (M:=aL n rs) (fs:=df n rs) (h:=fun v=>if v=r.2.1 then g (du n rs) r.1 - r.2.2 else g (du n rs) v) (fun i i0 i1=>?_) (fun a b ha hb' hm=>?_) r.2.1 (by omega) r4
   .have this:g (du n rs) r.2.1<=if r.2.1=r.2.1 then g (du n rs) r.1 - r.2.2 else g (du n rs) r.2.1:=this
    rw[Ks rfl] at this
    omega
   .show 0<=if i=r.2.1 then g (du n rs) r.1 - r.2.2 else g (du n rs) i
    split
    .show 0<=g (rP n (aL n rs) (df n rs)) r.1 - r.2.2
     omega
    .exact d0 i i0 i1
   .show g (df n rs) (a:Nat)+aL n rs a b<=if (b:Int)=r.2.1 then g (du n rs) r.1 - r.2.2 else g (du n rs) (b:Nat)
    split
    .rename_i e
     have eb:b=r.2.1.toNat:=by omega
     rw[eb] at hm ⊢
     have c:=cl r.2.1.toNat (by omega) a r.1.toNat ha (by omega) hm (by omega)
     have h2:=pA (n:=n) (M:=aL n rs) (fs:=df n rs) (a:=a) (b:=r.1.toNat) ha (by omega) (by omega)
     rw[e1] at h2
     show _<=g (rP n (aL n rs) (df n rs)) r.1 - r.2.2
     omega
    .exact pA ha hb' hm
 refine Ee (xb.trans l1.symm) fun i i0 i1=>?_
 have i1:i < n:=by
  have:(du n rs).length=n:=xb
  omega
 have a:=dl i i0 i1
 have b:=l4 (g (du n rs)) d0 dm i i0 i1
 omega
inductive Ow (rs:List au):Int->List Nat->Prop
 | one {i:Nat}{q:au}:rs[i]?=some q->Ow rs q.1 [i]
 | snoc {k:Int}{ps:List Nat}{i:Nat}{q:au}:Ow rs k ps->rs[i]?=some q->q.2.1=k->Ow rs q.1 (ps++[i])
def eM (rs:List au) (ps:List Nat):Int:=(ps.map (uP rs)).sum
theorem gR {rs:List au}{ps:List Nat}{i:Nat}{q:au}(h:rs[i]?=some q):eM rs (ps++[i])=eM rs ps+q.2.2:=by
 unfold eM
 rw[KO,List.sum_append]
 show _+(uP rs i+0)=_
 rw[Cd h,Int.add_zero]
theorem Ow.lt {rs:List au}{k:Int}{ps:List Nat}(h:Ow rs k ps): ∀i∈ps,i < rs.length:=by
 induction h with
 | one hi=>intro j hj; rw[Kt.mp hj]; exact (Ky.mp hi).1
 | snoc _ hi _ ih =>
  intro j hj
  rcases KI.mp hj with hj | hj
  .exact ih j hj
  .rw[Kt.mp hj]; exact (Ky.mp hi).1
end MA
namespace L2
open PySem PySem.Spec PyProof.Rows
inductive Ki (K:N7) (x y:V) (H:Hp) (Q:VK):Prop | mk (a b:Addr) (ns ms:List Int) (e0:x= .ref a) (e1:y= .ref b) (e2:N5 K H a (ns.map V.int)) (e3:N5 K H b (ms.map V.int)) (q:Q (.bl (!decide (ns=ms))) H)
end L2
namespace MA
def over (x:Int):Option Int->Bool
 | none=>false
 | some c=>decide (c < x)
def cY (ws:List Int) (cs:List (Option Int)):Option Nat:=(List.range ws.length).find? fun i=>over (g ws (i:Nat)) (cs.getD i none)
theorem uT {p:Nat->Bool}: ∀ {n i:Nat},i < n->p i=true->(∀j,j < i->p j=false)->(List.range n).find? p=some i
 | 0,_,h,_,_=>absurd h (Lw _)
 | n+1,i,h,hp,hn=>by
  rw[L4,NM]
  by_cases e:i < n
  .rw[uT e hp hn]
   rfl
  .have e:i=n:=by omega
   subst e
   have:(List.range i).find? p=none:=Mg.mpr fun j hj=>by rw[hn j (KZ.mp hj)]; exact KN
   rw[this]
   show ([i].find? p)=some i
   simp[hp]
theorem find_none {p:Nat->Bool}{n:Nat}(h: ∀j,j < n->p j=false):(List.range n).find? p=none:=Mg.mpr fun j hj=>by rw[h j (KZ.mp hj)]; exact KN
theorem Ag {ws:List Int}{cs:List (Option Int)}{i:Nat}(hi:i < ws.length) (h:over (g ws (i:Nat)) (cs.getD i none)=true) (hn: ∀j,j < i->over (g ws (j:Nat)) (cs.getD j none)=false):cY ws cs=some i:=uT hi h hn
theorem zM {ws:List Int}{cs:List (Option Int)}(h: ∀j,j < ws.length->over (g ws (j:Nat)) (cs.getD j none)=false):cY ws cs=none:=find_none h
def uI (n:Nat) (rs:List au) (L:List Int) (m x:Int):List Int:=it rs n (put L m (g L m+x))
theorem Fg {n:Nat}{rs:List au}{L:List Int}{m x:Int}(k: ∀r∈rs,Oh n r) (h:bg n rs=some L) (m0:0<=m) (m1:m < n) (x0:0<=x):(uI n rs L m x).length=n /\
  ∀v:Nat,v < n->g (uI n rs L m x) (v:Nat)=if 0<=aL n rs m.toNat v then mx (g L (v:Nat)) (g L m+x+aL n rs m.toNat v) else g L (v:Nat):=by
 obtain⟨l1,l2,l3,l4⟩:=cP k h
 have sd:=lh k l2
 have hd: ∀i,i < n->aL n rs i i<=0:=fun i hi=>by
  refine Lk fun c=>?_
  have:=sd i i (by omega)
  omega
 obtain⟨up,dg,cl⟩:=qy hd
 have em:((m.toNat:Nat):Int)=m:=by omega
 have sl:(put L m (g L m+x)).length=n:=mF.trans l1
 have sg: ∀i:Int,0<=i->g (put L m (g L m+x)) i=if i=m then g L m+x else g L i:=fun i i0=>gA m0 (by omega) i0
 let hh:Int->Int:=fun v=>if 0<=aL n rs m.toNat v.toNat then mx (g L v) (g L m+x+aL n rs m.toNat v.toNat) else g L v
 have hL: ∀v,g L v<=hh v:=fun v=>by
  show g L v<=if 0<=aL n rs m.toNat v.toNat then mx (g L v) (g L m+x+aL n rs m.toNat v.toNat) else g L v
  split
  .exact fM _ _
  .exact K3 _
 have hX: ∀v:Int,0<=aL n rs m.toNat v.toNat->g L m+x+aL n rs m.toNat v.toNat<=hh v:=fun v c=>by
  show _<=if 0<=aL n rs m.toNat v.toNat then mx (g L v) (g L m+x+aL n rs m.toNat v.toNat) else g L v
  rw[Ks c]
  exact jk _ _
 have hC: ∀v:Int,hh v=g L v\/(0<=aL n rs m.toNat v.toNat/\hh v=g L m+x+aL n rs m.toNat v.toNat):=fun v=>by
  by_cases c:0<=aL n rs m.toNat v.toNat
  .have e:hh v=mx (g L v) (g L m+x+aL n rs m.toNat v.toNat):=Ks c
   rcases wH (g L v) (g L m+x+aL n rs m.toNat v.toNat) with z | z
   .exact .inl (e.trans z)
   .exact .inr ⟨c,e.trans z⟩
  .exact .inl (Kp c)
 have hm:Met rs hh:=fun r hr=>by
  obtain⟨r1,r2,r3,r4,r5⟩:=k r hr
  have a:=l2 r hr
  unfold ask at a ⊢
  split
  .rename_i e
   rw[Ks e] at a
   exact Lc a (hL _)
  .rename_i e
   rw[Kp e] at a
   have hb:=hL r.1
   rcases hC r.2.1 with z | ⟨c,z⟩
   .rw[z]; omega
   .rw[z]
    have hl:r.2.2<=aL n rs r.2.1.toNat r.1.toNat:=Lc (sv (n:=n) rs (M1 n) r hr (by omega)) (up _ _)
    have c2:=cl r.2.1.toNat (by omega) m.toNat r.1.toNat (by omega) (by omega) c (by omega)
    have:=hX r.1 (by omega)
    omega
 have hst:Le n (g (put L m (g L m+x))) hh:=fun i i0 i1=>by
  rw[sg i i0]
  split
  .rename_i e
   rw[e]
   have:=hX m (by rw[dg _ (by omega)]; omega)
   rw[dg _ (by omega)] at this
   omega
  .exact hL i
 have st:=xO k sl hm hst
 have rl:(uI n rs L m x).length=n:=(pq _ _ _).trans sl
 have rm:Met rs (g (uI n rs L m x)):=iK k rl st
 have ru:=uR k n (put L m (g L m+x)) sl
 have rle:=ug k hm n (put L m (g L m+x)) sl hst
 refine⟨rl,fun v hv=>?_⟩
 have e1:hh (v:Nat)=if 0<=aL n rs m.toNat v then mx (g L (v:Nat)) (g L m+x+aL n rs m.toNat v) else g L (v:Nat):=rfl
 rw[<-e1]
 have a:=rle (v:Nat) (by omega) (by omega)
 have b:=ru (v:Nat) (by omega) (by omega)
 rw[sg (v:Nat) (by omega)] at b
 have bm:=ru m m0 m1
 rw[sg m m0,Ks rfl] at bm
 have s2:=lh k rm m.toNat v
 rw[em] at s2
 have bL:g L (v:Nat)<=g (it rs n (put L m (g L m+x))) (v:Nat):=by
  split at b
  .rename_i e
   have:g L (v:Nat)=g L m:=by rw[e]
   omega
  .exact b
 show g (it rs n (put L m (g L m+x))) (v:Nat)=hh (v:Nat)
 have s2:0<=aL n rs m.toNat v->g (it rs n (put L m (g L m+x))) m+aL n rs m.toNat v<=g (it rs n (put L m (g L m+x))) (v:Nat):=s2
 rcases hC (v:Nat) with z | ⟨c,z⟩
 .omega
 .have c:0<=aL n rs m.toNat v:=c
  have z:hh (v:Nat)=g L m+x+aL n rs m.toNat v:=z
  have:=s2 c
  omega
def eu (n:Nat) (rs:List au) (L:List Int) (cs:List (Option Int)) (m:Int):Option (Int×Nat)->Prop
 | none=> ∀(v:Nat) (c:Int),v < n->cs.getD v none=some c->aL n rs m.toNat v < 0
 | some (s,stop)=>0<=s/\stop < n/\(∃c,cs.getD stop none=some c/\0<=aL n rs m.toNat stop/\c=g L m+s+aL n rs m.toNat stop) /\
   (∀(v:Nat) (c:Int),v < n->cs.getD v none=some c->0<=aL n rs m.toNat v->g L m+s+aL n rs m.toNat v<=c)/\ ∀(v:Nat) (c:Int),v < stop->cs.getD v none=some c->0<=aL n rs m.toNat v->g L m+s+aL n rs m.toNat v < c
def Within (n:Nat) (L:List Int) (cs:List (Option Int)):Prop:= ∀(v:Nat) (c:Int),v < n->cs.getD v none=some c->g L (v:Nat)<=c
section
variable {n:Nat}{rs:List au}{L:List Int}{cs:List (Option Int)}{m:Int}
end
end MA
namespace L2
open PySem PySem.Spec PyProof.Rows
inductive Ip (K:N7) (xs:List V) (H:Hp) (Q:VK):Prop | mk (a:Addr) (ns:List Int) (e0:xs=[.ref a]) (e1:N5 K H a (ns.map V.int)) (q:Q (.int ns.sum) H)
def C7 (K:N7):List V->Hp->VK->Prop:=fun xs H Q=>Ip K xs H Q
theorem xv {X:Cx}(hc:X.calm=true):cX X (.builtin "sum") (C7 X.K):=by
 intro N3 s σ H xs us Q I r h
 obtain⟨a,ns,rfl,ha,q⟩:=h
 obtain⟨u,rfl,ru⟩:=vals1 r
 cases ru
 obtain⟨its,rv,pl,hz⟩:=I.list ha
 have hi:IntsAre its ns:=intsAre_of rv
 obtain⟨zs,e⟩:=hi.allInts.items
 have hn:(numsOf its.toArray.toList).sum=ns.sum:=by rw[show its.toArray.toList=its from rfl,hi.numsOf]
 refine sum_intListG (I.ok.hd hc) (e▸pl.isList) fun h' tk t' hk=>?_
 refine⟨.int ns.sum,H,I.kept (t':=tk) hk,⟨t',?_⟩,q⟩
 rw[<-hn,e,nums_intItems,preSum_eq,LG (by simp)]
def fz:Option Int->V
 | none=> .non
 | some c=> .int c
theorem F9 {cs:List (Option Int)}{k:Nat}(h:k < cs.length):Om (cs.map fz) (k:Nat)=some (fz (cs.getD k none)):=bT (by rw[KH,Kr h,KA,Kr h]; rfl)
def TM (K:N7) (C:Addr) (m qual:Str) (st:Stmt):Prop:= ∃f fd,Meth K C m f/\Pg K m qual st f fd
def GM (CX:OM) (P:Program) (w:World) (K:N7) (mg:Str->Option Value) (base:Heap) (k:Nat) (C:Addr) (m:Str) (ps:List Str) (sp:Sp):Prop :=
 ∃f fd,Meth K C m f/\Binds K fd ps []/\dW P w K mg base CX k f fd ps sp
abbrev OO:=GM OC
abbrev ON (P:Program) (w:World):=GM (OH P w) P w
section
variable {P:Program}{w:World}{K:N7}{mg:Str->Option Value}{base:Heap}{C:Addr}{m qual:Str}{st:Stmt}{N ps:List Str}{k:Nat}{sp:Sp}
theorem cQ {f:Addr}{oc:Value}{od an:Option Addr}{osl:Array (Option Value)}{kV doc pm cdv ct:Value}(a:PySem.W.findIn K (.ref C) m=some (some (.ref f))) (i:PySem.W.isFn K (.ref f)=true)
  (l:K.lookup f=some ⟨oc,od,.func (PySem.W.fnOf m qual (dG st) (bO st) (aj st) .none kV doc pm an cdv ct),osl⟩) (c:PySem.W.codeIn K cdv qual=true) (k:PySem.W.keepIn K (.ref f)=true):TM K C m qual st :=
 ⟨f,_,⟨a,i,k⟩,BM (st:=st) l c k⟩
theorem Ho (h:TM K C m qual st) (S:ay N ps (aj st))
  (hb: ∀(kV doc pm:Value) (an:Option Addr) (cdv ct:Value) (us:List Value),us.length=ps.length->bindArgs (PySem.W.fnOf m qual (dG st) (bO st) (aj st) .none kV doc pm an cdv ct) ⟨us,[]⟩=pure (ps.zip us))
  (len: ∀vs H Q E,sp vs H Q E->vs.length=ps.length)
  (hbody: ∀(f:Addr) (cdv:Value) (A:Around) (outer:List Env) (s:Shared) (H:Hp) (vs:List V) (Q:VK) (E:XK),bC k (A.deeper (envOfC qual (aj st) s.heap.objs.size f cdv))->sp vs H Q E ->
   ∃t,Ov (gu OC P w K mg base N qual (aj st) f cdv A outer s H E).Pe (bO st) t/\t { nx:=fun _ H'=>Q .non H',rt:=Q } (start N vs) H):GM OC P w K mg base (k+1) C m ps sp:=by
 obtain⟨f,fd,hm,F⟩:=h
 exact⟨f,fd,hm,F.binds hb,F.ok S len fun cdv A outer s H vs Q E hr hs=>hbody f cdv A outer s H vs Q E hr hs⟩
theorem Gk (h:TM K C m qual st) (S:ay N ps (aj st))
  (hb: ∀(kV doc pm:Value) (an:Option Addr) (cdv ct:Value) (us:List Value),us.length=ps.length->bindArgs (PySem.W.fnOf m qual (dG st) (bO st) (aj st) .none kV doc pm an cdv ct) ⟨us,[]⟩=pure (ps.zip us))
  (len: ∀vs H Q E,sp vs H Q E->vs.length=ps.length)
  (hbody: ∀(f:Addr) (cdv:Value) (A:Around) (outer:List Env) (s:Shared) (H:Hp) (vs:List V) (Q:VK) (E:XK),bC k (A.deeper (envOfC qual (aj st) s.heap.objs.size f cdv))->sp vs H Q E ->
   ∃t,Ov ((gu (OH P w) P w K mg base N qual (aj st) f cdv A outer s H E).exc [] fun _=>E) (bO st) t/\t { nx:=fun _ H'=>Q .non H',rt:=Q } (start N vs) H):GM (OH P w) P w K mg base (k+1) C m ps sp:=by
 obtain⟨f,fd,hm,F⟩:=h
 obtain⟨oc,od,kV,doc,pm,an,cdv,ct,osl,rfl,lk,hcd⟩:=id F.ex
 refine⟨f,_,hm,F.binds hb,Ap lk hcd S len fun A outer s H vs Q E hr hs=>?_⟩
 obtain⟨t,h1,h2⟩:=hbody f cdv A outer s H vs Q E hr hs
 exact⟨t,xW h1,h2⟩
theorem GM.x (F:GM OC P w K mg base k C m ps sp):GM (OH P w) P w K mg base k C m ps sp:=by
 obtain⟨f,fd,a,b,d⟩:=F
 exact⟨f,fd,a,b,d.GY⟩
theorem GM.mono {CX:OM}{j:Nat}(F:GM CX P w K mg base j C m ps sp) (h:j<=k):GM CX P w K mg base k C m ps sp:=by
 obtain⟨f,fd,a,b,d⟩:=F
 exact⟨f,fd,a,b,d.mono h⟩
end
section
variable {X:Cx}{k:Nat}{C:Addr}{m:Str}{ps:List Str}{sp:Sp}{p pos apos:Pos}{o e:Expr}{es:List Expr}{ta:TE}{t:TA}
theorem eh {pl:Sem Bool}(c:OL X.K C) (G:GM OC X.prog X.w X.K X.mg X.base k C m ps sp) (hr:bC k X.A) (he:PE X o ta) (ha:PA X (e::es) t)
  (hst:starEach (e::es) X.env=(false,eval e X.env)::starEach es X.env:=by rfl) (hpl:(backTo pos (starEach es X.env)).any (·.1)=false:=by rfl)
  (ht:eval (.Call (.Attribute o m apos) (e::es) [] pos) X.env=(do
   let ov <-eval o X.env
   standAt apos.atName
   let (f,first) <-holding [ov] (getMethod ov m pl)
   callWith pos f first (backTo pos (starEach (e::es) X.env)) (backToKw pos (keywordEach [] X.env))):=by rfl) :
  PE X (.Call (.Attribute o m apos) (e::es) [] pos) (sy C m sp [] E0 ta t):=by
 obtain⟨f,fd,hm,hb,F⟩:=G
 exact FZ he c hm F hr hb .nil wD ha hst hpl ht
theorem fg {pl:Sem Bool}(c:OL X.K C) (G:GM OC X.prog X.w X.K X.mg X.base k C m ps sp) (hr:bC k X.A) (he:PE X o ta)
  (ht:eval (.Call (.Attribute o m apos) [] [] pos) X.env=(do
   let ov <-eval o X.env
   standAt apos.atName
   let (f,first) <-holding [ov] (getMethod ov m pl)
   callWith pos f first (backTo pos (starEach [] X.env)) (backToKw pos (keywordEach [] X.env))):=by rfl) :
  PE X (.Call (.Attribute o m apos) [] [] pos) (sy C m sp [] E0 ta kg):=by
 obtain⟨f,fd,hm,hb,F⟩:=G
 exact Eb he c hm F hr hb .nil wD ht
end
section
variable {X:Cx}{pn:List (Addr×Obj)}{E:St->XK}{k:Nat}{C:Addr}{m:Str}{ps:List Str}{sp:Sp}{p pos apos:Pos}{o e:Expr}{es:List Expr}{ta:TE}{t:TA}
inductive FY (C:Addr) (m:Str) (x:V) (H1:Hp) (k:Prop):Prop | mk (a dx fs:_) (e0:x= .ref a) (e1:H1 a=some (.ins C dx fs)) (e2:fs.lookup m=none) (q:k)
def BX (C:Addr) (m:Str) (sp:Sp) (E:St->XK) (ta:TE) (t:TA):TE:=fun σ H Q=>ta σ H fun x H1=>FY C m x H1 (t σ H1 fun vs H2=>sp (x::(vs++[])) H2 Q (E σ))
theorem cV {pl:Sem Bool}(c:OL X.K C) (G:GM (OH X.prog X.w) X.prog X.w X.K X.mg X.base k C m ps sp) (hr:bC k X.A) (he:PE (X.exc pn E) o ta) (ha:PA (X.exc pn E) (e::es) t)
  (hst:starEach (e::es) X.env=(false,eval e X.env)::starEach es X.env:=by rfl) (hpl:(backTo pos (starEach es X.env)).any (·.1)=false:=by rfl)
  (ht:eval (.Call (.Attribute o m apos) (e::es) [] pos) X.env=(do
   let ov <-eval o X.env
   standAt apos.atName
   let (f,first) <-holding [ov] (getMethod ov m pl)
   callWith pos f first (backTo pos (starEach (e::es) X.env)) (backToKw pos (keywordEach [] X.env))):=by rfl) :
  PE (X.exc pn E) (.Call (.Attribute o m apos) (e::es) [] pos) (BX C m sp E ta t):=by
 obtain⟨f,fd,hm,hb,F⟩:=G
 intro N3 s σ H Q I h
 refine Ml (pl:=pl) (Oc (he N3 s σ H _ I h) fun u s1 hm=>?_) ht
 obtain⟨x,H1,I1,rx,a,dx,fs,ex,ea,l,q⟩:=hm
 subst ex
 obtain rfl:u=Value.ref a:=rx
 refine jA I1 ea c hm l ?_
 refine M0 (first:=[.ref a]) (h₀:=X.base) I.ok.mod.kin hm.kp (Oc (ha pos N3 s1 σ H1 _ I1 q) fun us s2 ⟨vs,H2,I2,r,q2⟩=>⟨I2.OJ,?_⟩) hst hpl
 exact vg (us:= .ref a::us) (vs:= .ref a::vs) F hr hb I2 (.cons rfl r) q2
theorem aW {pl:Sem Bool}(c:OL X.K C) (G:GM (OH X.prog X.w) X.prog X.w X.K X.mg X.base k C m ps sp) (hr:bC k X.A) (he:PE (X.exc pn E) o ta)
  (ht:eval (.Call (.Attribute o m apos) [] [] pos) X.env=(do
   let ov <-eval o X.env
   standAt apos.atName
   let (f,first) <-holding [ov] (getMethod ov m pl)
   callWith pos f first (backTo pos (starEach [] X.env)) (backToKw pos (keywordEach [] X.env))):=by rfl) :
  PE (X.exc pn E) (.Call (.Attribute o m apos) [] [] pos) (BX C m sp E ta kg):=by
 obtain⟨f,fd,hm,hb,F⟩:=G
 intro N3 s σ H Q I h
 refine Ml (pl:=pl) (Oc (he N3 s σ H _ I h) fun u s1 hm=>?_) ht
 obtain⟨x,H1,I1,rx,a,dx,fs,ex,ea,l,q⟩:=hm
 subst ex
 obtain rfl:u=Value.ref a:=rx
 refine jA I1 ea c hm l ?_
 exact Nt (first:=[.ref a]) I1.OJ hm.kp (vg (us:=[.ref a]) (vs:=[.ref a]) F hr hb I1 (.cons rfl .nil) q)
end
def GI (P:Program) (w:World) (K:N7) (mg:Str->Option Value) (base:Heap) (k:Nat) (C:Addr) (x:Str) (ps:List Str) (sp:Sp):Prop :=
 mg x=some (.ref C)/\ ∃f fd,Mk K C f/\Binds K fd ps []/\dW P w K mg base OC k f fd ps sp
theorem IJ {P:Program}{w:World}{K:N7}{mg:Str->Option Value}{base:Heap}{k:Nat}{C:Addr}{x:Str}{ps:List Str}{sp:Sp}(hx:mg x=some (.ref C)) (hmk:PySem.W.makesIn K C=true) (hk:PySem.W.keepIn K (.ref C)=true) (G:GM OC P w K mg base k C "__init__" ps sp):GI P w K mg base k C x ps sp:=by
 obtain⟨f,fd,hm,hb,F⟩:=G
 exact⟨hx,f,fd,⟨hmk,hm.at_,hm.fn,hk⟩,hb,F⟩
section
variable {X:Cx}{k:Nat}{C:Addr}{x:Str}{ps:List Str}{sp:Sp}{p pos:Pos}{e:Expr}{es:List Expr}{t:TA}
theorem vL (G:GI X.prog X.w X.K X.mg X.base k C x ps sp) (hr:bC (k+1) X.A) (hg:Gl X x:=by rfl) (hdb:(x == ("__debug__" : Str))=false:=by decide):PE X (.Call (.Name x p) [] [] pos) (Em C sp [] E0 kg):=by
 obtain⟨hx,f,fd,M,hb,F⟩:=G
 exact Dq M F hr hg hx hb .nil wD hdb
end
structure TC (K:N7) (mg:Str->Option Value) (C:Addr) (x:Str):Prop where
 cl:OL K C
 mg:mg x=some (.ref C)
 mks:PySem.W.makesIn K C=true
 kp:PySem.W.keepIn K (.ref C)=true
theorem ba {f g:Str}{v:V}{r:List (Str×V)}(h:(f == g)=false):List.lookup f ((g,v)::r)=List.lookup f r:=by
 rw[LC,h]
theorem bq {f:Str}{v:V}{r:List (Str×V)}:List.lookup f ((f,v)::r)=some v:=by
 rw[LC,show (f == f)=true from by simp]
theorem mG {f g:Str}{v x:V}{r:List (Str×V)}(h:(f == g)=false):fV f v ((g,x)::r)=(g,x)::fV f v r:=by
 have: ¬g=f:=fun e=>by rw[e] at h; simp at h
 show (if g=f then _ else _)=_
 rw[Kp this]
theorem kB {f:Str}{v x:V}{r:List (Str×V)}:fV f v ((f,x)::r)=(f,v)::r:=by
 show (if f=f then _ else _)=_
 rw[Ks rfl]
def jv (z:Str) (lo hi:Option Int):List Nat:=(z.cps.toList.drop (HT.Og z.length 0 lo)).take (HT.Og z.length z.length hi - HT.Og z.length 0 lo)
theorem Fy (lo:Option Int) (n:Nat):(match lo with | none=>(0:Int) | some i=>let i:=if i < 0 then i+(n:Int) else i; if (1:Int) > 0 then max 0 (min i (n:Int)) else max (-1) (min i ((n:Int) - 1)))=((HT.Og n 0 lo:Nat):Int):=by
 cases lo with
 | none=>rfl
 | some i =>
  simp only[HT.Og,show (1:Int) > 0 by decide,if_true]
  by_cases h:i < 0
  .simp only[h,if_true] <;> omega
  .simp only[h,if_false] <;> omega
theorem FR (hi:Option Int) (n:Nat):(match hi with | none=>(n:Int) | some i=>let i:=if i < 0 then i+(n:Int) else i; if (1:Int) > 0 then max 0 (min i (n:Int)) else max (-1) (min i ((n:Int) - 1)))=((HT.Og n n hi:Nat):Int):=by
 cases hi with
 | none=>rfl
 | some i =>
  simp only[HT.Og,show (1:Int) > 0 by decide,if_true]
  by_cases h:i < 0
  .simp only[h,if_true] <;> omega
  .simp only[h,if_false] <;> omega
theorem xA (lo hi:Option Int) (n:Nat):Builtin.Str.strSliceIndices lo hi 1 n=(List.range (HT.Og n n hi - HT.Og n 0 lo)).map (HT.Og n 0 lo+ ·):=by
 unfold Builtin.Str.strSliceIndices
 simp only[]
 rw[<-sliceRange_one,<-Fy lo n,<-FR hi n]
 rfl
inductive IL (x:V) (lo hi:Option Int) (H:Hp) (Q:VK):Prop | mk (z:_) (e0:x= .str z) (e1:z.length<=sizeLine) (q: ∀r:Str,r.cps.toList=jv z lo hi->Q (.str r) H)
def Jp:V->Option Int->Option Int->Hp->VK->Prop:=fun x lo hi H Q=>IL x lo hi H Q
theorem part_of {v:Value}{o:Option Int}(h:IsPart v o): ∃p,v=partValue p/\p.map (·.1)=o:=by
 cases h with
 | none=>exact⟨none,rfl,rfl⟩
 | int i t=>exact⟨some (i,t),rfl,rfl⟩
theorem BH {X:Cx}:Pl X Jp:=by
 intro N3 s σ H x v vl vu lo hi sl Q I rx hs pl pu h
 obtain⟨z,rfl,hz,q⟩:=h
 obtain⟨t,rfl⟩:=rx
 refine⟨"str",_,F.slot_str_getitem.lookup,typeIs_str _ _ _,?_⟩
 obtain⟨p1,rfl,e1⟩:=part_of pl
 obtain⟨p2,rfl,e2⟩:=part_of pu
 obtain⟨o,ho,hc,hd⟩:=hs
 refine wpAny_getItem_str_slice (l:=p1) (u:=p2) (st:=none) ⟨o,ho,hc,hd⟩ rfl ?_
 have ep:slicePicked z p1 p2 none=(List.range (HT.Og z.length z.length hi - HT.Og z.length 0 lo)).map (HT.Og z.length 0 lo+ ·):=by
  unfold slicePicked
  rw[e1,e2]
  exact xA lo hi z.length
 have er:(slicePicked z p1 p2 none).filterMap (z.cps[·]?)=jv z lo hi:=by
  rw[ep,pick_run]
  rfl
 unfold sliceMade
 split
 .rename_i c
  refine⟨.str z,H,I,⟨t,rfl⟩,q z ?_⟩
  have c2:(slicePicked z p1 p2 none).length=z.length:=by
   have:=(Lb _ _▸c).2
   exact beq_iff_eq.mp this
  rw[ep,Kq,LA] at c2
  have h1:HT.Og z.length z.length hi<=z.length:=HT.xN _ _ (Ku _) _
  have h2:HT.Og z.length 0 lo<=z.length:=HT.xN _ _ (Lu _) _
  unfold jv
  by_cases hz0:z.length=0
  .have:z.cps.toList=[]:=MM (by simpa [Str.length] using hz0)
   rw[this]
   simp
  .have a0:HT.Og z.length 0 lo=0:=by omega
   rw[a0,List.drop_zero,Nat.sub_zero,LG (by rw[show z.cps.toList.length=z.length from by simp[Str.length]]; omega)]
 .refine⟨?_,.str ⟨((slicePicked z p1 p2 none).filterMap (z.cps[·]?)).toArray⟩,H,I.tok _,⟨_,rfl⟩,q _ ?_⟩
  .rw[er]
   have:(jv z lo hi).length<=z.length:=by
    unfold jv
    rw[K0,Lv]
    have:z.cps.toList.length=z.length:=by simp[Str.length]
    omega
   show (jv z lo hi).toArray.size<=sizeLine
   rw[KL]
   omega
  .show ((slicePicked z p1 p2 none).filterMap (z.cps[·]?)).toArray.toList=jv z lo hi
   rw[List.toList_toArray]
   exact er
inductive GS (x y:V) (H:Hp) (Q:VK):Prop | mk (z:Str) (n:Int) (e0:x= .str z) (e1:y= .int n) (e2:0<=n) (e3:n<=1000) (e4:z.length<=1000) (q: ∀r:Str,r.cps.toList=(List.replicate n.toNat z.cps.toList).flatten->Q (.str r) H)
def IH:R2:=fun x y H Q=>GS x y H Q
theorem yW (c:Array Nat): ∀n:Nat,((List.replicate n c).foldl (· ++ ·) #[]).toList=(List.replicate n c.toList).flatten:=by
 have: ∀(n:Nat) (b:Array Nat),((List.replicate n c).foldl (· ++ ·) b).toList=b.toList++(List.replicate n c.toList).flatten:=fun n=>by
  induction n with
  | zero=>intro b; simp
  | succ n ih =>
   intro b
   rw[Lz,List.foldl_cons,ih,Lz,LP,Array.toList_append,L6]
 intro n
 rw[this]
 rfl
theorem zE {X:Cx}:Ol X (binaryOp .Mult) IH:=by
 intro N3 s σ H x y v u Q I rx ry h
 obtain⟨z,n,rfl,rfl,n0,n1,hz,q⟩:=h
 obtain⟨t,rfl⟩:=rx
 obtain⟨t',rfl⟩:=ry
 have big:z.length*n.toNat<=1000000:=KR (Nat.mul_le_mul hz (show n.toNat<=1000 by omega)) (by decide)
 have b2:z.length*n.toNat<=sizeLine:=KR big (by decide)
 refine P.mul_str (by simp; omega) (fun h1 h2=>?_) (fun h1 h2=>?_) ?_
 .have h3:(1000:Int)<=(2 ^ 63 - 1) / n:=Int.le_ediv_of_mul_le (by omega) (by omega)
  omega
 .show decide (z.length*n.toNat > sizeLine)=false
  exact KU (by omega)
 .by_cases c:n < 1
  .rw[Ks c]
   refine⟨by decide,.str Str.empty,H,I.tok _,⟨_,rfl⟩,q _ ?_⟩
   rw[show n.toNat=0 by omega]
   rfl
  .rw[Kp c]
   split
   .rename_i d
    refine⟨.str z,H,I,⟨t,rfl⟩,q z ?_⟩
    rcases Bool.or_eq_true _ _▸d with d | d
    .have:n=1:=beq_iff_eq.mp d
     rw[this]
     simp
    .have e:z.cps.toList=[]:=MM (by simpa [Str.length] using d)
     rw[e]
     simp
   .refine⟨?_,.str ⟨(List.replicate n.toNat z.cps).foldl (· ++ ·) #[]⟩,H,I.tok _,⟨_,rfl⟩,q _ (yW _ _)⟩
    show ((List.replicate n.toNat z.cps).foldl (· ++ ·) #[]).size<=sizeLine
    rw[<-MY,yW]
    simp
    have:z.cps.size=z.length:=rfl
    rw[this,Nat.mul_comm]
    exact b2
inductive DD (x:V) (vs:List V) (H:Hp) (Q:VK):Prop | mk (l:Addr) (xs:List Str) (y:Str) (j:Nat) (e0:x= .ref l) (e1:vs=[.str y]) (e2:H l=some (.lst (xs.map V.str))) (e3:xs[j]?=some y) (e4:(∀m,m < j->xs[m]?≠some y)) (q:Q .non (upd H l (.lst ((xs.eraseIdx j).map V.str))))
def Fz:V->List V->Hp->VK->Prop:=fun x vs H Q=>DD x vs H Q
theorem ui: ∀ {xs:List V}{us:List Value}(j:Nat),Vals xs us->Vals (xs.eraseIdx j) (us.eraseIdx j)
 | _,_,_,.nil=> .nil
 | _,_,0,.cons _ t=>t
 | _,_,j+1,.cons r t=> .cons r (ui j t)
theorem vV {α β:Type}(f:α->β): ∀(l:List α) (j:Nat),(l.map f).eraseIdx j=(l.eraseIdx j).map f
 | [],_=>rfl
 | _::_,0=>rfl
 | a::l,j+1=>by
  show f a::(l.map f).eraseIdx j=f a::(l.eraseIdx j).map f
  rw[vV f l j]
theorem BE {X:Cx}:Pk X "list.remove" Fz:=by
 intro N3 s σ H x vs v us Q I rx rv h
 obtain⟨l,xs,y,j,rfl,rfl,hH,hj,hno,q⟩:=h
 cases rx
 obtain⟨u,rfl,t,rfl⟩:=rv.one
 obtain⟨z,its,n,r,hl,e⟩:=I.m7 hH
 have hlen:its.length=xs.length:=by rw[<-hl,Kq]
 have val: ∀m (hm:m < its.toArray.size),∃k t,xs[m]?=some k/\its.toArray[m]=Value.str k t:=fun m hm=>by
  have hm':m < xs.length:=by simpa [hlen] using hm
  obtain⟨u,hu,t,rfl⟩:=r.get (i:=m) (x:= .str xs[m]) (by rw[KH,Kr hm']; rfl)
  refine⟨xs[m],t,Kr hm',?_⟩
  have:=(Ky.mp hu).2
  simpa using this
 have hjl:j < xs.length:=(Ky.mp hj).1
 let eq:Value->Bool:=fun w=>match w with | .str k _=>k == y | _=>false
 have he: ∀w,w∈its.toArray->MeetsSeq.EqGives w (.str y t) (eq w):=fun w hw=>by
  obtain⟨m,hm,rfl⟩:=M9.mp hw
  obtain⟨k,t',_,e2⟩:=val m hm
  rw[e2]
  exact fun prog w A E s Q h=>NA k t' y t prog w E Q h
 have hjs:j < its.toArray.size:=by rw[KL,hlen]; exact hjl
 refine Mw F.slot_list_remove ⟨_,e,rfl⟩ F.entry_list_remove (F.args_list_remove_2 _ _) (MeetsSeq.list_remove l its.toArray n (.str y t) eq he j hjs ?_ ?_ ?_) ⟨e,?_⟩
 .obtain⟨k,t',e1,e2⟩:=val j hjs
  rw[e2]
  rw[hj] at e1
  cases e1
  simp[eq]
 .intro m hm hmj
  obtain⟨k,t',e1,e2⟩:=val m hm
  rw[e2]
  have:k≠y:=fun z=>hno m hmj (z▸e1)
  simpa [eq] using this
 .rw[KL]
  omega
 .have ee:its.toArray.eraseIdxIfInBounds j=(its.eraseIdx j).toArray:=by
   unfold Array.eraseIdxIfInBounds
   rw[dif_pos hjs]
   simp
  refine⟨.non,_,I.xS (its':=its.eraseIdx j) hH e ?_ (by rw[<-vV]; exact ui j r) ?_,rfl,q⟩
  .exact ee
  .rw[Kq]
   rw[Kq] at z
   exact KR (List.length_eraseIdx_le _ _) z
theorem jc (a b:Str):(a++b).cps.toList=a.cps.toList++b.cps.toList:=by
 show (a.cps++b.cps).toList=_
 rw[Array.toList_append]
theorem wY: ∀ys:List Str,(Str.join (Str.ofString "") ys).cps.toList=(ys.map fun y=>y.cps.toList).flatten
 | []=>rfl
 | [y]=>by
  show y.cps.toList=_
  simp
 | y::z::r=>by
  show ((y++Str.ofString "")++Str.join (Str.ofString "") (z::r)).cps.toList=_
  rw[jc,jc,wY (z::r)]
  show y.cps.toList++[]++_=y.cps.toList++_
  rw[Mm]
theorem ye (ys:List Str):(Txt.join (Str.ofString "") ys).cps.toList=(ys.map fun y=>y.cps.toList).flatten:=by
 show (Builtin.Str.glued (Str.ofString "") ys).cps.toList=_
 rw[StrLaws.glued_eq_join,wY]
def small (c:Nat):Prop:=97<=c/\c<=122
def Px (cs:List Nat):Prop:=1<=cs.length/\cs.length<=8/\ ∀c∈cs,small c
def Nm (y:Str):Prop:=Px y.cps.toList
theorem Nm.len {y:Str}(h:Nm y):y.length<=8:=by
 have:y.cps.toList.length=y.length:=by simp[Str.length]
 have:=h.2.1
 omega
def pO:Str:= "abcdefghijklmnopqrstuvwxyz"
theorem y9:pO.cps.toList.length=26:=by trivial
theorem Bj: ∀c∈pO.cps.toList,small c:=by
 unfold small
 decide +kernel
theorem AR {α:Type}{xs:List α}{i:Int}(h0:0<=i) (h1:i < xs.length): ∃x,Om xs i=some x/\x∈xs:=by
 have hn:i.toNat < xs.length:=by omega
 refine⟨xs[i.toNat],?_,Mc hn⟩
 have e:i=((i.toNat:Nat):Int):=by omega
 have h:=bT (xs:=xs) (j:=i.toNat) (v:=xs[i.toNat]) (by simp)
 rwa [<-e] at h
theorem Ci (m:Int): ∃c,Om pO.cps.toList (m % 26)=some c/\small c:=by
 obtain⟨c,h1,h2⟩:=AR (xs:=pO.cps.toList) (i:=m % 26) (by omega) (by rw[y9]; omega)
 exact⟨c,h1,Bj c h2⟩
theorem zq (n:Nat) (d:Nat) (k:Int) (h:0<=k):HT.Og n d (some k)=min k.toNat n:=by
 unfold HT.Og
 simp only[]
 rw[Kp (by omega)]
end L2
namespace MA
variable {n:Nat}{rs:List au}{L:List Int}
structure OW (n:Nat) (rs:List au) (L:List Int):Prop where
 k: ∀r∈rs,Oh n r
 met:Met rs (g L)
 nn: ∀i:Int,0<=i->i < n->0<=g L i
 len:L.length=n
theorem Ow.OQ (w:OW n rs L){k:Int}{ps:List Nat}(h:Ow rs k ps):0<=k/\k < n:=by
 cases h with
 | one hi=>have:=w.k _ (Kw hi); exact⟨this.1,this.2.1⟩
 | snoc _ hi _=>have:=w.k _ (Kw hi); exact⟨this.1,this.2.1⟩
theorem i7 {i:Nat}{q:au}(h:rs[i]?=some q):eM rs [i]=q.2.2:=by
 have:=gR (ps:=[]) h
 simpa [eM] using this
theorem Ow.le (w:OW n rs L){k:Int}{ps:List Nat}(h:Ow rs k ps):eM rs ps<=g L k:=by
 induction h with
 | @one i q hi =>
  have m:=Kw hi
  obtain⟨a1,a2,a3,a4,a5⟩:=w.k _ m
  have:=w.met _ m
  unfold ask at this
  rw[i7 hi]
  split at this
  .exact this
  .have:=w.nn q.2.1 (by omega) a4
   omega
 | @snoc k ps i q hp hi hb ih =>
  have m:=Kw hi
  have:=w.met _ m
  have hr:=hp.OQ w
  unfold ask at this
  rw[Kp (by omega),hb] at this
  rw[gR hi]
  omega
theorem z9 (w:OW n rs L){k:Int}{ps:List Nat}{i:Nat}{q:au}(hp:Ow rs k ps) (hi:rs[i]?=some q) (hb:q.2.1=k) (e:eM rs (ps++[i])=g L q.1):eM rs ps=g L k/\g L q.1=g L k+q.2.2:=by
 have m:=Kw hi
 have:=w.met _ m
 have hr:=hp.OQ w
 have:=hp.le w
 unfold ask at *
 rw[Kp (by omega),hb] at *
 rw[gR hi] at e
 omega
theorem uW {i:Nat}{q:au}(h:rs[i]?=some q):OD rs [i]=[q.1]:=by
 have:=iV (ps:=[]) h
 simpa [OD] using this
theorem Ow.Gn (w:OW n rs L){k:Int}{ps:List Nat}(h:Ow rs k ps): ∀x∈OD rs ps,0<=x/\x < n:=by
 induction h with
 | @one i q hi =>
  intro x hx
  rw[uW hi,Kt] at hx
  rw[hx]
  have:=w.k _ (Kw hi)
  exact⟨this.1,this.2.1⟩
 | @snoc k ps i q hp hi hb ih =>
  intro x hx
  rw[iV hi] at hx
  rcases KI.mp hx with hx | hx
  .exact ih x hx
  .rw[Kt] at hx
   rw[hx]
   have:=w.k _ (Kw hi)
   exact⟨this.1,this.2.1⟩
theorem Ow.cut (w:OW n rs L){k:Int}{ps:List Nat}(h:Ow rs k ps):eM rs ps=g L k->(OD rs ps).Nodup-> ∀x∈OD rs ps,∃qs,Ow rs x qs/\eM rs qs=g L x/\qs.length<=ps.length/\(OD rs qs).Nodup:=by
 induction h with
 | @one i q hi =>
  intro e nd x hx
  rw[uW hi,Kt] at hx
  rw[hx]
  exact⟨[i],.one hi,e,Ku _,nd⟩
 | @snoc k ps i q hp hi hb ih =>
  intro e nd x hx
  obtain⟨e1,_⟩:=z9 w hp hi hb e
  have hx':=hx
  rw[iV hi] at hx'
  rcases KI.mp hx' with hx' | hx'
  .have nd':(OD rs ps).Nodup:=by rw[iV hi] at nd; exact (LR.mp nd).1
   obtain⟨qs,a,b,c,d⟩:=ih e1 nd' x hx'
   exact⟨qs,a,b,by rw[KC]; omega,d⟩
  .rw[Kt] at hx'
   rw[hx']
   exact⟨ps++[i],.snoc hp hi hb,e,Ku _,nd⟩
theorem Ow.short (w:OW n rs L){k:Int}{ps:List Nat}(h:Ow rs k ps):eM rs ps=g L k-> ∃qs,Ow rs k qs/\eM rs qs=g L k/\qs.length<=ps.length/\(OD rs qs).Nodup:=by
 induction h with
 | @one i q hi=>exact fun e=>⟨[i],.one hi,e,Ku _,by rw[uW hi]; simp⟩
 | @snoc k ps i q hp hi hb ih =>
  intro e
  obtain⟨e1,e2⟩:=z9 w hp hi hb e
  obtain⟨qs,a,b,c,d⟩:=ih e1
  by_cases hm:q.1∈OD rs qs
  .obtain⟨us,a2,b2,c2,d2⟩:=a.cut w b d _ hm
   exact⟨us,a2,b2,by rw[KC]; omega,d2⟩
  .refine⟨qs++[i],.snoc a hi hb,by rw[gR hi]; omega,by rw[KC,KC]; omega,?_⟩
   rw[iV hi,LR]
   exact⟨d,by simp,fun x hx y hy z=>by rw[Kt] at hy; rw[hy] at z; rw[z] at hx; exact hm hx⟩
theorem BQ: ∀(n:Nat) (xs:List Int),xs.Nodup->(∀x∈xs,0<=x/\x < n)->xs.length<=n
 | 0,[],_,_=>Ku _
 | 0,x::xs,_,h=>by have:=h x KG; omega
 | n+1,xs,nd,h=>by
  have a:=BQ n (xs.erase (n:Int)) (nd.erase _) fun x hx=>by
   have h1:=h x (List.mem_of_mem_erase hx)
   have h2:x≠n:=fun z=>by
    rw[z] at hx
    exact (nd.mem_erase_iff.mp hx).1 rfl
   omega
  have b:xs.length - 1<=(xs.erase (n:Int)).length:=by
   rw[List.length_erase]
   split <;> omega
  omega
theorem O4 (w:OW n rs L){k:Int}{ps:List Nat}(h:Ow rs k ps) (e:eM rs ps=g L k) (m: ∀qs,Ow rs k qs->eM rs qs=g L k->ps.length<=qs.length):ps.length<=n:=by
 obtain⟨qs,a,b,_,d⟩:=h.short w e
 have h1:=BQ n _ d (a.Gn w)
 have h2:=m qs a b
 have h3:(OD rs qs).length=qs.length:=EO
 omega
def mn (i j:Int):Int:=if j < i then j else i
def O8 (L:List Int) (st:List Int) (q:au):List Int :=
 if q.2.1 < 0 then (if g L q.1=q.2.2 then put st q.1 (mn (g st q.1) 1) else st)
 else if g L q.1=g L q.2.1+q.2.2 then put st q.1 (mn (g st q.1) (g st q.2.1+1)) else st
structure O7 (n:Nat) (rs:List au) (L:List Int) (st:List Int):Prop where
 len:st.length=n
 lo: ∀m:Int,0<=m->m < n->0<=g st m
 hi: ∀m:Int,0<=m->m < n->g st m<=99
 z: ∀m:Int,0<=m->m < n->g L m=0->g st m=0
 ch: ∀m:Int,0<=m->m < n->g st m < 99->g L m=0\/ ∃ps,Ow rs m ps/\eM rs ps=g L m/\(ps.length:Int)=g st m
theorem O7.put (c:O7 n rs L st){m v:Int}(h0:0<=m) (h1:m < n) (v0:0<=v) (hv:v < g st m-> ∃ps,Ow rs m ps/\eM rs ps=g L m/\(ps.length:Int)=v):O7 n rs L (put st m (mn (g st m) v)):=by
 have gp: ∀j:Int,0<=j->g (MA.put st m (mn (g st m) v)) j=if j=m then mn (g st m) v else g st j:=fun j hj=>gA h0 (by rw[c.len]; exact h1) hj
 have cl:=c.lo m h0 h1
 have cu:=c.hi m h0 h1
 refine⟨mF.trans c.len,fun j j0 j1=>?_,fun j j0 j1=>?_,fun j j0 j1 e=>?_,fun j j0 j1 e=>?_⟩
 .rw[gp j j0]
  split
  .unfold mn; split <;> omega
  .exact c.lo j j0 j1
 .rw[gp j j0]
  split
  .unfold mn; split <;> omega
  .exact c.hi j j0 j1
 .rw[gp j j0]
  split
  .rename_i ej
   rw[ej] at e
   have:=c.z m h0 h1 e
   unfold mn; split <;> omega
  .exact c.z j j0 j1 e
 .rw[gp j j0] at e ⊢
  split at e
  .rename_i ej
   rw[ej,Ks rfl]
   unfold mn at e ⊢
   split
   .rename_i l; exact .inr (hv l)
   .rename_i l
    rw[Kp l] at e
    exact c.ch m h0 h1 e
  .rename_i ej
   rw[Kp ej]
   exact c.ch j j0 j1 e
theorem O7.O8 (w:OW n rs L) (c:O7 n rs L st){q:au}{i:Nat}(hi:rs[i]?=some q):O7 n rs L (O8 L st q):=by
 obtain⟨a1,a2,a3,a4,a5⟩:=w.k _ (Kw hi)
 unfold MA.O8
 split
 .split
  .rename_i e
   exact c.put a1 a2 (by omega) fun _=>⟨[i],.one hi,by rw[i7 hi,e],rfl⟩
  .exact c
 .split
  .rename_i hb e
   have b0:0<=q.2.1:=by omega
   have l0:=c.lo q.2.1 b0 a4
   have u0:=c.hi q.1 a1 a2
   refine c.put a1 a2 (by omega) fun hv=>?_
   by_cases z:g L q.2.1=0
   .refine⟨[i],.one hi,by rw[i7 hi]; omega,?_⟩
    rw[c.z _ b0 a4 z]
    rfl
   .rcases c.ch _ b0 a4 (by omega) with z' | ⟨ps,p1,p2,p3⟩
    .exact absurd z' z
    .refine⟨ps++[i],.snoc p1 hi rfl,by rw[gR hi]; omega,?_⟩
     rw[KC]
     show ((ps.length+1:Nat):Int)=_
     omega
  .exact c
theorem HG (c:O7 n rs L st){q:au}(k:Oh n q):Le n (g (MA.O8 L st q)) (g st):=fun j j0 j1=>by
 obtain⟨a1,a2,a3,a4,a5⟩:=k
 unfold MA.O8
 have gp: ∀v,g (MA.put st q.1 v) j=if j=q.1 then v else g st j:=fun v=>gA a1 (by rw[c.len]; exact a2) j0
 split
 .split
  .rw[gp]
   split
   .rename_i e; rw[e]; unfold mn; split <;> omega
   .omega
  .omega
 .split
  .rw[gp]
   split
   .rename_i e; rw[e]; unfold mn; split <;> omega
   .omega
  .omega
theorem run (w:OW n rs L): ∀(us:List au) (st:List Int),(∀q∈us,q∈rs)->O7 n rs L st->O7 n rs L (us.foldl (MA.O8 L) st)/\Le n (g (us.foldl (MA.O8 L) st)) (g st)
 | [],st,_,c=>⟨c,fun _ _ _=>K3 _⟩
 | q::us,st,h,c=>by
  obtain⟨i,hi,e⟩:=Nu (h q KG)
  have hi':rs[i]?=some q:=by rw[Kr hi,e]
  obtain⟨a,b⟩:=run w us (MA.O8 L st q) (fun x hx=>h x (KD _ hx)) (c.O8 w hi')
  exact⟨a,fun j j0 j1=>Lc (b j j0 j1) (HG c (w.k _ (Kw hi')) j j0 j1)⟩
end MA
namespace L2
open PySem PySem.Spec PyProof.Rows
def rO (xs ys:List V):Bool:=(List.range (min xs.length ys.length)).all (fun i=>OZ (xs.getD i .non) (ys.getD i .non)) && xs.length == ys.length
theorem CT {x:V}(h:bS x=true):OZ x x=true:=by
 cases x with
 | non=>rfl
 | bl b=>exact Mz _
 | int i=>exact Mz _
 | str s=>exact Mz _
 | _=>cases h
theorem pD {xs:List V}(h:xs.all bS=true) (i:Nat):bS (xs.getD i .non)=true:=by
 rw[KA]
 cases e:xs[i]? with
 | none=>rfl
 | some x=>exact LD.mp h x (Kw e)
theorem ji {xs:List V}(h:xs.all bS=true):rO xs xs=true:=by
 unfold rO
 rw[Lb]
 exact⟨LD.mpr fun i _=>CT (pD h i),Mz _⟩
theorem sf {xs:List V}{us:List Value}(r:Vals xs us){j:Nat}(h:j < us.length):RelV (xs.getD j .non) (us[j]'h):=by
 have hl:=r.length
 have hj:j < xs.length:=by omega
 obtain⟨u,hu,q⟩:=r.get (i:=j) (x:=xs[j]) (Kr hj)
 have:=(Ky.mp hu).2
 rw[this,KA,Kr hj]
 exact q
inductive HX (K:N7) (x y:V) (H:Hp) (Q:VK):Prop | mk (a b:Addr) (xs ys:List V) (e0:x= .ref a) (e1:y= .ref b) (e2:N9 K H a xs) (e3:N9 K H b ys) (e4:xs.all bS=true) (e5:ys.all bS=true) (q:Q (.bl (!rO xs ys)) H)
def Dy (K:N7):R2:=fun x y H Q=>HX K x y H Q
theorem Cr {X:Cx}(hu:X.A.units+1 < cLine):Ol X (compareOp .NotEq) (Dy X.K):=by
 intro N3 s σ H x y v u Q I rx ry h
 obtain⟨a,b,xs,ys,rfl,rfl,ha,hb,fx,fy,q⟩:=h
 cases rx
 cases ry
 obtain⟨us,r1,p1,z1⟩:=I.tuple ha
 obtain⟨vs,r2,p2,z2⟩:=I.tuple hb
 have l1:=r1.length
 have l2:=r2.length
 refine SeqAt.RcNeAt.tuples (e:=fun i=>OZ (xs.getD i .non) (ys.getD i .non)) (show s.heap.IsTuple a us.toArray from p1) (show s.heap.IsTuple b vs.toArray from p2) (by omega) (fun j h1 h2=>?_) _ _ _ _ ?_
 .simp only[Nh]
  exact xk (sf r1 (by simpa using h1)) (sf r2 (by simpa using h2)) (pD fx j) (pD fy j)
 .rw[show us.toArray.size=xs.length by simpa using l1.symm,show vs.toArray.size=ys.length by simpa using l2.symm]
  exact⟨.bl _,H,I,rfl,q⟩
inductive Ig (K:N7) (x y:V) (H:Hp) (Q:VK):Prop | mk (a b:Addr) (xs ys:List V) (e0:x= .ref a) (e1:y= .ref b) (e2:N9 K H a xs) (e3:N9 K H b ys) (e4:xs.all bS=true) (e5:ys.all bS=true) (q:Q (.bl (rO xs ys)) H)
def Js (K:N7):R2:=fun x y H Q=>Ig K x y H Q
theorem G2 {X:Cx}(hu:X.A.units+1 < cLine):Ol X (compareOp .Eq) (Js X.K):=by
 intro N3 s σ H x y v u Q I rx ry h
 obtain⟨a,b,xs,ys,rfl,rfl,ha,hb,fx,fy,q⟩:=h
 cases rx
 cases ry
 obtain⟨us,r1,p1,z1⟩:=I.tuple ha
 obtain⟨vs,r2,p2,z2⟩:=I.tuple hb
 have l1:=r1.length
 have l2:=r2.length
 refine SeqAt.eq_tupleAt (e:=fun i=>OZ (xs.getD i .non) (ys.getD i .non)) (show s.heap.IsTuple a us.toArray from p1) (show s.heap.IsTuple b vs.toArray from p2) (by omega) (fun j h1 h2=>?_) ?_
 .simp only[Nh]
  exact xk (sf r1 (by simpa using h1)) (sf r2 (by simpa using h2)) (pD fx j) (pD fy j)
 .rw[show us.toArray.size=xs.length by simpa using l1.symm,show vs.toArray.size=ys.length by simpa using l2.symm]
  exact⟨.bl _,H,I,rfl,q⟩
end L2
namespace MA
variable {n:Nat}{rs:List au}{L:List Int}
def pC (n:Nat) (rs:List au) (ws:List Int):Prop:= ∀m:Int,0<=m->m < n->0<=g ws m/\(g ws m=0\/ ∃ps,Ow rs m ps/\eM rs ps=g ws m)
theorem rj (k: ∀r∈rs,Oh n r): ∀(qs:List au) (ws:List Int),(∀q∈qs,q∈rs)->ws.length=n->pC n rs ws->pC n rs (bJ qs ws)
 | [],ws,_,_,h=>h
 | q::qs,ws,hq,hl,h=>by
  refine rj k qs (dX ws q) (fun x hx=>hq x (KD _ hx)) (jK.trans hl) fun m m0 m1=>?_
  have hm:=hq q KG
  obtain⟨a1,a2,a3,a4,a5⟩:=k q hm
  obtain⟨i,hi,ei⟩:=LL.mp hm
  have hi':rs[i]?=some q:=by rw[Kr hi,ei]
  unfold dX
  rw[gA a1 (by rw[hl]; exact a2) m0]
  split
  .rename_i e
   rw[e]
   unfold mx
   have h1:=h q.1 a1 a2
   split
   .rename_i c
    unfold ask at c ⊢
    split
    .rename_i b
     rw[Ks b] at c
     exact⟨a5,.inr ⟨[i],.one hi',i7 hi'⟩⟩
    .rename_i b
     rw[Kp b] at c
     obtain⟨z0,h2⟩:=h q.2.1 (by omega) a4
     refine⟨by omega,?_⟩
     rcases h2 with z | ⟨ps,p1,p2⟩
     .exact .inr ⟨[i],.one hi',by rw[i7 hi']; omega⟩
     .exact .inr ⟨ps++[i],.snoc p1 hi' rfl,by rw[gR hi']; omega⟩
   .exact h1
  .exact h m m0 m1
theorem tf (k: ∀r∈rs,Oh n r): ∀(j:Nat) (ws:List Int),ws.length=n->pC n rs ws->loop rs j ws=some L->pC n rs L
 | 0,ws,_,_,e=>by unfold loop at e; cases e
 | j+1,ws,hl,h,e=>by
  unfold loop at e
  split at e
  .cases e; exact h
  .exact tf k j (bJ rs ws) ((fQ _ _).trans hl) (rj k rs ws (fun _ z=>z) hl h) e
theorem Hw (k: ∀r∈rs,Oh n r) (h:bg n rs=some L):pC n rs L :=
 tf k (n+1) (List.replicate n 0) (Mn ..) (fun m _ _=>by rw[nB]; exact⟨K3 _,.inl rfl⟩) h
theorem pB (k: ∀r∈rs,Oh n r) (h:bg n rs=some L):OW n rs L:=by
 obtain⟨l1,l2,l3,_⟩:=cP k h
 exact⟨k,l2,l3,l1⟩
def Tl (L:List Int) (q:au):Prop:=q.2.1≠ -1/\g L q.1=g L q.2.1+q.2.2
inductive Tp (rs:List au) (L:List Int) (m:Int):Int->List Nat->Prop
 | nil:Tp rs L m m []
 | cons {i:Nat}{q:au}{ps:List Nat}:rs[i]?=some q->Tl L q->Tp rs L m q.1 ps->Tp rs L m q.2.1 (i::ps)
theorem Tp.snoc {k v:Int}{ps:List Nat}{i:Nat}{q:au}(h:Tp rs L k v ps) (hi:rs[i]?=some q) (t:Tl L q) (e:q.2.1=k):Tp rs L q.1 v (ps++[i]):=by
 induction h with
 | nil=>subst e; exact .cons hi t .nil
 | cons h1 t1 _ ih=>exact .cons h1 t1 ih
theorem A3 (w:OW n rs L){m:Int}{qs:List Nat}(h:Ow rs m qs):eM rs qs=g L m-> ∃i q ps,qs=i::ps/\rs[i]?=some q/\q.2.2=g L q.1/\Tp rs L m q.1 ps:=by
 induction h with
 | @one i q hi=>intro e; rw[i7 hi] at e; exact⟨i,q,[],rfl,hi,e,.nil⟩
 | @snoc k ps i q hp hi hb ih =>
  intro e
  obtain⟨e1,e2⟩:=z9 w hp hi hb e
  obtain⟨i0,q0,ps0,rfl,a,b,c⟩:=ih e1
  have:=hp.OQ w
  exact⟨i0,q0,ps0++[i],rfl,a,b,c.snoc hi ⟨by omega,by rw[hb]; exact e2⟩ hb⟩
theorem Au {m v:Int}{ps:List Nat}(h:Tp rs L m v ps): ∀pre,Ow rs v pre->eM rs pre=g L v->Ow rs m (pre++ps)/\eM rs (pre++ps)=g L m:=by
 induction h with
 | nil=>intro pre a b; rw[Mm]; exact⟨a,b⟩
 | @cons i q ps hi t _ ih =>
  intro pre a b
  have:=ih (pre++[i]) (.snoc a hi rfl) (by rw[gR hi,b]; exact t.2.symm)
  rw[L6] at this
  exact this
theorem G1 {m:Int}{i:Nat}{q:au}{ps:List Nat}(hi:rs[i]?=some q) (e:q.2.2=g L q.1) (h:Tp rs L m q.1 ps):Ow rs m (i::ps)/\eM rs (i::ps)=g L m :=
 Au h [i] (.one hi) ((i7 hi).trans e)
structure mw (rs:List au) (L:List Int) (m:Int) (F:Int->Option Nat):Prop where
 ex: ∀v d,F v=some d-> ∃ps,Tp rs L m v ps/\ps.length=d
 lo: ∀v ps,Tp rs L m v ps-> ∃d,F v=some d/\d<=ps.length
def Nx (rs:List au) (L:List Int) (F:Int->Option Nat) (v:Int) (i:Nat):Prop :=
 ∃(q:au) (d:Nat),rs[i]?=some q/\q.2.1=v/\Tl L q/\F v=some (d+1)/\F q.1=some d/\ ∀(j:Nat) (q':au),j < i->rs[j]?=some q'->q'.2.1=v->Tl L q'->F q'.1≠some d
inductive Gr (rs:List au) (L:List Int) (F:Int->Option Nat) (m:Int):Int->List Nat->Prop
 | nil:Gr rs L F m m []
 | cons {v:Int}{i:Nat}{q:au}{ps:List Nat}:Nx rs L F v i->rs[i]?=some q->Gr rs L F m q.1 ps->Gr rs L F m v (i::ps)
variable {F:Int->Option Nat}{m:Int}
theorem mw.zero (D:mw rs L m F):F m=some 0:=by
 obtain⟨d,e,l⟩:=D.lo m [] .nil
 rw[e,Nat.le_zero.mp l]
theorem Gr.len (D:mw rs L m F){v:Int}{ps:List Nat}(h:Gr rs L F m v ps):F v=some ps.length/\Tp rs L m v ps:=by
 induction h with
 | nil=>exact⟨D.zero,.nil⟩
 | @cons v i q ps nx hi _ ih =>
  obtain⟨q',d,a,b,c,e,f,_⟩:=nx
  rw[hi] at a
  cases a
  rw[ih.1] at f
  cases f
  refine⟨e,?_⟩
  rw[<-b]
  exact .cons hi c ih.2
def nV (one other:List Nat):Prop:= ∃k x y:Nat,one[k]?=some x/\other[k]?=some y/\x < y/\ ∀j,j < k->one[j]?=other[j]?
theorem nV.tail {i:Nat}{a b:List Nat}(h:nV (i::a) (i::b)):nV a b:=by
 obtain⟨k,x,y,h1,h2,h3,h4⟩:=h
 cases k with
 | zero=>cases h1; cases h2; omega
 | succ k=>exact⟨k,x,y,h1,h2,h3,fun j hj=>h4 (j+1) (by omega)⟩
theorem Gr.first (D:mw rs L m F){v:Int}{ps:List Nat}(h:Gr rs L F m v ps): ∀qs,Tp rs L m v qs->qs.length=ps.length-> ¬nV qs ps:=by
 induction h with
 | nil=>rintro qs _ _ ⟨k,x,y,_,h2,_⟩; cases h2
 | @cons v i q ps nx hi hg ih =>
  intro qs ht hl he
  obtain⟨q',d,a,b,c,e,f,mn⟩:=nx
  rw[hi] at a
  cases a
  have gl:=hg.len D
  rw[gl.1] at f
  cases f
  cases ht with
  | nil=>cases hl
  | @cons j q2 qs' hj t2 ht' =>
  have hl':qs'.length=ps.length:=NR hl
  obtain⟨d2,e2,l2⟩:=D.lo _ _ ht'
  have l3:ps.length<=d2:=by
   obtain⟨ps2,p1,p2⟩:=D.ex _ _ e2
   obtain⟨d3,e3,l3⟩:=D.lo _ _ (Tp.cons hj t2 p1)
   rw[e] at e3
   cases e3
   rw[K1] at l3
   omega
  have ed:d2=ps.length:=by omega
  have hij: ¬j < i:=fun z=>mn j q2 z hj rfl t2 (by rw[e2,ed])
  by_cases eq:j=i
  .subst eq
   rw[hj] at hi
   cases hi
   exact ih qs' ht' hl' he.tail
  .obtain⟨k,x,y,h1,h2,h3,h4⟩:=he
   cases k with
   | zero=>cases h1; cases h2; omega
   | succ k =>
    have:=h4 0 (NW _)
    cases this
    exact eq rfl
def dE (rs:List au) (L:List Int) (m:Int) (ps:List Nat):Prop:=(g L m=0/\ps=[])\/(0 < g L m/\Ow rs m ps/\eM rs ps=g L m/\ ∀qs,Ow rs m qs->eM rs qs=g L m->ps.length<=qs.length/\(qs.length=ps.length-> ¬nV qs ps))
theorem dE.lt {ps:List Nat}(h:dE rs L m ps): ∀i∈ps,i < rs.length:=by
 rcases h with⟨_,e⟩ | ⟨_,hc,_⟩
 .rw[e]; intro i hi; cases hi
 .exact hc.lt
theorem dE.O4 {ps:List Nat}(w:OW n rs L) (h:dE rs L m ps):ps.length<=n:=by
 rcases h with⟨_,e⟩ | ⟨_,hc,hs,hm⟩
 .rw[e]; exact Lu _
 .exact MA.O4 w hc hs fun qs a b=>(hm qs a b).1
def P6 (rs:List au) (L:List Int) (F:Int->Option Nat) (i:Nat):Prop :=
 ∃(q:au) (d:Nat),rs[i]?=some q/\q.2.2=g L q.1/\F q.1=some d/\(∀(j:Nat) (q':au) (d':Nat),rs[j]?=some q'->q'.2.2=g L q'.1->F q'.1=some d'->d<=d')/\ ∀(j:Nat) (q':au),j < i->rs[j]?=some q'->q'.2.2=g L q'.1->F q'.1≠some d
theorem AB (w:OW n rs L) (D:mw rs L m F) (hz:0 < g L m){i:Nat}{q:au}{ps:List Nat}(h:P6 rs L F i) (hi:rs[i]?=some q) (hg:Gr rs L F m q.1 ps):dE rs L m (i::ps):=by
 obtain⟨q',d,a,b,c,mn,fr⟩:=h
 rw[hi] at a
 cases a
 obtain⟨g1,g2⟩:=hg.len D
 rw[g1] at c
 cases c
 obtain⟨c1,c2⟩:=G1 hi b g2
 refine .inr ⟨hz,c1,c2,fun qs h1 h2=>?_⟩
 obtain⟨j,q2,qs',rfl,a2,b2,t2⟩:=A3 w h1 h2
 obtain⟨d2,e2,l2⟩:=D.lo _ _ t2
 have l3:=mn j q2 d2 a2 b2 e2
 refine⟨by rw[K1,K1]; omega,fun hl he=>?_⟩
 have hl':qs'.length=ps.length:=NR hl
 have ed:d2=ps.length:=by omega
 have hij: ¬j < i:=fun z=>fr j q2 z a2 b2 (by rw[e2,ed])
 by_cases eq:j=i
 .subst eq
  rw[a2] at hi
  cases hi
  exact hg.first D qs' t2 hl' he.tail
 .obtain⟨k,x,y,h1,h2,h3,h4⟩:=he
  cases k with
  | zero=>cases h1; cases h2; omega
  | succ k =>
   have:=h4 0 (NW _)
   cases this
   exact eq rfl
theorem Ed (w:OW n rs L) (D:mw rs L m F) (f:pC n rs L) (m0:0<=m) (m1:m < n) (hz:0 < g L m): ∃(i:Nat) (q:au) (d:Nat),rs[i]?=some q/\q.2.2=g L q.1/\F q.1=some d:=by
 rcases (f m m0 m1).2 with z | ⟨ps,p1,p2⟩
 .omega
 .obtain⟨i,q,ps',rfl,a,b,t⟩:=A3 w p1 p2
  obtain⟨d,e,_⟩:=D.lo _ _ t
  exact⟨i,q,d,a,b,e⟩
theorem EM (D:mw rs L m F){v:Int}{d:Nat}(e:F v=some d) (hv:v≠m): ∃(d' i:Nat) (q:au),d=d'+1/\rs[i]?=some q/\q.2.1=v/\Tl L q/\F q.1=some d':=by
 obtain⟨ps,p1,p2⟩:=D.ex _ _ e
 cases p1 with
 | nil=>exact absurd rfl hv
 | @cons i q ps' hi t ht =>
  obtain⟨d2,e2,l2⟩:=D.lo _ _ ht
  rw[K1] at p2
  refine⟨ps'.length,i,q,p2.symm,hi,rfl,t,?_⟩
  obtain⟨ps2,r1,r2⟩:=D.ex _ _ e2
  obtain⟨d3,e3,l3⟩:=D.lo _ _ (Tp.cons hi t r1)
  rw[e] at e3
  cases e3
  rw[K1] at l3
  rw[e2,show d2=ps'.length by omega]
end MA
namespace L2
open PySem PySem.Spec PyProof.Rows
theorem tX {J:It}{g:TG}{tt:TT}{te:TE}{own:List Str}{fr:List Nat}{σ:St}{H:Hp}{Q:VK}(n:Nat) (Pv:Nat->List V->Hp->Prop) (h0:Pv 0 [] H) (hz:n < sizeLine) (hlen: ∀i ys H,Pv i ys H->ys.length<=i)
  (hgo: ∀i ys H,i < n->Pv i ys H->J.go i H) (hstop: ∀ys H,Pv n ys H->J.stop n H)
  (hs: ∀i ys H2 x H3,i < n->Pv i ys H2->J.yld i H2 x H3->g x (cH own fr σ) H3 fun σ4 H4=>tt σ4 H4 fun b H5=>if b=true then te σ4 H5 fun y H6=>Pv (i+1) (ys++[y]) H6 else Pv (i+1) ys H5)
  (hq: ∀ys H2 p,Pv n ys H2->H2 p=none->Q (.ref p) (upd H2 p (.lst ys))):mr J g tt te own fr σ H Q:=by
 refine⟨fun i m ys H2=>i<=n/\m=n - i/\Pv i ys H2,⟨n,Lu _,rfl,h0⟩,?_⟩
 rintro i m ys H2 ⟨hi,rfl,hp⟩
 by_cases hlt:i < n
 .refine .inr ⟨hgo i ys H2 hlt hp,LJ (hlen i ys H2 hp) (by omega),fun x H3 hy=>?_⟩
  have e: ∀zs H6,(∃m',m' < n - i/\i+1<=n/\m'=n - (i+1)/\Pv (i+1) zs H6)=Pv (i+1) zs H6:=fun zs H6=>propext ⟨fun⟨_,_,_,_,z⟩=>z,fun z=>⟨n - (i+1),by omega,hlt,rfl,z⟩⟩
  simp only[e]
  exact hs i ys H2 x H3 hlt hp hy
 .have e:i=n:=by omega
  subst e
  exact .inl ⟨hstop ys H2 hp,K7 (LJ (hlen _ ys H2 hp) hz),fun p np=>hq ys H2 p hp np⟩
inductive Io (K:N7) (Q:Bool->Hp->Prop) (x:V) (H':Hp):Prop | mk (k:_) (e0:AA K x H' k) (q:Q k H')
def C3 (K:N7) (t:TE):TT:=fun σ H Q=>t σ H fun x H'=>Io K Q x H'
theorem AZ {X:Cx}{a:Expr}{ta:TE}(ha:PE X a ta) (he: ∀whole,isTrue a X.env whole=(do let v <-whole; standAt a.pos; holding [v] (truthy v))):PT X a (C3 X.K ta):=by
 have e:C3 X.K ta=fun σ H Q=>ta σ H fun x H'=> ∃k,AA X.K x H' k/\Q k H':=by
  funext σ H Q
  exact Ln (ta σ H) (funext fun x=>funext fun H'=>propext ⟨fun⟨k,a,b⟩=>⟨k,a,b⟩,fun⟨k,a,b⟩=>⟨k,a,b⟩⟩)
 rw[e]
 exact CS ha he
theorem vz {K:N7}{a:Addr}{xs:List V}{g:TG}{tt:TT}{te:TE}{own:List Str}{fr:List Nat}{σ:St}{H:Hp}{Q:VK}(Pv:Nat->List V->Hp->Prop) (hJ: ∀i ys H,Pv i ys H->N5 K H a xs) (h0:Pv 0 [] H) (hz:xs.length < sizeLine) (hlen: ∀i ys H,Pv i ys H->ys.length<=i)
  (hs: ∀i ys H2 x t,xs[i]?=some x->Pv i ys H2->H2 t=none->g (.ref t) (cH own fr σ) (upd H2 t (.tup [.int (i:Nat),x])) fun σ4 H4=>tt σ4 H4 fun b H5=>if b=true then te σ4 H5 fun y H6=>Pv (i+1) (ys++[y]) H6 else Pv (i+1) ys H5)
  (hq: ∀ys H2 p,Pv xs.length ys H2->H2 p=none->Q (.ref p) (upd H2 p (.lst ys))):mr (Pn K a) g tt te own fr σ H Q:=by
 refine tX xs.length Pv h0 hz hlen (fun i ys H hi hp=>⟨xs,xs[i],hJ i ys H hp,Kr hi⟩) (fun ys H hp=>⟨xs,hJ _ ys H hp,Ku _⟩) (fun i ys H2 x H3 hi hp hy=>?_) hq
 obtain⟨t,x,rfl,nt,rfl,hx⟩:=hy
 exact hs i ys H2 x t (hx xs (hJ i ys H2 hp)) hp nt
theorem cg {J:It}{xs:List V}{g:TG}{tt:TT}{te:TE}{own:List Str}{fr:List Nat}{σ:St}{H:Hp}{Q:VK}(Pv:Nat->List V->Hp->Prop) (hJ: ∀i ys H,i<=xs.length->Pv i ys H->JL J H xs) (h0:Pv 0 [] H) (hz:xs.length < sizeLine) (hlen: ∀i ys H,Pv i ys H->ys.length<=i)
  (hs: ∀i ys H2 x,xs[i]?=some x->Pv i ys H2->g x (cH own fr σ) H2 fun σ4 H4=>tt σ4 H4 fun b H5=>if b=true then te σ4 H5 fun y H6=>Pv (i+1) (ys++[y]) H6 else Pv (i+1) ys H5)
  (hq: ∀ys H2 p,Pv xs.length ys H2->H2 p=none->Q (.ref p) (upd H2 p (.lst ys))):mr J g tt te own fr σ H Q:=by
 refine tX xs.length Pv h0 hz hlen (fun i ys H hi hp=>(hJ i ys H (K7 hi) hp).go i hi) (fun ys H hp=>(hJ _ ys H (Ku _) hp).stop _ (Ku _)) (fun i ys H2 x H3 hi hp hy=>?_) hq
 obtain⟨rfl,hx⟩:=(hJ i ys H2 (K7 hi) hp).yld i x H3 hi hy
 exact hs i ys H3 x hx hp
section
variable {X:Cx}{N3:List (Addr×Obj)}{σ:St}{H:Hp}{s:Shared}{h':Heap}
theorem Inv.sI {t':Nat}{ch:List Addr}(I:Inv X N3 σ H s) (k: ∀c o,c∉ch->s.heap.get? c=some o->h'.get? c=some o) (fa: ∀a∈ch,ck X N3 H a):Inv X N3 σ H { s with heap:=h',toks:=t' }:=by
 have na: ∀c u,H c=some u->c∉ch:=fun c u e z=>by rw[(fa c z).1] at e; cases e
 refine I.step (g':=s.gens) (d':=s.drawn) (ch:=ch) (fun c hc=>?_) (fun c o _ _ hc e _=>k c o hc e) (fun c o _ _ hc e _=>⟨o.slots,k c o hc e⟩) (fun _ _ _ _ n=>n)
  (fun c o hc e=>⟨o,k c o hc e⟩) (fun _ _ e=>e) (fun _ _ _ e=>e) (fun c ps e=>⟨#[],by rw[e]; simp⟩) (fun m hm=>?_) (fun c u e=>?_) I.bare
 .exact⟨(fa c hc).2.2.2.1,(fa c hc).2.1,(fa c hc).2.2.2.2.1,(fa c hc).2.2.2.2.2⟩
 .obtain⟨o,es,ep,ho,r⟩:=hm
  exact⟨o,es,ep,k _ o (fun z=>(fa _ z).2.1 rfl) ho,r⟩
 .refine (I.hok c u e).oi (fun d v hd q=>k d v ?_ q) (fun _ q=>q) fun _ _ q=>q
  rcases hd with z | z
  .rw[z]; exact na c u e
  .exact na d _ z
end
def PU (K:N7) (a b:Addr):It :=
 ⟨fun i H=> ∃xs ys x y,N5 K H a xs/\N5 K H b ys/\xs[i]?=some x/\ys[i]?=some y,fun i H v H'=> ∃t x y,v= .ref t/\H t=none/\H'=upd H t (.tup [x,y])/\(∀xs,N5 K H a xs->xs[i]?=some x)/\ ∀ys,N5 K H b ys->ys[i]?=some y,fun i H=> ∃xs ys,N5 K H a xs/\N5 K H b ys/\(xs.length<=i\/ys.length<=i)⟩
theorem vA {h:Heap}{z TI TO i1 i2 a b:Addr}{f0 u v:Value}{k1 k2:Nat}{xs ys:Array Value}(hz:IsZip h z TI TO f0) (h1:h.IsListIter i1 a k1) (h2:h.IsListIter i2 b k2) (hp:IsPair h TO u v) (ha:h.IsList a xs) (hb:h.IsList b ys) :
  a≠z/\a≠TO/\a≠i1/\a≠i2/\b≠z/\b≠TO/\b≠i1/\b≠i2:=by
 obtain⟨o1,e1,c1,d1⟩:=h1
 obtain⟨o2,e2,c2,d2⟩:=h2
 obtain⟨oa,ea,ca,da⟩:=ha
 obtain⟨ob,eb,cb,db⟩:=hb
 refine⟨fun e=>?_,fun e=>?_,fun e=>?_,fun e=>?_,fun e=>?_,fun e=>?_,fun e=>?_,fun e=>?_⟩ <;> subst e
 .rw[hz] at ea; cases ea; exact absurd (Me ca) (by decide)
 .rw[hp] at ea; cases ea; exact absurd (Me ca) (by decide)
 .rw[e1] at ea; cases ea; rw[c1] at ca; exact absurd (Me ca) (by decide)
 .rw[e2] at ea; cases ea; rw[c2] at ca; exact absurd (Me ca) (by decide)
 .rw[hz] at eb; cases eb; exact absurd (Me cb) (by decide)
 .rw[hp] at eb; cases eb; exact absurd (Me cb) (by decide)
 .rw[e1] at eb; cases eb; rw[c1] at cb; exact absurd (Me cb) (by decide)
 .rw[e2] at eb; cases eb; rw[c2] at cb; exact absurd (Me cb) (by decide)
structure Qb (z TI TO i1 i2:Addr):Prop where
 TIz:TI≠z
 TOz:TO≠z
 i1z:i1≠z
 i2z:i2≠z
 TITO:TI≠TO
 TIi1:TI≠i1
 TIi2:TI≠i2
 TOi1:TO≠i1
 TOi2:TO≠i2
 i12:i1≠i2
structure Qr (h:Heap) (z TI TO i1 i2 a b:Addr) (i:Nat):Prop where
 zp:IsZip h z TI TO .none
 pi:IsPair h TI (.ref i1) (.ref i2)
 po: ∃u v,IsPair h TO u v
 h1:h.IsListIter i1 a i
 h2:h.IsListIter i2 b i
 ap:Qb z TI TO i1 i2
theorem Dr {P:Program}{w:World}{K:N7}{elts:List Expr}{x1}{pos:Pos}(a b z TI TO i1 i2:Addr):Turn P w K (.Tuple elts x1 pos) (PU K a b) [z,TI,TO,i1,i2] z (fun i h=>Qr h z TI TO i1 i2 a b i) where
 mem:=by simp
 obj:=fun i h st c hc=>by
  obtain⟨hz,hp,⟨u,v,ho⟩,⟨o1,e1,c1,d1⟩,⟨o2,e2,c2,d2⟩,_⟩:=st
  simp only[Kz,Ll,MB] at hc
  rcases hc with rfl | rfl | rfl | rfl | rfl
  .exact⟨_,hz,fun v q=>by cases q⟩
  .exact⟨_,hp,fun v q=>by cases q⟩
  .exact⟨_,ho,fun v q=>by cases q⟩
  .exact⟨o1,e1,fun v q=>by rw[d1] at q; cases q⟩
  .exact⟨o2,e2,fun v q=>by rw[d2] at q; cases q⟩
 keep:=fun i h h' st k=>by
  obtain⟨hz,hp,⟨u,v,ho⟩,h1,h2,ap⟩:=st
  exact⟨k z (by simp) _ hz,k TI (by simp) _ hp,⟨u,v,k TO (by simp) _ ho⟩,h1.at fun o q=>k i1 (by simp) o q,h2.at fun o q=>k i2 (by simp) o q,ap⟩
 item:=by
  intro X hP hw hK hc i N3 s σ H E I hf st hg
  subst hP hw hK
  obtain⟨hz,hp,⟨u,v,ho⟩,h1,h2,ap⟩:=st
  obtain⟨xs,ys,x,y,hqa,hqb,hx,hy⟩:=hg
  obtain⟨its,rv,p,hsz⟩:=I.list hqa
  obtain⟨jts,rw',p2,hsz2⟩:=I.list hqb
  obtain⟨ux,hux,rux⟩:=rv.get hx
  obtain⟨uy,huy,ruy⟩:=rw'.get hy
  obtain⟨q1,q2,q3,q4,q5,q6,q7,q8⟩:=vA hz h1 h2 ho p.isList p2.isList
  have za:ZipApart z TI TO i1 i2 a b:=⟨ap.TIz,ap.TOz,ap.i1z,ap.i2z,ap.TITO,ap.TIi1,ap.TIi2,ap.TOi1,ap.TOi2,ap.i12,q1,q2,q3,q4,q5,q6,q7,q8⟩
  have ltz:z < s.heap.objs.size:=KJ hz
  have ltI:TI < s.heap.objs.size:=KJ hp
  have ltO:TO < s.heap.objs.size:=KJ ho
  have PM:i1 < s.heap.objs.size:=by obtain⟨o,q,_⟩:=id h1; exact KJ q
  have lt2:i2 < s.heap.objs.size:=by obtain⟨o,q,_⟩:=id h2; exact KJ q
  refine wpAny_pyNext_zip_item za hz hp ho h1 h2 p.isList p2.isList (x:=ux) (y:=uy) (by simpa using hux) (by simpa using huy) fun h' hz' ho' h1' h2' ht hs' hk=>?_
  refine⟨_,rfl,wpAny_letOwnedTupleGo_zip hz' fun h3 hz3 sb=>?_⟩
  have kall: ∀c o,c∉[z,TI,TO,i1,i2]->s.heap.get? c=some o->h3.get? c=some o:=fun c o hc q=>by
   simp only[Kz,Ll,MB,not_or] at hc
   exact (sb.2 c hc.1).trans (hk c o hc.1 hc.2.2.1 hc.2.2.2.1 hc.2.2.2.2 q)
  have I1:Inv X N3 σ H { s with heap:=h3,toks:=s.toks }:=I.sI kall hf
  have ht2:h3.get? s.heap.objs.size=some { cls:= .type "tuple",data:= .seq #[ux,uy] }:=(sb.2 _ (Nf ltz)).trans ht
  have fT:ck X N3 H s.heap.objs.size:=I.iZ (Ku _) (I.hok.fresh (Ku _))
  have new:cZ X.prog X.w (upd H s.heap.objs.size (.tup [x,y])) h3 s.heap.objs.size (.tup [x,y]):=⟨by show 2<=sizeLine; decide,[ux,uy],.cons rux (.cons ruy .nil),⟨_,ht2,rfl,_,rfl⟩⟩
  refine⟨.ref s.heap.objs.size,_,I1.Ef fT new,rfl,⟨_,x,y,rfl,fT.1,rfl,fun zs hzs=>by rw[I.qb hzs hqa]; exact hx,fun zs hzs=>by rw[I.qb hzs hqb]; exact hy⟩,⟨hz3,?_,?_,?_,?_,ap⟩,fun c hc=>?_⟩
  .exact (sb.2 _ ap.TIz).trans (hk _ _ ap.TIz ap.TITO ap.TIi1 ap.TIi2 hp)
  .exact⟨_,_,(sb.2 _ ap.TOz).trans ho'⟩
  .exact h1'.at fun o q=>(sb.2 _ ap.i1z).trans q
  .exact h2'.at fun o q=>(sb.2 _ ap.i2z).trans q
  .have:=(hf c hc).1
   simp only[Kz,Ll,MB] at hc
   rcases hc with rfl | rfl | rfl | rfl | rfl
   .rw[ai (K4 ltz)]; exact this
   .rw[ai (K4 ltI)]; exact this
   .rw[ai (K4 ltO)]; exact this
   .rw[ai (K4 PM)]; exact this
   .rw[ai (K4 lt2)]; exact this
 done:=by
  intro X hP hw hK hc i N3 s σ H E I hf st hg
  subst hP hw hK
  obtain⟨hz,hp,⟨u,v,ho⟩,h1,h2,ap⟩:=st
  obtain⟨xs,ys,hqa,hqb,hx⟩:=hg
  obtain⟨its,rv,p,hsz⟩:=I.list hqa
  obtain⟨jts,rw',p2,hsz2⟩:=I.list hqb
  obtain⟨q1,q2,q3,q4,q5,q6,q7,q8⟩:=vA hz h1 h2 ho p.isList p2.isList
  have za:ZipApart z TI TO i1 i2 a b:=⟨ap.TIz,ap.TOz,ap.i1z,ap.i2z,ap.TITO,ap.TIi1,ap.TIi2,ap.TOi1,ap.TOi2,ap.i12,q1,q2,q3,q4,q5,q6,q7,q8⟩
  have hl:=rv.length
  have hl2:=rw'.length
  refine wpAny_pyNext_zip_end (I.ok.hd hc) za hz hp ho h1 h2 p.isList p2.isList ?_ fun h' hk=>⟨rfl,I.sI (t':=s.toks) (ch:=[z,TI,TO,i1,i2]) (fun c o hc q=>?_) hf⟩
  .rcases hx with hx | hx
   .left; simp; omega
   .right; simp; omega
  .simp only[Kz,Ll,MB,not_or] at hc
   exact hk c o hc.1 hc.2.2.1 hc.2.2.2.1 hc.2.2.2.2 q
 self:=fun _ _ _ _ _ st h=>wpAny_pyIter_zip st.zp h
section
variable {X:Cx}
inductive IA (K:N7) (R:It->Hp->Prop) (vs:List V) (H1:Hp):Prop | mk (a b:_) (e0:vs=[.ref a,.ref b]) (e1:(∃xs,N5 K H1 a xs)) (e2:(∃ys,N5 K H1 b ys)) (q:R (PU K a b) H1)
def Jw (K:N7) (ta:TA):TI:=fun σ H R=>ta σ H fun vs H1=>IA K R vs H1
theorem boot_zip:bootBuiltins "zip" = some (.type "zip"):=by trivial
theorem F7 {elts:List Expr}{x1}{tpos:Pos}{a b:Expr}{ta:TA}{p pos:Pos}(hg:Gl X "zip") (hm:X.mg "zip" = none) (ha:PA X [a,b] ta) (hs:starEach [a,b] X.env=(false,eval a X.env)::starEach [b] X.env:=by rfl) (hs2:((backTo pos (starEach [b] X.env)).any fun x=>x.fst)=false:=by rfl):PI X (.Tuple elts x1 tpos) (.Call (.Name "zip" p) [a,b] [] pos) (Jw X.K ta):=by
 intro N3 s σ H R I h
 refine Call_ (nG I hg hm boot_zip (Mf (Oc (ha pos N3 s σ H _ I h) fun us s1 ⟨vs,H1,I1,r1,q1⟩=>?_) hs hs2))
 obtain⟨l1,l2,e,⟨xs,hq1⟩,⟨ys,hq2⟩,q⟩:=q1
 subst e
 obtain⟨u1,u2,rfl,ru1,ru2⟩:=vals2 r1
 cases ru1
 cases ru2
 obtain⟨its,rv,pl,hz⟩:=I1.list hq1
 obtain⟨jts,rw',pl2,hz2⟩:=I1.list hq2
 refine call_zip_2 pl.isList pl2.isList fun h' hzp hpi hpo h1 h2 hsz hk=>?_
 refine wpAny_pyIter_zip hzp ?_
 have I2:Inv X N3 σ H1 { s1 with heap:=h' }:=I1.kept (t':=s1.toks) hk
 refine⟨s1.heap.objs.size+4,[s1.heap.objs.size+4,s1.heap.objs.size+2,s1.heap.objs.size+3,s1.heap.objs.size,s1.heap.objs.size+1],_,_,H1,rfl,I2,Dr l1 l2 _ _ _ _ _,⟨hzp,hpi,⟨_,_,hpo⟩,h1,h2,?_⟩,fun b hb=>?_,q⟩
 .constructor <;> intro e <;> exact absurd e (by show ¬(_:Nat)=_; omega)
 .have hb':s1.heap.objs.size<=b:=by
   simp only[Kz,Ll,MB] at hb
   rcases hb with rfl | rfl | rfl | rfl | rfl
   .exact M7 _ _
   .exact M7 _ _
   .exact M7 _ _
   .exact Ku _
   .exact M7 _ _
  exact I1.iZ hb' (I1.hok.fresh hb')
end
theorem DQ {K:N7}{a b:Addr}{xs zs:List V}{g:TG}{tt:TT}{te:TE}{own:List Str}{fr:List Nat}{σ:St}{H:Hp}{Q:VK}(Pv:Nat->List V->Hp->Prop) (hJ: ∀i ys H,Pv i ys H->N5 K H a xs/\N5 K H b zs) (hl:zs.length=xs.length) (h0:Pv 0 [] H) (hz:xs.length < sizeLine) (hlen: ∀i ys H,Pv i ys H->ys.length<=i)
  (hs: ∀i ys H2 x z t,xs[i]?=some x->zs[i]?=some z->Pv i ys H2->H2 t=none->g (.ref t) (cH own fr σ) (upd H2 t (.tup [x,z])) fun σ4 H4=>tt σ4 H4 fun b H5=>if b=true then te σ4 H5 fun y H6=>Pv (i+1) (ys++[y]) H6 else Pv (i+1) ys H5)
  (hq: ∀ys H2 p,Pv xs.length ys H2->H2 p=none->Q (.ref p) (upd H2 p (.lst ys))):mr (PU K a b) g tt te own fr σ H Q:=by
 refine tX xs.length Pv h0 hz hlen (fun i ys H hi hp=>⟨xs,zs,xs[i],zs[i],(hJ i ys H hp).1,(hJ i ys H hp).2,Kr hi,Kr _⟩) (fun ys H hp=>⟨xs,zs,(hJ _ ys H hp).1,(hJ _ ys H hp).2,.inl (Ku _)⟩) (fun i ys H2 x H3 hi hp hy=>?_) hq
 obtain⟨t,x,z,rfl,nt,rfl,hx,hz'⟩:=hy
 exact hs i ys H2 x z t (hx xs (hJ i ys H2 hp).1) (hz' zs (hJ i ys H2 hp).2) hp nt
section
variable {X:Cx}
theorem zz (val:Nat->Int): ∀n i,i<=n->val (argBest (fun i j=>decide (val i < val j)) n)<=val i/\argBest (fun i j=>decide (val i < val j)) n<=n
 | 0,i,h=>by rw[Nat.le_zero.mp h]; unfold argBest; exact⟨K3 _,Ku _⟩
 | n+1,i,h=>by
  have ih:=zz val n
  unfold argBest
  split
  .rename_i c
   have c:=KY c
   refine⟨?_,Ku _⟩
   by_cases e:i=n+1
   .rw[e]; exact K3 _
   .have:=(ih i (by omega)).1
    omega
  .rename_i c
   have c:=Lh (K8 _▸c)
   refine⟨?_,Nat.le_succ_of_le (ih n (Ku _)).2⟩
   by_cases e:i=n+1
   .rw[e]; omega
   .exact (ih i (by omega)).1
theorem zv (val:Nat->Int): ∀n i,i<=n->val i<=val (argBest (fun i j=>decide (val i > val j)) n)/\argBest (fun i j=>decide (val i > val j)) n<=n
 | 0,i,h=>by rw[Nat.le_zero.mp h]; unfold argBest; exact⟨K3 _,Ku _⟩
 | n+1,i,h=>by
  have ih:=zv val n
  unfold argBest
  split
  .rename_i c
   have c:=KY c
   refine⟨?_,Ku _⟩
   by_cases e:i=n+1
   .rw[e]; exact K3 _
   .have:=(ih i (by omega)).1
    omega
  .rename_i c
   have c:=Lh (K8 _▸c)
   refine⟨?_,Nat.le_succ_of_le (ih n (Ku _)).2⟩
   by_cases e:i=n+1
   .rw[e]; omega
   .exact (ih i (by omega)).1
inductive II (K:N7) (xs:List V) (H:Hp) (Q:VK):Prop | mk (a:Addr) (ns:List Int) (e0:xs=[.ref a]) (e1:N5 K H a (ns.map V.int)) (e2:0 < ns.length) (q: ∀M,M∈ns->(∀x∈ns,M<=x)->Q (.int M) H)
def GA (K:N7):List V->Hp->VK->Prop:=fun xs H Q=>II K xs H Q
inductive IE (K:N7) (xs:List V) (H:Hp) (Q:VK):Prop | mk (a:Addr) (ns:List Int) (e0:xs=[.ref a]) (e1:N5 K H a (ns.map V.int)) (e2:0 < ns.length) (q: ∀M,M∈ns->(∀x∈ns,x<=M)->Q (.int M) H)
def GL (K:N7):List V->Hp->VK->Prop:=fun xs H Q=>IE K xs H Q
theorem oQ {ns:List Int}{its:List Value}(rv:Vals (ns.map V.int) its): ∀(i:Nat) (v:Value),its.toArray[i]?=some v-> ∃t,v=Value.int (ns.getD i 0) t:=fun i v h=>by
 have h:its[i]?=some v:=by simpa using h
 obtain⟨hi,rfl⟩:=Ky.mp h
 have hl:=rv.length
 rw[Kq] at hl
 obtain⟨u,hu,ru⟩:=rv.get (i:=i) (x:= .int (ns.getD i 0)) (by rw[KH,Kr (by omega),KA,Kr (by omega)]; rfl)
 rw[h] at hu
 cases hu
 obtain⟨t,e⟩:=ru
 exact⟨t,e⟩
theorem Cb (hc:X.calm=true):cX X (.builtin "min") (GA X.K):=by
 intro N3 s σ H xs us Q I r h
 obtain⟨a,ns,rfl,ha,hn,q⟩:=h
 obtain⟨u,rfl,ru⟩:=vals1 r
 cases ru
 obtain⟨its,rv,pl,hz⟩:=I.list ha
 have hl:=rv.length
 rw[Kq] at hl
 refine call_min_walk (Ms pl.isList ?_)
 have hk0: ∀(b:Addr) (o:Obj),s.heap.get? b=some o->(s.heap.push { cls:=Value.type "list_iterator",data:=Data.fields #[Value.ref a,Value.int 0 0] }).get? b=some o:=fun b o e=>Kx _ e
 have hlt:a < s.heap.objs.size:=by obtain⟨o,q,_⟩:=pl.isList; exact KJ q
 have I1:Inv X N3 σ H { s with heap:=s.heap.push { cls:=Value.type "list_iterator",data:=Data.fields #[Value.ref a,Value.int 0 0] },toks:=s.toks }:=I.kept (t':=s.toks) hk0
 have fI:ck X N3 H s.heap.objs.size:=I.iZ (Ku _) (I.hok.fresh (Ku _))
 refine⟨s.heap.objs.size,_,_,_,_,_,_,rfl,Walks.list (A:=X.A.in1) (show X.A.in1.handled=none from I.ok.hd hc) s.heap.objs.size a (K4 hlt) its.toArray,⟨⟨_,K9 _ rfl,rfl,rfl⟩,?_⟩,fun b hb=>?_,by simp; omega,CmpOf.ints_lt (fun i=>ns.getD i 0) (oQ rv),fun v h' tk hv hk=>?_⟩
 .obtain⟨o,q1,q2⟩:=pl.isList
  exact⟨o,hk0 _ _ q1,q2⟩
 .simp only[Kz,Ll,MB] at hb
  rw[LK]
  rcases hb with rfl | rfl
  .exact My _
  .exact MN hlt
 .obtain⟨t,rfl⟩:=oQ rv _ _ hv
  have sz:its.toArray.size - 1=ns.length - 1:=by simp; omega
  rw[sz] at *
  have hb:=zz (fun i=>ns.getD i 0) (ns.length - 1)
  refine⟨.int _,H,I1.sI (t':=tk) (ch:=[s.heap.objs.size]) (fun c o hc e=>hk c o hc e) (fun b hb=>by rw[Kt.mp hb]; exact fI),⟨t,rfl⟩,q _ ?_ fun x hx=>?_⟩
  .have:=(hb 0 (Lu _)).2
   show ns.getD _ 0∈ns
   rw[KA,Kr (show argBest _ (ns.length - 1) < ns.length by omega)]
   exact Mc _
  .obtain⟨i,hi,rfl⟩:=LL.mp hx
   have:=(hb i (by omega)).1
   rw[KA (l:=ns) (i:=i),Kr hi] at this
   exact this
theorem Bb (hc:X.calm=true):cX X (.builtin "max") (GL X.K):=by
 intro N3 s σ H xs us Q I r h
 obtain⟨a,ns,rfl,ha,hn,q⟩:=h
 obtain⟨u,rfl,ru⟩:=vals1 r
 cases ru
 obtain⟨its,rv,pl,hz⟩:=I.list ha
 have hl:=rv.length
 rw[Kq] at hl
 refine call_max_walk (Ms pl.isList ?_)
 have hk0: ∀(b:Addr) (o:Obj),s.heap.get? b=some o->(s.heap.push { cls:=Value.type "list_iterator",data:=Data.fields #[Value.ref a,Value.int 0 0] }).get? b=some o:=fun b o e=>Kx _ e
 have hlt:a < s.heap.objs.size:=by obtain⟨o,q,_⟩:=pl.isList; exact KJ q
 have I1:Inv X N3 σ H { s with heap:=s.heap.push { cls:=Value.type "list_iterator",data:=Data.fields #[Value.ref a,Value.int 0 0] },toks:=s.toks }:=I.kept (t':=s.toks) hk0
 have fI:ck X N3 H s.heap.objs.size:=I.iZ (Ku _) (I.hok.fresh (Ku _))
 refine⟨s.heap.objs.size,_,_,_,_,_,_,rfl,Walks.list (A:=X.A.in1) (show X.A.in1.handled=none from I.ok.hd hc) s.heap.objs.size a (K4 hlt) its.toArray,⟨⟨_,K9 _ rfl,rfl,rfl⟩,?_⟩,fun b hb=>?_,by simp; omega,CmpOf.ints_gt (fun i=>ns.getD i 0) (oQ rv),fun v h' tk hv hk=>?_⟩
 .obtain⟨o,q1,q2⟩:=pl.isList
  exact⟨o,hk0 _ _ q1,q2⟩
 .simp only[Kz,Ll,MB] at hb
  rw[LK]
  rcases hb with rfl | rfl
  .exact My _
  .exact MN hlt
 .obtain⟨t,rfl⟩:=oQ rv _ _ hv
  have sz:its.toArray.size - 1=ns.length - 1:=by simp; omega
  rw[sz] at *
  have hb:=zv (fun i=>ns.getD i 0) (ns.length - 1)
  refine⟨.int _,H,I1.sI (t':=tk) (ch:=[s.heap.objs.size]) (fun c o hc e=>hk c o hc e) (fun b hb=>by rw[Kt.mp hb]; exact fI),⟨t,rfl⟩,q _ ?_ fun x hx=>?_⟩
  .have:=(hb 0 (Lu _)).2
   show ns.getD _ 0∈ns
   rw[KA,Kr (show argBest _ (ns.length - 1) < ns.length by omega)]
   exact Mc _
  .obtain⟨i,hi,rfl⟩:=LL.mp hx
   have:=(hb i (by omega)).1
   rw[KA (l:=ns) (i:=i),Kr hi] at this
   exact this
end
def nD (kvs:Oo) (v:Int):Option Nat:=match aM kvs (Sum.inl v) with
 | some (.int k)=>some k.toNat
 | _=>none
theorem Es {kvs:Oo}{v:Int}{j:Nat}(h:aM kvs (Sum.inl v)=some (.int (j:Nat))):nD kvs v=some j:=by unfold nD; rw[h]; show some ((j:Int).toNat)=_; rw[KW]
theorem jD {kvs:Oo}{u v:Int}{j:Nat}:nD (putK kvs (Sum.inl u) (.int (j:Nat))) v=if v=u then some j else nD kvs v:=by
 unfold nD
 rw[iW]
 by_cases e:v=u
 .subst e
  rw[Ks rfl,Ks rfl]
  show some ((j:Int).toNat)=_
  rw[KW]
 .rw[Kp (fun z=>e (MX z)),Kp e]
structure Bg (H0 H:Hp) (n:Nat) (rs:List MA.au) (L:List Int) (m:Int) (d q:Addr) (kvs:Oo) (ws:List Int) (sk:Int->Prop):Prop where
 hd:H d=some (.dK kvs)
 hq:H q=some (.lst (ws.map V.int))
 sm:ag H0 H
 fd:H0 d=none
 fq:H0 q=none
 OQ: ∀k,has kvs k->0<=k/\k < n
 num: ∀k v,aM kvs (Sum.inl k)=some v-> ∃j:Nat,v= .int (j:Nat)
 ex: ∀k j,nD kvs k=some j-> ∃ps,MA.Tp rs L m k ps/\ps.length=j
 st:nD kvs m=some 0
 wk: ∀w∈ws,has kvs w
 srt:ws.Pairwise fun a b=> ∀x y,nD kvs a=some x->nD kvs b=some y->x<=y
 top: ∀k x,nD kvs k=some x-> ∀w∈ws,∀y,nD kvs w=some y->x<=y+1
 cl: ∀k x,nD kvs k=some x->k∉ws-> ¬sk k-> ∀r∈rs,MA.Tl L r->r.1=k-> ∃y,nD kvs r.2.1=some y/\y<=x+1
 cn:kvs.length+lJ n kvs<=n
 bd: ∀k j,nD kvs k=some j->j+1<=kvs.length
section
variable {H0 H:Hp}{n:Nat}{rs:List MA.au}{L:List Int}{m:Int}{d q:Addr}{kvs:Oo}{ws:List Int}{sk:Int->Prop}
theorem uQ (num: ∀k v,aM kvs (Sum.inl k)=some v-> ∃j:Nat,v=V.int (j:Nat)){k:Int}(h:has kvs k): ∃j:Nat,nD kvs k=some j/\aM kvs (Sum.inl k)=some (.int (j:Nat)):=by
 obtain⟨v,hv⟩:=L3.mp (show (aM kvs (Sum.inl k)).isSome=true from h)
 obtain⟨j,rfl⟩:=num k v hv
 exact⟨j,Es hv,hv⟩
theorem xR {k:Int}{j:Nat}(h:nD kvs k=some j):has kvs k:=by
 unfold nD at h
 unfold has
 split at h
 .rename_i e; rw[e]; rfl
 .cases h
theorem uF (num: ∀k v,aM kvs (Sum.inl k)=some v-> ∃j:Nat,v=V.int (j:Nat)){k:Int}{j:Nat}(h:nD kvs k=some j):aM kvs (Sum.inl k)=some (.int (j:Nat)):=by
 obtain⟨j',e,hv⟩:=uQ num (xR h)
 rw[h] at e
 cases e
 exact hv
theorem Ey (num: ∀k v,aM kvs (Sum.inl k)=some v-> ∃j:Nat,v=V.int (j:Nat)){k:Int}(h:nD kvs k=none):aM kvs (Sum.inl k)=none:=by
 cases e:aM kvs (Sum.inl k) with
 | none=>rfl
 | some v =>
  obtain⟨j,rfl⟩:=num k v e
  rw[Es e] at h
  cases h
theorem Bg.ne (b:Bg H0 H n rs L m d q kvs ws sk):d≠q:=eV b.hd b.hq (by intro z; cases z)
theorem Bg.pop {mb:Int}{r:List Int}(b:Bg H0 H n rs L m d q kvs (mb::r) sk) (hs: ∀k,¬sk k):Bg H0 (upd H q (.lst (r.map V.int))) n rs L m d q kvs r (fun k=>k=mb) :=
 ⟨(ai b.ne).trans b.hd,af,b.sm.dA b.fq,b.fd,b.fq,b.OQ,b.num,b.ex,b.st,fun x hx=>b.wk x (KD _ hx),(NB.mp b.srt).2,fun k x h w hw=>b.top k x h w (KD _ hw),fun k x h1 h2 h3=>b.cl k x h1 (fun z=>(Kz.mp z).elim h3 h2) (hs k),b.cn,b.bd⟩
theorem Bg.reach {mb:Int}{d0:Nat}{r:MA.au}(b:Bg H0 H n rs L m d q kvs ws (fun k=>k=mb)) (hm:nD kvs mb=some d0) (low: ∀w∈ws,∀y,nD kvs w=some y->d0<=y) (bnd: ∀k x,nD kvs k=some x->x<=d0+1)
  {i:Nat} (hi:rs[i]?=some r) (t:MA.Tl L r) (e:r.1=mb) (u0:0<=r.2.1) (u1:r.2.1 < n) (nh: ¬has kvs r.2.1) :
  Bg H0 (upd (upd H d (.dK (putK kvs (Sum.inl r.2.1) (.int ((d0+1:Nat):Int))))) q (.lst ((ws++[r.2.1]).map V.int))) n rs L m d q (putK kvs (Sum.inl r.2.1) (.int ((d0+1:Nat):Int))) (ws++[r.2.1]) (fun k=>k=mb) /\
  nD (putK kvs (Sum.inl r.2.1) (.int ((d0+1:Nat):Int))) mb=some d0/\(∀w∈ws++[r.2.1],∀y,nD (putK kvs (Sum.inl r.2.1) (.int ((d0+1:Nat):Int))) w=some y->d0<=y)/\(∀k x,nD (putK kvs (Sum.inl r.2.1) (.int ((d0+1:Nat):Int))) k=some x->x<=d0+1):=by
 have old: ∀k j,nD kvs k=some j->k≠r.2.1:=fun k j h z=>nh (z▸xR h)
 have low': ∀w∈ws++[r.2.1],∀y,nD (putK kvs (Sum.inl r.2.1) (.int ((d0+1:Nat):Int))) w=some y->d0<=y:=fun w hw y hy=>by
  rw[jD] at hy
  split at hy
  .cases hy; omega
  .rename_i ne
   rcases KI.mp hw with hw | hw
   .exact low w hw y hy
   .exact absurd (Kt.mp hw) ne
 have bnd': ∀k x,nD (putK kvs (Sum.inl r.2.1) (.int ((d0+1:Nat):Int))) k=some x->x<=d0+1:=fun k x h=>by
  rw[jD] at h
  split at h
  .cases h; exact Ku _
  .exact bnd k x h
 have keep: ∀k j,nD kvs k=some j->nD (putK kvs (Sum.inl r.2.1) (.int ((d0+1:Nat):Int))) k=some j:=fun k j h=>by rw[jD,Kp (old k j h)]; exact h
 refine⟨⟨(ai b.ne).trans af,af,(b.sm.dA b.fd).dA b.fq,b.fd,b.fq,fun k hk=>?_,fun k v hv=>?_,fun k j hj=>?_,keep _ _ b.st,fun w hw=>?_,?_,fun k x h w hw y hy=>?_,fun k x h h1 h2 r' hr' t' e'=>?_,?_,fun k j hj=>?_⟩,keep _ _ hm,low',bnd'⟩
 .rcases cB.mp hk with rfl | hk
  .exact⟨u0,u1⟩
  .exact b.OQ k hk
 .rw[iW] at hv
  split at hv
  .cases hv; exact⟨_,rfl⟩
  .exact b.num k v hv
 .rw[jD] at hj
  split at hj
  .rename_i ek
   cases hj
   obtain⟨ps,p1,p2⟩:=b.ex mb d0 hm
   rw[ek]
   exact⟨i::ps,.cons hi t (e▸p1),by rw[K1,p2]⟩
  .exact b.ex k j hj
 .rcases KI.mp hw with hw | hw
  .exact cB.mpr (.inr (b.wk w hw))
  .exact cB.mpr (.inl (Kt.mp hw))
 .refine List.pairwise_append.mpr ⟨?_,List.pairwise_singleton ..,fun a ha c hc x y hx hy=>?_⟩
  .refine List.Pairwise.imp_of_mem ?_ b.srt
   intro a c ha hc h x y hx hy
   have na:a≠r.2.1:=fun z=>nh (z▸b.wk a ha)
   have nc:c≠r.2.1:=fun z=>nh (z▸b.wk c hc)
   rw[jD,Kp na] at hx
   rw[jD,Kp nc] at hy
   exact h x y hx hy
  .rw[Kt.mp hc,jD,Ks rfl] at hy
   cases hy
   exact bnd' a x hx
 .have:=bnd' k x h
  have:=low' w hw y hy
  omega
 .have nk:k≠r.2.1:=fun z=>h1 (z▸K5 _ (Kt.mpr rfl))
  rw[jD,Kp nk] at h
  obtain⟨y,y1,y2⟩:=b.cl k x h (fun z=>h1 (Lo _ z)) h2 r' hr' t' e'
  exact⟨y,keep _ _ y1,y2⟩
 .have c1:=b.cn
  have c2:=mM (n:=n) (kvs:=kvs) (v:=V.int ((d0+1:Nat):Int)) u0 u1 nh
  have c3:=gj kvs (Sum.inl r.2.1:Key) (V.int ((d0+1:Nat):Int))
  omega
 .have lenP:(putK kvs (Sum.inl r.2.1) (V.int ((d0+1:Nat):Int))).length=kvs.length+1:=by
   rw[yn _ (by unfold has at nh; simpa using nh),KC]
   rfl
  have:=b.bd mb d0 hm
  rw[lenP]
  rw[jD] at hj
  split at hj
  .cases hj; omega
  .have:=b.bd k j hj; omega
theorem Bg.dist (b:Bg H0 H n rs L m d q kvs [] sk) (hs: ∀k,¬sk k):MA.mw rs L m (nD kvs):=by
 refine⟨b.ex,fun v ps h=>?_⟩
 induction h with
 | nil=>exact⟨0,b.st,Ku _⟩
 | @cons i q ps hi t _ ih =>
  obtain⟨x,e,l⟩:=ih
  obtain⟨y,y1,y2⟩:=b.cl _ x e Ll (hs _) q (Kw hi) t rfl
  exact⟨y,y1,by rw[K1]; omega⟩
end
def Ei (ns:List Int) (dv v:Value):Prop:=(ns=[]/\v=dv)\/ ∃M t,v=Value.int M t/\M∈ns/\ ∀x∈ns,x<=M
theorem Cu {prog:Program}{w:World}{A:Around}{R:Result->Shared->Prop}(hA:A.handled=none){l I S:Addr}{its:List Value}{ns:List Int}{dv:Value}(hv: ∀(i:Nat) (v:Value),its.toArray[i]?=some v-> ∃t,v=Value.int (ns.getD i 0) t) (hn:ns.length=its.length)
  (lI:l≠I) (lS:l≠S) (SI:S≠I): ∀(k j:Nat) (s:Shared) (bst:Array Value) (c:Nat),its.length - j=k->j<=its.length->s.heap.IsListIter I l j->s.heap.IsList l its.toArray->s.heap.get? S=some { cls:= .type "list",data:= .seq bst c } ->
  ((bst= #[]/\j=0)\/ ∃b t,bst= #[Value.int b t,Value.int b t]/\b∈ns.take j/\ ∀x∈ns.take j,x<=b) ->
  (∀(v:Value) (h':Heap) (tk:Nat),Ei ns dv v->(∀(b:Addr) (o:Obj),b≠I->b≠S->s.heap.get? b=some o->h'.get? b=some o)->R (.ok (.ret v)) { s with heap:=h',toks:=tk }) ->
  codeAny (model prog w) A (.builtin "max.loop" ⟨[.ref I,.none,.ref S],[(Str.ofString "default",dv)]⟩) R s:=by
 intro k
 induction k with
 | zero =>
  intro j s bst c hk hj hI hl hS hb q
  have ej:j=its.length:=by omega
  refine codeAny_builtin PySem.F.entry_max_loop ?_
  unfold Builtin.«max.loop»
  refine Kv (wpAny_seqItems hS rfl ?_)
  refine Kv (wpAny_tryCatch (wpAny_pyNext_list_end hA hI hl (by simp; omega) fun h' he=>?_))
  have hS':h'.get? S=some { cls:= .type "list",data:= .seq bst c }:=he S _ SI hS
  rcases hb with⟨rfl,rfl⟩ | ⟨b,t,rfl,h1,h2⟩
  .refine Kv (wpAny_rule (KP ?_))
   refine q dv h' s.toks (.inl ⟨M4.mp (by omega),rfl⟩) fun b o n1 _ e=>he b o n1 e
  .refine Kv (wpAny_updateSeq hS' rfl ?_ (by show 2<=sizeLine; decide) (by show 0<=sizeLine+1; exact Lu _))
   refine Kv (wpAny_letGo (KP ?_))
   rw[ej,<-hn,K6] at h1 h2
   exact q _ _ s.toks (.inr ⟨b,t,rfl,h1,h2⟩) fun d o n1 n2 e=>(LV _ _ _ _ n2).trans (he d o n1 e)
 | succ k ih =>
  intro j s bst c hk hj hI hl hS hb q
  have hlt:j < its.length:=by omega
  obtain⟨t0,e0⟩:=hv j its[j] (by simp[hlt])
  refine codeAny_builtin PySem.F.entry_max_loop ?_
  unfold Builtin.«max.loop»
  refine Kv (wpAny_seqItems hS rfl ?_)
  refine Kv (wpAny_tryCatch (wpAny_pyNext_list_item hI hl (x:=its[j]) (by simp[hlt]) fun h' hI' sb=>?_))
  have hS':h'.get? S=some { cls:= .type "list",data:= .seq bst c }:=(sb.2 S SI).trans hS
  have hl':h'.IsList l its.toArray:=by
   obtain⟨o,q1,q2⟩:=hl
   exact⟨o,(sb.2 l lI).trans q1,q2⟩
  rw[e0]
  have tk:ns.take (j+1)=ns.take j++[ns.getD j 0]:=by
   rw[La,KA,Kr (by omega)]
   rfl
  refine Kv (KP ?_)
  rcases hb with⟨rfl,rfl⟩ | ⟨b,t,rfl,h1,h2⟩
  .refine Kv (wpAny_updateSeq hS' rfl ?_ (by show 0<=sizeLine; decide) (by show 2<=sizeLine+1; decide))
   refine KP ⟨rfl,?_⟩
   refine ih 1 _ #[.int (ns.getD 0 0) t0,.int (ns.getD 0 0) t0] (c+1) (by omega) (by omega) (hI'.at fun o e=>(LV _ _ _ _ SI.symm).trans e) ?_ ?_ (.inr ⟨_,t0,rfl,?_,?_⟩) fun v h2 tk2 m fr=>?_
   .obtain⟨o,q1,q2⟩:=hl'
    exact⟨o,(LV _ _ _ _ lS).trans q1,q2⟩
   .exact (LX (Obj.mapSeq fun _=> #[Value.int (ns.getD 0 0) t0,Value.int (ns.getD 0 0) t0]) hS' rfl)
   .rw[tk]; simp
   .rw[tk]; intro x hx; simp at hx; rw[hx]; exact K3 _
   .exact q v h2 tk2 m fun d o n1 n2 e=>fr d o n1 n2 ((LV _ _ _ _ n2).trans ((sb.2 d n1).trans e))
  .refine Kv (wpAny_tryCatch (L9 (Kv (CmpOf.ints_gt (A:=A.under _) (P:=fun i v=> ∃t,v=Value.int (if i=0 then ns.getD j 0 else b) t) (fun i=>if i=0 then ns.getD j 0 else b) (fun i v z=>z) 0 1 _ _ _ _ _ ⟨t0,rfl⟩ ⟨t,rfl⟩ ?_))))
   refine Kv (L9 (LH ?_))
   refine Kv (wpAny_letGo (KP ?_))
   split
   .rename_i cmp
    have cmp:ns.getD j 0 > b:=KY cmp
    refine Kv (wpAny_updateSeq hS' rfl ?_ (by show 2<=sizeLine; decide) (by show 2<=sizeLine+1; decide))
    refine Kv (wpAny_letGo ?_)
    refine KP ⟨rfl,?_⟩
    refine ih (j+1) _ #[.int (ns.getD j 0) t0,.int (ns.getD j 0) t0] c (by omega) (by omega) (hI'.at fun o e=>(LV _ _ _ _ SI.symm).trans e) ?_ ?_ (.inr ⟨_,t0,rfl,?_,?_⟩) fun v h2 tk2 m fr=>?_
    .obtain⟨o,q1,q2⟩:=hl'
     exact⟨o,(LV _ _ _ _ lS).trans q1,q2⟩
    .exact (LX (Obj.mapSeq fun _=> #[Value.int (ns.getD j 0) t0,Value.int (ns.getD j 0) t0]) hS' rfl)
    .rw[tk]; simp
    .rw[tk]
     intro x hx
     rcases KI.mp hx with hx | hx
     .have:=h2 x hx; omega
     .rw[Kt.mp hx]; exact K3 _
    .exact q v h2 tk2 m fun d o n1 n2 e=>fr d o n1 n2 ((LV _ _ _ _ n2).trans ((sb.2 d n1).trans e))
   .rename_i cmp
    have cmp: ¬ns.getD j 0 > b:=Lh (K8 _▸cmp)
    refine Kv (wpAny_letGo ?_)
    refine KP ⟨rfl,?_⟩
    refine ih (j+1) _ #[.int b t,.int b t] c (by omega) (by omega) hI' hl' hS' (.inr ⟨_,t,rfl,?_,?_⟩) fun v h2 tk2 m fr=>?_
    .rw[tk]; exact Lo _ h1
    .rw[tk]
     intro x hx
     rcases KI.mp hx with hx | hx
     .exact h2 x hx
     .rw[Kt.mp hx]; omega
    .exact q v h2 tk2 m fun d o n1 n2 e=>fr d o n1 n2 ((sb.2 d n1).trans e)
theorem Co {prog:Program}{w:World}{A:Around}{E:Value->Shared->Prop}{s:Shared}{l:Addr}{its:List Value}{ns:List Int}{dv:Value}{Q:Value->Shared->Prop}(hA:A.handled=none) (hl:s.heap.IsList l its.toArray) (hv: ∀(i:Nat) (v:Value),its.toArray[i]?=some v-> ∃t,v=Value.int (ns.getD i 0) t) (hn:ns.length=its.length)
  (q: ∀(v:Value) (h':Heap) (tk:Nat),Ei ns dv v->(∀(b:Addr) (o:Obj),s.heap.get? b=some o->h'.get? b=some o)->Q v { s with heap:=h',toks:=tk }) :
  wpAny (model prog w) A (call (.builtin "max") [.ref l] [(Str.ofString "default",dv)]) Q E s:=by
 refine Nn (codeAny_call_builtin PySem.F.plain_max PySem.F.entry_max (KP ?_))
 unfold Builtin.max
 refine Kv (m:=Builtin.Builtins.bindParams _ _ _ _) (KP ?_)
 refine Kv (KP ?_)
 refine Kv (Ms hl ?_)
 refine Kv (wpAny_newList ?_ (Lu _))
 refine KP ⟨rfl,?_⟩
 have hlt:l < s.heap.objs.size:=by obtain⟨o,q,_⟩:=id hl; exact KJ q
 have e1: ∀(b:Addr) (o:Obj),s.heap.get? b=some o->(s.heap.push { cls:=Value.type "list_iterator",data:=Data.fields #[Value.ref l,Value.int 0 0] }).get? b=some o:=fun b o e=>Kx _ e
 have e2: ∀(b:Addr) (o:Obj),s.heap.get? b=some o->((s.heap.push { cls:=Value.type "list_iterator",data:=Data.fields #[Value.ref l,Value.int 0 0] }).push { cls:=Value.type "list",data:=Data.seq #[] 0 }).get? b=some o:=fun b o e=>Kx _ (e1 b o e)
 refine Cu (l:=l) (I:=s.heap.objs.size) (S:=(s.heap.push { cls:=Value.type "list_iterator",data:=Data.fields #[Value.ref l,Value.int 0 0] }).objs.size) (its:=its) (ns:=ns) hA hv hn ?_ ?_ ?_ its.length 0 _ #[] 0 rfl (Lu _) ?_ ?_ ?_ (.inl ⟨rfl,rfl⟩) fun v h' tk m fr=>?_
 .exact K4 hlt
 .rw[LK]; exact K4 (MN hlt)
 .rw[LK]; exact Nat.succ_ne_self _
 .exact⟨_,Kx _ (K9 _ rfl),rfl,rfl⟩
 .obtain⟨o,q1,q2⟩:=hl
  exact⟨o,e2 _ _ q1,q2⟩
 .exact K9 _ rfl
 .refine q v h' tk m fun b o e=>fr b o ?_ ?_ (e2 b o e)
  .exact K4 (KJ e)
  .rw[LK]; exact K4 (MN (KJ e))
section
variable {X:Cx}
inductive B1 (K:N7) (td:TE) (σ:St) (Q:VK) (v:V) (H1:Hp):Prop | mk (a:Addr) (ns:List Int) (e0:v= .ref a) (e1:N5 K H1 a (ns.map V.int)) (q:td σ H1 fun w H2=> ∃d:Int,w= .int d/\N5 K H2 a (ns.map V.int)/\(ns=[]->Q (.int d) H2)/\ ∀M,M∈ns->(∀x∈ns,x<=M)->Q (.int M) H2)
def El (K:N7) (te td:TE):TE:=fun σ H Q=>te σ H fun v H1=>B1 K td σ Q v H1
theorem Fx {e d:Expr}{te td:TE}{np pos kpos:Pos}(hc:X.calm=true) (hg:Gl X "max") (hm:X.mg "max" = none) (he:PE X e te) (hd:PE X d td) (hst:isStar e=false:=by rfl) :
  PE X (.Call (.Name "max" np) [e] [⟨some "default",d,kpos⟩] pos) (El X.K te td):=by
 intro N3 s σ H Q I h
 refine Mi (nG I hg hm boot_max ?_)
 have e1:backTo pos (starEach [e] X.env)=(false,eval e X.env)::backTo pos (starEach [] X.env):=by rw[qF hst]; rfl
 refine callWith_kw ?_ e1 (by rw[e1]; rfl)
 generalize hR:(fun (v:V) (H1:Hp)=>B1 X.K td σ Q v H1)=REST
 have h':te σ H REST:=by rw[<-hR]; exact h
 have hA:=ao he (dD (X:=X)) hst pos N3 s σ H (fun vs H1=>match vs with | [v]=>REST v H1 | _=>False) I h'
 refine Oc hA fun us s1 ⟨vs,H1,I1,r1,q1⟩=>?_
 cases r1 with
 | nil=>exact q1.elim
 | cons r2 r3 =>
  cases r3 with
  | cons _ _=>exact q1.elim
  | nil =>
   have q1':REST _ H1:=q1
   rw[<-hR] at q1'
   obtain⟨a,ns,rfl,ha,q2⟩:=q1'
   cases r2
   show wpAny _ _ (evalAll ((do let v <-eval d X.env; standAt pos; pure v)::(backToKw pos (keywordEach [] X.env)).map (·.2))) _ _ s1
   refine wpAny_evalAll_cons (Kv (Oc (hd N3 s1 σ H1 _ I1 q2) fun u s2 ⟨w,H2,I2,rw2,q3⟩=>Kv (Ma (KP ?_))))
   obtain⟨dd,rfl,ha2,qe,qm⟩:=q3
   obtain⟨td',rfl⟩:=rw2
   refine wpAny_evalAll_nil ?_
   obtain⟨its,rv,pl,hz⟩:=I2.list ha2
   have hl:=rv.length
   rw[Kq] at hl
   refine Co (ns:=ns) (I2.ok.hd hc) pl.isList (oQ rv) (by omega) fun v h' tk m fr=>?_
   have I3:=I2.kept (t':=tk) fr
   rcases m with⟨rfl,rfl⟩ | ⟨M,t,rfl,m1,m2⟩
   .exact⟨.int dd,H2,I3,⟨_,rfl⟩,qe rfl⟩
   .exact⟨.int M,H2,I3,⟨_,rfl⟩,qm M m1 m2⟩
end
end L2
namespace MA
variable {n:Nat}{rs:List au}{L:List Int}{cs:List (Option Int)}{m x:Int}
theorem zR (k: ∀r∈rs,Oh n r) (h:bg n rs=some L) (m0:0<=m) (m1:m < n) (x0:0<=x):(∀r∈rs++[(m,-1,g L m+x)],Oh n r)/\ ∃W,bg n (rs++[(m,-1,g L m+x)])=some W/\W.length=n /\
  ∀v:Nat,v < n->g W (v:Nat)=if 0<=aL n rs m.toNat v then mx (g L (v:Nat)) (g L m+x+aL n rs m.toNat v) else g L (v:Nat):=by
 obtain⟨l1,l2,l3,l4⟩:=cP k h
 have sl:(put L m (g L m+x)).length=n:=mF.trans l1
 have sg: ∀i:Int,0<=i->g (put L m (g L m+x)) i=if i=m then g L m+x else g L i:=fun i i0=>gA m0 (by omega) i0
 have st:bJ rs (it rs n (put L m (g L m+x)))=it rs n (put L m (g L m+x)):=by
  refine xO (f:=fun v=>g L v+x) k sl (fun r hr=>?_) fun i i0 i1=>?_
  .have a:=l2 r hr
   unfold ask at a ⊢
   split at a
   .rename_i e; rw[Ks e]; show r.2.2<=g L r.1+x; omega
   .rename_i e; rw[Kp e]; show g L r.2.1+x+r.2.2<=g L r.1+x; omega
  .rw[sg i i0]
   show _<=g L i+x
   split
   .rename_i e; rw[e]; exact K3 _
   .omega
 have pl:(it rs n (put L m (g L m+x))).length=n:=(pq _ _ _).trans sl
 have pm:Met rs (g (it rs n (put L m (g L m+x)))):=iK k pl st
 have pu:=uR k n _ sl
 have p0: ∀i:Int,0<=i->i < n->0<=g (it rs n (put L m (g L m+x))) i:=fun i i0 i1=>by
  have:=pu i i0 i1
  rw[sg i i0] at this
  have h1:=l3 i i0 i1
  have h2:=l3 m m0 m1
  split at this <;> omega
 have k': ∀r∈rs++[(m,-1,g L m+x)],Oh n r:=fun r hr=>by
  rcases KI.mp hr with hr | hr
  .exact k r hr
  .rw[Kt.mp hr]
   have:=l3 m m0 m1
   exact⟨m0,m1,by show (-1:Int)<= -1; decide,by show (-1:Int) < n; omega,by show 0<=g L m+x; omega⟩
 have pm':Met (rs++[(m,-1,g L m+x)]) (g (it rs n (put L m (g L m+x)))):=fun r hr=>by
  rcases KI.mp hr with hr | hr
  .exact pm r hr
  .rw[Kt.mp hr]
   have:=pu m m0 m1
   rw[sg m m0,Ks rfl] at this
   exact this
 obtain⟨W,eW⟩:=rJ k' p0 pm'
 obtain⟨w1,w2,w3,w4⟩:=cP k' eW
 refine⟨k',W,eW,w1,fun v hv=>?_⟩
 have a:=w4 _ p0 pm' (v:Nat) (by omega) (by omega)
 have wm:Met rs (g W):=fun r hr=>w2 r (Lo _ hr)
 have b:=ug k wm n _ sl (fun i i0 i1=>by
  rw[sg i i0]
  split
  .rename_i e
   rw[e]
   exact w2 _ (K5 _ (Kt.mpr rfl))
  .exact l4 _ w3 wm i i0 i1) (v:Nat) (by omega) (by omega)
 have e:g W (v:Nat)=g (uI n rs L m x) (v:Nat):=Int.le_antisymm a b
 rw[e]
 exact (Fg k h m0 m1 x0).2 v hv
def O2 (w:Int):Option Int->Int
 | none=>0
 | some c=>if c < w then w - c else 0
theorem zG (k: ∀r∈rs,Oh n r) (h:bg n rs=some L) (m0:0<=m) (m1:m < n) (hw:Within n L cs) (hx: ∀(v:Nat) (c:Int),cs.getD v none=some c->c < x){W:List Int}
  (eW: ∀v:Nat,v < n->g W (v:Nat)=if 0<=aL n rs m.toNat v then mx (g L (v:Nat)) (g L m+x+aL n rs m.toNat v) else g L (v:Nat)) {M:Int} (hM: ∀v:Nat,v < n->O2 (g W (v:Nat)) (cs.getD v none)<=M) :
  (M=0->eu n rs L cs m none)/\ ∀stop,stop < n->O2 (g W (stop:Nat)) (cs.getD stop none)=M->(∀j,j < stop->O2 (g W (j:Nat)) (cs.getD j none)≠M)->M≠0->eu n rs L cs m (some (x - M,stop)):=by
 obtain⟨l1,l2,l3,l4⟩:=cP k h
 have sd:=lh k l2
 have em:((m.toNat:Nat):Int)=m:=by omega
 have hm:=l3 m m0 m1
 have reach: ∀(v:Nat) (c:Int),v < n->cs.getD v none=some c->0<=aL n rs m.toNat v->O2 (g W (v:Nat)) (cs.getD v none)=g L m+x+aL n rs m.toNat v - c/\c < g L m+x+aL n rs m.toNat v:=fun v c hv hc hf=>by
  have h1:=hw v c hv hc
  have h2:=hx v c hc
  rw[eW v hv,Ks hf,hc]
  have e:mx (g L (v:Nat)) (g L m+x+aL n rs m.toNat v)=g L m+x+aL n rs m.toNat v:=by unfold mx; split <;> omega
  rw[e]
  unfold O2
  exact⟨Ks (by omega),by omega⟩
 have out: ∀v:Nat,v < n->O2 (g W (v:Nat)) (cs.getD v none)≠0-> ∃c,cs.getD v none=some c/\0<=aL n rs m.toNat v:=fun v hv hne=>by
  cases ec:cs.getD v none with
  | none=>rw[ec] at hne; exact absurd rfl hne
  | some c =>
   refine⟨c,rfl,Lk fun hf=>hne ?_⟩
   have h1:=hw v c hv ec
   rw[eW v hv,Kp hf,ec]
   unfold O2
   exact Kp (by omega)
 refine⟨fun z v c hv hc=>?_,fun stop hs he hf hne=>?_⟩
 .refine Lk fun hf=>?_
  obtain⟨r1,r2⟩:=reach v c hv hc (by omega)
  have:=hM v hv
  omega
 .obtain⟨c,hc,hfar⟩:=out stop hs (by rw[he]; exact hne)
  obtain⟨r1,r2⟩:=reach stop c hs hc hfar
  have s1:=sd m.toNat stop hfar
  rw[em] at s1
  have s2:=hw stop c hs hc
  refine⟨by omega,hs,⟨c,hc,hfar,by omega⟩,fun v c' hv hc' hf'=>?_,fun v c' hv hc' hf'=>?_⟩
  .obtain⟨q1,q2⟩:=reach v c' hv hc' hf'
   have:=hM v hv
   omega
  .obtain⟨q1,q2⟩:=reach v c' (by omega) hc' hf'
   have:=hM v (by omega)
   have:=hf v hv
   omega
end MA
namespace MA
variable {n:Nat}{rs:List au}{L lv:List Int}{m:Int}
structure Lf (n:Nat) (rs:List au) (L:List Int) (m:Int) (lv:List Int):Prop where
 len:lv.length=n
 lo: ∀v:Int,0<=v->v < n->0<=g lv v
 hi: ∀v:Int,0<=v->v < n->g lv v<=99
 ch: ∀v:Int,0<=v->v < n->g lv v < 99-> ∃ps,Tp rs L m v ps/\(ps.length:Int)=g lv v
theorem xp: ∀(ps qs:List Nat),ps.length=qs.length->ps=qs\/nV ps qs\/nV qs ps
 | [],[],_=> .inl rfl
 | p::ps,q::qs,h=>by
  by_cases e:p=q
  .subst e
   rcases xp ps qs (NR h) with z | z | z
   .exact .inl (by rw[z])
   .obtain⟨k,x,y,h1,h2,h3,h4⟩:=z
    exact .inr (.inl ⟨k+1,x,y,h1,h2,h3,fun j hj=>by
     cases j with
     | zero=>rfl
     | succ j=>exact h4 j (by omega)⟩)
   .obtain⟨k,x,y,h1,h2,h3,h4⟩:=z
    exact .inr (.inr ⟨k+1,x,y,h1,h2,h3,fun j hj=>by
     cases j with
     | zero=>rfl
     | succ j=>exact h4 j (by omega)⟩)
  .rcases Nat.lt_or_gt_of_ne e with z | z
   .exact .inr (.inl ⟨0,p,q,rfl,rfl,z,fun j hj=>absurd hj (Lw j)⟩)
   .exact .inr (.inr ⟨0,q,p,rfl,rfl,z,fun j hj=>absurd hj (Lw j)⟩)
theorem dE.one {ps qs:List Nat}(h1:dE rs L m ps) (h2:dE rs L m qs):ps=qs:=by
 rcases h1 with⟨z1,e1⟩ | ⟨z1,c1,s1,m1⟩
 .rcases h2 with⟨z2,e2⟩ | ⟨z2,_⟩
  .rw[e1,e2]
  .omega
 .rcases h2 with⟨z2,_⟩ | ⟨z2,c2,s2,m2⟩
  .omega
  .obtain⟨a1,b1⟩:=m1 qs c2 s2
   obtain⟨a2,b2⟩:=m2 ps c1 s1
   have el:ps.length=qs.length:=by omega
   rcases xp ps qs el with z | z | z
   .exact z
   .exact absurd z (b2 el)
   .exact absurd z (b1 el.symm)
end MA
namespace L2
open PySem PySem.Spec PyProof.Rows
inductive CU (x:V) (vs:List V) (H:Hp) (Q:VK):Prop | mk (l:Addr) (xs:List Str) (y:Str) (j:Nat) (e0:x= .ref l) (e1:vs=[.str y]) (e2:H l=some (.lst (xs.map V.str))) (e3:xs[j]?=some y) (e4:(∀m,m < j->xs[m]?≠some y)) (q:Q (.int (j:Nat)) H)
def EW:V->List V->Hp->VK->Prop:=fun x vs H Q=>CU x vs H Q
theorem lr {X:Cx}:Pk X "list.index" EW:=by
 intro N3 s σ H x vs v us Q I rx rv h
 obtain⟨l,xs,y,j,rfl,rfl,hH,hj,hno,q⟩:=h
 cases rx
 obtain⟨u,rfl,t,rfl⟩:=rv.one
 obtain⟨z,its,n,r,hl,e⟩:=I.m7 hH
 have hlen:its.length=xs.length:=by rw[<-hl,Kq]
 have val: ∀m (hm:m < its.toArray.size),∃k t,xs[m]?=some k/\its.toArray[m]=Value.str k t:=fun m hm=>by
  have hm':m < xs.length:=by simpa [hlen] using hm
  obtain⟨u,hu,t,rfl⟩:=r.get (i:=m) (x:= .str xs[m]) (by rw[KH,Kr hm']; rfl)
  refine⟨xs[m],t,Kr hm',?_⟩
  have:=(Ky.mp hu).2
  simpa using this
 have hjl:j < xs.length:=(Ky.mp hj).1
 let eq:Value->Bool:=fun w=>match w with | .str k _=>k == y | _=>false
 have he: ∀w,w∈its.toArray->MeetsSeq.EqGives w (.str y t) (eq w):=fun w hw=>by
  obtain⟨m,hm,rfl⟩:=M9.mp hw
  obtain⟨k,t',_,e2⟩:=val m hm
  rw[e2]
  exact fun prog w A E s Q h=>NA k t' y t prog w E Q h
 have hjs:j < its.toArray.size:=by rw[KL,hlen]; exact hjl
 refine Mw F.slot_list_index ⟨_,e,rfl⟩ F.entry_list_index (F.args_list_index_2 _ _) (MeetsSeq.list_index l its.toArray n (.str y t) eq he j hjs ?_ ?_ ?_) ⟨e,?_⟩
 .rw[hl] at z
  have:its.length<=sizeLine:=by omega
  have h2:sizeLine < 2 ^ 62:=by decide
  omega
 .obtain⟨k,t',e1,e2⟩:=val j hjs
  rw[e2]
  rw[hj] at e1
  cases e1
  simp[eq]
 .intro m hm hmj
  obtain⟨k,t',e1,e2⟩:=val m hm
  rw[e2]
  have:k≠y:=fun z=>hno m hmj (z▸e1)
  simpa [eq] using this
 .exact⟨.int (j:Nat),H,I.tok _,⟨_,rfl⟩,q⟩
inductive F2 {α β:Type} (R:α->β->Prop):List α->List β->Prop
 | nil:F2 R [] []
 | cons {a b as bs}:R a b->F2 R as bs->F2 R (a::as) (b::bs)
namespace F2
variable {α β:Type}{R S:α->β->Prop}{as as':List α}{bs bs':List β}
theorem length (h:F2 R as bs):as.length=bs.length:=by induction h with
 | nil=>rfl
 | cons _ _ ih=>rw[K1,K1,ih]
theorem get (h:F2 R as bs): ∀ {i:Nat}{a:α},as[i]?=some a-> ∃b,bs[i]?=some b/\R a b:=by
 induction h with
 | nil=>intro i a e; cases e
 | @cons a0 b0 _ _ r _ ih =>
  intro i a e
  cases i with
  | zero=>cases e; exact⟨_,rfl,r⟩
  | succ i=>exact ih e
theorem at' (h:F2 R as bs): ∀ {i:Nat}{b:β},bs[i]?=some b-> ∃a,as[i]?=some a/\R a b:=by
 induction h with
 | nil=>intro i a e; cases e
 | @cons a0 b0 _ _ r _ ih =>
  intro i a e
  cases i with
  | zero=>cases e; exact⟨_,rfl,r⟩
  | succ i=>exact ih e
theorem append (h:F2 R as bs) (h':F2 R as' bs'):F2 R (as++as') (bs++bs'):=by
 induction h with
 | nil=>exact h'
 | cons r _ ih=>exact .cons r ih
theorem take (h:F2 R as bs): ∀k,F2 R (as.take k) (bs.take k):=by
 induction h with
 | nil=>intro k; rw[M5,M5]; exact .nil
 | cons r _ ih =>
  intro k
  cases k with
  | zero=>exact .nil
  | succ k=>exact .cons r (ih k)
theorem drop (h:F2 R as bs): ∀k,F2 R (as.drop k) (bs.drop k):=by
 induction h with
 | nil=>intro k; rw[NI,NI]; exact .nil
 | cons r hh ih =>
  intro k
  cases k with
  | zero=>exact .cons r hh
  | succ k=>exact ih k
theorem imp (h:F2 R as bs) (f: ∀a b,R a b->S a b):F2 S as bs:=by
 induction h with
 | nil=>exact .nil
 | cons r _ ih=>exact .cons (f _ _ r) ih
theorem mem (h:F2 R as bs): ∀ {a:α},a∈as-> ∃b∈bs,R a b:=by
 induction h with
 | nil=>intro a e; cases e
 | cons r _ ih =>
  intro a e
  rcases Kz.mp e with rfl | e
  .exact⟨_,KG,r⟩
  .obtain⟨b,hb,hr⟩:=ih e
   exact⟨b,KD _ hb,hr⟩
end F2
abbrev Mem:=Str×Option Int
abbrev Oi:=Str×Str×Option Str×Int
structure Ob where
 ms:List Mem
 ds:List Oi
 ks:List (List Mem×List Oi)
def ig:Option Str->V
 | none=> .non
 | some s=> .str s
def jG (d:Oi):List V:=[.str d.1,.str d.2.1,ig d.2.2.1,.int d.2.2.2]
def jo (m:Mem):List V:=[.str m.1,fz m.2]
def vh (is:List Addr) (H:Hp) (v:V) (m:Mem):Prop:= ∃t,v= .ref t/\t∈is/\H t=some (.tup (jo m))
def x6 (is:List Addr) (H:Hp) (v:V) (d:Oi):Prop:= ∃t,v= .ref t/\t∈is/\H t=some (.tup (jG d))
def MR (is:List Addr) (H:Hp) (p:Addr) (ms:List Mem):Prop:=p∈is/\ ∃xs,H p=some (.lst xs)/\F2 (vh is H) xs ms
def DR (is:List Addr) (H:Hp) (p:Addr) (ds:List Oi):Prop:=p∈is/\ ∃xs,H p=some (.lst xs)/\F2 (x6 is H) xs ds
def wU (is:List Addr) (H:Hp) (v:V) (k:List Mem×List Oi):Prop:= ∃t p q,v= .ref t/\t∈is/\H t=some (.tup [.ref p,.ref q])/\MR is H p k.1/\DR is H q k.2
section
variable {is is':List Addr}{H H':Hp}{p q:Addr}{ms:List Mem}{ds:List Oi}{v:V}
theorem vh.mono {m:Mem}(h:vh is H v m) (si: ∀b∈is,b∈is') (sh: ∀b o,b∈is->H b=some o->H' b=some o):vh is' H' v m:=by
 obtain⟨t,e,a,b⟩:=h
 exact⟨t,e,si _ a,sh _ _ a b⟩
theorem x6.mono {m:Oi}(h:x6 is H v m) (si: ∀b∈is,b∈is') (sh: ∀b o,b∈is->H b=some o->H' b=some o):x6 is' H' v m:=by
 obtain⟨t,e,a,b⟩:=h
 exact⟨t,e,si _ a,sh _ _ a b⟩
theorem MR.mono (h:MR is H p ms) (si: ∀b∈is,b∈is') (sh: ∀b o,b∈is->H b=some o->H' b=some o):MR is' H' p ms:=by
 obtain⟨a,xs,b,c⟩:=h
 exact⟨si _ a,xs,sh _ _ a b,c.imp fun _ _ r=>r.mono si sh⟩
theorem DR.mono (h:DR is H p ds) (si: ∀b∈is,b∈is') (sh: ∀b o,b∈is->H b=some o->H' b=some o):DR is' H' p ds:=by
 obtain⟨a,xs,b,c⟩:=h
 exact⟨si _ a,xs,sh _ _ a b,c.imp fun _ _ r=>r.mono si sh⟩
theorem wU.mono {k:List Mem×List Oi}(h:wU is H v k) (si: ∀b∈is,b∈is') (sh: ∀b o,b∈is->H b=some o->H' b=some o):wU is' H' v k:=by
 obtain⟨t,p,q,e,a,b,c,d⟩:=h
 exact⟨t,p,q,e,si _ a,sh _ _ a b,c.mono si sh,d.mono si sh⟩
end
abbrev nU (p q r:Addr):List (Str×V):=[("member_rows",.ref p),("demand_rows",.ref q),("kept_deeds",.ref r)]
structure Ot (C:Addr) (H:Hp) (h dx p q r:Addr) (is:List Addr) (kv:List V) (S:Ob):Prop where
 n1:dx≠h
 n2:r≠h
 n3:r≠dx
 nh:h∉is
 nd:dx∉is
 nr:r∉is
 ih:H h=some (.ins C dx (nU p q r))
 id:H dx=some (.own h)
 ir:H r=some (.lst kv)
 ks:F2 (wU is H) kv S.ks
 ms:MR is H p S.ms
 ds:DR is H q S.ds
 al: ∀b∈is,∃o,H b=some o
def HI (C:Addr) (H:Hp) (h:Addr) (os:List Addr) (S:Ob):Prop:= ∃dx p q r is kv,os=h::dx::r::is/\Ot C H h dx p q r is kv S
def wO (os:List Addr) (H H':Hp):Prop:= ∀b o,b∉os->H b=some o->H' b=some o
def cS (C:Addr) (H:Hp) (h:Addr) (os:List Addr) (S:Ob) (H':Hp):Prop:=wO os H H'/\ ∃os',HI C H' h os' S/\ ∀b∈os',b∈os\/H b=none
section
variable {C h dx p q r:Addr}{H H':Hp}{is os:List Addr}{kv:List V}{S:Ob}
theorem Ot.sh (I:Ot C H h dx p q r is kv S){b:Addr}(hb:b∈is):b≠h/\b≠dx/\b≠r:=⟨fun z=>I.nh (z▸hb),fun z=>I.nd (z▸hb),fun z=>I.nr (z▸hb)⟩
theorem Ot.yT (I:Ot C H h dx p q r is kv S) (s: ∀b o,b∈h::dx::r::is->H b=some o->H' b=some o):Ot C H' h dx p q r is kv S:=by
 have si: ∀b o,b∈is->H b=some o->H' b=some o:=fun b o hb e=>s b o (by simp[hb]) e
 exact⟨I.n1,I.n2,I.n3,I.nh,I.nd,I.nr,s _ _ (by simp) I.ih,s _ _ (by simp) I.id,s _ _ (by simp) I.ir,I.ks.imp fun _ _ z=>z.mono (fun _ z=>z) si,I.ms.mono (fun _ z=>z) si,I.ds.mono (fun _ z=>z) si,fun b hb=>by
  obtain⟨o,e⟩:=I.al b hb
  exact⟨o,si b o hb e⟩⟩
theorem Ot.same (I:Ot C H h dx p q r is kv S) (s:ag H H'):Ot C H' h dx p q r is kv S:=I.yT fun b o _ e=>s b o e
theorem HI.grow (i:HI C H h os S) (s: ∀b o,b∈os->H b=some o->H' b=some o):HI C H' h os S:=by
 obtain⟨dx,p,q,r,is,kv,rfl,I⟩:=i
 exact⟨dx,p,q,r,is,kv,rfl,I.yT s⟩
theorem HI.has (i:HI C H h os S): ∀b∈os,∃o,H b=some o:=by
 obtain⟨dx,p,q,r,is,kv,rfl,I⟩:=i
 intro b hb
 rcases Kz.mp hb with rfl | hb
 .exact⟨_,I.ih⟩
 rcases Kz.mp hb with rfl | hb
 .exact⟨_,I.id⟩
 rcases Kz.mp hb with rfl | hb
 .exact⟨_,I.ir⟩
 .exact I.al b hb
theorem cS.of (i:HI C H h os S) (s:ag H H'):cS C H h os S H':=⟨fun b o _ e=>s b o e,os,i.grow fun b o _ e=>s b o e,fun b hb=> .inl hb⟩
theorem Ot.keep {t:Addr}(I:Ot C H h dx p q r is kv S) (nt:H t=none):Ot C (upd (upd H t (.tup [.ref p,.ref q])) r (.lst (kv++[.ref t]))) h dx p q r (t::is) (kv++[.ref t]) ⟨S.ms,S.ds,S.ks++[(S.ms,S.ds)]⟩:=by
 have th:h≠t:=az I.ih nt
 have td:dx≠t:=az I.id nt
 have tr:r≠t:=az I.ir nt
 have si: ∀b o,b∈is->H b=some o->(upd (upd H t (.tup [.ref p,.ref q])) r (.lst (kv++[.ref t]))) b=some o:=fun b o hb e=>(ai (I.sh hb).2.2).trans ((ai (az e nt)).trans e)
 have su: ∀b∈is,b∈t::is:=fun b hb=>KD _ hb
 have ht:(upd (upd H t (.tup [.ref p,.ref q])) r (.lst (kv++[.ref t]))) t=some (.tup [.ref p,.ref q]):=(ai (K2 tr)).trans af
 refine⟨I.n1,I.n2,I.n3,?_,?_,?_,?_,?_,af,?_,I.ms.mono su si,I.ds.mono su si,fun b hb=>?_⟩
 .intro z; rcases Kz.mp z with z | z
  .exact th z
  .exact I.nh z
 .intro z; rcases Kz.mp z with z | z
  .exact td z
  .exact I.nd z
 .intro z; rcases Kz.mp z with z | z
  .exact tr z
  .exact I.nr z
 .exact (ai (K2 I.n2)).trans ((ai th).trans I.ih)
 .exact (ai (K2 I.n3)).trans ((ai td).trans I.id)
 .refine (I.ks.imp fun _ _ z=>z.mono su si).append (.cons ⟨t,p,q,rfl,KG,ht,I.ms.mono su si,I.ds.mono su si⟩ .nil)
 .rcases Kz.mp hb with rfl | hb
  .exact⟨_,ht⟩
  .obtain⟨o,e⟩:=I.al b hb
   exact⟨o,si b o hb e⟩
theorem Ot.put {p' q':Addr}{is':List Addr}{ms':List Mem}{ds':List Oi}(I:Ot C H h dx p q r is kv S) (su: ∀b∈is,b∈is') (new: ∀b∈is',b≠h/\b≠dx/\b≠r) (al: ∀b∈is',∃o,H b=some o) (m:MR is' H p' ms') (d:DR is' H q' ds') :
  Ot C (upd H h (.ins C dx (nU p' q' r))) h dx p' q' r is' kv ⟨ms',ds',S.ks⟩:=by
 have si: ∀b o,b∈is'->H b=some o->(upd H h (.ins C dx (nU p' q' r))) b=some o:=fun b o hb e=>(ai (new b hb).1).trans e
 refine⟨I.n1,I.n2,I.n3,fun z=>(new _ z).1 rfl,fun z=>(new _ z).2.1 rfl,fun z=>(new _ z).2.2 rfl,af,(ai I.n1).trans I.id,(ai I.n2).trans I.ir,?_,m.mono (fun _ z=>z) si,d.mono (fun _ z=>z) si,fun b hb=>?_⟩
 .exact I.ks.imp fun _ _ z=>z.mono su fun b o hb e=>si b o (su b hb) e
 .obtain⟨o,e⟩:=al b hb
  exact⟨o,si b o hb e⟩
theorem Ot.next (I:Ot C H h dx p q r is kv S){H':Hp}{p' q':Addr}{is':List Addr}{kv':List V}{S':Ob}(I':Ot C H' h dx p' q' r is' kv' S') (so: ∀b o,b≠h->b≠r->H b=some o->H' b=some o) (new: ∀b∈is',b∈is\/H b=none):cS C H h (h::dx::r::is) S' H':=by
 refine⟨fun b o hb e=>so b o (fun z=>hb (by simp[z])) (fun z=>hb (by simp[z])) e,_,⟨dx,p',q',r,is',kv',rfl,I'⟩,fun b hb=>?_⟩
 simp only[Kz] at hb ⊢
 rcases hb with rfl | rfl | rfl | hb
 .exact .inl (.inl rfl)
 .exact .inl (.inr (.inl rfl))
 .exact .inl (.inr (.inr (.inl rfl)))
 .rcases new b hb with z | z
  .exact .inl (.inr (.inr (.inr z)))
  .exact .inr z
end
def refs (xs:List V):List Addr:=xs.filterMap fun v=>match v with
 | .ref t=>some t
 | _=>none
theorem xT {xs:List V}{t:Addr}:t∈refs xs↔V.ref t∈xs:=by
 unfold refs
 rw[ME]
 constructor
 .rintro⟨v,hv,e⟩
  cases v <;> simp at e
  subst e
  exact hv
 .exact fun h=>⟨_,h,rfl⟩
section
variable {C h dx p q r:Addr}{H:Hp}{is:List Addr}{kv:List V}{S:Ob}
def pJ {α:Type}(f:α->List V) (is:List Addr) (H3 H4:Hp) (v:V) (m:α):Prop:= ∃t,v= .ref t/\(t∈is\/H3 t=none)/\H4 t=some (.tup (f m))
theorem Ot.rows {α:Type}{f:α->List V}(I:Ot C H h dx p q r is kv S){H4:Hp}(s4: ∀b o,b∈is->H b=some o->H4 b=some o){p':Addr}(np:H p'=none){xs:List V}(hp:H4 p'=some (.lst xs)){ms:List α}(hx:F2 (pJ f is H H4) xs ms) :
  (∀b∈p'::(refs xs++is),b≠h/\b≠dx/\b≠r)/\(∀b∈p'::(refs xs++is),∃o,H4 b=some o)/\(∀b∈p'::(refs xs++is),b∈is\/H b=none)/\F2 (fun v m=> ∃t,v= .ref t/\t∈p'::(refs xs++is)/\H4 t=some (.tup (f m))) xs ms:=by
 have fr: ∀b,H b=none->b≠h/\b≠dx/\b≠r:=fun b e=>⟨fun z=>(by rw[z,I.ih] at e; cases e),fun z=>(by rw[z,I.id] at e; cases e),fun z=>(by rw[z,I.ir] at e; cases e)⟩
 have key: ∀b∈p'::(refs xs++is),(b∈is\/H b=none)/\ ∃o,H4 b=some o:=fun b hb=>by
  rcases Kz.mp hb with rfl | hb
  .exact⟨.inr np,_,hp⟩
  rcases KI.mp hb with hb | hb
  .obtain⟨m,_,t,e,ht,hh⟩:=hx.mem (xT.mp hb)
   cases e
   exact⟨ht,_,hh⟩
  .obtain⟨o,e⟩:=I.al b hb
   exact⟨.inl hb,o,s4 _ _ hb e⟩
 refine⟨fun b hb=>?_,fun b hb=>(key b hb).2,fun b hb=>(key b hb).1,?_⟩
 .rcases (key b hb).1 with z | z
  .exact I.sh z
  .exact fr b z
 .have: ∀ {ys:List V}{zs:List α},F2 (pJ f is H H4) ys zs->(∀v∈ys,v∈xs)->F2 (fun v m=> ∃t,v= .ref t/\t∈p'::(refs xs++is)/\H4 t=some (.tup (f m))) ys zs:=by
   intro ys zs hy
   induction hy with
   | nil=>exact fun _=> .nil
   | @cons v m _ _ r _ ih =>
    intro sub
    obtain⟨t,rfl,_,hh⟩:=r
    exact .cons ⟨t,rfl,KD _ (Lo _ (xT.mpr (sub _ KG))),hh⟩ (ih fun v hv=>sub v (KD _ hv))
  exact this hx fun _ z=>z
theorem Ot.zV (I:Ot C H h dx p q r is kv S){H2:Hp}(s2:ag H H2){t:Addr}(nt:H2 t=none){H4:Hp}(s4:ag (upd (upd H2 t (.tup [.ref p,.ref q])) r (.lst (kv++[.ref t]))) H4){p':Addr}(np:H p'=none){xs:List V}(hp:H4 p'=some (.lst xs)){ms:List Mem}
  (hx:F2 (pJ jo is H H4) xs ms):cS C H h (h::dx::r::is) ⟨ms,S.ds,S.ks++[(S.ms,S.ds)]⟩ (upd H4 h (.ins C dx (nU p' q r))):=by
 have I3:=(I.same s2).keep nt
 have nt0:=s2.free nt
 have s3: ∀b o,b≠r->H b=some o->(upd (upd H2 t (.tup [.ref p,.ref q])) r (.lst (kv++[.ref t]))) b=some o:=fun b o n e=>(ai n).trans ((ai (az (s2 _ _ e) nt)).trans (s2 _ _ e))
 obtain⟨a1,a2,a3,a4⟩:=I.rows (fun b o hb e=>s4 _ _ (s3 b o (I.sh hb).2.2 e)) np hp hx
 have lift: ∀b∈p'::(refs xs++(t::is)),b=t\/b∈p'::(refs xs++is):=fun b hb=>by
  simp only[Kz,KI] at hb ⊢
  rcases hb with z | z | z | z
  .exact .inr (.inl z)
  .exact .inr (.inr (.inl z))
  .exact .inl z
  .exact .inr (.inr (.inr z))
 have a1': ∀b∈p'::(refs xs++(t::is)),b≠h/\b≠dx/\b≠r:=fun b hb=>by
  rcases lift b hb with z | z
  .rw[z]; exact⟨(az I.ih nt0).symm,(az I.id nt0).symm,(az I.ir nt0).symm⟩
  .exact a1 b z
 have a2': ∀b∈p'::(refs xs++(t::is)),∃o,H4 b=some o:=fun b hb=>by
  rcases lift b hb with z | z
  .rw[z]; obtain⟨o,e⟩:=I3.al t KG; exact⟨o,s4 _ _ e⟩
  .exact a2 b z
 have sub: ∀b∈p'::(refs xs++is),b∈p'::(refs xs++(t::is)):=fun b hb=>by
  simp only[Kz,KI] at hb ⊢
  rcases hb with z | z | z
  .exact .inl z
  .exact .inr (.inl z)
  .exact .inr (.inr (.inr z))
 have a4':=a4.imp (S:=fun v m=> ∃t',v=V.ref t'/\t'∈p'::(refs xs++(t::is))/\H4 t'=some (.tup (jo m))) fun v m ⟨b,e,z,w⟩=>⟨b,e,sub b z,w⟩
 have su3: ∀b∈t::is,b∈p'::(refs xs++(t::is)):=fun b hb=>KD _ (K5 _ hb)
 have su:=su3
 have I5:=(I3.same s4).put (p':=p') (q':=q) (ms':=ms) (ds':=S.ds) su a1' a2' ⟨KG,xs,hp,a4'⟩ ((I3.same s4).ds.mono su3 fun _ _ _ e=>e)
 refine I.next I5 (fun b o n1 n2 e=>(ai n1).trans (s4 _ _ (s3 b o n2 e))) fun b hb=>?_
 rcases lift b hb with z | z
 .rw[z]; exact .inr nt0
 .exact a3 b z
theorem Ot.Ek (I:Ot C H h dx p q r is kv S){H2:Hp}(s2:ag H H2){t:Addr}(nt:H2 t=none){H4:Hp}(s4:ag (upd (upd H2 t (.tup [.ref p,.ref q])) r (.lst (kv++[.ref t]))) H4){q':Addr}(np:H q'=none){xs:List V}(hp:H4 q'=some (.lst xs)){ds:List Oi}
  (hx:F2 (pJ jG is H H4) xs ds):cS C H h (h::dx::r::is) ⟨S.ms,ds,S.ks++[(S.ms,S.ds)]⟩ (upd H4 h (.ins C dx (nU p q' r))):=by
 have I3:=(I.same s2).keep nt
 have nt0:=s2.free nt
 have s3: ∀b o,b≠r->H b=some o->(upd (upd H2 t (.tup [.ref p,.ref q])) r (.lst (kv++[.ref t]))) b=some o:=fun b o n e=>(ai n).trans ((ai (az (s2 _ _ e) nt)).trans (s2 _ _ e))
 obtain⟨a1,a2,a3,a4⟩:=I.rows (fun b o hb e=>s4 _ _ (s3 b o (I.sh hb).2.2 e)) np hp hx
 have lift: ∀b∈q'::(refs xs++(t::is)),b=t\/b∈q'::(refs xs++is):=fun b hb=>by
  simp only[Kz,KI] at hb ⊢
  rcases hb with z | z | z | z
  .exact .inr (.inl z)
  .exact .inr (.inr (.inl z))
  .exact .inl z
  .exact .inr (.inr (.inr z))
 have a1': ∀b∈q'::(refs xs++(t::is)),b≠h/\b≠dx/\b≠r:=fun b hb=>by
  rcases lift b hb with z | z
  .rw[z]; exact⟨(az I.ih nt0).symm,(az I.id nt0).symm,(az I.ir nt0).symm⟩
  .exact a1 b z
 have a2': ∀b∈q'::(refs xs++(t::is)),∃o,H4 b=some o:=fun b hb=>by
  rcases lift b hb with z | z
  .rw[z]; obtain⟨o,e⟩:=I3.al t KG; exact⟨o,s4 _ _ e⟩
  .exact a2 b z
 have sub: ∀b∈q'::(refs xs++is),b∈q'::(refs xs++(t::is)):=fun b hb=>by
  simp only[Kz,KI] at hb ⊢
  rcases hb with z | z | z
  .exact .inl z
  .exact .inr (.inl z)
  .exact .inr (.inr (.inr z))
 have a4':=a4.imp (S:=fun v m=> ∃t',v=V.ref t'/\t'∈q'::(refs xs++(t::is))/\H4 t'=some (.tup (jG m))) fun v m ⟨b,e,z,w⟩=>⟨b,e,sub b z,w⟩
 have su3: ∀b∈t::is,b∈q'::(refs xs++(t::is)):=fun b hb=>KD _ (K5 _ hb)
 have su:=su3
 have I5:=(I3.same s4).put (p':=p) (q':=q') (ms':=S.ms) (ds':=ds) su a1' a2' ((I3.same s4).ms.mono su3 fun _ _ _ e=>e) ⟨KG,xs,hp,a4'⟩
 refine I.next I5 (fun b o n1 n2 e=>(ai n1).trans (s4 _ _ (s3 b o n2 e))) fun b hb=>?_
 rcases lift b hb with z | z
 .rw[z]; exact .inr nt0
 .exact a3 b z
theorem Ot.back (I:Ot C H h dx p q r is kv S){ks:List (List Mem×List Oi)}{k:List Mem×List Oi}(e:S.ks=ks++[k]): ∃kv' t p' q',kv=kv'++[.ref t]/\H t=some (.tup [.ref p',.ref q'])/\t≠r/\t≠h /\
  cS C H h (h::dx::r::is) ⟨k.1,k.2,ks⟩ (upd (upd H r (.lst kv')) h (.ins C dx (nU p' q' r))):=by
 have hk:=I.ks
 rw[e] at hk
 have hl:=hk.length
 rw[KC,M8] at hl
 obtain⟨v,hv,t,p',q',rfl,ti,ht,hm,hd⟩:=hk.at' (i:=ks.length) (b:=k) (by simp)
 have ekv:kv=kv.take ks.length++[.ref t]:=by
  have h1:kv.drop ks.length=[.ref t]:=by
   rw[List.drop_eq_getElem_cons (by omega),List.drop_eq_nil_of_le (by omega)]
   have:=(Ky.mp hv).2
   rw[this]
  rw[<-h1,List.take_append_drop]
 have hk2:=hk.take ks.length
 rw[Np (Ku _),K6] at hk2
 have si: ∀b o,b∈is->H b=some o->(upd H r (.lst (kv.take ks.length))) b=some o:=fun b o hb e=>(ai (I.sh hb).2.2).trans e
 have I2:Ot C (upd H r (.lst (kv.take ks.length))) h dx p q r is (kv.take ks.length) ⟨S.ms,S.ds,ks⟩ :=
  ⟨I.n1,I.n2,I.n3,I.nh,I.nd,I.nr,(ai (K2 I.n2)).trans I.ih,(ai (K2 I.n3)).trans I.id,af,hk2.imp fun _ _ z=>z.mono (fun _ z=>z) si,I.ms.mono (fun _ z=>z) si,I.ds.mono (fun _ z=>z) si,fun b hb=>by
   obtain⟨o,e⟩:=I.al b hb
   exact⟨o,si b o hb e⟩⟩
 refine⟨kv.take ks.length,t,p',q',ekv,ht,(I.sh ti).2.2,(I.sh ti).1,?_⟩
 have I3:=I2.put (p':=p') (q':=q') (is':=is) (fun _ z=>z) (fun b hb=>I.sh hb) I2.al (hm.mono (fun _ z=>z) si) (hd.mono (fun _ z=>z) si)
 exact I.next I3 (fun b o n1 n2 e=>(ai n1).trans ((ai n2).trans e)) fun b hb=> .inl hb
end
theorem sx {p q r:Addr}{H H2:Hp}{kv:List V}(s2:ag H H2){t b:Addr}(nt:H2 t=none) (e:(upd (upd H2 t (.tup [.ref p,.ref q])) r (.lst (kv++[.ref t]))) b=none):H b=none:=by
 cases eb:H b with
 | none=>rfl
 | some o =>
  by_cases n:b=r
  .rw[n,af] at e; cases e
  .rw[ai n,ai (az (s2 _ _ eb) nt),s2 _ _ eb] at e; cases e
def aA (S:Ob):List Str:=S.ms.map (·.1)
def bt (S:Ob):List Str:=S.ds.map (·.1)
inductive bZ
 | member (y:Str) | plain (y m:Str) (p e o:Int) | link (y m b:Str) (mo:Int) | top (m:Str) (wd:Int) | back | sM (m:Str) | sD (y:Str) | sT (m:Str)
def iM:bZ->List V
 | .member y=>[.str "member",.str y]
 | .plain y m p e o=>[.str "plain",.str y,.str m,.int p,.int e,.int o]
 | .link y m b mo=>[.str "link",.str y,.str m,.str b,.int mo]
 | .top m wd=>[.str "top",.str m,.int wd]
 | .back=>[.str "back"]
 | .sM m=>[.str "strike",.str "member",.str m]
 | .sD y=>[.str "strike",.str "demand",.str y]
 | .sT m=>[.str "strike",.str "top",.str m]
def cA (p e o:Int):Int:=(p*e+o - 1) / o
def Ou (p e o:Int):Prop:=0<=p/\p<=999/\1<=e/\e<=999/\1<=o/\o<=999
def OX:bZ->Prop
 | .member y=>Nm y
 | .plain y m p e o=>Nm y/\Nm m/\Ou p e o
 | .link y m b mo=>Nm y/\Nm m/\Nm b/\0<=mo/\mo<=99
 | .top m wd=>Nm m/\0<=wd/\wd<=99999
 | .back=>True
 | .sM m=>Nm m
 | .sD y=>Nm y
 | .sT m=>Nm m
inductive Due
 | ok | unknown | inUse | tooMuch | full | nothing
deriving DecidableEq
def wordOf:Due->Str
 | .ok=> ""
 | .unknown=> "unknown"
 | .inUse=> "in use"
 | .tooMuch=> "too much"
 | .full=> "full"
 | .nothing=> "nothing back"
def bw (ms:List Mem) (m:Str):Option Int:=match ms.find? (fun x=>x.1 == m) with
 | some x=>x.2
 | none=>none
def rz (y:Str) (ds:List Oi):Bool:=ds.any fun d=>decide (d.2.1=y) || decide (d.2.2.1=some y)
def aK (S:Ob):bZ->Due
 | .member y=>if y∈aA S then .inUse else if 12<=S.ms.length then .full else .ok
 | .plain y m p e o=>if m∉aA S then .unknown else if y∈bt S then .inUse else if 99999 < cA p e o then .tooMuch else if 24<=S.ds.length then .full else .ok
 | .link y m b _=>if m∉aA S\/b∉aA S then .unknown else if y∈bt S then .inUse else if 24<=S.ds.length then .full else .ok
 | .top m _=>if m∉aA S then .unknown else if bw S.ms m≠none then .inUse else .ok
 | .back=>if S.ks=[] then .nothing else .ok
 | .sM m=>if m∉aA S then .unknown else if rz m S.ds=true then .inUse else .ok
 | .sD y=>if y∉bt S then .unknown else .ok
 | .sT m=>if bw S.ms m=none then .unknown else .ok
def eC (ms:List Mem) (m:Str) (o:Option Int):List Mem:=ms.map fun x=>if x.1=m then (m,o) else x
def ez (S:Ob):bZ->Ob
 | .member y=>⟨S.ms++[(y,none)],S.ds,S.ks++[(S.ms,S.ds)]⟩
 | .plain y m p e o=>⟨S.ms,S.ds++[(y,m,none,cA p e o)],S.ks++[(S.ms,S.ds)]⟩
 | .link y m b mo=>⟨S.ms,S.ds++[(y,m,some b,mo)],S.ks++[(S.ms,S.ds)]⟩
 | .top m wd=>⟨eC S.ms m (some wd),S.ds,S.ks++[(S.ms,S.ds)]⟩
 | .back=>match S.ks.getLast? with
  | some k=>⟨k.1,k.2,S.ks.dropLast⟩
  | none=>S
 | .sM m=>⟨S.ms.filter fun x=>decide (x.1≠m),S.ds,S.ks++[(S.ms,S.ds)]⟩
 | .sD y=>⟨S.ms,S.ds.filter fun x=>decide (x.1≠y),S.ks++[(S.ms,S.ds)]⟩
 | .sT m=>⟨eC S.ms m none,S.ds,S.ks++[(S.ms,S.ds)]⟩
def dc (S:Ob) (d:bZ):Ob:=if aK S d= .ok then ez S d else S
structure OI (ms:List Mem) (ds:List Oi):Prop where
 ml:ms.length<=12
 dl:ds.length<=24
 mn:(ms.map (·.1)).Nodup
 dn:(ds.map (·.1)).Nodup
 mN: ∀y∈ms.map (·.1),Nm y
 dN: ∀y∈ds.map (·.1),Nm y
structure Gd (S:Ob):Prop where
 now:OI S.ms S.ds
 ks: ∀k∈S.ks,OI k.1 k.2
 bot:(S.ks=[]->S.ms=[]/\S.ds=[])/\ ∀k,S.ks[0]?=some k->k=([],[])
theorem rn {α:Type}{l:List α}{x:α}(h:l.Nodup) (n:x∉l):(l++[x]).Nodup:=by
 rw[LR]
 exact⟨h,by simp,fun a ha b hb e=>by rw[Kt] at hb; subst hb; subst e; exact n ha⟩
theorem fc {ms:List Mem}{m:Str}{o:Option Int}:(eC ms m o).map (·.1)=ms.map (·.1):=by
 unfold eC
 rw[LF]
 refine Mb fun x _=>?_
 show (if x.1=m then (m,o) else x).1=x.1
 split
 .rename_i e; exact e.symm
 .rfl
theorem o9 {α β:Type}{f:α->β}{p:α->Bool}{l:List α}: ∀y∈(l.filter p).map f,y∈l.map f:=fun y hy=>by
 obtain⟨x,hx,rfl⟩:=Lq.mp hy
 exact Lq.mpr ⟨x,(Li.mp hx).1,rfl⟩
theorem rL {α β:Type}{f:α->β}{p:α->Bool}{l:List α}(h:(l.map f).Nodup):((l.filter p).map f).Nodup :=
 List.Pairwise.sublist (List.Sublist.map f List.filter_sublist) h
theorem AU {α:Type}{l:List α}{x:α}:l++[x]≠[]:=by simp
theorem kh {S:Ob}(g:Gd S){ms:List Mem}{ds:List Oi}(n:OI ms ds):Gd ⟨ms,ds,S.ks++[(S.ms,S.ds)]⟩:=by
 refine⟨n,fun k hk=>?_,fun z=>absurd z AU,fun k hk=>?_⟩
 .rcases KI.mp hk with hk | hk
  .exact g.ks k hk
  .rw[Kt.mp hk]; exact g.now
 .cases e:S.ks with
  | nil =>
   have hk:(S.ks++[(S.ms,S.ds)])[0]?=some k:=hk
   rw[e] at hk
   cases hk
   obtain⟨h1,h2⟩:=g.bot.1 e
   rw[h1,h2]
  | cons k0 r =>
   have hk:(S.ks++[(S.ms,S.ds)])[0]?=some k:=hk
   refine g.bot.2 k ?_
   rw[e] at hk ⊢
   exact hk
theorem y7 {S:Ob}{d:bZ}(g:Gd S) (ok:OX d) (due:aK S d= .ok):Gd (ez S d):=by
 obtain⟨⟨ml,dl,mn,dn,mN,dN⟩,gk,gb⟩:=id g
 cases d with
 | member y =>
  rw[aK] at due
  split at due
  .cases due
  rename_i hm
  split at due
  .cases due
  rename_i hl
  refine kh g ⟨by rw[KC]; show S.ms.length+1<=12; omega,dl,?_,dn,?_,dN⟩
  .rw[KO]; exact rn mn hm
  .intro z hz
   rw[KO] at hz
   rcases KI.mp hz with hz | hz
   .exact mN z hz
   .rw[Kt.mp hz]; exact ok
 | plain y m p e o =>
  rw[aK] at due
  split at due
  .cases due
  split at due
  .cases due
  rename_i hn
  split at due
  .cases due
  split at due
  .cases due
  rename_i hl
  refine kh g ⟨ml,by rw[KC]; show S.ds.length+1<=24; omega,mn,?_,mN,?_⟩
  .rw[KO]; exact rn dn hn
  .intro z hz
   rw[KO] at hz
   rcases KI.mp hz with hz | hz
   .exact dN z hz
   .rw[Kt.mp hz]; exact ok.1
 | link y m b mo =>
  rw[aK] at due
  split at due
  .cases due
  split at due
  .cases due
  rename_i hn
  split at due
  .cases due
  rename_i hl
  refine kh g ⟨ml,by rw[KC]; show S.ds.length+1<=24; omega,mn,?_,mN,?_⟩
  .rw[KO]; exact rn dn hn
  .intro z hz
   rw[KO] at hz
   rcases KI.mp hz with hz | hz
   .exact dN z hz
   .rw[Kt.mp hz]; exact ok.1
 | top m wd=>exact kh g ⟨by unfold eC; rw[Kq]; exact ml,dl,by rw[fc]; exact mn,dn,by rw[fc]; exact mN,dN⟩
 | sT m=>exact kh g ⟨by unfold eC; rw[Kq]; exact ml,dl,by rw[fc]; exact mn,dn,by rw[fc]; exact mN,dN⟩
 | sM m=>exact kh g ⟨KR (Lp _ _) ml,dl,rL mn,dn,fun y hy=>mN y (o9 y hy),dN⟩
 | sD y=>exact kh g ⟨ml,KR (Lp _ _) dl,mn,rL dn,mN,fun z hz=>dN z (o9 z hz)⟩
 | back =>
  show Gd (match S.ks.getLast? with | some k=>⟨k.1,k.2,S.ks.dropLast⟩ | none=>S)
  rcases Mp S.ks with hk | ⟨ks,k,hk⟩
  .rw[hk]; exact g
  .have hk:S.ks=ks++[k]:=by rw[hk,Mq]
   rw[show S.ks.getLast?=some k from by rw[hk]; simp,show S.ks.dropLast=ks from by rw[hk]; simp]
   refine⟨gk k (by rw[hk]; simp),fun k' hk'=>gk k' (by rw[hk]; simp[hk']),fun z=>?_,fun k' hk'=>?_⟩
   .have z:ks=[]:=z
    have:=gb.2 k (by rw[hk,z]; rfl)
    rw[this]
    exact⟨rfl,rfl⟩
   .refine gb.2 k' ?_
    have hk':ks[0]?=some k':=hk'
    cases ks with
    | nil=>cases hk'
    | cons a b=>rw[hk]; exact hk'
theorem Ez {S:Ob}{d:bZ}(g:Gd S) (ok:OX d):Gd (dc S d):=by
 unfold dc
 split
 .rename_i e; exact y7 g ok e
 .exact g
theorem E2 {S:Ob}{d:bZ}:(dc S d).ks.length<=S.ks.length+1:=by
 unfold dc
 split
 .cases d with
  | back =>
   show (match S.ks.getLast? with | some k=>(⟨k.1,k.2,S.ks.dropLast⟩:Ob) | none=>S).ks.length<=_
   split
   .show S.ks.dropLast.length<=_; rw[List.length_dropLast]; omega
   .omega
  | _=>show (S.ks++[(S.ms,S.ds)]).length<=_; rw[KC]; exact Ku _
 .omega
theorem uw {α:Type}{f:α->Str}: ∀ {l:List α}{j:Nat}{y:Str},(l.map f).Nodup->(l.map f)[j]?=some y->l.take j++l.drop (j+1)=l.filter fun x=>decide (f x≠y)
 | [],j,y,_,h=>by cases h
 | x::l,0,y,nd,h=>by
  have e:f x=y:=KS h
  have nx:f x∉l.map f:=(Ls.mp nd).1
  show l=_
  rw[Md,Kp (by simp[e])]
  symm
  rw[List.filter_eq_self]
  intro z hz
  refine KQ fun q=>nx ?_
  rw[e,<-q]
  exact Lq.mpr ⟨z,hz,rfl⟩
 | x::l,j+1,y,nd,h=>by
  have nx:f x∉l.map f:=(Ls.mp nd).1
  have h':(l.map f)[j]?=some y:=h
  have ne:f x≠y:=fun q=>nx (q▸Kw h')
  show x::(l.take j++l.drop (j+1))=_
  rw[uw (Ls.mp nd).2 h',Md,Ks (KQ ne)]
theorem uq: ∀ {l:List Mem}{j:Nat}{m:Str}{o:Option Int},(l.map (·.1)).Nodup->(l.map (·.1))[j]?=some m->l.take j++[(m,o)]++l.drop (j+1)=eC l m o
 | [],j,m,o,_,h=>by cases h
 | x::l,0,m,o,nd,h=>by
  have e:x.1=m:=KS h
  have nx:x.1∉l.map (·.1):=(Ls.mp nd).1
  show (m,o)::l=(if x.1=m then (m,o) else x)::l.map _
  rw[Ks e]
  congr 1
  symm
  have q:l.map (fun x=>if x.1=m then (m,o) else x)=l.map fun x=>x:=Mb fun z hz=>Kp fun q=>nx (by rw[e,<-q]; exact Lq.mpr ⟨z,hz,rfl⟩)
  rw[q,List.map_id']
 | x::l,j+1,m,o,nd,h=>by
  have nx:x.1∉l.map (·.1):=(Ls.mp nd).1
  have h':(l.map (·.1))[j]?=some m:=h
  have ne:x.1≠m:=fun q=>nx (q▸Kw h')
  show x::(l.take j++[(m,o)]++l.drop (j+1))=(if x.1=m then (m,o) else x)::eC l m o
  rw[Kp ne,uq (Ls.mp nd).2 h']
theorem oS: ∀ {l:List Mem}{j:Nat}{m:Str}{o:Option Int},l[j]?=some (m,o)->(∀i,i < j->(l.map (·.1))[i]?≠some m)->bw l m=o
 | [],j,m,o,h,_=>by cases h
 | x::l,0,m,o,h,_=>by
  have e:x=(m,o):=KS h
  unfold bw
  rw[e,LW (by simp)]
 | x::l,j+1,m,o,h,hf=>by
  have ne:x.1≠m:=fun q=>hf 0 (NW _) (by show some x.1=some m; rw[q])
  have:=oS (l:=l) (j:=j) h fun i hi=>hf (i+1) (by omega)
  unfold bw at this ⊢
  rw[Ly (by simpa using ne)]
  exact this
theorem tM {l:List Mem}{m:Str}(h:m∉l.map (·.1)):bw l m=none:=by
 unfold bw
 rw[Mg.mpr fun x hx=>by
  simp only[beq_iff_eq]
  exact fun q=>h (Lq.mpr ⟨x,hx,q⟩)]
section
variable {X:Cx}{pos:Pos}
inductive HE (i j k:Nat) (D:Ends) (σ:St) (vs:List V) (H1:Hp):Prop | mk (v w u:_) (e0:vs=[v,w,u]) (q:D.nx (((σ.set k (some u)).set j (some w)).set i (some v)) H1)
def IZ (i j k:Nat) (ta:TA):TS:=fun D σ H=>ta σ H fun vs H1=>HE i j k D σ vs H1
theorem FO {i j k:Nat}{x y z:Str}{a b c:Expr}{ta:TA}{px py pz pt:Pos}{kt k2 pt2}(hc:X.calm=true) (hN:X.N.Nodup) (hi:X.N[i]?=some x) (hj:X.N[j]?=some y) (hk:X.N[k]?=some z)
  (hx:X.env.scope.names.lookup x=some .local) (hy:X.env.scope.names.lookup y=some .local) (hz:X.env.scope.names.lookup z=some .local) (ha:PA X [a,b,c] ta)
  (hw:swappedStores [.Tuple [.Name x px,.Name y py,.Name z pz] kt pt] (.Tuple [a,b,c] k2 pt2) X.env=pure (some [x,y,z]))
  (hs:swapsWithSole [.Tuple [.Name x px,.Name y py,.Name z pz] kt pt] (.Tuple [a,b,c] k2 pt2) pos.line X.env=pure false:=by rfl) :
  PS X (.Assign [.Tuple [.Name x px,.Name y py,.Name z pz] kt pt] (.Tuple [a,b,c] k2 pt2) pos) (IZ i j k ta):=by
 intro N3 s σ H D I h
 rw[exec_Assign_arm]
 refine Kv (Ma ?_)
 rw[hs]
 refine Kv (KP ?_)
 rw[Kp (by decide)]
 refine Kv (Tuple_ (Oc (ha _ N3 s σ H _ I h) fun us s1 ⟨vs,H1,I1,r1,q1⟩=>?_))
 obtain⟨v,w,u,e1,q1⟩:=q1
 subst e1
 obtain⟨u1,u2,u3,rfl,rv,rw',ru⟩: ∃u1 u2 u3,us=[u1,u2,u3]/\RelV v u1/\RelV w u2/\RelV u u3:=by
  cases r1 with
  | cons p q =>
   cases q with
   | cons p' q' =>
    cases q' with
    | cons p'' q'' =>
     cases q''
     exact⟨_,_,_,rfl,p,p',p''⟩
 refine LU ?_ (by show 3<=sizeLine; decide)
 have I2:Inv X N3 σ H1 { s1 with heap:=s1.heap.push { cls:= .type "tuple",data:= .seq [u1,u2,u3].toArray } }:=I1.kept (t':=s1.toks) fun b o e=>Kx _ e
 rw[hw]
 refine Kv (KP ?_)
 show wpAny (model X.prog X.w) X.A (do rule "assign.swapped-stores"; let items <-unpackItems (.ref s1.heap.objs.size) 3 none; assignInOrder [fun v=>bindName X.env z v,fun v=>bindName X.env y v,fun v=>bindName X.env x v] items.reverse; pure Flow.next) _ _ _
 refine Kv (wpAny_rule (Kv (unpackItems_tuple (items:= #[u1,u2,u3]) (I.ok.hd hc) (IsTup.new s1.heap _) fun h' hx'=>?_)))
 have I3:=I2.kept (h':=h') (t':=s1.toks) fun b o e=>hx' b o (K4 (KJ e)) e
 show wpAny _ _ (assignInOrder [fun v=>bindName X.env z v,fun v=>bindName X.env y v,fun v=>bindName X.env x v] [u3,u2,u1] >>= fun _=>pure Flow.next) _ _ _
 refine Kv (Mh (M3 (iY I3 hN hk (.inl hz) ru (fun s2 I4=>?_) (.inr hz))))
 refine Mh (M3 (iY I4 hN hj (.inl hy) rw' (fun s3 I5=>?_) (.inr hy)))
 refine Mh (M3 (iY I5 hN hi (.inl hx) rv (fun s4 I6=>assignInOrder_nil (KP ?_)) (.inr hx)))
 exact⟨_,H1,I6,q1⟩
end
theorem tW {X:Cx}:Ol X (binaryOp .FloorDiv) (rI (fun _ j=>0 < j/\j < 18446744073709551616) fun i j=> .int (i / j)):=Pt fun i j _ _ _ _ _ hc q=>by
 have h1:(0:Int) < j:=hc.1
 have h2:j < 18446744073709551616:=hc.2
 refine floordiv_int (by omega) (by rw[NF i (by omega)]; exact q) (.inl (PyProof.noPylong_of_log2 ?_))
 have:j.natAbs.log2 < 64:=(Nat.log2_lt (by omega)).mpr (by omega)
 omega
inductive C8 (xs:List V) (H:Hp) (Q:VK):Prop | mk (a kvs:_) (e0:xs=[.ref a]) (e1:H a=some (.dK kvs)) (q: ∀p,H p=none->Q (.ref p) (upd H p (.dK kvs)))
def FP:List V->Hp->VK->Prop:=fun xs H Q=>C8 xs H Q
theorem yq {X:Cx}:cX X (.type "dict") FP:=by
 intro N3 s σ H xs us Q I r h
 obtain⟨a,kvs,rfl,ha,q⟩:=h
 obtain⟨u,rfl,ru⟩:=vals1 r
 cases ru
 exact Dk I (.inl ha) fun p s' np I'=>⟨.ref p,_,I',rfl,q p np⟩
theorem vM {kvs:Oo}{k k':Key}:aM (f6 kvs k) k'=if k'=k then none else aM kvs k':=by
 induction kvs with
 | nil=>split <;> rfl
 | cons p r ih =>
  by_cases e:p.1=k
  .rw[Bo e,ih]
   split
   .rfl
   .rename_i n; rw[cI (fun z=>n (z.symm.trans e))]
  .rw[Cf e]
   by_cases e2:p.1=k'
   .rw[cU e2,cU e2,Kp (fun z=>e (e2.trans z))]
   .rw[cI e2,cI e2,ih]
theorem vB {ms:List Mem}{m m':Str}{o:Option Int}(h:m∈ms.map (·.1)):bw (eC ms m o) m'=if m'=m then o else bw ms m':=by
 induction ms with
 | nil=>cases h
 | cons x r ih =>
  have ex:eC (x::r) m o=(if x.1=m then (m,o) else x)::eC r m o:=rfl
  rw[ex]
  unfold bw at ih ⊢
  by_cases e:x.1=m
  .rw[Ks e]
   by_cases e2:m'=m
   .rw[Ks e2,LW (by simp[e2])]
   .rw[Kp e2,Ly (by simpa using fun z=>e2 z.symm),Ly (by simpa [e] using fun z=>e2 z.symm)]
    by_cases hr:m∈r.map (·.1)
    .have:=ih hr
     rw[Kp e2] at this
     exact this
    .have es:eC r m o=r:=by
      unfold eC
      have q:r.map (fun x=>if x.1=m then (m,o) else x)=r.map fun x=>x:=Mb fun z hz=>Kp fun q=>hr (by rw[<-q]; exact Lq.mpr ⟨z,hz,rfl⟩)
      rw[q,List.map_id']
     rw[es]
  .rw[Kp e]
   have hr:m∈r.map (·.1):=(Kz.mp h).resolve_left fun z=>e z.symm
   by_cases e3:x.1=m'
   .rw[LW (by simpa using e3),LW (by simpa using e3),Kp fun z=>e (e3.trans z)]
   .rw[Ly (by simpa using e3),Ly (by simpa using e3)]
    exact ih hr
theorem vG {ms:List Mem}{m m':Str}:bw (ms.filter fun x=>decide (x.1≠m)) m'=if m'=m then none else bw ms m':=by
 induction ms with
 | nil=>show none=if m'=m then none else none; split <;> rfl
 | cons x r ih =>
  rw[Md]
  by_cases e:x.1=m
  .rw[Kp (by simp[e]),ih]
   split
   .rfl
   .rename_i n
    unfold bw
    rw[Ly (by simpa [e] using fun z=>n z.symm)]
  .rw[Ks (KQ e)]
   unfold bw at ih ⊢
   by_cases e3:x.1=m'
   .rw[LW (by simpa using e3),LW (by simpa using e3),Kp fun z=>e (e3.trans z)]
   .rw[Ly (by simpa using e3),Ly (by simpa using e3)]
    exact ih
theorem BL {ms:List Mem}{y m':Str}(h:y∉ms.map (·.1)):bw (ms++[(y,none)]) m'=bw ms m':=by
 unfold bw
 rw[NM]
 cases e:ms.find? (fun x=>x.1 == m') with
 | some x=>rfl
 | none =>
  by_cases c:y=m'
  .simp[c]
  .simp[c]
def lM (xs:List Addr) (H:Hp) (v:V) (d:Oi):Prop:= ∃t,v= .ref t/\t∉xs/\H t=some (.tup (jG d))
structure Qi (xs:List Addr) (n:Nat) (H:Hp) (ts ln la dd:Addr) (vs:List V) (kvs:Oo) (ms:List Mem) (ds:List Oi):Prop where
 t0:ts∉xs
 ht:H ts=some (.tup [.ref ln,.ref la,.ref dd])
 n0:ln∉xs
 hn:H ln=some (.lst ((ms.map (·.1)).map V.str))
 a0:la∉xs
 ha:H la=some (.lst vs)
 ar:F2 (lM xs H) vs ds
 d0:dd∉xs
 hd:H dd=some (.dK kvs)
 cp: ∀m,aM kvs (Sum.inr m)=(bw ms m).map V.int
 kl:kvs.length<=n
def LS (xs:List Addr) (n:Nat) (H:Hp) (ts:Addr) (ms:List Mem) (ds:List Oi):Prop:= ∃ln la dd vs kvs,Qi xs n H ts ln la dd vs kvs ms ds
section
variable {xs xs':List Addr}{n n':Nat}{H H':Hp}{ts:Addr}{ms:List Mem}{ds:List Oi}
theorem LS.mono (l:LS xs n H ts ms ds) (h: ∀b o,b∉xs->H b=some o->H' b=some o/\b∉xs') (hn:n<=n'):LS xs' n' H' ts ms ds:=by
 obtain⟨ln,la,dd,vs,kvs,l⟩:=l
 exact⟨ln,la,dd,vs,kvs,(h _ _ l.t0 l.ht).2,(h _ _ l.t0 l.ht).1,(h _ _ l.n0 l.hn).2,(h _ _ l.n0 l.hn).1,(h _ _ l.a0 l.ha).2,(h _ _ l.a0 l.ha).1,l.ar.imp fun v d ⟨t,e,a,b⟩=>⟨t,e,(h _ _ a b).2,(h _ _ a b).1⟩,(h _ _ l.d0 l.hd).2,(h _ _ l.d0 l.hd).1,l.cp,KR l.kl hn⟩
theorem LS.same (l:LS xs n H ts ms ds) (s:ag H H'):LS xs n H' ts ms ds:=l.mono (fun b o nb e=>⟨s b o e,nb⟩) (Ku _)
end
theorem fX {K:N7}{J:It}{nm:Str}{fr:List Nat}{σ:St}{H:Hp}{Q:VK}{vs:List V}{ds:List Oi}{xs:List Addr}{i:Int}(f:Oi->V) (hf: ∀d,Om (jG d) i=some (f d)) (hJ:JL J H vs) (ar:F2 (lM xs H) vs ds) (hl:ds.length<=100) (q: ∀p,H p=none->Q (.ref p) (upd H p (.lst (ds.map f)))) :
  mr J (aO 0) g8 (OT (xU K) (rD 0) (tC (.int i))) [nm] fr σ H Q:=by
 have vl:=ar.length
 refine cg (xs:=vs) (fun i ys H'=>H'=H/\ys=(ds.take i).map f) (fun i ys H' _ h=>by rw[h.1]; exact hJ) ⟨rfl,rfl⟩ (LJ (show vs.length<=1000 by omega) (by decide)) (fun i ys H' h=>by rw[h.2,Kq,K0]; exact LI _ _) ?_ ?_
 .rintro j ys H2 x hi ⟨rfl,rfl⟩
  obtain⟨m,hm,t,rfl,_,ht⟩:=ar.get hi
  dsimp only[aO,g8]
  refine aU ⟨_,rfl,t,_,_,_,rfl,rfl,N9.of ht,hf m,rfl,?_⟩
  rw[La,hm,KO]
  rfl
 .rintro ys H2 p2 ⟨rfl,rfl⟩ np
  rw[vl,K6]
  exact q p2 np
structure Wd (C:Addr) (n:Nat) (H:Hp) (h:Addr) (os:List Addr) (pl ts:Addr) (S:Ob):Prop where
 it:HI C H h os S
 po:pl∉os
 pv: ∃pv,H pl=some (.lst pv)/\F2 (fun v k=> ∃t,v=V.ref t/\LS (pl::os) n H t k.1 k.2) pv S.ks
 ls:LS (pl::os) n H ts S.ms S.ds
 gd:Gd S
def PY (pl:Addr) (os os':List Addr) (H H':Hp):Prop:=(∀b o,b∉pl::os->H b=some o->H' b=some o)/\(∀b∈os',b∈os\/H b=none)/\ ∃o,H' pl=some o
section
variable {C h pl ts:Addr}{n:Nat}{H H':Hp}{os:List Addr}{S:Ob}
theorem Wd.same (w:Wd C n H h os pl ts S) (s:ag H H'):Wd C n H' h os pl ts S:=by
 obtain⟨it,po,⟨pv,hp,hF⟩,ls,gd⟩:=w
 exact⟨it.grow fun b o _ e=>s b o e,po,⟨pv,s _ _ hp,hF.imp fun v k ⟨t,e,l⟩=>⟨t,e,l.same s⟩⟩,ls.same s,gd⟩
theorem Wd.E7 {os':List Addr}(w:Wd C n H h os pl ts S) (so:wO os H H') (nw: ∀b∈os',b∈os\/H b=none):pl∉os'/\(∀b o,b∉pl::os->H b=some o->H' b=some o/\b∉pl::os')/\ ∃pv,H' pl=some (.lst pv)/\H pl=some (.lst pv):=by
 obtain⟨pv,hp,hF⟩:=w.pv
 refine⟨fun z=>?_,fun b o nb e=>?_,pv,so _ _ w.po hp,hp⟩
 .rcases nw _ z with z | z
  .exact w.po z
  .rw[hp] at z; cases z
 .simp only[Kz,not_or] at nb ⊢
  refine⟨so b o nb.2 e,nb.1,fun z=>?_⟩
  rcases nw _ z with z | z
  .exact nb.2 z
  .rw[e] at z; cases z
end
theorem Gw {H:Hp}{l1 l2 d ts:Addr}{us:List Str}(n1:H l1=none) (n2:(upd H l1 (.lst (us.map V.str))) l2=none) (n3:(upd (upd H l1 (.lst (us.map V.str))) l2 (.lst [])) d=none) (n4:(upd (upd (upd H l1 (.lst (us.map V.str))) l2 (.lst [])) d (.dK [])) ts=none) :
  ag H (upd (upd (upd (upd H l1 (.lst (us.map V.str))) l2 (.lst [])) d (.dK [])) ts (.tup [.ref l1,.ref l2,.ref d]))/\ ∀(xs:List Addr) (ms:List Mem),(∀b∈xs,∃o,H b=some o)->ms.map (·.1)=us->(∀m,bw ms m=none)->LS xs 0 (upd (upd (upd (upd H l1 (.lst (us.map V.str))) l2 (.lst [])) d (.dK [])) ts (.tup [.ref l1,.ref l2,.ref d])) ts ms []:=by
 have s1:=ag.upd (o:= .lst (us.map V.str)) n1
 have s2:=ag.upd (o:= .lst []) n2
 have s3:=ag.upd (o:= .dK []) n3
 have s4:=ag.upd (o:= .tup [.ref l1,.ref l2,.ref d]) n4
 refine⟨((s1.trans s2).trans s3).trans s4,fun xs ms hx e hc=>?_⟩
 have fr: ∀ {b:Addr},H b=none->b∉xs:=fun {b} e z=>by obtain⟨o,e'⟩:=hx b z; rw[e] at e'; cases e'
 refine⟨l1,l2,d,[],[],fr (((s1.trans s2).trans s3).free n4),af,fr n1,?_,fr (s1.free n2),((s3.trans s4) _ _ af),.nil,fr ((s1.trans s2).free n3),s4 _ _ af,fun m=>?_,Ku _⟩
 .rw[e]; exact ((s2.trans s3).trans s4) _ _ af
 .rw[hc m]; rfl
structure Wx (C:Addr) (n:Nat) (H:Hp) (h:Addr) (os:List Addr) (pl ts:Addr) (S:Ob) (X:List Addr):Prop where
 it:HI C H h os S
 po:pl∉os
 xo: ∀b∈X,b∉pl::os/\ ∃o,H b=some o
 pv: ∃pv,H pl=some (.lst pv)/\F2 (fun v k=> ∃t,v=V.ref t/\LS (pl::(os++X)) n H t k.1 k.2) pv S.ks
 ls:LS (pl::(os++X)) n H ts S.ms S.ds
 gd:Gd S
section
variable {C h pl ts:Addr}{n n':Nat}{H H':Hp}{os X:List Addr}{S:Ob}
end
structure Qy (C:Addr) (n:Nat) (H:Hp) (h:Addr) (os:List Addr) (pl ts:Addr) (S:Ob) (h':Addr) (os':List Addr) (pl' ts':Addr) (S':Ob) (sl:Addr):Prop where
 a:Wx C n H h os pl ts S (pl'::(os'++[sl]))
 b:Wx C n H h' os' pl' ts' S' (pl::(os++[sl]))
 ka:S.ks.length<=n
 kb:S'.ks.length<=n
section
variable {C h pl ts h' pl' ts' sl:Addr}{n n':Nat}{H H':Hp}{os os':List Addr}{S S':Ob}
end
theorem dW.calm {P:Program}{w:World}{K:N7}{mg:Str->Option Value}{base:Heap}{k:Nat}{f:Addr}{fd:FuncData}{ps:List Str}{sp sp':Sp}(F:dW P w K mg base (OH P w) k f fd ps sp) (h: ∀vs H Q E,sp' vs H Q E->sp vs H Q fun _ _ _=>False):dW P w K mg base OC k f fd ps sp' :=
 ⟨fun vs H Q E z=>F.len vs H Q _ (h vs H Q E z),fun A outer s H args us vs Q E hr e0 hb hv hs=>MS (F.run A outer s H args us vs Q _ hr e0 hb hv (h vs H Q E hs)) fun r s' c=>by
  cases r with
  | ok f=>cases f <;> exact c
  | error e =>
   obtain⟨x,t,T,cls,H',_,_,_,_,_,_,_,_,_,_,_,_,q⟩:=c
   exact q.elim⟩
theorem GM.calm {P:Program}{w:World}{K:N7}{mg:Str->Option Value}{base:Heap}{C:Addr}{m:Str}{ps:List Str}{k:Nat}{sp sp':Sp}(F:ON P w K mg base k C m ps sp) (h: ∀vs H Q E,sp' vs H Q E->sp vs H Q fun _ _ _=>False):OO P w K mg base k C m ps sp':=by
 obtain⟨f,fd,a,b,d⟩:=F
 exact⟨f,fd,a,b,d.calm h⟩
def bare (ys:List Str):List Mem:=ys.map fun y=>(y,none)
def gJ (c:Nat):Bool:=decide (97<=c) && decide (c<=122)
def cM (cs:List Nat):Bool:=decide (1<=(cs.length:Int)) && decide ((cs.length:Int)<=8) && cs.all gJ
theorem Nm.good {y:Str}(h:Nm y):cM y.cps.toList=true:=by
 obtain⟨h1,h2,h3⟩:=h
 unfold cM
 rw[Lb,Lb]
 refine⟨⟨KQ (by omega),KQ (by omega)⟩,LD.mpr fun c hc=>?_⟩
 have:=h3 c hc
 unfold small at this
 unfold gJ
 rw[Lb]
 exact⟨KQ this.1,KQ this.2⟩
theorem Nm.of {y:Str}(h:cM y.cps.toList=true):Nm y:=by
 unfold cM at h
 rw[Lb,Lb] at h
 obtain⟨⟨h1,h2⟩,h3⟩:=h
 have h1:=KY h1
 have h2:=KY h2
 refine⟨by omega,by omega,fun c hc=>?_⟩
 have:=LD.mp h3 c hc
 unfold gJ at this
 rw[Lb] at this
 exact⟨KY this.1,KY this.2⟩
inductive DZ
 | ok | unknown | inUse | badName | badNumber | tooMuch | full | nothing
deriving DecidableEq
instance (p e o:Int):Decidable (Ou p e o):=by unfold Ou; infer_instance
def aY (S:Ob):bZ->DZ
 | .member y=>if y∈aA S then .inUse else if cM y.cps.toList=false then .badName else if 12<=S.ms.length\/150<=S.ks.length then .full else .ok
 | .plain y m p e o=>if m∉aA S then .unknown else if y∈bt S then .inUse else if cM y.cps.toList=false then .badName else if ¬Ou p e o then .badNumber else if 99999 < cA p e o then .tooMuch else if 24<=S.ds.length\/150<=S.ks.length then .full else .ok
 | .link y m b mo=>if m∉aA S\/b∉aA S then .unknown else if y∈bt S then .inUse else if cM y.cps.toList=false then .badName else if ¬(0<=mo/\mo<=99) then .badNumber else if 24<=S.ds.length\/150<=S.ks.length then .full else .ok
 | .top m wd=>if m∉aA S then .unknown else if bw S.ms m≠none then .inUse else if ¬(0<=wd/\wd<=99999) then .badNumber else if 150<=S.ks.length then .full else .ok
 | .back=>if S.ks=[] then .nothing else .ok
 | .sM m=>if m∉aA S then .unknown else if rz m S.ds=true then .inUse else if 150<=S.ks.length then .full else .ok
 | .sD y=>if y∉bt S then .unknown else if 150<=S.ks.length then .full else .ok
 | .sT m=>if bw S.ms m=none then .unknown else if 150<=S.ks.length then .full else .ok
def nT (S:Ob) (d:bZ):Ob:=if aY S d= .ok then ez S d else S
theorem EG {ms:List Mem}{m:Str}(h:bw ms m≠none):m∈ms.map (·.1):=LZ fun z=>h (tM z)
theorem yY {S:Ob}{d:bZ}(g:OI S.ms S.ds) (h:aY S d= .ok):aK S d= .ok/\OX d/\(S.ks.length < 150\/d= .back):=by
 cases d with
 | member y =>
  rw[aY] at h
  split at h; · cases h
  rename_i h1; split at h; · cases h
  rename_i h2; split at h; · cases h
  rename_i h3
  exact⟨by rw[aK,Kp h1,Kp (by omega)],Nm.of (by simpa using h2),.inl (by omega)⟩
 | plain y m p e o =>
  rw[aY] at h
  split at h; · cases h
  rename_i h1; split at h; · cases h
  rename_i h2; split at h; · cases h
  rename_i h3; split at h; · cases h
  rename_i h4; split at h; · cases h
  rename_i h5; split at h; · cases h
  rename_i h6
  exact⟨by rw[aK,Kp h1,Kp h2,Kp h5,Kp (by omega)],⟨Nm.of (by simpa using h3),g.mN m (Lg.mp h1),Lg.mp h4⟩,.inl (by omega)⟩
 | link y m b mo =>
  rw[aY] at h
  split at h; · cases h
  rename_i h1; split at h; · cases h
  rename_i h2; split at h; · cases h
  rename_i h3; split at h; · cases h
  rename_i h4; split at h; · cases h
  rename_i h6
  exact⟨by rw[aK,Kp h1,Kp h2,Kp (by omega)],⟨Nm.of (by simpa using h3),g.mN m (LZ fun z=>h1 (.inl z)),g.mN b (LZ fun z=>h1 (.inr z)),Lg.mp h4⟩,.inl (by omega)⟩
 | top m wd =>
  rw[aY] at h
  split at h; · cases h
  rename_i h1; split at h; · cases h
  rename_i h2; split at h; · cases h
  rename_i h3; split at h; · cases h
  rename_i h4
  exact⟨by rw[aK,Kp h1,Kp h2],⟨g.mN m (Lg.mp h1),Lg.mp h3⟩,.inl (by omega)⟩
 | back =>
  rw[aY] at h
  split at h; · cases h
  rename_i h1
  exact⟨by rw[aK,Kp h1],trivial,.inr rfl⟩
 | sM m =>
  rw[aY] at h
  split at h; · cases h
  rename_i h1; split at h; · cases h
  rename_i h2; split at h; · cases h
  rename_i h3
  exact⟨by rw[aK,Kp h1,Kp h2],g.mN m (Lg.mp h1),.inl (by omega)⟩
 | sD y =>
  rw[aY] at h
  split at h; · cases h
  rename_i h1; split at h; · cases h
  rename_i h3
  exact⟨by rw[aK,Kp h1],g.dN y (Lg.mp h1),.inl (by omega)⟩
 | sT m =>
  rw[aY] at h
  split at h; · cases h
  rename_i h1; split at h; · cases h
  rename_i h3
  exact⟨by rw[aK,Kp h1],g.mN m (EG h1),.inl (by omega)⟩
theorem Cz {S:Ob}{d:bZ}(g:Gd S):Gd (nT S d):=by
 unfold nT
 split
 .rename_i e
  obtain⟨h1,h2,_⟩:=yY g.now e
  exact y7 g h2 h1
 .exact g
section
variable {X:Cx}
end
section
variable {X:Cx}
end
end L2
namespace L2
open PySem PySem.Spec PyProof.Rows
open Builtin Builtin.Str
inductive JQ (x:V) (vs:List V) (H:Hp) (Q:VK):Prop | mk (z y:Str) (e0:x= .str z) (e1:vs=[.str y]) (e2:(y.length == 0)=false) (e3:z.length<=1000) (q: ∀p,H p=none->Q (.ref p) (upd H p (.lst ((Txt.split z y).map V.str))))
inductive JZ (x:V) (vs:List V) (H:Hp) (Q:VK):Prop | mk (z:Str) (e0:x= .str z) (e1:vs=[]) (q:Q (.bl (Txt.isupper z)) H)
end L2
namespace L2
open PySem PySem.Spec PyProof.Rows
section
open MA (Oh bg cY)
theorem jf {α:Type} [BEq α] [LawfulBEq α]: ∀ {ys:List α}{j:Nat}{y:α},ys[j]?=some y->(∀m,m < j->ys[m]?≠some y)->ys.idxOf y=j
 | [],_,_,h,_=>by cases h
 | z::ys,0,y,h,_=>by
  cases h
  rw[List.idxOf_cons]
  simp
 | z::ys,j+1,y,h,hm=>by
  have h0:z≠y:=fun e=>hm 0 (NW _) (by rw[e]; rfl)
  rw[List.idxOf_cons,show (z == y)=false from by simpa using h0,cond_false,jf (j:=j) h fun m hmj=>hm (m+1) (by omega)]
def ff (ns:List Str) (d:Oi):MA.au:=(((ns.idxOf d.2.1:Nat):Int),match d.2.2.1 with | none=> -1 | some b=>((ns.idxOf b:Nat):Int),d.2.2.2)
def aV (ms:List Mem) (ds:List Oi):List MA.au:=ds.map (ff (ms.map (·.1)))
def O6 (ms:List Mem) (ds:List Oi):Prop:= ∀d∈ds,d.2.1∈ms.map (·.1)/\(∀b,d.2.2.1=some b->b∈ms.map (·.1))/\0<=d.2.2.2/\d.2.2.2<=99999
def nW (ms:List Mem):Prop:= ∀m∈ms,∀c,m.2=some c->0<=c/\c<=99999
structure GB (S:Ob):Prop where
 now:O6 S.ms S.ds
 cap:nW S.ms
 ks: ∀k∈S.ks,O6 k.1 k.2/\nW k.1
theorem Cc:GB ⟨[],[],[]⟩:=⟨fun d hd=>(by cases hd),fun m hm=>(by cases hm),fun k hk=>(by cases hk)⟩
theorem Ff {p e o:Int}(h:Ou p e o):0<=cA p e o:=by
 unfold Ou at h
 unfold cA
 have:0<=p*e:=Int.mul_nonneg h.1 (by omega)
 exact N0 (by omega) (by omega)
theorem kL {S:Ob}(g:GB S){ms:List Mem}{ds:List Oi}(n:O6 ms ds) (c:nW ms):GB ⟨ms,ds,S.ks++[(S.ms,S.ds)]⟩:=⟨n,c,fun k hk=>by
 rcases KI.mp hk with hk | hk
 .exact g.ks k hk
 .rw[Kt.mp hk]; exact⟨g.now,g.cap⟩⟩
theorem zt {ms:List Mem}{m:Str}{o:Option Int}(h:nW ms) (ho: ∀c,o=some c->0<=c/\c<=99999):nW (eC ms m o):=fun x hx c e=>by
 unfold eC at hx
 obtain⟨y,hy,rfl⟩:=Lq.mp hx
 split at e
 .exact ho c e
 .exact h y hy c e
theorem Fs {S:Ob}{d:bZ}(g:GB S) (due:aY S d= .ok):GB (ez S d):=by
 obtain⟨gn,gc,gk⟩:=id g
 cases d with
 | member y =>
  refine kL g (fun d hd=>?_) (fun x hx c e=>?_)
  .obtain⟨h1,h2,h3⟩:=gn d hd
   rw[KO]
   exact⟨KI.mpr (.inl h1),fun b hb=>KI.mpr (.inl (h2 b hb)),h3⟩
  .rcases KI.mp hx with hx | hx
   .exact gc x hx c e
   .rw[Kt.mp hx] at e; cases e
 | plain y m p e o =>
  rw[aY] at due
  split at due; · cases due
  rename_i h1; split at due; · cases due
  split at due; · cases due
  split at due; · cases due
  rename_i h4; split at due; · cases due
  rename_i h5
  refine kL g (fun d hd=>?_) gc
  rcases KI.mp hd with hd | hd
  .exact gn d hd
  .rw[Kt.mp hd]
   exact⟨Lg.mp h1,fun b hb=>(by cases hb),Ff (Lg.mp h4),by show cA p e o<=99999; omega⟩
 | link y m b mo =>
  rw[aY] at due
  split at due; · cases due
  rename_i h1; split at due; · cases due
  split at due; · cases due
  split at due; · cases due
  rename_i h4
  refine kL g (fun d hd=>?_) gc
  rcases KI.mp hd with hd | hd
  .exact gn d hd
  .rw[Kt.mp hd]
   have h4:=Lg.mp h4
   exact⟨LZ fun z=>h1 (.inl z),fun b' hb=>(by cases hb; exact LZ fun z=>h1 (.inr z)),h4.1,by show mo<=99999; omega⟩
 | top m wd =>
  rw[aY] at due
  split at due; · cases due
  split at due; · cases due
  split at due; · cases due
  rename_i h3
  refine kL g (fun d hd=>?_) (zt gc fun c e=>by cases e; exact Lg.mp h3)
  rw[fc]
  exact gn d hd
 | sT m =>
  refine kL g (fun d hd=>?_) (zt gc fun c e=>by cases e)
  rw[fc]
  exact gn d hd
 | sM m =>
  rw[aY] at due
  split at due; · cases due
  split at due; · cases due
  rename_i h2
  refine kL g (fun d hd=>?_) (fun x hx c e=>gc x (Li.mp hx).1 c e)
  obtain⟨k1,k2,k3⟩:=gn d hd
  have nb:d.2.1≠m/\d.2.2.1≠some m:=by
   have h2:rz m S.ds=false:=by simpa using h2
   unfold rz at h2
   have:=NJ.mp h2 d hd
   simp only[Bool.or_eq_true,decide_eq_true_eq,not_or] at this
   exact this
  have keep: ∀y:Str,y∈S.ms.map (·.1)->y≠m->y∈(S.ms.filter fun x=>decide (x.1≠m)).map (·.1):=fun y hy ne=>by
   obtain⟨x,hx,rfl⟩:=Lq.mp hy
   exact Lq.mpr ⟨x,Li.mpr ⟨hx,KQ ne⟩,rfl⟩
  exact⟨keep _ k1 nb.1,fun b hb=>keep _ (k2 b hb) fun e=>nb.2 (by rw[hb,e]),k3⟩
 | sD y=>exact kL g (fun d hd=>gn d (Li.mp hd).1) gc
 | back =>
  show GB (match S.ks.getLast? with | some k=>⟨k.1,k.2,S.ks.dropLast⟩ | none=>S)
  rcases Mp S.ks with hk | ⟨ks,k,hk⟩
  .rw[hk]; exact g
  .have hk:S.ks=ks++[k]:=by rw[hk,Mq]
   rw[show S.ks.getLast?=some k from by rw[hk]; simp,show S.ks.dropLast=ks from by rw[hk]; simp]
   obtain⟨a1,a2⟩:=gk k (by rw[hk]; simp)
   exact⟨a1,a2,fun k' hk'=>gk k' (by rw[hk]; simp[hk'])⟩
theorem zj {S:Ob}{d:bZ}(g:GB S):GB (nT S d):=by
 unfold nT
 split
 .rename_i e; exact Fs g e
 .exact g
theorem rY {ns:List Str}{y:Str}(h:y∈ns):ns.idxOf y < ns.length:=List.idxOf_lt_length_iff.mpr h
theorem gN {ms:List Mem}{ds:List Oi}(h:O6 ms ds): ∀q∈aV ms ds,Oh ms.length q:=fun q hq=>by
 obtain⟨d,hd,rfl⟩:=Lq.mp hq
 obtain⟨h1,h2,h3,_⟩:=h d hd
 have a1:=rY h1
 rw[Kq] at a1
 refine⟨by show (0:Int)<=((_:Nat):Int); omega,by show ((_:Nat):Int) < _; omega,?_,?_,h3⟩
 .show -1<=(match d.2.2.1 with | none=>(-1:Int) | some b=>(((ms.map fun x:Mem=>x.1).idxOf b:Nat):Int))
  cases d.2.2.1 with
  | none=>exact K3 _
  | some b=>show (-1:Int)<=((_:Nat):Int); omega
 .show (match d.2.2.1 with | none=>(-1:Int) | some b=>(((ms.map fun x:Mem=>x.1).idxOf b:Nat):Int)) < _
  cases e:d.2.2.1 with
  | none=>show (-1:Int) < _; omega
  | some b =>
   have a2:=rY (h2 b e)
   rw[Kq] at a2
   show ((_:Nat):Int) < _
   omega
def IK (S:Ob):List (Option Int):=S.ms.map (·.2)
def bE (S:Ob):Option (List Int):=match bg S.ms.length (aV S.ms S.ds) with
 | none=>none
 | some L=>match cY L (IK S) with
  | none=>some L
  | some _=>none
theorem yM {n:Nat}{L:List Int}{cs:List (Option Int)}(hl:L.length=n) (h:cY L cs=none):MA.Within n L cs:=fun v c hv e=>by
 have:=Mg.mp h v (KZ.mpr (by omega))
 rw[e] at this
 have this: ¬decide (c < MA.g L (v:Nat))=true:=this
 simp at this
 exact this
theorem ET {L:List Int}{cs:List (Option Int)}{i:Nat}(h:cY L cs=some i):i < L.length:=KZ.mp (List.mem_of_find?_eq_some h)
theorem wa {n:Nat}{rs rs':List MA.au}{L:List Int}(k: ∀q∈rs,Oh n q) (h:bg n rs=some L) (s: ∀q∈rs',q∈rs): ∃L',bg n rs'=some L':=by
 obtain⟨_,l2,l3,_⟩:=MA.cP k h
 exact MA.rJ (fun q hq=>k q (s q hq)) l3 fun q hq=>l2 q (s q hq)
theorem FJ {rs:List MA.au}{s k:Int}{ps:List Nat}(h:MA.Path rs s k ps): ∀i∈ps,i < rs.length:=by
 induction h with
 | nil=>intro i hi; cases hi
 | snoc hp hq e ih =>
  intro i hi
  rcases KI.mp hi with hi | hi
  .exact ih i hi
  .rw[Kt.mp hi]; exact (Ky.mp hq).1
def sH (rs:List MA.au) (way:List Nat):Prop:= ∃(i:Nat) (q:MA.au) (ps:List Nat),way=i::ps/\rs[i]?=some q/\q.2.1≠ -1/\0 < q.2.2/\MA.Path rs q.1 q.2.1 ps/\(q.1::MA.OD rs ps).Nodup
theorem sH.lt {rs:List MA.au}{way:List Nat}(h:sH rs way): ∀i∈way,i < rs.length:=by
 obtain⟨i,q,ps,rfl,hi,_,_,hp,_⟩:=h
 intro j hj
 rcases Kz.mp hj with rfl | hj
 .exact (Ky.mp hi).1
 .exact FJ hp j hj
theorem sH.none {n:Nat}{rs:List MA.au}{way:List Nat}(k: ∀q∈rs,Oh n q) (h:sH rs way):bg n rs=none:=by
 obtain⟨i,q,ps,rfl,hi,hb,hm,hp,_⟩:=h
 cases e:bg n rs with
 | none=>rfl
 | some L =>
  exfalso
  obtain⟨_,l2,l3,_⟩:=MA.cP k e
  have hq:=Kw hi
  obtain⟨o1,o2,o3,o4,o5⟩:=k q hq
  have a1:=(MA.Path.le k l2 o1 hp).2
  have a2:=l2 q hq
  have a3:MA.ask (MA.g L) q=MA.g L q.2.1+q.2.2:=by
   unfold MA.ask
   simp[hb]
  omega
theorem AX {n:Nat}{rs:List MA.au}(k: ∀q∈rs,Oh n q) (h: ∀q∈rs,q.2.1≠ -1->0 < q.2.2-> ∃S:Int->Prop,S q.1/\ ¬S q.2.1/\ ∀r∈rs,0<=r.2.1->S r.2.1->S r.1): ∃L,bg n rs=some L:=by
 obtain⟨f,f0,f1⟩:=MA.yz k (MA.CF k h)
 exact MA.rJ k (fun i _ _=>f0 i) f1
theorem Dl {S:Ob}(h:nW S.ms){v:Nat}{c:Int}(e:(S.ms.map fun m:Mem=>m.2).getD v none=some c):c<=99999:=by
 rw[KA,KH] at e
 cases hm:S.ms[v]? with
 | none=>rw[hm] at e; cases e
 | some m =>
  rw[hm] at e
  exact (h m (Kw hm) c e).2
end
section
open MA (Oh bg cY)
def Oz (ns:List Str):List Mem:=ns.map fun y=>(y,none)
theorem vx (ns:List Str):(Oz ns).map (·.1)=ns:=by
 unfold Oz
 rw[LF]
 exact List.map_id' ns |>.symm▸by simp[Function.comp_def]
theorem getD_at {ns:List Str}{k:Nat}(h:k < ns.length):ns[k]?=some (ns.getD k ""):=by
 rw[KA,Kr h]; rfl
section
variable {ns cs:List Str}{w:Nat}{p:Int}{mo:Nat->Int}{k:Nat}
end
section
variable {S:Ob}{y m b:Str}
theorem vn (h:Nm y): ¬cM y.cps.toList=false:=by rw[Nm.good h]; decide
theorem uj (h1:y∉aA S) (h2:Nm y) (h3:S.ms.length < 12) (h4:S.ks.length < 150):aY S (.member y)= .ok:=by
 rw[aY,Kp h1,Kp (vn h2),Kp (by omega)]
theorem vw {p e o:Int}(h1:m∈aA S) (h2:y∉bt S) (h3:Nm y) (h4:Ou p e o) (h5:cA p e o<=99999) (h6:S.ds.length < 24) (h7:S.ks.length < 150):aY S (.plain y m p e o)= .ok:=by
 rw[aY,Kp (fun z=>z h1),Kp h2,Kp (vn h3),Kp (fun z=>z h4),Kp (by omega),Kp (by omega)]
theorem xH {mo:Int}(h1:m∈aA S) (h1':b∈aA S) (h2:y∉bt S) (h3:Nm y) (h4:0<=mo/\mo<=99) (h6:S.ds.length < 24) (h7:S.ks.length < 150):aY S (.link y m b mo)= .ok:=by
 rw[aY,Kp (fun z=>z.elim (fun z=>z h1) fun z=>z h1'),Kp h2,Kp (vn h3),Kp (fun z=>z h4),Kp (by omega)]
theorem ze {wd:Int}(h1:m∈aA S) (h2:bw S.ms m=none) (h3:0<=wd/\wd<=99999) (h7:S.ks.length < 150):aY S (.top m wd)= .ok:=by
 rw[aY,Kp (fun z=>z h1),Kp (fun z=>z h2),Kp (fun z=>z h3),Kp (by omega)]
theorem Hn (h1:y∈bt S) (h7:S.ks.length < 150):aY S (.sD y)= .ok:=by
 rw[aY,Kp (fun z=>z h1),Kp (by omega)]
theorem F4 (h1:bw S.ms m≠none) (h7:S.ks.length < 150):aY S (.sT m)= .ok:=by
 rw[aY,Kp h1,Kp (by omega)]
theorem Dh (h1:S.ks≠[]):aY S .back= .ok:=by
 rw[aY,Kp h1]
end
end
section
open MA (Oh bg cY)
structure Pd (H0:Hp) (os:List Addr) (H:Hp):Prop where
 s:ag H0 H
 n: ∀b∈os,H0 b=none
section
variable {H0 H H':Hp}{os os':List Addr}{pr t:Addr}{o u:HO}{rs:List MA.au}{q:MA.au}{xs:List V}{K:N7}
theorem Pd.next (x:Pd H0 os H) (so:wO os H H') (nw: ∀b∈os',b∈os\/H b=none):Pd H0 os' H':=⟨fun b o e=>so b o (fun z=>by rw[x.n b z] at e; cases e) (x.s b o e),fun b hb=>(nw b hb).elim (x.n b) fun e=>x.s.free e⟩
end
end
def Ql {α:Type}(xs:List α):List α:=(List.range ((xs.length+1) / 2)).filterMap fun k=>xs[2*k]?
inductive J5 (K:N7) (Q:VK) (x:V) (H2:Hp):Prop | mk (a xs:_) (e0:x= .ref a) (e1:N5 K H2 a xs) (q: ∀p,H2 p=none->Q (.ref p) (upd H2 p (.lst (Ql xs))))
section
variable {X:Cx}{e st:Expr}{te ts:TE}{p2 pos:Pos}
end
section
open MA (Oh bg cY)
section
variable {H H':Hp}{os os':List Addr}{la t:Addr}{ds:List Oi}{d:Oi}{xs:List V}
end
section
open MA
variable {n:Nat}{rs:List MA.au}{r:MA.au}{ws L:List Int}{k:Int}
end
end
section
open MA (Oh bg cY)
theorem E5 {S:Ob}{d:bZ}(h:aK S d= .ok) (ok:OX d) (hk:S.ks.length < 150):aY S d= .ok:=by
 cases d with
 | member y =>
  rw[aK] at h
  split at h; · cases h
  rename_i h1; split at h; · cases h
  rename_i h2
  exact uj h1 ok (by omega) hk
 | plain y m p e o =>
  rw[aK] at h
  split at h; · cases h
  rename_i h1; split at h; · cases h
  rename_i h2; split at h; · cases h
  rename_i h3; split at h; · cases h
  rename_i h4
  obtain⟨a,_,c⟩:=ok
  exact vw (Lg.mp h1) h2 a c (by omega) (by omega) hk
 | link y m b mo =>
  rw[aK] at h
  split at h; · cases h
  rename_i h1; split at h; · cases h
  rename_i h2; split at h; · cases h
  rename_i h3
  obtain⟨a,_,_,c⟩:=ok
  exact xH (Lg.mp fun z=>h1 (.inl z)) (Lg.mp fun z=>h1 (.inr z)) h2 a c (by omega) hk
 | top m wd =>
  rw[aK] at h
  split at h; · cases h
  rename_i h1; split at h; · cases h
  rename_i h2
  obtain⟨_,c⟩:=ok
  exact ze (Lg.mp h1) (Lg.mp h2) c hk
 | back =>
  rw[aK] at h
  split at h; · cases h
  rename_i h1
  exact Dh h1
 | sM m =>
  rw[aK] at h
  split at h; · cases h
  rename_i h1; split at h; · cases h
  rename_i h2
  rw[aY,Kp h1,Kp h2,Kp (by omega)]
 | sD y =>
  rw[aK] at h
  split at h; · cases h
  rename_i h1
  exact Hn (Lg.mp h1) hk
 | sT m =>
  rw[aK] at h
  split at h; · cases h
  rename_i h1
  exact F4 h1 hk
theorem FV {S:Ob}{d:bZ}(g:OI S.ms S.ds) (ok:OX d) (hk:S.ks.length < 150):nT S d=dc S d:=by
 unfold nT dc
 by_cases h:aK S d= .ok
 .rw[Ks h,Ks (E5 h ok hk)]
 .rw[Kp h,Kp fun z=>h (yY g z).1]
theorem Dx {S:Ob}{d:bZ}(g:OI S.ms S.ds) (b:GB S) (ok:OX d) (hk:S.ks.length < 150):GB (dc S d):=by
 rw[<-FV g ok hk]
 exact zj b
theorem FW {ms:List Mem}(hn:(ms.map (·.1)).Nodup):(ms.map (·.1)).map (fun y=>bw ms y)=ms.map (·.2):=by
 rw[LF]
 refine Mb fun m hm=>?_
 show bw ms m.1=m.2
 unfold bw
 cases e:ms.find? (fun x=>x.1 == m.1) with
 | none=>exact absurd (Mg.mp e m hm) (by simp)
 | some x =>
  have h1:x.1=m.1:=by simpa using List.find?_some e
  have hx:=List.mem_of_find?_eq_some e
  obtain⟨i,hi⟩:=List.mem_iff_getElem?.mp hm
  obtain⟨j,hj⟩:=List.mem_iff_getElem?.mp hx
  obtain⟨l1,e1⟩:=Ky.mp hi
  obtain⟨l2,e2⟩:=Ky.mp hj
  have:j=i:=(NN (h₀:=by rw[Kq]; exact l2) (h₁:=by rw[Kq]; exact l1) hn).mp (by rw[M6,M6,e1,e2]; exact h1)
  subst this
  rw[hj] at hi
  cases hi
  rfl
end
inductive IU (K:N7) (x y:V) (H:Hp) (Q:VK):Prop | mk (a b:Addr) (ys:List V) (e0:x= .ref a) (e1:y= .ref b) (e2:N9 K H b ys) (e3:ys.all bS=true) (q:((∃xs,N5 K H a xs/\Q (.bl false) H)\/ ∃xs,N9 K H a xs/\xs.all bS=true/\Q (.bl (rO xs ys)) H))
def zH (K:N7):R2:=fun x y H Q=>IU K x y H Q
theorem wX {X:Cx}(hu:X.A.units+1 < cLine):Ol X (compareOp .Eq) (zH X.K):=by
 intro N3 s σ H x y v u Q I rx ry h
 obtain⟨a,b,ys,rfl,rfl,hb,fy,h⟩:=h
 rcases h with⟨xs,ha,q⟩ | ⟨xs,ha,fx,q⟩
 .cases rx
  cases ry
  obtain⟨us,r1,p1,z1⟩:=I.list ha
  obtain⟨vs,r2,p2,z2⟩:=I.tuple hb
  exact SeqAt.RcAt.list_tuple p1.isList (show s.heap.IsTuple b vs.toArray from p2) (by omega) _ _ _ _ ⟨.bl _,H,I,rfl,q⟩
 .exact G2 hu N3 s σ H (.ref a) (.ref b) v u Q I rx ry ⟨a,b,xs,ys,rfl,rfl,ha,hb,fx,fy,q⟩
inductive J9 (K:N7) (x y:V) (H:Hp) (Q:VK):Prop | mk (a b:Addr) (ys:List V) (e0:x= .ref a) (e1:y= .ref b) (e2:N9 K H b ys) (e3:ys.all bS=true) (q:((∃xs,N5 K H a xs/\Q (.bl true) H)\/ ∃xs,N9 K H a xs/\xs.all bS=true/\Q (.bl (!rO xs ys)) H))
inductive Kd (K:N7) (x y:V) (H:Hp) (Q:VK):Prop | mk (a b:Addr) (xs ys:List V) (e0:x= .ref a) (e1:y= .ref b) (e2:N5 K H a xs) (e3:N5 K H b ys) (e4:xs.length=ys.length) (e5:xs.all bS=true) (e6:ys.all bS=true) (q:Q (.bl ((List.range xs.length).all fun i=>OZ (xs.getD i .non) (ys.getD i .non))) H)
inductive Kc (K:N7) (x y:V) (H:Hp) (k:Prop):Prop | mk (a b:Addr) (xs:List V) (e0:x= .ref a) (e1:y= .ref b) (e2:N5 K H a xs) (e3:N5 K H b []) (e4:0 < xs.length) (q:k)
section
variable {xs xs':List Addr}{n:Nat}{H H':Hp}{ts ln la dd:Addr}{vs:List V}{kvs:Oo}{ms:List Mem}{ds:List Oi}
end
inductive P2 (us:List Str):List Mem->List (List Mem×Str)->Prop
 | nil:P2 us (Oz us) []
 | snoc {mp:List Mem}{g:Str}{c:Int}{st:List (List Mem×Str)}:P2 us mp st->bw mp g=none->g∈mp.map (·.1)->P2 us (eC mp g (some c)) (st++[(mp,g)])
theorem bA {J:It}{xs:List V}{g:TG}{tb:TS}{D:Ends}{σ:St}{H:Hp}(Pv:Nat->St->Hp->Prop) (h0:Pv 0 σ H) (hJ: ∀i σ H,i<=xs.length->Pv i σ H->JL J H xs)
  (hs: ∀i x σ H (D':Ends),(∀σ H,Pv (i+1) σ H->D'.nx σ H)->(∀v H,D.rt v H->D'.rt v H)->xs[i]?=some x->Pv i σ H->g x σ H fun σ2 H2=>tb D' σ2 H2) (hd: ∀σ H,Pv xs.length σ H->D.nx σ H) :
  ∃W:Nat->Nat->St->Hp->Prop,(∃m,W 0 m σ H)/\ ∀i m σ H,W i m σ H ->
   (J.stop i H/\D.nx σ H)\/(J.go i H/\ ∃N:St->Hp->Prop,(∀σ' H',N σ' H'-> ∃m',m' < m/\W (i+1) m' σ' H')/\ ∀x H',J.yld i H x H'->g x σ H' fun σ2 H2=>tb { D with nx:=N,ct:=N,bk:=D.nx } σ2 H2) :=
 fk Pv h0 hJ (fun i x σ H hx hp=>hs i x σ H _ (fun _ _ z=>z) (fun _ _ z=>z) hx hp) hd
theorem uu {m:Nat}{W:Nat->St->Hp->Prop}{tb:TS}{D:Ends}{σ:St}{H:Hp}(h: ∀D':Ends,(∀σ H m',m' < m->W m' σ H->D'.nx σ H)->tb D' σ H): ∃N:St->Hp->Prop,(∀σ' H',N σ' H'-> ∃m',m' < m/\W m' σ' H')/\tb { D with nx:=N,ct:=N,bk:=D.nx } σ H :=
 ⟨fun σ H=> ∃m',m' < m/\W m' σ H,fun _ _ z=>z,h _ fun _ _ m' a b=>⟨m',a,b⟩⟩
inductive Kg (K:N7) (x y:V) (H:Hp) (Q:VK):Prop | mk (a b:Addr) (xs:List V) (e0:x= .ref a) (e1:y= .ref b) (e2:N5 K H a xs) (e3:N5 K H b []) (q:Q (.bl (decide (0 < xs.length))) H)
section
variable {X:Cx}
end
def JG (lo:Int) (n:Nat):It:=⟨fun i _=>i < n,fun i H x H'=>H'=H/\x= .int (lo - i),fun i _=>n<=i⟩
section
variable {X:Cx}{tg:Expr}
inductive JU (R:It->Hp->Prop) (vs:List V) (H1:Hp):Prop | mk (i j:Int) (e0:vs=[.int i,.int j,.int (-1)]) (e1:Builtin.Range.small i j (-1)=true) (q:R (JG i (i - j).toNat) H1)
end
inductive Kf (K:N7) (x y:V) (H:Hp) (Q:VK):Prop | mk (a b:Addr) (xs ys:List V) (e0:x= .ref a) (e1:y= .ref b) (e2:N5 K H a xs) (e3:N5 K H b ys) (e4:xs.length=ys.length) (e5:xs.all bS=true) (e6:ys.all bS=true) (q:Q (.bl (!((List.range xs.length).all fun i=>OZ (xs.getD i .non) (ys.getD i .non)))) H)
inductive J7 (K:N7) (x y:V) (H:Hp) (k:Prop):Prop | mk (a b:Addr) (xs:List V) (e0:x= .ref a) (e1:y= .ref b) (e2:N5 K H a xs) (e3:N5 K H b []) (e4:0 < xs.length) (q:k)
section
variable {X:Cx}
end
theorem qr {t u:TS}{D:Ends}{σ:St}{H:Hp}(h: ∀D':Ends,(∀σ' H',u D σ' H'->D'.nx σ' H')->(∀v H,D.rt v H->D'.rt v H)->t D' σ H):Hv t u D σ H:=h { D with nx:=u D } (fun _ _ z=>z) fun _ _ z=>z
theorem GH {t u:TS}{D:Ends}{σ:St}{H:Hp}(M:St->Hp->Prop) (h: ∀D':Ends,(∀σ' H',M σ' H'->D'.nx σ' H')->(∀v H,D.rt v H->D'.rt v H)->t D' σ H) (k: ∀σ' H',M σ' H'->u D σ' H'):Hq t u D σ H:=⟨M,h { D with nx:=M } (fun _ _ z=>z) fun _ _ z=>z,k⟩
theorem zJ {J:It}{xs:List V}{g:TG}{tb:TS}{D:Ends}{σ:St}{H:Hp}(Pv:Nat->St->Hp->Prop) (h0:Pv 0 σ H) (hJ: ∀i σ H,i<=xs.length->Pv i σ H->JL J H xs)
  (hs: ∀i x σ H (D':Ends),(∀σ H,Pv (i+1) σ H->D'.nx σ H)->(∀σ H,Pv (i+1) σ H->D'.ct σ H)->(∀σ H,D.nx σ H->D'.bk σ H)->(∀v H,D.rt v H->D'.rt v H)->xs[i]?=some x->Pv i σ H->g x σ H fun σ2 H2=>tb D' σ2 H2) (hd: ∀σ H,Pv xs.length σ H->D.nx σ H) :
  ∃W:Nat->Nat->St->Hp->Prop,(∃m,W 0 m σ H)/\ ∀i m σ H,W i m σ H ->
   (J.stop i H/\D.nx σ H)\/(J.go i H/\ ∃N:St->Hp->Prop,(∀σ' H',N σ' H'-> ∃m',m' < m/\W (i+1) m' σ' H')/\ ∀x H',J.yld i H x H'->g x σ H' fun σ2 H2=>tb { D with nx:=N,ct:=N,bk:=D.nx } σ2 H2) :=
 fk Pv h0 hJ (fun i x σ H hx hp=>hs i x σ H _ (fun _ _ z=>z) (fun _ _ z=>z) (fun _ _ z=>z) (fun _ _ z=>z) hx hp) hd
theorem aI {K:N7}{i:Nat}{j:Int}{x y:Str}{A B:TS}{D:Ends}{σ:St}{H:Hp}{td:Addr}{us:List V}(hs:σ[i]?=some (some (.ref td))) (ht:N9 K H td us) (h0:Om us j=some (.str x)) (n:x≠y) (k:B D σ H):Hb (wI (OT P4 (OT (xU K) (rD i) (tC (.int j))) (tC (.str y)))) A B D σ H :=
 ⟨_,hs,td,_,_,_,rfl,rfl,ht,h0,rfl,_,rfl,by rw[KU fun z=>n (V.str.inj z)]; exact k⟩
theorem bC.mm {j k:Nat}{A:Around}(r:bC k A) (h:j<=k:=by decide):bC j A:=r.mono h
theorem Oy (l:List Str) (h:l.Nodup:=by trivial):l.Nodup:=h
theorem OG:mS 1 (aO 0):=kn (by decide)
section
variable {X:Cx}{a b e:Expr}{ta tb te:TE}{es:List Expr}{pos p q:Pos}
theorem N6 (h:PE X e te) (hs:isStar e=false:=by rfl):PA X [e] (nX te kg):=ao h dD hs
theorem Od (K:N7) (ha:PE X a ta) (hb:PE X b tb) (hK:X.K=K:=by rfl) (hs:pH b:=by exact fun _ _=>rfl):PE X (.Subscript a b pos) (OT (CG K) ta tb):=by
 subst hK; exact qC y6 ha hb hs
theorem N8 (K:N7) (ha:PE X a ta) (hb:PE X b tb) (hK:X.K=K:=by rfl) (hs:pH b:=by exact fun _ _=>rfl):PE X (.Subscript a b pos) (OT (xU K) ta tb):=by
 subst hK; exact qC AY ha hb hs
theorem e8 {op:CmpOp}{r:R2}(ho:Ol X (compareOp op) r) (ha:PE X a ta) (hb:PE X b tb) (hm:behindInMarks op b=false:=by exact AQ _):PE X (.Compare a [op] [b] pos) (OT r ta tb):=zC ho ha hb hm
theorem aG {op:CmpOp}{r:R2}(ho:Ol X (compareOp op) r) (ha:PE X a ta) (hb:PE X b tb) (hm:behindInMarks op b=false:=by exact AQ _):PT X (.Compare a [op] [b] pos) (wI (OT r ta tb)):=zo ho ha hb hm
theorem Pf (K:N7) (hK:X.K=K:=by rfl):Ol X (compareOp .In) (PF K false):=by subst hK; exact Ca
theorem zK (K:N7) (hK:X.K=K:=by rfl):Ol X (compareOp .NotIn) (PF K true):=by subst hK; exact xa
theorem Ae {op:CmpOp}{r:R2}(ho:Ol X (compareOp op) r) (ha:PE X a ta) (hb:PE X b tb) (hm:behindInMarks op b=false:=by with_unfolding_all rfl):PE X (.Compare a [op] [b] pos) (OT r ta tb):=zC ho ha hb hm
theorem nS {op:CmpOp}{r:R2}(ho:Ol X (compareOp op) r) (ha:PE X a ta) (hb:PE X b tb) (hm:behindInMarks op b=false:=by with_unfolding_all rfl):PT X (.Compare a [op] [b] pos) (wI (OT r ta tb)):=zo ho ha hb hm
theorem Pc (K:N7) (hK:X.K=K:=by rfl):Pl X (GK K):=by subst hK; exact EU
theorem Qg (K:N7) (hK:X.K=K:=by rfl):Pl X (Gj K):=by subst hK; exact Hj
theorem gn (i:Nat){x:Str}(hN:X.N.Nodup) (hi:X.N[i]?=some x:=by rfl) (hx:Loc X.env.scope x:=by first | exact Or.inl rfl | exact Or.inr rfl) (hf:X.fn x=true\/X.env.scope.names.lookup x=some .local:=by first | exact .inl rfl | exact .inr rfl | assumption):PG X (.Name x pos) (aO i):=FU hN hi hx hf
theorem Oa (i:Nat){x:Str}{te:TE}{pos':Pos}(hN:X.N.Nodup) (he:PE X e te) (hi:X.N[i]?=some x:=by rfl) (hx:Loc X.env.scope x:=by first | exact Or.inl rfl | exact Or.inr rfl) (hs:swapsWith e (some (.Name x pos')) pos.line X.env=pure false:=by rfl) (hf:X.fn x=true\/X.env.scope.names.lookup x=some .local:=by first | exact .inl rfl | exact .inr rfl | assumption) :
  PS X (.Assign [.Name x pos'] e pos) (yf te (aO i)):=GW hN hi hx he hs hf
theorem bQ (K:N7) (ha:PE X a ta) (hK:X.K=K:=by rfl) (he: ∀whole,isTrue a X.env whole=(do let v <-whole; standAt a.pos; holding [v] (truthy v)):=by exact fun _=>rfl):PT X a (C3 K ta):=by subst hK; exact AZ ha he
theorem cE (K:N7) (hm:X.mg "len" = none) (h:PE X e te) (hK:X.K=K:=by rfl) (hg:Gl X "len" := by rfl) (hs:isStar e=false:=by rfl)
  (he:starEach [e] X.env=(false,eval e X.env)::starEach [] X.env:=by rfl) (hpl:(backTo pos (starEach [] X.env)).any (·.1)=false:=by rfl):PE X (.Call (.Name "len" p) [e] [] pos) (PB (CY K) (nX te kg)):=by
 subst hK; exact bc vJ hg hm boot_len (ao h dD hs) (by decide) (by decide) he hpl
theorem bR (K:N7){f:Str}(he:PE X e ta) (hK:X.K=K:=by rfl) (hb:attributeBase e f X.env (eval e X.env)=eval e X.env:=by rfl):PE X (.Attribute e f pos) (GU K ta f):=by subst hK; exact Hx he hb
theorem dB (K:N7){tg:Expr}(hl:PE X e te) (hK:X.K=K:=by rfl):PI X tg e (En K te):=by subst hK; exact FE hl
theorem gB {tg:Expr}{te:TE}(hm:X.mg "range" = none) (h:PE X e te) (hg:Gl X "range" := by rfl) (hi:isStar e=false:=by rfl) (hs:starEach [e] X.env=[(false,eval e X.env)]:=by rfl):PI X tg (.Call (.Name "range" p) [e] [] pos) (Eh (nX te kg)):=A0 hg hm (ao h dD hi) hs
theorem jX (K:N7){o:Expr}{to:TE}{apos cpos:Pos}(ho:PE X o to) (h:PE X e te) (hK:X.K=K:=by rfl) (hsr:isStar e=false:=by rfl) (hbase:attributeBase o "append" X.env (eval o X.env)=eval o X.env:=by rfl)
  (hfew:((backTo cpos (starEach [e] X.env)).all (fun x=> !x.1) && (backToKw cpos (keywordEach [] X.env)).all (fun x=>x.1.isSome)
   && decide ([e].length+([]:List Keyword).length+(if ([]:List Keyword).isEmpty then 0 else 1) < 30))=true:=by rfl)
  (hline:(apos.endLine == cpos.line)=true:=by rfl) (hs:starEach [e] X.env=(false,eval e X.env)::starEach [] X.env:=by rfl) (hplain:(backTo cpos (starEach [] X.env)).any (·.1)=false:=by rfl) :
  PE X (.Call (.Attribute o "append" apos) [e] [] cpos) (O3 K "list" zm to (nX te kg)):=by
 subst hK; exact jP Lj PySem.F.slot_list_append PySem.F.type_list_append BS ho (ao h dD hsr) hbase hfew hline hs hplain
theorem de {tg iter:Expr}{body:List Stmt}{wi:TI}{g:TG}{tb:TS}(hi:PI X tg iter wi) (hg:PG X tg g) (hb:Ov X body tb) (hp:PassesOwn (model X.prog X.w) X.A X.env X.xe:=by exact Nj) (hc:X.calm=true:=by rfl)
  (hs: ∀x,foldedSetIterable iter X.env x=pure x:=by intro _; rfl):PS X (.For tg iter body [] pos) (G0 wi g tb):=F5 hp hc hi hg hb hs
section
variable {scope:Scope}{tg elt iter:Expr}{ifs:List Expr}{wi:TI}{g:TG}{tt:TT}
theorem gW (st:Stmt) (own frn:List Str) (fr:List Nat) (go:mS own.length g) (hi:PI X tg iter wi)
  (hb: ∀C s2 H2 fp,PG (bf X (own++frn) scope C s2 H2 fp) tg g/\O9 (bf X (own++frn) scope C s2 H2 fp) ifs tt/\PE (bf X (own++frn) scope C s2 H2 fp) elt te)
  (S:i9 (aj st) scope own frn:=by exact⟨rfl,by trivial,by trivial,by trivial,by trivial,by trivial⟩) (hp:X.env.scope=aj st:=by rfl) (hfr:fr.map (fun j=>X.N[j]?)=frn.map some:=by rfl) (hc:X.calm=true:=by rfl)
  (hs: ∀x,foldedSetIterable iter X.env x=pure x:=by intro _; rfl):PE X (.ListComp elt [⟨tg,iter,ifs,0⟩] scope pos) (sN wi g tt te own fr):=Fl S hp hfr hc go hi hb hs
theorem Pr (i:Nat){y:Str}{py spos:Pos}(hN:X.N.Nodup) (st:Stmt) (own frn:List Str) (fr:List Nat) (go:mS own.length g) (hi:PI X tg iter wi)
  (hb: ∀C s2 H2 fp,PG (bf X (own++frn) scope C s2 H2 fp) tg g/\O9 (bf X (own++frn) scope C s2 H2 fp) ifs tt/\PE (bf X (own++frn) scope C s2 H2 fp) elt te)
  (hy:X.N[i]?=some y:=by rfl) (hl:Loc X.env.scope y:=by first | exact Or.inl rfl | exact Or.inr rfl)
  (S:i9 (aj st) scope own frn:=by exact⟨rfl,by trivial,by trivial,by trivial,by trivial,by trivial⟩) (hp:X.env.scope=aj st:=by rfl) (hfr:fr.map (fun j=>X.N[j]?)=frn.map some:=by rfl) (hc:X.calm=true:=by rfl)
  (hsw:swapsWith (.ListComp elt [⟨tg,iter,ifs,0⟩] scope pos) (some (.Name y py)) spos.line X.env=pure true:=by rfl)
  (hs: ∀x,foldedSetIterable iter X.env x=pure x:=by intro _; rfl)
  (hf:X.fn y=true\/X.env.scope.names.lookup y=some .local:=by first | exact .inl rfl | exact .inr rfl | assumption) :
  PS X (.Assign [.Name y py] (.ListComp elt [⟨tg,iter,ifs,0⟩] scope pos) spos) (yf (sN wi g tt te own fr) (aO i)):=EI hN hy hl S hp hfr hc go hi hb hsw hs hf
end
end
section
variable {P:Program}{w:World}{K:N7}{mg:Str->Option Value}{base:Heap}{x m qual:Str}{C:Addr}{st:Stmt}{N ps:List Str}{k:Nat}{sp:Sp}
theorem b9 (h:TF K mg x st) (S:ay N ps (aj st)) (hbody: ∀(f:Addr) (cdv:Value) (A:Around) (outer:List Env) (s:Shared) (H:Hp) (vs:List V) (Q:VK) (E:XK),bC k (A.deeper (envOfC x (aj st) s.heap.objs.size f cdv))->sp vs H Q E ->
   ∃t,Ov ((gu OC P w K mg base N x (aj st) f cdv A outer s H E).Pe) (bO st) t/\t { nx:=fun _ H'=>Q .non H',rt:=Q } (start N vs) H)
  (hb: ∀(kV doc pm:Value) (an:Option Addr) (cdv ct:Value) (us:List Value),us.length=ps.length->bindArgs (PySem.W.fnOf x x (dG st) (bO st) (aj st) .none kV doc pm an cdv ct) ⟨us,[]⟩=pure (ps.zip us):=by trivial)
  (len: ∀vs H Q E,sp vs H Q E->vs.length=ps.length:=by trivial):Oj P w K mg base (k+1) x ps sp:=lb h S hb len hbody
theorem tR (h:TF K mg x st) (S:ay N ps (aj st)) (hbody: ∀(f:Addr) (cdv:Value) (A:Around) (outer:List Env) (s:Shared) (H:Hp) (vs:List V) (Q:VK) (E:XK),bC k (A.deeper (envOfC x (aj st) s.heap.objs.size f cdv))->sp vs H Q E ->
   ∃t,Ov ((gu (OH P w) P w K mg base N x (aj st) f cdv A outer s H E).exc [] fun _=>E) (bO st) t/\t { nx:=fun _ H'=>Q .non H',rt:=Q } (start N vs) H)
  (hb: ∀(kV doc pm:Value) (an:Option Addr) (cdv ct:Value) (us:List Value),us.length=ps.length->bindArgs (PySem.W.fnOf x x (dG st) (bO st) (aj st) .none kV doc pm an cdv ct) ⟨us,[]⟩=pure (ps.zip us):=by trivial)
  (len: ∀vs H Q E,sp vs H Q E->vs.length=ps.length:=by trivial):O5 P w K mg base (k+1) x ps sp:=GF h S hb len hbody
theorem pW (h:TM K C m qual st) (S:ay N ps (aj st)) (hbody: ∀(f:Addr) (cdv:Value) (A:Around) (outer:List Env) (s:Shared) (H:Hp) (vs:List V) (Q:VK) (E:XK),bC k (A.deeper (envOfC qual (aj st) s.heap.objs.size f cdv))->sp vs H Q E ->
   ∃t,Ov ((gu OC P w K mg base N qual (aj st) f cdv A outer s H E).Pe) (bO st) t/\t { nx:=fun _ H'=>Q .non H',rt:=Q } (start N vs) H)
  (hb: ∀(kV doc pm:Value) (an:Option Addr) (cdv ct:Value) (us:List Value),us.length=ps.length->bindArgs (PySem.W.fnOf m qual (dG st) (bO st) (aj st) .none kV doc pm an cdv ct) ⟨us,[]⟩=pure (ps.zip us):=by trivial)
  (len: ∀vs H Q E,sp vs H Q E->vs.length=ps.length:=by trivial):GM OC P w K mg base (k+1) C m ps sp:=Ho h S hb len hbody
theorem hV (h:TM K C m qual st) (S:ay N ps (aj st)) (hbody: ∀(f:Addr) (cdv:Value) (A:Around) (outer:List Env) (s:Shared) (H:Hp) (vs:List V) (Q:VK) (E:XK),bC k (A.deeper (envOfC qual (aj st) s.heap.objs.size f cdv))->sp vs H Q E ->
   ∃t,Ov ((gu (OH P w) P w K mg base N qual (aj st) f cdv A outer s H E).exc [] fun _=>E) (bO st) t/\t { nx:=fun _ H'=>Q .non H',rt:=Q } (start N vs) H)
  (hb: ∀(kV doc pm:Value) (an:Option Addr) (cdv ct:Value) (us:List Value),us.length=ps.length->bindArgs (PySem.W.fnOf m qual (dG st) (bO st) (aj st) .none kV doc pm an cdv ct) ⟨us,[]⟩=pure (ps.zip us):=by trivial)
  (len: ∀vs H Q E,sp vs H Q E->vs.length=ps.length:=by trivial):GM (OH P w) P w K mg base (k+1) C m ps sp:=Gk h S hb len hbody
end
end L2
local macro_rules | `(tactic| trivial)=> `(tactic| first | exact fun _ _ _ _ _ _=>L2.P9 fun _=>rfl | exact fun _ _ _ _ _ _=>L2.PV fun _ _=>rfl | exact fun _ _ _ _ _ _=>L2.Po fun _ _ _=>rfl | exact fun _ _ _ _ _ _=>L2.Pz fun _ _ _ _=>rfl | exact fun _ _ _ _ _ _=>L2.P5 fun _ _ _ _ _=>rfl | exact fun _ _ _ _ _ _=>L2.Qd fun _ _ _ _ _ _=>rfl | exact fun _ _ _ _ _ _=>L2.PD rfl | (intro vs H Q E h; repeat first | (obtain⟨e,_⟩:=h; subst e; exact rfl) | (obtain⟨_,h⟩:=h)))
local macro_rules|`(tactic|trivial)=>`(tactic|decide +kernel)
namespace L2
theorem bC.z {j k:Nat}{A:PySem.Around}(r:bC k A) (h:j<=k:=by decide):bC j A:=r.mono h
end L2
namespace K38
open PySem L2
theorem Oe {N P:List Str}{sc:Scope}(k:sc.kind= .function:=by rfl) (c:sc.isCoroutine=false:=by rfl) (g:sc.isGenerator=false:=by rfl) (n:N.Nodup:=by trivial) (p:N.take P.length=P:=by rfl) (r: ∀x∈P,sc.names.lookup x=some .local\/sc.names.lookup x=some .cell:=by trivial) (f: ∀y∈sc.names,y.2≠ .free:=by trivial):ay N P sc:=⟨k,c,g,n,p,r,f⟩
theorem Qw (K:N7){X:Cx}{a b:Expr}{ta tb:TE}{pos:Pos}(ha:PE X a ta) (hb:PE X b tb) (hs:pH b:=by exact fun _ _=>rfl) (e:X.K=K:=by rfl):PE X (.Subscript a b pos) (OT (CG K) ta tb):=e▸qC y6 ha hb hs
theorem Qx (K:N7){X:Cx}{a b:Expr}{ta tb:TE}{pos:Pos}(ha:PE X a ta) (hb:PE X b tb) (hs:pH b:=by exact fun _ _=>rfl) (e:X.K=K:=by rfl):PE X (.Subscript a b pos) (OT (xU K) ta tb):=e▸qC AY ha hb hs
theorem Ko (K:N7){X:Cx}{p pos:Pos}{e:Expr}{es:List Expr}{t:TA}(hm:X.mg "len" = none) (ha:PA X (e::es) t) (hg:Gl X "len" := by rfl) (he:starEach (e::es) X.env=(false,eval e X.env)::starEach es X.env:=by rfl) (hpl:(backTo pos (starEach es X.env)).any (·.1)=false:=by rfl) (eK:X.K=K:=by rfl):PE X (.Call (.Name "len" p) (e::es) [] pos) (PB (CY K) t):=eK▸bc vJ hg hm boot_len ha (by decide) (by decide) he hpl
theorem Of {m:Str}{p q r:Addr}(h:((m == "member_rows") || (m == "demand_rows") || (m == "kept_deeds"))=false:=by trivial):(nU p q r).lookup m=none:=by
 rw[Bool.or_eq_false_iff,Bool.or_eq_false_iff] at h
 exact (ba h.1.1).trans ((ba h.1.2).trans ((ba h.2).trans rfl))
def top (i:Nat):Stmt:=PySem.Challenge.pw_stairgauge_k38_whole_anew.main.body.getD i (.Pass ⟨0,0,0,0⟩)
abbrev ua:Stmt:=top 11
theorem BK:ay ["number","span"] ["number","span"] (aj ua):=Oe
abbrev rV:Stmt:=top 14
theorem Ak:ay ["rule"] ["rule"] (aj rV):=Oe
abbrev lY:Stmt:=top 15
theorem uY:ay ["rule","widths"] ["rule","widths"] (aj lY):=Oe
abbrev rF:Stmt:=top 16
theorem p8:ay ["rules","widths","wider","rule"] ["rules","widths"] (aj rF):=Oe
abbrev jZ:Stmt:=top 17
theorem fh:ay ["count","rules","widths","spent","wider"] ["count","rules"] (aj jZ):=Oe
abbrev qv:Stmt:=top 19
theorem yB:ay ["rule","widths"] ["rule","widths"] (aj qv):=Oe
abbrev j6:Stmt:=top 20
theorem fo:ay ["rules","widths","goal","fewest","waiting","member","rule"] ["rules","widths","goal"] (aj j6):=Oe
abbrev eZ:Stmt:=top 21
theorem ko:ay ["rules","widths","fewest","places","nearest"] ["rules","widths","fewest"] (aj eZ):=Oe
abbrev gC:Stmt:=top 22
theorem lG:ay ["rules","widths","fewest","member","nearer","links"] ["rules","widths","fewest","member"] (aj gC):=Oe
abbrev p9:Stmt:=top 23
theorem kY:ay ["count","rules","member","widths","fewest","chain"] ["count","rules","member"] (aj p9):=Oe
abbrev rB:Stmt:=top 25
theorem uE:ay ["count","rules","place","others"] ["count","rules","place"] (aj rB):=Oe
abbrev kF:Stmt:=top 37
theorem uO:ay ["sign"] ["sign"] (aj kF):=Oe
abbrev kT:Stmt:=top 38
theorem xY:ay ["text"] ["text"] (aj kT):=Oe
abbrev rb:Stmt:=top 40
theorem uL:ay ["people","each","over","width"] ["people","each","over"] (aj rb):=Oe
abbrev pU:Stmt:=top 42
theorem gi:ay ["rules","start","goal","ways","waiting","member","place","rule"] ["rules","start","goal"] (aj pU):=Oe
abbrev oO:Stmt:=top 43
theorem jC:ay ["count","rules","place","rule","way"] ["count","rules"] (aj oO):=Oe
abbrev ve:Stmt:=top 45
theorem DF:ay ["width","top"] ["width","top"] (aj ve):=Oe
abbrev nv:Stmt:=top 46
theorem lO:ay ["widths","tops","place","width"] ["widths","tops"] (aj nv):=Oe
abbrev tN:Stmt:=top 47
theorem Br:ay ["width","top"] ["width","top"] (aj tN):=Oe
abbrev jB:Stmt:=top 48
theorem gm:ay ["count","rules","tops","member","least","growth","widths","excesses","worst"] ["count","rules","tops","member"] (aj jB):=Oe
abbrev iP:Stmt:=top 50
theorem sW:ay ["name","names"] ["name","names"] (aj iP):=Oe
abbrev qq:Stmt:=top 51
theorem yI:ay ["name","names"] ["name","names"] (aj qq):=Oe
abbrev hU:Stmt:=top 52
theorem rX:ay ["name","names"] ["name","names"] (aj hU):=Oe
abbrev iU:Stmt:=top 53
theorem sS:ay ["number","span"] ["number","span"] (aj iU):=Oe
abbrev lX:Stmt:=top 54
theorem vj:ay ["count","most"] ["count","most"] (aj lX):=Oe
abbrev rN:Stmt:=top 55
theorem uD:ay ["row","names","base"] ["row","names"] (aj rN):=Oe
abbrev oP:Stmt:=top 58
theorem eO:ay ["_law_script","_law_many","_law_words_here","_law_word","_law_k","_law_cell"] ["_law_script","_law_many"] (aj oP):=Oe
abbrev oF:Stmt:=top 59
theorem bM:ay ["_law_word","_law_many","_law_signs","_law_stem","_law_left","_law_k","_law_spot","_law_made","_law_sign","_law_row_here","_law_five"] ["_law_word","_law_many"] (aj oF):=Oe
abbrev lN:Stmt:=top 60
theorem u7:ay ["_law_people","_law_each","_law_over"] ["_law_people","_law_each","_law_over"] (aj lN):=Oe
abbrev dJ:Stmt:=top 61
theorem bU:ay ["_law_state","_law_sort","_law_name","_law_names_here","_law_asked","_law_caps","_law_stands_here","_law_bound"] ["_law_state","_law_sort","_law_name"] (aj dJ):=Oe
abbrev nR:Stmt:=top 62
theorem mi:ay ["_law_state","_law_kept","_law_deed_here","_law_names_here","_law_asked","_law_caps"] ["_law_state","_law_kept","_law_deed_here"] (aj nR):=Oe
abbrev kQ:Stmt:=top 63
theorem gG:ay ["_law_state","_law_deed_here","_law_names_here","_law_asked","_law_caps"] ["_law_state","_law_deed_here"] (aj kQ):=Oe
abbrev pR:Stmt:=top 64
theorem yH:ay ["_law_house","_law_deed_here"] ["_law_house","_law_deed_here"] (aj pR):=Oe
abbrev pP:Stmt:=top 65
theorem dQ:ay ["_law_house","_law_deed_here","_law_word","_law_told"] ["_law_house","_law_deed_here"] (aj pP):=Oe
abbrev qt:Stmt:=top 66
theorem tw:ay ["_law_house","_law_state","_law_past","_law_deed_here","_law_due_here"] ["_law_house","_law_state","_law_past","_law_deed_here"] (aj qt):=Oe
abbrev pX:Stmt:=top 67
theorem dj:ay ["_law_word","_law_pool","_law_call","_law_block","_law_small","_law_kinds","_law_a","_law_b","_law_size","_law_kind","_law_over","_law_more"] ["_law_word","_law_pool","_law_call","_law_block","_law_small","_law_kinds"] (aj pX):=Oe
abbrev ra:Stmt:=top 68
theorem bP:ay ["_law_script","_law_most","_law_words_here","_law_block","_law_small","_law_first","_law_many","_law_kinds","_law_pool","_law_calls","_law_day_here","_law_k","_law_word","_law_spot"] ["_law_script","_law_most"] (aj ra):=Oe
abbrev oo:Stmt:=top 69
theorem xh:ay ["_law_found"] ["_law_found"] (aj oo):=Oe
abbrev oJ:Stmt:=top 70
theorem qR:ay ["_law_found","_law_due_here","_law_k"] ["_law_found","_law_due_here"] (aj oJ):=Oe
abbrev qP:Stmt:=top 71
theorem uC:ay ["_law_found","_law_due_here","_law_k"] ["_law_found","_law_due_here"] (aj qP):=Oe
abbrev jL:Stmt:=top 72
theorem iO:ay ["_law_house","_law_due_here","_law_found","_law_k"] ["_law_house","_law_due_here"] (aj jL):=Oe
abbrev gU:Stmt:=top 73
theorem gv:ay ["_law_house","_law_asked","_law_found","_law_k"] ["_law_house","_law_asked"] (aj gU):=Oe
abbrev jM:Stmt:=top 74
theorem iJ:ay ["_law_house","_law_state","_law_names_here","_law_asked","_law_caps"] ["_law_house","_law_state"] (aj jM):=Oe
abbrev n6:Stmt:=top 75
theorem eA:ay ["_law_count","_law_rules_here","_law_far_here","_law_k","_law_on","_law_base","_law_more","_law_mid","_law_a","_law_b"] ["_law_count","_law_rules_here"] (aj n6):=Oe
abbrev oH:Stmt:=top 76
theorem dq:ay ["_law_count","_law_rules_here","_law_far_here","_law_first","_law_on","_law_base","_law_more","_law_due_here","_law_a","_law_b"] ["_law_count","_law_rules_here"] (aj oH):=Oe
abbrev oI:Stmt:=top 77
theorem dU:ay ["_law_state","_law_made","_law_call","_law_member","_law_base","_law_number","_law_spot"] ["_law_state"] (aj oI):=Oe
abbrev jI:Stmt:=top 78
theorem tJ:ay ["_law_house"] ["_law_house"] (aj jI):=Oe
abbrev qf:Stmt:=top 79
theorem dP:ay ["_law_state","_law_threes","_law_house","_law_name","_law_call","_law_member","_law_base","_law_number","_law_three"] ["_law_state","_law_threes"] (aj qf):=Oe
abbrev kK:Stmt:=top 80
theorem uM:ay ["_law_one","_law_other"] ["_law_one","_law_other"] (aj kK):=Oe
abbrev jt:Stmt:=top 81
theorem dH:ay ["_law_house","_law_fresh","_law_state","_law_name","_law_one","_law_other","_law_row_here","_law_price"] ["_law_house","_law_fresh","_law_state"] (aj jt):=Oe
abbrev An:Stmt:=top 82
theorem iE:ay ["_law_script","_law_house","_law_state","_law_past","_law_threes","_law_deed_here","_law_fresh","_law_found","_law_due_here"] ["_law_script"] (aj An):=Oe
abbrev mQ:Stmt:=inClass (top 56) 0
theorem wj:ay ["self"] ["self"] (aj mQ):=Oe
abbrev ip:Stmt:=inClass (top 56) 1
theorem rM:ay ["self"] ["self"] (aj ip):=Oe
abbrev g0:Stmt:=inClass (top 56) 2
theorem qK:ay ["self","name"] ["self","name"] (aj g0):=Oe
abbrev hZ:Stmt:=inClass (top 56) 3
theorem rS:ay ["self","name","member","people","each","over"] ["self","name","member","people","each","over"] (aj hZ):=Oe
abbrev iT:Stmt:=inClass (top 56) 4
theorem sU:ay ["self","name","member","base","more"] ["self","name","member","base","more"] (aj iT):=Oe
abbrev fS:Stmt:=inClass (top 56) 5
theorem pF:ay ["self","row"] ["self","row"] (aj fS):=Oe
abbrev jF:Stmt:=inClass (top 56) 6
theorem nA:ay ["self","member","width","place"] ["self","member","width"] (aj jF):=Oe
abbrev gZ:Stmt:=inClass (top 56) 7
theorem jS:ay ["self","place","top","row"] ["self","place","top"] (aj gZ):=Oe
abbrev dZ:Stmt:=inClass (top 56) 8
theorem iC:ay ["self","name","place"] ["self","name"] (aj dZ):=Oe
abbrev fO:Stmt:=inClass (top 56) 9
theorem iD:ay ["self","name","place"] ["self","name"] (aj fO):=Oe
abbrev g7:Stmt:=inClass (top 56) 10
theorem jV:ay ["self","member","place"] ["self","member"] (aj g7):=Oe
abbrev h8:Stmt:=inClass (top 56) 11
theorem lB:ay ["self","stood"] ["self"] (aj h8):=Oe
abbrev gy:Stmt:=inClass (top 56) 12
theorem tI:ay ["self"] ["self"] (aj gy):=Oe
abbrev jO:Stmt:=inClass (top 56) 13
theorem t4:ay ["self"] ["self"] (aj jO):=Oe
abbrev jw:Stmt:=inClass (top 56) 14
theorem wo:ay ["self"] ["self"] (aj jw):=Oe
abbrev eE:Stmt:=inClass (top 56) 15
theorem oZ:ay ["self"] ["self"] (aj eE):=Oe
abbrev dC:Stmt:=inClass (top 56) 16
theorem mX:ay ["self"] ["self"] (aj dC):=Oe
abbrev iL:Stmt:=inClass (top 56) 17
theorem o8:ay ["self","names"] ["self"] (aj iL):=Oe
abbrev fY:Stmt:=inClass (top 56) 18
theorem sV:ay ["self","places"] ["self","places"] (aj fY):=Oe
abbrev kN:Stmt:=inClass (top 56) 19
theorem nQ:ay ["self","least"] ["self"] (aj kN):=Oe
abbrev gx:Stmt:=inClass (top 56) 20
theorem jn:ay ["self","name","names","place"] ["self","name","names"] (aj gx):=Oe
abbrev lR:Stmt:=inClass (top 56) 21
theorem o7:ay ["self","member","place"] ["self","member"] (aj lR):=Oe
abbrev oE:Stmt:=inClass (top 56) 22
theorem gI:ay ["self","count","rules","ring","place"] ["self"] (aj oE):=Oe
abbrev lH:Stmt:=inClass (top 56) 23
theorem j4:ay ["self","member","place","found"] ["self","member"] (aj lH):=Oe
abbrev nF:Stmt:=inClass (top 56) 24
theorem qJ:ay ["self","demand","place"] ["self","demand"] (aj nF):=Oe
structure Adr where
 (Unknown InUse BadName BadNumber TooMuch Full NothingBack NoWidths House:Addr)
structure Txt (K:N7) (mg:Str->Option Value) (a:Adr):Prop where
 aq:TC K mg a.House "House"
 aH:gg K a.House "member_rows"
 aN:gg K a.House "demand_rows"
 cw:gg K a.House "kept_deeds"
 t9:TF K mg "inside" ua
 qW:TF K mg "is_link" rV
 lQ:TF K mg "asked_width" lY
 rT:TF K mg "widened" rF
 kJ:TF K mg "least_widths" jZ
 pN:TF K mg "hands_on" qv
 kc:TF K mg "fewest_links" j6
 lW:TF K mg "first_place" eZ
 m9:TF K mg "next_place" gC
 qw:TF K mg "chain_of" p9
 rR:TF K mg "cost_of" rB
 kE:TF K mg "small_letter" kF
 ow:TF K mg "good_name" kT
 r9:TF K mg "portion" rb
 qg:TF K mg "find_way" pU
 ot:TF K mg "find_ring" oO
 vt:TF K mg "above" ve
 nO:TF K mg "first_wide" nv
 t5:TF K mg "excess" tN
 qo:TF K mg "slack_of" jB
 iQ:TF K mg "refuse_unknown" iP
 qx:TF K mg "place_of" qq
 ie:TF K mg "refuse_new_name" hU
 i6:TF K mg "refuse_outside" iU
 lU:TF K mg "refuse_full" lX
 qN:TF K mg "as_rule" rN
 oj:TF K mg "_law_words" oP
 oC:TF K mg "_law_names" oF
 lP:TF K mg "_law_rounded" lN
 i8:TF K mg "_law_due_strike" dJ
 rA:TF K mg "_law_due" nR
 oq:TF K mg "_law_after" kQ
 pQ:TF K mg "_law_hand" pR
 qA:TF K mg "_law_done" pP
 pZ:TF K mg "_law_step" qt
 pI:TF K mg "_law_deed" pX
 qZ:TF K mg "_law_day" ra
 oM:TF K mg "_law_whole" oo
 oz:TF K mg "_law_texts" oJ
 se:TF K mg "_law_row" qP
 jr:TF K mg "_law_tops_told" jL
 gP:TF K mg "_law_demands_told" gU
 mV:TF K mg "_law_stands" jM
 rQ:TF K mg "_law_far" n6
 oG:TF K mg "_law_least" oH
 oK:TF K mg "_law_rules" oI
 jx:TF K mg "_law_widths_of" jI
 qB:TF K mg "_law_anew" qf
 kM:TF K mg "_law_why_same" kK
 ju:TF K mg "_law_same_told" jt
 wG:TF K mg "law" An
 mU:TM K a.House "__init__" "House.__init__" mQ
 h9:TM K a.House "keep_deed" "House.keep_deed" ip
 gO:TM K a.House "add_member" "House.add_member" g0
 hE:TM K a.House "add_plain" "House.add_plain" hZ
 i5:TM K a.House "add_link" "House.add_link" iT
 f9:TM K a.House "bring_demand" "House.bring_demand" fS
 jq:TM K a.House "set_top" "House.set_top" jF
 gY:TM K a.House "change_top" "House.change_top" gZ
 fK:TM K a.House "strike_member" "House.strike_member" dZ
 fD:TM K a.House "strike_demand" "House.strike_demand" fO
 gQ:TM K a.House "strike_top" "House.strike_top" g7
 ik:TM K a.House "take_back" "House.take_back" h8
 jJ:TM K a.House "members" "House.members" gy
 jR:TM K a.House "demands" "House.demands" jO
 nK:TM K a.House "tops" "House.tops" jw
 fU:TM K a.House "demand_names" "House.demand_names" eE
 eY:TM K a.House "greatest_widths" "House.greatest_widths" dC
 md:TM K a.House "rules" "House.rules" iL
 i4:TM K a.House "names_at" "House.names_at" fY
 kH:TM K a.House "widths" "House.widths" kN
 gr:TM K a.House "asked_place" "House.asked_place" gx
 lK:TM K a.House "chain" "House.chain" lR
 ou:TM K a.House "why" "House.why" oE
 lL:TM K a.House "slack" "House.slack" lH
 mR:TM K a.House "cost" "House.cost" nF
 mW:jz K mg "NAME_SIGNS" [.int 1,.int 8]
 ub:jz K mg "PEOPLE" [.int 0,.int 999]
 xj:jz K mg "EACH" [.int 1,.int 999]
 yp:jz K mg "OVER" [.int 1,.int 999]
 jW:mT mg "PORTION_MOST" (.int 99999)
 kI:mT mg "MEMBERS_MOST" (.int 12)
 j7:mT mg "DEMANDS_MOST" (.int 24)
 oN:jz K mg "LINK_MORE" [.int 0,.int 99]
 ox:jz K mg "TOP_WIDTH" [.int 0,.int 99999]
 nz:mT mg "DEEDS_MOST" (.int 150)
 ly:mT mg "NO_BASE" (.int (-1))
 AD:mg "all" = none
 zU:mg "any" = none
 w5:mg "bool" = none
 wZ:mg "dict" = none
 fv:mg "enumerate" = none
 kU:mg "int" = none
 bz:mg "isinstance" = none
 bI:mg "len" = none
 iA:mg "list" = none
 kR:mg "max" = none
 uk:mg "min" = none
 cF:mg "range" = none
 sP:mg "str" = none
 wJ:mg "sum" = none
 mE:mg "tuple" = none
 Al:mg "zip" = none
 jh:XC K mg "Unknown" a.Unknown
 je:XC K mg "InUse" a.InUse
 rg:XC K mg "BadName" a.BadName
 kX:XC K mg "BadNumber" a.BadNumber
 gH:XC K mg "TooMuch" a.TooMuch
 lz:XC K mg "Full" a.Full
 cT:XC K mg "NothingBack" a.NothingBack
 jE:XC K mg "NoWidths" a.NoWidths
 ij:b8 K (.ref a.Unknown) a.Unknown=some true
 jl:b8 K (.ref a.InUse) a.Unknown=some false
 lZ:b8 K (.ref a.InUse) a.InUse=some true
 iw:b8 K (.ref a.TooMuch) a.Unknown=some false
 jN:b8 K (.ref a.TooMuch) a.InUse=some false
 iq:b8 K (.ref a.TooMuch) a.TooMuch=some true
 km:b8 K (.ref a.Full) a.Unknown=some false
 nL:b8 K (.ref a.Full) a.InUse=some false
 kP:b8 K (.ref a.Full) a.TooMuch=some false
 om:b8 K (.ref a.Full) a.Full=some true
 fF:b8 K (.ref a.NothingBack) a.Unknown=some false
 gq:b8 K (.ref a.NothingBack) a.InUse=some false
 fH:b8 K (.ref a.NothingBack) a.TooMuch=some false
 gD:b8 K (.ref a.NothingBack) a.Full=some false
 eD:b8 K (.ref a.NothingBack) a.NothingBack=some true
 gw:b8 K (.ref a.NoWidths) a.NoWidths=some true
theorem Gp {K:N7}{mg:Str->Option Value}{cUnknown cInUse cBadName cBadNumber cTooMuch cFull cNothingBack cNoWidths cHouse:Addr}(aq:TC K mg cHouse "House") (aH:gg K cHouse "member_rows") (aN:gg K cHouse "demand_rows") (cw:gg K cHouse "kept_deeds") (t9:TF K mg "inside" ua) (qW:TF K mg "is_link" rV) (lQ:TF K mg "asked_width" lY) (rT:TF K mg "widened" rF) (kJ:TF K mg "least_widths" jZ) (pN:TF K mg "hands_on" qv) (kc:TF K mg "fewest_links" j6) (lW:TF K mg "first_place" eZ) (m9:TF K mg "next_place" gC) (qw:TF K mg "chain_of" p9) (rR:TF K mg "cost_of" rB) (kE:TF K mg "small_letter" kF) (ow:TF K mg "good_name" kT) (r9:TF K mg "portion" rb) (qg:TF K mg "find_way" pU) (ot:TF K mg "find_ring" oO) (vt:TF K mg "above" ve) (nO:TF K mg "first_wide" nv) (t5:TF K mg "excess" tN) (qo:TF K mg "slack_of" jB) (iQ:TF K mg "refuse_unknown" iP) (qx:TF K mg "place_of" qq) (ie:TF K mg "refuse_new_name" hU) (i6:TF K mg "refuse_outside" iU) (lU:TF K mg "refuse_full" lX) (qN:TF K mg "as_rule" rN) (oj:TF K mg "_law_words" oP) (oC:TF K mg "_law_names" oF) (lP:TF K mg "_law_rounded" lN) (i8:TF K mg "_law_due_strike" dJ) (rA:TF K mg "_law_due" nR) (oq:TF K mg "_law_after" kQ) (pQ:TF K mg "_law_hand" pR) (qA:TF K mg "_law_done" pP) (pZ:TF K mg "_law_step" qt) (pI:TF K mg "_law_deed" pX) (qZ:TF K mg "_law_day" ra) (oM:TF K mg "_law_whole" oo) (oz:TF K mg "_law_texts" oJ) (se:TF K mg "_law_row" qP) (jr:TF K mg "_law_tops_told" jL) (gP:TF K mg "_law_demands_told" gU) (mV:TF K mg "_law_stands" jM) (rQ:TF K mg "_law_far" n6) (oG:TF K mg "_law_least" oH) (oK:TF K mg "_law_rules" oI) (jx:TF K mg "_law_widths_of" jI) (qB:TF K mg "_law_anew" qf) (kM:TF K mg "_law_why_same" kK) (ju:TF K mg "_law_same_told" jt) (wG:TF K mg "law" An) (mU:TM K cHouse "__init__" "House.__init__" mQ) (h9:TM K cHouse "keep_deed" "House.keep_deed" ip) (gO:TM K cHouse "add_member" "House.add_member" g0) (hE:TM K cHouse "add_plain" "House.add_plain" hZ) (i5:TM K cHouse "add_link" "House.add_link" iT) (f9:TM K cHouse "bring_demand" "House.bring_demand" fS) (jq:TM K cHouse "set_top" "House.set_top" jF) (gY:TM K cHouse "change_top" "House.change_top" gZ) (fK:TM K cHouse "strike_member" "House.strike_member" dZ) (fD:TM K cHouse "strike_demand" "House.strike_demand" fO) (gQ:TM K cHouse "strike_top" "House.strike_top" g7) (ik:TM K cHouse "take_back" "House.take_back" h8) (jJ:TM K cHouse "members" "House.members" gy) (jR:TM K cHouse "demands" "House.demands" jO) (nK:TM K cHouse "tops" "House.tops" jw) (fU:TM K cHouse "demand_names" "House.demand_names" eE) (eY:TM K cHouse "greatest_widths" "House.greatest_widths" dC) (md:TM K cHouse "rules" "House.rules" iL) (i4:TM K cHouse "names_at" "House.names_at" fY) (kH:TM K cHouse "widths" "House.widths" kN) (gr:TM K cHouse "asked_place" "House.asked_place" gx) (lK:TM K cHouse "chain" "House.chain" lR) (ou:TM K cHouse "why" "House.why" oE) (lL:TM K cHouse "slack" "House.slack" lH) (mR:TM K cHouse "cost" "House.cost" nF) (mW:jz K mg "NAME_SIGNS" [.int 1,.int 8]) (ub:jz K mg "PEOPLE" [.int 0,.int 999]) (xj:jz K mg "EACH" [.int 1,.int 999]) (yp:jz K mg "OVER" [.int 1,.int 999]) (jW:mT mg "PORTION_MOST" (.int 99999)) (kI:mT mg "MEMBERS_MOST" (.int 12)) (j7:mT mg "DEMANDS_MOST" (.int 24)) (oN:jz K mg "LINK_MORE" [.int 0,.int 99]) (ox:jz K mg "TOP_WIDTH" [.int 0,.int 99999]) (nz:mT mg "DEEDS_MOST" (.int 150)) (ly:mT mg "NO_BASE" (.int (-1))) (AD:mg "all" = none) (zU:mg "any" = none) (w5:mg "bool" = none) (wZ:mg "dict" = none) (fv:mg "enumerate" = none) (kU:mg "int" = none) (bz:mg "isinstance" = none) (bI:mg "len" = none) (iA:mg "list" = none) (kR:mg "max" = none) (uk:mg "min" = none) (cF:mg "range" = none) (sP:mg "str" = none) (wJ:mg "sum" = none) (mE:mg "tuple" = none) (Al:mg "zip" = none) (jh:XC K mg "Unknown" cUnknown) (je:XC K mg "InUse" cInUse) (rg:XC K mg "BadName" cBadName) (kX:XC K mg "BadNumber" cBadNumber) (gH:XC K mg "TooMuch" cTooMuch) (lz:XC K mg "Full" cFull) (cT:XC K mg "NothingBack" cNothingBack) (jE:XC K mg "NoWidths" cNoWidths) (ij:b8 K (.ref cUnknown) cUnknown=some true) (jl:b8 K (.ref cInUse) cUnknown=some false) (lZ:b8 K (.ref cInUse) cInUse=some true) (iw:b8 K (.ref cTooMuch) cUnknown=some false) (jN:b8 K (.ref cTooMuch) cInUse=some false) (iq:b8 K (.ref cTooMuch) cTooMuch=some true) (km:b8 K (.ref cFull) cUnknown=some false) (nL:b8 K (.ref cFull) cInUse=some false) (kP:b8 K (.ref cFull) cTooMuch=some false) (om:b8 K (.ref cFull) cFull=some true) (fF:b8 K (.ref cNothingBack) cUnknown=some false) (gq:b8 K (.ref cNothingBack) cInUse=some false) (fH:b8 K (.ref cNothingBack) cTooMuch=some false) (gD:b8 K (.ref cNothingBack) cFull=some false) (eD:b8 K (.ref cNothingBack) cNothingBack=some true) (gw:b8 K (.ref cNoWidths) cNoWidths=some true): ∃a:Adr,Txt K mg a :=
 ⟨⟨cUnknown,cInUse,cBadName,cBadNumber,cTooMuch,cFull,cNothingBack,cNoWidths,cHouse⟩,aq,aH,aN,cw,t9,qW,lQ,rT,kJ,pN,kc,lW,m9,qw,rR,kE,ow,r9,qg,ot,vt,nO,t5,qo,iQ,qx,ie,i6,lU,qN,oj,oC,lP,i8,rA,oq,pQ,qA,pZ,pI,qZ,oM,oz,se,jr,gP,mV,rQ,oG,oK,jx,qB,kM,ju,wG,mU,h9,gO,hE,i5,f9,jq,gY,fK,fD,gQ,ik,jJ,jR,nK,fU,eY,md,i4,kH,gr,lK,ou,lL,mR,mW,ub,xj,yp,jW,kI,j7,oN,ox,nz,ly,AD,zU,w5,wZ,fv,kU,bz,bI,iA,kR,uk,cF,sP,wJ,mE,Al,jh,je,rg,kX,gH,lz,cT,jE,ij,jl,lZ,iw,jN,iq,km,nL,kP,om,fF,gq,fH,gD,eD,gw⟩
def BD (K:N7):Sp:=fun vs H Q _=> ∃(a:Addr) (ns:List Int),vs=[.ref a]/\N5 K H a (ns.map V.int)/\ns.length<=63/\ ∀H',Q (.bl true) H'
open MA (Oh bJ dX bg loop Met Le)
def zN (K:N7):Sp:=fun vs H Q _=> ∃v q,vs=[v]/\js K H v q/\Q (.bl (!decide (q.2.1= -1))) H
def DI (K:N7):Sp:=fun vs H Q _=> ∃v q w ws,vs=[v,.ref w]/\js K H v q/\N5 K H w (ws.map V.int)/\Oh ws.length q/\Q (.int (MA.ask (MA.g ws) q)) H
def Aq (K:N7):Sp:=fun vs H Q _=> ∃r rs w ws,vs=[.ref r,.ref w]/\OU K H r rs/\N5 K H w (ws.map V.int)/\(∀q∈rs,Oh ws.length q)/\ ∀p H',H p=none->ag H H'->H' p=some (.lst ((bJ rs ws).map V.int))->Q (.ref p) H'
def DY (K:N7):Sp:=fun vs H Q _=> ∃(n:Nat) (r:Addr) (rs:List MA.au),vs=[.int n,.ref r]/\n<=1000/\OU K H r rs/\(∀q∈rs,Oh n q) /\
 (∀H',ag H H'->bg n rs=none->Q .non H')/\(∀p L H',H p=none->ag H H'->bg n rs=some L->H' p=some (.lst (L.map V.int))->Q (.ref p) H')
def isInt:V->Bool
 | .int _=>true
 | _=>false
def D4 (K:N7):Sp:=fun vs H Q _=> ∃(v:V),vs=[v]/\(∃b1 b2,P0 K v H "int" b1/\P0 K v H "bool" b2/\(b1 && !b2)=isInt v)/\Q (.bl (isInt v)) H
section
variable {P:Program}{w:World}{K:N7}{mg:Str->Option Value}{base:Heap}{a:Adr}
def CD (K:N7):Sp:=fun vs H Q _=> ∃(a:Addr) (ns:List Int) (m:Nat),vs=[.ref a,.int m]/\N5 K H a (ns.map V.int)/\m<=1000/\ ∀(p:Addr) (ws:List Int) (H':Hp),H p=none->ag H H'->H' p=some (.lst (ws.map V.int))->ws.length=m->(∀x∈ws,0<=x)->Q (.ref p) H'
theorem aJ {n:Nat}(h:n<=1000):n < sizeLine:=LJ h (by decide)
theorem Qa {k x y:Int}(h:k=0\/k=1): ∃d:Int,Om ([.int x,.int y]:List V) k=some (.int d)/\(d=x\/d=y):=by
 rcases h with rfl | rfl
 .exact⟨x,rfl,.inl rfl⟩
 .exact⟨y,rfl,.inr rfl⟩
theorem mod2 (x:Int):x % 2=0\/x % 2=1:=by omega
theorem CC (T:Txt K mg a):Oj P w K mg base 1 "_law_words" ["_law_script","_law_many"] (CD K):=by
 refine b9 T.oj eO fun f c A o s H vs Q E hr h=>?_
 obtain⟨a,ns,m,rfl,hS,hm,q⟩:=h
 refine⟨_,(ae (Oa 2 eO.nd (bh dD)) (ae (Oa 3 eO.nd aa) (ae (de (gB T.cF (pv 1)) (gn 4 eO.nd) (ae (Oa 5 eO.nd aa) (eF (aF (aG nY (pv 4) (cE K T.bI (pv 0))) (ah (Oa 5 eO.nd (Od K (pv 0) (pv 4)))) aw) (ae (Oa 3 eO.nd (ax bx (ax xF (ax bH (ax bH (pv 3) (pv 5)) (pv 4)) aa) (ax bH (ax uz aa aa) aa))) (ah (aP (jX K (pv 2) (pv 3)))))))) (ah (av (pv 2)))))),?_⟩
 refine⟨by decide,fun l nl=>?_⟩
 refine⟨_,rfl,_,rfl,by omega,by omega,?_⟩
 rw[KW]
 refine fk (xs:=cj 0 m) (fun i σ' H'=> ∃(ws:List Int) (wd:Int) (v4 v5:Option V),σ'=[some (.ref a),some (.int m),some (.ref l),some (.int wd),v4,v5]/\ag H H'/\H' l=some (.lst (ws.map V.int))/\ws.length=i/\ ∀x∈ws,0<=x) ⟨[],_,none,none,rfl,ag.upd nl,af,rfl,fun x hx=>by cases hx⟩ (fun i σ' H' _ _=>cK) ?_ ?_
 .rintro i x σ' H' hi ⟨ws,wd,v4,v5,rfl,sm,hl,hw,h0⟩
  obtain⟨hi,rfl⟩:=bW hi
  refine⟨fun σ2 H2=> ∃c:Int,σ2=[some (.ref a),some (.int m),some (.ref l),some (.int wd),some (.int (0+(i:Nat))),some (.int c)]/\H2=H',?_,?_⟩
  .refine⟨_,rfl,_,rfl,_,_,rfl,.inl ⟨_,sm.seq hS,rfl⟩,_,_,rfl,rfl,_,rfl,?_⟩
   rw[Kq]
   refine bD (fun c=>?_) (fun c=>?_)
   .have c:=KY c
    exact⟨_,rfl,_,rfl,a,_,_,_,rfl,rfl,sm.seq hS,fj (by omega) c,_,rfl,rfl⟩
   .exact⟨0,rfl,rfl⟩
  rintro σ2 H2 ⟨c,rfl,rfl⟩
  refine⟨_,rfl,_,rfl,_,_,rfl,rfl,_,rfl,_,_,rfl,rfl,_,_,rfl,rfl,.inr ⟨by decide,by decide⟩,_,_,rfl,rfl,⟨by decide,by decide,by decide⟩,_,_,rfl,rfl,_,_,rfl,rfl,(by show (0:Int) < 10 ^ 18+9; decide),?_⟩
  refine⟨_,rfl,.inl ⟨rfl,_,N5.of hl⟩,_,rfl,l,_,_,rfl,rfl,hl,by rw[Kq,hw]; exact aJ (by omega),?_⟩
  refine⟨ws++[(wd+c+(0+(i:Nat)))*618033988749894849 % (10 ^ 18+9)],_,_,_,rfl,sm.dA nl,by rw[af,KO]; rfl,by rw[KC,hw]; rfl,fun x hx=>?_⟩
  rcases KI.mp hx with hx | hx
  .exact h0 x hx
  .rw[Kt.mp hx]
   exact L5 _ (by decide)
 .rintro σ' H' ⟨ws,wd,v4,v5,rfl,sm,hl,hw,h0⟩
  rw[cR] at hw
  exact⟨_,rfl,q l ws H' nl sm hl hw h0⟩
theorem nN (T:Txt K mg a):Oj P w K mg base 1 "_law_whole" ["_law_found"] (D4 K):=by
 refine b9 T.oM xh fun f c A o s H vs Q E hr h=>?_
 obtain⟨v,rfl,⟨b1,b2,h1,h2,e⟩,q⟩:=h
 refine⟨_,(ah (av (jy (oW (bc dr (by rfl) T.bz boot_isinstance (ao (pv 0) (N6 (d9 (v:= .ty "int") rfl T.kU boot_int rfl)))) (nI (Hz (bc dr (by rfl) T.bz boot_isinstance (ao (pv 0) (N6 (d9 (v:= .ty "bool") rfl T.w5 boot_bool rfl)))))))))),?_⟩
 refine⟨fun v' H'=>v'= .bl (isInt v)/\H'=H,?_,fun v' H' z=>by rw[z.1,z.2]; exact q⟩
 refine⟨_,rfl,_,"int",b1,rfl,h1,_,rfl,?_⟩
 rw[<-e]
 refine bD (fun c=>?_) (fun c=>?_)
 .subst c
  exact⟨_,rfl,_,"bool",b2,rfl,h2,_,rfl,rfl,rfl⟩
 .rw[K8] at c
  subst c
  exact⟨rfl,rfl⟩
def D7 (K:N7):Sp:=fun vs H Q _=> ∃(x:Int) (m:Nat),vs=[.int x,.int m]/\m<=32/\ ∀(p:Addr) (ys:List Str) (H':Hp),H p=none->ag H H'->H' p=some (.lst (ys.map V.str))->ys.length=m->(∀y∈ys,Nm y)->Q (.ref p) H'
theorem dF (z:Str):z.cps.toList.length=z.length:=by simp[Str.length]
def uo:Str:= "zyxw"
theorem Fd {k:Int}(h0:0<=k) (h1:k < 4): ∃c,Om uo.cps.toList k=some c/\small c:=by
 have l:uo.cps.toList.length=4:=by trivial
 have s: ∀c∈uo.cps.toList,small c:=by
  unfold small
  decide +kernel
 obtain⟨c,a,b⟩:=AR (xs:=uo.cps.toList) (i:=k) h0 (by omega)
 exact⟨c,a,s c b⟩
def one (y:Str):Prop:= ∃c,y.cps.toList=[c]/\small c
theorem HN:one "z" := ⟨122,by trivial,by unfold small; decide⟩
theorem ID:one "a" := ⟨97,by trivial,by unfold small; decide⟩
theorem IC:one "b" := ⟨98,by trivial,by unfold small; decide⟩
theorem zy: ∀ys:List Str,(∀y∈ys,one y)->((ys.map fun y=>y.cps.toList).flatten).length=ys.length/\(∀c∈(ys.map fun y=>y.cps.toList).flatten,small c)/\(ys.map (·.length)).sum=ys.length
 | [],_=>⟨rfl,(fun c hc=>by cases hc),rfl⟩
 | y::ys,h=>by
  obtain⟨c,e,s⟩:=h y (KG)
  obtain⟨a,b,d⟩:=zy ys fun z hz=>h z (KD _ hz)
  have l1:y.length=1:=by rw[<-dF,e]; rfl
  refine⟨?_,fun x hx=>?_,?_⟩
  .rw[Ld,LP,e,KC,a]
   show 1+ys.length=ys.length+1
   omega
  .rw[Ld,LP,e] at hx
   rcases KI.mp hx with hx | hx
   .rw[Kt.mp hx]; exact s
   .exact b x hx
  .simp only[Ld,NH,K1,l1]
   omega
theorem zr (n:Nat) (c:Nat):(List.replicate n [c]).flatten=List.replicate n c:=by
 induction n with
 | zero=>rfl
 | succ n ih=>rw[Lz,LP,ih,Lz]; rfl
theorem yX {st r:Str}{spot:Int}(e:r.cps.toList=jv st none (some spot)):r.length<=st.length:=by
 rw[<-dF,e]
 unfold jv
 rw[K0,Lv,dF]
 omega
theorem EZ {st r:Str}{spot:Int}(e:r.cps.toList=jv st (some spot) none):r.length<=st.length:=by
 rw[<-dF,e]
 unfold jv
 rw[K0,Lv,dF]
 omega
theorem Dn {st r1 r2:Str}{spot:Int}(h:0<=spot) (e1:r1.cps.toList=jv st none (some spot)) (e2:r2.cps.toList=jv st (some spot) none):r1.length+r2.length=st.length:=by
 rw[<-dF r1,<-dF r2,e1,e2]
 unfold jv
 rw[K0,Lv,K0,Lv,dF,zq _ _ _ h,zq _ _ _ h]
 have h:=NP spot.toNat st.length
 show min (min spot.toNat st.length) st.length+min _ _=st.length
 rw[N1 h]
 exact (Ln _ (Nat.min_self _)).trans (Nat.add_sub_of_le h)
theorem yh (T:Txt K mg a):Oj P w K mg base 1 "_law_names" ["_law_word","_law_many"] (D7 K):=by
 refine b9 T.oC bM fun f c A o s H vs Q E hr h=>?_
 obtain⟨x,m,rfl,hm,q⟩:=h
 refine⟨_,(ae (Oa 2 bM.nd aB) (ae (Oa 3 bM.nd aB) (ae (Oa 4 bM.nd (ax bN (pv 0) aa)) (ae (de (gB T.cF (ax bx (ax bN (pv 0) aa) aa)) (gn 5 bM.nd) (ae (Oa 3 bM.nd (ax mj (pv 3) (qC xm (pv 2) (ax bx (pv 4) aa) (fun _ _=>rfl)))) (ah (Oa 4 bM.nd (ax bN (pv 4) aa))))) (ae (Oa 6 bM.nd (ax bx (ax bN (pv 0) aa) aa)) (ae (Oa 7 bM.nd (bh dD)) (ae (de (gB T.cF (pv 1)) (gn 5 bM.nd) (ae (Oa 8 bM.nd (qC xm (pv 2) (ax bx (ax bH (pv 5) (ax bN (pv 0) aa)) aa) (fun _ _=>rfl))) (ae (Oa 9 bM.nd (ax rC (bh (N6 aB)) aa)) (ae (gF aB (lu (pv 9) (ax bx (pv 5) aa) set_list)) (ae (gF aB (lu (pv 9) (ax bx (ax bH (ax bH (ax bx (pv 5) aa) aa) (ax bN (pv 5) aa)) aa) set_list)) (ae (Oa 10 bM.nd (bh (ao (pv 8) (ao (ax mj (ax mj (eJ BH (pv 3) fP (fE (pv 6))) (pv 8)) (eJ BH (pv 3) (fE (pv 6)) fP)) (N6 (ax zE (pv 8) (ax bH aa (ax bx (pv 5) aa)))))))) (ae (Oa 10 bM.nd (ax gh (pv 10) (bh (ao (ax mj (ax zE aB (ax bx (pv 5) aa)) (qC xm aB (ax bN (pv 5) aa) (fun _ _=>rfl))) (N6 (jP PySem.F.plainAttrs_str PySem.F.slot_str_join PySem.F.type_str_join EN aB (N6 (pv 9)))))))) (ah (aP (jX K (pv 7) (Od K (pv 10) (ax bx (pv 0) aa)))))))))))) (ah (av (pv 7)))))))))),?_⟩
 have big:pO.length<=sizeLine:=by rw[<-dF,y9]; decide
 refine⟨_,rfl,_,_,rfl,rfl,⟨by decide,by decide⟩,?_⟩
 refine⟨_,rfl,_,_,rfl,rfl,⟨by decide,by decide⟩,_,_,rfl,rfl,(by show (0:Int) < 8; decide),_,rfl,by omega,by omega,?_⟩
 refine fk (xs:=cj 0 (x / 1040 % 8).toNat) (fun i σ' H'=> ∃(st:Str) (lf:Int) (v5:Option V),σ'=[some (.int x),some (.int m),some (.str pO),some (.str st),some (.int lf),v5,none,none,none,none,none]/\H'=H/\st.cps.toList.length=i/\ ∀c∈st.cps.toList,small c) ⟨"",_,none,rfl,rfl,rfl,fun c hc=>by cases hc⟩ (fun i σ' H' _ _=>cK) ?_ ?_
 .rintro i y σ' H' hi ⟨st,lf,v5,rfl,rfl,hl,hs⟩
  obtain⟨hi,rfl⟩:=bW hi
  obtain⟨c,hc,hcs⟩:=Ci lf
  refine⟨_,rfl,_,rfl,_,rfl,_,_,rfl,rfl,(by show (0:Int) < 26; decide),pO,_,c,rfl,rfl,big,hc,_,_,rfl,rfl,?_,?_⟩
  .rw[<-dF,hl]
   show i+1<=sizeLine
   exact K7 (aJ (by omega))
  refine⟨_,rfl,_,_,rfl,rfl,⟨by decide,by decide⟩,_,_,_,rfl,rfl,?_,fun d hd=>?_⟩
  .rw[jc,KC,hl]
   rfl
  .rw[jc] at hd
   rcases KI.mp hd with hd | hd
   .exact hs d hd
   .rw[Kt.mp hd]; exact hcs
 rintro σ1 H1 ⟨st,lf,v5,rfl,rfl,hstl,hsts⟩
 rw[cR] at hstl
 refine⟨_,rfl,_,_,rfl,rfl,⟨by decide,by decide⟩,_,_,rfl,rfl,(by show (0:Int) < 8; decide),?_⟩
 have sp0:0<=x / 5 % 8:=by omega
 have stl:st.length<=7:=by rw[<-dF,hstl]; omega
 dsimp only[aO,List.set]
 generalize x / 5 % 8=spot at sp0
 refine⟨by decide,fun l nl=>?_⟩
 refine⟨_,rfl,_,rfl,by omega,by omega,?_⟩
 rw[KW]
 refine bA (xs:=cj 0 m) (fun i σ' H'=> ∃(ys:List Str) (v5 v8 v9 v10:Option V),σ'=[some (.int x),some (.int m),some (.str pO),some (.str st),some (.int lf),v5,some (.int spot),some (.ref l),v8,v9,v10]/\ag H1 H'/\H' l=some (.lst (ys.map V.str))/\ys.length=i/\ ∀y∈ys,Nm y) ⟨[],v5,none,none,none,rfl,ag.upd nl,af,rfl,fun y hy=>by cases hy⟩ (fun i σ' H' _ _=>cK) ?_ ?_
 .rintro i y σ' H' D1 nx1 - hi ⟨ys,v5,v8,v9,v10,rfl,sm,hl,hyl,hnm⟩
  obtain⟨hin,rfl⟩:=bW hi
  obtain⟨c,hc,hcs⟩:=Ci (0+(i:Nat)+x / 40)
  refine⟨_,rfl,_,rfl,_,rfl,_,_,rfl,rfl,⟨by decide,by decide⟩,_,_,rfl,rfl,_,_,rfl,rfl,(by show (0:Int) < 26; decide),pO,_,c,rfl,rfl,big,hc,?_⟩
  refine⟨(by show 1<=sizeLine; decide),fun l0 n0=>⟨l0,_,_,rfl,rfl,af,by decide,by decide,by decide,fun r nr=>?_⟩⟩
  have sr:=sm.trans ((ag.upd (o:= .lst [.str "z"]) n0).trans (ag.upd (o:= .lst ((List.replicate 8 (Str.ofString "z")).map V.str)) nr))
  have hr1:(upd (upd H' l0 (.lst [.str "z"])) r (.lst (List.replicate (8:Int).toNat [V.str "z"]).flatten)) r=some (.lst ((List.replicate 8 (Str.ofString "z")).map V.str)):=af
  have hl1:(upd (upd H' l0 (.lst [.str "z"])) r (.lst (List.replicate (8:Int).toNat [V.str "z"]).flatten)) l=some (.lst (ys.map V.str)):=((ag.upd (o:= .lst [.str "z"]) n0).trans (ag.upd nr)) _ _ hl
  have nrH:H1 r=none:=(sm.trans (ag.upd n0)).free nr
  have sr:ag H1 (upd (upd H' l0 (.lst [.str "z"])) r (.lst (List.replicate (8:Int).toNat [V.str "z"]).flatten)):=sr
  have nlr:l≠r:=az (ag.upd n0 _ _ hl) nr
  dsimp only[aO,List.set]
  generalize upd (upd H' l0 (.lst [.str "z"])) r (.lst (List.replicate (8:Int).toNat [V.str "z"]).flatten)=H2 at hr1 hl1 sr
  have j1:O1 8 ((0+(i:Nat):Int) % 8)=some ((0+(i:Nat):Int) % 8).toNat:=lg (by omega) (by omega)
  refine⟨_,rfl,_,rfl,_,_,rfl,rfl,(by show (0:Int) < 8; decide),r,_,_,_,rfl,rfl,hr1,j1,?_⟩
  generalize ((0+(i:Nat):Int) % 8).toNat=p1
  have j2:O1 8 (((0+(i:Nat):Int) % 8+1+(0+(i:Nat):Int) / 8) % 8)=some (((0+(i:Nat):Int) % 8+1+(0+(i:Nat):Int) / 8) % 8).toNat:=lg (by omega) (by omega)
  refine⟨_,rfl,_,rfl,_,_,rfl,rfl,(by show (0:Int) < 8; decide),_,_,rfl,rfl,_,rfl,_,_,rfl,rfl,⟨by decide,by decide⟩,_,_,rfl,rfl,_,_,rfl,rfl,(by show (0:Int) < 8; decide),r,_,_,_,rfl,rfl,af,(by rw[Mo]; exact j2),?_⟩
  generalize (((0+(i:Nat):Int) % 8+1+(0+(i:Nat):Int) / 8) % 8).toNat=p2
  rw[vd]
  have erow:(((List.replicate 8 (Str.ofString "z")).map V.str).set p1 (.str "a")).set p2 (.str "b")=(((List.replicate 8 (Str.ofString "z")).set p1 "a").set p2 "b").map V.str:=by
   rw[Nk,Nk]
  rw[erow]
  have hone: ∀y∈((List.replicate 8 (Str.ofString "z")).set p1 "a").set p2 "b",one y:=fun y hy=>by
   rcases List.mem_or_eq_of_mem_set hy with hy | rfl
   .rcases List.mem_or_eq_of_mem_set hy with hy | rfl
    .rw[(NC.mp hy).2]; exact HN
    .exact ID
   .exact IC
  have hrl:(((List.replicate 8 (Str.ofString "z")).set p1 "a").set p2 "b").length=8:=by rw[Mo,Mo]; rfl
  generalize ((List.replicate 8 (Str.ofString "z")).set p1 "a").set p2 "b" = row at hone hrl
  obtain⟨o1,o2,o3⟩:=zy row hone
  have sr3:ag H1 (upd H2 r (.lst (row.map V.str))):=sr.dA nrH
  have hl3:(upd H2 r (.lst (row.map V.str))) l=some (.lst (ys.map V.str)):=(ai nlr).trans hl1
  have hr3:(upd H2 r (.lst (row.map V.str))) r=some (.lst (row.map V.str)):=af
  generalize upd H2 r (.lst (row.map V.str))=H3 at sr3 hl3 hr3
  refine⟨_,rfl,_,rfl,_,rfl,_,rfl,st,rfl,K7 (aJ (by omega)),fun r1 e1=>⟨_,rfl,_,_,rfl,rfl,?_,_,rfl,_,rfl,_,rfl,st,rfl,K7 (aJ (by omega)),fun r2 e2=>⟨_,_,rfl,rfl,?_,?_⟩⟩⟩
  .show r1.length+1<=sizeLine
   exact K7 (aJ (by have:=yX e1; omega))
  .have h1:=yX e1
   have h2:=EZ e2
   have h3:(r1++(⟨#[c]⟩:Str)).length=r1.length+1:=by rw[<-dF,jc,KC,dF]; rfl
   rw[h3]
   exact K7 (aJ (by omega))
  have n1:Nm (⟨#[c]⟩:Str):=⟨Ku _,by show 1<=8; decide,fun d hd=>by rw[Kt.mp hd]; exact hcs⟩
  have n2:Nm ((r1++(⟨#[c]⟩:Str))++r2):=by
   have e:((r1++(⟨#[c]⟩:Str))++r2).cps.toList=r1.cps.toList++[c]++r2.cps.toList:=by rw[jc,jc]
   have hlen:=Dn sp0 e1 e2
   unfold Nm Px
   rw[e]
   refine⟨by simp only[KC,K1,MH]; omega,by simp only[KC,K1,MH,dF]; omega,fun d hd=>?_⟩
   rcases KI.mp hd with hd | hd
   .rcases KI.mp hd with hd | hd
    .rw[e1] at hd
     exact hsts d (MU (MV hd))
    .rw[Kt.mp hd]; exact hcs
   .rw[e2] at hd
    exact hsts d (MU (MV hd))
  refine⟨_,rfl,_,rfl,_,_,rfl,rfl,(by show (0:Int) < 8; decide),_,_,rfl,rfl,_,_,rfl,rfl,by omega,by omega,by show 1<=1000; decide,fun r3 e3=>?_⟩
  have n3:Nm r3:=by
   have e:r3.cps.toList=List.replicate (1+(0+(i:Nat):Int) % 8).toNat c:=e3.trans (zr _ _)
   unfold Nm Px
   rw[e,Mn]
   exact⟨by omega,by omega,fun d hd=>by rw[(NC.mp hd).2]; exact hcs⟩
  refine⟨(by show 3<=sizeLine; decide),fun f1 nf1=>?_⟩
  have hl4:=ag.upd (o:= .lst [.str ⟨#[c]⟩,.str ((r1++(⟨#[c]⟩:Str))++r2),.str r3]) nf1 _ _ hl3
  have hr4:=ag.upd (o:= .lst [.str ⟨#[c]⟩,.str ((r1++(⟨#[c]⟩:Str))++r2),.str r3]) nf1 _ _ hr3
  have sr4:=sr3.trans (ag.upd (o:= .lst [.str ⟨#[c]⟩,.str ((r1++(⟨#[c]⟩:Str))++r2),.str r3]) nf1)
  have hf4:(upd H3 f1 (.lst [.str ⟨#[c]⟩,.str ((r1++(⟨#[c]⟩:Str))++r2),.str r3])) f1=some (.lst [.str ⟨#[c]⟩,.str ((r1++(⟨#[c]⟩:Str))++r2),.str r3]):=af
  dsimp only[aO,List.set]
  generalize upd H3 f1 (.lst [.str ⟨#[c]⟩,.str ((r1++(⟨#[c]⟩:Str))++r2),.str r3])=H4 at hl4 hr4 sr4 hf4
  obtain⟨c2,hc2,hcs2⟩:=Fd (k:=(0+(i:Nat):Int) / 8) (by omega) (by omega)
  refine⟨_,rfl,_,rfl,_,_,rfl,rfl,(by show (0:Int) < 8; decide),_,_,rfl,rfl,by omega,by omega,by show 1<=1000; decide,fun r4 e4=>?_⟩
  have e4':r4.cps.toList=List.replicate ((0+(i:Nat):Int) % 8).toNat 122:=by
   rw[e4,show (Str.ofString "z").cps.toList=[122] from by trivial]
   exact zr _ _
  have l4:r4.length<=7:=by
   rw[<-dF,e4',Mn]
   omega
  have n4:Nm (r4++(⟨#[c2]⟩:Str)):=by
   have e:(r4++(⟨#[c2]⟩:Str)).cps.toList=r4.cps.toList++[c2]:=by rw[jc]
   unfold Nm Px
   rw[e,e4']
   refine⟨by simp only[KC,K1,MH]; omega,by simp only[KC,K1,MH,Mn]; omega,fun d hd=>?_⟩
   rcases KI.mp hd with hd | hd
   .rw[(NC.mp hd).2]
    unfold small
    omega
   .rw[Kt.mp hd]; exact hcs2
  have n5:Nm (Txt.join (Str.ofString "") row):=by
   unfold Nm Px
   rw[ye,o1,hrl]
   exact⟨by decide,by decide,o2⟩
  refine⟨_,rfl,_,_,rfl,rfl,⟨by decide,by decide⟩,uo,_,c2,rfl,rfl,(by trivial),hc2,_,_,rfl,rfl,?_,?_⟩
  .show r4.length+1<=sizeLine
   exact K7 (aJ (by omega))
  refine⟨rfl,_,rfl,_,r,row,rfl,rfl,N5.of hr4,by trivial,by rw[o3,hrl]; decide,?_⟩
  refine⟨(by show 2<=sizeLine; decide),fun f2 nf2=>⟨f1,f2,_,_,rfl,rfl,(ai (az hf4 nf2)).trans hf4,af,(by show 3+2<=sizeLine; decide),fun f3 nf3=>?_⟩⟩
  have s5:=(ag.upd (o:= .lst [.str (r4++(⟨#[c2]⟩:Str)),.str (Txt.join (Str.ofString "") row)]) nf2).trans (ag.upd (o:= .lst ([.str ⟨#[c]⟩,.str ((r1++(⟨#[c]⟩:Str))++r2),.str r3]++[.str (r4++(⟨#[c2]⟩:Str)),.str (Txt.join (Str.ofString "") row)])) nf3)
  have hl5:=s5 _ _ hl4
  obtain⟨y,hy,hyn⟩: ∃y:Str,Om ([.str ⟨#[c]⟩,.str ((r1++(⟨#[c]⟩:Str))++r2),.str r3]++[.str (r4++(⟨#[c2]⟩:Str)),.str (Txt.join (Str.ofString "") row)]:List V) (x % 5)=some (.str y)/\Nm y:=by
   have h:x % 5=0\/x % 5=1\/x % 5=2\/x % 5=3\/x % 5=4:=by omega
   rcases h with e | e | e | e | e <;> rw[e]
   .exact⟨_,rfl,n1⟩
   .exact⟨_,rfl,n2⟩
   .exact⟨_,rfl,n3⟩
   .exact⟨_,rfl,n4⟩
   .exact⟨_,rfl,n5⟩
  refine⟨_,rfl,.inl ⟨rfl,_,N5.of hl5⟩,_,rfl,_,rfl,_,_,rfl,rfl,(by show (0:Int) < 5; decide),f3,_,_,_,rfl,rfl,N5.of af,hy,l,_,_,rfl,rfl,hl5,by rw[Kq,hyl]; exact aJ (by omega),?_⟩
  refine nx1 _ _ ⟨ys++[y],_,_,_,_,rfl,(sr4.trans s5).dA nl,by rw[af,KO]; rfl,by rw[KC,hyl]; rfl,fun z hz=>?_⟩
  rcases KI.mp hz with hz | hz
  .exact hnm z hz
  .rw[Kt.mp hz]; exact hyn
 .rintro σ' H' ⟨ys,v5,v8,v9,v10,rfl,sm,hl,hyl,hnm⟩
  rw[cR] at hyl
  exact⟨_,rfl,q l ys H' nl sm hl hyl hnm⟩
def DB (K:N7):Sp:=fun vs H Q _=> ∃(p d:Addr) (ys:List Str),vs=[.ref p,.ref d]/\H p=some (.lst (ys.map V.str))/\N5 K H d (ys.map V.str)/\ys.length<=1000/\(∀y∈ys,y.length<=1000)/\Q (.bl true) H
theorem Cj {ys:List Str}{i:Nat}(h:i < ys.length): ∃y,Om (ys.map V.str) (i:Nat)=some (.str y)/\y∈ys:=⟨ys[i],bT (by rw[KH,Kr h]; rfl),Mc h⟩
theorem tL (T:Txt K mg a):Oj P w K mg base 1 "_law_texts" ["_law_found","_law_due_here"] (DB K):=by
 refine b9 T.oz qR fun f c A o s H vs Q E hr h=>?_
 obtain⟨p,d,ys,rfl,hp,hd,hl,hyl,q⟩:=h
 refine⟨_,(ae (aF (PW.pt (cq (bK (bQ K (bc dr (by rfl) T.bz boot_isinstance (ao (pv 0) (N6 (d9 (v:= .ty "list") rfl T.iA boot_list rfl)))))) (cz (aG eU (cE K T.bI (pv 0)) (cE K T.bI (pv 1)))))) (ah (av cO)) aw) (ae (de (gB T.cF (cE K T.bI (pv 1))) (gn 2 qR.nd) (ah (aF (PW.pt (cq (bK (bQ K (bc dr (by rfl) T.bz boot_isinstance (ao (Od K (pv 0) (pv 2)) (N6 (d9 (v:= .ty "str") rfl T.sP boot_str rfl)))))) (cz (aG eU (Od K (pv 0) (pv 2)) (Od K (pv 1) (pv 2)))))) (ah (av cO)) aw))) (ah (av cO)))),?_⟩
 refine⟨_,rfl,_,"list",true,rfl,.inl ⟨⟨_,N5.of hp⟩,.inl ⟨rfl,rfl⟩⟩,_,rfl,aD ?_⟩
 refine⟨_,rfl,_,_,rfl,.inl ⟨_,N5.of hp,rfl⟩,_,rfl,_,_,rfl,.inl ⟨_,hd,rfl⟩,rfl,_,rfl,?_⟩
 rw[show (!decide (V.int ((ys.map V.str).length:Nat)=V.int ((ys.map V.str).length:Nat)))=false from by simp]
 refine aD ?_
 refine⟨_,rfl,_,_,rfl,.inl ⟨_,hd,rfl⟩,_,rfl,by omega,by rw[Kq]; omega,?_⟩
 rw[KW,Kq]
 refine fk (xs:=cj 0 ys.length) (fun i σ' H'=> ∃v2:Option V,σ'=[some (.ref p),some (.ref d),v2]/\H'=H) ⟨none,rfl,rfl⟩ (fun i σ' H' _ _=>cK) ?_ ?_
 .rintro i x σ' H' hi ⟨v2,rfl,rfl⟩
  obtain⟨hin,rfl⟩:=bW hi
  have ei:(0+(i:Nat):Int)=(i:Nat):=by omega
  rw[ei]
  obtain⟨y,hy,_⟩:=Cj hin
  refine⟨_,rfl,_,rfl,p,_,_,_,rfl,rfl,N5.of hp,hy,_,"str",true,rfl,.inl ⟨rfl,rfl⟩,_,rfl,aD ?_⟩
  refine⟨_,rfl,_,rfl,p,_,_,_,rfl,rfl,N5.of hp,hy,_,rfl,_,rfl,d,_,_,_,rfl,rfl,hd,hy,rfl,_,rfl,?_⟩
  rw[show (!decide (V.str y=V.str y))=false from by simp]
  exact aD ⟨_,rfl,rfl⟩
 .rintro σ' H' ⟨v2,rfl,rfl⟩
  exact q
theorem PM (a b:Nat):decide (([a]:List Nat) < [b])=decide (a < b):=by
 rw[NY]
 constructor
 .intro h
  cases h with
  | rel h=>exact h
  | cons h=>cases h
 .exact fun h=> .rel h
def sA:Str:= "a"
def sZ:Str:= "z"
theorem Hh:sA.cps.toList=[97]:=by trivial
theorem GX:sZ.cps.toList=[122]:=by trivial
def txt (cs:List Nat):Str:=⟨cs.toArray⟩
theorem E8 (cs:List Nat):(txt cs).cps.toList=cs:=by simp[txt]
theorem zb (cs:List Nat):(txt cs).length=cs.length:=by simp[txt,Str.length]
def BP (K:N7):Sp:=fun vs H Q _=> ∃(n lo hi:Int) (a:Addr),vs=[.int n,.ref a]/\N9 K H a [.int lo,.int hi]/\Q (.bl (decide (lo<=n) && decide (n<=hi))) H
def CH:Sp:=fun vs H Q _=> ∃c:Nat,vs=[.str ⟨#[c]⟩]/\Q (.bl (gJ c)) H
def Fq:Sp:=fun vs H Q _=> ∃cs:List Nat,vs=[.str (txt cs)]/\cs.length<=1000/\ ∀H',ag H H'->Q (.bl (cM cs)) H'
theorem lq (T:Txt K mg a):Oj P w K mg base 1 "inside" ["number","span"] (BP K):=by
 refine b9 T.t9 BK fun f c A o s H vs Q E hr h=>?_
 obtain⟨n,lo,hi,a,rfl,hq,q⟩:=h
 refine⟨_,(ah (av (xQ Ep Ep (N8 K (pv 1) aa) (pv 0) (N8 K (pv 1) aa)))),?_⟩
 refine⟨_,rfl,a,_,_,_,rfl,rfl,hq,rfl,_,rfl,_,_,rfl,rfl,_,rfl,?_⟩
 refine bD (fun h1=>?_) (fun h1=>?_)
 .refine⟨_,rfl,a,_,_,_,rfl,rfl,hq,rfl,_,_,rfl,rfl,?_⟩
  rw[h1,Bool.true_and] at q
  exact q
 .rw[K8] at h1
  rw[h1,Nw] at q
  exact q
theorem uf (T:Txt K mg a):Oj P w K mg base 1 "small_letter" ["sign"] CH:=by
 refine b9 T.kE uO fun f c A o s H vs Q E hr h=>?_
 obtain⟨c,rfl,q⟩:=h
 refine⟨_,(ah (av (xQ vO vO aB (pv 0) aB))),?_⟩
 have e1:(!decide ((⟨#[c]⟩:Str).cps.toList < sA.cps.toList))=decide (97<=c):=by
  rw[Hh]
  show (!decide ([c] < [97]))=_
  rw[PM,<-decide_not,NY]
  omega
 have e2:(!decide (sZ.cps.toList < (⟨#[c]⟩:Str).cps.toList))=decide (c<=122):=by
  rw[GX]
  show (!decide ([122] < [c]))=_
  rw[PM,<-decide_not,NY]
  omega
 refine⟨_,rfl,sA,_,rfl,rfl,_,rfl,?_⟩
 rw[e1]
 refine bD (fun h1=>?_) (fun h1=>?_)
 .refine⟨_,sZ,rfl,rfl,?_⟩
  rw[e2]
  unfold gJ at q
  rw[h1,Bool.true_and] at q
  exact q
 .rw[K8] at h1
  unfold gJ at q
  rw[h1,Nw] at q
  exact q
theorem xE (T:Txt K mg a):Oj P w K mg base 2 "good_name" ["text"] Fq:=by
 refine b9 T.ow xY fun f c A o s H vs Q E hr h=>?_
 obtain⟨cs,rfl,hz,q⟩:=h
 refine⟨_,(ah (av (jy (oW (aE (lq T) hr.mm (ao (cE K T.bI (pv 0)) (N6 (mI T.mW)))) (nI (bc (D0 rfl) (by rfl) T.AD boot_all (N6 (gW kT ["sign"] [] [] OG (F8 (pv 0)) (fun C s2 H2 fp=>⟨(gn 0 (Oy ["sign"])),d6,(aE (uf T) hr.mm (N6 (pv 0)))⟩))))))))),?_⟩
 have hl:(txt cs).length<=sizeLine:=by rw[zb]; exact K7 (qO hz)
 refine⟨Q,?_,fun _ _ z=>z⟩
 refine⟨_,rfl,_,_,rfl,⟨hl,rfl⟩,fun a ha=>?_⟩
 refine⟨_,1,8,a,rfl,ha _,_,rfl,?_⟩
 rw[zb]
 refine bD (fun h1=>?_) (fun h1=>?_)
 .refine⟨_,rfl,_,rfl,?_⟩
  have ec:lD (txt cs)=cs.map fun c=>V.str ⟨#[c]⟩:=by unfold lD; rw[E8]
  refine B2 (xs:=lD (txt cs)) G3 (fun v=>match v with | .str z=> .bl (gJ (z.cps.getD 0 0)) | _=> .bl false) (by rw[ec,Kq]; exact qO hz) (fun x hx R hR=>?_) (fun p hp=>?_)
  .rw[ec] at hx
   obtain⟨c,_,rfl⟩:=Lq.mp hx
   exact⟨_,rfl,c,rfl,hR⟩
  .refine⟨p,cs.map gJ,rfl,N5.of ?_,?_⟩
   .rw[af,ec,LF,LF]
    rfl
   .have e:(cs.map gJ).all id=cs.all gJ:=by rw[NX]; rfl
    rw[e]
    have q':=q (upd H p (.lst ((lD (txt cs)).map (fun v=>match v with | .str z=> .bl (gJ (z.cps.getD 0 0)) | _=> .bl false)))) fun b o hb=>by
     rw[ai (az hb hp)]
     exact hb
    unfold cM at q'
    rw[h1,Bool.true_and] at q'
    exact q'
 .have q':=q H (ag.refl H)
  rw[K8] at h1
  unfold cM at q'
  rw[h1,Nw] at q'
  exact q'
theorem Hf (y:Str):txt y.cps.toList=y:=by simp[txt]
theorem cW (x:Str): ∀ms:List Str,Ox (.str x) (ms.map V.str)=decide (x∈ms)
 | []=>by simp[Ox]
 | m::ms=>by
  have:=cW x ms
  unfold Ox at this ⊢
  rw[Ld,L8,this]
  show (m == x || decide (x∈ms))=decide (x∈m::ms)
  by_cases e:m=x
  .subst e; simp
  .have e': ¬x=m:=fun z=>e z.symm
   simp[e,e']
theorem bX: ∀ms:List Str,(ms.map V.str).all bS=true
 | []=>rfl
 | m::ms=>by rw[Ld,List.all_cons,bX ms]; rfl
theorem gX {y:Str}: ∀ {ys:List Str},y∈ys-> ∃j:Nat,ys[j]?=some y/\ ∀m,m < j->ys[m]?≠some y
 | [],h=>by cases h
 | z::ys,h=>by
  by_cases e:z=y
  .subst e
   exact⟨0,rfl,fun m hm=>absurd hm (Lw _)⟩
  .obtain⟨j,a,b⟩:=gX ((Kz.mp h).resolve_left fun q=>e q.symm)
   refine⟨j+1,a,fun m hm=>?_⟩
   cases m with
   | zero=>exact fun q=>e (KS q)
   | succ m=>exact b m (by omega)
theorem uH (xs:List V) (k:Nat):mZ xs none (some (k:Nat))=xs.take k:=by
 unfold mZ
 rw[HT.zf]
 show (xs.drop 0).take (min k xs.length - 0)=xs.take k
 rw[List.drop_zero,Nat.sub_zero]
 by_cases h:k<=xs.length
 .rw[N1 h]
 .rw[Nat.min_eq_right (by omega),K6,LG (by omega)]
theorem pS (xs:List V) (k:Nat):mZ xs (some (k:Nat)) none=xs.drop k:=by
 unfold mZ
 rw[HT.zf]
 show (xs.drop (min k xs.length)).take (xs.length - min k xs.length)=xs.drop k
 by_cases h:k<=xs.length
 .rw[N1 h]
  exact LG (by rw[Lv]; exact Ku _)
 .rw[Nat.min_eq_right (by omega),List.drop_length,List.drop_eq_nil_of_le (by omega)]
  exact M5
def sQ (K:N7) (a:Adr):Sp:=fun vs H Q E=> ∃(y:Str) (p:Addr) (ys:List Str),vs=[.str y,.ref p]/\N5 K H p (ys.map V.str)/\(y∈ys->Q .non H)/\(y∉ys->E (.ref a.Unknown) none H)
theorem fA (T:Txt K mg a):O5 P w K mg base 1 "refuse_unknown" ["name","names"] (sQ K a):=by
 refine tR T.iQ sW fun f c A o s H vs Q E hr h=>?_
 obtain⟨y,p,ys,rfl,hp,q,e⟩:=h
 refine⟨_,(ah (aF (nS (zK K) (pv 0) (pv 1)) (ah (eg T.jh rfl (N6 aB))) aw)),?_⟩
 by_cases hm:y∈ys
 .exact⟨_,rfl,_,rfl,p,_,rfl,.inl hp,rfl,bX ys,false,Ln V.bl (by show (!Ox (.str y) (ys.map V.str))=false; rw[cW,KQ hm]; rfl),aD (q hm)⟩
 .exact⟨_,rfl,_,rfl,p,_,rfl,.inl hp,rfl,bX ys,true,Ln V.bl (by show (!Ox (.str y) (ys.map V.str))=true; rw[cW,KU hm]; rfl),aU ⟨by decide,e hm⟩⟩
def yQ (a:Adr):Sp:=fun vs H Q E=> ∃(y:Str) (p:Addr) (ys:List Str),vs=[.str y,.ref p]/\H p=some (.lst (ys.map V.str))/\(∀j:Nat,ys[j]?=some y->(∀m,m < j->ys[m]?≠some y)->Q (.int (j:Nat)) H)/\(y∉ys->E (.ref a.Unknown) none H)
theorem iB (T:Txt K mg a):O5 P w K mg base 2 "place_of" ["name","names"] (yQ a):=by
 refine tR T.qx yI fun f c A o s H vs Q E hr h=>?_
 obtain⟨y,p,ys,rfl,hp,q,e⟩:=h
 refine⟨_,(ae (aP (bj (fA T) hr.mm (ao (pv 0) (N6 (pv 1))))) (ah (av (show PE _ _ (O3 K _ _ _ _) from jP Lj LM LO lr (pv 1) (N6 (pv 0)))))),?_⟩
 refine⟨_,rfl,_,rfl,y,p,ys,rfl,N5.of hp,fun hm=>?_,e⟩
 obtain⟨j,j1,j2⟩:=gX hm
 exact⟨_,rfl,.inl ⟨rfl,_,N5.of hp⟩,_,rfl,p,ys,y,j,rfl,rfl,hp,j1,j2,q j j1 j2⟩
def wu (K:N7) (a:Adr):Sp:=fun vs H Q E=> ∃(y:Str) (p:Addr) (ys:List Str),vs=[.str y,.ref p]/\N5 K H p (ys.map V.str)/\y.cps.toList.length<=1000/\(y∈ys->E (.ref a.InUse) none H)/\ ∀H',ag H H'->y∉ys->(cM y.cps.toList=true->Q .non H')/\(cM y.cps.toList=false->E (.ref a.BadName) none H')
theorem gL (T:Txt K mg a):O5 P w K mg base 3 "refuse_new_name" ["name","names"] (wu K a):=by
 refine tR T.ie rX fun f c A o s H vs Q E hr h=>?_
 obtain⟨y,p,ys,rfl,hp,hy,e1,q⟩:=h
 refine⟨_,(ae (aF (nS (Pf K) (pv 0) (pv 1)) (ah (eg T.je rfl (N6 aB))) aw) (ah (aF (bK (bQ K (bj (xE T).x hr.mm (N6 (pv 0))))) (ah (eg T.rg rfl (N6 aB))) aw))),?_⟩
 by_cases hm:y∈ys
 .exact⟨_,rfl,_,rfl,p,_,rfl,.inl hp,rfl,bX ys,true,Ln V.bl ((cW y ys).trans (KQ hm)),aU ⟨by decide,e1 hm⟩⟩
 .refine⟨_,rfl,_,rfl,p,_,rfl,.inl hp,rfl,bX ys,false,Ln V.bl ((cW y ys).trans (KU hm)),aD ?_⟩
  refine⟨_,rfl,y.cps.toList,by rw[Hf]; rfl,hy,fun H1 s1=>⟨_,rfl,?_⟩⟩
  cases e:cM y.cps.toList with
  | true=>exact aD ((q H1 s1 hm).1 e)
  | false=>exact aU ⟨by decide,(q H1 s1 hm).2 e⟩
def vq (a:Adr):Sp:=fun vs H Q E=> ∃c m:Int,vs=[.int c,.int m]/\(c < m->Q .non H)/\(m<=c->E (.ref a.Full) none H)
theorem ke (T:Txt K mg a):O5 P w K mg base 1 "refuse_full" ["count","most"] (vq a):=by
 refine tR T.lU vj fun f c A o s H vs Q E hr h=>?_
 obtain⟨c,m,rfl,q,e⟩:=h
 refine⟨_,(ah (aF (aG wM (pv 0) (pv 1)) (ah (eg T.lz rfl (N6 aB))) aw)),?_⟩
 refine⟨_,rfl,_,rfl,_,_,rfl,rfl,_,rfl,?_⟩
 refine bD (fun z=>⟨by decide,e (KY z)⟩) (fun z=>q ?_)
 have:=Lh (K8 _▸z)
 omega
def xt (C:Addr):Sp:=fun vs H Q _=> ∃(h dx:Addr),vs=[.ref h]/\H h=some (.ins C dx [])/\H dx=some (.own h)/\ ∀(os:List Addr) (H':Hp),(∀b o,b≠h->b≠dx->H b=some o->H' b=some o)->HI C H' h os ⟨[],[],[]⟩->(∀b∈os,b=h\/b=dx\/H b=none)->Q .non H'
theorem wt (T:Txt K mg a):OO P w K mg base 1 a.House "__init__" ["self"] (xt a.House):=by
 refine pW T.mU wj fun f c A o s H vs Q E hr h=>?_
 obtain⟨h,dx,rfl,hh,hd,q⟩:=h
 refine⟨_,(ae (iG (pv 0) (bh dD) rfl) (ae (iG (pv 0) (bh dD) rfl) (ah (iG (pv 0) (bh dD) rfl)))),?_⟩
 have hd1:dx≠h:=fun z=>by rw[z,hh] at hd; cases hd
 refine⟨by decide,fun p np=>⟨_,rfl,h,a.House,dx,[],rfl,ag.upd np _ _ hh,T.aq.cl,T.aH,by decide,?_⟩⟩
 have ph:p≠h:=(az hh np).symm
 have pd:p≠dx:=(az hd np).symm
 refine⟨by decide,fun q1 nq=>?_⟩
 have qh:q1≠h:=fun z=>by rw[z,af] at nq; cases nq
 rw[ai qh] at nq
 have qp:q1≠p:=fun z=>by rw[z,af] at nq; cases nq
 rw[ai qp] at nq
 have qd:q1≠dx:=(az hd nq).symm
 refine⟨_,rfl,h,a.House,dx,[("member_rows",.ref p)],rfl,(ai (K2 qh)).trans af,T.aq.cl,T.aN,(by show 1 < 1000; decide),?_⟩
 refine⟨by decide,fun r nr=>?_⟩
 have rh:r≠h:=fun z=>by rw[z,af] at nr; cases nr
 rw[ai rh] at nr
 have rq:r≠q1:=fun z=>by rw[z,af] at nr; cases nr
 rw[ai rq,ai rh] at nr
 have rp:r≠p:=fun z=>by rw[z,af] at nr; cases nr
 rw[ai rp] at nr
 have rd:r≠dx:=(az hd nr).symm
 refine⟨_,rfl,h,a.House,dx,[("member_rows",.ref p),("demand_rows",.ref q1)],rfl,?_,T.aq.cl,T.cw,(by show 2 < 1000; decide),?_⟩
 .rw[ai (K2 rh),af,mG (by trivial)]
  rfl
 refine q [h,dx,r,p,q1] _ (fun b o b1 b2 e=>?_) ⟨dx,p,q1,r,[p,q1],[],rfl,hd1,rh,rd,?_,?_,?_,?_,?_,?_,.nil,?_,?_,?_⟩ fun b hb=>?_
 .have b3:b≠p:=az e np
  have b4:b≠q1:=az e nq
  have b5:b≠r:=az e nr
  rw[ai b1,ai b5,ai b1,ai b4,ai b1,ai b3]
  exact e
 .simp only[Kz,Ll,MB,not_or]
  exact⟨K2 ph,K2 qh⟩
 .simp only[Kz,Ll,MB,not_or]
  exact⟨K2 pd,K2 qd⟩
 .simp only[Kz,Ll,MB,not_or]
  exact⟨rp,rq⟩
 .rw[af,mG (by trivial),mG (by trivial)]
  rfl
 .rw[ai hd1,ai (K2 rd),ai hd1,ai (K2 qd),ai hd1,ai (K2 pd)]
  exact hd
 .rw[ai rh,af]
 .refine⟨by simp,[],?_,.nil⟩
  rw[ai ph,ai (K2 rp),ai ph,ai (K2 qp),ai ph,af]
 .refine⟨by simp,[],?_,.nil⟩
  rw[ai qh,ai (K2 rq),ai qh,af]
 .intro b hb
  simp only[Kz,Ll,MB] at hb
  rcases hb with rfl | rfl
  .exact⟨_,by rw[ai ph,ai (K2 rp),ai ph,ai (K2 qp),ai ph,af]⟩
  .exact⟨_,by rw[ai qh,ai (K2 rq),ai qh,af]⟩
 .simp only[Kz,Ll,MB] at hb
  rcases hb with rfl | rfl | rfl | rfl | rfl
  .exact .inl rfl
  .exact .inr (.inl rfl)
  .exact .inr (.inr nr)
  .exact .inr (.inr np)
  .exact .inr (.inr nq)
def Aa (C:Addr):Sp:=fun vs H Q _=> ∃(h:Addr) (os:List Addr) (S:Ob),vs=[.ref h]/\HI C H h os S/\S.ms.length<=100/\ ∀(p:Addr) (H':Hp),H p=none->ag H H'->H' p=some (.lst ((aA S).map V.str))->Q (.ref p) H'
theorem bG (T:Txt K mg a):OO P w K mg base 1 a.House "members" ["self"] (Aa a.House):=by
 refine pW T.jJ tI fun f c A o s H vs Q E hr h=>?_
 obtain⟨h,os,S,rfl,⟨dx,p,q0,r,is,kv,rfl,I⟩,hl,q⟩:=h
 obtain⟨pi,xs,hp,hX⟩:=I.ms
 have xl:=hX.length
 refine⟨_,(ah (av (gW gy ["row"] [] [] OG (dB K (bR K (pv 0))) (fun C s2 H2 fp=>⟨(gn 0 (Oy ["row"])),d6,(N8 K (pv 0) aa)⟩)))),?_⟩
 refine⟨_,rfl,h,a.House,dx,_,.ref p,rfl,I.ih,T.aq.cl,T.aH,by (repeat (first | exact bq | refine (ba (by trivial)).trans ?_)),p,rfl,⟨_,N5.of hp⟩,?_⟩
 refine cg (xs:=xs) (fun i ys H'=>H'=H/\ys=(S.ms.take i).map fun m=>V.str m.1) (fun i ys H' _ h=>by rw[h.1]; exact bo (N5.of hp)) ⟨rfl,rfl⟩ (aJ (by omega)) (fun i ys H' h=>by rw[h.2,Kq,K0]; exact LI _ _) ?_ ?_
 .rintro i ys H2 x hi ⟨rfl,rfl⟩
  obtain⟨m,hm,t,rfl,_,ht⟩:=hX.get hi
  dsimp only[aO,g8]
  refine aU ⟨_,rfl,t,_,_,_,rfl,rfl,N9.of ht,rfl,rfl,?_⟩
  rw[La,hm,KO]
  rfl
 .rintro ys H2 p2 ⟨rfl,rfl⟩ np
  refine q p2 _ np (ag.upd np) ?_
  rw[af,xl,K6]
  unfold aA
  rw[LF]
  rfl
def ES (a:Adr):Sp:=fun vs H Q E=> ∃(h dx p q r:Addr) (is:List Addr) (kv:List V) (S:Ob),vs=[.ref h]/\Ot a.House H h dx p q r is kv S/\S.ks.length<=150/\(150<=S.ks.length->E (.ref a.Full) none H)/\(S.ks.length < 150-> ∀t,H t=none->Q .non (upd (upd H t (.tup [.ref p,.ref q])) r (.lst (kv++[.ref t]))))
theorem dS (T:Txt K mg a):ON P w K mg base 2 a.House "keep_deed" ["self"] (ES a):=by
 refine hV T.h9 rM fun f c A o s H vs Q E hr h=>?_
 obtain⟨h,dx,p,q0,r,is,kv,S,rfl,I,hl,e,q⟩:=h
 have kl:=I.ks.length
 refine⟨_,(ae (aP (bj (ke T) hr.mm (ao (cE K T.bI (bR K (pv 0))) (N6 (j9 T.nz))))) (ah (aP (jX K (bR K (pv 0)) (bF (ao (bR K (pv 0)) (N6 (bR K (pv 0))))))))),?_⟩
 refine⟨_,rfl,h,a.House,dx,_,.ref r,rfl,I.ih,T.aq.cl,T.cw,by (repeat (first | exact bq | refine (ba (by trivial)).trans ?_)),_,_,rfl,.inl ⟨_,N5.of I.ir,rfl⟩,_,_,rfl,fun z=>?_,fun z=>e (by omega)⟩
 refine⟨_,rfl,h,a.House,dx,_,.ref r,rfl,I.ih,T.aq.cl,T.cw,by (repeat (first | exact bq | refine (ba (by trivial)).trans ?_)),.inl ⟨rfl,_,N5.of I.ir⟩,_,rfl,h,a.House,dx,_,.ref p,rfl,I.ih,T.aq.cl,T.aH,by (repeat (first | exact bq | refine (ba (by trivial)).trans ?_)),_,rfl,h,a.House,dx,_,.ref q0,rfl,I.ih,T.aq.cl,T.aN,by (repeat (first | exact bq | refine (ba (by trivial)).trans ?_)),(by show 2<=sizeLine; decide),fun t nt=>?_⟩
 refine⟨r,_,_,rfl,rfl,(ai (az I.ir nt)).trans I.ir,aJ (by omega),?_⟩
 exact q (by omega) t nt
def qG (a:Adr):Sp:=fun vs H Q E=> ∃(h:Addr) (os:List Addr) (S:Ob) (y:Str),vs=[.ref h,.str y]/\HI a.House H h os S/\y.cps.toList.length<=1000/\S.ms.length<=12/\S.ks.length<=150 /\
 (∀H',ag H H'->y∈aA S->E (.ref a.InUse) none H')/\(∀H',ag H H'->y∉aA S->cM y.cps.toList=false->E (.ref a.BadName) none H') /\
 (∀H',ag H H'->y∉aA S->cM y.cps.toList=true->(12<=S.ms.length\/150<=S.ks.length)->E (.ref a.Full) none H') /\
 (∀H',y∉aA S->cM y.cps.toList=true->S.ms.length < 12->S.ks.length < 150->cS a.House H h os ⟨S.ms++[(y,none)],S.ds,S.ks++[(S.ms,S.ds)]⟩ H'->Q .non H')
theorem jU (T:Txt K mg a):ON P w K mg base 4 a.House "add_member" ["self","name"] (qG a):=by
 refine hV T.gO qK fun f c A o s H vs Q E hr h=>?_
 obtain⟨h,os,S,y,rfl,hI,hy,hml,hkl,e1,e2,e3,q⟩:=h
 have hI0:=hI
 obtain⟨dx,p,q0,r,is,kv,rfl,I⟩:=hI
 refine⟨_,(ae (aP (bj (gL T) hr.mm (ao (pv 1) (N6 (aW T.aq.cl (bG T).x hr.mm (pv 0)))))) (ae (aP (bj (ke T) hr.mm (ao (cE K T.bI (bR K (pv 0))) (N6 (j9 T.kI))))) (ae (aP (aW T.aq.cl (dS T) hr.mm (pv 0))) (ah (iG (pv 0) (ax gh (bR K (pv 0)) (bh (N6 (bF (ao (pv 1) (N6 bu)))))) rfl))))),?_⟩
 refine⟨_,rfl,_,rfl,h,dx,_,rfl,I.ih,Of,h,_,S,rfl,hI0,by omega,fun pm H1 npm s1 hpm=>?_⟩
 refine⟨y,pm,aA S,rfl,N5.of hpm,hy,fun hm=>e1 H1 s1 hm,fun H2 s2 hm=>⟨fun hg=>?_,fun hb=>e2 H2 (s1.trans s2) hm hb⟩⟩
 have s12:=s1.trans s2
 have I2:=I.same s12
 obtain⟨pi,xs,hp,hX⟩:=I2.ms
 have xl:=hX.length
 refine⟨_,rfl,h,a.House,dx,_,.ref p,rfl,I2.ih,T.aq.cl,T.aH,by (repeat (first | exact bq | refine (ba (by trivial)).trans ?_)),_,_,rfl,.inl ⟨_,N5.of hp,rfl⟩,_,_,rfl,fun z=>?_,fun z=>e3 H2 s12 hm hg (.inl (by omega))⟩
 refine⟨_,rfl,h,dx,_,rfl,I2.ih,Of,h,dx,p,q0,r,is,kv,S,rfl,I2,hkl,fun z=>e3 H2 s12 hm hg (.inr z),fun z2 t nt=>?_⟩
 have I3:=I2.keep nt
 have hp3:(upd (upd H2 t (.tup [.ref p,.ref q0])) r (.lst (kv++[.ref t]))) p=some (.lst xs):=(ai (I2.sh pi).2.2).trans ((ai (az hp nt)).trans hp)
 refine⟨_,rfl,h,a.House,dx,_,.ref p,rfl,I3.ih,T.aq.cl,T.aH,by (repeat (first | exact bq | refine (ba (by trivial)).trans ?_)),_,rfl,(by show 2<=sizeLine; decide),fun t2 nt2=>⟨(by show 1<=sizeLine; decide),fun l nl=>?_⟩⟩
 have st:=ag.upd (o:= .tup [.str y,.non]) nt2
 have sl:=ag.upd (o:= .lst [.ref t2]) nl
 refine⟨p,l,_,_,rfl,rfl,(st.trans sl) _ _ hp3,af,by rw[xl]; exact K7 (aJ (by show S.ms.length+1<=1000; omega)),fun p' np'=>?_⟩
 have s4:=(st.trans sl).trans (ag.upd (o:= .lst (xs++[.ref t2])) np')
 have ht2:=(sl.trans (ag.upd (o:= .lst (xs++[.ref t2])) np')) _ _ (af (H:=(upd (upd H2 t (.tup [.ref p,.ref q0])) r (.lst (kv++[.ref t])))) (a:=t2) (o:= .tup [.str y,.non]))
 have hp4:(upd (upd (upd (upd (upd H2 t (.tup [.ref p,.ref q0])) r (.lst (kv++[.ref t]))) t2 (.tup [.str y,.non])) l (.lst [.ref t2])) p' (.lst (xs++[.ref t2]))) p'=some (.lst (xs++[.ref t2])):=af
 have np3:=(st.trans sl).free np'
 refine⟨_,rfl,h,a.House,dx,_,rfl,s4 _ _ I3.ih,T.aq.cl,T.aH,(by show 3 < 1000; decide),?_⟩
 rw[kB]
 generalize upd (upd (upd (upd (upd H2 t (.tup [.ref p,.ref q0])) r (.lst (kv++[.ref t]))) t2 (.tup [.str y,.non])) l (.lst [.ref t2])) p' (.lst (xs++[.ref t2]))=H4 at s4 ht2 hp4
 refine q _ hm hg (by omega) z2 (I.zV s12 nt s4 (sx s12 nt np3) hp4 (F2.append ?_ (.cons ⟨t2,rfl,.inr (sx s12 nt nt2),ht2⟩ .nil)))
 refine hX.imp fun v m ⟨b,e,bi,hb⟩=>⟨b,e,.inl bi,s4 _ _ ((ai (I2.sh bi).2.2).trans ((ai (az hb nt)).trans hb))⟩
def bound (y:Str) (ds:List Oi):Bool:=ds.any fun d=>decide (d.2.1=y) || decide (d.2.2.1=some y)
def tS (a:Adr):Sp:=fun vs H Q E=> ∃(h:Addr) (os:List Addr) (S:Ob) (y:Str),vs=[.ref h,.str y]/\HI a.House H h os S/\S.ms.length<=12/\S.ds.length<=24/\S.ks.length<=150 /\
 (∀H',ag H H'->y∉aA S->E (.ref a.Unknown) none H')/\(∀H',ag H H'->y∈aA S->bound y S.ds=true->E (.ref a.InUse) none H') /\
 (∀H',ag H H'->y∈aA S->bound y S.ds=false->150<=S.ks.length->E (.ref a.Full) none H') /\
 (∀(H':Hp) (j:Nat),(aA S)[j]?=some y->(∀m,m < j->(aA S)[m]?≠some y)->bound y S.ds=false->S.ks.length < 150->cS a.House H h os ⟨S.ms.take j++S.ms.drop (j+1),S.ds,S.ks++[(S.ms,S.ds)]⟩ H'->Q .non H')
theorem oy (T:Txt K mg a):ON P w K mg base 4 a.House "strike_member" ["self","name"] (tS a):=by
 refine hV T.fK iC fun f c A o s H vs Q E hr h=>?_
 obtain⟨h,os,S,y,rfl,hI,hml,hdl,hkl,e1,e2,e3,q⟩:=h
 have hI0:=hI
 obtain⟨dx,p,q0,r,is,kv,rfl,I⟩:=hI
 refine⟨_,(ae (Oa 2 iC.nd (bj (iB T) hr.mm (ao (pv 1) (N6 (aW T.aq.cl (bG T).x hr.mm (pv 0)))))) (ae (aF (bQ K (bc (CK rfl) (by rfl) T.zU boot_any (N6 (gW dZ ["row"] ["name"] [1] OG (dB K (bR K (pv 0))) (fun C s2 H2 fp=>⟨(gn 0 (Oy ["row","name"])),d6,(Ae (Pf K) (pv 1) (bF (ao (N8 K (pv 0) aa) (N6 (N8 K (pv 0) aa)))))⟩))))) (ah (eg T.je rfl (N6 aB))) aw) (ae (aP (aW T.aq.cl (dS T) hr.mm (pv 0))) (ah (iG (pv 0) (ax gh (eJ (Pc K) (bR K (pv 0)) fP (fE (pv 2))) (eJ (Pc K) (bR K (pv 0)) (fE (ax bH (pv 2) aa)) fP)) rfl))))),?_⟩
 refine⟨_,rfl,_,rfl,h,dx,_,rfl,I.ih,Of,h,_,S,rfl,hI0,by omega,fun pm H1 npm s1 hpm=>?_⟩
 refine⟨y,pm,aA S,rfl,hpm,fun j hj hjm=>?_,fun hm=>e1 H1 s1 hm⟩
 have hm:y∈aA S:=Kw hj
 have I1:=I.same s1
 obtain⟨qi,ys,hq,hY⟩:=I1.ds
 have yl:=hY.length
 refine⟨_,rfl,h,a.House,dx,_,.ref q0,rfl,I1.ih,T.aq.cl,T.aN,by (repeat (first | exact bq | refine (ba (by trivial)).trans ?_)),q0,rfl,⟨_,N5.of hq⟩,?_⟩
 refine cg (xs:=ys) (fun i zs H'=>ag H1 H'/\zs=(S.ds.take i).map fun d=>V.bl (decide (d.2.1=y) || decide (d.2.2.1=some y))) (fun i zs H' _ h=>bo (N5.of (h.1 _ _ hq))) ⟨ag.refl H1,rfl⟩ (aJ (by omega)) (fun i zs H' h=>by rw[h.2,Kq,K0]; exact LI _ _) ?_ ?_
 .rintro i zs H2 x hi ⟨sm,rfl⟩
  obtain⟨d,hd,t,rfl,_,ht⟩:=hY.get hi
  have ht2:=sm _ _ ht
  dsimp only[aO,g8]
  refine aU ⟨_,rfl,_,rfl,t,_,_,_,rfl,rfl,N9.of ht2,rfl,_,rfl,t,_,_,_,rfl,rfl,N9.of ht2,rfl,(by show 2<=sizeLine; decide),fun t3 nt3=>?_⟩
  refine⟨t3,_,rfl,.inr (N9.of af),rfl,?_,sm.trans (ag.upd nt3),?_⟩
  .obtain⟨d1,d2,d3,d4⟩:=d
   cases d3 <;> rfl
  .rw[La,hd,KO]
   obtain⟨d1,d2,d3,d4⟩:=d
   congr 1
   show [V.bl (Ox (.str y) [.str d2,ig d3])]=[V.bl (decide (d2=y) || decide (d3=some y))]
   have:Ox (.str y) [.str d2,ig d3]=(decide (d2=y) || decide (d3=some y)):=by
    unfold Ox
    cases d3 with
    | none=>show (d2 == y || (false || false))=_; by_cases c:d2=y <;> simp[c]
    | some z=>show (d2 == y || (z == y || false))=_; by_cases c:d2=y <;> by_cases c2:z=y <;> simp[c,c2]
   rw[this]
 .rintro zs H2 p2 ⟨sm,rfl⟩ np2
  rw[yl,K6]
  have s2:=s1.trans (sm.trans (ag.upd (o:= .lst (S.ds.map fun d=>V.bl (decide (d.2.1=y) || decide (d.2.2.1=some y)))) np2))
  have hp2:(upd H2 p2 (.lst (S.ds.map fun d=>V.bl (decide (d.2.1=y) || decide (d.2.2.1=some y))))) p2=some (.lst ((S.ds.map fun d=>(decide (d.2.1=y) || decide (d.2.2.1=some y))).map V.bl)):=by rw[af,LF]; rfl
  generalize upd H2 p2 (.lst (S.ds.map fun d=>V.bl (decide (d.2.1=y) || decide (d.2.2.1=some y))))=H3 at s2 hp2
  have eb:(S.ds.map fun d=>(decide (d.2.1=y) || decide (d.2.2.1=some y))).any id=bound y S.ds:=by unfold bound; rw[List.any_map]; rfl
  refine⟨p2,_,rfl,N5.of hp2,_,rfl,?_⟩
  rw[eb]
  refine bD (fun c=>?_) (fun c=>?_)
  .exact⟨by decide,e2 _ s2 hm c⟩
  have c:bound y S.ds=false:=K8 _▸c
  have I3:=I.same s2
  obtain⟨pi,xs,hp,hX⟩:=I3.ms
  have xl:=hX.length
  refine⟨_,rfl,h,dx,_,rfl,I3.ih,Of,h,dx,p,q0,r,is,kv,S,rfl,I3,hkl,fun z=>e3 _ s2 hm c z,fun z2 t nt=>?_⟩
  have I4:=I3.keep nt
  have hp4:(upd (upd H3 t (.tup [.ref p,.ref q0])) r (.lst (kv++[.ref t]))) p=some (.lst xs):=(ai (I3.sh pi).2.2).trans ((ai (az hp nt)).trans hp)
  have hold:F2 (pJ jo is H (upd (upd H3 t (.tup [.ref p,.ref q0])) r (.lst (kv++[.ref t])))) xs S.ms:=hX.imp fun v m ⟨b,e,bi,hb⟩=>⟨b,e,.inl bi,(ai (I3.sh bi).2.2).trans ((ai (az hb nt)).trans hb)⟩
  dsimp only[aO,L2.start,List.set]
  refine⟨_,rfl,h,a.House,dx,_,.ref p,rfl,I4.ih,T.aq.cl,T.aH,by (repeat (first | exact bq | refine (ba (by trivial)).trans ?_)),_,rfl,_,rfl,p,xs,rfl,N5.of hp4,fun c1 nc1=>?_⟩
  rw[uH]
  refine⟨_,rfl,h,a.House,dx,_,.ref p,rfl,ag.upd nc1 _ _ I4.ih,T.aq.cl,T.aH,by (repeat (first | exact bq | refine (ba (by trivial)).trans ?_)),_,rfl,_,_,rfl,rfl,_,rfl,p,xs,rfl,N5.of (ag.upd nc1 _ _ hp4),fun c2 nc2=>?_⟩
  rw[show (((j:Nat):Int)+1)=((j+1:Nat):Int) by omega,pS]
  refine⟨c1,c2,_,_,rfl,rfl,ag.upd nc2 _ _ af,af,by rw[K0,Lv]; exact K7 (aJ (by omega)),fun c3 nc3=>?_⟩
  have s4:=((ag.upd (o:= .lst (xs.take j)) nc1).trans (ag.upd (o:= .lst (xs.drop (j+1))) nc2)).trans (ag.upd (o:= .lst (xs.take j++xs.drop (j+1))) nc3)
  have hc3:(upd (upd (upd (upd (upd H3 t (.tup [.ref p,.ref q0])) r (.lst (kv++[.ref t]))) c1 (.lst (xs.take j))) c2 (.lst (xs.drop (j+1)))) c3 (.lst (xs.take j++xs.drop (j+1)))) c3=some (.lst (xs.take j++xs.drop (j+1))):=af
  have np3:=((ag.upd (o:= .lst (xs.take j)) nc1).trans (ag.upd (o:= .lst (xs.drop (j+1))) nc2)).free nc3
  refine⟨_,rfl,h,a.House,dx,_,rfl,s4 _ _ I4.ih,T.aq.cl,T.aH,(by show 3 < 1000; decide),?_⟩
  rw[kB]
  generalize upd (upd (upd (upd (upd H3 t (.tup [.ref p,.ref q0])) r (.lst (kv++[.ref t]))) c1 (.lst (xs.take j))) c2 (.lst (xs.drop (j+1)))) c3 (.lst (xs.take j++xs.drop (j+1)))=H4 at s4 hc3
  have hold4:F2 (pJ jo is H H4) xs S.ms:=hold.imp fun v m ⟨b,e,bi,hb⟩=>⟨b,e,bi,s4 _ _ hb⟩
  exact q _ j hj hjm c z2 (I.zV s2 nt s4 (sx s2 nt np3) hc3 ((hold4.take j).append (hold4.drop (j+1))))
def zL (a:Adr):Sp:=fun vs H Q E=> ∃p e o:Int,vs=[.int p,.int e,.int o]/\(Ou p e o->cA p e o<=99999->Q (.int (cA p e o)) H)/\(Ou p e o->99999 < cA p e o->E (.ref a.TooMuch) none H)/\(¬Ou p e o->E (.ref a.BadNumber) none H)
theorem Am (T:Txt K mg a):O5 P w K mg base 2 "portion" ["people","each","over"] (zL a):=by
 refine tR T.r9 uL fun f c A o s H vs Q E hr h=>?_
 obtain⟨p,e,o,rfl,q1,q2,q3⟩:=h
 refine⟨_,(ae (aF (bK (PW.pt (eP (bQ K (bj (lq T).x hr.mm (ao (pv 0) (N6 (mI T.ub))))) (eP (bQ K (bj (lq T).x hr.mm (ao (pv 1) (N6 (mI T.xj))))) (eI (bQ K (bj (lq T).x hr.mm (ao (pv 2) (N6 (mI T.yp)))))))))) (ah (eg T.kX rfl (N6 aB))) aw) (ae (Oa 3 uL.nd (ax bN (ax pj (ax bH (ax xF (pv 0) (pv 1)) (pv 2)) aa) (pv 2))) (ae (aF (aG sq (pv 3) (j9 T.jW)) (ah (eg T.gH rfl (N6 aB))) aw) (ah (av (pv 3)))))),?_⟩
 have bad: ¬Ou p e o->([V.str "a number of the portion is outside its range"].length<=1000/\E (.ref a.BadNumber) none H):=fun z=>⟨by decide,q3 z⟩
 refine⟨_,rfl,fun a1 h1=>⟨_,0,999,a1,rfl,h1 _,_,rfl,?_⟩⟩
 refine bD (fun c1=>?_) (fun c1=>?_)
 rotate_left
 .refine aU (bad fun z=>?_)
  unfold Ou at z
  simp at c1
  omega
 .refine⟨_,rfl,fun a2 h2=>⟨_,1,999,a2,rfl,h2 _,_,rfl,?_⟩⟩
  refine bD (fun c2=>?_) (fun c2=>?_)
  rotate_left
  .refine aU (bad fun z=>?_)
   unfold Ou at z
   simp at c2
   omega
  .refine⟨_,rfl,fun a3 h3=>⟨_,1,999,a3,rfl,h3 _,_,rfl,?_⟩⟩
   refine bD (fun c3=>bad fun z=>?_) (fun c3=>?_)
   .unfold Ou at z
    simp at c3
    omega
   .have hin:Ou p e o:=by
     simp at c1 c2 c3
     unfold Ou
     omega
    have hin':=id hin
    unfold Ou at hin'
    refine⟨_,rfl,_,rfl,_,_,rfl,rfl,.inl ⟨by omega,by omega⟩,_,rfl,_,_,rfl,rfl,_,_,rfl,rfl,_,rfl,_,_,rfl,rfl,⟨by omega,by omega⟩,?_⟩
    refine⟨_,rfl,_,_,rfl,rfl,_,rfl,?_⟩
    refine bD (fun c4=>?_) (fun c4=>?_)
    .exact⟨by show 1<=1000; decide,q2 hin (KY c4)⟩
    .exact⟨_,rfl,q1 hin (by have:=Lh (K8 _▸c4); unfold cA; omega)⟩
def uv (C:Addr):Sp:=fun vs H Q _=> ∃(h:Addr) (os:List Addr) (S:Ob),vs=[.ref h]/\HI C H h os S/\S.ds.length<=100/\ ∀(p:Addr) (H':Hp),H p=none->ag H H'->H' p=some (.lst ((bt S).map V.str))->Q (.ref p) H'
theorem dY (T:Txt K mg a):OO P w K mg base 1 a.House "demand_names" ["self"] (uv a.House):=by
 refine pW T.fU oZ fun f c A o s H vs Q E hr h=>?_
 obtain⟨h,os,S,rfl,⟨dx,p0,p,r,is,kv,rfl,I⟩,hl,q⟩:=h
 obtain⟨pi,xs,hp,hX⟩:=I.ds
 have xl:=hX.length
 refine⟨_,(ah (av (gW eE ["row"] [] [] OG (dB K (bR K (pv 0))) (fun C s2 H2 fp=>⟨(gn 0 (Oy ["row"])),d6,(N8 K (pv 0) aa)⟩)))),?_⟩
 refine⟨_,rfl,h,a.House,dx,_,.ref p,rfl,I.ih,T.aq.cl,T.aN,by (repeat (first | exact bq | refine (ba (by trivial)).trans ?_)),p,rfl,⟨_,N5.of hp⟩,?_⟩
 refine cg (xs:=xs) (fun i ys H'=>H'=H/\ys=(S.ds.take i).map fun m=>V.str m.1) (fun i ys H' _ h=>by rw[h.1]; exact bo (N5.of hp)) ⟨rfl,rfl⟩ (aJ (by omega)) (fun i ys H' h=>by rw[h.2,Kq,K0]; exact LI _ _) ?_ ?_
 .rintro i ys H2 x hi ⟨rfl,rfl⟩
  obtain⟨m,hm,t,rfl,_,ht⟩:=hX.get hi
  dsimp only[aO,g8]
  refine aU ⟨_,rfl,t,_,_,_,rfl,rfl,N9.of ht,rfl,rfl,?_⟩
  rw[La,hm,KO]
  rfl
 .rintro ys H2 p2 ⟨rfl,rfl⟩ np
  refine q p2 _ np (ag.upd np) ?_
  rw[af,xl,K6]
  unfold bt
  rw[LF]
  rfl
def Ah (K:N7) (a:Adr):Sp:=fun vs H Q E=> ∃(n lo hi:Int) (p:Addr),vs=[.int n,.ref p]/\N9 K H p [.int lo,.int hi]/\(lo<=n/\n<=hi->Q .non H)/\(¬(lo<=n/\n<=hi)->E (.ref a.BadNumber) none H)
theorem mf (T:Txt K mg a):O5 P w K mg base 2 "refuse_outside" ["number","span"] (Ah K a):=by
 refine tR T.i6 sS fun f c A o s H vs Q E hr h=>?_
 obtain⟨n,lo,hi,p,rfl,hp,q,e⟩:=h
 refine⟨_,(ah (aF (bK (bQ K (bj (lq T).x hr.mm (ao (pv 0) (N6 (pv 1)))))) (ah (eg T.kX rfl (N6 aB))) aw)),?_⟩
 refine⟨_,rfl,_,rfl,n,lo,hi,p,rfl,hp,_,rfl,?_⟩
 by_cases c:lo<=n/\n<=hi
 .rw[show (decide (lo<=n) && decide (n<=hi))=true from by simp[c.1,c.2]]
  exact aD (q c)
 .rw[show (decide (lo<=n) && decide (n<=hi))=false from by
   rw[Bool.eq_false_iff]
   intro z
   rw[Lb] at z
   exact c ⟨KY z.1,KY z.2⟩]
  exact aU ⟨by decide,e c⟩
def CM (a:Adr):Sp:=fun vs H Q E=> ∃(h dx p q r:Addr) (is:List Addr) (kv:List V) (S:Ob) (H0:Hp) (t:Addr) (d:Oi),vs=[.ref h,.ref t]/\Ot a.House H0 h dx p q r is kv S/\ag H0 H/\H0 t=none/\H t=some (.tup (jG d))/\S.ds.length<=24/\S.ks.length<=150 /\
 ((24<=S.ds.length\/150<=S.ks.length)->E (.ref a.Full) none H)/\(∀H',S.ds.length < 24->S.ks.length < 150->cS a.House H0 h (h::dx::r::is) ⟨S.ms,S.ds++[d],S.ks++[(S.ms,S.ds)]⟩ H'->Q .non H')
theorem ja (T:Txt K mg a):ON P w K mg base 3 a.House "bring_demand" ["self","row"] (CM a):=by
 refine hV T.f9 pF fun f c A o s H vs Q E hr h=>?_
 obtain⟨h,dx,p,q0,r,is,kv,S,H0,t0,d,rfl,I,s0,nt0,ht0,hdl,hkl,e,q⟩:=h
 refine⟨_,(ae (aP (bj (ke T) hr.mm (ao (cE K T.bI (bR K (pv 0))) (N6 (j9 T.j7))))) (ae (aP (aW T.aq.cl (dS T) hr.mm (pv 0))) (ah (iG (pv 0) (ax gh (bR K (pv 0)) (bh (N6 (pv 1)))) rfl)))),?_⟩
 have I2:=I.same s0
 obtain⟨pi,xs,hp,hX⟩:=I2.ds
 have xl:=hX.length
 refine⟨_,rfl,h,a.House,dx,_,.ref q0,rfl,I2.ih,T.aq.cl,T.aN,by (repeat (first | exact bq | refine (ba (by trivial)).trans ?_)),_,_,rfl,.inl ⟨_,N5.of hp,rfl⟩,_,_,rfl,fun z=>?_,fun z=>e (.inl (by omega))⟩
 refine⟨_,rfl,h,dx,_,rfl,I2.ih,Of,h,dx,p,q0,r,is,kv,S,rfl,I2,hkl,fun z=>e (.inr z),fun z2 t nt=>?_⟩
 have I3:=I2.keep nt
 have hp3:(upd (upd H t (.tup [.ref p,.ref q0])) r (.lst (kv++[.ref t]))) q0=some (.lst xs):=(ai (I2.sh pi).2.2).trans ((ai (az hp nt)).trans hp)
 have tr:t0≠r:=fun z=>by rw[z,I.ir] at nt0; cases nt0
 have ht3:(upd (upd H t (.tup [.ref p,.ref q0])) r (.lst (kv++[.ref t]))) t0=some (.tup (jG d)):=(ai tr).trans ((ai (az ht0 nt)).trans ht0)
 refine⟨_,rfl,h,a.House,dx,_,.ref q0,rfl,I3.ih,T.aq.cl,T.aN,by (repeat (first | exact bq | refine (ba (by trivial)).trans ?_)),_,rfl,(by show 1<=sizeLine; decide),fun l nl=>?_⟩
 have sl:=ag.upd (o:= .lst [.ref t0]) nl
 refine⟨q0,l,_,_,rfl,rfl,sl _ _ hp3,af,by rw[xl]; exact K7 (aJ (by show S.ds.length+1<=1000; omega)),fun p' np'=>?_⟩
 have s4:=sl.trans (ag.upd (o:= .lst (xs++[.ref t0])) np')
 have hp4:(upd (upd (upd (upd H t (.tup [.ref p,.ref q0])) r (.lst (kv++[.ref t]))) l (.lst [.ref t0])) p' (.lst (xs++[.ref t0]))) p'=some (.lst (xs++[.ref t0])):=af
 have np3:=sl.free np'
 refine⟨_,rfl,h,a.House,dx,_,rfl,s4 _ _ I3.ih,T.aq.cl,T.aN,(by show 3 < 1000; decide),?_⟩
 rw[mG (by trivial),kB]
 generalize upd (upd (upd (upd H t (.tup [.ref p,.ref q0])) r (.lst (kv++[.ref t]))) l (.lst [.ref t0])) p' (.lst (xs++[.ref t0]))=H4 at s4 hp4
 refine q _ (by omega) z2 (I.Ek s0 nt s4 (sx s0 nt np3) hp4 (F2.append ?_ (.cons ⟨t0,rfl,.inr nt0,s4 _ _ ht3⟩ .nil)))
 refine hX.imp fun v m ⟨b,e,bi,hb⟩=>⟨b,e,.inl bi,s4 _ _ ((ai (I2.sh bi).2.2).trans ((ai (az hb nt)).trans hb))⟩
def rZ (a:Adr):Sp:=fun vs H Q E=> ∃(h:Addr) (os:List Addr) (S:Ob) (y m:Str) (pe ea ov:Int),vs=[.ref h,.str y,.str m,.int pe,.int ea,.int ov]/\HI a.House H h os S/\y.cps.toList.length<=1000/\S.ms.length<=12/\S.ds.length<=24/\S.ks.length<=150 /\
 (∀H',ag H H'->m∉aA S->E (.ref a.Unknown) none H')/\(∀H',ag H H'->m∈aA S->y∈bt S->E (.ref a.InUse) none H')/\(∀H',ag H H'->m∈aA S->y∉bt S->cM y.cps.toList=false->E (.ref a.BadName) none H') /\
 (∀H',ag H H'->m∈aA S->y∉bt S->cM y.cps.toList=true-> ¬Ou pe ea ov->E (.ref a.BadNumber) none H')/\(∀H',ag H H'->m∈aA S->y∉bt S->cM y.cps.toList=true->Ou pe ea ov->99999 < cA pe ea ov->E (.ref a.TooMuch) none H') /\
 (∀H',ag H H'->m∈aA S->y∉bt S->cM y.cps.toList=true->Ou pe ea ov->cA pe ea ov<=99999->(24<=S.ds.length\/150<=S.ks.length)->E (.ref a.Full) none H') /\
 (∀H',m∈aA S->y∉bt S->cM y.cps.toList=true->Ou pe ea ov->cA pe ea ov<=99999->S.ds.length < 24->S.ks.length < 150->cS a.House H h os ⟨S.ms,S.ds++[(y,m,none,cA pe ea ov)],S.ks++[(S.ms,S.ds)]⟩ H'->Q .non H')
theorem lx (T:Txt K mg a):ON P w K mg base 4 a.House "add_plain" ["self","name","member","people","each","over"] (rZ a):=by
 refine hV T.hE rS fun f c A o s H vs Q E hr h=>?_
 obtain⟨h,os,S,y,m,pe,ea,ov,rfl,hI,hy,hml,hdl,hkl,e1,e2,e3,e4,e5,e6,q⟩:=h
 have hI0:=hI
 obtain⟨dx,p,q0,r,is,kv,rfl,I⟩:=hI
 refine⟨_,(ae (aP (bj (fA T) hr.mm (ao (pv 2) (N6 (aW T.aq.cl (bG T).x hr.mm (pv 0)))))) (ae (aP (bj (gL T) hr.mm (ao (pv 1) (N6 (aW T.aq.cl (dY T).x hr.mm (pv 0)))))) (ah (aP (cV T.aq.cl (ja T) hr.mm (pv 0) (N6 (bF (ao (pv 1) (ao (pv 2) (ao bu (N6 (bj (Am T) hr.mm (ao (pv 3) (ao (pv 4) (N6 (pv 5)))))))))))))))),?_⟩
 refine⟨_,rfl,_,rfl,h,dx,_,rfl,I.ih,Of,h,_,S,rfl,hI0,by omega,fun pm H1 npm s1 hpm=>?_⟩
 refine⟨m,pm,aA S,rfl,N5.of hpm,fun hm=>?_,fun hm=>e1 H1 s1 hm⟩
 refine⟨_,rfl,_,rfl,h,dx,_,rfl,(I.same s1).ih,Of,h,_,S,rfl,⟨dx,p,q0,r,is,kv,rfl,I.same s1⟩,by omega,fun pd H2 npd s2 hpd=>?_⟩
 have s12:=s1.trans s2
 refine⟨y,pd,bt S,rfl,N5.of hpd,hy,fun hn=>e2 H2 s12 hm hn,fun H3 s3 hn=>⟨fun hg=>?_,fun hb=>e3 H3 (s12.trans s3) hm hn hb⟩⟩
 have s13:=s12.trans s3
 refine⟨_,rfl,h,dx,_,rfl,(I.same s13).ih,Of,_,rfl,_,rfl,_,rfl,_,rfl,_,rfl,pe,ea,ov,rfl,fun hr1 hr2=>⟨(by show 4<=sizeLine; decide),fun t nt=>?_⟩,fun hr1 hr2=>e5 H3 s13 hm hn hg hr1 hr2,fun hr1=>e4 H3 s13 hm hn hg hr1⟩
 refine⟨h,dx,p,q0,r,is,kv,S,H,t,(y,m,none,cA pe ea ov),rfl,I,s13.trans (ag.upd nt),s13.free nt,af,hdl,hkl,fun z=>e6 _ (s13.trans (ag.upd nt)) hm hn hg hr1 hr2 z,fun H' z1 z2 hN=>q H' hm hn hg hr1 hr2 z1 z2 hN⟩
def sX (a:Adr):Sp:=fun vs H Q E=> ∃(h:Addr) (os:List Addr) (S:Ob) (y m b:Str) (mo:Int),vs=[.ref h,.str y,.str m,.str b,.int mo]/\HI a.House H h os S/\y.cps.toList.length<=1000/\S.ms.length<=12/\S.ds.length<=24/\S.ks.length<=150 /\
 (∀H',ag H H'->(m∉aA S\/b∉aA S)->E (.ref a.Unknown) none H')/\(∀H',ag H H'->m∈aA S->b∈aA S->y∈bt S->E (.ref a.InUse) none H')/\(∀H',ag H H'->m∈aA S->b∈aA S->y∉bt S->cM y.cps.toList=false->E (.ref a.BadName) none H') /\
 (∀H',ag H H'->m∈aA S->b∈aA S->y∉bt S->cM y.cps.toList=true-> ¬(0<=mo/\mo<=99)->E (.ref a.BadNumber) none H') /\
 (∀H',ag H H'->m∈aA S->b∈aA S->y∉bt S->cM y.cps.toList=true->0<=mo/\mo<=99->(24<=S.ds.length\/150<=S.ks.length)->E (.ref a.Full) none H') /\
 (∀H',m∈aA S->b∈aA S->y∉bt S->cM y.cps.toList=true->0<=mo/\mo<=99->S.ds.length < 24->S.ks.length < 150->cS a.House H h os ⟨S.ms,S.ds++[(y,m,some b,mo)],S.ks++[(S.ms,S.ds)]⟩ H'->Q .non H')
theorem me (T:Txt K mg a):ON P w K mg base 4 a.House "add_link" ["self","name","member","base","more"] (sX a):=by
 refine hV T.i5 sU fun f c A o s H vs Q E hr h=>?_
 obtain⟨h,os,S,y,m,b,mo,rfl,hI,hy,hml,hdl,hkl,e1,e2,e3,e4,e6,q⟩:=h
 have hI0:=hI
 obtain⟨dx,p,q0,r,is,kv,rfl,I⟩:=hI
 refine⟨_,(ae (aP (bj (fA T) hr.mm (ao (pv 2) (N6 (aW T.aq.cl (bG T).x hr.mm (pv 0)))))) (ae (aP (bj (fA T) hr.mm (ao (pv 3) (N6 (aW T.aq.cl (bG T).x hr.mm (pv 0)))))) (ae (aP (bj (gL T) hr.mm (ao (pv 1) (N6 (aW T.aq.cl (dY T).x hr.mm (pv 0)))))) (ae (aP (bj (mf T) hr.mm (ao (pv 4) (N6 (mI T.oN))))) (ah (aP (cV T.aq.cl (ja T) hr.mm (pv 0) (N6 (bF (ao (pv 1) (ao (pv 2) (ao (pv 3) (N6 (pv 4)))))))))))))),?_⟩
 refine⟨_,rfl,_,rfl,h,dx,_,rfl,I.ih,Of,h,_,S,rfl,hI0,by omega,fun pm H1 npm s1 hpm=>?_⟩
 refine⟨m,pm,aA S,rfl,N5.of hpm,fun hm=>?_,fun hm=>e1 H1 s1 (.inl hm)⟩
 refine⟨_,rfl,_,rfl,h,dx,_,rfl,(I.same s1).ih,Of,h,_,S,rfl,⟨dx,p,q0,r,is,kv,rfl,I.same s1⟩,by omega,fun pb H1' npb s1' hpb=>?_⟩
 have s1:=s1.trans s1'
 refine⟨b,pb,aA S,rfl,N5.of hpb,fun hb'=>?_,fun hb'=>e1 H1' s1 (.inr hb')⟩
 refine⟨_,rfl,_,rfl,h,dx,_,rfl,(I.same s1).ih,Of,h,_,S,rfl,⟨dx,p,q0,r,is,kv,rfl,I.same s1⟩,by omega,fun pd H2 npd s2 hpd=>?_⟩
 have s12:=s1.trans s2
 refine⟨y,pd,bt S,rfl,N5.of hpd,hy,fun hn=>e2 H2 s12 hm hb' hn,fun H3 s3 hn=>⟨fun hg=>?_,fun hb=>e3 H3 (s12.trans s3) hm hb' hn hb⟩⟩
 have s13:=s12.trans s3
 refine⟨_,rfl,fun a1 h1=>⟨mo,0,99,a1,rfl,h1 _,fun hr1=>?_,fun hr1=>e4 H3 s13 hm hb' hn hg hr1⟩⟩
 refine⟨_,rfl,h,dx,_,rfl,(I.same s13).ih,Of,_,rfl,_,rfl,_,rfl,_,rfl,(by show 4<=sizeLine; decide),fun t nt=>?_⟩
 refine⟨h,dx,p,q0,r,is,kv,S,H,t,(y,m,some b,mo),rfl,I,s13.trans (ag.upd nt),s13.free nt,af,hdl,hkl,fun z=>e6 _ (s13.trans (ag.upd nt)) hm hb' hn hg hr1 z,fun H' z1 z2 hN=>q H' hm hb' hn hg hr1 z1 z2 hN⟩
def uc (a:Adr):Sp:=fun vs H Q E=> ∃(h:Addr) (os:List Addr) (S:Ob) (y:Str),vs=[.ref h,.str y]/\HI a.House H h os S/\S.ds.length<=24/\S.ks.length<=150 /\
 (∀H',ag H H'->y∉bt S->E (.ref a.Unknown) none H')/\(∀H',ag H H'->y∈bt S->150<=S.ks.length->E (.ref a.Full) none H') /\
 (∀(H':Hp) (j:Nat),(bt S)[j]?=some y->(∀m,m < j->(bt S)[m]?≠some y)->S.ks.length < 150->cS a.House H h os ⟨S.ms,S.ds.take j++S.ds.drop (j+1),S.ks++[(S.ms,S.ds)]⟩ H'->Q .non H')
theorem oA (T:Txt K mg a):ON P w K mg base 4 a.House "strike_demand" ["self","name"] (uc a):=by
 refine hV T.fD iD fun f c A o s H vs Q E hr h=>?_
 obtain⟨h,os,S,y,rfl,hI,hdl,hkl,e1,e3,q⟩:=h
 have hI0:=hI
 obtain⟨dx,p,q0,r,is,kv,rfl,I⟩:=hI
 refine⟨_,(ae (Oa 2 iD.nd (bj (iB T) hr.mm (ao (pv 1) (N6 (aW T.aq.cl (dY T).x hr.mm (pv 0)))))) (ae (aP (aW T.aq.cl (dS T) hr.mm (pv 0))) (ah (iG (pv 0) (ax gh (eJ (Pc K) (bR K (pv 0)) fP (fE (pv 2))) (eJ (Pc K) (bR K (pv 0)) (fE (ax bH (pv 2) aa)) fP)) rfl)))),?_⟩
 refine⟨_,rfl,_,rfl,h,dx,_,rfl,I.ih,Of,h,_,S,rfl,hI0,by omega,fun pm H3 npm s2 hpm=>?_⟩
 refine⟨y,pm,bt S,rfl,hpm,fun j hj hjm=>?_,fun hm=>e1 H3 s2 hm⟩
 have hm:y∈bt S:=Kw hj
 have I3:=I.same s2
 obtain⟨pi,xs,hp,hX⟩:=I3.ds
 have xl:=hX.length
 refine⟨_,rfl,h,dx,_,rfl,I3.ih,Of,h,dx,p,q0,r,is,kv,S,rfl,I3,hkl,fun z=>e3 _ s2 hm z,fun z2 t nt=>?_⟩
 have I4:=I3.keep nt
 have hp4:(upd (upd H3 t (.tup [.ref p,.ref q0])) r (.lst (kv++[.ref t]))) q0=some (.lst xs):=(ai (I3.sh pi).2.2).trans ((ai (az hp nt)).trans hp)
 dsimp only[aO,L2.start,List.set]
 refine⟨_,rfl,h,a.House,dx,_,.ref q0,rfl,I4.ih,T.aq.cl,T.aN,by (repeat (first | exact bq | refine (ba (by trivial)).trans ?_)),_,rfl,_,rfl,q0,xs,rfl,N5.of hp4,fun c1 nc1=>?_⟩
 rw[uH]
 refine⟨_,rfl,h,a.House,dx,_,.ref q0,rfl,ag.upd nc1 _ _ I4.ih,T.aq.cl,T.aN,by (repeat (first | exact bq | refine (ba (by trivial)).trans ?_)),_,rfl,_,_,rfl,rfl,_,rfl,q0,xs,rfl,N5.of (ag.upd nc1 _ _ hp4),fun c2 nc2=>?_⟩
 rw[show (((j:Nat):Int)+1)=((j+1:Nat):Int) by omega,pS]
 refine⟨c1,c2,_,_,rfl,rfl,ag.upd nc2 _ _ af,af,by rw[K0,Lv]; exact K7 (aJ (by omega)),fun c3 nc3=>?_⟩
 have s4:=((ag.upd (o:= .lst (xs.take j)) nc1).trans (ag.upd (o:= .lst (xs.drop (j+1))) nc2)).trans (ag.upd (o:= .lst (xs.take j++xs.drop (j+1))) nc3)
 have hc3:(upd (upd (upd (upd (upd H3 t (.tup [.ref p,.ref q0])) r (.lst (kv++[.ref t]))) c1 (.lst (xs.take j))) c2 (.lst (xs.drop (j+1)))) c3 (.lst (xs.take j++xs.drop (j+1)))) c3=some (.lst (xs.take j++xs.drop (j+1))):=af
 have np3:=((ag.upd (o:= .lst (xs.take j)) nc1).trans (ag.upd (o:= .lst (xs.drop (j+1))) nc2)).free nc3
 refine⟨_,rfl,h,a.House,dx,_,rfl,s4 _ _ I4.ih,T.aq.cl,T.aN,(by show 3 < 1000; decide),?_⟩
 rw[mG (by trivial),kB]
 generalize upd (upd (upd (upd (upd H3 t (.tup [.ref p,.ref q0])) r (.lst (kv++[.ref t]))) c1 (.lst (xs.take j))) c2 (.lst (xs.drop (j+1)))) c3 (.lst (xs.take j++xs.drop (j+1)))=H4 at s4 hc3
 have hold4:F2 (pJ jG is H H4) xs S.ds:=hX.imp fun v m ⟨b,e,bi,hb⟩=>⟨b,e,.inl bi,s4 _ _ ((ai (I3.sh bi).2.2).trans ((ai (az hb nt)).trans hb))⟩
 exact q _ j hj hjm z2 (I.Ek s2 nt s4 (sx s2 nt np3) hc3 ((hold4.take j).append (hold4.drop (j+1))))
def AK (C:Addr):Sp:=fun vs H Q _=> ∃(h:Addr) (os:List Addr) (S:Ob),vs=[.ref h]/\HI C H h os S/\ ∀(p:Addr) (xs:List V) (H':Hp),H p=none->ag H H'->H' p=some (.lst xs)->F2 (x6 os H') xs S.ds->Q (.ref p) H'
theorem tQ (T:Txt K mg a):OO P w K mg base 1 a.House "demands" ["self"] (AK a.House):=by
 refine pW T.jR t4 fun f c A o s H vs Q E hr h=>?_
 obtain⟨h,os,S,rfl,⟨dx,p0,p,r,is,kv,rfl,I⟩,q⟩:=h
 obtain⟨pi,xs,hp,hX⟩:=I.ds
 refine⟨_,(ah (av (dz (show cX _ _ (oU K) from iI) (by rfl) T.iA boot_list (N6 (bR K (pv 0)))))),?_⟩
 refine⟨_,rfl,h,a.House,dx,_,.ref p,rfl,I.ih,T.aq.cl,T.aN,by (repeat (first | exact bq | refine (ba (by trivial)).trans ?_)),p,xs,rfl,.inl (N5.of hp),fun l nl=>?_⟩
 exact q l xs _ nl (ag.upd nl) af (hX.imp fun v m z=>z.mono (fun b hb=>by simp[hb]) fun b o _ e=>ag.upd nl _ _ e)
def cN (S:Ob):List (Option Int):=S.ms.map (·.2)
def yA (C:Addr):Sp:=fun vs H Q _=> ∃(h:Addr) (os:List Addr) (S:Ob),vs=[.ref h]/\HI C H h os S/\S.ms.length<=100/\ ∀(p:Addr) (H':Hp),H p=none->ag H H'->H' p=some (.lst ((cN S).map fz))->Q (.ref p) H'
theorem cv (T:Txt K mg a):OO P w K mg base 1 a.House "greatest_widths" ["self"] (yA a.House):=by
 refine pW T.eY mX fun f c A o s H vs Q E hr h=>?_
 obtain⟨h,os,S,rfl,⟨dx,p,q0,r,is,kv,rfl,I⟩,hl,q⟩:=h
 obtain⟨pi,xs,hp,hX⟩:=I.ms
 have xl:=hX.length
 refine⟨_,(ah (av (gW dC ["row"] [] [] OG (dB K (bR K (pv 0))) (fun C s2 H2 fp=>⟨(gn 0 (Oy ["row"])),d6,(N8 K (pv 0) aa)⟩)))),?_⟩
 refine⟨_,rfl,h,a.House,dx,_,.ref p,rfl,I.ih,T.aq.cl,T.aH,by (repeat (first | exact bq | refine (ba (by trivial)).trans ?_)),p,rfl,⟨_,N5.of hp⟩,?_⟩
 refine cg (xs:=xs) (fun i ys H'=>H'=H/\ys=(S.ms.take i).map fun m=>fz m.2) (fun i ys H' _ h=>by rw[h.1]; exact bo (N5.of hp)) ⟨rfl,rfl⟩ (aJ (by omega)) (fun i ys H' h=>by rw[h.2,Kq,K0]; exact LI _ _) ?_ ?_
 .rintro i ys H2 x hi ⟨rfl,rfl⟩
  obtain⟨m,hm,t,rfl,_,ht⟩:=hX.get hi
  dsimp only[aO,g8]
  refine aU ⟨_,rfl,t,_,_,_,rfl,rfl,N9.of ht,rfl,rfl,?_⟩
  rw[La,hm,KO]
  rfl
 .rintro ys H2 p2 ⟨rfl,rfl⟩ np
  refine q p2 _ np (ag.upd np) ?_
  rw[af,xl,K6]
  unfold cN
  rw[LF]
  rfl
def Bl (a:Adr):Sp:=fun vs H Q E=> ∃(h dx p q r:Addr) (is:List Addr) (kv:List V) (S:Ob) (H0:Hp) (j:Nat) (o:Option Int) (m:Mem),vs=[.ref h,.int (j:Nat),fz o]/\Ot a.House H0 h dx p q r is kv S/\ag H0 H/\S.ms[j]?=some m/\S.ms.length<=12/\S.ks.length<=150 /\
 (150<=S.ks.length->E (.ref a.Full) none H)/\(∀H',S.ks.length < 150->cS a.House H0 h (h::dx::r::is) ⟨S.ms.take j++[(m.1,o)]++S.ms.drop (j+1),S.ds,S.ks++[(S.ms,S.ds)]⟩ H'->Q .non H')
theorem jT (T:Txt K mg a):ON P w K mg base 3 a.House "change_top" ["self","place","top"] (Bl a):=by
 refine hV T.gY jS fun f c A o s H vs Q E hr h=>?_
 obtain⟨h,dx,p,q0,r,is,kv,S,H0,j,o,m,rfl,I,s0,hj,hml,hkl,e,q⟩:=h
 refine⟨_,(ae (aP (aW T.aq.cl (dS T) hr.mm (pv 0))) (ae (Oa 3 jS.nd (bF (ao (N8 K (Od K (bR K (pv 0)) (pv 1)) aa) (N6 (pv 2))))) (ah (iG (pv 0) (ax gh (ax gh (eJ (Pc K) (bR K (pv 0)) fP (fE (pv 1))) (bh (N6 (pv 3)))) (eJ (Pc K) (bR K (pv 0)) (fE (ax bH (pv 1) aa)) fP)) rfl)))),?_⟩
 have I2:=I.same s0
 obtain⟨pi,xs,hp,hX⟩:=I2.ms
 have xl:=hX.length
 refine⟨_,rfl,h,dx,_,rfl,I2.ih,Of,h,dx,p,q0,r,is,kv,S,rfl,I2,hkl,fun z=>e z,fun z2 t nt=>?_⟩
 have I3:=I2.keep nt
 have hp3:(upd (upd H t (.tup [.ref p,.ref q0])) r (.lst (kv++[.ref t]))) p=some (.lst xs):=(ai (I2.sh pi).2.2).trans ((ai (az hp nt)).trans hp)
 have hX3:F2 (pJ jo is H0 (upd (upd H t (.tup [.ref p,.ref q0])) r (.lst (kv++[.ref t])))) xs S.ms:=hX.imp fun v m ⟨b,e,bi,hb⟩=>⟨b,e,.inl bi,(ai (I2.sh bi).2.2).trans ((ai (az hb nt)).trans hb)⟩
 have fr: ∀ {b:Addr},(upd (upd H t (.tup [.ref p,.ref q0])) r (.lst (kv++[.ref t]))) b=none->H0 b=none:=fun z=>sx s0 nt z
 obtain⟨H3,e3⟩: ∃H3,H3=upd (upd H t (.tup [.ref p,.ref q0])) r (.lst (kv++[.ref t])):=⟨_,rfl⟩
 have deed:=fun {H4:Hp}=>@Ot.zV a.House h dx p q0 r H0 is kv S I H s0 t nt H4
 rw[<-e3] at I3 hp3 hX3 fr deed ⊢
 obtain⟨v,hv,tm,rfl,_,htm⟩:=hX3.at' hj
 refine⟨_,rfl,h,a.House,dx,_,.ref p,rfl,I3.ih,T.aq.cl,T.aH,by (repeat (first | exact bq | refine (ba (by trivial)).trans ?_)),_,rfl,p,_,_,_,rfl,rfl,N5.of hp3,bT hv,tm,_,_,_,rfl,rfl,N9.of htm,rfl,_,rfl,(by show 2<=sizeLine; decide),fun t2 nt2=>?_⟩
 have s4:=ag.upd (o:= .tup [.str m.1,fz o]) nt2
 have ht4:(upd H3 t2 (.tup [.str m.1,fz o])) t2=some (.tup (jo (m.1,o))):=af
 dsimp only[aO,L2.start,List.set]
 generalize upd H3 t2 (.tup [.str m.1,fz o])=H4 at s4 ht4
 refine⟨_,rfl,h,a.House,dx,_,.ref p,rfl,s4 _ _ I3.ih,T.aq.cl,T.aH,by (repeat (first | exact bq | refine (ba (by trivial)).trans ?_)),_,rfl,_,rfl,p,xs,rfl,N5.of (s4 _ _ hp3),fun c1 nc1=>?_⟩
 rw[uH]
 have s5:=ag.upd (o:= .lst (xs.take j)) nc1
 have hc1:(upd H4 c1 (.lst (xs.take j))) c1=some (.lst (xs.take j)):=af
 generalize upd H4 c1 (.lst (xs.take j))=H5 at s5 hc1
 refine⟨_,rfl,(by show 1<=sizeLine; decide),fun l nl=>?_⟩
 have s6:=ag.upd (o:= .lst [.ref t2]) nl
 have hl6:(upd H5 l (.lst [.ref t2])) l=some (.lst [.ref t2]):=af
 generalize upd H5 l (.lst [.ref t2])=H6 at s6 hl6
 refine⟨c1,l,_,_,rfl,rfl,s6 _ _ hc1,hl6,by rw[K0]; exact K7 (aJ (by show min j xs.length+1<=1000; omega)),fun c2 nc2=>?_⟩
 have s7:=ag.upd (o:= .lst (xs.take j++[.ref t2])) nc2
 have hc2:(upd H6 c2 (.lst (xs.take j++[.ref t2]))) c2=some (.lst (xs.take j++[.ref t2])):=af
 generalize upd H6 c2 (.lst (xs.take j++[.ref t2]))=H7 at s7 hc2
 have s47:=(s5.trans s6).trans s7
 refine⟨_,rfl,h,a.House,dx,_,.ref p,rfl,s47 _ _ (s4 _ _ I3.ih),T.aq.cl,T.aH,by (repeat (first | exact bq | refine (ba (by trivial)).trans ?_)),_,rfl,_,_,rfl,rfl,_,rfl,p,xs,rfl,N5.of (s47 _ _ (s4 _ _ hp3)),fun c3 nc3=>?_⟩
 rw[show (((j:Nat):Int)+1)=((j+1:Nat):Int) by omega,pS]
 have s8:=ag.upd (o:= .lst (xs.drop (j+1))) nc3
 have hc3:(upd H7 c3 (.lst (xs.drop (j+1)))) c3=some (.lst (xs.drop (j+1))):=af
 generalize upd H7 c3 (.lst (xs.drop (j+1)))=H8 at s8 hc3
 refine⟨c2,c3,_,_,rfl,rfl,s8 _ _ hc2,hc3,by rw[KC,K0,Lv]; exact K7 (aJ (by show min j xs.length+1+(xs.length - (j+1))<=1000; omega)),fun c4 nc4=>?_⟩
 have s9:=ag.upd (o:= .lst (xs.take j++[.ref t2]++xs.drop (j+1))) nc4
 have hc4:(upd H8 c4 (.lst (xs.take j++[.ref t2]++xs.drop (j+1)))) c4=some (.lst (xs.take j++[.ref t2]++xs.drop (j+1))):=af
 generalize upd H8 c4 (.lst (xs.take j++[.ref t2]++xs.drop (j+1)))=H9 at s9 hc4
 have s48:=s47.trans s8
 have s49:=s48.trans s9
 have s39:=s4.trans s49
 refine⟨_,rfl,h,a.House,dx,_,rfl,s39 _ _ I3.ih,T.aq.cl,T.aH,(by show 3 < 1000; decide),?_⟩
 rw[kB]
 have hold:F2 (pJ jo is H0 H9) xs S.ms:=hX3.imp fun v m ⟨b,e,bi,hb⟩=>⟨b,e,bi,s39 _ _ hb⟩
 exact q _ z2 (deed s39 (fr ((s4.trans s48).free nc4)) hc4 (((hold.take j).append (.cons ⟨t2,rfl,.inr (fr nt2),s49 _ _ ht4⟩ .nil)).append (hold.drop (j+1))))
def uN (a:Adr):Sp:=fun vs H Q E=> ∃(h:Addr) (os:List Addr) (S:Ob) (m:Str) (wd:Int),vs=[.ref h,.str m,.int wd]/\HI a.House H h os S/\S.ms.length<=12/\S.ks.length<=150/\(∀H',ag H H'->m∉aA S->E (.ref a.Unknown) none H') /\
 ∀(j:Nat) (o:Option Int),(aA S)[j]?=some m->(∀i,i < j->(aA S)[i]?≠some m)->S.ms[j]?=some (m,o)->(∀H',ag H H'->o≠none->E (.ref a.InUse) none H')/\(∀H',ag H H'->o=none-> ¬(0<=wd/\wd<=99999)->E (.ref a.BadNumber) none H') /\
  (∀H',ag H H'->o=none->0<=wd/\wd<=99999->150<=S.ks.length->E (.ref a.Full) none H')/\(∀H',o=none->0<=wd/\wd<=99999->S.ks.length < 150->cS a.House H h os ⟨S.ms.take j++[(m,some wd)]++S.ms.drop (j+1),S.ds,S.ks++[(S.ms,S.ds)]⟩ H'->Q .non H')
theorem A2 {S:Ob}{j:Nat}{m:Str}(h:(aA S)[j]?=some m): ∃o,S.ms[j]?=some (m,o):=by
 unfold aA at h
 rw[KH] at h
 cases e:S.ms[j]? with
 | none=>rw[e] at h; cases h
 | some x=>rw[e] at h; obtain⟨m',o⟩:=x; cases h; exact⟨o,rfl⟩
theorem yS {S:Ob}{j:Nat}{m:Str}{o:Option Int}(h:S.ms[j]?=some (m,o)):Om ((cN S).map fz) (j:Nat)=some (fz o):=bT (by unfold cN; rw[KH,KH,h]; rfl)
theorem ng (T:Txt K mg a):ON P w K mg base 4 a.House "set_top" ["self","member","width"] (uN a):=by
 refine hV T.jq nA fun f c A o s H vs Q E hr h=>?_
 obtain⟨h,os,S,m,wd,rfl,hI,hml,hkl,e1,k⟩:=h
 have hI0:=hI
 obtain⟨dx,p,q0,r,is,kv,rfl,I⟩:=hI
 refine⟨_,(ae (Oa 3 nA.nd (bj (iB T) hr.mm (ao (pv 1) (N6 (aW T.aq.cl (bG T).x hr.mm (pv 0)))))) (ae (aF (aG fN (Od K (aW T.aq.cl (cv T).x hr.mm (pv 0)) (pv 3)) bu) (ah (eg T.je rfl (N6 aB))) aw) (ae (aP (bj (mf T) hr.mm (ao (pv 2) (N6 (mI T.ox))))) (ah (aP (cV T.aq.cl (jT T) hr.mm (pv 0) (ao (pv 3) (N6 (pv 2))))))))),?_⟩
 refine⟨_,rfl,_,rfl,h,dx,_,rfl,I.ih,Of,h,_,S,rfl,hI0,by omega,fun pm H1 npm s1 hpm=>?_⟩
 refine⟨m,pm,aA S,rfl,hpm,fun j hj hjm=>?_,fun hm=>e1 H1 s1 hm⟩
 obtain⟨o,ho⟩:=A2 hj
 obtain⟨k1,k2,k3,k4⟩:=k j o hj hjm ho
 refine⟨_,rfl,h,dx,_,rfl,(I.same s1).ih,Of,h,_,S,rfl,⟨dx,p,q0,r,is,kv,rfl,I.same s1⟩,by omega,fun pg H2 npg s2 hpg=>?_⟩
 have s12:=s1.trans s2
 refine⟨_,rfl,pg,_,_,_,rfl,rfl,N5.of hpg,yS ho,rfl,_,rfl,?_⟩
 cases o with
 | some c=>exact aU ⟨by decide,k1 H2 s12 (by intro z; cases z)⟩
 | none =>
  refine aD ⟨_,rfl,fun a1 h1=>⟨wd,0,99999,a1,rfl,h1 _,fun hr1=>?_,fun hr1=>k2 H2 s12 rfl hr1⟩⟩
  exact⟨_,rfl,h,dx,_,rfl,(I.same s12).ih,Of,_,rfl,_,rfl,h,dx,p,q0,r,is,kv,S,H,j,some wd,(m,none),rfl,I,s12,ho,hml,hkl,fun z=>k3 H2 s12 rfl hr1 z,fun H' z hN=>k4 H' rfl hr1 z hN⟩
def wy (a:Adr):Sp:=fun vs H Q E=> ∃(h:Addr) (os:List Addr) (S:Ob) (m:Str),vs=[.ref h,.str m]/\HI a.House H h os S/\S.ms.length<=12/\S.ks.length<=150/\(∀H',ag H H'->m∉aA S->E (.ref a.Unknown) none H') /\
 ∀(j:Nat) (o:Option Int),(aA S)[j]?=some m->(∀i,i < j->(aA S)[i]?≠some m)->S.ms[j]?=some (m,o)->(∀H',ag H H'->o=none->E (.ref a.Unknown) none H') /\
  (∀H',ag H H'->o≠none->150<=S.ks.length->E (.ref a.Full) none H')/\(∀H',o≠none->S.ks.length < 150->cS a.House H h os ⟨S.ms.take j++[(m,none)]++S.ms.drop (j+1),S.ds,S.ks++[(S.ms,S.ds)]⟩ H'->Q .non H')
theorem qL (T:Txt K mg a):ON P w K mg base 4 a.House "strike_top" ["self","member"] (wy a):=by
 refine hV T.gQ jV fun f c A o s H vs Q E hr h=>?_
 obtain⟨h,os,S,m,rfl,hI,hml,hkl,e1,k⟩:=h
 have hI0:=hI
 obtain⟨dx,p,q0,r,is,kv,rfl,I⟩:=hI
 refine⟨_,(ae (Oa 2 jV.nd (bj (iB T) hr.mm (ao (pv 1) (N6 (aW T.aq.cl (bG T).x hr.mm (pv 0)))))) (ae (aF (aG eR (Od K (aW T.aq.cl (cv T).x hr.mm (pv 0)) (pv 2)) bu) (ah (eg T.jh rfl (N6 aB))) aw) (ah (aP (cV T.aq.cl (jT T) hr.mm (pv 0) (ao (pv 2) (N6 bu))))))),?_⟩
 refine⟨_,rfl,_,rfl,h,dx,_,rfl,I.ih,Of,h,_,S,rfl,hI0,by omega,fun pm H1 npm s1 hpm=>?_⟩
 refine⟨m,pm,aA S,rfl,hpm,fun j hj hjm=>?_,fun hm=>e1 H1 s1 hm⟩
 obtain⟨o,ho⟩:=A2 hj
 obtain⟨k1,k3,k4⟩:=k j o hj hjm ho
 refine⟨_,rfl,h,dx,_,rfl,(I.same s1).ih,Of,h,_,S,rfl,⟨dx,p,q0,r,is,kv,rfl,I.same s1⟩,by omega,fun pg H2 npg s2 hpg=>?_⟩
 have s12:=s1.trans s2
 refine⟨_,rfl,pg,_,_,_,rfl,rfl,N5.of hpg,yS ho,rfl,_,rfl,?_⟩
 cases o with
 | none=>exact aU ⟨by decide,k1 H2 s12 rfl⟩
 | some c =>
  have nn:(some c:Option Int)≠none:=by intro z; cases z
  exact aD ⟨_,rfl,h,dx,_,rfl,(I.same s12).ih,Of,_,rfl,h,dx,p,q0,r,is,kv,S,H,j,none,(m,some c),rfl,I,s12,ho,hml,hkl,fun z=>k3 H2 s12 nn z,fun H' z hN=>k4 H' nn z hN⟩
def EB (C:Addr):Sp:=fun vs H Q _=> ∃(h:Addr) (os:List Addr) (S:Ob),vs=[.ref h]/\HI C H h os S/\S.ms.length<=100/\ ∀(p:Addr) (xs:List V) (H':Hp),H p=none->ag H H'->H' p=some (.lst xs)->F2 (vh os H') xs (S.ms.filter (·.2.isSome))->Q (.ref p) H'
theorem wq (T:Txt K mg a):OO P w K mg base 1 a.House "tops" ["self"] (EB a.House):=by
 refine pW T.nK wo fun f c A o s H vs Q E hr h=>?_
 obtain⟨h,os,S,rfl,⟨dx,p,q0,r,is,kv,rfl,I⟩,hl,q⟩:=h
 obtain⟨pi,xs,hp,hX⟩:=I.ms
 have xl:=hX.length
 refine⟨_,(ah (av (gW jw ["row"] [] [] OG (dB K (bR K (pv 0))) (fun C s2 H2 fp=>⟨(gn 0 (Oy ["row"])),(jb (aG fN (N8 K (pv 0) aa) bu)),(pv 0)⟩)))),?_⟩
 refine⟨_,rfl,h,a.House,dx,_,.ref p,rfl,I.ih,T.aq.cl,T.aH,by (repeat (first | exact bq | refine (ba (by trivial)).trans ?_)),p,rfl,⟨_,N5.of hp⟩,?_⟩
 refine cg (xs:=xs) (fun i ys H'=>H'=H/\ys.length<=i/\F2 (vh is H) ys ((S.ms.take i).filter (·.2.isSome))) (fun i ys H' _ h=>by rw[h.1]; exact bo (N5.of hp)) ⟨rfl,Ku _,.nil⟩ (aJ (by omega)) (fun i ys H' h=>h.2.1) ?_ ?_
 .rintro i ys H2 x hi ⟨rfl,hyl,hY⟩
  obtain⟨m,hm,t,rfl,ti,ht⟩:=hX.get hi
  have tk:(S.ms.take (i+1)).filter (·.2.isSome)=(S.ms.take i).filter (·.2.isSome)++(if m.2.isSome then [m] else []):=by
   rw[La,hm,LB]
   congr 1
   show [m].filter _=_
   by_cases c:m.2.isSome=true <;> simp[c]
  refine⟨_,rfl,t,_,_,_,rfl,rfl,N9.of ht,rfl,rfl,_,rfl,?_⟩
  rw[tk]
  obtain⟨m1,m2⟩:=m
  cases m2 with
  | none=>exact aD ⟨rfl,by omega,by simpa using hY⟩
  | some c=>exact aU ⟨_,rfl,rfl,by rw[KC]; show ys.length+1<=i+1; omega,hY.append (.cons ⟨t,rfl,ti,ht⟩ .nil)⟩
 .rintro ys H2 p2 ⟨rfl,hyl,hY⟩ np
  rw[xl,K6] at hY
  exact q p2 ys _ np (ag.upd np) af (hY.imp fun v m z=>z.mono (fun b hb=>by simp[hb]) fun b o _ e=>ag.upd np _ _ e)
theorem vd {H:Hp}{b:Addr}{o o':HO}:upd (upd H b o) b o'=upd H b o':=by
 funext c
 by_cases e:c=b
 .rw[e,af,af]
 .rw[ai e,ai e,ai e]
def EE (a:Adr):Sp:=fun vs H Q E=> ∃(h:Addr) (os:List Addr) (S:Ob),vs=[.ref h]/\HI a.House H h os S/\S.ks.length<=150/\(S.ks=[]->E (.ref a.NothingBack) none H)/\(∀(H':Hp) (ks:List (List Mem×List Oi)) (k:List Mem×List Oi),S.ks=ks++[k]->cS a.House H h os ⟨k.1,k.2,ks⟩ H'->Q .non H')
theorem rG (T:Txt K mg a):ON P w K mg base 1 a.House "take_back" ["self"] (EE a):=by
 refine hV T.ik lB fun f c A o s H vs Q E hr h=>?_
 obtain⟨h,os,S,rfl,⟨dx,p,q0,r,is,kv,rfl,I⟩,hkl,e,q⟩:=h
 have kl:=I.ks.length
 refine⟨_,(ae (aF (aG aZ (cE K T.bI (bR K (pv 0))) aa) (ah (eg T.cT rfl (N6 aB))) aw) (ae (Oa 1 lB.nd (show PE _ _ (C4 K _ _ _) from Bw Lj MP MQ BW (bR K (pv 0)))) (ae (iG (pv 0) (N8 K (pv 1) aa) rfl) (ah (iG (pv 0) (N8 K (pv 1) aa) rfl))))),?_⟩
 refine⟨_,rfl,h,a.House,dx,_,.ref r,rfl,I.ih,T.aq.cl,T.cw,by (repeat (first | exact bq | refine (ba (by trivial)).trans ?_)),_,_,rfl,.inl ⟨_,N5.of I.ir,rfl⟩,rfl,_,rfl,?_⟩
 rcases Mp S.ks with hk | ⟨ks,k,hk⟩
 .rw[hk] at kl
  rw[show kv=[] from M4.mp kl]
  exact aU ⟨by decide,e hk⟩
 .have hk:S.ks=ks++[k]:=by rw[hk,Mq]
  obtain⟨kv',t,p',q',ek,ht,tr,th,hN⟩:=I.back hk
  have l0:kv.length≠0:=by rw[ek]; simp
  rw[show decide (V.int (kv.length:Nat)=V.int 0)=false from KU fun z=>l0 (by have:=V.int.inj z; omega)]
  refine aD ⟨_,rfl,h,a.House,dx,_,.ref r,rfl,I.ih,T.aq.cl,T.cw,by (repeat (first | exact bq | refine (ba (by trivial)).trans ?_)),.inl ⟨rfl,_,N5.of I.ir⟩,r,kv,.ref t,rfl,rfl,I.ir,by rw[ek]; simp,?_⟩
  rw[show kv.dropLast=kv' from by rw[ek]; simp]
  have ht2:(upd H r (.lst kv')) t=some (.tup [.ref p',.ref q']):=(ai tr).trans ht
  have hh2:(upd H r (.lst kv')) h=some (.ins a.House dx (nU p q0 r)):=(ai (K2 I.n2)).trans I.ih
  dsimp only[aO,L2.start,List.set]
  refine⟨_,rfl,t,_,_,_,rfl,rfl,N9.of ht2,rfl,_,rfl,h,a.House,dx,_,rfl,hh2,T.aq.cl,T.aH,(by show 3 < 1000; decide),?_⟩
  rw[kB]
  refine⟨_,rfl,t,_,_,_,rfl,rfl,N9.of ((ai th).trans ht2),rfl,_,rfl,h,a.House,dx,_,rfl,af,T.aq.cl,T.aN,(by show 3 < 1000; decide),?_⟩
  rw[mG (by trivial),kB,vd]
  exact q _ ks k hk hN
theorem jH {A B:Prop}{x y:Str}(h:x≠y) (b:B):if decide (V.str x=V.str y)=true then A else B:=by
 rw[KU fun z=>h (V.str.inj z)]
 exact b
theorem N4 {A B:Prop}{x y:Str}(b:B)(h:x≠y:=by trivial):if decide (V.str x=V.str y)=true then A else B:=jH h b
theorem cG {A B:Prop}{x:Str}(b:A):if decide (V.str x=V.str x)=true then A else B:=by
 rw[KQ rfl]
 exact b
def Ab (a:Adr):L2.Due->Addr
 | .ok=>a.Unknown
 | .unknown=>a.Unknown
 | .inUse=>a.InUse
 | .tooMuch=>a.TooMuch
 | .full=>a.Full
 | .nothing=>a.NothingBack
def Ar:Sp:=fun vs H Q _=> ∃p e o:Int,vs=[.int p,.int e,.int o]/\Ou p e o/\Q (.int (cA p e o)) H
theorem qc (T:Txt K mg a):Oj P w K mg base 1 "_law_rounded" ["_law_people","_law_each","_law_over"] Ar:=by
 refine b9 T.lP u7 fun f c A o s H vs Q E hr h=>?_
 obtain⟨p,e,o,rfl,hin,q⟩:=h
 refine⟨_,(ah (av (ax bN (ax pj (ax bH (ax xF (pv 0) (pv 1)) (pv 2)) aa) (pv 2)))),?_⟩
 have hin':=id hin
 unfold Ou at hin'
 exact⟨_,rfl,_,rfl,_,_,rfl,rfl,.inl ⟨by omega,by omega⟩,_,rfl,_,_,rfl,rfl,_,_,rfl,rfl,_,rfl,_,_,rfl,rfl,⟨by omega,by omega⟩,q⟩
def FN (K:N7) (a:Adr):Sp:=fun vs H Q E=> ∃(h:Addr) (os:List Addr) (S:Ob) (d:bZ) (td:Addr),vs=[.ref h,.ref td]/\HI a.House H h os S/\Gd S/\S.ks.length < 150/\N9 K H td (iM d)/\OX d /\
 (aK S d= .ok-> ∀H',cS a.House H h os (ez S d) H'->Q .non H')/\(aK S d≠ .ok-> ∀H',ag H H'->E (.ref (Ab a (aK S d))) none H')
theorem Fh (T:Txt K mg a):O5 P w K mg base 5 "_law_hand" ["_law_house","_law_deed_here"] (FN K a):=by
 refine tR T.pQ yH fun f c A o s H vs Q E hr h=>?_
 obtain⟨h,os,S,d,td,rfl,hI,g,hk,hq,ok,qk,qe⟩:=h
 have hI0:=hI
 obtain⟨dx,p,q0,r,is,kv,rfl,I⟩:=hI
 have er: ∀x,aK S d=x->x≠ .ok-> ∀H',ag H H'->E (.ref (Ab a x)) none H':=fun x hx hne H' s=>by
  have:=qe (hx▸hne) H' s
  rw[hx] at this
  exact this
 have ml:=g.now.ml
 have dl:=g.now.dl
 refine⟨_,(ae (aF (aG aZ (N8 K (pv 1) aa) aB) (ah (av (cV T.aq.cl (jU T) hr.mm (pv 0) (N6 (N8 K (pv 1) aa))))) aw) (ae (aF (aG aZ (N8 K (pv 1) aa) aB) (ah (av (cV T.aq.cl (lx T) hr.mm (pv 0) (ao (N8 K (pv 1) aa) (ao (N8 K (pv 1) aa) (ao (N8 K (pv 1) aa) (ao (N8 K (pv 1) aa) (N6 (N8 K (pv 1) aa))))))))) aw) (ae (aF (aG aZ (N8 K (pv 1) aa) aB) (ah (av (cV T.aq.cl (me T) hr.mm (pv 0) (ao (N8 K (pv 1) aa) (ao (N8 K (pv 1) aa) (ao (N8 K (pv 1) aa) (N6 (N8 K (pv 1) aa)))))))) aw) (ae (aF (aG aZ (N8 K (pv 1) aa) aB) (ah (av (cV T.aq.cl (ng T) hr.mm (pv 0) (ao (N8 K (pv 1) aa) (N6 (N8 K (pv 1) aa)))))) aw) (ae (aF (aG aZ (N8 K (pv 1) aa) aB) (ah (av (aW T.aq.cl (rG T) hr.mm (pv 0)))) aw) (ae (aF (aG aZ (N8 K (pv 1) aa) aB) (ah (av (cV T.aq.cl (oy T) hr.mm (pv 0) (N6 (N8 K (pv 1) aa))))) aw) (ae (aF (aG aZ (N8 K (pv 1) aa) aB) (ah (av (cV T.aq.cl (oA T) hr.mm (pv 0) (N6 (N8 K (pv 1) aa))))) aw) (ah (av (cV T.aq.cl (qL T) hr.mm (pv 0) (N6 (N8 K (pv 1) aa)))))))))))),?_⟩
 cases d with
 | member y =>
  refine⟨_,rfl,td,_,_,_,rfl,rfl,hq,rfl,rfl,_,rfl,cG ⟨_,rfl,h,dx,_,rfl,I.ih,Of,_,rfl,td,_,_,_,rfl,rfl,hq,rfl,?_⟩⟩
  have ok:Nm y:=ok
  refine⟨h,_,S,y,rfl,hI0,KR ok.2.1 (by decide),ml,by omega,fun H' s hm=>?_,fun H' s hm hb=>?_,fun H' s hm hg hf=>?_,fun H' hm hg h1 h2 hN=>?_⟩
  .exact er .inUse (by rw[aK,Ks hm]) (by decide) H' s
  .rw[Nm.good ok] at hb; cases hb
  .exact er .full (by rw[aK,Kp hm,Ks (hf.resolve_right (by omega))]) (by decide) H' s
  .exact qk (by rw[aK,Kp hm,Kp (by omega)]) H' hN
 | plain y m pp e o =>
  refine aI rfl hq rfl (by trivial) ?_
  refine⟨_,rfl,td,_,_,_,rfl,rfl,hq,rfl,rfl,_,rfl,cG ⟨_,rfl,h,dx,_,rfl,I.ih,Of,_,rfl,td,_,_,_,rfl,rfl,hq,rfl,_,rfl,td,_,_,_,rfl,rfl,hq,rfl,_,rfl,td,_,_,_,rfl,rfl,hq,rfl,_,rfl,td,_,_,_,rfl,rfl,hq,rfl,_,rfl,td,_,_,_,rfl,rfl,hq,rfl,?_⟩⟩
  obtain⟨o1,o2,o3⟩:Nm y/\Nm m/\Ou pp e o:=ok
  refine⟨h,_,S,y,m,pp,e,o,rfl,hI0,KR o1.2.1 (by decide),ml,dl,by omega,fun H' s hm=>?_,fun H' s hm hn=>?_,fun H' s hm hn hb=>?_,fun H' s hm hn hg hr1=>absurd o3 hr1,fun H' s hm hn hg hr1 hr2=>?_,fun H' s hm hn hg hr1 hr2 hf=>?_,fun H' hm hn hg hr1 hr2 h1 h2 hN=>?_⟩
  .exact er .unknown (by rw[aK,Ks hm]) (by decide) H' s
  .exact er .inUse (by rw[aK,Kp (fun z=>z hm),Ks hn]) (by decide) H' s
  .rw[Nm.good o1] at hb; cases hb
  .exact er .tooMuch (by rw[aK,Kp (fun z=>z hm),Kp hn,Ks hr2]) (by decide) H' s
  .exact er .full (by rw[aK,Kp (fun z=>z hm),Kp hn,Kp (by omega),Ks (hf.resolve_right (by omega))]) (by decide) H' s
  .exact qk (by rw[aK,Kp (fun z=>z hm),Kp hn,Kp (by omega),Kp (by omega)]) H' hN
 | link y m b mo =>
  refine aI rfl hq rfl (by trivial) ?_
  refine aI rfl hq rfl (by trivial) ?_
  refine⟨_,rfl,td,_,_,_,rfl,rfl,hq,rfl,rfl,_,rfl,cG ⟨_,rfl,h,dx,_,rfl,I.ih,Of,_,rfl,td,_,_,_,rfl,rfl,hq,rfl,_,rfl,td,_,_,_,rfl,rfl,hq,rfl,_,rfl,td,_,_,_,rfl,rfl,hq,rfl,_,rfl,td,_,_,_,rfl,rfl,hq,rfl,?_⟩⟩
  obtain⟨o1,o2,o3,o4⟩:Nm y/\Nm m/\Nm b/\0<=mo/\mo<=99:=ok
  refine⟨h,_,S,y,m,b,mo,rfl,hI0,KR o1.2.1 (by decide),ml,dl,by omega,fun H' s hm=>?_,fun H' s hm hb hn=>?_,fun H' s hm hb hn hg=>?_,fun H' s hm hb hn hg hr1=>absurd o4 hr1,fun H' s hm hb hn hg hr1 hf=>?_,fun H' hm hb hn hg hr1 h1 h2 hN=>?_⟩
  .exact er .unknown (by rw[aK,Ks hm]) (by decide) H' s
  .exact er .inUse (by rw[aK,Kp (fun z=>z.elim (fun z=>z hm) fun z=>z hb),Ks hn]) (by decide) H' s
  .rw[Nm.good o1] at hg; cases hg
  .exact er .full (by rw[aK,Kp (fun z=>z.elim (fun z=>z hm) fun z=>z hb),Kp hn,Ks (hf.resolve_right (by omega))]) (by decide) H' s
  .exact qk (by rw[aK,Kp (fun z=>z.elim (fun z=>z hm) fun z=>z hb),Kp hn,Kp (by omega)]) H' hN
 | top m wd =>
  refine aI rfl hq rfl (by trivial) ?_
  refine aI rfl hq rfl (by trivial) ?_
  refine aI rfl hq rfl (by trivial) ?_
  refine⟨_,rfl,td,_,_,_,rfl,rfl,hq,rfl,rfl,_,rfl,cG ⟨_,rfl,h,dx,_,rfl,I.ih,Of,_,rfl,td,_,_,_,rfl,rfl,hq,rfl,_,rfl,td,_,_,_,rfl,rfl,hq,rfl,?_⟩⟩
  obtain⟨o1,o2⟩:Nm m/\0<=wd/\wd<=99999:=ok
  refine⟨h,_,S,m,wd,rfl,hI0,ml,by omega,fun H' s hm=>er .unknown (by rw[aK,Ks hm]) (by decide) H' s,fun j o hj hjm ho=>?_⟩
  have hm:m∈aA S:=Kw hj
  have hc:=oS ho hjm
  refine⟨fun H' s z=>?_,fun H' s z hr1=>absurd o2 hr1,fun H' s z hr1 hf=>absurd hf (by omega),fun H' z hr1 h2 hN=>?_⟩
  .exact er .inUse (by rw[aK,Kp (fun z=>z hm),Ks (by rw[hc]; exact z)]) (by decide) H' s
  .rw[uq g.now.mn hj] at hN
   exact qk (by rw[aK,Kp (fun z=>z hm),Kp (by rw[hc,z]; exact fun q=>q rfl)]) H' hN
 | back =>
  refine aI rfl hq rfl (by trivial) ?_
  refine aI rfl hq rfl (by trivial) ?_
  refine aI rfl hq rfl (by trivial) ?_
  refine aI rfl hq rfl (by trivial) ?_
  refine⟨_,rfl,td,_,_,_,rfl,rfl,hq,rfl,rfl,_,rfl,cG ⟨_,rfl,h,dx,_,rfl,I.ih,Of,h,_,S,rfl,hI0,by omega,fun z=>er .nothing (by rw[aK,Ks z]) (by decide) H (ag.refl H),fun H' ks k e hN=>?_⟩⟩
  refine qk (by rw[aK,Kp (by rw[e]; exact AU)]) H' ?_
  have es:ez S .back=⟨k.1,k.2,ks⟩:=by
   show (match S.ks.getLast? with | some k=>(⟨k.1,k.2,S.ks.dropLast⟩:Ob) | none=>S)=_
   rw[show S.ks.getLast?=some k from by rw[e]; simp,show S.ks.dropLast=ks from by rw[e]; simp]
  rw[es]
  exact hN
 | sM m =>
  refine aI rfl hq rfl (by trivial) ?_
  refine aI rfl hq rfl (by trivial) ?_
  refine aI rfl hq rfl (by trivial) ?_
  refine aI rfl hq rfl (by trivial) ?_
  refine aI rfl hq rfl (by trivial) ?_
  refine⟨_,rfl,td,_,_,_,rfl,rfl,hq,rfl,rfl,_,rfl,cG ⟨_,rfl,h,dx,_,rfl,I.ih,Of,_,rfl,td,_,_,_,rfl,rfl,hq,rfl,?_⟩⟩
  refine⟨h,_,S,m,rfl,hI0,ml,dl,by omega,fun H' s hm=>er .unknown (by rw[aK,Ks hm]) (by decide) H' s,fun H' s hm hb=>?_,fun H' s hm hb hf=>absurd hf (by omega),fun H' j hj hjm hb h2 hN=>?_⟩
  .exact er .inUse (by rw[aK,Kp (fun z=>z hm),Ks (show rz m S.ds=true from hb)]) (by decide) H' s
  .rw[uw g.now.mn hj] at hN
   refine qk ?_ H' hN
   have hb':rz m S.ds=false:=hb
   rw[aK,Kp (fun z=>z (Kw hj)),Kp (by rw[hb']; decide)]
 | sD y =>
  refine aI rfl hq rfl (by trivial) ?_
  refine aI rfl hq rfl (by trivial) ?_
  refine aI rfl hq rfl (by trivial) ?_
  refine aI rfl hq rfl (by trivial) ?_
  refine aI rfl hq rfl (by trivial) ?_
  refine aI rfl hq rfl (by trivial) ?_
  refine⟨_,rfl,td,_,_,_,rfl,rfl,hq,rfl,rfl,_,rfl,cG ⟨_,rfl,h,dx,_,rfl,I.ih,Of,_,rfl,td,_,_,_,rfl,rfl,hq,rfl,?_⟩⟩
  refine⟨h,_,S,y,rfl,hI0,dl,by omega,fun H' s hm=>er .unknown (by rw[aK,Ks hm]) (by decide) H' s,fun H' s hm hf=>absurd hf (by omega),fun H' j hj hjm h2 hN=>?_⟩
  rw[uw g.now.dn hj] at hN
  exact qk (by rw[aK,Kp (fun z=>z (Kw hj))]) H' hN
 | sT m =>
  refine aI rfl hq rfl (by trivial) ?_
  refine aI rfl hq rfl (by trivial) ?_
  refine aI rfl hq rfl (by trivial) ?_
  refine aI rfl hq rfl (by trivial) ?_
  refine aI rfl hq rfl (by trivial) ?_
  refine aI rfl hq rfl (by trivial) ?_
  refine aI rfl hq rfl (by trivial) ?_
  refine⟨_,rfl,h,dx,_,rfl,I.ih,Of,_,rfl,td,_,_,_,rfl,rfl,hq,rfl,?_⟩
  refine⟨h,_,S,m,rfl,hI0,ml,by omega,fun H' s hm=>er .unknown (by rw[aK,Ks (tM hm)]) (by decide) H' s,fun j o hj hjm ho=>?_⟩
  have hc:=oS ho hjm
  refine⟨fun H' s z=>er .unknown (by rw[aK,Ks (hc.trans z)]) (by decide) H' s,fun H' s z hf=>absurd hf (by omega),fun H' z h2 hN=>?_⟩
  rw[uq g.now.mn hj] at hN
  exact qk (by rw[aK,Kp (by rw[hc]; exact z)]) H' hN
def Ew (K:N7) (a:Adr):Sp:=fun vs H Q _=> ∃(h:Addr) (os:List Addr) (S:Ob) (d:bZ) (td:Addr),vs=[.ref h,.ref td]/\HI a.House H h os S/\Gd S/\S.ks.length < 150/\N9 K H td (iM d)/\OX d/\ ∀H',cS a.House H h os (dc S d) H'->Q (.str (wordOf (aK S d))) H'
theorem ER (T:Txt K mg a):Oj P w K mg base 6 "_law_done" ["_law_house","_law_deed_here"] (Ew K a):=by
 refine b9 T.qA dQ fun f c A o s H vs Q E hr h=>?_
 obtain⟨h,os,S,d,td,rfl,hI,g,hk,hq,ok,q⟩:=h
 refine⟨_,(ae (Oa 2 dQ.nd aB) (ae (Oa 3 dQ.nd bu) (eF (Cp ⟨rfl,rfl⟩ (fun N3 E'=>(ah (Oa 3 dQ.nd (bj (Fh T) hr.mm (ao (pv 0) (N6 (pv 1))))))) (mL T.jh (fun N3 x o=>(ah (Oa 2 dQ.nd aB))) (mL T.je (fun N3 x o=>(ah (Oa 2 dQ.nd aB))) (mL T.gH (fun N3 x o=>(ah (Oa 2 dQ.nd aB))) (mL T.lz (fun N3 x o=>(ah (Oa 2 dQ.nd aB))) (mL T.cT (fun N3 x o=>(ah (Oa 2 dQ.nd aB))) AV)))))) (ae (aF (aG fN (pv 3) bu) (ah (av aB)) aw) (ah (av (pv 2))))))),?_⟩
 refine⟨fun σ' H'=>σ'=[some (.ref h),some (.ref td),some (.str (wordOf (aK S d))),some .non]/\cS a.House H h os (dc S d) H',?_,?_⟩
 .refine⟨fun σ' cls _ H'=>σ'=[some (.ref h),some (.ref td),some (.str ""),some .non]/\ag H H'/\aK S d≠ .ok/\cls= .ref (Ab a (aK S d)),fun N3=>?_,?_⟩
  .refine⟨_,rfl,_,rfl,h,os,S,d,td,rfl,hI,g,hk,hq,ok,fun due H' hN=>?_,fun due H' s=>⟨rfl,s,due,rfl⟩⟩
   rw[due]
   refine⟨rfl,?_⟩
   unfold dc
   rw[Ks due]
   exact hN
  .rintro σ' cls H' ⟨rfl,s,due,rfl⟩
   have hN:cS a.House H h os (dc S d) H':=by
    unfold dc
    rw[Kp due]
    exact cS.of hI s
   generalize aK S d=x at due
   cases x with
   | ok=>exact absurd rfl due
   | unknown=>exact⟨a.Unknown,true,rfl,T.jh.2,T.ij,aU fun N3 x o=>⟨rfl,hN⟩⟩
   | inUse=>exact⟨a.InUse,false,rfl,T.je.2,T.jl,aD ⟨a.InUse,true,rfl,T.je.2,T.lZ,aU fun N3 x o=>⟨rfl,hN⟩⟩⟩
   | tooMuch=>exact⟨a.TooMuch,false,rfl,T.gH.2,T.iw,aD ⟨a.TooMuch,false,rfl,T.gH.2,T.jN,aD ⟨a.TooMuch,true,rfl,T.gH.2,T.iq,aU fun N3 x o=>⟨rfl,hN⟩⟩⟩⟩
   | full=>exact⟨a.Full,false,rfl,T.lz.2,T.km,aD ⟨a.Full,false,rfl,T.lz.2,T.nL,aD ⟨a.Full,false,rfl,T.lz.2,T.kP,aD ⟨a.Full,true,rfl,T.lz.2,T.om,aU fun N3 x o=>⟨rfl,hN⟩⟩⟩⟩⟩
   | nothing=>exact⟨a.NothingBack,false,rfl,T.cT.2,T.fF,aD ⟨a.NothingBack,false,rfl,T.cT.2,T.gq,aD ⟨a.NothingBack,false,rfl,T.cT.2,T.fH,aD ⟨a.NothingBack,false,rfl,T.cT.2,T.gD,aD ⟨a.NothingBack,true,rfl,T.cT.2,T.eD,aU fun N3 x o=>⟨rfl,hN⟩⟩⟩⟩⟩⟩
 rintro σ1 H1 ⟨rfl,hN⟩
 exact⟨_,rfl,rfl,_,rfl,aD ⟨_,rfl,q H1 hN⟩⟩
theorem at2 {x y:V}{b:Bool}:Om [x,y] (if b=true then 1 else 0)=some (if b=true then y else x):=by cases b <;> rfl
theorem E1 (y:Str) (ds:List Oi):Ox (.str y) (ds.map (fun d=>V.str d.2.1)++ds.map fun d=>ig d.2.2.1)=rz y ds:=by
 unfold Ox rz
 rw[List.any_append,List.any_map,List.any_map]
 have e1: ∀d:Oi,(match V.str d.2.1,V.str y with | .str a,.str b=>a == b | _,_=>false)=decide (d.2.1=y):=fun d=>by
  show (d.2.1 == y)=_
  by_cases c:d.2.1=y <;> simp[c]
 induction ds with
 | nil=>rfl
 | cons d r ih =>
  obtain⟨d1,d2,d3,d4⟩:=d
  have b1:(d2 == y)=decide (d2=y):=by by_cases c:d2=y <;> simp[c]
  have b2: ∀z:Str,(z == y)=decide (z=y):=fun z=>by by_cases c:z=y <;> simp[c]
  rw[L8,L8,L8,<-ih]
  cases d3 with
  | none =>
   show ((d2 == y) || _ || (false || _))=(decide (d2=y) || decide ((none:Option Str)=some y) || (_ || _))
   rw[b1]
   simp[Bool.or_assoc]
  | some z =>
   show ((d2 == y) || _ || ((z == y) || _))=(decide (d2=y) || decide (some z=some y) || (_ || _))
   rw[b1,b2]
   by_cases c1:d2=y <;> by_cases c2:z=y <;> simp[c1,c2]
theorem Ea (ds:List Oi):(ds.map (fun d=>V.str d.2.1)++ds.map fun d=>ig d.2.2.1).all bS=true:=by
 rw[List.all_append,NX,NX]
 have h1:ds.all (bS∘fun d=>V.str d.2.1)=true:=LD.mpr fun d _=>rfl
 have h2:ds.all (bS∘fun d=>ig d.2.2.1)=true:=LD.mpr fun d _=>by
  obtain⟨d1,d2,d3,d4⟩:=d
  cases d3 <;> rfl
 rw[h1,h2]
 rfl
theorem pM (ds:List Oi):(ds.map fun d=>V.str d.1).all bS=true:=by
 rw[NX]
 exact LD.mpr fun d _=>rfl
theorem vk (y:Str) (ds:List Oi):Ox (.str y) (ds.map fun d=>V.str d.1)=decide (y∈ds.map (·.1)):=by
 have e:(ds.map fun d=>V.str d.1)=(ds.map (·.1)).map V.str:=by rw[LF]; rfl
 rw[e,cW]
def wx (K:N7):Sp:=fun vs H Q _=> ∃(xs:List Addr) (n:Nat) (ts:Addr) (S:Ob) (sort m:Str) (d:bZ),vs=[.ref ts,.str sort,.str m]/\LS xs n H ts S.ms S.ds/\S.ds.length<=24/\((sort= "member" /\ d= .sM m)\/(sort= "demand" /\ d= .sD m)\/(sort= "top" /\ d= .sT m))/\ ∀H',ag H H'->Q (.str (wordOf (aK S d))) H'
theorem we (T:Txt K mg a):Oj P w K mg base 1 "_law_due_strike" ["_law_state","_law_sort","_law_name"] (wx K):=by
 refine b9 T.i8 bU fun f c A o s H vs Q E hr h=>?_
 obtain⟨xs,n,ts,S,sort,m,d,rfl,⟨ln,la,dd,vs,kvs,l⟩,hdl,hs,q⟩:=h
 refine⟨_,(ae (gF (pv 0) (fG rfl (aR (gn 3 bU.nd) (aR (gn 4 bU.nd) (aR (gn 5 bU.nd) eG))))) (ae (Oa 6 bU.nd (A5 (pk (cf hr) (pv 2) (pv 5)) (by with_unfolding_all rfl))) (eF (aF (aG aZ (pv 1) aB) (ah (Oa 6 bU.nd (Ae (Pf K) (pv 2) (pv 3)))) aw) (eF (aF (aG aZ (pv 1) aB) (ah (Oa 6 bU.nd (Ae (Pf K) (pv 2) (gW dJ ["_law_row_here"] [] [] OG (dB K (pv 4)) (fun C s2 H2 fp=>⟨(gn 0 (Oy ["_law_row_here"])),d6,(N8 K (pv 0) aa)⟩))))) aw) (ae (aF (bK (bQ K (pv 6))) (ah (av aB)) aw) (ae (Oa 7 bU.nd (ax gh (gW dJ ["_law_row_here"] [] [] OG (dB K (pv 4)) (fun C s2 H2 fp=>⟨(gn 0 (Oy ["_law_row_here"])),d6,(N8 K (pv 0) aa)⟩)) (gW dJ ["_law_row_here"] [] [] OG (dB K (pv 4)) (fun C s2 H2 fp=>⟨(gn 0 (Oy ["_law_row_here"])),d6,(N8 K (pv 0) aa)⟩)))) (ae (aF (PW.pt (eP (aG aZ (pv 1) aB) (eI (nS (Pf K) (pv 2) (pv 7))))) (ah (av aB)) aw) (ah (av aB))))))))),?_⟩
 refine⟨_,rfl,ts,_,rfl,N9.of l.ht,rfl,_,_,rfl,_,_,rfl,_,_,rfl,rfl,?_⟩
 refine⟨_,rfl,_,rfl,dd,_,rfl,cJ.k (k:=Sum.inr m) l.hd,?_⟩
 dsimp only[aO,L2.start,List.set]
 have e1:bt S=S.ds.map (·.1):=rfl
 have e2:aA S=S.ms.map (·.1):=rfl
 rcases hs with⟨rfl,rfl⟩ | ⟨rfl,rfl⟩ | ⟨rfl,rfl⟩
 .refine⟨fun σ' H'=>σ'=[some (.ref ts),some (.str "member"),some (.str m),some (.ref ln),some (.ref la),some (.ref dd),some (.bl (decide (m∈aA S))),none]/\H'=H,⟨_,rfl,rfl,_,rfl,cG ⟨_,rfl,_,rfl,ln,_,rfl,.inl (N5.of l.hn),rfl,bX _,?_,rfl⟩⟩,?_⟩
  .show [some (V.ref ts),some (.str "member"),some (.str m),some (.ref ln),some (.ref la),some (.ref dd),some (.bl (Ox (.str m) _)),none]=_
   rw[cW]
   rfl
  rintro σ1 H1 ⟨rfl,rfl⟩
  refine⟨fun σ' H'=>σ'=[some (.ref ts),some (.str "member"),some (.str m),some (.ref ln),some (.ref la),some (.ref dd),some (.bl (decide (m∈aA S))),none]/\H'=H1,⟨_,rfl,rfl,_,rfl,N4 ⟨rfl,rfl⟩⟩,?_⟩
  rintro σ1 H2 ⟨rfl,rfl⟩
  by_cases hm:m∈aA S
  .rw[KQ hm]
   refine⟨_,rfl,_,rfl,aD ?_⟩
   refine⟨_,rfl,la,rfl,⟨_,N5.of l.ha⟩,fX (fun d=>V.str d.2.1) (fun d=>rfl) (bo (N5.of l.ha)) l.ar (by omega) fun p1 np1=>?_⟩
   have s1:=ag.upd (o:= .lst (S.ds.map fun d=>V.str d.2.1)) np1
   have h1:(upd H2 p1 (.lst (S.ds.map fun d=>V.str d.2.1))) p1=some (.lst (S.ds.map fun d=>V.str d.2.1)):=af
   generalize upd H2 p1 (.lst (S.ds.map fun d=>V.str d.2.1))=H3 at s1 h1
   have ar3:F2 (lM xs H3) vs S.ds:=l.ar.imp fun v d ⟨t,e,a,b⟩=>⟨t,e,a,s1 _ _ b⟩
   refine⟨_,rfl,la,rfl,⟨_,N5.of (s1 _ _ l.ha)⟩,fX (fun d=>ig d.2.2.1) (fun d=>rfl) (bo (N5.of (s1 _ _ l.ha))) ar3 (by omega) fun p2 np2=>?_⟩
   have s2:=ag.upd (o:= .lst (S.ds.map fun d=>ig d.2.2.1)) np2
   refine⟨p1,p2,_,_,rfl,rfl,s2 _ _ h1,af,by rw[Kq,Kq]; exact K7 (aJ (by omega)),fun p3 np3=>?_⟩
   have s3:=ag.upd (o:= .lst (S.ds.map (fun d=>V.str d.2.1)++S.ds.map fun d=>ig d.2.2.1)) np3
   have s13:=(s1.trans s2).trans s3
   refine⟨_,rfl,rfl,_,rfl,cG ⟨_,rfl,_,rfl,p3,_,rfl,.inl (N5.of af),rfl,Ea _,_,rfl,?_⟩⟩
   show if Ox (.str m) _=true then _ else _
   rw[E1]
   refine bD (fun c=>?_) (fun c=>?_)
   .have:=q _ s13
    rw[aK,Kp (fun z=>z hm),Ks c] at this
    exact this
   .have:=q _ s13
    rw[aK,Kp (fun z=>z hm),Kp c] at this
    exact this
  .rw[KU hm]
   refine⟨_,rfl,_,rfl,aU ?_⟩
   have:=q _ (ag.refl H2)
   rw[aK,Ks hm] at this
   exact this
 .refine⟨fun σ' H'=>σ'=[some (.ref ts),some (.str "demand"),some (.str m),some (.ref ln),some (.ref la),some (.ref dd),some (.bl (aM kvs (Sum.inr m)).isSome),none]/\H'=H,⟨_,rfl,rfl,_,rfl,N4 ⟨rfl,rfl⟩⟩,?_⟩
  rintro σ1 H1 ⟨rfl,rfl⟩
  refine⟨fun σ' H'=>σ'=[some (.ref ts),some (.str "demand"),some (.str m),some (.ref ln),some (.ref la),some (.ref dd),some (.bl (decide (m∈bt S))),none]/\ag H1 H',⟨_,rfl,rfl,_,rfl,cG ⟨_,rfl,_,rfl,la,rfl,⟨_,N5.of l.ha⟩,fX (fun d=>V.str d.1) (fun d=>rfl) (bo (N5.of l.ha)) l.ar (by omega) fun p1 np1=>⟨p1,_,rfl,.inl (N5.of af),rfl,pM _,?_,ag.upd np1⟩⟩⟩,?_⟩
  .show [some (V.ref ts),some (.str "demand"),some (.str m),some (.ref ln),some (.ref la),some (.ref dd),some (.bl (Ox (.str m) _)),none]=_
   rw[vk]
   rfl
  rintro σ1 H2 ⟨rfl,s2⟩
  by_cases hm:m∈bt S
  .rw[KQ hm]
   refine⟨_,rfl,_,rfl,aD ?_⟩
   have ar2:F2 (lM xs H2) vs S.ds:=l.ar.imp fun v d ⟨t,e,a,b⟩=>⟨t,e,a,s2 _ _ b⟩
   refine⟨_,rfl,la,rfl,⟨_,N5.of (s2 _ _ l.ha)⟩,fX (fun d=>V.str d.2.1) (fun d=>rfl) (bo (N5.of (s2 _ _ l.ha))) ar2 (by omega) fun p1 np1=>?_⟩
   have s1:=ag.upd (o:= .lst (S.ds.map fun d=>V.str d.2.1)) np1
   have h1:(upd H2 p1 (.lst (S.ds.map fun d=>V.str d.2.1))) p1=some (.lst (S.ds.map fun d=>V.str d.2.1)):=af
   generalize upd H2 p1 (.lst (S.ds.map fun d=>V.str d.2.1))=H3 at s1 h1
   have s12:=s2.trans s1
   have ar3:F2 (lM xs H3) vs S.ds:=l.ar.imp fun v d ⟨t,e,a,b⟩=>⟨t,e,a,s12 _ _ b⟩
   refine⟨_,rfl,la,rfl,⟨_,N5.of (s12 _ _ l.ha)⟩,fX (fun d=>ig d.2.2.1) (fun d=>rfl) (bo (N5.of (s12 _ _ l.ha))) ar3 (by omega) fun p2 np2=>?_⟩
   have s3:=ag.upd (o:= .lst (S.ds.map fun d=>ig d.2.2.1)) np2
   refine⟨p1,p2,_,_,rfl,rfl,s3 _ _ h1,af,by rw[Kq,Kq]; exact K7 (aJ (by omega)),fun p3 np3=>?_⟩
   have s4:=ag.upd (o:= .lst (S.ds.map (fun d=>V.str d.2.1)++S.ds.map fun d=>ig d.2.2.1)) np3
   refine⟨_,rfl,rfl,_,rfl,N4 (aD ?_)⟩
   have:=q _ ((s12.trans s3).trans s4)
   rw[aK,Kp (fun z=>z hm)] at this
   exact this
  .rw[KU hm]
   refine⟨_,rfl,_,rfl,aU ?_⟩
   have:=q _ s2
   rw[aK,Ks hm] at this
   exact this
 .refine⟨fun σ' H'=>σ'=[some (.ref ts),some (.str "top"),some (.str m),some (.ref ln),some (.ref la),some (.ref dd),some (.bl (aM kvs (Sum.inr m)).isSome),none]/\H'=H,⟨_,rfl,rfl,_,rfl,N4 ⟨rfl,rfl⟩⟩,?_⟩
  rintro σ1 H1 ⟨rfl,rfl⟩
  refine⟨fun σ' H'=>σ'=[some (.ref ts),some (.str "top"),some (.str m),some (.ref ln),some (.ref la),some (.ref dd),some (.bl (aM kvs (Sum.inr m)).isSome),none]/\H'=H1,⟨_,rfl,rfl,_,rfl,N4 ⟨rfl,rfl⟩⟩,?_⟩
  rintro σ1 H2 ⟨rfl,rfl⟩
  have hc:=l.cp m
  cases ec:bw S.ms m with
  | some c =>
   rw[ec] at hc
   rw[show aM kvs (Sum.inr m)=some (V.int c) from hc]
   refine⟨_,rfl,_,rfl,aD ?_⟩
   refine⟨_,rfl,la,rfl,⟨_,N5.of l.ha⟩,fX (fun d=>V.str d.2.1) (fun d=>rfl) (bo (N5.of l.ha)) l.ar (by omega) fun p1 np1=>?_⟩
   have s1:=ag.upd (o:= .lst (S.ds.map fun d=>V.str d.2.1)) np1
   have h1:(upd H2 p1 (.lst (S.ds.map fun d=>V.str d.2.1))) p1=some (.lst (S.ds.map fun d=>V.str d.2.1)):=af
   generalize upd H2 p1 (.lst (S.ds.map fun d=>V.str d.2.1))=H3 at s1 h1
   have ar3:F2 (lM xs H3) vs S.ds:=l.ar.imp fun v d ⟨t,e,a,b⟩=>⟨t,e,a,s1 _ _ b⟩
   refine⟨_,rfl,la,rfl,⟨_,N5.of (s1 _ _ l.ha)⟩,fX (fun d=>ig d.2.2.1) (fun d=>rfl) (bo (N5.of (s1 _ _ l.ha))) ar3 (by omega) fun p2 np2=>?_⟩
   have s3:=ag.upd (o:= .lst (S.ds.map fun d=>ig d.2.2.1)) np2
   refine⟨p1,p2,_,_,rfl,rfl,s3 _ _ h1,af,by rw[Kq,Kq]; exact K7 (aJ (by omega)),fun p3 np3=>?_⟩
   have s4:=ag.upd (o:= .lst (S.ds.map (fun d=>V.str d.2.1)++S.ds.map fun d=>ig d.2.2.1)) np3
   refine⟨_,rfl,rfl,_,rfl,N4 (aD ?_)⟩
   have:=q _ ((s1.trans s3).trans s4)
   rw[aK,Kp (by rw[ec]; intro z; cases z)] at this
   exact this
  | none =>
   rw[ec] at hc
   rw[show aM kvs (Sum.inr m)=none from hc]
   refine⟨_,rfl,_,rfl,aU ?_⟩
   have:=q _ (ag.refl H2)
   rw[aK,Ks ec] at this
   exact this
def F1 (K:N7):Sp:=fun vs H Q _=> ∃(xs:List Addr) (n:Nat) (ts td:Addr) (S:Ob) (d:bZ),vs=[.ref ts,.int (S.ks.length:Nat),.ref td]/\LS xs n H ts S.ms S.ds/\S.ms.length<=12/\S.ds.length<=24/\N9 K H td (iM d)/\OX d/\ ∀H',ag H H'->Q (.str (wordOf (aK S d))) H'
theorem Hl (T:Txt K mg a):Oj P w K mg base 2 "_law_due" ["_law_state","_law_kept","_law_deed_here"] (F1 K):=by
 refine b9 T.rA mi fun f c A o s H vs Q E hr h=>?_
 obtain⟨xs,n,ts,td,S,d,rfl,ls,hml,hdl,hq,ok,q⟩:=h
 obtain⟨ln,la,dd,vs,kvs,l⟩:=id ls
 refine⟨_,(ae (gF (pv 0) (fG rfl (aR (gn 3 mi.nd) (aR (gn 4 mi.nd) (aR (gn 5 mi.nd) eG))))) (ae (aF (aG aZ (N8 K (pv 2) aa) aB) (ah (av (Od K (bh (ao aB (N6 aB))) (dz gK (by rfl) T.kU boot_int (N6 (e8 aZ (pv 1) aa)))))) aw) (ae (aF (aG aZ (N8 K (pv 2) aa) aB) (ah (av (aE (we T) hr.mm (ao (pv 0) (ao (N8 K (pv 2) aa) (N6 (N8 K (pv 2) aa))))))) aw) (ae (aF (aG aZ (N8 K (pv 2) aa) aB) (ae (aF (nS (Pf K) (N8 K (pv 2) aa) (pv 3)) (ah (av aB)) aw) (ah (av (Od K (bh (ao aB (N6 aB))) (dz gK (by rfl) T.kU boot_int (N6 (e8 aZ (cE K T.bI (pv 3)) aa))))))) aw) (ae (aF (aG aZ (N8 K (pv 2) aa) aB) (ae (aF (nS (zK K) (N8 K (pv 2) aa) (pv 3)) (ah (av aB)) aw) (ah (av (Od K (bh (ao aB (N6 aB))) (dz gK (by rfl) T.kU boot_int (N6 (A5 (pk (cf hr) (N8 K (pv 2) aa) (pv 5)) (by with_unfolding_all rfl)))))))) aw) (ae (aF (PW.pt (cq (nS (zK K) (N8 K (pv 2) aa) (pv 3)) (cz (PW.pt (eP (aG aZ (N8 K (pv 2) aa) aB) (eI (nS (zK K) (N8 K (pv 2) aa) (pv 3)))))))) (ah (av aB)) aw) (ae (aF (nS (Pf K) (N8 K (pv 2) aa) (gW nR ["_law_row_here"] [] [] OG (dB K (pv 4)) (fun C s2 H2 fp=>⟨(gn 0 (Oy ["_law_row_here"])),d6,(N8 K (pv 0) aa)⟩))) (ah (av aB)) aw) (ae (aF (PW.pt (eP (aG aZ (N8 K (pv 2) aa) aB) (eI (aG sq (aE (qc T) hr.mm (ao (N8 K (pv 2) aa) (ao (N8 K (pv 2) aa) (N6 (N8 K (pv 2) aa))))) aa)))) (ah (av aB)) aw) (ah (av (Od K (bh (ao aB (N6 aB))) (dz gK (by rfl) T.kU boot_int (N6 (e8 aZ (cE K T.bI (pv 4)) aa)))))))))))))),?_⟩
 refine⟨_,rfl,ts,_,rfl,N9.of l.ht,rfl,_,_,rfl,_,_,rfl,_,_,rfl,rfl,?_⟩
 dsimp only[aO,L2.start,List.set]
 have two: ∀ {b:Bool}{z:Str}{x:L2.Due},aK S d=x->(if b=true then V.str z else V.str "")=V.str (wordOf x)-> ∀H',ag H H'->Q (if b=true then V.str z else V.str "") H':=fun {b z x} e1 e2 H' s=>by
  rw[e2,<-e1]
  exact q H' s
 cases d with
 | back =>
  refine⟨_,rfl,td,_,_,_,rfl,rfl,hq,rfl,rfl,_,rfl,cG ⟨(by show 2<=sizeLine; decide),fun p np=>⟨_,rfl,rfl,.inr ⟨_,rfl,p,_,_,_,rfl,rfl,N5.of af,at2,?_⟩⟩⟩⟩
  by_cases c:S.ks=[]
  .exact two (x:= .nothing) (by rw[aK,Ks c]) (by rw[show decide (V.int (S.ks.length:Nat)=V.int 0)=true from KQ (by rw[c]; rfl)]; rfl) _ (ag.upd np)
  .refine two (x:= .ok) (by rw[aK,Kp c]) ?_ _ (ag.upd np)
   rw[show decide (V.int (S.ks.length:Nat)=V.int 0)=false from KU fun z=>c (M4.mp (by have:=V.int.inj z; omega))]
   rfl
 | sM m =>
  refine aI rfl hq rfl (by trivial) ?_
  exact⟨_,rfl,td,_,_,_,rfl,rfl,hq,rfl,rfl,_,rfl,cG ⟨_,rfl,_,rfl,td,_,_,_,rfl,rfl,hq,rfl,_,rfl,td,_,_,_,rfl,rfl,hq,rfl,xs,n,ts,S,_,m,.sM m,rfl,ls,hdl,.inl ⟨rfl,rfl⟩,q⟩⟩
 | sD m =>
  refine aI rfl hq rfl (by trivial) ?_
  exact⟨_,rfl,td,_,_,_,rfl,rfl,hq,rfl,rfl,_,rfl,cG ⟨_,rfl,_,rfl,td,_,_,_,rfl,rfl,hq,rfl,_,rfl,td,_,_,_,rfl,rfl,hq,rfl,xs,n,ts,S,_,m,.sD m,rfl,ls,hdl,.inr (.inl ⟨rfl,rfl⟩),q⟩⟩
 | sT m =>
  refine aI rfl hq rfl (by trivial) ?_
  exact⟨_,rfl,td,_,_,_,rfl,rfl,hq,rfl,rfl,_,rfl,cG ⟨_,rfl,_,rfl,td,_,_,_,rfl,rfl,hq,rfl,_,rfl,td,_,_,_,rfl,rfl,hq,rfl,xs,n,ts,S,_,m,.sT m,rfl,ls,hdl,.inr (.inr ⟨rfl,rfl⟩),q⟩⟩
 | member y =>
  refine aI rfl hq rfl (by trivial) ?_
  refine aI rfl hq rfl (by trivial) ?_
  refine⟨_,rfl,td,_,_,_,rfl,rfl,hq,rfl,rfl,_,rfl,cG ?_⟩
  by_cases hm:y∈aA S
  .refine⟨_,rfl,td,_,_,_,rfl,rfl,hq,rfl,_,rfl,ln,_,rfl,.inl (N5.of l.hn),rfl,bX _,true,Ln V.bl ((cW y _).trans (KQ hm)),aU ?_⟩
   have:=q H (ag.refl H)
   rw[aK,Ks hm] at this
   exact this
  .refine⟨_,rfl,td,_,_,_,rfl,rfl,hq,rfl,_,rfl,ln,_,rfl,.inl (N5.of l.hn),rfl,bX _,false,Ln V.bl ((cW y _).trans (KU hm)),aD ?_⟩
   refine⟨(by show 2<=sizeLine; decide),fun p np=>⟨_,rfl,_,_,rfl,.inl ⟨_,N5.of (ag.upd np _ _ l.hn),rfl⟩,rfl,.inr ⟨_,rfl,p,_,_,_,rfl,rfl,N5.of af,at2,?_⟩⟩⟩
   rw[Kq,Kq]
   by_cases c:12<=S.ms.length
   .exact two (x:= .full) (by rw[aK,Kp hm,Ks c]) (by rw[show decide (V.int (S.ms.length:Nat)=V.int 12)=true from KQ (by rw[show S.ms.length=12 by omega]; rfl)]; rfl) _ (ag.upd np)
   .exact two (x:= .ok) (by rw[aK,Kp hm,Kp c]) (by rw[show decide (V.int (S.ms.length:Nat)=V.int 12)=false from KU fun z=>c (by have:=V.int.inj z; omega)]; rfl) _ (ag.upd np)
 | top m wd =>
  refine aI rfl hq rfl (by trivial) ?_
  refine aI rfl hq rfl (by trivial) ?_
  refine aI rfl hq rfl (by trivial) ?_
  refine⟨_,rfl,td,_,_,_,rfl,rfl,hq,rfl,rfl,_,rfl,cG ?_⟩
  by_cases hm:m∈aA S
  .refine⟨_,rfl,td,_,_,_,rfl,rfl,hq,rfl,_,rfl,ln,_,rfl,.inl (N5.of l.hn),rfl,bX _,false,Ln V.bl (by show (!Ox (.str m) _)=false; rw[cW]; show (!decide (m∈aA S))=false; rw[KQ hm]; rfl),aD ?_⟩
   refine⟨(by show 2<=sizeLine; decide),fun p np=>⟨_,rfl,td,_,_,_,rfl,rfl,(ag.upd np).iX hq,rfl,_,rfl,dd,_,rfl,cJ.k (k:=Sum.inr m) (ag.upd np _ _ l.hd),.inr ⟨_,rfl,p,_,_,_,rfl,rfl,N5.of af,at2,?_⟩⟩⟩
   rw[l.cp m]
   cases ec:bw S.ms m with
   | none=>exact two (x:= .ok) (by rw[aK,Kp (fun z=>z hm),Kp (by rw[ec]; exact fun z=>z rfl)]) rfl _ (ag.upd np)
   | some c=>exact two (x:= .inUse) (by rw[aK,Kp (fun z=>z hm),Ks (by rw[ec]; intro z; cases z)]) rfl _ (ag.upd np)
  .refine⟨_,rfl,td,_,_,_,rfl,rfl,hq,rfl,_,rfl,ln,_,rfl,.inl (N5.of l.hn),rfl,bX _,true,Ln V.bl (by show (!Ox (.str m) _)=true; rw[cW]; show (!decide (m∈aA S))=true; rw[KU hm]; rfl),aU ?_⟩
   have:=q H (ag.refl H)
   rw[aK,Ks hm] at this
   exact this
 | plain y m pp e o =>
  obtain⟨o1,o2,o3⟩:Nm y/\Nm m/\Ou pp e o:=ok
  refine aI rfl hq rfl (by trivial) ?_
  refine aI rfl hq rfl (by trivial) ?_
  refine aI rfl hq rfl (by trivial) ?_
  refine aI rfl hq rfl (by trivial) ?_
  by_cases hm:m∈aA S
  rotate_left
  .refine⟨_,rfl,td,_,_,_,rfl,rfl,hq,rfl,_,rfl,ln,_,rfl,.inl (N5.of l.hn),rfl,bX _,true,Ln V.bl (by show (!Ox (.str m) _)=true; rw[cW]; show (!decide (m∈aA S))=true; rw[KU hm]; rfl),aU (aU ?_)⟩
   have:=q H (ag.refl H)
   rw[aK,Ks hm] at this
   exact this
  refine⟨_,rfl,td,_,_,_,rfl,rfl,hq,rfl,_,rfl,ln,_,rfl,.inl (N5.of l.hn),rfl,bX _,false,Ln V.bl (by show (!Ox (.str m) _)=false; rw[cW]; show (!decide (m∈aA S))=false; rw[KQ hm]; rfl),aD ?_⟩
  refine⟨_,rfl,td,_,_,_,rfl,rfl,hq,rfl,rfl,_,rfl,N4 (aD ?_)⟩
  refine⟨_,rfl,td,_,_,_,rfl,rfl,hq,rfl,_,rfl,la,rfl,⟨_,N5.of l.ha⟩,fX (fun d=>V.str d.1) (fun d=>rfl) (bo (N5.of l.ha)) l.ar (by omega) fun p1 np1=>⟨p1,_,rfl,.inl (N5.of af),rfl,pM _,_,rfl,?_⟩⟩
  have s1:=ag.upd (o:= .lst (S.ds.map fun d=>V.str d.1)) np1
  generalize upd H p1 (.lst (S.ds.map fun d=>V.str d.1))=H1 at s1
  show if Ox (.str y) _=true then _ else _
  rw[vk]
  by_cases hn:y∈bt S
  .rw[show decide (y∈S.ds.map (·.1))=true from KQ hn]
   refine aU ?_
   have:=q _ s1
   rw[aK,Kp (fun z=>z hm),Ks hn] at this
   exact this
  rw[show decide (y∈S.ds.map (·.1))=false from KU hn]
  have hq1:=s1.iX hq
  refine aD ⟨_,rfl,td,_,_,_,rfl,rfl,hq1,rfl,rfl,_,rfl,cG ⟨_,rfl,td,_,_,_,rfl,rfl,hq1,rfl,_,rfl,td,_,_,_,rfl,rfl,hq1,rfl,_,rfl,td,_,_,_,rfl,rfl,hq1,rfl,pp,e,o,rfl,o3,_,_,rfl,rfl,_,rfl,?_⟩⟩
  by_cases hp:99999 < cA pp e o
  .rw[show decide (99999 < cA pp e o)=true from KQ hp]
   refine aU ?_
   have:=q _ s1
   rw[aK,Kp (fun z=>z hm),Kp hn,Ks hp] at this
   exact this
  rw[show decide (99999 < cA pp e o)=false from KU hp]
  refine aD ⟨(by show 2<=sizeLine; decide),fun p np=>⟨_,rfl,_,_,rfl,.inl ⟨_,N5.of (ag.upd np _ _ (s1 _ _ l.ha)),rfl⟩,rfl,.inr ⟨_,rfl,p,_,_,_,rfl,rfl,N5.of af,at2,?_⟩⟩⟩
  rw[l.ar.length]
  by_cases c:24<=S.ds.length
  .exact two (x:= .full) (by rw[aK,Kp (fun z=>z hm),Kp hn,Kp hp,Ks c]) (by rw[show decide (V.int (S.ds.length:Nat)=V.int 24)=true from KQ (by rw[show S.ds.length=24 by omega]; rfl)]; rfl) _ (s1.trans (ag.upd np))
  .exact two (x:= .ok) (by rw[aK,Kp (fun z=>z hm),Kp hn,Kp hp,Kp c]) (by rw[show decide (V.int (S.ds.length:Nat)=V.int 24)=false from KU fun z=>c (by have:=V.int.inj z; omega)]; rfl) _ (s1.trans (ag.upd np))
 | link y m b mo =>
  refine aI rfl hq rfl (by trivial) ?_
  refine aI rfl hq rfl (by trivial) ?_
  refine aI rfl hq rfl (by trivial) ?_
  refine aI rfl hq rfl (by trivial) ?_
  by_cases hm:m∈aA S
  rotate_left
  .refine⟨_,rfl,td,_,_,_,rfl,rfl,hq,rfl,_,rfl,ln,_,rfl,.inl (N5.of l.hn),rfl,bX _,true,Ln V.bl (by show (!Ox (.str m) _)=true; rw[cW]; show (!decide (m∈aA S))=true; rw[KU hm]; rfl),aU (aU ?_)⟩
   have:=q H (ag.refl H)
   rw[aK,Ks (.inl hm)] at this
   exact this
  refine⟨_,rfl,td,_,_,_,rfl,rfl,hq,rfl,_,rfl,ln,_,rfl,.inl (N5.of l.hn),rfl,bX _,false,Ln V.bl (by show (!Ox (.str m) _)=false; rw[cW]; show (!decide (m∈aA S))=false; rw[KQ hm]; rfl),aD ?_⟩
  by_cases hb:b∈aA S
  rotate_left
  .refine⟨_,rfl,td,_,_,_,rfl,rfl,hq,rfl,rfl,_,rfl,cG ⟨_,rfl,td,_,_,_,rfl,rfl,hq,rfl,_,rfl,ln,_,rfl,.inl (N5.of l.hn),rfl,bX _,true,Ln V.bl (by show (!Ox (.str b) _)=true; rw[cW]; show (!decide (b∈aA S))=true; rw[KU hb]; rfl),aU ?_⟩⟩
   have:=q H (ag.refl H)
   rw[aK,Ks (.inr hb)] at this
   exact this
  have hu: ¬(m∉aA S\/b∉aA S):=fun z=>z.elim (fun z=>z hm) fun z=>z hb
  refine⟨_,rfl,td,_,_,_,rfl,rfl,hq,rfl,rfl,_,rfl,cG ⟨_,rfl,td,_,_,_,rfl,rfl,hq,rfl,_,rfl,ln,_,rfl,.inl (N5.of l.hn),rfl,bX _,false,Ln V.bl (by show (!Ox (.str b) _)=false; rw[cW]; show (!decide (b∈aA S))=false; rw[KQ hb]; rfl),aD ?_⟩⟩
  refine⟨_,rfl,td,_,_,_,rfl,rfl,hq,rfl,_,rfl,la,rfl,⟨_,N5.of l.ha⟩,fX (fun d=>V.str d.1) (fun d=>rfl) (bo (N5.of l.ha)) l.ar (by omega) fun p1 np1=>⟨p1,_,rfl,.inl (N5.of af),rfl,pM _,_,rfl,?_⟩⟩
  have s1:=ag.upd (o:= .lst (S.ds.map fun d=>V.str d.1)) np1
  generalize upd H p1 (.lst (S.ds.map fun d=>V.str d.1))=H1 at s1
  show if Ox (.str y) _=true then _ else _
  rw[vk]
  by_cases hn:y∈bt S
  .rw[show decide (y∈S.ds.map (·.1))=true from KQ hn]
   refine aU ?_
   have:=q _ s1
   rw[aK,Kp hu,Ks hn] at this
   exact this
  rw[show decide (y∈S.ds.map (·.1))=false from KU hn]
  have hq1:=s1.iX hq
  refine aD ⟨_,rfl,td,_,_,_,rfl,rfl,hq1,rfl,rfl,_,rfl,N4 (aD ?_)⟩
  refine⟨(by show 2<=sizeLine; decide),fun p np=>⟨_,rfl,_,_,rfl,.inl ⟨_,N5.of (ag.upd np _ _ (s1 _ _ l.ha)),rfl⟩,rfl,.inr ⟨_,rfl,p,_,_,_,rfl,rfl,N5.of af,at2,?_⟩⟩⟩
  rw[l.ar.length]
  by_cases c:24<=S.ds.length
  .exact two (x:= .full) (by rw[aK,Kp hu,Kp hn,Ks c]) (by rw[show decide (V.int (S.ds.length:Nat)=V.int 24)=true from KQ (by rw[show S.ds.length=24 by omega]; rfl)]; rfl) _ (s1.trans (ag.upd np))
  .exact two (x:= .ok) (by rw[aK,Kp hu,Kp hn,Kp c]) (by rw[show decide (V.int (S.ds.length:Nat)=V.int 24)=false from KU fun z=>c (by have:=V.int.inj z; omega)]; rfl) _ (s1.trans (ag.upd np))
def CB (K:N7):Sp:=fun vs H Q _=> ∃(xs:List Addr) (n:Nat) (ts td:Addr) (S:Ob) (d:bZ),vs=[.ref ts,.ref td]/\LS xs n H ts S.ms S.ds/\(∀b∈xs,∃o,H b=some o)/\n<=500/\Gd S/\N9 K H td (iM d)/\OX d/\aK S d= .ok/\(∀z,d=z->z≠ .back)/\ ∀(ts':Addr) (H':Hp),ag H H'->LS xs (n+1) H' ts' (ez S d).ms (ez S d).ds->Q (.ref ts') H'
theorem yO {ms:List Mem}{j:Nat}{m:Str}(nd:(ms.map (·.1)).Nodup) (hj:(ms.map (·.1))[j]?=some m):(ms.map (·.1)).eraseIdx j=(ms.filter fun x=>decide (x.1≠m)).map (·.1):=by
 rw[<-uw nd hj,List.eraseIdx_eq_take_drop_succ,KO,List.map_take,List.map_drop]
theorem Dp (T:Txt K mg a):Oj P w K mg base 2 "_law_after" ["_law_state","_law_deed_here"] (CB K):=by
 refine b9 T.oq gG fun f c A o s H vs Q E hr h=>?_
 obtain⟨xs,n,ts,td,S,d,rfl,⟨ln0,la0,dd0,vs,kvs,l⟩,hx,hn,g,hq,ok,due,nb,q⟩:=h
 obtain⟨ml,dl,mn,dn,mN,dN⟩:=g.now
 have vl:=l.ar.length
 have fr: ∀ {b:Addr},H b=none->b∉xs:=fun {b} e z=>by obtain⟨o,e'⟩:=hx b z; rw[e] at e'; cases e'
 refine⟨_,(ae (Oa 2 gG.nd (dz (show cX _ _ (oU K) from iI) (by rfl) T.iA boot_list (N6 (N8 K (pv 0) aa)))) (ae (Oa 3 gG.nd (dz (show cX _ _ (oU K) from iI) (by rfl) T.iA boot_list (N6 (N8 K (pv 0) aa)))) (ae (Oa 4 gG.nd (dz yq (by rfl) T.wZ boot_dict (N6 (N8 K (pv 0) aa)))) (eF (aF (aG aZ (N8 K (pv 1) aa) aB) (ah (aP (jX K (pv 2) (N8 K (pv 1) aa)))) (ah (aF (aG aZ (N8 K (pv 1) aa) aB) (ah (sJ (cf hr) (pv 4) (N8 K (pv 1) aa) (N8 K (pv 1) aa) rfl)) (ah (aF (aG aZ (N8 K (pv 1) aa) aB) (ah (aP (jX K (pv 3) (bF (ao (N8 K (pv 1) aa) (ao (N8 K (pv 1) aa) (ao bu (N6 (aE (qc T) hr.mm (ao (N8 K (pv 1) aa) (ao (N8 K (pv 1) aa) (N6 (N8 K (pv 1) aa))))))))))))) (ah (aF (aG aZ (N8 K (pv 1) aa) aB) (ah (aP (jX K (pv 3) (bF (ao (N8 K (pv 1) aa) (ao (N8 K (pv 1) aa) (ao (N8 K (pv 1) aa) (N6 (N8 K (pv 1) aa))))))))) (ah (aF (aG aZ (N8 K (pv 1) aa) aB) (ah (Pr 3 gG.nd kQ ["_law_row_here"] ["_law_deed_here"] [1] OG (dB K (pv 3)) (fun C s2 H2 fp=>⟨(gn 0 (Oy ["_law_row_here","_law_deed_here"])),(jb (aG eU (N8 K (pv 0) aa) (N8 K (pv 1) aa))),(pv 0)⟩))) (eF (aF (aG aZ (N8 K (pv 1) aa) aB) (ah (aP (show PE _ _ (O3 K _ _ _ _) from jP Lj PySem.F.slot_list_remove PySem.F.type_list_remove BE (pv 2) (N6 (N8 K (pv 1) aa))))) aw) (ah (aF (mP (pk (cf hr) (N8 K (pv 1) aa) (pv 4)) (by with_unfolding_all rfl)) (ah (aP (DG (pv 4) (N8 K (pv 1) aa) (by constructor <;> first | rfl | (intros; rfl))))) aw)))))))))))) (ah (av (bF (ao (pv 2) (ao (pv 3) (N6 (pv 4))))))))))),?_⟩
 refine⟨_,rfl,ts,_,_,_,rfl,rfl,N9.of l.ht,rfl,ln0,_,rfl,.inl (N5.of l.hn),fun ln nln=>?_⟩
 have s1:=ag.upd (o:= .lst ((S.ms.map (·.1)).map V.str)) nln
 have h1:(upd H ln (.lst ((S.ms.map (·.1)).map V.str))) ln=some (.lst ((S.ms.map (·.1)).map V.str)):=af
 generalize upd H ln (.lst ((S.ms.map (·.1)).map V.str))=H1 at s1 h1
 refine⟨_,rfl,ts,_,_,_,rfl,rfl,N9.of (s1 _ _ l.ht),rfl,la0,_,rfl,.inl (N5.of (s1 _ _ l.ha)),fun la nla1=>?_⟩
 have nla:=s1.free nla1
 have s2':=ag.upd (o:= .lst vs) nla1
 have s2:=s1.trans s2'
 have h2:(upd H1 la (.lst vs)) la=some (.lst vs):=af
 generalize upd H1 la (.lst vs)=H2 at s2 s2' h2
 have h12:=s2' _ _ h1
 refine⟨_,rfl,ts,_,_,_,rfl,rfl,N9.of (s2 _ _ l.ht),rfl,dd0,kvs,rfl,s2 _ _ l.hd,fun dd ndd2=>?_⟩
 have ndd:=s2.free ndd2
 have s3':=ag.upd (o:= .dK kvs) ndd2
 have s3:=s2.trans s3'
 have h3:(upd H2 dd (.dK kvs)) dd=some (.dK kvs):=af
 have h13:=s3' _ _ h12
 have h23:=s3' _ _ h2
 dsimp only[aO,L2.start,List.set]
 generalize upd H2 dd (.dK kvs)=H3 at s3 s3' h3 h13 h23
 have hq3:=s3.iX hq
 have nl1:ln≠la:=eV h13 h23 |> fun _=>fun z=>by
  have:=nla1
  rw[<-z,h1] at this
  cases this
 have nl2:ln≠dd:=eV h13 h3 (by intro z; cases z)
 have nl3:la≠dd:=eV h23 h3 (by intro z; cases z)
 have ar3:F2 (lM xs H3) vs S.ds:=l.ar.imp fun v d ⟨t,e,a,b⟩=>⟨t,e,a,s3 _ _ b⟩
 have rowne: ∀ {t:Addr}{u:List V},H t=some (.tup u)->t≠ln/\t≠la/\t≠dd:=fun e=>⟨az e nln,az e nla,az e ndd⟩
 refine GH (fun σ' H'=> ∃(la2:Addr) (vs2:List V) (kvs2:Oo),σ'=[some (.ref ts),some (.ref td),some (.ref ln),some (.ref la2),some (.ref dd)]/\ag H H'/\H la2=none/\H' ln=some (.lst (((ez S d).ms.map (·.1)).map V.str))/\H' la2=some (.lst vs2)/\F2 (lM xs H') vs2 (ez S d).ds/\H' dd=some (.dK kvs2)/\(∀m,aM kvs2 (Sum.inr m)=(bw (ez S d).ms m).map V.int)/\kvs2.length<=n+1) (fun D2 mk2 _=>?_) ?_
 rotate_left
 .rintro σ' H' ⟨la2,vs2,kvs2,rfl,sm,nla2,g1,g2,g3,g4,g5,g6⟩
  refine⟨_,rfl,_,rfl,_,rfl,(by show 3<=sizeLine; decide),fun ts' nts=>?_⟩
  have s5:=ag.upd (o:= .tup [.ref ln,.ref la2,.ref dd]) nts
  refine q ts' _ (sm.trans s5) ⟨ln,la2,dd,vs2,kvs2,fr (sm.free nts),af,fr nln,s5 _ _ g1,fr nla2,s5 _ _ g2,g3.imp fun v d ⟨t,e,a,b⟩=>⟨t,e,a,s5 _ _ b⟩,fr ndd,s5 _ _ g4,g5,g6⟩
 have kl:=l.kl
 cases d with
 | back=>exact absurd rfl (nb _ rfl)
 | member y =>
  refine⟨_,rfl,td,_,_,_,rfl,rfl,hq3,rfl,rfl,_,rfl,cG ⟨_,rfl,.inl ⟨rfl,_,N5.of h13⟩,_,rfl,td,_,_,_,rfl,rfl,hq3,rfl,ln,_,_,rfl,rfl,h13,by rw[Kq,Kq]; exact aJ (by omega),?_⟩⟩
  have hm:y∉aA S:=fun z=>by rw[aK,Ks z] at due; cases due
  refine mk2 _ _ ⟨la,vs,kvs,rfl,s3.dA nln,nla,?_,(ai (K2 nl1)).trans h23,ar3.imp fun v d ⟨t,e,a,b⟩=>⟨t,e,a,?_⟩,(ai (K2 nl2)).trans h3,fun m=>?_,by omega⟩
  .rw[af]
   show some (HO.lst ((aA S).map V.str++[V.str y]))=some (HO.lst (((S.ms++[((y,none):Mem)]).map fun x:Mem=>x.1).map V.str))
   rw[KO,KO]
   rfl
  .exact (ai (eV b h13 (by intro z; cases z))).trans b
  .show _=(bw (S.ms++[(y,none)]) m).map V.int
   rw[BL hm]
   exact l.cp m
 | top m wd =>
  refine aI rfl hq3 rfl (by trivial) ?_
  have hm:m∈aA S:=Lk fun z=>by rw[aK,Ks z] at due; cases due
  refine⟨_,rfl,td,_,_,_,rfl,rfl,hq3,rfl,rfl,_,rfl,cG ⟨_,rfl,td,_,_,_,rfl,rfl,hq3,rfl,_,rfl,_,rfl,td,_,_,_,rfl,rfl,hq3,rfl,dd,_,rfl,pY.k (k:=Sum.inr m) h3 (aJ (by omega)),?_⟩⟩
  refine mk2 _ _ ⟨la,vs,_,rfl,s3.dA ndd,nla,?_,(ai nl3).trans h23,ar3.imp fun v d ⟨t,e,a,b⟩=>⟨t,e,a,(ai (eV b h3 (by intro z; cases z))).trans b⟩,af,fun m'=>?_,?_⟩
  .rw[ai nl2,h13]
   show _=some (HO.lst (((eC S.ms m (some wd)).map (·.1)).map V.str))
   rw[fc]
  .show _=(bw (eC S.ms m (some wd)) m').map V.int
   rw[iW,vB hm]
   by_cases c:m'=m
   .rw[Ks (by rw[c]),Ks c]; rfl
   .rw[Kp (fun z=>c (N2 z)),Kp c]; exact l.cp m'
  .have:=gj kvs (Sum.inr m:Key) (V.int wd)
   omega
 | plain y m pp e o =>
  obtain⟨o1,o2,o3⟩:Nm y/\Nm m/\Ou pp e o:=ok
  refine aI rfl hq3 rfl (by trivial) ?_
  refine aI rfl hq3 rfl (by trivial) ?_
  refine⟨_,rfl,td,_,_,_,rfl,rfl,hq3,rfl,rfl,_,rfl,cG ⟨_,rfl,.inl ⟨rfl,_,N5.of h23⟩,_,rfl,td,_,_,_,rfl,rfl,hq3,rfl,_,rfl,td,_,_,_,rfl,rfl,hq3,rfl,_,rfl,td,_,_,_,rfl,rfl,hq3,rfl,_,rfl,td,_,_,_,rfl,rfl,hq3,rfl,_,rfl,td,_,_,_,rfl,rfl,hq3,rfl,pp,e,o,rfl,o3,(by show 4<=sizeLine; decide),fun t nt=>?_⟩⟩
  have s4:=ag.upd (o:= .tup [.str y,.str m,.non,.int (cA pp e o)]) nt
  have ht:(upd H3 t (.tup [.str y,.str m,.non,.int (cA pp e o)])) t=some (.tup (jG (y,m,none,cA pp e o))):=af
  generalize upd H3 t (.tup [.str y,.str m,.non,.int (cA pp e o)])=H4 at s4 ht
  refine⟨la,_,_,rfl,rfl,s4 _ _ h23,by rw[vl]; exact aJ (by omega),?_⟩
  have keep: ∀ {b:Addr}{u:List V},H4 b=some (.tup u)->(upd H4 la (.lst (vs++[.ref t]))) b=some (.tup u):=fun e=>(ai (eV e (s4 _ _ h23) (by intro z; cases z))).trans e
  refine mk2 _ _ ⟨la,_,kvs,rfl,(s3.trans s4).dA nla,nla,(ai nl1).trans (s4 _ _ h13),af,F2.append (ar3.imp fun v d ⟨t,e,a,b⟩=>⟨t,e,a,keep (s4 _ _ b)⟩) (.cons ⟨t,rfl,fr (s3.free nt),keep ht⟩ .nil),(ai (K2 nl3)).trans (s4 _ _ h3),l.cp,by omega⟩
 | link y m b mo =>
  refine aI rfl hq3 rfl (by trivial) ?_
  refine aI rfl hq3 rfl (by trivial) ?_
  refine aI rfl hq3 rfl (by trivial) ?_
  refine⟨_,rfl,td,_,_,_,rfl,rfl,hq3,rfl,rfl,_,rfl,cG ⟨_,rfl,.inl ⟨rfl,_,N5.of h23⟩,_,rfl,td,_,_,_,rfl,rfl,hq3,rfl,_,rfl,td,_,_,_,rfl,rfl,hq3,rfl,_,rfl,td,_,_,_,rfl,rfl,hq3,rfl,_,rfl,td,_,_,_,rfl,rfl,hq3,rfl,(by show 4<=sizeLine; decide),fun t nt=>?_⟩⟩
  have s4:=ag.upd (o:= .tup [.str y,.str m,.str b,.int mo]) nt
  have ht:(upd H3 t (.tup [.str y,.str m,.str b,.int mo])) t=some (.tup (jG (y,m,some b,mo))):=af
  generalize upd H3 t (.tup [.str y,.str m,.str b,.int mo])=H4 at s4 ht
  refine⟨la,_,_,rfl,rfl,s4 _ _ h23,by rw[vl]; exact aJ (by omega),?_⟩
  have keep: ∀ {b:Addr}{u:List V},H4 b=some (.tup u)->(upd H4 la (.lst (vs++[.ref t]))) b=some (.tup u):=fun e=>(ai (eV e (s4 _ _ h23) (by intro z; cases z))).trans e
  refine mk2 _ _ ⟨la,_,kvs,rfl,(s3.trans s4).dA nla,nla,(ai nl1).trans (s4 _ _ h13),af,F2.append (ar3.imp fun v d ⟨t,e,a,b⟩=>⟨t,e,a,keep (s4 _ _ b)⟩) (.cons ⟨t,rfl,fr (s3.free nt),keep ht⟩ .nil),(ai (K2 nl3)).trans (s4 _ _ h3),l.cp,by omega⟩
 | sD y =>
  refine aI rfl hq3 rfl (by trivial) ?_
  refine aI rfl hq3 rfl (by trivial) ?_
  refine aI rfl hq3 rfl (by trivial) ?_
  refine aI rfl hq3 rfl (by trivial) ?_
  refine⟨_,rfl,td,_,_,_,rfl,rfl,hq3,rfl,rfl,_,rfl,cG ⟨_,rfl,la,rfl,⟨_,N5.of h23⟩,?_⟩⟩
  refine cg (xs:=vs) (fun i ys H'=>H'=H3/\ys.length<=i/\F2 (lM xs H3) ys ((S.ds.take i).filter fun x=>decide (x.1≠y))) (fun i ys H' _ h=>by rw[h.1]; exact bo (N5.of h23)) ⟨rfl,Ku _,.nil⟩ (aJ (by omega)) (fun i ys H' h=>h.2.1) ?_ ?_
  .rintro i ys H4 x hi ⟨rfl,hyl,hY⟩
   obtain⟨dm,hdm,t,rfl,ti,ht⟩:=ar3.get hi
   have tk:(S.ds.take (i+1)).filter (fun x=>decide (x.1≠y))=(S.ds.take i).filter (fun x=>decide (x.1≠y))++(if dm.1=y then [] else [dm]):=by
    rw[La,hdm,LB]
    congr 1
    show [dm].filter _=_
    by_cases c:dm.1=y <;> simp[c]
   refine⟨_,rfl,t,_,_,_,rfl,rfl,N9.of ht,rfl,_,rfl,td,_,_,_,rfl,rfl,hq3,rfl,rfl,_,rfl,?_⟩
   rw[tk]
   by_cases c:dm.1=y
   .rw[show (!decide (V.str dm.1=V.str y))=false from by rw[c]; simp,Ks c,Mm]
    exact aD ⟨rfl,by omega,hY⟩
   .rw[show (!decide (V.str dm.1=V.str y))=true from by simp[c],Kp c]
    exact aU ⟨_,rfl,rfl,by rw[KC]; show ys.length+1<=i+1; omega,hY.append (.cons ⟨t,rfl,ti,ht⟩ .nil)⟩
  .rintro ys H4 p2 ⟨rfl,hyl,hY⟩ np
   rw[vl,K6] at hY
   have s4:=ag.upd (o:= .lst ys) np
   exact mk2 _ _ ⟨p2,ys,kvs,rfl,s3.trans s4,s3.free np,s4 _ _ h13,af,hY.imp fun v d ⟨t,e,a,b⟩=>⟨t,e,a,s4 _ _ b⟩,s4 _ _ h3,l.cp,by omega⟩
 | sM m =>
  refine aI rfl hq3 rfl (by trivial) ?_
  refine aI rfl hq3 rfl (by trivial) ?_
  refine aI rfl hq3 rfl (by trivial) ?_
  refine aI rfl hq3 rfl (by trivial) ?_
  refine aI rfl hq3 rfl (by trivial) ?_
  have hm:m∈aA S:=Lk fun z=>by rw[aK,Ks z] at due; cases due
  obtain⟨j,j1,j2⟩:=gX hm
  refine⟨fun σ' H'=>σ'=[some (.ref ts),some (.ref td),some (.ref ln),some (.ref la),some (.ref dd)]/\H'=upd H3 ln (.lst (((S.ms.filter fun x=>decide (x.1≠m)).map (·.1)).map V.str)),?_,?_⟩
  .refine⟨_,rfl,td,_,_,_,rfl,rfl,hq3,rfl,rfl,_,rfl,cG ⟨_,rfl,.inl ⟨rfl,_,N5.of h13⟩,_,rfl,td,_,_,_,rfl,rfl,hq3,rfl,ln,aA S,m,j,rfl,rfl,h13,j1,j2,rfl,?_⟩⟩
   show upd H3 ln (.lst (((S.ms.map fun x:Mem=>x.1).eraseIdx j).map V.str))=_
   rw[yO mn j1]
  rintro σ' H4 ⟨rfl,rfl⟩
  have keep: ∀ {b:Addr}{u:List V},H3 b=some (.tup u)->(upd H3 ln (.lst (((S.ms.filter fun x=>decide (x.1≠m)).map (·.1)).map V.str))) b=some (.tup u):=fun e=>(ai (eV e h13 (by intro z; cases z))).trans e
  have hd4:(upd H3 ln (.lst (((S.ms.filter fun x=>decide (x.1≠m)).map (·.1)).map V.str))) dd=some (.dK kvs):=(ai (K2 nl2)).trans h3
  have sm4:ag H (upd H3 ln (.lst (((S.ms.filter fun x=>decide (x.1≠m)).map (·.1)).map V.str))):=s3.dA nln
  have hn4:(upd H3 ln (.lst (((S.ms.filter fun x=>decide (x.1≠m)).map (·.1)).map V.str))) ln=some (.lst (((S.ms.filter fun x=>decide (x.1≠m)).map (·.1)).map V.str)):=af
  have ha4:(upd H3 ln (.lst (((S.ms.filter fun x=>decide (x.1≠m)).map (·.1)).map V.str))) la=some (.lst vs):=(ai (K2 nl1)).trans h23
  have ar4:F2 (lM xs (upd H3 ln (.lst (((S.ms.filter fun x=>decide (x.1≠m)).map (·.1)).map V.str)))) vs S.ds:=ar3.imp fun v d ⟨t,e,a,b⟩=>⟨t,e,a,keep b⟩
  generalize upd H3 ln (.lst (((S.ms.filter fun x=>decide (x.1≠m)).map (·.1)).map V.str))=H4 at sm4 hd4 hn4 ha4 ar4
  have hq4:=sm4.iX hq
  refine⟨_,rfl,td,_,_,_,rfl,rfl,hq4,rfl,_,rfl,dd,_,rfl,cJ.k (k:=Sum.inr m) hd4,_,rfl,?_⟩
  cases ev:aM kvs (Sum.inr m) with
  | none =>
   refine aD (mk2 _ _ ⟨la,vs,kvs,rfl,sm4,nla,hn4,ha4,ar4,hd4,fun m'=>?_,by omega⟩)
   show _=(bw (S.ms.filter fun x=>decide (x.1≠m)) m').map V.int
   rw[vG]
   by_cases c:m'=m
   .rw[Ks c,c,ev]; rfl
   .rw[Kp c]; exact l.cp m'
  | some v =>
   refine aU ⟨_,rfl,dd,rfl,.inl ⟨kvs,.inl hd4⟩,_,rfl,td,_,_,_,rfl,rfl,hq4,rfl,kvs,Sum.inr m,v,hd4,rfl,ev,?_⟩
   refine mk2 _ _ ⟨la,vs,_,rfl,sm4.dA ndd,nla,(ai nl2).trans hn4,(ai nl3).trans ha4,ar4.imp fun v d ⟨t,e,a,b⟩=>⟨t,e,a,(ai (eV b hd4 (by intro z; cases z))).trans b⟩,af,fun m'=>?_,by have:=qD kvs (Sum.inr m:Key); omega⟩
   show _=(bw (S.ms.filter fun x=>decide (x.1≠m)) m').map V.int
   rw[vG,vM]
   by_cases c:m'=m
   .rw[Ks (by rw[c]),Ks c]; rfl
   .rw[Kp (fun z=>c (N2 z)),Kp c]; exact l.cp m'
 | sT m =>
  refine aI rfl hq3 rfl (by trivial) ?_
  refine aI rfl hq3 rfl (by trivial) ?_
  refine aI rfl hq3 rfl (by trivial) ?_
  refine aI rfl hq3 rfl (by trivial) ?_
  refine aI rfl hq3 rfl (by trivial) ?_
  refine⟨fun σ' H'=>σ'=[some (.ref ts),some (.ref td),some (.ref ln),some (.ref la),some (.ref dd)]/\H'=H3,⟨_,rfl,td,_,_,_,rfl,rfl,hq3,rfl,rfl,_,rfl,N4 ⟨rfl,rfl⟩⟩,?_⟩
  rintro σ' H4 ⟨rfl,rfl⟩
  have hc:bw S.ms m≠none:=fun z=>by rw[aK,Ks z] at due; cases due
  have hm:m∈aA S:=Lk fun z=>hc (tM z)
  refine⟨_,rfl,td,_,_,_,rfl,rfl,hq3,rfl,_,rfl,dd,_,rfl,cJ.k (k:=Sum.inr m) h3,_,rfl,?_⟩
  cases ev:aM kvs (Sum.inr m) with
  | none=>rw[l.cp m] at ev; cases ec:bw S.ms m with
   | none=>exact absurd ec hc
   | some c=>rw[ec] at ev; cases ev
  | some v =>
   refine aU ⟨_,rfl,dd,rfl,.inl ⟨kvs,.inl h3⟩,_,rfl,td,_,_,_,rfl,rfl,hq3,rfl,kvs,Sum.inr m,v,h3,rfl,ev,?_⟩
   refine mk2 _ _ ⟨la,vs,_,rfl,s3.dA ndd,nla,?_,(ai nl3).trans h23,ar3.imp fun v d ⟨t,e,a,b⟩=>⟨t,e,a,(ai (eV b h3 (by intro z; cases z))).trans b⟩,af,fun m'=>?_,by have:=qD kvs (Sum.inr m:Key); omega⟩
   .rw[ai nl2,h13]
    show _=some (HO.lst (((eC S.ms m none).map (·.1)).map V.str))
    rw[fc]
   .show _=(bw (eC S.ms m none) m').map V.int
    rw[vB hm,vM]
    by_cases c:m'=m
    .rw[Ks (by rw[c]),Ks c]; rfl
    .rw[Kp (fun z=>c (N2 z)),Kp c]; exact l.cp m'
theorem Fw {x:L2.Due}:(wordOf x= "")↔x= .ok:=by
 cases x <;> simp[wordOf] <;> decide +kernel
structure Wz (C:Addr) (n:Nat) (H:Hp) (h:Addr) (os:List Addr) (pl ts dt:Addr) (S:Ob):Prop where
 it:HI C H h os S
 po:pl∉os
 pv: ∃pv,H pl=some (.lst pv)/\F2 (fun v k=> ∃t,v=V.ref t/\LS (dt::pl::os) n H t k.1 k.2) pv S.ks
 ls:LS (dt::pl::os) n H ts S.ms S.ds
 gd:Gd S
 dn:dt∉pl::os
 dh: ∃o,H dt=some o
theorem Wz.wd {C:Addr}{n:Nat}{H:Hp}{h:Addr}{os:List Addr}{pl ts dt:Addr}{S:Ob}(w:Wz C n H h os pl ts dt S):L2.Wd C n H h os pl ts S:=by
 have k: ∀b o,b∉dt::pl::os->H b=some o->H b=some o/\b∉pl::os:=fun b o nb e=>⟨e,fun z=>nb (KD _ z)⟩
 obtain⟨pv,hp,hF⟩:=w.pv
 exact⟨w.it,w.po,⟨pv,hp,hF.imp fun v k' ⟨t,e,l⟩=>⟨t,e,l.mono k (Ku _)⟩⟩,w.ls.mono k (Ku _),w.gd⟩
theorem Wz.put {C:Addr}{n:Nat}{H H':Hp}{h:Addr}{os:List Addr}{pl ts dt:Addr}{S:Ob}(w:Wz C n H h os pl ts dt S) (s: ∀b o,b≠dt->H b=some o->H' b=some o) (e: ∃o,H' dt=some o):Wz C n H' h os pl ts dt S:=by
 have k: ∀b o,b∉dt::pl::os->H b=some o->H' b=some o/\b∉dt::pl::os:=fun b o nb e=>⟨s b o (fun z=>nb (by rw[z]; simp)) e,nb⟩
 obtain⟨pv,hp,hF⟩:=w.pv
 have ne: ∀b∈pl::os,b≠dt:=fun b hb z=>w.dn (z▸hb)
 exact⟨w.it.grow fun b o hb e=>s b o (ne b (KD _ hb)) e,w.po,⟨pv,s _ _ (ne _ (KG ..)) hp,hF.imp fun v k' ⟨t,e,l⟩=>⟨t,e,l.mono k (Ku _)⟩⟩,w.ls.mono k (Ku _),w.gd,w.dn,e⟩
theorem Wz.same {C:Addr}{n:Nat}{H H':Hp}{h:Addr}{os:List Addr}{pl ts dt:Addr}{S:Ob}(w:Wz C n H h os pl ts dt S) (s:ag H H'):Wz C n H' h os pl ts dt S:=w.put (fun b o _ e=>s b o e) (by obtain⟨o,e⟩:=w.dh; exact⟨o,s _ _ e⟩)
def EA (K:N7) (a:Adr):Sp:=fun vs H Q _=> ∃(n:Nat) (h:Addr) (os:List Addr) (pl ts td dt:Addr) (S:Ob) (d:bZ),vs=[.ref h,.ref ts,.ref pl,.ref td]/\Wz a.House n H h os pl ts dt S/\n<=500/\S.ks.length < 150/\td∉pl::os/\H td=some (.tup (iM d))/\OX d/\ ∀(os':List Addr) (ts':Addr) (H':Hp),Wz a.House (n+1) H' h os' pl ts' dt (dc S d)->PY pl os os' H H'->Q (.ref ts') H'
theorem Fc (T:Txt K mg a):Oj P w K mg base 7 "_law_step" ["_law_house","_law_state","_law_past","_law_deed_here"] (EA K a):=by
 refine b9 T.pZ tw fun f c A o s H vs Q E hr h=>?_
 obtain⟨n,h,os,pl,ts,td,dt,S,d,rfl,wd,hn,hk,tdo,hq,ok,q⟩:=h
 obtain⟨pz,hp,hF⟩:=wd.pv
 have pl':=hF.length
 have g:=wd.gd
 refine⟨_,(ae (Oa 4 tw.nd (aE (Hl T) hr.mm (ao (pv 1) (ao (cE K T.bI (pv 2)) (N6 (pv 3)))))) (ae (aF (aG eU (aE (ER T) hr.mm (ao (pv 0) (N6 (pv 3)))) (pv 4)) (ah (av bu)) aw) (ae (aF (aG eU (pv 4) aB) (ah (av (pv 1))) aw) (ae (aF (aG aZ (N8 K (pv 3) aa) aB) (ah (av (show PE _ _ (C4 K _ _ _) from Bw Lj MP MQ BW (pv 2)))) aw) (ae (aP (jX K (pv 2) (pv 1))) (ah (av (aE (Dp T) hr.mm (ao (pv 1) (N6 (pv 3))))))))))),?_⟩
 refine⟨_,rfl,_,rfl,_,_,rfl,.inl ⟨_,N5.of hp,rfl⟩,_,rfl,?_⟩
 rw[pl']
 refine⟨dt::pl::os,n,ts,td,S,d,rfl,wd.ls,g.now.ml,g.now.dl,N9.of hq,ok,fun H1 s1=>?_⟩
 have wd1:=wd.same s1
 have hq1:=s1 _ _ hq
 refine⟨_,rfl,_,rfl,h,os,S,d,td,rfl,wd1.it,g,hk,N9.of hq1,ok,fun H2 hN=>?_⟩
 obtain⟨so,os',hI2,nw⟩:=hN
 obtain⟨po2,mv,pv2,hp2,hp1⟩:=wd1.wd.E7 so nw
 have mz: ∀b o,b∉dt::pl::os->H1 b=some o->H2 b=some o/\b∉dt::pl::os':=fun b o nb e=>by
  simp only[Kz,not_or] at nb
  have:=mv b o (by simp[nb.2]) e
  exact⟨this.1,fun z=>(Kz.mp z).elim nb.1 this.2⟩
 obtain⟨od,ed⟩:=wd1.dh
 obtain⟨ed2,dn2⟩:=mv dt od wd1.dn ed
 obtain rfl:pv2=pz:=by rw[s1 _ _ hp] at hp1; cases hp1; rfl
 have ls2:LS (dt::pl::os') n H2 ts S.ms S.ds:=wd1.ls.mono mz (Ku _)
 have hF2:F2 (fun v k=> ∃t,v=V.ref t/\LS (dt::pl::os') (n+1) H2 t k.1 k.2) pv2 S.ks:=hF.imp fun v k ⟨t,e,z⟩=>⟨t,e,(z.same s1).mono mz (MJ _)⟩
 have td2:=mv td _ tdo hq1
 have fr2:PY pl os os' H H2:=⟨fun b o nb e=>(mv b o nb (s1 _ _ e)).1,fun b hb=>(nw b hb).imp (fun z=>z) fun z=>s1.free z,_,hp2⟩
 refine⟨_,rfl,rfl,_,rfl,?_⟩
 rw[show (!decide (V.str (wordOf (aK S d))=V.str (wordOf (aK S d))))=false from by simp]
 refine aD ⟨_,rfl,rfl,_,rfl,?_⟩
 by_cases due:aK S d= .ok
 rotate_left
 .rw[show (!decide (V.str (wordOf (aK S d))=V.str ""))=true from by
   rw[KU fun z=>due (Fw.mp (V.str.inj z))]; rfl]
  have en:dc S d=S:=by unfold dc; rw[Kp due]
  rw[en] at hI2
  refine aU ⟨_,rfl,q os' ts H2 ?_ fr2⟩
  rw[en]
  exact⟨hI2,po2,⟨pv2,hp2,hF2⟩,ls2.mono (fun b o nb e=>⟨e,nb⟩) (MJ _),g,dn2,_,ed2⟩
 rw[show (!decide (V.str (wordOf (aK S d))=V.str ""))=false from by
  rw[due]; simp[wordOf]]
 have en:dc S d=ez S d:=by unfold dc; rw[Ks due]
 have gn:Gd (dc S d):=Ez g ok
 refine aD ?_
 have occ: ∀b∈dt::pl::os',∃o,H2 b=some o:=fun b hb=>by
  rcases Kz.mp hb with rfl | hb
  .exact⟨_,ed2⟩
  rcases Kz.mp hb with rfl | hb
  .exact⟨_,hp2⟩
  .exact hI2.has b hb
 by_cases hb:d= .back
 .subst hb
  refine⟨_,rfl,td,_,_,_,rfl,rfl,N9.of td2.1,rfl,rfl,_,rfl,cG ?_⟩
  rcases Mp S.ks with hk0 | ⟨ks,k,hk0⟩
  .rw[aK,Ks hk0] at due; cases due
  have hk0:S.ks=ks++[k]:=by rw[hk0,Mq]
  have es:ez S .back=⟨k.1,k.2,ks⟩:=by
   show (match S.ks.getLast? with | some k=>(⟨k.1,k.2,S.ks.dropLast⟩:Ob) | none=>S)=_
   rw[show S.ks.getLast?=some k from by rw[hk0]; simp,show S.ks.dropLast=ks from by rw[hk0]; simp]
  rw[hk0] at hF2
  have l2:=hF2.length
  rw[KC,M8] at l2
  obtain⟨v,hv,t,rfl,lt⟩:=hF2.at' (i:=ks.length) (b:=k) (by simp)
  refine⟨_,rfl,.inl ⟨rfl,_,N5.of hp2⟩,pl,pv2,.ref t,rfl,rfl,hp2,by rw[show pv2.length - 1=ks.length by omega]; exact hv,?_⟩
  have hF3:=hF2.take ks.length
  rw[Np (Ku _),K6] at hF3
  have edl:pv2.dropLast=pv2.take ks.length:=by rw[List.dropLast_eq_take,show pv2.length - 1=ks.length by omega]
  rw[edl]
  have mv3: ∀b o,b∉dt::pl::os'->H2 b=some o->(upd H2 pl (.lst (pv2.take ks.length))) b=some o/\b∉dt::pl::os':=fun b o nb e=>⟨(ai (fun z=>nb (by rw[z]; simp))).trans e,nb⟩
  refine q os' t _ ?_ ⟨fun b o nb e=>(ai (fun z=>nb (by rw[z]; simp))).trans (fr2.1 b o nb e),fr2.2.1,_,af⟩
  rw[en,es] at hI2 gn
  rw[en,es]
  refine⟨hI2.grow fun b o hb e=>(ai (show b≠pl from fun z=>po2 (z▸hb))).trans e,po2,⟨_,af,hF3.imp fun v k ⟨t,e,z⟩=>⟨t,e,z.mono mv3 (Ku _)⟩⟩,lt.mono mv3 (Ku _),gn,dn2,_,(ai fun z=>dn2 (by rw[z]; simp)).trans ed2⟩
 .have hw: ∃w0 r0,iM d= .str w0::r0/\w0≠ "back" := by
   cases d with
   | back=>exact absurd rfl hb
   | member y=>exact⟨_,_,rfl,by trivial⟩
   | plain y m pp e o=>exact⟨_,_,rfl,by trivial⟩
   | link y m b mo=>exact⟨_,_,rfl,by trivial⟩
   | top m w=>exact⟨_,_,rfl,by trivial⟩
   | sM m=>exact⟨_,_,rfl,by trivial⟩
   | sD m=>exact⟨_,_,rfl,by trivial⟩
   | sT m=>exact⟨_,_,rfl,by trivial⟩
  obtain⟨w0,r0,ew,nw0⟩:=hw
  have td3:=td2.1
  rw[ew] at td3
  refine⟨_,rfl,td,_,_,_,rfl,rfl,N9.of td3,(show Om _ ((0:Nat):Int)=_ from bT rfl),rfl,_,rfl,jH nw0 ?_⟩
  refine⟨_,rfl,.inl ⟨rfl,_,N5.of hp2⟩,_,rfl,pl,_,_,rfl,rfl,hp2,aJ (by omega),?_⟩
  have mv3: ∀b o,b∉dt::pl::os'->H2 b=some o->(upd H2 pl (.lst (pv2++[.ref ts]))) b=some o/\b∉dt::pl::os':=fun b o nb e=>⟨(ai (fun z=>nb (by rw[z]; simp))).trans e,nb⟩
  have ls3:=ls2.mono mv3 (Ku _)
  have hF3:F2 (fun v k=> ∃t,v=V.ref t/\LS (dt::pl::os') (n+1) (upd H2 pl (.lst (pv2++[.ref ts]))) t k.1 k.2) (pv2++[.ref ts]) (S.ks++[(S.ms,S.ds)]):=F2.append (hF2.imp fun v k ⟨t,e,z⟩=>⟨t,e,z.mono mv3 (Ku _)⟩) (.cons ⟨ts,rfl,ls3.mono (fun b o nb e=>⟨e,nb⟩) (MJ _)⟩ .nil)
  have occ3: ∀b∈dt::pl::os',∃o,(upd H2 pl (.lst (pv2++[.ref ts]))) b=some o:=fun b hb=>by
   by_cases z:b=pl
   .rw[z]; exact⟨_,af⟩
   .obtain⟨o,e⟩:=occ b hb; exact⟨o,(ai z).trans e⟩
  have hI3:HI a.House (upd H2 pl (.lst (pv2++[.ref ts]))) h os' (dc S d):=hI2.grow fun b o hb e=>(ai (show b≠pl from fun z=>po2 (z▸hb))).trans e
  have fr3:PY pl os os' H (upd H2 pl (.lst (pv2++[.ref ts]))):=⟨fun b o nb e=>(ai (fun z=>nb (by rw[z]; simp))).trans (fr2.1 b o nb e),fr2.2.1,_,af⟩
  have td4:(upd H2 pl (.lst (pv2++[.ref ts]))) td=_:=(ai (fun z=>td2.2 (by rw[z]; simp))).trans td2.1
  obtain⟨od3,ed3⟩:=occ3 dt (KG ..)
  have hp3:(upd H2 pl (.lst (pv2++[.ref ts]))) pl=some (.lst (pv2++[.ref ts])):=af
  generalize upd H2 pl (.lst (pv2++[.ref ts]))=H3 at ls3 hF3 occ3 hI3 fr3 td4 hp3 ed3
  refine⟨_,rfl,_,rfl,dt::pl::os',n,ts,td,S,d,rfl,ls3,occ3,hn,g,N9.of td4,ok,due,fun z e z2=>hb (e.trans z2),fun ts' H4 s4 ls4=>?_⟩
  refine q os' ts' H4 ?_ ⟨fun b o nb e=>s4 _ _ (fr3.1 b o nb e),fr3.2.1,_,s4 _ _ hp3⟩
  have ek:(dc S d).ks=S.ks++[(S.ms,S.ds)]:=by
   rw[en]
   cases d with
   | back=>exact absurd rfl hb
   | _=>rfl
  refine⟨hI3.grow fun b o _ e=>s4 _ _ e,po2,⟨_,s4 _ _ hp3,?_⟩,?_,gn,dn2,_,s4 _ _ ed3⟩
  .rw[ek]
   exact hF3.imp fun v k ⟨t,e,z⟩=>⟨t,e,z.same s4⟩
  .rw[en]
   exact ls4
theorem mJ {ys:List Str}{i:Int}(h0:0<=i) (h1:i < ys.length) (hN: ∀y∈ys,Nm y): ∃y,Om (ys.map V.str) i=some (.str y)/\Nm y:=by
 obtain⟨k,rfl⟩: ∃k:Nat,i=(k:Int):=⟨i.toNat,by omega⟩
 obtain⟨y,hy,hm⟩:=Cj (ys:=ys) (i:=k) (by omega)
 exact⟨y,hy,hN y hm⟩
def EV (K:N7):Sp:=fun vs H Q _=> ∃(wd:Int) (pn:Addr) (pool:List Str) (call:Str) (block small kinds:Int),vs=[.int wd,.ref pn,.str call,.int block,.int small,.int kinds]/\0<=wd/\H pn=some (.lst (pool.map V.str))/\0 < pool.length/\(∀y∈pool,Nm y)/\Nm call/\0<=block/\block<=4/\(small=0\/small=1)/\1<=kinds/\kinds<=24 /\
 ∀(t:Addr) (d:bZ) (H':Hp),ag H H'->H t=none->H' t=some (.tup (iM d))->OX d->Q (.ref t) H'
theorem Et (T:Txt K mg a):Oj P w K mg base 1 "_law_deed" ["_law_word","_law_pool","_law_call","_law_block","_law_small","_law_kinds"] (EV K):=by
 refine b9 T.pI dj fun f c A o s H vs Q E hr h=>?_
 obtain⟨wd,pn,pool,call,block,small,kinds,rfl,w0,hp,pl0,hN,hcall,b0,b4,hsm,k17,k24,q⟩:=h
 refine⟨_,(ae (Oa 6 dj.nd (ax bx (ax bN (pv 0) aa) (cE K T.bI (pv 1)))) (ae (Oa 7 dj.nd (ax bx (ax bN (pv 0) aa) (cE K T.bI (pv 1)))) (ae (Oa 8 dj.nd (ax bN (pv 0) aa)) (ae (Oa 9 dj.nd (ax bx (ax bx (pv 0) aa) (pv 5))) (ae (aF (PW.pt (eP (aG nY (pv 9) aa) (eI (aG aZ (pv 4) aa)))) (ah (av (bF (ao aB (ao (pv 2) (ao (Od K (pv 1) (pv 6)) (ao (ax bx (pv 8) aa) (ao (ax bH aa (ax bx (ax bN (pv 8) aa) aa)) (N6 (ax bH aa (ax bx (ax bN (pv 8) aa) aa))))))))))) aw) (ae (aF (aG nY (pv 9) aa) (ae (Oa 10 dj.nd (ax bH aa (ax bx (ax bN (pv 8) aa) aa))) (eF (aF (aG aZ (ax bx (ax bN (pv 8) aa) aa) aa) (ah (Oa 10 dj.nd (ax bH aa (ax bx (pv 10) aa)))) aw) (ah (av (bF (ao aB (ao (pv 2) (ao (Od K (pv 1) (pv 6)) (ao (ax bx (pv 8) aa) (ao (ax bH aa (ax bx (ax bN (pv 8) aa) aa)) (N6 (pv 10)))))))))))) aw) (ae (aF (aG nY (pv 9) aa) (ae (Oa 11 dj.nd (ax bx (pv 8) (Od K (bh (ao aa (N6 aa))) (pv 4)))) (eF (aF (PW.pt (eP (aG sq (pv 3) aa) (eI (aG aZ (ax bN (pv 6) (pv 3)) (ax bN (pv 7) (pv 3)))))) (ah (Oa 11 dj.nd aa)) (ah (aF (aG sq (pv 3) aa) (ah (Hg (i:=6) (j:=7) rfl dj.nd rfl rfl (by decide) rfl rfl (ao (bc (jg rfl) (by rfl) T.kR boot_max (ao (pv 6) (N6 (pv 7)))) (N6 (bc (vD rfl) (by rfl) T.uk boot_min (ao (pv 6) (N6 (pv 7)))))) (by with_unfolding_all rfl))) aw))) (ah (av (bF (ao aB (ao (pv 2) (ao (Od K (pv 1) (pv 6)) (ao (Od K (pv 1) (pv 7)) (N6 (pv 11))))))))))) aw) (ae (aF (aG nY (pv 9) aa) (ah (av (bF (ao aB (ao (Od K (pv 1) (pv 6)) (N6 (ax bx (pv 8) (Od K (bh (ao aa (N6 aa))) (pv 4))))))))) aw) (ae (aF (aG nY (pv 9) aa) (ah (av (bF (ao aB (N6 (Od K (pv 1) (pv 6))))))) aw) (ae (aF (aG aZ (pv 9) aa) (ah (av (bF (N6 aB)))) aw) (ae (aF (aG aZ (pv 9) aa) (ah (av (bF (ao aB (ao aB (N6 (pv 2))))))) aw) (ah (av (bF (ao aB (ao (Od K (bh (ao aB (N6 aB))) (dz gK (by rfl) T.kU boot_int (N6 (e8 aZ (pv 9) aa)))) (N6 (Od K (pv 1) (pv 6))))))))))))))))))),?_⟩
 have lp:(0:Int) < ((pool.map V.str).length:Nat):=by rw[Kq]; omega
 refine⟨_,rfl,_,_,rfl,rfl,⟨by decide,by decide⟩,_,rfl,_,_,rfl,.inl ⟨_,N5.of hp,rfl⟩,_,_,rfl,rfl,lp,?_⟩
 refine⟨_,rfl,_,_,rfl,rfl,⟨by decide,by decide⟩,_,rfl,_,_,rfl,.inl ⟨_,N5.of hp,rfl⟩,_,_,rfl,rfl,lp,?_⟩
 refine⟨_,rfl,_,_,rfl,rfl,⟨by decide,by decide⟩,?_⟩
 refine⟨_,rfl,_,_,rfl,rfl,(by show (0:Int) < 24; decide),_,rfl,_,_,rfl,rfl,(by omega),?_⟩
 have a0:=L5 (wd / 24) (show ((pool.map V.str).length:Int)≠0 by omega)
 have a1:=LY (wd / 24) lp
 have c0:=L5 (wd / 336) (show ((pool.map V.str).length:Int)≠0 by omega)
 have c1:=LY (wd / 336) lp
 have d0:=L5 (wd % 24) (show kinds≠0 by omega)
 have d1:=LY (wd % 24) (show 0 < kinds by omega)
 have z0:0<=wd / 4704:=N0 w0 (by decide)
 dsimp only[aO,L2.start,List.set]
 generalize wd / 24 % ((pool.map V.str).length:Nat)=ia at a0 a1
 generalize wd / 336 % ((pool.map V.str).length:Nat)=ib at c0 c1
 generalize wd % 24 % kinds=kd at d0 d1
 generalize wd / 4704=sz at z0
 rw[Kq] at a1 c1
 obtain⟨ya,hya,na⟩:=mJ a0 a1 hN
 obtain⟨yb,hyb,nb⟩:=mJ c0 c1 hN
 have tup: ∀(d:bZ),OX d-> ∀t,H t=none->Q (.ref t) (upd H t (.tup (iM d))):=fun d ok t nt=>q t d _ (ag.upd nt) nt af ok
 refine⟨_,rfl,_,_,rfl,rfl,_,rfl,?_⟩
 refine bD (fun k5=>?_) (fun k5=>?_)
 .have k5:=KY k5
  have big: ∀o:Int,1<=o->o<=999-> ∀t,H t=none->Q (.ref t) (upd H t (.tup [.str "plain",.str call,.str ya,.int (sz % 1000),.int (1+sz / 1000 % 999),.int o])):=fun o o1 o2 t nt=>tup (.plain call ya (sz % 1000) (1+sz / 1000 % 999) o) ⟨hcall,na,by unfold Ou; omega⟩ t nt
  refine⟨_,rfl,rfl,_,rfl,?_⟩
  refine bD (fun c=>?_) (fun c=>?_)
  .exact⟨_,rfl,_,rfl,_,rfl,pn,_,_,_,rfl,rfl,N5.of hp,hya,_,rfl,_,_,rfl,rfl,(by show (0:Int) < 6; decide),_,rfl,_,_,rfl,rfl,⟨by decide,by decide⟩,_,_,rfl,rfl,(by show (0:Int) < 3; decide),_,_,rfl,rfl,_,rfl,_,_,rfl,rfl,⟨by decide,by decide⟩,_,_,rfl,rfl,(by show (0:Int) < 3; decide),_,_,rfl,rfl,(by show 6<=sizeLine; decide),fun t nt=>tup (.plain call ya (sz % 6) (1+sz / 6 % 3) (1+sz / 18 % 3)) ⟨hcall,na,by unfold Ou; omega⟩ t nt⟩
  .refine⟨_,rfl,_,_,rfl,rfl,_,rfl,?_⟩
   rw[show decide (kd < 5)=true from KQ k5]
   refine aU ⟨_,rfl,_,_,rfl,rfl,⟨by decide,by decide⟩,_,_,rfl,rfl,(by show (0:Int) < 999; decide),_,_,rfl,rfl,?_⟩
   refine⟨fun σ' H'=> ∃o:Int,1<=o/\o<=999/\σ'=[some (.int wd),some (.ref pn),some (.str call),some (.int block),some (.int small),some (.int kinds),some (.int ia),some (.int ib),some (.int sz),some (.int kd),some (.int o),none]/\H'=H,?_,?_⟩
   .refine⟨_,rfl,_,_,rfl,rfl,⟨by decide,by decide⟩,_,_,rfl,rfl,(by show (0:Int) < 4; decide),rfl,_,rfl,?_⟩
    refine bD (fun c=>?_) (fun c=>⟨1+sz / 999000 % 999,by omega,by omega,rfl,rfl⟩)
    exact⟨_,rfl,_,_,rfl,rfl,(by show (0:Int) < 4; decide),_,_,rfl,rfl,1+(1+sz / 999000 % 999) % 4,by omega,by omega,rfl,rfl⟩
   rintro σ' H' ⟨o,o1,o2,rfl,rfl⟩
   exact⟨_,rfl,_,rfl,_,rfl,pn,_,_,_,rfl,rfl,N5.of hp,hya,_,rfl,_,_,rfl,rfl,(by show (0:Int) < 1000; decide),_,rfl,_,_,rfl,rfl,⟨by decide,by decide⟩,_,_,rfl,rfl,(by show (0:Int) < 999; decide),_,_,rfl,rfl,_,rfl,(by show 6<=sizeLine; decide),fun t nt=>big o o1 o2 t nt⟩
 have k5:=Lh (K8 _▸k5)
 refine aD ⟨_,rfl,_,_,rfl,rfl,_,rfl,?_⟩
 rw[show decide (kd < 5)=false from KU k5]
 refine aD ⟨_,rfl,_,_,rfl,rfl,_,rfl,?_⟩
 refine bD (fun k16=>?_) (fun k16=>?_)
 .
  obtain⟨dv,hdv,e1⟩:=Qa (k:=small) (x:=100) (y:=3) hsm
  refine⟨_,rfl,(by show 2<=sizeLine; decide),fun u nu=>⟨_,rfl,u,_,_,_,rfl,rfl,N5.of af,hdv,_,_,rfl,rfl,(by omega),?_⟩⟩
  have s1:=ag.upd (o:= .lst [.int 100,.int 3]) nu
  dsimp only[aO,List.set]
  generalize upd H u (.lst [.int 100,.int 3])=H1 at s1
  have hp1:=s1 _ _ hp
  refine⟨fun σ' H'=> ∃(i j mo:Int),0<=i/\i < pool.length/\0<=j/\j < pool.length/\0<=mo/\mo<=99/\σ'=[some (.int wd),some (.ref pn),some (.str call),some (.int block),some (.int small),some (.int kinds),some (.int i),some (.int j),some (.int sz),some (.int kd),none,some (.int mo)]/\H'=H1,?_,?_⟩
  .have m0:=L5 sz (show dv≠0 by omega)
   have m1:=LY sz (show 0 < dv by omega)
   refine⟨_,rfl,_,_,rfl,rfl,_,rfl,?_⟩
   refine bD (fun cb=>?_) (fun cb=>?_)
   .have cb:=KY cb
    refine⟨_,rfl,_,rfl,_,_,rfl,rfl,⟨by omega,by omega⟩,_,rfl,_,rfl,_,_,rfl,rfl,⟨by omega,by omega⟩,rfl,_,rfl,?_⟩
    refine bD (fun cc=>⟨ia,ib,0,a0,a1,c0,c1,by decide,by decide,rfl,rfl⟩) (fun cc=>?_)
    refine⟨_,rfl,_,_,rfl,rfl,_,rfl,?_⟩
    rw[show decide (block > 0)=true from KQ cb]
    refine aU ?_
    refine⟨_,rfl,_,rfl,_,_,rfl,_,rfl,_,rfl,_,_,rfl,_,_,rfl,?_⟩
    refine⟨if ib > ia then ib else ia,if ib < ia then ib else ia,sz % dv,?_,?_,?_,?_,m0,by omega,rfl,rfl⟩
    .split <;> omega
    .split <;> omega
    .split <;> omega
    .split <;> omega
   .have cb:=Lh (K8 _▸cb)
    refine aD ⟨_,rfl,_,_,rfl,rfl,_,rfl,?_⟩
    rw[show decide (block > 0)=false from KU cb]
    exact aD ⟨ia,ib,sz % dv,a0,a1,c0,c1,m0,by omega,rfl,rfl⟩
  rintro σ' H' ⟨i,j,mo,i0,i1,j0,j1,mo0,mo1,rfl,rfl⟩
  obtain⟨yi,hyi,ni⟩:=mJ i0 i1 hN
  obtain⟨yj,hyj,nj⟩:=mJ j0 j1 hN
  exact⟨_,rfl,_,rfl,_,rfl,pn,_,_,_,rfl,rfl,N5.of hp1,hyi,_,rfl,_,rfl,pn,_,_,_,rfl,rfl,N5.of hp1,hyj,_,rfl,(by show 5<=sizeLine; decide),fun t nt=>q t (.link call yi yj mo) _ (s1.trans (ag.upd nt)) (s1.free nt) af ⟨hcall,ni,nj,mo0,mo1⟩⟩
 have k16:=Lh (K8 _▸k16)
 refine⟨_,rfl,_,_,rfl,rfl,_,rfl,?_⟩
 refine bD (fun k18=>?_) (fun k18=>?_)
 .obtain⟨dv,hdv,e1⟩:=Qa (k:=small) (x:=100000) (y:=20) hsm
  have m0:=L5 sz (show dv≠0 by omega)
  have m1:=LY sz (show 0 < dv by omega)
  exact⟨_,rfl,_,rfl,pn,_,_,_,rfl,rfl,N5.of hp,hya,_,rfl,(by show 2<=sizeLine; decide),fun u nu=>⟨_,rfl,u,_,_,_,rfl,rfl,N5.of af,hdv,_,_,rfl,rfl,(by omega),(by show 3<=sizeLine; decide),fun t nt=>q t (.top ya (sz % dv)) _ ((ag.upd nu).trans (ag.upd nt)) ((ag.upd nu).free nt) af ⟨na,m0,by omega⟩⟩⟩
 refine⟨_,rfl,_,_,rfl,rfl,_,rfl,?_⟩
 refine bD (fun k20=>?_) (fun k20=>?_)
 .exact⟨_,rfl,_,rfl,pn,_,_,_,rfl,rfl,N5.of hp,hya,(by show 2<=sizeLine; decide),fun t nt=>tup (.member ya) na t nt⟩
 refine⟨_,rfl,rfl,_,rfl,?_⟩
 refine bD (fun k20'=>?_) (fun k20'=>?_)
 .exact⟨(by show 1<=sizeLine; decide),fun t nt=>tup .back trivial t nt⟩
 refine⟨_,rfl,rfl,_,rfl,?_⟩
 refine bD (fun k21=>?_) (fun k21=>?_)
 .exact⟨_,rfl,(by show 3<=sizeLine; decide),fun t nt=>tup (.sD call) hcall t nt⟩
 refine⟨(by show 2<=sizeLine; decide),fun u nu=>⟨_,rfl,rfl,.inr ⟨_,rfl,u,_,_,_,rfl,rfl,N5.of af,at2,?_⟩⟩⟩
 have s1:=ag.upd (o:= .lst [.str "member",.str "top"]) nu
 refine⟨_,rfl,_,rfl,pn,_,_,_,rfl,rfl,N5.of (s1 _ _ hp),hya,(by show 3<=sizeLine; decide),fun t nt=>?_⟩
 generalize decide (V.int kd=V.int 23)=b
 cases b with
 | true=>exact q t (.sT ya) _ (s1.trans (ag.upd nt)) (s1.free nt) af na
 | false=>exact q t (.sM ya) _ (s1.trans (ag.upd nt)) (s1.free nt) af na
def nM (H0 H:Hp) (v:V) (d:bZ):Prop:= ∃t,v= .ref t/\H0 t=none/\H t=some (.tup (iM d))/\OX d
theorem nM.same {H0 H H':Hp}{v:V}{d:bZ}(s: ∀t o,H t=some (.tup o)->H' t=some (.tup o)) (h:nM H0 H v d):nM H0 H' v d:=by
 obtain⟨t,e,a,b,c⟩:=h
 exact⟨t,e,a,s _ _ b,c⟩
theorem Qm {i:Int}(h0:0<=i) (h1:i < 4): ∃b:Int,Om ([.int 0,.int 1,.int 1,.int 4]:List V) i=some (.int b)/\0<=b/\b<=4:=by
 have h:i=0\/i=1\/i=2\/i=3:=by omega
 rcases h with rfl | rfl | rfl | rfl
 .exact⟨0,rfl,by decide,by decide⟩
 .exact⟨1,rfl,by decide,by decide⟩
 .exact⟨1,rfl,by decide,by decide⟩
 .exact⟨4,rfl,by decide,by decide⟩
theorem Jm {x y:Int}{b:Bool}: ∃s:Int,Om ([.int x,.int y]:List V) (if b=true then 1 else 0)=some (.int s):=by
 cases b
 .exact⟨x,rfl⟩
 .exact⟨y,rfl⟩
def Gy (K:N7):Sp:=fun vs H Q _=> ∃(sa:Addr) (ns:List Int) (most:Nat),vs=[.ref sa,.int (most:Nat)]/\N5 K H sa (ns.map V.int)/\most<=150/\ ∀(p:Addr) (us:List V) (ds:List bZ) (H':Hp),H p=none->ag H H'->H' p=some (.lst us)->F2 (nM H H') us ds->ds.length<=most+12->Q (.ref p) H'
theorem G8 (T:Txt K mg a):Oj P w K mg base 2 "_law_day" ["_law_script","_law_most"] (Gy K):=by
 refine b9 T.qZ bP fun f c A o s H vs Q E hr h=>?_
 obtain⟨sa,ns,most,rfl,hS,hmo,q⟩:=h
 refine⟨_,(ae (Oa 2 bP.nd (aE (CC T) hr.mm (ao (pv 0) (N6 (ax bH (pv 1) aa))))) (ae (Oa 3 bP.nd (Od K (bh (ao aa (ao aa (ao aa (N6 aa))))) (ax bx (Od K (pv 2) aa) aa))) (ae (Oa 4 bP.nd (ax bx (ax bN (Od K (pv 2) aa) aa) aa)) (ae (Oa 5 bP.nd (bc (vD rfl) (by rfl) T.uk boot_min (ao aa (N6 (ax bx (ax bN (Od K (pv 2) aa) aa) aa))))) (ae (Oa 6 bP.nd (ax bx (ax bN (Od K (pv 2) aa) aa) (ax bH (pv 1) aa))) (ae (Oa 7 bP.nd aa) (eF (aF (aG aZ (ax bx (ax tW (Od K (pv 2) aa) (ax uz aa aa)) aa) aa) (ah (Oa 6 bP.nd (pv 1))) aw) (eF (aF (aG aZ (ax bx (ax tW (Od K (pv 2) aa) (ax uz aa aa)) aa) aa) (ah (FO (i:=5) (j:=6) (k:=7) rfl bP.nd rfl rfl rfl rfl rfl rfl (ao aa (ao (pv 1) (N6 aa))) (by with_unfolding_all rfl))) aw) (ae (Oa 8 bP.nd (aE (yh T) hr.mm (ao (Od K (pv 2) aa) (N6 (Od K (bh (ao (ax bH (pv 5) aa) (N6 aa))) (dz gK (by rfl) T.kU boot_int (N6 (e8 aZ (pv 7) aa)))))))) (ae (Oa 9 bP.nd (aE (yh T) hr.mm (ao (Od K (pv 2) aa) (N6 aa)))) (ae (Oa 10 bP.nd (bh dD)) (ae (de (gB T.cF (pv 5)) (gn 11 bP.nd) (ah (aP (jX K (pv 10) (bF (ao aB (N6 (Od K (pv 8) (ax bx (ax bH (pv 11) (ax bx (ax bN (Od K (pv 2) aa) aa) aa)) (pv 5)))))))))) (ae (de (gB T.cF (pv 6)) (gn 11 bP.nd) (ae (Oa 12 bP.nd (ax bN (Od K (pv 2) (ax bH aa (pv 11))) aa)) (ae (Oa 13 bP.nd (Od K (bh (ao (pv 11) (N6 (ax tW (pv 12) (ax uz aa aa))))) (dz gK (by rfl) T.kU boot_int (N6 (e8 aZ (ax bx (Od K (pv 2) (ax bH aa (pv 11))) aa) aa))))) (ah (aP (jX K (pv 10) (aE (Et T) hr.mm (ao (pv 12) (ao (pv 8) (ao (Od K (pv 9) (ax bx (pv 13) aa)) (ao (pv 3) (ao (pv 4) (N6 (pv 7)))))))))))))) (ah (av (pv 10)))))))))))))))),?_⟩
 refine⟨_,rfl,_,rfl,_,_,rfl,rfl,sa,ns,most+3,rfl,hS,by omega,fun p ws H1 np s1 hp hwl h0=>?_⟩
 have p0:=fj (ws:=ws) (i:=0) (by decide) (by omega)
 have p1:=fj (ws:=ws) (i:=1) (by decide) (by omega)
 have p2:=fj (ws:=ws) (i:=2) (by decide) (by omega)
 obtain⟨block,hb,b0,b4⟩:=Qm (i:=MA.g ws 2 % 4) (by omega) (by omega)
 refine⟨(by show 4<=sizeLine; decide),fun u nu=>⟨_,rfl,p,_,_,_,rfl,rfl,N5.of (ag.upd nu _ _ hp),p2,_,_,rfl,rfl,(by show (0:Int) < 4; decide),u,_,_,_,rfl,rfl,N5.of af,hb,?_⟩⟩
 have s2:=s1.trans (ag.upd (o:= .lst [.int 0,.int 1,.int 1,.int 4]) nu)
 have hp2:=ag.upd (o:= .lst [.int 0,.int 1,.int 1,.int 4]) nu _ _ hp
 dsimp only[aO,L2.start,List.set]
 generalize upd H1 u (.lst [.int 0,.int 1,.int 1,.int 4])=H2 at s2 hp2
 have hs2:=N5.of (K:=K) hp2
 refine⟨_,rfl,p,_,_,_,rfl,rfl,hs2,p2,_,_,rfl,rfl,⟨by decide,by decide⟩,_,_,rfl,rfl,(by show (0:Int) < 2; decide),?_⟩
 refine⟨_,rfl,p,_,_,_,rfl,rfl,hs2,p2,_,_,rfl,rfl,⟨by decide,by decide⟩,_,_,rfl,rfl,(by show (0:Int) < 17; decide),_,_,rfl,?_⟩
 refine⟨_,rfl,p,_,_,_,rfl,rfl,hs2,p2,_,_,rfl,rfl,⟨by decide,by decide⟩,_,rfl,_,_,rfl,rfl,_,_,rfl,rfl,(by omega),?_⟩
 have hsm:=mod2 (MA.g ws 2 / 4)
 have hm0:=L5 (MA.g ws 2 / 1904) (show ((most:Nat):Int)+1≠0 by omega)
 have hm1:=LY (MA.g ws 2 / 1904) (show (0:Int) < ((most:Nat):Int)+1 by omega)
 obtain⟨fi0,ef,f1⟩: ∃fi:Nat,(if MA.g ws 2 / 8 % 17 < 12 then MA.g ws 2 / 8 % 17 else 12)=(fi:Int)/\fi<=12:=⟨(if MA.g ws 2 / 8 % 17 < 12 then MA.g ws 2 / 8 % 17 else 12).toNat,by split <;> omega,by split <;> omega⟩
 obtain⟨ma0,em,m1⟩: ∃ma:Nat,MA.g ws 2 / 1904 % (((most:Nat):Int)+1)=(ma:Int)/\ma<=most:=⟨(MA.g ws 2 / 1904 % (((most:Nat):Int)+1)).toNat,by omega,by omega⟩
 dsimp only[aO,List.set]
 rw[ef,em]
 generalize MA.g ws 2 / 4 % 2=small at hsm
 refine⟨fun σ' H'=> ∃ma:Nat,ma<=most/\σ'=[some (.ref sa),some (.int (most:Nat)),some (.ref p),some (.int block),some (.int small),some (.int (fi0:Nat)),some (.int (ma:Nat)),some (.int 24),none,none,none,none,none,none]/\H'=H2,?_,?_⟩
 .refine⟨_,rfl,p,_,_,_,rfl,rfl,hs2,p2,_,_,rfl,rfl,⟨by decide,by decide,by decide⟩,_,_,rfl,rfl,⟨by decide,by decide⟩,_,_,rfl,rfl,(by show (0:Int) < 3; decide),rfl,_,rfl,?_⟩
  refine bD (fun c=>⟨_,rfl,most,Ku _,rfl,rfl⟩) (fun c=>⟨ma0,m1,rfl,rfl⟩)
 rintro σ' H' ⟨ma1,m2,rfl,rfl⟩
 refine⟨fun σ' H''=> ∃(fi ma:Nat) (ki:Int),fi<=12/\ma<=most/\(ki=24\/(ki=17/\fi=12))/\σ'=[some (.ref sa),some (.int (most:Nat)),some (.ref p),some (.int block),some (.int small),some (.int (fi:Nat)),some (.int (ma:Nat)),some (.int ki),none,none,none,none,none,none]/\ag H' H'',?_,?_⟩
 .refine⟨_,rfl,p,_,_,_,rfl,rfl,hs2,p2,_,_,rfl,rfl,⟨by decide,by decide,by decide⟩,_,_,rfl,rfl,⟨by decide,by decide⟩,_,_,rfl,rfl,(by show (0:Int) < 6; decide),rfl,_,rfl,?_⟩
  refine bD (fun c=>?_) (fun c=>⟨fi0,ma1,24,f1,m2,.inl rfl,rfl,ag.refl _⟩)
  exact⟨_,rfl,_,_,_,rfl,12,most,17,Ku _,Ku _,.inr ⟨rfl,rfl⟩,rfl,ag.refl _⟩
 clear ef em m1 f1 fi0 ma0 m2 ma1
 rintro σ' H3 ⟨fi,ma,ki,f1,m1,hki,rfl,s3'⟩
 have s3:=s2.trans s3'
 have hp3:=s3' _ _ hp2
 refine⟨_,rfl,p,_,_,_,rfl,rfl,N5.of hp3,p0,_,rfl,_,_,rfl,rfl,(by show 2<=sizeLine; decide),fun u nu=>⟨_,rfl,rfl,.inr ⟨_,rfl,u,_,_,_,rfl,rfl,N5.of af,at2,?_⟩⟩⟩
 obtain⟨npl,enp,n1,n2,n3⟩: ∃npl:Nat,(if decide (V.int ki=V.int 17)=true then V.int 12 else V.int (((fi:Nat):Int)+2))=V.int (npl:Nat)/\fi<=npl/\0 < npl/\npl<=32:=by
  rcases hki with rfl | ⟨rfl,rfl⟩
  .exact⟨fi+2,by rw[show decide (V.int 24=V.int 17)=false from KU fun z=>by have:=V.int.inj z; omega]; rfl,by omega,by omega,by omega⟩
  .exact⟨12,by rw[show decide (V.int 17=V.int 17)=true from KQ rfl]; rfl,Ku _,by decide,by decide⟩
 rw[enp]
 have s4:=s3.trans (ag.upd (o:= .lst [.int (((fi:Nat):Int)+2),.int 12]) nu)
 have hp4:=ag.upd (o:= .lst [.int (((fi:Nat):Int)+2),.int 12]) nu _ _ hp3
 generalize upd H3 u (.lst [.int (((fi:Nat):Int)+2),.int 12])=H4 at s4 hp4
 refine⟨_,npl,rfl,n3,fun pn pool H5 npn s5 hpn hpl hN=>?_⟩
 have hp5:=s5 _ _ hp4
 refine⟨_,rfl,p,_,_,_,rfl,rfl,N5.of hp5,p1,_,26,rfl,by decide,fun cn calls H6 ncn s6 hcn hcl hcN=>?_⟩
 have hp6:=s6 _ _ hp5
 have hpn6:=s6 _ _ hpn
 have s06:=(s4.trans s5).trans s6
 dsimp only[aO,List.set]
 refine⟨by decide,fun dl ndl=>?_⟩
 have ndl0:=s06.free ndl
 have hdl0:(upd H6 dl (.lst [])) dl=some (.lst []):=af
 have s67:=ag.upd (o:= .lst []) ndl
 generalize upd H6 dl (.lst [])=H7 at hdl0 s67
 refine⟨_,rfl,_,rfl,by omega,by omega,?_⟩
 rw[KW]
 refine bA (xs:=cj 0 fi) (fun i σ' H'=> ∃(us:List V) (ds:List bZ) (v11:Option V),σ'=[some (.ref sa),some (.int (most:Nat)),some (.ref p),some (.int block),some (.int small),some (.int (fi:Nat)),some (.int (ma:Nat)),some (.int ki),some (.ref pn),some (.ref cn),some (.ref dl),v11,none,none]/\ag H6 H'/\H' dl=some (.lst us)/\F2 (nM H H') us ds/\ds.length=i) ⟨[],[],none,rfl,s67,hdl0,.nil,rfl⟩ (fun i σ' H' _ _=>cK) ?_ ?_
 .rintro i x σ' H' D1 nx1 - hi ⟨us,ds,v11,rfl,sm,hd,hF,hl⟩
  obtain⟨hin,rfl⟩:=bW hi
  have fl:us.length=i:=by rw[hF.length,hl]
  have e0:=L5 (0+(i:Nat)+MA.g ws 2 / 136 % 14) (show ((fi:Nat):Int)≠0 by omega)
  have e1:=LY (0+(i:Nat)+MA.g ws 2 / 136 % 14) (show (0:Int) < ((fi:Nat):Int) by omega)
  obtain⟨y,hy,ny⟩:=mJ e0 (by omega) hN
  refine⟨_,rfl,.inl ⟨rfl,_,N5.of hd⟩,_,rfl,_,rfl,_,rfl,p,_,_,_,rfl,rfl,N5.of (sm _ _ hp6),p2,_,_,rfl,rfl,⟨by decide,by decide⟩,_,_,rfl,rfl,(by show (0:Int) < 14; decide),_,_,rfl,rfl,_,rfl,_,_,rfl,rfl,(by omega),pn,_,_,_,rfl,rfl,N5.of (sm _ _ hpn6),hy,(by show 2<=sizeLine; decide),fun t nt=>?_⟩
  have st:=ag.upd (o:= .tup [.str "member",.str y]) nt
  have ht:(upd H' t (.tup [.str "member",.str y])) t=some (.tup (iM (.member y))):=af
  generalize upd H' t (.tup [.str "member",.str y])=H8 at st ht
  refine⟨dl,_,_,rfl,rfl,st _ _ hd,aJ (by omega),?_⟩
  have kt: ∀t o,H8 t=some (.tup o)->(upd H8 dl (.lst (us++[.ref t]))) t=some (.tup o):=fun t o e=>(ai (eV e (st _ _ hd) (by intro z; cases z))).trans e
  have kt2: ∀b o,H8 b=some (.tup o)->(upd H8 dl (.lst (us++[.ref t]))) b=some (.tup o):=fun b o e=>(ai (eV e (st _ _ hd) (by intro z; cases z))).trans e
  refine nx1 _ _ ⟨_,ds++[.member y],_,rfl,(sm.trans st).dA ndl,af,F2.append (hF.imp fun v d z=>nM.same kt2 (nM.same (fun t o e=>st _ _ e) z)) (.cons (show nM H _ (V.ref t) (.member y) from ⟨t,rfl,s06.free (sm.free nt),kt2 _ _ ht,ny⟩) .nil),by rw[KC,hl]; rfl⟩
 rintro σ' H8 ⟨PD,ds0,v11,rfl,s8,hd8,hF8,hl8⟩
 rw[cR] at hl8
 refine⟨_,rfl,_,rfl,by omega,by omega,?_⟩
 rw[KW]
 refine bA (xs:=cj 0 ma) (fun i σ' H'=> ∃(us:List V) (ds:List bZ) (v11 v12 v13:Option V),σ'=[some (.ref sa),some (.int (most:Nat)),some (.ref p),some (.int block),some (.int small),some (.int (fi:Nat)),some (.int (ma:Nat)),some (.int ki),some (.ref pn),some (.ref cn),some (.ref dl),v11,v12,v13]/\ag H6 H'/\H' dl=some (.lst us)/\F2 (nM H H') us ds/\ds.length=fi+i) ⟨PD,ds0,v11,none,none,rfl,s8,hd8,hF8,hl8⟩ (fun i σ' H' _ _=>cK) ?_ ?_
 .rintro i x σ' H' D1 nx1 - hi ⟨us,ds,v11,v12,v13,rfl,sm,hd,hF,hl⟩
  obtain⟨hin,rfl⟩:=bW hi
  have fl:us.length=fi+i:=by rw[hF.length,hl]
  have hpS:=N5.of (K:=K) (sm _ _ hp6)
  have pi:=fj (ws:=ws) (i:=3+(0+(i:Nat))) (by omega) (by omega)
  have wn:0<=MA.g ws (3+(0+(i:Nat))):=by
   have hlt:(3+(0+(i:Nat)):Int).toNat < ws.length:=by omega
   unfold MA.g
   rw[KA,Kr hlt]
   exact h0 _ (Mc hlt)
  refine⟨_,rfl,_,rfl,_,_,rfl,rfl,p,_,_,_,rfl,rfl,hpS,pi,_,_,rfl,rfl,⟨by decide,by decide⟩,?_⟩
  refine⟨_,rfl,_,rfl,_,_,rfl,rfl,⟨by decide,by decide,by decide⟩,_,_,rfl,rfl,⟨by decide,by decide⟩,(by show 2<=sizeLine; decide),fun u nu=>?_⟩
  obtain⟨spot,es⟩:=Jm (x:=0+(i:Nat)) (y:=MA.g ws (3+(0+(i:Nat))) / 4 / 10 ^ 15) (b:=decide (V.int (MA.g ws (3+(0+(i:Nat))) % 4)=V.int 0))
  refine⟨_,rfl,_,rfl,_,_,rfl,rfl,p,_,_,_,rfl,rfl,(ag.upd nu).seq hpS,pi,_,_,rfl,rfl,(by show (0:Int) < 4; decide),rfl,.inr ⟨_,rfl,u,_,_,_,rfl,rfl,N5.of af,es,?_⟩⟩
  have wn4:0<=MA.g ws (3+(0+(i:Nat))) / 4:=N0 wn (by decide)
  have su:ag H' (upd H' u (.lst [.int (0+(i:Nat)),.int (MA.g ws (3+(0+(i:Nat))) / 4 / 10 ^ Int.toNat 15)])):=ag.upd nu
  dsimp only[aO,List.set]
  generalize upd H' u (.lst [.int (0+(i:Nat)),.int (MA.g ws (3+(0+(i:Nat))) / 4 / 10 ^ Int.toNat 15)])=H9 at su
  have s69:=sm.trans su
  obtain⟨yc,hyc,nc⟩:=mJ (ys:=calls) (i:=spot % 26) (by omega) (by omega) hcN
  refine⟨_,rfl,.inl ⟨rfl,_,N5.of (su _ _ hd)⟩,_,rfl,_,rfl,_,rfl,_,rfl,_,_,rfl,rfl,(by show (0:Int) < 26; decide),cn,_,_,_,rfl,rfl,N5.of (s69 _ _ hcn),hyc,_,rfl,_,rfl,_,rfl,?_⟩
  refine⟨_,pn,pool,yc,block,small,ki,rfl,wn4,s69 _ _ hpn6,by omega,hN,nc,b0,b4,hsm,by rcases hki with z | z <;> omega,by rcases hki with z | z <;> omega,fun t d H10 s10 nt ht ok=>?_⟩
  have hd10:=s10 _ _ (su _ _ hd)
  refine⟨dl,_,_,rfl,rfl,hd10,aJ (by omega),?_⟩
  have kt2: ∀b o,H10 b=some (.tup o)->(upd H10 dl (.lst (us++[.ref t]))) b=some (.tup o):=fun b o e=>(ai (eV e hd10 (by intro z; cases z))).trans e
  refine nx1 _ _ ⟨_,ds++[d],_,_,_,rfl,(s69.trans s10).dA ndl,af,F2.append (hF.imp fun v d z=>nM.same kt2 (nM.same (fun t o e=>(su.trans s10) _ _ e) z)) (.cons ⟨t,rfl,s06.free (s69.free nt),kt2 _ _ ht,ok⟩ .nil),by rw[KC,hl]; rfl⟩
 .rintro σ' H' ⟨us,ds,v11,v12,v13,rfl,sm,hd,hF,hl⟩
  rw[cR] at hl
  exact⟨_,rfl,q dl us ds H' ndl0 (s06.trans sm) hd hF (by omega)⟩
theorem qj (T:Txt K mg a):Oj P w K mg base 1 "is_link" ["rule"] (zN K):=by
 refine b9 T.qW Ak fun f c A o s H vs Q E hr h=>?_
 obtain⟨v,q,rfl,⟨p,rfl,hp⟩,k⟩:=h
 refine⟨_,(ah (av (e8 eU (N8 K (pv 0) aa) (j9 T.ly)))),?_⟩
 refine⟨_,rfl,p,_,_,_,rfl,rfl,hp,rfl,rfl,?_⟩
 rw[show decide (V.int q.2.1=V.int (-1))=decide (q.2.1= -1) from by simp]
 exact k
theorem xy (T:Txt K mg a):Oj P w K mg base 2 "asked_width" ["rule","widths"] (DI K):=by
 refine b9 T.lQ uY fun f c A o s H vs Q E hr h=>?_
 obtain⟨v,q,w,ws,rfl,⟨p,rfl,hp⟩,hw,hk,k⟩:=h
 refine⟨_,(ae (aF (bQ K (aE (qj T) hr.mm (N6 (pv 0)))) (ah (av (ax bH (Od K (pv 1) (N8 K (pv 0) aa)) (N8 K (pv 0) aa)))) aw) (ah (av (N8 K (pv 0) aa)))),?_⟩
 refine⟨_,rfl,_,q,rfl,⟨p,rfl,hp⟩,_,rfl,?_⟩
 unfold MA.ask at k
 refine bD (fun c=>?_) (fun c=>?_)
 .have c: ¬q.2.1= -1:=by simpa using c
  rw[Kp c] at k
  obtain⟨_,_,h3,h4,_⟩:=hk
  exact⟨_,rfl,_,rfl,p,_,_,_,rfl,rfl,hp,rfl,w,_,_,_,rfl,rfl,hw,fj (by omega) h4,_,rfl,p,_,_,_,rfl,rfl,hp,rfl,_,_,rfl,rfl,k⟩
 .have c:q.2.1= -1:=by simpa using c
  rw[Ks c] at k
  exact⟨_,rfl,p,_,_,_,rfl,rfl,hp,rfl,k⟩
theorem Aw {rs:List MA.au}{ws:List Int}{i:Nat}{q:MA.au}(h:rs[i]?=some q):bJ (rs.take (i+1)) ws=dX (bJ (rs.take i) ws) q:=by
 unfold bJ
 rw[La,h,LQ]
 rfl
theorem AG (T:Txt K mg a):Oj P w K mg base 3 "widened" ["rules","widths"] (Aq K):=by
 refine b9 T.rT p8 fun f c A o s H vs Q E hr h=>?_
 obtain⟨r,rs,w,ws,rfl,⟨xs,hx,hX⟩,hw,hk,k⟩:=h
 refine⟨_,(ae (Oa 2 p8.nd (dz (show cX _ _ (oU K) from iI) (by rfl) T.iA boot_list (N6 (pv 1)))) (ae (de (dB K (pv 0)) (gn 3 p8.nd) (ah (gF (bc (jg rfl) (by rfl) T.kR boot_max (ao (Od K (pv 2) (N8 K (pv 3) aa)) (N6 (aE (xy T) hr.mm (ao (pv 3) (N6 (pv 2))))))) (lu (pv 2) (N8 K (pv 3) aa) set_list)))) (ah (av (pv 2))))),?_⟩
 refine⟨_,rfl,w,_,rfl,.inl hw,fun l hl=>?_⟩
 refine⟨_,rfl,r,rfl,⟨_,(ag.upd hl).seq hx⟩,?_⟩
 refine fk (xs:=xs) (fun i σ' H'=> ∃v,σ'=[some (.ref r),some (.ref w),some (.ref l),v]/\ag H H'/\H' l=some (.lst ((bJ (rs.take i) ws).map V.int))) ⟨none,rfl,ag.upd hl,af⟩ (fun i σ' H' _ ⟨_,_,sm,_⟩=>bo (sm.seq hx)) ?_ ?_
 .rintro i x σ' H' hi ⟨v,rfl,sm,hl'⟩
  obtain⟨q,hq,p,rfl,hp⟩:=hX.get hi
  have kq:Oh ws.length q:=hk q (Kw hq)
  have hlen:(bJ (rs.take i) ws).length=ws.length:=MA.fQ _ _
  have hp':=sm.iX hp
  refine⟨_,rfl,_,rfl,p,_,_,_,rfl,rfl,hp',rfl,l,_,_,_,rfl,rfl,N5.of hl',fj kq.1 (by rw[hlen]; exact kq.2.1),?_⟩
  refine⟨_,rfl,_,rfl,_,q,l,_,rfl,⟨p,rfl,hp'⟩,N5.of hl',by rw[hlen]; exact kq,?_⟩
  refine⟨_,_,rfl,_,rfl,_,rfl,p,_,_,_,rfl,rfl,hp',rfl,l,_,_,_,rfl,rfl,hl',by rw[Kq,hlen]; exact lg kq.1 kq.2.1,?_⟩
  refine⟨some (.ref p),rfl,sm.dA hl,?_⟩
  rw[af,Aw hq,<-Nk]
  rfl
 .rintro σ' H' ⟨v,rfl,sm,hl'⟩
  rw[hX.length,K6] at hl'
  exact⟨_,rfl,k l H' hl sm hl'⟩
theorem iR (T:Txt K mg a):Oj P w K mg base 4 "least_widths" ["count","rules"] (DY K):=by
 refine b9 T.kJ fh fun f c A o s H vs Q E hr h=>?_
 obtain⟨n,r,rs,rfl,hn,hR,hk,k1,k2⟩:=h
 refine⟨_,(ae (Oa 2 fh.nd (ax rC (bh (N6 aa)) (pv 0))) (ae (de (gB T.cF (ax bH (pv 0) aa)) (gn 3 fh.nd) (ae (Oa 4 fh.nd (aE (AG T) hr.mm (ao (pv 1) (N6 (pv 2))))) (ae (aF (aG (show Ol _ _ (Gs K) from GV (cf hr)) (pv 4) (pv 2)) (ah (av (pv 2))) aw) (ah (Oa 2 fh.nd (pv 4)))))) (ah (av bu)))),?_⟩
 refine⟨(by show 1<=sizeLine; decide),fun l0 n0=>?_⟩
 refine⟨_,rfl,l0,_,_,rfl,rfl,af,by omega,by omega,by show 1*(n:Int).toNat<=sizeLine; rw[KW,Nat.one_mul]; exact KR hn (by decide),fun l nl=>?_⟩
 refine⟨_,rfl,_,_,rfl,rfl,_,rfl,by omega,by omega,?_⟩
 have e1:((n:Int)+1).toNat=n+1:=by omega
 rw[e1]
 refine fk (xs:=cj 0 (n+1)) (fun i σ' H'=> ∃p ws v3 v4,σ'=[some (.int n),some (.ref r),some (.ref p),v3,v4]/\H p=none/\ag H H'/\H' p=some (.lst (ws.map V.int))/\ws.length=n/\bg n rs=loop rs (n+1 - i) ws) ?_ (fun i σ' H' _ _=>cK) ?_ ?_
 .refine⟨l,List.replicate n 0,none,none,rfl,(ag.upd n0).free nl,(ag.upd n0).trans (ag.upd nl),?_,by simp,rfl⟩
  rw[af,KW]
  simp
 .rintro i x σ' H' hi ⟨p,ws,v3,v4,rfl,np,sm,hp,hl,e⟩
  obtain⟨hi,rfl⟩:=bW hi
  rw[show n+1 - i=(n - i)+1 by omega] at e
  unfold loop at e
  refine⟨_,rfl,_,rfl,r,rs,p,ws,rfl,hR.same sm,N5.of hp,by rw[hl]; exact hk,fun p2 H2 np2 sm2 hp2=>?_⟩
  refine⟨_,rfl,_,rfl,p2,p,_,ws,rfl,rfl,N5.of hp2,N5.of (sm2 _ _ hp),_,rfl,?_⟩
  refine bD (fun c=>?_) (fun c=>?_)
  .rw[Ks (KY c)] at e
   exact⟨_,rfl,k2 p ws H2 np (sm.trans sm2) e (sm2 _ _ hp)⟩
  .rw[Kp (Lh (K8 _▸c))] at e
   refine⟨_,rfl,p2,bJ rs ws,_,_,rfl,sm.free np2,sm.trans sm2,hp2,(MA.fQ _ _).trans hl,?_⟩
   rw[show n+1 - (i+1)=n - i by omega]
   exact e
 .rintro σ' H' ⟨p,ws,v3,v4,rfl,np,sm,hp,hl,e⟩
  rw[cR,Nat.sub_self] at e
  exact k1 H' sm e
def xg (rs:List MA.au) (s g:Int):Prop:= ∃S:Int->Prop,S s/\ ¬S g/\ ∀r∈rs,0<=r.2.1->S r.2.1->S r.1
def yr (K:N7):Sp:=fun vs H Q _=> ∃(r:Addr) (rs:List MA.au) (n:Nat) (s g:Int),vs=[.ref r,.int s,.int g]/\OU K H r rs/\(∀q∈rs,Oh n q)/\n<=100/\0<=s/\s < n /\
 (∀H',ag H H'->xg rs s g->Q .non H')/\(∀(H':Hp) (a:Addr) (ps:List Nat),ag H H'->H' a=some (.lst (aQ ps))->ps.length<=100->MA.Path rs s g ps->(s::MA.OD rs ps).Nodup->Q (.ref a) H')
theorem yu (T:Txt K mg a):Oj P w K mg base 1 "find_way" ["rules","start","goal"] (yr K):=by
 refine lb T.qg gi (fun _ _ _ _ _ _=>Po fun _ _ _=>rfl) (fun vs H Q E h=>?_) fun f cdv A outer s0 H vs Q E hr h=>?_
 .obtain⟨r,rs,n,s,g,rfl,_⟩:=h
  rfl
 .obtain⟨r,rs,n,s,g,rfl,⟨xs,hx,hX⟩,hk,hn,hs0,hs1,k1,k2⟩:=h
  refine⟨_,(ae (Oa 3 gi.nd (zB (xw (pv 1) (bh dD) zw) rfl rfl (by intro z; cases z) (by decide))) (ae (Oa 4 gi.nd (bh (N6 (pv 1)))) (ae (tU Nj (PW.pt (eP (bQ K (pv 4)) (eI (mP (rK (cf hr) (pv 2) (pv 3)) (by with_unfolding_all rfl))))) (ae (Oa 5 gi.nd (show PE _ _ (O3 K _ _ _ _) from jP Lj MP MQ xr (pv 4) (N6 aa))) (ah (de (oY rfl T.fv (N6 (pv 0))) (fG rfl (aR (gn 6 gi.nd) (aR (gn 7 gi.nd) eG))) (ah (aF (PW.pt (eP (aG aZ (N8 K (pv 7) aa) (pv 5)) (eI (mP (rK (cf hr) (N8 K (pv 7) aa) (pv 3)) (by with_unfolding_all rfl))))) (ae (sJ (cf hr) (pv 3) (N8 K (pv 7) aa) (ax gh (jj (cf hr) (pv 3) (pv 5) (fun _ _=>rfl)) (bh (N6 (pv 6)))) rfl) (ah (aP (jX K (pv 4) (N8 K (pv 7) aa))))) aw)))))) (ah (av (xK (cf hr) (pv 3) (pv 2) (by constructor <;> first | rfl | (intros; rfl)))))))),?_⟩
  refine fun d nd=>⟨_,rfl,by decide,fun l0 nl0=>⟨(ai (az af nl0)).trans af,[(Sum.inl s,.ref l0)],rfl,by show 1<=15; decide,?_⟩⟩
  refine⟨_,rfl,(by show 1<=sizeLine; decide),fun q nq=>?_⟩
  have em:nH [] [(Sum.inl s,V.ref l0)]=[((Sum.inl s:Key),V.ref l0)]:=rfl
  rw[em] at nq ⊢
  have nq1:q≠d:=fun z=>by rw[z,af] at nq; cases nq
  have nq2:(upd (upd H d (.dK [])) l0 (.lst [])) q=none:=by rw[ai nq1] at nq; exact nq
  have ld:l0≠d:=fun z=>by rw[z,af] at nl0; cases nl0
  have nl1:H l0=none:=by rw[ai ld] at nl0; exact nl0
  have ql:q≠l0:=fun z=>by rw[z,af] at nq2; cases nq2
  have nq0:H q=none:=by rw[ai ql,ai nq1] at nq2; exact nq2
  have v1: ∀j:Int,aM [((Sum.inl s:Key),V.ref l0)] (Sum.inl j)=if j=s then some (.ref l0) else none:=fun j=>by
   by_cases e:j=s
   .rw[Ks e,e]; exact cU rfl
   .rw[Kp e,cI (fun z=>e (MX z).symm)]; rfl
  have h1: ∀j:Int,has [((Sum.inl s:Key),V.ref l0)] j↔j=s:=fun j=>by
   unfold has
   rw[v1]
   by_cases e:j=s <;> simp[e]
  have b0:Bf H (upd (upd (upd (upd H d (.dK [])) l0 (.lst [])) d (.dK [((Sum.inl s:Key),V.ref l0)])) q (.lst [.int s])) n rs s d q [((Sum.inl s:Key),V.ref l0)] [s] (fun _=>False):=by
   refine⟨(ai (K2 nq1)).trans af,af,?_,nd,nq0,fun j hj=>?_,fun j v hj=>?_,(h1 s).mpr rfl,fun m hm=>(h1 m).mpr (Kt.mp hm),fun j hj hw=>absurd (Kt.mpr ((h1 j).mp hj)) hw,?_⟩
   .exact ((((ag.upd nd).trans (ag.upd nl0)).dA nd).dA nq0)
   .rw[(h1 j).mp hj]; exact⟨hs0,hs1⟩
   .rw[v1] at hj
    by_cases e:j=s
    .rw[Ks e] at hj
     cases hj
     rw[e]
     refine⟨l0,[],rfl,?_,K2 ql,.nil,Ls.mpr ⟨Ll,MO⟩,fun x hx=>(h1 x).mpr (Kt.mp hx),Ku _⟩
     rw[ai (K2 ql),ai ld,af]
     rfl
    .rw[Kp e] at hj; cases hj
   .have:=mM (n:=n) (kvs:=[]) (k:=s) (v:=V.ref l0) hs0 hs1 (by unfold has; simp[Dz])
    have e:putK ([]:Oo) (Sum.inl s) (V.ref l0)=[((Sum.inl s:Key),V.ref l0)]:=rfl
    rw[e] at this
    have t:lJ n []<=n:=by
     have:=MA.uJ (List.range n) (fun i=>if (aM ([]:Oo) (Sum.inl ((i:Nat):Int))).isSome then 0 else 1) (fun _=>1) fun i _=>by show (if _ then 0 else 1)<=1; split <;> omega
     rw[MA.ones] at this
     exact this
    show 1+_<=n
    omega
  dsimp only[aO,L2.start,List.set]
  generalize upd (upd (upd (upd H d (.dK [])) l0 (.lst [])) d (.dK [((Sum.inl s:Key),V.ref l0)])) q (.lst [.int s])=H1 at b0
  refine⟨fun m σ' H'=> ∃(kvs:Oo) (ws:List Int) (v5 v6 v7:Option V),σ'=[some (.ref r),some (.int s),some (.int g),some (.ref d),some (.ref q),v5,v6,v7]/\Bf H H' n rs s d q kvs ws (fun _=>False)/\ws.length+lJ n kvs<=m/\m<=100,⟨_,_,_,none,none,none,rfl,b0,Ku _,KR b0.cn hn⟩,?_⟩
  rintro m σ' H' ⟨kvs,ws,v5,v6,v7,rfl,b,hm,hm100⟩
  have fin:(ws=[]\/has kvs g)->(GJ (Bp (rD 3) (rD 2))) { nx:=fun _ H'=>Q .non H',rt:=Q } [some (.ref r),some (.int s),some (.int g),some (.ref d),some (.ref q),v5,v6,v7] H':=fun hend=>by
   refine⟨_,rfl,d,rfl,.inl ⟨kvs,.inl b.hd⟩,_,rfl,_,cJ.k (k:=Sum.inl g) b.hd,?_⟩
   cases hv:aM kvs (Sum.inl g) with
   | some v =>
    obtain⟨a,ps,rfl,ha,_,hp,OF,_,hl⟩:=b.val g v hv
    have:=b.cn
    exact k2 H' a ps b.sm ha (by omega) hp OF
   | none =>
    have hg: ¬has kvs g:=by unfold has; rw[hv]; simp
    have hw:ws=[]:=hend.resolve_right hg
    exact k1 H' b.sm ⟨has kvs,b.st,hg,fun rl hrl _ h=>b.cl _ h (by rw[hw]; exact Ll) (fun z=>z) rl hrl rfl⟩
  refine⟨_,rfl,_,.inl ⟨_,N5.of b.hq,rfl⟩,?_⟩
  cases ws with
  | nil=>exact aD (aD (fin (.inl rfl)))
  | cons mb ws =>
  refine aU ⟨_,rfl,_,rfl,d,_,rfl,cJ.k (k:=Sum.inl g) b.hd,_,rfl,?_⟩
  cases hv:aM kvs (Sum.inl g) with
  | some v=>exact aD (fin (.inr (by unfold has; rw[hv]; rfl)))
  | none =>
  refine aU ?_
  clear hv fin
  have hmb:has kvs mb:=b.wk mb (KG)
  have bp:=b.pop fun _ z=>z
  refine uu fun D1 nxW=>?_
  refine⟨_,rfl,.inl ⟨rfl,_,N5.of b.hq⟩,q,_,_,0,.int mb,rfl,rfl,b.hq,by decide,by decide,by unfold seqIndex?; simp,rfl,?_⟩
  have hm':ws.length+lJ n kvs < m:=by
   have:(mb::ws).length=ws.length+1:=rfl
   omega
  have ee:((mb::ws).map V.int).eraseIdx 0=ws.map V.int:=rfl
  rw[ee]
  clear ee
  dsimp only[aO,List.set]
  generalize upd H' q (.lst (ws.map V.int))=H2 at bp
  clear b hm
  refine⟨_,rfl,r,rfl,⟨_,bp.sm.seq hx⟩,?_⟩
  refine ud (xs:=xs) (fun i σ' H'=> ∃(kvs:Oo) (ws:List Int) (v6 v7:Option V),σ'=[some (.ref r),some (.int s),some (.int g),some (.ref d),some (.ref q),some (.int mb),v6,v7]/\Bf H H' n rs s d q kvs ws (fun k=>k=mb)/\has kvs mb/\ws.length+lJ n kvs < m/\ ∀(j:Nat) (rl:MA.au),j < i->rs[j]?=some rl->rl.2.1=mb->has kvs rl.1) ⟨kvs,ws,v6,v7,rfl,bp,hmb,hm',fun j _ hj=>absurd hj (Lw _)⟩ (fun i σ' H' _ ⟨_,_,_,_,_,bb,_⟩=>bb.sm.seq hx) ?_ ?_
  .clear bp hmb hm' kvs ws
   rintro i x σ' H' t hi ⟨kvs,ws,v6,v7,rfl,b,hmb,hm',hdn⟩ nt
   obtain⟨rl,hq,ta,rfl,hta⟩:=hX.get hi
   obtain⟨o1,o2,o3,o4,o5⟩:=hk rl (Kw hq)
   have b1:=b.grow (ag.upd (o:= .tup [.int (i:Nat),.ref ta]) nt)
   refine⟨t,_,rfl,N9.of af,rfl,_,_,rfl,_,_,rfl,rfl,?_⟩
   have hta1:=b1.sm.iX hta
   generalize upd H' t (.tup [.int (i:Nat),.ref ta])=H1' at b1 hta1
   clear b nt
   have skip:(rl.2.1=mb->has kvs rl.1)-> ∀(j:Nat) (r':MA.au),j < i+1->rs[j]?=some r'->r'.2.1=mb->has kvs r'.1:=fun hh j r' hj hr' hb'=>by
    by_cases e:j=i
    .subst e
     rw[hq] at hr'
     cases hr'
     exact hh hb'
    .exact hdn j r' (by omega) hr' hb'
   refine⟨_,rfl,ta,_,_,_,rfl,rfl,hta1,rfl,_,rfl,rfl,_,rfl,?_⟩
   refine bD (fun c=>?_) (fun c=>?_)
   rotate_left
   .have c: ¬rl.2.1=mb:=by simpa using c
    exact aD ⟨kvs,ws,_,_,rfl,b1,hmb,hm',skip fun z=>absurd z c⟩
   have c:rl.2.1=mb:=by simpa using c
   refine⟨_,rfl,ta,_,_,_,rfl,rfl,hta1,rfl,_,rfl,d,_,rfl,cJ.k (k:=Sum.inl rl.1) b1.hd,_,rfl,?_⟩
   by_cases hh:has kvs rl.1
   .rw[show (!(aM kvs (Sum.inl rl.1)).isSome)=false from by rw[show (aM kvs (Sum.inl rl.1)).isSome=true from hh]; rfl]
    exact aD ⟨kvs,ws,_,_,rfl,b1,hmb,hm',skip fun _=>hh⟩
   .rw[show (!(aM kvs (Sum.inl rl.1)).isSome)=true from by rw[show (aM kvs (Sum.inl rl.1)).isSome=false from by simpa [has] using hh]; rfl]
    refine aU ?_
    obtain⟨vm,hvm⟩:=L3.mp (show (aM kvs (Sum.inl mb)).isSome=true from hmb)
    obtain⟨a,ps,rfl,ha,naq,hp,OF,hall,hl⟩:=b1.val mb vm hvm
    have hcn:=b1.cn
    refine⟨_,rfl,_,rfl,d,.ref a,rfl,hvm▸cJ.k (k:=Sum.inl mb) b1.hd,_,rfl,(by show 1<=sizeLine; decide),fun l1 nl1=>?_⟩
    have b2:=b1.grow (ag.upd (o:= .lst [.int (i:Nat)]) nl1)
    have ha2:=ag.upd (o:= .lst [.int (i:Nat)]) nl1 _ _ ha
    refine⟨a,l1,aQ ps,[.int (i:Nat)],rfl,rfl,ha2,af,?_,fun p np=>?_⟩
    .rw[show (aQ ps).length=ps.length from Kq ..]
     show ps.length+1<=sizeLine
     exact K7 (aJ (by omega))
    have b3:=b2.grow (ag.upd (o:= .lst (aQ ps++[.int (i:Nat)])) np)
    have ha3:=ag.upd (o:= .lst (aQ ps++[.int (i:Nat)])) np _ _ ha2
    have hta3:=(((ag.upd (o:= .lst [.int (i:Nat)]) nl1).trans (ag.upd (o:= .lst (aQ ps++[.int (i:Nat)])) np)).iX hta1)
    have hpp:(upd (upd H1' l1 (.lst [.int (i:Nat)])) p (.lst (aQ ps++[.int (i:Nat)]))) p=some (.lst (aQ (ps++[i]))):=by rw[af,De]; rfl
    have npq:p≠q:=fun z=>by
     have:=b2.hq
     rw[z] at np
     rw[np] at this
     cases this
    generalize upd (upd H1' l1 (.lst [.int (i:Nat)])) p (.lst (aQ ps++[.int (i:Nat)]))=H3 at b3 ha3 hta3 hpp
    have br:=b3.reach hvm ha3 hp OF hall hl hq c o1 o2 hh hpp npq
    have cp:=mM (n:=n) (v:=V.ref p) o1 o2 hh
    refine⟨_,rfl,_,rfl,ta,_,_,_,rfl,rfl,hta3,rfl,d,_,rfl,pY.k (k:=Sum.inl rl.1) b3.hd (aJ (by omega)),?_⟩
    have hq4:(upd H3 d (.dK (putK kvs (Sum.inl rl.1) (.ref p)))) q=some (.lst (ws.map V.int)):=(ai (K2 b3.ne)).trans b3.hq
    have hta4:N9 K (upd H3 d (.dK (putK kvs (Sum.inl rl.1) (.ref p)))) ta [.int rl.1,.int rl.2.1,.int rl.2.2]:=by
     have hd3:=b3.hd
     have ne: ∀u,H3 ta=some u->(∀kv,u≠ .dK kv)->ta≠d:=fun u hu hn e=>by
      rw[e,hd3] at hu
      exact hn _ (KS hu).symm
     rcases hta3 with (h | ⟨o',h⟩) | h
     .exact .inl (.inl ((ai (ne _ h fun kv z=>by cases z)).trans h))
     .exact .inl (.inr ⟨o',(ai (ne _ h fun kv z=>by cases z)).trans h⟩)
     .exact .inr h
    have hws:ws.length<=1000:=by omega
    refine⟨_,rfl,.inl ⟨rfl,_,N5.of hq4⟩,_,rfl,ta,_,_,_,rfl,rfl,hta4,rfl,q,_,_,rfl,rfl,hq4,by rw[Kq]; exact aJ hws,?_⟩
    refine⟨putK kvs (Sum.inl rl.1) (.ref p),ws++[rl.1],_,_,rfl,?_,cB.mpr (.inr hmb),?_,?_⟩
    .rw[KO] at br
     exact br
    .rw[KC]
     show ws.length+1+_ < m
     omega
    .intro j r' hj hr' hb'
     by_cases e:j=i
     .subst e
      rw[hq] at hr'
      cases hr'
      exact cB.mpr (.inl rfl)
     .exact cB.mpr (.inr (hdn j r' (by omega) hr' hb'))
  .rintro σ' H' ⟨kvs,ws,v6,v7,rfl,b,hmb,hm',hdn⟩
   refine nxW _ _ _ hm' ⟨kvs,ws,_,_,_,rfl,⟨b.hd,b.hq,b.sm,b.fd,b.fq,b.OQ,b.val,b.st,b.wk,fun j h1 h2 _ rl hrl hb=>?_,b.cn⟩,Ku _,by omega⟩
   by_cases e:j=mb
   .obtain⟨i,hi,rfl⟩:=LL.mp hrl
    exact hdn i _ (by rw[hX.length]; exact hi) (Kr hi) (hb.trans e)
   .exact b.cl j h1 h2 e rl hrl hb
def xX (K:N7):Sp:=fun vs H Q _=> ∃(r:Addr) (rs:List MA.au) (n:Nat),vs=[.int n,.ref r]/\OU K H r rs/\rs.length<=1000/\(∀q∈rs,Oh n q)/\n<=100 /\
 (∀(H':Hp) (a:Addr),ag H H'->H' a=some (.lst [])->(∀q∈rs,q.2.1≠ -1->0 < q.2.2->xg rs q.1 q.2.1)->Q (.ref a) H')/\(∀(H':Hp) (a:Addr) (way:List Nat),ag H H'->H' a=some (.lst (aQ way))->way.length<=200->sH rs way->Q (.ref a) H')
theorem yk (T:Txt K mg a):Oj P w K mg base 2 "find_ring" ["count","rules"] (xX K):=by
 refine lb T.ot jC (fun _ _ _ _ _ _=>PV fun _ _=>rfl) (fun vs H Q E h=>?_) fun f cdv A outer s0 H vs Q E hr h=>?_
 .obtain⟨r,rs,n,rfl,_⟩:=h
  rfl
 .obtain⟨r,rs,n,rfl,⟨xs,hx,hX⟩,hrl,hk,hn,k1,k2⟩:=h
  refine⟨_,(ae (de (oY rfl T.fv (N6 (pv 1))) (fG rfl (aR (gn 2 jC.nd) (aR (gn 3 jC.nd) eG))) (ah (aF (PW.pt (eP (bQ K (aE (qj T) hr.mm (N6 (pv 3)))) (eI (aG sq (N8 K (pv 3) aa) aa)))) (ae (Oa 4 jC.nd (aE (yu T) hr.mm (ao (pv 1) (ao (N8 K (pv 3) aa) (N6 (N8 K (pv 3) aa)))))) (ah (aF (aG fN (pv 4) bu) (ah (av (ax gh (bh (N6 (pv 2))) (pv 4)))) aw))) aw))) (ah (av (bh dD)))),?_⟩
  refine⟨_,rfl,r,rfl,⟨_,hx⟩,?_⟩
  refine ud (xs:=xs) (fun i σ' H'=> ∃v2 v3 v4:Option V,σ'=[some (.int n),some (.ref r),v2,v3,v4]/\ag H H'/\ ∀(j:Nat) (q:MA.au),j < i->rs[j]?=some q->q.2.1≠ -1->0 < q.2.2->xg rs q.1 q.2.1) ⟨none,none,none,rfl,ag.refl H,fun j _ hj=>absurd hj (Lw _)⟩ (fun i σ' H' _ ⟨_,_,_,_,sm,_⟩=>sm.seq hx) ?_ ?_
  .rintro i x σ' H' t hi ⟨v2,v3,v4,rfl,sm,hdn⟩ nt
   obtain⟨q,hq,ta,rfl,hta⟩:=hX.get hi
   obtain⟨o1,o2,o3,o4,o5⟩:=hk q (Kw hq)
   have s1:=sm.trans (ag.upd (o:= .tup [.int (i:Nat),.ref ta]) nt)
   refine⟨t,_,rfl,N9.of af,rfl,_,_,rfl,_,_,rfl,rfl,?_⟩
   generalize upd H' t (.tup [.int (i:Nat),.ref ta])=H1 at s1
   have hta1:=s1.iX hta
   have nxt: ∀H2,ag H H2->(q.2.1≠ -1->0 < q.2.2->xg rs q.1 q.2.1)-> ∀v4:Option V,∃v2' v3' v4':Option V,[some (.int n),some (.ref r),some (.int (i:Nat)),some (.ref ta),v4]=[some (V.int n),some (V.ref r),v2',v3',v4']/\ag H H2/\ ∀(j:Nat) (q:MA.au),j < i+1->rs[j]?=some q->q.2.1≠ -1->0 < q.2.2->xg rs q.1 q.2.1:=fun H2 s2 hh v4=>⟨_,_,_,rfl,s2,fun j q' hj hq'=>by
    by_cases e:j=i
    .subst e
     rw[hq] at hq'
     cases hq'
     exact hh
    .exact hdn j q' (by omega) hq'⟩
   refine⟨_,rfl,_,q,rfl,⟨ta,rfl,hta1⟩,_,rfl,?_⟩
   refine bD (fun c=>?_) (fun c=>?_)
   rotate_left
   .have c:q.2.1= -1:=by simpa using c
    exact aD (nxt H1 s1 (fun z=>absurd c z) v4)
   have c: ¬q.2.1= -1:=by simpa using c
   refine⟨_,rfl,ta,_,_,_,rfl,rfl,hta1,rfl,_,_,rfl,rfl,_,rfl,?_⟩
   refine bD (fun c2=>?_) (fun c2=>?_)
   rotate_left
   .have c2:=Lh (K8 _▸c2)
    exact nxt H1 s1 (fun _ z=>absurd z c2) v4
   have c2:=KY c2
   refine⟨_,rfl,_,rfl,ta,_,_,_,rfl,rfl,hta1,rfl,_,rfl,ta,_,_,_,rfl,rfl,hta1,rfl,?_⟩
   refine⟨r,rs,n,q.1,q.2.1,rfl,⟨xs,s1.seq hx,hX.same s1⟩,hk,hn,o1,o2,fun H2 s2 hsh=>?_,fun H2 a ps s2 ha hpl hp OF=>?_⟩
   .exact⟨_,rfl,rfl,_,rfl,aD (nxt H2 (s1.trans s2) (fun _ _=>hsh) _)⟩
   .refine⟨_,rfl,rfl,_,rfl,aU ⟨_,rfl,(by show 1<=sizeLine; decide),fun l1 nl1=>⟨_,rfl,l1,a,[.int (i:Nat)],aQ ps,rfl,rfl,af,(ai (az ha nl1)).trans ha,?_,fun p np=>?_⟩⟩⟩
    .rw[show (aQ ps).length=ps.length from Kq ..]
     show 1+ps.length<=sizeLine
     exact K7 (aJ (by omega))
    .exact k2 _ p (i::ps) (((s1.trans s2).trans (ag.upd nl1)).trans (ag.upd np)) af (by rw[K1]; omega) ⟨i,q,ps,rfl,hq,c,c2,hp,OF⟩
  .rintro σ' H' ⟨v2,v3,v4,rfl,sm,hdn⟩
   refine⟨by decide,fun p np=>k1 _ p (sm.trans (ag.upd np)) af fun q hq=>?_⟩
   obtain⟨j,hj,rfl⟩:=LL.mp hq
   exact hdn j _ (by rw[hX.length]; exact hj) (Kr hj)
open MA (nV dE)
def yt (K:N7):Sp:=fun vs H Q _=> ∃(n:Nat) (r:Addr) (rs:List MA.au) (L:List Int) (m:Int),vs=[.int n,.ref r,.int m]/\n<=12/\rs.length<=24/\OU K H r rs/\(∀q∈rs,Oh n q)/\bg n rs=some L/\0<=m/\m < n /\
 ∀(p:Addr) (ps:List Nat) (H':Hp),H p=none->ag H H'->H' p=some (.lst (aQ ps))->dE rs L m ps->Q (.ref p) H'
def Pb (L:List Int) (q:MA.au):Bool:= !decide (q.2.1= -1) && decide (MA.g L q.1=MA.g L q.2.1+q.2.2)
theorem sj {L:List Int}{q:MA.au}:Pb L q=true↔MA.Tl L q:=by
 unfold Pb MA.Tl
 simp
def Dt (K:N7):Sp:=fun vs H Q _=> ∃v q w ws,vs=[v,.ref w]/\js K H v q/\N5 K H w (ws.map V.int)/\Oh ws.length q/\Q (.bl (Pb ws q)) H
theorem sY (T:Txt K mg a):Oj P w K mg base 3 "hands_on" ["rule","widths"] (Dt K):=by
 refine b9 T.pN yB fun f c A o s H vs Q E hr h=>?_
 obtain⟨v,q,w,ws,rfl,⟨p,rfl,hp⟩,hw,hk,k⟩:=h
 obtain⟨k1,k2,k3,k4,k5⟩:=id hk
 refine⟨_,(ah (av (jy (oW (aE (qj T) hr.mm (N6 (pv 0))) (nI (e8 aZ (Od K (pv 1) (N8 K (pv 0) aa)) (aE (xy T) hr.mm (ao (pv 0) (N6 (pv 1)))))))))),?_⟩
 refine⟨fun v' H'=>v'= .bl (Pb ws q)/\H'=H,?_,fun v' H' z=>by rw[z.1,z.2]; exact k⟩
 refine⟨_,rfl,_,q,rfl,⟨p,rfl,hp⟩,_,rfl,?_⟩
 refine bD (fun c=>?_) (fun c=>?_)
 .have c: ¬q.2.1= -1:=by simpa using c
  refine⟨_,rfl,_,rfl,p,_,_,_,rfl,rfl,hp,rfl,w,_,_,_,rfl,rfl,hw,fj k1 k2,_,rfl,_,rfl,_,q,w,ws,rfl,⟨p,rfl,hp⟩,hw,hk,rfl,?_,rfl⟩
  unfold Pb MA.ask
  rw[Kp c]
  simp[c]
 .have c:q.2.1= -1:=by simpa using c
  refine⟨?_,rfl⟩
  unfold Pb
  simp[c]
def Cy (K:N7):Sp:=fun vs H Q _=> ∃(r w:Addr) (rs:List MA.au) (L:List Int) (m:Int),vs=[.ref r,.ref w,.int m]/\OU K H r rs/\N5 K H w (L.map V.int)/\(∀q∈rs,Oh L.length q)/\L.length<=100/\0<=m/\m < L.length /\
 ∀(d:Addr) (kvs:Oo) (H':Hp),H d=none->ag H H'->H' d=some (.dK kvs)->(∀k v,aM kvs (Sum.inl k)=some v-> ∃j:Nat,v=V.int (j:Nat))->MA.mw rs L m (nD kvs)->(∀k j,nD kvs k=some j->j<=L.length)->Q (.ref d) H'
theorem ur (T:Txt K mg a):Oj P w K mg base 4 "fewest_links" ["rules","widths","goal"] (Cy K):=by
 refine lb T.kc fo (fun _ _ _ _ _ _=>Po fun _ _ _=>rfl) (fun vs H Q E h=>?_) fun f cdv A outer s0 H vs Q E hr h=>?_
 .obtain⟨r,w,rs,L,m,rfl,_⟩:=h
  rfl
 .obtain⟨r,w,rs,L,s,rfl,⟨xs,hx,hX⟩,hw,hk,hn,hs0,hs1,k2⟩:=h
  refine⟨_,(ae (Oa 3 fo.nd (zB (xw (pv 2) aa zw) rfl rfl (by intro z; cases z) (by decide))) (ae (Oa 4 fo.nd (bh (N6 (pv 2)))) (ae (tU Nj (bQ K (pv 4)) (ae (Oa 5 fo.nd (show PE _ _ (O3 K _ _ _ _) from jP Lj MP MQ xr (pv 4) (N6 aa))) (ah (de (dB K (pv 0)) (gn 6 fo.nd) (ah (aF (PW.pt (eP (aG aZ (N8 K (pv 6) aa) (pv 5)) (eP (mP (rK (cf hr) (N8 K (pv 6) aa) (pv 3)) (by with_unfolding_all rfl)) (eI (bQ K (aE (sY T) hr.mm (ao (pv 6) (N6 (pv 1))))))))) (ae (sJ (cf hr) (pv 3) (N8 K (pv 6) aa) (ax bH (jj (cf hr) (pv 3) (pv 5) (fun _ _=>rfl)) aa) rfl) (ah (aP (jX K (pv 4) (N8 K (pv 6) aa))))) aw)))))) (ah (av (pv 3)))))),?_⟩
  refine fun d nd=>⟨_,rfl,af,[(Sum.inl s,.int 0)],rfl,by show 1<=15; decide,?_⟩
  refine⟨_,rfl,(by show 1<=sizeLine; decide),fun q nq=>?_⟩
  have em:nH [] [(Sum.inl s,V.int 0)]=[((Sum.inl s:Key),V.int 0)]:=rfl
  rw[em] at nq ⊢
  have nq1:q≠d:=fun z=>by rw[z,af] at nq; cases nq
  have nq0:H q=none:=by rw[ai nq1,ai nq1] at nq; exact nq
  have v1: ∀j:Int,aM [((Sum.inl s:Key),V.int 0)] (Sum.inl j)=if j=s then some (.int 0) else none:=fun j=>by
   by_cases e:j=s
   .rw[Ks e,e]; exact cU rfl
   .rw[Kp e,cI (fun z=>e (MX z).symm)]; rfl
  have h1: ∀j:Int,has [((Sum.inl s:Key),V.int 0)] j↔j=s:=fun j=>by
   unfold has
   rw[v1]
   by_cases e:j=s <;> simp[e]
  have n1: ∀j:Int,nD [((Sum.inl s:Key),V.int 0)] j=if j=s then some 0 else none:=fun j=>by
   unfold nD
   rw[v1]
   by_cases e:j=s <;> simp[e]
  have b0:Bg H (upd (upd (upd H d (.dK [])) d (.dK [((Sum.inl s:Key),V.int 0)])) q (.lst [.int s])) L.length rs L s d q [((Sum.inl s:Key),V.int 0)] [s] (fun _=>False):=by
   refine⟨(ai (K2 nq1)).trans af,af,?_,nd,nq0,fun j hj=>?_,fun j v hj=>?_,fun j x hj=>?_,(by rw[n1,Ks rfl]),fun m hm=>(h1 m).mpr (Kt.mp hm),List.pairwise_singleton ..,fun k x hx w hw y hy=>?_,fun j x hj hw=>absurd (Kt.mpr ((h1 j).mp (xR hj))) hw,?_,fun j x hj=>?_⟩
   .exact ((((ag.upd nd)).dA nd).dA nq0)
   .rw[(h1 j).mp hj]; exact⟨hs0,hs1⟩
   .rw[v1] at hj
    by_cases e:j=s
    .rw[Ks e] at hj
     cases hj
     exact⟨0,rfl⟩
    .rw[Kp e] at hj; cases hj
   .rw[n1] at hj
    by_cases e:j=s
    .rw[Ks e] at hj
     cases hj
     rw[e]
     exact⟨[],.nil,rfl⟩
    .rw[Kp e] at hj; cases hj
   .rw[n1] at hx
    split at hx
    .cases hx; omega
    .cases hx
   .have:=mM (n:=L.length) (kvs:=[]) (k:=s) (v:=V.int 0) hs0 hs1 (fun z=>by have z:(none:Option V).isSome=true:=z; cases z)
    have e:putK ([]:Oo) (Sum.inl s) (V.int 0)=[((Sum.inl s:Key),V.int 0)]:=rfl
    rw[e] at this
    have t:lJ L.length []<=L.length:=by
     have:=MA.uJ (List.range L.length) (fun i=>if (aM ([]:Oo) (Sum.inl ((i:Nat):Int))).isSome then 0 else 1) (fun _=>1) fun i _=>by show (if _ then 0 else 1)<=1; split <;> omega
     rw[MA.ones] at this
     exact this
    show 1+_<=L.length
    omega
   .rw[n1] at hj
    split at hj
    .cases hj; exact Ku _
    .cases hj
  dsimp only[aO,L2.start,List.set]
  generalize upd (upd (upd H d (.dK [])) d (.dK [((Sum.inl s:Key),V.int 0)])) q (.lst [.int s])=H1 at b0
  refine⟨fun m σ' H'=> ∃(kvs:Oo) (ws:List Int) (v5 v6:Option V),σ'=[some (.ref r),some (.ref w),some (.int s),some (.ref d),some (.ref q),v5,v6]/\Bg H H' L.length rs L s d q kvs ws (fun _=>False)/\ws.length+lJ L.length kvs<=m/\m<=100,⟨_,_,_,none,none,rfl,b0,Ku _,KR b0.cn hn⟩,?_⟩
  rintro m σ' H' ⟨kvs,ws,v5,v6,rfl,b,hm,hm100⟩
  refine⟨_,rfl,_,.inl ⟨_,N5.of b.hq,rfl⟩,?_⟩
  cases ws with
  | nil=>exact aD ⟨_,rfl,k2 d kvs H' b.fd b.sm b.hd b.num (b.dist fun _ z=>z) fun k j hj=>by have:=b.bd k j hj; have:=b.cn; omega⟩
  | cons mb ws =>
  refine aU ?_
  have hmb0:has kvs mb:=b.wk mb (KG)
  obtain⟨d0,hmb,hv0⟩:=uQ b.num hmb0
  have low: ∀w∈ws,∀y,nD kvs w=some y->d0<=y:=fun w hw y hy=>(NB.mp b.srt).1 w hw d0 y hmb hy
  have bnd: ∀k x,nD kvs k=some x->x<=d0+1:=fun k x hx=>b.top k x hx mb KG d0 hmb
  have bp:=b.pop fun _ z=>z
  refine uu fun D1 nxW=>?_
  refine⟨_,rfl,.inl ⟨rfl,_,N5.of b.hq⟩,q,_,_,0,.int mb,rfl,rfl,b.hq,by decide,by decide,by unfold seqIndex?; simp,rfl,?_⟩
  have hm':ws.length+lJ L.length kvs < m:=by
   have:(mb::ws).length=ws.length+1:=rfl
   omega
  have ee:((mb::ws).map V.int).eraseIdx 0=ws.map V.int:=rfl
  rw[ee]
  clear ee
  dsimp only[aO,List.set]
  generalize upd H' q (.lst (ws.map V.int))=H2 at bp
  clear b hm
  refine⟨_,rfl,r,rfl,⟨_,bp.sm.seq hx⟩,?_⟩
  refine bA (xs:=xs) (fun i σ' H'=> ∃(kvs:Oo) (ws:List Int) (v6:Option V),σ'=[some (.ref r),some (.ref w),some (.int s),some (.ref d),some (.ref q),some (.int mb),v6]/\Bg H H' L.length rs L s d q kvs ws (fun k=>k=mb)/\nD kvs mb=some d0/\(∀w∈ws,∀y,nD kvs w=some y->d0<=y)/\(∀k x,nD kvs k=some x->x<=d0+1)/\ws.length+lJ L.length kvs < m/\ ∀(j:Nat) (rl:MA.au),j < i->rs[j]?=some rl->MA.Tl L rl->rl.1=mb->has kvs rl.2.1) ⟨kvs,ws,v6,rfl,bp,hmb,low,bnd,hm',fun j _ hj=>absurd hj (Lw _)⟩ (fun i σ' H' _ ⟨_,_,_,_,bb,_⟩=>bo (bb.sm.seq hx)) ?_ ?_
  .clear bp hmb hm' low bnd hmb0 hv0 kvs ws
   rintro i x σ' H' D2 nx2 - hi ⟨kvs,ws,v6,rfl,b,hmb,low,bnd,hm',hdn⟩
   obtain⟨rl,hq,ta,rfl,hta⟩:=hX.get hi
   have hrk:=hk rl (Kw hq)
   obtain⟨o1,o2,o3,o4,o5⟩:=id hrk
   have hta1:=b.sm.iX hta
   have skip:(MA.Tl L rl->rl.1=mb->has kvs rl.2.1)-> ∀(j:Nat) (r':MA.au),j < i+1->rs[j]?=some r'->MA.Tl L r'->r'.1=mb->has kvs r'.2.1:=fun hh j r' hj hr' ht' hb'=>by
    by_cases e:j=i
    .subst e
     rw[hq] at hr'
     cases hr'
     exact hh ht' hb'
    .exact hdn j r' (by omega) hr' ht' hb'
   refine⟨_,rfl,ta,_,_,_,rfl,rfl,hta1,rfl,_,rfl,rfl,_,rfl,?_⟩
   refine bD (fun c=>?_) (fun c=>?_)
   rotate_left
   .have c: ¬rl.1=mb:=by simpa using c
    exact aD (nx2 _ _ ⟨kvs,ws,_,rfl,b,hmb,low,bnd,hm',skip fun _ z=>absurd z c⟩)
   have c:rl.1=mb:=by simpa using c
   refine⟨_,rfl,ta,_,_,_,rfl,rfl,hta1,rfl,_,rfl,d,_,rfl,cJ.k (k:=Sum.inl rl.2.1) b.hd,_,rfl,?_⟩
   by_cases hh:has kvs rl.2.1
   .rw[show (!(aM kvs (Sum.inl rl.2.1)).isSome)=false from by rw[show (aM kvs (Sum.inl rl.2.1)).isSome=true from hh]; rfl]
    exact aD (aD (nx2 _ _ ⟨kvs,ws,_,rfl,b,hmb,low,bnd,hm',skip fun _ _=>hh⟩))
   .rw[show (!(aM kvs (Sum.inl rl.2.1)).isSome)=true from by rw[show (aM kvs (Sum.inl rl.2.1)).isSome=false from by simpa [has] using hh]; rfl]
    refine aU ⟨_,rfl,_,rfl,_,rl,w,L,rfl,⟨ta,rfl,hta1⟩,b.sm.seq hw,hrk,_,rfl,?_⟩
    refine bD (fun ct=>?_) (fun ct=>?_)
    rotate_left
    .exact nx2 _ _ ⟨kvs,ws,_,rfl,b,hmb,low,bnd,hm',skip fun z=>absurd (sj.mpr z) ct⟩
    have ct:=sj.mp ct
    have u0:0<=rl.2.1:=by have:=ct.1; omega
    have vm:=uF b.num hmb
    obtain⟨br,hmb',low',bnd'⟩:=b.reach hmb low bnd hq ct c u0 o4 hh
    have cp:=mM (n:=L.length) (v:=V.int ((d0+1:Nat):Int)) u0 o4 hh
    have hcn:=b.cn
    refine⟨_,rfl,_,rfl,d,.int (d0:Nat),rfl,vm▸cJ.k (k:=Sum.inl mb) b.hd,_,_,rfl,rfl,?_⟩
    refine⟨_,rfl,_,rfl,ta,_,_,_,rfl,rfl,hta1,rfl,d,_,rfl,pY.k (k:=Sum.inl rl.2.1) b.hd (aJ (by omega)),?_⟩
    have hq4:(upd H' d (.dK (putK kvs (Sum.inl rl.2.1) (.int ((d0+1:Nat):Int))))) q=some (.lst (ws.map V.int)):=(ai (K2 b.ne)).trans b.hq
    have hta4:N9 K (upd H' d (.dK (putK kvs (Sum.inl rl.2.1) (.int ((d0+1:Nat):Int))))) ta [.int rl.1,.int rl.2.1,.int rl.2.2]:=by
     have hd3:=b.hd
     have ne: ∀u,H' ta=some u->(∀kv,u≠ .dK kv)->ta≠d:=fun u hu hn e=>by
      rw[e,hd3] at hu
      exact hn _ (KS hu).symm
     rcases hta1 with (h | ⟨o',h⟩) | h
     .exact .inl (.inl ((ai (ne _ h fun kv z=>by cases z)).trans h))
     .exact .inl (.inr ⟨o',(ai (ne _ h fun kv z=>by cases z)).trans h⟩)
     .exact .inr h
    have hws:ws.length<=1000:=by omega
    refine⟨_,rfl,.inl ⟨rfl,_,N5.of hq4⟩,_,rfl,ta,_,_,_,rfl,rfl,hta4,rfl,q,_,_,rfl,rfl,hq4,by rw[Kq]; exact aJ hws,?_⟩
    refine nx2 _ _ ⟨putK kvs (Sum.inl rl.2.1) (.int ((d0+1:Nat):Int)),ws++[rl.2.1],_,rfl,?_,hmb',low',bnd',?_,?_⟩
    .rw[KO] at br
     exact br
    .rw[KC]
     show ws.length+1+_ < m
     omega
    .intro j r' hj hr' ht' hb'
     by_cases e:j=i
     .subst e
      rw[hq] at hr'
      cases hr'
      exact cB.mpr (.inl rfl)
     .exact cB.mpr (.inr (hdn j r' (by omega) hr' ht' hb'))
  .rintro σ' H' ⟨kvs,ws,v6,rfl,b,hmb,low,bnd,hm',hdn⟩
   refine nxW _ _ _ hm' ⟨kvs,ws,_,_,rfl,⟨b.hd,b.hq,b.sm,b.fd,b.fq,b.OQ,b.num,b.ex,b.st,b.wk,b.srt,b.top,fun j x h1 h2 _ rl hrl ht hb=>?_,b.cn,b.bd⟩,Ku _,by omega⟩
   by_cases e:j=mb
   .obtain⟨i,hi,rfl⟩:=LL.mp hrl
    have:=hdn i _ (by rw[hX.length]; exact hi) (Kr hi) ht (hb.trans e)
    obtain⟨y,y1,_⟩:=uQ b.num this
    rw[e,hmb] at h1
    cases h1
    exact⟨y,y1,bnd _ _ y1⟩
   .exact b.cl j x h1 h2 e rl hrl ht hb
theorem vU {N:Nat}{p:Nat->Bool}{i:Nat}{t:List Nat}(h:(List.range N).filter p=i::t):i < N/\p i=true/\ ∀j,j < i->p j=false:=by
 have hm:i∈(List.range N).filter p:=by rw[h]; exact KG
 obtain⟨h1,h2⟩:=Li.mp hm
 have h1:=KZ.mp h1
 refine⟨h1,h2,fun j hj=>?_⟩
 cases e:p j with
 | false=>rfl
 | true =>
  have hj':j∈(List.range N).filter p:=Li.mpr ⟨KZ.mpr (by omega),e⟩
  have pw:((List.range N).filter p).Pairwise (· < ·):=List.Pairwise.filter _ List.pairwise_lt_range
  rw[h] at hj' pw
  rcases Kz.mp hj' with z | z
  .omega
  .have:=(NB.mp pw).1 j z
   omega
theorem gz {p:Nat->Bool}{i:Nat}:(List.range (i+1)).filter p=(List.range i).filter p++(if p i=true then [i] else []):=by
 rw[L4,LB]
 congr 1
 by_cases h:p i=true
 .simp[h]
 .simp[h]
def OA (rs:List MA.au) (kvs:Oo) (j:Nat):Nat:=(nD kvs (MA.kG rs j)).getD 0
def jQ (rs:List MA.au) (L:List Int) (kvs:Oo) (j:Nat):Bool:=match rs[j]? with
 | some q=>decide (q.2.2=MA.g L q.1) && (aM kvs (Sum.inl q.1)).isSome
 | none=>false
theorem tH {rs:List MA.au}{L:List Int}{kvs:Oo}{j:Nat}{q:MA.au}(h:rs[j]?=some q):jQ rs L kvs j=(decide (q.2.2=MA.g L q.1) && (aM kvs (Sum.inl q.1)).isSome):=by unfold jQ; rw[h]
def vo (K:N7):Sp:=fun vs H Q _=> ∃(r w d:Addr) (rs:List MA.au) (L:List Int) (kvs:Oo),vs=[.ref r,.ref w,.ref d]/\OU K H r rs/\rs.length<=100/\N5 K H w (L.map V.int)/\(∀q∈rs,Oh L.length q)/\H d=some (.dK kvs)/\(∀k v,aM kvs (Sum.inl k)=some v-> ∃j:Nat,v=V.int (j:Nat)) /\
 (∃(i:Nat) (q:MA.au) (j:Nat),rs[i]?=some q/\q.2.2=MA.g L q.1/\nD kvs q.1=some j)/\ ∀(i:Nat) (H':Hp),ag H H'->MA.P6 rs L (nD kvs) i->Q (.int (i:Nat)) H'
theorem lA {xs:List Nat}{i:Nat}:aQ xs++[V.int (i:Nat)]=aQ (xs++[i]):=by unfold aQ; rw[KO]; rfl
theorem qT {ps:List Nat}{i:Nat}{x:V}(h:(aQ ps)[i]?=some x): ∃y,ps[i]?=some y/\x= .int (y:Nat):=by
 unfold aQ at h
 rw[KH] at h
 cases e:ps[i]? with
 | none=>rw[e] at h; cases h
 | some y=>rw[e] at h; exact⟨y,rfl,(KS h).symm⟩
theorem take_succ_get {ps:List Nat}{i y:Nat}(h:ps[i]?=some y):ps.take (i+1)=ps.take i++[y]:=by rw[La,h]; rfl
theorem qa {H:Hp}{xs:List V}{rs:List MA.au}(h:cy K H xs rs){k:Nat}{q:MA.au}(hq:rs[k]?=some q): ∃a,Om xs (k:Nat)=some (.ref a)/\N9 K H a [.int q.1,.int q.2.1,.int q.2.2]:=by
 obtain⟨v,hv,a,rfl,ha⟩:=h.at hq
 exact⟨a,bT hv,ha⟩
theorem uZ (T:Txt K mg a):Oj P w K mg base 1 "first_place" ["rules","widths","fewest"] (vo K):=by
 refine lb T.lW ko (fun _ _ _ _ _ _=>Po fun _ _ _=>rfl) (fun vs H Q E h=>?_) fun f cdv A outer s0 H vs Q E hr h=>?_
 .obtain⟨r,w,d,rs,L,kvs,rfl,_⟩:=h
  rfl
 .obtain⟨r,w,d,rs,L,kvs,rfl,⟨xs,hx,hX⟩,hrl,hw,hk,hd,num,hex,q⟩:=h
  refine⟨_,(ae (Pr 3 ko.nd eZ ["place","rule"] ["fewest","widths"] [2,1] (yg (K:=K) (k:=2) (kj (kn (by decide:0 < 2)) g9 (kj (kn (by decide:1 < 2)) g9 vb mC) (tY g9 mC))) (oY rfl T.fv (N6 (pv 0))) (fun C s2 H2 fp=>⟨(show PG _ _ (xM K 2 _) from fG (n:=2) rfl (aR (gn 0 (Oy ["place","rule","fewest","widths"])) (aR (gn 1 (Oy ["place","rule","fewest","widths"])) eG))),(jb (PW.pt (eP (aG aZ (N8 K (pv 1) aa) (Od K (pv 3) (N8 K (pv 1) aa))) (eI (mP (pk (cf hr) (N8 K (pv 1) aa) (pv 2)) (by with_unfolding_all rfl)))))),(pv 0)⟩)) (ae (Oa 4 ko.nd (bc (show cX _ _ (GA K) from Cb rfl) (by rfl) T.uk boot_min (N6 (gW eZ ["place"] ["fewest","rules"] [2,0] OG (dB K (pv 3)) (fun C s2 H2 fp=>⟨(gn 0 (Oy ["place","fewest","rules"])),d6,(jj (cf hr) (pv 1) (N8 K (Od K (pv 2) (pv 0)) aa) (fun _ _=>rfl))⟩))))) (ah (av (Od K (gW eZ ["place"] ["nearest","fewest","rules"] [4,2,0] OG (dB K (pv 3)) (fun C s2 H2 fp=>⟨(gn 0 (Oy ["place","nearest","fewest","rules"])),(jb (aG aZ (jj (cf hr) (pv 2) (N8 K (Od K (pv 3) (pv 0)) aa) (fun _ _=>rfl)) (pv 1))),(pv 0)⟩)) aa))))),?_⟩
  refine⟨_,rfl,r,rfl,⟨_,hx⟩,?_⟩
  have xl:=hX.length
  refine vz (xs:=xs) (fun i ys H'=>ag H H'/\ys=aQ ((List.range i).filter (jQ rs L kvs))) (fun i ys H' h=>h.1.seq hx) ⟨ag.refl H,rfl⟩ (aJ (by omega)) (fun i ys H' h=>by rw[h.2]; unfold aQ; rw[Kq]; exact KR (Lp _ _) (by rw[LA]; exact Ku _)) ?_ ?_
  .rintro i ys H2 x t hi ⟨sm,rfl⟩ nt
   obtain⟨rl,hq,ta,rfl,hta⟩:=hX.get hi
   obtain⟨o1,o2,o3,o4,o5⟩:=hk rl (Kw hq)
   have s1:=sm.trans (ag.upd (o:= .tup [.int (i:Nat),.ref ta]) nt)
   refine⟨t,_,rfl,N9.of af,rfl,_,_,rfl,_,_,rfl,rfl,?_⟩
   generalize upd H2 t (.tup [.int (i:Nat),.ref ta])=H3 at s1
   have hta1:=s1.iX hta
   have hc:=tH (L:=L) (kvs:=kvs) hq
   have no:jQ rs L kvs i=false->ag H H3/\aQ ((List.range i).filter (jQ rs L kvs))=aQ ((List.range (i+1)).filter (jQ rs L kvs)):=fun z=>⟨s1,by rw[gz,z]; simp⟩
   refine⟨_,rfl,ta,_,_,_,rfl,rfl,hta1,rfl,_,rfl,_,rfl,ta,_,_,_,rfl,rfl,hta1,rfl,w,_,_,_,rfl,rfl,s1.seq hw,fj o1 o2,rfl,_,rfl,?_⟩
   refine bD (fun c=>?_) (fun c=>?_)
   rotate_left
   .have c: ¬rl.2.2=MA.g L rl.1:=by simpa using c
    exact aD (no (by rw[hc]; simp[c]))
   have c:rl.2.2=MA.g L rl.1:=by simpa using c
   refine⟨_,rfl,ta,_,_,_,rfl,rfl,hta1,rfl,_,rfl,d,_,rfl,cJ.k (k:=Sum.inl rl.1) (s1 _ _ hd),_,rfl,?_⟩
   refine bD (fun c2=>?_) (fun c2=>?_)
   .refine⟨_,rfl,s1,?_⟩
    rw[gz,Ks (by rw[hc,c2]; simp[c]),lA]
   .exact no (by rw[hc]; simp[c,c2])
  .rintro ys H2 p ⟨sm,rfl⟩ np
   rw[xl] at *
   have s1:=sm.trans (ag.upd (o:= .lst (aQ ((List.range rs.length).filter (jQ rs L kvs)))) np)
   have hp1:(upd H2 p (.lst (aQ ((List.range rs.length).filter (jQ rs L kvs))))) p=some (.lst (aQ ((List.range rs.length).filter (jQ rs L kvs)))):=af
   dsimp only[aO,L2.start,List.set]
   generalize upd H2 p (.lst (aQ ((List.range rs.length).filter (jQ rs L kvs))))=H3 at s1 hp1
   obtain⟨cs,ecs⟩: ∃cs,(List.range rs.length).filter (jQ rs L kvs)=cs:=⟨_,rfl⟩
   rw[ecs] at hp1
   have csl:cs.length<=100:=by rw[<-ecs]; exact KR (Lp _ _) (by rw[LA]; exact hrl)
   have csm: ∀j∈cs,∃ql,rs[j]?=some ql/\ql.2.2=MA.g L ql.1/\aM kvs (Sum.inl ql.1)=some (.int (OA rs kvs j:Nat))/\nD kvs ql.1=some (OA rs kvs j):=fun j hj=>by
    rw[<-ecs] at hj
    obtain⟨h1,h2⟩:=Li.mp hj
    have h1:=KZ.mp h1
    rw[tH (Kr h1),Lb] at h2
    obtain⟨y,y1,y2⟩:=uQ num h2.2
    have ed:OA rs kvs j=y:=by unfold OA; rw[MA.j8 (Kr h1),y1]; rfl
    exact⟨_,Kr h1,KY h2.1,by rw[ed]; exact y2,by rw[ed]; exact y1⟩
   have cmem: ∀(j:Nat) (ql:MA.au) (y:Nat),rs[j]?=some ql->ql.2.2=MA.g L ql.1->nD kvs ql.1=some y->j∈cs/\OA rs kvs j=y:=fun j ql y h1 h2 h3=>by
    refine⟨?_,by unfold OA; rw[MA.j8 h1,h3]; rfl⟩
    rw[<-ecs]
    refine Li.mpr ⟨KZ.mpr (Ky.mp h1).1,?_⟩
    rw[tH h1,KQ h2,uF num h3]
    rfl
   refine⟨_,rfl,p,rfl,⟨_,N5.of hp1⟩,?_⟩
   refine cg (xs:=aQ cs) (fun i ys H'=>ag H3 H'/\ys=((cs.take i).map fun j=>V.int (OA rs kvs j:Nat))) (fun i ys H' _ h=>bo (N5.of (h.1 _ _ hp1))) ⟨ag.refl H3,rfl⟩ (aJ (by unfold aQ; rw[Kq]; omega)) (fun i ys H' h=>by rw[h.2,Kq,K0]; exact LI _ _) ?_ ?_
   .rintro i ys H4 x hi ⟨sm4,rfl⟩
    obtain⟨y,hy,rfl⟩:=qT hi
    obtain⟨ql,hq,hq2,hq3,_⟩:=csm y (Kw hy)
    have s4:=s1.trans sm4
    obtain⟨ta,hat,hta⟩:=qa (hX.same s4) hq
    dsimp only[aO,g8]
    refine aU ⟨_,rfl,_,rfl,_,rfl,r,_,_,_,rfl,rfl,s4.seq hx,hat,ta,_,_,_,rfl,rfl,hta,rfl,d,_,rfl,hq3▸cJ.k (k:=Sum.inl ql.1) (s4 _ _ hd),sm4,?_⟩
    rw[take_succ_get hy,KO]
    rfl
   .rintro ys H4 p4 ⟨sm4,rfl⟩ np4
    rw[show (aQ cs).length=cs.length from Kq ..,K6] at *
    have s5:=s1.trans (sm4.trans (ag.upd (o:= .lst (cs.map fun j=>V.int (OA rs kvs j:Nat))) np4))
    have hp5:=(sm4.trans (ag.upd (o:= .lst (cs.map fun j=>V.int (OA rs kvs j:Nat))) np4)) _ _ hp1
    have h45:(upd H4 p4 (.lst (cs.map fun j=>V.int (OA rs kvs j:Nat)))) p4=some (.lst ((cs.map fun j=>((OA rs kvs j:Nat):Int)).map V.int)):=by rw[af,LF]; rfl
    generalize upd H4 p4 (.lst (cs.map fun j=>V.int (OA rs kvs j:Nat)))=H5 at s5 hp5 h45
    obtain⟨i0,q0,y0,e0,e1,e2⟩:=hex
    have hne:0 < cs.length:=List.length_pos_of_mem (cmem i0 q0 y0 e0 e1 e2).1
    refine⟨p4,_,rfl,N5.of h45,by rw[Kq]; exact hne,fun M hM hle=>?_⟩
    obtain⟨jm,hjm,rfl⟩:=Lq.mp hM
    generalize hdm:OA rs kvs jm=dm at *
    dsimp only[aO,List.set]
    refine⟨_,rfl,p,rfl,⟨_,N5.of hp5⟩,?_⟩
    refine cg (xs:=aQ cs) (fun i ys H'=>ag H5 H'/\ys=aQ ((cs.take i).filter fun j=>decide (OA rs kvs j=dm))) (fun i ys H' _ h=>bo (N5.of (h.1 _ _ hp5))) ⟨ag.refl H5,rfl⟩ (aJ (by unfold aQ; rw[Kq]; omega)) (fun i ys H' h=>by rw[h.2]; unfold aQ; rw[Kq]; exact KR (Lp _ _) (by rw[K0]; exact LI _ _)) ?_ ?_
    .rintro i ys H6 x hi ⟨sm6,rfl⟩
     obtain⟨y,hy,rfl⟩:=qT hi
     obtain⟨ql,hq,hq2,hq3,_⟩:=csm y (Kw hy)
     have s6:=s5.trans sm6
     obtain⟨ta,hat,hta⟩:=qa (hX.same s6) hq
     refine⟨_,rfl,_,rfl,_,rfl,r,_,_,_,rfl,rfl,s6.seq hx,hat,ta,_,_,_,rfl,rfl,hta,rfl,d,_,rfl,hq3▸cJ.k (k:=Sum.inl ql.1) (s6 _ _ hd),_,rfl,rfl,_,rfl,?_⟩
     refine bD (fun c=>?_) (fun c=>?_)
     .have c:((OA rs kvs y:Nat):Int)=dm:=by simpa using c
      have c:OA rs kvs y=dm:=by omega
      refine⟨_,rfl,sm6,?_⟩
      rw[take_succ_get hy,LB,lA]
      simp[c]
     .have c: ¬((OA rs kvs y:Nat):Int)=dm:=by simpa using c
      have c: ¬OA rs kvs y=dm:=by omega
      refine⟨sm6,?_⟩
      rw[take_succ_get hy,LB]
      simp[c]
    .rintro ys H6 p6 ⟨sm6,rfl⟩ np6
     rw[show (aQ cs).length=cs.length from Kq ..,K6] at *
     have hin:jm∈cs.filter fun j=>decide (OA rs kvs j=dm):=Li.mpr ⟨hjm,KQ hdm⟩
     cases ef:cs.filter fun j=>decide (OA rs kvs j=dm) with
     | nil=>rw[ef] at hin; cases hin
     | cons i1 tl =>
     have ef2:=ef
     rw[<-ecs,List.filter_filter] at ef2
     obtain⟨g1,g2,g3⟩:=vU ef2
     have hi1:i1∈cs.filter fun j=>decide (OA rs kvs j=dm):=by rw[ef]; exact KG
     obtain⟨hi2,hi3⟩:=Li.mp hi1
     have hi3:=KY hi3
     obtain⟨q1,w1,w2,_,w4⟩:=csm i1 hi2
     refine⟨p6,_,_,_,rfl,rfl,N5.of af,(show Om _ ((0:Nat):Int)=_ from bT rfl),?_⟩
     refine q i1 _ (s5.trans (sm6.trans (ag.upd np6))) ⟨q1,dm,w1,w2,by rw[w4,hi3],fun j q' y a b c=>?_,fun j q' hj a b c=>?_⟩
     .obtain⟨z1,z2⟩:=cmem j q' y a b c
      have:=hle _ (Lq.mpr ⟨j,z1,rfl⟩)
      rw[z2] at this
      omega
     .obtain⟨z1,z2⟩:=cmem j q' dm a b c
      rw[<-ecs] at z1
      have:=g3 j hj
      rw[z2,(Li.mp z1).2] at this
      simp at this
def iH (rs:List MA.au) (L:List Int) (v:Int) (j:Nat):Bool:=match rs[j]? with
 | some q=>decide (q.2.1=v) && Pb L q
 | none=>false
theorem tV {rs:List MA.au}{L:List Int}{v:Int}{j:Nat}{q:MA.au}(h:rs[j]?=some q):iH rs L v j=(decide (q.2.1=v) && Pb L q):=by unfold iH; rw[h]
def wC (K:N7):Sp:=fun vs H Q _=> ∃(r w d:Addr) (rs:List MA.au) (L:List Int) (kvs:Oo) (v:Int) (k:Nat),vs=[.ref r,.ref w,.ref d,.int v]/\OU K H r rs/\rs.length<=100/\N5 K H w (L.map V.int)/\(∀q∈rs,Oh L.length q)/\H d=some (.dK kvs)/\(∀k v,aM kvs (Sum.inl k)=some v-> ∃j:Nat,v=V.int (j:Nat)) /\
 nD kvs v=some (k+1)/\(∃(i:Nat) (q:MA.au),rs[i]?=some q/\q.2.1=v/\MA.Tl L q/\nD kvs q.1=some k)/\ ∀(i:Nat) (H':Hp),ag H H'->MA.Nx rs L (nD kvs) v i->Q (.int (i:Nat)) H'
theorem wz (T:Txt K mg a):Oj P w K mg base 4 "next_place" ["rules","widths","fewest","member"] (wC K):=by
 refine lb T.m9 lG (fun _ _ _ _ _ _=>Pz fun _ _ _ _=>rfl) (fun vs H Q E h=>?_) fun f cdv A outer s0 H vs Q E hr h=>?_
 .obtain⟨r,w,d,rs,L,kvs,v,k,rfl,_⟩:=h
  rfl
 .obtain⟨r,w,d,rs,L,kvs,v,k,rfl,⟨xs,hx,hX⟩,hrl,hw,hk,hd,num,hv,hex,q⟩:=h
  refine⟨_,(ae (Oa 4 lG.nd (ax pj (jj (cf hr) (pv 2) (pv 3) (fun _ _=>rfl)) aa)) (ae (Pr 5 lG.nd gC ["place","rule"] ["member","widths"] [3,1] (yg (K:=K) (k:=2) (kj (kn (by decide:0 < 2)) g9 (kj (kn (by decide:1 < 2)) g9 vb mC) (tY g9 mC))) (oY rfl T.fv (N6 (pv 0))) (fun C s2 H2 fp=>⟨(show PG _ _ (xM K 2 _) from fG (n:=2) rfl (aR (gn 0 (Oy ["place","rule","member","widths"])) (aR (gn 1 (Oy ["place","rule","member","widths"])) eG))),(jb (PW.pt (eP (aG aZ (N8 K (pv 1) aa) (pv 2)) (eI (bQ K (aE (sY T) hr.mm (ao (pv 1) (N6 (pv 3))))))))),(pv 0)⟩)) (ah (av (Od K (gW gC ["place"] ["nearer","fewest","rules"] [4,2,0] OG (dB K (pv 5)) (fun C s2 H2 fp=>⟨(gn 0 (Oy ["place","nearer","fewest","rules"])),(jb (aG aZ (xK (cf hr) (pv 2) (N8 K (Od K (pv 3) (pv 0)) aa) (by constructor <;> first | rfl | (intros; rfl))) (pv 1))),(pv 0)⟩)) aa))))),?_⟩
  have vv:=uF num hv
  refine⟨_,rfl,_,rfl,d,.int ((k+1:Nat):Int),rfl,vv▸cJ.k (k:=Sum.inl v) hd,_,_,rfl,rfl,?_⟩
  refine⟨_,rfl,r,rfl,⟨_,hx⟩,?_⟩
  have xl:=hX.length
  refine vz (xs:=xs) (fun i ys H'=>ag H H'/\ys=aQ ((List.range i).filter (iH rs L v))) (fun i ys H' h=>h.1.seq hx) ⟨ag.refl H,rfl⟩ (aJ (by omega)) (fun i ys H' h=>by rw[h.2]; unfold aQ; rw[Kq]; exact KR (Lp _ _) (by rw[LA]; exact Ku _)) ?_ ?_
  .rintro i ys H2 x t hi ⟨sm,rfl⟩ nt
   obtain⟨rl,hq,ta,rfl,hta⟩:=hX.get hi
   have hrk:=hk rl (Kw hq)
   have s1:=sm.trans (ag.upd (o:= .tup [.int (i:Nat),.ref ta]) nt)
   refine⟨t,_,rfl,N9.of af,rfl,_,_,rfl,_,_,rfl,rfl,?_⟩
   generalize upd H2 t (.tup [.int (i:Nat),.ref ta])=H3 at s1
   have hta1:=s1.iX hta
   have hc:=tV (L:=L) (v:=v) hq
   have no:iH rs L v i=false->ag H H3/\aQ ((List.range i).filter (iH rs L v))=aQ ((List.range (i+1)).filter (iH rs L v)):=fun z=>⟨s1,by rw[gz,z]; simp⟩
   refine⟨_,rfl,ta,_,_,_,rfl,rfl,hta1,rfl,_,rfl,rfl,_,rfl,?_⟩
   refine bD (fun c=>?_) (fun c=>?_)
   rotate_left
   .have c: ¬rl.2.1=v:=by simpa using c
    exact aD (no (by rw[hc]; simp[c]))
   have c:rl.2.1=v:=by simpa using c
   refine⟨_,rfl,_,rfl,_,rl,w,L,rfl,⟨ta,rfl,hta1⟩,s1.seq hw,hrk,_,rfl,?_⟩
   refine bD (fun c2=>?_) (fun c2=>?_)
   .refine⟨_,rfl,s1,?_⟩
    rw[gz,Ks (by rw[hc,c2]; simp[c]),lA]
   .exact no (by rw[hc]; simp[c,c2])
  .rintro ys H2 p ⟨sm,rfl⟩ np
   rw[xl] at *
   have s1:=sm.trans (ag.upd (o:= .lst (aQ ((List.range rs.length).filter (iH rs L v)))) np)
   have hp1:(upd H2 p (.lst (aQ ((List.range rs.length).filter (iH rs L v))))) p=some (.lst (aQ ((List.range rs.length).filter (iH rs L v)))):=af
   dsimp only[aO,L2.start,List.set]
   generalize upd H2 p (.lst (aQ ((List.range rs.length).filter (iH rs L v))))=H3 at s1 hp1
   obtain⟨cs,ecs⟩: ∃cs,(List.range rs.length).filter (iH rs L v)=cs:=⟨_,rfl⟩
   rw[ecs] at hp1
   have csl:cs.length<=100:=by rw[<-ecs]; exact KR (Lp _ _) (by rw[LA]; exact hrl)
   have csm: ∀j∈cs,∃ql,rs[j]?=some ql/\ql.2.1=v/\MA.Tl L ql:=fun j hj=>by
    rw[<-ecs] at hj
    obtain⟨h1,h2⟩:=Li.mp hj
    have h1:=KZ.mp h1
    rw[tV (Kr h1),Lb] at h2
    exact⟨_,Kr h1,KY h2.1,sj.mp h2.2⟩
   have cmem: ∀(j:Nat) (ql:MA.au),rs[j]?=some ql->ql.2.1=v->MA.Tl L ql->iH rs L v j=true:=fun j ql h1 h2 h3=>by
    rw[tV h1,KQ h2,sj.mpr h3]
    rfl
   refine⟨_,rfl,p,rfl,⟨_,N5.of hp1⟩,?_⟩
   refine cg (xs:=aQ cs) (fun i ys H'=>ag H3 H'/\ys=aQ ((cs.take i).filter fun j=>decide (nD kvs (MA.kG rs j)=some k))) (fun i ys H' _ h=>bo (N5.of (h.1 _ _ hp1))) ⟨ag.refl H3,rfl⟩ (aJ (by unfold aQ; rw[Kq]; omega)) (fun i ys H' h=>by rw[h.2]; unfold aQ; rw[Kq]; exact KR (Lp _ _) (by rw[K0]; exact LI _ _)) ?_ ?_
   .rintro i ys H6 x hi ⟨sm6,rfl⟩
    obtain⟨y,hy,rfl⟩:=qT hi
    obtain⟨ql,hq,hq2,hq3⟩:=csm y (Kw hy)
    have s6:=s1.trans sm6
    obtain⟨ta,hat,hta⟩:=qa (hX.same s6) hq
    have hd6:=s6 _ _ hd
    have eo:MA.kG rs y=ql.1:=MA.j8 hq
    have yes:nD kvs ql.1=some k->ag H3 H6/\aQ ((cs.take i).filter fun j=>decide (nD kvs (MA.kG rs j)=some k))++[V.int (y:Nat)]=aQ ((cs.take (i+1)).filter fun j=>decide (nD kvs (MA.kG rs j)=some k)):=fun z=>by
     refine⟨sm6,?_⟩
     rw[take_succ_get hy,LB,lA]
     simp[eo,z]
    have no: ¬nD kvs ql.1=some k->ag H3 H6/\aQ ((cs.take i).filter fun j=>decide (nD kvs (MA.kG rs j)=some k))=aQ ((cs.take (i+1)).filter fun j=>decide (nD kvs (MA.kG rs j)=some k)):=fun z=>by
     refine⟨sm6,?_⟩
     rw[take_succ_get hy,LB]
     simp[eo,z]
    refine⟨_,rfl,d,rfl,.inl ⟨kvs,.inl hd6⟩,_,rfl,_,rfl,r,_,_,_,rfl,rfl,s6.seq hx,hat,ta,_,_,_,rfl,rfl,hta,rfl,_,cJ.k (k:=Sum.inl ql.1) hd6,?_⟩
    cases en:nD kvs ql.1 with
    | none =>
     rw[Ey num en]
     exact⟨_,rfl,rfl,_,rfl,aD (no (by rw[en]; intro z; cases z))⟩
    | some y1 =>
     rw[uF num en]
     refine⟨_,rfl,rfl,_,rfl,?_⟩
     refine bD (fun c=>?_) (fun c=>?_)
     .have c:((y1:Nat):Int)=((k+1:Nat):Int) - 1:=by simpa using c
      exact⟨_,rfl,yes (by rw[en,show y1=k by omega])⟩
     .have c: ¬((y1:Nat):Int)=((k+1:Nat):Int) - 1:=by simpa using c
      exact no (by rw[en]; intro z; cases z; omega)
   .rintro ys H6 p6 ⟨sm6,rfl⟩ np6
    rw[show (aQ cs).length=cs.length from Kq ..,K6] at *
    obtain⟨jm,qm,m1,m2,m3,m4⟩:=hex
    have hin:jm∈cs.filter fun j=>decide (nD kvs (MA.kG rs j)=some k):=Li.mpr ⟨by rw[<-ecs]; exact Li.mpr ⟨KZ.mpr (Ky.mp m1).1,cmem jm qm m1 m2 m3⟩,KQ (by rw[MA.j8 m1]; exact m4)⟩
    cases ef:cs.filter fun j=>decide (nD kvs (MA.kG rs j)=some k) with
    | nil=>rw[ef] at hin; cases hin
    | cons i1 tl =>
    have ef2:=ef
    rw[<-ecs,List.filter_filter] at ef2
    obtain⟨g1,g2,g3⟩:=vU ef2
    have hi1:i1∈cs.filter fun j=>decide (nD kvs (MA.kG rs j)=some k):=by rw[ef]; exact KG
    obtain⟨hi2,hi3⟩:=Li.mp hi1
    have hi3:=KY hi3
    obtain⟨q1,w1,w2,w3⟩:=csm i1 hi2
    rw[MA.j8 w1] at hi3
    refine⟨p6,_,_,_,rfl,rfl,N5.of af,(show Om _ ((0:Nat):Int)=_ from bT rfl),?_⟩
    refine q i1 _ (s1.trans (sm6.trans (ag.upd np6))) ⟨q1,k,w1,w2,w3,hv,hi3,fun j q' hj a b c e=>?_⟩
    have:=g3 j hj
    rw[MA.j8 a,e,cmem j q' a b c] at this
    simp at this
theorem tu (T:Txt K mg a):Oj P w K mg base 5 "chain_of" ["count","rules","member"] (yt K):=by
 refine lb T.qw kY (fun _ _ _ _ _ _=>Po fun _ _ _=>rfl) (fun vs H Q E h=>?_) fun f cdv A outer s0 H vs Q E hr h=>?_
 .obtain⟨n,r,rs,L,m,rfl,_⟩:=h
  rfl
 .obtain⟨n,r,rs,L,m,rfl,hn,hl,hR,hk,eL,m0,m1,q⟩:=h
  have lw:=MA.pB hk eL
  have ll:=lw.len
  refine⟨_,(ae (Oa 3 kY.nd (aE (iR T) hr.mm (ao (pv 0) (N6 (pv 1))))) (ae (aF (aG aZ (Od K (pv 3) (pv 2)) aa) (ah (av (bh dD))) aw) (ae (Oa 4 kY.nd (aE (ur T) hr.mm (ao (pv 1) (ao (pv 3) (N6 (pv 2)))))) (ae (Oa 5 kY.nd (bh (N6 (aE (uZ T) hr.mm (ao (pv 1) (ao (pv 3) (N6 (pv 4)))))))) (ae (tU Nj (aG eU (N8 K (Od K (pv 1) (Od K (pv 5) (wN ue aa))) aa) (pv 2)) (ah (aP (jX K (pv 5) (aE (wz T) hr.mm (ao (pv 1) (ao (pv 3) (ao (pv 4) (N6 (N8 K (Od K (pv 1) (Od K (pv 5) (wN ue aa))) aa)))))))))) (ah (av (pv 5)))))))),?_⟩
  refine⟨_,rfl,_,rfl,n,r,rs,rfl,by omega,hR,hk,fun H1 _ z=>(by rw[eL] at z; cases z),fun w L0 H1 nw s1 e hw=>?_⟩
  rw[eL] at e
  cases e
  refine⟨_,rfl,_,rfl,w,_,_,_,rfl,rfl,N5.of hw,fj m0 (by rw[ll]; exact m1),rfl,_,rfl,?_⟩
  refine bD (fun c=>?_) (fun c=>?_)
  .have c:MA.g L m=0:=by simpa using c
   exact⟨by decide,fun p np=>q p [] _ (s1.free np) (s1.trans (ag.upd np)) af (.inl ⟨c,rfl⟩)⟩
  have c: ¬MA.g L m=0:=by simpa using c
  have hz:0 < MA.g L m:=by have:=lw.nn m m0 m1; omega
  have hk': ∀q∈rs,Oh L.length q:=by rw[ll]; exact hk
  refine⟨_,rfl,_,rfl,_,rfl,r,w,rs,L,m,rfl,hR.same s1,N5.of hw,hk',by omega,m0,by rw[ll]; exact m1,fun d kvs H2 nd s2 hd num D dbd=>?_⟩
  have s12:=s1.trans s2
  have hw2:=s2 _ _ hw
  refine⟨_,rfl,_,rfl,_,rfl,r,w,d,rs,L,kvs,rfl,hR.same s12,by omega,N5.of hw2,hk',hd,num,MA.Ed lw D (MA.Hw hk eL) m0 m1 hz,fun i H3 s3 hf=>?_⟩
  refine⟨(by show 1<=sizeLine; decide),fun cp ncp=>?_⟩
  have s3':=s3.trans (ag.upd (o:= .lst [.int (i:Nat)]) ncp)
  have s123:=s12.trans s3'
  have fcp:H cp=none:=(s12.trans s3).free ncp
  have ncw:w≠cp:=az (s3 _ _ hw2) ncp
  have hcp:(upd H3 cp (.lst [.int (i:Nat)])) cp=some (.lst (aQ [i])):=af
  obtain⟨qi,di,hi,_⟩:=id hf
  dsimp only[aO,L2.start,List.set]
  generalize upd H3 cp (.lst [.int (i:Nat)])=H4 at s3' s123 hcp
  refine⟨fun μ σ' H'=> ∃(cs:List Nat) (il:Nat) (ql:MA.au),σ'=[some (.int n),some (.ref r),some (.int m),some (.ref w),some (.ref d),some (.ref cp)]/\ag H H'/\H' w=some (.lst (L.map V.int))/\H' d=some (.dK kvs)/\H' cp=some (.lst (aQ (cs++[il])))/\rs[il]?=some ql/\nD kvs ql.1=some μ/\cs.length+μ<=100/\ ∀rest,MA.Gr rs L (nD kvs) m ql.1 rest->dE rs L m (cs++il::rest),?_,?_⟩
  .obtain⟨q0,d0,a1,a2,a3,a4,a5⟩:=id hf
   refine⟨d0,[],i,q0,rfl,s123,s3' _ _ hw2,s3' _ _ hd,hcp,a1,a3,?_,fun rest hg=>MA.AB lw D hz hf a1 hg⟩
   have:=dbd _ _ a3
   show 0+d0<=100
   omega
  .rintro μ σ' H' ⟨cs,il,ql,rfl,sm,hw5,hd5,hc5,hil,hμ,hle,hgood⟩
   obtain⟨xs,hx,hX⟩:=hR.same sm
   obtain⟨ta,hat,hta⟩:=qa hX hil
   have hlast:Om (aQ (cs++[il])) (-1)=some (.int (il:Nat)):=by
    unfold Om O1 aQ
    rw[Kq,KC]
    simp
    rw[Ks (by omega),show (-1+((cs.length:Int)+1)).toNat=cs.length by omega]
    simp
   refine⟨_,rfl,_,rfl,_,rfl,cp,_,_,_,rfl,rfl,N5.of hc5,hlast,r,_,_,_,rfl,rfl,hx,hat,ta,_,_,_,rfl,rfl,hta,rfl,_,rfl,rfl,_,rfl,?_⟩
   refine bD (fun c=>?_) (fun c=>?_)
   rotate_left
   .have c:ql.1=m:=by simpa using c
    refine⟨_,rfl,q cp (cs++[il]) H' fcp sm hc5 (hgood [] (c▸ .nil))⟩
   have c: ¬ql.1=m:=by simpa using c
   obtain⟨μ',i2,q2,rfl,b1,b2,b3,b4⟩:=MA.EM D hμ c
   refine⟨fun σ' H'=> ∃m',m' < μ'+1/\ ∃(cs:List Nat) (il:Nat) (ql:MA.au),σ'=[some (.int n),some (.ref r),some (.int m),some (.ref w),some (.ref d),some (.ref cp)]/\ag H H'/\H' w=some (.lst (L.map V.int))/\H' d=some (.dK kvs)/\H' cp=some (.lst (aQ (cs++[il])))/\rs[il]?=some ql/\nD kvs ql.1=some m'/\cs.length+m'<=100/\ ∀rest,MA.Gr rs L (nD kvs) m ql.1 rest->dE rs L m (cs++il::rest),fun _ _ z=>z,?_⟩
   refine⟨_,rfl,.inl ⟨rfl,_,N5.of hc5⟩,_,rfl,_,rfl,_,rfl,_,rfl,_,rfl,_,rfl,cp,_,_,_,rfl,rfl,N5.of hc5,hlast,r,_,_,_,rfl,rfl,hx,hat,ta,_,_,_,rfl,rfl,hta,rfl,?_⟩
   refine⟨r,w,d,rs,L,kvs,ql.1,μ',rfl,⟨xs,hx,hX⟩,by omega,N5.of hw5,hk',hd5,num,hμ,⟨i2,q2,b1,b2,b3,b4⟩,fun i3 H6 s6 hnx=>?_⟩
   obtain⟨q3,d3,e1,e2,e3,e4,e5,e6⟩:=id hnx
   rw[hμ] at e4
   cases e4
   have hc6:=s6 _ _ hc5
   refine⟨cp,_,_,rfl,rfl,hc6,aJ (by unfold aQ; rw[Kq,KC]; show cs.length+1<=1000; omega),?_⟩
   have ncd:cp≠d:=fun z=>by
    have:=hd5
    rw[<-z,hc5] at this
    cases this
   refine⟨μ',My _,cs++[il],i3,q3,rfl,(sm.trans s6).dA fcp,(ai ncw).trans (s6 _ _ hw5),(ai (K2 ncd)).trans (s6 _ _ hd5),?_,e1,e5,?_,fun rest hg=>?_⟩
   .rw[af,lA]
   .rw[KC]; show cs.length+1+μ'<=100; omega
   .have:=hgood (i3::rest) (.cons hnx e1 hg)
    rw[L6]
    exact this
def DP (K:N7):Sp:=fun vs H Q _=> ∃(x:Int) (c:Option Int),vs=[.int x,fz c]/\Q (.bl (MA.over x c)) H
theorem xq (T:Txt K mg a):Oj P w K mg base 1 "above" ["width","top"] (DP K):=by
 refine b9 T.vt DF fun f c A o s H vs Q E hr h=>?_
 obtain⟨x,c,rfl,q⟩:=h
 refine⟨_,(ah (av (jy (oW (e8 fN (pv 1) bu) (nI (e8 sq (pv 0) (pv 1))))))),?_⟩
 refine⟨fun v' H'=>v'= .bl (MA.over x c)/\H'=H,?_,fun v' H' z=>by rw[z.1,z.2]; exact q⟩
 refine⟨_,rfl,rfl,_,rfl,?_⟩
 cases c with
 | none=>exact⟨rfl,rfl⟩
 | some c=>exact⟨_,rfl,_,rfl,_,_,rfl,rfl,rfl,rfl⟩
def Jo:Option Nat->V
 | none=> .non
 | some i=> .int (i:Nat)
def wA (K:N7):Sp:=fun vs H Q _=> ∃(p:Addr) (ws:List Int) (c:Addr) (cs:List (Option Int)),vs=[.ref p,.ref c]/\N5 K H p (ws.map V.int)/\N5 K H c (cs.map fz)/\cs.length=ws.length/\ws.length<=12/\ ∀H',ag H H'->Q (Jo (MA.cY ws cs)) H'
theorem qH (T:Txt K mg a):Oj P w K mg base 2 "first_wide" ["widths","tops"] (wA K):=by
 refine b9 T.nO lO fun f c A o s H vs Q E hr h=>?_
 obtain⟨p,ws,c,cs,rfl,hp,hc,hcl,hwl,q⟩:=h
 refine⟨_,(ae (de (oY rfl T.fv (N6 (pv 0))) (fG rfl (aR (gn 2 lO.nd) (aR (gn 3 lO.nd) eG))) (ah (aF (bQ K (aE (xq T) hr.mm (ao (pv 3) (N6 (Od K (pv 1) (pv 2)))))) (ah (av (pv 2))) aw))) (ah (av bu))),?_⟩
 refine⟨_,rfl,p,rfl,⟨_,hp⟩,?_⟩
 refine ud (xs:=ws.map V.int) (fun i σ' H'=> ∃v2 v3:Option V,σ'=[some (.ref p),some (.ref c),v2,v3]/\ag H H'/\ ∀j,j < i->MA.over (MA.g ws (j:Nat)) (cs.getD j none)=false) ⟨none,none,rfl,ag.refl H,fun j hj=>absurd hj (Lw _)⟩ (fun i σ' H' _ ⟨_,_,_,sm,_⟩=>sm.seq hp) ?_ ?_
 .rintro i x σ' H' t hi ⟨v2,v3,rfl,sm,hdn⟩ nt
  have s1:=sm.trans (ag.upd (o:= .tup [.int (i:Nat),x]) nt)
  obtain⟨hin,rfl⟩:i < ws.length/\x= .int (MA.g ws (i:Nat)):=by
   rw[KH] at hi
   cases e:ws[i]? with
   | none=>rw[e] at hi; cases hi
   | some y =>
    rw[e] at hi
    obtain⟨hl,rfl⟩:=Ky.mp e
    refine⟨hl,?_⟩
    rw[show MA.g ws (i:Nat)=ws[i] from by unfold MA.g; rw[KW,KA,e]; rfl]
    exact (KS hi).symm
  refine⟨t,_,rfl,N9.of af,rfl,_,_,rfl,_,_,rfl,rfl,?_⟩
  generalize upd H' t (.tup [.int (i:Nat),.int (MA.g ws (i:Nat))])=H1 at s1
  refine⟨_,rfl,_,rfl,_,rfl,c,_,_,_,rfl,rfl,s1.seq hc,F9 (cs:=cs) (k:=i) (by omega),?_⟩
  refine⟨_,_,rfl,_,rfl,?_⟩
  refine bD (fun z=>?_) (fun z=>?_)
  .have hw:MA.cY ws cs=some i:=MA.Ag hin z hdn
   rw[hw] at q
   exact⟨_,rfl,q _ s1⟩
  .refine⟨_,_,rfl,s1,fun j hj=>?_⟩
   by_cases e:j=i
   .rw[e]; exact K8 _▸z
   .exact hdn j (by omega)
 .rintro σ' H' ⟨v2,v3,rfl,sm,hdn⟩
  rw[Kq] at hdn
  rw[MA.zM hdn] at q
  exact q _ sm
def yD (K:N7):Sp:=fun vs H Q _=> ∃(n:Nat) (r:Addr) (rs:List MA.au) (L:List Int) (c:Addr) (cs:List (Option Int)) (m:Int),vs=[.int n,.ref r,.ref c,.int m]/\n<=12/\rs.length<=24/\kx K H r rs/\(∀q∈rs,Oh n q)/\bg n rs=some L/\N5 K H c (cs.map fz)/\cs.length=n/\MA.Within n L cs/\(∀(v:Nat) (k:Int),cs.getD v none=some k->k<=99999)/\0<=m/\m < n /\
 (∀H',ag H H'->MA.eu n rs L cs m none->Q .non H')/\ ∀(t:Addr) (s:Int) (stop:Nat) (H':Hp),ag H H'->H' t=some (.tup [.int s,.int (stop:Nat)])->MA.eu n rs L cs m (some (s,stop))->Q (.ref t) H'
def BN (K:N7):Sp:=fun vs H Q _=> ∃(x:Int) (c:Option Int),vs=[.int x,fz c]/\Q (.int (MA.O2 x c)) H
theorem B5 (T:Txt K mg a):Oj P w K mg base 2 "excess" ["width","top"] (BN K):=by
 refine b9 T.t5 Br fun f c A o s H vs Q E hr h=>?_
 obtain⟨x,c,rfl,q⟩:=h
 refine⟨_,(ah (av (jy (xD (bQ K (aE (xq T) hr.mm (ao (pv 0) (N6 (pv 1))))) (ax pj (pv 0) (pv 1)) aa)))),?_⟩
 refine⟨fun v' H'=>v'= .int (MA.O2 x c)/\H'=H,?_,fun v' H' z=>by rw[z.1,z.2]; exact q⟩
 refine⟨_,rfl,_,rfl,x,c,rfl,_,rfl,?_⟩
 cases c with
 | none=>exact aD ⟨rfl,rfl⟩
 | some c =>
  refine bD (fun z=>?_) (fun z=>?_)
  .have z:c < x:=KY z
   refine⟨_,rfl,_,rfl,_,_,rfl,rfl,?_,rfl⟩
   show _=V.int (if c < x then x - c else 0)
   rw[Ks z]
  .have z: ¬c < x:=Lh (K8 _▸z)
   refine⟨?_,rfl⟩
   show _=V.int (if c < x then x - c else 0)
   rw[Kp z]
theorem zl {cs:List (Option Int)}{i:Nat}{x:V}(h:(cs.map fz)[i]?=some x):x=fz (cs.getD i none):=by
 rw[KH] at h
 rw[KA]
 cases e:cs[i]? with
 | none=>rw[e] at h; cases h
 | some y=>rw[e] at h; exact (KS h).symm
theorem FC {ws:List Int}{i:Nat}{x:V}(h:(ws.map V.int)[i]?=some x):i < ws.length/\x= .int (MA.g ws (i:Nat)):=by
 rw[KH] at h
 cases e:ws[i]? with
 | none=>rw[e] at h; cases h
 | some y =>
  rw[e] at h
  obtain⟨hl,rfl⟩:=Ky.mp e
  refine⟨hl,?_⟩
  rw[show MA.g ws (i:Nat)=ws[i] from by unfold MA.g; rw[KW,KA,e]; rfl]
  exact (KS h).symm
theorem Dm {es:List Int}{M:Int}(h:M∈es): ∃j:Nat,es[j]?=some M/\ ∀v,v < j->es[v]?≠some M:=by
 induction es with
 | nil=>cases h
 | cons a es ih =>
  by_cases e:a=M
  .subst e
   exact⟨0,rfl,fun v hv=>absurd hv (Lw _)⟩
  .obtain⟨j,h1,h2⟩:=ih ((Kz.mp h).resolve_left fun z=>e z.symm)
   refine⟨j+1,h1,fun v hv=>?_⟩
   cases v with
   | zero=>intro z; exact e (KS z)
   | succ v=>exact h2 v (by omega)
theorem yJ (T:Txt K mg a):Oj P w K mg base 5 "slack_of" ["count","rules","tops","member"] (yD K):=by
 refine lb T.qo gm (fun _ _ _ _ _ _=>Pz fun _ _ _ _=>rfl) (fun vs H Q E h=>?_) fun f cdv A outer s0 H vs Q E hr h=>?_
 .obtain⟨n,r,rs,L,c,cs,m,rfl,_⟩:=h
  rfl
 .obtain⟨n,r,rs,L,c,cs,m,rfl,hn,hl,hR,hk,eL,hc,cl,hW,_,m0,m1,k1,k2⟩:=h
  obtain⟨l1,l2,l3,l4⟩:=MA.cP hk eL
  refine⟨_,(ae (Oa 4 gm.nd (aE (iR T) hr.mm (ao (pv 0) (N6 (pv 1))))) (eF (Oa 5 gm.nd (ax bH (show PE _ _ (El K _ _) from Fx rfl rfl T.kR (gW jB ["top"] [] [] OG (dB K (pv 2)) (fun C s2 H2 fp=>⟨(gn 0 (Oy ["top"])),(jb (aG fN (pv 0) bu)),(pv 0)⟩)) aa) aa)) (ae (Oa 6 gm.nd (aE (iR T) hr.mm (ao (pv 0) (N6 (ax gh (pv 1) (bh (N6 (bF (ao (pv 3) (ao (j9 T.ly) (N6 (ax bH (Od K (pv 4) (pv 3)) (pv 5))))))))))))) (ae (Pr 7 gm.nd jB ["width","top"] [] [] (yg (K:=K) (k:=2) (kj (kn (by decide:0 < 2)) g9 (kj (kn (by decide:1 < 2)) g9 vb mC) (tY g9 mC))) (F7 rfl T.Al (ao (pv 6) (N6 (pv 2)))) (fun C s2 H2 fp=>⟨(show PG _ _ (xM K 2 _) from fG (n:=2) rfl (aR (gn 0 (Oy ["width","top"])) (aR (gn 1 (Oy ["width","top"])) eG))),d6,(aE (B5 T) hr.mm (ao (pv 0) (N6 (pv 1))))⟩)) (ae (Oa 8 gm.nd (bc (show cX _ _ (GL K) from Bb rfl) (by rfl) T.kR boot_max (N6 (pv 7)))) (ae (aF (aG aZ (pv 8) aa) (ah (av bu)) aw) (ah (av (bF (ao (ax pj (pv 5) (pv 8)) (N6 (show PE _ _ (O3 K _ _ _ _) from jP Lj LM LO CW (pv 7) (N6 (pv 8)))))))))))))),?_⟩
  refine⟨_,rfl,_,rfl,n,r,rs,rfl,by omega,hR.Ph,hk,fun H1 _ z=>(by rw[eL] at z; cases z),fun w L0 H1 nw s1 e hw=>?_⟩
  rw[eL] at e
  cases e
  have cap0: ∀(v:Nat) (k:Int),cs.getD v none=some k->k∈cs.filterMap id:=fun v k e=>by
   refine ME.mpr ⟨some k,?_,rfl⟩
   rw[KA] at e
   cases e2:cs[v]? with
   | none=>rw[e2] at e; cases e
   | some y=>rw[e2] at e; cases (show y=some k from e); exact Kw e2
  have nn: ∀k∈cs.filterMap id,0<=k:=fun k hk'=>by
   obtain⟨y,y1,y2⟩:=ME.mp hk'
   cases (show y=some k from y2)
   obtain⟨v,hv,e⟩:=LL.mp y1
   have:=hW v k (by omega) (by rw[KA,Kr hv,e]; rfl)
   have:=l3 (v:Nat) (by omega) (by omega)
   omega
  refine⟨fun σ' H'=> ∃x:Int,0<=x/\(∀k∈cs.filterMap id,k<=x)/\σ'=[some (.int n),some (.ref r),some (.ref c),some (.int m),some (.ref w),some (.int (x+1)),none,none,none]/\ag H H'/\H' w=some (.lst (L.map V.int)),?_,?_⟩
  .refine⟨_,rfl,c,rfl,⟨_,s1.seq hc⟩,?_⟩
   refine cg (xs:=cs.map fz) (fun i ys H'=>ag H1 H'/\ys=(((cs.take i).filterMap id).map V.int)) (fun i ys H' _ h=>bo (h.1.seq (s1.seq hc))) ⟨ag.refl H1,rfl⟩ (aJ (by rw[Kq]; omega)) (fun i ys H' h=>by rw[h.2,Kq]; exact KR (List.length_filterMap_le _ _) (by rw[K0]; exact LI _ _)) ?_ ?_
   .rintro i ys H2 x hi ⟨sm,rfl⟩
    have hil:i < cs.length:=by have:=(Ky.mp hi).1; rwa [Kq] at this
    obtain rfl:=zl hi
    have tk:cs.take (i+1)=cs.take i++[cs.getD i none]:=by
     rw[La,KA,Kr hil]
     rfl
    refine⟨_,rfl,rfl,_,rfl,?_⟩
    rw[tk,List.filterMap_append,KO]
    cases e:cs.getD i none with
    | none=>exact aD ⟨sm,by simp⟩
    | some c0=>exact aU ⟨_,rfl,sm,by simp[fz]⟩
   .rintro ys H2 p ⟨sm,rfl⟩ np
    rw[Kq,K6] at *
    have s2:=s1.trans (sm.trans (ag.upd (o:= .lst ((cs.filterMap id).map V.int)) np))
    have hw2:=(sm.trans (ag.upd (o:= .lst ((cs.filterMap id).map V.int)) np)) _ _ hw
    have hp2:(upd H2 p (.lst ((cs.filterMap id).map V.int))) p=some (.lst ((cs.filterMap id).map V.int)):=af
    generalize upd H2 p (.lst ((cs.filterMap id).map V.int))=H3 at s2 hw2 hp2
    exact⟨p,cs.filterMap id,rfl,N5.of hp2,0,rfl,N5.of hp2,fun z=>⟨_,_,rfl,rfl,0,K3 _,(fun k hk'=>by rw[z] at hk'; cases hk'),rfl,s2,hw2⟩,fun M hM hle=>⟨_,_,rfl,rfl,M,nn M hM,hle,rfl,s2,hw2⟩⟩
  rintro σ' H3 ⟨x,x0,hx,rfl,s2,hw2⟩
  have hx': ∀(v:Nat) (k:Int),cs.getD v none=some k->k < x+1:=fun v k e=>by have:=hx k (cap0 v k e); omega
  obtain⟨hk',W,eW,wl,wv⟩:=MA.zR hk eL m0 m1 (show 0<=x+1 by omega)
  obtain⟨xs,hxs,hX⟩:=hR.same s2
  have xl:=hX.length
  refine⟨_,rfl,_,rfl,_,rfl,_,rfl,_,rfl,w,_,_,_,rfl,rfl,N5.of hw2,fj m0 (by rw[l1]; exact m1),_,rfl,_,_,rfl,rfl,(by show 3<=sizeLine; decide),fun t nt=>⟨(by show 1<=sizeLine; decide),fun l nl=>?_⟩⟩
  have st:=ag.upd (o:= .tup [.int m,.int (-1),.int (MA.g L m+(x+1))]) nt
  have sl:=ag.upd (o:= .lst [.ref t]) nl
  have hl1:(upd (upd H3 t (.tup [.int m,.int (-1),.int (MA.g L m+(x+1))])) l (.lst [.ref t])) l=some (.lst [.ref t]):=af
  have ht1:=sl _ _ (af (H:=H3) (a:=t) (o:= .tup [.int m,.int (-1),.int (MA.g L m+(x+1))]))
  refine⟨r,l,_,_,rfl,rfl,(st.trans sl) _ _ hxs,hl1,by rw[xl]; exact K7 (aJ (by show rs.length+1<=1000; omega)),fun r3 nr3=>?_⟩
  have sr:=ag.upd (o:= .lst (xs++[.ref t])) nr3
  have s4:=(st.trans sl).trans sr
  have ht4:=sr _ _ ht1
  have hr4:(upd (upd (upd H3 t (.tup [.int m,.int (-1),.int (MA.g L m+(x+1))])) l (.lst [.ref t])) r3 (.lst (xs++[.ref t]))) r3=some (.lst (xs++[.ref t])):=af
  generalize upd (upd (upd H3 t (.tup [.int m,.int (-1),.int (MA.g L m+(x+1))])) l (.lst [.ref t])) r3 (.lst (xs++[.ref t]))=H4 at s4 ht4 hr4
  have hX4:cy K H4 (xs++[.ref t]) (rs++[(m,-1,MA.g L m+(x+1))]):=(hX.same s4).append (.cons ⟨t,rfl,N9.of ht4⟩ .nil)
  refine⟨n,r3,_,rfl,by omega,⟨_,N5.of hr4,hX4⟩,hk',fun H5 _ z=>(by rw[eW] at z; cases z),fun w2 L0 H5 nw2 s5 e hw5=>?_⟩
  rw[eW] at e
  cases e
  have s25:=(s2.trans s4).trans s5
  have hc5:=s25.seq hc
  refine⟨_,rfl,_,rfl,w2,c,rfl,⟨_,N5.of hw5⟩,⟨_,hc5⟩,?_⟩
  refine DQ (xs:=W.map V.int) (zs:=cs.map fz) (fun i ys H'=>ag H5 H'/\ys=((List.range i).map fun v=>MA.O2 (MA.g W (v:Nat)) (cs.getD v none)).map V.int) (fun i ys H' h=>⟨N5.of (h.1 _ _ hw5),h.1.seq hc5⟩) (by rw[Kq,Kq]; omega) ⟨ag.refl H5,rfl⟩ (aJ (by rw[Kq]; omega)) (fun i ys H' h=>by rw[h.2,Kq,Kq,LA]; exact Ku _) ?_ ?_
  .rintro i ys H6 y z t6 hy hz ⟨sm,rfl⟩ nt6
   obtain⟨hil,rfl⟩:=FC hy
   obtain rfl:=zl hz
   have s7:=sm.trans (ag.upd (o:= .tup [.int (MA.g W (i:Nat)),fz (cs.getD i none)]) nt6)
   refine⟨t6,_,rfl,N9.of af,rfl,_,_,rfl,_,_,rfl,rfl,?_⟩
   dsimp only[g8]
   refine aU ⟨_,rfl,_,rfl,_,_,rfl,s7,?_⟩
   rw[L4,KO,KO]
   rfl
  .rintro ys H6 p6 ⟨sm,rfl⟩ np6
   rw[Kq,wl] at *
   generalize hes:((List.range n).map fun v=>MA.O2 (MA.g W (v:Nat)) (cs.getD v none))=es at *
   have esl:es.length=n:=by rw[<-hes,Kq,LA]
   have esg: ∀v:Nat,v < n->es[v]?=some (MA.O2 (MA.g W (v:Nat)) (cs.getD v none)):=fun v hv=>by rw[<-hes,KH,List.getElem?_range hv]; rfl
   have s7:=s25.trans (sm.trans (ag.upd (o:= .lst (es.map V.int)) np6))
   have hp7:(upd H6 p6 (.lst (es.map V.int))) p6=some (.lst (es.map V.int)):=af
   dsimp only[aO,List.set]
   generalize upd H6 p6 (.lst (es.map V.int))=H7 at s7 hp7
   refine⟨_,rfl,p6,es,rfl,N5.of hp7,by omega,fun M hM hle=>?_⟩
   have cal:=MA.zG hk eL m0 m1 hW hx' wv (M:=M) fun v hv=>hle _ (Kw (esg v hv))
   refine⟨_,rfl,rfl,_,rfl,?_⟩
   refine bD (fun z=>?_) (fun z=>?_)
   .have z:M=0:=by simpa using z
    exact k1 _ s7 (cal.1 z)
   .have z: ¬M=0:=by simpa using z
    obtain⟨j,hj,hjm⟩:=Dm hM
    have hjn:j < n:=by rw[<-esl]; exact (Ky.mp hj).1
    refine⟨_,rfl,_,rfl,_,_,rfl,rfl,_,rfl,.inl ⟨rfl,_,N5.of hp7⟩,_,rfl,p6,es,M,j,rfl,rfl,hp7,hj,hjm,(by show 2<=sizeLine; decide),fun t8 nt8=>?_⟩
    refine k2 t8 (x+1 - M) j _ (s7.trans (ag.upd nt8)) af (cal.2 j hjn ?_ (fun v hv e=>?_) z)
    .rw[esg j hjn] at hj; exact KS hj
    .exact hjm v hv (by rw[esg v (by omega),e])
def zW (K:N7):Sp:=fun vs H Q _=> ∃(n:Nat) (r:Addr) (rs:List MA.au) (L L':List Int) (k:Nat),vs=[.int n,.ref r,.int k]/\n<=12/\rs.length<=24/\OU K H r rs/\(∀q∈rs,Oh n q)/\bg n rs=some L/\k < rs.length/\bg n (rs.take k++rs.drop (k+1))=some L'/\ ∀H',ag H H'->Q (.int (L.sum - L'.sum)) H'
theorem Ay (T:Txt K mg a):Oj P w K mg base 5 "cost_of" ["count","rules","place"] (zW K):=by
 refine b9 T.rR uE fun f c A o s H vs Q E hr h=>?_
 obtain⟨n,r,rs,L,L',k,rfl,hn,hl,hR,hk,eL,hkl,eL',q⟩:=h
 refine⟨_,(ae (Oa 3 uE.nd (ax gh (eJ (Pc K) (pv 1) fP (fE (pv 2))) (eJ (Pc K) (pv 1) (fE (ax bH (pv 2) aa)) fP))) (ah (av (ax pj (bc (show cX _ _ (C7 K) from xv rfl) (by rfl) T.wJ boot_sum (N6 (aE (iR T) hr.mm (ao (pv 0) (N6 (pv 1)))))) (bc (show cX _ _ (C7 K) from xv rfl) (by rfl) T.wJ boot_sum (N6 (aE (iR T) hr.mm (ao (pv 0) (N6 (pv 3)))))))))),?_⟩
 obtain⟨xs,hx,hX⟩:=id hR
 have hxl:=hX.length
 refine⟨_,rfl,_,rfl,_,rfl,r,xs,rfl,hx,fun c1 nc1=>?_⟩
 rw[uH]
 refine⟨_,rfl,_,rfl,_,_,rfl,rfl,_,rfl,r,xs,rfl,(ag.upd nc1).seq hx,fun c2 nc2=>?_⟩
 rw[show (((k:Nat):Int)+1)=((k+1:Nat):Int) by omega,pS]
 refine⟨c1,c2,_,_,rfl,rfl,ag.upd nc2 _ _ af,af,by rw[K0,Lv]; exact K7 (aJ (by omega)),fun c3 nc3=>?_⟩
 have s4:=((ag.upd (o:= .lst (xs.take k)) nc1).trans (ag.upd (o:= .lst (xs.drop (k+1))) nc2)).trans (ag.upd (o:= .lst (xs.take k++xs.drop (k+1))) nc3)
 have hX4:cy K _ (xs.take k++xs.drop (k+1)) (rs.take k++rs.drop (k+1)):=(hX.same s4 |>.take k).append (hX.same s4 |>.drop (k+1))
 have h3:(upd (upd (upd H c1 (.lst (xs.take k))) c2 (.lst (xs.drop (k+1)))) c3 (.lst (xs.take k++xs.drop (k+1)))) c3=some (.lst (xs.take k++xs.drop (k+1))):=af
 dsimp only[aO,L2.start,List.set]
 generalize upd (upd (upd H c1 (.lst (xs.take k))) c2 (.lst (xs.drop (k+1)))) c3 (.lst (xs.take k++xs.drop (k+1)))=H4 at s4 hX4 h3
 have hsub: ∀q∈rs.take k++rs.drop (k+1),q∈rs:=fun q hq=>by
  rcases KI.mp hq with hq | hq
  .exact MV hq
  .exact MU hq
 refine⟨_,rfl,_,rfl,n,r,rs,rfl,by omega,hR.same s4,hk,fun H5 _ z=>(by rw[eL] at z; cases z),fun p L0 H5 np s5 e hp=>?_⟩
 rw[eL] at e
 cases e
 refine⟨p,L,rfl,N5.of hp,?_⟩
 refine⟨_,rfl,_,rfl,n,c3,_,rfl,by omega,⟨_,N5.of (s5 _ _ h3),hX4.same s5⟩,fun q hq=>hk q (hsub q hq),fun H6 _ z=>(by rw[eL'] at z; cases z),fun p2 L0 H6 np2 s6 e hp2=>?_⟩
 rw[eL'] at e
 cases e
 exact⟨p2,L',rfl,N5.of hp2,_,_,rfl,rfl,q _ ((s4.trans s5).trans s6)⟩
def Hm (K:N7):Sp:=fun vs H Q _=> ∃(n:Nat) (r:Addr) (rs:List MA.au),vs=[.int n,.ref r]/\n<=1000/\OU K H r rs/\(∀q∈rs,Oh n q)/\ ∀(p:Addr) (ds:List Addr) (H':Hp),OB H H' n p ds (MA.aL n rs)->Q (.ref p) H'
theorem G6 (T:Txt K mg a):Oj P w K mg base 1 "_law_far" ["_law_count","_law_rules_here"] (Hm K):=by
 refine b9 T.rQ eA fun f c A o s H vs Q E hr h=>?_
 obtain⟨n,r,rs,rfl,hn,⟨xs,hx,hX⟩,hk,q⟩:=h
 refine⟨_,(ae (Pr 2 eA.nd n6 ["_law_k"] ["_law_count"] [0] OG (gB T.cF (pv 0)) (fun C s2 H2 fp=>⟨(gn 0 (Oy ["_law_k","_law_count"])),d6,(ax rC (bh (N6 (wN ue aa))) (pv 1))⟩)) (ae (de (gB T.cF (pv 0)) (gn 3 eA.nd) (ah (gF aa (lu (Od K (pv 2) (pv 3)) (pv 3) set_list)))) (ae (de (dB K (pv 1)) (fG rfl (aR (gn 4 eA.nd) (aR (gn 5 eA.nd) (aR (gn 6 eA.nd) eG)))) (ah (aF (aG wM (pv 5) aa) (ah (gF (bc (jg rfl) (by rfl) T.kR boot_max (ao (Od K (Od K (pv 2) (pv 5)) (pv 4)) (N6 (pv 6)))) (lu (Od K (pv 2) (pv 5)) (pv 4) set_list))) aw))) (ae (de (gB T.cF (pv 0)) (gn 7 eA.nd) (ah (de (gB T.cF (pv 0)) (gn 8 eA.nd) (ae (aF (aG nY (Od K (Od K (pv 2) (pv 8)) (pv 7)) aa) (ah yw) aw) (ah (de (gB T.cF (pv 0)) (gn 9 eA.nd) (ah (aF (aG wM (Od K (Od K (pv 2) (pv 7)) (pv 9)) aa) (ah (gF (bc (jg rfl) (by rfl) T.kR boot_max (ao (Od K (Od K (pv 2) (pv 8)) (pv 9)) (N6 (ax bH (Od K (Od K (pv 2) (pv 8)) (pv 7)) (Od K (Od K (pv 2) (pv 7)) (pv 9)))))) (lu (Od K (pv 2) (pv 8)) (pv 9) set_list))) aw)))))))) (ah (av (pv 2))))))),?_⟩
 refine⟨_,rfl,_,rfl,by omega,by omega,?_⟩
 rw[KW]
 refine Ad (fun i ys H2=> ∃ds:List Addr,ys=ds.map V.ref/\ds.length=i/\ds.Nodup/\(∀d∈ds,H2 d=some (.lst (List.replicate n (V.int (-1))))/\H d=none)/\ag H H2) ⟨[],rfl,rfl,MO,(fun d hd=>by cases hd),ag.refl H⟩ (aJ hn) (fun i ys H2 ⟨ds,e,hl,_⟩=>by rw[e,Kq]; exact hl) ?_ ?_
 .rintro i ys H2 hi ⟨ds,rfl,hl,nd,hr2,sm⟩
  refine⟨_,rfl,(by show 1<=sizeLine; decide),fun l0 n0=>?_⟩
  refine⟨_,rfl,l0,_,_,rfl,rfl,af,by omega,by omega,by show 1*(n:Int).toNat<=sizeLine; rw[KW,Nat.one_mul]; exact K7 (aJ hn),fun l nl=>?_⟩
  have s2:ag H2 (upd (upd H2 l0 (.lst [.int (-1)])) l (.lst (List.replicate n (V.int (-1))))):=(ag.upd n0).trans (ag.upd nl)
  have e1:(List.replicate (n:Int).toNat [V.int (-1)]).flatten=List.replicate n (V.int (-1)):=by rw[KW]; simp
  refine⟨ds++[l],by rw[KO]; rfl,by rw[KC,hl]; rfl,?_,fun d hd=>?_,?_⟩
  .refine LR.mpr ⟨nd,Ls.mpr ⟨Ll,MO⟩,fun d hd e he=>?_⟩
   rw[Kt.mp he]
   exact az (ag.upd n0 _ _ (hr2 d hd).1) nl
  .rcases KI.mp hd with hd | hd
   .refine⟨?_,(hr2 d hd).2⟩
    rw[ai (az (ag.upd n0 _ _ (hr2 d hd).1) nl)]
    exact ag.upd n0 _ _ (hr2 d hd).1
   .rw[Kt.mp hd]
    exact⟨by rw[af,e1],sm.free ((ag.upd n0).free nl)⟩
  .exact sm.trans ((ag.upd n0).trans (ag.upd nl))
 rintro ys H2 p ⟨ds,e,hl,nd,hr2,sm⟩ hp
 have m0:OB H (upd H2 p (.lst ys)) n p ds (fun _ _=> -1):=OB.grow ds e hl nd hr2 sm hp
 clear hr2 e nd hl sm hp
 generalize upd H2 p (.lst ys)=H3 at m0
 refine⟨_,rfl,_,rfl,by omega,by omega,?_⟩
 rw[KW]
 refine bA (xs:=cj 0 n) (fun i σ' H'=> ∃v3:Option V,σ'=[some (.int n),some (.ref r),some (.ref p),v3,none,none,none,none,none,none]/\OB H H' n p ds ((List.range i).foldl MA.wR (fun _ _=> -1))) ⟨none,rfl,m0⟩ (fun i σ' H' _ _=>cK) ?_ ?_
 .rintro i x σ' H' D1 nx1 - hi ⟨v3,rfl,m⟩
  obtain⟨hin,rfl⟩:=bW hi
  obtain⟨d,hd,ha,hrow⟩:=m.at (a:=0+(i:Nat)) (by omega) (by omega)
  refine⟨_,rfl,_,rfl,p,_,_,_,rfl,rfl,N5.of m.top,ha,_,rfl,d,_,_,_,rfl,rfl,hrow,by rw[kO]; exact lg (by omega) (by omega),?_⟩
  have ei:(0+(i:Nat):Int).toNat=i:=by omega
  rw[ei] at hd hrow ⊢
  refine nx1 _ _ ⟨_,rfl,?_⟩
  rw[dI]
  exact m.put hd hin
 rintro σ1 H1 ⟨v3,rfl,m1⟩
 rw[cR] at m1
 have m1:OB H H1 n p ds (MA.M1 n):=m1
 refine⟨_,rfl,r,rfl,⟨_,m1.sm.seq hx⟩,?_⟩
 refine bA (xs:=xs) (fun i σ' H'=> ∃v4 v5 v6:Option V,σ'=[some (.int n),some (.ref r),some (.ref p),v3,v4,v5,v6,none,none,none]/\OB H H' n p ds ((rs.take i).foldl MA.OV (MA.M1 n))) ⟨none,none,none,rfl,m1⟩ (fun i σ' H' _ ⟨_,_,_,_,m⟩=>bo (m.sm.seq hx)) ?_ ?_
 .rintro i x σ' H' D1 nx1 - hi ⟨v4,v5,v6,rfl,m⟩
  obtain⟨rl,hq,t,rfl,ht⟩:=hX.get hi
  obtain⟨k1,k2,k3,k4,k5⟩:=hk rl (Kw hq)
  refine⟨t,_,rfl,m.sm.iX ht,rfl,_,_,rfl,_,_,rfl,_,_,rfl,rfl,?_⟩
  refine⟨_,rfl,_,_,rfl,rfl,_,rfl,?_⟩
  refine bD (fun c=>?_) (fun c=>?_)
  .have c:=KY c
   obtain⟨d,hd,ha,hrow⟩:=m.at (a:=rl.2.1) c k4
   refine⟨_,rfl,_,rfl,p,_,_,_,rfl,rfl,N5.of m.top,ha,_,rfl,d,_,_,_,rfl,rfl,N5.of hrow,my k1 k2,_,rfl,_,_,rfl,?_⟩
   refine⟨_,rfl,_,rfl,p,_,_,_,rfl,rfl,N5.of m.top,ha,_,rfl,d,_,_,_,rfl,rfl,hrow,by rw[kO]; exact lg k1 k2,?_⟩
   refine nx1 _ _ ⟨_,_,_,rfl,?_⟩
   rw[foldl_take_succ MA.OV _ hq]
   unfold MA.OV
   rw[Ks c]
   exact m.put hd (by omega)
  .have c:=Lh (K8 _▸c)
   refine nx1 _ _ ⟨_,_,_,rfl,?_⟩
   rw[foldl_take_succ MA.OV _ hq]
   show OB H H' n p ds (MA.OV _ rl)
   rw[show ∀M,MA.OV M rl=M from fun M=>Kp c]
   exact m
 rintro σ2 H2 ⟨v4,v5,v6,rfl,m2⟩
 rw[hX.length,K6] at m2
 have m2:OB H H2 n p ds (MA.M2 n rs):=m2
 refine⟨_,rfl,_,rfl,by omega,by omega,?_⟩
 rw[KW]
 refine bA (xs:=cj 0 n) (fun k σ' H'=> ∃v7 v8 v9:Option V,σ'=[some (.int n),some (.ref r),some (.ref p),v3,v4,v5,v6,v7,v8,v9]/\OB H H' n p ds ((List.range k).foldl (MA.mid n) (MA.M2 n rs))) ⟨none,none,none,rfl,m2⟩ (fun i σ' H' _ _=>cK) ?_ ?_
 .rintro k x σ' H' D1 nx1 - hi ⟨v7,v8,v9,rfl,m⟩
  obtain⟨hkn,rfl⟩:=bW hi
  generalize hD:(List.range k).foldl (MA.mid n) (MA.M2 n rs)=D at m
  have ek:(0+(k:Nat):Int).toNat=k:=by omega
  refine⟨_,rfl,_,rfl,by omega,by omega,?_⟩
  rw[KW]
  refine zJ (xs:=cj 0 n) (fun i σ' H'=> ∃v8 v9:Option V,σ'=[some (.int n),some (.ref r),some (.ref p),v3,v4,v5,v6,some (.int (0+(k:Nat))),v8,v9]/\OB H H' n p ds ((List.range i).foldl (MA.lV n k) D)) ⟨v8,v9,rfl,m⟩ (fun i σ' H' _ _=>cK) ?_ ?_
  .clear m
   rintro i x σ' H' D2 nx2 ct2 - - hi ⟨v8,v9,rfl,m⟩
   obtain⟨hin,rfl⟩:=bW hi
   generalize hF:(List.range i).foldl (MA.lV n k) D=F at m
   have ei:(0+(i:Nat):Int).toNat=i:=by omega
   obtain⟨d,hd,ha,hrow⟩:=m.at (a:=0+(i:Nat)) (by omega) (by omega)
   rw[ei] at hd hrow
   have hck:=my (M:=F) (i:=i) (b:=0+(k:Nat)) (n:=n) (by omega) (by omega)
   rw[ek] at hck
   refine⟨_,rfl,_,rfl,p,_,_,_,rfl,rfl,N5.of m.top,ha,_,rfl,d,_,_,_,rfl,rfl,N5.of hrow,hck,_,_,rfl,rfl,_,rfl,?_⟩
   have hstep:(List.range (i+1)).foldl (MA.lV n k) D=MA.lV n k F i:=by rw[dI,hF]
   refine bD (fun c=>?_) (fun c=>?_)
   .have c:=KY c
    refine ct2 _ _ ⟨_,_,rfl,?_⟩
    rw[hstep]
    unfold MA.lV
    rw[Ks c]
    exact m
   have c:=Lh (K8 _▸c)
   refine⟨_,rfl,_,rfl,by omega,by omega,?_⟩
   rw[KW]
   refine bA (xs:=cj 0 n) (fun j σ' H'=> ∃v9:Option V,σ'=[some (.int n),some (.ref r),some (.ref p),v3,v4,v5,v6,some (.int (0+(k:Nat))),some (.int (0+(i:Nat))),v9]/\OB H H' n p ds ((List.range j).foldl (MA.O0 k i) F)) ⟨v9,rfl,m⟩ (fun i σ' H' _ _=>cK) ?_ ?_
   .clear m hrow hck
    rintro j x σ' H' D3 nx3 - hi ⟨v9,rfl,m⟩
    obtain⟨hjn,rfl⟩:=bW hi
    generalize hG:(List.range j).foldl (MA.O0 k i) F=G at m
    have ej:(0+(j:Nat):Int).toNat=j:=by omega
    obtain⟨dk,hdk,hak,hrk⟩:=m.at (a:=0+(k:Nat)) (by omega) (by omega)
    rw[ek] at hdk hrk
    have hkj:=my (M:=G) (i:=k) (b:=0+(j:Nat)) (n:=n) (by omega) (by omega)
    rw[ej] at hkj
    refine⟨_,rfl,_,rfl,p,_,_,_,rfl,rfl,N5.of m.top,hak,_,rfl,dk,_,_,_,rfl,rfl,N5.of hrk,hkj,_,_,rfl,rfl,_,rfl,?_⟩
    have hst:(List.range (j+1)).foldl (MA.O0 k i) F=MA.O0 k i G j:=by rw[dI,hG]
    refine bD (fun c2=>?_) (fun c2=>?_)
    .have c2:=KY c2
     obtain⟨di,hdi,hai,hri⟩:=m.at (a:=0+(i:Nat)) (by omega) (by omega)
     rw[ei] at hdi hri
     have hij:=my (M:=G) (i:=i) (b:=0+(j:Nat)) (n:=n) (by omega) (by omega)
     rw[ej] at hij
     have hik:=my (M:=G) (i:=i) (b:=0+(k:Nat)) (n:=n) (by omega) (by omega)
     rw[ek] at hik
     refine⟨_,rfl,_,rfl,p,_,_,_,rfl,rfl,N5.of m.top,hai,_,rfl,di,_,_,_,rfl,rfl,N5.of hri,hij,?_⟩
     refine⟨_,rfl,_,rfl,p,_,_,_,rfl,rfl,N5.of m.top,hai,_,rfl,di,_,_,_,rfl,rfl,N5.of hri,hik,?_⟩
     refine⟨_,rfl,_,rfl,p,_,_,_,rfl,rfl,N5.of m.top,hak,_,rfl,dk,_,_,_,rfl,rfl,N5.of hrk,hkj,_,_,rfl,rfl,_,_,rfl,?_⟩
     refine⟨_,rfl,_,rfl,p,_,_,_,rfl,rfl,N5.of m.top,hai,_,rfl,di,_,_,_,rfl,rfl,hri,by rw[kO]; exact lg (by omega) (by omega),?_⟩
     rw[ej]
     refine nx3 _ _ ⟨_,rfl,?_⟩
     rw[hst]
     unfold MA.O0
     rw[Ks c2]
     exact m.put hdi hjn
    .have c2:=Lh (K8 _▸c2)
     refine nx3 _ _ ⟨_,rfl,?_⟩
     rw[hst]
     unfold MA.O0
     rw[Kp c2]
     exact m
   .rintro σ' H' ⟨v9,rfl,m⟩
    rw[cR] at m
    refine nx2 _ _ ⟨_,_,rfl,?_⟩
    rw[hstep]
    unfold MA.lV
    rw[Kp c]
    exact m
  .rintro σ' H' ⟨v8,v9,rfl,m⟩
   rw[cR] at m
   refine nx1 _ _ ⟨_,_,_,rfl,?_⟩
   rw[dI,hD]
   exact m
 .rintro σ' H' ⟨v7,v8,v9,rfl,m⟩
  rw[cR] at m
  exact⟨_,rfl,q p ds H' m⟩
def B3 (K:N7):Sp:=fun vs H Q _=> ∃(n:Nat) (r:Addr) (rs:List MA.au),vs=[.int n,.ref r]/\n<=1000/\OU K H r rs/\(∀q∈rs,Oh n q)/\ ∀(p:Addr) (H':Hp),H p=none->ag H H'->H' p=some (.lst ((MA.du n rs).map V.int))->Q (.ref p) H'
theorem Cs (T:Txt K mg a):Oj P w K mg base 2 "_law_least" ["_law_count","_law_rules_here"] (B3 K):=by
 refine b9 T.oG dq fun f c A o s H vs Q E hr h=>?_
 obtain⟨n,r,rs,rfl,hn,hR,hk,q⟩:=h
 obtain⟨xs,hx,hX⟩:=id hR
 refine⟨_,(ae (Oa 2 dq.nd (aE (G6 T) hr.mm (ao (pv 0) (N6 (pv 1))))) (ae (Oa 3 dq.nd (ax rC (bh (N6 aa)) (pv 0))) (ae (de (dB K (pv 1)) (fG rfl (aR (gn 4 dq.nd) (aR (gn 5 dq.nd) (aR (gn 6 dq.nd) eG)))) (ah (aF (aG nY (pv 5) aa) (ah (gF (bc (jg rfl) (by rfl) T.kR boot_max (ao (Od K (pv 3) (pv 4)) (N6 (pv 6)))) (lu (pv 3) (pv 4) set_list))) aw))) (ae (Oa 7 dq.nd (ax rC (bh (N6 aa)) (pv 0))) (ae (de (gB T.cF (pv 0)) (gn 8 dq.nd) (ah (de (gB T.cF (pv 0)) (gn 9 dq.nd) (ah (aF (aG wM (Od K (Od K (pv 2) (pv 8)) (pv 9)) aa) (ah (gF (bc (jg rfl) (by rfl) T.kR boot_max (ao (Od K (pv 7) (pv 9)) (N6 (ax bH (Od K (pv 3) (pv 8)) (Od K (Od K (pv 2) (pv 8)) (pv 9)))))) (lu (pv 7) (pv 9) set_list))) aw))))) (ah (av (pv 7)))))))),?_⟩
 refine⟨_,rfl,_,rfl,n,r,rs,rfl,hn,hR,hk,fun p ds H1 m=>?_⟩
 have rep: ∀ {l0 l:Addr}{H':Hp} (n0:H' l0=none) (nl:(upd H' l0 (.lst [.int 0])) l=none),(upd (upd H' l0 (.lst [.int 0])) l (.lst (List.replicate (n:Int).toNat [V.int 0]).flatten)) l=some (.lst ((List.replicate n (0:Int)).map V.int)):=fun n0 nl=>by
  rw[af,KW]
  simp
 have hrep:1*(n:Int).toNat<=sizeLine:=by rw[KW,Nat.one_mul]; exact K7 (aJ hn)
 refine⟨(by show 1<=sizeLine; decide),fun l0 n0=>⟨_,rfl,l0,_,_,rfl,rfl,af,by omega,by omega,hrep,fun l nl=>?_⟩⟩
 have s1:=(ag.upd (o:= .lst [.int 0]) n0).trans (ag.upd (o:= .lst (List.replicate (n:Int).toNat [V.int 0]).flatten) nl)
 have hl1:=rep n0 nl
 have nlH:H1 l=none:=(ag.upd n0).free nl
 have m1:OB H (upd (upd H1 l0 (.lst [.int 0])) l (.lst (List.replicate (n:Int).toNat [V.int 0]).flatten)) n p ds (MA.aL n rs):=⟨s1 _ _ m.top,m.len,m.nd,m.np,fun i d hd=>s1 _ _ (m.row i d hd),m.sm.trans s1,m.fp,m.fd⟩
 generalize upd (upd H1 l0 (.lst [.int 0])) l (.lst (List.replicate (n:Int).toNat [V.int 0]).flatten)=H2 at s1 hl1 m1
 clear n0 nl rep
 refine⟨_,rfl,r,rfl,⟨_,m1.sm.seq hx⟩,?_⟩
 refine bA (xs:=xs) (fun i σ' H'=> ∃v4 v5 v6:Option V,σ'=[some (.int n),some (.ref r),some (.ref p),some (.ref l),v4,v5,v6,none,none,none]/\ag H1 H'/\H' l=some (.lst (((rs.take i).foldl MA.ft (List.replicate n 0)).map V.int))) ⟨none,none,none,rfl,s1,hl1⟩ (fun i σ' H' _ ⟨_,_,_,_,sm,_⟩=>bo ((m.sm.trans sm).seq hx)) ?_ ?_
 .clear s1 hl1 m1
  rintro i x σ' H' D1 nx1 - hi ⟨v4,v5,v6,rfl,sm,hl⟩
  obtain⟨rl,hq,t,rfl,ht⟩:=hX.get hi
  obtain⟨k1,k2,k3,k4,k5⟩:=hk rl (Kw hq)
  have hlen:((rs.take i).foldl MA.ft (List.replicate n 0)).length=n:=(MA.gS _ (fun _ _=>MA.kA) _ _).trans (by simp)
  have hst:(rs.take (i+1)).foldl MA.ft (List.replicate n 0)=MA.ft ((rs.take i).foldl MA.ft (List.replicate n 0)) rl:=foldl_take_succ _ _ hq
  generalize (rs.take i).foldl MA.ft (List.replicate n 0)=G at hl hlen hst
  refine⟨t,_,rfl,(m.sm.trans sm).iX ht,rfl,_,_,rfl,_,_,rfl,_,_,rfl,rfl,?_⟩
  refine⟨_,rfl,_,_,rfl,rfl,_,rfl,?_⟩
  refine bD (fun c=>?_) (fun c=>?_)
  .have c:=KY c
   refine⟨_,rfl,_,rfl,l,_,_,_,rfl,rfl,N5.of hl,fj k1 (by omega),_,rfl,_,_,rfl,_,rfl,_,rfl,l,_,_,_,rfl,rfl,hl,by rw[Kq,hlen]; exact lg k1 k2,?_⟩
   refine nx1 _ _ ⟨_,_,_,rfl,sm.dA nlH,?_⟩
   rw[af,hst,<-Nk]
   unfold MA.ft
   rw[Ks c]
   rfl
  .have c:=Lh (K8 _▸c)
   refine nx1 _ _ ⟨_,_,_,rfl,sm,?_⟩
   rw[hst]
   unfold MA.ft
   rw[Kp c]
   exact hl
 rintro σ3 H3 ⟨v4,v5,v6,rfl,s3,hl3⟩
 rw[hX.length,K6] at hl3
 have hl3:H3 l=some (.lst ((MA.df n rs).map V.int)):=hl3
 have fl:(MA.df n rs).length=n:=MA.DA
 refine⟨(by show 1<=sizeLine; decide),fun l0 n0=>⟨_,rfl,l0,_,_,rfl,rfl,af,by omega,by omega,hrep,fun u nu=>?_⟩⟩
 have s4:=(ag.upd (o:= .lst [.int 0]) n0).trans (ag.upd (o:= .lst (List.replicate (n:Int).toNat [V.int 0]).flatten) nu)
 have hu4:(upd (upd H3 l0 (.lst [.int 0])) u (.lst (List.replicate (n:Int).toNat [V.int 0]).flatten)) u=some (.lst ((List.replicate n (0:Int)).map V.int)):=by
  rw[af,KW]
  simp
 have nuH:H3 u=none:=(ag.upd n0).free nu
 have nu1:H1 u=none:=s3.free nuH
 have nu0:H u=none:=m.sm.free nu1
 have mat: ∀ {H':Hp},ag H3 H'->OB H H' n p ds (MA.aL n rs):=fun z=>⟨(s3.trans z) _ _ m.top,m.len,m.nd,m.np,fun i d hd=>(s3.trans z) _ _ (m.row i d hd),m.sm.trans (s3.trans z),m.fp,m.fd⟩
 generalize upd (upd H3 l0 (.lst [.int 0])) u (.lst (List.replicate (n:Int).toNat [V.int 0]).flatten)=H4 at s4 hu4
 refine⟨_,rfl,_,rfl,by omega,by omega,?_⟩
 rw[KW]
 refine bA (xs:=cj 0 n) (fun i σ' H'=> ∃v8 v9:Option V,σ'=[some (.int n),some (.ref r),some (.ref p),some (.ref l),v4,v5,v6,some (.ref u),v8,v9]/\ag H3 H'/\H' u=some (.lst (((List.range i).foldl (MA.ku n (MA.aL n rs) (MA.df n rs)) (List.replicate n 0)).map V.int))) ⟨none,none,rfl,s4,hu4⟩ (fun i σ' H' _ _=>cK) ?_ ?_
 .rintro a x σ' H' D1 nx1 - hi ⟨v8,v9,rfl,sm,hu⟩
  obtain⟨han,rfl⟩:=bW hi
  have ea:(0+(a:Nat):Int).toNat=a:=by omega
  have ea2:(0+(a:Nat):Int)=(a:Nat):=by omega
  refine⟨_,rfl,_,rfl,by omega,by omega,?_⟩
  rw[KW]
  have hlen0:((List.range a).foldl (MA.ku n (MA.aL n rs) (MA.df n rs)) (List.replicate n 0)).length=n:=(MA.gS _ (fun _ _=>MA.m6) _ _).trans (by simp)
  have hst:(List.range (a+1)).foldl (MA.ku n (MA.aL n rs) (MA.df n rs)) (List.replicate n 0)=MA.ku n (MA.aL n rs) (MA.df n rs) ((List.range a).foldl (MA.ku n (MA.aL n rs) (MA.df n rs)) (List.replicate n 0)) a:=dI _ _ _
  generalize (List.range a).foldl (MA.ku n (MA.aL n rs) (MA.df n rs)) (List.replicate n 0)=G at hu hlen0 hst
  refine bA (xs:=cj 0 n) (fun b σ' H'=> ∃v9:Option V,σ'=[some (.int n),some (.ref r),some (.ref p),some (.ref l),v4,v5,v6,some (.ref u),some (.int (0+(a:Nat))),v9]/\ag H3 H'/\H' u=some (.lst (((List.range b).foldl (MA.fJ (MA.aL n rs) (MA.df n rs) a) G).map V.int))) ⟨v9,rfl,sm,hu⟩ (fun i σ' H' _ _=>cK) ?_ ?_
  .clear hu sm
   rintro b x σ' H' D2 nx2 - hi ⟨v9,rfl,sm,hu⟩
   obtain⟨hbn,rfl⟩:=bW hi
   have eb:(0+(b:Nat):Int).toNat=b:=by omega
   have eb2:(0+(b:Nat):Int)=(b:Nat):=by omega
   have hlen1:((List.range b).foldl (MA.fJ (MA.aL n rs) (MA.df n rs) a) G).length=n:=(MA.gS _ (fun _ _=>MA.kf) _ _).trans hlen0
   have hst1:(List.range (b+1)).foldl (MA.fJ (MA.aL n rs) (MA.df n rs) a) G=MA.fJ (MA.aL n rs) (MA.df n rs) a ((List.range b).foldl (MA.fJ (MA.aL n rs) (MA.df n rs) a) G) b:=dI _ _ _
   generalize (List.range b).foldl (MA.fJ (MA.aL n rs) (MA.df n rs) a) G=F at hu hlen1 hst1
   have mm:=mat sm
   obtain⟨d,hd,had,hrow⟩:=mm.at (a:=0+(a:Nat)) (by omega) (by omega)
   rw[ea] at hrow
   have hab:=my (M:=MA.aL n rs) (i:=a) (b:=0+(b:Nat)) (n:=n) (by omega) (by omega)
   rw[eb] at hab
   refine⟨_,rfl,_,rfl,p,_,_,_,rfl,rfl,N5.of mm.top,had,_,rfl,d,_,_,_,rfl,rfl,N5.of hrow,hab,_,_,rfl,rfl,_,rfl,?_⟩
   refine bD (fun c=>?_) (fun c=>?_)
   .have c:=KY c
    refine⟨_,rfl,_,rfl,u,_,_,_,rfl,rfl,N5.of hu,fj (by omega) (by omega),?_⟩
    refine⟨_,rfl,_,rfl,l,_,_,_,rfl,rfl,N5.of (sm _ _ hl3),fj (by omega) (by omega),?_⟩
    refine⟨_,rfl,_,rfl,p,_,_,_,rfl,rfl,N5.of mm.top,had,_,rfl,d,_,_,_,rfl,rfl,N5.of hrow,hab,_,_,rfl,rfl,_,_,rfl,?_⟩
    refine⟨_,rfl,_,rfl,u,_,_,_,rfl,rfl,hu,by rw[Kq,hlen1]; exact lg (by omega) (by omega),?_⟩
    refine nx2 _ _ ⟨_,rfl,sm.dA nuH,?_⟩
    rw[af,hst1,<-Nk]
    unfold MA.fJ
    rw[Ks c,ea2,eb2]
    rfl
   .have c:=Lh (K8 _▸c)
    refine nx2 _ _ ⟨_,rfl,sm,?_⟩
    rw[hst1]
    unfold MA.fJ
    rw[Kp c]
    exact hu
  .rintro σ' H' ⟨v9,rfl,sm,hu⟩
   rw[cR] at hu
   refine nx1 _ _ ⟨_,_,rfl,sm,?_⟩
   rw[hst]
   exact hu
 .rintro σ' H' ⟨v8,v9,rfl,sm,hu⟩
  rw[cR] at hu
  exact⟨_,rfl,q u H' nu0 (m.sm.trans (s3.trans sm)) hu⟩
def AL (K:N7):Sp:=fun vs H Q _=> ∃(t p:Addr) (d:Oi) (ns:List Str),vs=[.ref t,.ref p]/\N9 K H t (jG d)/\H p=some (.lst (ns.map V.str))/\d.2.1∈ns/\(∀b,d.2.2.1=some b->b∈ns)/\ ∀t',H t'=none->Q (.ref t') (upd H t' (.tup [.int (ff ns d).1,.int (ff ns d).2.1,.int (ff ns d).2.2]))
theorem AE (T:Txt K mg a):Oj P w K mg base 1 "as_rule" ["row","names"] (AL K):=by
 refine b9 T.qN uD fun f c A o s H vs Q E hr h=>?_
 obtain⟨t,p,d,ns,rfl,ht,hp,h1,h2,q⟩:=h
 refine⟨_,(ae (Oa 2 uD.nd (jy (xD (aG eR (N8 K (pv 0) aa) bu) (j9 T.ly) (show PE _ _ (O3 K _ _ _ _) from jP Lj LM LO lr (pv 1) (N6 (N8 K (pv 0) aa)))))) (ah (av (bF (ao (show PE _ _ (O3 K _ _ _ _) from jP Lj LM LO lr (pv 1) (N6 (N8 K (pv 0) aa))) (ao (pv 2) (N6 (N8 K (pv 0) aa)))))))),?_⟩
 obtain⟨d1,d2,d3,d4⟩:=d
 obtain⟨j,j1,j2⟩:=gX h1
 have ej:=jf j1 j2
 refine⟨fun v H'=>v= .int (ff ns (d1,d2,d3,d4)).2.1/\H'=H,?_,?_⟩
 .refine⟨_,rfl,t,_,_,_,rfl,rfl,ht,rfl,rfl,_,rfl,?_⟩
  cases d3 with
  | none=>exact aU ⟨rfl,rfl⟩
  | some b =>
   obtain⟨i,i1,i2⟩:=gX (h2 b rfl)
   have ei:=jf i1 i2
   refine aD ⟨_,rfl,.inl ⟨rfl,_,N5.of hp⟩,_,rfl,t,_,_,_,rfl,rfl,ht,rfl,p,ns,b,i,rfl,rfl,hp,i1,i2,?_,rfl⟩
   show V.int (i:Nat)=V.int ((ns.idxOf b:Nat):Int)
   rw[ei]
 rintro v H' ⟨rfl,rfl⟩
 refine⟨_,rfl,.inl ⟨rfl,_,N5.of hp⟩,_,rfl,t,_,_,_,rfl,rfl,ht,rfl,p,ns,d2,j,rfl,rfl,hp,j1,j2,_,rfl,_,rfl,t,_,_,_,rfl,rfl,ht,rfl,(by show 3<=sizeLine; decide),fun t' nt'=>?_⟩
 have:=q t' nt'
 unfold ff at this
 rw[show ns.idxOf (d1,d2,d3,d4).2.1=j from ej] at this
 exact this
def DV (C:Addr) (K:N7):Sp:=fun vs H Q _=> ∃(h:Addr) (os:List Addr) (S:Ob),vs=[.ref h]/\HI C H h os S/\OI S.ms S.ds/\O6 S.ms S.ds/\ ∀(p:Addr) (H':Hp),H p=none->ag H H'->kx K H' p (aV S.ms S.ds)->Q (.ref p) H'
theorem fB (T:Txt K mg a):OO P w K mg base 2 a.House "rules" ["self"] (DV a.House K):=by
 refine pW T.md o8 fun f c A o s H vs Q E hr h=>?_
 obtain⟨h,os,S,rfl,hI,g,db,q⟩:=h
 obtain⟨dx,p0,p,r,is,kv,rfl,I⟩:=id hI
 have ml:=g.ml
 have dl:=g.dl
 refine⟨_,(ae (Oa 1 o8.nd (fg T.aq.cl (bG T) hr.mm (pv 0))) (ah (av (gW iL ["row"] ["names"] [1] OG (dB K (bR K (pv 0))) (fun C s2 H2 fp=>⟨(gn 0 (Oy ["row","names"])),d6,(aE (AE T) hr.mm (ao (pv 0) (N6 (pv 1))))⟩))))),?_⟩
 refine⟨_,rfl,h,dx,_,rfl,I.ih,Of,h,_,S,rfl,hI,by omega,fun pm H1 npm s1 hpm=>?_⟩
 have I1:=I.same s1
 obtain⟨pi,xs,hp,hX⟩:=I1.ds
 have xl:=hX.length
 refine⟨_,rfl,h,a.House,dx,_,.ref p,rfl,I1.ih,T.aq.cl,T.aN,by (repeat (first | exact bq | refine (ba (by trivial)).trans ?_)),p,rfl,⟨_,N5.of hp⟩,?_⟩
 refine cg (xs:=xs) (fun i ys H'=>ag H1 H'/\ys.length=i/\cy K H' ys ((aV S.ms S.ds).take i)) (fun i ys H' _ h=>bo (N5.of (h.1 _ _ hp))) ⟨ag.refl _,rfl,.nil⟩ (aJ (by omega)) (fun i ys H' h=>NO h.2.1) ?_ ?_
 .rintro i ys H2 x hi ⟨sm,yl,hY⟩
  obtain⟨d,hd,t,rfl,_,ht⟩:=hX.get hi
  obtain⟨b1,b2,_⟩:=db d (Kw hd)
  dsimp only[aO,g8]
  refine aU ⟨_,rfl,_,rfl,t,pm,d,aA S,rfl,N9.of (sm _ _ ht),sm _ _ hpm,b1,b2,fun t' nt'=>?_⟩
  have st:=ag.upd (o:= .tup [.int (ff (aA S) d).1,.int (ff (aA S) d).2.1,.int (ff (aA S) d).2.2]) nt'
  refine⟨sm.trans st,by rw[KC,yl]; rfl,?_⟩
  have tk:(aV S.ms S.ds).take (i+1)=(aV S.ms S.ds).take i++[ff (aA S) d]:=by
   rw[La]
   unfold aV
   rw[KH,hd]
   rfl
  rw[tk]
  exact (cy.same st hY).append (.cons ⟨t',rfl,N9.of af⟩ .nil)
 .rintro ys H2 p2 ⟨sm,yl,hY⟩ np
  have st:=ag.upd (o:= .lst ys) np
  rw[xl,LG (by unfold aV; rw[Kq]; exact Ku _)] at hY
  exact q p2 _ (s1.free (sm.free np)) (s1.trans (sm.trans st)) ⟨ys,af,cy.same st hY⟩
theorem zh {ps:List Nat}{i:Nat}{x:V}(h:(aQ ps)[i]?=some x): ∃y,ps[i]?=some y/\x= .int (y:Nat):=by
 unfold aQ at h
 rw[KH] at h
 cases e:ps[i]? with
 | none=>rw[e] at h; cases h
 | some y=>rw[e] at h; exact⟨y,rfl,(KS h).symm⟩
def dM (S:Ob) (ps:List Nat):List Str:=ps.map fun i=>(bt S).getD i ""
def yP (C:Addr) (K:N7):Sp:=fun vs H Q _=> ∃(h p:Addr) (os:List Addr) (S:Ob) (ps:List Nat),vs=[.ref h,.ref p]/\HI C H h os S/\N5 K H p (aQ ps)/\(∀i∈ps,i < S.ds.length)/\ps.length<=1000/\ ∀(q:Addr) (H':Hp),H q=none->ag H H'->H' q=some (.lst ((dM S ps).map V.str))->Q (.ref q) H'
theorem ix (T:Txt K mg a):OO P w K mg base 1 a.House "names_at" ["self","places"] (yP a.House K):=by
 refine pW T.i4 sV fun f c A o s H vs Q E hr h=>?_
 obtain⟨h,pl,os,S,ps,rfl,⟨dx,p0,p,r,is,kv,rfl,I⟩,hps,hin,hl,q⟩:=h
 obtain⟨pi,xs,hp,hX⟩:=I.ds
 refine⟨_,(ah (av (gW fY ["place"] ["self"] [0] OG (dB K (pv 1)) (fun C s2 H2 fp=>⟨(gn 0 (Oy ["place","self"])),d6,(N8 K (Od K (bR K (pv 1)) (pv 0)) aa)⟩)))),?_⟩
 refine⟨_,rfl,pl,rfl,⟨_,hps⟩,?_⟩
 refine cg (xs:=aQ ps) (fun i ys H'=>H'=H/\ys=(dM S (ps.take i)).map V.str) (fun i ys H' _ h=>by rw[h.1]; exact bo hps) ⟨rfl,rfl⟩ (aJ (by unfold aQ; rw[Kq]; exact hl)) (fun i ys H' h=>by rw[h.2,Kq]; unfold dM; rw[Kq,K0]; exact LI _ _) ?_ ?_
 .rintro i ys H2 x hi ⟨rfl,rfl⟩
  obtain⟨k,hk,rfl⟩:=zh hi
  have kl:=hin k (Kw hk)
  obtain⟨d,hd⟩: ∃d,S.ds[k]?=some d:=⟨_,Kr kl⟩
  obtain⟨v,hv,t,rfl,_,ht⟩:=hX.at' hd
  dsimp only[aO,g8]
  refine aU ⟨_,rfl,h,a.House,dx,_,.ref p,rfl,I.ih,T.aq.cl,T.aN,by (repeat (first | exact bq | refine (ba (by trivial)).trans ?_)),_,rfl,p,_,_,_,rfl,rfl,N5.of hp,bT hv,t,_,_,_,rfl,rfl,N9.of ht,rfl,rfl,?_⟩
  have tk:ps.take (i+1)=ps.take i++[k]:=by rw[La,hk]; rfl
  unfold dM
  rw[tk,KO,KO]
  congr 1
  show [V.str d.1]=[V.str ((bt S).getD k "")]
  rw[KA]
  unfold bt
  rw[KH,hd]
  rfl
 .rintro ys H2 p2 ⟨rfl,rfl⟩ np
  refine q p2 _ np (ag.upd np) ?_
  rw[af]
  unfold aQ
  rw[Kq,K6]
def Cn (a:Adr):Sp:=fun vs H Q E=> ∃(h:Addr) (os:List Addr) (S:Ob),vs=[.ref h]/\HI a.House H h os S/\OI S.ms S.ds/\O6 S.ms S.ds /\
 (∀L,bE S=some L-> ∀(p:Addr) (H':Hp),H p=none->ag H H'->H' p=some (.lst (L.map V.int))->Q (.ref p) H')/\(bE S=none-> ∀H',ag H H'->E (.ref a.NoWidths) none H')
theorem rH {n:Nat}{rs:List MA.au}{L:List Int}(k: ∀q∈rs,Oh n q) (h:bg n rs=some L):L.length=n:=(MA.cP k h).1
theorem nZ (T:Txt K mg a):ON P w K mg base 5 a.House "widths" ["self"] (Cn a):=by
 refine hV T.kH nQ fun f c A o s H vs Q E hr h=>?_
 obtain⟨h,os,S,rfl,hI,g,db,qk,qe⟩:=h
 obtain⟨dx,p,q0,r,is,kv,rfl,I⟩:=id hI
 obtain⟨pi,xs,hp,hX⟩:=I.ms
 have xl:=hX.length
 have ml:=g.ml
 have rk:=gN db
 refine⟨_,(ae (Oa 1 nQ.nd (bj (iR T).x hr.mm (ao (cE K T.bI (bR K (pv 0))) (N6 (aW T.aq.cl (fB T).x hr.mm (pv 0)))))) (ae (aF (PW.pt (cq (aG eR (pv 1) bu) (cz (aG fN (bj (qH T).x hr.mm (ao (pv 1) (N6 (aW T.aq.cl (cv T).x hr.mm (pv 0))))) bu)))) (ah (eg T.jE rfl (N6 aB))) aw) (ah (av (pv 1))))),?_⟩
 refine⟨_,rfl,h,a.House,dx,_,.ref p,rfl,I.ih,T.aq.cl,T.aH,by (repeat (first | exact bq | refine (ba (by trivial)).trans ?_)),_,_,rfl,.inl ⟨_,N5.of hp,rfl⟩,?_⟩
 refine⟨_,rfl,h,dx,_,rfl,I.ih,Of,h,_,S,rfl,hI,g,db,fun pr H1 npr s1 hR=>?_⟩
 obtain⟨rx,hrx,hrr⟩:=hR
 rw[xl]
 refine⟨S.ms.length,pr,aV S.ms S.ds,rfl,by omega,⟨rx,N5.of hrx,hrr⟩,rk,fun H2 s2 en=>?_,fun pL L H2 npL s2 eL hpL=>?_⟩
 .refine⟨_,rfl,rfl,_,rfl,aU (aU ⟨by decide,qe ?_ H2 (s1.trans s2)⟩)⟩
  unfold bE
  rw[en]
 .have s12:=s1.trans s2
  have ll:=rH rk eL
  have hI2:=hI.grow (H':=H2) fun b o _ e=>s12 _ _ e
  refine⟨_,rfl,rfl,_,rfl,aD ⟨_,rfl,_,rfl,h,dx,_,rfl,(I.same s12).ih,Of,h,_,S,rfl,hI2,by omega,fun pg H3 npg s3 hpg=>?_⟩⟩
  have hpL3:=s3 _ _ hpL
  refine⟨pL,L,pg,cN S,rfl,N5.of hpL3,N5.of hpg,by unfold cN; rw[Kq,ll],by omega,fun H4 s4=>?_⟩
  have s04:=s12.trans (s3.trans s4)
  cases hw:MA.cY L (cN S) with
  | none =>
   refine⟨rfl,_,rfl,aD ⟨_,rfl,qk L ?_ pL H4 (s1.free npL) s04 (s4 _ _ hpL3)⟩⟩
   unfold bE
   rw[eL]
   show (match MA.cY L (cN S) with | none=>some L | some _=>none)=some L
   rw[hw]
  | some i =>
   refine⟨rfl,_,rfl,aU ⟨by decide,qe ?_ H4 s04⟩⟩
   unfold bE
   rw[eL]
   show (match MA.cY L (cN S) with | none=>some L | some _=>none)=none
   rw[hw]
def vp (a:Adr):Sp:=fun vs H Q E=> ∃(h p:Addr) (os:List Addr) (S:Ob) (y:Str) (ys:List Str),vs=[.ref h,.str y,.ref p]/\HI a.House H h os S/\OI S.ms S.ds/\O6 S.ms S.ds/\H p=some (.lst (ys.map V.str)) /\
 (y∉ys->E (.ref a.Unknown) none H)/\(y∈ys->bE S=none-> ∀H',ag H H'->E (.ref a.NoWidths) none H')/\(y∈ys-> ∀L,bE S=some L-> ∀H',ag H H'->Q (.int ((ys.idxOf y:Nat):Int)) H')
theorem fW (T:Txt K mg a):ON P w K mg base 6 a.House "asked_place" ["self","name","names"] (vp a):=by
 refine hV T.gr jn fun f c A o s H vs Q E hr h=>?_
 obtain⟨h,pn,os,S,y,ys,rfl,hI,g,db,hpn,e1,e2,k⟩:=h
 obtain⟨dx,p,q0,r,is,kv,rfl,I⟩:=id hI
 refine⟨_,(ae (Oa 3 jn.nd (bj (iB T) hr.mm (ao (pv 1) (N6 (pv 2))))) (ae (aP (aW T.aq.cl (nZ T) hr.mm (pv 0))) (ah (av (pv 3))))),?_⟩
 refine⟨_,rfl,_,rfl,y,pn,ys,rfl,hpn,fun j hj hjm=>?_,e1⟩
 have hy:=Kw hj
 have hj':=jf hj hjm
 refine⟨_,rfl,h,dx,_,rfl,I.ih,Of,h,_,S,rfl,hI,g,db,fun L eL p1 H1 _ s1 _=>?_,fun eN H1 s1=>e2 hy eN H1 s1⟩
 have:=k hy L eL H1 s1
 rw[hj'] at this
 exact⟨_,rfl,this⟩
def OK (H:Hp) (h:Addr) (os:List Addr) (S:Ob) (C:Addr):Prop:=HI C H h os S/\OI S.ms S.ds/\O6 S.ms S.ds/\nW S.ms
def Bn (a:Adr):Sp:=fun vs H Q E=> ∃(h:Addr) (os:List Addr) (S:Ob) (y:Str),vs=[.ref h,.str y]/\OK H h os S a.House /\
 (y∉aA S-> ∀H',ag H H'->E (.ref a.Unknown) none H')/\(y∈aA S->bE S=none-> ∀H',ag H H'->E (.ref a.NoWidths) none H') /\
 (y∈aA S-> ∀L,bE S=some L-> ∀(p:Addr) (ps:List Nat) (H':Hp),H p=none->ag H H'->H' p=some (.lst ((dM S ps).map V.str))->MA.dE (aV S.ms S.ds) L (((aA S).idxOf y:Nat):Int) ps->Q (.ref p) H')
theorem cx {S:Ob}{L:List Int}(h:bE S=some L):bg S.ms.length (aV S.ms S.ds)=some L/\MA.cY L (cN S)=none:=by
 unfold bE at h
 cases e:bg S.ms.length (aV S.ms S.ds) with
 | none=>rw[e] at h; cases h
 | some L' =>
  rw[e] at h
  have h:(match MA.cY L' (cN S) with | none=>some L' | some _=>none)=some L:=h
  cases e2:MA.cY L' (cN S) with
  | none=>rw[e2] at h; cases h; exact⟨rfl,e2⟩
  | some i=>rw[e2] at h; cases h
theorem eB (S:Ob):(aV S.ms S.ds).length=S.ds.length:=Kq _
theorem vc (T:Txt K mg a):ON P w K mg base 7 a.House "chain" ["self","member"] (Bn a):=by
 refine hV T.lK o7 fun f c A o s H vs Q E hr h=>?_
 obtain⟨h,os,S,y,rfl,⟨hI,g,db,cp⟩,e1,e2,k⟩:=h
 obtain⟨dx,p,q0,r,is,kv,rfl,I⟩:=id hI
 obtain⟨pi,xs,hp,hX⟩:=I.ms
 have xl:=hX.length
 have ml:=g.ml
 have dl:=g.dl
 refine⟨_,(ae (Oa 2 o7.nd (cV T.aq.cl (fW T) hr.mm (pv 0) (ao (pv 1) (N6 (aW T.aq.cl (bG T).x hr.mm (pv 0)))))) (ah (av (cV T.aq.cl (ix T).x hr.mm (pv 0) (N6 (bj (tu T).x hr.mm (ao (cE K T.bI (bR K (pv 0))) (ao (aW T.aq.cl (fB T).x hr.mm (pv 0)) (N6 (pv 2)))))))))),?_⟩
 refine⟨_,rfl,h,dx,_,rfl,I.ih,Of,_,rfl,_,rfl,h,dx,_,rfl,I.ih,Of,h,_,S,rfl,hI,by omega,fun pm H1 npm s1 hpm=>?_⟩
 have hI1:=hI.grow (H':=H1) fun b o _ e=>s1 _ _ e
 refine⟨h,pm,_,S,y,aA S,rfl,hI1,g,db,hpm,fun hy=>e1 hy H1 s1,fun hy eN H2 s2=>e2 hy eN H2 (s1.trans s2),fun hy L eL H2 s2=>?_⟩
 have s12:=s1.trans s2
 have I2:=I.same s12
 have hI2:=hI.grow (H':=H2) fun b o _ e=>s12 _ _ e
 refine⟨_,rfl,h,dx,_,rfl,I2.ih,Of,_,rfl,h,a.House,dx,_,.ref p,rfl,I2.ih,T.aq.cl,T.aH,by (repeat (first | exact bq | refine (ba (by trivial)).trans ?_)),_,_,rfl,.inl ⟨_,N5.of (s12 _ _ hp),rfl⟩,?_⟩
 refine⟨_,rfl,h,dx,_,rfl,I2.ih,Of,h,_,S,rfl,hI2,g,db,fun pr H3 npr s3 hR=>?_⟩
 have s13:=s12.trans s3
 have hI3:=hI.grow (H':=H3) fun b o _ e=>s13 _ _ e
 obtain⟨eL1,eL2⟩:=cx eL
 have rk:=gN db
 have il:=rY hy
 have il':(aA S).idxOf y < S.ms.length:=by unfold aA at il ⊢; rw[Kq] at il; exact il
 rw[xl]
 refine⟨_,rfl,S.ms.length,pr,aV S.ms S.ds,L,_,rfl,ml,by rw[eB]; exact dl,hR.Ph,rk,eL1,by omega,by omega,fun pc ps H4 npc s4 hpc hC=>?_⟩
 have s14:=s13.trans s4
 have hI4:=hI.grow (H':=H4) fun b o _ e=>s14 _ _ e
 have fw:=hC.O4 (MA.pB rk eL1)
 refine⟨h,pc,_,S,ps,rfl,hI4,N5.of hpc,fun i hi=>by have:=hC.lt i hi; rw[eB] at this; exact this,by omega,fun p5 H5 np5 s5 hp5=>?_⟩
 exact k hy L eL p5 ps H5 (s14.free np5) (s14.trans s5) hp5 hC
def B9 (a:Adr):Sp:=fun vs H Q E=> ∃(h:Addr) (os:List Addr) (S:Ob) (y:Str),vs=[.ref h,.str y]/\OK H h os S a.House /\
 (y∉aA S-> ∀H',ag H H'->E (.ref a.Unknown) none H')/\(y∈aA S->bE S=none-> ∀H',ag H H'->E (.ref a.NoWidths) none H') /\
 (y∈aA S-> ∀L,bE S=some L->(∀H',ag H H'->MA.eu S.ms.length (aV S.ms S.ds) L (cN S) (((aA S).idxOf y:Nat):Int) none->Q .non H') /\
  ∀(t:Addr) (s:Int) (stop:Nat) (H':Hp),H t=none->ag H H'->stop < S.ms.length->H' t=some (.tup [.int s,.str ((aA S).getD stop "")])->MA.eu S.ms.length (aV S.ms S.ds) L (cN S) (((aA S).idxOf y:Nat):Int) (some (s,stop))->Q (.ref t) H')
theorem z6 {n:Nat}{rs:List MA.au}{L:List Int}{cs:List (Option Int)}{m s:Int}{stop:Nat}(h:MA.eu n rs L cs m (some (s,stop))):stop < n:=by
 unfold MA.eu at h
 exact h.2.1
theorem zF {S:Ob}{m:Mem}{j:Nat}(h:S.ms[j]?=some m):(aA S).getD j "" = m.1:=by
 unfold aA
 rw[KA,KH,h]
 rfl
theorem uX (T:Txt K mg a):ON P w K mg base 7 a.House "slack" ["self","member"] (B9 a):=by
 refine hV T.lL j4 fun f c A o s H vs Q E hr h=>?_
 obtain⟨h,os,S,y,rfl,⟨hI,g,db,cp⟩,e1,e2,k⟩:=h
 obtain⟨dx,p,q0,r,is,kv,rfl,I⟩:=id hI
 obtain⟨pi,xs,hp,hX⟩:=I.ms
 have xl:=hX.length
 have ml:=g.ml
 have dl:=g.dl
 refine⟨_,(ae (Oa 2 j4.nd (cV T.aq.cl (fW T) hr.mm (pv 0) (ao (pv 1) (N6 (aW T.aq.cl (bG T).x hr.mm (pv 0)))))) (ae (Oa 3 j4.nd (bj (yJ T).x hr.mm (ao (cE K T.bI (bR K (pv 0))) (ao (aW T.aq.cl (fB T).x hr.mm (pv 0)) (ao (aW T.aq.cl (cv T).x hr.mm (pv 0)) (N6 (pv 2))))))) (ae (aF (aG eR (pv 3) bu) (ah (av bu)) aw) (ah (av (bF (ao (N8 K (pv 3) aa) (N6 (N8 K (Od K (bR K (pv 0)) (N8 K (pv 3) aa)) aa))))))))),?_⟩
 refine⟨_,rfl,h,dx,_,rfl,I.ih,Of,_,rfl,_,rfl,h,dx,_,rfl,I.ih,Of,h,_,S,rfl,hI,by omega,fun pm H1 npm s1 hpm=>?_⟩
 have hI1:=hI.grow (H':=H1) fun b o _ e=>s1 _ _ e
 refine⟨h,pm,_,S,y,aA S,rfl,hI1,g,db,hpm,fun hy=>e1 hy H1 s1,fun hy eN H2 s2=>e2 hy eN H2 (s1.trans s2),fun hy L eL H2 s2=>?_⟩
 have s12:=s1.trans s2
 have I2:=I.same s12
 have hI2:=hI.grow (H':=H2) fun b o _ e=>s12 _ _ e
 refine⟨_,rfl,h,a.House,dx,_,.ref p,rfl,I2.ih,T.aq.cl,T.aH,by (repeat (first | exact bq | refine (ba (by trivial)).trans ?_)),_,_,rfl,.inl ⟨_,N5.of (s12 _ _ hp),rfl⟩,?_⟩
 refine⟨_,rfl,h,dx,_,rfl,I2.ih,Of,h,_,S,rfl,hI2,g,db,fun pr H3 npr s3 hR=>?_⟩
 have s13:=s12.trans s3
 have hI3:=hI.grow (H':=H3) fun b o _ e=>s13 _ _ e
 refine⟨_,rfl,h,dx,_,rfl,(I.same s13).ih,Of,h,_,S,rfl,hI3,by omega,fun pg H4 npg s4 hpg=>?_⟩
 have s14:=s13.trans s4
 obtain⟨eL1,eL2⟩:=cx eL
 have rk:=gN db
 have ll:=rH rk eL1
 have il:=rY hy
 have il':(aA S).idxOf y < S.ms.length:=by unfold aA at il ⊢; rw[Kq] at il; exact il
 obtain⟨k1,k2⟩:=k hy L eL
 rw[xl]
 refine⟨_,rfl,S.ms.length,pr,aV S.ms S.ds,L,pg,cN S,_,rfl,ml,by rw[eB]; exact dl,hR.same s4,rk,eL1,N5.of hpg,by unfold cN; rw[Kq],yM ll eL2,fun v c e=>Dl cp e,by omega,by omega,fun H5 s5 hS=>?_,fun t sp stop H5 s5 ht hS=>?_⟩
 .exact⟨_,rfl,rfl,_,rfl,aU (k1 H5 (s14.trans s5) hS)⟩
 .have s15:=s14.trans s5
  have hst:=z6 hS
  obtain⟨m,hm⟩: ∃m,S.ms[stop]?=some m:=⟨_,Kr hst⟩
  obtain⟨v,hv,t2,rfl,_,ht2⟩:=hX.at' hm
  refine⟨_,rfl,rfl,_,rfl,aD ?_⟩
  refine⟨_,rfl,t,_,_,_,rfl,rfl,N9.of ht,rfl,_,rfl,h,a.House,dx,_,.ref p,rfl,(I.same s15).ih,T.aq.cl,T.aH,by (repeat (first | exact bq | refine (ba (by trivial)).trans ?_)),_,rfl,t,_,_,_,rfl,rfl,N9.of ht,rfl,p,_,_,_,rfl,rfl,N5.of (s15 _ _ hp),bT hv,t2,_,_,_,rfl,rfl,N9.of (s15 _ _ ht2),rfl,?_⟩
  refine⟨(by show 2<=sizeLine; decide),fun t6 nt6=>?_⟩
  refine k2 t6 sp stop _ (s15.free nt6) (s15.trans (ag.upd nt6)) hst ?_ hS
  rw[af,zF hm]
def Dv (a:Adr):Sp:=fun vs H Q E=> ∃(h:Addr) (os:List Addr) (S:Ob) (y:Str),vs=[.ref h,.str y]/\OK H h os S a.House /\
 (y∉bt S-> ∀H',ag H H'->E (.ref a.Unknown) none H')/\(y∈bt S->bE S=none-> ∀H',ag H H'->E (.ref a.NoWidths) none H') /\
 (y∈bt S-> ∀L L',bE S=some L->bg S.ms.length ((aV S.ms S.ds).take ((bt S).idxOf y)++(aV S.ms S.ds).drop ((bt S).idxOf y+1))=some L'-> ∀H',ag H H'->Q (.int (L.sum - L'.sum)) H')
theorem yZ {α:Type}{rs:List α}{k:Nat}: ∀q∈rs.take k++rs.drop (k+1),q∈rs:=fun q hq=>by
 rcases KI.mp hq with h | h
 .exact MV h
 .exact MU h
theorem wg (T:Txt K mg a):ON P w K mg base 7 a.House "cost" ["self","demand"] (Dv a):=by
 refine hV T.mR qJ fun f c A o s H vs Q E hr h=>?_
 obtain⟨h,os,S,y,rfl,⟨hI,g,db,cp⟩,e1,e2,k⟩:=h
 obtain⟨dx,p,q0,r,is,kv,rfl,I⟩:=id hI
 obtain⟨pi,xs,hp,hX⟩:=I.ms
 have xl:=hX.length
 have ml:=g.ml
 have dl:=g.dl
 refine⟨_,(ae (Oa 2 qJ.nd (cV T.aq.cl (fW T) hr.mm (pv 0) (ao (pv 1) (N6 (aW T.aq.cl (dY T).x hr.mm (pv 0)))))) (ah (av (bj (Ay T).x hr.mm (ao (cE K T.bI (bR K (pv 0))) (ao (aW T.aq.cl (fB T).x hr.mm (pv 0)) (N6 (pv 2)))))))),?_⟩
 refine⟨_,rfl,h,dx,_,rfl,I.ih,Of,_,rfl,_,rfl,h,dx,_,rfl,I.ih,Of,h,_,S,rfl,hI,by omega,fun pm H1 npm s1 hpm=>?_⟩
 have hI1:=hI.grow (H':=H1) fun b o _ e=>s1 _ _ e
 refine⟨h,pm,_,S,y,bt S,rfl,hI1,g,db,hpm,fun hy=>e1 hy H1 s1,fun hy eN H2 s2=>e2 hy eN H2 (s1.trans s2),fun hy L eL H2 s2=>?_⟩
 have s12:=s1.trans s2
 have I2:=I.same s12
 have hI2:=hI.grow (H':=H2) fun b o _ e=>s12 _ _ e
 refine⟨_,rfl,h,a.House,dx,_,.ref p,rfl,I2.ih,T.aq.cl,T.aH,by (repeat (first | exact bq | refine (ba (by trivial)).trans ?_)),_,_,rfl,.inl ⟨_,N5.of (s12 _ _ hp),rfl⟩,?_⟩
 refine⟨_,rfl,h,dx,_,rfl,I2.ih,Of,h,_,S,rfl,hI2,g,db,fun pr H3 npr s3 hR=>?_⟩
 have s13:=s12.trans s3
 obtain⟨eL1,eL2⟩:=cx eL
 have rk:=gN db
 have il:=rY hy
 have il':(bt S).idxOf y < S.ds.length:=by unfold bt at il ⊢; rw[Kq] at il; exact il
 obtain⟨L',eL'⟩:=wa rk eL1 (rs':=(aV S.ms S.ds).take ((bt S).idxOf y)++(aV S.ms S.ds).drop ((bt S).idxOf y+1)) yZ
 rw[xl]
 exact⟨_,rfl,S.ms.length,pr,aV S.ms S.ds,L,L',_,rfl,ml,by rw[eB]; exact dl,hR.Ph,rk,eL1,by rw[eB]; exact il',eL',fun H4 s4=>k hy L L' eL eL' H4 (s13.trans s4)⟩
def xc (a:Adr):Sp:=fun vs H Q _=> ∃(h:Addr) (os:List Addr) (S:Ob),vs=[.ref h]/\OK H h os S a.House /\
 (∀(t p:Addr) (way:List Nat) (H':Hp),bg S.ms.length (aV S.ms S.ds)=none->sH (aV S.ms S.ds) way->way.length<=200->H t=none->H p=none->ag H H'->H' p=some (.lst ((dM S way).map V.str))->H' t=some (.tup [.str "ring",.ref p])->Q (.ref t) H') /\
 (∀L,bE S=some L-> ∀H',ag H H'->Q .non H') /\
 ∀(L:List Int) (i:Nat) (t p:Addr) (ps:List Nat) (H':Hp),bg S.ms.length (aV S.ms S.ds)=some L->MA.cY L (cN S)=some i->i < S.ms.length->MA.dE (aV S.ms S.ds) L (i:Nat) ps->H t=none->H p=none->ag H H'->H' p=some (.lst ((dM S ps).map V.str))->H' t=some (.tup [.str "wide",.str ((aA S).getD i ""),.ref p])->Q (.ref t) H'
theorem m8 (T:Txt K mg a):OO P w K mg base 6 a.House "why" ["self"] (xc a):=by
 refine pW T.ou gI fun f c A o s H vs Q E hr h=>?_
 obtain⟨h,os,S,rfl,⟨hI,g,db,cp⟩,k1,k2,k3⟩:=h
 obtain⟨dx,p,q0,r,is,kv,rfl,I⟩:=id hI
 obtain⟨pi,xs,hp,hX⟩:=I.ms
 have xl:=hX.length
 have ml:=g.ml
 have dl:=g.dl
 have rk:=gN db
 have rl:=eB S
 refine⟨_,(ae (Oa 1 gI.nd (cE K T.bI (bR K (pv 0)))) (ae (Oa 2 gI.nd (fg T.aq.cl (fB T) hr.mm (pv 0))) (ae (Oa 3 gI.nd (aE (yk T) hr.mm (ao (pv 1) (N6 (pv 2))))) (ae (aF (bQ K (pv 3)) (ah (av (bF (ao aB (N6 (eh T.aq.cl (ix T) hr.mm (pv 0) (N6 (pv 3)))))))) aw) (ae (Oa 4 gI.nd (aE (qH T) hr.mm (ao (aE (iR T) hr.mm (ao (pv 1) (N6 (pv 2)))) (N6 (fg T.aq.cl (cv T) hr.mm (pv 0)))))) (ae (aF (aG eR (pv 4) bu) (ah (av bu)) aw) (ah (av (bF (ao aB (ao (N8 K (Od K (bR K (pv 0)) (pv 4)) aa) (N6 (eh T.aq.cl (ix T) hr.mm (pv 0) (N6 (aE (tu T) hr.mm (ao (pv 1) (ao (pv 2) (N6 (pv 4))))))))))))))))))),?_⟩
 refine⟨_,rfl,h,a.House,dx,_,.ref p,rfl,I.ih,T.aq.cl,T.aH,by (repeat (first | exact bq | refine (ba (by trivial)).trans ?_)),_,_,rfl,.inl ⟨_,N5.of hp,rfl⟩,?_⟩
 refine⟨_,rfl,h,dx,_,rfl,I.ih,Of,h,_,S,rfl,hI,g,db,fun pr H1 npr s1 hR=>?_⟩
 have hI1:=hI.grow (H':=H1) fun b o _ e=>s1 _ _ e
 rw[xl]
 refine⟨_,rfl,_,rfl,pr,aV S.ms S.ds,S.ms.length,rfl,hR.Ph,by omega,rk,by omega,fun H2 pe s2 hpe hsh=>?_,fun H2 pe way s2 hpe hwl hw=>?_⟩
 .have s12:=s1.trans s2
  have hI2:=hI.grow (H':=H2) fun b o _ e=>s12 _ _ e
  obtain⟨L,eL⟩:=AX rk hsh
  have ll:=rH rk eL
  refine⟨_,rfl,false,.inl ⟨_,N5.of hpe,rfl⟩,?_⟩
  refine aD ?_
  refine⟨_,rfl,_,rfl,S.ms.length,pr,aV S.ms S.ds,rfl,by omega,(hR.same s2).Ph,rk,fun H3 _ z=>(by rw[eL] at z; cases z),fun pL L0 H3 npL s3 e hpL=>?_⟩
  rw[eL] at e
  cases e
  have s13:=s12.trans s3
  have hI3:=hI.grow (H':=H3) fun b o _ e=>s13 _ _ e
  refine⟨_,rfl,h,dx,_,rfl,(I.same s13).ih,Of,h,_,S,rfl,hI3,by omega,fun pg H4 npg s4 hpg=>?_⟩
  refine⟨pL,L,pg,cN S,rfl,N5.of (s4 _ _ hpL),N5.of hpg,by unfold cN; rw[Kq,ll],by omega,fun H5 s5=>?_⟩
  have s15:=s13.trans (s4.trans s5)
  cases hw:MA.cY L (cN S) with
  | none =>
   refine⟨_,rfl,rfl,_,rfl,aU (k2 L ?_ H5 s15)⟩
   unfold bE
   rw[eL]
   show (match MA.cY L (cN S) with | none=>some L | some _=>none)=some L
   rw[hw]
  | some i =>
   have hi:i < S.ms.length:=by have:=ET hw; omega
   obtain⟨m,hm⟩: ∃m,S.ms[i]?=some m:=⟨_,Kr hi⟩
   obtain⟨v,hv,t2,rfl,_,ht2⟩:=hX.at' hm
   refine⟨_,rfl,rfl,_,rfl,aD ?_⟩
   refine⟨_,rfl,h,a.House,dx,_,.ref p,rfl,(I.same s15).ih,T.aq.cl,T.aH,by (repeat (first | exact bq | refine (ba (by trivial)).trans ?_)),_,rfl,p,_,_,_,rfl,rfl,N5.of (s15 _ _ hp),bT hv,t2,_,_,_,rfl,rfl,N9.of (s15 _ _ ht2),rfl,?_⟩
   refine⟨_,rfl,h,dx,_,rfl,(I.same s15).ih,Of,_,rfl,_,rfl,_,rfl,S.ms.length,pr,aV S.ms S.ds,L,_,rfl,ml,by omega,(hR.same (s2.trans (s3.trans (s4.trans s5)))).Ph,rk,eL,by omega,by omega,fun pc ps H6 npc s6 hpc hC=>?_⟩
   have s16:=s15.trans s6
   have hI6:=hI.grow (H':=H6) fun b o _ e=>s16 _ _ e
   have fw:=hC.O4 (MA.pB rk eL)
   refine⟨h,pc,_,S,ps,rfl,hI6,N5.of hpc,fun j hj=>by have:=hC.lt j hj; omega,by omega,fun p7 H7 np7 s7 hp7=>?_⟩
   refine⟨(by show 3<=sizeLine; decide),fun t8 nt8=>?_⟩
   have s17:=s16.trans s7
   refine k3 L i t8 p7 ps _ eL hw hi hC (s17.free nt8) (s16.free np7) (s17.trans (ag.upd nt8)) ?_ ?_
   .rw[ai (az hp7 nt8)]; exact hp7
   .rw[af,zF hm]
 .have s12:=s1.trans s2
  have hI2:=hI.grow (H':=H2) fun b o _ e=>s12 _ _ e
  obtain⟨i0,q0',ps0,ew,_⟩:=id hw
  refine⟨_,rfl,true,.inl ⟨_,N5.of hpe,(by rw[ew]; rfl)⟩,?_⟩
  refine aU ?_
  refine⟨_,rfl,h,dx,_,rfl,(I.same s12).ih,Of,_,rfl,h,pe,_,S,way,rfl,hI2,N5.of hpe,fun j hj=>by have:=hw.lt j hj; omega,by omega,fun p7 H7 np7 s7 hp7=>?_⟩
  refine⟨(by show 2<=sizeLine; decide),fun t8 nt8=>?_⟩
  have s17:=s12.trans s7
  refine k1 t8 p7 way _ (hw.none rk) hw hwl (s17.free nt8) (s12.free np7) (s17.trans (ag.upd nt8)) ?_ ?_
  .rw[ai (az hp7 nt8)]; exact hp7
  .rw[af]
def yR (a:Adr):Sp:=fun vs H Q _=> ∃(h:Addr) (os:List Addr) (S:Ob),vs=[.ref h]/\OK H h os S a.House/\(bE S=none-> ∀(t:Addr) (H':Hp),H t=none->ag H H'->H' t=some (.tup [.str "refused"])->Q (.ref t) H')/\ ∀L,bE S=some L-> ∀(p:Addr) (H':Hp),H p=none->ag H H'->H' p=some (.lst (L.map V.int))->Q (.ref p) H'
theorem kW (T:Txt K mg a):Oj P w K mg base 6 "_law_widths_of" ["_law_house"] (yR a):=by
 refine b9 T.jx tJ fun f c A o s H vs Q E hr h=>?_
 obtain⟨h,os,S,rfl,hQ,k1,k2⟩:=h
 obtain⟨dx,p,q0,r,is,kv,eo,I⟩:=id hQ.1
 refine⟨_,(ah (Cp ⟨rfl,rfl⟩ (fun N3 E'=>(ah (av (aW T.aq.cl (nZ T) hr.mm (pv 0))))) (mL T.jE (fun N3 x o=>(ah (av (bF (N6 aB))))) AV))),?_⟩
 refine⟨fun σ' cls _ H'=>cls= .ref a.NoWidths/\ag H H'/\bE S=none,fun N3=>?_,?_⟩
 .exact⟨_,rfl,h,dx,_,rfl,I.ih,Of,h,os,S,rfl,hQ.1,hQ.2.1,hQ.2.2.1,fun L e p H' np s hp=>k2 L e p H' np s hp,fun e H' s=>⟨rfl,s,e⟩⟩
 .rintro σ' cls H' ⟨rfl,s,e⟩
  exact⟨a.NoWidths,true,rfl,T.jE.2,T.gw,aU fun N3 x o=>⟨(by show 1<=sizeLine; decide),fun t nt=>k1 e t _ (s.free nt) (s.trans (ag.upd nt)) af⟩⟩
def Hi (a:Adr):L2.DZ->Addr
 | .ok=>a.Unknown
 | .unknown=>a.Unknown
 | .inUse=>a.InUse
 | .badName=>a.BadName
 | .badNumber=>a.BadNumber
 | .tooMuch=>a.TooMuch
 | .full=>a.Full
 | .nothing=>a.NothingBack
def Out (a:Adr) (H:Hp) (h:Addr) (os:List Addr) (S:Ob) (d:bZ) (Q:VK) (E:XK):Prop:=(aY S d= .ok-> ∀H',cS a.House H h os (ez S d) H'->Q .non H')/\(aY S d≠ .ok-> ∀H',ag H H'->E (.ref (Hi a (aY S d))) none H')
section
variable {H:Hp}{h:Addr}{os:List Addr}{S:Ob}{Q:VK}{E:XK}
theorem Out.er {d:bZ}(o:Out a H h os S d Q E) (x:DZ) (hx:aY S d=x) (hne:x≠ .ok) (H':Hp) (s:ag H H'):E (.ref (Hi a x)) none H':=by
 have:=o.2 (hx▸hne) H' s
 rw[hx] at this
 exact this
theorem DJ {y:Str}(hI:HI a.House H h os S) (g:OI S.ms S.ds) (hk:S.ks.length<=150) (hy:y.cps.toList.length<=1000) (o:Out a H h os S (.member y) Q E):qG a [.ref h,.str y] H Q E:=by
 refine⟨h,os,S,y,rfl,hI,hy,g.ml,hk,fun H' s hm=>?_,fun H' s hm hb=>?_,fun H' s hm hg hf=>?_,fun H' hm hg h1 h2 hN=>?_⟩
 .exact o.er .inUse (by rw[aY,Ks hm]) (by decide) H' s
 .exact o.er .badName (by rw[aY,Kp hm,Ks hb]) (by decide) H' s
 .exact o.er .full (by rw[aY,Kp hm,Kp (by rw[hg]; decide),Ks hf]) (by decide) H' s
 .exact o.1 (by rw[aY,Kp hm,Kp (by rw[hg]; decide),Kp (by omega)]) H' hN
theorem EL {y m:Str}{p e o':Int}(hI:HI a.House H h os S) (g:OI S.ms S.ds) (hk:S.ks.length<=150) (hy:y.cps.toList.length<=1000) (o:Out a H h os S (.plain y m p e o') Q E):rZ a [.ref h,.str y,.str m,.int p,.int e,.int o'] H Q E:=by
 refine⟨h,os,S,y,m,p,e,o',rfl,hI,hy,g.ml,g.dl,hk,fun H' s hm=>?_,fun H' s hm hn=>?_,fun H' s hm hn hb=>?_,fun H' s hm hn hg hr1=>?_,fun H' s hm hn hg hr1 hr2=>?_,fun H' s hm hn hg hr1 hr2 hf=>?_,fun H' hm hn hg hr1 hr2 h1 h2 hN=>?_⟩
 .exact o.er .unknown (by rw[aY,Ks hm]) (by decide) H' s
 .exact o.er .inUse (by rw[aY,Kp (fun z=>z hm),Ks hn]) (by decide) H' s
 .exact o.er .badName (by rw[aY,Kp (fun z=>z hm),Kp hn,Ks hb]) (by decide) H' s
 .exact o.er .badNumber (by rw[aY,Kp (fun z=>z hm),Kp hn,Kp (by rw[hg]; decide),Ks hr1]) (by decide) H' s
 .exact o.er .tooMuch (by rw[aY,Kp (fun z=>z hm),Kp hn,Kp (by rw[hg]; decide),Kp (fun z=>z hr1),Ks hr2]) (by decide) H' s
 .exact o.er .full (by rw[aY,Kp (fun z=>z hm),Kp hn,Kp (by rw[hg]; decide),Kp (fun z=>z hr1),Kp (by omega),Ks hf]) (by decide) H' s
 .exact o.1 (by rw[aY,Kp (fun z=>z hm),Kp hn,Kp (by rw[hg]; decide),Kp (fun z=>z hr1),Kp (by omega),Kp (by omega)]) H' hN
theorem G7 {y m b:Str}{mo:Int}(hI:HI a.House H h os S) (g:OI S.ms S.ds) (hk:S.ks.length<=150) (hy:y.cps.toList.length<=1000) (o:Out a H h os S (.link y m b mo) Q E):sX a [.ref h,.str y,.str m,.str b,.int mo] H Q E:=by
 have nn: ∀ {m b:Str},m∈aA S->b∈aA S-> ¬(m∉aA S\/b∉aA S):=fun hm hb z=>z.elim (fun z=>z hm) fun z=>z hb
 refine⟨h,os,S,y,m,b,mo,rfl,hI,hy,g.ml,g.dl,hk,fun H' s hm=>?_,fun H' s hm hb hn=>?_,fun H' s hm hb hn hg=>?_,fun H' s hm hb hn hg hr1=>?_,fun H' s hm hb hn hg hr1 hf=>?_,fun H' hm hb hn hg hr1 h1 h2 hN=>?_⟩
 .exact o.er .unknown (by rw[aY,Ks hm]) (by decide) H' s
 .exact o.er .inUse (by rw[aY,Kp (nn hm hb),Ks hn]) (by decide) H' s
 .exact o.er .badName (by rw[aY,Kp (nn hm hb),Kp hn,Ks hg]) (by decide) H' s
 .exact o.er .badNumber (by rw[aY,Kp (nn hm hb),Kp hn,Kp (by rw[hg]; decide),Ks hr1]) (by decide) H' s
 .exact o.er .full (by rw[aY,Kp (nn hm hb),Kp hn,Kp (by rw[hg]; decide),Kp (fun z=>z hr1),Ks hf]) (by decide) H' s
 .exact o.1 (by rw[aY,Kp (nn hm hb),Kp hn,Kp (by rw[hg]; decide),Kp (fun z=>z hr1),Kp (by omega)]) H' hN
theorem HY {m:Str}{wd:Int}(hI:HI a.House H h os S) (g:OI S.ms S.ds) (hk:S.ks.length<=150) (o:Out a H h os S (.top m wd) Q E):uN a [.ref h,.str m,.int wd] H Q E:=by
 refine⟨h,os,S,m,wd,rfl,hI,g.ml,hk,fun H' s hm=>o.er .unknown (by rw[aY,Ks hm]) (by decide) H' s,fun j o' hj hjm ho=>?_⟩
 have hm:m∈aA S:=Kw hj
 have hc:=oS ho hjm
 refine⟨fun H' s z=>?_,fun H' s z hr1=>?_,fun H' s z hr1 hf=>?_,fun H' z hr1 h2 hN=>?_⟩
 .exact o.er .inUse (by rw[aY,Kp (fun z=>z hm),Ks (by rw[hc]; exact z)]) (by decide) H' s
 .exact o.er .badNumber (by rw[aY,Kp (fun z=>z hm),Kp (by rw[hc,z]; exact fun q=>q rfl),Ks hr1]) (by decide) H' s
 .exact o.er .full (by rw[aY,Kp (fun z=>z hm),Kp (by rw[hc,z]; exact fun q=>q rfl),Kp (fun z=>z hr1),Ks hf]) (by decide) H' s
 .rw[uq g.mn hj] at hN
  exact o.1 (by rw[aY,Kp (fun z=>z hm),Kp (by rw[hc,z]; exact fun q=>q rfl),Kp (fun z=>z hr1),Kp (by omega)]) H' hN
end
def Done (a:Adr) (H:Hp) (h:Addr) (os:List Addr) (S:Ob) (d:bZ) (Q:VK):Prop:=HI a.House H h os S/\OI S.ms S.ds/\S.ks.length<=150/\aY S d= .ok/\ ∀H',cS a.House H h os (ez S d) H'->Q .non H'
theorem Done.out {a:Adr}{H:Hp}{h:Addr}{os:List Addr}{S:Ob}{d:bZ}{Q:VK}(x:Done a H h os S d Q):Out a H h os S d Q fun _ _ _=>False:=⟨fun _=>x.2.2.2.2,fun n=>absurd x.2.2.2.1 n⟩
def zI (a:Adr):Sp:=fun vs H Q _=> ∃(h:Addr) (os:List Addr) (S:Ob) (y:Str),vs=[.ref h,.str y]/\y.cps.toList.length<=1000/\Done a H h os S (.member y) Q
theorem z4 (T:Txt K mg a):OO P w K mg base 4 a.House "add_member" ["self","name"] (zI a):=(jU T).calm fun vs H Q E h=>by
 obtain⟨h,os,S,y,rfl,hy,o⟩:=h
 exact DJ o.1 o.2.1 o.2.2.1 hy o.out
def A9 (a:Adr):Sp:=fun vs H Q _=> ∃(h:Addr) (os:List Addr) (S:Ob) (y m:Str) (p e o:Int),vs=[.ref h,.str y,.str m,.int p,.int e,.int o]/\y.cps.toList.length<=1000/\Done a H h os S (.plain y m p e o) Q
theorem A8 (T:Txt K mg a):OO P w K mg base 4 a.House "add_plain" ["self","name","member","people","each","over"] (A9 a):=(lx T).calm fun vs H Q E h=>by
 obtain⟨h,os,S,y,m,p,e,o,rfl,hy,x⟩:=h
 exact EL x.1 x.2.1 x.2.2.1 hy x.out
def D8 (a:Adr):Sp:=fun vs H Q _=> ∃(h:Addr) (os:List Addr) (S:Ob) (y m b:Str) (mo:Int),vs=[.ref h,.str y,.str m,.str b,.int mo]/\y.cps.toList.length<=1000/\Done a H h os S (.link y m b mo) Q
theorem CN (T:Txt K mg a):OO P w K mg base 4 a.House "add_link" ["self","name","member","base","more"] (D8 a):=(me T).calm fun vs H Q E h=>by
 obtain⟨h,os,S,y,m,b,mo,rfl,hy,x⟩:=h
 exact G7 x.1 x.2.1 x.2.2.1 hy x.out
def ED (a:Adr):Sp:=fun vs H Q _=> ∃(h:Addr) (os:List Addr) (S:Ob) (m:Str) (wd:Int),vs=[.ref h,.str m,.int wd]/\Done a H h os S (.top m wd) Q
theorem Fj (T:Txt K mg a):OO P w K mg base 4 a.House "set_top" ["self","member","width"] (ED a):=(ng T).calm fun vs H Q E h=>by
 obtain⟨h,os,S,m,wd,rfl,x⟩:=h
 exact HY x.1 x.2.1 x.2.2.1 x.out
def Bc (a:Adr):Sp:=fun vs H Q _=> ∃(h:Addr) (os:List Addr) (S:Ob) (y:Str) (L:List Int),vs=[.ref h,.str y]/\OK H h os S a.House/\y∈aA S/\bE S=some L/\(∀H',ag H H'->MA.eu S.ms.length (aV S.ms S.ds) L (cN S) (((aA S).idxOf y:Nat):Int) none->Q .non H') /\
 ∀(t:Addr) (s:Int) (stop:Nat) (H':Hp),H t=none->ag H H'->stop < S.ms.length->H' t=some (.tup [.int s,.str ((aA S).getD stop "")])->MA.eu S.ms.length (aV S.ms S.ds) L (cN S) (((aA S).idxOf y:Nat):Int) (some (s,stop))->Q (.ref t) H'
theorem wc (T:Txt K mg a):OO P w K mg base 7 a.House "slack" ["self","member"] (Bc a):=(uX T).calm fun vs H Q E h=>by
 obtain⟨h,os,S,y,L,rfl,hQ,hy,eL,k1,k2⟩:=h
 exact⟨h,os,S,y,rfl,hQ,fun n=>absurd hy n,fun _ e=>(by rw[eL] at e; cases e),fun _ L' e=>(by rw[eL] at e; cases e; exact⟨k1,k2⟩)⟩
def CA (a:Adr):Sp:=fun vs H Q _=> ∃(h:Addr) (os:List Addr) (S:Ob) (y:Str) (L L':List Int),vs=[.ref h,.str y]/\OK H h os S a.House/\y∈bt S/\bE S=some L/\bg S.ms.length ((aV S.ms S.ds).take ((bt S).idxOf y)++(aV S.ms S.ds).drop ((bt S).idxOf y+1))=some L'/\ ∀H',ag H H'->Q (.int (L.sum - L'.sum)) H'
theorem xf (T:Txt K mg a):OO P w K mg base 7 a.House "cost" ["self","demand"] (CA a):=(wg T).calm fun vs H Q E h=>by
 obtain⟨h,os,S,y,L,L',rfl,hQ,hy,eL,eL',q⟩:=h
 exact⟨h,os,S,y,rfl,hQ,fun n=>absurd hy n,fun _ e=>(by rw[eL] at e; cases e),fun _ L1 L2 e1 e2=>(by rw[eL] at e1; rw[eL'] at e2; cases e1; cases e2; exact q)⟩
def B0 (a:Adr):Sp:=fun vs H Q _=> ∃(h:Addr) (os:List Addr) (S:Ob) (y:Str) (L:List Int),vs=[.ref h,.str y]/\OK H h os S a.House/\y∈aA S/\bE S=some L/\ ∀(pc:Addr) (ps:List Nat) (H':Hp),H pc=none->ag H H'->H' pc=some (.lst ((dM S ps).map V.str))->MA.dE (aV S.ms S.ds) L (((aA S).idxOf y:Nat):Int) ps->Q (.ref pc) H'
theorem vE (T:Txt K mg a):OO P w K mg base 7 a.House "chain" ["self","member"] (B0 a):=(vc T).calm fun vs H Q E h=>by
 obtain⟨h,os,S,y,L,rfl,hQ,hy,eL,q⟩:=h
 exact⟨h,os,S,y,rfl,hQ,fun n=>absurd hy n,fun _ e=>(by rw[eL] at e; cases e),fun _ L' e=>(by rw[eL] at e; cases e; exact q)⟩
def Hs (C:Addr) (H:Hp) (h:Addr) (os:List Addr) (S:Ob):Prop:=HI C H h os S/\Gd S/\GB S
theorem Hs.done {h:Addr}{os:List Addr}{S:Ob}{H:Hp}{d:bZ}{Q:VK}{a:Adr}(x:Hs a.House H h os S) (hk:S.ks.length<=150) (due:aY S d= .ok) (q: ∀H',cS a.House H h os (ez S d) H'->Q .non H'):Done a H h os S d Q:=⟨x.1,x.2.1.now,hk,due,q⟩
theorem Bt:Gd ⟨[],[],[]⟩:=⟨⟨Lu _,Lu _,MO,MO,fun y hy=>(by cases hy),fun y hy=>(by cases hy)⟩,fun k hk=>(by cases hk),fun _=>⟨rfl,rfl⟩,fun k hk=>(by cases hk)⟩
theorem yo (T:Txt K mg a):GI P w K mg base 4 a.House "House" ["self"] (xt a.House):=IJ T.aq.mg T.aq.mks T.aq.kp ((wt T).mono (by decide))
theorem Hs.next' {C h:Addr}{os:List Addr}{S:Ob}{H H':Hp}{d:bZ}(x:Hs C H h os S) (due:aY S d= .ok) (hN:cS C H h os (ez S d) H'): ∃os',Hs C H' h os' (ez S d)/\wO os H H'/\ ∀b∈os',b∈os\/H b=none:=by
 obtain⟨so,os',hI,nw⟩:=hN
 have e:nT S d=ez S d:=by unfold nT; rw[Ks due]
 exact⟨os',⟨hI,e▸Cz x.2.1,e▸zj x.2.2⟩,so,nw⟩
def Cq (K:N7):Sp:=fun vs H Q _=> ∃(ts:Addr) (os:List Addr) (n:Nat) (ms:List Mem) (ds:List Oi),vs=[.ref ts]/\LS os n H ts ms ds/\O6 ms ds/\ds.length<=1000/\ ∀(p:Addr) (H':Hp),H p=none->ag H H'->kx K H' p (aV ms ds)->Q (.ref p) H'
theorem AN (T:Txt K mg a):Oj P w K mg base 1 "_law_rules" ["_law_state"] (Cq K):=by
 refine b9 T.oK dU fun f c A o s H vs Q E hr h=>?_
 obtain⟨ts,os,n,ms,ds,rfl,⟨ln,la,dd,vs,kvs,l⟩,db,dl,q⟩:=h
 refine⟨_,(ae (Oa 1 dU.nd (bh dD)) (ae (de (dB K (N8 K (pv 0) aa)) (fG rfl (aR (gn 2 dU.nd) (aR (gn 3 dU.nd) (aR (gn 4 dU.nd) (aR (gn 5 dU.nd) eG))))) (ae (Oa 6 dU.nd (wN ue aa)) (eF (aF (aG fN (pv 4) bu) (ah (Oa 6 dU.nd (show PE _ _ (O3 K _ _ _ _) from jP Lj LM LO lr (N8 K (pv 0) aa) (N6 (pv 4))))) aw) (ah (aP (jX K (pv 1) (bF (ao (show PE _ _ (O3 K _ _ _ _) from jP Lj LM LO lr (N8 K (pv 0) aa) (N6 (pv 3))) (ao (pv 6) (N6 (pv 5))))))))))) (ah (av (pv 1))))),?_⟩
 refine⟨(by show 0<=sizeLine; decide),fun p np=>?_⟩
 have s1:=ag.upd (o:= .lst []) np
 have vl:=l.ar.length
 dsimp only[aO,L2.start,List.set]
 refine⟨_,rfl,ts,_,_,_,rfl,rfl,N9.of (s1 _ _ l.ht),rfl,la,rfl,⟨_,N5.of (s1 _ _ l.ha)⟩,?_⟩
 refine fk (xs:=vs) (fun i σ' H'=> ∃(v2 v3 v4 v5 v6:Option V),σ'=[some (.ref ts),some (.ref p),v2,v3,v4,v5,v6]/\ag H H'/\kx K H' p ((aV ms ds).take i)) ⟨none,none,none,none,none,rfl,s1,[],af,.nil⟩ (fun i σ' H' _ ⟨_,_,_,_,_,_,sm,_⟩=>bo (N5.of (sm _ _ l.ha))) ?_ ?_
 .rintro i x σ' H' hi ⟨v2,v3,v4,v5,v6,rfl,sm,hR⟩
  obtain⟨d,hd,t,rfl,_,ht⟩:=l.ar.get hi
  have ht':=sm _ _ ht
  have hn':=sm _ _ l.hn
  have hs':=sm _ _ l.ht
  obtain⟨b1,b2,b3⟩:=db d (Kw hd)
  obtain⟨j,j1,j2⟩:=gX b1
  have ej:=jf j1 j2
  have il:i < ds.length:=(Ky.mp hd).1
  refine⟨t,_,rfl,N9.of ht',rfl,_,_,rfl,_,_,rfl,_,_,rfl,_,_,rfl,rfl,?_⟩
  refine⟨_,rfl,?_⟩
  dsimp only[aO,List.set]
  refine⟨fun σ2 H2=>σ2=[some (.ref ts),some (.ref p),some (.str d.1),some (.str d.2.1),some (ig d.2.2.1),some (.int d.2.2.2),some (.int (ff (ms.map (·.1)) d).2.1)]/\H'=H2,?_,?_⟩
  .refine⟨_,rfl,?_⟩
   cases ed:d.2.2.1 with
   | none =>
    refine⟨rfl,_,rfl,aD ⟨?_,rfl⟩⟩
    unfold ff
    rw[ed]
   | some b =>
    obtain⟨k,i1,i2⟩:=gX (b2 b ed)
    have ei:=jf i1 i2
    refine⟨rfl,_,rfl,aU ⟨_,rfl,ts,_,_,_,rfl,rfl,N9.of hs',rfl,.inl ⟨rfl,_,N5.of hn'⟩,_,rfl,ln,_,b,k,rfl,rfl,hn',i1,i2,?_,rfl⟩⟩
    unfold ff
    rw[ed]
    show _=[_,_,_,_,_,_,some (V.int (((ms.map (·.1)).idxOf b:Nat):Int))]
    rw[ei]
    rfl
  rintro σ2 H2 ⟨rfl,rfl⟩
  obtain⟨xs,hx,hX⟩:=id hR
  refine⟨_,rfl,.inl ⟨rfl,_,N5.of hx⟩,_,rfl,ts,_,_,_,rfl,rfl,N9.of hs',rfl,.inl ⟨rfl,_,N5.of hn'⟩,_,rfl,ln,_,d.2.1,j,rfl,rfl,hn',j1,j2,_,rfl,_,rfl,(by show 3<=sizeLine; decide),fun t nt=>?_⟩
  have hx':=(ai (o:= .tup [.int ((j:Nat):Int),.int (ff (ms.map (·.1)) d).2.1,.int d.2.2.2]) (az hx nt)).trans hx
  refine⟨p,_,_,rfl,rfl,hx',by rw[hX.length,K0]; exact aJ (by omega),?_⟩
  have er:(aV ms ds).take (i+1)=(aV ms ds).take i++[(((j:Nat):Int),(ff (ms.map (·.1)) d).2.1,d.2.2.2)]:=by
   rw[La]
   congr 1
   unfold aV
   rw[KH,hd]
   show [ff (ms.map (·.1)) d]=_
   rw[<-ej]
   rfl
  rw[er]
  exact⟨_,_,_,_,_,rfl,sm.JI nt np,kx.push (q:=(((j:Nat):Int),(ff (ms.map (·.1)) d).2.1,d.2.2.2)) hR nt hx⟩
 .rintro σ' H' ⟨v2,v3,v4,v5,v6,rfl,sm,hR⟩
  rw[vl,LG (by unfold aV; rw[Kq]; omega)] at hR
  exact⟨_,rfl,q p H' np sm hR⟩
def Fp (K:N7):Sp:=fun vs H Q _=> ∃(p p':Addr) (ws:List Int),vs=[.ref p,.ref p']/\H p=some (.lst (ws.map V.int))/\H p'=some (.lst (ws.map V.int))/\ws.length<=1000/\Q (.bl true) H
theorem zd (T:Txt K mg a):Oj P w K mg base 2 "_law_row" ["_law_found","_law_due_here"] (Fp K):=by
 refine b9 T.se uC fun f c A o s H vs Q E hr h=>?_
 obtain⟨p,p',ws,rfl,hp,hp',wl,q⟩:=h
 refine⟨_,(ae (aF (PW.pt (cq (bK (bQ K (bc dr (by rfl) T.bz boot_isinstance (ao (pv 0) (N6 (d9 (v:= .ty "list") rfl T.iA boot_list rfl)))))) (cz (aG eU (cE K T.bI (pv 0)) (cE K T.bI (pv 1)))))) (ah (av cO)) aw) (ae (de (gB T.cF (cE K T.bI (pv 1))) (gn 2 uC.nd) (ah (aF (PW.pt (cq (bK (bQ K (aE (nN T) hr.mm (N6 (Od K (pv 0) (pv 2)))))) (cz (aG eU (Od K (pv 0) (pv 2)) (Od K (pv 1) (pv 2)))))) (ah (av cO)) aw))) (ah (av cO)))),?_⟩
 refine⟨_,rfl,_,"list",true,rfl,.inl ⟨⟨_,N5.of hp⟩,.inl ⟨rfl,rfl⟩⟩,_,rfl,aD ?_⟩
 refine⟨_,rfl,_,_,rfl,.inl ⟨_,N5.of hp,rfl⟩,_,rfl,_,_,rfl,.inl ⟨_,N5.of hp',rfl⟩,rfl,_,rfl,?_⟩
 rw[show (!decide (V.int ((ws.map V.int).length:Nat)=V.int ((ws.map V.int).length:Nat)))=false from by simp]
 refine aD ⟨_,rfl,_,_,rfl,.inl ⟨_,N5.of hp',rfl⟩,_,rfl,by omega,by rw[Kq]; omega,?_⟩
 rw[KW,Kq]
 refine fk (xs:=cj 0 ws.length) (fun i σ' H'=> ∃v:Option V,σ'=[some (.ref p),some (.ref p'),v]/\H'=H) ⟨none,rfl,rfl⟩ (fun i σ' H' _ _=>cK) ?_ ?_
 .rintro i x σ' H' hi ⟨v,rfl,rfl⟩
  obtain⟨il,rfl⟩:=bW hi
  refine⟨_,rfl,_,rfl,p,_,_,_,rfl,rfl,N5.of hp,fj (by omega) (by omega),_,rfl,⟨true,false,.inl ⟨rfl,rfl⟩,.inr ⟨by decide,rfl⟩,rfl⟩,_,rfl,aD ?_⟩
  refine⟨_,rfl,_,rfl,p,_,_,_,rfl,rfl,N5.of hp,fj (by omega) (by omega),_,rfl,_,rfl,p',_,_,_,rfl,rfl,N5.of hp',fj (by omega) (by omega),rfl,_,rfl,?_⟩
  rw[show (!decide (V.int (MA.g ws (0+(i:Nat)))=V.int (MA.g ws (0+(i:Nat)))))=false from by simp]
  exact aD ⟨_,rfl,rfl⟩
 .rintro σ' H' ⟨v,rfl,rfl⟩
  exact q
theorem mY (d:Oi):(jG d).all bS=true:=by
 obtain⟨d1,d2,d3,d4⟩:=d
 cases d3 <;> rfl
theorem tZ (m:Mem):(jo m).all bS=true:=by
 obtain⟨m1,m2⟩:=m
 cases m2 <;> rfl
theorem zu (d:Oi):rO (jG d) (jG d)=true:=ji (mY d)
theorem Fn (m:Mem):rO (jo m) (jo m)=true:=ji (tZ m)
def DE (C:Addr) (K:N7):Sp:=fun vs H Q _=> ∃(h la:Addr) (os xs:List Addr) (S:Ob) (us:List V),vs=[.ref h,.ref la]/\HI C H h os S/\H la=some (.lst us)/\F2 (lM xs H) us S.ds/\S.ds.length<=24/\ ∀H',ag H H'->Q (.bl true) H'
theorem CV (T:Txt K mg a):Oj P w K mg base 2 "_law_demands_told" ["_law_house","_law_asked"] (DE a.House K):=by
 refine b9 T.gP gv fun f c A o s H vs Q E hr h=>?_
 obtain⟨h,la,os,xs,S,us,rfl,hI,ha,ar,hdl,q⟩:=h
 obtain⟨dx,p,q0,r,is,kv,rfl,I⟩:=id hI
 have ul:=ar.length
 refine⟨_,(ae (Oa 2 gv.nd (fg T.aq.cl (tQ T) hr.mm (pv 0))) (ae (aF (PW.pt (cq (bK (bQ K (bc dr (by rfl) T.bz boot_isinstance (ao (pv 2) (N6 (d9 (v:= .ty "list") rfl T.iA boot_list rfl)))))) (cz (aG eU (cE K T.bI (pv 2)) (cE K T.bI (pv 1)))))) (ah (av cO)) aw) (ae (de (gB T.cF (cE K T.bI (pv 1))) (gn 3 gv.nd) (ae (aF (PW.pt (cq (bK (bQ K (bc dr (by rfl) T.bz boot_isinstance (ao (Od K (pv 2) (pv 3)) (N6 (d9 (v:= .ty "tuple") rfl T.mE boot_tuple rfl)))))) (cq (aG eU (cE K T.bI (Od K (pv 2) (pv 3))) aa) (cz (bK (bQ K (aE (nN T) hr.mm (N6 (N8 K (Od K (pv 2) (pv 3)) aa))))))))) (ah (av cO)) aw) (ae (aF (PW.pt (cq (bK (bQ K (bc dr (by rfl) T.bz boot_isinstance (ao (N8 K (Od K (pv 2) (pv 3)) aa) (N6 (d9 (v:= .ty "str") rfl T.sP boot_str rfl)))))) (cz (bK (bQ K (bc dr (by rfl) T.bz boot_isinstance (ao (N8 K (Od K (pv 2) (pv 3)) aa) (N6 (d9 (v:= .ty "str") rfl T.sP boot_str rfl))))))))) (ah (av cO)) aw) (ah (aF (PW.pt (cq (PW.pt (eP (aG eR (N8 K (Od K (pv 1) (pv 3)) aa) bu) (eI (aG fN (N8 K (Od K (pv 2) (pv 3)) aa) bu)))) (cz (aG (show Ol _ _ (Dy K) from Cr (cf hr)) (Od K (pv 2) (pv 3)) (Od K (pv 1) (pv 3)))))) (ah (av cO)) aw))))) (ah (av cO))))),?_⟩
 refine⟨_,rfl,h,dx,_,rfl,I.ih,Of,h,_,S,rfl,hI,fun fp ys H1 nfp s1 hfp hY=>?_⟩
 have yl:=hY.length
 have ha1:=s1 _ _ ha
 have ar1:F2 (lM xs H1) us S.ds:=ar.imp fun v d ⟨t,e,a,b⟩=>⟨t,e,a,s1 _ _ b⟩
 refine⟨_,rfl,_,"list",true,rfl,.inl ⟨⟨_,N5.of hfp⟩,.inl ⟨rfl,rfl⟩⟩,_,rfl,aD ?_⟩
 refine⟨_,rfl,_,_,rfl,.inl ⟨_,N5.of hfp,rfl⟩,_,rfl,_,_,rfl,.inl ⟨_,N5.of ha1,rfl⟩,rfl,_,rfl,?_⟩
 rw[show (!decide (V.int (ys.length:Nat)=V.int (us.length:Nat)))=false from by rw[yl,ul]; simp]
 refine aD ?_
 refine⟨_,rfl,_,_,rfl,.inl ⟨_,N5.of ha1,rfl⟩,_,rfl,by omega,by omega,?_⟩
 rw[KW]
 refine bA (xs:=cj 0 us.length) (fun i σ' H'=> ∃v3:Option V,σ'=[some (.ref h),some (.ref la),some (.ref fp),v3]/\H'=H1) ⟨none,rfl,rfl⟩ (fun i σ' H' _ _=>cK) ?_ ?_
 .rintro i x σ' H' D1 nx1 - hi ⟨v3,rfl,rfl⟩
  obtain⟨hin,rfl⟩:=bW hi
  have ei:(0+(i:Nat):Int)=(i:Nat):=by omega
  rw[ei]
  obtain⟨d,hd,t1,e1,_,ht1⟩:=ar1.get (Kr hin)
  obtain⟨v,hv,t2,rfl,_,ht2⟩:=hY.at' hd
  have hu:us[i]?=some (.ref t1):=by rw[Kr hin,e1]
  have a1:Om us (i:Nat)=some (.ref t1):=bT hu
  have a2:Om ys (i:Nat)=some (.ref t2):=bT hv
  have hs1:=N5.of (K:=K) ha1
  have hs2:=N5.of (K:=K) hfp
  have q1:=N9.of (K:=K) ht1
  have q2:=N9.of (K:=K) ht2
  refine⟨_,rfl,_,rfl,fp,_,_,_,rfl,rfl,hs2,a2,_,"tuple",true,rfl,.inr ⟨⟨_,q2⟩,.inl ⟨rfl,rfl⟩⟩,_,rfl,aD ?_⟩
  refine⟨_,rfl,_,rfl,fp,_,_,_,rfl,rfl,hs2,a2,_,_,rfl,.inr ⟨_,q2,rfl⟩,rfl,_,rfl,aD ?_⟩
  refine⟨_,rfl,_,rfl,fp,_,_,_,rfl,rfl,hs2,a2,t2,_,_,_,rfl,rfl,q2,rfl,.int d.2.2.2,rfl,⟨true,false,.inl ⟨rfl,rfl⟩,.inr ⟨by decide,rfl⟩,rfl⟩,_,rfl,aD ?_⟩
  refine⟨_,rfl,_,rfl,fp,_,_,_,rfl,rfl,hs2,a2,t2,_,_,_,rfl,rfl,q2,rfl,_,"str",true,rfl,.inl ⟨rfl,rfl⟩,_,rfl,aD ?_⟩
  refine⟨_,rfl,_,rfl,fp,_,_,_,rfl,rfl,hs2,a2,t2,_,_,_,rfl,rfl,q2,rfl,_,"str",true,rfl,.inl ⟨rfl,rfl⟩,_,rfl,aD ?_⟩
  obtain⟨d1,d2,d3,d4⟩:=d
  refine⟨_,rfl,_,rfl,la,_,_,_,rfl,rfl,hs1,a1,t1,_,_,_,rfl,rfl,q1,rfl,rfl,_,rfl,?_⟩
  cases d3 with
  | none =>
   refine aU ⟨_,rfl,_,rfl,fp,_,_,_,rfl,rfl,hs2,a2,t2,_,_,_,rfl,rfl,q2,rfl,rfl,_,rfl,aD ?_⟩
   refine⟨_,rfl,_,rfl,fp,_,_,_,rfl,rfl,hs2,a2,_,rfl,_,rfl,la,_,_,_,rfl,rfl,hs1,a1,t2,t1,_,_,rfl,rfl,q2,q1,mY _,mY _,_,rfl,?_⟩
   rw[zu]
   exact aD (nx1 _ _ ⟨_,rfl,rfl⟩)
  | some z =>
   refine aD (aD ?_)
   refine⟨_,rfl,_,rfl,fp,_,_,_,rfl,rfl,hs2,a2,_,rfl,_,rfl,la,_,_,_,rfl,rfl,hs1,a1,t2,t1,_,_,rfl,rfl,q2,q1,mY _,mY _,_,rfl,?_⟩
   rw[zu]
   exact aD (nx1 _ _ ⟨_,rfl,rfl⟩)
 .rintro σ' H' ⟨v3,rfl,rfl⟩
  exact q _ s1
def Dj (C:Addr) (K:N7):Sp:=fun vs H Q _=> ∃(h la:Addr) (os:List Addr) (S:Ob) (us:List V),vs=[.ref h,.ref la]/\HI C H h os S/\H la=some (.lst us)/\F2 (fun v m=> ∃t,v=V.ref t/\H t=some (.tup (jo m))) us (S.ms.filter (·.2.isSome))/\S.ms.length<=12/\ ∀H',ag H H'->Q (.bl true) H'
theorem DM (T:Txt K mg a):Oj P w K mg base 2 "_law_tops_told" ["_law_house","_law_due_here"] (Dj a.House K):=by
 refine b9 T.jr iO fun f c A o s H vs Q E hr h=>?_
 obtain⟨h,la,os,S,us,rfl,hI,ha,ar,hml,q⟩:=h
 obtain⟨dx,p,q0,r,is,kv,rfl,I⟩:=id hI
 have ul:=ar.length
 have fl:(S.ms.filter (·.2.isSome)).length<=12:=KR (Lp _ _) hml
 refine⟨_,(ae (Oa 2 iO.nd (fg T.aq.cl (wq T) hr.mm (pv 0))) (ae (aF (PW.pt (cq (bK (bQ K (bc dr (by rfl) T.bz boot_isinstance (ao (pv 2) (N6 (d9 (v:= .ty "list") rfl T.iA boot_list rfl)))))) (cz (aG eU (cE K T.bI (pv 2)) (cE K T.bI (pv 1)))))) (ah (av cO)) aw) (ae (de (gB T.cF (cE K T.bI (pv 1))) (gn 3 iO.nd) (ae (aF (PW.pt (cq (bK (bQ K (bc dr (by rfl) T.bz boot_isinstance (ao (Od K (pv 2) (pv 3)) (N6 (d9 (v:= .ty "tuple") rfl T.mE boot_tuple rfl)))))) (cq (aG eU (cE K T.bI (Od K (pv 2) (pv 3))) aa) (cz (bK (bQ K (aE (nN T) hr.mm (N6 (N8 K (Od K (pv 2) (pv 3)) aa))))))))) (ah (av cO)) aw) (ah (aF (PW.pt (cq (bK (bQ K (bc dr (by rfl) T.bz boot_isinstance (ao (N8 K (Od K (pv 2) (pv 3)) aa) (N6 (d9 (v:= .ty "str") rfl T.sP boot_str rfl)))))) (cz (aG (show Ol _ _ (Dy K) from Cr (cf hr)) (Od K (pv 2) (pv 3)) (Od K (pv 1) (pv 3)))))) (ah (av cO)) aw)))) (ah (av cO))))),?_⟩
 refine⟨_,rfl,h,dx,_,rfl,I.ih,Of,h,_,S,rfl,hI,by omega,fun fp ys H1 nfp s1 hfp hY=>?_⟩
 have yl:=hY.length
 have ha1:=s1 _ _ ha
 have ar1:=ar.imp (S:=fun v m=> ∃t,v=V.ref t/\H1 t=some (.tup (jo m))) fun v d ⟨t,e,b⟩=>⟨t,e,s1 _ _ b⟩
 refine⟨_,rfl,_,"list",true,rfl,.inl ⟨⟨_,N5.of hfp⟩,.inl ⟨rfl,rfl⟩⟩,_,rfl,aD ?_⟩
 refine⟨_,rfl,_,_,rfl,.inl ⟨_,N5.of hfp,rfl⟩,_,rfl,_,_,rfl,.inl ⟨_,N5.of ha1,rfl⟩,rfl,_,rfl,?_⟩
 rw[show (!decide (V.int (ys.length:Nat)=V.int (us.length:Nat)))=false from by rw[yl,ul]; simp]
 refine aD ?_
 refine⟨_,rfl,_,_,rfl,.inl ⟨_,N5.of ha1,rfl⟩,_,rfl,by omega,by omega,?_⟩
 rw[KW]
 refine bA (xs:=cj 0 us.length) (fun i σ' H'=> ∃v3:Option V,σ'=[some (.ref h),some (.ref la),some (.ref fp),v3]/\H'=H1) ⟨none,rfl,rfl⟩ (fun i σ' H' _ _=>cK) ?_ ?_
 .rintro i x σ' H' D1 nx1 - hi ⟨v3,rfl,rfl⟩
  obtain⟨hin,rfl⟩:=bW hi
  have ei:(0+(i:Nat):Int)=(i:Nat):=by omega
  rw[ei]
  obtain⟨m,hm,t1,e1,ht1⟩:=ar1.get (Kr hin)
  obtain⟨v,hv,t2,rfl,_,ht2⟩:=hY.at' hm
  have hu:us[i]?=some (.ref t1):=by rw[Kr hin,e1]
  have a1:Om us (i:Nat)=some (.ref t1):=bT hu
  have a2:Om ys (i:Nat)=some (.ref t2):=bT hv
  have hs1:=N5.of (K:=K) ha1
  have hs2:=N5.of (K:=K) hfp
  have q1:=N9.of (K:=K) ht1
  have q2:=N9.of (K:=K) ht2
  obtain⟨c,hc⟩: ∃c,m.2=some c:=L3.mp (Li.mp (Kw hm)).2
  obtain⟨m1,m2⟩:=m
  cases (show m2=some c from hc)
  refine⟨_,rfl,_,rfl,fp,_,_,_,rfl,rfl,hs2,a2,_,"tuple",true,rfl,.inr ⟨⟨_,q2⟩,.inl ⟨rfl,rfl⟩⟩,_,rfl,aD ?_⟩
  refine⟨_,rfl,_,rfl,fp,_,_,_,rfl,rfl,hs2,a2,_,_,rfl,.inr ⟨_,q2,rfl⟩,rfl,_,rfl,aD ?_⟩
  refine⟨_,rfl,_,rfl,fp,_,_,_,rfl,rfl,hs2,a2,t2,_,_,_,rfl,rfl,q2,rfl,.int c,rfl,⟨true,false,.inl ⟨rfl,rfl⟩,.inr ⟨by decide,rfl⟩,rfl⟩,_,rfl,aD ?_⟩
  refine⟨_,rfl,_,rfl,fp,_,_,_,rfl,rfl,hs2,a2,t2,_,_,_,rfl,rfl,q2,rfl,_,"str",true,rfl,.inl ⟨rfl,rfl⟩,_,rfl,aD ?_⟩
  refine⟨_,rfl,_,rfl,fp,_,_,_,rfl,rfl,hs2,a2,_,rfl,_,rfl,la,_,_,_,rfl,rfl,hs1,a1,t2,t1,_,_,rfl,rfl,q2,q1,tZ _,tZ _,_,rfl,?_⟩
  rw[Fn]
  exact aD (nx1 _ _ ⟨_,rfl,rfl⟩)
 .rintro σ' H' ⟨v3,rfl,rfl⟩
  exact q _ s1
theorem A1 {ms:List Mem}{i:Nat}{m:Str}{o:Option Int}(nd:(ms.map (·.1)).Nodup) (h:ms[i]?=some (m,o)):bw ms m=o:=by
 have hi:=(Ky.mp h).1
 refine oS h fun j hj e=>?_
 have h1:(ms.map (·.1))[i]?=some m:=by rw[KH,h]; rfl
 have:=(List.getElem?_inj (by rw[Kq]; omega) nd).mp (e.trans h1.symm)
 omega
def A4 (C:Addr) (K:N7):Sp:=fun vs H Q _=> ∃(h ts:Addr) (os xs:List Addr) (n:Nat) (S:Ob),vs=[.ref h,.ref ts]/\HI C H h os S/\OI S.ms S.ds/\LS xs n H ts S.ms S.ds/\ ∀H',ag H H'->Q (.bl true) H'
theorem vS (T:Txt K mg a):Oj P w K mg base 3 "_law_stands" ["_law_house","_law_state"] (A4 a.House K):=by
 refine b9 T.mV iJ fun f c A o s H vs Q E hr h=>?_
 obtain⟨h,ts,os,xs,n,S,rfl,hI,g,⟨ln,la,dd,vs,kvs,l⟩,q⟩:=h
 obtain⟨dx,p,q0,r,is,kv,rfl,I⟩:=id hI
 obtain⟨ml,dl,mn,dn,mN,dN⟩:=id g
 refine⟨_,(ae (gF (pv 1) (fG rfl (aR (gn 2 iJ.nd) (aR (gn 3 iJ.nd) (aR (gn 4 iJ.nd) eG))))) (ae (aF (PW.pt (cq (bK (bQ K (aE (tL T) hr.mm (ao (fg T.aq.cl (bG T) hr.mm (pv 0)) (N6 (pv 2)))))) (cz (bK (bQ K (aE (CV T) hr.mm (ao (pv 0) (N6 (pv 3))))))))) (ah (av cO)) aw) (ah (av (aE (DM T) hr.mm (ao (pv 0) (N6 (gW jM ["_law_name"] ["_law_caps"] [4] OG (dB K (pv 2)) (fun C s2 H2 fp=>⟨(gn 0 (Oy ["_law_name","_law_caps"])),(jb (mP (pk (cf hr) (pv 0) (pv 1)) (by with_unfolding_all rfl))),(bF (ao (pv 0) (N6 (jj (cf hr) (pv 1) (pv 0) (fun _ _=>rfl)))))⟩))))))))),?_⟩
 refine⟨_,rfl,ts,_,rfl,N9.of l.ht,rfl,_,_,rfl,_,_,rfl,_,_,rfl,rfl,?_⟩
 dsimp only[aO,L2.start,List.set]
 refine⟨_,rfl,h,dx,_,rfl,I.ih,Of,h,_,S,rfl,hI,by omega,fun pm H1 npm s1 hpm=>?_⟩
 refine⟨_,rfl,pm,ln,aA S,rfl,hpm,N5.of (s1 _ _ l.hn),by unfold aA; rw[Kq]; omega,fun y hy=>KR (mN y hy).len (by decide),_,rfl,aD ?_⟩
 refine⟨_,rfl,_,rfl,h,la,_,xs,S,vs,rfl,hI.grow fun b o _ e=>s1 _ _ e,s1 _ _ l.ha,l.ar.imp fun v d ⟨t,e,a,b⟩=>⟨t,e,a,s1 _ _ b⟩,dl,fun H2 s2'=>⟨_,rfl,aD ?_⟩⟩
 have s2:=s1.trans s2'
 have hn2:=s2 _ _ l.hn
 have hd2:=s2 _ _ l.hd
 refine⟨_,rfl,_,rfl,ln,rfl,⟨_,N5.of hn2⟩,?_⟩
 refine cg (xs:=(S.ms.map (·.1)).map V.str) (fun i ys H'=>ag H2 H'/\ys.length<=i/\F2 (fun v m=> ∃t,v=V.ref t/\H' t=some (.tup (jo m))) ys ((S.ms.take i).filter (·.2.isSome))) (fun i ys H' _ h=>bo (N5.of (h.1 _ _ hn2))) ⟨ag.refl H2,Ku _,.nil⟩ (aJ (by rw[Kq,Kq]; omega)) (fun i ys H' h=>h.2.1) ?_ ?_
 .rintro i ys H3 x hi ⟨sm,hyl,hY⟩
  obtain⟨m,hm,rfl⟩: ∃m:Mem,S.ms[i]?=some m/\x=V.str m.1:=by
   rw[KH,KH] at hi
   cases e:S.ms[i]? with
   | none=>rw[e] at hi; cases hi
   | some m=>rw[e] at hi; exact⟨m,rfl,(KS hi).symm⟩
  have tk:(S.ms.take (i+1)).filter (·.2.isSome)=(S.ms.take i).filter (·.2.isSome)++(if m.2.isSome then [m] else []):=by
   rw[La,hm,LB]
   congr 1
   show [m].filter _=_
   by_cases c:m.2.isSome=true <;> simp[c]
  obtain⟨m1,m2⟩:=m
  have hv:aM kvs (Sum.inr m1)=m2.map V.int:=by rw[l.cp m1,A1 mn hm]
  have hd3:=sm _ _ hd2
  refine⟨_,rfl,_,rfl,dd,_,rfl,cJ.k (k:=Sum.inr m1) hd3,_,rfl,?_⟩
  rw[tk,hv]
  cases m2 with
  | none=>exact aD ⟨sm,by omega,by simpa using hY⟩
  | some c =>
   refine aU ⟨_,rfl,_,rfl,_,rfl,dd,.int c,rfl,(by have:=cJ.k (k:=Sum.inr m1) hd3; rw[hv] at this; exact this),(by show 2<=sizeLine; decide),fun t nt=>?_⟩
   have s4:=ag.upd (o:= .tup [.str m1,.int c]) nt
   exact⟨sm.trans s4,by rw[KC]; show ys.length+1<=i+1; omega,F2.append (hY.imp fun v m ⟨t,e,b⟩=>⟨t,e,s4 _ _ b⟩) (.cons ⟨t,rfl,af⟩ .nil)⟩
 .rintro ys H3 p2 ⟨sm,hyl,hY⟩ np
  rw[Kq,Kq,K6] at hY
  have s4:=ag.upd (o:= .lst ys) np
  have s24:=s2.trans (sm.trans s4)
  exact⟨h,p2,_,S,ys,rfl,hI.grow fun b o _ e=>s24 _ _ e,af,hY.imp fun v m ⟨t,e,b⟩=>⟨t,e,s4 _ _ b⟩,ml,fun H4 s5=>q H4 (s24.trans s5)⟩
def DT (xs:List Addr) (H:Hp) (kt:Oo) (d:Oi):Prop:=(d.2.2.1=none-> ∃(t:Addr) (p e o:Int),aM kt (Sum.inl d.2.2.2)=some (.ref t)/\t∉xs/\H t=some (.tup [.int p,.int e,.int o])/\Ou p e o/\cA p e o=d.2.2.2)/\(d.2.2.1≠none->d.2.2.2<=99)
theorem DT.mono {xs xs':List Addr}{H H':Hp}{kt:Oo}{d:Oi}(x:DT xs H kt d) (h: ∀b o,b∉xs->H b=some o->H' b=some o/\b∉xs'):DT xs' H' kt d:=⟨fun e=>by
 obtain⟨t,p,e',o,a,b,c,f⟩:=x.1 e
 exact⟨t,p,e',o,a,(h t _ b c).2,(h t _ b c).1,f⟩,x.2⟩
theorem DT.put {xs:List Addr}{H H':Hp}{kt:Oo}{d:Oi}{t:Addr}{p e o:Int}(x:DT xs H kt d) (h: ∀b u,H b=some (.tup u)->H' b=some (.tup u)) (nt:t∉xs) (ht:H' t=some (.tup [.int p,.int e,.int o])) (hin:Ou p e o):DT xs H' (putK kt (Sum.inl (cA p e o)) (.ref t)) d:=⟨fun e0=>by
 rw[iW]
 by_cases c:d.2.2.2=cA p e o
 .rw[Ks (by rw[c])]
  exact⟨t,p,e,o,rfl,nt,ht,hin,c.symm⟩
 .rw[Kp fun z=>c (MX z)]
  obtain⟨t',p',e',o',a,b,c',f⟩:=x.1 e0
  exact⟨t',p',e',o',a,b,h _ _ c',f⟩,x.2⟩
def gM (ms:List Mem) (i:Nat):List Mem:=ms.take i++(ms.drop i).map fun m=>(m.1,none)
theorem vF (ms:List Mem) (i:Nat):(gM ms i).map (·.1)=ms.map (·.1):=by
 unfold gM
 rw[KO,LF]
 show (ms.take i).map (·.1)++(ms.drop i).map (·.1)=_
 rw[<-KO,List.take_append_drop]
theorem DC (ms:List Mem):gM ms 0=Oz (ms.map (·.1)):=by
 unfold gM Oz
 rw[List.take_zero,List.drop_zero,List.nil_append,LF]
 rfl
theorem Fu (ms:List Mem){i:Nat}(h:ms.length<=i):gM ms i=ms:=by
 unfold gM
 rw[LG h,List.drop_of_length_le h]
 simp
theorem GR {ms:List Mem}{i:Nat}{m:Mem}(h:ms[i]?=some m):gM ms i=ms.take i++(m.1,none)::(ms.drop (i+1)).map (fun m=>(m.1,none))/\gM ms (i+1)=ms.take i++m::(ms.drop (i+1)).map (fun m=>(m.1,none)):=by
 obtain⟨il,e⟩:=Ky.mp h
 unfold gM
 refine⟨?_,?_⟩
 .rw[List.drop_eq_getElem_cons il,e,Ld]
 .rw[La,h,L6]
  rfl
theorem D5 {A B:List Mem}{y:Str}{o:Option Int}(ha:y∉A.map (·.1)) (hb:y∉B.map (·.1)):eC (A++(y,none)::B) y o=A++(y,o)::B:=by
 have k: ∀ {X:List Mem},y∉X.map (·.1)->X.map (fun x=>if x.1=y then (y,o) else x)=X:=fun {X} h=>by
  refine (Mb fun x hx=>?_).trans (List.map_id _)
  rw[Kp fun e=>h (Lq.mpr ⟨x,hx,e⟩)]
  rfl
 unfold eC
 rw[KO,Ld,k ha,k hb,Ks rfl]
def E6 (a:Adr) (K:N7):Sp:=fun vs H Q _=> ∃(st dt:Addr) (os xs:List Addr) (n:Nat) (ms:List Mem) (ds:List Oi) (kt:Oo),vs=[.ref st,.ref dt]/\LS os n H st ms ds/\H dt=some (.dK kt)/\(∀d∈ds,DT xs H kt d)/\OI ms ds/\O6 ms ds/\nW ms /\
 ∀(h:Addr) (os':List Addr) (ks:List (List Mem×List Oi)) (H':Hp),Pd H os' H'->Hs a.House H' h os' ⟨ms,ds,ks⟩->Q (.ref h) H'
theorem EJ (T:Txt K mg a):Oj P w K mg base 6 "_law_anew" ["_law_state","_law_threes"] (E6 a K):=by
 refine b9 T.qB dP fun f c A o s H vs Q E hr h=>?_
 obtain⟨st,dt,os,xs,n,ms,ds,kt,rfl,⟨ln,la,dd,vs,kvs,l⟩,hdt,hT,g,db,co,q⟩:=h
 refine⟨_,(ae (Oa 2 dP.nd (vL (yo T) hr.mm)) (ae (de (dB K (N8 K (pv 0) aa)) (gn 3 dP.nd) (ah (aP (eh T.aq.cl (z4 T) hr.mm (pv 2) (N6 (pv 3)))))) (ae (de (dB K (N8 K (pv 0) aa)) (fG rfl (aR (gn 4 dP.nd) (aR (gn 5 dP.nd) (aR (gn 6 dP.nd) (aR (gn 7 dP.nd) eG))))) (ah (aF (aG eR (pv 6) bu) (ae (Oa 8 dP.nd (jj (cf hr) (pv 1) (pv 7) (fun _ _=>rfl))) (ah (aP (eh T.aq.cl (A8 T) hr.mm (pv 2) (ao (pv 4) (ao (pv 5) (ao (N8 K (pv 8) aa) (ao (N8 K (pv 8) aa) (N6 (N8 K (pv 8) aa)))))))))) (ah (aP (eh T.aq.cl (CN T) hr.mm (pv 2) (ao (pv 4) (ao (pv 5) (ao (pv 6) (N6 (pv 7))))))))))) (ae (de (dB K (N8 K (pv 0) aa)) (gn 3 dP.nd) (ah (aF (mP (pk (cf hr) (pv 3) (N8 K (pv 0) aa)) (by with_unfolding_all rfl)) (ah (aP (eh T.aq.cl (Fj T) hr.mm (pv 2) (ao (pv 3) (N6 (jj (cf hr) (N8 K (pv 0) aa) (pv 3) (fun _ _=>rfl))))))) aw))) (ah (av (pv 2))))))),?_⟩
 obtain⟨ml,dl,mn,dn,mN,dN⟩:=id g
 refine fun h dx nh ndx hdx=>⟨h,dx,rfl,af,(ai hdx).trans af,fun os0 H4 hs hI hos=>⟨rfl,?_⟩⟩
 have s4:ag H H4:=fun b o e=>by
  have b1:b≠h:=fun z=>by rw[z,nh] at e; cases e
  have b2:b≠dx:=fun z=>by rw[z,ndx] at e; cases e
  exact hs b o b1 b2 (((ai b1).trans (ai b2)).trans e)
 have hnew: ∀b∈os0,H b=none:=fun b hb=>by
  rcases hos b hb with rfl | rfl | e
  .exact nh
  .exact ndx
  .by_cases b1:b=h
   .rw[b1]; exact nh
   .by_cases b2:b=dx
    .rw[b2]; exact ndx
    .rw[ai b1,ai b2] at e; exact e
 have B4:Pd H os0 H4:=⟨s4,hnew⟩
 have X4:Hs a.House H4 h os0 ⟨[],[],[]⟩:=⟨hI,Bt,Cc⟩
 clear hs hos hnew hI nh ndx hdx s4
 dsimp only[aO,L2.start,List.set]
 obtain⟨us,eus⟩: ∃us:List Str,us=ms.map (·.1):=⟨_,rfl⟩
 have ul:us.length=ms.length:=by rw[eus,Kq]
 have hn:=l.hn
 rw[<-eus] at hn mn mN
 refine⟨_,rfl,st,_,_,_,rfl,rfl,N9.of (B4.s _ _ l.ht),rfl,ln,rfl,⟨_,N5.of (B4.s _ _ hn)⟩,?_⟩
 refine bA (xs:=us.map V.str) (fun i σ' H'=> ∃(os:List Addr) (ks:List (List Mem×List Oi)) (v3:Option V),σ'=[some (.ref st),some (.ref dt),some (.ref h),v3,none,none,none,none,none]/\Hs a.House H' h os ⟨Oz (us.take i),[],ks⟩/\ks.length=i/\Pd H os H') ⟨os0,[],none,rfl,X4,rfl,B4⟩ (fun i σ' H' _ ⟨_,_,_,_,_,_,B⟩=>bo (N5.of (B.s _ _ hn))) ?_ ?_
 .rintro i x σ' H' D1 nx1 - hi ⟨os,ks,v3,rfl,X,hk,B⟩
  rw[KH] at hi
  cases hy:us[i]? with
  | none=>rw[hy] at hi; cases hi
  | some y =>
   rw[hy] at hi
   cases hi
   have il:=(Ky.mp hy).1
   have yN:=mN y (Kw hy)
   have et:us.take (i+1)=us.take i++[y]:=by rw[La,hy]; rfl
   have ny:y∉us.take i:=by
    have:=(NK (i+1) us).nodup mn
    rw[et,LR] at this
    exact fun z=>this.2.2 y z y (List.mem_singleton_self _) rfl
   have due:aY ⟨Oz (us.take i),[],ks⟩ (.member y)= .ok:=uj (by show y∉(Oz (us.take i)).map (·.1); rw[vx]; exact ny) yN (by show (Oz (us.take i)).length < 12; unfold Oz; rw[Kq,K0]; omega) (by show ks.length < 150; omega)
   have em:Oz (us.take i)++[(y,none)]=Oz (us.take (i+1)):=by rw[et]; unfold Oz; rw[KO]; rfl
   obtain⟨dx,p0,q0,r0,is,kv,eo,I⟩:=id X.1
   refine⟨_,rfl,h,dx,_,rfl,I.ih,Of,_,rfl,h,os,_,y,rfl,KR yN.2.1 (by decide),X.done (by show ks.length<=150; omega) due fun H6 hN=>?_⟩
   obtain⟨os',X6,so,nw⟩:=X.next' due hN
   have X6:Hs a.House H6 h os' ⟨Oz (us.take i)++[(y,none)],[],ks++[(Oz (us.take i),[])]⟩:=X6
   rw[em] at X6
   exact nx1 _ _ ⟨os',_,_,rfl,X6,by rw[KC]; show ks.length+1=i+1; omega,B.next so nw⟩
 rintro σ' H6 ⟨os1,ks1,v3,rfl,X6,hk6,B6⟩
 rw[Kq] at X6 hk6
 rw[K6] at X6
 have vl:=l.ar.length
 clear X4 B4 H4
 refine⟨_,rfl,st,_,_,_,rfl,rfl,N9.of (B6.s _ _ l.ht),rfl,la,rfl,⟨_,N5.of (B6.s _ _ l.ha)⟩,?_⟩
 refine bA (xs:=vs) (fun i σ' H'=> ∃(os:List Addr) (ks:List (List Mem×List Oi)) (v4 v5 v6 v7 v8:Option V),σ'=[some (.ref st),some (.ref dt),some (.ref h),v3,v4,v5,v6,v7,v8]/\Hs a.House H' h os ⟨Oz us,ds.take i,ks⟩/\ks.length=us.length+i/\Pd H os H') ⟨os1,ks1,none,none,none,none,none,rfl,X6,by omega,B6⟩ (fun i σ' H' _ ⟨_,_,_,_,_,_,_,_,_,_,B⟩=>bo (N5.of (B.s _ _ l.ha))) ?_ ?_
 .rintro i x σ' H' D1 nx1 - hi ⟨os,ks,v4,v5,v6,v7,v8,rfl,X,hk,B⟩
  have il:=(Ky.mp hi).1
  obtain⟨d,hd,td,rfl,_,htd⟩:=l.ar.get hi
  have htd:=B.s _ _ htd
  have dm:=Kw hd
  obtain⟨b1,b2,b3,b4⟩:=db d dm
  obtain⟨t1,t2⟩:=hT d dm
  have dNm:=dN _ (Lq.mpr ⟨d,dm,rfl⟩)
  have et:ds.take (i+1)=ds.take i++[d]:=by rw[La,hd]; rfl
  have ny:d.1∉(ds.take i).map (·.1):=by
   have:=((NK (i+1) ds).map (fun d:Oi=>d.1)).nodup dn
   rw[et,KO,LR] at this
   exact fun z=>this.2.2 d.1 z d.1 (List.mem_singleton_self _) rfl
  have inU: ∀ {y:Str}{ds:List Oi}{ks:List (List Mem×List Oi)},y∈ms.map (·.1)->y∈aA ⟨Oz us,ds,ks⟩:=fun {y ds ks} hy=>by
   show y∈(Oz us).map (·.1)
   rw[vx,eus]
   exact hy
  obtain⟨dx,p0,q0,r0,is,kv,eo,I⟩:=id X.1
  refine⟨td,_,rfl,N9.of htd,rfl,_,_,rfl,_,_,rfl,_,_,rfl,_,_,rfl,rfl,?_⟩
  dsimp only[aO,List.set]
  obtain⟨d1,d2,d3,d4⟩:=d
  cases d3 with
  | none =>
   obtain⟨t,p,e,o,hv,_,ht,hin,hp⟩:=t1 rfl
   have hp:cA p e o=d4:=hp
   have ht:=B.s _ _ ht
   have due:aY ⟨Oz us,ds.take i,ks⟩ (.plain d1 d2 p e o)= .ok:=vw (inU b1) ny dNm hin (by rw[hp]; exact b4) (by show (ds.take i).length < 24; rw[K0]; omega) (by show ks.length < 150; omega)
   refine⟨_,rfl,rfl,_,rfl,aU ⟨_,rfl,_,rfl,dt,.ref t,rfl,(by have:=cJ.k (k:=Sum.inl d4) (B.s _ _ hdt); rw[hv] at this; exact this),_,rfl,h,dx,_,rfl,I.ih,Of,_,rfl,_,rfl,_,rfl,t,_,_,_,rfl,rfl,N9.of ht,rfl,_,rfl,t,_,_,_,rfl,rfl,N9.of ht,rfl,_,rfl,t,_,_,_,rfl,rfl,N9.of ht,rfl,h,os,_,d1,d2,p,e,o,rfl,KR dNm.2.1 (by decide),X.done (by show ks.length<=150; omega) due fun H6 hN=>?_⟩⟩
   obtain⟨os',X6,so,nw⟩:=X.next' due hN
   have X6:Hs a.House H6 h os' ⟨Oz us,ds.take i++[(d1,d2,none,cA p e o)],ks++[(Oz us,ds.take i)]⟩:=X6
   rw[hp,<-et] at X6
   exact nx1 _ _ ⟨os',_,_,_,_,_,_,rfl,X6,by rw[KC]; show ks.length+1=_; omega,B.next so nw⟩
  | some b =>
   have due:aY ⟨Oz us,ds.take i,ks⟩ (.link d1 d2 b d4)= .ok:=xH (inU b1) (inU (b2 b rfl)) ny dNm ⟨b3,t2 (by intro z; cases z)⟩ (by show (ds.take i).length < 24; rw[K0]; omega) (by show ks.length < 150; omega)
   refine⟨_,rfl,rfl,_,rfl,aD ⟨_,rfl,h,dx,_,rfl,I.ih,Of,_,rfl,_,rfl,_,rfl,_,rfl,h,os,_,d1,d2,b,d4,rfl,KR dNm.2.1 (by decide),X.done (by show ks.length<=150; omega) due fun H6 hN=>?_⟩⟩
   obtain⟨os',X6,so,nw⟩:=X.next' due hN
   have X6:Hs a.House H6 h os' ⟨Oz us,ds.take i++[(d1,d2,some b,d4)],ks++[(Oz us,ds.take i)]⟩:=X6
   rw[<-et] at X6
   exact nx1 _ _ ⟨os',_,_,_,_,_,_,rfl,X6,by rw[KC]; show ks.length+1=_; omega,B.next so nw⟩
 rintro σ' H7 ⟨os2,ks2,v4,v5,v6,v7,v8,rfl,X7,hk7,B7⟩
 rw[show ds.take vs.length=ds by rw[vl,K6]] at X7
 clear X6 B6 H6
 refine⟨_,rfl,st,_,_,_,rfl,rfl,N9.of (B7.s _ _ l.ht),rfl,ln,rfl,⟨_,N5.of (B7.s _ _ hn)⟩,?_⟩
 refine bA (xs:=us.map V.str) (fun i σ' H'=> ∃(os:List Addr) (ks:List (List Mem×List Oi)) (v3:Option V),σ'=[some (.ref st),some (.ref dt),some (.ref h),v3,v4,v5,v6,v7,v8]/\Hs a.House H' h os ⟨gM ms i,ds,ks⟩/\ks.length<=36+i/\Pd H os H') ⟨os2,ks2,_,rfl,by rw[DC,<-eus]; exact X7,by omega,B7⟩ (fun i σ' H' _ ⟨_,_,_,_,_,_,B⟩=>bo (N5.of (B.s _ _ hn))) ?_ ?_
 .rintro i x σ' H' D1 nx1 - hi ⟨os,ks,v3,rfl,X,hk,B⟩
  rw[KH] at hi
  cases hy:us[i]? with
  | none=>rw[hy] at hi; cases hi
  | some y =>
   rw[hy] at hi
   cases hi
   have il:=(Ky.mp hy).1
   obtain⟨m,hm⟩: ∃m,ms[i]?=some m:=⟨_,Kr (by omega)⟩
   have ey:m.1=y:=by
    rw[eus,KH,hm] at hy
    exact KS hy
   obtain⟨m1,c⟩:=m
   cases (show m1=y from ey)
   obtain⟨e1,e2⟩:=GR hm
   have nm:=mn
   rw[eus,<-vF ms i,e1,KO,Ld] at nm
   obtain⟨_,n2,n3⟩:=LR.mp nm
   have na:y∉(ms.take i).map (·.1):=fun z=>n3 y z y KG rfl
   have nb:=(Ls.mp n2).1
   have ec:bw ms y=c:=by
    have:=FW (ms:=ms) (by rw[<-eus]; exact mn)
    have h2:=Ln (fun z:List (Option Int)=>z[i]?) this
    have h2:((ms.map (·.1)).map fun y=>bw ms y)[i]?=(ms.map (·.2))[i]?:=h2
    rw[KH,KH,KH,hm] at h2
    exact KS h2
   have hd:=B.s _ _ l.hd
   refine⟨_,rfl,_,rfl,st,_,_,_,rfl,rfl,N9.of (B.s _ _ l.ht),rfl,dd,_,rfl,cJ.k (k:=Sum.inr y) hd,_,rfl,?_⟩
   rw[l.cp y,ec]
   cases c with
   | none=>exact aD (nx1 _ _ ⟨os,ks,_,rfl,by rw[e2,<-e1]; exact X,by omega,B⟩)
   | some c =>
    have cr:=co _ (Kw hm) c rfl
    have due:aY ⟨gM ms i,ds,ks⟩ (.top y c)= .ok:=ze (by show y∈(gM ms i).map (·.1); rw[vF]; exact Lq.mpr ⟨_,Kw hm,rfl⟩) (by
     show bw (gM ms i) y=none
     rw[e1]
     unfold bw
     rw[NM,Mg.mpr fun x hx=>by
      simp only[beq_iff_eq]
      exact fun z=>na (Lq.mpr ⟨x,hx,z⟩)]
     simp) cr (by show ks.length < 150; omega)
    obtain⟨dx,p0,q0,r0,is,kv,eo,I⟩:=id X.1
    refine aU ⟨_,rfl,h,dx,_,rfl,I.ih,Of,_,rfl,_,rfl,st,_,_,_,rfl,rfl,N9.of (B.s _ _ l.ht),rfl,_,rfl,dd,.int c,rfl,(by have:=cJ.k (k:=Sum.inr y) hd; rw[l.cp y,ec] at this; exact this),h,os,_,y,c,rfl,X.done (by show ks.length<=150; omega) due fun H8 hN=>?_⟩
    obtain⟨os',X8,so,nw⟩:=X.next' due hN
    have X8:Hs a.House H8 h os' ⟨eC (gM ms i) y (some c),ds,ks++[(gM ms i,ds)]⟩:=X8
    have es:eC (gM ms i) y (some c)=gM ms (i+1):=by rw[e1,D5 na nb,e2]
    rw[es] at X8
    exact nx1 _ _ ⟨os',_,_,rfl,X8,by rw[KC]; show ks.length+1<=_; omega,B.next so nw⟩
 rintro σ' H8 ⟨os3,ks3,v3',rfl,X8,_,B8⟩
 rw[Kq,Fu ms (by omega)] at X8
 exact⟨_,rfl,q h os3 ks3 H8 B8 X8⟩
theorem Wd.qs {C h pl ts:Addr}{n:Nat}{H:Hp}{os:List Addr}{S:Ob}(w:L2.Wd C n H h os pl ts S) (b:GB S):OK H h os S C:=⟨w.it,w.gd.now,b.now,b.cap⟩
def rE (P:Oi->Prop) (S:Ob):Prop:=(∀d∈S.ds,P d)/\ ∀k∈S.ks,∀d∈k.2,P d
theorem BI {P:Oi->Prop}{S:Ob}{d:bZ}(h:rE P S) (hp: ∀y m p e o,d= .plain y m p e o->P (y,m,none,cA p e o)) (hl: ∀y m b mo,d= .link y m b mo->P (y,m,some b,mo)):rE P (dc S d):=by
 unfold dc
 split
 .have put: ∀ {ms:List Mem}{ds:List Oi},(∀d∈ds,P d)->rE P ⟨ms,ds,S.ks++[(S.ms,S.ds)]⟩:=fun {ms ds} k=>⟨k,fun x hx d hd=>by
   rcases KI.mp hx with hx | hx
   .exact h.2 x hx d hd
   .rw[Kt.mp hx] at hd; exact h.1 d hd⟩
  cases d with
  | member y=>exact put (ms:=S.ms++[(y,none)]) h.1
  | plain y m p e o =>
   refine put (ms:=S.ms) fun d hd=>?_
   rcases KI.mp hd with hd | hd
   .exact h.1 d hd
   .rw[Kt.mp hd]; exact hp y m p e o rfl
  | link y m b mo =>
   refine put (ms:=S.ms) fun d hd=>?_
   rcases KI.mp hd with hd | hd
   .exact h.1 d hd
   .rw[Kt.mp hd]; exact hl y m b mo rfl
  | top m wd=>exact put h.1
  | sM m=>exact put h.1
  | sT m=>exact put h.1
  | sD y=>exact put (ms:=S.ms) fun d hd=>h.1 d (Li.mp hd).1
  | back =>
   show rE P (match S.ks.getLast? with | some k=>⟨k.1,k.2,S.ks.dropLast⟩ | none=>S)
   rcases Mp S.ks with hk | ⟨ks,k,hk⟩
   .rw[hk]; exact h
   .have hk:S.ks=ks++[k]:=by rw[hk,Mq]
    rw[show S.ks.getLast?=some k from by rw[hk]; simp,show S.ks.dropLast=ks from by rw[hk]; simp]
    exact⟨h.2 k (by rw[hk]; simp),fun x hx=>h.2 x (by rw[hk]; simp[hx])⟩
 .exact h
theorem eu.one {n:Nat}{rs:List MA.au}{L:List Int}{cs:List (Option Int)}{m:Int}{r r':Option (Int×Nat)}(h:MA.eu n rs L cs m r) (h':MA.eu n rs L cs m r'):r=r':=by
 cases r with
 | none =>
  cases r' with
  | none=>rfl
  | some p' =>
   obtain⟨s,t⟩:=p'
   obtain⟨_,a,⟨c,b,d,_⟩,_⟩:=h'
   have:=h t c a b
   omega
 | some p =>
  obtain⟨s,t⟩:=p
  obtain⟨a1,a2,⟨c,a3,a4,a5⟩,a6,a7⟩:=h
  cases r' with
  | none =>
   have:=h' t c a2 a3
   omega
  | some p' =>
   obtain⟨s',t'⟩:=p'
   obtain⟨b1,b2,⟨c',b3,b4,b5⟩,b6,b7⟩:=h'
   have x1:=a6 t' c' b2 b3 b4
   have x2:=b6 t c a2 a3 a4
   have es:s=s':=by omega
   subst es
   have et:t=t':=by
    rcases Nat.lt_trichotomy t t' with z | z | z
    .have:=b7 t c z a3 a4
     omega
    .exact z
    .have:=a7 t' c' z b3 b4
     omega
   rw[et]
theorem oB {S:Ob}(g:OI S.ms S.ds){ps:List Nat}(lt: ∀i∈ps,i < S.ds.length): ∀y∈dM S ps,y.length<=1000:=fun y hy=>by
 obtain⟨j,hj,rfl⟩:=Lq.mp hy
 have:=g.dN _ (show (bt S).getD j "" ∈ bt S from Kw (L2.getD_at (by show j < (S.ds.map fun d:Oi=>d.1).length; rw[Kq]; exact lt j hj)))
 exact KR this.len (by decide)
def uU:Sp:=fun vs H Q _=> ∃x y:V,vs=[x,y]/\((x= .non/\y= .non)\/(∃t t' p p':Addr,x= .ref t/\y= .ref t'/\H t=some (.tup [.str "ring",.ref p])/\H t'=some (.tup [.str "ring",.ref p']))\/ ∃(t t' p p':Addr) (z:Str) (ys:List Str),x= .ref t/\y= .ref t'/\H t=some (.tup [.str "wide",.str z,.ref p])/\H t'=some (.tup [.str "wide",.str z,.ref p'])/\H p=some (.lst (ys.map V.str))/\H p'=some (.lst (ys.map V.str))/\ys.length<=1000/\ ∀y∈ys,y.length<=1000)/\Q (.bl true) H
theorem z8 (T:Txt K mg a):Oj P w K mg base 2 "_law_why_same" ["_law_one","_law_other"] uU:=by
 refine b9 T.kM uM fun f c A o s H vs Q E hr h=>?_
 obtain⟨x,y,rfl,h,q⟩:=h
 refine⟨_,(ae (aF (PW.pt (cq (aG eR (pv 0) bu) (cz (aG eR (pv 1) bu)))) (ah (av (jy (oW (e8 eR (pv 0) bu) (nI (e8 eR (pv 1) bu)))))) aw) (ae (aF (PW.pt (cq (bK (bQ K (bc dr (by rfl) T.bz boot_isinstance (ao (pv 0) (N6 (d9 (v:= .ty "tuple") rfl T.mE boot_tuple rfl)))))) (cq (bK (bQ K (bc dr (by rfl) T.bz boot_isinstance (ao (pv 1) (N6 (d9 (v:= .ty "tuple") rfl T.mE boot_tuple rfl)))))) (cq (aG eU (N8 K (pv 0) aa) (N8 K (pv 1) aa)) (cz (aG eU (cE K T.bI (pv 0)) (cE K T.bI (pv 1)))))))) (ah (av cO)) aw) (ah (av (jy (IW (e8 aZ (cE K T.bI (pv 0)) aa) (nI (jy (oW (e8 aZ (N8 K (pv 0) aa) (N8 K (pv 1) aa)) (nI (aE (tL T) hr.mm (ao (N8 K (pv 0) aa) (N6 (N8 K (pv 1) aa)))))))))))))),?_⟩
 have fin: ∀v H',(v=V.bl true/\H'=H)->Q v H':=fun v H' z=>by rw[z.1,z.2]; exact q
 rcases h with⟨rfl,rfl⟩ | ⟨t,t',p,p',rfl,rfl,ht,ht'⟩ | ⟨t,t',p,p',z,ys,rfl,rfl,ht,ht',hp,hp',yl,yL⟩
 .exact⟨_,rfl,rfl,_,rfl,aU ⟨fun v H'=>v= .bl true/\H'=H,⟨_,rfl,rfl,_,rfl,aU ⟨_,rfl,rfl,Ln V.bl (KQ rfl),rfl⟩⟩,fin⟩⟩
 .have hq:=N9.of (K:=K) ht
  have hq':=N9.of (K:=K) ht'
  refine⟨_,rfl,rfl,_,rfl,aD ⟨_,rfl,rfl,_,rfl,aD ?_⟩⟩
  refine⟨_,rfl,_,"tuple",true,rfl,.inr ⟨⟨_,hq⟩,.inl ⟨rfl,rfl⟩⟩,_,rfl,aD ?_⟩
  refine⟨_,rfl,_,"tuple",true,rfl,.inr ⟨⟨_,hq'⟩,.inl ⟨rfl,rfl⟩⟩,_,rfl,aD ?_⟩
  refine⟨_,rfl,t,_,_,_,rfl,rfl,hq,rfl,_,rfl,t',_,_,_,rfl,rfl,hq',rfl,rfl,_,rfl,aD ?_⟩
  refine⟨_,rfl,_,_,rfl,.inr ⟨_,hq,rfl⟩,_,rfl,_,_,rfl,.inr ⟨_,hq',rfl⟩,rfl,_,rfl,aD ?_⟩
  exact⟨fun v H'=>v= .bl true/\H'=H,⟨_,rfl,_,_,rfl,.inr ⟨_,hq,rfl⟩,rfl,_,rfl,aU ⟨rfl,rfl⟩⟩,fin⟩
 .have hq:=N9.of (K:=K) ht
  have hq':=N9.of (K:=K) ht'
  refine⟨_,rfl,rfl,_,rfl,aD ⟨_,rfl,rfl,_,rfl,aD ?_⟩⟩
  refine⟨_,rfl,_,"tuple",true,rfl,.inr ⟨⟨_,hq⟩,.inl ⟨rfl,rfl⟩⟩,_,rfl,aD ?_⟩
  refine⟨_,rfl,_,"tuple",true,rfl,.inr ⟨⟨_,hq'⟩,.inl ⟨rfl,rfl⟩⟩,_,rfl,aD ?_⟩
  refine⟨_,rfl,t,_,_,_,rfl,rfl,hq,rfl,_,rfl,t',_,_,_,rfl,rfl,hq',rfl,rfl,_,rfl,aD ?_⟩
  refine⟨_,rfl,_,_,rfl,.inr ⟨_,hq,rfl⟩,_,rfl,_,_,rfl,.inr ⟨_,hq',rfl⟩,rfl,_,rfl,aD ?_⟩
  refine⟨fun v H'=>v= .bl true/\H'=H,⟨_,rfl,_,_,rfl,.inr ⟨_,hq,rfl⟩,rfl,_,rfl,aD ?_⟩,fin⟩
  refine⟨fun v H'=>v= .bl true/\H'=H,?_,fun v H' z=>z⟩
  refine⟨_,rfl,t,_,_,_,rfl,rfl,hq,rfl,_,rfl,t',_,_,_,rfl,rfl,hq',rfl,rfl,_,rfl,?_⟩
  rw[show decide (V.str z=V.str z)=true from KQ rfl]
  exact aU ⟨_,rfl,t,_,_,_,rfl,rfl,hq,rfl,_,rfl,t',_,_,_,rfl,rfl,hq',rfl,p,p',ys,rfl,hp,N5.of hp',yl,yL,rfl,rfl⟩
def FH (a:Adr):Sp:=fun vs H Q _=> ∃(h h' st:Addr) (os os' xs:List Addr) (n:Nat) (S:Ob) (ks:List (List Mem×List Oi)) (L:List Int),vs=[.ref h,.ref h',.ref st]/\OK H h os S a.House/\HI a.House H h' os' ⟨S.ms,S.ds,ks⟩/\LS xs n H st S.ms S.ds/\bE S=some L/\ ∀H',Q (.bl true) H'
theorem Fi (T:Txt K mg a):Oj P w K mg base 8 "_law_same_told" ["_law_house","_law_fresh","_law_state"] (FH a):=by
 refine b9 T.ju dH fun f c A o s H vs Q E hr h=>?_
 obtain⟨h,h',st,os,os',xs,n,S,ks,L,rfl,X0,Y0,⟨ln,la,dd,vs,kvs,l⟩,eW,q⟩:=h
 refine⟨_,(ae (de (dB K (N8 K (pv 2) aa)) (gn 3 dH.nd) (ae (Oa 4 dH.nd (eh T.aq.cl (wc T) hr.mm (pv 0) (N6 (pv 3)))) (ae (Oa 5 dH.nd (eh T.aq.cl (wc T) hr.mm (pv 1) (N6 (pv 3)))) (ae (aF (bK (bQ K (aE (tL T) hr.mm (ao (eh T.aq.cl (vE T) hr.mm (pv 0) (N6 (pv 3))) (N6 (eh T.aq.cl (vE T) hr.mm (pv 1) (N6 (pv 3)))))))) (ah (av cO)) aw) (ah (aF (PW.pt (cq (aG eR (pv 4) bu) (cz (aG eR (pv 5) bu)))) (ah (aF (PW.pt (cq (aG fN (pv 4) bu) (cz (aG fN (pv 5) bu)))) (ah (av cO)) aw)) (ah (aF (PW.pt (cq (bK (bQ K (aE (nN T) hr.mm (N6 (N8 K (pv 4) aa))))) (cq (aG eU (N8 K (pv 4) aa) (N8 K (pv 5) aa)) (cz (aG eU (N8 K (pv 4) aa) (N8 K (pv 5) aa)))))) (ah (av cO)) aw)))))))) (ae (de (dB K (N8 K (pv 2) aa)) (gn 6 dH.nd) (ae (Oa 7 dH.nd (eh T.aq.cl (xf T) hr.mm (pv 0) (N6 (N8 K (pv 6) aa)))) (ah (aF (PW.pt (cq (bK (bQ K (aE (nN T) hr.mm (N6 (pv 7))))) (cz (aG eU (pv 7) (eh T.aq.cl (xf T) hr.mm (pv 1) (N6 (N8 K (pv 6) aa))))))) (ah (av cO)) aw)))) (ah (av cO)))),?_⟩
 have g:=X0.2.1
 have rk:=gN X0.2.2.1
 have eL:=(cx eW).1
 have qX: ∀ {H'},ag H H'->OK H' h os S a.House:=fun s=>⟨X0.1.grow fun b o _ e=>s b o e,X0.2⟩
 have qY: ∀ {H'},ag H H'->OK H' h' os' ⟨S.ms,S.ds,ks⟩ a.House:=fun s=>⟨Y0.grow fun b o _ e=>s b o e,X0.2⟩
 refine⟨_,rfl,st,_,_,_,rfl,rfl,N9.of l.ht,rfl,ln,rfl,⟨_,N5.of l.hn⟩,?_⟩
 refine bA (xs:=(S.ms.map (·.1)).map V.str) (fun i σ' H'=> ∃(v3 v4 v5:Option V),σ'=[some (.ref h),some (.ref h'),some (.ref st),v3,v4,v5,none,none]/\ag H H') ⟨_,_,_,rfl,ag.refl _⟩ (fun i σ' H' _ ⟨_,_,_,_,s⟩=>bo (N5.of (s _ _ l.hn))) ?_ ?_
 .rintro i x σ' H' D1 nx1 - hi ⟨v3,v4,v5,rfl,sm⟩
  rw[KH] at hi
  cases hy:(S.ms.map (·.1))[i]? with
  | none=>rw[hy] at hi; cases hi
  | some y =>
   rw[hy] at hi
   cases hi
   have ym:y∈aA S:=Kw hy
   have I1:=qX sm
   obtain⟨dx,p0,q0,r0,iz,kv,eo,I⟩:=id I1.1
   refine⟨_,rfl,h,dx,_,rfl,I.ih,Of,_,rfl,h,os,S,y,L,rfl,I1,ym,eW,fun H1 s1 hr=>?_,fun t s0 stop H1 nt s1 hst ht hr=>?_⟩
   .have s01:=sm.trans s1
    have I2:=qY s01
    obtain⟨dy,p1,q1,r1,iy,ky,ey,J⟩:=id I2.1
    refine⟨_,rfl,h',dy,_,rfl,J.ih,Of,_,rfl,h',os',_,y,L,rfl,I2,ym,eW,fun H2 s2 hr2=>?_,fun t s0 stop H2 nt s2 _ ht hr2=>absurd (eu.one hr hr2) (by intro z; cases z)⟩
    have s02:=s01.trans s2
    have I3:=qX s02
    obtain⟨dx3,p3,q3,r3,iz3,kv3,eo3,J3⟩:=id I3.1
    refine⟨_,rfl,h,dx3,_,rfl,J3.ih,Of,_,rfl,h,os,S,y,L,rfl,I3,ym,eW,fun pc ps H3 npc s3 hpc hC=>?_⟩
    have s03:=s02.trans s3
    have I4:=qY s03
    obtain⟨dx4,p4,q4,r4,iz4,kv4,eo4,J4⟩:=id I4.1
    refine⟨_,rfl,h',dx4,_,rfl,J4.ih,Of,_,rfl,h',os',_,y,L,rfl,I4,ym,eW,fun pd ps2 H4 npd s4 hpd hC2=>?_⟩
    obtain rfl:=MA.dE.one hC hC2
    refine⟨pc,pd,dM S ps,rfl,s4 _ _ hpc,N5.of hpd,by have:=hC.O4 (MA.pB rk eL); have:=g.ml; unfold dM; rw[Kq]; omega,oB g fun j hj=>by have:=hC.lt j hj; rw[eB] at this; exact this,true,rfl,aD ?_⟩
    exact⟨_,rfl,rfl,_,rfl,aU ⟨_,rfl,rfl,_,rfl,aD ⟨_,rfl,rfl,_,rfl,aD (nx1 _ _ ⟨_,_,_,rfl,s03.trans s4⟩)⟩⟩⟩
   .have s01:=sm.trans s1
    have I2:=qY s01
    obtain⟨dy,p1,q1,r1,iy,ky,ey,J⟩:=id I2.1
    refine⟨_,rfl,h',dy,_,rfl,J.ih,Of,_,rfl,h',os',_,y,L,rfl,I2,ym,eW,fun H2 s2 hr2=>absurd (eu.one hr hr2) (by intro z; cases z),fun t2 s2' stop2 H2 nt2 s2 _ ht2 hr2=>?_⟩
    cases eu.one hr hr2
    have s02:=s01.trans s2
    have ht':=s2 _ _ ht
    have I3:=qX s02
    obtain⟨dx3,p3,q3,r3,iz3,kv3,eo3,J3⟩:=id I3.1
    refine⟨_,rfl,h,dx3,_,rfl,J3.ih,Of,_,rfl,h,os,S,y,L,rfl,I3,ym,eW,fun pc ps H3 npc s3 hpc hC=>?_⟩
    have s03:=s02.trans s3
    have I4:=qY s03
    obtain⟨dx4,p4,q4,r4,iz4,kv4,eo4,J4⟩:=id I4.1
    refine⟨_,rfl,h',dx4,_,rfl,J4.ih,Of,_,rfl,h',os',_,y,L,rfl,I4,ym,eW,fun pd ps2 H4 npd s4 hpd hC2=>?_⟩
    obtain rfl:=MA.dE.one hC hC2
    refine⟨pc,pd,dM S ps,rfl,s4 _ _ hpc,N5.of hpd,by have:=hC.O4 (MA.pB rk eL); have:=g.ml; unfold dM; rw[Kq]; omega,oB g fun j hj=>by have:=hC.lt j hj; rw[eB] at this; exact this,true,rfl,aD ?_⟩
    have s24:=s3.trans s4
    have h1:=N9.of (K:=K) (s24 _ _ ht')
    have h2:=N9.of (K:=K) (s24 _ _ ht2)
    refine⟨_,rfl,rfl,_,rfl,aD ⟨_,rfl,rfl,_,rfl,aD ?_⟩⟩
    refine⟨_,rfl,t,_,_,_,rfl,rfl,h1,rfl,.int s0,rfl,⟨true,false,.inl ⟨rfl,rfl⟩,.inr ⟨by decide,rfl⟩,rfl⟩,_,rfl,aD ?_⟩
    refine⟨_,rfl,t,_,_,_,rfl,rfl,h1,rfl,_,rfl,t2,_,_,_,rfl,rfl,h2,rfl,rfl,_,rfl,?_⟩
    rw[show (!decide (V.int s0=V.int s0))=false from by simp]
    refine aD ⟨_,rfl,t,_,_,_,rfl,rfl,h1,rfl,_,rfl,t2,_,_,_,rfl,rfl,h2,rfl,rfl,_,rfl,?_⟩
    show if (!decide (V.str ((aA S).getD stop "")=V.str ((aA S).getD stop "")))=true then _ else _
    rw[show (!decide (V.str ((aA S).getD stop "")=V.str ((aA S).getD stop "")))=false from by simp]
    exact aD (nx1 _ _ ⟨_,_,_,rfl,s03.trans s4⟩)
 rintro σ' H1 ⟨v3,v4,v5,rfl,s1⟩
 refine⟨_,rfl,st,_,_,_,rfl,rfl,N9.of (s1 _ _ l.ht),rfl,la,rfl,⟨_,N5.of (s1 _ _ l.ha)⟩,?_⟩
 refine bA (xs:=vs) (fun i σ' H'=> ∃(v6 v7:Option V),σ'=[some (.ref h),some (.ref h'),some (.ref st),v3,v4,v5,v6,v7]/\ag H H') ⟨_,_,rfl,s1⟩ (fun i σ' H' _ ⟨_,_,_,s⟩=>bo (N5.of (s _ _ l.ha))) ?_ ?_
 .rintro i x σ' H' D1 nx1 - hi ⟨v6,v7,rfl,sm⟩
  obtain⟨d,hd,td,rfl,_,htd⟩:=l.ar.get hi
  have htd':=sm _ _ htd
  have dm:d.1∈bt S:=Lq.mpr ⟨d,Kw hd,rfl⟩
  obtain⟨L',eL'⟩:=wa rk eL (rs':=(aV S.ms S.ds).take ((bt S).idxOf d.1)++(aV S.ms S.ds).drop ((bt S).idxOf d.1+1)) yZ
  have I1:=qX sm
  obtain⟨dx,p0,q0,r0,iz,kv,eo,I⟩:=id I1.1
  refine⟨_,rfl,h,dx,_,rfl,I.ih,Of,_,rfl,td,_,_,_,rfl,rfl,N9.of htd',rfl,h,os,S,d.1,L,L',rfl,I1,dm,eW,eL',fun H2 s2=>?_⟩
  have s02:=sm.trans s2
  have I2:=qY s02
  obtain⟨dy,p1,q1,r1,iy,ky,ey,J⟩:=id I2.1
  refine⟨_,rfl,_,rfl,⟨true,false,.inl ⟨rfl,rfl⟩,.inr ⟨by decide,rfl⟩,rfl⟩,_,rfl,aD ?_⟩
  refine⟨_,rfl,_,rfl,h',dy,_,rfl,J.ih,Of,_,rfl,td,_,_,_,rfl,rfl,N9.of (s2 _ _ htd'),rfl,h',os',_,d.1,L,L',rfl,I2,dm,eW,eL',fun H3 s3=>⟨rfl,_,rfl,?_⟩⟩
  rw[show (!decide (V.int (L.sum - L'.sum)=V.int (L.sum - L'.sum)))=false from by simp]
  exact aD (nx1 _ _ ⟨_,_,rfl,s02.trans s3⟩)
 rintro σ' H2 ⟨v6,v7,rfl,s2⟩
 exact q _
theorem CQ {h h':Addr}{os os':List Addr}{S:Ob}{ks:List (List Mem×List Oi)}{x0 x2 x3 x4 x5 x7 x8:Option V}{Q:VK}(X:OK H h os S a.House) (Y:OK H h' os' ⟨S.ms,S.ds,ks⟩ a.House) (q: ∀H',ag H H'->Q (.bl true) H') :
  zP uU [] E0 (nX (sy a.House "why" (xc a) [] E0 (rD 1) kg) (nX (sy a.House "why" (xc a) [] E0 (rD 6) kg) kg)) [x0,some (.ref h),x2,x3,x4,x5,some (.ref h'),x7,x8] H Q:=by
 obtain⟨dx,p0,q0,r0,is,kv,eo,I⟩:=id X.1
 have g:=X.2.1
 have rk:=gN X.2.2.1
 have qY: ∀ {H'},ag H H'->OK H' h' os' ⟨S.ms,S.ds,ks⟩ a.House:=fun s=>⟨Y.1.grow fun b o _ e=>s b o e,Y.2⟩
 refine⟨_,rfl,h,dx,_,rfl,I.ih,Of,h,os,S,rfl,X,?_,?_,?_⟩
 .intro t p way H1 eN hw hwl nt np s1 hp ht
  obtain⟨dx,p0,q0,r0,is,kv,eo,J⟩:=id (qY s1).1
  refine⟨_,rfl,h',dx,_,rfl,J.ih,Of,h',os',_,rfl,qY s1,?_,?_,?_⟩
  .intro t' p' way' H2 eN' hw' hwl' nt' np' s2 hp' ht'
   exact⟨_,_,rfl,.inr (.inl ⟨t,t',p,p',rfl,rfl,s2 _ _ ht,ht'⟩),q _ (s1.trans s2)⟩
  .intro L eL H2 s2
   have:=(cx eL).1
   rw[eN] at this
   cases this
  .intro L i t' p' ps H2 eL ew hi hC nt' np' s2 hp' ht'
   rw[eN] at eL
   cases eL
 .intro L eL H1 s1
  obtain⟨dx,p0,q0,r0,is,kv,eo,J⟩:=id (qY s1).1
  refine⟨_,rfl,h',dx,_,rfl,J.ih,Of,h',os',_,rfl,qY s1,?_,?_,?_⟩
  .intro t' p' way' H2 eN' hw' hwl' nt' np' s2 hp' ht'
   have:=(cx eL).1
   rw[eN'] at this
   cases this
  .intro L' eL' H2 s2
   exact⟨_,_,rfl,.inl ⟨rfl,rfl⟩,q _ (s1.trans s2)⟩
  .intro L' i t' p' ps H2 eL' ew hi hC nt' np' s2 hp' ht'
   obtain⟨e1,e2⟩:=cx eL
   have eL':bg S.ms.length (aV S.ms S.ds)=some L':=eL'
   have ew:MA.cY L' (cN S)=some i:=ew
   rw[e1] at eL'
   cases eL'
   rw[e2] at ew
   cases ew
 .intro L i t p ps H1 eL ew hi hC nt np s1 hp ht
  obtain⟨dx,p0,q0,r0,is,kv,eo,J⟩:=id (qY s1).1
  refine⟨_,rfl,h',dx,_,rfl,J.ih,Of,h',os',_,rfl,qY s1,?_,?_,?_⟩
  .intro t' p' way' H2 eN' hw' hwl' nt' np' s2 hp' ht'
   rw[eN'] at eL
   cases eL
  .intro L' eL' H2 s2
   obtain⟨e1,e2⟩:=cx eL'
   have e1:bg S.ms.length (aV S.ms S.ds)=some L':=e1
   have e2:MA.cY L' (cN S)=none:=e2
   rw[e1] at eL
   cases eL
   rw[e2] at ew
   cases ew
  .intro L' i' t' p' ps' H2 eL' ew' hi' hC' nt' np' s2 hp' ht'
   have eL':bg S.ms.length (aV S.ms S.ds)=some L':=eL'
   have ew':MA.cY L' (cN S)=some i':=ew'
   rw[eL'] at eL
   cases eL
   rw[ew'] at ew
   cases ew
   obtain rfl:=MA.dE.one hC hC'
   exact⟨_,_,rfl,.inr (.inr ⟨t,t',p,p',(aA S).getD i "",dM S ps,rfl,rfl,s2 _ _ ht,ht',s2 _ _ hp,hp',by have:=hC.O4 (MA.pB rk eL'); have:=g.ml; unfold dM; rw[Kq]; omega,oB g fun j hj=>by have:=hC.lt j hj; rw[eB] at this; exact this⟩),q _ (s1.trans s2)⟩
theorem GQ (T:Txt K mg a):Oj P w K mg base 10 "law" ["_law_script"] (BD K):=by
 refine b9 T.wG iE fun f c A o s H vs Q E hr h=>?_
 obtain⟨sa,ns,rfl,hS,hlen,q⟩:=h
 refine⟨_,(ae (Oa 1 iE.nd (vL (yo T) hr.mm)) (ae (Oa 2 iE.nd (bF (ao (bh dD) (ao (bh dD) (N6 yd))))) (ae (Oa 3 iE.nd (bh dD)) (ae (Oa 4 iE.nd yd) (ae (de (dB K (aE (G8 T) hr.mm (ao (pv 0) (N6 aa)))) (gn 5 iE.nd) (eF (aF (aG aZ (N8 K (pv 5) aa) aB) (ah (sJ (cf hr) (pv 4) (aE (qc T) hr.mm (ao (N8 K (pv 5) aa) (ao (N8 K (pv 5) aa) (N6 (N8 K (pv 5) aa))))) (eJ (Qg K) (pv 5) (fE aa) fP) rfl)) aw) (ae (Oa 2 iE.nd (aE (Fc T) hr.mm (ao (pv 1) (ao (pv 2) (ao (pv 3) (N6 (pv 5))))))) (ah (aF (PW.pt (cq (aG eR (pv 2) bu) (cz (aG aZ (e8 eR (fg T.aq.cl (m8 T) hr.mm (pv 1)) bu) (e8 (show Ol _ _ (zH K) from wX (cf hr)) (aE (kW T) hr.mm (N6 (pv 1))) (bF (N6 aB))))))) (ah (av cO)) aw))))) (ae (Oa 6 iE.nd (aE (EJ T) hr.mm (ao (pv 2) (N6 (pv 4))))) (ae (aF (PW.pt (cq (bK (bQ K (aE (vS T) hr.mm (ao (pv 1) (N6 (pv 2)))))) (cz (bK (bQ K (aE (vS T) hr.mm (ao (pv 6) (N6 (pv 2))))))))) (ah (av cO)) aw) (ae (aF (bK (bQ K (aE (z8 T) hr.mm (ao (fg T.aq.cl (m8 T) hr.mm (pv 1)) (N6 (fg T.aq.cl (m8 T) hr.mm (pv 6))))))) (ah (av cO)) aw) (ae (Oa 7 iE.nd (aE (kW T) hr.mm (N6 (pv 1)))) (ae (aF (aG (show Ol _ _ (zH K) from wX (cf hr)) (pv 7) (bF (N6 aB))) (ah (av (e8 (show Ol _ _ (zH K) from wX (cf hr)) (aE (kW T) hr.mm (N6 (pv 6))) (bF (N6 aB))))) aw) (ae (Oa 8 iE.nd (aE (Cs T) hr.mm (ao (cE K T.bI (N8 K (pv 2) aa)) (N6 (aE (AN T) hr.mm (N6 (pv 2))))))) (ae (aF (PW.pt (cq (bK (bQ K (aE (zd T) hr.mm (ao (pv 7) (N6 (pv 8)))))) (cz (bK (bQ K (aE (zd T) hr.mm (ao (aE (kW T) hr.mm (N6 (pv 6))) (N6 (pv 8))))))))) (ah (av cO)) aw) (ah (av (aE (Fi T) hr.mm (ao (pv 1) (ao (pv 6) (N6 (pv 2))))))))))))))))))),?_⟩
 refine qr fun D1 hR1 _=>?_
 refine fun h dx nh ndx hdx=>⟨h,dx,rfl,af,(ai hdx).trans af,fun os0 H1 hs hI hos=>⟨rfl,?_⟩⟩
 have s1:ag H H1:=fun b o e=>by
  have b1:b≠h:=fun z=>by rw[z,nh] at e; cases e
  have b2:b≠dx:=fun z=>by rw[z,ndx] at e; cases e
  exact hs b o b1 b2 (((ai b1).trans (ai b2)).trans e)
 dsimp only[aO,L2.start,List.set]
 refine hR1 _ _ ?_
 refine qr fun D1 hR1 _=>?_
 refine⟨by decide,fun l1 n1=>⟨by decide,fun l2 n2=>fun d n3=>⟨(by show 3<=sizeLine; decide),fun ts n4=>?_⟩⟩⟩
 obtain⟨s2,mk⟩:=Gw (us:=[]) n1 n2 n3 n4
 have s2:ag H1 (upd (upd (upd (upd H1 l1 (.lst [])) l2 (.lst [])) d (.dK [])) ts (.tup [.ref l1,.ref l2,.ref d])):=s2
 have mk2: ∀xs,(∀b∈xs,∃o,H1 b=some o)->LS xs 0 (upd (upd (upd (upd H1 l1 (.lst [])) l2 (.lst [])) d (.dK [])) ts (.tup [.ref l1,.ref l2,.ref d])) ts [] []:=fun xs hx=>mk xs [] hx rfl fun m=>rfl
 clear mk n2 n3 n4
 generalize upd (upd (upd (upd H1 l1 (.lst [])) l2 (.lst [])) d (.dK [])) ts (.tup [.ref l1,.ref l2,.ref d])=H2 at s2 mk2
 refine hR1 _ _ ?_
 refine qr fun D1 hR1 _=>?_
 refine⟨by decide,fun pl npl=>?_⟩
 have s3:=ag.upd (o:= .lst []) npl
 have hpl:(upd H2 pl (.lst [])) pl=some (.lst []):=af
 generalize hH3:upd H2 pl (.lst [])=H3 at s3 hpl
 have s13:=s2.trans s3
 have hI3:HI a.House H3 h os0 ⟨[],[],[]⟩:=hI.grow fun b o _ e=>s13 _ _ e
 have po:pl∉os0:=fun z=>by obtain⟨o,e⟩:=hI.has pl z; rw[s2 _ _ e] at npl; cases npl
 have ls3:LS (pl::os0) 0 H3 ts [] []:=(mk2 os0 hI.has).mono (fun b o nb e=>⟨s3 _ _ e,fun z=>by
  rcases Kz.mp z with z | z
  .rw[z,npl] at e; cases e
  .exact nb z⟩) (Ku _)
 have occ: ∀b∈pl::os0,∃o,H3 b=some o:=fun b hb=>by
  rcases Kz.mp hb with rfl | hb
  .exact⟨_,hpl⟩
  .exact hI3.has b hb
 have out: ∀b,H3 b=none->b∉pl::os0:=fun b e z=>by obtain⟨o,e'⟩:=occ b z; rw[e] at e'; cases e'
 dsimp only[aO,List.set]
 refine hR1 _ _ ?_
 refine qr fun D1 hR1 _=>?_
 intro dt ndt
 have s3b:=ag.upd (o:= .dK []) ndt
 have hdt:(upd H3 dt (.dK [])) dt=some (.dK []):=af
 generalize hH3b:upd H3 dt (.dK [])=H3b at s3b hdt
 dsimp only[aO,List.set]
 refine hR1 _ _ ?_
 refine qr fun DL hRL _=>?_
 refine⟨_,rfl,sa,ns,80,rfl,(s1.trans (s13.trans s3b)).seq hS,by decide,fun p us ds H4 np s4 hp hF hl=>?_⟩
 have s34:=s3b.trans s4
 have hdt4:=s4 _ _ hdt
 have dto:dt∉pl::os0:=out dt ndt
 have ls4:LS (dt::pl::os0) 0 H4 ts [] []:=(ls3.mono (xs':=dt::pl::os0) (fun b o nb e=>⟨s34 b o e,fun z=>by
  rcases Kz.mp z with z | z
  .rw[z,ndt] at e; cases e
  .exact nb z⟩) (Ku _))
 have wd0:Wz a.House 0 H4 h os0 pl ts dt ⟨[],[],[]⟩:=⟨hI3.grow fun b o _ e=>s34 _ _ e,po,⟨[],s34 _ _ hpl,.nil⟩,ls4,Bt,dto,_,hdt4⟩
 have ul:=hF.length
 refine⟨p,rfl,⟨_,N5.of hp⟩,?_⟩
 have np3:=s3b.free np
 refine bA (xs:=us) (fun i σ' H'=> ∃(os:List Addr) (ts:Addr) (S:Ob) (kt:Oo) (v5:Option V),σ'=[some (.ref sa),some (.ref h),some (.ref ts),some (.ref pl),some (.ref dt),v5,none,none,none]/\Wz a.House i H' h os pl ts dt S/\GB S/\S.ks.length<=i/\H' dt=some (.dK kt)/\kt.length<=i/\rE (DT (pl::os) H' kt) S/\(∀b o,b∉dt::pl::os0->H4 b=some o->H' b=some o/\b∉pl::os)) ⟨os0,ts,_,[],none,rfl,wd0,Cc,Ku _,hdt4,Ku _,⟨fun d hd=>(by cases hd),fun k hk=>(by cases hk)⟩,fun b o nb e=>⟨e,fun z=>nb (KD _ z)⟩⟩ (fun i σ' H' _ ⟨_,_,_,_,_,_,_,_,_,_,_,_,fr⟩=>bo (N5.of (fr _ _ (fun z=>by
  rcases Kz.mp z with z | z
  .rw[z,s3b.free np |> fun _=>hdt] at np; cases np
  .exact out _ np3 z) hp).1)) ?_ ?_
 .rintro i x σ' H' D1 nx1 - hi ⟨os,ts',S,kt,v5,rfl,wd,gb,hk,hkt,kl,al,fr⟩
  obtain⟨d,hd,t,rfl,nt,ht,ok⟩:=hF.get hi
  have hi':=(Ky.mp hi).1
  have tne:t∉dt::pl::os0:=fun z=>by
   rcases Kz.mp z with z | z
   .rw[z,hdt] at nt; cases nt
   .exact out _ (s3b.free nt) z
  obtain⟨ht',tout⟩:=fr _ _ tne ht
  dsimp only[aO,List.set]
  refine GH (fun σ' H2=> ∃kt',σ'=[some (.ref sa),some (.ref h),some (.ref ts'),some (.ref pl),some (.ref dt),some (.ref t),none,none,none]/\(∀b o,b≠dt->H' b=some o->H2 b=some o)/\H2 dt=some (.dK kt')/\kt'.length<=i+1/\rE (DT (pl::os) H2 kt') S/\ ∀y m p e o,d= .plain y m p e o->DT (pl::os) H2 kt' (y,m,none,cA p e o)) (fun D2 mk2 _=>?_) ?_
  .by_cases isP: ∃y m pp e o,d= .plain y m pp e o
   .obtain⟨y,m,pp,e,o,rfl⟩:=isP
    obtain⟨ok1,ok2,ok3⟩:Nm y/\Nm m/\Ou pp e o:=ok
    refine⟨_,rfl,t,_,_,_,rfl,rfl,N9.of ht',rfl,rfl,_,rfl,cG ?_⟩
    refine⟨_,rfl,_,rfl,t,_,rfl,N9.of ht',(fun z=>absurd (show (3:Nat)=0 from z.1) (by decide)),fun t3 n3=>?_⟩
    have s5:=ag.upd (o:= .tup [.int pp,.int e,.int o]) n3
    have h3:(upd H' t3 (.tup [.int pp,.int e,.int o])) t3=some (.tup [.int pp,.int e,.int o]):=af
    rw[show mZ (iM (.plain y m pp e o)) (some 3) none=[.int pp,.int e,.int o] from rfl]
    generalize hH5:upd H' t3 (.tup [.int pp,.int e,.int o])=H5 at s5 h3
    have o3:t3∉pl::os:=fun z=>by
     rcases Kz.mp z with z | z
     .obtain⟨pv,hpv,_⟩:=wd.pv
      rw[z,hpv] at n3; cases n3
     .obtain⟨o,e⟩:=wd.it.has _ z
      rw[n3] at e; cases e
    have ht5:=s5 _ _ ht'
    have hd5:=s5 _ _ hkt
    refine⟨_,rfl,_,rfl,t,_,_,_,rfl,rfl,N9.of ht5,rfl,_,rfl,t,_,_,_,rfl,rfl,N9.of ht5,rfl,_,rfl,t,_,_,_,rfl,rfl,N9.of ht5,rfl,pp,e,o,rfl,ok3,dt,_,rfl,pY.k (k:=Sum.inl (cA pp e o)) hd5 (aJ (by omega)),?_⟩
    have tk: ∀b u,H5 b=some (.tup u)->(upd H5 dt (.dK (putK kt (Sum.inl (cA pp e o)) (.ref t3)))) b=some (.tup u):=fun b u e=>(ai (eV e hd5 (by intro z; cases z))).trans e
    refine mk2 _ _ ⟨putK kt (Sum.inl (cA pp e o)) (.ref t3),rfl,fun b o nb e=>(ai nb).trans (s5 _ _ e),af,(by have:=gj kt (Sum.inl (cA pp e o):Key) (V.ref t3); omega),?_,fun y' m' p' e' o' ed=>?_⟩
    .exact⟨fun d hd=>(al.1 d hd).put (fun b u e=>tk b u (s5 _ _ e)) o3 (tk _ _ h3) ok3,fun k hk d hd=>(al.2 k hk d hd).put (fun b u e=>tk b u (s5 _ _ e)) o3 (tk _ _ h3) ok3⟩
    .cases ed
     refine⟨fun _=>⟨t3,pp,e,o,?_,o3,tk _ _ h3,ok3,rfl⟩,fun z=>absurd rfl z⟩
     rw[iW,Ks rfl]
   .have hw: ∃w0 r0,iM d= .str w0::r0/\w0≠ "plain" := by
     cases d with
     | plain y m p e o=>exact absurd ⟨_,_,_,_,_,rfl⟩ isP
     | back=>exact⟨_,_,rfl,by trivial⟩
     | member y=>exact⟨_,_,rfl,by trivial⟩
     | link y m b mo=>exact⟨_,_,rfl,by trivial⟩
     | top m w=>exact⟨_,_,rfl,by trivial⟩
     | sM m=>exact⟨_,_,rfl,by trivial⟩
     | sD m=>exact⟨_,_,rfl,by trivial⟩
     | sT m=>exact⟨_,_,rfl,by trivial⟩
    obtain⟨w0,r0,ew,nw0⟩:=hw
    have td3:=ht'
    rw[ew] at td3
    refine⟨_,rfl,t,_,_,_,rfl,rfl,N9.of td3,(show Om _ ((0:Nat):Int)=_ from bT rfl),rfl,_,rfl,jH nw0 ?_⟩
    exact mk2 _ _ ⟨kt,rfl,fun b o _ e=>e,hkt,by omega,al,fun y m p e o z=>absurd ⟨_,_,_,_,_,z⟩ isP⟩
  rintro σ' H2 ⟨kt',rfl,f2,hkt2,kl2,al2,dp2⟩
  have wd2:=wd.put f2 ⟨_,hkt2⟩
  have tdt:t≠dt:=fun z=>by rw[z,hkt] at ht'; cases ht'
  refine qr fun D2 hR2 _=>?_
  refine⟨_,rfl,_,rfl,_,rfl,_,rfl,i,h,os,pl,ts',t,dt,S,d,rfl,wd2,by omega,by omega,tout,f2 _ _ tdt ht',ok,fun os' ts2 H5 wd' fr'=>?_⟩
  have gb':=Dx wd.gd.now gb ok (by omega)
  have mvo: ∀b o,b∉pl::os->H2 b=some o->H5 b=some o/\b∉pl::os':=fun b o nb e=>⟨fr'.1 b o nb e,fun z=>by
   rcases Kz.mp z with z | z
   .exact nb (by rw[z]; simp)
   .rcases fr'.2.1 b z with z | z
    .exact nb (by simp[z])
    .rw[e] at z; cases z⟩
  have al5:rE (DT (pl::os') H5 kt') (dc S d):=BI ⟨fun d hd=>(al2.1 d hd).mono mvo,fun k hk d hd=>(al2.2 k hk d hd).mono mvo⟩ (fun y m p e o z=>(dp2 y m p e o z).mono mvo) fun y m b mo z=>⟨(fun z=>by cases z),fun _=>by subst z; exact ok.2.2.2.2⟩
  have hkt5:=(mvo _ _ wd2.dn hkt2).1
  have fin: ∀H6,ag H5 H6-> ∃(os:List Addr) (ts:Addr) (S:Ob) (kt:Oo) (v5:Option V),[some (.ref sa),some (.ref h),some (.ref ts2),some (.ref pl),some (.ref dt),some (.ref t),none,none,none]=[some (V.ref sa),some (.ref h),some (.ref ts),some (.ref pl),some (.ref dt),v5,none,none,none]/\Wz a.House (i+1) H6 h os pl ts dt S/\GB S/\S.ks.length<=i+1/\H6 dt=some (.dK kt)/\kt.length<=i+1/\rE (DT (pl::os) H6 kt) S/\(∀b o,b∉dt::pl::os0->H4 b=some o->H6 b=some o/\b∉pl::os):=fun H6 s6=>⟨os',ts2,dc S d,kt',_,rfl,wd'.same s6,gb',KR E2 (by omega),s6 _ _ hkt5,kl2,⟨fun d hd=>(al5.1 d hd).mono fun b o nb e=>⟨s6 _ _ e,nb⟩,fun k hk d hd=>(al5.2 k hk d hd).mono fun b o nb e=>⟨s6 _ _ e,nb⟩⟩,fun b o nb e=>by
   obtain⟨e1,n1⟩:=fr b o nb e
   obtain⟨e2,n2⟩:=mvo b o n1 (f2 b o (fun z=>nb (by rw[z]; simp)) e1)
   exact⟨s6 _ _ e2,n2⟩⟩
  dsimp only[aO,List.set]
  refine hR2 _ _ ?_
  refine⟨_,rfl,rfl,_,rfl,aD ?_⟩
  obtain⟨dx5,p05,q05,r05,is5,kv5,eo5,I5⟩:=id wd'.it
  refine⟨_,rfl,h,dx5,_,rfl,I5.ih,Of,h,os',_,rfl,Wd.qs wd'.wd gb',?_,?_,?_⟩
  .intro t' p' way H6 eN hw hwl nt' np' s6 hp' ht'
   refine⟨rfl,_,rfl,h,os',_,rfl,Wd.qs (wd'.same s6).wd gb',fun eN' tn H7 ntn s7 htn=>?_,fun M2 eL2 pn H7 npn s7 hpn=>?_⟩
   .refine⟨(by show 1<=sizeLine; decide),fun u nu=>⟨tn,u,_,rfl,rfl,N9.of af,rfl,.inr ⟨_,N9.of ((ag.upd nu) _ _ htn),rfl,?_⟩⟩⟩
    rw[ji (xs:=[V.str "refused"]) rfl]
    exact⟨rfl,_,rfl,aD (nx1 _ _ (fin _ (s6.trans (s7.trans (ag.upd nu)))))⟩
   .rw[(cx eL2).1] at eN
    cases eN
  .intro L eL H6 s6
   refine⟨rfl,_,rfl,h,os',_,rfl,Wd.qs (wd'.same s6).wd gb',fun eN' tn H7 ntn s7 htn=>?_,fun M2 eL2 pn H7 npn s7 hpn=>?_⟩
   .rw[eL] at eN'
    cases eN'
   .exact⟨(by show 1<=sizeLine; decide),fun u nu=>⟨pn,u,_,rfl,rfl,N9.of af,rfl,.inl ⟨_,N5.of ((ag.upd nu) _ _ hpn),rfl,_,rfl,aD (nx1 _ _ (fin _ (s6.trans (s7.trans (ag.upd nu)))))⟩⟩⟩
  .intro L j t' p' ps H6 eL ew hj hC nt' np' s6 hp' ht'
   refine⟨rfl,_,rfl,h,os',_,rfl,Wd.qs (wd'.same s6).wd gb',fun eN' tn H7 ntn s7 htn=>?_,fun M2 eL2 pn H7 npn s7 hpn=>?_⟩
   .refine⟨(by show 1<=sizeLine; decide),fun u nu=>⟨tn,u,_,rfl,rfl,N9.of af,rfl,.inr ⟨_,N9.of ((ag.upd nu) _ _ htn),rfl,?_⟩⟩⟩
    rw[ji (xs:=[V.str "refused"]) rfl]
    exact⟨rfl,_,rfl,aD (nx1 _ _ (fin _ (s6.trans (s7.trans (ag.upd nu)))))⟩
   .obtain⟨e1,e2⟩:=cx eL2
    rw[e1] at eL
    cases eL
    rw[e2] at ew
    cases ew
 rintro σ' H5 ⟨os,ts',S,kt,v5,rfl,wd,gb,hk,hkt,kl,al,fr⟩
 refine hRL _ _ ?_
 refine qr fun D1 hR1 _=>?_
 refine⟨_,rfl,_,rfl,ts',dt,dt::pl::os,pl::os,_,S.ms,S.ds,kt,rfl,wd.ls,hkt,al.1,wd.gd.now,gb.now,gb.cap,fun h2 os2 ks2 H6 B6 X6=>?_⟩
 have wd6:=wd.wd.same B6.s
 have Q1: ∀ {H'},ag H6 H'->OK H' h os S a.House:=fun s=>Wd.qs (wd6.same s) gb
 have Q2: ∀ {H'},ag H6 H'->OK H' h2 os2 ⟨S.ms,S.ds,ks2⟩ a.House:=fun s=>⟨X6.1.grow fun b o _ e=>s b o e,wd.gd.now,gb.now,gb.cap⟩
 dsimp only[aO,List.set]
 refine hR1 _ _ ?_
 refine qr fun D1 hR1 _=>?_
 refine⟨_,rfl,_,rfl,h,ts',os,_,_,S,rfl,wd6.it,wd6.gd.now,wd6.ls,fun H7 s7=>⟨true,rfl,aD ?_⟩⟩
 refine⟨_,rfl,_,rfl,h2,ts',os2,_,_,⟨S.ms,S.ds,ks2⟩,rfl,(Q2 s7).1,wd6.gd.now,wd6.ls.same s7,fun H8 s8=>⟨true,rfl,aD ?_⟩⟩
 have s68:=s7.trans s8
 refine hR1 _ _ ?_
 refine qr fun D1 hR1 _=>?_
 refine CQ (Q1 s68) (Q2 s68) fun H9 s9=>⟨true,rfl,aD ?_⟩
 have s69:=s68.trans s9
 have g:=wd.gd.now
 have ml:=g.ml
 have dl:=g.dl
 refine hR1 _ _ ?_
 refine⟨_,rfl,h,os,S,rfl,Q1 s69,fun eN tn HA ntn sA htn=>?_,fun L eL pf HA npf sA hpf=>?_⟩
 .dsimp only[aO,List.set]
  refine⟨_,rfl,(by show 1<=sizeLine; decide),fun u nu=>⟨tn,u,_,rfl,rfl,N9.of af,rfl,.inr ⟨_,N9.of ((ag.upd nu) _ _ htn),rfl,_,rfl,?_⟩⟩⟩
  rw[ji (xs:=[V.str "refused"]) rfl]
  have sB:=s69.trans (sA.trans (ag.upd (o:= .tup [.str "refused"]) nu))
  refine aU ⟨_,rfl,h2,os2,_,rfl,Q2 sB,fun eN' tm HC ntm sC htm=>?_,fun L eL pf HC npf sC hpf=>?_⟩
  .refine⟨(by show 1<=sizeLine; decide),fun u' nu'=>⟨tm,u',_,rfl,rfl,N9.of af,rfl,.inr ⟨_,N9.of ((ag.upd nu') _ _ htm),rfl,?_⟩⟩⟩
   rw[ji (xs:=[V.str "refused"]) rfl]
   exact q _
  .have eL:bE S=some L:=eL
   rw[eL] at eN
   cases eN
 .dsimp only[aO,List.set]
  refine⟨_,rfl,(by show 1<=sizeLine; decide),fun u nu=>?_⟩
  have su:=ag.upd (o:= .tup [.str "refused"]) nu
  refine⟨pf,u,_,rfl,rfl,N9.of af,rfl,.inl ⟨_,N5.of (su _ _ hpf),_,rfl,aD ?_⟩⟩
  have sB:=s69.trans (sA.trans su)
  have hpf:=su _ _ hpf
  generalize upd HA u (.tup [.str "refused"])=HB at su sB hpf
  have lsB:=wd6.ls.same sB
  obtain⟨ln,la,dd,vs,kvs,l⟩:=id lsB
  have rk:=gN gb.now
  have e1:=(cx eL).1
  obtain⟨w1,_⟩:=MA.cP rk e1
  refine⟨_,rfl,ts',_,_,_,rfl,rfl,N9.of l.ht,rfl,_,_,rfl,.inl ⟨_,N5.of l.hn,rfl⟩,_,rfl,ts',_,_,S.ms,S.ds,rfl,lsB,gb.now,by omega,fun pr HC npr sC hR=>⟨S.ms.length,pr,_,by rw[Kq,Kq]; rfl,by omega,hR.Ph,rk,fun pd HD npd sD hpd=>?_⟩⟩
  rw[MA.Cv rk e1] at hpd
  have sE:=sB.trans (sC.trans sD)
  have hpE:=(sC.trans sD) _ _ hpf
  dsimp only[aO,List.set]
  refine⟨_,rfl,_,rfl,pf,pd,L,rfl,hpE,hpd,by omega,true,rfl,aD ?_⟩
  refine⟨_,rfl,h2,os2,_,rfl,Q2 sE,fun eN' tm HF ntm sF htm=>?_,fun L' eL' pf2 HF npf2 sF hpf2=>?_⟩
  .have eN':bE S=none:=eN'
   rw[eL] at eN'
   cases eN'
  .have eL':bE S=some L':=eL'
   rw[eL] at eL'
   cases eL'
   refine⟨_,rfl,pf2,pd,L,rfl,hpf2,sF _ _ hpd,by omega,true,rfl,aD ?_⟩
   have sG:=sE.trans sF
   exact⟨_,rfl,_,rfl,_,rfl,h,h2,ts',os,os2,_,_,S,ks2,L,rfl,Q1 sG,(Q2 sG).1,wd6.ls.same sG,eL,fun H'=>q H'⟩
end
end K38
namespace PySem.W.Fast
def tw16643759283529988863:=0
def tw6037036116133382037:=0
def tw6796235274963443968:=0
def tw8966474605228106690:=0
def tw16009993380188699404:=0
def tw14196630029993678499:=0
def tw4421686401022058736:=0
def tw17369755608517508862:=0
def tw2411034855115001979:=0
def tw11057821249231486210:=0
def tw8198923016105250875:=0
def tw3557242389199465233:=0
def tw10302255241105294332:=0
def tw8508960088991586608:=0
def tw2488824668656198580:=0
def tw11130044568964300359:=0
def tw2651091080456149016:=0
def tw18318536866896476022:=0
def tw11652784446260233510:=0
def tw8744698675954287255:=0
def tw10971602577065319949:=0
def tw2887959327349865699:=0
def tw4324429497207285861:=0
def tw4164333024968985405:=0
def tw1092788608426470740:=0
def tw15303002648045779798:=0
def tw14956165958899489279:=0
def tw14355066024193179444:=0
def tw6991596800554762355:=0
def tw170200114411768342:=0
def tw13883940221245987651:=0
def tw2349637806862677675:=0
def tw1819560592759540155:=0
def tw9091948792122868636:=0
def tw9582818909314971610:=0
def tw876781730558859724:=0
def tw4572277162546699859:=0
def tw11274548271638816957:=0
def tw16803205065004580194:=0
def tw4253792149687136089:=0
def tw2585207539697412284:=0
def tw2865829706544832499:=0
def tw9080892502357862705:=0
def tw6548788354489731370:=0
def tw7924779735007055943:=0
def tw5757640307262998062:=0
def tw16655806005040176571:=0
def tw6441874378046202717:=0
def tw2974318194738412037:=0
def tw3005978925047603897:=0
def tw14642055190955371571:=0
def tw14409647937822291647:=0
def tw15195965527720627038:=0
def tw7409393984550931786:=0
def tw38671903847117304:=0
def tw13776504760537138059:=0
def tw441718787481449561:=0
def tw14788146146448543710:=0
def tw3669767043502956545:=0
def tw3569471700876920967:=0
def tw6666842110704574479:=0
def tw8344223602707905200:=0
def tw2344764462955014703:=0
def tw10424695718942602924:=0
def tw15736205952579657221:=0
def tw17282927967340982295:=0
def tw12484990712205468776:=0
def tw16859737340668644947:=0
def tw11785929782358608088:=0
def tw16550086601530817045:=0
def tw13332780553624473724:=0
def tw10601771766673170279:=0
def tw1860107216137628955:=0
def tw8758449209110766243:=0
def tw10552994614529279050:=0
def tw10689325176911162370:=0
def tw8564241709197684779:=0
def tw3885985991716194151:=0
def tw2228516960439329654:=0
def tw13269291932312806846:=0
def tw17952397922502371845:=0
def tw13006158525230186529:=0
def tw9838359528226418544:=0
def tw6896490087396800131:=0
def tw10020990300867694880:=0
def tw8049810343549514638:=0
def tw15078108528974072782:=0
def tw3374620399191876655:=0
def tw10337101375699091347:=0
def tw13421463936787649272:=0
def tw6187128883383631480:=0
def tw14489120288225389033:=0
def tw3922070143466950405:=0
def tw12011239363069287478:=0
def tw12491548996914990981:=0
def tw11897540135599650204:=0
def tw17546450831837919077:=0
def tw17496060433627534983:=0
def tw4939974064459611992:=0
def tw14725176397687988752:=0
def tw13368081495966638729:=0
def tw16212864178092221868:=0
def tw10625998215883999822:=0
def tw9376364280818232822:=0
def tw11666204158785149694:=0
def tw4695928561045979464:=0
def tw6647685842787663526:=0
def tw11794528546388441693:=0
def tw1256258835733783082:=0
def tw5057398007732218723:=0
def tw5634878363810513175:=0
def tw16513540282750978929:=0
def tw17994868710317592830:=0
def tw3734921060108372303:=0
def tw10195991125221382408:=0
def tw9410265024728943655:=0
def tw4523849779240165118:=0
def tw2914426857361581641:=0
def tw13463559439125590392:=0
def tw3731792572062936245:=0
def tw17412150399289893904:=0
def tw2754372265165672674:=0
def tw6656520743122546126:=0
def tw10701442834496280242:=0
def tw1602431949397777154:=0
def tw11542929348509158686:=0
def tw17943453349753976532:=0
def tw16896820484653637950:=0
def tw14626678136388884533:=0
def tw13713184158462338610:=0
def tw12054492493915285674:=0
def tw12492016510796051938:=0
def tw18391655934167657614:=0
def tw10728789683797192786:=0
def tw9061415549466841142:=0
def tw4475540985841856199:=0
def tw7188471387359769985:=0
def tw14780618483596629291:=0
def tw5755918223792038141:=0
def tw1194226285592713063:=0
def tw7992856054121699506:=0
def tw13782352895485420670:=0
def tw6671541151975974993:=0
def tw17428976579974841761:=0
def tw3717125002675888249:=0
def tw7803526952797607683:=0
def tw14238392668747520392:=0
def tw8470484598675972341:=0
def tw4587719901568013180:=0
def tw6539473653392985641:=0
def tw11611268855243601742:=0
def tw730715894750244041:=0
def tw15030873467433478355:=0
def tw6677226898254751222:=0
def tw2211371955721433161:=0
def tw5511062305252851159:=0
def tw3434536074363380085:=0
def tw7491395760263957776:=0
def tw14155051347126337144:=0
end PySem.W.Fast
theorem PySem.Challenge.cw_stairgauge_k38_whole_anew_holds : PySem.Challenge.rw_stairgauge_k38_whole_anew.Holds := by
 w_on; o_law; k_head; (case hw=>w_witness2)
 k_fill
 refine L2.CO (l:=PySem.Challenge.rw_stairgauge_k38_whole_anew) (n:=63) (k:=10) (x:= "_law_script") (CX:=L2.OC) (sp:=K38.BD) rfl (by decide) rfl ⟨rfl,by decide,by decide⟩ (fun w h Y=>PySem.W.kIn_of Y) ?F (fun K H a ns hl _ hS=>⟨a,ns,rfl,hS,hl,fun _=>rfl⟩) (fun _ _ _ _ z=>z)
 case F =>
  intro w mg fa h KX G hmg
  obtain⟨a,T⟩: ∃a:K38.Adr,K38.Txt (L2.P8 KX) mg a:=by
   dsimp only[L2.P8]
   refine' K38.Gp ⟨⟨?a1,?b1,?c1,?d1⟩,PySem.W.mg_of KX G ?e1,?f1,?g1⟩
     (?e2)
     (?e3)
     (?e4)
     (L2.aX KX G ?a5 ?l5 ?c5 ?k5)
     (L2.aX KX G ?a6 ?l6 ?c6 ?k6)
     (L2.aX KX G ?a7 ?l7 ?c7 ?k7)
     (L2.aX KX G ?a8 ?l8 ?c8 ?k8)
     (L2.aX KX G ?a9 ?l9 ?c9 ?k9)
     (L2.aX KX G ?a10 ?l10 ?c10 ?k10)
     (L2.aX KX G ?a11 ?l11 ?c11 ?k11)
     (L2.aX KX G ?a12 ?l12 ?c12 ?k12)
     (L2.aX KX G ?a13 ?l13 ?c13 ?k13)
     (L2.aX KX G ?a14 ?l14 ?c14 ?k14)
     (L2.aX KX G ?a15 ?l15 ?c15 ?k15)
     (L2.aX KX G ?a16 ?l16 ?c16 ?k16)
     (L2.aX KX G ?a17 ?l17 ?c17 ?k17)
     (L2.aX KX G ?a18 ?l18 ?c18 ?k18)
     (L2.aX KX G ?a19 ?l19 ?c19 ?k19)
     (L2.aX KX G ?a20 ?l20 ?c20 ?k20)
     (L2.aX KX G ?a21 ?l21 ?c21 ?k21)
     (L2.aX KX G ?a22 ?l22 ?c22 ?k22)
     (L2.aX KX G ?a23 ?l23 ?c23 ?k23)
     (L2.aX KX G ?a24 ?l24 ?c24 ?k24)
     (L2.aX KX G ?a25 ?l25 ?c25 ?k25)
     (L2.aX KX G ?a26 ?l26 ?c26 ?k26)
     (L2.aX KX G ?a27 ?l27 ?c27 ?k27)
     (L2.aX KX G ?a28 ?l28 ?c28 ?k28)
     (L2.aX KX G ?a29 ?l29 ?c29 ?k29)
     (L2.aX KX G ?a30 ?l30 ?c30 ?k30)
     (L2.aX KX G ?a31 ?l31 ?c31 ?k31)
     (L2.aX KX G ?a32 ?l32 ?c32 ?k32)
     (L2.aX KX G ?a33 ?l33 ?c33 ?k33)
     (L2.aX KX G ?a34 ?l34 ?c34 ?k34)
     (L2.aX KX G ?a35 ?l35 ?c35 ?k35)
     (L2.aX KX G ?a36 ?l36 ?c36 ?k36)
     (L2.aX KX G ?a37 ?l37 ?c37 ?k37)
     (L2.aX KX G ?a38 ?l38 ?c38 ?k38)
     (L2.aX KX G ?a39 ?l39 ?c39 ?k39)
     (L2.aX KX G ?a40 ?l40 ?c40 ?k40)
     (L2.aX KX G ?a41 ?l41 ?c41 ?k41)
     (L2.aX KX G ?a42 ?l42 ?c42 ?k42)
     (L2.aX KX G ?a43 ?l43 ?c43 ?k43)
     (L2.aX KX G ?a44 ?l44 ?c44 ?k44)
     (L2.aX KX G ?a45 ?l45 ?c45 ?k45)
     (L2.aX KX G ?a46 ?l46 ?c46 ?k46)
     (L2.aX KX G ?a47 ?l47 ?c47 ?k47)
     (L2.aX KX G ?a48 ?l48 ?c48 ?k48)
     (L2.aX KX G ?a49 ?l49 ?c49 ?k49)
     (L2.aX KX G ?a50 ?l50 ?c50 ?k50)
     (L2.aX KX G ?a51 ?l51 ?c51 ?k51)
     (L2.aX KX G ?a52 ?l52 ?c52 ?k52)
     (L2.aX KX G ?a53 ?l53 ?c53 ?k53)
     (L2.aX KX G ?a54 ?l54 ?c54 ?k54)
     (L2.aX KX G ?a55 ?l55 ?c55 ?k55)
     (L2.cQ ?a56 ?i56 ?l56 ?c56 ?k56)
     (L2.cQ ?a57 ?i57 ?l57 ?c57 ?k57)
     (L2.cQ ?a58 ?i58 ?l58 ?c58 ?k58)
     (L2.cQ ?a59 ?i59 ?l59 ?c59 ?k59)
     (L2.cQ ?a60 ?i60 ?l60 ?c60 ?k60)
     (L2.cQ ?a61 ?i61 ?l61 ?c61 ?k61)
     (L2.cQ ?a62 ?i62 ?l62 ?c62 ?k62)
     (L2.cQ ?a63 ?i63 ?l63 ?c63 ?k63)
     (L2.cQ ?a64 ?i64 ?l64 ?c64 ?k64)
     (L2.cQ ?a65 ?i65 ?l65 ?c65 ?k65)
     (L2.cQ ?a66 ?i66 ?l66 ?c66 ?k66)
     (L2.cQ ?a67 ?i67 ?l67 ?c67 ?k67)
     (L2.cQ ?a68 ?i68 ?l68 ?c68 ?k68)
     (L2.cQ ?a69 ?i69 ?l69 ?c69 ?k69)
     (L2.cQ ?a70 ?i70 ?l70 ?c70 ?k70)
     (L2.cQ ?a71 ?i71 ?l71 ?c71 ?k71)
     (L2.cQ ?a72 ?i72 ?l72 ?c72 ?k72)
     (L2.cQ ?a73 ?i73 ?l73 ?c73 ?k73)
     (L2.cQ ?a74 ?i74 ?l74 ?c74 ?k74)
     (L2.cQ ?a75 ?i75 ?l75 ?c75 ?k75)
     (L2.cQ ?a76 ?i76 ?l76 ?c76 ?k76)
     (L2.cQ ?a77 ?i77 ?l77 ?c77 ?k77)
     (L2.cQ ?a78 ?i78 ?l78 ?c78 ?k78)
     (L2.cQ ?a79 ?i79 ?l79 ?c79 ?k79)
     (L2.cQ ?a80 ?i80 ?l80 ?c80 ?k80)
     (L2.mB KX G ?a81 ?l81 ?c81 ?d81 ?z81 ?v81)
     (L2.mB KX G ?a82 ?l82 ?c82 ?d82 ?z82 ?v82)
     (L2.mB KX G ?a83 ?l83 ?c83 ?d83 ?z83 ?v83)
     (L2.mB KX G ?a84 ?l84 ?c84 ?d84 ?z84 ?v84)
     ⟨_,PySem.W.mg_of KX G ?a85,?r85⟩
     ⟨_,PySem.W.mg_of KX G ?a86,?r86⟩
     ⟨_,PySem.W.mg_of KX G ?a87,?r87⟩
     (L2.mB KX G ?a88 ?l88 ?c88 ?d88 ?z88 ?v88)
     (L2.mB KX G ?a89 ?l89 ?c89 ?d89 ?z89 ?v89)
     ⟨_,PySem.W.mg_of KX G ?a90,?r90⟩
     ⟨_,PySem.W.mg_of KX G ?a91,?r91⟩
     (PySem.W.mg_none_of KX G ?a92)
     (PySem.W.mg_none_of KX G ?a93)
     (PySem.W.mg_none_of KX G ?a94)
     (PySem.W.mg_none_of KX G ?a95)
     (PySem.W.mg_none_of KX G ?a96)
     (PySem.W.mg_none_of KX G ?a97)
     (PySem.W.mg_none_of KX G ?a98)
     (PySem.W.mg_none_of KX G ?a99)
     (PySem.W.mg_none_of KX G ?a100)
     (PySem.W.mg_none_of KX G ?a101)
     (PySem.W.mg_none_of KX G ?a102)
     (PySem.W.mg_none_of KX G ?a103)
     (PySem.W.mg_none_of KX G ?a104)
     (PySem.W.mg_none_of KX G ?a105)
     (PySem.W.mg_none_of KX G ?a106)
     (PySem.W.mg_none_of KX G ?a107)
     ⟨PySem.W.mg_of KX G ?a109,?e109⟩
     ⟨PySem.W.mg_of KX G ?a110,?e110⟩
     ⟨PySem.W.mg_of KX G ?a111,?e111⟩
     ⟨PySem.W.mg_of KX G ?a112,?e112⟩
     ⟨PySem.W.mg_of KX G ?a113,?e113⟩
     ⟨PySem.W.mg_of KX G ?a114,?e114⟩
     ⟨PySem.W.mg_of KX G ?a115,?e115⟩
     ⟨PySem.W.mg_of KX G ?a116,?e116⟩
     (L2.dw ?l127 ?e127)
     (L2.dw ?l136 ?e136)
     (L2.dw ?l137 ?e137)
     (L2.dw ?l163 ?e163)
     (L2.dw ?l164 ?e164)
     (L2.dw ?l167 ?e167)
     (L2.dw ?l172 ?e172)
     (L2.dw ?l173 ?e173)
     (L2.dw ?l176 ?e176)
     (L2.dw ?l177 ?e177)
     (L2.dw ?l181 ?e181)
     (L2.dw ?l182 ?e182)
     (L2.dw ?l185 ?e185)
     (L2.dw ?l186 ?e186)
     (L2.dw ?l187 ?e187)
     (L2.dw ?l197 ?e197)
   (case e1|a1|b1|c1|d1|f1|g1|a5|l5|c5|k5|a6|l6|c6|k6|a7|l7|c7|k7|a8|l8|c8|k8|a9|l9|c9|k9|a10|l10|c10|k10|a11|l11|c11|k11|a12|l12|c12|k12|a13|l13|c13|k13|a14|l14|c14|k14|a15|l15|c15|k15|a16|l16|c16|k16|a17|l17|c17|k17|a18|l18|c18|k18|a19|l19|c19|k19|a20|l20|c20|k20|a21|l21|c21|k21|a22|l22|c22|k22|a23|l23|c23|k23|a24|l24|c24|k24|a25|l25|c25|k25|a26|l26|c26|k26|a27|l27|c27|k27|a28|l28|c28|k28|a29|l29|c29|k29|a30|l30|c30|k30|a31|l31|c31|k31|a32|l32|c32|k32|a33|l33|c33|k33|a34|l34|c34|k34|a35|l35|c35|k35|a36|l36|c36|k36|a37|l37|c37|k37|a38|l38|c38|k38|a39|l39|c39|k39|a40|l40|c40|k40|a41|l41|c41|k41|a42|l42|c42|k42|a43|l43|c43|k43|a44|l44|c44|k44|a45|l45|c45|k45|a46|l46|c46|k46|a47|l47|c47|k47|a48|l48|c48|k48|a49|l49|c49|k49|a50|l50|c50|k50|a51|l51|c51|k51|a52|l52|c52|k52|a53|l53|c53|k53|a54|l54|c54|k54|a55|l55|c55|k55|a56|i56|l56|c56|k56|a57|i57|l57|c57|k57|a58|i58|l58|c58|k58|a59|i59|l59|c59|k59|a60|i60|l60|c60|k60|a61|i61|l61|c61|k61|a62|i62|l62|c62|k62|a63|i63|l63|c63|k63|a64|i64|l64|c64|k64|a65|i65|l65|c65|k65|a66|i66|l66|c66|k66|a67|i67|l67|c67|k67|a68|i68|l68|c68|k68|a69|i69|l69|c69|k69|a70|i70|l70|c70|k70|a71|i71|l71|c71|k71|a72|i72|l72|c72|k72|a73|i73|l73|c73|k73|a74|i74|l74|c74|k74|a75|i75|l75|c75|k75|a76|i76|l76|c76|k76|a77|i77|l77|c77|k77|a78|i78|l78|c78|k78|a79|i79|l79|c79|k79|a80|i80|l80|c80|k80|a81|l81|a82|l82|a83|l83|a84|l84|a85|a86|a87|a88|l88|a89|l89|a90|a91|a92|a93|a94|a95|a96|a97|a98|a99|a100|a101|a102|a103|a104|a105|a106|a107|a109|a110|a111|a112|a113|a114|a115|a116|l127|l136|l137|l163|l164|l167|l172|l173|l176|l177|l181|l182|l185|l186|l187|l197=>k_is)
   (case c81|d81|c82|d82|c83|d83|c84|d84|c88|d88|c89|d89|e127|e136|e137|e163|e164|e167|e172|e173|e176|e177|e181|e182|e185|e186|e187|e197=>rfl)
   (case z81|z82|z83|z84|z88|z89=>decide)
   (case e109|e110|e111|e112|e113|e114|e115|e116=>k_exc)
   (case e2=>(show PySem.W.findIn _ _ _=_); k_is)
   (case e3=>(show PySem.W.findIn _ _ _=_); k_is)
   (case e4=>(show PySem.W.findIn _ _ _=_); k_is)
   (case v81=>exact (.cons ⟨_,rfl⟩ (.cons ⟨_,rfl⟩ .nil)))
   (case v82=>exact (.cons ⟨_,rfl⟩ (.cons ⟨_,rfl⟩ .nil)))
   (case v83=>exact (.cons ⟨_,rfl⟩ (.cons ⟨_,rfl⟩ .nil)))
   (case v84=>exact (.cons ⟨_,rfl⟩ (.cons ⟨_,rfl⟩ .nil)))
   (case r85=>exact⟨_,rfl⟩)
   (case r86=>exact⟨_,rfl⟩)
   (case r87=>exact⟨_,rfl⟩)
   (case v88=>exact (.cons ⟨_,rfl⟩ (.cons ⟨_,rfl⟩ .nil)))
   (case v89=>exact (.cons ⟨_,rfl⟩ (.cons ⟨_,rfl⟩ .nil)))
   (case r90=>exact⟨_,rfl⟩)
   (case r91=>exact⟨_,rfl⟩)
  exact (L2.FD T.wG (fun base=>K38.GQ T) hmg (fun _ _ _ _ _ _ s u=> .of_eq rfl)).imp fun fd hf=>⟨hf.1,fun base _ _=>hf.2 base⟩
