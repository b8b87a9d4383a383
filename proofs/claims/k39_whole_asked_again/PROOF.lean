import PyProof.Rows.All
import Wide.All
import OpenK.AllK
import Wide.FinOn
import Lean
import PyProof.EqAt
import PyProof.EqKinds
import PyProof.TupleCall
import PyProof.StrWalks
import PyProof.ConsumeWalk
import PyProof.IsiPairs
import PyProof.IsiHeapPairs
import PyProof.StationsW
import OpenK.KOwn
import KE.KIsAll
import PyProof.ExcAttrAll.ValueError
import PyProof.Rows.StrWeight2
import KE.KLam
import KE.KSortKey
import PyProof.ListRange
import KE.KRevSl
import PyProof.EnumStmt
import PyProof.EnumMake
import PyProof.NeKinds
import PyProof.Rows.SumAny
import PyProof.SliceStr2
import PyProof.StrOps2
import PyProof.MinMaxWalk
import PyProof.ZipIter
import KE.KIntText
import PyProof.StrCalls2
import PyProof.StrLawsTight
import PyProof.StrLawsChain
import PyProof.Rows.StrItems
import PySem.Challenge.RW_stairgauge_k39_whole_asked_again
set_option linter.all false
set_option maxRecDepth 100000
set_option Elab.async false
set_option maxHeartbeats 0
set_option hygiene false
abbrev mK:=List (PySem.Addr×PySem.Obj)
abbrev nE:=PySem.Value->PySem.Shared->Prop
abbrev oR:=PySem.Str->Option PySem.Value
local macro_rules|`(tactic|show $t:term)=>`(tactic|refine $t)
local macro_rules|`(tactic|ext:0)=>`(tactic|(intro X hP hw hK hc i QE s O H E I hf st hg;subst hP hw hK))
local macro_rules|`(tactic|ext:1)=>`(tactic|(intro QE s O H Q I h;show OM (pl:=pl) (QL (he QE s O H _ I h) λu s1 hm=>?_) ht;obtain⟨x,H1,I1,rx,a,dx,fs,ex,ea,l,q⟩:=hm;subst ex;obtain rfl:u=Value.ref a:=rx;show jq I1 ea c hm l ?_))
local macro_rules|`(tactic|ext:2)=>`(tactic|(show bo (λc=>?_) (λc=>?_)))
local macro_rules|`(tactic|ext:3)=>`(tactic|(intro QE s O H x y v u Q I rx ry h))
local macro_rules|`(tactic|ext:4)=>`(tactic|(dsimp only[aM,List.set]))
local macro_rules|`(tactic|ext:5)=>`(tactic|(dsimp only[aM,L2.start,List.set]))
local macro_rules|`(tactic|ext:6)=>`(tactic|(obtain⟨dx,p,q0,r,is,kv,rfl,I⟩:=id hI;obtain⟨pi,xs,hp,hX⟩:=I.ms;have xl:=hX.length;have ml:=g.ml))
local macro_rules|`(tactic|ext:7)=>`(tactic|(show⟨_,Z,_,Z,Y,Y,?_⟩;rw[M6]))
local macro_rules|`(tactic|ext:8)=>`(tactic|(show⟨_,Z,h,dx,_,Z,I.ih,QR,_,Z,_,Z,h,dx,_,Z,I.ih,QR,h,_,S,Z,hI,Y,λpm H1 npm s1 hpm=>?_⟩;have hI1:=hI.grow (H':=H1) λb o _ e=>s1 _ _ e;show⟨h,pm,_,S,y,aD S,Z,hI1,g,db,hpm,λhy=>e1 hy H1 s1,λhy eN H2 s2=>e2 hy eN H2 (s1.trans s2),λhy L eL H2 s2=>?_⟩;have s12:=s1.trans s2;have I2:=I.same s12;have hI2:=hI.grow (H':=H2) λb o _ e=>s12 _ _ e))
local macro_rules|`(tactic|ext:9)=>`(tactic|(show bM λD1 hR1 _=>?_))
local macro_rules|`(tactic|ext:10)=>`(tactic|(obtain⟨f0,f1,f2,f3,f4,f5⟩:=hf it (by simp)))
local macro_rules|`(tactic|ext:11)=>`(tactic|(have I3:=(I.same s2).keep nt;have nt0:=s2.free nt;have s3: ∀b o,b≠r->H b=some o->(upd (upd H2 t (.tup [.ref p,.ref q])) r (.lst (kv++[.ref t]))) b=some o:=λb o n e=>(ah n).trans ((ah (av (s2 _ _ e) nt)).trans (s2 _ _ e));obtain⟨a1,a2,a3,a4⟩:=I.rows (λb o hb e=>s4 _ _ (s3 b o (I.sh hb).2.2 e)) np hp hx))
local macro_rules|`(tactic|ext:12)=>`(tactic|(have hclos:closureFor scope X.env=pure (bD scope.names X.env.cells []):=lp λx hx hk=>I.ok.has x.1 (by have:=S.free x hx hk; rw[<-hp] at this; exact this)))
local macro_rules|`(tactic|ext:13)=>`(tactic|(have I1:Inv X QE O H { s with heap:=h',toks:=s.toks+1 }:=I.turned (λb o hb e=>(sb.2 b hb).trans e) f0 f1 f3 f4 f5;obtain⟨o,e,c,d⟩:=id st';exact⟨_,Z,xm (s:={ s with heap:=h',toks:=s.toks+1 }) e c d aS ⟨.str ⟨#[z.cps[i]'hg]⟩,H,I1,⟨_,Z⟩,⟨Z,_,OW hg,Z⟩,st',λb hb=>(hf b hb).1⟩⟩))
local macro_rules|`(tactic|ext:14)=>`(tactic|(rintro i ys H2 x hi ⟨rfl,rfl⟩;obtain⟨m,hm,t,rfl,_,ht⟩:=hX.get hi;dsimp only[aM,kx];show bu ⟨_,Z,t,_,_,_,Z,Z,QK.of ht,Z,Z,?_⟩;rw[NF,hm,Nf]))
local macro_rules|`(tactic|ext:15)=>`(tactic|(obtain⟨t,rfl⟩:=rx))
local macro_rules|`(tactic|lia)=>`(tactic|first|with_reducible assumption|lia (config:={})|omega)
theorem Y{p:Prop}(h:p:=by lia):p:=h
theorem aC{n:Nat}(h:Nat.ble n 99=true:=by rfl):n≤PySem.sizeLine:=Nat.le_trans (Nat.le_of_ble_eq_true h) (by decide)
theorem aS{p:Prop}(h:p:=by decide):p:=h
theorem Z.{u}{α:Sort u}{a:α}:a=a:=rfl
abbrev QG:=PySem.W.Frag
local macro_rules|`(tactic|trivial)=>`(tactic|decide +kernel)
abbrev MO:=@List.length_map
abbrev MP:=@if_neg
abbrev MQ:=@List.getElem?_eq_getElem
abbrev MS:=@List.mem_of_getElem?
abbrev MT:=@List.mem_singleton
abbrev MU:=@if_pos
abbrev MV:=@PySem.Heap.get?_push_of_some
abbrev MW:=@List.getElem?_eq_some_iff
abbrev MX:=@List.getD_eq_getElem?_getD
abbrev MY:=@PySem.wpAny_bind
abbrev MZ:=@Nat.le_refl
abbrev M0:=@List.length_append
abbrev M3:=@List.mem_cons
abbrev M4:=@List.mem_cons_of_mem
abbrev M5:=@List.getElem?_map
abbrev M6:=@Int.toNat_natCast
abbrev M7:=@List.mem_cons_self
abbrev M8:=@List.mem_append
abbrev M9:=@of_decide_eq_true
abbrev Na:=@PySem.Heap.lt_size
abbrev Nb:=@List.size_toArray
abbrev Nc:=@Option.some.inj
abbrev Nd:=@Bool.false_ne_true
abbrev Nf:=@List.map_append
abbrev Ng:=@Nat.le_trans
abbrev Nh:=@List.mem_range
abbrev Ni:=@List.length_take
abbrev Nj:=@PySem.wpAny_pure
abbrev Nk:=@List.length_cons
abbrev Nl:=@Bool.not_eq_true
abbrev Nn:=@List.mem_append_right
abbrev Np:=@Int.le_refl
abbrev Nq:=@PySem.Heap.get?_push_size
abbrev Nr:=@of_decide_eq_false
abbrev Nt:=@Nat.ne_of_lt
abbrev Nu:=@Ne.symm
abbrev Nv:=@decide_eq_true
abbrev Nw:=@Nat.le_of_lt
abbrev Ny:=@List.mem_map
abbrev Nz:=@decide_eq_false
abbrev NA:=@Int.le_trans
abbrev NB:=@Nat.lt_of_lt_of_le
abbrev NC:=@List.take_length
abbrev ND:=@List.map_cons
abbrev NF:=@List.take_add_one
abbrev NG:=@Bool.and_eq_true
abbrev NH:=@List.mem_filter
abbrev NI:=@PySem.F.plainAttrs_list
abbrev NJ:=@congrArg
abbrev NK:=@List.length_range
abbrev NL:=@List.not_mem_nil
abbrev NM:=@List.nodup_cons
abbrev NN:=@Nat.zero_le
abbrev NO:=@List.mem_append_left
abbrev NP:=@Nat.not_lt_zero
abbrev NQ:=@List.length_filter_le
abbrev NR:=@List.length_drop
abbrev NS:=@PySem.Heap.get?_update_other
abbrev NU:=@PySem.wpAny_mono
abbrev NV:=@List.replicate_succ
abbrev NW:=@Classical.byContradiction
abbrev NX:=@List.length_replicate
abbrev NY:=@List.append_assoc
abbrev NZ:=@Decidable.not_not
abbrev N0:=@List.mem_iff_getElem
abbrev N1:=@List.map_map
abbrev N2:=@List.take_of_length_le
abbrev N3:=@List.eq_nil_of_length_eq_zero
abbrev N4:=@Int.emod_lt_of_pos
abbrev N5:=@PySem.F.slot_list_index
abbrev N6:=@PySem.F.type_list_index
abbrev N7:=@List.lookup_cons
abbrev N8:=@List.flatten_cons
abbrev N9:=@PySem.wpAny_truthy_bool
abbrev Oa:=@Int.emod_nonneg
abbrev Ob:=@Nat.min_le_left
abbrev Oc:=@Nat.lt_of_le_of_lt
abbrev Od:=@PySem.sizeLine_eq
abbrev Oe:=@PySem.Heap.size_push
abbrev Of:=@List.mem_of_mem_take
abbrev Og:=@List.foldl_append
abbrev Oh:=@List.range_succ
abbrev Oi:=@Array.length_toList
abbrev Oj:=@PySem.Heap.get?_update_ne
abbrev Ol:=@List.map_set
abbrev Om:=@PySem.wpAny_holding
abbrev Oo:=@Nat.lt_succ_self
abbrev Oq:=@List.all_eq_true
abbrev Ot:=@List.getElem_mem
abbrev Ou:=@PySem.Heap.get?_update_self
abbrev Ov:=@List.filter_append
abbrev Ow:=@PySem.wpAny_Call_Name_kw
abbrev Ox:=@Decidable.byContradiction
abbrev Oy:=@List.append_nil
abbrev Oz:=@Option.isSome_iff_exists
abbrev OA:=@List.mem_of_mem_drop
abbrev OB:=@Nat.le_succ_of_le
abbrev OC:=@Nat.lt_irrefl
abbrev OD:=@PySem.wpAny_standAt
abbrev OE:=@List.map_congr_left
abbrev OF:=@List.getElem_map
abbrev OG:=@PySem.Value.type.inj
abbrev OH:=@beq_self_eq_true
abbrev OI:=@Nat.not_lt
abbrev OJ:=@List.find?_cons_of_neg
abbrev OK:=@PyProof.Rows.callWith_type1
abbrev OL:=@List.find?_eq_none
abbrev OM:=@PySem.W.methodCall_KW
abbrev ON:=@List.length_set
abbrev OO:=@List.find?_cons
abbrev OP:=@PySem.F.slot_list_pop
abbrev OQ:=@PySem.F.type_list_pop
abbrev OS:=@PySem.wpAny_passesOwn
abbrev OT:=@Nat.lt_succ_of_lt
abbrev OU:=@List.nodup_append
abbrev OV:=@PySem.wpAny_loadPart_at
abbrev OW:=@Array.getElem?_eq_getElem
abbrev OX:=@List.nodup_nil
abbrev OY:=@List.getElem_inj
abbrev OZ:=@List.filter_cons
abbrev O0:=@Nat.lt_succ_iff_lt_or_eq
abbrev O1:=@PySem.codeAny_mono
abbrev O2:=@or_false
abbrev O3:=@PySem.mem_of_lookup
abbrev O4:=@List.mem_filterMap
abbrev O5:=@Bool.eq_iff_iff
abbrev O6:=@List.length_nil
abbrev O7:=@PySem.call_meets
abbrev O8:=@PySem.tupleKind_room_in1
abbrev O9:=@PySem.Calls.callWith_builtin
abbrev Pa:=@List.find?_cons_of_pos
abbrev Pb:=@PySem.wpAny_pyIter_list
abbrev Pc:=@Nat.le_of_eq
abbrev Pd:=@List.length_singleton
abbrev Pe:=@Int.zero_add
abbrev Pf:=@PySem.Calls.evalArgs_plain
abbrev Pg:=@List.getElem?_append_right
abbrev Ph:=@List.any_cons
abbrev Pj:=@PySem.Heap.SameBut.update
abbrev Pk:=@List.getElem?_range
abbrev Pm:=@List.getElem?_append_left
abbrev Pn:=@List.mem_of_find?_eq_some
abbrev Po:=@PySem.PassesOwn.never
abbrev Pp:=@Nat.ne_of_gt
abbrev Pq:=@PySem.W.callWith_K
abbrev Pr:=@Bool.false_eq_true
abbrev Pt:=@PySem.wpAny_call
abbrev Pu:=@List.getElem?_replicate
abbrev Px:=@Int.eq_ofNat_of_zero_le
abbrev Py:=@PyProof.Rows.boot_range
abbrev Pz:=@List.any_eq_false
abbrev PB:=@List.reverse_cons
abbrev PD:=@List.append_ne_nil_of_right_ne_nil
abbrev PF:=@PySem.wpAny_newObj_type
abbrev PJ:=@Sum.inl.inj
abbrev PK:=@PySem.wpAny_field
abbrev PL:=@List.take_nil
abbrev PM:=@List.ext_getElem
abbrev PN:=@Nat.le_add_right
abbrev PQ:=@PySem.F.slot_dict_get
abbrev PR:=@List.eq_nil_or_concat
abbrev PU:=@List.concat_eq_append
abbrev PV:=@List.mem_iff_getElem?
abbrev PX:=@List.eraseIdxIfInBounds_toArray
abbrev PY:=@List.eraseIdx_eq_take_drop_succ
abbrev PZ:=@PySem.Heap.get?_none_of_le
abbrev P4:=@List.getElem?_set_ne
abbrev P5:=@List.map_nil
abbrev P6:=@List.getElem_toArray
abbrev P7:=@Option.map_some
abbrev P8:=@PySem.wpAny_execs_nil
abbrev P9:=@PySem.codeAny_builtin
abbrev Qa:=@List.take_append_of_le_length
abbrev Qb:=@List.filterMap_cons
abbrev Qc:=@PySem.W.plainGet_of
abbrev Qd:=@PySem.W.callWith_K0
abbrev Qe:=@PySem.wpAny_isSubtype_exc
abbrev Qf:=@Bool.false_and
abbrev Qg:=@Sum.inr.inj
abbrev Qh:=@Nat.le_succ
abbrev Qi:=@PySem.wpAny_letGo
abbrev Qj:=@PySem.Calls.spliced_cons
abbrev Qk:=@List.getElem_range
abbrev Ql:=@List.pairwise_cons
abbrev Qm:=@List.mem_replicate
abbrev Qn:=@PySem.Paired.length
abbrev Qo:=@Array.getElem?_eq_some_iff
abbrev Qp:=@List.sum_cons
abbrev Qq:=@List.drop_nil
abbrev Qr:=@List.pairwise_map
abbrev Qs:=@Option.isSome_map
abbrev Qt:=@decide_eq_true_eq
abbrev Qu:=@Nat.min_le_right
abbrev Qv:=@Nat.le_of_not_lt
abbrev Qw:=@Nat.succ.inj
abbrev Qx:=@List.cons_append
abbrev Qy:=@Nat.succ_pos
abbrev Qz:=@if_false
abbrev QA:=@decide_eq_decide
abbrev QB:=@List.of_mem_zip
abbrev QC:=@Nat.min_eq_left
abbrev QD:=@Nat.one_mul
namespace L2
open PySem PySem.Spec PyProof.Rows
abbrev Key:=Sum Int Str
def rX:Key->Value->Bool
 | .inl k,v=>Value.isInt k v
 | .inr x,v=>Value.isStrOf x v
def LF (w:World):Key->Int
 | .inl k=>hashInt k
 | .inr x=>hashStr w x
theorem dG: ∀ {k:Key}{v:Value},rX k v=true->(∃i t,k=Sum.inl i/\v=Value.int i t)\/(∃x t,k=Sum.inr x/\v=Value.str x t)
 | .inl i,v,h=>by
  obtain⟨t,e⟩:=Value.isInt_shape (k:=i) (v:=v) h;exact .inl ⟨i,t,Z,e⟩
 | .inr x,v,h=>by
  obtain⟨t,e⟩:=Value.isStrOf_shape (x:=x) (v:=v) h;exact .inr ⟨x,t,Z,e⟩
theorem Df (i:Int) (t:Tok):rX (.inl i) (.int i t)=true:=by simp[rX,Value.isInt]
theorem C5 (x:Str) (t:Tok):rX (.inr x) (.str x t)=true:=by simp[rX,Value.isStrOf]
theorem J3 (a b:Int):decide ((Sum.inl a:Key)=Sum.inl b)=(a == b):=by
 by_cases e:a=b;.subst e; simp
 .have h: ¬(Sum.inl a:Key)=Sum.inl b:=λq=>e (PJ q);rw[Nz h];exact (beq_eq_false_iff_ne.mpr e).symm
theorem J8 (a b:Str):decide ((Sum.inr a:Key)=Sum.inr b)=decide (a=b):=by
 by_cases e:a=b;.subst e; simp
 .have h: ¬(Sum.inr a:Key)=Sum.inr b:=λq=>e (Qg q);rw[Nz h,Nz e]
theorem JM (a:Int) (b:Str):decide ((Sum.inl a:Key)=Sum.inr b)=false:=Nz (λq=>nomatch q)
theorem Jq (a:Str) (b:Int):decide ((Sum.inr a:Key)=Sum.inl b)=false:=Nz (λq=>nomatch q)
def cv (prog:Program) (w:World):PySem.KeyKind prog w Key where
 is:=rX
 hash:=LF w
 inj:=λv a b ha hb=>by
  rcases dG ha with⟨i,t,rfl,rfl⟩ | ⟨x,t,rfl,rfl⟩
  .rcases dG hb with⟨j,u,rfl,e⟩ | ⟨y,u,rfl,e⟩
   .injection e with e1 _; rw[e1]
   .exact nomatch e
  .rcases dG hb with⟨j,u,rfl,e⟩ | ⟨y,u,rfl,e⟩
   .exact nomatch e
   .injection e with e1 _; rw[e1]
 byValue:=λk v h=>by
  rcases dG h with⟨i,t,rfl,rfl⟩ | ⟨x,t,rfl,rfl⟩ <;> rfl
 pyHash:=λhv h=>by
  rcases dG hv with⟨i,t,rfl,rfl⟩ | ⟨x,t,rfl,rfl⟩
  .exact wpAny_pyHash_int h
  .exact wpAny_pyHash_str h
 eqBool:=λhu hv h=>by
  rcases dG hu with⟨i,t,rfl,rfl⟩ | ⟨x,t,rfl,rfl⟩
  .rcases dG hv with⟨j,u,rfl,rfl⟩ | ⟨y,u,rfl,rfl⟩
   .rw[J3] at h; exact wpAny_eqBool_int h
   .rw[JM] at h; exact SeqAt.EqAt.int_str i t y u _ _ _ _ h
  .rcases dG hv with⟨j,u,rfl,rfl⟩ | ⟨y,u,rfl,rfl⟩
   .rw[Jq] at h; exact SeqAt.EqAt.str_int x t j u _ _ _ _ h
   .rw[J8] at h; exact wpAny_eqBool_str h
 «strs» := λk x t v h=>by
  rcases dG h with⟨i,u,rfl,e⟩ | ⟨y,u,rfl,e⟩
  .exact nomatch e
  .injection e with e1 _
   subst e1;cases v <;> rfl
theorem zf (prog:Program) (w:World) (i:Int) (t:Tok):(cv prog w).is (.inl i) (.int i t)=true:=Df i t
theorem zd (prog:Program) (w:World) (x:Str) (t:Tok):(cv prog w).is (.inr x) (.str x t)=true:=C5 x t
inductive V where
 | non | bl (b:Bool) | int (i:Int) | str (x:Str) | byt (b:Array UInt8) | flt (b:UInt64) | ref (a:Addr) | ty (n:String)
 deriving DecidableEq
def RelV:V->Value->Prop
 | .non,u=>u=Value.none
 | .bl b,u=>u=Value.bool b
 | .int i,u=> ∃t,u=Value.int i t
 | .str x,u=> ∃t,u=Value.str x t
 | .byt b,u=> ∃t,u=Value.bytes b t
 | .flt b,u=> ∃t,u=Value.float b t
 | .ref a,u=>u=Value.ref a
 | .ty n,u=>u=Value.type n
abbrev Vals:List V->List Value->Prop:=Paired RelV
variable{us:List Value}
theorem Vals.length {xs:List V}(r:Vals xs us):xs.length=us.length:=Qn r
theorem Vals.get: ∀ {xs:List V}{us:List Value}{i:Nat}{x:V},Vals xs us->xs[i]?=some x-> ∃u,us[i]?=some u/\RelV x u
 | _,_,_,_,.nil,e=>by simp at e
 | _,_,0,_,.cons r _,e=>by simp at e; subst e; exact⟨_,Z,r⟩
 | _,_,i+1,x,.cons _ t,e=>by
  obtain⟨u,h1,h2⟩:=Vals.get (i:=i) (x:=x) t (by simpa using e);exact⟨u,by simpa using h1,h2⟩
variable{u:Value}
theorem Vals.set {x:V}(r:RelV x u): ∀ {xs:List V}{us:List Value}(i:Nat),Vals xs us->Vals (xs.set i x) (us.set i u)
 | _,_,_,.nil=> .nil
 | _,_,0,.cons _ t=> .cons r t
 | _,_,i+1,.cons q t=> .cons q (Vals.set r i t)
theorem Vals.append: ∀ {xs ys:List V}{us ws:List Value},Vals xs us->Vals ys ws->Vals (xs++ys) (us++ws)
 | _,_,_,_,.nil,s=>s
 | _,_,_,_,.cons r t,s=> .cons r (Vals.append t s)
theorem Vals.take: ∀ {xs:List V}{us:List Value}(n:Nat),Vals xs us->Vals (xs.take n) (us.take n)
 | _,_,0,_=> .nil
 | _,_,_+1,.nil=> .nil
 | _,_,n+1,.cons r t=> .cons r (Vals.take n t)
theorem Vals.drop: ∀ {xs:List V}{us:List Value}(n:Nat),Vals xs us->Vals (xs.drop n) (us.drop n)
 | _,_,0,r=>r
 | _,_,_+1,.nil=> .nil
 | _,_,n+1,.cons _ t=>Vals.drop n t
def fY:Option V->Option Value->Prop
 | some v,some u=>RelV v u
 | none,none=>True
 | _,_=>False
def KV {κ:Type}:List (κ×V)->List (κ×Value)->Prop:=Paired λ(p:κ×V) (q:κ×Value)=>p.1=q.1/\RelV p.2 q.2
def kV:Key->V
 | .inl i=> .int i
 | .inr x=> .str x
inductive HO where
 | lst (xs:List V)
 | tup (xs:List V)
 | dK (kvs:List (Key×V)) | dT (kvs:List (List Key×V))
 | set (S:Int->Bool) (n:Nat)
 | ins (C dx:Addr) (fs:List (Str×V))
 | own (x:Addr)
 | xd (fs:List (Str×V))
 | met (f x:Addr)
 | Q1 (lo hi:Int)
 | frz (o:Obj) (u:HO)
 | tbl (ps:Array Value)
 | ext (φ:Heap->Prop)
abbrev Hp:=Addr->Option HO
def upd (H:Hp) (a:Addr) (o:HO):Hp:=λb=>if b=a then some o else H b
theorem aa {H:Hp}{a:Addr}{o:HO}:upd H a o a=some o:=by unfold upd; rw[MU rfl]
variable{H:Hp}{a b:Addr}
theorem ah {o:HO}(h:b≠a):upd H a o b=H b:=by unfold upd; rw[MP h]
theorem vL {o u:HO}:upd (upd H a o) a u=upd H a u:=by
 funext b; unfold upd; split <;> rfl
theorem xc {o u:HO}(h:H a=some o) (h':H b=some u) (d:o≠u):a≠b:=by
 intro e; subst e; rw[h] at h'; exact d (Nc h')
theorem av {o:HO}(h:H a=some o) (h':H b=none):a≠b:=by
 intro e; subst e; rw[h] at h'; cases h'
section
variable (P:Program) (w:World)
def cW (H:Hp) (h:Heap) (a:Addr):HO->Prop
 | .lst xs=>xs.length<=sizeLine/\ ∃(its:List Value) (n:Nat),Vals xs its/\h.get? a=some { cls:= .type "list",data:= .seq its.toArray n }
 | .tup xs=>xs.length<=sizeLine/\ ∃its:List Value,Vals xs its/\IsTup h a its.toArray
 | .dK kvs=>kvs.length<=sizeLine/\(a == sysModules)=false/\ ∃vs,KV kvs vs/\h.DictOf (cv P w) a vs
 | .dT kvs=>kvs.length<=sizeLine/\(a == sysModules)=false/\ ∃xs:List (List Key×Addr×Value),
   Paired (λ(p:List Key×V) (q:List Key×Addr×Value)=>p.1=q.1/\H q.2.1=some (.tup (p.1.map kV))/\RelV p.2 q.2.2) kvs xs /\
   ∃o es ep,h.get? a=some o/\o.ExactDict/\o.data= .dict es ep/\es.toList=xs.map (entryOfKey (tupleKind (cv P w)))/\(xs.map (·.1)).Nodup
 | .set S n=>h.SetOf (intKind P w) a S n
 | .ins C dx fs=>H dx=some (.own a)/\fs.length<=1000/\dx≠a/\h.get? a=some (PySem.W.instObj C dx) /\
   ∃mA,h.Ns1 dx mA/\(∀f,fY (fs.lookup f) (mA f))/\PySem.Within mA (fs.map (·.1))
 | .own _=> ∃o,h.get? a=some o
 | .xd fs=> ∃mA,h.Ns1 a mA/\ ∀f,fY (fs.lookup f) (mA f)
 | .Q1 lo hi=> ∃t u v,h.get? a=some { cls:= .type "range",data:= .fields #[.int lo t,.int hi u,.int 1 v] }
 | .frz o u=>h.get? a=some o/\cW H h a u
 | .tbl ps=>h.get? a=some { cls:= .none,data:= .fields ps }
 | .met f x=>h.get? a=some (PySem.W.methodObj (.ref f) (.ref x))
 | .ext φ=>φ h/\(∃o,h.get? a=some o)/\ ∀h1 h2:Heap,φ h1->(∀o,h1.get? a=some o->h2.get? a=some o)->φ h2
def QW (H:Hp) (h:Heap):Prop:= ∀a o,H a=some o->cW P w H h a o
end
section
variable {P:Program}{w:World}{H H':Hp}{h h':Heap}{a:Addr}{o:HO}
theorem cW.lt (x:cW P w H h a o):a < h.objs.size:=by
 cases o with
 | lst xs=>obtain⟨_,_,_,_,e⟩:=x; exact Na e
 | tup xs=>obtain⟨_,_,_,p⟩:=x; exact p.lt
 | dK kvs=>obtain⟨_,_,_,_,o,_,_,e,_⟩:=x; exact Na e
 | dT kvs=>obtain⟨_,_,_,_,o,_,_,e,_⟩:=x; exact Na e
 | set S n=>obtain⟨o,_,_,_,e,_⟩:=x; exact Na e
 | ins C dx fs=>obtain⟨_,_,_,e,_⟩:=x; exact Na e
 | own y=>obtain⟨_,e⟩:=x; exact Na e
 | xd fs=>obtain⟨_,⟨_,_,_,e,_⟩,_⟩:=x; exact Na e
 | Q1 lo hi=>obtain⟨_,_,_,e⟩:=x; exact Na e
 | frz ob u=>obtain⟨e,_⟩:=x; exact Na e
 | tbl ps=>exact Na (show h.get? a=some _ from x)
 | met f y=>exact Na (show h.get? a=some _ from x)
 | ext φ=>obtain⟨_,⟨_,e⟩,_⟩:=x; exact Na e
theorem Paired.E2 {α β:Type}{F G:α->β->Prop}: ∀ {l₁:List α}{l₂:List β},Paired F l₁ l₂->(∀a b,F a b->G a b)->Paired G l₁ l₂
 | _,_,.nil,_=> .nil
 | _,_,.cons r t,f=> .cons (f _ _ r) (Paired.E2 t f)
theorem cW.jk (x:cW P w H h a o) (k: ∀b u,(b=a\/H b=some (.own a))->h.get? b=some u->h'.get? b=some u)
  (ho: ∀b,H b=some (.own a)->H' b=some (.own a)) (ht: ∀b xs,H b=some (.tup xs)->H' b=some (.tup xs)):cW P w H' h' a o:=by
 induction o with
 | lst xs=>obtain⟨z,its,n,r,e⟩:=x; exact⟨z,its,n,r,k _ _ (.inl rfl) e⟩
 | tup xs=>obtain⟨z,its,r,ob,e,c⟩:=x; exact⟨z,its,r,ob,k _ _ (.inl rfl) e,c⟩
 | dK kvs=>obtain⟨z,y,vs,r,ob,es,ep,e,c⟩:=x; exact⟨z,y,vs,r,ob,es,ep,k _ _ (.inl rfl) e,c⟩
 | dT kvs =>
  obtain⟨z,y,xs,r,ob,es,ep,e,c⟩:=x;exact⟨z,y,xs,Paired.E2 r λp q z=>⟨z.1,ht _ _ z.2.1,z.2.2⟩,ob,es,ep,k _ _ (.inl rfl) e,c⟩
 | set S n=>obtain⟨ob,es,ep,t,e,c⟩:=x; exact⟨ob,es,ep,t,k _ _ (.inl rfl) e,c⟩
 | ins C dx fs =>
  obtain⟨d,z,ne,e,mA,⟨od,es,ep,e2,c⟩,r⟩:=x;exact⟨ho _ d,z,ne,k _ _ (.inl rfl) e,mA,⟨od,es,ep,k _ _ (.inr d) e2,c⟩,r⟩
 | own y=>obtain⟨ob,e⟩:=x; exact⟨ob,k _ _ (.inl rfl) e⟩
 | xd fs=>obtain⟨mA,⟨od,es,ep,e,c⟩,r⟩:=x; exact⟨mA,⟨od,es,ep,k _ _ (.inl rfl) e,c⟩,r⟩
 | Q1 lo hi=>obtain⟨t,u,v,e⟩:=x; exact⟨t,u,v,k _ _ (.inl rfl) e⟩
 | frz ob u ih=>obtain⟨e,q⟩:=x; exact⟨k _ _ (.inl rfl) e,ih q⟩
 | tbl ps =>
  have e:h.get? a=some { cls:= .none,data:= .fields ps }:=x;change h'.get? a=some { cls:= .none,data:= .fields ps };exact k a _ (.inl rfl) e
 | met f y =>
  have e:h.get? a=some (PySem.W.methodObj (.ref f) (.ref y)):=x;change h'.get? a=some (PySem.W.methodObj (.ref f) (.ref y));exact k a _ (.inl rfl) e
 | ext φ=>obtain⟨p,⟨o,e⟩,st⟩:=x; exact⟨st _ _ p λo q=>k _ _ (.inl rfl) q,⟨o,k _ _ (.inl rfl) e⟩,st⟩
theorem QW.lt (x:QW P w H h) (e:H a=some o):a < h.objs.size:=(x a o e).lt
theorem QW.fresh (x:QW P w H h) (e:h.objs.size<=a):H a=none:=by
 cases q:H a with
 | none=>rfl
 | some u=>exact absurd (NB (x.lt q) e) (OC _)
theorem QW.kept (x:QW P w H h) (k: ∀b u,h.get? b=some u->h'.get? b=some u):QW P w H h':=λa o e =>
 (x a o e).jk (λb u _ q=>k b u q) (λ_ q=>q) λ_ _ q=>q
theorem QW.laid (x:QW P w H h) (k: ∀b u,h.get? b=some u->h'.get? b=some u) (hp:h.objs.size<=a) (new:cW P w (upd H a o) h' a o):QW P w (upd H a o) h':=λb u e=>by
 have hn:=x.fresh hp;by_cases hb:b=a;.subst hb; rw[aa] at e; cases e; exact new
 .rw[ah hb] at e;exact (x b u e).jk (λc v _ q=>k c v q) (λc q=>by rw[ah (av q hn)]; exact q) λc xs q=>by rw[ah (av q hn)]; exact q
end
def Rd (H:Hp) (a:Addr) (u:HO):Prop:=H a=some u\/ ∃o,H a=some (.frz o u)
variable{P:Program}{w:World}{h:Heap}
theorem Rd.ok {u:HO}(r:Rd H a u) (x:QW P w H h):cW P w H h a u:=by
 rcases r with r | ⟨o,r⟩
 .exact x a u r
 .obtain⟨_,q⟩:=x a _ r;exact q
def Sj:Option HO->Prop
 | some (.lst _)=>True
 | some (.dK _)=>True
 | some (.dT _)=>True
 | some (.set _ _)=>True
 | some (.ins _ _ _)=>True
 | some (.ext _)=>True
 | _=>False
section
variable {P:Program}{w:World}{H:Hp}{h h':Heap}{x e:Addr}{o':HO}
theorem QW.write (ok:QW P w H h) (mu:Sj (H x)) (he:e=x\/H e=some (.own x)) (k: ∀b u,b≠e->h.get? b=some u->h'.get? b=some u) (heo: ∃u,h'.get? e=some u)
  (new:cW P w (upd H x o') h' x o'):QW P w (upd H x o') h':=λb u q=>by
 have nown: ∀c y,H c=some (.own y)->c≠x:=λc y r z=>by subst z; rw[r] at mu; exact mu
 have ntup: ∀c xs,H c=some (.tup xs)->c≠x:=λc xs r z=>by subst z; rw[r] at mu; exact mu
 by_cases hb:b=x;.subst hb; rw[aa] at q; cases q; exact new
 .rw[ah hb] at q;by_cases hbe:b=e
  .have q':H b=some (.own x):=by
    rcases he with z | z
    .exact absurd (hbe.trans z) hb
    .rw[hbe]; exact z
   rw[q] at q'; cases q';obtain⟨v,hv⟩:=heo;exact⟨v,by rw[hbe]; exact hv⟩
  .show (ok b u q).jk (λc v hc r=>k c v ?_ r) (λc r=>by rw[ah (nown c b r)]; exact r) λc xs r=>by rw[ah (ntup c xs r)]; exact r
   rcases hc with rfl | hc
   .exact hbe
   .rintro rfl;rcases he with z | z
    .exact nown c b hc z
    .rw[hc] at z; cases z; exact hb rfl
end
structure Un (fs ex:List Addr) (H H':Hp) (h h':Heap):Prop where
 keep: ∀b o,h.get? b=some o->H b=none->b∉fs->b∉ex->h'.get? b=some o
 slot: ∀b o,h.get? b=some o->H b=none->b∈fs->b∉ex-> ∃sl,h'.get? b=some { o with slots:=sl }
 free: ∀b o,h.get? b=some o->H b=none->b∉ex->H' b=none
 there: ∀b o,h.get? b=some o->b∉ex-> ∃o',h'.get? b=some o'
 tups: ∀b xs,H b=some (.tup xs)->H' b=some (.tup xs)
 frzs: ∀b o u,H b=some (.frz o u)->H' b=some (.frz o u)
 tbls: ∀b ps,H b=some (.tbl ps)-> ∃more,H' b=some (.tbl (ps++more))
section
variable {fs fs' ex ex':List Addr}{H H1 H2:Hp}{h h1 h2 h':Heap}{a x e:Addr}{o:HO}
theorem Un.any (u:Un fs ex H H1 h h1){b:Addr}{ob:Obj}(q:h.get? b=some ob) (n:H b=none) (hx:b∉ex): ∃sl,h1.get? b=some { ob with slots:=sl }:=by
 by_cases hb:b∈fs;.exact u.slot b ob q n hb hx
 .exact⟨ob.slots,u.keep b ob q n hb hx⟩
theorem Un.kept (k: ∀b u,h.get? b=some u->h'.get? b=some u):Un fs ex H H h h' :=
 ⟨λb ob q _ _ _=>k b ob q,λb ob q _ _ _=>⟨ob.slots,k b ob q⟩,λ_ _ _ n _=>n,λb ob q _=>⟨ob,k b ob q⟩,λ_ _ q=>q,λ_ _ _ q=>q,λ_ ps q=>⟨#[],by rw[q]; simp⟩⟩
theorem Un.refl:Un fs ex H H h h:=Un.kept λ_ _ q=>q
theorem Un.laid (k: ∀b u,h.get? b=some u->h'.get? b=some u) (hp:h.objs.size<=a) (hn:H a=none):Un fs ex H (upd H a o) h h' where
 keep:=λb u q _ _ _=>k b u q
 slot:=λb u q _ _ _=>⟨u.slots,k b u q⟩
 free:=λb u q n _=>by rw[ah (Nt (NB (Na q) hp))]; exact n
 there:=λb u q _=>⟨u,k b u q⟩
 tups:=λb xs q=>by rw[ah (av q hn)]; exact q
 frzs:=λb u xs q=>by rw[ah (av q hn)]; exact q
 tbls:=λb ps q=>⟨#[],by rw[ah (av q hn),q]; simp⟩
theorem Un.write (mu:Sj (H x)) (he:e=x\/H e=some (.own x)) (k: ∀b u,b≠e->h.get? b=some u->h'.get? b=some u) (heo: ∃u,h'.get? e=some u):Un fs ex H (upd H x o) h h':=by
 have hx: ∀b,H b=none->b≠x:=λb n z=>by subst z; rw[n] at mu; exact mu
 have hb: ∀b,H b=none->b≠e:=λb n z=>by
  subst z;rcases he with r | r
  .exact hx b n r
  .rw[n] at r; cases r
 have hm: ∀b u,H b=some u-> ¬Sj (some u)->b≠x:=λb u q nm z=>by subst z; rw[q] at mu; exact nm mu
 show⟨λb u q n _ _=>k b u (hb b n) q,λb u q n _ _=>⟨u.slots,k b u (hb b n) q⟩,λb u q n _=>by rw[ah (hx b n)]; exact n,λb u q _=>?_,
  λb xs q=>by rw[ah (hm b _ q λz=>z)]; exact q,λb u xs q=>by rw[ah (hm b _ q λz=>z)]; exact q,λb ps q=>⟨#[],by rw[ah (hm b _ q λz=>z),q]; simp⟩⟩
 by_cases hbe:b=e;.subst hbe; exact heo
 .exact⟨u,k b u hbe q⟩
end
def Su (h:Heap) (H:Hp):List Addr:=(List.range h.objs.size).filter λa=>(H a).isSome
def iT (h:Heap) (H:Hp):Heap:=PySem.W.hideAll h (Su h H)
theorem wt (h:Heap) (H:Hp):(iT h H).objs.size=h.objs.size:=PySem.W.hideAll_size _ _
variable{o:Obj}
theorem yw(e:h.get? b=some o) (n:H b=none):(iT h H).get? b=some o :=
 PySem.W.hideAll_get _ e λhm=>by
  have q:(H b).isSome=true:=(NH.mp hm).2;rw[n] at q; simp at q
theorem zW(e:(iT h H).get? b=some o):h.get? b=some o/\H b=none:=by
 have e':h.get? b=some o:=PySem.W.of_hideAll (Su h H) e;show⟨e',?_⟩;cases q:H b with
 | none=>rfl
 | some x =>
  have hm:b∈Su h H:=NH.mpr ⟨Nh.mpr (Na e'),by simp[q]⟩;have z:(iT h H).get? b=none:=PySem.W.hideAll_none (Su h H) hm;rw[z] at e; cases e
def GA (g h:Heap) (L:Addr):List (Addr×Obj):=(List.range h.objs.size).filterMap λa=>if a=L\/(g.get? a).isSome=true then none else (h.get? a).map λo=>(a,o)
def rest (g h:Heap) (L d:Addr):List (Addr×Obj):=(GA g h L).filter λp=>decide (p.1≠d)
structure Mod (K:QG) (mg:oR) (base:Heap):Prop where
 kin:K.In base
 glob:base.Ns mainGlobals mg
 blt: ∃mb,base.Ns builtinsNs mb/\ ∀x:Str,x≠ "__name__" -> mb x=bootBuiltins x
 nolimit:base.NoLimit
structure Cx where
 prog:Program
 w:World
 K:QG
 mg:Str->Option Value
 base:Heap
 A:Around
 N:List Str
 s₀:Shared
 H₀:Hp
 env:Env
 outer:List Env
 stack:List Env
 ex:List Addr
 fn:Str->Bool
 calm:Bool
 pn:List (Addr×Obj)
 xe:Value->Shared->Prop
def Rq (l:List Env):List Addr:=l.filterMap (·.frame)
abbrev Cx.fs (X:Cx):List Addr:=Rq X.outer
def Sg (sc:Scope) (x:Str):Prop:=sc.names.lookup x=some .local\/sc.names.lookup x=some .cell\/sc.names.lookup x=some .free
def Loc (sc:Scope) (x:Str):Prop:=sc.names.lookup x=some .local\/sc.names.lookup x=some .cell
def Look (env:Env) (h:Heap) (m:oR) (x:Str) (u:Value):Prop :=
 (env.kindOf x=some .local/\m x=some u)\/((env.kindOf x=some .cell\/env.kindOf x=some .free)/\ ∃c,env.cells.lookup x=some c/\h.IsCell c (some u))
structure Cx.Ok (X:Cx):Prop where
 mod:Mod X.K X.mg X.base
 kind:X.env.scope.kind= .function
 glob:X.env.globals=mainGlobals
 blt:X.env.builtins=builtinsNs
 above:X.s₀.heap.objs.size<=X.env.locals
 inj: ∀x y c,X.env.cells.lookup x=some c->X.env.cells.lookup y=some c->x=y
 has: ∀x,(X.env.kindOf x=some .cell\/X.env.kindOf x=some .free)-> ∃c,X.env.cells.lookup x=some c
 cab: ∀x c,X.fn x=true->X.env.cells.lookup x=some c->X.s₀.heap.objs.size<=c
 hd:X.calm=true->X.A.handled=none
 frames:X.A.frames=some X.stack
 stk:X.stack=X.outer\/(X.stack=X.env::X.outer/\X.env.frame=some X.env.locals)
 exf: ∀b∈X.ex,b≠X.env.locals/\ ∀x c,X.env.cells.lookup x=some c->c≠b
 bs: ∀b o,X.base.get? b=some o->X.s₀.heap.get? b=some o/\X.H₀ b=none
 bsz:X.base.objs.size<=X.s₀.heap.objs.size
 noex: ∀b o,X.base.get? b=some o->b∉X.ex
 exfs: ∀b∈X.ex,b∉X.fs
 eO:X.s₀.heap.FunFrames X.base X.outer
 frf: ∀b∈X.fs,X.H₀ b=none
structure Inv (X:Cx) (QE:mK) (O:List (Option V)) (H:Hp) (s:Shared):Prop where
 ok:X.Ok
 os:s.os=X.s₀.os
 bare:AllBare s.gens
 base:Un X.fs X.ex X.H₀ H X.s₀.heap s.heap
 loc: ∃m,s.heap.Ns X.env.locals m/\ ∀(i:Nat) (x:Str) (v:V),X.N[i]?=some x->O[i]?=some (some v)->Sg X.env.scope x-> ∃u,RelV v u/\Look X.env s.heap m x u
 cell: ∀x c,X.env.cells.lookup x=some c-> ∃v,s.heap.IsCell c v
 free:H X.env.locals=none
 freeC: ∀x c,X.env.cells.lookup x=some c->H c=none
 pin: ∀p∈X.pn++QE,s.heap.get? p.1=some p.2/\H p.1=none/\p.1≠X.env.locals/\p.1∉X.fs/\ ∀v,p.2.data≠ .cell v
 hok:QW X.prog X.w H s.heap
 len:O.length=X.N.length
section
variable {X:Cx}{QE:mK}{O:List (Option V)}{H H':Hp}{s:Shared}{h':Heap}
theorem Cx.Ok.Lq (ok:X.Ok){b:Addr}{o:Obj}(e:X.base.get? b=some o):b∉X.fs:=λhb=>by
 have:=(ok.eO.mem hb).1;rw[e] at this; cases this
theorem Inv.bs (I:Inv X QE O H s): ∀b o,X.base.get? b=some o->s.heap.get? b=some o/\H b=none:=λb o e =>
 ⟨I.base.keep b o (I.ok.bs b o e).1 (I.ok.bs b o e).2 (I.ok.Lq e) (I.ok.noex b o e),I.base.free b o (I.ok.bs b o e).1 (I.ok.bs b o e).2 (I.ok.noex b o e)⟩
theorem Inv.bk (I:Inv X QE O H s): ∀b o,X.base.get? b=some o->s.heap.get? b=some o:=λb o e=>(I.bs b o e).1
theorem Inv.mod (I:Inv X QE O H s):Mod X.K X.mg X.base:=I.ok.mod
theorem Inv.Rh (I:Inv X QE O H s):X.K.In s.heap:=I.ok.mod.kin.keeps I.bk
theorem Inv.nolimit (I:Inv X QE O H s):s.heap.NoLimit:=I.ok.mod.nolimit.keeps I.bk
theorem Inv.fr (I:Inv X QE O H s): ∃m,Fr X.base X.env.locals s.heap m :=
 let ⟨m,hn,_⟩:=I.loc
 ⟨m,hn,I.bk,Ng I.ok.bsz I.ok.above⟩
theorem Inv.lt (I:Inv X QE O H s):X.env.locals < s.heap.objs.size:=let ⟨_,hn,_⟩:=I.loc; hn.lt
theorem Inv.sz (I:Inv X QE O H s):X.s₀.heap.objs.size<=s.heap.objs.size:=Ng I.ok.above (Nw I.lt)
theorem Inv.LR (I:Inv X QE O H s){a:Addr}(h:s.heap.objs.size<=a):a∉X.fs:=λhb=>by
 obtain⟨_,o,ho,_⟩:=I.ok.eO.mem hb;exact absurd (NB (Na ho) (Ng I.sz h)) (OC _)
theorem Inv.R1 (I:Inv X QE O H s): ∀x c,X.env.cells.lookup x=some c->c≠X.env.locals:=λx c e z=>by
 obtain⟨v,o,ho,hd⟩:=I.cell x c e;obtain⟨m,⟨o',es,ep,ho',hd',_⟩,_⟩:=I.loc;rw[z,ho'] at ho; cases ho; rw[hd'] at hd; cases hd
theorem Inv.eO (I:Inv X QE O H s):s.heap.FunFrames X.base X.outer:=by
 have all: ∀(l:List Env),(∀b∈Rq l,b∈X.fs)->X.s₀.heap.FunFrames X.base l->s.heap.FunFrames X.base l:=by
  intro l;induction l with
  | nil=>intro _ _; trivial
  | cons env r ih =>
   intro hs hl;obtain⟨hk,⟨L,o,hf,hn,ho,hd⟩,hr⟩:=hl;have hL:L∈X.fs:=hs L (by unfold Rq; rw[Qb,hf]; exact M7);obtain⟨sl,e⟩:=I.base.slot L o ho (I.ok.frf L hL) hL λz=>I.ok.exfs L z hL;exact⟨hk,⟨L,_,hf,hn,e,hd⟩,ih (λb hb=>hs b (by unfold Rq; rw[Qb,hf]; exact M4 _ hb)) hr⟩
 exact all X.outer (λ_ hb=>hb) I.ok.eO
theorem Inv.stack (I:Inv X QE O H s):s.heap.FunFrames X.base X.stack:=by
 rcases I.ok.stk with e | ⟨e,hf⟩
 .rw[e]; exact I.eO
 .rw[e];obtain⟨m,hn,_⟩:=I.loc;show .cons (by rw[I.ok.kind]; decide) hf hn ?_ I.eO;exact PZ (Ng I.ok.bsz I.ok.above)
theorem Inv.ur (I:Inv X QE O H s): ∀b∈Rq X.stack,b∈X.env.locals::X.fs:=λb hb=>by
 rcases I.ok.stk with e | ⟨e,hf⟩
 .rw[e] at hb; exact M4 _ hb
 .rw[e] at hb;unfold Rq at hb;rw[Qb,hf] at hb;exact hb
theorem Inv.r9 (I:Inv X QE O H s): ∀b∈Rq X.stack,H b=none:=λb hb=>by
 rcases M3.mp (I.ur b hb) with e | hb
 .rw[e]; exact I.free
 .obtain⟨_,o,ho,_⟩:=I.ok.eO.mem hb;exact I.base.free b o ho (I.ok.frf b hb) λz=>I.ok.exfs b z hb
theorem Inv.step {g':Array GenState}{t':Nat}{d':Drawn}{ch:List Addr}(I:Inv X QE O H s)
  (hch: ∀b∈ch,(b∈X.ex\/X.s₀.heap.objs.size<=b)/\b≠X.env.locals/\(∀x c,X.env.cells.lookup x=some c->c≠b)/\ ∀p∈X.pn++QE,p.1≠b)
  (keep: ∀b o,b≠X.env.locals->b∉X.fs->b∉ch->s.heap.get? b=some o->H b=none->h'.get? b=some o)
  (slot: ∀b o,b≠X.env.locals->b∈X.fs->b∉ch->s.heap.get? b=some o->H b=none-> ∃sl,h'.get? b=some { o with slots:=sl }) (free: ∀b o,b∉ch->s.heap.get? b=some o->H b=none->H' b=none)
  (there: ∀b o,b∉ch->s.heap.get? b=some o-> ∃o',h'.get? b=some o')
  (tups: ∀b xs,H b=some (.tup xs)->H' b=some (.tup xs)) (frzs: ∀b o u,H b=some (.frz o u)->H' b=some (.frz o u)) (tbls: ∀b ps,H b=some (.tbl ps)-> ∃more,H' b=some (.tbl (ps++more)))
  (ns: ∀m,s.heap.Ns X.env.locals m->h'.Ns X.env.locals m) (hok:QW X.prog X.w H' h') (hg:AllBare g') :
  Inv X QE O H' { s with heap:=h',gens:=g',drawn:=d',toks:=t' }:=by
 have neL: ∀b o,X.s₀.heap.get? b=some o->b≠X.env.locals:=λb o e=>Nt (NB (Na e) I.ok.above);have neC: ∀b o,X.s₀.heap.get? b=some o->b∉X.ex->b∉ch:=λb o e hx hb=>by
  rcases (hch b hb).1 with z | z
  .exact hx z
  .exact absurd (NB (Na e) z) (OC _)
 have cellK: ∀x c,X.env.cells.lookup x=some c-> ∀v,s.heap.IsCell c v->h'.IsCell c v:=λx c e v ⟨o,ho,hd⟩=>by
  have nch:c∉ch:=λz=>(hch c z).2.2.1 x c e rfl;by_cases hc:c∈X.fs
  .obtain⟨sl,q⟩:=slot c o (I.R1 x c e) hc nch ho (I.freeC x c e);exact⟨_,q,hd⟩
  .exact⟨o,keep c o (I.R1 x c e) hc nch ho (I.freeC x c e),hd⟩
 show⟨I.ok,I.os,hg,⟨λb o e n hb hx=>?_,λb o e n hb hx=>?_,λb o e n hx=>?_,λb o e hx=>?_,λb xs e=>tups b xs (I.base.tups b xs e),λb o xs e=>frzs b o xs (I.base.frzs b o xs e),λb ps e=>?_⟩,?_,λx c e=>?_,?_,λx c e=>?_,λp hp=>?_,hok,I.len⟩;.exact keep b o (neL b o e) hb (neC b o e hx) (I.base.keep b o e n hb hx) (I.base.free b o e n hx)
 .obtain⟨sl,e1⟩:=I.base.slot b o e n hb hx;obtain⟨sl',e2⟩:=slot b _ (neL b o e) hb (neC b o e hx) e1 (I.base.free b o e n hx);exact⟨sl',e2⟩
 .obtain⟨o',e1⟩:=I.base.there b o e hx;exact free b o' (neC b o e hx) e1 (I.base.free b o e n hx)
 .obtain⟨o',e1⟩:=I.base.there b o e hx;exact there b o' (neC b o e hx) e1
 .obtain⟨m1,e1⟩:=I.base.tbls b ps e;obtain⟨m2,e2⟩:=tbls b _ e1;exact⟨m1++m2,by rw[e2,Array.append_assoc]⟩
 .obtain⟨m,hn,hl⟩:=I.loc;show⟨m,ns m hn,λi x v e1 e2 e3=>?_⟩;obtain⟨u,r,l⟩:=hl i x v e1 e2 e3;show⟨u,r,?_⟩;rcases l with l | ⟨k,c,e,z⟩
  .exact .inl l
  .exact .inr ⟨k,c,e,cellK x c e _ z⟩
 .obtain⟨v,z⟩:=I.cell x c e;exact⟨v,cellK x c e v z⟩
 .obtain⟨m,⟨o,_,_,ho,_⟩,_⟩:=I.loc;exact free _ o (λz=>(hch _ z).2.1 rfl) ho I.free
 .obtain⟨v,o,ho,hd⟩:=I.cell x c e;exact free c o (λz=>(hch c z).2.2.1 x c e rfl) ho (I.freeC x c e)
 .obtain⟨e,n,ne,nf,d⟩:=I.pin p hp;have nch:p.1∉ch:=λz=>(hch p.1 z).2.2.2 p hp rfl;exact⟨keep p.1 p.2 ne nf nch e n,free p.1 p.2 nch e n,ne,nf,d⟩
theorem Inv.un {t':Nat}(I:Inv X QE O H s) (u:Un X.fs [] H H' s.heap h') (hok:QW X.prog X.w H' h'):Inv X QE O H' { s with heap:=h',toks:=t' }:=by
 obtain⟨m,⟨o,es,ep,ho,r⟩,_⟩:=id I.loc;obtain⟨sl,hL⟩:=u.any ho I.free (by simp);exact I.step (g':=s.gens) (d':=s.drawn) (ch:=[]) (λ_ z=>nomatch z) (λb o _ hb _ e n=>u.keep b o e n hb (by simp)) (λb o _ hb _ e n=>u.slot b o e n hb (by simp)) (λb o _ e n=>u.free b o e n (by simp)) (λb o _ e=>u.there b o e (by simp)) u.tups u.frzs u.tbls (λm' hm=>by
  obtain⟨o',es',ep',ho',r'⟩:=hm;rw[ho] at ho'; cases ho';exact⟨_,es',ep',hL,r'⟩) hok I.bare
theorem Inv.call {g':Array GenState}{t':Nat}{d':Drawn}{ch:List Addr}(I:Inv X QE O H s) (u:Un (Rq X.stack) ch H H' s.heap h') (hok:QW X.prog X.w H' h') (hg:AllBare g')
  (hch: ∀b∈ch,(b∈X.ex\/X.s₀.heap.objs.size<=b)/\b≠X.env.locals/\(∀x c,X.env.cells.lookup x=some c->c≠b)/\ ∀p∈X.pn++QE,p.1≠b) :
  Inv X QE O H' { s with heap:=h',gens:=g',drawn:=d',toks:=t' }:=by
 obtain⟨m,⟨o,es,ep,ho,r⟩,_⟩:=id I.loc;obtain⟨sl,hL⟩:=u.any ho I.free λz=>(hch _ z).2.1 rfl;exact I.step (ch:=ch) hch (λb o hL hb hc e n=>u.keep b o e n (λz=>(M3.mp (I.ur b z)).elim hL hb) hc) (λb o _ _ hc e n=>u.any e n hc) (λb o hc e n=>u.free b o e n hc) (λb o hc e=>u.there b o e hc) u.tups u.frzs u.tbls (λm' hm=>by
  obtain⟨o',es',ep',ho',r'⟩:=hm;rw[ho] at ho'; cases ho';exact⟨_,es',ep',hL,r'⟩) hok hg
theorem Inv.turned {t':Nat}{it:Addr}(I:Inv X QE O H s) (k: ∀b o,b≠it->s.heap.get? b=some o->h'.get? b=some o) (hn:H it=none) (hL:it≠X.env.locals)
  (h1:it∈X.ex\/X.s₀.heap.objs.size<=it) (h2: ∀x c,X.env.cells.lookup x=some c->c≠it) (h3: ∀p∈X.pn++QE,p.1≠it):Inv X QE O H { s with heap:=h',toks:=t' }:=by
 have nit: ∀b u,H b=some u->b≠it:=λb u e z=>by rw[z,hn] at e; cases e
 show I.step (g':=s.gens) (d':=s.drawn) (ch:=[it]) (λb hb=>?_) (λb o _ _ hc e _=>k b o (λz=>hc (by simp[z])) e) (λb o _ _ hc e _=>⟨o.slots,k b o (λz=>hc (by simp[z])) e⟩) (λ_ _ _ _ n=>n)
  (λb o hc e=>⟨o,k b o (λz=>hc (by simp[z])) e⟩) (λ_ _ e=>e) (λ_ _ _ e=>e) (λb ps e=>⟨#[],by rw[e]; simp⟩) (λm hm=>?_) (λb u e=>?_) I.bare
 .have e:b=it:=by simpa using hb
  subst e;exact⟨h1,hL,h2,h3⟩
 .obtain⟨o,es,ep,ho,r⟩:=hm;exact⟨o,es,ep,k _ o (Nu hL) ho,r⟩
 .show (I.hok b u e).jk (λc v hc q=>k c v ?_ q) (λ_ q=>q) λ_ _ q=>q;rcases hc with z | z
  .rw[z]; exact nit b u e
  .exact nit c _ z
theorem Inv.tok (I:Inv X QE O H s) (t:Nat):Inv X QE O H { s with toks:=t }:=I.un (h':=s.heap) (t':=t) Un.refl I.hok
theorem Inv.kept {t':Nat}(I:Inv X QE O H s) (k: ∀b u,s.heap.get? b=some u->h'.get? b=some u):Inv X QE O H { s with heap:=h',toks:=t' }:=I.un (Un.kept k) (I.hok.kept k)
theorem Inv.laid {a:Addr}{o:HO}{t':Nat}(I:Inv X QE O H s) (k: ∀b u,s.heap.get? b=some u->h'.get? b=some u) (hp:s.heap.objs.size<=a) (new:cW X.prog X.w (upd H a o) h' a o) :
  Inv X QE O (upd H a o) { s with heap:=h',toks:=t' }:=I.un (Un.laid k hp (I.hok.fresh hp)) (I.hok.laid k hp new)
theorem Inv.write {x e:Addr}{o:HO}{t':Nat}(I:Inv X QE O H s) (mu:Sj (H x)) (he:e=x\/H e=some (.own x)) (k: ∀b u,b≠e->s.heap.get? b=some u->h'.get? b=some u) (heo: ∃u,h'.get? e=some u)
  (new:cW X.prog X.w (upd H x o) h' x o):Inv X QE O (upd H x o) { s with heap:=h',toks:=t' }:=I.un (Un.write mu he k heo) (I.hok.write mu he k heo new)
theorem Inv.weak {O':List (Option V)}(I:Inv X QE O H s) (hl:O'.length=O.length) (w: ∀(i:Nat) v,O'[i]?=some (some v)->O[i]?=some (some v)):Inv X QE O' H s :=
 ⟨I.ok,I.os,I.bare,I.base,let ⟨m,hn,hl'⟩:=I.loc; ⟨m,hn,λi x v e1 e2 e3=>hl' i x v e1 (w i v e2) e3⟩,I.cell,I.free,I.freeC,I.pin,I.hok,hl.trans I.len⟩
theorem Inv.ke {pins':mK}(I:Inv X QE O H s) (h: ∀p∈pins',s.heap.get? p.1=some p.2/\H p.1=none/\p.1≠X.env.locals/\p.1∉X.fs/\ ∀v,p.2.data≠ .cell v):Inv X pins' O H s :=
 ⟨I.ok,I.os,I.bare,I.base,I.loc,I.cell,I.free,I.freeC,λp hp=>(M8.mp hp).elim (λz=>I.pin p (NO _ z)) (h p),I.hok,I.len⟩
theorem xN {N:List Str}(hN:N.Nodup){i j:Nat}{x:Str}(a:N[i]?=some x) (b:N[j]?=some x):i=j:=by
 obtain⟨h1,e1⟩:=MW.mp a;obtain⟨h2,e2⟩:=MW.mp b;exact (OY hN).mp (e1.trans e2.symm)
variable{E:nE}{Q:Unit->Shared->Prop}
theorem vX {M:Model}{A:Around}{i:Nat}{x:Str}{v:V}{u:Value}(I:Inv X QE O H s) (hN:X.N.Nodup) (hi:X.N[i]?=some x) (hx:Loc X.env.scope x) (r:RelV v u)
  (h: ∀s',Inv X QE (O.set i (some v)) H s'->(∃a,Heap.SameBut a s.heap s'.heap/\(a=X.env.locals\/X.env.cells.lookup x=some a))->Q () s') (hf:X.fn x=true\/X.env.scope.names.lookup x=some .local:=by first | exact .inl rfl | exact .inr rfl | assumption):wpAny M A (storeName X.env x u) Q E s:=by
 obtain⟨m,hn,hl⟩:=id I.loc;have hcls:(X.env.scope.kind == .class || (X.env.scope.kind == .module && X.env.locals !=X.env.globals))=false:=by rw[I.ok.kind]; rfl
 have hiσ:i < O.length:=by rw[I.len]; exact (MW.mp hi).1
 have R1:=I.R1;have tracked: ∀ {a:Addr}{h':Heap},(∃o,s.heap.get? a=some o/\H a=none)->Heap.SameBut a s.heap h'->QW X.prog X.w H h':=λ{a h'} ha hs b ob e=>by
  obtain⟨_,_,hfree⟩:=ha;show (I.hok b ob e).jk (λc w' hc q=>(hs.2 c ?_).trans q) (λ_ q=>q) λ_ _ q=>q;rintro rfl;rcases hc with rfl | hc
  .rw[hfree] at e; cases e
  .rw[hfree] at hc; cases hc
 rcases hx with hk | hk
 .show wpAny_storeName_local hk hn (λh' hn' hs=>?_) hcls;obtain⟨oL,_,_,hoL,_⟩:=id hn;show h _ ⟨I.ok,I.os,I.bare,⟨λb o e n hb hx=>?_,λb o e n hb hx=>?_,I.base.free,λb o e hx=>?_,I.base.tups,I.base.frzs,I.base.tbls⟩,⟨_,hn',λj y v' e1 e2 e3=>?_⟩,λy c e=>?_,I.free,I.freeC,λp hp=>?_,tracked ⟨oL,hoL,I.free⟩ hs,by simpa using I.len⟩ ⟨_,hs,.inl rfl⟩;.exact (hs.2 b (Nt (NB (Na e) I.ok.above))).trans (I.base.keep b o e n hb hx)
  .obtain⟨sl,e1⟩:=I.base.slot b o e n hb hx;exact⟨sl,(hs.2 b (Nt (NB (Na e) I.ok.above))).trans e1⟩
  .obtain⟨o',e1⟩:=I.base.there b o e hx;exact⟨o',(hs.2 b (Nt (NB (Na e) I.ok.above))).trans e1⟩
  .by_cases hj:j=i
   .subst hj;rw[hi] at e1; cases e1;rw[List.getElem?_set_self hiσ] at e2;cases e2;exact⟨u,r,.inl ⟨hk,by simp⟩⟩
   .rw[P4 (Nu hj)] at e2;obtain⟨u',r',q⟩:=hl j y v' e1 e2 e3;show⟨u',r',?_⟩;rcases q with⟨k,e⟩ | ⟨k,c,e,z⟩
    .show .inl ⟨k,?_⟩;have:y≠x:=λe=>hj (xN hN e1 (e▸hi));simp[this,e]
    .exact .inr ⟨k,c,e,z.sameBut hs (R1 y c e)⟩
  .obtain⟨w',z⟩:=I.cell y c e;exact⟨w',z.sameBut hs (R1 y c e)⟩
  .obtain⟨e,n,ne,nf,d⟩:=I.pin p hp;exact⟨(hs.2 p.1 ne).trans e,n,ne,nf,d⟩
 .have hfn:X.fn x=true:=by
   rcases hf with z | z
   .exact z
   .rw[z] at hk; cases hk
  obtain⟨c,hc⟩:=I.ok.has x (.inl hk);obtain⟨w',z⟩:=I.cell x c hc;show wpAny_storeName_cell I.ok.kind hk hc z (λh' hc' hs=>?_);obtain⟨oc,hoc,hocd⟩:=id z;show h { s with heap:=h' } ⟨I.ok,I.os,I.bare,⟨λb o e n hb hx=>?_,λb o e n hb hx=>?_,I.base.free,λb o e hx=>?_,I.base.tups,I.base.frzs,I.base.tbls⟩,⟨m,hn.sameBut hs (Nu (R1 x c hc)),λj y v' e1 e2 e3=>?_⟩,λy c' e=>?_,I.free,I.freeC,λp hp=>?_,tracked ⟨oc,hoc,I.freeC x c hc⟩ hs,by simpa using I.len⟩ ⟨c,hs,.inr hc⟩;.exact (hs.2 b (Nt (NB (Na e) (I.ok.cab x c hfn hc)))).trans (I.base.keep b o e n hb hx)
  .obtain⟨sl,e1⟩:=I.base.slot b o e n hb hx;exact⟨sl,(hs.2 b (Nt (NB (Na e) (I.ok.cab x c hfn hc)))).trans e1⟩
  .obtain⟨o',e1⟩:=I.base.there b o e hx;exact⟨o',(hs.2 b (Nt (NB (Na e) (I.ok.cab x c hfn hc)))).trans e1⟩
  .by_cases hj:j=i
   .subst hj;rw[hi] at e1; cases e1;rw[List.getElem?_set_self hiσ] at e2;cases e2;exact⟨u,r,.inr ⟨.inl hk,c,hc,hc'⟩⟩
   .rw[P4 (Nu hj)] at e2;obtain⟨u',r',q⟩:=hl j y v' e1 e2 e3;show⟨u',r',?_⟩;rcases q with q | ⟨k,c',e,z'⟩
    .exact .inl q
    .show .inr ⟨k,c',e,z'.sameBut hs ?_⟩;rintro rfl;exact hj (xN hN e1 (I.ok.inj _ _ _ e hc▸hi))
  .by_cases hcc:c'=c;.subst hcc; exact⟨_,hc'⟩
   .obtain⟨w2,z2⟩:=I.cell y c' e;exact⟨w2,z2.sameBut hs hcc⟩
  .obtain⟨e,n,ne,nf,d⟩:=I.pin p hp;show⟨(hs.2 p.1 ?_).trans e,n,ne,nf,d⟩;intro q;rw[q,hoc] at e;have q':oc=p.2:=Nc e;exact d w' (by rw[<-q']; exact hocd)
theorem p8 {M:Model}{A:Around}{i:Nat}{x:Str}{v:V}{u:Value}(I:Inv X QE O H s) (hN:X.N.Nodup) (hi:X.N[i]?=some x) (hx:Loc X.env.scope x) (r:RelV v u)
  (h: ∀s',Inv X QE (O.set i (some v)) H s'->Q () s') (hf:X.fn x=true\/X.env.scope.names.lookup x=some .local:=by first | exact .inl rfl | exact .inr rfl | assumption):wpAny M A (storeName X.env x u) Q E s :=
 vX I hN hi hx r (λs' I' _=>h s' I') hf
theorem Inv.AW {s':Shared}{ch:List Addr}(I:Inv X QE O H s) (ho:s'.os=s.os) (u:Un (Rq X.stack) ch H H' s.heap s'.heap) (hok:QW X.prog X.w H' s'.heap) (hg:AllBare s'.gens)
  (hch: ∀b∈ch,(b∈X.ex\/X.s₀.heap.objs.size<=b)/\b≠X.env.locals/\(∀x c,X.env.cells.lookup x=some c->c≠b)/\ ∀p∈X.pn++QE,p.1≠b):Inv X QE O H' s':=by
 obtain⟨h',g',d',t',o'⟩:=s';have e:o'=s.os:=ho;subst e;exact I.call (g':=g') (t':=t') (d':=d') u hok hg hch
end
abbrev XK:=Value->Option Addr->Hp->Prop
abbrev St:=List (Option V)
abbrev VK:=V->Hp->Prop
abbrev TE:=St->Hp->VK->Prop
abbrev TT:=St->Hp->(Bool->Hp->Prop)->Prop
abbrev TA:=St->Hp->(List V->Hp->Prop)->Prop
structure Ends where
 nx:St->Hp->Prop
 rt:VK
 bk:St->Hp->Prop:=λ_ _=>False
 ct:St->Hp->Prop:=λ_ _=>False
abbrev TS:=Ends->St->Hp->Prop
def EP (X:Cx) (QE:mK) (O:St) (Q:VK) (u:Value) (s':Shared):Prop:= ∃v H',Inv X QE O H' s'/\RelV v u/\Q v H'
def TP (X:Cx) (QE:mK) (O:St) (Q:Bool->Hp->Prop) (b:Bool) (s':Shared):Prop:= ∃H',Inv X QE O H' s'/\Q b H'
def AP (X:Cx) (QE:mK) (O:St) (Q:List V->Hp->Prop) (us:List Value) (s':Shared):Prop:= ∃vs H',Inv X QE O H' s'/\Vals vs us/\Q vs H'
def SP (X:Cx) (QE:mK) (D:Ends) (f:Flow) (s':Shared):Prop :=
 match f with
 | .next=> ∃O' H',Inv X QE O' H' s'/\D.nx O' H'
 | .brk=> ∃O' H',Inv X QE O' H' s'/\D.bk O' H'
 | .cont=> ∃O' H',Inv X QE O' H' s'/\D.ct O' H'
 | .ret u=> ∃v O' H',Inv X QE O' H' s'/\RelV v u/\D.rt v H'
def PE (X:Cx) (e:Expr) (t:TE):Prop :=
 ∀(QE:mK) (s:Shared) (O:St) (H:Hp) (Q:VK),Inv X QE O H s->t O H Q->wpAny (model X.prog X.w) X.A (eval e X.env) (EP X QE O Q) X.xe s
def PT (X:Cx) (e:Expr) (t:TT):Prop :=
 ∀(QE:mK) (s:Shared) (O:St) (H:Hp) (Q:Bool->Hp->Prop),Inv X QE O H s->t O H Q->wpAny (model X.prog X.w) X.A (isTrue e X.env (eval e X.env)) (TP X QE O Q) X.xe s
def PW (X:Cx) (e:Expr) (t:TT):Prop :=
 ∀(whole:Sem Value) (QE:mK) (s:Shared) (O:St) (H:Hp) (Q:Bool->Hp->Prop),Inv X QE O H s->t O H Q->wpAny (model X.prog X.w) X.A (isTrue e X.env whole) (TP X QE O Q) X.xe s
variable{X:Cx}
theorem PW.pt {e:Expr}{t:TT}(h:PW X e t):PT X e t:=h _
def PA (X:Cx) (es:List Expr) (t:TA):Prop :=
 ∀(pos:Pos) (QE:mK) (s:Shared) (O:St) (H:Hp) (Q:List V->Hp->Prop),Inv X QE O H s->t O H Q->wpAny (model X.prog X.w) X.A (spliced (backTo pos (starEach es X.env))) (AP X QE O Q) X.xe s
def PS (X:Cx) (st:Stmt) (t:TS):Prop :=
 ∀(QE:mK) (s:Shared) (O:St) (H:Hp) (D:Ends),Inv X QE O H s->t D O H->wpAny (model X.prog X.w) X.A (exec st X.env) (SP X QE D) X.xe s
def Q0 (X:Cx) (st:List Stmt) (t:TS):Prop :=
 ∀(QE:mK) (s:Shared) (O:St) (H:Hp) (D:Ends),Inv X QE O H s->t D O H->wpAny (model X.prog X.w) X.A (execs st X.env) (SP X QE D) X.xe s
variable{A:Around}{E:nE}{s:Shared}
theorem QL {α:Type}{t:Sem α}{Q Q':α->Shared->Prop}{M:Model}(h:wpAny M A t Q E s) (hQ: ∀a s,Q a s->Q' a s):wpAny M A t Q' E s:=NU h hQ λ_ _ x=>x
section
variable {X:Cx}
theorem bin {a b:Expr}{ta tb:TE}(ha:PE X a ta) (hb:PE X b tb){QE:mK}{s:Shared}{O:St}{H:Hp}{R:V->V->Hp->Prop}(I:Inv X QE O H s) (h:ta O H λx H1=>tb O H1 λy H2=>R x y H2)
  {α:Type}{Q:α->Shared->Prop}{f:Value->Value->Sem α}
  (hf: ∀v u s2 x y H2,Inv X QE O H2 s2->RelV x v->RelV y u->R x y H2->wpAny (model X.prog X.w) X.A (f v u) Q X.xe s2) :
  wpAny (model X.prog X.w) X.A (eval a X.env) (λv s₁=>wpAny (model X.prog X.w) X.A (eval b X.env) (λu s₂=>wpAny (model X.prog X.w) X.A (f v u) Q X.xe s₂) X.xe s₁) X.xe s:=by
 show QL (ha QE s O H _ I h) λv s1 ⟨x,H1,I1,r1,q1⟩=>?_;show QL (hb QE s1 O H1 _ I1 q1) λu s2 ⟨y,H2,I2,r2,q2⟩=>?_;exact hf v u s2 x y H2 I2 r1 r2 q2
inductive K9 (i:Nat) (O:St) (H:Hp) (Q:VK):Prop | mk (v:_) (e0:O[i]?=some (some v)) (q:Q v H)
def pO (i:Nat):TE:=λO H Q=>K9 i O H Q
def tC (v:V):TE:=λ_ H Q=>Q v H
theorem Je {i:Nat}{x:Str}{pos:Pos}(hN:X.N[i]?=some x) (hv:Sg X.env.scope x) (hd:(x == ("__debug__" : Str))=false:=by decide) (hcd:(x == ("__classdict__" : Str))=false:=by decide):PE X (.Name x pos) (pO i):=by
 intro QE s O H Q I h;obtain⟨v,e,h⟩:=h;obtain⟨m,hn,hl⟩:=I.loc;obtain⟨u,r,l⟩:=hl i x v hN e hv;have fin:EP X QE O Q u s:=⟨v,H,I,r,h⟩
 rcases l with⟨hk,hm⟩ | ⟨hk,c,hc,hcell⟩
 .exact wpAny_Name (wpAny_loadName_local I.ok.kind hk hn hm fin) hd
 .rcases hk with hk | hk
  .exact wpAny_Name (wpAny_loadName_cell I.ok.kind hk hc hcell fin) hd
  .exact wpAny_Name (wpAny_loadName_free I.ok.kind hk hc hcell fin hcd) hd
theorem af {i j pos}:PE X (.Constant (.int i) j pos) (tC (.int i)):=λ_ _ _ H _ I h=>wpAny_Constant_int ⟨.int i,H,I.tok _,⟨_,Z⟩,h⟩
theorem eY {b j pos}:PE X (.Constant (.bool b) j pos) (tC (.bl b)):=λ_ _ _ H _ I h=>Constant_bool ⟨.bl b,H,I,Z,h⟩
theorem bK {j pos}:PE X (.Constant .none j pos) (tC .non):=λ_ _ _ H _ I h=>Constant_none ⟨.non,H,I,Z,h⟩
theorem bS {x j pos}:PE X (.Constant (.str x) j pos) (tC (.str x)):=λ_ _ _ H _ I h=>Calls.Constant_str ⟨.str x,H,I.tok _,⟨_,Z⟩,h⟩
def Gl (X:Cx) (x:Str):Prop:=X.env.kindOf x=some .globalImplicit
variable{QE:mK}{u:Value}{Q:nE}
theorem mq {E:nE}{s:Shared}{O:St}{H:Hp}{x:Str}{pos:Pos}(I:Inv X QE O H s) (hg:Gl X x) (hm:X.mg x=some u) (h:Q u s)
  (hd:(x == ("__debug__" : Str))=false:=by decide):wpAny (model X.prog X.w) X.A (eval (.Name x pos) X.env) Q E s :=
 Calls.Name_function_global I.ok.kind hg (Calls.loadGlobal_global (by rw[I.ok.glob]; exact I.mod.glob.keeps I.bk) hm h) hd
theorem kU {E:nE}{s:Shared}{O:St}{H:Hp}{x:Str}{pos:Pos}(I:Inv X QE O H s) (hg:Gl X x) (hm:X.mg x=none) (hv:bootBuiltins x=some u) (h:Q u s)
  (hn:x≠ "__name__" := by decide) (hd:(x == ("__debug__" : Str))=false:=by decide):wpAny (model X.prog X.w) X.A (eval (.Name x pos) X.env) Q E s:=by
 obtain⟨mb,h1,h2⟩:=I.mod.blt;exact Calls.Name_function_global I.ok.kind hg (Calls.loadGlobal_builtin (by rw[I.ok.glob]; exact I.mod.glob.keeps I.bk) hm (by rw[I.ok.blt]; exact h1.keeps I.bk) ((h2 x hn).trans hv) h) hd
theorem Ao {x:Str}{v:V}{pos:Pos}(hg:Gl X x) (hm:X.mg x=some u) (r:RelV v u) (hd:(x == ("__debug__" : Str))=false:=by decide):PE X (.Name x pos) (tC v) :=
 λ_ _ _ H _ I h=>mq I hg hm ⟨v,H,I,r,h⟩ hd
theorem mh {x:Str}{v:V}{pos:Pos}(hg:Gl X x) (hm:X.mg x=none) (hv:bootBuiltins x=some u) (r:RelV v u) (hn:x≠ "__name__" := by decide) (hd:(x == ("__debug__" : Str))=false:=by decide):PE X (.Name x pos) (tC v) :=
 λ_ _ _ H _ I h=>kU I hg hm hv ⟨v,H,I,r,h⟩ hn hd
inductive Ls (k:Int->Int->Hp->Prop) (x y:V) (H2:Hp):Prop | mk (i j:_) (e0:x= .int i) (e1:y= .int j) (q:k i j H2)
def Tc (ta tb:TE) (k:Int->Int->Hp->Prop):St->Hp->Prop:=λO H=>ta O H λx H1=>tb O H1 λy H2=>Ls k x y H2
variable {a b:Expr}{ta tb:TE}{pos:Pos}
def PC (X:Cx) (op:CmpOp) (a b:Expr) (t:TE):Prop :=
 ∀(QE:mK) (s:Shared) (O:St) (H:Hp) (Q:VK),Inv X QE O H s->t O H Q ->
  wpAny (model X.prog X.w) X.A (eval a X.env) (λv s₁=>wpAny (model X.prog X.w) X.A (eval b X.env) (λu s₂=>wpAny (model X.prog X.w) X.A (compareOp op v u) (EP X QE O Q) X.xe s₂) X.xe s₁) X.xe s
theorem ET (b:Expr){op:CmpOp}(h:op≠ .In) (h2:op≠ .NotIn):behindInMarks op b=false:=by
 have e1:(op == CmpOp.In)=false:=by cases op <;> first | rfl | exact absurd rfl h
 have e2:(op == CmpOp.NotIn)=false:=by cases op <;> first | rfl | exact absurd rfl h2
 cases b <;> simp[behindInMarks,e1,e2]
def uZ (p:Int->Int->Bool) (ta tb:TE):TE:=λO H Q=>Tc ta tb (λi j H2=>Q (.bl (p i j)) H2) O H
abbrev Tu:TE->TE->TE:=uZ λi j=>decide (i < j)
abbrev Ts:TE->TE->TE:=uZ λi j=>decide (i<=j)
abbrev Tt:TE->TE->TE:=uZ λi j=>decide (j < i)
abbrev Tq:TE->TE->TE:=uZ λi j=>decide (j<=i)
abbrev MN:TE->TE->TE:=uZ λi j=>decide (i=j)
abbrev MM:TE->TE->TE:=uZ λi j=> !decide (i=j)
inductive S9 (Q:Bool->Hp->Prop) (x:V) (H1:Hp):Prop | mk (c:_) (e0:x= .bl c) (q:Q c H1)
def tB (t:TE):TT:=λO H Q=>t O H λx H1=>S9 Q x H1
theorem qF {op:CmpOp}{t:TE}(h:PC X op a b t) (h1:behindInMarks op b=false:=by first | exact ET _ aS aS | rfl):PT X (.Compare a [op] [b] pos) (tB t):=by
 intro QE s O H Q I hw;show wpAny_isTrue_Compare1 (QL (h QE s O H _ I hw) λv s1 h1=>QL h1 λu s2 h2=>QL h2 λc s3 ⟨x,H1,I1,r1,q1⟩=>?_) h1;obtain⟨d,rfl,q⟩:=q1;cases r1;exact N9 ⟨H1,I1,q⟩
variable {tA tB':TT}{rest:List Expr}
def Lp (t u:TT):TT:=λO H Q=>t O H λc H1=>if c=true then u O H1 Q else Q false H1
def S5 (t u:TT):TT:=λO H Q=>t O H λc H1=>if c=true then Q true H1 else u O H1 Q
def Ln (t:TT):TT:=λO H Q=>t O H λc H1=>Q (!c) H1
theorem dj (ha:PT X a tA):PW X (.BoolOp .And [a] pos) tA:=by
 intro wh QE s O H Q I h;show isTrue_and (QL (ha QE s O H Q I h) λc s1 e=>?_);cases c with
 | true=>exact isTrue_and_nil e
 | false=>exact e
theorem f9 (ha:PT X a tA):PW X (.BoolOp .Or [a] pos) tA:=by
 intro wh QE s O H Q I h;show isTrue_or (QL (ha QE s O H Q I h) λc s1 e=>?_);cases c with
 | false=>exact isTrue_or_nil e
 | true=>exact e
theorem dy (ha:PT X a tA) (hb:PW X (.BoolOp .And (b::rest) pos) tB'):PW X (.BoolOp .And (a::b::rest) pos) (Lp tA tB'):=by
 intro wh QE s O H Q I h;show isTrue_and (QL (ha QE s O H _ I h) λc s1 ⟨H1,I1,q1⟩=>?_);cases c with
 | true=>exact hb wh QE s1 O H1 Q I1 q1
 | false=>exact⟨H1,I1,q1⟩
theorem g8 (ha:PT X a tA) (hb:PW X (.BoolOp .Or (b::rest) pos) tB'):PW X (.BoolOp .Or (a::b::rest) pos) (S5 tA tB'):=by
 intro wh QE s O H Q I h;show isTrue_or (QL (ha QE s O H _ I h) λc s1 ⟨H1,I1,q1⟩=>?_);cases c with
 | true=>exact⟨H1,I1,q1⟩
 | false=>exact hb wh QE s1 O H1 Q I1 q1
theorem fg (ha:PT X a tA):PT X (.UnaryOp .Not a pos) (Ln tA):=by
 intro QE s O H Q I h;exact isTrue_not (ha QE s O H (λc H1=>Q (!c) H1) I h)
inductive JG (tb:TE) (O:St) (Q:VK) (x:V) (H1:Hp):Prop | mk (c:_) (e0:x= .bl c) (q:if c=true then tb O H1 Q else Q (.bl false) H1)
def K2 (ta tb:TE):TE:=λO H Q=>ta O H λx H1=>JG tb O Q x H1
inductive K6 (tb:TE) (O:St) (Q:VK) (x:V) (H1:Hp):Prop | mk (c:_) (e0:x= .bl c) (q:if c=true then Q (.bl true) H1 else tb O H1 Q)
def L3 (ta tb:TE):TE:=λO H Q=>ta O H λx H1=>K6 tb O Q x H1
inductive Ia (Q:VK) (x:V) (H1:Hp):Prop | mk (c:_) (e0:x= .bl c) (q:Q (.bl (!c)) H1)
def Kp (ta:TE):TE:=λO H Q=>ta O H λx H1=>Ia Q x H1
theorem lh {op}{t:TE}(h:PE X a t):PE X (.BoolOp op [a] pos) t:=λQE s O H Q I hw=>BoolOp_one (h QE s O H Q I hw)
theorem kZ (ha:PE X a ta) (hb:PE X (.BoolOp .And (b::rest) pos) tb):PE X (.BoolOp .And (a::b::rest) pos) (K2 ta tb):=by
 intro QE s O H Q I h;show BoolOp_and (QL (ha QE s O H _ I h) λv s1 ⟨x,H1,I1,r1,q1⟩=>?_);obtain⟨c,rfl,q1⟩:=q1;cases r1;show N9 ?_;cases c with
 | true=>exact hb QE s1 O H1 Q I1 q1
 | false=>exact⟨.bl false,H1,I1,Z,q1⟩
theorem K3 (ha:PE X a ta) (hb:PE X (.BoolOp .Or (b::rest) pos) tb):PE X (.BoolOp .Or (a::b::rest) pos) (L3 ta tb):=by
 intro QE s O H Q I h;show BoolOp_or (QL (ha QE s O H _ I h) λv s1 ⟨x,H1,I1,r1,q1⟩=>?_);obtain⟨c,rfl,q1⟩:=q1;cases r1;show N9 ?_;cases c with
 | false=>exact hb QE s1 O H1 Q I1 q1
 | true=>exact⟨.bl true,H1,I1,Z,q1⟩
theorem Ir (ha:PE X a ta):PE X (.UnaryOp .Not a pos) (Kp ta):=by
 intro QE s O H Q I h;show UnaryOp_ (QL (ha QE s O H _ I h) λv s1 ⟨x,H1,I1,r1,q1⟩=>?_);obtain⟨c,rfl,q1⟩:=q1;cases r1;exact not_of (N9 ⟨.bl (!c),H1,I1,Z,q1⟩)
def S4 (t:TT) (ta tb:TE):TE:=λO H Q=>t O H λc H1=>if c=true then ta O H1 Q else tb O H1 Q
theorem x9 {c:Expr}(hc:PT X c tA) (ha:PE X a ta) (hb:PE X b tb):PE X (.IfExp c a b pos) (S4 tA ta tb):=by
 intro QE s O H Q I h;show wpAny_IfExp (QL (hc QE s O H _ I h) λd s1 ⟨H1,I1,q1⟩=>?_);cases d with
 | true=>exact ha QE s1 O H1 Q I1 q1
 | false=>exact hb QE s1 O H1 Q I1 q1
end
def QF (K:QG) (H:Hp) (a:Addr) (xs:List V):Prop :=
 Rd H a (.lst xs) \/
  ∃(o:Obj) (its:Array Value) (n:Nat),K.lookup a=some o/\o.cls= .type "list" /\ o.dict=none/\o.data= .seq its n/\its.size<=sizeLine/\Vals xs its.toList
def QK (K:QG) (H:Hp) (a:Addr) (xs:List V):Prop :=
 Rd H a (.tup xs) \/
  ∃(o:Obj) (its:Array Value) (n:Nat),K.lookup a=some o/\o.cls= .type "tuple" /\ o.data= .seq its n/\its.size<=sizeLine/\Vals xs its.toList
def Lz:Value->Option V
 | .none=>some .non
 | .bool b=>some (.bl b)
 | .int i _=>some (.int i)
 | .str x _=>some (.str x)
 | .bytes b _=>some (.byt b)
 | .float b _=>some (.flt b)
 | .ref a=>some (.ref a)
 | .type n=>some (.ty n)
 | _=>none
theorem RelV.abs {x:V}(r:RelV x u):Lz u=some x:=by
 cases x with
 | non=>cases r; rfl
 | bl _=>cases r; rfl
 | int _=>obtain⟨t,rfl⟩:=r; rfl
 | str _=>obtain⟨t,rfl⟩:=r; rfl
 | byt _=>obtain⟨t,rfl⟩:=r; rfl
 | flt _=>obtain⟨t,rfl⟩:=r; rfl
 | ref _=>cases r; rfl
 | ty _=>cases r; rfl
theorem RelV.inj {x y:V}(r:RelV x u) (q:RelV y u):x=y:=Nc (r.abs.symm.trans q.abs)
theorem Vals.inj: ∀ {xs ys:List V}{us:List Value},Vals xs us->Vals ys us->xs=ys
 | _,_,_,.nil,.nil=>rfl
 | _,_,_,.cons r t,.cons r' t'=>by rw[r.inj r',Vals.inj t t']
section
variable {X:Cx}{QE:mK}{O:St}{H:Hp}{s:Shared}{a:Addr}{xs ys:List V}
theorem QF.of {K:QG}(h:H a=some (.lst xs)):QF K H a xs:= .inl (.inl h)
theorem QK.of {K:QG}(h:H a=some (.tup xs)):QK K H a xs:= .inl (.inl h)
theorem Inv.list (I:Inv X QE O H s) (h:QF X.K H a xs): ∃its:List Value,Vals xs its/\PlainL s.heap a its.toArray/\xs.length<=sizeLine:=by
 rcases h with h | ⟨o,its,n,hk,hc,hd,hs,hz,r⟩
 .obtain⟨z,its,n,r,e⟩:=h.ok I.hok;exact⟨its,r,⟨_,n,e,Z,Z,Z⟩,z⟩
 .show⟨its.toList,r,⟨o,n,I.Rh a o hk,hc,hd,by simpa using hs⟩,?_⟩;have e:=r.length;simp only[Oi] at e;lia
theorem Inv.tuple (I:Inv X QE O H s) (h:QK X.K H a xs): ∃its:List Value,Vals xs its/\IsTup s.heap a its.toArray/\xs.length<=sizeLine:=by
 rcases h with h | ⟨o,its,n,hk,hc,hs,hz,r⟩
 .obtain⟨z,its,r,p⟩:=h.ok I.hok;exact⟨its,r,p,z⟩
 .show⟨its.toList,r,⟨o,I.Rh a o hk,hc,n,by simpa using hs⟩,?_⟩;have e:=r.length;simp only[Oi] at e;lia
theorem Inv.pC (I:Inv X QE O H s) (h:QF X.K H a xs) (h':QF X.K H a ys):xs=ys:=by
 obtain⟨its,r,⟨o,n,e,_,_,d⟩,_⟩:=I.list h;obtain⟨its',r',⟨o',n',e',_,_,d'⟩,_⟩:=I.list h';rw[e] at e'; cases e';rw[d] at d';injection d' with d1 _
 have:its=its':=by simpa using NJ Array.toList d1
 subst this;exact r.inj r'
end
abbrev Cx.ow (X:Cx) (E:nE):Cx:={ X with xe:=E }
abbrev Cx.RM (X:Cx):Cx:=X.ow λ_ _=>False
theorem Cx.Ok.ow(ok:X.Ok) (E:nE):(X.ow E).Ok :=
 ⟨ok.mod,ok.kind,ok.glob,ok.blt,ok.above,ok.inj,ok.has,ok.cab,ok.hd,ok.frames,ok.stk,ok.exf,ok.bs,ok.bsz,ok.noex,ok.exfs,ok.eO,ok.frf⟩
theorem Cx.Ok.kN(ok:(X.ow E).Ok):X.Ok :=
 ⟨ok.mod,ok.kind,ok.glob,ok.blt,ok.above,ok.inj,ok.has,ok.cab,ok.hd,ok.frames,ok.stk,ok.exf,ok.bs,ok.bsz,ok.noex,ok.exfs,ok.eO,ok.frf⟩
section
variable {X:Cx}{QE:mK}{O:St}{H:Hp}{s:Shared}{E:nE}
theorem Inv.ow (I:Inv X QE O H s) (E:nE):Inv (X.ow E) QE O H s:=⟨I.ok.ow E,I.os,I.bare,I.base,I.loc,I.cell,I.free,I.freeC,I.pin,I.hok,I.len⟩
theorem Inv.kN (I:Inv (X.ow E) QE O H s):Inv X QE O H s:=⟨I.ok.kN,I.os,I.bare,I.base,I.loc,I.cell,I.free,I.freeC,I.pin,I.hok,I.len⟩
theorem SP.kN {D:Ends}{f:Flow}{s':Shared}(h:SP (X.ow E) QE D f s'):SP X QE D f s':=by
 cases f with
 | next=>obtain⟨O',H',I,q⟩:=h; exact⟨O',H',I.kN,q⟩
 | brk=>obtain⟨O',H',I,q⟩:=h; exact⟨O',H',I.kN,q⟩
 | cont=>obtain⟨O',H',I,q⟩:=h; exact⟨O',H',I.kN,q⟩
 | ret u=>obtain⟨v,O',H',I,r,q⟩:=h; exact⟨v,O',H',I.kN,r,q⟩
theorem Q0.RM {st:List Stmt}{t:TS}(h:Q0 X.RM st t):Q0 X st t:=λQE s O H D I hw =>
 NU (h QE s O H D (I.ow _) hw) (λ_ _ q=>q.kN) λ_ _ z=>False.elim z
end
section
variable {X:Cx}{st:Stmt}{rest:List Stmt}{t u:TS}{e:Expr}{te:TE}{pos:Pos}
def Gj:TS:=λD O H=>D.nx O H
def FA (t u:TS):TS:=λD O H=>t { D with nx:=u D } O H
theorem aF:Q0 X [] Gj:=λ_ _ O H _ I h=>P8 ⟨O,H,I,h⟩
theorem ae (h1:PS X st t) (h2:Q0 X rest u):Q0 X (st::rest) (FA t u):=by
 intro QE s O H D I h;show wpAny_execs_cons (QL (h1 QE s O H { D with nx:=u D } I h) λf s1 q=>?_);cases f with
 | next =>
  obtain⟨O',H',I',q⟩:=q;exact h2 QE s1 O' H' D I' q
 | ret v=>exact q
 | brk=>exact q
 | cont=>exact q
theorem ai (h1:PS X st t):Q0 X [st] t:=by
 intro QE s O H D I h;show wpAny_execs_cons (QL (h1 QE s O H D I h) λf s1 q=>?_);cases f with
 | next=>exact P8 q
 | ret v=>exact q
 | brk=>exact q
 | cont=>exact q
def K7:TS:=λD O H=>D.ct O H
theorem zx:PS X (.Continue pos) K7:=λ_ _ O H _ I h=>wpAny_Continue ⟨O,H,I,h⟩
theorem Inv.quiet {QE:mK}{O:St}{H:Hp}{s:Shared}(I:Inv X QE O H s):interactive X.env=false:=by simp[interactive,I.ok.kind]
def xh (te:TE):TS:=λD O H=>te O H λ_ H1=>D.nx O H1
theorem aI (he:PE X e te) (hs:swapsWith e none pos.line X.env=pure false:=by rfl):PS X (.Expr e pos) (xh te):=by
 intro QE s O H D I h;exact wpAny_Expr_any (QL (he QE s O H _ I h) λv s1 ⟨x,H1,I1,r1,q1⟩=>⟨O,H1,I1,q1⟩) I.quiet hs
def JX (te:TE):TS:=λD O H=>te O H D.rt
theorem az (he:PE X e te):PS X (.Return (some e) pos) (JX te):=by
 intro QE s O H D I h;exact wpAny_Return_some (QL (he QE s O H _ I h) λv s1 ⟨x,H1,I1,r1,q1⟩=>⟨x,O,H1,I1,r1,q1⟩)
def Jl (c:TT) (t u:TS):TS:=λD O H=>c O H λb H1=>if b=true then t D O H1 else u D O H1
theorem aN {c:Expr}{a b:List Stmt}{tc:TT}(hc:PT X c tc) (ha:Q0 X a t) (hb:Q0 X b u):PS X (.If c a b pos) (Jl tc t u):=by
 intro QE s O H D I h;show wpAny_If (QL (hc QE s O H _ I h) λd s1 ⟨H1,I1,q1⟩=>?_);cases d with
 | true=>exact ha QE s1 O H1 D I1 q1
 | false=>exact hb QE s1 O H1 D I1 q1
end
abbrev TG:=V->St->Hp->(St->Hp->Prop)->Prop
abbrev RB:=List V->St->Hp->(St->Hp->Prop)->Prop
def PG (X:Cx) (target:Expr) (t:TG):Prop :=
 ∀(QE:mK) (s:Shared) (O:St) (H:Hp) (v:V) (u:Value) (Q:St->Hp->Prop),Inv X QE O H s->RelV v u->t v O H Q ->
  wpAny (model X.prog X.w) X.A (assign target X.env u) (λ_ s'=> ∃O' H',Inv X QE O' H' s'/\Q O' H') X.xe s
def Sq (X:Cx) (ts:List Expr) (t:RB):Prop :=
 ∀(QE:mK) (s:Shared) (O:St) (H:Hp) (vs:List V) (us:List Value) (Q:St->Hp->Prop),Inv X QE O H s->Vals vs us->t vs O H Q ->
  wpAny (model X.prog X.w) X.A (assignInOrder ((assignEach ts X.env).map (·.2)) us) (λ_ s'=> ∃O' H',Inv X QE O' H' s'/\Q O' H') X.xe s
abbrev Fj:=V->V->V->Hp->(Hp->Prop)->Prop
def J2 (X:Cx) (t:Fj):Prop :=
 ∀(QE:mK) (s:Shared) (O:St) (H:Hp) (o i v:V) (ov iv u:Value) (Q:Hp->Prop),Inv X QE O H s->RelV o ov->RelV i iv->RelV v u->t o i v H Q ->
  wpAny (model X.prog X.w) X.A (setItem ov iv u) (λ_ s'=> ∃H',Inv X QE O H' s'/\Q H') X.xe s
abbrev Tg:=V->V->Hp->VK->Prop
section
variable {X:Cx}{pos:Pos}
def aM (i:Nat):TG:=λv O H Q=>Q (O.set i (some v)) H
theorem HF {i:Nat}{x:Str}(hN:X.N.Nodup) (hi:X.N[i]?=some x) (hx:Loc X.env.scope x) (hf:X.fn x=true\/X.env.scope.names.lookup x=some .local:=by first | exact .inl rfl | exact .inr rfl | assumption):PG X (.Name x pos) (aM i):=by
 intro QE s O H v u Q I r h;exact wpAny_assign_Name (p8 I hN hi hx r (λs' I'=>⟨_,H,I',h⟩) hf)
def Fs:RB:=λvs O H Q=>vs=[]/\Q O H
inductive JN (t:TG) (u:RB) (vs:List V) (O:St) (H:Hp) (Q:St->Hp->Prop):Prop | mk (v r:_) (e0:vs=v::r) (q:t v O H λO' H'=>u r O' H' Q)
def BG (t:TG) (u:RB):RB:=λvs O H Q=>JN t u vs O H Q
theorem cT:Sq X [] Fs:=by
 intro QE s O H vs us Q I r h;obtain⟨e,h⟩:=h;subst e;cases r;exact assignInOrder_nil ⟨O,H,I,h⟩
variable{e:Expr}{es:List Expr}
theorem aJ {t:TG}{u:RB}(h1:PG X e t) (h2:Sq X es u)
  (hs:(assignEach (e::es) X.env).map (·.2)=assign e X.env::(assignEach es X.env).map (·.2):=by rfl):Sq X (e::es) (BG t u):=by
 intro QE s O H vs us Q I r h;obtain⟨v,vr,e1,h⟩:=h;subst e1;cases r with
 | cons r rr =>
  rw[hs];show assignInOrder_cons (QL (h1 QE s O H _ _ _ I r h) λ_ s1 ⟨O1,H1,I1,q1⟩=>?_);exact h2 QE s1 O1 H1 _ _ Q I1 rr q1
inductive KQ (K:QG) (n:Nat) (t:RB) (v:V) (O:St) (H:Hp) (Q:St->Hp->Prop):Prop | mk (a xs:_) (e0:v= .ref a) (e1:QK K H a xs) (e2:xs.length=n) (q:t xs O H Q)
def vJ (K:QG) (n:Nat) (t:RB):TG:=λv O H Q=>KQ K n t v O H Q
theorem dM {k:Nat}{t:RB}{n:Nat}(hc:X.calm=true) (h:Sq X es t)
  (hn:(assignEach es X.env).length=n:=by rfl) (hst:(assignEach es X.env).findIdx? (·.1)=none:=by rfl):PG X (.Tuple es k pos) (vJ X.K n t):=by
 intro QE s O H v u Q I r hw;obtain⟨a,xs,e1,hq,hl,hw⟩:=hw;subst e1;cases r;obtain⟨its,rv,ht,hz⟩:=I.tuple hq;show assign_Tuple_tuple (I.ok.hd hc) ht (by simp[hn,<-hl,rv.length]) hst λh' hx=>?_;have I1:Inv X QE O H { s with heap:=h' }:=I.kept (t':=s.toks) λb o e=>hx b o (Nt (Na e)) e;exact h QE _ O H xs _ Q I1 (by simpa using rv) hw
def L8 (to ti:TE) (t:Fj):TG:=λv O H Q=>to O H λo H1=>ti O H1 λi H2=>t o i v H2 λH3=>Q O H3
theorem iu {o i:Expr}{to ti:TE}{t:Fj}(ho:PE X o to) (hi:PE X i ti) (hs:J2 X t)
  (ha: ∀v,assign (.Subscript o i pos) X.env v=(do
   let ov <-holding [v] (eval o X.env)
   let iv <-holding [v,ov] (eval i X.env)
   standAt pos
   holding [v,ov,iv] (setItem ov iv v)
   release [v,ov,iv] []):=by intro _; rfl):PG X (.Subscript o i pos) (L8 to ti t):=by
 intro QE s O H v u Q I r h;rw[ha];show MY (Om (QL (ho QE s O H _ I h) λov s1 ⟨x,H1,I1,r1,q1⟩=>?_));show MY (Om (QL (hi QE s1 O H1 _ I1 q1) λiv s2 ⟨y,H2,I2,r2,q2⟩=>?_));show MY (OD (MY (Om (QL (hs QE s2 O H2 x y v ov iv u _ I2 r1 r2 r q2) λ_ s3 ⟨H3,I3,q3⟩=>?_))));exact wpAny_release ⟨O,H3,I3,q3⟩
def uX (te:TE) (g:TG):TS:=λD O H=>te O H λx H1=>g x O H1 D.nx
theorem dY {tg:Expr}{te:TE}{g:TG}(he:PE X e te) (hg:PG X tg g) (hs:swapsWithSole [tg] e pos.line X.env=pure false:=by rfl) (hw:swappedStores [tg] e X.env=pure none:=by rfl)
  (h1:(assignEach [tg] X.env).map (·.2)=[assign tg X.env]:=by rfl):PS X (.Assign [tg] e pos) (uX te g):=by
 intro QE s O H D I h;show wpAny_Assign_stores (QL (he QE s O H _ I h) λv s1 ⟨x,H1,I1,r1,q1⟩=>?_) hs hw;rw[h1];exact QL (hg QE s1 O H1 x v _ I1 r1 q1) λ_ s2 q=>q
theorem JF {i:Nat}{x:Str}{te:TE}{pos':Pos}(hN:X.N.Nodup) (hi:X.N[i]?=some x) (hx:Loc X.env.scope x) (he:PE X e te) (hs:swapsWith e (some (.Name x pos')) pos.line X.env=pure false:=by rfl) (hf:X.fn x=true\/X.env.scope.names.lookup x=some .local:=by first | exact .inl rfl | exact .inr rfl | assumption) :
  PS X (.Assign [.Name x pos'] e pos) (uX te (aM i)):=by
 intro QE s O H D I h;show wpAny_Assign_Name (QL (he QE s O H _ I h) λv s1 ⟨y,H1,I1,r1,q1⟩=>?_) hs;exact p8 I1 hN hi hx r1 (λs2 I2=>⟨_,H1,I2,q1⟩) hf
inductive Lh (i j:Nat) (D:Ends) (O:St) (vs:List V) (H1:Hp):Prop | mk (v w:_) (e0:vs=[v,w]) (q:D.nx ((O.set i (some v)).set j (some w)) H1)
def LC (i j:Nat) (ta:TA):TS:=λD O H=>ta O H λvs H1=>Lh i j D O vs H1
theorem JR {i j:Nat}{x y:Str}{a b:Expr}{ta:TA}{px py pt:Pos}{kt k2 pt2}(hc:X.calm=true) (hN:X.N.Nodup) (hi:X.N[i]?=some x) (hj:X.N[j]?=some y) (hij:i≠j)
  (hx:X.env.scope.names.lookup x=some .local) (hy:X.env.scope.names.lookup y=some .local) (ha:PA X [a,b] ta)
  (hw:swappedStores [.Tuple [.Name x px,.Name y py] kt pt] (.Tuple [a,b] k2 pt2) X.env=pure (some [x,y]))
  (hs:swapsWithSole [.Tuple [.Name x px,.Name y py] kt pt] (.Tuple [a,b] k2 pt2) pos.line X.env=pure false:=by rfl) :
  PS X (.Assign [.Tuple [.Name x px,.Name y py] kt pt] (.Tuple [a,b] k2 pt2) pos) (LC i j ta):=by
 intro QE s O H D I h;rw[exec_Assign_arm];show MY (OD ?_);rw[hs];show MY (Nj ?_);rw[MP aS];show MY (Tuple_ (QL (ha _ QE s O H _ I h) λus s1 ⟨vs,H1,I1,r1,q1⟩=>?_));obtain⟨v,w,e1,q1⟩:=q1;subst e1;obtain⟨u1,u2,rfl,rv,rw'⟩: ∃u1 u2,us=[u1,u2]/\RelV v u1/\RelV w u2:=by
  cases r1 with
  | cons p q =>
   cases q with
   | cons p' q' =>
    cases q';exact⟨_,_,Z,p,p'⟩
 show PF ?_ aC;have I2:Inv X QE O H1 { s1 with heap:=s1.heap.push { cls:= .type "tuple",data:= .seq [u1,u2].toArray } }:=I1.kept (t':=s1.toks) λb o e=>MV _ e;rw[hw];show MY (Nj ?_);change wpAny (model X.prog X.w) X.A (do rule "assign.swapped-stores"; let items <-unpackItems (.ref s1.heap.objs.size) 2 none; assignInOrder [λv=>bindName X.env y v,λv=>bindName X.env x v] items.reverse; pure Flow.next) _ _ _;show MY (wpAny_rule (MY (unpackItems_tuple (items:= #[u1,u2]) (I.ok.hd hc) (IsTup.new s1.heap _) λh' hx'=>?_)));have I3:=I2.kept (h':=h') (t':=s1.toks) λb o e=>hx' b o (Nt (Na e)) e;change wpAny _ _ (assignInOrder [λv=>bindName X.env y v,λv=>bindName X.env x v] [u2,u1] >>= λ_=>pure Flow.next) _ _ _;show MY (assignInOrder_cons (wpAny_bindName (p8 I3 hN hj (.inl hy) rw' (λs2 I4=>?_) (.inr hy))));show assignInOrder_cons (wpAny_bindName (p8 I4 hN hi (.inl hx) rv (λs3 I5=>assignInOrder_nil (Nj ?_)) (.inr hx)));rw[List.set_comm _ _ (Nu hij)] at I5;exact⟨_,H1,I5,q1⟩
inductive Mx (i:Nat) (te:TE) (ti:Tg) (D:Ends) (O:St) (H:Hp):Prop | mk (x:_) (e0:O[i]?=some (some x)) (q:te O H λy H1=>ti x y H1 λz H2=>D.nx (O.set i (some z)) H2)
inductive MJ (f:Int->Int->Int) (x y:V) (H:Hp) (Q:VK):Prop | mk (i j:_) (e0:x= .int i) (e1:y= .int j) (q:Q (.int (f i j)) H)
end
section
variable {X:Cx}{pos:Pos}
def IL (c:TT) (tb:TS):TS:=λD O H=> ∃W:Nat->St->Hp->Prop,(∃m,W m O H)/\ ∀m O H,W m O H ->
 c O H λb H1=>if b=true then ∃N:St->Hp->Prop,(∀O' H',N O' H'-> ∃m',m' < m/\W m' O' H')/\tb { D with nx:=N,ct:=N,bk:=D.nx } O H1 else D.nx O H1
theorem pQ {c:Expr}{body:List Stmt}{tc:TT}{tb:TS}(hp:PassesOwn (model X.prog X.w) X.A X.env X.xe) (hc:PT X c tc) (hb:Q0 X body tb):PS X (.While c body [] pos) (IL tc tb):=by
 intro QE s O H D I h;obtain⟨W,⟨m0,w0⟩,turn⟩:=h;show wpAny_While (codeAny_whileLoop (λn s'=> ∃O' H',Inv X QE O' H' s'/\W n O' H') ?_ m0 ⟨O,H,I,w0⟩);rintro n s1 ⟨O1,H1,I1,w1⟩;show OS hp (QL (hc QE s1 O1 H1 _ I1 (turn n O1 H1 w1)) λb s2 ⟨H2,I2,q2⟩=>?_);cases b with
 | true =>
  obtain⟨N,hN,q2⟩:=q2;rw[MU rfl];show OS hp (QL (hb QE s2 O1 H2 _ I2 q2) λf s3 q3=>?_);cases f with
  | next =>
   obtain⟨O3,H3,I3,n3⟩:=q3;obtain⟨m',hm,w3⟩:=hN O3 H3 n3;exact⟨m',hm,O3,H3,I3,w3⟩
  | cont =>
   obtain⟨O3,H3,I3,n3⟩:=q3;obtain⟨m',hm,w3⟩:=hN O3 H3 n3;exact⟨m',hm,O3,H3,I3,w3⟩
  | brk=>exact q3
  | ret v=>exact q3
 | false =>
  rw[MP Nd];exact P8 ⟨O1,H2,I2,q2⟩
end
structure It where
 go:Nat->Hp->Prop
 yld:Nat->Hp->V->Hp->Prop
 stop:Nat->Hp->Prop
def bG (X:Cx) (QE:mK) (H:Hp) (b:Addr):Prop :=
 H b=none/\b≠X.env.locals/\b∉X.fs/\(b∈X.ex\/X.s₀.heap.objs.size<=b)/\(∀x c,X.env.cells.lookup x=some c->c≠b)/\ ∀p∈X.pn++QE,p.1≠b
theorem Inv.gO {QE:mK}{O:St}{H':Hp}{b:Addr}(I:Inv X QE O H s) (hb:s.heap.objs.size<=b) (hn:H' b=none):bG X QE H' b:=by
 show⟨hn,Pp (NB I.lt hb),I.LR hb,.inr (Ng I.sz hb),λx c e z=>?_,λp hp z=>?_⟩
 .obtain⟨v,q⟩:=I.cell x c e;exact absurd (NB q.lt (by rw[z]; exact hb)) (OC _)
 .exact absurd (NB (Na (I.pin p hp).1) (by rw[z]; exact hb)) (OC _)
structure Turn (P:Program) (w:World) (K:QG) (tg:Expr) (J:It) (fp:List Addr) (it:Addr) (tn:Nat->Heap->Prop):Prop where
 mem:it∈fp
 obj: ∀i h,tn i h-> ∀b∈fp,∃o,h.get? b=some o/\ ∀v,o.data≠ .cell v
 keep: ∀i h h',tn i h->(∀b∈fp,∀o,h.get? b=some o->h'.get? b=some o)->tn i h'
 item: ∀(X:Cx),X.prog=P->X.w=w->X.K=K->X.calm=true-> ∀(i:Nat) (QE:mK) (s:Shared) (O:St) (H:Hp) (E:nE),Inv X QE O H s->(∀b∈fp,bG X QE H b)->tn i s.heap->J.go i H ->
  wpAny (model P w) X.A (pyNext (.ref it)) (λr s1=> ∃u,r=some u /\
   wpAny (model P w) X.A (letOwnedTupleGo tg (.ref it) u) (λ_ s2=> ∃x H',Inv X QE O H' s2/\RelV x u/\J.yld i H x H'/\tn (i+1) s2.heap/\ ∀b∈fp,H' b=none) E s1) E s
 done: ∀(X:Cx),X.prog=P->X.w=w->X.K=K->X.calm=true-> ∀(i:Nat) (QE:mK) (s:Shared) (O:St) (H:Hp) (E:nE),Inv X QE O H s->(∀b∈fp,bG X QE H b)->tn i s.heap->J.stop i H ->
  wpAny (model P w) X.A (pyNext (.ref it)) (λr s1=>r=none/\Inv X QE O H s1) E s
 self: ∀(A:Around) (i:Nat) (s:Shared) (Q:nE) (E:nE),tn i s.heap->Q (.ref it) s->wpAny (model P w) A (pyIter (.ref it)) Q E s
abbrev TI:=St->Hp->(It->Hp->Prop)->Prop
def SY (X:Cx) (QE:mK) (O:St) (tg:Expr) (R:It->Hp->Prop) (itv:Value) (s2:Shared):Prop :=
 ∃(it:Addr) (fp:List Addr) (tn:Nat->Heap->Prop) (J:It) (H':Hp),itv= .ref it/\Inv X QE O H' s2/\Turn X.prog X.w X.K tg J fp it tn/\tn 0 s2.heap/\(∀b∈fp,bG X QE H' b)/\R J H'
def PI (X:Cx) (tg iter:Expr) (wi:TI):Prop :=
 ∀(QE:mK) (s:Shared) (O:St) (H:Hp) (R:It->Hp->Prop),Inv X QE O H s->wi O H R ->
  wpAny (model X.prog X.w) X.A (eval iter X.env) (λv s1=>wpAny (model X.prog X.w) X.A (pyIter v) (SY X QE O tg R) X.xe s1) X.xe s
variable{tg:Expr}
theorem xm {M:Model}{s:Shared}{it:Addr}{n:String}{vs:Array Value}{Q:Unit->Shared->Prop}(ho:s.heap.get? it=some o) (hc:o.cls= .type n) (hd:o.data= .fields vs)
  (hn:["enumerate","zip","dict_itemiterator","dict_reverseitemiterator","odict_iterator","itertools.zip_longest","itertools.pairwise"].contains n=false) (hQ:Q () s):wpAny M A (letOwnedTupleGo tg (.ref it) u) Q E s:=by
 unfold letOwnedTupleGo;cases tg <;> first
  | exact Nj hQ
  | (cases u <;> first
    | exact Nj hQ
    | (show MY (wpAny_load ho ?_)
       rw[hc,hd];change wpAny M A (if (["enumerate","zip","dict_itemiterator","dict_reverseitemiterator","odict_iterator","itertools.zip_longest","itertools.pairwise"].contains n && vs[0]? == some (rawInt _))=true then _ else _) Q E s;rw[MP (by intro h; rw[hn,Qf] at h; cases h)];exact Nj hQ))
def SM (K:QG) (a:Addr):It :=
 ⟨λi H=> ∃xs x,QF K H a xs/\xs[i]?=some x,λi H x H'=>H'=H/\ ∀xs,QF K H a xs->xs[i]?=some x,λi H=> ∃xs,QF K H a xs/\xs.length<=i⟩
def Ta (K:QG) (a:Addr):It :=
 ⟨λi H=> ∃xs x,QK K H a xs/\xs[i]?=some x,λi H x H'=>H'=H/\ ∀xs,QK K H a xs->xs[i]?=some x,λi H=> ∃xs,QK K H a xs/\xs.length<=i⟩
def Sb (lo:Int) (n:Nat):It:=⟨λi _=>i < n,λi H x H'=>H'=H/\x= .int (lo+i),λi _=>n<=i⟩
variable{K:QG}
theorem DU(a it:Addr):Turn P w K tg (SM K a) [it] it (λi h=>h.IsListIter it a i) where
 mem:=by simp
 obj:=λi h st b hb=>by
  have e:b=it:=by simpa using hb
  subst e;obtain⟨o,e,c,d⟩:=st;exact⟨o,e,λv z=>by rw[d] at z; cases z⟩
 keep:=λi h h' st k=>st.at λo e=>k it (by simp) o e
 item:=by
  ext:0;obtain⟨xs,x,hq,hx⟩:=hg;obtain⟨its,rv,p,hz⟩:=I.list hq;obtain⟨u,hu,ru⟩:=rv.get hx;ext:10;show wpAny_pyNext_list_item st p.isList (x:=u) (by simpa using hu) λh' st' sb=>?_;have I1:Inv X QE O H { s with heap:=h' }:=I.turned (t':=s.toks) (λb o hb e=>(sb.2 b hb).trans e) f0 f1 f3 f4 f5;obtain⟨o,e,c,d⟩:=id st';exact⟨u,Z,xm (s:={ s with heap:=h' }) e c d aS ⟨x,H,I1,ru,⟨Z,λys hy=>by rw[I.pC hy hq]; exact hx⟩,st',λb hb=>(hf b hb).1⟩⟩
 done:=by
  ext:0;obtain⟨xs,hq,hx⟩:=hg;obtain⟨its,rv,p,hz⟩:=I.list hq;ext:10;have hl:=rv.length;exact wpAny_pyNext_list_end (I.ok.hd hc) st p.isList (by simp; lia) λh' eb=>⟨Z,I.turned (t':=s.toks) (λb o hb e=>eb b o hb e) f0 f1 f3 f4 f5⟩
 self:=λ_ _ _ _ _ st h=>wpAny_pyIter_listiter st h
theorem BI(it:Addr) (lo:Int) (n:Nat):Turn P w K tg (Sb lo n) [it] it (λi h=>IsRangeIter h it (lo+(i:Nat)*1) ((n:Int) - (i:Nat)) 1) where
 mem:=by simp
 obj:=λi h st b hb=>by
  have e:b=it:=by simpa using hb
  subst e;exact⟨_,st,λv z=>by
   have z':Data.fields _=Data.cell v:=z;cases z'⟩
 keep:=λi h h' st k=>k it (by simp) _ st
 item:=by
  ext:0;ext:10;have W:=Walks.range (prog:=X.prog) (w:=X.w) (I.ok.hd hc) it lo 1 n;show W.item i s _ _ hg st λv h' tk hv st' kk=>?_;obtain⟨t,rfl⟩:=hv;have I1:Inv X QE O H { s with heap:=h',toks:=tk }:=I.turned (λb o hb e=>kk b o (by simpa using hb) e) f0 f1 f3 f4 f5;show⟨_,Z,xm (s:={ s with heap:=h',toks:=tk }) (n:= "range_iterator") st' rfl rfl aS ⟨.int (lo+i),H,I1,⟨t,?_⟩,⟨Z,Z⟩,st',λb hb=>(hf b hb).1⟩⟩;rw[Int.mul_one]
 done:=by
  ext:0;ext:10;exact wpAny_pyNext_range_end (I.ok.hd hc) st (by have:n<=i:=hg; lia) λh' eb=>⟨Z,I.turned (t':=s.toks) (λb o hb e=>eb b o hb e) f0 f1 f3 f4 f5⟩
 self:=λ_ _ _ _ _ st h=>wpAny_pyIter_rangeiter st h
section
variable {X:Cx}{tg:Expr}
inductive Iy (K:QG) (R:It->Hp->Prop) (x:V) (H1:Hp):Prop | mk (a:_) (e0:x= .ref a) (e1:(∃xs,QF K H1 a xs)) (q:R (SM K a) H1)
def F7 (K:QG) (tl:TE):TI:=λO H R=>tl O H λx H1=>Iy K R x H1
inductive Mw (K:QG) (R:It->Hp->Prop) (x:V) (H1:Hp):Prop | mk (a:_) (e0:x= .ref a) (e1:(∃xs,QK K H1 a xs)) (q:R (Ta K a) H1)
theorem GW {l:Expr}{tl:TE}(hl:PE X l tl):PI X tg l (F7 X.K tl):=by
 intro QE s O H R I h;show QL (hl QE s O H _ I h) λv s1 ⟨x,H1,I1,r1,q1⟩=>?_;obtain⟨a,e,⟨xs,hq⟩,q⟩:=q1;subst e;cases r1;obtain⟨its,rv,p,hz⟩:=I1.list hq;show Pb p.isList ?_;show⟨s1.heap.objs.size,[s1.heap.objs.size],_,_,H1,Z,I1.kept (t':=s1.toks) λb o e=>MV _ e,DU a _,⟨_,Nq _ rfl,Z,Z⟩,λb hb=>?_,q⟩;have e:b=s1.heap.objs.size:=by simpa using hb
 subst e;exact I1.gO (MZ _) (I1.hok.fresh (MZ _))
variable{QE:mK}{O:St}{H:Hp}{s:Shared}
theorem Ef {R:It->Hp->Prop}{E:nE}{lo hi:Int}{t u v:Tok}{tk:Nat}(I:Inv X QE O H s) (h1: -(2 ^ 62)<=lo) (h2:lo < 2 ^ 62) (h3: -(2 ^ 62)<=hi) (h4:hi < 2 ^ 62)
  (q:R (Sb lo (hi - lo).toNat) H):wpAny (model X.prog X.w) X.A (pyIter (.ref s.heap.objs.size)) (SY X QE O tg R) E { s with heap:=s.heap.push { cls:= .type "range",data:= .fields #[.int lo t,.int hi u,.int 1 v] },toks:=tk }:=by
 show wpAny_pyIter_range (IsRange.new ..) (small_one h1 h2 h3 h4) ?_;have I1:Inv X QE O H { s with heap:=s.heap.push { cls:= .type "range",data:= .fields #[.int lo t,.int hi u,.int 1 v] },toks:=tk }:=I.kept λb o e=>MV _ e;show⟨(s.heap.push { cls:= .type "range",data:= .fields #[.int lo t,.int hi u,.int 1 v] }).objs.size,[(s.heap.push { cls:= .type "range",data:= .fields #[.int lo t,.int hi u,.int 1 v] }).objs.size],_,_,H,Z,
  I1.kept (t':=tk) λb o e=>MV _ e,BI _ lo (hi - lo).toNat,?_,λb hb=>?_,q⟩
 .have e1:lo+((0:Nat):Int)*1=lo:=by simp
  have e2:(((hi - lo).toNat:Nat):Int) - ((0:Nat):Int)=Builtin.Range.rangeSize lo hi 1:=by rw[rangeSize_one]; split <;> lia
  change IsRangeIter _ _ (lo+((0:Nat):Int)*1) ((((hi - lo).toNat:Nat):Int) - ((0:Nat):Int)) 1;rw[e1,e2];exact Nq _ rfl
 .have e:b=(s.heap.push { cls:= .type "range",data:= .fields #[.int lo t,.int hi u,.int 1 v] }).objs.size:=by simpa using hb
  subst e;exact I1.gO (MZ _) (I1.hok.fresh (MZ _))
inductive IA (R:It->Hp->Prop) (vs:List V) (H1:Hp):Prop | mk (j:Int) (e0:vs=[.int j]) (e1: -(2 ^ 62)<=j) (e2:j < 2 ^ 62) (q:R (Sb 0 j.toNat) H1)
def F9 (ta:TA):TI:=λO H R=>ta O H λvs H1=>IA R vs H1
inductive Ml (R:It->Hp->Prop) (vs:List V) (H1:Hp):Prop | mk (i j:Int) (e0:vs=[.int i,.int j]) (e1:(-(2 ^ 62)<=i/\i < 2 ^ 62/\ -(2 ^ 62)<=j/\j < 2 ^ 62)) (q:R (Sb i (j - i).toNat) H1)
theorem Dk {a:Expr}{ta:TA}{p pos:Pos}(hg:Gl X "range") (hm:X.mg "range" = none) (ha:PA X [a] ta) (hs:starEach [a] X.env=[(false,eval a X.env)]:=by rfl):PI X tg (.Call (.Name "range" p) [a] [] pos) (F9 ta):=by
 intro QE s O H R I h;show Call_ (kU I hg hm boot_range (OK (QL (ha pos QE s O H _ I h) λus s1 ⟨vs,H1,I1,r1,q1⟩=>?_) hs rfl));obtain⟨j,e,q1,q2,q⟩:=q1;subst e;cases r1 with
 | cons r rr =>
  cases rr;obtain⟨t,rfl⟩:=r;exact call_range_1 (Ef I1 Y Y q1 q2 (by simpa using q))
def Jp (wi:TI) (g:TG) (tb:TS):TS:=λD O H=>wi O H λJ H1=> ∃W:Nat->Nat->St->Hp->Prop,(∃m,W 0 m O H1)/\ ∀i m O H,W i m O H ->
 (J.stop i H/\D.nx O H)\/(J.go i H/\ ∃N:St->Hp->Prop,(∀O' H',N O' H'-> ∃m',m' < m/\W (i+1) m' O' H')/\ ∀x H',J.yld i H x H'->g x O H' λO2 H2=>tb { D with nx:=N,ct:=N,bk:=D.nx } O2 H2)
def rG (fp:List Addr) (h:Heap):List (Addr×Obj):=fp.filterMap λb=>(h.get? b).map λo=>(b,o)
variable{fp:List Addr}
theorem lZ {h:Heap}{b:Addr}{o:Obj}(hb:b∈fp) (e:h.get? b=some o):(b,o)∈rG fp h:=O4.mpr ⟨b,hb,by rw[e]; rfl⟩
theorem DB {h:Heap}{p:Addr×Obj}(hp:p∈rG fp h):p.1∈fp/\h.get? p.1=some p.2:=by
 obtain⟨b,hb,e⟩:=O4.mp hp;cases q:h.get? b with
 | none=>rw[q] at e; cases e
 | some o =>
  rw[q] at e;have e':(b,o)=p:=Nc e;subst e';exact⟨hb,q⟩
theorem Inv.pinned(I:Inv X QE O H s) (hf: ∀b∈fp,bG X QE H b) (ho: ∀b∈fp,∃o,s.heap.get? b=some o/\ ∀v,o.data≠ .cell v):Inv X (QE++rG fp s.heap) O H s :=
 I.ke λp hp=>(M8.mp hp).elim (λz=>I.pin p (Nn _ z)) λz=>by
  obtain⟨hb,e⟩:=DB z;obtain⟨f0,f1,f2,_⟩:=hf p.1 hb;obtain⟨o,e',d⟩:=ho p.1 hb;rw[e] at e'; cases e';exact⟨e,f0,f1,f2,d⟩
theorem Inv.tP {pl:mK}(I:Inv X (QE++pl) O H s):Inv X QE O H s:=I.ke λp hp=>I.pin p (Nn _ (NO _ hp))
theorem Ik {iter:Expr}{body:List Stmt}{wi:TI}{g:TG}{tb:TS}{pos:Pos}(hp:PassesOwn (model X.prog X.w) X.A X.env X.xe) (hc:X.calm=true) (hi:PI X tg iter wi) (hg:PG X tg g) (hb:Q0 X body tb)
  (hs: ∀x,foldedSetIterable iter X.env x=pure x:=by intro _; rfl):PS X (.For tg iter body [] pos) (Jp wi g tb):=by
 intro QE s O H D I h;show wpAny_For (QL (hi QE s O H _ I h) λv s1 h1=>QL h1 λitv s2 h2=>?_) hs;obtain⟨it,fp,tn,J,H2,e,I2,T,st2,f2,W,⟨m0,w0⟩,turn⟩:=h2;subst e;have stat: ∀ {H':Hp},(∀b∈fp,H' b=none)-> ∀b∈fp,bG X QE H' b:=λhn b hb=>⟨hn b hb,(f2 b hb).2⟩
 show codeAny_forLoop_any (λn s'=> ∃i O' H',Inv X QE O' H' s'/\tn i s'.heap/\(∀b∈fp,H' b=none)/\W i n O' H') ?_ m0 ⟨0,O,H2,I2,st2,λb hb=>(f2 b hb).1,w0⟩;rintro n s3 ⟨i,O3,H3,I3,st3,fr3,w3⟩;rcases turn i n O3 H3 w3 with⟨stop,qn⟩ | ⟨go,N,hN,step⟩
 .show OS hp (QL (T.done X rfl rfl rfl hc i QE s3 O3 H3 X.xe I3 (stat fr3) st3 stop) λr s4 ⟨hr,I4⟩=>?_);subst hr;exact P8 ⟨O3,H3,I4,qn⟩
 .show OS hp (QL (T.item X rfl rfl rfl hc i QE s3 O3 H3 X.xe I3 (stat fr3) st3 go) λr s4 ⟨u,hr,h4⟩=>?_);subst hr;show OS hp (QL h4 λ_ s5 ⟨x,H5,I5,r5,y5,st5,fr5⟩=>?_);have I5':=I5.pinned (stat fr5) (T.obj _ _ st5);show OS hp (QL (hg _ s5 O3 H5 x u _ I5' r5 (step x H5 y5)) λ_ s6 ⟨O6,H6,I6,q6⟩=>?_);show OS hp (QL (hb _ s6 O6 H6 _ I6 q6) λf s7 q7=>?_);have again: ∀ {O7:St}{H7:Hp},Inv X (QE++rG fp s5.heap) O7 H7 s7->N O7 H7-> ∃m,m < n/\ ∃i O' H',Inv X QE O' H' s7/\tn i s7.heap/\(∀b∈fp,H' b=none)/\W i m O' H':=λ{O7 H7} I7 n7=>by
   obtain⟨m',hm,w7⟩:=hN O7 H7 n7;show⟨m',hm,i+1,O7,H7,I7.tP,T.keep _ _ _ st5 λb hb o e=>(I7.pin (b,o) (Nn _ (Nn _ (lZ hb e)))).1,λb hb=>?_,w7⟩;obtain⟨o,e,d⟩:=T.obj _ _ st5 b hb;exact (I7.pin (b,o) (Nn _ (Nn _ (lZ hb e)))).2.1
  cases f with
  | next=>obtain⟨O7,H7,I7,n7⟩:=q7; exact again I7 n7
  | cont=>obtain⟨O7,H7,I7,n7⟩:=q7; exact again I7 n7
  | brk=>obtain⟨O7,H7,I7,q7⟩:=q7; exact⟨O7,H7,I7.tP,q7⟩
  | ret v=>obtain⟨x7,O7,H7,I7,r7,q7⟩:=q7; exact⟨x7,O7,H7,I7.tP,r7,q7⟩
end
abbrev R2:=V->V->Hp->VK->Prop
def QU (X:Cx) (f:Value->Value->Sem Value) (r:R2):Prop :=
 ∀(QE:mK) (s:Shared) (O:St) (H:Hp) (x y:V) (v u:Value) (Q:VK),Inv X QE O H s->RelV x v->RelV y u->r x y H Q ->
  wpAny (model X.prog X.w) X.A (f v u) (EP X QE O Q) X.xe s
def SN (X:Cx) (f:Value->Sem Value) (r:V->Hp->VK->Prop):Prop :=
 ∀(QE:mK) (s:Shared) (O:St) (H:Hp) (x:V) (v:Value) (Q:VK),Inv X QE O H s->RelV x v->r x H Q ->
  wpAny (model X.prog X.w) X.A (f v) (EP X QE O Q) X.xe s
def du (X:Cx) (f:Value) (r:List V->Hp->VK->Prop):Prop :=
 ∀(QE:mK) (s:Shared) (O:St) (H:Hp) (xs:List V) (us:List Value) (Q:VK),Inv X QE O H s->Vals xs us->r xs H Q ->
  wpAny (model X.prog X.w) X.A (call f us) (EP X QE O Q) X.xe s
def LG (X:Cx) (r:V->Hp->(Bool->Hp->Prop)->Prop):Prop :=
 ∀(QE:mK) (s:Shared) (O:St) (H:Hp) (x:V) (v:Value) (Q:Bool->Hp->Prop),Inv X QE O H s->RelV x v->r x H Q ->
  wpAny (model X.prog X.w) X.A (truthy v) (TP X QE O Q) X.xe s
def Ry (r:R2) (ta tb:TE):TE:=λO H Q=>ta O H λx H1=>tb O H1 λy H2=>r x y H2 Q
def S6 (r:V->Hp->VK->Prop) (ta:TE):TE:=λO H Q=>ta O H λx H1=>r x H1 Q
inductive Tn (C:Int->Int->Prop) (g:Int->Int->V) (x y:V) (H:Hp) (Q:VK):Prop | mk (i j:_) (e0:x= .int i) (e1:y= .int j) (e2:C i j) (q:Q (g i j) H)
def rI (C:Int->Int->Prop) (g:Int->Int->V):R2:=λx y H Q=>Tn C g x y H Q
inductive Lw (g:Int->Int->V) (x y:V) (H:Hp) (Q:VK):Prop | mk (i j:_) (e0:x= .int i) (e1:y= .int j) (q:Q (g i j) H)
def RV (g:Int->Int->V):R2:=λx y H Q=>Lw g x y H Q
inductive Ti (g:Int->V) (x:V) (H:Hp) (Q:VK):Prop | mk (i:_) (e0:x= .int i) (q:Q (g i) H)
def rU (g:Int->V):V->Hp->VK->Prop:=λx H Q=>Ti g x H Q
section
variable {X:Cx}{a b c:Expr}{ta tb tc:TE}{pos:Pos}
theorem FZ (ha:PE X a ta) (hb:PE X b tb){QE:mK}{s:Shared}{O:St}{H:Hp}{R:V->V->Hp->Prop}(I:Inv X QE O H s)
  (h:ta O H λx H1=>tb O H1 λy H2=>R x y H2) {Q:nE}{f:Value->Value->Sem Value}
  (hf: ∀v u s2 x y H2,Inv X QE O H2 s2->RelV x v->RelV y u->R x y H2->wpAny (model X.prog X.w) X.A (f v u) Q X.xe s2) :
  wpAny (model X.prog X.w) X.A (eval a X.env) (λv s₁=>wpAny (model X.prog X.w) X.A (eval b X.env) (λu s₂=>wpAny (model X.prog X.w) X.A (f v u) Q X.xe s₂) X.xe s₁) X.xe s:=by
 show QL (ha QE s O H _ I h) λv s1 ⟨x,H1,I1,r1,q1⟩=>?_;show QL (hb QE s1 O H1 _ I1 q1) λu s2 ⟨y,H2,I2,r2,q2⟩=>?_;exact hf v u s2 x y H2 I2 r1 r2 q2
theorem au {op:Operator}{r:R2}(ho:QU X (binaryOp op) r) (ha:PE X a ta) (hb:PE X b tb):PE X (.BinOp a op b pos) (Ry r ta tb):=by
 intro QE s O H Q I h;exact wpAny_BinOp (FZ ha hb I h λv u s2 x y H2 I2 rx ry q=>ho QE s2 O H2 x y v u Q I2 rx ry q)
theorem kH {op:UnaryOp}{r:V->Hp->VK->Prop}(ho:SN X (unaryOp op) r) (ha:PE X a ta):PE X (.UnaryOp op a pos) (S6 r ta):=by
 intro QE s O H Q I h;exact UnaryOp_ (QL (ha QE s O H _ I h) λv s1 ⟨x,H1,I1,r1,q1⟩=>ho QE s1 O H1 x v Q I1 r1 q1)
variable{f:Value->Value->Sem Value}
theorem Sr {C:Int->Int->Prop}{g:Int->Int->Int} (rule: ∀(i j:Int) (t u:Tok) (s:Shared) (Q:nE) (E:nE),C i j->Q (.int (g i j) s.toks) { s with toks:=s.toks+1 }->wpAny (model X.prog X.w) X.A (f (.int i t) (.int j u)) Q E s) :
  QU X f (rI C λi j=> .int (g i j)):=by
 ext:3;obtain⟨i,j,rfl,rfl,hc,q⟩:=h;ext:15;obtain⟨t',rfl⟩:=ry;exact rule i j t t' s _ _ hc ⟨.int (g i j),H,I.tok _,⟨_,Z⟩,q⟩
theorem Jx {g:Int->Int->Int} (rule: ∀(i j:Int) (t u:Tok) (s:Shared) (Q:nE) (E:nE),Q (.int (g i j) s.toks) { s with toks:=s.toks+1 }->wpAny (model X.prog X.w) X.A (f (.int i t) (.int j u)) Q E s) :
  QU X f (RV λi j=> .int (g i j)):=by
 ext:3;obtain⟨i,j,rfl,rfl,q⟩:=h;ext:15;obtain⟨t',rfl⟩:=ry;exact rule i j t t' s _ _ ⟨.int (g i j),H,I.tok _,⟨_,Z⟩,q⟩
theorem AG {g:Int->Int->Bool} (rule: ∀(i j:Int) (t u:Tok) (s:Shared) (Q:nE) (E:nE),Q (.bool (g i j)) s->wpAny (model X.prog X.w) X.A (f (.int i t) (.int j u)) Q E s) :
  QU X f (RV λi j=> .bl (g i j)):=by
 ext:3;obtain⟨i,j,rfl,rfl,q⟩:=h;ext:15;obtain⟨t',rfl⟩:=ry;exact rule i j t t' s _ _ ⟨.bl (g i j),H,I,Z,q⟩
def EZ (i j:Int):Prop:=0 < j/\j < 1073741824
def Lu (i j:Int):Prop:=0<=j/\j<=1000000/\i.natAbs < 2 ^ 64
def Ff (i j:Int):Prop:=(-(2 ^ 64) < i/\i < 2 ^ 64)\/(-(2 ^ 64) < j/\j < 2 ^ 64)
theorem Ff.ok {i j:Int}(h:Ff i j):IntMulOk i j:=by
 rcases h with⟨h1,h2⟩ | ⟨h1,h2⟩
 .exact .of_left (intBits_le_64 h1 h2)
 .exact .of_right (intBits_le_64 h1 h2)
theorem bE:QU X (binaryOp .Add) (RV λi j=> .int (i+j)):=Jx λ_ _ _ _ _ _ _ q=>add_int q
theorem jD:QU X (binaryOp .Sub) (RV λi j=> .int (i - j)):=Jx λ_ _ _ _ _ _ _ q=>sub_int q
theorem uV:QU X (binaryOp .Mult) (rI Ff λi j=> .int (i*j)):=Sr λ_ _ _ _ _ _ _ hc q=>mul_int q hc.ok
theorem bF:QU X (binaryOp .FloorDiv) (rI EZ λi j=> .int (i / j)):=Sr λi j _ _ _ _ _ hc q=>by
 have h1:(0:Int) < j:=hc.1;have h2:j < 1073741824:=hc.2;exact floordiv_int Y (by rw[Int.fdiv_eq_ediv_of_nonneg i Y]; exact q) (.inl (PyProof.noPylong_small Y))
theorem aU:QU X (binaryOp .Mod) (rI (λ_ j=>0 < j) λi j=> .int (i % j)):=Sr λi j _ _ _ _ _ hc q=>by
 have h1:(0:Int) < j:=hc;exact mod_int' Y (by rw[Int.fmod_eq_emod_of_nonneg i Y]; exact q)
theorem JJ:QU X (binaryOp .Pow) (rI Lu λi j=> .int (i ^ j.toNat)):=Sr λ_ _ _ _ _ _ _ hc q=>pow_int_small hc.1 hc.2.1 hc.2.2 q
theorem S1 {f:Value->Sem Value}{g:Int->Int}
  (rule: ∀(i:Int) (t:Tok) (s:Shared) (Q:nE) (E:nE),Q (.int (g i) s.toks) { s with toks:=s.toks+1 }->wpAny (model X.prog X.w) X.A (f (.int i t)) Q E s) :
  SN X f (rU λi=> .int (g i)):=by
 intro QE s O H x v Q I rx h;obtain⟨i,rfl,q⟩:=h;ext:15;exact rule i t s _ _ ⟨.int (g i),H,I.tok _,⟨_,Z⟩,q⟩
theorem iA:SN X (unaryOp .USub) (rU λi=> .int (-i)):=S1 λ_ _ _ _ _ q=>neg_int q
end
def Il:V->V->Bool
 | .non,.non=>true | .non,.int _=>true | .int _,.non=>true | .non,.bl _=>true | .bl _,.non=>true | .non,.str _=>true | .str _,.non=>true
 | .int _,.int _=>true | .bl _,.bl _=>true | .str _,.str _=>true | .byt _,.byt _=>true
 | .int _,.str _=>true | .str _,.int _=>true | .bl _,.str _=>true | .str _,.bl _=>true
 | _,_=>false
def SU:R2:=λx y H Q=>Il x y=true/\Q (.bl (decide (x=y))) H
def Te:R2:=λx y H Q=>Il x y=true/\Q (.bl (!decide (x=y))) H
theorem zQ {i j:Int}:decide (V.int i=V.int j)=(i == j):=by
 rw[O5];simp
theorem C0 {i j:Bool}:decide (V.bl i=V.bl j)=(i == j):=by
 rw[O5];simp
theorem Am {i j:Str}:decide (V.str i=V.str j)=(i == j):=by
 rw[O5];simp
theorem zK {i j:Array UInt8}:decide (V.byt i=V.byt j)=(i.toList == j.toList):=by
 rw[O5];cases i;cases j;simp
section
variable {X:Cx}{a b c:Expr}{ta tb tc:TE}{pos:Pos}
theorem bJ {QE:mK}{O:St}{H:Hp}{s:Shared}{Q:VK}{k k':Bool}(I:Inv X QE O H s) (q:Q (.bl k) H) (e:k=k'):EP X QE O Q (.bool k') s:=by
 subst e;exact⟨.bl k,H,I,Z,q⟩
theorem cw:QU X (compareOp .Eq) SU:=by
 ext:3;obtain⟨hs,q⟩:=h;cases x with
 | non =>
  cases rx;cases y with
  | non=>cases ry; exact PySem.EqNone.eq_none_none (bJ I q (by simp))
  | bl j=>cases ry; exact PySem.EqNone.eq_none_bool (bJ I q (by simp))
  | int j=>obtain⟨t',rfl⟩:=ry; exact PySem.EqNone.eq_none_int (bJ I q (by simp))
  | str j=>obtain⟨t',rfl⟩:=ry; exact PySem.EqNone.eq_none_str (bJ I q (by simp))
  | _=>exact absurd (show false=true from hs) Nd
 | bl i =>
  cases rx;cases y with
  | non=>cases ry; exact PySem.EqNone.eq_bool_none (bJ I q (by simp))
  | bl j=>cases ry; exact eq_bool (bJ I q C0)
  | str j=>obtain⟨t',rfl⟩:=ry; exact PySem.EqMixed.eq_bool_str (bJ I q (by simp))
  | _=>exact absurd (show false=true from hs) Nd
 | int i =>
  ext:15;cases y with
  | non=>cases ry; exact PySem.EqNone.eq_int_none (bJ I q (by simp))
  | int j=>obtain⟨t',rfl⟩:=ry; exact eq_int (bJ I q zQ)
  | str j=>obtain⟨t',rfl⟩:=ry; exact PySem.EqMixed.eq_int_str (bJ I q (by simp))
  | _=>exact absurd (show false=true from hs) Nd
 | str i =>
  ext:15;cases y with
  | non=>cases ry; exact PySem.EqNone.eq_str_none (bJ I q (by simp))
  | bl j=>cases ry; exact PySem.EqMixed.eq_str_bool (bJ I q (by simp))
  | int j=>obtain⟨t',rfl⟩:=ry; exact PySem.EqMixed.eq_str_int (bJ I q (by simp))
  | str j=>obtain⟨t',rfl⟩:=ry; exact eq_str (bJ I q Am)
  | _=>exact absurd (show false=true from hs) Nd
 | byt i =>
  ext:15;cases y with
  | byt j=>obtain⟨t',rfl⟩:=ry; exact PySem.W.eq_bytes (bJ I q zK)
  | _=>exact absurd (show false=true from hs) Nd
 | _=>cases y <;> exact absurd (show false=true from hs) Nd
theorem nK:QU X (compareOp .NotEq) Te:=by
 ext:3;obtain⟨hs,q⟩:=h;cases x with
 | non =>
  cases rx;cases y with
  | non=>cases ry; exact PySem.EqNone.ne_none_none (bJ I q (by simp))
  | bl j=>cases ry; exact PySem.EqNone.ne_none_bool (bJ I q (by simp))
  | int j=>obtain⟨t',rfl⟩:=ry; exact PySem.EqNone.ne_none_int (bJ I q (by simp))
  | str j=>obtain⟨t',rfl⟩:=ry; exact PySem.EqNone.ne_none_str (bJ I q (by simp))
  | _=>exact absurd (show false=true from hs) Nd
 | bl i =>
  cases rx;cases y with
  | non=>cases ry; exact PySem.EqNone.ne_bool_none (bJ I q (by simp))
  | bl j=>cases ry; exact ne_bool (bJ I q (NJ not C0))
  | str j=>obtain⟨t',rfl⟩:=ry; exact PySem.EqMixed.ne_bool_str (bJ I q (by simp))
  | _=>exact absurd (show false=true from hs) Nd
 | int i =>
  ext:15;cases y with
  | non=>cases ry; exact PySem.EqNone.ne_int_none (bJ I q (by simp))
  | int j=>obtain⟨t',rfl⟩:=ry; exact ne_int (bJ I q (NJ not zQ))
  | str j=>obtain⟨t',rfl⟩:=ry; exact PySem.EqMixed.ne_int_str (bJ I q (by simp))
  | _=>exact absurd (show false=true from hs) Nd
 | str i =>
  ext:15;cases y with
  | non=>cases ry; exact PySem.EqNone.ne_str_none (bJ I q (by simp))
  | bl j=>cases ry; exact PySem.EqMixed.ne_str_bool (bJ I q (by simp))
  | int j=>obtain⟨t',rfl⟩:=ry; exact PySem.EqMixed.ne_str_int (bJ I q (by simp))
  | str j=>obtain⟨t',rfl⟩:=ry; exact ne_str (bJ I q (NJ not Am))
  | _=>exact absurd (show false=true from hs) Nd
 | byt i =>
  ext:15;cases y with
  | byt j=>obtain⟨t',rfl⟩:=ry; exact PySem.W.ne_bytes (bJ I q (NJ not zK))
  | _=>exact absurd (show false=true from hs) Nd
 | _=>cases y <;> exact absurd (show false=true from hs) Nd
theorem kG:QU X (compareOp .Lt) (RV λi j=> .bl (decide (i < j))):=AG λ_ _ _ _ _ _ _ q=>lt_int q
theorem Gn:QU X (compareOp .LtE) (RV λi j=> .bl (decide (i<=j))):=AG λ_ _ _ _ _ _ _ q=>le_int q
theorem pU:QU X (compareOp .Gt) (RV λi j=> .bl (decide (j < i))):=AG λ_ _ _ _ _ _ _ q=>gt_int q
theorem pF:QU X (compareOp .GtE) (RV λi j=> .bl (decide (j<=i))):=AG λ_ _ _ _ _ _ _ q=>ge_int q
theorem kW:QU X (compareOp .Is) (λx y H Q=>y= .non/\Q (.bl (decide (x= .non))) H):=by
 ext:3;obtain⟨rfl,q⟩:=h;cases ry;show is_none_gen (bJ I q ?_);cases x <;> first
  | (cases rx; rfl)
  | (obtain⟨t,rfl⟩:=rx; rfl)
theorem eR:QU X (compareOp .IsNot) (λx y H Q=>y= .non/\Q (.bl (!decide (x= .non))) H):=by
 ext:3;obtain⟨rfl,q⟩:=h;cases ry;show isnot_none_gen (bJ I q ?_);cases x <;> first
  | (cases rx; rfl)
  | (obtain⟨t,rfl⟩:=rx; rfl)
theorem DV (b:Expr){op:CmpOp}(h:op≠ .In:=by decide) (h2:op≠ .NotIn:=by decide):behindInMarks op b=false:=by
 have e1:(op == CmpOp.In)=false:=by cases op <;> first | rfl | exact absurd rfl h
 have e2:(op == CmpOp.NotIn)=false:=by cases op <;> first | rfl | exact absurd rfl h2
 cases b <;> simp[behindInMarks,e1,e2]
variable{op:CmpOp}{r:R2}
theorem G7(ho:QU X (compareOp op) r) (ha:PE X a ta) (hb:PE X b tb) (hm:behindInMarks op b=false):PE X (.Compare a [op] [b] pos) (Ry r ta tb):=by
 intro QE s O H Q I h;exact wpAny_Compare1 (FZ ha hb I h λv u s2 x y H2 I2 rx ry q=>ho QE s2 O H2 x y v u Q I2 rx ry q) hm
inductive IH (Q:Bool->Hp->Prop) (x:V) (H':Hp):Prop | mk (k:_) (e0:x= .bl k) (q:Q k H')
def xf (t:TE):TT:=λO H Q=>t O H λx H'=>IH Q x H'
theorem zX(ho:QU X (compareOp op) r) (ha:PE X a ta) (hb:PE X b tb) (hm:behindInMarks op b=false):PT X (.Compare a [op] [b] pos) (xf (Ry r ta tb)):=by
 intro QE s O H Q I h;show wpAny_isTrue_Compare1 (QL (ha QE s O H _ I h) λv s1 ⟨x,H1,I1,r1,q1⟩=>QL (hb QE s1 O H1 _ I1 q1) λu s2 ⟨y,H2,I2,r2,q2⟩ =>
  QL (ho QE s2 O H2 x y v u _ I2 r1 r2 q2) λc s3 ⟨z,H3,I3,r3,k,e,q3⟩=>?_) hm
 subst e;cases r3;exact N9 ⟨H3,I3,q3⟩
inductive HK (r':R2) (tc:TE) (O:St) (Q:VK) (y z:V) (H3:Hp):Prop | mk (k:_) (e0:z= .bl k) (q:(if k=true then tc O H3 λw' H4=>r' y w' H4 Q else Q (.bl false) H3))
def Ja (r r':R2) (ta tb tc:TE):TE:=λO H Q=>ta O H λx H1=>tb O H1 λy H2=>r x y H2 λz H3=>HK r' tc O Q y z H3
theorem xt {op':CmpOp}{r':R2}(ho:QU X (compareOp op) r) (ho':QU X (compareOp op') r') (ha:PE X a ta) (hb:PE X b tb) (hc:PE X c tc)
  (hm:lastMarks [op,op'] [b,c]=false:=by with_unfolding_all rfl):PE X (.Compare a [op,op'] [b,c] pos) (Ja r r' ta tb tc):=by
 intro QE s O H Q I h;show Compare_chain (QL (ha QE s O H _ I h) λv s1 ⟨x,H1,I1,r1,q1⟩=>chain_link (QL (hb QE s1 O H1 _ I1 q1) λu s2 ⟨y,H2,I2,r2,q2⟩ =>
  QL (ho QE s2 O H2 x y v u _ I2 r1 r2 q2) λd s3 ⟨z,H3,I3,r3,k,e,q3⟩=>?_)) hm
 subst e;cases r3;show N9 ?_;cases k with
 | false=>exact ite_ff ⟨.bl false,H3,I3,Z,q3⟩
 | true=>exact ite_tt (chain_last (QL (hc QE s3 O H3 _ I3 q3) λw' s4 ⟨z',H4,I4,r4,q4⟩=>ho' QE s4 O H4 y z' u w' Q I4 r2 r4 q4))
def AA (K:QG) (x:V) (H:Hp) (k:Bool):Prop :=
 match x with
 | .non=>k=false
 | .bl b=>k=b
 | .int i=>k=(i !=0)
 | .str y=>y.length<=sizeLine/\k=((y.length:Int) !=0)
 | .byt y=>y.size<=sizeLine/\k=((y.size:Int) !=0)
 | .ref p=>(∃xs,QF K H p xs/\k= !xs.isEmpty)\/(∃xs,QK K H p xs/\k= !xs.isEmpty)\/ ∃kvs,H p=some (.dK kvs)/\k= !kvs.isEmpty
 | _=>False
theorem AE {κ:Type}{kvs:List (κ×V)}{vs:List (κ×Value)}(r:KV kvs vs):(!vs.isEmpty)= !kvs.isEmpty:=by
 cases r <;> rfl
theorem uU {xs:List V}{its:List Value}(r:Vals xs its):(!its.toArray.isEmpty)= !xs.isEmpty:=by
 cases r <;> simp
theorem oY:(sizeLine:Nat) < 2 ^ 63:=by rw[Od]; decide
theorem JQ:LG X (λx H Q=> ∃k,AA X.K x H k/\Q k H):=by
 intro QE s O H x v Q I rx h;obtain⟨k,e,q⟩:=h;have hl:=oY;have hs:sizeLine=16777216:=Od;cases x with
 | non =>
  cases rx;have e':k=false:=e;subst e';exact truthy_none ⟨H,I,q⟩
 | bl b =>
  cases rx;have e':k=b:=e;subst e';exact N9 ⟨H,I,q⟩
 | int i =>
  ext:15;have e':k=(i !=0):=e;subst e';exact PySem.P.truthy_int ⟨H,I,q⟩
 | str y =>
  ext:15;obtain⟨hy,e'⟩:y.length<=sizeLine/\k=((y.length:Int) !=0):=e;subst e';exact PySem.P.truthy_str Y ⟨H,I.tok _,q⟩
 | byt y =>
  ext:15;obtain⟨hy,e'⟩:y.size<=sizeLine/\k=((y.size:Int) !=0):=e;subst e';exact PySem.W.truthy_bytes Y ⟨H,I.tok _,q⟩
 | ref p =>
  cases rx;have e':(∃xs,QF X.K H p xs/\k= !xs.isEmpty)\/(∃xs,QK X.K H p xs/\k= !xs.isEmpty)\/ ∃kvs,H p=some (.dK kvs)/\k= !kvs.isEmpty:=e;rcases e' with⟨xs,hx,e'⟩ | ⟨xs,hx,e'⟩ | ⟨kvs,hx,e'⟩
  .subst e';obtain⟨its,r,pl,hz⟩:=I.list hx;have hlen:=r.length;exact wpAny_truthy_list pl.isList (by simp only[Nb]; lia) ⟨H,I.tok _,by rw[uU r]; exact q⟩
  .subst e';obtain⟨its,r,pl,hz⟩:=I.tuple hx;have hlen:=r.length;exact truthy_tuple pl (by simp only[Nb]; lia) ⟨H,I.tok _,by rw[uU r]; exact q⟩
  .subst e';obtain⟨hz,hS,vs,r,m⟩:kvs.length<=sizeLine/\(p == sysModules)=false/\ ∃vs,KV kvs vs/\s.heap.DictOf (cv X.prog X.w) p vs:=I.hok p _ hx;have hlen:kvs.length=vs.length:=Qn r;exact wpAny_truthy_dict hS m Y ⟨H,I.tok _,by rw[AE r]; exact q⟩
 | _=>exact (show False from e).elim
theorem Fu (ha:PE X a ta) (he: ∀whole,isTrue a X.env whole=(do let v <-whole; standAt a.pos; holding [v] (truthy v))) :
  PT X a (λO H Q=>ta O H λx H'=> ∃k,AA X.K x H' k/\Q k H'):=by
 intro QE s O H Q I h;exact isTrue_plain (QL (ha QE s O H _ I h) λv s1 ⟨x,H1,I1,r1,q1⟩=>JQ QE s1 O H1 x v Q I1 r1 q1) (he _)
theorem A2:QU X (binaryOp .Add) (λx y H Q=> ∃i j,x= .str i/\y= .str j/\i.length+j.length<=sizeLine/\Q (.str (i++j)) H):=by
 ext:3;obtain⟨i,j,rfl,rfl,hz,q⟩:=h;ext:15;obtain⟨t',rfl⟩:=ry;exact add_str (λt' tk=>⟨.str (i++j),H,I.tok _,⟨_,Z⟩,q⟩) hz
variable{us:List Value}
theorem vals1 {x:V}(r:Vals [x] us): ∃u,us=[u]/\RelV x u:=by
 cases r with
 | cons r1 r2=>cases r2; exact⟨_,Z,r1⟩
theorem vals2 {x y:V}(r:Vals [x,y] us): ∃u w',us=[u,w']/\RelV x u/\RelV y w':=by
 cases r with
 | cons r1 r2 =>
  cases r2 with
  | cons r3 r4=>cases r4; exact⟨_,_,Z,r1,r3⟩
theorem kQ (hc:X.calm=true):du X (.builtin "max") (λxs H Q=> ∃i j,xs=[.int i,.int j]/\Q (.int (if j > i then j else i)) H):=by
 intro QE s O H xs us Q I r h;obtain⟨i,j,rfl,q⟩:=h;obtain⟨u,w',rfl,⟨t,rfl⟩,⟨t',rfl⟩⟩:=vals2 r;show max_two_ints (I.ok.hd hc) λh' tk k=>⟨_,H,I.kept k,?_,q⟩
 by_cases hj:j > i;.rw[MU hj,MU hj]; exact⟨_,Z⟩
 .rw[MP hj,MP hj]; exact⟨_,Z⟩
theorem qY (hc:X.calm=true):du X (.builtin "min") (λxs H Q=> ∃i j,xs=[.int i,.int j]/\Q (.int (if j < i then j else i)) H):=by
 intro QE s O H xs us Q I r h;obtain⟨i,j,rfl,q⟩:=h;obtain⟨u,w',rfl,⟨t,rfl⟩,⟨t',rfl⟩⟩:=vals2 r;show min_two_ints (I.ok.hd hc) λh' tk k=>⟨_,H,I.kept k,?_,q⟩
 by_cases hj:j < i;.rw[MU hj,MU hj]; exact⟨_,Z⟩
 .rw[MP hj,MP hj]; exact⟨_,Z⟩
theorem Cw:du X (.type "int") (λxs H Q=>(∃i,xs=[.int i]/\Q (.int i) H)\/ ∃k,xs=[.bl k]/\Q (.int (if k then 1 else 0)) H):=by
 intro QE s O H xs us Q I r h;rcases h with⟨i,rfl,q⟩ | ⟨k,rfl,q⟩
 .obtain⟨u,rfl,t,rfl⟩:=vals1 r;exact call_int_int ⟨.int i,H,I,⟨_,Z⟩,q⟩
 .obtain⟨u,rfl,r1⟩:=vals1 r;cases r1;exact call_int_bool ⟨.int (if k then 1 else 0),H,I.tok _,⟨_,Z⟩,q⟩
def Ij (K:QG) (x:V) (H:Hp) (n:Nat):Prop :=
 match x with
 | .str y=>y.length<=sizeLine/\n=y.length
 | .byt y=>y.size<=sizeLine/\n=y.size
 | .ref p=>(∃xs,QF K H p xs/\n=xs.length)\/ ∃xs,QK K H p xs/\n=xs.length
 | _=>False
theorem EH:du X (.builtin "len") (λxs H Q=> ∃x n,xs=[x]/\Ij X.K x H n/\Q (.int n) H):=by
 intro QE s O H xs us Q I r h;obtain⟨x,n,rfl,e,q⟩:=h;obtain⟨u,rfl,rx⟩:=vals1 r;have hl:=oY;have hs:sizeLine=16777216:=Od;cases x with
 | str y =>
  ext:15;obtain⟨hy,e'⟩:y.length<=sizeLine/\n=y.length:=e;subst e';exact len_str Y ⟨.int _,H,I.tok _,⟨_,Z⟩,q⟩
 | byt y =>
  ext:15;obtain⟨hy,e'⟩:y.size<=sizeLine/\n=y.size:=e;subst e';exact PySem.W.len_bytes Y ⟨.int _,H,I.tok _,⟨_,Z⟩,q⟩
 | ref p =>
  cases rx;have e':(∃xs,QF X.K H p xs/\n=xs.length)\/ ∃xs,QK X.K H p xs/\n=xs.length:=e;rcases e' with⟨xs,hx,e'⟩ | ⟨xs,hx,e'⟩
  .subst e';obtain⟨its,r',pl,hz⟩:=I.list hx;have hlen:=r'.length;exact Calls.call_len_list pl.isList (by simp only[Nb]; lia) ⟨.int xs.length,H,I.tok _,⟨_,by simp only[Nb]; rw[hlen]⟩,q⟩
  .subst e';obtain⟨its,r',pl,hz⟩:=I.tuple hx;have hlen:=r'.length;exact len_tuple pl (by simp only[Nb]; lia) ⟨.int xs.length,H,I.tok _,⟨_,by simp only[Nb]; rw[hlen]⟩,q⟩
 | _=>exact (show False from e).elim
end
structure tI (h:Heap) (x dx C:Addr) (mA:oR):Prop where
 obj:h.get? x=some (PySem.W.instObj C dx)
 ns:h.Ns1 dx mA
 ne:dx≠x
variable{mA:oR}
theorem B5 {dx:Addr}(n:h.Ns1 dx mA): ∃od,h.get? dx=some od/\ ∀name,PySem.W.lookIn name od=some (mA name):=by
 obtain⟨o,es,ep,ho,hd,hk,_,hm⟩:=n;show⟨o,ho,λname=>?_⟩;have e:=hm name;unfold nsFind findBy at e;rw[<-Array.find?_toList] at e;unfold PySem.W.lookIn;rw[hd];dsimp only;split
 .rename_i y q;rw[q] at e;exact NJ some e
 .rename_i q;rw[q] at e;have a:es.toList.any (·.refKey)=false:=by
   rw[Pz];intro y hy;obtain⟨z,t,hkey⟩:=hk y (Array.mem_toList_iff.mp hy);simp[DictEntry.refKey,hkey]
  have a': ¬es.toList.any (·.refKey)=true:=by rw[a]; exact Nd
  rw[MP a'];exact NJ some e
variable{C:Addr}
theorem tI.look {x dx:Addr}(I:tI h x dx C mA): ∃od,PySem.W.InstAt h x (PySem.W.instObj C dx) C (some od)/\ ∀name,PySem.W.lookIn name od=some (mA name) :=
 let ⟨od,ho,hl⟩:=B5 I.ns
 ⟨od,⟨I.obj,Z,Z,ho⟩,hl⟩
section
variable {prog:Program}{w:World}{A:Around}{E:nE}{s:Shared}{K:QG}{x dx C f:Addr}{mA:oR}{name:Str}{v:Value}
theorem get_map {expr:Bool}{Q:nE}(X:K.In s.heap) (I:tI s.heap x dx C mA) (hg:PySem.W.plainGet K C name=true) (hh:PySem.W.hasDictIn K C=true)
  (ha:PySem.W.findIn K (.ref C) name=some none) (hv:mA name=some v) (hv':PySem.W.handedIn v=true) (h:Q v { s with toks:=s.toks+1 }) :
  wpAny (model prog w) A (getAttr (.ref x) name expr) Q E s:=by
 obtain⟨od,J,hl⟩:=I.look;exact PySem.W.get_value X J (Qc hg).1 (PySem.W.findObj_own hh ha rfl (by rw[hl,hv])) hv' h
theorem FV {pl:Sem Bool}{Q:Value×List Value->Shared->Prop}(X:K.In s.heap) (I:tI s.heap x dx C mA) (hg:PySem.W.plainGet K C name=true)
  (hf:PySem.W.findIn K (.ref C) name=some (some (.ref f))) (ht:PySem.W.isFn K (.ref f)=true) (hv:mA name=none) (h:Q (.ref f,[.ref x]) s) :
  wpAny (model prog w) A (getMethod (.ref x) name pl) Q E s:=by
 obtain⟨od,J,hl⟩:=I.look;exact PySem.W.method_fn X J (Qc hg).1 (Qc hg).2 hf (beq_iff_eq.mp ht) (by change (PySem.W.lookIn name od).map (·.isSome)=some false; rw[hl,hv]; rfl) h
theorem GU {ns:List Str}{Q:Unit->Shared->Prop}(X:K.In s.heap) (I:tI s.heap x dx C mA)
  (hs:PySem.W.findIn K (.ref C) "__setattr__" = some (some (.builtin "object.__setattr__"))) (hp:PySem.W.plainOver K C=true) (ht:PySem.W.takerIn K C name=some none) (hh:PySem.W.hasDictIn K C=true)
  (hw:PySem.Within mA ns) (hsz:ns.length<=sizeLine)
  (h: ∀h',tI h' x dx C (λy=>if y=name then some v else mA y)->Heap.SameBut dx s.heap h'->Q () { s with heap:=h',toks:=s.toks+2 }) :
  wpAny (model prog w) A (setAttr (.ref x) name v) Q E s:=by
 obtain⟨od,J,hl⟩:=I.look;show PySem.W.set_plain X J hs (PySem.W.osa_open (s:={ s with toks:=s.toks+1 }) (r:=none) X J hp ht λb=>?_);obtain⟨cd,hc,hd'⟩:=PySem.W.any_some hh;have hx:s.heap.get? x=some ⟨.ref C,some dx,.plain,#[]⟩:=I.obj;show MY (Nj (MY (MY (wpAny_loadPart hx (MY (PySem.W.Looks.here (s:={ s with toks:=s.toks+1 }) (PySem.W.looks_clsIn X hc) ?_))))));rw[hd'];show Nj (a:=some dx) (MY (Nj (MY ?_)));show wpAny_nsSet1 (s:={ s with toks:=s.toks+1 }) I.ns λh' hn2 hs2=>?_;obtain⟨oD,esD,epD,hoD,hdD,hcD⟩:=hn2.count (PySem.Within.cons name v hw);show MY (wpAny_lookBehind hoD (by rw[hdD]; exact pastItsLine_dict (Ng hcD (by rw[Nk]; lia))) ?_);exact Nj (h _ ⟨(hs2.2 _ (Nu I.ne)).trans I.obj,hn2,I.ne⟩ hs2)
theorem Fp {R:Result->Shared->Prop}{vs:List Value}{kw:List (Str×Value)}(X:K.In s.heap) (hm:PySem.W.makesIn K C=true)
  (hi:PySem.W.findIn K (.ref C) "__init__" = some (some (.ref f))) (hf:PySem.W.typeIn K (.ref f)=some (.type "function"))
  (h:codeAny (model prog w) (A.under (.builtin "type.__call__" ⟨.ref C::vs,kw⟩)) (.call (.ref f) ⟨.ref (s.heap.objs.size+1)::vs,kw⟩) (PySem.W.InitBack (s.heap.objs.size+1) R)
   { s with heap:=(s.heap.push PySem.W.emptyDict).push (PySem.W.instObj C s.heap.objs.size) }) :
  codeAny (model prog w) A (.call (.ref C) ⟨vs,kw⟩) R s:=by
 obtain⟨hh,g,d,t,os⟩:=s;exact PySem.W.make_core (PySem.W.makes_of X hm) (PySem.W.looks_findIn X hi) (λself=>PySem.W.bind_fn X self hf) (.inl rfl) h
end
def fQ (f:Str) (v:V):List (Str×V)->List (Str×V)
 | []=>[(f,v)]
 | (g,x)::r=>if g=f then (g,v)::r else (g,x)::fQ f v r
theorem sQ (f g:Str) (v:V): ∀fs:List (Str×V),(fQ f v fs).lookup g=if g=f then some v else fs.lookup g
 | []=>by
  change List.lookup g [(f,v)]=_;by_cases h:g=f
  .have hb:(g == f)=true:=beq_iff_eq.mpr h;simp only[List.lookup,hb,MU h]
  .have hb:(g == f)=false:=beq_eq_false_iff_ne.mpr h;simp only[List.lookup,hb,MP h]
 | (k,x)::r=>by
  have ih:=sQ f g v r;rw[show fQ f v ((k,x)::r)=(if k=f then (k,v)::r else (k,x)::fQ f v r) from rfl];by_cases hk:k=f
  .rw[MU hk];by_cases h:g=k
   .have hb:(g == k)=true:=beq_iff_eq.mpr h;simp only[List.lookup,hb,MU (h.trans hk)]
   .have hb:(g == k)=false:=beq_eq_false_iff_ne.mpr h;simp only[List.lookup,hb,MP (λe:g=f=>h (e.trans hk.symm))]
  .rw[MP hk];by_cases h:g=k
   .have hb:(g == k)=true:=beq_iff_eq.mpr h;simp only[List.lookup,hb,MP (λe:g=f=>hk (h.symm.trans e))]
   .have hb:(g == k)=false:=beq_eq_false_iff_ne.mpr h;simp only[List.lookup,hb];exact ih
theorem rL (f:Str) (v:V): ∀fs:List (Str×V),f∈(fQ f v fs).map (·.1)/\ ∀g,g∈fs.map (·.1)->g∈(fQ f v fs).map (·.1)
 | []=>⟨by simp[fQ],λg h=>by simp at h⟩
 | (k,x)::r=>by
  obtain⟨i1,i2⟩:=rL f v r;rw[show fQ f v ((k,x)::r)=(if k=f then (k,v)::r else (k,x)::fQ f v r) from rfl];by_cases hk:k=f
  .rw[MU hk];subst hk;exact⟨by simp,λg h=>by simpa using h⟩
  .rw[MP hk];show⟨?_,λg h=>?_⟩
   .rw[ND];exact M4 _ i1
   .rw[ND] at h ⊢;rcases M3.mp h with e | e
    .exact M3.mpr (.inl e)
    .exact M4 _ (i2 g e)
theorem sW (f:Str) (v:V): ∀fs:List (Str×V),(fQ f v fs).length<=fs.length+1
 | []=>by simp[fQ]
 | (k,x)::r=>by
  have ih:=sW f v r;rw[show fQ f v ((k,x)::r)=(if k=f then (k,v)::r else (k,x)::fQ f v r) from rfl];by_cases hk:k=f;.rw[MU hk,Nk,Nk]; lia
  .rw[MP hk,Nk,Nk]; lia
theorem fY.some_of {v:V}{o:Option Value}(r:fY (some v) o): ∃u,o=some u/\RelV v u:=by
 cases o with
 | none=>exact (show False from r).elim
 | some u=>exact⟨u,Z,r⟩
theorem fY.none_of {o:Option Value}(r:fY none o):o=none:=by
 cases o with
 | none=>rfl
 | some u=>exact (show False from r).elim
theorem CP {v:V}(r:RelV v u):PySem.W.handedIn u=true:=by
 cases v with
 | non=>cases (show u=Value.none from r); rfl
 | bl b=>cases (show u=Value.bool b from r); rfl
 | int i=>obtain⟨t,e⟩:=(show ∃t,u=Value.int i t from r); cases e; rfl
 | str x=>obtain⟨t,e⟩:=(show ∃t,u=Value.str x t from r); cases e; rfl
 | byt b=>obtain⟨t,e⟩:=(show ∃t,u=Value.bytes b t from r); cases e; rfl
 | flt b=>obtain⟨t,e⟩:=(show ∃t,u=Value.float b t from r); cases e; rfl
 | ref a=>cases (show u=Value.ref a from r); rfl
 | ty n=>cases (show u=Value.type n from r); rfl
section
variable {P:Program}{w:World}{H H':Hp}{h h':Heap}{a C dx:Addr}{fs fs':List (Str×V)}
theorem vb (hok:QW P w H h) (e:H a=some (.ins C dx fs)): ∃mA,tI h a dx C mA/\(∀f,fY (fs.lookup f) (mA f))/\PySem.Within mA (fs.map (·.1))/\fs.length<=1000/\H dx=some (.own a):=by
 obtain⟨d,z,ne,ob,mA,n,r,q⟩:=(show cW P w H h a (.ins C dx fs) from hok a _ e)
 exact⟨mA,⟨ob,n,ne⟩,r,q,z,d⟩
end
structure Rn (K:QG) (C:Addr):Prop where
 pg:PySem.W.plainGet K C Str.empty=true
 hd:PySem.W.hasDictIn K C=true
 po:PySem.W.plainOver K C=true
 sa:PySem.W.findIn K (.ref C) "__setattr__" = some (some (.builtin "object.__setattr__"))
theorem Rn.get(c:Rn K C) (f:Str):PySem.W.plainGet K C f=true:=c.pg
def f6 (K:QG) (C:Addr) (f:Str):Prop:=PySem.W.findIn K (.ref C) f=some none
theorem f6.KS {f:Str}(n:f6 K C f):PySem.W.takerIn K C f=some none:=by
 unfold PySem.W.takerIn;rw[show PySem.W.findIn K (.ref C) f=some none from n];rfl
structure S0 (K:QG) (C:Addr) (f:Str) (v:V) (u:Value):Prop where
 at_:PySem.W.findIn K (.ref C) f=some (some u)
 rel:RelV v u
 get:PySem.W.specialIn K u "__get__" = some none
 cp:PySem.W.copiedNames.contains f=false
structure Meth (K:QG) (C:Addr) (m:Str) (f:Addr):Prop where
 at_:PySem.W.findIn K (.ref C) m=some (some (.ref f))
 fn:PySem.W.isFn K (.ref f)=true
 kp:PySem.W.keepIn K (.ref f)=true
section
variable {X:Cx}{QE:mK}{O:St}{H:Hp}{s:Shared}{a C dx:Addr}{fs:List (Str×V)}{f:Str}{v:V}{A:Around}{E:nE}
variable{Q:nE}
theorem AR {b:Bool}(I:Inv X QE O H s) (e:H a=some (.ins C dx fs)) (c:Rn X.K C) (n:f6 X.K C f) (l:fs.lookup f=some v)
  (h: ∀u s',Inv X QE O H s'->RelV v u->Q u s'):wpAny (model X.prog X.w) A (getAttr (.ref a) f b) Q E s:=by
 obtain⟨mA,eQ,r,_,_,_⟩:=vb I.hok e;obtain⟨u,hu,ru⟩:=fY.some_of (v:=v) (o:=mA f) (by rw[<-l]; exact r f);exact get_map I.Rh eQ (c.get f) c.hd n hu (CP ru) (h u _ (I.tok _) ru)
theorem jq {m:Str}{g:Addr}{pl:Sem Bool}{Q:Value×List Value->Shared->Prop}(I:Inv X QE O H s) (e:H a=some (.ins C dx fs)) (c:Rn X.K C) (k:Meth X.K C m g) (l:fs.lookup m=none)
  (h:Q (.ref g,[.ref a]) s):wpAny (model X.prog X.w) A (getMethod (.ref a) m pl) Q E s:=by
 obtain⟨mA,eQ,r,_,_,_⟩:=vb I.hok e;have hn:mA m=none:=fY.none_of (by rw[<-l]; exact r m);exact FV I.Rh eQ (c.get m) k.at_ k.fn hn h
theorem A3 {y:V}{u:Value}{Q:Unit->Shared->Prop}(I:Inv X QE O H s) (e:H a=some (.ins C dx fs)) (c:Rn X.K C) (n:f6 X.K C f) (hl:fs.length < 1000) (ry:RelV y u)
  (h: ∀s',Inv X QE O (upd H a (.ins C dx (fQ f y fs))) s'->Q () s'):wpAny (model X.prog X.w) A (setAttr (.ref a) f u) Q E s:=by
 obtain⟨mA,eQ,r,wi,_,ho⟩:=vb I.hok e;have hz:(fs.map (·.1)).length<=sizeLine:=by rw[MO,Od]; lia
 show GU I.Rh eQ c.sa c.po n.KS c.hd wi hz λh' O' sb=>h _ ?_;have hd: ∃o,h'.get? dx=some o:=let ⟨o,_,_,e',_⟩:=O'.ns; ⟨o,e'⟩;show I.write (x:=a) (e:=dx) (by rw[e]; exact True.intro) (.inr ho) (λb q hb z=>(sb.2 b hb).trans z) hd ?_;show⟨by rw[ah eQ.ne]; exact ho,?_,eQ.ne,O'.obj,_,O'.ns,λg=>?_,λg hg=>?_⟩;.have:=sW f y fs; lia
 .change fY ((fQ f y fs).lookup g) (if g=f then some u else mA g);rw[sQ];by_cases q:g=f;.rw[MU q,MU q]; exact ry
  .rw[MP q,MP q]; exact r g
 .by_cases q:g=f;.rw[q]; exact (rL f y fs).1
  .show (rL f y fs).2 g (wi g λz=>hg ?_);change (if g=f then some u else mA g)=none;rw[MP q]; exact z
theorem Inv.made (I:Inv X QE O H s):Inv X QE O (upd (upd H s.heap.objs.size (.own (s.heap.objs.size+1))) (s.heap.objs.size+1) (.ins C s.heap.objs.size []))
  { s with heap:=(s.heap.push PySem.W.emptyDict).push (PySem.W.instObj C s.heap.objs.size) }:=by
 have e1:(s.heap.push PySem.W.emptyDict).get? s.heap.objs.size=some PySem.W.emptyDict:=Nq s.heap rfl;have e2:((s.heap.push PySem.W.emptyDict).push (PySem.W.instObj C s.heap.objs.size)).get? (s.heap.objs.size+1)=some (PySem.W.instObj C s.heap.objs.size):=by
  have:=Nq (s.heap.push PySem.W.emptyDict) (o:=PySem.W.instObj C s.heap.objs.size) rfl
  rwa [Oe] at this
 have e3:(s.heap.push PySem.W.emptyDict).Ns s.heap.objs.size (λ_=>none):=⟨PySem.W.emptyDict,#[],_,e1,Z,(λe he=>absurd he (by simp)),λ_=>rfl⟩
 have I1:=I.laid (a:=s.heap.objs.size) (o:= .own (s.heap.objs.size+1)) (h':=s.heap.push PySem.W.emptyDict) (t':=s.toks) (λb u q=>MV _ q) (MZ _) ⟨_,e1⟩;show I1.laid (a:=s.heap.objs.size+1) (o:= .ins C s.heap.objs.size []) (t':=s.toks) (λb u q=>MV _ q) (Pc (Oe _ _)) ?_;have ne:s.heap.objs.size≠s.heap.objs.size+1:=Nt (Oo _);show⟨by rw[ah ne,aa],NN _,ne,e2,λ_=>none,(Heap.Ns1.of_empty e3).at λo q=>MV _ q,λ_=>True.intro,λy hy=>absurd rfl hy⟩
theorem GX {prog:Program}{w:World}{env:Env}{e:Expr}{f:Str}{pos:Pos}{s:Shared}(hb:attributeBase e f env (eval e env)=eval e env)
  (h:wpAny (model prog w) A (eval e env) (λo s₁=>wpAny (model prog w) A (getAttr o f true) Q E s₁) E s):wpAny (model prog w) A (eval (.Attribute e f pos) env) Q E s :=
 Attribute_any_ h (by rw[arm_eval_Attribute,hb])
end
inductive KD (K:QG) (f:Str) (Q:VK) (x:V) (H1:Hp):Prop | mk (a C dx fs v:_) (e0:x= .ref a) (e1:H1 a=some (.ins C dx fs)) (e2:Rn K C) (e3:f6 K C f) (e4:fs.lookup f=some v) (q:Q v H1)
def JO (K:QG) (ta:TE) (f:Str):TE:=λO H Q=>ta O H λx H1=>KD K f Q x H1
inductive MF (K:QG) (f:Str) (Q:VK) (x:V) (H1:Hp):Prop | mk (a C dx fs v u:_) (e0:x= .ref a) (e1:H1 a=some (.ins C dx fs)) (e2:Rn K C) (e3:S0 K C f v u) (e4:fs.lookup f=none) (q:Q v H1)
inductive Kg (K:QG) (f:Str) (D:Ends) (O:St) (y x:V) (H2:Hp):Prop | mk (a C dx fs:_) (e0:x= .ref a) (e1:H2 a=some (.ins C dx fs)) (e2:Rn K C) (e3:f6 K C f) (e4:fs.length < 1000) (q:D.nx O (upd H2 a (.ins C dx (fQ f y fs))))
def LV (K:QG) (ta tv:TE) (f:Str):TS:=λD O H=>tv O H λy H1=>ta O H1 λx H2=>Kg K f D O y x H2
section
variable {X:Cx}{o e value:Expr}{f:Str}{pos pos' tpos:Pos}{ta tv:TE}
theorem Ji (he:PE X e ta) (hb:attributeBase e f X.env (eval e X.env)=eval e X.env):PE X (.Attribute e f pos) (JO X.K ta f):=by
 intro QE s O H Q I h;show GX hb (QL (he QE s O H _ I h) λu s1 hm=>?_);obtain⟨x,H1,I1,rx,a,C,dx,fs,v,ex,ea,c,n,l,q⟩:=hm;subst ex;obtain rfl:u=Value.ref a:=rx;exact AR I1 ea c n l λu' s2 I2 ru=>⟨v,H1,I2,ru,q⟩
theorem jy (ha:PE X o ta) (hv:PE X value tv) (hs:swapsWith value (some (.Attribute o f pos')) pos.line X.env=pure false):PS X (.Assign [.Attribute o f pos'] value pos) (LV X.K ta tv f):=by
 intro QE s O H D I h;show plainObj_wpAny_Assign_Attribute (QL (hv QE s O H _ I h) λu s1 ⟨y,H1,I1,ry,q⟩=>QL (ha QE s1 O H1 _ I1 q) λov s2 hm=>?_) hs;obtain⟨x,H2,I2,rx,a,C,dx,fs,ex,ea,c,n,l,q2⟩:=hm;subst ex;obtain rfl:ov=Value.ref a:=rx;exact A3 I2 ea c n l ry λs3 I3=>⟨O,_,I3,q2⟩
inductive My (x y:V) (H:Hp) (Q:VK):Prop | mk (i j:_) (e0:x= .int i) (e1:y= .int j) (q:Q (.int (i+j)) H)
inductive MH (x y:V) (H:Hp) (Q:VK):Prop | mk (i j:_) (e0:x= .int i) (e1:y= .int j) (q:Q (.int (i - j)) H)
theorem Ka {pl:Sem Bool}{m:Str}{apos:Pos}{args:List Expr}{QE:mK}{s:Shared}{O:St}{H:Hp}{Q:nE}{te:TE}(he:PE X e te) (I:Inv X QE O H s)
  (h:te O H λx H1=> ∃a C dx fs g,x= .ref a/\H1 a=some (.ins C dx fs)/\Rn X.K C/\Meth X.K C m g/\fs.lookup m=none /\
   ∀s1,Inv X QE O H1 s1->wpAny (model X.prog X.w) X.A (callWith pos (.ref g) [.ref a] (backTo pos (starEach args X.env)) (backToKw pos (keywordEach [] X.env))) Q X.xe s1)
  (ht:eval (.Call (.Attribute e m apos) args [] pos) X.env=(do
   let ov <-eval e X.env
   standAt apos.atName
   let (f,first) <-holding [ov] (getMethod ov m pl)
   callWith pos f first (backTo pos (starEach args X.env)) (backToKw pos (keywordEach [] X.env)))) :
  wpAny (model X.prog X.w) X.A (eval (.Call (.Attribute e m apos) args [] pos) X.env) Q X.xe s:=by
 show OM (pl:=pl) (QL (he QE s O H _ I h) λu s1 hm=>?_) ht;obtain⟨x,H1,I1,rx,a,C,dx,fs,g,ex,ea,c,k,l,q⟩:=hm;subst ex;obtain rfl:u=Value.ref a:=rx;exact jq I1 ea c k l (q s1 I1)
end
section
variable {X:Cx}{QE:mK}{O:St}{H:Hp}{s:Shared}{A:Around}{E:nE}{Q:nE}{c:Value}{b:Bool}
inductive my (K:QG) (H:Hp):V->Value->Prop where
 | non:my K H .non (.type "NoneType")
 | bl (x:Bool):my K H (.bl x) (.type "bool")
 | int (i:Int):my K H (.int i) (.type "int")
 | str (x:Str):my K H (.str x) (.type "str")
 | flt (x:UInt64):my K H (.flt x) (.type "float")
 | lst {a:Addr}{xs:List V} (e:H a=some (.lst xs)):my K H (.ref a) (.type "list")
 | frz {a:Addr}{o:Obj}{xs:List V} (e:H a=some (.frz o (.lst xs))):my K H (.ref a) (.type "list")
 | tup {a:Addr}{xs:List V} (e:H a=some (.tup xs)):my K H (.ref a) (.type "tuple")
 | dK {a:Addr}{kvs:List (Key×V)} (e:H a=some (.dK kvs)):my K H (.ref a) (.type "dict")
 | dT {a:Addr}{kvs:List (List Key×V)} (e:H a=some (.dT kvs)):my K H (.ref a) (.type "dict")
 | ins {a C dx:Addr}{fs:List (Str×V)} (e:H a=some (.ins C dx fs)) (cl:Rn K C) (ha:PySem.W.findIn K (.ref C) "__class__" = some (some (.builtin "object.__class__")))
   (hn:PySem.W.specialIn K (.builtin "object.__class__") "__get__" = some (some (.builtin "getset_descriptor.__get__"))) (htk:PySem.W.takesIn K (.builtin "object.__class__")=some true)
   (hm:PySem.W.mroIn K C (.type "object")=some true):my K H (.ref a) (.ref C)
end
structure bC (k:Nat) (A:Around):Prop where
 hd:A.handled=none
 dp:A.depth+3*k+5 < recursionLimit
 un:A.units+16*k+200 < cLine
theorem bC.mono {j k:Nat}(r:bC k A) (h:j<=k):bC j A:=⟨r.hd,by have:=r.dp; lia,by have:=r.un; lia⟩
theorem bC.deeper {k:Nat}(r:bC (k+1) A) (env:Env):bC k (A.deeper env) :=
 ⟨r.hd,by have:=r.dp; change A.depth+1+3*k+5 < _; lia,by have:=r.un; change A.units+3+16*k+200 < _; lia⟩
variable{kw:List (Str×Value)}
theorem A4:(A.under (.builtin "type.__call__" ⟨.ref C::us,kw⟩)).depth=A.depth+1:=by
 first | rfl | simp[Around.under,Code.weight,Code.isCreation,Code.isGuard,Code.isCaller,Code.frames,Code.isFrame,guardIds]
theorem BE:(A.under (.builtin "type.__call__" ⟨.ref C::us,kw⟩)).units=A.units+1:=by
 first | rfl | simp[Around.under,Code.cUnits,Code.frames,Code.isFrame]
theorem bC.make {k:Nat}(r:bC (k+1) A) (C:Addr) (us:List Value) (kw:List (Str×Value)):bC k (A.under (.builtin "type.__call__" ⟨.ref C::us,kw⟩)) :=
 ⟨r.hd,by have:=r.dp; rw[A4]; lia,by have:=r.un; rw[BE]; lia⟩
theorem bC.depth {k:Nat}(r:bC k A):A.depth < recursionLimit:=by have:=r.dp; lia
theorem bC.units {k:Nat}(r:bC k A):A.units+64 < cLine:=by have:=r.un; lia
def m8:TA:=λ_ H Q=>Q [] H
def nB (ta:TE) (tr:TA):TA:=λO H Q=>ta O H λx H1=>tr O H1 λxs H2=>Q (x::xs) H2
section
variable {X:Cx}{e:Expr}{es:List Expr}{te:TE}{t:TA}{pos:Pos}
theorem cP:PA X [] m8:=λ_ _ _ _ H Q I h=>Calls.spliced_nil ⟨[],H,I,.nil,h⟩
theorem G8 (ha:PE X e te) (hr:PA X es t) (hs:starEach (e::es) X.env=(false,eval e X.env)::starEach es X.env:=by rfl):PA X (e::es) (nB te t):=by
 intro pos QE s O H Q I h;rw[hs];change wpAny _ _ (spliced ((false,eval e X.env)::backTo pos (starEach es X.env))) _ _ s;show Qj (QL (ha QE s O H _ I h) λu s1 ⟨x,H1,I1,r1,q1⟩=>?_);exact QL (hr pos QE s1 O H1 _ I1 q1) λus s2 ⟨xs,H2,I2,r2,q2⟩=>⟨x::xs,H2,I2,.cons r1 r2,q2⟩
inductive Lg (xs:List V) (H:Hp) (Q:VK):Prop | mk (e:xs.length<=sizeLine) (q: ∀p,H p=none->Q (.ref p) (upd H p (.tup xs)))
def IU (t:TA):TE:=λO H Q=>t O H λxs H1=>Lg xs H1 Q
inductive KW (xs:List V) (H:Hp) (Q:VK):Prop | mk (e:xs.length<=sizeLine) (q: ∀p,H p=none->Q (.ref p) (upd H p (.lst xs)))
def LI (t:TA):TE:=λO H Q=>t O H λxs H1=>KW xs H1 Q
theorem bR {x1}(h:PA X es t):PE X (.Tuple es x1 pos) (IU t):=by
 intro QE s O H Q I hq;show wpAny_Tuple_spliced (QL (h pos QE s O H _ I hq) λus s1 ⟨xs,H1,I1,r,z,q⟩=>⟨by rw[<-r.length]; exact z,?_⟩);have hf:H1 s1.heap.objs.size=none:=I1.hok.fresh (MZ _);show⟨.ref s1.heap.objs.size,upd H1 s1.heap.objs.size (.tup xs),I1.laid (t':=s1.toks) (λb u e=>MV _ e) (MZ _) ?_,Z,q _ hf⟩;exact⟨z,us,r,⟨_,Nq _ rfl,Z,_,Z⟩⟩
theorem ba (h:PA X es t):PE X (.List es pos) (LI t):=by
 intro QE s O H Q I hq;show wpAny_List_spliced (QL (h pos QE s O H _ I hq) λus s1 ⟨xs,H1,I1,r,z,q⟩=>⟨by rw[<-r.length]; exact z,?_⟩);have hf:H1 s1.heap.objs.size=none:=I1.hok.fresh (MZ _);show⟨.ref s1.heap.objs.size,upd H1 s1.heap.objs.size (.lst xs),I1.laid (t':=s1.toks) (λb u e=>MV _ e) (MZ _) ?_,Z,q _ hf⟩;exact⟨z,us,0,r,Nq _ rfl⟩
end
abbrev Sp:=List V->Hp->VK->XK->Prop
abbrev Rk:=List Env->Hp->Shared->XK->Value->Shared->Prop
structure qz (P:Program) (w:World) (K:QG) (mg:oR) (base:Heap) (A:Around) (outer:List Env) (s:Shared) (H:Hp):Prop where
 frames:A.frames=some outer
 mod:Mod K mg base
 bs: ∀b o,base.get? b=some o->s.heap.get? b=some o/\H b=none
 bsz:base.objs.size<=s.heap.objs.size
 eO:s.heap.FunFrames base outer
 frf: ∀b∈Rq outer,H b=none
 hok:QW P w H s.heap
 bare:AllBare s.gens
def CE (outer:List Env) (P:Program) (w:World) (H:Hp) (s:Shared) (Q:VK) (u:Value) (s':Shared):Prop :=
 ∃v H',s'.os=s.os/\AllBare s'.gens/\Un (Rq outer) [] H H' s.heap s'.heap/\QW P w H' s'.heap/\RelV v u/\Q v H'
def CR (CX:Rk) (outer:List Env) (P:Program) (w:World) (H:Hp) (s:Shared) (Q:VK) (E:XK) (r:Result) (s':Shared):Prop :=
 match r with
 | .ok (.ret u)=>CE outer P w H s Q u s'
 | .ok _=>False
 | .error e=>CX outer H s E e s'
structure dC (P:Program) (w:World) (K:QG) (mg:oR) (base:Heap) (CX:Rk) (k:Nat) (f:Addr) (fd:FuncData) (ps:List Str) (sp:Sp):Prop where
 len: ∀vs H Q E,sp vs H Q E->vs.length=ps.length
 run: ∀(A:Around) (outer:List Env) (s:Shared) (H:Hp) (args:Args) (us:List Value) (vs:List V) (Q:VK) (E:XK),bC k A->qz P w K mg base A outer s H->BindsTo s fd args (ps.zip us)->Vals vs us->sp vs H Q E ->
  codeAny (model P w) A (.call (.ref f) args) (CR CX outer P w H s Q E) s
variable{mg:oR}{base:Heap}{CX:Rk}{f:Addr}{fd:FuncData}{ps:List Str}
theorem dC.mono {j k:Nat}{sp:Sp}(F:dC P w K mg base CX j f fd ps sp) (h:j<=k) :
  dC P w K mg base CX k f fd ps sp:=⟨F.len,λA outer s H args us vs Q E hr=>F.run A outer s H args us vs Q E (hr.mono h)⟩
variable{outer:List Env}
theorem qz.make(e:qz P w K mg base A outer s H) (C:Addr) (us:List Value) (kw:List (Str×Value)) :
  qz P w K mg base (A.under (.builtin "type.__call__" ⟨.ref C::us,kw⟩)) outer s H:=⟨by first | exact e.frames | (simpa [Around.under,Code.envs,Code.isFrame,pushEnvs] using e.frames),e.mod,e.bs,e.bsz,e.eO,e.frf,e.hok,e.bare⟩
section
variable {X:Cx}{QE:mK}{O:St}{H:Hp}{s s':Shared}
theorem Inv.EK (I:Inv X QE O H s):qz X.prog X.w X.K X.mg X.base X.A X.stack s H :=
 ⟨I.ok.frames,I.ok.mod,I.bs,Ng I.ok.bsz I.sz,I.stack,I.r9,I.hok,I.bare⟩
theorem Inv.after {Q:VK}{u:Value}(I:Inv X QE O H s) (h:CE X.stack X.prog X.w H s Q u s'):EP X QE O Q u s':=by
 obtain⟨v,H',os,bare,un,hok,r,q⟩:=h;obtain⟨hh,g,d,t,os'⟩:=s';obtain rfl:os'=s.os:=os;exact⟨v,H',I.call (h':=hh) (g':=g) (d':=d) (t':=t) (ch:=[]) un hok bare (λb z=>absurd z (by simp)),r,q⟩
end
def Gq (sp:Sp) (dvs:List V) (E:XK) (t:TA):TE:=λO H Q=>t O H λvs H1=>sp (vs++dvs) H1 Q E
inductive Ii (C:Addr) (m:Str) (x:V) (H1:Hp) (k:Prop):Prop | mk (a dx fs:_) (e0:x= .ref a) (e1:H1 a=some (.ins C dx fs)) (e2:fs.lookup m=none) (q:k)
def xn (C:Addr) (m:Str) (sp:Sp) (dvs:List V) (E:XK) (ta:TE) (t:TA):TE:=λO H Q=>ta O H λx H1=>Ii C m x H1 (t O H1 λvs H2=>sp (x::(vs++dvs)) H2 Q E)
def Gb (C:Addr) (sp:Sp) (dvs:List V) (E:XK) (t:TA):TE:=λO H Q=>t O H λvs H1=> ∀x dx,H1 x=none->H1 dx=none->dx≠x ->
 sp (.ref x::(vs++dvs)) (upd (upd H1 dx (.own x)) x (.ins C dx [])) (λv H2=>v= .non/\Q (.ref x) H2) E
def Binds (K:QG) (fd:FuncData) (ps:List Str) (ds:List Value):Prop :=
 ∀(s:Shared) (us:List Value),K.In s.heap->(us++ds).length=ps.length->BindsTo s fd ⟨us,[]⟩ (ps.zip (us++ds))
theorem Binds.all(h: ∀us:List Value,us.length=ps.length->bindArgs fd ⟨us,[]⟩=pure (ps.zip us)):Binds K fd ps []:=λs us _ hl=>by
 rw[Oy] at hl ⊢;exact .of_eq (h us hl)
def Passes (CX:Rk) (X:Cx) (E:XK):Prop:= ∀(QE:mK) (O:St) (H:Hp) (s:Shared) (e:Value) (s':Shared),Inv X QE O H s->CX X.stack H s E e s'->X.xe e s'
section
variable {X:Cx}{CX:Rk}{k:Nat}{f C:Addr}{fd:FuncData}{ps:List Str}{sp:Sp}{dvs:List V}{ds:List Value}{E:XK}{x m:Str}{p pos apos:Pos}{e o:Expr}{es:List Expr}{ta:TE}{t:TA}
variable{QE:mK}
theorem yt {O:St}{H:Hp}{s:Shared}{Q:VK}{us:List Value}{vs:List V}(F:dC X.prog X.w X.K X.mg X.base CX k f fd ps sp) (hr:bC k X.A) (hb:Binds X.K fd ps ds) (hd:Vals dvs ds) (hx:Passes CX X E)
  (I:Inv X QE O H s) (r:Vals vs us) (h:sp (vs++dvs) H Q E):wpAny (model X.prog X.w) X.A (call (.ref f) us) (EP X QE O Q) X.xe s:=by
 have r2:Vals (vs++dvs) (us++ds):=r.append hd;have hl:(us++ds).length=ps.length:=by rw[<-r2.length]; exact F.len _ _ _ _ h
 show Pt (O1 (F.run X.A X.stack s H ⟨us,[]⟩ (us++ds) (vs++dvs) Q E hr I.EK (hb s us I.Rh hl) r2 h) λr s' hq=>?_);cases r with
 | error e=>exact hx QE O H s e s' I hq
 | ok fl =>
  cases fl with
  | ret u=>exact I.after hq
  | next=>exact False.elim hq
  | brk=>exact False.elim hq
  | cont=>exact False.elim hq
theorem HB (F:dC X.prog X.w X.K X.mg X.base CX k f fd ps sp) (hr:bC k X.A) (hg:Gl X x) (hm:X.mg x=some (.ref f)) (hk:PySem.W.keepIn X.K (.ref f)=true) (hb:Binds X.K fd ps ds) (hd:Vals dvs ds) (hx:Passes CX X E)
  (ha:PA X (e::es) t) (hdb:(x == ("__debug__" : Str))=false:=by decide) (he:starEach (e::es) X.env=(false,eval e X.env)::starEach es X.env:=by rfl) (hpl:(backTo pos (starEach es X.env)).any (·.1)=false:=by rfl) :
  PE X (.Call (.Name x p) (e::es) [] pos) (Gq sp dvs E t):=by
 intro QE s O H Q I h;show Ow (mq I hg hm ?_ hdb);show Pq (h₀:=X.base) I.ok.mod.kin hk (QL (ha pos QE s O H _ I h) λus s1 ⟨vs,H1,I1,r,q⟩=>⟨I1.Rh,?_⟩) he hpl;exact yt F hr hb hd hx I1 r q
variable{pl:Sem Bool}
theorem HW(he:PE X o ta) (c:Rn X.K C) (hm:Meth X.K C m f) (F:dC X.prog X.w X.K X.mg X.base CX k f fd ps sp) (hr:bC k X.A) (hb:Binds X.K fd ps ds) (hd:Vals dvs ds) (hx:Passes CX X E) (ha:PA X (e::es) t)
  (hst:starEach (e::es) X.env=(false,eval e X.env)::starEach es X.env:=by rfl) (hpl:(backTo pos (starEach es X.env)).any (·.1)=false:=by rfl)
  (ht:eval (.Call (.Attribute o m apos) (e::es) [] pos) X.env=(do
   let ov <-eval o X.env
   standAt apos.atName
   let (f,first) <-holding [ov] (getMethod ov m pl)
   callWith pos f first (backTo pos (starEach (e::es) X.env)) (backToKw pos (keywordEach [] X.env))):=by rfl) :
  PE X (.Call (.Attribute o m apos) (e::es) [] pos) (xn C m sp dvs E ta t):=by
 ext:1;show Pq (first:=[.ref a]) (h₀:=X.base) I.ok.mod.kin hm.kp (QL (ha pos QE s1 O H1 _ I1 q) λus s2 ⟨vs,H2,I2,r,q2⟩=>⟨I2.Rh,?_⟩) hst hpl;exact yt (us:= .ref a::us) (vs:= .ref a::vs) F hr hb hd hx I2 (.cons rfl r) q2
theorem FW(he:PE X o ta) (c:Rn X.K C) (hm:Meth X.K C m f) (F:dC X.prog X.w X.K X.mg X.base CX k f fd ps sp) (hr:bC k X.A) (hb:Binds X.K fd ps ds) (hd:Vals dvs ds) (hx:Passes CX X E)
  (ht:eval (.Call (.Attribute o m apos) [] [] pos) X.env=(do
   let ov <-eval o X.env
   standAt apos.atName
   let (f,first) <-holding [ov] (getMethod ov m pl)
   callWith pos f first (backTo pos (starEach [] X.env)) (backToKw pos (keywordEach [] X.env))):=by rfl) :
  PE X (.Call (.Attribute o m apos) [] [] pos) (xn C m sp dvs E ta m8):=by
 ext:1;exact Qd (first:=[.ref a]) I1.Rh hm.kp (yt (us:=[.ref a]) (vs:=[.ref a]) F hr hb hd hx I1 (.cons rfl .nil) q)
structure Mk (K:QG) (C f:Addr):Prop where
 makes:PySem.W.makesIn K C=true
 init:PySem.W.findIn K (.ref C) "__init__" = some (some (.ref f))
 fn:PySem.W.isFn K (.ref f)=true
 kp:PySem.W.keepIn K (.ref C)=true
theorem E5 {O:St}{H:Hp}{s:Shared}{Q:VK}{us:List Value}{vs:List V}(M:Mk X.K C f) (F:dC X.prog X.w X.K X.mg X.base CX k f fd ps sp) (hr:bC (k+1) X.A) (hb:Binds X.K fd ps ds) (hd:Vals dvs ds)
  (hx:Passes CX X E) (I:Inv X QE O H s) (r:Vals vs us)
  (h: ∀x dx,H x=none->H dx=none->dx≠x->sp (.ref x::(vs++dvs)) (upd (upd H dx (.own x)) x (.ins C dx [])) (λv H2=>v= .non/\Q (.ref x) H2) E) :
  wpAny (model X.prog X.w) X.A (call (.ref C) us) (EP X QE O Q) X.xe s:=by
 have hq:=h (s.heap.objs.size+1) s.heap.objs.size (I.hok.fresh (Qh _)) (I.hok.fresh (MZ _)) (Nt (Oo _));have I2:=Inv.made (C:=C) I;have r2:Vals (V.ref (s.heap.objs.size+1)::(vs++dvs)) (Value.ref (s.heap.objs.size+1)::(us++ds)):= .cons rfl (r.append hd);have hl:(Value.ref (s.heap.objs.size+1)::us++ds).length=ps.length:=by
  have e:=r2.length;rw[F.len _ _ _ _ hq] at e;exact e.symm
 show Pt (Fp (f:=f) I.Rh M.makes M.init (beq_iff_eq.mp M.fn) (O1 (F.run _ X.stack _ _ ⟨Value.ref (s.heap.objs.size+1)::us,[]⟩ (Value.ref (s.heap.objs.size+1)::(us++ds)) _ _ E (hr.make C us [])
  (I2.EK.make C us []) (hb _ (Value.ref (s.heap.objs.size+1)::us) I2.Rh hl) r2 hq) λr s' hq'=>?_))
 cases r with
 | error e=>exact hx QE O _ _ e s' I2 hq'
 | ok fl =>
  cases fl with
  | ret u =>
   obtain⟨v,H',I3,rv,ev,q3⟩:=I2.after hq';subst ev;exact⟨rv,⟨V.ref (s.heap.objs.size+1),H',I3,Z,q3⟩⟩
  | next=>exact False.elim hq'
  | brk=>exact False.elim hq'
  | cont=>exact False.elim hq'
theorem Ei (M:Mk X.K C f) (F:dC X.prog X.w X.K X.mg X.base CX k f fd ps sp) (hr:bC (k+1) X.A) (hg:Gl X x) (hm:X.mg x=some (.ref C)) (hb:Binds X.K fd ps ds) (hd:Vals dvs ds) (hx:Passes CX X E)
  (hdb:(x == ("__debug__" : Str))=false:=by decide):PE X (.Call (.Name x p) [] [] pos) (Gb C sp dvs E m8):=by
 intro QE s O H Q I h;show Ow (mq I hg hm ?_ hdb);exact Qd I.Rh M.kp (E5 (us:=[]) M F hr hb hd hx I .nil h)
end
section
variable {X:Cx}{CX:Rk}{k:Nat}{f C:Addr}{fd:FuncData}{ps ks:List Str}{sp:Sp}{E:XK}{x m:Str}{p pos apos kpos:Pos}{e o:Expr}{es:List Expr}{kws:List Keyword}{te ta:TE}{t tk:TA}{nm:Option Str}
structure Mi (K:QG) (fd:FuncData) (ps ks:List Str) (g:List Value->List Value->List Value) (gV:List V->List V->List V):Prop where
 to: ∀(s:Shared) (us ws:List Value),K.In s.heap->(g us ws).length=ps.length->BindsTo s fd ⟨us,ks.zip ws⟩ (ps.zip (g us ws))
 rel: ∀ {vs:List V}{us:List Value}{zs:List V}{ws:List Value},Vals vs us->Vals zs ws->Vals (gV vs zs) (g us ws)
variable {g:List Value->List Value->List Value}{gV:List V->List V->List V}
end
structure ax (N P:List Str) (sc:Scope):Prop where
 kind:sc.kind= .function
 co:sc.isCoroutine=false
 gen:sc.isGenerator=false
 nd:N.Nodup
 pre:N.take P.length=P
 par: ∀x∈P,sc.names.lookup x=some .local\/sc.names.lookup x=some .cell
 nofree: ∀y∈sc.names,y.2≠ .free
variable{kindOf:Str->Option NameKind}
theorem wb {x:Str}: ∀ {binds:List (Str×Value)}{m:oR},(∀v,(x,v)∉binds)->bindL kindOf binds m x=m x
 | [],_,_=>rfl
 | (n,v)::r,m,h=>by
  unfold bindL;rw[wb λw hw=>h w (M4 _ hw)];split
  .have:x≠n:=by rintro rfl; exact h v M7
   simp[this]
  .rfl
theorem wD {x:Str}: ∀ {binds:List (Str×Value)}{m:oR},(∀v,(x,v)∉binds)->bindC kindOf binds m x=m x
 | [],_,_=>rfl
 | (n,v)::r,m,h=>by
  unfold bindC;rw[wD λw hw=>h w (M4 _ hw)];split;.rfl
  .have:x≠n:=by rintro rfl; exact h v M7
   simp[this]
theorem vY {x:Str}{v:Value}: ∀ {P:List Str}{vs:List Value}{i:Nat}{m:oR},P.Nodup->P[i]?=some x->vs[i]?=some v->kindOf x=some .local ->
  bindL kindOf (P.zip vs) m x=some v
 | [],_,_,_,_,h,_,_=>by simp at h
 | _::_,[],_,_,_,_,h,_=>by simp at h
 | p::P,w::vs,0,m,nd,h1,h2,hk=>by
  simp at h1 h2; subst h1; subst h2;change bindL kindOf ((p,w)::P.zip vs) m p=_;unfold bindL;rw[wb λv hv=>(NM.mp nd).1 (QB hv).1,MU hk];simp
 | p::P,w::vs,i+1,m,nd,h1,h2,hk=>by
  change bindL kindOf ((p,w)::P.zip vs) m x=_;unfold bindL;exact vY (i:=i) (NM.mp nd).2 (by simpa using h1) (by simpa using h2) hk
theorem vQ {x:Str}{v:Value}: ∀ {P:List Str}{vs:List Value}{i:Nat}{m:oR},P.Nodup->P[i]?=some x->vs[i]?=some v->kindOf x≠some .local ->
  bindC kindOf (P.zip vs) m x=some v
 | [],_,_,_,_,h,_,_=>by simp at h
 | _::_,[],_,_,_,_,h,_=>by simp at h
 | p::P,w::vs,0,m,nd,h1,h2,hk=>by
  simp at h1 h2; subst h1; subst h2;change bindC kindOf ((p,w)::P.zip vs) m p=_;unfold bindC;rw[wD λv hv=>(NM.mp nd).1 (QB hv).1,MP hk];simp
 | p::P,w::vs,i+1,m,nd,h1,h2,hk=>by
  change bindC kindOf ((p,w)::P.zip vs) m x=_;unfold bindC;exact vQ (i:=i) (NM.mp nd).2 (by simpa using h1) (by simpa using h2) hk
def start (N:List Str) (vs:List V):St:=vs.map some++List.replicate (N.length - vs.length) none
def fW (CX:Rk) (P:Program) (w:World) (K:QG) (mg:oR) (base:Heap) (N:List Str) (qual:Str) (scope:Scope) (f:Addr) (cd:Value) (A:Around) (outer:List Env) (s:Shared) (H:Hp) (E:XK):Cx where
 prog:=P
 w:=w
 K:=K
 mg:=mg
 base:=base
 A:=A.deeper (envOfC qual scope s.heap.objs.size f cd)
 N:=N
 s₀:=s
 H₀:=H
 env:=envOfC qual scope s.heap.objs.size f cd
 outer:=outer
 stack:=envOfC qual scope s.heap.objs.size f cd::outer
 ex:=[]
 calm:=true
 fn:=λ_=>true
 pn:=[]
 xe:=λe s'=>wpAny (model P w) (A.deeper (envOfC qual scope s.heap.objs.size f cd)) (leaving (envOfC qual scope s.heap.objs.size f cd) e) (λ_ s''=>CX outer H s E e s'') (λe' s''=>CX outer H s E e' s'') s'
theorem yG {sc:Scope}{n:Nat}{x:Str}(h:sc.names.lookup x=some .cell): ∃c,(cellsFrom n sc.names []).lookup x=some c:=by
 have q:=PySem.W.cellsFrom_some sc.names n [] (.inl h);exact Oz.mp q
variable{N:List Str}{scope:Scope}
theorem Cn {qual:Str}{cd:Value}{s1:Shared}{E:XK}{vs:List V} (S:ax N ps scope) (hd:A.handled=none) (e0:qz P w K mg base A outer s H) (hl:vs.length=ps.length) (r:Vals vs us)
  (x:InCallC s s.heap.objs.size (bindL (envOfC qual scope s.heap.objs.size f cd).kindOf (ps.zip us) λ_=>none) (cellsFrom (s.heap.objs.size+1) scope.names []) (bindC (envOfC qual scope s.heap.objs.size f cd).kindOf (ps.zip us) λ_=>none) s1) :
  Inv (fW CX P w K mg base N qual scope f cd A outer s H E) [] (start N vs) H s1:=by
 have hpl:ps.length<=N.length:=by have:=NJ List.length S.pre; rw[Ni] at this; lia
 obtain⟨h1,tk,rfl,hk⟩:=x.done;have noA: ∀b:Addr,b∉(fW CX P w K mg base N qual scope f cd A outer s H E).ex:=λb z=>absurd (show b∈([]:List Addr) from z) (by simp);show⟨⟨e0.mod,S.kind,Z,Z,MZ _,λy z c h1 h2=>?_,λy hy=>?_,λy c _ h=>?_,λ_=>hd,Around.frames_deeper e0.frames,.inr ⟨Z,Z⟩,λb z=>absurd z (noA b),e0.bs,e0.bsz,λb _ _=>noA b,λb z=>absurd z (noA b),e0.eO,e0.frf⟩,
  rfl,e0.bare,Un.kept hk,⟨_,x.toInCall.ns,λi y v h1 h2 h3=>?_⟩,λy c h=>⟨_,x.cell y c h⟩,e0.hok.fresh (MZ _),λy c h=>?_,λp hp=>absurd (show p∈([]:mK) from hp) (by simp),e0.hok.kept hk,?_⟩
 .exact name_of_addr x.apart (O3 h1) (O3 h2)
 .have hy:scope.names.lookup y=some .cell\/scope.names.lookup y=some .free:=hy;rcases hy with hy | hy
  .exact yG hy
  .exact absurd rfl (S.nofree _ (O3 hy))
 .exact Nw (x.above y c (O3 h))
 .have hi:i < vs.length:=by
   unfold start at h2;by_cases hi:i < vs.length;.exact hi
   .rw[Pg (by simpa using hi)] at h2;rw[Pu] at h2;split at h2 <;> cases h2
  have ha:vs[i]?=some v:=by
   unfold start at h2;rw[Pm (by simpa using hi),M5] at h2;cases e:vs[i]? with
   | none=>rw[e] at h2; cases h2
   | some a=>rw[e] at h2; cases h2; rfl
  obtain⟨u,hu,rv⟩:=r.get ha;have hp:ps[i]?=some y:=by
   rw[<-S.pre,List.getElem?_take_of_lt Y]; exact h1
  have ndP:ps.Nodup:=by rw[<-S.pre]; exact S.nd.sublist (List.take_sublist _ _)
  show⟨u,rv,?_⟩;rcases S.par y (MS hp) with k | k
  .exact .inl ⟨k,vY ndP hp hu k⟩
  .obtain⟨c,e⟩:=yG (n:=s.heap.objs.size+1) k;show .inr ⟨.inl k,c,e,?_⟩;have q:=x.cell y c e;rw[vQ ndP hp hu (by change scope.names.lookup y≠_; rw[k]; decide)] at q;exact q
 .exact e0.hok.fresh (Nw (x.above y c (O3 h)))
 .unfold start;change _=N.length;rw[M0,MO,NX];lia
theorem wY {k:Nat}{name qual:Str}{params:Arguments}{body:List Stmt}{dV kV doc pm cdv ct oc:Value}{an od:Option Addr} {osl:Array (Option Value)}{sp:Sp} (lk:K.lookup f=some ⟨oc,od,.func (PySem.W.fnOf name qual params body scope dV kV doc pm an cdv ct),osl⟩) (hcd:PySem.W.codeIn K cdv qual=true) (S:ax N ps scope)
  (len: ∀vs H Q E,sp vs H Q E->vs.length=ps.length)
  (hbody: ∀(A:Around) (outer:List Env) (s:Shared) (H:Hp) (vs:List V) (Q:VK) (E:XK),bC k (A.deeper (envOfC qual scope s.heap.objs.size f cdv))->sp vs H Q E ->
   ∃t,Q0 (fW CX P w K mg base N qual scope f cdv A outer s H E) body t/\t { nx:=λ_ H'=>Q .non H',rt:=Q } (start N vs) H) :
  dC P w K mg base CX (k+1) f (PySem.W.fnOf name qual params body scope dV kV doc pm an cdv ct) ps sp:=by
 show⟨len,λA outer s H args us vs Q E hr e0 hb r hsp=>?_⟩;have hl:=len _ _ _ _ hsp;have KX:K.In s.heap:=e0.mod.kin.keeps λb o e=>(e0.bs b o e).1;have lim:s.heap.NoLimit:=e0.mod.nolimit.keeps λb o e=>(e0.bs b o e).1;have hkind: ∀y∈ps.zip us,scope.names.lookup y.1=some .local\/(scope.names.lookup y.1=some .cell/\((cellsFrom (s.heap.objs.size+1) scope.names []).lookup y.1).isSome=true):=λ⟨n,v⟩ hy=>by
  rcases S.par n (QB hy).1 with q | q
  .exact .inl q
  .exact .inr ⟨q,PySem.W.cellsFrom_some _ _ _ (.inl q)⟩
 show codeAny_call_function hr.depth (KX _ _ lk) rfl S.co S.gen rfl (PySem.W.codeRec_of KX hcd) (hb _ _ _ _ ?_);show wpAny_newFunctionEnv_cells S.kind hkind λenv he s1 x=>?_;subst he;show⟨lim.keeps x.toInCall.keep,codeAny_func ?_⟩;obtain⟨t,ht,hq⟩:=hbody A outer s H vs Q E (hr.deeper _) hsp;have I:Inv (fW CX P w K mg base N qual scope f cdv A outer s H E) [] (start N vs) H s1:=Cn S hr.hd e0 hl r x;show NU (ht [] s1 (start N vs) H _ I hq) (λfl s' hs=>?_) λe s' hs=>hs;have fin: ∀ {O':St}{H':Hp}{v:V}{u:Value},Inv (fW CX P w K mg base N qual scope f cdv A outer s H E) [] O' H' s'->RelV v u->Q v H'->CE outer P w H s Q u s' :=
  λ{O' H' v u} J rv q=>⟨v,H',J.os,J.bare,J.base,J.hok,rv,q⟩
 cases fl with
 | ret u =>
  obtain⟨v,O',H',J,rv,q⟩:=hs;exact fin J rv q
 | next =>
  obtain⟨O',H',J,q⟩:=hs;exact fin (v:=V.non) (u:=Value.none) J rfl q
 | brk =>
  obtain⟨_,_,_,q⟩:=hs;exact False.elim q
 | cont =>
  obtain⟨_,_,_,q⟩:=hs;exact False.elim q
section
variable {X:Cx}{x:Str}{p pos:Pos}{e:Expr}{es:List Expr}{t:TA}{id T:String}{r:List V->Hp->VK->Prop}
def So (r:List V->Hp->VK->Prop) (t:TA):TE:=λO H Q=>t O H λvs H1=>r vs H1 Q
theorem bP (hc:du X (.builtin id) r) (hg:Gl X x) (hm:X.mg x=none) (hv:bootBuiltins x=some (.builtin id)) (ha:PA X (e::es) t) (hn:x≠ "__name__" := by decide) (hdb:(x == ("__debug__" : Str))=false:=by decide)
  (he:starEach (e::es) X.env=(false,eval e X.env)::starEach es X.env:=by rfl) (hpl:(backTo pos (starEach es X.env)).any (·.1)=false:=by rfl):PE X (.Call (.Name x p) (e::es) [] pos) (So r t):=by
 intro QE s O H Q I h;show Ow (kU I hg hm hv ?_ hn hdb);exact PyProof.Rows.callWith_builtin1 (QL (ha pos QE s O H _ I h) λus s1 ⟨vs,H1,I1,r1,q1⟩=>hc QE s1 O H1 vs us Q I1 r1 q1) he hpl
theorem kK (hc:du X (.type T) r) (hg:Gl X x) (hm:X.mg x=none) (hv:bootBuiltins x=some (.type T)) (ha:PA X (e::es) t) (hn:x≠ "__name__" := by decide) (hdb:(x == ("__debug__" : Str))=false:=by decide)
  (he:starEach (e::es) X.env=(false,eval e X.env)::starEach es X.env:=by rfl) (hpl:(backTo pos (starEach es X.env)).any (·.1)=false:=by rfl):PE X (.Call (.Name x p) (e::es) [] pos) (So r t):=by
 intro QE s O H Q I h;show Ow (kU I hg hm hv ?_ hn hdb);exact OK (QL (ha pos QE s O H _ I h) λus s1 ⟨vs,H1,I1,r1,q1⟩=>hc QE s1 O H1 vs us Q I1 r1 q1) he hpl
end
end L2
namespace HT
open PySem PyProof.Rows
def lexLt:List Int->List Int->Bool
 | [],[]=>false
 | [],_::_=>true
 | _::_,[]=>false
 | x::xs,y::ys=>if x=y then lexLt xs ys else decide (x < y)
section
open PySem.SeqAt
open PySem.AutoSeq1 (wpAny_loadPart')
open PySem.MeetsSeq PySem.MeetsSeq2 PySem.MeetsSeq3
end
section
variable {prog:Program}{w:World}{A:Around}{E:nE}{s:Shared}
def QT (n d:Nat):Option Int->Nat
 | none=>d
 | some v=>if v < 0 then (v+(n:Int)).toNat else min v.toNat n
theorem Af (n d k:Nat):QT n d (some (k:Int))=min k n:=by
 change (if (k:Int) < 0 then ((k:Int)+(n:Int)).toNat else min (k:Int).toNat n)=min k n;rw[MP Y,M6]
theorem CU (n d:Nat) (hd:d<=n) (o:Option Int):QT n d o<=n:=by
 cases o with
 | none=>exact hd
 | some v =>
  change (if v < 0 then (v+(n:Int)).toNat else min v.toNat n)<=n;by_cases hv:v < 0;.rw[MU hv]; lia
  .rw[MP hv]; exact Qu _ _
end
end HT
namespace L2
open PySem PySem.Spec PyProof.Rows
abbrev TO:=St->Hp->(Option Int->Hp->Prop)->Prop
def PO (X:Cx) (e:Option Expr) (t:TO):Prop :=
 ∀(QE:mK) (s:Shared) (O:St) (H:Hp) (Q:Option Int->Hp->Prop),Inv X QE O H s->t O H Q ->
  wpAny (model X.prog X.w) X.A (evalPart e X.env) (λu s'=> ∃o H',Inv X QE O H' s'/\IsPart u o/\Q o H') X.xe s
def GZ:TO:=λ_ H Q=>Q none H
inductive IZ (Q:Option Int->Hp->Prop) (x:V) (H1:Hp):Prop | mk (i:_) (e0:x= .int i) (q:Q (some i) H1)
def KN (t:TE):TO:=λO H Q=>t O H λx H1=>IZ Q x H1
theorem intsAre_of {ns:List Int}: ∀ {us:List Value},Vals (ns.map V.int) us->IntsAre us ns:=by
 induction ns with
 | nil=>intro us r; rw[P5] at r; cases r; exact .nil
 | cons n ns ih =>
  intro us r;rw[ND] at r;cases r with
  | cons r1 r2 =>
   obtain⟨t,e⟩:=r1;subst e;exact .cons n t (ih r2)
section
variable {X:Cx}{e:Expr}{te:TE}{lo hi:Option Expr}{tl th:TO}{pos p2:Pos}
theorem dS:PO X none GZ:=by
 intro QE s O H Q I h;rw[evalPart_none];exact Nj ⟨none,H,I,.none,h⟩
theorem cM (h:PE X e te):PO X (some e) (KN te):=by
 intro QE s O H Q I hw;rw[evalPart_some];show QL (h QE s O H _ I hw) λu s1 ⟨x,H1,I1,r1,q1⟩=>?_;obtain⟨i,rfl,q⟩:=q1;obtain⟨t,rfl⟩:=r1;exact⟨some i,H1,I1,.int i t,q⟩
def Ss (X:Cx) (r:V->Option Int->Option Int->Hp->VK->Prop):Prop :=
 ∀(QE:mK) (s:Shared) (O:St) (H:Hp) (x:V) (v vl vu:Value) (lo hi:Option Int) (sl:Addr) (Q:VK),Inv X QE O H s->RelV x v->s.heap.IsSliceOf sl vl vu .none->IsPart vl lo->IsPart vu hi->r x lo hi H Q ->
  ∃T id,typeLookup (.type T) "__getitem__" = pure (some (.builtin id))/\s.TypeIs v T/\wpAny (model X.prog X.w) X.A (getItem v (.ref sl)) (EP X QE O Q) X.xe s
def Tj (r:V->Option Int->Option Int->Hp->VK->Prop) (te:TE) (tl th:TO):TE:=λO H Q=>te O H λx H1=>tl O H1 λl H2=>th O H2 λu H3=>r x l u H3 Q
theorem cK {r:V->Option Int->Option Int->Hp->VK->Prop}(hr:Ss X r) (he:PE X e te) (hl:PO X lo tl) (hu:PO X hi th):PE X (.Subscript e (.Slice lo hi none p2) pos) (Tj r te tl th):=by
 intro QE s O H Q I h;show Subscript_ (QL (he QE s O H _ I h) λv s1 ⟨x,H1,I1,r1,q1⟩=>?_);show wpAny_Slice (QL (hl QE s1 O H1 _ I1 q1) λvl s2 ⟨l,H2,I2,pl,q2⟩=>QL (hu QE s2 O H2 _ I2 q2) λvu s3 ⟨u,H3,I3,pu,q3⟩=>?_);rw[evalPart_none];show Nj ?_;have I4:Inv X QE O H3 { s3 with heap:=s3.heap.push { cls:= .type "slice",data:= .fields #[vl,vu,.none] } }:=I3.kept (t':=s3.toks) λb ob q=>MV _ q;obtain⟨T,id,hT,ht,hg⟩:=hr QE { s3 with heap:=s3.heap.push { cls:= .type "slice",data:= .fields #[vl,vu,.none] } } O H3 x v vl vu l u s3.heap.objs.size Q I4 r1 (Heap.IsSliceOf.new ..) pl pu q3;change wpAny (model X.prog X.w) X.A (subscriptTail e (.Slice lo hi none p2) v (.ref s3.heap.objs.size)) (EP X QE O Q) X.xe { s3 with heap:=s3.heap.push { cls:= .type "slice",data:= .fields #[vl,vu,.none] } };exact tail_any (ops:=[.ref s3.heap.objs.size,v]) ht hT hg (by with_unfolding_all rfl)
def dX (xs:List V) (lo hi:Option Int):List V:=(xs.drop (HT.QT xs.length 0 lo)).take (HT.QT xs.length xs.length hi - HT.QT xs.length 0 lo)
theorem zE (xs:List V) (lo hi:Option Int):(dX xs lo hi).length<=xs.length:=by
 unfold dX;rw[Ni,NR];lia
inductive Mr (K:QG) (x:V) (lo hi:Option Int) (H:Hp) (Q:VK):Prop | mk (a xs:_) (e0:x= .ref a) (e1:QK K H a xs) (e2: ¬(HT.QT xs.length 0 lo=0/\HT.QT xs.length xs.length hi=xs.length)) (q: ∀p,H p=none->Q (.ref p) (upd H p (.tup (dX xs lo hi))))
inductive MG (K:QG) (x y:V) (H:Hp) (Q:VK):Prop | mk (a b ns ms:_) (e0:x= .ref a) (e1:y= .ref b) (e2:QK K H a (ns.map V.int)) (e3:QK K H b (ms.map V.int)) (q:Q (.bl (HT.lexLt ns ms)) H)
inductive Mm (K:QG) (x y:V) (H:Hp) (Q:VK):Prop | mk (a b xs ys:_) (e0:x= .ref a) (e1:y= .ref b) (e2:QK K H a xs) (e3:QK K H b ys) (e4:xs≠[]) (e5:xs.length+ys.length<=sizeLine) (e6:(ys=[]->Q (.ref a) H)) (q:(ys≠[]-> ∀p,H p=none->Q (.ref p) (upd H p (.tup (xs++ys)))))
end
def RJ (n:Nat) (i:Int):Option Nat:=if 0<=i then (if i < n then some i.toNat else none) else if -(n:Int)<=i then some (i+n).toNat else none
def QV {α:Type}(xs:List α) (i:Int):Option α:=(RJ xs.length i).bind λj=>xs[j]?
theorem Ae {n:Nat}{i:Int}{j:Nat}(h:RJ n i=some j):seqIndex? i n=some j/\j < n/\ -(n:Int)<=i/\i < n:=by
 unfold RJ at h;by_cases h0:0<=i
 .rw[MU h0] at h;by_cases h1:i < n
  .rw[MU h1] at h;have e:i.toNat=j:=Nc h;exact⟨by rw[seqIndex_of h0 h1,e],Y,Y,h1⟩
  .rw[MP h1] at h; cases h
 .rw[MP h0] at h;by_cases h1: -(n:Int)<=i
  .rw[MU h1] at h;have e:(i+n).toNat=j:=Nc h;exact⟨by rw[seqIndex_neg Y h1,e],Y,h1,Y⟩
  .rw[MP h1] at h; cases h
theorem vG {α:Type}{xs:List α}{i:Int}{v:α}(h:QV xs i=some v): ∃j,seqIndex? i xs.length=some j/\xs[j]?=some v/\j < xs.length/\ -(xs.length:Int)<=i/\i < xs.length:=by
 unfold QV at h;cases e:RJ xs.length i with
 | none=>rw[e] at h; cases h
 | some j =>
  rw[e] at h;obtain⟨h1,h2,h3,h4⟩:=Ae e;exact⟨j,h1,h,h2,h3,h4⟩
theorem bz {α:Type}{xs:List α}{j:Nat}{v:α}(h:xs[j]?=some v):QV xs (j:Int)=some v:=by
 have hj:j < xs.length:=(MW.mp h).1;have e:RJ xs.length (j:Int)=some j:=by
  unfold RJ;rw[MU Y,MU Y]; simp
 unfold QV; rw[e]; exact h
def oK (b:Expr):Prop:= ∀o i,subscripted b false o i=operate [o,i] (getItem o i)
def RP (X:Cx) (r:R2):Prop :=
 ∀(value slice:Expr) (QE:mK) (s:Shared) (O:St) (H:Hp) (x y:V) (v u:Value) (Q:VK),Inv X QE O H s->RelV x v->RelV y u->r x y H Q ->
  subscripted slice false v u=operate [v,u] (getItem v u)->wpAny (model X.prog X.w) X.A (subscriptTail value slice v u) (EP X QE O Q) X.xe s
def SK (X:Cx) (id:String) (r:V->List V->Hp->VK->Prop):Prop :=
 ∀(QE:mK) (s:Shared) (O:St) (H:Hp) (x:V) (xs:List V) (v:Value) (us:List Value) (Q:VK),Inv X QE O H s->RelV x v->Vals xs us->r x xs H Q ->
  wpAny (model X.prog X.w) X.A (call (.builtin id) (v::us)) (EP X QE O Q) X.xe s
section
variable {X:Cx}{a b:Expr}{ta tb:TE}{pos:Pos}
theorem RP.or {r r':R2}(h:RP X r) (h':RP X r'):RP X (λx y H Q=>r x y H Q\/r' x y H Q):=by
 intro value slice QE s O H x y v u Q I rx ry q hs;rcases q with q | q
 .exact h value slice QE s O H x y v u Q I rx ry q hs
 .exact h' value slice QE s O H x y v u Q I rx ry q hs
theorem nN {r:R2}(hr:RP X r) (ha:PE X a ta) (hb:PE X b tb) (hs:oK b):PE X (.Subscript a b pos) (Ry r ta tb):=by
 intro QE s O H Q I h;exact Subscript_ (FZ ha hb I h λv u s2 x y H2 I2 rx ry q=>hr a b QE s2 O H2 x y v u Q I2 rx ry q (hs _ _))
inductive Lj (K:QG) (x y:V) (H:Hp) (Q:VK):Prop | mk (p xs i v:_) (e0:x= .ref p) (e1:y= .int i) (e2:QF K H p xs) (e3:QV xs i=some v) (q:Q v H)
def xB (K:QG):R2:=λx y H Q=>Lj K x y H Q
inductive Ko (K:QG) (x y:V) (H:Hp) (Q:VK):Prop | mk (p xs i v:_) (e0:x= .ref p) (e1:y= .int i) (e2:QK K H p xs) (e3:QV xs i=some v) (q:Q v H)
def vB (K:QG):R2:=λx y H Q=>Ko K x y H Q
inductive KO (x y:V) (H:Hp) (Q:VK):Prop | mk (z i c:_) (e0:x= .str z) (e1:y= .int i) (e2:z.length<=sizeLine) (e3:QV z.cps.toList i=some c) (q:Q (.str ⟨#[c]⟩) H)
def Ju:R2:=λx y H Q=>KO x y H Q
theorem ve:RP X (xB X.K):=by
 intro value slice QE s O H x y v u Q I rx ry h hs;obtain⟨p,xs,i,z,rfl,rfl,hq,he,q⟩:=h;cases rx;obtain⟨t,rfl⟩:=ry;obtain⟨its,r,pl,hz⟩:=I.list hq;obtain⟨j,h1,h2,h3,h4,h5⟩:=vG he;obtain⟨w,ew,rw'⟩:=r.get h2;have hl:=r.length;have hn:=oY;have fin:EP X QE O Q w s:=⟨z,H,I,rw',q⟩
 by_cases h0:0<=i
 .have hj:i.toNat=j:=by
   rw[seqIndex_of h0 h5] at h1;exact Nc h1
  exact item_listR pl.isList h0 Y (by rw[hj]; simpa using ew) fin hs
 .have hj:(i+(its.toArray.size:Int)).toNat=j:=by
   rw[seqIndex_neg Y h4] at h1;rw[Nb,<-hl];exact Nc h1
  exact subscriptTail_builtinR (x:=w) pl.isList.typeIs slot_list_getitem.lookup
   (wpAny_getItem_list_neg (Q:=λr s'=>r=w/\EP X QE O Q r s') pl.isList Y (by rw[Nb] <;> lia) Y (by rw[hj]; simpa using ew) ⟨Z,fin⟩) hs
theorem ye:RP X (vB X.K):=by
 intro value slice QE s O H x y v u Q I rx ry h hs;obtain⟨p,xs,i,z,rfl,rfl,hq,he,q⟩:=h;cases rx;obtain⟨t,rfl⟩:=ry;obtain⟨its,r,pl,hz⟩:=I.tuple hq;obtain⟨j,h1,h2,h3,h4,h5⟩:=vG he;obtain⟨w,ew,rw'⟩:=r.get h2;have hl:=r.length;have hn:=oY;have fin:EP X QE O Q w s:=⟨z,H,I,rw',q⟩
 exact subscriptTail_builtinR (x:=w) pl.typeIs slot_tuple_getitem.lookup
  (getItem_tuple (j:=j) (Q:=λr s'=>r=w/\EP X QE O Q r s') pl Y Y (by rw[Nb,<-hl]; exact h1) (by simpa using ew) ⟨Z,fin⟩) hs
theorem ui:RP X Ju:=by
 intro value slice QE s O H x y v u Q I rx ry h hs;obtain⟨z,i,c,rfl,rfl,hz,he,q⟩:=h;ext:15;obtain⟨t',rfl⟩:=ry;obtain⟨j,h1,h2,h3,h4,h5⟩:=vG he;have hl:z.cps.toList.length=z.length:=by simp[Str.length]
 rw[hl] at h1 h4 h5;have hn:=oY;exact tail_any (typeIs_str s z t) slot_str_getitem.lookup (getItem_str (c:=c) (by
  have e1:decide (i < -(2 ^ 63:Int))=false:=Nz Y;have e2:decide (i>=2 ^ 63)=false:=Nz Y;rw[e1,e2,Bool.or_false]) (by rw[h1]; simpa using h2) ⟨.str ⟨#[c]⟩,H,I.tok _,⟨_,Z⟩,q⟩) hs
def S3 (K:QG):R2:=λx y H Q=>xB K x y H Q\/vB K x y H Q\/Ju x y H Q
theorem JH:RP X (S3 X.K):=ve.or (ye.or ui)
theorem BO (its:List Value) (n j:Nat) (u:Value):Obj.mapSeq (·.setIfInBounds j u) { cls:= .type "list",data:= .seq its.toArray n }={ cls:= .type "list",data:= .seq (its.set j u).toArray n }:=by
 simp[Obj.mapSeq]
variable{QE:mK}{O:St}{H:Hp}{s:Shared}{xs:List V}
theorem Inv.lst {p:Addr}(I:Inv X QE O H s) (h:H p=some (.lst xs)) :
  ∃(its:List Value) (n:Nat),Vals xs its/\s.heap.get? p=some { cls:= .type "list",data:= .seq its.toArray n }/\xs.length<=sizeLine:=by
 obtain⟨z,its,n,r,e⟩:=I.hok p _ h;exact⟨its,n,r,e,z⟩
theorem Inv.JI {p:Addr}{ys:List V}{its its':List Value}{n n':Nat}{f:Obj->Obj}(I:Inv X QE O H s) (h:H p=some (.lst xs))
  (ho:s.heap.get? p=some { cls:= .type "list",data:= .seq its.toArray n }) (hf:f { cls:= .type "list",data:= .seq its.toArray n }={ cls:= .type "list",data:= .seq its'.toArray n' }) (r:Vals ys its') (hz:ys.length<=sizeLine) (t:Nat) :
  Inv X QE O (upd H p (.lst ys)) { s with heap:=s.heap.update p f,toks:=t }:=by
 have e:(s.heap.update p f).get? p=some { cls:= .type "list",data:= .seq its'.toArray n' }:=by
  rw[Ou f ho (by rw[hf] <;> rfl),hf]
 show I.write (x:=p) (e:=p) (by rw[h]; trivial) (.inl rfl) (λb u hb q=>(NS _ _ (Nu hb)).trans q) ⟨_,e⟩ ?_;exact⟨hz,its',n',r,e⟩
inductive Jn (o i v:V) (H:Hp) (Q:Hp->Prop):Prop | mk (p xs k j:_) (e0:o= .ref p) (e1:i= .int k) (e2:H p=some (.lst xs)) (e3:RJ xs.length k=some j) (q:Q (upd H p (.lst (xs.set j v))))
def Kc:V->V->V->Hp->(Hp->Prop)->Prop:=λo i v H Q=>Jn o i v H Q
theorem set_list:J2 X Kc:=by
 intro QE s O H o i v ov iv u Q I ro ri rv h;obtain⟨p,xs,k,j,rfl,rfl,hp,hj,q⟩:=h;cases ro;obtain⟨t,rfl⟩:=ri;obtain⟨its,n,r,ho,hz⟩:=I.lst hp;obtain⟨h1,h2,h3,h4⟩:=Ae hj;have hl:=r.length;have hn:=oY;have I':Inv X QE O (upd H p (.lst (xs.set j v))) { s with heap:=s.heap.update p (Obj.mapSeq (·.setIfInBounds j u)) } :=
  I.JI hp ho (BO its n j u) (r.set rv j) (by rw[ON]; exact hz) s.toks
 by_cases h0:0<=k
 .have hk:k.toNat=j:=by
   rw[seqIndex_of h0 h4] at h1;exact Nc h1
  exact PySem.W.ki_setAt ho h0 Y (by rw[Nb,<-hl]; exact h4) (by rw[hk]; exact⟨_,I',q⟩)
 .have hk:(k+(its.toArray.size:Int)).toNat=j:=by
   rw[seqIndex_neg Y h3] at h1;rw[Nb,<-hl];exact Nc h1
  exact PySem.W.ki_setBack ho Y (by rw[Nb,<-hl]; exact h3) Y (by rw[hk]; exact⟨_,I',q⟩)
theorem xI (lo hi:Option Int) (n:Nat):(sliceBounds lo hi none n).1=((HT.QT n 0 lo:Nat):Int)/\(sliceBounds lo hi none n).2.1=((HT.QT n n hi:Nat):Int)/\(sliceBounds lo hi none n).2.2=1:=by
 have e: ∀d (o:Option Int),o.elim d (clipAt n)=HT.QT n d o:=λd o=>by
  cases o with
  | none=>rfl
  | some i =>
   change (max 0 (min (if i < 0 then i+n else i) n)).toNat=if i < 0 then (i+n).toNat else min i.toNat n;by_cases c:i < 0
   .rw[MU c,MU c,Int.min_eq_left Y,Int.max_def];split;.rfl
    .exact (Int.toNat_of_nonpos (Int.le_of_lt (Int.not_le.mp (by assumption)))).symm
   .obtain⟨k,rfl⟩:=Px (Int.not_lt.mp c);rw[MP c,MP c,Int.max_eq_right (Int.le_min.mpr ⟨Int.not_lt.mp c,Int.natCast_nonneg n⟩)];rw[Int.min_def,Nat.min_def];split;.rw[MU (Int.ofNat_le.mp (by assumption))]
    .rw[MP (λz=>absurd (Int.ofNat_le.mpr z) (by assumption))];rfl
 rw[sliceBounds_plain,e,e];exact⟨Z,Z,Z⟩
theorem wQ (its:List Value) (lo hi:Option Int):slicePick its.toArray lo hi none=((its.drop (HT.QT its.length 0 lo)).take (HT.QT its.length its.length hi - HT.QT its.length 0 lo)).toArray:=by
 obtain⟨h1,h2,h3⟩:=xI lo hi its.toArray.size;unfold slicePick;rw[h1,h2,h3];simp only[sliceRange_one,pick_run,Nb] <;> rfl
inductive Km (K:QG) (x:V) (lo hi:Option Int) (H:Hp) (Q:VK):Prop | mk (a xs:_) (e0:x= .ref a) (e1:QF K H a xs) (q: ∀p,H p=none->Q (.ref p) (upd H p (.lst (dX xs lo hi))))
def IE (K:QG):V->Option Int->Option Int->Hp->VK->Prop:=λx lo hi H Q=>Km K x lo hi H Q
theorem Hh:Ss X (IE X.K):=by
 intro QE s O H x v vl vu lo hi sl Q I rx hs pl pu h;obtain⟨a,xs,rfl,hx,q⟩:=h;cases rx;obtain⟨its,r,ht,hz⟩:=I.list hx;have hlen:=r.length;show⟨"list",_,slot_list_getitem.lookup,ht.isList.typeIs,?_⟩;show wpAny_getItem_list_slice ht.isList hs pl pu .none (by simp) ?_ (by rw[Nb] <;> lia);rw[wQ,<-hlen];show⟨.ref s.heap.objs.size,_,I.laid (t':=s.toks) (o:= .lst (dX xs lo hi)) (λb ob q=>MV _ q) (MZ _) ?_,Z,q _ (I.hok.fresh (MZ _))⟩;exact⟨Ng (zE xs lo hi) hz,_,0,(r.drop (HT.QT xs.length 0 lo)).take (HT.QT xs.length xs.length hi - HT.QT xs.length 0 lo),Nq _ rfl⟩
def cQ:V->Bool
 | .non=>true
 | .bl _=>true
 | .int _=>true
 | .str _=>true
 | _=>false
def RC:V->V->Bool
 | .non,.non=>true
 | .bl a,.bl b=>a == b
 | .bl a,.int b=>(if a then 1 else 0) == b
 | .int a,.bl b=>a == (if b then 1 else 0)
 | .int a,.int b=>a == b
 | .str a,.str b=>a == b
 | _,_=>false
variable{v:Value}
theorem yk {A:Around}{y x:V}{u:Value}(ry:RelV y u) (rx:RelV x v) (fy:cQ y=true) (fx:cQ x=true):SeqAt.EqAt A s u v (RC y x):=by
 cases y with
 | non =>
  cases ry;cases x with
  | non=>cases rx; exact SeqAt.EqAt.same _
  | bl b=>cases rx; exact SeqAt.EqAt.none_bool b
  | int b=>obtain⟨t,rfl⟩:=rx; exact SeqAt.EqAt.none_int b t
  | str b=>obtain⟨t,rfl⟩:=rx; exact SeqAt.EqAt.none_str b t
  | _=>exact absurd (show false=true from fx) Nd
 | bl a =>
  cases ry;cases x with
  | non=>cases rx; exact SeqAt.EqAt.bool_none a
  | bl b=>cases rx; exact SeqAt.EqAt.bool_bool a b
  | int b=>obtain⟨t,rfl⟩:=rx; exact SeqAt.EqAt.bool_int a b t
  | str b=>obtain⟨t,rfl⟩:=rx; exact SeqAt.EqAt.bool_str a b t
  | _=>exact absurd (show false=true from fx) Nd
 | int a =>
  obtain⟨t',rfl⟩:=ry;cases x with
  | non=>cases rx; exact SeqAt.EqAt.int_none a t'
  | bl b=>cases rx; exact SeqAt.EqAt.int_bool a t' b
  | int b=>obtain⟨t,rfl⟩:=rx; exact SeqAt.EqAt.int_int a t' b t
  | str b=>obtain⟨t,rfl⟩:=rx; exact SeqAt.EqAt.int_str a t' b t
  | _=>exact absurd (show false=true from fx) Nd
 | str a =>
  obtain⟨t',rfl⟩:=ry;cases x with
  | non=>cases rx; exact SeqAt.EqAt.str_none a t'
  | bl b=>cases rx; exact SeqAt.EqAt.str_bool a t' b
  | int b=>obtain⟨t,rfl⟩:=rx; exact SeqAt.EqAt.str_int a t' b t
  | str b=>obtain⟨t,rfl⟩:=rx; exact SeqAt.EqAt.str_str a t' b t
  | _=>exact absurd (show false=true from fx) Nd
 | _=>exact absurd (show false=true from fy) Nd
def Ru (x:V) (u:Value):Bool:=match u with
 | .none=>RC .non x
 | .bool b=>RC (.bl b) x
 | .int i _=>RC (.int i) x
 | .str z _=>RC (.str z) x
 | _=>false
theorem Dv {x y:V}{u:Value}(r:RelV y u) (f:cQ y=true):Ru x u=RC y x:=by
 cases y with
 | non=>cases r; rfl
 | bl b=>cases r; rfl
 | int i=>obtain⟨t,rfl⟩:=r; rfl
 | str z=>obtain⟨t,rfl⟩:=r; rfl
 | _=>exact absurd (show false=true from f) Nd
theorem oW {x:V}: ∀ {xs:List V}{us:List Value},Vals xs us->xs.all cQ=true->us.any (Ru x)=xs.any λy=>RC y x
 | _,_,.nil,_=>rfl
 | y::xs,u::us,.cons r t,f=>by
  rw[List.all_cons,NG] at f;rw[Ph,Ph,Dv r f.1,oW t f.2]
theorem mT {A:Around}{x:V}(rx:RelV x v) (fx:cQ x=true): ∀ {xs:List V}{us:List Value},Vals xs us->xs.all cQ=true-> ∀u∈us,SeqAt.EqAt A s u v (Ru x u)
 | _,_,.nil,_=>λu hu=>by cases hu
 | y::xs,u::us,.cons r t,f=>λu' hu=>by
  rw[List.all_cons,NG] at f;rcases M3.mp hu with rfl | hu
  .rw[Dv r f.1]; exact yk r rx f.1 fx
  .exact mT rx fx t f.2 u' hu
def RZ (x:V) (xs:List V):Bool:=xs.any λy=>RC y x
inductive L5 (K:QG) (neg:Bool) (x y:V) (H:Hp) (Q:VK):Prop | mk (p xs:_) (e0:y= .ref p) (e1:(QF K H p xs\/QK K H p xs)) (e2:cQ x=true) (e3:xs.all cQ=true) (q:Q (.bl (if neg then !RZ x xs else RZ x xs)) H)
def Sn (K:QG) (neg:Bool):R2:=λx y H Q=>L5 K neg x y H Q
theorem C3:QU X (compareOp .In) (Sn X.K false):=by
 ext:3;obtain⟨p,xs,rfl,hq,fx,fs,q⟩:=h;cases ry;rcases hq with hq | hq
 .obtain⟨its,r,pl,hz⟩:=I.list hq;show SeqAt.in_listAt (Ru x) pl.isList (λw hw=>mT rx fx r fs w (by simpa using hw)) ⟨.bl _,H,I,Z,?_⟩;rw[show its.toArray.any (Ru x)=its.any (Ru x) by simp,oW r fs];exact q
 .obtain⟨its,r,pl,hz⟩:=I.tuple hq;show SeqAt.in_tupleAt (Ru x) pl (λw hw=>mT rx fx r fs w (by simpa using hw)) ⟨.bl _,H,I,Z,?_⟩;rw[show its.toArray.any (Ru x)=its.any (Ru x) by simp,oW r fs];exact q
theorem yB:QU X (compareOp .NotIn) (Sn X.K true):=by
 ext:3;obtain⟨p,xs,rfl,hq,fx,fs,q⟩:=h;cases ry;rcases hq with hq | hq
 .obtain⟨its,r,pl,hz⟩:=I.list hq;show SeqAt.notIn_listAt (Ru x) pl.isList (λw hw=>mT rx fx r fs w (by simpa using hw)) ⟨.bl _,H,I,Z,?_⟩;rw[show its.toArray.any (Ru x)=its.any (Ru x) by simp,oW r fs];exact q
 .obtain⟨its,r,pl,hz⟩:=I.tuple hq;show SeqAt.notIn_tupleAt (Ru x) pl (λw hw=>mT rx fx r fs w (by simpa using hw)) ⟨.bl _,H,I,Z,?_⟩;rw[show its.toArray.any (Ru x)=its.any (Ru x) by simp,oW r fs];exact q
theorem yL:du X (.type "list") (λxs H Q=> ∃p ys,xs=[.ref p]/\(QF X.K H p ys\/QK X.K H p ys)/\ ∀l,H l=none->Q (.ref l) (upd H l (.lst ys))):=by
 intro QE s O H xs us Q I r h;obtain⟨p,ys,rfl,hq,q⟩:=h;obtain⟨u,rfl,rx⟩:=vals1 r;cases rx;have fin: ∀(its:List Value),Vals ys its->ys.length<=sizeLine-> ∀(h':Heap) (c':Nat),(∀b o',s.heap.get? b=some o'->h'.get? b=some o') ->
   h'.get? s.heap.objs.size=some { cls:= .type "list",dict:=none,data:= .seq its.toArray c',slots:= #[] }->EP X QE O Q (.ref s.heap.objs.size) { s with heap:=h' }:=λits r' hz h' c' kp e =>
  ⟨.ref s.heap.objs.size,_,I.laid (t':=s.toks) kp (MZ _) (show cW X.prog X.w _ h' _ (.lst ys) from ⟨hz,its,c',r',e⟩),Z,q _ (I.hok.fresh (MZ _))⟩
 rcases hq with hq | hq
 .obtain⟨its,r',pl,hz⟩:=I.list hq;have hlen:=r'.length;obtain⟨o,ho,hc,n,hd⟩:=pl.isList;exact call_list_seq p (.inl rfl) ho hc hd (λh' c' kp e=>fin its r' hz h' c' kp e) (by simp only[Nb] <;> lia)
 .obtain⟨its,r',pl,hz⟩:=I.tuple hq;have hlen:=r'.length;obtain⟨o,ho,hc,n,hd⟩:=pl;exact call_list_seq p (.inr rfl) ho hc hd (λh' c' kp e=>fin its r' hz h' c' kp e) (by simp only[Nb] <;> lia)
def SA (K:QG) (T:String) (x:V) (H:Hp):Prop:=match x with
 | .str _=>T= "str"
 | .int _=>T= "int"
 | .ref p=>(T= "list" /\ ∃xs,QF K H p xs)\/(T= "tuple" /\ ∃o,K.lookup p=some o/\o.cls= .type "tuple" /\ o.dict=none) \/
   (T= "dict" /\ ((∃kvs,H p=some (.dK kvs))\/ ∃kvs,H p=some (.dT kvs)))\/(T= "set" /\ ∃S n,H p=some (.set S n))
 | _=>False
theorem Du {T:String}{x:V}(I:Inv X QE O H s) (r:RelV x v) (ty:SA X.K T x H) :
  s.TypeIs v T/\ ∀a,v= .ref a-> ∃ob,s.heap.get? a=some ob/\ob.dict=none:=by
 cases x with
 | str z =>
  obtain⟨t,rfl⟩:=r;cases (show T= "str" from ty);exact⟨typeIs_str s z t,λ_ e=>nomatch e⟩
 | int i =>
  obtain⟨t,rfl⟩:=r;cases (show T= "int" from ty);exact⟨typeIs_int s i t,λ_ e=>nomatch e⟩
 | ref p =>
  cases r;rcases ty with⟨rfl,xs,hq⟩ | ⟨rfl,o,hk,hc,hd⟩ | ⟨rfl,hk⟩ | ⟨rfl,S,n,hk⟩
  .obtain⟨its,_,pl,_⟩:=I.list hq;show⟨pl.isList.typeIs,λa e=>?_⟩;cases e;obtain⟨o,n,e,c,hd,_⟩:=pl;exact⟨o,e,hd⟩
  .show⟨⟨o,I.Rh p o hk,hc⟩,λa e=>?_⟩;cases e;exact⟨o,I.Rh _ o hk,hd⟩
  .have z: ∃o,s.heap.get? p=some o/\o.ExactDict:=by
    rcases hk with⟨kvs,hk⟩ | ⟨kvs,hk⟩
    .obtain⟨_,_,_,_,o,_,_,e,ex,_⟩:=I.hok p _ hk;exact⟨o,e,ex⟩
    .obtain⟨_,_,_,_,o,_,_,e,ex,_⟩:=I.hok p _ hk;exact⟨o,e,ex⟩
   obtain⟨o,e,ex⟩:=z;show⟨⟨o,e,ex.1⟩,λa e2=>?_⟩;cases e2;exact⟨o,e,ex.2.1⟩
  .obtain⟨o,_,_,_,e,ex,_⟩:=I.hok p _ hk;show⟨⟨o,e,ex.1⟩,λa e2=>?_⟩;cases e2;exact⟨o,e,ex.2.1⟩
 | _=>exact False.elim ty
def A5 (K:QG) (T:String) (r:V->List V->Hp->VK->Prop) (to:TE):TE:=λO H Q=>to O H λx H1=>SA K T x H1/\r x [] H1 Q
def RH (K:QG) (T:String) (r:V->List V->Hp->VK->Prop) (to:TE) (t:TA):TE:=λO H Q=>to O H λx H1=>SA K T x H1/\t O H1 λxs H2=>r x xs H2 Q
variable {o e:Expr}{es:List Expr}{to:TE}{t:TA}{name:Str}{apos cpos:Pos}{T id:String}{r:V->List V->Hp->VK->Prop}
theorem Ce (pa:PlainAttrs T) (slot:Slot T name id) (hty:typeOf (.builtin id)=pure (.type "method_descriptor")) (hm:SK X id r) (ho:PE X o to)
  (hbase:attributeBase o name X.env (eval o X.env)=eval o X.env:=by rfl) (hline:(apos.endLine == cpos.line)=true:=by rfl):PE X (.Call (.Attribute o name apos) [] [] cpos) (A5 X.K T r to):=by
 intro QE s O H Q I h;show wpAny_Call_method0_late hbase hline (QL (ho QE s O H _ I h) λv s1 ⟨x,H1,I1,r1,ty,q1⟩=>?_);obtain⟨h1,h2⟩:=Du I1 r1 ty;exact⟨T,id,pa,slot,hty,h1,h2,O9 rfl (PySem.evalArgs_none (hm QE s1 O H1 x [] v [] Q I1 r1 .nil q1))⟩
theorem iE (pa:PlainAttrs T) (slot:Slot T name id) (hty:typeOf (.builtin id)=pure (.type "method_descriptor")) (hm:SK X id r) (ho:PE X o to) (ha:PA X (e::es) t)
  (hbase:attributeBase o name X.env (eval o X.env)=eval o X.env:=by rfl)
  (hfew:((backTo cpos (starEach (e::es) X.env)).all (λx=> !x.1) && (backToKw cpos (keywordEach [] X.env)).all (λx=>x.1.isSome)
   && decide ((e::es).length+([]:List Keyword).length+(if ([]:List Keyword).isEmpty then 0 else 1) < 30))=true:=by rfl)
  (hline:(apos.endLine == cpos.line)=true:=by rfl) (hs:starEach (e::es) X.env=(false,eval e X.env)::starEach es X.env:=by rfl) (hplain:(backTo cpos (starEach es X.env)).any (·.1)=false:=by rfl) :
  PE X (.Call (.Attribute o name apos) (e::es) [] cpos) (RH X.K T r to t):=by
 intro QE s O H Q I h;show wpAny_Call_method_late hbase hfew hline rfl (QL (ho QE s O H _ I h) λv s1 ⟨x,H1,I1,r1,ty,q1⟩=>?_);obtain⟨h1,h2⟩:=Du I1 r1 ty;show⟨T,id,pa,slot,hty,h1,h2,?_⟩;have hA:=ha cpos QE s1 O H1 _ I1 q1;rw[hs] at hA ⊢;show O9 (by change (false || (backTo cpos (starEach es X.env)).any (·.1))=false; rw[hplain] <;> rfl) (Pf ?_);exact QL hA λus s2 ⟨vs,H2,I2,r2,q2⟩=>hm QE s2 O H2 x vs v us Q I2 r1 r2 q2
end
def Sf (X:Cx) (id:String) (r:V->List V->Hp->VK->Prop):Prop :=
 ∀(QE:mK) (s:Shared) (O:St) (H:Hp) (x:V) (xs:List V) (v:Value) (us:List Value) (Q:VK),Inv X QE O H s->RelV x v->Vals xs us->r x xs H Q ->
  wpAny (model X.prog X.w) X.A (call (.builtin id) (v::us)) (EP X QE O Q) X.xe s
theorem Vals.one: ∀ {x:V}{us:List Value},Vals [x] us-> ∃u,us=[u]/\RelV x u
 | _,_,.cons r .nil=>⟨_,Z,r⟩
theorem Vals.zero: ∀ {us:List Value},Vals [] us->us=[]
 | _,.nil=>rfl
variable{xs:List V}{us:List Value}
theorem Vals.dropLast(h:Vals xs us):Vals xs.dropLast us.dropLast:=by
 induction h with
 | nil=>exact .nil
 | cons r t ih =>
  cases t with
  | nil=>exact .nil
  | cons q t'=>exact .cons r ih
theorem Vals.eraseIdx: ∀ {xs:List V}{us:List Value}(i:Nat),Vals xs us->Vals (xs.eraseIdx i) (us.eraseIdx i)
 | _,_,_,.nil=> .nil
 | _,_,0,.cons _ t=>t
 | _,_,i+1,.cons r t=> .cons r (Vals.eraseIdx i t)
theorem Vals.rep(h:Vals xs us): ∀k:Nat,Vals (List.replicate k xs).flatten (List.replicate k us).flatten
 | 0=> .nil
 | k+1=>by
  rw[NV,NV,N8,N8];exact Vals.append h (Vals.rep h k)
theorem Bz {α:Type}(l:List α):l.eraseIdx (l.length - 1)=l.dropLast:=by
 induction l with
 | nil=>rfl
 | cons a r ih =>
  cases r with
  | nil=>rfl
  | cons b r =>
   have e:(a::b::r).length - 1=((b::r).length - 1)+1:=by
    have h1:(a::b::r).length=r.length+2:=rfl;have h2:(b::r).length=r.length+1:=rfl;lia
   rw[e,List.eraseIdx_cons_succ,ih]
   all_goals rfl
theorem wG {α:Type}: ∀(l:List α) (i:Nat),(l.eraseIdx i).length<=l.length
 | [],_=>MZ _
 | _::_,0=>Qh _
 | _::r,i+1=>Nat.succ_le_succ (wG r i)
theorem foldl_rep (its:List Value): ∀(k:Nat) (acc:List Value),
  List.foldl (λx1 x2=>x1++x2) acc.toArray (List.replicate k its.toArray)=(acc++(List.replicate k its).flatten).toArray
 | 0,acc=>by simp
 | k+1,acc=>by
  have e:acc.toArray++its.toArray=(acc++its).toArray:=by simp
  have e2:(acc++its)++(List.replicate k its).flatten=acc++(List.replicate (k+1) its).flatten:=by
   rw[NV,N8,NY]
  rw[<-e2,<-foldl_rep its k (acc++its),<-e,NV,List.foldl_cons]
section
variable {X:Cx}{QE:mK}{O:St}{H:Hp}{s:Shared}{l b:Addr}{xs ys zs:List V}
variable{its:List Value}
theorem Inv.Bp {its':List Value}{n:Nat}{f:Array Value->Array Value}{t':Nat}(I:Inv X QE O H s) (hH:H l=some (.lst xs))
  (e:s.heap.get? l=some { cls:= .type "list",data:= .seq its.toArray n }) (hf:f its.toArray=its'.toArray) (hv:Vals ys its') (hz:ys.length<=sizeLine) :
  Inv X QE O (upd H l (.lst ys)) { s with heap:=s.heap.update l (Obj.mapSeq f),toks:=t' }:=by
 have q:=PySem.IsL.update e f;rw[hf] at q;show I.write (x:=l) (e:=l) (by rw[hH]; exact trivial) (.inl rfl) (λb' u hb hu=>(NS s.heap (Obj.mapSeq f) (Nu hb)).trans hu) ⟨_,q⟩ ?_;exact⟨hz,its',_,hv,q⟩
theorem Inv.I9 {t':Nat}(I:Inv X QE O H s) (hv:Vals ys its) (hz:ys.length<=sizeLine) :
  Inv X QE O (upd H s.heap.objs.size (.lst ys)) { s with heap:=s.heap.push { cls:= .type "list",data:= .seq its.toArray },toks:=t' } :=
 I.laid (λ_ _ q=>MV _ q) (MZ _) ⟨hz,its,0,hv,Nq _ rfl⟩
theorem Inv.fresh (I:Inv X QE O H s):H s.heap.objs.size=none:=I.hok.fresh (MZ _)
theorem Inv.oB (I:Inv X QE O H s) (hH:H l=some (.lst xs)):xs.length<=sizeLine/\ ∃(its:List Value) (n:Nat),Vals xs its/\xs.length=its.length/\s.heap.get? l=some { cls:= .type "list",data:= .seq its.toArray n }:=by
 obtain⟨z,its,n,r,e⟩:=I.hok l _ hH;exact⟨z,its,n,r,r.length,e⟩
theorem xx {n:Nat}(h:n<=sizeLine):Builtin.List.listTooLong n=false:=by
 unfold Builtin.List.listTooLong;exact Nz Y
end
section
variable {X:Cx}
inductive FG (x:V) (vs:List V) (H:Hp) (Q:VK):Prop | mk (l xs y:_) (e0:x= .ref l) (e1:vs=[y]) (e2:H l=some (.lst xs)) (e3:xs.length < sizeLine) (q:Q .non (upd H l (.lst (xs++[y]))))
def zU:V->List V->Hp->VK->Prop:=λx vs H Q=>FG x vs H Q
theorem DS:Sf X "list.append" zU:=by
 intro QE s O H x vs v us Q I rx rv h;obtain⟨l,xs,y,rfl,rfl,hH,hz,q⟩:=h;cases rx;obtain⟨u,rfl,ru⟩:=rv.one;obtain⟨z,its,n,r,hl,e⟩:=I.oB hH;show O7 F.slot_list_append ⟨_,e,Z⟩ F.entry_list_append (F.args_list_append_2 _ _) (PySem.list_append l its.toArray n u (by rw[Nb]; lia)) ⟨e,?_⟩;show⟨.non,_,I.Bp (its':=its++[u]) hH e (by simp) (r.append (.cons ru .nil)) ?_,Z,q⟩;rw[M0,Pd];lia
inductive FF (x:V) (vs:List V) (H:Hp) (Q:VK):Prop | mk (l b xs zs:_) (e0:x= .ref l) (e1:vs=[.ref b]) (e2:H l=some (.lst xs)) (e3:H b=some (.lst zs)) (e4:xs.length+zs.length<=sizeLine) (q:Q .non (upd H l (.lst (xs++zs))))
def G1:V->List V->Hp->VK->Prop:=λx vs H Q=>FF x vs H Q
theorem Ll:Sf X "list.extend" G1:=by
 intro QE s O H x vs v us Q I rx rv h;obtain⟨l,b,xs,zs,rfl,rfl,hH,hB,hz,q⟩:=h;cases rx;obtain⟨u,rfl,ru⟩:=rv.one;cases ru;obtain⟨z,its,n,r,hl,e⟩:=I.oB hH;obtain⟨z2,its2,n2,r2,hl2,e2⟩:=I.oB hB;have hsz:its.toArray.size+its2.toArray.size<=sizeLine:=by rw[Nb,Nb]; lia
 have hlong: ¬(!its.toArray.isEmpty && Builtin.List.listTooLong (its.toArray.size+its2.toArray.size))=true:=by
  rw[xx hsz,Bool.and_false];exact Nd
 show O7 F.slot_list_extend ⟨_,e,Z⟩ F.entry_list_extend (F.args_list_extend_2 _ _)
  (AutoSeq1.list_extend_list_list_0 l its.toArray n b its2.toArray n2 hlong (by rw[Nb]; lia) Y) ⟨e,e2,?_⟩
 show⟨.non,_,I.Bp (its':=its++its2) hH e (by simp) (r.append r2) ?_,Z,q⟩;rw[M0];lia
inductive Ku (x:V) (vs:List V) (H:Hp) (Q:VK):Prop | mk (l xs y:_) (e0:x= .ref l) (e1:vs=[]) (e2:H l=some (.lst xs)) (e3:xs[xs.length - 1]?=some y) (q:Q y (upd H l (.lst xs.dropLast)))
def J1:V->List V->Hp->VK->Prop:=λx vs H Q=>Ku x vs H Q
theorem B0:Sf X "list.pop" J1:=by
 intro QE s O H x vs v us Q I rx rv h;obtain⟨l,xs,y,rfl,rfl,hH,hy,q⟩:=h;cases rx;have hus:=rv.zero;subst hus;obtain⟨z,its,n,r,hl,e⟩:=I.oB hH;obtain⟨u,hu,ru⟩:=r.get hy;have hy':its.toArray[its.toArray.size - 1]?=some u:=by
  change its.toArray[its.length - 1]?=some u;rw[<-Array.getElem?_toList,<-hl];exact hu
 show O7 F.slot_list_pop ⟨_,e,Z⟩ F.entry_list_pop (F.args_list_pop_1 _) (MeetsSeq.list_pop_last l its.toArray n u hy' (by rw[Nb]; lia)) ⟨e,?_⟩;show⟨y,_,I.Bp (its':=its.dropLast) hH e ?_ r.dropLast ?_,ru,q⟩
 .change its.toArray.eraseIdxIfInBounds (its.toArray.size - 1)=its.dropLast.toArray;rw[Nb,PX,Bz]
 .rw[List.length_dropLast];lia
inductive GR (x:V) (vs:List V) (H:Hp) (Q:VK):Prop | mk (l xs i k y:_) (e0:x= .ref l) (e1:vs=[.int i]) (e2:H l=some (.lst xs)) (e3: -(2 ^ 63)<=i) (e4:i < 2 ^ 63) (e5:seqIndex? i xs.length=some k) (e6:xs[k]?=some y) (q:Q y (upd H l (.lst (xs.eraseIdx k))))
def JC:V->List V->Hp->VK->Prop:=λx vs H Q=>GR x vs H Q
theorem tO:Sf X "list.pop" JC:=by
 intro QE s O H x vs v us Q I rx rv h;obtain⟨l,xs,i,k,y,rfl,rfl,hH,h1,h2,hk,hy,q⟩:=h;cases rx;obtain⟨u,rfl,ru⟩:=rv.one;obtain⟨t,rfl⟩:=ru;obtain⟨z,its,n,r,hl,e⟩:=I.oB hH;obtain⟨w,hw,rw'⟩:=r.get hy;show O7 F.slot_list_pop ⟨_,e,Z⟩ F.entry_list_pop (F.args_list_pop_2 _ _)
  (MeetsSeq.list_pop_at l its.toArray n i t k w (fitsIndex_both h1 h2) (by rw[Nb,<-hl]; exact hk) (by rw[<-Array.getElem?_toList]; exact hw) (by rw[Nb]; lia)) ⟨e,?_⟩
 show⟨y,_,I.Bp (its':=its.eraseIdx k) hH e ?_ (r.eraseIdx k) ?_,rw',q⟩
 .change its.toArray.eraseIdxIfInBounds k=(its.eraseIdx k).toArray;rw[PX]
 .have:=wG xs k;lia
inductive Lk (x:V) (vs:List V) (H:Hp) (Q:VK):Prop | mk (l xs:_) (e0:x= .ref l) (e1:vs=[]) (e2:H l=some (.lst xs)) (q:Q .non (upd H l (.lst xs.reverse)))
inductive Me (x:V) (vs:List V) (H:Hp) (Q:VK):Prop | mk (l xs:_) (e0:x= .ref l) (e1:vs=[]) (e2:H l=some (.lst xs)) (q:Q .non (upd H l (.lst [])))
inductive Kl (x y:V) (H:Hp) (Q:VK):Prop | mk (l b xs zs:_) (e0:x= .ref l) (e1:y= .ref b) (e2:H l=some (.lst xs)) (e3:H b=some (.lst zs)) (e4:xs.length+zs.length<=sizeLine) (q: ∀p,H p=none->Q (.ref p) (upd H p (.lst (xs++zs))))
def L4:R2:=λx y H Q=>Kl x y H Q
theorem fE:QU X (binaryOp .Add) L4:=by
 ext:3;obtain⟨l,b,xs,zs,rfl,rfl,hH,hB,hz,q⟩:=h;cases rx;cases ry;obtain⟨z,its,n,r,hl,e⟩:=I.oB hH;obtain⟨z2,its2,n2,r2,hl2,e2⟩:=I.oB hB;show PySem.P.add_list e e2 ?_ (by rw[Nb,Nb]; lia);have ea:its.toArray++its2.toArray=(its++its2).toArray:=by simp
 rw[ea];exact⟨.ref _,_,I.I9 (t':=s.toks) (r.append r2) (by rw[M0]; lia),Z,q _ I.fresh⟩
inductive KP (x y:V) (H:Hp) (Q:VK):Prop | mk (l k xs:_) (e0:x= .ref l) (e1:y= .int k) (e2:H l=some (.lst xs)) (e3: -(2 ^ 63)<=k) (e4:k < 2 ^ 63) (e5:xs.length*k.toNat<=sizeLine) (q: ∀p,H p=none->Q (.ref p) (upd H p (.lst (List.replicate k.toNat xs).flatten)))
def LM:R2:=λx y H Q=>KP x y H Q
theorem len_rep {α:Type}(xs:List α) (k:Nat):(List.replicate k xs).flatten.length=k*xs.length:=by
 induction k with
 | zero=>simp
 | succ k ih=>rw[NV,N8,M0,ih,Nat.succ_mul,Nat.add_comm]
theorem oF:QU X (binaryOp .Mult) LM:=by
 ext:3;obtain⟨l,k,xs,rfl,rfl,hH,h1,h2,hz,q⟩:=h;cases rx;obtain⟨t,rfl⟩:=ry;obtain⟨z,its,n,r,hl,e⟩:=I.oB hH;have hlen:its.toArray.size*k.toNat<=sizeLine:=by rw[Nb,<-hl]; exact hz
 have hcap: ¬its.toArray.size*k.toNat > (2 ^ 63 - 1) / 8:=by
  have:(sizeLine:Nat)<=(2 ^ 63 - 1) / 8:=by decide
  lia
 have hfit: ¬(!Builtin.List.listFitsIndex k)=true:=by
  rw[fitsIndex_both h1 h2];exact Nd
 have hlong: ¬Builtin.List.listTooLong (its.toArray.size*k.toNat)=true:=by
  rw[xx hlen];exact Nd
 have hnew:List.foldl (λx1 x2=>x1++x2) #[] (List.replicate (if its.toArray.isEmpty=true then 0 else k.toNat) its.toArray)=(List.replicate k.toNat its).flatten.toArray:=by
  have f0: ∀m:Nat,List.foldl (λx1 x2=>x1++x2) #[] (List.replicate m its.toArray)=(List.replicate m its).flatten.toArray:=λm=>by
   have:=foldl_rep its m [];rw[List.nil_append] at this;exact this
  rw[f0];cases its with
  | nil=>simp
  | cons a r'=>rw[MP (by simp)]
 show wpAny_binaryOp_repeat_ref (T:= "list") (U:= "int") aS ⟨_,e,Z⟩ (λs'=>typeIs_int s' k t) noFill_list_mul F.fills_int_mul F.slot_int_rmul repeat_list F.slot_int_index.lookup
  (O7 F.slot_int_rmul (typeIs_int s k t) F.entry_int_rmul (F.args_int_rmul_2 _ _) (int___rmul___int_list k t l its.toArray n)
   ⟨e,Z,⟨_,e,Z⟩,O7 F.slot_list_mul ⟨_,e,Z⟩ F.entry_list_mul (F.args_list_mul_2 _ _) (AutoListH.list___mul___list_int_3 l its.toArray n k t hfit hcap hlong) ⟨e,?_⟩⟩)
 rw[hnew];exact⟨.ref _,_,I.I9 (t':=s.toks) (r.rep k.toNat) (by rw[len_rep,Nat.mul_comm]; exact hz),Z,q _ I.fresh⟩
end
section
variable {prog:Program}{w:World}{A:Around}{E:nE}{s:Shared}
end
section
variable {X:Cx}
end
end L2
namespace Att
open PySem PySem.W PySem.Calls PyProof.Rows
theorem uJ {P:Params}{h:Heap}: ∀(ns:List Int) (vs:List Value),WellAll P h vs (ns.map WData.int)->IntsAre vs ns:=by
 intro ns;induction ns with
 | nil =>
  intro vs w;rw[P5] at w;cases w;exact .nil
 | cons n ns ih =>
  intro vs w;rw[ND] at w;cases w with
  | cons a b =>
   cases a;exact .cons _ _ (ih _ b)
variable{l:OpenLaw}
theorem Ea {n:Nat}(hn:l.most=some n){P:Params}{h:Heap}{args:List WData}{vals:List Value}
  (hpre:l.row.toRowW.claim.pre args=true) (hwl:WellAll P h vals args) :
  ∃a vs ns,vals=[Value.ref a]/\args=[WData.list (ns.map WData.int)]/\h.get? a=some { cls:= .type "list",data:= .seq vs.toArray }/\IntsAre vs ns/\ns.length<=n:=by
 have hsh:WShape.hasAll [] args [.list .int]=true:=(pre_splitW hpre).1;have hc:l.pre.holds [] { args:=args }=true:=(pre_splitW hpre).2;obtain⟨d,r,rfl,h1,h2⟩:=hasAllW_cons hsh;obtain rfl:=hasAllW_nil h2;obtain⟨xs,rfl,h3⟩:=hasW_list h1;obtain⟨ns,rfl⟩:=items_int h3;have hlen:ns.length<=n:=by
  unfold OpenLaw.pre at hc;have h4:(WTm.not (.lt (.lit (.int (n:Int))) (.len (.arg 0)))).holds [] { args:=[.list (ns.map .int)] }=true:=by
   have h4:=(holds_andW hc).1;rw[hn] at h4;exact h4
  have h5:=condW_of h4 (w_not (w_lt w_lit (w_len_list (w_arg rfl))));rw[MO] at h5;show Qv λq=>?_;have q':(n:Int) < ((ns.length:Nat):Int):=Y
  first
   | (rw[Nv q'] at h5; exact absurd h5 aS)
   | (simp at h5; lia)
 cases hwl with
 | cons w1 w2 =>
  cases w2;cases w1 with
  | list ho hall=>exact⟨_,_,ns,Z,Z,ho,uJ ns _ hall,hlen⟩
theorem BR (l:OpenLaw) (args:List WData):l.row.toRowW.claim.post args (.bool true) args=true :=
 postW_of (r:=l.row.toRowW) (X:=(true == true))
  (show WShape.has [] (.bool true) .bool=true by first | rfl | decide | simp[WShape.has,WShape.arms,WShape.armsAll])
  (show (WTm.eq .res (.lit (.bool true))).value [] { args:=args,res:=some (.bool true),after:=args }=some (.bool (true == true)) from w_eq_bool (w_res rfl) w_lit) rfl
theorem sV {n:Nat}{q:Program}{loose:List Str}{XP:(Str->Option Value)->Heap->Prop}{YP:World->Heap->Prop}{d:DefRec} (hn:l.most=some n) (hdf:d.params.defaults=[])
  (call: ∀(w:World) (s₀ s₁:Shared) (mg mb:oR) (fa:Addr) (o:Obj) (pm cd doc:Value) (a:Addr) (vs:List Value) (ns:List Int),
   Ground q loose [] XP w s₀ mg mb s₁.heap->YP w s₁.heap ->
   s₁.heap.get? fa=some o->o.data= .func (docDef d.name d.params d.body d.scope pm cd doc)->s₁.heap.CodeRec cd d.name->mg d.name=some (.ref fa) ->
   s₁.heap.get? a=some { cls:= .type "list",data:= .seq vs.toArray }->IntsAre vs ns->ns.length<=n->s₁.gens= #[] ->
   codeAny (model l.prog w) callerA (.call (.ref fa) ⟨[.ref a],[]⟩) (λr s'=>r= .ok (.ret (.bool true))/\OldK s₁.heap s'.heap/\s'.os=s₁.os/\AllBare s'.gens) s₁) :
  WalkO q loose XP YP l.row.toRowW d [] (λf vs=>PySem.call f vs):=by
 intro w s₀ s₁ mg mb G bV fa o pm cd doc dV kV ho hd hcd hD hmg hg args vals as hpre hlay hrd hwl hlo;obtain rfl:dV= .none:=Dflts.none hD hdf;obtain rfl:kV= .none:=Dflts.noKw hD;obtain⟨a,vs,ns,rfl,rfl,hobj,hints,hlen⟩:=Ea hn hpre hwl;show enter_call (O1 (call w s₀ s₁ mg mb fa o pm cd doc a vs ns G bV ho (fd_plain hd) hcd hmg hobj hints hlen hg) λr s' hq=>?_);obtain⟨rfl,h2,h3,h4⟩:=hq;exact⟨.inl ⟨.bool true,.bool true,[],Z,λ_=>rfl,.bool true,BR l _,λ_=>⟨List.Pairwise.nil,λ_ hm=>(nomatch hm)⟩⟩,h2,h3,h4⟩
section
variable {prog:Program}{w:World}{A:Around}{E:nE}{s:Shared}{K:Frag}
def ledger (h:Heap) (L d:Addr):List (Addr×Obj):=(List.range h.objs.size).filterMap λa=>if a=L\/a=d then none else (h.get? a).map λo=>(a,o)
end
end Att
namespace L2
open PySem PySem.Spec PyProof.Rows
theorem qI: ∀ {vs:List Value}{ns:List Int},IntsAre vs ns->Vals (ns.map V.int) vs
 | _,_,.nil=> .nil
 | _,_,.cons n t h=> .cons ⟨t,Z⟩ (qI h)
def FY (H:Hp):Prop:= ∀b,H b=none\/ ∃o xs,H b=some (.frz o (.lst xs))
theorem FI {P:Program}{w:World}{K:QG}{mg mb:oR}{CX:Rk}{k:Nat}{fa a:Addr}{fd:FuncData}{x:Str}{sp:Sp}{s₁:Shared}{vs:List Value}{ns:List Int}
  (KX:K.In s₁.heap) (hns:s₁.heap.Ns mainGlobals mg) (hb:s₁.heap.Ns builtinsNs mb) (hbb: ∀x:Str,x≠ "__name__" -> mb x=bootBuiltins x) (hlim:s₁.heap.NoLimit) (hg:s₁.gens= #[])
  (ha:s₁.heap.get? a=some { cls:= .type "list",data:= .seq vs.toArray }) (hi:IntsAre vs ns) (hl:ns.length<=sizeLine) (hr:bC k callerA)
  (F: ∀base:Heap,K.In base->base.Ns mainGlobals mg->dC P w K mg base CX k fa fd [x] sp) (hbind: ∀(s:Shared) (u:Value),BindsTo s fd ⟨[u],[]⟩ [(x,u)])
  (hsp: ∀H:Hp,FY H->QF K H a (ns.map V.int)->sp [.ref a] H (λv _=>v= .bl true) λ_ _ _=>False)
  (hCX: ∀H e s',CX [] H s₁ (λ_ _ _=>False) e s'->False) :
  codeAny (model P w) callerA (.call (.ref fa) ⟨[.ref a],[]⟩) (λr s'=>r= .ok (.ret (.bool true))/\OldK s₁.heap s'.heap/\s'.os=s₁.os/\AllBare s'.gens) s₁:=by
 have rv:=qI hi;have lenV:=hi.length;have core: ∀H:Hp,FY H->QF K H a (ns.map V.int)->QW P w H s₁.heap->(∀b,H b≠none->b=a)->(H a≠none->K.lookup a=none) ->
   codeAny (model P w) callerA (.call (.ref fa) ⟨[.ref a],[]⟩) (λr s'=>r= .ok (.ret (.bool true))/\OldK s₁.heap s'.heap/\s'.os=s₁.os/\AllBare s'.gens) s₁:=by
  intro H hO hS hok hA hK;have base_of: ∀ {b:Addr}{o:Obj},s₁.heap.get? b=some o->H b=none->(iT s₁.heap H).get? b=some o:=λe n=>yw e n;have noA: ∀ {b:Addr}{o:Obj}{es:Array DictEntry}{ep:Nat},s₁.heap.get? b=some o->o.data= .dict es ep->H b=none:=λ{b o es ep} e d=>by
   cases q:H b with
   | none=>rfl
   | some u =>
    have e':b=a:=hA b (by rw[q]; simp);subst e';rw[ha] at e; cases e;have d':Data.seq vs.toArray _=Data.dict es ep:=d;cases d'
  have nsK: ∀ {b:Addr}{m:oR},s₁.heap.Ns b m->(iT s₁.heap H).Ns b m:=λ{b m} ⟨o,es,ep,e,d,r⟩=>⟨o,es,ep,base_of e (noA e d),d,r⟩
  have hKb:K.In (iT s₁.heap H):=λb o e=>base_of (KX b o e) (by
   cases q:H b with
   | none=>rfl
   | some u =>
    have e':b=a:=hA b (by rw[q]; simp);subst e';rw[hK (by rw[q]; simp)] at e; cases e)
  have hM:Mod K mg (iT s₁.heap H):=⟨hKb,nsK hns,⟨mb,nsK hb,hbb⟩,let ⟨mc,h1,h2⟩:=hlim; ⟨mc,nsK h1,h2⟩⟩
  have e0:qz P w K mg (iT s₁.heap H) callerA [] s₁ H:=⟨Z,hM,λb o e=>zW e,Pc (wt _ _),trivial,λb hb=>absurd (show b∈([]:List Addr) from hb) (by simp),hok,.of_eq hg⟩
  show O1 ((F _ hKb (nsK hns)).run callerA [] s₁ H ⟨[.ref a],[]⟩ [.ref a] [.ref a] _ _ hr e0 (hbind s₁ (.ref a)) (.cons rfl .nil) (hsp H hO hS)) λr s' h=>?_;cases r with
  | error e=>exact (hCX H e s' h).elim
  | ok fl =>
   cases fl with
   | next=>exact False.elim h
   | brk=>exact False.elim h
   | cont=>exact False.elim h
   | ret u =>
    obtain⟨v,H',os,bare,un,hok',r',q⟩:=h;have q':v= .bl true:=q;subst q';obtain rfl:u=Value.bool true:=r';show⟨Z,OldK.of_keep λb o e=>?_,os,bare⟩;cases q:H b with
    | none=>exact un.keep b o e q (by intro z; exact absurd (show b∈([]:List Addr) from z) (by simp)) (by simp)
    | some u =>
     rcases hO b with z | ⟨ob,xs,z⟩
     .rw[q] at z; cases z
     .have z2:=un.frzs b ob _ z;obtain⟨e1,_⟩:=hok b _ z;obtain⟨e2,_⟩:=hok' b _ z2;rw[e] at e1; cases e1;exact e2
 cases hk:K.lookup a with
 | some o =>
  have e:=KX a o hk;rw[ha] at e;cases e;show core (λ_=>none) (λ_=> .inl rfl) (.inr ⟨_,vs.toArray,_,hk,Z,Z,Z,by rw[Nb,lenV]; exact hl,by simpa using rv⟩) (λb u z=>by have z':(none:Option HO)=some u:=z; cases z') (λb z=>absurd rfl z) λz=>absurd rfl z
 | none =>
  show core (λb=>if b=a then some (.frz { cls:= .type "list",data:= .seq vs.toArray } (.lst (ns.map V.int))) else none) (λb=>?_) (.inl (.inr ⟨{ cls:= .type "list",data:= .seq vs.toArray },MU rfl⟩)) (λb u z=>?_) (λb z=>?_) λ_=>hk
  .by_cases hb:b=a;.exact .inr ⟨_,_,MU hb⟩
   .exact .inl (MP hb)
  .by_cases hb:b=a
   .have z':=(MU hb).symm.trans z;cases z';subst hb;exact⟨ha,by rw[MO]; exact hl,vs,_,rv,ha⟩
   .have z':=(MP hb).symm.trans z;cases z'
  .by_cases hb:b=a;.exact hb
   .exact absurd (MP hb) z
abbrev SW {K:QG}{h:Heap} (_:K.In h):QG:=K
theorem Mc {l:PySem.W.OpenLaw}{n k:Nat}{q:Program}{loose:List Str}{XP:(Str->Option Value)->Heap->Prop}{YP:World->Heap->Prop}{d:DefRec}{K:Params->QG}{CX:World->Rk}{sp:World->Sp}{x:Str}
  (hn:l.most=some n) (hn2:n<=sizeLine) (hdf:d.params.defaults=[]) (hr:bC k callerA)
  (hY: ∀(w:World) (h:Heap),YP w h->(K w.params).In h)
  (F: ∀(w:World) (mg:oR) (fa:Addr) (h:Heap),(K w.params).In h->h.Ns mainGlobals mg->mg d.name=some (.ref fa) ->
   ∃fd:FuncData,(∀(s:Shared) (u:Value),BindsTo s fd ⟨[u],[]⟩ [(x,u)]) /\
    ∀base:Heap,(K w.params).In base->base.Ns mainGlobals mg->dC l.prog w (K w.params) mg base (CX w) k fa fd [x] (sp w))
  (hsp: ∀(w:World) (H:Hp) (a:Addr) (ns:List Int),ns.length<=n->FY H->QF (K w.params) H a (ns.map V.int)->sp w [.ref a] H (λv _=>v= .bl true) λ_ _ _=>False)
  (hCX: ∀(w:World) (H:Hp) (s:Shared) (e:Value) (s':Shared),CX w [] H s (λ_ _ _=>False) e s'->False) :
  PySem.W.WalkO q loose XP YP l.row.toRowW d [] (λf vs=>PySem.call f vs):=by
 show Att.sV hn hdf λw s₀ s₁ mg mb fa o pm cd doc a vs ns G bV ho hd hcd hmg hobj hints hlen hg=>?_;have KX:=hY w _ bV;obtain⟨fd,hb,hF⟩:=F w mg fa _ KX G.T.g hmg;exact FI KX G.T.g G.T.b G.T.builtins G.T.nolimit hg hobj hints (Ng hlen hn2) hr hF hb (λH hO hS=>hsp w H a ns hlen hO hS) λH e s'=>hCX w H s₁ e s'
def inClass (s:Stmt) (j:Nat):Stmt:=match s with
 | .ClassDef _ _ _ body _ _ _ _ _ _ _=>body.getD j (.Pass ⟨0,0,0,0⟩)
 | _=> .Pass ⟨0,0,0,0⟩
def cU (s:Stmt):Arguments:=match s with
 | .FunctionDef _ a _ _ _ _ _ _ _ _=>a
 | _=>{ posonlyargs:=[],args:=[],vararg:=none,kwonlyargs:=[],kw_defaults:=[],kwarg:=none,defaults:=[] }
def bN (s:Stmt):List Stmt:=match s with
 | .FunctionDef _ _ b _ _ _ _ _ _ _=>b
 | _=>[]
def aj (s:Stmt):Scope:=match s with
 | .FunctionDef _ _ _ _ _ _ sc _ _ _=>sc
 | _=>{ kind:= .function,names:=[],isGenerator:=false,isCoroutine:=false }
abbrev Rc:Rk:=λ_ _ _ _ _ _=>False
abbrev E0:XK:=λ_ _ _=>False
theorem w9 {X:Cx}:Passes Rc X E0:=λ_ _ _ _ _ _ _ h=>h.elim
structure RY (K:QG) (x qual:Str) (st:Stmt) (f:Addr) (fd:FuncData):Prop where
 ex: ∃(oc:Value) (od:Option Addr) (kV doc pm:Value) (an:Option Addr) (cdv ct:Value) (osl:Array (Option Value)),
  fd=PySem.W.fnOf x qual (cU st) (bN st) (aj st) .none kV doc pm an cdv ct/\K.lookup f=some ⟨oc,od,.func fd,osl⟩/\PySem.W.codeIn K cdv qual=true
 kp:PySem.W.keepIn K (.ref f)=true
section
variable {P:Program}{w:World}{K:QG}{mg:oR}{base:Heap}
variable{qual:Str}{f:Addr}{fd:FuncData}{ps:List Str}
theorem RY.ok {x:Str}{st:Stmt}{N:List Str}{k:Nat}{sp:Sp}(F:RY K x qual st f fd) (S:ax N ps (aj st)) (len: ∀vs H Q E,sp vs H Q E->vs.length=ps.length)
  (hbody: ∀(cdv:Value) (A:Around) (outer:List Env) (s:Shared) (H:Hp) (vs:List V) (Q:VK) (E:XK),bC k (A.deeper (envOfC qual (aj st) s.heap.objs.size f cdv))->sp vs H Q E ->
   ∃t,Q0 (fW Rc P w K mg base N qual (aj st) f cdv A outer s H E).RM (bN st) t/\t { nx:=λ_ H'=>Q .non H',rt:=Q } (start N vs) H):dC P w K mg base Rc (k+1) f fd ps sp:=by
 obtain⟨oc,od,kV,doc,pm,an,cdv,ct,osl,rfl,lk,hcd⟩:=F.ex;show wY lk hcd S len λA outer s H vs Q E hr hsp=>?_;obtain⟨t,h,q⟩:=hbody cdv A outer s H vs Q E hr hsp;exact⟨t,h.RM,q⟩
theorem RY.binds {x:Str}{st:Stmt}(F:RY K x qual st f fd)
  (h: ∀(kV doc pm:Value) (an:Option Addr) (cdv ct:Value) (us:List Value),us.length=ps.length->bindArgs (PySem.W.fnOf x qual (cU st) (bN st) (aj st) .none kV doc pm an cdv ct) ⟨us,[]⟩=pure (ps.zip us)):Binds K fd ps []:=by
 obtain⟨oc,od,kV,doc,pm,an,cdv,ct,osl,rfl,lk,hcd⟩:=F.ex;exact .all (h kV doc pm an cdv ct)
theorem xF {x:Str}{st:Stmt}{oc:Value}{od an:Option Addr}{osl:Array (Option Value)}{kV doc pm cdv ct:Value}(l:K.lookup f=some ⟨oc,od,.func (PySem.W.fnOf x qual (cU st) (bN st) (aj st) .none kV doc pm an cdv ct),osl⟩)
  (c:PySem.W.codeIn K cdv qual=true) (k:PySem.W.keepIn K (.ref f)=true):RY K x qual st f (PySem.W.fnOf x qual (cU st) (bN st) (aj st) .none kV doc pm an cdv ct):=⟨⟨oc,od,kV,doc,pm,an,cdv,ct,osl,Z,l,c⟩,k⟩
end
theorem dF {A:Around}{k:Nat}(hr:bC k A):A.units+1 < cLine:=Oc (Nat.add_le_add_left (by decide:1<=64) _) hr.units
theorem rM {n:Nat}(h:n<=1000):n < sizeLine:=Oc h aS
section
variable {X:Cx}
theorem pv (i:Nat){x:Str}{pos:Pos}(hN:X.N[i]?=some x:=by rfl) (hv:Sg X.env.scope x:=by first | exact Or.inl rfl | exact Or.inr (Or.inl rfl) | exact Or.inr (Or.inr rfl)) (hd:(x == ("__debug__" : Str))=false:=by decide)
  (hcd:(x == ("__classdict__" : Str))=false:=by decide):PE X (.Name x pos) (pO i):=Je hN hv hd hcd
abbrev aT:=@pv X 0
abbrev bY:=@pv X 1
abbrev dO:=@pv X 2
abbrev eX:=@pv X 3
abbrev gE:=@pv X 4
abbrev gT:=@pv X 5
abbrev iF:=@pv X 6
abbrev iN:=@pv X 7
abbrev iS:=@pv X 8
abbrev lE:=@pv X 9
abbrev lT:=@pv X 10
end
variable{A B:Prop}
theorem aP(h:B):if false=true then A else B:=by
 rw[MP Nd];exact h
theorem bu(h:A):if true=true then A else B:=by
 rw[MU rfl];exact h
theorem bo {c:Prop} [Decidable c] (h1:c->A) (h2: ¬c->B):if c then A else B:=by
 by_cases h:c
 .rw[MU h];exact h1 h
 .rw[MP h];exact h2 h
def ag (H H':Hp):Prop:= ∀b o,H b=some o->H' b=some o
theorem ag.refl (H:Hp):ag H H:=λ_ _ h=>h
variable{H:Hp}
theorem ag.trans {H1 H2:Hp}(a:ag H H1) (b:ag H1 H2):ag H H2:=λc o h=>b c o (a c o h)
theorem ag.free {H':Hp}(e:ag H H'){l:Addr}(h:H' l=Option.none):H l=Option.none:=by
 cases q:H l with
 | none=>rfl
 | some o =>
  rw[e l o q] at h;cases h
theorem ag.seq {K:QG}{H':Hp}{a:Addr}{xs:List V}(e:ag H H') (h:QF K H a xs):QF K H' a xs:=by
 rcases h with (h | ⟨o,h⟩) | h
 .exact .inl (.inl (e _ _ h))
 .exact .inl (.inr ⟨o,e _ _ h⟩)
 .exact .inr h
end L2
namespace L2
open PySem
variable{M:List PySem.Value->Prop}
theorem R8 {n:Nat}(f: ∀a t,t.length=n->M (a::t)) (us:List PySem.Value):us.length=n+1->M us :=
 List.rec (motive:=λus=>us.length=n+1->M us) (λh=>absurd h (Nat.zero_ne_add_one n)) (λa t _ h=>f a t (Qw h)) us
theorem SV {M:List PySem.Value->Prop}(f:M []) (us:List PySem.Value) (h:us.length=0):M us :=
 (N3 h).symm▸f
theorem SD {M:List PySem.Value->Prop}(f: ∀a,M [a]): ∀us:List PySem.Value,us.length=1->M us:=R8 λa=>SV (M:=λt=>M (a::t)) (f a)
theorem SF {M:List PySem.Value->Prop}(f: ∀a b,M [a,b]): ∀us:List PySem.Value,us.length=2->M us:=R8 λa=>SD (M:=λt=>M (a::t)) (f a)
theorem R9 {M:List PySem.Value->Prop}(f: ∀a b c,M [a,b,c]): ∀us:List PySem.Value,us.length=3->M us:=R8 λa=>SF (M:=λt=>M (a::t)) (f a)
theorem Sl {M:List PySem.Value->Prop}(f: ∀a b c d,M [a,b,c,d]): ∀us:List PySem.Value,us.length=4->M us:=R8 λa=>R9 (M:=λt=>M (a::t)) (f a)
theorem SS {M:List PySem.Value->Prop}(f: ∀a b c d e,M [a,b,c,d,e]): ∀us:List PySem.Value,us.length=5->M us:=R8 λa=>Sl (M:=λt=>M (a::t)) (f a)
theorem Th(f: ∀a b c d e f,M [a,b,c,d,e,f]): ∀us:List PySem.Value,us.length=6->M us:=R8 λa=>SS (M:=λt=>M (a::t)) (f a)
end L2
namespace L2
open PySem PySem.Spec PyProof.Rows
def bD:List (Str×NameKind)->List (Str×Addr)->List (Str×Addr)->List (Str×Addr)
 | [],_,acc=>acc
 | (n,k)::r,cs,acc=>if k= .free then (match cs.lookup n with | some c=>bD r cs ((n,c)::acc) | none=>bD r cs acc) else bD r cs acc
variable{scope:Scope}
theorem lp {env:Env}(h: ∀x∈scope.names,x.2= .free-> ∃c,env.cells.lookup x.1=some c) :
  closureFor scope env=pure (bD scope.names env.cells []):=by
 simp only[closureFor];have key: ∀(names:List (Str×NameKind)) (acc:List (Str×Addr)),(∀x∈names,x.2= .free-> ∃c,env.cells.lookup x.1=some c) ->
   (forIn names acc λx r=>if (x.2 == NameKind.free)=true then (do let __do_lift <-cellOf env x.1; pure (ForInStep.yield ((x.1,__do_lift)::r))) else (pure (ForInStep.yield r):Sem _))=(pure (bD names env.cells acc):Sem _):=by
  intro names;induction names with
  | nil=>intro acc _; rfl
  | cons x r ih =>
   intro acc hx;obtain⟨n,k⟩:=x;have hr:=λy hy=>hx y (M4 _ hy);rw[List.forIn_cons];by_cases hk:k= .free
   .subst hk;obtain⟨c,hc⟩:=hx (n,.free) M7 rfl;have hc':env.cells.lookup n=some c:=hc;have e1:cellOf env n=pure c:=(by unfold cellOf; rw[hc']);have e2:bD ((n,NameKind.free)::r) env.cells acc=bD r env.cells ((n,c)::acc):=by
     change (if NameKind.free=NameKind.free then (match env.cells.lookup n with | some c=>bD r env.cells ((n,c)::acc) | none=>bD r env.cells acc) else _)=_;rw[MU rfl,hc']
    rw[e2,<-ih _ hr];change ((if (NameKind.free == NameKind.free)=true then _ else _) >>= _)=_;rw[MU (show (NameKind.free == NameKind.free)=true from rfl)];change ((cellOf env n >>= λ__do_lift=>pure (ForInStep.yield ((n,__do_lift)::acc))) >>= _)=_;rw[e1];rfl
   .have hb:(k == NameKind.free)=false:=by simpa using hk
    have e2:bD ((n,k)::r) env.cells acc=bD r env.cells acc:=by
     change (if k=NameKind.free then _ else _)=_;rw[MP hk]
    rw[e2,<-ih _ hr];change ((if (k == NameKind.free)=true then _ else _) >>= _)=_;rw[MP (by rw[hb]; exact Nd)];rfl
 exact (NJ (λz=>z >>= λr=>pure r) (key scope.names [] h)).trans rfl
theorem jc: ∀ {names:List (Str×NameKind)}{cs acc:List (Str×Addr)}{x:Str}{c:Addr},(∀y d,acc.lookup y=some d->cs.lookup y=some d)->(bD names cs acc).lookup x=some c->cs.lookup x=some c
 | [],_,_,_,_,h,e=>h _ _ e
 | (n,k)::r,cs,acc,x,c,h,e=>by
  unfold bD at e;split at e
  .split at e
   .rename_i d hd;show jc (names:=r) (λy z q=>?_) e;rw[N7] at q;split at q
    .rename_i hy;cases q;rw[eq_of_beq hy];exact hd
    .exact h _ _ q
   .exact jc (names:=r) h e
  .exact jc (names:=r) h e
theorem gS: ∀ {names:List (Str×NameKind)}{cs acc:List (Str×Addr)}{x:Str}{c:Addr},(∀y d,acc.lookup y=some d->cs.lookup y=some d)->cs.lookup x=some c->(x,NameKind.free)∈names\/(acc.lookup x=some c)->(bD names cs acc).lookup x=some c
 | [],_,_,_,_,h,e,m=>by
  rcases m with m | m
  .cases m
  .exact m
 | (n,k)::r,cs,acc,x,c,h,e,m=>by
  have h2: ∀d,cs.lookup n=some d-> ∀y z,((n,d)::acc).lookup y=some z->cs.lookup y=some z:=λd hd y z q=>by
   rw[N7] at q;split at q
   .rename_i hy;cases q;rw[eq_of_beq hy];exact hd
   .exact h _ _ q
  unfold bD;split
  .rename_i hk;subst hk;split
   .rename_i d hd;show gS (names:=r) (h2 d hd) e ?_;by_cases hx:x=n
    .subst hx;right;rw[List.lookup_cons_self,<-hd,e]
    .rcases m with m | m
     .left;rcases M3.mp m with q | q
      .cases q;exact absurd rfl hx
      .exact q
     .right;rw[N7];have:(x == n)=false:=beq_eq_false_iff_ne.mpr hx;rw[this];exact m
   .rename_i hd;show gS (names:=r) h e ?_;rcases m with m | m
    .rcases M3.mp m with q | q
     .cases q;rw[hd] at e;cases e
     .exact .inl q
    .exact .inr m
  .rename_i hk;show gS (names:=r) h e ?_;rcases m with m | m
   .rcases M3.mp m with q | q
    .cases q;exact absurd rfl hk
    .exact .inl q
   .exact .inr m
def yJ (scope psc:Scope):Scope :=
 { scope with names:=scope.names.map λx=>if (x.2 == .free && psc.kind == .function && psc.names.lookup x.1 == some .cell) then (x.1,.cell) else (x.1,x.2) }
variable{psc:Scope}
theorem uj {scope:Scope}{env:Env}(h:env.scope=psc):relabel scope env=yJ scope psc:=by
 subst h;rfl
variable{f:Str×NameKind->Str×NameKind}
theorem x3(hf: ∀x,(f x).1=x.1/\((f x).2=x.2\/(x.2= .free/\(f x).2= .cell))): ∀ {names:List (Str×NameKind)}{x:Str}{k:NameKind},
  names.lookup x=some k-> ∃k',(names.map f).lookup x=some k'/\(k'=k\/(k= .free/\k'= .cell))
 | [],_,_,h=>by simp at h
 | (n,j)::r,x,k,h=>by
  have e1:((n,j)::r).map f=f (n,j)::r.map f:=rfl;rw[e1];obtain⟨a,b,e⟩: ∃a b,f (n,j)=(a,b):=⟨_,_,Z⟩
  obtain⟨h1,h2⟩:=hf (n,j);rw[e] at h1 h2;have h1':a=n:=h1;subst h1';rw[e,N7];rw[N7] at h;cases hx:x == a with
  | true =>
   rw[hx] at h;have h':j=k:=Nc h;subst h';exact⟨_,Z,h2⟩
  | false =>
   rw[hx] at h;exact x3 hf h
theorem Cz {psc:Scope}{x:Str}{k:NameKind}(h:scope.names.lookup x=some k): ∃k',(yJ scope psc).names.lookup x=some k'/\(k'=k\/(k= .free/\k'= .cell)):=by
 show x3 (λy=>?_) h;by_cases c:(y.2 == NameKind.free && psc.kind == .function && psc.names.lookup y.1 == some .cell)=true
 .rw[MU c];have c':y.2= .free:=by
   rw[NG,NG] at c;exact eq_of_beq c.1.1
  exact⟨Z,.inr ⟨c',Z⟩⟩
 .rw[MP c];exact⟨Z,.inl rfl⟩
theorem iY: ∀ {l:List (Str×NameKind)}{x:Str}{k:NameKind},l.lookup x=some k->(x,k)∈l
 | [],_,_,h=>by simp at h
 | (n,j)::r,x,k,h=>by
  rw[N7] at h;cases hx:x == n with
  | true =>
   rw[hx] at h;have h':j=k:=Nc h;rw[eq_of_beq hx,h'];exact M7
  | false =>
   rw[hx] at h;exact M4 _ (iY h)
theorem qB(hf: ∀x,(f x).1=x.1): ∀ {l:List (Str×NameKind)}{x:Str}{k:NameKind},(l.map f).lookup x=some k-> ∃k',l.lookup x=some k'/\(f (x,k')).2=k
 | [],_,_,h=>by simp at h
 | (n,j)::r,x,k,h=>by
  have e1:((n,j)::r).map f=f (n,j)::r.map f:=rfl;rw[e1] at h;obtain⟨a,b,e⟩: ∃a b,f (n,j)=(a,b):=⟨_,_,Z⟩
  have h1:=hf (n,j);rw[e] at h1;have h1':a=n:=h1;subst h1';rw[e,N7] at h;rw[N7];cases hx:x == a with
  | true =>
   rw[hx] at h;have h':b=k:=Nc h;show⟨j,Z,?_⟩;rw[eq_of_beq hx,e];exact h'
  | false =>
   rw[hx] at h;exact qB hf h
theorem Cy {x:Str}(h:(yJ scope psc).names.lookup x=some .cell\/(yJ scope psc).names.lookup x=some .free):scope.names.lookup x=some .free\/scope.names.lookup x=some .cell:=by
 have key: ∀k,(yJ scope psc).names.lookup x=some k->k= .cell\/k= .free->scope.names.lookup x=some .free\/scope.names.lookup x=some .cell:=λk hk h2=>by
  obtain⟨k',h1,h3⟩:=qB (λy=>by split <;> rfl) hk;by_cases c:(k' == NameKind.free && psc.kind == .function && psc.names.lookup x == some .cell)=true
  .rw[NG,NG] at c;rw[h1,eq_of_beq c.1.1];exact .inl rfl
  .have h3':(if (k' == NameKind.free && psc.kind == .function && psc.names.lookup x == some .cell)=true then ((x,NameKind.cell):Str×NameKind) else (x,k')).2=k:=h3;rw[MP c] at h3';have e:k'=k:=h3';rw[h1,e];rcases h2 with h2 | h2
   .rw[h2]; exact .inr rfl
   .rw[h2]; exact .inl rfl
 rcases h with h | h
 .exact key _ h (.inl rfl)
 .exact key _ h (.inr rfl)
structure i8 (psc scope:Scope) (own frn:List Str):Prop where
 kind:scope.kind= .function
 cell: ∀y∈scope.names,y.2≠ .cell
 names: ∀y∈scope.names,y.2= .local->scope.names.lookup y.1=some .local
 free: ∀y∈scope.names,y.2= .free->psc.names.lookup y.1=some .cell\/psc.names.lookup y.1=some .free
 nd:(own++frn).Nodup
 frn: ∀x∈frn,scope.names.lookup x=some .free
def cH (own:List Str) (fr:List Nat) (O:St):St:=own.map (λ_=>none)++fr.map λj=>(O[j]?).getD none
def bc (X:Cx) (N':List Str) (scope:Scope) (C:Addr) (s2:Shared) (H:Hp) (fp:List Addr):Cx :=
 { X with N:=N',s₀:=s2,H₀:=H,env:=compEnvC scope (bD scope.names X.env.cells []) C X.env,outer:=X.stack,ex:=fp,fn:=λ_=>false,pn:=[],xe:=λ_ _=>False }
section
variable {X:Cx}{QE:mK}{O:St}{H:Hp}{s:Shared}
theorem zZ {psc scope:Scope}{own frn:List Str}{C:Addr}{fp:List Addr}(S:i8 psc scope own frn) (hp:X.env.scope=psc) (I:Inv X QE O H s) (hfp: ∀b∈fp,bG X QE H b) (hlt: ∀b∈fp,b < s.heap.objs.size) (hC:s.heap.objs.size<=C) :
  (bc X (own++frn) scope C s H fp).Ok:=by
 have sub: ∀x c,(bD scope.names X.env.cells []).lookup x=some c->X.env.cells.lookup x=some c:=λx c h=>jc (λy d q=>by simp at q) h;have hs:=uj (scope:=scope) hp;exact {
  mod:=I.ok.mod
  kind:=S.kind
  glob:=I.ok.glob
  blt:=I.ok.blt
  above:=hC
  inj:=λx y c h1 h2=>I.ok.inj x y c (sub x c h1) (sub y c h2)
  has:=λx h=>by
   have h':(relabel scope X.env).names.lookup x=some .cell\/(relabel scope X.env).names.lookup x=some .free:=h;rw[hs] at h';have hf:scope.names.lookup x=some .free:=by
    rcases Cy h' with q | q
    .exact q
    .exact absurd rfl (S.cell _ (iY q))
   have hm:=iY hf;have hk:=S.free _ hm rfl;rw[<-hp] at hk;obtain⟨c,hc⟩:=I.ok.has x hk;exact⟨c,gS (λy d q=>by simp at q) hc (.inl hm)⟩
  cab:=λx c h=>by cases h
  hd:=I.ok.hd
  frames:=I.ok.frames
  stk:= .inl rfl
  exf:=λb hb=>⟨λe=>absurd (hlt b hb) (OI.mpr (by rw[e]; exact hC)),λx c h=>(hfp b hb).2.2.2.2.1 x c (sub x c h)⟩
  bs:=I.bs
  bsz:=Ng I.ok.bsz I.sz
  noex:=λb o e hb=>by
   rcases (hfp b hb).2.2.2.1 with h | h
   .exact I.ok.noex b o e h
   .exact absurd (Na e) (OI.mpr (Ng I.ok.bsz h))
  exfs:=λb hb q=>by
   rcases M3.mp (I.ur b q) with h | h
   .exact (hfp b hb).2.1 h
   .exact (hfp b hb).2.2.1 h
  eO:=I.stack
  frf:=I.r9 }
end
section
variable {X:Cx}{QE:mK}{O:St}{H:Hp}{s:Shared}
theorem Ax {psc scope:Scope}{own frn:List Str}{fr:List Nat}{C:Addr}{fp:List Addr}{h1:Heap}{tk:Nat}{m:oR}(S:i8 psc scope own frn) (hp:X.env.scope=psc) (I:Inv X QE O H s)
  (hfr:fr.map (λj=>X.N[j]?)=frn.map some) (hfp: ∀b∈fp,bG X QE H b) (hlt: ∀b∈fp,b < s.heap.objs.size) (hC:s.heap.objs.size<=C) (hn:h1.Ns C m) (kp: ∀b o,s.heap.get? b=some o->h1.get? b=some o) :
  Inv (bc X (own++frn) scope C s H fp) [] (cH own fr O) H { s with heap:=h1,toks:=tk }:=by
 have sub: ∀x c,(bD scope.names X.env.cells []).lookup x=some c->X.env.cells.lookup x=some c:=λx c h=>jc (λy d q=>by simp at q) h;have hlen:fr.length=frn.length:=by
  have:=NJ List.length hfr;simpa using this
 exact {
  ok:=zZ S hp I hfp hlt hC
  os:=rfl
  bare:=I.bare
  base:=Un.kept kp
  loc:=by
   show⟨m,hn,λi x v hi hv _=>?_⟩;have hi':(own++frn)[i]?=some x:=hi;have hv':(own.map (λ_=>(none:Option V))++fr.map λj=>(O[j]?).getD none)[i]?=some (some v):=hv;by_cases hlo:i < own.length
   .rw[Pm (by simpa using hlo),M5,MQ hlo] at hv';cases hv'
   .have hle:own.length<=i:=Qv hlo;rw[Pg hle] at hi';rw[Pg (by simpa using hle),MO,M5] at hv';generalize hk:i - own.length=k at hi' hv';cases hj:fr[k]? with
    | none=>rw[hj] at hv'; cases hv'
    | some j =>
     rw[hj] at hv';have hv2:(O[j]?).getD none=some v:=Nc hv';have hσ:O[j]?=some (some v):=by
      cases e:O[j]? with
      | none=>rw[e] at hv2; cases hv2
      | some z=>rw[e] at hv2; exact NJ some hv2
     have hN:X.N[j]?=some x:=by
      have q:=NJ (λl=>l[k]?) hfr;have q':(fr.map (λj=>X.N[j]?))[k]?=(frn.map some)[k]?:=q;rw[M5,M5,hj,hi'] at q';exact Nc q'
     have hx:x∈frn:=MS hi';have hf:=S.frn x hx;have hm:=iY hf;have hkd:=S.free _ hm rfl;rw[<-hp] at hkd;have hvis:Sg X.env.scope x:=by
      rcases hkd with q | q
      .exact .inr (.inl q)
      .exact .inr (.inr q)
     obtain⟨m0,hn0,hl0⟩:=I.loc;obtain⟨u,ru,hlk⟩:=hl0 j x v hN hσ hvis;show⟨u,ru,?_⟩;have hkd':X.env.kindOf x=some .cell\/X.env.kindOf x=some .free:=hkd;rcases hlk with⟨q,_⟩ | ⟨_,c,hc,hcell⟩
     .rcases hkd' with z | z <;> (rw[q] at z; cases z)
     .show .inr ⟨?_,c,gS (λy d q=>by simp at q) hc (.inl hm),hcell.keeps kp⟩;obtain⟨k',h1',h2'⟩:=Cz (psc:=psc) hf;have h3:Env.kindOf (compEnvC scope (bD scope.names X.env.cells []) C X.env) x=some k':=by
       change (relabel scope X.env).names.lookup x=some k';rw[uj hp];exact h1'
      rcases h2' with e | ⟨_,e⟩
      .right; rw[e] at h3; exact h3
      .left; rw[e] at h3; exact h3
  cell:=λx c h=>by
   obtain⟨v,hv⟩:=I.cell x c (sub x c h);exact⟨v,hv.keeps kp⟩
  free:=I.hok.fresh hC
  freeC:=λx c h=>I.freeC x c (sub x c h)
  pin:=λp hp'=>by cases hp'
  hok:=I.hok.kept kp
  len:=by
   change (own.map (λ_=>(none:Option V))++fr.map λj=>(O[j]?).getD none).length=(own++frn).length;simp[hlen] }
end
section
variable {prog:Program}{w:World}{A:Around}{R:Result->Shared->Prop}{s:Shared}
theorem Dw {elt tg iter:Expr}{ifs:List Expr}{scope:Scope}{pos:Pos}{it acc:Value}{env:Env}(J:Nat->Shared->Prop)
  (turn: ∀n s,J n s->wpAny (model prog w) A (pyNext it) (λr s1=>match r with
   | none=>R (.ok .next) s1
   | some v=>wpAny (model prog w) A (letOwnedTupleGo tg it v) (λ_ s2=>wpAny (model prog w) A (assign tg env v) (λ_ s3 =>
     wpAny (model prog w) A (forIn ifs true λc r=>if r=true then do let ok <-isTrue c env (eval c env); pure (ForInStep.yield ok) else pure (ForInStep.yield r)) (λok s4 =>
      if ok=true then wpAny (model prog w) A (eval elt env) (λx s5=>wpAny (model prog w) A (call (.builtin "list.append") [acc,x]) (λ_ s6=> ∃m,m < n/\J m s6) (λ_ _=>False) s5) (λ_ _=>False) s4
      else ∃m,m < n/\J m s4) (λ_ _=>False) s3) (λ_ _=>False) s2) (λ_ _=>False) s1) (λ_ _=>False) s)
  (n:Nat) (h:J n s):codeAny (model prog w) A (.compLoop (.ListComp elt [⟨tg,iter,ifs,0⟩] scope pos) 0 it acc env) R s:=by
 show codeAny_loop rfl J (λn s hJ=>?_) n h;change wpAny (model prog w) A ((compTurn (.ListComp elt [⟨tg,iter,ifs,0⟩] scope pos) 0 it acc env).onRaise (λx=>do noteFrame x env; theTreesLotGoes x)) _ _ s;show wpAny_noted ?_;rw[compTurn_list];show MY (OD (MY (NU (turn n s hJ) (λr s1 h1=>?_) λ_ _ f=>f.elim)));cases r with
 | none=>exact Nj h1
 | some v =>
  show MY (NU h1 (λ_ s2 h2=>?_) λ_ _ f=>f.elim);show MY (NU h2 (λ_ s3 h3=>MY (NU h3 (λok s4 h4=>?_) λ_ _ f=>f.elim)) λ_ _ f=>f.elim);cases ok with
  | false=>exact Nj ⟨Z,h4⟩
  | true=>exact MY (MY (NU h4 (λx s5 h5=>MY (NU h5 (λ_ s6 h6=>Nj (Nj ⟨Z,h6⟩)) λ_ _ f=>f.elim)) λ_ _ f=>f.elim))
end
def kx:TT:=λ_ H Q=>Q true H
def RQ (X:Cx) (ifs:List Expr) (t:TT):Prop :=
 ∀(QE:mK) (s:Shared) (O:St) (H:Hp) (Q:Bool->Hp->Prop),Inv X QE O H s->t O H Q ->
  wpAny (model X.prog X.w) X.A (forIn ifs true λc r=>if r=true then do let ok <-isTrue c X.env (eval c X.env); pure (ForInStep.yield ok) else pure (ForInStep.yield r)) (TP X QE O Q) X.xe s
variable{X:Cx}
theorem dR:RQ X [] kx:=λ_ _ _ H _ I h=>wpAny_tests_nil ⟨H,I,h⟩
theorem me {c:Expr}{t:TT}(h:PT X c t):RQ X [c] t:=λQE s O H Q I q=>wpAny_tests_one (h QE s O H Q I q)
def nz (J:It) (g:TG) (tt:TT) (te:TE) (own:List Str) (fr:List Nat) (O:St) (H:Hp) (Q:VK):Prop :=
 ∃W:Nat->Nat->List V->Hp->Prop,(∃m,W 0 m [] H)/\ ∀i m ys H2,W i m ys H2 ->
  (J.stop i H2/\ys.length<=sizeLine/\ ∀p,H2 p=none->Q (.ref p) (upd H2 p (.lst ys))) \/
  (J.go i H2/\ys.length < sizeLine/\ ∀x H3,J.yld i H2 x H3->g x (cH own fr O) H3 λO4 H4=>tt O4 H4 λb H5 =>
   if b=true then te O4 H5 λy H6=> ∃m',m' < m/\W (i+1) m' (ys++[y]) H6 else ∃m',m' < m/\W (i+1) m' ys H5)
def sx (wi:TI) (g:TG) (tt:TT) (te:TE) (own:List Str) (fr:List Nat):TE:=λO H Q=>wi O H λJ H1=>nz J g tt te own fr O H1 Q
def mS (n:Nat) (g:TG):Prop:= ∀x O H Q,g x O H Q->g x O H λO' H'=>(O'.length=O.length/\ ∀j,n<=j->O'[j]?=O[j]?)/\Q O' H'
def w5 (n:Nat) (g:RB):Prop:= ∀xs O H Q,g xs O H Q->g xs O H λO' H'=>(O'.length=O.length/\ ∀j,n<=j->O'[j]?=O[j]?)/\Q O' H'
theorem gu {n i:Nat}(h:i < n):mS n (aM i):=λx O H Q q =>
 ⟨⟨ON,λj hj=>P4 Y⟩,q⟩
theorem sv {n:Nat}:w5 n Fs:=λxs O H Q ⟨e,q⟩=>⟨e,⟨Z,λ_ _=>rfl⟩,q⟩
def AL (g:TG):Prop:= ∀x O H (Q Q':St->Hp->Prop),(∀O' H',Q O' H'->Q' O' H')->g x O H Q->g x O H Q'
def uE (g:RB):Prop:= ∀xs O H (Q Q':St->Hp->Prop),(∀O' H',Q O' H'->Q' O' H')->g xs O H Q->g xs O H Q'
theorem dE {i:Nat}:AL (aM i):=λx O H Q Q' h q=>h _ _ q
theorem g6:uE Fs:=λxs O H Q Q' h ⟨e,q⟩=>⟨e,h _ _ q⟩
variable{gs:RB}
theorem kd {g:TG}(h1:AL g) (h2:uE gs):uE (BG g gs):=λxs O H Q Q' h ⟨v,r,e,q⟩ =>
 ⟨v,r,e,h1 _ _ _ _ _ (λO' H' z=>h2 _ _ _ _ _ h z) q⟩
theorem fU {n:Nat}{g:TG}(h1:mS n g) (m1:AL g) (h2:w5 n gs) (m2:uE gs):w5 n (BG g gs):=λxs O H Q ⟨v,r,e,q⟩=>by
 show⟨v,r,e,m1 _ _ _ _ _ (λO' H' z=>?_) (h1 _ _ _ _ q)⟩;obtain⟨⟨l1,k1⟩,z⟩:=z;show m2 _ _ _ _ _ (λO2 H2 z2=>?_) (h2 _ _ _ _ z);obtain⟨⟨l2,k2⟩,z2⟩:=z2;exact⟨⟨l2.trans l1,λj hj=>(k2 j hj).trans (k1 j hj)⟩,z2⟩
theorem uS {n k:Nat}{K:QG}(h:w5 n gs):mS n (vJ K k gs):=λx O H Q ⟨a,xs,e,hq,hl,q⟩=>⟨a,xs,e,hq,hl,h _ _ _ _ q⟩
structure AD (cond:Cx->Prop) (P:Program) (w:World) (K:QG) (tg:Expr) (J:It) (fp:List Addr) (it:Addr) (tn:Nat->Heap->Prop):Prop where
 mem:it∈fp
 obj: ∀i h,tn i h-> ∀b∈fp,∃o,h.get? b=some o/\ ∀v,o.data≠ .cell v
 keep: ∀i h h',tn i h->(∀b∈fp,∀o,h.get? b=some o->h'.get? b=some o)->tn i h'
 item: ∀(X:Cx),X.prog=P->X.w=w->X.K=K->cond X-> ∀(i:Nat) (QE:mK) (s:Shared) (O:St) (H:Hp) (E:nE),Inv X QE O H s->(∀b∈fp,bG X QE H b)->tn i s.heap->J.go i H ->
  wpAny (model P w) X.A (pyNext (.ref it)) (λr s1=> ∃u,r=some u /\
   wpAny (model P w) X.A (letOwnedTupleGo tg (.ref it) u) (λ_ s2=> ∃x H',Inv X QE O H' s2/\RelV x u/\J.yld i H x H'/\tn (i+1) s2.heap/\ ∀b∈fp,H' b=none) E s1) E s
 done: ∀(X:Cx),X.prog=P->X.w=w->X.K=K->cond X-> ∀(i:Nat) (QE:mK) (s:Shared) (O:St) (H:Hp) (E:nE),Inv X QE O H s->(∀b∈fp,bG X QE H b)->tn i s.heap->J.stop i H ->
  wpAny (model P w) X.A (pyNext (.ref it)) (λr s1=>r=none/\Inv X QE O H s1) E s
 self: ∀(A:Around) (i:Nat) (s:Shared) (Q:nE) (E:nE),tn i s.heap->Q (.ref it) s->wpAny (model P w) A (pyIter (.ref it)) Q E s
variable{P:Program}{w:World}{K:QG}{tg:Expr}{J:It}
theorem Turn.c {fp:List Addr}{it:Addr}{tn:Nat->Heap->Prop}(T:Turn P w K tg J fp it tn):AD (λX=>X.calm=true) P w K tg J fp it tn:=⟨T.mem,T.obj,T.keep,T.item,T.done,T.self⟩
def SJ (cond:Cx->Prop) (X:Cx) (tg iter:Expr) (wi:TI):Prop :=
 ∀(QE:mK) (s:Shared) (O:St) (H:Hp) (R:It->Hp->Prop),Inv X QE O H s->wi O H R ->
  wpAny (model X.prog X.w) X.A (eval iter X.env) (λv s1=>wpAny (model X.prog X.w) X.A (pyIter v) (λitv s2 =>
   ∃(it:Addr) (fp:List Addr) (tn:Nat->Heap->Prop) (J:It) (H':Hp),itv= .ref it/\Inv X QE O H' s2/\AD cond X.prog X.w X.K tg J fp it tn/\tn 0 s2.heap/\(∀b∈fp,bG X QE H' b)/\R J H') X.xe s1) X.xe s
theorem PI.c {iter:Expr}{wi:TI}(h:PI X tg iter wi):SJ (λX=>X.calm=true) X tg iter wi:=λQE s O H R I q =>
 QL (h QE s O H R I q) λv s1 h1=>QL h1 λitv s2 ⟨it,fp,tn,J,H',e,I',T,a,b,c⟩=>⟨it,fp,tn,J,H',e,I',T.c,a,b,c⟩
def fZ (its:List Value) (n:Nat):Obj:={ cls:= .type "list",data:= .seq its.toArray n }
section
variable {X:Cx}{QE:mK}{O:St}{H:Hp}{s:Shared}
theorem FJ {scope:Scope}{own frn:List Str}{fr:List Nat}{C D it:Addr}{fp:List Addr}{tg elt iter:Expr}{ifs:List Expr}{pos:Pos}{tn:Nat->Heap->Prop}{J:It}{g:TG}{tt:TT}{te:TE}{Q:VK}{s4:Shared}{W:Nat->Nat->List V->Hp->Prop}{m0:Nat}{R:Result->Shared->Prop}{cond:Cx->Prop}
  (hc:cond (bc X (own++frn) scope C s H fp)) (go:mS own.length g) (T:AD cond X.prog X.w X.K tg J fp it tn) (hD:s.heap.objs.size<=D) (hDC:D≠C) (hDf:D∉fp)
  (hg:PG (bc X (own++frn) scope C s H fp) tg g) (ht:RQ (bc X (own++frn) scope C s H fp) ifs tt) (he:PE (bc X (own++frn) scope C s H fp) elt te)
  (I:Inv (bc X (own++frn) scope C s H fp) [] (cH own fr O) H s4) (st:tn 0 s4.heap) (hfp: ∀b∈fp,bG (bc X (own++frn) scope C s H fp) [] H b) (hacc:s4.heap.get? D=some (fZ [] 0)) (hDn:H D=none)
  (w0:W 0 m0 [] H) (turn: ∀i m ys H2,W i m ys H2 ->
   (J.stop i H2/\ys.length<=sizeLine/\ ∀p,H2 p=none->Q (.ref p) (upd H2 p (.lst ys))) \/
   (J.go i H2/\ys.length < sizeLine/\ ∀x H3,J.yld i H2 x H3->g x (cH own fr O) H3 λO4 H4=>tt O4 H4 λb H5 =>
    if b=true then te O4 H5 λy H6=> ∃m',m' < m/\W (i+1) m' (ys++[y]) H6 else ∃m',m' < m/\W (i+1) m' ys H5))
  (fin: ∀s5 H5 ys its n O5,Inv (bc X (own++frn) scope C s H fp) [] O5 H5 s5->s5.heap.get? D=some (fZ its n)->Vals ys its->ys.length<=sizeLine->H5 D=none->Q (.ref D) (upd H5 D (.lst ys))->R (.ok .next) s5) :
  codeAny (model X.prog X.w) X.A (.compLoop (.ListComp elt [⟨tg,iter,ifs,0⟩] scope pos) 0 (.ref it) (.ref D) (compEnvC scope (bD scope.names X.env.cells []) C X.env)) R s4:=by
 have stat: ∀ {H':Hp}{pl:mK},(∀b∈fp,H' b=none)->(∀p∈pl,p.1∉fp)-> ∀b∈fp,bG (bc X (own++frn) scope C s H fp) pl H' b:=λ{H' pl} hn hpl b hb=>by
  obtain⟨_,f1,f2,f3,f4,_⟩:=hfp b hb;show⟨hn b hb,f1,f2,f3,f4,λp hp z=>?_⟩;have hp':p∈pl:=hp;exact hpl p hp' (by rw[z]; exact hb)
 show Dw (env:=compEnvC scope (bD scope.names X.env.cells []) C X.env) (λn s'=> ∃i ys H' its k,Inv (bc X (own++frn) scope C s H fp) [] (cH own fr O) H' s'/\tn i s'.heap/\(∀b∈fp,H' b=none)/\s'.heap.get? D=some (fZ its k)/\H' D=none/\Vals ys its/\W i n ys H') ?_ m0
  ⟨0,[],H,[],0,I,st,λb hb=>(hfp b hb).1,hacc,hDn,.nil,w0⟩
 rintro n s3 ⟨i,ys,H3,its,k,I3,st3,fr3,ha3,hD3,rv3,w3⟩;have hne: ∀p∈[(D,fZ its k)],p.1∉fp:=λp hp=>by
  rcases MT.mp hp with rfl
  exact hDf
 have hnofs:D∉(bc X (own++frn) scope C s H fp).fs:=λhb=>by
  obtain⟨_,o,ho,_⟩:=I3.ok.eO.mem hb;exact absurd (Na ho) (OI.mpr hD)
 have I3p:Inv (bc X (own++frn) scope C s H fp) [(D,fZ its k)] (cH own fr O) H3 s3:=I3.ke λp hp=>by
  rcases MT.mp hp with rfl
  exact⟨ha3,hD3,hDC,hnofs,λv z=>by cases z⟩
 have back: ∀ {O':St},(O'.length=(cH own fr O).length/\ ∀j,own.length<=j->O'[j]?=(cH own fr O)[j]?)-> ∀(j:Nat) v,(cH own fr O)[j]?=some (some v)->O'[j]?=some (some v):=λ{O'} h j v e=>by
  by_cases hj:j < own.length
  .unfold cH at e;rw[Pm (by simpa using hj),M5,MQ hj] at e;cases e
  .rw[h.2 j (Qv hj)];exact e
 rcases turn i n ys H3 w3 with⟨stop,hz,q⟩ | ⟨hgo,hz,step⟩
 .show QL (T.done (bc X (own++frn) scope C s H fp) rfl rfl rfl hc i _ s3 _ H3 _ I3p (stat fr3 hne) st3 stop) λr s4 ⟨hr,I4⟩=>?_;subst hr;exact fin s4 H3 ys its k _ (I4.ke λp hp=>by cases hp) (I4.pin (D,fZ its k) (Nn _ M7)).1 rv3 hz hD3 (q D hD3)
 .show QL (T.item (bc X (own++frn) scope C s H fp) rfl rfl rfl hc i _ s3 _ H3 _ I3p (stat fr3 hne) st3 hgo) λr s4 ⟨u,hr,h4⟩=>?_;subst hr;show QL h4 λ_ s5 ⟨x,H5,I5,r5,y5,st5,fr5⟩=>?_;have I5':=I5.pinned (stat fr5 hne) (T.obj _ _ st5);have pinD: ∀ {O':St}{H':Hp}{s':Shared},Inv (bc X (own++frn) scope C s H fp) ([(D,fZ its k)]++rG fp s5.heap) O' H' s'->s'.heap.get? D=some (fZ its k)/\H' D=none/\tn (i+1) s'.heap/\ ∀b∈fp,H' b=none:=λ{O' H' s'} I'=>by
   have p1:=I'.pin (D,fZ its k) (Nn _ (NO _ M7));show⟨p1.1,p1.2.1,T.keep _ _ _ st5 λb hb o e=>(I'.pin (b,o) (Nn _ (Nn _ (lZ hb e)))).1,λb hb=>?_⟩;obtain⟨o,e,d⟩:=T.obj _ _ st5 b hb;exact (I'.pin (b,o) (Nn _ (Nn _ (lZ hb e)))).2.1
  show QL (hg _ s5 _ H5 x u _ I5' r5 (go _ _ _ _ (step x H5 y5))) λ_ s6 ⟨O6,H6,I6,hk6,q6⟩=>?_;show QL (ht _ s6 O6 H6 _ I6 q6) λb s7 ⟨H7,I7,q7⟩=>?_;cases b with
  | false =>
   rw[MP Nd] at q7 ⊢;obtain⟨m',hm,w7⟩:=q7;obtain⟨a7,d7,t7,f7⟩:=pinD I7;exact⟨m',hm,i+1,ys,H7,its,k,(I7.weak hk6.1.symm (back hk6)).ke (λp hp=>by cases hp),t7,f7,a7,d7,rv3,w7⟩
  | true =>
   rw[MU rfl] at q7 ⊢;show QL (he _ s7 O6 H7 _ I7 q7) λv s8 ⟨y,H8,I8,r8,m',hm,w8⟩=>?_;obtain⟨a8,d8,t8,f8⟩:=pinD I8;show O7 F.slot_list_append ⟨_,a8,Z⟩ F.entry_list_append (F.args_list_append_2 _ _) (PySem.list_append D its.toArray k v (by rw[Nb,<-rv3.length]; lia)) ⟨a8,?_⟩;obtain⟨n9,q9⟩: ∃n9,(s8.heap.update D (Obj.mapSeq (·.push v))).get? D=some (fZ (its++[v]) n9):=by
    have q9:=PySem.IsL.update a8 (·.push v);have e10:(its.toArray.push v)=(its++[v]).toArray:=(by simp);rw[e10] at q9;exact⟨_,q9⟩
   have e9: ∀b o,b≠D->s8.heap.get? b=some o->(s8.heap.update D (Obj.mapSeq (·.push v))).get? b=some o:=λb o hb e=>(NS s8.heap (Obj.mapSeq (·.push v)) (Nu hb)).trans e;have I8':Inv (bc X (own++frn) scope C s H fp) [] (cH own fr O) H8 s8:=(I8.weak hk6.1.symm (back hk6)).ke λp hp=>by cases hp
   show⟨m',hm,i+1,ys++[y],H8,its++[v],n9,I8'.turned (t':=s8.toks) e9 d8 hDC (.inr hD) (λz c hc' e=>?_) (λp hp=>by cases hp),T.keep _ _ _ t8 λb hb o e=>e9 b o (λz=>hDf (by rw[<-z]; exact hb)) e,f8,q9,d8,rv3.append (.cons r8 .nil),w8⟩;obtain⟨v',o,ho,hd⟩:=I8'.cell z c hc';rw[e,a8] at ho;cases ho;cases hd
end
section
variable {X:Cx}{QE:mK}{O:St}{H:Hp}{s:Shared}
variable{scope:Scope}
theorem comp_back {N':List Str}{C D:Addr}{fp:List Addr}{H5:Hp}{s5:Shared}{O5:St}{ys:List V}{its:List Value}{n:Nat}{h':Heap}(I:Inv X QE O H s) (hfp: ∀b∈fp,bG X QE H b) (hC:s.heap.objs.size<=C) (hD:s.heap.objs.size<=D) (hDC:D≠C)
  (I5:Inv (bc X N' scope C s H fp) [] O5 H5 s5) (ha:s5.heap.get? D=some (fZ its n)) (rv:Vals ys its) (hz:ys.length<=sizeLine) (hDn:H5 D=none) (sb:Heap.SameBut C s5.heap h') :
  Inv X QE O (upd H5 D (.lst ys)) { s5 with heap:=h' }:=by
 have u5:Un (Rq X.stack) fp H H5 s.heap s5.heap:=I5.base;have nC: ∀b o,s.heap.get? b=some o->b≠C:=λb o e z=>absurd (Na e) (OI.mpr (by rw[z]; exact hC));have nD: ∀b o,s.heap.get? b=some o->b≠D:=λb o e z=>absurd (Na e) (OI.mpr (by rw[z]; exact hD));have tD: ∀b o,H5 b=some o->b≠D:=λb o e z=>by rw[z,hDn] at e; cases e
 have fC:H5 C=none:=I5.free;show I.AW (ch:=fp) (H':=upd H5 D (.lst ys)) I5.os ?_ ?_ I5.bare λb hb=>⟨(hfp b hb).2.2.2.1,(hfp b hb).2.1,λx c hc=>(hfp b hb).2.2.2.2.1 x c hc,(hfp b hb).2.2.2.2.2⟩
 .exact {
   keep:=λb o e h1 h2 h3=>sb.extBut b o (nC b o e) (u5.keep b o e h1 h2 h3)
   slot:=λb o e h1 h2 h3=>by
    obtain⟨sl,q⟩:=u5.slot b o e h1 h2 h3;exact⟨sl,sb.extBut b _ (nC b o e) q⟩
   free:=λb o e h1 h3=>by
    rw[ah (nD b o e)];exact u5.free b o e h1 h3
   there:=λb o e h3=>by
    obtain⟨o',q⟩:=u5.there b o e h3;exact⟨o',sb.extBut b _ (nC b o e) q⟩
   tups:=λb xs e=>by
    have q:=u5.tups b xs e;rw[ah (tD b _ q)];exact q
   frzs:=λb o u e=>by
    have q:=u5.frzs b o u e;rw[ah (tD b _ q)];exact q
   tbls:=λb ps e=>by
    obtain⟨more,q⟩:=u5.tbls b ps e;show⟨more,?_⟩;rw[ah (tD b _ q)];exact q }
 .intro a o e;by_cases hd:a=D
  .subst hd;rw[aa] at e;cases e;exact⟨hz,its,n,rv,sb.extBut a _ hDC ha⟩
  .rw[ah hd] at e;show (I5.hok a o e).jk (λb u hb q=>sb.extBut b u (λz=>?_) q) (λb hb=>by rw[ah (tD b _ hb)]; exact hb) (λb xs hb=>by rw[ah (tD b _ hb)]; exact hb);rcases hb with hb | hb
   .rw[z] at hb;rw[<-hb,fC] at e;cases e
   .rw[z,fC] at hb;cases hb
variable{psc:Scope}{own frn:List Str}{tg elt iter:Expr}{ifs:List Expr}{pos:Pos}{wi:TI}{tt:TT}{te:TE}{cond:Cx->Prop}
theorem wo {fr:List Nat}{g:TG}{Q:VK}{RR:Value->Addr->Result->Shared->Prop}(S:i8 psc scope own frn) (hp:X.env.scope=psc) (hfr:fr.map (λj=>X.N[j]?)=frn.map some)
  (hc: ∀C s2 H2 fp,cond (bc X (own++frn) scope C s2 H2 fp)) (go:mS own.length g) (hi:SJ cond X tg iter wi)
  (hb: ∀C s2 H2 fp,PG (bc X (own++frn) scope C s2 H2 fp) tg g/\RQ (bc X (own++frn) scope C s2 H2 fp) ifs tt/\PE (bc X (own++frn) scope C s2 H2 fp) elt te)
  (I:Inv X QE O H s) (h:sx wi g tt te own fr O H Q)
  (fin: ∀C D s5 H6 m,Inv X QE O H6 s5->(∀h',Heap.SameBut C s5.heap h'->Inv X QE O H6 { s5 with heap:=h' })->s5.heap.Ns C m->H6 C=none->C≠X.env.locals->X.s₀.heap.objs.size<=C->(∀x c,X.env.cells.lookup x=some c->c≠C)->(∀p∈X.pn++QE,p.1≠C)->Q (.ref D) H6->RR (.ref D) C (.ok .next) s5) :
  wpAny (model X.prog X.w) X.A (eval iter X.env) (λx s₁=>wpAny (model X.prog X.w) X.A (pyIter x) (λit s₂=>wpAny (model X.prog X.w) X.A (newList []) (λacc s₃=>wpAny (model X.prog X.w) X.A (newFunctionEnv scope X.env.globals (bD scope.names X.env.cells []) [] X.env.qual none .none (some X.env)) (λcenv s₄ =>
   codeAny (model X.prog X.w) X.A (.compStart (.ListComp elt [⟨tg,iter,ifs,0⟩] scope pos) 0 it acc { cenv with scope:=relabel scope X.env }) (RR acc cenv.locals) s₄) X.xe s₃) X.xe s₂) X.xe s₁) X.xe s:=by
 show QL (hi QE s O H _ I h) λv s1 h1=>QL h1 λitv s2 h2=>?_;obtain⟨it,fp,tn,J,H2,rfl,I2,T,st2,f2,W,⟨m0,w0⟩,turn⟩:=h2;show PF (wpAny_newFunctionEnv S.cell (by intro y hy; simp at hy) (λh1 hns1 hsb1=>?_) S.kind);dsimp only at hns1 hsb1 ⊢;generalize hH:s2.heap.push { cls:= .type "list",dict:=none,data:= .seq ([]:List Value).toArray }=HH at hns1 hsb1 ⊢;have hC:HH.objs.size=s2.heap.objs.size+1:=by rw[<-hH,Oe]
 have hDC:s2.heap.objs.size≠HH.objs.size:=by rw[hC]; exact Nt (Oo _)
 have hCle:s2.heap.objs.size<=HH.objs.size:=by rw[hC]; exact Qh _
 have kp: ∀b o,s2.heap.get? b=some o->h1.get? b=some o:=λb o e =>
  hsb1.extBut b o (λz=>absurd (Na e) (OI.mpr (by rw[z]; exact hCle))) (MV _ (hH▸MV _ e))
 have ha:h1.get? s2.heap.objs.size=some (fZ [] 0):=hsb1.extBut _ _ hDC (MV _ (hH▸Nq _ rfl));have hlt: ∀b∈fp,b < s2.heap.objs.size:=λb hb=>by
  obtain⟨o,e,_⟩:=T.obj _ _ st2 b hb;exact Na e
 obtain⟨b1,b2,b3⟩:=hb HH.objs.size s2 H2 fp;have IS: ∀tk,Inv (bc X (own++frn) scope HH.objs.size s2 H2 fp) [] (cH own fr O) H2 { s2 with heap:=h1,toks:=tk }:=λtk=>Ax S hp I2 hfr f2 hlt hCle hns1 kp;have st3:tn 0 h1:=T.keep _ _ _ st2 λb _ o e=>kp b o e;have okc:=zZ S hp I2 f2 hlt hCle;have fp3: ∀b∈fp,bG (bc X (own++frn) scope HH.objs.size s2 H2 fp) [] H2 b:=λb hb=>⟨(f2 b hb).1,(okc.exf b hb).1,okc.exfs b hb,.inl hb,(okc.exf b hb).2,λp hp'=>by cases hp'⟩
 have loop: ∀tk,codeAny (model X.prog X.w) X.A (.compLoop (.ListComp elt [⟨tg,iter,ifs,0⟩] scope pos) 0 (.ref it) (.ref s2.heap.objs.size) (compEnvC scope (bD scope.names X.env.cells []) HH.objs.size X.env))
   (RR (.ref s2.heap.objs.size) HH.objs.size) { s2 with heap:=h1,toks:=tk }:=λtk=>by
  show FJ (hc _ _ _ _) go T (MZ _) hDC (λz=>absurd (hlt _ z) (OC _)) b1 b2 b3 (IS tk) st3 fp3 ha I2.fresh w0 turn λs5 H5 ys its n O5 I5 a5 rv hz d5 q=>?_;obtain⟨m5,n5,_⟩:=I5.loc;have fC:=I2.gO (b:=HH.objs.size) (H':=H2) hCle (I2.hok.fresh hCle);have f5:H5 HH.objs.size=none:=I5.free;show fin HH.objs.size _ s5 _ m5 (comp_back I2 f2 hCle (MZ _) hDC I5 a5 rv hz d5 (.refl ..)) (λh' sb=>comp_back I2 f2 hCle (MZ _) hDC I5 a5 rv hz d5 sb) n5 ?_ fC.2.1 (Ng I2.sz hCle) fC.2.2.2.2.1 fC.2.2.2.2.2 q;rw[ah (Nu hDC)];exact f5
 exact codeAny_compStart_list (loop _) (T.self _ _ _ _ _ st3 (loop _))
theorem Fi {fr:List Nat}{g:TG}(S:i8 psc scope own frn) (hp:X.env.scope=psc) (hfr:fr.map (λj=>X.N[j]?)=frn.map some)
  (hc: ∀C s2 H2 fp,cond (bc X (own++frn) scope C s2 H2 fp)) (go:mS own.length g) (hi:SJ cond X tg iter wi)
  (hb: ∀C s2 H2 fp,PG (bc X (own++frn) scope C s2 H2 fp) tg g/\RQ (bc X (own++frn) scope C s2 H2 fp) ifs tt/\PE (bc X (own++frn) scope C s2 H2 fp) elt te)
  (hs: ∀x,foldedSetIterable iter X.env x=pure x:=by intro _; rfl):PE X (.ListComp elt [⟨tg,iter,ifs,0⟩] scope pos) (sx wi g tt te own fr):=by
 intro QE s O H Q I h;ext:12;rw[eval_ListComp];show wpAny_comprehension_free (use:=none) rfl hs hclos S.kind S.names (wo (RR:=λacc C=>compPost (model X.prog X.w) X.A X.xe none (EP X QE O Q) acc C) S hp hfr hc go hi hb I h ?_);intro C D s5 H6 m5 I5 I5' n5 _ _ _ _ _ q;exact⟨m5,n5,λh' sb=>⟨.ref D,H6,I5' h' sb,Z,q⟩⟩
theorem HN {fr:List Nat}{g:TG}(S:i8 psc scope own frn) (hp:X.env.scope=psc) (hfr:fr.map (λj=>X.N[j]?)=frn.map some)
  (hc:X.calm=true) (go:mS own.length g) (hi:PI X tg iter wi)
  (hb: ∀C s2 H2 fp,PG (bc X (own++frn) scope C s2 H2 fp) tg g/\RQ (bc X (own++frn) scope C s2 H2 fp) ifs tt/\PE (bc X (own++frn) scope C s2 H2 fp) elt te)
  (hs: ∀x,foldedSetIterable iter X.env x=pure x:=by intro _; rfl):PE X (.ListComp elt [⟨tg,iter,ifs,0⟩] scope pos) (sx wi g tt te own fr):=Fi S hp hfr (λ_ _ _ _=>hc) go hi.c hb hs
theorem GV {i:Nat}{y:Str}{fr:List Nat}{py spos:Pos}{g:TG}(hN:X.N.Nodup) (hy:X.N[i]?=some y) (hl:Loc X.env.scope y) (S:i8 psc scope own frn) (hp:X.env.scope=psc) (hfr:fr.map (λj=>X.N[j]?)=frn.map some)
  (hc:X.calm=true) (go:mS own.length g) (hi:PI X tg iter wi)
  (hb: ∀C s2 H2 fp,PG (bc X (own++frn) scope C s2 H2 fp) tg g/\RQ (bc X (own++frn) scope C s2 H2 fp) ifs tt/\PE (bc X (own++frn) scope C s2 H2 fp) elt te)
  (hsw:swapsWith (.ListComp elt [⟨tg,iter,ifs,0⟩] scope pos) (some (.Name y py)) spos.line X.env=pure true:=by rfl)
  (hs: ∀x,foldedSetIterable iter X.env x=pure x:=by intro _; rfl)
  (hf:X.fn y=true\/X.env.scope.names.lookup y=some .local:=by first | exact .inl rfl | exact .inr rfl | assumption) :
  PS X (.Assign [.Name y py] (.ListComp elt [⟨tg,iter,ifs,0⟩] scope pos) spos) (uX (sx wi g tt te own fr) (aM i)):=by
 intro QE s O H E I h;ext:12;rw[exec_Assign_Name_used _ _ _ _ hsw];show MY (OD (MY ?_));change wpAny _ X.A (do let _ <-comprehension (.ListComp elt [⟨tg,iter,ifs,0⟩] scope pos) scope X.env _ (newList []) false (eval iter X.env) (some (assign (.Name y py) X.env))) _ _ s;show MY (NU (wpAny_comprehension_free (use:=some (assign (.Name y py) X.env)) (Q:=λ_ s'=>SP X QE E .next s') rfl hs hclos S.kind S.names (wo (Q:=λv H'=>E.nx (O.set i (some v)) H')
  (RR:=λacc C=>compPost (model X.prog X.w) X.A X.xe (some (assign (.Name y py) X.env)) (λ_ s'=>SP X QE E .next s') acc C) S hp hfr (cond:=λX=>X.calm=true) (λ_ _ _ _=>hc) go hi.c hb I h ?_)) (λ_ s' hq=>Nj (Nj hq)) λ_ _ e=>e)
 intro C D s5 H6 m5 I5 _ n5 f1 f2 f3 f4 f5 q;change wpAny _ X.A (assign (.Name y py) X.env (.ref D)) _ _ _;show wpAny_assign_Name (vX (v:= .ref D) I5 hN hy hl rfl (λs6 I6 ⟨a,sb,ha⟩=>?_) hf);have hCa:C≠a:=by
  rcases ha with rfl | e
  .exact f2
  .exact λz=>f4 _ _ e z.symm
 exact⟨m5,n5.sameBut sb hCa,λh' sb'=>⟨_,H6,I6.turned (t':=s6.toks) (it:=C) (λb o hb e=>sb'.extBut b o hb e) f1 f2 (.inr f3) f4 f5,q⟩⟩
end
def Se (z:Str):It:=⟨λi _=>i < z.cps.size,λi H x H'=>H'=H/\ ∃c,z.cps[i]?=some c/\x= .str ⟨#[c]⟩,λi _=>z.cps.size<=i⟩
theorem C7(z:Str) (t:Tok) (it:Addr):Turn P w K tg (Se z) [it] it (λi h=>h.IsStrIter it "str_ascii_iterator" z t i) where
 mem:=by simp
 obj:=λi h ⟨o,e,c,d⟩ b hb=>by
  rcases MT.mp hb with rfl
  exact⟨o,e,λv y=>by rw[d] at y; cases y⟩
 keep:=λi h h' ⟨o,e,r⟩ k=>⟨o,k it (by simp) o e,r⟩
 item:=by
  ext:0;ext:10;have hg:i < z.cps.size:=hg;show wpAny_pyNext_ascii_item st (c:=z.cps[i]'hg) (OW hg) λh' st' sb=>?_;ext:13
 done:=by
  ext:0;ext:10;exact wpAny_pyNext_ascii_end (I.ok.hd hc) st (Array.getElem?_eq_none hg) λh' eb=>⟨Z,I.turned (t':=s.toks) (λb o hb e=>eb b o hb e) f0 f1 f3 f4 f5⟩
 self:=λ_ _ _ _ _ st h=>wpAny_pyIter_striter_ascii st h
theorem CT(z:Str) (t:Tok) (it:Addr):Turn P w K tg (Se z) [it] it (λi h=>h.IsStrIter it "str_iterator" z t i) where
 mem:=by simp
 obj:=λi h ⟨o,e,c,d⟩ b hb=>by
  rcases MT.mp hb with rfl
  exact⟨o,e,λv y=>by rw[d] at y; cases y⟩
 keep:=λi h h' ⟨o,e,r⟩ k=>⟨o,k it (by simp) o e,r⟩
 item:=by
  ext:0;ext:10;have hg:i < z.cps.size:=hg;show wpAny_pyNext_wide_item st (c:=z.cps[i]'hg) (OW hg) λh' st' sb=>?_;ext:13
 done:=by
  ext:0;ext:10;exact wpAny_pyNext_wide_end (I.ok.hd hc) st (Array.getElem?_eq_none hg) λh' eb=>⟨Z,I.turned (t':=s.toks) (λb o hb e=>eb b o hb e) f0 f1 f3 f4 f5⟩
 self:=λ_ _ _ _ _ st h=>wpAny_pyIter_striter_wide st h
section
variable {X:Cx}{tg:Expr}
inductive Ky (R:It->Hp->Prop) (x:V) (H1:Hp):Prop | mk (z:_) (e0:x= .str z) (q:R (Se z) H1)
def L9 (tl:TE):TI:=λO H R=>tl O H λx H1=>Ky R x H1
theorem Iv {l:Expr}{tl:TE}(hl:PE X l tl):PI X tg l (L9 tl):=by
 intro QE s O H R I h;show QL (hl QE s O H _ I h) λv s1 ⟨x,H1,I1,r1,q1⟩=>?_;obtain⟨z,rfl,q⟩:=q1;obtain⟨t,rfl⟩:=r1;cases ha:z.cps.all (· < 128) with
 | true =>
  show wpAny_pyIter_ascii ha ⟨_,[s1.heap.objs.size],_,Se z,H1,Z,I1.kept (t':=s1.toks) λb o e=>MV _ e,C7 z t _,⟨_,Nq _ rfl,Z,Z⟩,λb hb=>?_,q⟩;rcases MT.mp hb with rfl
  exact I1.gO (MZ _) I1.fresh
 | false =>
  show wpAny_pyIter_wide ha ⟨_,[s1.heap.objs.size],_,Se z,H1,Z,I1.kept (t':=s1.toks) λb o e=>MV _ e,CT z t _,⟨_,Nq _ rfl,Z,Z⟩,λb hb=>?_,q⟩;rcases MT.mp hb with rfl
  exact I1.gO (MZ _) I1.fresh
end
section
variable {X:Cx}
theorem wx:QU X (compareOp .LtE) (λx y H Q=> ∃i j,x= .str i/\y= .str j/\Q (.bl (!decide (j.cps.toList < i.cps.toList))) H):=by
 intro QE s O H x y v u Q I r1 r2 h;obtain⟨i,j,rfl,rfl,q⟩:=h;obtain⟨t,rfl⟩:=r1;obtain⟨t',rfl⟩:=r2;exact PySem.P.le_str ⟨.bl _,H,I,Z,q⟩
theorem yW {prog:Program}{w:World}{A:Around}{its:List Value}{bs:List Bool}(r:Vals (bs.map V.bl) its):TruthOf prog w A (λi v=>its.toArray[i]?=some v) (λi=>bs.getD i false):=by
 intro i v s Q E hv hq;have hv':its[i]?=some v:=by simpa using hv
 have hb:i < bs.length:=by
  have h1:=(MW.mp hv').1;have h2:=r.length;rw[MO] at h2;lia
 obtain⟨u,e1,e2⟩:=r.get (i:=i) (x:=V.bl (bs.getD i false)) (by rw[M5,MX,MQ hb]; rfl);rw[hv'] at e1;cases e1;have e3:v=Value.bool (bs.getD i false):=e2;rw[e3];exact N9 hq
theorem range_all (bs:List Bool):(List.range bs.length).all (λi=>bs.getD i false)=bs.all id:=by
 rw[O5,Oq,Oq];constructor
 .intro h x hx;obtain⟨i,hi,rfl⟩:=List.getElem_of_mem hx;have:=h i (Nh.mpr hi)
  rwa [MX,MQ hi] at this
 .intro h i hi;have hi':=Nh.mp hi;rw[MX,MQ hi'];exact h _ (Ot hi')
theorem Fe (hc:X.calm=true):du X (.builtin "all") (λxs H Q=> ∃(a:Addr) (bs:List Bool),xs=[.ref a]/\QF X.K H a (bs.map V.bl)/\Q (.bl (bs.all id)) H):=by
 intro QE s O H xs us Q I r h;obtain⟨a,bs,rfl,hq,q⟩:=h;obtain⟨u,rfl,ru⟩:=vals1 r;cases ru;obtain⟨its,rv,p,hz⟩:=I.list hq;have hlt:a < s.heap.objs.size:=p.lt;have hl:bs.length=its.toArray.size:=by
  have:=rv.length;rw[MO] at this;simpa using this
 show call_all_walk (Pb p.isList ⟨_,_,_,_,_,_,_,Z,Walks.list (A:=X.A.in1) (I.ok.hd hc) s.heap.objs.size a (Nt hlt) its.toArray,
  ⟨⟨_,Nq _ rfl,Z,Z⟩,p.isList.at λo e=>MV _ e⟩,yW rv,λh' tk k=>?_⟩)
 rw[<-hl,range_all];exact⟨.bl _,H,I.kept (t':=tk) λb o e=>k b o (λz=>by
  rcases MT.mp z with rfl
  exact absurd (Na e) (OC _)) (MV _ e),Z,q⟩
def SG (K:QG) (x:V) (H:Hp) (T:String) (b:Bool):Prop :=
 match x with
 | .int _=>(T= "int" /\ b=true)\/(T∈["bool","str","list","tuple","dict"]/\b=false)
 | .bl _=>(T∈["int","bool"]/\b=true)\/(T∈["str","list","tuple","dict"]/\b=false)
 | .str _=>(T= "str" /\ b=true)\/(T∈["int","bool","list","tuple","dict"]/\b=false)
 | .ref a=>((∃xs,QF K H a xs)/\((T= "list" /\ b=true)\/(T∈["int","bool","str","tuple","dict"]/\b=false))) \/
   ((∃xs,QK K H a xs)/\((T= "tuple" /\ b=true)\/(T∈["int","bool","str","list","dict"]/\b=false)))
 | _=>False
variable{T a b:String}
theorem Bd {c d e:String}(h:T∈[a,b,c,d,e]):T=a\/T=b\/T=c\/T=d\/T=e:=by simpa using h
theorem Ma {c d:String}(h:T∈[a,b,c,d]):T=a\/T=b\/T=c\/T=d:=by simpa using h
theorem LL(h:T∈[a,b]):T=a\/T=b:=by simpa using h
theorem j6:du X (.builtin "isinstance") (λxs H Q=> ∃x T b,xs=[x,.ty T]/\SG X.K x H T b/\Q (.bl b) H):=by
 intro QE s O H xs us Q I r h;obtain⟨x,T,b,rfl,hi,q⟩:=h;obtain⟨u,u2,rfl,ru,ru2⟩:=vals2 r;cases ru2;have fin: ∀tk,EP X QE O Q (.bool b) { s with toks:=tk }:=λtk=>⟨.bl b,H,I.tok tk,Z,q⟩
 have fin0:EP X QE O Q (.bool b) s:=⟨.bl b,H,I,Z,q⟩
 cases x with
 | int n =>
  obtain⟨t,rfl⟩:=ru;rcases hi with⟨rfl,rfl⟩ | ⟨hm,rfl⟩
  .exact IsiPair.int_int fin0
  .rcases Bd hm with rfl | rfl | rfl | rfl | rfl
   .exact IsiPair.int_bool (fin _)
   .exact IsiPair.int_str (fin _)
   .exact IsiPair.int_list (fin _)
   .exact IsiPair.int_tuple (fin _)
   .exact IsiPair.int_dict (fin _)
 | bl n =>
  cases ru;rcases hi with⟨hm,rfl⟩ | ⟨hm,rfl⟩
  .rcases LL hm with rfl | rfl
   .first | exact IsiPair.bool_int fin0 | exact IsiPair.bool_int (fin _)
   .exact IsiPair.bool_bool fin0
  .rcases Ma hm with rfl | rfl | rfl | rfl
   .exact IsiPair.bool_str (fin _)
   .exact IsiPair.bool_list (fin _)
   .exact IsiPair.bool_tuple (fin _)
   .exact IsiPair.bool_dict (fin _)
 | str n =>
  obtain⟨t,rfl⟩:=ru;rcases hi with⟨rfl,rfl⟩ | ⟨hm,rfl⟩
  .exact IsiPair.str_str fin0
  .rcases Bd hm with rfl | rfl | rfl | rfl | rfl
   .exact IsiPair.str_int (fin _)
   .exact IsiPair.str_bool (fin _)
   .exact IsiPair.str_list (fin _)
   .exact IsiPair.str_tuple (fin _)
   .exact IsiPair.str_dict (fin _)
 | ref a =>
  cases ru;rcases hi with⟨⟨xs,hq⟩,hi⟩ | ⟨⟨xs,hq⟩,hi⟩
  .obtain⟨its,_,⟨o,n,e,c,_⟩,_⟩:=I.list hq;rcases hi with⟨rfl,rfl⟩ | ⟨hm,rfl⟩
   .exact IsiPair.list_list e c fin0
   .rcases Bd hm with rfl | rfl | rfl | rfl | rfl
    .exact IsiPair.list_int e c (fin _)
    .exact IsiPair.list_bool e c (fin _)
    .exact IsiPair.list_str e c (fin _)
    .exact IsiPair.list_tuple e c (fin _)
    .exact IsiPair.list_dict e c (fin _)
  .obtain⟨its,_,hT,_⟩:=I.tuple hq;obtain⟨o,e,c,_⟩:=hT;rcases hi with⟨rfl,rfl⟩ | ⟨hm,rfl⟩
   .exact IsiPair.tuple_tuple e c fin0
   .rcases Bd hm with rfl | rfl | rfl | rfl | rfl
    .exact IsiPair.tuple_int e c (fin _)
    .exact IsiPair.tuple_bool e c (fin _)
    .exact IsiPair.tuple_str e c (fin _)
    .exact IsiPair.tuple_list e c (fin _)
    .exact IsiPair.tuple_dict e c (fin _)
 | _=>exact hi.elim
end
def TF (K:QG) (mg:oR) (x:Str) (st:Stmt):Prop:= ∃f fd,mg x=some (.ref f)/\RY K x x st f fd
def QS (P:Program) (w:World) (K:QG) (mg:oR) (base:Heap) (k:Nat) (x:Str) (ps:List Str) (sp:Sp):Prop :=
 ∃f fd,mg x=some (.ref f)/\(∃oc od osl,K.lookup f=some ⟨oc,od,.func fd,osl⟩)/\PySem.W.keepIn K (.ref f)=true/\Binds K fd ps []/\dC P w K mg base Rc k f fd ps sp
section
variable {P:Program}{w:World}{K:QG}{mg:oR}{base:Heap}
theorem aZ {h:Heap}{x:Str}{st:Stmt}{f:Addr}{oc:Value}{od an:Option Addr}{osl:Array (Option Value)}{kV doc pm cdv ct:Value}(X:K.In h) (G:h.Ns mainGlobals mg) (a:PySem.W.nsIn K mainGlobals x=some (some (.ref f)))
  (l:K.lookup f=some ⟨oc,od,.func (PySem.W.fnOf x x (cU st) (bN st) (aj st) .none kV doc pm an cdv ct),osl⟩) (c:PySem.W.codeIn K cdv x=true) (k:PySem.W.keepIn K (.ref f)=true):TF K mg x st :=
 ⟨f,_,PySem.W.mg_of X G a,xF (st:=st) l c k⟩
theorem kM {x:Str}{st:Stmt}{N ps:List Str}{k:Nat}{sp:Sp}(h:TF K mg x st) (S:ax N ps (aj st))
  (hb: ∀(kV doc pm:Value) (an:Option Addr) (cdv ct:Value) (us:List Value),us.length=ps.length->bindArgs (PySem.W.fnOf x x (cU st) (bN st) (aj st) .none kV doc pm an cdv ct) ⟨us,[]⟩=pure (ps.zip us))
  (len: ∀vs H Q E,sp vs H Q E->vs.length=ps.length)
  (hbody: ∀(f:Addr) (cdv:Value) (A:Around) (outer:List Env) (s:Shared) (H:Hp) (vs:List V) (Q:VK) (E:XK),bC k (A.deeper (envOfC x (aj st) s.heap.objs.size f cdv))->sp vs H Q E ->
   ∃t,Q0 (fW Rc P w K mg base N x (aj st) f cdv A outer s H E).RM (bN st) t/\t { nx:=λ_ H'=>Q .non H',rt:=Q } (start N vs) H):QS P w K mg base (k+1) x ps sp:=by
 obtain⟨f,fd,hm,F⟩:=h;obtain⟨oc,od,_,_,_,_,_,_,osl,_,lk,_⟩:=id F.ex;exact⟨f,fd,hm,⟨oc,od,osl,lk⟩,F.kp,F.binds hb,F.ok S len λcdv A outer s H vs Q E hr hs=>hbody f cdv A outer s H vs Q E hr hs⟩
end
section
variable {X:Cx}{k:Nat}{x:Str}{ps:List Str}{sp:Sp}{p pos:Pos}{e:Expr}{es:List Expr}{t:TA}
theorem ay (F:QS X.prog X.w X.K X.mg X.base k x ps sp) (hr:bC k X.A) (ha:PA X (e::es) t) (hg:Gl X x:=by rfl) (hdb:(x == ("__debug__" : Str))=false:=by decide)
  (he:starEach (e::es) X.env=(false,eval e X.env)::starEach es X.env:=by rfl) (hpl:(backTo pos (starEach es X.env)).any (·.1)=false:=by rfl):PE X (.Call (.Name x p) (e::es) [] pos) (Gq sp [] E0 t):=by
 obtain⟨f,fd,hm,_,kp,hb,F⟩:=F;exact HB F hr hg hm kp hb .nil w9 ha hdb he hpl
end
def jh (K:QG) (mg:oR) (x:Str) (xs:List V):Prop:= ∃a,mg x=some (.ref a)/\ ∀H,QK K H a xs
variable{xs:List V}{o:Obj}
theorem mi {mg:oR}{h:Heap}{x:Str}{a:Addr}{its:Array Value}{n:Nat}(X:K.In h) (G:h.Ns mainGlobals mg) (e:PySem.W.nsIn K mainGlobals x=some (some (.ref a)))
  (l:K.lookup a=some o) (hc:o.cls= .type "tuple") (hd:o.data= .seq its n) (hz:its.size<=sizeLine) (hv:Vals xs its.toList):jh K mg x xs :=
 ⟨a,PySem.W.mg_of X G e,λH=> .inr ⟨o,its,n,l,hc,hd,hz,hv⟩⟩
variable{pos:Pos}
theorem mf {x:Str}(h:jh X.K X.mg x xs) (hg:Gl X x:=by rfl) (hd:(x == ("__debug__" : Str))=false:=by decide):PE X (.Name x pos) (λ_ H Q=> ∀a,(∀H',QK X.K H' a xs)->Q (.ref a) H):=by
 obtain⟨a,hm,hq⟩:=h;intro QE s O H Q I q;exact Ao (v:= .ref a) hg hm rfl hd QE s O H Q I (q a hq)
def mH (mg:oR) (x:Str) (v:V):Prop:= ∃u,mg x=some u/\RelV v u
theorem j8 {x:Str}{v:V}(h:mH X.mg x v) (hg:Gl X x:=by rfl) (hd:(x == ("__debug__" : Str))=false:=by decide):PE X (.Name x pos) (tC v):=by
 obtain⟨u,hm,r⟩:=h;exact Ao hg hm r hd
theorem boot_all:bootBuiltins "all" = some (.builtin "all"):=by trivial
theorem boot_bool:bootBuiltins "bool" = some (.type "bool"):=by trivial
theorem boot_int:bootBuiltins "int" = some (.type "int"):=by trivial
theorem boot_str:bootBuiltins "str" = some (.type "str"):=by trivial
theorem boot_list:bootBuiltins "list" = some (.type "list"):=by trivial
theorem boot_tuple:bootBuiltins "tuple" = some (.type "tuple"):=by trivial
theorem boot_max:bootBuiltins "max" = some (.builtin "max"):=by trivial
theorem boot_min:bootBuiltins "min" = some (.builtin "min"):=by trivial
theorem boot_sum:bootBuiltins "sum" = some (.builtin "sum"):=by trivial
theorem boot_sorted:bootBuiltins "sorted" = some (.builtin "sorted"):=by trivial
theorem boot_isinstance:bootBuiltins "isinstance" = some (.builtin "isinstance"):=by trivial
structure JL (J:It) (H:Hp) (xs:List V):Prop where
 go: ∀i,i < xs.length->J.go i H
 yld: ∀i x H',i < xs.length->J.yld i H x H'->H'=H/\xs[i]?=some x
 stop: ∀i,xs.length<=i->J.stop i H
variable{H:Hp}
theorem bW {a:Addr}(h:QF K H a xs):JL (SM K a) H xs :=
 ⟨λi hi=>⟨xs,_,h,MQ hi⟩,λi x H' _ q=>⟨q.1,q.2 xs h⟩,λi hi=>⟨xs,h,hi⟩⟩
def bg (lo:Int) (n:Nat):List V:=(List.range n).map λi=>V.int (lo+(i:Nat))
theorem bt {lo:Int}{n:Nat}:JL (Sb lo n) H (bg lo n):=by
 have hl:(bg lo n).length=n:=by simp[bg]
 show⟨λi hi=>by rw[hl] at hi; exact hi,λi x H' hi q=>⟨q.1,?_⟩,λi hi=>by rw[hl] at hi; exact hi⟩;rw[hl] at hi;rw[q.2];simp[bg,hi]
def kO (z:Str):List V:=z.cps.toList.map λc=>V.str ⟨#[c]⟩
theorem Jj {z:Str}:JL (Se z) H (kO z):=by
 have hl:(kO z).length=z.cps.size:=by simp[kO]
 show⟨λi hi=>by rw[hl] at hi; exact hi,λi x H' hi q=>⟨q.1,?_⟩,λi hi=>by rw[hl] at hi; exact hi⟩;obtain⟨_,c,hc,rfl⟩:=q;have hc':z.cps.toList[i]?=some c:=by simpa using hc
 simp[kO,hc']
variable{own:List Str}{O:St}
theorem zt {tt:TT}{te:TE}{fr:List Nat}{Q:VK}(hJ:JL J H xs) (pt:V->Bool) (f:V->V) (hz:xs.length < sizeLine)
  (ht: ∀x∈xs,∀R:Bool->Hp->Prop,R (pt x) H->tt ((cH own fr O).set 0 (some x)) H R)
  (hs: ∀x∈xs,pt x=true-> ∀R:VK,R (f x) H->te ((cH own fr O).set 0 (some x)) H R)
  (hq: ∀p,H p=none->Q (.ref p) (upd H p (.lst ((xs.filter pt).map f)))):nz J (aM 0) tt te own fr O H Q:=by
 show⟨λi m ys H2=>H2=H/\i<=xs.length/\m=xs.length - i/\ys=((xs.take i).filter pt).map f,⟨xs.length,Z,NN _,Z,Z⟩,?_⟩;rintro i m ys H2 ⟨rfl,hi,rfl,rfl⟩;have hlen:(((xs.take i).filter pt).map f).length<=xs.length:=by
  rw[MO];exact Ng (NQ _ _) (by rw[Ni]; exact Qu _ _)
 by_cases hlt:i < xs.length
 .show .inr ⟨hJ.go i hlt,Oc hlen hz,λx H3 hy=>?_⟩;obtain⟨rfl,hx⟩:=hJ.yld i x H3 hlt hy;have hm:x∈xs:=MS hx;have hstep:((xs.take (i+1)).filter pt)=(xs.take i).filter pt++if pt x then [x] else []:=by
   rw[NF,hx,Ov];cases hp:pt x <;> simp[hp]
  show ht x hm _ ?_;cases hp:pt x with
  | false =>
   rw[MP Nd];show⟨xs.length - (i+1),Y,Z,hlt,Z,?_⟩;rw[hstep,hp];simp
  | true =>
   rw[MU rfl];show hs x hm hp _ ⟨xs.length - (i+1),Y,Z,hlt,Z,?_⟩;rw[hstep,hp];simp
 .have e:i=xs.length:=Y;subst e;show .inl ⟨hJ.stop _ (MZ _),Ng hlen (Nw hz),λp hp=>?_⟩;rw[NC];exact hq p hp
theorem kY {xs:List V}{te:TE}{fr:List Nat}{Q:VK}(hJ:JL J H xs) (f:V->V) (hz:xs.length < sizeLine)
  (hs: ∀x∈xs,∀R:VK,R (f x) H->te ((cH own fr O).set 0 (some x)) H R)
  (hq: ∀p,H p=none->Q (.ref p) (upd H p (.lst (xs.map f)))):nz J (aM 0) kx te own fr O H Q:=by
 show zt hJ (λ_=>true) f hz (λ_ _ R q=>q) (λx hx _ R q=>hs x hx R q) λp hp=>?_;have e:xs.filter (λ_=>true)=xs:=by simp
 rw[e];exact hq p hp
theorem bA {xs:List V}{g:TG}{tb:TS}{D:Ends}(Pv:Nat->St->Hp->Prop) (h0:Pv 0 O H) (hJ: ∀i O H,i<=xs.length->Pv i O H->JL J H xs)
  (hs: ∀i x O H,xs[i]?=some x->Pv i O H->g x O H λO2 H2=>tb { D with nx:=Pv (i+1),ct:=Pv (i+1),bk:=D.nx } O2 H2) (hd: ∀O H,Pv xs.length O H->D.nx O H) :
  ∃W:Nat->Nat->St->Hp->Prop,(∃m,W 0 m O H)/\ ∀i m O H,W i m O H ->
   (J.stop i H/\D.nx O H)\/(J.go i H/\ ∃N:St->Hp->Prop,(∀O' H',N O' H'-> ∃m',m' < m/\W (i+1) m' O' H')/\ ∀x H',J.yld i H x H'->g x O H' λO2 H2=>tb { D with nx:=N,ct:=N,bk:=D.nx } O2 H2):=by
 show⟨λi m O H=>i<=xs.length/\m=xs.length - i/\Pv i O H,⟨xs.length,NN _,Z,h0⟩,?_⟩;rintro i m O H ⟨hi,rfl,hp⟩;have hj:=hJ i O H hi hp;by_cases hlt:i < xs.length
 .show .inr ⟨hj.go i hlt,Pv (i+1),λO' H' q=>⟨xs.length - (i+1),Y,hlt,Z,q⟩,λx H' hy=>?_⟩;obtain⟨rfl,hx⟩:=hj.yld i x H' hlt hy;exact hs i x O H' hx hp
 .have e:i=xs.length:=Y;subst e;exact .inl ⟨hj.stop _ (MZ _),hd O H hp⟩
def LD (t u:TS):TS:=λD O H=> ∃Mid:St->Hp->Prop,t { D with nx:=Mid } O H/\ ∀O' H',Mid O' H'->u D O' H'
def La (t:TE):TE:=λO H Q=> ∃Mid:VK,t O H Mid/\ ∀v H',Mid v H'->Q v H'
section
variable {X:Cx}{st:Stmt}{rest:List Stmt}{t u:TS}{e:Expr}{te:TE}
theorem eh (h1:PS X st t) (h2:Q0 X rest u):Q0 X (st::rest) (LD t u):=by
 intro QE s O H D I h;obtain⟨Mid,ha,hb⟩:=h;show wpAny_execs_cons (QL (h1 QE s O H { D with nx:=Mid } I ha) λf s1 q=>?_);cases f with
 | next =>
  obtain⟨O',H',I',m⟩:=q;exact h2 QE s1 O' H' D I' (hb _ _ m)
 | ret v=>exact q
 | brk=>exact q
 | cont=>exact q
theorem iw (h:PE X e te):PE X e (La te):=by
 intro QE s O H Q I q;obtain⟨Mid,ha,hb⟩:=q;exact QL (h QE s O H Mid I ha) λv s' ⟨x,H',I',r,m⟩=>⟨x,H',I',r,hb _ _ m⟩
end
section
variable {prog:Program}{w:World}{A:Around}{E:nE}{h:Heap}{g:Array GenState}{d:Drawn}{tk:Nat}{os:OsState}
variable {nm qn:Str}{C N:Addr}{bs bm bmB:List Value}{hd:Bool}{sn:List Str}{sub:List Value}{ab:Bool}{col:Option Bool}{dd:Option Addr}{k0 k1 k2 k3 k5:Option Value}{B newId initId:String}
theorem t9 (F:ExcBaseFacts B newId initId bmB) (T:OwnTail h bmB bm){mN:oR}{as:List Value}{Q:PySem.Fin->Shared->Prop}
  (hC:h.get? C=some (excClassObj nm qn C N bs bm hd sn sub ab col dd k0 k1 k2 k3 k5 newId)) (hn:h.Ns N mN) (hni:mN "__init__" = none)
  (hq: ∀h' e,Heap.MadeExcOf h h' e (.ref C) as->h.objs.size<=e->Q (.done (.ret (.ref e))) ⟨h',g,d,tk,os⟩) (hz:as.length<=sizeLine) :
  wpAny (model prog w) A (Builtin.«type.__call__» ⟨.ref C::as,[]⟩) Q E ⟨h,g,d,tk,os⟩:=by
 repeat (first | with_reducible show OV hC ?_ | with_reducible show wpAny_madeBy_exc hC ?_ | wp_step)
 show codeAny_call_builtin_code (Code.quiet_builtin _ F.quiet) (wpAny_check_new_subT F T hC (codeAny_exc_new_subT F T hC ?_ hz));change wpAny _ _ _ _ _ _;have c1:=MV { cls:= .ref C,data:= .fields #[.ref h.objs.size,.none,.none,.none,.bool false,.none] } (MV { cls:= .type "tuple",data:= .seq as.toArray } hC);have n1:((h.push { cls:= .type "tuple",data:= .seq as.toArray }).push { cls:= .ref C,data:= .fields #[.ref h.objs.size,.none,.none,.none,.bool false,.none] }).Ns N mN:=hn.keeps λb o e=>MV _ (MV _ e);have g1:((h.push { cls:= .type "tuple",data:= .seq as.toArray }).push { cls:= .ref C,data:= .fields #[.ref h.objs.size,.none,.none,.none,.bool false,.none] }).get? (h.objs.size+1)=some { cls:= .ref C,data:= .fields #[.ref h.objs.size,.none,.none,.none,.bool false,.none] }:=by heap_get
 have cc:(Value.ref C::bm).contains (.ref C)=true:=by simp
 have t1:=T.keeps (h':=(h.push { cls:= .type "tuple",data:= .seq as.toArray }).push { cls:= .ref C,data:= .fields #[.ref h.objs.size,.none,.none,.none,.bool false,.none] }) λb o e=>MV _ (MV _ e);unfold isInstance
 repeat (first | with_reducible show OV g1 ?_ | (with_reducible show Qe c1 ?_; rw[cc]) | wp_step)
 change wpAny _ _ (typeLookup (.ref C) _) _ _ _;show wpAny_typeLookup_tail c1 n1 t1 F.mroIs F.init.lookup ?_;rw[hni];show Om (MY (wpAny_of_eq (F.init.bind _) (MY (Pt (codeAny_call_builtin F.init.plain F.initEntry (wpAny_check_init_subT F t1 c1 g1 rfl ?_))))))
 wp_walk
 show hq _ _ ⟨λb o hb=>?_,PZ (Qh _),h.objs.size+2,?_,PZ Y,?_⟩ (Qh _);.rw[NS _ _ (Pp (OT (Na hb)))]; exact MV _ (MV _ (MV _ hb))
 .rw[Ou _ (MV _ g1) rfl];simp only[Oe];rfl
 .rw[NS _ _ (show h.objs.size+1≠h.objs.size+2 by lia)]; exact Heap.get?_push_at (by simp only[Oe]) rfl
theorem AH (F:ExcBaseFacts B newId initId bmB) (T:OwnTail h bmB bm){mN:oR}{as:List Value}{Q:nE}
  (hC:h.get? C=some (excClassObj nm qn C N bs bm hd sn sub ab col dd k0 k1 k2 k3 k5 newId)) (hn:h.Ns N mN) (hni:mN "__init__" = none)
  (hq: ∀h' e,Heap.MadeExcOf h h' e (.ref C) as->h.objs.size<=e->Q (.ref e) ⟨h',g,d,tk,os⟩) (hz:as.length<=sizeLine) :
  wpAny (model prog w) A (call (.ref C) as) Q E ⟨h,g,d,tk,os⟩:=by
 have f1:=tc_lookup;have f2:=tc_bind (.ref C);have ty:(⟨h,g,d,tk,os⟩:Shared).TypeIs (.ref C) "type" := ⟨_,hC,Z⟩
 show Pt (codeAny_of_tree ?_);change wpAny _ _ (callAny (.ref C) _) _ _ _
 repeat (any_goals (first | assumption | with_reducible show OV hC ?_ | wp_step))
 exact⟨Z,codeAny_call_builtin_at (Code.quiet_builtin _ (by trivial)) entry_typeCall (wpAny_check_type_call_sub hC (t9 F T hC hn hni (λh' e m y=>hq h' e m y) hz))⟩
end
section
variable {prog:Program}{w:World}{A:Around}{E:nE}{s:Shared}{env:Env}
variable {nm qn:Str}{C N:Addr}{bs bm bmB:List Value}{hd:Bool}{sn:List Str}{sub:List Value}{ab:Bool}{col:Option Bool}{dd:Option Addr}{k0 k1 k2 k3 k5:Option Value}{B newId initId:String}
theorem zm (F:ExcBaseFacts B newId initId bmB){mN:oR}{x:Str}{np cpos pos:Pos}{args:List Expr}{Q:Flow->Shared->Prop}
  (hbase:bm.contains (.type "BaseException")=true) (hh:A.handled=none) (hplain:(backTo cpos (starEach args env)).any (·.1)=false) (hni:mN "__init__" = none)
  (h:wpAny (model prog w) A (eval (.Name x np) env) (λf s1=>f= .ref C/\wpAny (model prog w) A (evalArgs (.ref C) true (backTo cpos (starEach args env)) [])
   (λa s2=>a.kw=[]/\a.pos.length<=sizeLine/\s2.heap.get? C=some (excClassObj nm qn C N bs bm hd sn sub ab col dd k0 k1 k2 k3 k5 newId)/\s2.heap.Ns N mN/\OwnTail s2.heap bmB bm /\
    ∀h' e,Heap.MadeExcOf s2.heap h' e (.ref C) a.pos->s2.heap.objs.size<=e->E (.ref e) { s2 with heap:=h' }) E s1) E s) :
  wpAny (model prog w) A (exec (.Raise (some (.Call (.Name x np) args [] cpos)) none pos) env) Q E s:=by
 rw[arm_exec_Raise];show MY (OD (wpAny_raiseStmt_made_sub (C:=C) (nm:=nm) (q:=qn) (N:=N) (bs:=bs) (bm:=bm) (hdct:=hd) (sn:=sn) (sub:=sub) (ab:=ab) (col:=col) (dd:=dd) (k0:=k0) (k1:=k1) (k2:=k2) (k3:=k3) (k5:=k5) (newId:=newId) hbase hh ?_));show MY (NU (wpAny_Call_ofName (NU h (λf s1 h1=>?_) λ_ _ y=>y)) (λv s3 h3=>MY (OD (Nj h3))) λ_ _ y=>y);obtain⟨rfl,h1⟩:=h1;unfold callWith;show MY (Om (NU h1 (λa s2 h2=>MY (OD ?_)) λ_ _ y=>y));obtain⟨ap,ak⟩:=a;obtain⟨hkw,hlen,hC,hn,T,h2⟩:=h2;have hkw:ak=[]:=hkw;subst hkw;obtain⟨hp,g,d,tk,os⟩:=s2;simp only[hplain];show MY (wpAny_keeperOf_exc hC (MY (AH F T hC hn hni (λh' e hm hy=>MY (Om (wpAny_point (Nj ?_)))) hlen)));obtain⟨t,ht,_,_⟩:=hm.there;exact⟨e,t,Z,hm.keeps _ _ hC,ht,h2 h' e hm hy⟩
end
def o9 (cls:Value) (t:Addr) (tb:Value):Obj:={ cls:=cls,data:= .fields #[.ref t,tb,.none,.none,.bool false,.none] }
def FR (h:Heap) (T:Addr) (fl:Value):Prop:= ∃oT ts,h.get? T=some oT/\oT.data= .fields ts/\ts[3]?=some fl
section
variable {M:Model}{A:Around}{E:nE}{s:Shared}
theorem wB {base:Heap}{env:Env}{outer:List Env}{L x t:Addr}{cls head:Value}{hadNext:Bool}{Q:Unit->Shared->Prop}(hfr:A.frames=some (env::outer)) (hl:s.heap.FunFrames base (env::outer)) (hf:env.frame=some L)
  (he:s.heap.get? x=some (o9 cls t head)) (h: ∀h' T',s.heap.objs.size<=T'->h'.get? x=some (o9 cls t (.ref T'))->FR h' T' (rawInt L)->(∀b o,b≠x->b∉Rq (env::outer)->s.heap.get? b=some o->h'.get? b=some o) ->
   (∀b o,b≠x->s.heap.get? b=some o-> ∃sl,h'.get? b=some { o with slots:=sl })->Q () { s with heap:=h' }) :
  wpAny M A (do let a <-frameOf env; let pl <-entryPlaceOf L hadNext; let b <-EntryCells.newEntry head a .none (rawInt L) .none pl; setField (.ref x) 1 b) Q E s:=by
 have hx:x∉(env::outer).filterMap (·.frame):=λhm=>by
  obtain⟨_,o,ho,hn⟩:=hl.mem hm;rw[he] at ho;cases ho;exact hn _ rfl
 show MY (wpAny_frameOf_fun hfr hl hf λh1 sl1=>MY (wpAny_entryPlaceOf λpl hpl=>?_));unfold EntryCells.newEntry newFields;show MY (PF ?_ (hpl.sizeOk5 _ _ _ _ _));have e1:h1.get? x=some (o9 cls t head):=(sl1.2.1 x hx).trans he;generalize hT:({ cls:= .type "traceback",dict:=none,data:= .fields ([head,.ref L,.none,rawInt L,.none]++(if pl.isEmpty then List.replicate 6 Value.none else pl)).toArray }:Obj)=oT;have e2:(h1.push oT).get? x=some (o9 cls t head):=MV _ e1;have hTx:h1.objs.size≠x:=Pp (Na e1);have fT:s.heap.objs.size<=h1.objs.size:=Pc sl1.1.symm;show wpAny_setField e2 rfl (by change 1 < 6; decide) (h _ h1.objs.size fT ?_ ?_ (λb o hb hn e=>?_) (λb o hb e=>?_));.exact Ou _ e2 rfl
 .show⟨oT,([head,.ref L,.none,rawInt L,.none]++(if pl.isEmpty then List.replicate 6 Value.none else pl)).toArray,?_,by rw[<-hT],by simp⟩;rw[NS _ _ (Nu hTx)];exact Nq _ (by rw[<-hT]; rfl)
 .rw[NS _ _ (Nu hb)];exact MV _ ((sl1.2.1 b hn).trans e)
 .obtain⟨sl,q⟩:=sl1.2.2 b o e;exact⟨sl,by rw[NS _ _ (Nu hb)]; exact MV _ q⟩
end
structure nZ (X:Cx) (pn:mK) (H:Hp) (h:Heap) (x:Addr) (cls fl:Value):Prop where
 ok:bG X pn H x
 ex: ∃t T,h.get? x=some (o9 cls t (.ref T))/\T≠x/\bG X pn H T/\FR h T fl
def Exc (X:Cx) (pn:mK) (H:Hp) (h:Heap) (x:Addr) (cls:Value):Prop :=
 (bG X pn H x/\ ∃t,h.get? x=some (o9 cls t .none))\/nZ X pn H h x cls .none\/nZ X pn H h x cls (rawInt X.env.locals)
def Own (X:Cx):Prop:=X.stack=X.env::X.outer/\X.env.frame=some X.env.locals
section
variable {X:Cx}{pn:mK}{O:St}{H:Hp}{s:Shared}{E:nE}
theorem Inv.E6 {ch:List Addr}{h':Heap}(I:Inv X pn O H s) (hch: ∀b∈ch,bG X pn H b) (k1: ∀b o,b∉ch->b∉Rq X.stack->s.heap.get? b=some o->h'.get? b=some o)
  (k2: ∀b o,b∉ch->s.heap.get? b=some o-> ∃sl,h'.get? b=some { o with slots:=sl }):Inv X pn O H { s with heap:=h' }:=by
 show I.AW (s':={ s with heap:=h' }) (ch:=ch) (H':=H) rfl ?_ ?_ I.bare λb hb=>⟨(hch b hb).2.2.2.1,(hch b hb).2.1,λx c hc=>(hch b hb).2.2.2.2.1 x c hc,(hch b hb).2.2.2.2.2⟩
 .exact⟨λb o e _ hf hx=>k1 b o hx hf e,λb o e _ _ hx=>k2 b o hx e,λb o _ n _=>n,λb o e hx=>let ⟨sl,q⟩:=k2 b o hx e; ⟨_,q⟩,λb xs e=>e,λb o u e=>e,λb ps e=>⟨#[],by simpa using e⟩⟩
 .intro a o e;show (I.hok a o e).jk (λb u hb q=>?_) (λb hb=>hb) (λb xs hb=>hb);have tr: ∃o',H b=some o':=by
   rcases hb with rfl | hb
   .exact⟨o,e⟩
   .exact⟨_,hb⟩
  obtain⟨o',ho'⟩:=tr;show k1 b u (λz=>?_) (λz=>?_) q
  .rw[(hch b z).1] at ho';cases ho'
  .rw[I.r9 b z] at ho';cases ho'
theorem Own.frames (eQ:Own X) (I:Inv X pn O H s):X.A.frames=some (X.env::X.outer):=by rw[<-eQ.1]; exact I.ok.frames
theorem Own.eO (eQ:Own X) (I:Inv X pn O H s):s.heap.FunFrames X.base (X.env::X.outer):=by rw[<-eQ.1]; exact I.stack
variable{cls:Value}{Q:Unit->Shared->Prop}
theorem yu {x:Addr}{A:Around}(eQ:Own X) (hA:A.frames=X.A.frames) (I:Inv X pn O H s) (e:Exc X pn H s.heap x cls)
  (h: ∀s',Inv X pn O H s'->nZ X pn H s'.heap x cls (rawInt X.env.locals)->Q () s'):wpAny (model X.prog X.w) A (noteFrame (.ref x) X.env) Q E s:=by
 have hfr:A.frames=some (X.env::X.outer):=hA.trans (eQ.frames I);have hxf: ∀ {b:Addr},bG X pn H b->b∉Rq (X.env::X.outer):=λ{b} f z=>by
  rw[<-eQ.1] at z;rcases M3.mp (I.ur b z) with q | q
  .exact f.2.1 q
  .exact f.2.2.1 q
 rcases e with⟨fx,t,ex⟩ | ⟨fx,t,T,ex,hTx,fT,oT,ts,eT,dT,h3⟩ | e
 .unfold noteFrame;simp only[eQ.2];show MY (PK ex rfl (x:= .none) rfl ?_);rw[MP aS];show wB hfr (eQ.eO I) eQ.2 ex λh' T' hT' ex' tb' k1 k2=>?_;have fT':bG X pn H T':=I.gO hT' (I.hok.fresh hT');show h _ (I.E6 (ch:=[x]) (λb hb=>by rcases MT.mp hb with rfl; exact fx) (λb o hb hn q=>k1 b o (λz=>hb (by simp[z])) (by rw[<-eQ.1]; exact hn) q) (λb o hb q=>k2 b o (λz=>hb (by simp[z])) q))
   ⟨fx,t,T',ex',λz=>?_,fT',tb'⟩
  exact absurd (Na ex) (OI.mpr (by rw[<-z]; exact hT'))
 .unfold noteFrame;simp only[eQ.2];show MY (PK ex rfl (x:= .ref T) rfl ?_);rw[MU (show (Value.ref T !=Value.none)=true from by simp)];show MY (PK eT dT h3 ?_);rw[MP (show ¬((Value.none == rawInt X.env.locals)=true) from by simp[rawInt])];show MY (wpAny_setField eT dT (Qo.mp h3).1 ?_);have o1: ∀b,b≠T->(s.heap.update T (Obj.mapFields (·.setIfInBounds 3 Value.none))).get? b=s.heap.get? b:=λb hb=>NS _ _ (Nu hb);have hTf:=hxf fT;have l1:(s.heap.update T (Obj.mapFields (·.setIfInBounds 3 Value.none))).FunFrames X.base (X.env::X.outer):=(eQ.eO I).of_keeps λb o hb hn=>⟨o,(o1 b λz=>by
   rw[z,eT] at hb;cases hb;exact hn _ dT).trans hb,Z⟩
  show wB (s:={ s with heap:=s.heap.update T (Obj.mapFields (·.setIfInBounds 3 Value.none)) }) hfr l1 eQ.2 ((o1 x (Nu hTx)).trans ex) λh' T' hT' ex' tb' k1 k2=>?_;have hT2:s.heap.objs.size<=T':=by
   rw[Heap.size_after_update] at hT';exact hT'
  have fT':bG X pn H T':=I.gO hT2 (I.hok.fresh hT2);show h _ (I.E6 (ch:=[x,T]) (λb hb=>?_) (λb o hb hn q=>?_) (λb o hb q=>?_)) ⟨fx,t,T',ex',λz=>?_,fT',tb'⟩
  .rcases M3.mp hb with rfl | hb
   .exact fx
   .rcases MT.mp hb with rfl
    exact fT
  .exact k1 b o (λz=>hb (by simp[z])) (by rw[<-eQ.1]; exact hn) ((o1 b λz=>hb (by simp[z])).trans q)
  .exact k2 b o (λz=>hb (by simp[z])) ((o1 b λz=>hb (by simp[z])).trans q)
  .exact absurd (Na ex) (OI.mpr (by rw[<-z]; exact hT2))
 .obtain⟨fx,t,T,ex,hTx,fT,oT,ts,eT,dT,h3⟩:=id e;unfold noteFrame;simp only[eQ.2];show MY (PK ex rfl (x:= .ref T) rfl ?_);rw[MU (show (Value.ref T !=Value.none)=true from by simp)];show MY (PK eT dT h3 ?_);rw[MU (show (rawInt X.env.locals == rawInt X.env.locals)=true from by first | (simp; done) | exact OH _)];exact Nj (h s I e)
theorem pD {x:Addr}{fl:Value}{fr:Option Addr}{A:Around}(I:Inv X pn O H s) (e:nZ X pn H s.heap x cls fl)
  (h: ∀s',Inv X pn O H s'->nZ X pn H s'.heap x cls (fr.elim .none λf=>rawInt f)->Q () s'):wpAny (model X.prog X.w) A (setFlight (.ref x) fr) Q E s:=by
 obtain⟨fx,t,T,ex,hTx,fT,oT,ts,eT,dT,h3⟩:=e;have hsz:3 < ts.size:=(Qo.mp h3).1;unfold setFlight;show MY (PK ex rfl (x:= .ref T) rfl ?_);rw[MU (show (Value.ref T !=Value.none)=true from by simp)];show wpAny_setField eT dT hsz ?_;have o1: ∀b,b≠T->(s.heap.update T (Obj.mapFields (·.setIfInBounds 3 (fr.elim .none λf=>rawInt f)))).get? b=s.heap.get? b:=λb hb=>NS _ _ (Nu hb);have dT':=Obj.data_mapFields dT (·.setIfInBounds 3 (fr.elim .none λf=>rawInt f));show h _ (I.E6 (ch:=[T]) (λb hb=>by rcases MT.mp hb with rfl; exact fT) (λb o hb _ q=>(o1 b λz=>hb (by simp[z])).trans q) (λb o hb q=>⟨o.slots,(o1 b λz=>hb (by simp[z])).trans q⟩))
  ⟨fx,t,T,(o1 x (Nu hTx)).trans ex,hTx,fT,_,_,Ou _ eT (Obj.isFreed_of_fields dT'),dT',by simp[hsz]⟩
end
def XE (X:Cx) (pn:mK) (E:St->XK):Value->Shared->Prop:=λe s=> ∃O H x cls,e= .ref x/\Inv X pn O H s/\Exc X pn H s.heap x cls/\E O cls none H
abbrev Cx.exc (X:Cx) (pn:mK) (E:St->XK):Cx:={ X with xe:=XE X pn E,pn:=X.pn++pn }
theorem Cx.Ok.exc {pn:mK}{E:St->XK}(ok:X.Ok):(X.exc pn E).Ok :=
 ⟨ok.mod,ok.kind,ok.glob,ok.blt,ok.above,ok.inj,ok.has,ok.cab,ok.hd,ok.frames,ok.stk,ok.exf,ok.bs,ok.bsz,ok.noex,ok.exfs,ok.eO,ok.frf⟩
theorem Cx.Ok.eG {pn:mK}{E:St->XK}(ok:(X.exc pn E).Ok):X.Ok :=
 ⟨ok.mod,ok.kind,ok.glob,ok.blt,ok.above,ok.inj,ok.has,ok.cab,ok.hd,ok.frames,ok.stk,ok.exf,ok.bs,ok.bsz,ok.noex,ok.exfs,ok.eO,ok.frf⟩
section
variable {X:Cx}{pn QE:mK}{E:St->XK}{O:St}{H:Hp}{s:Shared}
theorem Inv.exc (I:Inv X (pn++QE) O H s):Inv (X.exc pn E) QE O H s :=
 ⟨I.ok.exc,I.os,I.bare,I.base,I.loc,I.cell,I.free,I.freeC,λp hp=>I.pin p (by rw[<-NY]; exact hp),I.hok,I.len⟩
theorem Inv.eG (I:Inv (X.exc pn E) QE O H s):Inv X (pn++QE) O H s :=
 ⟨I.ok.eG,I.os,I.bare,I.base,I.loc,I.cell,I.free,I.freeC,λp hp=>I.pin p (by rw[<-NY] at hp; exact hp),I.hok,I.len⟩
theorem bG.eG {b:Addr}(f:bG (X.exc pn E) QE H b):bG X pn H b :=
 ⟨f.1,f.2.1,f.2.2.1,f.2.2.2.1,f.2.2.2.2.1,λp hp=>f.2.2.2.2.2 p (NO _ hp)⟩
variable{cls:Value}
theorem nZ.eG {h:Heap}{x:Addr}{fl:Value}(e:nZ (X.exc pn E) QE H h x cls fl):nZ X pn H h x cls fl :=
 ⟨e.ok.eG,let ⟨t,T,a,b,c,d⟩:=e.ex; ⟨t,T,a,b,c.eG,d⟩⟩
theorem Exc.eG {h:Heap}{x:Addr}(e:Exc (X.exc pn E) QE H h x cls):Exc X pn H h x cls:=by
 rcases e with⟨f,t,e⟩ | e | e
 .exact .inl ⟨f.eG,t,e⟩
 .exact .inr (.inl e.eG)
 .exact .inr (.inr e.eG)
theorem xA {x:Addr}(I:Inv (X.exc pn E) QE O H s) (e:Exc (X.exc pn E) QE H s.heap x cls) (q:E O cls none H):(X.exc pn E).xe (.ref x) s :=
 ⟨O,H,x,cls,Z,I.eG.ke λp hp=>I.eG.pin p (Nn _ (NO _ hp)),e.eG,q⟩
end
def Rj (P:Program) (w:World):Rk:=λouter H s E e s'=> ∃x t T cls H',e= .ref x/\s'.os=s.os/\AllBare s'.gens/\Un (Rq outer) [] H H' s.heap s'.heap/\QW P w H' s'.heap /\
 s.heap.objs.size<=x/\s.heap.objs.size<=T/\s'.heap.get? x=some (o9 cls t (.ref T))/\T≠x/\FR s'.heap T .none/\H' x=none/\H' T=none/\E cls none H'
section
variable {X:Cx}{pn QE:mK}{E:St->XK}{O:St}{H:Hp}{s:Shared}
theorem yZ (I:Inv (X.exc pn E) QE O H s){e:Value}{s':Shared}(c:Rj X.prog X.w X.stack H s (E O) e s'):(X.exc pn E).xe e s':=by
 obtain⟨x,t,T,cls,H',rfl,ho,hg,u,hok,hx,hT,ex,hTx,tb,fx,fT,q⟩:=c;have I':Inv (X.exc pn E) QE O H' s':=I.AW (ch:=[]) ho u hok hg λb hb=>by cases hb
 have F: ∀b,s.heap.objs.size<=b->H' b=none->bG (X.exc pn E) QE H' b:=λb hb hn=>I.gO hb hn;exact xA I' (.inr (.inl ⟨F x hx fx,t,T,ex,hTx,F T hT fT,tb⟩)) q
end
section
variable {P:Program}{w:World}{K:QG}{mg:oR}{base:Heap}
variable{N:List Str}{scope:Scope}{outer:List Env}
theorem Ew {CX:Rk}{qual:Str}{f:Addr}{cd:Value}{A:Around}{s:Shared}{H:Hp}{E:XK}:Own (fW CX P w K mg base N qual scope f cd A outer s H E):=⟨Z,Z⟩
theorem xu {qual:Str}{f:Addr}{cd:Value}{A:Around}{s:Shared}{H:Hp}{E:XK}{body:List Stmt}{t:TS} (h:Q0 ((fW (Rj P w) P w K mg base N qual scope f cd A outer s H E).exc [] λ_=>E) body t):Q0 (fW (Rj P w) P w K mg base N qual scope f cd A outer s H E) body t:=by
 intro QE s1 O H1 D I q;show NU (h QE s1 O H1 D (Inv.exc (pn:=[]) I) q) (λfl s2 sp=>?_) (λe s2 x=>?_)
 .cases fl with
  | next=>obtain⟨O',H',I',q'⟩:=sp; exact⟨O',H',I'.eG,q'⟩
  | brk=>obtain⟨O',H',I',q'⟩:=sp; exact⟨O',H',I'.eG,q'⟩
  | cont=>obtain⟨O',H',I',q'⟩:=sp; exact⟨O',H',I'.eG,q'⟩
  | ret u=>obtain⟨v,O',H',I',r,q'⟩:=sp; exact⟨v,O',H',I'.eG,r,q'⟩
 .obtain⟨O2,H2,x,cls,rfl,I2,ex,q2⟩:=x;change wpAny _ _ (leaving _ (.ref x)) _ _ s2;unfold leaving;show MY (yu Ew rfl I2 ex λs3 I3 e3=>?_);show pD (fr:=none) I3 e3 λs4 I4 e4=>?_;obtain⟨fx,t,T,ex4,hTx,fT,tb⟩:=e4;have young: ∀ {b:Addr},bG (fW (Rj P w) P w K mg base N qual scope f cd A outer s H E) [] H2 b->s.heap.objs.size<=b:=λ{b} z=>by
   rcases z.2.2.2.1 with y | y
   .cases y
   .exact y
  exact⟨x,t,T,cls,H2,Z,I4.os,I4.bare,I4.base,I4.hok,young fx,young fT,ex4,hTx,tb,fx.1,fT.1,q2⟩
end
def RN (P:Program) (w:World) (K:QG) (mg:oR) (base:Heap) (k:Nat) (x:Str) (ps:List Str) (sp:Sp):Prop :=
 ∃f fd,mg x=some (.ref f)/\(∃oc od osl,K.lookup f=some ⟨oc,od,.func fd,osl⟩)/\PySem.W.keepIn K (.ref f)=true/\Binds K fd ps []/\dC P w K mg base (Rj P w) k f fd ps sp
section
variable {P:Program}{w:World}{K:QG}{mg:oR}{base:Heap}
variable{ps:List Str}{sp:Sp}
theorem JV {x:Str}{st:Stmt}{N:List Str}{k:Nat}(h:TF K mg x st) (S:ax N ps (aj st))
  (hb: ∀(kV doc pm:Value) (an:Option Addr) (cdv ct:Value) (us:List Value),us.length=ps.length->bindArgs (PySem.W.fnOf x x (cU st) (bN st) (aj st) .none kV doc pm an cdv ct) ⟨us,[]⟩=pure (ps.zip us))
  (len: ∀vs H Q E,sp vs H Q E->vs.length=ps.length)
  (hbody: ∀(f:Addr) (cdv:Value) (A:Around) (outer:List Env) (s:Shared) (H:Hp) (vs:List V) (Q:VK) (E:XK),bC k (A.deeper (envOfC x (aj st) s.heap.objs.size f cdv))->sp vs H Q E ->
   ∃t,Q0 ((fW (Rj P w) P w K mg base N x (aj st) f cdv A outer s H E).exc [] λ_=>E) (bN st) t/\t { nx:=λ_ H'=>Q .non H',rt:=Q } (start N vs) H):RN P w K mg base (k+1) x ps sp:=by
 obtain⟨f,fd,hm,F⟩:=h;obtain⟨oc,od,kV,doc,pm,an,cdv,ct,osl,rfl,lk,hcd⟩:=id F.ex;show⟨f,_,hm,⟨oc,od,osl,lk⟩,F.kp,F.binds hb,wY lk hcd S len λA outer s H vs Q E hr hs=>?_⟩;obtain⟨t,h1,h2⟩:=hbody f cdv A outer s H vs Q E hr hs;exact⟨t,xu h1,h2⟩
theorem dC.II {k:Nat}{f:Addr}{fd:FuncData}(F:dC P w K mg base Rc k f fd ps sp):dC P w K mg base (Rj P w) k f fd ps sp :=
 ⟨F.len,λA outer s H args us vs Q E hr e0 hb hv hs=>O1 (F.run A outer s H args us vs Q E hr e0 hb hv hs) λr s' c=>by
  cases r with
  | ok f=>cases f <;> exact c
  | error e=>exact c.elim⟩
theorem QS.x {k:Nat}{x:Str}(F:QS P w K mg base k x ps sp):RN P w K mg base k x ps sp:=by
 obtain⟨f,fd,a,l,b,c,d⟩:=F;exact⟨f,fd,a,l,b,c,d.II⟩
end
section
variable {X:Cx}{pn:mK}{E:St->XK}{k:Nat}{x:Str}{ps:List Str}{sp:Sp}{p pos:Pos}{e:Expr}{es:List Expr}{t:TA}
def Jv (sp:Sp) (E:St->XK) (t:TA):TE:=λO H Q=>t O H λvs H1=>sp (vs++[]) H1 Q (E O)
theorem vE {QE:mK}{O:St}{H:Hp}{s:Shared}{Q:VK}{us:List Value}{vs:List V}{f:Addr}{fd:FuncData}(F:dC X.prog X.w X.K X.mg X.base (Rj X.prog X.w) k f fd ps sp) (hr:bC k X.A) (hb:Binds X.K fd ps [])
  (I:Inv (X.exc pn E) QE O H s) (r:Vals vs us) (h:sp (vs++[]) H Q (E O)):wpAny (model X.prog X.w) X.A (call (.ref f) us) (EP (X.exc pn E) QE O Q) (X.exc pn E).xe s:=by
 have hl:(us++[]).length=ps.length:=by
  rw[<-(r.append (.nil:Vals [] [])).length];exact F.len _ _ _ _ h
 show Pt (O1 (F.run X.A X.stack s H ⟨us,[]⟩ (us++[]) (vs++[]) Q (E O) hr I.EK (hb s us I.Rh hl) (r.append .nil) h) λr s' hq=>?_);cases r with
 | error e=>exact yZ I hq
 | ok fl =>
  cases fl with
  | ret u=>exact I.after hq
  | next=>exact hq.elim
  | brk=>exact hq.elim
  | cont=>exact hq.elim
theorem bq (F:RN X.prog X.w X.K X.mg X.base k x ps sp) (hr:bC k X.A) (ha:PA (X.exc pn E) (e::es) t) (hg:Gl (X.exc pn E) x:=by rfl) (hdb:(x == ("__debug__" : Str))=false:=by decide)
  (he:starEach (e::es) X.env=(false,eval e X.env)::starEach es X.env:=by rfl) (hpl:(backTo pos (starEach es X.env)).any (·.1)=false:=by rfl):PE (X.exc pn E) (.Call (.Name x p) (e::es) [] pos) (Jv sp E t):=by
 obtain⟨f,fd,hm,_,kp,hb,F⟩:=F;intro QE s O H Q I h;show Ow (mq I hg hm ?_ hdb);exact Pq (h₀:=X.base) I.ok.mod.kin kp (QL (ha pos QE s O H _ I h) λus s1 ⟨vs,H1,I1,r,q⟩=>⟨I1.Rh,vE F hr hb I1 r q⟩) he hpl
end
abbrev Bk:List Value:=[.type "ValueError",.type "Exception",.type "BaseException",.type "object"]
theorem rD {h:Heap}{C:Addr}{bmB:List Value}{newId:String}(X:K.In h) (q:PySem.W.excIn K C bmB newId=true) :
  ∃bm N nm qn bs hdct sn sub ab col dd k0 k1 k2 k3 k5 mN,h.get? C=some (excClassObj nm qn C N bs bm hdct sn sub ab col dd k0 k1 k2 k3 k5 newId)/\h.Ns N mN/\mN "__init__" = none/\OwnTail h bmB bm/\K.lookup C=some (excClassObj nm qn C N bs bm hdct sn sub ab col dd k0 k1 k2 k3 k5 newId):=by
 unfold PySem.W.excIn at q;split at q
 .rename_i dd cd sl ho;split at q
  .rename_i C' bm k0 k1 k2 k3 n k5 hm hs;simp only[NG,beq_iff_eq,Bool.not_eq_true'] at q;obtain⟨⟨⟨⟨⟨e1,e2⟩,hdel⟩,ht⟩,hok⟩,hni⟩:=q;subst e1 e2;obtain⟨nm,bs,mro,ns,qn,hd,sn,sub,ab,col,del⟩:=cd;dsimp only at hm hdel hok hni;subst hm hdel;have hsl:sl= #[k0,k1,k2,k3,some (.builtin n),k5]:=by
    obtain⟨l⟩:=sl;simp only at hs;rw[hs]
   subst hsl;exact⟨bm,ns,nm,qn,bs,hd,sn,sub,ab,col,dd,k0,k1,k2,k3,k5,_,X _ _ ho,.of_isNs (PySem.W.isNs_of_in X hok),PySem.W.nsMap_none_of_in X hok hni,PySem.W.tail_of_in X ht,ho⟩
  .cases q
 .cases q
def XC (K:QG) (mg:oR) (x:Str) (C:Addr):Prop:=mg x=some (.ref C)/\PySem.W.excIn K C Bk "ValueError.__new__" = true
def JS (E:St->XK) (C:Addr) (t:TA):TS:=λ_ O H=>t O H λvs H1=>vs.length<=1000/\E O (.ref C) none H1
section
variable {X:Cx}{pn:mK}{E:St->XK}{x:Str}{C:Addr}{np cpos pos:Pos}{e:Expr}{es:List Expr}{t:TA}
theorem Fh {QE:mK}{O:St}{H:Hp}{s:Shared}{h':Heap}{a:Addr}{vs:List Value}(I:Inv (X.exc pn E) QE O H s) (m:Heap.MadeExcOf s.heap h' a (.ref C) vs) (hy:s.heap.objs.size<=a) (q:E O (.ref C) none H):(X.exc pn E).xe (.ref a) { s with heap:=h' }:=by
 obtain⟨t,e,_,_⟩:=m.there;have I':Inv (X.exc pn E) QE O H { s with heap:=h' }:=I.kept (t':=s.toks) m.keeps;exact xA I' (.inl ⟨I.gO hy (I.hok.fresh hy),t,e⟩) q
theorem eB (c:XC X.K X.mg x C) (hc:X.calm=true) (ha:PA (X.exc pn E) (e::es) t) (hg:Gl (X.exc pn E) x:=by rfl) (hdb:(x == ("__debug__" : Str))=false:=by decide)
  (he:starEach (e::es) X.env=(false,eval e X.env)::starEach es X.env:=by rfl) (hpl:(backTo cpos (starEach es X.env)).any (·.1)=false:=by rfl) :
  PS (X.exc pn E) (.Raise (some (.Call (.Name x np) (e::es) [] cpos)) none pos) (JS E C t):=by
 intro QE s O H D I h;obtain⟨bm,N,nm,qn,bs,hdct,sn,sub,ab,col,dd,k0,k1,k2,k3,k5,mN,hC,hN,hni,T,_⟩:=rD I.mod.kin c.2;have kp: ∀ {s':Shared}{H':Hp},Inv (X.exc pn E) QE O H' s'-> ∀b o,X.base.get? b=some o->s'.heap.get? b=some o:=λI'=>I'.bk;show zm (C:=C) (nm:=nm) (qn:=qn) (N:=N) (bs:=bs) (bm:=bm) (hd:=hdct) (sn:=sn) (sub:=sub) (ab:=ab) (col:=col) (dd:=dd) (k0:=k0) (k1:=k1) (k2:=k2) (k3:=k3) (k5:=k5) F.excBase_ValueError (T.hasType rfl) (I.ok.hd hc) (by rw[he]; change (false || (backTo cpos (starEach es X.env)).any (·.1))=false; rw[hpl]; rfl) hni (mq I hg c.1 ⟨rfl,?_⟩ hdb);have h0:=ha cpos QE s O H _ I h;rw[show starEach (e::es) (X.exc pn E).env=(false,eval e X.env)::starEach es X.env from he] at h0 ⊢;show Pf (QL h0 λus s1 ⟨vs,H1,I1,r,hz,q⟩=>⟨Z,?_,kp I1 _ _ hC,hN.keeps (kp I1),T.keeps (kp I1),λh' a m y=>Fh I1 m y q⟩);rw[<-r.length];exact Nw (rM hz)
end
section
variable {M:Model}{A:Around}{E:nE}{h:Heap}{g:Array GenState}{d:Drawn}{tk:Nat}{os:OsState}
variable {nm qn nm' qn':Str}{C N D N':Addr}{bs bm bs' bm':List Value}{hd hd':Bool}{sn sn':List Str}{sub sub':List Value}{ab ab':Bool}{col col':Option Bool}{dd dd':Option Addr}{k0 k1 k2 k3 k5 j0 j1 j2 j3 j5:Option Value}{newId newId':String}
theorem zo {x:Addr}{oe:Obj}{Q:Bool->Shared->Prop}(hC:h.get? C=some (excClassObj nm qn C N bs bm hd sn sub ab col dd k0 k1 k2 k3 k5 newId)) (he:h.get? x=some oe) (hcls:oe.cls= .ref C)
  (hD:h.get? D=some (excClassObj nm' qn' D N' bs' bm' hd' sn' sub' ab' col' dd' j0 j1 j2 j3 j5 newId')) (hb:bm'.contains (.type "BaseException")=true)
  (hq:Q ((Value.ref C::bm).contains (.ref D)) ⟨h,g,d,tk,os⟩):wpAny M A (excMatches (.ref x) (.ref D)) Q E ⟨h,g,d,tk,os⟩:=by
 have cb:(Value.ref D::bm').contains (.type "BaseException")=true:=by rw[List.contains_cons,hb,Bool.or_true]
 have f:=tc_notTuple;generalize hr:(Value.ref C::bm).contains (.ref D)=r at hq;unfold excMatches
 repeat (first | (with_reducible show OV he ?_; rw[hcls]) | with_reducible show OV hD ?_ | with_reducible show OV hC ?_ | (with_reducible show Qe hD ?_; rw[cb]) | (with_reducible show Qe hC ?_; rw[hr]) | wp_step)
 cases r <;> (wp_walk; exact hq)
end
def tu (K:QG) (cls:Value) (D:Addr):Option Bool:=match cls with
 | .ref C=>(match K.lookup C with | some ⟨_,_,.cls cd,_⟩=>some (cd.mro.contains (.ref D)) | _=>none)
 | _=>none
theorem GS {C D:Addr}{c:Value}{d:Option Addr}{cd:ClassData}{sl:Array (Option Value)}{b:Bool}(l:K.lookup C=some ⟨c,d,.cls cd,sl⟩) (e:cd.mro.contains (.ref D)=b):tu K (.ref C) D=some b:=by
 unfold tu;simp only;rw[l];exact NJ some e
section
variable {X:Cx}{QE:mK}{O:St}{H:Hp}{s:Shared}
theorem E1 {A:Around}{E:nE}{C D x:Addr}{fl:Value}{b:Bool}{Q:Bool->Shared->Prop}(I:Inv X QE O H s) (e:nZ X QE H s.heap x (.ref C) fl)
  (cC:PySem.W.excIn X.K C Bk "ValueError.__new__" = true) (cD:PySem.W.excIn X.K D Bk "ValueError.__new__" = true) (hs:tu X.K (.ref C) D=some b) (q:Q b s) :
  wpAny (model X.prog X.w) A (excMatches (.ref x) (.ref D)) Q E s:=by
 obtain⟨bm,N,nm,qn,bs,hdct,sn,sub,ab,col,dd,k0,k1,k2,k3,k5,mN,hC,_,_,T,lC⟩:=rD I.mod.kin cC;obtain⟨bm',N',nm',qn',bs',hdct',sn',sub',ab',col',dd',j0,j1,j2,j3,j5,mN',hD,_,_,T',_⟩:=rD I.mod.kin cD;obtain⟨_,t,Tb,ex,_⟩:=e;have e1:some ((Value.ref C::bm).contains (.ref D))=some b:=by
  unfold tu at hs;simp only at hs;rw[lC] at hs;exact hs
 have e2:=Nc e1;obtain⟨hp,g,d,tk,os⟩:=s;exact zo (I.bk _ _ hC) ex rfl (I.bk _ _ hD) (T'.hasType rfl) (by rw[e2]; exact q)
end
abbrev Cx.Q8 (X:Cx) (QE:mK) (x:Addr) (o:Obj):Cx:={ X with A:=X.A.mark (some (.ref x)),calm:=false,xe:=λ_ _=>False,pn:=X.pn++QE++[(x,o)] }
variable{QE:mK}
theorem Cx.Ok.Q8 {x:Addr}(ok:X.Ok):(X.Q8 QE x o).Ok :=
 ⟨ok.mod,ok.kind,ok.glob,ok.blt,ok.above,ok.inj,ok.has,ok.cab,(λh=>by cases h),ok.frames,ok.stk,ok.exf,ok.bs,ok.bsz,ok.noex,ok.exfs,ok.eO,ok.frf⟩
theorem Cx.Ok.sj {x:Addr}(hc:X.calm=true->X.A.handled=none) (ok:(X.Q8 QE x o).Ok):X.Ok :=
 ⟨ok.mod,ok.kind,ok.glob,ok.blt,ok.above,ok.inj,ok.has,ok.cab,hc,ok.frames,ok.stk,ok.exf,ok.bs,ok.bsz,ok.noex,ok.exfs,ok.eO,ok.frf⟩
section
variable {X:Cx}{QE:mK}{O:St}{H:Hp}{s:Shared}
theorem Inv.Q8 {x t T:Addr}{cls:Value}(I:Inv X QE O H s) (f:bG X QE H x) (ex:s.heap.get? x=some (o9 cls t (.ref T))):Inv (X.Q8 QE x (o9 cls t (.ref T))) [] O H s :=
 ⟨I.ok.Q8,I.os,I.bare,I.base,I.loc,I.cell,I.free,I.freeC,λp hp=>by
  rw[Oy] at hp;rcases M8.mp hp with hp | hp
  .exact I.pin p hp
  .rcases MT.mp hp with rfl
   exact⟨ex,f.1,f.2.1,f.2.2.1,λv z=>by cases z⟩,I.hok,I.len⟩
theorem Inv.sj {pl:mK}{x:Addr}{o:Obj}{O':St}{H':Hp}{s':Shared}(hc:X.calm=true->X.A.handled=none) (I:Inv (X.Q8 QE x o) pl O' H' s'):Inv X QE O' H' s' :=
 ⟨I.ok.sj hc,I.os,I.bare,I.base,I.loc,I.cell,I.free,I.freeC,λp hp=>I.pin p (NO _ (NO _ hp)),I.hok,I.len⟩
end
abbrev TH:=Ends->Value->St->Hp->Prop
def PH (X:Cx) (hs:List ExceptHandler) (th:TH):Prop :=
 ∀(QE:mK) (s:Shared) (O:St) (H:Hp) (D:Ends) (x:Addr) (cls:Value),Inv X QE O H s->nZ X QE H s.heap x cls .none->th D cls O H ->
  wpAny (model X.prog X.w) X.A (handleBy (.ref x) X.env hs) (SP X QE D) X.xe s
theorem Jr:PH X [] (λ_ _ _ _=>False):=λ_ _ _ _ _ _ _ _ _ h=>h.elim
def LZ (K:QG) (D:Addr) (ts:List (Addr×Obj)->Addr->Obj->TS) (th:TH):TH:=λDs cls O H=> ∃C b,cls= .ref C/\PySem.W.excIn K C Bk "ValueError.__new__" = true/\tu K cls D=some b/\if b=true then ∀QE x o,ts QE x o Ds O H else th Ds cls O H
variable{th:TH}
theorem Hk {n:Str}{D:Addr}{np:Pos}{b0:Stmt}{suite:List Stmt}{rest:List ExceptHandler}{ts:List (Addr×Obj)->Addr->Obj->TS}(c:XC X.K X.mg n D) (hsu: ∀QE x o,Q0 (X.Q8 QE x o) (b0::suite) (ts QE x o)) (hr:PH X rest th)
  (hg:Gl X n:=by rfl) (hdb:(n == ("__debug__" : Str))=false:=by decide):PH X (.ExceptHandler (some (.Name n np)) none (b0::suite) pos::rest) (LZ X.K D ts th):=by
 intro QE s O H Ds x cls I e q;obtain⟨C,b,rfl,hC,hsb,q⟩:=q;obtain⟨fx,t,T,ex,hT⟩:=id e;have Ih:=I.Q8 fx ex;show wpAny_handleBy_cons (codeAny_handlers_test (wpAny_noRaise (mq (X:=X.Q8 QE x _) (E:=λ_ _=>False) Ih hg c.1 ?_ hdb) |> λz=>z)) (by intro z; cases z);show E1 I e hC c.2 hsb ?_;cases b with
 | true =>
  rw[MU rfl] at q;show codeAny_handlers_suite (wpAny_noRaise ?_);show pD (X:=X) (fr:=none) I e λs2 I2 e2=>?_;obtain⟨fx2,t2,T2,ex2,_⟩:=id e2;show wpAny_noRaise (QL (hsu QE x _ [] s2 O H Ds (I2.Q8 fx2 ex2) (q _ _ _)) λf s3 sp=>?_);cases f with
  | next=>obtain⟨O',H',I',q'⟩:=sp; exact⟨O',H',I'.sj I.ok.hd,q'⟩
  | brk=>obtain⟨O',H',I',q'⟩:=sp; exact⟨O',H',I'.sj I.ok.hd,q'⟩
  | cont=>obtain⟨O',H',I',q'⟩:=sp; exact⟨O',H',I'.sj I.ok.hd,q'⟩
  | ret v=>obtain⟨v',O',H',I',r,q'⟩:=sp; exact⟨v',O',H',I'.sj I.ok.hd,r,q'⟩
 | false =>
  rw[MP Nd] at q;exact hr QE s O H Ds x (.ref C) I e q
def Jc (tb:List (Addr×Obj)->(St->XK)->TS) (to:TS) (th:TH):TS:=λD O H=> ∃E':St->XK,(∀QE,tb QE E' { D with nx:=to D } O H)/\ ∀O' cls H',E' O' cls none H'->th D cls O' H'
variable{body:List Stmt}{h0:ExceptHandler}{hs:List ExceptHandler}{tb:List (Addr×Obj)->(St->XK)->TS}
theorem HA {orelse:List Stmt}{to:TS}(eQ:Own X) (hb: ∀QE E',Q0 (X.exc QE E') body (tb QE E')) (ho:Q0 X orelse to) (hh:PH X (h0::hs) th) :
  PS X (.Try body (h0::hs) orelse [] pos) (Jc tb to th):=by
 intro QE s O H D I q;obtain⟨E',q1,q2⟩:=q;have I0:Inv (X.exc QE E') [] O H s:=Inv.exc (by rw[Oy]; exact I);have back: ∀ {O':St}{H':Hp}{s':Shared},Inv (X.exc QE E') [] O' H' s'->Inv X QE O' H' s':=λI'=>by
  have:=I'.eG
  rwa [Oy] at this
 show wpAny_Try_except (NU (hb QE E' [] s O H _ I0 (q1 QE)) (λf s1 sp=>?_) (λe s1 x=>?_))
 .cases f with
  | next =>
   obtain⟨O',H',I',q'⟩:=sp;exact ho QE s1 O' H' D (back I') q'
  | brk=>obtain⟨O',H',I',q'⟩:=sp; exact⟨O',H',back I',q'⟩
  | cont=>obtain⟨O',H',I',q'⟩:=sp; exact⟨O',H',back I',q'⟩
  | ret v=>obtain⟨v',O',H',I',r,q'⟩:=sp; exact⟨v',O',H',back I',r,q'⟩
 .obtain⟨O1,H1,x,cls,rfl,I1,ex,q'⟩:=x;show yu eQ rfl I1 ex λs2 I2 e2=>?_;show pD (fr:=none) I2 e2 λs3 I3 e3=>?_;exact hh QE s3 O1 H1 D x cls I3 e3 (q2 O1 cls H1 q')
theorem IM(eQ:Own X) (hb: ∀QE E',Q0 (X.exc QE E') body (tb QE E')) (hh:PH X (h0::hs) th) :
  PS X (.Try body (h0::hs) [] [] pos) (Jc tb Gj th):=HA eQ hb aF hh
section
variable {prog:Program}{w:World}{A:Around}{E:nE}{s:Shared}
end
structure MD (k:Nat) (A:Around):Prop where
 dp:A.depth+3*k+5 < recursionLimit
 un:A.units+16*k+200 < cLine
section
variable {P:Program}{w:World}{K:QG}{mg:oR}{base:Heap}
end
end L2
namespace L2
open PySem PySem.Spec PyProof.Rows PySem.W
structure EC (K:Frag) (C:Addr):Prop where
 ga:findIn K (.ref C) "__getattribute__" = some (some (.builtin "BaseException.__getattribute__"))
 gn:findIn K (.ref C) "__getattr__" = some none
 cl:findIn K (.ref C) "__class__" = some (some (.builtin "object.__class__"))
 sb:subIn K (.ref C) (.type "BaseException")=some true
 so:subIn K (.ref C) (.type "object")=some true
section
variable {prog:Program}{w:World}{A:Around}{E:nE}{K:Frag}{h:Heap}{g:Array GenState}{d:Drawn}{tk:Nat}{os:OsState}{a C:Addr}{o:Obj}
end
end L2
namespace L2
open PySem PySem.Spec PyProof.Rows
section
variable {h base:Heap}{x b:Addr}{o:Obj}
end
section
variable {X:Cx}{QE:mK}{k:Nat}{x tt:Addr}{cls tb:Value}{n:Str}{ps:List Str}{sp:Heap->Sp}{p pos:Pos}{e:Expr}{es:List Expr}{t:TA}
end
section
variable {M:Model}{A:Around}{E:nE}{s:Shared}
end
section
variable {X:Cx}{QE:mK}{O:St}{H:Hp}{s:Shared}
end
def isStar:Expr->Bool
 | .Starred _ _=>true
 | _=>false
variable{es:List Expr}
theorem lF {e:Expr}{env:Env}(h:isStar e=false):starEach (e::es) env=(false,eval e env)::starEach es env:=by
 cases e <;> first | rfl | cases h
theorem aq {X:Cx}{e:Expr}{te:TE}{t:TA}(ha:PE X e te) (hr:PA X es t) (hs:isStar e=false:=by rfl):PA X (e::es) (nB te t):=G8 ha hr (lF hs)
theorem wc: ∀ {ys:List Str}{us:List Value},Vals (ys.map V.str) us->StrsAre us ys
 | [],_,.nil=> .nil
 | y::ys,_,.cons r t=>by
  obtain⟨k,rfl⟩:=r;exact .cons y k (wc t)
inductive JD (K:QG) (x:V) (vs:List V) (H:Hp) (Q:VK):Prop | mk (z l ys:_) (e0:x= .str z) (e1:vs=[.ref l]) (e2:QF K H l (ys.map V.str)) (e3:z.length<=16) (e4:(ys.map (·.length)).sum+ys.length<=1048576) (q:Q (.str (Txt.join z ys)) H)
def rJoin (K:QG):V->List V->Hp->VK->Prop:=λx vs H Q=>JD K x vs H Q
theorem Hm {X:Cx}:SK X "str.join" (rJoin X.K):=by
 intro QE s O H x vs v us Q I rx rv h;obtain⟨z,l,ys,rfl,rfl,hq,h1,h2,q⟩:=h;ext:15;obtain⟨u,rfl,ru⟩:=rv.one;cases ru;obtain⟨its,r,p,_⟩:=I.list hq;exact join_listW p.isList (wc r) h1 h2 λt' k=>⟨.str _,H,I.tok k,⟨t',Z⟩,q⟩
end L2
namespace L2
open PySem PySem.Spec PyProof.Rows PySem.W
structure mW (psc scope:Scope) (p:Str) (frn:List Str):Prop where
 kind:scope.kind= .function
 co:scope.isCoroutine=false
 gen:scope.isGenerator=false
 cell: ∀y∈scope.names,y.2≠ .cell
 par:scope.names.lookup p=some .local
 free: ∀y∈scope.names,y.2= .free->psc.names.lookup y.1=some .cell\/psc.names.lookup y.1=some .free
 nd:(p::frn).Nodup
 frn: ∀x∈frn,scope.names.lookup x=some .free
abbrev xK (X:Cx) (qual:Str) (scope:Scope) (L f c:Addr):Env:=envX qual scope L f (.ref c) (bD scope.names X.env.cells [])
def w6 (X:Cx) (N':List Str) (qual:Str) (scope:Scope) (f c:Addr) (A:Around) (s2:Shared) (H:Hp):Cx :=
 { X with A:=A.deeper (xK X qual scope s2.heap.objs.size f c),N:=N',s₀:=s2,H₀:=H,env:=xK X qual scope s2.heap.objs.size f c,outer:=X.stack,stack:=xK X qual scope s2.heap.objs.size f c::X.stack,ex:=[],fn:=λ_=>false,pn:=[],xe:=λ_ _=>False }
def uo (x:V) (fr:List Nat) (O:St):St:=some x::fr.map λj=>(O[j]?).getD none
section
variable {X:Cx}{QE:mK}{O:St}{H:Hp}{s:Shared}
variable{psc scope:Scope}{frn:List Str}
theorem CZ {p qual:Str}{fr:List Nat}{f c:Addr}{A:Around}{h1:Heap}{tk:Nat}{x:V}{v:Value}(S:mW psc scope p frn) (hp:X.env.scope=psc) (I:Inv X QE O H s) (hA:A.frames=X.A.frames) (hh:A.handled=X.A.handled)
  (hfr:fr.map (λj=>X.N[j]?)=frn.map some) (rx:RelV x v) (hn:h1.Ns s.heap.objs.size (λy=>[(p,v)].reverse.lookup y)) (kp: ∀b o,s.heap.get? b=some o->h1.get? b=some o) :
  Inv (w6 X (p::frn) qual scope f c A s H) [] (uo x fr O) H { s with heap:=h1,toks:=tk }:=by
 have sub: ∀x c,(bD scope.names X.env.cells []).lookup x=some c->X.env.cells.lookup x=some c:=λx c h=>jc (λy d q=>by simp at q) h;have hlen:fr.length=frn.length:=by
  have:=NJ List.length hfr;simpa using this
 exact {
  ok:={
   mod:=I.ok.mod
   kind:=S.kind
   glob:=rfl
   blt:=rfl
   above:=MZ _
   inj:=λx y c h1 h2=>I.ok.inj x y c (sub x c h1) (sub y c h2)
   has:=λx h=>by
    have h':scope.names.lookup x=some .cell\/scope.names.lookup x=some .free:=h;have hf:scope.names.lookup x=some .free:=by
     rcases h' with q | q
     .exact absurd rfl (S.cell _ (iY q))
     .exact q
    have hm:=iY hf;have hk:=S.free _ hm rfl;rw[<-hp] at hk;obtain⟨c,hc⟩:=I.ok.has x hk;exact⟨c,gS (λy d q=>by simp at q) hc (.inl hm)⟩
   cab:=λx c h=>by cases h
   hd:=λh=>hh.trans (I.ok.hd h)
   frames:=Around.frames_deeper (hA.trans I.ok.frames)
   stk:= .inr ⟨Z,Z⟩
   exf:=λb hb=>by cases hb
   bs:=I.bs
   bsz:=Ng I.ok.bsz I.sz
   noex:=λb o e hb=>by cases hb
   exfs:=λb hb q=>by cases hb
   eO:=I.stack
   frf:=I.r9 }
  os:=rfl
  bare:=I.bare
  base:=Un.kept kp
  loc:=by
   show⟨_,hn,λi y w hi hv _=>?_⟩;have hi':(p::frn)[i]?=some y:=hi;have hv':(some x::fr.map λj=>(O[j]?).getD none)[i]?=some (some w):=hv;cases i with
   | zero =>
    have e1:p=y:=Nc hi';have e2:x=w:=Nc (Nc hv');subst e1 e2;exact⟨v,rx,.inl ⟨S.par,by change List.lookup p [(p,v)]=some v; rw[List.lookup_cons_self]⟩⟩
   | succ k =>
    rw[List.getElem?_cons_succ] at hi' hv';rw[M5] at hv';cases hj:fr[k]? with
    | none=>rw[hj] at hv'; cases hv'
    | some j =>
     rw[hj] at hv';have hv2:(O[j]?).getD none=some w:=Nc hv';have hσ:O[j]?=some (some w):=by
      cases e:O[j]? with
      | none=>rw[e] at hv2; cases hv2
      | some z=>rw[e] at hv2; exact NJ some hv2
     have hN:X.N[j]?=some y:=by
      have q:=NJ (λl=>l[k]?) hfr;have q':(fr.map (λj=>X.N[j]?))[k]?=(frn.map some)[k]?:=q;rw[M5,M5,hj,hi'] at q';exact Nc q'
     have hx:y∈frn:=MS hi';have hf:=S.frn y hx;have hm:=iY hf;have hkd:=S.free _ hm rfl;rw[<-hp] at hkd;have hvis:Sg X.env.scope y:=by
      rcases hkd with q | q
      .exact .inr (.inl q)
      .exact .inr (.inr q)
     obtain⟨m0,hn0,hl0⟩:=I.loc;obtain⟨u,ru,hlk⟩:=hl0 j y w hN hσ hvis;show⟨u,ru,?_⟩;have hkd':X.env.kindOf y=some .cell\/X.env.kindOf y=some .free:=hkd;rcases hlk with⟨q,_⟩ | ⟨_,c,hc,hcell⟩
     .rcases hkd' with z | z <;> (rw[q] at z; cases z)
     .exact .inr ⟨.inr hf,c,gS (λy d q=>by simp at q) hc (.inl hm),hcell.keeps kp⟩
  cell:=λx c h=>by
   obtain⟨v,hv⟩:=I.cell x c (sub x c h);exact⟨v,hv.keeps kp⟩
  free:=I.hok.fresh (MZ _)
  freeC:=λx c h=>I.freeC x c (sub x c h)
  pin:=λp hp'=>by cases hp'
  hok:=I.hok.kept kp
  len:=by
   change (some x::fr.map λj=>(O[j]?).getD none).length=(p::frn).length;simp[hlen] }
theorem Fd {p qual name:Str}{fr:List Nat}{f c:Addr}{A:Around}{x:V}{v pm ctv:Value}{params:Arguments}{body:Expr}{te:TE}{Q:VK}(S:mW psc scope p frn) (hp:X.env.scope=psc) (I:Inv X QE O H s)
  (hA:A.frames=X.A.frames) (hh:A.handled=X.A.handled) (hr:A.depth < recursionLimit) (hfr:fr.map (λj=>X.N[j]?)=frn.map some) (rx:RelV x v)
  (ho:s.heap.get? f=some (kla_obj name qual params body scope (bD scope.names X.env.cells []) pm c ctv)) (hcd:s.heap.CodeRec (.ref c) qual)
  (hbind:bindArgs (kla_fn name qual params body scope (bD scope.names X.env.cells []) pm (.ref c) ctv) ⟨[v],[]⟩=pure [(p,v)])
  (hb:PE (w6 X (p::frn) qual scope f c A s H) body te) (q:te (uo x fr O) H Q) :
  wpAny (model X.prog X.w) A (call (.ref f) [v]) (EP X QE O Q) (λ_ _=>False) s:=by
 show Pt (kla_callFunE hr ho rfl S.co S.gen rfl hcd ?_);rw[hbind];show Nj (wpAny_newFunctionEnv S.cell (λy hy=>by rcases MT.mp hy with rfl; exact S.par) (λh₁ hns hsb=>⟨I.nolimit.fresh _ hsb,?_⟩) S.kind);have hk₁: ∀b o,s.heap.get? b=some o->h₁.get? b=some o:=λb o e=>hsb.extBut b o (Nt (Na e)) (MV _ e);have I1:=CZ (qual:=qual) (f:=f) (c:=c) (A:=A) (tk:=s.toks+1) (x:=x) S hp I hA hh hfr rx hns hk₁;show kla_codeExpr (NU (hb [] _ _ H Q I1 q) (λu s' h=>?_) λ_ _ h=>h.elim);obtain⟨w,H',J,r,q'⟩:=h;exact I.after ⟨w,H',J.os,J.bare,J.base,J.hok,r,q'⟩
end
section
variable {X:Cx}{QE:mK}{O:St}{H:Hp}{s:Shared}
variable{b:Addr}
theorem Inv.Gp {o:Obj}(I:Inv X QE O H s) (f:bG X QE H b) (e:s.heap.get? b=some o) (hc: ∀v,o.data≠ .cell v):Inv X (QE++[(b,o)]) O H s :=
 ⟨I.ok,I.os,I.bare,I.base,I.loc,I.cell,I.free,I.freeC,λp hp=>by
  rw[<-NY] at hp;rcases M8.mp hp with hp | hp
  .exact I.pin p hp
  .rcases MT.mp hp with rfl
   exact⟨e,f.1,f.2.1,f.2.2.1,hc⟩,I.hok,I.len⟩
theorem Inv.KC {ps:mK}(I:Inv X (QE++ps) O H s):Inv X QE O H s :=
 ⟨I.ok,I.os,I.bare,I.base,I.loc,I.cell,I.free,I.freeC,λp hp=>I.pin p (by rw[<-NY]; exact NO _ hp),I.hok,I.len⟩
theorem bG.pinned {c:Addr}{o:Obj}(f:bG X QE H b) (h:c≠b):bG X (QE++[(c,o)]) H b:=by
 obtain⟨a1,a2,a3,a4,a5,a6⟩:=f;show⟨a1,a2,a3,a4,a5,λp hp=>?_⟩;rw[<-NY] at hp;rcases M8.mp hp with hp | hp
 .exact a6 p hp
 .rcases MT.mp hp with rfl
  exact h
theorem Inv.changed {h':Heap}{t':Nat}(I:Inv X QE O H s) (f:bG X QE H b) (sb:Heap.SameBut b s.heap h'):Inv X QE O H { s with heap:=h',toks:=t' } :=
 I.turned (λc o hc e=>(sb.2 c hc).trans e) f.1 f.2.1 f.2.2.2.1 f.2.2.2.2.1 f.2.2.2.2.2
end
section
variable {X:Cx}{QE:mK}{O:St}{H:Hp}{s:Shared}{A:Around}{E:nE}{a kS:Addr}{vs:List Value}{kz:List Int}{keys:Array Value}{e e1:Nat}{P:PySem.Fin->Shared->Prop}
theorem zT {st:SortSt}(I:Inv X QE O H s) (fa:bG X QE H a) (fk:bG X QE H kS) (hka:kS≠a) (nk:s.heap.get? kS=some (seqObj "list" keys e)) (na:s.heap.get? a=some (seqObj "list" #[] e1))
  (hk:IntsAre keys.toList kz) (hlen:kz.length=vs.length) (h64:vs.length < 64) (hp:(arrOf st).Perm (keys.zip vs.toArray)) (hs:SortedTo (arrOf st) (arrOf st).size) (hfl:failedOf st=none)
  (h: ∀s' out c,Inv X QE O H s'->s'.heap.get? a=some (seqObj "list" out c)->KskOut false kz vs out.toList->P (.done (.ret .none)) s') :
  wpAny (model X.prog X.w) A (ksk_tail a false e1 (.ref kS) st) P E s:=by
 have hsz:keys.size=vs.length:=by
  have h1:=hk.length;rw[Oi] at h1;lia
 have hsz2:(arrOf st).size=vs.length:=by rw[hp.size_eq,Array.size_zip,hsz,Nb,Nat.min_self]
 have s1:=Pj s.heap kS (Obj.mapSeq λ_=>(#[]:Array Value));have na1:(s.heap.update kS (Obj.mapSeq λ_=>(#[]:Array Value))).get? a=some (seqObj "list" #[] e1):=(s1.2 a hka.symm).trans na;have s2:=Pj (s.heap.update kS (Obj.mapSeq λ_=>(#[]:Array Value))) a (Obj.mapSeq λ_=>(arrOf st).map (·.2));obtain⟨c2,hc2⟩: ∃c2,((s.heap.update kS (Obj.mapSeq λ_=>(#[]:Array Value))).update a (Obj.mapSeq λ_=>(arrOf st).map (·.2))).get? a=some (seqObj "list" ((arrOf st).map (·.2)) c2) :=
  ⟨_,get?_update_seq na1 λ_=>(arrOf st).map (·.2)⟩
 unfold ksk_tail
 try dsimp only
 show MY (listUpdate_at nk rfl ?_ (by rw[hsz,Od]; lia) (NN _));show MY (Qi ?_);show MY (seqEpoch_at na1 rfl ?_);show MY (listUpdate_at na1 rfl ?_ (NN _) (by rw[MP Nd,Array.size_map,hsz2,Od]; lia));rw[hfl];simp only[bne_self_eq_false,Pr,Qz];have I1:Inv X QE O H { s with heap:=s.heap.update kS (Obj.mapSeq λ_=>(#[]:Array Value)) }:=I.changed (t':=s.toks) fk s1;have I2:=I1.changed (t':=s.toks) fa s2;have hout:=ksk_out (b:=false) hk hp hs;simp only[Pr,Qz] at hout;exact Nj (h _ _ c2 I2 hc2 hout)
theorem Ic (I:Inv X QE O H s) (fa:bG X QE H a) (fk:bG X QE H kS) (hka:kS≠a) (nk:s.heap.get? kS=some (seqObj "list" keys e)) (na:s.heap.get? a=some (seqObj "list" #[] e1))
  (hk:IntsAre keys.toList kz) (hlen:kz.length=vs.length) (h64:vs.length < 64)
  (h: ∀s' out c,Inv X QE O H s'->s'.heap.get? a=some (seqObj "list" out c)->KskOut false kz vs out.toList->P (.done (.ret .none)) s') :
  wpAny (model X.prog X.w) A (ksk_end a false vs.toArray e1 (.ref kS) keys) P E s:=by
 have hsz:keys.size=vs.length:=by
  have h1:=hk.length;rw[Oi] at h1;lia
 have hzs:(keys.zip vs.toArray).size=vs.length:=by rw[Array.size_zip,hsz,Nb,Nat.min_self]
 unfold ksk_end;simp only[Pr,Qz]
 try dsimp only
 by_cases h2:vs.toArray.size < 2
 .rw[MU h2,MU h2];show MY (Nj ?_);rw[StateT.run_pure];show MY (Nj ?_)
  try dsimp only
  show zT (st:=SortSt.mk' general' (keys.zip vs.toArray) #[] 7 none) I fa fk hka nk na hk hlen h64 (Array.Perm.refl _) ?_ rfl h;intro i j hij hj;have hj2:j < (keys.zip vs.toArray).size:=hj;rw[hzs] at hj2;rw[Nb] at h2;have:i=j:=Y;subst this;exact Np _
 .rw[MP h2,MP h2];rw[Nb] at h2;rw[ksk_kind hk (by rw[hsz]; lia)];show MY (Nj ?_);show MY (NU (wpS_sortRuns (a₀:=keys.zip vs.toArray) (st:=SortSt.mk' oneType' (keys.zip vs.toArray) #[] 7 none)
   (Q:=λ_ st'=>(arrOf st').Perm (keys.zip vs.toArray)/\failedOf st'=none/\SortedTo (arrOf st') (keys.zip vs.toArray).size)
   (ksk_intKeys hk) ⟨Array.Perm.refl _,Z,Z,Z⟩ (by rw[hzs]; lia) (by rw[hzs]; exact h64) λst' a1 a2 a3=>⟨a1,a2,a3⟩) ?_ λ_ _ e=>e)
  rintro⟨⟨⟩,st'⟩ s' ⟨rfl,hp,hf,hs⟩
  try dsimp only
  exact zT I fa fk hka nk na hk hlen h64 hp (by rw[hp.size_eq]; exact hs) hf h
end
section
variable {X:Cx}{QE:mK}{O:St}{H:Hp}{s:Shared}{A:Around}{E:nE}{a kS:Addr}{vs:List Value}{kz:List Int}{keys:Array Value}{e e1:Nat}{P:PySem.Fin->Shared->Prop}
theorem Gs {f:Value}(I:Inv X QE O H s) (fa:bG X QE H a) (fk:bG X QE H kS) (hka:kS≠a) (nk:s.heap.get? kS=some (seqObj "list" #[] 0)) (na:s.heap.get? a=some (seqObj "list" #[] e1))
  (hlen:kz.length=vs.length) (h64:vs.length < 64)
  (turn: ∀(i:Nat) (v:Value) (k:Int),vs[i]?=some v->kz[i]?=some k-> ∀(ps:mK) (s':Shared),Inv X (QE++ps) O H s' ->
   wpAny (model X.prog X.w) A (call f [v]) (λu s''=>(∃t',u= .int k t')/\Inv X (QE++ps) O H s'') (λ_ _=>False) s')
  (h: ∀s' out c,Inv X QE O H s'->s'.heap.get? a=some (seqObj "list" out c)->KskOut false kz vs out.toList->P (.done (.ret .none)) s') :
  wpAny (model X.prog X.w) A (ksk_rest a f false vs.toArray e1 (.ref kS)) P E s:=by
 unfold ksk_rest;show MY (wpAny_rule ?_)
 first
  | rw[List.forIn_toArray]
  | (rw[<-Array.forIn_toList]; simp only[List.toList_toArray])
  | rw[<-Array.forIn_toList]
 show MY (ksk_fold (λi s'=> ∃kA e,Inv X QE O H s'/\s'.heap.get? kS=some (seqObj "list" kA e)/\s'.heap.get? a=some (seqObj "list" #[] e1)/\IntsAre kA.toList (kz.take i)) vs 0 s
  ⟨#[],0,I,nk,na,by simpa using IntsAre.nil⟩ ?step ?done)
 case step =>
  rintro j x s' hx ⟨kA,e,I',nk',na',hk⟩;simp only[Nat.zero_add] at hk ⊢;have hj:j < vs.length:=(MW.mp hx).1;obtain⟨k,hkj⟩: ∃k,kz[j]?=some k:=⟨_,MQ Y⟩
  have hz:kA.size<=vs.length:=by
   have h1:=hk.length;rw[Oi,Ni] at h1;lia
  have Ip:=(I'.Gp fk nk' (λv z=>nomatch z)).Gp (fa.pinned hka) na' (λv z=>nomatch z);rw[NY] at Ip;show MY (wpAny_attempt (NU (turn j x k hx hkj _ s' Ip) (λv s'' he=>?_) λ_ _ hF=>hF.elim));obtain⟨⟨t2,rfl⟩,I2⟩:=he
  try dsimp only
  have nk2:s''.heap.get? kS=some (seqObj "list" kA e):=(I2.pin (kS,seqObj "list" kA e) (Nn _ (Nn _ (by simp)))).1;have na2:s''.heap.get? a=some (seqObj "list" #[] e1):=(I2.pin (a,seqObj "list" #[] e1) (Nn _ (Nn _ (by simp)))).1;have s1:=Pj s''.heap kS (Obj.mapSeq (·.push (.int k t2)));obtain⟨c2,hc2⟩: ∃c2,(s''.heap.update kS (Obj.mapSeq (·.push (.int k t2)))).get? kS=some (seqObj "list" (kA.push (.int k t2)) c2):=⟨_,get?_update_seq nk2 (·.push (.int k t2))⟩
  have ek:kz.take (j+1)=kz.take j++[k]:=by rw[NF,hkj]; simp
  have ea:(kA.push (Value.int k t2)).toList=kA.toList++[Value.int k t2]:=by simp
  show MY (listUpdate_at nk2 rfl ?_ (by rw[Od]; lia) (Ng (Pc (Array.size_push ..)) (by rw[Od]; lia)));exact Nj ⟨Z,kA.push (.int k t2),c2,I2.KC.changed (t':=s''.toks) fk s1,hc2,(s1.2 a hka.symm).trans na2,by rw[ea,ek]; exact ksk_snoc hk⟩
 case done =>
  rintro s' ⟨kA,e,I',nk',na',hk⟩;have hk':IntsAre kA.toList kz:=by
   have e3:kz.take (0+vs.length)=kz:=N2 Y;rw[e3] at hk;exact hk
  try dsimp only
  show MY (listItems_at nk' rfl ?_);exact Ic I' fa fk hka nk' na' hk' hlen h64 h
theorem GP {f:Value}{n:Nat}(I:Inv X QE O H s) (fa:bG X QE H a) (ho:s.heap.get? a=some (seqObj "list" vs.toArray n)) (hlen:kz.length=vs.length) (h64:vs.length < 64)
  (turn: ∀(i:Nat) (v:Value) (k:Int),vs[i]?=some v->kz[i]?=some k-> ∀(ps:mK) (s':Shared),Inv X (QE++ps) O H s' ->
   wpAny (model X.prog X.w) A (call f [v]) (λu s''=>(∃t',u= .int k t')/\Inv X (QE++ps) O H s'') (λ_ _=>False) s')
  (h: ∀s' out c,Inv X QE O H s'->s'.heap.get? a=some (seqObj "list" out c)->KskOut false kz vs out.toList->P (.done (.ret .none)) s') :
  wpAny (model X.prog X.w) A (ksk_tree a f false) P E s:=by
 have ha:a < s.heap.objs.size:=Na ho;have s1:=Pj s.heap a (Obj.mapSeq λ_=>(#[]:Array Value));obtain⟨e1,ho1⟩: ∃e1,(s.heap.update a (Obj.mapSeq λ_=>(#[]:Array Value))).get? a=some (seqObj "list" #[] e1):=⟨_,get?_update_seq ho λ_=> #[]⟩
 have I1:Inv X QE O H { s with heap:=s.heap.update a (Obj.mapSeq λ_=>(#[]:Array Value)) }:=I.changed (t':=s.toks) fa s1;have hkS:((s.heap.update a (Obj.mapSeq λ_=>(#[]:Array Value))).push (seqObj "tuple" vs.toArray 0)).objs.size=s.heap.objs.size+1:=by rw[size_push',Heap.size_update]
 have I2:Inv X QE O H { s with heap:=((s.heap.update a (Obj.mapSeq λ_=>(#[]:Array Value))).push (seqObj "tuple" vs.toArray 0)) }:=I1.kept (t':=s.toks) λb o q=>MV _ q;have I3:Inv X QE O H { s with heap:=((s.heap.update a (Obj.mapSeq λ_=>(#[]:Array Value))).push (seqObj "tuple" vs.toArray 0)).push (seqObj "list" #[] 0) }:=I2.kept (t':=s.toks) λb o q=>MV _ q;unfold ksk_tree;show MY (listItems_at ho rfl ?_);show MY (listUpdate_at ho rfl ?_ (by rw[Nb,Od]; lia) (NN _));show MY (seqEpoch_at ho1 rfl ?_);show MY (wpAny_newTuple ?_ (by change vs.length<=_; rw[Od]; lia));show MY (wpAny_newList ?_ (NN _));show Om ?_;exact Gs (s:={ s with heap:=((s.heap.update a (Obj.mapSeq λ_=>(#[]:Array Value))).push (seqObj "tuple" vs.toArray 0)).push (seqObj "list" #[] 0) }) (kS:=((s.heap.update a (Obj.mapSeq λ_=>(#[]:Array Value))).push (seqObj "tuple" vs.toArray 0)).objs.size)
  I3 fa (I2.gO (MZ _) (I2.hok.fresh (MZ _))) (by rw[hkS]; exact Pp (OT ha)) (Nq _ rfl) (MV _ (MV _ ho1)) hlen h64 turn h
theorem wH {r:Addr}{lo hi:Int}{t u v:Tok}{n:Nat}{Q:List Value->Shared->Prop}(hh:A.handled=none) (hr:IsRange s.heap r lo hi 1 t u v) (hsmall:Builtin.Range.small lo hi 1=true) (hn:Builtin.Range.rangeSize lo hi 1=n) (hlen:n<=2 ^ 24)
  (h: ∀h' tk acc,(∀b o,s.heap.get? b=some o->h'.get? b=some o)->ItemsOf (λi v=> ∃t,v= .int (lo+i*1) t) acc n->Q acc.toList { s with heap:=h',toks:=tk }):wpAny (model X.prog X.w) A (collect (.ref r)) Q E s:=by
 have key: ∀R:Result->Shared->Prop,(∀h' tk acc' c',(∀b o,s.heap.get? b=some o->h'.get? b=some o)->h'.get? s.heap.objs.size=some { cls:= .type "list",dict:=none,data:= .seq acc' c',slots:= #[] } ->
   ItemsOf (λi v=> ∃t,v= .int (lo+i*1) t) acc' n->R (.ok (.ret (.ref s.heap.objs.size))) { s with heap:=h',toks:=tk })->codeAny (model X.prog X.w) A (.builtin "proto.collect" ⟨[.ref r],[]⟩) R s:=by
  intro R hR;show P9 F.entry_proto_collect ?_;rw[Around.under_plainId F.plain_proto_collect _];change wpAny _ A.in1 (newList [] >>= λl=>again (.builtin "list.__iadd__" ⟨[l,.ref r],[]⟩)) _ _ s;show MY (PF ?_);show Nj ⟨plainId_quiet F.plain_list_iadd _,P9 F.entry_list_iadd ?_⟩;rw[Around.under_plainId F.plain_list_iadd _];have hS:(s.heap.push { cls:= .type "list",data:= .seq ([]:List Value).toArray }).get? s.heap.objs.size=some { cls:= .type "list",data:= .seq ([]:List Value).toArray }:=Nq _ rfl;change wpAny _ A.in1 (Builtin.List.listExtendWith (.ref s.heap.objs.size) (.ref r) (.ref s.heap.objs.size)) _ _ _;exact wpAny_extend_range (s:={ s with heap:=s.heap.push { cls:= .type "list",data:= .seq ([]:List Value).toArray } }) hh (MV _ hr) hsmall hn hlen s.heap.objs.size (.ref s.heap.objs.size) _ hS λh' tk acc' c' hk hS' hacc =>
   hR h' tk acc' c' (λb o e=>hk b o (Nt (Na e)) (MV _ e)) hS' hacc
 unfold collect;show MY (wpAny_runValue (key _ λh' tk acc' c' hk hS' hacc=>?_));change wpAny _ A (load s.heap.objs.size >>= _) _ _ _;exact MY (wpAny_load hS' (Nj (h h' tk acc' hk hacc)))
end
def BM (mg:oR) (base:Heap):Prop:= ∃Pl,base.BuiltinsAt mg Pl
variable{X:Cx}
theorem nY:du X (.type "range") (λxs H Q=> ∃j:Int,xs=[.int j]/\ ∀p,H p=none->Q (.ref p) (upd H p (.Q1 0 j))):=by
 intro QE s O H xs us Q I r h;obtain⟨j,rfl,q⟩:=h;obtain⟨u,rfl,t,rfl⟩:=r.one;show call_range_1 ⟨.ref _,_,I.laid (a:=s.heap.objs.size) (o:= .Q1 0 j) (λb o e=>MV _ e) (MZ _) ?_,Z,q _ I.fresh⟩;exact⟨_,_,_,Nq _ rfl⟩
def uB (name qual:Str) (params:Arguments) (body:Expr) (scope:Scope) (clos:List (Str×Addr)) (f c:Addr):HO:= .ext λh=> ∃pm ctv,h.get? f=some (kla_obj name qual params body scope clos pm c ctv)
def rz (qual:Str) (c:Addr):HO:= .ext λh=>h.CodeRec (.ref c) qual
def lH (H:Hp) (P:Addr) (ps:Array Value) (pos:Pos) (qual:Str) (params:Arguments) (body:Expr) (scope:Scope) (clos:List (Str×Addr)) (f c:Addr):Hp :=
 upd (upd (upd H P (.tbl (ps++ #[rawInt pos.line,rawInt pos.col,.ref c]))) c (rz qual c)) f (uB "<lambda>" qual params body scope clos f c)
def LJ (X:Cx) (P:Addr) (params:Arguments) (body:Expr) (scope:Scope) (pos:Pos):TE:=λO H Q=> ∃ps:Array Value,H P=some (.tbl ps)/\TriplesOk ps.toList/\codeAmong pos ps.toList=none /\
 ∀c f,H c=none->H f=none->c≠f->c≠P->f≠P->Q (.ref f) (lH H P ps pos (X.env.qual++ "<lambda>") params body scope (bD scope.names X.env.cells []) f c)
theorem Heap.CodeRec.jk {h h':Heap}{c:Addr}{q:Str}(x:h.CodeRec (.ref c) q) (k: ∀o,h.get? c=some o->h'.get? c=some o):h'.CodeRec (.ref c) q:=by
 obtain⟨c',o,vs,t,e,ho,hd,hv⟩:=x;cases e;exact⟨c,o,vs,t,Z,k o ho,hd,hv⟩
variable{P:Addr}
theorem xU {psc scope:Scope}{p:Str}{frn:List Str}{c0:Addr}{params:Arguments}{body:Expr}{pos:Pos}(B:BM X.mg X.base) (S:mW psc scope p frn) (hp:X.env.scope=psc) (hc0:X.env.code= .ref c0) (hC:codeHdIn X.K c0 P=true)
  (hdf:defaultsOf params X.env=([],[]):=by rfl):PE X (.Lambda params body scope pos) (LJ X P params body scope pos):=by
 intro QE s O H Q I h;obtain⟨ps,hP,ht,hnf,q⟩:=h;have hP':s.heap.get? P=some (tabObj ps):=I.hok P _ hP;ext:12;have nb: ∀b o,X.base.get? b=some o->b≠P:=λb o e z=>by
  have:=(I.bs b o e).2;rw[z,hP] at this;cases this
 have hgP:mainGlobals≠P:=by
  obtain⟨o,es,ep,e,_⟩:=I.mod.glob;exact nb _ _ e
 obtain⟨Pl,bm,ob,b1,b2,b3,b4,b5,b6⟩:=B;show kla_eval hdf (kla_makeFunction (mg:=X.mg) hclos I.ok.glob (I.mod.glob.keeps I.bk) hc0 (codeHd_of_K I.Rh hC) hP' ht hnf hgP ⟨bm,ob,b1,b2,b3,nb _ _ b5,I.bk _ _ b5,b6⟩ λc' ctv h' tk hx hge hlt hrec htb=>?_);have hPs:P < s.heap.objs.size:=Na hP';have hsz:s.heap.objs.size<=h'.objs.size:=Nw (Oc hge hlt);have ncP:c'≠P:=λz=>absurd hPs (by rw[<-z]; exact OI.mpr hge);have nfP:h'.objs.size≠P:=λz=>absurd hPs (by rw[<-z]; exact OI.mpr hsz);have ncf:c'≠h'.objs.size:=Nt hlt;have Hc:H c'=none:=I.hok.fresh hge;have Hf:H h'.objs.size=none:=I.hok.fresh hsz;generalize hob:kla_obj "<lambda>" (X.env.qual++ "<lambda>") params body scope (bD scope.names X.env.cells []) ((X.mg "__name__").getD .none) c' ctv=obj;have kp: ∀b o,b≠P->s.heap.get? b=some o->(h'.push obj).get? b=some o:=λb o hb e=>MV _ (hx b o hb e);have hPF:(h'.push obj).get? P=some (tabObj (ps++ #[rawInt pos.line,rawInt pos.col,.ref c'])):=MV _ htb;have hfF:(h'.push obj).get? h'.objs.size=some obj:=Nq _ (by rw[<-hob]; rfl);have old: ∀b u,H b=some u->b≠c'/\b≠h'.objs.size:=λb u e=>⟨av e Hc,av e Hf⟩
 have LH: ∀b,lH H P ps pos (X.env.qual++ "<lambda>") params body scope (bD scope.names X.env.cells []) h'.objs.size c' b=if b=h'.objs.size then some (uB "<lambda>" (X.env.qual++ "<lambda>") params body scope (bD scope.names X.env.cells []) h'.objs.size c') else if b=c' then some (rz (X.env.qual++ "<lambda>") c') else if b=P then some (.tbl (ps++ #[rawInt pos.line,rawInt pos.col,.ref c'])) else H b:=λb=>rfl;have LHo: ∀b u,H b=some u->b≠P->lH H P ps pos (X.env.qual++ "<lambda>") params body scope (bD scope.names X.env.cells []) h'.objs.size c' b=some u:=λb u e hb=>by
  rw[LH,MP (old b u e).2,MP (old b u e).1,MP hb];exact e
 have LHP:lH H P ps pos (X.env.qual++ "<lambda>") params body scope (bD scope.names X.env.cells []) h'.objs.size c' P=some (.tbl (ps++ #[rawInt pos.line,rawInt pos.col,.ref c'])):=by
  rw[LH,MP (Nu nfP),MP (Nu ncP),MU rfl]
 have young: ∀b o,s.heap.get? b=some o->b≠c'/\b≠h'.objs.size:=λb o e=>⟨Nt (NB (Na e) hge),Nt (NB (Na e) hsz)⟩
 have un:Un X.fs [] H (lH H P ps pos (X.env.qual++ "<lambda>") params body scope (bD scope.names X.env.cells []) h'.objs.size c') s.heap (h'.push obj):={
  keep:=λb o e n _ _=>kp b o (λz=>by rw[z,hP] at n; cases n) e
  slot:=λb o e n _ _=>⟨o.slots,kp b o (λz=>by rw[z,hP] at n; cases n) e⟩
  free:=λb o e n _=>by
   rw[LH,MP (young b o e).2,MP (young b o e).1,MP (λz=>by rw[z,hP] at n; cases n)];exact n
  there:=λb o e _=>by
   by_cases hb:b=P;.exact⟨_,hb▸hPF⟩
   .exact⟨o,kp b o hb e⟩
  tups:=λb xs e=>LHo b _ e λz=>by rw[z,hP] at e; cases e
  frzs:=λb o u e=>LHo b _ e λz=>by rw[z,hP] at e; cases e
  tbls:=λb qs e=>by
   by_cases hb:b=P
   .subst hb;rw[hP] at e;cases e;exact⟨_,LHP⟩
   .exact⟨#[],by rw[LHo b _ e hb]; simp⟩ }
 have hok:QW X.prog X.w (lH H P ps pos (X.env.qual++ "<lambda>") params body scope (bD scope.names X.env.cells []) h'.objs.size c') (h'.push obj):=λb u e=>by
  rw[LH] at e;by_cases h1:b=h'.objs.size
  .rw[MU h1] at e;cases e;subst h1;show⟨⟨_,_,by rw[hob]; exact hfF⟩,⟨_,hfF⟩,λh1 h2 ⟨pm,ct,z⟩ k=>⟨pm,ct,k _ z⟩⟩
  .rw[MP h1] at e;by_cases h2:b=c'
   .rw[MU h2] at e;cases e;subst h2;obtain⟨c2,oc,vs,t,ec,hoc,hd,hv⟩:=id hrec;cases ec;exact⟨Heap.CodeRec.jk hrec λo z=>MV _ z,⟨oc,MV _ hoc⟩,λh1 h2 z k=>Heap.CodeRec.jk z k⟩
   .rw[MP h2] at e;by_cases h3:b=P
    .rw[MU h3] at e;cases e;subst h3;exact hPF
    .rw[MP h3] at e;show (I.hok b u e).jk (λd w hd z=>kp d w (λy=>?_) z) (λd z=>LHo d _ z λy=>by rw[y,hP] at z; cases z) λd xs z=>LHo d _ z λy=>by rw[y,hP] at z; cases z
     rcases hd with hd | hd
     .exact h3 (hd.symm.trans y)
     .rw[y,hP] at hd;cases hd
 exact⟨.ref h'.objs.size,_,I.un (t':=tk) un hok,Z,q c' h'.objs.size Hc Hf ncf ncP nfP⟩
def zS (acc:List Value) (n:Nat):Prop:=acc.length=n/\ ∀(i:Nat) (v:Value),acc[i]?=some v-> ∃t,v=Value.int (i:Nat) t
def fh (n:Nat) (key:Nat->Int) (out:List Nat):Prop:=out.Perm (List.range n)/\out.Pairwise λi j=>key i<=key j
variable{vs:List Value}
theorem sorted_out {n:Nat}{key:Nat->Int}{out:List Value}(hv:zS vs n) (h:KskOut false ((List.range n).map key) vs out): ∃is:List Nat,fh n key is/\Vals (is.map λi=>V.int (i:Nat)) out:=by
 obtain⟨ps,hp,rfl,hs⟩:=h;have hmem: ∀p∈ps,∃i,i < n/\p.1=key i/\ ∃t,p.2= .int (i:Nat) t:=by
  intro p hp';have:=hp.mem_iff.mp hp';obtain⟨i,hi,e⟩:=N0.mp this;have hi':i < n:=by
   rw[List.length_zip,MO,NK] at hi;lia
  rw[List.getElem_zip] at e;show⟨i,hi',?_,?_⟩
  .rw[<-e];simp
  .obtain⟨t,ht⟩:=hv.2 i (vs[i]'(by rw[hv.1]; exact hi')) (MQ _);exact⟨t,by rw[<-e]; exact ht⟩
 let num:Int×Value->Nat:=λp=>match p.2 with | .int i _=>i.toNat | _=>0
 show⟨ps.map num,⟨?_,?_⟩,?_⟩
 .have e:(((List.range n).map key).zip vs).map num=List.range n:=by
   show PM (by simp[hv.1]) λi h1 h2=>?_;rw[OF,List.getElem_zip];have hi:i < n:=(by simpa using h2);obtain⟨t,ht⟩:=hv.2 i (vs[i]'(by rw[hv.1]; exact hi)) (MQ _);simp only[num,ht,Qk];simp
  rw[<-e];exact hp.map num
 .rw[Qr];show hs.imp_of_mem λ{a b} ha hb hab=>?_;obtain⟨i,_,e1,t,e2⟩:=hmem a ha;obtain⟨j,_,e3,u,e4⟩:=hmem b hb;simp only[Pr,Qz] at hab;rw[e1,e3] at hab;have n1:num a=i:=by simp[num,e2]
  have n2:num b=j:=by simp[num,e4]
  rw[n1,n2];exact hab
 .clear hs hp;induction ps with
  | nil=>exact .nil
  | cons p r ih =>
   obtain⟨i,_,_,t,e⟩:=hmem p M7;show .cons ?_ (ih λz hz=>hmem z (M4 _ hz));have n1:num p=i:=(by simp[num,e]);rw[n1,e];exact⟨t,Z⟩
theorem Inv.Br {QE:mK}{O:St}{H:Hp}{s:Shared}{a:Addr}{o:HO}(I:Inv X QE O H s) (f:bG X QE H a) (new:cW X.prog X.w (upd H a o) s.heap a o):Inv X QE O (upd H a o) s:=by
 obtain⟨f0,f1,f2,f3,f4,f5⟩:=f;have ne: ∀b u,H b=some u->b≠a:=λb u e=>av e f0;show⟨I.ok,I.os,I.bare,⟨I.base.keep,I.base.slot,λb ob e n hx=>?_,I.base.there,λb xs e=>?_,λb ob u e=>?_,λb ps e=>?_⟩,I.loc,I.cell,?_,λx c e=>?_,λp hp=>?_,λb u e=>?_,I.len⟩
 .rw[ah λz=>?_];.exact I.base.free b ob e n hx
  .rcases f3 with h | h
   .exact hx (z▸h)
   .exact absurd (Na e) (OI.mpr (by rw[z]; exact h))
 .have:=I.base.tups b xs e;rw[ah (ne b _ this)];exact this
 .have:=I.base.frzs b ob u e;rw[ah (ne b _ this)];exact this
 .obtain⟨m,this⟩:=I.base.tbls b ps e;exact⟨m,by rw[ah (ne b _ this)]; exact this⟩
 .rw[ah (Nu f1)];exact I.free
 .rw[ah (f4 x c e)];exact I.freeC x c e
 .obtain⟨a1,a2,a3,a4,a5⟩:=I.pin p hp;exact⟨a1,by rw[ah (f5 p hp)]; exact a2,a3,a4,a5⟩
 .by_cases hb:b=a
  .subst hb;rw[aa] at e;cases e;exact new
  .rw[ah hb] at e;exact (I.hok b u e).jk (λ_ _ _ z=>z) (λc z=>by rw[ah (ne c _ z)]; exact z) λc xs z=>by rw[ah (ne c _ z)]; exact z
section
variable {X:Cx}
def HQ (X:Cx) (te:TE) (tf:TE) (tb:Addr->Addr->Around->Shared->Hp->TE) (psc scope:Scope) (p:Str) (frn:List Str) (fr:List Nat) (params:Arguments) (body:Expr):TE:=λO H Q =>
 te O H λv H1=> ∃r n,v= .ref r/\H1 r=some (.Q1 0 (n:Nat))/\n < 64/\tf O H1 λw H2=>H2 r=some (.Q1 0 (n:Nat))/\ ∃(f c:Addr) (key:Nat->Int),w= .ref f /\
  H2 f=some (uB "<lambda>" (X.env.qual++ "<lambda>") params body scope (bD scope.names X.env.cells []) f c)/\H2 c=some (rz (X.env.qual++ "<lambda>") c) /\
  (∀i,i < n-> ∀A s',tb f c A s' H2 (uo (.int (i:Nat)) fr O) H2 λz H3=>z= .int (key i)/\H3=H2) /\
  ∀D is,H2 D=none->fh n key is->Q (.ref D) (upd H2 D (.lst (is.map λi=>V.int (i:Nat))))
variable{scope:Scope}{params:Arguments}{body:Expr}{tb:Addr->Addr->Around->Shared->Hp->TE}
theorem zc {psc:Scope}{p:Str}{frn:List Str}{fr:List Nat}{QE:mK}{O:St}{H:Hp}{s:Shared}{r f c:Addr}{n:Nat}{key:Nat->Int}{Q:VK} (S:mW psc scope p frn) (hp:X.env.scope=psc) (hc:X.calm=true) (hd:X.A.depth+10 < recursionLimit) (hfr:fr.map (λj=>X.N[j]?)=frn.map some)
  (hbind: ∀(qual:Str) (clos:List (Str×Addr)) (pm cd ct u:Value),bindArgs (kla_fn "<lambda>" qual params body scope clos pm cd ct) ⟨[u],[]⟩=pure [(p,u)])
  (hb: ∀f c A s' H',PE (w6 X (p::frn) (X.env.qual++ "<lambda>") scope f c A s' H') body (tb f c A s' H'))
  (I:Inv X QE O H s) (hr:H r=some (.Q1 0 (n:Nat))) (hn:n < 64) (hf:H f=some (uB "<lambda>" (X.env.qual++ "<lambda>") params body scope (bD scope.names X.env.cells []) f c)) (hC:H c=some (rz (X.env.qual++ "<lambda>") c))
  (hk: ∀i,i < n-> ∀A s',tb f c A s' H (uo (.int (i:Nat)) fr O) H λz H3=>z= .int (key i)/\H3=H)
  (q: ∀D is,H D=none->fh n key is->Q (.ref D) (upd H D (.lst (is.map λi=>V.int (i:Nat))))) :
  wpAny (model X.prog X.w) X.A (call (.builtin "sorted") [.ref r] [(Str.ofString "key",.ref f)]) (EP X QE O Q) X.xe s:=by
 obtain⟨t,u,v,hR⟩:=I.hok r _ hr;show call_function_entry_kw kind_sorted plain_sorted entry_sorted (ksk_s1 _ _) ?_;unfold Builtin.«sorted»;show MY (m:=checkCount "sorted" 1 1 _) (Nj ?_);have hsz:Builtin.Range.rangeSize 0 (n:Nat) 1=(n:Nat):=by
  rw[rangeSize_pos aS Y];simp
 show MY (wH (X:=X) (A:=X.A.in1) (I.ok.hd hc) hR (small_one aS aS Y Y) hsz Y λh1 tk acc k1 hacc=>?_);have hv:zS acc.toList n:=⟨by rw[Oi]; exact hacc.1,λi v e=>by
  obtain⟨t,e2⟩:=hacc.2 i v (by simpa using e);exact⟨t,by rw[e2]; simp⟩⟩
 have I1:Inv X QE O H { s with heap:=h1,toks:=tk }:=I.kept k1;show MY (wpAny_newList ?_ (by rw[Od,hv.1]; lia));have I2:Inv X QE O H { s with heap:=h1.push (seqObj "list" acc.toList.toArray 0),toks:=tk }:=I1.kept (t':=tk) λb o e=>MV _ e;have hoL:(h1.push (seqObj "list" acc.toList.toArray 0)).get? h1.objs.size=some (seqObj "list" acc.toList.toArray 0):=Nq _ rfl;have fa:bG X QE H h1.objs.size:=I1.gO (MZ _) (I1.hok.fresh (MZ _));show MY (Om (wpAny_call_entry_kw slot_list_sort ⟨_,hoL,Z⟩ entry_list_sort ?body (ksk_l1 _ _)))
 case body =>
  change wpAny (model X.prog X.w) X.A.in1.in1 (Builtin.«list.sort» ⟨[.ref h1.objs.size],[(Str.ofString "key",.ref f)]⟩) _ _ _;rw[ksk_t1];show GP (s:={ s with heap:=h1.push (seqObj "list" acc.toList.toArray 0),toks:=tk }) (kz:=(List.range n).map key) I2 fa hoL (by rw[MO,NK,hv.1]) (by rw[hv.1]; exact hn) ?turn λs' out c I' ho' k'=>⟨_,Z,?_⟩
  case turn =>
   intro i v k hi hki ps s' I';have hin:i < n:=by
    have:=(MW.mp hi).1;rw[hv.1] at this;exact this
   obtain⟨t',rfl⟩:=hv.2 i v hi;have ek:k=key i:=by
    rw[M5,Pk hin] at hki;exact (Nc hki).symm
   subst ek;obtain⟨⟨pm,ctv,ho⟩,_⟩:=I'.hok f _ hf;obtain⟨hcr,_⟩:=I'.hok c _ hC;show NU (Fd (A:=X.A.in1.in1) (x:= .int (i:Nat)) S hp I' rfl rfl (by change X.A.depth < recursionLimit; lia) hfr ⟨t',Z⟩ ho hcr (hbind _ _ _ _ _ _) (hb f c _ s' H) (hk i hin _ s')) (λu s'' z=>?_) λ_ _ z=>z;obtain⟨w,H',J,rw',rfl,rfl⟩:=z;exact⟨rw',J⟩
  obtain⟨is,hs,hV⟩:=sorted_out hv k';have hl:(is.map λi=>V.int (i:Nat)).length<=sizeLine:=by
   rw[MO,hs.1.length_eq,NK,Od];lia
  exact Nj ⟨_,Z,.ref h1.objs.size,_,I'.Br (o:= .lst (is.map λi=>V.int (i:Nat))) fa ⟨hl,out.toList,c,hV,ho'⟩,Z,q h1.objs.size is fa.1 hs⟩
theorem pj {psc:Scope}{p:Str}{frn:List Str}{fr:List Nat}{e:Expr}{te tf:TE}{np pos kpos lpos:Pos} (S:mW psc scope p frn) (hp:X.env.scope=psc) (hc:X.calm=true) (hd:X.A.depth+10 < recursionLimit) (hfr:fr.map (λj=>X.N[j]?)=frn.map some)
  (hbind: ∀(qual:Str) (clos:List (Str×Addr)) (pm cd ct u:Value),bindArgs (kla_fn "<lambda>" qual params body scope clos pm cd ct) ⟨[u],[]⟩=pure [(p,u)])
  (hg:Gl X "sorted") (hm:X.mg "sorted" = none) (he:PE X e te) (hf:PE X (.Lambda params body scope lpos) tf)
  (hb: ∀f c A s' H',PE (w6 X (p::frn) (X.env.qual++ "<lambda>") scope f c A s' H') body (tb f c A s' H'))
  (hst:isStar e=false:=by rfl) :
  PE X (.Call (.Name "sorted" np) [e] [⟨some "key",.Lambda params body scope lpos,kpos⟩] pos) (HQ X te tf tb psc scope p frn fr params body):=by
 intro QE s O H Q I h;show Ow (kU I hg hm boot_sorted ?_);have e1:backTo pos (starEach [e] X.env)=(false,eval e X.env)::backTo pos (starEach [] X.env):=by rw[lF hst]; rfl
 show callWith_kw ?_ e1 (by rw[e1]; rfl);generalize hR:(λ(v:V) (H1:Hp)=> ∃r n,v= .ref r/\H1 r=some (.Q1 0 (n:Nat))/\n < 64/\tf O H1 λw H2=>H2 r=some (.Q1 0 (n:Nat))/\ ∃(f c:Addr) (key:Nat->Int),w= .ref f /\
  H2 f=some (uB "<lambda>" (X.env.qual++ "<lambda>") params body scope (bD scope.names X.env.cells []) f c)/\H2 c=some (rz (X.env.qual++ "<lambda>") c) /\
  (∀i,i < n-> ∀A s',tb f c A s' H2 (uo (.int (i:Nat)) fr O) H2 λz H3=>z= .int (key i)/\H3=H2) /\
  ∀D is,H2 D=none->fh n key is->Q (.ref D) (upd H2 D (.lst (is.map λi=>V.int (i:Nat)))))=REST
 have h':te O H REST:=by rw[<-hR]; exact h
 have hA:=aq he (cP (X:=X)) hst pos QE s O H (λvs H1=>match vs with | [v]=>REST v H1 | _=>False) I h';show QL hA λus s1 ⟨vs,H1,I1,r1,q1⟩=>?_;cases r1 with
 | nil=>exact q1.elim
 | cons r2 r3 =>
  cases r3 with
  | cons _ _=>exact q1.elim
  | nil =>
   have q1':REST _ H1:=q1;rw[<-hR] at q1';obtain⟨r,n,rfl,hr,hn,q2⟩:=q1';cases r2;change wpAny _ _ (evalAll ((do let v <-eval (.Lambda params body scope lpos) X.env; standAt pos; pure v)::(backToKw pos (keywordEach [] X.env)).map (·.2))) _ _ s1;show wpAny_evalAll_cons (MY (QL (hf QE s1 O H1 _ I1 q2) λu s2 ⟨w,H2,I2,rw2,q3⟩=>MY (OD (Nj ?_))));obtain⟨hr2,f,c,key,rfl,hf2,hc2,hk,q4⟩:=q3;cases rw2;show wpAny_evalAll_nil ?_;exact zc S hp hc hd hfr hbind hb I2 hr2 hn hf2 hc2 hk q4
end
def RU (K:Frag) (mg:oR) (x:Str) (st:Stmt) (c P:Addr):Prop:= ∃f fd,mg x=some (.ref f)/\RY K x x st f fd/\fd.code= .ref c/\codeHdIn K c P=true
variable{K:Frag}{mg:oR}{st:Stmt}
theorem CB {h:Heap}{x:Str}{f c:Addr}{oc:Value}{od an:Option Addr}{osl:Array (Option Value)}{kV doc pm ct:Value}(X:K.In h) (G:h.Ns mainGlobals mg) (a:nsIn K mainGlobals x=some (some (.ref f)))
  (l:K.lookup f=some ⟨oc,od,.func (fnOf x x (cU st) (bN st) (aj st) .none kV doc pm an (.ref c) ct),osl⟩) (hc:codeIn K (.ref c) x=true) (k:keepIn K (.ref f)=true) (t:codeHdIn K c P=true):RU K mg x st c P :=
 ⟨f,_,mg_of X G a,xF (st:=st) l hc k,Z,t⟩
variable{w:World}{sp:Sp}
theorem Ad {P:Program}{base:Heap}{x:Str}{N ps:List Str}{k:Nat}{c0 P0:Addr}(h:RU K mg x st c0 P0) (S:ax N ps (aj st))
  (hb: ∀(kV doc pm:Value) (an:Option Addr) (cdv ct:Value) (us:List Value),us.length=ps.length->bindArgs (fnOf x x (cU st) (bN st) (aj st) .none kV doc pm an cdv ct) ⟨us,[]⟩=pure (ps.zip us))
  (len: ∀vs H Q E,sp vs H Q E->vs.length=ps.length)
  (hbody: ∀(f:Addr) (A:Around) (outer:List Env) (s:Shared) (H:Hp) (vs:List V) (Q:VK) (E:XK),codeHdIn K c0 P0=true->bC k (A.deeper (envOfC x (aj st) s.heap.objs.size f (.ref c0)))->sp vs H Q E ->
   ∃t,Q0 (fW Rc P w K mg base N x (aj st) f (.ref c0) A outer s H E).RM (bN st) t/\t { nx:=λ_ H'=>Q .non H',rt:=Q } (start N vs) H):QS P w K mg base (k+1) x ps sp:=by
 obtain⟨f,fd,hm,F,hcd,hC⟩:=h;obtain⟨oc,od,kV,doc,pm,an,cdv,ct,osl,rfl,lk,hc⟩:=id F.ex;cases hcd;show⟨f,_,hm,⟨oc,od,osl,lk⟩,F.kp,F.binds hb,?_⟩;show wY lk hc S len λA outer s H vs Q E hr hsp=>?_;obtain⟨t,h,q⟩:=hbody f A outer s H vs Q E hC hr hsp;exact⟨t,h.RM,q⟩
theorem BW {P:Program}{mb:oR}{CX:Rk}{k:Nat}{fa a:Addr}{fd:FuncData}{x:Str}{s₁:Shared}{ns:List Int}{ts:List Addr} (KX:K.In s₁.heap) (hns:s₁.heap.Ns mainGlobals mg) (hb:s₁.heap.Ns builtinsNs mb) (hbb: ∀x:Str,x≠ "__name__" -> mb x=bootBuiltins x) (hlim:s₁.heap.NoLimit) (hg:s₁.gens= #[])
  (hbm:BM mg s₁.heap) (hts: ∀T∈ts,s₁.heap.get? T=some (tabObj #[])) (hnt:noTabs K=true) (hcs: ∀T∈ts,∃c,codeHdIn K c T=true)
  (ha:s₁.heap.get? a=some { cls:= .type "list",data:= .seq vs.toArray }) (hi:IntsAre vs ns) (hl:ns.length<=sizeLine) (hr:bC k callerA)
  (F: ∀base:Heap,K.In base->base.Ns mainGlobals mg->BM mg base->dC P w K mg base CX k fa fd [x] sp) (hbind: ∀(s:Shared) (u:Value),BindsTo s fd ⟨[u],[]⟩ [(x,u)])
  (hsp: ∀H:Hp,(∀T∈ts,H T=some (.tbl #[]))->QF K H a (ns.map V.int)->sp [.ref a] H (λv _=>v= .bl true) λ_ _ _=>False)
  (hCX: ∀H e s',CX [] H s₁ (λ_ _ _=>False) e s'->False) :
  codeAny (model P w) callerA (.call (.ref fa) ⟨[.ref a],[]⟩) (λr s'=>r= .ok (.ret (.bool true))/\OldK s₁.heap s'.heap/\s'.os=s₁.os/\AllBare s'.gens) s₁:=by
 have rv:=qI hi;have lenV:=hi.length;have nat: ∀T∈ts,T≠a:=λT hT z=>by
  have:=hts T hT;rw[z,ha] at this;cases this
 have ntab: ∀b o,K.lookup b=some o->b∉ts:=λb o e hT=>by
  have h2:=Oq.mp hnt (b,o) (mem_of_lookupK e);have e2:=(hts b hT).symm.trans (KX b o e);cases e2;exact absurd (show false=true from h2) Nd
 have core: ∀H:Hp,(∀T∈ts,H T=some (.tbl #[]))->(∀b,b∉ts->H b=none\/ ∃o xs,H b=some (.frz o (.lst xs)))->QF K H a (ns.map V.int)->QW P w H s₁.heap->(∀b,H b≠none->b=a\/b∈ts)->(H a≠none->K.lookup a=none) ->
   codeAny (model P w) callerA (.call (.ref fa) ⟨[.ref a],[]⟩) (λr s'=>r= .ok (.ret (.bool true))/\OldK s₁.heap s'.heap/\s'.os=s₁.os/\AllBare s'.gens) s₁:=by
  intro H hT hO hS hok hA hK;have base_of: ∀ {b:Addr}{o:Obj},s₁.heap.get? b=some o->H b=none->(iT s₁.heap H).get? b=some o:=λe n=>yw e n;have noA: ∀ {b:Addr}{o:Obj},s₁.heap.get? b=some o->(∀x n,o.data≠ .seq x n)->(∀x,o.data≠ .fields x)->H b=none:=λ{b o} e d1 d2=>by
   cases q:H b with
   | none=>rfl
   | some u =>
    rcases hA b (by rw[q]; simp) with e' | e'
    .subst e';rw[ha] at e; cases e;exact absurd rfl (d1 _ _)
    .rw[hts b e'] at e; cases e;exact absurd rfl (d2 _)
  have nsK: ∀ {b:Addr}{m:oR},s₁.heap.Ns b m->(iT s₁.heap H).Ns b m:=λ{b m} ⟨o,es,ep,e,d,r⟩=>⟨o,es,ep,base_of e (noA e (λx n z=>by rw[d] at z; cases z) λx z=>by rw[d] at z; cases z),d,r⟩
  have hKb:K.In (iT s₁.heap H):=λb o e=>base_of (KX b o e) (by
   cases q:H b with
   | none=>rfl
   | some u =>
    rcases hA b (by rw[q]; simp) with e' | e'
    .subst e';rw[hK (by rw[q]; simp)] at e; cases e
    .exact absurd e' (ntab b o e))
  have hM:Mod K mg (iT s₁.heap H):=⟨hKb,nsK hns,⟨mb,nsK hb,hbb⟩,let ⟨mc,h1,h2⟩:=hlim; ⟨mc,nsK h1,h2⟩⟩
  have hB:BM mg (iT s₁.heap H):=by
   obtain⟨Pl,bm,ob,b1,b2,b3,b4,b5,b6,b7,b8⟩:=hbm;exact⟨Pl,bm,ob,b1,b2,b3,b4,base_of b5 (noA b5 (λx n z=>by rw[b8] at z; cases z) λx z=>by rw[b8] at z; cases z),b6,b7,b8⟩
  have e0:qz P w K mg (iT s₁.heap H) callerA [] s₁ H:=⟨Z,hM,λb o e=>zW e,Pc (wt _ _),trivial,λb hb=>absurd (show b∈([]:List Addr) from hb) (by simp),hok,.of_eq hg⟩
  show O1 ((F _ hKb (nsK hns) hB).run callerA [] s₁ H ⟨[.ref a],[]⟩ [.ref a] [.ref a] _ _ hr e0 (hbind s₁ (.ref a)) (.cons rfl .nil) (hsp H hT hS)) λr s' h=>?_;cases r with
  | error e=>exact (hCX H e s' h).elim
  | ok fl =>
   cases fl with
   | next=>exact False.elim h
   | brk=>exact False.elim h
   | cont=>exact False.elim h
   | ret u =>
    obtain⟨v,H',os,bare,un,hok',r',q⟩:=h;have q':v= .bl true:=q;subst q';obtain rfl:u=Value.bool true:=r';have kept: ∀b o,s₁.heap.get? b=some o->b∉ts->s'.heap.get? b=some o:=λb o e hb=>by
     rcases hO b hb with z | ⟨ob,xs,z⟩
     .exact un.keep b o e z (by intro z; exact absurd (show b∈([]:List Addr) from z) (by simp)) (by simp)
     .have z2:=un.frzs b ob _ z;obtain⟨e1,_⟩:=hok b _ z;obtain⟨e2,_⟩:=hok' b _ z2;rw[e] at e1; cases e1;exact e2
    show⟨Z,⟨λb o e=>?_,λb o e=>?_⟩,os,bare⟩
    .by_cases hb:b∈ts
     .obtain⟨more,z⟩:=un.tbls b #[] (hT b hb);have z2:s'.heap.get? b=some (tabObj (#[]++more)):=hok' b _ z;have e2:=(hts b hb).symm.trans e;cases e2;obtain⟨c,hc⟩:=hcs b hb;exact .inr (.inl ⟨((codeHd_of_K KX hc).tab (hts b hb)).isCodeTable,Z,#[],more,Z,z2⟩)
     .exact .inl (kept b o e hb)
    .by_cases hb:b∈ts
     .obtain⟨more,z⟩:=un.tbls b #[] (hT b hb);exact⟨_,(show s'.heap.get? b=some (tabObj (#[]++more)) from hok' b _ z)⟩
     .exact⟨o,kept b o e hb⟩
 cases hk:K.lookup a with
 | some o =>
  have e:=KX a o hk;rw[ha] at e;cases e;show core (λb=>if b∈ts then some (.tbl #[]) else none) (λT hT=>MU hT) (λb hb=> .inl (MP hb)) (.inr ⟨_,vs.toArray,_,hk,Z,Z,Z,by rw[Nb,lenV]; exact hl,by simpa using rv⟩) (λb u z=>?_) (λb z=>?_) λz=>absurd (MP λhm=>nat a hm rfl) z
  .by_cases hb:b∈ts
   .have z':=(MU hb).symm.trans z;cases z';exact hts b hb
   .have z':=(MP hb).symm.trans z;cases z'
  .by_cases hb:b∈ts;.exact .inr hb
   .exact absurd (MP hb) z
 | none =>
  show core (λb=>if b=a then some (.frz { cls:= .type "list",data:= .seq vs.toArray } (.lst (ns.map V.int))) else if b∈ts then some (.tbl #[]) else none) (λT hT=>?_) (λb hb=>?_) (.inl (.inr ⟨{ cls:= .type "list",data:= .seq vs.toArray },MU rfl⟩)) (λb u z=>?_) (λb z=>?_) λ_=>hk;.rw[MP (nat T hT),MU hT]
  .by_cases hb2:b=a;.exact .inr ⟨_,_,MU hb2⟩
   .exact .inl (by rw[MP hb2,MP hb])
  .by_cases hb:b=a
   .have z':=(MU hb).symm.trans z;cases z';subst hb;exact⟨ha,by rw[MO]; exact hl,vs,_,rv,ha⟩
   .have z2:(if b∈ts then some (HO.tbl #[]) else none)=some u:=(MP hb).symm.trans z;by_cases hb2:b∈ts
    .have z':=(MU hb2).symm.trans z2;cases z';exact hts b hb2
    .have z':=(MP hb2).symm.trans z2;cases z'
  .by_cases hb:b=a;.exact .inl hb
   .by_cases hb2:b∈ts;.exact .inr hb2
    .exact absurd (show (if b=a then some (HO.frz { cls:= .type "list",data:= .seq vs.toArray } (.lst (ns.map V.int))) else if b∈ts then some (.tbl #[]) else none)=none by rw[MP hb,MP hb2]) z
theorem Ey {l:OpenLaw}{n k:Nat}{q:Program}{loose:List Str}{XP:(Str->Option Value)->Heap->Prop}{YP:World->Heap->Prop}{d:DefRec}{K:Params->Frag}{CX:Rk}{sp:Frag->Sp}{x:Str}(ts:List Addr)
  (hn:l.most=some n) (hn2:n<=sizeLine) (hdf:d.params.defaults=[]) (hr:bC k callerA)
  (hY: ∀(w:World) (h:Heap),YP w h->(K w.params).In h/\ ∀T∈ts,h.get? T=some (tabObj #[]))
  (F: ∀(w:World) (mg:oR) (fa:Addr) (h:Heap),(K w.params).In h->h.Ns mainGlobals mg->mg d.name=some (.ref fa) ->
   ∃fd:FuncData,(∀(s:Shared) (u:Value),BindsTo s fd ⟨[u],[]⟩ [(x,u)])/\(noTabs (K w.params)=true/\ ∀T∈ts,∃c,codeHdIn (K w.params) c T=true) /\
    ∀base:Heap,(K w.params).In base->base.Ns mainGlobals mg->BM mg base->dC l.prog w (K w.params) mg base CX k fa fd [x] (sp (K w.params)))
  (hsp: ∀(K:Frag) (H:Hp) (a:Addr) (ns:List Int),ns.length<=n->(∀T∈ts,H T=some (.tbl #[]))->QF K H a (ns.map V.int)->sp K [.ref a] H (λv _=>v= .bl true) λ_ _ _=>False)
  (hCX: ∀(H:Hp) (s:Shared) (e:Value) (s':Shared),CX [] H s (λ_ _ _=>False) e s'->False) :
  WalkO q loose XP YP l.row.toRowW d [] (λf vs=>PySem.call f vs):=by
 show Att.sV hn hdf λw s₀ s₁ mg mb fa o pm cd doc a vs ns G bV ho hd hcd hmg hobj hints hlen hg=>?_;obtain⟨KX,hT⟩:=hY w _ bV;obtain⟨fd,hb,hK,hF⟩:=F w mg fa _ KX G.T.g hmg;obtain⟨bm,ob,b1,b2,b3,b4,b5,b6⟩:=G.T.bmain;have hbG:bm≠mainGlobals:=λq=>by
  obtain⟨o,es,ep,e,hd,_⟩:=G.T.g;rw[q,e] at b3; cases b3; rw[hd] at b6; cases b6
 have hbm:BM mg s₁.heap:=⟨bm+1,bm,ob,b1,b2,hbG,Nt (Oo _),b3,b4,b5,b6⟩
 exact BW KX G.T.g G.T.b G.T.builtins G.T.nolimit hg hbm hT hK.1 hK.2 hobj hints (Ng hlen hn2) hr hF hb (λH hH hS=>hsp _ H a ns hlen hH hS) λH e s'=>hCX H s₁ e s'
theorem bC.lam {k:Nat}{A:Around}(h:bC (k+2) A):A.depth+10 < recursionLimit:=by
 have:=h.dp;lia
theorem RU.hd {x:Str}{c:Addr}(h:RU K mg x st c P):codeHdIn K c P=true:=by
 obtain⟨_,_,_,_,_,h⟩:=h;exact h
theorem FU {P:Program}{x p:Str}{k:Nat}{fa:Addr}(h:TF K mg x st) (hg: ∀base,BM mg base->QS P w K mg base k x [p] sp) (hmg:mg x=some (.ref fa))
  (hb: ∀(kV doc pm:Value) (an:Option Addr) (cdv ct:Value) (s:Shared) (u:Value),BindsTo s (fnOf x x (cU st) (bN st) (aj st) .none kV doc pm an cdv ct) ⟨[u],[]⟩ [(p,u)]) :
  ∃fd:FuncData,(∀(s:Shared) (u:Value),BindsTo s fd ⟨[u],[]⟩ [(p,u)])/\ ∀base:Heap,BM mg base->dC P w K mg base Rc k fa fd [p] sp:=by
 obtain⟨f,fd,hm,F⟩:=h;obtain⟨oc,od,kV,doc,pm,an,cdv,ct,osl,rfl,lk,_⟩:=F.ex;have e:=hmg.symm.trans hm;cases e;show⟨_,hb kV doc pm an cdv ct,λbase B=>?_⟩;obtain⟨f',fd',hm',⟨oc',od',osl',lk'⟩,_,_,G⟩:=hg base B;have e:=hm.symm.trans hm';cases e;have e2:=lk.symm.trans lk';cases e2;exact G
theorem wu {c:Addr}{d:Option Addr}{vs:Array Value}{sl:Array (Option Value)}(l:K.lookup c=some ⟨.type "code",d,.fields vs,sl⟩) (h1:vs[11]?=some (.ref P)) (h2:(match vs.getD 18 .none with | .str _ _=>true | _=>false)=true)
  (h3:(match vs.getD 7 .none with | .int _ _=>true | _=>false)=true) (h4:(match vs.getD 9 .none with | .bool _=>true | _=>false)=true) (h5:(match vs.getD 10 .none with | .int _ _=>true | _=>false)=true) (h6:(c !=P)=true):codeHdIn K c P=true:=by
 unfold codeHdIn;rw[l];simp only[h1];simp only[NG];exact⟨⟨⟨⟨⟨OH _,h2⟩,h3⟩,h4⟩,h5⟩,h6⟩
end L2
namespace L2
open PySem PySem.Spec PyProof.Rows
inductive Hg (x:V) (vs:List V) (H:Hp) (Q:VK):Prop | mk (l:Addr) (ns:List Int) (i:Int) (j:Nat) (e0:x= .ref l) (e1:vs=[.int i]) (e2:H l=some (.lst (ns.map V.int))) (e3:ns[j]?=some i) (e4:(∀m,m < j->ns[m]?≠some i)) (q:Q (.int (j:Nat)) H)
def Ie:V->List V->Hp->VK->Prop:=λx vs H Q=>Hg x vs H Q
theorem x4 {X:Cx}:Sf X "list.index" Ie:=by
 intro QE s O H x vs v us Q I rx rv h;obtain⟨l,ns,i,j,rfl,rfl,hH,hj,hno,q⟩:=h;cases rx;obtain⟨u,rfl,t,rfl⟩:=rv.one;obtain⟨z,its,n,r,hl,e⟩:=I.oB hH;have hlen:its.length=ns.length:=by
  rw[<-hl,MO]
 have hat: ∀m k,ns[m]?=some k-> ∃t,its[m]?=some (Value.int k t):=λm k hm=>by
  obtain⟨u,hu,ru⟩:=r.get (i:=m) (x:= .int k) (by rw[M5,hm]; rfl);obtain⟨t,rfl⟩:=ru;exact⟨t,hu⟩
 have hjl:j < ns.length:=(MW.mp hj).1;have val: ∀m (hm:m < its.toArray.size),∃k t,ns[m]?=some k/\its.toArray[m]=Value.int k t:=λm hm=>by
  have hm':m < ns.length:=by simpa [hlen] using hm
  obtain⟨t,ht⟩:=hat m ns[m] (MQ hm');show⟨ns[m],t,MQ hm',?_⟩;have:=(MW.mp ht).2;simpa using this
 let eq:Value->Bool:=λy=>match y with | .int k _=>k == i | _=>false
 have he: ∀y,y∈its.toArray->MeetsSeq.EqGives y (.int i t) (eq y):=λy hy=>by
  obtain⟨m,hm,rfl⟩:=Array.mem_iff_getElem.mp hy;obtain⟨k,t',_,e2⟩:=val m hm;rw[e2];exact MeetsSeq.EqGives.int k i t' t
 have hjs:j < its.toArray.size:=by rw[Nb,hlen]; exact hjl
 show O7 F.slot_list_index ⟨_,e,Z⟩ F.entry_list_index (F.args_list_index_2 _ _) (MeetsSeq.list_index l its.toArray n (.int i t) eq he j hjs ?_ ?_ ?_) ⟨e,?_⟩
 .rw[hl] at z;have:its.length<=sizeLine:=Y;have h2:sizeLine < 2 ^ 62:=by decide
  lia
 .obtain⟨k,t',e1,e2⟩:=val j hjs;rw[e2];rw[hj] at e1;cases e1;simp[eq]
 .intro m hm hmj;obtain⟨k,t',e1,e2⟩:=val m hm;rw[e2];have:k≠i:=λz=>hno m hmj (z▸e1);simpa [eq] using this
 .exact⟨.int (j:Nat),H,I.tok _,⟨_,Z⟩,q⟩
section
variable {X:Cx}
inductive Kw (K:QG) (xs:List V) (H:Hp) (Q:VK):Prop | mk (x n:_) (e0:xs=[x]) (e1:Ij K x H n) (q:Q (.int n) H)
def FP (K:QG):List V->Hp->VK->Prop:=λxs H Q=>Kw K xs H Q
theorem wg:du X (.builtin "len") (FP X.K):=λ_ _ _ _ _ _ _ I r ⟨x,n,e,l,q⟩=>EH _ _ _ _ _ _ _ I r ⟨x,n,e,l,q⟩
inductive EF (K:QG) (xs:List V) (H:Hp) (Q:VK):Prop | mk (p ys:_) (e0:xs=[.ref p]) (e1:(QF K H p ys\/QK K H p ys)) (q: ∀l,H l=none->Q (.ref l) (upd H l (.lst ys)))
def zP (K:QG):List V->Hp->VK->Prop:=λxs H Q=>EF K xs H Q
theorem wV:du X (.type "list") (zP X.K):=λ_ _ _ _ _ _ _ I r ⟨x,n,e,l,q⟩=>yL _ _ _ _ _ _ _ I r ⟨x,n,e,l,q⟩
end
inductive Ki (K:QG) (x y:V) (H:Hp) (Q:VK):Prop | mk (a b:Addr) (ns ms:List Int) (e0:x= .ref a) (e1:y= .ref b) (e2:QF K H a (ns.map V.int)) (e3:QF K H b (ms.map V.int)) (q:Q (.bl (decide (ns=ms))) H)
def Jd (K:QG):R2:=λx y H Q=>Ki K x y H Q
theorem sS {ns:List Int}{us:List Value}(r:Vals (ns.map V.int) us){j:Nat}(h:j < us.length): ∃t,us[j]'h=Value.int (ns.getD j 0) t:=by
 have hl:us.length=ns.length:=by rw[<-r.length,MO]
 have hj:j < ns.length:=Y;obtain⟨u,hu,t,rfl⟩:=r.get (i:=j) (x:= .int ns[j]) (by rw[M5,MQ hj]; rfl);show⟨t,?_⟩;have:=(MW.mp hu).2;rw[this,MX,MQ hj];rfl
theorem FO (ns ms:List Int) (h:ns.length=ms.length):(List.range ns.length).all (λi=>ns.getD i 0 == ms.getD i 0)=decide (ns=ms):=by
 rw[O5,Oq,Qt];constructor
 .intro a;show PM h λi h1 h2=>?_;have:=a i (Nh.mpr h1);simpa [MX,h1,h2] using this
 .intro e i _;rw[e];exact OH _
theorem Jt {X:Cx}(hu:X.A.units+1 < cLine):QU X (compareOp .Eq) (Jd X.K):=by
 ext:3;obtain⟨a,b,ns,ms,rfl,rfl,ha,hb,q⟩:=h;cases rx;cases ry;obtain⟨us,r1,p1,z1⟩:=I.list ha;obtain⟨vs,r2,p2,z2⟩:=I.list hb;have l1:us.length=ns.length:=by rw[<-r1.length,MO]
 have l2:vs.length=ms.length:=by rw[<-r2.length,MO]
 by_cases hl:ns.length=ms.length
 .show SeqAt.eq_listAt (e:=λi=>ns.getD i 0 == ms.getD i 0) p1.isList p2.isList (by simp; lia) Y (λj h1 h2=>?_) ?_
  .obtain⟨t1,e1⟩:=sS r1 (j:=j) (by simpa using h1);obtain⟨t2,e2⟩:=sS r2 (j:=j) (by simpa using h2);simp only[P6,e1,e2];exact SeqAt.EqAt.int_int _ _ _ _
  .rw[show us.toArray.size=ns.length by simpa using l1,FO ns ms hl];exact⟨.bl _,H,I,Z,q⟩
 .show SeqAt.eq_list_lengthsAt p1.isList p2.isList (by simp; lia) Y ?_;rw[show decide (ns=ms)=false from Nz λe=>hl (by rw[e])] at q;exact⟨.bl _,H,I,Z,q⟩
section
variable {X:Cx}{e st:Expr}{te ts:TE}{pos p2:Pos}
inductive KY (K:QG) (Q:VK) (x:V) (H2:Hp):Prop | mk (a xs:_) (e0:x= .ref a) (e1:QF K H2 a xs) (q: ∀p,H2 p=none->Q (.ref p) (upd H2 p (.lst xs.reverse)))
def LA (K:QG) (te ts:TE):TE:=λO H Q=>te O H λx H1=>ts O H1 λk H2=>k= .int (-1)/\KY K Q x H2
theorem yK: ∀ {xs:List V}{us:List Value},Vals xs us->Vals xs.reverse us.reverse
 | _,_,.nil=> .nil
 | _,_,.cons r t=>by
  rw[PB,PB];exact (yK t).append (.cons r .nil)
theorem Io (he:PE X e te) (hk:PE X st ts):PE X (.Subscript e (.Slice none none (some st) p2) pos) (LA X.K te ts):=by
 intro QE s O H Q I h;show Subscript_ (QL (he QE s O H _ I h) λv s1 ⟨x,H1,I1,r1,q1⟩=>?_);show wpAny_Slice ?_;rw[evalPart_none];show Nj ?_;show Nj ?_;rw[evalPart_some];show QL (hk QE s1 O H1 _ I1 q1) λvk s3 ⟨k,H3,I3,r3,q3⟩=>?_;obtain⟨rfl,a,xs,rfl,hx,q⟩:=q3;obtain⟨t,rfl⟩:=r3;cases r1;have I4:Inv X QE O H3 { s3 with heap:=s3.heap.push { cls:= .type "slice",data:= .fields #[.none,.none,.int (-1) t] } }:=I3.kept (t':=s3.toks) λb ob q=>MV _ q;obtain⟨its,r,ht,hz⟩:=I4.list hx;have hlen:=r.length;change wpAny (model X.prog X.w) X.A (subscriptTail e (.Slice none none (some st) p2) (.ref a) (.ref s3.heap.objs.size)) (EP X QE O Q) X.xe { s3 with heap:=s3.heap.push { cls:= .type "slice",data:= .fields #[.none,.none,.int (-1) t] } };show tail_any (ops:=[.ref a,.ref s3.heap.objs.size]) ht.isList.typeIs slot_list_getitem.lookup ?_ (by with_unfolding_all rfl);show wpAny_getItem_list_slice ht.isList (Heap.IsSliceOf.new ..) .none .none (.int (-1) t) aS ?_ (by rw[Nb] <;> lia);rw[PySem.W.krv_pick];show⟨.ref _,_,I4.laid (t':=s3.toks) (o:= .lst xs.reverse) (λb ob q=>MV _ q) (MZ _) ?_,Z,q _ (I4.hok.fresh (MZ _))⟩;exact⟨by rw[List.length_reverse]; exact hz,_,0,yK r,Nq _ rfl⟩
end
end L2
namespace MA
abbrev ao:=Int×Int×Int
def g (ws:List Int) (i:Int):Int:=ws.getD i.toNat 0
def mx (i j:Int):Int:=if j > i then j else i
theorem fH (i j:Int):i<=mx i j:=by unfold mx; split <;> lia
theorem ja (i j:Int):j<=mx i j:=by unfold mx; split <;> lia
variable{i:Int}
theorem uQ {j k:Int}(h1:i<=k) (h2:j<=k):mx i j<=k:=by unfold mx; split <;> lia
def ask (f:Int->Int) (r:ao):Int:=if r.2.1= -1 then r.2.2 else f r.2.1+r.2.2
def put (ws:List Int) (i v:Int):List Int:=ws.set i.toNat v
def cz (ws:List Int) (r:ao):List Int:=put ws r.1 (mx (g ws r.1) (ask (g ws) r))
def bB (rs:List ao) (ws:List Int):List Int:=rs.foldl cz ws
def QO (n:Nat) (r:ao):Prop:=0<=r.1/\r.1 < n/\ -1<=r.2.1/\r.2.1 < n/\0<=r.2.2
def Met (rs:List ao) (f:Int->Int):Prop:= ∀r∈rs,ask f r<=f r.1
def Le (n:Nat) (f h:Int->Int):Prop:= ∀i:Int,0<=i->i < n->f i<=h i
variable{ws:List Int}
theorem ff {v j:Int}(hi:0<=i) (hl:i < ws.length) (hj:0<=j):g (put ws i v) j=if j=i then v else g ws j:=by
 unfold g put;rw[MX,MX,List.getElem?_set];by_cases e:j=i
 .subst e;have:j.toNat < ws.length:=Y;simp[this]
 .have:i.toNat≠j.toNat:=Y;simp[this,e]
theorem gq {v:Int}:(put ws i v).length=ws.length:=ON
variable{r:ao}
theorem g7:(cz ws r).length=ws.length:=gq
theorem eS (rs:List ao): ∀ws,(bB rs ws).length=ws.length:=by
 induction rs with
 | nil=>intro ws; rfl
 | cons r rs ih=>intro ws; exact (ih _).trans g7
variable{f:Int->Int}
theorem yj {n:Nat}{h:Int->Int}(k:QO n r) (hl:Le n f h):ask f r<=ask h r:=by
 obtain⟨_,_,h3,h4,_⟩:=k;unfold ask;split;.exact Np _
 .have:=hl r.2.1 Y h4;lia
theorem wa {n:Nat}(k:QO n r) (hl:ws.length=n):Le n (g ws) (g (cz ws r)):=λi h0 h1=>by
 unfold cz;rw[ff k.1 (by rw[hl]; exact k.2.1) h0];split;.rename_i e; rw[e]; exact fH _ _
 .exact Np _
theorem jS {n:Nat}: ∀(rs:List ao) (ws:List Int),(∀r∈rs,QO n r)->ws.length=n->Le n (g ws) (g (bB rs ws))
 | [],ws,_,_=>λi _ _=>Np _
 | r::rs,ws,k,hl=>λi h0 h1=>NA (wa (k r (M7)) hl i h0 h1) (jS rs (cz ws r) (λx hx=>k x (M4 _ hx)) (g7.trans hl) i h0 h1)
theorem DT {n:Nat}(k:QO n r) (hl:ws.length=n) (hf:ask f r<=f r.1) (h:Le n (g ws) f):Le n (g (cz ws r)) f:=λi h0 h1=>by
 unfold cz;rw[ff k.1 (by rw[hl]; exact k.2.1) h0];split;.rename_i e; rw[e]; exact uQ (h _ k.1 k.2.1) (NA (yj k h) hf)
 .exact h i h0 h1
theorem ki {n:Nat}: ∀(rs:List ao) (ws:List Int),(∀r∈rs,QO n r)->ws.length=n->Met rs f->Le n (g ws) f->Le n (g (bB rs ws)) f
 | [],ws,_,_,_,h=>h
 | r::rs,ws,k,hl,hf,h=>ki rs (cz ws r) (λx hx=>k x (M4 _ hx)) (g7.trans hl) (λx hx=>hf x (M4 _ hx)) (DT (k r (M7)) hl (hf r (M7)) h)
theorem qD {n:Nat}: ∀(rs:List ao) (ws:List Int) (f:Int->Int),(∀r∈rs,QO n r)->ws.length=n->Le n f (g ws)-> ∀r∈rs,ask f r<=g (bB rs ws) r.1
 | [],ws,f,_,_,_=>λr hr=>by cases hr
 | q::rs,ws,f,k,hl,h=>λr hr=>by
  have k':=λx hx=>k x (M4 q hx);have kq:=k q (M7);have hl':(cz ws q).length=n:=g7.trans hl;rcases M3.mp hr with rfl | hr
  .have h1:ask f r<=g (cz ws r) r.1:=by
    unfold cz;rw[ff kq.1 (by rw[hl]; exact kq.2.1) kq.1,MU rfl];exact NA (yj kq h) (ja _ _)
   exact NA h1 (jS rs (cz ws r) k' hl' _ kq.1 kq.2.1)
  .exact qD rs (cz ws q) f k' hl' (λi h0 h1=>NA (h i h0 h1) (wa kq hl i h0 h1)) r hr
variable{rs:List ao}
theorem iB {n:Nat}(k: ∀r∈rs,QO n r) (hl:ws.length=n) (h:bB rs ws=ws):Met rs (g ws):=λr hr=>by
 have:=qD rs ws (g ws) k hl (λ_ _ _=>Np _) r hr
 rwa [h] at this
variable{us:List Int}
theorem F6(h:ws.length=us.length) (e: ∀i:Int,0<=i->i < ws.length->g ws i=g us i):ws=us:=by
 show PM h λi h1 h2=>?_;have:=e i Y Y;unfold g at this;simpa [MX,h1,h2] using this
def it (rs:List ao):Nat->List Int->List Int
 | 0,ws=>ws
 | k+1,ws=>it rs k (bB rs ws)
theorem zV (rs:List ao): ∀k ws,it rs (k+1) ws=bB rs (it rs k ws)
 | 0,ws=>rfl
 | k+1,ws=>zV rs k (bB rs ws)
theorem oH (rs:List ao): ∀k ws,(it rs k ws).length=ws.length
 | 0,ws=>rfl
 | k+1,ws=>(oH rs k _).trans (eS rs ws)
theorem uz {n:Nat}(k: ∀r∈rs,QO n r): ∀m ws,ws.length=n->Le n (g ws) (g (it rs m ws))
 | 0,ws,_=>λ_ _ _=>Np _
 | m+1,ws,hl=>λi h0 h1=>NA (jS rs ws k hl i h0 h1) (uz k m (bB rs ws) ((eS rs ws).trans hl) i h0 h1)
theorem ub {n:Nat}(k: ∀r∈rs,QO n r) (hf:Met rs f): ∀m ws,ws.length=n->Le n (g ws) f->Le n (g (it rs m ws)) f
 | 0,ws,_,h=>h
 | m+1,ws,hl,h=>ub k hf m (bB rs ws) ((eS rs ws).trans hl) (ki rs ws k hl hf h)
def gap (n:Nat) (f:Int->Int) (ws:List Int):Nat:=((List.range n).map λi=>(f (i:Nat) - g ws (i:Nat)).toNat).sum
theorem uc: ∀(l:List Nat) (a b:Nat->Nat),(∀i∈l,a i<=b i)->(l.map a).sum<=(l.map b).sum
 | [],_,_,_=>MZ _
 | x::l,a,b,h=>by
  simp only[ND,Qp];have:=h x (M7);have:=uc l a b λi hi=>h i (M4 _ hi);lia
theorem rF: ∀(l:List Nat) (a b:Nat->Nat),(∀i∈l,a i<=b i)->(∃i∈l,a i < b i)->(l.map a).sum < (l.map b).sum
 | [],_,_,_,⟨_,h,_⟩=>by cases h
 | x::l,a,b,h,⟨i,hi,hl⟩=>by
  simp only[ND,Qp];have h1:=h x (M7);have h2: ∀i∈l,a i<=b i:=λi hi=>h i (M4 _ hi);rcases M3.mp hi with rfl | hi
  .have:=uc l a b h2;lia
  .have:=rF l a b h2 ⟨i,hi,hl⟩;lia
theorem yQ {n:Nat}(h1:ws.length=n) (h2:us.length=n) (hne:ws≠us): ∃i:Nat,i < n/\g ws (i:Nat)≠g us (i:Nat):=by
 show NW λc=>hne (F6 (h1.trans h2.symm) λi h0 hi=>?_);show NW λd=>c ⟨i.toNat,Y,?_⟩;rw[show ((i.toNat:Nat):Int)=i by lia];exact d
theorem ends {n:Nat}(k: ∀r∈rs,QO n r) (hf:Met rs f): ∀(m:Nat) (ws:List Int),ws.length=n->Le n (g ws) f->gap n f ws=m-> ∃N,bB rs (it rs N ws)=it rs N ws:=by
 intro m;induction m using Nat.strongRecOn with
 | _ m ih =>
  intro ws hl h hm;by_cases e:bB rs ws=ws;.exact⟨0,e⟩
  .have hl':(bB rs ws).length=n:=(eS rs ws).trans hl;have hf':=ki rs ws k hl hf h;have hup:=jS rs ws k hl;obtain⟨i,hi,hd⟩:=yQ hl' hl e;have lt:gap n f (bB rs ws) < gap n f ws:=by
    show rF _ _ _ (λj hj=>?_) ⟨i,Nh.mpr hi,?_⟩
    .have hj:=Nh.mp hj;have:=hup (j:Nat) Y Y;lia
    .have:=hup (i:Nat) Y Y;have:=hf' (i:Nat) Y Y;have:=h (i:Nat) Y Y;lia
   obtain⟨N,hN⟩:=ih _ (hm▸lt) (bB rs ws) hl' hf' rfl;exact⟨N+1,hN⟩
variable{L:List Int}
theorem G3 {n:Nat}{ws0:List Int}(k: ∀r∈rs,QO n r) (hl:ws.length=n) (hL:L.length=n) (h0:Le n (g ws0) (g ws)) (h1:Le n (g ws) (g L)) (hm:Met rs (g L))
  (least: ∀f,Le n (g ws0) f->Met rs f->Le n (g L) f) (hne:ws≠L): ∃i:Nat,i < n/\g ws (i:Nat) < g L (i:Nat)/\g (bB rs ws) (i:Nat)=g L (i:Nat):=by
 show NW λc=>?_;have c': ∀i:Int,0<=i->i < n->g ws i < g L i->g (bB rs ws) i < g L i:=λi a b d=>by
  have up:=ki rs ws k hl hm h1 i a b;have: ¬g (bB rs ws) i=g L i:=λe=>c ⟨i.toNat,Y,by rw[show ((i.toNat:Nat):Int)=i by lia]; exact⟨d,e⟩⟩;lia
 let f:Int->Int:=λi=>if g ws i < g L i then g L i - 1 else g L i
 have f_le: ∀i,f i<=g L i:=λi=>by
  change (if g ws i < g L i then g L i - 1 else g L i)<=g L i;split <;> lia
 have fm:Met rs f:=λr hr=>by
  obtain⟨r1,r2,r3,r4,r5⟩:=k r hr;have a1:=qD rs ws (g ws) k hl (λ_ _ _=>Np _) r hr;have a2:=hm r hr;have hb:=λ(x:0<=r.2.1)=>h1 r.2.1 x r4;have ho:=c' r.1 r1 r2;change ask f r<=if g ws r.1 < g L r.1 then g L r.1 - 1 else g L r.1;unfold ask at a1 a2 ⊢;by_cases e:r.2.1= -1
  .rw[MU e] at a1 a2 ⊢;split <;> lia
  .rw[MP e] at a1 a2 ⊢;have hb:=hb Y;change (if g ws r.2.1 < g L r.2.1 then g L r.2.1 - 1 else g L r.2.1)+r.2.2<=_;split <;> split <;> lia
 have f0:Le n (g ws0) f:=λi a b=>by
  have:=h0 i a b;have:=h1 i a b;change _<=if g ws i < g L i then g L i - 1 else g L i;split <;> lia
 obtain⟨i,hi,hd⟩:=yQ hl hL hne;have q:=least f f0 fm (i:Nat) Y Y;have p:=h1 (i:Nat) Y Y;have fe:f (i:Nat)=g L (i:Nat) - 1:=MU Y;lia
theorem CY: ∀l:List Nat,(l.map λ_=>1).sum=l.length
 | []=>rfl
 | _::l=>by simp only[ND,Qp,Nk,CY l]; lia
theorem ones (n:Nat):((List.range n).map λ_=>1).sum=n:=(CY _).trans NK
def cnt (n:Nat) (ws L:List Int):Nat:=((List.range n).map λi=>if g ws (i:Nat)=g L (i:Nat) then 1 else 0).sum
theorem Ho {n:Nat}(h1:ws.length=n) (h2:L.length=n) (h:n<=cnt n ws L):ws=L:=by
 show NW λhne=>?_;obtain⟨i,hi,hd⟩:=yQ h1 h2 hne;have:=rF (List.range n) (λi=>if g ws (i:Nat)=g L (i:Nat) then 1 else 0) (λ_=>1) (λi _=>by change (if _ then 1 else 0)<=1; split <;> lia) ⟨i,Nh.mpr hi,by change (if _ then 1 else 0) < 1; rw[MP hd]; lia⟩;have e:((List.range n).map λ_=>1).sum=n:=ones n;unfold cnt at h;lia
theorem yy {n:Nat}{f:Int->Int}(k: ∀r∈rs,QO n r) (hl:ws.length=n) (hf:Met rs f) (h:Le n (g ws) f):bB rs (it rs n ws)=it rs n ws:=by
 obtain⟨N,hN⟩:=ends k hf _ ws hl h rfl;have hLl:(it rs N ws).length=n:=(oH rs N ws).trans hl;have hm:=iB k hLl hN;have least: ∀f,Le n (g ws) f->Met rs f->Le n (g (it rs N ws)) f:=λf a b=>ub k b N ws hl a;have up:=uz k N ws hl;generalize it rs N ws=L at hN hLl hm least up;have main: ∀m,it rs m ws=L\/m<=cnt n (it rs m ws) L:=λm=>by
  induction m with
  | zero=>exact .inr (NN _)
  | succ m ih =>
   rw[zV];rcases ih with e | ih
   .rw[e]; exact .inl hN
   .by_cases e:it rs m ws=L;.rw[e]; exact .inl hN
    .have hml:(it rs m ws).length=n:=(oH rs m ws).trans hl;have hmL:=ub k hm m ws hl up;obtain⟨i,hi,a,b⟩:=G3 k hml hLl (uz k m ws hl) hmL hm least e;have hrL:=ki rs (it rs m ws) k hml hm hmL;have hru:=jS rs (it rs m ws) k hml;show .inr (Oc ih (rF _ _ _ (λj hj=>?_) ⟨i,Nh.mpr hi,?_⟩))
     .have hj:=Nh.mp hj;have:=hrL (j:Nat) Y Y;have:=hru (j:Nat) Y Y;split <;> split <;> lia
     .change (if _ then 1 else 0) < (if _ then 1 else 0);rw[MP Y,MU b];decide
 rcases main n with e | e
 .rw[e]; exact hN
 .rw[Ho ((oH rs n ws).trans hl) hLl e]; exact hN
def loop (rs:List ao):Nat->List Int->Option (List Int)
 | 0,_=>none
 | k+1,ws=>if bB rs ws=ws then some ws else loop rs k (bB rs ws)
def aY (n:Nat) (rs:List ao):Option (List Int):=loop rs (n+1) (List.replicate n 0)
theorem wF {n:Nat}(k: ∀r∈rs,QO n r): ∀(m:Nat) (ws L:List Int),ws.length=n->loop rs m ws=some L->L.length=n/\Met rs (g L)/\Le n (g ws) (g L)/\ ∀f,Le n (g ws) f->Met rs f->Le n (g L) f
 | 0,ws,L,_,h=>by cases h
 | m+1,ws,L,hl,h=>by
  unfold loop at h;split at h
  .rename_i e;cases h;exact⟨hl,iB k hl e,λ_ _ _=>Np _,λf a _=>a⟩
  .obtain⟨a,b,c,d⟩:=wF k m (bB rs ws) L ((eS rs ws).trans hl) h;exact⟨a,b,λi h0 h1=>NA (jS rs ws k hl i h0 h1) (c i h0 h1),λf p q=>d f (ki rs ws k hl q p) q⟩
theorem vR (rs:List ao): ∀(m:Nat) (ws:List Int),loop rs m ws=none-> ∀j,j < m->bB rs (it rs j ws)≠it rs j ws
 | 0,_,_,_,h=>absurd h (NP _)
 | m+1,ws,h,j,hj=>by
  unfold loop at h;split at h;.cases h
  .rename_i e;cases j with
   | zero=>exact e
   | succ j=>exact vR rs m (bB rs ws) h j Y
theorem kJ {n:Nat}(i:Int):g (List.replicate n 0) i=0:=by
 unfold g;rw[MX,Pu];split <;> rfl
theorem bX {n:Nat}(k: ∀r∈rs,QO n r) (h:aY n rs=some L):L.length=n/\Met rs (g L)/\(∀i:Int,0<=i->i < n->0<=g L i)/\ ∀f:Int->Int,(∀i:Int,0<=i->i < n->0<=f i)->Met rs f->Le n (g L) f:=by
 obtain⟨a,b,c,d⟩:=wF k (n+1) _ L (by simp) h;show⟨a,b,λi h0 h1=>?_,λf p q=>d f (λi h0 h1=>by rw[kJ]; exact p i h0 h1) q⟩;have:=c i h0 h1
 rwa [kJ] at this
theorem kT {n:Nat}(k: ∀r∈rs,QO n r) (h0: ∀i:Int,0<=i->i < n->0<=f i) (hf:Met rs f): ∃L,aY n rs=some L:=by
 cases e:aY n rs with
 | some L=>exact⟨L,Z⟩
 | none=>exact absurd (yy k (by simp) hf λi a b=>by rw[kJ]; exact h0 i a b) (vR rs (n+1) _ e n Y)
end MA
namespace L2
open PySem PySem.Spec PyProof.Rows
def gz (K:QG) (H:Hp) (v:V) (q:MA.ao):Prop:= ∃a,v= .ref a/\QK K H a [.int q.1,.int q.2.1,.int q.2.2]
inductive bQ (K:QG) (H:Hp):List V->List MA.ao->Prop where
 | nil:bQ K H [] []
 | cons {v q xs rs}:gz K H v q->bQ K H xs rs->bQ K H (v::xs) (q::rs)
def Rl (K:QG) (H:Hp) (r:Addr) (rs:List MA.ao):Prop:= ∃xs,QF K H r xs/\bQ K H xs rs
def cJ (K:QG) (H:Hp) (r:Addr) (rs:List MA.ao):Prop:= ∃xs,H r=some (.lst xs)/\bQ K H xs rs
section
variable {K:QG}{H H':Hp}{a l r:Addr}{xs ys:List V}{rs qs:List MA.ao}{v:V}{q:MA.ao}{o:HO}
theorem ag.gM (e:ag H H') (h:QK K H a xs):QK K H' a xs:=by
 rcases h with (h | ⟨o,h⟩) | h
 .exact .inl (.inl (e _ _ h))
 .exact .inl (.inr ⟨o,e _ _ h⟩)
 .exact .inr h
theorem gz.same (e:ag H H') (h:gz K H v q):gz K H' v q:=by
 obtain⟨a,rfl,h⟩:=h;exact⟨a,Z,e.gM h⟩
theorem bQ.same (e:ag H H') (h:bQ K H xs rs):bQ K H' xs rs:=by
 induction h with
 | nil=>exact .nil
 | cons t _ ih=>exact .cons (t.same e) ih
theorem Rl.same (e:ag H H') (h:Rl K H r rs):Rl K H' r rs:=by
 obtain⟨xs,a,b⟩:=h;exact⟨xs,e.seq a,b.same e⟩
theorem cJ.same (e:ag H H') (h:cJ K H r rs):cJ K H' r rs:=by
 obtain⟨xs,a,b⟩:=h;exact⟨xs,e _ _ a,b.same e⟩
theorem cJ.RD (h:cJ K H r rs):Rl K H r rs:=by
 obtain⟨xs,a,b⟩:=h;exact⟨xs,QF.of a,b⟩
def LN (H:Hp) (l:Addr):Prop:=H l=none\/ ∃ys,H l=some (.lst ys)
theorem LN.of (h:H l=some (.lst xs)):LN H l:= .inr ⟨_,h⟩
theorem LN.free (h:H l=none):LN H l:= .inl h
theorem vK (n:LN H l) (h:QK K H a xs):QK K (upd H l o) a xs:=by
 have ne: ∀u,H a=some u->(∀ys,u≠ .lst ys)->a≠l:=λu hu hn e=>by
  subst e;rcases n with n | ⟨ys,n⟩
  .rw[n] at hu; cases hu
  .rw[n] at hu;exact hn ys (Nc hu).symm
 rcases h with (h | ⟨o',h⟩) | h
 .exact .inl (.inl ((ah (ne _ h λys z=>by cases z)).trans h))
 .exact .inl (.inr ⟨o',(ah (ne _ h λys z=>by cases z)).trans h⟩)
 .exact .inr h
theorem gz.upd (n:LN H l) (h:gz K H v q):gz K (upd H l o) v q:=by
 obtain⟨a,rfl,h⟩:=h;exact⟨a,Z,vK n h⟩
theorem bQ.upd (n:LN H l) (h:bQ K H xs rs):bQ K (upd H l o) xs rs:=by
 induction h with
 | nil=>exact .nil
 | cons t _ ih=>exact .cons (t.upd n) ih
theorem bQ.length (h:bQ K H xs rs):xs.length=rs.length:=by
 induction h with
 | nil=>rfl
 | cons _ _ ih=>rw[Nk,Nk,ih]
theorem bQ.append (h:bQ K H xs rs) (k:bQ K H ys qs):bQ K H (xs++ys) (rs++qs):=by
 induction h with
 | nil=>exact k
 | cons t _ ih=>exact .cons t ih
theorem bQ.one (h:gz K H v q):bQ K H [v] [q]:= .cons h .nil
theorem bQ.take (h:bQ K H xs rs): ∀n,bQ K H (xs.take n) (rs.take n):=by
 induction h with
 | nil=>intro n; rw[PL,PL]; exact .nil
 | cons t _ ih =>
  intro n;cases n with
  | zero=>exact .nil
  | succ n=>rw[List.take_succ_cons,List.take_succ_cons]; exact .cons t (ih n)
theorem bQ.drop (h:bQ K H xs rs): ∀n,bQ K H (xs.drop n) (rs.drop n):=by
 induction h with
 | nil=>intro n; rw[Qq,Qq]; exact .nil
 | cons t k ih =>
  intro n;cases n with
  | zero=>exact .cons t k
  | succ n=>rw[List.drop_succ_cons,List.drop_succ_cons]; exact ih n
theorem bQ.reverse (h:bQ K H xs rs):bQ K H xs.reverse rs.reverse:=by
 induction h with
 | nil=>exact .nil
 | cons t _ ih=>rw[PB,PB]; exact ih.append (.one t)
theorem bQ.get (h:bQ K H xs rs): ∀ {i:Nat},xs[i]?=some v-> ∃q,rs[i]?=some q/\gz K H v q:=by
 induction h with
 | nil=>intro i e; simp at e
 | cons t _ ih =>
  intro i e;cases i with
  | zero=>simp at e; subst e; exact⟨_,Z,t⟩
  | succ i=>exact ih (i:=i) (by simpa using e)
theorem bQ.at (h:bQ K H xs rs): ∀ {i:Nat},rs[i]?=some q-> ∃v,xs[i]?=some v/\gz K H v q:=by
 induction h with
 | nil=>intro i e; simp at e
 | cons t _ ih =>
  intro i e;cases i with
  | zero=>simp at e; subst e; exact⟨_,Z,t⟩
  | succ i=>exact ih (i:=i) (by simpa using e)
theorem cJ.push {t:Addr}(h:cJ K H l rs) (ht:H t=none) (e:H l=some (.lst xs)):cJ K (L2.upd (L2.upd H t (.tup [.int q.1,.int q.2.1,.int q.2.2])) l (.lst (xs++[.ref t]))) l (rs++[q]):=by
 obtain⟨xs',a,b⟩:=h;rw[e] at a;cases a;have hl:(L2.upd H t (.tup [.int q.1,.int q.2.1,.int q.2.2])) l=some (.lst xs):=(ah (av e ht)).trans e;exact⟨_,aa,((b.upd (.free ht)).upd (.of hl)).append (.one (gz.upd (.of hl) ⟨t,Z,QK.of aa⟩))⟩
theorem ag.upd {p:Addr}(h:H p=none):ag H (L2.upd H p o):=λb u hb=>by
 rw[ah (av hb h)];exact hb
theorem ag.eI {u:HO}(s:ag H H') (h:H l=none):ag H (L2.upd H' l u):=λb z hb=>by
 rw[ah (av hb h)];exact s b z hb
theorem ag.vf {p q:Addr}{u:HO}(s:ag H H') (hp:H' p=none) (hq:H q=none):ag H (L2.upd (L2.upd H' p o) q u):=(s.trans (ag.upd hp)).eI hq
end
theorem bj {lo:Int}{n i:Nat}{x:V}(h:(bg lo n)[i]?=some x):i < n/\x= .int (lo+(i:Nat)):=by
 unfold bg at h;rw[M5] at h;cases e:(List.range n)[i]? with
 | none=>rw[e] at h; cases h
 | some j =>
  rw[e] at h;have hi:i < n:=by
   have:=(MW.mp e).1
   rwa [NK] at this
  rw[Pk hi] at e;cases e;exact⟨hi,(Nc h).symm⟩
theorem bI {lo:Int}{n:Nat}:(bg lo n).length=n:=by simp[bg]
theorem bH {ws:List Int}{i:Int}(h0:0<=i) (h1:i < ws.length):QV (ws.map V.int) i=some (.int (MA.g ws i)):=by
 have hn:i.toNat < ws.length:=Y;have e:i=((i.toNat:Nat):Int):=Y;have h:=bz (xs:=ws.map V.int) (j:=i.toNat) (v:= .int (MA.g ws i)) (by simp[MA.g,hn])
 rwa [<-e] at h
theorem iz {n:Nat}{i:Int}(h0:0<=i) (h1:i < n):RJ n i=some i.toNat:=by
 unfold RJ;rw[MU h0,MU h1]
theorem K0 {ws:List Int}{i:Int}(h0:0<=i) (h1:i < ws.length):MA.g ws i∈ws:=by
 have hn:i.toNat < ws.length:=Y;unfold MA.g;rw[MX,MQ hn];exact Ot hn
theorem tV (ns:List Int) (lo hi:Option Int): ∃ms:List Int,dX (ns.map V.int) lo hi=ms.map V.int/\ ∀x∈ms,x∈ns:=by
 show⟨(ns.drop (HT.QT (ns.map V.int).length 0 lo)).take (HT.QT (ns.map V.int).length (ns.map V.int).length hi - HT.QT (ns.map V.int).length 0 lo),?_,λx hx=>OA (Of hx)⟩;unfold dX;rw[List.map_take,List.map_drop]
end L2
namespace MA
abbrev Mt:=Nat->Nat->Int
def setM (M:Mt) (a b:Nat) (v:Int):Mt:=λi j=>if i=a/\j=b then v else M i j
def RE (k a:Nat) (M:Mt) (b:Nat):Mt:=if 0<=M k b then setM M a b (mx (M a b) (M a k+M k b)) else M
def inner (n k a:Nat) (M:Mt):Mt:=(List.range n).foldl (RE k a) M
def lJ (n k:Nat) (M:Mt) (a:Nat):Mt:=if M a k < 0 then M else inner n k a M
def mid (n:Nat) (M:Mt) (k:Nat):Mt:=(List.range n).foldl (lJ n k) M
def Rv (M:Mt) (q:ao):Mt:=if 0<=q.2.1 then setM M q.2.1.toNat q.1.toNat (mx (M q.2.1.toNat q.1.toNat) q.2.2) else M
def xb (M:Mt) (k:Nat):Mt:=setM M k k 0
def M1 (n:Nat):Mt:=(List.range n).foldl xb (λ_ _=> -1)
def M2 (n:Nat) (rs:List ao):Mt:=rs.foldl Rv (M1 n)
def aE (n:Nat) (rs:List ao):Mt:=(List.range n).foldl (mid n) (M2 n rs)
def df (n:Nat) (rs:List ao):Bool:=(List.range n).any λk=>decide (0 < aE n rs k k)
theorem fP {α β:Type}(I:β->Prop) (f:β->α->β): ∀(l:List α) (x:β),I x->(∀y a,a∈l->I y->I (f y a))->I (l.foldl f x)
 | [],_,h,_=>h
 | a::l,x,h,hs=>fP I f l (f x a) (hs x a (M7) h) λy b hb=>hs y b (M4 _ hb)
def Sd (f:Int->Int) (M:Mt):Prop:= ∀i j:Nat,0<=M i j->f (i:Nat)+M i j<=f (j:Nat)
variable{f:Int->Int}{M:Mt}{a:Nat}
theorem Sd.set {b:Nat}{v:Int}(h:Sd f M) (hv:0<=v->f (a:Nat)+v<=f (b:Nat)):Sd f (setM M a b v):=λi j=>by
 unfold setM;split;.rename_i e; rw[e.1,e.2]; exact hv
 .exact h i j
theorem xj (i j:Int):mx i j=i\/mx i j=j:=by unfold mx; split <;> simp
theorem Sd.mid {n:Nat}{k:Nat}(h:Sd f M):Sd f (MA.mid n M k):=by
 show fP (Sd f) _ _ _ h λy a _ hy=>?_;unfold lJ;split;.exact hy
 .rename_i hk;show (fP (λM=>Sd f M/\0<=M a k) _ _ _ ⟨hy,Y⟩ λz b _ hz=>?_).1;unfold RE;split
  .rename_i hb;show⟨hz.1.set λhv=>?_,?_⟩
   .have h1:=hz.1 a k hz.2;have h2:=hz.1 k b hb;have h3:=hz.1 a b;rcases xj (z a b) (z a k+z k b) with e | e <;> rw[e] at hv ⊢ <;> lia
   .unfold setM;split
    .rename_i e;have:=fH (z a b) (z a k+z k b);have e2:=e.2;subst e2;exact NA hz.2 this
    .exact hz.2
  .exact hz
variable{rs:List ao}
theorem lb {n:Nat}(k: ∀r∈rs,QO n r) (hf:Met rs f):Sd f (aE n rs):=by
 have h1:Sd f (M1 n):=fP (Sd f) _ _ _ (λi j h=>absurd h aS) λy a _ hy=>hy.set λ_=>Y;have h2:Sd f (M2 n rs):=fP (Sd f) _ _ _ h1 λy q hq hy=>by
  unfold Rv;split
  .rename_i hb;show hy.set λhv=>?_;have m:=hf q hq;have kq:=k q hq;unfold ask at m;rw[MP Y] at m;have e1:((q.2.1.toNat:Nat):Int)=q.2.1:=Y;have e2:((q.1.toNat:Nat):Int)=q.1:=(by have:=kq.1; lia);have h3:=hy q.2.1.toNat q.1.toNat;rw[e1,e2] at h3 ⊢;rcases xj (y q.2.1.toNat q.1.toNat) q.2.2 with e | e <;> rw[e] at hv ⊢ <;> lia
  .exact hy
 exact fP (Sd f) _ _ _ h2 λy a _ hy=>hy.mid
theorem rJ {n:Nat}(k: ∀r∈rs,QO n r) (h:df n rs=true) (f:Int->Int): ¬Met rs f:=λhf=>by
 unfold df at h;rw[List.any_eq_true] at h;obtain⟨i,_,hi⟩:=h;have hi:=M9 hi;have:=lb k hf i i Y;lia
def Rf (M N:Mt):Prop:= ∀i j,M i j<=N i j
theorem Rf.refl (M:Mt):Rf M M:=λ_ _=>Np _
theorem Rf.trans {N eQ:Mt}(h:Rf M N) (k:Rf N eQ):Rf M eQ:=λi j=>NA (h i j) (k i j)
theorem D9 {b:Nat}{v:Int}:Rf M (setM M a b (mx (M a b) v)):=λi j=>by
 unfold setM;split;.rename_i e; rw[e.1,e.2]; exact fH _ _
 .exact Np _
theorem md {α:Type}(f:Mt->α->Mt) (h: ∀M a,Rf M (f M a)) (l:List α) (M:Mt):Rf M (l.foldl f M):=fP (Rf M) f l M (Rf.refl M) λy a _ hy=>hy.trans (h y a)
theorem D0 {n k:Nat}(M:Mt):Rf M (mid n M k):=md _ (λM a=>by
 unfold lJ;split;.exact Rf.refl M
 .show md _ (λM b=>?_) _ M;unfold RE;split;.exact D9
  .exact Rf.refl M) _ M
theorem Ck (M:Mt) (q:ao):Rf M (Rv M q):=by
 unfold Rv;split;.exact D9
 .exact Rf.refl M
theorem An: ∀(m k:Nat),k < m->(List.range m).foldl xb (λ_ _=> -1) k k=0
 | 0,k,h=>absurd h (NP _)
 | m+1,k,h=>by
  rw[Oh,Og];change setM ((List.range m).foldl xb (λ_ _=> -1)) m m 0 k k=0;unfold setM;split;.rfl
  .exact An m k Y
def U (n k:Nat) (D:Mt):Mt:=λi j=>if i < n/\j < n/\0<=D i k/\0<=D k j then mx (D i j) (D i k+D k j) else D i j
variable{D:Mt}
theorem Gm {n k:Nat}(h:D k k=0) (i:Nat):U n k D i k=D i k:=by
 unfold U;split;.rw[h,Int.add_zero]; unfold mx; split <;> lia
 .rfl
theorem Gi {n k:Nat}(h:D k k=0) (j:Nat):U n k D k j=D k j:=by
 unfold U;split;.rw[h,Pe]; unfold mx; split <;> lia
 .rfl
theorem xX {n k:Nat}(h:D k k=0) (ha:a < n) (hp:0<=D a k): ∀b,b<=n->(List.range b).foldl (RE k a) (λi j=>if i < a then U n k D i j else D i j)=λi j=>if i < a\/(i=a/\j < b) then U n k D i j else D i j
 | 0,_=>by
  funext i j;simp
 | b+1,hb=>by
  rw[Oh,Og,xX h ha hp b Y];change RE k a (λi j=>if i < a\/(i=a/\j < b) then U n k D i j else D i j) b=_;have e1: ∀j,(λi j=>if i < a\/(i=a/\j < b) then U n k D i j else D i j:Mt) k j=D k j:=λj=>by
   change (if k < a\/(k=a/\j < b) then U n k D k j else D k j)=D k j;split;.exact Gi h j
   .rfl
  have e2:(λi j=>if i < a\/(i=a/\j < b) then U n k D i j else D i j:Mt) a k=D a k:=by
   change (if a < a\/(a=a/\k < b) then U n k D a k else D a k)=D a k;split;.exact Gm h a
   .rfl
  have e3:(λi j=>if i < a\/(i=a/\j < b) then U n k D i j else D i j:Mt) a b=D a b:=by
   change (if a < a\/(a=a/\b < b) then U n k D a b else D a b)=D a b;rw[MP Y]
  unfold RE;rw[e1,e2,e3];funext i j;by_cases hc:0<=D k b
  .rw[MU hc];unfold setM;by_cases e:i=a/\j=b
   .rw[MU e,MU Y,e.1,e.2];unfold U;rw[MU ⟨ha,Y,hp,hc⟩]
   .rw[MP e];change (if i < a\/(i=a/\j < b) then U n k D i j else D i j)=_;by_cases e':i < a\/(i=a/\j < b);.rw[MU e',MU Y]
    .rw[MP e',MP Y]
  .rw[MP hc];by_cases e':i < a\/(i=a/\j < b);.rw[MU e',MU Y]
   .rw[MP e'];split
    .rename_i e'';have:i=a/\j=b:=Y;rw[this.1,this.2];unfold U;rw[MP (λz=>hc z.2.2.2)]
    .rfl
theorem Ci {n k:Nat}(h:D k k=0): ∀a,a<=n->(List.range a).foldl (lJ n k) D=λi j=>if i < a then U n k D i j else D i j
 | 0,_=>by
  funext i j;simp
 | a+1,ha=>by
  rw[Oh,Og,Ci h a Y];change lJ n k (λi j=>if i < a then U n k D i j else D i j) a=_;unfold lJ;have e:(λi j=>if i < a then U n k D i j else D i j:Mt) a k=D a k:=MP (OC a);rw[e];by_cases hp:D a k < 0
  .rw[MU hp];funext i j;by_cases e1:i < a;.rw[MU e1,MU Y]
   .rw[MP e1];split
    .have:i=a:=Y;rw[this];unfold U;rw[MP (λz=>absurd z.2.2.1 Y)]
    .rfl
  .rw[MP hp];change (List.range n).foldl (RE k a) _=_;rw[xX h Y Y n (MZ n)];funext i j;by_cases e1:i < a;.rw[MU (.inl e1),MU Y]
   .by_cases e2:i=a
    .by_cases e3:j < n;.rw[MU (.inr ⟨e2,e3⟩),MU Y]
     .rw[MP Y,MU Y];unfold U;rw[MP (λz=>e3 z.2.1)]
    .rw[MP Y,MP Y]
theorem K1 {n k:Nat}(h:D k k=0):mid n D k=U n k D:=by
 unfold mid;rw[Ci h n (MZ n)];funext i j;split;.rfl
 .rename_i e;unfold U;rw[MP (λz=>e z.1)]
def Cl (n k:Nat) (D:Mt):Prop:= ∀m,m < k-> ∀a b,a < n->b < n->0<=D a m->0<=D m b->D a m+D m b<=D a b
theorem Cl.step {n k:Nat}(hk:k < n) (h:D k k=0) (c:Cl n k D):Cl n (k+1) (U n k D):=by
 have f1: ∀i j,D i j<=U n k D i j:=λi j=>by
  unfold U;split;.exact fH _ _
  .exact Np _
 have f2: ∀i j,i < n->j < n->0<=D i k->0<=D k j->D i k+D k j<=U n k D i j:=λi j a b p q=>by
  unfold U;rw[MU ⟨a,b,p,q⟩];exact ja _ _
 have f3: ∀i j,U n k D i j=D i j\/(0<=D i k/\0<=D k j/\U n k D i j=D i k+D k j):=λi j=>by
  unfold U;split
  .rename_i z;rcases xj (D i j) (D i k+D k j) with e | e
   .exact .inl e
   .exact .inr ⟨z.2.2.1,z.2.2.2,e⟩
  .exact .inl rfl
 intro m hm a b ha hb h1 h2;by_cases e:m=k
 .subst e;rw[Gm h] at h1 ⊢;rw[Gi h] at h2 ⊢;exact f2 a b ha hb h1 h2
 .have hm:m < k:=Y;have hmn:m < n:=Y;have g1:=f1 a b;have g2:=f2 a b ha hb;rcases f3 a m with e1 | ⟨p1,p2,e1⟩ <;> rcases f3 m b with e2 | ⟨p3,p4,e2⟩ <;> rw[e1] at h1 ⊢ <;> rw[e2] at h2 ⊢
  .have:=c m hm a b ha hb h1 h2;lia
  .have:=c m hm a k ha hk h1 p3;have:=g2 Y p4;lia
  .have:=c m hm k b hk hb p2 h2;have:=g2 p1 Y;lia
  .have:=c m hm k k hk hk p2 p3;have:=g2 p1 p4;lia
theorem qc {n:Nat}(h: ∀k,k < n->aE n rs k k<=0):Rf (M2 n rs) (aE n rs)/\(∀k,k < n->aE n rs k k=0)/\Cl n n (aE n rs):=by
 have hup: ∀k,k<=n->Rf ((List.range k).foldl (mid n) (M2 n rs)) (aE n rs):=λk hk=>by
  have e:List.range n=List.range k++(List.range (n - k)).map (k+ ·):=by
   have:=List.range_add (n:=k) (m:=n - k)
   rwa [show k+(n - k)=n by lia] at this
  unfold aE;rw[e,Og];exact md _ (λM a=>D0 M) _ _
 have hd0: ∀k,k < n->M1 n k k=0:=λk hk=>An n k hk;have h12:Rf (M1 n) (M2 n rs):=md _ Ck _ _;have hd: ∀m,m<=n-> ∀k,k < n->(List.range m).foldl (mid n) (M2 n rs) k k=0:=λm hm k hk=>by
  have a:=hup m hm k k;have b:=h k hk;have c:Rf (M2 n rs) ((List.range m).foldl (mid n) (M2 n rs)):=md _ (λM a=>D0 M) _ _;have:=c k k;have:=h12 k k;have:=hd0 k hk;lia
 have cl: ∀m,m<=n->Cl n m ((List.range m).foldl (mid n) (M2 n rs)):=λm=>by
  induction m with
  | zero=>intro _ m hm; exact absurd hm (NP _)
  | succ m ih =>
   intro hm;rw[Oh,Og];change Cl n (m+1) (mid n _ m);rw[K1 (hd m Y m Y)];exact (ih Y).step Y (hd m Y m Y)
 exact⟨hup 0 (NN _),hd n (MZ n),cl n (MZ n)⟩
def big:List Nat->(Nat->Int)->Int
 | [],_=>0
 | i::l,f=>mx (big l f) (f i)
theorem BN: ∀(l:List Nat) (f:Nat->Int),0<=big l f
 | [],_=>Np _
 | i::l,f=>NA (BN l f) (fH _ _)
theorem BU: ∀(l:List Nat) (f:Nat->Int),∀i∈l,f i<=big l f
 | [],_,_,h=>by cases h
 | j::l,f,i,h=>by
  rcases M3.mp h with rfl | h
  .exact ja _ _
  .exact NA (BU l f i h) (fH _ _)
theorem Ee: ∀(l:List Nat) (f:Nat->Int) (c:Int),0<=c->(∀i∈l,f i<=c)->big l f<=c
 | [],_,_,h,_=>h
 | j::l,f,c,h,k=>uQ (Ee l f c h λi hi=>k i (M4 _ hi)) (k j (M7))
theorem tG: ∀rs:List ao,∃C:Int,0<=C/\ ∀r∈rs,r.2.2<=C
 | []=>⟨0,Np _,λr h=>by cases h⟩
 | r::rs=>by
  obtain⟨C,h0,h⟩:=tG rs;show⟨mx C r.2.2,NA h0 (fH _ _),λq hq=>?_⟩;rcases M3.mp hq with rfl | hq
  .exact ja _ _
  .exact NA (h q hq) (fH _ _)
theorem rY {n:Nat}: ∀(rs:List ao) (M:Mt) (q:ao),q∈rs->0<=q.2.1->q.2.2<=rs.foldl Rv M q.2.1.toNat q.1.toNat
 | [],_,_,h,_=>by cases h
 | r::rs,M,q,h,hb=>by
  rcases M3.mp h with rfl | h
  .show NA ?_ (md Rv Ck rs (Rv M q) _ _);unfold Rv;rw[MU hb];unfold setM;rw[MU ⟨Z,Z⟩];exact ja _ _
  .exact rY (n:=n) rs (Rv M r) q h hb
theorem sN {n:Nat}(k: ∀r∈rs,QO n r) (h:df n rs=false): ∃f:Int->Int,(∀i,0<=f i)/\Met rs f:=by
 have hd: ∀k,k < n->aE n rs k k<=0:=λi hi=>by
  unfold df at h;rw[Pz] at h;have:=h i (Nh.mpr hi);have: ¬ 0 < aE n rs i i:=λz=>this (Nv z);lia
 obtain⟨up,dg,cl⟩:=qc hd;obtain⟨C,c0,hC⟩:=tG rs;show⟨λv=>C+big (List.range n) λu=>aE n rs u v.toNat,λv=>?_,λr hr=>?_⟩
 .have:=BN (List.range n) λu=>aE n rs u v.toNat;change 0<=C+_;lia
 .obtain⟨r1,r2,r3,r4,r5⟩:=k r hr;have hCr:=hC r hr;have hb0:=BN (List.range n) λu=>aE n rs u r.1.toNat;unfold ask;change (if r.2.1= -1 then r.2.2 else C+big (List.range n) (λu=>aE n rs u r.2.1.toNat)+r.2.2)<=C+big (List.range n) (λu=>aE n rs u r.1.toNat);by_cases e:r.2.1= -1
  .rw[MU e];lia
  .rw[MP e];have hl:r.2.2<=aE n rs r.2.1.toNat r.1.toNat:=NA (rY (n:=n) rs (M1 n) r hr Y) (up _ _);have t1:=BU (List.range n) (λu=>aE n rs u r.1.toNat);have t2:big (List.range n) (λu=>aE n rs u r.2.1.toNat)<=big (List.range n) (λu=>aE n rs u r.1.toNat) - r.2.2:=by
    show Ee _ _ _ ?_ λu hu=>?_
    .have:=t1 r.2.1.toNat (Nh.mpr (by lia));have:aE n rs r.2.1.toNat r.1.toNat<=_:=this;lia
    .have hu':=Nh.mp hu;have:aE n rs r.2.1.toNat r.1.toNat<=_:=t1 r.2.1.toNat (Nh.mpr (by lia));have:aE n rs u r.1.toNat<=_:=t1 u hu;change aE n rs u r.2.1.toNat<=_;by_cases hp:0<=aE n rs u r.2.1.toNat
     .have:=cl r.2.1.toNat Y u r.1.toNat hu' Y hp Y;lia
     .lia
   lia
end MA
namespace L2
open PySem PySem.Spec PyProof.Rows
theorem Bm {lo:Int}{n:Nat}{te:TE}{own:List Str}{fr:List Nat}{O:St}{H:Hp}{Q:VK}(Pv:Nat->List V->Hp->Prop) (h0:Pv 0 [] H) (hz:n < sizeLine) (hlen: ∀i ys H,Pv i ys H->ys.length=i)
  (hs: ∀i ys H2,i < n->Pv i ys H2->te ((cH own fr O).set 0 (some (.int (lo+(i:Nat))))) H2 λy H6=>Pv (i+1) (ys++[y]) H6)
  (hq: ∀ys H2 p,Pv n ys H2->H2 p=none->Q (.ref p) (upd H2 p (.lst ys))):nz (Sb lo n) (aM 0) kx te own fr O H Q:=by
 show⟨λi m ys H2=>i<=n/\m=n - i/\Pv i ys H2,⟨n,NN _,Z,h0⟩,?_⟩;rintro i m ys H2 ⟨hi,rfl,hp⟩;by_cases hlt:i < n
 .show .inr ⟨hlt,by rw[hlen i ys H2 hp]; lia,λx H3 hy=>?_⟩;obtain⟨rfl,rfl⟩:=hy;have:=hs i ys H3 hlt hp;have e:(te ((cH own fr O).set 0 (some (.int (lo+(i:Nat))))) H3 λy H6=> ∃m',m' < n - i/\i+1<=n/\m'=n - (i+1)/\Pv (i+1) (ys++[y]) H6)=te ((cH own fr O).set 0 (some (.int (lo+(i:Nat))))) H3 λy H6=>Pv (i+1) (ys++[y]) H6:=by
   congr 1;funext y H6;exact propext ⟨λ⟨_,_,_,_,z⟩=>z,λz=>⟨n - (i+1),Y,hlt,Z,z⟩⟩
  rw[<-e] at this;exact this
 .have e:i=n:=Y;subst e;exact .inl ⟨MZ _,by rw[hlen _ ys H2 hp]; lia,λp np=>hq ys H2 p hp np⟩
def hU (n:Nat) (M:MA.Mt) (i:Nat):List V:=(List.range n).map λj=>V.int (M i j)
theorem jU {n:Nat}{M:MA.Mt}{i:Nat}:(hU n M i).length=n:=by simp[hU]
structure Rg (H0 H:Hp) (n:Nat) (p:Addr) (ds:List Addr) (M:MA.Mt):Prop where
 top:H p=some (.lst (ds.map V.ref))
 len:ds.length=n
 nd:ds.Nodup
 np:p∉ds
 row: ∀i d,ds[i]?=some d->H d=some (.lst (hU n M i))
 sm:ag H0 H
 fp:H0 p=none
 fd: ∀d∈ds,H0 d=none
section
variable {H0 H:Hp}{n:Nat}{p:Addr}{ds:List Addr}{M:MA.Mt}
theorem Rg.at (m:Rg H0 H n p ds M){a:Int}(h0:0<=a) (h1:a < n): ∃d,ds[a.toNat]?=some d/\QV (ds.map V.ref) a=some (.ref d)/\H d=some (.lst (hU n M a.toNat)):=by
 have hn:a.toNat < ds.length:=by rw[m.len]; lia
 show⟨ds[a.toNat],MQ hn,?_,m.row _ _ (MQ hn)⟩;have e:a=((a.toNat:Nat):Int):=Y;have h:=bz (xs:=ds.map V.ref) (j:=a.toNat) (v:= .ref ds[a.toNat]) (by simp[hn])
 rwa [<-e] at h
theorem jf {i:Nat}{b:Int}(h0:0<=b) (h1:b < n):QV (hU n M i) b=some (.int (M i b.toNat)):=by
 have e:b=((b.toNat:Nat):Int):=Y;have h:=bz (xs:=hU n M i) (j:=b.toNat) (v:= .int (M i b.toNat)) (by
  have:b.toNat < n:=Y;simp[hU,this])
 rwa [<-e] at h
theorem Fq {a b:Nat}{v:Int}(hb:b < n):(hU n M a).set b (.int v)=hU n (MA.setM M a b v) a:=by
 show PM (by rw[ON,jU,jU]) λj h1 h2=>?_;rw[jU] at h2;rw[List.getElem_set];by_cases e:b=j
 .rw[MU e];simp only[hU,OF,Qk,MA.setM];rw[MU ⟨trivial,e.symm⟩]
 .rw[MP e];simp only[hU,OF,Qk,MA.setM];rw[MP (λz=>e z.2.symm)]
theorem Hd {a b i:Nat}{v:Int}(h:i≠a):hU n (MA.setM M a b v) i=hU n M i:=by
 unfold hU;show OE λj _=>?_;unfold MA.setM;rw[MP (λz=>h z.1)]
theorem Rg.put (m:Rg H0 H n p ds M){a b:Nat}{d:Addr}{v:Int}(hd:ds[a]?=some d) (hb:b < n):Rg H0 (upd H d (.lst ((hU n M a).set b (.int v)))) n p ds (MA.setM M a b v):=by
 have hmem:d∈ds:=MS hd;show⟨?_,m.len,m.nd,m.np,λi e he=>?_,m.sm.eI (m.fd d hmem),m.fp,m.fd⟩
 .rw[ah (show p≠d from λz=>m.np (by rw[z]; exact hmem))];exact m.top
 .by_cases q:i=a
  .subst q;rw[hd] at he;cases he;rw[aa,Fq hb]
  .have ne:e≠d:=λz=>by
    subst z;obtain⟨h1,e1⟩:=MW.mp hd;obtain⟨h2,e2⟩:=MW.mp he;exact q ((OY m.nd).mp (e2.trans e1.symm))
   rw[ah ne,Hd q];exact m.row i e he
theorem Rg.grow {ys:List V}{H2:Hp}{p:Addr}(ds:List Addr) (e:ys=ds.map V.ref) (hl:ds.length=n) (nd:ds.Nodup) (hr: ∀d∈ds,H2 d=some (.lst (List.replicate n (V.int (-1))))/\H0 d=none) (sm:ag H0 H2) (hp:H2 p=none) :
  Rg H0 (upd H2 p (.lst ys)) n p ds (λ_ _=> -1):=by
 have ne: ∀d∈ds,d≠p:=λd hd=>av (hr d hd).1 hp;show⟨by rw[aa,e],hl,nd,λz=>ne p z rfl,λi d hi=>?_,sm.trans (ag.upd hp),sm.free hp,λd hd=>(hr d hd).2⟩;have hd:=MS hi;rw[ah (ne d hd),(hr d hd).1];congr 2;unfold hU;rw[List.map_const',NK]
end
theorem dB {α:Type}(f:α->Nat->α) (x:α) (i:Nat):(List.range (i+1)).foldl f x=f ((List.range i).foldl f x) i:=by
 rw[Oh,Og];rfl
theorem foldl_take_succ {α β:Type}(f:α->β->α) (x:α){l:List β}{i:Nat}{b:β}(h:l[i]?=some b):(l.take (i+1)).foldl f x=f ((l.take i).foldl f x) b:=by
 rw[NF,h,Og];rfl
def NT (o:HO):Prop:= ∀ps,o≠ .tbl ps
structure d6 (H H':Hp):Prop where
 nt: ∀b o,H b=some o->NT o->H' b=some o
 tb: ∀b ps,H b=some (.tbl ps)-> ∃ps',H' b=some (.tbl ps')
theorem xy {xs:List V}:NT (.lst xs):=λ_ z=>by cases z
theorem xM {a b:Int}:NT (.Q1 a b):=λ_ z=>by cases z
section
variable {K:QG}{H H' H2:Hp}{a l r:Addr}{xs ys:List V}{rs qs:List MA.ao}{v:V}{q:MA.ao}{o:HO}
theorem ag.n (h:ag H H'):d6 H H':=⟨λb o e _=>h b o e,λb ps e=>⟨ps,h _ _ e⟩⟩
theorem d6.trans (h:d6 H H') (k:d6 H' H2):d6 H H2:=⟨λb o e n=>k.nt b o (h.nt b o e n) n,λb ps e=>by
 obtain⟨ps',e'⟩:=h.tb b ps e;exact k.tb b ps' e'⟩
theorem d6.seq (e:d6 H H') (h:QF K H a xs):QF K H' a xs:=by
 rcases h with (h | ⟨o,h⟩) | h
 .exact .inl (.inl (e.nt _ _ h λ_ z=>by cases z))
 .exact .inl (.inr ⟨o,e.nt _ _ h λ_ z=>by cases z⟩)
 .exact .inr h
theorem d6.gM (e:d6 H H') (h:QK K H a xs):QK K H' a xs:=by
 rcases h with (h | ⟨o,h⟩) | h
 .exact .inl (.inl (e.nt _ _ h λ_ z=>by cases z))
 .exact .inl (.inr ⟨o,e.nt _ _ h λ_ z=>by cases z⟩)
 .exact .inr h
theorem gz.Av (e:d6 H H') (h:gz K H v q):gz K H' v q:=by
 obtain⟨a,rfl,h⟩:=h;exact⟨a,Z,e.gM h⟩
theorem bQ.Av (e:d6 H H') (h:bQ K H xs rs):bQ K H' xs rs:=by
 induction h with
 | nil=>exact .nil
 | cons t _ ih=>exact .cons (t.Av e) ih
theorem xD {P f c:Addr}{ps:Array Value}{pos:Pos}{qual:Str}{params:Arguments}{body:Expr}{scope:Scope}{clos:List (Str×Addr)}(hP:H P=some (.tbl ps)) (hc:H c=none) (hf:H f=none) (hcP:c≠P) (hfP:f≠P) (hcf:c≠f) :
  d6 H (lH H P ps pos qual params body scope clos f c)/\(lH H P ps pos qual params body scope clos f c) P=some (.tbl (ps++ #[rawInt pos.line,rawInt pos.col,.ref c])):=by
 have e1:(lH H P ps pos qual params body scope clos f c) P=some (.tbl (ps++ #[rawInt pos.line,rawInt pos.col,.ref c])):=by
  unfold lH;rw[ah (Nu hfP),ah (Nu hcP),aa]
 show⟨⟨λb o e n=>?_,λb ps' e=>?_⟩,e1⟩
 .have b1:b≠f:=av e hf;have b2:b≠c:=av e hc;have b3:b≠P:=λz=>by
   rw[z,hP] at e;exact n _ (Nc e).symm
  unfold lH;rw[ah b1,ah b2,ah b3];exact e
 .by_cases z:b=P
  .rw[z];exact⟨_,e1⟩
  .show⟨ps',?_⟩;unfold lH;rw[ah (av e hf),ah (av e hc),ah z];exact e
end
variable{key:Nat->Int}{is:List Nat}
theorem fh.len {n:Nat}(h:fh n key is):is.length=n:=h.1.length_eq.trans NK
theorem fh.lt {n:Nat}(h:fh n key is): ∀i∈is,i < n:=λi hi=>Nh.mp (h.1.mem_iff.mp hi)
theorem fh.nodup {n:Nat}(h:fh n key is):is.Nodup:=h.1.nodup_iff.mpr List.nodup_range
def aH (is:List Nat):List V:=is.map λi=>V.int (i:Nat)
theorem oV {is:List Nat}{k:Int}(h0:0<=k) (h1:k < is.length):QV (aH is) k=some (.int (is.getD k.toNat 0:Nat)):=by
 have hn:k.toNat < is.length:=Y;have e:k=((k.toNat:Nat):Int):=Y;have h:=bz (xs:=aH is) (j:=k.toNat) (v:= .int (is.getD k.toNat 0:Nat)) (by simp[aH,hn])
 rwa [<-e] at h
theorem getD_mem {is:List Nat}{k:Nat}(h:k < is.length):is.getD k 0∈is:=by
 rw[MX,MQ h];exact Ot h
end L2
namespace MA
def Up (n:Nat) (lev:Int->Int) (q:ao):Prop:=QO n q/\(q.2.1= -1->q.2.2<=99999)/\(q.2.1≠ -1->q.2.2<=99/\(lev q.2.1 < lev q.1\/(lev q.2.1=lev q.1/\q.2.2=0)))
theorem JU {n:Nat}{lev:Int->Int}{rs:List ao}(h0: ∀i:Int,0<=i->i < n->0<=lev i) (h: ∀q∈rs,Up n lev q):Met rs λv=>100*lev v+99999:=λq hq=>by
 obtain⟨⟨k1,k2,k3,k4,k5⟩,a,b⟩:=h q hq;have:=h0 q.1 k1 k2;unfold ask;by_cases e:q.2.1= -1
 .rw[MU e];have:=a e;change q.2.2<=100*lev q.1+99999;lia
 .rw[MP e];have:=b e;change 100*lev q.2.1+99999+q.2.2<=100*lev q.1+99999;lia
end MA
namespace L2
open PySem PySem.Spec PyProof.Rows
section
variable {κ:Type} [DecidableEq κ]
def aR (kvs:List (κ×V)) (k:κ):Option V:=(kvs.find? λkv=>decide (kv.1=k)).map (·.2)
def putK (kvs:List (κ×V)) (k:κ) (v:V):List (κ×V) :=
 if (kvs.any λkv=>decide (kv.1=k))=true then kvs.map (λkv=>if kv.1=k then (kv.1,v) else kv) else kvs++[(k,v)]
def fv (kvs:List (κ×V)) (k:κ):List (κ×V):=kvs.filter λkv=>decide (kv.1≠k)
theorem E3 {k:κ}:aR ([]:List (κ×V)) k=none:=rfl
variable{r:List (κ×V)}
theorem cR {p:κ×V}{k:κ}(e:p.1=k):aR (p::r) k=some p.2:=by simp[aR,OO,e]
theorem cI {p:κ×V}{k:κ}(e: ¬p.1=k):aR (p::r) k=aR r k:=by simp[aR,OO,e]
theorem mz (k:κ): ∀kvs:List (κ×V),(kvs.any λkv=>decide (kv.1=k))=(aR kvs k).isSome
 | []=>rfl
 | p::r=>by
  rw[Ph];by_cases e:p.1=k;.simp only[cR e,Nv e,Bool.true_or,Option.isSome_some]
  .rw[cI e,Nz e,Bool.false_or]; exact mz k r
theorem xY (k j:κ) (y:V): ∀kvs:List (κ×V),aR (kvs.map λkv=>if kv.1=k then (kv.1,y) else kv) j=(aR kvs j).map λx=>if j=k then y else x
 | []=>rfl
 | p::r=>by
  have ih:=xY k j y r;rw[ND];by_cases h:p.1=k
  .rw[MU h];by_cases e:p.1=j;.rw[cR (p:=(p.1,y)) e,cR e,P7,MU (e.symm.trans h)]
   .rw[cI (p:=(p.1,y)) e,cI e,ih]
  .rw[MP h];by_cases e:p.1=j;.rw[cR (p:=p) e,cR e,P7,MP (λz=>h (e.trans z))]
   .rw[cI (p:=p) e,cI e,ih]
theorem vT (k j:κ) (y:V): ∀kvs:List (κ×V),aR kvs k=none->aR (kvs++[(k,y)]) j=if j=k then some y else aR kvs j
 | [],_=>by
  by_cases e:k=j;.rw[MU e.symm]; exact cR (p:=(k,y)) e
  .rw[MP (λz=>e z.symm)]; exact cI (p:=(k,y)) e
 | p::r,hn=>by
  rw[Qx];have hk: ¬p.1=k:=λz=>by rw[cR z] at hn; cases hn
  rw[cI hk] at hn;have ih:=vT k j y r hn;by_cases e:p.1=j;.rw[cR e,cR e,MP (λz=>hk (e.trans z))]
  .rw[cI e,cI e,ih]
theorem kg (kvs:List (κ×V)) (k j:κ) (y:V):aR (putK kvs k y) j=if j=k then some y else aR kvs j:=by
 unfold putK;by_cases a:(kvs.any λkv=>decide (kv.1=k))=true
 .rw[MU a,xY];rw[mz] at a;by_cases e:j=k
  .obtain⟨x,hx⟩:=Oz.mp a;rw[MU e,e,hx,P7,MU rfl]
  .rw[MP e];cases aR kvs j with
   | none=>rfl
   | some x=>rw[P7,MP e]
 .rw[MP a];show vT k j y kvs ?_;rw[mz] at a;cases q:aR kvs k with
  | none=>rfl
  | some x=>rw[q] at a; exact (a rfl).elim
theorem kB (kvs:List (κ×V)) (k:κ) (v:V):(putK kvs k v).length<=kvs.length+1:=by
 unfold putK;split;.rw[MO]; lia
 .rw[M0,Nk,O6]; lia
variable{kvs:List (κ×V)}
theorem pY {k:κ}(v:V) (h:aR kvs k=none):putK kvs k v=kvs++[(k,v)]:=by
 unfold putK;rw[mz,h];exact MP aS
variable{o:Option V}{u:Option Value}
theorem fY.i7(r:fY o u):o.isSome=u.isSome:=by
 cases o with
 | none=>cases u with
  | none=>rfl
  | some _=>exact (show False from r).elim
 | some _=>cases u with
  | none=>exact (show False from r).elim
  | some _=>rfl
theorem fY.getD {d:V}{d':Value}(r:fY o u) (rd:RelV d d'):RelV (o.getD d) (u.getD d'):=by
 cases o with
 | none=>cases u with
  | none=>exact rd
  | some _=>exact (show False from r).elim
 | some _=>cases u with
  | none=>exact (show False from r).elim
  | some _=>exact r
variable{vs:List (κ×Value)}
theorem KV.val(r:KV kvs vs) (k:κ):fY (aR kvs k) (valueAt vs k):=by
 unfold KV at r;induction r with
 | nil=>exact True.intro
 | @cons p q ps qs h t ih =>
  obtain⟨h1,h2⟩:=h;by_cases e:p.1=k
  .have e':q.1=k:=h1.symm.trans e;have b:valueAt (q::qs) k=some q.2:=(by simp[valueAt,OO,e']);rw[cR e,b]; exact h2
  .have e': ¬q.1=k:=λz=>e (h1.trans z);have b:valueAt (q::qs) k=valueAt qs k:=(by simp[valueAt,OO,e']);rw[cI e,b]; exact ih
theorem KV.any(r:KV kvs vs) (k:κ):(kvs.any λkv=>decide (kv.1=k))=vs.any λkv=>decide (kv.1=k):=by
 unfold KV at r;induction r with
 | nil=>rfl
 | cons h t ih=>rw[Ph,Ph,ih,h.1]
theorem KV.EB(r:KV kvs vs) (k:κ){y:V}{u:Value}(ry:RelV y u) :
  KV (kvs.map λkv=>if kv.1=k then (kv.1,y) else kv) (vs.map λkv=>if kv.1=k then (kv.1,u) else kv):=by
 unfold KV at r ⊢;induction r with
 | nil=>exact .nil
 | @cons p q ps qs h t ih =>
  rw[ND,ND];show .cons ?_ ih;obtain⟨h1,h2⟩:=h;by_cases e:p.1=k;.rw[MU e,MU (h1.symm.trans e)]; exact⟨h1,ry⟩
  .rw[MP e,MP (λz=>e (h1.trans z))]; exact⟨h1,h2⟩
theorem KV.put(r:KV kvs vs) (k:κ){y:V}{u:Value}(ry:RelV y u):KV (putK kvs k y) (stored vs k u):=by
 unfold putK stored;rw[r.any k];by_cases e:(vs.any λkv=>decide (kv.1=k))=true;.rw[MU e,MU e]; exact r.EB k ry
 .rw[MP e,MP e]; exact Paired.snoc r ⟨Z,ry⟩
theorem KV.drop(r:KV kvs vs) (k:κ):KV (fv kvs k) (without vs k):=by
 unfold KV at r ⊢;unfold fv without;induction r with
 | nil=>exact .nil
 | @cons p q ps qs h t ih =>
  obtain⟨h1,h2⟩:=h;rw[OZ,OZ];by_cases e:p.1=k
  .have a: ¬decide (p.1≠k)=true:=by simp[e]
   have b: ¬decide (q.1≠k)=true:=(by simp[h1.symm.trans e]);rw[MP a,MP b]; exact ih
  .have e': ¬q.1=k:=λz=>e (h1.trans z);have a:decide (p.1≠k)=true:=(by simp[e]);have b:decide (q.1≠k)=true:=(by simp[e']);rw[MU a,MU b]; exact .cons ⟨h1,h2⟩ ih
theorem KV.length(r:KV kvs vs):kvs.length=vs.length:=Qn r
theorem pI (kvs:List (κ×V)) (k:κ):(fv kvs k).length<=kvs.length:=NQ _ _
end
variable{P:Program}{w:World}
theorem lY {k:Key}{u:Value}(r:RelV (kV k) u):(cv P w).is k u=true:=by
 cases k with
 | inl i=>obtain⟨t,e⟩:=(show ∃t,u=Value.int i t from r); subst e; exact zf P w i t
 | inr x=>obtain⟨t,e⟩:=(show ∃t,u=Value.str x t from r); subst e; exact zd P w x t
theorem wA: ∀ {ks:List Key}{us:List Value},Vals (ks.map kV) us->ItemsAre (cv P w) ks us
 | [],_,r=>by rw[P5] at r; cases r; exact .nil
 | k::ks,_,r=>by
  rw[ND] at r;cases r with
  | cons h t=>exact .cons (lY h) (wA t)
abbrev KT (H:Hp):List (List Key×V)->List (List Key×Addr×Value)->Prop:=Paired λp q=>p.1=q.1/\H q.2.1=some (.tup (p.1.map kV))/\RelV p.2 q.2.2
variable{H:Hp}{kvs:List (List Key×V)}{xs:List (List Key×Addr×Value)}
theorem KT.val(r:KT H kvs xs) (k:List Key):fY (aR kvs k) ((atKey xs k).map (·.2)):=by
 induction r with
 | nil=>exact True.intro
 | @cons p q ps qs h t ih =>
  obtain⟨h1,_,h2⟩:=h;by_cases e:p.1=k
  .have e':q.1=k:=h1.symm.trans e;have b:atKey (q::qs) k=some q.2:=(by simp[atKey,OO,e']);rw[cR e,b]; exact h2
  .have e': ¬q.1=k:=λz=>e (h1.trans z);have b:atKey (q::qs) k=atKey qs k:=(by simp[atKey,OO,e']);rw[cI e,b]; exact ih
theorem KT.EB(r:KT H kvs xs) (k:List Key){y:V}{u:Value}(ry:RelV y u) :
  KT H (kvs.map λkv=>if kv.1=k then (kv.1,y) else kv) (xs.map (putAt k u)):=by
 induction r with
 | nil=>exact .nil
 | @cons p q ps qs h t ih =>
  rw[ND,ND];show .cons ?_ ih;obtain⟨h1,h2,h3⟩:=h;unfold putAt;by_cases e:p.1=k;.rw[MU e,MU (h1.symm.trans e)]; exact⟨h1,h2,ry⟩
  .rw[MP e,MP (λz=>e (h1.trans z))]; exact⟨h1,h2,h3⟩
theorem KT.put(r:KT H kvs xs) (k:List Key){b:Addr}{y:V}{u:Value}(hb:H b=some (.tup (k.map kV))) (ry:RelV y u) :
  KT H (putK kvs k y) (storedH xs k b u):=by
 have e:(kvs.any λkv=>decide (kv.1=k))=(atKey xs k).isSome:=by
  rw[mz,(r.val k).i7,Qs]
 unfold putK storedH;rw[e];by_cases q:(atKey xs k).isSome=true;.rw[MU q,MU q]; exact r.EB k ry
 .rw[MP q,MP q]; exact Paired.snoc r ⟨Z,hb,ry⟩
theorem KT.keeps {H':Hp}(r:KT H kvs xs) (ht: ∀b ys,H b=some (.tup ys)->H' b=some (.tup ys)):KT H' kvs xs :=
 Paired.E2 r λ_ _ z=>⟨z.1,ht _ _ z.2.1,z.2.2⟩
section
variable {P:Program}{w:World}{H:Hp}{h:Heap}{a:Addr}
theorem Gg {u:HO}(ok:QW P w H h) (e:Rd H a u):cW P w H h a u:=e.ok ok
theorem pE {kvs:List (Key×V)}(ok:QW P w H h) (e:Rd H a (.dK kvs)):kvs.length<=sizeLine/\(a == sysModules)=false/\ ∃vs,KV kvs vs/\h.DictOf (cv P w) a vs :=
 show cW P w H h a (.dK kvs) from Gg ok e
theorem xg {kvs:List (Key×V)}(ok:QW P w H h) (e:H a=some (.dK kvs)):kvs.length<=sizeLine/\(a == sysModules)=false/\ ∃vs,KV kvs vs/\h.DictOf (cv P w) a vs:=pE ok (.inl e)
theorem o6 {ks:List Key}(ok:QW P w H h) (e:H a=some (.tup (ks.map kV))):(tupleKind (cv P w)).is h ks a:=by
 obtain⟨_,its,r,o,h1,h2,n,h3⟩:=(show cW P w H h a (.tup (ks.map kV)) from ok a _ e)
 exact⟨o,its.toArray,n,h1,h2,h3,by simpa using wA r⟩
variable{kvs:List (List Key×V)}
theorem pX(ok:QW P w H h) (e:Rd H a (.dT kvs)):kvs.length<=sizeLine/\(a == sysModules)=false /\
  ∃xs,KT H kvs xs/\h.DictOfH (tupleKind (cv P w)) a xs:=by
 obtain⟨z,y,xs,r,o,es,ep,h1,h2,h3,h4,h5⟩:=(show cW P w H h a (.dT kvs) from Gg ok e)
 show⟨z,y,xs,r,o,es,ep,h1,h2,h3,h4,λx hx=>?_,h5⟩;have all: ∀ {l:List (List Key×V)}{m:List (List Key×Addr×Value)},KT H l m-> ∀x∈m,(tupleKind (cv P w)).is h x.1 x.2.1:=by
  intro l m q;induction q with
  | nil=>intro x hx; exact nomatch hx
  | @cons p q ps qs hq t ih =>
   intro x hx;rcases M3.mp hx with e | hx
   .subst e;exact o6 ok (by rw[<-hq.1]; exact hq.2.1)
   .exact ih x hx
 exact all r x hx
theorem K5(ok:QW P w H h) (e:H a=some (.dT kvs)):kvs.length<=sizeLine/\(a == sysModules)=false /\
  ∃xs,KT H kvs xs/\h.DictOfH (tupleKind (cv P w)) a xs:=pX ok (.inl e)
end
def dJ (H:Hp) (a:Addr) (y:V) (r:Option V):Prop :=
 (∃kvs k,Rd H a (.dK kvs)/\y=kV k/\r=aR kvs k)\/ ∃kvs k b,Rd H a (.dT kvs)/\y= .ref b/\H b=some (.tup (k.map kV))/\r=aR kvs k
def qa (H:Hp) (a:Addr) (y v:V) (H':Hp):Prop :=
 (∃kvs k,H a=some (.dK kvs)/\y=kV k/\kvs.length < sizeLine/\H'=upd H a (.dK (putK kvs k v))) \/
 ∃kvs k b,H a=some (.dT kvs)/\y= .ref b/\H b=some (.tup (k.map kV))/\kvs.length < sizeLine/\H'=upd H a (.dT (putK kvs k v))
variable{a:Addr}
theorem dJ.k {kvs:List (Key×V)}{k:Key}(e:H a=some (.dK kvs)):dJ H a (kV k) (aR kvs k):= .inl ⟨kvs,k,.inl e,Z,Z⟩
theorem qa.k {kvs:List (Key×V)}{k:Key}{v:V}(e:H a=some (.dK kvs)) (hl:kvs.length < sizeLine):qa H a (kV k) v (upd H a (.dK (putK kvs k v))):= .inl ⟨kvs,k,e,Z,hl,Z⟩
section
variable {X:Cx}{QE:mK}{O:St}{H:Hp}{s:Shared}{a:Addr}{y v:V}{u r:Value}{o:Option V}{A:Around}{E:nE}
theorem Inv.big (I:Inv X QE O H s):sysModules < s.heap.objs.size:=by
 have h:mainGlobals < s.heap.objs.size:=(I.mod.glob.keeps I.bk).lt;exact Nat.lt_trans aS h
variable{Q:nE}
theorem Cc(hu:A.units+1 < cLine) (I:Inv X QE O H s) (g:dJ H a y (some v)) (ry:RelV y u) (h: ∀w' s',Inv X QE O H s'->RelV v w'->Q w' s') :
  wpAny (model X.prog X.w) A (getItem (.ref a) u) Q E s:=by
 rcases g with⟨kvs,k,e,ey,l⟩ | ⟨kvs,k,b,e,ey,eb,l⟩
 .subst ey;obtain⟨z,hd,vs,rel,dd⟩:=pE I.hok e;obtain⟨w',hw,rw'⟩:=fY.some_of (v:=v) (o:=valueAt vs k) (by rw[l]; exact rel.val k);exact wpAny_getItem_of (lY ry) dd.mapOf hw (h w' _ (I.tok _) rw')
 .subst ey;cases (show u=Value.ref b from ry);obtain⟨z,hd,xs,rel,dd⟩:=pX I.hok e;obtain⟨w',hw,rw'⟩:=fY.some_of (v:=v) (o:=(atKey xs k).map (·.2)) (by rw[l]; exact rel.val k);obtain⟨p,hp,hp2⟩:=Option.map_eq_some_iff.mp hw;show wpAny_getItem_heap (O8 hu) (o6 I.hok eb) dd hp ?_;rw[hp2];exact h w' _ (I.tok _) rw'
theorem Lv(hu:A.units+1 < cLine) (I:Inv X QE O H s) (g:dJ H a y o) (ry:RelV y u) (h: ∀s',Inv X QE O H s'->Q (.bool o.isSome) s') :
  wpAny (model X.prog X.w) A (compareOp .In u (.ref a)) Q E s:=by
 rcases g with⟨kvs,k,e,ey,l⟩ | ⟨kvs,k,b,e,ey,eb,l⟩
 .subst ey;obtain⟨z,hd,vs,rel,dd⟩:=pE I.hok e;show wpAny_in_of (lY ry) hd dd.mapOf ?_;rw[<-(rel.val k).i7,<-l];exact h _ (I.tok _)
 .subst ey;cases (show u=Value.ref b from ry);obtain⟨z,hd,xs,rel,dd⟩:=pX I.hok e;show wpAny_in_heap (O8 hu) (o6 I.hok eb) hd dd ?_;have q:=(rel.val k).i7;rw[Qs] at q;rw[<-q,<-l];exact h _ (I.tok _)
theorem Gz(hu:A.units+1 < cLine) (I:Inv X QE O H s) (g:dJ H a y o) (ry:RelV y u) (h: ∀s',Inv X QE O H s'->Q (.bool (!o.isSome)) s') :
  wpAny (model X.prog X.w) A (compareOp .NotIn u (.ref a)) Q E s:=by
 rcases g with⟨kvs,k,e,ey,l⟩ | ⟨kvs,k,b,e,ey,eb,l⟩
 .subst ey;obtain⟨z,hd,vs,rel,dd⟩:=pE I.hok e;show wpAny_notIn_of (lY ry) hd dd.mapOf ?_;rw[<-(rel.val k).i7,<-l];exact h _ (I.tok _)
 .subst ey;cases (show u=Value.ref b from ry);obtain⟨z,hd,xs,rel,dd⟩:=pX I.hok e;show wpAny_notIn_heap (O8 hu) (o6 I.hok eb) hd dd ?_;have q:=(rel.val k).i7;rw[Qs] at q;rw[<-q,<-l];exact h _ (I.tok _)
theorem oN {h':Heap}{t':Nat}{ob:HO}(I:Inv X QE O H s) (mu:Sj (H a)) (hs:Heap.SameBut a s.heap h') (he: ∃q,h'.get? a=some q) (new:cW X.prog X.w (upd H a ob) h' a ob) :
  Inv X QE O (upd H a ob) { s with heap:=h',toks:=t' } :=
 I.write (x:=a) (e:=a) mu (.inl rfl) (λb q hb z=>(hs.2 b hb).trans z) he new
theorem uv {P:Program}{w:World}{H':Hp}{h':Heap}{kvs:List (Key×V)}{vs:List (Key×Value)}(z:kvs.length<=sizeLine) (hd:(a == sysModules)=false) (rel:KV kvs vs) (dd:h'.DictOf (cv P w) a vs) :
  cW P w H' h' a (.dK kvs):=⟨z,hd,vs,rel,dd⟩
theorem DY {H':Hp}{Q:Unit->Shared->Prop}(hu:A.units+1 < cLine) (I:Inv X QE O H s) (g:qa H a y v H') (ry:RelV y u) (rv:RelV v r) (h: ∀s',Inv X QE O H' s'->Q () s') :
  wpAny (model X.prog X.w) A (setItem (.ref a) u r) Q E s:=by
 rcases g with⟨kvs,k,e,ey,l,eH⟩ | ⟨kvs,k,b,e,ey,eb,l,eH⟩
 .subst ey eH;obtain⟨z,hd,vs,rel,dd⟩:=xg I.hok e;have hz:vs.length<=sizeLine:=by rw[<-rel.length]; exact z
  have hl:(putK kvs k v).length<=sizeLine:=by have:=kB kvs k v; lia
  show wpAny_setItem_pairs (hsz:=hz) (lY ry) dd λh' dd' hs=>h _ ?_;have he: ∃q,h'.get? a=some q:=let ⟨q,_,_,hq,_⟩:=dd'; ⟨q,hq⟩;exact oN I (by rw[e]; exact True.intro) hs he (uv hl hd (rel.put k rv) dd')
 .subst ey eH;cases (show u=Value.ref b from ry);obtain⟨z,hd,xs,rel,dd⟩:=K5 I.hok e;have hz:xs.length<=sizeLine:=by rw[<-Qn rel]; exact z
  have hl:(putK kvs k v).length<=sizeLine:=by have:=kB kvs k v; lia
  show wpAny_setItem_heap (hsz:=hz) (O8 hu) (o6 I.hok eb) dd λh' dd' hs=>h _ ?_;obtain⟨q,es,ep,hq,h2,h3,h4,_,h5⟩:=dd';show oN I (by rw[e]; exact True.intro) hs ⟨q,hq⟩ ⟨hl,hd,_,(rel.put k eb rv).keeps λc ys ec=>?_,q,es,ep,hq,h2,h3,h4,h5⟩;rw[ah (xc ec e (λz=>nomatch z))];exact ec
end
section
variable {X:Cx}{QE:mK}{O:St}{H:Hp}{s:Shared}{a:Addr}{kvs:List (Key×V)}{k:Key}{u:Value}{A:Around}{E:nE}
theorem Lm {Q:Unit->Shared->Prop}(I:Inv X QE O H s) (e:H a=some (.dK kvs)) (ry:RelV (kV k) u) (l:(aR kvs k).isSome=true) (h: ∀s',Inv X QE O (upd H a (.dK (fv kvs k))) s'->Q () s') :
  wpAny (model X.prog X.w) A (delItem (.ref a) u) Q E s:=by
 obtain⟨z,hd,vs,rel,dd⟩:=xg I.hok e;show wpAny_delItem_slot dd.typeIs aS PySem.F.slot_dict_delitem
  (call_meetsIn PySem.F.slot_dict_delitem dd.typeIs PySem.F.entry_dict_delitem (PySem.F.args_dict_delitem_2 _ _) (meets_dict_delitem_pairs (cv X.prog X.w) a (lY ry)) ⟨vs,dd,by rw[<-rel.length]; exact z,by rw[<-(rel.val k).i7]; exact l,λh' dd' hs=>h _ ?_⟩)
 have he: ∃q,h'.get? a=some q:=let ⟨q,_,_,hq,_⟩:=dd'; ⟨q,hq⟩;exact oN I (by rw[e]; exact True.intro) hs he (uv (Ng (pI kvs k) z) hd (rel.drop k) dd')
theorem Kq {v:V}{more:List Value}{Q:nE}(I:Inv X QE O H s) (e:H a=some (.dK kvs)) (ry:RelV (kV k) u) (l:aR kvs k=some v) (hm:more=[]\/ ∃x,more=[x])
  (h: ∀w' s',Inv X QE O (upd H a (.dK (fv kvs k))) s'->RelV v w'->Q w' s'):wpAny (model X.prog X.w) A (call (.builtin "dict.pop") (.ref a::u::more)) Q E s:=by
 obtain⟨z,hd,vs,rel,dd⟩:=xg I.hok e;obtain⟨w',hw,rw'⟩:=fY.some_of (v:=v) (o:=valueAt vs k) (by rw[<-l]; exact rel.val k);have hp:(keyPart u).isSome=true:=by
  cases k with
  | inl i=>obtain⟨t,q⟩:=(show ∃t,u=Value.int i t from ry); subst q; rfl
  | inr x=>obtain⟨t,q⟩:=(show ∃t,u=Value.str x t from ry); subst q; rfl
 have ha:argsOk "dict.pop" ⟨.ref a::u::more,[]⟩:=by
  rcases hm with q | ⟨x,q⟩
  .subst q; exact PySem.F.args_dict_pop_2 _ _
  .subst q; exact PySem.F.args_dict_pop_3 _ _ _
 show call_meetsIn PySem.F.slot_dict_pop dd.typeIs PySem.F.entry_dict_pop ha (meets_dict_pop_there (cv X.prog X.w) a (lY ry) more hm hp)
  ⟨vs,w',dd,by rw[<-rel.length]; exact z,hw,λh' dd' hs=>h w' _ ?_ rw'⟩
 have he: ∃q,h'.get? a=some q:=let ⟨q,_,_,hq,_⟩:=dd'; ⟨q,hq⟩;exact oN I (by rw[e]; exact True.intro) hs he (uv (Ng (pI kvs k) z) hd (rel.drop k) dd')
end
def IP (i:Expr):Prop:= ∀ov iv,subscripted i false ov iv=operate [ov,iv] (getItem ov iv)
variable{s:Shared}{pos:Pos}
theorem G5 {prog:Program}{A:Around}{E:nE}{env:Env}{value slice:Expr}{T id:String}{Q:nE} (hl:typeLookup (.type T) "__getitem__" = pure (some (.builtin id))) (hs:IP slice)
  (h:wpAny (model prog w) A (eval value env) (λo s₁=>wpAny (model prog w) A (eval slice env) (λi s₂=>s₂.TypeIs o T/\wpAny (model prog w) A (getItem o i) Q E s₂) E s₁) E s) :
  wpAny (model prog w) A (eval (.Subscript value slice pos) env) Q E s:=by
 show Subscript_ (NU h (λo s₁ h₁=>NU h₁ (λi s₂ h₂=>?_) λ_ _ x=>x) λ_ _ x=>x);obtain⟨hT,h₂⟩:=h₂;unfold subscriptTail;show MY ?_;rw[getitemInPython_of_ne hT.not_modules];show MY (wpAny_specialOf hT hl ?_);have fin:wpAny (model prog w) A (subscripted slice false o i) (λr s₃=>wpAny (model prog w) A (letTemporaryGo value o r >>= λ_=>pure r) Q E s₃) E s₂:=by
  rw[hs o i];exact wpAny_operating (NU h₂ (λr s₃ h₃=>MY (wpAny_letTemporaryGo (Nj h₃))) λ_ _ x=>x)
 first
  | exact Nj (MY fin)
  | exact MY (Nj (MY fin))
  | exact MY fin
variable{X:Cx}{QE:mK}{O:St}
theorem zi {y:V}{o:Option V}(I:Inv X QE O H s) (g:dJ H a y o):s.TypeIs (.ref a) "dict" := by
 rcases g with⟨kvs,k,e,_,_⟩ | ⟨kvs,k,b,e,_,_,_⟩
 .obtain⟨_,_,vs,_,dd⟩:=pE I.hok e;exact dd.typeIs
 .obtain⟨_,_,xs,_,dd⟩:=pX I.hok e;exact dd.typeIs
inductive Iu (Q:VK) (x y:V) (H2:Hp):Prop | mk (a v:_) (e0:x= .ref a) (e1:dJ H2 a y (some v)) (q:Q v H2)
def Kh (td ty:TE):TE:=λO H Q=>td O H λx H1=>ty O H1 λy H2=>Iu Q x y H2
inductive Kv (Q:VK) (y x:V) (H2:Hp):Prop | mk (a o:_) (e0:x= .ref a) (e1:dJ H2 a y o) (q:Q (.bl o.isSome) H2)
def LB (ty td:TE):TE:=λO H Q=>ty O H λy H1=>td O H1 λx H2=>Kv Q y x H2
inductive Fb (Q:VK) (y x:V) (H2:Hp):Prop | mk (a o:_) (e0:x= .ref a) (e1:dJ H2 a y o) (q:Q (.bl (!o.isSome)) H2)
def Hu (ty td:TE):TE:=λO H Q=>ty O H λy H1=>td O H1 λx H2=>Fb Q y x H2
inductive IX (D:Ends) (O:St) (v x y:V) (H3:Hp):Prop | mk (a H4:_) (e0:x= .ref a) (e1:qa H3 a y v H4) (q:D.nx O H4)
def Kr (td ty tv:TE):TS:=λD O H=>tv O H λv H1=>td O H1 λx H2=>ty O H2 λy H3=>IX D O v x y H3
inductive Mq (tv:TE) (rd:V->V->Hp->VK->Prop) (D:Ends) (O:St) (x y:V) (H2:Hp):Prop | mk (a v:_) (e0:x= .ref a) (e1:dJ H2 a y (some v)) (q:tv O H2 λy2 H3=>rd v y2 H3 λz H4=> ∃H5,qa H4 a y z H5/\D.nx O H5)
inductive Mo (D:Ends) (O:St) (x y:V) (H2:Hp):Prop | mk (a kvs k:_) (e0:x= .ref a) (e1:H2 a=some (.dK kvs)) (e2:y=kV k) (e3:(aR kvs k).isSome=true) (q:D.nx O (upd H2 a (.dK (fv kvs k))))
section
variable {X:Cx}{o i e value:Expr}{pos pos' tpos:Pos}{td ty tv:TE}
theorem oU (hu:X.A.units+1 < cLine) (ho:PE X o td) (hi:PE X i ty) (hs:IP i):PE X (.Subscript o i pos) (Kh td ty):=by
 intro QE s O H Q I h;show G5 PySem.F.slot_dict_getitem.lookup hs (QL (ho QE s O H _ I h) λu s1 ⟨x,H1,I1,rx,q1⟩=>QL (hi QE s1 O H1 _ I1 q1) λiv s2 hm=>?_);obtain⟨y,H2,I2,ry,a,v,ex,g,q2⟩:=hm;subst ex;obtain rfl:u=Value.ref a:=rx;exact⟨zi I2 g,Cc hu I2 g ry λw' s3 I3 rw'=>⟨v,H2,I3,rw',q2⟩⟩
theorem Dn (hu:X.A.units+1 < cLine) (hi:PE X i ty) (ho:PE X o td):PC X .In i o (LB ty td):=by
 intro QE s O H Q I h;show QL (hi QE s O H _ I h) λiv s1 ⟨y,H1,I1,ry,q1⟩=>QL (ho QE s1 O H1 _ I1 q1) λu s2 ⟨x,H2,I2,rx,a,ov,ex,g,q2⟩=>?_;subst ex;obtain rfl:u=Value.ref a:=rx;exact Lv hu I2 g ry λs3 I3=>⟨.bl ov.isSome,H2,I3,Z,q2⟩
theorem rA (hu:X.A.units+1 < cLine) (hi:PE X i ty) (ho:PE X o td):PC X .NotIn i o (Hu ty td):=by
 intro QE s O H Q I h;show QL (hi QE s O H _ I h) λiv s1 ⟨y,H1,I1,ry,q1⟩=>QL (ho QE s1 O H1 _ I1 q1) λu s2 ⟨x,H2,I2,rx,a,ov,ex,g,q2⟩=>?_;subst ex;obtain rfl:u=Value.ref a:=rx;exact Gz hu I2 g ry λs3 I3=>⟨.bl (!ov.isSome),H2,I3,Z,q2⟩
theorem sf (hu:X.A.units+1 < cLine) (ho:PE X o td) (hi:PE X i ty) (hv:PE X value tv) (hs:swapsWith value (some (.Subscript o i pos')) pos.line X.env=pure false) :
  PS X (.Assign [.Subscript o i pos'] value pos) (Kr td ty tv):=by
 intro QE s O H D I h;show wpAny_Assign_Subscript (QL (hv QE s O H _ I h) λr s1 ⟨v,H1,I1,rv,q1⟩=>QL (ho QE s1 O H1 _ I1 q1) λu s2 ⟨x,H2,I2,rx,q2⟩=>QL (hi QE s2 O H2 _ I2 q2) λiv s3 hm=>?_) hs;obtain⟨y,H3,I3,ry,a,H4,ex,g,q3⟩:=hm;subst ex;obtain rfl:u=Value.ref a:=rx;exact DY hu I3 g ry rv λs4 I4=>⟨O,H4,I4,q3⟩
end
theorem yr(h:Heap) (hb:sysModules < h.objs.size):cW P w H (h.push { cls:= .type "dict",data:= .dict #[] }) h.objs.size (.dK []) :=
 ⟨NN _,beq_eq_false_iff_ne.mpr (Nu (Nt hb)),[],.nil,Heap.DictOf.new h⟩
def Jy:TE:=λ_ H Q=> ∀p,H p=none->Q (.ref p) (upd H p (.dK []))
section
variable {X:Cx}{pos:Pos}
theorem EN:PE X (.Dict [] [] pos) Jy:=λQE s O H Q I h =>
 wpAny_Dict_empty ⟨.ref s.heap.objs.size,_,I.laid (a:=s.heap.objs.size) (o:= .dK []) (t':=s.toks) (λ_ _ q=>MV _ q) (MZ _) (yr s.heap I.big),Z,h _ (I.hok.fresh (MZ _))⟩
end
def yR:List (TE×TE)->St->Hp->(List (V×V)->Hp->Prop)->Prop
 | [],_,H,Q=>Q [] H
 | (tk,tv)::r,O,H,Q=>tk O H λx H1=>tv O H1 λy H2=>yR r O H2 λps H3=>Q ((x,y)::ps) H3
abbrev VV:List (V×V)->List (Value×Value)->Prop:=Paired λp q=>RelV p.1 q.1/\RelV p.2 q.2
def Sw (X:Cx) (pos:Pos) (keys:List (Option Expr)) (values:List Expr) (trs:List (TE×TE)):Prop :=
 ∀(QE:mK) (s:Shared) (O:St) (H:Hp) (Q:List (V×V)->Hp->Prop),Inv X QE O H s->yR trs O H Q ->
  wpAny (model X.prog X.w) X.A (evalPairs (pairTrees keys values X.env pos)) (λvs s'=> ∃ps H',Inv X QE O H' s'/\VV ps vs/\Q ps H') X.xe s
theorem z7:Sw X pos [] [] []:=λQE s O H Q I h=>pairTrees_nil_walk ⟨[],H,I,.nil,h⟩
variable{trs:List (TE×TE)}
theorem yA {k v:Expr}{ks:List (Option Expr)}{vs:List Expr}{tk tv:TE}(hk:PE X k tk) (hv:PE X v tv) (hr:Sw X pos ks vs trs) :
  Sw X pos (some k::ks) (v::vs) ((tk,tv)::trs):=λQE s O H Q I h =>
 pairTrees_cons_walk (QL (hk QE s O H _ I h) λu s1 ⟨x,H1,I1,rx,q1⟩=>QL (hv QE s1 O H1 _ I1 q1) λw2 s2 ⟨y,H2,I2,ry,q2⟩ =>
  QL (hr QE s2 O H2 _ I2 q2) λws s3 ⟨ps,H3,I3,rel,q3⟩=>⟨(x,y)::ps,H3,I3,.cons ⟨rx,ry⟩ rel,q3⟩)
def mw (kvs more:List (Key×V)):List (Key×V):=more.foldl (λacc kv=>putK acc kv.1 kv.2) kvs
theorem KV.merge: ∀ {more:List (Key×V)}{rs:List (Key×Value)}{kvs:List (Key×V)}{vs:List (Key×Value)},KV more rs->KV kvs vs->KV (mw kvs more) (merged vs rs):=by
 intro more rs kvs vs r;unfold KV at r;induction r generalizing kvs vs with
 | nil=>intro q; exact q
 | @cons p q ps qs h t ih =>
  intro r0;have e:KV (putK kvs p.1 p.2) (stored vs q.1 q.2):=by
   have:=r0.put p.1 h.2;rw[<-h.1]; exact this
  exact ih e
theorem qt: ∀(more kvs:List (Key×V)),(mw kvs more).length<=kvs.length+more.length
 | [],kvs=>by change kvs.length<=kvs.length+0; lia
 | p::r,kvs=>by
  have h1:=qt r (putK kvs p.1 p.2);have h2:=kB kvs p.1 p.2;change (mw (putK kvs p.1 p.2) r).length<=_;rw[Nk]; lia
theorem ud {P:Program}{w:World}: ∀ {kvs:List (Key×V)}{ws:List (Value×Value)},VV (kvs.map λkv=>(kV kv.1,kv.2)) ws-> ∃rs,Carries (cv P w) ws rs/\KV kvs rs
 | [],_,r=>by rw[P5] at r; cases r; exact⟨[],True.intro,.nil⟩
 | p::kvs,_,r=>by
  rw[ND] at r;cases r with
  | @cons a b as bs h t =>
   obtain⟨rs,c,q⟩:=ud (P:=P) (w:=w) t;obtain⟨b1,b2⟩:=b;exact⟨(p.1,b2)::rs,⟨lY h.1,Z,c⟩,.cons ⟨Z,h.2⟩ q⟩
def KH (trs:List (TE×TE)):TE:=λO H Q=> ∀p,H p=none->yR trs O (upd H p (.dK [])) λps H2=>H2 p=some (.dK [])/\ ∃kvs:List (Key×V),ps=kvs.map (λkv=>(kV kv.1,kv.2))/\kvs.length<=15/\Q (.ref p) (upd H2 p (.dK (mw [] kvs)))
theorem zY {keys:List (Option Expr)}{values:List Expr}(h:Sw X pos keys values trs) (hall:keys.all (·.isSome)=true) (hl:keys.length=values.length) (h0:keys≠[])
  (h15:keys.length<=15):PE X (.Dict keys values pos) (KH trs):=by
 intro QE s O H Q I q;have hn:=I.hok.fresh (MZ s.heap.objs.size);have I1:=I.laid (a:=s.heap.objs.size) (o:= .dK []) (h':=s.heap.push { cls:= .type "dict",data:= .dict #[] }) (t':=s.toks) (λ_ _ q=>MV _ q) (MZ _) (yr s.heap I.big);show wpAny_Dict_walk (knd:=cv X.prog X.w) hall hl h0 h15 (QL (h QE _ O _ _ I1 (q _ hn)) λws s2 hm=>?_);obtain⟨ps,H2,I2,rel,e,kvs,ep,lk,q2⟩:=hm;subst ep;obtain⟨rs,c,rk⟩:=ud (P:=X.prog) (w:=X.w) rel;obtain⟨z,hd,vs0,r0,dd⟩:=xg I2.hok e;cases r0;show⟨rs,c,dd,λh' dd' hs=>⟨.ref s.heap.objs.size,_,?_,Z,q2⟩⟩;have hz:(mw [] kvs).length<=sizeLine:=by
  have h1:=qt kvs [];rw[O6] at h1;rw[Od]; lia
 have he: ∃q,h'.get? s.heap.objs.size=some q:=let ⟨q,_,_,hq,_⟩:=dd'; ⟨q,hq⟩;exact oN I2 (by rw[e]; exact True.intro) hs he (uv hz hd (rk.merge .nil) dd')
structure M1 (X:Cx) (o:Expr) (m:Str) (apos:Pos) (e:Expr) (cpos:Pos):Prop where
 base:attributeBase o m X.env (eval o X.env)=eval o X.env
 RF:((backTo cpos (starEach [e] X.env)).all (λx=> !x.1) && (backToKw cpos (keywordEach [] X.env)).all (λx=>x.1.isSome)
  && decide (([e]:List Expr).length+([]:List Keyword).length+(if ([]:List Keyword).isEmpty then 0 else 1) < 30))=true
 line:(apos.endLine == cpos.line)=true
 trees:backTo cpos (starEach [e] X.env)=[(false,eval e X.env)]
structure M2 (X:Cx) (o:Expr) (m:Str) (apos:Pos) (e f:Expr) (cpos:Pos):Prop where
 base:attributeBase o m X.env (eval o X.env)=eval o X.env
 RF:((backTo cpos (starEach [e,f] X.env)).all (λx=> !x.1) && (backToKw cpos (keywordEach [] X.env)).all (λx=>x.1.isSome)
  && decide (([e,f]:List Expr).length+([]:List Keyword).length+(if ([]:List Keyword).isEmpty then 0 else 1) < 30))=true
 line:(apos.endLine == cpos.line)=true
 trees:backTo cpos (starEach [e,f] X.env)=[(false,eval e X.env),(false,eval f X.env)]
def Si (H:Hp) (a:Addr):Prop:=(∃kvs,Rd H a (.dK kvs))\/ ∃kvs,Rd H a (.dT kvs)
theorem BX(I:Inv X QE O H s) (d:Si H a) :
  s.TypeIs (.ref a) "dict" /\ (∀b,Value.ref a= .ref b-> ∃ob,s.heap.get? b=some ob/\ob.dict=none)/\(a == sysModules)=false:=by
 rcases d with⟨kvs,e⟩ | ⟨kvs,e⟩
 .obtain⟨_,hd,vs,_,dd⟩:=pE I.hok e;show⟨dd.typeIs,λb q=>?_,hd⟩;cases q;obtain⟨ob,_,_,h1,h2,_⟩:=dd;exact⟨ob,h1,h2.2.1⟩
 .obtain⟨_,hd,xs,_,dd⟩:=pX I.hok e;show⟨dd.typeIs,λb q=>?_,hd⟩;cases q;obtain⟨ob,_,_,h1,h2,_⟩:=dd;exact⟨ob,h1,h2.2.1⟩
section
variable {X:Cx}{QE:mK}{O:St}{H:Hp}{s:Shared}{a:Addr}{y d:V}{u r:Value}{o:Option V}{A:Around}{E:nE}
theorem Jb {Q:nE}(hu:A.units+1 < cLine) (I:Inv X QE O H s) (g:dJ H a y o) (ry:RelV y u) (h: ∀w' s',Inv X QE O H s'->RelV (o.getD .non) w'->Q w' s') :
  wpAny (model X.prog X.w) A (call (.builtin "dict.get") [.ref a,u]) Q E s:=by
 rcases g with⟨kvs,k,e,ey,l⟩ | ⟨kvs,k,b,e,ey,eb,l⟩
 .subst ey;obtain⟨z,hd,vs,rel,dd⟩:=pE I.hok e;show call_meetsIn PQ dd.typeIs PySem.F.entry_dict_get (PySem.F.args_dict_get_2 _ _) (meets_dict_get (cv X.prog X.w) a (lY ry) hd) ⟨_,dd.mapOf,h _ _ (I.tok _) ?_⟩;rw[l];exact (rel.val k).getD rfl
 .subst ey;cases (show u=Value.ref b from ry);obtain⟨z,hd,xs,rel,dd⟩:=pX I.hok e;show call_meetsIn PQ dd.typeIs PySem.F.entry_dict_get (PySem.F.args_dict_get_2 _ _) (meetsH_dict_get (tupleKind (cv X.prog X.w)) a b hd) ⟨O8 hu,k,xs,o6 I.hok eb,dd,h _ _ (I.tok _) ?_⟩;rw[l];exact (rel.val k).getD rfl
end
inductive Hq (ty:TE) (O:St) (Q:VK) (x:V) (H1:Hp):Prop | mk (a:_) (e0:x= .ref a) (e1:Si H1 a) (q:ty O H1 λy H2=> ∃o,dJ H2 a y o/\Q (o.getD .non) H2)
def CW (td ty:TE):TE:=λO H Q=>td O H λx H1=>Hq ty O Q x H1
inductive Mf (ty tx:TE) (O:St) (Q:VK) (x:V) (H1:Hp):Prop | mk (a:_) (e0:x= .ref a) (e1:Si H1 a) (q:ty O H1 λy H2=>tx O H2 λz H3=> ∃o,dJ H3 a y o/\Q (o.getD z) H3)
inductive G6 (ty:TE) (O:St) (Q:VK) (x:V) (H1:Hp):Prop | mk (a:_) (e0:x= .ref a) (e1:Si H1 a) (q:ty O H1 λy H2=> ∃kvs k v,H2 a=some (.dK kvs)/\y=kV k/\aR kvs k=some v/\Q v (upd H2 a (.dK (fv kvs k))))
def IW (td ty:TE):TE:=λO H Q=>td O H λx H1=>G6 ty O Q x H1
inductive Mb (ty tx:TE) (O:St) (Q:VK) (x:V) (H1:Hp):Prop | mk (a:_) (e0:x= .ref a) (e1:Si H1 a) (q:ty O H1 λy H2=>tx O H2 λz H3=> ∃kvs k,H3 a=some (.dK kvs)/\y=kV k/\(∀v,aR kvs k=some v->Q v (upd H3 a (.dK (fv kvs k))))/\(aR kvs k=none->Q z H3))
section
variable {X:Cx}{o e f:Expr}{apos cpos:Pos}{td ty tx:TE}
theorem tJ (hu:X.A.units+1 < cLine) (ho:PE X o td) (he:PE X e ty) (m:M1 X o "get" apos e cpos):PE X (.Call (.Attribute o "get" apos) [e] [] cpos) (CW td ty):=by
 intro QE s O H Q I h;show wpAny_Call_method m.base m.RF m.line PySem.F.plainAttrs_dict PQ PySem.F.type_dict_get (QL (ho QE s O H _ I h) λu s1 ⟨x,H1,I1,rx,a,ex,d,q1⟩=>?_);subst ex;obtain rfl:u=Value.ref a:=rx;obtain⟨t1,t2,_⟩:=BX I1 d;show⟨t1,t2,?_⟩;rw[m.trees];show O9 rfl (Pf (Qj (QL (he QE s1 O H1 _ I1 q1) λiv s2 ⟨y,H2,I2,ry,ov,g,q2⟩=>Calls.spliced_nil ?_)));exact Jb hu I2 g ry λw' s3 I3 rw'=>⟨_,H2,I3,rw',q2⟩
theorem ya (ho:PE X o td) (he:PE X e ty) (m:M1 X o "pop" apos e cpos):PE X (.Call (.Attribute o "pop" apos) [e] [] cpos) (IW td ty):=by
 intro QE s O H Q I h;show wpAny_Call_method m.base m.RF m.line PySem.F.plainAttrs_dict PySem.F.slot_dict_pop PySem.F.type_dict_pop (QL (ho QE s O H _ I h) λu s1 ⟨x,H1,I1,rx,a,ex,d,q1⟩=>?_);subst ex;obtain rfl:u=Value.ref a:=rx;obtain⟨t1,t2,_⟩:=BX I1 d;show⟨t1,t2,?_⟩;rw[m.trees];show O9 rfl (Pf (Qj (QL (he QE s1 O H1 _ I1 q1) λiv s2 ⟨y,H2,I2,ry,kvs,k,v,ea,ey,l,q2⟩=>Calls.spliced_nil ?_)));subst ey;exact Kq I2 ea ry l (.inl rfl) λw' s3 I3 rw'=>⟨v,_,I3,rw',q2⟩
end
section
variable {X:Cx}{QE:mK}{O:St}{H:Hp}{s:Shared}{a:Addr}{kvs:List (Key×V)}{A:Around}{E:nE}
end
section
variable {X:Cx}{QE:mK}{O:St}{H:Hp}{s:Shared}{a:Addr}{y:V}{u:Value}{A:Around}{E:nE}
end
section
variable {X:Cx}
end
section
variable {κ:Type} [DecidableEq κ]
variable{r:List (κ×V)}
theorem Dg {p:κ×V}{k:κ}(e:p.1=k):fv (p::r) k=fv r k:=by
 unfold fv;rw[OZ,MP (by simp[e])]
theorem Cf {p:κ×V}{k:κ}(e: ¬p.1=k):fv (p::r) k=p::fv r k:=by
 unfold fv;rw[OZ,MU (by simp[e])]
end
section
variable {X:Cx}{QE:mK}{O:St}{H:Hp}{s:Shared}{h':Heap}
theorem Inv.Hv {t':Nat}{a b:Addr}(I:Inv X QE O H s) (k: ∀c o,c≠a->c≠b->s.heap.get? c=some o->h'.get? c=some o) (fa:bG X QE H a) (fb:bG X QE H b):Inv X QE O H { s with heap:=h',toks:=t' }:=by
 have na: ∀c u,H c=some u->c≠a:=λc u e z=>by rw[z,fa.1] at e; cases e
 have nb: ∀c u,H c=some u->c≠b:=λc u e z=>by rw[z,fb.1] at e; cases e
 have kk: ∀c o,c∉[a,b]->s.heap.get? c=some o->h'.get? c=some o:=λc o hc e=>k c o (λz=>hc (by simp[z])) (λz=>hc (by simp[z])) e;show I.step (g':=s.gens) (d':=s.drawn) (ch:=[a,b]) (λc hc=>?_) (λc o _ _ hc e _=>kk c o hc e) (λc o _ _ hc e _=>⟨o.slots,kk c o hc e⟩) (λ_ _ _ _ n=>n)
  (λc o hc e=>⟨o,kk c o hc e⟩) (λ_ _ e=>e) (λ_ _ _ e=>e) (λc ps e=>⟨#[],by rw[e]; simp⟩) (λm hm=>?_) (λc u e=>?_) I.bare
 .rcases M3.mp hc with rfl | hc
  .exact⟨fa.2.2.2.1,fa.2.1,fa.2.2.2.2.1,fa.2.2.2.2.2⟩
  .rw[MT.mp hc];exact⟨fb.2.2.2.1,fb.2.1,fb.2.2.2.2.1,fb.2.2.2.2.2⟩
 .obtain⟨o,es,ep,ho,r⟩:=hm;exact⟨o,es,ep,k _ o (Nu fa.2.1) (Nu fb.2.1) ho,r⟩
 .show (I.hok c u e).jk (λd v hd q=>k d v ?_ ?_ q) (λ_ q=>q) λ_ _ q=>q
  .rcases hd with z | z
   .rw[z]; exact na c u e
   .exact na d _ z
  .rcases hd with z | z
   .rw[z]; exact nb c u e
   .exact nb d _ z
end
def Sa (K:QG) (a:Addr):It :=
 ⟨λi H=> ∃xs x,QF K H a xs/\xs[i]?=some x,λi H v H'=> ∃t x,v= .ref t/\H t=none/\H'=upd H t (.tup [.int (i:Nat),x])/\ ∀xs,QF K H a xs->xs[i]?=some x,λi H=> ∃xs,QF K H a xs/\xs.length<=i⟩
theorem Dz {K:QG}{elts:List Expr}{x1}(a e it:Addr):Turn P w K (.Tuple elts x1 pos) (Sa K a) [e,it] e (λi h=>(∃old,IsEnum h e it (i:Nat) old)/\h.IsListIter it a i/\e≠it) where
 mem:=by simp
 obj:=λi h st b hb=>by
  obtain⟨⟨old,he⟩,⟨o,e1,c,d⟩,_⟩:=st;rcases M3.mp hb with rfl | hb
  .exact⟨_,he,λv z=>by cases z⟩
  .rw[MT.mp hb];exact⟨o,e1,λv z=>by rw[d] at z; cases z⟩
 keep:=λi h h' st k=>by
  obtain⟨⟨old,he⟩,hit,ne⟩:=st;exact⟨⟨old,k e (by simp) _ he⟩,hit.at λo q=>k it (by simp) o q,ne⟩
 item:=by
  ext:0;obtain⟨⟨old,he⟩,hit,hne⟩:=st;obtain⟨xs,x,hq,hx⟩:=hg;obtain⟨its,rv,p,hz⟩:=I.list hq;obtain⟨u,hu,ru⟩:=rv.get hx;have fe:=hf e (by simp);have fi:=hf it (by simp);show wpAny_pyNext_enum_item he hit p.isList (x:=u) (by simpa using hu) hne λh' heo hit' ht hz' hk=>?_;show⟨_,Z,wpAny_letOwnedTupleGo_enum heo λh2 he2 sb=>?_⟩;have heS:e < s.heap.objs.size:=Na he;have hiS:it < s.heap.objs.size:=by obtain⟨o,q,_⟩:=id hit; exact Na q
  have kall: ∀c o,c≠e->c≠it->s.heap.get? c=some o->h2.get? c=some o:=λc o c1 c2 q=>(sb.2 c c1).trans (hk c o c1 c2 q);have I1:Inv X QE O H { s with heap:=h2,toks:=s.toks+1 }:=I.Hv kall fe fi;have ht2:h2.get? s.heap.objs.size=some { cls:= .type "tuple",data:= .seq #[.int i s.toks,u] }:=(sb.2 _ (Pp heS)).trans ht;have fT:bG X QE H s.heap.objs.size:=I.gO (MZ _) (I.hok.fresh (MZ _));have new:cW X.prog X.w (upd H s.heap.objs.size (.tup [.int (i:Nat),x])) h2 s.heap.objs.size (.tup [.int (i:Nat),x]):=⟨aC,[.int i s.toks,u],.cons ⟨_,Z⟩ (.cons ru .nil),⟨_,ht2,Z,_,Z⟩⟩
  show⟨.ref s.heap.objs.size,_,I1.Br fT new,Z,⟨_,x,Z,fT.1,Z,λys hy=>by rw[I.pC hy hq]; exact hx⟩,⟨⟨u,he2⟩,?_,hne⟩,λb hb=>?_⟩;.exact hit'.at λo q=>(sb.2 it (Nu hne)).trans q
  .rcases M3.mp hb with rfl | hb
   .rw[ah (Nt heS)]; exact fe.1
   .rw[MT.mp hb,ah (Nt hiS)]; exact fi.1
 done:=by
  ext:0;obtain⟨⟨old,he⟩,hit,hne⟩:=st;obtain⟨xs,hq,hx⟩:=hg;obtain⟨its,rv,p,hz⟩:=I.list hq;ext:10;have hl:=rv.length;exact wpAny_pyNext_enum_end (I.ok.hd hc) he hit p.isList (by simp; lia) λh' eb=>⟨Z,I.turned (t':=s.toks) (λb o hb e=>eb b o hb e) f0 f1 f3 f4 f5⟩
 self:=λ_ _ _ _ _ st h=>by
  obtain⟨⟨old,he⟩,_⟩:=st;exact wpAny_pyIter_enum he h
section
variable {X:Cx}
inductive IC (K:QG) (R:It->Hp->Prop) (vs:List V) (H1:Hp):Prop | mk (a:_) (e0:vs=[.ref a]) (e1:(∃xs,QF K H1 a xs)) (q:R (Sa K a) H1)
def Kb (K:QG) (ta:TA):TI:=λO H R=>ta O H λvs H1=>IC K R vs H1
theorem boot_enumerate:bootBuiltins "enumerate" = some (.type "enumerate"):=by trivial
theorem oG {elts:List Expr}{x1}{tpos:Pos}{a:Expr}{ta:TA}{p pos:Pos}(hg:Gl X "enumerate") (hm:X.mg "enumerate" = none) (ha:PA X [a] ta) (hs:starEach [a] X.env=[(false,eval a X.env)]:=by rfl):PI X (.Tuple elts x1 tpos) (.Call (.Name "enumerate" p) [a] [] pos) (Kb X.K ta):=by
 intro QE s O H R I h;show Call_ (kU I hg hm boot_enumerate (OK (QL (ha pos QE s O H _ I h) λus s1 ⟨vs,H1,I1,r1,q1⟩=>?_) hs rfl));obtain⟨l,e,⟨xs,hq⟩,q⟩:=q1;subst e;cases r1 with
 | cons r rr =>
  cases rr;cases r;obtain⟨its,rv,pl,hz⟩:=I1.list hq;show call_enumerate_list pl.isList λh' he hit hsz hk=>?_;show wpAny_pyIter_enum he ?_;have I2:Inv X QE O H1 { s1 with heap:=h' }:=I1.kept (t':=s1.toks) hk;show⟨s1.heap.objs.size+1,[s1.heap.objs.size+1,s1.heap.objs.size],_,_,H1,Z,I2,Dz l _ _,⟨⟨.none,he⟩,hit,Nat.succ_ne_self _⟩,λb hb=>?_,q⟩;have hb':s1.heap.objs.size<=b:=by
   rcases M3.mp hb with rfl | hb
   .lia
   .rw[MT.mp hb]; exact MZ _
  exact I1.gO hb' (I1.hok.fresh hb')
end
theorem tR {K:QG}{xs:List V}{g:TG}{tb:TS}{D:Ends}(Pv:Nat->St->Hp->Prop) (h0:Pv 0 O H) (hJ: ∀i O H,i<=xs.length->Pv i O H->QF K H a xs)
  (hs: ∀i x O H t,xs[i]?=some x->Pv i O H->H t=none->g (.ref t) O (upd H t (.tup [.int (i:Nat),x])) λO2 H2=>tb { D with nx:=Pv (i+1),ct:=Pv (i+1),bk:=D.nx } O2 H2) (hd: ∀O H,Pv xs.length O H->D.nx O H) :
  ∃W:Nat->Nat->St->Hp->Prop,(∃m,W 0 m O H)/\ ∀i m O H,W i m O H ->
   ((Sa K a).stop i H/\D.nx O H)\/((Sa K a).go i H/\ ∃N:St->Hp->Prop,(∀O' H',N O' H'-> ∃m',m' < m/\W (i+1) m' O' H')/\ ∀x H',(Sa K a).yld i H x H'->g x O H' λO2 H2=>tb { D with nx:=N,ct:=N,bk:=D.nx } O2 H2):=by
 show⟨λi m O H=>i<=xs.length/\m=xs.length - i/\Pv i O H,⟨xs.length,NN _,Z,h0⟩,?_⟩;rintro i m O H ⟨hi,rfl,hp⟩;have hj:=hJ i O H hi hp;by_cases hlt:i < xs.length
 .show .inr ⟨⟨xs,xs[i],hj,MQ hlt⟩,Pv (i+1),λO' H' q=>⟨xs.length - (i+1),Y,hlt,Z,q⟩,λv H' hy=>?_⟩;obtain⟨t,x,rfl,nt,rfl,hx⟩:=hy;exact hs i x O H t (hx xs hj) hp nt
 .have e:i=xs.length:=Y;subst e;exact .inl ⟨⟨xs,hj,MZ _⟩,hd O H hp⟩
end L2
namespace MA
inductive Path (rs:List ao) (s:Int):Int->List Nat->Prop
 | nil:Path rs s s []
 | snoc {k:Int}{ps:List Nat}{i:Nat}{q:ao}:Path rs s k ps->rs[i]?=some q->q.2.1=k->Path rs s q.1 (ps++[i])
def j9 (rs:List ao) (i:Nat):Int:=(rs.getD i (0,0,0)).1
def uT (rs:List ao) (i:Nat):Int:=(rs.getD i (0,0,0)).2.2
def QY (rs:List ao) (ps:List Nat):List Int:=ps.map (j9 rs)
variable{rs:List ao}{i:Nat}
theorem jW {q:ao}(h:rs[i]?=some q):j9 rs i=q.1:=by
 unfold j9;rw[MX,h];rfl
theorem DG {q:ao}(h:rs[i]?=some q):uT rs i=q.2.2:=by
 unfold uT;rw[MX,h];rfl
theorem iL {ps:List Nat}{q:ao}(h:rs[i]?=some q):QY rs (ps++[i])=QY rs ps++[q.1]:=by
 unfold QY;rw[Nf,ND,P5,jW h]
theorem z4 {ps:List Nat}:(QY rs ps).length=ps.length:=MO ..
theorem Path.le {n:Nat}{f:Int->Int}(k: ∀r∈rs,QO n r) (hf:Met rs f){s e:Int}(hs:0<=s){ps:List Nat}(h:Path rs s e ps):0<=e/\f s<=f e:=by
 induction h with
 | nil=>exact⟨hs,Np _⟩
 | @snoc e ps i q hp hi hb ih =>
  have hq:=MS hi;obtain⟨k1,k2,k3,k4,k5⟩:=k q hq;have m:=hf q hq;unfold ask at m;rw[MP Y,hb] at m;exact⟨k1,Y⟩
def hZ:List ao->(ao->Int)->Int
 | [],_=>0
 | r::rs,f=>hZ rs f+f r
theorem u3: ∀(rs:List ao) (f h:ao->Int),(∀r∈rs,f r<=h r)->hZ rs f<=hZ rs h
 | [],_,_,_=>Np _
 | r::rs,f,h,k=>by
  have h1:=k r (M7);have h2:=u3 rs f h λx hx=>k x (M4 _ hx);change hZ rs f+f r<=hZ rs h+h r;lia
theorem zJ: ∀(rs:List ao) (f h:ao->Int) (q:ao) (d:Int),(∀r∈rs,f r<=h r)->q∈rs->f q+d<=h q->hZ rs f+d<=hZ rs h
 | [],_,_,_,_,_,hq,_=>by cases hq
 | r::rs,f,h,q,d,k,hq,hd=>by
  have k2: ∀x∈rs,f x<=h x:=λx hx=>k x (M4 _ hx);change hZ rs f+f r+d<=hZ rs h+h r;rcases M3.mp hq with rfl | hq
  .have:=u3 rs f h k2;lia
  .have:=zJ rs f h q d k2 hq hd;have:=k r (M7);lia
theorem Cm: ∀(rs:List ao) (f:ao->Int),(∀r∈rs,0<=f r)->0<=hZ rs f
 | [],_,_=>Np _
 | r::rs,f,k=>by
  have:=Cm rs f λx hx=>k x (M4 _ hx);have:=k r (M7);change 0<=hZ rs f+f r;lia
theorem Em {n:Nat}(k: ∀r∈rs,QO n r) (h: ∀q∈rs,q.2.1≠ -1->0 < q.2.2-> ∃S:Int->Prop,S q.1/\ ¬S q.2.1/\ ∀r∈rs,0<=r.2.1->S r.2.1->S r.1):df n rs=false:=by
 classical
 obtain⟨C,c0,hC⟩:=tG rs;have pick: ∃S:ao->Int->Prop,∀q∈rs,q.2.1≠ -1->0 < q.2.2->S q q.1/\ ¬S q q.2.1/\ ∀r∈rs,0<=r.2.1->S q r.2.1->S q r.1:=by
  show⟨λq=>if z:q∈rs/\q.2.1≠ -1/\0 < q.2.2 then Classical.choose (h q z.1 z.2.1 z.2.2) else λ_=>True,λq a b c=>?_⟩;have z:q∈rs/\q.2.1≠ -1/\0 < q.2.2:=⟨a,b,c⟩
  simp only[dif_pos z];exact Classical.choose_spec (h q a b c)
 obtain⟨S,hS⟩:=pick
 let w:Int->ao->Int:=λv q=>if q.2.1≠ -1/\0 < q.2.2/\S q v then q.2.2 else 0
 cases e:df n rs with
 | false=>rfl
 | true =>
  show absurd (?_:Met rs λv=>C+hZ rs (w v)) (rJ k e _);intro r hr;obtain⟨r1,r2,r3,r4,r5⟩:=k r hr;have w0: ∀v,0<=hZ rs (w v):=λv=>Cm rs _ λq hq=>by
   change 0<=if q.2.1≠ -1/\0 < q.2.2/\S q v then q.2.2 else 0;split <;> lia
  unfold ask;by_cases hp:r.2.1= -1
  .rw[MU hp];have:=w0 r.1;have:=hC r hr;change r.2.2<=C+hZ rs (w r.1);lia
  .rw[MP hp];have mono: ∀q∈rs,w r.2.1 q<=w r.1 q:=λq hq=>by
    change (if q.2.1≠ -1/\0 < q.2.2/\S q r.2.1 then q.2.2 else 0)<=(if q.2.1≠ -1/\0 < q.2.2/\S q r.1 then q.2.2 else 0);by_cases c:q.2.1≠ -1/\0 < q.2.2/\S q r.2.1
    .rw[MU c,MU ⟨c.1,c.2.1,(hS q hq c.1 c.2.1).2.2 r hr Y c.2.2⟩];exact Np _
    .rw[MP c];split <;> lia
   change C+hZ rs (w r.2.1)+r.2.2<=C+hZ rs (w r.1);by_cases hm:0 < r.2.2
   .have s:=hS r hr hp hm;have:=zJ rs (w r.2.1) (w r.1) r r.2.2 mono hr (by
     change (if r.2.1≠ -1/\0 < r.2.2/\S r r.2.1 then r.2.2 else 0)+r.2.2<=(if r.2.1≠ -1/\0 < r.2.2/\S r r.1 then r.2.2 else 0);rw[MP (λz=>s.2.1 z.2.2),MU ⟨hp,hm,s.1⟩];lia)
    lia
   .have:=u3 rs (w r.2.1) (w r.1) mono;lia
end MA
namespace L2
open PySem PySem.Spec PyProof.Rows
abbrev QX:=List (Key×V)
def has (kvs:QX) (k:Int):Prop:=(aR kvs (Sum.inl k)).isSome=true
def lA (n:Nat) (kvs:QX):Nat:=((List.range n).map λi=>if (aR kvs (Sum.inl ((i:Nat):Int))).isSome then 0 else 1).sum
def Kj (H:Hp) (rs:List MA.ao) (s:Int) (q:Addr) (kvs:QX) (k:Int) (v:V):Prop :=
 ∃a ps,v= .ref a/\H a=some (.lst (aH ps))/\a≠q/\MA.Path rs s k ps/\(s::MA.QY rs ps).Nodup/\(∀x∈s::MA.QY rs ps,has kvs x)/\ps.length+1<=kvs.length
structure Bf (H0 H:Hp) (n:Nat) (rs:List MA.ao) (s:Int) (d q:Addr) (kvs:QX) (ws:List Int) (sk:Int->Prop):Prop where
 hd:H d=some (.dK kvs)
 hq:H q=some (.lst (ws.map V.int))
 sm:ag H0 H
 fd:H0 d=none
 fq:H0 q=none
 Q1: ∀k,has kvs k->0<=k/\k < n
 val: ∀k v,aR kvs (Sum.inl k)=some v->Kj H rs s q kvs k v
 st:has kvs s
 wk: ∀m∈ws,has kvs m
 cl: ∀k,has kvs k->k∉ws-> ¬sk k-> ∀r∈rs,r.2.1=k->has kvs r.1
 cn:kvs.length+lA n kvs<=n
section
variable {H0 H:Hp}{n:Nat}{rs:List MA.ao}{s:Int}{d q:Addr}{kvs:QX}{ws:List Int}{sk:Int->Prop}
theorem Bf.ne (b:Bf H0 H n rs s d q kvs ws sk):d≠q:=xc b.hd b.hq (by intro z; cases z)
theorem Bf.grow {H':Hp}(b:Bf H0 H n rs s d q kvs ws sk) (e:ag H H'):Bf H0 H' n rs s d q kvs ws sk :=
 ⟨e _ _ b.hd,e _ _ b.hq,b.sm.trans e,b.fd,b.fq,b.Q1,λk v h=>by
  obtain⟨a,ps,e1,e2,r⟩:=b.val k v h;exact⟨a,ps,e1,e _ _ e2,r⟩,b.st,b.wk,b.cl,b.cn⟩
theorem Bf.pop {m:Int}{r:List Int}(b:Bf H0 H n rs s d q kvs (m::r) sk) (hs: ∀k,¬sk k):Bf H0 (upd H q (.lst (r.map V.int))) n rs s d q kvs r (λk=>k=m) :=
 ⟨(ah b.ne).trans b.hd,aa,b.sm.eI b.fq,b.fd,b.fq,b.Q1,λk v h=>by
  obtain⟨a,ps,e1,e2,e3,r⟩:=b.val k v h;exact⟨a,ps,e1,(ah e3).trans e2,e3,r⟩,b.st,λx hx=>b.wk x (M4 _ hx),λk h1 h2 h3=>b.cl k h1 (λz=>(M3.mp z).elim h3 h2) (hs k),b.cn⟩
theorem cG {k:Int}{v:V}{j:Int}:has (putK kvs (Sum.inl k) v) j↔j=k\/has kvs j:=by
 unfold has;rw[kg];by_cases e:j=k;.subst e; simp
 .rw[MP (λz=>e (PJ z))]; simp[e]
theorem mj {k:Int}{v:V}(h0:0<=k) (h1:k < n) (hn: ¬has kvs k):lA n (putK kvs (Sum.inl k) v)+1<=lA n kvs:=by
 show MA.rF _ _ _ (λi _=>?_) ⟨k.toNat,Nh.mpr (by lia),?_⟩
 .by_cases c:has kvs (i:Nat)
  .rw[MU (show (aR (putK kvs (Sum.inl k) v) (Sum.inl ((i:Nat):Int))).isSome=true from cG.mpr (.inr c))];exact NN _
  .rw[MP (show ¬(aR kvs (Sum.inl ((i:Nat):Int))).isSome=true from c)];split <;> lia
 .have e:((k.toNat:Nat):Int)=k:=Y;rw[e,MU (show (aR (putK kvs (Sum.inl k) v) (Sum.inl k)).isSome=true from cG.mpr (.inl rfl)),MP (show ¬(aR kvs (Sum.inl k)).isSome=true from hn)];decide
theorem Bf.reach {m:Int}{a p:Addr}{ps:List Nat}{i:Nat}{rl:MA.ao}(b:Bf H0 H n rs s d q kvs ws (λk=>k=m)) (hv:aR kvs (Sum.inl m)=some (.ref a)) (ha:H a=some (.lst (aH ps)))
  (hp:MA.Path rs s m ps) (Q8:(s::MA.QY rs ps).Nodup) (hall: ∀x∈s::MA.QY rs ps,has kvs x) (hl:ps.length+1<=kvs.length)
  (hr:rs[i]?=some rl) (hb:rl.2.1=m) (k0:0<=rl.1) (k1:rl.1 < n) (hn: ¬has kvs rl.1) (hpp:H p=some (.lst (aH (ps++[i])))) (npq:p≠q) :
  Bf H0 (upd (upd H d (.dK (putK kvs (Sum.inl rl.1) (.ref p)))) q (.lst ((ws++[rl.1]).map V.int))) n rs s d q (putK kvs (Sum.inl rl.1) (.ref p)) (ws++[rl.1]) (λk=>k=m):=by
 have lenP:(putK kvs (Sum.inl rl.1) (V.ref p)).length=kvs.length+1:=by
  rw[pY _ (by unfold has at hn; simpa using hn),M0];rfl
 have keep: ∀c xs,H c=some (.lst xs)->c≠q->(upd (upd H d (.dK (putK kvs (Sum.inl rl.1) (.ref p)))) q (.lst ((ws++[rl.1]).map V.int))) c=some (.lst xs):=λc xs e ne=>by
  rw[ah ne,ah (xc e b.hd (by intro z; cases z))];exact e
 show⟨(ah b.ne).trans aa,aa,?_,b.fd,b.fq,λj hj=>?_,λj v hj=>?_,cG.mpr (.inr b.st),λx hx=>?_,λj h1 h2 h3 r hrr hrb=>?_,?_⟩;.exact (b.sm.eI b.fd).eI b.fq
 .rcases cG.mp hj with rfl | hj
  .exact⟨k0,k1⟩
  .exact b.Q1 j hj
 .rw[kg] at hj;by_cases e:j=rl.1
  .rw[MU (by rw[e])] at hj;cases hj;rw[e];show⟨p,ps++[i],Z,keep p _ hpp npq,npq,.snoc hp hr hb,?_,λx hx=>?_,?_⟩
   .rw[MA.iL hr,<-Qx];show OU.mpr ⟨Q8,NM.mpr ⟨NL,OX⟩,λx hx y hy=>?_⟩;rw[MT.mp hy];intro z;exact hn (z▸hall x hx)
   .rw[MA.iL hr,<-Qx] at hx;rcases M8.mp hx with hx | hx
    .exact cG.mpr (.inr (hall x hx))
    .exact cG.mpr (.inl (MT.mp hx))
   .rw[M0,lenP];change ps.length+1+1<=_;lia
  .rw[MP (λz=>e (PJ z))] at hj;obtain⟨a2,ps2,e1,e2,e3,e4,e5,e6,e7⟩:=b.val j v hj;exact⟨a2,ps2,e1,keep a2 _ e2 e3,e3,e4,e5,λx hx=>cG.mpr (.inr (e6 x hx)),by rw[lenP]; lia⟩
 .rcases M8.mp hx with hx | hx
  .exact cG.mpr (.inr (b.wk x hx))
  .exact cG.mpr (.inl (MT.mp hx))
 .rcases cG.mp h1 with e | h1
  .exact absurd (Nn _ (by rw[e]; exact MT.mpr rfl)) h2
  .exact cG.mpr (.inr (b.cl j h1 (λz=>h2 (NO _ z)) h3 r hrr hrb))
 .have:=mj (v:= .ref p) k0 k1 hn;have:=b.cn;rw[lenP];lia
end
theorem FE {ps qs:List Nat}:aH (ps++qs)=aH ps++aH qs:=Nf
end L2
namespace MA
def fj (ws:List Int) (q:ao):List Int:=if q.2.1 < 0 then put ws q.1 (mx (g ws q.1) q.2.2) else ws
def cX (n:Nat) (rs:List ao):List Int:=rs.foldl fj (List.replicate n 0)
def fz (M:Mt) (fs:List Int) (a:Nat) (ws:List Int) (b:Nat):List Int:=if 0<=M a b then put ws (b:Nat) (mx (g ws (b:Nat)) (g fs (a:Nat)+M a b)) else ws
def kf (n:Nat) (M:Mt) (fs:List Int) (ws:List Int) (a:Nat):List Int:=(List.range n).foldl (fz M fs a) ws
def qG (n:Nat) (M:Mt) (fs:List Int):List Int:=(List.range n).foldl (kf n M fs) (List.replicate n 0)
def cB (n:Nat) (rs:List ao):List Int:=qG n (aE n rs) (cX n rs)
variable{ws:List Int}
theorem jX {q:ao}:(fj ws q).length=ws.length:=by
 unfold fj;split;.exact gq
 .rfl
variable{M:Mt}{a:Nat}
theorem jK {fs:List Int}{b:Nat}:(fz M fs a ws b).length=ws.length:=by
 unfold fz;split;.exact gq
 .rfl
theorem gY {α:Type}(f:List Int->α->List Int) (h: ∀ws a,(f ws a).length=ws.length): ∀(l:List α) (ws:List Int),(l.foldl f ws).length=ws.length
 | [],_=>rfl
 | a::l,ws=>(gY f h l (f ws a)).trans (h ws a)
variable{rs:List ao}
theorem EA {n:Nat}:(cX n rs).length=n:=(gY _ (λ_ _=>jX) _ _).trans (by simp)
theorem mM {n:Nat}{fs:List Int}:(kf n M fs ws a).length=ws.length:=gY _ (λ_ _=>jK) _ _
theorem tU {n:Nat}{fs:List Int}:(qG n M fs).length=n:=(gY _ (λ_ _=>mM) _ _).trans (by simp)
theorem CJ {n:Nat}(k: ∀r∈rs,QO n r):(∀i:Int,0<=i->i < n->0<=g (cX n rs) i)/\(∀r∈rs,r.2.1= -1->r.2.2<=g (cX n rs) r.1) /\
  ∀h:Int->Int,(∀i:Int,0<=i->i < n->0<=h i)->(∀r∈rs,r.2.1= -1->r.2.2<=h r.1)->Le n (g (cX n rs)) h:=by
 have up: ∀(l:List ao) (ws:List Int),(∀r∈l,QO n r)->ws.length=n->Le n (g ws) (g (l.foldl fj ws)):=λl=>by
  induction l with
  | nil=>intro ws _ _ i _ _; exact Np _
  | cons r l ih =>
   intro ws hk hl i h0 h1;have kr:=hk r (M7);show NA ?_ (ih (fj ws r) (λx hx=>hk x (M4 _ hx)) (jX.trans hl) i h0 h1);unfold fj;split
   .rw[ff kr.1 (by rw[hl]; exact kr.2.1) h0];split;.rename_i e; rw[e]; exact fH _ _
    .exact Np _
   .exact Np _
 show⟨λi h0 h1=>?_,λr hr hb=>?_,λh h0 hh=>?_⟩
 .have:=up rs (List.replicate n 0) k (by simp) i h0 h1;rw[kJ] at this;exact this
 .have: ∀(l:List ao) (ws:List Int),(∀r∈l,QO n r)->ws.length=n->r∈l->r.2.2<=g (l.foldl fj ws) r.1:=λl=>by
   induction l with
   | nil=>intro ws _ _ h; cases h
   | cons q l ih =>
    intro ws hk hl hm;have kq:=hk q (M7);have hk':=λx hx=>hk x (M4 q hx);rcases M3.mp hm with rfl | hm
    .show NA ?_ (up l (fj ws r) hk' (jX.trans hl) r.1 kq.1 kq.2.1);unfold fj;rw[MU Y,ff kq.1 (by rw[hl]; exact kq.2.1) kq.1,MU rfl];exact ja _ _
    .exact ih (fj ws q) hk' (jX.trans hl) hm
  exact this rs _ k (by simp) hr
 .have: ∀(l:List ao) (ws:List Int),(∀r∈l,QO n r)->(∀r∈l,r.2.1= -1->r.2.2<=h r.1)->ws.length=n->Le n (g ws) h->Le n (g (l.foldl fj ws)) h:=λl=>by
   induction l with
   | nil=>intro ws _ _ _ hw; exact hw
   | cons q l ih =>
    intro ws hk hh hl hw;have kq:=hk q (M7);show ih (fj ws q) (λx hx=>hk x (M4 _ hx)) (λx hx=>hh x (M4 _ hx)) (jX.trans hl) λi i0 i1=>?_;unfold fj;split
    .rename_i hb;rw[ff kq.1 (by rw[hl]; exact kq.2.1) i0];split;.rename_i e; rw[e]; exact uQ (hw _ kq.1 kq.2.1) (hh q (M7) (by have:=kq.2.2.1; lia))
     .exact hw i i0 i1
    .exact hw i i0 i1
  exact this rs _ k hh (by simp) λi a b=>by rw[kJ]; exact h0 i a b
theorem GN {n:Nat}{fs:List Int}{b:Nat}(hb:b < n) (hl:ws.length=n):Le n (g ws) (g (fz M fs a ws b)):=λi h0 h1=>by
 unfold fz;split
 .rw[ff Y Y h0];split;.rename_i e; rw[e]; exact fH _ _
  .exact Np _
 .exact Np _
theorem u4 {n:Nat}{fs:List Int}: ∀(l:List Nat) (ws:List Int),(∀b∈l,b < n)->ws.length=n->Le n (g ws) (g (l.foldl (fz M fs a) ws))
 | [],_,_,_=>λ_ _ _=>Np _
 | b::l,ws,hb,hl=>λi h0 h1=>NA (GN (hb b (M7)) hl i h0 h1) (u4 l (fz M fs a ws b) (λx hx=>hb x (M4 _ hx)) (jK.trans hl) i h0 h1)
theorem z8 {n:Nat}{fs:List Int}: ∀(l:List Nat) (ws:List Int),ws.length=n->Le n (g ws) (g (l.foldl (kf n M fs) ws))
 | [],_,_=>λ_ _ _=>Np _
 | a::l,ws,hl=>λi h0 h1=>NA (u4 (List.range n) ws (λb hb=>Nh.mp hb) hl i h0 h1) (z8 l (kf n M fs ws a) (mM.trans hl) i h0 h1)
theorem oO {n:Nat}{M:Mt}{fs:List Int}{a b:Nat}(ha:a < n) (hb:b < n) (hm:0<=M a b):g fs (a:Nat)+M a b<=g (qG n M fs) (b:Nat):=by
 have inner: ∀(l:List Nat) (ws:List Int),(∀b∈l,b < n)->ws.length=n->b∈l->g fs (a:Nat)+M a b<=g (l.foldl (fz M fs a) ws) (b:Nat):=λl=>by
  induction l with
  | nil=>intro ws _ _ h; cases h
  | cons c l ih =>
   intro ws hl hw hm';have hl':=λx hx=>hl x (M4 c hx);rcases M3.mp hm' with rfl | hm'
   .show NA ?_ (u4 l (fz M fs a ws b) hl' (jK.trans hw) (b:Nat) Y Y);unfold fz;rw[MU hm,ff Y Y Y,MU rfl];exact ja _ _
   .exact ih (fz M fs a ws c) hl' (jK.trans hw) hm'
 have outer: ∀(l:List Nat) (ws:List Int),ws.length=n->a∈l->g fs (a:Nat)+M a b<=g (l.foldl (kf n M fs) ws) (b:Nat):=λl=>by
  induction l with
  | nil=>intro ws _ h; cases h
  | cons c l ih =>
   intro ws hw hm';rcases M3.mp hm' with rfl | hm'
   .exact NA (inner (List.range n) ws (λb hb=>Nh.mp hb) hw (Nh.mpr hb)) (z8 l (kf n M fs ws a) (mM.trans hw) (b:Nat) Y Y)
   .exact ih (kf n M fs ws c) (mM.trans hw) hm'
 exact outer (List.range n) _ (by simp) (Nh.mpr ha)
theorem Aa {n:Nat}{M:Mt}{fs:List Int}{h:Int->Int}(h0: ∀i:Int,0<=i->i < n->0<=h i) (hh: ∀a b:Nat,a < n->b < n->0<=M a b->g fs (a:Nat)+M a b<=h (b:Nat)):Le n (g (qG n M fs)) h:=by
 show (fP (λws=>ws.length=n/\Le n (g ws) h) _ _ _ ⟨by simp,λi a b=>by rw[kJ]; exact h0 i a b⟩ λws a ha hw=>?_).2;show fP (λws=>ws.length=n/\Le n (g ws) h) _ _ _ hw λus b hb hu=>?_;show⟨jK.trans hu.1,λi i0 i1=>?_⟩;have hb:=Nh.mp hb;unfold fz;split
 .rename_i hm;rw[ff Y (by have:=hu.1; lia) i0];split
  .rename_i e;rw[e];exact uQ (hu.2 _ Y Y) (hh a b (Nh.mp ha) hb hm)
  .exact hu.2 i i0 i1
 .exact hu.2 i i0 i1
theorem nL {n:Nat}{L:List Int}(k: ∀r∈rs,QO n r) (h:aY n rs=some L):cB n rs=L:=by
 obtain⟨l1,l2,l3,l4⟩:=bX k h;obtain⟨f1,f2,f3⟩:=CJ k;have sd:=lb k l2;have hd: ∀i,i < n->aE n rs i i<=0:=λi hi=>by
  show NW λc=>?_;have:=sd i i Y;lia
 obtain⟨up,dg,cl⟩:=qc hd;have fL:Le n (g (cX n rs)) (g L):=f3 (g L) l3 λr hr hb=>by
  have:=l2 r hr;unfold ask at this;rw[MU hb] at this;exact this
 have dl:Le n (g (cB n rs)) (g L):=Aa l3 λa b ha hb hm=>by
  have h1:=sd a b hm;have h2:=fL (a:Nat) Y Y;lia
 have d0: ∀i:Int,0<=i->i < n->0<=g (cB n rs) i:=λi i0 i1=>by
  have e:((i.toNat:Nat):Int)=i:=Y;have h1:=oO (n:=n) (M:=aE n rs) (fs:=cX n rs) (a:=i.toNat) (b:=i.toNat) Y Y (by rw[dg _ Y]; lia);rw[dg _ Y,e] at h1;have:=f1 i i0 i1;change 0<=g (qG n (aE n rs) (cX n rs)) i;lia
 have dm:Met rs (g (cB n rs)):=λr hr=>by
  obtain⟨r1,r2,r3,r4,r5⟩:=k r hr;have e1:((r.1.toNat:Nat):Int)=r.1:=Y;unfold ask;split
  .rename_i hb;have h1:=oO (n:=n) (M:=aE n rs) (fs:=cX n rs) (a:=r.1.toNat) (b:=r.1.toNat) Y Y (by rw[dg _ Y]; lia);rw[dg _ Y,e1] at h1;have h2:=f2 r hr hb;change _<=g (qG n (aE n rs) (cX n rs)) r.1;lia
  .rename_i hb;have e2:((r.2.1.toNat:Nat):Int)=r.2.1:=Y;have hl:r.2.2<=aE n rs r.2.1.toNat r.1.toNat:=NA (rY (n:=n) rs (M1 n) r hr Y) (up _ _);have hb1:=oO (n:=n) (M:=aE n rs) (fs:=cX n rs) (a:=r.2.1.toNat) (b:=r.1.toNat) Y Y Y;rw[e1,e2] at hb1;have hf:=f1 r.2.1 Y r4;have:=Aa (n:=n) (M:=aE n rs) (fs:=cX n rs) (h:=λv=>if v=r.2.1 then g (cB n rs) r.1 - r.2.2 else g (cB n rs) v) (λi i0 i1=>?_) (λa b ha hb' hm=>?_) r.2.1 Y r4
   .have this:g (cB n rs) r.2.1<=if r.2.1=r.2.1 then g (cB n rs) r.1 - r.2.2 else g (cB n rs) r.2.1:=this;rw[MU rfl] at this;lia
   .change 0<=if i=r.2.1 then g (cB n rs) r.1 - r.2.2 else g (cB n rs) i;split
    .change 0<=g (qG n (aE n rs) (cX n rs)) r.1 - r.2.2;lia
    .exact d0 i i0 i1
   .change g (cX n rs) (a:Nat)+aE n rs a b<=if (b:Int)=r.2.1 then g (cB n rs) r.1 - r.2.2 else g (cB n rs) (b:Nat);split
    .rename_i e;have eb:b=r.2.1.toNat:=Y;rw[eb] at hm ⊢;have c:=cl r.2.1.toNat Y a r.1.toNat ha Y hm Y;have h2:=oO (n:=n) (M:=aE n rs) (fs:=cX n rs) (a:=a) (b:=r.1.toNat) ha Y Y;rw[e1] at h2;change _<=g (qG n (aE n rs) (cX n rs)) r.1 - r.2.2;lia
    .exact oO ha hb' hm
 show F6 (tU.trans l1.symm) λi i0 i1=>?_;have i1:i < n:=by
  have:(cB n rs).length=n:=tU;lia
 have a:=dl i i0 i1;have b:=l4 (g (cB n rs)) d0 dm i i0 i1;lia
inductive Q2 (rs:List ao):Int->List Nat->Prop
 | one {i:Nat}{q:ao}:rs[i]?=some q->Q2 rs q.1 [i]
 | snoc {k:Int}{ps:List Nat}{i:Nat}{q:ao}:Q2 rs k ps->rs[i]?=some q->q.2.1=k->Q2 rs q.1 (ps++[i])
def eA (rs:List ao) (ps:List Nat):Int:=(ps.map (uT rs)).sum
theorem gU {ps:List Nat}{i:Nat}{q:ao}(h:rs[i]?=some q):eA rs (ps++[i])=eA rs ps+q.2.2:=by
 unfold eA;rw[Nf,List.sum_append];change _+(uT rs i+0)=_;rw[DG h,Int.add_zero]
theorem Q2.lt {k:Int}{ps:List Nat}(h:Q2 rs k ps): ∀i∈ps,i < rs.length:=by
 induction h with
 | one hi=>intro j hj; rw[MT.mp hj]; exact (MW.mp hi).1
 | snoc _ hi _ ih =>
  intro j hj;rcases M8.mp hj with hj | hj
  .exact ih j hj
  .rw[MT.mp hj]; exact (MW.mp hi).1
end MA
namespace L2
open PySem PySem.Spec PyProof.Rows
inductive MI (K:QG) (x y:V) (H:Hp) (Q:VK):Prop | mk (a b:Addr) (ns ms:List Int) (e0:x= .ref a) (e1:y= .ref b) (e2:QF K H a (ns.map V.int)) (e3:QF K H b (ms.map V.int)) (q:Q (.bl (!decide (ns=ms))) H)
end L2
namespace MA
def over (x:Int):Option Int->Bool
 | none=>false
 | some c=>decide (c < x)
def b9 (ws:List Int) (cs:List (Option Int)):Option Nat:=(List.range ws.length).find? λi=>over (g ws (i:Nat)) (cs.getD i none)
variable{p:Nat->Bool}
theorem ue: ∀ {n i:Nat},i < n->p i=true->(∀j,j < i->p j=false)->(List.range n).find? p=some i
 | 0,_,h,_,_=>absurd h (NP _)
 | n+1,i,h,hp,hn=>by
  rw[Oh,List.find?_append];by_cases e:i < n
  .rw[ue e hp hn];rfl
  .have e:i=n:=Y;subst e;have:(List.range i).find? p=none:=OL.mpr λj hj=>by rw[hn j (Nh.mp hj)]; exact Nd
   rw[this];change ([i].find? p)=some i;simp[hp]
theorem find_none {n:Nat}(h: ∀j,j < n->p j=false):(List.range n).find? p=none:=OL.mpr λj hj=>by rw[h j (Nh.mp hj)]; exact Nd
variable{ws:List Int}{cs:List (Option Int)}
theorem ug {i:Nat}(hi:i < ws.length) (h:over (g ws (i:Nat)) (cs.getD i none)=true) (hn: ∀j,j < i->over (g ws (j:Nat)) (cs.getD j none)=false):b9 ws cs=some i:=ue hi h hn
theorem uR(h: ∀j,j < ws.length->over (g ws (j:Nat)) (cs.getD j none)=false):b9 ws cs=none:=find_none h
def uk (n:Nat) (rs:List ao) (L:List Int) (m x:Int):List Int:=it rs n (put L m (g L m+x))
theorem HR {n:Nat}{rs:List ao}{L:List Int}{m x:Int}(k: ∀r∈rs,QO n r) (h:aY n rs=some L) (m0:0<=m) (m1:m < n) (x0:0<=x):(uk n rs L m x).length=n /\
  ∀v:Nat,v < n->g (uk n rs L m x) (v:Nat)=if 0<=aE n rs m.toNat v then mx (g L (v:Nat)) (g L m+x+aE n rs m.toNat v) else g L (v:Nat):=by
 obtain⟨l1,l2,l3,l4⟩:=bX k h;have sd:=lb k l2;have hd: ∀i,i < n->aE n rs i i<=0:=λi hi=>by
  show NW λc=>?_;have:=sd i i Y;lia
 obtain⟨up,dg,cl⟩:=qc hd;have em:((m.toNat:Nat):Int)=m:=Y;have sl:(put L m (g L m+x)).length=n:=gq.trans l1;have sg: ∀i:Int,0<=i->g (put L m (g L m+x)) i=if i=m then g L m+x else g L i:=λi i0=>ff m0 Y i0
 let hh:Int->Int:=λv=>if 0<=aE n rs m.toNat v.toNat then mx (g L v) (g L m+x+aE n rs m.toNat v.toNat) else g L v
 have hL: ∀v,g L v<=hh v:=λv=>by
  change g L v<=if 0<=aE n rs m.toNat v.toNat then mx (g L v) (g L m+x+aE n rs m.toNat v.toNat) else g L v;split;.exact fH _ _
  .exact Np _
 have hX: ∀v:Int,0<=aE n rs m.toNat v.toNat->g L m+x+aE n rs m.toNat v.toNat<=hh v:=λv c=>by
  change _<=if 0<=aE n rs m.toNat v.toNat then mx (g L v) (g L m+x+aE n rs m.toNat v.toNat) else g L v;rw[MU c];exact ja _ _
 have hC: ∀v:Int,hh v=g L v\/(0<=aE n rs m.toNat v.toNat/\hh v=g L m+x+aE n rs m.toNat v.toNat):=λv=>by
  by_cases c:0<=aE n rs m.toNat v.toNat
  .have e:hh v=mx (g L v) (g L m+x+aE n rs m.toNat v.toNat):=MU c;rcases xj (g L v) (g L m+x+aE n rs m.toNat v.toNat) with z | z
   .exact .inl (e.trans z)
   .exact .inr ⟨c,e.trans z⟩
  .exact .inl (MP c)
 have hm:Met rs hh:=λr hr=>by
  obtain⟨r1,r2,r3,r4,r5⟩:=k r hr;have a:=l2 r hr;unfold ask at a ⊢;split
  .rename_i e;rw[MU e] at a;exact NA a (hL _)
  .rename_i e;rw[MP e] at a;have hb:=hL r.1;rcases hC r.2.1 with z | ⟨c,z⟩
   .rw[z]; lia
   .rw[z];have hl:r.2.2<=aE n rs r.2.1.toNat r.1.toNat:=NA (rY (n:=n) rs (M1 n) r hr Y) (up _ _);have c2:=cl r.2.1.toNat Y m.toNat r.1.toNat Y Y c Y;have:=hX r.1 Y;lia
 have hst:Le n (g (put L m (g L m+x))) hh:=λi i0 i1=>by
  rw[sg i i0];split
  .rename_i e;rw[e];have:=hX m (by rw[dg _ Y]; lia);rw[dg _ Y] at this;lia
  .exact hL i
 have st:=yy k sl hm hst;have rl:(uk n rs L m x).length=n:=(oH _ _ _).trans sl;have rm:Met rs (g (uk n rs L m x)):=iB k rl st;have ru:=uz k n (put L m (g L m+x)) sl;have rle:=ub k hm n (put L m (g L m+x)) sl hst;show⟨rl,λv hv=>?_⟩;have e1:hh (v:Nat)=if 0<=aE n rs m.toNat v then mx (g L (v:Nat)) (g L m+x+aE n rs m.toNat v) else g L (v:Nat):=rfl;rw[<-e1];have a:=rle (v:Nat) Y Y;have b:=ru (v:Nat) Y Y;rw[sg (v:Nat) Y] at b;have bm:=ru m m0 m1;rw[sg m m0,MU rfl] at bm;have s2:=lb k rm m.toNat v;rw[em] at s2;have bL:g L (v:Nat)<=g (it rs n (put L m (g L m+x))) (v:Nat):=by
  split at b
  .rename_i e;have:g L (v:Nat)=g L m:=(by rw[e]);lia
  .exact b
 change g (it rs n (put L m (g L m+x))) (v:Nat)=hh (v:Nat);have s2:0<=aE n rs m.toNat v->g (it rs n (put L m (g L m+x))) m+aE n rs m.toNat v<=g (it rs n (put L m (g L m+x))) (v:Nat):=s2;rcases hC (v:Nat) with z | ⟨c,z⟩
 .lia
 .have c:0<=aE n rs m.toNat v:=c;have z:hh (v:Nat)=g L m+x+aE n rs m.toNat v:=z;have:=s2 c;lia
def gW (n:Nat) (rs:List ao) (L:List Int) (cs:List (Option Int)) (m:Int):Option (Int×Nat)->Prop
 | none=> ∀(v:Nat) (c:Int),v < n->cs.getD v none=some c->aE n rs m.toNat v < 0
 | some (s,stop)=>0<=s/\stop < n/\(∃c,cs.getD stop none=some c/\0<=aE n rs m.toNat stop/\c=g L m+s+aE n rs m.toNat stop) /\
   (∀(v:Nat) (c:Int),v < n->cs.getD v none=some c->0<=aE n rs m.toNat v->g L m+s+aE n rs m.toNat v<=c)/\ ∀(v:Nat) (c:Int),v < stop->cs.getD v none=some c->0<=aE n rs m.toNat v->g L m+s+aE n rs m.toNat v < c
def Within (n:Nat) (L:List Int) (cs:List (Option Int)):Prop:= ∀(v:Nat) (c:Int),v < n->cs.getD v none=some c->g L (v:Nat)<=c
section
variable {n:Nat}{rs:List ao}{L:List Int}{cs:List (Option Int)}{m:Int}
end
end MA
namespace L2
open PySem PySem.Spec PyProof.Rows
inductive Ke (K:QG) (xs:List V) (H:Hp) (Q:VK):Prop | mk (a:Addr) (ns:List Int) (e0:xs=[.ref a]) (e1:QF K H a (ns.map V.int)) (q:Q (.int ns.sum) H)
def xW (K:QG):List V->Hp->VK->Prop:=λxs H Q=>Ke K xs H Q
variable{X:Cx}
theorem pV(hc:X.calm=true):du X (.builtin "sum") (xW X.K):=by
 intro QE s O H xs us Q I r h;obtain⟨a,ns,rfl,ha,q⟩:=h;obtain⟨u,rfl,ru⟩:=vals1 r;cases ru;obtain⟨its,rv,pl,hz⟩:=I.list ha;have hi:IntsAre its ns:=intsAre_of rv;obtain⟨zs,e⟩:=hi.allInts.items;have hn:(numsOf its.toArray.toList).sum=ns.sum:=by rw[show its.toArray.toList=its from rfl,hi.numsOf]
 show sum_intListG (I.ok.hd hc) (e▸pl.isList) λh' tk t' hk=>?_;show⟨.int ns.sum,H,I.kept (t':=tk) hk,⟨t',?_⟩,q⟩;rw[<-hn,e,nums_intItems,preSum_eq,N2 (by simp)]
def dA:Option Int->V
 | none=> .non
 | some c=> .int c
theorem uH {cs:List (Option Int)}{k:Nat}(h:k < cs.length):QV (cs.map dA) (k:Nat)=some (dA (cs.getD k none)):=bz (by rw[M5,MQ h,MX,MQ h]; rfl)
def TM (K:QG) (C:Addr) (m qual:Str) (st:Stmt):Prop:= ∃f fd,Meth K C m f/\RY K m qual st f fd
def GM (CX:Rk) (P:Program) (w:World) (K:QG) (mg:oR) (base:Heap) (k:Nat) (C:Addr) (m:Str) (ps:List Str) (sp:Sp):Prop :=
 ∃f fd,Meth K C m f/\Binds K fd ps []/\dC P w K mg base CX k f fd ps sp
abbrev Ri:=GM Rc
abbrev Rp (P:Program) (w:World):=GM (Rj P w) P w
section
variable {P:Program}{w:World}{K:QG}{mg:oR}{base:Heap}{C:Addr}{m qual:Str}{st:Stmt}{N ps:List Str}{k:Nat}{sp:Sp}
theorem dt {f:Addr}{oc:Value}{od an:Option Addr}{osl:Array (Option Value)}{kV doc pm cdv ct:Value}(a:PySem.W.findIn K (.ref C) m=some (some (.ref f))) (i:PySem.W.isFn K (.ref f)=true)
  (l:K.lookup f=some ⟨oc,od,.func (PySem.W.fnOf m qual (cU st) (bN st) (aj st) .none kV doc pm an cdv ct),osl⟩) (c:PySem.W.codeIn K cdv qual=true) (k:PySem.W.keepIn K (.ref f)=true):TM K C m qual st :=
 ⟨f,_,⟨a,i,k⟩,xF (st:=st) l c k⟩
theorem IB (h:TM K C m qual st) (S:ax N ps (aj st))
  (hb: ∀(kV doc pm:Value) (an:Option Addr) (cdv ct:Value) (us:List Value),us.length=ps.length->bindArgs (PySem.W.fnOf m qual (cU st) (bN st) (aj st) .none kV doc pm an cdv ct) ⟨us,[]⟩=pure (ps.zip us))
  (len: ∀vs H Q E,sp vs H Q E->vs.length=ps.length)
  (hbody: ∀(f:Addr) (cdv:Value) (A:Around) (outer:List Env) (s:Shared) (H:Hp) (vs:List V) (Q:VK) (E:XK),bC k (A.deeper (envOfC qual (aj st) s.heap.objs.size f cdv))->sp vs H Q E ->
   ∃t,Q0 (fW Rc P w K mg base N qual (aj st) f cdv A outer s H E).RM (bN st) t/\t { nx:=λ_ H'=>Q .non H',rt:=Q } (start N vs) H):GM Rc P w K mg base (k+1) C m ps sp:=by
 obtain⟨f,fd,hm,F⟩:=h;exact⟨f,fd,hm,F.binds hb,F.ok S len λcdv A outer s H vs Q E hr hs=>hbody f cdv A outer s H vs Q E hr hs⟩
theorem J4 (h:TM K C m qual st) (S:ax N ps (aj st))
  (hb: ∀(kV doc pm:Value) (an:Option Addr) (cdv ct:Value) (us:List Value),us.length=ps.length->bindArgs (PySem.W.fnOf m qual (cU st) (bN st) (aj st) .none kV doc pm an cdv ct) ⟨us,[]⟩=pure (ps.zip us))
  (len: ∀vs H Q E,sp vs H Q E->vs.length=ps.length)
  (hbody: ∀(f:Addr) (cdv:Value) (A:Around) (outer:List Env) (s:Shared) (H:Hp) (vs:List V) (Q:VK) (E:XK),bC k (A.deeper (envOfC qual (aj st) s.heap.objs.size f cdv))->sp vs H Q E ->
   ∃t,Q0 ((fW (Rj P w) P w K mg base N qual (aj st) f cdv A outer s H E).exc [] λ_=>E) (bN st) t/\t { nx:=λ_ H'=>Q .non H',rt:=Q } (start N vs) H):GM (Rj P w) P w K mg base (k+1) C m ps sp:=by
 obtain⟨f,fd,hm,F⟩:=h;obtain⟨oc,od,kV,doc,pm,an,cdv,ct,osl,rfl,lk,hcd⟩:=id F.ex;show⟨f,_,hm,F.binds hb,wY lk hcd S len λA outer s H vs Q E hr hs=>?_⟩;obtain⟨t,h1,h2⟩:=hbody f cdv A outer s H vs Q E hr hs;exact⟨t,xu h1,h2⟩
theorem GM.x (F:GM Rc P w K mg base k C m ps sp):GM (Rj P w) P w K mg base k C m ps sp:=by
 obtain⟨f,fd,a,b,d⟩:=F;exact⟨f,fd,a,b,d.II⟩
theorem GM.mono {CX:Rk}{j:Nat}(F:GM CX P w K mg base j C m ps sp) (h:j<=k):GM CX P w K mg base k C m ps sp:=by
 obtain⟨f,fd,a,b,d⟩:=F;exact⟨f,fd,a,b,d.mono h⟩
end
section
variable {X:Cx}{k:Nat}{C:Addr}{m:Str}{ps:List Str}{sp:Sp}{p pos apos:Pos}{o e:Expr}{es:List Expr}{ta:TE}{t:TA}
variable{pl:Sem Bool}
theorem c5(c:Rn X.K C) (G:GM Rc X.prog X.w X.K X.mg X.base k C m ps sp) (hr:bC k X.A) (he:PE X o ta) (ha:PA X (e::es) t)
  (hst:starEach (e::es) X.env=(false,eval e X.env)::starEach es X.env:=by rfl) (hpl:(backTo pos (starEach es X.env)).any (·.1)=false:=by rfl)
  (ht:eval (.Call (.Attribute o m apos) (e::es) [] pos) X.env=(do
   let ov <-eval o X.env
   standAt apos.atName
   let (f,first) <-holding [ov] (getMethod ov m pl)
   callWith pos f first (backTo pos (starEach (e::es) X.env)) (backToKw pos (keywordEach [] X.env))):=by rfl) :
  PE X (.Call (.Attribute o m apos) (e::es) [] pos) (xn C m sp [] E0 ta t):=by
 obtain⟨f,fd,hm,hb,F⟩:=G;exact HW he c hm F hr hb .nil w9 ha hst hpl ht
theorem i9(c:Rn X.K C) (G:GM Rc X.prog X.w X.K X.mg X.base k C m ps sp) (hr:bC k X.A) (he:PE X o ta)
  (ht:eval (.Call (.Attribute o m apos) [] [] pos) X.env=(do
   let ov <-eval o X.env
   standAt apos.atName
   let (f,first) <-holding [ov] (getMethod ov m pl)
   callWith pos f first (backTo pos (starEach [] X.env)) (backToKw pos (keywordEach [] X.env))):=by rfl) :
  PE X (.Call (.Attribute o m apos) [] [] pos) (xn C m sp [] E0 ta m8):=by
 obtain⟨f,fd,hm,hb,F⟩:=G;exact FW he c hm F hr hb .nil w9 ht
end
section
variable {X:Cx}{pn:mK}{E:St->XK}{k:Nat}{C:Addr}{m:Str}{ps:List Str}{sp:Sp}{p pos apos:Pos}{o e:Expr}{es:List Expr}{ta:TE}{t:TA}
inductive HS (C:Addr) (m:Str) (x:V) (H1:Hp) (k:Prop):Prop | mk (a dx fs:_) (e0:x= .ref a) (e1:H1 a=some (.ins C dx fs)) (e2:fs.lookup m=none) (q:k)
def Ec (C:Addr) (m:Str) (sp:Sp) (E:St->XK) (ta:TE) (t:TA):TE:=λO H Q=>ta O H λx H1=>HS C m x H1 (t O H1 λvs H2=>sp (x::(vs++[])) H2 Q (E O))
variable{pl:Sem Bool}
theorem gQ(c:Rn X.K C) (G:GM (Rj X.prog X.w) X.prog X.w X.K X.mg X.base k C m ps sp) (hr:bC k X.A) (he:PE (X.exc pn E) o ta) (ha:PA (X.exc pn E) (e::es) t)
  (hst:starEach (e::es) X.env=(false,eval e X.env)::starEach es X.env:=by rfl) (hpl:(backTo pos (starEach es X.env)).any (·.1)=false:=by rfl)
  (ht:eval (.Call (.Attribute o m apos) (e::es) [] pos) X.env=(do
   let ov <-eval o X.env
   standAt apos.atName
   let (f,first) <-holding [ov] (getMethod ov m pl)
   callWith pos f first (backTo pos (starEach (e::es) X.env)) (backToKw pos (keywordEach [] X.env))):=by rfl) :
  PE (X.exc pn E) (.Call (.Attribute o m apos) (e::es) [] pos) (Ec C m sp E ta t):=by
 obtain⟨f,fd,hm,hb,F⟩:=G;ext:1;show Pq (first:=[.ref a]) (h₀:=X.base) I.ok.mod.kin hm.kp (QL (ha pos QE s1 O H1 _ I1 q) λus s2 ⟨vs,H2,I2,r,q2⟩=>⟨I2.Rh,?_⟩) hst hpl;exact vE (us:= .ref a::us) (vs:= .ref a::vs) F hr hb I2 (.cons rfl r) q2
theorem bf(c:Rn X.K C) (G:GM (Rj X.prog X.w) X.prog X.w X.K X.mg X.base k C m ps sp) (hr:bC k X.A) (he:PE (X.exc pn E) o ta)
  (ht:eval (.Call (.Attribute o m apos) [] [] pos) X.env=(do
   let ov <-eval o X.env
   standAt apos.atName
   let (f,first) <-holding [ov] (getMethod ov m pl)
   callWith pos f first (backTo pos (starEach [] X.env)) (backToKw pos (keywordEach [] X.env))):=by rfl) :
  PE (X.exc pn E) (.Call (.Attribute o m apos) [] [] pos) (Ec C m sp E ta m8):=by
 obtain⟨f,fd,hm,hb,F⟩:=G;ext:1;exact Qd (first:=[.ref a]) I1.Rh hm.kp (vE (us:=[.ref a]) (vs:=[.ref a]) F hr hb I1 (.cons rfl .nil) q)
end
def GI (P:Program) (w:World) (K:QG) (mg:oR) (base:Heap) (k:Nat) (C:Addr) (x:Str) (ps:List Str) (sp:Sp):Prop :=
 mg x=some (.ref C)/\ ∃f fd,Mk K C f/\Binds K fd ps []/\dC P w K mg base Rc k f fd ps sp
theorem KL {P:Program}{w:World}{K:QG}{mg:oR}{base:Heap}{k:Nat}{C:Addr}{x:Str}{ps:List Str}{sp:Sp}(hx:mg x=some (.ref C)) (hmk:PySem.W.makesIn K C=true) (hk:PySem.W.keepIn K (.ref C)=true) (G:GM Rc P w K mg base k C "__init__" ps sp):GI P w K mg base k C x ps sp:=by
 obtain⟨f,fd,hm,hb,F⟩:=G;exact⟨hx,f,fd,⟨hmk,hm.at_,hm.fn,hk⟩,hb,F⟩
section
variable {X:Cx}{k:Nat}{C:Addr}{x:Str}{ps:List Str}{sp:Sp}{p pos:Pos}{e:Expr}{es:List Expr}{t:TA}
theorem CL (G:GI X.prog X.w X.K X.mg X.base k C x ps sp) (hr:bC (k+1) X.A) (hg:Gl X x:=by rfl) (hdb:(x == ("__debug__" : Str))=false:=by decide):PE X (.Call (.Name x p) [] [] pos) (Gb C sp [] E0 m8):=by
 obtain⟨hx,f,fd,M,hb,F⟩:=G;exact Ei M F hr hg hx hb .nil w9 hdb
end
structure TC (K:QG) (mg:oR) (C:Addr) (x:Str):Prop where
 cl:Rn K C
 mg:mg x=some (.ref C)
 mks:PySem.W.makesIn K C=true
 kp:PySem.W.keepIn K (.ref C)=true
variable{f:Str}{v:V}{r:List (Str×V)}
theorem bx {g:Str}(h:(f == g)=false):List.lookup f ((g,v)::r)=List.lookup f r:=by
 rw[N7,h]
theorem bO:List.lookup f ((f,v)::r)=some v:=by
 rw[N7,show (f == f)=true from by simp]
theorem ma {g:Str}{x:V}(h:(f == g)=false):fQ f v ((g,x)::r)=(g,x)::fQ f v r:=by
 have: ¬g=f:=λe=>by rw[e] at h; simp at h
 change (if g=f then _ else _)=_;rw[MP this]
theorem mv {x:V}:fQ f v ((f,x)::r)=(f,v)::r:=by
 change (if f=f then _ else _)=_;rw[MU rfl]
def gy (z:Str) (lo hi:Option Int):List Nat:=(z.cps.toList.drop (HT.QT z.length 0 lo)).take (HT.QT z.length z.length hi - HT.QT z.length 0 lo)
theorem Hj (lo:Option Int) (n:Nat):(match lo with | none=>(0:Int) | some i=>let i:=if i < 0 then i+(n:Int) else i; if (1:Int) > 0 then max 0 (min i (n:Int)) else max (-1) (min i ((n:Int) - 1)))=((HT.QT n 0 lo:Nat):Int):=by
 cases lo with
 | none=>rfl
 | some i =>
  simp only[HT.QT,show (1:Int) > 0 by decide,if_true];by_cases h:i < 0;.simp only[h,if_true] <;> lia
  .simp only[h,Qz] <;> lia
theorem HM (hi:Option Int) (n:Nat):(match hi with | none=>(n:Int) | some i=>let i:=if i < 0 then i+(n:Int) else i; if (1:Int) > 0 then max 0 (min i (n:Int)) else max (-1) (min i ((n:Int) - 1)))=((HT.QT n n hi:Nat):Int):=by
 cases hi with
 | none=>rfl
 | some i =>
  simp only[HT.QT,show (1:Int) > 0 by decide,if_true];by_cases h:i < 0;.simp only[h,if_true] <;> lia
  .simp only[h,Qz] <;> lia
theorem yf (lo hi:Option Int) (n:Nat):Builtin.Str.strSliceIndices lo hi 1 n=(List.range (HT.QT n n hi - HT.QT n 0 lo)).map (HT.QT n 0 lo+ ·):=by
 unfold Builtin.Str.strSliceIndices;simp only[];rw[<-sliceRange_one,<-Hj lo n,<-HM hi n];rfl
inductive Kz (x:V) (lo hi:Option Int) (H:Hp) (Q:VK):Prop | mk (z:_) (e0:x= .str z) (e1:z.length<=sizeLine) (q: ∀r:Str,r.cps.toList=gy z lo hi->Q (.str r) H)
def LX:V->Option Int->Option Int->Hp->VK->Prop:=λx lo hi H Q=>Kz x lo hi H Q
theorem part_of {v:Value}{o:Option Int}(h:IsPart v o): ∃p,v=partValue p/\p.map (·.1)=o:=by
 cases h with
 | none=>exact⟨none,Z,Z⟩
 | int i t=>exact⟨some (i,t),Z,Z⟩
theorem Dq:Ss X LX:=by
 intro QE s O H x v vl vu lo hi sl Q I rx hs pl pu h;obtain⟨z,rfl,hz,q⟩:=h;ext:15;show⟨"str",_,F.slot_str_getitem.lookup,typeIs_str _ _ _,?_⟩;obtain⟨p1,rfl,e1⟩:=part_of pl;obtain⟨p2,rfl,e2⟩:=part_of pu;obtain⟨o,ho,hc,hd⟩:=hs;show wpAny_getItem_str_slice (l:=p1) (u:=p2) (st:=none) ⟨o,ho,hc,hd⟩ rfl ?_;have ep:slicePicked z p1 p2 none=(List.range (HT.QT z.length z.length hi - HT.QT z.length 0 lo)).map (HT.QT z.length 0 lo+ ·):=by
  unfold slicePicked;rw[e1,e2];exact yf lo hi z.length
 have er:(slicePicked z p1 p2 none).filterMap (z.cps[·]?)=gy z lo hi:=by
  rw[ep,pick_run];rfl
 unfold sliceMade;split
 .rename_i c;show⟨.str z,H,I,⟨t,Z⟩,q z ?_⟩;have c2:(slicePicked z p1 p2 none).length=z.length:=by
   have:=(NG _ _▸c).2;exact beq_iff_eq.mp this
  rw[ep,MO,NK] at c2;have h1:HT.QT z.length z.length hi<=z.length:=HT.CU _ _ (MZ _) _;have h2:HT.QT z.length 0 lo<=z.length:=HT.CU _ _ (NN _) _;unfold gy;by_cases hz0:z.length=0
  .have:z.cps.toList=[]:=N3 (by simpa [Str.length] using hz0);rw[this];simp
  .have a0:HT.QT z.length 0 lo=0:=Y;rw[a0,List.drop_zero,Nat.sub_zero,N2 (by rw[show z.cps.toList.length=z.length from by simp[Str.length]]; lia)]
 .show⟨?_,.str ⟨((slicePicked z p1 p2 none).filterMap (z.cps[·]?)).toArray⟩,H,I.tok _,⟨_,Z⟩,q _ ?_⟩
  .rw[er];have:(gy z lo hi).length<=z.length:=by
    unfold gy;rw[Ni,NR];have:z.cps.toList.length=z.length:=(by simp[Str.length]);lia
   change (gy z lo hi).toArray.size<=sizeLine;rw[Nb];lia
  .change ((slicePicked z p1 p2 none).filterMap (z.cps[·]?)).toArray.toList=gy z lo hi;rw[List.toList_toArray];exact er
inductive Jz (x y:V) (H:Hp) (Q:VK):Prop | mk (z:Str) (n:Int) (e0:x= .str z) (e1:y= .int n) (e2:0<=n) (e3:n<=1000) (e4:z.length<=1000) (q: ∀r:Str,r.cps.toList=(List.replicate n.toNat z.cps.toList).flatten->Q (.str r) H)
def KI:R2:=λx y H Q=>Jz x y H Q
theorem Ak (c:Array Nat): ∀n:Nat,((List.replicate n c).foldl (· ++ ·) #[]).toList=(List.replicate n c.toList).flatten:=by
 have: ∀(n:Nat) (b:Array Nat),((List.replicate n c).foldl (· ++ ·) b).toList=b.toList++(List.replicate n c.toList).flatten:=λn=>by
  induction n with
  | zero=>intro b; simp
  | succ n ih =>
   intro b;rw[NV,List.foldl_cons,ih,NV,N8,Array.toList_append,NY]
 intro n;rw[this];rfl
theorem Ah:QU X (binaryOp .Mult) KI:=by
 ext:3;obtain⟨z,n,rfl,rfl,n0,n1,hz,q⟩:=h;ext:15;obtain⟨t',rfl⟩:=ry;have big:z.length*n.toNat<=1000000:=Ng (Nat.mul_le_mul hz (show n.toNat<=1000 by lia)) aS;have b2:z.length*n.toNat<=sizeLine:=Ng big aS;show P.mul_str (by simp; lia) (λh1 h2=>?_) (λh1 h2=>?_) ?_
 .have h3:(1000:Int)<=(2 ^ 63 - 1) / n:=Int.le_ediv_of_mul_le Y Y;lia
 .change decide (z.length*n.toNat > sizeLine)=false;exact Nz Y
 .by_cases c:n < 1
  .rw[MU c];show⟨aS,.str Str.empty,H,I.tok _,⟨_,Z⟩,q _ ?_⟩;rw[show n.toNat=0 by lia];rfl
  .rw[MP c];split
   .rename_i d;show⟨.str z,H,I,⟨t,Z⟩,q z ?_⟩;rcases Bool.or_eq_true _ _▸d with d | d
    .have:n=1:=beq_iff_eq.mp d;rw[this];simp
    .have e:z.cps.toList=[]:=N3 (by simpa [Str.length] using d);rw[e];simp
   .show⟨?_,.str ⟨(List.replicate n.toNat z.cps).foldl (· ++ ·) #[]⟩,H,I.tok _,⟨_,Z⟩,q _ (Ak _ _)⟩;change ((List.replicate n.toNat z.cps).foldl (· ++ ·) #[]).size<=sizeLine;rw[<-Oi,Ak];simp;have:z.cps.size=z.length:=rfl;rw[this,Nat.mul_comm];exact b2
inductive Ly (x:V) (vs:List V) (H:Hp) (Q:VK):Prop | mk (l:Addr) (xs:List Str) (y:Str) (j:Nat) (e0:x= .ref l) (e1:vs=[.str y]) (e2:H l=some (.lst (xs.map V.str))) (e3:xs[j]?=some y) (e4:(∀m,m < j->xs[m]?≠some y)) (q:Q .non (upd H l (.lst ((xs.eraseIdx j).map V.str))))
theorem fB (a b:Str):(a++b).cps.toList=a.cps.toList++b.cps.toList:=by
 change (a.cps++b.cps).toList=_;rw[Array.toList_append]
theorem xH: ∀ys:List Str,(Str.join (Str.ofString "") ys).cps.toList=(ys.map λy=>y.cps.toList).flatten
 | []=>rfl
 | [y]=>by
  change y.cps.toList=_;simp
 | y::z::r=>by
  change ((y++Str.ofString "")++Str.join (Str.ofString "") (z::r)).cps.toList=_;rw[fB,fB,xH (z::r)];change y.cps.toList++[]++_=y.cps.toList++_;rw[Oy]
theorem rn (ys:List Str):(Txt.join (Str.ofString "") ys).cps.toList=(ys.map λy=>y.cps.toList).flatten:=by
 change (Builtin.Str.glued (Str.ofString "") ys).cps.toList=_;rw[StrLaws.glued_eq_join,xH]
def small (c:Nat):Prop:=97<=c/\c<=122
def Sh (cs:List Nat):Prop:=1<=cs.length/\cs.length<=8/\ ∀c∈cs,small c
def Nm (y:Str):Prop:=Sh y.cps.toList
theorem Nm.len {y:Str}(h:Nm y):y.length<=8:=by
 have:y.cps.toList.length=y.length:=by simp[Str.length]
 have:=h.2.1;lia
def lQ:Str:= "abcdefghijklmnopqrstuvwxyz"
theorem z9:lQ.cps.toList.length=26:=by trivial
theorem DN: ∀c∈lQ.cps.toList,small c:=by
 unfold small;decide +kernel
theorem JB {α:Type}{xs:List α}{i:Int}(h0:0<=i) (h1:i < xs.length): ∃x,QV xs i=some x/\x∈xs:=by
 have hn:i.toNat < xs.length:=Y;show⟨xs[i.toNat],?_,Ot hn⟩;have e:i=((i.toNat:Nat):Int):=Y;have h:=bz (xs:=xs) (j:=i.toNat) (v:=xs[i.toNat]) (by simp)
 rwa [<-e] at h
theorem Ib (m:Int): ∃c,QV lQ.cps.toList (m % 26)=some c/\small c:=by
 obtain⟨c,h1,h2⟩:=JB (xs:=lQ.cps.toList) (i:=m % 26) Y (by rw[z9]; lia);exact⟨c,h1,DN c h2⟩
theorem vp (n:Nat) (d:Nat) (k:Int) (h:0<=k):HT.QT n d (some k)=min k.toNat n:=by
 unfold HT.QT;simp only[];rw[MP Y]
end L2
namespace MA
variable {n:Nat}{rs:List ao}{L:List Int}
structure Q9 (n:Nat) (rs:List ao) (L:List Int):Prop where
 k: ∀r∈rs,QO n r
 met:Met rs (g L)
 nn: ∀i:Int,0<=i->i < n->0<=g L i
 len:L.length=n
theorem Q2.Q1 (w:Q9 n rs L){k:Int}{ps:List Nat}(h:Q2 rs k ps):0<=k/\k < n:=by
 cases h with
 | one hi=>have:=w.k _ (MS hi); exact⟨this.1,this.2.1⟩
 | snoc _ hi _=>have:=w.k _ (MS hi); exact⟨this.1,this.2.1⟩
theorem i6 {i:Nat}{q:ao}(h:rs[i]?=some q):eA rs [i]=q.2.2:=by
 have:=gU (ps:=[]) h;simpa [eA] using this
theorem Q2.le (w:Q9 n rs L){k:Int}{ps:List Nat}(h:Q2 rs k ps):eA rs ps<=g L k:=by
 induction h with
 | @one i q hi =>
  have m:=MS hi;obtain⟨a1,a2,a3,a4,a5⟩:=w.k _ m;have:=w.met _ m;unfold ask at this;rw[i6 hi];split at this;.exact this
  .have:=w.nn q.2.1 Y a4;lia
 | @snoc k ps i q hp hi hb ih =>
  have m:=MS hi;have:=w.met _ m;have hr:=hp.Q1 w;unfold ask at this;rw[MP Y,hb] at this;rw[gU hi];lia
theorem Bl (w:Q9 n rs L){k:Int}{ps:List Nat}{i:Nat}{q:ao}(hp:Q2 rs k ps) (hi:rs[i]?=some q) (hb:q.2.1=k) (e:eA rs (ps++[i])=g L q.1):eA rs ps=g L k/\g L q.1=g L k+q.2.2:=by
 have m:=MS hi;have:=w.met _ m;have hr:=hp.Q1 w;have:=hp.le w;unfold ask at *;rw[MP Y,hb] at *;rw[gU hi] at e;lia
theorem rS {i:Nat}{q:ao}(h:rs[i]?=some q):QY rs [i]=[q.1]:=by
 have:=iL (ps:=[]) h;simpa [QY] using this
theorem Q2.x8 (w:Q9 n rs L){k:Int}{ps:List Nat}(h:Q2 rs k ps): ∀x∈QY rs ps,0<=x/\x < n:=by
 induction h with
 | @one i q hi =>
  intro x hx;rw[rS hi,MT] at hx;rw[hx];have:=w.k _ (MS hi);exact⟨this.1,this.2.1⟩
 | @snoc k ps i q hp hi hb ih =>
  intro x hx;rw[iL hi] at hx;rcases M8.mp hx with hx | hx
  .exact ih x hx
  .rw[MT] at hx;rw[hx];have:=w.k _ (MS hi);exact⟨this.1,this.2.1⟩
theorem Q2.cut (w:Q9 n rs L){k:Int}{ps:List Nat}(h:Q2 rs k ps):eA rs ps=g L k->(QY rs ps).Nodup-> ∀x∈QY rs ps,∃qs,Q2 rs x qs/\eA rs qs=g L x/\qs.length<=ps.length/\(QY rs qs).Nodup:=by
 induction h with
 | @one i q hi =>
  intro e nd x hx;rw[rS hi,MT] at hx;rw[hx];exact⟨[i],.one hi,e,MZ _,nd⟩
 | @snoc k ps i q hp hi hb ih =>
  intro e nd x hx;obtain⟨e1,_⟩:=Bl w hp hi hb e;have hx':=hx;rw[iL hi] at hx';rcases M8.mp hx' with hx' | hx'
  .have nd':(QY rs ps).Nodup:=by rw[iL hi] at nd; exact (OU.mp nd).1
   obtain⟨qs,a,b,c,d⟩:=ih e1 nd' x hx';exact⟨qs,a,b,by rw[M0]; lia,d⟩
  .rw[MT] at hx';rw[hx'];exact⟨ps++[i],.snoc hp hi hb,e,MZ _,nd⟩
theorem Q2.short (w:Q9 n rs L){k:Int}{ps:List Nat}(h:Q2 rs k ps):eA rs ps=g L k-> ∃qs,Q2 rs k qs/\eA rs qs=g L k/\qs.length<=ps.length/\(QY rs qs).Nodup:=by
 induction h with
 | @one i q hi=>exact λe=>⟨[i],.one hi,e,MZ _,by rw[rS hi]; simp⟩
 | @snoc k ps i q hp hi hb ih =>
  intro e;obtain⟨e1,e2⟩:=Bl w hp hi hb e;obtain⟨qs,a,b,c,d⟩:=ih e1;by_cases hm:q.1∈QY rs qs
  .obtain⟨us,a2,b2,c2,d2⟩:=a.cut w b d _ hm;exact⟨us,a2,b2,by rw[M0]; lia,d2⟩
  .show⟨qs++[i],.snoc a hi hb,by rw[gU hi]; lia,by rw[M0,M0]; lia,?_⟩;rw[iL hi,OU];exact⟨d,by simp,λx hx y hy z=>by rw[MT] at hy; rw[hy] at z; rw[z] at hx; exact hm hx⟩
theorem xO: ∀(n:Nat) (xs:List Int),xs.Nodup->(∀x∈xs,0<=x/\x < n)->xs.length<=n
 | 0,[],_,_=>MZ _
 | 0,x::xs,_,h=>by have:=h x M7; lia
 | n+1,xs,nd,h=>by
  have a:=xO n (xs.erase (n:Int)) (nd.erase _) λx hx=>by
   have h1:=h x (List.mem_of_mem_erase hx);have h2:x≠n:=λz=>by
    rw[z] at hx;exact (nd.mem_erase_iff.mp hx).1 rfl
   lia
  have b:xs.length - 1<=(xs.erase (n:Int)).length:=by
   rw[List.length_erase];split <;> lia
  lia
theorem RF (w:Q9 n rs L){k:Int}{ps:List Nat}(h:Q2 rs k ps) (e:eA rs ps=g L k) (m: ∀qs,Q2 rs k qs->eA rs qs=g L k->ps.length<=qs.length):ps.length<=n:=by
 obtain⟨qs,a,b,_,d⟩:=h.short w e;have h1:=xO n _ d (a.x8 w);have h2:=m qs a b;have h3:(QY rs qs).length=qs.length:=z4;lia
def mn (i j:Int):Int:=if j < i then j else i
def RO (L:List Int) (st:List Int) (q:ao):List Int :=
 if q.2.1 < 0 then (if g L q.1=q.2.2 then put st q.1 (mn (g st q.1) 1) else st)
 else if g L q.1=g L q.2.1+q.2.2 then put st q.1 (mn (g st q.1) (g st q.2.1+1)) else st
structure RS (n:Nat) (rs:List ao) (L:List Int) (st:List Int):Prop where
 len:st.length=n
 lo: ∀m:Int,0<=m->m < n->0<=g st m
 hi: ∀m:Int,0<=m->m < n->g st m<=99
 z: ∀m:Int,0<=m->m < n->g L m=0->g st m=0
 ch: ∀m:Int,0<=m->m < n->g st m < 99->g L m=0\/ ∃ps,Q2 rs m ps/\eA rs ps=g L m/\(ps.length:Int)=g st m
theorem RS.put (c:RS n rs L st){m v:Int}(h0:0<=m) (h1:m < n) (v0:0<=v) (hv:v < g st m-> ∃ps,Q2 rs m ps/\eA rs ps=g L m/\(ps.length:Int)=v):RS n rs L (put st m (mn (g st m) v)):=by
 have gp: ∀j:Int,0<=j->g (MA.put st m (mn (g st m) v)) j=if j=m then mn (g st m) v else g st j:=λj hj=>ff h0 (by rw[c.len]; exact h1) hj;have cl:=c.lo m h0 h1;have cu:=c.hi m h0 h1;show⟨gq.trans c.len,λj j0 j1=>?_,λj j0 j1=>?_,λj j0 j1 e=>?_,λj j0 j1 e=>?_⟩
 .rw[gp j j0];split;.unfold mn; split <;> lia
  .exact c.lo j j0 j1
 .rw[gp j j0];split;.unfold mn; split <;> lia
  .exact c.hi j j0 j1
 .rw[gp j j0];split
  .rename_i ej;rw[ej] at e;have:=c.z m h0 h1 e;unfold mn; split <;> lia
  .exact c.z j j0 j1 e
 .rw[gp j j0] at e ⊢;split at e
  .rename_i ej;rw[ej,MU rfl];unfold mn at e ⊢;split;.rename_i l; exact .inr (hv l)
   .rename_i l;rw[MP l] at e;exact c.ch m h0 h1 e
  .rename_i ej;rw[MP ej];exact c.ch j j0 j1 e
theorem RS.RO (w:Q9 n rs L) (c:RS n rs L st){q:ao}{i:Nat}(hi:rs[i]?=some q):RS n rs L (RO L st q):=by
 obtain⟨a1,a2,a3,a4,a5⟩:=w.k _ (MS hi);unfold MA.RO;split
 .split
  .rename_i e;exact c.put a1 a2 Y λ_=>⟨[i],.one hi,by rw[i6 hi,e],Z⟩
  .exact c
 .split
  .rename_i hb e;have b0:0<=q.2.1:=Y;have l0:=c.lo q.2.1 b0 a4;have u0:=c.hi q.1 a1 a2;show c.put a1 a2 Y λhv=>?_;by_cases z:g L q.2.1=0
   .show⟨[i],.one hi,by rw[i6 hi]; lia,?_⟩;rw[c.z _ b0 a4 z];rfl
   .rcases c.ch _ b0 a4 Y with z' | ⟨ps,p1,p2,p3⟩
    .exact absurd z' z
    .show⟨ps++[i],.snoc p1 hi rfl,by rw[gU hi]; lia,?_⟩;rw[M0];change ((ps.length+1:Nat):Int)=_;lia
  .exact c
theorem Jh (c:RS n rs L st){q:ao}(k:QO n q):Le n (g (MA.RO L st q)) (g st):=λj j0 j1=>by
 obtain⟨a1,a2,a3,a4,a5⟩:=k;unfold MA.RO;have gp: ∀v,g (MA.put st q.1 v) j=if j=q.1 then v else g st j:=λv=>ff a1 (by rw[c.len]; exact a2) j0;split
 .split
  .rw[gp];split;.rename_i e; rw[e]; unfold mn; split <;> lia
   .lia
  .lia
 .split
  .rw[gp];split;.rename_i e; rw[e]; unfold mn; split <;> lia
   .lia
  .lia
theorem run (w:Q9 n rs L): ∀(us:List ao) (st:List Int),(∀q∈us,q∈rs)->RS n rs L st->RS n rs L (us.foldl (MA.RO L) st)/\Le n (g (us.foldl (MA.RO L) st)) (g st)
 | [],st,_,c=>⟨c,λ_ _ _=>Np _⟩
 | q::us,st,h,c=>by
  obtain⟨i,hi,e⟩:=List.getElem_of_mem (h q M7);have hi':rs[i]?=some q:=by rw[MQ hi,e]
  obtain⟨a,b⟩:=run w us (MA.RO L st q) (λx hx=>h x (M4 _ hx)) (c.RO w hi');exact⟨a,λj j0 j1=>NA (b j j0 j1) (Jh c (w.k _ (MS hi')) j j0 j1)⟩
end MA
namespace L2
open PySem PySem.Spec PyProof.Rows
def uY (xs ys:List V):Bool:=(List.range (min xs.length ys.length)).all (λi=>RC (xs.getD i .non) (ys.getD i .non)) && xs.length == ys.length
theorem EE {x:V}(h:cQ x=true):RC x x=true:=by
 cases x with
 | non=>rfl
 | bl b=>exact OH _
 | int i=>exact OH _
 | str s=>exact OH _
 | _=>cases h
variable{xs:List V}
theorem oP(h:xs.all cQ=true) (i:Nat):cQ (xs.getD i .non)=true:=by
 rw[MX];cases e:xs[i]? with
 | none=>rfl
 | some x=>exact Oq.mp h x (MS e)
theorem vV {xs:List V}(h:xs.all cQ=true):uY xs xs=true:=by
 unfold uY;rw[NG];exact⟨Oq.mpr λi _=>EE (oP h i),OH _⟩
theorem rN {us:List Value}(r:Vals xs us){j:Nat}(h:j < us.length):RelV (xs.getD j .non) (us[j]'h):=by
 have hl:=r.length;have hj:j < xs.length:=Y;obtain⟨u,hu,q⟩:=r.get (i:=j) (x:=xs[j]) (MQ hj);have:=(MW.mp hu).2;rw[this,MX,MQ hj];exact q
inductive KA (K:QG) (x y:V) (H:Hp) (Q:VK):Prop | mk (a b:Addr) (xs ys:List V) (e0:x= .ref a) (e1:y= .ref b) (e2:QK K H a xs) (e3:QK K H b ys) (e4:xs.all cQ=true) (e5:ys.all cQ=true) (q:Q (.bl (!uY xs ys)) H)
def Js (K:QG):R2:=λx y H Q=>KA K x y H Q
theorem Jm {X:Cx}(hu:X.A.units+1 < cLine):QU X (compareOp .NotEq) (Js X.K):=by
 ext:3;obtain⟨a,b,xs,ys,rfl,rfl,ha,hb,fx,fy,q⟩:=h;cases rx;cases ry;obtain⟨us,r1,p1,z1⟩:=I.tuple ha;obtain⟨vs,r2,p2,z2⟩:=I.tuple hb;have l1:=r1.length;have l2:=r2.length;show SeqAt.RcNeAt.tuples (e:=λi=>RC (xs.getD i .non) (ys.getD i .non)) (show s.heap.IsTuple a us.toArray from p1) (show s.heap.IsTuple b vs.toArray from p2) Y (λj h1 h2=>?_) _ _ _ _ ?_
 .simp only[P6];exact yk (rN r1 (by simpa using h1)) (rN r2 (by simpa using h2)) (oP fx j) (oP fy j)
 .rw[show us.toArray.size=xs.length by simpa using l1.symm,show vs.toArray.size=ys.length by simpa using l2.symm];exact⟨.bl _,H,I,Z,q⟩
inductive Kt (K:QG) (x y:V) (H:Hp) (Q:VK):Prop | mk (a b:Addr) (xs ys:List V) (e0:x= .ref a) (e1:y= .ref b) (e2:QK K H a xs) (e3:QK K H b ys) (e4:xs.all cQ=true) (e5:ys.all cQ=true) (q:Q (.bl (uY xs ys)) H)
def LQ (K:QG):R2:=λx y H Q=>Kt K x y H Q
theorem Jk {X:Cx}(hu:X.A.units+1 < cLine):QU X (compareOp .Eq) (LQ X.K):=by
 ext:3;obtain⟨a,b,xs,ys,rfl,rfl,ha,hb,fx,fy,q⟩:=h;cases rx;cases ry;obtain⟨us,r1,p1,z1⟩:=I.tuple ha;obtain⟨vs,r2,p2,z2⟩:=I.tuple hb;have l1:=r1.length;have l2:=r2.length;show SeqAt.eq_tupleAt (e:=λi=>RC (xs.getD i .non) (ys.getD i .non)) (show s.heap.IsTuple a us.toArray from p1) (show s.heap.IsTuple b vs.toArray from p2) Y (λj h1 h2=>?_) ?_
 .simp only[P6];exact yk (rN r1 (by simpa using h1)) (rN r2 (by simpa using h2)) (oP fx j) (oP fy j)
 .rw[show us.toArray.size=xs.length by simpa using l1.symm,show vs.toArray.size=ys.length by simpa using l2.symm];exact⟨.bl _,H,I,Z,q⟩
end L2
namespace MA
variable {n:Nat}{rs:List ao}{L:List Int}
def m9 (n:Nat) (rs:List ao) (ws:List Int):Prop:= ∀m:Int,0<=m->m < n->0<=g ws m/\(g ws m=0\/ ∃ps,Q2 rs m ps/\eA rs ps=g ws m)
theorem qQ (k: ∀r∈rs,QO n r): ∀(qs:List ao) (ws:List Int),(∀q∈qs,q∈rs)->ws.length=n->m9 n rs ws->m9 n rs (bB qs ws)
 | [],ws,_,_,h=>h
 | q::qs,ws,hq,hl,h=>by
  show qQ k qs (cz ws q) (λx hx=>hq x (M4 _ hx)) (g7.trans hl) λm m0 m1=>?_;have hm:=hq q M7;obtain⟨a1,a2,a3,a4,a5⟩:=k q hm;obtain⟨i,hi,ei⟩:=N0.mp hm;have hi':rs[i]?=some q:=by rw[MQ hi,ei]
  unfold cz;rw[ff a1 (by rw[hl]; exact a2) m0];split
  .rename_i e;rw[e];unfold mx;have h1:=h q.1 a1 a2;split
   .rename_i c;unfold ask at c ⊢;split
    .rename_i b;rw[MU b] at c;exact⟨a5,.inr ⟨[i],.one hi',i6 hi'⟩⟩
    .rename_i b;rw[MP b] at c;obtain⟨z0,h2⟩:=h q.2.1 Y a4;show⟨Y,?_⟩;rcases h2 with z | ⟨ps,p1,p2⟩
     .exact .inr ⟨[i],.one hi',by rw[i6 hi']; lia⟩
     .exact .inr ⟨ps++[i],.snoc p1 hi' rfl,by rw[gU hi']; lia⟩
   .exact h1
  .exact h m m0 m1
theorem sX (k: ∀r∈rs,QO n r): ∀(j:Nat) (ws:List Int),ws.length=n->m9 n rs ws->loop rs j ws=some L->m9 n rs L
 | 0,ws,_,_,e=>by unfold loop at e; cases e
 | j+1,ws,hl,h,e=>by
  unfold loop at e;split at e;.cases e; exact h
  .exact sX k j (bB rs ws) ((eS _ _).trans hl) (qQ k rs ws (λ_ z=>z) hl h) e
theorem DX (k: ∀r∈rs,QO n r) (h:aY n rs=some L):m9 n rs L :=
 sX k (n+1) (List.replicate n 0) (NX ..) (λm _ _=>by rw[kJ]; exact⟨Np _,.inl rfl⟩) h
theorem uF (k: ∀r∈rs,QO n r) (h:aY n rs=some L):Q9 n rs L:=by
 obtain⟨l1,l2,l3,_⟩:=bX k h;exact⟨k,l2,l3,l1⟩
def Tl (L:List Int) (q:ao):Prop:=q.2.1≠ -1/\g L q.1=g L q.2.1+q.2.2
inductive Tp (rs:List ao) (L:List Int) (m:Int):Int->List Nat->Prop
 | nil:Tp rs L m m []
 | cons {i:Nat}{q:ao}{ps:List Nat}:rs[i]?=some q->Tl L q->Tp rs L m q.1 ps->Tp rs L m q.2.1 (i::ps)
theorem Tp.snoc {k v:Int}{ps:List Nat}{i:Nat}{q:ao}(h:Tp rs L k v ps) (hi:rs[i]?=some q) (t:Tl L q) (e:q.2.1=k):Tp rs L q.1 v (ps++[i]):=by
 induction h with
 | nil=>subst e; exact .cons hi t .nil
 | cons h1 t1 _ ih=>exact .cons h1 t1 ih
theorem Tp.nil_eq {m v:Int}(h:Tp rs L m v []):v=m:=by cases h; rfl
theorem x6 (w:Q9 n rs L){m:Int}{qs:List Nat}(h:Q2 rs m qs):eA rs qs=g L m-> ∃i q ps,qs=i::ps/\rs[i]?=some q/\q.2.2=g L q.1/\Tp rs L m q.1 ps:=by
 induction h with
 | @one i q hi=>intro e; rw[i6 hi] at e; exact⟨i,q,[],Z,hi,e,.nil⟩
 | @snoc k ps i q hp hi hb ih =>
  intro e;obtain⟨e1,e2⟩:=Bl w hp hi hb e;obtain⟨i0,q0,ps0,rfl,a,b,c⟩:=ih e1;have:=hp.Q1 w;exact⟨i0,q0,ps0++[i],Z,a,b,c.snoc hi ⟨Y,by rw[hb]; exact e2⟩ hb⟩
variable{ps:List Nat}
theorem AX {m v:Int}(h:Tp rs L m v ps): ∀pre,Q2 rs v pre->eA rs pre=g L v->Q2 rs m (pre++ps)/\eA rs (pre++ps)=g L m:=by
 induction h with
 | nil=>intro pre a b; rw[Oy]; exact⟨a,b⟩
 | @cons i q ps hi t _ ih =>
  intro pre a b;have:=ih (pre++[i]) (.snoc a hi rfl) (by rw[gU hi,b]; exact t.2.symm);rw[NY] at this;exact this
theorem IG {m:Int}{i:Nat}{q:ao}(hi:rs[i]?=some q) (e:q.2.2=g L q.1) (h:Tp rs L m q.1 ps):Q2 rs m (i::ps)/\eA rs (i::ps)=g L m :=
 AX h [i] (.one hi) ((i6 hi).trans e)
structure iG (rs:List ao) (L:List Int) (m:Int) (F:Int->Option Nat):Prop where
 ex: ∀v d,F v=some d-> ∃ps,Tp rs L m v ps/\ps.length=d
 lo: ∀v ps,Tp rs L m v ps-> ∃d,F v=some d/\d<=ps.length
def Nx (rs:List ao) (L:List Int) (F:Int->Option Nat) (v:Int) (i:Nat):Prop :=
 ∃(q:ao) (d:Nat),rs[i]?=some q/\q.2.1=v/\Tl L q/\F v=some (d+1)/\F q.1=some d/\ ∀(j:Nat) (q':ao),j < i->rs[j]?=some q'->q'.2.1=v->Tl L q'->F q'.1≠some d
inductive Gr (rs:List ao) (L:List Int) (F:Int->Option Nat) (m:Int):Int->List Nat->Prop
 | nil:Gr rs L F m m []
 | cons {v:Int}{i:Nat}{q:ao}{ps:List Nat}:Nx rs L F v i->rs[i]?=some q->Gr rs L F m q.1 ps->Gr rs L F m v (i::ps)
variable {F:Int->Option Nat}{m:Int}
theorem iG.zero (D:iG rs L m F):F m=some 0:=by
 obtain⟨d,e,l⟩:=D.lo m [] .nil;rw[e,Nat.le_zero.mp l]
theorem Gr.len (D:iG rs L m F){v:Int}{ps:List Nat}(h:Gr rs L F m v ps):F v=some ps.length/\Tp rs L m v ps:=by
 induction h with
 | nil=>exact⟨D.zero,.nil⟩
 | @cons v i q ps nx hi _ ih =>
  obtain⟨q',d,a,b,c,e,f,_⟩:=nx;rw[hi] at a;cases a;rw[ih.1] at f;cases f;show⟨e,?_⟩;rw[<-b];exact .cons hi c ih.2
def nG (one other:List Nat):Prop:= ∃k x y:Nat,one[k]?=some x/\other[k]?=some y/\x < y/\ ∀j,j < k->one[j]?=other[j]?
theorem nG.tail {i:Nat}{a b:List Nat}(h:nG (i::a) (i::b)):nG a b:=by
 obtain⟨k,x,y,h1,h2,h3,h4⟩:=h;cases k with
 | zero=>cases h1; cases h2; lia
 | succ k=>exact⟨k,x,y,h1,h2,h3,λj hj=>h4 (j+1) Y⟩
theorem Gr.first (D:iG rs L m F){v:Int}{ps:List Nat}(h:Gr rs L F m v ps): ∀qs,Tp rs L m v qs->qs.length=ps.length-> ¬nG qs ps:=by
 induction h with
 | nil=>rintro qs _ _ ⟨k,x,y,_,h2,_⟩; cases h2
 | @cons v i q ps nx hi hg ih =>
  intro qs ht hl he;obtain⟨q',d,a,b,c,e,f,mn⟩:=nx;rw[hi] at a;cases a;have gl:=hg.len D;rw[gl.1] at f;cases f;cases ht with
  | nil=>cases hl
  | @cons j q2 qs' hj t2 ht' =>
  have hl':qs'.length=ps.length:=Qw hl;obtain⟨d2,e2,l2⟩:=D.lo _ _ ht';have l3:ps.length<=d2:=by
   obtain⟨ps2,p1,p2⟩:=D.ex _ _ e2;obtain⟨d3,e3,l3⟩:=D.lo _ _ (Tp.cons hj t2 p1);rw[e] at e3;cases e3;rw[Nk] at l3;lia
  have ed:d2=ps.length:=Y;have hij: ¬j < i:=λz=>mn j q2 z hj rfl t2 (by rw[e2,ed]);by_cases eq:j=i
  .subst eq;rw[hj] at hi;cases hi;exact ih qs' ht' hl' he.tail
  .obtain⟨k,x,y,h1,h2,h3,h4⟩:=he;cases k with
   | zero=>cases h1; cases h2; lia
   | succ k =>
    have:=h4 0 (Qy _);cases this;exact eq rfl
def cV (rs:List ao) (L:List Int) (m:Int) (ps:List Nat):Prop:=(g L m=0/\ps=[])\/(0 < g L m/\Q2 rs m ps/\eA rs ps=g L m/\ ∀qs,Q2 rs m qs->eA rs qs=g L m->ps.length<=qs.length/\(qs.length=ps.length-> ¬nG qs ps))
theorem cV.lt(h:cV rs L m ps): ∀i∈ps,i < rs.length:=by
 rcases h with⟨_,e⟩ | ⟨_,hc,_⟩
 .rw[e]; intro i hi; cases hi
 .exact hc.lt
theorem cV.RF(w:Q9 n rs L) (h:cV rs L m ps):ps.length<=n:=by
 rcases h with⟨_,e⟩ | ⟨_,hc,hs,hm⟩
 .rw[e]; exact NN _
 .exact MA.RF w hc hs λqs a b=>(hm qs a b).1
def SX (rs:List ao) (L:List Int) (F:Int->Option Nat) (i:Nat):Prop :=
 ∃(q:ao) (d:Nat),rs[i]?=some q/\q.2.2=g L q.1/\F q.1=some d/\(∀(j:Nat) (q':ao) (d':Nat),rs[j]?=some q'->q'.2.2=g L q'.1->F q'.1=some d'->d<=d')/\ ∀(j:Nat) (q':ao),j < i->rs[j]?=some q'->q'.2.2=g L q'.1->F q'.1≠some d
theorem um (w:Q9 n rs L) (D:iG rs L m F) (hz:0 < g L m){i:Nat}{q:ao}{ps:List Nat}(h:SX rs L F i) (hi:rs[i]?=some q) (hg:Gr rs L F m q.1 ps):cV rs L m (i::ps):=by
 obtain⟨q',d,a,b,c,mn,fr⟩:=h;rw[hi] at a;cases a;obtain⟨g1,g2⟩:=hg.len D;rw[g1] at c;cases c;obtain⟨c1,c2⟩:=IG hi b g2;show .inr ⟨hz,c1,c2,λqs h1 h2=>?_⟩;obtain⟨j,q2,qs',rfl,a2,b2,t2⟩:=x6 w h1 h2;obtain⟨d2,e2,l2⟩:=D.lo _ _ t2;have l3:=mn j q2 d2 a2 b2 e2;show⟨by rw[Nk,Nk]; lia,λhl he=>?_⟩;have hl':qs'.length=ps.length:=Qw hl;have ed:d2=ps.length:=Y;have hij: ¬j < i:=λz=>fr j q2 z a2 b2 (by rw[e2,ed]);by_cases eq:j=i
 .subst eq;rw[a2] at hi;cases hi;exact hg.first D qs' t2 hl' he.tail
 .obtain⟨k,x,y,h1,h2,h3,h4⟩:=he;cases k with
  | zero=>cases h1; cases h2; lia
  | succ k =>
   have:=h4 0 (Qy _);cases this;exact eq rfl
theorem ER (w:Q9 n rs L) (D:iG rs L m F) (f:m9 n rs L) (m0:0<=m) (m1:m < n) (hz:0 < g L m): ∃(i:Nat) (q:ao) (d:Nat),rs[i]?=some q/\q.2.2=g L q.1/\F q.1=some d:=by
 rcases (f m m0 m1).2 with z | ⟨ps,p1,p2⟩
 .lia
 .obtain⟨i,q,ps',rfl,a,b,t⟩:=x6 w p1 p2;obtain⟨d,e,_⟩:=D.lo _ _ t;exact⟨i,q,d,a,b,e⟩
theorem HU (D:iG rs L m F){v:Int}{d:Nat}(e:F v=some d) (hv:v≠m): ∃(d' i:Nat) (q:ao),d=d'+1/\rs[i]?=some q/\q.2.1=v/\Tl L q/\F q.1=some d':=by
 obtain⟨ps,p1,p2⟩:=D.ex _ _ e;cases p1 with
 | nil=>exact absurd rfl hv
 | @cons i q ps' hi t ht =>
  obtain⟨d2,e2,l2⟩:=D.lo _ _ ht;rw[Nk] at p2;show⟨ps'.length,i,q,p2.symm,hi,Z,t,?_⟩;obtain⟨ps2,r1,r2⟩:=D.ex _ _ e2;obtain⟨d3,e3,l3⟩:=D.lo _ _ (Tp.cons hi t r1);rw[e] at e3;cases e3;rw[Nk] at l3;rw[e2,show d2=ps'.length by lia]
end MA
namespace L2
open PySem PySem.Spec PyProof.Rows
variable{tt:TT}{te:TE}{own:List Str}{O:St}{H:Hp}{Q:VK}
theorem tH {J:It}{g:TG}{fr:List Nat}(n:Nat) (Pv:Nat->List V->Hp->Prop) (h0:Pv 0 [] H) (hz:n < sizeLine) (hlen: ∀i ys H,Pv i ys H->ys.length<=i)
  (hgo: ∀i ys H,i < n->Pv i ys H->J.go i H) (hstop: ∀ys H,Pv n ys H->J.stop n H)
  (hs: ∀i ys H2 x H3,i < n->Pv i ys H2->J.yld i H2 x H3->g x (cH own fr O) H3 λO4 H4=>tt O4 H4 λb H5=>if b=true then te O4 H5 λy H6=>Pv (i+1) (ys++[y]) H6 else Pv (i+1) ys H5)
  (hq: ∀ys H2 p,Pv n ys H2->H2 p=none->Q (.ref p) (upd H2 p (.lst ys))):nz J g tt te own fr O H Q:=by
 show⟨λi m ys H2=>i<=n/\m=n - i/\Pv i ys H2,⟨n,NN _,Z,h0⟩,?_⟩;rintro i m ys H2 ⟨hi,rfl,hp⟩;by_cases hlt:i < n
 .show .inr ⟨hgo i ys H2 hlt hp,Oc (hlen i ys H2 hp) Y,λx H3 hy=>?_⟩;have e: ∀zs H6,(∃m',m' < n - i/\i+1<=n/\m'=n - (i+1)/\Pv (i+1) zs H6)=Pv (i+1) zs H6:=λzs H6=>propext ⟨λ⟨_,_,_,_,z⟩=>z,λz=>⟨n - (i+1),Y,hlt,Z,z⟩⟩;simp only[e];exact hs i ys H2 x H3 hlt hp hy
 .have e:i=n:=Y;subst e;exact .inl ⟨hstop ys H2 hp,Nw (Oc (hlen _ ys H2 hp) hz),λp np=>hq ys H2 p hp np⟩
inductive KG (K:QG) (Q:Bool->Hp->Prop) (x:V) (H':Hp):Prop | mk (k:_) (e0:AA K x H' k) (q:Q k H')
def E4 (K:QG) (t:TE):TT:=λO H Q=>t O H λx H'=>KG K Q x H'
theorem DZ {X:Cx}{a:Expr}{ta:TE}(ha:PE X a ta) (he: ∀whole,isTrue a X.env whole=(do let v <-whole; standAt a.pos; holding [v] (truthy v))):PT X a (E4 X.K ta):=by
 have e:E4 X.K ta=λO H Q=>ta O H λx H'=> ∃k,AA X.K x H' k/\Q k H':=by
  funext O H Q;exact NJ (ta O H) (funext λx=>funext λH'=>propext ⟨λ⟨k,a,b⟩=>⟨k,a,b⟩,λ⟨k,a,b⟩=>⟨k,a,b⟩⟩)
 rw[e];exact Fu ha he
variable{K:QG}{a:Addr}
theorem wj {xs:List V}{g:TG}{fr:List Nat}(Pv:Nat->List V->Hp->Prop) (hJ: ∀i ys H,Pv i ys H->QF K H a xs) (h0:Pv 0 [] H) (hz:xs.length < sizeLine) (hlen: ∀i ys H,Pv i ys H->ys.length<=i)
  (hs: ∀i ys H2 x t,xs[i]?=some x->Pv i ys H2->H2 t=none->g (.ref t) (cH own fr O) (upd H2 t (.tup [.int (i:Nat),x])) λO4 H4=>tt O4 H4 λb H5=>if b=true then te O4 H5 λy H6=>Pv (i+1) (ys++[y]) H6 else Pv (i+1) ys H5)
  (hq: ∀ys H2 p,Pv xs.length ys H2->H2 p=none->Q (.ref p) (upd H2 p (.lst ys))):nz (Sa K a) g tt te own fr O H Q:=by
 show tH xs.length Pv h0 hz hlen (λi ys H hi hp=>⟨xs,xs[i],hJ i ys H hp,MQ hi⟩) (λys H hp=>⟨xs,hJ _ ys H hp,MZ _⟩) (λi ys H2 x H3 hi hp hy=>?_) hq;obtain⟨t,x,rfl,nt,rfl,hx⟩:=hy;exact hs i ys H2 x t (hx xs (hJ i ys H2 hp)) hp nt
theorem dh {J:It}{xs:List V}{g:TG}{fr:List Nat}(Pv:Nat->List V->Hp->Prop) (hJ: ∀i ys H,i<=xs.length->Pv i ys H->JL J H xs) (h0:Pv 0 [] H) (hz:xs.length < sizeLine) (hlen: ∀i ys H,Pv i ys H->ys.length<=i)
  (hs: ∀i ys H2 x,xs[i]?=some x->Pv i ys H2->g x (cH own fr O) H2 λO4 H4=>tt O4 H4 λb H5=>if b=true then te O4 H5 λy H6=>Pv (i+1) (ys++[y]) H6 else Pv (i+1) ys H5)
  (hq: ∀ys H2 p,Pv xs.length ys H2->H2 p=none->Q (.ref p) (upd H2 p (.lst ys))):nz J g tt te own fr O H Q:=by
 show tH xs.length Pv h0 hz hlen (λi ys H hi hp=>(hJ i ys H (Nw hi) hp).go i hi) (λys H hp=>(hJ _ ys H (MZ _) hp).stop _ (MZ _)) (λi ys H2 x H3 hi hp hy=>?_) hq;obtain⟨rfl,hx⟩:=(hJ i ys H2 (Nw hi) hp).yld i x H3 hi hy;exact hs i ys H3 x hx hp
section
variable {X:Cx}{QE:mK}{O:St}{H:Hp}{s:Shared}{h':Heap}
theorem Inv.rO {t':Nat}{ch:List Addr}(I:Inv X QE O H s) (k: ∀c o,c∉ch->s.heap.get? c=some o->h'.get? c=some o) (fa: ∀a∈ch,bG X QE H a):Inv X QE O H { s with heap:=h',toks:=t' }:=by
 have na: ∀c u,H c=some u->c∉ch:=λc u e z=>by rw[(fa c z).1] at e; cases e
 show I.step (g':=s.gens) (d':=s.drawn) (ch:=ch) (λc hc=>?_) (λc o _ _ hc e _=>k c o hc e) (λc o _ _ hc e _=>⟨o.slots,k c o hc e⟩) (λ_ _ _ _ n=>n)
  (λc o hc e=>⟨o,k c o hc e⟩) (λ_ _ e=>e) (λ_ _ _ e=>e) (λc ps e=>⟨#[],by rw[e]; simp⟩) (λm hm=>?_) (λc u e=>?_) I.bare
 .exact⟨(fa c hc).2.2.2.1,(fa c hc).2.1,(fa c hc).2.2.2.2.1,(fa c hc).2.2.2.2.2⟩
 .obtain⟨o,es,ep,ho,r⟩:=hm;exact⟨o,es,ep,k _ o (λz=>(fa _ z).2.1 rfl) ho,r⟩
 .show (I.hok c u e).jk (λd v hd q=>k d v ?_ q) (λ_ q=>q) λ_ _ q=>q;rcases hd with z | z
  .rw[z]; exact na c u e
  .exact na d _ z
end
def SE (K:QG) (a b:Addr):It :=
 ⟨λi H=> ∃xs ys x y,QF K H a xs/\QF K H b ys/\xs[i]?=some x/\ys[i]?=some y,λi H v H'=> ∃t x y,v= .ref t/\H t=none/\H'=upd H t (.tup [x,y])/\(∀xs,QF K H a xs->xs[i]?=some x)/\ ∀ys,QF K H b ys->ys[i]?=some y,λi H=> ∃xs ys,QF K H a xs/\QF K H b ys/\(xs.length<=i\/ys.length<=i)⟩
theorem wq {h:Heap}{z TI TO i1 i2 b:Addr}{f0 u v:Value}{k1 k2:Nat}{xs ys:Array Value}(hz:IsZip h z TI TO f0) (h1:h.IsListIter i1 a k1) (h2:h.IsListIter i2 b k2) (hp:IsPair h TO u v) (ha:h.IsList a xs) (hb:h.IsList b ys) :
  a≠z/\a≠TO/\a≠i1/\a≠i2/\b≠z/\b≠TO/\b≠i1/\b≠i2:=by
 obtain⟨o1,e1,c1,d1⟩:=h1;obtain⟨o2,e2,c2,d2⟩:=h2;obtain⟨oa,ea,ca,da⟩:=ha;obtain⟨ob,eb,cb,db⟩:=hb;show⟨λe=>?_,λe=>?_,λe=>?_,λe=>?_,λe=>?_,λe=>?_,λe=>?_,λe=>?_⟩ <;> subst e;.rw[hz] at ea; cases ea; exact absurd (OG ca) aS
 .rw[hp] at ea; cases ea; exact absurd (OG ca) aS
 .rw[e1] at ea; cases ea; rw[c1] at ca; exact absurd (OG ca) aS
 .rw[e2] at ea; cases ea; rw[c2] at ca; exact absurd (OG ca) aS
 .rw[hz] at eb; cases eb; exact absurd (OG cb) aS
 .rw[hp] at eb; cases eb; exact absurd (OG cb) aS
 .rw[e1] at eb; cases eb; rw[c1] at cb; exact absurd (OG cb) aS
 .rw[e2] at eb; cases eb; rw[c2] at cb; exact absurd (OG cb) aS
structure Td (z TI TO i1 i2:Addr):Prop where
 TIz:TI≠z
 TOz:TO≠z
 i1z:i1≠z
 i2z:i2≠z
 TITO:TI≠TO
 TIi1:TI≠i1
 TIi2:TI≠i2
 TOi1:TO≠i1
 TOi2:TO≠i2
 i12:i1≠i2
structure S7 (h:Heap) (z TI TO i1 i2 a b:Addr) (i:Nat):Prop where
 zp:IsZip h z TI TO .none
 pi:IsPair h TI (.ref i1) (.ref i2)
 po: ∃u v,IsPair h TO u v
 h1:h.IsListIter i1 a i
 h2:h.IsListIter i2 b i
 ap:Td z TI TO i1 i2
variable{w:World}
theorem En {P:Program}{elts:List Expr}{x1}{pos:Pos}(a b z TI TO i1 i2:Addr):Turn P w K (.Tuple elts x1 pos) (SE K a b) [z,TI,TO,i1,i2] z (λi h=>S7 h z TI TO i1 i2 a b i) where
 mem:=by simp
 obj:=λi h st c hc=>by
  obtain⟨hz,hp,⟨u,v,ho⟩,⟨o1,e1,c1,d1⟩,⟨o2,e2,c2,d2⟩,_⟩:=st;simp only[M3,NL,O2] at hc;rcases hc with rfl | rfl | rfl | rfl | rfl
  .exact⟨_,hz,λv q=>by cases q⟩
  .exact⟨_,hp,λv q=>by cases q⟩
  .exact⟨_,ho,λv q=>by cases q⟩
  .exact⟨o1,e1,λv q=>by rw[d1] at q; cases q⟩
  .exact⟨o2,e2,λv q=>by rw[d2] at q; cases q⟩
 keep:=λi h h' st k=>by
  obtain⟨hz,hp,⟨u,v,ho⟩,h1,h2,ap⟩:=st;exact⟨k z (by simp) _ hz,k TI (by simp) _ hp,⟨u,v,k TO (by simp) _ ho⟩,h1.at λo q=>k i1 (by simp) o q,h2.at λo q=>k i2 (by simp) o q,ap⟩
 item:=by
  ext:0;obtain⟨hz,hp,⟨u,v,ho⟩,h1,h2,ap⟩:=st;obtain⟨xs,ys,x,y,hqa,hqb,hx,hy⟩:=hg;obtain⟨its,rv,p,hsz⟩:=I.list hqa;obtain⟨jts,rw',p2,hsz2⟩:=I.list hqb;obtain⟨ux,hux,rux⟩:=rv.get hx;obtain⟨uy,huy,ruy⟩:=rw'.get hy;obtain⟨q1,q2,q3,q4,q5,q6,q7,q8⟩:=wq hz h1 h2 ho p.isList p2.isList;have za:ZipApart z TI TO i1 i2 a b:=⟨ap.TIz,ap.TOz,ap.i1z,ap.i2z,ap.TITO,ap.TIi1,ap.TIi2,ap.TOi1,ap.TOi2,ap.i12,q1,q2,q3,q4,q5,q6,q7,q8⟩
  have ltz:z < s.heap.objs.size:=Na hz;have ltI:TI < s.heap.objs.size:=Na hp;have ltO:TO < s.heap.objs.size:=Na ho;have Sz:i1 < s.heap.objs.size:=by obtain⟨o,q,_⟩:=id h1; exact Na q
  have lt2:i2 < s.heap.objs.size:=by obtain⟨o,q,_⟩:=id h2; exact Na q
  show wpAny_pyNext_zip_item za hz hp ho h1 h2 p.isList p2.isList (x:=ux) (y:=uy) (by simpa using hux) (by simpa using huy) λh' hz' ho' h1' h2' ht hs' hk=>?_;show⟨_,Z,wpAny_letOwnedTupleGo_zip hz' λh3 hz3 sb=>?_⟩;have kall: ∀c o,c∉[z,TI,TO,i1,i2]->s.heap.get? c=some o->h3.get? c=some o:=λc o hc q=>by
   simp only[M3,NL,O2,not_or] at hc;exact (sb.2 c hc.1).trans (hk c o hc.1 hc.2.2.1 hc.2.2.2.1 hc.2.2.2.2 q)
  have I1:Inv X QE O H { s with heap:=h3,toks:=s.toks }:=I.rO kall hf;have ht2:h3.get? s.heap.objs.size=some { cls:= .type "tuple",data:= .seq #[ux,uy] }:=(sb.2 _ (Pp ltz)).trans ht;have fT:bG X QE H s.heap.objs.size:=I.gO (MZ _) (I.hok.fresh (MZ _));have new:cW X.prog X.w (upd H s.heap.objs.size (.tup [x,y])) h3 s.heap.objs.size (.tup [x,y]):=⟨aC,[ux,uy],.cons rux (.cons ruy .nil),⟨_,ht2,Z,_,Z⟩⟩
  show⟨.ref s.heap.objs.size,_,I1.Br fT new,Z,⟨_,x,y,Z,fT.1,Z,λzs hzs=>by rw[I.pC hzs hqa]; exact hx,λzs hzs=>by rw[I.pC hzs hqb]; exact hy⟩,⟨hz3,?_,?_,?_,?_,ap⟩,λc hc=>?_⟩;.exact (sb.2 _ ap.TIz).trans (hk _ _ ap.TIz ap.TITO ap.TIi1 ap.TIi2 hp)
  .exact⟨_,_,(sb.2 _ ap.TOz).trans ho'⟩
  .exact h1'.at λo q=>(sb.2 _ ap.i1z).trans q
  .exact h2'.at λo q=>(sb.2 _ ap.i2z).trans q
  .have:=(hf c hc).1;simp only[M3,NL,O2] at hc;rcases hc with rfl | rfl | rfl | rfl | rfl
   .rw[ah (Nt ltz)]; exact this
   .rw[ah (Nt ltI)]; exact this
   .rw[ah (Nt ltO)]; exact this
   .rw[ah (Nt Sz)]; exact this
   .rw[ah (Nt lt2)]; exact this
 done:=by
  ext:0;obtain⟨hz,hp,⟨u,v,ho⟩,h1,h2,ap⟩:=st;obtain⟨xs,ys,hqa,hqb,hx⟩:=hg;obtain⟨its,rv,p,hsz⟩:=I.list hqa;obtain⟨jts,rw',p2,hsz2⟩:=I.list hqb;obtain⟨q1,q2,q3,q4,q5,q6,q7,q8⟩:=wq hz h1 h2 ho p.isList p2.isList;have za:ZipApart z TI TO i1 i2 a b:=⟨ap.TIz,ap.TOz,ap.i1z,ap.i2z,ap.TITO,ap.TIi1,ap.TIi2,ap.TOi1,ap.TOi2,ap.i12,q1,q2,q3,q4,q5,q6,q7,q8⟩
  have hl:=rv.length;have hl2:=rw'.length;show wpAny_pyNext_zip_end (I.ok.hd hc) za hz hp ho h1 h2 p.isList p2.isList ?_ λh' hk=>⟨Z,I.rO (t':=s.toks) (ch:=[z,TI,TO,i1,i2]) (λc o hc q=>?_) hf⟩
  .rcases hx with hx | hx
   .left; simp; lia
   .right; simp; lia
  .simp only[M3,NL,O2,not_or] at hc;exact hk c o hc.1 hc.2.2.1 hc.2.2.2.1 hc.2.2.2.2 q
 self:=λ_ _ _ _ _ st h=>wpAny_pyIter_zip st.zp h
section
variable {X:Cx}
inductive Lc (K:QG) (R:It->Hp->Prop) (vs:List V) (H1:Hp):Prop | mk (a b:_) (e0:vs=[.ref a,.ref b]) (e1:(∃xs,QF K H1 a xs)) (e2:(∃ys,QF K H1 b ys)) (q:R (SE K a b) H1)
def L6 (K:QG) (ta:TA):TI:=λO H R=>ta O H λvs H1=>Lc K R vs H1
theorem boot_zip:bootBuiltins "zip" = some (.type "zip"):=by trivial
theorem IT {elts:List Expr}{x1}{tpos:Pos}{a b:Expr}{ta:TA}{p pos:Pos}(hg:Gl X "zip") (hm:X.mg "zip" = none) (ha:PA X [a,b] ta) (hs:starEach [a,b] X.env=(false,eval a X.env)::starEach [b] X.env:=by rfl) (hs2:((backTo pos (starEach [b] X.env)).any λx=>x.fst)=false:=by rfl):PI X (.Tuple elts x1 tpos) (.Call (.Name "zip" p) [a,b] [] pos) (L6 X.K ta):=by
 intro QE s O H R I h;show Call_ (kU I hg hm boot_zip (OK (QL (ha pos QE s O H _ I h) λus s1 ⟨vs,H1,I1,r1,q1⟩=>?_) hs hs2));obtain⟨l1,l2,e,⟨xs,hq1⟩,⟨ys,hq2⟩,q⟩:=q1;subst e;obtain⟨u1,u2,rfl,ru1,ru2⟩:=vals2 r1;cases ru1;cases ru2;obtain⟨its,rv,pl,hz⟩:=I1.list hq1;obtain⟨jts,rw',pl2,hz2⟩:=I1.list hq2;show call_zip_2 pl.isList pl2.isList λh' hzp hpi hpo h1 h2 hsz hk=>?_;show wpAny_pyIter_zip hzp ?_;have I2:Inv X QE O H1 { s1 with heap:=h' }:=I1.kept (t':=s1.toks) hk;show⟨s1.heap.objs.size+4,[s1.heap.objs.size+4,s1.heap.objs.size+2,s1.heap.objs.size+3,s1.heap.objs.size,s1.heap.objs.size+1],_,_,H1,Z,I2,En l1 l2 _ _ _ _ _,⟨hzp,hpi,⟨_,_,hpo⟩,h1,h2,?_⟩,λb hb=>?_,q⟩;.constructor <;> intro e <;> exact absurd e (by change ¬(_:Nat)=_; lia)
 .have hb':s1.heap.objs.size<=b:=by
   simp only[M3,NL,O2] at hb;rcases hb with rfl | rfl | rfl | rfl | rfl
   .exact PN _ _
   .exact PN _ _
   .exact PN _ _
   .exact MZ _
   .exact PN _ _
  exact I1.gO hb' (I1.hok.fresh hb')
end
theorem FQ {b:Addr}{xs zs:List V}{g:TG}{fr:List Nat}(Pv:Nat->List V->Hp->Prop) (hJ: ∀i ys H,Pv i ys H->QF K H a xs/\QF K H b zs) (hl:zs.length=xs.length) (h0:Pv 0 [] H) (hz:xs.length < sizeLine) (hlen: ∀i ys H,Pv i ys H->ys.length<=i)
  (hs: ∀i ys H2 x z t,xs[i]?=some x->zs[i]?=some z->Pv i ys H2->H2 t=none->g (.ref t) (cH own fr O) (upd H2 t (.tup [x,z])) λO4 H4=>tt O4 H4 λb H5=>if b=true then te O4 H5 λy H6=>Pv (i+1) (ys++[y]) H6 else Pv (i+1) ys H5)
  (hq: ∀ys H2 p,Pv xs.length ys H2->H2 p=none->Q (.ref p) (upd H2 p (.lst ys))):nz (SE K a b) g tt te own fr O H Q:=by
 show tH xs.length Pv h0 hz hlen (λi ys H hi hp=>⟨xs,zs,xs[i],zs[i],(hJ i ys H hp).1,(hJ i ys H hp).2,MQ hi,MQ _⟩) (λys H hp=>⟨xs,zs,(hJ _ ys H hp).1,(hJ _ ys H hp).2,.inl (MZ _)⟩) (λi ys H2 x H3 hi hp hy=>?_) hq;obtain⟨t,x,z,rfl,nt,rfl,hx,hz'⟩:=hy;exact hs i ys H2 x z t (hx xs (hJ i ys H2 hp).1) (hz' zs (hJ i ys H2 hp).2) hp nt
section
variable {X:Cx}
theorem zI (val:Nat->Int): ∀n i,i<=n->val (argBest (λi j=>decide (val i < val j)) n)<=val i/\argBest (λi j=>decide (val i < val j)) n<=n
 | 0,i,h=>by rw[Nat.le_zero.mp h]; unfold argBest; exact⟨Np _,MZ _⟩
 | n+1,i,h=>by
  have ih:=zI val n;unfold argBest;split
  .rename_i c;have c:=M9 c;show⟨?_,MZ _⟩;by_cases e:i=n+1;.rw[e]; exact Np _
   .have:=(ih i Y).1;lia
  .rename_i c;have c:=Nr (Nl _▸c);show⟨?_,OB (ih n (MZ _)).2⟩;by_cases e:i=n+1;.rw[e]; lia
   .exact (ih i Y).1
theorem zR (val:Nat->Int): ∀n i,i<=n->val i<=val (argBest (λi j=>decide (val i > val j)) n)/\argBest (λi j=>decide (val i > val j)) n<=n
 | 0,i,h=>by rw[Nat.le_zero.mp h]; unfold argBest; exact⟨Np _,MZ _⟩
 | n+1,i,h=>by
  have ih:=zR val n;unfold argBest;split
  .rename_i c;have c:=M9 c;show⟨?_,MZ _⟩;by_cases e:i=n+1;.rw[e]; exact Np _
   .have:=(ih i Y).1;lia
  .rename_i c;have c:=Nr (Nl _▸c);show⟨?_,OB (ih n (MZ _)).2⟩;by_cases e:i=n+1;.rw[e]; lia
   .exact (ih i Y).1
inductive KZ (K:QG) (xs:List V) (H:Hp) (Q:VK):Prop | mk (a:Addr) (ns:List Int) (e0:xs=[.ref a]) (e1:QF K H a (ns.map V.int)) (e2:0 < ns.length) (q: ∀M,M∈ns->(∀x∈ns,M<=x)->Q (.int M) H)
def J5 (K:QG):List V->Hp->VK->Prop:=λxs H Q=>KZ K xs H Q
inductive Kx (K:QG) (xs:List V) (H:Hp) (Q:VK):Prop | mk (a:Addr) (ns:List Int) (e0:xs=[.ref a]) (e1:QF K H a (ns.map V.int)) (e2:0 < ns.length) (q: ∀M,M∈ns->(∀x∈ns,x<=M)->Q (.int M) H)
def JE (K:QG):List V->Hp->VK->Prop:=λxs H Q=>Kx K xs H Q
theorem oE {ns:List Int}{its:List Value}(rv:Vals (ns.map V.int) its): ∀(i:Nat) (v:Value),its.toArray[i]?=some v-> ∃t,v=Value.int (ns.getD i 0) t:=λi v h=>by
 have h:its[i]?=some v:=by simpa using h
 obtain⟨hi,rfl⟩:=MW.mp h;have hl:=rv.length;rw[MO] at hl;obtain⟨u,hu,ru⟩:=rv.get (i:=i) (x:= .int (ns.getD i 0)) (by rw[M5,MQ Y,MX,MQ Y]; rfl);rw[h] at hu;cases hu;obtain⟨t,e⟩:=ru;exact⟨t,e⟩
theorem DI (hc:X.calm=true):du X (.builtin "min") (J5 X.K):=by
 intro QE s O H xs us Q I r h;obtain⟨a,ns,rfl,ha,hn,q⟩:=h;obtain⟨u,rfl,ru⟩:=vals1 r;cases ru;obtain⟨its,rv,pl,hz⟩:=I.list ha;have hl:=rv.length;rw[MO] at hl;show call_min_walk (Pb pl.isList ?_);have hk0: ∀(b:Addr) (o:Obj),s.heap.get? b=some o->(s.heap.push { cls:=Value.type "list_iterator",data:=Data.fields #[Value.ref a,Value.int 0 0] }).get? b=some o:=λb o e=>MV _ e;have hlt:a < s.heap.objs.size:=by obtain⟨o,q,_⟩:=pl.isList; exact Na q
 have I1:Inv X QE O H { s with heap:=s.heap.push { cls:=Value.type "list_iterator",data:=Data.fields #[Value.ref a,Value.int 0 0] },toks:=s.toks }:=I.kept (t':=s.toks) hk0;have fI:bG X QE H s.heap.objs.size:=I.gO (MZ _) (I.hok.fresh (MZ _));show⟨s.heap.objs.size,_,_,_,_,_,_,Z,Walks.list (A:=X.A.in1) (show X.A.in1.handled=none from I.ok.hd hc) s.heap.objs.size a (Nt hlt) its.toArray,⟨⟨_,Nq _ rfl,Z,Z⟩,?_⟩,λb hb=>?_,by simp; lia,CmpOf.ints_lt (λi=>ns.getD i 0) (oE rv),λv h' tk hv hk=>?_⟩
 .obtain⟨o,q1,q2⟩:=pl.isList;exact⟨o,hk0 _ _ q1,q2⟩
 .simp only[M3,NL,O2] at hb;rw[Oe];rcases hb with rfl | rfl
  .exact Oo _
  .exact OT hlt
 .obtain⟨t,rfl⟩:=oE rv _ _ hv;have sz:its.toArray.size - 1=ns.length - 1:=by simp; lia
  rw[sz] at *;have hb:=zI (λi=>ns.getD i 0) (ns.length - 1);show⟨.int _,H,I1.rO (t':=tk) (ch:=[s.heap.objs.size]) (λc o hc e=>hk c o hc e) (λb hb=>by rw[MT.mp hb]; exact fI),⟨t,Z⟩,q _ ?_ λx hx=>?_⟩
  .have:=(hb 0 (NN _)).2;change ns.getD _ 0∈ns;rw[MX,MQ (show argBest _ (ns.length - 1) < ns.length by lia)];exact Ot _
  .obtain⟨i,hi,rfl⟩:=N0.mp hx;have:=(hb i Y).1;rw[MX (l:=ns) (i:=i),MQ hi] at this;exact this
theorem Cb (hc:X.calm=true):du X (.builtin "max") (JE X.K):=by
 intro QE s O H xs us Q I r h;obtain⟨a,ns,rfl,ha,hn,q⟩:=h;obtain⟨u,rfl,ru⟩:=vals1 r;cases ru;obtain⟨its,rv,pl,hz⟩:=I.list ha;have hl:=rv.length;rw[MO] at hl;show call_max_walk (Pb pl.isList ?_);have hk0: ∀(b:Addr) (o:Obj),s.heap.get? b=some o->(s.heap.push { cls:=Value.type "list_iterator",data:=Data.fields #[Value.ref a,Value.int 0 0] }).get? b=some o:=λb o e=>MV _ e;have hlt:a < s.heap.objs.size:=by obtain⟨o,q,_⟩:=pl.isList; exact Na q
 have I1:Inv X QE O H { s with heap:=s.heap.push { cls:=Value.type "list_iterator",data:=Data.fields #[Value.ref a,Value.int 0 0] },toks:=s.toks }:=I.kept (t':=s.toks) hk0;have fI:bG X QE H s.heap.objs.size:=I.gO (MZ _) (I.hok.fresh (MZ _));show⟨s.heap.objs.size,_,_,_,_,_,_,Z,Walks.list (A:=X.A.in1) (show X.A.in1.handled=none from I.ok.hd hc) s.heap.objs.size a (Nt hlt) its.toArray,⟨⟨_,Nq _ rfl,Z,Z⟩,?_⟩,λb hb=>?_,by simp; lia,CmpOf.ints_gt (λi=>ns.getD i 0) (oE rv),λv h' tk hv hk=>?_⟩
 .obtain⟨o,q1,q2⟩:=pl.isList;exact⟨o,hk0 _ _ q1,q2⟩
 .simp only[M3,NL,O2] at hb;rw[Oe];rcases hb with rfl | rfl
  .exact Oo _
  .exact OT hlt
 .obtain⟨t,rfl⟩:=oE rv _ _ hv;have sz:its.toArray.size - 1=ns.length - 1:=by simp; lia
  rw[sz] at *;have hb:=zR (λi=>ns.getD i 0) (ns.length - 1);show⟨.int _,H,I1.rO (t':=tk) (ch:=[s.heap.objs.size]) (λc o hc e=>hk c o hc e) (λb hb=>by rw[MT.mp hb]; exact fI),⟨t,Z⟩,q _ ?_ λx hx=>?_⟩
  .have:=(hb 0 (NN _)).2;change ns.getD _ 0∈ns;rw[MX,MQ (show argBest _ (ns.length - 1) < ns.length by lia)];exact Ot _
  .obtain⟨i,hi,rfl⟩:=N0.mp hx;have:=(hb i Y).1;rw[MX (l:=ns) (i:=i),MQ hi] at this;exact this
end
def nD (kvs:QX) (v:Int):Option Nat:=match aR kvs (Sum.inl v) with
 | some (.int k)=>some k.toNat
 | _=>none
theorem F8 {kvs:QX}{v:Int}{j:Nat}(h:aR kvs (Sum.inl v)=some (.int (j:Nat))):nD kvs v=some j:=by unfold nD; rw[h]; change some ((j:Int).toNat)=_; rw[M6]
theorem jA {kvs:QX}{u v:Int}{j:Nat}:nD (putK kvs (Sum.inl u) (.int (j:Nat))) v=if v=u then some j else nD kvs v:=by
 unfold nD;rw[kg];by_cases e:v=u
 .subst e;rw[MU rfl,MU rfl];change some ((j:Int).toNat)=_;rw[M6]
 .rw[MP (λz=>e (PJ z)),MP e]
structure Bg (H0 H:Hp) (n:Nat) (rs:List MA.ao) (L:List Int) (m:Int) (d q:Addr) (kvs:QX) (ws:List Int) (sk:Int->Prop):Prop where
 hd:H d=some (.dK kvs)
 hq:H q=some (.lst (ws.map V.int))
 sm:ag H0 H
 fd:H0 d=none
 fq:H0 q=none
 Q1: ∀k,has kvs k->0<=k/\k < n
 num: ∀k v,aR kvs (Sum.inl k)=some v-> ∃j:Nat,v= .int (j:Nat)
 ex: ∀k j,nD kvs k=some j-> ∃ps,MA.Tp rs L m k ps/\ps.length=j
 st:nD kvs m=some 0
 wk: ∀w∈ws,has kvs w
 srt:ws.Pairwise λa b=> ∀x y,nD kvs a=some x->nD kvs b=some y->x<=y
 top: ∀k x,nD kvs k=some x-> ∀w∈ws,∀y,nD kvs w=some y->x<=y+1
 cl: ∀k x,nD kvs k=some x->k∉ws-> ¬sk k-> ∀r∈rs,MA.Tl L r->r.1=k-> ∃y,nD kvs r.2.1=some y/\y<=x+1
 cn:kvs.length+lA n kvs<=n
 bd: ∀k j,nD kvs k=some j->j+1<=kvs.length
section
variable {H0 H:Hp}{n:Nat}{rs:List MA.ao}{L:List Int}{m:Int}{d q:Addr}{kvs:QX}{ws:List Int}{sk:Int->Prop}
theorem uC (num: ∀k v,aR kvs (Sum.inl k)=some v-> ∃j:Nat,v=V.int (j:Nat)){k:Int}(h:has kvs k): ∃j:Nat,nD kvs k=some j/\aR kvs (Sum.inl k)=some (.int (j:Nat)):=by
 obtain⟨v,hv⟩:=Oz.mp (show (aR kvs (Sum.inl k)).isSome=true from h);obtain⟨j,rfl⟩:=num k v hv;exact⟨j,F8 hv,hv⟩
theorem yh {k:Int}{j:Nat}(h:nD kvs k=some j):has kvs k:=by
 unfold nD at h;unfold has;split at h;.rename_i e; rw[e]; rfl
 .cases h
theorem uO (num: ∀k v,aR kvs (Sum.inl k)=some v-> ∃j:Nat,v=V.int (j:Nat)){k:Int}{j:Nat}(h:nD kvs k=some j):aR kvs (Sum.inl k)=some (.int (j:Nat)):=by
 obtain⟨j',e,hv⟩:=uC num (yh h);rw[h] at e;cases e;exact hv
theorem Gv (num: ∀k v,aR kvs (Sum.inl k)=some v-> ∃j:Nat,v=V.int (j:Nat)){k:Int}(h:nD kvs k=none):aR kvs (Sum.inl k)=none:=by
 cases e:aR kvs (Sum.inl k) with
 | none=>rfl
 | some v =>
  obtain⟨j,rfl⟩:=num k v e;rw[F8 e] at h;cases h
theorem Bg.ne (b:Bg H0 H n rs L m d q kvs ws sk):d≠q:=xc b.hd b.hq (by intro z; cases z)
theorem Bg.pop {mb:Int}{r:List Int}(b:Bg H0 H n rs L m d q kvs (mb::r) sk) (hs: ∀k,¬sk k):Bg H0 (upd H q (.lst (r.map V.int))) n rs L m d q kvs r (λk=>k=mb) :=
 ⟨(ah b.ne).trans b.hd,aa,b.sm.eI b.fq,b.fd,b.fq,b.Q1,b.num,b.ex,b.st,λx hx=>b.wk x (M4 _ hx),(Ql.mp b.srt).2,λk x h w hw=>b.top k x h w (M4 _ hw),λk x h1 h2 h3=>b.cl k x h1 (λz=>(M3.mp z).elim h3 h2) (hs k),b.cn,b.bd⟩
theorem Bg.reach {mb:Int}{d0:Nat}{r:MA.ao}(b:Bg H0 H n rs L m d q kvs ws (λk=>k=mb)) (hm:nD kvs mb=some d0) (low: ∀w∈ws,∀y,nD kvs w=some y->d0<=y) (bnd: ∀k x,nD kvs k=some x->x<=d0+1)
  {i:Nat} (hi:rs[i]?=some r) (t:MA.Tl L r) (e:r.1=mb) (u0:0<=r.2.1) (u1:r.2.1 < n) (nh: ¬has kvs r.2.1) :
  Bg H0 (upd (upd H d (.dK (putK kvs (Sum.inl r.2.1) (.int ((d0+1:Nat):Int))))) q (.lst ((ws++[r.2.1]).map V.int))) n rs L m d q (putK kvs (Sum.inl r.2.1) (.int ((d0+1:Nat):Int))) (ws++[r.2.1]) (λk=>k=mb) /\
  nD (putK kvs (Sum.inl r.2.1) (.int ((d0+1:Nat):Int))) mb=some d0/\(∀w∈ws++[r.2.1],∀y,nD (putK kvs (Sum.inl r.2.1) (.int ((d0+1:Nat):Int))) w=some y->d0<=y)/\(∀k x,nD (putK kvs (Sum.inl r.2.1) (.int ((d0+1:Nat):Int))) k=some x->x<=d0+1):=by
 have old: ∀k j,nD kvs k=some j->k≠r.2.1:=λk j h z=>nh (z▸yh h);have low': ∀w∈ws++[r.2.1],∀y,nD (putK kvs (Sum.inl r.2.1) (.int ((d0+1:Nat):Int))) w=some y->d0<=y:=λw hw y hy=>by
  rw[jA] at hy;split at hy;.cases hy; lia
  .rename_i ne;rcases M8.mp hw with hw | hw
   .exact low w hw y hy
   .exact absurd (MT.mp hw) ne
 have bnd': ∀k x,nD (putK kvs (Sum.inl r.2.1) (.int ((d0+1:Nat):Int))) k=some x->x<=d0+1:=λk x h=>by
  rw[jA] at h;split at h;.cases h; exact MZ _
  .exact bnd k x h
 have keep: ∀k j,nD kvs k=some j->nD (putK kvs (Sum.inl r.2.1) (.int ((d0+1:Nat):Int))) k=some j:=λk j h=>by rw[jA,MP (old k j h)]; exact h
 show⟨⟨(ah b.ne).trans aa,aa,(b.sm.eI b.fd).eI b.fq,b.fd,b.fq,λk hk=>?_,λk v hv=>?_,λk j hj=>?_,keep _ _ b.st,λw hw=>?_,?_,λk x h w hw y hy=>?_,λk x h h1 h2 r' hr' t' e'=>?_,?_,λk j hj=>?_⟩,keep _ _ hm,low',bnd'⟩
 .rcases cG.mp hk with rfl | hk
  .exact⟨u0,u1⟩
  .exact b.Q1 k hk
 .rw[kg] at hv;split at hv;.cases hv; exact⟨_,Z⟩
  .exact b.num k v hv
 .rw[jA] at hj;split at hj
  .rename_i ek;cases hj;obtain⟨ps,p1,p2⟩:=b.ex mb d0 hm;rw[ek];exact⟨i::ps,.cons hi t (e▸p1),by rw[Nk,p2]⟩
  .exact b.ex k j hj
 .rcases M8.mp hw with hw | hw
  .exact cG.mpr (.inr (b.wk w hw))
  .exact cG.mpr (.inl (MT.mp hw))
 .show List.pairwise_append.mpr ⟨?_,List.pairwise_singleton ..,λa ha c hc x y hx hy=>?_⟩
  .show List.Pairwise.imp_of_mem ?_ b.srt;intro a c ha hc h x y hx hy;have na:a≠r.2.1:=λz=>nh (z▸b.wk a ha);have nc:c≠r.2.1:=λz=>nh (z▸b.wk c hc);rw[jA,MP na] at hx;rw[jA,MP nc] at hy;exact h x y hx hy
  .rw[MT.mp hc,jA,MU rfl] at hy;cases hy;exact bnd' a x hx
 .have:=bnd' k x h;have:=low' w hw y hy;lia
 .have nk:k≠r.2.1:=λz=>h1 (z▸Nn _ (MT.mpr rfl));rw[jA,MP nk] at h;obtain⟨y,y1,y2⟩:=b.cl k x h (λz=>h1 (NO _ z)) h2 r' hr' t' e';exact⟨y,keep _ _ y1,y2⟩
 .have c1:=b.cn;have c2:=mj (n:=n) (kvs:=kvs) (v:=V.int ((d0+1:Nat):Int)) u0 u1 nh;have c3:=kB kvs (Sum.inl r.2.1:Key) (V.int ((d0+1:Nat):Int));lia
 .have lenP:(putK kvs (Sum.inl r.2.1) (V.int ((d0+1:Nat):Int))).length=kvs.length+1:=by
   rw[pY _ (by unfold has at nh; simpa using nh),M0];rfl
  have:=b.bd mb d0 hm;rw[lenP];rw[jA] at hj;split at hj;.cases hj; lia
  .have:=b.bd k j hj; lia
theorem Bg.dist (b:Bg H0 H n rs L m d q kvs [] sk) (hs: ∀k,¬sk k):MA.iG rs L m (nD kvs):=by
 show⟨b.ex,λv ps h=>?_⟩;induction h with
 | nil=>exact⟨0,b.st,MZ _⟩
 | @cons i q ps hi t _ ih =>
  obtain⟨x,e,l⟩:=ih;obtain⟨y,y1,y2⟩:=b.cl _ x e NL (hs _) q (MS hi) t rfl;exact⟨y,y1,by rw[Nk]; lia⟩
end
def F5 (ns:List Int) (dv v:Value):Prop:=(ns=[]/\v=dv)\/ ∃M t,v=Value.int M t/\M∈ns/\ ∀x∈ns,x<=M
variable{prog:Program}
theorem CA {A:Around}{R:Result->Shared->Prop}(hA:A.handled=none){l I S:Addr}{its:List Value}{ns:List Int}{dv:Value}(hv: ∀(i:Nat) (v:Value),its.toArray[i]?=some v-> ∃t,v=Value.int (ns.getD i 0) t) (hn:ns.length=its.length)
  (lI:l≠I) (lS:l≠S) (SI:S≠I): ∀(k j:Nat) (s:Shared) (bst:Array Value) (c:Nat),its.length - j=k->j<=its.length->s.heap.IsListIter I l j->s.heap.IsList l its.toArray->s.heap.get? S=some { cls:= .type "list",data:= .seq bst c } ->
  ((bst= #[]/\j=0)\/ ∃b t,bst= #[Value.int b t,Value.int b t]/\b∈ns.take j/\ ∀x∈ns.take j,x<=b) ->
  (∀(v:Value) (h':Heap) (tk:Nat),F5 ns dv v->(∀(b:Addr) (o:Obj),b≠I->b≠S->s.heap.get? b=some o->h'.get? b=some o)->R (.ok (.ret v)) { s with heap:=h',toks:=tk }) ->
  codeAny (model prog w) A (.builtin "max.loop" ⟨[.ref I,.none,.ref S],[(Str.ofString "default",dv)]⟩) R s:=by
 intro k;induction k with
 | zero =>
  intro j s bst c hk hj hI hl hS hb q;have ej:j=its.length:=Y;show P9 PySem.F.entry_max_loop ?_;unfold Builtin.«max.loop»;show MY (wpAny_seqItems hS rfl ?_);show MY (wpAny_tryCatch (wpAny_pyNext_list_end hA hI hl (by simp; lia) λh' he=>?_));have hS':h'.get? S=some { cls:= .type "list",data:= .seq bst c }:=he S _ SI hS;rcases hb with⟨rfl,rfl⟩ | ⟨b,t,rfl,h1,h2⟩
  .show MY (wpAny_rule (Nj ?_));show q dv h' s.toks (.inl ⟨List.length_eq_zero_iff.mp Y,Z⟩) λb o n1 _ e=>he b o n1 e
  .show MY (wpAny_updateSeq hS' rfl ?_ aC (by change 0<=sizeLine+1; exact NN _));show MY (Qi (Nj ?_));rw[ej,<-hn,NC] at h1 h2;exact q _ _ s.toks (.inr ⟨b,t,Z,h1,h2⟩) λd o n1 n2 e=>(Oj _ _ _ _ n2).trans (he d o n1 e)
 | succ k ih =>
  intro j s bst c hk hj hI hl hS hb q;have hlt:j < its.length:=Y;obtain⟨t0,e0⟩:=hv j its[j] (by simp[hlt]);show P9 PySem.F.entry_max_loop ?_;unfold Builtin.«max.loop»;show MY (wpAny_seqItems hS rfl ?_);show MY (wpAny_tryCatch (wpAny_pyNext_list_item hI hl (x:=its[j]) (by simp[hlt]) λh' hI' sb=>?_));have hS':h'.get? S=some { cls:= .type "list",data:= .seq bst c }:=(sb.2 S SI).trans hS;have hl':h'.IsList l its.toArray:=by
   obtain⟨o,q1,q2⟩:=hl;exact⟨o,(sb.2 l lI).trans q1,q2⟩
  rw[e0];have tk:ns.take (j+1)=ns.take j++[ns.getD j 0]:=by
   rw[NF,MX,MQ Y];rfl
  show MY (Nj ?_);rcases hb with⟨rfl,rfl⟩ | ⟨b,t,rfl,h1,h2⟩
  .show MY (wpAny_updateSeq hS' rfl ?_ aC (by change 2<=sizeLine+1; decide));show Nj ⟨Z,?_⟩;show ih 1 _ #[.int (ns.getD 0 0) t0,.int (ns.getD 0 0) t0] (c+1) Y Y (hI'.at λo e=>(Oj _ _ _ _ SI.symm).trans e) ?_ ?_ (.inr ⟨_,t0,Z,?_,?_⟩) λv h2 tk2 m fr=>?_
   .obtain⟨o,q1,q2⟩:=hl';exact⟨o,(Oj _ _ _ _ lS).trans q1,q2⟩
   .exact (Ou (Obj.mapSeq λ_=> #[Value.int (ns.getD 0 0) t0,Value.int (ns.getD 0 0) t0]) hS' rfl)
   .rw[tk]; simp
   .rw[tk]; intro x hx; simp at hx; rw[hx]; exact Np _
   .exact q v h2 tk2 m λd o n1 n2 e=>fr d o n1 n2 ((Oj _ _ _ _ n2).trans ((sb.2 d n1).trans e))
  .show MY (wpAny_tryCatch (Om (MY (CmpOf.ints_gt (A:=A.under _) (P:=λi v=> ∃t,v=Value.int (if i=0 then ns.getD j 0 else b) t) (λi=>if i=0 then ns.getD j 0 else b) (λi v z=>z) 0 1 _ _ _ _ _ ⟨t0,Z⟩ ⟨t,Z⟩ ?_))));show MY (Om (N9 ?_));show MY (Qi (Nj ?_));split
   .rename_i cmp;have cmp:ns.getD j 0 > b:=M9 cmp;show MY (wpAny_updateSeq hS' rfl ?_ aC (by change 2<=sizeLine+1; decide));show MY (Qi ?_);show Nj ⟨Z,?_⟩;show ih (j+1) _ #[.int (ns.getD j 0) t0,.int (ns.getD j 0) t0] c Y Y (hI'.at λo e=>(Oj _ _ _ _ SI.symm).trans e) ?_ ?_ (.inr ⟨_,t0,Z,?_,?_⟩) λv h2 tk2 m fr=>?_
    .obtain⟨o,q1,q2⟩:=hl';exact⟨o,(Oj _ _ _ _ lS).trans q1,q2⟩
    .exact (Ou (Obj.mapSeq λ_=> #[Value.int (ns.getD j 0) t0,Value.int (ns.getD j 0) t0]) hS' rfl)
    .rw[tk]; simp
    .rw[tk];intro x hx;rcases M8.mp hx with hx | hx
     .have:=h2 x hx; lia
     .rw[MT.mp hx]; exact Np _
    .exact q v h2 tk2 m λd o n1 n2 e=>fr d o n1 n2 ((Oj _ _ _ _ n2).trans ((sb.2 d n1).trans e))
   .rename_i cmp;have cmp: ¬ns.getD j 0 > b:=Nr (Nl _▸cmp);show MY (Qi ?_);show Nj ⟨Z,?_⟩;show ih (j+1) _ #[.int b t,.int b t] c Y Y hI' hl' hS' (.inr ⟨_,t,Z,?_,?_⟩) λv h2 tk2 m fr=>?_;.rw[tk]; exact NO _ h1
    .rw[tk];intro x hx;rcases M8.mp hx with hx | hx
     .exact h2 x hx
     .rw[MT.mp hx]; lia
    .exact q v h2 tk2 m λd o n1 n2 e=>fr d o n1 n2 ((sb.2 d n1).trans e)
theorem BS {A:Around}{E:nE}{s:Shared}{l:Addr}{its:List Value}{ns:List Int}{dv:Value}{Q:nE}(hA:A.handled=none) (hl:s.heap.IsList l its.toArray) (hv: ∀(i:Nat) (v:Value),its.toArray[i]?=some v-> ∃t,v=Value.int (ns.getD i 0) t) (hn:ns.length=its.length)
  (q: ∀(v:Value) (h':Heap) (tk:Nat),F5 ns dv v->(∀(b:Addr) (o:Obj),s.heap.get? b=some o->h'.get? b=some o)->Q v { s with heap:=h',toks:=tk }) :
  wpAny (model prog w) A (call (.builtin "max") [.ref l] [(Str.ofString "default",dv)]) Q E s:=by
 show Pt (codeAny_call_builtin PySem.F.plain_max PySem.F.entry_max (Nj ?_));unfold Builtin.max;show MY (m:=Builtin.Builtins.bindParams _ _ _ _) (Nj ?_);show MY (Nj ?_);show MY (Pb hl ?_);show MY (wpAny_newList ?_ (NN _));show Nj ⟨Z,?_⟩;have hlt:l < s.heap.objs.size:=by obtain⟨o,q,_⟩:=id hl; exact Na q
 have e1: ∀(b:Addr) (o:Obj),s.heap.get? b=some o->(s.heap.push { cls:=Value.type "list_iterator",data:=Data.fields #[Value.ref l,Value.int 0 0] }).get? b=some o:=λb o e=>MV _ e;have e2: ∀(b:Addr) (o:Obj),s.heap.get? b=some o->((s.heap.push { cls:=Value.type "list_iterator",data:=Data.fields #[Value.ref l,Value.int 0 0] }).push { cls:=Value.type "list",data:=Data.seq #[] 0 }).get? b=some o:=λb o e=>MV _ (e1 b o e);show CA (l:=l) (I:=s.heap.objs.size) (S:=(s.heap.push { cls:=Value.type "list_iterator",data:=Data.fields #[Value.ref l,Value.int 0 0] }).objs.size) (its:=its) (ns:=ns) hA hv hn ?_ ?_ ?_ its.length 0 _ #[] 0 rfl (NN _) ?_ ?_ ?_ (.inl ⟨Z,Z⟩) λv h' tk m fr=>?_;.exact Nt hlt
 .rw[Oe]; exact Nt (OT hlt)
 .rw[Oe]; exact Nat.succ_ne_self _
 .exact⟨_,MV _ (Nq _ rfl),Z,Z⟩
 .obtain⟨o,q1,q2⟩:=hl;exact⟨o,e2 _ _ q1,q2⟩
 .exact Nq _ rfl
 .show q v h' tk m λb o e=>fr b o ?_ ?_ (e2 b o e);.exact Nt (Na e)
  .rw[Oe]; exact Nt (OT (Na e))
section
variable {X:Cx}
inductive B8 (K:QG) (td:TE) (O:St) (Q:VK) (v:V) (H1:Hp):Prop | mk (a:Addr) (ns:List Int) (e0:v= .ref a) (e1:QF K H1 a (ns.map V.int)) (q:td O H1 λw H2=> ∃d:Int,w= .int d/\QF K H2 a (ns.map V.int)/\(ns=[]->Q (.int d) H2)/\ ∀M,M∈ns->(∀x∈ns,x<=M)->Q (.int M) H2)
def Gf (K:QG) (te td:TE):TE:=λO H Q=>te O H λv H1=>B8 K td O Q v H1
theorem GQ {e d:Expr}{te td:TE}{np pos kpos:Pos}(hc:X.calm=true) (hg:Gl X "max") (hm:X.mg "max" = none) (he:PE X e te) (hd:PE X d td) (hst:isStar e=false:=by rfl) :
  PE X (.Call (.Name "max" np) [e] [⟨some "default",d,kpos⟩] pos) (Gf X.K te td):=by
 intro QE s O H Q I h;show Ow (kU I hg hm boot_max ?_);have e1:backTo pos (starEach [e] X.env)=(false,eval e X.env)::backTo pos (starEach [] X.env):=by rw[lF hst]; rfl
 show callWith_kw ?_ e1 (by rw[e1]; rfl);generalize hR:(λ(v:V) (H1:Hp)=>B8 X.K td O Q v H1)=REST;have h':te O H REST:=by rw[<-hR]; exact h
 have hA:=aq he (cP (X:=X)) hst pos QE s O H (λvs H1=>match vs with | [v]=>REST v H1 | _=>False) I h';show QL hA λus s1 ⟨vs,H1,I1,r1,q1⟩=>?_;cases r1 with
 | nil=>exact q1.elim
 | cons r2 r3 =>
  cases r3 with
  | cons _ _=>exact q1.elim
  | nil =>
   have q1':REST _ H1:=q1;rw[<-hR] at q1';obtain⟨a,ns,rfl,ha,q2⟩:=q1';cases r2;change wpAny _ _ (evalAll ((do let v <-eval d X.env; standAt pos; pure v)::(backToKw pos (keywordEach [] X.env)).map (·.2))) _ _ s1;show wpAny_evalAll_cons (MY (QL (hd QE s1 O H1 _ I1 q2) λu s2 ⟨w,H2,I2,rw2,q3⟩=>MY (OD (Nj ?_))));obtain⟨dd,rfl,ha2,qe,qm⟩:=q3;obtain⟨td',rfl⟩:=rw2;show wpAny_evalAll_nil ?_;obtain⟨its,rv,pl,hz⟩:=I2.list ha2;have hl:=rv.length;rw[MO] at hl;show BS (ns:=ns) (I2.ok.hd hc) pl.isList (oE rv) Y λv h' tk m fr=>?_;have I3:=I2.kept (t':=tk) fr;rcases m with⟨rfl,rfl⟩ | ⟨M,t,rfl,m1,m2⟩
   .exact⟨.int dd,H2,I3,⟨_,Z⟩,qe rfl⟩
   .exact⟨.int M,H2,I3,⟨_,Z⟩,qm M m1 m2⟩
end
end L2
namespace MA
variable {n:Nat}{rs:List ao}{L:List Int}{cs:List (Option Int)}{m x:Int}
theorem Bx (k: ∀r∈rs,QO n r) (h:aY n rs=some L) (m0:0<=m) (m1:m < n) (x0:0<=x):(∀r∈rs++[(m,-1,g L m+x)],QO n r)/\ ∃W,aY n (rs++[(m,-1,g L m+x)])=some W/\W.length=n /\
  ∀v:Nat,v < n->g W (v:Nat)=if 0<=aE n rs m.toNat v then mx (g L (v:Nat)) (g L m+x+aE n rs m.toNat v) else g L (v:Nat):=by
 obtain⟨l1,l2,l3,l4⟩:=bX k h;have sl:(put L m (g L m+x)).length=n:=gq.trans l1;have sg: ∀i:Int,0<=i->g (put L m (g L m+x)) i=if i=m then g L m+x else g L i:=λi i0=>ff m0 Y i0;have st:bB rs (it rs n (put L m (g L m+x)))=it rs n (put L m (g L m+x)):=by
  show yy (f:=λv=>g L v+x) k sl (λr hr=>?_) λi i0 i1=>?_
  .have a:=l2 r hr;unfold ask at a ⊢;split at a;.rename_i e; rw[MU e]; change r.2.2<=g L r.1+x; lia
   .rename_i e; rw[MP e]; change g L r.2.1+x+r.2.2<=g L r.1+x; lia
  .rw[sg i i0];change _<=g L i+x;split;.rename_i e; rw[e]; exact Np _
   .lia
 have pl:(it rs n (put L m (g L m+x))).length=n:=(oH _ _ _).trans sl;have pm:Met rs (g (it rs n (put L m (g L m+x)))):=iB k pl st;have pu:=uz k n _ sl;have p0: ∀i:Int,0<=i->i < n->0<=g (it rs n (put L m (g L m+x))) i:=λi i0 i1=>by
  have:=pu i i0 i1;rw[sg i i0] at this;have h1:=l3 i i0 i1;have h2:=l3 m m0 m1;split at this <;> lia
 have k': ∀r∈rs++[(m,-1,g L m+x)],QO n r:=λr hr=>by
  rcases M8.mp hr with hr | hr
  .exact k r hr
  .rw[MT.mp hr];have:=l3 m m0 m1;exact⟨m0,m1,by change (-1:Int)<= -1; decide,by change (-1:Int) < n; lia,by change 0<=g L m+x; lia⟩
 have pm':Met (rs++[(m,-1,g L m+x)]) (g (it rs n (put L m (g L m+x)))):=λr hr=>by
  rcases M8.mp hr with hr | hr
  .exact pm r hr
  .rw[MT.mp hr];have:=pu m m0 m1;rw[sg m m0,MU rfl] at this;exact this
 obtain⟨W,eW⟩:=kT k' p0 pm';obtain⟨w1,w2,w3,w4⟩:=bX k' eW;show⟨k',W,eW,w1,λv hv=>?_⟩;have a:=w4 _ p0 pm' (v:Nat) Y Y;have wm:Met rs (g W):=λr hr=>w2 r (NO _ hr);have b:=ub k wm n _ sl (λi i0 i1=>by
  rw[sg i i0];split
  .rename_i e;rw[e];exact w2 _ (Nn _ (MT.mpr rfl))
  .exact l4 _ w3 wm i i0 i1) (v:Nat) Y Y
 have e:g W (v:Nat)=g (uk n rs L m x) (v:Nat):=Int.le_antisymm a b;rw[e];exact (HR k h m0 m1 x0).2 v hv
def RI (w:Int):Option Int->Int
 | none=>0
 | some c=>if c < w then w - c else 0
theorem Au (k: ∀r∈rs,QO n r) (h:aY n rs=some L) (m0:0<=m) (m1:m < n) (hw:Within n L cs) (hx: ∀(v:Nat) (c:Int),cs.getD v none=some c->c < x){W:List Int}
  (eW: ∀v:Nat,v < n->g W (v:Nat)=if 0<=aE n rs m.toNat v then mx (g L (v:Nat)) (g L m+x+aE n rs m.toNat v) else g L (v:Nat)) {M:Int} (hM: ∀v:Nat,v < n->RI (g W (v:Nat)) (cs.getD v none)<=M) :
  (M=0->gW n rs L cs m none)/\ ∀stop,stop < n->RI (g W (stop:Nat)) (cs.getD stop none)=M->(∀j,j < stop->RI (g W (j:Nat)) (cs.getD j none)≠M)->M≠0->gW n rs L cs m (some (x - M,stop)):=by
 obtain⟨l1,l2,l3,l4⟩:=bX k h;have sd:=lb k l2;have em:((m.toNat:Nat):Int)=m:=Y;have hm:=l3 m m0 m1;have reach: ∀(v:Nat) (c:Int),v < n->cs.getD v none=some c->0<=aE n rs m.toNat v->RI (g W (v:Nat)) (cs.getD v none)=g L m+x+aE n rs m.toNat v - c/\c < g L m+x+aE n rs m.toNat v:=λv c hv hc hf=>by
  have h1:=hw v c hv hc;have h2:=hx v c hc;rw[eW v hv,MU hf,hc];have e:mx (g L (v:Nat)) (g L m+x+aE n rs m.toNat v)=g L m+x+aE n rs m.toNat v:=by unfold mx; split <;> lia
  rw[e];unfold RI;exact⟨MU Y,Y⟩
 have out: ∀v:Nat,v < n->RI (g W (v:Nat)) (cs.getD v none)≠0-> ∃c,cs.getD v none=some c/\0<=aE n rs m.toNat v:=λv hv hne=>by
  cases ec:cs.getD v none with
  | none=>rw[ec] at hne; exact absurd rfl hne
  | some c =>
   show⟨c,Z,NW λhf=>hne ?_⟩;have h1:=hw v c hv ec;rw[eW v hv,MP hf,ec];unfold RI;exact MP Y
 show⟨λz v c hv hc=>?_,λstop hs he hf hne=>?_⟩
 .show NW λhf=>?_;obtain⟨r1,r2⟩:=reach v c hv hc Y;have:=hM v hv;lia
 .obtain⟨c,hc,hfar⟩:=out stop hs (by rw[he]; exact hne);obtain⟨r1,r2⟩:=reach stop c hs hc hfar;have s1:=sd m.toNat stop hfar;rw[em] at s1;have s2:=hw stop c hs hc;show⟨Y,hs,⟨c,hc,hfar,Y⟩,λv c' hv hc' hf'=>?_,λv c' hv hc' hf'=>?_⟩
  .obtain⟨q1,q2⟩:=reach v c' hv hc' hf';have:=hM v hv;lia
  .obtain⟨q1,q2⟩:=reach v c' Y hc' hf';have:=hM v Y;have:=hf v hv;lia
end MA
namespace MA
variable {n:Nat}{rs:List ao}{L lv:List Int}{m:Int}
variable{ps:List Nat}
theorem tK {i:Nat}{q:ao}(h:rs[i]?=some q):QY rs (i::ps)=q.1::QY rs ps:=by
 have e:i::ps=[i]++ps:=rfl;rw[e];unfold QY;rw[Nf];have:=rS h;unfold QY at this;rw[this];rfl
theorem Tp.Q1 (w:Q9 n rs L) (m0:0<=m) (m1:m < n){v:Int}{ps:List Nat}(h:Tp rs L m v ps):0<=v/\v < n:=by
 cases h with
 | nil=>exact⟨m0,m1⟩
 | cons hi t _ =>
  obtain⟨a1,a2,a3,a4,a5⟩:=w.k _ (MS hi);have:=t.1;exact⟨Y,a4⟩
theorem Tp.x8 (w:Q9 n rs L){v:Int}{ps:List Nat}(h:Tp rs L m v ps): ∀x∈QY rs ps,0<=x/\x < n:=by
 induction h with
 | nil=>intro x hx; cases hx
 | cons hi t _ ih =>
  intro x hx;rw[tK hi] at hx;rcases M3.mp hx with rfl | hx
  .have:=w.k _ (MS hi);exact⟨this.1,this.2.1⟩
  .exact ih x hx
theorem Tp.cut {v:Int}(h:Tp rs L m v ps):(v::QY rs ps).Nodup-> ∀x∈v::QY rs ps,∃qs,Tp rs L m x qs/\qs.length<=ps.length/\(x::QY rs qs).Nodup:=by
 induction h with
 | nil =>
  intro nd x hx;rcases M3.mp hx with rfl | hx
  .exact⟨[],.nil,MZ _,nd⟩
  .cases hx
 | @cons i q ps hi t h ih =>
  intro nd x hx;rcases M3.mp hx with rfl | hx
  .exact⟨i::ps,.cons hi t h,MZ _,nd⟩
  .rw[tK hi] at hx nd;obtain⟨qs,a,b,c⟩:=ih (NM.mp nd).2 x hx;exact⟨qs,a,OB b,c⟩
theorem Tp.short {v:Int}(h:Tp rs L m v ps): ∃qs,Tp rs L m v qs/\qs.length<=ps.length/\(v::QY rs qs).Nodup:=by
 induction h with
 | nil=>exact⟨[],.nil,MZ _,NM.mpr ⟨λz=>(by cases z),OX⟩⟩
 | @cons i q ps hi t h ih =>
  obtain⟨qs,a,b,c⟩:=ih;by_cases hm:q.2.1∈q.1::QY rs qs
  .obtain⟨us,a2,b2,c2⟩:=a.cut c _ hm;exact⟨us,a2,OB (Ng b2 b),c2⟩
  .exact⟨i::qs,.cons hi t a,Nat.succ_le_succ b,by rw[tK hi]; exact NM.mpr ⟨hm,c⟩⟩
theorem Tp.RF (w:Q9 n rs L) (m0:0<=m) (m1:m < n){v:Int}{ps:List Nat}(h:Tp rs L m v ps): ∃qs,Tp rs L m v qs/\qs.length<=ps.length/\qs.length < n:=by
 obtain⟨qs,a,b,c⟩:=h.short;have h1:=xO n _ c λx hx=>by
  rcases M3.mp hx with rfl | hx
  .exact a.Q1 w m0 m1
  .exact a.x8 w x hx
 have h3:(QY rs qs).length=qs.length:=z4;rw[Nk] at h1;exact⟨qs,a,b,Y⟩
def Q7 (L lv:List Int) (q:ao):List Int:=if 0<=q.2.1/\g L q.1=g L q.2.1+q.2.2 then put lv q.2.1 (mn (g lv q.2.1) (g lv q.1+1)) else lv
def Rt (L:List Int) (rs:List ao) (lv:List Int):Nat->List Int
 | 0=>lv
 | k+1=>rs.foldl (Q7 L) (Rt L rs lv k)
structure Lf (n:Nat) (rs:List ao) (L:List Int) (m:Int) (lv:List Int):Prop where
 len:lv.length=n
 lo: ∀v:Int,0<=v->v < n->0<=g lv v
 hi: ∀v:Int,0<=v->v < n->g lv v<=99
 ch: ∀v:Int,0<=v->v < n->g lv v < 99-> ∃ps,Tp rs L m v ps/\(ps.length:Int)=g lv v
theorem Lf.step (w:Q9 n rs L) (c:Lf n rs L m lv){q:ao}{i:Nat}(hi:rs[i]?=some q):Lf n rs L m (Q7 L lv q)/\Le n (g (Q7 L lv q)) (g lv)/\(0<=q.2.1->g L q.1=g L q.2.1+q.2.2->g (Q7 L lv q) q.2.1<=g lv q.1+1):=by
 obtain⟨a1,a2,a3,a4,a5⟩:=w.k _ (MS hi);unfold Q7;split
 case isFalse h=>exact⟨c,λ_ _ _=>Np _,λa b=>absurd ⟨a,b⟩ h⟩
 case isTrue h =>
  obtain⟨b0,e⟩:=h;have gp: ∀(u j:Int),0<=j->g (MA.put lv q.2.1 u) j=if j=q.2.1 then u else g lv j:=λu j hj=>ff b0 (by rw[c.len]; exact a4) hj;have l1:=c.lo q.1 a1 a2;have l2:=c.lo q.2.1 b0 a4;have u2:=c.hi q.2.1 b0 a4;show⟨⟨gq.trans c.len,λv v0 v1=>?_,λv v0 v1=>?_,λv v0 v1 hv=>?_⟩,λv v0 v1=>?_,λ_ _=>?_⟩
  .rw[gp _ v v0];split;.unfold mn; split <;> lia
   .exact c.lo v v0 v1
  .rw[gp _ v v0];split;.unfold mn; split <;> lia
   .exact c.hi v v0 v1
  .rw[gp _ v v0] at hv ⊢;by_cases ev:v=q.2.1
   .rw[MU ev] at hv ⊢;rw[ev];unfold mn at hv ⊢;split
    .rename_i l;rw[MU l] at hv;obtain⟨ps,p1,p2⟩:=c.ch q.1 a1 a2 Y;show⟨i::ps,.cons hi ⟨Y,e⟩ p1,?_⟩;rw[Nk,<-p2];rfl
    .rename_i l;rw[MP l] at hv;exact c.ch _ b0 a4 hv
   .rw[MP ev] at hv ⊢;exact c.ch v v0 v1 hv
  .rw[gp _ v v0];split;.rename_i ev; rw[ev]; unfold mn; split <;> lia
   .exact Np _
  .rw[gp _ _ b0,MU rfl];unfold mn; split <;> lia
theorem Lf.run (w:Q9 n rs L): ∀(us:List ao) (lv:List Int),(∀q∈us,q∈rs)->Lf n rs L m lv->Lf n rs L m (us.foldl (Q7 L) lv)/\Le n (g (us.foldl (Q7 L) lv)) (g lv)/\ ∀q∈us,0<=q.2.1->g L q.1=g L q.2.1+q.2.2->g (us.foldl (Q7 L) lv) q.2.1<=g lv q.1+1
 | [],lv,_,c=>⟨c,λ_ _ _=>Np _,λq hq=>by cases hq⟩
 | r::us,lv,h,c=>by
  obtain⟨i,hi,ei⟩:=N0.mp (h r M7);have hi':rs[i]?=some r:=by rw[MQ hi,ei]
  obtain⟨c1,l1,s1⟩:=c.step w hi';obtain⟨c2,l2,s2⟩:=Lf.run w us _ (λq hq=>h q (M4 _ hq)) c1;show⟨c2,λv v0 v1=>NA (l2 v v0 v1) (l1 v v0 v1),λq hq b0 e=>?_⟩;obtain⟨a1,a2,a3,a4,a5⟩:=w.k _ (h q hq);rcases M3.mp hq with rfl | hq
  .exact NA (l2 _ b0 a4) (s1 b0 e)
  .have:=s2 q hq b0 e;have:=l1 q.1 a1 a2;change g (us.foldl (Q7 L) (Q7 L lv r)) q.2.1<=_;lia
theorem xJ (m0:0<=m) (m1:m < n):Lf n rs L m (put (List.replicate n 99) m 0)/\g (put (List.replicate n 99) m 0) m=0:=by
 have gr: ∀v:Int,0<=v->v < n->g (List.replicate n 99) v=99:=λv v0 v1=>by
  unfold g;rw[MX,Pu,MU Y];rfl
 have gp: ∀j:Int,0<=j->g (MA.put (List.replicate n 99) m 0) j=if j=m then 0 else g (List.replicate n 99) j:=λj hj=>ff m0 (by rw[NX]; exact m1) hj;show⟨⟨gq.trans (NX ..),λv v0 v1=>?_,λv v0 v1=>?_,λv v0 v1 h=>?_⟩,by rw[gp m m0,MU rfl]⟩;.rw[gp v v0,gr v v0 v1]; split <;> lia
 .rw[gp v v0,gr v v0 v1]; split <;> lia
 .rw[gp v v0,gr v v0 v1] at h ⊢;by_cases e:v=m
  .rw[MU e,e];exact⟨[],.nil,Z⟩
  .rw[MP e] at h;lia
theorem tN (w:Q9 n rs L) (m0:0<=m) (m1:m < n): ∀k:Nat,Lf n rs L m (Rt L rs (put (List.replicate n 99) m 0) k)/\ ∀v ps,Tp rs L m v ps->ps.length<=k->g (Rt L rs (put (List.replicate n 99) m 0) k) v<=(ps.length:Int)
 | 0=>⟨(xJ m0 m1).1,λv ps h hl=>by
  have e:ps=[]:=N3 Y;subst e;rw[h.nil_eq];exact Int.le_of_eq (xJ (rs:=rs) (L:=L) m0 m1).2⟩
 | k+1=>by
  obtain⟨c,ih⟩:=tN w m0 m1 k;obtain⟨c2,l2,s2⟩:=c.run w rs _ (λ_ h=>h);show⟨c2,λv ps h hl=>?_⟩;cases h with
  | nil =>
   have h1:=ih m [] .nil (NN _);have h2:=l2 m m0 m1;change g (rs.foldl (Q7 L) _) m<=_;lia
  | @cons i q ps hi t h =>
   have hq:=MS hi;obtain⟨a1,a2,a3,a4,a5⟩:=w.k _ hq;have t1:=t.1;have h1:=s2 q hq Y t.2;have h2:=ih q.1 ps h (Nat.le_of_succ_le_succ hl);change g (rs.foldl (Q7 L) _) q.2.1<=_;rw[Nk];lia
def Q5 (n:Nat) (lv:List Int) (v:Int):Option Nat:=if 0<=v/\v < n/\g lv v < 99 then some (g lv v).toNat else none
theorem G4 (w:Q9 n rs L) (m0:0<=m) (m1:m < n) (n9:n<=90):iG rs L m (Q5 n (Rt L rs (put (List.replicate n 99) m 0) n)):=by
 obtain⟨c,h⟩:=tN w m0 m1 n;show⟨λv d e=>?_,λv ps t=>?_⟩
 .unfold Q5 at e;split at e
  .rename_i hv;cases e;obtain⟨ps,p1,p2⟩:=c.ch v hv.1 hv.2.1 hv.2.2;exact⟨ps,p1,Y⟩
  .cases e
 .obtain⟨qs,a,b,d⟩:=t.RF w m0 m1;obtain⟨v0,v1⟩:=a.Q1 w m0 m1;have:=h v qs a Y;have:=c.lo v v0 v1;unfold Q5;rw[MU ⟨v0,v1,Y⟩];exact⟨_,Z,Y⟩
theorem yT: ∀(ps qs:List Nat),ps.length=qs.length->ps=qs\/nG ps qs\/nG qs ps
 | [],[],_=> .inl rfl
 | p::ps,q::qs,h=>by
  by_cases e:p=q
  .subst e;rcases yT ps qs (Qw h) with z | z | z
   .exact .inl (by rw[z])
   .obtain⟨k,x,y,h1,h2,h3,h4⟩:=z;exact .inr (.inl ⟨k+1,x,y,h1,h2,h3,λj hj=>by
     cases j with
     | zero=>rfl
     | succ j=>exact h4 j Y⟩)
   .obtain⟨k,x,y,h1,h2,h3,h4⟩:=z;exact .inr (.inr ⟨k+1,x,y,h1,h2,h3,λj hj=>by
     cases j with
     | zero=>rfl
     | succ j=>exact h4 j Y⟩)
  .rcases Nat.lt_or_gt_of_ne e with z | z
   .exact .inr (.inl ⟨0,p,q,Z,Z,z,λj hj=>absurd hj (NP j)⟩)
   .exact .inr (.inr ⟨0,q,p,Z,Z,z,λj hj=>absurd hj (NP j)⟩)
theorem cV.one {ps qs:List Nat}(h1:cV rs L m ps) (h2:cV rs L m qs):ps=qs:=by
 rcases h1 with⟨z1,e1⟩ | ⟨z1,c1,s1,m1⟩
 .rcases h2 with⟨z2,e2⟩ | ⟨z2,_⟩
  .rw[e1,e2]
  .lia
 .rcases h2 with⟨z2,_⟩ | ⟨z2,c2,s2,m2⟩
  .lia
  .obtain⟨a1,b1⟩:=m1 qs c2 s2;obtain⟨a2,b2⟩:=m2 ps c1 s1;have el:ps.length=qs.length:=Y;rcases yT ps qs el with z | z | z
   .exact z
   .exact absurd z (b2 el)
   .exact absurd z (b1 el.symm)
def pf (rs:List ao) (lv:List Int) (fit:ao->Prop) (k:Nat) (s:Int):Prop:=(s= -1/\ ∀(j:Nat) (q:ao),j < k->rs[j]?=some q-> ¬fit q) \/
 ∃(i:Nat) (q:ao),s=(i:Nat)/\i < k/\rs[i]?=some q/\fit q/\(∀(j:Nat) (q':ao),j < k->rs[j]?=some q'->fit q'->g lv q.1<=g lv q'.1)/\ ∀(j:Nat) (q':ao),j < i->rs[j]?=some q'->fit q'->g lv q.1 < g lv q'.1
variable{fit:ao->Prop}
theorem pf.keep {k:Nat}{s:Int}{q:ao}(b:pf rs lv fit k s) (hk:rs[k]?=some q) (h: ¬fit q\/ ∃(i:Nat) (q':ao),s=(i:Nat)/\rs[i]?=some q'/\g lv q'.1<=g lv q.1):pf rs lv fit (k+1) s:=by
 rcases b with⟨e,b⟩ | ⟨i,q0,e,hi,hq,hf,h1,h2⟩
 .rcases h with h | ⟨i,q',e',_⟩
  .show .inl ⟨e,λj q' hj hq'=>?_⟩;by_cases z:j=k
   .rw[z,hk] at hq';cases hq';exact h
   .exact b j q' Y hq'
  .lia
 .show .inr ⟨i,q0,e,Y,hq,hf,λj q' hj hq' hf'=>?_,h2⟩;by_cases z:j=k
  .rw[z,hk] at hq';cases hq';rcases h with h | ⟨i',q'',e',hq'',hl⟩
   .exact absurd hf' h
   .have:i'=i:=Y;rw[this,hq] at hq'';cases hq'';exact hl
  .exact h1 j q' Y hq' hf'
theorem pf.take {k:Nat}{s:Int}{q:ao}(b:pf rs lv fit k s) (hk:rs[k]?=some q) (hf:fit q) (h:s < 0\/ ∃(i:Nat) (q':ao),s=(i:Nat)/\rs[i]?=some q'/\g lv q.1 < g lv q'.1):pf rs lv fit (k+1) (k:Nat):=by
 have lt: ∀(j:Nat) (q':ao),j < k->rs[j]?=some q'->fit q'->g lv q.1 < g lv q'.1:=λj q' hj hq' hf'=>by
  rcases b with⟨e,b⟩ | ⟨i,q0,e,hi,hq,hf0,h1,h2⟩
  .exact absurd hf' (b j q' hj hq')
  .rcases h with h | ⟨i',q'',e',hq'',hl⟩
   .lia
   .have:i'=i:=Y;rw[this,hq] at hq'';cases hq'';have:=h1 j q' hj hq' hf';lia
 show .inr ⟨k,q,Z,Oo k,hk,hf,λj q' hj hq' hf'=>?_,lt⟩;by_cases z:j=k
 .rw[z,hk] at hq';cases hq';exact Np _
 .exact Int.le_of_lt (lt j q' Y hq' hf')
theorem A7 (w:Q9 n rs L) (c:Lf n rs L m lv) (D:iG rs L m (Q5 n lv)) (fo:m9 n rs L) (m0:0<=m) (m1:m < n) (hz:0 < g L m){s:Int}(b:pf rs lv (λq=>g L q.1=q.2.2) rs.length s): ∃(i:Nat) (q:ao) (d:Nat),s=(i:Nat)/\rs[i]?=some q/\Q5 n lv q.1=some d/\ ∀ps,Gr rs L (Q5 n lv) m q.1 ps->cV rs L m (i::ps):=by
 obtain⟨_,h0 | ⟨qs,h1,h2⟩⟩:=fo m m0 m1;.lia
 obtain⟨j,q2,qs',rfl,a2,b2,t2⟩:=x6 w h1 h2;have jl:=(MW.mp a2).1;have val: ∀ {v:Int}{d:Nat},Q5 n lv v=some d->g lv v=d/\0<=v/\v < n/\g lv v < 99:=λ{v d} e=>by
  unfold Q5 at e;split at e
  .rename_i hv;cases e;have:=c.lo v hv.1 hv.2.1;exact⟨Y,hv⟩
  .cases e
 obtain⟨d2,e2,l2⟩:=D.lo _ _ t2;obtain⟨v2,_,_,u2⟩:=val e2;rcases b with⟨e,b⟩ | ⟨i,q,e,hi,hq,hf,b1,b3⟩
 .exact absurd b2.symm (b j q2 jl a2)
 have a:=w.k _ (MS hq);have le:=b1 j q2 jl a2 b2.symm;have lo:=c.lo q.1 a.1 a.2.1;have ed:Q5 n lv q.1=some (g lv q.1).toNat:=by unfold Q5; rw[MU ⟨a.1,a.2.1,Y⟩]
 show⟨i,q,_,e,hq,ed,λps hg=>um w D hz ⟨q,_,hq,hf.symm,ed,λj' q' d' hj' he' hd'=>?_,λj' q' hj' hq' he' hd'=>?_⟩ hq hg⟩
 .obtain⟨v',_⟩:=val hd';have:=b1 j' q' (MW.mp hj').1 hj' he'.symm;lia
 .obtain⟨v',_⟩:=val hd';have:=b3 j' q' hj' hq' he'.symm;lia
theorem CH (w:Q9 n rs L) (c:Lf n rs L m lv) (D:iG rs L m (Q5 n lv)) (m0:0<=m) (m1:m < n){v s:Int}{d:Nat}(hv:Q5 n lv v=some d) (hm:v≠m) (b:pf rs lv (λq=>q.2.1=v/\g L q.1=g L q.2.1+q.2.2) rs.length s): ∃(i:Nat) (q:ao) (d':Nat),s=(i:Nat)/\rs[i]?=some q/\d' < d/\Q5 n lv q.1=some d'/\ ∀ps,Gr rs L (Q5 n lv) m q.1 ps->Gr rs L (Q5 n lv) m v (i::ps):=by
 have val: ∀ {v:Int}{d:Nat},Q5 n lv v=some d->g lv v=d/\0<=v/\v < n/\g lv v < 99:=λ{v d} e=>by
  unfold Q5 at e;split at e
  .rename_i hv;cases e;have:=c.lo v hv.1 hv.2.1;exact⟨Y,hv⟩
  .cases e
 obtain⟨ev,v0,v1,v9⟩:=val hv;obtain⟨ps,t,el⟩:=D.ex _ _ hv;have low: ∀(q':ao) (j:Nat) (d':Nat),rs[j]?=some q'->q'.2.1=v->g L q'.1=g L q'.2.1+q'.2.2->Q5 n lv q'.1=some d'->d<=d'+1:=λq' j d' hj eb et e=>by
  obtain⟨qs,t',l'⟩:=D.ex _ _ e;have t2:Tp rs L m q'.2.1 (j::qs):= .cons hj ⟨Y,et⟩ t';rw[eb] at t2;obtain⟨d3,e3,l3⟩:=D.lo _ _ t2;rw[hv] at e3;cases e3;rw[Nk] at l3;lia
 cases t with
 | nil=>exact absurd rfl hm
 | @cons j q2 qs hj t2 h2 =>
  have jl:=(MW.mp hj).1;rw[Nk] at el;obtain⟨d2,e2,l2⟩:=D.lo _ _ h2;obtain⟨w2,_,_,u2⟩:=val e2;rcases b with⟨e,b⟩ | ⟨i,q,e,hi,hq,⟨hb,ht⟩,b1,b3⟩
  .exact absurd ⟨Z,t2.2⟩ (b j q2 jl hj)
  have a:=w.k _ (MS hq);have le:=b1 j q2 jl hj ⟨Z,t2.2⟩;have lo:=c.lo q.1 a.1 a.2.1;have ed:Q5 n lv q.1=some (g lv q.1).toNat:=by unfold Q5; rw[MU ⟨a.1,a.2.1,Y⟩]
  have lw:=low q i _ hq hb ht ed;show⟨i,q,_,e,hq,Y,ed,λps hg=> .cons ⟨q,(g lv q.1).toNat,hq,hb,⟨Y,ht⟩,?_,ed,λj' q' hj' hq' he' ht' hd'=>?_⟩ hq hg⟩
  .rw[hv];congr 1;lia
  .obtain⟨v',_⟩:=val hd';have:=b3 j' q' hj' hq' ⟨he',ht'.2⟩;lia
end MA
namespace L2
open PySem PySem.Spec PyProof.Rows
inductive E7 (x:V) (vs:List V) (H:Hp) (Q:VK):Prop | mk (l:Addr) (xs:List Str) (y:Str) (j:Nat) (e0:x= .ref l) (e1:vs=[.str y]) (e2:H l=some (.lst (xs.map V.str))) (e3:xs[j]?=some y) (e4:(∀m,m < j->xs[m]?≠some y)) (q:Q (.int (j:Nat)) H)
def HC:V->List V->Hp->VK->Prop:=λx vs H Q=>E7 x vs H Q
theorem kL {X:Cx}:Sf X "list.index" HC:=by
 intro QE s O H x vs v us Q I rx rv h;obtain⟨l,xs,y,j,rfl,rfl,hH,hj,hno,q⟩:=h;cases rx;obtain⟨u,rfl,t,rfl⟩:=rv.one;obtain⟨z,its,n,r,hl,e⟩:=I.oB hH;have hlen:its.length=xs.length:=by rw[<-hl,MO]
 have val: ∀m (hm:m < its.toArray.size),∃k t,xs[m]?=some k/\its.toArray[m]=Value.str k t:=λm hm=>by
  have hm':m < xs.length:=by simpa [hlen] using hm
  obtain⟨u,hu,t,rfl⟩:=r.get (i:=m) (x:= .str xs[m]) (by rw[M5,MQ hm']; rfl);show⟨xs[m],t,MQ hm',?_⟩;have:=(MW.mp hu).2;simpa using this
 have hjl:j < xs.length:=(MW.mp hj).1
 let eq:Value->Bool:=λw=>match w with | .str k _=>k == y | _=>false
 have he: ∀w,w∈its.toArray->MeetsSeq.EqGives w (.str y t) (eq w):=λw hw=>by
  obtain⟨m,hm,rfl⟩:=Array.mem_iff_getElem.mp hw;obtain⟨k,t',_,e2⟩:=val m hm;rw[e2];exact λprog w A E s Q h=>SeqAt.EqAt.str_str k t' y t prog w E Q h
 have hjs:j < its.toArray.size:=by rw[Nb,hlen]; exact hjl
 show O7 F.slot_list_index ⟨_,e,Z⟩ F.entry_list_index (F.args_list_index_2 _ _) (MeetsSeq.list_index l its.toArray n (.str y t) eq he j hjs ?_ ?_ ?_) ⟨e,?_⟩
 .rw[hl] at z;have:its.length<=sizeLine:=Y;have h2:sizeLine < 2 ^ 62:=by decide
  lia
 .obtain⟨k,t',e1,e2⟩:=val j hjs;rw[e2];rw[hj] at e1;cases e1;simp[eq]
 .intro m hm hmj;obtain⟨k,t',e1,e2⟩:=val m hm;rw[e2];have:k≠y:=λz=>hno m hmj (z▸e1);simpa [eq] using this
 .exact⟨.int (j:Nat),H,I.tok _,⟨_,Z⟩,q⟩
inductive F2 {α β:Type} (R:α->β->Prop):List α->List β->Prop
 | nil:F2 R [] []
 | cons {a b as bs}:R a b->F2 R as bs->F2 R (a::as) (b::bs)
namespace F2
variable {α β:Type}{R S:α->β->Prop}{as as':List α}{bs bs':List β}
theorem length (h:F2 R as bs):as.length=bs.length:=by induction h with
 | nil=>rfl
 | cons _ _ ih=>rw[Nk,Nk,ih]
theorem get (h:F2 R as bs): ∀ {i:Nat}{a:α},as[i]?=some a-> ∃b,bs[i]?=some b/\R a b:=by
 induction h with
 | nil=>intro i a e; cases e
 | @cons a0 b0 _ _ r _ ih =>
  intro i a e;cases i with
  | zero=>cases e; exact⟨_,Z,r⟩
  | succ i=>exact ih e
theorem at' (h:F2 R as bs): ∀ {i:Nat}{b:β},bs[i]?=some b-> ∃a,as[i]?=some a/\R a b:=by
 induction h with
 | nil=>intro i a e; cases e
 | @cons a0 b0 _ _ r _ ih =>
  intro i a e;cases i with
  | zero=>cases e; exact⟨_,Z,r⟩
  | succ i=>exact ih e
theorem append (h:F2 R as bs) (h':F2 R as' bs'):F2 R (as++as') (bs++bs'):=by
 induction h with
 | nil=>exact h'
 | cons r _ ih=>exact .cons r ih
theorem take (h:F2 R as bs): ∀k,F2 R (as.take k) (bs.take k):=by
 induction h with
 | nil=>intro k; rw[PL,PL]; exact .nil
 | cons r _ ih =>
  intro k;cases k with
  | zero=>exact .nil
  | succ k=>exact .cons r (ih k)
theorem drop (h:F2 R as bs): ∀k,F2 R (as.drop k) (bs.drop k):=by
 induction h with
 | nil=>intro k; rw[Qq,Qq]; exact .nil
 | cons r hh ih =>
  intro k;cases k with
  | zero=>exact .cons r hh
  | succ k=>exact ih k
theorem imp (h:F2 R as bs) (f: ∀a b,R a b->S a b):F2 S as bs:=by
 induction h with
 | nil=>exact .nil
 | cons r _ ih=>exact .cons (f _ _ r) ih
theorem mem (h:F2 R as bs): ∀ {a:α},a∈as-> ∃b∈bs,R a b:=by
 induction h with
 | nil=>intro a e; cases e
 | cons r _ ih =>
  intro a e;rcases M3.mp e with rfl | e
  .exact⟨_,M7,r⟩
  .obtain⟨b,hb,hr⟩:=ih e;exact⟨b,M4 _ hb,hr⟩
end F2
abbrev Mem:=Str×Option Int
abbrev QQ:=Str×Str×Option Str×Int
structure QM where
 ms:List Mem
 ds:List QQ
 ks:List (List Mem×List QQ)
def xv:Option Str->V
 | none=> .non
 | some s=> .str s
def gB (d:QQ):List V:=[.str d.1,.str d.2.1,xv d.2.2.1,.int d.2.2.2]
def vx (m:Mem):List V:=[.str m.1,dA m.2]
def Bc (is:List Addr) (H:Hp) (v:V) (m:Mem):Prop:= ∃t,v= .ref t/\t∈is/\H t=some (.tup (vx m))
def BF (is:List Addr) (H:Hp) (v:V) (d:QQ):Prop:= ∃t,v= .ref t/\t∈is/\H t=some (.tup (gB d))
def MR (is:List Addr) (H:Hp) (p:Addr) (ms:List Mem):Prop:=p∈is/\ ∃xs,H p=some (.lst xs)/\F2 (Bc is H) xs ms
def DR (is:List Addr) (H:Hp) (p:Addr) (ds:List QQ):Prop:=p∈is/\ ∃xs,H p=some (.lst xs)/\F2 (BF is H) xs ds
def wZ (is:List Addr) (H:Hp) (v:V) (k:List Mem×List QQ):Prop:= ∃t p q,v= .ref t/\t∈is/\H t=some (.tup [.ref p,.ref q])/\MR is H p k.1/\DR is H q k.2
section
variable {is is':List Addr}{H H':Hp}{p q:Addr}{ms:List Mem}{ds:List QQ}{v:V}
theorem Bc.mono {m:Mem}(h:Bc is H v m) (si: ∀b∈is,b∈is') (sh: ∀b o,b∈is->H b=some o->H' b=some o):Bc is' H' v m:=by
 obtain⟨t,e,a,b⟩:=h;exact⟨t,e,si _ a,sh _ _ a b⟩
theorem BF.mono {m:QQ}(h:BF is H v m) (si: ∀b∈is,b∈is') (sh: ∀b o,b∈is->H b=some o->H' b=some o):BF is' H' v m:=by
 obtain⟨t,e,a,b⟩:=h;exact⟨t,e,si _ a,sh _ _ a b⟩
theorem MR.mono (h:MR is H p ms) (si: ∀b∈is,b∈is') (sh: ∀b o,b∈is->H b=some o->H' b=some o):MR is' H' p ms:=by
 obtain⟨a,xs,b,c⟩:=h;exact⟨si _ a,xs,sh _ _ a b,c.imp λ_ _ r=>r.mono si sh⟩
theorem DR.mono (h:DR is H p ds) (si: ∀b∈is,b∈is') (sh: ∀b o,b∈is->H b=some o->H' b=some o):DR is' H' p ds:=by
 obtain⟨a,xs,b,c⟩:=h;exact⟨si _ a,xs,sh _ _ a b,c.imp λ_ _ r=>r.mono si sh⟩
theorem wZ.mono {k:List Mem×List QQ}(h:wZ is H v k) (si: ∀b∈is,b∈is') (sh: ∀b o,b∈is->H b=some o->H' b=some o):wZ is' H' v k:=by
 obtain⟨t,p,q,e,a,b,c,d⟩:=h;exact⟨t,p,q,e,si _ a,sh _ _ a b,c.mono si sh,d.mono si sh⟩
end
abbrev nF (p q r:Addr):List (Str×V):=[("member_rows",.ref p),("demand_rows",.ref q),("kept_deeds",.ref r)]
structure QZ (C:Addr) (H:Hp) (h dx p q r:Addr) (is:List Addr) (kv:List V) (S:QM):Prop where
 n1:dx≠h
 n2:r≠h
 n3:r≠dx
 nh:h∉is
 nd:dx∉is
 nr:r∉is
 ih:H h=some (.ins C dx (nF p q r))
 id:H dx=some (.own h)
 ir:H r=some (.lst kv)
 ks:F2 (wZ is H) kv S.ks
 ms:MR is H p S.ms
 ds:DR is H q S.ds
 al: ∀b∈is,∃o,H b=some o
def HI (C:Addr) (H:Hp) (h:Addr) (os:List Addr) (S:QM):Prop:= ∃dx p q r is kv,os=h::dx::r::is/\QZ C H h dx p q r is kv S
def pG (os:List Addr) (H H':Hp):Prop:= ∀b o,b∉os->H b=some o->H' b=some o
def eV (C:Addr) (H:Hp) (h:Addr) (os:List Addr) (S:QM) (H':Hp):Prop:=pG os H H'/\ ∃os',HI C H' h os' S/\ ∀b∈os',b∈os\/H b=none
section
variable {C h dx p q r:Addr}{H H':Hp}{is os:List Addr}{kv:List V}{S:QM}
theorem QZ.sh (I:QZ C H h dx p q r is kv S){b:Addr}(hb:b∈is):b≠h/\b≠dx/\b≠r:=⟨λz=>I.nh (z▸hb),λz=>I.nd (z▸hb),λz=>I.nr (z▸hb)⟩
theorem QZ.z3 (I:QZ C H h dx p q r is kv S) (s: ∀b o,b∈h::dx::r::is->H b=some o->H' b=some o):QZ C H' h dx p q r is kv S:=by
 have si: ∀b o,b∈is->H b=some o->H' b=some o:=λb o hb e=>s b o (by simp[hb]) e;exact⟨I.n1,I.n2,I.n3,I.nh,I.nd,I.nr,s _ _ (by simp) I.ih,s _ _ (by simp) I.id,s _ _ (by simp) I.ir,I.ks.imp λ_ _ z=>z.mono (λ_ z=>z) si,I.ms.mono (λ_ z=>z) si,I.ds.mono (λ_ z=>z) si,λb hb=>by
  obtain⟨o,e⟩:=I.al b hb;exact⟨o,si b o hb e⟩⟩
theorem QZ.same (I:QZ C H h dx p q r is kv S) (s:ag H H'):QZ C H' h dx p q r is kv S:=I.z3 λb o _ e=>s b o e
theorem HI.grow (i:HI C H h os S) (s: ∀b o,b∈os->H b=some o->H' b=some o):HI C H' h os S:=by
 obtain⟨dx,p,q,r,is,kv,rfl,I⟩:=i;exact⟨dx,p,q,r,is,kv,Z,I.z3 s⟩
theorem HI.has (i:HI C H h os S): ∀b∈os,∃o,H b=some o:=by
 obtain⟨dx,p,q,r,is,kv,rfl,I⟩:=i;intro b hb;rcases M3.mp hb with rfl | hb
 .exact⟨_,I.ih⟩
 rcases M3.mp hb with rfl | hb
 .exact⟨_,I.id⟩
 rcases M3.mp hb with rfl | hb
 .exact⟨_,I.ir⟩
 .exact I.al b hb
theorem QZ.keep {t:Addr}(I:QZ C H h dx p q r is kv S) (nt:H t=none):QZ C (upd (upd H t (.tup [.ref p,.ref q])) r (.lst (kv++[.ref t]))) h dx p q r (t::is) (kv++[.ref t]) ⟨S.ms,S.ds,S.ks++[(S.ms,S.ds)]⟩:=by
 have th:h≠t:=av I.ih nt;have td:dx≠t:=av I.id nt;have tr:r≠t:=av I.ir nt;have si: ∀b o,b∈is->H b=some o->(upd (upd H t (.tup [.ref p,.ref q])) r (.lst (kv++[.ref t]))) b=some o:=λb o hb e=>(ah (I.sh hb).2.2).trans ((ah (av e nt)).trans e);have su: ∀b∈is,b∈t::is:=λb hb=>M4 _ hb;have ht:(upd (upd H t (.tup [.ref p,.ref q])) r (.lst (kv++[.ref t]))) t=some (.tup [.ref p,.ref q]):=(ah (Nu tr)).trans aa;show⟨I.n1,I.n2,I.n3,?_,?_,?_,?_,?_,aa,?_,I.ms.mono su si,I.ds.mono su si,λb hb=>?_⟩
 .intro z; rcases M3.mp z with z | z
  .exact th z
  .exact I.nh z
 .intro z; rcases M3.mp z with z | z
  .exact td z
  .exact I.nd z
 .intro z; rcases M3.mp z with z | z
  .exact tr z
  .exact I.nr z
 .exact (ah (Nu I.n2)).trans ((ah th).trans I.ih)
 .exact (ah (Nu I.n3)).trans ((ah td).trans I.id)
 .show (I.ks.imp λ_ _ z=>z.mono su si).append (.cons ⟨t,p,q,Z,M7,ht,I.ms.mono su si,I.ds.mono su si⟩ .nil)
 .rcases M3.mp hb with rfl | hb
  .exact⟨_,ht⟩
  .obtain⟨o,e⟩:=I.al b hb;exact⟨o,si b o hb e⟩
theorem QZ.put {p' q':Addr}{is':List Addr}{ms':List Mem}{ds':List QQ}(I:QZ C H h dx p q r is kv S) (su: ∀b∈is,b∈is') (new: ∀b∈is',b≠h/\b≠dx/\b≠r) (al: ∀b∈is',∃o,H b=some o) (m:MR is' H p' ms') (d:DR is' H q' ds') :
  QZ C (upd H h (.ins C dx (nF p' q' r))) h dx p' q' r is' kv ⟨ms',ds',S.ks⟩:=by
 have si: ∀b o,b∈is'->H b=some o->(upd H h (.ins C dx (nF p' q' r))) b=some o:=λb o hb e=>(ah (new b hb).1).trans e;show⟨I.n1,I.n2,I.n3,λz=>(new _ z).1 rfl,λz=>(new _ z).2.1 rfl,λz=>(new _ z).2.2 rfl,aa,(ah I.n1).trans I.id,(ah I.n2).trans I.ir,?_,m.mono (λ_ z=>z) si,d.mono (λ_ z=>z) si,λb hb=>?_⟩;.exact I.ks.imp λ_ _ z=>z.mono su λb o hb e=>si b o (su b hb) e
 .obtain⟨o,e⟩:=al b hb;exact⟨o,si b o hb e⟩
theorem QZ.next (I:QZ C H h dx p q r is kv S){H':Hp}{p' q':Addr}{is':List Addr}{kv':List V}{S':QM}(I':QZ C H' h dx p' q' r is' kv' S') (so: ∀b o,b≠h->b≠r->H b=some o->H' b=some o) (new: ∀b∈is',b∈is\/H b=none):eV C H h (h::dx::r::is) S' H':=by
 show⟨λb o hb e=>so b o (λz=>hb (by simp[z])) (λz=>hb (by simp[z])) e,_,⟨dx,p',q',r,is',kv',Z,I'⟩,λb hb=>?_⟩;simp only[M3] at hb ⊢;rcases hb with rfl | rfl | rfl | hb
 .exact .inl (.inl rfl)
 .exact .inl (.inr (.inl rfl))
 .exact .inl (.inr (.inr (.inl rfl)))
 .rcases new b hb with z | z
  .exact .inl (.inr (.inr (.inr z)))
  .exact .inr z
end
def refs (xs:List V):List Addr:=xs.filterMap λv=>match v with
 | .ref t=>some t
 | _=>none
theorem yz {xs:List V}{t:Addr}:t∈refs xs↔V.ref t∈xs:=by
 unfold refs;rw[O4];constructor
 .rintro⟨v,hv,e⟩;cases v <;> simp at e;subst e;exact hv
 .exact λh=>⟨_,h,Z⟩
section
variable {C h dx p q r:Addr}{H:Hp}{is:List Addr}{kv:List V}{S:QM}
def tj {α:Type}(f:α->List V) (is:List Addr) (H3 H4:Hp) (v:V) (m:α):Prop:= ∃t,v= .ref t/\(t∈is\/H3 t=none)/\H4 t=some (.tup (f m))
theorem QZ.rows {α:Type}{f:α->List V}(I:QZ C H h dx p q r is kv S){H4:Hp}(s4: ∀b o,b∈is->H b=some o->H4 b=some o){p':Addr}(np:H p'=none){xs:List V}(hp:H4 p'=some (.lst xs)){ms:List α}(hx:F2 (tj f is H H4) xs ms) :
  (∀b∈p'::(refs xs++is),b≠h/\b≠dx/\b≠r)/\(∀b∈p'::(refs xs++is),∃o,H4 b=some o)/\(∀b∈p'::(refs xs++is),b∈is\/H b=none)/\F2 (λv m=> ∃t,v= .ref t/\t∈p'::(refs xs++is)/\H4 t=some (.tup (f m))) xs ms:=by
 have fr: ∀b,H b=none->b≠h/\b≠dx/\b≠r:=λb e=>⟨λz=>(by rw[z,I.ih] at e; cases e),λz=>(by rw[z,I.id] at e; cases e),λz=>(by rw[z,I.ir] at e; cases e)⟩
 have key: ∀b∈p'::(refs xs++is),(b∈is\/H b=none)/\ ∃o,H4 b=some o:=λb hb=>by
  rcases M3.mp hb with rfl | hb
  .exact⟨.inr np,_,hp⟩
  rcases M8.mp hb with hb | hb
  .obtain⟨m,_,t,e,ht,hh⟩:=hx.mem (yz.mp hb);cases e;exact⟨ht,_,hh⟩
  .obtain⟨o,e⟩:=I.al b hb;exact⟨.inl hb,o,s4 _ _ hb e⟩
 show⟨λb hb=>?_,λb hb=>(key b hb).2,λb hb=>(key b hb).1,?_⟩
 .rcases (key b hb).1 with z | z
  .exact I.sh z
  .exact fr b z
 .have: ∀ {ys:List V}{zs:List α},F2 (tj f is H H4) ys zs->(∀v∈ys,v∈xs)->F2 (λv m=> ∃t,v= .ref t/\t∈p'::(refs xs++is)/\H4 t=some (.tup (f m))) ys zs:=by
   intro ys zs hy;induction hy with
   | nil=>exact λ_=> .nil
   | @cons v m _ _ r _ ih =>
    intro sub;obtain⟨t,rfl,_,hh⟩:=r;exact .cons ⟨t,Z,M4 _ (NO _ (yz.mpr (sub _ M7))),hh⟩ (ih λv hv=>sub v (M4 _ hv))
  exact this hx λ_ z=>z
theorem QZ.Gk (I:QZ C H h dx p q r is kv S){H2:Hp}(s2:ag H H2){t:Addr}(nt:H2 t=none){H4:Hp}(s4:ag (upd (upd H2 t (.tup [.ref p,.ref q])) r (.lst (kv++[.ref t]))) H4){p':Addr}(np:H p'=none){xs:List V}(hp:H4 p'=some (.lst xs)){ms:List Mem}
  (hx:F2 (tj vx is H H4) xs ms):eV C H h (h::dx::r::is) ⟨ms,S.ds,S.ks++[(S.ms,S.ds)]⟩ (upd H4 h (.ins C dx (nF p' q r))):=by
 ext:11;have lift: ∀b∈p'::(refs xs++(t::is)),b=t\/b∈p'::(refs xs++is):=λb hb=>by
  simp only[M3,M8] at hb ⊢;rcases hb with z | z | z | z
  .exact .inr (.inl z)
  .exact .inr (.inr (.inl z))
  .exact .inl z
  .exact .inr (.inr (.inr z))
 have a1': ∀b∈p'::(refs xs++(t::is)),b≠h/\b≠dx/\b≠r:=λb hb=>by
  rcases lift b hb with z | z
  .rw[z]; exact⟨(av I.ih nt0).symm,(av I.id nt0).symm,(av I.ir nt0).symm⟩
  .exact a1 b z
 have a2': ∀b∈p'::(refs xs++(t::is)),∃o,H4 b=some o:=λb hb=>by
  rcases lift b hb with z | z
  .rw[z]; obtain⟨o,e⟩:=I3.al t M7; exact⟨o,s4 _ _ e⟩
  .exact a2 b z
 have sub: ∀b∈p'::(refs xs++is),b∈p'::(refs xs++(t::is)):=λb hb=>by
  simp only[M3,M8] at hb ⊢;rcases hb with z | z | z
  .exact .inl z
  .exact .inr (.inl z)
  .exact .inr (.inr (.inr z))
 have a4':=a4.imp (S:=λv m=> ∃t',v=V.ref t'/\t'∈p'::(refs xs++(t::is))/\H4 t'=some (.tup (vx m))) λv m ⟨b,e,z,w⟩=>⟨b,e,sub b z,w⟩
 have su3: ∀b∈t::is,b∈p'::(refs xs++(t::is)):=λb hb=>M4 _ (Nn _ hb);have su:=su3;have I5:=(I3.same s4).put (p':=p') (q':=q) (ms':=ms) (ds':=S.ds) su a1' a2' ⟨M7,xs,hp,a4'⟩ ((I3.same s4).ds.mono su3 λ_ _ _ e=>e);show I.next I5 (λb o n1 n2 e=>(ah n1).trans (s4 _ _ (s3 b o n2 e))) λb hb=>?_
 rcases lift b hb with z | z
 .rw[z]; exact .inr nt0
 .exact a3 b z
theorem QZ.F4 (I:QZ C H h dx p q r is kv S){H2:Hp}(s2:ag H H2){t:Addr}(nt:H2 t=none){H4:Hp}(s4:ag (upd (upd H2 t (.tup [.ref p,.ref q])) r (.lst (kv++[.ref t]))) H4){q':Addr}(np:H q'=none){xs:List V}(hp:H4 q'=some (.lst xs)){ds:List QQ}
  (hx:F2 (tj gB is H H4) xs ds):eV C H h (h::dx::r::is) ⟨S.ms,ds,S.ks++[(S.ms,S.ds)]⟩ (upd H4 h (.ins C dx (nF p q' r))):=by
 ext:11;have lift: ∀b∈q'::(refs xs++(t::is)),b=t\/b∈q'::(refs xs++is):=λb hb=>by
  simp only[M3,M8] at hb ⊢;rcases hb with z | z | z | z
  .exact .inr (.inl z)
  .exact .inr (.inr (.inl z))
  .exact .inl z
  .exact .inr (.inr (.inr z))
 have a1': ∀b∈q'::(refs xs++(t::is)),b≠h/\b≠dx/\b≠r:=λb hb=>by
  rcases lift b hb with z | z
  .rw[z]; exact⟨(av I.ih nt0).symm,(av I.id nt0).symm,(av I.ir nt0).symm⟩
  .exact a1 b z
 have a2': ∀b∈q'::(refs xs++(t::is)),∃o,H4 b=some o:=λb hb=>by
  rcases lift b hb with z | z
  .rw[z]; obtain⟨o,e⟩:=I3.al t M7; exact⟨o,s4 _ _ e⟩
  .exact a2 b z
 have sub: ∀b∈q'::(refs xs++is),b∈q'::(refs xs++(t::is)):=λb hb=>by
  simp only[M3,M8] at hb ⊢;rcases hb with z | z | z
  .exact .inl z
  .exact .inr (.inl z)
  .exact .inr (.inr (.inr z))
 have a4':=a4.imp (S:=λv m=> ∃t',v=V.ref t'/\t'∈q'::(refs xs++(t::is))/\H4 t'=some (.tup (gB m))) λv m ⟨b,e,z,w⟩=>⟨b,e,sub b z,w⟩
 have su3: ∀b∈t::is,b∈q'::(refs xs++(t::is)):=λb hb=>M4 _ (Nn _ hb);have su:=su3;have I5:=(I3.same s4).put (p':=p) (q':=q') (ms':=S.ms) (ds':=ds) su a1' a2' ((I3.same s4).ms.mono su3 λ_ _ _ e=>e) ⟨M7,xs,hp,a4'⟩;show I.next I5 (λb o n1 n2 e=>(ah n1).trans (s4 _ _ (s3 b o n2 e))) λb hb=>?_
 rcases lift b hb with z | z
 .rw[z]; exact .inr nt0
 .exact a3 b z
theorem QZ.back (I:QZ C H h dx p q r is kv S){ks:List (List Mem×List QQ)}{k:List Mem×List QQ}(e:S.ks=ks++[k]): ∃kv' t p' q',kv=kv'++[.ref t]/\H t=some (.tup [.ref p',.ref q'])/\t≠r/\t≠h /\
  eV C H h (h::dx::r::is) ⟨k.1,k.2,ks⟩ (upd (upd H r (.lst kv')) h (.ins C dx (nF p' q' r))):=by
 have hk:=I.ks;rw[e] at hk;have hl:=hk.length;rw[M0,Pd] at hl;obtain⟨v,hv,t,p',q',rfl,ti,ht,hm,hd⟩:=hk.at' (i:=ks.length) (b:=k) (by simp);have ekv:kv=kv.take ks.length++[.ref t]:=by
  have h1:kv.drop ks.length=[.ref t]:=by
   rw[List.drop_eq_getElem_cons Y,List.drop_eq_nil_of_le Y];have:=(MW.mp hv).2;rw[this]
  rw[<-h1,List.take_append_drop]
 have hk2:=hk.take ks.length;rw[Qa (MZ _),NC] at hk2;have si: ∀b o,b∈is->H b=some o->(upd H r (.lst (kv.take ks.length))) b=some o:=λb o hb e=>(ah (I.sh hb).2.2).trans e;have I2:QZ C (upd H r (.lst (kv.take ks.length))) h dx p q r is (kv.take ks.length) ⟨S.ms,S.ds,ks⟩ :=
  ⟨I.n1,I.n2,I.n3,I.nh,I.nd,I.nr,(ah (Nu I.n2)).trans I.ih,(ah (Nu I.n3)).trans I.id,aa,hk2.imp λ_ _ z=>z.mono (λ_ z=>z) si,I.ms.mono (λ_ z=>z) si,I.ds.mono (λ_ z=>z) si,λb hb=>by
   obtain⟨o,e⟩:=I.al b hb;exact⟨o,si b o hb e⟩⟩
 show⟨kv.take ks.length,t,p',q',ekv,ht,(I.sh ti).2.2,(I.sh ti).1,?_⟩;have I3:=I2.put (p':=p') (q':=q') (is':=is) (λ_ z=>z) (λb hb=>I.sh hb) I2.al (hm.mono (λ_ z=>z) si) (hd.mono (λ_ z=>z) si);exact I.next I3 (λb o n1 n2 e=>(ah n1).trans ((ah n2).trans e)) λb hb=> .inl hb
end
variable{H:Hp}
theorem uG {p q r:Addr}{H2:Hp}{kv:List V}(s2:ag H H2){t b:Addr}(nt:H2 t=none) (e:(upd (upd H2 t (.tup [.ref p,.ref q])) r (.lst (kv++[.ref t]))) b=none):H b=none:=by
 cases eb:H b with
 | none=>rfl
 | some o =>
  by_cases n:b=r;.rw[n,aa] at e; cases e
  .rw[ah n,ah (av (s2 _ _ eb) nt),s2 _ _ eb] at e; cases e
def aD (S:QM):List Str:=S.ms.map (·.1)
def aV (S:QM):List Str:=S.ds.map (·.1)
inductive eJ
 | member (y:Str) | plain (y m:Str) (p e o:Int) | link (y m b:Str) (mo:Int) | top (m:Str) (wd:Int) | back | sM (m:Str) | sD (y:Str) | sT (m:Str)
def MC:eJ->List V
 | .member y=>[.str "member",.str y]
 | .plain y m p e o=>[.str "plain",.str y,.str m,.int p,.int e,.int o]
 | .link y m b mo=>[.str "link",.str y,.str m,.str b,.int mo]
 | .top m wd=>[.str "top",.str m,.int wd]
 | .back=>[.str "back"]
 | .sM m=>[.str "strike",.str "member",.str m]
 | .sD y=>[.str "strike",.str "demand",.str y]
 | .sT m=>[.str "strike",.str "top",.str m]
def eC (p e o:Int):Int:=(p*e+o - 1) / o
def Rb (p e o:Int):Prop:=0<=p/\p<=999/\1<=e/\e<=999/\1<=o/\o<=999
def SR:eJ->Prop
 | .member y=>Nm y
 | .plain y m p e o=>Nm y/\Nm m/\Rb p e o
 | .link y m b mo=>Nm y/\Nm m/\Nm b/\0<=mo/\mo<=99
 | .top m wd=>Nm m/\0<=wd/\wd<=99999
 | .back=>True
 | .sM m=>Nm m
 | .sD y=>Nm y
 | .sT m=>Nm m
inductive Due
 | ok | unknown | inUse | tooMuch | full | nothing
deriving DecidableEq
def bw (ms:List Mem) (m:Str):Option Int:=match ms.find? (λx=>x.1 == m) with
 | some x=>x.2
 | none=>none
def AF (y:Str) (ds:List QQ):Bool:=ds.any λd=>decide (d.2.1=y) || decide (d.2.2.1=some y)
def jT (S:QM):eJ->Due
 | .member y=>if y∈aD S then .inUse else if 12<=S.ms.length then .full else .ok
 | .plain y m p e o=>if m∉aD S then .unknown else if y∈aV S then .inUse else if 99999 < eC p e o then .tooMuch else if 24<=S.ds.length then .full else .ok
 | .link y m b _=>if m∉aD S\/b∉aD S then .unknown else if y∈aV S then .inUse else if 24<=S.ds.length then .full else .ok
 | .top m _=>if m∉aD S then .unknown else if bw S.ms m≠none then .inUse else .ok
 | .back=>if S.ks=[] then .nothing else .ok
 | .sM m=>if m∉aD S then .unknown else if AF m S.ds=true then .inUse else .ok
 | .sD y=>if y∉aV S then .unknown else .ok
 | .sT m=>if bw S.ms m=none then .unknown else .ok
def eD (ms:List Mem) (m:Str) (o:Option Int):List Mem:=ms.map λx=>if x.1=m then (m,o) else x
def cf (S:QM):eJ->QM
 | .member y=>⟨S.ms++[(y,none)],S.ds,S.ks++[(S.ms,S.ds)]⟩
 | .plain y m p e o=>⟨S.ms,S.ds++[(y,m,none,eC p e o)],S.ks++[(S.ms,S.ds)]⟩
 | .link y m b mo=>⟨S.ms,S.ds++[(y,m,some b,mo)],S.ks++[(S.ms,S.ds)]⟩
 | .top m wd=>⟨eD S.ms m (some wd),S.ds,S.ks++[(S.ms,S.ds)]⟩
 | .back=>match S.ks.getLast? with
  | some k=>⟨k.1,k.2,S.ks.dropLast⟩
  | none=>S
 | .sM m=>⟨S.ms.filter λx=>decide (x.1≠m),S.ds,S.ks++[(S.ms,S.ds)]⟩
 | .sD y=>⟨S.ms,S.ds.filter λx=>decide (x.1≠y),S.ks++[(S.ms,S.ds)]⟩
 | .sT m=>⟨eD S.ms m none,S.ds,S.ks++[(S.ms,S.ds)]⟩
structure Ro (ms:List Mem) (ds:List QQ):Prop where
 ml:ms.length<=12
 dl:ds.length<=24
 mn:(ms.map (·.1)).Nodup
 dn:(ds.map (·.1)).Nodup
 mN: ∀y∈ms.map (·.1),Nm y
 dN: ∀y∈ds.map (·.1),Nm y
structure Gd (S:QM):Prop where
 now:Ro S.ms S.ds
 ks: ∀k∈S.ks,Ro k.1 k.2
 bot:(S.ks=[]->S.ms=[]/\S.ds=[])/\ ∀k,S.ks[0]?=some k->k=([],[])
theorem qV {α:Type}{l:List α}{x:α}(h:l.Nodup) (n:x∉l):(l++[x]).Nodup:=by
 rw[OU];exact⟨h,by simp,λa ha b hb e=>by rw[MT] at hb; subst hb; subst e; exact n ha⟩
variable{ms:List Mem}{m:Str}{o:Option Int}
theorem cq:(eD ms m o).map (·.1)=ms.map (·.1):=by
 unfold eD;rw[N1];show OE λx _=>?_;change (if x.1=m then (m,o) else x).1=x.1;split;.rename_i e; exact e.symm
 .rfl
theorem oM {α β:Type}{f:α->β}{p:α->Bool}{l:List α}: ∀y∈(l.filter p).map f,y∈l.map f:=λy hy=>by
 obtain⟨x,hx,rfl⟩:=Ny.mp hy;exact Ny.mpr ⟨x,(NH.mp hx).1,Z⟩
theorem rj {α β:Type}{f:α->β}{p:α->Bool}{l:List α}(h:(l.map f).Nodup):((l.filter p).map f).Nodup :=
 List.Pairwise.sublist (List.Sublist.map f List.filter_sublist) h
theorem DC {α:Type}{l:List α}{x:α}:l++[x]≠[]:=by simp
variable{S:QM}
theorem jO(g:Gd S){ms:List Mem}{ds:List QQ}(n:Ro ms ds):Gd ⟨ms,ds,S.ks++[(S.ms,S.ds)]⟩:=by
 show⟨n,λk hk=>?_,λz=>absurd z DC,λk hk=>?_⟩
 .rcases M8.mp hk with hk | hk
  .exact g.ks k hk
  .rw[MT.mp hk]; exact g.now
 .cases e:S.ks with
  | nil =>
   have hk:(S.ks++[(S.ms,S.ds)])[0]?=some k:=hk;rw[e] at hk;cases hk;obtain⟨h1,h2⟩:=g.bot.1 e;rw[h1,h2]
  | cons k0 r =>
   have hk:(S.ks++[(S.ms,S.ds)])[0]?=some k:=hk;show g.bot.2 k ?_;rw[e] at hk ⊢;exact hk
variable{d:eJ}
theorem HX(g:Gd S) (ok:SR d) (due:jT S d= .ok):Gd (cf S d):=by
 obtain⟨⟨ml,dl,mn,dn,mN,dN⟩,gk,gb⟩:=id g;cases d with
 | member y =>
  rw[jT] at due;split at due;.cases due
  rename_i hm;split at due;.cases due
  rename_i hl;show jO g ⟨by rw[M0]; change S.ms.length+1<=12; lia,dl,?_,dn,?_,dN⟩;.rw[Nf]; exact qV mn hm
  .intro z hz;rw[Nf] at hz;rcases M8.mp hz with hz | hz
   .exact mN z hz
   .rw[MT.mp hz]; exact ok
 | plain y m p e o =>
  rw[jT] at due;split at due;.cases due
  split at due;.cases due
  rename_i hn;split at due;.cases due
  split at due;.cases due
  rename_i hl;show jO g ⟨ml,by rw[M0]; change S.ds.length+1<=24; lia,mn,?_,mN,?_⟩;.rw[Nf]; exact qV dn hn
  .intro z hz;rw[Nf] at hz;rcases M8.mp hz with hz | hz
   .exact dN z hz
   .rw[MT.mp hz]; exact ok.1
 | link y m b mo =>
  rw[jT] at due;split at due;.cases due
  split at due;.cases due
  rename_i hn;split at due;.cases due
  rename_i hl;show jO g ⟨ml,by rw[M0]; change S.ds.length+1<=24; lia,mn,?_,mN,?_⟩;.rw[Nf]; exact qV dn hn
  .intro z hz;rw[Nf] at hz;rcases M8.mp hz with hz | hz
   .exact dN z hz
   .rw[MT.mp hz]; exact ok.1
 | top m wd=>exact jO g ⟨by unfold eD; rw[MO]; exact ml,dl,by rw[cq]; exact mn,dn,by rw[cq]; exact mN,dN⟩
 | sT m=>exact jO g ⟨by unfold eD; rw[MO]; exact ml,dl,by rw[cq]; exact mn,dn,by rw[cq]; exact mN,dN⟩
 | sM m=>exact jO g ⟨Ng (NQ _ _) ml,dl,rj mn,dn,λy hy=>mN y (oM y hy),dN⟩
 | sD y=>exact jO g ⟨ml,Ng (NQ _ _) dl,mn,rj dn,mN,λz hz=>dN z (oM z hz)⟩
 | back =>
  change Gd (match S.ks.getLast? with | some k=>⟨k.1,k.2,S.ks.dropLast⟩ | none=>S);rcases PR S.ks with hk | ⟨ks,k,hk⟩
  .rw[hk]; exact g
  .have hk:S.ks=ks++[k]:=by rw[hk,PU]
   rw[show S.ks.getLast?=some k from by rw[hk]; simp,show S.ks.dropLast=ks from by rw[hk]; simp];show⟨gk k (by rw[hk]; simp),λk' hk'=>gk k' (by rw[hk]; simp[hk']),λz=>?_,λk' hk'=>?_⟩
   .have z:ks=[]:=z;have:=gb.2 k (by rw[hk,z]; rfl);rw[this];exact⟨Z,Z⟩
   .show gb.2 k' ?_;have hk':ks[0]?=some k':=hk';cases ks with
    | nil=>cases hk'
    | cons a b=>rw[hk]; exact hk'
theorem D6 {α:Type}{f:α->Str}: ∀ {l:List α}{j:Nat}{y:Str},(l.map f).Nodup->(l.map f)[j]?=some y->l.take j++l.drop (j+1)=l.filter λx=>decide (f x≠y)
 | [],j,y,_,h=>by cases h
 | x::l,0,y,nd,h=>by
  have e:f x=y:=Nc h;have nx:f x∉l.map f:=(NM.mp nd).1;change l=_;rw[OZ,MP (by simp[e])];symm;rw[List.filter_eq_self];intro z hz;show Nv λq=>nx ?_;rw[e,<-q];exact Ny.mpr ⟨z,hz,Z⟩
 | x::l,j+1,y,nd,h=>by
  have nx:f x∉l.map f:=(NM.mp nd).1;have h':(l.map f)[j]?=some y:=h;have ne:f x≠y:=λq=>nx (q▸MS h');change x::(l.take j++l.drop (j+1))=_;rw[D6 (NM.mp nd).2 h',OZ,MU (Nv ne)]
theorem yV: ∀ {l:List Mem}{j:Nat}{m:Str}{o:Option Int},(l.map (·.1)).Nodup->(l.map (·.1))[j]?=some m->l.take j++[(m,o)]++l.drop (j+1)=eD l m o
 | [],j,m,o,_,h=>by cases h
 | x::l,0,m,o,nd,h=>by
  have e:x.1=m:=Nc h;have nx:x.1∉l.map (·.1):=(NM.mp nd).1;change (m,o)::l=(if x.1=m then (m,o) else x)::l.map _;rw[MU e];congr 1;symm;have q:l.map (λx=>if x.1=m then (m,o) else x)=l.map λx=>x:=OE λz hz=>MP λq=>nx (by rw[e,<-q]; exact Ny.mpr ⟨z,hz,Z⟩);rw[q,List.map_id']
 | x::l,j+1,m,o,nd,h=>by
  have nx:x.1∉l.map (·.1):=(NM.mp nd).1;have h':(l.map (·.1))[j]?=some m:=h;have ne:x.1≠m:=λq=>nx (q▸MS h');change x::(l.take j++[(m,o)]++l.drop (j+1))=(if x.1=m then (m,o) else x)::eD l m o;rw[MP ne,yV (NM.mp nd).2 h']
theorem vA: ∀ {l:List Mem}{j:Nat}{m:Str}{o:Option Int},l[j]?=some (m,o)->(∀i,i < j->(l.map (·.1))[i]?≠some m)->bw l m=o
 | [],j,m,o,h,_=>by cases h
 | x::l,0,m,o,h,_=>by
  have e:x=(m,o):=Nc h;unfold bw;rw[e,Pa (by simp)]
 | x::l,j+1,m,o,h,hf=>by
  have ne:x.1≠m:=λq=>hf 0 (Qy _) (by change some x.1=some m; rw[q]);have:=vA (l:=l) (j:=j) h λi hi=>hf (i+1) Y;unfold bw at this ⊢;rw[OJ (by simpa using ne)];exact this
theorem yp {l:List Mem}(h:m∉l.map (·.1)):bw l m=none:=by
 unfold bw;rw[OL.mpr λx hx=>by
  simp only[beq_iff_eq];exact λq=>h (Ny.mpr ⟨x,hx,q⟩)]
section
variable {X:Cx}{pos:Pos}
inductive Mn (i j k:Nat) (D:Ends) (O:St) (vs:List V) (H1:Hp):Prop | mk (v w u:_) (e0:vs=[v,w,u]) (q:D.nx (((O.set k (some u)).set j (some w)).set i (some v)) H1)
end
inductive LU (xs:List V) (H:Hp) (Q:VK):Prop | mk (a kvs:_) (e0:xs=[.ref a]) (e1:H a=some (.dK kvs)) (q: ∀p,H p=none->Q (.ref p) (upd H p (.dK kvs)))
theorem vS {kvs:QX}{k k':Key}:aR (fv kvs k) k'=if k'=k then none else aR kvs k':=by
 induction kvs with
 | nil=>split <;> rfl
 | cons p r ih =>
  by_cases e:p.1=k
  .rw[Dg e,ih];split;.rfl
   .rename_i n; rw[cI (λz=>n (z.symm.trans e))]
  .rw[Cf e];by_cases e2:p.1=k';.rw[cR e2,cR e2,MP (λz=>e (e2.trans z))]
   .rw[cI e2,cI e2,ih]
theorem gG {m':Str}(h:m∈ms.map (·.1)):bw (eD ms m o) m'=if m'=m then o else bw ms m':=by
 induction ms with
 | nil=>cases h
 | cons x r ih =>
  have ex:eD (x::r) m o=(if x.1=m then (m,o) else x)::eD r m o:=rfl;rw[ex];unfold bw at ih ⊢;by_cases e:x.1=m
  .rw[MU e];by_cases e2:m'=m;.rw[MU e2,Pa (by simp[e2])]
   .rw[MP e2,OJ (by simpa using λz=>e2 z.symm),OJ (by simpa [e] using λz=>e2 z.symm)];by_cases hr:m∈r.map (·.1)
    .have:=ih hr;rw[MP e2] at this;exact this
    .have es:eD r m o=r:=by
      unfold eD;have q:r.map (λx=>if x.1=m then (m,o) else x)=r.map λx=>x:=OE λz hz=>MP λq=>hr (by rw[<-q]; exact Ny.mpr ⟨z,hz,Z⟩);rw[q,List.map_id']
     rw[es]
  .rw[MP e];have hr:m∈r.map (·.1):=(M3.mp h).resolve_left λz=>e z.symm;by_cases e3:x.1=m';.rw[Pa (by simpa using e3),Pa (by simpa using e3),MP λz=>e (e3.trans z)]
   .rw[OJ (by simpa using e3),OJ (by simpa using e3)];exact ih hr
def BL (xs:List Addr) (H:Hp) (v:V) (d:QQ):Prop:= ∃t,v= .ref t/\t∉xs/\H t=some (.tup (gB d))
structure Q3 (xs:List Addr) (n:Nat) (H:Hp) (ts ln la dd:Addr) (vs:List V) (kvs:QX) (ms:List Mem) (ds:List QQ):Prop where
 t0:ts∉xs
 ht:H ts=some (.tup [.ref ln,.ref la,.ref dd])
 n0:ln∉xs
 hn:H ln=some (.lst ((ms.map (·.1)).map V.str))
 a0:la∉xs
 ha:H la=some (.lst vs)
 ar:F2 (BL xs H) vs ds
 d0:dd∉xs
 hd:H dd=some (.dK kvs)
 cp: ∀m,aR kvs (Sum.inr m)=(bw ms m).map V.int
 kl:kvs.length<=n
def LS (xs:List Addr) (n:Nat) (H:Hp) (ts:Addr) (ms:List Mem) (ds:List QQ):Prop:= ∃ln la dd vs kvs,Q3 xs n H ts ln la dd vs kvs ms ds
section
variable {xs xs':List Addr}{n n':Nat}{H H':Hp}{ts:Addr}{ms:List Mem}{ds:List QQ}
theorem LS.mono (l:LS xs n H ts ms ds) (h: ∀b o,b∉xs->H b=some o->H' b=some o/\b∉xs') (hn:n<=n'):LS xs' n' H' ts ms ds:=by
 obtain⟨ln,la,dd,vs,kvs,l⟩:=l;exact⟨ln,la,dd,vs,kvs,(h _ _ l.t0 l.ht).2,(h _ _ l.t0 l.ht).1,(h _ _ l.n0 l.hn).2,(h _ _ l.n0 l.hn).1,(h _ _ l.a0 l.ha).2,(h _ _ l.a0 l.ha).1,l.ar.imp λv d ⟨t,e,a,b⟩=>⟨t,e,(h _ _ a b).2,(h _ _ a b).1⟩,(h _ _ l.d0 l.hd).2,(h _ _ l.d0 l.hd).1,l.cp,Ng l.kl hn⟩
theorem LS.same (l:LS xs n H ts ms ds) (s:ag H H'):LS xs n H' ts ms ds:=l.mono (λb o nb e=>⟨s b o e,nb⟩) (MZ _)
end
structure Wd (C:Addr) (n:Nat) (H:Hp) (h:Addr) (os:List Addr) (pl ts:Addr) (S:QM):Prop where
 it:HI C H h os S
 po:pl∉os
 pv: ∃pv,H pl=some (.lst pv)/\F2 (λv k=> ∃t,v=V.ref t/\LS (pl::os) n H t k.1 k.2) pv S.ks
 ls:LS (pl::os) n H ts S.ms S.ds
 gd:Gd S
section
variable {C h pl ts:Addr}{n:Nat}{H H':Hp}{os:List Addr}{S:QM}
end
structure Wx (C:Addr) (n:Nat) (H:Hp) (h:Addr) (os:List Addr) (pl ts:Addr) (S:QM) (X:List Addr):Prop where
 it:HI C H h os S
 po:pl∉os
 xo: ∀b∈X,b∉pl::os/\ ∃o,H b=some o
 pv: ∃pv,H pl=some (.lst pv)/\F2 (λv k=> ∃t,v=V.ref t/\LS (pl::(os++X)) n H t k.1 k.2) pv S.ks
 ls:LS (pl::(os++X)) n H ts S.ms S.ds
 gd:Gd S
section
variable {C h pl ts:Addr}{n n':Nat}{H H':Hp}{os X:List Addr}{S:QM}
end
structure Tw (C:Addr) (n:Nat) (H:Hp) (h:Addr) (os:List Addr) (pl ts:Addr) (S:QM) (h':Addr) (os':List Addr) (pl' ts':Addr) (S':QM) (sl:Addr):Prop where
 a:Wx C n H h os pl ts S (pl'::(os'++[sl]))
 b:Wx C n H h' os' pl' ts' S' (pl::(os++[sl]))
 ka:S.ks.length<=n
 kb:S'.ks.length<=n
section
variable {C h pl ts h' pl' ts' sl:Addr}{n n':Nat}{H H':Hp}{os os':List Addr}{S S':QM}
end
variable{P:Program}{mg:oR}{base:Heap}{ps:List Str}
theorem dC.calm {w:World}{K:QG}{k:Nat}{f:Addr}{fd:FuncData}{sp sp':Sp}(F:dC P w K mg base (Rj P w) k f fd ps sp) (h: ∀vs H Q E,sp' vs H Q E->sp vs H Q λ_ _ _=>False):dC P w K mg base Rc k f fd ps sp' :=
 ⟨λvs H Q E z=>F.len vs H Q _ (h vs H Q E z),λA outer s H args us vs Q E hr e0 hb hv hs=>O1 (F.run A outer s H args us vs Q _ hr e0 hb hv (h vs H Q E hs)) λr s' c=>by
  cases r with
  | ok f=>cases f <;> exact c
  | error e =>
   obtain⟨x,t,T,cls,H',_,_,_,_,_,_,_,_,_,_,_,_,q⟩:=c;exact q.elim⟩
theorem GM.calm {w:World}{K:QG}{C:Addr}{k:Nat}{sp sp':Sp}(F:Rp P w K mg base k C m ps sp) (h: ∀vs H Q E,sp' vs H Q E->sp vs H Q λ_ _ _=>False):Ri P w K mg base k C m ps sp':=by
 obtain⟨f,fd,a,b,d⟩:=F;exact⟨f,fd,a,b,d.calm h⟩
def RL (m:Int):Nat:=97+(m % 26).toNat
theorem Hi (m:Int):QV lQ.cps.toList (m % 26)=some (RL m)/\small (RL m):=by
 have h: ∀k:Fin 26,lQ.cps.toList[k.1]?=some (97+k.1):=by trivial
 have e:(m % 26)=(((m % 26).toNat:Nat):Int):=Y;show⟨?_,by unfold small RL; lia⟩;rw[e];exact bz (h ⟨(m % 26).toNat,Y⟩)
def RT (x:Int) (p q:List Nat) (i:Nat):List Nat :=
 if x % 5=0 then [RL (0+(i:Nat)+x / 40)]
 else if x % 5=1 then p++[RL (0+(i:Nat)+x / 40)]++q
 else if x % 5=2 then List.replicate (1+i % 8) (RL (0+(i:Nat)+x / 40))
 else if x % 5=3 then List.replicate (i % 8) 122++[122 - i / 8]
 else ((List.replicate 8 122).set (i % 8) 97).set ((i % 8+1+i / 8) % 8) 98
theorem vj {x:Int}{i j:Nat}(hi:i < 26) (hj:j < 26) (h:RL (0+(i:Nat)+x / 40)=RL (0+(j:Nat)+x / 40)):i=j:=by
 unfold RL at h;generalize x / 40=y at h;lia
variable{p:List Nat}
theorem G2 {x:Int}{q:List Nat}{i j:Nat}(hi:i < 26) (hj:j < 26) (h:RT x p q i=RT x p q j):i=j:=by
 unfold RT at h;by_cases c0:x % 5=0
 .rw[MU c0,MU c0] at h;exact vj hi hj (List.cons.inj h).1
 rw[MP c0,MP c0] at h;by_cases c1:x % 5=1
 .rw[MU c1,MU c1] at h;exact vj hi hj (List.cons.inj (List.append_cancel_left (List.append_cancel_right h))).1
 rw[MP c1,MP c1] at h;by_cases c2:x % 5=2
 .rw[MU c2,MU c2,Nat.add_comm 1,Nat.add_comm 1,NV,NV] at h;exact vj hi hj (List.cons.inj h).1
 rw[MP c2,MP c2] at h;by_cases c3:x % 5=3
 .rw[MU c3,MU c3] at h;have k: ∀a b:Fin 26,List.replicate (a.1 % 8) 122++[122 - a.1 / 8]=List.replicate (b.1 % 8) 122++[122 - b.1 / 8]->a=b:=by trivial
  exact NJ Fin.val (k ⟨i,hi⟩ ⟨j,hj⟩ h)
 rw[MP c3,MP c3] at h;have k: ∀a b:Fin 26,((List.replicate 8 122).set (a.1 % 8) 97).set ((a.1 % 8+1+a.1 / 8) % 8) 98=((List.replicate 8 122).set (b.1 % 8) 97).set ((b.1 % 8+1+b.1 / 8) % 8) 98->a=b:=by trivial
 exact NJ Fin.val (k ⟨i,hi⟩ ⟨j,hj⟩ h)
theorem Gw (p1 p2:Nat):((((List.replicate 8 (Str.ofString "z")).set p1 "a").set p2 "b").map λy=>y.cps.toList).flatten=((List.replicate 8 122).set p1 97).set p2 98:=by
 have e:((((List.replicate 8 (Str.ofString "z")).set p1 "a").set p2 "b").map λy=>y.cps.toList)=(((List.replicate 8 122).set p1 97).set p2 98).map λc=>[c]:=by
  rw[Ol,Ol,Ol,Ol,List.map_replicate,List.map_replicate];rw[show (Str.ofString "z").cps.toList=[122] from by trivial,show ("a" : Str).cps.toList=[97] from by trivial,show ("b" : Str).cps.toList=[98] from by trivial]
 rw[e];generalize ((List.replicate 8 122).set p1 97).set p2 98=l;induction l with
 | nil=>rfl
 | cons a l ih=>rw[ND,N8,ih]; rfl
theorem names_nodup {x:Int}{q:List Nat}{ys:List Str}{m:Nat}(h:ys.map (λy=>y.cps.toList)=(List.range m).map (RT x p q)) (hm:m<=26):ys.Nodup:=by
 have n:((List.range m).map (RT x p q)).Nodup:=by
  rw[List.Nodup,Qr];show List.Pairwise.imp_of_mem (R:=λa b=>a≠b) (λ{a b} ha hb hab e=>hab (G2 (NB (Nh.mp ha) hm) (NB (Nh.mp hb) hm) e)) List.nodup_range
 rw[<-h,List.Nodup,Qr] at n;exact n.imp λh e=>h (by rw[e])
def Rx (os0 os:List Addr) (H H':Hp):Prop:=(∀b o,b∉os0->H b=some o->H' b=some o)/\ ∀b∈os,b∈os0\/H b=none
variable{os0:List Addr}
theorem Rx.out {os:List Addr}{H':Hp}{b:Addr}{o:HO}(f:Rx os0 os H H') (nb:b∉os0) (e:H b=some o):b∉os:=λz=>by
 rcases f.2 b z with z | z
 .exact nb z
 .rw[e] at z; cases z
theorem Rx.next {os1 os2:List Addr}{H1 H2:Hp}(f:Rx os0 os1 H H1) (so:pG os1 H1 H2) (nw: ∀b∈os2,b∈os1\/H1 b=none):Rx os0 os2 H H2:=by
 show⟨λb o nb e=>so b o (f.out nb e) (f.1 b o nb e),λb hb=>?_⟩;rcases nw b hb with z | z
 .exact f.2 b z
 .by_cases c:b∈os0;.exact .inl c
  .show .inr ?_;cases e:H b with
   | none=>rfl
   | some o=>rw[f.1 b o c e] at z; cases z
def bare (ys:List Str):List Mem:=ys.map λy=>(y,none)
theorem yS (ys:List Str) (m:Str):bw (bare ys) m=none:=by
 unfold bw bare;induction ys with
 | nil=>rfl
 | cons y ys ih =>
  rw[ND,OO];by_cases c:y=m;.rw[show ((y,(none:Option Int)).1 == m)=true from by simpa using c]
  .rw[show ((y,(none:Option Int)).1 == m)=false from by simpa using c];exact ih
def gJ (c:Nat):Bool:=decide (97<=c) && decide (c<=122)
def cL (cs:List Nat):Bool:=decide (1<=(cs.length:Int)) && decide ((cs.length:Int)<=8) && cs.all gJ
theorem Nm.good {y:Str}(h:Nm y):cL y.cps.toList=true:=by
 obtain⟨h1,h2,h3⟩:=h;unfold cL;rw[NG,NG];show⟨⟨Nv Y,Nv Y⟩,Oq.mpr λc hc=>?_⟩;have:=h3 c hc;unfold small at this;unfold gJ;rw[NG];exact⟨Nv this.1,Nv this.2⟩
theorem Nm.of {y:Str}(h:cL y.cps.toList=true):Nm y:=by
 unfold cL at h;rw[NG,NG] at h;obtain⟨⟨h1,h2⟩,h3⟩:=h;have h1:=M9 h1;have h2:=M9 h2;show⟨Y,Y,λc hc=>?_⟩;have:=Oq.mp h3 c hc;unfold gJ at this;rw[NG] at this;exact⟨M9 this.1,M9 this.2⟩
inductive Fo
 | ok | unknown | inUse | badName | badNumber | tooMuch | full | nothing
deriving DecidableEq
instance (p e o:Int):Decidable (Rb p e o):=by unfold Rb; infer_instance
def aQ (S:QM):eJ->Fo
 | .member y=>if y∈aD S then .inUse else if cL y.cps.toList=false then .badName else if 12<=S.ms.length\/150<=S.ks.length then .full else .ok
 | .plain y m p e o=>if m∉aD S then .unknown else if y∈aV S then .inUse else if cL y.cps.toList=false then .badName else if ¬Rb p e o then .badNumber else if 99999 < eC p e o then .tooMuch else if 24<=S.ds.length\/150<=S.ks.length then .full else .ok
 | .link y m b mo=>if m∉aD S\/b∉aD S then .unknown else if y∈aV S then .inUse else if cL y.cps.toList=false then .badName else if ¬(0<=mo/\mo<=99) then .badNumber else if 24<=S.ds.length\/150<=S.ks.length then .full else .ok
 | .top m wd=>if m∉aD S then .unknown else if bw S.ms m≠none then .inUse else if ¬(0<=wd/\wd<=99999) then .badNumber else if 150<=S.ks.length then .full else .ok
 | .back=>if S.ks=[] then .nothing else .ok
 | .sM m=>if m∉aD S then .unknown else if AF m S.ds=true then .inUse else if 150<=S.ks.length then .full else .ok
 | .sD y=>if y∉aV S then .unknown else if 150<=S.ks.length then .full else .ok
 | .sT m=>if bw S.ms m=none then .unknown else if 150<=S.ks.length then .full else .ok
def rP (S:QM) (d:eJ):QM:=if aQ S d= .ok then cf S d else S
theorem Hw(h:bw ms m≠none):m∈ms.map (·.1):=Ox λz=>h (yp z)
theorem GG(g:Ro S.ms S.ds) (h:aQ S d= .ok):jT S d= .ok/\SR d/\(S.ks.length < 150\/d= .back):=by
 cases d with
 | member y =>
  rw[aQ] at h;split at h; · cases h
  rename_i h1; split at h; · cases h
  rename_i h2; split at h; · cases h
  rename_i h3;exact⟨by rw[jT,MP h1,MP Y],Nm.of (by simpa using h2),.inl Y⟩
 | plain y m p e o =>
  rw[aQ] at h;split at h; · cases h
  rename_i h1; split at h; · cases h
  rename_i h2; split at h; · cases h
  rename_i h3; split at h; · cases h
  rename_i h4; split at h; · cases h
  rename_i h5; split at h; · cases h
  rename_i h6;exact⟨by rw[jT,MP h1,MP h2,MP h5,MP Y],⟨Nm.of (by simpa using h3),g.mN m (NZ.mp h1),NZ.mp h4⟩,.inl Y⟩
 | link y m b mo =>
  rw[aQ] at h;split at h; · cases h
  rename_i h1; split at h; · cases h
  rename_i h2; split at h; · cases h
  rename_i h3; split at h; · cases h
  rename_i h4; split at h; · cases h
  rename_i h6;exact⟨by rw[jT,MP h1,MP h2,MP Y],⟨Nm.of (by simpa using h3),g.mN m (Ox λz=>h1 (.inl z)),g.mN b (Ox λz=>h1 (.inr z)),NZ.mp h4⟩,.inl Y⟩
 | top m wd =>
  rw[aQ] at h;split at h; · cases h
  rename_i h1; split at h; · cases h
  rename_i h2; split at h; · cases h
  rename_i h3; split at h; · cases h
  rename_i h4;exact⟨by rw[jT,MP h1,MP h2],⟨g.mN m (NZ.mp h1),NZ.mp h3⟩,.inl Y⟩
 | back =>
  rw[aQ] at h;split at h; · cases h
  rename_i h1;exact⟨by rw[jT,MP h1],trivial,.inr rfl⟩
 | sM m =>
  rw[aQ] at h;split at h; · cases h
  rename_i h1; split at h; · cases h
  rename_i h2; split at h; · cases h
  rename_i h3;exact⟨by rw[jT,MP h1,MP h2],g.mN m (NZ.mp h1),.inl Y⟩
 | sD y =>
  rw[aQ] at h;split at h; · cases h
  rename_i h1; split at h; · cases h
  rename_i h3;exact⟨by rw[jT,MP h1],g.dN y (NZ.mp h1),.inl Y⟩
 | sT m =>
  rw[aQ] at h;split at h; · cases h
  rename_i h1; split at h; · cases h
  rename_i h3;exact⟨by rw[jT,MP h1],g.mN m (Hw h1),.inl Y⟩
theorem Ek(g:Gd S):Gd (rP S d):=by
 unfold rP;split
 .rename_i e;obtain⟨h1,h2,_⟩:=GG g.now e;exact HX g h2 h1
 .exact g
section
variable {X:Cx}
end
section
variable {X:Cx}
end
end L2
namespace L2
open PySem PySem.Spec PyProof.Rows
open Builtin Builtin.Str
inductive Mg (x:V) (vs:List V) (H:Hp) (Q:VK):Prop | mk (z y:Str) (e0:x= .str z) (e1:vs=[.str y]) (e2:(y.length == 0)=false) (e3:z.length<=1000) (q: ∀p,H p=none->Q (.ref p) (upd H p (.lst ((Txt.split z y).map V.str))))
inductive Mh (x:V) (vs:List V) (H:Hp) (Q:VK):Prop | mk (z:Str) (e0:x= .str z) (e1:vs=[]) (q:Q (.bl (Txt.isupper z)) H)
end L2
namespace L2
open PySem PySem.Spec PyProof.Rows
section
open MA (QO aY b9)
theorem fN {α:Type} [BEq α] [LawfulBEq α]: ∀ {ys:List α}{j:Nat}{y:α},ys[j]?=some y->(∀m,m < j->ys[m]?≠some y)->ys.idxOf y=j
 | [],_,_,h,_=>by cases h
 | z::ys,0,y,h,_=>by
  cases h;rw[List.idxOf_cons];simp
 | z::ys,j+1,y,h,hm=>by
  have h0:z≠y:=λe=>hm 0 (Qy _) (by rw[e]; rfl);rw[List.idxOf_cons,show (z == y)=false from by simpa using h0,cond_false,fN (j:=j) h λm hmj=>hm (m+1) Y]
def dw (ns:List Str) (d:QQ):MA.ao:=(((ns.idxOf d.2.1:Nat):Int),match d.2.2.1 with | none=> -1 | some b=>((ns.idxOf b:Nat):Int),d.2.2.2)
def aA (ms:List Mem) (ds:List QQ):List MA.ao:=ds.map (dw (ms.map (·.1)))
def Rz (ms:List Mem) (ds:List QQ):Prop:= ∀d∈ds,d.2.1∈ms.map (·.1)/\(∀b,d.2.2.1=some b->b∈ms.map (·.1))/\0<=d.2.2.2/\d.2.2.2<=99999
def qf (ms:List Mem):Prop:= ∀m∈ms,∀c,m.2=some c->0<=c/\c<=99999
structure GB (S:QM):Prop where
 now:Rz S.ms S.ds
 cap:qf S.ms
 ks: ∀k∈S.ks,Rz k.1 k.2/\qf k.1
theorem ID:GB ⟨[],[],[]⟩:=⟨λd hd=>(by cases hd),λm hm=>(by cases hm),λk hk=>(by cases hk)⟩
theorem G9 {p e o:Int}(h:Rb p e o):0<=eC p e o:=by
 unfold Rb at h;unfold eC;have:0<=p*e:=Int.mul_nonneg h.1 Y;exact Int.ediv_nonneg Y Y
variable{S:QM}
theorem jP(g:GB S){ms:List Mem}{ds:List QQ}(n:Rz ms ds) (c:qf ms):GB ⟨ms,ds,S.ks++[(S.ms,S.ds)]⟩:=⟨n,c,λk hk=>by
 rcases M8.mp hk with hk | hk
 .exact g.ks k hk
 .rw[MT.mp hk]; exact⟨g.now,g.cap⟩⟩
variable{ms:List Mem}
theorem Ag {m:Str}{o:Option Int}(h:qf ms) (ho: ∀c,o=some c->0<=c/\c<=99999):qf (eD ms m o):=λx hx c e=>by
 unfold eD at hx;obtain⟨y,hy,rfl⟩:=Ny.mp hx;split at e;.exact ho c e
 .exact h y hy c e
theorem He {d:eJ}(g:GB S) (due:aQ S d= .ok):GB (cf S d):=by
 obtain⟨gn,gc,gk⟩:=id g;cases d with
 | member y =>
  show jP g (λd hd=>?_) (λx hx c e=>?_)
  .obtain⟨h1,h2,h3⟩:=gn d hd;rw[Nf];exact⟨M8.mpr (.inl h1),λb hb=>M8.mpr (.inl (h2 b hb)),h3⟩
  .rcases M8.mp hx with hx | hx
   .exact gc x hx c e
   .rw[MT.mp hx] at e; cases e
 | plain y m p e o =>
  rw[aQ] at due;split at due; · cases due
  rename_i h1; split at due; · cases due
  split at due; · cases due
  split at due; · cases due
  rename_i h4; split at due; · cases due
  rename_i h5;show jP g (λd hd=>?_) gc;rcases M8.mp hd with hd | hd
  .exact gn d hd
  .rw[MT.mp hd];exact⟨NZ.mp h1,λb hb=>(by cases hb),G9 (NZ.mp h4),by change eC p e o<=99999; lia⟩
 | link y m b mo =>
  rw[aQ] at due;split at due; · cases due
  rename_i h1; split at due; · cases due
  split at due; · cases due
  split at due; · cases due
  rename_i h4;show jP g (λd hd=>?_) gc;rcases M8.mp hd with hd | hd
  .exact gn d hd
  .rw[MT.mp hd];have h4:=NZ.mp h4;exact⟨Ox λz=>h1 (.inl z),λb' hb=>(by cases hb; exact Ox λz=>h1 (.inr z)),h4.1,by change mo<=99999; lia⟩
 | top m wd =>
  rw[aQ] at due;split at due; · cases due
  split at due; · cases due
  split at due; · cases due
  rename_i h3;show jP g (λd hd=>?_) (Ag gc λc e=>by cases e; exact NZ.mp h3);rw[cq];exact gn d hd
 | sT m =>
  show jP g (λd hd=>?_) (Ag gc λc e=>by cases e);rw[cq];exact gn d hd
 | sM m =>
  rw[aQ] at due;split at due; · cases due
  split at due; · cases due
  rename_i h2;show jP g (λd hd=>?_) (λx hx c e=>gc x (NH.mp hx).1 c e);obtain⟨k1,k2,k3⟩:=gn d hd;have nb:d.2.1≠m/\d.2.2.1≠some m:=by
   have h2:AF m S.ds=false:=(by simpa using h2);unfold AF at h2;have:=Pz.mp h2 d hd;simp only[Bool.or_eq_true,Qt,not_or] at this;exact this
  have keep: ∀y:Str,y∈S.ms.map (·.1)->y≠m->y∈(S.ms.filter λx=>decide (x.1≠m)).map (·.1):=λy hy ne=>by
   obtain⟨x,hx,rfl⟩:=Ny.mp hy;exact Ny.mpr ⟨x,NH.mpr ⟨hx,Nv ne⟩,Z⟩
  exact⟨keep _ k1 nb.1,λb hb=>keep _ (k2 b hb) λe=>nb.2 (by rw[hb,e]),k3⟩
 | sD y=>exact jP g (λd hd=>gn d (NH.mp hd).1) gc
 | back =>
  change GB (match S.ks.getLast? with | some k=>⟨k.1,k.2,S.ks.dropLast⟩ | none=>S);rcases PR S.ks with hk | ⟨ks,k,hk⟩
  .rw[hk]; exact g
  .have hk:S.ks=ks++[k]:=by rw[hk,PU]
   rw[show S.ks.getLast?=some k from by rw[hk]; simp,show S.ks.dropLast=ks from by rw[hk]; simp];obtain⟨a1,a2⟩:=gk k (by rw[hk]; simp);exact⟨a1,a2,λk' hk'=>gk k' (by rw[hk]; simp[hk'])⟩
theorem Hl {d:eJ}(g:GB S):GB (rP S d):=by
 unfold rP;split;.rename_i e; exact He g e
 .exact g
theorem rH {ns:List Str}{y:Str}(h:y∈ns):ns.idxOf y < ns.length:=List.idxOf_lt_length_iff.mpr h
theorem ez {ds:List QQ}(h:Rz ms ds): ∀q∈aA ms ds,QO ms.length q:=λq hq=>by
 obtain⟨d,hd,rfl⟩:=Ny.mp hq;obtain⟨h1,h2,h3,_⟩:=h d hd;have a1:=rH h1;rw[MO] at a1;show⟨by change (0:Int)<=((_:Nat):Int); lia,by change ((_:Nat):Int) < _; lia,?_,?_,h3⟩
 .change -1<=(match d.2.2.1 with | none=>(-1:Int) | some b=>(((ms.map λx:Mem=>x.1).idxOf b:Nat):Int));cases d.2.2.1 with
  | none=>exact Np _
  | some b=>show (-1:Int)<=((_:Nat):Int); lia
 .change (match d.2.2.1 with | none=>(-1:Int) | some b=>(((ms.map λx:Mem=>x.1).idxOf b:Nat):Int)) < _;cases e:d.2.2.1 with
  | none=>show (-1:Int) < _; lia
  | some b =>
   have a2:=rH (h2 b e);rw[MO] at a2;change ((_:Nat):Int) < _;lia
def nH (S:QM):List (Option Int):=S.ms.map (·.2)
def aX (S:QM):Option (List Int):=match aY S.ms.length (aA S.ms S.ds) with
 | none=>none
 | some L=>match b9 L (nH S) with
  | none=>some L
  | some _=>none
variable{L:List Int}{cs:List (Option Int)}
theorem zD {n:Nat}(hl:L.length=n) (h:b9 L cs=none):MA.Within n L cs:=λv c hv e=>by
 have:=OL.mp h v (Nh.mpr (by lia));rw[e] at this;have this: ¬decide (c < MA.g L (v:Nat))=true:=this;simp at this;exact this
theorem GY {i:Nat}(h:b9 L cs=some i):i < L.length:=Nh.mp (Pn h)
variable{rs:List MA.ao}
theorem we {n:Nat}{rs':List MA.ao}(k: ∀q∈rs,QO n q) (h:aY n rs=some L) (s: ∀q∈rs',q∈rs): ∃L',aY n rs'=some L':=by
 obtain⟨_,l2,l3,_⟩:=MA.bX k h;exact MA.kT (λq hq=>k q (s q hq)) l3 λq hq=>l2 q (s q hq)
theorem Gx {s k:Int}{ps:List Nat}(h:MA.Path rs s k ps): ∀i∈ps,i < rs.length:=by
 induction h with
 | nil=>intro i hi; cases hi
 | snoc hp hq e ih =>
  intro i hi;rcases M8.mp hi with hi | hi
  .exact ih i hi
  .rw[MT.mp hi]; exact (MW.mp hq).1
def rT (rs:List MA.ao) (way:List Nat):Prop:= ∃(i:Nat) (q:MA.ao) (ps:List Nat),way=i::ps/\rs[i]?=some q/\q.2.1≠ -1/\0 < q.2.2/\MA.Path rs q.1 q.2.1 ps/\(q.1::MA.QY rs ps).Nodup
variable{way:List Nat}
theorem rT.lt(h:rT rs way): ∀i∈way,i < rs.length:=by
 obtain⟨i,q,ps,rfl,hi,_,_,hp,_⟩:=h;intro j hj;rcases M3.mp hj with rfl | hj
 .exact (MW.mp hi).1
 .exact Gx hp j hj
theorem rT.none {n:Nat}(k: ∀q∈rs,QO n q) (h:rT rs way):aY n rs=none:=by
 obtain⟨i,q,ps,rfl,hi,hb,hm,hp,_⟩:=h;cases e:aY n rs with
 | none=>rfl
 | some L =>
  exfalso;obtain⟨_,l2,l3,_⟩:=MA.bX k e;have hq:=MS hi;obtain⟨o1,o2,o3,o4,o5⟩:=k q hq;have a1:=(MA.Path.le k l2 o1 hp).2;have a2:=l2 q hq;have a3:MA.ask (MA.g L) q=MA.g L q.2.1+q.2.2:=by
   unfold MA.ask;simp[hb]
  lia
theorem DL {n:Nat}(k: ∀q∈rs,QO n q) (h: ∀q∈rs,q.2.1≠ -1->0 < q.2.2-> ∃S:Int->Prop,S q.1/\ ¬S q.2.1/\ ∀r∈rs,0<=r.2.1->S r.2.1->S r.1): ∃L,aY n rs=some L:=by
 obtain⟨f,f0,f1⟩:=MA.sN k (MA.Em k h);exact MA.kT k (λi _ _=>f0 i) f1
theorem Fy(h:qf S.ms){v:Nat}{c:Int}(e:(S.ms.map λm:Mem=>m.2).getD v none=some c):c<=99999:=by
 rw[MX,M5] at e;cases hm:S.ms[v]? with
 | none=>rw[hm] at e; cases e
 | some m =>
  rw[hm] at e;exact (h m (MS hm) c e).2
end
section
open MA (QO aY b9)
theorem Jw {S:QM}(db:Rz S.ms S.ds) (h: ∀f,¬MA.Met (aA S.ms S.ds) f):aX S=none:=by
 unfold aX;cases e:aY S.ms.length (aA S.ms S.ds) with
 | none=>rfl
 | some L=>exact absurd (MA.bX (ez db) e).2.1 (h _)
def Q4 (ns:List Str):List Mem:=ns.map λy=>(y,none)
theorem gZ (ns:List Str):(Q4 ns).map (·.1)=ns:=by
 unfold Q4;rw[N1];exact List.map_id' ns |>.symm▸by simp[Function.comp_def]
variable{ns:List Str}
theorem getD_at {k:Nat}(h:k < ns.length):ns[k]?=some (ns.getD k ""):=by
 rw[MX,MQ h]; rfl
theorem jb(hn:ns.Nodup){k:Nat}(h:k < ns.length):ns.idxOf (ns.getD k "")=k:=by
 show fN (getD_at h) λm hm e=>?_;have hml:m < ns.length:=Y;have e1:=(MW.mp e)
 have e2:=(MW.mp (getD_at h))
 exact List.pairwise_iff_getElem.mp hn m k hml h hm (by rw[e1.2,e2.2])
section
variable {ns cs:List Str}{w:Nat}{p:Int}{mo:Nat->Int}{k:Nat}
end
section
variable {S:QM}{y m b:Str}
theorem vO (h:Nm y): ¬cL y.cps.toList=false:=by rw[Nm.good h]; decide
theorem BQ (h1:y∉aD S) (h2:Nm y) (h3:S.ms.length < 12) (h4:S.ks.length < 150):aQ S (.member y)= .ok:=by
 rw[aQ,MP h1,MP (vO h2),MP Y]
theorem vU {p e o:Int}(h1:m∈aD S) (h2:y∉aV S) (h3:Nm y) (h4:Rb p e o) (h5:eC p e o<=99999) (h6:S.ds.length < 24) (h7:S.ks.length < 150):aQ S (.plain y m p e o)= .ok:=by
 rw[aQ,MP (λz=>z h1),MP h2,MP (vO h3),MP (λz=>z h4),MP Y,MP Y]
theorem yD {mo:Int}(h1:m∈aD S) (h1':b∈aD S) (h2:y∉aV S) (h3:Nm y) (h4:0<=mo/\mo<=99) (h6:S.ds.length < 24) (h7:S.ks.length < 150):aQ S (.link y m b mo)= .ok:=by
 rw[aQ,MP (λz=>z.elim (λz=>z h1) λz=>z h1'),MP h2,MP (vO h3),MP (λz=>z h4),MP Y]
theorem zO {wd:Int}(h1:m∈aD S) (h2:bw S.ms m=none) (h3:0<=wd/\wd<=99999) (h7:S.ks.length < 150):aQ S (.top m wd)= .ok:=by
 rw[aQ,MP (λz=>z h1),MP (λz=>z h2),MP (λz=>z h3),MP Y]
theorem Jf (h1:y∈aV S) (h7:S.ks.length < 150):aQ S (.sD y)= .ok:=by
 rw[aQ,MP (λz=>z h1),MP Y]
theorem JT (h1:bw S.ms m≠none) (h7:S.ks.length < 150):aQ S (.sT m)= .ok:=by
 rw[aQ,MP h1,MP Y]
end
end
section
open MA (QO aY b9)
structure RG (H0:Hp) (os:List Addr) (H:Hp):Prop where
 s:ag H0 H
 n: ∀b∈os,H0 b=none
section
variable {H0 H H':Hp}{os os':List Addr}{pr t:Addr}{o u:HO}{rs:List MA.ao}{q:MA.ao}{xs:List V}{K:QG}
theorem RG.next (x:RG H0 os H) (so:pG os H H') (nw: ∀b∈os',b∈os\/H b=none):RG H0 os' H':=⟨λb o e=>so b o (λz=>by rw[x.n b z] at e; cases e) (x.s b o e),λb hb=>(nw b hb).elim (x.n b) λe=>x.s.free e⟩
theorem RG.same (x:RG H0 os H) (s:ag H H'):RG H0 os H':=⟨x.s.trans s,x.n⟩
theorem RG.push (x:RG H0 os H) (ht:H t=none) (hp:H0 pr=none):RG H0 os (upd (upd H t o) pr u):=⟨x.s.vf ht hp,x.n⟩
end
theorem uI {ms:List Mem}{ds:List QQ}{d:QQ}:aA ms (ds++[d])=aA ms ds++[dw (ms.map (·.1)) d]:=by
 unfold aA;rw[Nf];rfl
end
def To {α:Type}(xs:List α):List α:=(List.range ((xs.length+1) / 2)).filterMap λk=>xs[2*k]?
inductive MB (K:QG) (Q:VK) (x:V) (H2:Hp):Prop | mk (a xs:_) (e0:x= .ref a) (e1:QF K H2 a xs) (q: ∀p,H2 p=none->Q (.ref p) (upd H2 p (.lst (To xs))))
section
variable {X:Cx}{e st:Expr}{te ts:TE}{p2 pos:Pos}
end
section
open MA (QO aY b9)
def Rm (os:List Addr) (H:Hp) (la:Addr) (ds:List QQ):Prop:=la∉os/\ ∃vs,H la=some (.lst vs)/\F2 (BL os H) vs ds
section
variable {H H':Hp}{os os':List Addr}{la t:Addr}{ds:List QQ}{d:QQ}{xs:List V}
theorem Rm.next (x:Rm os H la ds) (so:pG os H H') (nw: ∀b∈os',b∈os\/H b=none):Rm os' H' la ds:=by
 obtain⟨n,xs,hx,hF⟩:=x;have out: ∀ {b:Addr}{o:HO},b∉os->H b=some o->b∉os':=λ{b o} nb e z=>(nw b z).elim nb λe'=>by rw[e] at e'; cases e'
 exact⟨out n hx,xs,so _ _ n hx,hF.imp λv q ⟨t,e,nt,ht⟩=>⟨t,e,out nt ht,so _ _ nt ht⟩⟩
theorem Rm.same (x:Rm os H la ds) (s:ag H H'):Rm os H' la ds:=by
 obtain⟨n,xs,hx,hF⟩:=x;exact⟨n,xs,s _ _ hx,hF.imp λv q ⟨t,e,nt,ht⟩=>⟨t,e,nt,s _ _ ht⟩⟩
theorem Rm.push (x:Rm os H la ds) (ht:H t=none) (nt:t∉os) (e:H la=some (.lst xs)):Rm os (upd (upd H t (.tup (gB d))) la (.lst (xs++[.ref t]))) la (ds++[d]):=by
 obtain⟨n,ys,hx,hF⟩:=x;rw[e] at hx;cases hx;have tp:t≠la:=λz=>by rw[z,e] at ht; cases ht
 show⟨n,_,aa,F2.append (hF.imp λv q ⟨t',e',nt',ht'⟩=>⟨t',e',nt',?_⟩) (.cons ⟨t,Z,nt,?_⟩ .nil)⟩
 .rw[ah (λz=>by rw[z,e] at ht'; cases ht'),ah (λz=>by rw[z,ht] at ht'; cases ht')];exact ht'
 .rw[ah tp,aa]
theorem Rm.len (x:Rm os H la ds) (e:H la=some (.lst xs)):xs.length=ds.length:=by
 obtain⟨n,ys,hx,hF⟩:=x;rw[e] at hx;cases hx;exact hF.length
theorem Rm.lst (x:Rm os H la ds): ∃xs,H la=some (.lst xs):=by
 obtain⟨n,ys,hx,hF⟩:=x;exact⟨ys,hx⟩
end
def pJ (q:MA.ao):MA.ao:=(q.1,q.2.1,q.2.2 % 1000)
def Sm (q:MA.ao):Prop:=(q.2.1= -1->q.2.2<=999)/\(q.2.1≠ -1->q.2.2<=99)
section
open MA
variable {n:Nat}{rs:List MA.ao}{r:MA.ao}{ws L:List Int}{k:Int}
theorem B9 (hr:QO n r) (hs:Sm r) (h9:999<=k) (len:ws.length=n) (h:Le n (g ws) λ_=>k):Le n (g (cz ws r)) λ_=>k+99:=λj j0 j1=>by
 obtain⟨r1,r2,r3,r4,r5⟩:=hr;change g (cz ws r) j<=k+99;unfold cz;rw[ff r1 Y j0];have hj:g ws j<=k:=h j j0 j1;split
 .show uQ (by have:g ws r.1<=k:=h _ r1 r2; lia) ?_;unfold MA.ask;split;.have:=hs.1 (by assumption); lia
  .have:=hs.2 (by assumption);have:g ws r.2.1<=k:=h _ Y r4;lia
 .lia
theorem xZ: ∀(rs:List MA.ao) (ws:List Int) (k:Int),(∀r∈rs,QO n r/\Sm r)->999<=k->ws.length=n->Le n (g ws) (λ_=>k)->Le n (g (bB rs ws)) λ_=>k+99*(rs.length:Int)
 | [],ws,k,_,_,_,h=>λi i0 i1=>by
  have:g ws i<=k:=h i i0 i1;change g ws i<=k+99*((0:Nat):Int);lia
 | r::rs,ws,k,hr,h9,len,h=>λi i0 i1=>by
  obtain⟨a,b⟩:=hr r (M7);have:=xZ rs (cz ws r) (k+99) (λq hq=>hr q (M4 _ hq)) Y (by rw[g7]; exact len) (B9 a b h9 len h) i i0 i1;change g (bB rs (cz ws r)) i<=k+99*((rs.length+1:Nat):Int);have this:g (bB rs (cz ws r)) i<=k+99+99*(rs.length:Int):=this;lia
theorem z5 (hr: ∀r∈rs,QO n r/\Sm r) (hl:rs.length<=24): ∀(m:Nat) (ws L:List Int) (k:Int),999<=k->ws.length=n->Le n (g ws) (λ_=>k)->loop rs m ws=some L->Le n (g L) λ_=>k+2376*(m:Int)
 | 0,ws,L,k,_,_,_,e=>by cases e
 | m+1,ws,L,k,h9,len,h,e=>λi i0 i1=>by
  have hb:Le n (g (bB rs ws)) λ_=>k+2376:=λi i0 i1=>by
   have:=xZ rs ws k hr h9 len h i i0 i1;have this:g (bB rs ws) i<=k+99*(rs.length:Int):=this;change g (bB rs ws) i<=k+2376;lia
  change g L i<=k+2376*((m+1:Nat):Int);rw[loop] at e;split at e
  .cases e;have:g ws i<=k:=h i i0 i1;lia
  .have:=z5 hr hl m (bB rs ws) L (k+2376) Y (by rw[eS]; exact len) hb e i i0 i1;have this:g L i<=k+2376+2376*(m:Int):=this;lia
theorem EO (hr: ∀r∈rs,QO n r/\Sm r) (hl:rs.length<=24) (hn:n<=12) (e:aY n rs=some L){i:Int}(i0:0<=i) (i1:i < n):g L i<=40000:=by
 have:=z5 hr hl (n+1) (List.replicate n 0) L 999 Y (by simp) (λi _ _=>by rw[kJ]; change (0:Int)<=999; lia) e i i0 i1;have this:g L i<=999+2376*((n+1:Nat):Int):=this;lia
end
end
section
open MA (QO aY b9)
theorem Hr {ms:List Mem}(hn:(ms.map (·.1)).Nodup):(ms.map (·.1)).map (λy=>bw ms y)=ms.map (·.2):=by
 rw[N1];show OE λm hm=>?_;change bw ms m.1=m.2;unfold bw;cases e:ms.find? (λx=>x.1 == m.1) with
 | none=>exact absurd (OL.mp e m hm) (by simp)
 | some x =>
  have h1:x.1=m.1:=by simpa using List.find?_some e
  have hx:=Pn e;obtain⟨i,hi⟩:=PV.mp hm;obtain⟨j,hj⟩:=PV.mp hx;obtain⟨l1,e1⟩:=MW.mp hi;obtain⟨l2,e2⟩:=MW.mp hj;have:j=i:=(OY (h₀:=by rw[MO]; exact l2) (h₁:=by rw[MO]; exact l1) hn).mp (by rw[OF,OF,e1,e2]; exact h1);subst this;rw[hj] at hi;cases hi;rfl
theorem sR {S:QM}(db:Rz S.ms S.ds):(MA.df S.ms.length (aA S.ms S.ds)=true->aX S=none)/\(MA.df S.ms.length (aA S.ms S.ds)=false-> ∃L,aY S.ms.length (aA S.ms S.ds)=some L/\MA.cB S.ms.length (aA S.ms S.ds)=L/\(b9 L (nH S)=none->aX S=some L)/\(b9 L (nH S)≠none->aX S=none)):=by
 have k:=ez db;show⟨λh=>Jw db (MA.rJ k h),λh=>?_⟩;obtain⟨f,f0,hf⟩:=MA.sN k h;obtain⟨L,eL⟩:=MA.kT k (λi _ _=>f0 i) hf;show⟨L,eL,MA.nL k eL,λe=>?_,λe=>?_⟩
 .unfold aX;rw[eL];change (match b9 L (nH S) with | none=>some L | some _=>none)=some L;rw[e]
 .unfold aX;rw[eL];change (match b9 L (nH S) with | none=>some L | some _=>none)=none;cases e2:b9 L (nH S) with
  | none=>exact absurd e2 e
  | some j=>rfl
end
inductive Kf (K:QG) (x y:V) (H:Hp) (Q:VK):Prop | mk (a b:Addr) (ys:List V) (e0:x= .ref a) (e1:y= .ref b) (e2:QK K H b ys) (e3:ys.all cQ=true) (q:((∃xs,QF K H a xs/\Q (.bl false) H)\/ ∃xs,QK K H a xs/\xs.all cQ=true/\Q (.bl (uY xs ys)) H))
def Iq (K:QG):R2:=λx y H Q=>Kf K x y H Q
variable{X:Cx}
theorem IK(hu:X.A.units+1 < cLine):QU X (compareOp .Eq) (Iq X.K):=by
 ext:3;obtain⟨a,b,ys,rfl,rfl,hb,fy,h⟩:=h;rcases h with⟨xs,ha,q⟩ | ⟨xs,ha,fx,q⟩
 .cases rx;cases ry;obtain⟨us,r1,p1,z1⟩:=I.list ha;obtain⟨vs,r2,p2,z2⟩:=I.tuple hb;exact SeqAt.RcAt.list_tuple p1.isList (show s.heap.IsTuple b vs.toArray from p2) Y _ _ _ _ ⟨.bl _,H,I,Z,q⟩
 .exact Jk hu QE s O H (.ref a) (.ref b) v u Q I rx ry ⟨a,b,xs,ys,Z,Z,ha,hb,fx,fy,q⟩
inductive Mv (K:QG) (x y:V) (H:Hp) (Q:VK):Prop | mk (a b:Addr) (ys:List V) (e0:x= .ref a) (e1:y= .ref b) (e2:QK K H b ys) (e3:ys.all cQ=true) (q:((∃xs,QF K H a xs/\Q (.bl true) H)\/ ∃xs,QK K H a xs/\xs.all cQ=true/\Q (.bl (!uY xs ys)) H))
inductive ME (K:QG) (x y:V) (H:Hp) (Q:VK):Prop | mk (a b:Addr) (xs ys:List V) (e0:x= .ref a) (e1:y= .ref b) (e2:QF K H a xs) (e3:QF K H b ys) (e4:xs.length=ys.length) (e5:xs.all cQ=true) (e6:ys.all cQ=true) (q:Q (.bl ((List.range xs.length).all λi=>RC (xs.getD i .non) (ys.getD i .non))) H)
inductive Mz (K:QG) (x y:V) (H:Hp) (k:Prop):Prop | mk (a b:Addr) (xs:List V) (e0:x= .ref a) (e1:y= .ref b) (e2:QF K H a xs) (e3:QF K H b []) (e4:0 < xs.length) (q:k)
variable{os:List Addr}{H:Hp}
theorem Q3.push {n:Nat}{ts ln la dd t:Addr}{vs:List V}{kvs:QX}{ms:List Mem}{ds:List QQ}{d:QQ}(l:Q3 os n H ts ln la dd vs kvs ms ds) (hne:ln≠la) (ht:H t=none) (nt:t∉os):Q3 os n (upd (upd H t (.tup (gB d))) la (.lst (vs++[.ref t]))) ts ln la dd (vs++[.ref t]) kvs ms (ds++[d]):=by
 have s1:=ag.upd (o:= .tup (gB d)) ht;have k: ∀ {b o},H b=some o->b≠la->(upd (upd H t (.tup (gB d))) la (.lst (vs++[.ref t]))) b=some o:=λ{b o} e hb=>(ah hb).trans (s1 _ _ e);have tl:t≠la:=λz=>by rw[z,l.ha] at ht; cases ht
 have kt: ∀ {b u},H b=some (.tup u)->b≠la:=λ{b u} e z=>by rw[z,l.ha] at e; cases e
 show⟨l.t0,k l.ht (kt l.ht),l.n0,k l.hn hne,l.a0,aa,F2.append (l.ar.imp λv d ⟨t',e,a,b⟩=>⟨t',e,a,k b (kt b)⟩) (.cons ⟨t,Z,nt,(ah tl).trans aa⟩ .nil),l.d0,k l.hd (λz=>by have e:=l.hd; rw[z,l.ha] at e; cases e),l.cp,l.kl⟩
theorem HI.Dm {C h:Addr}{S:QM}{la t:Addr}{o u:HO}(x:HI C H h os S) (nl:la∉os) (ht:H t=none):HI C (upd (upd H t o) la u) h os S:=by
 have nt:t∉os:=λz=>by obtain⟨o,e⟩:=x.has t z; rw[ht] at e; cases e
 exact x.grow λb o hb e'=>by rw[ah (show b≠la from λz=>nl (z▸hb)),ah (show b≠t from λz=>nt (z▸hb))]; exact e'
section
variable {xs xs':List Addr}{n:Nat}{H H':Hp}{ts ln la dd:Addr}{vs:List V}{kvs:QX}{ms:List Mem}{ds:List QQ}
theorem Q3.mono (l:Q3 xs n H ts ln la dd vs kvs ms ds) (h: ∀b o,b∉xs->H b=some o->H' b=some o/\b∉xs'):Q3 xs' n H' ts ln la dd vs kvs ms ds :=
 ⟨(h _ _ l.t0 l.ht).2,(h _ _ l.t0 l.ht).1,(h _ _ l.n0 l.hn).2,(h _ _ l.n0 l.hn).1,(h _ _ l.a0 l.ha).2,(h _ _ l.a0 l.ha).1,l.ar.imp λv d ⟨t,e,a,b⟩=>⟨t,e,(h _ _ a b).2,(h _ _ a b).1⟩,(h _ _ l.d0 l.hd).2,(h _ _ l.d0 l.hd).1,l.cp,l.kl⟩
theorem Q3.same (l:Q3 xs n H ts ln la dd vs kvs ms ds) (s:ag H H'):Q3 xs n H' ts ln la dd vs kvs ms ds:=l.mono λb o nb e=>⟨s b o e,nb⟩
theorem Q3.moved (l:Q3 xs n H ts ln la dd vs kvs ms ds) (so:pG xs H H') (nw: ∀b∈xs',b∈xs\/H b=none):Q3 xs' n H' ts ln la dd vs kvs ms ds:=l.mono λb o nb e=>⟨so b o nb e,λz=>by
 rcases nw b z with z | z
 .exact nb z
 .rw[e] at z; cases z⟩
end
inductive SH (us:List Str):List Mem->List (List Mem×Str)->Prop
 | nil:SH us (Q4 us) []
 | snoc {mp:List Mem}{g:Str}{c:Int}{st:List (List Mem×Str)}:SH us mp st->bw mp g=none->g∈mp.map (·.1)->SH us (eD mp g (some c)) (st++[(mp,g)])
theorem Rx.inside {os0:List Addr}{H':Hp}{b0:Addr}{o:HO}(f:Rx os0 os H H') (hb:b0∈os0):Rx os0 os H (upd H' b0 o):=⟨λb o nb e=>by
 rw[ah (show b≠b0 from λz=>nb (z▸hb))];exact f.1 b o nb e,f.2⟩
theorem HI.side {C h:Addr}{S:QM}{b0:Addr}{o:HO}(x:HI C H h os S) (nl:b0∉os):HI C (upd H b0 o) h os S:=x.grow λb o hb e'=>by rw[ah (show b≠b0 from λz=>nl (z▸hb))]; exact e'
theorem Sy (A:Nat->St->Hp->Prop): ∃P:Nat->St->Hp->Prop,(∀i O H,A i O H->P i O H)/\ ∀i O H,P i O H->A i O H:=⟨A,λ_ _ _ h=>h,λ_ _ _ h=>h⟩
theorem LO (A:St->Hp->Prop): ∃P:St->Hp->Prop,(∀O H,A O H->P O H)/\ ∀O H,P O H->A O H:=⟨A,λ_ _ h=>h,λ_ _ h=>h⟩
variable{D:Ends}{O:St}
theorem cF {J:It}{xs:List V}{g:TG}{tb:TS}(Pv:Nat->St->Hp->Prop) (h0:Pv 0 O H) (hJ: ∀i O H,i<=xs.length->Pv i O H->JL J H xs)
  (hs: ∀i x O H (D':Ends),(∀O H,Pv (i+1) O H->D'.nx O H)->(∀v H,D.rt v H->D'.rt v H)->xs[i]?=some x->Pv i O H->g x O H λO2 H2=>tb D' O2 H2) (hd: ∀O H,Pv xs.length O H->D.nx O H) :
  ∃W:Nat->Nat->St->Hp->Prop,(∃m,W 0 m O H)/\ ∀i m O H,W i m O H ->
   (J.stop i H/\D.nx O H)\/(J.go i H/\ ∃N:St->Hp->Prop,(∀O' H',N O' H'-> ∃m',m' < m/\W (i+1) m' O' H')/\ ∀x H',J.yld i H x H'->g x O H' λO2 H2=>tb { D with nx:=N,ct:=N,bk:=D.nx } O2 H2) :=
 bA Pv h0 hJ (λi x O H hx hp=>hs i x O H _ (λ_ _ z=>z) (λ_ _ z=>z) hx hp) hd
theorem o8 {m:Nat}{W:Nat->St->Hp->Prop}{tb:TS}(h: ∀D':Ends,(∀O H m',m' < m->W m' O H->D'.nx O H)->tb D' O H): ∃N:St->Hp->Prop,(∀O' H',N O' H'-> ∃m',m' < m/\W m' O' H')/\tb { D with nx:=N,ct:=N,bk:=D.nx } O H :=
 ⟨λO H=> ∃m',m' < m/\W m' O H,λ_ _ z=>z,h _ λ_ _ m' a b=>⟨m',a,b⟩⟩
inductive Ks (K:QG) (x y:V) (H:Hp) (Q:VK):Prop | mk (a b:Addr) (xs:List V) (e0:x= .ref a) (e1:y= .ref b) (e2:QF K H a xs) (e3:QF K H b []) (q:Q (.bl (decide (0 < xs.length))) H)
def Jg (K:QG):R2:=λx y H Q=>Ks K x y H Q
theorem J0(hu:X.A.units+1 < cLine):QU X (compareOp .NotEq) (Jg X.K):=by
 ext:3;obtain⟨a,b,xs,rfl,rfl,ha,hb,q⟩:=h;cases rx;cases ry;obtain⟨us,r1,p1,z1⟩:=I.list ha;obtain⟨vs,r2,p2,z2⟩:=I.list hb;have l1:=r1.length;have l2:=r2.length;have l2:vs.length=0:=by rw[<-l2]; rfl
 by_cases hl:0 < xs.length
 .rw[Nv hl] at q;exact SeqAt.RcNeAt.lists_lengths p1.isList p2.isList (by simp; lia) Y _ _ _ _ ⟨.bl _,H,I,Z,q⟩
 .rw[Nz hl] at q;show SeqAt.RcNeAt.lists (e:=λi=>true) p1.isList p2.isList (by simp; lia) Y (λj h1 h2=>?_) _ _ _ _ ?_
  .have h1':j < us.length:=by simpa using h1
   lia
  .rw[show us.toArray.size=0 from (show us.length=0 by lia)];exact⟨.bl _,H,I,Z,q⟩
section
variable {X:Cx}
end
def LW (lo:Int) (n:Nat):It:=⟨λi _=>i < n,λi H x H'=>H'=H/\x= .int (lo - i),λi _=>n<=i⟩
section
variable {X:Cx}{tg:Expr}
inductive Mp (R:It->Hp->Prop) (vs:List V) (H1:Hp):Prop | mk (i j:Int) (e0:vs=[.int i,.int j,.int (-1)]) (e1:Builtin.Range.small i j (-1)=true) (q:R (LW i (i - j).toNat) H1)
end
inductive Mu (K:QG) (x y:V) (H:Hp) (Q:VK):Prop | mk (a b:Addr) (xs ys:List V) (e0:x= .ref a) (e1:y= .ref b) (e2:QF K H a xs) (e3:QF K H b ys) (e4:xs.length=ys.length) (e5:xs.all cQ=true) (e6:ys.all cQ=true) (q:Q (.bl (!((List.range xs.length).all λi=>RC (xs.getD i .non) (ys.getD i .non)))) H)
inductive Ms (K:QG) (x y:V) (H:Hp) (k:Prop):Prop | mk (a b:Addr) (xs:List V) (e0:x= .ref a) (e1:y= .ref b) (e2:QF K H a xs) (e3:QF K H b []) (e4:0 < xs.length) (q:k)
section
variable {X:Cx}
end
theorem bM {t u:TS}(h: ∀D':Ends,(∀O' H',u D O' H'->D'.nx O' H')->(∀v H,D.rt v H->D'.rt v H)->t D' O H):FA t u D O H:=h { D with nx:=u D } (λ_ _ z=>z) λ_ _ z=>z
theorem bC.mm {j k:Nat}{A:Around}(r:bC k A) (h:j<=k:=by decide):bC j A:=r.mono h
theorem Q6 (l:List Str) (h:l.Nodup:=by trivial):l.Nodup:=h
theorem Rr:mS 1 (aM 0):=gu aS
inductive JK (x y:V) (H:Hp) (Q:VK):Prop | mk (i j:Str) (e:x= .str i) (f:y= .str j) (g:i.length+j.length<=sizeLine) (q:Q (.str (i++j)) H)
def KU:R2:=λx y H Q=>JK x y H Q
theorem rZ:QU X (binaryOp .Add) KU:=λQE s O H x y v u Q I rx ry ⟨i,j,e,f,g,q⟩=>A2 QE s O H x y v u Q I rx ry ⟨i,j,e,f,g,q⟩
section
variable {X:Cx}{a b e:Expr}{ta tb te:TE}{es:List Expr}{pos p q:Pos}
theorem QH (h:PE X e te) (hs:isStar e=false:=by rfl):PA X [e] (nB te m8):=aq h cP hs
theorem QI (K:QG) (ha:PE X a ta) (hb:PE X b tb) (hK:X.K=K:=by rfl) (hs:oK b:=by exact λ_ _=>rfl):PE X (.Subscript a b pos) (Ry (xB K) ta tb):=by
 subst hK; exact nN ve ha hb hs
theorem QN (K:QG) (ha:PE X a ta) (hb:PE X b tb) (hK:X.K=K:=by rfl) (hs:oK b:=by exact λ_ _=>rfl):PE X (.Subscript a b pos) (Ry (vB K) ta tb):=by
 subst hK; exact nN ye ha hb hs
variable{op:CmpOp}{r:R2}
theorem iK(ho:QU X (compareOp op) r) (ha:PE X a ta) (hb:PE X b tb) (hm:behindInMarks op b=false:=by exact DV _):PE X (.Compare a [op] [b] pos) (Ry r ta tb):=G7 ho ha hb hm
theorem aK(ho:QU X (compareOp op) r) (ha:PE X a ta) (hb:PE X b tb) (hm:behindInMarks op b=false:=by exact DV _):PT X (.Compare a [op] [b] pos) (xf (Ry r ta tb)):=zX ho ha hb hm
theorem SO (K:QG) (hK:X.K=K:=by rfl):QU X (compareOp .In) (Sn K false):=by subst hK; exact C3
theorem LK (K:QG) (hK:X.K=K:=by rfl):QU X (compareOp .NotIn) (Sn K true):=by subst hK; exact yB
theorem BB(ho:QU X (compareOp op) r) (ha:PE X a ta) (hb:PE X b tb) (hm:behindInMarks op b=false:=by with_unfolding_all rfl):PT X (.Compare a [op] [b] pos) (xf (Ry r ta tb)):=zX ho ha hb hm
theorem RA (K:QG) (hK:X.K=K:=by rfl):Ss X (IE K):=by subst hK; exact Hh
theorem gn (i:Nat){x:Str}(hN:X.N.Nodup) (hi:X.N[i]?=some x:=by rfl) (hx:Loc X.env.scope x:=by first | exact Or.inl rfl | exact Or.inr rfl) (hf:X.fn x=true\/X.env.scope.names.lookup x=some .local:=by first | exact .inl rfl | exact .inr rfl | assumption):PG X (.Name x pos) (aM i):=HF hN hi hx hf
theorem QJ (i:Nat){x:Str}{te:TE}{pos':Pos}(hN:X.N.Nodup) (he:PE X e te) (hi:X.N[i]?=some x:=by rfl) (hx:Loc X.env.scope x:=by first | exact Or.inl rfl | exact Or.inr rfl) (hs:swapsWith e (some (.Name x pos')) pos.line X.env=pure false:=by rfl) (hf:X.fn x=true\/X.env.scope.names.lookup x=some .local:=by first | exact .inl rfl | exact .inr rfl | assumption) :
  PS X (.Assign [.Name x pos'] e pos) (uX te (aM i)):=JF hN hi hx he hs hf
theorem dz (K:QG) (ha:PE X a ta) (hK:X.K=K:=by rfl) (he: ∀whole,isTrue a X.env whole=(do let v <-whole; standAt a.pos; holding [v] (truthy v)):=by exact λ_=>rfl):PT X a (E4 K ta):=by subst hK; exact DZ ha he
theorem cA (K:QG) (hm:X.mg "len" = none) (h:PE X e te) (hK:X.K=K:=by rfl) (hg:Gl X "len" := by rfl) (hs:isStar e=false:=by rfl)
  (he:starEach [e] X.env=(false,eval e X.env)::starEach [] X.env:=by rfl) (hpl:(backTo pos (starEach [] X.env)).any (·.1)=false:=by rfl):PE X (.Call (.Name "len" p) [e] [] pos) (So (FP K) (nB te m8)):=by
 subst hK; exact bP wg hg hm boot_len (aq h cP hs) aS aS he hpl
theorem cE (K:QG){f:Str}(he:PE X e ta) (hK:X.K=K:=by rfl) (hb:attributeBase e f X.env (eval e X.env)=eval e X.env:=by rfl):PE X (.Attribute e f pos) (JO K ta f):=by subst hK; exact Ji he hb
theorem eE (K:QG){tg:Expr}(hl:PE X e te) (hK:X.K=K:=by rfl):PI X tg e (F7 K te):=by subst hK; exact GW hl
theorem dq {tg:Expr}{te:TE}(hm:X.mg "range" = none) (h:PE X e te) (hg:Gl X "range" := by rfl) (hi:isStar e=false:=by rfl) (hs:starEach [e] X.env=[(false,eval e X.env)]:=by rfl):PI X tg (.Call (.Name "range" p) [e] [] pos) (F9 (nB te m8)):=Dk hg hm (aq h cP hi) hs
theorem ia (K:QG){o:Expr}{to:TE}{apos cpos:Pos}(ho:PE X o to) (h:PE X e te) (hK:X.K=K:=by rfl) (hsr:isStar e=false:=by rfl) (hbase:attributeBase o "append" X.env (eval o X.env)=eval o X.env:=by rfl)
  (hfew:((backTo cpos (starEach [e] X.env)).all (λx=> !x.1) && (backToKw cpos (keywordEach [] X.env)).all (λx=>x.1.isSome)
   && decide ([e].length+([]:List Keyword).length+(if ([]:List Keyword).isEmpty then 0 else 1) < 30))=true:=by rfl)
  (hline:(apos.endLine == cpos.line)=true:=by rfl) (hs:starEach [e] X.env=(false,eval e X.env)::starEach [] X.env:=by rfl) (hplain:(backTo cpos (starEach [] X.env)).any (·.1)=false:=by rfl) :
  PE X (.Call (.Attribute o "append" apos) [e] [] cpos) (RH K "list" zU to (nB te m8)):=by
 subst hK; exact iE NI PySem.F.slot_list_append PySem.F.type_list_append DS ho (aq h cP hsr) hbase hfew hline hs hplain
theorem cm {tg iter:Expr}{body:List Stmt}{wi:TI}{g:TG}{tb:TS}(hi:PI X tg iter wi) (hg:PG X tg g) (hb:Q0 X body tb) (hp:PassesOwn (model X.prog X.w) X.A X.env X.xe:=by exact Po) (hc:X.calm=true:=by rfl)
  (hs: ∀x,foldedSetIterable iter X.env x=pure x:=by intro _; rfl):PS X (.For tg iter body [] pos) (Jp wi g tb):=Ik hp hc hi hg hb hs
section
variable {scope:Scope}{tg elt iter:Expr}{ifs:List Expr}{wi:TI}{g:TG}{tt:TT}
theorem iZ (st:Stmt) (own frn:List Str) (fr:List Nat) (go:mS own.length g) (hi:PI X tg iter wi)
  (hb: ∀C s2 H2 fp,PG (bc X (own++frn) scope C s2 H2 fp) tg g/\RQ (bc X (own++frn) scope C s2 H2 fp) ifs tt/\PE (bc X (own++frn) scope C s2 H2 fp) elt te)
  (S:i8 (aj st) scope own frn:=by exact⟨Z,by trivial,by trivial,by trivial,by trivial,by trivial⟩) (hp:X.env.scope=aj st:=by rfl) (hfr:fr.map (λj=>X.N[j]?)=frn.map some:=by rfl) (hc:X.calm=true:=by rfl)
  (hs: ∀x,foldedSetIterable iter X.env x=pure x:=by intro _; rfl):PE X (.ListComp elt [⟨tg,iter,ifs,0⟩] scope pos) (sx wi g tt te own fr):=HN S hp hfr hc go hi hb hs
theorem Sk (i:Nat){y:Str}{py spos:Pos}(hN:X.N.Nodup) (st:Stmt) (own frn:List Str) (fr:List Nat) (go:mS own.length g) (hi:PI X tg iter wi)
  (hb: ∀C s2 H2 fp,PG (bc X (own++frn) scope C s2 H2 fp) tg g/\RQ (bc X (own++frn) scope C s2 H2 fp) ifs tt/\PE (bc X (own++frn) scope C s2 H2 fp) elt te)
  (hy:X.N[i]?=some y:=by rfl) (hl:Loc X.env.scope y:=by first | exact Or.inl rfl | exact Or.inr rfl)
  (S:i8 (aj st) scope own frn:=by exact⟨Z,by trivial,by trivial,by trivial,by trivial,by trivial⟩) (hp:X.env.scope=aj st:=by rfl) (hfr:fr.map (λj=>X.N[j]?)=frn.map some:=by rfl) (hc:X.calm=true:=by rfl)
  (hsw:swapsWith (.ListComp elt [⟨tg,iter,ifs,0⟩] scope pos) (some (.Name y py)) spos.line X.env=pure true:=by rfl)
  (hs: ∀x,foldedSetIterable iter X.env x=pure x:=by intro _; rfl)
  (hf:X.fn y=true\/X.env.scope.names.lookup y=some .local:=by first | exact .inl rfl | exact .inr rfl | assumption) :
  PS X (.Assign [.Name y py] (.ListComp elt [⟨tg,iter,ifs,0⟩] scope pos) spos) (uX (sx wi g tt te own fr) (aM i)):=GV hN hy hl S hp hfr hc go hi hb hsw hs hf
end
end
section
variable {P:Program}{w:World}{K:QG}{mg:oR}{base:Heap}{x m qual:Str}{C:Addr}{st:Stmt}{N ps:List Str}{k:Nat}{sp:Sp}
theorem cj (h:TF K mg x st) (S:ax N ps (aj st)) (hbody: ∀(f:Addr) (cdv:Value) (A:Around) (outer:List Env) (s:Shared) (H:Hp) (vs:List V) (Q:VK) (E:XK),bC k (A.deeper (envOfC x (aj st) s.heap.objs.size f cdv))->sp vs H Q E ->
   ∃t,Q0 ((fW Rc P w K mg base N x (aj st) f cdv A outer s H E).RM) (bN st) t/\t { nx:=λ_ H'=>Q .non H',rt:=Q } (start N vs) H)
  (hb: ∀(kV doc pm:Value) (an:Option Addr) (cdv ct:Value) (us:List Value),us.length=ps.length->bindArgs (PySem.W.fnOf x x (cU st) (bN st) (aj st) .none kV doc pm an cdv ct) ⟨us,[]⟩=pure (ps.zip us):=by trivial)
  (len: ∀vs H Q E,sp vs H Q E->vs.length=ps.length:=by trivial):QS P w K mg base (k+1) x ps sp:=kM h S hb len hbody
theorem vz (h:TF K mg x st) (S:ax N ps (aj st)) (hbody: ∀(f:Addr) (cdv:Value) (A:Around) (outer:List Env) (s:Shared) (H:Hp) (vs:List V) (Q:VK) (E:XK),bC k (A.deeper (envOfC x (aj st) s.heap.objs.size f cdv))->sp vs H Q E ->
   ∃t,Q0 ((fW (Rj P w) P w K mg base N x (aj st) f cdv A outer s H E).exc [] λ_=>E) (bN st) t/\t { nx:=λ_ H'=>Q .non H',rt:=Q } (start N vs) H)
  (hb: ∀(kV doc pm:Value) (an:Option Addr) (cdv ct:Value) (us:List Value),us.length=ps.length->bindArgs (PySem.W.fnOf x x (cU st) (bN st) (aj st) .none kV doc pm an cdv ct) ⟨us,[]⟩=pure (ps.zip us):=by trivial)
  (len: ∀vs H Q E,sp vs H Q E->vs.length=ps.length:=by trivial):RN P w K mg base (k+1) x ps sp:=JV h S hb len hbody
theorem tZ (h:TM K C m qual st) (S:ax N ps (aj st)) (hbody: ∀(f:Addr) (cdv:Value) (A:Around) (outer:List Env) (s:Shared) (H:Hp) (vs:List V) (Q:VK) (E:XK),bC k (A.deeper (envOfC qual (aj st) s.heap.objs.size f cdv))->sp vs H Q E ->
   ∃t,Q0 ((fW Rc P w K mg base N qual (aj st) f cdv A outer s H E).RM) (bN st) t/\t { nx:=λ_ H'=>Q .non H',rt:=Q } (start N vs) H)
  (hb: ∀(kV doc pm:Value) (an:Option Addr) (cdv ct:Value) (us:List Value),us.length=ps.length->bindArgs (PySem.W.fnOf m qual (cU st) (bN st) (aj st) .none kV doc pm an cdv ct) ⟨us,[]⟩=pure (ps.zip us):=by trivial)
  (len: ∀vs H Q E,sp vs H Q E->vs.length=ps.length:=by trivial):GM Rc P w K mg base (k+1) C m ps sp:=IB h S hb len hbody
theorem iR (h:TM K C m qual st) (S:ax N ps (aj st)) (hbody: ∀(f:Addr) (cdv:Value) (A:Around) (outer:List Env) (s:Shared) (H:Hp) (vs:List V) (Q:VK) (E:XK),bC k (A.deeper (envOfC qual (aj st) s.heap.objs.size f cdv))->sp vs H Q E ->
   ∃t,Q0 ((fW (Rj P w) P w K mg base N qual (aj st) f cdv A outer s H E).exc [] λ_=>E) (bN st) t/\t { nx:=λ_ H'=>Q .non H',rt:=Q } (start N vs) H)
  (hb: ∀(kV doc pm:Value) (an:Option Addr) (cdv ct:Value) (us:List Value),us.length=ps.length->bindArgs (PySem.W.fnOf m qual (cU st) (bN st) (aj st) .none kV doc pm an cdv ct) ⟨us,[]⟩=pure (ps.zip us):=by trivial)
  (len: ∀vs H Q E,sp vs H Q E->vs.length=ps.length:=by trivial):GM (Rj P w) P w K mg base (k+1) C m ps sp:=J4 h S hb len hbody
end
end L2
namespace MA
def nj (n:Nat) (rs:List ao) (L:List Int) (cs:List (Option Int)) (m:Int) (i:Nat):Option (Int×Nat)->Prop
 | none=> ∀(v:Nat) (c:Int),v < i->cs.getD v none=some c->aE n rs m.toNat v < 0
 | some (s,stop)=>stop < i/\(∃c,cs.getD stop none=some c/\0<=aE n rs m.toNat stop/\c=g L m+s+aE n rs m.toNat stop) /\
   (∀(v:Nat) (c:Int),v < i->cs.getD v none=some c->0<=aE n rs m.toNat v->g L m+s+aE n rs m.toNat v<=c)/\ ∀(v:Nat) (c:Int),v < stop->cs.getD v none=some c->0<=aE n rs m.toNat v->g L m+s+aE n rs m.toNat v < c
section
variable {n:Nat}{rs:List ao}{L:List Int}{cs:List (Option Int)}{m:Int}{i:Nat}
theorem KJ:nj n rs L cs m 0 none:=λv c h=>absurd h (NP v)
variable{o:Option (Int×Nat)}
theorem Eu(h:nj n rs L cs m i o) (z: ∀c,cs.getD i none=some c->aE n rs m.toNat i < 0):nj n rs L cs m (i+1) o:=by
 cases o with
 | none =>
  intro v c hv hc;rcases O0.mp hv with hv | rfl
  .exact h v c hv hc
  .exact z c hc
 | some p =>
  obtain⟨s,stop⟩:=p;obtain⟨a,b,d,e⟩:=h;show⟨Y,b,λv c hv hc hf=>?_,e⟩;rcases O0.mp hv with hv | rfl
  .exact d v c hv hc hf
  .have:=z c hc; lia
theorem Er {c0:Int}(h:nj n rs L cs m i o) (hc0:cs.getD i none=some c0) (hf0:0<=aE n rs m.toNat i) (z: ∀s stop,o=some (s,stop)->c0 - aE n rs m.toNat i - g L m < s):nj n rs L cs m (i+1) (some (c0 - aE n rs m.toNat i - g L m,i)):=by
 have old: ∀(v:Nat) (c:Int),v < i->cs.getD v none=some c->0<=aE n rs m.toNat v->g L m+(c0 - aE n rs m.toNat i - g L m)+aE n rs m.toNat v < c:=λv c hv hc hf=>by
  cases o with
  | none=>have:=h v c hv hc; lia
  | some p =>
   obtain⟨s,stop⟩:=p;have:=h.2.2.1 v c hv hc hf;have:=z s stop rfl;lia
 show⟨Y,⟨c0,hc0,hf0,Y⟩,λv c hv hc hf=>?_,old⟩;rcases O0.mp hv with hv | rfl
 .have:=old v c hv hc hf; lia
 .rw[hc0] at hc; cases hc; lia
theorem F0 {s c0:Int}{stop:Nat}(h:nj n rs L cs m i (some (s,stop))) (hc0:cs.getD i none=some c0) (z: ¬c0 - aE n rs m.toNat i - g L m < s):nj n rs L cs m (i+1) (some (s,stop)):=by
 obtain⟨a,b,d,e⟩:=h;show⟨Y,b,λv c hv hc hf=>?_,e⟩;rcases O0.mp hv with hv | rfl
 .exact d v c hv hc hf
 .rw[hc0] at hc; cases hc; lia
theorem tX {o':Option (Int×Nat)}(h:nj n rs L cs m n o) (h':gW n rs L cs m o'):o=o':=by
 cases o with
 | none =>
  cases o' with
  | none=>rfl
  | some p' =>
   obtain⟨s',t'⟩:=p';obtain⟨_,a,⟨c,b,d,_⟩,_⟩:=h';have:=h t' c a b;lia
 | some p =>
  obtain⟨s,t⟩:=p;obtain⟨a,⟨c,b,d,e⟩,f,k⟩:=h;cases o' with
  | none=>have:=h' t c a b; lia
  | some p' =>
   obtain⟨s',t'⟩:=p';obtain⟨_,a',⟨c',b',d',e'⟩,f',k'⟩:=h';have x1:=f t' c' a' b' d';have x2:=f' t c a b d;obtain rfl:s=s':=Y;rcases Nat.lt_trichotomy t t' with z | z | z
   .have:=k' t c z b d; lia
   .rw[z]
   .have:=k t' c' z b' d'; lia
end
end MA
namespace L2
open PySem PySem.Spec PyProof.Rows
section
variable {os:List Addr}{n n':Nat}{H:Hp}{ts ln la dd:Addr}{vs vs':List V}{kvs kvs':QX}{ms ms':List Mem}{ds ds':List QQ}
theorem Q3.D7 (l:Q3 os n H ts ln la dd vs kvs ms ds) (hne:ln≠la) (ar:F2 (BL os H) vs' ds'):Q3 os n (upd H la (.lst vs')) ts ln la dd vs' kvs ms ds':=by
 have n1:ts≠la:=λz=>by have:=l.ht; rw[z,l.ha] at this; cases this
 have n2:dd≠la:=λz=>by have:=l.hd; rw[z,l.ha] at this; cases this
 exact⟨l.t0,(ah n1).trans l.ht,l.n0,(ah hne).trans l.hn,l.a0,aa,ar.imp λv d ⟨t,e,nt,ht⟩=>⟨t,e,nt,(ah λz=>by rw[z,l.ha] at ht; cases ht).trans ht⟩,l.d0,(ah n2).trans l.hd,l.cp,l.kl⟩
theorem Q3.dict (l:Q3 os n H ts ln la dd vs kvs ms ds) (e:ms'.map (·.1)=ms.map (·.1)) (cp: ∀m,aR kvs' (Sum.inr m)=(bw ms' m).map V.int) (kl:kvs'.length<=n'):Q3 os n' (upd H dd (.dK kvs')) ts ln la dd vs kvs' ms' ds:=by
 have n1:ts≠dd:=λz=>by have:=l.ht; rw[z,l.hd] at this; cases this
 have n2:la≠dd:=λz=>by have:=l.ha; rw[z,l.hd] at this; cases this
 have n3:ln≠dd:=λz=>by have:=l.hn; rw[z,l.hd] at this; cases this
 exact⟨l.t0,(ah n1).trans l.ht,l.n0,(ah n3).trans (by rw[e]; exact l.hn),l.a0,(ah n2).trans l.ha,l.ar.imp λv d ⟨t,e,nt,ht⟩=>⟨t,e,nt,(ah λz=>by rw[z,l.hd] at ht; cases ht).trans ht⟩,l.d0,aa,cp,kl⟩
end
end L2
local macro_rules | `(tactic| trivial)=> `(tactic| first | exact λ_ _ _ _ _ _=>L2.SD λ_=>rfl | exact λ_ _ _ _ _ _=>L2.SF λ_ _=>rfl | exact λ_ _ _ _ _ _=>L2.R9 λ_ _ _=>rfl | exact λ_ _ _ _ _ _=>L2.Sl λ_ _ _ _=>rfl | exact λ_ _ _ _ _ _=>L2.SS λ_ _ _ _ _=>rfl | exact λ_ _ _ _ _ _=>L2.Th λ_ _ _ _ _ _=>rfl | exact λ_ _ _ _ _ _=>L2.SV rfl | (intro vs H Q E h; cases h; subst_vars; exact rfl) | (intro vs H Q E h; repeat first | (obtain⟨e,_⟩:=h; subst e; exact rfl) | (obtain⟨_,h⟩:=h)))
local macro_rules|`(tactic|trivial)=>`(tactic|decide +kernel)
namespace L2
theorem bC.z {j k:Nat}{A:PySem.Around}(r:bC k A) (h:j<=k:=by decide):bC j A:=r.mono h
end L2
namespace K39
open PySem L2
abbrev rW(a:PySem.Addr):Option L2.V:=some (.ref a)
theorem QP {N P:List Str}{sc:Scope}(k:sc.kind= .function:=by rfl) (c:sc.isCoroutine=false:=by rfl) (g:sc.isGenerator=false:=by rfl) (n:N.Nodup:=by trivial) (p:N.take P.length=P:=by rfl) (r: ∀x∈P,sc.names.lookup x=some .local\/sc.names.lookup x=some .cell:=by trivial) (f: ∀y∈sc.names,y.2≠ .free:=by trivial):ax N P sc:=⟨k,c,g,n,p,r,f⟩
theorem Tv (K:QG){X:Cx}{a b:Expr}{ta tb:TE}{pos:Pos}(ha:PE X a ta) (hb:PE X b tb) (hs:oK b:=by exact λ_ _=>rfl) (e:X.K=K:=by rfl):PE X (.Subscript a b pos) (Ry (xB K) ta tb):=e▸nN ve ha hb hs
theorem Tr (K:QG){X:Cx}{a b:Expr}{ta tb:TE}{pos:Pos}(ha:PE X a ta) (hb:PE X b tb) (hs:oK b:=by exact λ_ _=>rfl) (e:X.K=K:=by rfl):PE X (.Subscript a b pos) (Ry (vB K) ta tb):=e▸nN ye ha hb hs
theorem ML (K:QG){X:Cx}{p pos:Pos}{e:Expr}{es:List Expr}{t:TA}(hm:X.mg "len" = none) (ha:PA X (e::es) t) (hg:Gl X "len" := by rfl) (he:starEach (e::es) X.env=(false,eval e X.env)::starEach es X.env:=by rfl) (hpl:(backTo pos (starEach es X.env)).any (·.1)=false:=by rfl) (eK:X.K=K:=by rfl):PE X (.Call (.Name "len" p) (e::es) [] pos) (So (FP K) t):=eK▸bP wg hg hm boot_len ha aS aS he hpl
theorem QR {m:Str}{p q r:Addr}(h:((m == "member_rows") || (m == "demand_rows") || (m == "kept_deeds"))=false:=by trivial):(nF p q r).lookup m=none:=by
 rw[Bool.or_eq_false_iff,Bool.or_eq_false_iff] at h;exact (bx h.1.1).trans ((bx h.1.2).trans ((bx h.2).trans rfl))
def top (i:Nat):Stmt:=PySem.Challenge.pw_stairgauge_k39_whole_asked_again.main.body.getD i (.Pass ⟨0,0,0,0⟩)
abbrev tw:Stmt:=top 12
theorem Dj:ax ["number","span"] ["number","span"] (aj tw):=QP
abbrev qL:Stmt:=top 15
theorem Bu:ax ["rule"] ["rule"] (aj qL):=QP
abbrev lO:Stmt:=top 16
theorem vF:ax ["rule","widths"] ["rule","widths"] (aj lO):=QP
abbrev rb:Stmt:=top 17
theorem pS:ax ["rules","widths","wider","rule"] ["rules","widths"] (aj rb):=QP
abbrev jQ:Stmt:=top 18
theorem fc:ax ["count","rules","widths","spent","wider"] ["count","rules"] (aj jQ):=QP
abbrev pq:Stmt:=top 20
theorem zg:ax ["rule","widths"] ["rule","widths"] (aj pq):=QP
abbrev ko:Stmt:=top 21
theorem e8:ax ["rules","widths","goal","fewest","waiting","member","rule"] ["rules","widths","goal"] (aj ko):=QP
abbrev eP:Stmt:=top 22
theorem jM:ax ["rules","widths","fewest","places","nearest"] ["rules","widths","fewest"] (aj eP):=QP
abbrev gL:Stmt:=top 23
theorem lD:ax ["rules","widths","fewest","member","nearer","links"] ["rules","widths","fewest","member"] (aj gL):=QP
abbrev pB:Stmt:=top 24
theorem kC:ax ["count","rules","member","widths","fewest","chain"] ["count","rules","member"] (aj pB):=QP
abbrev qM:Stmt:=top 26
theorem uf:ax ["count","rules","place","others"] ["count","rules","place"] (aj qM):=QP
abbrev kn:Stmt:=top 38
theorem uM:ax ["sign"] ["sign"] (aj kn):=QP
abbrev kD:Stmt:=top 39
theorem xr:ax ["text"] ["text"] (aj kD):=QP
abbrev qW:Stmt:=top 41
theorem uA:ax ["people","each","over","width"] ["people","each","over"] (aj qW):=QP
abbrev pW:Stmt:=top 43
theorem gj:ax ["rules","start","goal","ways","waiting","member","place","rule"] ["rules","start","goal"] (aj pW):=QP
abbrev oj:Stmt:=top 44
theorem jj:ax ["count","rules","place","rule","way"] ["count","rules"] (aj oj):=QP
abbrev vc:Stmt:=top 46
theorem Fn:ax ["width","top"] ["width","top"] (aj vc):=QP
abbrev mI:Stmt:=top 47
theorem lj:ax ["widths","tops","place","width"] ["widths","tops"] (aj mI):=QP
abbrev tF:Stmt:=top 48
theorem Co:ax ["width","top"] ["width","top"] (aj tF):=QP
abbrev jz:Stmt:=top 49
theorem gh:ax ["count","rules","tops","member","least","growth","widths","excesses","worst"] ["count","rules","tops","member"] (aj jz):=QP
abbrev iO:Stmt:=top 51
theorem sH:ax ["name","names"] ["name","names"] (aj iO):=QP
abbrev pK:Stmt:=top 52
theorem y9:ax ["name","names"] ["name","names"] (aj pK):=QP
abbrev ig:Stmt:=top 53
theorem qS:ax ["name","names"] ["name","names"] (aj ig):=QP
abbrev iW:Stmt:=top 54
theorem sF:ax ["number","span"] ["number","span"] (aj iW):=QP
abbrev lx:Stmt:=top 55
theorem vP:ax ["count","most"] ["count","most"] (aj lx):=QP
abbrev qE:Stmt:=top 56
theorem ua:ax ["row","names","base"] ["row","names"] (aj qE):=QP
abbrev oo:Stmt:=top 59
theorem eu:ax ["_law_script","_law_many","_law_words_here","_law_word","_law_k","_law_cell"] ["_law_script","_law_many"] (aj oo):=QP
abbrev nV:Stmt:=top 60
theorem bU:ax ["_law_word","_law_many","_law_signs","_law_stem","_law_left","_law_k","_law_spot","_law_made","_law_sign","_law_row_here","_law_five"] ["_law_word","_law_many"] (aj nV):=QP
abbrev oA:Stmt:=top 61
theorem xw:ax ["_law_found"] ["_law_found"] (aj oA):=QP
abbrev mQ:Stmt:=top 62
theorem gf:ax ["_law_word","_law_count","_law_left","_law_made","_law_k"] ["_law_word","_law_count"] (aj mQ):=QP
abbrev qb:Stmt:=top 63
theorem cO:ax ["_law_words_here","_law_count","_law_levels_here","_law_small","_law_made","_law_word","_law_on","_law_base","_law_size","_law_more"] ["_law_words_here","_law_count","_law_levels_here","_law_small"] (aj qb):=QP
abbrev mJ:Stmt:=top 64
theorem iJ:ax ["_law_rules_here","_law_order","_law_turned","_law_made","_law_k"] ["_law_rules_here","_law_order","_law_turned"] (aj mJ):=QP
abbrev eg:Stmt:=top 65
theorem fF:ax ["_law_words_here","_law_count","_law_wide","_law_more","_law_order","_law_links","_law_a","_law_b","_law_turn"] ["_law_words_here","_law_count","_law_wide","_law_more"] (aj eg):=QP
abbrev g5:Stmt:=top 66
theorem cY:ax ["_law_script","_law_words_here","_law_count","_law_kind","_law_many","_law_levels_here","_law_order","_law_rules_here"] ["_law_script"] (aj g5):=QP
abbrev nJ:Stmt:=top 67
theorem dZ:ax ["_law_count","_law_rules_here","_law_far_here","_law_k","_law_on","_law_base","_law_more","_law_mid","_law_a","_law_b"] ["_law_count","_law_rules_here"] (aj nJ):=QP
abbrev og:Stmt:=top 68
theorem cZ:ax ["_law_count","_law_rules_here","_law_far_here","_law_first","_law_on","_law_base","_law_more","_law_due","_law_a","_law_b"] ["_law_count","_law_rules_here"] (aj og):=QP
abbrev lV:Stmt:=top 69
theorem zr:ax ["_law_rules_here"] ["_law_rules_here"] (aj lV):=QP
abbrev ox:Stmt:=top 70
theorem dP:ax ["_law_rules_here","_law_names_here","_law_calls","_law_house","_law_name","_law_asked","_law_k","_law_on","_law_base","_law_more"] ["_law_rules_here","_law_names_here","_law_calls"] (aj ox):=QP
abbrev nS:Stmt:=top 71
theorem dH:ax ["_law_state","_law_made","_law_call","_law_member","_law_base","_law_number","_law_spot"] ["_law_state"] (aj nS):=QP
abbrev m7:Stmt:=top 72
theorem lK:ax ["_law_count","_law_rules_here","_law_far_here","_law_k"] ["_law_count","_law_rules_here"] (aj m7):=QP
abbrev mP:Stmt:=top 73
theorem qv:ax ["_law_widths","_law_caps","_law_k"] ["_law_widths","_law_caps"] (aj mP):=QP
abbrev iH:Stmt:=top 74
theorem vy:ax ["_law_state"] ["_law_state"] (aj iH):=QP
abbrev h8:Stmt:=top 75
theorem aO:ax ["_law_count","_law_rules_here","_law_widths","_law_member","_law_left","_law_turn","_law_on","_law_base","_law_more","_law_way","_law_at","_law_spot","_law_place","_law_fits"] ["_law_count","_law_rules_here","_law_widths","_law_member"] (aj h8):=QP
abbrev nT:Stmt:=top 76
theorem rg:ax ["_law_found","_law_due","_law_k"] ["_law_found","_law_due"] (aj nT):=QP
abbrev rK:Stmt:=top 77
theorem t5:ax ["_law_found","_law_due","_law_k"] ["_law_found","_law_due"] (aj rK):=QP
abbrev ju:Stmt:=top 78
theorem tM:ax ["_law_house"] ["_law_house"] (aj ju):=QP
abbrev jE:Stmt:=top 79
theorem cS:ax ["_law_state","_law_rules_here","_law_widths","_law_member","_law_far_here","_law_caps","_law_due","_law_k","_law_room"] ["_law_state","_law_rules_here","_law_widths","_law_member"] (aj jE):=QP
abbrev eF:Stmt:=top 80
theorem de:ax ["_law_house","_law_state","_law_rules_here","_law_widths","_law_k","_law_way","_law_due","_law_found"] ["_law_house","_law_state","_law_rules_here","_law_widths"] (aj eF):=QP
abbrev om:Stmt:=top 81
theorem dc:ax ["_law_house","_law_state","_law_calls","_law_rules_here","_law_count","_law_reason","_law_widths","_law_due","_law_k","_law_found","_law_less"] ["_law_house","_law_state","_law_calls"] (aj om):=QP
abbrev jr:Stmt:=top 82
theorem dW:ax ["_law_house","_law_state","_law_word","_law_topped","_law_name","_law_call","_law_member","_law_base","_law_number"] ["_law_house","_law_state","_law_word"] (aj jr):=QP
abbrev lG:Stmt:=top 83
theorem g4:ax ["_law_house","_law_state","_law_thing","_law_size","_law_call","_law_member","_law_base"] ["_law_house","_law_state","_law_thing","_law_size"] (aj lG):=QP
abbrev i5:Stmt:=top 84
theorem sL:ax ["_law_house","_law_state","_law_thing"] ["_law_house","_law_state","_law_thing"] (aj i5):=QP
abbrev AI:Stmt:=top 85
theorem fK:ax ["_law_script","_law_count","_law_rules_here","_law_words_here","_law_calls","_law_house","_law_state","_law_widths","_law_k","_law_word","_law_thing"] ["_law_script"] (aj AI):=QP
abbrev mG:Stmt:=inClass (top 57) 0
theorem wX:ax ["self"] ["self"] (aj mG):=QP
abbrev ij:Stmt:=inClass (top 57) 1
theorem qZ:ax ["self"] ["self"] (aj ij):=QP
abbrev gI:Stmt:=inClass (top 57) 2
theorem qx:ax ["self","name"] ["self","name"] (aj gI):=QP
abbrev ik:Stmt:=inClass (top 57) 3
theorem qP:ax ["self","name","member","people","each","over"] ["self","name","member","people","each","over"] (aj ik):=QP
abbrev iQ:Stmt:=inClass (top 57) 4
theorem sC:ax ["self","name","member","base","more"] ["self","name","member","base","more"] (aj iQ):=QP
abbrev fX:Stmt:=inClass (top 57) 5
theorem oQ:ax ["self","row"] ["self","row"] (aj fX):=QP
abbrev jC:Stmt:=inClass (top 57) 6
theorem mC:ax ["self","member","width","place"] ["self","member","width"] (aj jC):=QP
abbrev g0:Stmt:=inClass (top 57) 7
theorem jI:ax ["self","place","top","row"] ["self","place","top"] (aj g0):=QP
abbrev fM:Stmt:=inClass (top 57) 9
theorem iy:ax ["self","name","place"] ["self","name"] (aj fM):=QP
abbrev gR:Stmt:=inClass (top 57) 10
theorem jH:ax ["self","member","place"] ["self","member"] (aj gR):=QP
abbrev ib:Stmt:=inClass (top 57) 11
theorem lg:ax ["self","stood"] ["self"] (aj ib):=QP
abbrev gD:Stmt:=inClass (top 57) 12
theorem tY:ax ["self"] ["self"] (aj gD):=QP
abbrev d9:Stmt:=inClass (top 57) 15
theorem oI:ax ["self"] ["self"] (aj d9):=QP
abbrev dr:Stmt:=inClass (top 57) 16
theorem mF:ax ["self"] ["self"] (aj dr):=QP
abbrev iI:Stmt:=inClass (top 57) 17
theorem oZ:ax ["self","names"] ["self"] (aj iI):=QP
abbrev fO:Stmt:=inClass (top 57) 18
theorem sE:ax ["self","places"] ["self","places"] (aj fO):=QP
abbrev jL:Stmt:=inClass (top 57) 19
theorem nA:ax ["self","least"] ["self"] (aj jL):=QP
abbrev gw:Stmt:=inClass (top 57) 20
theorem jv:ax ["self","name","names","place"] ["self","name","names"] (aj gw):=QP
abbrev lR:Stmt:=inClass (top 57) 21
theorem oX:ax ["self","member","place"] ["self","member"] (aj lR):=QP
abbrev oC:Stmt:=inClass (top 57) 22
theorem gP:ax ["self","count","rules","ring","place"] ["self"] (aj oC):=QP
abbrev lB:Stmt:=inClass (top 57) 23
theorem km:ax ["self","member","place","found"] ["self","member"] (aj lB):=QP
abbrev mR:Stmt:=inClass (top 57) 24
theorem qo:ax ["self","demand","place"] ["self","demand"] (aj mR):=QP
def tabs:List Addr:=[531,536]
structure Adr where
 (Unknown InUse BadName BadNumber TooMuch Full NothingBack NoWidths House oh qj P_law_woven P_law_case:Addr)
structure Txt (K:QG) (mg:oR) (a:Adr):Prop where
 aw:TC K mg a.House "House"
 aG:f6 K a.House "member_rows"
 aW:f6 K a.House "demand_rows"
 cy:f6 K a.House "kept_deeds"
 t4:TF K mg "inside" tw
 rf:TF K mg "is_link" qL
 lq:TF K mg "asked_width" lO
 qO:TF K mg "widened" rb
 jV:TF K mg "least_widths" jQ
 pN:TF K mg "hands_on" pq
 jN:TF K mg "fewest_links" ko
 lu:TF K mg "first_place" eP
 mL:TF K mg "next_place" gL
 pA:TF K mg "chain_of" pB
 qU:TF K mg "cost_of" qM
 jZ:TF K mg "small_letter" kn
 n8:TF K mg "good_name" kD
 rE:TF K mg "portion" qW
 pH:TF K mg "find_way" pW
 oy:TF K mg "find_ring" oj
 u6:TF K mg "above" vc
 mX:TF K mg "first_wide" mI
 tL:TF K mg "excess" tF
 qg:TF K mg "slack_of" jz
 i4:TF K mg "refuse_unknown" iO
 pk:TF K mg "place_of" pK
 iq:TF K mg "refuse_new_name" ig
 iU:TF K mg "refuse_outside" iW
 lr:TF K mg "refuse_full" lx
 qA:TF K mg "as_rule" qE
 nU:TF K mg "_law_words" oo
 oz:TF K mg "_law_names" nV
 ot:TF K mg "_law_whole" oA
 ni:TF K mg "_law_levels" mQ
 pP:TF K mg "_law_calm" qb
 mV:TF K mg "_law_ladder" mJ
 kF:RU K mg "_law_woven" eg a.oh a.P_law_woven
 lX:RU K mg "_law_case" g5 a.qj a.P_law_case
 rC:TF K mg "_law_far" nJ
 nQ:TF K mg "_law_least" og
 pT:TF K mg "_law_thin" lV
 nX:TF K mg "_law_built" ox
 n6:TF K mg "_law_rules" nS
 mZ:TF K mg "_law_ringed" m7
 mD:TF K mg "_law_passed" mP
 lz:TF K mg "_law_caps_of" iH
 ic:TF K mg "_law_first_chain" h8
 ou:TF K mg "_law_texts" nT
 qJ:TF K mg "_law_row" rK
 jB:TF K mg "_law_widths_of" ju
 jw:TF K mg "_law_slack_due" jE
 gv:TF K mg "_law_members_right" eF
 nR:TF K mg "_law_right" om
 nv:TF K mg "_law_struck" jr
 lL:TF K mg "_law_brought" lG
 iM:TF K mg "_law_taken_back" i5
 xk:TF K mg "law" AI
 m6:TM K a.House "__init__" "House.__init__" mG
 g9:TM K a.House "keep_deed" "House.keep_deed" ij
 gX:TM K a.House "add_member" "House.add_member" gI
 ie:TM K a.House "add_plain" "House.add_plain" ik
 iP:TM K a.House "add_link" "House.add_link" iQ
 fS:TM K a.House "bring_demand" "House.bring_demand" fX
 jF:TM K a.House "set_top" "House.set_top" jC
 gF:TM K a.House "change_top" "House.change_top" g0
 fA:TM K a.House "strike_demand" "House.strike_demand" fM
 gH:TM K a.House "strike_top" "House.strike_top" gR
 ip:TM K a.House "take_back" "House.take_back" ib
 jt:TM K a.House "members" "House.members" gD
 fV:TM K a.House "demand_names" "House.demand_names" d9
 eM:TM K a.House "greatest_widths" "House.greatest_widths" dr
 ly:TM K a.House "rules" "House.rules" iI
 iX:TM K a.House "names_at" "House.names_at" fO
 jY:TM K a.House "widths" "House.widths" jL
 gA:TM K a.House "asked_place" "House.asked_place" gw
 lP:TM K a.House "chain" "House.chain" lR
 oq:TM K a.House "why" "House.why" oC
 lN:TM K a.House "slack" "House.slack" lB
 mY:TM K a.House "cost" "House.cost" mR
 mU:jh K mg "NAME_SIGNS" [.int 1,.int 8]
 tE:jh K mg "PEOPLE" [.int 0,.int 999]
 yv:jh K mg "EACH" [.int 1,.int 999]
 xP:jh K mg "OVER" [.int 1,.int 999]
 jR:mH mg "PORTION_MOST" (.int 99999)
 j7:mH mg "MEMBERS_MOST" (.int 12)
 ku:mH mg "DEMANDS_MOST" (.int 24)
 nW:jh K mg "LINK_MORE" [.int 0,.int 99]
 nO:jh K mg "TOP_WIDTH" [.int 0,.int 99999]
 mE:mH mg "DEEDS_MOST" (.int 150)
 kR:mH mg "NO_BASE" (.int (-1))
 AO:mg "all" = none
 xV:mg "bool" = none
 ft:mg "enumerate" = none
 xp:mg "int" = none
 dI:mg "isinstance" = none
 bT:mg "len" = none
 qH:mg "list" = none
 lW:mg "max" = none
 sy:mg "min" = none
 bh:mg "range" = none
 mO:mg "sorted" = none
 Bt:mg "str" = none
 r6:mg "sum" = none
 u7:mg "tuple" = none
 BA:mg "zip" = none
 nM:XC K mg "Unknown" a.Unknown
 se:XC K mg "InUse" a.InUse
 qT:XC K mg "BadName" a.BadName
 kE:XC K mg "BadNumber" a.BadNumber
 ra:XC K mg "TooMuch" a.TooMuch
 yH:XC K mg "Full" a.Full
 lM:XC K mg "NothingBack" a.NothingBack
 jx:XC K mg "NoWidths" a.NoWidths
 gx:tu K (.ref a.NoWidths) a.NoWidths=some true
 nP:a.P_law_woven∈tabs
 pR:a.P_law_case∈tabs
 ji:a.P_law_woven≠a.P_law_case
 mt: ∀X∈tabs,X=a.P_law_woven\/X=a.P_law_case
 nt:PySem.W.noTabs K=true
theorem Iz {K:QG}{mg:oR}{cUnknown cInUse cBadName cBadNumber cTooMuch cFull cNothingBack cNoWidths cHouse cc_law_woven cc_law_case cP_law_woven cP_law_case:Addr}(aw:TC K mg cHouse "House") (aG:f6 K cHouse "member_rows") (aW:f6 K cHouse "demand_rows") (cy:f6 K cHouse "kept_deeds") (t4:TF K mg "inside" tw) (rf:TF K mg "is_link" qL) (lq:TF K mg "asked_width" lO) (qO:TF K mg "widened" rb) (jV:TF K mg "least_widths" jQ) (pN:TF K mg "hands_on" pq) (jN:TF K mg "fewest_links" ko) (lu:TF K mg "first_place" eP) (mL:TF K mg "next_place" gL) (pA:TF K mg "chain_of" pB) (qU:TF K mg "cost_of" qM) (jZ:TF K mg "small_letter" kn) (n8:TF K mg "good_name" kD) (rE:TF K mg "portion" qW) (pH:TF K mg "find_way" pW) (oy:TF K mg "find_ring" oj) (u6:TF K mg "above" vc) (mX:TF K mg "first_wide" mI) (tL:TF K mg "excess" tF) (qg:TF K mg "slack_of" jz) (i4:TF K mg "refuse_unknown" iO) (pk:TF K mg "place_of" pK) (iq:TF K mg "refuse_new_name" ig) (iU:TF K mg "refuse_outside" iW) (lr:TF K mg "refuse_full" lx) (qA:TF K mg "as_rule" qE) (nU:TF K mg "_law_words" oo) (oz:TF K mg "_law_names" nV) (ot:TF K mg "_law_whole" oA) (ni:TF K mg "_law_levels" mQ) (pP:TF K mg "_law_calm" qb) (mV:TF K mg "_law_ladder" mJ) (kF:RU K mg "_law_woven" eg cc_law_woven cP_law_woven) (lX:RU K mg "_law_case" g5 cc_law_case cP_law_case) (rC:TF K mg "_law_far" nJ) (nQ:TF K mg "_law_least" og) (pT:TF K mg "_law_thin" lV) (nX:TF K mg "_law_built" ox) (n6:TF K mg "_law_rules" nS) (mZ:TF K mg "_law_ringed" m7) (mD:TF K mg "_law_passed" mP) (lz:TF K mg "_law_caps_of" iH) (ic:TF K mg "_law_first_chain" h8) (ou:TF K mg "_law_texts" nT) (qJ:TF K mg "_law_row" rK) (jB:TF K mg "_law_widths_of" ju) (jw:TF K mg "_law_slack_due" jE) (gv:TF K mg "_law_members_right" eF) (nR:TF K mg "_law_right" om) (nv:TF K mg "_law_struck" jr) (lL:TF K mg "_law_brought" lG) (iM:TF K mg "_law_taken_back" i5) (xk:TF K mg "law" AI) (m6:TM K cHouse "__init__" "House.__init__" mG) (g9:TM K cHouse "keep_deed" "House.keep_deed" ij) (gX:TM K cHouse "add_member" "House.add_member" gI) (ie:TM K cHouse "add_plain" "House.add_plain" ik) (iP:TM K cHouse "add_link" "House.add_link" iQ) (fS:TM K cHouse "bring_demand" "House.bring_demand" fX) (jF:TM K cHouse "set_top" "House.set_top" jC) (gF:TM K cHouse "change_top" "House.change_top" g0) (fA:TM K cHouse "strike_demand" "House.strike_demand" fM) (gH:TM K cHouse "strike_top" "House.strike_top" gR) (ip:TM K cHouse "take_back" "House.take_back" ib) (jt:TM K cHouse "members" "House.members" gD) (fV:TM K cHouse "demand_names" "House.demand_names" d9) (eM:TM K cHouse "greatest_widths" "House.greatest_widths" dr) (ly:TM K cHouse "rules" "House.rules" iI) (iX:TM K cHouse "names_at" "House.names_at" fO) (jY:TM K cHouse "widths" "House.widths" jL) (gA:TM K cHouse "asked_place" "House.asked_place" gw) (lP:TM K cHouse "chain" "House.chain" lR) (oq:TM K cHouse "why" "House.why" oC) (lN:TM K cHouse "slack" "House.slack" lB) (mY:TM K cHouse "cost" "House.cost" mR) (mU:jh K mg "NAME_SIGNS" [.int 1,.int 8]) (tE:jh K mg "PEOPLE" [.int 0,.int 999]) (yv:jh K mg "EACH" [.int 1,.int 999]) (xP:jh K mg "OVER" [.int 1,.int 999]) (jR:mH mg "PORTION_MOST" (.int 99999)) (j7:mH mg "MEMBERS_MOST" (.int 12)) (ku:mH mg "DEMANDS_MOST" (.int 24)) (nW:jh K mg "LINK_MORE" [.int 0,.int 99]) (nO:jh K mg "TOP_WIDTH" [.int 0,.int 99999]) (mE:mH mg "DEEDS_MOST" (.int 150)) (kR:mH mg "NO_BASE" (.int (-1))) (AO:mg "all" = none) (xV:mg "bool" = none) (ft:mg "enumerate" = none) (xp:mg "int" = none) (dI:mg "isinstance" = none) (bT:mg "len" = none) (qH:mg "list" = none) (lW:mg "max" = none) (sy:mg "min" = none) (bh:mg "range" = none) (mO:mg "sorted" = none) (Bt:mg "str" = none) (r6:mg "sum" = none) (u7:mg "tuple" = none) (BA:mg "zip" = none) (nM:XC K mg "Unknown" cUnknown) (se:XC K mg "InUse" cInUse) (qT:XC K mg "BadName" cBadName) (kE:XC K mg "BadNumber" cBadNumber) (ra:XC K mg "TooMuch" cTooMuch) (yH:XC K mg "Full" cFull) (lM:XC K mg "NothingBack" cNothingBack) (jx:XC K mg "NoWidths" cNoWidths) (gx:tu K (.ref cNoWidths) cNoWidths=some true) (nP:cP_law_woven∈tabs) (pR:cP_law_case∈tabs) (ji:cP_law_woven≠cP_law_case) (mt: ∀X∈tabs,X=cP_law_woven\/X=cP_law_case) (nt:PySem.W.noTabs K=true): ∃a:Adr,Txt K mg a :=
 ⟨⟨cUnknown,cInUse,cBadName,cBadNumber,cTooMuch,cFull,cNothingBack,cNoWidths,cHouse,cc_law_woven,cc_law_case,cP_law_woven,cP_law_case⟩,aw,aG,aW,cy,t4,rf,lq,qO,jV,pN,jN,lu,mL,pA,qU,jZ,n8,rE,pH,oy,u6,mX,tL,qg,i4,pk,iq,iU,lr,qA,nU,oz,ot,ni,pP,mV,kF,lX,rC,nQ,pT,nX,n6,mZ,mD,lz,ic,ou,qJ,jB,jw,gv,nR,nv,lL,iM,xk,m6,g9,gX,ie,iP,fS,jF,gF,fA,gH,ip,jt,fV,eM,ly,iX,jY,gA,lP,oq,lN,mY,mU,tE,yv,xP,jR,j7,ku,nW,nO,mE,kR,AO,xV,ft,xp,dI,bT,qH,lW,sy,bh,mO,Bt,r6,u7,BA,nM,se,qT,kE,ra,yH,lM,jx,gx,nP,pR,ji,mt,nt⟩
def cell (ns:List Int) (k:Int):Int:=ns.getD k.toNat 0
inductive Mj (K:QG) (vs:List V) (H:Hp) (Q:VK):Prop | mk (a:Addr) (ns:List Int) (k:Int) (_:vs=[.ref a,.int k]) (_:QF K H a (ns.map V.int)) (_:0<=k) (_:Q (.int (cell ns k)) H)
inductive C2(K:QG)(vs:List V)(H:Hp)(Q:VK)(_E:XK):Prop|mk(a:Addr)(ns:List Int)(_:vs=[.ref a])(_:QF K H a (ns.map V.int))(_:ns.length<=63)(_:∀X∈tabs,H X=some (.tbl #[]))(_:∀H',Q (.bl true) H')
open MA (QO bB cz aY loop Met Le)
inductive BK(K:QG)(vs:List V)(H:Hp)(Q:VK)(_E:XK):Prop|mk(v q)(_:vs=[v])(_:gz K H v q)(_:Q (.bl (!decide (q.2.1= -1))) H)
inductive Et(K:QG)(vs:List V)(H:Hp)(Q:VK)(_E:XK):Prop|mk(v q w ws)(_:vs=[v,.ref w])(_:gz K H v q)(_:QF K H w (ws.map V.int))(_:QO ws.length q)(_:Q (.int (MA.ask (MA.g ws) q)) H)
inductive Bj(K:QG)(vs:List V)(H:Hp)(Q:VK)(_E:XK):Prop|mk(r rs w ws)(_:vs=[.ref r,.ref w])(_:Rl K H r rs)(_:QF K H w (ws.map V.int))(_:∀q∈rs,QO ws.length q)(_:∀p H',H p=none->ag H H'->H' p=some (.lst ((bB rs ws).map V.int))->Q (.ref p) H')
inductive FH(K:QG)(vs:List V)(H:Hp)(Q:VK)(_E:XK):Prop|mk(n:Nat)(r:Addr)(rs:List MA.ao)(_:vs=[.int n,.ref r])(_:n<=1000)(_:Rl K H r rs)(_:∀q∈rs,QO n q)(_:∀H',ag H H'->aY n rs=none->Q .non H')(_:∀p L H',H p=none->ag H H'->aY n rs=some L->H' p=some (.lst (L.map V.int))->Q (.ref p) H')
def isInt:V->Bool
 | .int _=>true
 | _=>false
inductive Fl(K:QG)(vs:List V)(H:Hp)(Q:VK)(_E:XK):Prop|mk(v:V)(_:vs=[v])(_:∃b1 b2,SG K v H "int" b1/\SG K v H "bool" b2/\(b1 && !b2)=isInt v)(_:Q (.bl (isInt v)) H)
section
variable {P:Program}{w:World}{K:QG}{mg:oR}{base:Heap}{a:Adr}
inductive EI(K:QG)(vs:List V)(H:Hp)(Q:VK)(_E:XK):Prop|mk(a:Addr)(ns:List Int)(m:Nat)(_:vs=[.ref a,.int m])(_:QF K H a (ns.map V.int))(_:m<=1000)(_:∀(p:Addr) (ws:List Int) (H':Hp),H p=none->ag H H'->H' p=some (.lst (ws.map V.int))->ws.length=m->(∀x∈ws,0<=x)->Q (.ref p) H')
theorem aB {n:Nat}(h:n<=1000):n < sizeLine:=Oc h aS
theorem Sv {k x y:Int}(h:k=0\/k=1): ∃d:Int,QV ([.int x,.int y]:List V) k=some (.int d)/\(d=x\/d=y):=by
 rcases h with rfl | rfl
 .exact⟨x,Z,.inl rfl⟩
 .exact⟨y,Z,.inr rfl⟩
theorem mod2 (x:Int):x % 2=0\/x % 2=1:=Y
theorem x5 (T:Txt K mg a):QS P w K mg base 1 "_law_words" ["_law_script","_law_many"] (EI K):=by
 show cj T.nU eu λf c A o s H vs Q E hr h=>?_;obtain⟨a,ns,m,rfl,hS,hm,q⟩:=h;show⟨_,(ae (QJ 2 eu.nd (ba cP)) (ae (QJ 3 eu.nd af) (ae (cm (dq T.bh bY) (gn 4 eu.nd) (ae (QJ 5 eu.nd af) (eh (aN (aK kG gE (cA K T.bT aT)) (ai (QJ 5 eu.nd (QI K aT gE))) aF) (ae (QJ 3 eu.nd (au aU (au uV (au bE (au bE eX gT) gE) af) (au bE (au JJ af af) af))) (ai (aI (ia K dO eX))))))) (ai (az dO))))),?_⟩;show⟨aS,λl nl=>?_⟩;ext:7;show bA (xs:=bg 0 m) (λi O' H'=> ∃(ws:List Int) (wd:Int) (v4 v5:Option V),O'=[rW a,some (.int m),rW l,some (.int wd),v4,v5]/\ag H H'/\H' l=some (.lst (ws.map V.int))/\ws.length=i/\ ∀x∈ws,0<=x) ⟨[],_,none,none,Z,ag.upd nl,aa,Z,λx hx=>by cases hx⟩ (λi O' H' _ _=>bt) ?_ ?_
 .rintro i x O' H' hi ⟨ws,wd,v4,v5,rfl,sm,hl,hw,h0⟩;obtain⟨hi,rfl⟩:=bj hi;show⟨λO2 H2=> ∃c:Int,O2=[rW a,some (.int m),rW l,some (.int wd),some (.int (0+(i:Nat))),some (.int c)]/\H2=H',?_,?_⟩
  .show⟨_,Z,_,Z,_,_,Z,.inl ⟨_,sm.seq hS,Z⟩,_,_,Z,Z,_,Z,?_⟩;rw[MO];ext:2
   .have c:=M9 c;exact⟨_,Z,_,Z,a,_,_,_,Z,Z,sm.seq hS,bH Y c,_,Z,Z⟩
   .exact⟨0,Z,Z⟩
  rintro O2 H2 ⟨c,rfl,rfl⟩;show⟨_,Z,_,Z,_,_,Z,Z,_,Z,_,_,Z,Z,_,_,Z,Z,.inr ⟨aS,aS⟩,_,_,Z,Z,⟨aS,aS,aS⟩,_,_,Z,Z,_,_,Z,Z,(by change (0:Int) < 10 ^ 18+9; decide),?_⟩;show⟨_,Z,.inl ⟨Z,_,QF.of hl⟩,_,Z,l,_,_,Z,Z,hl,by rw[MO,hw]; exact aB Y,?_⟩;show⟨ws++[(wd+c+(0+(i:Nat)))*618033988749894849 % (10 ^ 18+9)],_,_,_,Z,sm.eI nl,by rw[aa,Nf]; rfl,by rw[M0,hw]; rfl,λx hx=>?_⟩;rcases M8.mp hx with hx | hx
  .exact h0 x hx
  .rw[MT.mp hx];exact Oa _ aS
 .rintro O' H' ⟨ws,wd,v4,v5,rfl,sm,hl,hw,h0⟩;rw[bI] at hw;exact⟨_,Z,q l ws H' nl sm hl hw h0⟩
inductive EU(K:QG)(vs:List V)(H:Hp)(Q:VK)(_E:XK):Prop|mk(x:Int)(m:Nat)(_:vs=[.int x,.int m])(_:m<=32)(_:∀(p:Addr) (ys:List Str) (H':Hp),H p=none->ag H H'->H' p=some (.lst (ys.map V.str))->ys.length=m->(∀y∈ys,Nm y)->(m<=26->ys.Nodup)->Q (.ref p) H')
theorem dD (z:Str):z.cps.toList.length=z.length:=by simp[Str.length]
def xi:Str:= "zyxw"
variable{i:Nat}
theorem HD(h1:i / 8 < 4):QV xi.cps.toList ((0+(i:Nat):Int) / 8)=some (122 - i / 8)/\small (122 - i / 8):=by
 have h: ∀k:_root_.Fin 4,xi.cps.toList[k.1]?=some (122 - k.1):=by trivial
 show⟨?_,by unfold small; lia⟩;rw[show (0+(i:Nat):Int) / 8=((i / 8:Nat):Int) by lia];exact bz (h ⟨i / 8,h1⟩)
def one (y:Str):Prop:= ∃c,y.cps.toList=[c]/\small c
theorem Kd:one "z" := ⟨122,by trivial,by unfold small; decide⟩
theorem KR:one "a" := ⟨97,by trivial,by unfold small; decide⟩
theorem Kk:one "b" := ⟨98,by trivial,by unfold small; decide⟩
theorem zL: ∀ys:List Str,(∀y∈ys,one y)->((ys.map λy=>y.cps.toList).flatten).length=ys.length/\(∀c∈(ys.map λy=>y.cps.toList).flatten,small c)/\(ys.map (·.length)).sum=ys.length
 | [],_=>⟨Z,(λc hc=>by cases hc),Z⟩
 | y::ys,h=>by
  obtain⟨c,e,s⟩:=h y (M7);obtain⟨a,b,d⟩:=zL ys λz hz=>h z (M4 _ hz);have l1:y.length=1:=by rw[<-dD,e]; rfl
  show⟨?_,λx hx=>?_,?_⟩
  .rw[ND,N8,e,M0,a];change 1+ys.length=ys.length+1;lia
  .rw[ND,N8,e] at hx;rcases M8.mp hx with hx | hx
   .rw[MT.mp hx]; exact s
   .exact b x hx
  .simp only[ND,Qp,Nk,l1];lia
theorem vq (n:Nat) (c:Nat):(List.replicate n [c]).flatten=List.replicate n c:=by
 induction n with
 | zero=>rfl
 | succ n ih=>rw[NV,N8,ih,NV]; rfl
variable{st:Str}{spot:Int}
theorem Al {r:Str}(e:r.cps.toList=gy st none (some spot)):r.length<=st.length:=by
 rw[<-dD,e];unfold gy;rw[Ni,NR,dD];lia
theorem Hy {r:Str}(e:r.cps.toList=gy st (some spot) none):r.length<=st.length:=by
 rw[<-dD,e];unfold gy;rw[Ni,NR,dD];lia
theorem ES {r1 r2:Str}(h:0<=spot) (e1:r1.cps.toList=gy st none (some spot)) (e2:r2.cps.toList=gy st (some spot) none):r1.length+r2.length=st.length:=by
 rw[<-dD r1,<-dD r2,e1,e2];unfold gy;rw[Ni,NR,Ni,NR,dD,vp _ _ _ h,vp _ _ _ h];have h:=Qu spot.toNat st.length;change min (min spot.toNat st.length) st.length+min _ _=st.length;rw[QC h];exact (NJ _ (Nat.min_self _)).trans (Nat.add_sub_of_le h)
theorem xE (T:Txt K mg a):QS P w K mg base 1 "_law_names" ["_law_word","_law_many"] (EU K):=by
 show cj T.oz bU λf c A o s H vs Q E hr h=>?_;obtain⟨x,m,rfl,hm,q⟩:=h;show⟨_,(ae (QJ 2 bU.nd bS) (ae (QJ 3 bU.nd bS) (ae (QJ 4 bU.nd (au bF aT af)) (ae (cm (dq T.bh (au aU (au bF aT af) af)) (gn 5 bU.nd) (ae (QJ 3 bU.nd (au rZ eX (nN ui dO (au aU gE af) (λ_ _=>rfl)))) (ai (QJ 4 bU.nd (au bF gE af))))) (ae (QJ 6 bU.nd (au aU (au bF aT af) af)) (ae (QJ 7 bU.nd (ba cP)) (ae (cm (dq T.bh bY) (gn 5 bU.nd) (ae (QJ 8 bU.nd (nN ui dO (au aU (au bE gT (au bF aT af)) af) (λ_ _=>rfl))) (ae (QJ 9 bU.nd (au oF (ba (QH bS)) af)) (ae (dY bS (iu lE (au aU gT af) set_list)) (ae (dY bS (iu lE (au aU (au bE (au bE (au aU gT af) af) (au bF gT af)) af) set_list)) (ae (QJ 10 bU.nd (ba (aq iS (aq (au rZ (au rZ (cK Dq eX dS (cM iF)) iS) (cK Dq eX (cM iF) dS)) (QH (au Ah iS (au bE af (au aU gT af)))))))) (ae (QJ 10 bU.nd (au fE lT (ba (aq (au rZ (au Ah bS (au aU gT af)) (nN ui bS (au bF gT af) (λ_ _=>rfl))) (QH (iE PySem.F.plainAttrs_str PySem.F.slot_str_join PySem.F.type_str_join Hm bS (QH lE))))))) (ai (aI (ia K iN (QI K lT (au aU aT af)))))))))))) (ai (az iN))))))))),?_⟩;have big:lQ.length<=sizeLine:=by rw[<-dD,z9]; decide
 show⟨_,Z,_,_,Z,Z,⟨aS,aS⟩,?_⟩;show⟨_,Z,_,_,Z,Z,⟨aS,aS⟩,_,_,Z,Z,(by change (0:Int) < 8; decide),_,Z,Y,Y,?_⟩;show bA (xs:=bg 0 (x / 1040 % 8).toNat) (λi O' H'=> ∃(st:Str) (lf:Int) (v5:Option V),O'=[some (.int x),some (.int m),some (.str lQ),some (.str st),some (.int lf),v5,none,none,none,none,none]/\H'=H/\st.cps.toList.length=i/\ ∀c∈st.cps.toList,small c) ⟨"",_,none,Z,Z,Z,λc hc=>by cases hc⟩ (λi O' H' _ _=>bt) ?_ ?_
 .rintro i y O' H' hi ⟨st,lf,v5,rfl,rfl,hl,hs⟩;obtain⟨hi,rfl⟩:=bj hi;obtain⟨c,hc,hcs⟩:=Ib lf;show⟨_,Z,_,Z,_,Z,_,_,Z,Z,(by change (0:Int) < 26; decide),lQ,_,c,Z,Z,big,hc,_,_,Z,Z,?_,?_⟩
  .rw[<-dD,hl];change i+1<=sizeLine;exact Nw (aB Y)
  show⟨_,Z,_,_,Z,Z,⟨aS,aS⟩,_,_,_,Z,Z,?_,λd hd=>?_⟩
  .rw[fB,M0,hl];rfl
  .rw[fB] at hd;rcases M8.mp hd with hd | hd
   .exact hs d hd
   .rw[MT.mp hd]; exact hcs
 rintro O1 H1 ⟨st,lf,v5,rfl,rfl,hstl,hsts⟩;rw[bI] at hstl;show⟨_,Z,_,_,Z,Z,⟨aS,aS⟩,_,_,Z,Z,(by change (0:Int) < 8; decide),?_⟩;have sp0:0<=x / 5 % 8:=Y;have stl:st.length<=7:=by rw[<-dD,hstl]; lia
 ext:4;generalize x / 5 % 8=spot at sp0;show⟨aS,λl nl=>?_⟩;ext:7;show bA (xs:=bg 0 m) (λi O' H'=> ∃(ys:List Str) (v5 v8 v9 v10:Option V),O'=[some (.int x),some (.int m),some (.str lQ),some (.str st),some (.int lf),v5,some (.int spot),rW l,v8,v9,v10]/\ag H1 H'/\H' l=some (.lst (ys.map V.str))/\ys.length=i/\(∀y∈ys,Nm y)/\ys.map (λy=>y.cps.toList)=(List.range i).map (RT x (gy st none (some spot)) (gy st (some spot) none))) ⟨[],v5,none,none,none,Z,ag.upd nl,aa,Z,(λy hy=>by cases hy),Z⟩ (λi O' H' _ _=>bt) ?_ ?_
 .rintro i y O' H' hi ⟨ys,v5,v8,v9,v10,rfl,sm,hl,hyl,hnm,hyF⟩;obtain⟨hin,rfl⟩:=bj hi;obtain⟨c,ec,hc,hcs⟩: ∃c,c=RL (0+(i:Nat)+x / 40)/\QV lQ.cps.toList ((0+(i:Nat)+x / 40) % 26)=some c/\small c:=⟨_,Z,Hi _⟩
  show⟨_,Z,_,Z,_,Z,_,_,Z,Z,⟨aS,aS⟩,_,_,Z,Z,_,_,Z,Z,(by change (0:Int) < 26; decide),lQ,_,c,Z,Z,big,hc,?_⟩;show⟨aC,λl0 n0=>⟨l0,_,_,Z,Z,aa,aS,aS,aS,λr nr=>?_⟩⟩;have sr:=sm.trans ((ag.upd (o:= .lst [.str "z"]) n0).trans (ag.upd (o:= .lst ((List.replicate 8 (Str.ofString "z")).map V.str)) nr));have hr1:(upd (upd H' l0 (.lst [.str "z"])) r (.lst (List.replicate (8:Int).toNat [V.str "z"]).flatten)) r=some (.lst ((List.replicate 8 (Str.ofString "z")).map V.str)):=aa;have hl1:(upd (upd H' l0 (.lst [.str "z"])) r (.lst (List.replicate (8:Int).toNat [V.str "z"]).flatten)) l=some (.lst (ys.map V.str)):=((ag.upd (o:= .lst [.str "z"]) n0).trans (ag.upd nr)) _ _ hl;have nrH:H1 r=none:=(sm.trans (ag.upd n0)).free nr;have sr:ag H1 (upd (upd H' l0 (.lst [.str "z"])) r (.lst (List.replicate (8:Int).toNat [V.str "z"]).flatten)):=sr;have nlr:l≠r:=av (ag.upd n0 _ _ hl) nr;ext:4;generalize upd (upd H' l0 (.lst [.str "z"])) r (.lst (List.replicate (8:Int).toNat [V.str "z"]).flatten)=H2 at hr1 hl1 sr;have j1:RJ 8 ((0+(i:Nat):Int) % 8)=some ((0+(i:Nat):Int) % 8).toNat:=iz Y Y;show⟨_,Z,_,Z,_,_,Z,Z,(by change (0:Int) < 8; decide),r,_,_,_,Z,Z,hr1,j1,?_⟩;rw[show ((0+(i:Nat):Int) % 8).toNat=i % 8 by lia];obtain⟨p1,ep1⟩: ∃p1,p1=i % 8:=⟨_,Z⟩
  rw[<-ep1];have j2:RJ 8 (((0+(i:Nat):Int) % 8+1+(0+(i:Nat):Int) / 8) % 8)=some (((0+(i:Nat):Int) % 8+1+(0+(i:Nat):Int) / 8) % 8).toNat:=iz Y Y;show⟨_,Z,_,Z,_,_,Z,Z,(by change (0:Int) < 8; decide),_,_,Z,Z,_,Z,_,_,Z,Z,⟨aS,aS⟩,_,_,Z,Z,_,_,Z,Z,(by change (0:Int) < 8; decide),r,_,_,_,Z,Z,aa,(by rw[ON]; exact j2),?_⟩;rw[show (((0+(i:Nat):Int) % 8+1+(0+(i:Nat):Int) / 8) % 8).toNat=(i % 8+1+i / 8) % 8 by rw[Pe]; lia];obtain⟨p2,ep2⟩: ∃p2,p2=(i % 8+1+i / 8) % 8:=⟨_,Z⟩
  rw[<-ep2];rw[vL];have erow:(((List.replicate 8 (Str.ofString "z")).map V.str).set p1 (.str "a")).set p2 (.str "b")=(((List.replicate 8 (Str.ofString "z")).set p1 "a").set p2 "b").map V.str:=by
   rw[Ol,Ol]
  rw[erow];have hone: ∀y∈((List.replicate 8 (Str.ofString "z")).set p1 "a").set p2 "b",one y:=λy hy=>by
   rcases List.mem_or_eq_of_mem_set hy with hy | rfl
   .rcases List.mem_or_eq_of_mem_set hy with hy | rfl
    .rw[(Qm.mp hy).2]; exact Kd
    .exact KR
   .exact Kk
  have hrl:(((List.replicate 8 (Str.ofString "z")).set p1 "a").set p2 "b").length=8:=by rw[ON,ON]; rfl
  have hrow:=Gw p1 p2;generalize ((List.replicate 8 (Str.ofString "z")).set p1 "a").set p2 "b" = row at hone hrl hrow;obtain⟨o1,o2,o3⟩:=zL row hone;have sr3:ag H1 (upd H2 r (.lst (row.map V.str))):=sr.eI nrH;have hl3:(upd H2 r (.lst (row.map V.str))) l=some (.lst (ys.map V.str)):=(ah nlr).trans hl1;have hr3:(upd H2 r (.lst (row.map V.str))) r=some (.lst (row.map V.str)):=aa;generalize upd H2 r (.lst (row.map V.str))=H3 at sr3 hl3 hr3;show⟨_,Z,_,Z,_,Z,_,Z,st,Z,Nw (aB Y),λr1 e1=>⟨_,Z,_,_,Z,Z,?_,_,Z,_,Z,_,Z,st,Z,Nw (aB Y),λr2 e2=>⟨_,_,Z,Z,?_,?_⟩⟩⟩
  .change r1.length+1<=sizeLine;exact Nw (aB (by have:=Al e1; lia))
  .have h1:=Al e1;have h2:=Hy e2;have h3:(r1++(⟨#[c]⟩:Str)).length=r1.length+1:=(by rw[<-dD,fB,M0,dD]; rfl);rw[h3];exact Nw (aB Y)
  have n1:Nm (⟨#[c]⟩:Str):=⟨MZ _,by change 1<=8; decide,λd hd=>by rw[MT.mp hd]; exact hcs⟩
  have n2:Nm ((r1++(⟨#[c]⟩:Str))++r2):=by
   have e:((r1++(⟨#[c]⟩:Str))++r2).cps.toList=r1.cps.toList++[c]++r2.cps.toList:=(by rw[fB,fB]);have hlen:=ES sp0 e1 e2;unfold Nm Sh;rw[e];show⟨by simp only[M0,Nk,O6]; lia,by simp only[M0,Nk,O6,dD]; lia,λd hd=>?_⟩;rcases M8.mp hd with hd | hd
   .rcases M8.mp hd with hd | hd
    .rw[e1] at hd;exact hsts d (OA (Of hd))
    .rw[MT.mp hd]; exact hcs
   .rw[e2] at hd;exact hsts d (OA (Of hd))
  show⟨_,Z,_,Z,_,_,Z,Z,(by change (0:Int) < 8; decide),_,_,Z,Z,_,_,Z,Z,Y,Y,by change 1<=1000; decide,λr3 e3=>?_⟩;have n3:Nm r3:=by
   have e:r3.cps.toList=List.replicate (1+(0+(i:Nat):Int) % 8).toNat c:=e3.trans (vq _ _);unfold Nm Sh;rw[e,NX];exact⟨Y,Y,λd hd=>by rw[(Qm.mp hd).2]; exact hcs⟩
  show⟨aC,λf1 nf1=>?_⟩;have hl4:=ag.upd (o:= .lst [.str ⟨#[c]⟩,.str ((r1++(⟨#[c]⟩:Str))++r2),.str r3]) nf1 _ _ hl3;have hr4:=ag.upd (o:= .lst [.str ⟨#[c]⟩,.str ((r1++(⟨#[c]⟩:Str))++r2),.str r3]) nf1 _ _ hr3;have sr4:=sr3.trans (ag.upd (o:= .lst [.str ⟨#[c]⟩,.str ((r1++(⟨#[c]⟩:Str))++r2),.str r3]) nf1);have hf4:(upd H3 f1 (.lst [.str ⟨#[c]⟩,.str ((r1++(⟨#[c]⟩:Str))++r2),.str r3])) f1=some (.lst [.str ⟨#[c]⟩,.str ((r1++(⟨#[c]⟩:Str))++r2),.str r3]):=aa;ext:4;generalize upd H3 f1 (.lst [.str ⟨#[c]⟩,.str ((r1++(⟨#[c]⟩:Str))++r2),.str r3])=H4 at hl4 hr4 sr4 hf4;obtain⟨c2,ec2,hc2,hcs2⟩: ∃c2,c2=122 - i / 8/\QV xi.cps.toList ((0+(i:Nat):Int) / 8)=some c2/\small c2:=⟨_,Z,HD Y⟩
  show⟨_,Z,_,Z,_,_,Z,Z,(by change (0:Int) < 8; decide),_,_,Z,Z,Y,Y,by change 1<=1000; decide,λr4 e4=>?_⟩;have e4':r4.cps.toList=List.replicate ((0+(i:Nat):Int) % 8).toNat 122:=by
   rw[e4,show (Str.ofString "z").cps.toList=[122] from by trivial];exact vq _ _
  have l4:r4.length<=7:=by
   rw[<-dD,e4',NX];lia
  have n4:Nm (r4++(⟨#[c2]⟩:Str)):=by
   have e:(r4++(⟨#[c2]⟩:Str)).cps.toList=r4.cps.toList++[c2]:=(by rw[fB]);unfold Nm Sh;rw[e,e4'];show⟨by simp only[M0,Nk,O6]; lia,by simp only[M0,Nk,O6,NX]; lia,λd hd=>?_⟩;rcases M8.mp hd with hd | hd
   .rw[(Qm.mp hd).2];unfold small;lia
   .rw[MT.mp hd]; exact hcs2
  have n5:Nm (Txt.join (Str.ofString "") row):=by
   unfold Nm Sh;rw[rn,o1,hrl];exact⟨aS,aS,o2⟩
  show⟨_,Z,_,_,Z,Z,⟨aS,aS⟩,xi,_,c2,Z,Z,(by trivial),hc2,_,_,Z,Z,?_,?_⟩
  .change r4.length+1<=sizeLine;exact Nw (aB Y)
  show⟨Z,_,Z,_,r,row,Z,Z,QF.of hr4,by trivial,by rw[o3,hrl]; decide,?_⟩;show⟨aC,λf2 nf2=>⟨f1,f2,_,_,Z,Z,(ah (av hf4 nf2)).trans hf4,aa,(by change 3+2<=sizeLine; decide),λf3 nf3=>?_⟩⟩;have s5:=(ag.upd (o:= .lst [.str (r4++(⟨#[c2]⟩:Str)),.str (Txt.join (Str.ofString "") row)]) nf2).trans (ag.upd (o:= .lst ([.str ⟨#[c]⟩,.str ((r1++(⟨#[c]⟩:Str))++r2),.str r3]++[.str (r4++(⟨#[c2]⟩:Str)),.str (Txt.join (Str.ofString "") row)])) nf3);have hl5:=s5 _ _ hl4;obtain⟨y,hy,hyn,hyF'⟩: ∃y:Str,QV ([.str ⟨#[c]⟩,.str ((r1++(⟨#[c]⟩:Str))++r2),.str r3]++[.str (r4++(⟨#[c2]⟩:Str)),.str (Txt.join (Str.ofString "") row)]:List V) (x % 5)=some (.str y)/\Nm y/\y.cps.toList=RT x (gy st none (some spot)) (gy st (some spot) none) i:=by
   have h:x % 5=0\/x % 5=1\/x % 5=2\/x % 5=3\/x % 5=4:=Y;unfold RT;rcases h with e | e | e | e | e <;> rw[e]
   .exact⟨_,Z,n1,by rw[MU rfl,<-ec]⟩
   .show⟨_,Z,n2,?_⟩;rw[MP aS,MU rfl,fB,fB,e1,e2,<-ec]
   .show⟨_,Z,n3,?_⟩;rw[MP aS,MP aS,MU rfl,<-ec,e3.trans (vq _ _)];congr 1;lia
   .show⟨_,Z,n4,?_⟩;rw[MP aS,MP aS,MP aS,MU rfl,fB,e4',<-ec2];congr 2;lia
   .show⟨_,Z,n5,?_⟩;rw[MP aS,MP aS,MP aS,MP aS,rn,hrow,ep1,ep2]
  show⟨_,Z,.inl ⟨Z,_,QF.of hl5⟩,_,Z,_,Z,_,_,Z,Z,(by change (0:Int) < 5; decide),f3,_,_,_,Z,Z,QF.of aa,hy,l,_,_,Z,Z,hl5,by rw[MO,hyl]; exact aB Y,?_⟩;show⟨ys++[y],_,_,_,_,Z,(sr4.trans s5).eI nl,by rw[aa,Nf]; rfl,by rw[M0,hyl]; rfl,λz hz=>?_,by rw[Nf,hyF,Oh,Nf,List.map_singleton,List.map_singleton,hyF']⟩;rcases M8.mp hz with hz | hz
  .exact hnm z hz
  .rw[MT.mp hz]; exact hyn
 .rintro O' H' ⟨ys,v5,v8,v9,v10,rfl,sm,hl,hyl,hnm,hyF⟩;rw[bI] at hyl hyF;exact⟨_,Z,q l ys H' nl sm hl hyl hnm λhm=>names_nodup hyF hm⟩
theorem Sz (a b:Nat):decide (([a]:List Nat) < [b])=decide (a < b):=by
 rw[QA];constructor
 .intro h;cases h with
  | rel h=>exact h
  | cons h=>cases h
 .exact λh=> .rel h
def sA:Str:= "a"
def sZ:Str:= "z"
theorem Im:sA.cps.toList=[97]:=by trivial
theorem J6:sZ.cps.toList=[122]:=by trivial
def txt (cs:List Nat):Str:=⟨cs.toArray⟩
theorem HE (cs:List Nat):(txt cs).cps.toList=cs:=by simp[txt]
theorem Ai (cs:List Nat):(txt cs).length=cs.length:=by simp[txt,Str.length]
inductive D8(K:QG)(vs:List V)(H:Hp)(Q:VK)(_E:XK):Prop|mk(n lo hi:Int)(a:Addr)(_:vs=[.int n,.ref a])(_:QK K H a [.int lo,.int hi])(_:Q (.bl (decide (lo<=n) && decide (n<=hi))) H)
inductive FL(vs:List V)(H:Hp)(Q:VK)(_E:XK):Prop|mk(c:Nat)(_:vs=[.str ⟨#[c]⟩])(_:Q (.bl (gJ c)) H)
inductive Hb(vs:List V)(H:Hp)(Q:VK)(_E:XK):Prop|mk(cs:List Nat)(_:vs=[.str (txt cs)])(_:cs.length<=1000)(_:∀H',ag H H'->Q (.bl (cL cs)) H')
theorem kP (T:Txt K mg a):QS P w K mg base 1 "inside" ["number","span"] (D8 K):=by
 show cj T.t4 Dj λf c A o s H vs Q E hr h=>?_;obtain⟨n,lo,hi,a,rfl,hq,q⟩:=h;show⟨_,(ai (az (xt Gn Gn (QN K bY af) aT (QN K bY af)))),?_⟩;show⟨_,Z,a,_,_,_,Z,Z,hq,Z,_,Z,_,_,Z,Z,_,Z,?_⟩;show bo (λh1=>?_) (λh1=>?_)
 .show⟨_,Z,a,_,_,_,Z,Z,hq,Z,_,_,Z,Z,?_⟩;rw[h1,Bool.true_and] at q;exact q
 .rw[Nl] at h1;rw[h1,Qf] at q;exact q
theorem uu (T:Txt K mg a):QS P w K mg base 1 "small_letter" ["sign"] FL:=by
 show cj T.jZ uM λf c A o s H vs Q E hr h=>?_;obtain⟨c,rfl,q⟩:=h;show⟨_,(ai (az (xt wx wx bS aT bS))),?_⟩;have e1:(!decide ((⟨#[c]⟩:Str).cps.toList < sA.cps.toList))=decide (97<=c):=by
  rw[Im];change (!decide ([c] < [97]))=_;rw[Sz,<-decide_not,QA];lia
 have e2:(!decide (sZ.cps.toList < (⟨#[c]⟩:Str).cps.toList))=decide (c<=122):=by
  rw[J6];change (!decide ([122] < [c]))=_;rw[Sz,<-decide_not,QA];lia
 show⟨_,Z,sA,_,Z,Z,_,Z,?_⟩;rw[e1];show bo (λh1=>?_) (λh1=>?_)
 .show⟨_,sZ,Z,Z,?_⟩;rw[e2];unfold gJ at q;rw[h1,Bool.true_and] at q;exact q
 .rw[Nl] at h1;unfold gJ at q;rw[h1,Qf] at q;exact q
theorem xq (T:Txt K mg a):QS P w K mg base 2 "good_name" ["text"] Hb:=by
 show cj T.n8 xr λf c A o s H vs Q E hr h=>?_;obtain⟨cs,rfl,hz,q⟩:=h;show⟨_,(ai (az (iw (kZ (ay (kP T:) hr.mm (aq (cA K T.bT aT) (QH (mf T.mU)))) (lh (bP (Fe rfl) (by rfl) T.AO boot_all (QH (iZ kD ["sign"] [] [] Rr (Iv aT) (λC s2 H2 fp=>⟨(gn 0 (Q6 ["sign"])),dR,(ay (uu T:) hr.mm (QH aT))⟩))))))))),?_⟩;have hl:(txt cs).length<=sizeLine:=by rw[Ai]; exact Nw (rM hz)
 show⟨Q,?_,λ_ _ z=>z⟩;show⟨_,Z,_,_,Z,⟨hl,Z⟩,λa ha=>?_⟩;show⟨_,1,8,a,Z,ha _,_,Z,?_⟩;rw[Ai];show bo (λh1=>?_) (λh1=>?_)
 .show⟨_,Z,_,Z,?_⟩;have ec:kO (txt cs)=cs.map λc=>V.str ⟨#[c]⟩:=by unfold kO; rw[HE]
  show kY (xs:=kO (txt cs)) Jj (λv=>match v with | .str z=> .bl (gJ (z.cps.getD 0 0)) | _=> .bl false) (by rw[ec,MO]; exact rM hz) (λx hx R hR=>?_) (λp hp=>?_)
  .rw[ec] at hx;obtain⟨c,_,rfl⟩:=Ny.mp hx;exact⟨_,Z,c,Z,hR⟩
  .show⟨p,cs.map gJ,Z,QF.of ?_,?_⟩
   .rw[aa,ec,N1,N1];rfl
   .have e:(cs.map gJ).all id=cs.all gJ:=by rw[List.all_map]; rfl
    rw[e];have q':=q (upd H p (.lst ((kO (txt cs)).map (λv=>match v with | .str z=> .bl (gJ (z.cps.getD 0 0)) | _=> .bl false)))) λb o hb=>by
     rw[ah (av hb hp)];exact hb
    unfold cL at q';rw[h1,Bool.true_and] at q';exact q'
 .have q':=q H (ag.refl H);rw[Nl] at h1;unfold cL at q';rw[h1,Qf] at q';exact q'
theorem J9 (y:Str):txt y.cps.toList=y:=by simp[txt]
theorem oJ (x:Str): ∀ms:List Str,RZ (.str x) (ms.map V.str)=decide (x∈ms)
 | []=>by simp[RZ]
 | m::ms=>by
  have:=oJ x ms;unfold RZ at this ⊢;rw[ND,Ph,this];change (m == x || decide (x∈ms))=decide (x∈m::ms);by_cases e:m=x;.subst e; simp
  .have e': ¬x=m:=λz=>e z.symm;simp[e,e']
theorem jd: ∀ms:List Str,(ms.map V.str).all cQ=true
 | []=>rfl
 | m::ms=>by rw[ND,List.all_cons,jd ms]; rfl
variable{y:Str}
theorem jg: ∀ {ys:List Str},y∈ys-> ∃j:Nat,ys[j]?=some y/\ ∀m,m < j->ys[m]?≠some y
 | [],h=>by cases h
 | z::ys,h=>by
  by_cases e:z=y
  .subst e;exact⟨0,Z,λm hm=>absurd hm (NP _)⟩
  .obtain⟨j,a,b⟩:=jg ((M3.mp h).resolve_left λq=>e q.symm);show⟨j+1,a,λm hm=>?_⟩;cases m with
   | zero=>exact λq=>e (Nc q)
   | succ m=>exact b m Y
theorem oS (xs:List V) (k:Nat):dX xs none (some (k:Nat))=xs.take k:=by
 unfold dX;rw[HT.Af];change (xs.drop 0).take (min k xs.length - 0)=xs.take k;rw[List.drop_zero,Nat.sub_zero];by_cases h:k<=xs.length;.rw[QC h]
 .rw[Nat.min_eq_right Y,NC,N2 Y]
theorem pZ (xs:List V) (k:Nat):dX xs (some (k:Nat)) none=xs.drop k:=by
 unfold dX;rw[HT.Af];change (xs.drop (min k xs.length)).take (xs.length - min k xs.length)=xs.drop k;by_cases h:k<=xs.length
 .rw[QC h];exact N2 (by rw[NR]; exact MZ _)
 .rw[Nat.min_eq_right Y,List.drop_length,List.drop_eq_nil_of_le Y];exact PL
inductive sJ(K:QG)(a:Adr)(vs:List V)(H:Hp)(Q:VK)(E:XK):Prop|mk(y:Str)(p:Addr)(ys:List Str)(_:vs=[.str y,.ref p])(_:QF K H p (ys.map V.str))(_:y∈ys->Q .non H)(_:y∉ys->E (.ref a.Unknown) none H)
theorem fu (T:Txt K mg a):RN P w K mg base 1 "refuse_unknown" ["name","names"] (sJ K a):=by
 show vz T.i4 sH λf c A o s H vs Q E hr h=>?_;obtain⟨y,p,ys,rfl,hp,q,e⟩:=h;show⟨_,(ai (aN (BB (LK K) aT bY) (ai (eB T.nM rfl (QH bS))) aF)),?_⟩;by_cases hm:y∈ys;.exact⟨_,Z,_,Z,p,_,Z,.inl hp,Z,jd ys,false,NJ V.bl (by change (!RZ (.str y) (ys.map V.str))=false; rw[oJ,Nv hm]; rfl),aP (q hm)⟩
 .exact⟨_,Z,_,Z,p,_,Z,.inl hp,Z,jd ys,true,NJ V.bl (by change (!RZ (.str y) (ys.map V.str))=true; rw[oJ,Nz hm]; rfl),bu ⟨aS,e hm⟩⟩
inductive zG(a:Adr)(vs:List V)(H:Hp)(Q:VK)(E:XK):Prop|mk(y:Str)(p:Addr)(ys:List Str)(_:vs=[.str y,.ref p])(_:H p=some (.lst (ys.map V.str)))(_:∀j:Nat,ys[j]?=some y->(∀m,m < j->ys[m]?≠some y)->Q (.int (j:Nat)) H)(_:y∉ys->E (.ref a.Unknown) none H)
theorem ky (T:Txt K mg a):RN P w K mg base 2 "place_of" ["name","names"] (zG a):=by
 show vz T.pk y9 λf c A o s H vs Q E hr h=>?_;obtain⟨y,p,ys,rfl,hp,q,e⟩:=h;show⟨_,(ae (aI (bq (fu T:) hr.mm (aq aT (QH bY)))) (ai (az (show PE _ _ (RH K _ _ _ _) from iE NI N5 N6 kL bY (QH aT))))),?_⟩;show⟨_,Z,_,Z,y,p,ys,Z,QF.of hp,λhm=>?_,e⟩;obtain⟨j,j1,j2⟩:=jg hm;exact⟨_,Z,.inl ⟨Z,_,QF.of hp⟩,_,Z,p,ys,y,j,Z,Z,hp,j1,j2,q j j1 j2⟩
inductive wJ(K:QG)(a:Adr)(vs:List V)(H:Hp)(Q:VK)(E:XK):Prop|mk(y:Str)(p:Addr)(ys:List Str)(_:vs=[.str y,.ref p])(_:QF K H p (ys.map V.str))(_:y.cps.toList.length<=1000)(_:y∈ys->E (.ref a.InUse) none H)(_:∀H',ag H H'->y∉ys->(cL y.cps.toList=true->Q .non H')/\(cL y.cps.toList=false->E (.ref a.BadName) none H'))
theorem gK (T:Txt K mg a):RN P w K mg base 3 "refuse_new_name" ["name","names"] (wJ K a):=by
 show vz T.iq qS λf c A o s H vs Q E hr h=>?_;obtain⟨y,p,ys,rfl,hp,hy,e1,q⟩:=h;show⟨_,(ae (aN (BB (SO K) aT bY) (ai (eB T.se rfl (QH bS))) aF) (ai (aN (fg (dz K (bq (xq T:).x hr.mm (QH aT)))) (ai (eB T.qT rfl (QH bS))) aF))),?_⟩;by_cases hm:y∈ys;.exact⟨_,Z,_,Z,p,_,Z,.inl hp,Z,jd ys,true,NJ V.bl ((oJ y ys).trans (Nv hm)),bu ⟨aS,e1 hm⟩⟩
 .show⟨_,Z,_,Z,p,_,Z,.inl hp,Z,jd ys,false,NJ V.bl ((oJ y ys).trans (Nz hm)),aP ?_⟩;show⟨_,Z,y.cps.toList,by rw[J9]; rfl,hy,λH1 s1=>⟨_,Z,?_⟩⟩;cases e:cL y.cps.toList with
  | true=>exact aP ((q H1 s1 hm).1 e)
  | false=>exact bu ⟨aS,(q H1 s1 hm).2 e⟩
inductive vi(a:Adr)(vs:List V)(H:Hp)(Q:VK)(E:XK):Prop|mk(c m:Int)(_:vs=[.int c,.int m])(_:c < m->Q .non H)(_:m<=c->E (.ref a.Full) none H)
theorem kj (T:Txt K mg a):RN P w K mg base 1 "refuse_full" ["count","most"] (vi a):=by
 show vz T.lr vP λf c A o s H vs Q E hr h=>?_;obtain⟨c,m,rfl,q,e⟩:=h;show⟨_,(ai (aN (aK pF aT bY) (ai (eB T.yH rfl (QH bS))) aF)),?_⟩;show⟨_,Z,_,Z,_,_,Z,Z,_,Z,?_⟩;show bo (λz=>⟨aS,e (M9 z)⟩) (λz=>q ?_);have:=Nr (Nl _▸z);lia
inductive yO(C:Addr)(vs:List V)(H:Hp)(Q:VK)(_E:XK):Prop|mk(h dx:Addr)(_:vs=[.ref h])(_:H h=some (.ins C dx []))(_:H dx=some (.own h))(_:∀(os:List Addr) (H':Hp),(∀b o,b≠h->b≠dx->H b=some o->H' b=some o)->HI C H' h os ⟨[],[],[]⟩->(∀b∈os,b=h\/b=dx\/H b=none)->Q .non H')
theorem wW (T:Txt K mg a):Ri P w K mg base 1 a.House "__init__" ["self"] (yO a.House):=by
 show tZ T.m6 wX λf c A o s H vs Q E hr h=>?_;obtain⟨h,dx,rfl,hh,hd,q⟩:=h;show⟨_,(ae (jy aT (ba cP) rfl) (ae (jy aT (ba cP) rfl) (ai (jy aT (ba cP) rfl)))),?_⟩;have hd1:dx≠h:=λz=>by rw[z,hh] at hd; cases hd
 show⟨aS,λp np=>⟨_,Z,h,a.House,dx,[],Z,ag.upd np _ _ hh,T.aw.cl,T.aG,aS,?_⟩⟩;have ph:p≠h:=(av hh np).symm;have pd:p≠dx:=(av hd np).symm;show⟨aS,λq1 nq=>?_⟩;have qh:q1≠h:=λz=>by rw[z,aa] at nq; cases nq
 rw[ah qh] at nq;have qp:q1≠p:=λz=>by rw[z,aa] at nq; cases nq
 rw[ah qp] at nq;have qd:q1≠dx:=(av hd nq).symm;show⟨_,Z,h,a.House,dx,[("member_rows",.ref p)],Z,(ah (Nu qh)).trans aa,T.aw.cl,T.aW,(by change 1 < 1000; decide),?_⟩;show⟨aS,λr nr=>?_⟩;have rh:r≠h:=λz=>by rw[z,aa] at nr; cases nr
 rw[ah rh] at nr;have rq:r≠q1:=λz=>by rw[z,aa] at nr; cases nr
 rw[ah rq,ah rh] at nr;have rp:r≠p:=λz=>by rw[z,aa] at nr; cases nr
 rw[ah rp] at nr;have rd:r≠dx:=(av hd nr).symm;show⟨_,Z,h,a.House,dx,[("member_rows",.ref p),("demand_rows",.ref q1)],Z,?_,T.aw.cl,T.cy,(by change 2 < 1000; decide),?_⟩
 .rw[ah (Nu rh),aa,ma (by trivial)];rfl
 show q [h,dx,r,p,q1] _ (λb o b1 b2 e=>?_) ⟨dx,p,q1,r,[p,q1],[],Z,hd1,rh,rd,?_,?_,?_,?_,?_,?_,.nil,?_,?_,?_⟩ λb hb=>?_
 .have b3:b≠p:=av e np;have b4:b≠q1:=av e nq;have b5:b≠r:=av e nr;rw[ah b1,ah b5,ah b1,ah b4,ah b1,ah b3];exact e
 .simp only[M3,NL,O2,not_or];exact⟨Nu ph,Nu qh⟩
 .simp only[M3,NL,O2,not_or];exact⟨Nu pd,Nu qd⟩
 .simp only[M3,NL,O2,not_or];exact⟨rp,rq⟩
 .rw[aa,ma (by trivial),ma (by trivial)];rfl
 .rw[ah hd1,ah (Nu rd),ah hd1,ah (Nu qd),ah hd1,ah (Nu pd)];exact hd
 .rw[ah rh,aa]
 .show⟨by simp,[],?_,.nil⟩;rw[ah ph,ah (Nu rp),ah ph,ah (Nu qp),ah ph,aa]
 .show⟨by simp,[],?_,.nil⟩;rw[ah qh,ah (Nu rq),ah qh,aa]
 .intro b hb;simp only[M3,NL,O2] at hb;rcases hb with rfl | rfl
  .exact⟨_,by rw[ah ph,ah (Nu rp),ah ph,ah (Nu qp),ah ph,aa]⟩
  .exact⟨_,by rw[ah qh,ah (Nu rq),ah qh,aa]⟩
 .simp only[M3,NL,O2] at hb;rcases hb with rfl | rfl | rfl | rfl | rfl
  .exact .inl rfl
  .exact .inr (.inl rfl)
  .exact .inr (.inr nr)
  .exact .inr (.inr np)
  .exact .inr (.inr nq)
inductive Az(C:Addr)(vs:List V)(H:Hp)(Q:VK)(_E:XK):Prop|mk(h:Addr)(os:List Addr)(S:QM)(_:vs=[.ref h])(_:HI C H h os S)(_:S.ms.length<=100)(_:∀(p:Addr) (H':Hp),H p=none->ag H H'->H' p=some (.lst ((aD S).map V.str))->Q (.ref p) H')
theorem qK{p:Prop}(h:p:=by (repeat (first | exact bO | show (bx (by trivial)).trans ?_))):p:=h
theorem cg (T:Txt K mg a):Ri P w K mg base 1 a.House "members" ["self"] (Az a.House):=by
 show tZ T.jt tY λf c A o s H vs Q E hr h=>?_;obtain⟨h,os,S,rfl,⟨dx,p,q0,r,is,kv,rfl,I⟩,hl,q⟩:=h;obtain⟨pi,xs,hp,hX⟩:=I.ms;have xl:=hX.length;show⟨_,(ai (az (iZ gD ["row"] [] [] Rr (eE K (cE K aT)) (λC s2 H2 fp=>⟨(gn 0 (Q6 ["row"])),dR,(QN K aT af)⟩)))),?_⟩;show⟨_,Z,h,a.House,dx,_,.ref p,Z,I.ih,T.aw.cl,T.aG,qK,p,rfl,⟨_,QF.of hp⟩,?_⟩;show dh (xs:=xs) (λi ys H'=>H'=H/\ys=(S.ms.take i).map λm=>V.str m.1) (λi ys H' _ h=>by rw[h.1]; exact bW (QF.of hp)) ⟨Z,Z⟩ (aB Y) (λi ys H' h=>by rw[h.2,MO,Ni]; exact Ob _ _) ?_ ?_
 .ext:14;rfl
 .rintro ys H2 p2 ⟨rfl,rfl⟩ np;show q p2 _ np (ag.upd np) ?_;rw[aa,xl,NC];unfold aD;rw[N1];rfl
inductive HG(a:Adr)(vs:List V)(H:Hp)(Q:VK)(E:XK):Prop|mk(h dx p q r:Addr)(is:List Addr)(kv:List V)(S:QM)(_:vs=[.ref h])(_:QZ a.House H h dx p q r is kv S)(_:S.ks.length<=150)(_:150<=S.ks.length->E (.ref a.Full) none H)(_:S.ks.length < 150-> ∀t,H t=none->Q .non (upd (upd H t (.tup [.ref p,.ref q])) r (.lst (kv++[.ref t]))))
theorem eZ (T:Txt K mg a):Rp P w K mg base 2 a.House "keep_deed" ["self"] (HG a):=by
 show iR T.g9 qZ λf c A o s H vs Q E hr h=>?_;obtain⟨h,dx,p,q0,r,is,kv,S,rfl,I,hl,e,q⟩:=h;have kl:=I.ks.length;show⟨_,(ae (aI (bq (kj T:) hr.mm (aq (cA K T.bT (cE K aT)) (QH (j8 T.mE))))) (ai (aI (ia K (cE K aT) (bR (aq (cE K aT) (QH (cE K aT)))))))),?_⟩;show⟨_,Z,h,a.House,dx,_,.ref r,Z,I.ih,T.aw.cl,T.cy,qK,_,_,rfl,.inl ⟨_,QF.of I.ir,rfl⟩,_,_,rfl,λz=>?_,λz=>e Y⟩;show⟨_,Z,h,a.House,dx,_,.ref r,Z,I.ih,T.aw.cl,T.cy,qK,.inl ⟨rfl,_,QF.of I.ir⟩,_,rfl,h,a.House,dx,_,.ref p,rfl,I.ih,T.aw.cl,T.aG,qK,_,rfl,h,a.House,dx,_,.ref q0,rfl,I.ih,T.aw.cl,T.aW,qK,aC,λt nt=>?_⟩;show⟨r,_,_,Z,Z,(ah (av I.ir nt)).trans I.ir,aB Y,?_⟩;exact q Y t nt
inductive qr(a:Adr)(vs:List V)(H:Hp)(Q:VK)(E:XK):Prop|mk(h:Addr)(os:List Addr)(S:QM)(y:Str)(_:vs=[.ref h,.str y])(_:HI a.House H h os S)(_:y.cps.toList.length<=1000)(_:S.ms.length<=12)(_:S.ks.length<=150)(_:∀H',ag H H'->y∈aD S->E (.ref a.InUse) none H')(_:∀H',ag H H'->y∉aD S->cL y.cps.toList=false->E (.ref a.BadName) none H')(_:∀H',ag H H'->y∉aD S->cL y.cps.toList=true->(12<=S.ms.length\/150<=S.ks.length)->E (.ref a.Full) none H')(_:∀H',y∉aD S->cL y.cps.toList=true->S.ms.length < 12->S.ks.length < 150->eV a.House H h os ⟨S.ms++[(y,none)],S.ds,S.ks++[(S.ms,S.ds)]⟩ H'->Q .non H')
theorem qy (T:Txt K mg a):Rp P w K mg base 4 a.House "add_member" ["self","name"] (qr a):=by
 show iR T.gX qx λf c A o s H vs Q E hr h=>?_;obtain⟨h,os,S,y,rfl,hI,hy,hml,hkl,e1,e2,e3,q⟩:=h;have hI0:=hI;obtain⟨dx,p,q0,r,is,kv,rfl,I⟩:=hI;show⟨_,(ae (aI (bq (gK T:) hr.mm (aq bY (QH (bf T.aw.cl (cg T:).x hr.mm aT))))) (ae (aI (bq (kj T:) hr.mm (aq (cA K T.bT (cE K aT)) (QH (j8 T.j7))))) (ae (aI (bf T.aw.cl (eZ T:) hr.mm aT)) (ai (jy aT (au fE (cE K aT) (ba (QH (bR (aq bY (QH bK)))))) rfl))))),?_⟩;show⟨_,Z,_,Z,h,dx,_,Z,I.ih,QR,h,_,S,Z,hI0,Y,λpm H1 npm s1 hpm=>?_⟩;show⟨y,pm,aD S,Z,QF.of hpm,hy,λhm=>e1 H1 s1 hm,λH2 s2 hm=>⟨λhg=>?_,λhb=>e2 H2 (s1.trans s2) hm hb⟩⟩;have s12:=s1.trans s2;have I2:=I.same s12;obtain⟨pi,xs,hp,hX⟩:=I2.ms;have xl:=hX.length;show⟨_,Z,h,a.House,dx,_,.ref p,Z,I2.ih,T.aw.cl,T.aG,qK,_,_,rfl,.inl ⟨_,QF.of hp,rfl⟩,_,_,rfl,λz=>?_,λz=>e3 H2 s12 hm hg (.inl Y)⟩;show⟨_,Z,h,dx,_,Z,I2.ih,QR,h,dx,p,q0,r,is,kv,S,Z,I2,hkl,λz=>e3 H2 s12 hm hg (.inr z),λz2 t nt=>?_⟩;have I3:=I2.keep nt;have hp3:(upd (upd H2 t (.tup [.ref p,.ref q0])) r (.lst (kv++[.ref t]))) p=some (.lst xs):=(ah (I2.sh pi).2.2).trans ((ah (av hp nt)).trans hp);show⟨_,Z,h,a.House,dx,_,.ref p,Z,I3.ih,T.aw.cl,T.aG,qK,_,rfl,aC,λt2 nt2=>⟨aC,λl nl=>?_⟩⟩;have st:=ag.upd (o:= .tup [.str y,.non]) nt2;have sl:=ag.upd (o:= .lst [.ref t2]) nl;show⟨p,l,_,_,Z,Z,(st.trans sl) _ _ hp3,aa,by rw[xl]; exact Nw (aB (by change S.ms.length+1<=1000; lia)),λp' np'=>?_⟩;have s4:=(st.trans sl).trans (ag.upd (o:= .lst (xs++[.ref t2])) np');have ht2:=(sl.trans (ag.upd (o:= .lst (xs++[.ref t2])) np')) _ _ (aa (H:=(upd (upd H2 t (.tup [.ref p,.ref q0])) r (.lst (kv++[.ref t])))) (a:=t2) (o:= .tup [.str y,.non]));have hp4:(upd (upd (upd (upd (upd H2 t (.tup [.ref p,.ref q0])) r (.lst (kv++[.ref t]))) t2 (.tup [.str y,.non])) l (.lst [.ref t2])) p' (.lst (xs++[.ref t2]))) p'=some (.lst (xs++[.ref t2])):=aa;have np3:=(st.trans sl).free np';show⟨_,Z,h,a.House,dx,_,Z,s4 _ _ I3.ih,T.aw.cl,T.aG,(by change 3 < 1000; decide),?_⟩;rw[mv];generalize upd (upd (upd (upd (upd H2 t (.tup [.ref p,.ref q0])) r (.lst (kv++[.ref t]))) t2 (.tup [.str y,.non])) l (.lst [.ref t2])) p' (.lst (xs++[.ref t2]))=H4 at s4 ht2 hp4;show q _ hm hg Y z2 (I.Gk s12 nt s4 (uG s12 nt np3) hp4 (F2.append ?_ (.cons ⟨t2,Z,.inr (uG s12 nt nt2),ht2⟩ .nil)));show hX.imp λv m ⟨b,e,bi,hb⟩=>⟨b,e,.inl bi,s4 _ _ ((ah (I2.sh bi).2.2).trans ((ah (av hb nt)).trans hb))⟩
inductive AK(a:Adr)(vs:List V)(H:Hp)(Q:VK)(E:XK):Prop|mk(p e o:Int)(_:vs=[.int p,.int e,.int o])(_:Rb p e o->eC p e o<=99999->Q (.int (eC p e o)) H)(_:Rb p e o->99999 < eC p e o->E (.ref a.TooMuch) none H)(_:¬Rb p e o->E (.ref a.BadNumber) none H)
theorem AN (T:Txt K mg a):RN P w K mg base 2 "portion" ["people","each","over"] (AK a):=by
 show vz T.rE uA λf c A o s H vs Q E hr h=>?_;obtain⟨p,e,o,rfl,q1,q2,q3⟩:=h;show⟨_,(ae (aN (fg (PW.pt (dy (dz K (bq (kP T:).x hr.mm (aq aT (QH (mf T.tE))))) (dy (dz K (bq (kP T:).x hr.mm (aq bY (QH (mf T.yv))))) (dj (dz K (bq (kP T:).x hr.mm (aq dO (QH (mf T.xP)))))))))) (ai (eB T.kE rfl (QH bS))) aF) (ae (QJ 3 uA.nd (au bF (au jD (au bE (au uV aT bY) dO) af) dO)) (ae (aN (aK pU eX (j8 T.jR)) (ai (eB T.ra rfl (QH bS))) aF) (ai (az eX))))),?_⟩;have bad: ¬Rb p e o->([V.str "a number of the portion is outside its range"].length<=1000/\E (.ref a.BadNumber) none H):=λz=>⟨aS,q3 z⟩
 show⟨_,Z,λa1 h1=>⟨_,0,999,a1,Z,h1 _,_,Z,?_⟩⟩;show bo (λc1=>?_) (λc1=>?_);rotate_left
 .show bu (bad λz=>?_);unfold Rb at z;simp at c1;lia
 .show⟨_,Z,λa2 h2=>⟨_,1,999,a2,Z,h2 _,_,Z,?_⟩⟩;show bo (λc2=>?_) (λc2=>?_);rotate_left
  .show bu (bad λz=>?_);unfold Rb at z;simp at c2;lia
  .show⟨_,Z,λa3 h3=>⟨_,1,999,a3,Z,h3 _,_,Z,?_⟩⟩;show bo (λc3=>bad λz=>?_) (λc3=>?_)
   .unfold Rb at z;simp at c3;lia
   .have hin:Rb p e o:=by
     simp at c1 c2 c3;unfold Rb;lia
    have hin':=id hin;unfold Rb at hin';show⟨_,Z,_,Z,_,_,Z,Z,.inl ⟨Y,Y⟩,_,Z,_,_,Z,Z,_,_,Z,Z,_,Z,_,_,Z,Z,⟨Y,Y⟩,?_⟩;show⟨_,Z,_,_,Z,Z,_,Z,?_⟩;show bo (λc4=>?_) (λc4=>?_);.exact⟨by change 1<=1000; decide,q2 hin (M9 c4)⟩
    .exact⟨_,Z,q1 hin (by have:=Nr (Nl _▸c4); unfold eC; lia)⟩
inductive uq(C:Addr)(vs:List V)(H:Hp)(Q:VK)(_E:XK):Prop|mk(h:Addr)(os:List Addr)(S:QM)(_:vs=[.ref h])(_:HI C H h os S)(_:S.ds.length<=100)(_:∀(p:Addr) (H':Hp),H p=none->ag H H'->H' p=some (.lst ((aV S).map V.str))->Q (.ref p) H')
theorem dU (T:Txt K mg a):Ri P w K mg base 1 a.House "demand_names" ["self"] (uq a.House):=by
 show tZ T.fV oI λf c A o s H vs Q E hr h=>?_;obtain⟨h,os,S,rfl,⟨dx,p0,p,r,is,kv,rfl,I⟩,hl,q⟩:=h;obtain⟨pi,xs,hp,hX⟩:=I.ds;have xl:=hX.length;show⟨_,(ai (az (iZ d9 ["row"] [] [] Rr (eE K (cE K aT)) (λC s2 H2 fp=>⟨(gn 0 (Q6 ["row"])),dR,(QN K aT af)⟩)))),?_⟩;show⟨_,Z,h,a.House,dx,_,.ref p,Z,I.ih,T.aw.cl,T.aW,qK,p,rfl,⟨_,QF.of hp⟩,?_⟩;show dh (xs:=xs) (λi ys H'=>H'=H/\ys=(S.ds.take i).map λm=>V.str m.1) (λi ys H' _ h=>by rw[h.1]; exact bW (QF.of hp)) ⟨Z,Z⟩ (aB Y) (λi ys H' h=>by rw[h.2,MO,Ni]; exact Ob _ _) ?_ ?_
 .ext:14;rfl
 .rintro ys H2 p2 ⟨rfl,rfl⟩ np;show q p2 _ np (ag.upd np) ?_;rw[aa,xl,NC];unfold aV;rw[N1];rfl
inductive A9(K:QG)(a:Adr)(vs:List V)(H:Hp)(Q:VK)(E:XK):Prop|mk(n lo hi:Int)(p:Addr)(_:vs=[.int n,.ref p])(_:QK K H p [.int lo,.int hi])(_:lo<=n/\n<=hi->Q .non H)(_:¬(lo<=n/\n<=hi)->E (.ref a.BadNumber) none H)
theorem lU (T:Txt K mg a):RN P w K mg base 2 "refuse_outside" ["number","span"] (A9 K a):=by
 show vz T.iU sF λf c A o s H vs Q E hr h=>?_;obtain⟨n,lo,hi,p,rfl,hp,q,e⟩:=h;show⟨_,(ai (aN (fg (dz K (bq (kP T:).x hr.mm (aq aT (QH bY))))) (ai (eB T.kE rfl (QH bS))) aF)),?_⟩;show⟨_,Z,_,Z,n,lo,hi,p,Z,hp,_,Z,?_⟩;by_cases c:lo<=n/\n<=hi
 .rw[show (decide (lo<=n) && decide (n<=hi))=true from by simp[c.1,c.2]];exact aP (q c)
 .rw[show (decide (lo<=n) && decide (n<=hi))=false from by
   rw[Bool.eq_false_iff];intro z;rw[NG] at z;exact c ⟨M9 z.1,M9 z.2⟩]
  exact bu ⟨aS,e c⟩
inductive EL(a:Adr)(vs:List V)(H:Hp)(Q:VK)(E:XK):Prop|mk(h dx p q r:Addr)(is:List Addr)(kv:List V)(S:QM)(H0:Hp)(t:Addr)(d:QQ)(_:vs=[.ref h,.ref t])(_:QZ a.House H0 h dx p q r is kv S)(_:ag H0 H)(_:H0 t=none)(_:H t=some (.tup (gB d)))(_:S.ds.length<=24)(_:S.ks.length<=150)(_:(24<=S.ds.length\/150<=S.ks.length)->E (.ref a.Full) none H)(_:∀H',S.ds.length < 24->S.ks.length < 150->eV a.House H0 h (h::dx::r::is) ⟨S.ms,S.ds++[d],S.ks++[(S.ms,S.ds)]⟩ H'->Q .non H')
theorem je (T:Txt K mg a):Rp P w K mg base 3 a.House "bring_demand" ["self","row"] (EL a):=by
 show iR T.fS oQ λf c A o s H vs Q E hr h=>?_;obtain⟨h,dx,p,q0,r,is,kv,S,H0,t0,d,rfl,I,s0,nt0,ht0,hdl,hkl,e,q⟩:=h;show⟨_,(ae (aI (bq (kj T:) hr.mm (aq (cA K T.bT (cE K aT)) (QH (j8 T.ku))))) (ae (aI (bf T.aw.cl (eZ T:) hr.mm aT)) (ai (jy aT (au fE (cE K aT) (ba (QH bY))) rfl)))),?_⟩;have I2:=I.same s0;obtain⟨pi,xs,hp,hX⟩:=I2.ds;have xl:=hX.length;show⟨_,Z,h,a.House,dx,_,.ref q0,Z,I2.ih,T.aw.cl,T.aW,qK,_,_,rfl,.inl ⟨_,QF.of hp,rfl⟩,_,_,rfl,λz=>?_,λz=>e (.inl Y)⟩;show⟨_,Z,h,dx,_,Z,I2.ih,QR,h,dx,p,q0,r,is,kv,S,Z,I2,hkl,λz=>e (.inr z),λz2 t nt=>?_⟩;have I3:=I2.keep nt;have hp3:(upd (upd H t (.tup [.ref p,.ref q0])) r (.lst (kv++[.ref t]))) q0=some (.lst xs):=(ah (I2.sh pi).2.2).trans ((ah (av hp nt)).trans hp);have tr:t0≠r:=λz=>by rw[z,I.ir] at nt0; cases nt0
 have ht3:(upd (upd H t (.tup [.ref p,.ref q0])) r (.lst (kv++[.ref t]))) t0=some (.tup (gB d)):=(ah tr).trans ((ah (av ht0 nt)).trans ht0);show⟨_,Z,h,a.House,dx,_,.ref q0,Z,I3.ih,T.aw.cl,T.aW,qK,_,rfl,aC,λl nl=>?_⟩;have sl:=ag.upd (o:= .lst [.ref t0]) nl;show⟨q0,l,_,_,Z,Z,sl _ _ hp3,aa,by rw[xl]; exact Nw (aB (by change S.ds.length+1<=1000; lia)),λp' np'=>?_⟩;have s4:=sl.trans (ag.upd (o:= .lst (xs++[.ref t0])) np');have hp4:(upd (upd (upd (upd H t (.tup [.ref p,.ref q0])) r (.lst (kv++[.ref t]))) l (.lst [.ref t0])) p' (.lst (xs++[.ref t0]))) p'=some (.lst (xs++[.ref t0])):=aa;have np3:=sl.free np';show⟨_,Z,h,a.House,dx,_,Z,s4 _ _ I3.ih,T.aw.cl,T.aW,(by change 3 < 1000; decide),?_⟩;rw[ma (by trivial),mv];generalize upd (upd (upd (upd H t (.tup [.ref p,.ref q0])) r (.lst (kv++[.ref t]))) l (.lst [.ref t0])) p' (.lst (xs++[.ref t0]))=H4 at s4 hp4;show q _ Y z2 (I.F4 s0 nt s4 (uG s0 nt np3) hp4 (F2.append ?_ (.cons ⟨t0,Z,.inr nt0,s4 _ _ ht3⟩ .nil)));show hX.imp λv m ⟨b,e,bi,hb⟩=>⟨b,e,.inl bi,s4 _ _ ((ah (I2.sh bi).2.2).trans ((ah (av hb nt)).trans hb))⟩
inductive qN(a:Adr)(vs:List V)(H:Hp)(Q:VK)(E:XK):Prop|mk(h:Addr)(os:List Addr)(S:QM)(y m:Str)(pe ea ov:Int)(_:vs=[.ref h,.str y,.str m,.int pe,.int ea,.int ov])(_:HI a.House H h os S)(_:y.cps.toList.length<=1000)(_:S.ms.length<=12)(_:S.ds.length<=24)(_:S.ks.length<=150)(_:∀H',ag H H'->m∉aD S->E (.ref a.Unknown) none H')(_:∀H',ag H H'->m∈aD S->y∈aV S->E (.ref a.InUse) none H')(_:∀H',ag H H'->m∈aD S->y∉aV S->cL y.cps.toList=false->E (.ref a.BadName) none H')(_:∀H',ag H H'->m∈aD S->y∉aV S->cL y.cps.toList=true-> ¬Rb pe ea ov->E (.ref a.BadNumber) none H')(_:∀H',ag H H'->m∈aD S->y∉aV S->cL y.cps.toList=true->Rb pe ea ov->99999 < eC pe ea ov->E (.ref a.TooMuch) none H')(_:∀H',ag H H'->m∈aD S->y∉aV S->cL y.cps.toList=true->Rb pe ea ov->eC pe ea ov<=99999->(24<=S.ds.length\/150<=S.ks.length)->E (.ref a.Full) none H')(_:∀H',m∈aD S->y∉aV S->cL y.cps.toList=true->Rb pe ea ov->eC pe ea ov<=99999->S.ds.length < 24->S.ks.length < 150->eV a.House H h os ⟨S.ms,S.ds++[(y,m,none,eC pe ea ov)],S.ks++[(S.ms,S.ds)]⟩ H'->Q .non H')
theorem rB (T:Txt K mg a):Rp P w K mg base 4 a.House "add_plain" ["self","name","member","people","each","over"] (qN a):=by
 show iR T.ie qP λf c A o s H vs Q E hr h=>?_;obtain⟨h,os,S,y,m,pe,ea,ov,rfl,hI,hy,hml,hdl,hkl,e1,e2,e3,e4,e5,e6,q⟩:=h;have hI0:=hI;obtain⟨dx,p,q0,r,is,kv,rfl,I⟩:=hI;show⟨_,(ae (aI (bq (fu T:) hr.mm (aq dO (QH (bf T.aw.cl (cg T:).x hr.mm aT))))) (ae (aI (bq (gK T:) hr.mm (aq bY (QH (bf T.aw.cl (dU T:).x hr.mm aT))))) (ai (aI (gQ T.aw.cl (je T:) hr.mm aT (QH (bR (aq bY (aq dO (aq bK (QH (bq (AN T:) hr.mm (aq eX (aq gE (QH gT))))))))))))))),?_⟩;show⟨_,Z,_,Z,h,dx,_,Z,I.ih,QR,h,_,S,Z,hI0,Y,λpm H1 npm s1 hpm=>?_⟩;show⟨m,pm,aD S,Z,QF.of hpm,λhm=>?_,λhm=>e1 H1 s1 hm⟩;show⟨_,Z,_,Z,h,dx,_,Z,(I.same s1).ih,QR,h,_,S,Z,⟨dx,p,q0,r,is,kv,Z,I.same s1⟩,Y,λpd H2 npd s2 hpd=>?_⟩;have s12:=s1.trans s2;show⟨y,pd,aV S,Z,QF.of hpd,hy,λhn=>e2 H2 s12 hm hn,λH3 s3 hn=>⟨λhg=>?_,λhb=>e3 H3 (s12.trans s3) hm hn hb⟩⟩;have s13:=s12.trans s3;show⟨_,Z,h,dx,_,Z,(I.same s13).ih,QR,_,Z,_,Z,_,Z,_,Z,_,Z,pe,ea,ov,Z,λhr1 hr2=>⟨aC,λt nt=>?_⟩,λhr1 hr2=>e5 H3 s13 hm hn hg hr1 hr2,λhr1=>e4 H3 s13 hm hn hg hr1⟩;show⟨h,dx,p,q0,r,is,kv,S,H,t,(y,m,none,eC pe ea ov),Z,I,s13.trans (ag.upd nt),s13.free nt,aa,hdl,hkl,λz=>e6 _ (s13.trans (ag.upd nt)) hm hn hg hr1 hr2 z,λH' z1 z2 hN=>q H' hm hn hg hr1 hr2 z1 z2 hN⟩
inductive sP(a:Adr)(vs:List V)(H:Hp)(Q:VK)(E:XK):Prop|mk(h:Addr)(os:List Addr)(S:QM)(y m b:Str)(mo:Int)(_:vs=[.ref h,.str y,.str m,.str b,.int mo])(_:HI a.House H h os S)(_:y.cps.toList.length<=1000)(_:S.ms.length<=12)(_:S.ds.length<=24)(_:S.ks.length<=150)(_:∀H',ag H H'->(m∉aD S\/b∉aD S)->E (.ref a.Unknown) none H')(_:∀H',ag H H'->m∈aD S->b∈aD S->y∈aV S->E (.ref a.InUse) none H')(_:∀H',ag H H'->m∈aD S->b∈aD S->y∉aV S->cL y.cps.toList=false->E (.ref a.BadName) none H')(_:∀H',ag H H'->m∈aD S->b∈aD S->y∉aV S->cL y.cps.toList=true-> ¬(0<=mo/\mo<=99)->E (.ref a.BadNumber) none H')(_:∀H',ag H H'->m∈aD S->b∈aD S->y∉aV S->cL y.cps.toList=true->0<=mo/\mo<=99->(24<=S.ds.length\/150<=S.ks.length)->E (.ref a.Full) none H')(_:∀H',m∈aD S->b∈aD S->y∉aV S->cL y.cps.toList=true->0<=mo/\mo<=99->S.ds.length < 24->S.ks.length < 150->eV a.House H h os ⟨S.ms,S.ds++[(y,m,some b,mo)],S.ks++[(S.ms,S.ds)]⟩ H'->Q .non H')
theorem sI (T:Txt K mg a):Rp P w K mg base 4 a.House "add_link" ["self","name","member","base","more"] (sP a):=by
 show iR T.iP sC λf c A o s H vs Q E hr h=>?_;obtain⟨h,os,S,y,m,b,mo,rfl,hI,hy,hml,hdl,hkl,e1,e2,e3,e4,e6,q⟩:=h;have hI0:=hI;obtain⟨dx,p,q0,r,is,kv,rfl,I⟩:=hI;show⟨_,(ae (aI (bq (fu T:) hr.mm (aq dO (QH (bf T.aw.cl (cg T:).x hr.mm aT))))) (ae (aI (bq (fu T:) hr.mm (aq eX (QH (bf T.aw.cl (cg T:).x hr.mm aT))))) (ae (aI (bq (gK T:) hr.mm (aq bY (QH (bf T.aw.cl (dU T:).x hr.mm aT))))) (ae (aI (bq (lU T:) hr.mm (aq gE (QH (mf T.nW))))) (ai (aI (gQ T.aw.cl (je T:) hr.mm aT (QH (bR (aq bY (aq dO (aq eX (QH gE))))))))))))),?_⟩;show⟨_,Z,_,Z,h,dx,_,Z,I.ih,QR,h,_,S,Z,hI0,Y,λpm H1 npm s1 hpm=>?_⟩;show⟨m,pm,aD S,Z,QF.of hpm,λhm=>?_,λhm=>e1 H1 s1 (.inl hm)⟩;show⟨_,Z,_,Z,h,dx,_,Z,(I.same s1).ih,QR,h,_,S,Z,⟨dx,p,q0,r,is,kv,Z,I.same s1⟩,Y,λpb H1' npb s1' hpb=>?_⟩;have s1:=s1.trans s1';show⟨b,pb,aD S,Z,QF.of hpb,λhb'=>?_,λhb'=>e1 H1' s1 (.inr hb')⟩;show⟨_,Z,_,Z,h,dx,_,Z,(I.same s1).ih,QR,h,_,S,Z,⟨dx,p,q0,r,is,kv,Z,I.same s1⟩,Y,λpd H2 npd s2 hpd=>?_⟩;have s12:=s1.trans s2;show⟨y,pd,aV S,Z,QF.of hpd,hy,λhn=>e2 H2 s12 hm hb' hn,λH3 s3 hn=>⟨λhg=>?_,λhb=>e3 H3 (s12.trans s3) hm hb' hn hb⟩⟩;have s13:=s12.trans s3;show⟨_,Z,λa1 h1=>⟨mo,0,99,a1,Z,h1 _,λhr1=>?_,λhr1=>e4 H3 s13 hm hb' hn hg hr1⟩⟩;show⟨_,Z,h,dx,_,Z,(I.same s13).ih,QR,_,Z,_,Z,_,Z,_,Z,aC,λt nt=>?_⟩;show⟨h,dx,p,q0,r,is,kv,S,H,t,(y,m,some b,mo),Z,I,s13.trans (ag.upd nt),s13.free nt,aa,hdl,hkl,λz=>e6 _ (s13.trans (ag.upd nt)) hm hb' hn hg hr1 z,λH' z1 z2 hN=>q H' hm hb' hn hg hr1 z1 z2 hN⟩
inductive mB(a:Adr)(vs:List V)(H:Hp)(Q:VK)(E:XK):Prop|mk(h:Addr)(os:List Addr)(S:QM)(y:Str)(_:vs=[.ref h,.str y])(_:HI a.House H h os S)(_:S.ds.length<=24)(_:S.ks.length<=150)(_:∀H',ag H H'->y∉aV S->E (.ref a.Unknown) none H')(_:∀H',ag H H'->y∈aV S->150<=S.ks.length->E (.ref a.Full) none H')(_:∀(H':Hp) (j:Nat),(aV S)[j]?=some y->(∀m,m < j->(aV S)[m]?≠some y)->S.ks.length < 150->eV a.House H h os ⟨S.ms,S.ds.take j++S.ds.drop (j+1),S.ks++[(S.ms,S.ds)]⟩ H'->Q .non H')
theorem oi (T:Txt K mg a):Rp P w K mg base 4 a.House "strike_demand" ["self","name"] (mB a):=by
 show iR T.fA iy λf c A o s H vs Q E hr h=>?_;obtain⟨h,os,S,y,rfl,hI,hdl,hkl,e1,e3,q⟩:=h;have hI0:=hI;obtain⟨dx,p,q0,r,is,kv,rfl,I⟩:=hI;show⟨_,(ae (QJ 2 iy.nd (bq (ky T:) hr.mm (aq bY (QH (bf T.aw.cl (dU T:).x hr.mm aT))))) (ae (aI (bf T.aw.cl (eZ T:) hr.mm aT)) (ai (jy aT (au fE (cK (RA K) (cE K aT) dS (cM dO)) (cK (RA K) (cE K aT) (cM (au bE dO af)) dS)) rfl)))),?_⟩;show⟨_,Z,_,Z,h,dx,_,Z,I.ih,QR,h,_,S,Z,hI0,Y,λpm H3 npm s2 hpm=>?_⟩;show⟨y,pm,aV S,Z,hpm,λj hj hjm=>?_,λhm=>e1 H3 s2 hm⟩;have hm:y∈aV S:=MS hj;have I3:=I.same s2;obtain⟨pi,xs,hp,hX⟩:=I3.ds;have xl:=hX.length;show⟨_,Z,h,dx,_,Z,I3.ih,QR,h,dx,p,q0,r,is,kv,S,Z,I3,hkl,λz=>e3 _ s2 hm z,λz2 t nt=>?_⟩;have I4:=I3.keep nt;have hp4:(upd (upd H3 t (.tup [.ref p,.ref q0])) r (.lst (kv++[.ref t]))) q0=some (.lst xs):=(ah (I3.sh pi).2.2).trans ((ah (av hp nt)).trans hp);ext:5;show⟨_,Z,h,a.House,dx,_,.ref q0,Z,I4.ih,T.aw.cl,T.aW,qK,_,rfl,_,rfl,q0,xs,rfl,QF.of hp4,λc1 nc1=>?_⟩;rw[oS];show⟨_,Z,h,a.House,dx,_,.ref q0,Z,ag.upd nc1 _ _ I4.ih,T.aw.cl,T.aW,qK,_,rfl,_,_,rfl,rfl,_,rfl,q0,xs,rfl,QF.of (ag.upd nc1 _ _ hp4),λc2 nc2=>?_⟩;rw[show (((j:Nat):Int)+1)=((j+1:Nat):Int) by lia,pZ];show⟨c1,c2,_,_,Z,Z,ag.upd nc2 _ _ aa,aa,by rw[Ni,NR]; exact Nw (aB Y),λc3 nc3=>?_⟩;have s4:=((ag.upd (o:= .lst (xs.take j)) nc1).trans (ag.upd (o:= .lst (xs.drop (j+1))) nc2)).trans (ag.upd (o:= .lst (xs.take j++xs.drop (j+1))) nc3);have hc3:(upd (upd (upd (upd (upd H3 t (.tup [.ref p,.ref q0])) r (.lst (kv++[.ref t]))) c1 (.lst (xs.take j))) c2 (.lst (xs.drop (j+1)))) c3 (.lst (xs.take j++xs.drop (j+1)))) c3=some (.lst (xs.take j++xs.drop (j+1))):=aa;have np3:=((ag.upd (o:= .lst (xs.take j)) nc1).trans (ag.upd (o:= .lst (xs.drop (j+1))) nc2)).free nc3;show⟨_,Z,h,a.House,dx,_,Z,s4 _ _ I4.ih,T.aw.cl,T.aW,(by change 3 < 1000; decide),?_⟩;rw[ma (by trivial),mv];generalize upd (upd (upd (upd (upd H3 t (.tup [.ref p,.ref q0])) r (.lst (kv++[.ref t]))) c1 (.lst (xs.take j))) c2 (.lst (xs.drop (j+1)))) c3 (.lst (xs.take j++xs.drop (j+1)))=H4 at s4 hc3;have hold4:F2 (tj gB is H H4) xs S.ds:=hX.imp λv m ⟨b,e,bi,hb⟩=>⟨b,e,.inl bi,s4 _ _ ((ah (I3.sh bi).2.2).trans ((ah (av hb nt)).trans hb))⟩
 exact q _ j hj hjm z2 (I.F4 s2 nt s4 (uG s2 nt np3) hc3 ((hold4.take j).append (hold4.drop (j+1))))
def bZ (S:QM):List (Option Int):=S.ms.map (·.2)
inductive zA(C:Addr)(vs:List V)(H:Hp)(Q:VK)(_E:XK):Prop|mk(h:Addr)(os:List Addr)(S:QM)(_:vs=[.ref h])(_:HI C H h os S)(_:S.ms.length<=100)(_:∀(p:Addr) (H':Hp),H p=none->ag H H'->H' p=some (.lst ((bZ S).map dA))->Q (.ref p) H')
theorem cx (T:Txt K mg a):Ri P w K mg base 1 a.House "greatest_widths" ["self"] (zA a.House):=by
 show tZ T.eM mF λf c A o s H vs Q E hr h=>?_;obtain⟨h,os,S,rfl,⟨dx,p,q0,r,is,kv,rfl,I⟩,hl,q⟩:=h;obtain⟨pi,xs,hp,hX⟩:=I.ms;have xl:=hX.length;show⟨_,(ai (az (iZ dr ["row"] [] [] Rr (eE K (cE K aT)) (λC s2 H2 fp=>⟨(gn 0 (Q6 ["row"])),dR,(QN K aT af)⟩)))),?_⟩;show⟨_,Z,h,a.House,dx,_,.ref p,Z,I.ih,T.aw.cl,T.aG,qK,p,rfl,⟨_,QF.of hp⟩,?_⟩;show dh (xs:=xs) (λi ys H'=>H'=H/\ys=(S.ms.take i).map λm=>dA m.2) (λi ys H' _ h=>by rw[h.1]; exact bW (QF.of hp)) ⟨Z,Z⟩ (aB Y) (λi ys H' h=>by rw[h.2,MO,Ni]; exact Ob _ _) ?_ ?_
 .ext:14;rfl
 .rintro ys H2 p2 ⟨rfl,rfl⟩ np;show q p2 _ np (ag.upd np) ?_;rw[aa,xl,NC];unfold bZ;rw[N1];rfl
inductive Cj(a:Adr)(vs:List V)(H:Hp)(Q:VK)(E:XK):Prop|mk(h dx p q r:Addr)(is:List Addr)(kv:List V)(S:QM)(H0:Hp)(j:Nat)(o:Option Int)(m:Mem)(_:vs=[.ref h,.int (j:Nat),dA o])(_:QZ a.House H0 h dx p q r is kv S)(_:ag H0 H)(_:S.ms[j]?=some m)(_:S.ms.length<=12)(_:S.ks.length<=150)(_:150<=S.ks.length->E (.ref a.Full) none H)(_:∀H',S.ks.length < 150->eV a.House H0 h (h::dx::r::is) ⟨S.ms.take j++[(m.1,o)]++S.ms.drop (j+1),S.ds,S.ks++[(S.ms,S.ds)]⟩ H'->Q .non H')
theorem jJ (T:Txt K mg a):Rp P w K mg base 3 a.House "change_top" ["self","place","top"] (Cj a):=by
 show iR T.gF jI λf c A o s H vs Q E hr h=>?_;obtain⟨h,dx,p,q0,r,is,kv,S,H0,j,o,m,rfl,I,s0,hj,hml,hkl,e,q⟩:=h;show⟨_,(ae (aI (bf T.aw.cl (eZ T:) hr.mm aT)) (ae (QJ 3 jI.nd (bR (aq (QN K (QI K (cE K aT) bY) af) (QH dO)))) (ai (jy aT (au fE (au fE (cK (RA K) (cE K aT) dS (cM bY)) (ba (QH eX))) (cK (RA K) (cE K aT) (cM (au bE bY af)) dS)) rfl)))),?_⟩;have I2:=I.same s0;obtain⟨pi,xs,hp,hX⟩:=I2.ms;have xl:=hX.length;show⟨_,Z,h,dx,_,Z,I2.ih,QR,h,dx,p,q0,r,is,kv,S,Z,I2,hkl,λz=>e z,λz2 t nt=>?_⟩;have I3:=I2.keep nt;have hp3:(upd (upd H t (.tup [.ref p,.ref q0])) r (.lst (kv++[.ref t]))) p=some (.lst xs):=(ah (I2.sh pi).2.2).trans ((ah (av hp nt)).trans hp);have hX3:F2 (tj vx is H0 (upd (upd H t (.tup [.ref p,.ref q0])) r (.lst (kv++[.ref t])))) xs S.ms:=hX.imp λv m ⟨b,e,bi,hb⟩=>⟨b,e,.inl bi,(ah (I2.sh bi).2.2).trans ((ah (av hb nt)).trans hb)⟩
 have fr: ∀ {b:Addr},(upd (upd H t (.tup [.ref p,.ref q0])) r (.lst (kv++[.ref t]))) b=none->H0 b=none:=λz=>uG s0 nt z;obtain⟨H3,e3⟩: ∃H3,H3=upd (upd H t (.tup [.ref p,.ref q0])) r (.lst (kv++[.ref t])):=⟨_,Z⟩
 have deed:=λ{H4:Hp}=>@QZ.Gk a.House h dx p q0 r H0 is kv S I H s0 t nt H4;rw[<-e3] at I3 hp3 hX3 fr deed ⊢;obtain⟨v,hv,tm,rfl,_,htm⟩:=hX3.at' hj;show⟨_,Z,h,a.House,dx,_,.ref p,Z,I3.ih,T.aw.cl,T.aG,qK,_,rfl,p,_,_,_,rfl,rfl,QF.of hp3,bz hv,tm,_,_,_,rfl,rfl,QK.of htm,rfl,_,rfl,aC,λt2 nt2=>?_⟩;have s4:=ag.upd (o:= .tup [.str m.1,dA o]) nt2;have ht4:(upd H3 t2 (.tup [.str m.1,dA o])) t2=some (.tup (vx (m.1,o))):=aa;ext:5;generalize upd H3 t2 (.tup [.str m.1,dA o])=H4 at s4 ht4;show⟨_,Z,h,a.House,dx,_,.ref p,Z,s4 _ _ I3.ih,T.aw.cl,T.aG,qK,_,rfl,_,rfl,p,xs,rfl,QF.of (s4 _ _ hp3),λc1 nc1=>?_⟩;rw[oS];have s5:=ag.upd (o:= .lst (xs.take j)) nc1;have hc1:(upd H4 c1 (.lst (xs.take j))) c1=some (.lst (xs.take j)):=aa;generalize upd H4 c1 (.lst (xs.take j))=H5 at s5 hc1;show⟨_,Z,aC,λl nl=>?_⟩;have s6:=ag.upd (o:= .lst [.ref t2]) nl;have hl6:(upd H5 l (.lst [.ref t2])) l=some (.lst [.ref t2]):=aa;generalize upd H5 l (.lst [.ref t2])=H6 at s6 hl6;show⟨c1,l,_,_,Z,Z,s6 _ _ hc1,hl6,by rw[Ni]; exact Nw (aB (by change min j xs.length+1<=1000; lia)),λc2 nc2=>?_⟩;have s7:=ag.upd (o:= .lst (xs.take j++[.ref t2])) nc2;have hc2:(upd H6 c2 (.lst (xs.take j++[.ref t2]))) c2=some (.lst (xs.take j++[.ref t2])):=aa;generalize upd H6 c2 (.lst (xs.take j++[.ref t2]))=H7 at s7 hc2;have s47:=(s5.trans s6).trans s7;show⟨_,Z,h,a.House,dx,_,.ref p,Z,s47 _ _ (s4 _ _ I3.ih),T.aw.cl,T.aG,qK,_,rfl,_,_,rfl,rfl,_,rfl,p,xs,rfl,QF.of (s47 _ _ (s4 _ _ hp3)),λc3 nc3=>?_⟩;rw[show (((j:Nat):Int)+1)=((j+1:Nat):Int) by lia,pZ];have s8:=ag.upd (o:= .lst (xs.drop (j+1))) nc3;have hc3:(upd H7 c3 (.lst (xs.drop (j+1)))) c3=some (.lst (xs.drop (j+1))):=aa;generalize upd H7 c3 (.lst (xs.drop (j+1)))=H8 at s8 hc3;show⟨c2,c3,_,_,Z,Z,s8 _ _ hc2,hc3,by rw[M0,Ni,NR]; exact Nw (aB (by change min j xs.length+1+(xs.length - (j+1))<=1000; lia)),λc4 nc4=>?_⟩;have s9:=ag.upd (o:= .lst (xs.take j++[.ref t2]++xs.drop (j+1))) nc4;have hc4:(upd H8 c4 (.lst (xs.take j++[.ref t2]++xs.drop (j+1)))) c4=some (.lst (xs.take j++[.ref t2]++xs.drop (j+1))):=aa;generalize upd H8 c4 (.lst (xs.take j++[.ref t2]++xs.drop (j+1)))=H9 at s9 hc4;have s48:=s47.trans s8;have s49:=s48.trans s9;have s39:=s4.trans s49;show⟨_,Z,h,a.House,dx,_,Z,s39 _ _ I3.ih,T.aw.cl,T.aG,(by change 3 < 1000; decide),?_⟩;rw[mv];have hold:F2 (tj vx is H0 H9) xs S.ms:=hX3.imp λv m ⟨b,e,bi,hb⟩=>⟨b,e,bi,s39 _ _ hb⟩
 exact q _ z2 (deed s39 (fr ((s4.trans s48).free nc4)) hc4 (((hold.take j).append (.cons ⟨t2,Z,.inr (fr nt2),s49 _ _ ht4⟩ .nil)).append (hold.drop (j+1))))
inductive uK(a:Adr)(vs:List V)(H:Hp)(Q:VK)(E:XK):Prop|mk(h:Addr)(os:List Addr)(S:QM)(m:Str)(wd:Int)(_:vs=[.ref h,.str m,.int wd])(_:HI a.House H h os S)(_:S.ms.length<=12)(_:S.ks.length<=150)(_:∀H',ag H H'->m∉aD S->E (.ref a.Unknown) none H')(_:∀(j:Nat) (o:Option Int),(aD S)[j]?=some m->(∀i,i < j->(aD S)[i]?≠some m)->S.ms[j]?=some (m,o)->(∀H',ag H H'->o≠none->E (.ref a.InUse) none H')/\(∀H',ag H H'->o=none-> ¬(0<=wd/\wd<=99999)->E (.ref a.BadNumber) none H')/\(∀H',ag H H'->o=none->0<=wd/\wd<=99999->150<=S.ks.length->E (.ref a.Full) none H')/\(∀H',o=none->0<=wd/\wd<=99999->S.ks.length < 150->eV a.House H h os ⟨S.ms.take j++[(m,some wd)]++S.ms.drop (j+1),S.ds,S.ks++[(S.ms,S.ds)]⟩ H'->Q .non H'))
variable{S:QM}{j:Nat}{m:Str}
theorem Cg(h:(aD S)[j]?=some m): ∃o,S.ms[j]?=some (m,o):=by
 unfold aD at h;rw[M5] at h;cases e:S.ms[j]? with
 | none=>rw[e] at h; cases h
 | some x=>rw[e] at h; obtain⟨m',o⟩:=x; cases h; exact⟨o,Z⟩
theorem zH {o:Option Int}(h:S.ms[j]?=some (m,o)):QV ((bZ S).map dA) (j:Nat)=some (dA o):=bz (by unfold bZ; rw[M5,M5,h]; rfl)
theorem tW (T:Txt K mg a):Rp P w K mg base 4 a.House "set_top" ["self","member","width"] (uK a):=by
 show iR T.jF mC λf c A o s H vs Q E hr h=>?_;obtain⟨h,os,S,m,wd,rfl,hI,hml,hkl,e1,k⟩:=h;have hI0:=hI;obtain⟨dx,p,q0,r,is,kv,rfl,I⟩:=hI;show⟨_,(ae (QJ 3 mC.nd (bq (ky T:) hr.mm (aq bY (QH (bf T.aw.cl (cg T:).x hr.mm aT))))) (ae (aN (aK eR (QI K (bf T.aw.cl (cx T:).x hr.mm aT) eX) bK) (ai (eB T.se rfl (QH bS))) aF) (ae (aI (bq (lU T:) hr.mm (aq dO (QH (mf T.nO))))) (ai (aI (gQ T.aw.cl (jJ T:) hr.mm aT (aq eX (QH dO)))))))),?_⟩;show⟨_,Z,_,Z,h,dx,_,Z,I.ih,QR,h,_,S,Z,hI0,Y,λpm H1 npm s1 hpm=>?_⟩;show⟨m,pm,aD S,Z,hpm,λj hj hjm=>?_,λhm=>e1 H1 s1 hm⟩;obtain⟨o,ho⟩:=Cg hj;obtain⟨k1,k2,k3,k4⟩:=k j o hj hjm ho;show⟨_,Z,h,dx,_,Z,(I.same s1).ih,QR,h,_,S,Z,⟨dx,p,q0,r,is,kv,Z,I.same s1⟩,Y,λpg H2 npg s2 hpg=>?_⟩;have s12:=s1.trans s2;show⟨_,Z,pg,_,_,_,Z,Z,QF.of hpg,zH ho,Z,_,Z,?_⟩;cases o with
 | some c=>exact bu ⟨aS,k1 H2 s12 (by intro z; cases z)⟩
 | none =>
  show aP ⟨_,Z,λa1 h1=>⟨wd,0,99999,a1,Z,h1 _,λhr1=>?_,λhr1=>k2 H2 s12 rfl hr1⟩⟩;exact⟨_,Z,h,dx,_,Z,(I.same s12).ih,QR,_,Z,_,Z,h,dx,p,q0,r,is,kv,S,H,j,some wd,(m,none),Z,I,s12,ho,hml,hkl,λz=>k3 H2 s12 rfl hr1 z,λH' z hN=>k4 H' rfl hr1 z hN⟩
inductive qq(a:Adr)(vs:List V)(H:Hp)(Q:VK)(E:XK):Prop|mk(h:Addr)(os:List Addr)(S:QM)(m:Str)(_:vs=[.ref h,.str m])(_:HI a.House H h os S)(_:S.ms.length<=12)(_:S.ks.length<=150)(_:∀H',ag H H'->m∉aD S->E (.ref a.Unknown) none H')(_:∀(j:Nat) (o:Option Int),(aD S)[j]?=some m->(∀i,i < j->(aD S)[i]?≠some m)->S.ms[j]?=some (m,o)->(∀H',ag H H'->o=none->E (.ref a.Unknown) none H')/\(∀H',ag H H'->o≠none->150<=S.ks.length->E (.ref a.Full) none H')/\(∀H',o≠none->S.ks.length < 150->eV a.House H h os ⟨S.ms.take j++[(m,none)]++S.ms.drop (j+1),S.ds,S.ks++[(S.ms,S.ds)]⟩ H'->Q .non H'))
theorem qw (T:Txt K mg a):Rp P w K mg base 4 a.House "strike_top" ["self","member"] (qq a):=by
 show iR T.gH jH λf c A o s H vs Q E hr h=>?_;obtain⟨h,os,S,m,rfl,hI,hml,hkl,e1,k⟩:=h;have hI0:=hI;obtain⟨dx,p,q0,r,is,kv,rfl,I⟩:=hI;show⟨_,(ae (QJ 2 jH.nd (bq (ky T:) hr.mm (aq bY (QH (bf T.aw.cl (cg T:).x hr.mm aT))))) (ae (aN (aK kW (QI K (bf T.aw.cl (cx T:).x hr.mm aT) dO) bK) (ai (eB T.nM rfl (QH bS))) aF) (ai (aI (gQ T.aw.cl (jJ T:) hr.mm aT (aq dO (QH bK))))))),?_⟩;show⟨_,Z,_,Z,h,dx,_,Z,I.ih,QR,h,_,S,Z,hI0,Y,λpm H1 npm s1 hpm=>?_⟩;show⟨m,pm,aD S,Z,hpm,λj hj hjm=>?_,λhm=>e1 H1 s1 hm⟩;obtain⟨o,ho⟩:=Cg hj;obtain⟨k1,k3,k4⟩:=k j o hj hjm ho;show⟨_,Z,h,dx,_,Z,(I.same s1).ih,QR,h,_,S,Z,⟨dx,p,q0,r,is,kv,Z,I.same s1⟩,Y,λpg H2 npg s2 hpg=>?_⟩;have s12:=s1.trans s2;show⟨_,Z,pg,_,_,_,Z,Z,QF.of hpg,zH ho,Z,_,Z,?_⟩;cases o with
 | none=>exact bu ⟨aS,k1 H2 s12 rfl⟩
 | some c =>
  have nn:(some c:Option Int)≠none:=by intro z; cases z
  exact aP ⟨_,Z,h,dx,_,Z,(I.same s12).ih,QR,_,Z,h,dx,p,q0,r,is,kv,S,H,j,none,(m,some c),Z,I,s12,ho,hml,hkl,λz=>k3 H2 s12 nn z,λH' z hN=>k4 H' nn z hN⟩
variable{H:Hp}{b:Addr}
theorem vL {o o':HO}:upd (upd H b o) b o'=upd H b o':=by
 funext c;by_cases e:c=b;.rw[e,aa,aa]
 .rw[ah e,ah e,ah e]
inductive Ab(a:Adr)(vs:List V)(H:Hp)(Q:VK)(E:XK):Prop|mk(h:Addr)(os:List Addr)(S:QM)(_:vs=[.ref h])(_:HI a.House H h os S)(_:S.ks.length<=150)(_:S.ks=[]->E (.ref a.NothingBack) none H)(_:∀(H':Hp) (ks:List (List Mem×List QQ)) (k:List Mem×List QQ),S.ks=ks++[k]->eV a.House H h os ⟨k.1,k.2,ks⟩ H'->Q .non H')
theorem qR (T:Txt K mg a):Rp P w K mg base 1 a.House "take_back" ["self"] (Ab a):=by
 show iR T.ip lg λf c A o s H vs Q E hr h=>?_;obtain⟨h,os,S,rfl,⟨dx,p,q0,r,is,kv,rfl,I⟩,hkl,e,q⟩:=h;have kl:=I.ks.length;show⟨_,(ae (aN (aK cw (cA K T.bT (cE K aT)) af) (ai (eB T.lM rfl (QH bS))) aF) (ae (QJ 1 lg.nd (show PE _ _ (A5 K _ _ _) from Ce NI OP OQ B0 (cE K aT))) (ae (jy aT (QN K bY af) rfl) (ai (jy aT (QN K bY af) rfl))))),?_⟩;show⟨_,Z,h,a.House,dx,_,.ref r,Z,I.ih,T.aw.cl,T.cy,qK,_,_,rfl,.inl ⟨_,QF.of I.ir,rfl⟩,rfl,_,rfl,?_⟩;rcases PR S.ks with hk | ⟨ks,k,hk⟩
 .rw[hk] at kl;rw[show kv=[] from List.length_eq_zero_iff.mp kl];exact bu ⟨aS,e hk⟩
 .have hk:S.ks=ks++[k]:=by rw[hk,PU]
  obtain⟨kv',t,p',q',ek,ht,tr,th,hN⟩:=I.back hk;have l0:kv.length≠0:=by rw[ek]; simp
  rw[show decide (V.int (kv.length:Nat)=V.int 0)=false from Nz λz=>l0 (by have:=V.int.inj z; lia)];show aP ⟨_,Z,h,a.House,dx,_,.ref r,Z,I.ih,T.aw.cl,T.cy,qK,.inl ⟨rfl,_,QF.of I.ir⟩,r,kv,.ref t,rfl,rfl,I.ir,by rw[ek]; simp,?_⟩;rw[show kv.dropLast=kv' from by rw[ek]; simp];have ht2:(upd H r (.lst kv')) t=some (.tup [.ref p',.ref q']):=(ah tr).trans ht;have hh2:(upd H r (.lst kv')) h=some (.ins a.House dx (nF p q0 r)):=(ah (Nu I.n2)).trans I.ih;ext:5;show⟨_,Z,t,_,_,_,Z,Z,QK.of ht2,Z,_,Z,h,a.House,dx,_,Z,hh2,T.aw.cl,T.aG,(by change 3 < 1000; decide),?_⟩;rw[mv];show⟨_,Z,t,_,_,_,Z,Z,QK.of ((ah th).trans ht2),Z,_,Z,h,a.House,dx,_,Z,aa,T.aw.cl,T.aW,(by change 3 < 1000; decide),?_⟩;rw[ma (by trivial),mv,vL];exact q _ ks k hk hN
theorem pM (T:Txt K mg a):QS P w K mg base 1 "is_link" ["rule"] (BK K):=by
 show cj T.rf Bu λf c A o s H vs Q E hr h=>?_;obtain⟨v,q,rfl,⟨p,rfl,hp⟩,k⟩:=h;show⟨_,(ai (az (iK nK (QN K aT af) (j8 T.kR)))),?_⟩;show⟨_,Z,p,_,_,_,Z,Z,hp,Z,Z,?_⟩;rw[show decide (V.int q.2.1=V.int (-1))=decide (q.2.1= -1) from by simp];exact k
theorem yF (T:Txt K mg a):QS P w K mg base 2 "asked_width" ["rule","widths"] (Et K):=by
 show cj T.lq vF λf c A o s H vs Q E hr h=>?_;obtain⟨v,q,w,ws,rfl,⟨p,rfl,hp⟩,hw,hk,k⟩:=h;show⟨_,(ae (aN (dz K (ay (pM T:) hr.mm (QH aT))) (ai (az (au bE (QI K bY (QN K aT af)) (QN K aT af)))) aF) (ai (az (QN K aT af)))),?_⟩;show⟨_,Z,_,q,Z,⟨p,Z,hp⟩,_,Z,?_⟩;unfold MA.ask at k;ext:2
 .have c: ¬q.2.1= -1:=by simpa using c
  rw[MP c] at k;obtain⟨_,_,h3,h4,_⟩:=hk;exact⟨_,Z,_,Z,p,_,_,_,Z,Z,hp,Z,w,_,_,_,Z,Z,hw,bH Y h4,_,Z,p,_,_,_,Z,Z,hp,Z,_,_,Z,Z,k⟩
 .have c:q.2.1= -1:=by simpa using c
  rw[MU c] at k;exact⟨_,Z,p,_,_,_,Z,Z,hp,Z,k⟩
variable{rs:List MA.ao}{ws:List Int}
theorem Bs {q:MA.ao}(h:rs[i]?=some q):bB (rs.take (i+1)) ws=cz (bB (rs.take i) ws) q:=by
 unfold bB;rw[NF,h,Og];rfl
theorem Bq (T:Txt K mg a):QS P w K mg base 3 "widened" ["rules","widths"] (Bj K):=by
 show cj T.qO pS λf c A o s H vs Q E hr h=>?_;obtain⟨r,rs,w,ws,rfl,⟨xs,hx,hX⟩,hw,hk,k⟩:=h;show⟨_,(ae (QJ 2 pS.nd (kK (show du _ _ (zP K) from wV) (by rfl) T.qH boot_list (QH bY))) (ae (cm (eE K aT) (gn 3 pS.nd) (ai (dY (bP (kQ rfl) (by rfl) T.lW boot_max (aq (QI K dO (QN K eX af)) (QH (ay (yF T:) hr.mm (aq eX (QH dO)))))) (iu dO (QN K eX af) set_list)))) (ai (az dO)))),?_⟩;show⟨_,Z,w,_,Z,.inl hw,λl hl=>?_⟩;show⟨_,Z,r,Z,⟨_,(ag.upd hl).seq hx⟩,?_⟩;show bA (xs:=xs) (λi O' H'=> ∃v,O'=[rW r,rW w,rW l,v]/\ag H H'/\H' l=some (.lst ((bB (rs.take i) ws).map V.int))) ⟨none,Z,ag.upd hl,aa⟩ (λi O' H' _ ⟨_,_,sm,_⟩=>bW (sm.seq hx)) ?_ ?_
 .rintro i x O' H' hi ⟨v,rfl,sm,hl'⟩;obtain⟨q,hq,p,rfl,hp⟩:=hX.get hi;have kq:QO ws.length q:=hk q (MS hq);have hlen:(bB (rs.take i) ws).length=ws.length:=MA.eS _ _;have hp':=sm.gM hp;show⟨_,Z,_,Z,p,_,_,_,Z,Z,hp',Z,l,_,_,_,Z,Z,QF.of hl',bH kq.1 (by rw[hlen]; exact kq.2.1),?_⟩;show⟨_,Z,_,Z,_,q,l,_,Z,⟨p,Z,hp'⟩,QF.of hl',by rw[hlen]; exact kq,?_⟩;show⟨_,_,Z,_,Z,_,Z,p,_,_,_,Z,Z,hp',Z,l,_,_,_,Z,Z,hl',by rw[MO,hlen]; exact iz kq.1 kq.2.1,?_⟩;show⟨some (.ref p),Z,sm.eI hl,?_⟩;rw[aa,Bs hq,<-Ol];rfl
 .rintro O' H' ⟨v,rfl,sm,hl'⟩;rw[hX.length,NC] at hl';exact⟨_,Z,k l H' hl sm hl'⟩
theorem iV (T:Txt K mg a):QS P w K mg base 4 "least_widths" ["count","rules"] (FH K):=by
 show cj T.jV fc λf c A o s H vs Q E hr h=>?_;obtain⟨n,r,rs,rfl,hn,hR,hk,k1,k2⟩:=h;show⟨_,(ae (QJ 2 fc.nd (au oF (ba (QH af)) aT)) (ae (cm (dq T.bh (au bE aT af)) (gn 3 fc.nd) (ae (QJ 4 fc.nd (ay (Bq T:) hr.mm (aq bY (QH dO)))) (ae (aN (aK (show QU _ _ (Jd K) from Jt (dF hr)) gE dO) (ai (az dO)) aF) (ai (QJ 2 fc.nd gE))))) (ai (az bK)))),?_⟩;show⟨aC,λl0 n0=>?_⟩;show⟨_,Z,l0,_,_,Z,Z,aa,Y,Y,by change 1*(n:Int).toNat<=sizeLine; rw[M6,QD]; exact Ng hn aS,λl nl=>?_⟩;show⟨_,Z,_,_,Z,Z,_,Z,Y,Y,?_⟩;have e1:((n:Int)+1).toNat=n+1:=Y;rw[e1];show bA (xs:=bg 0 (n+1)) (λi O' H'=> ∃p ws v3 v4,O'=[some (.int n),rW r,rW p,v3,v4]/\H p=none/\ag H H'/\H' p=some (.lst (ws.map V.int))/\ws.length=n/\aY n rs=loop rs (n+1 - i) ws) ?_ (λi O' H' _ _=>bt) ?_ ?_
 .show⟨l,List.replicate n 0,none,none,Z,(ag.upd n0).free nl,(ag.upd n0).trans (ag.upd nl),?_,by simp,Z⟩;rw[aa,M6];simp
 .rintro i x O' H' hi ⟨p,ws,v3,v4,rfl,np,sm,hp,hl,e⟩;obtain⟨hi,rfl⟩:=bj hi;rw[show n+1 - i=(n - i)+1 by lia] at e;unfold loop at e;show⟨_,Z,_,Z,r,rs,p,ws,Z,hR.same sm,QF.of hp,by rw[hl]; exact hk,λp2 H2 np2 sm2 hp2=>?_⟩;show⟨_,Z,_,Z,p2,p,_,ws,Z,Z,QF.of hp2,QF.of (sm2 _ _ hp),_,Z,?_⟩;ext:2
  .rw[MU (M9 c)] at e;exact⟨_,Z,k2 p ws H2 np (sm.trans sm2) e (sm2 _ _ hp)⟩
  .rw[MP (Nr (Nl _▸c))] at e;show⟨_,Z,p2,bB rs ws,_,_,Z,sm.free np2,sm.trans sm2,hp2,(MA.eS _ _).trans hl,?_⟩;rw[show n+1 - (i+1)=n - i by lia];exact e
 .rintro O' H' ⟨p,ws,v3,v4,rfl,np,sm,hp,hl,e⟩;rw[bI,Nat.sub_self] at e;exact k1 H' sm e
inductive CQ(K:QG)(vs:List V)(H:Hp)(Q:VK)(_E:XK):Prop|mk(x:Int)(n:Nat)(_:vs=[.int x,.int n])(_:n<=1000)(_:∀(p:Addr) (ls:List Int) (H':Hp),H p=none->ag H H'->H' p=some (.lst (ls.map V.int))->ls.length=n->(∀y∈ls,0<=y/\y < 12)->Q (.ref p) H')
theorem CD (T:Txt K mg a):QS P w K mg base 1 "_law_levels" ["_law_word","_law_count"] (CQ K):=by
 show cj T.ni gf λf c A o s H vs Q E hr h=>?_;obtain⟨x,n,rfl,hn,q⟩:=h;show⟨_,(ae (QJ 2 gf.nd (au bF aT af)) (ae (QJ 3 gf.nd (ba cP)) (ae (cm (dq T.bh bY) (gn 4 gf.nd) (ae (aI (ia K eX (au aU dO (QI K (ba (aq af (QH af))) (au aU aT af))))) (ai (QJ 2 gf.nd (au bF dO af))))) (ai (az eX))))),?_⟩;show⟨_,Z,_,_,Z,Z,⟨aS,aS⟩,aS,λl nl=>?_⟩;ext:7;show bA (xs:=bg 0 n) (λi O' H'=> ∃(ls:List Int) (lf:Int) (v4:Option V),O'=[some (.int x),some (.int n),some (.int lf),rW l,v4]/\ag H H'/\H' l=some (.lst (ls.map V.int))/\ls.length=i/\ ∀y∈ls,0<=y/\y < 12) ⟨[],_,none,Z,ag.upd nl,aa,Z,λx hx=>by cases hx⟩ (λi O' H' _ _=>bt) ?_ ?_
 .rintro i y O' H' hi ⟨ls,lf,v4,rfl,sm,hl,hw,h0⟩;obtain⟨hi,rfl⟩:=bj hi;obtain⟨d,hd,hd2⟩:=Sv (k:=x % 2) (x:=12) (y:=3) (mod2 x);show⟨_,Z,.inl ⟨Z,_,QF.of hl⟩,_,Z,aC,λt nt=>?_⟩;have hl':=(ah (o:= .lst [.int 12,.int 3]) (av hl nt)).trans hl;show⟨_,Z,_,_,Z,Z,(by change (0:Int) < 2; decide),t,_,_,_,Z,Z,QF.of aa,hd,_,_,Z,Z,Y,l,_,_,Z,Z,hl',by rw[MO,hw]; exact aB Y,?_⟩;show⟨_,Z,_,_,Z,Z,⟨aS,aS⟩,?_⟩;show⟨ls++[lf % d],_,_,Z,sm.vf nt nl,by rw[aa,Nf]; rfl,by rw[M0,hw]; rfl,λy hy=>?_⟩;rcases M8.mp hy with hy | hy
  .exact h0 y hy
  .rw[MT.mp hy];have:=Oa lf (show d≠0 by lia);have:=N4 lf (show 0 < d by lia);lia
 .rintro O' H' ⟨ls,lf,v4,rfl,sm,hl,hw,h0⟩;rw[bI] at hw;exact⟨_,Z,q l ls H' nl sm hl hw h0⟩
def Calm (n:Nat) (ls:List Int) (q:MA.ao):Prop:=QO n q/\(q.2.1= -1->q.2.2<=99999)/\(q.2.1≠ -1->q.2.2<=99/\(MA.g ls q.2.1 < MA.g ls q.1\/(MA.g ls q.2.1=MA.g ls q.1/\q.2.2=0)))
inductive HJ(K:QG)(vs:List V)(H:Hp)(Q:VK)(_E:XK):Prop|mk(a:Addr)(ws:List Int)(n:Nat)(b:Addr)(ls:List Int)(k:Int)(_:vs=[.ref a,.int n,.ref b,.int k])(_:QF K H a (ws.map V.int))(_:ws.length<=1000)(_:0 < n)(_:QF K H b (ls.map V.int))(_:ls.length=n)(_:k=0\/k=1)(_:∀(r:Addr) (rs:List MA.ao) (H':Hp),H r=none->ag H H'->cJ K H' r rs->rs.length=ws.length->(∀q∈rs,Calm n ls q)->Q (.ref r) H')
theorem Hx (T:Txt K mg a):QS P w K mg base 1 "_law_calm" ["_law_words_here","_law_count","_law_levels_here","_law_small"] (HJ K):=by
 show cj T.pP cO λf c A o s H vs Q E hr h=>?_;obtain⟨a,ws,n,b,ls,k,rfl,ha,hwl,hn,hb,hlen,hk,q⟩:=h;show⟨_,(ae (QJ 4 cO.nd (ba cP)) (ae (cm (eE K aT) (gn 5 cO.nd) (ae (QJ 6 cO.nd (au aU (au aU (au bF gT af) af) bY)) (ae (QJ 7 cO.nd (au aU (au aU (au bF gT af) af) bY)) (ae (QJ 8 cO.nd (au bF gT af)) (eh (aN (aK pU (QI K dO iN) (QI K dO iF)) (ai (JR (i:=6) (j:=7) rfl cO.nd rfl rfl aS rfl rfl (aq iN (QH iF)) (by with_unfolding_all rfl))) aF) (ae (QJ 9 cO.nd (QI K (ba (aq (au aU iS af) (QH (au aU iS af)))) eX)) (eh (aN (aK cw (QI K dO iN) (QI K dO iF)) (ai (QJ 9 cO.nd af)) aF) (eh (aN (aK cw (au aU gT af) af) (ae (QJ 7 cO.nd (kH iA af)) (ai (QJ 9 cO.nd (QI K (ba (aq (au aU iS af) (QH (au aU iS af)))) eX)))) aF) (ai (aI (ia K gE (bR (aq iF (aq iN (QH lE))))))))))))))) (ai (az gE)))),?_⟩;show⟨aS,λl nl=>?_⟩;show⟨_,Z,a,Z,⟨_,(ag.upd nl).seq ha⟩,?_⟩;show bA (xs:=ws.map V.int) (λi O' H'=> ∃(rs:List MA.ao) (v5 v6 v7 v8 v9:Option V),O'=[rW a,some (.int n),rW b,some (.int k),rW l,v5,v6,v7,v8,v9]/\ag H H'/\cJ K H' l rs/\rs.length=i/\ ∀q∈rs,Calm n ls q) ⟨[],none,none,none,none,none,Z,ag.upd nl,⟨[],aa,.nil⟩,Z,λq hq=>by cases hq⟩ (λi O' H' _ ⟨_,_,_,_,_,_,_,sm,_⟩=>bW (sm.seq ha)) ?_ ?_
 .rintro i y O' H' hi ⟨rs,v5,v6,v7,v8,v9,rfl,sm,hl,hw,h0⟩;rw[M5] at hi;cases hc:ws[i]? with
  | none=>rw[hc] at hi; cases hi
  | some wd =>
  rw[hc] at hi;cases hi;have hil:i < ws.length:=(MW.mp hc).1;have hb':=sm.seq hb;have hn':(0:Int) < n:=Y;show⟨_,Z,_,_,Z,Z,⟨aS,aS⟩,_,_,Z,Z,(by change (0:Int) < 12; decide),_,Z,_,_,Z,Z,hn',?_⟩;show⟨_,Z,_,_,Z,Z,⟨aS,aS⟩,_,_,Z,Z,(by change (0:Int) < 12; decide),_,Z,_,_,Z,Z,hn',?_⟩;show⟨_,Z,_,_,Z,Z,⟨aS,aS⟩,?_⟩;have o1:=Oa (wd / 4 % 12) (show (n:Int)≠0 by lia);have o2:=N4 (wd / 4 % 12) hn';have b1:=Oa (wd / 48 % 12) (show (n:Int)≠0 by lia);have b2:=N4 (wd / 48 % 12) hn';ext:4;generalize wd / 4 % 12 % (n:Int)=on0 at o1 o2;generalize wd / 48 % 12 % (n:Int)=base0 at b1 b2;generalize wd / 576=size;show⟨λO2 H2=> ∃on bs:Int,0<=on/\on < n/\0<=bs/\bs < n/\MA.g ls bs<=MA.g ls on/\O2=[rW a,some (.int n),rW b,some (.int k),rW l,some (.int wd),some (.int on),some (.int bs),some (.int size),v9]/\H2=H',?_,?_⟩
  .show⟨_,Z,_,Z,b,_,_,_,Z,Z,hb',bH b1 Y,_,Z,_,Z,b,_,_,_,Z,Z,hb',bH o1 Y,_,_,Z,Z,_,Z,?_⟩;ext:2
   .have c:=M9 c;exact⟨_,Z,_,Z,_,_,Z,base0,on0,b1,b2,o1,o2,Int.le_of_lt c,Z,Z⟩
   .have c:=Nr (Nl _▸c);exact⟨on0,base0,o1,o2,b1,b2,Y,Z,Z⟩
  clear o1 o2 b1 b2 on0 base0;rintro O2 H2 ⟨on,bs,o1,o2,b1,b2,hle,rfl,rfl⟩;obtain⟨d,hd,hd2⟩:=Sv (k:=k) (x:=size % 100) (y:=size % 3) hk;show⟨_,Z,_,_,Z,Z,(by change (0:Int) < 100; decide),_,Z,_,_,Z,Z,(by change (0:Int) < 3; decide),aC,λt nt=>⟨_,Z,t,_,_,_,Z,Z,QF.of aa,hd,?_⟩⟩;have sm3:=sm.trans (ag.upd (o:= .lst [.int (size % 100),.int (size % 3)]) nt);have hl3:cJ K (upd H2 t (.lst [.int (size % 100),.int (size % 3)])) l rs:=hl.same (ag.upd nt);have hd3:0<=d/\d<=99:=Y;clear hd hd2 hl sm hb';generalize upd H2 t (.lst [.int (size % 100),.int (size % 3)])=H3 at sm3 hl3;have hb':=sm3.seq hb;show⟨λO2 H2=> ∃mr:Int,0<=mr/\mr<=99/\(MA.g ls bs < MA.g ls on\/(MA.g ls bs=MA.g ls on/\mr=0))/\O2=[rW a,some (.int n),rW b,some (.int k),rW l,some (.int wd),some (.int on),some (.int bs),some (.int size),some (.int mr)]/\H2=H3,?_,?_⟩
  .show⟨_,Z,_,Z,b,_,_,_,Z,Z,hb',bH b1 Y,_,Z,_,Z,b,_,_,_,Z,Z,hb',bH o1 Y,Z,_,Z,?_⟩;ext:2
   .have c:MA.g ls bs=MA.g ls on:=by simpa using c
    exact⟨0,Y,Y,.inr ⟨c,Z⟩,Z,Z⟩
   .have c: ¬MA.g ls bs=MA.g ls on:=by simpa using c
    exact⟨d,hd3.1,hd3.2,.inl Y,Z,Z⟩
  clear hd3 nt t;rintro O2 H4 ⟨mr,m1,m2,m3,rfl,rfl⟩;show⟨λO2 H2=> ∃bs mr:Int,Calm n ls (on,bs,mr)/\O2=[rW a,some (.int n),rW b,some (.int k),rW l,some (.int wd),some (.int on),some (.int bs),some (.int size),some (.int mr)]/\ag H H2/\cJ K H2 l rs,?_,?_⟩
  .show⟨_,Z,_,_,Z,Z,(by change (0:Int) < 4; decide),Z,_,Z,?_⟩;ext:2
   .obtain⟨d,hd,hd2⟩:=Sv (k:=k) (x:=size % 100000) (y:=size % 4) hk;show⟨_,Z,_,Z,_,_,Z,Z,(by change (0:Int) < 100000; decide),_,Z,_,_,Z,Z,(by change (0:Int) < 4; decide),aC,λt nt=>⟨_,Z,t,_,_,_,Z,Z,QF.of aa,hd,?_⟩⟩;exact⟨-1,d,⟨⟨o1,o2,(by change (-1:Int)<= -1; lia),(by change (-1:Int) < n; lia),by change 0<=d; lia⟩,λ_=>by change d<=99999; lia,λz=>absurd rfl z⟩,Z,sm3.trans (ag.upd nt),hl3.same (ag.upd nt)⟩
   .exact⟨bs,mr,⟨⟨o1,o2,by change -1<=bs; lia,b2,m1⟩,λz=>by have:bs= -1:=z; lia,λ_=>⟨m2,m3⟩⟩,Z,sm3,hl3⟩
  clear sm3 hl3 m3 m1 m2 hb' hle b1 b2 bs mr;rintro O2 H5 ⟨bs,mr,hC,rfl,sm5,hl5⟩;obtain⟨xs,hx,hX⟩:=id hl5;show⟨_,Z,.inl ⟨Z,_,QF.of hx⟩,_,Z,_,Z,_,Z,aC,λt nt=>?_⟩;have hx':=(ah (o:= .tup [.int on,.int bs,.int mr]) (av hx nt)).trans hx;show⟨l,_,_,Z,Z,hx',by rw[hX.length,hw]; exact aB Y,?_⟩;show⟨rs++[(on,bs,mr)],_,_,_,_,_,Z,sm5.vf nt nl,cJ.push (q:=(on,bs,mr)) hl5 nt hx,by rw[M0,hw]; rfl,λq hq=>?_⟩;rcases M8.mp hq with hq | hq
  .exact h0 q hq
  .rw[MT.mp hq];exact hC
 .rintro O' H' ⟨rs,v5,v6,v7,v8,v9,rfl,sm,hl,hw,h0⟩;rw[MO] at hw;exact⟨_,Z,q l rs H' nl sm hl hw h0⟩
theorem tT (T:Txt K mg a):QS P w K mg base 1 "_law_whole" ["_law_found"] (Fl K):=by
 show cj T.ot xw λf c A o s H vs Q E hr h=>?_;obtain⟨v,rfl,⟨b1,b2,h1,h2,e⟩,q⟩:=h;show⟨_,(ai (az (iw (kZ (bP j6 (by rfl) T.dI boot_isinstance (aq aT (QH (mh (v:= .ty "int") rfl T.xp boot_int rfl)))) (lh (Ir (bP j6 (by rfl) T.dI boot_isinstance (aq aT (QH (mh (v:= .ty "bool") rfl T.xV boot_bool rfl)))))))))),?_⟩;show⟨λv' H'=>v'= .bl (isInt v)/\H'=H,?_,λv' H' z=>by rw[z.1,z.2]; exact q⟩;show⟨_,Z,_,"int",b1,Z,h1,_,Z,?_⟩;rw[<-e];ext:2
 .subst c;exact⟨_,Z,_,"bool",b2,Z,h2,_,Z,Z,Z⟩
 .rw[Nl] at c;subst c;exact⟨Z,Z⟩
open MA (Up)
variable{xs:List V}
theorem Ht(h:bQ K H xs rs){k:Int}(h0:0<=k) (h1:k < xs.length): ∃a q,QV xs k=some (.ref a)/\q∈rs/\QK K H a [.int q.1,.int q.2.1,.int q.2.2]:=by
 have hn:k.toNat < xs.length:=Y;obtain⟨q,hq,a,e,ha⟩:=h.get (MQ hn);show⟨a,q,?_,MS hq,ha⟩;have ek:k=((k.toNat:Nat):Int):=Y;have z:=bz (xs:=xs) (j:=k.toNat) (v:= .ref a) (by rw[MQ hn,e])
 rwa [<-ek] at z
inductive Cd(K:QG)(vs:List V)(H:Hp)(Q:VK)(_E:XK):Prop|mk(r:Addr)(rs:List MA.ao)(o:Addr)(is:List Nat)(t:Int)(lev:Int->Int)(_:vs=[.ref r,.ref o,.int t])(_:cJ K H r rs)(_:rs.length<=100)(_:H o=some (.lst (aH is)))(_:0 < is.length)(_:is.length<=100)(_:∀i∈is,i < is.length)(_:∀k:Nat,k < is.length->lev (is.getD k 0:Nat)=(k:Nat))(_:t=0\/t=1)(_:∀q∈rs,Up is.length lev q)(_:∀(r':Addr) (rs':List MA.ao) (H':Hp),ag H H'->cJ K H' r' rs'->rs'.length<=24->(∀q∈rs',Up is.length lev q)->Q (.ref r') H')
theorem DW (T:Txt K mg a):QS P w K mg base 1 "_law_ladder" ["_law_rules_here","_law_order","_law_turned"] (Cd K):=by
 show cj T.mV iJ λf c A o s H vs Q E hr h=>?_;obtain⟨r,rs,o,is,t,lev,rfl,hR,hrl,ho,i0,i1,hlt,hlev,ht,hup,q⟩:=h;obtain⟨xs,hx,hX⟩:=id hR;show⟨_,(ae (QJ 3 iJ.nd (ba (QH (bR (aq (QI K bY af) (aq (kH iA af) (QH (QI K (ba (aq af (QH af))) (au aU (cA K T.bT aT) af))))))))) (ae (cm (dq T.bh (au jD (cA K T.bT bY) af)) (gn 4 iJ.nd) (ai (aI (ia K eX (bR (aq (QI K bY (au bE gE af)) (aq (QI K bY gE) (QH (au aU (nN JH (QI K (au fE aT (ba (QH (bR (aq af (aq af (QH af))))))) (au aU gE (au bE (cA K T.bT aT) af))) af (λ_ _=>rfl)) af))))))))) (ae (QJ 3 iJ.nd (cK (RA K) (au fE eX aT) dS (cM af))) (ai (az (QI K (ba (aq eX (QH (Io eX (kH iA af))))) dO)))))),?_⟩;have pick: ∀ {H':Hp} (k:Int),ag H H'->0<=k->k < is.length->QF K H' o (aH is)/\QV (aH is) k=some (.int (is.getD k.toNat 0:Nat)):=λk s' a b=>⟨QF.of (s' _ _ ho),oV a b⟩
 have memO: ∀k:Int,0<=k->k < is.length->(0:Int)<=(is.getD k.toNat 0:Nat)/\((is.getD k.toNat 0:Nat):Int) < is.length:=λk a b=>by
  have:=hlt _ (getD_mem (is:=is) (k:=k.toNat) Y);lia
 obtain⟨d,hd,hd2⟩:=Sv (k:=((xs.length:Nat):Int) % 2) (x:=9900) (y:=99900) (mod2 _);show⟨_,Z,o,_,_,_,Z,Z,(pick 0 (ag.refl H) Y Y).1,(pick 0 (ag.refl H) Y Y).2,_,Z,aC,λu nu=>?_⟩;show⟨_,Z,_,_,Z,.inl ⟨_,(ag.upd nu).seq (QF.of hx),Z⟩,_,_,Z,Z,(by change (0:Int) < 2; decide),u,_,_,_,Z,Z,QF.of aa,hd,aC,λt0 nt0=>⟨aC,λl nl=>?_⟩⟩;have s1:ag H _:=(ag.upd (o:= .lst [.int 9900,.int 99900]) nu).trans (ag.upd (o:= .tup [.int (is.getD (0:Int).toNat 0:Nat),.int (-1),.int d]) nt0);have nl0:H l=none:=s1.free nl;have hm0:cJ K (upd (upd (upd H u (.lst [.int 9900,.int 99900])) t0 (.tup [.int (is.getD (0:Int).toNat 0:Nat),.int (-1),.int d])) l (.lst [.ref t0])) l [((is.getD (0:Int).toNat 0:Nat),-1,d)]:=⟨_,aa,.one ⟨t0,Z,vK (.free nl) (QK.of aa)⟩⟩
 have s2:=s1.trans (ag.upd (o:= .lst [.ref t0]) nl);have u0: ∀q∈[(((is.getD (0:Int).toNat 0:Nat):Int),(-1:Int),d)],Up is.length lev q:=λq hq=>by
  rw[MT.mp hq];have:=memO 0 Y Y;exact⟨⟨this.1,this.2,(by change (-1:Int)<= -1; lia),(by change (-1:Int) < is.length; lia),by change 0<=d; lia⟩,λ_=>by change d<=99999; lia,λz=>absurd rfl z⟩
 ext:5;generalize upd (upd (upd H u (.lst [.int 9900,.int 99900])) t0 (.tup [.int (is.getD (0:Int).toNat 0:Nat),.int (-1),.int d])) l (.lst [.ref t0])=H1 at hm0 s2;show⟨_,Z,_,_,Z,.inl ⟨_,QF.of (s2 _ _ ho),Z⟩,_,_,Z,Z,_,Z,Y,?_,?_⟩
 .rw[show (aH is).length=is.length from MO ..];lia
 have er:(((aH is).length:Nat) - 1:Int).toNat=is.length - 1:=by rw[show (aH is).length=is.length from MO ..]; lia
 rw[er];show bA (xs:=bg 0 (is.length - 1)) (λi O' H'=> ∃(ms:List MA.ao) (v4:Option V),O'=[rW r,rW o,some (.int t),rW l,v4]/\ag H H'/\cJ K H' l ms/\ms.length=i+1/\ ∀q∈ms,Up is.length lev q) ⟨_,none,Z,s2,hm0,Z,u0⟩ (λi O' H' _ _=>bt) ?_ ?_
 .clear hm0 u0 s2 hd hd2;rintro i x O' H' hi ⟨ms,v4,rfl,sm,hm,hml,hmu⟩;obtain⟨hi,rfl⟩:=bj hi;obtain⟨ys,hy,hY⟩:=id hm;obtain⟨e1,e2⟩:=memO (0+(i:Nat)+1) Y Y;obtain⟨e3,e4⟩:=memO (0+(i:Nat)) Y Y;have p1:=pick (0+(i:Nat)+1) sm Y Y;have p2:=pick (0+(i:Nat)) sm Y Y;show⟨_,Z,.inl ⟨Z,_,QF.of hy⟩,_,Z,_,Z,_,_,Z,Z,o,_,_,_,Z,Z,p1.1,p1.2,_,Z,_,Z,o,_,_,_,Z,Z,p2.1,p2.2,?_⟩;show⟨_,Z,aC,λt1 nt1=>⟨aC,λl1 nl1=>?_⟩⟩;have s3:ag H' _:=(ag.upd (o:= .tup [.int 0,.int 0,.int 1]) nt1).trans (ag.upd (o:= .lst [.ref t1]) nl1);have hX3:bQ K (upd (upd H' t1 (.tup [.int 0,.int 0,.int 1])) l1 (.lst [.ref t1])) (xs++[.ref t1]) (rs++[(0,0,1)]):=(hX.same (sm.trans s3)).append (.one ⟨t1,Z,vK (.free nl1) (QK.of aa)⟩);show⟨r,l1,xs,[.ref t1],Z,Z,s3 _ _ (sm _ _ hx),aa,by rw[hX.length]; change rs.length+1<=_; exact Nw (aB Y),λp3 np3=>?_⟩;have s4:=s3.trans (ag.upd (o:= .lst (xs++[.ref t1])) np3);have hxl:xs.length=rs.length:=hX.length;have j1:=Oa (0+(i:Nat):Int) (show (((xs.length:Nat):Int)+1)≠0 by lia);have j2:=N4 (0+(i:Nat):Int) (show (0:Int) < (((xs.length:Nat):Int)+1) by lia);obtain⟨ta,tq,hat,hmem,hta⟩:=Ht hX3 (k:=(0+(i:Nat)) % (((xs.length:Nat):Int)+1)) j1 (by rw[M0]; change _ < ((xs.length+1:Nat):Int); lia);show⟨_,Z,_,Z,_,_,Z,.inl ⟨_,QF.of (s4 _ _ (sm _ _ hx)),Z⟩,_,_,Z,Z,_,_,Z,Z,Y,p3,_,_,_,Z,Z,QF.of aa,hat,.inr (.inl ⟨ta,_,_,_,Z,Z,(ag.upd np3).gM hta,Z,?_⟩)⟩;show⟨_,_,Z,Z,(by change (0:Int) < 100; decide),aC,λt2 nt2=>?_⟩;have hy4:=s4 _ _ hy;show⟨l,_,_,Z,Z,(ah (av hy4 nt2)).trans hy4,by rw[hY.length,hml]; exact aB Y,?_⟩;show⟨ms++[(((is.getD (0+(i:Nat)+1:Int).toNat 0:Nat):Int),((is.getD (0+(i:Nat):Int).toNat 0:Nat):Int),tq.2.2 % 100)],_,Z,(sm.trans s4).vf nt2 nl0,cJ.push (q:=(((is.getD (0+(i:Nat)+1:Int).toNat 0:Nat):Int),((is.getD (0+(i:Nat):Int).toNat 0:Nat):Int),tq.2.2 % 100)) (hm.same s4) nt2 hy4,by rw[M0,hml]; rfl,λq' hq=>?_⟩;rcases M8.mp hq with hq | hq
  .exact hmu q' hq
  .rw[MT.mp hq];show⟨⟨e1,e2,NA aS e3,e4,by change 0<=tq.2.2 % 100; lia⟩,λz=>?_,λ_=>⟨by change tq.2.2 % 100<=99; lia,.inl ?_⟩⟩
   .have z:((is.getD (0+(i:Nat):Int).toNat 0:Nat):Int)= -1:=z;lia
   .change lev (is.getD (0+(i:Nat):Int).toNat 0:Nat) < lev (is.getD (0+(i:Nat)+1:Int).toNat 0:Nat);rw[hlev _ Y,hlev _ Y];lia
 .rintro O' H' ⟨ms,v4,rfl,sm,hm,hml,hmu⟩;rw[bI] at hml;obtain⟨ys,hy,hY⟩:=id hm;show⟨_,Z,_,Z,l,r,ys,xs,Z,Z,hy,sm _ _ hx,by rw[hX.length,hY.length]; exact Nw (aB Y),λp np=>?_⟩;obtain⟨qs,hq,hql,hqm⟩: ∃qs:List MA.ao,bQ K H' (dX (ys++xs) none (some 24)) qs/\qs.length<=24/\ ∀q∈qs,q∈ms++rs:=by
   show⟨((ms++rs).drop (HT.QT (ys++xs).length 0 none)).take (HT.QT (ys++xs).length (ys++xs).length (some 24) - HT.QT (ys++xs).length 0 none),((hY.append (hX.same sm)).drop _).take _,?_,λq hq=>OA (Of hq)⟩;rw[Ni];simp only[HT.QT];rw[MP aS];lia
  have hqu: ∀q∈qs,Up is.length lev q:=λq' hq'=>by
   rcases M8.mp (hqm q' hq') with z | z
   .exact hmu q' z
   .exact hup q' z
  show⟨_,Z,p,_,Z,QF.of aa,λp2 np2=>?_⟩;have s5:=(ag.upd (o:= .lst (ys++xs)) np).trans (ag.upd (o:= .lst (dX (ys++xs) none (some 24))) np2);show⟨_,Z,_,Z,_,Z,Z,p2,_,Z,QF.of aa,λp3 np3=>⟨aC,λu nu=>?_⟩⟩;have s6:=(s5.trans (ag.upd (o:= .lst (dX (ys++xs) none (some 24)).reverse) np3)).trans (ag.upd (o:= .lst [.ref p2,.ref p3]) nu);have s7:=sm.trans s6;rcases ht with rfl | rfl
  .show⟨_,Z,u,_,_,_,Z,Z,QF.of aa,Z,?_⟩;exact q p2 qs _ s7 ⟨_,((ag.upd np3).trans (ag.upd nu)) _ _ aa,hq.same s6⟩ hql hqu
  .show⟨_,Z,u,_,_,_,Z,Z,QF.of aa,Z,?_⟩;exact q p3 qs.reverse _ s7 ⟨_,(ag.upd nu) _ _ aa,(hq.same s6).reverse⟩ (by rw[List.length_reverse]; exact hql) λq' hq'=>hqu q' (List.mem_reverse.mp hq')
def rR (n:Nat) (rs:List MA.ao):Prop:= ∃lev:Int->Int,(∀i:Int,0<=i->i < n->0<=lev i)/\ ∀q∈rs,Up n lev q
inductive Ft(K:QG)(PT:Addr)(vs:List V)(H:Hp)(Q:VK)(_E:XK):Prop|mk(b:Addr)(ws:List Int)(n:Nat)(wd mr:Int)(_:vs=[.ref b,.int n,.int wd,.int mr])(_:QF K H b (ws.map V.int))(_:24<=ws.length)(_:n<=12)(_:wd=2\/wd=3)(_:0<=mr)(_:mr<=99)(_:H PT=some (.tbl #[]))(_:∀(r:Addr) (rs:List MA.ao) (H':Hp),d6 H H'->cJ K H' r rs->rs.length<=24->rR n rs->Q (.ref r) H')
variable{is:List Nat}
theorem CC(nd:is.Nodup){k:Nat}(h:k < is.length):is.idxOf (is.getD k 0)=k:=by
 rw[MX,MQ h];exact nd.idxOf_getElem k h
theorem yC(h:bQ K H xs rs): ∀(is:List Nat),(∀k∈is,k < xs.length)->bQ K H (is.map λk=>xs.getD k .non) (is.map λk=>rs.getD k (0,0,0))
 | [],_=> .nil
 | k::is,hk=>by
  have h1:=hk k (M7);obtain⟨q,hq,t⟩:=h.get (MQ h1);show .cons ?_ (yC h is λj hj=>hk j (M4 _ hj));change gz K H (xs.getD k .non) (rs.getD k (0,0,0));rw[MX,MX,MQ h1,hq];exact t
theorem FX (T:Txt K mg a) (B:BM mg base):QS P w K mg base 3 "_law_woven" ["_law_words_here","_law_count","_law_wide","_law_more"] (Ft K a.P_law_woven):=by
 show Ad T.kF fF (λ_ _ _ _ _ _=>Sl λ_ _ _ _=>rfl) (λvs H Q E h=>?_) λf A outer s H vs Q E hC hr h=>?_
 .obtain⟨b,ws,n,wd,mr,rfl,_⟩:=h;rfl
 .obtain⟨b,ws,n,wd,mr,rfl,hb,hwl,hn,hwd,hm0,hm1,hT,q⟩:=h;show⟨_,(eh (QJ 4 fF.nd (pj (psc:=aj eg) (p:= "_law_k") (frn:=["_law_words_here"]) (fr:=[0]) (by exact⟨Z,Z,Z,by trivial,Z,by trivial,by trivial,by trivial⟩) rfl rfl hr.lam rfl (λ_ _ _ _ _ _=>rfl) rfl T.mO (kK nY (by rfl) T.bh Py (QH bY)) (xU (psc:=aj eg) (p:= "_law_k") (frn:=["_law_words_here"]) B (by exact⟨Z,Z,Z,by trivial,Z,by trivial,by trivial,by trivial⟩) rfl rfl hC) (λf c A s' H'=>(au aU (au bF (QI K bY aT) af) af)))) (ae (QJ 5 fF.nd (ba cP)) (ae (cm (dq T.bh bY) (gn 6 fF.nd) (ai (cm (dq T.bh bY) (gn 7 fF.nd) (ai (aN (PW.pt (dy (aK cw (au bF iN dO) (au bE (au bF iF dO) af)) (dj (aK kG (cA K T.bT gT) af)))) (ai (aI (ia K gT (bR (aq (QI K gE iN) (aq (QI K gE iF) (QH eX))))))) aF))))) (eh (QJ 8 fF.nd (pj (psc:=aj eg) (p:= "_law_k") (frn:=["_law_words_here"]) (fr:=[0]) (by exact⟨Z,Z,Z,by trivial,Z,by trivial,by trivial,by trivial⟩) rfl rfl hr.lam rfl (λ_ _ _ _ _ _=>rfl) rfl T.mO (kK nY (by rfl) T.bh Py (QH (cA K T.bT gT))) (xU (psc:=aj eg) (p:= "_law_k") (frn:=["_law_words_here"]) B (by exact⟨Z,Z,Z,by trivial,Z,by trivial,by trivial,by trivial⟩) rfl rfl hC) (λf c A s' H'=>(au aU (au bF (QI K bY aT) af) af)))) (ai (az (iZ eg ["_law_k"] ["_law_links"] [5] Rr (eE K iS) (λC s2 H2 fp=>⟨(gn 0 (Q6 ["_law_k","_law_links"])),dR,(QI K bY aT)⟩)))))))),?_⟩;show⟨λO' H'=> ∃(D:Addr) (is:List Nat) (c:Addr),O'=[rW b,some (.int n),some (.int wd),some (.int mr),rW D,none,none,none,none]/\d6 H H'/\H' D=some (.lst (aH is))/\is.length=n/\(∀i∈is,i < n)/\is.Nodup/\H' a.P_law_woven=some (.tbl #[rawInt 348,rawInt 47,.ref c]),?_,?_⟩
  .show⟨_,Z,_,Z,λp np=>⟨p,n,Z,aa,Y,#[],(ah (av hT np)).trans hT,trivial,Z,λc fl nc nf hcf hcP hfP=>?_⟩⟩;have hT1:(upd H p (.Q1 0 (n:Nat))) a.P_law_woven=some (.tbl #[]):=(ah (av hT np)).trans hT;have L1:=λpos qual params body scope clos=>xD (pos:=pos) (qual:=qual) (params:=params) (body:=body) (scope:=scope) (clos:=clos) hT1 nc nf hcP hfP hcf;show⟨(L1 _ _ _ _ _ _).1.nt _ _ aa xM,fl,c,λi=>MA.g ws (i:Nat) / 7 % 1000,Z,aa,(ah hcf).trans aa,λi hi A s'=>?_,λD is nD hs=>?_⟩;.exact⟨_,Z,_,Z,b,_,_,_,Z,Z,((ag.upd np).n.trans (L1 _ _ _ _ _ _).1).seq hb,bH Y Y,_,_,Z,Z,⟨aS,aS⟩,_,_,Z,Z,(by change (0:Int) < 1000; decide),Z,Z⟩
   exact⟨D,is,c,Z,((ag.upd np).n.trans (L1 _ _ _ _ _ _).1).trans (ag.upd nD).n,aa,hs.len,hs.lt,hs.nodup,(ag.upd nD) _ _ (L1 _ _ _ _ _ _).2⟩
  rintro O1 H1 ⟨D,is,cc,rfl,s1,hD,il,ilt,ind,hT1⟩;show⟨aS,λl nl=>?_⟩;ext:7;have wd0:EZ 0 wd:=by constructor <;> lia
  have wdC: ∀x,EZ x wd:=λx=>wd0
  let lev:Int->Int:=λm=>(is.idxOf m.toNat:Nat) / wd
  have lev_at: ∀k:Nat,k < n->lev (is.getD k 0:Nat)=(k:Nat) / wd:=λk hk=>by
   change ((is.idxOf ((is.getD k 0:Nat):Int).toNat:Nat):Int) / wd=_;rw[M6,CC ind Y]
  show bA (xs:=bg 0 n) (λi O' H'=> ∃(rs:List MA.ao) (v6 v7:Option V),O'=[rW b,some (.int n),some (.int wd),some (.int mr),rW D,rW l,v6,v7,none]/\ag H1 H'/\cJ K H' l rs/\rs.length<=24/\ ∀q∈rs,Up n lev q) ⟨[],none,none,Z,ag.upd nl,⟨[],aa,.nil⟩,aS,λq hq=>by cases hq⟩ (λi O' H' _ _=>bt) ?_ ?_
  .rintro i x O' H' hi ⟨rs,v6,v7,rfl,sm,hR,hrl,hu⟩;obtain⟨hin,rfl⟩:=bj hi;ext:7;show bA (xs:=bg 0 n) (λj O' H'=> ∃(rs:List MA.ao) (v7:Option V),O'=[rW b,some (.int n),some (.int wd),some (.int mr),rW D,rW l,some (.int (0+(i:Nat))),v7,none]/\ag H1 H'/\cJ K H' l rs/\rs.length<=24/\ ∀q∈rs,Up n lev q) ⟨rs,v7,Z,sm,hR,hrl,hu⟩ (λi O' H' _ _=>bt) ?_ ?_
   .clear sm hR hrl hu rs;rintro j x O' H' hi ⟨rs,v7,rfl,sm,hR,hrl,hu⟩;obtain⟨hjn,rfl⟩:=bj hi;obtain⟨xs,hx,hX⟩:=id hR;show⟨_,Z,_,Z,_,_,Z,Z,wdC _,_,Z,_,Z,_,_,Z,Z,wdC _,_,_,Z,Z,Z,_,Z,?_⟩;show bo (λc1=>?_) (λc1=>?_);rotate_left;.exact aP ⟨rs,_,Z,sm,hR,hrl,hu⟩
    have c1:(0+(j:Nat):Int) / wd=(0+(i:Nat):Int) / wd+1:=(by simpa using c1);show⟨_,Z,_,_,Z,.inl ⟨_,QF.of hx,Z⟩,_,_,Z,Z,_,Z,?_⟩;show bo (λc2=>?_) (λc2=>⟨rs,_,Z,sm,hR,hrl,hu⟩);have c2:=M9 c2;rw[hX.length] at c2;have a1:=ilt _ (getD_mem (is:=is) (k:=j) Y);have a2:=ilt _ (getD_mem (is:=is) (k:=i) Y);have ej:(0+(j:Nat):Int).toNat=j:=Y;have ei:(0+(i:Nat):Int).toNat=i:=Y;have p1:=oV (is:=is) (k:=0+(j:Nat)) Y Y;have p2:=oV (is:=is) (k:=0+(i:Nat)) Y Y;rw[ej] at p1;rw[ei] at p2;show⟨_,Z,.inl ⟨Z,_,QF.of hx⟩,_,Z,_,Z,D,_,_,_,Z,Z,QF.of (sm _ _ hD),p1,_,Z,_,Z,D,_,_,_,Z,Z,QF.of (sm _ _ hD),p2,_,Z,aC,λt nt=>?_⟩;show⟨l,_,_,Z,Z,(ah (av hx nt)).trans hx,by rw[hX.length]; exact aB Y,?_⟩;show⟨rs++[(((is.getD j 0:Nat):Int),((is.getD i 0:Nat):Int),mr)],_,Z,sm.vf nt nl,cJ.push (q:=(((is.getD j 0:Nat):Int),((is.getD i 0:Nat):Int),mr)) hR nt hx,by rw[M0]; change _+1<=24; lia,λq' hq=>?_⟩;rcases M8.mp hq with hq | hq
    .exact hu q' hq
    .rw[MT.mp hq];show⟨⟨by change (0:Int)<=(is.getD j 0:Nat); lia,by change ((is.getD j 0:Nat):Int) < n; lia,by change (-1:Int)<=(is.getD i 0:Nat); lia,by change ((is.getD i 0:Nat):Int) < n; lia,hm0⟩,λz=>?_,λ_=>⟨hm1,.inl ?_⟩⟩
     .have z:((is.getD i 0:Nat):Int)= -1:=z;lia
     .change lev (is.getD i 0:Nat) < lev (is.getD j 0:Nat);rw[lev_at i hin,lev_at j hjn];rw[Pe,Pe] at c1;lia
   .rintro O' H' ⟨rs,v7,rfl,sm,hR,hrl,hu⟩;exact⟨rs,_,_,Z,sm,hR,hrl,hu⟩
  rintro O2 H2 ⟨rs,v6,v7,rfl,s2,hR,hrl,hu⟩;obtain⟨xs,hx,hX⟩:=id hR;have hxl:=hX.length;have hT2:=s2 _ _ hT1;have hb2:=(s1.trans s2.n).seq hb;have s12:=s1.trans s2.n;show⟨λO' H'=> ∃(D2:Addr) (is2:List Nat),O'=[rW b,some (.int n),some (.int wd),some (.int mr),rW D,rW l,v6,v7,rW D2]/\d6 H2 H'/\H' D2=some (.lst (aH is2))/\is2.length=rs.length/\(∀i∈is2,i < rs.length),?_,?_⟩
  .show⟨_,Z,_,_,Z,.inl ⟨_,QF.of hx,Z⟩,_,Z,λp np=>?_⟩;have hT3:(upd H2 p (.Q1 0 ((xs.length:Nat):Int))) a.P_law_woven=some (.tbl #[rawInt 348,rawInt 47,.ref cc]):=(ah (av hT2 np)).trans hT2;show⟨p,xs.length,Z,aa,Y,_,hT3,trivial,Z,λc fl nc nf hcf hcP hfP=>?_⟩;have L1:=λpos qual params body scope clos=>xD (pos:=pos) (qual:=qual) (params:=params) (body:=body) (scope:=scope) (clos:=clos) hT3 nc nf hcP hfP hcf;show⟨(L1 _ _ _ _ _ _).1.nt _ _ aa xM,fl,c,λi=>MA.g ws (i:Nat) / 7000 % 100000,Z,aa,(ah hcf).trans aa,λi hi A s'=>?_,λD2 is2 nD hs=>?_⟩;.exact⟨_,Z,_,Z,b,_,_,_,Z,Z,((ag.upd np).n.trans (L1 _ _ _ _ _ _).1).seq hb2,bH Y Y,_,_,Z,Z,⟨aS,aS⟩,_,_,Z,Z,(by change (0:Int) < 100000; decide),Z,Z⟩
   exact⟨D2,is2,Z,((ag.upd np).n.trans (L1 _ _ _ _ _ _).1).trans (ag.upd nD).n,aa,hs.len.trans hxl,hxl▸hs.lt⟩
  rintro O3 H3 ⟨D2,is2,rfl,s3,hD2,il2,ilt2⟩;have hx3:=s3.nt _ _ hx xy;show⟨_,Z,D2,Z,⟨_,QF.of hD2⟩,?_⟩;show kY (xs:=aH is2) (bW (QF.of hD2)) (λv=>match v with | .int k=>xs.getD k.toNat .non | _=> .non) (by rw[show (aH is2).length=is2.length from MO ..]; exact aB Y) (λx hx' R hR'=>?_) (λp np=>?_)
  .obtain⟨k,hk,rfl⟩:=Ny.mp hx';have hk2:=ilt2 k hk;show⟨_,Z,_,Z,l,xs,_,_,Z,Z,QF.of hx3,?_,hR'⟩;have z:=bz (xs:=xs) (j:=k) (v:=xs.getD k .non) (by rw[MX,MQ Y]; rfl);exact z
  .have e:(aH is2).map (λv=>match v with | .int k=>xs.getD k.toNat .non | _=> .non)=is2.map λk=>xs.getD k .non:=by
    unfold aH;rw[N1];rfl
   rw[e];have hX3:=yC (hX.Av s3) is2 λk hk=>by rw[hxl]; exact ilt2 k hk
   show q p _ _ ((s12.trans s3).trans (ag.upd np).n) ⟨_,aa,hX3.same (ag.upd np)⟩ (by rw[MO,il2]; exact hrl) ⟨lev,λm _ _=>?_,λq' hq=>?_⟩
   .change 0<=((is.idxOf m.toNat:Nat):Int) / wd;exact Int.ediv_nonneg Y Y
   .obtain⟨k,hk,rfl⟩:=Ny.mp hq;have hk2:=ilt2 k hk;show hu _ ?_;rw[MX,MQ hk2];exact Ot hk2
inductive Hn(K:QG)(P1 P2:Addr)(vs:List V)(H:Hp)(Q:VK)(_E:XK):Prop|mk(b:Addr)(ns:List Int)(_:vs=[.ref b])(_:QF K H b (ns.map V.int))(_:H P1=some (.tbl #[]))(_:H P2=some (.tbl #[]))(_:∀(t r:Addr) (n:Nat) (rs:List MA.ao) (H':Hp),d6 H H'->H' t=some (.tup [.int n,.ref r])->cJ K H' r rs->n<=12->rs.length<=24->rR n rs->Q (.ref t) H')
theorem Tf {k:Int}(h0:0<=k) (h1:k < 3): ∃d:Int,QV ([.int 1,.int 0,.int 7]:List V) k=some (.int d)/\0<=d/\d<=99:=by
 have h:k=0\/k=1\/k=2:=Y;rcases h with rfl | rfl | rfl
 .exact⟨1,Z,Y,Y⟩
 .exact⟨0,Z,Y,Y⟩
 .exact⟨7,Z,Y,Y⟩
theorem Cs (ns:List Int) (hi:Option Int) (h:ns.length=26): ∃ms:List Int,dX (ns.map V.int) (some 2) hi=ms.map V.int/\ms.length<=24:=by
 obtain⟨ms,e,_⟩:=tV ns (some 2) hi;show⟨ms,e,?_⟩;have:(dX (ns.map V.int) (some 2) hi).length<=24:=by
  unfold dX;rw[Ni,NR,MO,h];have:HT.QT 26 0 (some 2)=2:=rfl;lia
 rw[e,MO] at this;exact this
theorem E8 (ns:List Int) (h:ns.length=26): ∃ms:List Int,dX (ns.map V.int) (some 2) none=ms.map V.int/\ms.length=24:=by
 obtain⟨ms,e,_⟩:=tV ns (some 2) none;show⟨ms,e,?_⟩;have:(dX (ns.map V.int) (some 2) none).length=24:=by
  unfold dX;rw[Ni,NR,MO,h];have:HT.QT 26 0 (some 2)=2:=rfl;have:HT.QT 26 26 none=26:=rfl;lia
 rw[e,MO] at this;exact this
theorem idx_int {k:Nat}(h:k∈is):(is.map λi=>((i:Nat):Int))[is.idxOf k]?=some (k:Int)/\ ∀m,m < is.idxOf k->(is.map λi=>((i:Nat):Int))[m]?≠some (k:Int):=by
 have hl:is.idxOf k < is.length:=List.idxOf_lt_length_of_mem h;show⟨?_,λm hm z=>?_⟩
 .rw[M5,MQ hl,List.getElem_idxOf];rfl
 .have hml:m < is.length:=Y;rw[M5,MQ hml] at z;have z:((is[m]:Nat):Int)=(k:Int):=Nc z;have z:is[m]=k:=Y;have:=List.not_of_lt_findIdx (p:=(· == k)) (xs:=is) hm;simp[z] at this
theorem HV (T:Txt K mg a) (B:BM mg base):QS P w K mg base 4 "_law_case" ["_law_script"] (Hn K a.P_law_woven a.P_law_case):=by
 have oh:=@FX P w K mg base a T B;show Ad T.lX cY (λ_ _ _ _ _ _=>SD λ_=>rfl) (λvs H Q E h=>?_) λf A outer s H vs Q E hC hr h=>?_
 .obtain⟨b,ns,rfl,_⟩:=h;rfl
 .obtain⟨b,ns,rfl,hS,hT1,hT2,q⟩:=h;show⟨_,(ae (QJ 1 cY.nd (ay (x5 T:) hr.mm (aq aT (QH af)))) (ae (QJ 2 cY.nd (au aU (QI K bY af) af)) (ae (QJ 3 cY.nd (au aU (au bF (QI K bY af) af) af)) (ae (QJ 4 cY.nd (au uV (au aU (au bF (QI K bY af) af) af) (bP (qY rfl) (by rfl) T.sy boot_min (aq dO (QH af))))) (ae (aN (PW.pt (g8 (aK cw eX af) (f9 (aK cw dO af)))) (ai (az (bR (aq dO (QH (ay oh hr.mm (aq (cK (RA K) bY (cM af) dS) (aq dO (aq (au bE af (au aU (QI K bY af) af)) (QH (QI K (ba (aq af (aq af (QH af)))) (au aU (au bF (QI K bY af) af) af)))))))))))) aF) (ae (QJ 5 cY.nd (ay (CD T:) hr.mm (aq (QI K bY af) (QH dO)))) (eh (QJ 6 cY.nd (pj (psc:=aj g5) (p:= "_law_k") (frn:=["_law_levels_here"]) (fr:=[5]) (by exact⟨Z,Z,Z,by trivial,Z,by trivial,by trivial,by trivial⟩) rfl rfl hr.lam rfl (λ_ _ _ _ _ _=>rfl) rfl T.mO (kK nY (by rfl) T.bh Py (QH dO)) (xU (psc:=aj g5) (p:= "_law_k") (frn:=["_law_levels_here"]) B (by exact⟨Z,Z,Z,by trivial,Z,by trivial,by trivial,by trivial⟩) rfl rfl hC) (λf c A s' H'=>(QI K bY aT)))) (eh (aN (aK cw eX af) (ai (QJ 5 cY.nd (iZ g5 ["_law_k"] ["_law_order"] [6] Rr (dq T.bh dO) (λC s2 H2 fp=>⟨(gn 0 (Q6 ["_law_k","_law_order"])),dR,(show PE _ _ (RH K _ _ _ _) from iE NI N5 N6 x4 bY (QH aT))⟩)))) aF) (ae (QJ 7 cY.nd (ay (Hx T:) hr.mm (aq (cK (RA K) bY (cM af) (cM (au bE af gE))) (aq dO (aq gT (QH (au aU (au bF (QI K bY af) af) af))))))) (eh (aN (aK cw eX af) (ai (QJ 7 cY.nd (ay (DW T:) hr.mm (aq iN (aq iF (QH (au aU (au bF (QI K bY af) af) af))))))) aF) (ai (az (bR (aq dO (QH iN))))))))))))))),?_⟩;show⟨_,Z,b,ns,26,Z,hS,aS,λp ws H1 np s1 hp hwl h0=>?_⟩;have pick: ∀ {H':Hp} (k:Int),d6 H1 H'->0<=k->k < 26->QF K H' p (ws.map V.int)/\QV (ws.map V.int) k=some (.int (MA.g ws k)):=λk s' a b=>⟨QF.of (s'.nt _ _ hp xy),bH a Y⟩
  have r1:=(ag.refl H1).n;have p0:=pick 0 r1 aS aS;have p1:=pick 1 r1 aS aS;show⟨_,Z,p,_,_,_,Z,Z,p0.1,p0.2,_,_,Z,Z,(by change (0:Int) < 13; decide),?_⟩;obtain⟨n,en,n2⟩: ∃n:Nat,MA.g ws 0 % 13=(n:Int)/\n<=12:=⟨(MA.g ws 0 % 13).toNat,Y,Y⟩
  ext:5;rw[en];show⟨_,Z,p,_,_,_,Z,Z,p0.1,p0.2,_,_,Z,Z,⟨aS,aS⟩,_,_,Z,Z,(by change (0:Int) < 4; decide),?_⟩;show⟨_,Z,p,_,_,_,Z,Z,p0.1,p0.2,_,_,Z,Z,⟨aS,aS⟩,_,_,Z,Z,(by change (0:Int) < 25; decide),_,Z,_,_,Z,_,_,Z,Z,.inl ⟨Y,Y⟩,?_⟩;ext:4;generalize MA.g ws 0 / 13 % 25*(if 1 < (n:Int) then 1 else (n:Int))=many;generalize hkd:MA.g ws 0 / 650 % 4=kind;show⟨_,Z,Z,_,Z,?_⟩;have first: ∀ {A1 B1:Hp->Prop},(kind=0\/n=0->A1 H1)->(kind≠0->n≠0->B1 H1)->(if decide (V.int kind=V.int 0)=true then (λc h=>if c=true then A1 h else B1 h) true H1 else xf (Ry SU (pO 2) (tC (.int 0))) [rW b,rW p,some (.int n),some (.int kind),some (.int many),none,none,none] H1 λc h=>if c=true then A1 h else B1 h):=λ{A1 B1} f1 f2=>by
   by_cases c:kind=0
   .rw[c];exact bu (bu (f1 (.inl c)))
   .rw[show decide (V.int kind=V.int 0)=false from by simp[c]];show aP ⟨_,Z,Z,_,Z,?_⟩;by_cases d:n=0
    .rw[d];exact bu (f1 (.inr d))
    .rw[show decide (V.int (n:Nat)=V.int 0)=false from by simp[d]];exact aP (f2 c d)
  show first (λc=>?_) (λck cn=>?_)
  .obtain⟨ms,em,ml⟩:=E8 ws hwl;obtain⟨d,hd,d0,d1⟩:=Tf (k:=MA.g ws 1 / 2 % 3) Y Y;show⟨_,Z,_,Z,_,Z,p,_,Z,QF.of hp,λp2 np2=>?_⟩;rw[em];have s2:=ag.upd (o:= .lst (ms.map V.int)) np2;have q1:=pick 1 s2.n aS aS;show⟨_,Z,_,Z,p,_,_,_,Z,Z,q1.1,q1.2,_,_,Z,Z,(by change (0:Int) < 2; decide),_,_,Z,Z,aC,λu nu=>?_⟩;have s3:=s2.trans (ag.upd (o:= .lst [.int 1,.int 0,.int 7]) nu);have q2:=pick 1 s3.n aS aS;show⟨_,Z,p,_,_,_,Z,Z,q2.1,q2.2,_,_,Z,Z,⟨aS,aS⟩,_,_,Z,Z,(by change (0:Int) < 3; decide),u,_,_,_,Z,Z,QF.of aa,hd,?_⟩;show⟨p2,ms,n,_,d,Z,(ag.upd nu).seq (QF.of aa),Y,n2,Y,d0,d1,(s1.trans s3) _ _ hT1,λr rs H2 s4 hR hrl hri=>?_⟩;show⟨aC,λt nt=>?_⟩;exact q t r n rs _ (((s1.trans s3).n.trans s4).trans (ag.upd nt).n) aa (hR.same (ag.upd nt)) n2 hrl hri
  have n1:0 < n:=Y;show⟨_,Z,p,_,_,_,Z,Z,p1.1,p1.2,_,Z,_,n,Z,Y,λlv ls H2 nlv s2 hlv hll hlb=>?_⟩;have hT3:=(s1.trans s2) _ _ hT2;show⟨λO' H'=> ∃(D:Addr) (is:List Nat),O'=[rW b,rW p,some (.int n),some (.int kind),some (.int many),rW lv,rW D,none]/\d6 H2 H'/\H' D=some (.lst (aH is))/\is.length=n/\(∀i,i < n->i∈is)/\(∀i∈is,i < n)/\is.Nodup,?_,?_⟩
  .show⟨_,Z,_,Z,λp2 np2=>⟨p2,n,Z,aa,Y,#[],(ah (av hT3 np2)).trans hT3,trivial,Z,λc fl nc nf hcf hcP hfP=>?_⟩⟩;have hT4:(upd H2 p2 (.Q1 0 (n:Nat))) a.P_law_case=some (.tbl #[]):=(ah (av hT3 np2)).trans hT3;have L1:=λpos qual params body scope clos=>xD (pos:=pos) (qual:=qual) (params:=params) (body:=body) (scope:=scope) (clos:=clos) hT4 nc nf hcP hfP hcf;show⟨(L1 _ _ _ _ _ _).1.nt _ _ aa xM,fl,c,λi=>MA.g ls (i:Nat),Z,aa,(ah hcf).trans aa,λi hi A s'=>?_,λD is nD hs=>?_⟩;.exact⟨_,Z,_,Z,lv,_,_,_,Z,Z,((ag.upd np2).n.trans (L1 _ _ _ _ _ _).1).seq (QF.of hlv),bH Y Y,Z,Z⟩
   exact⟨D,is,Z,((ag.upd np2).n.trans (L1 _ _ _ _ _ _).1).trans (ag.upd nD).n,aa,hs.len,λi hi=>hs.1.mem_iff.mpr (Nh.mpr hi),hs.lt,hs.nodup⟩
  rintro O3 H3 ⟨D,is,rfl,s3,hD,il,iall,ilt,ind⟩;have hlv3:=s3.nt _ _ hlv xy;have s13:=s2.n.trans s3;show⟨λO' H'=> ∃(lv:Addr) (ls:List Int),O'=[rW b,rW p,some (.int n),some (.int kind),some (.int many),rW lv,rW D,none]/\ag H3 H'/\H' lv=some (.lst (ls.map V.int))/\ls.length=n/\(∀y∈ls,0<=y)/\(kind=1-> ∀k:Nat,k < n->MA.g ls (is.getD k 0:Nat)=(k:Nat)),?_,?_⟩
  .show⟨_,Z,Z,_,Z,?_⟩;ext:2;rotate_left
   .have c: ¬kind=1:=by simpa using c
    exact⟨lv,ls,Z,ag.refl H3,hlv3,hll,λy hy=>(hlb y hy).1,λz=>absurd z c⟩
   ext:7;have eN:aH is=(is.map λi=>((i:Nat):Int)).map V.int:=by
    unfold aH;rw[N1];rfl
   show kY (xs:=bg 0 n) bt (λv=>match v with | .int k=> .int (is.idxOf k.toNat:Nat) | _=> .non) (by rw[bI]; exact aB Y) (λx hx R hR=>?_) (λp2 np2=>?_)
   .obtain⟨k,hk,rfl⟩:=Ny.mp hx;have hk:=Nh.mp hk;obtain⟨i1,i2⟩:=idx_int (iall k hk);have ek:(0+(k:Nat):Int)=(k:Nat):=Y;show⟨_,Z,.inl ⟨Z,_,QF.of hD⟩,_,Z,D,_,(k:Nat),is.idxOf k,Z,by rw[ek],by rw[<-eN]; exact hD,i1,i2,?_⟩;have hR:R (.int (is.idxOf (0+(k:Nat):Int).toNat:Nat)) H3:=hR;rw[ek,M6] at hR;exact hR
   .show⟨p2,(List.range n).map λk=>((is.idxOf k:Nat):Int),Z,ag.upd np2,?_,by rw[MO,NK],λy hy=>?_,λ_ k hk=>?_⟩
    .rw[aa];unfold bg;rw[N1,N1];congr 2;show OE λk _=>?_;change V.int (is.idxOf (0+(k:Nat):Int).toNat:Nat)=V.int (is.idxOf k:Nat);rw[show (0+(k:Nat):Int).toNat=k by lia]
    .obtain⟨k,_,rfl⟩:=Ny.mp hy;lia
    .have h3:=ilt _ (getD_mem (is:=is) (k:=k) Y);unfold MA.g;rw[M6,MX,M5,Pk h3];change ((is.idxOf (is.getD k 0):Nat):Int)=(k:Nat);rw[CC ind Y]
  clear hlv3 hlv hll hlb nlv;rintro O4 H4 ⟨lv,ls,rfl,s4,hlv,hll,hlb,hord⟩;have s14:=s13.trans s4.n;obtain⟨ms,em,ml⟩:=Cs ws (some (2+many)) hwl;show⟨_,Z,_,Z,_,Z,_,_,Z,Z,_,Z,p,_,Z,(pick 0 s14 aS aS).1,λp3 np3=>?_⟩;rw[em];have s15:=s14.trans (ag.upd (o:= .lst (ms.map V.int)) np3).n;have q0:=pick 0 s15 aS aS;show⟨_,Z,_,Z,_,Z,p,_,_,_,Z,Z,q0.1,q0.2,_,_,Z,Z,⟨aS,aS⟩,_,_,Z,Z,(by change (0:Int) < 2; decide),?_⟩;show⟨p3,ms,n,lv,ls,_,Z,QF.of aa,Y,n1,(ag.upd np3).seq (QF.of hlv),hll,mod2 _,λr rs H5 nr s5 hR hrl hk=>?_⟩;have s16:=s15.trans s5.n;have hD5:H5 D=some (.lst (aH is)):=s5 _ _ ((ag.upd np3) _ _ (s4 _ _ hD));have lev0: ∀i:Int,0<=i->i < n->0<=MA.g ls i:=λi a b=>hlb _ (K0 a Y);show⟨λO' H'=> ∃(r:Addr) (rs:List MA.ao),O'=[rW b,rW p,some (.int n),some (.int kind),some (.int many),rW lv,rW D,rW r]/\d6 H1 H'/\cJ K H' r rs/\rs.length<=24/\rR n rs,?_,?_⟩
  .show⟨_,Z,Z,_,Z,?_⟩;ext:2;rotate_left;.exact⟨r,rs,Z,s16,hR,Y,_,lev0,hk⟩
   have c:kind=1:=(by simpa using c);have q1:=pick 0 s16 aS aS;show⟨_,Z,_,Z,_,Z,p,_,_,_,Z,Z,q1.1,q1.2,_,_,Z,Z,⟨aS,aS⟩,_,_,Z,Z,(by change (0:Int) < 2; decide),?_⟩;show⟨r,rs,D,is,_,MA.g ls,Z,hR,Y,hD5,Y,Y,by rw[il]; exact ilt,by rw[il]; exact hord c,mod2 _,by rw[il]; exact hk,λr' rs' H6 s6 hR' hrl' hu'=>?_⟩;rw[il] at hu';exact⟨r',rs',Z,s16.trans s6.n,hR',hrl',_,lev0,hu'⟩
  rintro O6 H6 ⟨r,rs,rfl,s17,hR,hrl,hri⟩;show⟨_,Z,_,Z,aC,λt nt=>?_⟩;exact q t r n rs _ ((s1.n.trans s17).trans (ag.upd nt).n) aa (hR.same (ag.upd nt)) n2 hrl hri
theorem zw {n:Nat}(h:rR n rs):(∀q∈rs,QO n q)/\ ∃L,aY n rs=some L:=by
 obtain⟨lev,h0,hu⟩:=h;have hk: ∀q∈rs,QO n q:=λq hq=>(hu q hq).1;show⟨hk,MA.kT hk (f:=λv=>100*lev v+99999) (λi a b=>?_) (MA.JU h0 hu)⟩;have:=h0 i a b;change 0<=100*lev i+99999;lia
inductive JA(K:QG)(vs:List V)(H:Hp)(Q:VK)(_E:XK):Prop|mk(n:Nat)(r:Addr)(rs:List MA.ao)(_:vs=[.int n,.ref r])(_:n<=1000)(_:Rl K H r rs)(_:∀q∈rs,QO n q)(_:∀(p:Addr) (ds:List Addr) (H':Hp),Rg H H' n p ds (MA.aE n rs)->Q (.ref p) H')
theorem yo (T:Txt K mg a):QS P w K mg base 1 "_law_far" ["_law_count","_law_rules_here"] (JA K):=by
 show cj T.rC dZ λf c A o s H vs Q E hr h=>?_;obtain⟨n,r,rs,rfl,hn,⟨xs,hx,hX⟩,hk,q⟩:=h;show⟨_,(ae (Sk 2 dZ.nd nJ ["_law_k"] ["_law_count"] [0] Rr (dq T.bh aT) (λC s2 H2 fp=>⟨(gn 0 (Q6 ["_law_k","_law_count"])),dR,(au oF (ba (QH (kH iA af))) bY)⟩)) (ae (cm (dq T.bh aT) (gn 3 dZ.nd) (ai (dY af (iu (QI K dO eX) eX set_list)))) (ae (cm (eE K bY) (dM rfl (aJ (gn 4 dZ.nd) (aJ (gn 5 dZ.nd) (aJ (gn 6 dZ.nd) cT)))) (ai (aN (aK pF gT af) (ai (dY (bP (kQ rfl) (by rfl) T.lW boot_max (aq (QI K (QI K dO gT) gE) (QH iF))) (iu (QI K dO gT) gE set_list))) aF))) (ae (cm (dq T.bh aT) (gn 7 dZ.nd) (ai (cm (dq T.bh aT) (gn 8 dZ.nd) (ae (aN (aK kG (QI K (QI K dO iS) iN) af) (ai zx) aF) (ai (cm (dq T.bh aT) (gn 9 dZ.nd) (ai (aN (aK pF (QI K (QI K dO iN) lE) af) (ai (dY (bP (kQ rfl) (by rfl) T.lW boot_max (aq (QI K (QI K dO iS) lE) (QH (au bE (QI K (QI K dO iS) iN) (QI K (QI K dO iN) lE))))) (iu (QI K dO iS) lE set_list))) aF)))))))) (ai (az dO)))))),?_⟩;ext:7;show Bm (λi ys H2=> ∃ds:List Addr,ys=ds.map V.ref/\ds.length=i/\ds.Nodup/\(∀d∈ds,H2 d=some (.lst (List.replicate n (V.int (-1))))/\H d=none)/\ag H H2) ⟨[],Z,Z,OX,(λd hd=>by cases hd),ag.refl H⟩ (aB hn) (λi ys H2 ⟨ds,e,hl,_⟩=>by rw[e,MO]; exact hl) ?_ ?_
 .rintro i ys H2 hi ⟨ds,rfl,hl,nd,hr2,sm⟩;show⟨_,Z,aC,λl0 n0=>?_⟩;show⟨_,Z,l0,_,_,Z,Z,aa,Y,Y,by change 1*(n:Int).toNat<=sizeLine; rw[M6,QD]; exact Nw (aB hn),λl nl=>?_⟩;have s2:ag H2 (upd (upd H2 l0 (.lst [.int (-1)])) l (.lst (List.replicate n (V.int (-1))))):=(ag.upd n0).trans (ag.upd nl);have e1:(List.replicate (n:Int).toNat [V.int (-1)]).flatten=List.replicate n (V.int (-1)):=by rw[M6]; simp
  show⟨ds++[l],by rw[Nf]; rfl,by rw[M0,hl]; rfl,?_,λd hd=>?_,?_⟩
  .show OU.mpr ⟨nd,NM.mpr ⟨NL,OX⟩,λd hd e he=>?_⟩;rw[MT.mp he];exact av (ag.upd n0 _ _ (hr2 d hd).1) nl
  .rcases M8.mp hd with hd | hd
   .show⟨?_,(hr2 d hd).2⟩;rw[ah (av (ag.upd n0 _ _ (hr2 d hd).1) nl)];exact ag.upd n0 _ _ (hr2 d hd).1
   .rw[MT.mp hd];exact⟨by rw[aa,e1],sm.free ((ag.upd n0).free nl)⟩
  .exact sm.trans ((ag.upd n0).trans (ag.upd nl))
 rintro ys H2 p ⟨ds,e,hl,nd,hr2,sm⟩ hp;have m0:Rg H (upd H2 p (.lst ys)) n p ds (λ_ _=> -1):=Rg.grow ds e hl nd hr2 sm hp;clear hr2 e nd hl sm hp;generalize upd H2 p (.lst ys)=H3 at m0;ext:7;show bA (xs:=bg 0 n) (λi O' H'=> ∃v3:Option V,O'=[some (.int n),rW r,rW p,v3,none,none,none,none,none,none]/\Rg H H' n p ds ((List.range i).foldl MA.xb (λ_ _=> -1))) ⟨none,Z,m0⟩ (λi O' H' _ _=>bt) ?_ ?_
 .rintro i x O' H' hi ⟨v3,rfl,m⟩;obtain⟨hin,rfl⟩:=bj hi;obtain⟨d,hd,ha,hrow⟩:=m.at (a:=0+(i:Nat)) Y Y;show⟨_,Z,_,Z,p,_,_,_,Z,Z,QF.of m.top,ha,_,Z,d,_,_,_,Z,Z,hrow,by rw[jU]; exact iz Y Y,?_⟩;have ei:(0+(i:Nat):Int).toNat=i:=Y;rw[ei] at hd hrow ⊢;show⟨_,Z,?_⟩;rw[dB];exact m.put hd hin
 rintro O1 H1 ⟨v3,rfl,m1⟩;rw[bI] at m1;have m1:Rg H H1 n p ds (MA.M1 n):=m1;show⟨_,Z,r,Z,⟨_,m1.sm.seq hx⟩,?_⟩;show bA (xs:=xs) (λi O' H'=> ∃v4 v5 v6:Option V,O'=[some (.int n),rW r,rW p,v3,v4,v5,v6,none,none,none]/\Rg H H' n p ds ((rs.take i).foldl MA.Rv (MA.M1 n))) ⟨none,none,none,Z,m1⟩ (λi O' H' _ ⟨_,_,_,_,m⟩=>bW (m.sm.seq hx)) ?_ ?_
 .rintro i x O' H' hi ⟨v4,v5,v6,rfl,m⟩;obtain⟨rl,hq,t,rfl,ht⟩:=hX.get hi;obtain⟨k1,k2,k3,k4,k5⟩:=hk rl (MS hq);show⟨t,_,Z,m.sm.gM ht,Z,_,_,Z,_,_,Z,_,_,Z,Z,?_⟩;show⟨_,Z,_,_,Z,Z,_,Z,?_⟩;ext:2
  .have c:=M9 c;obtain⟨d,hd,ha,hrow⟩:=m.at (a:=rl.2.1) c k4;show⟨_,Z,_,Z,p,_,_,_,Z,Z,QF.of m.top,ha,_,Z,d,_,_,_,Z,Z,QF.of hrow,jf k1 k2,_,Z,_,_,Z,?_⟩;show⟨_,Z,_,Z,p,_,_,_,Z,Z,QF.of m.top,ha,_,Z,d,_,_,_,Z,Z,hrow,by rw[jU]; exact iz k1 k2,?_⟩;show⟨_,_,_,Z,?_⟩;rw[foldl_take_succ MA.Rv _ hq];unfold MA.Rv;rw[MU c];exact m.put hd Y
  .have c:=Nr (Nl _▸c);show⟨_,_,_,Z,?_⟩;rw[foldl_take_succ MA.Rv _ hq];change Rg H H' n p ds (MA.Rv _ rl);rw[show ∀M,MA.Rv M rl=M from λM=>MP c];exact m
 rintro O2 H2 ⟨v4,v5,v6,rfl,m2⟩;rw[hX.length,NC] at m2;have m2:Rg H H2 n p ds (MA.M2 n rs):=m2;ext:7;show bA (xs:=bg 0 n) (λk O' H'=> ∃v7 v8 v9:Option V,O'=[some (.int n),rW r,rW p,v3,v4,v5,v6,v7,v8,v9]/\Rg H H' n p ds ((List.range k).foldl (MA.mid n) (MA.M2 n rs))) ⟨none,none,none,Z,m2⟩ (λi O' H' _ _=>bt) ?_ ?_
 .rintro k x O' H' hi ⟨v7,v8,v9,rfl,m⟩;obtain⟨hkn,rfl⟩:=bj hi;generalize hD:(List.range k).foldl (MA.mid n) (MA.M2 n rs)=D at m;have ek:(0+(k:Nat):Int).toNat=k:=Y;ext:7;show bA (xs:=bg 0 n) (λi O' H'=> ∃v8 v9:Option V,O'=[some (.int n),rW r,rW p,v3,v4,v5,v6,some (.int (0+(k:Nat))),v8,v9]/\Rg H H' n p ds ((List.range i).foldl (MA.lJ n k) D)) ⟨v8,v9,Z,m⟩ (λi O' H' _ _=>bt) ?_ ?_
  .clear m;rintro i x O' H' hi ⟨v8,v9,rfl,m⟩;obtain⟨hin,rfl⟩:=bj hi;generalize hF:(List.range i).foldl (MA.lJ n k) D=F at m;have ei:(0+(i:Nat):Int).toNat=i:=Y;obtain⟨d,hd,ha,hrow⟩:=m.at (a:=0+(i:Nat)) Y Y;rw[ei] at hd hrow;have hck:=jf (M:=F) (i:=i) (b:=0+(k:Nat)) (n:=n) Y Y;rw[ek] at hck;show⟨_,Z,_,Z,p,_,_,_,Z,Z,QF.of m.top,ha,_,Z,d,_,_,_,Z,Z,QF.of hrow,hck,_,_,Z,Z,_,Z,?_⟩;have hstep:(List.range (i+1)).foldl (MA.lJ n k) D=MA.lJ n k F i:=(by rw[dB,hF]);ext:2
   .have c:=M9 c;show⟨_,_,Z,?_⟩;rw[hstep];unfold MA.lJ;rw[MU c];exact m
   have c:=Nr (Nl _▸c);ext:7;show bA (xs:=bg 0 n) (λj O' H'=> ∃v9:Option V,O'=[some (.int n),rW r,rW p,v3,v4,v5,v6,some (.int (0+(k:Nat))),some (.int (0+(i:Nat))),v9]/\Rg H H' n p ds ((List.range j).foldl (MA.RE k i) F)) ⟨v9,Z,m⟩ (λi O' H' _ _=>bt) ?_ ?_
   .clear m hrow hck;rintro j x O' H' hi ⟨v9,rfl,m⟩;obtain⟨hjn,rfl⟩:=bj hi;generalize hG:(List.range j).foldl (MA.RE k i) F=G at m;have ej:(0+(j:Nat):Int).toNat=j:=Y;obtain⟨dk,hdk,hak,hrk⟩:=m.at (a:=0+(k:Nat)) Y Y;rw[ek] at hdk hrk;have hkj:=jf (M:=G) (i:=k) (b:=0+(j:Nat)) (n:=n) Y Y;rw[ej] at hkj;show⟨_,Z,_,Z,p,_,_,_,Z,Z,QF.of m.top,hak,_,Z,dk,_,_,_,Z,Z,QF.of hrk,hkj,_,_,Z,Z,_,Z,?_⟩;have hst:(List.range (j+1)).foldl (MA.RE k i) F=MA.RE k i G j:=(by rw[dB,hG]);show bo (λc2=>?_) (λc2=>?_)
    .have c2:=M9 c2;obtain⟨di,hdi,hai,hri⟩:=m.at (a:=0+(i:Nat)) Y Y;rw[ei] at hdi hri;have hij:=jf (M:=G) (i:=i) (b:=0+(j:Nat)) (n:=n) Y Y;rw[ej] at hij;have hik:=jf (M:=G) (i:=i) (b:=0+(k:Nat)) (n:=n) Y Y;rw[ek] at hik;show⟨_,Z,_,Z,p,_,_,_,Z,Z,QF.of m.top,hai,_,Z,di,_,_,_,Z,Z,QF.of hri,hij,?_⟩;show⟨_,Z,_,Z,p,_,_,_,Z,Z,QF.of m.top,hai,_,Z,di,_,_,_,Z,Z,QF.of hri,hik,?_⟩;show⟨_,Z,_,Z,p,_,_,_,Z,Z,QF.of m.top,hak,_,Z,dk,_,_,_,Z,Z,QF.of hrk,hkj,_,_,Z,Z,_,_,Z,?_⟩;show⟨_,Z,_,Z,p,_,_,_,Z,Z,QF.of m.top,hai,_,Z,di,_,_,_,Z,Z,hri,by rw[jU]; exact iz Y Y,?_⟩;rw[ej];show⟨_,Z,?_⟩;rw[hst];unfold MA.RE;rw[MU c2];exact m.put hdi hjn
    .have c2:=Nr (Nl _▸c2);show⟨_,Z,?_⟩;rw[hst];unfold MA.RE;rw[MP c2];exact m
   .rintro O' H' ⟨v9,rfl,m⟩;rw[bI] at m;show⟨_,_,Z,?_⟩;rw[hstep];unfold MA.lJ;rw[MP c];exact m
  .rintro O' H' ⟨v8,v9,rfl,m⟩;rw[bI] at m;show⟨_,_,_,Z,?_⟩;rw[dB,hD];exact m
 .rintro O' H' ⟨v7,v8,v9,rfl,m⟩;rw[bI] at m;exact⟨_,Z,q p ds H' m⟩
inductive CF(K:QG)(vs:List V)(H:Hp)(Q:VK)(_E:XK):Prop|mk(n:Nat)(r:Addr)(rs:List MA.ao)(_:vs=[.int n,.ref r])(_:n<=1000)(_:Rl K H r rs)(_:∀q∈rs,QO n q)(_:∀(H':Hp),ag H H'->Q (.bl (MA.df n rs)) H')
theorem vW (T:Txt K mg a):QS P w K mg base 2 "_law_ringed" ["_law_count","_law_rules_here"] (CF K):=by
 show cj T.mZ lK λf c A o s H vs Q E hr h=>?_;obtain⟨n,r,rs,rfl,hn,hR,hk,q⟩:=h;show⟨_,(ae (QJ 2 lK.nd (ay (yo T:) hr.mm (aq aT (QH bY)))) (ae (cm (dq T.bh aT) (gn 3 lK.nd) (ai (aN (aK pU (QI K (QI K dO eX) eX) af) (ai (az eY)) aF))) (ai (az eY)))),?_⟩;show⟨_,Z,_,Z,n,r,rs,Z,hn,hR,hk,λp ds H1 m=>?_⟩;ext:7;show bA (xs:=bg 0 n) (λi O' H'=> ∃v3:Option V,O'=[some (.int n),rW r,rW p,v3]/\H'=H1/\ ∀j,j < i-> ¬ 0 < MA.aE n rs j j) ⟨none,Z,Z,λj hj=>absurd hj (NP _)⟩ (λi O' H' _ _=>bt) ?_ ?_
 .rintro i x O' H' hi ⟨v3,rfl,rfl,hno⟩;obtain⟨hin,rfl⟩:=bj hi;obtain⟨d,hd,ha,hrow⟩:=m.at (a:=0+(i:Nat)) Y Y;have ei:(0+(i:Nat):Int).toNat=i:=Y;have hii:=jf (M:=MA.aE n rs) (i:=i) (b:=0+(i:Nat)) (n:=n) Y Y;rw[ei] at hrow hii;show⟨_,Z,_,Z,p,_,_,_,Z,Z,QF.of m.top,ha,_,Z,d,_,_,_,Z,Z,QF.of hrow,hii,_,_,Z,Z,_,Z,?_⟩;ext:2
  .have e:MA.df n rs=true:=List.any_eq_true.mpr ⟨i,Nh.mpr hin,c⟩;rw[e] at q;exact q H' m.sm
  .have c:=Nr (Nl _▸c);show⟨_,Z,Z,λj hj=>?_⟩;by_cases e:j=i;.rw[e]; exact c
   .exact hno j Y
 .rintro O' H' ⟨v3,rfl,rfl,hno⟩;rw[bI] at hno;have e:MA.df n rs=false:=Pz.mpr λj hj=>λz=>hno j (Nh.mp hj) (M9 z);rw[e] at q;exact q H' m.sm
inductive Dt(K:QG)(vs:List V)(H:Hp)(Q:VK)(_E:XK):Prop|mk(n:Nat)(r:Addr)(rs:List MA.ao)(_:vs=[.int n,.ref r])(_:n<=1000)(_:Rl K H r rs)(_:∀q∈rs,QO n q)(_:∀(p:Addr) (H':Hp),H p=none->ag H H'->H' p=some (.lst ((MA.cB n rs).map V.int))->Q (.ref p) H')
theorem qC (T:Txt K mg a):QS P w K mg base 2 "_law_least" ["_law_count","_law_rules_here"] (Dt K):=by
 show cj T.nQ cZ λf c A o s H vs Q E hr h=>?_;obtain⟨n,r,rs,rfl,hn,hR,hk,q⟩:=h;obtain⟨xs,hx,hX⟩:=id hR;show⟨_,(ae (QJ 2 cZ.nd (ay (yo T:) hr.mm (aq aT (QH bY)))) (ae (QJ 3 cZ.nd (au oF (ba (QH af)) aT)) (ae (cm (eE K bY) (dM rfl (aJ (gn 4 cZ.nd) (aJ (gn 5 cZ.nd) (aJ (gn 6 cZ.nd) cT)))) (ai (aN (aK kG gT af) (ai (dY (bP (kQ rfl) (by rfl) T.lW boot_max (aq (QI K eX gE) (QH iF))) (iu eX gE set_list))) aF))) (ae (QJ 7 cZ.nd (au oF (ba (QH af)) aT)) (ae (cm (dq T.bh aT) (gn 8 cZ.nd) (ai (cm (dq T.bh aT) (gn 9 cZ.nd) (ai (aN (aK pF (QI K (QI K dO iS) lE) af) (ai (dY (bP (kQ rfl) (by rfl) T.lW boot_max (aq (QI K iN lE) (QH (au bE (QI K eX iS) (QI K (QI K dO iS) lE))))) (iu iN lE set_list))) aF))))) (ai (az iN))))))),?_⟩;show⟨_,Z,_,Z,n,r,rs,Z,hn,hR,hk,λp ds H1 m=>?_⟩;have rep: ∀ {l0 l:Addr}{H':Hp} (n0:H' l0=none) (nl:(upd H' l0 (.lst [.int 0])) l=none),(upd (upd H' l0 (.lst [.int 0])) l (.lst (List.replicate (n:Int).toNat [V.int 0]).flatten)) l=some (.lst ((List.replicate n (0:Int)).map V.int)):=λn0 nl=>by
  rw[aa,M6];simp
 have hrep:1*(n:Int).toNat<=sizeLine:=by rw[M6,QD]; exact Nw (aB hn)
 show⟨aC,λl0 n0=>⟨_,Z,l0,_,_,Z,Z,aa,Y,Y,hrep,λl nl=>?_⟩⟩;have s1:=(ag.upd (o:= .lst [.int 0]) n0).trans (ag.upd (o:= .lst (List.replicate (n:Int).toNat [V.int 0]).flatten) nl);have hl1:=rep n0 nl;have nlH:H1 l=none:=(ag.upd n0).free nl;have m1:Rg H (upd (upd H1 l0 (.lst [.int 0])) l (.lst (List.replicate (n:Int).toNat [V.int 0]).flatten)) n p ds (MA.aE n rs):=⟨s1 _ _ m.top,m.len,m.nd,m.np,λi d hd=>s1 _ _ (m.row i d hd),m.sm.trans s1,m.fp,m.fd⟩
 generalize upd (upd H1 l0 (.lst [.int 0])) l (.lst (List.replicate (n:Int).toNat [V.int 0]).flatten)=H2 at s1 hl1 m1;clear n0 nl rep;show⟨_,Z,r,Z,⟨_,m1.sm.seq hx⟩,?_⟩;show cF (xs:=xs) (λi O' H'=> ∃v4 v5 v6:Option V,O'=[some (.int n),rW r,rW p,rW l,v4,v5,v6,none,none,none]/\ag H1 H'/\H' l=some (.lst (((rs.take i).foldl MA.fj (List.replicate n 0)).map V.int))) ⟨none,none,none,Z,s1,hl1⟩ (λi O' H' _ ⟨_,_,_,_,sm,_⟩=>bW ((m.sm.trans sm).seq hx)) ?_ ?_
 .clear s1 hl1 m1;rintro i x O' H' D1 nx1 - hi ⟨v4,v5,v6,rfl,sm,hl⟩;obtain⟨rl,hq,t,rfl,ht⟩:=hX.get hi;obtain⟨k1,k2,k3,k4,k5⟩:=hk rl (MS hq);have hlen:((rs.take i).foldl MA.fj (List.replicate n 0)).length=n:=(MA.gY _ (λ_ _=>MA.jX) _ _).trans (by simp);have hst:(rs.take (i+1)).foldl MA.fj (List.replicate n 0)=MA.fj ((rs.take i).foldl MA.fj (List.replicate n 0)) rl:=foldl_take_succ _ _ hq;generalize (rs.take i).foldl MA.fj (List.replicate n 0)=G at hl hlen hst;show⟨t,_,Z,(m.sm.trans sm).gM ht,Z,_,_,Z,_,_,Z,_,_,Z,Z,?_⟩;show⟨_,Z,_,_,Z,Z,_,Z,?_⟩;ext:2
  .have c:=M9 c;show⟨_,Z,_,Z,l,_,_,_,Z,Z,QF.of hl,bH k1 Y,_,Z,_,_,Z,_,Z,_,Z,l,_,_,_,Z,Z,hl,by rw[MO,hlen]; exact iz k1 k2,?_⟩;show nx1 _ _ ⟨_,_,_,Z,sm.eI nlH,?_⟩;rw[aa,hst,<-Ol];unfold MA.fj;rw[MU c];rfl
  .have c:=Nr (Nl _▸c);show nx1 _ _ ⟨_,_,_,Z,sm,?_⟩;rw[hst];unfold MA.fj;rw[MP c];exact hl
 rintro O3 H3 ⟨v4,v5,v6,rfl,s3,hl3⟩;rw[hX.length,NC] at hl3;have hl3:H3 l=some (.lst ((MA.cX n rs).map V.int)):=hl3;have fl:(MA.cX n rs).length=n:=MA.EA;show⟨aC,λl0 n0=>⟨_,Z,l0,_,_,Z,Z,aa,Y,Y,hrep,λu nu=>?_⟩⟩;have s4:=(ag.upd (o:= .lst [.int 0]) n0).trans (ag.upd (o:= .lst (List.replicate (n:Int).toNat [V.int 0]).flatten) nu);have hu4:(upd (upd H3 l0 (.lst [.int 0])) u (.lst (List.replicate (n:Int).toNat [V.int 0]).flatten)) u=some (.lst ((List.replicate n (0:Int)).map V.int)):=by
  rw[aa,M6];simp
 have nuH:H3 u=none:=(ag.upd n0).free nu;have nu1:H1 u=none:=s3.free nuH;have nu0:H u=none:=m.sm.free nu1;have mat: ∀ {H':Hp},ag H3 H'->Rg H H' n p ds (MA.aE n rs):=λz=>⟨(s3.trans z) _ _ m.top,m.len,m.nd,m.np,λi d hd=>(s3.trans z) _ _ (m.row i d hd),m.sm.trans (s3.trans z),m.fp,m.fd⟩
 generalize upd (upd H3 l0 (.lst [.int 0])) u (.lst (List.replicate (n:Int).toNat [V.int 0]).flatten)=H4 at s4 hu4;ext:7;show cF (xs:=bg 0 n) (λi O' H'=> ∃v8 v9:Option V,O'=[some (.int n),rW r,rW p,rW l,v4,v5,v6,rW u,v8,v9]/\ag H3 H'/\H' u=some (.lst (((List.range i).foldl (MA.kf n (MA.aE n rs) (MA.cX n rs)) (List.replicate n 0)).map V.int))) ⟨none,none,Z,s4,hu4⟩ (λi O' H' _ _=>bt) ?_ ?_
 .rintro a x O' H' D1 nx1 - hi ⟨v8,v9,rfl,sm,hu⟩;obtain⟨han,rfl⟩:=bj hi;have ea:(0+(a:Nat):Int).toNat=a:=Y;have ea2:(0+(a:Nat):Int)=(a:Nat):=Y;ext:7;have hlen0:((List.range a).foldl (MA.kf n (MA.aE n rs) (MA.cX n rs)) (List.replicate n 0)).length=n:=(MA.gY _ (λ_ _=>MA.mM) _ _).trans (by simp);have hst:(List.range (a+1)).foldl (MA.kf n (MA.aE n rs) (MA.cX n rs)) (List.replicate n 0)=MA.kf n (MA.aE n rs) (MA.cX n rs) ((List.range a).foldl (MA.kf n (MA.aE n rs) (MA.cX n rs)) (List.replicate n 0)) a:=dB _ _ _;generalize (List.range a).foldl (MA.kf n (MA.aE n rs) (MA.cX n rs)) (List.replicate n 0)=G at hu hlen0 hst;show cF (xs:=bg 0 n) (λb O' H'=> ∃v9:Option V,O'=[some (.int n),rW r,rW p,rW l,v4,v5,v6,rW u,some (.int (0+(a:Nat))),v9]/\ag H3 H'/\H' u=some (.lst (((List.range b).foldl (MA.fz (MA.aE n rs) (MA.cX n rs) a) G).map V.int))) ⟨v9,Z,sm,hu⟩ (λi O' H' _ _=>bt) ?_ ?_
  .clear hu sm;rintro b x O' H' D2 nx2 - hi ⟨v9,rfl,sm,hu⟩;obtain⟨hbn,rfl⟩:=bj hi;have eb:(0+(b:Nat):Int).toNat=b:=Y;have eb2:(0+(b:Nat):Int)=(b:Nat):=Y;have hlen1:((List.range b).foldl (MA.fz (MA.aE n rs) (MA.cX n rs) a) G).length=n:=(MA.gY _ (λ_ _=>MA.jK) _ _).trans hlen0;have hst1:(List.range (b+1)).foldl (MA.fz (MA.aE n rs) (MA.cX n rs) a) G=MA.fz (MA.aE n rs) (MA.cX n rs) a ((List.range b).foldl (MA.fz (MA.aE n rs) (MA.cX n rs) a) G) b:=dB _ _ _;generalize (List.range b).foldl (MA.fz (MA.aE n rs) (MA.cX n rs) a) G=F at hu hlen1 hst1;have mm:=mat sm;obtain⟨d,hd,had,hrow⟩:=mm.at (a:=0+(a:Nat)) Y Y;rw[ea] at hrow;have hab:=jf (M:=MA.aE n rs) (i:=a) (b:=0+(b:Nat)) (n:=n) Y Y;rw[eb] at hab;show⟨_,Z,_,Z,p,_,_,_,Z,Z,QF.of mm.top,had,_,Z,d,_,_,_,Z,Z,QF.of hrow,hab,_,_,Z,Z,_,Z,?_⟩;ext:2
   .have c:=M9 c;show⟨_,Z,_,Z,u,_,_,_,Z,Z,QF.of hu,bH Y Y,?_⟩;show⟨_,Z,_,Z,l,_,_,_,Z,Z,QF.of (sm _ _ hl3),bH Y Y,?_⟩;show⟨_,Z,_,Z,p,_,_,_,Z,Z,QF.of mm.top,had,_,Z,d,_,_,_,Z,Z,QF.of hrow,hab,_,_,Z,Z,_,_,Z,?_⟩;show⟨_,Z,_,Z,u,_,_,_,Z,Z,hu,by rw[MO,hlen1]; exact iz Y Y,?_⟩;show nx2 _ _ ⟨_,Z,sm.eI nuH,?_⟩;rw[aa,hst1,<-Ol];unfold MA.fz;rw[MU c,ea2,eb2];rfl
   .have c:=Nr (Nl _▸c);show nx2 _ _ ⟨_,Z,sm,?_⟩;rw[hst1];unfold MA.fz;rw[MP c];exact hu
  .rintro O' H' ⟨v9,rfl,sm,hu⟩;rw[bI] at hu;show nx1 _ _ ⟨_,_,Z,sm,?_⟩;rw[hst];exact hu
 .rintro O' H' ⟨v8,v9,rfl,sm,hu⟩;rw[bI] at hu;exact⟨_,Z,q u H' nu0 (m.sm.trans (s3.trans sm)) hu⟩
def xR (rs:List MA.ao) (s g:Int):Prop:= ∃S:Int->Prop,S s/\ ¬S g/\ ∀r∈rs,0<=r.2.1->S r.2.1->S r.1
inductive y3(K:QG)(vs:List V)(H:Hp)(Q:VK)(_E:XK):Prop|mk(r:Addr)(rs:List MA.ao)(n:Nat)(s g:Int)(_:vs=[.ref r,.int s,.int g])(_:Rl K H r rs)(_:∀q∈rs,QO n q)(_:n<=100)(_:0<=s)(_:s < n)(_:∀H',ag H H'->xR rs s g->Q .non H')(_:∀(H':Hp) (a:Addr) (ps:List Nat),ag H H'->H' a=some (.lst (aH ps))->ps.length<=100->MA.Path rs s g ps->(s::MA.QY rs ps).Nodup->Q (.ref a) H')
theorem zB (T:Txt K mg a):QS P w K mg base 1 "find_way" ["rules","start","goal"] (y3 K):=by
 show kM T.pH gj (λ_ _ _ _ _ _=>R9 λ_ _ _=>rfl) (λvs H Q E h=>?_) λf cdv A outer s0 H vs Q E hr h=>?_
 .obtain⟨r,rs,n,s,g,rfl,_⟩:=h;rfl
 .obtain⟨r,rs,n,s,g,rfl,⟨xs,hx,hX⟩,hk,hn,hs0,hs1,k1,k2⟩:=h;show⟨_,(ae (QJ 3 gj.nd (zY (yA bY (ba cP) z7) rfl rfl (by intro z; cases z) aS)) (ae (QJ 4 gj.nd (ba (QH bY))) (ae (pQ Po (PW.pt (dy (dz K gE) (dj (qF (rA (dF hr) dO eX) (by with_unfolding_all rfl))))) (ae (QJ 5 gj.nd (show PE _ _ (RH K _ _ _ _) from iE NI OP OQ tO gE (QH af))) (ai (cm (oG rfl T.ft (QH aT)) (dM rfl (aJ (gn 6 gj.nd) (aJ (gn 7 gj.nd) cT))) (ai (aN (PW.pt (dy (aK cw (QN K iN af) gT) (dj (qF (rA (dF hr) (QN K iN af) eX) (by with_unfolding_all rfl))))) (ae (sf (dF hr) eX (QN K iN af) (au fE (oU (dF hr) eX gT (λ_ _=>rfl)) (ba (QH iF))) rfl) (ai (aI (ia K gE (QN K iN af))))) aF)))))) (ai (az (tJ (dF hr) eX dO (by constructor <;> first | rfl | (intros; rfl)))))))),?_⟩;show λd nd=>⟨_,Z,aS,λl0 nl0=>⟨(ah (av aa nl0)).trans aa,[(Sum.inl s,.ref l0)],Z,by change 1<=15; decide,?_⟩⟩
  show⟨_,Z,aC,λq nq=>?_⟩;have em:mw [] [(Sum.inl s,V.ref l0)]=[((Sum.inl s:Key),V.ref l0)]:=rfl;rw[em] at nq ⊢;have nq1:q≠d:=λz=>by rw[z,aa] at nq; cases nq
  have nq2:(upd (upd H d (.dK [])) l0 (.lst [])) q=none:=by rw[ah nq1] at nq; exact nq
  have ld:l0≠d:=λz=>by rw[z,aa] at nl0; cases nl0
  have nl1:H l0=none:=by rw[ah ld] at nl0; exact nl0
  have ql:q≠l0:=λz=>by rw[z,aa] at nq2; cases nq2
  have nq0:H q=none:=by rw[ah ql,ah nq1] at nq2; exact nq2
  have v1: ∀j:Int,aR [((Sum.inl s:Key),V.ref l0)] (Sum.inl j)=if j=s then some (.ref l0) else none:=λj=>by
   by_cases e:j=s;.rw[MU e,e]; exact cR rfl
   .rw[MP e,cI (λz=>e (PJ z).symm)]; rfl
  have h1: ∀j:Int,has [((Sum.inl s:Key),V.ref l0)] j↔j=s:=λj=>by
   unfold has;rw[v1];by_cases e:j=s <;> simp[e]
  have b0:Bf H (upd (upd (upd (upd H d (.dK [])) l0 (.lst [])) d (.dK [((Sum.inl s:Key),V.ref l0)])) q (.lst [.int s])) n rs s d q [((Sum.inl s:Key),V.ref l0)] [s] (λ_=>False):=by
   show⟨(ah (Nu nq1)).trans aa,aa,?_,nd,nq0,λj hj=>?_,λj v hj=>?_,(h1 s).mpr rfl,λm hm=>(h1 m).mpr (MT.mp hm),λj hj hw=>absurd (MT.mpr ((h1 j).mp hj)) hw,?_⟩;.exact ((((ag.upd nd).trans (ag.upd nl0)).eI nd).eI nq0)
   .rw[(h1 j).mp hj]; exact⟨hs0,hs1⟩
   .rw[v1] at hj;by_cases e:j=s
    .rw[MU e] at hj;cases hj;rw[e];show⟨l0,[],Z,?_,Nu ql,.nil,NM.mpr ⟨NL,OX⟩,λx hx=>(h1 x).mpr (MT.mp hx),MZ _⟩;rw[ah (Nu ql),ah ld,aa];rfl
    .rw[MP e] at hj; cases hj
   .have:=mj (n:=n) (kvs:=[]) (k:=s) (v:=V.ref l0) hs0 hs1 (by unfold has; simp[E3]);have e:putK ([]:QX) (Sum.inl s) (V.ref l0)=[((Sum.inl s:Key),V.ref l0)]:=rfl;rw[e] at this;have t:lA n []<=n:=by
     have:=MA.uc (List.range n) (λi=>if (aR ([]:QX) (Sum.inl ((i:Nat):Int))).isSome then 0 else 1) (λ_=>1) λi _=>by change (if _ then 0 else 1)<=1; split <;> lia
     rw[MA.ones] at this;exact this
    change 1+_<=n;lia
  ext:5;generalize upd (upd (upd (upd H d (.dK [])) l0 (.lst [])) d (.dK [((Sum.inl s:Key),V.ref l0)])) q (.lst [.int s])=H1 at b0;show⟨λm O' H'=> ∃(kvs:QX) (ws:List Int) (v5 v6 v7:Option V),O'=[rW r,some (.int s),some (.int g),rW d,rW q,v5,v6,v7]/\Bf H H' n rs s d q kvs ws (λ_=>False)/\ws.length+lA n kvs<=m/\m<=100,⟨_,_,_,none,none,none,Z,b0,MZ _,Ng b0.cn hn⟩,?_⟩;rintro m O' H' ⟨kvs,ws,v5,v6,v7,rfl,b,hm,hm100⟩;have fin:(ws=[]\/has kvs g)->(JX (CW (pO 3) (pO 2))) { nx:=λ_ H'=>Q .non H',rt:=Q } [rW r,some (.int s),some (.int g),rW d,rW q,v5,v6,v7] H':=λhend=>by
   show⟨_,Z,d,Z,.inl ⟨kvs,.inl b.hd⟩,_,Z,_,dJ.k (k:=Sum.inl g) b.hd,?_⟩;cases hv:aR kvs (Sum.inl g) with
   | some v =>
    obtain⟨a,ps,rfl,ha,_,hp,Q8,_,hl⟩:=b.val g v hv;have:=b.cn;exact k2 H' a ps b.sm ha Y hp Q8
   | none =>
    have hg: ¬has kvs g:=(by unfold has; rw[hv]; simp);have hw:ws=[]:=hend.resolve_right hg;exact k1 H' b.sm ⟨has kvs,b.st,hg,λrl hrl _ h=>b.cl _ h (by rw[hw]; exact NL) (λz=>z) rl hrl rfl⟩
  show⟨_,Z,_,.inl ⟨_,QF.of b.hq,Z⟩,?_⟩;cases ws with
  | nil=>exact aP (aP (fin (.inl rfl)))
  | cons mb ws =>
  show bu ⟨_,Z,_,Z,d,_,Z,dJ.k (k:=Sum.inl g) b.hd,_,Z,?_⟩;cases hv:aR kvs (Sum.inl g) with
  | some v=>exact aP (fin (.inr (by unfold has; rw[hv]; rfl)))
  | none =>
  show bu ?_;clear hv fin;have hmb:has kvs mb:=b.wk mb (M7);have bp:=b.pop λ_ z=>z;show o8 λD1 nxW=>?_;show⟨_,Z,.inl ⟨Z,_,QF.of b.hq⟩,q,_,_,0,.int mb,Z,Z,b.hq,aS,aS,by unfold seqIndex?; simp,Z,?_⟩;have hm':ws.length+lA n kvs < m:=by
   have:(mb::ws).length=ws.length+1:=rfl;lia
  have ee:((mb::ws).map V.int).eraseIdx 0=ws.map V.int:=rfl;rw[ee];clear ee;ext:4;generalize upd H' q (.lst (ws.map V.int))=H2 at bp;clear b hm;show⟨_,Z,r,Z,⟨_,bp.sm.seq hx⟩,?_⟩;show tR (xs:=xs) (λi O' H'=> ∃(kvs:QX) (ws:List Int) (v6 v7:Option V),O'=[rW r,some (.int s),some (.int g),rW d,rW q,some (.int mb),v6,v7]/\Bf H H' n rs s d q kvs ws (λk=>k=mb)/\has kvs mb/\ws.length+lA n kvs < m/\ ∀(j:Nat) (rl:MA.ao),j < i->rs[j]?=some rl->rl.2.1=mb->has kvs rl.1) ⟨kvs,ws,v6,v7,Z,bp,hmb,hm',λj _ hj=>absurd hj (NP _)⟩ (λi O' H' _ ⟨_,_,_,_,_,bb,_⟩=>bb.sm.seq hx) ?_ ?_
  .clear bp hmb hm' kvs ws;rintro i x O' H' t hi ⟨kvs,ws,v6,v7,rfl,b,hmb,hm',hdn⟩ nt;obtain⟨rl,hq,ta,rfl,hta⟩:=hX.get hi;obtain⟨o1,o2,o3,o4,o5⟩:=hk rl (MS hq);have b1:=b.grow (ag.upd (o:= .tup [.int (i:Nat),.ref ta]) nt);show⟨t,_,Z,QK.of aa,Z,_,_,Z,_,_,Z,Z,?_⟩;have hta1:=b1.sm.gM hta;generalize upd H' t (.tup [.int (i:Nat),.ref ta])=H1' at b1 hta1;clear b nt;have skip:(rl.2.1=mb->has kvs rl.1)-> ∀(j:Nat) (r':MA.ao),j < i+1->rs[j]?=some r'->r'.2.1=mb->has kvs r'.1:=λhh j r' hj hr' hb'=>by
    by_cases e:j=i
    .subst e;rw[hq] at hr';cases hr';exact hh hb'
    .exact hdn j r' Y hr' hb'
   show⟨_,Z,ta,_,_,_,Z,Z,hta1,Z,_,Z,Z,_,Z,?_⟩;ext:2;rotate_left
   .have c: ¬rl.2.1=mb:=by simpa using c
    exact aP ⟨kvs,ws,_,_,Z,b1,hmb,hm',skip λz=>absurd z c⟩
   have c:rl.2.1=mb:=(by simpa using c);show⟨_,Z,ta,_,_,_,Z,Z,hta1,Z,_,Z,d,_,Z,dJ.k (k:=Sum.inl rl.1) b1.hd,_,Z,?_⟩;by_cases hh:has kvs rl.1
   .rw[show (!(aR kvs (Sum.inl rl.1)).isSome)=false from by rw[show (aR kvs (Sum.inl rl.1)).isSome=true from hh]; rfl];exact aP ⟨kvs,ws,_,_,Z,b1,hmb,hm',skip λ_=>hh⟩
   .rw[show (!(aR kvs (Sum.inl rl.1)).isSome)=true from by rw[show (aR kvs (Sum.inl rl.1)).isSome=false from by simpa [has] using hh]; rfl];show bu ?_;obtain⟨vm,hvm⟩:=Oz.mp (show (aR kvs (Sum.inl mb)).isSome=true from hmb);obtain⟨a,ps,rfl,ha,naq,hp,Q8,hall,hl⟩:=b1.val mb vm hvm;have hcn:=b1.cn;show⟨_,Z,_,Z,d,.ref a,Z,hvm▸dJ.k (k:=Sum.inl mb) b1.hd,_,Z,aC,λl1 nl1=>?_⟩;have b2:=b1.grow (ag.upd (o:= .lst [.int (i:Nat)]) nl1);have ha2:=ag.upd (o:= .lst [.int (i:Nat)]) nl1 _ _ ha;show⟨a,l1,aH ps,[.int (i:Nat)],Z,Z,ha2,aa,?_,λp np=>?_⟩
    .rw[show (aH ps).length=ps.length from MO ..];change ps.length+1<=sizeLine;exact Nw (aB Y)
    have b3:=b2.grow (ag.upd (o:= .lst (aH ps++[.int (i:Nat)])) np);have ha3:=ag.upd (o:= .lst (aH ps++[.int (i:Nat)])) np _ _ ha2;have hta3:=(((ag.upd (o:= .lst [.int (i:Nat)]) nl1).trans (ag.upd (o:= .lst (aH ps++[.int (i:Nat)])) np)).gM hta1)
    have hpp:(upd (upd H1' l1 (.lst [.int (i:Nat)])) p (.lst (aH ps++[.int (i:Nat)]))) p=some (.lst (aH (ps++[i]))):=(by rw[aa,FE]; rfl);have npq:p≠q:=λz=>by
     have:=b2.hq;rw[z] at np;rw[np] at this;cases this
    generalize upd (upd H1' l1 (.lst [.int (i:Nat)])) p (.lst (aH ps++[.int (i:Nat)]))=H3 at b3 ha3 hta3 hpp;have br:=b3.reach hvm ha3 hp Q8 hall hl hq c o1 o2 hh hpp npq;have cp:=mj (n:=n) (v:=V.ref p) o1 o2 hh;show⟨_,Z,_,Z,ta,_,_,_,Z,Z,hta3,Z,d,_,Z,qa.k (k:=Sum.inl rl.1) b3.hd (aB Y),?_⟩;have hq4:(upd H3 d (.dK (putK kvs (Sum.inl rl.1) (.ref p)))) q=some (.lst (ws.map V.int)):=(ah (Nu b3.ne)).trans b3.hq;have hta4:QK K (upd H3 d (.dK (putK kvs (Sum.inl rl.1) (.ref p)))) ta [.int rl.1,.int rl.2.1,.int rl.2.2]:=by
     have hd3:=b3.hd;have ne: ∀u,H3 ta=some u->(∀kv,u≠ .dK kv)->ta≠d:=λu hu hn e=>by
      rw[e,hd3] at hu;exact hn _ (Nc hu).symm
     rcases hta3 with (h | ⟨o',h⟩) | h
     .exact .inl (.inl ((ah (ne _ h λkv z=>by cases z)).trans h))
     .exact .inl (.inr ⟨o',(ah (ne _ h λkv z=>by cases z)).trans h⟩)
     .exact .inr h
    have hws:ws.length<=1000:=Y;show⟨_,Z,.inl ⟨Z,_,QF.of hq4⟩,_,Z,ta,_,_,_,Z,Z,hta4,Z,q,_,_,Z,Z,hq4,by rw[MO]; exact aB hws,?_⟩;show⟨putK kvs (Sum.inl rl.1) (.ref p),ws++[rl.1],_,_,Z,?_,cG.mpr (.inr hmb),?_,?_⟩
    .rw[Nf] at br;exact br
    .rw[M0];change ws.length+1+_ < m;lia
    .intro j r' hj hr' hb';by_cases e:j=i
     .subst e;rw[hq] at hr';cases hr';exact cG.mpr (.inl rfl)
     .exact cG.mpr (.inr (hdn j r' Y hr' hb'))
  .rintro O' H' ⟨kvs,ws,v6,v7,rfl,b,hmb,hm',hdn⟩;show nxW _ _ _ hm' ⟨kvs,ws,_,_,_,Z,⟨b.hd,b.hq,b.sm,b.fd,b.fq,b.Q1,b.val,b.st,b.wk,λj h1 h2 _ rl hrl hb=>?_,b.cn⟩,MZ _,Y⟩;by_cases e:j=mb
   .obtain⟨i,hi,rfl⟩:=N0.mp hrl;exact hdn i _ (by rw[hX.length]; exact hi) (MQ hi) (hb.trans e)
   .exact b.cl j h1 h2 e rl hrl hb
inductive xS(K:QG)(vs:List V)(H:Hp)(Q:VK)(_E:XK):Prop|mk(r:Addr)(rs:List MA.ao)(n:Nat)(_:vs=[.int n,.ref r])(_:Rl K H r rs)(_:rs.length<=1000)(_:∀q∈rs,QO n q)(_:n<=100)(_:∀(H':Hp) (a:Addr),ag H H'->H' a=some (.lst [])->(∀q∈rs,q.2.1≠ -1->0 < q.2.2->xR rs q.1 q.2.1)->Q (.ref a) H')(_:∀(H':Hp) (a:Addr) (way:List Nat),ag H H'->H' a=some (.lst (aH way))->way.length<=200->rT rs way->Q (.ref a) H')
theorem yb (T:Txt K mg a):QS P w K mg base 2 "find_ring" ["count","rules"] (xS K):=by
 show kM T.oy jj (λ_ _ _ _ _ _=>SF λ_ _=>rfl) (λvs H Q E h=>?_) λf cdv A outer s0 H vs Q E hr h=>?_
 .obtain⟨r,rs,n,rfl,_⟩:=h;rfl
 .obtain⟨r,rs,n,rfl,⟨xs,hx,hX⟩,hrl,hk,hn,k1,k2⟩:=h;show⟨_,(ae (cm (oG rfl T.ft (QH bY)) (dM rfl (aJ (gn 2 jj.nd) (aJ (gn 3 jj.nd) cT))) (ai (aN (PW.pt (dy (dz K (ay (pM T:) hr.mm (QH eX))) (dj (aK pU (QN K eX af) af)))) (ae (QJ 4 jj.nd (ay (zB T:) hr.mm (aq bY (aq (QN K eX af) (QH (QN K eX af)))))) (ai (aN (aK eR gE bK) (ai (az (au fE (ba (QH dO)) gE))) aF))) aF))) (ai (az (ba cP)))),?_⟩;show⟨_,Z,r,Z,⟨_,hx⟩,?_⟩;show tR (xs:=xs) (λi O' H'=> ∃v2 v3 v4:Option V,O'=[some (.int n),rW r,v2,v3,v4]/\ag H H'/\ ∀(j:Nat) (q:MA.ao),j < i->rs[j]?=some q->q.2.1≠ -1->0 < q.2.2->xR rs q.1 q.2.1) ⟨none,none,none,Z,ag.refl H,λj _ hj=>absurd hj (NP _)⟩ (λi O' H' _ ⟨_,_,_,_,sm,_⟩=>sm.seq hx) ?_ ?_
  .rintro i x O' H' t hi ⟨v2,v3,v4,rfl,sm,hdn⟩ nt;obtain⟨q,hq,ta,rfl,hta⟩:=hX.get hi;obtain⟨o1,o2,o3,o4,o5⟩:=hk q (MS hq);have s1:=sm.trans (ag.upd (o:= .tup [.int (i:Nat),.ref ta]) nt);show⟨t,_,Z,QK.of aa,Z,_,_,Z,_,_,Z,Z,?_⟩;generalize upd H' t (.tup [.int (i:Nat),.ref ta])=H1 at s1;have hta1:=s1.gM hta;have nxt: ∀H2,ag H H2->(q.2.1≠ -1->0 < q.2.2->xR rs q.1 q.2.1)-> ∀v4:Option V,∃v2' v3' v4':Option V,[some (.int n),rW r,some (.int (i:Nat)),rW ta,v4]=[some (V.int n),some (V.ref r),v2',v3',v4']/\ag H H2/\ ∀(j:Nat) (q:MA.ao),j < i+1->rs[j]?=some q->q.2.1≠ -1->0 < q.2.2->xR rs q.1 q.2.1:=λH2 s2 hh v4=>⟨_,_,_,Z,s2,λj q' hj hq'=>by
    by_cases e:j=i
    .subst e;rw[hq] at hq';cases hq';exact hh
    .exact hdn j q' Y hq'⟩
   show⟨_,Z,_,q,Z,⟨ta,Z,hta1⟩,_,Z,?_⟩;ext:2;rotate_left
   .have c:q.2.1= -1:=by simpa using c
    exact aP (nxt H1 s1 (λz=>absurd c z) v4)
   have c: ¬q.2.1= -1:=(by simpa using c);show⟨_,Z,ta,_,_,_,Z,Z,hta1,Z,_,_,Z,Z,_,Z,?_⟩;show bo (λc2=>?_) (λc2=>?_);rotate_left
   .have c2:=Nr (Nl _▸c2);exact nxt H1 s1 (λ_ z=>absurd z c2) v4
   have c2:=M9 c2;show⟨_,Z,_,Z,ta,_,_,_,Z,Z,hta1,Z,_,Z,ta,_,_,_,Z,Z,hta1,Z,?_⟩;show⟨r,rs,n,q.1,q.2.1,Z,⟨xs,s1.seq hx,hX.same s1⟩,hk,hn,o1,o2,λH2 s2 hsh=>?_,λH2 a ps s2 ha hpl hp Q8=>?_⟩;.exact⟨_,Z,Z,_,Z,aP (nxt H2 (s1.trans s2) (λ_ _=>hsh) _)⟩
   .show⟨_,Z,Z,_,Z,bu ⟨_,Z,aC,λl1 nl1=>⟨_,Z,l1,a,[.int (i:Nat)],aH ps,Z,Z,aa,(ah (av ha nl1)).trans ha,?_,λp np=>?_⟩⟩⟩
    .rw[show (aH ps).length=ps.length from MO ..];change 1+ps.length<=sizeLine;exact Nw (aB Y)
    .exact k2 _ p (i::ps) (((s1.trans s2).trans (ag.upd nl1)).trans (ag.upd np)) aa (by rw[Nk]; lia) ⟨i,q,ps,Z,hq,c,c2,hp,Q8⟩
  .rintro O' H' ⟨v2,v3,v4,rfl,sm,hdn⟩;show⟨aS,λp np=>k1 _ p (sm.trans (ag.upd np)) aa λq hq=>?_⟩;obtain⟨j,hj,rfl⟩:=N0.mp hq;exact hdn j _ (by rw[hX.length]; exact hj) (MQ hj)
open MA (nG cV)
inductive y7(K:QG)(vs:List V)(H:Hp)(Q:VK)(_E:XK):Prop|mk(n:Nat)(r:Addr)(rs:List MA.ao)(L:List Int)(m:Int)(_:vs=[.int n,.ref r,.int m])(_:n<=12)(_:rs.length<=24)(_:Rl K H r rs)(_:∀q∈rs,QO n q)(_:aY n rs=some L)(_:0<=m)(_:m < n)(_:∀(p:Addr) (ps:List Nat) (H':Hp),H p=none->ag H H'->H' p=some (.lst (aH ps))->cV rs L m ps->Q (.ref p) H')
def RX (L:List Int) (q:MA.ao):Bool:= !decide (q.2.1= -1) && decide (MA.g L q.1=MA.g L q.2.1+q.2.2)
variable{L:List Int}
theorem rQ {q:MA.ao}:RX L q=true↔MA.Tl L q:=by
 unfold RX MA.Tl;simp
inductive Fg(K:QG)(vs:List V)(H:Hp)(Q:VK)(_E:XK):Prop|mk(v q w ws)(_:vs=[v,.ref w])(_:gz K H v q)(_:QF K H w (ws.map V.int))(_:QO ws.length q)(_:Q (.bl (RX ws q)) H)
theorem sO (T:Txt K mg a):QS P w K mg base 3 "hands_on" ["rule","widths"] (Fg K):=by
 show cj T.pN zg λf c A o s H vs Q E hr h=>?_;obtain⟨v,q,w,ws,rfl,⟨p,rfl,hp⟩,hw,hk,k⟩:=h;obtain⟨k1,k2,k3,k4,k5⟩:=id hk;show⟨_,(ai (az (iw (kZ (ay (pM T:) hr.mm (QH aT)) (lh (iK cw (QI K bY (QN K aT af)) (ay (yF T:) hr.mm (aq aT (QH bY))))))))),?_⟩;show⟨λv' H'=>v'= .bl (RX ws q)/\H'=H,?_,λv' H' z=>by rw[z.1,z.2]; exact k⟩;show⟨_,Z,_,q,Z,⟨p,Z,hp⟩,_,Z,?_⟩;ext:2
 .have c: ¬q.2.1= -1:=by simpa using c
  show⟨_,Z,_,Z,p,_,_,_,Z,Z,hp,Z,w,_,_,_,Z,Z,hw,bH k1 k2,_,Z,_,Z,_,q,w,ws,Z,⟨p,Z,hp⟩,hw,hk,Z,?_,Z⟩;unfold RX MA.ask;rw[MP c];simp[c]
 .have c:q.2.1= -1:=by simpa using c
  show⟨?_,Z⟩;unfold RX;simp[c]
inductive Dh(K:QG)(vs:List V)(H:Hp)(Q:VK)(_E:XK):Prop|mk(r w:Addr)(rs:List MA.ao)(L:List Int)(m:Int)(_:vs=[.ref r,.ref w,.int m])(_:Rl K H r rs)(_:QF K H w (L.map V.int))(_:∀q∈rs,QO L.length q)(_:L.length<=100)(_:0<=m)(_:m < L.length)(_:∀(d:Addr) (kvs:QX) (H':Hp),H d=none->ag H H'->H' d=some (.dK kvs)->(∀k v,aR kvs (Sum.inl k)=some v-> ∃j:Nat,v=V.int (j:Nat))->MA.iG rs L m (nD kvs)->(∀k j,nD kvs k=some j->j<=L.length)->Q (.ref d) H')
theorem uP (T:Txt K mg a):QS P w K mg base 4 "fewest_links" ["rules","widths","goal"] (Dh K):=by
 show kM T.jN e8 (λ_ _ _ _ _ _=>R9 λ_ _ _=>rfl) (λvs H Q E h=>?_) λf cdv A outer s0 H vs Q E hr h=>?_
 .obtain⟨r,w,rs,L,m,rfl,_⟩:=h;rfl
 .obtain⟨r,w,rs,L,s,rfl,⟨xs,hx,hX⟩,hw,hk,hn,hs0,hs1,k2⟩:=h;show⟨_,(ae (QJ 3 e8.nd (zY (yA dO af z7) rfl rfl (by intro z; cases z) aS)) (ae (QJ 4 e8.nd (ba (QH dO))) (ae (pQ Po (dz K gE) (ae (QJ 5 e8.nd (show PE _ _ (RH K _ _ _ _) from iE NI OP OQ tO gE (QH af))) (ai (cm (eE K aT) (gn 6 e8.nd) (ai (aN (PW.pt (dy (aK cw (QN K iF af) gT) (dy (qF (rA (dF hr) (QN K iF af) eX) (by with_unfolding_all rfl)) (dj (dz K (ay (sO T:) hr.mm (aq iF (QH bY)))))))) (ae (sf (dF hr) eX (QN K iF af) (au bE (oU (dF hr) eX gT (λ_ _=>rfl)) af) rfl) (ai (aI (ia K gE (QN K iF af))))) aF)))))) (ai (az eX))))),?_⟩;show λd nd=>⟨_,Z,aa,[(Sum.inl s,.int 0)],Z,by change 1<=15; decide,?_⟩
  show⟨_,Z,aC,λq nq=>?_⟩;have em:mw [] [(Sum.inl s,V.int 0)]=[((Sum.inl s:Key),V.int 0)]:=rfl;rw[em] at nq ⊢;have nq1:q≠d:=λz=>by rw[z,aa] at nq; cases nq
  have nq0:H q=none:=by rw[ah nq1,ah nq1] at nq; exact nq
  have v1: ∀j:Int,aR [((Sum.inl s:Key),V.int 0)] (Sum.inl j)=if j=s then some (.int 0) else none:=λj=>by
   by_cases e:j=s;.rw[MU e,e]; exact cR rfl
   .rw[MP e,cI (λz=>e (PJ z).symm)]; rfl
  have h1: ∀j:Int,has [((Sum.inl s:Key),V.int 0)] j↔j=s:=λj=>by
   unfold has;rw[v1];by_cases e:j=s <;> simp[e]
  have n1: ∀j:Int,nD [((Sum.inl s:Key),V.int 0)] j=if j=s then some 0 else none:=λj=>by
   unfold nD;rw[v1];by_cases e:j=s <;> simp[e]
  have b0:Bg H (upd (upd (upd H d (.dK [])) d (.dK [((Sum.inl s:Key),V.int 0)])) q (.lst [.int s])) L.length rs L s d q [((Sum.inl s:Key),V.int 0)] [s] (λ_=>False):=by
   show⟨(ah (Nu nq1)).trans aa,aa,?_,nd,nq0,λj hj=>?_,λj v hj=>?_,λj x hj=>?_,(by rw[n1,MU rfl]),λm hm=>(h1 m).mpr (MT.mp hm),List.pairwise_singleton ..,λk x hx w hw y hy=>?_,λj x hj hw=>absurd (MT.mpr ((h1 j).mp (yh hj))) hw,?_,λj x hj=>?_⟩;.exact ((((ag.upd nd)).eI nd).eI nq0)
   .rw[(h1 j).mp hj]; exact⟨hs0,hs1⟩
   .rw[v1] at hj;by_cases e:j=s
    .rw[MU e] at hj;cases hj;exact⟨0,Z⟩
    .rw[MP e] at hj; cases hj
   .rw[n1] at hj;by_cases e:j=s
    .rw[MU e] at hj;cases hj;rw[e];exact⟨[],.nil,Z⟩
    .rw[MP e] at hj; cases hj
   .rw[n1] at hx;split at hx;.cases hx; lia
    .cases hx
   .have:=mj (n:=L.length) (kvs:=[]) (k:=s) (v:=V.int 0) hs0 hs1 (λz=>by have z:(none:Option V).isSome=true:=z; cases z);have e:putK ([]:QX) (Sum.inl s) (V.int 0)=[((Sum.inl s:Key),V.int 0)]:=rfl;rw[e] at this;have t:lA L.length []<=L.length:=by
     have:=MA.uc (List.range L.length) (λi=>if (aR ([]:QX) (Sum.inl ((i:Nat):Int))).isSome then 0 else 1) (λ_=>1) λi _=>by change (if _ then 0 else 1)<=1; split <;> lia
     rw[MA.ones] at this;exact this
    change 1+_<=L.length;lia
   .rw[n1] at hj;split at hj;.cases hj; exact MZ _
    .cases hj
  ext:5;generalize upd (upd (upd H d (.dK [])) d (.dK [((Sum.inl s:Key),V.int 0)])) q (.lst [.int s])=H1 at b0;show⟨λm O' H'=> ∃(kvs:QX) (ws:List Int) (v5 v6:Option V),O'=[rW r,rW w,some (.int s),rW d,rW q,v5,v6]/\Bg H H' L.length rs L s d q kvs ws (λ_=>False)/\ws.length+lA L.length kvs<=m/\m<=100,⟨_,_,_,none,none,Z,b0,MZ _,Ng b0.cn hn⟩,?_⟩;rintro m O' H' ⟨kvs,ws,v5,v6,rfl,b,hm,hm100⟩;show⟨_,Z,_,.inl ⟨_,QF.of b.hq,Z⟩,?_⟩;cases ws with
  | nil=>exact aP ⟨_,Z,k2 d kvs H' b.fd b.sm b.hd b.num (b.dist λ_ z=>z) λk j hj=>by have:=b.bd k j hj; have:=b.cn; lia⟩
  | cons mb ws =>
  show bu ?_;have hmb0:has kvs mb:=b.wk mb (M7);obtain⟨d0,hmb,hv0⟩:=uC b.num hmb0;have low: ∀w∈ws,∀y,nD kvs w=some y->d0<=y:=λw hw y hy=>(Ql.mp b.srt).1 w hw d0 y hmb hy;have bnd: ∀k x,nD kvs k=some x->x<=d0+1:=λk x hx=>b.top k x hx mb M7 d0 hmb;have bp:=b.pop λ_ z=>z;show o8 λD1 nxW=>?_;show⟨_,Z,.inl ⟨Z,_,QF.of b.hq⟩,q,_,_,0,.int mb,Z,Z,b.hq,aS,aS,by unfold seqIndex?; simp,Z,?_⟩;have hm':ws.length+lA L.length kvs < m:=by
   have:(mb::ws).length=ws.length+1:=rfl;lia
  have ee:((mb::ws).map V.int).eraseIdx 0=ws.map V.int:=rfl;rw[ee];clear ee;ext:4;generalize upd H' q (.lst (ws.map V.int))=H2 at bp;clear b hm;show⟨_,Z,r,Z,⟨_,bp.sm.seq hx⟩,?_⟩;show cF (xs:=xs) (λi O' H'=> ∃(kvs:QX) (ws:List Int) (v6:Option V),O'=[rW r,rW w,some (.int s),rW d,rW q,some (.int mb),v6]/\Bg H H' L.length rs L s d q kvs ws (λk=>k=mb)/\nD kvs mb=some d0/\(∀w∈ws,∀y,nD kvs w=some y->d0<=y)/\(∀k x,nD kvs k=some x->x<=d0+1)/\ws.length+lA L.length kvs < m/\ ∀(j:Nat) (rl:MA.ao),j < i->rs[j]?=some rl->MA.Tl L rl->rl.1=mb->has kvs rl.2.1) ⟨kvs,ws,v6,Z,bp,hmb,low,bnd,hm',λj _ hj=>absurd hj (NP _)⟩ (λi O' H' _ ⟨_,_,_,_,bb,_⟩=>bW (bb.sm.seq hx)) ?_ ?_
  .clear bp hmb hm' low bnd hmb0 hv0 kvs ws;rintro i x O' H' D2 nx2 - hi ⟨kvs,ws,v6,rfl,b,hmb,low,bnd,hm',hdn⟩;obtain⟨rl,hq,ta,rfl,hta⟩:=hX.get hi;have hrk:=hk rl (MS hq);obtain⟨o1,o2,o3,o4,o5⟩:=id hrk;have hta1:=b.sm.gM hta;have skip:(MA.Tl L rl->rl.1=mb->has kvs rl.2.1)-> ∀(j:Nat) (r':MA.ao),j < i+1->rs[j]?=some r'->MA.Tl L r'->r'.1=mb->has kvs r'.2.1:=λhh j r' hj hr' ht' hb'=>by
    by_cases e:j=i
    .subst e;rw[hq] at hr';cases hr';exact hh ht' hb'
    .exact hdn j r' Y hr' ht' hb'
   show⟨_,Z,ta,_,_,_,Z,Z,hta1,Z,_,Z,Z,_,Z,?_⟩;ext:2;rotate_left
   .have c: ¬rl.1=mb:=by simpa using c
    exact aP (nx2 _ _ ⟨kvs,ws,_,Z,b,hmb,low,bnd,hm',skip λ_ z=>absurd z c⟩)
   have c:rl.1=mb:=(by simpa using c);show⟨_,Z,ta,_,_,_,Z,Z,hta1,Z,_,Z,d,_,Z,dJ.k (k:=Sum.inl rl.2.1) b.hd,_,Z,?_⟩;by_cases hh:has kvs rl.2.1
   .rw[show (!(aR kvs (Sum.inl rl.2.1)).isSome)=false from by rw[show (aR kvs (Sum.inl rl.2.1)).isSome=true from hh]; rfl];exact aP (aP (nx2 _ _ ⟨kvs,ws,_,Z,b,hmb,low,bnd,hm',skip λ_ _=>hh⟩))
   .rw[show (!(aR kvs (Sum.inl rl.2.1)).isSome)=true from by rw[show (aR kvs (Sum.inl rl.2.1)).isSome=false from by simpa [has] using hh]; rfl];show bu ⟨_,Z,_,Z,_,rl,w,L,Z,⟨ta,Z,hta1⟩,b.sm.seq hw,hrk,_,Z,?_⟩;show bo (λct=>?_) (λct=>?_);rotate_left;.exact nx2 _ _ ⟨kvs,ws,_,Z,b,hmb,low,bnd,hm',skip λz=>absurd (rQ.mpr z) ct⟩
    have ct:=rQ.mp ct;have u0:0<=rl.2.1:=(by have:=ct.1; lia);have vm:=uO b.num hmb;obtain⟨br,hmb',low',bnd'⟩:=b.reach hmb low bnd hq ct c u0 o4 hh;have cp:=mj (n:=L.length) (v:=V.int ((d0+1:Nat):Int)) u0 o4 hh;have hcn:=b.cn;show⟨_,Z,_,Z,d,.int (d0:Nat),Z,vm▸dJ.k (k:=Sum.inl mb) b.hd,_,_,Z,Z,?_⟩;show⟨_,Z,_,Z,ta,_,_,_,Z,Z,hta1,Z,d,_,Z,qa.k (k:=Sum.inl rl.2.1) b.hd (aB Y),?_⟩;have hq4:(upd H' d (.dK (putK kvs (Sum.inl rl.2.1) (.int ((d0+1:Nat):Int))))) q=some (.lst (ws.map V.int)):=(ah (Nu b.ne)).trans b.hq;have hta4:QK K (upd H' d (.dK (putK kvs (Sum.inl rl.2.1) (.int ((d0+1:Nat):Int))))) ta [.int rl.1,.int rl.2.1,.int rl.2.2]:=by
     have hd3:=b.hd;have ne: ∀u,H' ta=some u->(∀kv,u≠ .dK kv)->ta≠d:=λu hu hn e=>by
      rw[e,hd3] at hu;exact hn _ (Nc hu).symm
     rcases hta1 with (h | ⟨o',h⟩) | h
     .exact .inl (.inl ((ah (ne _ h λkv z=>by cases z)).trans h))
     .exact .inl (.inr ⟨o',(ah (ne _ h λkv z=>by cases z)).trans h⟩)
     .exact .inr h
    have hws:ws.length<=1000:=Y;show⟨_,Z,.inl ⟨Z,_,QF.of hq4⟩,_,Z,ta,_,_,_,Z,Z,hta4,Z,q,_,_,Z,Z,hq4,by rw[MO]; exact aB hws,?_⟩;show nx2 _ _ ⟨putK kvs (Sum.inl rl.2.1) (.int ((d0+1:Nat):Int)),ws++[rl.2.1],_,Z,?_,hmb',low',bnd',?_,?_⟩
    .rw[Nf] at br;exact br
    .rw[M0];change ws.length+1+_ < m;lia
    .intro j r' hj hr' ht' hb';by_cases e:j=i
     .subst e;rw[hq] at hr';cases hr';exact cG.mpr (.inl rfl)
     .exact cG.mpr (.inr (hdn j r' Y hr' ht' hb'))
  .rintro O' H' ⟨kvs,ws,v6,rfl,b,hmb,low,bnd,hm',hdn⟩;show nxW _ _ _ hm' ⟨kvs,ws,_,_,Z,⟨b.hd,b.hq,b.sm,b.fd,b.fq,b.Q1,b.num,b.ex,b.st,b.wk,b.srt,b.top,λj x h1 h2 _ rl hrl ht hb=>?_,b.cn,b.bd⟩,MZ _,Y⟩;by_cases e:j=mb
   .obtain⟨i,hi,rfl⟩:=N0.mp hrl;have:=hdn i _ (by rw[hX.length]; exact hi) (MQ hi) ht (hb.trans e);obtain⟨y,y1,_⟩:=uC b.num this;rw[e,hmb] at h1;cases h1;exact⟨y,y1,bnd _ _ y1⟩
   .exact b.cl j x h1 h2 e rl hrl ht hb
variable{p:Nat->Bool}
theorem wC {N:Nat}{t:List Nat}(h:(List.range N).filter p=i::t):i < N/\p i=true/\ ∀j,j < i->p j=false:=by
 have hm:i∈(List.range N).filter p:=by rw[h]; exact M7
 obtain⟨h1,h2⟩:=NH.mp hm;have h1:=Nh.mp h1;show⟨h1,h2,λj hj=>?_⟩;cases e:p j with
 | false=>rfl
 | true =>
  have hj':j∈(List.range N).filter p:=NH.mpr ⟨Nh.mpr (by lia),e⟩;have pw:((List.range N).filter p).Pairwise (· < ·):=List.Pairwise.filter _ List.pairwise_lt_range;rw[h] at hj' pw;rcases M3.mp hj' with z | z
  .lia
  .have:=(Ql.mp pw).1 j z;lia
theorem gC:(List.range (i+1)).filter p=(List.range i).filter p++(if p i=true then [i] else []):=by
 rw[Oh,Ov];congr 1;by_cases h:p i=true;.simp[h]
 .simp[h]
def Ra (rs:List MA.ao) (kvs:QX) (j:Nat):Nat:=(nD kvs (MA.j9 rs j)).getD 0
def jo (rs:List MA.ao) (L:List Int) (kvs:QX) (j:Nat):Bool:=match rs[j]? with
 | some q=>decide (q.2.2=MA.g L q.1) && (aR kvs (Sum.inl q.1)).isSome
 | none=>false
theorem tS {L:List Int}{kvs:QX}{q:MA.ao}(h:rs[j]?=some q):jo rs L kvs j=(decide (q.2.2=MA.g L q.1) && (aR kvs (Sum.inl q.1)).isSome):=by unfold jo; rw[h]
inductive va(K:QG)(vs:List V)(H:Hp)(Q:VK)(_E:XK):Prop|mk(r w d:Addr)(rs:List MA.ao)(L:List Int)(kvs:QX)(_:vs=[.ref r,.ref w,.ref d])(_:Rl K H r rs)(_:rs.length<=100)(_:QF K H w (L.map V.int))(_:∀q∈rs,QO L.length q)(_:H d=some (.dK kvs))(_:∀k v,aR kvs (Sum.inl k)=some v-> ∃j:Nat,v=V.int (j:Nat))(_:∃(i:Nat) (q:MA.ao) (j:Nat),rs[i]?=some q/\q.2.2=MA.g L q.1/\nD kvs q.1=some j)(_:∀(i:Nat) (H':Hp),ag H H'->MA.SX rs L (nD kvs) i->Q (.int (i:Nat)) H')
theorem kX {xs:List Nat}:aH xs++[V.int (i:Nat)]=aH (xs++[i]):=by unfold aH; rw[Nf]; rfl
variable{ps:List Nat}
theorem qX {x:V}(h:(aH ps)[i]?=some x): ∃y,ps[i]?=some y/\x= .int (y:Nat):=by
 unfold aH at h;rw[M5] at h;cases e:ps[i]? with
 | none=>rw[e] at h; cases h
 | some y=>rw[e] at h; exact⟨y,Z,(Nc h).symm⟩
theorem take_succ_get {y:Nat}(h:ps[i]?=some y):ps.take (i+1)=ps.take i++[y]:=by rw[NF,h]; rfl
theorem kh(h:bQ K H xs rs){k:Nat}{q:MA.ao}(hq:rs[k]?=some q): ∃a,QV xs (k:Nat)=some (.ref a)/\QK K H a [.int q.1,.int q.2.1,.int q.2.2]:=by
 obtain⟨v,hv,a,rfl,ha⟩:=h.at hq;exact⟨a,bz hv,ha⟩
theorem vw (T:Txt K mg a):QS P w K mg base 1 "first_place" ["rules","widths","fewest"] (va K):=by
 show kM T.lu jM (λ_ _ _ _ _ _=>R9 λ_ _ _=>rfl) (λvs H Q E h=>?_) λf cdv A outer s0 H vs Q E hr h=>?_
 .obtain⟨r,w,d,rs,L,kvs,rfl,_⟩:=h;rfl
 .obtain⟨r,w,d,rs,L,kvs,rfl,⟨xs,hx,hX⟩,hrl,hw,hk,hd,num,hex,q⟩:=h;show⟨_,(ae (Sk 3 jM.nd eP ["place","rule"] ["fewest","widths"] [2,1] (uS (K:=K) (k:=2) (fU (gu (by decide:0 < 2)) dE (fU (gu (by decide:1 < 2)) dE sv g6) (kd dE g6))) (oG rfl T.ft (QH aT)) (λC s2 H2 fp=>⟨(show PG _ _ (vJ K 2 _) from dM (n:=2) rfl (aJ (gn 0 (Q6 ["place","rule","fewest","widths"])) (aJ (gn 1 (Q6 ["place","rule","fewest","widths"])) cT))),(me (PW.pt (dy (aK cw (QN K bY af) (QI K eX (QN K bY af))) (dj (qF (Dn (dF hr) (QN K bY af) dO) (by with_unfolding_all rfl)))))),aT⟩)) (ae (QJ 4 jM.nd (bP (show du _ _ (J5 K) from DI rfl) (by rfl) T.sy boot_min (QH (iZ eP ["place"] ["fewest","rules"] [2,0] Rr (eE K eX) (λC s2 H2 fp=>⟨(gn 0 (Q6 ["place","fewest","rules"])),dR,(oU (dF hr) bY (QN K (QI K dO aT) af) (λ_ _=>rfl))⟩))))) (ai (az (QI K (iZ eP ["place"] ["nearest","fewest","rules"] [4,2,0] Rr (eE K eX) (λC s2 H2 fp=>⟨(gn 0 (Q6 ["place","nearest","fewest","rules"])),(me (aK cw (oU (dF hr) dO (QN K (QI K eX aT) af) (λ_ _=>rfl)) bY)),aT⟩)) af))))),?_⟩;show⟨_,Z,r,Z,⟨_,hx⟩,?_⟩;have xl:=hX.length;show wj (xs:=xs) (λi ys H'=>ag H H'/\ys=aH ((List.range i).filter (jo rs L kvs))) (λi ys H' h=>h.1.seq hx) ⟨ag.refl H,Z⟩ (aB Y) (λi ys H' h=>by rw[h.2]; unfold aH; rw[MO]; exact Ng (NQ _ _) (by rw[NK]; exact MZ _)) ?_ ?_
  .rintro i ys H2 x t hi ⟨sm,rfl⟩ nt;obtain⟨rl,hq,ta,rfl,hta⟩:=hX.get hi;obtain⟨o1,o2,o3,o4,o5⟩:=hk rl (MS hq);have s1:=sm.trans (ag.upd (o:= .tup [.int (i:Nat),.ref ta]) nt);show⟨t,_,Z,QK.of aa,Z,_,_,Z,_,_,Z,Z,?_⟩;generalize upd H2 t (.tup [.int (i:Nat),.ref ta])=H3 at s1;have hta1:=s1.gM hta;have hc:=tS (L:=L) (kvs:=kvs) hq;have no:jo rs L kvs i=false->ag H H3/\aH ((List.range i).filter (jo rs L kvs))=aH ((List.range (i+1)).filter (jo rs L kvs)):=λz=>⟨s1,by rw[gC,z]; simp⟩
   show⟨_,Z,ta,_,_,_,Z,Z,hta1,Z,_,Z,_,Z,ta,_,_,_,Z,Z,hta1,Z,w,_,_,_,Z,Z,s1.seq hw,bH o1 o2,Z,_,Z,?_⟩;ext:2;rotate_left
   .have c: ¬rl.2.2=MA.g L rl.1:=by simpa using c
    exact aP (no (by rw[hc]; simp[c]))
   have c:rl.2.2=MA.g L rl.1:=(by simpa using c);show⟨_,Z,ta,_,_,_,Z,Z,hta1,Z,_,Z,d,_,Z,dJ.k (k:=Sum.inl rl.1) (s1 _ _ hd),_,Z,?_⟩;show bo (λc2=>?_) (λc2=>?_)
   .show⟨_,Z,s1,?_⟩;rw[gC,MU (by rw[hc,c2]; simp[c]),kX]
   .exact no (by rw[hc]; simp[c,c2])
  .rintro ys H2 p ⟨sm,rfl⟩ np;rw[xl] at *;have s1:=sm.trans (ag.upd (o:= .lst (aH ((List.range rs.length).filter (jo rs L kvs)))) np);have hp1:(upd H2 p (.lst (aH ((List.range rs.length).filter (jo rs L kvs))))) p=some (.lst (aH ((List.range rs.length).filter (jo rs L kvs)))):=aa;ext:5;generalize upd H2 p (.lst (aH ((List.range rs.length).filter (jo rs L kvs))))=H3 at s1 hp1;obtain⟨cs,ecs⟩: ∃cs,(List.range rs.length).filter (jo rs L kvs)=cs:=⟨_,Z⟩
   rw[ecs] at hp1;have csl:cs.length<=100:=(by rw[<-ecs]; exact Ng (NQ _ _) (by rw[NK]; exact hrl));have csm: ∀j∈cs,∃ql,rs[j]?=some ql/\ql.2.2=MA.g L ql.1/\aR kvs (Sum.inl ql.1)=some (.int (Ra rs kvs j:Nat))/\nD kvs ql.1=some (Ra rs kvs j):=λj hj=>by
    rw[<-ecs] at hj;obtain⟨h1,h2⟩:=NH.mp hj;have h1:=Nh.mp h1;rw[tS (MQ h1),NG] at h2;obtain⟨y,y1,y2⟩:=uC num h2.2;have ed:Ra rs kvs j=y:=(by unfold Ra; rw[MA.jW (MQ h1),y1]; rfl);exact⟨_,MQ h1,M9 h2.1,by rw[ed]; exact y2,by rw[ed]; exact y1⟩
   have cmem: ∀(j:Nat) (ql:MA.ao) (y:Nat),rs[j]?=some ql->ql.2.2=MA.g L ql.1->nD kvs ql.1=some y->j∈cs/\Ra rs kvs j=y:=λj ql y h1 h2 h3=>by
    show⟨?_,by unfold Ra; rw[MA.jW h1,h3]; rfl⟩;rw[<-ecs];show NH.mpr ⟨Nh.mpr (MW.mp h1).1,?_⟩;rw[tS h1,Nv h2,uO num h3];rfl
   show⟨_,Z,p,Z,⟨_,QF.of hp1⟩,?_⟩;show dh (xs:=aH cs) (λi ys H'=>ag H3 H'/\ys=((cs.take i).map λj=>V.int (Ra rs kvs j:Nat))) (λi ys H' _ h=>bW (QF.of (h.1 _ _ hp1))) ⟨ag.refl H3,Z⟩ (aB (by unfold aH; rw[MO]; lia)) (λi ys H' h=>by rw[h.2,MO,Ni]; exact Ob _ _) ?_ ?_
   .rintro i ys H4 x hi ⟨sm4,rfl⟩;obtain⟨y,hy,rfl⟩:=qX hi;obtain⟨ql,hq,hq2,hq3,_⟩:=csm y (MS hy);have s4:=s1.trans sm4;obtain⟨ta,hat,hta⟩:=kh (hX.same s4) hq;dsimp only[aM,kx];show bu ⟨_,Z,_,Z,_,Z,r,_,_,_,Z,Z,s4.seq hx,hat,ta,_,_,_,Z,Z,hta,Z,d,_,Z,hq3▸dJ.k (k:=Sum.inl ql.1) (s4 _ _ hd),sm4,?_⟩;rw[take_succ_get hy,Nf];rfl
   .rintro ys H4 p4 ⟨sm4,rfl⟩ np4;rw[show (aH cs).length=cs.length from MO ..,NC] at *;have s5:=s1.trans (sm4.trans (ag.upd (o:= .lst (cs.map λj=>V.int (Ra rs kvs j:Nat))) np4));have hp5:=(sm4.trans (ag.upd (o:= .lst (cs.map λj=>V.int (Ra rs kvs j:Nat))) np4)) _ _ hp1;have h45:(upd H4 p4 (.lst (cs.map λj=>V.int (Ra rs kvs j:Nat)))) p4=some (.lst ((cs.map λj=>((Ra rs kvs j:Nat):Int)).map V.int)):=(by rw[aa,N1]; rfl);generalize upd H4 p4 (.lst (cs.map λj=>V.int (Ra rs kvs j:Nat)))=H5 at s5 hp5 h45;obtain⟨i0,q0,y0,e0,e1,e2⟩:=hex;have hne:0 < cs.length:=List.length_pos_of_mem (cmem i0 q0 y0 e0 e1 e2).1;show⟨p4,_,Z,QF.of h45,by rw[MO]; exact hne,λM hM hle=>?_⟩;obtain⟨jm,hjm,rfl⟩:=Ny.mp hM;generalize hdm:Ra rs kvs jm=dm at *;ext:4;show⟨_,Z,p,Z,⟨_,QF.of hp5⟩,?_⟩;show dh (xs:=aH cs) (λi ys H'=>ag H5 H'/\ys=aH ((cs.take i).filter λj=>decide (Ra rs kvs j=dm))) (λi ys H' _ h=>bW (QF.of (h.1 _ _ hp5))) ⟨ag.refl H5,Z⟩ (aB (by unfold aH; rw[MO]; lia)) (λi ys H' h=>by rw[h.2]; unfold aH; rw[MO]; exact Ng (NQ _ _) (by rw[Ni]; exact Ob _ _)) ?_ ?_
    .rintro i ys H6 x hi ⟨sm6,rfl⟩;obtain⟨y,hy,rfl⟩:=qX hi;obtain⟨ql,hq,hq2,hq3,_⟩:=csm y (MS hy);have s6:=s5.trans sm6;obtain⟨ta,hat,hta⟩:=kh (hX.same s6) hq;show⟨_,Z,_,Z,_,Z,r,_,_,_,Z,Z,s6.seq hx,hat,ta,_,_,_,Z,Z,hta,Z,d,_,Z,hq3▸dJ.k (k:=Sum.inl ql.1) (s6 _ _ hd),_,Z,Z,_,Z,?_⟩;ext:2
     .have c:((Ra rs kvs y:Nat):Int)=dm:=by simpa using c
      have c:Ra rs kvs y=dm:=Y;show⟨_,Z,sm6,?_⟩;rw[take_succ_get hy,Ov,kX];simp[c]
     .have c: ¬((Ra rs kvs y:Nat):Int)=dm:=by simpa using c
      have c: ¬Ra rs kvs y=dm:=Y;show⟨sm6,?_⟩;rw[take_succ_get hy,Ov];simp[c]
    .rintro ys H6 p6 ⟨sm6,rfl⟩ np6;rw[show (aH cs).length=cs.length from MO ..,NC] at *;have hin:jm∈cs.filter λj=>decide (Ra rs kvs j=dm):=NH.mpr ⟨hjm,Nv hdm⟩;cases ef:cs.filter λj=>decide (Ra rs kvs j=dm) with
     | nil=>rw[ef] at hin; cases hin
     | cons i1 tl =>
     have ef2:=ef;rw[<-ecs,List.filter_filter] at ef2;obtain⟨g1,g2,g3⟩:=wC ef2;have hi1:i1∈cs.filter λj=>decide (Ra rs kvs j=dm):=(by rw[ef]; exact M7);obtain⟨hi2,hi3⟩:=NH.mp hi1;have hi3:=M9 hi3;obtain⟨q1,w1,w2,_,w4⟩:=csm i1 hi2;show⟨p6,_,_,_,Z,Z,QF.of aa,(show QV _ ((0:Nat):Int)=_ from bz rfl),?_⟩;show q i1 _ (s5.trans (sm6.trans (ag.upd np6))) ⟨q1,dm,w1,w2,by rw[w4,hi3],λj q' y a b c=>?_,λj q' hj a b c=>?_⟩
     .obtain⟨z1,z2⟩:=cmem j q' y a b c;have:=hle _ (Ny.mpr ⟨j,z1,Z⟩);rw[z2] at this;lia
     .obtain⟨z1,z2⟩:=cmem j q' dm a b c;rw[<-ecs] at z1;have:=g3 j hj;rw[z2,(NH.mp z1).2] at this;simp at this
def iD (rs:List MA.ao) (L:List Int) (v:Int) (j:Nat):Bool:=match rs[j]? with
 | some q=>decide (q.2.1=v) && RX L q
 | none=>false
theorem tQ {L:List Int}{v:Int}{q:MA.ao}(h:rs[j]?=some q):iD rs L v j=(decide (q.2.1=v) && RX L q):=by unfold iD; rw[h]
inductive wM(K:QG)(vs:List V)(H:Hp)(Q:VK)(_E:XK):Prop|mk(r w d:Addr)(rs:List MA.ao)(L:List Int)(kvs:QX)(v:Int)(k:Nat)(_:vs=[.ref r,.ref w,.ref d,.int v])(_:Rl K H r rs)(_:rs.length<=100)(_:QF K H w (L.map V.int))(_:∀q∈rs,QO L.length q)(_:H d=some (.dK kvs))(_:∀k v,aR kvs (Sum.inl k)=some v-> ∃j:Nat,v=V.int (j:Nat))(_:nD kvs v=some (k+1))(_:∃(i:Nat) (q:MA.ao),rs[i]?=some q/\q.2.1=v/\MA.Tl L q/\nD kvs q.1=some k)(_:∀(i:Nat) (H':Hp),ag H H'->MA.Nx rs L (nD kvs) v i->Q (.int (i:Nat)) H')
theorem wO (T:Txt K mg a):QS P w K mg base 4 "next_place" ["rules","widths","fewest","member"] (wM K):=by
 show kM T.mL lD (λ_ _ _ _ _ _=>Sl λ_ _ _ _=>rfl) (λvs H Q E h=>?_) λf cdv A outer s0 H vs Q E hr h=>?_
 .obtain⟨r,w,d,rs,L,kvs,v,k,rfl,_⟩:=h;rfl
 .obtain⟨r,w,d,rs,L,kvs,v,k,rfl,⟨xs,hx,hX⟩,hrl,hw,hk,hd,num,hv,hex,q⟩:=h;show⟨_,(ae (QJ 4 lD.nd (au jD (oU (dF hr) dO eX (λ_ _=>rfl)) af)) (ae (Sk 5 lD.nd gL ["place","rule"] ["member","widths"] [3,1] (uS (K:=K) (k:=2) (fU (gu (by decide:0 < 2)) dE (fU (gu (by decide:1 < 2)) dE sv g6) (kd dE g6))) (oG rfl T.ft (QH aT)) (λC s2 H2 fp=>⟨(show PG _ _ (vJ K 2 _) from dM (n:=2) rfl (aJ (gn 0 (Q6 ["place","rule","member","widths"])) (aJ (gn 1 (Q6 ["place","rule","member","widths"])) cT))),(me (PW.pt (dy (aK cw (QN K bY af) dO) (dj (dz K (ay (sO T:) hr.mm (aq bY (QH eX)))))))),aT⟩)) (ai (az (QI K (iZ gL ["place"] ["nearer","fewest","rules"] [4,2,0] Rr (eE K gT) (λC s2 H2 fp=>⟨(gn 0 (Q6 ["place","nearer","fewest","rules"])),(me (aK cw (tJ (dF hr) dO (QN K (QI K eX aT) af) (by constructor <;> first | rfl | (intros; rfl))) bY)),aT⟩)) af))))),?_⟩;have vv:=uO num hv;show⟨_,Z,_,Z,d,.int ((k+1:Nat):Int),Z,vv▸dJ.k (k:=Sum.inl v) hd,_,_,Z,Z,?_⟩;show⟨_,Z,r,Z,⟨_,hx⟩,?_⟩;have xl:=hX.length;show wj (xs:=xs) (λi ys H'=>ag H H'/\ys=aH ((List.range i).filter (iD rs L v))) (λi ys H' h=>h.1.seq hx) ⟨ag.refl H,Z⟩ (aB Y) (λi ys H' h=>by rw[h.2]; unfold aH; rw[MO]; exact Ng (NQ _ _) (by rw[NK]; exact MZ _)) ?_ ?_
  .rintro i ys H2 x t hi ⟨sm,rfl⟩ nt;obtain⟨rl,hq,ta,rfl,hta⟩:=hX.get hi;have hrk:=hk rl (MS hq);have s1:=sm.trans (ag.upd (o:= .tup [.int (i:Nat),.ref ta]) nt);show⟨t,_,Z,QK.of aa,Z,_,_,Z,_,_,Z,Z,?_⟩;generalize upd H2 t (.tup [.int (i:Nat),.ref ta])=H3 at s1;have hta1:=s1.gM hta;have hc:=tQ (L:=L) (v:=v) hq;have no:iD rs L v i=false->ag H H3/\aH ((List.range i).filter (iD rs L v))=aH ((List.range (i+1)).filter (iD rs L v)):=λz=>⟨s1,by rw[gC,z]; simp⟩
   show⟨_,Z,ta,_,_,_,Z,Z,hta1,Z,_,Z,Z,_,Z,?_⟩;ext:2;rotate_left
   .have c: ¬rl.2.1=v:=by simpa using c
    exact aP (no (by rw[hc]; simp[c]))
   have c:rl.2.1=v:=(by simpa using c);show⟨_,Z,_,Z,_,rl,w,L,Z,⟨ta,Z,hta1⟩,s1.seq hw,hrk,_,Z,?_⟩;show bo (λc2=>?_) (λc2=>?_)
   .show⟨_,Z,s1,?_⟩;rw[gC,MU (by rw[hc,c2]; simp[c]),kX]
   .exact no (by rw[hc]; simp[c,c2])
  .rintro ys H2 p ⟨sm,rfl⟩ np;rw[xl] at *;have s1:=sm.trans (ag.upd (o:= .lst (aH ((List.range rs.length).filter (iD rs L v)))) np);have hp1:(upd H2 p (.lst (aH ((List.range rs.length).filter (iD rs L v))))) p=some (.lst (aH ((List.range rs.length).filter (iD rs L v)))):=aa;ext:5;generalize upd H2 p (.lst (aH ((List.range rs.length).filter (iD rs L v))))=H3 at s1 hp1;obtain⟨cs,ecs⟩: ∃cs,(List.range rs.length).filter (iD rs L v)=cs:=⟨_,Z⟩
   rw[ecs] at hp1;have csl:cs.length<=100:=(by rw[<-ecs]; exact Ng (NQ _ _) (by rw[NK]; exact hrl));have csm: ∀j∈cs,∃ql,rs[j]?=some ql/\ql.2.1=v/\MA.Tl L ql:=λj hj=>by
    rw[<-ecs] at hj;obtain⟨h1,h2⟩:=NH.mp hj;have h1:=Nh.mp h1;rw[tQ (MQ h1),NG] at h2;exact⟨_,MQ h1,M9 h2.1,rQ.mp h2.2⟩
   have cmem: ∀(j:Nat) (ql:MA.ao),rs[j]?=some ql->ql.2.1=v->MA.Tl L ql->iD rs L v j=true:=λj ql h1 h2 h3=>by
    rw[tQ h1,Nv h2,rQ.mpr h3];rfl
   show⟨_,Z,p,Z,⟨_,QF.of hp1⟩,?_⟩;show dh (xs:=aH cs) (λi ys H'=>ag H3 H'/\ys=aH ((cs.take i).filter λj=>decide (nD kvs (MA.j9 rs j)=some k))) (λi ys H' _ h=>bW (QF.of (h.1 _ _ hp1))) ⟨ag.refl H3,Z⟩ (aB (by unfold aH; rw[MO]; lia)) (λi ys H' h=>by rw[h.2]; unfold aH; rw[MO]; exact Ng (NQ _ _) (by rw[Ni]; exact Ob _ _)) ?_ ?_
   .rintro i ys H6 x hi ⟨sm6,rfl⟩;obtain⟨y,hy,rfl⟩:=qX hi;obtain⟨ql,hq,hq2,hq3⟩:=csm y (MS hy);have s6:=s1.trans sm6;obtain⟨ta,hat,hta⟩:=kh (hX.same s6) hq;have hd6:=s6 _ _ hd;have eo:MA.j9 rs y=ql.1:=MA.jW hq;have yes:nD kvs ql.1=some k->ag H3 H6/\aH ((cs.take i).filter λj=>decide (nD kvs (MA.j9 rs j)=some k))++[V.int (y:Nat)]=aH ((cs.take (i+1)).filter λj=>decide (nD kvs (MA.j9 rs j)=some k)):=λz=>by
     show⟨sm6,?_⟩;rw[take_succ_get hy,Ov,kX];simp[eo,z]
    have no: ¬nD kvs ql.1=some k->ag H3 H6/\aH ((cs.take i).filter λj=>decide (nD kvs (MA.j9 rs j)=some k))=aH ((cs.take (i+1)).filter λj=>decide (nD kvs (MA.j9 rs j)=some k)):=λz=>by
     show⟨sm6,?_⟩;rw[take_succ_get hy,Ov];simp[eo,z]
    show⟨_,Z,d,Z,.inl ⟨kvs,.inl hd6⟩,_,Z,_,Z,r,_,_,_,Z,Z,s6.seq hx,hat,ta,_,_,_,Z,Z,hta,Z,_,dJ.k (k:=Sum.inl ql.1) hd6,?_⟩;cases en:nD kvs ql.1 with
    | none =>
     rw[Gv num en];exact⟨_,Z,Z,_,Z,aP (no (by rw[en]; intro z; cases z))⟩
    | some y1 =>
     rw[uO num en];show⟨_,Z,Z,_,Z,?_⟩;ext:2
     .have c:((y1:Nat):Int)=((k+1:Nat):Int) - 1:=by simpa using c
      exact⟨_,Z,yes (by rw[en,show y1=k by lia])⟩
     .have c: ¬((y1:Nat):Int)=((k+1:Nat):Int) - 1:=by simpa using c
      exact no (by rw[en]; intro z; cases z; lia)
   .rintro ys H6 p6 ⟨sm6,rfl⟩ np6;rw[show (aH cs).length=cs.length from MO ..,NC] at *;obtain⟨jm,qm,m1,m2,m3,m4⟩:=hex;have hin:jm∈cs.filter λj=>decide (nD kvs (MA.j9 rs j)=some k):=NH.mpr ⟨by rw[<-ecs]; exact NH.mpr ⟨Nh.mpr (MW.mp m1).1,cmem jm qm m1 m2 m3⟩,Nv (by rw[MA.jW m1]; exact m4)⟩;cases ef:cs.filter λj=>decide (nD kvs (MA.j9 rs j)=some k) with
    | nil=>rw[ef] at hin; cases hin
    | cons i1 tl =>
    have ef2:=ef;rw[<-ecs,List.filter_filter] at ef2;obtain⟨g1,g2,g3⟩:=wC ef2;have hi1:i1∈cs.filter λj=>decide (nD kvs (MA.j9 rs j)=some k):=(by rw[ef]; exact M7);obtain⟨hi2,hi3⟩:=NH.mp hi1;have hi3:=M9 hi3;obtain⟨q1,w1,w2,w3⟩:=csm i1 hi2;rw[MA.jW w1] at hi3;show⟨p6,_,_,_,Z,Z,QF.of aa,(show QV _ ((0:Nat):Int)=_ from bz rfl),?_⟩;show q i1 _ (s1.trans (sm6.trans (ag.upd np6))) ⟨q1,k,w1,w2,w3,hv,hi3,λj q' hj a b c e=>?_⟩;have:=g3 j hj;rw[MA.jW a,e,cmem j q' a b c] at this;simp at this
theorem sU (T:Txt K mg a):QS P w K mg base 5 "chain_of" ["count","rules","member"] (y7 K):=by
 show kM T.pA kC (λ_ _ _ _ _ _=>R9 λ_ _ _=>rfl) (λvs H Q E h=>?_) λf cdv A outer s0 H vs Q E hr h=>?_
 .obtain⟨n,r,rs,L,m,rfl,_⟩:=h;rfl
 .obtain⟨n,r,rs,L,m,rfl,hn,hl,hR,hk,eL,m0,m1,q⟩:=h;have lw:=MA.uF hk eL;have ll:=lw.len;show⟨_,(ae (QJ 3 kC.nd (ay (iV T:) hr.mm (aq aT (QH bY)))) (ae (aN (aK cw (QI K eX dO) af) (ai (az (ba cP))) aF) (ae (QJ 4 kC.nd (ay (uP T:) hr.mm (aq bY (aq eX (QH dO))))) (ae (QJ 5 kC.nd (ba (QH (ay (vw T:) hr.mm (aq bY (aq eX (QH gE))))))) (ae (pQ Po (aK nK (QN K (QI K bY (QI K gT (kH iA af))) af) dO) (ai (aI (ia K gT (ay (wO T:) hr.mm (aq bY (aq eX (aq gE (QH (QN K (QI K bY (QI K gT (kH iA af))) af)))))))))) (ai (az gT))))))),?_⟩;show⟨_,Z,_,Z,n,r,rs,Z,Y,hR,hk,λH1 _ z=>(by rw[eL] at z; cases z),λw L0 H1 nw s1 e hw=>?_⟩;rw[eL] at e;cases e;show⟨_,Z,_,Z,w,_,_,_,Z,Z,QF.of hw,bH m0 (by rw[ll]; exact m1),Z,_,Z,?_⟩;ext:2
  .have c:MA.g L m=0:=by simpa using c
   exact⟨aS,λp np=>q p [] _ (s1.free np) (s1.trans (ag.upd np)) aa (.inl ⟨c,Z⟩)⟩
  have c: ¬MA.g L m=0:=by simpa using c
  have hz:0 < MA.g L m:=by have:=lw.nn m m0 m1; lia
  have hk': ∀q∈rs,QO L.length q:=by rw[ll]; exact hk
  show⟨_,Z,_,Z,_,Z,r,w,rs,L,m,Z,hR.same s1,QF.of hw,hk',Y,m0,by rw[ll]; exact m1,λd kvs H2 nd s2 hd num D dbd=>?_⟩;have s12:=s1.trans s2;have hw2:=s2 _ _ hw;show⟨_,Z,_,Z,_,Z,r,w,d,rs,L,kvs,Z,hR.same s12,Y,QF.of hw2,hk',hd,num,MA.ER lw D (MA.DX hk eL) m0 m1 hz,λi H3 s3 hf=>?_⟩;show⟨aC,λcp ncp=>?_⟩;have s3':=s3.trans (ag.upd (o:= .lst [.int (i:Nat)]) ncp);have s123:=s12.trans s3';have fcp:H cp=none:=(s12.trans s3).free ncp;have ncw:w≠cp:=av (s3 _ _ hw2) ncp;have hcp:(upd H3 cp (.lst [.int (i:Nat)])) cp=some (.lst (aH [i])):=aa;obtain⟨qi,di,hi,_⟩:=id hf;ext:5;generalize upd H3 cp (.lst [.int (i:Nat)])=H4 at s3' s123 hcp;show⟨λμ O' H'=> ∃(cs:List Nat) (il:Nat) (ql:MA.ao),O'=[some (.int n),rW r,some (.int m),rW w,rW d,rW cp]/\ag H H'/\H' w=some (.lst (L.map V.int))/\H' d=some (.dK kvs)/\H' cp=some (.lst (aH (cs++[il])))/\rs[il]?=some ql/\nD kvs ql.1=some μ/\cs.length+μ<=100/\ ∀rest,MA.Gr rs L (nD kvs) m ql.1 rest->cV rs L m (cs++il::rest),?_,?_⟩
  .obtain⟨q0,d0,a1,a2,a3,a4,a5⟩:=id hf;show⟨d0,[],i,q0,Z,s123,s3' _ _ hw2,s3' _ _ hd,hcp,a1,a3,?_,λrest hg=>MA.um lw D hz hf a1 hg⟩;have:=dbd _ _ a3;change 0+d0<=100;lia
  .rintro μ O' H' ⟨cs,il,ql,rfl,sm,hw5,hd5,hc5,hil,hμ,hle,hgood⟩;obtain⟨xs,hx,hX⟩:=hR.same sm;obtain⟨ta,hat,hta⟩:=kh hX hil;have hlast:QV (aH (cs++[il])) (-1)=some (.int (il:Nat)):=by
    unfold QV RJ aH;rw[MO,M0];simp;rw[MU Y,show (-1+((cs.length:Int)+1)).toNat=cs.length by lia];simp
   show⟨_,Z,_,Z,_,Z,cp,_,_,_,Z,Z,QF.of hc5,hlast,r,_,_,_,Z,Z,hx,hat,ta,_,_,_,Z,Z,hta,Z,_,Z,Z,_,Z,?_⟩;ext:2;rotate_left
   .have c:ql.1=m:=by simpa using c
    show⟨_,Z,q cp (cs++[il]) H' fcp sm hc5 (hgood [] (c▸ .nil))⟩
   have c: ¬ql.1=m:=(by simpa using c);obtain⟨μ',i2,q2,rfl,b1,b2,b3,b4⟩:=MA.HU D hμ c;show⟨λO' H'=> ∃m',m' < μ'+1/\ ∃(cs:List Nat) (il:Nat) (ql:MA.ao),O'=[some (.int n),rW r,some (.int m),rW w,rW d,rW cp]/\ag H H'/\H' w=some (.lst (L.map V.int))/\H' d=some (.dK kvs)/\H' cp=some (.lst (aH (cs++[il])))/\rs[il]?=some ql/\nD kvs ql.1=some m'/\cs.length+m'<=100/\ ∀rest,MA.Gr rs L (nD kvs) m ql.1 rest->cV rs L m (cs++il::rest),λ_ _ z=>z,?_⟩;show⟨_,Z,.inl ⟨Z,_,QF.of hc5⟩,_,Z,_,Z,_,Z,_,Z,_,Z,_,Z,cp,_,_,_,Z,Z,QF.of hc5,hlast,r,_,_,_,Z,Z,hx,hat,ta,_,_,_,Z,Z,hta,Z,?_⟩;show⟨r,w,d,rs,L,kvs,ql.1,μ',Z,⟨xs,hx,hX⟩,Y,QF.of hw5,hk',hd5,num,hμ,⟨i2,q2,b1,b2,b3,b4⟩,λi3 H6 s6 hnx=>?_⟩;obtain⟨q3,d3,e1,e2,e3,e4,e5,e6⟩:=id hnx;rw[hμ] at e4;cases e4;have hc6:=s6 _ _ hc5;show⟨cp,_,_,Z,Z,hc6,aB (by unfold aH; rw[MO,M0]; change cs.length+1<=1000; lia),?_⟩;have ncd:cp≠d:=λz=>by
    have:=hd5;rw[<-z,hc5] at this;cases this
   show⟨μ',Oo _,cs++[il],i3,q3,Z,(sm.trans s6).eI fcp,(ah ncw).trans (s6 _ _ hw5),(ah (Nu ncd)).trans (s6 _ _ hd5),?_,e1,e5,?_,λrest hg=>?_⟩;.rw[aa,kX]
   .rw[M0]; change cs.length+1+μ'<=100; lia
   .have:=hgood (i3::rest) (.cons hnx e1 hg);rw[NY];exact this
inductive FC(K:QG)(vs:List V)(H:Hp)(Q:VK)(_E:XK):Prop|mk(x:Int)(c:Option Int)(_:vs=[.int x,dA c])(_:Q (.bl (MA.over x c)) H)
theorem yc (T:Txt K mg a):QS P w K mg base 1 "above" ["width","top"] (FC K):=by
 show cj T.u6 Fn λf c A o s H vs Q E hr h=>?_;obtain⟨x,c,rfl,q⟩:=h;show⟨_,(ai (az (iw (kZ (iK eR bY bK) (lh (iK pU aT bY)))))),?_⟩;show⟨λv' H'=>v'= .bl (MA.over x c)/\H'=H,?_,λv' H' z=>by rw[z.1,z.2]; exact q⟩;show⟨_,Z,Z,_,Z,?_⟩;cases c with
 | none=>exact⟨Z,Z⟩
 | some c=>exact⟨_,Z,_,Z,_,_,Z,Z,Z,Z⟩
def L7:Option Nat->V
 | none=> .non
 | some i=> .int (i:Nat)
inductive wI(K:QG)(vs:List V)(H:Hp)(Q:VK)(_E:XK):Prop|mk(p:Addr)(ws:List Int)(c:Addr)(cs:List (Option Int))(_:vs=[.ref p,.ref c])(_:QF K H p (ws.map V.int))(_:QF K H c (cs.map dA))(_:cs.length=ws.length)(_:ws.length<=12)(_:∀H',ag H H'->Q (L7 (MA.b9 ws cs)) H')
theorem qu (T:Txt K mg a):QS P w K mg base 2 "first_wide" ["widths","tops"] (wI K):=by
 show cj T.mX lj λf c A o s H vs Q E hr h=>?_;obtain⟨p,ws,c,cs,rfl,hp,hc,hcl,hwl,q⟩:=h;show⟨_,(ae (cm (oG rfl T.ft (QH aT)) (dM rfl (aJ (gn 2 lj.nd) (aJ (gn 3 lj.nd) cT))) (ai (aN (dz K (ay (yc T:) hr.mm (aq eX (QH (QI K bY dO))))) (ai (az dO)) aF))) (ai (az bK))),?_⟩;show⟨_,Z,p,Z,⟨_,hp⟩,?_⟩;show tR (xs:=ws.map V.int) (λi O' H'=> ∃v2 v3:Option V,O'=[rW p,rW c,v2,v3]/\ag H H'/\ ∀j,j < i->MA.over (MA.g ws (j:Nat)) (cs.getD j none)=false) ⟨none,none,Z,ag.refl H,λj hj=>absurd hj (NP _)⟩ (λi O' H' _ ⟨_,_,_,sm,_⟩=>sm.seq hp) ?_ ?_
 .rintro i x O' H' t hi ⟨v2,v3,rfl,sm,hdn⟩ nt;have s1:=sm.trans (ag.upd (o:= .tup [.int (i:Nat),x]) nt);obtain⟨hin,rfl⟩:i < ws.length/\x= .int (MA.g ws (i:Nat)):=by
   rw[M5] at hi;cases e:ws[i]? with
   | none=>rw[e] at hi; cases hi
   | some y =>
    rw[e] at hi;obtain⟨hl,rfl⟩:=MW.mp e;show⟨hl,?_⟩;rw[show MA.g ws (i:Nat)=ws[i] from by unfold MA.g; rw[M6,MX,e]; rfl];exact (Nc hi).symm
  show⟨t,_,Z,QK.of aa,Z,_,_,Z,_,_,Z,Z,?_⟩;generalize upd H' t (.tup [.int (i:Nat),.int (MA.g ws (i:Nat))])=H1 at s1;show⟨_,Z,_,Z,_,Z,c,_,_,_,Z,Z,s1.seq hc,uH (cs:=cs) (k:=i) Y,?_⟩;show⟨_,_,Z,_,Z,?_⟩;show bo (λz=>?_) (λz=>?_)
  .have hw:MA.b9 ws cs=some i:=MA.ug hin z hdn;rw[hw] at q;exact⟨_,Z,q _ s1⟩
  .show⟨_,_,Z,s1,λj hj=>?_⟩;by_cases e:j=i;.rw[e]; exact Nl _▸z
   .exact hdn j Y
 .rintro O' H' ⟨v2,v3,rfl,sm,hdn⟩;rw[MO] at hdn;rw[MA.uR hdn] at q;exact q _ sm
inductive y4(K:QG)(vs:List V)(H:Hp)(Q:VK)(_E:XK):Prop|mk(n:Nat)(r:Addr)(rs:List MA.ao)(L:List Int)(c:Addr)(cs:List (Option Int))(m:Int):vs=[.int n,.ref r,.ref c,.int m]->n<=12->rs.length<=24->cJ K H r rs->(∀q∈rs,QO n q)->aY n rs=some L->QF K H c (cs.map dA)->cs.length=n->MA.Within n L cs->(∀(v:Nat) (k:Int),cs.getD v none=some k->k<=99999)->0<=m->m < n->(∀H',ag H H'->MA.gW n rs L cs m none->Q .non H')->(∀(t:Addr) (s:Int) (stop:Nat) (H':Hp),ag H H'->H' t=some (.tup [.int s,.int (stop:Nat)])->MA.gW n rs L cs m (some (s,stop))->Q (.ref t) H')->y4 K vs H Q _E
inductive Cp(K:QG)(vs:List V)(H:Hp)(Q:VK)(_E:XK):Prop|mk(x:Int)(c:Option Int)(_:vs=[.int x,dA c])(_:Q (.int (MA.RI x c)) H)
theorem Ct (T:Txt K mg a):QS P w K mg base 2 "excess" ["width","top"] (Cp K):=by
 show cj T.tL Co λf c A o s H vs Q E hr h=>?_;obtain⟨x,c,rfl,q⟩:=h;show⟨_,(ai (az (iw (x9 (dz K (ay (yc T:) hr.mm (aq aT (QH bY)))) (au jD aT bY) af)))),?_⟩;show⟨λv' H'=>v'= .int (MA.RI x c)/\H'=H,?_,λv' H' z=>by rw[z.1,z.2]; exact q⟩;show⟨_,Z,_,Z,x,c,Z,_,Z,?_⟩;cases c with
 | none=>exact aP ⟨Z,Z⟩
 | some c =>
  show bo (λz=>?_) (λz=>?_)
  .have z:c < x:=M9 z;show⟨_,Z,_,Z,_,_,Z,Z,?_,Z⟩;change _=V.int (if c < x then x - c else 0);rw[MU z]
  .have z: ¬c < x:=Nr (Nl _▸z);show⟨?_,Z⟩;change _=V.int (if c < x then x - c else 0);rw[MP z]
variable{cs:List (Option Int)}
theorem z6 {x:V}(h:(cs.map dA)[i]?=some x):x=dA (cs.getD i none):=by
 rw[M5] at h;rw[MX];cases e:cs[i]? with
 | none=>rw[e] at h; cases h
 | some y=>rw[e] at h; exact (Nc h).symm
theorem GK {x:V}(h:(ws.map V.int)[i]?=some x):i < ws.length/\x= .int (MA.g ws (i:Nat)):=by
 rw[M5] at h;cases e:ws[i]? with
 | none=>rw[e] at h; cases h
 | some y =>
  rw[e] at h;obtain⟨hl,rfl⟩:=MW.mp e;show⟨hl,?_⟩;rw[show MA.g ws (i:Nat)=ws[i] from by unfold MA.g; rw[M6,MX,e]; rfl];exact (Nc h).symm
theorem EW {es:List Int}{M:Int}(h:M∈es): ∃j:Nat,es[j]?=some M/\ ∀v,v < j->es[v]?≠some M:=by
 induction es with
 | nil=>cases h
 | cons a es ih =>
  by_cases e:a=M
  .subst e;exact⟨0,Z,λv hv=>absurd hv (NP _)⟩
  .obtain⟨j,h1,h2⟩:=ih ((M3.mp h).resolve_left λz=>e z.symm);show⟨j+1,h1,λv hv=>?_⟩;cases v with
   | zero=>intro z; exact e (Nc z)
   | succ v=>exact h2 v Y
theorem zz (T:Txt K mg a):QS P w K mg base 5 "slack_of" ["count","rules","tops","member"] (y4 K):=by
 show kM T.qg gh (λ_ _ _ _ _ _=>Sl λ_ _ _ _=>rfl) (λvs H Q E h=>?_) λf cdv A outer s0 H vs Q E hr h=>?_
 .obtain⟨n,r,rs,L,c,cs,m,rfl,_⟩:=h;rfl
 .obtain⟨n,r,rs,L,c,cs,m,rfl,hn,hl,hR,hk,eL,hc,cl,hW,_,m0,m1,k1,k2⟩:=h;obtain⟨l1,l2,l3,l4⟩:=MA.bX hk eL;show⟨_,(ae (QJ 4 gh.nd (ay (iV T:) hr.mm (aq aT (QH bY)))) (eh (QJ 5 gh.nd (au bE (show PE _ _ (Gf K _ _) from GQ rfl rfl T.lW (iZ jz ["top"] [] [] Rr (eE K dO) (λC s2 H2 fp=>⟨(gn 0 (Q6 ["top"])),(me (aK eR aT bK)),aT⟩)) af) af)) (ae (QJ 6 gh.nd (ay (iV T:) hr.mm (aq aT (QH (au fE bY (ba (QH (bR (aq eX (aq (j8 T.kR) (QH (au bE (QI K gE eX) gT)))))))))))) (ae (Sk 7 gh.nd jz ["width","top"] [] [] (uS (K:=K) (k:=2) (fU (gu (by decide:0 < 2)) dE (fU (gu (by decide:1 < 2)) dE sv g6) (kd dE g6))) (IT rfl T.BA (aq iF (QH dO))) (λC s2 H2 fp=>⟨(show PG _ _ (vJ K 2 _) from dM (n:=2) rfl (aJ (gn 0 (Q6 ["width","top"])) (aJ (gn 1 (Q6 ["width","top"])) cT))),dR,(ay (Ct T:) hr.mm (aq aT (QH bY)))⟩)) (ae (QJ 8 gh.nd (bP (show du _ _ (JE K) from Cb rfl) (by rfl) T.lW boot_max (QH iN))) (ae (aN (aK cw iS af) (ai (az bK)) aF) (ai (az (bR (aq (au jD gT iS) (QH (show PE _ _ (RH K _ _ _ _) from iE NI N5 N6 x4 iN (QH iS))))))))))))),?_⟩;show⟨_,Z,_,Z,n,r,rs,Z,Y,hR.RD,hk,λH1 _ z=>(by rw[eL] at z; cases z),λw L0 H1 nw s1 e hw=>?_⟩;rw[eL] at e;cases e;have cap0: ∀(v:Nat) (k:Int),cs.getD v none=some k->k∈cs.filterMap id:=λv k e=>by
   show O4.mpr ⟨some k,?_,Z⟩;rw[MX] at e;cases e2:cs[v]? with
   | none=>rw[e2] at e; cases e
   | some y=>rw[e2] at e; cases (show y=some k from e); exact MS e2
  have nn: ∀k∈cs.filterMap id,0<=k:=λk hk'=>by
   obtain⟨y,y1,y2⟩:=O4.mp hk';cases (show y=some k from y2);obtain⟨v,hv,e⟩:=N0.mp y1;have:=hW v k Y (by rw[MX,MQ hv,e]; rfl);have:=l3 (v:Nat) Y Y;lia
  show⟨λO' H'=> ∃x:Int,0<=x/\(∀k∈cs.filterMap id,k<=x)/\O'=[some (.int n),rW r,rW c,some (.int m),rW w,some (.int (x+1)),none,none,none]/\ag H H'/\H' w=some (.lst (L.map V.int)),?_,?_⟩
  .show⟨_,Z,c,Z,⟨_,s1.seq hc⟩,?_⟩;show dh (xs:=cs.map dA) (λi ys H'=>ag H1 H'/\ys=(((cs.take i).filterMap id).map V.int)) (λi ys H' _ h=>bW (h.1.seq (s1.seq hc))) ⟨ag.refl H1,Z⟩ (aB (by rw[MO]; lia)) (λi ys H' h=>by rw[h.2,MO]; exact Ng (List.length_filterMap_le _ _) (by rw[Ni]; exact Ob _ _)) ?_ ?_
   .rintro i ys H2 x hi ⟨sm,rfl⟩;have hil:i < cs.length:=(by have:=(MW.mp hi).1; rwa [MO] at this);obtain rfl:=z6 hi;have tk:cs.take (i+1)=cs.take i++[cs.getD i none]:=by
     rw[NF,MX,MQ hil];rfl
    show⟨_,Z,Z,_,Z,?_⟩;rw[tk,List.filterMap_append,Nf];cases e:cs.getD i none with
    | none=>exact aP ⟨sm,by simp⟩
    | some c0=>exact bu ⟨_,Z,sm,by simp[dA]⟩
   .rintro ys H2 p ⟨sm,rfl⟩ np;rw[MO,NC] at *;have s2:=s1.trans (sm.trans (ag.upd (o:= .lst ((cs.filterMap id).map V.int)) np));have hw2:=(sm.trans (ag.upd (o:= .lst ((cs.filterMap id).map V.int)) np)) _ _ hw;have hp2:(upd H2 p (.lst ((cs.filterMap id).map V.int))) p=some (.lst ((cs.filterMap id).map V.int)):=aa;generalize upd H2 p (.lst ((cs.filterMap id).map V.int))=H3 at s2 hw2 hp2;exact⟨p,cs.filterMap id,Z,QF.of hp2,0,Z,QF.of hp2,λz=>⟨_,_,Z,Z,0,Np _,(λk hk'=>by rw[z] at hk'; cases hk'),Z,s2,hw2⟩,λM hM hle=>⟨_,_,Z,Z,M,nn M hM,hle,Z,s2,hw2⟩⟩
  rintro O' H3 ⟨x,x0,hx,rfl,s2,hw2⟩;have hx': ∀(v:Nat) (k:Int),cs.getD v none=some k->k < x+1:=λv k e=>by have:=hx k (cap0 v k e); lia
  obtain⟨hk',W,eW,wl,wv⟩:=MA.Bx hk eL m0 m1 (show 0<=x+1 by lia);obtain⟨xs,hxs,hX⟩:=hR.same s2;have xl:=hX.length;show⟨_,Z,_,Z,_,Z,_,Z,_,Z,w,_,_,_,Z,Z,QF.of hw2,bH m0 (by rw[l1]; exact m1),_,Z,_,_,Z,Z,aC,λt nt=>⟨aC,λl nl=>?_⟩⟩;have st:=ag.upd (o:= .tup [.int m,.int (-1),.int (MA.g L m+(x+1))]) nt;have sl:=ag.upd (o:= .lst [.ref t]) nl;have hl1:(upd (upd H3 t (.tup [.int m,.int (-1),.int (MA.g L m+(x+1))])) l (.lst [.ref t])) l=some (.lst [.ref t]):=aa;have ht1:=sl _ _ (aa (H:=H3) (a:=t) (o:= .tup [.int m,.int (-1),.int (MA.g L m+(x+1))]));show⟨r,l,_,_,Z,Z,(st.trans sl) _ _ hxs,hl1,by rw[xl]; exact Nw (aB (by change rs.length+1<=1000; lia)),λr3 nr3=>?_⟩;have sr:=ag.upd (o:= .lst (xs++[.ref t])) nr3;have s4:=(st.trans sl).trans sr;have ht4:=sr _ _ ht1;have hr4:(upd (upd (upd H3 t (.tup [.int m,.int (-1),.int (MA.g L m+(x+1))])) l (.lst [.ref t])) r3 (.lst (xs++[.ref t]))) r3=some (.lst (xs++[.ref t])):=aa;generalize upd (upd (upd H3 t (.tup [.int m,.int (-1),.int (MA.g L m+(x+1))])) l (.lst [.ref t])) r3 (.lst (xs++[.ref t]))=H4 at s4 ht4 hr4;have hX4:bQ K H4 (xs++[.ref t]) (rs++[(m,-1,MA.g L m+(x+1))]):=(hX.same s4).append (.cons ⟨t,Z,QK.of ht4⟩ .nil);show⟨n,r3,_,Z,Y,⟨_,QF.of hr4,hX4⟩,hk',λH5 _ z=>(by rw[eW] at z; cases z),λw2 L0 H5 nw2 s5 e hw5=>?_⟩;rw[eW] at e;cases e;have s25:=(s2.trans s4).trans s5;have hc5:=s25.seq hc;show⟨_,Z,_,Z,w2,c,Z,⟨_,QF.of hw5⟩,⟨_,hc5⟩,?_⟩;show FQ (xs:=W.map V.int) (zs:=cs.map dA) (λi ys H'=>ag H5 H'/\ys=((List.range i).map λv=>MA.RI (MA.g W (v:Nat)) (cs.getD v none)).map V.int) (λi ys H' h=>⟨QF.of (h.1 _ _ hw5),h.1.seq hc5⟩) (by rw[MO,MO]; lia) ⟨ag.refl H5,Z⟩ (aB (by rw[MO]; lia)) (λi ys H' h=>by rw[h.2,MO,MO,NK]; exact MZ _) ?_ ?_
  .rintro i ys H6 y z t6 hy hz ⟨sm,rfl⟩ nt6;obtain⟨hil,rfl⟩:=GK hy;obtain rfl:=z6 hz;have s7:=sm.trans (ag.upd (o:= .tup [.int (MA.g W (i:Nat)),dA (cs.getD i none)]) nt6);show⟨t6,_,Z,QK.of aa,Z,_,_,Z,_,_,Z,Z,?_⟩;dsimp only[kx];show bu ⟨_,Z,_,Z,_,_,Z,s7,?_⟩;rw[Oh,Nf,Nf];rfl
  .rintro ys H6 p6 ⟨sm,rfl⟩ np6;rw[MO,wl] at *;generalize hes:((List.range n).map λv=>MA.RI (MA.g W (v:Nat)) (cs.getD v none))=es at *;have esl:es.length=n:=(by rw[<-hes,MO,NK]);have esg: ∀v:Nat,v < n->es[v]?=some (MA.RI (MA.g W (v:Nat)) (cs.getD v none)):=λv hv=>by rw[<-hes,M5,Pk hv]; rfl
   have s7:=s25.trans (sm.trans (ag.upd (o:= .lst (es.map V.int)) np6));have hp7:(upd H6 p6 (.lst (es.map V.int))) p6=some (.lst (es.map V.int)):=aa;ext:4;generalize upd H6 p6 (.lst (es.map V.int))=H7 at s7 hp7;show⟨_,Z,p6,es,Z,QF.of hp7,Y,λM hM hle=>?_⟩;have cal:=MA.Au hk eL m0 m1 hW hx' wv (M:=M) λv hv=>hle _ (MS (esg v hv));show⟨_,Z,Z,_,Z,?_⟩;show bo (λz=>?_) (λz=>?_)
   .have z:M=0:=by simpa using z
    exact k1 _ s7 (cal.1 z)
   .have z: ¬M=0:=by simpa using z
    obtain⟨j,hj,hjm⟩:=EW hM;have hjn:j < n:=(by rw[<-esl]; exact (MW.mp hj).1);show⟨_,Z,_,Z,_,_,Z,Z,_,Z,.inl ⟨Z,_,QF.of hp7⟩,_,Z,p6,es,M,j,Z,Z,hp7,hj,hjm,aC,λt8 nt8=>?_⟩;show k2 t8 (x+1 - M) j _ (s7.trans (ag.upd nt8)) aa (cal.2 j hjn ?_ (λv hv e=>?_) z);.rw[esg j hjn] at hj; exact Nc hj
    .exact hjm v hv (by rw[esg v Y,e])
inductive BD(K:QG)(vs:List V)(H:Hp)(Q:VK)(_E:XK):Prop|mk(n:Nat)(r:Addr)(rs:List MA.ao)(L L':List Int)(k:Nat)(_:vs=[.int n,.ref r,.int k])(_:n<=12)(_:rs.length<=24)(_:Rl K H r rs)(_:∀q∈rs,QO n q)(_:aY n rs=some L)(_:k < rs.length)(_:aY n (rs.take k++rs.drop (k+1))=some L')(_:∀H',ag H H'->Q (.int (L.sum - L'.sum)) H')
theorem Ar (T:Txt K mg a):QS P w K mg base 5 "cost_of" ["count","rules","place"] (BD K):=by
 show cj T.qU uf λf c A o s H vs Q E hr h=>?_;obtain⟨n,r,rs,L,L',k,rfl,hn,hl,hR,hk,eL,hkl,eL',q⟩:=h;show⟨_,(ae (QJ 3 uf.nd (au fE (cK (RA K) bY dS (cM dO)) (cK (RA K) bY (cM (au bE dO af)) dS))) (ai (az (au jD (bP (show du _ _ (xW K) from pV rfl) (by rfl) T.r6 boot_sum (QH (ay (iV T:) hr.mm (aq aT (QH bY))))) (bP (show du _ _ (xW K) from pV rfl) (by rfl) T.r6 boot_sum (QH (ay (iV T:) hr.mm (aq aT (QH eX))))))))),?_⟩;obtain⟨xs,hx,hX⟩:=id hR;have hxl:=hX.length;show⟨_,Z,_,Z,_,Z,r,xs,Z,hx,λc1 nc1=>?_⟩;rw[oS];show⟨_,Z,_,Z,_,_,Z,Z,_,Z,r,xs,Z,(ag.upd nc1).seq hx,λc2 nc2=>?_⟩;rw[show (((k:Nat):Int)+1)=((k+1:Nat):Int) by lia,pZ];show⟨c1,c2,_,_,Z,Z,ag.upd nc2 _ _ aa,aa,by rw[Ni,NR]; exact Nw (aB Y),λc3 nc3=>?_⟩;have s4:=((ag.upd (o:= .lst (xs.take k)) nc1).trans (ag.upd (o:= .lst (xs.drop (k+1))) nc2)).trans (ag.upd (o:= .lst (xs.take k++xs.drop (k+1))) nc3);have hX4:bQ K _ (xs.take k++xs.drop (k+1)) (rs.take k++rs.drop (k+1)):=(hX.same s4 |>.take k).append (hX.same s4 |>.drop (k+1));have h3:(upd (upd (upd H c1 (.lst (xs.take k))) c2 (.lst (xs.drop (k+1)))) c3 (.lst (xs.take k++xs.drop (k+1)))) c3=some (.lst (xs.take k++xs.drop (k+1))):=aa;ext:5;generalize upd (upd (upd H c1 (.lst (xs.take k))) c2 (.lst (xs.drop (k+1)))) c3 (.lst (xs.take k++xs.drop (k+1)))=H4 at s4 hX4 h3;have hsub: ∀q∈rs.take k++rs.drop (k+1),q∈rs:=λq hq=>by
  rcases M8.mp hq with hq | hq
  .exact Of hq
  .exact OA hq
 show⟨_,Z,_,Z,n,r,rs,Z,Y,hR.same s4,hk,λH5 _ z=>(by rw[eL] at z; cases z),λp L0 H5 np s5 e hp=>?_⟩;rw[eL] at e;cases e;show⟨p,L,Z,QF.of hp,?_⟩;show⟨_,Z,_,Z,n,c3,_,Z,Y,⟨_,QF.of (s5 _ _ h3),hX4.same s5⟩,λq hq=>hk q (hsub q hq),λH6 _ z=>(by rw[eL'] at z; cases z),λp2 L0 H6 np2 s6 e hp2=>?_⟩;rw[eL'] at e;cases e;exact⟨p2,L',Z,QF.of hp2,_,_,Z,Z,q _ ((s4.trans s5).trans s6)⟩
inductive wN(K:QG)(vs:List V)(H:Hp)(Q:VK)(_E:XK):Prop|mk(n:Nat)(r p:Addr)(rs:List MA.ao)(L:List Int)(m:Int):vs=[.int n,.ref r,.ref p,.int m]->n<=12->rs.length<=24->Rl K H r rs->(∀q∈rs,QO n q)->QF K H p (L.map V.int)->aY n rs=some L->0<=m->m < n->(∀(t:Addr) (ps:List Nat) (H':Hp),H t=none->ag H H'->H' t=some (.lst (aH ps))->MA.cV rs L m ps->Q (.ref t) H')->wN K vs H Q _E
variable{lv:List Int}
theorem Ha {q:MA.ao}:(MA.Q7 L lv q).length=lv.length:=by
 unfold MA.Q7;split;.exact MA.gq
 .rfl
theorem vM: ∀(rs:List MA.ao) (lv:List Int),(rs.foldl (MA.Q7 L) lv).length=lv.length
 | [],_=>rfl
 | q::rs,lv=>(vM rs (MA.Q7 L lv q)).trans Ha
theorem Aj: ∀k,(MA.Rt L rs lv k).length=lv.length
 | 0=>rfl
 | k+1=>(vM rs _).trans (Aj k)
def fG (L:List Int) (at':Int) (q:MA.ao):Prop:=if at' < 0 then MA.g L q.1=q.2.2 else q.2.1=at'/\MA.g L q.1=MA.g L q.2.1+q.2.2
instance (L:List Int) (v:Int) (q:MA.ao):Decidable (fG L v q):=by unfold fG; infer_instance
theorem Dr:aH ps++[V.int (i:Nat)]=aH (ps++[i]):=by
 unfold aH;rw[Nf];rfl
theorem wL (T:Txt K mg a):QS P w K mg base 1 "_law_first_chain" ["_law_count","_law_rules_here","_law_widths","_law_member"] (wN K):=by
 show cj T.ic aO λf c A o s H vs Q E hr h=>?_;obtain⟨n,r,p,rs,L,m,rfl,hn,hrl,hR,hk,hp,eL,m0,m1,q⟩:=h;obtain⟨xs,hx,hX⟩:=hR;have lw:=MA.uF hk eL;have ll:=lw.len;show⟨_,(ae (QJ 4 aO.nd (au oF (ba (QH af)) aT)) (ae (dY af (iu gE eX set_list)) (eh (cm (dq T.bh aT) (gn 5 aO.nd) (ai (cm (eE K bY) (dM rfl (aJ (gn 6 aO.nd) (aJ (gn 7 aO.nd) (aJ (gn 8 aO.nd) cT)))) (ai (aN (PW.pt (dy (aK pF iN af) (dj (aK cw (QI K dO iF) (au bE (QI K dO iN) iS))))) (ai (dY (bP (qY rfl) (by rfl) T.sy boot_min (aq (QI K gE iN) (QH (au bE (QI K gE iF) af)))) (iu gE iN set_list))) aF))))) (ae (QJ 9 aO.nd (ba cP)) (ae (QJ 10 aO.nd (kH iA af)) (ae (pQ Po (PW.pt (dy (aK pU (QI K dO eX) af) (dj (aK nK lT eX)))) (ae (QJ 11 aO.nd (kH iA af)) (ae (cm (dq T.bh (cA K T.bT bY)) (gn 12 aO.nd) (ae (dY (QI K bY (pv 12)) (dM rfl (aJ (gn 6 aO.nd) (aJ (gn 7 aO.nd) (aJ (gn 8 aO.nd) cT))))) (eh (aN (aK kG lT af) (ai (QJ 13 aO.nd (iw (kZ (iK cw (QI K dO iF) iS) (lh (iw (K3 (iK kG iN af) (lh (iK cw (QI K dO iN) af))))))))) (ai (QJ 13 aO.nd (iw (kZ (iK cw iN lT) (lh (iK cw (QI K dO iF) (au bE (QI K dO iN) iS)))))))) (ai (aN (PW.pt (dy (dz K (pv 13)) (dj (PW.pt (g8 (aK kG (pv 11) af) (f9 (aK kG (QI K gE iF) (QI K gE (QN K (QI K bY (pv 11)) af))))))))) (ai (QJ 11 aO.nd (pv 12))) aF))))) (ae (aI (ia K lE (pv 11))) (ai (QJ 10 aO.nd (QN K (QI K bY (pv 11)) af))))))) (ai (az lE)))))))),?_⟩;have hrep:1*(n:Int).toNat<=sizeLine:=by rw[M6,QD]; exact Nw (aB Y)
 show⟨aC,λl0 n0=>⟨_,Z,l0,_,_,Z,Z,aa,Y,Y,hrep,λl nl=>?_⟩⟩;have s1:=(ag.upd (o:= .lst [.int 99]) n0).trans (ag.upd (o:= .lst (List.replicate (n:Int).toNat [V.int 99]).flatten) nl);have hl1:(upd (upd H l0 (.lst [.int 99])) l (.lst (List.replicate (n:Int).toNat [V.int 99]).flatten)) l=some (.lst ((List.replicate n (99:Int)).map V.int)):=by
  rw[aa,M6];simp
 have nlH:H l=none:=(ag.upd n0).free nl;ext:5;generalize upd (upd H l0 (.lst [.int 99])) l (.lst (List.replicate (n:Int).toNat [V.int 99]).flatten)=H1 at s1 hl1;clear n0 nl;show⟨_,Z,_,Z,l,_,_,_,Z,Z,hl1,by rw[MO,NX]; exact iz m0 m1,?_⟩;have hl2:(upd H1 l (.lst (((List.replicate n (99:Int)).map V.int).set m.toNat (.int 0)))) l=some (.lst ((MA.Rt L rs (MA.put (List.replicate n 99) m 0) 0).map V.int)):=by
  rw[aa,<-Ol];rfl
 have s2:ag H (upd H1 l (.lst (((List.replicate n (99:Int)).map V.int).set m.toNat (.int 0)))):=s1.eI nlH;generalize upd H1 l (.lst (((List.replicate n (99:Int)).map V.int).set m.toNat (.int 0)))=H2 at s2 hl2;have flen: ∀i,(MA.Rt L rs (MA.put (List.replicate n 99) m 0) i).length=n:=λi=>(Aj i).trans (MA.gq.trans (NX ..));obtain⟨Md,mkM,unM⟩:=LO λO' H'=> ∃v5 v6 v7 v8:Option V,O'=[some (.int n),rW r,rW p,some (.int m),rW l,v5,v6,v7,v8,none,none,none,none,none]/\ag H H'/\H' l=some (.lst ((MA.Rt L rs (MA.put (List.replicate n 99) m 0) n).map V.int));show⟨Md,?_,?_⟩;ext:7;obtain⟨Pv,mk,un⟩:=Sy λi O' H'=> ∃v5 v6 v7 v8:Option V,O'=[some (.int n),rW r,rW p,some (.int m),rW l,v5,v6,v7,v8,none,none,none,none,none]/\ag H H'/\H' l=some (.lst ((MA.Rt L rs (MA.put (List.replicate n 99) m 0) i).map V.int));show cF (xs:=bg 0 n) Pv (mk _ _ _ ⟨none,none,none,none,Z,s2,hl2⟩) (λi O' H' _ _=>bt) ?_ ?_
 .clear hl1 s1 hl2 s2;rintro i x O' H' D1 nx1 _ hi hp1;obtain⟨v5,v6,v7,v8,rfl,sm,hl⟩:=un _ _ _ hp1;show⟨_,Z,r,Z,⟨_,sm.seq hx⟩,?_⟩;obtain⟨Pw,mk2,un2⟩:=Sy λj O' H'=> ∃v6 v7 v8:Option V,O'=[some (.int n),rW r,rW p,some (.int m),rW l,some x,v6,v7,v8,none,none,none,none,none]/\ag H H'/\H' l=some (.lst (((rs.take j).foldl (MA.Q7 L) (MA.Rt L rs (MA.put (List.replicate n 99) m 0) i)).map V.int));show cF (xs:=xs) Pw (mk2 _ _ _ ⟨v6,v7,v8,Z,sm,hl⟩) (λj O' H' _ h=>by obtain⟨_,_,_,_,sm,_⟩:=un2 _ _ _ h; exact bW (sm.seq hx)) ?_ ?_
  .clear sm hl hp1;rintro j y O' H' D2 nx2 _ hj hp2;obtain⟨v6,v7,v8,rfl,sm,hl⟩:=un2 _ _ _ hp2;obtain⟨rl,hq,t,rfl,ht⟩:=hX.get hj;obtain⟨k1,k2,k3,k4,k5⟩:=hk rl (MS hq);have hlen:((rs.take j).foldl (MA.Q7 L) (MA.Rt L rs (MA.put (List.replicate n 99) m 0) i)).length=n:=(vM _ _).trans (flen i);have hst:(rs.take (j+1)).foldl (MA.Q7 L) (MA.Rt L rs (MA.put (List.replicate n 99) m 0) i)=MA.Q7 L ((rs.take j).foldl (MA.Q7 L) (MA.Rt L rs (MA.put (List.replicate n 99) m 0) i)) rl:=foldl_take_succ _ _ hq;generalize (rs.take j).foldl (MA.Q7 L) (MA.Rt L rs (MA.put (List.replicate n 99) m 0) i)=G at hl hlen hst;have hon:=bH (ws:=L) k1 Y;show⟨t,_,Z,sm.gM ht,Z,_,_,Z,_,_,Z,_,_,Z,Z,?_⟩;show⟨_,Z,_,_,Z,Z,_,Z,?_⟩;ext:2
   .have c:=M9 c;show⟨_,Z,_,Z,p,_,_,_,Z,Z,sm.seq hp,hon,_,Z,_,Z,p,_,_,_,Z,Z,sm.seq hp,bH c Y,_,Z,_,_,Z,Z,Z,_,Z,?_⟩;show bo (λc2=>?_) (λc2=>?_)
    .have c2:=V.int.inj (M9 c2);show⟨_,Z,_,Z,l,_,_,_,Z,Z,QF.of hl,bH c Y,_,Z,_,Z,l,_,_,_,Z,Z,QF.of hl,bH k1 Y,_,_,Z,Z,_,_,Z,_,Z,_,Z,l,_,_,_,Z,Z,hl,by rw[MO,hlen]; exact iz c k4,?_⟩;show nx2 _ _ (mk2 _ _ _ ⟨_,_,_,Z,sm.eI nlH,?_⟩);rw[aa,hst,<-Ol,show MA.Q7 L G rl=MA.put G rl.2.1 (MA.mn (MA.g G rl.2.1) (MA.g G rl.1+1)) from MU ⟨c,c2⟩];rfl
    .have c2:=Nr (Nl _▸c2);show nx2 _ _ (mk2 _ _ _ ⟨_,_,_,Z,sm,?_⟩);rw[hst];unfold MA.Q7;rw[MP (λz=>c2 (NJ V.int z.2))];exact hl
   .have c:=Nr (Nl _▸c);show aP (nx2 _ _ (mk2 _ _ _ ⟨_,_,_,Z,sm,?_⟩));rw[hst];unfold MA.Q7;rw[MP (λz=>c z.1)];exact hl
  .rintro O' H' hp2;obtain⟨v6,v7,v8,rfl,sm,hl⟩:=un2 _ _ _ hp2;rw[hX.length,NC] at hl;exact nx1 _ _ (mk _ _ _ ⟨_,_,_,_,Z,sm,hl⟩)
 .rintro O' H3 hp1;obtain⟨v5,v6,v7,v8,rfl,s3,hl3⟩:=un _ _ _ hp1;rw[bI] at hl3;exact mkM _ _ ⟨_,_,_,_,Z,s3,hl3⟩
 rintro O' H3 hp1;obtain⟨v5,v6,v7,v8,rfl,s3,hl3⟩:=unM _ _ hp1;clear hp1;obtain⟨lf,_⟩:=MA.tN lw m0 m1 n;have D:=MA.G4 lw m0 m1 (by lia:n<=90);have fo:=MA.DX hk eL;generalize MA.Rt L rs (MA.put (List.replicate n 99) m 0) n=lv at lf D hl3;clear hl1 hl2 s1 s2 flen hrep;show⟨aS,λwy nwy=>?_⟩;have fwy:H wy=none:=s3.free nwy;have nwl:l≠wy:=av hl3 nwy;have s4:=s3.trans (ag.upd (o:= .lst []) nwy);have hl4:(upd H3 wy (.lst [])) l=some (.lst (lv.map V.int)):=(ah nwl).trans hl3;have hw4:(upd H3 wy (.lst [])) wy=some (.lst (aH [])):=aa;ext:5;generalize upd H3 wy (.lst [])=H4 at s4 hl4 hw4;have gm:=lw.nn m m0 m1;show⟨_,Z,?_⟩;ext:4;obtain⟨W,mkW,unW⟩:=Sy λμ O' H'=> ∃(cs:List Nat) (at':Int) (v5 v6 v7 v8 v11 v12 v13:Option V),O'=[some (.int n),rW r,rW p,some (.int m),rW l,v5,v6,v7,v8,rW wy,some (.int at'),v11,v12,v13]/\ag H H'/\H' l=some (.lst (lv.map V.int))/\H' wy=some (.lst (aH cs))/\((cs=[]/\at'= -1/\μ=200)\/(0<=at'/\MA.Q5 n lv at'=some μ/\cs.length+μ<=150/\0 < MA.g L m/\ ∀ps,MA.Gr rs L (MA.Q5 n lv) m at' ps->MA.cV rs L m (cs++ps)));show⟨W,⟨200,mkW _ _ _ ⟨[],-1,v5,v6,v7,v8,none,none,none,Z,s4,hl4,hw4,.inl ⟨Z,Z,Z⟩⟩⟩,?_⟩;clear hl4 hw4 s4 nwy hl3 s3;rintro μ O' H' hp0;obtain⟨cs,at',v5,v6,v7,v8,v11,v12,v13,rfl,sm,hl,hw,inv⟩:=unW _ _ _ hp0;clear hp0;show⟨_,Z,_,Z,p,_,_,_,Z,Z,sm.seq hp,bH m0 Y,_,_,Z,Z,_,Z,?_⟩;ext:2;rotate_left
 .have c:=Nr (Nl _▸c);rcases inv with⟨rfl,rfl,_⟩ | ⟨_,_,_,z,_⟩
  .exact aP ⟨_,Z,q wy [] H' fwy sm hw (.inl ⟨Y,Z⟩)⟩
  .lia
 have hz:=M9 c;clear c;show⟨_,Z,_,Z,Z,_,Z,?_⟩;by_cases c:at'=m
 .rw[show (!decide (V.int at'=V.int m))=false from by rw[c]; simp];rcases inv with⟨_,z,_⟩ | ⟨_,_,_,_,hg⟩
  .lia
  .have:=hg [] (c▸ .nil);rw[Oy] at this;exact aP ⟨_,Z,q wy cs H' fwy sm hw this⟩
 rw[show (!decide (V.int at'=V.int m))=true from by simp[c]];show bu ?_;show o8 λD1 nxW=>?_;show⟨_,Z,?_⟩;ext:4;show⟨_,Z,_,_,Z,.inl ⟨_,sm.seq hx,Z⟩,_,Z,Y,by rw[hX.length]; lia,?_⟩;rw[M6,hX.length];obtain⟨Pv,mk,un⟩:=Sy λi O' H2=> ∃(s:Int) (v6 v7 v8 v12 v13:Option V),O'=[some (.int n),rW r,rW p,some (.int m),rW l,v5,v6,v7,v8,rW wy,some (.int at'),some (.int s),v12,v13]/\H2=H'/\MA.pf rs lv (fG L at') i s;show cF (xs:=bg 0 rs.length) Pv (mk _ _ _ ⟨-1,v6,v7,v8,v12,v13,Z,Z,.inl ⟨Z,λj q hj=>absurd hj (NP j)⟩⟩) (λi O' H' _ _=>bt) ?_ ?_
 .rintro i x O' H2 D2 nx2 _ hi hp1;obtain⟨s,v6,v7,v8,v12,v13,rfl,rfl,bst⟩:=un _ _ _ hp1;clear hp1;obtain⟨il,rfl⟩:=bj hi;have iC:(0+(i:Nat):Int)=((i:Nat):Int):=Y;obtain⟨v,hv⟩: ∃v,xs[i]?=some v:=⟨_,MQ (by rw[hX.length]; exact il)⟩
  obtain⟨rl,hq,t,rfl,ht⟩:=hX.get hv;obtain⟨k1,k2,k3,k4,k5⟩:=hk rl (MS hq);have hmet:=lw.met rl (MS hq);have hon:=bH (ws:=L) k1 Y;show⟨_,Z,_,Z,r,_,_,_,Z,Z,sm.seq hx,(by rw[iC]; exact bz hv),t,_,Z,sm.gM ht,Z,_,_,Z,_,_,Z,_,_,Z,Z,?_⟩;ext:4;show⟨λO' H3=>O'=[some (.int n),rW r,rW p,some (.int m),rW l,v5,some (.int rl.1),some (.int rl.2.1),some (.int rl.2.2),rW wy,some (.int at'),some (.int s),some (.int (0+(i:Nat))),some (.bl (decide (fG L at' rl)))]/\H3=H2,?_,?_⟩
  .show⟨_,Z,_,_,Z,Z,_,Z,bo (λc1=>?_) (λc1=>?_)⟩
   .have c1:=M9 c1;show⟨λv H3=>v= .bl (decide (fG L at' rl))/\H3=H2,?_,λv H3 z=>⟨by rw[z.1]; rfl,z.2⟩⟩;show⟨_,Z,_,Z,p,_,_,_,Z,Z,sm.seq hp,hon,_,Z,Z,_,Z,?_⟩;by_cases hf:MA.g L rl.1=rl.2.2
    .rw[show decide (V.int (MA.g L rl.1)=V.int rl.2.2)=true from Nv (NJ _ hf)];have fit:decide (fG L at' rl)=true:=Nv (by unfold fG; rw[MU c1]; exact hf);show bu ⟨λv H3=>v= .bl true/\H3=H2,?_,λv H3 z=>⟨by rw[z.1,fit],z.2⟩⟩;show⟨_,Z,_,_,Z,Z,_,Z,bo (λc2=>?_) (λc2=>?_)⟩;.exact⟨Z,Z⟩
     .have c2:=Nr (Nl _▸c2);show⟨_,Z,_,Z,p,_,_,_,Z,Z,sm.seq hp,bH Y Y,Z,?_,Z⟩;have b0:=lw.nn rl.2.1 Y k4;unfold MA.ask at hmet;rw[MP Y] at hmet;rw[show MA.g L rl.2.1=0 by lia];rfl
    .rw[show decide (V.int (MA.g L rl.1)=V.int rl.2.2)=false from Nz λz=>hf (V.int.inj z)];exact aP ⟨by rw[Nz (show ¬fG L at' rl by unfold fG; rw[MU c1]; exact hf)],Z⟩
   .have c1:=Nr (Nl _▸c1);show⟨λv H3=>v= .bl (decide (fG L at' rl))/\H3=H2,?_,λv H3 z=>⟨by rw[z.1]; rfl,z.2⟩⟩;show⟨_,Z,_,Z,Z,_,Z,?_⟩;by_cases hb:rl.2.1=at'
    .rw[show decide (V.int rl.2.1=V.int at')=true from Nv (NJ _ hb)];show bu ⟨_,Z,_,Z,p,_,_,_,Z,Z,sm.seq hp,hon,_,Z,_,Z,p,_,_,_,Z,Z,sm.seq hp,bH Y Y,_,Z,_,_,Z,Z,Z,?_,Z⟩;congr 1;show decide_eq_decide.mpr ⟨λz=>?_,λz=>?_⟩
     .unfold fG;rw[MP c1];exact⟨hb,V.int.inj z⟩
     .unfold fG at z;rw[MP c1] at z;exact NJ V.int z.2
    .rw[show decide (V.int rl.2.1=V.int at')=false from Nz λz=>hb (V.int.inj z)];exact aP ⟨by rw[Nz (show ¬fG L at' rl by unfold fG; rw[MP c1]; exact λz=>hb z.1)],Z⟩
  .rintro O' H3 ⟨rfl,rfl⟩;show⟨_,Z,decide (fG L at' rl),Z,?_⟩;by_cases hf:fG L at' rl
   .rw[Nv hf];show bu ⟨_,Z,_,_,Z,Z,_,Z,bo (λc2=>?_) (λc2=>?_)⟩;.exact bu ⟨_,Z,nx2 _ _ (mk _ _ _ ⟨_,_,_,_,_,_,Z,Z,by rw[iC]; exact bst.take hq hf (.inl (M9 c2))⟩)⟩
    .have c2:=Nr (Nl _▸c2);obtain⟨i',q',rfl,hq'⟩: ∃(i':Nat) (q':MA.ao),s=(i':Nat)/\rs[i']?=some q':=by
      rcases id bst with⟨e,_⟩ | ⟨i',q',e,_,hq',_⟩
      .lia
      .exact⟨i',q',e,hq'⟩
     obtain⟨j1,j2,j3,j4,j5⟩:=hk q' (MS hq');obtain⟨t2,hat,ht2⟩:=kh hX hq';show⟨_,Z,_,Z,l,_,_,_,Z,Z,QF.of hl,bH k1 (by rw[lf.len]; exact k2),_,Z,_,Z,_,Z,r,_,_,_,Z,Z,sm.seq hx,hat,t2,_,_,_,Z,Z,sm.gM ht2,Z,l,_,_,_,Z,Z,QF.of hl,bH j1 (by rw[lf.len]; exact j2),_,_,Z,Z,_,Z,bo (λc3=>?_) (λc3=>?_)⟩;.exact⟨_,Z,nx2 _ _ (mk _ _ _ ⟨_,_,_,_,_,_,Z,Z,by rw[iC]; exact bst.take hq hf (.inr ⟨i',q',Z,hq',M9 c3⟩)⟩)⟩
     .have c3:=Nr (Nl _▸c3);exact nx2 _ _ (mk _ _ _ ⟨_,_,_,_,_,_,Z,Z,bst.keep hq (.inr ⟨i',q',Z,hq',Y⟩)⟩)
   .rw[Nz hf];exact aP (aP (nx2 _ _ (mk _ _ _ ⟨_,_,_,_,_,_,Z,Z,bst.keep hq (.inl hf)⟩)))
 .rintro O' H2 hp1;obtain⟨s,v6,v7,v8,v12,v13,rfl,rfl,bst⟩:=un _ _ _ hp1;clear hp1;rw[bI] at bst;obtain⟨i,q2,d',rfl,hq2,hd',hlt,hlen,hgood⟩: ∃(i:Nat) (q2:MA.ao) (d':Nat),s=(i:Nat)/\rs[i]?=some q2/\MA.Q5 n lv q2.1=some d'/\d' < μ/\(cs++[i]).length+d'<=150/\ ∀ps,MA.Gr rs L (MA.Q5 n lv) m q2.1 ps->MA.cV rs L m ((cs++[i])++ps):=by
   have nine: ∀ {v:Int}{d:Nat},MA.Q5 n lv v=some d->d < 99:=λ{v d} e=>by
    unfold MA.Q5 at e;split at e
    .rename_i hv;cases e;lia
    .cases e
   rcases inv with⟨rfl,rfl,rfl⟩ | ⟨a0,hμ,hle,_,hg⟩
   .have ef:fG L (-1)=λq=>MA.g L q.1=q.2.2:=by
     funext q;unfold fG;rw[MU aS]
    rw[ef] at bst;obtain⟨i,q2,d,e,hq2,hd,hg⟩:=MA.A7 lw lf D fo m0 m1 hz bst;have:=nine hd;exact⟨i,q2,d,e,hq2,hd,Y,by change 1+d<=150; lia,hg⟩
   .have ef:fG L at'=λq=>q.2.1=at'/\MA.g L q.1=MA.g L q.2.1+q.2.2:=by
     funext q;unfold fG;rw[MP Y]
    rw[ef] at bst;obtain⟨i,q2,d,e,hq2,hlt,hd,hg2⟩:=MA.CH lw lf D m0 m1 hμ c bst;show⟨i,q2,d,e,hq2,hd,hlt,by rw[M0]; change cs.length+1+d<=150; lia,λps h=>?_⟩;rw[NY];exact hg _ (hg2 ps h)
  obtain⟨j1,j2,j3,j4,j5⟩:=hk q2 (MS hq2);obtain⟨t2,hat,ht2⟩:=kh hX hq2;have csl:cs.length<=150:=by rw[M0] at hlen; lia
  have s5:ag H (upd H2 wy (.lst (aH cs++[V.int (i:Nat)]))):=sm.eI fwy;show⟨_,Z,.inl ⟨Z,_,QF.of hw⟩,_,Z,wy,_,_,Z,Z,hw,by unfold aH; rw[MO]; exact aB Y,?_⟩;show⟨_,Z,_,Z,r,_,_,_,Z,Z,s5.seq hx,hat,t2,_,_,_,Z,Z,s5.gM ht2,Z,?_⟩;ext:4;show nxW _ _ d' hlt (mkW _ _ _ ⟨cs++[i],q2.1,_,_,_,_,_,_,_,Z,s5,(ah nwl).trans hl,by rw[aa,Dr],.inr ⟨j1,hd',hlen,hz,hgood⟩⟩)
inductive Be(K:QG)(vs:List V)(H:Hp)(Q:VK)(_E:XK):Prop|mk(t p:Addr)(d:QQ)(ns:List Str)(_:vs=[.ref t,.ref p])(_:QK K H t (gB d))(_:H p=some (.lst (ns.map V.str)))(_:d.2.1∈ns)(_:∀b,d.2.2.1=some b->b∈ns)(_:∀t',H t'=none->Q (.ref t') (upd H t' (.tup [.int (dw ns d).1,.int (dw ns d).2.1,.int (dw ns d).2.2])))
theorem Ba (T:Txt K mg a):QS P w K mg base 1 "as_rule" ["row","names"] (Be K):=by
 show cj T.qA ua λf c A o s H vs Q E hr h=>?_;obtain⟨t,p,d,ns,rfl,ht,hp,h1,h2,q⟩:=h;show⟨_,(ae (QJ 2 ua.nd (iw (x9 (aK kW (QN K aT af) bK) (j8 T.kR) (show PE _ _ (RH K _ _ _ _) from iE NI N5 N6 kL bY (QH (QN K aT af)))))) (ai (az (bR (aq (show PE _ _ (RH K _ _ _ _) from iE NI N5 N6 kL bY (QH (QN K aT af))) (aq dO (QH (QN K aT af)))))))),?_⟩;obtain⟨d1,d2,d3,d4⟩:=d;obtain⟨j,j1,j2⟩:=jg h1;have ej:=fN j1 j2;show⟨λv H'=>v= .int (dw ns (d1,d2,d3,d4)).2.1/\H'=H,?_,?_⟩
 .show⟨_,Z,t,_,_,_,Z,Z,ht,Z,Z,_,Z,?_⟩;cases d3 with
  | none=>exact bu ⟨Z,Z⟩
  | some b =>
   obtain⟨i,i1,i2⟩:=jg (h2 b rfl);have ei:=fN i1 i2;show aP ⟨_,Z,.inl ⟨Z,_,QF.of hp⟩,_,Z,t,_,_,_,Z,Z,ht,Z,p,ns,b,i,Z,Z,hp,i1,i2,?_,Z⟩;change V.int (i:Nat)=V.int ((ns.idxOf b:Nat):Int);rw[ei]
 rintro v H' ⟨rfl,rfl⟩;show⟨_,Z,.inl ⟨Z,_,QF.of hp⟩,_,Z,t,_,_,_,Z,Z,ht,Z,p,ns,d2,j,Z,Z,hp,j1,j2,_,Z,_,Z,t,_,_,_,Z,Z,ht,Z,aC,λt' nt'=>?_⟩;have:=q t' nt';unfold dw at this;rw[show ns.idxOf (d1,d2,d3,d4).2.1=j from ej] at this;exact this
inductive Fm(C:Addr)(K:QG)(vs:List V)(H:Hp)(Q:VK)(_E:XK):Prop|mk(h:Addr)(os:List Addr)(S:QM)(_:vs=[.ref h])(_:HI C H h os S)(_:Ro S.ms S.ds)(_:Rz S.ms S.ds)(_:∀(p:Addr) (H':Hp),H p=none->ag H H'->cJ K H' p (aA S.ms S.ds)->Q (.ref p) H')
theorem fJ (T:Txt K mg a):Ri P w K mg base 2 a.House "rules" ["self"] (Fm a.House K):=by
 show tZ T.ly oZ λf c A o s H vs Q E hr h=>?_;obtain⟨h,os,S,rfl,hI,g,db,q⟩:=h;obtain⟨dx,p0,p,r,is,kv,rfl,I⟩:=id hI;have ml:=g.ml;have dl:=g.dl;show⟨_,(ae (QJ 1 oZ.nd (i9 T.aw.cl (cg T:) hr.mm aT)) (ai (az (iZ iI ["row"] ["names"] [1] Rr (eE K (cE K aT)) (λC s2 H2 fp=>⟨(gn 0 (Q6 ["row","names"])),dR,(ay (Ba T:) hr.mm (aq aT (QH bY)))⟩))))),?_⟩;show⟨_,Z,h,dx,_,Z,I.ih,QR,h,_,S,Z,hI,Y,λpm H1 npm s1 hpm=>?_⟩;have I1:=I.same s1;obtain⟨pi,xs,hp,hX⟩:=I1.ds;have xl:=hX.length;show⟨_,Z,h,a.House,dx,_,.ref p,Z,I1.ih,T.aw.cl,T.aW,qK,p,rfl,⟨_,QF.of hp⟩,?_⟩;show dh (xs:=xs) (λi ys H'=>ag H1 H'/\ys.length=i/\bQ K H' ys ((aA S.ms S.ds).take i)) (λi ys H' _ h=>bW (QF.of (h.1 _ _ hp))) ⟨ag.refl _,Z,.nil⟩ (aB Y) (λi ys H' h=>Pc h.2.1) ?_ ?_
 .rintro i ys H2 x hi ⟨sm,yl,hY⟩;obtain⟨d,hd,t,rfl,_,ht⟩:=hX.get hi;obtain⟨b1,b2,_⟩:=db d (MS hd);dsimp only[aM,kx];show bu ⟨_,Z,_,Z,t,pm,d,aD S,Z,QK.of (sm _ _ ht),sm _ _ hpm,b1,b2,λt' nt'=>?_⟩;have st:=ag.upd (o:= .tup [.int (dw (aD S) d).1,.int (dw (aD S) d).2.1,.int (dw (aD S) d).2.2]) nt';show⟨sm.trans st,by rw[M0,yl]; rfl,?_⟩;have tk:(aA S.ms S.ds).take (i+1)=(aA S.ms S.ds).take i++[dw (aD S) d]:=by
   rw[NF];unfold aA;rw[M5,hd];rfl
  rw[tk];exact (bQ.same st hY).append (.cons ⟨t',Z,QK.of aa⟩ .nil)
 .rintro ys H2 p2 ⟨sm,yl,hY⟩ np;have st:=ag.upd (o:= .lst ys) np;rw[xl,N2 (by unfold aA; rw[MO]; exact MZ _)] at hY;exact q p2 _ (s1.free (sm.free np)) (s1.trans (sm.trans st)) ⟨ys,aa,bQ.same st hY⟩
theorem oV {x:V}(h:(aH ps)[i]?=some x): ∃y,ps[i]?=some y/\x= .int (y:Nat):=by
 unfold aH at h;rw[M5] at h;cases e:ps[i]? with
 | none=>rw[e] at h; cases h
 | some y=>rw[e] at h; exact⟨y,Z,(Nc h).symm⟩
def dQ (S:QM) (ps:List Nat):List Str:=ps.map λi=>(aV S).getD i ""
inductive yX(C:Addr)(K:QG)(vs:List V)(H:Hp)(Q:VK)(_E:XK):Prop|mk(h p:Addr)(os:List Addr)(S:QM)(ps:List Nat)(_:vs=[.ref h,.ref p])(_:HI C H h os S)(_:QF K H p (aH ps))(_:∀i∈ps,i < S.ds.length)(_:ps.length<=1000)(_:∀(q:Addr) (H':Hp),H q=none->ag H H'->H' q=some (.lst ((dQ S ps).map V.str))->Q (.ref q) H')
theorem hE (T:Txt K mg a):Ri P w K mg base 1 a.House "names_at" ["self","places"] (yX a.House K):=by
 show tZ T.iX sE λf c A o s H vs Q E hr h=>?_;obtain⟨h,pl,os,S,ps,rfl,⟨dx,p0,p,r,is,kv,rfl,I⟩,hps,hin,hl,q⟩:=h;obtain⟨pi,xs,hp,hX⟩:=I.ds;show⟨_,(ai (az (iZ fO ["place"] ["self"] [0] Rr (eE K bY) (λC s2 H2 fp=>⟨(gn 0 (Q6 ["place","self"])),dR,(QN K (QI K (cE K bY) aT) af)⟩)))),?_⟩;show⟨_,Z,pl,Z,⟨_,hps⟩,?_⟩;show dh (xs:=aH ps) (λi ys H'=>H'=H/\ys=(dQ S (ps.take i)).map V.str) (λi ys H' _ h=>by rw[h.1]; exact bW hps) ⟨Z,Z⟩ (aB (by unfold aH; rw[MO]; exact hl)) (λi ys H' h=>by rw[h.2,MO]; unfold dQ; rw[MO,Ni]; exact Ob _ _) ?_ ?_
 .rintro i ys H2 x hi ⟨rfl,rfl⟩;obtain⟨k,hk,rfl⟩:=oV hi;have kl:=hin k (MS hk);obtain⟨d,hd⟩: ∃d,S.ds[k]?=some d:=⟨_,MQ kl⟩
  obtain⟨v,hv,t,rfl,_,ht⟩:=hX.at' hd;dsimp only[aM,kx];show bu ⟨_,Z,h,a.House,dx,_,.ref p,Z,I.ih,T.aw.cl,T.aW,qK,_,rfl,p,_,_,_,rfl,rfl,QF.of hp,bz hv,t,_,_,_,rfl,rfl,QK.of ht,rfl,rfl,?_⟩;have tk:ps.take (i+1)=ps.take i++[k]:=by rw[NF,hk]; rfl
  unfold dQ;rw[tk,Nf,Nf];congr 1;change [V.str d.1]=[V.str ((aV S).getD k "")];rw[MX];unfold aV;rw[M5,hd];rfl
 .rintro ys H2 p2 ⟨rfl,rfl⟩ np;show q p2 _ np (ag.upd np) ?_;rw[aa];unfold aH;rw[MO,NC]
inductive CM(a:Adr)(vs:List V)(H:Hp)(Q:VK)(E:XK):Prop|mk(h:Addr)(os:List Addr)(S:QM)(_:vs=[.ref h])(_:HI a.House H h os S)(_:Ro S.ms S.ds)(_:Rz S.ms S.ds)(_:∀L,aX S=some L-> ∀(p:Addr) (H':Hp),H p=none->ag H H'->H' p=some (.lst (L.map V.int))->Q (.ref p) H')(_:aX S=none-> ∀H',ag H H'->E (.ref a.NoWidths) none H')
theorem nI {n:Nat}(k: ∀q∈rs,QO n q) (h:aY n rs=some L):L.length=n:=(MA.bX k h).1
theorem js (T:Txt K mg a):Rp P w K mg base 5 a.House "widths" ["self"] (CM a):=by
 show iR T.jY nA λf c A o s H vs Q E hr h=>?_;obtain⟨h,os,S,rfl,hI,g,db,qk,qe⟩:=h;ext:6;have rk:=ez db;show⟨_,(ae (QJ 1 nA.nd (bq (iV T:).x hr.mm (aq (cA K T.bT (cE K aT)) (QH (bf T.aw.cl (fJ T:).x hr.mm aT))))) (ae (aN (PW.pt (g8 (aK kW bY bK) (f9 (aK eR (bq (qu T:).x hr.mm (aq bY (QH (bf T.aw.cl (cx T:).x hr.mm aT)))) bK)))) (ai (eB T.jx rfl (QH bS))) aF) (ai (az bY)))),?_⟩;show⟨_,Z,h,a.House,dx,_,.ref p,Z,I.ih,T.aw.cl,T.aG,qK,_,_,rfl,.inl ⟨_,QF.of hp,rfl⟩,?_⟩;show⟨_,Z,h,dx,_,Z,I.ih,QR,h,_,S,Z,hI,g,db,λpr H1 npr s1 hR=>?_⟩;obtain⟨rx,hrx,hrr⟩:=hR;rw[xl];show⟨S.ms.length,pr,aA S.ms S.ds,Z,Y,⟨rx,QF.of hrx,hrr⟩,rk,λH2 s2 en=>?_,λpL L H2 npL s2 eL hpL=>?_⟩
 .show⟨_,Z,Z,_,Z,bu (bu ⟨aS,qe ?_ H2 (s1.trans s2)⟩)⟩;unfold aX;rw[en]
 .have s12:=s1.trans s2;have ll:=nI rk eL;have hI2:=hI.grow (H':=H2) λb o _ e=>s12 _ _ e;show⟨_,Z,Z,_,Z,aP ⟨_,Z,_,Z,h,dx,_,Z,(I.same s12).ih,QR,h,_,S,Z,hI2,Y,λpg H3 npg s3 hpg=>?_⟩⟩;have hpL3:=s3 _ _ hpL;show⟨pL,L,pg,bZ S,Z,QF.of hpL3,QF.of hpg,by unfold bZ; rw[MO,ll],Y,λH4 s4=>?_⟩;have s04:=s12.trans (s3.trans s4);cases hw:MA.b9 L (bZ S) with
  | none =>
   show⟨Z,_,Z,aP ⟨_,Z,qk L ?_ pL H4 (s1.free npL) s04 (s4 _ _ hpL3)⟩⟩;unfold aX;rw[eL];change (match MA.b9 L (bZ S) with | none=>some L | some _=>none)=some L;rw[hw]
  | some i =>
   show⟨Z,_,Z,bu ⟨aS,qe ?_ H4 s04⟩⟩;unfold aX;rw[eL];change (match MA.b9 L (bZ S) with | none=>some L | some _=>none)=none;rw[hw]
inductive vt(a:Adr)(vs:List V)(H:Hp)(Q:VK)(E:XK):Prop|mk(h p:Addr)(os:List Addr)(S:QM)(y:Str)(ys:List Str)(_:vs=[.ref h,.str y,.ref p])(_:HI a.House H h os S)(_:Ro S.ms S.ds)(_:Rz S.ms S.ds)(_:H p=some (.lst (ys.map V.str)))(_:y∉ys->E (.ref a.Unknown) none H)(_:y∈ys->aX S=none-> ∀H',ag H H'->E (.ref a.NoWidths) none H')(_:y∈ys-> ∀L,aX S=some L-> ∀H',ag H H'->Q (.int ((ys.idxOf y:Nat):Int)) H')
theorem fR (T:Txt K mg a):Rp P w K mg base 6 a.House "asked_place" ["self","name","names"] (vt a):=by
 show iR T.gA jv λf c A o s H vs Q E hr h=>?_;obtain⟨h,pn,os,S,y,ys,rfl,hI,g,db,hpn,e1,e2,k⟩:=h;obtain⟨dx,p,q0,r,is,kv,rfl,I⟩:=id hI;show⟨_,(ae (QJ 3 jv.nd (bq (ky T:) hr.mm (aq bY (QH dO)))) (ae (aI (bf T.aw.cl (js T:) hr.mm aT)) (ai (az eX)))),?_⟩;show⟨_,Z,_,Z,y,pn,ys,Z,hpn,λj hj hjm=>?_,e1⟩;have hy:=MS hj;have hj':=fN hj hjm;show⟨_,Z,h,dx,_,Z,I.ih,QR,h,_,S,Z,hI,g,db,λL eL p1 H1 _ s1 _=>?_,λeN H1 s1=>e2 hy eN H1 s1⟩;have:=k hy L eL H1 s1;rw[hj'] at this;exact⟨_,Z,this⟩
def RK (H:Hp) (h:Addr) (os:List Addr) (S:QM) (C:Addr):Prop:=HI C H h os S/\Ro S.ms S.ds/\Rz S.ms S.ds/\qf S.ms
inductive CI(a:Adr)(vs:List V)(H:Hp)(Q:VK)(E:XK):Prop|mk(h:Addr)(os:List Addr)(S:QM)(y:Str)(_:vs=[.ref h,.str y])(_:RK H h os S a.House)(_:y∉aD S-> ∀H',ag H H'->E (.ref a.Unknown) none H')(_:y∈aD S->aX S=none-> ∀H',ag H H'->E (.ref a.NoWidths) none H')(_:y∈aD S-> ∀L,aX S=some L-> ∀(p:Addr) (ps:List Nat) (H':Hp),H p=none->ag H H'->H' p=some (.lst ((dQ S ps).map V.str))->MA.cV (aA S.ms S.ds) L (((aD S).idxOf y:Nat):Int) ps->Q (.ref p) H')
theorem fD(h:aX S=some L):aY S.ms.length (aA S.ms S.ds)=some L/\MA.b9 L (bZ S)=none:=by
 unfold aX at h;cases e:aY S.ms.length (aA S.ms S.ds) with
 | none=>rw[e] at h; cases h
 | some L' =>
  rw[e] at h;have h:(match MA.b9 L' (bZ S) with | none=>some L' | some _=>none)=some L:=h;cases e2:MA.b9 L' (bZ S) with
  | none=>rw[e2] at h; cases h; exact⟨Z,e2⟩
  | some i=>rw[e2] at h; cases h
theorem eU (S:QM):(aA S.ms S.ds).length=S.ds.length:=MO _
theorem u9 (T:Txt K mg a):Rp P w K mg base 7 a.House "chain" ["self","member"] (CI a):=by
 show iR T.lP oX λf c A o s H vs Q E hr h=>?_;obtain⟨h,os,S,y,rfl,⟨hI,g,db,cp⟩,e1,e2,k⟩:=h;ext:6;have dl:=g.dl;show⟨_,(ae (QJ 2 oX.nd (gQ T.aw.cl (fR T:) hr.mm aT (aq bY (QH (bf T.aw.cl (cg T:).x hr.mm aT))))) (ai (az (gQ T.aw.cl (hE T:).x hr.mm aT (QH (bq (sU T:).x hr.mm (aq (cA K T.bT (cE K aT)) (aq (bf T.aw.cl (fJ T:).x hr.mm aT) (QH dO))))))))),?_⟩;ext:8;show⟨_,Z,h,dx,_,Z,I2.ih,QR,_,Z,h,a.House,dx,_,.ref p,Z,I2.ih,T.aw.cl,T.aG,qK,_,_,rfl,.inl ⟨_,QF.of (s12 _ _ hp),rfl⟩,?_⟩;show⟨_,Z,h,dx,_,Z,I2.ih,QR,h,_,S,Z,hI2,g,db,λpr H3 npr s3 hR=>?_⟩;have s13:=s12.trans s3;have hI3:=hI.grow (H':=H3) λb o _ e=>s13 _ _ e;obtain⟨eL1,eL2⟩:=fD eL;have rk:=ez db;have il:=rH hy;have il':(aD S).idxOf y < S.ms.length:=by unfold aD at il ⊢; rw[MO] at il; exact il
 rw[xl];show⟨_,Z,S.ms.length,pr,aA S.ms S.ds,L,_,Z,ml,by rw[eU]; exact dl,hR.RD,rk,eL1,Y,Y,λpc ps H4 npc s4 hpc hC=>?_⟩;have s14:=s13.trans s4;have hI4:=hI.grow (H':=H4) λb o _ e=>s14 _ _ e;have fw:=hC.RF (MA.uF rk eL1);show⟨h,pc,_,S,ps,Z,hI4,QF.of hpc,λi hi=>by have:=hC.lt i hi; rw[eU] at this; exact this,Y,λp5 H5 np5 s5 hp5=>?_⟩;exact k hy L eL p5 ps H5 (s14.free np5) (s14.trans s5) hp5 hC
inductive Cq(a:Adr)(vs:List V)(H:Hp)(Q:VK)(E:XK):Prop|mk(h:Addr)(os:List Addr)(S:QM)(y:Str)(_:vs=[.ref h,.str y])(_:RK H h os S a.House)(_:y∉aD S-> ∀H',ag H H'->E (.ref a.Unknown) none H')(_:y∈aD S->aX S=none-> ∀H',ag H H'->E (.ref a.NoWidths) none H')(_:y∈aD S-> ∀L,aX S=some L->(∀H',ag H H'->MA.gW S.ms.length (aA S.ms S.ds) L (bZ S) (((aD S).idxOf y:Nat):Int) none->Q .non H')/\ ∀(t:Addr) (s:Int) (stop:Nat) (H':Hp),H t=none->ag H H'->stop < S.ms.length->H' t=some (.tup [.int s,.str ((aD S).getD stop "")])->MA.gW S.ms.length (aA S.ms S.ds) L (bZ S) (((aD S).idxOf y:Nat):Int) (some (s,stop))->Q (.ref t) H')
theorem A0 {n:Nat}{m s:Int}{stop:Nat}(h:MA.gW n rs L cs m (some (s,stop))):stop < n:=by
 unfold MA.gW at h;exact h.2.1
theorem Ap {m:Mem}(h:S.ms[j]?=some m):(aD S).getD j "" = m.1:=by
 unfold aD;rw[MX,M5,h];rfl
theorem vD (T:Txt K mg a):Rp P w K mg base 7 a.House "slack" ["self","member"] (Cq a):=by
 show iR T.lN km λf c A o s H vs Q E hr h=>?_;obtain⟨h,os,S,y,rfl,⟨hI,g,db,cp⟩,e1,e2,k⟩:=h;ext:6;have dl:=g.dl;show⟨_,(ae (QJ 2 km.nd (gQ T.aw.cl (fR T:) hr.mm aT (aq bY (QH (bf T.aw.cl (cg T:).x hr.mm aT))))) (ae (QJ 3 km.nd (bq (zz T:).x hr.mm (aq (cA K T.bT (cE K aT)) (aq (bf T.aw.cl (fJ T:).x hr.mm aT) (aq (bf T.aw.cl (cx T:).x hr.mm aT) (QH dO)))))) (ae (aN (aK kW eX bK) (ai (az bK)) aF) (ai (az (bR (aq (QN K eX af) (QH (QN K (QI K (cE K aT) (QN K eX af)) af))))))))),?_⟩;ext:8;show⟨_,Z,h,a.House,dx,_,.ref p,Z,I2.ih,T.aw.cl,T.aG,qK,_,_,rfl,.inl ⟨_,QF.of (s12 _ _ hp),rfl⟩,?_⟩;show⟨_,Z,h,dx,_,Z,I2.ih,QR,h,_,S,Z,hI2,g,db,λpr H3 npr s3 hR=>?_⟩;have s13:=s12.trans s3;have hI3:=hI.grow (H':=H3) λb o _ e=>s13 _ _ e;show⟨_,Z,h,dx,_,Z,(I.same s13).ih,QR,h,_,S,Z,hI3,Y,λpg H4 npg s4 hpg=>?_⟩;have s14:=s13.trans s4;obtain⟨eL1,eL2⟩:=fD eL;have rk:=ez db;have ll:=nI rk eL1;have il:=rH hy;have il':(aD S).idxOf y < S.ms.length:=by unfold aD at il ⊢; rw[MO] at il; exact il
 obtain⟨k1,k2⟩:=k hy L eL;rw[xl];show⟨_,Z,S.ms.length,pr,aA S.ms S.ds,L,pg,bZ S,_,Z,ml,by rw[eU]; exact dl,hR.same s4,rk,eL1,QF.of hpg,by unfold bZ; rw[MO],zD ll eL2,λv c e=>Fy cp e,Y,Y,λH5 s5 hS=>?_,λt sp stop H5 s5 ht hS=>?_⟩;.exact⟨_,Z,Z,_,Z,bu (k1 H5 (s14.trans s5) hS)⟩
 .have s15:=s14.trans s5;have hst:=A0 hS;obtain⟨m,hm⟩: ∃m,S.ms[stop]?=some m:=⟨_,MQ hst⟩
  obtain⟨v,hv,t2,rfl,_,ht2⟩:=hX.at' hm;show⟨_,Z,Z,_,Z,aP ?_⟩;show⟨_,Z,t,_,_,_,Z,Z,QK.of ht,Z,_,Z,h,a.House,dx,_,.ref p,Z,(I.same s15).ih,T.aw.cl,T.aG,qK,_,rfl,t,_,_,_,rfl,rfl,QK.of ht,rfl,p,_,_,_,rfl,rfl,QF.of (s15 _ _ hp),bz hv,t2,_,_,_,rfl,rfl,QK.of (s15 _ _ ht2),rfl,?_⟩;show⟨aC,λt6 nt6=>?_⟩;show k2 t6 sp stop _ (s15.free nt6) (s15.trans (ag.upd nt6)) hst ?_ hS;rw[aa,Ap hm]
inductive Fv(a:Adr)(vs:List V)(H:Hp)(Q:VK)(E:XK):Prop|mk(h:Addr)(os:List Addr)(S:QM)(y:Str)(_:vs=[.ref h,.str y])(_:RK H h os S a.House)(_:y∉aV S-> ∀H',ag H H'->E (.ref a.Unknown) none H')(_:y∈aV S->aX S=none-> ∀H',ag H H'->E (.ref a.NoWidths) none H')(_:y∈aV S-> ∀L L',aX S=some L->aY S.ms.length ((aA S.ms S.ds).take ((aV S).idxOf y)++(aA S.ms S.ds).drop ((aV S).idxOf y+1))=some L'-> ∀H',ag H H'->Q (.int (L.sum - L'.sum)) H')
theorem vH {α:Type}{rs:List α}{k:Nat}: ∀q∈rs.take k++rs.drop (k+1),q∈rs:=λq hq=>by
 rcases M8.mp hq with h | h
 .exact Of h
 .exact OA h
theorem wR (T:Txt K mg a):Rp P w K mg base 7 a.House "cost" ["self","demand"] (Fv a):=by
 show iR T.mY qo λf c A o s H vs Q E hr h=>?_;obtain⟨h,os,S,y,rfl,⟨hI,g,db,cp⟩,e1,e2,k⟩:=h;ext:6;have dl:=g.dl;show⟨_,(ae (QJ 2 qo.nd (gQ T.aw.cl (fR T:) hr.mm aT (aq bY (QH (bf T.aw.cl (dU T:).x hr.mm aT))))) (ai (az (bq (Ar T:).x hr.mm (aq (cA K T.bT (cE K aT)) (aq (bf T.aw.cl (fJ T:).x hr.mm aT) (QH dO))))))),?_⟩;show⟨_,Z,h,dx,_,Z,I.ih,QR,_,Z,_,Z,h,dx,_,Z,I.ih,QR,h,_,S,Z,hI,Y,λpm H1 npm s1 hpm=>?_⟩;have hI1:=hI.grow (H':=H1) λb o _ e=>s1 _ _ e;show⟨h,pm,_,S,y,aV S,Z,hI1,g,db,hpm,λhy=>e1 hy H1 s1,λhy eN H2 s2=>e2 hy eN H2 (s1.trans s2),λhy L eL H2 s2=>?_⟩;have s12:=s1.trans s2;have I2:=I.same s12;have hI2:=hI.grow (H':=H2) λb o _ e=>s12 _ _ e;show⟨_,Z,h,a.House,dx,_,.ref p,Z,I2.ih,T.aw.cl,T.aG,qK,_,_,rfl,.inl ⟨_,QF.of (s12 _ _ hp),rfl⟩,?_⟩;show⟨_,Z,h,dx,_,Z,I2.ih,QR,h,_,S,Z,hI2,g,db,λpr H3 npr s3 hR=>?_⟩;have s13:=s12.trans s3;obtain⟨eL1,eL2⟩:=fD eL;have rk:=ez db;have il:=rH hy;have il':(aV S).idxOf y < S.ds.length:=by unfold aV at il ⊢; rw[MO] at il; exact il
 obtain⟨L',eL'⟩:=we rk eL1 (rs':=(aA S.ms S.ds).take ((aV S).idxOf y)++(aA S.ms S.ds).drop ((aV S).idxOf y+1)) vH;rw[xl];exact⟨_,Z,S.ms.length,pr,aA S.ms S.ds,L,L',_,Z,ml,by rw[eU]; exact dl,hR.RD,rk,eL1,by rw[eU]; exact il',eL',λH4 s4=>k hy L L' eL eL' H4 (s13.trans s4)⟩
inductive JZ(a:Adr)(vs:List V)(H:Hp)(Q:VK)(_E:XK):Prop|mk(h:Addr)(os:List Addr)(S:QM)(_:vs=[.ref h])(_:RK H h os S a.House)(_:∀(t p:Addr) (way:List Nat) (H':Hp),aY S.ms.length (aA S.ms S.ds)=none->rT (aA S.ms S.ds) way->way.length<=200->H t=none->H p=none->ag H H'->H' p=some (.lst ((dQ S way).map V.str))->H' t=some (.tup [.str "ring",.ref p])->Q (.ref t) H')(_:∀L,aX S=some L-> ∀H',ag H H'->Q .non H')(_:∀(L:List Int) (i:Nat) (t p:Addr) (ps:List Nat) (H':Hp),aY S.ms.length (aA S.ms S.ds)=some L->MA.b9 L (bZ S)=some i->i < S.ms.length->MA.cV (aA S.ms S.ds) L (i:Nat) ps->H t=none->H p=none->ag H H'->H' p=some (.lst ((dQ S ps).map V.str))->H' t=some (.tup [.str "wide",.str ((aD S).getD i ""),.ref p])->Q (.ref t) H')
theorem yM (T:Txt K mg a):Ri P w K mg base 6 a.House "why" ["self"] (JZ a):=by
 show tZ T.oq gP λf c A o s H vs Q E hr h=>?_;obtain⟨h,os,S,rfl,⟨hI,g,db,cp⟩,k1,k2,k3⟩:=h;ext:6;have dl:=g.dl;have rk:=ez db;have rl:=eU S;show⟨_,(ae (QJ 1 gP.nd (cA K T.bT (cE K aT))) (ae (QJ 2 gP.nd (i9 T.aw.cl (fJ T:) hr.mm aT)) (ae (QJ 3 gP.nd (ay (yb T:) hr.mm (aq bY (QH dO)))) (ae (aN (dz K eX) (ai (az (bR (aq bS (QH (c5 T.aw.cl (hE T:) hr.mm aT (QH eX))))))) aF) (ae (QJ 4 gP.nd (ay (qu T:) hr.mm (aq (ay (iV T:) hr.mm (aq bY (QH dO))) (QH (i9 T.aw.cl (cx T:) hr.mm aT))))) (ae (aN (aK kW gE bK) (ai (az bK)) aF) (ai (az (bR (aq bS (aq (QN K (QI K (cE K aT) gE) af) (QH (c5 T.aw.cl (hE T:) hr.mm aT (QH (ay (sU T:) hr.mm (aq bY (aq dO (QH gE)))))))))))))))))),?_⟩;show⟨_,Z,h,a.House,dx,_,.ref p,Z,I.ih,T.aw.cl,T.aG,qK,_,_,rfl,.inl ⟨_,QF.of hp,rfl⟩,?_⟩;show⟨_,Z,h,dx,_,Z,I.ih,QR,h,_,S,Z,hI,g,db,λpr H1 npr s1 hR=>?_⟩;have hI1:=hI.grow (H':=H1) λb o _ e=>s1 _ _ e;rw[xl];show⟨_,Z,_,Z,pr,aA S.ms S.ds,S.ms.length,Z,hR.RD,Y,rk,Y,λH2 pe s2 hpe hsh=>?_,λH2 pe way s2 hpe hwl hw=>?_⟩
 .have s12:=s1.trans s2;have hI2:=hI.grow (H':=H2) λb o _ e=>s12 _ _ e;obtain⟨L,eL⟩:=DL rk hsh;have ll:=nI rk eL;show⟨_,Z,false,.inl ⟨_,QF.of hpe,Z⟩,?_⟩;show aP ?_;show⟨_,Z,_,Z,S.ms.length,pr,aA S.ms S.ds,Z,Y,(hR.same s2).RD,rk,λH3 _ z=>(by rw[eL] at z; cases z),λpL L0 H3 npL s3 e hpL=>?_⟩;rw[eL] at e;cases e;have s13:=s12.trans s3;have hI3:=hI.grow (H':=H3) λb o _ e=>s13 _ _ e;show⟨_,Z,h,dx,_,Z,(I.same s13).ih,QR,h,_,S,Z,hI3,Y,λpg H4 npg s4 hpg=>?_⟩;show⟨pL,L,pg,bZ S,Z,QF.of (s4 _ _ hpL),QF.of hpg,by unfold bZ; rw[MO,ll],Y,λH5 s5=>?_⟩;have s15:=s13.trans (s4.trans s5);cases hw:MA.b9 L (bZ S) with
  | none =>
   show⟨_,Z,Z,_,Z,bu (k2 L ?_ H5 s15)⟩;unfold aX;rw[eL];change (match MA.b9 L (bZ S) with | none=>some L | some _=>none)=some L;rw[hw]
  | some i =>
   have hi:i < S.ms.length:=(by have:=GY hw; lia);obtain⟨m,hm⟩: ∃m,S.ms[i]?=some m:=⟨_,MQ hi⟩
   obtain⟨v,hv,t2,rfl,_,ht2⟩:=hX.at' hm;show⟨_,Z,Z,_,Z,aP ?_⟩;show⟨_,Z,h,a.House,dx,_,.ref p,Z,(I.same s15).ih,T.aw.cl,T.aG,qK,_,rfl,p,_,_,_,rfl,rfl,QF.of (s15 _ _ hp),bz hv,t2,_,_,_,rfl,rfl,QK.of (s15 _ _ ht2),rfl,?_⟩;show⟨_,Z,h,dx,_,Z,(I.same s15).ih,QR,_,Z,_,Z,_,Z,S.ms.length,pr,aA S.ms S.ds,L,_,Z,ml,Y,(hR.same (s2.trans (s3.trans (s4.trans s5)))).RD,rk,eL,Y,Y,λpc ps H6 npc s6 hpc hC=>?_⟩;have s16:=s15.trans s6;have hI6:=hI.grow (H':=H6) λb o _ e=>s16 _ _ e;have fw:=hC.RF (MA.uF rk eL);show⟨h,pc,_,S,ps,Z,hI6,QF.of hpc,λj hj=>by have:=hC.lt j hj; lia,Y,λp7 H7 np7 s7 hp7=>?_⟩;show⟨aC,λt8 nt8=>?_⟩;have s17:=s16.trans s7;show k3 L i t8 p7 ps _ eL hw hi hC (s17.free nt8) (s16.free np7) (s17.trans (ag.upd nt8)) ?_ ?_;.rw[ah (av hp7 nt8)]; exact hp7
   .rw[aa,Ap hm]
 .have s12:=s1.trans s2;have hI2:=hI.grow (H':=H2) λb o _ e=>s12 _ _ e;obtain⟨i0,q0',ps0,ew,_⟩:=id hw;show⟨_,Z,true,.inl ⟨_,QF.of hpe,(by rw[ew]; rfl)⟩,?_⟩;show bu ?_;show⟨_,Z,h,dx,_,Z,(I.same s12).ih,QR,_,Z,h,pe,_,S,way,Z,hI2,QF.of hpe,λj hj=>by have:=hw.lt j hj; lia,Y,λp7 H7 np7 s7 hp7=>?_⟩;show⟨aC,λt8 nt8=>?_⟩;have s17:=s12.trans s7;show k1 t8 p7 way _ (hw.none rk) hw hwl (s17.free nt8) (s12.free np7) (s17.trans (ag.upd nt8)) ?_ ?_;.rw[ah (av hp7 nt8)]; exact hp7
  .rw[aa]
inductive zq(a:Adr)(vs:List V)(H:Hp)(Q:VK)(_E:XK):Prop|mk(h:Addr)(os:List Addr)(S:QM)(_:vs=[.ref h])(_:RK H h os S a.House)(_:aX S=none-> ∀(t:Addr) (H':Hp),H t=none->ag H H'->H' t=some (.tup [.str "refused"])->Q (.ref t) H')(_:∀L,aX S=some L-> ∀(p:Addr) (H':Hp),H p=none->ag H H'->H' p=some (.lst (L.map V.int))->Q (.ref p) H')
theorem y8 (T:Txt K mg a):QS P w K mg base 6 "_law_widths_of" ["_law_house"] (zq a):=by
 show cj T.jB tM λf c A o s H vs Q E hr h=>?_;obtain⟨h,os,S,rfl,hQ,k1,k2⟩:=h;obtain⟨dx,p,q0,r,is,kv,eo,I⟩:=id hQ.1;show⟨_,(ai (IM ⟨Z,Z⟩ (λQE E'=>(ai (az (bf T.aw.cl (js T:) hr.mm aT)))) (Hk T.jx (λQE x o=>(ai (az (bR (QH bS))))) Jr))),?_⟩;show⟨λO' cls _ H'=>cls= .ref a.NoWidths/\ag H H'/\aX S=none,λQE=>?_,?_⟩;.exact⟨_,Z,h,dx,_,Z,I.ih,QR,h,os,S,Z,hQ.1,hQ.2.1,hQ.2.2.1,λL e p H' np s hp=>k2 L e p H' np s hp,λe H' s=>⟨Z,s,e⟩⟩
 .rintro O' cls H' ⟨rfl,s,e⟩;exact⟨a.NoWidths,true,Z,T.jx.2,T.gx,bu λQE x o=>⟨aC,λt nt=>k1 e t _ (s.free nt) (s.trans (ag.upd nt)) aa⟩⟩
def Iw (a:Adr):L2.Fo->Addr
 | .ok=>a.Unknown
 | .unknown=>a.Unknown
 | .inUse=>a.InUse
 | .badName=>a.BadName
 | .badNumber=>a.BadNumber
 | .tooMuch=>a.TooMuch
 | .full=>a.Full
 | .nothing=>a.NothingBack
def Out (a:Adr) (H:Hp) (h:Addr) (os:List Addr) (S:QM) (d:eJ) (Q:VK) (E:XK):Prop:=(aQ S d= .ok-> ∀H',eV a.House H h os (cf S d) H'->Q .non H')/\(aQ S d≠ .ok-> ∀H',ag H H'->E (.ref (Iw a (aQ S d))) none H')
section
variable {H:Hp}{h:Addr}{os:List Addr}{S:QM}{Q:VK}{E:XK}
theorem Out.er {d:eJ}(o:Out a H h os S d Q E) (x:Fo) (hx:aQ S d=x) (hne:x≠ .ok) (H':Hp) (s:ag H H'):E (.ref (Iw a x)) none H':=by
 have:=o.2 (hx▸hne) H' s;rw[hx] at this;exact this
variable{y:Str}
theorem EG(hI:HI a.House H h os S) (g:Ro S.ms S.ds) (hk:S.ks.length<=150) (hy:y.cps.toList.length<=1000) (o:Out a H h os S (.member y) Q E):qr a [.ref h,.str y] H Q E:=by
 show⟨h,os,S,y,Z,hI,hy,g.ml,hk,λH' s hm=>?_,λH' s hm hb=>?_,λH' s hm hg hf=>?_,λH' hm hg h1 h2 hN=>?_⟩;.exact o.er .inUse (by rw[aQ,MU hm]) aS H' s
 .exact o.er .badName (by rw[aQ,MP hm,MU hb]) aS H' s
 .exact o.er .full (by rw[aQ,MP hm,MP (by rw[hg]; decide),MU hf]) aS H' s
 .exact o.1 (by rw[aQ,MP hm,MP (by rw[hg]; decide),MP Y]) H' hN
variable{m:Str}
theorem GC {p e o':Int}(hI:HI a.House H h os S) (g:Ro S.ms S.ds) (hk:S.ks.length<=150) (hy:y.cps.toList.length<=1000) (o:Out a H h os S (.plain y m p e o') Q E):qN a [.ref h,.str y,.str m,.int p,.int e,.int o'] H Q E:=by
 show⟨h,os,S,y,m,p,e,o',Z,hI,hy,g.ml,g.dl,hk,λH' s hm=>?_,λH' s hm hn=>?_,λH' s hm hn hb=>?_,λH' s hm hn hg hr1=>?_,λH' s hm hn hg hr1 hr2=>?_,λH' s hm hn hg hr1 hr2 hf=>?_,λH' hm hn hg hr1 hr2 h1 h2 hN=>?_⟩;.exact o.er .unknown (by rw[aQ,MU hm]) aS H' s
 .exact o.er .inUse (by rw[aQ,MP (λz=>z hm),MU hn]) aS H' s
 .exact o.er .badName (by rw[aQ,MP (λz=>z hm),MP hn,MU hb]) aS H' s
 .exact o.er .badNumber (by rw[aQ,MP (λz=>z hm),MP hn,MP (by rw[hg]; decide),MU hr1]) aS H' s
 .exact o.er .tooMuch (by rw[aQ,MP (λz=>z hm),MP hn,MP (by rw[hg]; decide),MP (λz=>z hr1),MU hr2]) aS H' s
 .exact o.er .full (by rw[aQ,MP (λz=>z hm),MP hn,MP (by rw[hg]; decide),MP (λz=>z hr1),MP Y,MU hf]) aS H' s
 .exact o.1 (by rw[aQ,MP (λz=>z hm),MP hn,MP (by rw[hg]; decide),MP (λz=>z hr1),MP Y,MP Y]) H' hN
theorem JW {b:Str}{mo:Int}(hI:HI a.House H h os S) (g:Ro S.ms S.ds) (hk:S.ks.length<=150) (hy:y.cps.toList.length<=1000) (o:Out a H h os S (.link y m b mo) Q E):sP a [.ref h,.str y,.str m,.str b,.int mo] H Q E:=by
 have nn: ∀ {m b:Str},m∈aD S->b∈aD S-> ¬(m∉aD S\/b∉aD S):=λhm hb z=>z.elim (λz=>z hm) λz=>z hb;show⟨h,os,S,y,m,b,mo,Z,hI,hy,g.ml,g.dl,hk,λH' s hm=>?_,λH' s hm hb hn=>?_,λH' s hm hb hn hg=>?_,λH' s hm hb hn hg hr1=>?_,λH' s hm hb hn hg hr1 hf=>?_,λH' hm hb hn hg hr1 h1 h2 hN=>?_⟩;.exact o.er .unknown (by rw[aQ,MU hm]) aS H' s
 .exact o.er .inUse (by rw[aQ,MP (nn hm hb),MU hn]) aS H' s
 .exact o.er .badName (by rw[aQ,MP (nn hm hb),MP hn,MU hg]) aS H' s
 .exact o.er .badNumber (by rw[aQ,MP (nn hm hb),MP hn,MP (by rw[hg]; decide),MU hr1]) aS H' s
 .exact o.er .full (by rw[aQ,MP (nn hm hb),MP hn,MP (by rw[hg]; decide),MP (λz=>z hr1),MU hf]) aS H' s
 .exact o.1 (by rw[aQ,MP (nn hm hb),MP hn,MP (by rw[hg]; decide),MP (λz=>z hr1),MP Y]) H' hN
theorem Lr(hI:HI a.House H h os S) (g:Ro S.ms S.ds) (hk:S.ks.length<=150) (o:Out a H h os S (.sD y) Q E):mB a [.ref h,.str y] H Q E:=by
 show⟨h,os,S,y,Z,hI,g.dl,hk,λH' s hm=>o.er .unknown (by rw[aQ,MU hm]) aS H' s,λH' s hm hf=>o.er .full (by rw[aQ,MP (λz=>z hm),MU hf]) aS H' s,λH' j hj hjm h2 hN=>?_⟩;rw[D6 g.dn hj] at hN;exact o.1 (by rw[aQ,MP (λz=>z (MS hj)),MP Y]) H' hN
theorem K8 {wd:Int}(hI:HI a.House H h os S) (g:Ro S.ms S.ds) (hk:S.ks.length<=150) (o:Out a H h os S (.top m wd) Q E):uK a [.ref h,.str m,.int wd] H Q E:=by
 show⟨h,os,S,m,wd,Z,hI,g.ml,hk,λH' s hm=>o.er .unknown (by rw[aQ,MU hm]) aS H' s,λj o' hj hjm ho=>?_⟩;have hm:m∈aD S:=MS hj;have hc:=vA ho hjm;show⟨λH' s z=>?_,λH' s z hr1=>?_,λH' s z hr1 hf=>?_,λH' z hr1 h2 hN=>?_⟩;.exact o.er .inUse (by rw[aQ,MP (λz=>z hm),MU (by rw[hc]; exact z)]) aS H' s
 .exact o.er .badNumber (by rw[aQ,MP (λz=>z hm),MP (by rw[hc,z]; exact λq=>q rfl),MU hr1]) aS H' s
 .exact o.er .full (by rw[aQ,MP (λz=>z hm),MP (by rw[hc,z]; exact λq=>q rfl),MP (λz=>z hr1),MU hf]) aS H' s
 .rw[yV g.mn hj] at hN;exact o.1 (by rw[aQ,MP (λz=>z hm),MP (by rw[hc,z]; exact λq=>q rfl),MP (λz=>z hr1),MP Y]) H' hN
theorem LY(hI:HI a.House H h os S) (g:Ro S.ms S.ds) (hk:S.ks.length<=150) (o:Out a H h os S (.sT m) Q E):qq a [.ref h,.str m] H Q E:=by
 show⟨h,os,S,m,Z,hI,g.ml,hk,λH' s hm=>o.er .unknown (by rw[aQ,MU (yp hm)]) aS H' s,λj o' hj hjm ho=>?_⟩;have hc:=vA ho hjm;show⟨λH' s z=>o.er .unknown (by rw[aQ,MU (hc.trans z)]) aS H' s,λH' s z hf=>o.er .full (by rw[aQ,MP (by rw[hc]; exact z),MU hf]) aS H' s,λH' z h2 hN=>?_⟩;rw[yV g.mn hj] at hN;exact o.1 (by rw[aQ,MP (by rw[hc]; exact z),MP Y]) H' hN
theorem IJ (hI:HI a.House H h os S) (hk:S.ks.length<=150) (o:Out a H h os S .back Q E):Ab a [.ref h] H Q E:=by
 show⟨h,os,S,Z,hI,hk,λz=>o.er .nothing (by rw[aQ,MU z]) aS H (ag.refl H),λH' ks k e hN=>?_⟩;show o.1 (by rw[aQ,MP (by rw[e]; exact DC)]) H' ?_;have es:cf S .back=⟨k.1,k.2,ks⟩:=by
  change (match S.ks.getLast? with | some k=>(⟨k.1,k.2,S.ks.dropLast⟩:QM) | none=>S)=_;rw[show S.ks.getLast?=some k from by rw[e]; simp,show S.ks.dropLast=ks from by rw[e]; simp]
 rw[es];exact hN
end
def Done (a:Adr) (H:Hp) (h:Addr) (os:List Addr) (S:QM) (d:eJ) (Q:VK):Prop:=HI a.House H h os S/\Ro S.ms S.ds/\S.ks.length<=150/\aQ S d= .ok/\ ∀H',eV a.House H h os (cf S d) H'->Q .non H'
variable{h:Addr}{os:List Addr}{d:eJ}
theorem Done.out {a:Adr}{Q:VK}(x:Done a H h os S d Q):Out a H h os S d Q λ_ _ _=>False:=⟨λ_=>x.2.2.2.2,λn=>absurd x.2.2.2.1 n⟩
inductive A6(a:Adr)(vs:List V)(H:Hp)(Q:VK)(_E:XK):Prop|mk(h:Addr)(os:List Addr)(S:QM)(y:Str)(_:vs=[.ref h,.str y])(_:y.cps.toList.length<=1000)(_:Done a H h os S (.member y) Q)
theorem Bn (T:Txt K mg a):Ri P w K mg base 4 a.House "add_member" ["self","name"] (A6 a):=(qy T:).calm λvs H Q E h=>by
 obtain⟨h,os,S,y,rfl,hy,o⟩:=h;exact EG o.1 o.2.1 o.2.2.1 hy o.out
inductive DJ(a:Adr)(vs:List V)(H:Hp)(Q:VK)(_E:XK):Prop|mk(h:Addr)(os:List Addr)(S:QM)(y m:Str)(p e o:Int)(_:vs=[.ref h,.str y,.str m,.int p,.int e,.int o])(_:y.cps.toList.length<=1000)(_:Done a H h os S (.plain y m p e o) Q)
theorem wz (T:Txt K mg a):Ri P w K mg base 4 a.House "add_plain" ["self","name","member","people","each","over"] (DJ a):=(rB T:).calm λvs H Q E h=>by
 obtain⟨h,os,S,y,m,p,e,o,rfl,hy,x⟩:=h;exact GC x.1 x.2.1 x.2.2.1 hy x.out
inductive F3(a:Adr)(vs:List V)(H:Hp)(Q:VK)(_E:XK):Prop|mk(h:Addr)(os:List Addr)(S:QM)(y m b:Str)(mo:Int)(_:vs=[.ref h,.str y,.str m,.str b,.int mo])(_:y.cps.toList.length<=1000)(_:Done a H h os S (.link y m b mo) Q)
theorem xC (T:Txt K mg a):Ri P w K mg base 4 a.House "add_link" ["self","name","member","base","more"] (F3 a):=(sI T:).calm λvs H Q E h=>by
 obtain⟨h,os,S,y,m,b,mo,rfl,hy,x⟩:=h;exact JW x.1 x.2.1 x.2.2.1 hy x.out
inductive HP(a:Adr)(vs:List V)(H:Hp)(Q:VK)(_E:XK):Prop|mk(h:Addr)(os:List Addr)(S:QM)(m:Str)(wd:Int)(_:vs=[.ref h,.str m,.int wd])(_:Done a H h os S (.top m wd) Q)
theorem zM (T:Txt K mg a):Ri P w K mg base 4 a.House "set_top" ["self","member","width"] (HP a):=(tW T:).calm λvs H Q E h=>by
 obtain⟨h,os,S,m,wd,rfl,x⟩:=h;exact K8 x.1 x.2.1 x.2.2.1 x.out
inductive Ig(a:Adr)(vs:List V)(H:Hp)(Q:VK)(_E:XK):Prop|mk(h:Addr)(os:List Addr)(S:QM)(m:Str)(_:vs=[.ref h,.str m])(_:Done a H h os S (.sT m) Q)
theorem Jo (T:Txt K mg a):Ri P w K mg base 4 a.House "strike_top" ["self","member"] (Ig a):=(qw T:).calm λvs H Q E h=>by
 obtain⟨h,os,S,m,rfl,x⟩:=h;exact LY x.1 x.2.1 x.2.2.1 x.out
inductive J7(a:Adr)(vs:List V)(H:Hp)(Q:VK)(_E:XK):Prop|mk(h:Addr)(os:List Addr)(S:QM)(y:Str)(_:vs=[.ref h,.str y])(_:Done a H h os S (.sD y) Q)
theorem JY (T:Txt K mg a):Ri P w K mg base 4 a.House "strike_demand" ["self","name"] (J7 a):=(oi T:).calm λvs H Q E h=>by
 obtain⟨h,os,S,y,rfl,x⟩:=h;exact Lr x.1 x.2.1 x.2.2.1 x.out
inductive Eh(a:Adr)(vs:List V)(H:Hp)(Q:VK)(_E:XK):Prop|mk(h:Addr)(os:List Addr)(S:QM)(_:vs=[.ref h])(_:Done a H h os S .back Q)
theorem ED (T:Txt K mg a):Ri P w K mg base 1 a.House "take_back" ["self"] (Eh a):=(qR T:).calm λvs H Q E h=>by
 obtain⟨h,os,S,rfl,x⟩:=h;exact IJ x.1 x.2.2.1 x.out
inductive AB(a:Adr)(vs:List V)(H:Hp)(Q:VK)(_E:XK):Prop|mk(h:Addr)(os:List Addr)(S:QM)(L:List Int)(_:vs=[.ref h])(_:HI a.House H h os S)(_:Ro S.ms S.ds)(_:Rz S.ms S.ds)(_:aX S=some L)(_:∀(p:Addr) (H':Hp),H p=none->ag H H'->H' p=some (.lst (L.map V.int))->Q (.ref p) H')
theorem AY (T:Txt K mg a):Ri P w K mg base 5 a.House "widths" ["self"] (AB a):=(js T:).calm λvs H Q E h=>by
 obtain⟨h,os,S,L,rfl,hI,g,db,eL,q⟩:=h;exact⟨h,os,S,Z,hI,g,db,λL' e p H' np s hp=>(by rw[eL] at e; cases e; exact q p H' np s hp),λe=>(by rw[eL] at e; cases e)⟩
inductive Dy(a:Adr)(vs:List V)(H:Hp)(Q:VK)(_E:XK):Prop|mk(h:Addr)(os:List Addr)(S:QM)(y:Str)(L:List Int)(_:vs=[.ref h,.str y])(_:RK H h os S a.House)(_:y∈aD S)(_:aX S=some L)(_:∀H',ag H H'->MA.gW S.ms.length (aA S.ms S.ds) L (bZ S) (((aD S).idxOf y:Nat):Int) none->Q .non H')(_:∀(t:Addr) (s:Int) (stop:Nat) (H':Hp),H t=none->ag H H'->stop < S.ms.length->H' t=some (.tup [.int s,.str ((aD S).getD stop "")])->MA.gW S.ms.length (aA S.ms S.ds) L (bZ S) (((aD S).idxOf y:Nat):Int) (some (s,stop))->Q (.ref t) H')
theorem Dd (T:Txt K mg a):Ri P w K mg base 7 a.House "slack" ["self","member"] (Dy a):=(vD T:).calm λvs H Q E h=>by
 obtain⟨h,os,S,y,L,rfl,hQ,hy,eL,k1,k2⟩:=h;exact⟨h,os,S,y,Z,hQ,λn=>absurd hy n,λ_ e=>(by rw[eL] at e; cases e),λ_ L' e=>(by rw[eL] at e; cases e; exact⟨k1,k2⟩)⟩
inductive Fx(a:Adr)(vs:List V)(H:Hp)(Q:VK)(_E:XK):Prop|mk(h:Addr)(os:List Addr)(S:QM)(y:Str)(L L':List Int)(_:vs=[.ref h,.str y])(_:RK H h os S a.House)(_:y∈aV S)(_:aX S=some L)(_:aY S.ms.length ((aA S.ms S.ds).take ((aV S).idxOf y)++(aA S.ms S.ds).drop ((aV S).idxOf y+1))=some L')(_:∀H',ag H H'->Q (.int (L.sum - L'.sum)) H')
theorem Es (T:Txt K mg a):Ri P w K mg base 7 a.House "cost" ["self","demand"] (Fx a):=(wR T:).calm λvs H Q E h=>by
 obtain⟨h,os,S,y,L,L',rfl,hQ,hy,eL,eL',q⟩:=h;exact⟨h,os,S,y,Z,hQ,λn=>absurd hy n,λ_ e=>(by rw[eL] at e; cases e),λ_ L1 L2 e1 e2=>(by rw[eL] at e1; rw[eL'] at e2; cases e1; cases e2; exact q)⟩
inductive C9(a:Adr)(vs:List V)(H:Hp)(Q:VK)(_E:XK):Prop|mk(h:Addr)(os:List Addr)(S:QM)(y:Str)(L:List Int)(_:vs=[.ref h,.str y])(_:RK H h os S a.House)(_:y∈aD S)(_:aX S=some L)(_:∀(pc:Addr) (ps:List Nat) (H':Hp),H pc=none->ag H H'->H' pc=some (.lst ((dQ S ps).map V.str))->MA.cV (aA S.ms S.ds) L (((aD S).idxOf y:Nat):Int) ps->Q (.ref pc) H')
theorem C6 (T:Txt K mg a):Ri P w K mg base 7 a.House "chain" ["self","member"] (C9 a):=(u9 T:).calm λvs H Q E h=>by
 obtain⟨h,os,S,y,L,rfl,hQ,hy,eL,q⟩:=h;exact⟨h,os,S,y,Z,hQ,λn=>absurd hy n,λ_ e=>(by rw[eL] at e; cases e),λ_ L' e=>(by rw[eL] at e; cases e; exact q)⟩
def Hs (C:Addr) (H:Hp) (h:Addr) (os:List Addr) (S:QM):Prop:=HI C H h os S/\Gd S/\GB S
variable{C:Addr}
theorem Hs.grow {H':Hp}(x:Hs C H h os S) (s:ag H H'):Hs C H' h os S:=⟨x.1.grow λb o _ e=>s _ _ e,x.2⟩
theorem Hs.q(x:Hs C H h os S):RK H h os S C:=⟨x.1,x.2.1.now,x.2.2.now,x.2.2.cap⟩
theorem Hs.done {Q:VK}{a:Adr}(x:Hs a.House H h os S) (hk:S.ks.length<=150) (due:aQ S d= .ok) (q: ∀H',eV a.House H h os (cf S d) H'->Q .non H'):Done a H h os S d Q:=⟨x.1,x.2.1.now,hk,due,q⟩
theorem IV:Gd ⟨[],[],[]⟩:=⟨⟨NN _,NN _,OX,OX,λy hy=>(by cases hy),λy hy=>(by cases hy)⟩,λk hk=>(by cases hk),λ_=>⟨Z,Z⟩,λk hk=>(by cases hk)⟩
theorem E9 (T:Txt K mg a):GI P w K mg base 4 a.House "House" ["self"] (yO a.House):=KL T.aw.mg T.aw.mks T.aw.kp ((wW T:).mono aS)
variable{ys:List Str}
theorem IY {k:Nat}(h:k < ys.length):QV (ys.map V.str) (k:Int)=some (.str (ys.getD k "")):=bz (by rw[M5,getD_at h]; rfl)
theorem gg {i:Int}{k:Nat}(e:i=(k:Int)) (h:k < ys.length):QV (ys.map V.str) i=some (.str (ys.getD k "")):=by rw[e]; exact IY h
def IQ:Option Nat->Int
 | none=> -1
 | some i=>(i:Nat)
inductive DQ(K:QG)(vs:List V)(H:Hp)(Q:VK)(_E:XK):Prop|mk(p:Addr)(ws:List Int)(c:Addr)(cs:List (Option Int))(_:vs=[.ref p,.ref c])(_:QF K H p (ws.map V.int))(_:QF K H c (cs.map dA))(_:cs.length=ws.length)(_:ws.length<=1000)(_:Q (.int (IQ (MA.b9 ws cs))) H)
theorem Cr (T:Txt K mg a):QS P w K mg base 1 "_law_passed" ["_law_widths","_law_caps"] (DQ K):=by
 show cj T.mD qv λf c A o s H vs Q E hr h=>?_;obtain⟨p,ws,c,cs,rfl,hp,hc,hcl,hwl,q⟩:=h;show⟨_,(ae (cm (dq T.bh (cA K T.bT aT)) (gn 2 qv.nd) (ai (aN (PW.pt (dy (aK eR (QI K bY dO) bK) (dj (aK pU (QI K aT dO) (QI K bY dO))))) (ai (az dO)) aF))) (ai (az (kH iA af)))),?_⟩;show⟨_,Z,_,_,Z,.inl ⟨_,hp,Z⟩,_,Z,Y,by rw[MO]; lia,?_⟩;rw[M6,MO];show bA (xs:=bg 0 ws.length) (λi O' H'=> ∃v2:Option V,O'=[rW p,rW c,v2]/\H'=H/\ ∀j,j < i->MA.over (MA.g ws (j:Nat)) (cs.getD j none)=false) ⟨none,Z,Z,λj hj=>absurd hj (NP _)⟩ (λi O' H' _ _=>bt) ?_ ?_
 .rintro i x O' H' hi ⟨v2,rfl,rfl,hno⟩;obtain⟨hin,rfl⟩:=bj hi;have ei:(0+(i:Nat):Int)=(i:Nat):=Y;rw[ei];have hca:=uH (cs:=cs) (k:=i) Y;have nxt:MA.over (MA.g ws (i:Nat)) (cs.getD i none)=false-> ∃v2:Option V,[some (V.ref p),some (V.ref c),some (V.int (i:Nat))]=[some (V.ref p),some (V.ref c),v2]/\H'=H'/\ ∀j,j < i+1->MA.over (MA.g ws (j:Nat)) (cs.getD j none)=false:=λz=>⟨_,Z,Z,λj hj=>by
   by_cases e:j=i;.rw[e]; exact z
   .exact hno j Y⟩
  show⟨_,Z,_,Z,c,_,_,_,Z,Z,hc,hca,Z,_,Z,?_⟩;cases e:cs.getD i none with
  | none=>exact aP (aP (nxt (by rw[e]; rfl)))
  | some k =>
   rw[e] at hca;show bu ⟨_,Z,_,Z,p,_,_,_,Z,Z,hp,bH Y Y,_,Z,_,Z,c,_,_,_,Z,Z,hc,hca,_,_,Z,Z,_,Z,?_⟩;show bo (λz=>?_) (λz=>?_)
   .have hw:MA.b9 ws cs=some i:=MA.ug hin (by rw[e]; exact z) hno;rw[hw] at q;exact⟨_,Z,q⟩
   .exact nxt (by rw[e]; exact Nl _▸z)
 .rintro O' H' ⟨v2,rfl,rfl,hno⟩;rw[bI] at hno;rw[MA.uR hno] at q;exact⟨_,Z,q⟩
inductive Ed(K:QG)(vs:List V)(H:Hp)(Q:VK)(_E:XK):Prop|mk(ts:Addr)(os:List Addr)(n:Nat)(ms:List Mem)(ds:List QQ)(_:vs=[.ref ts])(_:LS os n H ts ms ds)(_:(ms.map (·.1)).Nodup)(_:ms.length<=1000)(_:∀(p:Addr) (H':Hp),H p=none->ag H H'->H' p=some (.lst ((ms.map (·.2)).map dA))->Q (.ref p) H')
theorem vZ (T:Txt K mg a):QS P w K mg base 1 "_law_caps_of" ["_law_state"] (Ed K):=by
 show cj T.lz vy λf c A o s H vs Q E hr h=>?_;obtain⟨ts,os,n,ms,ds,rfl,⟨ln,la,dd,vs,kvs,l⟩,hn,ml,q⟩:=h;show⟨_,(ai (az (iZ iH ["_law_name"] ["_law_state"] [0] Rr (eE K (QN K aT af)) (λC s2 H2 fp=>⟨(gn 0 (Q6 ["_law_name","_law_state"])),dR,(tJ (dF hr) (QN K bY af) aT (by constructor <;> first | rfl | (intros; rfl)))⟩)))),?_⟩;show⟨_,Z,ts,_,_,_,Z,Z,QK.of l.ht,Z,ln,Z,⟨_,QF.of l.hn⟩,?_⟩;show kY (xs:=(ms.map (·.1)).map V.str) (bW (QF.of l.hn)) (λv=>match v with | .str y=>dA (bw ms y) | _=> .non) (by rw[MO,MO]; exact aB ml) (λx hx R hR=>?_) (λp np=>?_)
 .obtain⟨y,_,rfl⟩:=Ny.mp hx;show⟨_,Z,ts,_,_,_,Z,Z,QK.of l.ht,Z,dd,Z,.inl ⟨kvs,.inl l.hd⟩,_,Z,_,dJ.k (k:=Sum.inr y) l.hd,?_⟩;rw[l.cp y];have hR:R (dA (bw ms y)) H:=hR;cases e:bw ms y with
  | none=>rw[e] at hR; exact hR
  | some c=>rw[e] at hR; exact hR
 .have e:((ms.map (·.1)).map V.str).map (λv=>match v with | .str y=>dA (bw ms y) | _=> .non)=(ms.map (·.2)).map dA:=by
   rw[<-Hr hn];simp only[N1];rfl
  rw[e];exact q p _ np (ag.upd np) aa
inductive EY(K:QG)(vs:List V)(H:Hp)(Q:VK)(_E:XK):Prop|mk(p d:Addr)(ys:List Str)(_:vs=[.ref p,.ref d])(_:H p=some (.lst (ys.map V.str)))(_:QF K H d (ys.map V.str))(_:ys.length<=1000)(_:∀y∈ys,y.length<=1000)(_:Q (.bl true) H)
theorem DK {ys:List Str}{i:Nat}(h:i < ys.length): ∃y,QV (ys.map V.str) (i:Nat)=some (.str y)/\y∈ys:=⟨ys[i],bz (by rw[M5,MQ h]; rfl),Ot h⟩
theorem Ej (T:Txt K mg a):QS P w K mg base 1 "_law_texts" ["_law_found","_law_due"] (EY K):=by
 show cj T.ou rg λf c A o s H vs Q E hr h=>?_;obtain⟨p,d,ys,rfl,hp,hd,hl,hyl,q⟩:=h;show⟨_,(ae (aN (PW.pt (g8 (fg (dz K (bP j6 (by rfl) T.dI boot_isinstance (aq aT (QH (mh (v:= .ty "list") rfl T.qH boot_list rfl)))))) (f9 (aK nK (cA K T.bT aT) (cA K T.bT bY))))) (ai (az eY)) aF) (ae (cm (dq T.bh (cA K T.bT bY)) (gn 2 rg.nd) (ai (aN (PW.pt (g8 (fg (dz K (bP j6 (by rfl) T.dI boot_isinstance (aq (QI K aT dO) (QH (mh (v:= .ty "str") rfl T.Bt boot_str rfl)))))) (f9 (aK nK (QI K aT dO) (QI K bY dO))))) (ai (az eY)) aF))) (ai (az eY)))),?_⟩;show⟨_,Z,_,"list",true,Z,.inl ⟨⟨_,QF.of hp⟩,.inl ⟨Z,Z⟩⟩,_,Z,aP ?_⟩;show⟨_,Z,_,_,Z,.inl ⟨_,QF.of hp,Z⟩,_,Z,_,_,Z,.inl ⟨_,hd,Z⟩,Z,_,Z,?_⟩;rw[show (!decide (V.int ((ys.map V.str).length:Nat)=V.int ((ys.map V.str).length:Nat)))=false from by simp];show aP ?_;show⟨_,Z,_,_,Z,.inl ⟨_,hd,Z⟩,_,Z,Y,by rw[MO]; lia,?_⟩;rw[M6,MO];show bA (xs:=bg 0 ys.length) (λi O' H'=> ∃v2:Option V,O'=[rW p,rW d,v2]/\H'=H) ⟨none,Z,Z⟩ (λi O' H' _ _=>bt) ?_ ?_
 .rintro i x O' H' hi ⟨v2,rfl,rfl⟩;obtain⟨hin,rfl⟩:=bj hi;have ei:(0+(i:Nat):Int)=(i:Nat):=Y;rw[ei];obtain⟨y,hy,_⟩:=DK hin;show⟨_,Z,_,Z,p,_,_,_,Z,Z,QF.of hp,hy,_,"str",true,Z,.inl ⟨Z,Z⟩,_,Z,aP ?_⟩;show⟨_,Z,_,Z,p,_,_,_,Z,Z,QF.of hp,hy,_,Z,_,Z,d,_,_,_,Z,Z,hd,hy,Z,_,Z,?_⟩;rw[show (!decide (V.str y=V.str y))=false from by simp];exact aP ⟨_,Z,Z⟩
 .rintro O' H' ⟨v2,rfl,rfl⟩;exact q
variable{H':Hp}
theorem Hs.next'(x:Hs C H h os S) (due:aQ S d= .ok) (hN:eV C H h os (cf S d) H'): ∃os',Hs C H' h os' (cf S d)/\pG os H H'/\ ∀b∈os',b∈os\/H b=none:=by
 obtain⟨so,os',hI,nw⟩:=hN;have e:rP S d=cf S d:=by unfold rP; rw[MU due]
 exact⟨os',⟨hI,e▸Ek x.2.1,e▸Hl x.2.2⟩,so,nw⟩
variable{ms:List Mem}
theorem uH(hn:(ms.map (·.1)).Nodup){i:Nat}{m:Mem}(h:ms[i]?=some m):bw ms m.1=m.2:=by
 unfold bw;cases e:ms.find? (λx=>x.1 == m.1) with
 | none=>exact absurd (OL.mp e m (MS h)) (by simp)
 | some x =>
  have h1:x.1=m.1:=by simpa using List.find?_some e
  obtain⟨j,hj⟩:=PV.mp (Pn e);have:j=i:=by
   have a1:=(MW.mp h)
   have a2:=(MW.mp hj)
   obtain⟨l1,e1⟩:=a1;obtain⟨l2,e2⟩:=a2;show (OY (h₀:=by rw[MO]; exact l2) (h₁:=by rw[MO]; exact l1) hn).mp ?_;rw[OF,OF,e1,e2];exact h1
  subst this;rw[hj] at h;cases h;rfl
variable{us:List Str}
theorem Kn(hn:us.Nodup){y:Str}{i:Nat}(hi:i < us.length){p:Int}:dw us (y,us.getD i "",none,p)=((i:Int),-1,p):=by
 unfold dw;rw[jb hn hi]
theorem K4(hn:us.Nodup){y:Str}{i j:Nat}(hi:i < us.length) (hj:j < us.length){p:Int}:dw us (y,us.getD i "",some (us.getD j ""),p)=((i:Int),(j:Int),p):=by
 unfold dw;rw[jb hn hi];change (_,((us.idxOf (us.getD j ""):Nat):Int),p)=_;rw[jb hn hj]
variable{la:Addr}{ds:List QQ}
theorem Hs.Gh {t:Addr}{d:QQ}(X:Hs C H h os S) (R:Rm os H la ds) (ht:H t=none) (e:H la=some (.lst xs)):Hs C (upd (upd H t (.tup (gB d))) la (.lst (xs++[.ref t]))) h os S/\Rm os (upd (upd H t (.tup (gB d))) la (.lst (xs++[.ref t]))) la (ds++[d]):=by
 have nt:t∉os:=λz=>by obtain⟨o,e⟩:=X.1.has t z; rw[ht] at e; cases e
 show⟨⟨X.1.grow λb o hb e'=>?_,X.2⟩,R.push ht nt e⟩;rw[ah (show b≠la from λz=>R.1 (z▸hb)),ah (show b≠t from λz=>nt (z▸hb))];exact e'
inductive GL(K:QG)(vs:List V)(H:Hp)(Q:VK)(_E:XK):Prop|mk(r:Addr)(rs:List MA.ao)(_:vs=[.ref r])(_:Rl K H r rs)(_:rs.length<=1000)(_:∀(p:Addr) (H':Hp),H p=none->ag H H'->cJ K H' p (rs.map pJ)->Q (.ref p) H')
theorem HL (T:Txt K mg a):QS P w K mg base 1 "_law_thin" ["_law_rules_here"] (GL K):=by
 show cj T.pT zr λf c A o s H vs Q E hr h=>?_;obtain⟨r,rs,rfl,⟨xs,hx,hX⟩,rl,q⟩:=h;show⟨_,(ai (az (iZ lV ["_law_on","_law_base","_law_more"] [] [] (uS (K:=K) (k:=3) (fU (gu (by decide:0 < 3)) dE (fU (gu (by decide:1 < 3)) dE (fU (gu (by decide:2 < 3)) dE sv g6) (kd dE g6)) (kd dE (kd dE g6)))) (eE K aT) (λC s2 H2 fp=>⟨(show PG _ _ (vJ K 3 _) from dM (n:=3) rfl (aJ (gn 0 (Q6 ["_law_on","_law_base","_law_more"])) (aJ (gn 1 (Q6 ["_law_on","_law_base","_law_more"])) (aJ (gn 2 (Q6 ["_law_on","_law_base","_law_more"])) cT)))),dR,(bR (aq aT (aq bY (QH (au aU dO af)))))⟩)))),?_⟩;show⟨_,Z,r,Z,⟨_,hx⟩,?_⟩;show dh (xs:=xs) (λi ys H2=>ag H H2/\bQ K H2 ys ((rs.take i).map pJ)) (λi ys H2 _ z=>bW (z.1.seq hx)) ⟨ag.refl _,.nil⟩ (by rw[hX.length]; exact aB rl) (λi ys H2 z=>by rw[z.2.length,MO,Ni]; exact Ob _ _) ?_ ?_
 .rintro j ys H2 x hj ⟨sm,hR⟩;obtain⟨q,hq,ht⟩:=hX.get hj;obtain⟨t,rfl,ht2⟩:=ht.same sm;show⟨t,_,Z,ht2,Z,_,_,Z,_,_,Z,_,_,Z,Z,?_⟩;show⟨_,Z,_,Z,_,Z,_,_,Z,Z,(by change (0:Int) < 1000; decide),aC,λu nu=>?_⟩;have su:=ag.upd (o:= .tup [.int q.1,.int q.2.1,.int (q.2.2 % 1000)]) nu;show⟨sm.trans su,?_⟩;rw[NF,hq,Nf];exact (hR.same su).append (.one ⟨u,Z,QK.of aa⟩)
 .rintro ys H2 p ⟨sm,hR⟩ np;rw[hX.length,NC] at hR;exact q p _ (sm.free np) (sm.trans (ag.upd np)) ⟨ys,aa,hR.same (ag.upd np)⟩
inductive FK(a:Adr)(K:QG)(vs:List V)(H:Hp)(Q:VK)(_E:XK):Prop|mk(pr pn pc:Addr)(rs:List MA.ao)(us cs:List Str):vs=[.ref pr,.ref pn,.ref pc]->cJ K H pr rs->rs.length<=24->(∀q∈rs,QO us.length q/\Sm q)->H pn=some (.lst (us.map V.str))->us.length<=12->us.Nodup->(∀y∈us,Nm y)->H pc=some (.lst (cs.map V.str))->24<=cs.length->cs.Nodup->(∀y∈cs,Nm y)->(∀(t h st:Addr) (os:List Addr) (ds:List QQ) (ks:List (List Mem×List QQ)) (H':Hp),ag H H'->H' t=some (.tup [.ref h,.ref st])->Hs a.House H' h os ⟨Q4 us,ds,ks⟩->aA (Q4 us) ds=rs->ks.length<=36->LS os 0 H' st (Q4 us) ds->ds.map (·.1)=cs.take rs.length->(∀b∈os,H b=none)->Q (.ref t) H')->FK a K vs H Q _E
theorem Eo (T:Txt K mg a):QS P w K mg base 6 "_law_built" ["_law_rules_here","_law_names_here","_law_calls"] (FK a K):=by
 show cj T.nX dP λf c A o s H vs Q E hr h=>?_;obtain⟨pr,pn,pc,rs,us,cs,rfl,hR,rl,rk,hn,n12,uD,uN,hc,cl,cD,cN,q⟩:=h;show⟨_,(ae (QJ 3 dP.nd (CL (E9 T:) hr.mm)) (ae (cm (eE K bY) (gn 4 dP.nd) (ai (aI (c5 T.aw.cl (Bn T:) hr.mm eX (QH gE))))) (ae (QJ 5 dP.nd (ba cP)) (ae (cm (dq T.bh (cA K T.bT aT)) (gn 6 dP.nd) (ae (dY (QI K aT iF) (dM rfl (aJ (gn 7 dP.nd) (aJ (gn 8 dP.nd) (aJ (gn 9 dP.nd) cT))))) (ai (aN (aK kG iS af) (ae (aI (c5 T.aw.cl (wz T:) hr.mm eX (aq (QI K dO iF) (aq (QI K bY iN) (aq lE (aq af (QH af))))))) (ai (aI (ia K gT (bR (aq (QI K dO iF) (aq (QI K bY iN) (aq bK (QH lE))))))))) (ae (aI (c5 T.aw.cl (xC T:) hr.mm eX (aq (QI K dO iF) (aq (QI K bY iN) (aq (QI K bY iS) (QH lE)))))) (ai (aI (ia K gT (bR (aq (QI K dO iF) (aq (QI K bY iN) (aq (QI K bY iS) (QH lE))))))))))))) (ai (az (bR (aq eX (QH (bR (aq bY (aq gT (QH EN))))))))))))),?_⟩;have usN: ∀k,k < us.length->Nm (us.getD k ""):=λk hk=>uN _ (MS (L2.getD_at hk));have csN: ∀k,k < cs.length->Nm (cs.getD k ""):=λk hk=>cN _ (MS (L2.getD_at hk));show λh dx nh ndx hdx=>⟨h,dx,Z,aa,(ah hdx).trans aa,λos0 H4 hs hI hos=>⟨Z,?_⟩⟩
 have s4:ag H H4:=λb o e=>by
  have b1:b≠h:=λz=>by rw[z,nh] at e; cases e
  have b2:b≠dx:=λz=>by rw[z,ndx] at e; cases e
  exact hs b o b1 b2 (((ah b1).trans (ah b2)).trans e)
 have hnew: ∀b∈os0,H b=none:=λb hb=>by
  rcases hos b hb with rfl | rfl | e
  .exact nh
  .exact ndx
  .by_cases b1:b=h;.rw[b1]; exact nh
   .by_cases b2:b=dx;.rw[b2]; exact ndx
    .rw[ah b1,ah b2] at e; exact e
 have B4:RG H os0 H4:=⟨s4,hnew⟩
 have X4:Hs a.House H4 h os0 ⟨[],[],[]⟩:=⟨hI,IV,ID⟩
 clear hs hos hnew hI nh ndx hdx;ext:5;show⟨_,Z,pn,Z,⟨_,QF.of (B4.s _ _ hn)⟩,?_⟩;show bA (xs:=us.map V.str) (λi O' H'=> ∃(os:List Addr) (ks:List (List Mem×List QQ)) (v4:Option V),O'=[rW pr,rW pn,rW pc,rW h,v4,none,none,none,none,none]/\Hs a.House H' h os ⟨Q4 (us.take i),[],ks⟩/\ks.length=i/\RG H os H') ⟨os0,[],none,Z,X4,Z,B4⟩ (λi O' H' _ ⟨_,_,_,_,_,_,B⟩=>bW (QF.of (B.s _ _ hn))) ?_ ?_
 .rintro i x O' H' hi ⟨os,ks,v5,rfl,X,hk,B⟩;rw[M5] at hi;cases hy:us[i]? with
  | none=>rw[hy] at hi; cases hi
  | some y =>
   rw[hy] at hi;cases hi;have il:=(MW.mp hy).1;have yN:=uN y (MS hy);have et:us.take (i+1)=us.take i++[y]:=(by rw[NF,hy]; rfl);have ny:y∉us.take i:=by
    have:=(List.take_sublist (i+1) us).nodup uD;rw[et,OU] at this;exact λz=>this.2.2 y z y (List.mem_singleton_self _) rfl
   have due:aQ ⟨Q4 (us.take i),[],ks⟩ (.member y)= .ok:=BQ (by change y∉(Q4 (us.take i)).map (·.1); rw[gZ]; exact ny) yN (by change (Q4 (us.take i)).length < 12; unfold Q4; rw[MO,Ni]; lia) (by change ks.length < 150; lia);have em:Q4 (us.take i)++[(y,none)]=Q4 (us.take (i+1)):=(by rw[et]; unfold Q4; rw[Nf]; rfl);obtain⟨dx,p0,q0,r0,is,kv,eo,I⟩:=id X.1;show⟨_,Z,h,dx,_,Z,I.ih,QR,_,Z,h,os,_,y,Z,Ng yN.2.1 aS,X.done (by change ks.length<=150; lia) due λH6 hN=>?_⟩;obtain⟨os',X6,so,nw⟩:=X.next' due hN
   have X6:Hs a.House H6 h os' ⟨Q4 (us.take i)++[(y,none)],[],ks++[(Q4 (us.take i),[])]⟩:=X6;rw[em] at X6;exact⟨os',_,_,Z,X6,by rw[M0]; change ks.length+1=i+1; lia,B.next so nw⟩
 rintro O' H6 ⟨os1,ks,v4,rfl,X6,hk6,B6⟩;rw[MO] at X6 hk6;rw[NC] at X6;show⟨aC,λpa npa=>?_⟩;have s7:=ag.upd (o:= .lst []) npa;have hpa:H pa=none:=B6.s.free npa;have B7:=B6.same s7;have X7:=X6.grow s7;have R7:Rm os1 (upd H6 pa (.lst [])) pa []:=⟨λz=>(by obtain⟨o,e⟩:=X6.1.has pa z; rw[npa] at e; cases e),[],aa,.nil⟩
 ext:4;generalize upd H6 pa (.lst [])=H7 at B7 X7 R7;clear s7 npa X6 B6;obtain⟨xs,hx,hX⟩:=id hR;have xl:=hX.length;show⟨_,Z,_,_,Z,.inl ⟨_,QF.of (B7.s _ _ hx),Z⟩,_,Z,Y,Y,?_⟩;rw[M6,xl];have demI: ∀ {ds:List QQ}{ks:List (List Mem×List QQ)}{i:Nat},ds.map (·.1)=cs.take i->i < 24->cs.getD i "" ∉ aV ⟨Q4 us,ds,ks⟩:=λ{ds ks i} e hi z=>by
  have z:cs.getD i "" ∈ ds.map (·.1):=z;rw[e] at z;obtain⟨j,hj,ej⟩:=List.mem_take_iff_getElem.mp z;have e1:=jb cD (show i < cs.length by lia);have e2:=jb cD (show j < cs.length by lia);rw[<-ej,show cs[j]=cs.getD j "" by rw[MX,MQ Y]; rfl,e2] at e1;lia
 have memU: ∀ {ds:List QQ}{ks:List (List Mem×List QQ)} (k:Nat),k < us.length->us.getD k "" ∈ aD ⟨Q4 us,ds,ks⟩:=λ{ds ks} k hk=>by
  change us.getD k "" ∈ (Q4 us).map (·.1);rw[gZ];exact MS (L2.getD_at hk)
 have takeI: ∀ {i:Nat},i < 24->cs.take (i+1)=cs.take i++[cs.getD i ""]:=λ{i} hi=>by rw[NF,L2.getD_at Y]; rfl
 show bA (xs:=bg 0 rs.length) (λi O' H'=> ∃(os:List Addr) (ds:List QQ) (ks:List (List Mem×List QQ)) (v6 v7 v8 v9:Option V),O'=[rW pr,rW pn,rW pc,rW h,v4,rW pa,v6,v7,v8,v9]/\Hs a.House H' h os ⟨Q4 us,ds,ks⟩/\ds.map (·.1)=cs.take i/\ks.length=us.length+i/\RG H os H'/\Rm os H' pa ds/\aA (Q4 us) ds=rs.take i) ⟨os1,[],ks,none,none,none,none,Z,X7,Z,Y,B7,R7,Z⟩ (λi O' H' _ _=>bt) ?_ ?_
 .rintro i x O' H' hi ⟨os,ds,ks,v6,v7,v8,v9,rfl,X,hds,hk,B,R,hM⟩;obtain⟨il,rfl⟩:=bj hi;have hn':=B.s _ _ hn;have hc':=B.s _ _ hc;have dl:ds.length=i:=by rw[<-MO (f:=λd:QQ=>d.1),hds,Ni]; lia
  have iC:(0+(i:Nat):Int)=((i:Nat):Int):=Y;obtain⟨r,hr1⟩: ∃r,rs[i]?=some r:=⟨_,MQ il⟩
  obtain⟨v,hv,hT⟩:=hX.at hr1;obtain⟨t,rfl,ht⟩:=hT.same B.s;obtain⟨⟨k1,k2,k3,k4,k5⟩,sm1,sm2⟩:=rk r (MS hr1);have tk:rs.take (i+1)=rs.take i++[r]:=by rw[NF,hr1]; rfl
  show⟨_,Z,_,Z,pr,_,_,_,Z,Z,QF.of (B.s _ _ hx),(by rw[iC]; exact bz hv),t,_,Z,ht,Z,_,_,Z,_,_,Z,_,_,Z,Z,?_⟩;ext:4;obtain⟨on,eon,hon⟩: ∃on:Nat,r.1=(on:Int)/\on < us.length:=⟨r.1.toNat,Y,Y⟩
  obtain⟨xa,hxa⟩:=R.lst;obtain⟨dx,p0,q0',r0,is,kv,eo,I⟩:=id X.1;show⟨_,Z,_,_,Z,Z,_,Z,bo (λc=>?_) (λc=>?_)⟩
  .have c:=M9 c;have eb:r.2.1= -1:=Y;have p9:=sm1 eb;have epor:eC r.2.2 1 1=r.2.2:=(by unfold eC; lia);have due:aQ ⟨Q4 us,ds,ks⟩ (.plain (cs.getD i "") (us.getD on "") r.2.2 1 1)= .ok:=vU (memU on hon) (demI hds Y) (csN i Y) ⟨Y,Y,aS,aS,aS,aS⟩ (by rw[epor]; lia) (by change ds.length < 24; lia) (by change ks.length < 150; lia);show⟨_,Z,h,dx,_,Z,I.ih,QR,_,Z,_,Z,pc,_,_,_,Z,Z,QF.of hc',gg iC Y,_,Z,_,Z,pn,_,_,_,Z,Z,QF.of hn',gg eon hon,_,Z,h,os,_,cs.getD i "",us.getD on "",r.2.2,1,1,Z,Ng (csN i Y).2.1 aS,X.done (by change ks.length<=150; lia) due λH6 hN=>?_⟩;obtain⟨os',X6,so,nw⟩:=X.next' due hN
   have X6:Hs a.House H6 h os' ⟨Q4 us,ds++[(cs.getD i "",us.getD on "",none,eC r.2.2 1 1)],ks++[(Q4 us,ds)]⟩:=X6;rw[epor] at X6;have R6:=R.next so nw
   have B6:=B.next so nw
   have hx6:=so _ _ R.1 hxa;have hn6:=B6.s _ _ hn;have hc6:=B6.s _ _ hc;show⟨_,Z,.inl ⟨Z,_,QF.of hx6⟩,_,Z,_,Z,pc,_,_,_,Z,Z,QF.of hc6,gg iC Y,_,Z,_,Z,pn,_,_,_,Z,Z,QF.of hn6,gg eon hon,_,Z,aC,λt nt=>?_⟩;obtain⟨X7,R7⟩:=X6.Gh (d:=(cs.getD i "",us.getD on "",none,r.2.2)) R6 nt hx6;show⟨pa,_,_,Z,Z,(ah (av hx6 nt)).trans hx6,by rw[R6.len hx6]; exact aB Y,?_⟩;show⟨os',_,_,_,_,_,_,Z,X7,by rw[Nf,hds,takeI Y]; rfl,by rw[M0]; change ks.length+1=_; lia,B6.push nt hpa,R7,?_⟩;rw[uI,gZ,Kn uD hon,hM,tk];congr 2;rw[<-eon,<-eb]
  .have c:=Nr (Nl _▸c);have nb:r.2.1≠ -1:=Y;have p9:=sm2 nb;obtain⟨bs,ebs,hbs⟩: ∃bs:Nat,r.2.1=(bs:Int)/\bs < us.length:=⟨r.2.1.toNat,Y,Y⟩
   have due:aQ ⟨Q4 us,ds,ks⟩ (.link (cs.getD i "") (us.getD on "") (us.getD bs "") r.2.2)= .ok:=yD (memU on hon) (memU bs hbs) (demI hds Y) (csN i Y) ⟨k5,p9⟩ (by change ds.length < 24; lia) (by change ks.length < 150; lia);show⟨_,Z,h,dx,_,Z,I.ih,QR,_,Z,_,Z,pc,_,_,_,Z,Z,QF.of hc',gg iC Y,_,Z,_,Z,pn,_,_,_,Z,Z,QF.of hn',gg eon hon,_,Z,_,Z,pn,_,_,_,Z,Z,QF.of hn',gg ebs hbs,_,Z,h,os,_,cs.getD i "",us.getD on "",us.getD bs "",r.2.2,Z,Ng (csN i Y).2.1 aS,X.done (by change ks.length<=150; lia) due λH6 hN=>?_⟩;obtain⟨os',X6,so,nw⟩:=X.next' due hN
   have R6:=R.next so nw
   have B6:=B.next so nw
   have hx6:=so _ _ R.1 hxa;have hn6:=B6.s _ _ hn;have hc6:=B6.s _ _ hc;show⟨_,Z,.inl ⟨Z,_,QF.of hx6⟩,_,Z,_,Z,pc,_,_,_,Z,Z,QF.of hc6,gg iC Y,_,Z,_,Z,pn,_,_,_,Z,Z,QF.of hn6,gg eon hon,_,Z,_,Z,pn,_,_,_,Z,Z,QF.of hn6,gg ebs hbs,_,Z,aC,λt nt=>?_⟩;obtain⟨X7,R7⟩:=X6.Gh (d:=(cs.getD i "",us.getD on "",some (us.getD bs ""),r.2.2)) R6 nt hx6;show⟨pa,_,_,Z,Z,(ah (av hx6 nt)).trans hx6,by rw[R6.len hx6]; exact aB Y,?_⟩;show⟨os',_,_,_,_,_,_,Z,X7,by rw[Nf,hds,takeI Y]; rfl,by rw[M0]; change ks.length+1=_; lia,B6.push nt hpa,R7,?_⟩;change aA (Q4 us) (ds++[_])=_;rw[uI,gZ,K4 uD hon hbs,hM,tk];congr 2;rw[<-eon,<-ebs]
 rintro O8 H8 ⟨os,ds,ks2,v6,v7,v8,v9,rfl,X,hds,hk8,B,R,hM⟩;rw[bI] at hds hk8 hM;rw[NC] at hM;show⟨_,Z,_,Z,_,Z,λdd ndd=>⟨aC,λst nst=>⟨aC,λt nt=>?_⟩⟩⟩;have sa:=ag.upd (o:= .dK []) ndd;have sb:=ag.upd (o:= .tup [.ref pn,.ref pa,.ref dd]) nst;have sc:=ag.upd (o:= .tup [.ref h,.ref st]) nt;have s9:=sa.trans (sb.trans sc);have fr1: ∀ {b:Addr},H8 b=none->b∉os:=λ{b} e z=>by obtain⟨o,e'⟩:=X.1.has b z; rw[e] at e'; cases e'
 have pno:pn∉os:=λz=>by rw[B.n pn z] at hn; cases hn
 obtain⟨n9,vs9,hl9,hF9⟩:=R.same s9;show q t h st os ds ks2 _ (B.s.trans s9) aa (X.grow s9) hM Y ⟨pn,pa,dd,vs9,[],fr1 (sa.free nst),sc _ _ aa,pno,by rw[gZ]; exact s9 _ _ (B.s _ _ hn),n9,hl9,hF9,fr1 ndd,(sb.trans sc) _ _ aa,λm=>?_,MZ _⟩ hds B.n;rw[show bw (Q4 us) m=none from yS us m];rfl
inductive C1(K:QG)(vs:List V)(H:Hp)(Q:VK)(_E:XK):Prop|mk(ts:Addr)(os:List Addr)(n:Nat)(ms:List Mem)(ds:List QQ)(_:vs=[.ref ts])(_:LS os n H ts ms ds)(_:Rz ms ds)(_:ds.length<=1000)(_:∀(p:Addr) (H':Hp),H p=none->ag H H'->cJ K H' p (aA ms ds)->Q (.ref p) H')
theorem DE (T:Txt K mg a):QS P w K mg base 1 "_law_rules" ["_law_state"] (C1 K):=by
 show cj T.n6 dH λf c A o s H vs Q E hr h=>?_;obtain⟨ts,os,n,ms,ds,rfl,⟨ln,la,dd,vs,kvs,l⟩,db,dl,q⟩:=h;show⟨_,(ae (QJ 1 dH.nd (ba cP)) (ae (cm (eE K (QN K aT af)) (dM rfl (aJ (gn 2 dH.nd) (aJ (gn 3 dH.nd) (aJ (gn 4 dH.nd) (aJ (gn 5 dH.nd) cT))))) (ae (QJ 6 dH.nd (kH iA af)) (eh (aN (aK eR gE bK) (ai (QJ 6 dH.nd (show PE _ _ (RH K _ _ _ _) from iE NI N5 N6 kL (QN K aT af) (QH gE)))) aF) (ai (aI (ia K bY (bR (aq (show PE _ _ (RH K _ _ _ _) from iE NI N5 N6 kL (QN K aT af) (QH eX)) (aq iF (QH gT)))))))))) (ai (az bY)))),?_⟩;show⟨aC,λp np=>?_⟩;have s1:=ag.upd (o:= .lst []) np;have vl:=l.ar.length;ext:5;show⟨_,Z,ts,_,_,_,Z,Z,QK.of (s1 _ _ l.ht),Z,la,Z,⟨_,QF.of (s1 _ _ l.ha)⟩,?_⟩;show bA (xs:=vs) (λi O' H'=> ∃(v2 v3 v4 v5 v6:Option V),O'=[rW ts,rW p,v2,v3,v4,v5,v6]/\ag H H'/\cJ K H' p ((aA ms ds).take i)) ⟨none,none,none,none,none,Z,s1,[],aa,.nil⟩ (λi O' H' _ ⟨_,_,_,_,_,_,sm,_⟩=>bW (QF.of (sm _ _ l.ha))) ?_ ?_
 .rintro i x O' H' hi ⟨v2,v3,v4,v5,v6,rfl,sm,hR⟩;obtain⟨d,hd,t,rfl,_,ht⟩:=l.ar.get hi;have ht':=sm _ _ ht;have hn':=sm _ _ l.hn;have hs':=sm _ _ l.ht;obtain⟨b1,b2,b3⟩:=db d (MS hd);obtain⟨j,j1,j2⟩:=jg b1;have ej:=fN j1 j2;have il:i < ds.length:=(MW.mp hd).1;show⟨t,_,Z,QK.of ht',Z,_,_,Z,_,_,Z,_,_,Z,_,_,Z,Z,?_⟩;show⟨_,Z,?_⟩;ext:4;show⟨λO2 H2=>O2=[rW ts,rW p,some (.str d.1),some (.str d.2.1),some (xv d.2.2.1),some (.int d.2.2.2),some (.int (dw (ms.map (·.1)) d).2.1)]/\H'=H2,?_,?_⟩
  .show⟨_,Z,?_⟩;cases ed:d.2.2.1 with
   | none =>
    show⟨Z,_,Z,aP ⟨?_,Z⟩⟩;unfold dw;rw[ed]
   | some b =>
    obtain⟨k,i1,i2⟩:=jg (b2 b ed);have ei:=fN i1 i2;show⟨Z,_,Z,bu ⟨_,Z,ts,_,_,_,Z,Z,QK.of hs',Z,.inl ⟨Z,_,QF.of hn'⟩,_,Z,ln,_,b,k,Z,Z,hn',i1,i2,?_,Z⟩⟩;unfold dw;rw[ed];change _=[_,_,_,_,_,_,some (V.int (((ms.map (·.1)).idxOf b:Nat):Int))];rw[ei];rfl
  rintro O2 H2 ⟨rfl,rfl⟩;obtain⟨xs,hx,hX⟩:=id hR;show⟨_,Z,.inl ⟨Z,_,QF.of hx⟩,_,Z,ts,_,_,_,Z,Z,QK.of hs',Z,.inl ⟨Z,_,QF.of hn'⟩,_,Z,ln,_,d.2.1,j,Z,Z,hn',j1,j2,_,Z,_,Z,aC,λt nt=>?_⟩;have hx':=(ah (o:= .tup [.int ((j:Nat):Int),.int (dw (ms.map (·.1)) d).2.1,.int d.2.2.2]) (av hx nt)).trans hx;show⟨p,_,_,Z,Z,hx',by rw[hX.length,Ni]; exact aB Y,?_⟩;have er:(aA ms ds).take (i+1)=(aA ms ds).take i++[(((j:Nat):Int),(dw (ms.map (·.1)) d).2.1,d.2.2.2)]:=by
   rw[NF];congr 1;unfold aA;rw[M5,hd];change [dw (ms.map (·.1)) d]=_;rw[<-ej];rfl
  rw[er];exact⟨_,_,_,_,_,Z,sm.vf nt np,cJ.push (q:=(((j:Nat):Int),(dw (ms.map (·.1)) d).2.1,d.2.2.2)) hR nt hx⟩
 .rintro O' H' ⟨v2,v3,v4,v5,v6,rfl,sm,hR⟩;rw[vl,N2 (by unfold aA; rw[MO]; lia)] at hR;exact⟨_,Z,q p H' np sm hR⟩
inductive GD(K:QG)(vs:List V)(H:Hp)(Q:VK)(_E:XK):Prop|mk(p p':Addr)(ws:List Int)(_:vs=[.ref p,.ref p'])(_:H p=some (.lst (ws.map V.int)))(_:H p'=some (.lst (ws.map V.int)))(_:ws.length<=1000)(_:Q (.bl true) H)
theorem G0 (T:Txt K mg a):QS P w K mg base 2 "_law_row" ["_law_found","_law_due"] (GD K):=by
 show cj T.qJ t5 λf c A o s H vs Q E hr h=>?_;obtain⟨p,p',ws,rfl,hp,hp',wl,q⟩:=h;show⟨_,(ae (aN (PW.pt (g8 (fg (dz K (bP j6 (by rfl) T.dI boot_isinstance (aq aT (QH (mh (v:= .ty "list") rfl T.qH boot_list rfl)))))) (f9 (aK nK (cA K T.bT aT) (cA K T.bT bY))))) (ai (az eY)) aF) (ae (cm (dq T.bh (cA K T.bT bY)) (gn 2 t5.nd) (ai (aN (PW.pt (g8 (fg (dz K (ay (tT T:) hr.mm (QH (QI K aT dO))))) (f9 (aK nK (QI K aT dO) (QI K bY dO))))) (ai (az eY)) aF))) (ai (az eY)))),?_⟩;show⟨_,Z,_,"list",true,Z,.inl ⟨⟨_,QF.of hp⟩,.inl ⟨Z,Z⟩⟩,_,Z,aP ?_⟩;show⟨_,Z,_,_,Z,.inl ⟨_,QF.of hp,Z⟩,_,Z,_,_,Z,.inl ⟨_,QF.of hp',Z⟩,Z,_,Z,?_⟩;rw[show (!decide (V.int ((ws.map V.int).length:Nat)=V.int ((ws.map V.int).length:Nat)))=false from by simp];show aP ⟨_,Z,_,_,Z,.inl ⟨_,QF.of hp',Z⟩,_,Z,Y,by rw[MO]; lia,?_⟩;rw[M6,MO];show bA (xs:=bg 0 ws.length) (λi O' H'=> ∃v:Option V,O'=[rW p,rW p',v]/\H'=H) ⟨none,Z,Z⟩ (λi O' H' _ _=>bt) ?_ ?_
 .rintro i x O' H' hi ⟨v,rfl,rfl⟩;obtain⟨il,rfl⟩:=bj hi;show⟨_,Z,_,Z,p,_,_,_,Z,Z,QF.of hp,bH Y Y,_,Z,⟨true,false,.inl ⟨Z,Z⟩,.inr ⟨aS,Z⟩,Z⟩,_,Z,aP ?_⟩;show⟨_,Z,_,Z,p,_,_,_,Z,Z,QF.of hp,bH Y Y,_,Z,_,Z,p',_,_,_,Z,Z,QF.of hp',bH Y Y,Z,_,Z,?_⟩;rw[show (!decide (V.int (MA.g ws (0+(i:Nat)))=V.int (MA.g ws (0+(i:Nat)))))=false from by simp];exact aP ⟨_,Z,Z⟩
 .rintro O' H' ⟨v,rfl,rfl⟩;exact q
def LP (S:QM) (H H':Hp):Option (Int×Nat)->V->Prop
 | none,v=>v= .non
 | some (s,stop),v=> ∃t,v= .ref t/\H t=none/\H' t=some (.tup [.int s,.str ((aD S).getD stop "")])
inductive y6(K:QG)(vs:List V)(H:Hp)(Q:VK)(_E:XK):Prop|mk(ts pr pL:Addr)(os:List Addr)(n:Nat)(S:QM)(L:List Int)(i:Nat):vs=[.ref ts,.ref pr,.ref pL,.int (i:Nat)]->LS os n H ts S.ms S.ds->Ro S.ms S.ds->Rz S.ms S.ds->cJ K H pr (aA S.ms S.ds)->H pL=some (.lst (L.map V.int))->L.length=S.ms.length->i < S.ms.length->(∀H',ag H H'->MA.nj S.ms.length (aA S.ms S.ds) L (bZ S) (i:Nat) S.ms.length none->Q .non H')->(∀(t:Addr) (s:Int) (stop:Nat) (H':Hp),H t=none->ag H H'->H' t=some (.tup [.int s,.str ((aD S).getD stop "")])->MA.nj S.ms.length (aA S.ms S.ds) L (bZ S) (i:Nat) S.ms.length (some (s,stop))->Q (.ref t) H')->y6 K vs H Q _E
theorem ze (T:Txt K mg a):QS P w K mg base 2 "_law_slack_due" ["_law_state","_law_rules_here","_law_widths","_law_member"] (y6 K):=by
 show cj T.jw cS λf c A o s H vs Q E hr h=>?_;obtain⟨ts,pr,pL,os,n,S,L,i,rfl,hls,g,db,hR,hpL,hL,il,q1,q2⟩:=h;show⟨_,(ae (QJ 4 cS.nd (QI K (ay (yo T:) hr.mm (aq (cA K T.bT dO) (QH bY))) eX)) (ae (QJ 5 cS.nd (ay (vZ T:) hr.mm (QH aT))) (ae (QJ 6 cS.nd bK) (ae (cm (dq T.bh (cA K T.bT dO)) (gn 7 cS.nd) (ai (aN (PW.pt (dy (aK eR (QI K gT iN) bK) (dj (aK pF (QI K gE iN) af)))) (ae (QJ 8 cS.nd (au jD (au jD (QI K gT iN) (QI K gE iN)) (QI K dO eX))) (ai (aN (PW.pt (g8 (aK kW iF bK) (f9 (aK kG iS (QN K iF af))))) (ai (QJ 6 cS.nd (bR (aq iS (QH (QI K (QN K aT af) iN)))))) aF))) aF))) (ai (az iF)))))),?_⟩;obtain⟨ln,la,dd,vs,kvs,l⟩:=id hls;have k:=ez db;have ml:=g.ml;ext:9;show⟨_,Z,_,_,Z,.inl ⟨_,QF.of hpL,Z⟩,_,Z,?_⟩;rw[MO,hL];show⟨S.ms.length,pr,aA S.ms S.ds,Z,Y,hR.RD,k,λp ds H1 m=>?_⟩;obtain⟨d,hd,ha,hrow⟩:=m.at (a:=((i:Nat):Int)) Y Y;rw[M6] at hrow;show⟨_,Z,p,_,_,_,Z,Z,QF.of m.top,ha,hR1 [rW ts,rW pr,rW pL,some (.int (i:Nat)),rW d,none,none,none,none] _ ?_⟩;have s1:=m.sm;clear m ha hd;ext:9;show⟨_,Z,ts,os,n,S.ms,S.ds,Z,hls.same s1,g.mn,Y,λpc H2 npc s2 hpc=>hR1 _ _ ?_⟩;ext:9;show hR1 _ _ ?_;ext:4;have s02:=s1.trans s2;have hpL2:=s02 _ _ hpL;have hn2:=s02 _ _ l.hn;have ht2:=s02 _ _ l.ht;have hrow2:=s2 _ _ hrow;ext:9;show⟨_,Z,_,_,Z,.inl ⟨_,QF.of hpL2,Z⟩,_,Z,Y,by rw[MO,hL]; lia,?_⟩;rw[M6,MO,hL];show cF (xs:=bg 0 S.ms.length) (λj O' H'=> ∃(o:Option (Int×Nat)) (vd:V) (v7 v8:Option V),O'=[rW ts,rW pr,rW pL,some (.int (i:Nat)),rW d,rW pc,some vd,v7,v8]/\ag H2 H'/\MA.nj S.ms.length (aA S.ms S.ds) L (bZ S) (i:Nat) j o/\LP S H H' o vd) ⟨none,.non,none,none,Z,ag.refl _,MA.KJ,Z⟩ (λj O' H' _ _=>bt) ?_ ?_
 .rintro j x O' H' D2 nx2 - hi ⟨o,vd,v7,v8,rfl,sm,hP,hV⟩;obtain⟨jn,rfl⟩:=bj hi;rw[Pe];ext:4;have tl:(bZ S).length=S.ms.length:=by unfold bZ; rw[MO]
  have hca:=L2.uH (cs:=bZ S) (k:=j) Y;have hpc':=sm _ _ hpc;have hrow':=sm _ _ hrow2;have hn':=sm _ _ hn2;have ht':=sm _ _ ht2;have hpL':=sm _ _ hpL2;have arow:=jf (M:=MA.aE S.ms.length (aA S.ms S.ds)) (i:=i) (b:=((j:Nat):Int)) (n:=S.ms.length) Y Y;rw[M6] at arow;have aL:=bH (ws:=L) (i:=((i:Nat):Int)) Y Y;have an:QV ((S.ms.map (·.1)).map V.str) ((j:Nat):Int)=some (.str ((aD S).getD j "")):=bz (by rw[M5,show (S.ms.map (·.1))[j]?=some ((aD S).getD j "") from L2.getD_at (by rw[MO]; exact jn)]; rfl);have skip:(∀c,(bZ S).getD j none=some c->MA.aE S.ms.length (aA S.ms S.ds) i j < 0)-> ∀v8,D2.nx [rW ts,rW pr,rW pL,some (.int (i:Nat)),rW d,rW pc,some vd,some (.int (j:Nat)),v8] H':=λz v8=>nx2 _ _ ⟨o,vd,_,v8,Z,sm,MA.Eu hP (by rw[M6]; exact z),hV⟩;show⟨_,Z,_,Z,pc,_,_,_,Z,Z,QF.of hpc',hca,Z,_,Z,?_⟩;cases e:(bZ S).getD j none with
  | none=>exact aP (aP (skip (λc hc=>by rw[e] at hc; cases hc) _))
  | some c0 =>
   rw[e] at hca;show bu ⟨_,Z,_,Z,d,_,_,_,Z,Z,QF.of hrow',arow,_,_,Z,Z,_,Z,?_⟩;show bo (λz=>?_) (λz=>skip (λc _=>by have:=mt Nv z; lia) _);have z:=M9 z;show bM λD3 hR3 _=>?_;show⟨_,Z,_,Z,pc,_,_,_,Z,Z,QF.of hpc',hca,_,Z,_,Z,d,_,_,_,Z,Z,QF.of hrow',arow,_,_,Z,Z,_,Z,_,Z,pL,_,_,_,Z,Z,QF.of hpL',aL,_,_,Z,Z,hR3 _ _ ?_⟩;ext:4;have less:(∀s stop,o=some (s,stop)->c0 - MA.aE S.ms.length (aA S.ms S.ds) i j - MA.g L ((i:Nat):Int) < s)->uX (IU (nB (pO 8) (nB (Ry (xB K) (Ry (vB K) (pO 0) (tC (.int 0))) (pO 7)) m8))) (aM 6) D2 [rW ts,rW pr,rW pL,some (.int (i:Nat)),rW d,rW pc,some vd,some (.int (j:Nat)),some (.int (c0 - MA.aE S.ms.length (aA S.ms S.ds) i j - MA.g L ((i:Nat):Int)))] H':=λy=>by
    show⟨_,Z,_,Z,ts,_,_,_,Z,Z,QK.of ht',Z,_,Z,ln,_,_,_,Z,Z,QF.of hn',an,aC,λt nt=>nx2 _ _ ⟨_,_,_,_,Z,sm.trans (ag.upd nt),MA.Er hP e (by rw[M6]; exact z) (by rw[M6]; exact y),t,Z,(s02.trans sm).free nt,?_⟩⟩;rw[aa,M6]
   show⟨_,Z,Z,_,Z,?_⟩;cases o with
   | none =>
    obtain rfl:vd= .non:=hV;exact bu (bu (less (λs stop z=>by cases z)))
   | some so =>
    obtain⟨s,stop⟩:=so;obtain⟨t,rfl,nt,ht⟩:=hV;show aP ⟨_,Z,_,Z,t,_,_,_,Z,Z,QK.of ht,Z,_,_,Z,Z,_,Z,?_⟩;show bo (λy=>?_) (λy=>?_);.exact less (λs' stop' z=>by cases z; exact M9 y)
    .have y:=mt Nv y;exact nx2 _ _ ⟨some (s,stop),.ref t,_,_,Z,sm,MA.F0 hP e (by rw[M6]; exact y),t,Z,nt,ht⟩
 .rintro O' H' ⟨o,vd,v7,v8,rfl,sm,hP,hV⟩;rw[bI] at hP;show hR1 _ _ ⟨_,Z,?_⟩;cases o with
  | none =>
   obtain rfl:vd= .non:=hV;exact q1 _ (s02.trans sm) hP
  | some so =>
   obtain⟨s,stop⟩:=so;obtain⟨t,rfl,nt,ht⟩:=hV;exact q2 t s stop _ nt (s02.trans sm) ht hP
inductive GJ(K:QG)(a:Adr)(vs:List V)(H:Hp)(Q:VK)(_E:XK):Prop|mk(h ts pr pL:Addr)(os xs:List Addr)(n:Nat)(S:QM)(L:List Int)(_:vs=[.ref h,.ref ts,.ref pr,.ref pL])(_:RK H h os S a.House)(_:LS xs n H ts S.ms S.ds)(_:cJ K H pr (aA S.ms S.ds))(_:H pL=some (.lst (L.map V.int)))(_:aX S=some L)(_:∀H',ag H H'->Q (.bl true) H')
theorem HZ (T:Txt K mg a):QS P w K mg base 9 "_law_members_right" ["_law_house","_law_state","_law_rules_here","_law_widths"] (GJ K a):=by
 show cj T.gv de λf c A o s H vs Q E hr h=>?_;obtain⟨h,ts,pr,pL,os,xs,n,S,L,rfl,hQ,hls,hR,hpL,eL,q⟩:=h;obtain⟨hI,g,db,cp⟩:=id hQ;obtain⟨ln,la,dd,vs,kvs,l⟩:=id hls;have k:=ez db;have ml:=g.ml;have dl24:=g.dl;obtain⟨e1,e2⟩:=fD eL;obtain⟨l1,l2,l3,l4⟩:=MA.bX k e1;have vl:=l.ar.length;show⟨_,(ae (cm (dq T.bh (cA K T.bT eX)) (gn 4 de.nd) (ae (QJ 5 de.nd (ay (wL T:) hr.mm (aq (cA K T.bT eX) (aq dO (aq eX (QH gE)))))) (ae (aN (fg (dz K (ay (Ej T:) hr.mm (aq (c5 T.aw.cl (C6 T:) hr.mm aT (QH (QI K (QN K bY af) gE))) (QH (iZ eF ["_law_place"] ["_law_state"] [1] Rr (eE K gT) (λC s2 H2 fp=>⟨(gn 0 (Q6 ["_law_place","_law_state"])),dR,(QN K (QI K (QN K bY af) aT) af)⟩))))))) (ai (az eY)) aF) (ae (QJ 6 de.nd (ay (ze T:) hr.mm (aq bY (aq dO (aq eX (QH gE)))))) (ae (QJ 7 de.nd (c5 T.aw.cl (Dd T:) hr.mm aT (QH (QI K (QN K bY af) gE)))) (ae (aN (PW.pt (dy (aK kW iF bK) (dj (aK eR iN bK)))) (ai (az eY)) aF) (ai (aN (PW.pt (dy (aK eR iF bK) (dj (PW.pt (g8 (fg (dz K (bP j6 (by rfl) T.dI boot_isinstance (aq iN (QH (mh (v:= .ty "tuple") rfl T.u7 boot_tuple rfl)))))) (g8 (fg (dz K (ay (tT T:) hr.mm (QH (QN K iN af))))) (f9 (aK (show QU _ _ (Js K) from Jm (dF hr)) iN iF)))))))) (ai (az eY)) aF)))))))) (ai (az eY))),?_⟩;show bM λD1 hR1 rt1=>?_;show⟨_,Z,_,_,Z,.inl ⟨_,QF.of hpL,Z⟩,_,Z,Y,by rw[MO,l1]; lia,?_⟩;rw[M6,MO,l1];show cF (xs:=bg 0 S.ms.length) (λj O' H'=> ∃v4 v5 v6 v7:Option V,O'=[rW h,rW ts,rW pr,rW pL,v4,v5,v6,v7]/\ag H H') ⟨none,none,none,none,Z,ag.refl _⟩ (λj O' H' _ _=>bt) ?_ ?_
 .rintro i x O' H' D2 nx2 - hi ⟨v4,v5,v6,v7,rfl,sm⟩;obtain⟨il,rfl⟩:=bj hi;rw[Pe];ext:4;have ym:(aD S).getD i "" ∈ aD S:=MS (L2.getD_at (by change i < (S.ms.map (·.1)).length; rw[MO]; exact il));have ix:(aD S).idxOf ((aD S).getD i "")=i:=jb g.mn (by change i < (S.ms.map (·.1)).length; rw[MO]; exact il);have an:QV ((S.ms.map (·.1)).map V.str) ((i:Nat):Int)=some (.str ((aD S).getD i "")):=bz (by rw[M5,show (S.ms.map (·.1))[i]?=some ((aD S).getD i "") from L2.getD_at (by rw[MO]; exact il)]; rfl);show bM λD3 hR3 _=>?_;show⟨_,Z,_,_,Z,.inl ⟨_,QF.of (sm _ _ hpL),Z⟩,_,Z,_,Z,_,Z,?_⟩;rw[MO,l1];show⟨S.ms.length,pr,pL,aA S.ms S.ds,L,((i:Nat):Int),Z,ml,by rw[eU]; exact dl24,(hR.same sm).RD,k,QF.of (sm _ _ hpL),e1,Y,Y,λw ps H14 nw s14 hw hC=>hR3 _ _ ?_⟩;dsimp only[List.set];have s15:=sm.trans s14;have lw: ∀j∈ps,j < S.ds.length:=λj hj=>by have:=hC.lt j hj; rw[eU] at this; exact this
  have RF:=hC.RF ⟨k,l2,l3,l1⟩;obtain⟨dx,p0,q0,r0,is,kv,eo,I⟩:=id (hI.grow λb o _ e=>s15 _ _ e);show bM λD3 hR3 _=>?_;show⟨_,Z,h,dx,_,Z,I.ih,QR,_,Z,ts,_,_,_,Z,Z,QK.of (s15 _ _ l.ht),Z,_,Z,ln,_,_,_,Z,Z,QF.of (s15 _ _ l.hn),an,h,os,S,_,L,Z,⟨hI.grow λb o _ e=>s15 _ _ e,g,db,cp⟩,ym,eL,λpcn ps2 H17 npc s17 hpc hC2=>?_⟩;rw[ix] at hC2;obtain rfl:=MA.cV.one hC hC2;have hw17:=s17 _ _ hw;have s18:=s15.trans s17;show⟨_,Z,w,Z,⟨_,QF.of hw17⟩,?_⟩;show kY (xs:=aH ps) (bW (QF.of hw17)) (λv=>match v with | .int j=> .str ((aV S).getD j.toNat "") | _=> .non) (by unfold aH; rw[MO]; exact aB Y) (λx hx R hR=>?_) (λpz npz=>?_)
  .obtain⟨j,hj,rfl⟩:=Ny.mp hx;have jl:=lw j hj;obtain⟨v,hv⟩: ∃v,vs[j]?=some v:=⟨_,MQ Y⟩
   obtain⟨d,hd,td,rfl,_,htd⟩:=l.ar.get hv;show⟨_,Z,ts,_,_,_,Z,Z,QK.of (s18 _ _ l.ht),Z,_,Z,la,_,_,_,Z,Z,QF.of (s18 _ _ l.ha),bz hv,td,_,_,_,Z,Z,QK.of (s18 _ _ htd),Z,?_⟩;have hR:R (.str ((aV S).getD j "")) H17:=hR;have e:(aV S).getD j "" = d.1:=by
    change (S.ds.map λd:QQ=>d.1).getD j "" = d.1;rw[MX,M5,hd];rfl
   rw[e] at hR;exact hR
  have e:(aH ps).map (λv=>match v with | .int j=>V.str ((aV S).getD j.toNat "") | _=> .non)=(dQ S ps).map V.str:=by
   unfold aH dQ;simp only[N1];rfl
  rw[e];have sz:=ag.upd (o:= .lst ((dQ S ps).map V.str)) npz;show⟨pcn,pz,dQ S ps,Z,sz _ _ hpc,QF.of aa,by unfold dQ; rw[MO]; lia,λy hy=>?_,true,Z,aP (hR3 _ _ ?_)⟩
  .obtain⟨j,hj,rfl⟩:=Ny.mp hy;have:=g.dN _ (show (aV S).getD j "" ∈ aV S from MS (L2.getD_at (by change j < (S.ds.map λd:QQ=>d.1).length; rw[MO]; exact lw j hj)));exact Ng this.len aS
  have s19:=s18.trans sz;generalize upd H17 pz (.lst ((dQ S ps).map V.str))=H18 at s19;clear sz npz hpc s17 npc hw17 hw hC2 hC lw RF s14 nw s15 s18 I;show bM λD3 hR3 _=>?_;show⟨_,Z,_,Z,_,Z,_,Z,ts,pr,pL,xs,n,S,L,i,Z,hls.same s19,g,db,hR.same s19,s19 _ _ hpL,l1,il,λH20 s20 hP=>hR3 _ _ ?_,λt sl stop H20 nt s20 ht hP=>hR3 _ _ ?_⟩
  .dsimp only[List.set];have s21:=s19.trans s20;obtain⟨dx,p0,q0,r0,is,kv,eo,I⟩:=id (hI.grow λb o _ e=>s21 _ _ e);show bM λD3 hR3 _=>?_;show⟨_,Z,h,dx,_,Z,I.ih,QR,_,Z,ts,_,_,_,Z,Z,QK.of (s21 _ _ l.ht),Z,_,Z,ln,_,_,_,Z,Z,QF.of (s21 _ _ l.hn),an,h,os,S,_,L,Z,⟨hI.grow λb o _ e=>s21 _ _ e,g,db,cp⟩,ym,eL,λH22 s22 hS=>hR3 _ _ ?_,λt' sl' stop' H22 _ _ _ _ hS=>?_⟩
   .dsimp only[List.set];show bM λD3 hR3 _=>?_;exact⟨_,Z,Z,_,Z,bu ⟨_,Z,Z,_,Z,aP (hR3 _ _ ⟨_,Z,Z,_,Z,aP (aP (nx2 _ _ ⟨_,_,_,_,Z,s21.trans s22⟩))⟩)⟩⟩
   .rw[ix] at hS;have:=MA.tX hP hS;cases this
  .dsimp only[List.set];have s21:=s19.trans s20;obtain⟨dx,p0,q0,r0,is,kv,eo,I⟩:=id (hI.grow λb o _ e=>s21 _ _ e);show bM λD3 hR3 _=>?_;show⟨_,Z,h,dx,_,Z,I.ih,QR,_,Z,ts,_,_,_,Z,Z,QK.of (s21 _ _ l.ht),Z,_,Z,ln,_,_,_,Z,Z,QF.of (s21 _ _ l.hn),an,h,os,S,_,L,Z,⟨hI.grow λb o _ e=>s21 _ _ e,g,db,cp⟩,ym,eL,λH22 s22 hS=>?_,λt' sl' stop' H22 _ s22 _ ht' hS=>hR3 _ _ ?_⟩
   .rw[ix] at hS;have:=MA.tX hP hS;cases this
   .rw[ix] at hS;have:=MA.tX hP hS;cases this;dsimp only[List.set];show bM λD3 hR3 _=>?_;show⟨_,Z,Z,_,Z,aP (aP (hR3 _ _ ?_))⟩;show⟨_,Z,Z,_,Z,bu ⟨_,Z,_,"tuple",true,Z,.inr ⟨⟨_,QK.of ht'⟩,.inl ⟨Z,Z⟩⟩,_,Z,aP ?_⟩⟩;show⟨_,Z,t',_,_,_,Z,Z,QK.of ht',Z,.int sl,Z,⟨true,false,.inl ⟨Z,Z⟩,.inr ⟨aS,Z⟩,Z⟩,_,Z,aP ?_⟩;show⟨_,Z,_,Z,t',t,_,_,Z,Z,QK.of ht',QK.of (s22 _ _ ht),Z,Z,_,Z,?_⟩;rw[vV (xs:=[V.int sl,V.str ((aD S).getD stop "")]) rfl];exact aP (nx2 _ _ ⟨_,_,_,_,Z,s21.trans s22⟩)
 .rintro O' H' ⟨v4,v5,v6,v7,rfl,sm⟩;exact hR1 _ _ (q _ sm)
theorem Lx {t u:TS}{D:Ends}{O:St}(M:St->Hp->Prop) (h: ∀D':Ends,(∀O' H',M O' H'->D'.nx O' H')->t D' O H) (k: ∀O' H',M O' H'->u D O' H'):FA t u D O H:=bM λD' hR _=>h D' λO' H' m=>hR O' H' (k O' H' m)
theorem SQ {t:TT}{A B:TS}{D:Ends}{O:St}(M:Bool->Hp->Prop) (ht: ∀Q:Bool->Hp->Prop,(∀c H',M c H'->Q c H')->t O H Q) (hA: ∀H',M true H'->A D O H') (hB: ∀H',M false H'->B D O H'):Jl t A B D O H:=ht _ λc H' m=>by
 cases c;.exact aP (hB H' m)
 .exact bu (hA H' m)
def rV (S:QM) (H:Hp) (v:V):Prop:=(aY S.ms.length (aA S.ms S.ds)=none/\ ∃t p,v= .ref t/\H t=some (.tup [.str "ring",.ref p]))\/((∃L,aX S=some L)/\v= .non)\/ ∃(L:List Int) (i:Nat) (nm:Str) (t p:Addr),aY S.ms.length (aA S.ms S.ds)=some L/\MA.b9 L (bZ S)=some i/\v= .ref t/\H t=some (.tup [.str "wide",.str nm,.ref p])
theorem rV.same {v:V}(s:ag H H') (h:rV S H v):rV S H' v:=by
 rcases h with⟨a,t,p,b,c⟩ | h | ⟨L,i,nm,t,p,a,b,c,d⟩
 .exact .inl ⟨a,t,p,b,s _ _ c⟩
 .exact .inr (.inl h)
 .exact .inr (.inr ⟨L,i,nm,t,p,a,b,c,s _ _ d⟩)
def Ga (b:Bool):Str:=if b then "ring" else "wide"
theorem Ca(db:Rz S.ms S.ds){H:Hp}{v:V}(h:rV S H v) (e:aX S=none): ∃t r,v= .ref t/\H t=some (.tup (.str (Ga (MA.df S.ms.length (aA S.ms S.ds)))::r)):=by
 have k:=ez db;rcases h with⟨a,t,p,b,c⟩ | ⟨⟨L,z⟩,_⟩ | ⟨L,i,nm,t,p,a,b,c,d⟩
 .have:MA.df S.ms.length (aA S.ms S.ds)=true:=by
   cases er:MA.df S.ms.length (aA S.ms S.ds) with
   | true=>rfl
   | false =>
    obtain⟨L,eL,_⟩:=(sR db).2 er;rw[a] at eL; cases eL
  rw[this];exact⟨t,_,b,c⟩
 .rw[e] at z; cases z
 .have:MA.df S.ms.length (aA S.ms S.ds)=false:=by
   cases er:MA.df S.ms.length (aA S.ms S.ds) with
   | false=>rfl
   | true=>exact absurd (MA.bX k a).2.1 (MA.rJ k er _)
  rw[this];exact⟨t,_,c,d⟩
theorem B3 {v:V}(h:rV S H v) (e:aX S=some L):v= .non:=by
 obtain⟨e1,e2⟩:=fD e;rcases h with⟨a,_⟩ | h | ⟨L',i,nm,t,p,a,b,_⟩
 .rw[e1] at a; cases a
 .exact h.2
 .rw[e1] at a; cases a;rw[e2] at b; cases b
inductive Ep(K:QG)(a:Adr)(vs:List V)(H:Hp)(Q:VK)(_E:XK):Prop|mk(h ts pc:Addr)(os xs:List Addr)(n:Nat)(S:QM)(cs:List Str)(_:vs=[.ref h,.ref ts,.ref pc])(_:RK H h os S a.House)(_:LS xs n H ts S.ms S.ds)(_:QF K H pc (cs.map V.str))(_:∀H',ag H H'->Q (.bl true) H')
theorem xT (T:Txt K mg a):QS P w K mg base 10 "_law_right" ["_law_house","_law_state","_law_calls"] (Ep K a):=by
 show cj T.nR dc λf c A o s H vs Q E hr h=>?_;obtain⟨h,ts,pc,os,xs,n,S,cs,rfl,hQ,hls,hpc,q⟩:=h;show⟨_,(ae (QJ 3 dc.nd (ay (DE T:) hr.mm (QH bY))) (ae (QJ 4 dc.nd (cA K T.bT (QN K bY af))) (ae (QJ 5 dc.nd (i9 T.aw.cl (yM T:) hr.mm aT)) (ae (QJ 6 dc.nd (ay (qC T:) hr.mm (aq gE (QH eX)))) (ae (aN (PW.pt (g8 (dz K (ay (vW T:) hr.mm (aq gE (QH eX)))) (f9 (aK pF (ay (Cr T:) hr.mm (aq iF (QH (ay (vZ T:) hr.mm (QH bY))))) af)))) (ae (QJ 7 dc.nd (QI K (ba (aq bS (QH bS))) (kK Cw (by rfl) T.xp boot_int (QH (ay (vW T:) hr.mm (aq gE (QH eX))))))) (ai (az (iw (kZ (iK (show QU _ _ (Iq K) from IK (dF hr)) (ay (y8 T:) hr.mm (QH aT)) (bR (QH bS))) (kZ (iK eR gT bK) (lh (iK cw (QN K gT af) iN)))))))) aF) (ae (aN (PW.pt (g8 (aK eR gT bK) (f9 (fg (dz K (ay (G0 T:) hr.mm (aq (i9 T.aw.cl (AY T:) hr.mm aT) (QH iF)))))))) (ai (az eY)) aF) (ae (cm (dq T.bh (cA K T.bT eX)) (gn 8 dc.nd) (ai (aN (BB (SO K) (QN K (QI K (QN K bY af) iS) af) dO) (ae (QJ 9 dc.nd (c5 T.aw.cl (Es T:) hr.mm aT (QH (QN K (QI K (QN K bY af) iS) af)))) (ae (QJ 10 dc.nd (ay (qC T:) hr.mm (aq gE (QH (au fE (cK (RA K) eX dS (cM iS)) (cK (RA K) eX (cM (au bE iS af)) dS)))))) (ai (aN (PW.pt (g8 (fg (dz K (ay (tT T:) hr.mm (QH lE)))) (f9 (aK nK lE (au jD (bP (show du _ _ (xW K) from pV rfl) (by rfl) T.r6 boot_sum (QH iF)) (bP (show du _ _ (xW K) from pV rfl) (by rfl) T.r6 boot_sum (QH lT))))))) (ai (az eY)) aF)))) aF))) (ai (az (ay (HZ T:) hr.mm (aq aT (aq bY (aq eX (QH iF)))))))))))))),?_⟩;obtain⟨hI,g,db,cp⟩:=id hQ;obtain⟨ln,la,dd,vs,kvs,l⟩:=id hls;have k:=ez db;have ml:=g.ml;have dl:=g.dl;have vl:=l.ar.length;obtain⟨wr1,wr2⟩:=sR db;have lw:(MA.cB S.ms.length (aA S.ms S.ds)).length=S.ms.length:=MA.tU;ext:9;show⟨_,Z,ts,xs,n,S.ms,S.ds,Z,hls,db,Y,λpr H1 npr s1 hR=>hR1 [rW h,rW ts,rW pc,rW pr,none,none,none,none,none,none,none] _ ?_⟩;ext:9;show⟨_,Z,ts,_,_,_,Z,Z,QK.of (s1 _ _ l.ht),Z,_,_,Z,.inl ⟨_,QF.of (s1 _ _ l.hn),Z⟩,?_⟩;rw[MO,MO];show hR1 _ _ ?_;dsimp only[List.set];show Lx (λO' H'=> ∃v,O'=[rW h,rW ts,rW pc,rW pr,some (.int (S.ms.length:Nat)),some v,none,none,none,none,none]/\ag H1 H'/\rV S H' v) (λD3 hR3=>?_) ?_
 .obtain⟨dx,p0,q0,r0,is,kv,eo,I⟩:=id (hI.grow λb o _ e=>s1 _ _ e);exact⟨_,Z,h,dx,_,Z,I.ih,QR,h,os,S,Z,⟨hI.grow λb o _ e=>s1 _ _ e,g,db,cp⟩,λt p way H' a _ _ _ _ s' _ ht=>hR3 _ _ ⟨_,Z,s',.inl ⟨a,t,p,Z,ht⟩⟩,λL e H' s'=>hR3 _ _ ⟨_,Z,s',.inr (.inl ⟨⟨L,e⟩,Z⟩)⟩,λL i t p ps H' a b _ _ _ _ s' _ ht=>hR3 _ _ ⟨_,Z,s',.inr (.inr ⟨L,i,_,t,p,a,b,Z,ht⟩)⟩⟩
 rintro O' H2 ⟨v,rfl,s2,hv⟩;ext:9;show⟨_,Z,_,Z,S.ms.length,pr,aA S.ms S.ds,Z,Y,(hR.same s2).RD,k,λpL H3 npL s3 hpL=>hR1 _ _ ?_⟩;dsimp only[List.set];have s13:=s2.trans s3;have s03:=s1.trans s13;have hR3:=hR.same s13;have hv3:=hv.same s3;clear hv s2 s3 hR npr npL;show bM λD1 hR1 rt1=>?_;show SQ (λc H'=>ag H3 H'/\c=decide (aX S=none)) (λQ' hM=>?_) (λH4 ⟨s4,e4⟩=>?_) (λH4 ⟨s4,e4⟩=>hR1 _ _ ?_)
 .show⟨_,Z,_,Z,S.ms.length,pr,_,Z,Y,hR3.RD,k,λH4 s4=>⟨_,Z,?_⟩⟩;cases er:MA.df S.ms.length (aA S.ms S.ds) with
  | true=>exact bu (hM _ _ ⟨s4,by rw[wr1 er]; rfl⟩)
  | false =>
   obtain⟨L,eL,eLL,w1,w2⟩:=wr2 er;have s14:=s03.trans s4;show aP ⟨_,Z,_,Z,ts,xs,n,S.ms,S.ds,Z,hls.same s14,g.mn,Y,λpc' H5 npc s5 hpc'=>?_⟩;show⟨pL,_,pc',S.ms.map (·.2),Z,QF.of (s5 _ _ (s4 _ _ hpL)),QF.of hpc',by rw[lw,MO],Y,_,_,Z,Z,_,Z,hM _ _ ⟨s4.trans s5,?_⟩⟩;rw[eLL];change decide (0<=IQ (MA.b9 L (nH S)))=_;cases e:MA.b9 L (nH S) with
   | none=>rw[w1 e]; rfl
   | some j =>
    rw[w2 (by rw[e]; intro z; cases z)];change decide ((0:Int)<=((j:Nat):Int))=true;rw[Nv Y]
 .have wn:aX S=none:=M9 e4.symm;have s14:=s03.trans s4;obtain⟨t,rr,rfl,ht⟩:=Ca db (hv3.same s4) wn;show bM λD1 hR1' _=>?_;show⟨aC,λe0 ne0=>⟨_,Z,_,Z,S.ms.length,pr,_,Z,Y,((hR3.same s4).same (ag.upd ne0)).RD,k,λH6 s6=> .inr ⟨_,Z,e0,_,_,.str (Ga (MA.df S.ms.length (aA S.ms S.ds))),Z,Z,QF.of (s6 _ _ aa),?_,hR1' _ _ ?_⟩⟩⟩;.cases MA.df S.ms.length (aA S.ms S.ds) <;> rfl
  dsimp only[List.set];have s46:=(ag.upd (o:= .lst [.str "wide",.str "ring"]) ne0).trans s6;have s16:=s14.trans s46;show⟨λv' H'=>ag H6 H'/\v'= .bl true,?_,λv' H' ⟨s',e'⟩=>by rw[e']; exact rt1 _ _ (q _ (s16.trans s'))⟩;show⟨_,Z,h,os,S,Z,⟨hI.grow λb o _ e=>s16 _ _ e,g,db,cp⟩,λ_ t2 H7 nt2 s7 ht2=>?_,λL2 e=>(by rw[wn] at e; cases e)⟩;show⟨aC,λu nu=>?_⟩;have su:=ag.upd (o:= .tup [.str "refused"]) nu;show⟨t2,u,_,Z,Z,QK.of aa,Z,.inr ⟨_,QK.of (su _ _ ht2),Z,?_⟩⟩;rw[vV (xs:=[V.str "refused"]) rfl];show⟨true,Z,bu ⟨_,Z,Z,true,Z,bu ⟨_,Z,t,_,_,_,Z,Z,QK.of (su _ _ (s7 _ _ (s46 _ _ ht))),(show QV _ ((0:Nat):Int)=_ from bz rfl),_,Z,Z,s7.trans su,?_⟩⟩⟩;rw[Nv rfl]
 have wn:aX S≠none:=Nr e4.symm;obtain⟨L,eL⟩:=Option.ne_none_iff_exists'.mp wn;obtain⟨e1,e2⟩:=fD eL;have eLL:MA.cB S.ms.length (aA S.ms S.ds)=L:=MA.nL k e1;rw[eLL] at hpL;obtain rfl:=B3 hv3 eL;have ll:=nI k e1;have s14:=s03.trans s4;have hR4:=hR3.same s4;have hpL4:=s4 _ _ hpL;clear hv3 wr1 wr2 lw e4 wn hR3 hpL s13 s03 s4 eLL;ext:9;obtain⟨dx,p0,q0,r0,is,kv,eo,I⟩:=id (hI.grow λb o _ e=>s14 _ _ e);show⟨_,Z,Z,_,Z,aP ⟨_,Z,h,dx,_,Z,I.ih,QR,h,os,S,L,Z,hI.grow λb o _ e=>s14 _ _ e,g,db,eL,λpw H5 npw s5 hpw=>?_⟩⟩;show⟨_,Z,pw,pL,L,Z,hpw,s5 _ _ hpL4,Y,true,Z,aP (hR1 _ _ ?_)⟩;have s15:=s14.trans s5;have hR5:=hR4.same s5;have hpL5:=s5 _ _ hpL4;clear I hpw npw s5 hR4 hpL4 s14;obtain⟨ys,hy,hY⟩:=id hR5;have yl:ys.length=S.ds.length:=by rw[hY.length]; unfold aA; rw[MO]
 ext:9;show⟨_,Z,_,_,Z,.inl ⟨_,QF.of hy,Z⟩,_,Z,Y,Y,?_⟩;rw[M6,yl];show cF (xs:=bg 0 S.ds.length) (λi O' H'=> ∃(v8 v9 v10:Option V),O'=[rW h,rW ts,rW pc,rW pr,some (.int (S.ms.length:Nat)),some .non,rW pL,none,v8,v9,v10]/\ag H5 H') ⟨none,none,none,Z,ag.refl _⟩ (λi O' H' _ _=>bt) ?_ ?_
 .rintro i x O' H' D2 nx2 - hi ⟨v8,v9,v10,rfl,sm⟩;obtain⟨il,rfl⟩:=bj hi;rw[Pe];ext:4;obtain⟨d,hd1⟩: ∃d,S.ds[i]?=some d:=⟨_,MQ il⟩
  obtain⟨v,hv,td,rfl,_,htd⟩:=l.ar.at' hd1;have s16:=s15.trans sm;have ht6:=s16 _ _ l.ht;have ha6:=s16 _ _ l.ha;have hd6:=s16 _ _ htd;have ym:d.1∈aV S:=Ny.mpr ⟨d,MS hd1,Z⟩;have yi:(aV S).idxOf d.1=i:=by
   show fN (by unfold aV; rw[M5,hd1]; rfl) λm hm e=>?_;obtain⟨a1,b1⟩:=MW.mp e;have hs2:i < (aV S).length:=(by unfold aV; rw[MO]; exact il);have:=(OY (h₀:=a1) (h₁:=hs2) g.dn).mp (by
    rw[b1];have:(aV S)[i]?=some d.1:=(by unfold aV; rw[M5,hd1]; rfl);exact (MW.mp this).2.symm)
   lia
  obtain⟨L',eL'⟩:=we k e1 (rs':=(aA S.ms S.ds).take i++(aA S.ms S.ds).drop (i+1)) vH;show⟨_,Z,ts,_,_,_,Z,Z,QK.of ht6,Z,_,Z,la,_,_,_,Z,Z,QF.of ha6,bz hv,td,_,_,_,Z,Z,QK.of hd6,Z,_,Z,pc,_,Z,.inl (s16.seq hpc),Z,jd _,_,Z,?_⟩;show bo (λ_=>?_) (λ_=>nx2 _ _ ⟨_,_,_,Z,sm⟩);show bM λD3 hR3 _=>?_;obtain⟨dx,p0,q0,r0,is,kv,eo,I⟩:=id (hI.grow λb o _ e=>s16 _ _ e);show⟨_,Z,h,dx,_,Z,I.ih,QR,_,Z,ts,_,_,_,Z,Z,QK.of ht6,Z,_,Z,la,_,_,_,Z,Z,QF.of ha6,bz hv,td,_,_,_,Z,Z,QK.of hd6,Z,h,os,S,d.1,L,L',Z,⟨hI.grow λb o _ e=>s16 _ _ e,g,db,cp⟩,ym,eL,by rw[yi]; exact eL',λH7 s7=>hR3 _ _ ?_⟩;dsimp only[List.set];have s35:=sm.trans s7;have hy7:=s35 _ _ hy;have kc: ∀q∈(aA S.ms S.ds).take i++(aA S.ms S.ds).drop (i+1),QO S.ms.length q:=λq hq=>k q (vH q hq);show bM λD3 hR3 _=>?_;show⟨_,Z,_,Z,_,Z,_,Z,pr,ys,Z,QF.of hy7,λc1 nc1=>?_⟩;rw[oS];have sc1:=ag.upd (o:= .lst (ys.take i)) nc1;show⟨_,Z,_,Z,_,_,Z,Z,_,Z,pr,ys,Z,QF.of (sc1 _ _ hy7),λc2 nc2=>?_⟩;rw[show (((i:Nat):Int)+1)=((i+1:Nat):Int) by lia,pZ];have sc2:=ag.upd (o:= .lst (ys.drop (i+1))) nc2;show⟨c1,c2,_,_,Z,Z,sc2 _ _ aa,aa,by rw[Ni,NR]; exact Nw (aB Y),λc3 nc3=>?_⟩;have sc3:=ag.upd (o:= .lst (ys.take i++ys.drop (i+1))) nc3;have s58:=sc1.trans (sc2.trans sc3);have hY8:=(hY.same s35).same s58;show⟨S.ms.length,c3,_,Z,Y,⟨_,QF.of aa,(hY8.take i).append (hY8.drop (i+1))⟩,kc,λpl H9 npl s9 hpl=>hR3 _ _ ?_⟩;rw[MA.nL kc eL'] at hpl;have s39:=s35.trans (s58.trans s9);have hp9:=s39 _ _ hpL5;dsimp only[List.set];show⟨_,Z,.int (L.sum - L'.sum),Z,⟨true,false,.inl ⟨Z,Z⟩,.inr ⟨aS,Z⟩,Z⟩,_,Z,aP ?_⟩;show⟨_,Z,_,Z,pL,L,Z,QF.of hp9,_,Z,pl,L',Z,QF.of hpl,_,_,Z,Z,Z,_,Z,?_⟩;rw[show (!decide (V.int (L.sum - L'.sum)=V.int (L.sum - L'.sum)))=false from by simp];exact aP (nx2 _ _ ⟨_,_,_,Z,s39⟩)
 .rintro O' H' ⟨v8,v9,v10,rfl,sm⟩;show hR1 _ _ ?_;have s16:=s15.trans sm;exact⟨_,Z,_,Z,_,Z,_,Z,h,ts,pr,pL,os,xs,n,S,L,Z,⟨hI.grow λb o _ e=>s16 _ _ e,g,db,cp⟩,hls.same s16,hR5.same sm,sm _ _ hpL5,eL,λH7 s7=>q _ (s16.trans s7)⟩
structure o7 (C:Addr) (n:Nat) (H:Hp) (h:Addr) (os:List Addr) (ts ln la dd:Addr) (S:QM):Prop where
 X:Hs C H h os S
 ne:ln≠la
 l: ∃vs kvs,Q3 os n H ts ln la dd vs kvs S.ms S.ds
inductive jG (S:QM) (y m:Str):V->eJ->Prop
 | top (b:V) (w:Int):y= "" -> m∈aD S->bw S.ms m=none->jG S y m b (.top m w)
 | plain (p e o:Int):y≠ "" -> jG S y m .non (.plain y m p e o)
 | link (b:Str) (mo:Int):y≠ "" -> jG S y m (.str b) (.link y m b mo)
theorem GF {b:V}(h:jG S y m b d):aQ (cf S d) .back= .ok/\cf (cf S d) .back=S:=by
 cases h <;> exact⟨by rw[aQ,MP (by change S.ks++[(S.ms,S.ds)]≠[]; simp)],by
  change (match (S.ks++[(S.ms,S.ds)]).getLast? with | some k=>(⟨k.1,k.2,(S.ks++[(S.ms,S.ds)]).dropLast⟩:QM) | none=>_)=S;rw[List.getLast?_append,List.dropLast_concat];rfl⟩
inductive FN(a:Adr)(vs:List V)(H:Hp)(Q:VK)(_E:XK):Prop|mk(h ts ln la dd tg:Addr)(os:List Addr)(n:Nat)(S:QM)(y m:Str)(b:V)(d:eJ)(_:vs=[.ref h,.ref ts,.ref tg])(_:o7 a.House n H h os ts ln la dd (cf S d))(_:S.ks.length < 150)(_:jG S y m b d)(_:tg∉la::dd::os)(_:H tg=some (.tup [.str y,.str m,b]))(_:∀(os':List Addr) (H':Hp),o7 a.House n H' h os' ts ln la dd S->Rx (la::dd::os) os' H H'->Q .non H')
theorem EM (T:Txt K mg a):QS P w K mg base 6 "_law_taken_back" ["_law_house","_law_state","_law_thing"] (FN a):=by
 show cj T.iM sL λf c A o s H vs Q E hr h=>?_;obtain⟨h,ts,ln,la,dd,tg,os,n,S,y,m,b,d,rfl,R,hk,hT,ng,hg,q⟩:=h;obtain⟨due,eb⟩:=GF hT;obtain⟨vs,kvs,l⟩:=R.l;have no:tg∉os:=λz=>ng (by simp[z]);have ekl:(cf S d).ks.length<=150:=by
  have:(cf S d).ks=S.ks++[(S.ms,S.ds)]:=by cases hT <;> rfl
  rw[this,M0,Pd]; lia
 show⟨_,(ae (aI (i9 T.aw.cl (ED T:) hr.mm aT)) (ai (aN (aK cw (QN K dO af) bS) (ai (aI (ya (QN K bY af) (QN K dO af) (by constructor <;> first | rfl | (intros; rfl))))) (ai (aI (show PE _ _ (A5 K _ _ _) from Ce NI OP OQ B0 (QN K bY af))))))),?_⟩;ext:9;obtain⟨dx,p0,q0,r0,is,kv,eo,I⟩:=id R.X.1;show⟨_,Z,h,dx,_,Z,I.ih,QR,h,os,_,Z,R.X.done ekl due λH1 hN=>hR1 [rW h,rW ts,rW tg] _ ?_⟩;obtain⟨os1,X1,so,nw⟩:=R.X.next' due hN
 rw[eb] at X1;have l1:=l.moved so nw;have fr1:Rx (la::dd::os) os1 H H1:=⟨λb o nb e=>so b o (λz=>nb (by simp[z])) e,λb hb=>(nw b hb).imp (λz=>by simp[z]) id⟩
 have hg1:=so _ _ no hg;show⟨_,Z,tg,_,_,_,Z,Z,QK.of hg1,(show QV _ ((0:Nat):Int)=_ from bz rfl),Z,_,Z,?_⟩;have pop: ∀ {dm:QQ},(cf S d).ds=S.ds++[dm]->(cf S d).ms=S.ms->xh (A5 K "list" J1 (Ry (vB K) (pO 1) (tC (.int 1)))) { nx:=λx H'=>Q V.non H',rt:=Q } [rW h,rW ts,rW tg] H1:=λ{dm} ed em=>by
  have l2:=l1;rw[ed,em] at l2;have vl:=l2.ar.length;rw[M0,Pd] at vl;obtain⟨v,hv,_⟩:=l2.ar.at' (i:=S.ds.length) (b:=dm) (by simp);show⟨_,Z,ts,_,_,_,Z,Z,QK.of l2.ht,Z,.inl ⟨Z,_,QF.of l2.ha⟩,la,vs,v,Z,Z,l2.ha,by rw[show vs.length - 1=S.ds.length by lia]; exact hv,?_⟩;have har:=l2.ar.take S.ds.length;rw[Qa (MZ _),NC] at har;rw[show vs.dropLast=vs.take S.ds.length by rw[List.dropLast_eq_take,show vs.length - 1=S.ds.length by lia]];exact q os1 _ ⟨⟨X1.1.side l2.a0,X1.2⟩,R.ne,_,_,l2.D7 R.ne har⟩ ⟨λb o nb e=>(ah λz=>nb (by rw[z]; simp)).trans (fr1.1 b o nb e),fr1.2⟩
 cases hT with
 | top b w ey hm hc =>
  rw[Nv (NJ V.str ey)];have cp1: ∀m',aR kvs (Sum.inr m')=(bw (eD S.ms m (some w)) m').map V.int:=l1.cp;show bu ⟨_,Z,ts,_,_,_,Z,Z,QK.of l1.ht,Z,dd,Z,.inl ⟨kvs,.inl l1.hd⟩,_,Z,tg,_,_,_,Z,Z,QK.of hg1,Z,kvs,Sum.inr m,.int w,l1.hd,Z,by rw[cp1,gG hm,MU rfl]; rfl,?_⟩;show q os1 _ ⟨⟨X1.1.side l1.d0,X1.2⟩,R.ne,_,_,l1.dict (ms':=S.ms) cq.symm (λm'=>?_) (Ng (pI kvs (Sum.inr m:Key)) l1.kl)⟩ ⟨λb o nb e=>(ah λz=>nb (by rw[z]; simp)).trans (fr1.1 b o nb e),fr1.2⟩;rw[vS];by_cases z:m'=m;.rw[MU (NJ Sum.inr z),z,hc]; rfl
  .rw[MP λe=>z (Qg e),cp1,gG hm,MP z]
 | plain p e o ny =>
  rw[Nz λz=>ny (V.str.inj z)];exact aP (pop (dm:=(y,m,none,eC p e o)) rfl rfl)
 | link b mo ny =>
  rw[Nz λz=>ny (V.str.inj z)];exact aP (pop (dm:=(y,m,some b,mo)) rfl rfl)
inductive R0 (S:QM) (y m:Str):V->Prop
 | top (b:V):y= "" -> m∈aD S->bw S.ms m=none->R0 S y m b
 | plain:y≠ "" -> Nm y->y∉aV S->m∈aD S->S.ds.length < 24->R0 S y m .non
 | link (b:Str):y≠ "" -> Nm y->y∉aV S->m∈aD S->b∈aD S->S.ds.length < 24->R0 S y m (.str b)
inductive EJ(a:Adr)(vs:List V)(H:Hp)(Q:VK)(_E:XK):Prop|mk(h ts ln la dd tg:Addr)(os:List Addr)(n:Nat)(S:QM)(y m:Str)(b:V)(z:Int):vs=[.ref h,.ref ts,.ref tg,.int z]->o7 a.House n H h os ts ln la dd S->n<=500->S.ks.length < 150->0<=z->R0 S y m b->tg∉la::dd::os->H tg=some (.tup [.str y,.str m,b])->(∀(d:eJ) (os':List Addr) (H':Hp),jG S y m b d->o7 a.House (n+1) H' h os' ts ln la dd (cf S d)->Rx (la::dd::os) os' H H'->Q .non H')->EJ a vs H Q _E
theorem F1 (T:Txt K mg a):QS P w K mg base 6 "_law_brought" ["_law_house","_law_state","_law_thing","_law_size"] (EJ a):=by
 show cj T.lL g4 λf c A o s H vs Q E hr h=>?_;obtain⟨h,ts,ln,la,dd,tg,os,n,S,y,m,b,z,rfl,R,hn,hk,z0,hT,ng,hg,q⟩:=h;obtain⟨vs,kvs,l⟩:=R.l;have X:=R.X;have g:=X.2.1.now;obtain⟨dx,p0,q0,r0,is,kv,eo,I⟩:=id X.1;show⟨_,(ae (dY dO (dM rfl (aJ (gn 4 g4.nd) (aJ (gn 5 g4.nd) (aJ (gn 6 g4.nd) cT))))) (ai (aN (aK cw gE bS) (ae (sf (dF hr) (QN K bY af) gT (au aU eX af) rfl) (ai (aI (c5 T.aw.cl (zM T:) hr.mm aT (aq gT (QH (au aU eX af))))))) (ai (aN (aK kW iF bK) (ae (aI (ia K (QN K bY af) (bR (aq gE (aq gT (aq bK (QH (au aU eX af)))))))) (ai (aI (c5 T.aw.cl (wz T:) hr.mm aT (aq gE (aq gT (aq (au aU eX af) (aq af (QH af))))))))) (ae (aI (ia K (QN K bY af) (bR (aq gE (aq gT (aq iF (QH (au aU eX af)))))))) (ai (aI (c5 T.aw.cl (xC T:) hr.mm aT (aq gE (aq gT (aq iF (QH (au aU eX af)))))))))))))),?_⟩;ext:9;show⟨_,Z,tg,_,Z,QK.of hg,Z,_,_,Z,_,_,Z,_,_,Z,Z,hR1 [rW h,rW ts,rW tg,some (.int z),some (.str y),some (.str m),some b] _ ?_⟩;have nla: ∀b',b'∉la::dd::os->b'≠la/\b'≠dd/\b'∉os:=λb' nb=>⟨λe=>nb (by simp[e]),λe=>nb (by simp[e]),λe=>nb (by simp[e])⟩
 have nto: ∀ {t:Addr},H t=none->t∉os:=λ{t} nt e=>by obtain⟨o,e'⟩:=X.1.has t e; rw[nt] at e'; cases e'
 have vl:=l.ar.length;have fr2: ∀ {t:Addr}{o u:HO}{H2:Hp}{os':List Addr},H t=none->pG os (upd (upd H t o) la u) H2->(∀b∈os',b∈os\/(upd (upd H t o) la u) b=none)->Rx (la::dd::os) os' H H2:=λ{t o u H2 os'} nt so nw=>⟨λb' o' nb e=>so b' o' (nla b' nb).2.2 ((ah (nla b' nb).1).trans ((ah (av e nt)).trans e)),λb' hb=>(nw b' hb).elim (λe=> .inl (by simp[e])) λe=>by
  by_cases e1:b'=la;.exact .inl (by simp[e1])
  .by_cases e2:b'=t;.rw[e2]; exact .inr nt
   .rw[ah e1,ah e2] at e; exact .inr e⟩
 cases hT with
 | top b ey hm hc =>
  show⟨_,Z,Z,_,Z,?_⟩;rw[Nv (NJ V.str ey)];show bu (bM λD3 hR3 _=>?_);show⟨_,Z,_,_,Z,Z,(by change (0:Int) < 2500; decide),_,Z,ts,_,_,_,Z,Z,QK.of l.ht,Z,_,Z,dd,_,Z,qa.k (k:=Sum.inr m) l.hd (aB (by have:=l.kl; lia)),hR3 _ _ ?_⟩;have w0:=Oa z (show (2500:Int)≠0 by decide);have w1:=N4 z (show (0:Int) < 2500 by decide);have vn:aR kvs (Sum.inr m)=none:=by rw[l.cp,hc]; rfl
  have l1:=l.dict (n':=n+1) (ms':=eD S.ms m (some (z % 2500))) (kvs':=putK kvs (Sum.inr m) (.int (z % 2500))) cq (λm'=>by
   rw[kg,gG hm];by_cases e:m'=m;.rw[MU (NJ Sum.inr e),MU e]; rfl
   .rw[MP λx=>e (Qg x),MP e,l.cp]) (by rw[pY _ vn,M0]; have:=l.kl; change kvs.length+1<=n+1; lia)
  have X1:Hs a.House (upd H dd (.dK (putK kvs (Sum.inr m) (.int (z % 2500))))) h os S:=⟨X.1.side l.d0,X.2⟩
  have k1: ∀b' o,b'≠dd->H b'=some o->(upd H dd (.dK (putK kvs (Sum.inr m) (.int (z % 2500))))) b'=some o:=λb' o nb e=>(ah nb).trans e;have k2: ∀b',(upd H dd (.dK (putK kvs (Sum.inr m) (.int (z % 2500))))) b'=none->H b'=none:=λb' e=>by
   by_cases e1:b'=dd;.rw[e1,aa] at e; cases e
   .rw[ah e1] at e; exact e
  generalize upd H dd (.dK (putK kvs (Sum.inr m) (.int (z % 2500))))=H1 at l1 X1 k1 k2;obtain⟨dx1,p1,q1,r1,is1,kv1,eo1,I1⟩:=id X1.1;have due:aQ S (.top m (z % 2500))= .ok:=zO hm hc ⟨w0,Y⟩ hk;show⟨_,Z,h,dx1,_,Z,I1.ih,QR,_,Z,_,Z,_,_,Z,Z,(by change (0:Int) < 2500; decide),h,os,S,m,z % 2500,Z,X1.done Y due λH2 hN=>?_⟩;obtain⟨os',X2,so,nw⟩:=X1.next' due hN
  exact q _ os' H2 (.top b _ ey hm hc) ⟨X2,R.ne,_,_,l1.moved so nw⟩ ⟨λb' o nb e=>so b' o (nla b' nb).2.2 (k1 b' o (nla b' nb).2.1 e),λb' hb=>(nw b' hb).elim (λe=> .inl (by simp[e])) λe=> .inr (k2 b' e)⟩
 | plain ny yN yd hm dl =>
  show⟨_,Z,Z,_,Z,?_⟩;rw[Nz λx=>ny (V.str.inj x)];show aP ⟨_,Z,Z,_,Z,bu (bM λD3 hR3 _=>?_)⟩;have w0:=Oa z (show (1000:Int)≠0 by decide);have w1:=N4 z (show (0:Int) < 1000 by decide);show⟨_,Z,ts,_,_,_,Z,Z,QK.of l.ht,Z,.inl ⟨Z,_,QF.of l.ha⟩,_,Z,_,Z,_,Z,_,_,Z,Z,(by change (0:Int) < 1000; decide),aC,λt nt=>?_⟩;have l1:=Q3.push (d:=(y,m,none,z % 1000)) l R.ne nt (nto nt);have X1:Hs a.House (upd (upd H t (.tup (gB (y,m,none,z % 1000)))) la (.lst (vs++[.ref t]))) h os S:=⟨X.1.Dm l.a0 nt,X.2⟩
  show⟨la,_,_,Z,Z,(ah (av l.ha nt)).trans l.ha,by rw[vl]; exact aB Y,hR3 _ _ ?_⟩;change xh _ _ _ (upd (upd H t (.tup (gB (y,m,none,z % 1000)))) la (.lst (vs++[.ref t])));obtain⟨dx1,p1,q1,r1,is1,kv1,eo1,I1⟩:=id X1.1;have epor:eC (z % 1000) 1 1=z % 1000:=by unfold eC; lia
  have due:aQ S (.plain y m (z % 1000) 1 1)= .ok:=vU hm yd yN ⟨Y,Y,aS,aS,aS,aS⟩ (by rw[epor]; lia) dl hk;show⟨_,Z,h,dx1,_,Z,I1.ih,QR,_,Z,_,Z,_,Z,_,_,Z,Z,(by change (0:Int) < 1000; decide),h,os,S,y,m,z % 1000,1,1,Z,Ng yN.2.1 aS,X1.done Y due λH2 hN=>?_⟩;obtain⟨os',X2,so,nw⟩:=X1.next' due hN
  show q _ os' H2 (.plain _ _ _ ny) ⟨X2,R.ne,vs++[.ref t],kvs,?_⟩ (fr2 nt so nw);have l2:=(l1.moved so nw)
  change Q3 os' (n+1) H2 ts ln la dd _ _ S.ms (S.ds++[(y,m,none,eC (z % 1000) 1 1)]);rw[epor];exact { l2 with kl:=OB l2.kl }
 | link b0 ny yN yd hm hb dl =>
  show⟨_,Z,Z,_,Z,?_⟩;rw[Nz λx=>ny (V.str.inj x)];show aP ⟨_,Z,Z,_,Z,aP (bM λD3 hR3 _=>?_)⟩;have w0:=Oa z (show (100:Int)≠0 by decide);have w1:=N4 z (show (0:Int) < 100 by decide);show⟨_,Z,ts,_,_,_,Z,Z,QK.of l.ht,Z,.inl ⟨Z,_,QF.of l.ha⟩,_,Z,_,Z,_,Z,_,Z,_,_,Z,Z,(by change (0:Int) < 100; decide),aC,λt nt=>?_⟩;have l1:=Q3.push (d:=(y,m,some b0,z % 100)) l R.ne nt (nto nt);have X1:Hs a.House (upd (upd H t (.tup (gB (y,m,some b0,z % 100)))) la (.lst (vs++[.ref t]))) h os S:=⟨X.1.Dm l.a0 nt,X.2⟩
  show⟨la,_,_,Z,Z,(ah (av l.ha nt)).trans l.ha,by rw[vl]; exact aB Y,hR3 _ _ ?_⟩;change xh _ _ _ (upd (upd H t (.tup (gB (y,m,some b0,z % 100)))) la (.lst (vs++[.ref t])));obtain⟨dx1,p1,q1,r1,is1,kv1,eo1,I1⟩:=id X1.1;have due:aQ S (.link y m b0 (z % 100))= .ok:=yD hm hb yd yN ⟨w0,Y⟩ dl hk;show⟨_,Z,h,dx1,_,Z,I1.ih,QR,_,Z,_,Z,_,Z,_,Z,_,_,Z,Z,(by change (0:Int) < 100; decide),h,os,S,y,m,b0,z % 100,Z,Ng yN.2.1 aS,X1.done Y due λH2 hN=>?_⟩;obtain⟨os',X2,so,nw⟩:=X1.next' due hN
  have l2:=(l1.moved so nw)
  exact q _ os' H2 (.link _ _ ny) ⟨X2,R.ne,vs++[.ref t],kvs,{ l2 with kl:=OB l2.kl }⟩ (fr2 nt so nw)
theorem erase_filter: ∀ {ds:List QQ}{i:Nat}{d:QQ},(ds.map (·.1)).Nodup->ds[i]?=some d->ds.eraseIdx i=ds.filter λx=>decide (x.1≠d.1)
 | [],i,d,_,h=>by cases i <;> cases h
 | x::r,0,d,hn,h=>by
  cases h;rw[ND,NM] at hn;rw[List.filter_cons_of_neg (by simp)];show (List.filter_eq_self.mpr λz hz=>?_).symm;rw[Qt];exact λe=>hn.1 (by rw[<-e]; exact Ny.mpr ⟨z,hz,Z⟩)
 | x::r,i+1,d,hn,h=>by
  rw[ND,NM] at hn;have hd:d∈r:=MS (show r[i]?=some d from h);have hx:x.1≠d.1:=λe=>hn.1 (by rw[e]; exact Ny.mpr ⟨d,hd,Z⟩);rw[List.filter_cons_of_pos (by simpa using hx),<-erase_filter hn.2 (show r[i]?=some d from h)];rfl
inductive Eb(a:Adr)(vs:List V)(H:Hp)(Q:VK)(_E:XK):Prop|mk(h ts ln la dd:Addr)(os:List Addr)(n:Nat)(S:QM)(z:Int)(_:vs=[.ref h,.ref ts,.int z])(_:o7 a.House n H h os ts ln la dd S)(_:S.ks.length < 150)(_:0<=z)(_:S.ds≠[])(_:S.ds.length<=24)(_:∀y∈aV S,y≠ "" /\ Nm y)(_:∀(tg:Addr) (S':QM) (os':List Addr) (y m:Str) (b:V) (H':Hp),o7 a.House n H' h os' ts ln la dd S'->Rx (la::dd::os) os' H H'->S'.ks.length<=S.ks.length+1->S'.ms.map (·.1)=S.ms.map (·.1)->(∀x∈S'.ds,x∈S.ds)->(y= "" -> S'.ds=S.ds)->R0 S' y m b->tg∉la::dd::os'->H' tg=some (.tup [.str y,.str m,b])->Q (.ref tg) H')
theorem CV (T:Txt K mg a):QS P w K mg base 6 "_law_struck" ["_law_house","_law_state","_law_word"] (Eb a):=by
 show cj T.nv dW λf c A o s H vs Q E hr h=>?_;obtain⟨h,ts,ln,la,dd,os,n,S,z,rfl,R,hk,z0,dne,dl,dN,q⟩:=h;obtain⟨vs,kvs,l⟩:=R.l;have X:=R.X;have g:=X.2.1.now;obtain⟨dx,p0,q0,r0,is,kv,eo,I⟩:=id X.1;show⟨_,(ae (Sk 3 dW.nd jr ["_law_name"] ["_law_state"] [1] Rr (eE K (QN K bY af)) (λC s2 H2 fp=>⟨(gn 0 (Q6 ["_law_name","_law_state"])),(me (qF (Dn (dF hr) aT (QN K bY af)) (by with_unfolding_all rfl))),aT⟩)) (ae (aN (PW.pt (dy (aK cw (au aU dO af) af) (dj (aK (show QU _ _ (Jg K) from J0 (dF hr)) eX (ba cP))))) (ae (QJ 4 dW.nd (QI K eX (au aU (au bF dO af) (cA K T.bT eX)))) (ae (aI (c5 T.aw.cl (Jo T:) hr.mm aT (QH gE))) (ae (aI (ya (QN K bY af) gE (by constructor <;> first | rfl | (intros; rfl)))) (ai (az (bR (aq bS (aq gE (QH bK))))))))) aF) (ae (dY (show PE _ _ (RH K _ _ _ _) from iE NI OP OQ tO (QN K bY af) (QH (au aU (au bF dO af) (cA K T.bT (QN K bY af))))) (dM rfl (aJ (gn 5 dW.nd) (aJ (gn 6 dW.nd) (aJ (gn 7 dW.nd) (aJ (gn 8 dW.nd) cT)))))) (ae (aI (c5 T.aw.cl (JY T:) hr.mm aT (QH gT))) (ai (az (bR (aq gT (aq iF (QH iN)))))))))),?_⟩;have nla: ∀b',b'∉la::dd::os->b'≠la/\b'≠dd/\b'∉os:=λb' nb=>⟨λe=>nb (by simp[e]),λe=>nb (by simp[e]),λe=>nb (by simp[e])⟩
 have vl:=l.ar.length;have ml:=g.ml;obtain⟨us,eus⟩: ∃us,us=(aD S).filter λy=>(bw S.ms y).isSome:=⟨_,Z⟩
 have ul:us.length<=12:=by rw[eus]; exact Ng (NQ _ _) (by unfold aD; rw[MO]; exact ml)
 ext:9;show⟨_,Z,ts,_,_,_,Z,Z,QK.of l.ht,Z,ln,Z,⟨_,QF.of l.hn⟩,?_⟩;show dh (xs:=(aD S).map V.str) (λi ys H'=>H'=H/\ys=(((aD S).take i).filter λy=>(bw S.ms y).isSome).map V.str) (λi ys H' _ h=>by rw[h.1]; exact bW (QF.of l.hn)) ⟨Z,Z⟩ (aB (by unfold aD; rw[MO,MO]; lia)) (λi ys H' h=>by rw[h.2,MO]; exact Ng (NQ _ _) (by rw[Ni]; exact Ob _ _)) ?_ ?_
 .rintro i ys H4 x hi ⟨rfl,rfl⟩;rw[M5] at hi;cases hy:(aD S)[i]? with
  | none=>rw[hy] at hi; cases hi
  | some y =>
   rw[hy] at hi;cases hi;have tk:((aD S).take (i+1)).filter (λy=>(bw S.ms y).isSome)=((aD S).take i).filter (λy=>(bw S.ms y).isSome)++(if (bw S.ms y).isSome=true then [y] else []):=by
    rw[NF,hy,Ov];congr 1;change [y].filter _=_;by_cases c:(bw S.ms y).isSome=true <;> simp[c]
   show⟨_,Z,_,Z,ts,_,_,_,Z,Z,QK.of l.ht,Z,dd,_,Z,dJ.k (k:=Sum.inr y) l.hd,_,Z,?_⟩;rw[l.cp,tk];cases ec:bw S.ms y with
   | none =>
    show aP ⟨Z,?_⟩;rw[MP (by simp),Oy]
   | some c =>
    show bu ⟨_,Z,Z,?_⟩;rw[MU (by simp),Nf];rfl
 rintro ys H4 p1 ⟨e4,rfl⟩ np1;obtain rfl:H=H4:=e4.symm;rw[N2 (by rw[MO]; exact MZ _),<-eus];have s1:=ag.upd (o:= .lst (us.map V.str)) np1;have hp1:(upd H p1 (.lst (us.map V.str))) p1=some (.lst (us.map V.str)):=aa;generalize upd H p1 (.lst (us.map V.str))=H1 at s1 hp1;show hR1 [rW h,rW ts,some (.int z),rW p1,none,none,none,none,none] _ ?_;have l1:=l.same s1;have X1:=X.grow s1;show bM λD1 hR1 rt1=>?_;show SQ (λc H'=>ag H1 H'/\(c=true->us≠[])) (λQ' hM=>?_) (λH2 ⟨s2,hu⟩=>?_) (λH2 ⟨s2,_⟩=>hR1 _ _ ?_)
 .show⟨_,Z,_,_,Z,Z,(by change (0:Int) < 3; decide),Z,_,Z,?_⟩;show bo (λc=>?_) (λc=>hM _ _ ⟨ag.refl _,λz=>by cases z⟩);show⟨_,Z,aC,λe0 ne0=>⟨p1,e0,us.map V.str,Z,Z,QF.of ((ag.upd ne0) _ _ hp1),QF.of aa,_,Z,hM _ _ ⟨ag.upd ne0,λz e=>?_⟩⟩⟩;rw[e] at z;exact absurd (M9 z) (OC 0)
 .have hu:=hu rfl;have u0:0 < us.length:=List.length_pos_iff.mpr hu;have l2:=l1.same s2;have X2:=X1.grow s2;have hp2:=s2 _ _ hp1;have s02:=s1.trans s2;have w0:=Oa (z / 3) (show ((us.map V.str).length:Int)≠0 by rw[MO]; lia);have w1:=N4 (z / 3) (show (0:Int) < ((us.map V.str).length:Int) by rw[MO]; lia);rw[MO] at w0 w1;obtain⟨w,ew⟩:=Px w0;obtain⟨y,hy,ym⟩:=DK (ys:=us) (i:=w) Y;rw[eus] at ym;obtain⟨y1,y2⟩:=NH.mp ym;obtain⟨c0,hc0⟩:=Oz.mp y2;show bM λD2 hR2 _=>?_;show⟨_,Z,_,Z,_,_,Z,Z,⟨aS,aS⟩,_,Z,_,_,Z,.inl ⟨_,QF.of hp2,Z⟩,_,_,Z,Z,(by rw[MO]; lia),p1,us.map V.str,_,.str y,Z,Z,QF.of hp2,(by rw[MO,ew]; exact hy),hR2 [rW h,rW ts,some (.int z),rW p1,some (.str y),none,none,none,none] _ ?_⟩;show bM λD2 hR2 _=>?_;obtain⟨dx2,p2,q2,r2,is2,kv2,eo2,I2⟩:=id X2.1;have due:aQ S (.sT y)= .ok:=JT (by rw[hc0]; intro e; cases e) hk;show⟨_,Z,h,dx2,_,Z,I2.ih,QR,_,Z,h,os,S,y,Z,X2.done Y due λH3 hN=>hR2 _ _ ?_⟩;obtain⟨os',X3,so,nw⟩:=X2.next' due hN
  have l3:=l2.moved so nw;show bM λD2 hR2 _=>?_;show⟨_,Z,ts,_,_,_,Z,Z,QK.of l3.ht,Z,dd,Z,.inl ⟨kvs,.inl l3.hd⟩,_,Z,kvs,Sum.inr y,.int c0,l3.hd,Z,by rw[l3.cp,hc0]; rfl,hR2 _ _ ?_⟩;have hm:y∈S.ms.map (·.1):=y1;have l4:=l3.dict (n':=n) (ms':=eD S.ms y none) (kvs':=fv kvs (Sum.inr y)) cq (λm'=>by
   rw[vS,gG hm];by_cases e:m'=y;.rw[MU (NJ Sum.inr e),MU e]; rfl
   .rw[MP λx=>e (Qg x),MP e,l3.cp]) (Ng (pI kvs (Sum.inr y:Key)) l3.kl)
  show⟨_,Z,aC,λtg ntg=>rt1 _ _ ?_⟩;have s4:=ag.upd (o:= .tup [.str "",.str y,.non]) ntg;have ntg3:tg∉la::dd::os':=λe=>by
   simp only[M3] at e;rcases e with e | e | e
   .rw[e,l4.ha] at ntg; cases ntg
   .rw[e,l4.hd] at ntg; cases ntg
   .obtain⟨o,e'⟩:=X3.1.has tg e;by_cases e2:tg=dd;.rw[e2,l4.hd] at ntg; cases ntg
    .rw[ah e2,e'] at ntg; cases ntg
  show q tg (cf S (.sT y)) os' "" y .non _ ⟨⟨(X3.1.side l3.d0).grow λb o _ e=>s4 _ _ e,X3.2⟩,R.ne,_,_,l4.same s4⟩ ⟨λb' o nb e=>s4 _ _ ((ah (nla b' nb).2.1).trans (so b' o (nla b' nb).2.2 (s02 _ _ e))),λb' hb=>(nw b' hb).elim (λe=> .inl (by simp[e])) λe=> .inr (s02.free e)⟩ (by change (S.ks++[_]).length<=_; rw[M0]; exact MZ _) cq (λ_ z=>z) (λ_=>rfl) (.top _ rfl (by change y∈(eD S.ms y none).map (·.1); rw[cq]; exact hm) (by change bw (eD S.ms y none) y=none; rw[gG hm,MU rfl])) ntg3 aa
 .have l2:=l1.same s2;have X2:=X1.grow s2;have s02:=s1.trans s2;have v0:0 < vs.length:=by rw[vl]; exact List.length_pos_iff.mpr dne
  have w0:=Oa (z / 3) (show ((vs.length:Nat):Int)≠0 by lia);have w1:=N4 (z / 3) (show (0:Int) < ((vs.length:Nat):Int) by lia);obtain⟨w,ew⟩:=Px w0;have wl:w < vs.length:=Y;have sq:seqIndex? (z / 3 % ((vs.length:Nat):Int)) vs.length=some w:=by
   rw[PySem.StrLaws.seqIndex_nonneg w0 w1,ew]; rfl
  obtain⟨d,hd⟩: ∃d,S.ds[w]?=some d:=⟨_,MQ Y⟩
  obtain⟨v,hv,t,rfl,nt,ht⟩:=l2.ar.at' hd;have tla:t≠la:=λe=>by rw[e,l2.ha] at ht; cases ht
  have dm:d.1∈aV S:=Ny.mpr ⟨d,MS hd,Z⟩;have har:F2 (BL os H2) (vs.eraseIdx w) (S.ds.filter λx=>decide (x.1≠d.1)):=by
   rw[<-erase_filter g.dn hd,PY,PY];exact (l2.ar.take w).append (l2.ar.drop (w+1))
  show bM λD2 hR2 _=>?_;show⟨_,Z,ts,_,_,_,Z,Z,QK.of l2.ht,Z,.inl ⟨Z,_,QF.of l2.ha⟩,_,Z,_,_,Z,Z,⟨aS,aS⟩,_,Z,ts,_,_,_,Z,Z,QK.of l2.ht,Z,_,_,Z,.inl ⟨_,QF.of l2.ha,Z⟩,_,_,Z,Z,Y,la,vs,_,w,.ref t,Z,Z,l2.ha,Y,Y,sq,hv,t,_,Z,QK.of ((ah tla).trans ht),Z,_,_,Z,_,_,Z,_,_,Z,_,_,Z,Z,hR2 _ _ ?_⟩;have l3:=l2.D7 R.ne har;have X3:Hs a.House (upd H2 la (.lst (vs.eraseIdx w))) h os S:=⟨X2.1.side l2.a0,X2.2⟩
  have k3: ∀b' o,b'≠la->H2 b'=some o->(upd H2 la (.lst (vs.eraseIdx w))) b'=some o:=λb' o nb e=>(ah nb).trans e;have k4: ∀b',(upd H2 la (.lst (vs.eraseIdx w))) b'=none->H2 b'=none:=λb' e=>by
   by_cases e1:b'=la;.rw[e1,aa] at e; cases e
   .rw[ah e1] at e; exact e
  ext:4;generalize upd H2 la (.lst (vs.eraseIdx w))=H3 at l3 X3 k3 k4;show bM λD2 hR2 _=>?_;obtain⟨dx2,p2,q2,r2,is2,kv2,eo2,I2⟩:=id X3.1;have due:aQ S (.sD d.1)= .ok:=Jf dm hk;show⟨_,Z,h,dx2,_,Z,I2.ih,QR,_,Z,h,os,S,d.1,Z,X3.done Y due λH4 hN=>hR2 _ _ ?_⟩;obtain⟨os',X4,so,nw⟩:=X3.next' due hN
  have l4:=l3.moved so nw;show⟨_,Z,_,Z,_,Z,aC,λtg ntg=>?_⟩;have s5:=ag.upd (o:= .tup [.str d.1,.str d.2.1,xv d.2.2.1]) ntg;have ntg3:tg∉la::dd::os':=λe=>by
   simp only[M3] at e;rcases e with e | e | e
   .rw[e,l4.ha] at ntg; cases ntg
   .rw[e,l4.hd] at ntg; cases ntg
   .obtain⟨o,e'⟩:=X4.1.has tg e;rw[e'] at ntg; cases ntg
  have db:=X.2.2.now d (MS hd);obtain⟨yn,yN⟩:=dN d.1 dm;have nd:d.1∉aV (cf S (.sD d.1)):=λe=>by
   obtain⟨x,hx,e2⟩:=Ny.mp e;exact M9 (NH.mp hx).2 e2
  have dl':(cf S (.sD d.1)).ds.length < 24:=by
   change (S.ds.filter λx=>decide (x.1≠d.1)).length < 24;rw[<-erase_filter g.dn hd,List.length_eraseIdx];have:w < S.ds.length:=Y;rw[MU this];lia
  have br:R0 (cf S (.sD d.1)) d.1 d.2.1 (xv d.2.2.1):=by
   cases e:d.2.2.1 with
   | none=>exact .plain yn yN nd db.1 dl'
   | some b0=>exact .link b0 yn yN nd db.1 (db.2.1 b0 e) dl'
  exact (q tg (cf S (.sD d.1)) os' d.1 d.2.1 (xv d.2.2.1) _ ⟨X4.grow s5,R.ne,_,_,l4.same s5⟩ ⟨λb' o nb e=>s5 _ _ (so b' o (nla b' nb).2.2 (k3 b' o (nla b' nb).1 (s02 _ _ e))),λb' hb=>(nw b' hb).elim (λe=> .inl (by simp[e])) λe=> .inr (s02.free (k4 b' e))⟩ (by change (S.ks++[_]).length<=_; rw[M0]; exact MZ _) rfl (λx z=>(NH.mp z).1) (λz=>absurd z yn) br ntg3 aa)
theorem Gu {n:Nat}(h:rR n rs):(∀q∈rs.map pJ,QO n q/\Sm q)/\rR n (rs.map pJ):=by
 obtain⟨lev,h0,hu⟩:=h;show⟨λq hq=>?_,lev,h0,λq hq=>?_⟩
 .obtain⟨r,hr,rfl⟩:=Ny.mp hq;obtain⟨⟨a1,a2,a3,a4,a5⟩,b,c⟩:=hu r hr;show⟨⟨a1,a2,a3,a4,by change 0<=r.2.2 % 1000; lia⟩,λ_=>by change r.2.2 % 1000<=999; lia,λe=>?_⟩;have:=(c e).1;change r.2.2 % 1000<=99;lia
 .obtain⟨r,hr,rfl⟩:=Ny.mp hq;obtain⟨⟨a1,a2,a3,a4,a5⟩,b,c⟩:=hu r hr;show⟨⟨a1,a2,a3,a4,by change 0<=r.2.2 % 1000; lia⟩,λe=>by change r.2.2 % 1000<=99999; lia,λe=>?_⟩;obtain⟨c1,c2⟩:=c e;have e2:r.2.2 % 1000=r.2.2:=Y;change r.2.2 % 1000<=99/\(lev r.2.1 < lev r.1\/(lev r.2.1=lev r.1/\r.2.2 % 1000=0));rw[e2];exact⟨c1,c2⟩
variable{dd:Addr}
theorem kI {os':List Addr}{o:HO}(f:Rx (la::dd::os) os' H H') (nb:b∉la::dd::os) (e:H b=some o):b∉la::dd::os'/\H' b=some o:=by
 show⟨λz=>?_,f.1 b o nb e⟩;have n2:=f.out nb e;simp only[M3] at nb z;rcases z with z | z | z
 .exact nb (.inl z)
 .exact nb (.inr (.inl z))
 .exact n2 z
variable{vs:List V}
theorem Dx {xs:List Addr}{n:Nat}{ts ln:Addr}{ys:List V}{kvs:QX}{v0:V}(l:Q3 xs n H ts ln la dd vs kvs ms ds) (hb:H b=some (.lst ys)) (h0:ys[0]?=some v0) (nr: ∀t,v0≠ .ref t):b≠la:=λz=>by
 rw[z,l.ha] at hb;cases hb;have vl:=l.ar.length;have v1:=(MW.mp h0).1;obtain⟨d,hd⟩: ∃d,ds[0]?=some d:=⟨_,MQ Y⟩
 obtain⟨v,hv,t,e,_⟩:=l.ar.at' hd;rw[h0] at hv;cases hv;exact nr t e
theorem uW {xs:List Addr}{n:Nat}{ts ln:Addr}{ys:List V}{kvs:QX}(l:Q3 xs n H ts ln la dd vs kvs ms ds) (hb:H b=some (.lst ys)):b≠dd:=λz=>by
 rw[z,l.hd] at hb;cases hb
theorem Ay {b:V}(hT:jG S y m b d) (hB:R0 S y m b) (h0:y= "" -> S.ds≠[]) (hN: ∀x∈aV S,x≠ "" /\ Nm x):(cf S d).ds≠[]/\(∀x∈aV (cf S d),x≠ "" /\ Nm x)/\(cf S d).ks.length=S.ks.length+1:=by
 have hy:y≠ "" -> Nm y:=λz=>by
  cases hB with
  | top _ e=>exact absurd e z
  | plain _ a=>exact a
  | link _ _ a=>exact a
 have add: ∀ {e:QQ},e.1=y->y≠ "" -> ∀x:Str,x∈(S.ds++[e]).map (λz:QQ=>z.1)->x≠ "" /\ Nm x:=λ{e} e1 ny x hx=>by
  rw[Nf] at hx;rcases M8.mp hx with hx | hx
  .exact hN x hx
  .have hx:x=e.1:=MT.mp hx;rw[hx,e1];exact⟨ny,hy ny⟩
 cases hT with
 | top b w e=>exact⟨h0 e,hN,M0⟩
 | plain p e o ny=>exact⟨PD _ (by simp),add rfl ny,M0⟩
 | link b0 mo ny=>exact⟨PD _ (by simp),add rfl ny,M0⟩
theorem CO(hl:ws.length=44) (h0: ∀x∈ws,0<=x) (c:Int) (c0:0<=c): ∃zs:List Int,dX (ws.map V.int) (some 41) (some (41+c))=zs.map V.int/\zs.length<=3/\(∀z∈zs,0<=z)/\(c=0->zs=[]):=by
 obtain⟨zs,e,hm⟩:=tV ws (some 41) (some (41+c));have l1:(dX (ws.map V.int) (some 41) (some (41+c))).length=zs.length:=by rw[e,MO]
 unfold dX at l1;rw[Ni,NR,MO,hl,show HT.QT 44 0 (some 41)=41 from rfl,vp _ _ _ Y] at l1;show⟨zs,e,Y,λz hz=>h0 z (hm z hz),λz=>N3 ?_⟩;rw[z] at l1;have:((41:Int)+0).toNat=41:=rfl;lia
theorem JP (T:Txt K mg a) (B:BM mg base):QS P w K mg base 11 "law" ["_law_script"] (C2 K):=by
 have qj:=@HV P w K mg base a T B;show cj T.xk fK λf c A o s H vs Q E hr h=>?_;obtain⟨sa,ns,rfl,hS,hlen,hT,q⟩:=h;show⟨_,(ae (dY (ay qj hr.mm (QH aT)) (dM rfl (aJ (gn 1 fK.nd) (aJ (gn 2 fK.nd) cT)))) (ae (QJ 2 fK.nd (ay (HL T:) hr.mm (QH dO))) (ae (QJ 3 fK.nd (ay (x5 T:) hr.mm (aq aT (QH af)))) (ae (QJ 4 fK.nd (ay (xE T:) hr.mm (aq (QI K eX af) (QH af)))) (ae (dY (ay (Eo T:) hr.mm (aq dO (aq (ay (xE T:) hr.mm (aq (QI K eX af) (QH bY))) (QH gE)))) (dM rfl (aJ (gn 5 fK.nd) (aJ (gn 6 fK.nd) cT)))) (ae (QJ 7 fK.nd (ay (qC T:) hr.mm (aq bY (QH dO)))) (ae (cm (dq T.bh bY) (gn 8 fK.nd) (ai (aN (aK cw (au aU (QI K eX (au bE af iS)) af) af) (ae (sf (dF hr) (QN K iF af) (QI K (QN K iF af) iS) (au bE (QI K iN iS) (au aU (au bF (QI K eX (au bE af iS)) af) af)) rfl) (ai (aI (c5 T.aw.cl (zM T:) hr.mm gT (aq (QI K (QN K iF af) iS) (QH (au bE (QI K iN iS) (au aU (au bF (QI K eX (au bE af iS)) af) af)))))))) aF))) (ae (aN (fg (dz K (ay (xT T:) hr.mm (aq gT (aq iF (QH (cK (RA K) gE dS (cM af)))))))) (ai (az eY)) aF) (ae (cm (eE K (cK (RA K) eX (cM af) (cM (au bE af (au uV (au aU (QI K eX af) af) (bP (qY rfl) (by rfl) T.sy boot_min (aq af (QH (cA K T.bT dO))))))))) (gn 9 fK.nd) (ae (QJ 10 fK.nd (ay (CV T:) hr.mm (aq gT (aq iF (QH lE))))) (ai (cm (dq T.bh af) (gn 8 fK.nd) (ae (aI (ay (F1 T:) hr.mm (aq gT (aq iF (aq lT (QH (QI K (ba (aq (au bF lE af) (QH (au bF lE af)))) iS))))))) (ae (aN (fg (dz K (ay (xT T:) hr.mm (aq gT (aq iF (QH (cK (RA K) gE dS (cM af)))))))) (ai (az eY)) aF) (ai (aN (aK cw iS af) (ai (aI (ay (EM T:) hr.mm (aq gT (aq iF (QH lT)))))) aF)))))))) (ai (az eY))))))))))),?_⟩;ext:9;show⟨_,Z,sa,ns,Z,hS,hT _ T.nP,hT _ T.pR,λt r n rs H1 s1 ht hR n2 hl hri=>?_⟩;obtain⟨tk,tri⟩:=Gu hri;obtain⟨hk,L,eL⟩:=zw tri;show⟨t,_,Z,QK.of ht,Z,_,_,Z,_,_,Z,Z,hR1 [rW sa,some (.int (n:Nat)),rW r,none,none,none,none,none,none,none,none] _ ?_⟩;ext:5;ext:9;show⟨_,Z,r,rs,Z,hR.RD,Y,λpt H2 npt s2 hRt=>hR1 _ _ ?_⟩
 try dsimp only[aM,List.set]
 ext:9;show⟨_,Z,sa,ns,44,Z,s2.seq (s1.seq hS),aS,λp ws H3 np s3 hp hwl h0=>hR1 _ _ ?_⟩
 try dsimp only[aM,List.set]
 have gn: ∀i,0<=MA.g ws i:=λi=>by
  unfold MA.g;rw[MX];cases e:ws[i.toNat]? with
  | none=>exact Np 0
  | some x=>exact h0 x (MS e)
 ext:9;show⟨_,Z,p,_,_,_,Z,Z,QF.of hp,bH aS Y,_,26,Z,aS,λpc cs H4 npc s4 hpc hcl hcm hcd=>hR1 _ _ ?_⟩
 try dsimp only[aM,List.set]
 have hp4:=s4 _ _ hp;ext:9;show⟨_,Z,_,Z,p,_,_,_,Z,Z,QF.of hp4,bH aS Y,_,Z,_,n,Z,Y,λpn us H5 npn s5 hpn hul hnm Q8=>?_⟩;subst hul;show⟨_,Z,pt,pn,pc,rs.map pJ,us,cs,Z,hRt.same (s3.trans (s4.trans s5)),by rw[MO]; exact hl,tk,hpn,n2,Q8 Y,hnm,s5 _ _ hpc,Y,hcd aS,hcm,λt2 h st os ds ks H6 s6 ht2 X6 hM hks ls hds hos=>?_⟩;have hp5:=s5 _ _ hp4;have hpc5:=s5 _ _ hpc;obtain⟨xs,hx,hX⟩:=id (hRt.same (s3.trans (s4.trans s5)));have xl:xs.length=rs.length:=hX.length.trans (MO _);have hRt6:=hRt.same (s3.trans (s4.trans (s5.trans s6)));have po:p∉os:=λz=>by rw[hos p z] at hp5; cases hp5
 have co:pc∉os:=λz=>by rw[hos pc z] at hpc5; cases hpc5
 have ro:pt∉os:=λz=>by rw[hos pt z] at hx; cases hx
 have hp6:=s6 _ _ hp5;have hpc6:=s6 _ _ hpc5;have hx6:=s6 _ _ hx;obtain⟨ln,la,dd,vs,kvs,l6⟩:=id ls;have uD:=Q8 Y;have dsl:ds.length=rs.length:=by
  have:=NJ List.length hM;unfold aA at this;rw[MO,MO] at this;exact this
 have pd:=uW l6 hp6;have cd:=uW l6 hpc6;have rd:=uW l6 hx6;have cla:pc≠la:=by
  obtain⟨y,hy⟩: ∃y,cs[0]?=some y:=⟨_,MQ Y⟩
  exact Dx l6 hpc6 (v0:= .str y) (by rw[M5,hy]; rfl) λt z=>by cases z
 have zne:rs≠[]->ln≠la:=λz=>by
  obtain⟨q,hq⟩:=List.exists_mem_of_ne_nil _ z;have:=(hk _ (Ny.mpr ⟨q,hq,Z⟩)).1;have:=(hk _ (Ny.mpr ⟨q,hq,Z⟩)).2.1;obtain⟨y,hy⟩: ∃y,us[0]?=some y:=⟨_,MQ Y⟩
  have hn:=l6.hn;rw[gZ] at hn;exact Dx l6 hn (v0:= .str y) (by rw[M5,hy]; rfl) λt z=>by cases z
 have dN: ∀y:Str,y∈ds.map (λz:QQ=>z.1)->y≠ "" /\ Nm y:=λy hy=>by
  have:=hcm y (Of (hds▸hy:y∈cs.take (rs.map pJ).length));exact⟨λz=>(by rw[z] at this; exact absurd this.1 (by trivial)),this⟩
 obtain⟨l1,l2,l3,l4⟩:=MA.bX hk eL;have lbd: ∀i:Int,0<=i->i < us.length->MA.g L i<=40000:=λi i0 i1=>EO tk (by rw[MO]; exact hl) n2 eL i0 i1;clear s3 s4 s5 s6 hRt hR s1 s2 hos hS hT hp5 hpc5 hx hX hp4;show⟨t2,_,Z,QK.of ht2,Z,_,_,Z,_,_,Z,Z,hR1 _ _ ?_⟩;ext:5;ext:9;show⟨_,Z,_,Z,us.length,pt,rs.map pJ,Z,Y,hRt6.RD,hk,λpL H7 npL s7 hpL=>hR1 _ _ ?_⟩;ext:4;rw[MA.nL hk eL] at hpL;have X7:=X6.grow s7;have l7:=l6.same s7;have hp7:=s7 _ _ hp6;have hpc7:=s7 _ _ hpc6;have hx7:=s7 _ _ hx6;have Lo:pL∉os:=λz=>by obtain⟨o,e⟩:=X6.1.has pL z; rw[npL] at e; cases e
 have Ld:=uW l7 hpL;have no2: ∀ {b:Addr},b∉os->b≠dd->b∉dd::os:=λ{b} h1 h2 z=>(M3.mp z).elim h2 h1;ext:9;ext:7;clear X6 hp6 hpc6 hx6 s7 npL ls l6 hRt6;show cF (xs:=bg 0 us.length) (λi O' H'=> ∃(os':List Addr) (S':QM) (kvs':QX) (v8:Option V),O'=[rW sa,some (.int us.length),rW pt,rW p,rW pc,rW h,rW st,rW pL,v8,none,none]/\Hs a.House H' h os' S'/\S'.ms.map (·.1)=us/\S'.ds=ds/\S'.ks.length<=36+i/\(∀j y,i<=j->us[j]?=some y->bw S'.ms y=none)/\Q3 os' i H' st ln la dd vs kvs' S'.ms S'.ds/\Rx (dd::os) os' H7 H') ⟨os,_,kvs,none,Z,X7,gZ us,Z,hks,λj y _ _=>yS us y,l7,λb o _ e=>e,λb z=> .inl (M4 _ z)⟩ (λi O' H' _ _=>bt) ?_ ?_
 .rintro i x O' H' D2 nx2 - hi ⟨os',S',kvs',v8,rfl,X,hms,hdd,hkl,hno,l,fr⟩;obtain⟨il,rfl⟩:=bj hi;have iC:(0+(i:Nat):Int)=((i:Nat):Int):=Y;obtain⟨y,hy⟩: ∃y,us[i]?=some y:=⟨_,MQ il⟩
  have ym:y∈S'.ms.map (·.1):=by rw[hms]; exact MS hy
  have cap0:=hno i y (MZ _) hy;have hp':=fr.1 _ _ (no2 po pd) hp7;have hL':=fr.1 _ _ (no2 Lo Ld) hpL;have hn':=l.hn;rw[hms] at hn';have atn:QV (us.map V.str) ((i:Nat):Int)=some (.str y):=bz (by rw[M5,hy]; rfl);have gi:=gn (28+((i:Nat):Int));have pi:=bH (ws:=ws) (i:=28+((i:Nat):Int)) Y Y;have Li:=l3 (i:Nat) Y Y;have Lb:=lbd (i:Nat) Y Y;rw[iC];ext:4;show⟨_,Z,_,Z,_,_,Z,Z,p,_,_,_,Z,Z,QF.of hp',pi,_,_,Z,Z,(by change (0:Int) < 2; decide),Z,_,Z,bo (λ_=>?_) (λ_=>?_)⟩;rotate_left;.exact nx2 _ _ ⟨os',S',kvs',_,Z,X,hms,hdd,Y,λj y' hj=>hno j y' Y,{ l with kl:=OB l.kl },fr⟩
  show bM λD3 hR3 _=>?_;show⟨_,Z,_,Z,pL,_,_,_,Z,Z,QF.of hL',bH Y Y,_,Z,_,Z,_,_,Z,Z,p,_,_,_,Z,Z,QF.of hp',pi,_,_,Z,Z,⟨aS,aS⟩,_,_,Z,Z,(by change (0:Int) < 401; decide),_,_,Z,Z,?_⟩;obtain⟨tp,etp,tp0,tp1⟩: ∃tp:Int,tp=MA.g L ((i:Nat):Int)+MA.g ws (28+((i:Nat):Int)) / 2 % 401/\0<=tp/\tp<=99999:=⟨_,Z,Y,Y⟩
  rw[<-etp];show⟨_,Z,st,_,_,_,Z,Z,QK.of l.ht,Z,_,Z,st,_,_,_,Z,Z,QK.of l.ht,Z,_,Z,ln,_,_,_,Z,Z,QF.of hn',atn,dd,_,Z,qa.k (k:=Sum.inr y) l.hd (aB (by have:=l.kl; lia)),hR3 _ _ ?_⟩;have vn:aR kvs' (Sum.inr y)=none:=by rw[l.cp,cap0]; rfl
  have l1:=l.dict (n':=i+1) (ms':=eD S'.ms y (some tp)) (kvs':=putK kvs' (Sum.inr y) (.int tp)) cq (λm'=>by
   rw[kg,gG ym];by_cases e:m'=y;.rw[MU (NJ Sum.inr e),MU e]; rfl
   .rw[MP λx=>e (Qg x),MP e,l.cp]) (by rw[pY _ vn,M0]; have:=l.kl; change kvs'.length+1<=i+1; lia)
  have X1:Hs a.House (upd H' dd (.dK (putK kvs' (Sum.inr y) (.int tp)))) h os' S':=⟨X.1.side l.d0,X.2⟩
  have fr1:=fr.inside (b0:=dd) (o:= .dK (putK kvs' (Sum.inr y) (.int tp))) M7;have due:aQ S' (.top y tp)= .ok:=zO ym cap0 ⟨tp0,tp1⟩ Y;have hp1:=fr1.1 _ _ (no2 po pd) hp7;have hL1:=fr1.1 _ _ (no2 Lo Ld) hpL;have hn1:=l1.hn;rw[cq,hms] at hn1;have ht1:=l1.ht;generalize upd H' dd (.dK (putK kvs' (Sum.inr y) (.int tp)))=H1 at l1 X1 fr1 hp1 hL1 hn1 ht1;clear hp' hL' hn' fr X l;obtain⟨dx,p0,q0,r0,is,kv,eo,I⟩:=id X1.1;show⟨_,Z,h,dx,_,Z,I.ih,QR,_,Z,st,_,_,_,Z,Z,QK.of ht1,Z,_,Z,ln,_,_,_,Z,Z,QF.of hn1,atn,_,Z,_,Z,pL,_,_,_,Z,Z,QF.of hL1,bH Y Y,_,Z,_,Z,_,_,Z,Z,p,_,_,_,Z,Z,QF.of hp1,pi,_,_,Z,Z,⟨aS,aS⟩,_,_,Z,Z,(by change (0:Int) < 401; decide),_,_,Z,Z,h,os',S',y,tp,by rw[etp]; rfl,X1.done Y due λH2 hN=>nx2 _ _ ?_⟩;obtain⟨os2,X2,so,nw⟩:=X1.next' due hN
  exact⟨os2,_,_,_,Z,X2,cq.trans hms,hdd,by change (S'.ks++[_]).length<=_; rw[M0]; change S'.ks.length+1<=_; lia,λj z hj hz=>(by
   change bw (eD S'.ms y (some tp)) z=none;rw[gG ym,MP λe=>?_];.exact hno j z Y hz
   .have a1:=MW.mp hz;have a2:=MW.mp hy;obtain⟨b1,c1⟩:=a1;obtain⟨b2,c2⟩:=a2;have:=(OY (h₀:=b1) (h₁:=b2) uD).mp (by rw[c1,c2,e]);lia),l1.moved so nw,fr1.next so nw⟩
 .rintro O' H8 ⟨os8,S8,kvs8,v8,rfl,X8,hms8,hdd8,hkl8,-,l8,fr8⟩;show hR1 _ _ ?_;rw[show (bg 0 us.length).length=us.length by unfold bg; rw[MO,NK]] at l8 hkl8;have l8:Q3 os8 12 H8 st ln la dd vs kvs8 S8.ms S8.ds:={ l8 with kl:=Ng l8.kl n2 }
  have hp8:=fr8.1 _ _ (no2 po pd) hp7;have hx8:=fr8.1 _ _ (no2 ro rd) hx7;have hc8:=fr8.1 _ _ (no2 co cd) hpc7;have co8:=fr8.out (no2 co cd) hpc7;clear fr8 hp7 hpc7 hx7 hpL X7 l7 lbd l1 l2 l3 l4;ext:9;show⟨_,Z,_,Z,_,Z,_,Z,pc,_,Z,QF.of hc8,λc1 nc1=>?_⟩;rw[show dX (cs.map V.str) none (some 4)=(cs.take 4).map V.str from (oS (cs.map V.str) 4).trans (List.map_take ..).symm];have sc:=ag.upd (o:= .lst ((cs.take 4).map V.str)) nc1;have X9:=X8.grow sc;show⟨h,st,c1,os8,os8,12,S8,cs.take 4,Z,X9.q,(show LS os8 12 _ st S8.ms S8.ds from ⟨ln,la,dd,vs,kvs8,l8.same sc⟩),QF.of aa,λH9 s9=>⟨true,Z,aP (hR1 _ _ ?_)⟩⟩;have s89:=sc.trans s9;have X9:=X9.grow s9;have l9:=l8.same s89;have hp9:=s89 _ _ hp8;have hx9:=s89 _ _ hx8;have hc9:=s89 _ _ hc8;have cN9:pc∉la::dd::os8:=λz=>by
   simp only[M3] at z;rcases z with z | z | z
   .exact cla z
   .exact cd z
   .exact co8 z
  have dN8: ∀y:Str,y∈aV S8->y≠ "" /\ Nm y:=λy hy=>dN y (by unfold aV at hy; rw[hdd8] at hy; exact hy);have d08:rs≠[]->S8.ds≠[]:=λz e=>z (N3 (by rw[<-dsl,<-hdd8,e]; rfl));have hk8:S8.ks.length<=48:=Y;clear s89 s9 sc nc1 hp8 hx8 hc8 X8 l8 hkl8 hdd8 dN dsl tk tri hM hks hds eL hk hnm hcd Q8 uD co8 co cd po pd ro rd Lo Ld no2 cla ht2;ext:9;show⟨_,Z,_,Z,_,Z,p,_,_,_,Z,Z,QF.of hp9,bH aS Y,_,_,Z,Z,(by change (0:Int) < 4; decide),_,Z,_,_,Z,.inl ⟨_,QF.of hx9,Z⟩,_,_,Z,_,_,Z,Z,.inl ⟨Y,Y⟩,_,_,Z,Z,_,Z,p,_,Z,QF.of hp9,λpz npz=>?_⟩;obtain⟨zs,ezs,zl,z0,zn⟩:=CO hwl h0 (MA.g ws 40 % 4*(if ((xs.length:Nat):Int) < 1 then ((xs.length:Nat):Int) else 1)) (Int.mul_nonneg Y (by split <;> lia));rw[ezs];have zrs:zs≠[]->rs≠[]:=λz e=>z (zn (by rw[xl,e]; exact Int.mul_zero _));clear ezs zn;have sz:=ag.upd (o:= .lst (zs.map V.int)) npz;have hz:(upd H9 pz (.lst (zs.map V.int))) pz=some (.lst (zs.map V.int)):=aa;have zN:pz∉la::dd::os8:=λz=>by
   simp only[M3] at z;rcases z with z | z | z
   .rw[z,l9.ha] at npz; cases npz
   .rw[z,l9.hd] at npz; cases npz
   .obtain⟨o,e⟩:=X9.1.has pz z; rw[npz] at e; cases e
  have X10:=X9.grow sz;have l10:=l9.same sz;have hc10:=sz _ _ hc9;generalize upd H9 pz (.lst (zs.map V.int))=H10 at sz hz X10 l10 hc10;clear sz npz X9 l9 hc9 hp9 hx9;show⟨pz,Z,⟨_,QF.of hz⟩,?_⟩;show cF (xs:=zs.map V.int) (λi O' H'=> ∃(os':List Addr) (S':QM) (v8 v9 v10:Option V),O'=[rW sa,some (.int us.length),rW pt,rW p,rW pc,rW h,rW st,rW pL,v8,v9,v10]/\Hs a.House H' h os' S'/\(∃vs kvs,Q3 os' (12+2*i) H' st ln la dd vs kvs S'.ms S'.ds)/\(rs≠[]->S'.ds≠[])/\(∀y:Str,y∈aV S'->y≠ "" /\ Nm y)/\S'.ks.length<=48+2*i/\(pc∉la::dd::os'/\H' pc=some (.lst (cs.map V.str)))/\(pz∉la::dd::os'/\H' pz=some (.lst (zs.map V.int)))) ⟨os8,S8,v8,none,none,Z,X10,⟨vs,kvs8,l10⟩,d08,dN8,hk8,⟨cN9,hc10⟩,zN,hz⟩ (λi O' H' _ ⟨_,_,_,_,_,_,_,_,_,_,_,_,_,hz⟩=>bW (QF.of hz)) ?_ ?_
  .clear hz X10 l10 hc10 zN cN9 d08 dN8 hk8;rintro i x O' H' D2 nx2 - hi ⟨os',S',v8,v9,v10,rfl,X,hl',hd0,hdN,hk,⟨cN,hc⟩,zN,hz⟩;rw[M5] at hi;cases hy:zs[i]? with
   | none=>rw[hy] at hi; cases hi
   | some z =>
   rw[hy] at hi;cases hi;have il:=(MW.mp hy).1;have rne:rs≠[]:=zrs λe=>by rw[e] at il; exact absurd il (NP _)
   have z0:=z0 z (MS hy);ext:4;show bM λD3 hR3 _=>?_;show⟨_,Z,_,Z,_,Z,h,st,ln,la,dd,os',12+2*i,S',z,Z,⟨X,zne rne,hl'⟩,Y,z0,hd0 rne,X.2.1.now.dl,hdN,λtg S2 os2 y m b H2 R2 fr2 hk2 hn2 hsub heq hbr htg hg=>hR3 _ _ ?_⟩;ext:4;obtain⟨cN2,hc2⟩:=kI fr2 cN hc;obtain⟨zN2,hz2⟩:=kI fr2 zN hz;have dN2: ∀y:Str,y∈aV S2->y≠ "" /\ Nm y:=λy hy=>by
    obtain⟨d,hd,e⟩:=Ny.mp hy;exact hdN y (Ny.mpr ⟨d,hsub d hd,e⟩)
   have d02:y= "" -> S2.ds≠[]:=λe=>by rw[heq e]; exact hd0 rne
   have i3:i < 3:=Y;clear fr2 hc hz hdN hsub heq hd0 X hl' cN zN hn2;show⟨_,Z,aS,aS,?_⟩;show cF (xs:=bg 0 2) (λk O' H'=> ∃(os3:List Addr) (Sx:QM) (v8:Option V),O'=[rW sa,some (.int us.length),rW pt,rW p,rW pc,rW h,rW st,rW pL,v8,some (.int z),rW tg]/\o7 a.House (12+2*i+k) H' h os3 st ln la dd Sx/\((k<=1/\Sx=S2)\/(k=2/\ ∃d,jG S2 y m b d/\Sx=cf S2 d))/\(tg∉la::dd::os3/\H' tg=some (.tup [.str y,.str m,b]))/\(pc∉la::dd::os3/\H' pc=some (.lst (cs.map V.str)))/\(pz∉la::dd::os3/\H' pz=some (.lst (zs.map V.int)))) ⟨os2,S2,_,Z,R2,.inl ⟨Y,Z⟩,⟨htg,hg⟩,⟨cN2,hc2⟩,zN2,hz2⟩ (λi O' H' _ _=>bt) ?_ ?_
   .clear R2 htg hg cN2 hc2 zN2 hz2 H2 os2;rintro k x O' H' D4 nx4 - hi ⟨os3,Sx,v8,rfl,R3,hk3,⟨gN,hg⟩,⟨cN,hc⟩,zN,hz⟩;obtain⟨kl,rfl⟩:=bj hi;have hk3:k<=1/\Sx=S2:=hk3.elim id λe=>absurd e.1 Y;obtain⟨k1,rfl⟩:=hk3;rw[show (0+(k:Nat):Int)=((k:Nat):Int) by lia];ext:4;obtain⟨x2,hx2,x20⟩: ∃x2:Int,QV ([.int (z / 72),.int (z / 180000)]:List V) ((k:Nat):Int)=some (.int x2)/\0<=x2:=by
     have h2:k=0\/k=1:=Y;rcases h2 with e | e <;> rw[e]
     .exact⟨_,Z,Y⟩
     .exact⟨_,Z,Y⟩
    show bM λD5 hR5 _=>?_;show⟨_,Z,_,Z,_,Z,_,Z,_,_,Z,Z,⟨aS,aS⟩,_,Z,_,_,Z,Z,⟨aS,aS⟩,aC,λu nu=>?_⟩;have su:=ag.upd (o:= .lst [.int (z / 72),.int (z / 180000)]) nu;have R4:o7 a.House (12+2*i+k) (upd H' u (.lst [.int (z / 72),.int (z / 180000)])) h os3 st ln la dd Sx:=⟨R3.X.grow su,R3.ne,by obtain⟨vs,kvs,l⟩:=R3.l; exact⟨vs,kvs,l.same su⟩⟩
    show⟨_,Z,u,_,_,_,Z,Z,QF.of aa,hx2,?_⟩;have hg4:=su _ _ hg;have hc4:=su _ _ hc;have hz4:=su _ _ hz;generalize upd H' u (.lst [.int (z / 72),.int (z / 180000)])=H4 at R4 hg4 hc4 hz4;clear su nu hg hc hz R3;show⟨h,st,ln,la,dd,tg,os3,12+2*i+k,Sx,y,m,b,x2,Z,R4,Y,Y,x20,hbr,gN,hg4,λd os5 H5 hT R5 fr5=>hR5 _ _ ?_⟩;obtain⟨gN5,hg5⟩:=kI fr5 gN hg4;obtain⟨cN5,hc5⟩:=kI fr5 cN hc4;obtain⟨zN5,hz5⟩:=kI fr5 zN hz4;clear fr5 R4 gN cN zN hg4 hc4 hz4;show bM λD5 hR5 _=>?_;show⟨_,Z,_,Z,_,Z,_,Z,pc,_,Z,QF.of hc5,λc1 nc1=>?_⟩;rw[show dX (cs.map V.str) none (some 4)=(cs.take 4).map V.str from (oS (cs.map V.str) 4).trans (List.map_take ..).symm];have sc:=ag.upd (o:= .lst ((cs.take 4).map V.str)) nc1;obtain⟨vs5,kvs5,l5⟩:=R5.l;show⟨h,st,c1,os5,os5,12+2*i+k+1,cf Sx d,cs.take 4,Z,(R5.X.grow sc).q,(show LS os5 (12+2*i+k+1) _ st _ _ from ⟨ln,la,dd,vs5,kvs5,l5.same sc⟩),QF.of aa,λH6 s6=>⟨true,Z,aP (hR5 _ _ ?_)⟩⟩;have s56:=sc.trans s6;have R6:o7 a.House (12+2*i+(k+1)) H6 h os5 st ln la dd (cf Sx d):=⟨R5.X.grow s56,R5.ne,vs5,kvs5,l5.same s56⟩
    have hg6:=s56 _ _ hg5;have hc6:=s56 _ _ hc5;have hz6:=s56 _ _ hz5;clear s56 s6 sc nc1 R5 l5 hg5 hc5 hz5;show⟨_,Z,Z,_,Z,bo (λc=>?_) (λc=>?_)⟩
    .show⟨_,Z,_,Z,_,Z,h,st,ln,la,dd,tg,os5,12+2*i+(k+1),Sx,y,m,b,d,Z,R6,Y,hT,gN5,hg6,λos7 H7 R7 fr7=>nx4 _ _ ⟨os7,Sx,_,Z,R7,.inl ⟨?_,Z⟩,kI fr7 gN5 hg6,kI fr7 cN5 hc6,kI fr7 zN5 hz6⟩⟩;exact Pc (by rw[Int.ofNat_inj.mp (V.int.inj (M9 c))])
    .exact nx4 _ _ ⟨os5,_,_,Z,R6,.inr ⟨by
      have:k≠0:=λe=>c (by rw[e]; rfl);lia,d,hT,Z⟩,⟨gN5,hg6⟩,⟨cN5,hc6⟩,zN5,hz6⟩
   .rintro O' H3 ⟨os3,Sx,v8,rfl,R3,hk3,-,⟨cN,hc⟩,zN,hz⟩;have rl:(bg 0 2).length=2:=rfl;rw[rl] at R3 hk3;obtain⟨_,d,hT,rfl⟩:(2=2)/\ ∃d,jG S2 y m b d/\Sx=cf S2 d:=hk3.elim (λe=>absurd e.1 Y) id;obtain⟨t1,t2,t3⟩:=Ay hT hbr d02 dN2;exact nx2 _ _ ⟨os3,_,_,_,_,Z,R3.X,R3.l,λ_=>t1,t2,by rw[t3]; lia,⟨cN,hc⟩,zN,hz⟩
  .rintro O' H' ⟨os',S',v8,v9,v10,rfl,_⟩;exact hR1 _ _ (q _)
end
end K39
namespace PySem.W.Fast
def tw14445018917543269036:=0
def tw5647339423973600429:=0
def tw13153119504244933927:=0
def tw3416294968728061549:=0
def tw13614499014764989982:=0
def tw14125594233502061033:=0
def tw7914558334881278504:=0
def tw17852690316505479815:=0
def tw3538493312728292330:=0
def tw14651018189020390929:=0
def tw13518089303788277217:=0
def tw17200658639854625879:=0
def tw14655293450496274546:=0
def tw7573848981105583564:=0
def tw639561176906539994:=0
def tw5373329334874383572:=0
def tw11944872948328109810:=0
def tw5269977147672538442:=0
def tw936196402504854749:=0
def tw17133273040861732740:=0
def tw12770029484444354976:=0
def tw7350348693043447575:=0
def tw12415440573086436837:=0
def tw7520310443904163813:=0
def tw9305121729353988522:=0
def tw11806422844555264189:=0
def tw8856823968532664548:=0
def tw2310500002067673735:=0
def tw12352000228339868827:=0
def tw11988854605109340071:=0
def tw14893150249135039948:=0
def tw7678015920932059756:=0
def tw3947935753441475668:=0
def tw10886437261449033269:=0
def tw17460767519811785932:=0
def tw11118870106867241107:=0
def tw1713103604804943867:=0
def tw6978343781134150390:=0
def tw18380110372956286730:=0
def tw5157746349369150020:=0
def tw7452267307948322482:=0
def tw9902909724867491060:=0
def tw198664499215794485:=0
def tw8837192162218999071:=0
def tw16060790131470046402:=0
def tw17730459997102117934:=0
def tw17158929136583506829:=0
def tw2771675564217693301:=0
def tw6849527749103256427:=0
def tw6466585472095563985:=0
def tw1495329789021010177:=0
def tw12518554370921625855:=0
def tw6593302958336472678:=0
def tw2154503349031245373:=0
def tw3748194979235169946:=0
def tw1548247340190202552:=0
def tw12185236499869907984:=0
def tw1542213091935794016:=0
def tw9017799012747242909:=0
def tw14381189936174701662:=0
def tw11099009510074749242:=0
def tw2431222265724605320:=0
def tw3759587464664522889:=0
def tw10181138626070226993:=0
def tw14230468094398364051:=0
def tw11045893064446389747:=0
def tw9767430468507975470:=0
def tw9437370932929702703:=0
def tw15011100922163836262:=0
def tw11915279531861573711:=0
def tw16927139969676377799:=0
def tw1151008669549143976:=0
def tw11527053026192752291:=0
def tw10758390881755668787:=0
def tw3296406618997190907:=0
def tw17930833490102113046:=0
def tw1220766971918067744:=0
def tw2495431008213267664:=0
def tw17868204652885795310:=0
def tw5063362201861366942:=0
def tw3372595064920327744:=0
def tw4851397908008797855:=0
def tw1150253765525294492:=0
def tw13154949992022283259:=0
def tw17897388369067577748:=0
def tw4953199528632660991:=0
def tw5905729229441968827:=0
def tw16376582668584894126:=0
def tw14212387321317570754:=0
def tw182167930672927546:=0
def tw10677001765455318710:=0
def tw8987013538949260079:=0
def tw12022227314953484033:=0
def tw14059271831686300104:=0
def tw11857354631105067243:=0
def tw7633551541998817710:=0
def tw2069058835128335581:=0
def tw1453996513193006409:=0
def tw6967445752339362628:=0
def tw16068413362892755210:=0
def tw6371055288128150310:=0
def tw3103659777181983950:=0
def tw735585055503525166:=0
def tw17046380339058241307:=0
def tw312215723897730161:=0
def tw4763648506251442672:=0
def tw15023121772411679330:=0
def tw3242748653539492591:=0
def tw14350290055170775841:=0
def tw2511940981058140436:=0
def tw6039054953285619455:=0
def tw1368683726020439551:=0
def tw2479429687582131159:=0
def tw15212067712892085263:=0
def tw16184252085480050840:=0
def tw2943544041345246046:=0
def tw6629984063128565121:=0
def tw16876045190590214052:=0
def tw13754447751664067114:=0
def tw2501395728721721443:=0
def tw7290402138488017478:=0
def tw8405100423650461133:=0
def tw10426671692934846875:=0
def tw5734894536959782515:=0
def tw11094624885104622774:=0
def tw8726495342614656125:=0
def tw4334046634743944262:=0
def tw3461500459445721757:=0
def tw13443482093703793511:=0
def tw17157210215519733278:=0
def tw15987641302184907160:=0
def tw15601560667989083120:=0
def tw13140044345264042943:=0
def tw3924196264279878404:=0
def tw4699405666383578009:=0
def tw12814356794009498393:=0
def tw13781877886892084928:=0
def tw6806568902842869921:=0
def tw7578698094513766546:=0
def tw5903904183527464988:=0
def tw9108828310444651135:=0
def tw6747638707875083520:=0
def tw14628475865472744646:=0
def tw7283428188490608196:=0
def tw4576564604775598034:=0
def tw13393457710680994266:=0
def tw5096181463367838904:=0
def tw14316748349794834937:=0
def tw5254727628508208134:=0
def tw15210419990830123233:=0
def tw745912444205804219:=0
def tw4410106744326639884:=0
def tw8401251413936059232:=0
def tw8943659792548691801:=0
def tw13731961518608884697:=0
def tw360600846468680833:=0
end PySem.W.Fast
theorem PySem.Challenge.cw_stairgauge_k39_whole_asked_again_holds : PySem.Challenge.rw_stairgauge_k39_whole_asked_again.Holds := by
 w_on; o_law; k_head; (case hw=>w_witness2)
 k_fill
 show L2.Ey K39.tabs (l:=PySem.Challenge.rw_stairgauge_k39_whole_asked_again) (n:=63) (k:=11) (x:= "_law_script") (CX:=L2.Rc) (sp:=K39.C2) rfl aS rfl ⟨Z,aS,aS⟩ (λw h bV=>⟨PySem.W.km_in_of bV,PySem.W.km_tabs_of bV⟩) ?F (λK H a ns hl hT hS=>⟨a,ns,Z,hS,hl,hT,λ_=>rfl⟩) (λ_ _ _ _ z=>z)
 case F =>
  intro w mg fa h KX G hmg;obtain⟨a,T⟩: ∃a:K39.Adr,K39.Txt (L2.SW KX) mg a:=by
   dsimp only[L2.SW];refine' K39.Iz ⟨⟨?a1,?b1,?c1,?d1⟩,PySem.W.mg_of KX G ?e1,?f1,?g1⟩
     (?e2)
     (?e3)
     (?e4)
     (L2.aZ KX G ?a6 ?l6 ?c6 ?k6)
     (L2.aZ KX G ?a7 ?l7 ?c7 ?k7)
     (L2.aZ KX G ?a8 ?l8 ?c8 ?k8)
     (L2.aZ KX G ?a9 ?l9 ?c9 ?k9)
     (L2.aZ KX G ?a10 ?l10 ?c10 ?k10)
     (L2.aZ KX G ?a11 ?l11 ?c11 ?k11)
     (L2.aZ KX G ?a12 ?l12 ?c12 ?k12)
     (L2.aZ KX G ?a13 ?l13 ?c13 ?k13)
     (L2.aZ KX G ?a14 ?l14 ?c14 ?k14)
     (L2.aZ KX G ?a15 ?l15 ?c15 ?k15)
     (L2.aZ KX G ?a16 ?l16 ?c16 ?k16)
     (L2.aZ KX G ?a17 ?l17 ?c17 ?k17)
     (L2.aZ KX G ?a18 ?l18 ?c18 ?k18)
     (L2.aZ KX G ?a19 ?l19 ?c19 ?k19)
     (L2.aZ KX G ?a20 ?l20 ?c20 ?k20)
     (L2.aZ KX G ?a21 ?l21 ?c21 ?k21)
     (L2.aZ KX G ?a22 ?l22 ?c22 ?k22)
     (L2.aZ KX G ?a23 ?l23 ?c23 ?k23)
     (L2.aZ KX G ?a24 ?l24 ?c24 ?k24)
     (L2.aZ KX G ?a25 ?l25 ?c25 ?k25)
     (L2.aZ KX G ?a26 ?l26 ?c26 ?k26)
     (L2.aZ KX G ?a27 ?l27 ?c27 ?k27)
     (L2.aZ KX G ?a28 ?l28 ?c28 ?k28)
     (L2.aZ KX G ?a29 ?l29 ?c29 ?k29)
     (L2.aZ KX G ?a30 ?l30 ?c30 ?k30)
     (L2.aZ KX G ?a31 ?l31 ?c31 ?k31)
     (L2.aZ KX G ?a32 ?l32 ?c32 ?k32)
     (L2.aZ KX G ?a33 ?l33 ?c33 ?k33)
     (L2.aZ KX G ?a34 ?l34 ?c34 ?k34)
     (L2.aZ KX G ?a35 ?l35 ?c35 ?k35)
     (L2.aZ KX G ?a36 ?l36 ?c36 ?k36)
     (L2.aZ KX G ?a37 ?l37 ?c37 ?k37)
     (L2.CB KX G ?a38 ?l38 ?c38 ?k38 (L2.wu ?m38 ?n38 ?o38 ?p38 ?q38 ?r38 ?s38))
     (L2.CB KX G ?a39 ?l39 ?c39 ?k39 (L2.wu ?m39 ?n39 ?o39 ?p39 ?q39 ?r39 ?s39))
     (L2.aZ KX G ?a40 ?l40 ?c40 ?k40)
     (L2.aZ KX G ?a41 ?l41 ?c41 ?k41)
     (L2.aZ KX G ?a42 ?l42 ?c42 ?k42)
     (L2.aZ KX G ?a43 ?l43 ?c43 ?k43)
     (L2.aZ KX G ?a44 ?l44 ?c44 ?k44)
     (L2.aZ KX G ?a45 ?l45 ?c45 ?k45)
     (L2.aZ KX G ?a46 ?l46 ?c46 ?k46)
     (L2.aZ KX G ?a47 ?l47 ?c47 ?k47)
     (L2.aZ KX G ?a48 ?l48 ?c48 ?k48)
     (L2.aZ KX G ?a49 ?l49 ?c49 ?k49)
     (L2.aZ KX G ?a50 ?l50 ?c50 ?k50)
     (L2.aZ KX G ?a51 ?l51 ?c51 ?k51)
     (L2.aZ KX G ?a52 ?l52 ?c52 ?k52)
     (L2.aZ KX G ?a53 ?l53 ?c53 ?k53)
     (L2.aZ KX G ?a54 ?l54 ?c54 ?k54)
     (L2.aZ KX G ?a55 ?l55 ?c55 ?k55)
     (L2.aZ KX G ?a56 ?l56 ?c56 ?k56)
     (L2.aZ KX G ?a57 ?l57 ?c57 ?k57)
     (L2.aZ KX G ?a58 ?l58 ?c58 ?k58)
     (L2.dt ?a59 ?i59 ?l59 ?c59 ?k59)
     (L2.dt ?a60 ?i60 ?l60 ?c60 ?k60)
     (L2.dt ?a61 ?i61 ?l61 ?c61 ?k61)
     (L2.dt ?a62 ?i62 ?l62 ?c62 ?k62)
     (L2.dt ?a63 ?i63 ?l63 ?c63 ?k63)
     (L2.dt ?a64 ?i64 ?l64 ?c64 ?k64)
     (L2.dt ?a65 ?i65 ?l65 ?c65 ?k65)
     (L2.dt ?a66 ?i66 ?l66 ?c66 ?k66)
     (L2.dt ?a68 ?i68 ?l68 ?c68 ?k68)
     (L2.dt ?a69 ?i69 ?l69 ?c69 ?k69)
     (L2.dt ?a70 ?i70 ?l70 ?c70 ?k70)
     (L2.dt ?a71 ?i71 ?l71 ?c71 ?k71)
     (L2.dt ?a74 ?i74 ?l74 ?c74 ?k74)
     (L2.dt ?a75 ?i75 ?l75 ?c75 ?k75)
     (L2.dt ?a76 ?i76 ?l76 ?c76 ?k76)
     (L2.dt ?a77 ?i77 ?l77 ?c77 ?k77)
     (L2.dt ?a78 ?i78 ?l78 ?c78 ?k78)
     (L2.dt ?a79 ?i79 ?l79 ?c79 ?k79)
     (L2.dt ?a80 ?i80 ?l80 ?c80 ?k80)
     (L2.dt ?a81 ?i81 ?l81 ?c81 ?k81)
     (L2.dt ?a82 ?i82 ?l82 ?c82 ?k82)
     (L2.dt ?a83 ?i83 ?l83 ?c83 ?k83)
     (L2.mi KX G ?a84 ?l84 ?c84 ?d84 ?z84 ?v84)
     (L2.mi KX G ?a85 ?l85 ?c85 ?d85 ?z85 ?v85)
     (L2.mi KX G ?a86 ?l86 ?c86 ?d86 ?z86 ?v86)
     (L2.mi KX G ?a87 ?l87 ?c87 ?d87 ?z87 ?v87)
     ⟨_,PySem.W.mg_of KX G ?a88,?r88⟩
     ⟨_,PySem.W.mg_of KX G ?a89,?r89⟩
     ⟨_,PySem.W.mg_of KX G ?a90,?r90⟩
     (L2.mi KX G ?a91 ?l91 ?c91 ?d91 ?z91 ?v91)
     (L2.mi KX G ?a92 ?l92 ?c92 ?d92 ?z92 ?v92)
     ⟨_,PySem.W.mg_of KX G ?a93,?r93⟩
     ⟨_,PySem.W.mg_of KX G ?a94,?r94⟩
     (PySem.W.mg_none_of KX G ?a95)
     (PySem.W.mg_none_of KX G ?a96)
     (PySem.W.mg_none_of KX G ?a97)
     (PySem.W.mg_none_of KX G ?a98)
     (PySem.W.mg_none_of KX G ?a99)
     (PySem.W.mg_none_of KX G ?a100)
     (PySem.W.mg_none_of KX G ?a101)
     (PySem.W.mg_none_of KX G ?a102)
     (PySem.W.mg_none_of KX G ?a103)
     (PySem.W.mg_none_of KX G ?a104)
     (PySem.W.mg_none_of KX G ?a105)
     (PySem.W.mg_none_of KX G ?a106)
     (PySem.W.mg_none_of KX G ?a107)
     (PySem.W.mg_none_of KX G ?a108)
     (PySem.W.mg_none_of KX G ?a109)
     ⟨PySem.W.mg_of KX G ?a111,?e111⟩
     ⟨PySem.W.mg_of KX G ?a112,?e112⟩
     ⟨PySem.W.mg_of KX G ?a113,?e113⟩
     ⟨PySem.W.mg_of KX G ?a114,?e114⟩
     ⟨PySem.W.mg_of KX G ?a115,?e115⟩
     ⟨PySem.W.mg_of KX G ?a116,?e116⟩
     ⟨PySem.W.mg_of KX G ?a117,?e117⟩
     ⟨PySem.W.mg_of KX G ?a118,?e118⟩
     (L2.GS ?l199 ?e199)
     (?e200)
     (?e201)
     (?e202)
     (?e203)
     (?e204)
   (case e1|a1|b1|c1|d1|f1|g1|a6|l6|c6|k6|a7|l7|c7|k7|a8|l8|c8|k8|a9|l9|c9|k9|a10|l10|c10|k10|a11|l11|c11|k11|a12|l12|c12|k12|a13|l13|c13|k13|a14|l14|c14|k14|a15|l15|c15|k15|a16|l16|c16|k16|a17|l17|c17|k17|a18|l18|c18|k18|a19|l19|c19|k19|a20|l20|c20|k20|a21|l21|c21|k21|a22|l22|c22|k22|a23|l23|c23|k23|a24|l24|c24|k24|a25|l25|c25|k25|a26|l26|c26|k26|a27|l27|c27|k27|a28|l28|c28|k28|a29|l29|c29|k29|a30|l30|c30|k30|a31|l31|c31|k31|a32|l32|c32|k32|a33|l33|c33|k33|a34|l34|c34|k34|a35|l35|c35|k35|a36|l36|c36|k36|a37|l37|c37|k37|a38|l38|c38|k38|m38|a39|l39|c39|k39|m39|a40|l40|c40|k40|a41|l41|c41|k41|a42|l42|c42|k42|a43|l43|c43|k43|a44|l44|c44|k44|a45|l45|c45|k45|a46|l46|c46|k46|a47|l47|c47|k47|a48|l48|c48|k48|a49|l49|c49|k49|a50|l50|c50|k50|a51|l51|c51|k51|a52|l52|c52|k52|a53|l53|c53|k53|a54|l54|c54|k54|a55|l55|c55|k55|a56|l56|c56|k56|a57|l57|c57|k57|a58|l58|c58|k58|a59|i59|l59|c59|k59|a60|i60|l60|c60|k60|a61|i61|l61|c61|k61|a62|i62|l62|c62|k62|a63|i63|l63|c63|k63|a64|i64|l64|c64|k64|a65|i65|l65|c65|k65|a66|i66|l66|c66|k66|a68|i68|l68|c68|k68|a69|i69|l69|c69|k69|a70|i70|l70|c70|k70|a71|i71|l71|c71|k71|a74|i74|l74|c74|k74|a75|i75|l75|c75|k75|a76|i76|l76|c76|k76|a77|i77|l77|c77|k77|a78|i78|l78|c78|k78|a79|i79|l79|c79|k79|a80|i80|l80|c80|k80|a81|i81|l81|c81|k81|a82|i82|l82|c82|k82|a83|i83|l83|c83|k83|a84|l84|a85|l85|a86|l86|a87|l87|a88|a89|a90|a91|l91|a92|l92|a93|a94|a95|a96|a97|a98|a99|a100|a101|a102|a103|a104|a105|a106|a107|a108|a109|a111|a112|a113|a114|a115|a116|a117|a118|l199=>k_is)
   (case n38|o38|p38|q38|r38|n39|o39|p39|q39|r39|c84|d84|c85|d85|c86|d86|c87|d87|c91|d91|c92|d92|e199=>rfl)
   (case s38|s39|z84|z85|z86|z87|z91|z92|e200|e201|e202|e203=>decide)
   (case e111|e112|e113|e114|e115|e116|e117|e118=>k_exc)
   (case e2=>(show PySem.W.findIn _ _ _=_); k_is)
   (case e3=>(show PySem.W.findIn _ _ _=_); k_is)
   (case e4=>(show PySem.W.findIn _ _ _=_); k_is)
   (case v84=>exact (.cons ⟨_,Z⟩ (.cons ⟨_,Z⟩ .nil)))
   (case v85=>exact (.cons ⟨_,Z⟩ (.cons ⟨_,Z⟩ .nil)))
   (case v86=>exact (.cons ⟨_,Z⟩ (.cons ⟨_,Z⟩ .nil)))
   (case v87=>exact (.cons ⟨_,Z⟩ (.cons ⟨_,Z⟩ .nil)))
   (case r88=>exact⟨_,Z⟩)
   (case r89=>exact⟨_,Z⟩)
   (case r90=>exact⟨_,Z⟩)
   (case v91=>exact (.cons ⟨_,Z⟩ (.cons ⟨_,Z⟩ .nil)))
   (case v92=>exact (.cons ⟨_,Z⟩ (.cons ⟨_,Z⟩ .nil)))
   (case r93=>exact⟨_,Z⟩)
   (case r94=>exact⟨_,Z⟩)
   (case e204=>first | rfl | kernel_rfl)
  show (L2.FU T.xk (λbase B=>K39.JP T B) hmg (λ_ _ _ _ _ _ s u=> .of_eq rfl)).imp λfd hf=>⟨hf.1,⟨T.nt,λX hX=>?_⟩,λbase _ _ B=>hf.2 base B⟩
  rcases T.mt X hX with rfl | rfl
  .exact⟨_,T.kF.hd⟩
  .exact⟨_,T.lX.hd⟩
