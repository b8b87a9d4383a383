import PyProof.Rows.All
import Wide.All
import OpenK.AllK
import Wide.FinOn
import Lean
import PyProof.EqAt
import PyProof.EqKinds
import PyProof.TupleCall
import PyProof.StrWalks
import PyProof.ConsumeWalk
import PyProof.IsiPairs
import PyProof.IsiHeapPairs
import PyProof.StationsW
import OpenK.KOwn
import KE.KIsAll
import PyProof.ExcAttrAll.ValueError
import PyProof.Rows.StrWeight2
import KE.KLam
import KE.KSortKey
import PyProof.ListRange
import KE.KRevSl
import PyProof.EnumStmt
import PyProof.EnumMake
import PyProof.NeKinds
import PyProof.Rows.SumAny
import PyProof.SliceStr2
import PyProof.StrOps2
import PyProof.MinMaxWalk
import PyProof.ZipIter
import KE.KIntText
import PyProof.StrCalls2
import PyProof.StrLawsTight
import PyProof.StrLawsChain
import PyProof.Rows.StrItems
import PySem.Challenge.RW_stairgauge_k25_rows_refused
set_option Elab.async false
set_option linter.all false
set_option maxRecDepth 100000
namespace L2
open PySem PySem.Spec PyProof.Rows
abbrev Key := Sum Int Str
def keyIs : Key → Value → Bool
  | .inl k, v => Value.isInt k v
  | .inr x, v => Value.isStrOf x v
def keyH (w : World) : Key → Int
  | .inl k => hashInt k
  | .inr x => hashStr w x
theorem keyIs_shape : ∀ {k : Key} {v : Value}, keyIs k v = true → (∃ i t, k = Sum.inl i ∧ v = Value.int i t) ∨ (∃ x t, k = Sum.inr x ∧ v = Value.str x t)
  | .inl i, v, h => by
    obtain ⟨t, e⟩ := Value.isInt_shape (k := i) (v := v) h
    exact .inl ⟨i, t, rfl, e⟩
  | .inr x, v, h => by
    obtain ⟨t, e⟩ := Value.isStrOf_shape (x := x) (v := v) h
    exact .inr ⟨x, t, rfl, e⟩
theorem key_ll (a b : Int) : decide ((Sum.inl a : Key) = Sum.inl b) = (a == b) := by
  by_cases e : a = b
  · subst e; simp
  · have h : ¬ (Sum.inl a : Key) = Sum.inl b := fun q => e (Sum.inl.inj q)
    rw [decide_eq_false h]
    exact (beq_eq_false_iff_ne.mpr e).symm
theorem key_rr (a b : Str) : decide ((Sum.inr a : Key) = Sum.inr b) = decide (a = b) := by
  by_cases e : a = b
  · subst e; simp
  · have h : ¬ (Sum.inr a : Key) = Sum.inr b := fun q => e (Sum.inr.inj q)
    rw [decide_eq_false h, decide_eq_false e]
theorem key_lr (a : Int) (b : Str) : decide ((Sum.inl a : Key) = Sum.inr b) = false := decide_eq_false (fun q => nomatch q)
theorem key_rl (a : Str) (b : Int) : decide ((Sum.inr a : Key) = Sum.inl b) = false := decide_eq_false (fun q => nomatch q)
def mixKind (prog : Program) (w : World) : PySem.KeyKind prog w Key where
  is := keyIs
  hash := keyH w
  inj := fun v a b ha hb => by
    rcases keyIs_shape ha with ⟨i, t, rfl, rfl⟩ | ⟨x, t, rfl, rfl⟩
    · rcases keyIs_shape hb with ⟨j, u, rfl, e⟩ | ⟨y, u, rfl, e⟩
      · injection e with e1 _; rw [e1]
      · exact nomatch e
    · rcases keyIs_shape hb with ⟨j, u, rfl, e⟩ | ⟨y, u, rfl, e⟩
      · exact nomatch e
      · injection e with e1 _; rw [e1]
  byValue := fun k v h => by
    rcases keyIs_shape h with ⟨i, t, rfl, rfl⟩ | ⟨x, t, rfl, rfl⟩ <;> rfl
  pyHash := fun hv h => by
    rcases keyIs_shape hv with ⟨i, t, rfl, rfl⟩ | ⟨x, t, rfl, rfl⟩
    · exact wpAny_pyHash_int h
    · exact wpAny_pyHash_str h
  eqBool := fun hu hv h => by
    rcases keyIs_shape hu with ⟨i, t, rfl, rfl⟩ | ⟨x, t, rfl, rfl⟩
    · rcases keyIs_shape hv with ⟨j, u, rfl, rfl⟩ | ⟨y, u, rfl, rfl⟩
      · rw [key_ll] at h; exact wpAny_eqBool_int h
      · rw [key_lr] at h; exact SeqAt.EqAt.int_str i t y u _ _ _ _ h
    · rcases keyIs_shape hv with ⟨j, u, rfl, rfl⟩ | ⟨y, u, rfl, rfl⟩
      · rw [key_rl] at h; exact SeqAt.EqAt.str_int x t j u _ _ _ _ h
      · rw [key_rr] at h; exact wpAny_eqBool_str h
  «strs» := fun k x t v h => by
    rcases keyIs_shape h with ⟨i, u, rfl, e⟩ | ⟨y, u, rfl, e⟩
    · exact nomatch e
    · injection e with e1 _
      subst e1
      cases v <;> rfl
end L2
namespace L2
open PySem PySem.Spec PyProof.Rows
inductive V where
  | non | bl (b : Bool) | int (i : Int) | str (x : Str) | byt (b : Array UInt8) | flt (b : UInt64) | ref (a : Addr) | ty (n : String)
  deriving DecidableEq
def RelV : V → Value → Prop
  | .non, u => u = Value.none
  | .bl b, u => u = Value.bool b
  | .int i, u => ∃ t, u = Value.int i t
  | .str x, u => ∃ t, u = Value.str x t
  | .byt b, u => ∃ t, u = Value.bytes b t
  | .flt b, u => ∃ t, u = Value.float b t
  | .ref a, u => u = Value.ref a
  | .ty n, u => u = Value.type n
abbrev Vals : List V → List Value → Prop := Paired RelV
theorem Vals.length {xs : List V} {us : List Value} (r : Vals xs us) : xs.length = us.length := Paired.length r
theorem Vals.get : ∀ {xs : List V} {us : List Value} {i : Nat} {x : V}, Vals xs us → xs[i]? = some x → ∃ u, us[i]? = some u ∧ RelV x u
  | _, _, _, _, .nil, e => by simp at e
  | _, _, 0, _, .cons r _, e => by simp at e; subst e; exact ⟨_, rfl, r⟩
  | _, _, i + 1, x, .cons _ t, e => by
    obtain ⟨u, h1, h2⟩ := Vals.get (i := i) (x := x) t (by simpa using e)
    exact ⟨u, by simpa using h1, h2⟩
theorem Vals.set {x : V} {u : Value} (r : RelV x u) : ∀ {xs : List V} {us : List Value} (i : Nat), Vals xs us → Vals (xs.set i x) (us.set i u)
  | _, _, _, .nil => .nil
  | _, _, 0, .cons _ t => .cons r t
  | _, _, i + 1, .cons q t => .cons q (Vals.set r i t)
theorem Vals.append : ∀ {xs ys : List V} {us ws : List Value}, Vals xs us → Vals ys ws → Vals (xs ++ ys) (us ++ ws)
  | _, _, _, _, .nil, s => s
  | _, _, _, _, .cons r t, s => .cons r (Vals.append t s)
theorem Vals.take : ∀ {xs : List V} {us : List Value} (n : Nat), Vals xs us → Vals (xs.take n) (us.take n)
  | _, _, 0, _ => .nil
  | _, _, _ + 1, .nil => .nil
  | _, _, n + 1, .cons r t => .cons r (Vals.take n t)
theorem Vals.drop : ∀ {xs : List V} {us : List Value} (n : Nat), Vals xs us → Vals (xs.drop n) (us.drop n)
  | _, _, 0, r => r
  | _, _, _ + 1, .nil => .nil
  | _, _, n + 1, .cons _ t => Vals.drop n t
def RelO : Option V → Option Value → Prop
  | some v, some u => RelV v u
  | none, none => True
  | _, _ => False
def KV {κ : Type} : List (κ × V) → List (κ × Value) → Prop := Paired fun (p : κ × V) (q : κ × Value) => p.1 = q.1 ∧ RelV p.2 q.2
def kV : Key → V
  | .inl i => .int i
  | .inr x => .str x
inductive HO where
  | lst (xs : List V)
  | tup (xs : List V)
  | dK (kvs : List (Key × V)) | dT (kvs : List (List Key × V))
  | set (S : Int → Bool) (n : Nat)
  | ins (C dx : Addr) (fs : List (Str × V))
  | own (x : Addr)
  | xd (fs : List (Str × V))
  | met (f x : Addr)
  | rng (lo hi : Int)
  | frz (o : Obj) (u : HO)
  | tbl (ps : Array Value)
  | ext (φ : Heap → Prop)
abbrev Hp := Addr → Option HO
def upd (H : Hp) (a : Addr) (o : HO) : Hp := fun b => if b = a then some o else H b
theorem upd_same {H : Hp} {a : Addr} {o : HO} : upd H a o a = some o := by unfold upd; rw [if_pos rfl]
theorem upd_ne {H : Hp} {a b : Addr} {o : HO} (h : b ≠ a) : upd H a o b = H b := by unfold upd; rw [if_neg h]
theorem ne_of_none {H : Hp} {a b : Addr} {o : HO} (h : H a = some o) (h' : H b = none) : a ≠ b := by
  intro e; subst e; rw [h] at h'; cases h'
section
variable (P : Program) (w : World)
def ObjOk (H : Hp) (h : Heap) (a : Addr) : HO → Prop
  | .lst xs => xs.length ≤ sizeLine ∧ ∃ (its : List Value) (n : Nat), Vals xs its ∧ h.get? a = some { cls := .type "list", data := .seq its.toArray n }
  | .tup xs => xs.length ≤ sizeLine ∧ ∃ its : List Value, Vals xs its ∧ IsTup h a its.toArray
  | .dK kvs => kvs.length ≤ sizeLine ∧ (a == sysModules) = false ∧ ∃ vs, KV kvs vs ∧ h.DictOf (mixKind P w) a vs
  | .dT kvs => kvs.length ≤ sizeLine ∧ (a == sysModules) = false ∧ ∃ xs : List (List Key × Addr × Value),
      Paired (fun (p : List Key × V) (q : List Key × Addr × Value) => p.1 = q.1 ∧ H q.2.1 = some (.tup (p.1.map kV)) ∧ RelV p.2 q.2.2) kvs xs ∧
      ∃ o es ep, h.get? a = some o ∧ o.ExactDict ∧ o.data = .dict es ep ∧ es.toList = xs.map (entryOfKey (tupleKind (mixKind P w))) ∧ (xs.map (·.1)).Nodup
  | .set S n => h.SetOf (intKind P w) a S n
  | .ins C dx fs => H dx = some (.own a) ∧ fs.length ≤ 1000 ∧ dx ≠ a ∧ h.get? a = some (PySem.W.instObj C dx) ∧
      ∃ mA, h.Ns1 dx mA ∧ (∀ f, RelO (fs.lookup f) (mA f)) ∧ PySem.Within mA (fs.map (·.1))
  | .own _ => ∃ o, h.get? a = some o
  | .xd fs => ∃ mA, h.Ns1 a mA ∧ ∀ f, RelO (fs.lookup f) (mA f)
  | .rng lo hi => ∃ t u v, h.get? a = some { cls := .type "range", data := .fields #[.int lo t, .int hi u, .int 1 v] }
  | .frz o u => h.get? a = some o ∧ ObjOk H h a u
  | .tbl ps => h.get? a = some { cls := .none, data := .fields ps }
  | .met f x => h.get? a = some (PySem.W.methodObj (.ref f) (.ref x))
  | .ext φ => φ h ∧ (∃ o, h.get? a = some o) ∧ ∀ h1 h2 : Heap, φ h1 → (∀ o, h1.get? a = some o → h2.get? a = some o) → φ h2
def HOk (H : Hp) (h : Heap) : Prop := ∀ a o, H a = some o → ObjOk P w H h a o
end
section
variable {P : Program} {w : World} {H H' : Hp} {h h' : Heap} {a : Addr} {o : HO}
theorem ObjOk.lt (x : ObjOk P w H h a o) : a < h.objs.size := by
  cases o with
  | lst xs => obtain ⟨_, _, _, _, e⟩ := x; exact Heap.lt_size e
  | tup xs => obtain ⟨_, _, _, p⟩ := x; exact p.lt
  | dK kvs => obtain ⟨_, _, _, _, o, _, _, e, _⟩ := x; exact Heap.lt_size e
  | dT kvs => obtain ⟨_, _, _, _, o, _, _, e, _⟩ := x; exact Heap.lt_size e
  | set S n => obtain ⟨o, _, _, _, e, _⟩ := x; exact Heap.lt_size e
  | ins C dx fs => obtain ⟨_, _, _, e, _⟩ := x; exact Heap.lt_size e
  | own y => obtain ⟨_, e⟩ := x; exact Heap.lt_size e
  | xd fs => obtain ⟨_, ⟨_, _, _, e, _⟩, _⟩ := x; exact Heap.lt_size e
  | rng lo hi => obtain ⟨_, _, _, e⟩ := x; exact Heap.lt_size e
  | frz ob u => obtain ⟨e, _⟩ := x; exact Heap.lt_size e
  | tbl ps => exact Heap.lt_size (show h.get? a = some _ from x)
  | met f y => exact Heap.lt_size (show h.get? a = some _ from x)
  | ext φ => obtain ⟨_, ⟨_, e⟩, _⟩ := x; exact Heap.lt_size e
theorem Paired.mapP {α β : Type} {F G : α → β → Prop} : ∀ {l₁ : List α} {l₂ : List β}, Paired F l₁ l₂ → (∀ a b, F a b → G a b) → Paired G l₁ l₂
  | _, _, .nil, _ => .nil
  | _, _, .cons r t, f => .cons (f _ _ r) (Paired.mapP t f)
theorem ObjOk.stay (x : ObjOk P w H h a o) (k : ∀ b u, (b = a ∨ H b = some (.own a)) → h.get? b = some u → h'.get? b = some u)
    (ho : ∀ b, H b = some (.own a) → H' b = some (.own a)) (ht : ∀ b xs, H b = some (.tup xs) → H' b = some (.tup xs)) : ObjOk P w H' h' a o := by
  induction o with
  | lst xs => obtain ⟨z, its, n, r, e⟩ := x; exact ⟨z, its, n, r, k _ _ (.inl rfl) e⟩
  | tup xs => obtain ⟨z, its, r, ob, e, c⟩ := x; exact ⟨z, its, r, ob, k _ _ (.inl rfl) e, c⟩
  | dK kvs => obtain ⟨z, y, vs, r, ob, es, ep, e, c⟩ := x; exact ⟨z, y, vs, r, ob, es, ep, k _ _ (.inl rfl) e, c⟩
  | dT kvs =>
    obtain ⟨z, y, xs, r, ob, es, ep, e, c⟩ := x
    exact ⟨z, y, xs, Paired.mapP r fun p q z => ⟨z.1, ht _ _ z.2.1, z.2.2⟩, ob, es, ep, k _ _ (.inl rfl) e, c⟩
  | set S n => obtain ⟨ob, es, ep, t, e, c⟩ := x; exact ⟨ob, es, ep, t, k _ _ (.inl rfl) e, c⟩
  | ins C dx fs =>
    obtain ⟨d, z, ne, e, mA, ⟨od, es, ep, e2, c⟩, r⟩ := x
    exact ⟨ho _ d, z, ne, k _ _ (.inl rfl) e, mA, ⟨od, es, ep, k _ _ (.inr d) e2, c⟩, r⟩
  | own y => obtain ⟨ob, e⟩ := x; exact ⟨ob, k _ _ (.inl rfl) e⟩
  | xd fs => obtain ⟨mA, ⟨od, es, ep, e, c⟩, r⟩ := x; exact ⟨mA, ⟨od, es, ep, k _ _ (.inl rfl) e, c⟩, r⟩
  | rng lo hi => obtain ⟨t, u, v, e⟩ := x; exact ⟨t, u, v, k _ _ (.inl rfl) e⟩
  | frz ob u ih => obtain ⟨e, q⟩ := x; exact ⟨k _ _ (.inl rfl) e, ih q⟩
  | tbl ps =>
    have e : h.get? a = some { cls := .none, data := .fields ps } := x
    show h'.get? a = some { cls := .none, data := .fields ps }
    exact k a _ (.inl rfl) e
  | met f y =>
    have e : h.get? a = some (PySem.W.methodObj (.ref f) (.ref y)) := x
    show h'.get? a = some (PySem.W.methodObj (.ref f) (.ref y))
    exact k a _ (.inl rfl) e
  | ext φ => obtain ⟨p, ⟨o, e⟩, st⟩ := x; exact ⟨st _ _ p fun o q => k _ _ (.inl rfl) q, ⟨o, k _ _ (.inl rfl) e⟩, st⟩
theorem HOk.lt (x : HOk P w H h) (e : H a = some o) : a < h.objs.size := (x a o e).lt
theorem HOk.fresh (x : HOk P w H h) (e : h.objs.size ≤ a) : H a = none := by
  cases q : H a with
  | none => rfl
  | some u => exact absurd (Nat.lt_of_lt_of_le (x.lt q) e) (Nat.lt_irrefl _)
theorem HOk.kept (x : HOk P w H h) (k : ∀ b u, h.get? b = some u → h'.get? b = some u) : HOk P w H h' := fun a o e =>
  (x a o e).stay (fun b u _ q => k b u q) (fun _ q => q) fun _ _ q => q
theorem HOk.laid (x : HOk P w H h) (k : ∀ b u, h.get? b = some u → h'.get? b = some u) (hp : h.objs.size ≤ a) (new : ObjOk P w (upd H a o) h' a o) : HOk P w (upd H a o) h' := fun b u e => by
  have hn := x.fresh hp
  by_cases hb : b = a
  · subst hb; rw [upd_same] at e; cases e; exact new
  · rw [upd_ne hb] at e
    exact (x b u e).stay (fun c v _ q => k c v q) (fun c q => by rw [upd_ne (ne_of_none q hn)]; exact q) fun c xs q => by rw [upd_ne (ne_of_none q hn)]; exact q
end
def Rd (H : Hp) (a : Addr) (u : HO) : Prop := H a = some u ∨ ∃ o, H a = some (.frz o u)
theorem Rd.ok {P : Program} {w : World} {H : Hp} {h : Heap} {a : Addr} {u : HO} (r : Rd H a u) (x : HOk P w H h) : ObjOk P w H h a u := by
  rcases r with r | ⟨o, r⟩
  · exact x a u r
  · obtain ⟨_, q⟩ := x a _ r
    exact q
def Mut : Option HO → Prop
  | some (.lst _) => True
  | some (.dK _) => True
  | some (.dT _) => True
  | some (.set _ _) => True
  | some (.ins _ _ _) => True
  | some (.ext _) => True
  | _ => False
section
variable {P : Program} {w : World} {H : Hp} {h h' : Heap} {x e : Addr} {o' : HO}
theorem HOk.write (ok : HOk P w H h) (mu : Mut (H x)) (he : e = x ∨ H e = some (.own x)) (k : ∀ b u, b ≠ e → h.get? b = some u → h'.get? b = some u) (heo : ∃ u, h'.get? e = some u)
    (new : ObjOk P w (upd H x o') h' x o') : HOk P w (upd H x o') h' := fun b u q => by
  have nown : ∀ c y, H c = some (.own y) → c ≠ x := fun c y r z => by subst z; rw [r] at mu; exact mu
  have ntup : ∀ c xs, H c = some (.tup xs) → c ≠ x := fun c xs r z => by subst z; rw [r] at mu; exact mu
  by_cases hb : b = x
  · subst hb; rw [upd_same] at q; cases q; exact new
  · rw [upd_ne hb] at q
    by_cases hbe : b = e
    · have q' : H b = some (.own x) := by
        rcases he with z | z
        · exact absurd (hbe.trans z) hb
        · rw [hbe]; exact z
      rw [q] at q'; cases q'
      obtain ⟨v, hv⟩ := heo
      exact ⟨v, by rw [hbe]; exact hv⟩
    · refine (ok b u q).stay (fun c v hc r => k c v ?_ r) (fun c r => by rw [upd_ne (nown c b r)]; exact r) fun c xs r => by rw [upd_ne (ntup c xs r)]; exact r
      rcases hc with rfl | hc
      · exact hbe
      · rintro rfl
        rcases he with z | z
        · exact nown c b hc z
        · rw [hc] at z; cases z; exact hb rfl
end
structure Un (fs ex : List Addr) (H H' : Hp) (h h' : Heap) : Prop where
  keep : ∀ b o, h.get? b = some o → H b = none → b ∉ fs → b ∉ ex → h'.get? b = some o
  slot : ∀ b o, h.get? b = some o → H b = none → b ∈ fs → b ∉ ex → ∃ sl, h'.get? b = some { o with slots := sl }
  free : ∀ b o, h.get? b = some o → H b = none → b ∉ ex → H' b = none
  there : ∀ b o, h.get? b = some o → b ∉ ex → ∃ o', h'.get? b = some o'
  tups : ∀ b xs, H b = some (.tup xs) → H' b = some (.tup xs)
  frzs : ∀ b o u, H b = some (.frz o u) → H' b = some (.frz o u)
  tbls : ∀ b ps, H b = some (.tbl ps) → ∃ more, H' b = some (.tbl (ps ++ more))
section
variable {fs fs' ex ex' : List Addr} {H H1 H2 : Hp} {h h1 h2 h' : Heap} {a x e : Addr} {o : HO}
theorem Un.any (u : Un fs ex H H1 h h1) {b : Addr} {ob : Obj} (q : h.get? b = some ob) (n : H b = none) (hx : b ∉ ex) : ∃ sl, h1.get? b = some { ob with slots := sl } := by
  by_cases hb : b ∈ fs
  · exact u.slot b ob q n hb hx
  · exact ⟨ob.slots, u.keep b ob q n hb hx⟩
theorem Un.kept (k : ∀ b u, h.get? b = some u → h'.get? b = some u) : Un fs ex H H h h' :=
  ⟨fun b ob q _ _ _ => k b ob q, fun b ob q _ _ _ => ⟨ob.slots, k b ob q⟩, fun _ _ _ n _ => n, fun b ob q _ => ⟨ob, k b ob q⟩, fun _ _ q => q, fun _ _ _ q => q, fun _ ps q => ⟨#[], by rw [q]; simp⟩⟩
theorem Un.refl : Un fs ex H H h h := Un.kept fun _ _ q => q
theorem Un.laid (k : ∀ b u, h.get? b = some u → h'.get? b = some u) (hp : h.objs.size ≤ a) (hn : H a = none) : Un fs ex H (upd H a o) h h' where
  keep := fun b u q _ _ _ => k b u q
  slot := fun b u q _ _ _ => ⟨u.slots, k b u q⟩
  free := fun b u q n _ => by rw [upd_ne (Nat.ne_of_lt (Nat.lt_of_lt_of_le (Heap.lt_size q) hp))]; exact n
  there := fun b u q _ => ⟨u, k b u q⟩
  tups := fun b xs q => by rw [upd_ne (ne_of_none q hn)]; exact q
  frzs := fun b u xs q => by rw [upd_ne (ne_of_none q hn)]; exact q
  tbls := fun b ps q => ⟨#[], by rw [upd_ne (ne_of_none q hn), q]; simp⟩
theorem Un.write (mu : Mut (H x)) (he : e = x ∨ H e = some (.own x)) (k : ∀ b u, b ≠ e → h.get? b = some u → h'.get? b = some u) (heo : ∃ u, h'.get? e = some u) : Un fs ex H (upd H x o) h h' := by
  have hx : ∀ b, H b = none → b ≠ x := fun b n z => by subst z; rw [n] at mu; exact mu
  have hb : ∀ b, H b = none → b ≠ e := fun b n z => by
    subst z
    rcases he with r | r
    · exact hx b n r
    · rw [n] at r; cases r
  have hm : ∀ b u, H b = some u → ¬ Mut (some u) → b ≠ x := fun b u q nm z => by subst z; rw [q] at mu; exact nm mu
  refine ⟨fun b u q n _ _ => k b u (hb b n) q, fun b u q n _ _ => ⟨u.slots, k b u (hb b n) q⟩, fun b u q n _ => by rw [upd_ne (hx b n)]; exact n, fun b u q _ => ?_,
    fun b xs q => by rw [upd_ne (hm b _ q fun z => z)]; exact q, fun b u xs q => by rw [upd_ne (hm b _ q fun z => z)]; exact q, fun b ps q => ⟨#[], by rw [upd_ne (hm b _ q fun z => z), q]; simp⟩⟩
  by_cases hbe : b = e
  · subst hbe; exact heo
  · exact ⟨u, k b u hbe q⟩
end
def trk (h : Heap) (H : Hp) : List Addr := (List.range h.objs.size).filter fun a => (H a).isSome
def hidT (h : Heap) (H : Hp) : Heap := PySem.W.hideAll h (trk h H)
theorem hidT_size (h : Heap) (H : Hp) : (hidT h H).objs.size = h.objs.size := PySem.W.hideAll_size _ _
theorem hidT_get {h : Heap} {H : Hp} {b : Addr} {o : Obj} (e : h.get? b = some o) (n : H b = none) : (hidT h H).get? b = some o :=
  PySem.W.hideAll_get _ e fun hm => by
    have q : (H b).isSome = true := (List.mem_filter.mp hm).2
    rw [n] at q; simp at q
theorem of_hidT {h : Heap} {H : Hp} {b : Addr} {o : Obj} (e : (hidT h H).get? b = some o) : h.get? b = some o ∧ H b = none := by
  have e' : h.get? b = some o := PySem.W.of_hideAll (trk h H) e
  refine ⟨e', ?_⟩
  cases q : H b with
  | none => rfl
  | some x =>
    have hm : b ∈ trk h H := List.mem_filter.mpr ⟨List.mem_range.mpr (Heap.lt_size e'), by simp [q]⟩
    have z : (hidT h H).get? b = none := PySem.W.hideAll_none (trk h H) hm
    rw [z] at e; cases e
def allNews (g h : Heap) (L : Addr) : List (Addr × Obj) := (List.range h.objs.size).filterMap fun a => if a = L ∨ (g.get? a).isSome = true then none else (h.get? a).map fun o => (a, o)
def rest (g h : Heap) (L d : Addr) : List (Addr × Obj) := (allNews g h L).filter fun p => decide (p.1 ≠ d)
end L2
namespace L2
open PySem PySem.Spec PyProof.Rows
structure Mod (K : PySem.W.Frag) (mg : Str → Option Value) (base : Heap) : Prop where
  kin : K.In base
  glob : base.Ns mainGlobals mg
  blt : ∃ mb, base.Ns builtinsNs mb ∧ ∀ x : Str, x ≠ "__name__" → mb x = bootBuiltins x
  nolimit : base.NoLimit
structure Cx where
  prog : Program
  w : World
  K : PySem.W.Frag
  mg : Str → Option Value
  base : Heap
  A : Around
  N : List Str
  s₀ : Shared
  H₀ : Hp
  env : Env
  outer : List Env
  stack : List Env
  ex : List Addr
  fn : Str → Bool
  calm : Bool
  pn : List (Addr × Obj)
  xe : Value → Shared → Prop
def frs (l : List Env) : List Addr := l.filterMap (·.frame)
abbrev Cx.fs (X : Cx) : List Addr := frs X.outer
def Vis (sc : Scope) (x : Str) : Prop := sc.names.lookup x = some .local ∨ sc.names.lookup x = some .cell ∨ sc.names.lookup x = some .free
def Loc (sc : Scope) (x : Str) : Prop := sc.names.lookup x = some .local ∨ sc.names.lookup x = some .cell
def Look (env : Env) (h : Heap) (m : Str → Option Value) (x : Str) (u : Value) : Prop :=
  (env.kindOf x = some .local ∧ m x = some u) ∨ ((env.kindOf x = some .cell ∨ env.kindOf x = some .free) ∧ ∃ c, env.cells.lookup x = some c ∧ h.IsCell c (some u))
structure Cx.Ok (X : Cx) : Prop where
  mod : Mod X.K X.mg X.base
  kind : X.env.scope.kind = .function
  glob : X.env.globals = mainGlobals
  blt : X.env.builtins = builtinsNs
  above : X.s₀.heap.objs.size ≤ X.env.locals
  inj : ∀ x y c, X.env.cells.lookup x = some c → X.env.cells.lookup y = some c → x = y
  has : ∀ x, (X.env.kindOf x = some .cell ∨ X.env.kindOf x = some .free) → ∃ c, X.env.cells.lookup x = some c
  cab : ∀ x c, X.fn x = true → X.env.cells.lookup x = some c → X.s₀.heap.objs.size ≤ c
  hd : X.calm = true → X.A.handled = none
  frames : X.A.frames = some X.stack
  stk : X.stack = X.outer ∨ (X.stack = X.env :: X.outer ∧ X.env.frame = some X.env.locals)
  exf : ∀ b ∈ X.ex, b ≠ X.env.locals ∧ ∀ x c, X.env.cells.lookup x = some c → c ≠ b
  bs : ∀ b o, X.base.get? b = some o → X.s₀.heap.get? b = some o ∧ X.H₀ b = none
  bsz : X.base.objs.size ≤ X.s₀.heap.objs.size
  noex : ∀ b o, X.base.get? b = some o → b ∉ X.ex
  exfs : ∀ b ∈ X.ex, b ∉ X.fs
  funs : X.s₀.heap.FunFrames X.base X.outer
  frf : ∀ b ∈ X.fs, X.H₀ b = none
structure Inv (X : Cx) (pins : List (Addr × Obj)) (σ : List (Option V)) (H : Hp) (s : Shared) : Prop where
  ok : X.Ok
  os : s.os = X.s₀.os
  bare : AllBare s.gens
  base : Un X.fs X.ex X.H₀ H X.s₀.heap s.heap
  loc : ∃ m, s.heap.Ns X.env.locals m ∧ ∀ (i : Nat) (x : Str) (v : V), X.N[i]? = some x → σ[i]? = some (some v) → Vis X.env.scope x → ∃ u, RelV v u ∧ Look X.env s.heap m x u
  cell : ∀ x c, X.env.cells.lookup x = some c → ∃ v, s.heap.IsCell c v
  free : H X.env.locals = none
  freeC : ∀ x c, X.env.cells.lookup x = some c → H c = none
  pin : ∀ p ∈ X.pn ++ pins, s.heap.get? p.1 = some p.2 ∧ H p.1 = none ∧ p.1 ≠ X.env.locals ∧ p.1 ∉ X.fs ∧ ∀ v, p.2.data ≠ .cell v
  hok : HOk X.prog X.w H s.heap
  len : σ.length = X.N.length
section
variable {X : Cx} {pins : List (Addr × Obj)} {σ : List (Option V)} {H H' : Hp} {s : Shared} {h' : Heap}
theorem Cx.Ok.nofr (ok : X.Ok) {b : Addr} {o : Obj} (e : X.base.get? b = some o) : b ∉ X.fs := fun hb => by
  have := (ok.funs.mem hb).1
  rw [e] at this; cases this
theorem Inv.bs (I : Inv X pins σ H s) : ∀ b o, X.base.get? b = some o → s.heap.get? b = some o ∧ H b = none := fun b o e =>
  ⟨I.base.keep b o (I.ok.bs b o e).1 (I.ok.bs b o e).2 (I.ok.nofr e) (I.ok.noex b o e), I.base.free b o (I.ok.bs b o e).1 (I.ok.bs b o e).2 (I.ok.noex b o e)⟩
theorem Inv.bk (I : Inv X pins σ H s) : ∀ b o, X.base.get? b = some o → s.heap.get? b = some o := fun b o e => (I.bs b o e).1
theorem Inv.mod (I : Inv X pins σ H s) : Mod X.K X.mg X.base := I.ok.mod
theorem Inv.kIn (I : Inv X pins σ H s) : X.K.In s.heap := I.ok.mod.kin.keeps I.bk
theorem Inv.fr (I : Inv X pins σ H s) : ∃ m, Fr X.base X.env.locals s.heap m :=
  let ⟨m, hn, _⟩ := I.loc
  ⟨m, hn, I.bk, Nat.le_trans I.ok.bsz I.ok.above⟩
theorem Inv.lt (I : Inv X pins σ H s) : X.env.locals < s.heap.objs.size := let ⟨_, hn, _⟩ := I.loc; hn.lt
theorem Inv.sz (I : Inv X pins σ H s) : X.s₀.heap.objs.size ≤ s.heap.objs.size := Nat.le_trans I.ok.above (Nat.le_of_lt I.lt)
theorem Inv.nofs (I : Inv X pins σ H s) {a : Addr} (h : s.heap.objs.size ≤ a) : a ∉ X.fs := fun hb => by
  obtain ⟨_, o, ho, _⟩ := I.ok.funs.mem hb
  exact absurd (Nat.lt_of_lt_of_le (Heap.lt_size ho) (Nat.le_trans I.sz h)) (Nat.lt_irrefl _)
theorem Inv.cne (I : Inv X pins σ H s) : ∀ x c, X.env.cells.lookup x = some c → c ≠ X.env.locals := fun x c e z => by
  obtain ⟨v, o, ho, hd⟩ := I.cell x c e
  obtain ⟨m, ⟨o', es, ep, ho', hd', _⟩, _⟩ := I.loc
  rw [z, ho'] at ho; cases ho; rw [hd'] at hd; cases hd
theorem Inv.funs (I : Inv X pins σ H s) : s.heap.FunFrames X.base X.outer := by
  have all : ∀ (l : List Env), (∀ b ∈ frs l, b ∈ X.fs) → X.s₀.heap.FunFrames X.base l → s.heap.FunFrames X.base l := by
    intro l
    induction l with
    | nil => intro _ _; trivial
    | cons env r ih =>
      intro hs hl
      obtain ⟨hk, ⟨L, o, hf, hn, ho, hd⟩, hr⟩ := hl
      have hL : L ∈ X.fs := hs L (by unfold frs; rw [List.filterMap_cons, hf]; exact List.mem_cons_self)
      obtain ⟨sl, e⟩ := I.base.slot L o ho (I.ok.frf L hL) hL fun z => I.ok.exfs L z hL
      exact ⟨hk, ⟨L, _, hf, hn, e, hd⟩, ih (fun b hb => hs b (by unfold frs; rw [List.filterMap_cons, hf]; exact List.mem_cons_of_mem _ hb)) hr⟩
  exact all X.outer (fun _ hb => hb) I.ok.funs
theorem Inv.stack (I : Inv X pins σ H s) : s.heap.FunFrames X.base X.stack := by
  rcases I.ok.stk with e | ⟨e, hf⟩
  · rw [e]; exact I.funs
  · rw [e]
    obtain ⟨m, hn, _⟩ := I.loc
    refine .cons (by rw [I.ok.kind]; decide) hf hn ?_ I.funs
    exact Heap.get?_none_of_le (Nat.le_trans I.ok.bsz I.ok.above)
theorem Inv.stkSub (I : Inv X pins σ H s) : ∀ b ∈ frs X.stack, b ∈ X.env.locals :: X.fs := fun b hb => by
  rcases I.ok.stk with e | ⟨e, hf⟩
  · rw [e] at hb; exact List.mem_cons_of_mem _ hb
  · rw [e] at hb
    unfold frs at hb
    rw [List.filterMap_cons, hf] at hb
    exact hb
theorem Inv.stkFree (I : Inv X pins σ H s) : ∀ b ∈ frs X.stack, H b = none := fun b hb => by
  rcases List.mem_cons.mp (I.stkSub b hb) with e | hb
  · rw [e]; exact I.free
  · obtain ⟨_, o, ho, _⟩ := I.ok.funs.mem hb
    exact I.base.free b o ho (I.ok.frf b hb) fun z => I.ok.exfs b z hb
theorem Inv.step {g' : Array GenState} {t' : Nat} {d' : Drawn} {ch : List Addr} (I : Inv X pins σ H s)
    (hch : ∀ b ∈ ch, (b ∈ X.ex ∨ X.s₀.heap.objs.size ≤ b) ∧ b ≠ X.env.locals ∧ (∀ x c, X.env.cells.lookup x = some c → c ≠ b) ∧ ∀ p ∈ X.pn ++ pins, p.1 ≠ b)
    (keep : ∀ b o, b ≠ X.env.locals → b ∉ X.fs → b ∉ ch → s.heap.get? b = some o → H b = none → h'.get? b = some o)
    (slot : ∀ b o, b ≠ X.env.locals → b ∈ X.fs → b ∉ ch → s.heap.get? b = some o → H b = none → ∃ sl, h'.get? b = some { o with slots := sl }) (free : ∀ b o, b ∉ ch → s.heap.get? b = some o → H b = none → H' b = none)
    (there : ∀ b o, b ∉ ch → s.heap.get? b = some o → ∃ o', h'.get? b = some o')
    (tups : ∀ b xs, H b = some (.tup xs) → H' b = some (.tup xs)) (frzs : ∀ b o u, H b = some (.frz o u) → H' b = some (.frz o u)) (tbls : ∀ b ps, H b = some (.tbl ps) → ∃ more, H' b = some (.tbl (ps ++ more)))
    (ns : ∀ m, s.heap.Ns X.env.locals m → h'.Ns X.env.locals m) (hok : HOk X.prog X.w H' h') (hg : AllBare g') :
    Inv X pins σ H' { s with heap := h', gens := g', drawn := d', toks := t' } := by
  have neL : ∀ b o, X.s₀.heap.get? b = some o → b ≠ X.env.locals := fun b o e => Nat.ne_of_lt (Nat.lt_of_lt_of_le (Heap.lt_size e) I.ok.above)
  have neC : ∀ b o, X.s₀.heap.get? b = some o → b ∉ X.ex → b ∉ ch := fun b o e hx hb => by
    rcases (hch b hb).1 with z | z
    · exact hx z
    · exact absurd (Nat.lt_of_lt_of_le (Heap.lt_size e) z) (Nat.lt_irrefl _)
  have cellK : ∀ x c, X.env.cells.lookup x = some c → ∀ v, s.heap.IsCell c v → h'.IsCell c v := fun x c e v ⟨o, ho, hd⟩ => by
    have nch : c ∉ ch := fun z => (hch c z).2.2.1 x c e rfl
    by_cases hc : c ∈ X.fs
    · obtain ⟨sl, q⟩ := slot c o (I.cne x c e) hc nch ho (I.freeC x c e)
      exact ⟨_, q, hd⟩
    · exact ⟨o, keep c o (I.cne x c e) hc nch ho (I.freeC x c e), hd⟩
  refine ⟨I.ok, I.os, hg, ⟨fun b o e n hb hx => ?_, fun b o e n hb hx => ?_, fun b o e n hx => ?_, fun b o e hx => ?_, fun b xs e => tups b xs (I.base.tups b xs e), fun b o xs e => frzs b o xs (I.base.frzs b o xs e), fun b ps e => ?_⟩, ?_, fun x c e => ?_, ?_, fun x c e => ?_, fun p hp => ?_, hok, I.len⟩
  · exact keep b o (neL b o e) hb (neC b o e hx) (I.base.keep b o e n hb hx) (I.base.free b o e n hx)
  · obtain ⟨sl, e1⟩ := I.base.slot b o e n hb hx
    obtain ⟨sl', e2⟩ := slot b _ (neL b o e) hb (neC b o e hx) e1 (I.base.free b o e n hx)
    exact ⟨sl', e2⟩
  · obtain ⟨o', e1⟩ := I.base.there b o e hx
    exact free b o' (neC b o e hx) e1 (I.base.free b o e n hx)
  · obtain ⟨o', e1⟩ := I.base.there b o e hx
    exact there b o' (neC b o e hx) e1
  · obtain ⟨m1, e1⟩ := I.base.tbls b ps e
    obtain ⟨m2, e2⟩ := tbls b _ e1
    exact ⟨m1 ++ m2, by rw [e2, Array.append_assoc]⟩
  · obtain ⟨m, hn, hl⟩ := I.loc
    refine ⟨m, ns m hn, fun i x v e1 e2 e3 => ?_⟩
    obtain ⟨u, r, l⟩ := hl i x v e1 e2 e3
    refine ⟨u, r, ?_⟩
    rcases l with l | ⟨k, c, e, z⟩
    · exact .inl l
    · exact .inr ⟨k, c, e, cellK x c e _ z⟩
  · obtain ⟨v, z⟩ := I.cell x c e
    exact ⟨v, cellK x c e v z⟩
  · obtain ⟨m, ⟨o, _, _, ho, _⟩, _⟩ := I.loc
    exact free _ o (fun z => (hch _ z).2.1 rfl) ho I.free
  · obtain ⟨v, o, ho, hd⟩ := I.cell x c e
    exact free c o (fun z => (hch c z).2.2.1 x c e rfl) ho (I.freeC x c e)
  · obtain ⟨e, n, ne, nf, d⟩ := I.pin p hp
    have nch : p.1 ∉ ch := fun z => (hch p.1 z).2.2.2 p hp rfl
    exact ⟨keep p.1 p.2 ne nf nch e n, free p.1 p.2 nch e n, ne, nf, d⟩
theorem Inv.un {t' : Nat} (I : Inv X pins σ H s) (u : Un X.fs [] H H' s.heap h') (hok : HOk X.prog X.w H' h') : Inv X pins σ H' { s with heap := h', toks := t' } := by
  obtain ⟨m, ⟨o, es, ep, ho, r⟩, _⟩ := id I.loc
  obtain ⟨sl, hL⟩ := u.any ho I.free (by simp)
  exact I.step (g' := s.gens) (d' := s.drawn) (ch := []) (fun _ z => nomatch z) (fun b o _ hb _ e n => u.keep b o e n hb (by simp)) (fun b o _ hb _ e n => u.slot b o e n hb (by simp)) (fun b o _ e n => u.free b o e n (by simp)) (fun b o _ e => u.there b o e (by simp)) u.tups u.frzs u.tbls (fun m' hm => by
    obtain ⟨o', es', ep', ho', r'⟩ := hm
    rw [ho] at ho'; cases ho'
    exact ⟨_, es', ep', hL, r'⟩) hok I.bare
theorem Inv.call {g' : Array GenState} {t' : Nat} {d' : Drawn} {ch : List Addr} (I : Inv X pins σ H s) (u : Un (frs X.stack) ch H H' s.heap h') (hok : HOk X.prog X.w H' h') (hg : AllBare g')
    (hch : ∀ b ∈ ch, (b ∈ X.ex ∨ X.s₀.heap.objs.size ≤ b) ∧ b ≠ X.env.locals ∧ (∀ x c, X.env.cells.lookup x = some c → c ≠ b) ∧ ∀ p ∈ X.pn ++ pins, p.1 ≠ b) :
    Inv X pins σ H' { s with heap := h', gens := g', drawn := d', toks := t' } := by
  obtain ⟨m, ⟨o, es, ep, ho, r⟩, _⟩ := id I.loc
  obtain ⟨sl, hL⟩ := u.any ho I.free fun z => (hch _ z).2.1 rfl
  exact I.step (ch := ch) hch (fun b o hL hb hc e n => u.keep b o e n (fun z => (List.mem_cons.mp (I.stkSub b z)).elim hL hb) hc) (fun b o _ _ hc e n => u.any e n hc) (fun b o hc e n => u.free b o e n hc) (fun b o hc e => u.there b o e hc) u.tups u.frzs u.tbls (fun m' hm => by
    obtain ⟨o', es', ep', ho', r'⟩ := hm
    rw [ho] at ho'; cases ho'
    exact ⟨_, es', ep', hL, r'⟩) hok hg
theorem Inv.turned {t' : Nat} {it : Addr} (I : Inv X pins σ H s) (k : ∀ b o, b ≠ it → s.heap.get? b = some o → h'.get? b = some o) (hn : H it = none) (hL : it ≠ X.env.locals)
    (h1 : it ∈ X.ex ∨ X.s₀.heap.objs.size ≤ it) (h2 : ∀ x c, X.env.cells.lookup x = some c → c ≠ it) (h3 : ∀ p ∈ X.pn ++ pins, p.1 ≠ it) : Inv X pins σ H { s with heap := h', toks := t' } := by
  have nit : ∀ b u, H b = some u → b ≠ it := fun b u e z => by rw [z, hn] at e; cases e
  refine I.step (g' := s.gens) (d' := s.drawn) (ch := [it]) (fun b hb => ?_) (fun b o _ _ hc e _ => k b o (fun z => hc (by simp [z])) e) (fun b o _ _ hc e _ => ⟨o.slots, k b o (fun z => hc (by simp [z])) e⟩) (fun _ _ _ _ n => n)
    (fun b o hc e => ⟨o, k b o (fun z => hc (by simp [z])) e⟩) (fun _ _ e => e) (fun _ _ _ e => e) (fun b ps e => ⟨#[], by rw [e]; simp⟩) (fun m hm => ?_) (fun b u e => ?_) I.bare
  · have e : b = it := by simpa using hb
    subst e
    exact ⟨h1, hL, h2, h3⟩
  · obtain ⟨o, es, ep, ho, r⟩ := hm
    exact ⟨o, es, ep, k _ o (Ne.symm hL) ho, r⟩
  · refine (I.hok b u e).stay (fun c v hc q => k c v ?_ q) (fun _ q => q) fun _ _ q => q
    rcases hc with z | z
    · rw [z]; exact nit b u e
    · exact nit c _ z
theorem Inv.tok (I : Inv X pins σ H s) (t : Nat) : Inv X pins σ H { s with toks := t } := I.un (h' := s.heap) (t' := t) Un.refl I.hok
theorem Inv.kept {t' : Nat} (I : Inv X pins σ H s) (k : ∀ b u, s.heap.get? b = some u → h'.get? b = some u) : Inv X pins σ H { s with heap := h', toks := t' } := I.un (Un.kept k) (I.hok.kept k)
theorem Inv.laid {a : Addr} {o : HO} {t' : Nat} (I : Inv X pins σ H s) (k : ∀ b u, s.heap.get? b = some u → h'.get? b = some u) (hp : s.heap.objs.size ≤ a) (new : ObjOk X.prog X.w (upd H a o) h' a o) :
    Inv X pins σ (upd H a o) { s with heap := h', toks := t' } := I.un (Un.laid k hp (I.hok.fresh hp)) (I.hok.laid k hp new)
theorem Inv.write {x e : Addr} {o : HO} {t' : Nat} (I : Inv X pins σ H s) (mu : Mut (H x)) (he : e = x ∨ H e = some (.own x)) (k : ∀ b u, b ≠ e → s.heap.get? b = some u → h'.get? b = some u) (heo : ∃ u, h'.get? e = some u)
    (new : ObjOk X.prog X.w (upd H x o) h' x o) : Inv X pins σ (upd H x o) { s with heap := h', toks := t' } := I.un (Un.write mu he k heo) (I.hok.write mu he k heo new)
theorem Inv.weak {σ' : List (Option V)} (I : Inv X pins σ H s) (hl : σ'.length = σ.length) (w : ∀ (i : Nat) v, σ'[i]? = some (some v) → σ[i]? = some (some v)) : Inv X pins σ' H s :=
  ⟨I.ok, I.os, I.bare, I.base, let ⟨m, hn, hl'⟩ := I.loc; ⟨m, hn, fun i x v e1 e2 e3 => hl' i x v e1 (w i v e2) e3⟩, I.cell, I.free, I.freeC, I.pin, I.hok, hl.trans I.len⟩
theorem Inv.pins_of {pins' : List (Addr × Obj)} (I : Inv X pins σ H s) (h : ∀ p ∈ pins', s.heap.get? p.1 = some p.2 ∧ H p.1 = none ∧ p.1 ≠ X.env.locals ∧ p.1 ∉ X.fs ∧ ∀ v, p.2.data ≠ .cell v) : Inv X pins' σ H s :=
  ⟨I.ok, I.os, I.bare, I.base, I.loc, I.cell, I.free, I.freeC, fun p hp => (List.mem_append.mp hp).elim (fun z => I.pin p (List.mem_append_left _ z)) (h p), I.hok, I.len⟩
theorem nodup_ix {N : List Str} (hN : N.Nodup) {i j : Nat} {x : Str} (a : N[i]? = some x) (b : N[j]? = some x) : i = j := by
  obtain ⟨h1, e1⟩ := List.getElem?_eq_some_iff.mp a
  obtain ⟨h2, e2⟩ := List.getElem?_eq_some_iff.mp b
  exact (List.getElem_inj hN).mp (e1.trans e2.symm)
theorem store_ok2 {M : Model} {A : Around} {E : Value → Shared → Prop} {i : Nat} {x : Str} {v : V} {u : Value} {Q : Unit → Shared → Prop} (I : Inv X pins σ H s) (hN : X.N.Nodup) (hi : X.N[i]? = some x) (hx : Loc X.env.scope x) (r : RelV v u)
    (h : ∀ s', Inv X pins (σ.set i (some v)) H s' → (∃ a, Heap.SameBut a s.heap s'.heap ∧ (a = X.env.locals ∨ X.env.cells.lookup x = some a)) → Q () s') (hf : X.fn x = true ∨ X.env.scope.names.lookup x = some .local := by first | exact .inl rfl | exact .inr rfl | assumption) : wpAny M A (storeName X.env x u) Q E s := by
  obtain ⟨m, hn, hl⟩ := id I.loc
  have hcls : (X.env.scope.kind == .class || (X.env.scope.kind == .module && X.env.locals != X.env.globals)) = false := by rw [I.ok.kind]; rfl
  have hiσ : i < σ.length := by rw [I.len]; exact (List.getElem?_eq_some_iff.mp hi).1
  have cne := I.cne
  have tracked : ∀ {a : Addr} {h' : Heap}, (∃ o, s.heap.get? a = some o ∧ H a = none) → Heap.SameBut a s.heap h' → HOk X.prog X.w H h' := fun {a h'} ha hs b ob e => by
    obtain ⟨_, _, hfree⟩ := ha
    refine (I.hok b ob e).stay (fun c w' hc q => (hs.2 c ?_).trans q) (fun _ q => q) fun _ _ q => q
    rintro rfl
    rcases hc with rfl | hc
    · rw [hfree] at e; cases e
    · rw [hfree] at hc; cases hc
  rcases hx with hk | hk
  · refine wpAny_storeName_local hk hn (fun h' hn' hs => ?_) hcls
    obtain ⟨oL, _, _, hoL, _⟩ := id hn
    refine h _ ⟨I.ok, I.os, I.bare, ⟨fun b o e n hb hx => ?_, fun b o e n hb hx => ?_, I.base.free, fun b o e hx => ?_, I.base.tups, I.base.frzs, I.base.tbls⟩, ⟨_, hn', fun j y v' e1 e2 e3 => ?_⟩, fun y c e => ?_, I.free, I.freeC, fun p hp => ?_, tracked ⟨oL, hoL, I.free⟩ hs, by simpa using I.len⟩ ⟨_, hs, .inl rfl⟩
    · exact (hs.2 b (Nat.ne_of_lt (Nat.lt_of_lt_of_le (Heap.lt_size e) I.ok.above))).trans (I.base.keep b o e n hb hx)
    · obtain ⟨sl, e1⟩ := I.base.slot b o e n hb hx
      exact ⟨sl, (hs.2 b (Nat.ne_of_lt (Nat.lt_of_lt_of_le (Heap.lt_size e) I.ok.above))).trans e1⟩
    · obtain ⟨o', e1⟩ := I.base.there b o e hx
      exact ⟨o', (hs.2 b (Nat.ne_of_lt (Nat.lt_of_lt_of_le (Heap.lt_size e) I.ok.above))).trans e1⟩
    · by_cases hj : j = i
      · subst hj
        rw [hi] at e1; cases e1
        rw [List.getElem?_set_self hiσ] at e2
        cases e2
        exact ⟨u, r, .inl ⟨hk, by simp⟩⟩
      · rw [List.getElem?_set_ne (Ne.symm hj)] at e2
        obtain ⟨u', r', q⟩ := hl j y v' e1 e2 e3
        refine ⟨u', r', ?_⟩
        rcases q with ⟨k, e⟩ | ⟨k, c, e, z⟩
        · refine .inl ⟨k, ?_⟩
          have : y ≠ x := fun e => hj (nodup_ix hN e1 (e ▸ hi))
          simp [this, e]
        · exact .inr ⟨k, c, e, z.sameBut hs (cne y c e)⟩
    · obtain ⟨w', z⟩ := I.cell y c e
      exact ⟨w', z.sameBut hs (cne y c e)⟩
    · obtain ⟨e, n, ne, nf, d⟩ := I.pin p hp
      exact ⟨(hs.2 p.1 ne).trans e, n, ne, nf, d⟩
  · have hfn : X.fn x = true := by
      rcases hf with z | z
      · exact z
      · rw [z] at hk; cases hk
    obtain ⟨c, hc⟩ := I.ok.has x (.inl hk)
    obtain ⟨w', z⟩ := I.cell x c hc
    refine wpAny_storeName_cell I.ok.kind hk hc z (fun h' hc' hs => ?_)
    obtain ⟨oc, hoc, hocd⟩ := id z
    refine h { s with heap := h' } ⟨I.ok, I.os, I.bare, ⟨fun b o e n hb hx => ?_, fun b o e n hb hx => ?_, I.base.free, fun b o e hx => ?_, I.base.tups, I.base.frzs, I.base.tbls⟩, ⟨m, hn.sameBut hs (Ne.symm (cne x c hc)), fun j y v' e1 e2 e3 => ?_⟩, fun y c' e => ?_, I.free, I.freeC, fun p hp => ?_, tracked ⟨oc, hoc, I.freeC x c hc⟩ hs, by simpa using I.len⟩ ⟨c, hs, .inr hc⟩
    · exact (hs.2 b (Nat.ne_of_lt (Nat.lt_of_lt_of_le (Heap.lt_size e) (I.ok.cab x c hfn hc)))).trans (I.base.keep b o e n hb hx)
    · obtain ⟨sl, e1⟩ := I.base.slot b o e n hb hx
      exact ⟨sl, (hs.2 b (Nat.ne_of_lt (Nat.lt_of_lt_of_le (Heap.lt_size e) (I.ok.cab x c hfn hc)))).trans e1⟩
    · obtain ⟨o', e1⟩ := I.base.there b o e hx
      exact ⟨o', (hs.2 b (Nat.ne_of_lt (Nat.lt_of_lt_of_le (Heap.lt_size e) (I.ok.cab x c hfn hc)))).trans e1⟩
    · by_cases hj : j = i
      · subst hj
        rw [hi] at e1; cases e1
        rw [List.getElem?_set_self hiσ] at e2
        cases e2
        exact ⟨u, r, .inr ⟨.inl hk, c, hc, hc'⟩⟩
      · rw [List.getElem?_set_ne (Ne.symm hj)] at e2
        obtain ⟨u', r', q⟩ := hl j y v' e1 e2 e3
        refine ⟨u', r', ?_⟩
        rcases q with q | ⟨k, c', e, z'⟩
        · exact .inl q
        · refine .inr ⟨k, c', e, z'.sameBut hs ?_⟩
          rintro rfl
          exact hj (nodup_ix hN e1 (I.ok.inj _ _ _ e hc ▸ hi))
    · by_cases hcc : c' = c
      · subst hcc; exact ⟨_, hc'⟩
      · obtain ⟨w2, z2⟩ := I.cell y c' e
        exact ⟨w2, z2.sameBut hs hcc⟩
    · obtain ⟨e, n, ne, nf, d⟩ := I.pin p hp
      refine ⟨(hs.2 p.1 ?_).trans e, n, ne, nf, d⟩
      intro q
      rw [q, hoc] at e
      have q' : oc = p.2 := Option.some.inj e
      exact d w' (by rw [← q']; exact hocd)
theorem store_ok {M : Model} {A : Around} {E : Value → Shared → Prop} {i : Nat} {x : Str} {v : V} {u : Value} {Q : Unit → Shared → Prop} (I : Inv X pins σ H s) (hN : X.N.Nodup) (hi : X.N[i]? = some x) (hx : Loc X.env.scope x) (r : RelV v u)
    (h : ∀ s', Inv X pins (σ.set i (some v)) H s' → Q () s') (hf : X.fn x = true ∨ X.env.scope.names.lookup x = some .local := by first | exact .inl rfl | exact .inr rfl | assumption) : wpAny M A (storeName X.env x u) Q E s :=
  store_ok2 I hN hi hx r (fun s' I' _ => h s' I') hf
theorem Inv.call' {s' : Shared} {ch : List Addr} (I : Inv X pins σ H s) (ho : s'.os = s.os) (u : Un (frs X.stack) ch H H' s.heap s'.heap) (hok : HOk X.prog X.w H' s'.heap) (hg : AllBare s'.gens)
    (hch : ∀ b ∈ ch, (b ∈ X.ex ∨ X.s₀.heap.objs.size ≤ b) ∧ b ≠ X.env.locals ∧ (∀ x c, X.env.cells.lookup x = some c → c ≠ b) ∧ ∀ p ∈ X.pn ++ pins, p.1 ≠ b) : Inv X pins σ H' s' := by
  obtain ⟨h', g', d', t', o'⟩ := s'
  have e : o' = s.os := ho
  subst e
  exact I.call (g' := g') (t' := t') (d' := d') u hok hg hch
end
abbrev XK := Value → Option Addr → Hp → Prop
abbrev St := List (Option V)
abbrev VK := V → Hp → Prop
abbrev TE := St → Hp → VK → Prop
abbrev TT := St → Hp → (Bool → Hp → Prop) → Prop
abbrev TA := St → Hp → (List V → Hp → Prop) → Prop
structure Ends where
  nx : St → Hp → Prop
  rt : VK
  bk : St → Hp → Prop := fun _ _ => False
  ct : St → Hp → Prop := fun _ _ => False
abbrev TS := Ends → St → Hp → Prop
def EP (X : Cx) (pins : List (Addr × Obj)) (σ : St) (Q : VK) (u : Value) (s' : Shared) : Prop := ∃ v H', Inv X pins σ H' s' ∧ RelV v u ∧ Q v H'
def TP (X : Cx) (pins : List (Addr × Obj)) (σ : St) (Q : Bool → Hp → Prop) (b : Bool) (s' : Shared) : Prop := ∃ H', Inv X pins σ H' s' ∧ Q b H'
def AP (X : Cx) (pins : List (Addr × Obj)) (σ : St) (Q : List V → Hp → Prop) (us : List Value) (s' : Shared) : Prop := ∃ vs H', Inv X pins σ H' s' ∧ Vals vs us ∧ Q vs H'
def SP (X : Cx) (pins : List (Addr × Obj)) (D : Ends) (f : Flow) (s' : Shared) : Prop :=
  match f with
  | .next => ∃ σ' H', Inv X pins σ' H' s' ∧ D.nx σ' H'
  | .brk => ∃ σ' H', Inv X pins σ' H' s' ∧ D.bk σ' H'
  | .cont => ∃ σ' H', Inv X pins σ' H' s' ∧ D.ct σ' H'
  | .ret u => ∃ v σ' H', Inv X pins σ' H' s' ∧ RelV v u ∧ D.rt v H'
def PE (X : Cx) (e : Expr) (t : TE) : Prop :=
  ∀ (pins : List (Addr × Obj)) (s : Shared) (σ : St) (H : Hp) (Q : VK), Inv X pins σ H s → t σ H Q → wpAny (model X.prog X.w) X.A (eval e X.env) (EP X pins σ Q) X.xe s
def PT (X : Cx) (e : Expr) (t : TT) : Prop :=
  ∀ (pins : List (Addr × Obj)) (s : Shared) (σ : St) (H : Hp) (Q : Bool → Hp → Prop), Inv X pins σ H s → t σ H Q → wpAny (model X.prog X.w) X.A (isTrue e X.env (eval e X.env)) (TP X pins σ Q) X.xe s
def PW (X : Cx) (e : Expr) (t : TT) : Prop :=
  ∀ (whole : Sem Value) (pins : List (Addr × Obj)) (s : Shared) (σ : St) (H : Hp) (Q : Bool → Hp → Prop), Inv X pins σ H s → t σ H Q → wpAny (model X.prog X.w) X.A (isTrue e X.env whole) (TP X pins σ Q) X.xe s
theorem PW.pt {X : Cx} {e : Expr} {t : TT} (h : PW X e t) : PT X e t := h _
def PA (X : Cx) (es : List Expr) (t : TA) : Prop :=
  ∀ (pos : Pos) (pins : List (Addr × Obj)) (s : Shared) (σ : St) (H : Hp) (Q : List V → Hp → Prop), Inv X pins σ H s → t σ H Q → wpAny (model X.prog X.w) X.A (spliced (backTo pos (starEach es X.env))) (AP X pins σ Q) X.xe s
def PS (X : Cx) (st : Stmt) (t : TS) : Prop :=
  ∀ (pins : List (Addr × Obj)) (s : Shared) (σ : St) (H : Hp) (D : Ends), Inv X pins σ H s → t D σ H → wpAny (model X.prog X.w) X.A (exec st X.env) (SP X pins D) X.xe s
def PSs (X : Cx) (st : List Stmt) (t : TS) : Prop :=
  ∀ (pins : List (Addr × Obj)) (s : Shared) (σ : St) (H : Hp) (D : Ends), Inv X pins σ H s → t D σ H → wpAny (model X.prog X.w) X.A (execs st X.env) (SP X pins D) X.xe s
theorem thn {α : Type} {t : Sem α} {Q Q' : α → Shared → Prop} {M : Model} {A : Around} {E : Value → Shared → Prop} {s : Shared} (h : wpAny M A t Q E s) (hQ : ∀ a s, Q a s → Q' a s) : wpAny M A t Q' E s := wpAny_mono h hQ fun _ _ x => x
end L2
namespace L2
open PySem PySem.Spec PyProof.Rows
section
variable {X : Cx}
theorem bin {a b : Expr} {ta tb : TE} (ha : PE X a ta) (hb : PE X b tb) {pins : List (Addr × Obj)} {s : Shared} {σ : St} {H : Hp} {R : V → V → Hp → Prop} (I : Inv X pins σ H s) (h : ta σ H fun x H1 => tb σ H1 fun y H2 => R x y H2)
    {α : Type} {Q : α → Shared → Prop} {f : Value → Value → Sem α}
    (hf : ∀ v u s2 x y H2, Inv X pins σ H2 s2 → RelV x v → RelV y u → R x y H2 → wpAny (model X.prog X.w) X.A (f v u) Q X.xe s2) :
    wpAny (model X.prog X.w) X.A (eval a X.env) (fun v s₁ => wpAny (model X.prog X.w) X.A (eval b X.env) (fun u s₂ => wpAny (model X.prog X.w) X.A (f v u) Q X.xe s₂) X.xe s₁) X.xe s := by
  refine thn (ha pins s σ H _ I h) fun v s1 ⟨x, H1, I1, r1, q1⟩ => ?_
  refine thn (hb pins s1 σ H1 _ I1 q1) fun u s2 ⟨y, H2, I2, r2, q2⟩ => ?_
  exact hf v u s2 x y H2 I2 r1 r2 q2
def tVar (i : Nat) : TE := fun σ H Q => ∃ v, σ[i]? = some (some v) ∧ Q v H
def tC (v : V) : TE := fun _ H Q => Q v H
theorem pe_var {i : Nat} {x : Str} {pos : Pos} (hN : X.N[i]? = some x) (hv : Vis X.env.scope x) (hd : (x == ("__debug__" : Str)) = false := by decide) (hcd : (x == ("__classdict__" : Str)) = false := by decide) : PE X (.Name x pos) (tVar i) := by
  intro pins s σ H Q I h
  obtain ⟨v, e, h⟩ := h
  obtain ⟨m, hn, hl⟩ := I.loc
  obtain ⟨u, r, l⟩ := hl i x v hN e hv
  have fin : EP X pins σ Q u s := ⟨v, H, I, r, h⟩
  rcases l with ⟨hk, hm⟩ | ⟨hk, c, hc, hcell⟩
  · exact wpAny_Name (wpAny_loadName_local I.ok.kind hk hn hm fin) hd
  · rcases hk with hk | hk
    · exact wpAny_Name (wpAny_loadName_cell I.ok.kind hk hc hcell fin) hd
    · exact wpAny_Name (wpAny_loadName_free I.ok.kind hk hc hcell fin hcd) hd
theorem pe_int {i j pos} : PE X (.Constant (.int i) j pos) (tC (.int i)) := fun _ _ _ H _ I h => wpAny_Constant_int ⟨.int i, H, I.tok _, ⟨_, rfl⟩, h⟩
theorem pe_bl {b j pos} : PE X (.Constant (.bool b) j pos) (tC (.bl b)) := fun _ _ _ H _ I h => Constant_bool ⟨.bl b, H, I, rfl, h⟩
theorem pe_non {j pos} : PE X (.Constant .none j pos) (tC .non) := fun _ _ _ H _ I h => Constant_none ⟨.non, H, I, rfl, h⟩
theorem pe_str {x j pos} : PE X (.Constant (.str x) j pos) (tC (.str x)) := fun _ _ _ H _ I h => Calls.Constant_str ⟨.str x, H, I.tok _, ⟨_, rfl⟩, h⟩
def Gl (X : Cx) (x : Str) : Prop := X.env.kindOf x = some .globalImplicit
theorem ld_glob {E : Value → Shared → Prop} {pins : List (Addr × Obj)} {s : Shared} {σ : St} {H : Hp} {x : Str} {u : Value} {pos : Pos} {Q : Value → Shared → Prop} (I : Inv X pins σ H s) (hg : Gl X x) (hm : X.mg x = some u) (h : Q u s)
    (hd : (x == ("__debug__" : Str)) = false := by decide) : wpAny (model X.prog X.w) X.A (eval (.Name x pos) X.env) Q E s :=
  Calls.Name_function_global I.ok.kind hg (Calls.loadGlobal_global (by rw [I.ok.glob]; exact I.mod.glob.keeps I.bk) hm h) hd
theorem ld_blt {E : Value → Shared → Prop} {pins : List (Addr × Obj)} {s : Shared} {σ : St} {H : Hp} {x : Str} {u : Value} {pos : Pos} {Q : Value → Shared → Prop} (I : Inv X pins σ H s) (hg : Gl X x) (hm : X.mg x = none) (hv : bootBuiltins x = some u) (h : Q u s)
    (hn : x ≠ "__name__" := by decide) (hd : (x == ("__debug__" : Str)) = false := by decide) : wpAny (model X.prog X.w) X.A (eval (.Name x pos) X.env) Q E s := by
  obtain ⟨mb, h1, h2⟩ := I.mod.blt
  exact Calls.Name_function_global I.ok.kind hg (Calls.loadGlobal_builtin (by rw [I.ok.glob]; exact I.mod.glob.keeps I.bk) hm (by rw [I.ok.blt]; exact h1.keeps I.bk) ((h2 x hn).trans hv) h) hd
theorem pe_glob {x : Str} {v : V} {u : Value} {pos : Pos} (hg : Gl X x) (hm : X.mg x = some u) (r : RelV v u) (hd : (x == ("__debug__" : Str)) = false := by decide) : PE X (.Name x pos) (tC v) :=
  fun _ _ _ H _ I h => ld_glob I hg hm ⟨v, H, I, r, h⟩ hd
theorem pe_bltn {x : Str} {v : V} {u : Value} {pos : Pos} (hg : Gl X x) (hm : X.mg x = none) (hv : bootBuiltins x = some u) (r : RelV v u) (hn : x ≠ "__name__" := by decide) (hd : (x == ("__debug__" : Str)) = false := by decide) : PE X (.Name x pos) (tC v) :=
  fun _ _ _ H _ I h => ld_blt I hg hm hv ⟨v, H, I, r, h⟩ hn hd
def t2I (ta tb : TE) (k : Int → Int → Hp → Prop) : St → Hp → Prop := fun σ H => ta σ H fun x H1 => tb σ H1 fun y H2 => ∃ i j, x = .int i ∧ y = .int j ∧ k i j H2
variable {a b : Expr} {ta tb : TE} {pos : Pos}
def tCmp (p : Int → Int → Bool) (ta tb : TE) : TE := fun σ H Q => t2I ta tb (fun i j H2 => Q (.bl (p i j)) H2) σ H
abbrev tLt : TE → TE → TE := tCmp fun i j => decide (i < j)
abbrev tLe : TE → TE → TE := tCmp fun i j => decide (i ≤ j)
abbrev tGt : TE → TE → TE := tCmp fun i j => decide (j < i)
abbrev tGe : TE → TE → TE := tCmp fun i j => decide (j ≤ i)
abbrev tEqI : TE → TE → TE := tCmp fun i j => decide (i = j)
abbrev tNeI : TE → TE → TE := tCmp fun i j => !decide (i = j)
variable {tA tB' : TT} {rest : List Expr}
def tAnd (t u : TT) : TT := fun σ H Q => t σ H fun c H1 => if c = true then u σ H1 Q else Q false H1
def tOr (t u : TT) : TT := fun σ H Q => t σ H fun c H1 => if c = true then Q true H1 else u σ H1 Q
def tNot (t : TT) : TT := fun σ H Q => t σ H fun c H1 => Q (!c) H1
theorem pw_and1 (ha : PT X a tA) : PW X (.BoolOp .And [a] pos) tA := by
  intro wh pins s σ H Q I h
  refine isTrue_and (thn (ha pins s σ H Q I h) fun c s1 e => ?_)
  cases c with
  | true => exact isTrue_and_nil e
  | false => exact e
theorem pw_or1 (ha : PT X a tA) : PW X (.BoolOp .Or [a] pos) tA := by
  intro wh pins s σ H Q I h
  refine isTrue_or (thn (ha pins s σ H Q I h) fun c s1 e => ?_)
  cases c with
  | false => exact isTrue_or_nil e
  | true => exact e
theorem pw_and (ha : PT X a tA) (hb : PW X (.BoolOp .And (b :: rest) pos) tB') : PW X (.BoolOp .And (a :: b :: rest) pos) (tAnd tA tB') := by
  intro wh pins s σ H Q I h
  refine isTrue_and (thn (ha pins s σ H _ I h) fun c s1 ⟨H1, I1, q1⟩ => ?_)
  cases c with
  | true => exact hb wh pins s1 σ H1 Q I1 q1
  | false => exact ⟨H1, I1, q1⟩
theorem pw_or (ha : PT X a tA) (hb : PW X (.BoolOp .Or (b :: rest) pos) tB') : PW X (.BoolOp .Or (a :: b :: rest) pos) (tOr tA tB') := by
  intro wh pins s σ H Q I h
  refine isTrue_or (thn (ha pins s σ H _ I h) fun c s1 ⟨H1, I1, q1⟩ => ?_)
  cases c with
  | true => exact ⟨H1, I1, q1⟩
  | false => exact hb wh pins s1 σ H1 Q I1 q1
theorem pt_not (ha : PT X a tA) : PT X (.UnaryOp .Not a pos) (tNot tA) := by
  intro pins s σ H Q I h
  exact isTrue_not (ha pins s σ H (fun c H1 => Q (!c) H1) I h)
def tAndV (ta tb : TE) : TE := fun σ H Q => ta σ H fun x H1 => ∃ c, x = .bl c ∧ if c = true then tb σ H1 Q else Q (.bl false) H1
def tOrV (ta tb : TE) : TE := fun σ H Q => ta σ H fun x H1 => ∃ c, x = .bl c ∧ if c = true then Q (.bl true) H1 else tb σ H1 Q
theorem pe_one {op} {t : TE} (h : PE X a t) : PE X (.BoolOp op [a] pos) t := fun pins s σ H Q I hw => BoolOp_one (h pins s σ H Q I hw)
theorem pe_and (ha : PE X a ta) (hb : PE X (.BoolOp .And (b :: rest) pos) tb) : PE X (.BoolOp .And (a :: b :: rest) pos) (tAndV ta tb) := by
  intro pins s σ H Q I h
  refine BoolOp_and (thn (ha pins s σ H _ I h) fun v s1 ⟨x, H1, I1, r1, q1⟩ => ?_)
  obtain ⟨c, rfl, q1⟩ := q1
  cases r1
  refine wpAny_truthy_bool ?_
  cases c with
  | true => exact hb pins s1 σ H1 Q I1 q1
  | false => exact ⟨.bl false, H1, I1, rfl, q1⟩
theorem pe_or (ha : PE X a ta) (hb : PE X (.BoolOp .Or (b :: rest) pos) tb) : PE X (.BoolOp .Or (a :: b :: rest) pos) (tOrV ta tb) := by
  intro pins s σ H Q I h
  refine BoolOp_or (thn (ha pins s σ H _ I h) fun v s1 ⟨x, H1, I1, r1, q1⟩ => ?_)
  obtain ⟨c, rfl, q1⟩ := q1
  cases r1
  refine wpAny_truthy_bool ?_
  cases c with
  | false => exact hb pins s1 σ H1 Q I1 q1
  | true => exact ⟨.bl true, H1, I1, rfl, q1⟩
def tIf (t : TT) (ta tb : TE) : TE := fun σ H Q => t σ H fun c H1 => if c = true then ta σ H1 Q else tb σ H1 Q
theorem pe_ifExp {c : Expr} (hc : PT X c tA) (ha : PE X a ta) (hb : PE X b tb) : PE X (.IfExp c a b pos) (tIf tA ta tb) := by
  intro pins s σ H Q I h
  refine wpAny_IfExp (thn (hc pins s σ H _ I h) fun d s1 ⟨H1, I1, q1⟩ => ?_)
  cases d with
  | true => exact ha pins s1 σ H1 Q I1 q1
  | false => exact hb pins s1 σ H1 Q I1 q1
end
end L2
namespace L2
open PySem PySem.Spec PyProof.Rows
def SqL (K : PySem.W.Frag) (H : Hp) (a : Addr) (xs : List V) : Prop :=
  Rd H a (.lst xs) ∨
    ∃ (o : Obj) (its : Array Value) (n : Nat), K.lookup a = some o ∧ o.cls = .type "list" ∧ o.dict = none ∧ o.data = .seq its n ∧ its.size ≤ sizeLine ∧ Vals xs its.toList
def SqT (K : PySem.W.Frag) (H : Hp) (a : Addr) (xs : List V) : Prop :=
  Rd H a (.tup xs) ∨
    ∃ (o : Obj) (its : Array Value) (n : Nat), K.lookup a = some o ∧ o.cls = .type "tuple" ∧ o.data = .seq its n ∧ its.size ≤ sizeLine ∧ Vals xs its.toList
def absV : Value → Option V
  | .none => some .non
  | .bool b => some (.bl b)
  | .int i _ => some (.int i)
  | .str x _ => some (.str x)
  | .bytes b _ => some (.byt b)
  | .float b _ => some (.flt b)
  | .ref a => some (.ref a)
  | .type n => some (.ty n)
  | _ => none
theorem RelV.abs {x : V} {u : Value} (r : RelV x u) : absV u = some x := by
  cases x with
  | non => cases r; rfl
  | bl _ => cases r; rfl
  | int _ => obtain ⟨t, rfl⟩ := r; rfl
  | str _ => obtain ⟨t, rfl⟩ := r; rfl
  | byt _ => obtain ⟨t, rfl⟩ := r; rfl
  | flt _ => obtain ⟨t, rfl⟩ := r; rfl
  | ref _ => cases r; rfl
  | ty _ => cases r; rfl
theorem RelV.inj {x y : V} {u : Value} (r : RelV x u) (q : RelV y u) : x = y := Option.some.inj (r.abs.symm.trans q.abs)
theorem Vals.inj : ∀ {xs ys : List V} {us : List Value}, Vals xs us → Vals ys us → xs = ys
  | _, _, _, .nil, .nil => rfl
  | _, _, _, .cons r t, .cons r' t' => by rw [r.inj r', Vals.inj t t']
section
variable {X : Cx} {pins : List (Addr × Obj)} {σ : St} {H : Hp} {s : Shared} {a : Addr} {xs ys : List V}
theorem SqL.of {K : PySem.W.Frag} (h : H a = some (.lst xs)) : SqL K H a xs := .inl (.inl h)
theorem SqT.of {K : PySem.W.Frag} (h : H a = some (.tup xs)) : SqT K H a xs := .inl (.inl h)
theorem Inv.list (I : Inv X pins σ H s) (h : SqL X.K H a xs) : ∃ its : List Value, Vals xs its ∧ PlainL s.heap a its.toArray ∧ xs.length ≤ sizeLine := by
  rcases h with h | ⟨o, its, n, hk, hc, hd, hs, hz, r⟩
  · obtain ⟨z, its, n, r, e⟩ := h.ok I.hok
    exact ⟨its, r, ⟨_, n, e, rfl, rfl, rfl⟩, z⟩
  · refine ⟨its.toList, r, ⟨o, n, I.kIn a o hk, hc, hd, by simpa using hs⟩, ?_⟩
    have e := r.length
    simp only [Array.length_toList] at e
    omega
theorem Inv.tuple (I : Inv X pins σ H s) (h : SqT X.K H a xs) : ∃ its : List Value, Vals xs its ∧ IsTup s.heap a its.toArray ∧ xs.length ≤ sizeLine := by
  rcases h with h | ⟨o, its, n, hk, hc, hs, hz, r⟩
  · obtain ⟨z, its, r, p⟩ := h.ok I.hok
    exact ⟨its, r, p, z⟩
  · refine ⟨its.toList, r, ⟨o, I.kIn a o hk, hc, n, by simpa using hs⟩, ?_⟩
    have e := r.length
    simp only [Array.length_toList] at e
    omega
theorem Inv.list_inj (I : Inv X pins σ H s) (h : SqL X.K H a xs) (h' : SqL X.K H a ys) : xs = ys := by
  obtain ⟨its, r, ⟨o, n, e, _, _, d⟩, _⟩ := I.list h
  obtain ⟨its', r', ⟨o', n', e', _, _, d'⟩, _⟩ := I.list h'
  rw [e] at e'; cases e'
  rw [d] at d'
  injection d' with d1 _
  have : its = its' := by simpa using congrArg Array.toList d1
  subst this
  exact r.inj r'
theorem Inv.tuple_inj (I : Inv X pins σ H s) (h : SqT X.K H a xs) (h' : SqT X.K H a ys) : xs = ys := by
  obtain ⟨its, r, ⟨o, e, _, n, d⟩, _⟩ := I.tuple h
  obtain ⟨its', r', ⟨o', e', _, n', d'⟩, _⟩ := I.tuple h'
  rw [e] at e'; cases e'
  rw [d] at d'
  injection d' with d1 _
  have : its = its' := by simpa using congrArg Array.toList d1
  subst this
  exact r.inj r'
end
abbrev Cx.wish (X : Cx) (E : Value → Shared → Prop) : Cx := { X with xe := E }
abbrev Cx.nox (X : Cx) : Cx := X.wish fun _ _ => False
theorem Cx.Ok.wish {X : Cx} (ok : X.Ok) (E : Value → Shared → Prop) : (X.wish E).Ok :=
  ⟨ok.mod, ok.kind, ok.glob, ok.blt, ok.above, ok.inj, ok.has, ok.cab, ok.hd, ok.frames, ok.stk, ok.exf, ok.bs, ok.bsz, ok.noex, ok.exfs, ok.funs, ok.frf⟩
theorem Cx.Ok.unwish {X : Cx} {E : Value → Shared → Prop} (ok : (X.wish E).Ok) : X.Ok :=
  ⟨ok.mod, ok.kind, ok.glob, ok.blt, ok.above, ok.inj, ok.has, ok.cab, ok.hd, ok.frames, ok.stk, ok.exf, ok.bs, ok.bsz, ok.noex, ok.exfs, ok.funs, ok.frf⟩
section
variable {X : Cx} {pins : List (Addr × Obj)} {σ : St} {H : Hp} {s : Shared} {E : Value → Shared → Prop}
theorem Inv.wish (I : Inv X pins σ H s) (E : Value → Shared → Prop) : Inv (X.wish E) pins σ H s := ⟨I.ok.wish E, I.os, I.bare, I.base, I.loc, I.cell, I.free, I.freeC, I.pin, I.hok, I.len⟩
theorem Inv.unwish (I : Inv (X.wish E) pins σ H s) : Inv X pins σ H s := ⟨I.ok.unwish, I.os, I.bare, I.base, I.loc, I.cell, I.free, I.freeC, I.pin, I.hok, I.len⟩
theorem SP.unwish {D : Ends} {f : Flow} {s' : Shared} (h : SP (X.wish E) pins D f s') : SP X pins D f s' := by
  cases f with
  | next => obtain ⟨σ', H', I, q⟩ := h; exact ⟨σ', H', I.unwish, q⟩
  | brk => obtain ⟨σ', H', I, q⟩ := h; exact ⟨σ', H', I.unwish, q⟩
  | cont => obtain ⟨σ', H', I, q⟩ := h; exact ⟨σ', H', I.unwish, q⟩
  | ret u => obtain ⟨v, σ', H', I, r, q⟩ := h; exact ⟨v, σ', H', I.unwish, r, q⟩
theorem PSs.nox {st : List Stmt} {t : TS} (h : PSs X.nox st t) : PSs X st t := fun pins s σ H D I hw =>
  wpAny_mono (h pins s σ H D (I.wish _) hw) (fun _ _ q => q.unwish) fun _ _ z => False.elim z
end
section
variable {X : Cx} {st : Stmt} {rest : List Stmt} {t u : TS} {e : Expr} {te : TE} {pos : Pos}
def tNext : TS := fun D σ H => D.nx σ H
def tSeq (t u : TS) : TS := fun D σ H => t { D with nx := u D } σ H
theorem pss_nil : PSs X [] tNext := fun _ _ σ H _ I h => wpAny_execs_nil ⟨σ, H, I, h⟩
theorem pss_cons (h1 : PS X st t) (h2 : PSs X rest u) : PSs X (st :: rest) (tSeq t u) := by
  intro pins s σ H D I h
  refine wpAny_execs_cons (thn (h1 pins s σ H { D with nx := u D } I h) fun f s1 q => ?_)
  cases f with
  | next =>
    obtain ⟨σ', H', I', q⟩ := q
    exact h2 pins s1 σ' H' D I' q
  | ret v => exact q
  | brk => exact q
  | cont => exact q
theorem pss_one (h1 : PS X st t) : PSs X [st] t := by
  intro pins s σ H D I h
  refine wpAny_execs_cons (thn (h1 pins s σ H D I h) fun f s1 q => ?_)
  cases f with
  | next => exact wpAny_execs_nil q
  | ret v => exact q
  | brk => exact q
  | cont => exact q
theorem Inv.quiet {pins : List (Addr × Obj)} {σ : St} {H : Hp} {s : Shared} (I : Inv X pins σ H s) : interactive X.env = false := by simp [interactive, I.ok.kind]
def tDrop (te : TE) : TS := fun D σ H => te σ H fun _ H1 => D.nx σ H1
theorem ps_expr (he : PE X e te) (hs : swapsWith e none pos.line X.env = pure false := by rfl) : PS X (.Expr e pos) (tDrop te) := by
  intro pins s σ H D I h
  exact wpAny_Expr_any (thn (he pins s σ H _ I h) fun v s1 ⟨x, H1, I1, r1, q1⟩ => ⟨σ, H1, I1, q1⟩) I.quiet hs
def tRet (te : TE) : TS := fun D σ H => te σ H D.rt
theorem ps_ret (he : PE X e te) : PS X (.Return (some e) pos) (tRet te) := by
  intro pins s σ H D I h
  exact wpAny_Return_some (thn (he pins s σ H _ I h) fun v s1 ⟨x, H1, I1, r1, q1⟩ => ⟨x, σ, H1, I1, r1, q1⟩)
def tIfS (c : TT) (t u : TS) : TS := fun D σ H => c σ H fun b H1 => if b = true then t D σ H1 else u D σ H1
theorem ps_if {c : Expr} {a b : List Stmt} {tc : TT} (hc : PT X c tc) (ha : PSs X a t) (hb : PSs X b u) : PS X (.If c a b pos) (tIfS tc t u) := by
  intro pins s σ H D I h
  refine wpAny_If (thn (hc pins s σ H _ I h) fun d s1 ⟨H1, I1, q1⟩ => ?_)
  cases d with
  | true => exact ha pins s1 σ H1 D I1 q1
  | false => exact hb pins s1 σ H1 D I1 q1
end
abbrev TG := V → St → Hp → (St → Hp → Prop) → Prop
abbrev TGs := List V → St → Hp → (St → Hp → Prop) → Prop
def PG (X : Cx) (target : Expr) (t : TG) : Prop :=
  ∀ (pins : List (Addr × Obj)) (s : Shared) (σ : St) (H : Hp) (v : V) (u : Value) (Q : St → Hp → Prop), Inv X pins σ H s → RelV v u → t v σ H Q →
    wpAny (model X.prog X.w) X.A (assign target X.env u) (fun _ s' => ∃ σ' H', Inv X pins σ' H' s' ∧ Q σ' H') X.xe s
def PGs (X : Cx) (ts : List Expr) (t : TGs) : Prop :=
  ∀ (pins : List (Addr × Obj)) (s : Shared) (σ : St) (H : Hp) (vs : List V) (us : List Value) (Q : St → Hp → Prop), Inv X pins σ H s → Vals vs us → t vs σ H Q →
    wpAny (model X.prog X.w) X.A (assignInOrder ((assignEach ts X.env).map (·.2)) us) (fun _ s' => ∃ σ' H', Inv X pins σ' H' s' ∧ Q σ' H') X.xe s
abbrev TSet := V → V → V → Hp → (Hp → Prop) → Prop
def PSet (X : Cx) (t : TSet) : Prop :=
  ∀ (pins : List (Addr × Obj)) (s : Shared) (σ : St) (H : Hp) (o i v : V) (ov iv u : Value) (Q : Hp → Prop), Inv X pins σ H s → RelV o ov → RelV i iv → RelV v u → t o i v H Q →
    wpAny (model X.prog X.w) X.A (setItem ov iv u) (fun _ s' => ∃ H', Inv X pins σ H' s' ∧ Q H') X.xe s
abbrev TIp := V → V → Hp → VK → Prop
section
variable {X : Cx} {pos : Pos}
def gName (i : Nat) : TG := fun v σ H Q => Q (σ.set i (some v)) H
theorem pg_name {i : Nat} {x : Str} (hN : X.N.Nodup) (hi : X.N[i]? = some x) (hx : Loc X.env.scope x) (hf : X.fn x = true ∨ X.env.scope.names.lookup x = some .local := by first | exact .inl rfl | exact .inr rfl | assumption) : PG X (.Name x pos) (gName i) := by
  intro pins s σ H v u Q I r h
  exact wpAny_assign_Name (store_ok I hN hi hx r (fun s' I' => ⟨_, H, I', h⟩) hf)
def gNil : TGs := fun vs σ H Q => vs = [] ∧ Q σ H
def gCons (t : TG) (u : TGs) : TGs := fun vs σ H Q => ∃ v r, vs = v :: r ∧ t v σ H fun σ' H' => u r σ' H' Q
theorem pgs_nil : PGs X [] gNil := by
  intro pins s σ H vs us Q I r h
  obtain ⟨e, h⟩ := h
  subst e
  cases r
  exact assignInOrder_nil ⟨σ, H, I, h⟩
theorem pgs_cons {e : Expr} {es : List Expr} {t : TG} {u : TGs} (h1 : PG X e t) (h2 : PGs X es u)
    (hs : (assignEach (e :: es) X.env).map (·.2) = assign e X.env :: (assignEach es X.env).map (·.2) := by rfl) : PGs X (e :: es) (gCons t u) := by
  intro pins s σ H vs us Q I r h
  obtain ⟨v, vr, e1, h⟩ := h
  subst e1
  cases r with
  | cons r rr =>
    rw [hs]
    refine assignInOrder_cons (thn (h1 pins s σ H _ _ _ I r h) fun _ s1 ⟨σ1, H1, I1, q1⟩ => ?_)
    exact h2 pins s1 σ1 H1 _ _ Q I1 rr q1
def gTup (K : PySem.W.Frag) (n : Nat) (t : TGs) : TG := fun v σ H Q => ∃ a xs, v = .ref a ∧ SqT K H a xs ∧ xs.length = n ∧ t xs σ H Q
theorem pg_tup {es : List Expr} {k : Nat} {t : TGs} {n : Nat} (hc : X.calm = true) (h : PGs X es t)
    (hn : (assignEach es X.env).length = n := by rfl) (hst : (assignEach es X.env).findIdx? (·.1) = none := by rfl) : PG X (.Tuple es k pos) (gTup X.K n t) := by
  intro pins s σ H v u Q I r hw
  obtain ⟨a, xs, e1, hq, hl, hw⟩ := hw
  subst e1
  cases r
  obtain ⟨its, rv, ht, hz⟩ := I.tuple hq
  refine assign_Tuple_tuple (I.ok.hd hc) ht (by simp [hn, ← hl, rv.length]) hst fun h' hx => ?_
  have I1 : Inv X pins σ H { s with heap := h' } := I.kept (t' := s.toks) fun b o e => hx b o (Nat.ne_of_lt (Heap.lt_size e)) e
  exact h pins _ σ H xs _ Q I1 (by simpa using rv) hw
def gSub (to ti : TE) (t : TSet) : TG := fun v σ H Q => to σ H fun o H1 => ti σ H1 fun i H2 => t o i v H2 fun H3 => Q σ H3
theorem pg_sub {o i : Expr} {to ti : TE} {t : TSet} (ho : PE X o to) (hi : PE X i ti) (hs : PSet X t)
    (ha : ∀ v, assign (.Subscript o i pos) X.env v = (do
      let ov ← holding [v] (eval o X.env)
      let iv ← holding [v, ov] (eval i X.env)
      standAt pos
      holding [v, ov, iv] (setItem ov iv v)
      release [v, ov, iv] []) := by intro _; rfl) : PG X (.Subscript o i pos) (gSub to ti t) := by
  intro pins s σ H v u Q I r h
  rw [ha]
  refine wpAny_bind (wpAny_holding (thn (ho pins s σ H _ I h) fun ov s1 ⟨x, H1, I1, r1, q1⟩ => ?_))
  refine wpAny_bind (wpAny_holding (thn (hi pins s1 σ H1 _ I1 q1) fun iv s2 ⟨y, H2, I2, r2, q2⟩ => ?_))
  refine wpAny_bind (wpAny_standAt (wpAny_bind (wpAny_holding (thn (hs pins s2 σ H2 x y v ov iv u _ I2 r1 r2 r q2) fun _ s3 ⟨H3, I3, q3⟩ => ?_))))
  exact wpAny_release ⟨σ, H3, I3, q3⟩
def tAsg (te : TE) (g : TG) : TS := fun D σ H => te σ H fun x H1 => g x σ H1 D.nx
theorem ps_asg {tg e : Expr} {te : TE} {g : TG} (he : PE X e te) (hg : PG X tg g) (hs : swapsWithSole [tg] e pos.line X.env = pure false := by rfl) (hw : swappedStores [tg] e X.env = pure none := by rfl)
    (h1 : (assignEach [tg] X.env).map (·.2) = [assign tg X.env] := by rfl) : PS X (.Assign [tg] e pos) (tAsg te g) := by
  intro pins s σ H D I h
  refine wpAny_Assign_stores (thn (he pins s σ H _ I h) fun v s1 ⟨x, H1, I1, r1, q1⟩ => ?_) hs hw
  rw [h1]
  exact thn (hg pins s1 σ H1 x v _ I1 r1 q1) fun _ s2 q => q
theorem ps_set {i : Nat} {x : Str} {e : Expr} {te : TE} {pos' : Pos} (hN : X.N.Nodup) (hi : X.N[i]? = some x) (hx : Loc X.env.scope x) (he : PE X e te) (hs : swapsWith e (some (.Name x pos')) pos.line X.env = pure false := by rfl) (hf : X.fn x = true ∨ X.env.scope.names.lookup x = some .local := by first | exact .inl rfl | exact .inr rfl | assumption) :
    PS X (.Assign [.Name x pos'] e pos) (tAsg te (gName i)) := by
  intro pins s σ H D I h
  refine wpAny_Assign_Name (thn (he pins s σ H _ I h) fun v s1 ⟨y, H1, I1, r1, q1⟩ => ?_) hs
  exact store_ok I1 hN hi hx r1 (fun s2 I2 => ⟨_, H1, I2, q1⟩) hf
end
section
variable {X : Cx} {pos : Pos}
end
structure It where
  go : Nat → Hp → Prop
  yld : Nat → Hp → V → Hp → Prop
  stop : Nat → Hp → Prop
def FpOk (X : Cx) (pins : List (Addr × Obj)) (H : Hp) (b : Addr) : Prop :=
  H b = none ∧ b ≠ X.env.locals ∧ b ∉ X.fs ∧ (b ∈ X.ex ∨ X.s₀.heap.objs.size ≤ b) ∧ (∀ x c, X.env.cells.lookup x = some c → c ≠ b) ∧ ∀ p ∈ X.pn ++ pins, p.1 ≠ b
theorem Inv.fpOk {X : Cx} {pins : List (Addr × Obj)} {σ : St} {H H' : Hp} {s : Shared} {b : Addr} (I : Inv X pins σ H s) (hb : s.heap.objs.size ≤ b) (hn : H' b = none) : FpOk X pins H' b := by
  refine ⟨hn, Nat.ne_of_gt (Nat.lt_of_lt_of_le I.lt hb), I.nofs hb, .inr (Nat.le_trans I.sz hb), fun x c e z => ?_, fun p hp z => ?_⟩
  · obtain ⟨v, q⟩ := I.cell x c e
    exact absurd (Nat.lt_of_lt_of_le q.lt (by rw [z]; exact hb)) (Nat.lt_irrefl _)
  · exact absurd (Nat.lt_of_lt_of_le (Heap.lt_size (I.pin p hp).1) (by rw [z]; exact hb)) (Nat.lt_irrefl _)
structure Turn (P : Program) (w : World) (K : PySem.W.Frag) (tg : Expr) (J : It) (fp : List Addr) (it : Addr) (tn : Nat → Heap → Prop) : Prop where
  mem : it ∈ fp
  obj : ∀ i h, tn i h → ∀ b ∈ fp, ∃ o, h.get? b = some o ∧ ∀ v, o.data ≠ .cell v
  keep : ∀ i h h', tn i h → (∀ b ∈ fp, ∀ o, h.get? b = some o → h'.get? b = some o) → tn i h'
  item : ∀ (X : Cx), X.prog = P → X.w = w → X.K = K → X.calm = true → ∀ (i : Nat) (pins : List (Addr × Obj)) (s : Shared) (σ : St) (H : Hp) (E : Value → Shared → Prop), Inv X pins σ H s → (∀ b ∈ fp, FpOk X pins H b) → tn i s.heap → J.go i H →
    wpAny (model P w) X.A (pyNext (.ref it)) (fun r s1 => ∃ u, r = some u ∧
      wpAny (model P w) X.A (letOwnedTupleGo tg (.ref it) u) (fun _ s2 => ∃ x H', Inv X pins σ H' s2 ∧ RelV x u ∧ J.yld i H x H' ∧ tn (i + 1) s2.heap ∧ ∀ b ∈ fp, H' b = none) E s1) E s
  done : ∀ (X : Cx), X.prog = P → X.w = w → X.K = K → X.calm = true → ∀ (i : Nat) (pins : List (Addr × Obj)) (s : Shared) (σ : St) (H : Hp) (E : Value → Shared → Prop), Inv X pins σ H s → (∀ b ∈ fp, FpOk X pins H b) → tn i s.heap → J.stop i H →
    wpAny (model P w) X.A (pyNext (.ref it)) (fun r s1 => r = none ∧ Inv X pins σ H s1) E s
  self : ∀ (A : Around) (i : Nat) (s : Shared) (Q : Value → Shared → Prop) (E : Value → Shared → Prop), tn i s.heap → Q (.ref it) s → wpAny (model P w) A (pyIter (.ref it)) Q E s
abbrev TI := St → Hp → (It → Hp → Prop) → Prop
def PIE (X : Cx) (pins : List (Addr × Obj)) (σ : St) (tg : Expr) (R : It → Hp → Prop) (itv : Value) (s2 : Shared) : Prop :=
  ∃ (it : Addr) (fp : List Addr) (tn : Nat → Heap → Prop) (J : It) (H' : Hp), itv = .ref it ∧ Inv X pins σ H' s2 ∧ Turn X.prog X.w X.K tg J fp it tn ∧ tn 0 s2.heap ∧ (∀ b ∈ fp, FpOk X pins H' b) ∧ R J H'
def PI (X : Cx) (tg iter : Expr) (wi : TI) : Prop :=
  ∀ (pins : List (Addr × Obj)) (s : Shared) (σ : St) (H : Hp) (R : It → Hp → Prop), Inv X pins σ H s → wi σ H R →
    wpAny (model X.prog X.w) X.A (eval iter X.env) (fun v s1 => wpAny (model X.prog X.w) X.A (pyIter v) (PIE X pins σ tg R) X.xe s1) X.xe s
theorem go_of {M : Model} {A : Around} {E : Value → Shared → Prop} {s : Shared} {tg : Expr} {it : Addr} {u : Value} {o : Obj} {n : String} {vs : Array Value} {Q : Unit → Shared → Prop} (ho : s.heap.get? it = some o) (hc : o.cls = .type n) (hd : o.data = .fields vs)
    (hn : ["enumerate", "zip", "dict_itemiterator", "dict_reverseitemiterator", "odict_iterator", "itertools.zip_longest", "itertools.pairwise"].contains n = false) (hQ : Q () s) : wpAny M A (letOwnedTupleGo tg (.ref it) u) Q E s := by
  unfold letOwnedTupleGo
  cases tg <;> first
    | exact wpAny_pure hQ
    | (cases u <;> first
        | exact wpAny_pure hQ
        | (refine wpAny_bind (wpAny_load ho ?_)
           rw [hc, hd]
           show wpAny M A (if (["enumerate", "zip", "dict_itemiterator", "dict_reverseitemiterator", "odict_iterator", "itertools.zip_longest", "itertools.pairwise"].contains n && vs[0]? == some (rawInt _)) = true then _ else _) Q E s
           rw [if_neg (by intro h; rw [hn, Bool.false_and] at h; cases h)]
           exact wpAny_pure hQ))
def Itl (K : PySem.W.Frag) (a : Addr) : It :=
  ⟨fun i H => ∃ xs x, SqL K H a xs ∧ xs[i]? = some x, fun i H x H' => H' = H ∧ ∀ xs, SqL K H a xs → xs[i]? = some x, fun i H => ∃ xs, SqL K H a xs ∧ xs.length ≤ i⟩
def Itt (K : PySem.W.Frag) (a : Addr) : It :=
  ⟨fun i H => ∃ xs x, SqT K H a xs ∧ xs[i]? = some x, fun i H x H' => H' = H ∧ ∀ xs, SqT K H a xs → xs[i]? = some x, fun i H => ∃ xs, SqT K H a xs ∧ xs.length ≤ i⟩
def Itr (lo : Int) (n : Nat) : It := ⟨fun i _ => i < n, fun i H x H' => H' = H ∧ x = .int (lo + i), fun i _ => n ≤ i⟩
theorem turn_list {P : Program} {w : World} {K : PySem.W.Frag} {tg : Expr} (a it : Addr) : Turn P w K tg (Itl K a) [it] it (fun i h => h.IsListIter it a i) where
  mem := by simp
  obj := fun i h st b hb => by
    have e : b = it := by simpa using hb
    subst e
    obtain ⟨o, e, c, d⟩ := st
    exact ⟨o, e, fun v z => by rw [d] at z; cases z⟩
  keep := fun i h h' st k => st.at fun o e => k it (by simp) o e
  item := by
    intro X hP hw hK hc i pins s σ H E I hf st hg
    subst hP hw hK
    obtain ⟨xs, x, hq, hx⟩ := hg
    obtain ⟨its, rv, p, hz⟩ := I.list hq
    obtain ⟨u, hu, ru⟩ := rv.get hx
    obtain ⟨f0, f1, f2, f3, f4, f5⟩ := hf it (by simp)
    refine wpAny_pyNext_list_item st p.isList (x := u) (by simpa using hu) fun h' st' sb => ?_
    have I1 : Inv X pins σ H { s with heap := h' } := I.turned (t' := s.toks) (fun b o hb e => (sb.2 b hb).trans e) f0 f1 f3 f4 f5
    obtain ⟨o, e, c, d⟩ := id st'
    exact ⟨u, rfl, go_of (s := { s with heap := h' }) e c d (by decide) ⟨x, H, I1, ru, ⟨rfl, fun ys hy => by rw [I.list_inj hy hq]; exact hx⟩, st', fun b hb => (hf b hb).1⟩⟩
  done := by
    intro X hP hw hK hc i pins s σ H E I hf st hg
    subst hP hw hK
    obtain ⟨xs, hq, hx⟩ := hg
    obtain ⟨its, rv, p, hz⟩ := I.list hq
    obtain ⟨f0, f1, f2, f3, f4, f5⟩ := hf it (by simp)
    have hl := rv.length
    exact wpAny_pyNext_list_end (I.ok.hd hc) st p.isList (by simp; omega) fun h' eb => ⟨rfl, I.turned (t' := s.toks) (fun b o hb e => eb b o hb e) f0 f1 f3 f4 f5⟩
  self := fun _ _ _ _ _ st h => wpAny_pyIter_listiter st h
theorem turn_tuple {P : Program} {w : World} {K : PySem.W.Frag} {tg : Expr} (a it : Addr) : Turn P w K tg (Itt K a) [it] it (fun i h => h.IsTupleIter it a i) where
  mem := by simp
  obj := fun i h st b hb => by
    have e : b = it := by simpa using hb
    subst e
    obtain ⟨o, e, c, d⟩ := st
    exact ⟨o, e, fun v z => by rw [d] at z; cases z⟩
  keep := fun i h h' st k => st.at fun o e => k it (by simp) o e
  item := by
    intro X hP hw hK hc i pins s σ H E I hf st hg
    subst hP hw hK
    obtain ⟨xs, x, hq, hx⟩ := hg
    obtain ⟨its, rv, p, hz⟩ := I.tuple hq
    obtain ⟨u, hu, ru⟩ := rv.get hx
    obtain ⟨f0, f1, f2, f3, f4, f5⟩ := hf it (by simp)
    refine wpAny_pyNext_tuple_item st (show s.heap.IsTuple a its.toArray from p) (x := u) (by simpa using hu) fun h' st' sb => ?_
    have I1 : Inv X pins σ H { s with heap := h' } := I.turned (t' := s.toks) (fun b o hb e => (sb.2 b hb).trans e) f0 f1 f3 f4 f5
    obtain ⟨o, e, c, d⟩ := id st'
    exact ⟨u, rfl, go_of (s := { s with heap := h' }) e c d (by decide) ⟨x, H, I1, ru, ⟨rfl, fun ys hy => by rw [I.tuple_inj hy hq]; exact hx⟩, st', fun b hb => (hf b hb).1⟩⟩
  done := by
    intro X hP hw hK hc i pins s σ H E I hf st hg
    subst hP hw hK
    obtain ⟨xs, hq, hx⟩ := hg
    obtain ⟨its, rv, p, hz⟩ := I.tuple hq
    obtain ⟨f0, f1, f2, f3, f4, f5⟩ := hf it (by simp)
    have hl := rv.length
    exact wpAny_pyNext_tuple_end (I.ok.hd hc) st (show s.heap.IsTuple a its.toArray from p) (by simp; omega) fun h' eb => ⟨rfl, I.turned (t' := s.toks) (fun b o hb e => eb b o hb e) f0 f1 f3 f4 f5⟩
  self := fun _ _ _ _ _ st h => wpAny_pyIter_tupleiter st h
theorem turn_range {P : Program} {w : World} {K : PySem.W.Frag} {tg : Expr} (it : Addr) (lo : Int) (n : Nat) : Turn P w K tg (Itr lo n) [it] it (fun i h => IsRangeIter h it (lo + (i : Nat) * 1) ((n : Int) - (i : Nat)) 1) where
  mem := by simp
  obj := fun i h st b hb => by
    have e : b = it := by simpa using hb
    subst e
    exact ⟨_, st, fun v z => by
      have z' : Data.fields _ = Data.cell v := z
      cases z'⟩
  keep := fun i h h' st k => k it (by simp) _ st
  item := by
    intro X hP hw hK hc i pins s σ H E I hf st hg
    subst hP hw hK
    obtain ⟨f0, f1, f2, f3, f4, f5⟩ := hf it (by simp)
    have W := Walks.range (prog := X.prog) (w := X.w) (I.ok.hd hc) it lo 1 n
    refine W.item i s _ _ hg st fun v h' tk hv st' kk => ?_
    obtain ⟨t, rfl⟩ := hv
    have I1 : Inv X pins σ H { s with heap := h', toks := tk } := I.turned (fun b o hb e => kk b o (by simpa using hb) e) f0 f1 f3 f4 f5
    refine ⟨_, rfl, go_of (s := { s with heap := h', toks := tk }) (n := "range_iterator") st' rfl rfl (by decide) ⟨.int (lo + i), H, I1, ⟨t, ?_⟩, ⟨rfl, rfl⟩, st', fun b hb => (hf b hb).1⟩⟩
    rw [Int.mul_one]
  done := by
    intro X hP hw hK hc i pins s σ H E I hf st hg
    subst hP hw hK
    obtain ⟨f0, f1, f2, f3, f4, f5⟩ := hf it (by simp)
    exact wpAny_pyNext_range_end (I.ok.hd hc) st (by have : n ≤ i := hg; omega) fun h' eb => ⟨rfl, I.turned (t' := s.toks) (fun b o hb e => eb b o hb e) f0 f1 f3 f4 f5⟩
  self := fun _ _ _ _ _ st h => wpAny_pyIter_rangeiter st h
end L2
namespace L2
open PySem PySem.Spec PyProof.Rows
section
variable {X : Cx} {tg : Expr}
def iList (K : PySem.W.Frag) (tl : TE) : TI := fun σ H R => tl σ H fun x H1 => ∃ a, x = .ref a ∧ (∃ xs, SqL K H1 a xs) ∧ R (Itl K a) H1
def iTup (K : PySem.W.Frag) (tl : TE) : TI := fun σ H R => tl σ H fun x H1 => ∃ a, x = .ref a ∧ (∃ xs, SqT K H1 a xs) ∧ R (Itt K a) H1
theorem pi_list {l : Expr} {tl : TE} (hl : PE X l tl) : PI X tg l (iList X.K tl) := by
  intro pins s σ H R I h
  refine thn (hl pins s σ H _ I h) fun v s1 ⟨x, H1, I1, r1, q1⟩ => ?_
  obtain ⟨a, e, ⟨xs, hq⟩, q⟩ := q1
  subst e
  cases r1
  obtain ⟨its, rv, p, hz⟩ := I1.list hq
  refine wpAny_pyIter_list p.isList ?_
  refine ⟨s1.heap.objs.size, [s1.heap.objs.size], _, _, H1, rfl, I1.kept (t' := s1.toks) fun b o e => Heap.get?_push_of_some _ e, turn_list a _, ⟨_, Heap.get?_push_size _ rfl, rfl, rfl⟩, fun b hb => ?_, q⟩
  have e : b = s1.heap.objs.size := by simpa using hb
  subst e
  exact I1.fpOk (Nat.le_refl _) (I1.hok.fresh (Nat.le_refl _))
theorem pi_tup {l : Expr} {tl : TE} (hl : PE X l tl) : PI X tg l (iTup X.K tl) := by
  intro pins s σ H R I h
  refine thn (hl pins s σ H _ I h) fun v s1 ⟨x, H1, I1, r1, q1⟩ => ?_
  obtain ⟨a, e, ⟨xs, hq⟩, q⟩ := q1
  subst e
  cases r1
  obtain ⟨its, rv, p, hz⟩ := I1.tuple hq
  refine wpAny_pyIter_tuple (show s1.heap.IsTuple a its.toArray from p) ?_
  refine ⟨s1.heap.objs.size, [s1.heap.objs.size], _, _, H1, rfl, I1.kept (t' := s1.toks) fun b o e => Heap.get?_push_of_some _ e, turn_tuple a _, ⟨_, Heap.get?_push_size _ rfl, rfl, rfl⟩, fun b hb => ?_, q⟩
  have e : b = s1.heap.objs.size := by simpa using hb
  subst e
  exact I1.fpOk (Nat.le_refl _) (I1.hok.fresh (Nat.le_refl _))
theorem range_it {pins : List (Addr × Obj)} {σ : St} {H : Hp} {s : Shared} {R : It → Hp → Prop} {E : Value → Shared → Prop} {lo hi : Int} {t u v : Tok} {tk : Nat} (I : Inv X pins σ H s) (h1 : -(2 ^ 62) ≤ lo) (h2 : lo < 2 ^ 62) (h3 : -(2 ^ 62) ≤ hi) (h4 : hi < 2 ^ 62)
    (q : R (Itr lo (hi - lo).toNat) H) : wpAny (model X.prog X.w) X.A (pyIter (.ref s.heap.objs.size)) (PIE X pins σ tg R) E { s with heap := s.heap.push { cls := .type "range", data := .fields #[.int lo t, .int hi u, .int 1 v] }, toks := tk } := by
  refine wpAny_pyIter_range (IsRange.new ..) (small_one h1 h2 h3 h4) ?_
  have I1 : Inv X pins σ H { s with heap := s.heap.push { cls := .type "range", data := .fields #[.int lo t, .int hi u, .int 1 v] }, toks := tk } := I.kept fun b o e => Heap.get?_push_of_some _ e
  refine ⟨(s.heap.push { cls := .type "range", data := .fields #[.int lo t, .int hi u, .int 1 v] }).objs.size, [(s.heap.push { cls := .type "range", data := .fields #[.int lo t, .int hi u, .int 1 v] }).objs.size], _, _, H, rfl,
    I1.kept (t' := tk) fun b o e => Heap.get?_push_of_some _ e, turn_range _ lo (hi - lo).toNat, ?_, fun b hb => ?_, q⟩
  · have e1 : lo + ((0 : Nat) : Int) * 1 = lo := by simp
    have e2 : (((hi - lo).toNat : Nat) : Int) - ((0 : Nat) : Int) = Builtin.Range.rangeSize lo hi 1 := by rw [rangeSize_one]; split <;> omega
    show IsRangeIter _ _ (lo + ((0 : Nat) : Int) * 1) ((((hi - lo).toNat : Nat) : Int) - ((0 : Nat) : Int)) 1
    rw [e1, e2]
    exact Heap.get?_push_size _ rfl
  · have e : b = (s.heap.push { cls := .type "range", data := .fields #[.int lo t, .int hi u, .int 1 v] }).objs.size := by simpa using hb
    subst e
    exact I1.fpOk (Nat.le_refl _) (I1.hok.fresh (Nat.le_refl _))
def iRng1 (ta : TA) : TI := fun σ H R => ta σ H fun vs H1 => ∃ j : Int, vs = [.int j] ∧ -(2 ^ 62) ≤ j ∧ j < 2 ^ 62 ∧ R (Itr 0 j.toNat) H1
theorem pi_range1 {a : Expr} {ta : TA} {p pos : Pos} (hg : Gl X "range") (hm : X.mg "range" = none) (ha : PA X [a] ta) (hs : starEach [a] X.env = [(false, eval a X.env)] := by rfl) : PI X tg (.Call (.Name "range" p) [a] [] pos) (iRng1 ta) := by
  intro pins s σ H R I h
  refine Call_ (ld_blt I hg hm boot_range (PyProof.Rows.callWith_type1 (thn (ha pos pins s σ H _ I h) fun us s1 ⟨vs, H1, I1, r1, q1⟩ => ?_) hs rfl))
  obtain ⟨j, e, q1, q2, q⟩ := q1
  subst e
  cases r1 with
  | cons r rr =>
    cases rr
    obtain ⟨t, rfl⟩ := r
    exact call_range_1 (range_it I1 (by omega) (by omega) q1 q2 (by simpa using q))
def tFor (wi : TI) (g : TG) (tb : TS) : TS := fun D σ H => wi σ H fun J H1 => ∃ W : Nat → Nat → St → Hp → Prop, (∃ m, W 0 m σ H1) ∧ ∀ i m σ H, W i m σ H →
  (J.stop i H ∧ D.nx σ H) ∨ (J.go i H ∧ ∃ N : St → Hp → Prop, (∀ σ' H', N σ' H' → ∃ m', m' < m ∧ W (i + 1) m' σ' H') ∧ ∀ x H', J.yld i H x H' → g x σ H' fun σ2 H2 => tb { D with nx := N, ct := N, bk := D.nx } σ2 H2)
def pinsAt (fp : List Addr) (h : Heap) : List (Addr × Obj) := fp.filterMap fun b => (h.get? b).map fun o => (b, o)
theorem mem_pinsAt {fp : List Addr} {h : Heap} {b : Addr} {o : Obj} (hb : b ∈ fp) (e : h.get? b = some o) : (b, o) ∈ pinsAt fp h := List.mem_filterMap.mpr ⟨b, hb, by rw [e]; rfl⟩
theorem of_pinsAt {fp : List Addr} {h : Heap} {p : Addr × Obj} (hp : p ∈ pinsAt fp h) : p.1 ∈ fp ∧ h.get? p.1 = some p.2 := by
  obtain ⟨b, hb, e⟩ := List.mem_filterMap.mp hp
  cases q : h.get? b with
  | none => rw [q] at e; cases e
  | some o =>
    rw [q] at e
    have e' : (b, o) = p := Option.some.inj e
    subst e'
    exact ⟨hb, q⟩
theorem Inv.pinned {pins : List (Addr × Obj)} {σ : St} {H : Hp} {s : Shared} {fp : List Addr} (I : Inv X pins σ H s) (hf : ∀ b ∈ fp, FpOk X pins H b) (ho : ∀ b ∈ fp, ∃ o, s.heap.get? b = some o ∧ ∀ v, o.data ≠ .cell v) : Inv X (pins ++ pinsAt fp s.heap) σ H s :=
  I.pins_of fun p hp => (List.mem_append.mp hp).elim (fun z => I.pin p (List.mem_append_right _ z)) fun z => by
    obtain ⟨hb, e⟩ := of_pinsAt z
    obtain ⟨f0, f1, f2, _⟩ := hf p.1 hb
    obtain ⟨o, e', d⟩ := ho p.1 hb
    rw [e] at e'; cases e'
    exact ⟨e, f0, f1, f2, d⟩
theorem Inv.unpinned {pins pl : List (Addr × Obj)} {σ : St} {H : Hp} {s : Shared} (I : Inv X (pins ++ pl) σ H s) : Inv X pins σ H s := I.pins_of fun p hp => I.pin p (List.mem_append_right _ (List.mem_append_left _ hp))
theorem ps_for {iter : Expr} {body : List Stmt} {wi : TI} {g : TG} {tb : TS} {pos : Pos} (hp : PassesOwn (model X.prog X.w) X.A X.env X.xe) (hc : X.calm = true) (hi : PI X tg iter wi) (hg : PG X tg g) (hb : PSs X body tb)
    (hs : ∀ x, foldedSetIterable iter X.env x = pure x := by intro _; rfl) : PS X (.For tg iter body [] pos) (tFor wi g tb) := by
  intro pins s σ H D I h
  refine wpAny_For (thn (hi pins s σ H _ I h) fun v s1 h1 => thn h1 fun itv s2 h2 => ?_) hs
  obtain ⟨it, fp, tn, J, H2, e, I2, T, st2, f2, W, ⟨m0, w0⟩, turn⟩ := h2
  subst e
  have stat : ∀ {H' : Hp}, (∀ b ∈ fp, H' b = none) → ∀ b ∈ fp, FpOk X pins H' b := fun hn b hb => ⟨hn b hb, (f2 b hb).2⟩
  refine codeAny_forLoop_any (fun n s' => ∃ i σ' H', Inv X pins σ' H' s' ∧ tn i s'.heap ∧ (∀ b ∈ fp, H' b = none) ∧ W i n σ' H') ?_ m0 ⟨0, σ, H2, I2, st2, fun b hb => (f2 b hb).1, w0⟩
  rintro n s3 ⟨i, σ3, H3, I3, st3, fr3, w3⟩
  rcases turn i n σ3 H3 w3 with ⟨stop, qn⟩ | ⟨go, N, hN, step⟩
  · refine wpAny_passesOwn hp (thn (T.done X rfl rfl rfl hc i pins s3 σ3 H3 X.xe I3 (stat fr3) st3 stop) fun r s4 ⟨hr, I4⟩ => ?_)
    subst hr
    exact wpAny_execs_nil ⟨σ3, H3, I4, qn⟩
  · refine wpAny_passesOwn hp (thn (T.item X rfl rfl rfl hc i pins s3 σ3 H3 X.xe I3 (stat fr3) st3 go) fun r s4 ⟨u, hr, h4⟩ => ?_)
    subst hr
    refine wpAny_passesOwn hp (thn h4 fun _ s5 ⟨x, H5, I5, r5, y5, st5, fr5⟩ => ?_)
    have I5' := I5.pinned (stat fr5) (T.obj _ _ st5)
    refine wpAny_passesOwn hp (thn (hg _ s5 σ3 H5 x u _ I5' r5 (step x H5 y5)) fun _ s6 ⟨σ6, H6, I6, q6⟩ => ?_)
    refine wpAny_passesOwn hp (thn (hb _ s6 σ6 H6 _ I6 q6) fun f s7 q7 => ?_)
    have again : ∀ {σ7 : St} {H7 : Hp}, Inv X (pins ++ pinsAt fp s5.heap) σ7 H7 s7 → N σ7 H7 → ∃ m, m < n ∧ ∃ i σ' H', Inv X pins σ' H' s7 ∧ tn i s7.heap ∧ (∀ b ∈ fp, H' b = none) ∧ W i m σ' H' := fun {σ7 H7} I7 n7 => by
      obtain ⟨m', hm, w7⟩ := hN σ7 H7 n7
      refine ⟨m', hm, i + 1, σ7, H7, I7.unpinned, T.keep _ _ _ st5 fun b hb o e => (I7.pin (b, o) (List.mem_append_right _ (List.mem_append_right _ (mem_pinsAt hb e)))).1, fun b hb => ?_, w7⟩
      obtain ⟨o, e, d⟩ := T.obj _ _ st5 b hb
      exact (I7.pin (b, o) (List.mem_append_right _ (List.mem_append_right _ (mem_pinsAt hb e)))).2.1
    cases f with
    | next => obtain ⟨σ7, H7, I7, n7⟩ := q7; exact again I7 n7
    | cont => obtain ⟨σ7, H7, I7, n7⟩ := q7; exact again I7 n7
    | brk => obtain ⟨σ7, H7, I7, q7⟩ := q7; exact ⟨σ7, H7, I7.unpinned, q7⟩
    | ret v => obtain ⟨x7, σ7, H7, I7, r7, q7⟩ := q7; exact ⟨x7, σ7, H7, I7.unpinned, r7, q7⟩
end
end L2
namespace L2
open PySem PySem.Spec PyProof.Rows
abbrev R2 := V → V → Hp → VK → Prop
def OpR (X : Cx) (f : Value → Value → Sem Value) (r : R2) : Prop :=
  ∀ (pins : List (Addr × Obj)) (s : Shared) (σ : St) (H : Hp) (x y : V) (v u : Value) (Q : VK), Inv X pins σ H s → RelV x v → RelV y u → r x y H Q →
    wpAny (model X.prog X.w) X.A (f v u) (EP X pins σ Q) X.xe s
def CallR (X : Cx) (f : Value) (r : List V → Hp → VK → Prop) : Prop :=
  ∀ (pins : List (Addr × Obj)) (s : Shared) (σ : St) (H : Hp) (xs : List V) (us : List Value) (Q : VK), Inv X pins σ H s → Vals xs us → r xs H Q →
    wpAny (model X.prog X.w) X.A (call f us) (EP X pins σ Q) X.xe s
def TruR (X : Cx) (r : V → Hp → (Bool → Hp → Prop) → Prop) : Prop :=
  ∀ (pins : List (Addr × Obj)) (s : Shared) (σ : St) (H : Hp) (x : V) (v : Value) (Q : Bool → Hp → Prop), Inv X pins σ H s → RelV x v → r x H Q →
    wpAny (model X.prog X.w) X.A (truthy v) (TP X pins σ Q) X.xe s
def tOp (r : R2) (ta tb : TE) : TE := fun σ H Q => ta σ H fun x H1 => tb σ H1 fun y H2 => r x y H2 Q
def rI (C : Int → Int → Prop) (g : Int → Int → V) : R2 := fun x y H Q => ∃ i j, x = .int i ∧ y = .int j ∧ C i j ∧ Q (g i j) H
def rI0 (g : Int → Int → V) : R2 := fun x y H Q => ∃ i j, x = .int i ∧ y = .int j ∧ Q (g i j) H
section
variable {X : Cx} {a b c : Expr} {ta tb tc : TE} {pos : Pos}
theorem binT (ha : PE X a ta) (hb : PE X b tb) {pins : List (Addr × Obj)} {s : Shared} {σ : St} {H : Hp} {R : V → V → Hp → Prop} (I : Inv X pins σ H s)
    (h : ta σ H fun x H1 => tb σ H1 fun y H2 => R x y H2) {Q : Value → Shared → Prop} {f : Value → Value → Sem Value}
    (hf : ∀ v u s2 x y H2, Inv X pins σ H2 s2 → RelV x v → RelV y u → R x y H2 → wpAny (model X.prog X.w) X.A (f v u) Q X.xe s2) :
    wpAny (model X.prog X.w) X.A (eval a X.env) (fun v s₁ => wpAny (model X.prog X.w) X.A (eval b X.env) (fun u s₂ => wpAny (model X.prog X.w) X.A (f v u) Q X.xe s₂) X.xe s₁) X.xe s := by
  refine thn (ha pins s σ H _ I h) fun v s1 ⟨x, H1, I1, r1, q1⟩ => ?_
  refine thn (hb pins s1 σ H1 _ I1 q1) fun u s2 ⟨y, H2, I2, r2, q2⟩ => ?_
  exact hf v u s2 x y H2 I2 r1 r2 q2
theorem pe_op {op : Operator} {r : R2} (ho : OpR X (binaryOp op) r) (ha : PE X a ta) (hb : PE X b tb) : PE X (.BinOp a op b pos) (tOp r ta tb) := by
  intro pins s σ H Q I h
  exact wpAny_BinOp (binT ha hb I h fun v u s2 x y H2 I2 rx ry q => ho pins s2 σ H2 x y v u Q I2 rx ry q)
theorem opI {f : Value → Value → Sem Value} {C : Int → Int → Prop} {g : Int → Int → Int}
    (rule : ∀ (i j : Int) (t u : Tok) (s : Shared) (Q : Value → Shared → Prop) (E : Value → Shared → Prop), C i j → Q (.int (g i j) s.toks) { s with toks := s.toks + 1 } → wpAny (model X.prog X.w) X.A (f (.int i t) (.int j u)) Q E s) :
    OpR X f (rI C fun i j => .int (g i j)) := by
  intro pins s σ H x y v u Q I rx ry h
  obtain ⟨i, j, rfl, rfl, hc, q⟩ := h
  obtain ⟨t, rfl⟩ := rx
  obtain ⟨t', rfl⟩ := ry
  exact rule i j t t' s _ _ hc ⟨.int (g i j), H, I.tok _, ⟨_, rfl⟩, q⟩
theorem opI0 {f : Value → Value → Sem Value} {g : Int → Int → Int}
    (rule : ∀ (i j : Int) (t u : Tok) (s : Shared) (Q : Value → Shared → Prop) (E : Value → Shared → Prop), Q (.int (g i j) s.toks) { s with toks := s.toks + 1 } → wpAny (model X.prog X.w) X.A (f (.int i t) (.int j u)) Q E s) :
    OpR X f (rI0 fun i j => .int (g i j)) := by
  intro pins s σ H x y v u Q I rx ry h
  obtain ⟨i, j, rfl, rfl, q⟩ := h
  obtain ⟨t, rfl⟩ := rx
  obtain ⟨t', rfl⟩ := ry
  exact rule i j t t' s _ _ ⟨.int (g i j), H, I.tok _, ⟨_, rfl⟩, q⟩
theorem opB0 {f : Value → Value → Sem Value} {g : Int → Int → Bool}
    (rule : ∀ (i j : Int) (t u : Tok) (s : Shared) (Q : Value → Shared → Prop) (E : Value → Shared → Prop), Q (.bool (g i j)) s → wpAny (model X.prog X.w) X.A (f (.int i t) (.int j u)) Q E s) :
    OpR X f (rI0 fun i j => .bl (g i j)) := by
  intro pins s σ H x y v u Q I rx ry h
  obtain ⟨i, j, rfl, rfl, q⟩ := h
  obtain ⟨t, rfl⟩ := rx
  obtain ⟨t', rfl⟩ := ry
  exact rule i j t t' s _ _ ⟨.bl (g i j), H, I, rfl, q⟩
def CDiv (i j : Int) : Prop := 0 < j ∧ j < 1073741824
def CPow (i j : Int) : Prop := 0 ≤ j ∧ j ≤ 1000000 ∧ i.natAbs < 2 ^ 64
def CMul (i j : Int) : Prop := (-(2 ^ 64) < i ∧ i < 2 ^ 64) ∨ (-(2 ^ 64) < j ∧ j < 2 ^ 64)
theorem CMul.ok {i j : Int} (h : CMul i j) : IntMulOk i j := by
  rcases h with ⟨h1, h2⟩ | ⟨h1, h2⟩
  · exact .of_left (intBits_le_64 h1 h2)
  · exact .of_right (intBits_le_64 h1 h2)
theorem op_add : OpR X (binaryOp .Add) (rI0 fun i j => .int (i + j)) := opI0 fun _ _ _ _ _ _ _ q => add_int q
theorem op_sub : OpR X (binaryOp .Sub) (rI0 fun i j => .int (i - j)) := opI0 fun _ _ _ _ _ _ _ q => sub_int q
theorem op_mul : OpR X (binaryOp .Mult) (rI CMul fun i j => .int (i * j)) := opI fun _ _ _ _ _ _ _ hc q => mul_int q hc.ok
theorem op_fdiv : OpR X (binaryOp .FloorDiv) (rI CDiv fun i j => .int (i / j)) := opI fun i j _ _ _ _ _ hc q => by
  have h1 : (0 : Int) < j := hc.1
  have h2 : j < 1073741824 := hc.2
  exact floordiv_int (by omega) (by rw [Int.fdiv_eq_ediv_of_nonneg i (by omega)]; exact q) (.inl (PyProof.noPylong_small (by omega)))
theorem op_mod : OpR X (binaryOp .Mod) (rI (fun _ j => 0 < j) fun i j => .int (i % j)) := opI fun i j _ _ _ _ _ hc q => by
  have h1 : (0 : Int) < j := hc
  exact mod_int' (by omega) (by rw [Int.fmod_eq_emod_of_nonneg i (by omega)]; exact q)
theorem op_pow : OpR X (binaryOp .Pow) (rI CPow fun i j => .int (i ^ j.toNat)) := opI fun _ _ _ _ _ _ _ hc q => pow_int_small hc.1 hc.2.1 hc.2.2 q
end
def scal : V → V → Bool
  | .non, .non => true | .non, .int _ => true | .int _, .non => true | .non, .bl _ => true | .bl _, .non => true | .non, .str _ => true | .str _, .non => true
  | .int _, .int _ => true | .bl _, .bl _ => true | .str _, .str _ => true | .byt _, .byt _ => true
  | .int _, .str _ => true | .str _, .int _ => true | .bl _, .str _ => true | .str _, .bl _ => true
  | _, _ => false
def rEq : R2 := fun x y H Q => scal x y = true ∧ Q (.bl (decide (x = y))) H
def rNe : R2 := fun x y H Q => scal x y = true ∧ Q (.bl (!decide (x = y))) H
theorem dec_int {i j : Int} : decide (V.int i = V.int j) = (i == j) := by
  rw [Bool.eq_iff_iff]
  simp
theorem dec_bl {i j : Bool} : decide (V.bl i = V.bl j) = (i == j) := by
  rw [Bool.eq_iff_iff]
  simp
theorem dec_str {i j : Str} : decide (V.str i = V.str j) = (i == j) := by
  rw [Bool.eq_iff_iff]
  simp
theorem dec_byt {i j : Array UInt8} : decide (V.byt i = V.byt j) = (i.toList == j.toList) := by
  rw [Bool.eq_iff_iff]
  cases i
  cases j
  simp
section
variable {X : Cx} {a b c : Expr} {ta tb tc : TE} {pos : Pos}
theorem fin_bl {pins : List (Addr × Obj)} {σ : St} {H : Hp} {s : Shared} {Q : VK} {k k' : Bool} (I : Inv X pins σ H s) (q : Q (.bl k) H) (e : k = k') : EP X pins σ Q (.bool k') s := by
  subst e
  exact ⟨.bl k, H, I, rfl, q⟩
theorem op_eq : OpR X (compareOp .Eq) rEq := by
  intro pins s σ H x y v u Q I rx ry h
  obtain ⟨hs, q⟩ := h
  cases x with
  | non =>
    cases rx
    cases y with
    | non => cases ry; exact PySem.EqNone.eq_none_none (fin_bl I q (by simp))
    | bl j => cases ry; exact PySem.EqNone.eq_none_bool (fin_bl I q (by simp))
    | int j => obtain ⟨t', rfl⟩ := ry; exact PySem.EqNone.eq_none_int (fin_bl I q (by simp))
    | str j => obtain ⟨t', rfl⟩ := ry; exact PySem.EqNone.eq_none_str (fin_bl I q (by simp))
    | _ => exact absurd (show false = true from hs) Bool.false_ne_true
  | bl i =>
    cases rx
    cases y with
    | non => cases ry; exact PySem.EqNone.eq_bool_none (fin_bl I q (by simp))
    | bl j => cases ry; exact eq_bool (fin_bl I q dec_bl)
    | str j => obtain ⟨t', rfl⟩ := ry; exact PySem.EqMixed.eq_bool_str (fin_bl I q (by simp))
    | _ => exact absurd (show false = true from hs) Bool.false_ne_true
  | int i =>
    obtain ⟨t, rfl⟩ := rx
    cases y with
    | non => cases ry; exact PySem.EqNone.eq_int_none (fin_bl I q (by simp))
    | int j => obtain ⟨t', rfl⟩ := ry; exact eq_int (fin_bl I q dec_int)
    | str j => obtain ⟨t', rfl⟩ := ry; exact PySem.EqMixed.eq_int_str (fin_bl I q (by simp))
    | _ => exact absurd (show false = true from hs) Bool.false_ne_true
  | str i =>
    obtain ⟨t, rfl⟩ := rx
    cases y with
    | non => cases ry; exact PySem.EqNone.eq_str_none (fin_bl I q (by simp))
    | bl j => cases ry; exact PySem.EqMixed.eq_str_bool (fin_bl I q (by simp))
    | int j => obtain ⟨t', rfl⟩ := ry; exact PySem.EqMixed.eq_str_int (fin_bl I q (by simp))
    | str j => obtain ⟨t', rfl⟩ := ry; exact eq_str (fin_bl I q dec_str)
    | _ => exact absurd (show false = true from hs) Bool.false_ne_true
  | byt i =>
    obtain ⟨t, rfl⟩ := rx
    cases y with
    | byt j => obtain ⟨t', rfl⟩ := ry; exact PySem.W.eq_bytes (fin_bl I q dec_byt)
    | _ => exact absurd (show false = true from hs) Bool.false_ne_true
  | _ => cases y <;> exact absurd (show false = true from hs) Bool.false_ne_true
theorem op_ne : OpR X (compareOp .NotEq) rNe := by
  intro pins s σ H x y v u Q I rx ry h
  obtain ⟨hs, q⟩ := h
  cases x with
  | non =>
    cases rx
    cases y with
    | non => cases ry; exact PySem.EqNone.ne_none_none (fin_bl I q (by simp))
    | bl j => cases ry; exact PySem.EqNone.ne_none_bool (fin_bl I q (by simp))
    | int j => obtain ⟨t', rfl⟩ := ry; exact PySem.EqNone.ne_none_int (fin_bl I q (by simp))
    | str j => obtain ⟨t', rfl⟩ := ry; exact PySem.EqNone.ne_none_str (fin_bl I q (by simp))
    | _ => exact absurd (show false = true from hs) Bool.false_ne_true
  | bl i =>
    cases rx
    cases y with
    | non => cases ry; exact PySem.EqNone.ne_bool_none (fin_bl I q (by simp))
    | bl j => cases ry; exact ne_bool (fin_bl I q (congrArg not dec_bl))
    | str j => obtain ⟨t', rfl⟩ := ry; exact PySem.EqMixed.ne_bool_str (fin_bl I q (by simp))
    | _ => exact absurd (show false = true from hs) Bool.false_ne_true
  | int i =>
    obtain ⟨t, rfl⟩ := rx
    cases y with
    | non => cases ry; exact PySem.EqNone.ne_int_none (fin_bl I q (by simp))
    | int j => obtain ⟨t', rfl⟩ := ry; exact ne_int (fin_bl I q (congrArg not dec_int))
    | str j => obtain ⟨t', rfl⟩ := ry; exact PySem.EqMixed.ne_int_str (fin_bl I q (by simp))
    | _ => exact absurd (show false = true from hs) Bool.false_ne_true
  | str i =>
    obtain ⟨t, rfl⟩ := rx
    cases y with
    | non => cases ry; exact PySem.EqNone.ne_str_none (fin_bl I q (by simp))
    | bl j => cases ry; exact PySem.EqMixed.ne_str_bool (fin_bl I q (by simp))
    | int j => obtain ⟨t', rfl⟩ := ry; exact PySem.EqMixed.ne_str_int (fin_bl I q (by simp))
    | str j => obtain ⟨t', rfl⟩ := ry; exact ne_str (fin_bl I q (congrArg not dec_str))
    | _ => exact absurd (show false = true from hs) Bool.false_ne_true
  | byt i =>
    obtain ⟨t, rfl⟩ := rx
    cases y with
    | byt j => obtain ⟨t', rfl⟩ := ry; exact PySem.W.ne_bytes (fin_bl I q (congrArg not dec_byt))
    | _ => exact absurd (show false = true from hs) Bool.false_ne_true
  | _ => cases y <;> exact absurd (show false = true from hs) Bool.false_ne_true
theorem op_lt : OpR X (compareOp .Lt) (rI0 fun i j => .bl (decide (i < j))) := opB0 fun _ _ _ _ _ _ _ q => lt_int q
theorem op_le : OpR X (compareOp .LtE) (rI0 fun i j => .bl (decide (i ≤ j))) := opB0 fun _ _ _ _ _ _ _ q => le_int q
theorem op_gt : OpR X (compareOp .Gt) (rI0 fun i j => .bl (decide (j < i))) := opB0 fun _ _ _ _ _ _ _ q => gt_int q
theorem nomark (b : Expr) {op : CmpOp} (h : op ≠ .In := by decide) (h2 : op ≠ .NotIn := by decide) : behindInMarks op b = false := by
  have e1 : (op == CmpOp.In) = false := by cases op <;> first | rfl | exact absurd rfl h
  have e2 : (op == CmpOp.NotIn) = false := by cases op <;> first | rfl | exact absurd rfl h2
  cases b <;> simp [behindInMarks, e1, e2]
theorem pe_cmpR {op : CmpOp} {r : R2} (ho : OpR X (compareOp op) r) (ha : PE X a ta) (hb : PE X b tb) (hm : behindInMarks op b = false) : PE X (.Compare a [op] [b] pos) (tOp r ta tb) := by
  intro pins s σ H Q I h
  exact wpAny_Compare1 (binT ha hb I h fun v u s2 x y H2 I2 rx ry q => ho pins s2 σ H2 x y v u Q I2 rx ry q) hm
def tTest (t : TE) : TT := fun σ H Q => t σ H fun x H' => ∃ k, x = .bl k ∧ Q k H'
theorem pt_cmpR {op : CmpOp} {r : R2} (ho : OpR X (compareOp op) r) (ha : PE X a ta) (hb : PE X b tb) (hm : behindInMarks op b = false) : PT X (.Compare a [op] [b] pos) (tTest (tOp r ta tb)) := by
  intro pins s σ H Q I h
  refine wpAny_isTrue_Compare1 (thn (ha pins s σ H _ I h) fun v s1 ⟨x, H1, I1, r1, q1⟩ => thn (hb pins s1 σ H1 _ I1 q1) fun u s2 ⟨y, H2, I2, r2, q2⟩ =>
    thn (ho pins s2 σ H2 x y v u _ I2 r1 r2 q2) fun c s3 ⟨z, H3, I3, r3, k, e, q3⟩ => ?_) hm
  subst e
  cases r3
  exact wpAny_truthy_bool ⟨H3, I3, q3⟩
def tChain (r r' : R2) (ta tb tc : TE) : TE := fun σ H Q => ta σ H fun x H1 => tb σ H1 fun y H2 => r x y H2 fun z H3 => ∃ k, z = .bl k ∧
  (if k = true then tc σ H3 fun w' H4 => r' y w' H4 Q else Q (.bl false) H3)
theorem pe_chain {op op' : CmpOp} {r r' : R2} (ho : OpR X (compareOp op) r) (ho' : OpR X (compareOp op') r') (ha : PE X a ta) (hb : PE X b tb) (hc : PE X c tc)
    (hm : lastMarks [op, op'] [b, c] = false := by with_unfolding_all rfl) : PE X (.Compare a [op, op'] [b, c] pos) (tChain r r' ta tb tc) := by
  intro pins s σ H Q I h
  refine Compare_chain (thn (ha pins s σ H _ I h) fun v s1 ⟨x, H1, I1, r1, q1⟩ => chain_link (thn (hb pins s1 σ H1 _ I1 q1) fun u s2 ⟨y, H2, I2, r2, q2⟩ =>
    thn (ho pins s2 σ H2 x y v u _ I2 r1 r2 q2) fun d s3 ⟨z, H3, I3, r3, k, e, q3⟩ => ?_)) hm
  subst e
  cases r3
  refine wpAny_truthy_bool ?_
  cases k with
  | false => exact ite_ff ⟨.bl false, H3, I3, rfl, q3⟩
  | true => exact ite_tt (chain_last (thn (hc pins s3 σ H3 _ I3 q3) fun w' s4 ⟨z', H4, I4, r4, q4⟩ => ho' pins s4 σ H4 y z' u w' Q I4 r2 r4 q4))
def TruV (K : PySem.W.Frag) (x : V) (H : Hp) (k : Bool) : Prop :=
  match x with
  | .non => k = false
  | .bl b => k = b
  | .int i => k = (i != 0)
  | .str y => y.length ≤ sizeLine ∧ k = ((y.length : Int) != 0)
  | .byt y => y.size ≤ sizeLine ∧ k = ((y.size : Int) != 0)
  | .ref p => (∃ xs, SqL K H p xs ∧ k = !xs.isEmpty) ∨ (∃ xs, SqT K H p xs ∧ k = !xs.isEmpty) ∨ ∃ kvs, H p = some (.dK kvs) ∧ k = !kvs.isEmpty
  | _ => False
theorem isEmpty_kv {κ : Type} {kvs : List (κ × V)} {vs : List (κ × Value)} (r : KV kvs vs) : (!vs.isEmpty) = !kvs.isEmpty := by
  cases r <;> rfl
theorem isEmpty_of {xs : List V} {its : List Value} (r : Vals xs its) : (!its.toArray.isEmpty) = !xs.isEmpty := by
  cases r <;> simp
theorem line63 : (sizeLine : Nat) < 2 ^ 63 := by rw [sizeLine_eq]; decide
theorem tru_ok : TruR X (fun x H Q => ∃ k, TruV X.K x H k ∧ Q k H) := by
  intro pins s σ H x v Q I rx h
  obtain ⟨k, e, q⟩ := h
  have hl := line63
  have hs : sizeLine = 16777216 := sizeLine_eq
  cases x with
  | non =>
    cases rx
    have e' : k = false := e
    subst e'
    exact truthy_none ⟨H, I, q⟩
  | bl b =>
    cases rx
    have e' : k = b := e
    subst e'
    exact wpAny_truthy_bool ⟨H, I, q⟩
  | int i =>
    obtain ⟨t, rfl⟩ := rx
    have e' : k = (i != 0) := e
    subst e'
    exact PySem.P.truthy_int ⟨H, I, q⟩
  | str y =>
    obtain ⟨t, rfl⟩ := rx
    obtain ⟨hy, e'⟩ : y.length ≤ sizeLine ∧ k = ((y.length : Int) != 0) := e
    subst e'
    exact PySem.P.truthy_str (by omega) ⟨H, I.tok _, q⟩
  | byt y =>
    obtain ⟨t, rfl⟩ := rx
    obtain ⟨hy, e'⟩ : y.size ≤ sizeLine ∧ k = ((y.size : Int) != 0) := e
    subst e'
    exact PySem.W.truthy_bytes (by omega) ⟨H, I.tok _, q⟩
  | ref p =>
    cases rx
    have e' : (∃ xs, SqL X.K H p xs ∧ k = !xs.isEmpty) ∨ (∃ xs, SqT X.K H p xs ∧ k = !xs.isEmpty) ∨ ∃ kvs, H p = some (.dK kvs) ∧ k = !kvs.isEmpty := e
    rcases e' with ⟨xs, hx, e'⟩ | ⟨xs, hx, e'⟩ | ⟨kvs, hx, e'⟩
    · subst e'
      obtain ⟨its, r, pl, hz⟩ := I.list hx
      have hlen := r.length
      exact wpAny_truthy_list pl.isList (by simp only [List.size_toArray]; omega) ⟨H, I.tok _, by rw [isEmpty_of r]; exact q⟩
    · subst e'
      obtain ⟨its, r, pl, hz⟩ := I.tuple hx
      have hlen := r.length
      exact truthy_tuple pl (by simp only [List.size_toArray]; omega) ⟨H, I.tok _, by rw [isEmpty_of r]; exact q⟩
    · subst e'
      obtain ⟨hz, hS, vs, r, m⟩ : kvs.length ≤ sizeLine ∧ (p == sysModules) = false ∧ ∃ vs, KV kvs vs ∧ s.heap.DictOf (mixKind X.prog X.w) p vs := I.hok p _ hx
      have hlen : kvs.length = vs.length := Paired.length r
      exact wpAny_truthy_dict hS m (by omega) ⟨H, I.tok _, by rw [isEmpty_kv r]; exact q⟩
  | _ => exact (show False from e).elim
theorem pt_truth (ha : PE X a ta) (he : ∀ whole, isTrue a X.env whole = (do let v ← whole; standAt a.pos; holding [v] (truthy v))) :
    PT X a (fun σ H Q => ta σ H fun x H' => ∃ k, TruV X.K x H' k ∧ Q k H') := by
  intro pins s σ H Q I h
  exact isTrue_plain (thn (ha pins s σ H _ I h) fun v s1 ⟨x, H1, I1, r1, q1⟩ => tru_ok pins s1 σ H1 x v Q I1 r1 q1) (he _)
theorem op_add_str : OpR X (binaryOp .Add) (fun x y H Q => ∃ i j, x = .str i ∧ y = .str j ∧ i.length + j.length ≤ sizeLine ∧ Q (.str (i ++ j)) H) := by
  intro pins s σ H x y v u Q I rx ry h
  obtain ⟨i, j, rfl, rfl, hz, q⟩ := h
  obtain ⟨t, rfl⟩ := rx
  obtain ⟨t', rfl⟩ := ry
  exact add_str (fun t' tk => ⟨.str (i ++ j), H, I.tok _, ⟨_, rfl⟩, q⟩) hz
theorem vals1 {x : V} {us : List Value} (r : Vals [x] us) : ∃ u, us = [u] ∧ RelV x u := by
  cases r with
  | cons r1 r2 => cases r2; exact ⟨_, rfl, r1⟩
theorem vals2 {x y : V} {us : List Value} (r : Vals [x, y] us) : ∃ u w', us = [u, w'] ∧ RelV x u ∧ RelV y w' := by
  cases r with
  | cons r1 r2 =>
    cases r2 with
    | cons r3 r4 => cases r4; exact ⟨_, _, rfl, r1, r3⟩
theorem call_int1 : CallR X (.type "int") (fun xs H Q => (∃ i, xs = [.int i] ∧ Q (.int i) H) ∨ ∃ k, xs = [.bl k] ∧ Q (.int (if k then 1 else 0)) H) := by
  intro pins s σ H xs us Q I r h
  rcases h with ⟨i, rfl, q⟩ | ⟨k, rfl, q⟩
  · obtain ⟨u, rfl, t, rfl⟩ := vals1 r
    exact call_int_int ⟨.int i, H, I, ⟨_, rfl⟩, q⟩
  · obtain ⟨u, rfl, r1⟩ := vals1 r
    cases r1
    exact call_int_bool ⟨.int (if k then 1 else 0), H, I.tok _, ⟨_, rfl⟩, q⟩
def LenV (K : PySem.W.Frag) (x : V) (H : Hp) (n : Nat) : Prop :=
  match x with
  | .str y => y.length ≤ sizeLine ∧ n = y.length
  | .byt y => y.size ≤ sizeLine ∧ n = y.size
  | .ref p => (∃ xs, SqL K H p xs ∧ n = xs.length) ∨ ∃ xs, SqT K H p xs ∧ n = xs.length
  | _ => False
theorem call_len : CallR X (.builtin "len") (fun xs H Q => ∃ x n, xs = [x] ∧ LenV X.K x H n ∧ Q (.int n) H) := by
  intro pins s σ H xs us Q I r h
  obtain ⟨x, n, rfl, e, q⟩ := h
  obtain ⟨u, rfl, rx⟩ := vals1 r
  have hl := line63
  have hs : sizeLine = 16777216 := sizeLine_eq
  cases x with
  | str y =>
    obtain ⟨t, rfl⟩ := rx
    obtain ⟨hy, e'⟩ : y.length ≤ sizeLine ∧ n = y.length := e
    subst e'
    exact len_str (by omega) ⟨.int _, H, I.tok _, ⟨_, rfl⟩, q⟩
  | byt y =>
    obtain ⟨t, rfl⟩ := rx
    obtain ⟨hy, e'⟩ : y.size ≤ sizeLine ∧ n = y.size := e
    subst e'
    exact PySem.W.len_bytes (by omega) ⟨.int _, H, I.tok _, ⟨_, rfl⟩, q⟩
  | ref p =>
    cases rx
    have e' : (∃ xs, SqL X.K H p xs ∧ n = xs.length) ∨ ∃ xs, SqT X.K H p xs ∧ n = xs.length := e
    rcases e' with ⟨xs, hx, e'⟩ | ⟨xs, hx, e'⟩
    · subst e'
      obtain ⟨its, r', pl, hz⟩ := I.list hx
      have hlen := r'.length
      exact Calls.call_len_list pl.isList (by simp only [List.size_toArray]; omega) ⟨.int xs.length, H, I.tok _, ⟨_, by simp only [List.size_toArray]; rw [hlen]⟩, q⟩
    · subst e'
      obtain ⟨its, r', pl, hz⟩ := I.tuple hx
      have hlen := r'.length
      exact len_tuple pl (by simp only [List.size_toArray]; omega) ⟨.int xs.length, H, I.tok _, ⟨_, by simp only [List.size_toArray]; rw [hlen]⟩, q⟩
  | _ => exact (show False from e).elim
end
end L2
namespace L2
open PySem PySem.Spec PyProof.Rows
structure ObjM (h : Heap) (x dx C : Addr) (mA : Str → Option Value) : Prop where
  obj : h.get? x = some (PySem.W.instObj C dx)
  ns : h.Ns1 dx mA
  ne : dx ≠ x
section
variable {prog : Program} {w : World} {A : Around} {E : Value → Shared → Prop} {s : Shared} {K : PySem.W.Frag} {x dx C f : Addr} {mA : Str → Option Value} {name : Str} {v : Value}
end
section
variable {P : Program} {w : World} {H H' : Hp} {h h' : Heap} {a C dx : Addr} {fs fs' : List (Str × V)}
end
structure Cls (K : PySem.W.Frag) (C : Addr) : Prop where
  pg : PySem.W.plainGet K C Str.empty = true
  hd : PySem.W.hasDictIn K C = true
  po : PySem.W.plainOver K C = true
  sa : PySem.W.findIn K (.ref C) "__setattr__" = some (some (.builtin "object.__setattr__"))
structure Con (K : PySem.W.Frag) (C : Addr) (f : Str) (v : V) (u : Value) : Prop where
  at_ : PySem.W.findIn K (.ref C) f = some (some u)
  rel : RelV v u
  get : PySem.W.specialIn K u "__get__" = some none
  cp : PySem.W.copiedNames.contains f = false
structure Meth (K : PySem.W.Frag) (C : Addr) (m : Str) (f : Addr) : Prop where
  at_ : PySem.W.findIn K (.ref C) m = some (some (.ref f))
  fn : PySem.W.isFn K (.ref f) = true
  kp : PySem.W.keepIn K (.ref f) = true
section
variable {X : Cx} {pins : List (Addr × Obj)} {σ : St} {H : Hp} {s : Shared} {a C dx : Addr} {fs : List (Str × V)} {f : Str} {v : V} {A : Around} {E : Value → Shared → Prop}
end
section
variable {X : Cx} {o e value : Expr} {f : Str} {pos pos' tpos : Pos} {ta tv : TE}
end
section
variable {X : Cx} {pins : List (Addr × Obj)} {σ : St} {H : Hp} {s : Shared} {A : Around} {E : Value → Shared → Prop} {Q : Value → Shared → Prop} {c : Value} {b : Bool}
inductive TyOf (K : PySem.W.Frag) (H : Hp) : V → Value → Prop where
  | non : TyOf K H .non (.type "NoneType")
  | bl (x : Bool) : TyOf K H (.bl x) (.type "bool")
  | int (i : Int) : TyOf K H (.int i) (.type "int")
  | str (x : Str) : TyOf K H (.str x) (.type "str")
  | flt (x : UInt64) : TyOf K H (.flt x) (.type "float")
  | lst {a : Addr} {xs : List V} (e : H a = some (.lst xs)) : TyOf K H (.ref a) (.type "list")
  | frz {a : Addr} {o : Obj} {xs : List V} (e : H a = some (.frz o (.lst xs))) : TyOf K H (.ref a) (.type "list")
  | tup {a : Addr} {xs : List V} (e : H a = some (.tup xs)) : TyOf K H (.ref a) (.type "tuple")
  | dK {a : Addr} {kvs : List (Key × V)} (e : H a = some (.dK kvs)) : TyOf K H (.ref a) (.type "dict")
  | dT {a : Addr} {kvs : List (List Key × V)} (e : H a = some (.dT kvs)) : TyOf K H (.ref a) (.type "dict")
  | ins {a C dx : Addr} {fs : List (Str × V)} (e : H a = some (.ins C dx fs)) (cl : Cls K C) (ha : PySem.W.findIn K (.ref C) "__class__" = some (some (.builtin "object.__class__")))
      (hn : PySem.W.specialIn K (.builtin "object.__class__") "__get__" = some (some (.builtin "getset_descriptor.__get__"))) (htk : PySem.W.takesIn K (.builtin "object.__class__") = some true)
      (hm : PySem.W.mroIn K C (.type "object") = some true) : TyOf K H (.ref a) (.ref C)
end
end L2
namespace L2
open PySem PySem.Spec PyProof.Rows
structure Room (k : Nat) (A : Around) : Prop where
  hd : A.handled = none
  dp : A.depth + 3 * k + 5 < recursionLimit
  un : A.units + 16 * k + 200 < cLine
theorem Room.mono {j k : Nat} {A : Around} (r : Room k A) (h : j ≤ k) : Room j A := ⟨r.hd, by have := r.dp; omega, by have := r.un; omega⟩
theorem Room.deeper {k : Nat} {A : Around} (r : Room (k + 1) A) (env : Env) : Room k (A.deeper env) :=
  ⟨r.hd, by have := r.dp; show A.depth + 1 + 3 * k + 5 < _; omega, by have := r.un; show A.units + 3 + 16 * k + 200 < _; omega⟩
theorem Room.depth {k : Nat} {A : Around} (r : Room k A) : A.depth < recursionLimit := by have := r.dp; omega
def tNil : TA := fun _ H Q => Q [] H
def tCons (ta : TE) (tr : TA) : TA := fun σ H Q => ta σ H fun x H1 => tr σ H1 fun xs H2 => Q (x :: xs) H2
section
variable {X : Cx} {e : Expr} {es : List Expr} {te : TE} {t : TA} {pos : Pos}
theorem pa_nil : PA X [] tNil := fun _ _ _ _ H Q I h => Calls.spliced_nil ⟨[], H, I, .nil, h⟩
theorem pa_cons (ha : PE X e te) (hr : PA X es t) (hs : starEach (e :: es) X.env = (false, eval e X.env) :: starEach es X.env := by rfl) : PA X (e :: es) (tCons te t) := by
  intro pos pins s σ H Q I h
  rw [hs]
  show wpAny _ _ (spliced ((false, eval e X.env) :: backTo pos (starEach es X.env))) _ _ s
  refine Calls.spliced_cons (thn (ha pins s σ H _ I h) fun u s1 ⟨x, H1, I1, r1, q1⟩ => ?_)
  exact thn (hr pos pins s1 σ H1 _ I1 q1) fun us s2 ⟨xs, H2, I2, r2, q2⟩ => ⟨x :: xs, H2, I2, .cons r1 r2, q2⟩
def tTup (t : TA) : TE := fun σ H Q => t σ H fun xs H1 => xs.length ≤ sizeLine ∧ ∀ p, H1 p = none → Q (.ref p) (upd H1 p (.tup xs))
def tLst (t : TA) : TE := fun σ H Q => t σ H fun xs H1 => xs.length ≤ sizeLine ∧ ∀ p, H1 p = none → Q (.ref p) (upd H1 p (.lst xs))
theorem pe_tup {x1} (h : PA X es t) : PE X (.Tuple es x1 pos) (tTup t) := by
  intro pins s σ H Q I hq
  refine wpAny_Tuple_spliced (thn (h pos pins s σ H _ I hq) fun us s1 ⟨xs, H1, I1, r, z, q⟩ => ⟨by rw [← r.length]; exact z, ?_⟩)
  have hf : H1 s1.heap.objs.size = none := I1.hok.fresh (Nat.le_refl _)
  refine ⟨.ref s1.heap.objs.size, upd H1 s1.heap.objs.size (.tup xs), I1.laid (t' := s1.toks) (fun b u e => Heap.get?_push_of_some _ e) (Nat.le_refl _) ?_, rfl, q _ hf⟩
  exact ⟨z, us, r, ⟨_, Heap.get?_push_size _ rfl, rfl, _, rfl⟩⟩
theorem pe_lst (h : PA X es t) : PE X (.List es pos) (tLst t) := by
  intro pins s σ H Q I hq
  refine wpAny_List_spliced (thn (h pos pins s σ H _ I hq) fun us s1 ⟨xs, H1, I1, r, z, q⟩ => ⟨by rw [← r.length]; exact z, ?_⟩)
  have hf : H1 s1.heap.objs.size = none := I1.hok.fresh (Nat.le_refl _)
  refine ⟨.ref s1.heap.objs.size, upd H1 s1.heap.objs.size (.lst xs), I1.laid (t' := s1.toks) (fun b u e => Heap.get?_push_of_some _ e) (Nat.le_refl _) ?_, rfl, q _ hf⟩
  exact ⟨z, us, 0, r, Heap.get?_push_size _ rfl⟩
end
abbrev Sp := List V → Hp → VK → XK → Prop
abbrev CXT := List Env → Hp → Shared → XK → Value → Shared → Prop
structure Env0 (P : Program) (w : World) (K : PySem.W.Frag) (mg : Str → Option Value) (base : Heap) (A : Around) (outer : List Env) (s : Shared) (H : Hp) : Prop where
  frames : A.frames = some outer
  mod : Mod K mg base
  bs : ∀ b o, base.get? b = some o → s.heap.get? b = some o ∧ H b = none
  bsz : base.objs.size ≤ s.heap.objs.size
  funs : s.heap.FunFrames base outer
  frf : ∀ b ∈ frs outer, H b = none
  hok : HOk P w H s.heap
  bare : AllBare s.gens
def CE (outer : List Env) (P : Program) (w : World) (H : Hp) (s : Shared) (Q : VK) (u : Value) (s' : Shared) : Prop :=
  ∃ v H', s'.os = s.os ∧ AllBare s'.gens ∧ Un (frs outer) [] H H' s.heap s'.heap ∧ HOk P w H' s'.heap ∧ RelV v u ∧ Q v H'
def CR (CX : CXT) (outer : List Env) (P : Program) (w : World) (H : Hp) (s : Shared) (Q : VK) (E : XK) (r : Result) (s' : Shared) : Prop :=
  match r with
  | .ok (.ret u) => CE outer P w H s Q u s'
  | .ok _ => False
  | .error e => CX outer H s E e s'
structure FnOk (P : Program) (w : World) (K : PySem.W.Frag) (mg : Str → Option Value) (base : Heap) (CX : CXT) (k : Nat) (f : Addr) (fd : FuncData) (ps : List Str) (sp : Sp) : Prop where
  len : ∀ vs H Q E, sp vs H Q E → vs.length = ps.length
  run : ∀ (A : Around) (outer : List Env) (s : Shared) (H : Hp) (args : Args) (us : List Value) (vs : List V) (Q : VK) (E : XK), Room k A → Env0 P w K mg base A outer s H → BindsTo s fd args (ps.zip us) → Vals vs us → sp vs H Q E →
    codeAny (model P w) A (.call (.ref f) args) (CR CX outer P w H s Q E) s
section
variable {X : Cx} {pins : List (Addr × Obj)} {σ : St} {H : Hp} {s s' : Shared}
theorem Inv.env0 (I : Inv X pins σ H s) : Env0 X.prog X.w X.K X.mg X.base X.A X.stack s H :=
  ⟨I.ok.frames, I.ok.mod, I.bs, Nat.le_trans I.ok.bsz I.sz, I.stack, I.stkFree, I.hok, I.bare⟩
theorem Inv.after {Q : VK} {u : Value} (I : Inv X pins σ H s) (h : CE X.stack X.prog X.w H s Q u s') : EP X pins σ Q u s' := by
  obtain ⟨v, H', os, bare, un, hok, r, q⟩ := h
  obtain ⟨hh, g, d, t, os'⟩ := s'
  obtain rfl : os' = s.os := os
  exact ⟨v, H', I.call (h' := hh) (g' := g) (d' := d) (t' := t) (ch := []) un hok bare (fun b z => absurd z (by simp)), r, q⟩
end
def tCall (sp : Sp) (dvs : List V) (E : XK) (t : TA) : TE := fun σ H Q => t σ H fun vs H1 => sp (vs ++ dvs) H1 Q E
def Binds (K : PySem.W.Frag) (fd : FuncData) (ps : List Str) (ds : List Value) : Prop :=
  ∀ (s : Shared) (us : List Value), K.In s.heap → (us ++ ds).length = ps.length → BindsTo s fd ⟨us, []⟩ (ps.zip (us ++ ds))
theorem Binds.all {K : PySem.W.Frag} {fd : FuncData} {ps : List Str} (h : ∀ us : List Value, us.length = ps.length → bindArgs fd ⟨us, []⟩ = pure (ps.zip us)) : Binds K fd ps [] := fun s us _ hl => by
  rw [List.append_nil] at hl ⊢
  exact .of_eq (h us hl)
def Passes (CX : CXT) (X : Cx) (E : XK) : Prop := ∀ (pins : List (Addr × Obj)) (σ : St) (H : Hp) (s : Shared) (e : Value) (s' : Shared), Inv X pins σ H s → CX X.stack H s E e s' → X.xe e s'
section
variable {X : Cx} {CX : CXT} {k : Nat} {f C : Addr} {fd : FuncData} {ps : List Str} {sp : Sp} {dvs : List V} {ds : List Value} {E : XK} {x m : Str} {p pos apos : Pos} {e o : Expr} {es : List Expr} {ta : TE} {t : TA}
theorem run_fn {pins : List (Addr × Obj)} {σ : St} {H : Hp} {s : Shared} {Q : VK} {us : List Value} {vs : List V} (F : FnOk X.prog X.w X.K X.mg X.base CX k f fd ps sp) (hr : Room k X.A) (hb : Binds X.K fd ps ds) (hd : Vals dvs ds) (hx : Passes CX X E)
    (I : Inv X pins σ H s) (r : Vals vs us) (h : sp (vs ++ dvs) H Q E) : wpAny (model X.prog X.w) X.A (call (.ref f) us) (EP X pins σ Q) X.xe s := by
  have r2 : Vals (vs ++ dvs) (us ++ ds) := r.append hd
  have hl : (us ++ ds).length = ps.length := by rw [← r2.length]; exact F.len _ _ _ _ h
  refine wpAny_call (codeAny_mono (F.run X.A X.stack s H ⟨us, []⟩ (us ++ ds) (vs ++ dvs) Q E hr I.env0 (hb s us I.kIn hl) r2 h) fun r s' hq => ?_)
  cases r with
  | error e => exact hx pins σ H s e s' I hq
  | ok fl =>
    cases fl with
    | ret u => exact I.after hq
    | next => exact False.elim hq
    | brk => exact False.elim hq
    | cont => exact False.elim hq
theorem pe_call (F : FnOk X.prog X.w X.K X.mg X.base CX k f fd ps sp) (hr : Room k X.A) (hg : Gl X x) (hm : X.mg x = some (.ref f)) (hk : PySem.W.keepIn X.K (.ref f) = true) (hb : Binds X.K fd ps ds) (hd : Vals dvs ds) (hx : Passes CX X E)
    (ha : PA X (e :: es) t) (hdb : (x == ("__debug__" : Str)) = false := by decide) (he : starEach (e :: es) X.env = (false, eval e X.env) :: starEach es X.env := by rfl) (hpl : (backTo pos (starEach es X.env)).any (·.1) = false := by rfl) :
    PE X (.Call (.Name x p) (e :: es) [] pos) (tCall sp dvs E t) := by
  intro pins s σ H Q I h
  refine wpAny_Call_Name_kw (ld_glob I hg hm ?_ hdb)
  refine PySem.W.callWith_K (h₀ := X.base) I.ok.mod.kin hk (thn (ha pos pins s σ H _ I h) fun us s1 ⟨vs, H1, I1, r, q⟩ => ⟨I1.kIn, ?_⟩) he hpl
  exact run_fn F hr hb hd hx I1 r q
theorem pe_call0 (F : FnOk X.prog X.w X.K X.mg X.base CX k f fd ps sp) (hr : Room k X.A) (hg : Gl X x) (hm : X.mg x = some (.ref f)) (hk : PySem.W.keepIn X.K (.ref f) = true) (hb : Binds X.K fd ps ds) (hd : Vals dvs ds) (hx : Passes CX X E)
    (hdb : (x == ("__debug__" : Str)) = false := by decide) : PE X (.Call (.Name x p) [] [] pos) (tCall sp dvs E tNil) := by
  intro pins s σ H Q I h
  refine wpAny_Call_Name_kw (ld_glob I hg hm ?_ hdb)
  exact PySem.W.callWith_K0 I.kIn hk (run_fn (us := []) F hr hb hd hx I .nil h)
structure Mk (K : PySem.W.Frag) (C f : Addr) : Prop where
  makes : PySem.W.makesIn K C = true
  init : PySem.W.findIn K (.ref C) "__init__" = some (some (.ref f))
  fn : PySem.W.isFn K (.ref f) = true
  kp : PySem.W.keepIn K (.ref C) = true
end
section
variable {X : Cx} {CX : CXT} {k : Nat} {f C : Addr} {fd : FuncData} {ps ks : List Str} {sp : Sp} {E : XK} {x m : Str} {p pos apos kpos : Pos} {e o : Expr} {es : List Expr} {kws : List Keyword} {te ta : TE} {t tk : TA} {nm : Option Str}
structure KBinds (K : PySem.W.Frag) (fd : FuncData) (ps ks : List Str) (g : List Value → List Value → List Value) (gV : List V → List V → List V) : Prop where
  to : ∀ (s : Shared) (us ws : List Value), K.In s.heap → (g us ws).length = ps.length → BindsTo s fd ⟨us, ks.zip ws⟩ (ps.zip (g us ws))
  rel : ∀ {vs : List V} {us : List Value} {zs : List V} {ws : List Value}, Vals vs us → Vals zs ws → Vals (gV vs zs) (g us ws)
variable {g : List Value → List Value → List Value} {gV : List V → List V → List V}
end
structure FnScope (N P : List Str) (sc : Scope) : Prop where
  kind : sc.kind = .function
  co : sc.isCoroutine = false
  gen : sc.isGenerator = false
  nd : N.Nodup
  pre : N.take P.length = P
  par : ∀ x ∈ P, sc.names.lookup x = some .local ∨ sc.names.lookup x = some .cell
  nofree : ∀ y ∈ sc.names, y.2 ≠ .free
theorem bindL_out {kindOf : Str → Option NameKind} {x : Str} : ∀ {binds : List (Str × Value)} {m : Str → Option Value}, (∀ v, (x, v) ∉ binds) → bindL kindOf binds m x = m x
  | [], _, _ => rfl
  | (n, v) :: r, m, h => by
    unfold bindL
    rw [bindL_out fun w hw => h w (List.mem_cons_of_mem _ hw)]
    split
    · have : x ≠ n := by rintro rfl; exact h v List.mem_cons_self
      simp [this]
    · rfl
theorem bindC_out {kindOf : Str → Option NameKind} {x : Str} : ∀ {binds : List (Str × Value)} {m : Str → Option Value}, (∀ v, (x, v) ∉ binds) → bindC kindOf binds m x = m x
  | [], _, _ => rfl
  | (n, v) :: r, m, h => by
    unfold bindC
    rw [bindC_out fun w hw => h w (List.mem_cons_of_mem _ hw)]
    split
    · rfl
    · have : x ≠ n := by rintro rfl; exact h v List.mem_cons_self
      simp [this]
theorem bindL_get {kindOf : Str → Option NameKind} {x : Str} {v : Value} : ∀ {P : List Str} {vs : List Value} {i : Nat} {m : Str → Option Value}, P.Nodup → P[i]? = some x → vs[i]? = some v → kindOf x = some .local →
    bindL kindOf (P.zip vs) m x = some v
  | [], _, _, _, _, h, _, _ => by simp at h
  | _ :: _, [], _, _, _, _, h, _ => by simp at h
  | p :: P, w :: vs, 0, m, nd, h1, h2, hk => by
    simp at h1 h2; subst h1; subst h2
    show bindL kindOf ((p, w) :: P.zip vs) m p = _
    unfold bindL
    rw [bindL_out fun v hv => (List.nodup_cons.mp nd).1 (List.of_mem_zip hv).1, if_pos hk]
    simp
  | p :: P, w :: vs, i + 1, m, nd, h1, h2, hk => by
    show bindL kindOf ((p, w) :: P.zip vs) m x = _
    unfold bindL
    exact bindL_get (i := i) (List.nodup_cons.mp nd).2 (by simpa using h1) (by simpa using h2) hk
theorem bindC_get {kindOf : Str → Option NameKind} {x : Str} {v : Value} : ∀ {P : List Str} {vs : List Value} {i : Nat} {m : Str → Option Value}, P.Nodup → P[i]? = some x → vs[i]? = some v → kindOf x ≠ some .local →
    bindC kindOf (P.zip vs) m x = some v
  | [], _, _, _, _, h, _, _ => by simp at h
  | _ :: _, [], _, _, _, _, h, _ => by simp at h
  | p :: P, w :: vs, 0, m, nd, h1, h2, hk => by
    simp at h1 h2; subst h1; subst h2
    show bindC kindOf ((p, w) :: P.zip vs) m p = _
    unfold bindC
    rw [bindC_out fun v hv => (List.nodup_cons.mp nd).1 (List.of_mem_zip hv).1, if_neg hk]
    simp
  | p :: P, w :: vs, i + 1, m, nd, h1, h2, hk => by
    show bindC kindOf ((p, w) :: P.zip vs) m x = _
    unfold bindC
    exact bindC_get (i := i) (List.nodup_cons.mp nd).2 (by simpa using h1) (by simpa using h2) hk
def start (N : List Str) (vs : List V) : St := vs.map some ++ List.replicate (N.length - vs.length) none
def cxOf (CX : CXT) (P : Program) (w : World) (K : PySem.W.Frag) (mg : Str → Option Value) (base : Heap) (N : List Str) (qual : Str) (scope : Scope) (f : Addr) (cd : Value) (A : Around) (outer : List Env) (s : Shared) (H : Hp) (E : XK) : Cx where
  prog := P
  w := w
  K := K
  mg := mg
  base := base
  A := A.deeper (envOfC qual scope s.heap.objs.size f cd)
  N := N
  s₀ := s
  H₀ := H
  env := envOfC qual scope s.heap.objs.size f cd
  outer := outer
  stack := envOfC qual scope s.heap.objs.size f cd :: outer
  ex := []
  calm := true
  fn := fun _ => true
  pn := []
  xe := fun e s' => wpAny (model P w) (A.deeper (envOfC qual scope s.heap.objs.size f cd)) (leaving (envOfC qual scope s.heap.objs.size f cd) e) (fun _ s'' => CX outer H s E e s'') (fun e' s'' => CX outer H s E e' s'') s'
theorem cell_has {sc : Scope} {n : Nat} {x : Str} (h : sc.names.lookup x = some .cell) : ∃ c, (cellsFrom n sc.names []).lookup x = some c := by
  have q := PySem.W.cellsFrom_some sc.names n [] (.inl h)
  exact Option.isSome_iff_exists.mp q
theorem inv_start {CX : CXT} {P : Program} {w : World} {K : PySem.W.Frag} {mg : Str → Option Value} {base : Heap} {N ps : List Str} {qual : Str} {scope : Scope} {f : Addr} {cd : Value} {A : Around} {outer : List Env} {s s1 : Shared} {H : Hp} {E : XK} {us : List Value} {vs : List V}
    (S : FnScope N ps scope) (hd : A.handled = none) (e0 : Env0 P w K mg base A outer s H) (hl : vs.length = ps.length) (r : Vals vs us)
    (x : InCallC s s.heap.objs.size (bindL (envOfC qual scope s.heap.objs.size f cd).kindOf (ps.zip us) fun _ => none) (cellsFrom (s.heap.objs.size + 1) scope.names []) (bindC (envOfC qual scope s.heap.objs.size f cd).kindOf (ps.zip us) fun _ => none) s1) :
    Inv (cxOf CX P w K mg base N qual scope f cd A outer s H E) [] (start N vs) H s1 := by
  have hpl : ps.length ≤ N.length := by have := congrArg List.length S.pre; rw [List.length_take] at this; omega
  obtain ⟨h1, tk, rfl, hk⟩ := x.done
  have noA : ∀ b : Addr, b ∉ (cxOf CX P w K mg base N qual scope f cd A outer s H E).ex := fun b z => absurd (show b ∈ ([] : List Addr) from z) (by simp)
  refine ⟨⟨e0.mod, S.kind, rfl, rfl, Nat.le_refl _, fun y z c h1 h2 => ?_, fun y hy => ?_, fun y c _ h => ?_, fun _ => hd, Around.frames_deeper e0.frames, .inr ⟨rfl, rfl⟩, fun b z => absurd z (noA b), e0.bs, e0.bsz, fun b _ _ => noA b, fun b z => absurd z (noA b), e0.funs, e0.frf⟩,
    rfl, e0.bare, Un.kept hk, ⟨_, x.toInCall.ns, fun i y v h1 h2 h3 => ?_⟩, fun y c h => ⟨_, x.cell y c h⟩, e0.hok.fresh (Nat.le_refl _), fun y c h => ?_, fun p hp => absurd (show p ∈ ([] : List (Addr × Obj)) from hp) (by simp), e0.hok.kept hk, ?_⟩
  · exact name_of_addr x.apart (PySem.mem_of_lookup h1) (PySem.mem_of_lookup h2)
  · have hy : scope.names.lookup y = some .cell ∨ scope.names.lookup y = some .free := hy
    rcases hy with hy | hy
    · exact cell_has hy
    · exact absurd rfl (S.nofree _ (PySem.mem_of_lookup hy))
  · exact Nat.le_of_lt (x.above y c (PySem.mem_of_lookup h))
  · have hi : i < vs.length := by
      unfold start at h2
      by_cases hi : i < vs.length
      · exact hi
      · rw [List.getElem?_append_right (by simpa using hi)] at h2
        rw [List.getElem?_replicate] at h2
        split at h2 <;> cases h2
    have ha : vs[i]? = some v := by
      unfold start at h2
      rw [List.getElem?_append_left (by simpa using hi), List.getElem?_map] at h2
      cases e : vs[i]? with
      | none => rw [e] at h2; cases h2
      | some a => rw [e] at h2; cases h2; rfl
    obtain ⟨u, hu, rv⟩ := r.get ha
    have hp : ps[i]? = some y := by
      rw [← S.pre, List.getElem?_take_of_lt (by omega)]; exact h1
    have ndP : ps.Nodup := by rw [← S.pre]; exact S.nd.sublist (List.take_sublist _ _)
    refine ⟨u, rv, ?_⟩
    rcases S.par y (List.mem_of_getElem? hp) with k | k
    · exact .inl ⟨k, bindL_get ndP hp hu k⟩
    · obtain ⟨c, e⟩ := cell_has (n := s.heap.objs.size + 1) k
      refine .inr ⟨.inl k, c, e, ?_⟩
      have q := x.cell y c e
      rw [bindC_get ndP hp hu (by show scope.names.lookup y ≠ _; rw [k]; decide)] at q
      exact q
  · exact e0.hok.fresh (Nat.le_of_lt (x.above y c (PySem.mem_of_lookup h)))
  · unfold start
    show _ = N.length
    rw [List.length_append, List.length_map, List.length_replicate]
    omega
theorem fn_of {CX : CXT} {P : Program} {w : World} {K : PySem.W.Frag} {mg : Str → Option Value} {base : Heap} {k : Nat} {f : Addr} {name qual : Str} {params : Arguments} {body : List Stmt} {scope : Scope} {dV kV doc pm cdv ct oc : Value} {an od : Option Addr}
    {osl : Array (Option Value)} {N ps : List Str} {sp : Sp} (lk : K.lookup f = some ⟨oc, od, .func (PySem.W.fnOf name qual params body scope dV kV doc pm an cdv ct), osl⟩) (hcd : PySem.W.codeIn K cdv qual = true) (S : FnScope N ps scope)
    (len : ∀ vs H Q E, sp vs H Q E → vs.length = ps.length)
    (hbody : ∀ (A : Around) (outer : List Env) (s : Shared) (H : Hp) (vs : List V) (Q : VK) (E : XK), Room k (A.deeper (envOfC qual scope s.heap.objs.size f cdv)) → sp vs H Q E →
      ∃ t, PSs (cxOf CX P w K mg base N qual scope f cdv A outer s H E) body t ∧ t { nx := fun _ H' => Q .non H', rt := Q } (start N vs) H) :
    FnOk P w K mg base CX (k + 1) f (PySem.W.fnOf name qual params body scope dV kV doc pm an cdv ct) ps sp := by
  refine ⟨len, fun A outer s H args us vs Q E hr e0 hb r hsp => ?_⟩
  have hl := len _ _ _ _ hsp
  have KX : K.In s.heap := e0.mod.kin.keeps fun b o e => (e0.bs b o e).1
  have lim : s.heap.NoLimit := e0.mod.nolimit.keeps fun b o e => (e0.bs b o e).1
  have hkind : ∀ y ∈ ps.zip us, scope.names.lookup y.1 = some .local ∨ (scope.names.lookup y.1 = some .cell ∧ ((cellsFrom (s.heap.objs.size + 1) scope.names []).lookup y.1).isSome = true) := fun ⟨n, v⟩ hy => by
    rcases S.par n (List.of_mem_zip hy).1 with q | q
    · exact .inl q
    · exact .inr ⟨q, PySem.W.cellsFrom_some _ _ _ (.inl q)⟩
  refine codeAny_call_function hr.depth (KX _ _ lk) rfl S.co S.gen rfl (PySem.W.codeRec_of KX hcd) (hb _ _ _ _ ?_)
  refine wpAny_newFunctionEnv_cells S.kind hkind fun env he s1 x => ?_
  subst he
  refine ⟨lim.keeps x.toInCall.keep, codeAny_func ?_⟩
  obtain ⟨t, ht, hq⟩ := hbody A outer s H vs Q E (hr.deeper _) hsp
  have I : Inv (cxOf CX P w K mg base N qual scope f cdv A outer s H E) [] (start N vs) H s1 := inv_start S hr.hd e0 hl r x
  refine wpAny_mono (ht [] s1 (start N vs) H _ I hq) (fun fl s' hs => ?_) fun e s' hs => hs
  have fin : ∀ {σ' : St} {H' : Hp} {v : V} {u : Value}, Inv (cxOf CX P w K mg base N qual scope f cdv A outer s H E) [] σ' H' s' → RelV v u → Q v H' → CE outer P w H s Q u s' :=
    fun {σ' H' v u} J rv q => ⟨v, H', J.os, J.bare, J.base, J.hok, rv, q⟩
  cases fl with
  | ret u =>
    obtain ⟨v, σ', H', J, rv, q⟩ := hs
    exact fin J rv q
  | next =>
    obtain ⟨σ', H', J, q⟩ := hs
    exact fin (v := V.non) (u := Value.none) J rfl q
  | brk =>
    obtain ⟨_, _, _, q⟩ := hs
    exact False.elim q
  | cont =>
    obtain ⟨_, _, _, q⟩ := hs
    exact False.elim q
end L2
namespace L2
open PySem PySem.Spec PyProof.Rows
section
variable {X : Cx} {x : Str} {p pos : Pos} {e : Expr} {es : List Expr} {t : TA} {id T : String} {r : List V → Hp → VK → Prop}
def tCB (r : List V → Hp → VK → Prop) (t : TA) : TE := fun σ H Q => t σ H fun vs H1 => r vs H1 Q
theorem pe_callB (hc : CallR X (.builtin id) r) (hg : Gl X x) (hm : X.mg x = none) (hv : bootBuiltins x = some (.builtin id)) (ha : PA X (e :: es) t) (hn : x ≠ "__name__" := by decide) (hdb : (x == ("__debug__" : Str)) = false := by decide)
    (he : starEach (e :: es) X.env = (false, eval e X.env) :: starEach es X.env := by rfl) (hpl : (backTo pos (starEach es X.env)).any (·.1) = false := by rfl) : PE X (.Call (.Name x p) (e :: es) [] pos) (tCB r t) := by
  intro pins s σ H Q I h
  refine wpAny_Call_Name_kw (ld_blt I hg hm hv ?_ hn hdb)
  exact PyProof.Rows.callWith_builtin1 (thn (ha pos pins s σ H _ I h) fun us s1 ⟨vs, H1, I1, r1, q1⟩ => hc pins s1 σ H1 vs us Q I1 r1 q1) he hpl
theorem pe_callTy (hc : CallR X (.type T) r) (hg : Gl X x) (hm : X.mg x = none) (hv : bootBuiltins x = some (.type T)) (ha : PA X (e :: es) t) (hn : x ≠ "__name__" := by decide) (hdb : (x == ("__debug__" : Str)) = false := by decide)
    (he : starEach (e :: es) X.env = (false, eval e X.env) :: starEach es X.env := by rfl) (hpl : (backTo pos (starEach es X.env)).any (·.1) = false := by rfl) : PE X (.Call (.Name x p) (e :: es) [] pos) (tCB r t) := by
  intro pins s σ H Q I h
  refine wpAny_Call_Name_kw (ld_blt I hg hm hv ?_ hn hdb)
  exact PyProof.Rows.callWith_type1 (thn (ha pos pins s σ H _ I h) fun us s1 ⟨vs, H1, I1, r1, q1⟩ => hc pins s1 σ H1 vs us Q I1 r1 q1) he hpl
end
end L2
namespace HT
open PySem PyProof.Rows
section
open PySem.SeqAt
open PySem.AutoSeq1 (wpAny_loadPart')
open PySem.MeetsSeq PySem.MeetsSeq2 PySem.MeetsSeq3
end
section
variable {prog : Program} {w : World} {A : Around} {E : Value → Shared → Prop} {s : Shared}
def sIx (n d : Nat) : Option Int → Nat
  | none => d
  | some v => if v < 0 then (v + (n : Int)).toNat else min v.toNat n
theorem sIx_nat (n d k : Nat) : sIx n d (some (k : Int)) = min k n := by
  show (if (k : Int) < 0 then ((k : Int) + (n : Int)).toNat else min (k : Int).toNat n) = min k n
  rw [if_neg (by omega), Int.toNat_natCast]
theorem sIx_le (n d : Nat) (hd : d ≤ n) (o : Option Int) : sIx n d o ≤ n := by
  cases o with
  | none => exact hd
  | some v =>
    show (if v < 0 then (v + (n : Int)).toNat else min v.toNat n) ≤ n
    by_cases hv : v < 0
    · rw [if_pos hv]; omega
    · rw [if_neg hv]; exact Nat.min_le_right _ _
end
end HT
namespace L2
open PySem PySem.Spec PyProof.Rows
abbrev TO := St → Hp → (Option Int → Hp → Prop) → Prop
def PO (X : Cx) (e : Option Expr) (t : TO) : Prop :=
  ∀ (pins : List (Addr × Obj)) (s : Shared) (σ : St) (H : Hp) (Q : Option Int → Hp → Prop), Inv X pins σ H s → t σ H Q →
    wpAny (model X.prog X.w) X.A (evalPart e X.env) (fun u s' => ∃ o H', Inv X pins σ H' s' ∧ IsPart u o ∧ Q o H') X.xe s
def tNoPart : TO := fun _ H Q => Q none H
def tPart (t : TE) : TO := fun σ H Q => t σ H fun x H1 => ∃ i, x = .int i ∧ Q (some i) H1
section
variable {X : Cx} {e : Expr} {te : TE} {lo hi : Option Expr} {tl th : TO} {pos p2 : Pos}
theorem po_none : PO X none tNoPart := by
  intro pins s σ H Q I h
  rw [evalPart_none]
  exact wpAny_pure ⟨none, H, I, .none, h⟩
theorem po_some (h : PE X e te) : PO X (some e) (tPart te) := by
  intro pins s σ H Q I hw
  rw [evalPart_some]
  refine thn (h pins s σ H _ I hw) fun u s1 ⟨x, H1, I1, r1, q1⟩ => ?_
  obtain ⟨i, rfl, q⟩ := q1
  obtain ⟨t, rfl⟩ := r1
  exact ⟨some i, H1, I1, .int i t, q⟩
def SlR (X : Cx) (r : V → Option Int → Option Int → Hp → VK → Prop) : Prop :=
  ∀ (pins : List (Addr × Obj)) (s : Shared) (σ : St) (H : Hp) (x : V) (v vl vu : Value) (lo hi : Option Int) (sl : Addr) (Q : VK), Inv X pins σ H s → RelV x v → s.heap.IsSliceOf sl vl vu .none → IsPart vl lo → IsPart vu hi → r x lo hi H Q →
    ∃ T id, typeLookup (.type T) "__getitem__" = pure (some (.builtin id)) ∧ s.TypeIs v T ∧ wpAny (model X.prog X.w) X.A (getItem v (.ref sl)) (EP X pins σ Q) X.xe s
def tSl (r : V → Option Int → Option Int → Hp → VK → Prop) (te : TE) (tl th : TO) : TE := fun σ H Q => te σ H fun x H1 => tl σ H1 fun l H2 => th σ H2 fun u H3 => r x l u H3 Q
theorem pe_slice {r : V → Option Int → Option Int → Hp → VK → Prop} (hr : SlR X r) (he : PE X e te) (hl : PO X lo tl) (hu : PO X hi th) : PE X (.Subscript e (.Slice lo hi none p2) pos) (tSl r te tl th) := by
  intro pins s σ H Q I h
  refine Subscript_ (thn (he pins s σ H _ I h) fun v s1 ⟨x, H1, I1, r1, q1⟩ => ?_)
  refine wpAny_Slice (thn (hl pins s1 σ H1 _ I1 q1) fun vl s2 ⟨l, H2, I2, pl, q2⟩ => thn (hu pins s2 σ H2 _ I2 q2) fun vu s3 ⟨u, H3, I3, pu, q3⟩ => ?_)
  rw [evalPart_none]
  refine wpAny_pure ?_
  have I4 : Inv X pins σ H3 { s3 with heap := s3.heap.push { cls := .type "slice", data := .fields #[vl, vu, .none] } } := I3.kept (t' := s3.toks) fun b ob q => Heap.get?_push_of_some _ q
  obtain ⟨T, id, hT, ht, hg⟩ := hr pins { s3 with heap := s3.heap.push { cls := .type "slice", data := .fields #[vl, vu, .none] } } σ H3 x v vl vu l u s3.heap.objs.size Q I4 r1 (Heap.IsSliceOf.new ..) pl pu q3
  show wpAny (model X.prog X.w) X.A (subscriptTail e (.Slice lo hi none p2) v (.ref s3.heap.objs.size)) (EP X pins σ Q) X.xe { s3 with heap := s3.heap.push { cls := .type "slice", data := .fields #[vl, vu, .none] } }
  exact tail_any (ops := [.ref s3.heap.objs.size, v]) ht hT hg (by with_unfolding_all rfl)
def cutV (xs : List V) (lo hi : Option Int) : List V := (xs.drop (HT.sIx xs.length 0 lo)).take (HT.sIx xs.length xs.length hi - HT.sIx xs.length 0 lo)
theorem cutV_length (xs : List V) (lo hi : Option Int) : (cutV xs lo hi).length ≤ xs.length := by
  unfold cutV
  rw [List.length_take, List.length_drop]
  omega
end
end L2
namespace L2
open PySem PySem.Spec PyProof.Rows
def ixN (n : Nat) (i : Int) : Option Nat := if 0 ≤ i then (if i < n then some i.toNat else none) else if -(n : Int) ≤ i then some (i + n).toNat else none
def atI {α : Type} (xs : List α) (i : Int) : Option α := (ixN xs.length i).bind fun j => xs[j]?
theorem ixN_seq {n : Nat} {i : Int} {j : Nat} (h : ixN n i = some j) : seqIndex? i n = some j ∧ j < n ∧ -(n : Int) ≤ i ∧ i < n := by
  unfold ixN at h
  by_cases h0 : 0 ≤ i
  · rw [if_pos h0] at h
    by_cases h1 : i < n
    · rw [if_pos h1] at h
      have e : i.toNat = j := Option.some.inj h
      exact ⟨by rw [seqIndex_of h0 h1, e], by omega, by omega, h1⟩
    · rw [if_neg h1] at h; cases h
  · rw [if_neg h0] at h
    by_cases h1 : -(n : Int) ≤ i
    · rw [if_pos h1] at h
      have e : (i + n).toNat = j := Option.some.inj h
      exact ⟨by rw [seqIndex_neg (by omega) h1, e], by omega, h1, by omega⟩
    · rw [if_neg h1] at h; cases h
theorem atI_get {α : Type} {xs : List α} {i : Int} {v : α} (h : atI xs i = some v) : ∃ j, seqIndex? i xs.length = some j ∧ xs[j]? = some v ∧ j < xs.length ∧ -(xs.length : Int) ≤ i ∧ i < xs.length := by
  unfold atI at h
  cases e : ixN xs.length i with
  | none => rw [e] at h; cases h
  | some j =>
    rw [e] at h
    obtain ⟨h1, h2, h3, h4⟩ := ixN_seq e
    exact ⟨j, h1, h, h2, h3, h4⟩
theorem atI_nat {α : Type} {xs : List α} {j : Nat} {v : α} (h : xs[j]? = some v) : atI xs (j : Int) = some v := by
  have hj : j < xs.length := (List.getElem?_eq_some_iff.mp h).1
  have e : ixN xs.length (j : Int) = some j := by
    unfold ixN
    rw [if_pos (by omega), if_pos (by omega)]; simp
  unfold atI; rw [e]; exact h
def PlainIx (b : Expr) : Prop := ∀ o i, subscripted b false o i = operate [o, i] (getItem o i)
def IxR (X : Cx) (r : R2) : Prop :=
  ∀ (value slice : Expr) (pins : List (Addr × Obj)) (s : Shared) (σ : St) (H : Hp) (x y : V) (v u : Value) (Q : VK), Inv X pins σ H s → RelV x v → RelV y u → r x y H Q →
    subscripted slice false v u = operate [v, u] (getItem v u) → wpAny (model X.prog X.w) X.A (subscriptTail value slice v u) (EP X pins σ Q) X.xe s
def MtR (X : Cx) (id : String) (r : V → List V → Hp → VK → Prop) : Prop :=
  ∀ (pins : List (Addr × Obj)) (s : Shared) (σ : St) (H : Hp) (x : V) (xs : List V) (v : Value) (us : List Value) (Q : VK), Inv X pins σ H s → RelV x v → Vals xs us → r x xs H Q →
    wpAny (model X.prog X.w) X.A (call (.builtin id) (v :: us)) (EP X pins σ Q) X.xe s
section
variable {X : Cx} {a b : Expr} {ta tb : TE} {pos : Pos}
theorem pe_ix {r : R2} (hr : IxR X r) (ha : PE X a ta) (hb : PE X b tb) (hs : PlainIx b) : PE X (.Subscript a b pos) (tOp r ta tb) := by
  intro pins s σ H Q I h
  exact Subscript_ (binT ha hb I h fun v u s2 x y H2 I2 rx ry q => hr a b pins s2 σ H2 x y v u Q I2 rx ry q (hs _ _))
def rIxL (K : PySem.W.Frag) : R2 := fun x y H Q => ∃ p xs i v, x = .ref p ∧ y = .int i ∧ SqL K H p xs ∧ atI xs i = some v ∧ Q v H
def rIxT (K : PySem.W.Frag) : R2 := fun x y H Q => ∃ p xs i v, x = .ref p ∧ y = .int i ∧ SqT K H p xs ∧ atI xs i = some v ∧ Q v H
def rIxS : R2 := fun x y H Q => ∃ z i c, x = .str z ∧ y = .int i ∧ z.length ≤ sizeLine ∧ atI z.cps.toList i = some c ∧ Q (.str ⟨#[c]⟩) H
theorem ix_list : IxR X (rIxL X.K) := by
  intro value slice pins s σ H x y v u Q I rx ry h hs
  obtain ⟨p, xs, i, z, rfl, rfl, hq, he, q⟩ := h
  cases rx
  obtain ⟨t, rfl⟩ := ry
  obtain ⟨its, r, pl, hz⟩ := I.list hq
  obtain ⟨j, h1, h2, h3, h4, h5⟩ := atI_get he
  obtain ⟨w, ew, rw'⟩ := r.get h2
  have hl := r.length
  have hn := line63
  have fin : EP X pins σ Q w s := ⟨z, H, I, rw', q⟩
  by_cases h0 : 0 ≤ i
  · have hj : i.toNat = j := by
      rw [seqIndex_of h0 h5] at h1
      exact Option.some.inj h1
    exact item_listR pl.isList h0 (by omega) (by rw [hj]; simpa using ew) fin hs
  · have hj : (i + (its.toArray.size : Int)).toNat = j := by
      rw [seqIndex_neg (by omega) h4] at h1
      rw [List.size_toArray, ← hl]
      exact Option.some.inj h1
    exact subscriptTail_builtinR (x := w) pl.isList.typeIs slot_list_getitem.lookup
      (wpAny_getItem_list_neg (Q := fun r s' => r = w ∧ EP X pins σ Q r s') pl.isList (by omega) (by rw [List.size_toArray] <;> omega) (by omega) (by rw [hj]; simpa using ew) ⟨rfl, fin⟩) hs
theorem ix_tup : IxR X (rIxT X.K) := by
  intro value slice pins s σ H x y v u Q I rx ry h hs
  obtain ⟨p, xs, i, z, rfl, rfl, hq, he, q⟩ := h
  cases rx
  obtain ⟨t, rfl⟩ := ry
  obtain ⟨its, r, pl, hz⟩ := I.tuple hq
  obtain ⟨j, h1, h2, h3, h4, h5⟩ := atI_get he
  obtain ⟨w, ew, rw'⟩ := r.get h2
  have hl := r.length
  have hn := line63
  have fin : EP X pins σ Q w s := ⟨z, H, I, rw', q⟩
  exact subscriptTail_builtinR (x := w) pl.typeIs slot_tuple_getitem.lookup
    (getItem_tuple (j := j) (Q := fun r s' => r = w ∧ EP X pins σ Q r s') pl (by omega) (by omega) (by rw [List.size_toArray, ← hl]; exact h1) (by simpa using ew) ⟨rfl, fin⟩) hs
theorem ix_str : IxR X rIxS := by
  intro value slice pins s σ H x y v u Q I rx ry h hs
  obtain ⟨z, i, c, rfl, rfl, hz, he, q⟩ := h
  obtain ⟨t, rfl⟩ := rx
  obtain ⟨t', rfl⟩ := ry
  obtain ⟨j, h1, h2, h3, h4, h5⟩ := atI_get he
  have hl : z.cps.toList.length = z.length := by simp [Str.length]
  rw [hl] at h1 h4 h5
  have hn := line63
  exact tail_any (typeIs_str s z t) slot_str_getitem.lookup (getItem_str (c := c) (by
    have e1 : decide (i < -(2 ^ 63 : Int)) = false := decide_eq_false (by omega)
    have e2 : decide (i ≥ 2 ^ 63) = false := decide_eq_false (by omega)
    rw [e1, e2, Bool.or_false]) (by rw [h1]; simpa using h2) ⟨.str ⟨#[c]⟩, H, I.tok _, ⟨_, rfl⟩, q⟩) hs
theorem mapSeq_set (its : List Value) (n j : Nat) (u : Value) : Obj.mapSeq (·.setIfInBounds j u) { cls := .type "list", data := .seq its.toArray n } = { cls := .type "list", data := .seq (its.set j u).toArray n } := by
  simp [Obj.mapSeq]
theorem Inv.lst {pins : List (Addr × Obj)} {σ : St} {H : Hp} {s : Shared} {p : Addr} {xs : List V} (I : Inv X pins σ H s) (h : H p = some (.lst xs)) :
    ∃ (its : List Value) (n : Nat), Vals xs its ∧ s.heap.get? p = some { cls := .type "list", data := .seq its.toArray n } ∧ xs.length ≤ sizeLine := by
  obtain ⟨z, its, n, r, e⟩ := I.hok p _ h
  exact ⟨its, n, r, e, z⟩
theorem Inv.lstUpd {pins : List (Addr × Obj)} {σ : St} {H : Hp} {s : Shared} {p : Addr} {xs ys : List V} {its its' : List Value} {n n' : Nat} {f : Obj → Obj} (I : Inv X pins σ H s) (h : H p = some (.lst xs))
    (ho : s.heap.get? p = some { cls := .type "list", data := .seq its.toArray n }) (hf : f { cls := .type "list", data := .seq its.toArray n } = { cls := .type "list", data := .seq its'.toArray n' }) (r : Vals ys its') (hz : ys.length ≤ sizeLine) (t : Nat) :
    Inv X pins σ (upd H p (.lst ys)) { s with heap := s.heap.update p f, toks := t } := by
  have e : (s.heap.update p f).get? p = some { cls := .type "list", data := .seq its'.toArray n' } := by
    rw [Heap.get?_update_self f ho (by rw [hf] <;> rfl), hf]
  refine I.write (x := p) (e := p) (by rw [h]; trivial) (.inl rfl) (fun b u hb q => (Heap.get?_update_other _ _ (Ne.symm hb)).trans q) ⟨_, e⟩ ?_
  exact ⟨hz, its', n', r, e⟩
def rSetL : V → V → V → Hp → (Hp → Prop) → Prop := fun o i v H Q => ∃ p xs k j, o = .ref p ∧ i = .int k ∧ H p = some (.lst xs) ∧ ixN xs.length k = some j ∧ Q (upd H p (.lst (xs.set j v)))
theorem set_list : PSet X rSetL := by
  intro pins s σ H o i v ov iv u Q I ro ri rv h
  obtain ⟨p, xs, k, j, rfl, rfl, hp, hj, q⟩ := h
  cases ro
  obtain ⟨t, rfl⟩ := ri
  obtain ⟨its, n, r, ho, hz⟩ := I.lst hp
  obtain ⟨h1, h2, h3, h4⟩ := ixN_seq hj
  have hl := r.length
  have hn := line63
  have I' : Inv X pins σ (upd H p (.lst (xs.set j v))) { s with heap := s.heap.update p (Obj.mapSeq (·.setIfInBounds j u)) } :=
    I.lstUpd hp ho (mapSeq_set its n j u) (r.set rv j) (by rw [List.length_set]; exact hz) s.toks
  by_cases h0 : 0 ≤ k
  · have hk : k.toNat = j := by
      rw [seqIndex_of h0 h4] at h1
      exact Option.some.inj h1
    exact PySem.W.ki_setAt ho h0 (by omega) (by rw [List.size_toArray, ← hl]; exact h4) (by rw [hk]; exact ⟨_, I', q⟩)
  · have hk : (k + (its.toArray.size : Int)).toNat = j := by
      rw [seqIndex_neg (by omega) h3] at h1
      rw [List.size_toArray, ← hl]
      exact Option.some.inj h1
    exact PySem.W.ki_setBack ho (by omega) (by rw [List.size_toArray, ← hl]; exact h3) (by omega) (by rw [hk]; exact ⟨_, I', q⟩)
theorem slice_bounds (lo hi : Option Int) (n : Nat) : (sliceBounds lo hi none n).1 = ((HT.sIx n 0 lo : Nat) : Int) ∧ (sliceBounds lo hi none n).2.1 = ((HT.sIx n n hi : Nat) : Int) ∧ (sliceBounds lo hi none n).2.2 = 1 := by
  refine ⟨?_, ?_, rfl⟩
  · cases lo with
    | none => simp [sliceBounds, HT.sIx]
    | some i =>
      simp only [sliceBounds, HT.sIx, Option.getD_none, show (1 : Int) > 0 by decide, if_true]
      by_cases h : i < 0
      · simp only [h, if_true] <;> omega
      · simp only [h, if_false] <;> omega
  · cases hi with
    | none => simp [sliceBounds, HT.sIx]
    | some i =>
      simp only [sliceBounds, HT.sIx, Option.getD_none, show (1 : Int) > 0 by decide, if_true]
      by_cases h : i < 0
      · simp only [h, if_true] <;> omega
      · simp only [h, if_false] <;> omega
theorem slicePick_cut (its : List Value) (lo hi : Option Int) : slicePick its.toArray lo hi none = ((its.drop (HT.sIx its.length 0 lo)).take (HT.sIx its.length its.length hi - HT.sIx its.length 0 lo)).toArray := by
  obtain ⟨h1, h2, h3⟩ := slice_bounds lo hi its.toArray.size
  unfold slicePick
  rw [h1, h2, h3]
  simp only [sliceRange_one, pick_run, List.size_toArray] <;> rfl
def rSlL (K : PySem.W.Frag) : V → Option Int → Option Int → Hp → VK → Prop := fun x lo hi H Q => ∃ a xs, x = .ref a ∧ SqL K H a xs ∧ ∀ p, H p = none → Q (.ref p) (upd H p (.lst (cutV xs lo hi)))
theorem sl_list : SlR X (rSlL X.K) := by
  intro pins s σ H x v vl vu lo hi sl Q I rx hs pl pu h
  obtain ⟨a, xs, rfl, hx, q⟩ := h
  cases rx
  obtain ⟨its, r, ht, hz⟩ := I.list hx
  have hlen := r.length
  refine ⟨"list", _, slot_list_getitem.lookup, ht.isList.typeIs, ?_⟩
  refine wpAny_getItem_list_slice ht.isList hs pl pu .none (by simp) ?_ (by rw [List.size_toArray] <;> omega)
  rw [slicePick_cut, ← hlen]
  refine ⟨.ref s.heap.objs.size, _, I.laid (t' := s.toks) (o := .lst (cutV xs lo hi)) (fun b ob q => Heap.get?_push_of_some _ q) (Nat.le_refl _) ?_, rfl, q _ (I.hok.fresh (Nat.le_refl _))⟩
  exact ⟨Nat.le_trans (cutV_length xs lo hi) hz, _, 0, (r.drop (HT.sIx xs.length 0 lo)).take (HT.sIx xs.length xs.length hi - HT.sIx xs.length 0 lo), Heap.get?_push_size _ rfl⟩
def flatV : V → Bool
  | .non => true
  | .bl _ => true
  | .int _ => true
  | .str _ => true
  | _ => false
def eqV : V → V → Bool
  | .non, .non => true
  | .bl a, .bl b => a == b
  | .bl a, .int b => (if a then 1 else 0) == b
  | .int a, .bl b => a == (if b then 1 else 0)
  | .int a, .int b => a == b
  | .str a, .str b => a == b
  | _, _ => false
theorem eqAt_V {A : Around} {s : Shared} {y x : V} {u v : Value} (ry : RelV y u) (rx : RelV x v) (fy : flatV y = true) (fx : flatV x = true) : SeqAt.EqAt A s u v (eqV y x) := by
  cases y with
  | non =>
    cases ry
    cases x with
    | non => cases rx; exact SeqAt.EqAt.same _
    | bl b => cases rx; exact SeqAt.EqAt.none_bool b
    | int b => obtain ⟨t, rfl⟩ := rx; exact SeqAt.EqAt.none_int b t
    | str b => obtain ⟨t, rfl⟩ := rx; exact SeqAt.EqAt.none_str b t
    | _ => exact absurd (show false = true from fx) Bool.false_ne_true
  | bl a =>
    cases ry
    cases x with
    | non => cases rx; exact SeqAt.EqAt.bool_none a
    | bl b => cases rx; exact SeqAt.EqAt.bool_bool a b
    | int b => obtain ⟨t, rfl⟩ := rx; exact SeqAt.EqAt.bool_int a b t
    | str b => obtain ⟨t, rfl⟩ := rx; exact SeqAt.EqAt.bool_str a b t
    | _ => exact absurd (show false = true from fx) Bool.false_ne_true
  | int a =>
    obtain ⟨t', rfl⟩ := ry
    cases x with
    | non => cases rx; exact SeqAt.EqAt.int_none a t'
    | bl b => cases rx; exact SeqAt.EqAt.int_bool a t' b
    | int b => obtain ⟨t, rfl⟩ := rx; exact SeqAt.EqAt.int_int a t' b t
    | str b => obtain ⟨t, rfl⟩ := rx; exact SeqAt.EqAt.int_str a t' b t
    | _ => exact absurd (show false = true from fx) Bool.false_ne_true
  | str a =>
    obtain ⟨t', rfl⟩ := ry
    cases x with
    | non => cases rx; exact SeqAt.EqAt.str_none a t'
    | bl b => cases rx; exact SeqAt.EqAt.str_bool a t' b
    | int b => obtain ⟨t, rfl⟩ := rx; exact SeqAt.EqAt.str_int a t' b t
    | str b => obtain ⟨t, rfl⟩ := rx; exact SeqAt.EqAt.str_str a t' b t
    | _ => exact absurd (show false = true from fx) Bool.false_ne_true
  | _ => exact absurd (show false = true from fy) Bool.false_ne_true
def eqU (x : V) (u : Value) : Bool := match u with
  | .none => eqV .non x
  | .bool b => eqV (.bl b) x
  | .int i _ => eqV (.int i) x
  | .str z _ => eqV (.str z) x
  | _ => false
theorem eqU_of {x y : V} {u : Value} (r : RelV y u) (f : flatV y = true) : eqU x u = eqV y x := by
  cases y with
  | non => cases r; rfl
  | bl b => cases r; rfl
  | int i => obtain ⟨t, rfl⟩ := r; rfl
  | str z => obtain ⟨t, rfl⟩ := r; rfl
  | _ => exact absurd (show false = true from f) Bool.false_ne_true
theorem any_eqU {x : V} : ∀ {xs : List V} {us : List Value}, Vals xs us → xs.all flatV = true → us.any (eqU x) = xs.any fun y => eqV y x
  | _, _, .nil, _ => rfl
  | y :: xs, u :: us, .cons r t, f => by
    rw [List.all_cons, Bool.and_eq_true] at f
    rw [List.any_cons, List.any_cons, eqU_of r f.1, any_eqU t f.2]
theorem mem_eqAt {A : Around} {s : Shared} {x : V} {v : Value} (rx : RelV x v) (fx : flatV x = true) : ∀ {xs : List V} {us : List Value}, Vals xs us → xs.all flatV = true → ∀ u ∈ us, SeqAt.EqAt A s u v (eqU x u)
  | _, _, .nil, _ => fun u hu => by cases hu
  | y :: xs, u :: us, .cons r t, f => fun u' hu => by
    rw [List.all_cons, Bool.and_eq_true] at f
    rcases List.mem_cons.mp hu with rfl | hu
    · rw [eqU_of r f.1]; exact eqAt_V r rx f.1 fx
    · exact mem_eqAt rx fx t f.2 u' hu
def inV (x : V) (xs : List V) : Bool := xs.any fun y => eqV y x
def rIn (K : PySem.W.Frag) (neg : Bool) : R2 := fun x y H Q => ∃ p xs, y = .ref p ∧ (SqL K H p xs ∨ SqT K H p xs) ∧ flatV x = true ∧ xs.all flatV = true ∧ Q (.bl (if neg then !inV x xs else inV x xs)) H
theorem op_in_seq : OpR X (compareOp .In) (rIn X.K false) := by
  intro pins s σ H x y v u Q I rx ry h
  obtain ⟨p, xs, rfl, hq, fx, fs, q⟩ := h
  cases ry
  rcases hq with hq | hq
  · obtain ⟨its, r, pl, hz⟩ := I.list hq
    refine SeqAt.in_listAt (eqU x) pl.isList (fun w hw => mem_eqAt rx fx r fs w (by simpa using hw)) ⟨.bl _, H, I, rfl, ?_⟩
    rw [show its.toArray.any (eqU x) = its.any (eqU x) by simp, any_eqU r fs]
    exact q
  · obtain ⟨its, r, pl, hz⟩ := I.tuple hq
    refine SeqAt.in_tupleAt (eqU x) pl (fun w hw => mem_eqAt rx fx r fs w (by simpa using hw)) ⟨.bl _, H, I, rfl, ?_⟩
    rw [show its.toArray.any (eqU x) = its.any (eqU x) by simp, any_eqU r fs]
    exact q
theorem op_notIn_seq : OpR X (compareOp .NotIn) (rIn X.K true) := by
  intro pins s σ H x y v u Q I rx ry h
  obtain ⟨p, xs, rfl, hq, fx, fs, q⟩ := h
  cases ry
  rcases hq with hq | hq
  · obtain ⟨its, r, pl, hz⟩ := I.list hq
    refine SeqAt.notIn_listAt (eqU x) pl.isList (fun w hw => mem_eqAt rx fx r fs w (by simpa using hw)) ⟨.bl _, H, I, rfl, ?_⟩
    rw [show its.toArray.any (eqU x) = its.any (eqU x) by simp, any_eqU r fs]
    exact q
  · obtain ⟨its, r, pl, hz⟩ := I.tuple hq
    refine SeqAt.notIn_tupleAt (eqU x) pl (fun w hw => mem_eqAt rx fx r fs w (by simpa using hw)) ⟨.bl _, H, I, rfl, ?_⟩
    rw [show its.toArray.any (eqU x) = its.any (eqU x) by simp, any_eqU r fs]
    exact q
theorem op_notIn_str : OpR X (compareOp .NotIn) (fun x y H Q => ∃ i j, x = .str i ∧ y = .str j ∧ Q (.bl (!(!(Builtin.Str.occurrences j i 0 j.length 1).isEmpty))) H) := by
  intro pins s σ H x y v u Q I rx ry h
  obtain ⟨i, j, rfl, rfl, q⟩ := h
  obtain ⟨t, rfl⟩ := rx
  obtain ⟨t', rfl⟩ := ry
  exact notIn_str ⟨.bl _, H, I, rfl, q⟩
theorem call_tuple_of : CallR X (.type "tuple") (fun xs H Q => ∃ p ys, xs = [.ref p] ∧ ((SqL X.K H p ys ∧ ∀ l, H l = none → Q (.ref l) (upd H l (.tup ys))) ∨ (SqT X.K H p ys ∧ Q (.ref p) H))) := by
  intro pins s σ H xs us Q I r h
  obtain ⟨p, ys, rfl, h⟩ := h
  obtain ⟨u, rfl, rx⟩ := vals1 r
  cases rx
  rcases h with ⟨hq, q⟩ | ⟨hq, q⟩
  · obtain ⟨its, r', pl, hz⟩ := I.list hq
    have hlen := r'.length
    refine call_tuple_list pl.isList (fun h' kp => ?_) (by simp only [List.size_toArray] <;> omega)
    have I1 : Inv X pins σ H { s with heap := h' } := I.kept (t' := s.toks) kp
    have I2 : Inv X pins σ (upd H h'.objs.size (.tup ys)) { s with heap := h'.push { cls := .type "tuple", data := .seq its.toArray } } :=
      I1.laid (t' := s.toks) (fun b o e => Heap.get?_push_of_some _ e) (Nat.le_refl _) (show ObjOk X.prog X.w _ _ _ (.tup ys) from ⟨hz, its, r', IsTup.new _ _⟩)
    exact ⟨.ref h'.objs.size, _, I2, rfl, q _ (I1.hok.fresh (Nat.le_refl _))⟩
  · obtain ⟨its, r', pl, hz⟩ := I.tuple hq
    exact call_tuple_same pl ⟨.ref p, H, I, rfl, q⟩
def tyV (K : PySem.W.Frag) (T : String) (x : V) (H : Hp) : Prop := match x with
  | .str _ => T = "str"
  | .int _ => T = "int"
  | .ref p => (T = "list" ∧ ∃ xs, SqL K H p xs) ∨ (T = "tuple" ∧ ∃ o, K.lookup p = some o ∧ o.cls = .type "tuple" ∧ o.dict = none) ∨
      (T = "dict" ∧ ((∃ kvs, H p = some (.dK kvs)) ∨ ∃ kvs, H p = some (.dT kvs))) ∨ (T = "set" ∧ ∃ S n, H p = some (.set S n))
  | _ => False
theorem tyV_is {pins : List (Addr × Obj)} {σ : St} {H : Hp} {s : Shared} {T : String} {x : V} {v : Value} (I : Inv X pins σ H s) (r : RelV x v) (ty : tyV X.K T x H) :
    s.TypeIs v T ∧ ∀ a, v = .ref a → ∃ ob, s.heap.get? a = some ob ∧ ob.dict = none := by
  cases x with
  | str z =>
    obtain ⟨t, rfl⟩ := r
    cases (show T = "str" from ty)
    exact ⟨typeIs_str s z t, fun _ e => nomatch e⟩
  | int i =>
    obtain ⟨t, rfl⟩ := r
    cases (show T = "int" from ty)
    exact ⟨typeIs_int s i t, fun _ e => nomatch e⟩
  | ref p =>
    cases r
    rcases ty with ⟨rfl, xs, hq⟩ | ⟨rfl, o, hk, hc, hd⟩ | ⟨rfl, hk⟩ | ⟨rfl, S, n, hk⟩
    · obtain ⟨its, _, pl, _⟩ := I.list hq
      refine ⟨pl.isList.typeIs, fun a e => ?_⟩
      cases e
      obtain ⟨o, n, e, c, hd, _⟩ := pl
      exact ⟨o, e, hd⟩
    · refine ⟨⟨o, I.kIn p o hk, hc⟩, fun a e => ?_⟩
      cases e
      exact ⟨o, I.kIn _ o hk, hd⟩
    · have z : ∃ o, s.heap.get? p = some o ∧ o.ExactDict := by
        rcases hk with ⟨kvs, hk⟩ | ⟨kvs, hk⟩
        · obtain ⟨_, _, _, _, o, _, _, e, ex, _⟩ := I.hok p _ hk
          exact ⟨o, e, ex⟩
        · obtain ⟨_, _, _, _, o, _, _, e, ex, _⟩ := I.hok p _ hk
          exact ⟨o, e, ex⟩
      obtain ⟨o, e, ex⟩ := z
      refine ⟨⟨o, e, ex.1⟩, fun a e2 => ?_⟩
      cases e2
      exact ⟨o, e, ex.2.1⟩
    · obtain ⟨o, _, _, _, e, ex, _⟩ := I.hok p _ hk
      refine ⟨⟨o, e, ex.1⟩, fun a e2 => ?_⟩
      cases e2
      exact ⟨o, e, ex.2.1⟩
  | _ => exact False.elim ty
def tBM0 (K : PySem.W.Frag) (T : String) (r : V → List V → Hp → VK → Prop) (to : TE) : TE := fun σ H Q => to σ H fun x H1 => tyV K T x H1 ∧ r x [] H1 Q
def tBM (K : PySem.W.Frag) (T : String) (r : V → List V → Hp → VK → Prop) (to : TE) (t : TA) : TE := fun σ H Q => to σ H fun x H1 => tyV K T x H1 ∧ t σ H1 fun xs H2 => r x xs H2 Q
variable {o e : Expr} {es : List Expr} {to : TE} {t : TA} {name : Str} {apos cpos : Pos} {T id : String} {r : V → List V → Hp → VK → Prop}
theorem pe_bm0 (pa : PlainAttrs T) (slot : Slot T name id) (hty : typeOf (.builtin id) = pure (.type "method_descriptor")) (hm : MtR X id r) (ho : PE X o to)
    (hbase : attributeBase o name X.env (eval o X.env) = eval o X.env := by rfl) (hline : (apos.endLine == cpos.line) = true := by rfl) : PE X (.Call (.Attribute o name apos) [] [] cpos) (tBM0 X.K T r to) := by
  intro pins s σ H Q I h
  refine wpAny_Call_method0_late hbase hline (thn (ho pins s σ H _ I h) fun v s1 ⟨x, H1, I1, r1, ty, q1⟩ => ?_)
  obtain ⟨h1, h2⟩ := tyV_is I1 r1 ty
  exact ⟨T, id, pa, slot, hty, h1, h2, Calls.callWith_builtin rfl (PySem.evalArgs_none (hm pins s1 σ H1 x [] v [] Q I1 r1 .nil q1))⟩
theorem pe_bm (pa : PlainAttrs T) (slot : Slot T name id) (hty : typeOf (.builtin id) = pure (.type "method_descriptor")) (hm : MtR X id r) (ho : PE X o to) (ha : PA X (e :: es) t)
    (hbase : attributeBase o name X.env (eval o X.env) = eval o X.env := by rfl)
    (hfew : ((backTo cpos (starEach (e :: es) X.env)).all (fun x => !x.1) && (backToKw cpos (keywordEach [] X.env)).all (fun x => x.1.isSome)
      && decide ((e :: es).length + ([] : List Keyword).length + (if ([] : List Keyword).isEmpty then 0 else 1) < 30)) = true := by rfl)
    (hline : (apos.endLine == cpos.line) = true := by rfl) (hs : starEach (e :: es) X.env = (false, eval e X.env) :: starEach es X.env := by rfl) (hplain : (backTo cpos (starEach es X.env)).any (·.1) = false := by rfl) :
    PE X (.Call (.Attribute o name apos) (e :: es) [] cpos) (tBM X.K T r to t) := by
  intro pins s σ H Q I h
  refine wpAny_Call_method_late hbase hfew hline rfl (thn (ho pins s σ H _ I h) fun v s1 ⟨x, H1, I1, r1, ty, q1⟩ => ?_)
  obtain ⟨h1, h2⟩ := tyV_is I1 r1 ty
  refine ⟨T, id, pa, slot, hty, h1, h2, ?_⟩
  have hA := ha cpos pins s1 σ H1 _ I1 q1
  rw [hs] at hA ⊢
  refine Calls.callWith_builtin (by show (false || (backTo cpos (starEach es X.env)).any (·.1)) = false; rw [hplain] <;> rfl) (Calls.evalArgs_plain ?_)
  exact thn hA fun us s2 ⟨vs, H2, I2, r2, q2⟩ => hm pins s2 σ H2 x vs v us Q I2 r1 r2 q2
end
end L2
namespace L2
open PySem PySem.Spec PyProof.Rows
def MtM (X : Cx) (id : String) (r : V → List V → Hp → VK → Prop) : Prop :=
  ∀ (pins : List (Addr × Obj)) (s : Shared) (σ : St) (H : Hp) (x : V) (xs : List V) (v : Value) (us : List Value) (Q : VK), Inv X pins σ H s → RelV x v → Vals xs us → r x xs H Q →
    wpAny (model X.prog X.w) X.A (call (.builtin id) (v :: us)) (EP X pins σ Q) X.xe s
theorem Vals.one : ∀ {x : V} {us : List Value}, Vals [x] us → ∃ u, us = [u] ∧ RelV x u
  | _, _, .cons r .nil => ⟨_, rfl, r⟩
section
variable {X : Cx} {pins : List (Addr × Obj)} {σ : St} {H : Hp} {s : Shared} {l b : Addr} {xs ys zs : List V}
theorem Inv.lset {its its' : List Value} {n : Nat} {f : Array Value → Array Value} {t' : Nat} (I : Inv X pins σ H s) (hH : H l = some (.lst xs))
    (e : s.heap.get? l = some { cls := .type "list", data := .seq its.toArray n }) (hf : f its.toArray = its'.toArray) (hv : Vals ys its') (hz : ys.length ≤ sizeLine) :
    Inv X pins σ (upd H l (.lst ys)) { s with heap := s.heap.update l (Obj.mapSeq f), toks := t' } := by
  have q := PySem.IsL.update e f
  rw [hf] at q
  refine I.write (x := l) (e := l) (by rw [hH]; exact trivial) (.inl rfl) (fun b' u hb hu => (Heap.get?_update_other s.heap (Obj.mapSeq f) (Ne.symm hb)).trans hu) ⟨_, q⟩ ?_
  exact ⟨hz, its', _, hv, q⟩
theorem Inv.lnew {its : List Value} {t' : Nat} (I : Inv X pins σ H s) (hv : Vals ys its) (hz : ys.length ≤ sizeLine) :
    Inv X pins σ (upd H s.heap.objs.size (.lst ys)) { s with heap := s.heap.push { cls := .type "list", data := .seq its.toArray }, toks := t' } :=
  I.laid (fun _ _ q => Heap.get?_push_of_some _ q) (Nat.le_refl _) ⟨hz, its, 0, hv, Heap.get?_push_size _ rfl⟩
theorem Inv.fresh (I : Inv X pins σ H s) : H s.heap.objs.size = none := I.hok.fresh (Nat.le_refl _)
theorem Inv.lstM (I : Inv X pins σ H s) (hH : H l = some (.lst xs)) : xs.length ≤ sizeLine ∧ ∃ (its : List Value) (n : Nat), Vals xs its ∧ xs.length = its.length ∧ s.heap.get? l = some { cls := .type "list", data := .seq its.toArray n } := by
  obtain ⟨z, its, n, r, e⟩ := I.hok l _ hH
  exact ⟨z, its, n, r, r.length, e⟩
theorem notLongL {n : Nat} (h : n ≤ sizeLine) : Builtin.List.listTooLong n = false := by
  unfold Builtin.List.listTooLong
  exact decide_eq_false (by omega)
end
section
variable {X : Cx}
def rAppend : V → List V → Hp → VK → Prop := fun x vs H Q => ∃ l xs y, x = .ref l ∧ vs = [y] ∧ H l = some (.lst xs) ∧ xs.length < sizeLine ∧ Q .non (upd H l (.lst (xs ++ [y])))
theorem mt_append : MtM X "list.append" rAppend := by
  intro pins s σ H x vs v us Q I rx rv h
  obtain ⟨l, xs, y, rfl, rfl, hH, hz, q⟩ := h
  cases rx
  obtain ⟨u, rfl, ru⟩ := rv.one
  obtain ⟨z, its, n, r, hl, e⟩ := I.lstM hH
  refine call_meets F.slot_list_append ⟨_, e, rfl⟩ F.entry_list_append (F.args_list_append_2 _ _) (PySem.list_append l its.toArray n u (by rw [List.size_toArray]; omega)) ⟨e, ?_⟩
  refine ⟨.non, _, I.lset (its' := its ++ [u]) hH e (by simp) (r.append (.cons ru .nil)) ?_, rfl, q⟩
  rw [List.length_append, List.length_singleton]
  omega
def rExtend : V → List V → Hp → VK → Prop := fun x vs H Q => ∃ l b xs zs, x = .ref l ∧ vs = [.ref b] ∧ H l = some (.lst xs) ∧ H b = some (.lst zs) ∧ xs.length + zs.length ≤ sizeLine ∧ Q .non (upd H l (.lst (xs ++ zs)))
theorem mt_extend : MtM X "list.extend" rExtend := by
  intro pins s σ H x vs v us Q I rx rv h
  obtain ⟨l, b, xs, zs, rfl, rfl, hH, hB, hz, q⟩ := h
  cases rx
  obtain ⟨u, rfl, ru⟩ := rv.one
  cases ru
  obtain ⟨z, its, n, r, hl, e⟩ := I.lstM hH
  obtain ⟨z2, its2, n2, r2, hl2, e2⟩ := I.lstM hB
  have hsz : its.toArray.size + its2.toArray.size ≤ sizeLine := by rw [List.size_toArray, List.size_toArray]; omega
  have hlong : ¬ (!its.toArray.isEmpty && Builtin.List.listTooLong (its.toArray.size + its2.toArray.size)) = true := by
    rw [notLongL hsz, Bool.and_false]
    exact Bool.false_ne_true
  refine call_meets F.slot_list_extend ⟨_, e, rfl⟩ F.entry_list_extend (F.args_list_extend_2 _ _)
    (AutoSeq1.list_extend_list_list_0 l its.toArray n b its2.toArray n2 hlong (by rw [List.size_toArray]; omega) (by omega)) ⟨e, e2, ?_⟩
  refine ⟨.non, _, I.lset (its' := its ++ its2) hH e (by simp) (r.append r2) ?_, rfl, q⟩
  rw [List.length_append]
  omega
def rCat : R2 := fun x y H Q => ∃ l b xs zs, x = .ref l ∧ y = .ref b ∧ H l = some (.lst xs) ∧ H b = some (.lst zs) ∧ xs.length + zs.length ≤ sizeLine ∧ ∀ p, H p = none → Q (.ref p) (upd H p (.lst (xs ++ zs)))
theorem op_cat : OpR X (binaryOp .Add) rCat := by
  intro pins s σ H x y v u Q I rx ry h
  obtain ⟨l, b, xs, zs, rfl, rfl, hH, hB, hz, q⟩ := h
  cases rx
  cases ry
  obtain ⟨z, its, n, r, hl, e⟩ := I.lstM hH
  obtain ⟨z2, its2, n2, r2, hl2, e2⟩ := I.lstM hB
  refine PySem.P.add_list e e2 ?_ (by rw [List.size_toArray, List.size_toArray]; omega)
  have ea : its.toArray ++ its2.toArray = (its ++ its2).toArray := by simp
  rw [ea]
  exact ⟨.ref _, _, I.lnew (t' := s.toks) (r.append r2) (by rw [List.length_append]; omega), rfl, q _ I.fresh⟩
end
section
variable {prog : Program} {w : World} {A : Around} {E : Value → Shared → Prop} {s : Shared}
end
section
variable {X : Cx}
end
end L2
namespace Att
open PySem PySem.W PySem.Calls PyProof.Rows
theorem ints_of_wellAll {P : Params} {h : Heap} : ∀ (ns : List Int) (vs : List Value), WellAll P h vs (ns.map WData.int) → IntsAre vs ns := by
  intro ns
  induction ns with
  | nil =>
    intro vs w
    rw [List.map_nil] at w
    cases w
    exact .nil
  | cons n ns ih =>
    intro vs w
    rw [List.map_cons] at w
    cases w with
    | cons a b =>
      cases a
      exact .cons _ _ (ih _ b)
theorem script_of {l : OpenLaw} {n : Nat} (hn : l.most = some n) {P : Params} {h : Heap} {args : List WData} {vals : List Value}
    (hpre : l.row.toRowW.claim.pre args = true) (hwl : WellAll P h vals args) :
    ∃ a vs ns, vals = [Value.ref a] ∧ args = [WData.list (ns.map WData.int)] ∧ h.get? a = some { cls := .type "list", data := .seq vs.toArray } ∧ IntsAre vs ns ∧ ns.length ≤ n := by
  have hsh : WShape.hasAll [] args [.list .int] = true := (pre_splitW hpre).1
  have hc : l.pre.holds [] { args := args } = true := (pre_splitW hpre).2
  obtain ⟨d, r, rfl, h1, h2⟩ := hasAllW_cons hsh
  obtain rfl := hasAllW_nil h2
  obtain ⟨xs, rfl, h3⟩ := hasW_list h1
  obtain ⟨ns, rfl⟩ := items_int h3
  have hlen : ns.length ≤ n := by
    unfold OpenLaw.pre at hc
    have h4 : (WTm.not (.lt (.lit (.int (n : Int))) (.len (.arg 0)))).holds [] { args := [.list (ns.map .int)] } = true := by
      have h4 := (holds_andW hc).1
      rw [hn] at h4
      exact h4
    have h5 := condW_of h4 (w_not (w_lt w_lit (w_len_list (w_arg rfl))))
    rw [List.length_map] at h5
    refine Nat.le_of_not_lt fun q => ?_
    have q' : (n : Int) < ((ns.length : Nat) : Int) := by omega
    first
      | (rw [decide_eq_true q'] at h5; exact absurd h5 (by decide))
      | (simp at h5; omega)
  cases hwl with
  | cons w1 w2 =>
    cases w2
    cases w1 with
    | list ho hall => exact ⟨_, _, ns, rfl, rfl, ho, ints_of_wellAll ns _ hall, hlen⟩
theorem post_true (l : OpenLaw) (args : List WData) : l.row.toRowW.claim.post args (.bool true) args = true :=
  postW_of (r := l.row.toRowW) (X := (true == true))
    (show WShape.has [] (.bool true) .bool = true by first | rfl | decide | simp [WShape.has, WShape.arms, WShape.armsAll])
    (show (WTm.eq .res (.lit (.bool true))).value [] { args := args, res := some (.bool true), after := args } = some (.bool (true == true)) from w_eq_bool (w_res rfl) w_lit) rfl
theorem attach_call {l : OpenLaw} {n : Nat} {q : Program} {loose : List Str} {XP : (Str → Option Value) → Heap → Prop} {YP : World → Heap → Prop} {d : DefRec}
    (hn : l.most = some n) (hdf : d.params.defaults = [])
    (call : ∀ (w : World) (s₀ s₁ : Shared) (mg mb : Str → Option Value) (fa : Addr) (o : Obj) (pm cd doc : Value) (a : Addr) (vs : List Value) (ns : List Int),
      Ground q loose [] XP w s₀ mg mb s₁.heap → YP w s₁.heap →
      s₁.heap.get? fa = some o → o.data = .func (docDef d.name d.params d.body d.scope pm cd doc) → s₁.heap.CodeRec cd d.name → mg d.name = some (.ref fa) →
      s₁.heap.get? a = some { cls := .type "list", data := .seq vs.toArray } → IntsAre vs ns → ns.length ≤ n → s₁.gens = #[] →
      codeAny (model l.prog w) callerA (.call (.ref fa) ⟨[.ref a], []⟩) (fun r s' => r = .ok (.ret (.bool true)) ∧ OldK s₁.heap s'.heap ∧ s'.os = s₁.os ∧ AllBare s'.gens) s₁) :
    WalkO q loose XP YP l.row.toRowW d [] (fun f vs => PySem.call f vs) := by
  intro w s₀ s₁ mg mb G Y fa o pm cd doc dV kV ho hd hcd hD hmg hg args vals as hpre hlay hrd hwl hlo
  obtain rfl : dV = .none := Dflts.none hD hdf
  obtain rfl : kV = .none := Dflts.noKw hD
  obtain ⟨a, vs, ns, rfl, rfl, hobj, hints, hlen⟩ := script_of hn hpre hwl
  refine enter_call (codeAny_mono (call w s₀ s₁ mg mb fa o pm cd doc a vs ns G Y ho (fd_plain hd) hcd hmg hobj hints hlen hg) fun r s' hq => ?_)
  obtain ⟨rfl, h2, h3, h4⟩ := hq
  exact ⟨.inl ⟨.bool true, .bool true, [], rfl, fun _ => rfl, .bool true, post_true l _, fun _ => ⟨List.Pairwise.nil, fun _ hm => (nomatch hm)⟩⟩, h2, h3, h4⟩
section
variable {prog : Program} {w : World} {A : Around} {E : Value → Shared → Prop} {s : Shared} {K : Frag}
def ledger (h : Heap) (L d : Addr) : List (Addr × Obj) := (List.range h.objs.size).filterMap fun a => if a = L ∨ a = d then none else (h.get? a).map fun o => (a, o)
end
end Att
namespace L2
open PySem PySem.Spec PyProof.Rows
theorem vals_ints : ∀ {vs : List Value} {ns : List Int}, IntsAre vs ns → Vals (ns.map V.int) vs
  | _, _, .nil => .nil
  | _, _, .cons n t h => .cons ⟨t, rfl⟩ (vals_ints h)
def Only (H : Hp) : Prop := ∀ b, H b = none ∨ ∃ o xs, H b = some (.frz o (.lst xs))
theorem law_call {P : Program} {w : World} {K : PySem.W.Frag} {mg mb : Str → Option Value} {CX : CXT} {k : Nat} {fa a : Addr} {fd : FuncData} {x : Str} {sp : Sp} {s₁ : Shared} {vs : List Value} {ns : List Int}
    (KX : K.In s₁.heap) (hns : s₁.heap.Ns mainGlobals mg) (hb : s₁.heap.Ns builtinsNs mb) (hbb : ∀ x : Str, x ≠ "__name__" → mb x = bootBuiltins x) (hlim : s₁.heap.NoLimit) (hg : s₁.gens = #[])
    (ha : s₁.heap.get? a = some { cls := .type "list", data := .seq vs.toArray }) (hi : IntsAre vs ns) (hl : ns.length ≤ sizeLine) (hr : Room k callerA)
    (F : ∀ base : Heap, K.In base → base.Ns mainGlobals mg → FnOk P w K mg base CX k fa fd [x] sp) (hbind : ∀ (s : Shared) (u : Value), BindsTo s fd ⟨[u], []⟩ [(x, u)])
    (hsp : ∀ H : Hp, Only H → SqL K H a (ns.map V.int) → sp [.ref a] H (fun v _ => v = .bl true) fun _ _ _ => False)
    (hCX : ∀ H e s', CX [] H s₁ (fun _ _ _ => False) e s' → False) :
    codeAny (model P w) callerA (.call (.ref fa) ⟨[.ref a], []⟩) (fun r s' => r = .ok (.ret (.bool true)) ∧ OldK s₁.heap s'.heap ∧ s'.os = s₁.os ∧ AllBare s'.gens) s₁ := by
  have rv := vals_ints hi
  have lenV := hi.length
  have core : ∀ H : Hp, Only H → SqL K H a (ns.map V.int) → HOk P w H s₁.heap → (∀ b, H b ≠ none → b = a) → (H a ≠ none → K.lookup a = none) →
      codeAny (model P w) callerA (.call (.ref fa) ⟨[.ref a], []⟩) (fun r s' => r = .ok (.ret (.bool true)) ∧ OldK s₁.heap s'.heap ∧ s'.os = s₁.os ∧ AllBare s'.gens) s₁ := by
    intro H hO hS hok hA hK
    have base_of : ∀ {b : Addr} {o : Obj}, s₁.heap.get? b = some o → H b = none → (hidT s₁.heap H).get? b = some o := fun e n => hidT_get e n
    have noA : ∀ {b : Addr} {o : Obj} {es : Array DictEntry} {ep : Nat}, s₁.heap.get? b = some o → o.data = .dict es ep → H b = none := fun {b o es ep} e d => by
      cases q : H b with
      | none => rfl
      | some u =>
        have e' : b = a := hA b (by rw [q]; simp)
        subst e'
        rw [ha] at e; cases e
        have d' : Data.seq vs.toArray _ = Data.dict es ep := d
        cases d'
    have nsK : ∀ {b : Addr} {m : Str → Option Value}, s₁.heap.Ns b m → (hidT s₁.heap H).Ns b m := fun {b m} ⟨o, es, ep, e, d, r⟩ => ⟨o, es, ep, base_of e (noA e d), d, r⟩
    have hKb : K.In (hidT s₁.heap H) := fun b o e => base_of (KX b o e) (by
      cases q : H b with
      | none => rfl
      | some u =>
        have e' : b = a := hA b (by rw [q]; simp)
        subst e'
        rw [hK (by rw [q]; simp)] at e; cases e)
    have hM : Mod K mg (hidT s₁.heap H) := ⟨hKb, nsK hns, ⟨mb, nsK hb, hbb⟩, let ⟨mc, h1, h2⟩ := hlim; ⟨mc, nsK h1, h2⟩⟩
    have e0 : Env0 P w K mg (hidT s₁.heap H) callerA [] s₁ H := ⟨rfl, hM, fun b o e => of_hidT e, Nat.le_of_eq (hidT_size _ _), trivial, fun b hb => absurd (show b ∈ ([] : List Addr) from hb) (by simp), hok, .of_eq hg⟩
    refine codeAny_mono ((F _ hKb (nsK hns)).run callerA [] s₁ H ⟨[.ref a], []⟩ [.ref a] [.ref a] _ _ hr e0 (hbind s₁ (.ref a)) (.cons rfl .nil) (hsp H hO hS)) fun r s' h => ?_
    cases r with
    | error e => exact (hCX H e s' h).elim
    | ok fl =>
      cases fl with
      | next => exact False.elim h
      | brk => exact False.elim h
      | cont => exact False.elim h
      | ret u =>
        obtain ⟨v, H', os, bare, un, hok', r', q⟩ := h
        have q' : v = .bl true := q
        subst q'
        obtain rfl : u = Value.bool true := r'
        refine ⟨rfl, OldK.of_keep fun b o e => ?_, os, bare⟩
        cases q : H b with
        | none => exact un.keep b o e q (by intro z; exact absurd (show b ∈ ([] : List Addr) from z) (by simp)) (by simp)
        | some u =>
          rcases hO b with z | ⟨ob, xs, z⟩
          · rw [q] at z; cases z
          · have z2 := un.frzs b ob _ z
            obtain ⟨e1, _⟩ := hok b _ z
            obtain ⟨e2, _⟩ := hok' b _ z2
            rw [e] at e1; cases e1
            exact e2
  cases hk : K.lookup a with
  | some o =>
    have e := KX a o hk
    rw [ha] at e
    cases e
    refine core (fun _ => none) (fun _ => .inl rfl) (.inr ⟨_, vs.toArray, _, hk, rfl, rfl, rfl, by rw [List.size_toArray, lenV]; exact hl, by simpa using rv⟩) (fun b u z => by have z' : (none : Option HO) = some u := z; cases z') (fun b z => absurd rfl z) fun z => absurd rfl z
  | none =>
    refine core (fun b => if b = a then some (.frz { cls := .type "list", data := .seq vs.toArray } (.lst (ns.map V.int))) else none) (fun b => ?_) (.inl (.inr ⟨{ cls := .type "list", data := .seq vs.toArray }, if_pos rfl⟩)) (fun b u z => ?_) (fun b z => ?_) fun _ => hk
    · by_cases hb : b = a
      · exact .inr ⟨_, _, if_pos hb⟩
      · exact .inl (if_neg hb)
    · by_cases hb : b = a
      · have z' := (if_pos hb).symm.trans z
        cases z'
        subst hb
        exact ⟨ha, by rw [List.length_map]; exact hl, vs, _, rv, ha⟩
      · have z' := (if_neg hb).symm.trans z
        cases z'
    · by_cases hb : b = a
      · exact hb
      · exact absurd (if_neg hb) z
end L2
namespace L2
open PySem PySem.Spec PyProof.Rows
abbrev KOf {K : PySem.W.Frag} {h : Heap} (_ : K.In h) : PySem.W.Frag := K
theorem walk_of {l : PySem.W.OpenLaw} {n k : Nat} {q : Program} {loose : List Str} {XP : (Str → Option Value) → Heap → Prop} {YP : World → Heap → Prop} {d : DefRec} {K : Params → PySem.W.Frag} {CX : World → CXT} {sp : World → Sp} {x : Str}
    (hn : l.most = some n) (hn2 : n ≤ sizeLine) (hdf : d.params.defaults = []) (hr : Room k callerA)
    (hY : ∀ (w : World) (h : Heap), YP w h → (K w.params).In h)
    (F : ∀ (w : World) (mg : Str → Option Value) (fa : Addr) (h : Heap), (K w.params).In h → h.Ns mainGlobals mg → mg d.name = some (.ref fa) →
      ∃ fd : FuncData, (∀ (s : Shared) (u : Value), BindsTo s fd ⟨[u], []⟩ [(x, u)]) ∧
        ∀ base : Heap, (K w.params).In base → base.Ns mainGlobals mg → FnOk l.prog w (K w.params) mg base (CX w) k fa fd [x] (sp w))
    (hsp : ∀ (w : World) (H : Hp) (a : Addr) (ns : List Int), ns.length ≤ n → Only H → SqL (K w.params) H a (ns.map V.int) → sp w [.ref a] H (fun v _ => v = .bl true) fun _ _ _ => False)
    (hCX : ∀ (w : World) (H : Hp) (s : Shared) (e : Value) (s' : Shared), CX w [] H s (fun _ _ _ => False) e s' → False) :
    PySem.W.WalkO q loose XP YP l.row.toRowW d [] (fun f vs => PySem.call f vs) := by
  refine Att.attach_call hn hdf fun w s₀ s₁ mg mb fa o pm cd doc a vs ns G Y ho hd hcd hmg hobj hints hlen hg => ?_
  have KX := hY w _ Y
  obtain ⟨fd, hb, hF⟩ := F w mg fa _ KX G.T.g hmg
  exact law_call KX G.T.g G.T.b G.T.builtins G.T.nolimit hg hobj hints (Nat.le_trans hlen hn2) hr hF hb (fun H hO hS => hsp w H a ns hlen hO hS) fun H e s' => hCX w H s₁ e s'
theorem walk_ofK {l : PySem.W.OpenLaw} {n k : Nat} {q : Program} {loose : List Str} {XP : (Str → Option Value) → Heap → Prop} {YP : World → Heap → Prop} {d : DefRec} {K : Params → PySem.W.Frag} {CX : CXT} {sp : PySem.W.Frag → Sp} {x : Str}
    (hn : l.most = some n) (hn2 : n ≤ sizeLine) (hdf : d.params.defaults = []) (hr : Room k callerA)
    (hY : ∀ (w : World) (h : Heap), YP w h → (K w.params).In h)
    (F : ∀ (w : World) (mg : Str → Option Value) (fa : Addr) (h : Heap), (K w.params).In h → h.Ns mainGlobals mg → mg d.name = some (.ref fa) →
      ∃ fd : FuncData, (∀ (s : Shared) (u : Value), BindsTo s fd ⟨[u], []⟩ [(x, u)]) ∧
        ∀ base : Heap, (K w.params).In base → base.Ns mainGlobals mg → FnOk l.prog w (K w.params) mg base CX k fa fd [x] (sp (K w.params)))
    (hsp : ∀ (K : PySem.W.Frag) (H : Hp) (a : Addr) (ns : List Int), ns.length ≤ n → Only H → SqL K H a (ns.map V.int) → sp K [.ref a] H (fun v _ => v = .bl true) fun _ _ _ => False)
    (hCX : ∀ (H : Hp) (s : Shared) (e : Value) (s' : Shared), CX [] H s (fun _ _ _ => False) e s' → False) :
    PySem.W.WalkO q loose XP YP l.row.toRowW d [] (fun f vs => PySem.call f vs) :=
  walk_of (K := K) (CX := fun _ => CX) (sp := fun w => sp (K w.params)) hn hn2 hdf hr hY F (fun w H a ns h1 h2 h3 => hsp (K w.params) H a ns h1 h2 h3) fun _ H s e s' => hCX H s e s'
end L2
namespace L2
open PySem PySem.Spec PyProof.Rows
def defArgs (s : Stmt) : Arguments := match s with
  | .FunctionDef _ a _ _ _ _ _ _ _ _ => a
  | _ => { posonlyargs := [], args := [], vararg := none, kwonlyargs := [], kw_defaults := [], kwarg := none, defaults := [] }
def defBody (s : Stmt) : List Stmt := match s with
  | .FunctionDef _ _ b _ _ _ _ _ _ _ => b
  | _ => []
def defScope (s : Stmt) : Scope := match s with
  | .FunctionDef _ _ _ _ _ _ sc _ _ _ => sc
  | _ => { kind := .function, names := [], isGenerator := false, isCoroutine := false }
abbrev CX0 : CXT := fun _ _ _ _ _ _ => False
abbrev E0 : XK := fun _ _ _ => False
theorem pass0 {X : Cx} : Passes CX0 X E0 := fun _ _ _ _ _ _ _ h => h.elim
structure Fun (K : PySem.W.Frag) (x qual : Str) (st : Stmt) (f : Addr) (fd : FuncData) : Prop where
  ex : ∃ (oc : Value) (od : Option Addr) (kV doc pm : Value) (an : Option Addr) (cdv ct : Value) (osl : Array (Option Value)),
    fd = PySem.W.fnOf x qual (defArgs st) (defBody st) (defScope st) .none kV doc pm an cdv ct ∧ K.lookup f = some ⟨oc, od, .func fd, osl⟩ ∧ PySem.W.codeIn K cdv qual = true
  kp : PySem.W.keepIn K (.ref f) = true
section
variable {P : Program} {w : World} {K : PySem.W.Frag} {mg : Str → Option Value} {base : Heap}
theorem Fun.ok {x qual : Str} {st : Stmt} {f : Addr} {fd : FuncData} {N ps : List Str} {k : Nat} {sp : Sp} (F : Fun K x qual st f fd) (S : FnScope N ps (defScope st)) (len : ∀ vs H Q E, sp vs H Q E → vs.length = ps.length)
    (hbody : ∀ (cdv : Value) (A : Around) (outer : List Env) (s : Shared) (H : Hp) (vs : List V) (Q : VK) (E : XK), Room k (A.deeper (envOfC qual (defScope st) s.heap.objs.size f cdv)) → sp vs H Q E →
      ∃ t, PSs (cxOf CX0 P w K mg base N qual (defScope st) f cdv A outer s H E).nox (defBody st) t ∧ t { nx := fun _ H' => Q .non H', rt := Q } (start N vs) H) : FnOk P w K mg base CX0 (k + 1) f fd ps sp := by
  obtain ⟨oc, od, kV, doc, pm, an, cdv, ct, osl, rfl, lk, hcd⟩ := F.ex
  refine fn_of lk hcd S len fun A outer s H vs Q E hr hsp => ?_
  obtain ⟨t, h, q⟩ := hbody cdv A outer s H vs Q E hr hsp
  exact ⟨t, h.nox, q⟩
theorem Fun.binds {x qual : Str} {st : Stmt} {f : Addr} {fd : FuncData} {ps : List Str} (F : Fun K x qual st f fd)
    (h : ∀ (kV doc pm : Value) (an : Option Addr) (cdv ct : Value) (us : List Value), us.length = ps.length → bindArgs (PySem.W.fnOf x qual (defArgs st) (defBody st) (defScope st) .none kV doc pm an cdv ct) ⟨us, []⟩ = pure (ps.zip us)) : Binds K fd ps [] := by
  obtain ⟨oc, od, kV, doc, pm, an, cdv, ct, osl, rfl, lk, hcd⟩ := F.ex
  exact .all (h kV doc pm an cdv ct)
theorem fun_mk {x qual : Str} {st : Stmt} {f : Addr} {oc : Value} {od an : Option Addr} {osl : Array (Option Value)} {kV doc pm cdv ct : Value} (l : K.lookup f = some ⟨oc, od, .func (PySem.W.fnOf x qual (defArgs st) (defBody st) (defScope st) .none kV doc pm an cdv ct), osl⟩)
    (c : PySem.W.codeIn K cdv qual = true) (k : PySem.W.keepIn K (.ref f) = true) : Fun K x qual st f (PySem.W.fnOf x qual (defArgs st) (defBody st) (defScope st) .none kV doc pm an cdv ct) := ⟨⟨oc, od, kV, doc, pm, an, cdv, ct, osl, rfl, l, c⟩, k⟩
end
theorem small1000 {n : Nat} (h : n ≤ 1000) : n < sizeLine := Nat.lt_of_le_of_lt h (by decide)
section
variable {X : Cx}
theorem pv (i : Nat) {x : Str} {pos : Pos} (hN : X.N[i]? = some x := by rfl) (hv : Vis X.env.scope x := by first | exact Or.inl rfl | exact Or.inr (Or.inl rfl) | exact Or.inr (Or.inr rfl)) (hd : (x == ("__debug__" : Str)) = false := by decide)
    (hcd : (x == ("__classdict__" : Str)) = false := by decide) : PE X (.Name x pos) (tVar i) := pe_var hN hv hd hcd
end
theorem iteF {A B : Prop} (h : B) : if false = true then A else B := by
  rw [if_neg Bool.false_ne_true]
  exact h
theorem iteT {A B : Prop} (h : A) : if true = true then A else B := by
  rw [if_pos rfl]
  exact h
theorem ite2 {c A B : Prop} [Decidable c] (h1 : c → A) (h2 : ¬ c → B) : if c then A else B := by
  by_cases h : c
  · rw [if_pos h]
    exact h1 h
  · rw [if_neg h]
    exact h2 h
def Same (H H' : Hp) : Prop := ∀ b o, H b = some o → H' b = some o
theorem Same.refl (H : Hp) : Same H H := fun _ _ h => h
theorem Same.trans {H H1 H2 : Hp} (a : Same H H1) (b : Same H1 H2) : Same H H2 := fun c o h => b c o (a c o h)
theorem Same.free {H H' : Hp} (e : Same H H') {l : Addr} (h : H' l = Option.none) : H l = Option.none := by
  cases q : H l with
  | none => rfl
  | some o =>
    rw [e l o q] at h
    cases h
theorem Same.seq {K : PySem.W.Frag} {H H' : Hp} {a : Addr} {xs : List V} (e : Same H H') (h : SqL K H a xs) : SqL K H' a xs := by
  rcases h with (h | ⟨o, h⟩) | h
  · exact .inl (.inl (e _ _ h))
  · exact .inl (.inr ⟨o, e _ _ h⟩)
  · exact .inr h
end L2
set_option Elab.async false
set_option linter.all false
set_option maxRecDepth 100000
namespace L2
open PySem PySem.Spec PyProof.Rows
def closL : List (Str × NameKind) → List (Str × Addr) → List (Str × Addr) → List (Str × Addr)
  | [], _, acc => acc
  | (n, k) :: r, cs, acc => if k = .free then (match cs.lookup n with | some c => closL r cs ((n, c) :: acc) | none => closL r cs acc) else closL r cs acc
theorem closureFor_eq {scope : Scope} {env : Env} (h : ∀ x ∈ scope.names, x.2 = .free → ∃ c, env.cells.lookup x.1 = some c) :
    closureFor scope env = pure (closL scope.names env.cells []) := by
  simp only [closureFor]
  have key : ∀ (names : List (Str × NameKind)) (acc : List (Str × Addr)), (∀ x ∈ names, x.2 = .free → ∃ c, env.cells.lookup x.1 = some c) →
      (forIn names acc fun x r => if (x.2 == NameKind.free) = true then (do let __do_lift ← cellOf env x.1; pure (ForInStep.yield ((x.1, __do_lift) :: r))) else (pure (ForInStep.yield r) : Sem _)) = (pure (closL names env.cells acc) : Sem _) := by
    intro names
    induction names with
    | nil => intro acc _; rfl
    | cons x r ih =>
      intro acc hx
      obtain ⟨n, k⟩ := x
      have hr := fun y hy => hx y (List.mem_cons_of_mem _ hy)
      rw [List.forIn_cons]
      by_cases hk : k = .free
      · subst hk
        obtain ⟨c, hc⟩ := hx (n, .free) List.mem_cons_self rfl
        have hc' : env.cells.lookup n = some c := hc
        have e1 : cellOf env n = pure c := by unfold cellOf; rw [hc']
        have e2 : closL ((n, NameKind.free) :: r) env.cells acc = closL r env.cells ((n, c) :: acc) := by
          show (if NameKind.free = NameKind.free then (match env.cells.lookup n with | some c => closL r env.cells ((n, c) :: acc) | none => closL r env.cells acc) else _) = _
          rw [if_pos rfl, hc']
        rw [e2, ← ih _ hr]
        show ((if (NameKind.free == NameKind.free) = true then _ else _) >>= _) = _
        rw [if_pos (show (NameKind.free == NameKind.free) = true from rfl)]
        show ((cellOf env n >>= fun __do_lift => pure (ForInStep.yield ((n, __do_lift) :: acc))) >>= _) = _
        rw [e1]
        rfl
      · have hb : (k == NameKind.free) = false := by simpa using hk
        have e2 : closL ((n, k) :: r) env.cells acc = closL r env.cells acc := by
          show (if k = NameKind.free then _ else _) = _
          rw [if_neg hk]
        rw [e2, ← ih _ hr]
        show ((if (k == NameKind.free) = true then _ else _) >>= _) = _
        rw [if_neg (by rw [hb]; exact Bool.false_ne_true)]
        rfl
  exact (congrArg (fun z => z >>= fun r => pure r) (key scope.names [] h)).trans rfl
theorem closL_sub : ∀ {names : List (Str × NameKind)} {cs acc : List (Str × Addr)} {x : Str} {c : Addr}, (∀ y d, acc.lookup y = some d → cs.lookup y = some d) → (closL names cs acc).lookup x = some c → cs.lookup x = some c
  | [], _, _, _, _, h, e => h _ _ e
  | (n, k) :: r, cs, acc, x, c, h, e => by
    unfold closL at e
    split at e
    · split at e
      · rename_i d hd
        refine closL_sub (names := r) (fun y z q => ?_) e
        rw [List.lookup_cons] at q
        split at q
        · rename_i hy
          cases q
          rw [eq_of_beq hy]
          exact hd
        · exact h _ _ q
      · exact closL_sub (names := r) h e
    · exact closL_sub (names := r) h e
theorem closL_has : ∀ {names : List (Str × NameKind)} {cs acc : List (Str × Addr)} {x : Str} {c : Addr}, (∀ y d, acc.lookup y = some d → cs.lookup y = some d) → cs.lookup x = some c → (x, NameKind.free) ∈ names ∨ (acc.lookup x = some c) → (closL names cs acc).lookup x = some c
  | [], _, _, _, _, h, e, m => by
    rcases m with m | m
    · cases m
    · exact m
  | (n, k) :: r, cs, acc, x, c, h, e, m => by
    have h2 : ∀ d, cs.lookup n = some d → ∀ y z, ((n, d) :: acc).lookup y = some z → cs.lookup y = some z := fun d hd y z q => by
      rw [List.lookup_cons] at q
      split at q
      · rename_i hy
        cases q
        rw [eq_of_beq hy]
        exact hd
      · exact h _ _ q
    unfold closL
    split
    · rename_i hk
      subst hk
      split
      · rename_i d hd
        refine closL_has (names := r) (h2 d hd) e ?_
        by_cases hx : x = n
        · subst hx
          right
          rw [List.lookup_cons_self, ← hd, e]
        · rcases m with m | m
          · left
            rcases List.mem_cons.mp m with q | q
            · cases q
              exact absurd rfl hx
            · exact q
          · right
            rw [List.lookup_cons]
            have : (x == n) = false := beq_eq_false_iff_ne.mpr hx
            rw [this]
            exact m
      · rename_i hd
        refine closL_has (names := r) h e ?_
        rcases m with m | m
        · rcases List.mem_cons.mp m with q | q
          · cases q
            rw [hd] at e
            cases e
          · exact .inl q
        · exact .inr m
    · rename_i hk
      refine closL_has (names := r) h e ?_
      rcases m with m | m
      · rcases List.mem_cons.mp m with q | q
        · cases q
          exact absurd rfl hk
        · exact .inl q
      · exact .inr m
def relS (scope psc : Scope) : Scope :=
  { scope with names := scope.names.map fun x => if (x.2 == .free && psc.kind == .function && psc.names.lookup x.1 == some .cell) then (x.1, .cell) else (x.1, x.2) }
theorem relabel_eq {scope : Scope} {env : Env} {psc : Scope} (h : env.scope = psc) : relabel scope env = relS scope psc := by
  subst h
  rfl
theorem look_rel {f : Str × NameKind → Str × NameKind} (hf : ∀ x, (f x).1 = x.1 ∧ ((f x).2 = x.2 ∨ (x.2 = .free ∧ (f x).2 = .cell))) : ∀ {names : List (Str × NameKind)} {x : Str} {k : NameKind},
    names.lookup x = some k → ∃ k', (names.map f).lookup x = some k' ∧ (k' = k ∨ (k = .free ∧ k' = .cell))
  | [], _, _, h => by simp at h
  | (n, j) :: r, x, k, h => by
    have e1 : ((n, j) :: r).map f = f (n, j) :: r.map f := rfl
    rw [e1]
    obtain ⟨a, b, e⟩ : ∃ a b, f (n, j) = (a, b) := ⟨_, _, rfl⟩
    obtain ⟨h1, h2⟩ := hf (n, j)
    rw [e] at h1 h2
    have h1' : a = n := h1
    subst h1'
    rw [e, List.lookup_cons]
    rw [List.lookup_cons] at h
    cases hx : x == a with
    | true =>
      rw [hx] at h
      have h' : j = k := Option.some.inj h
      subst h'
      exact ⟨_, rfl, h2⟩
    | false =>
      rw [hx] at h
      exact look_rel hf h
theorem relS_look {scope psc : Scope} {x : Str} {k : NameKind} (h : scope.names.lookup x = some k) : ∃ k', (relS scope psc).names.lookup x = some k' ∧ (k' = k ∨ (k = .free ∧ k' = .cell)) := by
  refine look_rel (fun y => ?_) h
  by_cases c : (y.2 == NameKind.free && psc.kind == .function && psc.names.lookup y.1 == some .cell) = true
  · rw [if_pos c]
    have c' : y.2 = .free := by
      rw [Bool.and_eq_true, Bool.and_eq_true] at c
      exact eq_of_beq c.1.1
    exact ⟨rfl, .inr ⟨c', rfl⟩⟩
  · rw [if_neg c]
    exact ⟨rfl, .inl rfl⟩
theorem look_mem : ∀ {l : List (Str × NameKind)} {x : Str} {k : NameKind}, l.lookup x = some k → (x, k) ∈ l
  | [], _, _, h => by simp at h
  | (n, j) :: r, x, k, h => by
    rw [List.lookup_cons] at h
    cases hx : x == n with
    | true =>
      rw [hx] at h
      have h' : j = k := Option.some.inj h
      rw [eq_of_beq hx, h']
      exact List.mem_cons_self
    | false =>
      rw [hx] at h
      exact List.mem_cons_of_mem _ (look_mem h)
theorem look_map_key {f : Str × NameKind → Str × NameKind} (hf : ∀ x, (f x).1 = x.1) : ∀ {l : List (Str × NameKind)} {x : Str} {k : NameKind}, (l.map f).lookup x = some k → ∃ k', l.lookup x = some k' ∧ (f (x, k')).2 = k
  | [], _, _, h => by simp at h
  | (n, j) :: r, x, k, h => by
    have e1 : ((n, j) :: r).map f = f (n, j) :: r.map f := rfl
    rw [e1] at h
    obtain ⟨a, b, e⟩ : ∃ a b, f (n, j) = (a, b) := ⟨_, _, rfl⟩
    have h1 := hf (n, j)
    rw [e] at h1
    have h1' : a = n := h1
    subst h1'
    rw [e, List.lookup_cons] at h
    rw [List.lookup_cons]
    cases hx : x == a with
    | true =>
      rw [hx] at h
      have h' : b = k := Option.some.inj h
      refine ⟨j, rfl, ?_⟩
      rw [eq_of_beq hx, e]
      exact h'
    | false =>
      rw [hx] at h
      exact look_map_key hf h
theorem relS_free {scope psc : Scope} {x : Str} (h : (relS scope psc).names.lookup x = some .cell ∨ (relS scope psc).names.lookup x = some .free) : scope.names.lookup x = some .free ∨ scope.names.lookup x = some .cell := by
  have key : ∀ k, (relS scope psc).names.lookup x = some k → k = .cell ∨ k = .free → scope.names.lookup x = some .free ∨ scope.names.lookup x = some .cell := fun k hk h2 => by
    obtain ⟨k', h1, h3⟩ := look_map_key (fun y => by split <;> rfl) hk
    by_cases c : (k' == NameKind.free && psc.kind == .function && psc.names.lookup x == some .cell) = true
    · rw [Bool.and_eq_true, Bool.and_eq_true] at c
      rw [h1, eq_of_beq c.1.1]
      exact .inl rfl
    · have h3' : (if (k' == NameKind.free && psc.kind == .function && psc.names.lookup x == some .cell) = true then ((x, NameKind.cell) : Str × NameKind) else (x, k')).2 = k := h3
      rw [if_neg c] at h3'
      have e : k' = k := h3'
      rw [h1, e]
      rcases h2 with h2 | h2
      · rw [h2]; exact .inr rfl
      · rw [h2]; exact .inl rfl
  rcases h with h | h
  · exact key _ h (.inl rfl)
  · exact key _ h (.inr rfl)
structure CpScope (psc scope : Scope) (own frn : List Str) : Prop where
  kind : scope.kind = .function
  cell : ∀ y ∈ scope.names, y.2 ≠ .cell
  names : ∀ y ∈ scope.names, y.2 = .local → scope.names.lookup y.1 = some .local
  free : ∀ y ∈ scope.names, y.2 = .free → psc.names.lookup y.1 = some .cell ∨ psc.names.lookup y.1 = some .free
  nd : (own ++ frn).Nodup
  frn : ∀ x ∈ frn, scope.names.lookup x = some .free
def compSt (own : List Str) (fr : List Nat) (σ : St) : St := own.map (fun _ => none) ++ fr.map fun j => (σ[j]?).getD none
def cxComp (X : Cx) (N' : List Str) (scope : Scope) (C : Addr) (s2 : Shared) (H : Hp) (fp : List Addr) : Cx :=
  { X with N := N', s₀ := s2, H₀ := H, env := compEnvC scope (closL scope.names X.env.cells []) C X.env, outer := X.stack, ex := fp, fn := fun _ => false, pn := [], xe := fun _ _ => False }
section
variable {X : Cx} {pins : List (Addr × Obj)} {σ : St} {H : Hp} {s : Shared}
theorem comp_ok {psc scope : Scope} {own frn : List Str} {C : Addr} {fp : List Addr} (S : CpScope psc scope own frn) (hp : X.env.scope = psc) (I : Inv X pins σ H s) (hfp : ∀ b ∈ fp, FpOk X pins H b) (hlt : ∀ b ∈ fp, b < s.heap.objs.size) (hC : s.heap.objs.size ≤ C) :
    (cxComp X (own ++ frn) scope C s H fp).Ok := by
  have sub : ∀ x c, (closL scope.names X.env.cells []).lookup x = some c → X.env.cells.lookup x = some c := fun x c h => closL_sub (fun y d q => by simp at q) h
  have hs := relabel_eq (scope := scope) hp
  exact {
    mod := I.ok.mod
    kind := S.kind
    glob := I.ok.glob
    blt := I.ok.blt
    above := hC
    inj := fun x y c h1 h2 => I.ok.inj x y c (sub x c h1) (sub y c h2)
    has := fun x h => by
      have h' : (relabel scope X.env).names.lookup x = some .cell ∨ (relabel scope X.env).names.lookup x = some .free := h
      rw [hs] at h'
      have hf : scope.names.lookup x = some .free := by
        rcases relS_free h' with q | q
        · exact q
        · exact absurd rfl (S.cell _ (look_mem q))
      have hm := look_mem hf
      have hk := S.free _ hm rfl
      rw [← hp] at hk
      obtain ⟨c, hc⟩ := I.ok.has x hk
      exact ⟨c, closL_has (fun y d q => by simp at q) hc (.inl hm)⟩
    cab := fun x c h => by cases h
    hd := I.ok.hd
    frames := I.ok.frames
    stk := .inl rfl
    exf := fun b hb => ⟨fun e => absurd (hlt b hb) (Nat.not_lt.mpr (by rw [e]; exact hC)), fun x c h => (hfp b hb).2.2.2.2.1 x c (sub x c h)⟩
    bs := I.bs
    bsz := Nat.le_trans I.ok.bsz I.sz
    noex := fun b o e hb => by
      rcases (hfp b hb).2.2.2.1 with h | h
      · exact I.ok.noex b o e h
      · exact absurd (Heap.lt_size e) (Nat.not_lt.mpr (Nat.le_trans I.ok.bsz h))
    exfs := fun b hb q => by
      rcases List.mem_cons.mp (I.stkSub b q) with h | h
      · exact (hfp b hb).2.1 h
      · exact (hfp b hb).2.2.1 h
    funs := I.stack
    frf := I.stkFree }
end
section
variable {X : Cx} {pins : List (Addr × Obj)} {σ : St} {H : Hp} {s : Shared}
theorem comp_start {psc scope : Scope} {own frn : List Str} {fr : List Nat} {C : Addr} {fp : List Addr} {h1 : Heap} {tk : Nat} {m : Str → Option Value} (S : CpScope psc scope own frn) (hp : X.env.scope = psc) (I : Inv X pins σ H s)
    (hfr : fr.map (fun j => X.N[j]?) = frn.map some) (hfp : ∀ b ∈ fp, FpOk X pins H b) (hlt : ∀ b ∈ fp, b < s.heap.objs.size) (hC : s.heap.objs.size ≤ C) (hn : h1.Ns C m) (kp : ∀ b o, s.heap.get? b = some o → h1.get? b = some o) :
    Inv (cxComp X (own ++ frn) scope C s H fp) [] (compSt own fr σ) H { s with heap := h1, toks := tk } := by
  have sub : ∀ x c, (closL scope.names X.env.cells []).lookup x = some c → X.env.cells.lookup x = some c := fun x c h => closL_sub (fun y d q => by simp at q) h
  have hlen : fr.length = frn.length := by
    have := congrArg List.length hfr
    simpa using this
  exact {
    ok := comp_ok S hp I hfp hlt hC
    os := rfl
    bare := I.bare
    base := Un.kept kp
    loc := by
      refine ⟨m, hn, fun i x v hi hv _ => ?_⟩
      have hi' : (own ++ frn)[i]? = some x := hi
      have hv' : (own.map (fun _ => (none : Option V)) ++ fr.map fun j => (σ[j]?).getD none)[i]? = some (some v) := hv
      by_cases hlo : i < own.length
      · rw [List.getElem?_append_left (by simpa using hlo), List.getElem?_map, List.getElem?_eq_getElem hlo] at hv'
        cases hv'
      · have hle : own.length ≤ i := Nat.le_of_not_lt hlo
        rw [List.getElem?_append_right hle] at hi'
        rw [List.getElem?_append_right (by simpa using hle), List.length_map, List.getElem?_map] at hv'
        generalize hk : i - own.length = k at hi' hv'
        cases hj : fr[k]? with
        | none => rw [hj] at hv'; cases hv'
        | some j =>
          rw [hj] at hv'
          have hv2 : (σ[j]?).getD none = some v := Option.some.inj hv'
          have hσ : σ[j]? = some (some v) := by
            cases e : σ[j]? with
            | none => rw [e] at hv2; cases hv2
            | some z => rw [e] at hv2; exact congrArg some hv2
          have hN : X.N[j]? = some x := by
            have q := congrArg (fun l => l[k]?) hfr
            have q' : (fr.map (fun j => X.N[j]?))[k]? = (frn.map some)[k]? := q
            rw [List.getElem?_map, List.getElem?_map, hj, hi'] at q'
            exact Option.some.inj q'
          have hx : x ∈ frn := List.mem_of_getElem? hi'
          have hf := S.frn x hx
          have hm := look_mem hf
          have hkd := S.free _ hm rfl
          rw [← hp] at hkd
          have hvis : Vis X.env.scope x := by
            rcases hkd with q | q
            · exact .inr (.inl q)
            · exact .inr (.inr q)
          obtain ⟨m0, hn0, hl0⟩ := I.loc
          obtain ⟨u, ru, hlk⟩ := hl0 j x v hN hσ hvis
          refine ⟨u, ru, ?_⟩
          have hkd' : X.env.kindOf x = some .cell ∨ X.env.kindOf x = some .free := hkd
          rcases hlk with ⟨q, _⟩ | ⟨_, c, hc, hcell⟩
          · rcases hkd' with z | z <;> (rw [q] at z; cases z)
          · refine .inr ⟨?_, c, closL_has (fun y d q => by simp at q) hc (.inl hm), hcell.keeps kp⟩
            obtain ⟨k', h1', h2'⟩ := relS_look (psc := psc) hf
            have h3 : Env.kindOf (compEnvC scope (closL scope.names X.env.cells []) C X.env) x = some k' := by
              show (relabel scope X.env).names.lookup x = some k'
              rw [relabel_eq hp]
              exact h1'
            rcases h2' with e | ⟨_, e⟩
            · right; rw [e] at h3; exact h3
            · left; rw [e] at h3; exact h3
    cell := fun x c h => by
      obtain ⟨v, hv⟩ := I.cell x c (sub x c h)
      exact ⟨v, hv.keeps kp⟩
    free := I.hok.fresh hC
    freeC := fun x c h => I.freeC x c (sub x c h)
    pin := fun p hp' => by cases hp'
    hok := I.hok.kept kp
    len := by
      show (own.map (fun _ => (none : Option V)) ++ fr.map fun j => (σ[j]?).getD none).length = (own ++ frn).length
      simp [hlen] }
end
section
variable {prog : Program} {w : World} {A : Around} {R : Result → Shared → Prop} {s : Shared}
theorem comp_loop {elt tg iter : Expr} {ifs : List Expr} {scope : Scope} {pos : Pos} {it acc : Value} {env : Env} (J : Nat → Shared → Prop)
    (turn : ∀ n s, J n s → wpAny (model prog w) A (pyNext it) (fun r s1 => match r with
      | none => R (.ok .next) s1
      | some v => wpAny (model prog w) A (letOwnedTupleGo tg it v) (fun _ s2 => wpAny (model prog w) A (assign tg env v) (fun _ s3 =>
          wpAny (model prog w) A (forIn ifs true fun c r => if r = true then do let ok ← isTrue c env (eval c env); pure (ForInStep.yield ok) else pure (ForInStep.yield r)) (fun ok s4 =>
            if ok = true then wpAny (model prog w) A (eval elt env) (fun x s5 => wpAny (model prog w) A (call (.builtin "list.append") [acc, x]) (fun _ s6 => ∃ m, m < n ∧ J m s6) (fun _ _ => False) s5) (fun _ _ => False) s4
            else ∃ m, m < n ∧ J m s4) (fun _ _ => False) s3) (fun _ _ => False) s2) (fun _ _ => False) s1) (fun _ _ => False) s)
    (n : Nat) (h : J n s) : codeAny (model prog w) A (.compLoop (.ListComp elt [⟨tg, iter, ifs, 0⟩] scope pos) 0 it acc env) R s := by
  refine codeAny_loop rfl J (fun n s hJ => ?_) n h
  show wpAny (model prog w) A ((compTurn (.ListComp elt [⟨tg, iter, ifs, 0⟩] scope pos) 0 it acc env).onRaise (fun x => do noteFrame x env; theTreesLotGoes x)) _ _ s
  refine wpAny_noted ?_
  rw [compTurn_list]
  refine wpAny_bind (wpAny_standAt (wpAny_bind (wpAny_mono (turn n s hJ) (fun r s1 h1 => ?_) fun _ _ f => f.elim)))
  cases r with
  | none => exact wpAny_pure h1
  | some v =>
    refine wpAny_bind (wpAny_mono h1 (fun _ s2 h2 => ?_) fun _ _ f => f.elim)
    refine wpAny_bind (wpAny_mono h2 (fun _ s3 h3 => wpAny_bind (wpAny_mono h3 (fun ok s4 h4 => ?_) fun _ _ f => f.elim)) fun _ _ f => f.elim)
    cases ok with
    | false => exact wpAny_pure ⟨rfl, h4⟩
    | true => exact wpAny_bind (wpAny_bind (wpAny_mono h4 (fun x s5 h5 => wpAny_bind (wpAny_mono h5 (fun _ s6 h6 => wpAny_pure (wpAny_pure ⟨rfl, h6⟩)) fun _ _ f => f.elim)) fun _ _ f => f.elim))
end
def tTrue : TT := fun _ H Q => Q true H
def PIf (X : Cx) (ifs : List Expr) (t : TT) : Prop :=
  ∀ (pins : List (Addr × Obj)) (s : Shared) (σ : St) (H : Hp) (Q : Bool → Hp → Prop), Inv X pins σ H s → t σ H Q →
    wpAny (model X.prog X.w) X.A (forIn ifs true fun c r => if r = true then do let ok ← isTrue c X.env (eval c X.env); pure (ForInStep.yield ok) else pure (ForInStep.yield r)) (TP X pins σ Q) X.xe s
theorem pif_nil {X : Cx} : PIf X [] tTrue := fun _ _ _ H _ I h => wpAny_tests_nil ⟨H, I, h⟩
theorem pif_one {X : Cx} {c : Expr} {t : TT} (h : PT X c t) : PIf X [c] t := fun pins s σ H Q I q => wpAny_tests_one (h pins s σ H Q I q)
def CompW (J : It) (g : TG) (tt : TT) (te : TE) (own : List Str) (fr : List Nat) (σ : St) (H : Hp) (Q : VK) : Prop :=
  ∃ W : Nat → Nat → List V → Hp → Prop, (∃ m, W 0 m [] H) ∧ ∀ i m ys H2, W i m ys H2 →
    (J.stop i H2 ∧ ys.length ≤ sizeLine ∧ ∀ p, H2 p = none → Q (.ref p) (upd H2 p (.lst ys))) ∨
    (J.go i H2 ∧ ys.length < sizeLine ∧ ∀ x H3, J.yld i H2 x H3 → g x (compSt own fr σ) H3 fun σ4 H4 => tt σ4 H4 fun b H5 =>
      if b = true then te σ4 H5 fun y H6 => ∃ m', m' < m ∧ W (i + 1) m' (ys ++ [y]) H6 else ∃ m', m' < m ∧ W (i + 1) m' ys H5)
def tComp (wi : TI) (g : TG) (tt : TT) (te : TE) (own : List Str) (fr : List Nat) : TE := fun σ H Q => wi σ H fun J H1 => CompW J g tt te own fr σ H1 Q
def GOwn (n : Nat) (g : TG) : Prop := ∀ x σ H Q, g x σ H Q → g x σ H fun σ' H' => (σ'.length = σ.length ∧ ∀ j, n ≤ j → σ'[j]? = σ[j]?) ∧ Q σ' H'
def GsOwn (n : Nat) (g : TGs) : Prop := ∀ xs σ H Q, g xs σ H Q → g xs σ H fun σ' H' => (σ'.length = σ.length ∧ ∀ j, n ≤ j → σ'[j]? = σ[j]?) ∧ Q σ' H'
theorem go_name {n i : Nat} (h : i < n) : GOwn n (gName i) := fun x σ H Q q =>
  ⟨⟨List.length_set, fun j hj => List.getElem?_set_ne (by omega)⟩, q⟩
theorem gos_nil {n : Nat} : GsOwn n gNil := fun xs σ H Q ⟨e, q⟩ => ⟨e, ⟨rfl, fun _ _ => rfl⟩, q⟩
def GMono (g : TG) : Prop := ∀ x σ H (Q Q' : St → Hp → Prop), (∀ σ' H', Q σ' H' → Q' σ' H') → g x σ H Q → g x σ H Q'
def GsMono (g : TGs) : Prop := ∀ xs σ H (Q Q' : St → Hp → Prop), (∀ σ' H', Q σ' H' → Q' σ' H') → g xs σ H Q → g xs σ H Q'
theorem gm_name {i : Nat} : GMono (gName i) := fun x σ H Q Q' h q => h _ _ q
theorem gms_nil : GsMono gNil := fun xs σ H Q Q' h ⟨e, q⟩ => ⟨e, h _ _ q⟩
theorem gms_cons {g : TG} {gs : TGs} (h1 : GMono g) (h2 : GsMono gs) : GsMono (gCons g gs) := fun xs σ H Q Q' h ⟨v, r, e, q⟩ =>
  ⟨v, r, e, h1 _ _ _ _ _ (fun σ' H' z => h2 _ _ _ _ _ h z) q⟩
theorem gos_cons {n : Nat} {g : TG} {gs : TGs} (h1 : GOwn n g) (m1 : GMono g) (h2 : GsOwn n gs) (m2 : GsMono gs) : GsOwn n (gCons g gs) := fun xs σ H Q ⟨v, r, e, q⟩ => by
  refine ⟨v, r, e, m1 _ _ _ _ _ (fun σ' H' z => ?_) (h1 _ _ _ _ q)⟩
  obtain ⟨⟨l1, k1⟩, z⟩ := z
  refine m2 _ _ _ _ _ (fun σ2 H2 z2 => ?_) (h2 _ _ _ _ z)
  obtain ⟨⟨l2, k2⟩, z2⟩ := z2
  exact ⟨⟨l2.trans l1, fun j hj => (k2 j hj).trans (k1 j hj)⟩, z2⟩
theorem go_tup {n k : Nat} {K : PySem.W.Frag} {gs : TGs} (h : GsOwn n gs) : GOwn n (gTup K k gs) := fun x σ H Q ⟨a, xs, e, hq, hl, q⟩ => ⟨a, xs, e, hq, hl, h _ _ _ _ q⟩
structure TurnC (cond : Cx → Prop) (P : Program) (w : World) (K : PySem.W.Frag) (tg : Expr) (J : It) (fp : List Addr) (it : Addr) (tn : Nat → Heap → Prop) : Prop where
  mem : it ∈ fp
  obj : ∀ i h, tn i h → ∀ b ∈ fp, ∃ o, h.get? b = some o ∧ ∀ v, o.data ≠ .cell v
  keep : ∀ i h h', tn i h → (∀ b ∈ fp, ∀ o, h.get? b = some o → h'.get? b = some o) → tn i h'
  item : ∀ (X : Cx), X.prog = P → X.w = w → X.K = K → cond X → ∀ (i : Nat) (pins : List (Addr × Obj)) (s : Shared) (σ : St) (H : Hp) (E : Value → Shared → Prop), Inv X pins σ H s → (∀ b ∈ fp, FpOk X pins H b) → tn i s.heap → J.go i H →
    wpAny (model P w) X.A (pyNext (.ref it)) (fun r s1 => ∃ u, r = some u ∧
      wpAny (model P w) X.A (letOwnedTupleGo tg (.ref it) u) (fun _ s2 => ∃ x H', Inv X pins σ H' s2 ∧ RelV x u ∧ J.yld i H x H' ∧ tn (i + 1) s2.heap ∧ ∀ b ∈ fp, H' b = none) E s1) E s
  done : ∀ (X : Cx), X.prog = P → X.w = w → X.K = K → cond X → ∀ (i : Nat) (pins : List (Addr × Obj)) (s : Shared) (σ : St) (H : Hp) (E : Value → Shared → Prop), Inv X pins σ H s → (∀ b ∈ fp, FpOk X pins H b) → tn i s.heap → J.stop i H →
    wpAny (model P w) X.A (pyNext (.ref it)) (fun r s1 => r = none ∧ Inv X pins σ H s1) E s
  self : ∀ (A : Around) (i : Nat) (s : Shared) (Q : Value → Shared → Prop) (E : Value → Shared → Prop), tn i s.heap → Q (.ref it) s → wpAny (model P w) A (pyIter (.ref it)) Q E s
theorem Turn.c {P : Program} {w : World} {K : PySem.W.Frag} {tg : Expr} {J : It} {fp : List Addr} {it : Addr} {tn : Nat → Heap → Prop} (T : Turn P w K tg J fp it tn) : TurnC (fun X => X.calm = true) P w K tg J fp it tn := ⟨T.mem, T.obj, T.keep, T.item, T.done, T.self⟩
def PIC (cond : Cx → Prop) (X : Cx) (tg iter : Expr) (wi : TI) : Prop :=
  ∀ (pins : List (Addr × Obj)) (s : Shared) (σ : St) (H : Hp) (R : It → Hp → Prop), Inv X pins σ H s → wi σ H R →
    wpAny (model X.prog X.w) X.A (eval iter X.env) (fun v s1 => wpAny (model X.prog X.w) X.A (pyIter v) (fun itv s2 =>
      ∃ (it : Addr) (fp : List Addr) (tn : Nat → Heap → Prop) (J : It) (H' : Hp), itv = .ref it ∧ Inv X pins σ H' s2 ∧ TurnC cond X.prog X.w X.K tg J fp it tn ∧ tn 0 s2.heap ∧ (∀ b ∈ fp, FpOk X pins H' b) ∧ R J H') X.xe s1) X.xe s
theorem PI.c {X : Cx} {tg iter : Expr} {wi : TI} (h : PI X tg iter wi) : PIC (fun X => X.calm = true) X tg iter wi := fun pins s σ H R I q =>
  thn (h pins s σ H R I q) fun v s1 h1 => thn h1 fun itv s2 ⟨it, fp, tn, J, H', e, I', T, a, b, c⟩ => ⟨it, fp, tn, J, H', e, I', T.c, a, b, c⟩
def accObj (its : List Value) (n : Nat) : Obj := { cls := .type "list", data := .seq its.toArray n }
section
variable {X : Cx} {pins : List (Addr × Obj)} {σ : St} {H : Hp} {s : Shared}
theorem comp_run {scope : Scope} {own frn : List Str} {fr : List Nat} {C D it : Addr} {fp : List Addr} {tg elt iter : Expr} {ifs : List Expr} {pos : Pos} {tn : Nat → Heap → Prop} {J : It} {g : TG} {tt : TT} {te : TE} {Q : VK} {s4 : Shared} {W : Nat → Nat → List V → Hp → Prop} {m0 : Nat} {R : Result → Shared → Prop} {cond : Cx → Prop}
    (hc : cond (cxComp X (own ++ frn) scope C s H fp)) (go : GOwn own.length g) (T : TurnC cond X.prog X.w X.K tg J fp it tn) (hD : s.heap.objs.size ≤ D) (hDC : D ≠ C) (hDf : D ∉ fp)
    (hg : PG (cxComp X (own ++ frn) scope C s H fp) tg g) (ht : PIf (cxComp X (own ++ frn) scope C s H fp) ifs tt) (he : PE (cxComp X (own ++ frn) scope C s H fp) elt te)
    (I : Inv (cxComp X (own ++ frn) scope C s H fp) [] (compSt own fr σ) H s4) (st : tn 0 s4.heap) (hfp : ∀ b ∈ fp, FpOk (cxComp X (own ++ frn) scope C s H fp) [] H b) (hacc : s4.heap.get? D = some (accObj [] 0)) (hDn : H D = none)
    (w0 : W 0 m0 [] H) (turn : ∀ i m ys H2, W i m ys H2 →
      (J.stop i H2 ∧ ys.length ≤ sizeLine ∧ ∀ p, H2 p = none → Q (.ref p) (upd H2 p (.lst ys))) ∨
      (J.go i H2 ∧ ys.length < sizeLine ∧ ∀ x H3, J.yld i H2 x H3 → g x (compSt own fr σ) H3 fun σ4 H4 => tt σ4 H4 fun b H5 =>
        if b = true then te σ4 H5 fun y H6 => ∃ m', m' < m ∧ W (i + 1) m' (ys ++ [y]) H6 else ∃ m', m' < m ∧ W (i + 1) m' ys H5))
    (fin : ∀ s5 H5 ys its n σ5, Inv (cxComp X (own ++ frn) scope C s H fp) [] σ5 H5 s5 → s5.heap.get? D = some (accObj its n) → Vals ys its → ys.length ≤ sizeLine → H5 D = none → Q (.ref D) (upd H5 D (.lst ys)) → R (.ok .next) s5) :
    codeAny (model X.prog X.w) X.A (.compLoop (.ListComp elt [⟨tg, iter, ifs, 0⟩] scope pos) 0 (.ref it) (.ref D) (compEnvC scope (closL scope.names X.env.cells []) C X.env)) R s4 := by
  have stat : ∀ {H' : Hp} {pl : List (Addr × Obj)}, (∀ b ∈ fp, H' b = none) → (∀ p ∈ pl, p.1 ∉ fp) → ∀ b ∈ fp, FpOk (cxComp X (own ++ frn) scope C s H fp) pl H' b := fun {H' pl} hn hpl b hb => by
    obtain ⟨_, f1, f2, f3, f4, _⟩ := hfp b hb
    refine ⟨hn b hb, f1, f2, f3, f4, fun p hp z => ?_⟩
    have hp' : p ∈ pl := hp
    exact hpl p hp' (by rw [z]; exact hb)
  refine comp_loop (env := compEnvC scope (closL scope.names X.env.cells []) C X.env) (fun n s' => ∃ i ys H' its k, Inv (cxComp X (own ++ frn) scope C s H fp) [] (compSt own fr σ) H' s' ∧ tn i s'.heap ∧ (∀ b ∈ fp, H' b = none) ∧ s'.heap.get? D = some (accObj its k) ∧ H' D = none ∧ Vals ys its ∧ W i n ys H') ?_ m0
    ⟨0, [], H, [], 0, I, st, fun b hb => (hfp b hb).1, hacc, hDn, .nil, w0⟩
  rintro n s3 ⟨i, ys, H3, its, k, I3, st3, fr3, ha3, hD3, rv3, w3⟩
  have hne : ∀ p ∈ [(D, accObj its k)], p.1 ∉ fp := fun p hp => by
    rcases List.mem_singleton.mp hp with rfl
    exact hDf
  have hnofs : D ∉ (cxComp X (own ++ frn) scope C s H fp).fs := fun hb => by
    obtain ⟨_, o, ho, _⟩ := I3.ok.funs.mem hb
    exact absurd (Heap.lt_size ho) (Nat.not_lt.mpr hD)
  have I3p : Inv (cxComp X (own ++ frn) scope C s H fp) [(D, accObj its k)] (compSt own fr σ) H3 s3 := I3.pins_of fun p hp => by
    rcases List.mem_singleton.mp hp with rfl
    exact ⟨ha3, hD3, hDC, hnofs, fun v z => by cases z⟩
  have back : ∀ {σ' : St}, (σ'.length = (compSt own fr σ).length ∧ ∀ j, own.length ≤ j → σ'[j]? = (compSt own fr σ)[j]?) → ∀ (j : Nat) v, (compSt own fr σ)[j]? = some (some v) → σ'[j]? = some (some v) := fun {σ'} h j v e => by
    by_cases hj : j < own.length
    · unfold compSt at e
      rw [List.getElem?_append_left (by simpa using hj), List.getElem?_map, List.getElem?_eq_getElem hj] at e
      cases e
    · rw [h.2 j (Nat.le_of_not_lt hj)]
      exact e
  rcases turn i n ys H3 w3 with ⟨stop, hz, q⟩ | ⟨hgo, hz, step⟩
  · refine thn (T.done (cxComp X (own ++ frn) scope C s H fp) rfl rfl rfl hc i _ s3 _ H3 _ I3p (stat fr3 hne) st3 stop) fun r s4 ⟨hr, I4⟩ => ?_
    subst hr
    exact fin s4 H3 ys its k _ (I4.pins_of fun p hp => by cases hp) (I4.pin (D, accObj its k) (List.mem_append_right _ List.mem_cons_self)).1 rv3 hz hD3 (q D hD3)
  · refine thn (T.item (cxComp X (own ++ frn) scope C s H fp) rfl rfl rfl hc i _ s3 _ H3 _ I3p (stat fr3 hne) st3 hgo) fun r s4 ⟨u, hr, h4⟩ => ?_
    subst hr
    refine thn h4 fun _ s5 ⟨x, H5, I5, r5, y5, st5, fr5⟩ => ?_
    have I5' := I5.pinned (stat fr5 hne) (T.obj _ _ st5)
    have pinD : ∀ {σ' : St} {H' : Hp} {s' : Shared}, Inv (cxComp X (own ++ frn) scope C s H fp) ([(D, accObj its k)] ++ pinsAt fp s5.heap) σ' H' s' → s'.heap.get? D = some (accObj its k) ∧ H' D = none ∧ tn (i + 1) s'.heap ∧ ∀ b ∈ fp, H' b = none := fun {σ' H' s'} I' => by
      have p1 := I'.pin (D, accObj its k) (List.mem_append_right _ (List.mem_append_left _ List.mem_cons_self))
      refine ⟨p1.1, p1.2.1, T.keep _ _ _ st5 fun b hb o e => (I'.pin (b, o) (List.mem_append_right _ (List.mem_append_right _ (mem_pinsAt hb e)))).1, fun b hb => ?_⟩
      obtain ⟨o, e, d⟩ := T.obj _ _ st5 b hb
      exact (I'.pin (b, o) (List.mem_append_right _ (List.mem_append_right _ (mem_pinsAt hb e)))).2.1
    refine thn (hg _ s5 _ H5 x u _ I5' r5 (go _ _ _ _ (step x H5 y5))) fun _ s6 ⟨σ6, H6, I6, hk6, q6⟩ => ?_
    refine thn (ht _ s6 σ6 H6 _ I6 q6) fun b s7 ⟨H7, I7, q7⟩ => ?_
    cases b with
    | false =>
      rw [if_neg Bool.false_ne_true] at q7 ⊢
      obtain ⟨m', hm, w7⟩ := q7
      obtain ⟨a7, d7, t7, f7⟩ := pinD I7
      exact ⟨m', hm, i + 1, ys, H7, its, k, (I7.weak hk6.1.symm (back hk6)).pins_of (fun p hp => by cases hp), t7, f7, a7, d7, rv3, w7⟩
    | true =>
      rw [if_pos rfl] at q7 ⊢
      refine thn (he _ s7 σ6 H7 _ I7 q7) fun v s8 ⟨y, H8, I8, r8, m', hm, w8⟩ => ?_
      obtain ⟨a8, d8, t8, f8⟩ := pinD I8
      refine call_meets F.slot_list_append ⟨_, a8, rfl⟩ F.entry_list_append (F.args_list_append_2 _ _) (PySem.list_append D its.toArray k v (by rw [List.size_toArray, ← rv3.length]; omega)) ⟨a8, ?_⟩
      obtain ⟨n9, q9⟩ : ∃ n9, (s8.heap.update D (Obj.mapSeq (·.push v))).get? D = some (accObj (its ++ [v]) n9) := by
        have q9 := PySem.IsL.update a8 (·.push v)
        have e10 : (its.toArray.push v) = (its ++ [v]).toArray := by simp
        rw [e10] at q9
        exact ⟨_, q9⟩
      have e9 : ∀ b o, b ≠ D → s8.heap.get? b = some o → (s8.heap.update D (Obj.mapSeq (·.push v))).get? b = some o := fun b o hb e => (Heap.get?_update_other s8.heap (Obj.mapSeq (·.push v)) (Ne.symm hb)).trans e
      have I8' : Inv (cxComp X (own ++ frn) scope C s H fp) [] (compSt own fr σ) H8 s8 := (I8.weak hk6.1.symm (back hk6)).pins_of fun p hp => by cases hp
      refine ⟨m', hm, i + 1, ys ++ [y], H8, its ++ [v], n9, I8'.turned (t' := s8.toks) e9 d8 hDC (.inr hD) (fun z c hc' e => ?_) (fun p hp => by cases hp), T.keep _ _ _ t8 fun b hb o e => e9 b o (fun z => hDf (by rw [← z]; exact hb)) e, f8, q9, d8, rv3.append (.cons r8 .nil), w8⟩
      obtain ⟨v', o, ho, hd⟩ := I8'.cell z c hc'
      rw [e, a8] at ho
      cases ho
      cases hd
end
section
variable {X : Cx} {pins : List (Addr × Obj)} {σ : St} {H : Hp} {s : Shared}
theorem comp_back {N' : List Str} {scope : Scope} {C D : Addr} {fp : List Addr} {H5 : Hp} {s5 : Shared} {σ5 : St} {ys : List V} {its : List Value} {n : Nat} {h' : Heap} (I : Inv X pins σ H s) (hfp : ∀ b ∈ fp, FpOk X pins H b) (hC : s.heap.objs.size ≤ C) (hD : s.heap.objs.size ≤ D) (hDC : D ≠ C)
    (I5 : Inv (cxComp X N' scope C s H fp) [] σ5 H5 s5) (ha : s5.heap.get? D = some (accObj its n)) (rv : Vals ys its) (hz : ys.length ≤ sizeLine) (hDn : H5 D = none) (sb : Heap.SameBut C s5.heap h') :
    Inv X pins σ (upd H5 D (.lst ys)) { s5 with heap := h' } := by
  have u5 : Un (frs X.stack) fp H H5 s.heap s5.heap := I5.base
  have nC : ∀ b o, s.heap.get? b = some o → b ≠ C := fun b o e z => absurd (Heap.lt_size e) (Nat.not_lt.mpr (by rw [z]; exact hC))
  have nD : ∀ b o, s.heap.get? b = some o → b ≠ D := fun b o e z => absurd (Heap.lt_size e) (Nat.not_lt.mpr (by rw [z]; exact hD))
  have tD : ∀ b o, H5 b = some o → b ≠ D := fun b o e z => by rw [z, hDn] at e; cases e
  have fC : H5 C = none := I5.free
  refine I.call' (ch := fp) (H' := upd H5 D (.lst ys)) I5.os ?_ ?_ I5.bare fun b hb => ⟨(hfp b hb).2.2.2.1, (hfp b hb).2.1, fun x c hc => (hfp b hb).2.2.2.2.1 x c hc, (hfp b hb).2.2.2.2.2⟩
  · exact {
      keep := fun b o e h1 h2 h3 => sb.extBut b o (nC b o e) (u5.keep b o e h1 h2 h3)
      slot := fun b o e h1 h2 h3 => by
        obtain ⟨sl, q⟩ := u5.slot b o e h1 h2 h3
        exact ⟨sl, sb.extBut b _ (nC b o e) q⟩
      free := fun b o e h1 h3 => by
        rw [upd_ne (nD b o e)]
        exact u5.free b o e h1 h3
      there := fun b o e h3 => by
        obtain ⟨o', q⟩ := u5.there b o e h3
        exact ⟨o', sb.extBut b _ (nC b o e) q⟩
      tups := fun b xs e => by
        have q := u5.tups b xs e
        rw [upd_ne (tD b _ q)]
        exact q
      frzs := fun b o u e => by
        have q := u5.frzs b o u e
        rw [upd_ne (tD b _ q)]
        exact q
      tbls := fun b ps e => by
        obtain ⟨more, q⟩ := u5.tbls b ps e
        refine ⟨more, ?_⟩
        rw [upd_ne (tD b _ q)]
        exact q }
  · intro a o e
    by_cases hd : a = D
    · subst hd
      rw [upd_same] at e
      cases e
      exact ⟨hz, its, n, rv, sb.extBut a _ hDC ha⟩
    · rw [upd_ne hd] at e
      refine (I5.hok a o e).stay (fun b u hb q => sb.extBut b u (fun z => ?_) q) (fun b hb => by rw [upd_ne (tD b _ hb)]; exact hb) (fun b xs hb => by rw [upd_ne (tD b _ hb)]; exact hb)
      rcases hb with hb | hb
      · rw [z] at hb
        rw [← hb, fC] at e
        cases e
      · rw [z, fC] at hb
        cases hb
theorem comp_core {psc scope : Scope} {own frn : List Str} {fr : List Nat} {tg elt iter : Expr} {ifs : List Expr} {pos : Pos} {wi : TI} {g : TG} {tt : TT} {te : TE} {Q : VK} {RR : Value → Addr → Result → Shared → Prop} {cond : Cx → Prop} (S : CpScope psc scope own frn) (hp : X.env.scope = psc) (hfr : fr.map (fun j => X.N[j]?) = frn.map some)
    (hc : ∀ C s2 H2 fp, cond (cxComp X (own ++ frn) scope C s2 H2 fp)) (go : GOwn own.length g) (hi : PIC cond X tg iter wi)
    (hb : ∀ C s2 H2 fp, PG (cxComp X (own ++ frn) scope C s2 H2 fp) tg g ∧ PIf (cxComp X (own ++ frn) scope C s2 H2 fp) ifs tt ∧ PE (cxComp X (own ++ frn) scope C s2 H2 fp) elt te)
    (I : Inv X pins σ H s) (h : tComp wi g tt te own fr σ H Q)
    (fin : ∀ C D s5 H6 m, Inv X pins σ H6 s5 → (∀ h', Heap.SameBut C s5.heap h' → Inv X pins σ H6 { s5 with heap := h' }) → s5.heap.Ns C m → H6 C = none → C ≠ X.env.locals → X.s₀.heap.objs.size ≤ C → (∀ x c, X.env.cells.lookup x = some c → c ≠ C) → (∀ p ∈ X.pn ++ pins, p.1 ≠ C) → Q (.ref D) H6 → RR (.ref D) C (.ok .next) s5) :
    wpAny (model X.prog X.w) X.A (eval iter X.env) (fun x s₁ => wpAny (model X.prog X.w) X.A (pyIter x) (fun it s₂ => wpAny (model X.prog X.w) X.A (newList []) (fun acc s₃ => wpAny (model X.prog X.w) X.A (newFunctionEnv scope X.env.globals (closL scope.names X.env.cells []) [] X.env.qual none .none (some X.env)) (fun cenv s₄ =>
      codeAny (model X.prog X.w) X.A (.compStart (.ListComp elt [⟨tg, iter, ifs, 0⟩] scope pos) 0 it acc { cenv with scope := relabel scope X.env }) (RR acc cenv.locals) s₄) X.xe s₃) X.xe s₂) X.xe s₁) X.xe s := by
  refine thn (hi pins s σ H _ I h) fun v s1 h1 => thn h1 fun itv s2 h2 => ?_
  obtain ⟨it, fp, tn, J, H2, rfl, I2, T, st2, f2, W, ⟨m0, w0⟩, turn⟩ := h2
  refine wpAny_newObj_type (wpAny_newFunctionEnv S.cell (by intro y hy; simp at hy) (fun h1 hns1 hsb1 => ?_) S.kind)
  dsimp only at hns1 hsb1 ⊢
  generalize hH : s2.heap.push { cls := .type "list", dict := none, data := .seq ([] : List Value).toArray } = HH at hns1 hsb1 ⊢
  have hC : HH.objs.size = s2.heap.objs.size + 1 := by rw [← hH, Heap.size_push]
  have hDC : s2.heap.objs.size ≠ HH.objs.size := by rw [hC]; exact Nat.ne_of_lt (Nat.lt_succ_self _)
  have hCle : s2.heap.objs.size ≤ HH.objs.size := by rw [hC]; exact Nat.le_succ _
  have kp : ∀ b o, s2.heap.get? b = some o → h1.get? b = some o := fun b o e =>
    hsb1.extBut b o (fun z => absurd (Heap.lt_size e) (Nat.not_lt.mpr (by rw [z]; exact hCle))) (Heap.get?_push_of_some _ (hH ▸ Heap.get?_push_of_some _ e))
  have ha : h1.get? s2.heap.objs.size = some (accObj [] 0) := hsb1.extBut _ _ hDC (Heap.get?_push_of_some _ (hH ▸ Heap.get?_push_size _ rfl))
  have hlt : ∀ b ∈ fp, b < s2.heap.objs.size := fun b hb => by
    obtain ⟨o, e, _⟩ := T.obj _ _ st2 b hb
    exact Heap.lt_size e
  obtain ⟨b1, b2, b3⟩ := hb HH.objs.size s2 H2 fp
  have IS : ∀ tk, Inv (cxComp X (own ++ frn) scope HH.objs.size s2 H2 fp) [] (compSt own fr σ) H2 { s2 with heap := h1, toks := tk } := fun tk => comp_start S hp I2 hfr f2 hlt hCle hns1 kp
  have st3 : tn 0 h1 := T.keep _ _ _ st2 fun b _ o e => kp b o e
  have okc := comp_ok S hp I2 f2 hlt hCle
  have fp3 : ∀ b ∈ fp, FpOk (cxComp X (own ++ frn) scope HH.objs.size s2 H2 fp) [] H2 b := fun b hb => ⟨(f2 b hb).1, (okc.exf b hb).1, okc.exfs b hb, .inl hb, (okc.exf b hb).2, fun p hp' => by cases hp'⟩
  have loop : ∀ tk, codeAny (model X.prog X.w) X.A (.compLoop (.ListComp elt [⟨tg, iter, ifs, 0⟩] scope pos) 0 (.ref it) (.ref s2.heap.objs.size) (compEnvC scope (closL scope.names X.env.cells []) HH.objs.size X.env))
      (RR (.ref s2.heap.objs.size) HH.objs.size) { s2 with heap := h1, toks := tk } := fun tk => by
    refine comp_run (hc _ _ _ _) go T (Nat.le_refl _) hDC (fun z => absurd (hlt _ z) (Nat.lt_irrefl _)) b1 b2 b3 (IS tk) st3 fp3 ha I2.fresh w0 turn fun s5 H5 ys its n σ5 I5 a5 rv hz d5 q => ?_
    obtain ⟨m5, n5, _⟩ := I5.loc
    have fC := I2.fpOk (b := HH.objs.size) (H' := H2) hCle (I2.hok.fresh hCle)
    have f5 : H5 HH.objs.size = none := I5.free
    refine fin HH.objs.size _ s5 _ m5 (comp_back I2 f2 hCle (Nat.le_refl _) hDC I5 a5 rv hz d5 (.refl ..)) (fun h' sb => comp_back I2 f2 hCle (Nat.le_refl _) hDC I5 a5 rv hz d5 sb) n5 ?_ fC.2.1 (Nat.le_trans I2.sz hCle) fC.2.2.2.2.1 fC.2.2.2.2.2 q
    rw [upd_ne (Ne.symm hDC)]
    exact f5
  exact codeAny_compStart_list (loop _) (T.self _ _ _ _ _ st3 (loop _))
theorem pe_compC {cond : Cx → Prop} {psc scope : Scope} {own frn : List Str} {fr : List Nat} {tg elt iter : Expr} {ifs : List Expr} {pos : Pos} {wi : TI} {g : TG} {tt : TT} {te : TE} (S : CpScope psc scope own frn) (hp : X.env.scope = psc) (hfr : fr.map (fun j => X.N[j]?) = frn.map some)
    (hc : ∀ C s2 H2 fp, cond (cxComp X (own ++ frn) scope C s2 H2 fp)) (go : GOwn own.length g) (hi : PIC cond X tg iter wi)
    (hb : ∀ C s2 H2 fp, PG (cxComp X (own ++ frn) scope C s2 H2 fp) tg g ∧ PIf (cxComp X (own ++ frn) scope C s2 H2 fp) ifs tt ∧ PE (cxComp X (own ++ frn) scope C s2 H2 fp) elt te)
    (hs : ∀ x, foldedSetIterable iter X.env x = pure x := by intro _; rfl) : PE X (.ListComp elt [⟨tg, iter, ifs, 0⟩] scope pos) (tComp wi g tt te own fr) := by
  intro pins s σ H Q I h
  have hclos : closureFor scope X.env = pure (closL scope.names X.env.cells []) := closureFor_eq fun x hx hk => I.ok.has x.1 (by have := S.free x hx hk; rw [← hp] at this; exact this)
  rw [eval_ListComp]
  refine wpAny_comprehension_free (use := none) rfl hs hclos S.kind S.names (comp_core (RR := fun acc C => compPost (model X.prog X.w) X.A X.xe none (EP X pins σ Q) acc C) S hp hfr hc go hi hb I h ?_)
  intro C D s5 H6 m5 I5 I5' n5 _ _ _ _ _ q
  exact ⟨m5, n5, fun h' sb => ⟨.ref D, H6, I5' h' sb, rfl, q⟩⟩
theorem pe_comp {psc scope : Scope} {own frn : List Str} {fr : List Nat} {tg elt iter : Expr} {ifs : List Expr} {pos : Pos} {wi : TI} {g : TG} {tt : TT} {te : TE} (S : CpScope psc scope own frn) (hp : X.env.scope = psc) (hfr : fr.map (fun j => X.N[j]?) = frn.map some)
    (hc : X.calm = true) (go : GOwn own.length g) (hi : PI X tg iter wi)
    (hb : ∀ C s2 H2 fp, PG (cxComp X (own ++ frn) scope C s2 H2 fp) tg g ∧ PIf (cxComp X (own ++ frn) scope C s2 H2 fp) ifs tt ∧ PE (cxComp X (own ++ frn) scope C s2 H2 fp) elt te)
    (hs : ∀ x, foldedSetIterable iter X.env x = pure x := by intro _; rfl) : PE X (.ListComp elt [⟨tg, iter, ifs, 0⟩] scope pos) (tComp wi g tt te own fr) := pe_compC S hp hfr (fun _ _ _ _ => hc) go hi.c hb hs
end
end L2
set_option Elab.async false
set_option linter.all false
set_option maxRecDepth 100000
namespace L2
open PySem PySem.Spec PyProof.Rows
def Its (z : Str) : It := ⟨fun i _ => i < z.cps.size, fun i H x H' => H' = H ∧ ∃ c, z.cps[i]? = some c ∧ x = .str ⟨#[c]⟩, fun i _ => z.cps.size ≤ i⟩
theorem turn_strA {P : Program} {w : World} {K : PySem.W.Frag} {tg : Expr} (z : Str) (t : Tok) (it : Addr) : Turn P w K tg (Its z) [it] it (fun i h => h.IsStrIter it "str_ascii_iterator" z t i) where
  mem := by simp
  obj := fun i h ⟨o, e, c, d⟩ b hb => by
    rcases List.mem_singleton.mp hb with rfl
    exact ⟨o, e, fun v y => by rw [d] at y; cases y⟩
  keep := fun i h h' ⟨o, e, r⟩ k => ⟨o, k it (by simp) o e, r⟩
  item := by
    intro X hP hw hK hc i pins s σ H E I hf st hg
    subst hP hw hK
    obtain ⟨f0, f1, f2, f3, f4, f5⟩ := hf it (by simp)
    have hg : i < z.cps.size := hg
    refine wpAny_pyNext_ascii_item st (c := z.cps[i]'hg) (Array.getElem?_eq_getElem hg) fun h' st' sb => ?_
    have I1 : Inv X pins σ H { s with heap := h', toks := s.toks + 1 } := I.turned (fun b o hb e => (sb.2 b hb).trans e) f0 f1 f3 f4 f5
    obtain ⟨o, e, c, d⟩ := id st'
    exact ⟨_, rfl, go_of (s := { s with heap := h', toks := s.toks + 1 }) e c d (by decide) ⟨.str ⟨#[z.cps[i]'hg]⟩, H, I1, ⟨_, rfl⟩, ⟨rfl, _, Array.getElem?_eq_getElem hg, rfl⟩, st', fun b hb => (hf b hb).1⟩⟩
  done := by
    intro X hP hw hK hc i pins s σ H E I hf st hg
    subst hP hw hK
    obtain ⟨f0, f1, f2, f3, f4, f5⟩ := hf it (by simp)
    exact wpAny_pyNext_ascii_end (I.ok.hd hc) st (Array.getElem?_eq_none hg) fun h' eb => ⟨rfl, I.turned (t' := s.toks) (fun b o hb e => eb b o hb e) f0 f1 f3 f4 f5⟩
  self := fun _ _ _ _ _ st h => wpAny_pyIter_striter_ascii st h
theorem turn_strW {P : Program} {w : World} {K : PySem.W.Frag} {tg : Expr} (z : Str) (t : Tok) (it : Addr) : Turn P w K tg (Its z) [it] it (fun i h => h.IsStrIter it "str_iterator" z t i) where
  mem := by simp
  obj := fun i h ⟨o, e, c, d⟩ b hb => by
    rcases List.mem_singleton.mp hb with rfl
    exact ⟨o, e, fun v y => by rw [d] at y; cases y⟩
  keep := fun i h h' ⟨o, e, r⟩ k => ⟨o, k it (by simp) o e, r⟩
  item := by
    intro X hP hw hK hc i pins s σ H E I hf st hg
    subst hP hw hK
    obtain ⟨f0, f1, f2, f3, f4, f5⟩ := hf it (by simp)
    have hg : i < z.cps.size := hg
    refine wpAny_pyNext_wide_item st (c := z.cps[i]'hg) (Array.getElem?_eq_getElem hg) fun h' st' sb => ?_
    have I1 : Inv X pins σ H { s with heap := h', toks := s.toks + 1 } := I.turned (fun b o hb e => (sb.2 b hb).trans e) f0 f1 f3 f4 f5
    obtain ⟨o, e, c, d⟩ := id st'
    exact ⟨_, rfl, go_of (s := { s with heap := h', toks := s.toks + 1 }) e c d (by decide) ⟨.str ⟨#[z.cps[i]'hg]⟩, H, I1, ⟨_, rfl⟩, ⟨rfl, _, Array.getElem?_eq_getElem hg, rfl⟩, st', fun b hb => (hf b hb).1⟩⟩
  done := by
    intro X hP hw hK hc i pins s σ H E I hf st hg
    subst hP hw hK
    obtain ⟨f0, f1, f2, f3, f4, f5⟩ := hf it (by simp)
    exact wpAny_pyNext_wide_end (I.ok.hd hc) st (Array.getElem?_eq_none hg) fun h' eb => ⟨rfl, I.turned (t' := s.toks) (fun b o hb e => eb b o hb e) f0 f1 f3 f4 f5⟩
  self := fun _ _ _ _ _ st h => wpAny_pyIter_striter_wide st h
section
variable {X : Cx} {tg : Expr}
def iStr (tl : TE) : TI := fun σ H R => tl σ H fun x H1 => ∃ z, x = .str z ∧ R (Its z) H1
theorem pi_str {l : Expr} {tl : TE} (hl : PE X l tl) : PI X tg l (iStr tl) := by
  intro pins s σ H R I h
  refine thn (hl pins s σ H _ I h) fun v s1 ⟨x, H1, I1, r1, q1⟩ => ?_
  obtain ⟨z, rfl, q⟩ := q1
  obtain ⟨t, rfl⟩ := r1
  cases ha : z.cps.all (· < 128) with
  | true =>
    refine wpAny_pyIter_ascii ha ⟨_, [s1.heap.objs.size], _, Its z, H1, rfl, I1.kept (t' := s1.toks) fun b o e => Heap.get?_push_of_some _ e, turn_strA z t _, ⟨_, Heap.get?_push_size _ rfl, rfl, rfl⟩, fun b hb => ?_, q⟩
    rcases List.mem_singleton.mp hb with rfl
    exact I1.fpOk (Nat.le_refl _) I1.fresh
  | false =>
    refine wpAny_pyIter_wide ha ⟨_, [s1.heap.objs.size], _, Its z, H1, rfl, I1.kept (t' := s1.toks) fun b o e => Heap.get?_push_of_some _ e, turn_strW z t _, ⟨_, Heap.get?_push_size _ rfl, rfl, rfl⟩, fun b hb => ?_, q⟩
    rcases List.mem_singleton.mp hb with rfl
    exact I1.fpOk (Nat.le_refl _) I1.fresh
end
section
variable {X : Cx}
theorem op_le_str : OpR X (compareOp .LtE) (fun x y H Q => ∃ i j, x = .str i ∧ y = .str j ∧ Q (.bl (!decide (j.cps.toList < i.cps.toList))) H) := by
  intro pins s σ H x y v u Q I r1 r2 h
  obtain ⟨i, j, rfl, rfl, q⟩ := h
  obtain ⟨t, rfl⟩ := r1
  obtain ⟨t', rfl⟩ := r2
  exact PySem.P.le_str ⟨.bl _, H, I, rfl, q⟩
theorem truth_bools {prog : Program} {w : World} {A : Around} {its : List Value} {bs : List Bool} (r : Vals (bs.map V.bl) its) : TruthOf prog w A (fun i v => its.toArray[i]? = some v) (fun i => bs.getD i false) := by
  intro i v s Q E hv hq
  have hv' : its[i]? = some v := by simpa using hv
  have hb : i < bs.length := by
    have h1 := (List.getElem?_eq_some_iff.mp hv').1
    have h2 := r.length
    rw [List.length_map] at h2
    omega
  obtain ⟨u, e1, e2⟩ := r.get (i := i) (x := V.bl (bs.getD i false)) (by rw [List.getElem?_map, List.getD_eq_getElem?_getD, List.getElem?_eq_getElem hb]; rfl)
  rw [hv'] at e1
  cases e1
  have e3 : v = Value.bool (bs.getD i false) := e2
  rw [e3]
  exact wpAny_truthy_bool hq
theorem range_all (bs : List Bool) : (List.range bs.length).all (fun i => bs.getD i false) = bs.all id := by
  rw [Bool.eq_iff_iff, List.all_eq_true, List.all_eq_true]
  constructor
  · intro h x hx
    obtain ⟨i, hi, rfl⟩ := List.getElem_of_mem hx
    have := h i (List.mem_range.mpr hi)
    rwa [List.getD_eq_getElem?_getD, List.getElem?_eq_getElem hi] at this
  · intro h i hi
    have hi' := List.mem_range.mp hi
    rw [List.getD_eq_getElem?_getD, List.getElem?_eq_getElem hi']
    exact h _ (List.getElem_mem hi')
theorem call_all (hc : X.calm = true) : CallR X (.builtin "all") (fun xs H Q => ∃ (a : Addr) (bs : List Bool), xs = [.ref a] ∧ SqL X.K H a (bs.map V.bl) ∧ Q (.bl (bs.all id)) H) := by
  intro pins s σ H xs us Q I r h
  obtain ⟨a, bs, rfl, hq, q⟩ := h
  obtain ⟨u, rfl, ru⟩ := vals1 r
  cases ru
  obtain ⟨its, rv, p, hz⟩ := I.list hq
  have hlt : a < s.heap.objs.size := p.lt
  have hl : bs.length = its.toArray.size := by
    have := rv.length
    rw [List.length_map] at this
    simpa using this
  refine call_all_walk (wpAny_pyIter_list p.isList ⟨_, _, _, _, _, _, _, rfl, Walks.list (A := X.A.in1) (I.ok.hd hc) s.heap.objs.size a (Nat.ne_of_lt hlt) its.toArray,
    ⟨⟨_, Heap.get?_push_size _ rfl, rfl, rfl⟩, p.isList.at fun o e => Heap.get?_push_of_some _ e⟩, truth_bools rv, fun h' tk k => ?_⟩)
  rw [← hl, range_all]
  exact ⟨.bl _, H, I.kept (t' := tk) fun b o e => k b o (fun z => by
    rcases List.mem_singleton.mp z with rfl
    exact absurd (Heap.lt_size e) (Nat.lt_irrefl _)) (Heap.get?_push_of_some _ e), rfl, q⟩
def Isi (K : PySem.W.Frag) (x : V) (H : Hp) (T : String) (b : Bool) : Prop :=
  match x with
  | .int _ => (T = "int" ∧ b = true) ∨ (T ∈ ["bool", "str", "list", "tuple", "dict"] ∧ b = false)
  | .bl _ => (T ∈ ["int", "bool"] ∧ b = true) ∨ (T ∈ ["str", "list", "tuple", "dict"] ∧ b = false)
  | .str _ => (T = "str" ∧ b = true) ∨ (T ∈ ["int", "bool", "list", "tuple", "dict"] ∧ b = false)
  | .ref a => ((∃ xs, SqL K H a xs) ∧ ((T = "list" ∧ b = true) ∨ (T ∈ ["int", "bool", "str", "tuple", "dict"] ∧ b = false))) ∨
      ((∃ xs, SqT K H a xs) ∧ ((T = "tuple" ∧ b = true) ∨ (T ∈ ["int", "bool", "str", "list", "dict"] ∧ b = false)))
  | _ => False
theorem mem5 {T a b c d e : String} (h : T ∈ [a, b, c, d, e]) : T = a ∨ T = b ∨ T = c ∨ T = d ∨ T = e := by simpa using h
theorem mem4 {T a b c d : String} (h : T ∈ [a, b, c, d]) : T = a ∨ T = b ∨ T = c ∨ T = d := by simpa using h
theorem mem2 {T a b : String} (h : T ∈ [a, b]) : T = a ∨ T = b := by simpa using h
theorem call_isi : CallR X (.builtin "isinstance") (fun xs H Q => ∃ x T b, xs = [x, .ty T] ∧ Isi X.K x H T b ∧ Q (.bl b) H) := by
  intro pins s σ H xs us Q I r h
  obtain ⟨x, T, b, rfl, hi, q⟩ := h
  obtain ⟨u, u2, rfl, ru, ru2⟩ := vals2 r
  cases ru2
  have fin : ∀ tk, EP X pins σ Q (.bool b) { s with toks := tk } := fun tk => ⟨.bl b, H, I.tok tk, rfl, q⟩
  have fin0 : EP X pins σ Q (.bool b) s := ⟨.bl b, H, I, rfl, q⟩
  cases x with
  | int n =>
    obtain ⟨t, rfl⟩ := ru
    rcases hi with ⟨rfl, rfl⟩ | ⟨hm, rfl⟩
    · exact IsiPair.int_int fin0
    · rcases mem5 hm with rfl | rfl | rfl | rfl | rfl
      · exact IsiPair.int_bool (fin _)
      · exact IsiPair.int_str (fin _)
      · exact IsiPair.int_list (fin _)
      · exact IsiPair.int_tuple (fin _)
      · exact IsiPair.int_dict (fin _)
  | bl n =>
    cases ru
    rcases hi with ⟨hm, rfl⟩ | ⟨hm, rfl⟩
    · rcases mem2 hm with rfl | rfl
      · first | exact IsiPair.bool_int fin0 | exact IsiPair.bool_int (fin _)
      · exact IsiPair.bool_bool fin0
    · rcases mem4 hm with rfl | rfl | rfl | rfl
      · exact IsiPair.bool_str (fin _)
      · exact IsiPair.bool_list (fin _)
      · exact IsiPair.bool_tuple (fin _)
      · exact IsiPair.bool_dict (fin _)
  | str n =>
    obtain ⟨t, rfl⟩ := ru
    rcases hi with ⟨rfl, rfl⟩ | ⟨hm, rfl⟩
    · exact IsiPair.str_str fin0
    · rcases mem5 hm with rfl | rfl | rfl | rfl | rfl
      · exact IsiPair.str_int (fin _)
      · exact IsiPair.str_bool (fin _)
      · exact IsiPair.str_list (fin _)
      · exact IsiPair.str_tuple (fin _)
      · exact IsiPair.str_dict (fin _)
  | ref a =>
    cases ru
    rcases hi with ⟨⟨xs, hq⟩, hi⟩ | ⟨⟨xs, hq⟩, hi⟩
    · obtain ⟨its, _, ⟨o, n, e, c, _⟩, _⟩ := I.list hq
      rcases hi with ⟨rfl, rfl⟩ | ⟨hm, rfl⟩
      · exact IsiPair.list_list e c fin0
      · rcases mem5 hm with rfl | rfl | rfl | rfl | rfl
        · exact IsiPair.list_int e c (fin _)
        · exact IsiPair.list_bool e c (fin _)
        · exact IsiPair.list_str e c (fin _)
        · exact IsiPair.list_tuple e c (fin _)
        · exact IsiPair.list_dict e c (fin _)
    · obtain ⟨its, _, hT, _⟩ := I.tuple hq
      obtain ⟨o, e, c, _⟩ := hT
      rcases hi with ⟨rfl, rfl⟩ | ⟨hm, rfl⟩
      · exact IsiPair.tuple_tuple e c fin0
      · rcases mem5 hm with rfl | rfl | rfl | rfl | rfl
        · exact IsiPair.tuple_int e c (fin _)
        · exact IsiPair.tuple_bool e c (fin _)
        · exact IsiPair.tuple_str e c (fin _)
        · exact IsiPair.tuple_list e c (fin _)
        · exact IsiPair.tuple_dict e c (fin _)
  | _ => exact hi.elim
end
end L2
set_option Elab.async false
set_option linter.all false
set_option maxRecDepth 100000
namespace L2
open PySem PySem.Spec PyProof.Rows
def TF (K : PySem.W.Frag) (mg : Str → Option Value) (x : Str) (st : Stmt) : Prop := ∃ f fd, mg x = some (.ref f) ∧ Fun K x x st f fd
def GFn (P : Program) (w : World) (K : PySem.W.Frag) (mg : Str → Option Value) (base : Heap) (k : Nat) (x : Str) (ps : List Str) (sp : Sp) : Prop :=
  ∃ f fd, mg x = some (.ref f) ∧ (∃ oc od osl, K.lookup f = some ⟨oc, od, .func fd, osl⟩) ∧ PySem.W.keepIn K (.ref f) = true ∧ Binds K fd ps [] ∧ FnOk P w K mg base CX0 k f fd ps sp
section
variable {P : Program} {w : World} {K : PySem.W.Frag} {mg : Str → Option Value} {base : Heap}
theorem tf_mk {h : Heap} {x : Str} {st : Stmt} {f : Addr} {oc : Value} {od an : Option Addr} {osl : Array (Option Value)} {kV doc pm cdv ct : Value} (X : K.In h) (G : h.Ns mainGlobals mg) (a : PySem.W.nsIn K mainGlobals x = some (some (.ref f)))
    (l : K.lookup f = some ⟨oc, od, .func (PySem.W.fnOf x x (defArgs st) (defBody st) (defScope st) .none kV doc pm an cdv ct), osl⟩) (c : PySem.W.codeIn K cdv x = true) (k : PySem.W.keepIn K (.ref f) = true) : TF K mg x st :=
  ⟨f, _, PySem.W.mg_of X G a, fun_mk (st := st) l c k⟩
theorem gfn_of {x : Str} {st : Stmt} {N ps : List Str} {k : Nat} {sp : Sp} (h : TF K mg x st) (S : FnScope N ps (defScope st))
    (hb : ∀ (kV doc pm : Value) (an : Option Addr) (cdv ct : Value) (us : List Value), us.length = ps.length → bindArgs (PySem.W.fnOf x x (defArgs st) (defBody st) (defScope st) .none kV doc pm an cdv ct) ⟨us, []⟩ = pure (ps.zip us))
    (len : ∀ vs H Q E, sp vs H Q E → vs.length = ps.length)
    (hbody : ∀ (f : Addr) (cdv : Value) (A : Around) (outer : List Env) (s : Shared) (H : Hp) (vs : List V) (Q : VK) (E : XK), Room k (A.deeper (envOfC x (defScope st) s.heap.objs.size f cdv)) → sp vs H Q E →
      ∃ t, PSs (cxOf CX0 P w K mg base N x (defScope st) f cdv A outer s H E).nox (defBody st) t ∧ t { nx := fun _ H' => Q .non H', rt := Q } (start N vs) H) : GFn P w K mg base (k + 1) x ps sp := by
  obtain ⟨f, fd, hm, F⟩ := h
  obtain ⟨oc, od, _, _, _, _, _, _, osl, _, lk, _⟩ := id F.ex
  exact ⟨f, fd, hm, ⟨oc, od, osl, lk⟩, F.kp, F.binds hb, F.ok S len fun cdv A outer s H vs Q E hr hs => hbody f cdv A outer s H vs Q E hr hs⟩
theorem head_of {x p : Str} {st : Stmt} {sp : Sp} {k : Nat} {fa : Addr} (h : TF K mg x st) (hg : ∀ base, GFn P w K mg base k x [p] sp) (hmg : mg x = some (.ref fa))
    (hb : ∀ (kV doc pm : Value) (an : Option Addr) (cdv ct : Value) (s : Shared) (u : Value), BindsTo s (PySem.W.fnOf x x (defArgs st) (defBody st) (defScope st) .none kV doc pm an cdv ct) ⟨[u], []⟩ [(p, u)]) :
    ∃ fd : FuncData, (∀ (s : Shared) (u : Value), BindsTo s fd ⟨[u], []⟩ [(p, u)]) ∧ ∀ base : Heap, FnOk P w K mg base CX0 k fa fd [p] sp := by
  obtain ⟨f, fd, hm, F⟩ := h
  obtain ⟨oc, od, kV, doc, pm, an, cdv, ct, osl, rfl, lk, _⟩ := F.ex
  have e := hmg.symm.trans hm
  cases e
  refine ⟨_, hb kV doc pm an cdv ct, fun base => ?_⟩
  obtain ⟨f', fd', hm', ⟨oc', od', osl', lk'⟩, _, _, G⟩ := hg base
  have e := hm.symm.trans hm'
  cases e
  have e2 := lk.symm.trans lk'
  cases e2
  exact G
end
section
variable {X : Cx} {k : Nat} {x : Str} {ps : List Str} {sp : Sp} {p pos : Pos} {e : Expr} {es : List Expr} {t : TA}
theorem pe_callF (F : GFn X.prog X.w X.K X.mg X.base k x ps sp) (hr : Room k X.A) (ha : PA X (e :: es) t) (hg : Gl X x := by rfl) (hdb : (x == ("__debug__" : Str)) = false := by decide)
    (he : starEach (e :: es) X.env = (false, eval e X.env) :: starEach es X.env := by rfl) (hpl : (backTo pos (starEach es X.env)).any (·.1) = false := by rfl) : PE X (.Call (.Name x p) (e :: es) [] pos) (tCall sp [] E0 t) := by
  obtain ⟨f, fd, hm, _, kp, hb, F⟩ := F
  exact pe_call F hr hg hm kp hb .nil pass0 ha hdb he hpl
theorem pe_callF0 (F : GFn X.prog X.w X.K X.mg X.base k x ps sp) (hr : Room k X.A) (hg : Gl X x := by rfl) (hdb : (x == ("__debug__" : Str)) = false := by decide) : PE X (.Call (.Name x p) [] [] pos) (tCall sp [] E0 tNil) := by
  obtain ⟨f, fd, hm, _, kp, hb, F⟩ := F
  exact pe_call0 F hr hg hm kp hb .nil pass0 hdb
end
def TopT (K : PySem.W.Frag) (mg : Str → Option Value) (x : Str) (xs : List V) : Prop := ∃ a, mg x = some (.ref a) ∧ ∀ H, SqT K H a xs
theorem topT_mk {K : PySem.W.Frag} {mg : Str → Option Value} {h : Heap} {x : Str} {xs : List V} {a : Addr} {o : Obj} {its : Array Value} {n : Nat} (X : K.In h) (G : h.Ns mainGlobals mg) (e : PySem.W.nsIn K mainGlobals x = some (some (.ref a)))
    (l : K.lookup a = some o) (hc : o.cls = .type "tuple") (hd : o.data = .seq its n) (hz : its.size ≤ sizeLine) (hv : Vals xs its.toList) : TopT K mg x xs :=
  ⟨a, PySem.W.mg_of X G e, fun H => .inr ⟨o, its, n, l, hc, hd, hz, hv⟩⟩
theorem pe_topT {X : Cx} {x : Str} {xs : List V} {pos : Pos} (h : TopT X.K X.mg x xs) (hg : Gl X x := by rfl) (hd : (x == ("__debug__" : Str)) = false := by decide) : PE X (.Name x pos) (fun _ H Q => ∀ a, (∀ H', SqT X.K H' a xs) → Q (.ref a) H) := by
  obtain ⟨a, hm, hq⟩ := h
  intro pins s σ H Q I q
  exact pe_glob (v := .ref a) hg hm rfl hd pins s σ H Q I (q a hq)
theorem boot_all : bootBuiltins "all" = some (.builtin "all") := by decide +kernel
theorem boot_int : bootBuiltins "int" = some (.type "int") := by decide +kernel
theorem boot_tuple : bootBuiltins "tuple" = some (.type "tuple") := by decide +kernel
theorem boot_isinstance : bootBuiltins "isinstance" = some (.builtin "isinstance") := by decide +kernel
structure JL (J : It) (H : Hp) (xs : List V) : Prop where
  go : ∀ i, i < xs.length → J.go i H
  yld : ∀ i x H', i < xs.length → J.yld i H x H' → H' = H ∧ xs[i]? = some x
  stop : ∀ i, xs.length ≤ i → J.stop i H
theorem jl_list {K : PySem.W.Frag} {a : Addr} {H : Hp} {xs : List V} (h : SqL K H a xs) : JL (Itl K a) H xs :=
  ⟨fun i hi => ⟨xs, _, h, List.getElem?_eq_getElem hi⟩, fun i x H' _ q => ⟨q.1, q.2 xs h⟩, fun i hi => ⟨xs, h, hi⟩⟩
theorem jl_tup {K : PySem.W.Frag} {a : Addr} {H : Hp} {xs : List V} (h : SqT K H a xs) : JL (Itt K a) H xs :=
  ⟨fun i hi => ⟨xs, _, h, List.getElem?_eq_getElem hi⟩, fun i x H' _ q => ⟨q.1, q.2 xs h⟩, fun i hi => ⟨xs, h, hi⟩⟩
def rangeV (lo : Int) (n : Nat) : List V := (List.range n).map fun i => V.int (lo + (i : Nat))
theorem jl_range {lo : Int} {n : Nat} {H : Hp} : JL (Itr lo n) H (rangeV lo n) := by
  have hl : (rangeV lo n).length = n := by simp [rangeV]
  refine ⟨fun i hi => by rw [hl] at hi; exact hi, fun i x H' hi q => ⟨q.1, ?_⟩, fun i hi => by rw [hl] at hi; exact hi⟩
  rw [hl] at hi
  rw [q.2]
  simp [rangeV, hi]
def signsV (z : Str) : List V := z.cps.toList.map fun c => V.str ⟨#[c]⟩
theorem jl_str {z : Str} {H : Hp} : JL (Its z) H (signsV z) := by
  have hl : (signsV z).length = z.cps.size := by simp [signsV]
  refine ⟨fun i hi => by rw [hl] at hi; exact hi, fun i x H' hi q => ⟨q.1, ?_⟩, fun i hi => by rw [hl] at hi; exact hi⟩
  obtain ⟨_, c, hc, rfl⟩ := q
  have hc' : z.cps.toList[i]? = some c := by simpa using hc
  simp [signsV, hc']
theorem comp_filter {J : It} {xs : List V} {tt : TT} {te : TE} {own : List Str} {fr : List Nat} {σ : St} {H : Hp} {Q : VK} (hJ : JL J H xs) (pt : V → Bool) (f : V → V) (hz : xs.length < sizeLine)
    (ht : ∀ x ∈ xs, ∀ R : Bool → Hp → Prop, R (pt x) H → tt ((compSt own fr σ).set 0 (some x)) H R)
    (hs : ∀ x ∈ xs, pt x = true → ∀ R : VK, R (f x) H → te ((compSt own fr σ).set 0 (some x)) H R)
    (hq : ∀ p, H p = none → Q (.ref p) (upd H p (.lst ((xs.filter pt).map f)))) : CompW J (gName 0) tt te own fr σ H Q := by
  refine ⟨fun i m ys H2 => H2 = H ∧ i ≤ xs.length ∧ m = xs.length - i ∧ ys = ((xs.take i).filter pt).map f, ⟨xs.length, rfl, Nat.zero_le _, rfl, rfl⟩, ?_⟩
  rintro i m ys H2 ⟨rfl, hi, rfl, rfl⟩
  have hlen : (((xs.take i).filter pt).map f).length ≤ xs.length := by
    rw [List.length_map]
    exact Nat.le_trans (List.length_filter_le _ _) (by rw [List.length_take]; exact Nat.min_le_right _ _)
  by_cases hlt : i < xs.length
  · refine .inr ⟨hJ.go i hlt, Nat.lt_of_le_of_lt hlen hz, fun x H3 hy => ?_⟩
    obtain ⟨rfl, hx⟩ := hJ.yld i x H3 hlt hy
    have hm : x ∈ xs := List.mem_of_getElem? hx
    have hstep : ((xs.take (i + 1)).filter pt) = (xs.take i).filter pt ++ if pt x then [x] else [] := by
      rw [List.take_add_one, hx, List.filter_append]
      cases hp : pt x <;> simp [hp]
    refine ht x hm _ ?_
    cases hp : pt x with
    | false =>
      rw [if_neg Bool.false_ne_true]
      refine ⟨xs.length - (i + 1), by omega, rfl, hlt, rfl, ?_⟩
      rw [hstep, hp]
      simp
    | true =>
      rw [if_pos rfl]
      refine hs x hm hp _ ⟨xs.length - (i + 1), by omega, rfl, hlt, rfl, ?_⟩
      rw [hstep, hp]
      simp
  · have e : i = xs.length := by omega
    subst e
    refine .inl ⟨hJ.stop _ (Nat.le_refl _), Nat.le_trans hlen (Nat.le_of_lt hz), fun p hp => ?_⟩
    rw [List.take_length]
    exact hq p hp
theorem comp_pure {J : It} {xs : List V} {te : TE} {own : List Str} {fr : List Nat} {σ : St} {H : Hp} {Q : VK} (hJ : JL J H xs) (f : V → V) (hz : xs.length < sizeLine)
    (hs : ∀ x ∈ xs, ∀ R : VK, R (f x) H → te ((compSt own fr σ).set 0 (some x)) H R)
    (hq : ∀ p, H p = none → Q (.ref p) (upd H p (.lst (xs.map f)))) : CompW J (gName 0) tTrue te own fr σ H Q := by
  refine comp_filter hJ (fun _ => true) f hz (fun _ _ R q => q) (fun x hx _ R q => hs x hx R q) fun p hp => ?_
  have e : xs.filter (fun _ => true) = xs := by simp
  rw [e]
  exact hq p hp
theorem for_items {J : It} {xs : List V} {g : TG} {tb : TS} {D : Ends} {σ : St} {H : Hp} (Pv : Nat → St → Hp → Prop) (h0 : Pv 0 σ H) (hJ : ∀ i σ H, i ≤ xs.length → Pv i σ H → JL J H xs)
    (hs : ∀ i x σ H, xs[i]? = some x → Pv i σ H → g x σ H fun σ2 H2 => tb { D with nx := Pv (i + 1), ct := Pv (i + 1), bk := D.nx } σ2 H2) (hd : ∀ σ H, Pv xs.length σ H → D.nx σ H) :
    ∃ W : Nat → Nat → St → Hp → Prop, (∃ m, W 0 m σ H) ∧ ∀ i m σ H, W i m σ H →
      (J.stop i H ∧ D.nx σ H) ∨ (J.go i H ∧ ∃ N : St → Hp → Prop, (∀ σ' H', N σ' H' → ∃ m', m' < m ∧ W (i + 1) m' σ' H') ∧ ∀ x H', J.yld i H x H' → g x σ H' fun σ2 H2 => tb { D with nx := N, ct := N, bk := D.nx } σ2 H2) := by
  refine ⟨fun i m σ H => i ≤ xs.length ∧ m = xs.length - i ∧ Pv i σ H, ⟨xs.length, Nat.zero_le _, rfl, h0⟩, ?_⟩
  rintro i m σ H ⟨hi, rfl, hp⟩
  have hj := hJ i σ H hi hp
  by_cases hlt : i < xs.length
  · refine .inr ⟨hj.go i hlt, Pv (i + 1), fun σ' H' q => ⟨xs.length - (i + 1), by omega, hlt, rfl, q⟩, fun x H' hy => ?_⟩
    obtain ⟨rfl, hx⟩ := hj.yld i x H' hlt hy
    exact hs i x σ H' hx hp
  · have e : i = xs.length := by omega
    subst e
    exact .inl ⟨hj.stop _ (Nat.le_refl _), hd σ H hp⟩
def tCut (t u : TS) : TS := fun D σ H => ∃ Mid : St → Hp → Prop, t { D with nx := Mid } σ H ∧ ∀ σ' H', Mid σ' H' → u D σ' H'
def tCutE (t : TE) : TE := fun σ H Q => ∃ Mid : VK, t σ H Mid ∧ ∀ v H', Mid v H' → Q v H'
section
variable {X : Cx} {st : Stmt} {rest : List Stmt} {t u : TS} {e : Expr} {te : TE}
theorem pss_cut (h1 : PS X st t) (h2 : PSs X rest u) : PSs X (st :: rest) (tCut t u) := by
  intro pins s σ H D I h
  obtain ⟨Mid, ha, hb⟩ := h
  refine wpAny_execs_cons (thn (h1 pins s σ H { D with nx := Mid } I ha) fun f s1 q => ?_)
  cases f with
  | next =>
    obtain ⟨σ', H', I', m⟩ := q
    exact h2 pins s1 σ' H' D I' (hb _ _ m)
  | ret v => exact q
  | brk => exact q
  | cont => exact q
theorem pe_cut (h : PE X e te) : PE X e (tCutE te) := by
  intro pins s σ H Q I q
  obtain ⟨Mid, ha, hb⟩ := q
  exact thn (h pins s σ H Mid I ha) fun v s' ⟨x, H', I', r, m⟩ => ⟨x, H', I', r, hb _ _ m⟩
end
end L2
set_option Elab.async false
set_option linter.all false
set_option maxRecDepth 100000
namespace L2
open PySem PySem.Spec PyProof.Rows
section
variable {prog : Program} {w : World} {A : Around} {E : Value → Shared → Prop} {h : Heap} {g : Array GenState} {d : Drawn} {tk : Nat} {os : OsState}
variable {nm qn : Str} {C N : Addr} {bs bm bmB : List Value} {hd : Bool} {sn : List Str} {sub : List Value} {ab : Bool} {col : Option Bool} {dd : Option Addr} {k0 k1 k2 k3 k5 : Option Value} {B newId initId : String}
theorem type_call_young (F : ExcBaseFacts B newId initId bmB) (T : OwnTail h bmB bm) {mN : Str → Option Value} {as : List Value} {Q : PySem.Fin → Shared → Prop}
    (hC : h.get? C = some (excClassObj nm qn C N bs bm hd sn sub ab col dd k0 k1 k2 k3 k5 newId)) (hn : h.Ns N mN) (hni : mN "__init__" = none)
    (hq : ∀ h' e, Heap.MadeExcOf h h' e (.ref C) as → h.objs.size ≤ e → Q (.done (.ret (.ref e))) ⟨h', g, d, tk, os⟩) (hz : as.length ≤ sizeLine) :
    wpAny (model prog w) A (Builtin.«type.__call__» ⟨.ref C :: as, []⟩) Q E ⟨h, g, d, tk, os⟩ := by
  repeat (first | with_reducible refine wpAny_loadPart_at hC ?_ | with_reducible refine wpAny_madeBy_exc hC ?_ | wp_step)
  refine codeAny_call_builtin_code (Code.quiet_builtin _ F.quiet) (wpAny_check_new_subT F T hC (codeAny_exc_new_subT F T hC ?_ hz))
  show wpAny _ _ _ _ _ _
  have c1 := Heap.get?_push_of_some { cls := .ref C, data := .fields #[.ref h.objs.size, .none, .none, .none, .bool false, .none] } (Heap.get?_push_of_some { cls := .type "tuple", data := .seq as.toArray } hC)
  have n1 : ((h.push { cls := .type "tuple", data := .seq as.toArray }).push { cls := .ref C, data := .fields #[.ref h.objs.size, .none, .none, .none, .bool false, .none] }).Ns N mN := hn.keeps fun b o e => Heap.get?_push_of_some _ (Heap.get?_push_of_some _ e)
  have g1 : ((h.push { cls := .type "tuple", data := .seq as.toArray }).push { cls := .ref C, data := .fields #[.ref h.objs.size, .none, .none, .none, .bool false, .none] }).get? (h.objs.size + 1) = some { cls := .ref C, data := .fields #[.ref h.objs.size, .none, .none, .none, .bool false, .none] } := by heap_get
  have cc : (Value.ref C :: bm).contains (.ref C) = true := by simp
  have t1 := T.keeps (h' := (h.push { cls := .type "tuple", data := .seq as.toArray }).push { cls := .ref C, data := .fields #[.ref h.objs.size, .none, .none, .none, .bool false, .none] }) fun b o e => Heap.get?_push_of_some _ (Heap.get?_push_of_some _ e)
  unfold isInstance
  repeat (first | with_reducible refine wpAny_loadPart_at g1 ?_ | (with_reducible refine wpAny_isSubtype_exc c1 ?_; rw [cc]) | wp_step)
  show wpAny _ _ (typeLookup (.ref C) _) _ _ _
  refine wpAny_typeLookup_tail c1 n1 t1 F.mroIs F.init.lookup ?_
  rw [hni]
  refine wpAny_holding (wpAny_bind (wpAny_of_eq (F.init.bind _) (wpAny_bind (wpAny_call (codeAny_call_builtin F.init.plain F.initEntry (wpAny_check_init_subT F t1 c1 g1 rfl ?_))))))
  wp_walk
  refine hq _ _ ⟨fun b o hb => ?_, Heap.get?_none_of_le (Nat.le_succ _), h.objs.size + 2, ?_, Heap.get?_none_of_le (by omega), ?_⟩ (Nat.le_succ _)
  · rw [Heap.get?_update_other _ _ (Nat.ne_of_gt (Nat.lt_succ_of_lt (Heap.lt_size hb)))]; exact Heap.get?_push_of_some _ (Heap.get?_push_of_some _ (Heap.get?_push_of_some _ hb))
  · rw [Heap.get?_update_self _ (Heap.get?_push_of_some _ g1) rfl]
    simp only [Heap.size_push]
    rfl
  · rw [Heap.get?_update_other _ _ (show h.objs.size + 1 ≠ h.objs.size + 2 by omega)]; exact Heap.get?_push_at (by simp only [Heap.size_push]) rfl
theorem call_young (F : ExcBaseFacts B newId initId bmB) (T : OwnTail h bmB bm) {mN : Str → Option Value} {as : List Value} {Q : Value → Shared → Prop}
    (hC : h.get? C = some (excClassObj nm qn C N bs bm hd sn sub ab col dd k0 k1 k2 k3 k5 newId)) (hn : h.Ns N mN) (hni : mN "__init__" = none)
    (hq : ∀ h' e, Heap.MadeExcOf h h' e (.ref C) as → h.objs.size ≤ e → Q (.ref e) ⟨h', g, d, tk, os⟩) (hz : as.length ≤ sizeLine) :
    wpAny (model prog w) A (call (.ref C) as) Q E ⟨h, g, d, tk, os⟩ := by
  have f1 := tc_lookup
  have f2 := tc_bind (.ref C)
  have ty : (⟨h, g, d, tk, os⟩ : Shared).TypeIs (.ref C) "type" := ⟨_, hC, rfl⟩
  refine wpAny_call (codeAny_of_tree ?_)
  show wpAny _ _ (callAny (.ref C) _) _ _ _
  repeat (any_goals (first | assumption | with_reducible refine wpAny_loadPart_at hC ?_ | wp_step))
  exact ⟨rfl, codeAny_call_builtin_at (Code.quiet_builtin _ (by decide +kernel)) entry_typeCall (wpAny_check_type_call_sub hC (type_call_young F T hC hn hni (fun h' e m y => hq h' e m y) hz))⟩
end
section
variable {prog : Program} {w : World} {A : Around} {E : Value → Shared → Prop} {s : Shared} {env : Env}
variable {nm qn : Str} {C N : Addr} {bs bm bmB : List Value} {hd : Bool} {sn : List Str} {sub : List Value} {ab : Bool} {col : Option Bool} {dd : Option Addr} {k0 k1 k2 k3 k5 : Option Value} {B newId initId : String}
theorem raise_young (F : ExcBaseFacts B newId initId bmB) {mN : Str → Option Value} {x : Str} {np cpos pos : Pos} {args : List Expr} {Q : Flow → Shared → Prop}
    (hbase : bm.contains (.type "BaseException") = true) (hh : A.handled = none) (hplain : (backTo cpos (starEach args env)).any (·.1) = false) (hni : mN "__init__" = none)
    (h : wpAny (model prog w) A (eval (.Name x np) env) (fun f s1 => f = .ref C ∧ wpAny (model prog w) A (evalArgs (.ref C) true (backTo cpos (starEach args env)) [])
      (fun a s2 => a.kw = [] ∧ a.pos.length ≤ sizeLine ∧ s2.heap.get? C = some (excClassObj nm qn C N bs bm hd sn sub ab col dd k0 k1 k2 k3 k5 newId) ∧ s2.heap.Ns N mN ∧ OwnTail s2.heap bmB bm ∧
        ∀ h' e, Heap.MadeExcOf s2.heap h' e (.ref C) a.pos → s2.heap.objs.size ≤ e → E (.ref e) { s2 with heap := h' }) E s1) E s) :
    wpAny (model prog w) A (exec (.Raise (some (.Call (.Name x np) args [] cpos)) none pos) env) Q E s := by
  rw [arm_exec_Raise]
  refine wpAny_bind (wpAny_standAt (wpAny_raiseStmt_made_sub (C := C) (nm := nm) (q := qn) (N := N) (bs := bs) (bm := bm) (hdct := hd) (sn := sn) (sub := sub) (ab := ab) (col := col) (dd := dd) (k0 := k0) (k1 := k1) (k2 := k2) (k3 := k3) (k5 := k5) (newId := newId) hbase hh ?_))
  refine wpAny_bind (wpAny_mono (wpAny_Call_ofName (wpAny_mono h (fun f s1 h1 => ?_) fun _ _ y => y)) (fun v s3 h3 => wpAny_bind (wpAny_standAt (wpAny_pure h3))) fun _ _ y => y)
  obtain ⟨rfl, h1⟩ := h1
  unfold callWith
  refine wpAny_bind (wpAny_holding (wpAny_mono h1 (fun a s2 h2 => wpAny_bind (wpAny_standAt ?_)) fun _ _ y => y))
  obtain ⟨ap, ak⟩ := a
  obtain ⟨hkw, hlen, hC, hn, T, h2⟩ := h2
  have hkw : ak = [] := hkw
  subst hkw
  obtain ⟨hp, g, d, tk, os⟩ := s2
  simp only [hplain]
  refine wpAny_bind (wpAny_keeperOf_exc hC (wpAny_bind (call_young F T hC hn hni (fun h' e hm hy => wpAny_bind (wpAny_holding (wpAny_point (wpAny_pure ?_)))) hlen)))
  obtain ⟨t, ht, _, _⟩ := hm.there
  exact ⟨e, t, rfl, hm.keeps _ _ hC, ht, h2 h' e hm hy⟩
end
end L2
set_option Elab.async false
set_option linter.all false
set_option maxRecDepth 100000
namespace L2
open PySem PySem.Spec PyProof.Rows
def xObj (cls : Value) (t : Addr) (tb : Value) : Obj := { cls := cls, data := .fields #[.ref t, tb, .none, .none, .bool false, .none] }
def TbAt (h : Heap) (T : Addr) (fl : Value) : Prop := ∃ oT ts, h.get? T = some oT ∧ oT.data = .fields ts ∧ ts[3]? = some fl
section
variable {M : Model} {A : Around} {E : Value → Shared → Prop} {s : Shared}
theorem entry_own {base : Heap} {env : Env} {outer : List Env} {L x t : Addr} {cls head : Value} {hadNext : Bool} {Q : Unit → Shared → Prop} (hfr : A.frames = some (env :: outer)) (hl : s.heap.FunFrames base (env :: outer)) (hf : env.frame = some L)
    (he : s.heap.get? x = some (xObj cls t head)) (h : ∀ h' T', s.heap.objs.size ≤ T' → h'.get? x = some (xObj cls t (.ref T')) → TbAt h' T' (rawInt L) → (∀ b o, b ≠ x → b ∉ frs (env :: outer) → s.heap.get? b = some o → h'.get? b = some o) →
      (∀ b o, b ≠ x → s.heap.get? b = some o → ∃ sl, h'.get? b = some { o with slots := sl }) → Q () { s with heap := h' }) :
    wpAny M A (do let a ← frameOf env; let pl ← entryPlaceOf L hadNext; let b ← EntryCells.newEntry head a .none (rawInt L) .none pl; setField (.ref x) 1 b) Q E s := by
  have hx : x ∉ (env :: outer).filterMap (·.frame) := fun hm => by
    obtain ⟨_, o, ho, hn⟩ := hl.mem hm
    rw [he] at ho
    cases ho
    exact hn _ rfl
  refine wpAny_bind (wpAny_frameOf_fun hfr hl hf fun h1 sl1 => wpAny_bind (wpAny_entryPlaceOf fun pl hpl => ?_))
  unfold EntryCells.newEntry newFields
  refine wpAny_bind (wpAny_newObj_type ?_ (hpl.sizeOk5 _ _ _ _ _))
  have e1 : h1.get? x = some (xObj cls t head) := (sl1.2.1 x hx).trans he
  generalize hT : ({ cls := .type "traceback", dict := none, data := .fields ([head, .ref L, .none, rawInt L, .none] ++ (if pl.isEmpty then List.replicate 6 Value.none else pl)).toArray } : Obj) = oT
  have e2 : (h1.push oT).get? x = some (xObj cls t head) := Heap.get?_push_of_some _ e1
  have hTx : h1.objs.size ≠ x := Nat.ne_of_gt (Heap.lt_size e1)
  have fT : s.heap.objs.size ≤ h1.objs.size := Nat.le_of_eq sl1.1.symm
  refine wpAny_setField e2 rfl (by show 1 < 6; decide) (h _ h1.objs.size fT ?_ ?_ (fun b o hb hn e => ?_) (fun b o hb e => ?_))
  · exact Heap.get?_update_self _ e2 rfl
  · refine ⟨oT, ([head, .ref L, .none, rawInt L, .none] ++ (if pl.isEmpty then List.replicate 6 Value.none else pl)).toArray, ?_, by rw [← hT], by simp⟩
    rw [Heap.get?_update_other _ _ (Ne.symm hTx)]
    exact Heap.get?_push_size _ (by rw [← hT]; rfl)
  · rw [Heap.get?_update_other _ _ (Ne.symm hb)]
    exact Heap.get?_push_of_some _ ((sl1.2.1 b hn).trans e)
  · obtain ⟨sl, q⟩ := sl1.2.2 b o e
    exact ⟨sl, by rw [Heap.get?_update_other _ _ (Ne.symm hb)]; exact Heap.get?_push_of_some _ q⟩
end
structure ExcT (X : Cx) (pn : List (Addr × Obj)) (H : Hp) (h : Heap) (x : Addr) (cls fl : Value) : Prop where
  ok : FpOk X pn H x
  ex : ∃ t T, h.get? x = some (xObj cls t (.ref T)) ∧ T ≠ x ∧ FpOk X pn H T ∧ TbAt h T fl
def Exc (X : Cx) (pn : List (Addr × Obj)) (H : Hp) (h : Heap) (x : Addr) (cls : Value) : Prop :=
  (FpOk X pn H x ∧ ∃ t, h.get? x = some (xObj cls t .none)) ∨ ExcT X pn H h x cls .none ∨ ExcT X pn H h x cls (rawInt X.env.locals)
def Own (X : Cx) : Prop := X.stack = X.env :: X.outer ∧ X.env.frame = some X.env.locals
section
variable {X : Cx} {pn : List (Addr × Obj)} {σ : St} {H : Hp} {s : Shared} {E : Value → Shared → Prop}
theorem Inv.recs {ch : List Addr} {h' : Heap} (I : Inv X pn σ H s) (hch : ∀ b ∈ ch, FpOk X pn H b) (k1 : ∀ b o, b ∉ ch → b ∉ frs X.stack → s.heap.get? b = some o → h'.get? b = some o)
    (k2 : ∀ b o, b ∉ ch → s.heap.get? b = some o → ∃ sl, h'.get? b = some { o with slots := sl }) : Inv X pn σ H { s with heap := h' } := by
  refine I.call' (s' := { s with heap := h' }) (ch := ch) (H' := H) rfl ?_ ?_ I.bare fun b hb => ⟨(hch b hb).2.2.2.1, (hch b hb).2.1, fun x c hc => (hch b hb).2.2.2.2.1 x c hc, (hch b hb).2.2.2.2.2⟩
  · exact ⟨fun b o e _ hf hx => k1 b o hx hf e, fun b o e _ _ hx => k2 b o hx e, fun b o _ n _ => n, fun b o e hx => let ⟨sl, q⟩ := k2 b o hx e; ⟨_, q⟩, fun b xs e => e, fun b o u e => e, fun b ps e => ⟨#[], by simpa using e⟩⟩
  · intro a o e
    refine (I.hok a o e).stay (fun b u hb q => ?_) (fun b hb => hb) (fun b xs hb => hb)
    have tr : ∃ o', H b = some o' := by
      rcases hb with rfl | hb
      · exact ⟨o, e⟩
      · exact ⟨_, hb⟩
    obtain ⟨o', ho'⟩ := tr
    refine k1 b u (fun z => ?_) (fun z => ?_) q
    · rw [(hch b z).1] at ho'
      cases ho'
    · rw [I.stkFree b z] at ho'
      cases ho'
theorem Own.frames (O : Own X) (I : Inv X pn σ H s) : X.A.frames = some (X.env :: X.outer) := by rw [← O.1]; exact I.ok.frames
theorem Own.funs (O : Own X) (I : Inv X pn σ H s) : s.heap.FunFrames X.base (X.env :: X.outer) := by rw [← O.1]; exact I.stack
theorem note_exc {x : Addr} {cls : Value} {Q : Unit → Shared → Prop} {A : Around} (O : Own X) (hA : A.frames = X.A.frames) (I : Inv X pn σ H s) (e : Exc X pn H s.heap x cls)
    (h : ∀ s', Inv X pn σ H s' → ExcT X pn H s'.heap x cls (rawInt X.env.locals) → Q () s') : wpAny (model X.prog X.w) A (noteFrame (.ref x) X.env) Q E s := by
  have hfr : A.frames = some (X.env :: X.outer) := hA.trans (O.frames I)
  have hxf : ∀ {b : Addr}, FpOk X pn H b → b ∉ frs (X.env :: X.outer) := fun {b} f z => by
    rw [← O.1] at z
    rcases List.mem_cons.mp (I.stkSub b z) with q | q
    · exact f.2.1 q
    · exact f.2.2.1 q
  rcases e with ⟨fx, t, ex⟩ | ⟨fx, t, T, ex, hTx, fT, oT, ts, eT, dT, h3⟩ | e
  · unfold noteFrame
    simp only [O.2]
    refine wpAny_bind (wpAny_field ex rfl (x := .none) rfl ?_)
    rw [if_neg (by decide)]
    refine entry_own hfr (O.funs I) O.2 ex fun h' T' hT' ex' tb' k1 k2 => ?_
    have fT' : FpOk X pn H T' := I.fpOk hT' (I.hok.fresh hT')
    refine h _ (I.recs (ch := [x]) (fun b hb => by rcases List.mem_singleton.mp hb with rfl; exact fx) (fun b o hb hn q => k1 b o (fun z => hb (by simp [z])) (by rw [← O.1]; exact hn) q) (fun b o hb q => k2 b o (fun z => hb (by simp [z])) q))
      ⟨fx, t, T', ex', fun z => ?_, fT', tb'⟩
    exact absurd (Heap.lt_size ex) (Nat.not_lt.mpr (by rw [← z]; exact hT'))
  · unfold noteFrame
    simp only [O.2]
    refine wpAny_bind (wpAny_field ex rfl (x := .ref T) rfl ?_)
    rw [if_pos (show (Value.ref T != Value.none) = true from by simp)]
    refine wpAny_bind (wpAny_field eT dT h3 ?_)
    rw [if_neg (show ¬ ((Value.none == rawInt X.env.locals) = true) from by simp [rawInt])]
    refine wpAny_bind (wpAny_setField eT dT (Array.getElem?_eq_some_iff.mp h3).1 ?_)
    have o1 : ∀ b, b ≠ T → (s.heap.update T (Obj.mapFields (·.setIfInBounds 3 Value.none))).get? b = s.heap.get? b := fun b hb => Heap.get?_update_other _ _ (Ne.symm hb)
    have hTf := hxf fT
    have l1 : (s.heap.update T (Obj.mapFields (·.setIfInBounds 3 Value.none))).FunFrames X.base (X.env :: X.outer) := (O.funs I).of_keeps fun b o hb hn => ⟨o, (o1 b fun z => by
      rw [z, eT] at hb
      cases hb
      exact hn _ dT).trans hb, rfl⟩
    refine entry_own (s := { s with heap := s.heap.update T (Obj.mapFields (·.setIfInBounds 3 Value.none)) }) hfr l1 O.2 ((o1 x (Ne.symm hTx)).trans ex) fun h' T' hT' ex' tb' k1 k2 => ?_
    have hT2 : s.heap.objs.size ≤ T' := by
      rw [Heap.size_after_update] at hT'
      exact hT'
    have fT' : FpOk X pn H T' := I.fpOk hT2 (I.hok.fresh hT2)
    refine h _ (I.recs (ch := [x, T]) (fun b hb => ?_) (fun b o hb hn q => ?_) (fun b o hb q => ?_)) ⟨fx, t, T', ex', fun z => ?_, fT', tb'⟩
    · rcases List.mem_cons.mp hb with rfl | hb
      · exact fx
      · rcases List.mem_singleton.mp hb with rfl
        exact fT
    · exact k1 b o (fun z => hb (by simp [z])) (by rw [← O.1]; exact hn) ((o1 b fun z => hb (by simp [z])).trans q)
    · exact k2 b o (fun z => hb (by simp [z])) ((o1 b fun z => hb (by simp [z])).trans q)
    · exact absurd (Heap.lt_size ex) (Nat.not_lt.mpr (by rw [← z]; exact hT2))
  · obtain ⟨fx, t, T, ex, hTx, fT, oT, ts, eT, dT, h3⟩ := id e
    unfold noteFrame
    simp only [O.2]
    refine wpAny_bind (wpAny_field ex rfl (x := .ref T) rfl ?_)
    rw [if_pos (show (Value.ref T != Value.none) = true from by simp)]
    refine wpAny_bind (wpAny_field eT dT h3 ?_)
    rw [if_pos (show (rawInt X.env.locals == rawInt X.env.locals) = true from by first | (simp; done) | exact beq_self_eq_true _)]
    exact wpAny_pure (h s I e)
theorem flight_exc {x : Addr} {cls fl : Value} {fr : Option Addr} {Q : Unit → Shared → Prop} {A : Around} (I : Inv X pn σ H s) (e : ExcT X pn H s.heap x cls fl)
    (h : ∀ s', Inv X pn σ H s' → ExcT X pn H s'.heap x cls (fr.elim .none fun f => rawInt f) → Q () s') : wpAny (model X.prog X.w) A (setFlight (.ref x) fr) Q E s := by
  obtain ⟨fx, t, T, ex, hTx, fT, oT, ts, eT, dT, h3⟩ := e
  have hsz : 3 < ts.size := (Array.getElem?_eq_some_iff.mp h3).1
  unfold setFlight
  refine wpAny_bind (wpAny_field ex rfl (x := .ref T) rfl ?_)
  rw [if_pos (show (Value.ref T != Value.none) = true from by simp)]
  refine wpAny_setField eT dT hsz ?_
  have o1 : ∀ b, b ≠ T → (s.heap.update T (Obj.mapFields (·.setIfInBounds 3 (fr.elim .none fun f => rawInt f)))).get? b = s.heap.get? b := fun b hb => Heap.get?_update_other _ _ (Ne.symm hb)
  have dT' := Obj.data_mapFields dT (·.setIfInBounds 3 (fr.elim .none fun f => rawInt f))
  refine h _ (I.recs (ch := [T]) (fun b hb => by rcases List.mem_singleton.mp hb with rfl; exact fT) (fun b o hb _ q => (o1 b fun z => hb (by simp [z])).trans q) (fun b o hb q => ⟨o.slots, (o1 b fun z => hb (by simp [z])).trans q⟩))
    ⟨fx, t, T, (o1 x (Ne.symm hTx)).trans ex, hTx, fT, _, _, Heap.get?_update_self _ eT (Obj.isFreed_of_fields dT'), dT', by simp [hsz]⟩
end
end L2
set_option Elab.async false
set_option linter.all false
set_option maxRecDepth 100000
namespace L2
open PySem PySem.Spec PyProof.Rows
def XE (X : Cx) (pn : List (Addr × Obj)) (E : St → XK) : Value → Shared → Prop := fun e s => ∃ σ H x cls, e = .ref x ∧ Inv X pn σ H s ∧ Exc X pn H s.heap x cls ∧ E σ cls none H
abbrev Cx.exc (X : Cx) (pn : List (Addr × Obj)) (E : St → XK) : Cx := { X with xe := XE X pn E, pn := X.pn ++ pn }
theorem Cx.Ok.exc {X : Cx} {pn : List (Addr × Obj)} {E : St → XK} (ok : X.Ok) : (X.exc pn E).Ok :=
  ⟨ok.mod, ok.kind, ok.glob, ok.blt, ok.above, ok.inj, ok.has, ok.cab, ok.hd, ok.frames, ok.stk, ok.exf, ok.bs, ok.bsz, ok.noex, ok.exfs, ok.funs, ok.frf⟩
theorem Cx.Ok.unexc {X : Cx} {pn : List (Addr × Obj)} {E : St → XK} (ok : (X.exc pn E).Ok) : X.Ok :=
  ⟨ok.mod, ok.kind, ok.glob, ok.blt, ok.above, ok.inj, ok.has, ok.cab, ok.hd, ok.frames, ok.stk, ok.exf, ok.bs, ok.bsz, ok.noex, ok.exfs, ok.funs, ok.frf⟩
section
variable {X : Cx} {pn pins : List (Addr × Obj)} {E : St → XK} {σ : St} {H : Hp} {s : Shared}
theorem Inv.exc (I : Inv X (pn ++ pins) σ H s) : Inv (X.exc pn E) pins σ H s :=
  ⟨I.ok.exc, I.os, I.bare, I.base, I.loc, I.cell, I.free, I.freeC, fun p hp => I.pin p (by rw [← List.append_assoc]; exact hp), I.hok, I.len⟩
theorem Inv.unexc (I : Inv (X.exc pn E) pins σ H s) : Inv X (pn ++ pins) σ H s :=
  ⟨I.ok.unexc, I.os, I.bare, I.base, I.loc, I.cell, I.free, I.freeC, fun p hp => I.pin p (by rw [← List.append_assoc] at hp; exact hp), I.hok, I.len⟩
theorem FpOk.unexc {b : Addr} (f : FpOk (X.exc pn E) pins H b) : FpOk X pn H b :=
  ⟨f.1, f.2.1, f.2.2.1, f.2.2.2.1, f.2.2.2.2.1, fun p hp => f.2.2.2.2.2 p (List.mem_append_left _ hp)⟩
theorem ExcT.unexc {h : Heap} {x : Addr} {cls fl : Value} (e : ExcT (X.exc pn E) pins H h x cls fl) : ExcT X pn H h x cls fl :=
  ⟨e.ok.unexc, let ⟨t, T, a, b, c, d⟩ := e.ex; ⟨t, T, a, b, c.unexc, d⟩⟩
theorem Exc.unexc {h : Heap} {x : Addr} {cls : Value} (e : Exc (X.exc pn E) pins H h x cls) : Exc X pn H h x cls := by
  rcases e with ⟨f, t, e⟩ | e | e
  · exact .inl ⟨f.unexc, t, e⟩
  · exact .inr (.inl e.unexc)
  · exact .inr (.inr e.unexc)
theorem xe_intro {x : Addr} {cls : Value} (I : Inv (X.exc pn E) pins σ H s) (e : Exc (X.exc pn E) pins H s.heap x cls) (q : E σ cls none H) : (X.exc pn E).xe (.ref x) s :=
  ⟨σ, H, x, cls, rfl, I.unexc.pins_of fun p hp => I.unexc.pin p (List.mem_append_right _ (List.mem_append_left _ hp)), e.unexc, q⟩
theorem passes_exc (O : Own X) : PassesOwn (model X.prog X.w) X.A X.env (XE X pn E) := by
  rintro e s ⟨σ, H, x, cls, rfl, I, ex, q⟩
  refine note_exc O rfl I ex fun s1 I1 e1 => ?_
  show wpAny (model X.prog X.w) X.A _ _ _ s1
  obtain ⟨fx, t, T, h1, _⟩ := id e1
  refine wpAny_bind (wpAny_field h1 rfl (x := .ref T) rfl ?_)
  rw [if_neg (show ¬ ((Value.ref T == Value.none) = true) from by simp)]
  refine flight_exc (fr := X.env.frame) I1 e1 fun s2 I2 e2 => ?_
  rw [O.2] at e2
  exact ⟨σ, H, x, cls, rfl, I2, .inr (.inr e2), q⟩
end
def CXx (P : Program) (w : World) : CXT := fun outer H s E e s' => ∃ x t T cls H', e = .ref x ∧ s'.os = s.os ∧ AllBare s'.gens ∧ Un (frs outer) [] H H' s.heap s'.heap ∧ HOk P w H' s'.heap ∧
  s.heap.objs.size ≤ x ∧ s.heap.objs.size ≤ T ∧ s'.heap.get? x = some (xObj cls t (.ref T)) ∧ T ≠ x ∧ TbAt s'.heap T .none ∧ H' x = none ∧ H' T = none ∧ E cls none H'
section
variable {X : Cx} {pn pins : List (Addr × Obj)} {E : St → XK} {σ : St} {H : Hp} {s : Shared}
theorem passes_call (I : Inv (X.exc pn E) pins σ H s) {e : Value} {s' : Shared} (c : CXx X.prog X.w X.stack H s (E σ) e s') : (X.exc pn E).xe e s' := by
  obtain ⟨x, t, T, cls, H', rfl, ho, hg, u, hok, hx, hT, ex, hTx, tb, fx, fT, q⟩ := c
  have I' : Inv (X.exc pn E) pins σ H' s' := I.call' (ch := []) ho u hok hg fun b hb => by cases hb
  have F : ∀ b, s.heap.objs.size ≤ b → H' b = none → FpOk (X.exc pn E) pins H' b := fun b hb hn => I.fpOk hb hn
  exact xe_intro I' (.inr (.inl ⟨F x hx fx, t, T, ex, hTx, F T hT fT, tb⟩)) q
end
section
variable {P : Program} {w : World} {K : PySem.W.Frag} {mg : Str → Option Value} {base : Heap}
theorem own_cxOf {CX : CXT} {N : List Str} {qual : Str} {scope : Scope} {f : Addr} {cd : Value} {A : Around} {outer : List Env} {s : Shared} {H : Hp} {E : XK} : Own (cxOf CX P w K mg base N qual scope f cd A outer s H E) := ⟨rfl, rfl⟩
theorem pss_body {N : List Str} {qual : Str} {scope : Scope} {f : Addr} {cd : Value} {A : Around} {outer : List Env} {s : Shared} {H : Hp} {E : XK} {body : List Stmt} {t : TS}
    (h : PSs ((cxOf (CXx P w) P w K mg base N qual scope f cd A outer s H E).exc [] fun _ => E) body t) : PSs (cxOf (CXx P w) P w K mg base N qual scope f cd A outer s H E) body t := by
  intro pins s1 σ H1 D I q
  refine wpAny_mono (h pins s1 σ H1 D (Inv.exc (pn := []) I) q) (fun fl s2 sp => ?_) (fun e s2 x => ?_)
  · cases fl with
    | next => obtain ⟨σ', H', I', q'⟩ := sp; exact ⟨σ', H', I'.unexc, q'⟩
    | brk => obtain ⟨σ', H', I', q'⟩ := sp; exact ⟨σ', H', I'.unexc, q'⟩
    | cont => obtain ⟨σ', H', I', q'⟩ := sp; exact ⟨σ', H', I'.unexc, q'⟩
    | ret u => obtain ⟨v, σ', H', I', r, q'⟩ := sp; exact ⟨v, σ', H', I'.unexc, r, q'⟩
  · obtain ⟨σ2, H2, x, cls, rfl, I2, ex, q2⟩ := x
    show wpAny _ _ (leaving _ (.ref x)) _ _ s2
    unfold leaving
    refine wpAny_bind (note_exc own_cxOf rfl I2 ex fun s3 I3 e3 => ?_)
    refine flight_exc (fr := none) I3 e3 fun s4 I4 e4 => ?_
    obtain ⟨fx, t, T, ex4, hTx, fT, tb⟩ := e4
    have young : ∀ {b : Addr}, FpOk (cxOf (CXx P w) P w K mg base N qual scope f cd A outer s H E) [] H2 b → s.heap.objs.size ≤ b := fun {b} z => by
      rcases z.2.2.2.1 with y | y
      · cases y
      · exact y
    exact ⟨x, t, T, cls, H2, rfl, I4.os, I4.bare, I4.base, I4.hok, young fx, young fT, ex4, hTx, tb, fx.1, fT.1, q2⟩
end
def GFx (P : Program) (w : World) (K : PySem.W.Frag) (mg : Str → Option Value) (base : Heap) (k : Nat) (x : Str) (ps : List Str) (sp : Sp) : Prop :=
  ∃ f fd, mg x = some (.ref f) ∧ (∃ oc od osl, K.lookup f = some ⟨oc, od, .func fd, osl⟩) ∧ PySem.W.keepIn K (.ref f) = true ∧ Binds K fd ps [] ∧ FnOk P w K mg base (CXx P w) k f fd ps sp
section
variable {P : Program} {w : World} {K : PySem.W.Frag} {mg : Str → Option Value} {base : Heap}
theorem gfx_of {x : Str} {st : Stmt} {N ps : List Str} {k : Nat} {sp : Sp} (h : TF K mg x st) (S : FnScope N ps (defScope st))
    (hb : ∀ (kV doc pm : Value) (an : Option Addr) (cdv ct : Value) (us : List Value), us.length = ps.length → bindArgs (PySem.W.fnOf x x (defArgs st) (defBody st) (defScope st) .none kV doc pm an cdv ct) ⟨us, []⟩ = pure (ps.zip us))
    (len : ∀ vs H Q E, sp vs H Q E → vs.length = ps.length)
    (hbody : ∀ (f : Addr) (cdv : Value) (A : Around) (outer : List Env) (s : Shared) (H : Hp) (vs : List V) (Q : VK) (E : XK), Room k (A.deeper (envOfC x (defScope st) s.heap.objs.size f cdv)) → sp vs H Q E →
      ∃ t, PSs ((cxOf (CXx P w) P w K mg base N x (defScope st) f cdv A outer s H E).exc [] fun _ => E) (defBody st) t ∧ t { nx := fun _ H' => Q .non H', rt := Q } (start N vs) H) : GFx P w K mg base (k + 1) x ps sp := by
  obtain ⟨f, fd, hm, F⟩ := h
  obtain ⟨oc, od, kV, doc, pm, an, cdv, ct, osl, rfl, lk, hcd⟩ := id F.ex
  refine ⟨f, _, hm, ⟨oc, od, osl, lk⟩, F.kp, F.binds hb, fn_of lk hcd S len fun A outer s H vs Q E hr hs => ?_⟩
  obtain ⟨t, h1, h2⟩ := hbody f cdv A outer s H vs Q E hr hs
  exact ⟨t, pss_body h1, h2⟩
end
section
variable {X : Cx} {pn : List (Addr × Obj)} {E : St → XK} {k : Nat} {x : Str} {ps : List Str} {sp : Sp} {p pos : Pos} {e : Expr} {es : List Expr} {t : TA}
def tCallX (sp : Sp) (E : St → XK) (t : TA) : TE := fun σ H Q => t σ H fun vs H1 => sp (vs ++ []) H1 Q (E σ)
theorem run_fnX {pins : List (Addr × Obj)} {σ : St} {H : Hp} {s : Shared} {Q : VK} {us : List Value} {vs : List V} {f : Addr} {fd : FuncData} (F : FnOk X.prog X.w X.K X.mg X.base (CXx X.prog X.w) k f fd ps sp) (hr : Room k X.A) (hb : Binds X.K fd ps [])
    (I : Inv (X.exc pn E) pins σ H s) (r : Vals vs us) (h : sp (vs ++ []) H Q (E σ)) : wpAny (model X.prog X.w) X.A (call (.ref f) us) (EP (X.exc pn E) pins σ Q) (X.exc pn E).xe s := by
  have hl : (us ++ []).length = ps.length := by
    rw [← (r.append (.nil : Vals [] [])).length]
    exact F.len _ _ _ _ h
  refine wpAny_call (codeAny_mono (F.run X.A X.stack s H ⟨us, []⟩ (us ++ []) (vs ++ []) Q (E σ) hr I.env0 (hb s us I.kIn hl) (r.append .nil) h) fun r s' hq => ?_)
  cases r with
  | error e => exact passes_call I hq
  | ok fl =>
    cases fl with
    | ret u => exact I.after hq
    | next => exact hq.elim
    | brk => exact hq.elim
    | cont => exact hq.elim
theorem pe_callX (F : GFx X.prog X.w X.K X.mg X.base k x ps sp) (hr : Room k X.A) (ha : PA (X.exc pn E) (e :: es) t) (hg : Gl (X.exc pn E) x := by rfl) (hdb : (x == ("__debug__" : Str)) = false := by decide)
    (he : starEach (e :: es) X.env = (false, eval e X.env) :: starEach es X.env := by rfl) (hpl : (backTo pos (starEach es X.env)).any (·.1) = false := by rfl) : PE (X.exc pn E) (.Call (.Name x p) (e :: es) [] pos) (tCallX sp E t) := by
  obtain ⟨f, fd, hm, _, kp, hb, F⟩ := F
  intro pins s σ H Q I h
  refine wpAny_Call_Name_kw (ld_glob I hg hm ?_ hdb)
  exact PySem.W.callWith_K (h₀ := X.base) I.ok.mod.kin kp (thn (ha pos pins s σ H _ I h) fun us s1 ⟨vs, H1, I1, r, q⟩ => ⟨I1.kIn, run_fnX F hr hb I1 r q⟩) he hpl
end
abbrev bmVE : List Value := [.type "ValueError", .type "Exception", .type "BaseException", .type "object"]
theorem exc_of_in {K : PySem.W.Frag} {h : Heap} {C : Addr} {bmB : List Value} {newId : String} (X : K.In h) (q : PySem.W.excIn K C bmB newId = true) :
    ∃ bm N nm qn bs hdct sn sub ab col dd k0 k1 k2 k3 k5 mN, h.get? C = some (excClassObj nm qn C N bs bm hdct sn sub ab col dd k0 k1 k2 k3 k5 newId) ∧ h.Ns N mN ∧ mN "__init__" = none ∧ OwnTail h bmB bm ∧ K.lookup C = some (excClassObj nm qn C N bs bm hdct sn sub ab col dd k0 k1 k2 k3 k5 newId) := by
  unfold PySem.W.excIn at q
  split at q
  · rename_i dd cd sl ho
    split at q
    · rename_i C' bm k0 k1 k2 k3 n k5 hm hs
      simp only [Bool.and_eq_true, beq_iff_eq, Bool.not_eq_true'] at q
      obtain ⟨⟨⟨⟨⟨e1, e2⟩, hdel⟩, ht⟩, hok⟩, hni⟩ := q
      subst e1 e2
      obtain ⟨nm, bs, mro, ns, qn, hd, sn, sub, ab, col, del⟩ := cd
      dsimp only at hm hdel hok hni
      subst hm hdel
      have hsl : sl = #[k0, k1, k2, k3, some (.builtin n), k5] := by
        obtain ⟨l⟩ := sl
        simp only at hs
        rw [hs]
      subst hsl
      exact ⟨bm, ns, nm, qn, bs, hd, sn, sub, ab, col, dd, k0, k1, k2, k3, k5, _, X _ _ ho, .of_isNs (PySem.W.isNs_of_in X hok), PySem.W.nsMap_none_of_in X hok hni, PySem.W.tail_of_in X ht, ho⟩
    · cases q
  · cases q
def XC (K : PySem.W.Frag) (mg : Str → Option Value) (x : Str) (C : Addr) : Prop := mg x = some (.ref C) ∧ PySem.W.excIn K C bmVE "ValueError.__new__" = true
def tRaise (E : St → XK) (C : Addr) (t : TA) : TS := fun _ σ H => t σ H fun vs H1 => vs.length ≤ 1000 ∧ E σ (.ref C) none H1
section
variable {X : Cx} {pn : List (Addr × Obj)} {E : St → XK} {x : Str} {C : Addr} {np cpos pos : Pos} {e : Expr} {es : List Expr} {t : TA}
theorem made_exc {pins : List (Addr × Obj)} {σ : St} {H : Hp} {s : Shared} {h' : Heap} {a : Addr} {vs : List Value} (I : Inv (X.exc pn E) pins σ H s) (m : Heap.MadeExcOf s.heap h' a (.ref C) vs) (hy : s.heap.objs.size ≤ a) (q : E σ (.ref C) none H) : (X.exc pn E).xe (.ref a) { s with heap := h' } := by
  obtain ⟨t, e, _, _⟩ := m.there
  have I' : Inv (X.exc pn E) pins σ H { s with heap := h' } := I.kept (t' := s.toks) m.keeps
  exact xe_intro I' (.inl ⟨I.fpOk hy (I.hok.fresh hy), t, e⟩) q
theorem ps_raise (c : XC X.K X.mg x C) (hc : X.calm = true) (ha : PA (X.exc pn E) (e :: es) t) (hg : Gl (X.exc pn E) x := by rfl) (hdb : (x == ("__debug__" : Str)) = false := by decide)
    (he : starEach (e :: es) X.env = (false, eval e X.env) :: starEach es X.env := by rfl) (hpl : (backTo cpos (starEach es X.env)).any (·.1) = false := by rfl) :
    PS (X.exc pn E) (.Raise (some (.Call (.Name x np) (e :: es) [] cpos)) none pos) (tRaise E C t) := by
  intro pins s σ H D I h
  obtain ⟨bm, N, nm, qn, bs, hdct, sn, sub, ab, col, dd, k0, k1, k2, k3, k5, mN, hC, hN, hni, T, _⟩ := exc_of_in I.mod.kin c.2
  have kp : ∀ {s' : Shared} {H' : Hp}, Inv (X.exc pn E) pins σ H' s' → ∀ b o, X.base.get? b = some o → s'.heap.get? b = some o := fun I' => I'.bk
  refine raise_young (C := C) (nm := nm) (qn := qn) (N := N) (bs := bs) (bm := bm) (hd := hdct) (sn := sn) (sub := sub) (ab := ab) (col := col) (dd := dd) (k0 := k0) (k1 := k1) (k2 := k2) (k3 := k3) (k5 := k5) F.excBase_ValueError (T.hasType rfl) (I.ok.hd hc) (by rw [he]; show (false || (backTo cpos (starEach es X.env)).any (·.1)) = false; rw [hpl]; rfl) hni (ld_glob I hg c.1 ⟨rfl, ?_⟩ hdb)
  have h0 := ha cpos pins s σ H _ I h
  rw [show starEach (e :: es) (X.exc pn E).env = (false, eval e X.env) :: starEach es X.env from he] at h0 ⊢
  refine Calls.evalArgs_plain (thn h0 fun us s1 ⟨vs, H1, I1, r, hz, q⟩ => ⟨rfl, ?_, kp I1 _ _ hC, hN.keeps (kp I1), T.keeps (kp I1), fun h' a m y => made_exc I1 m y q⟩)
  rw [← r.length]
  exact Nat.le_of_lt (small1000 hz)
end
end L2
set_option Elab.async false
set_option linter.all false
set_option maxRecDepth 100000
namespace L2
open PySem PySem.Spec PyProof.Rows
section
variable {M : Model} {A : Around} {E : Value → Shared → Prop} {h : Heap} {g : Array GenState} {d : Drawn} {tk : Nat} {os : OsState}
variable {nm qn nm' qn' : Str} {C N D N' : Addr} {bs bm bs' bm' : List Value} {hd hd' : Bool} {sn sn' : List Str} {sub sub' : List Value} {ab ab' : Bool} {col col' : Option Bool} {dd dd' : Option Addr} {k0 k1 k2 k3 k5 j0 j1 j2 j3 j5 : Option Value} {newId newId' : String}
theorem exc_matches {x : Addr} {oe : Obj} {Q : Bool → Shared → Prop} (hC : h.get? C = some (excClassObj nm qn C N bs bm hd sn sub ab col dd k0 k1 k2 k3 k5 newId)) (he : h.get? x = some oe) (hcls : oe.cls = .ref C)
    (hD : h.get? D = some (excClassObj nm' qn' D N' bs' bm' hd' sn' sub' ab' col' dd' j0 j1 j2 j3 j5 newId')) (hb : bm'.contains (.type "BaseException") = true)
    (hq : Q ((Value.ref C :: bm).contains (.ref D)) ⟨h, g, d, tk, os⟩) : wpAny M A (excMatches (.ref x) (.ref D)) Q E ⟨h, g, d, tk, os⟩ := by
  have cb : (Value.ref D :: bm').contains (.type "BaseException") = true := by rw [List.contains_cons, hb, Bool.or_true]
  have f := tc_notTuple
  generalize hr : (Value.ref C :: bm).contains (.ref D) = r at hq
  unfold excMatches
  repeat (first | (with_reducible refine wpAny_loadPart_at he ?_; rw [hcls]) | with_reducible refine wpAny_loadPart_at hD ?_ | with_reducible refine wpAny_loadPart_at hC ?_ | (with_reducible refine wpAny_isSubtype_exc hD ?_; rw [cb]) | (with_reducible refine wpAny_isSubtype_exc hC ?_; rw [hr]) | wp_step)
  cases r <;> (wp_walk; exact hq)
end
def subX (K : PySem.W.Frag) (cls : Value) (D : Addr) : Option Bool := match cls with
  | .ref C => (match K.lookup C with | some ⟨_, _, .cls cd, _⟩ => some (cd.mro.contains (.ref D)) | _ => none)
  | _ => none
theorem subX_of {K : PySem.W.Frag} {C D : Addr} {c : Value} {d : Option Addr} {cd : ClassData} {sl : Array (Option Value)} {b : Bool} (l : K.lookup C = some ⟨c, d, .cls cd, sl⟩) (e : cd.mro.contains (.ref D) = b) : subX K (.ref C) D = some b := by
  unfold subX
  simp only
  rw [l]
  exact congrArg some e
section
variable {X : Cx} {pins : List (Addr × Obj)} {σ : St} {H : Hp} {s : Shared}
theorem match_ok {A : Around} {E : Value → Shared → Prop} {C D x : Addr} {fl : Value} {b : Bool} {Q : Bool → Shared → Prop} (I : Inv X pins σ H s) (e : ExcT X pins H s.heap x (.ref C) fl)
    (cC : PySem.W.excIn X.K C bmVE "ValueError.__new__" = true) (cD : PySem.W.excIn X.K D bmVE "ValueError.__new__" = true) (hs : subX X.K (.ref C) D = some b) (q : Q b s) :
    wpAny (model X.prog X.w) A (excMatches (.ref x) (.ref D)) Q E s := by
  obtain ⟨bm, N, nm, qn, bs, hdct, sn, sub, ab, col, dd, k0, k1, k2, k3, k5, mN, hC, _, _, T, lC⟩ := exc_of_in I.mod.kin cC
  obtain ⟨bm', N', nm', qn', bs', hdct', sn', sub', ab', col', dd', j0, j1, j2, j3, j5, mN', hD, _, _, T', _⟩ := exc_of_in I.mod.kin cD
  obtain ⟨_, t, Tb, ex, _⟩ := e
  have e1 : some ((Value.ref C :: bm).contains (.ref D)) = some b := by
    unfold subX at hs
    simp only at hs
    rw [lC] at hs
    exact hs
  have e2 := Option.some.inj e1
  obtain ⟨hp, g, d, tk, os⟩ := s
  exact exc_matches (I.bk _ _ hC) ex rfl (I.bk _ _ hD) (T'.hasType rfl) (by rw [e2]; exact q)
end
abbrev Cx.hnd (X : Cx) (pins : List (Addr × Obj)) (x : Addr) (o : Obj) : Cx := { X with A := X.A.mark (some (.ref x)), calm := false, xe := fun _ _ => False, pn := X.pn ++ pins ++ [(x, o)] }
theorem Cx.Ok.hnd {X : Cx} {pins : List (Addr × Obj)} {x : Addr} {o : Obj} (ok : X.Ok) : (X.hnd pins x o).Ok :=
  ⟨ok.mod, ok.kind, ok.glob, ok.blt, ok.above, ok.inj, ok.has, ok.cab, (fun h => by cases h), ok.frames, ok.stk, ok.exf, ok.bs, ok.bsz, ok.noex, ok.exfs, ok.funs, ok.frf⟩
theorem Cx.Ok.unhnd {X : Cx} {pins : List (Addr × Obj)} {x : Addr} {o : Obj} (hc : X.calm = true → X.A.handled = none) (ok : (X.hnd pins x o).Ok) : X.Ok :=
  ⟨ok.mod, ok.kind, ok.glob, ok.blt, ok.above, ok.inj, ok.has, ok.cab, hc, ok.frames, ok.stk, ok.exf, ok.bs, ok.bsz, ok.noex, ok.exfs, ok.funs, ok.frf⟩
section
variable {X : Cx} {pins : List (Addr × Obj)} {σ : St} {H : Hp} {s : Shared}
theorem Inv.hnd {x t T : Addr} {cls : Value} (I : Inv X pins σ H s) (f : FpOk X pins H x) (ex : s.heap.get? x = some (xObj cls t (.ref T))) : Inv (X.hnd pins x (xObj cls t (.ref T))) [] σ H s :=
  ⟨I.ok.hnd, I.os, I.bare, I.base, I.loc, I.cell, I.free, I.freeC, fun p hp => by
    rw [List.append_nil] at hp
    rcases List.mem_append.mp hp with hp | hp
    · exact I.pin p hp
    · rcases List.mem_singleton.mp hp with rfl
      exact ⟨ex, f.1, f.2.1, f.2.2.1, fun v z => by cases z⟩, I.hok, I.len⟩
theorem Inv.unhnd {pl : List (Addr × Obj)} {x : Addr} {o : Obj} {σ' : St} {H' : Hp} {s' : Shared} (hc : X.calm = true → X.A.handled = none) (I : Inv (X.hnd pins x o) pl σ' H' s') : Inv X pins σ' H' s' :=
  ⟨I.ok.unhnd hc, I.os, I.bare, I.base, I.loc, I.cell, I.free, I.freeC, fun p hp => I.pin p (List.mem_append_left _ (List.mem_append_left _ hp)), I.hok, I.len⟩
end
abbrev TH := Ends → Value → St → Hp → Prop
def PH (X : Cx) (hs : List ExceptHandler) (th : TH) : Prop :=
  ∀ (pins : List (Addr × Obj)) (s : Shared) (σ : St) (H : Hp) (D : Ends) (x : Addr) (cls : Value), Inv X pins σ H s → ExcT X pins H s.heap x cls .none → th D cls σ H →
    wpAny (model X.prog X.w) X.A (handleBy (.ref x) X.env hs) (SP X pins D) X.xe s
theorem ph_nil {X : Cx} : PH X [] (fun _ _ _ _ => False) := fun _ _ _ _ _ _ _ _ _ h => h.elim
def tTry (tb : List (Addr × Obj) → (St → XK) → TS) (to : TS) (th : TH) : TS := fun D σ H => ∃ E' : St → XK, (∀ pins, tb pins E' { D with nx := to D } σ H) ∧ ∀ σ' cls H', E' σ' cls none H' → th D cls σ' H'
theorem ps_tryE {X : Cx} {body orelse : List Stmt} {h0 : ExceptHandler} {hs : List ExceptHandler} {pos : Pos} {tb : List (Addr × Obj) → (St → XK) → TS} {to : TS} {th : TH} (O : Own X) (hb : ∀ pins E', PSs (X.exc pins E') body (tb pins E')) (ho : PSs X orelse to) (hh : PH X (h0 :: hs) th) :
    PS X (.Try body (h0 :: hs) orelse [] pos) (tTry tb to th) := by
  intro pins s σ H D I q
  obtain ⟨E', q1, q2⟩ := q
  have I0 : Inv (X.exc pins E') [] σ H s := Inv.exc (by rw [List.append_nil]; exact I)
  have back : ∀ {σ' : St} {H' : Hp} {s' : Shared}, Inv (X.exc pins E') [] σ' H' s' → Inv X pins σ' H' s' := fun I' => by
    have := I'.unexc
    rwa [List.append_nil] at this
  refine wpAny_Try_except (wpAny_mono (hb pins E' [] s σ H _ I0 (q1 pins)) (fun f s1 sp => ?_) (fun e s1 x => ?_))
  · cases f with
    | next =>
      obtain ⟨σ', H', I', q'⟩ := sp
      exact ho pins s1 σ' H' D (back I') q'
    | brk => obtain ⟨σ', H', I', q'⟩ := sp; exact ⟨σ', H', back I', q'⟩
    | cont => obtain ⟨σ', H', I', q'⟩ := sp; exact ⟨σ', H', back I', q'⟩
    | ret v => obtain ⟨v', σ', H', I', r, q'⟩ := sp; exact ⟨v', σ', H', back I', r, q'⟩
  · obtain ⟨σ1, H1, x, cls, rfl, I1, ex, q'⟩ := x
    refine note_exc O rfl I1 ex fun s2 I2 e2 => ?_
    refine flight_exc (fr := none) I2 e2 fun s3 I3 e3 => ?_
    exact hh pins s3 σ1 H1 D x cls I3 e3 (q2 σ1 cls H1 q')
theorem ps_try {X : Cx} {body : List Stmt} {h0 : ExceptHandler} {hs : List ExceptHandler} {pos : Pos} {tb : List (Addr × Obj) → (St → XK) → TS} {th : TH} (O : Own X) (hb : ∀ pins E', PSs (X.exc pins E') body (tb pins E')) (hh : PH X (h0 :: hs) th) :
    PS X (.Try body (h0 :: hs) [] [] pos) (tTry tb tNext th) := ps_tryE O hb pss_nil hh
end L2
set_option Elab.async false
set_option linter.all false
set_option maxRecDepth 100000
namespace L2
open PySem PySem.Spec PyProof.Rows
def HdOk (base : Heap) (A : Around) : Prop := A.handled = none ∨ ∃ x o vs, A.handled = some (.ref x) ∧ base.get? x = some o ∧ o.data = .fields vs ∧ vs[2]? = some .none
theorem entry_unchain : entryFor table "proto.unchain" = some Builtin.«proto.unchain» := entryFor_of_fast (by kernel_rfl)
section
variable {prog : Program} {w : World} {A : Around} {E : Value → Shared → Prop} {s : Shared}
theorem raise_over {α : Type} {a x : Addr} {oa ox : Obj} {ws vs : Array Value} {Q : α → Shared → Prop} (hh : A.handled = some (.ref x)) (hx : s.heap.get? x = some ox) (dx : ox.data = .fields vs) (h2 : vs[2]? = some .none) (ha : s.heap.get? a = some oa) (da : oa.data = .fields ws) (hz : 2 < ws.size) (hax : a ≠ x)
    (h : ∀ h', Heap.SameBut a s.heap h' → (∃ o', h'.get? a = some o' ∧ o'.cls = oa.cls) → E (.ref a) { s with heap := h' }) : wpAny (model prog w) A (raiseNew (.ref a) : Sem α) Q E s := by
  unfold raiseNew
  refine wpAny_bind (wpAny_handled ?_)
  rw [hh]
  show wpAny (model prog w) A (if (Value.ref x != Value.ref a) = true then (do
    let _ ← holding [Value.ref a] (runValue (Code.builtin "proto.unchain" { pos := [Value.ref a, .ref x, .ref x, Value.bool false] }))
    updateField a 2 (.ref x)
    throw (Value.ref a)) else throw (Value.ref a)) Q E s
  rw [if_pos (show (Value.ref x != Value.ref a) = true from by simp [Ne.symm hax])]
  refine wpAny_bind (wpAny_holding (wpAny_runValue (codeAny_builtin entry_unchain ?_)))
  unfold Builtin.«proto.unchain»
  refine wpAny_bind (wpAny_field hx dx h2 ?_)
  rw [if_pos (show (Value.none == Value.none) = true from rfl)]
  refine wpAny_pure ?_
  have upd2 : ∀ {Q' : Unit → Shared → Prop}, Q' () { s with heap := s.heap.update a (Obj.mapFields (·.setIfInBounds 2 (.ref x))) } → wpAny (model prog w) A (updateField a 2 (.ref x)) Q' E s := fun {Q'} q => by
    have := wpAny_setField (M := model prog w) (A := A) (E := E) (s := s) (i := 2) (x := .ref x) ha da hz q
    exact this
  refine wpAny_bind (upd2 (wpAny_throw (h _ (Heap.SameBut.update ..) ⟨_, Heap.get?_update_self _ ha (Obj.isFreed_of_fields (Obj.data_mapFields da _)), Obj.cls_mapFields ..⟩)))
theorem list_end {base : Heap} {it l : Addr} {i : Nat} {items : Array Value} {Q : Option Value → Shared → Prop} (hh : HdOk base A) (kb : ∀ b o, base.get? b = some o → s.heap.get? b = some o) (hit : s.heap.IsListIter it l i) (hne : base.get? it = none) (hl : s.heap.IsList l items) (hx : items[i]? = none)
    (hQ : ∀ h', Heap.ExtBut it s.heap h' → Q none { s with heap := h' }) : wpAny (model prog w) A (pyNext (.ref it)) Q E s := by
  rcases hh with hh | ⟨x, ox, vs, hh, bx, dx, h2⟩
  · exact wpAny_pyNext_list_end hh hit hl hx hQ
  · obtain ⟨o, ho, hc, hd⟩ := id hit
    obtain ⟨ol, hol, _, nl, hdl⟩ := hl
    have hxi : x ≠ it := fun z => by rw [z, hne] at bx; cases bx
    have ex := kb x ox bx
    unfold pyNext
    refine wpAny_bind (wpAny_attempt (wpAny_callSpecial?_slot (name := Str.ofString "__next__") hit.typeIs slot_listiter_next (wpAny_call_entry slot_listiter_next hit.typeIs entry_listiter_next ?_ (args_listiter_next _))))
    show wpAny _ _ (field (.ref it) 0 >>= fun _ => _) _ _ s
    refine wpAny_bind (wpAny_field ho hd (x := .ref l) rfl ?_)
    show wpAny _ _ (if (Value.ref l == Value.none) = true then _ else _) _ _ _
    rw [if_neg (show ¬ ((Value.ref l == Value.none) = true) from by simp)]
    show wpAny _ _ (field (.ref it) 1 >>= fun _ => _) _ _ s
    refine wpAny_bind (wpAny_field ho hd (x := .int i 0) rfl ?_)
    show wpAny _ _ (seqItems? (.ref l) >>= fun _ => _) _ _ s
    refine wpAny_bind (wpAny_seqItems hol hdl ?_)
    simp only [Int.toNat_natCast, hx]
    refine wpAny_bind (wpAny_rule (wpAny_bind (wpAny_setField ho hd (by simp) ?_)))
    show wpAny _ _ (newExc (.type "StopIteration") [] >>= fun _ => _) _ _ _
    refine wpAny_bind ?_
    simp only [newExc, newTuple]
    refine wpAny_bind (wpAny_newObj_type ?_ (by size_fits))
    refine wpAny_bind (m := firstArgMember _ _) (wpAny_of_eq (a := Value.none) (by first | rfl | (simp only [firstArgMember]; rfl)) (wpAny_newObj_type ?_ (by size_fits)))
    generalize hg : s.heap.update it _ = g1
    have e1 : Heap.ExtBut it s.heap g1 := by rw [← hg]; exact (Heap.SameBut.update ..).extBut
    have x1 := e1 x ox hxi ex
    refine raise_over (A := A.in1) hh (Heap.get?_push_of_some _ (Heap.get?_push_of_some _ x1)) dx h2 (Heap.get?_push_size _ rfl) rfl (by simp; omega) (Nat.ne_of_gt (by rw [Heap.size_push]; exact Nat.lt_succ_of_lt (Heap.lt_size x1))) fun h' sb ⟨o', ho', hc'⟩ => ?_
    refine wpAny_bind (wpAny_isInstance (T := "StopIteration") (b := true) ⟨o', ho', hc'⟩ isSubtype_stop ?_)
    refine wpAny_pure (hQ _ fun b ob hb e => ?_)
    exact sb.extBut b ob (Nat.ne_of_lt (by rw [Heap.size_push]; exact Nat.lt_succ_of_lt (Heap.lt_size (e1 b ob hb e)))) (Heap.get?_push_of_some _ (Heap.get?_push_of_some _ (e1 b ob hb e)))
end
end L2
set_option Elab.async false
set_option linter.all false
set_option maxRecDepth 100000
namespace L2
open PySem PySem.Spec PyProof.Rows
def Mild (X : Cx) : Prop := HdOk X.base X.A
theorem turn_listM {P : Program} {w : World} {K : PySem.W.Frag} {tg : Expr} (a it : Addr) : TurnC Mild P w K tg (Itl K a) [it] it (fun i h => h.IsListIter it a i) where
  mem := by simp
  obj := (turn_list (P := P) (w := w) (K := K) (tg := tg) a it).obj
  keep := (turn_list (P := P) (w := w) (K := K) (tg := tg) a it).keep
  item := by
    intro X hP hw hK hc i pins s σ H E I hf st hg
    subst hP hw hK
    obtain ⟨xs, x, hq, hx⟩ := hg
    obtain ⟨its, rv, p, hz⟩ := I.list hq
    obtain ⟨u, hu, ru⟩ := rv.get hx
    obtain ⟨f0, f1, f2, f3, f4, f5⟩ := hf it (by simp)
    refine wpAny_pyNext_list_item st p.isList (x := u) (by simpa using hu) fun h' st' sb => ?_
    have I1 : Inv X pins σ H { s with heap := h' } := I.turned (t' := s.toks) (fun b o hb e => (sb.2 b hb).trans e) f0 f1 f3 f4 f5
    obtain ⟨o, e, c, d⟩ := id st'
    exact ⟨u, rfl, go_of (s := { s with heap := h' }) e c d (by decide) ⟨x, H, I1, ru, ⟨rfl, fun ys hy => by rw [I.list_inj hy hq]; exact hx⟩, st', fun b hb => (hf b hb).1⟩⟩
  done := by
    intro X hP hw hK hc i pins s σ H E I hf st hg
    subst hP hw hK
    obtain ⟨xs, hq, hx⟩ := hg
    obtain ⟨its, rv, p, hz⟩ := I.list hq
    obtain ⟨f0, f1, f2, f3, f4, f5⟩ := hf it (by simp)
    have hl := rv.length
    refine list_end hc I.bk st ?_ p.isList (by simp; omega) fun h' eb => ⟨rfl, I.turned (t' := s.toks) (fun b o hb e => eb b o hb e) f0 f1 f3 f4 f5⟩
    cases q : X.base.get? it with
    | none => rfl
    | some o =>
      rcases f3 with z | z
      · exact absurd z (I.ok.noex it o q)
      · exact absurd (Heap.lt_size q) (Nat.not_lt.mpr (Nat.le_trans I.ok.bsz z))
  self := fun _ _ _ _ _ st h => wpAny_pyIter_listiter st h
theorem pi_listM {X : Cx} {tg l : Expr} {tl : TE} (hl : PE X l tl) : PIC Mild X tg l (iList X.K tl) := by
  intro pins s σ H R I h
  refine thn (hl pins s σ H _ I h) fun v s1 ⟨x, H1, I1, r1, q1⟩ => ?_
  obtain ⟨a, rfl, ⟨xs, hq⟩, q⟩ := q1
  cases r1
  obtain ⟨its, rv, p, hz⟩ := I1.list hq
  refine wpAny_pyIter_list p.isList ⟨_, [s1.heap.objs.size], _, Itl X.K a, H1, rfl, I1.kept (t' := s1.toks) fun b o e => Heap.get?_push_of_some _ e, turn_listM a _, ⟨_, Heap.get?_push_size _ rfl, rfl, rfl⟩, fun b hb => ?_, q⟩
  rcases List.mem_singleton.mp hb with rfl
  exact I1.fpOk (Nat.le_refl _) I1.fresh
structure RoomM (k : Nat) (A : Around) : Prop where
  dp : A.depth + 3 * k + 5 < recursionLimit
  un : A.units + 16 * k + 200 < cLine
theorem Room.m {k : Nat} {A : Around} (r : Room k A) : RoomM k A := ⟨r.dp, r.un⟩
def Around.still (A : Around) : Around := { A with handled := none }
theorem RoomM.still {k : Nat} {A : Around} (r : RoomM k A) : Room k (Around.still A) := ⟨rfl, r.dp, r.un⟩
theorem RoomM.deeper {k : Nat} {A : Around} (r : RoomM (k + 1) A) (env : Env) : RoomM k (A.deeper env) := ⟨(r.still.deeper env).dp, (r.still.deeper env).un⟩
def cxM (P : Program) (w : World) (K : PySem.W.Frag) (mg : Str → Option Value) (base : Heap) (N : List Str) (qual : Str) (scope : Scope) (f : Addr) (cd : Value) (A : Around) (outer : List Env) (s : Shared) (H : Hp) : Cx :=
  { cxOf CX0 P w K mg base N qual scope f cd A outer s H E0 with calm := false, xe := fun _ _ => False }
def FnOkM (P : Program) (w : World) (K : PySem.W.Frag) (mg : Str → Option Value) (base : Heap) (k : Nat) (f : Addr) (fd : FuncData) (ps : List Str) (sp : Sp) : Prop :=
  (∀ vs H Q E, sp vs H Q E → vs.length = ps.length) ∧ ∀ (A : Around) (outer : List Env) (s : Shared) (H : Hp) (args : Args) (us : List Value) (vs : List V) (Q : VK), RoomM k A → HdOk base A → Env0 P w K mg base A outer s H → BindsTo s fd args (ps.zip us) → Vals vs us → sp vs H Q E0 →
    codeAny (model P w) A (.call (.ref f) args) (CR CX0 outer P w H s Q E0) s
def GFm (P : Program) (w : World) (K : PySem.W.Frag) (mg : Str → Option Value) (base : Heap) (k : Nat) (x : Str) (ps : List Str) (sp : Sp) : Prop :=
  ∃ f fd, mg x = some (.ref f) ∧ PySem.W.keepIn K (.ref f) = true ∧ Binds K fd ps [] ∧ FnOkM P w K mg base k f fd ps sp
section
variable {P : Program} {w : World} {K : PySem.W.Frag} {mg : Str → Option Value} {base : Heap}
theorem fn_ofM {k : Nat} {f : Addr} {name qual : Str} {params : Arguments} {body : List Stmt} {scope : Scope} {dV kV doc pm cdv ct oc : Value} {an od : Option Addr}
    {osl : Array (Option Value)} {N ps : List Str} {sp : Sp} (lk : K.lookup f = some ⟨oc, od, .func (PySem.W.fnOf name qual params body scope dV kV doc pm an cdv ct), osl⟩) (hcd : PySem.W.codeIn K cdv qual = true) (S : FnScope N ps scope)
    (len : ∀ vs H Q E, sp vs H Q E → vs.length = ps.length)
    (hbody : ∀ (A : Around) (outer : List Env) (s : Shared) (H : Hp) (vs : List V) (Q : VK), RoomM k (A.deeper (envOfC qual scope s.heap.objs.size f cdv)) → HdOk base (A.deeper (envOfC qual scope s.heap.objs.size f cdv)) → sp vs H Q E0 →
      ∃ t, PSs (cxM P w K mg base N qual scope f cdv A outer s H) body t ∧ t { nx := fun _ H' => Q .non H', rt := Q } (start N vs) H) :
    FnOkM P w K mg base (k + 1) f (PySem.W.fnOf name qual params body scope dV kV doc pm an cdv ct) ps sp := by
  refine ⟨len, fun A outer s H args us vs Q hr hd e0 hb r hsp => ?_⟩
  have hl := len _ _ _ _ hsp
  have KX : K.In s.heap := e0.mod.kin.keeps fun b o e => (e0.bs b o e).1
  have lim : s.heap.NoLimit := e0.mod.nolimit.keeps fun b o e => (e0.bs b o e).1
  have hkind : ∀ y ∈ ps.zip us, scope.names.lookup y.1 = some .local ∨ (scope.names.lookup y.1 = some .cell ∧ ((cellsFrom (s.heap.objs.size + 1) scope.names []).lookup y.1).isSome = true) := fun ⟨n, v⟩ hy => by
    rcases S.par n (List.of_mem_zip hy).1 with q | q
    · exact .inl q
    · exact .inr ⟨q, PySem.W.cellsFrom_some _ _ _ (.inl q)⟩
  refine codeAny_call_function (A := A) hr.still.depth (KX _ _ lk) rfl S.co S.gen rfl (PySem.W.codeRec_of KX hcd) (hb _ _ _ _ ?_)
  refine wpAny_newFunctionEnv_cells S.kind hkind fun env he s1 x => ?_
  subst he
  refine ⟨lim.keeps x.toInCall.keep, codeAny_func ?_⟩
  obtain ⟨t, ht, hq⟩ := hbody A outer s H vs Q (hr.deeper _) hd hsp
  have e1 : Env0 P w K mg base (Around.still A) outer s H := ⟨e0.frames, e0.mod, e0.bs, e0.bsz, e0.funs, e0.frf, e0.hok, e0.bare⟩
  have I0 := inv_start (CX := CX0) (E := E0) (f := f) (cd := cdv) (qual := qual) S rfl e1 hl r x
  have I : Inv (cxM P w K mg base N qual scope f cdv A outer s H) [] (start N vs) H s1 :=
    ⟨⟨I0.ok.mod, I0.ok.kind, I0.ok.glob, I0.ok.blt, I0.ok.above, I0.ok.inj, I0.ok.has, I0.ok.cab, (fun h => by cases h), Around.frames_deeper e0.frames, I0.ok.stk, I0.ok.exf, I0.ok.bs, I0.ok.bsz, I0.ok.noex, I0.ok.exfs, I0.ok.funs, I0.ok.frf⟩,
      I0.os, I0.bare, I0.base, I0.loc, I0.cell, I0.free, I0.freeC, I0.pin, I0.hok, I0.len⟩
  refine wpAny_mono (ht [] s1 (start N vs) H _ I hq) (fun fl s' hs => ?_) fun e s' hs => hs.elim
  have fin : ∀ {σ' : St} {H' : Hp} {v : V} {u : Value}, Inv (cxM P w K mg base N qual scope f cdv A outer s H) [] σ' H' s' → RelV v u → Q v H' → CE outer P w H s Q u s' :=
    fun {σ' H' v u} J rv q => ⟨v, H', J.os, J.bare, J.base, J.hok, rv, q⟩
  cases fl with
  | ret u =>
    obtain ⟨v, σ', H', J, rv, q⟩ := hs
    exact fin J rv q
  | next =>
    obtain ⟨σ', H', J, q⟩ := hs
    exact fin (v := V.non) (u := Value.none) J rfl q
  | brk => obtain ⟨_, _, _, q⟩ := hs; exact q.elim
  | cont => obtain ⟨_, _, _, q⟩ := hs; exact q.elim
theorem gfm_of {x : Str} {st : Stmt} {N ps : List Str} {k : Nat} {sp : Sp} (h : TF K mg x st) (S : FnScope N ps (defScope st))
    (hb : ∀ (kV doc pm : Value) (an : Option Addr) (cdv ct : Value) (us : List Value), us.length = ps.length → bindArgs (PySem.W.fnOf x x (defArgs st) (defBody st) (defScope st) .none kV doc pm an cdv ct) ⟨us, []⟩ = pure (ps.zip us))
    (len : ∀ vs H Q E, sp vs H Q E → vs.length = ps.length)
    (hbody : ∀ (f : Addr) (cdv : Value) (A : Around) (outer : List Env) (s : Shared) (H : Hp) (vs : List V) (Q : VK), RoomM k (A.deeper (envOfC x (defScope st) s.heap.objs.size f cdv)) → HdOk base (A.deeper (envOfC x (defScope st) s.heap.objs.size f cdv)) → sp vs H Q E0 →
      ∃ t, PSs (cxM P w K mg base N x (defScope st) f cdv A outer s H) (defBody st) t ∧ t { nx := fun _ H' => Q .non H', rt := Q } (start N vs) H) : GFm P w K mg base (k + 1) x ps sp := by
  obtain ⟨f, fd, hm, F⟩ := h
  obtain ⟨oc, od, kV, doc, pm, an, cdv, ct, osl, rfl, lk, hcd⟩ := id F.ex
  exact ⟨f, _, hm, F.kp, F.binds hb, fn_ofM lk hcd S len fun A outer s H vs Q hr hd hs => hbody f cdv A outer s H vs Q hr hd hs⟩
end
end L2
set_option Elab.async false
set_option linter.all false
set_option maxRecDepth 100000
namespace L2
open PySem PySem.Spec PyProof.Rows PySem.W
structure EC (K : Frag) (C : Addr) : Prop where
  ga : findIn K (.ref C) "__getattribute__" = some (some (.builtin "BaseException.__getattribute__"))
  gn : findIn K (.ref C) "__getattr__" = some none
  cl : findIn K (.ref C) "__class__" = some (some (.builtin "object.__class__"))
  sb : subIn K (.ref C) (.type "BaseException") = some true
  so : subIn K (.ref C) (.type "object") = some true
section
variable {prog : Program} {w : World} {A : Around} {E : Value → Shared → Prop} {K : Frag} {h : Heap} {g : Array GenState} {d : Drawn} {tk : Nat} {os : OsState} {a C : Addr} {o : Obj}
theorem xcls_get {R : Result → Shared → Prop} (X : K.In h) (c : EC K C) (hx : h.get? a = some o) (hc : o.cls = .ref C) (hq : R (.ok (.ret (.ref C))) ⟨h, g, d, tk, os⟩) :
    codeAny (model prog w) A (.call (.builtin "getset_descriptor.__get__") ⟨[.builtin "object.__class__", .ref a, .ref C], []⟩) R ⟨h, g, d, tk, os⟩ := by
  have t5 : (⟨h, g, d, tk, os⟩ : Shared).TypeIs (.builtin "object.__class__") "getset_descriptor" := F.typeOf_object_class
  have so : Looks (model prog w) h (isSubtype (.ref C) (.type (".".intercalate ("object.__class__".cutAt '.').dropLast))) true := by
    rw [F.owner_object_class]
    exact looks_subIn X c.so
  refine codeAny_call_builtin F.slot_gs_get.plain F.entry_gs_get (F.slot_gs_get.check _ _ _ _ _ _ _ _ t5 (F.args_gs_get _ _ _) ?_)
  repeat (any_goals (first | assumption | (with_reducible refine wpAny_loadPart_at hx ?_; rw [hc]) | with_reducible refine so.at ?_ | wp_step))
  refine ⟨Code.quiet_builtin _ (by decide +kernel), codeAny_builtin F.entry_object_class ?_⟩
  repeat (any_goals (first | assumption | (with_reducible refine wpAny_loadPart_at hx ?_; rw [hc]) | wp_step))
theorem xcls_entry {t : Tok} {Q : PySem.Fin → Shared → Prop} (X : K.In h) (c : EC K C) (hx : h.get? a = some o) (hc : o.cls = .ref C) (hq : Q (.done (.ret (.ref C))) ⟨h, g, d, tk, os⟩) :
    wpAny (model prog w) A (Builtin.«object.__getattribute__» ⟨[.ref a, .str "__class__" t], []⟩) Q E ⟨h, g, d, tk, os⟩ := by
  have t5 : (⟨h, g, d, tk, os⟩ : Shared).TypeIs (.builtin "object.__class__") "getset_descriptor" := F.typeOf_object_class
  have f4 := looks_findIn (M := model prog w) X c.cl
  have f5 := F.typeOf_object_class
  have f6 := F.slot_gs_get.lookup
  have f7 := F.slot_gs_set.lookup
  repeat (any_goals (first | assumption | (with_reducible refine wpAny_loadPart_at hx ?_; rw [hc]) | with_reducible refine f4.at ?_ | wp_step))
  refine xcls_get X c hx hc ?_
  repeat (any_goals (first | assumption | wp_step))
theorem xcls_check {nameV : Value} {Q : Unit → Shared → Prop} (X : K.In h) (c : EC K C) (hx : h.get? a = some o) (hc : o.cls = .ref C) (hq : Q () ⟨h, g, d, tk, os⟩) : wpAny (model prog w) A (checkBuiltinCall "BaseException.__getattribute__" ⟨[.ref a, nameV], []⟩) Q E ⟨h, g, d, tk, os⟩ := by
  have hk : builtinKind "BaseException.__getattribute__" = some .slot := by decide +kernel
  have hs : splitId "BaseException.__getattribute__" = some ("BaseException", "__getattribute__") := by decide +kernel
  have sb := looks_subIn (M := model prog w) X c.sb
  have ha := F.args_bexc_ga (.ref a) nameV
  simp only [checkBuiltinCall, hk, hs]
  refine wpAny_bind ?_
  unfold isInstance
  repeat (first | (with_reducible refine wpAny_loadPart_at hx ?_; rw [hc]) | with_reducible refine sb.at ?_ | wp_step)
  exact hq
theorem xcls_by {t : Tok} {Q : Value → Shared → Prop} (X : K.In h) (c : EC K C) (hx : h.get? a = some o) (hc : o.cls = .ref C) (hq : Q (.ref C) ⟨h, g, d, tk, os⟩) : wpAny (model prog w) A (getAttrBy (.ref a) (.str "__class__" t) false) Q E ⟨h, g, d, tk, os⟩ := by
  have f1 := looks_findIn (M := model prog w) X c.ga
  have f2 := looks_findIn (M := model prog w) X c.gn
  have f3 := F.attrBase_ValueError.ga.bind (.ref a)
  have x2 : (Value.builtin "BaseException.__getattribute__" == Value.builtin "object.__getattribute__") = false := by decide +kernel
  have x1 : (onTheHeap (Value.ref C) && Value.builtin "BaseException.__getattribute__" == Value.builtin "object.__getattribute__") = false := by rw [x2]; rfl
  repeat (any_goals (first | assumption | (with_reducible refine wpAny_loadPart_at hx ?_; rw [hc]) | with_reducible refine f1.at ?_ | with_reducible refine f2.at ?_ | wp_step))
  refine codeAny_call_builtin F.attrBase_ValueError.ga.plain F.entry_bexc_ga (xcls_check X c hx hc (xcls_entry X c hx hc ?_))
  repeat (any_goals (first | assumption | wp_step))
theorem xcls_attr {Q : Option Value → Shared → Prop} (X : K.In h) (c : EC K C) (hx : h.get? a = some o) (hc : o.cls = .ref C) (hq : Q (some (.ref C)) ⟨h, g, d, tk + 1, os⟩) : wpAny (model prog w) A (getAttr? (.ref a) "__class__") Q E ⟨h, g, d, tk, os⟩ := by
  unfold getAttr? getAttrBy?
  repeat (any_goals (first | assumption | with_reducible apply xcls_by X c hx hc | wp_step))
end
theorem kitx_exc {K : Frag} {x C : Addr} (c : EC K C) (l : ∃ c0 d0 cd sl, K.lookup C = some ⟨c0, d0, .cls cd, sl⟩) : KitX K (.ref x) (.ref C) (fun h => ∃ o, h.get? x = some o ∧ o.cls = .ref C) where
  ty := fun M h _ ⟨o, h1, h2⟩ => h2 ▸ (Looks.ld h1).andThen .now
  it := fun _ _ X _ => by
    obtain ⟨c0, d0, cd, sl, ho⟩ := l
    intro A' Q' E' s' k q
    unfold isType loadHead
    exact wpAny_bind (wpAny_loadPart (k _ _ (X _ _ ho)) (wpAny_pure q))
  ne := fun h tp dd its n sl X htp => by
    obtain ⟨c0, d0, cd, sl', ho⟩ := l
    refine Bool.eq_false_iff.mpr fun q => ?_
    have e : C = tp := Value.ref.inj (beq_iff_eq.mp q)
    subst e
    have z := (X _ _ ho).symm.trans htp
    cases z
  ca := fun {prog w A E Q s} X p k => by
    obtain ⟨o, h1, h2⟩ := p
    obtain ⟨h, g, d, tk, os⟩ := s
    exact xcls_attr X c h1 h2 k
theorem call_isiX {X : Cx} : CallR X (.builtin "isinstance") (fun xs H Q => ∃ (x C t : Addr) (tb : Value) (c : V) (cv : Value) (b : Bool), xs = [.ref x, c] ∧ RelV c cv ∧ (∀ u, RelV c u → u = cv) ∧ X.base.get? x = some (xObj (.ref C) t tb) ∧ EC X.K C ∧ (∃ c0 d0 cd sl, X.K.lookup C = some ⟨c0, d0, .cls cd, sl⟩) ∧ kitOne X.K (.ref C) cv = some b ∧ Q (.bl b) H) := by
  intro pins s σ H xs us Q I r h
  obtain ⟨x, C, t, tb, c, cv, b, rfl, rc, hu, hx, ec, l, hk, q⟩ := h
  obtain ⟨u, u2, rfl, ru, ru2⟩ := vals2 r
  cases ru
  have e := hu _ ru2
  subst e
  exact kia_one (kitx_exc ec l) I.kIn ⟨_, I.bk _ _ hx, rfl⟩ hk (fun z => nomatch z) fun tk => ⟨.bl b, H, I.tok tk, rfl, q⟩
end L2
set_option Elab.async false
set_option linter.all false
set_option maxRecDepth 100000
namespace L2
open PySem PySem.Spec PyProof.Rows
def withX (h base : Heap) (x : Addr) : Heap := PySem.W.hideAll h ((List.range h.objs.size).filter fun b => (base.get? b).isNone && b != x)
section
variable {h base : Heap} {x b : Addr} {o : Obj}
theorem withX_size : (withX h base x).objs.size = h.objs.size := PySem.W.hideAll_size _ _
theorem withX_base (k : ∀ b o, base.get? b = some o → h.get? b = some o) (e : base.get? b = some o) : (withX h base x).get? b = some o :=
  PySem.W.hideAll_get _ (k _ _ e) fun z => by
    have := (List.mem_filter.mp z).2
    rw [e] at this
    simp at this
theorem withX_x (e : h.get? x = some o) : (withX h base x).get? x = some o := PySem.W.hideAll_get _ e fun z => by
  have := (List.mem_filter.mp z).2
  simp at this
theorem of_withX (k : ∀ b o, base.get? b = some o → h.get? b = some o) (e : (withX h base x).get? b = some o) : h.get? b = some o ∧ (base.get? b = some o ∨ b = x) := by
  have e' : h.get? b = some o := PySem.W.of_hideAll _ e
  refine ⟨e', ?_⟩
  by_cases hx : b = x
  · exact .inr hx
  · left
    cases q : base.get? b with
    | some o' =>
      have := k b o' q
      rw [e'] at this
      exact this.symm
    | none =>
      have hm : b ∈ (List.range h.objs.size).filter fun b => (base.get? b).isNone && b != x := List.mem_filter.mpr ⟨List.mem_range.mpr (Heap.lt_size e'), by simp [q, hx]⟩
      have z : (withX h base x).get? b = none := PySem.W.hideAll_none _ hm
      rw [z] at e
      cases e
end
def tCallH (sp : Heap → Sp) (x : Addr) (o : Obj) (t : TA) : TE := fun σ H Q => t σ H fun vs H1 => ∀ base' : Heap, base'.get? x = some o → sp base' (vs ++ []) H1 Q E0
section
variable {X : Cx} {pins : List (Addr × Obj)} {k : Nat} {x tt : Addr} {cls tb : Value} {n : Str} {ps : List Str} {sp : Heap → Sp} {p pos : Pos} {e : Expr} {es : List Expr} {t : TA}
theorem pe_callH (F : ∀ base', GFm X.prog X.w X.K X.mg base' k n ps (sp base')) (hr : RoomM k X.A) (ha : PA (X.hnd pins x (xObj cls tt tb)) (e :: es) t) (hg : Gl X n := by rfl) (hdb : (n == ("__debug__" : Str)) = false := by decide)
    (he : starEach (e :: es) X.env = (false, eval e X.env) :: starEach es X.env := by rfl) (hpl : (backTo pos (starEach es X.env)).any (·.1) = false := by rfl) :
    PE (X.hnd pins x (xObj cls tt tb)) (.Call (.Name n p) (e :: es) [] pos) (tCallH sp x (xObj cls tt tb) t) := by
  intro pl s σ H Q I h
  obtain ⟨f, fd, hm, kp, _⟩ := F X.base
  refine wpAny_Call_Name_kw (ld_glob (X := X.hnd pins x (xObj cls tt tb)) I hg hm ?_ hdb)
  refine PySem.W.callWith_K (h₀ := X.base) I.ok.mod.kin kp (thn (ha pos pl s σ H _ I h) fun us s1 ⟨vs, H1, I1, r, q⟩ => ⟨I1.kIn, ?_⟩) he hpl
  have px := I1.pin (x, xObj cls tt tb) (List.mem_append_left _ (List.mem_append_right _ (List.mem_singleton.mpr rfl)))
  have kb : ∀ b o, X.base.get? b = some o → s1.heap.get? b = some o := I1.bk
  generalize hB : withX s1.heap X.base x = B
  have bx : B.get? x = some (xObj cls tt tb) := by rw [← hB]; exact withX_x px.1
  have kB : ∀ b o, X.base.get? b = some o → B.get? b = some o := fun b o e => by rw [← hB]; exact withX_base kb e
  have oB : ∀ b o, B.get? b = some o → s1.heap.get? b = some o ∧ (X.base.get? b = some o ∨ b = x) := fun b o e => by rw [← hB] at e; exact of_withX kb e
  obtain ⟨f', fd', hm', kp', hb, len, run⟩ := F B
  have ef := hm.symm.trans hm'
  cases ef
  have q' := q B bx
  have hl : (us ++ []).length = ps.length := by
    rw [← (r.append (.nil : Vals [] [])).length]
    exact len _ _ _ _ q'
  have md := I1.ok.mod
  have fr : ∀ (l : List Env), (∀ b ∈ frs l, b ∈ frs X.stack) → s1.heap.FunFrames X.base l → s1.heap.FunFrames B l := by
    intro l
    induction l with
    | nil => intro _ _; trivial
    | cons env rest ih =>
      intro hs hl
      obtain ⟨hk, ⟨L, o, hf, hn, ho, hd⟩, hrest⟩ := hl
      have hL : L ∈ frs (env :: rest) := by unfold frs; rw [List.filterMap_cons, hf]; exact List.mem_cons_self
      refine ⟨hk, ⟨L, o, hf, ?_, ho, hd⟩, ih (fun b hb => hs b (by unfold frs; rw [List.filterMap_cons, hf]; exact List.mem_cons_of_mem _ hb)) hrest⟩
      cases z : B.get? L with
      | none => rfl
      | some o' =>
        rcases (oB L o' z).2 with y | y
        · rw [hn] at y; cases y
        · have h1 := I1.stkSub L (hs L hL)
          rw [y] at h1
          rcases List.mem_cons.mp h1 with h2 | h2
          · exact absurd h2 px.2.2.1
          · exact absurd h2 px.2.2.2.1
  have e0 : Env0 X.prog X.w X.K X.mg B (X.A.mark (some (.ref x))) X.stack s1 H1 := {
    frames := I1.ok.frames
    mod := ⟨md.kin.keeps kB, md.glob.keeps kB, let ⟨mb, h1, h2⟩ := md.blt; ⟨mb, h1.keeps kB, h2⟩, md.nolimit.keeps kB⟩
    bs := fun b o e => by
      obtain ⟨h1, h2⟩ := oB b o e
      rcases h2 with h2 | rfl
      · exact ⟨h1, (I1.bs b o h2).2⟩
      · exact ⟨h1, px.2.1⟩
    bsz := by rw [← hB, withX_size]; exact Nat.le_refl _
    funs := fr X.stack (fun b hb => hb) I1.stack
    frf := I1.stkFree
    hok := I1.hok
    bare := I1.bare }
  have hd : HdOk B (X.A.mark (some (.ref x))) := .inr ⟨x, _, _, rfl, bx, rfl, rfl⟩
  refine wpAny_call (codeAny_mono (run (X.A.mark (some (.ref x))) X.stack s1 H1 ⟨us, []⟩ (us ++ []) (vs ++ []) Q ⟨hr.dp, hr.un⟩ hd e0 (hb s1 us (md.kin.keeps kb) hl) (r.append .nil) q') fun r s' hq => ?_)
  cases r with
  | error e => exact hq.elim
  | ok fl =>
    cases fl with
    | ret u => exact I1.after hq
    | next => exact hq.elim
    | brk => exact hq.elim
    | cont => exact hq.elim
end
end L2
set_option Elab.async false
set_option linter.all false
set_option maxRecDepth 100000
namespace L2
open PySem PySem.Spec PyProof.Rows
theorem find_erase {α : Type} {p : α → Bool} : ∀ (l : List α) (i : Nat), (∀ x, l[i]? = some x → p x = false) → (l.eraseIdx i).find? p = l.find? p
  | [], _, _ => rfl
  | x :: r, 0, h => by
    have := h x rfl
    simp [List.find?_cons, this]
  | x :: r, i + 1, h => by
    have ih := find_erase (p := p) r i (fun y hy => h y (by simpa using hy))
    rw [List.eraseIdx_cons_succ, List.find?_cons, List.find?_cons, ih]
section
variable {M : Model} {A : Around} {E : Value → Shared → Prop} {s : Shared}
theorem nsDel_ok {a : Addr} {m : Str → Option Value} {name : Str} {Q : Bool → Shared → Prop} (hn : s.heap.Ns a m) (hs : (m name).isSome = true)
    (hQ : ∀ h' m', h'.Ns a m' → (∀ y, y ≠ name → m' y = m y) → Heap.SameBut a s.heap h' → Q true { s with heap := h' }) : wpAny M A (nsDel a name) Q E s := by
  obtain ⟨o, es, ep, ho, hd, hk, hm⟩ := id hn
  have e1 : es.any (·.refKey) = false := by
    rw [Array.any_eq_false']
    intro e he
    obtain ⟨n, t, h⟩ := hk e he
    simp [DictEntry.refKey, h]
  have e2 : es.any (·.key.isStr name) = true := by
    rw [← hm name] at hs
    simp only [nsFind, findBy, Option.isSome_map, Array.find?_isSome] at hs
    obtain ⟨x, hx, hp⟩ := hs
    obtain ⟨i, hi, rfl⟩ := Array.mem_iff_getElem.mp hx
    exact Array.any_eq_true.mpr ⟨i, hi, hp⟩
  have e3 : nsHas name o = pure true := by
    rw [nsHas_eq]
    unfold nsHasByArray
    rw [hd]
    show (if (es.any fun x => x.key.isStr name) = true then _ else _) = _
    rw [if_pos e2]
  unfold nsDel
  refine wpAny_bind (wpAny_loadPart ho ?_)
  rw [e3]
  refine wpAny_bind (wpAny_pure ?_)
  rw [if_pos rfl]
  refine wpAny_bind (wpAny_updatePart ho (wpAny_pure ?_))
  obtain ⟨c, d, dt, sl⟩ := o
  subst hd
  cases hi : es.findIdx? (·.key.isStr name) with
  | none =>
    rw [Array.findIdx?_eq_none_iff] at hi
    obtain ⟨i, h1, h2⟩ := Array.any_eq_true.mp e2
    have := hi _ (Array.getElem_mem h1)
    rw [this] at h2
    cases h2
  | some i =>
    refine hQ _ _ ⟨_, _, ep + 1, Heap.get?_update_self _ ho (by simp only [Obj.dropName_eq, Obj.dropNameByArray, hi] <;> rfl), (by simp only [Obj.dropName_eq, Obj.dropNameByArray, hi] <;> rfl), hk.erase i, fun _ => rfl⟩ (fun y hy => ?_) (Heap.SameBut.update ..)
    rw [← hm y]
    unfold nsFind findBy
    congr 1
    obtain ⟨l⟩ := es
    simp only [List.eraseIdxIfInBounds_toArray, List.find?_toArray]
    refine find_erase l i fun x hx => ?_
    have hx' : (⟨l⟩ : Array DictEntry)[i]? = some x := by simpa using hx
    have hp : x.key.isStr name = true := by
      obtain ⟨h1, h2, _⟩ := Array.findIdx?_eq_some_iff_getElem.mp hi
      rw [Array.getElem?_eq_getElem h1] at hx'
      cases hx'
      exact h2
    obtain ⟨n, t, hkey⟩ := hk x (Array.mem_of_getElem? hx')
    rw [hkey] at hp ⊢
    have en : n = name := by
      simpa [Value.isStr] using hp
    rw [en]
    simp [Value.isStr, Ne.symm hy]
end
section
variable {X : Cx} {pins : List (Addr × Obj)} {σ : St} {H : Hp} {s : Shared}
theorem Inv.unbound {i : Nat} {n : Str} {m m' : Str → Option Value} {h' : Heap} (I : Inv X pins σ H s) (hN : X.N.Nodup) (hi : X.N[i]? = some n) (hn : s.heap.Ns X.env.locals m) (hn' : h'.Ns X.env.locals m') (hm : ∀ y, y ≠ n → m' y = m y) (hs : Heap.SameBut X.env.locals s.heap h') : Inv X pins (σ.set i none) H { s with heap := h' } := by
  obtain ⟨m0, hn0, hl⟩ := id I.loc
  have em : m0 = m := by
    obtain ⟨o, es, ep, e, d, _, f⟩ := hn
    obtain ⟨o', es', ep', e', d', _, f'⟩ := hn0
    rw [e] at e'
    cases e'
    rw [d] at d'
    cases d'
    funext y
    rw [← f y, ← f' y]
  subst em
  have cne := I.cne
  have lt : ∀ b o, X.s₀.heap.get? b = some o → b ≠ X.env.locals := fun b o e => Nat.ne_of_lt (Nat.lt_of_lt_of_le (Heap.lt_size e) I.ok.above)
  refine ⟨I.ok, I.os, I.bare, ⟨fun b o e n hb hx => (hs.2 b (lt b o e)).trans (I.base.keep b o e n hb hx), fun b o e n hb hx => let ⟨sl, q⟩ := I.base.slot b o e n hb hx; ⟨sl, (hs.2 b (lt b o e)).trans q⟩, I.base.free, fun b o e hx => let ⟨o', q⟩ := I.base.there b o e hx; ⟨o', (hs.2 b (lt b o e)).trans q⟩, I.base.tups, I.base.frzs, I.base.tbls⟩,
    ⟨m', hn', fun j y v e1 e2 e3 => ?_⟩, fun y c e => let ⟨v, z⟩ := I.cell y c e; ⟨v, z.sameBut hs (cne y c e)⟩, I.free, I.freeC, fun p hp => let ⟨e, a, b, c, d⟩ := I.pin p hp; ⟨(hs.2 p.1 b).trans e, a, b, c, d⟩, fun a o e => ?_, by rw [List.length_set]; exact I.len⟩
  · by_cases hj : j = i
    · subst hj
      have hjl : j < σ.length := by rw [I.len]; exact (List.getElem?_eq_some_iff.mp hi).1
      rw [List.getElem?_set_self hjl] at e2
      cases e2
    · rw [List.getElem?_set_ne (Ne.symm hj)] at e2
      obtain ⟨u, r, q⟩ := hl j y v e1 e2 e3
      refine ⟨u, r, ?_⟩
      rcases q with ⟨k, e⟩ | ⟨k, c, e, z⟩
      · refine .inl ⟨k, ?_⟩
        rw [hm y fun z => hj (nodup_ix hN e1 (z ▸ hi))]
        exact e
      · exact .inr ⟨k, c, e, z.sameBut hs (cne y c e)⟩
  · refine (I.hok a o e).stay (fun c u hc q => (hs.2 c fun z => ?_).trans q) (fun _ q => q) fun _ _ q => q
    rcases hc with hc | hc
    · rw [z] at hc
      rw [← hc, I.free] at e
      cases e
    · rw [z, I.free] at hc
      cases hc
theorem name_gone {A : Around} {E : Value → Shared → Prop} {i : Nat} {n : Str} {pos : Pos} {Q : Unit → Shared → Prop} (I : Inv X pins σ H s) (hN : X.N.Nodup) (hi : X.N[i]? = some n) (hk : X.env.scope.names.lookup n = some .local)
    (h : ∀ s', Inv X pins (σ.set i none) H s' → Q () s') : wpAny (model X.prog X.w) A (do bindName X.env n .none; unbindBehindTheSuite X.env n pos) Q E s := by
  have hcls : (X.env.scope.kind == .class || (X.env.scope.kind == .module && X.env.locals != X.env.globals)) = false := by rw [I.ok.kind]; rfl
  refine wpAny_bind (wpAny_bindName (store_ok (v := .non) I hN hi (.inl hk) rfl (fun s1 I1 => ?_) (.inr hk)))
  unfold unbindBehindTheSuite
  refine wpAny_onRaise ?_
  unfold unbindName
  refine wpAny_bind (wpAny_point (wpAny_bind ?_))
  unfold deleteName
  have hk' : X.env.kindOf n = some .local := hk
  simp only [hk', hcls]
  rw [if_neg (by decide)]
  obtain ⟨m, hn, hl⟩ := id I1.loc
  have hil : i < σ.length := by rw [I.len]; exact (List.getElem?_eq_some_iff.mp hi).1
  obtain ⟨u, _, q⟩ := hl i n .non hi (List.getElem?_set_self hil) (.inl hk)
  have hs : (m n).isSome = true := by
    rcases q with ⟨_, e⟩ | ⟨k, _⟩
    · rw [e]; rfl
    · rcases k with k | k <;> (rw [hk'] at k; cases k)
  refine wpAny_bind (nsDel_ok hn hs fun h' m' hn' hm sb => ?_)
  simp only [Bool.not_true, Bool.false_eq_true, if_false]
  refine wpAny_pure (wpAny_point (h _ ?_))
  have I2 := I1.unbound hN hi hn hn' hm sb
  rw [List.set_set] at I2
  exact I2
end
def Ends.gone (D : Ends) (i : Nat) : Ends := { nx := fun σ H => D.nx (σ.set i none) H, rt := D.rt, bk := fun σ H => D.bk (σ.set i none) H, ct := fun σ H => D.ct (σ.set i none) H }
def tExcA (K : PySem.W.Frag) (D : Addr) (i : Nat) (ts : List (Addr × Obj) → Addr → Value → Addr → Value → TS) (th : TH) : TH := fun Ds cls σ H => ∃ C b, cls = .ref C ∧ PySem.W.excIn K C bmVE "ValueError.__new__" = true ∧ subX K cls D = some b ∧
  if b = true then ∀ pins x t tb, ts pins x cls t tb (Ends.gone Ds i) (σ.set i (some (.ref x))) H else th Ds cls σ H
theorem ph_as {X : Cx} {i : Nat} {n cn : Str} {D : Addr} {np pos : Pos} {b0 : Stmt} {suite : List Stmt} {rest : List ExceptHandler} {ts : List (Addr × Obj) → Addr → Value → Addr → Value → TS} {th : TH} (c : XC X.K X.mg cn D) (hN : X.N.Nodup) (hi : X.N[i]? = some n) (hk : X.env.scope.names.lookup n = some .local)
    (hsu : ∀ pins x cls t tb, PSs (X.hnd pins x (xObj cls t tb)) (b0 :: suite) (ts pins x cls t tb)) (hr : PH X rest th)
    (hg : Gl X cn := by rfl) (hdb : (cn == ("__debug__" : Str)) = false := by decide) : PH X (.ExceptHandler (some (.Name cn np)) (some n) (b0 :: suite) pos :: rest) (tExcA X.K D i ts th) := by
  intro pins s σ H Ds x cls I e q
  obtain ⟨C, b, rfl, hC, hsb, q⟩ := q
  obtain ⟨fx, t, T, ex, hT⟩ := id e
  have Ih := I.hnd fx ex
  refine wpAny_handleBy_cons (codeAny_handlers_test (wpAny_noRaise (ld_glob (X := X.hnd pins x _) (E := fun _ _ => False) Ih hg c.1 ?_ hdb))) (by intro z; cases z)
  refine match_ok I e hC c.2 hsb ?_
  cases b with
  | true =>
    rw [if_pos rfl] at q
    refine codeAny_handlers_suite_as (wpAny_noRaise ?_)
    refine flight_exc (X := X) (fr := none) I e fun s2 I2 e2 => ?_
    obtain ⟨fx2, t2, T2, ex2, _⟩ := id e2
    refine wpAny_noRaise (store_ok (X := X.hnd pins x _) (v := .ref x) (I2.hnd fx2 ex2) hN hi (.inl hk) rfl (fun s3 I3 => ?_) (.inr hk))
    refine wpAny_noRaise (thn (hsu pins x _ _ _ [] s3 _ H _ I3 (q pins x t2 (.ref T2))) fun f s4 sp => ?_)
    cases f with
    | next => obtain ⟨σ', H', I', q'⟩ := sp; exact name_gone (I'.unhnd I.ok.hd) hN hi hk fun s5 I5 => ⟨_, H', I5, q'⟩
    | brk => obtain ⟨σ', H', I', q'⟩ := sp; exact name_gone (I'.unhnd I.ok.hd) hN hi hk fun s5 I5 => ⟨_, H', I5, q'⟩
    | cont => obtain ⟨σ', H', I', q'⟩ := sp; exact name_gone (I'.unhnd I.ok.hd) hN hi hk fun s5 I5 => ⟨_, H', I5, q'⟩
    | ret v => obtain ⟨v', σ', H', I', r, q'⟩ := sp; exact name_gone (I'.unhnd I.ok.hd) hN hi hk fun s5 I5 => ⟨v', _, H', I5, r, q'⟩
  | false =>
    rw [if_neg Bool.false_ne_true] at q
    exact hr pins s σ H Ds x (.ref C) I e q
end L2
set_option Elab.async false
set_option linter.all false
set_option maxRecDepth 100000
namespace L2
open PySem PySem.Spec PyProof.Rows
theorem boot_ValueError : bootBuiltins "ValueError" = some (.type "ValueError") := by decide +kernel
theorem look_of {K : PySem.W.Frag} {C : Addr} {c : Value} {d : Option Addr} {cd : ClassData} {sl : Array (Option Value)} (l : K.lookup C = some ⟨c, d, .cls cd, sl⟩) : ∃ c0 d0 cd sl, K.lookup C = some ⟨c0, d0, .cls cd, sl⟩ := ⟨_, _, _, _, l⟩
def isStar : Expr → Bool
  | .Starred _ _ => true
  | _ => false
theorem starEach_cons {e : Expr} {es : List Expr} {env : Env} (h : isStar e = false) : starEach (e :: es) env = (false, eval e env) :: starEach es env := by
  cases e <;> first | rfl | cases h
theorem pa_c {X : Cx} {e : Expr} {es : List Expr} {te : TE} {t : TA} (ha : PE X e te) (hr : PA X es t) (hs : isStar e = false := by rfl) : PA X (e :: es) (tCons te t) := pa_cons ha hr (starEach_cons hs)
theorem strs_vals : ∀ {ys : List Str} {us : List Value}, Vals (ys.map V.str) us → StrsAre us ys
  | [], _, .nil => .nil
  | y :: ys, _, .cons r t => by
    obtain ⟨k, rfl⟩ := r
    exact .cons y k (strs_vals t)
def rJoin (K : PySem.W.Frag) : V → List V → Hp → VK → Prop := fun x vs H Q => ∃ z l ys, x = .str z ∧ vs = [.ref l] ∧ SqL K H l (ys.map V.str) ∧ z.length ≤ 16 ∧ (ys.map (·.length)).sum + ys.length ≤ 1048576 ∧ Q (.str (Txt.join z ys)) H
theorem mt_join {X : Cx} : MtR X "str.join" (rJoin X.K) := by
  intro pins s σ H x vs v us Q I rx rv h
  obtain ⟨z, l, ys, rfl, rfl, hq, h1, h2, q⟩ := h
  obtain ⟨t, rfl⟩ := rx
  obtain ⟨u, rfl, ru⟩ := rv.one
  cases ru
  obtain ⟨its, r, p, _⟩ := I.list hq
  exact join_listW p.isList (strs_vals r) h1 h2 fun t' k => ⟨.str _, H, I.tok k, ⟨t', rfl⟩, q⟩
end L2
set_option Elab.async false
set_option linter.all false
set_option maxRecDepth 100000
namespace L2
open PySem PySem.Spec PyProof.Rows PySem.W
structure LamScope (psc scope : Scope) (p : Str) (frn : List Str) : Prop where
  kind : scope.kind = .function
  co : scope.isCoroutine = false
  gen : scope.isGenerator = false
  cell : ∀ y ∈ scope.names, y.2 ≠ .cell
  par : scope.names.lookup p = some .local
  free : ∀ y ∈ scope.names, y.2 = .free → psc.names.lookup y.1 = some .cell ∨ psc.names.lookup y.1 = some .free
  nd : (p :: frn).Nodup
  frn : ∀ x ∈ frn, scope.names.lookup x = some .free
abbrev lamEnv (X : Cx) (qual : Str) (scope : Scope) (L f c : Addr) : Env := envX qual scope L f (.ref c) (closL scope.names X.env.cells [])
section
variable {X : Cx} {pins : List (Addr × Obj)} {σ : St} {H : Hp} {s : Shared}
end
end L2
set_option Elab.async false
set_option linter.all false
set_option maxRecDepth 100000
set_option maxHeartbeats 4000000
namespace L2
open PySem PySem.Spec PyProof.Rows PySem.W
section
variable {X : Cx} {pins : List (Addr × Obj)} {σ : St} {H : Hp} {s : Shared}
end
section
variable {X : Cx} {pins : List (Addr × Obj)} {σ : St} {H : Hp} {s : Shared} {A : Around} {E : Value → Shared → Prop} {a kS : Addr} {vs : List Value} {kz : List Int} {keys : Array Value} {e e1 : Nat} {P : PySem.Fin → Shared → Prop}
end
end L2
set_option Elab.async false
set_option linter.all false
set_option maxRecDepth 100000
set_option maxHeartbeats 4000000
namespace L2
open PySem PySem.Spec PyProof.Rows PySem.W
section
variable {X : Cx} {pins : List (Addr × Obj)} {σ : St} {H : Hp} {s : Shared} {A : Around} {E : Value → Shared → Prop} {a kS : Addr} {vs : List Value} {kz : List Int} {keys : Array Value} {e e1 : Nat} {P : PySem.Fin → Shared → Prop}
end
end L2
set_option Elab.async false
set_option linter.all false
set_option maxRecDepth 100000
set_option maxHeartbeats 4000000
namespace L2
open PySem PySem.Spec PyProof.Rows PySem.W
end L2
set_option Elab.async false
set_option linter.all false
set_option maxRecDepth 100000
set_option maxHeartbeats 4000000
namespace L2
open PySem PySem.Spec PyProof.Rows PySem.W
theorem Inv.track {X : Cx} {pins : List (Addr × Obj)} {σ : St} {H : Hp} {s : Shared} {a : Addr} {o : HO} (I : Inv X pins σ H s) (f : FpOk X pins H a) (new : ObjOk X.prog X.w (upd H a o) s.heap a o) : Inv X pins σ (upd H a o) s := by
  obtain ⟨f0, f1, f2, f3, f4, f5⟩ := f
  have ne : ∀ b u, H b = some u → b ≠ a := fun b u e => ne_of_none e f0
  refine ⟨I.ok, I.os, I.bare, ⟨I.base.keep, I.base.slot, fun b ob e n hx => ?_, I.base.there, fun b xs e => ?_, fun b ob u e => ?_, fun b ps e => ?_⟩, I.loc, I.cell, ?_, fun x c e => ?_, fun p hp => ?_, fun b u e => ?_, I.len⟩
  · rw [upd_ne fun z => ?_]
    · exact I.base.free b ob e n hx
    · rcases f3 with h | h
      · exact hx (z ▸ h)
      · exact absurd (Heap.lt_size e) (Nat.not_lt.mpr (by rw [z]; exact h))
  · have := I.base.tups b xs e
    rw [upd_ne (ne b _ this)]
    exact this
  · have := I.base.frzs b ob u e
    rw [upd_ne (ne b _ this)]
    exact this
  · obtain ⟨m, this⟩ := I.base.tbls b ps e
    exact ⟨m, by rw [upd_ne (ne b _ this)]; exact this⟩
  · rw [upd_ne (Ne.symm f1)]
    exact I.free
  · rw [upd_ne (f4 x c e)]
    exact I.freeC x c e
  · obtain ⟨a1, a2, a3, a4, a5⟩ := I.pin p hp
    exact ⟨a1, by rw [upd_ne (f5 p hp)]; exact a2, a3, a4, a5⟩
  · by_cases hb : b = a
    · subst hb
      rw [upd_same] at e
      cases e
      exact new
    · rw [upd_ne hb] at e
      exact (I.hok b u e).stay (fun _ _ _ z => z) (fun c z => by rw [upd_ne (ne c _ z)]; exact z) fun c xs z => by rw [upd_ne (ne c _ z)]; exact z
section
variable {X : Cx}
end
end L2
set_option Elab.async false
set_option linter.all false
set_option maxRecDepth 100000
set_option maxHeartbeats 4000000
namespace L2
open PySem PySem.Spec PyProof.Rows PySem.W
end L2
set_option Elab.async false
set_option linter.all false
set_option maxRecDepth 100000
set_option maxHeartbeats 4000000
namespace L2
open PySem PySem.Spec PyProof.Rows
section
variable {X : Cx}
def rLen (K : PySem.W.Frag) : List V → Hp → VK → Prop := fun xs H Q => ∃ x n, xs = [x] ∧ LenV K x H n ∧ Q (.int n) H
theorem call_lenK : CallR X (.builtin "len") (rLen X.K) := call_len
end
end L2
set_option Elab.async false
set_option linter.all false
set_option maxRecDepth 100000
set_option maxHeartbeats 4000000
namespace L2
open PySem PySem.Spec PyProof.Rows
section
variable {X : Cx} {e st : Expr} {te ts : TE} {pos p2 : Pos}
end
end L2
set_option linter.all false
namespace MA
abbrev Rule := Int × Int × Int
def g (ws : List Int) (i : Int) : Int := ws.getD i.toNat 0
def mx (i j : Int) : Int := if j > i then j else i
def ask (f : Int → Int) (r : Rule) : Int := if r.2.1 = -1 then r.2.2 else f r.2.1 + r.2.2
def put (ws : List Int) (i v : Int) : List Int := ws.set i.toNat v
def relax1 (ws : List Int) (r : Rule) : List Int := put ws r.1 (mx (g ws r.1) (ask (g ws) r))
def relax (rs : List Rule) (ws : List Int) : List Int := rs.foldl relax1 ws
def Rok (n : Nat) (r : Rule) : Prop := 0 ≤ r.1 ∧ r.1 < n ∧ -1 ≤ r.2.1 ∧ r.2.1 < n ∧ 0 ≤ r.2.2
def Met (rs : List Rule) (f : Int → Int) : Prop := ∀ r ∈ rs, ask f r ≤ f r.1
def Le (n : Nat) (f h : Int → Int) : Prop := ∀ i : Int, 0 ≤ i → i < n → f i ≤ h i
theorem g_put {ws : List Int} {i v j : Int} (hi : 0 ≤ i) (hl : i < ws.length) (hj : 0 ≤ j) : g (put ws i v) j = if j = i then v else g ws j := by
  unfold g put
  rw [List.getD_eq_getElem?_getD, List.getD_eq_getElem?_getD, List.getElem?_set]
  by_cases e : j = i
  · subst e
    have : j.toNat < ws.length := by omega
    simp [this]
  · have : i.toNat ≠ j.toNat := by omega
    simp [this, e]
theorem put_len {ws : List Int} {i v : Int} : (put ws i v).length = ws.length := List.length_set
theorem ext_g {ws us : List Int} (h : ws.length = us.length) (e : ∀ i : Int, 0 ≤ i → i < ws.length → g ws i = g us i) : ws = us := by
  refine List.ext_getElem h fun i h1 h2 => ?_
  have := e i (by omega) (by omega)
  unfold g at this
  simpa [List.getD_eq_getElem?_getD, h1, h2] using this
def it (rs : List Rule) : Nat → List Int → List Int
  | 0, ws => ws
  | k + 1, ws => it rs k (relax rs ws)
theorem sum_le : ∀ (l : List Nat) (a b : Nat → Nat), (∀ i ∈ l, a i ≤ b i) → (l.map a).sum ≤ (l.map b).sum
  | [], _, _, _ => Nat.le_refl _
  | x :: l, a, b, h => by
    simp only [List.map_cons, List.sum_cons]
    have := h x (List.mem_cons_self)
    have := sum_le l a b fun i hi => h i (List.mem_cons_of_mem _ hi)
    omega
theorem differ {n : Nat} {ws us : List Int} (h1 : ws.length = n) (h2 : us.length = n) (hne : ws ≠ us) : ∃ i : Nat, i < n ∧ g ws (i : Nat) ≠ g us (i : Nat) := by
  refine Classical.byContradiction fun c => hne (ext_g (h1.trans h2.symm) fun i h0 hi => ?_)
  refine Classical.byContradiction fun d => c ⟨i.toNat, by omega, ?_⟩
  rw [show ((i.toNat : Nat) : Int) = i by omega]
  exact d
theorem ones_l : ∀ l : List Nat, (l.map fun _ => 1).sum = l.length
  | [] => rfl
  | _ :: l => by simp only [List.map_cons, List.sum_cons, List.length_cons, ones_l l]; omega
theorem ones (n : Nat) : ((List.range n).map fun _ => 1).sum = n := (ones_l _).trans List.length_range
def loop (rs : List Rule) : Nat → List Int → Option (List Int)
  | 0, _ => none
  | k + 1, ws => if relax rs ws = ws then some ws else loop rs k (relax rs ws)
end MA
set_option Elab.async false
set_option linter.all false
set_option maxRecDepth 100000
set_option maxHeartbeats 4000000
namespace L2
open PySem PySem.Spec PyProof.Rows
def TupR (K : PySem.W.Frag) (H : Hp) (v : V) (q : MA.Rule) : Prop := ∃ a, v = .ref a ∧ SqT K H a [.int q.1, .int q.2.1, .int q.2.2]
inductive RlsX (K : PySem.W.Frag) (H : Hp) : List V → List MA.Rule → Prop where
  | nil : RlsX K H [] []
  | cons {v q xs rs} : TupR K H v q → RlsX K H xs rs → RlsX K H (v :: xs) (q :: rs)
section
variable {K : PySem.W.Frag} {H H' : Hp} {a l r : Addr} {xs ys : List V} {rs qs : List MA.Rule} {v : V} {q : MA.Rule} {o : HO}
theorem Same.upd {p : Addr} (h : H p = none) : Same H (L2.upd H p o) := fun b u hb => by
  rw [upd_ne (ne_of_none hb h)]
  exact hb
theorem Same.updl {u : HO} (s : Same H H') (h : H l = none) : Same H (L2.upd H' l u) := fun b z hb => by
  rw [upd_ne (ne_of_none hb h)]
  exact s b z hb
end
theorem rangeV_at {lo : Int} {n i : Nat} {x : V} (h : (rangeV lo n)[i]? = some x) : i < n ∧ x = .int (lo + (i : Nat)) := by
  unfold rangeV at h
  rw [List.getElem?_map] at h
  cases e : (List.range n)[i]? with
  | none => rw [e] at h; cases h
  | some j =>
    rw [e] at h
    have hi : i < n := by
      have := (List.getElem?_eq_some_iff.mp e).1
      rwa [List.length_range] at this
    rw [List.getElem?_range hi] at e
    cases e
    exact ⟨hi, (Option.some.inj h).symm⟩
theorem rangeV_len {lo : Int} {n : Nat} : (rangeV lo n).length = n := by simp [rangeV]
theorem atI_g {ws : List Int} {i : Int} (h0 : 0 ≤ i) (h1 : i < ws.length) : atI (ws.map V.int) i = some (.int (MA.g ws i)) := by
  have hn : i.toNat < ws.length := by omega
  have e : i = ((i.toNat : Nat) : Int) := by omega
  have h := atI_nat (xs := ws.map V.int) (j := i.toNat) (v := .int (MA.g ws i)) (by simp [MA.g, hn])
  rwa [← e] at h
theorem ixN_in {n : Nat} {i : Int} (h0 : 0 ≤ i) (h1 : i < n) : ixN n i = some i.toNat := by
  unfold ixN
  rw [if_pos h0, if_pos h1]
end L2
set_option linter.all false
namespace MA
abbrev Mt := Nat → Nat → Int
def setM (M : Mt) (a b : Nat) (v : Int) : Mt := fun i j => if i = a ∧ j = b then v else M i j
def lnk (M : Mt) (q : Rule) : Mt := if 0 ≤ q.2.1 then setM M q.2.1.toNat q.1.toNat (mx (M q.2.1.toNat q.1.toNat) q.2.2) else M
def diag0 (M : Mt) (k : Nat) : Mt := setM M k k 0
def M1 (n : Nat) : Mt := (List.range n).foldl diag0 (fun _ _ => -1)
def M2 (n : Nat) (rs : List Rule) : Mt := rs.foldl lnk (M1 n)
def big : List Nat → (Nat → Int) → Int
  | [], _ => 0
  | i :: l, f => mx (big l f) (f i)
end MA
set_option Elab.async false
set_option linter.all false
set_option maxRecDepth 100000
set_option maxHeartbeats 4000000
namespace L2
open PySem PySem.Spec PyProof.Rows
def rowV (n : Nat) (M : MA.Mt) (i : Nat) : List V := (List.range n).map fun j => V.int (M i j)
structure Mat (H0 H : Hp) (n : Nat) (p : Addr) (ds : List Addr) (M : MA.Mt) : Prop where
  top : H p = some (.lst (ds.map V.ref))
  len : ds.length = n
  nd : ds.Nodup
  np : p ∉ ds
  row : ∀ i d, ds[i]? = some d → H d = some (.lst (rowV n M i))
  sm : Same H0 H
  fp : H0 p = none
  fd : ∀ d ∈ ds, H0 d = none
section
variable {H0 H : Hp} {n : Nat} {p : Addr} {ds : List Addr} {M : MA.Mt}
end
end L2
set_option Elab.async false
set_option linter.all false
set_option maxRecDepth 100000
set_option maxHeartbeats 4000000
namespace L2
open PySem PySem.Spec PyProof.Rows
def NT (o : HO) : Prop := ∀ ps, o ≠ .tbl ps
structure SameN (H H' : Hp) : Prop where
  nt : ∀ b o, H b = some o → NT o → H' b = some o
  tb : ∀ b ps, H b = some (.tbl ps) → ∃ ps', H' b = some (.tbl ps')
section
variable {K : PySem.W.Frag} {H H' H2 : Hp} {a l r : Addr} {xs ys : List V} {rs qs : List MA.Rule} {v : V} {q : MA.Rule} {o : HO}
end
def natV (is : List Nat) : List V := is.map fun i => V.int (i : Nat)
end L2
namespace MA
end MA
set_option Elab.async false
set_option linter.all false
set_option maxRecDepth 100000
set_option maxHeartbeats 4000000
namespace L2
open PySem PySem.Spec PyProof.Rows
section
variable {κ : Type} [DecidableEq κ]
def valV (kvs : List (κ × V)) (k : κ) : Option V := (kvs.find? fun kv => decide (kv.1 = k)).map (·.2)
end
abbrev KT (H : Hp) : List (List Key × V) → List (List Key × Addr × Value) → Prop := Paired fun p q => p.1 = q.1 ∧ H q.2.1 = some (.tup (p.1.map kV)) ∧ RelV p.2 q.2.2
section
variable {P : Program} {w : World} {H : Hp} {h : Heap} {a : Addr}
end
section
variable {X : Cx} {pins : List (Addr × Obj)} {σ : St} {H : Hp} {s : Shared} {a : Addr} {y v : V} {u r : Value} {o : Option V} {A : Around} {E : Value → Shared → Prop}
end
section
variable {X : Cx} {pins : List (Addr × Obj)} {σ : St} {H : Hp} {s : Shared} {a : Addr} {kvs : List (Key × V)} {k : Key} {u : Value} {A : Around} {E : Value → Shared → Prop}
end
section
variable {X : Cx} {o i e value : Expr} {pos pos' tpos : Pos} {td ty tv : TE}
end
section
variable {X : Cx} {pos : Pos}
end
abbrev VV : List (V × V) → List (Value × Value) → Prop := Paired fun p q => RelV p.1 q.1 ∧ RelV p.2 q.2
structure M1 (X : Cx) (o : Expr) (m : Str) (apos : Pos) (e : Expr) (cpos : Pos) : Prop where
  base : attributeBase o m X.env (eval o X.env) = eval o X.env
  few : ((backTo cpos (starEach [e] X.env)).all (fun x => !x.1) && (backToKw cpos (keywordEach [] X.env)).all (fun x => x.1.isSome)
    && decide (([e] : List Expr).length + ([] : List Keyword).length + (if ([] : List Keyword).isEmpty then 0 else 1) < 30)) = true
  line : (apos.endLine == cpos.line) = true
  trees : backTo cpos (starEach [e] X.env) = [(false, eval e X.env)]
structure M2 (X : Cx) (o : Expr) (m : Str) (apos : Pos) (e f : Expr) (cpos : Pos) : Prop where
  base : attributeBase o m X.env (eval o X.env) = eval o X.env
  few : ((backTo cpos (starEach [e, f] X.env)).all (fun x => !x.1) && (backToKw cpos (keywordEach [] X.env)).all (fun x => x.1.isSome)
    && decide (([e, f] : List Expr).length + ([] : List Keyword).length + (if ([] : List Keyword).isEmpty then 0 else 1) < 30)) = true
  line : (apos.endLine == cpos.line) = true
  trees : backTo cpos (starEach [e, f] X.env) = [(false, eval e X.env), (false, eval f X.env)]
section
variable {X : Cx} {pins : List (Addr × Obj)} {σ : St} {H : Hp} {s : Shared} {a : Addr} {y d : V} {u r : Value} {o : Option V} {A : Around} {E : Value → Shared → Prop}
end
section
variable {X : Cx} {o e f : Expr} {apos cpos : Pos} {td ty tx : TE}
end
section
variable {X : Cx} {pins : List (Addr × Obj)} {σ : St} {H : Hp} {s : Shared} {a : Addr} {kvs : List (Key × V)} {A : Around} {E : Value → Shared → Prop}
end
section
variable {X : Cx} {pins : List (Addr × Obj)} {σ : St} {H : Hp} {s : Shared} {a : Addr} {y : V} {u : Value} {A : Around} {E : Value → Shared → Prop}
end
end L2
namespace L2
open PySem PySem.Spec PyProof.Rows
section
variable {X : Cx}
end
section
variable {κ : Type} [DecidableEq κ]
end
end L2
set_option Elab.async false
set_option linter.all false
set_option maxRecDepth 100000
set_option maxHeartbeats 4000000
namespace L2
open PySem PySem.Spec PyProof.Rows
section
variable {X : Cx} {pins : List (Addr × Obj)} {σ : St} {H : Hp} {s : Shared} {h' : Heap}
end
section
variable {X : Cx}
end
end L2
set_option linter.all false
namespace MA
inductive Path (rs : List Rule) (s : Int) : Int → List Nat → Prop
  | nil : Path rs s s []
  | snoc {k : Int} {ps : List Nat} {i : Nat} {q : Rule} : Path rs s k ps → rs[i]? = some q → q.2.1 = k → Path rs s q.1 (ps ++ [i])
def onAt (rs : List Rule) (i : Nat) : Int := (rs.getD i (0, 0, 0)).1
def moreAt (rs : List Rule) (i : Nat) : Int := (rs.getD i (0, 0, 0)).2.2
def ons (rs : List Rule) (ps : List Nat) : List Int := ps.map (onAt rs)
theorem onAt_of {rs : List Rule} {i : Nat} {q : Rule} (h : rs[i]? = some q) : onAt rs i = q.1 := by
  unfold onAt
  rw [List.getD_eq_getElem?_getD, h]
  rfl
theorem moreAt_of {rs : List Rule} {i : Nat} {q : Rule} (h : rs[i]? = some q) : moreAt rs i = q.2.2 := by
  unfold moreAt
  rw [List.getD_eq_getElem?_getD, h]
  rfl
theorem ons_snoc {rs : List Rule} {ps : List Nat} {i : Nat} {q : Rule} (h : rs[i]? = some q) : ons rs (ps ++ [i]) = ons rs ps ++ [q.1] := by
  unfold ons
  rw [List.map_append, List.map_cons, List.map_nil, onAt_of h]
theorem ons_len {rs : List Rule} {ps : List Nat} : (ons rs ps).length = ps.length := List.length_map ..
end MA
set_option Elab.async false
set_option linter.all false
set_option maxRecDepth 100000
set_option maxHeartbeats 4000000
namespace L2
open PySem PySem.Spec PyProof.Rows
abbrev KVs := List (Key × V)
def has (kvs : KVs) (k : Int) : Prop := (valV kvs (Sum.inl k)).isSome = true
def cntN (n : Nat) (kvs : KVs) : Nat := ((List.range n).map fun i => if (valV kvs (Sum.inl ((i : Nat) : Int))).isSome then 0 else 1).sum
def WayAt (H : Hp) (rs : List MA.Rule) (s : Int) (q : Addr) (kvs : KVs) (k : Int) (v : V) : Prop :=
  ∃ a ps, v = .ref a ∧ H a = some (.lst (natV ps)) ∧ a ≠ q ∧ MA.Path rs s k ps ∧ (s :: MA.ons rs ps).Nodup ∧ (∀ x ∈ s :: MA.ons rs ps, has kvs x) ∧ ps.length + 1 ≤ kvs.length
structure Bf (H0 H : Hp) (n : Nat) (rs : List MA.Rule) (s : Int) (d q : Addr) (kvs : KVs) (ws : List Int) (sk : Int → Prop) : Prop where
  hd : H d = some (.dK kvs)
  hq : H q = some (.lst (ws.map V.int))
  sm : Same H0 H
  fd : H0 d = none
  fq : H0 q = none
  rng : ∀ k, has kvs k → 0 ≤ k ∧ k < n
  val : ∀ k v, valV kvs (Sum.inl k) = some v → WayAt H rs s q kvs k v
  st : has kvs s
  wk : ∀ m ∈ ws, has kvs m
  cl : ∀ k, has kvs k → k ∉ ws → ¬ sk k → ∀ r ∈ rs, r.2.1 = k → has kvs r.1
  cn : kvs.length + cntN n kvs ≤ n
section
variable {H0 H : Hp} {n : Nat} {rs : List MA.Rule} {s : Int} {d q : Addr} {kvs : KVs} {ws : List Int} {sk : Int → Prop}
end
end L2
set_option linter.all false
namespace MA
inductive Chn (rs : List Rule) : Int → List Nat → Prop
  | one {i : Nat} {q : Rule} : rs[i]? = some q → Chn rs q.1 [i]
  | snoc {k : Int} {ps : List Nat} {i : Nat} {q : Rule} : Chn rs k ps → rs[i]? = some q → q.2.1 = k → Chn rs q.1 (ps ++ [i])
def sumM (rs : List Rule) (ps : List Nat) : Int := (ps.map (moreAt rs)).sum
theorem sumM_snoc {rs : List Rule} {ps : List Nat} {i : Nat} {q : Rule} (h : rs[i]? = some q) : sumM rs (ps ++ [i]) = sumM rs ps + q.2.2 := by
  unfold sumM
  rw [List.map_append, List.sum_append]
  show _ + (moreAt rs i + 0) = _
  rw [moreAt_of h, Int.add_zero]
end MA
set_option Elab.async false
set_option linter.all false
set_option maxRecDepth 100000
set_option maxHeartbeats 4000000
namespace L2
open PySem PySem.Spec PyProof.Rows
end L2
set_option linter.all false
namespace MA
def over (x : Int) : Option Int → Bool
  | none => false
  | some c => decide (c < x)
section
variable {n : Nat} {rs : List Rule} {L : List Int} {cs : List (Option Int)} {m : Int}
end
end MA
set_option Elab.async false
set_option linter.all false
set_option maxRecDepth 100000
set_option maxHeartbeats 4000000
namespace L2
open PySem PySem.Spec PyProof.Rows
def capV : Option Int → V
  | none => .non
  | some c => .int c
end L2
set_option Elab.async false
set_option linter.all false
set_option maxRecDepth 100000
set_option maxHeartbeats 4000000
namespace L2
open PySem PySem.Spec PyProof.Rows
def GM (CX : CXT) (P : Program) (w : World) (K : PySem.W.Frag) (mg : Str → Option Value) (base : Heap) (k : Nat) (C : Addr) (m : Str) (ps : List Str) (sp : Sp) : Prop :=
  ∃ f fd, Meth K C m f ∧ Binds K fd ps [] ∧ FnOk P w K mg base CX k f fd ps sp
abbrev GMn := GM CX0
abbrev GMx (P : Program) (w : World) := GM (CXx P w) P w
section
variable {P : Program} {w : World} {K : PySem.W.Frag} {mg : Str → Option Value} {base : Heap} {C : Addr} {m qual : Str} {st : Stmt} {N ps : List Str} {k : Nat} {sp : Sp}
end
section
variable {X : Cx} {k : Nat} {C : Addr} {m : Str} {ps : List Str} {sp : Sp} {p pos apos : Pos} {o e : Expr} {es : List Expr} {ta : TE} {t : TA}
end
section
variable {X : Cx} {pn : List (Addr × Obj)} {E : St → XK} {k : Nat} {C : Addr} {m : Str} {ps : List Str} {sp : Sp} {p pos apos : Pos} {o e : Expr} {es : List Expr} {ta : TE} {t : TA}
end
section
variable {X : Cx} {k : Nat} {C : Addr} {x : Str} {ps : List Str} {sp : Sp} {p pos : Pos} {e : Expr} {es : List Expr} {t : TA}
end
structure TC (K : PySem.W.Frag) (mg : Str → Option Value) (C : Addr) (x : Str) : Prop where
  cl : Cls K C
  mg : mg x = some (.ref C)
  mks : PySem.W.makesIn K C = true
  kp : PySem.W.keepIn K (.ref C) = true
theorem lk_skip {f g : Str} {v : V} {r : List (Str × V)} (h : (f == g) = false) : List.lookup f ((g, v) :: r) = List.lookup f r := by
  rw [List.lookup_cons, h]
theorem lk_here {f : Str} {v : V} {r : List (Str × V)} : List.lookup f ((f, v) :: r) = some v := by
  rw [List.lookup_cons, show (f == f) = true from by simp]
end L2
set_option Elab.async false
set_option linter.all false
set_option maxRecDepth 100000
set_option maxHeartbeats 4000000
namespace L2
open PySem PySem.Spec PyProof.Rows
def cutS (z : Str) (lo hi : Option Int) : List Nat := (z.cps.toList.drop (HT.sIx z.length 0 lo)).take (HT.sIx z.length z.length hi - HT.sIx z.length 0 lo)
theorem clip_lo (lo : Option Int) (n : Nat) : (match lo with | none => (0 : Int) | some i => let i := if i < 0 then i + (n : Int) else i; if (1 : Int) > 0 then max 0 (min i (n : Int)) else max (-1) (min i ((n : Int) - 1))) = ((HT.sIx n 0 lo : Nat) : Int) := by
  cases lo with
  | none => rfl
  | some i =>
    simp only [HT.sIx, show (1 : Int) > 0 by decide, if_true]
    by_cases h : i < 0
    · simp only [h, if_true] <;> omega
    · simp only [h, if_false] <;> omega
theorem clip_hi (hi : Option Int) (n : Nat) : (match hi with | none => (n : Int) | some i => let i := if i < 0 then i + (n : Int) else i; if (1 : Int) > 0 then max 0 (min i (n : Int)) else max (-1) (min i ((n : Int) - 1))) = ((HT.sIx n n hi : Nat) : Int) := by
  cases hi with
  | none => rfl
  | some i =>
    simp only [HT.sIx, show (1 : Int) > 0 by decide, if_true]
    by_cases h : i < 0
    · simp only [h, if_true] <;> omega
    · simp only [h, if_false] <;> omega
theorem sliceIdx_run (lo hi : Option Int) (n : Nat) : Builtin.Str.strSliceIndices lo hi 1 n = (List.range (HT.sIx n n hi - HT.sIx n 0 lo)).map (HT.sIx n 0 lo + ·) := by
  unfold Builtin.Str.strSliceIndices
  simp only []
  rw [← sliceRange_one, ← clip_lo lo n, ← clip_hi hi n]
  rfl
def rSlS : V → Option Int → Option Int → Hp → VK → Prop := fun x lo hi H Q => ∃ z, x = .str z ∧ z.length ≤ sizeLine ∧ ∀ r : Str, r.cps.toList = cutS z lo hi → Q (.str r) H
theorem part_of {v : Value} {o : Option Int} (h : IsPart v o) : ∃ p, v = partValue p ∧ p.map (·.1) = o := by
  cases h with
  | none => exact ⟨none, rfl, rfl⟩
  | int i t => exact ⟨some (i, t), rfl, rfl⟩
theorem sl_str {X : Cx} : SlR X rSlS := by
  intro pins s σ H x v vl vu lo hi sl Q I rx hs pl pu h
  obtain ⟨z, rfl, hz, q⟩ := h
  obtain ⟨t, rfl⟩ := rx
  refine ⟨"str", _, F.slot_str_getitem.lookup, typeIs_str _ _ _, ?_⟩
  obtain ⟨p1, rfl, e1⟩ := part_of pl
  obtain ⟨p2, rfl, e2⟩ := part_of pu
  obtain ⟨o, ho, hc, hd⟩ := hs
  refine wpAny_getItem_str_slice (l := p1) (u := p2) (st := none) ⟨o, ho, hc, hd⟩ rfl ?_
  have ep : slicePicked z p1 p2 none = (List.range (HT.sIx z.length z.length hi - HT.sIx z.length 0 lo)).map (HT.sIx z.length 0 lo + ·) := by
    unfold slicePicked
    rw [e1, e2]
    exact sliceIdx_run lo hi z.length
  have er : (slicePicked z p1 p2 none).filterMap (z.cps[·]?) = cutS z lo hi := by
    rw [ep, pick_run]
    rfl
  unfold sliceMade
  split
  · rename_i c
    refine ⟨.str z, H, I, ⟨t, rfl⟩, q z ?_⟩
    have c2 : (slicePicked z p1 p2 none).length = z.length := by
      have := (Bool.and_eq_true _ _ ▸ c).2
      exact beq_iff_eq.mp this
    rw [ep, List.length_map, List.length_range] at c2
    have h1 : HT.sIx z.length z.length hi ≤ z.length := HT.sIx_le _ _ (Nat.le_refl _) _
    have h2 : HT.sIx z.length 0 lo ≤ z.length := HT.sIx_le _ _ (Nat.zero_le _) _
    unfold cutS
    by_cases hz0 : z.length = 0
    · have : z.cps.toList = [] := List.eq_nil_of_length_eq_zero (by simpa [Str.length] using hz0)
      rw [this]
      simp
    · have a0 : HT.sIx z.length 0 lo = 0 := by omega
      rw [a0, List.drop_zero, Nat.sub_zero, List.take_of_length_le (by rw [show z.cps.toList.length = z.length from by simp [Str.length]]; omega)]
  · refine ⟨?_, .str ⟨((slicePicked z p1 p2 none).filterMap (z.cps[·]?)).toArray⟩, H, I.tok _, ⟨_, rfl⟩, q _ ?_⟩
    · rw [er]
      have : (cutS z lo hi).length ≤ z.length := by
        unfold cutS
        rw [List.length_take, List.length_drop]
        have : z.cps.toList.length = z.length := by simp [Str.length]
        omega
      show (cutS z lo hi).toArray.size ≤ sizeLine
      rw [List.size_toArray]
      omega
    · show ((slicePicked z p1 p2 none).filterMap (z.cps[·]?)).toArray.toList = cutS z lo hi
      rw [List.toList_toArray]
      exact er
end L2
namespace L2
open PySem PySem.Spec PyProof.Rows
theorem str_app (a b : Str) : (a ++ b).cps.toList = a.cps.toList ++ b.cps.toList := by
  show (a.cps ++ b.cps).toList = _
  rw [Array.toList_append]
def small (c : Nat) : Prop := 97 ≤ c ∧ c ≤ 122
def NmL (cs : List Nat) : Prop := 1 ≤ cs.length ∧ cs.length ≤ 8 ∧ ∀ c ∈ cs, small c
def Nm (y : Str) : Prop := NmL y.cps.toList
theorem sIx_pos (n : Nat) (d : Nat) (k : Int) (h : 0 ≤ k) : HT.sIx n d (some k) = min k.toNat n := by
  unfold HT.sIx
  simp only []
  rw [if_neg (by omega)]
end L2
set_option linter.all false
namespace MA
variable {n : Nat} {rs : List Rule} {L : List Int}
structure Lst (n : Nat) (rs : List Rule) (L : List Int) : Prop where
  k : ∀ r ∈ rs, Rok n r
  met : Met rs (g L)
  nn : ∀ i : Int, 0 ≤ i → i < n → 0 ≤ g L i
  len : L.length = n
theorem Chn.rng (w : Lst n rs L) {k : Int} {ps : List Nat} (h : Chn rs k ps) : 0 ≤ k ∧ k < n := by
  cases h with
  | one hi => have := w.k _ (List.mem_of_getElem? hi); exact ⟨this.1, this.2.1⟩
  | snoc _ hi _ => have := w.k _ (List.mem_of_getElem? hi); exact ⟨this.1, this.2.1⟩
theorem sumM_one {i : Nat} {q : Rule} (h : rs[i]? = some q) : sumM rs [i] = q.2.2 := by
  have := sumM_snoc (ps := []) h
  simpa [sumM] using this
theorem Chn.le (w : Lst n rs L) {k : Int} {ps : List Nat} (h : Chn rs k ps) : sumM rs ps ≤ g L k := by
  induction h with
  | @one i q hi =>
    have m := List.mem_of_getElem? hi
    obtain ⟨a1, a2, a3, a4, a5⟩ := w.k _ m
    have := w.met _ m
    unfold ask at this
    rw [sumM_one hi]
    split at this
    · exact this
    · have := w.nn q.2.1 (by omega) a4
      omega
  | @snoc k ps i q hp hi hb ih =>
    have m := List.mem_of_getElem? hi
    have := w.met _ m
    have hr := hp.rng w
    unfold ask at this
    rw [if_neg (by omega), hb] at this
    rw [sumM_snoc hi]
    omega
theorem tight (w : Lst n rs L) {k : Int} {ps : List Nat} {i : Nat} {q : Rule} (hp : Chn rs k ps) (hi : rs[i]? = some q) (hb : q.2.1 = k) (e : sumM rs (ps ++ [i]) = g L q.1) : sumM rs ps = g L k ∧ g L q.1 = g L k + q.2.2 := by
  have m := List.mem_of_getElem? hi
  have := w.met _ m
  have hr := hp.rng w
  have := hp.le w
  unfold ask at *
  rw [if_neg (by omega), hb] at *
  rw [sumM_snoc hi] at e
  omega
theorem ons_one {i : Nat} {q : Rule} (h : rs[i]? = some q) : ons rs [i] = [q.1] := by
  have := ons_snoc (ps := []) h
  simpa [ons] using this
theorem Chn.on_rng (w : Lst n rs L) {k : Int} {ps : List Nat} (h : Chn rs k ps) : ∀ x ∈ ons rs ps, 0 ≤ x ∧ x < n := by
  induction h with
  | @one i q hi =>
    intro x hx
    rw [ons_one hi, List.mem_singleton] at hx
    rw [hx]
    have := w.k _ (List.mem_of_getElem? hi)
    exact ⟨this.1, this.2.1⟩
  | @snoc k ps i q hp hi hb ih =>
    intro x hx
    rw [ons_snoc hi] at hx
    rcases List.mem_append.mp hx with hx | hx
    · exact ih x hx
    · rw [List.mem_singleton] at hx
      rw [hx]
      have := w.k _ (List.mem_of_getElem? hi)
      exact ⟨this.1, this.2.1⟩
theorem Chn.cut (w : Lst n rs L) {k : Int} {ps : List Nat} (h : Chn rs k ps) : sumM rs ps = g L k → (ons rs ps).Nodup → ∀ x ∈ ons rs ps, ∃ qs, Chn rs x qs ∧ sumM rs qs = g L x ∧ qs.length ≤ ps.length ∧ (ons rs qs).Nodup := by
  induction h with
  | @one i q hi =>
    intro e nd x hx
    rw [ons_one hi, List.mem_singleton] at hx
    rw [hx]
    exact ⟨[i], .one hi, e, Nat.le_refl _, nd⟩
  | @snoc k ps i q hp hi hb ih =>
    intro e nd x hx
    obtain ⟨e1, _⟩ := tight w hp hi hb e
    have hx' := hx
    rw [ons_snoc hi] at hx'
    rcases List.mem_append.mp hx' with hx' | hx'
    · have nd' : (ons rs ps).Nodup := by rw [ons_snoc hi] at nd; exact (List.nodup_append.mp nd).1
      obtain ⟨qs, a, b, c, d⟩ := ih e1 nd' x hx'
      exact ⟨qs, a, b, by rw [List.length_append]; omega, d⟩
    · rw [List.mem_singleton] at hx'
      rw [hx']
      exact ⟨ps ++ [i], .snoc hp hi hb, e, Nat.le_refl _, nd⟩
theorem Chn.short (w : Lst n rs L) {k : Int} {ps : List Nat} (h : Chn rs k ps) : sumM rs ps = g L k → ∃ qs, Chn rs k qs ∧ sumM rs qs = g L k ∧ qs.length ≤ ps.length ∧ (ons rs qs).Nodup := by
  induction h with
  | @one i q hi => exact fun e => ⟨[i], .one hi, e, Nat.le_refl _, by rw [ons_one hi]; simp⟩
  | @snoc k ps i q hp hi hb ih =>
    intro e
    obtain ⟨e1, e2⟩ := tight w hp hi hb e
    obtain ⟨qs, a, b, c, d⟩ := ih e1
    by_cases hm : q.1 ∈ ons rs qs
    · obtain ⟨us, a2, b2, c2, d2⟩ := a.cut w b d _ hm
      exact ⟨us, a2, b2, by rw [List.length_append]; omega, d2⟩
    · refine ⟨qs ++ [i], .snoc a hi hb, by rw [sumM_snoc hi]; omega, by rw [List.length_append, List.length_append]; omega, ?_⟩
      rw [ons_snoc hi, List.nodup_append]
      exact ⟨d, by simp, fun x hx y hy z => by rw [List.mem_singleton] at hy; rw [hy] at z; rw [z] at hx; exact hm hx⟩
theorem pigeon : ∀ (n : Nat) (xs : List Int), xs.Nodup → (∀ x ∈ xs, 0 ≤ x ∧ x < n) → xs.length ≤ n
  | 0, [], _, _ => Nat.le_refl _
  | 0, x :: xs, _, h => by have := h x List.mem_cons_self; omega
  | n + 1, xs, nd, h => by
    have a := pigeon n (xs.erase (n : Int)) (nd.erase _) fun x hx => by
      have h1 := h x (List.mem_of_mem_erase hx)
      have h2 : x ≠ n := fun z => by
        rw [z] at hx
        exact (nd.mem_erase_iff.mp hx).1 rfl
      omega
    have b : xs.length - 1 ≤ (xs.erase (n : Int)).length := by
      rw [List.length_erase]
      split <;> omega
    omega
theorem few (w : Lst n rs L) {k : Int} {ps : List Nat} (h : Chn rs k ps) (e : sumM rs ps = g L k) (m : ∀ qs, Chn rs k qs → sumM rs qs = g L k → ps.length ≤ qs.length) : ps.length ≤ n := by
  obtain ⟨qs, a, b, _, d⟩ := h.short w e
  have h1 := pigeon n _ d (a.on_rng w)
  have h2 := m qs a b
  have h3 : (ons rs qs).length = qs.length := ons_len
  omega
def mn (i j : Int) : Int := if j < i then j else i
def st1 (L : List Int) (st : List Int) (q : Rule) : List Int :=
  if q.2.1 < 0 then (if g L q.1 = q.2.2 then put st q.1 (mn (g st q.1) 1) else st)
  else if g L q.1 = g L q.2.1 + q.2.2 then put st q.1 (mn (g st q.1) (g st q.2.1 + 1)) else st
structure Cnt (n : Nat) (rs : List Rule) (L : List Int) (st : List Int) : Prop where
  len : st.length = n
  lo : ∀ m : Int, 0 ≤ m → m < n → 0 ≤ g st m
  hi : ∀ m : Int, 0 ≤ m → m < n → g st m ≤ 99
  z : ∀ m : Int, 0 ≤ m → m < n → g L m = 0 → g st m = 0
  ch : ∀ m : Int, 0 ≤ m → m < n → g st m < 99 → g L m = 0 ∨ ∃ ps, Chn rs m ps ∧ sumM rs ps = g L m ∧ (ps.length : Int) = g st m
theorem Cnt.put (c : Cnt n rs L st) {m v : Int} (h0 : 0 ≤ m) (h1 : m < n) (v0 : 0 ≤ v) (hv : v < g st m → ∃ ps, Chn rs m ps ∧ sumM rs ps = g L m ∧ (ps.length : Int) = v) : Cnt n rs L (put st m (mn (g st m) v)) := by
  have gp : ∀ j : Int, 0 ≤ j → g (MA.put st m (mn (g st m) v)) j = if j = m then mn (g st m) v else g st j := fun j hj => g_put h0 (by rw [c.len]; exact h1) hj
  have cl := c.lo m h0 h1
  have cu := c.hi m h0 h1
  refine ⟨put_len.trans c.len, fun j j0 j1 => ?_, fun j j0 j1 => ?_, fun j j0 j1 e => ?_, fun j j0 j1 e => ?_⟩
  · rw [gp j j0]
    split
    · unfold mn; split <;> omega
    · exact c.lo j j0 j1
  · rw [gp j j0]
    split
    · unfold mn; split <;> omega
    · exact c.hi j j0 j1
  · rw [gp j j0]
    split
    · rename_i ej
      rw [ej] at e
      have := c.z m h0 h1 e
      unfold mn; split <;> omega
    · exact c.z j j0 j1 e
  · rw [gp j j0] at e ⊢
    split at e
    · rename_i ej
      rw [ej, if_pos rfl]
      unfold mn at e ⊢
      split
      · rename_i l; exact .inr (hv l)
      · rename_i l
        rw [if_neg l] at e
        exact c.ch m h0 h1 e
    · rename_i ej
      rw [if_neg ej]
      exact c.ch j j0 j1 e
theorem Cnt.st1 (w : Lst n rs L) (c : Cnt n rs L st) {q : Rule} {i : Nat} (hi : rs[i]? = some q) : Cnt n rs L (st1 L st q) := by
  obtain ⟨a1, a2, a3, a4, a5⟩ := w.k _ (List.mem_of_getElem? hi)
  unfold MA.st1
  split
  · split
    · rename_i e
      exact c.put a1 a2 (by omega) fun _ => ⟨[i], .one hi, by rw [sumM_one hi, e], rfl⟩
    · exact c
  · split
    · rename_i hb e
      have b0 : 0 ≤ q.2.1 := by omega
      have l0 := c.lo q.2.1 b0 a4
      have u0 := c.hi q.1 a1 a2
      refine c.put a1 a2 (by omega) fun hv => ?_
      by_cases z : g L q.2.1 = 0
      · refine ⟨[i], .one hi, by rw [sumM_one hi]; omega, ?_⟩
        rw [c.z _ b0 a4 z]
        rfl
      · rcases c.ch _ b0 a4 (by omega) with z' | ⟨ps, p1, p2, p3⟩
        · exact absurd z' z
        · refine ⟨ps ++ [i], .snoc p1 hi rfl, by rw [sumM_snoc hi]; omega, ?_⟩
          rw [List.length_append]
          show ((ps.length + 1 : Nat) : Int) = _
          omega
    · exact c
theorem st1_le (c : Cnt n rs L st) {q : Rule} (k : Rok n q) : Le n (g (MA.st1 L st q)) (g st) := fun j j0 j1 => by
  obtain ⟨a1, a2, a3, a4, a5⟩ := k
  unfold MA.st1
  have gp : ∀ v, g (MA.put st q.1 v) j = if j = q.1 then v else g st j := fun v => g_put a1 (by rw [c.len]; exact a2) j0
  split
  · split
    · rw [gp]
      split
      · rename_i e; rw [e]; unfold mn; split <;> omega
      · omega
    · omega
  · split
    · rw [gp]
      split
      · rename_i e; rw [e]; unfold mn; split <;> omega
      · omega
    · omega
theorem run (w : Lst n rs L) : ∀ (us : List Rule) (st : List Int), (∀ q ∈ us, q ∈ rs) → Cnt n rs L st → Cnt n rs L (us.foldl (MA.st1 L) st) ∧ Le n (g (us.foldl (MA.st1 L) st)) (g st)
  | [], st, _, c => ⟨c, fun _ _ _ => Int.le_refl _⟩
  | q :: us, st, h, c => by
    obtain ⟨i, hi, e⟩ := List.getElem_of_mem (h q List.mem_cons_self)
    have hi' : rs[i]? = some q := by rw [List.getElem?_eq_getElem hi, e]
    obtain ⟨a, b⟩ := run w us (MA.st1 L st q) (fun x hx => h x (List.mem_cons_of_mem _ hx)) (c.st1 w hi')
    exact ⟨a, fun j j0 j1 => Int.le_trans (b j j0 j1) (st1_le c (w.k _ (List.mem_of_getElem? hi')) j j0 j1)⟩
end MA
set_option Elab.async false
set_option linter.all false
set_option maxRecDepth 100000
set_option maxHeartbeats 4000000
namespace L2
open PySem PySem.Spec PyProof.Rows
end L2
set_option Elab.async false
set_option linter.all false
set_option maxRecDepth 100000
set_option maxHeartbeats 4000000
namespace L2
open PySem PySem.Spec PyProof.Rows
end L2
set_option linter.all false
namespace MA
variable {n : Nat} {rs : List Rule} {L : List Int}
def Tl (L : List Int) (q : Rule) : Prop := q.2.1 ≠ -1 ∧ g L q.1 = g L q.2.1 + q.2.2
inductive Tp (rs : List Rule) (L : List Int) (m : Int) : Int → List Nat → Prop
  | nil : Tp rs L m m []
  | cons {i : Nat} {q : Rule} {ps : List Nat} : rs[i]? = some q → Tl L q → Tp rs L m q.1 ps → Tp rs L m q.2.1 (i :: ps)
structure DistF (rs : List Rule) (L : List Int) (m : Int) (F : Int → Option Nat) : Prop where
  ex : ∀ v d, F v = some d → ∃ ps, Tp rs L m v ps ∧ ps.length = d
  lo : ∀ v ps, Tp rs L m v ps → ∃ d, F v = some d ∧ d ≤ ps.length
def Nx (rs : List Rule) (L : List Int) (F : Int → Option Nat) (v : Int) (i : Nat) : Prop :=
  ∃ (q : Rule) (d : Nat), rs[i]? = some q ∧ q.2.1 = v ∧ Tl L q ∧ F v = some (d + 1) ∧ F q.1 = some d ∧ ∀ (j : Nat) (q' : Rule), j < i → rs[j]? = some q' → q'.2.1 = v → Tl L q' → F q'.1 ≠ some d
inductive Gr (rs : List Rule) (L : List Int) (F : Int → Option Nat) (m : Int) : Int → List Nat → Prop
  | nil : Gr rs L F m m []
  | cons {v : Int} {i : Nat} {q : Rule} {ps : List Nat} : Nx rs L F v i → rs[i]? = some q → Gr rs L F m q.1 ps → Gr rs L F m v (i :: ps)
variable {F : Int → Option Nat} {m : Int}
end MA
set_option Elab.async false
set_option linter.all false
set_option maxRecDepth 100000
set_option maxHeartbeats 4000000
namespace L2
open PySem PySem.Spec PyProof.Rows
theorem comp_gen {J : It} {g : TG} {tt : TT} {te : TE} {own : List Str} {fr : List Nat} {σ : St} {H : Hp} {Q : VK} (n : Nat) (Pv : Nat → List V → Hp → Prop) (h0 : Pv 0 [] H) (hz : n < sizeLine) (hlen : ∀ i ys H, Pv i ys H → ys.length ≤ i)
    (hgo : ∀ i ys H, i < n → Pv i ys H → J.go i H) (hstop : ∀ ys H, Pv n ys H → J.stop n H)
    (hs : ∀ i ys H2 x H3, i < n → Pv i ys H2 → J.yld i H2 x H3 → g x (compSt own fr σ) H3 fun σ4 H4 => tt σ4 H4 fun b H5 => if b = true then te σ4 H5 fun y H6 => Pv (i + 1) (ys ++ [y]) H6 else Pv (i + 1) ys H5)
    (hq : ∀ ys H2 p, Pv n ys H2 → H2 p = none → Q (.ref p) (upd H2 p (.lst ys))) : CompW J g tt te own fr σ H Q := by
  refine ⟨fun i m ys H2 => i ≤ n ∧ m = n - i ∧ Pv i ys H2, ⟨n, Nat.zero_le _, rfl, h0⟩, ?_⟩
  rintro i m ys H2 ⟨hi, rfl, hp⟩
  by_cases hlt : i < n
  · refine .inr ⟨hgo i ys H2 hlt hp, Nat.lt_of_le_of_lt (hlen i ys H2 hp) (by omega), fun x H3 hy => ?_⟩
    have e : ∀ zs H6, (∃ m', m' < n - i ∧ i + 1 ≤ n ∧ m' = n - (i + 1) ∧ Pv (i + 1) zs H6) = Pv (i + 1) zs H6 := fun zs H6 => propext ⟨fun ⟨_, _, _, _, z⟩ => z, fun z => ⟨n - (i + 1), by omega, hlt, rfl, z⟩⟩
    simp only [e]
    exact hs i ys H2 x H3 hlt hp hy
  · have e : i = n := by omega
    subst e
    exact .inl ⟨hstop ys H2 hp, Nat.le_of_lt (Nat.lt_of_le_of_lt (hlen _ ys H2 hp) hz), fun p np => hq ys H2 p hp np⟩
section
variable {X : Cx} {pins : List (Addr × Obj)} {σ : St} {H : Hp} {s : Shared} {h' : Heap}
theorem Inv.turnedL {t' : Nat} {ch : List Addr} (I : Inv X pins σ H s) (k : ∀ c o, c ∉ ch → s.heap.get? c = some o → h'.get? c = some o) (fa : ∀ a ∈ ch, FpOk X pins H a) : Inv X pins σ H { s with heap := h', toks := t' } := by
  have na : ∀ c u, H c = some u → c ∉ ch := fun c u e z => by rw [(fa c z).1] at e; cases e
  refine I.step (g' := s.gens) (d' := s.drawn) (ch := ch) (fun c hc => ?_) (fun c o _ _ hc e _ => k c o hc e) (fun c o _ _ hc e _ => ⟨o.slots, k c o hc e⟩) (fun _ _ _ _ n => n)
    (fun c o hc e => ⟨o, k c o hc e⟩) (fun _ _ e => e) (fun _ _ _ e => e) (fun c ps e => ⟨#[], by rw [e]; simp⟩) (fun m hm => ?_) (fun c u e => ?_) I.bare
  · exact ⟨(fa c hc).2.2.2.1, (fa c hc).2.1, (fa c hc).2.2.2.2.1, (fa c hc).2.2.2.2.2⟩
  · obtain ⟨o, es, ep, ho, r⟩ := hm
    exact ⟨o, es, ep, k _ o (fun z => (fa _ z).2.1 rfl) ho, r⟩
  · refine (I.hok c u e).stay (fun d v hd q => k d v ?_ q) (fun _ q => q) fun _ _ q => q
    rcases hd with z | z
    · rw [z]; exact na c u e
    · exact na d _ z
end
def Itz (K : PySem.W.Frag) (a b : Addr) : It :=
  ⟨fun i H => ∃ xs ys x y, SqL K H a xs ∧ SqL K H b ys ∧ xs[i]? = some x ∧ ys[i]? = some y, fun i H v H' => ∃ t x y, v = .ref t ∧ H t = none ∧ H' = upd H t (.tup [x, y]) ∧ (∀ xs, SqL K H a xs → xs[i]? = some x) ∧ ∀ ys, SqL K H b ys → ys[i]? = some y, fun i H => ∃ xs ys, SqL K H a xs ∧ SqL K H b ys ∧ (xs.length ≤ i ∨ ys.length ≤ i)⟩
theorem zip_apart {h : Heap} {z TI TO i1 i2 a b : Addr} {f0 u v : Value} {k1 k2 : Nat} {xs ys : Array Value} (hz : IsZip h z TI TO f0) (h1 : h.IsListIter i1 a k1) (h2 : h.IsListIter i2 b k2) (hp : IsPair h TO u v) (ha : h.IsList a xs) (hb : h.IsList b ys) :
    a ≠ z ∧ a ≠ TO ∧ a ≠ i1 ∧ a ≠ i2 ∧ b ≠ z ∧ b ≠ TO ∧ b ≠ i1 ∧ b ≠ i2 := by
  obtain ⟨o1, e1, c1, d1⟩ := h1
  obtain ⟨o2, e2, c2, d2⟩ := h2
  obtain ⟨oa, ea, ca, da⟩ := ha
  obtain ⟨ob, eb, cb, db⟩ := hb
  refine ⟨fun e => ?_, fun e => ?_, fun e => ?_, fun e => ?_, fun e => ?_, fun e => ?_, fun e => ?_, fun e => ?_⟩ <;> subst e
  · rw [hz] at ea; cases ea; exact absurd (Value.type.inj ca) (by decide)
  · rw [hp] at ea; cases ea; exact absurd (Value.type.inj ca) (by decide)
  · rw [e1] at ea; cases ea; rw [c1] at ca; exact absurd (Value.type.inj ca) (by decide)
  · rw [e2] at ea; cases ea; rw [c2] at ca; exact absurd (Value.type.inj ca) (by decide)
  · rw [hz] at eb; cases eb; exact absurd (Value.type.inj cb) (by decide)
  · rw [hp] at eb; cases eb; exact absurd (Value.type.inj cb) (by decide)
  · rw [e1] at eb; cases eb; rw [c1] at cb; exact absurd (Value.type.inj cb) (by decide)
  · rw [e2] at eb; cases eb; rw [c2] at cb; exact absurd (Value.type.inj cb) (by decide)
structure ZAp (z TI TO i1 i2 : Addr) : Prop where
  TIz : TI ≠ z
  TOz : TO ≠ z
  i1z : i1 ≠ z
  i2z : i2 ≠ z
  TITO : TI ≠ TO
  TIi1 : TI ≠ i1
  TIi2 : TI ≠ i2
  TOi1 : TO ≠ i1
  TOi2 : TO ≠ i2
  i12 : i1 ≠ i2
structure ZSt (h : Heap) (z TI TO i1 i2 a b : Addr) (i : Nat) : Prop where
  zp : IsZip h z TI TO .none
  pi : IsPair h TI (.ref i1) (.ref i2)
  po : ∃ u v, IsPair h TO u v
  h1 : h.IsListIter i1 a i
  h2 : h.IsListIter i2 b i
  ap : ZAp z TI TO i1 i2
theorem turn_zip {P : Program} {w : World} {K : PySem.W.Frag} {elts : List Expr} {x1} {pos : Pos} (a b z TI TO i1 i2 : Addr) : Turn P w K (.Tuple elts x1 pos) (Itz K a b) [z, TI, TO, i1, i2] z (fun i h => ZSt h z TI TO i1 i2 a b i) where
  mem := by simp
  obj := fun i h st c hc => by
    obtain ⟨hz, hp, ⟨u, v, ho⟩, ⟨o1, e1, c1, d1⟩, ⟨o2, e2, c2, d2⟩, _⟩ := st
    simp only [List.mem_cons, List.not_mem_nil, or_false] at hc
    rcases hc with rfl | rfl | rfl | rfl | rfl
    · exact ⟨_, hz, fun v q => by cases q⟩
    · exact ⟨_, hp, fun v q => by cases q⟩
    · exact ⟨_, ho, fun v q => by cases q⟩
    · exact ⟨o1, e1, fun v q => by rw [d1] at q; cases q⟩
    · exact ⟨o2, e2, fun v q => by rw [d2] at q; cases q⟩
  keep := fun i h h' st k => by
    obtain ⟨hz, hp, ⟨u, v, ho⟩, h1, h2, ap⟩ := st
    exact ⟨k z (by simp) _ hz, k TI (by simp) _ hp, ⟨u, v, k TO (by simp) _ ho⟩, h1.at fun o q => k i1 (by simp) o q, h2.at fun o q => k i2 (by simp) o q, ap⟩
  item := by
    intro X hP hw hK hc i pins s σ H E I hf st hg
    subst hP hw hK
    obtain ⟨hz, hp, ⟨u, v, ho⟩, h1, h2, ap⟩ := st
    obtain ⟨xs, ys, x, y, hqa, hqb, hx, hy⟩ := hg
    obtain ⟨its, rv, p, hsz⟩ := I.list hqa
    obtain ⟨jts, rw', p2, hsz2⟩ := I.list hqb
    obtain ⟨ux, hux, rux⟩ := rv.get hx
    obtain ⟨uy, huy, ruy⟩ := rw'.get hy
    obtain ⟨q1, q2, q3, q4, q5, q6, q7, q8⟩ := zip_apart hz h1 h2 ho p.isList p2.isList
    have za : ZipApart z TI TO i1 i2 a b := ⟨ap.TIz, ap.TOz, ap.i1z, ap.i2z, ap.TITO, ap.TIi1, ap.TIi2, ap.TOi1, ap.TOi2, ap.i12, q1, q2, q3, q4, q5, q6, q7, q8⟩
    have ltz : z < s.heap.objs.size := Heap.lt_size hz
    have ltI : TI < s.heap.objs.size := Heap.lt_size hp
    have ltO : TO < s.heap.objs.size := Heap.lt_size ho
    have lt1 : i1 < s.heap.objs.size := by obtain ⟨o, q, _⟩ := id h1; exact Heap.lt_size q
    have lt2 : i2 < s.heap.objs.size := by obtain ⟨o, q, _⟩ := id h2; exact Heap.lt_size q
    refine wpAny_pyNext_zip_item za hz hp ho h1 h2 p.isList p2.isList (x := ux) (y := uy) (by simpa using hux) (by simpa using huy) fun h' hz' ho' h1' h2' ht hs' hk => ?_
    refine ⟨_, rfl, wpAny_letOwnedTupleGo_zip hz' fun h3 hz3 sb => ?_⟩
    have kall : ∀ c o, c ∉ [z, TI, TO, i1, i2] → s.heap.get? c = some o → h3.get? c = some o := fun c o hc q => by
      simp only [List.mem_cons, List.not_mem_nil, or_false, not_or] at hc
      exact (sb.2 c hc.1).trans (hk c o hc.1 hc.2.2.1 hc.2.2.2.1 hc.2.2.2.2 q)
    have I1 : Inv X pins σ H { s with heap := h3, toks := s.toks } := I.turnedL kall hf
    have ht2 : h3.get? s.heap.objs.size = some { cls := .type "tuple", data := .seq #[ux, uy] } := (sb.2 _ (Nat.ne_of_gt ltz)).trans ht
    have fT : FpOk X pins H s.heap.objs.size := I.fpOk (Nat.le_refl _) (I.hok.fresh (Nat.le_refl _))
    have new : ObjOk X.prog X.w (upd H s.heap.objs.size (.tup [x, y])) h3 s.heap.objs.size (.tup [x, y]) := ⟨by show 2 ≤ sizeLine; decide, [ux, uy], .cons rux (.cons ruy .nil), ⟨_, ht2, rfl, _, rfl⟩⟩
    refine ⟨.ref s.heap.objs.size, _, I1.track fT new, rfl, ⟨_, x, y, rfl, fT.1, rfl, fun zs hzs => by rw [I.list_inj hzs hqa]; exact hx, fun zs hzs => by rw [I.list_inj hzs hqb]; exact hy⟩, ⟨hz3, ?_, ?_, ?_, ?_, ap⟩, fun c hc => ?_⟩
    · exact (sb.2 _ ap.TIz).trans (hk _ _ ap.TIz ap.TITO ap.TIi1 ap.TIi2 hp)
    · exact ⟨_, _, (sb.2 _ ap.TOz).trans ho'⟩
    · exact h1'.at fun o q => (sb.2 _ ap.i1z).trans q
    · exact h2'.at fun o q => (sb.2 _ ap.i2z).trans q
    · have := (hf c hc).1
      simp only [List.mem_cons, List.not_mem_nil, or_false] at hc
      rcases hc with rfl | rfl | rfl | rfl | rfl
      · rw [upd_ne (Nat.ne_of_lt ltz)]; exact this
      · rw [upd_ne (Nat.ne_of_lt ltI)]; exact this
      · rw [upd_ne (Nat.ne_of_lt ltO)]; exact this
      · rw [upd_ne (Nat.ne_of_lt lt1)]; exact this
      · rw [upd_ne (Nat.ne_of_lt lt2)]; exact this
  done := by
    intro X hP hw hK hc i pins s σ H E I hf st hg
    subst hP hw hK
    obtain ⟨hz, hp, ⟨u, v, ho⟩, h1, h2, ap⟩ := st
    obtain ⟨xs, ys, hqa, hqb, hx⟩ := hg
    obtain ⟨its, rv, p, hsz⟩ := I.list hqa
    obtain ⟨jts, rw', p2, hsz2⟩ := I.list hqb
    obtain ⟨q1, q2, q3, q4, q5, q6, q7, q8⟩ := zip_apart hz h1 h2 ho p.isList p2.isList
    have za : ZipApart z TI TO i1 i2 a b := ⟨ap.TIz, ap.TOz, ap.i1z, ap.i2z, ap.TITO, ap.TIi1, ap.TIi2, ap.TOi1, ap.TOi2, ap.i12, q1, q2, q3, q4, q5, q6, q7, q8⟩
    have hl := rv.length
    have hl2 := rw'.length
    refine wpAny_pyNext_zip_end (I.ok.hd hc) za hz hp ho h1 h2 p.isList p2.isList ?_ fun h' hk => ⟨rfl, I.turnedL (t' := s.toks) (ch := [z, TI, TO, i1, i2]) (fun c o hc q => ?_) hf⟩
    · rcases hx with hx | hx
      · left; simp; omega
      · right; simp; omega
    · simp only [List.mem_cons, List.not_mem_nil, or_false, not_or] at hc
      exact hk c o hc.1 hc.2.2.1 hc.2.2.2.1 hc.2.2.2.2 q
  self := fun _ _ _ _ _ st h => wpAny_pyIter_zip st.zp h
section
variable {X : Cx}
def iZip (K : PySem.W.Frag) (ta : TA) : TI := fun σ H R => ta σ H fun vs H1 => ∃ a b, vs = [.ref a, .ref b] ∧ (∃ xs, SqL K H1 a xs) ∧ (∃ ys, SqL K H1 b ys) ∧ R (Itz K a b) H1
theorem boot_zip : bootBuiltins "zip" = some (.type "zip") := by decide +kernel
theorem pi_zip {elts : List Expr} {x1} {tpos : Pos} {a b : Expr} {ta : TA} {p pos : Pos} (hg : Gl X "zip") (hm : X.mg "zip" = none) (ha : PA X [a, b] ta) (hs : starEach [a, b] X.env = (false, eval a X.env) :: starEach [b] X.env := by rfl) (hs2 : ((backTo pos (starEach [b] X.env)).any fun x => x.fst) = false := by rfl) : PI X (.Tuple elts x1 tpos) (.Call (.Name "zip" p) [a, b] [] pos) (iZip X.K ta) := by
  intro pins s σ H R I h
  refine Call_ (ld_blt I hg hm boot_zip (PyProof.Rows.callWith_type1 (thn (ha pos pins s σ H _ I h) fun us s1 ⟨vs, H1, I1, r1, q1⟩ => ?_) hs hs2))
  obtain ⟨l1, l2, e, ⟨xs, hq1⟩, ⟨ys, hq2⟩, q⟩ := q1
  subst e
  obtain ⟨u1, u2, rfl, ru1, ru2⟩ := vals2 r1
  cases ru1
  cases ru2
  obtain ⟨its, rv, pl, hz⟩ := I1.list hq1
  obtain ⟨jts, rw', pl2, hz2⟩ := I1.list hq2
  refine call_zip_2 pl.isList pl2.isList fun h' hzp hpi hpo h1 h2 hsz hk => ?_
  refine wpAny_pyIter_zip hzp ?_
  have I2 : Inv X pins σ H1 { s1 with heap := h' } := I1.kept (t' := s1.toks) hk
  refine ⟨s1.heap.objs.size + 4, [s1.heap.objs.size + 4, s1.heap.objs.size + 2, s1.heap.objs.size + 3, s1.heap.objs.size, s1.heap.objs.size + 1], _, _, H1, rfl, I2, turn_zip l1 l2 _ _ _ _ _, ⟨hzp, hpi, ⟨_, _, hpo⟩, h1, h2, ?_⟩, fun b hb => ?_, q⟩
  · constructor <;> intro e <;> exact absurd e (by show ¬ (_ : Nat) = _; omega)
  · have hb' : s1.heap.objs.size ≤ b := by
      simp only [List.mem_cons, List.not_mem_nil, or_false] at hb
      rcases hb with rfl | rfl | rfl | rfl | rfl
      · exact Nat.le_add_right _ _
      · exact Nat.le_add_right _ _
      · exact Nat.le_add_right _ _
      · exact Nat.le_refl _
      · exact Nat.le_add_right _ _
    exact I1.fpOk hb' (I1.hok.fresh hb')
end
theorem comp_zip {K : PySem.W.Frag} {a b : Addr} {xs zs : List V} {g : TG} {tt : TT} {te : TE} {own : List Str} {fr : List Nat} {σ : St} {H : Hp} {Q : VK} (Pv : Nat → List V → Hp → Prop) (hJ : ∀ i ys H, Pv i ys H → SqL K H a xs ∧ SqL K H b zs) (hl : zs.length = xs.length) (h0 : Pv 0 [] H) (hz : xs.length < sizeLine) (hlen : ∀ i ys H, Pv i ys H → ys.length ≤ i)
    (hs : ∀ i ys H2 x z t, xs[i]? = some x → zs[i]? = some z → Pv i ys H2 → H2 t = none → g (.ref t) (compSt own fr σ) (upd H2 t (.tup [x, z])) fun σ4 H4 => tt σ4 H4 fun b H5 => if b = true then te σ4 H5 fun y H6 => Pv (i + 1) (ys ++ [y]) H6 else Pv (i + 1) ys H5)
    (hq : ∀ ys H2 p, Pv xs.length ys H2 → H2 p = none → Q (.ref p) (upd H2 p (.lst ys))) : CompW (Itz K a b) g tt te own fr σ H Q := by
  refine comp_gen xs.length Pv h0 hz hlen (fun i ys H hi hp => ⟨xs, zs, xs[i], zs[i], (hJ i ys H hp).1, (hJ i ys H hp).2, List.getElem?_eq_getElem hi, List.getElem?_eq_getElem _⟩) (fun ys H hp => ⟨xs, zs, (hJ _ ys H hp).1, (hJ _ ys H hp).2, .inl (Nat.le_refl _)⟩) (fun i ys H2 x H3 hi hp hy => ?_) hq
  obtain ⟨t, x, z, rfl, nt, rfl, hx, hz'⟩ := hy
  exact hs i ys H2 x z t (hx xs (hJ i ys H2 hp).1) (hz' zs (hJ i ys H2 hp).2) hp nt
section
variable {X : Cx}
end
end L2
set_option Elab.async false
set_option linter.all false
set_option maxRecDepth 100000
set_option maxHeartbeats 4000000
namespace L2
open PySem PySem.Spec PyProof.Rows
def nD (kvs : KVs) (v : Int) : Option Nat := match valV kvs (Sum.inl v) with
  | some (.int k) => some k.toNat
  | _ => none
structure Bg (H0 H : Hp) (n : Nat) (rs : List MA.Rule) (L : List Int) (m : Int) (d q : Addr) (kvs : KVs) (ws : List Int) (sk : Int → Prop) : Prop where
  hd : H d = some (.dK kvs)
  hq : H q = some (.lst (ws.map V.int))
  sm : Same H0 H
  fd : H0 d = none
  fq : H0 q = none
  rng : ∀ k, has kvs k → 0 ≤ k ∧ k < n
  num : ∀ k v, valV kvs (Sum.inl k) = some v → ∃ j : Nat, v = .int (j : Nat)
  ex : ∀ k j, nD kvs k = some j → ∃ ps, MA.Tp rs L m k ps ∧ ps.length = j
  st : nD kvs m = some 0
  wk : ∀ w ∈ ws, has kvs w
  srt : ws.Pairwise fun a b => ∀ x y, nD kvs a = some x → nD kvs b = some y → x ≤ y
  top : ∀ k x, nD kvs k = some x → ∀ w ∈ ws, ∀ y, nD kvs w = some y → x ≤ y + 1
  cl : ∀ k x, nD kvs k = some x → k ∉ ws → ¬ sk k → ∀ r ∈ rs, MA.Tl L r → r.1 = k → ∃ y, nD kvs r.2.1 = some y ∧ y ≤ x + 1
  cn : kvs.length + cntN n kvs ≤ n
  bd : ∀ k j, nD kvs k = some j → j + 1 ≤ kvs.length
section
variable {H0 H : Hp} {n : Nat} {rs : List MA.Rule} {L : List Int} {m : Int} {d q : Addr} {kvs : KVs} {ws : List Int} {sk : Int → Prop}
end
end L2
set_option Elab.async false
set_option linter.all false
set_option maxRecDepth 100000
set_option maxHeartbeats 4000000
namespace L2
open PySem PySem.Spec PyProof.Rows
section
variable {X : Cx}
end
end L2
set_option Elab.async false
set_option linter.all false
set_option maxRecDepth 100000
set_option maxHeartbeats 4000000
namespace L2
open PySem PySem.Spec PyProof.Rows
inductive F2 {α β : Type} (R : α → β → Prop) : List α → List β → Prop
  | nil : F2 R [] []
  | cons {a b as bs} : R a b → F2 R as bs → F2 R (a :: as) (b :: bs)
namespace F2
variable {α β : Type} {R S : α → β → Prop} {as as' : List α} {bs bs' : List β}
theorem length (h : F2 R as bs) : as.length = bs.length := by induction h with
  | nil => rfl
  | cons _ _ ih => rw [List.length_cons, List.length_cons, ih]
theorem get (h : F2 R as bs) : ∀ {i : Nat} {a : α}, as[i]? = some a → ∃ b, bs[i]? = some b ∧ R a b := by
  induction h with
  | nil => intro i a e; cases e
  | @cons a0 b0 _ _ r _ ih =>
    intro i a e
    cases i with
    | zero => cases e; exact ⟨_, rfl, r⟩
    | succ i => exact ih e
theorem at' (h : F2 R as bs) : ∀ {i : Nat} {b : β}, bs[i]? = some b → ∃ a, as[i]? = some a ∧ R a b := by
  induction h with
  | nil => intro i a e; cases e
  | @cons a0 b0 _ _ r _ ih =>
    intro i a e
    cases i with
    | zero => cases e; exact ⟨_, rfl, r⟩
    | succ i => exact ih e
theorem append (h : F2 R as bs) (h' : F2 R as' bs') : F2 R (as ++ as') (bs ++ bs') := by
  induction h with
  | nil => exact h'
  | cons r _ ih => exact .cons r ih
theorem take (h : F2 R as bs) : ∀ k, F2 R (as.take k) (bs.take k) := by
  induction h with
  | nil => intro k; rw [List.take_nil, List.take_nil]; exact .nil
  | cons r _ ih =>
    intro k
    cases k with
    | zero => exact .nil
    | succ k => exact .cons r (ih k)
theorem imp (h : F2 R as bs) (f : ∀ a b, R a b → S a b) : F2 S as bs := by
  induction h with
  | nil => exact .nil
  | cons r _ ih => exact .cons (f _ _ r) ih
theorem mem (h : F2 R as bs) : ∀ {a : α}, a ∈ as → ∃ b ∈ bs, R a b := by
  induction h with
  | nil => intro a e; cases e
  | cons r _ ih =>
    intro a e
    rcases List.mem_cons.mp e with rfl | e
    · exact ⟨_, List.mem_cons_self, r⟩
    · obtain ⟨b, hb, hr⟩ := ih e
      exact ⟨b, List.mem_cons_of_mem _ hb, hr⟩
end F2
abbrev Mem := Str × Option Int
abbrev Dem := Str × Str × Option Str × Int
structure HSt where
  ms : List Mem
  ds : List Dem
  ks : List (List Mem × List Dem)
def optS : Option Str → V
  | none => .non
  | some s => .str s
def demV (d : Dem) : List V := [.str d.1, .str d.2.1, optS d.2.2.1, .int d.2.2.2]
def memV (m : Mem) : List V := [.str m.1, capV m.2]
def memR (is : List Addr) (H : Hp) (v : V) (m : Mem) : Prop := ∃ t, v = .ref t ∧ t ∈ is ∧ H t = some (.tup (memV m))
def demR (is : List Addr) (H : Hp) (v : V) (d : Dem) : Prop := ∃ t, v = .ref t ∧ t ∈ is ∧ H t = some (.tup (demV d))
def MR (is : List Addr) (H : Hp) (p : Addr) (ms : List Mem) : Prop := p ∈ is ∧ ∃ xs, H p = some (.lst xs) ∧ F2 (memR is H) xs ms
def DR (is : List Addr) (H : Hp) (p : Addr) (ds : List Dem) : Prop := p ∈ is ∧ ∃ xs, H p = some (.lst xs) ∧ F2 (demR is H) xs ds
def keptR (is : List Addr) (H : Hp) (v : V) (k : List Mem × List Dem) : Prop := ∃ t p q, v = .ref t ∧ t ∈ is ∧ H t = some (.tup [.ref p, .ref q]) ∧ MR is H p k.1 ∧ DR is H q k.2
section
variable {is is' : List Addr} {H H' : Hp} {p q : Addr} {ms : List Mem} {ds : List Dem} {v : V}
end
abbrev hFlds (p q r : Addr) : List (Str × V) := [("member_rows", .ref p), ("demand_rows", .ref q), ("kept_deeds", .ref r)]
structure HIx (C : Addr) (H : Hp) (h dx p q r : Addr) (is : List Addr) (kv : List V) (S : HSt) : Prop where
  n1 : dx ≠ h
  n2 : r ≠ h
  n3 : r ≠ dx
  nh : h ∉ is
  nd : dx ∉ is
  nr : r ∉ is
  ih : H h = some (.ins C dx (hFlds p q r))
  id : H dx = some (.own h)
  ir : H r = some (.lst kv)
  ks : F2 (keptR is H) kv S.ks
  ms : MR is H p S.ms
  ds : DR is H q S.ds
  al : ∀ b ∈ is, ∃ o, H b = some o
def HI (C : Addr) (H : Hp) (h : Addr) (os : List Addr) (S : HSt) : Prop := ∃ dx p q r is kv, os = h :: dx :: r :: is ∧ HIx C H h dx p q r is kv S
section
variable {C h dx p q r : Addr} {H H' : Hp} {is os : List Addr} {kv : List V} {S : HSt}
end
section
variable {C h dx p q r : Addr} {H : Hp} {is : List Addr} {kv : List V} {S : HSt}
end
end L2
set_option Elab.async false
set_option linter.all false
set_option maxRecDepth 100000
set_option maxHeartbeats 4000000
namespace L2
open PySem PySem.Spec PyProof.Rows
inductive Deed
  | member (y : Str) | plain (y m : Str) (p e o : Int) | link (y m b : Str) (mo : Int) | top (m : Str) (wd : Int) | back | sM (m : Str) | sD (y : Str) | sT (m : Str)
inductive Due
  | ok | unknown | inUse | tooMuch | full | nothing
deriving DecidableEq
def capOf (ms : List Mem) (m : Str) : Option Int := match ms.find? (fun x => x.1 == m) with
  | some x => x.2
  | none => none
structure GMD (ms : List Mem) (ds : List Dem) : Prop where
  ml : ms.length ≤ 12
  dl : ds.length ≤ 24
  mn : (ms.map (·.1)).Nodup
  dn : (ds.map (·.1)).Nodup
  mN : ∀ y ∈ ms.map (·.1), Nm y
  dN : ∀ y ∈ ds.map (·.1), Nm y
structure Gd (S : HSt) : Prop where
  now : GMD S.ms S.ds
  ks : ∀ k ∈ S.ks, GMD k.1 k.2
  bot : (S.ks = [] → S.ms = [] ∧ S.ds = []) ∧ ∀ k, S.ks[0]? = some k → k = ([], [])
end L2
set_option Elab.async false
set_option linter.all false
set_option maxRecDepth 100000
set_option maxHeartbeats 4000000
namespace L2
open PySem PySem.Spec PyProof.Rows
section
variable {X : Cx} {pos : Pos}
end
def rowX (xs : List Addr) (H : Hp) (v : V) (d : Dem) : Prop := ∃ t, v = .ref t ∧ t ∉ xs ∧ H t = some (.tup (demV d))
structure LSx (xs : List Addr) (n : Nat) (H : Hp) (ts ln la dd : Addr) (vs : List V) (kvs : KVs) (ms : List Mem) (ds : List Dem) : Prop where
  t0 : ts ∉ xs
  ht : H ts = some (.tup [.ref ln, .ref la, .ref dd])
  n0 : ln ∉ xs
  hn : H ln = some (.lst ((ms.map (·.1)).map V.str))
  a0 : la ∉ xs
  ha : H la = some (.lst vs)
  ar : F2 (rowX xs H) vs ds
  d0 : dd ∉ xs
  hd : H dd = some (.dK kvs)
  cp : ∀ m, valV kvs (Sum.inr m) = (capOf ms m).map V.int
  kl : kvs.length ≤ n
def LS (xs : List Addr) (n : Nat) (H : Hp) (ts : Addr) (ms : List Mem) (ds : List Dem) : Prop := ∃ ln la dd vs kvs, LSx xs n H ts ln la dd vs kvs ms ds
section
variable {xs xs' : List Addr} {n n' : Nat} {H H' : Hp} {ts : Addr} {ms : List Mem} {ds : List Dem}
end
structure Wd (C : Addr) (n : Nat) (H : Hp) (h : Addr) (os : List Addr) (pl ts : Addr) (S : HSt) : Prop where
  it : HI C H h os S
  po : pl ∉ os
  pv : ∃ pv, H pl = some (.lst pv) ∧ F2 (fun v k => ∃ t, v = V.ref t ∧ LS (pl :: os) n H t k.1 k.2) pv S.ks
  ls : LS (pl :: os) n H ts S.ms S.ds
  gd : Gd S
section
variable {C h pl ts : Addr} {n : Nat} {H H' : Hp} {os : List Addr} {S : HSt}
end
end L2
set_option Elab.async false
set_option linter.all false
set_option maxRecDepth 100000
set_option maxHeartbeats 4000000
namespace L2
open PySem PySem.Spec PyProof.Rows
structure Wx (C : Addr) (n : Nat) (H : Hp) (h : Addr) (os : List Addr) (pl ts : Addr) (S : HSt) (X : List Addr) : Prop where
  it : HI C H h os S
  po : pl ∉ os
  xo : ∀ b ∈ X, b ∉ pl :: os ∧ ∃ o, H b = some o
  pv : ∃ pv, H pl = some (.lst pv) ∧ F2 (fun v k => ∃ t, v = V.ref t ∧ LS (pl :: (os ++ X)) n H t k.1 k.2) pv S.ks
  ls : LS (pl :: (os ++ X)) n H ts S.ms S.ds
  gd : Gd S
section
variable {C h pl ts : Addr} {n n' : Nat} {H H' : Hp} {os X : List Addr} {S : HSt}
end
end L2
set_option Elab.async false
set_option linter.all false
set_option maxRecDepth 100000
set_option maxHeartbeats 4000000
namespace L2
open PySem PySem.Spec PyProof.Rows
structure Two (C : Addr) (n : Nat) (H : Hp) (h : Addr) (os : List Addr) (pl ts : Addr) (S : HSt) (h' : Addr) (os' : List Addr) (pl' ts' : Addr) (S' : HSt) (sl : Addr) : Prop where
  a : Wx C n H h os pl ts S (pl' :: (os' ++ [sl]))
  b : Wx C n H h' os' pl' ts' S' (pl :: (os ++ [sl]))
  ka : S.ks.length ≤ n
  kb : S'.ks.length ≤ n
section
variable {C h pl ts h' pl' ts' sl : Addr} {n n' : Nat} {H H' : Hp} {os os' : List Addr} {S S' : HSt}
end
end L2
set_option Elab.async false
set_option linter.all false
set_option maxRecDepth 100000
set_option maxHeartbeats 4000000
namespace L2
open PySem PySem.Spec PyProof.Rows
end L2
set_option Elab.async false
set_option linter.all false
set_option maxRecDepth 100000
set_option maxHeartbeats 4000000
namespace L2
open PySem PySem.Spec PyProof.Rows
def constV : Expr → Option V
  | .Constant (.int i) _ _ => some (.int i)
  | .Constant (.str x) _ _ => some (.str x)
  | .Constant (.bool b) _ _ => some (.bl b)
  | .Constant .none _ _ => some .non
  | _ => none
def constsV : List Expr → Option (List V)
  | [] => some []
  | e :: es => match constV e, constsV es with
    | some v, some vs => some (v :: vs)
    | _, _ => none
def rowsV : List Expr → Option (List (List V))
  | [] => some []
  | .Tuple es _ _ :: r => match constsV es, rowsV r with
    | some v, some vs => some (v :: vs)
    | _, _ => none
  | _ => none
def tConsts0 : List V → TA
  | [] => tNil
  | v :: vs => tCons (tC v) (tConsts0 vs)
def tRows0 : List (List V) → TA
  | [] => tNil
  | v :: vs => tCons (tTup (tConsts0 v)) (tRows0 vs)
section
variable {X : Cx}
theorem pe_const {e : Expr} {v : V} (h : constV e = some v) : PE X e (tC v) ∧ isStar e = false := by
  unfold constV at h
  split at h <;> cases h
  · exact ⟨pe_int, rfl⟩
  · exact ⟨pe_str, rfl⟩
  · exact ⟨pe_bl, rfl⟩
  · exact ⟨pe_non, rfl⟩
theorem pa_consts0 : ∀ {es : List Expr} {vs : List V}, constsV es = some vs → PA X es (tConsts0 vs)
  | [], _, h => by cases h; exact pa_nil
  | e :: es, vs, h => by
    unfold constsV at h
    split at h
    · rename_i v ws h1 h2
      cases h
      obtain ⟨a, b⟩ := pe_const (X := X) h1
      exact pa_c a (pa_consts0 h2) b
    · cases h
theorem pa_rows0 : ∀ {es : List Expr} {vs : List (List V)}, rowsV es = some vs → PA X es (tRows0 vs)
  | [], _, h => by cases h; exact pa_nil
  | e :: es, vs, h => by
    unfold rowsV at h
    split at h
    · rename_i e2; cases e2
    · rename_i ts k p r e2
      cases e2
      split at h
      · rename_i v ws h1 h2
        cases h
        exact pa_c (pe_tup (pa_consts0 h1)) (pa_rows0 h2) rfl
      · cases h
    · cases h
end
theorem consts_of0 : ∀ {vs : List V} {σ : St} {H : Hp} {Q : List V → Hp → Prop}, Q vs H → tConsts0 vs σ H Q
  | [], _, _, _, h => h
  | v :: vs, σ, H, Q, h => consts_of0 (Q := fun xs H2 => Q (v :: xs) H2) h
theorem rows_of0 : ∀ {vs : List (List V)} {σ : St} {H : Hp} {Q : List V → Hp → Prop}, (∀ v ∈ vs, v.length ≤ sizeLine) → (∀ (ts : List Addr) (H' : Hp), Same H H' → F2 (fun t v => H' t = some (.tup v)) ts vs → Q (ts.map V.ref) H') → tRows0 vs σ H Q
  | [], _, H, _, _, h => h [] H (Same.refl H) .nil
  | v :: vs, σ, H, Q, hl, h => consts_of0 (Q := fun xs H1 => xs.length ≤ sizeLine ∧ ∀ p, H1 p = none → tRows0 vs σ (upd H1 p (.tup xs)) fun ys H2 => Q (.ref p :: ys) H2) ⟨hl v (List.mem_cons_self), fun p np => rows_of0 (fun z hz => hl z (List.mem_cons_of_mem _ hz)) fun ts H' s f => h (p :: ts) H' ((Same.upd np).trans s) (.cons (s _ _ upd_same) f)⟩
def tConsts (vs : List V) : TA := fun _ H Q => Q vs H
def tRows (vs : List (List V)) : TA := fun _ H Q => (∀ v ∈ vs, v.length ≤ sizeLine) ∧ ∀ (ts : List Addr) (H' : Hp), Same H H' → F2 (fun t v => H' t = some (.tup v)) ts vs → Q (ts.map V.ref) H'
section
variable {X : Cx}
theorem pa_consts {es : List Expr} {vs : List V} (h : constsV es = some vs) : PA X es (tConsts vs) := fun pos pins s σ H Q I q => pa_consts0 h pos pins s σ H Q I (consts_of0 q)
theorem pa_rows {es : List Expr} {vs : List (List V)} (h : rowsV es = some vs) : PA X es (tRows vs) := fun pos pins s σ H Q I q => pa_rows0 h pos pins s σ H Q I (rows_of0 q.1 q.2)
end
theorem consts_of {vs : List V} {σ : St} {H : Hp} {Q : List V → Hp → Prop} (h : Q vs H) : tConsts vs σ H Q := h
theorem rows_of {vs : List (List V)} {σ : St} {H : Hp} {Q : List V → Hp → Prop} (h1 : ∀ v ∈ vs, v.length ≤ sizeLine) (h2 : ∀ (ts : List Addr) (H' : Hp), Same H H' → F2 (fun t v => H' t = some (.tup v)) ts vs → Q (ts.map V.ref) H') : tRows vs σ H Q := ⟨h1, h2⟩
end L2
set_option Elab.async false
set_option linter.all false
set_option maxRecDepth 100000
set_option maxHeartbeats 4000000
namespace L2
open PySem PySem.Spec PyProof.Rows
open Builtin Builtin.Str
theorem strs_of_values : ∀ {l : List (Str × Tok)} {ys : List Str}, l.map (·.1) = ys → Vals (ys.map V.str) (strValues l)
  | [], _, h => by subst h; exact .nil
  | p :: l, _, h => by subst h; exact .cons ⟨p.2, rfl⟩ (strs_of_values rfl)
def rSplit : V → List V → Hp → VK → Prop := fun x vs H Q => ∃ z y : Str, x = .str z ∧ vs = [.str y] ∧ (y.length == 0) = false ∧ z.length ≤ 1000 ∧ ∀ p, H p = none → Q (.ref p) (upd H p (.lst ((Txt.split z y).map V.str)))
theorem mt_split {X : Cx} : MtR X "str.split" rSplit := by
  intro pins s σ H x vs v us Q I rx rv h
  obtain ⟨z, y, rfl, rfl, hy, hz, q⟩ := h
  obtain ⟨t, rfl⟩ := rx
  obtain ⟨u', rfl, ru⟩ := rv.one
  obtain ⟨u, rfl⟩ := ru
  have hl : (Txt.split z y).length ≤ sizeLine := Nat.le_trans (split_le z y) (Nat.le_trans (show z.length + 2 ≤ 1002 by omega) (by decide))
  have hzs : z.length ≤ sizeLine := Nat.le_trans hz (by decide)
  have fin : ∀ (l : List (Str × Tok)) (k : Nat), l.map (·.1) = Txt.split z y → EP X pins σ Q (.ref s.heap.objs.size) { s with heap := s.heap.push { cls := .type "list", data := .seq (strValues l).toArray }, toks := k } := fun l k e =>
    ⟨.ref s.heap.objs.size, _, I.laid (a := s.heap.objs.size) (o := .lst ((Txt.split z y).map V.str)) (t' := k) (fun _ _ q => Heap.get?_push_of_some _ q) (Nat.le_refl _) ⟨by rw [List.length_map]; exact hl, strValues l, _, strs_of_values e, Heap.get?_push_size _ rfl⟩, rfl, q _ (I.hok.fresh (Nat.le_refl _))⟩
  cases h1 : (decide (z.length < y.length) || decide (strKind z < strKind y))
  · cases hf : (occurrences z y 0 z.length (z.length + 1)).isEmpty
    · have hsz2 : (partsBetween z (occurrences z y 0 z.length (z.length + 1)) y.length).length ≤ sizeLine := by
        have e : Txt.split z y = partsBetween z (occurrences z y 0 z.length (z.length + 1)) y.length := (if_neg (ne_true_of_eq_false h1)).trans (if_neg (ne_true_of_eq_false hf))
        rw [← e]; exact hl
      refine call_meets F.slot_str_split (typeIs_str _ _ _) F.entry_str_split (F.args_str_split_2 _ _) (meets_str_split_sep z y t u h1 hy hf hzs hsz2) ?_
      show wants _ _ _ { s with toks := _, heap := s.heap.push { cls := .type "list", data := .seq (strsFrom s.toks (partsBetween z (occurrences z y 0 z.length (z.length + 1)) y.length)).toArray } }
      rw [strsFrom_eq]
      exact fin (numbered s.toks _) _ ((numbered_texts _ _).trans ((if_neg (ne_true_of_eq_false h1)).trans (if_neg (ne_true_of_eq_false hf))).symm)
    · exact call_meets F.slot_str_split (typeIs_str _ _ _) F.entry_str_split (F.args_str_split_2 _ _) (meets_str_split_not_found z y t u h1 hy hf)
        (fin [(z, t)] _ ((if_neg (ne_true_of_eq_false h1)).trans (if_pos hf)).symm)
  · exact call_meets F.slot_str_split (typeIs_str _ _ _) F.entry_str_split (F.args_str_split_2 _ _) (meets_str_split_cannot_occur z y t u h1)
      (fin [(z, t)] _ (if_pos h1).symm)
def rIsUp : V → List V → Hp → VK → Prop := fun x vs H Q => ∃ z : Str, x = .str z ∧ vs = [] ∧ Q (.bl (Txt.isupper z)) H
theorem mt_isupper {X : Cx} : MtR X "str.isupper" rIsUp := by
  intro pins s σ H x vs v us Q I rx rv h
  obtain ⟨z, rfl, rfl, q⟩ := h
  obtain ⟨t, rfl⟩ := rx
  cases rv
  exact SC.isupper ⟨.bl _, H, I, rfl, q⟩
theorem call_intS {X : Cx} : CallR X (.type "int") (fun xs H Q => ∃ (z : Str) (n : Int), xs = [.str z] ∧ intText? z = some n ∧ z.length ≤ 640 ∧ Q (.int n) H) := by
  intro pins s σ H xs us Q I r h
  obtain ⟨z, n, rfl, hn, hl, q⟩ := h
  obtain ⟨u, rfl, t, rfl⟩ := vals1 r
  exact PySem.W.KIN.call_text hn hl ⟨.int n, H, I.tok _, ⟨_, rfl⟩, q⟩
def joinC (c : Nat) : List (List Nat) → List Nat
  | [] => []
  | [p] => p
  | p :: q :: r => p ++ c :: joinC c (q :: r)
theorem join_codes (c : Nat) : ∀ ys : List Str, (Str.join ⟨#[c]⟩ ys).cps.toList = joinC c (ys.map fun y => y.cps.toList)
  | [] => rfl
  | [y] => rfl
  | y :: z :: r => by
    show ((y ++ (⟨#[c]⟩ : Str)) ++ Str.join ⟨#[c]⟩ (z :: r)).cps.toList = _
    rw [str_app, str_app, join_codes c (z :: r)]
    show y.cps.toList ++ [c] ++ _ = y.cps.toList ++ c :: _
    rw [List.append_assoc]
    rfl
end L2
namespace L2
open PySem PySem.Spec PyProof.Rows
def numW : List Str := ["PEOPLE", "EACH", "OVER", "MORE", "WIDTH"]
def figC (c : Nat) : Bool := decide (48 ≤ c) && decide (c ≤ 57)
def isNumF (z : Str) : Bool := decide (1 ≤ (z.length : Int)) && decide ((z.length : Int) ≤ 6) && z.cps.toList.all figC
def numF (z : Str) : Int := ((NumText.digitsVal z.cps.toList : Nat) : Int)
def fitsF (p z : Str) : Bool := if p ∈ numW then isNumF z else Txt.isupper p || decide (p = z)
def readF (p z : Str) : V := if p ∈ numW then .int (numF z) else .str z
def formT : List Str := ["member NAME", "plain NAME MEMBER PEOPLE EACH OVER", "link NAME MEMBER BASE MORE", "top MEMBER WIDTH", "strike member MEMBER", "strike demand DEMAND", "strike top MEMBER", "back", "widths", "chain MEMBER", "why", "slack MEMBER", "cost DEMAND"]
def formsL : List (List Str) := [["member", "NAME"], ["plain", "NAME", "MEMBER", "PEOPLE", "EACH", "OVER"], ["link", "NAME", "MEMBER", "BASE", "MORE"], ["top", "MEMBER", "WIDTH"], ["strike", "member", "MEMBER"], ["strike", "demand", "DEMAND"], ["strike", "top", "MEMBER"], ["back"], ["widths"], ["chain", "MEMBER"], ["why"], ["slack", "MEMBER"], ["cost", "DEMAND"]]
theorem forms_split : formT.map (fun t => Txt.split t " ") = formsL := by decide +kernel
def fitsAll (ps ws : List Str) : Bool := decide (ps.length = ws.length) && (ps.zip ws).all fun x => fitsF x.1 x.2
def rowW (ws : List Str) : Option (List V) := (formsL.find? fun ps => fitsAll ps ws).map fun ps => (ps.zip ws).map fun x => readF x.1 x.2
def rowF (row : Str) : Option (List V) := rowW (Txt.split row " ")
theorem num_read {z : Str} (h : isNumF z = true) : intText? z = some (numF z) ∧ z.length ≤ 6 := by
  unfold isNumF at h
  rw [Bool.and_eq_true, Bool.and_eq_true] at h
  obtain ⟨⟨h1, h2⟩, h3⟩ := h
  have h1 := of_decide_eq_true h1
  have h2 := of_decide_eq_true h2
  refine ⟨PySem.intText_digits (fun c hc => ?_) (fun e => ?_) (by omega), by omega⟩
  · have := List.all_eq_true.mp h3 c hc
    unfold figC at this
    rw [Bool.and_eq_true] at this
    exact ⟨of_decide_eq_true this.1, of_decide_eq_true this.2⟩
  · have : z.length = 0 := by rw [show z.length = z.cps.toList.length by simp [Str.length], e]; rfl
    omega
end L2
set_option Elab.async false
set_option linter.all false
set_option maxRecDepth 100000
set_option maxHeartbeats 4000000
namespace L2
open PySem PySem.Spec PyProof.Rows
theorem fit_num {p z : Str} (h : p ∈ numW) : fitsF p z = isNumF z := if_pos h
theorem fit_up {p z : Str} (h : p ∉ numW) (u : Txt.isupper p = true) : fitsF p z = true := by unfold fitsF; rw [if_neg h, u]; rfl
theorem fit_low {p z : Str} (h : p ∉ numW) (u : Txt.isupper p = false) : fitsF p z = decide (p = z) := by unfold fitsF; rw [if_neg h, u]; rfl
theorem fl_member (z : Str) : fitsF "member" z = decide (("member" : Str) = z) := fit_low (by decide +kernel) (by decide +kernel)
theorem fl_plain (z : Str) : fitsF "plain" z = decide (("plain" : Str) = z) := fit_low (by decide +kernel) (by decide +kernel)
theorem fl_link (z : Str) : fitsF "link" z = decide (("link" : Str) = z) := fit_low (by decide +kernel) (by decide +kernel)
theorem fl_top (z : Str) : fitsF "top" z = decide (("top" : Str) = z) := fit_low (by decide +kernel) (by decide +kernel)
theorem fl_strike (z : Str) : fitsF "strike" z = decide (("strike" : Str) = z) := fit_low (by decide +kernel) (by decide +kernel)
theorem fl_demand (z : Str) : fitsF "demand" z = decide (("demand" : Str) = z) := fit_low (by decide +kernel) (by decide +kernel)
theorem fl_back (z : Str) : fitsF "back" z = decide (("back" : Str) = z) := fit_low (by decide +kernel) (by decide +kernel)
theorem fl_widths (z : Str) : fitsF "widths" z = decide (("widths" : Str) = z) := fit_low (by decide +kernel) (by decide +kernel)
theorem fl_chain (z : Str) : fitsF "chain" z = decide (("chain" : Str) = z) := fit_low (by decide +kernel) (by decide +kernel)
theorem fl_why (z : Str) : fitsF "why" z = decide (("why" : Str) = z) := fit_low (by decide +kernel) (by decide +kernel)
theorem fl_slack (z : Str) : fitsF "slack" z = decide (("slack" : Str) = z) := fit_low (by decide +kernel) (by decide +kernel)
theorem fl_cost (z : Str) : fitsF "cost" z = decide (("cost" : Str) = z) := fit_low (by decide +kernel) (by decide +kernel)
theorem fl_NAME (z : Str) : fitsF "NAME" z = true := fit_up (by decide +kernel) (by decide +kernel)
theorem fl_MEMBER (z : Str) : fitsF "MEMBER" z = true := fit_up (by decide +kernel) (by decide +kernel)
theorem fl_BASE (z : Str) : fitsF "BASE" z = true := fit_up (by decide +kernel) (by decide +kernel)
theorem fl_DEMAND (z : Str) : fitsF "DEMAND" z = true := fit_up (by decide +kernel) (by decide +kernel)
theorem fl_PEOPLE (z : Str) : fitsF "PEOPLE" z = isNumF z := fit_num (by decide +kernel)
theorem fl_EACH (z : Str) : fitsF "EACH" z = isNumF z := fit_num (by decide +kernel)
theorem fl_OVER (z : Str) : fitsF "OVER" z = isNumF z := fit_num (by decide +kernel)
theorem fl_MORE (z : Str) : fitsF "MORE" z = isNumF z := fit_num (by decide +kernel)
theorem fl_WIDTH (z : Str) : fitsF "WIDTH" z = isNumF z := fit_num (by decide +kernel)
theorem joinC_len (c : Nat) : ∀ ps : List (List Nat), (joinC c ps).length ≤ (ps.map List.length).sum + ps.length
  | [] => Nat.le_refl _
  | [p] => by simp [joinC]
  | p :: q :: r => by
    have := joinC_len c (q :: r)
    show (p ++ c :: joinC c (q :: r)).length ≤ _
    rw [List.length_append, List.length_cons, List.map_cons, List.sum_cons, List.length_cons]
    omega
theorem join_len (ws : List Str) : (Txt.join " " ws).length ≤ (ws.map (·.length)).sum + ws.length := by
  have e : (" " : Str) = ⟨#[32]⟩ := by decide +kernel
  rw [e]
  have j1 : Txt.join (⟨#[32]⟩ : Str) ws = Str.join ⟨#[32]⟩ ws := StrLaws.glued_eq_join _ _
  rw [j1, show (Str.join ⟨#[32]⟩ ws).length = (Str.join ⟨#[32]⟩ ws).cps.toList.length by simp [Str.length], join_codes]
  have := joinC_len 32 (ws.map fun y => y.cps.toList)
  rw [List.length_map, List.map_map] at this
  have e2 : (List.length ∘ fun y : Str => y.cps.toList) = fun y : Str => y.length := by funext y; simp [Str.length]
  rw [e2] at this
  exact this
end L2
set_option Elab.async false
set_option linter.all false
set_option maxRecDepth 100000
set_option maxHeartbeats 40000000
namespace L2
open PySem PySem.Spec PyProof.Rows
def formsK : List (Str × Str) := [("member", "w"), ("plain", "wwnnn"), ("link", "wwwn"), ("top", "wn"), ("strike", "sw"), ("back", ""), ("widths", ""), ("chain", "w"), ("why", ""), ("slack", "w"), ("cost", "w")]
theorem cps_w : (Str.ofString "w").cps.toList = [119] := by decide +kernel
theorem cps_wwnnn : (Str.ofString "wwnnn").cps.toList = [119, 119, 110, 110, 110] := by decide +kernel
theorem cps_wwwn : (Str.ofString "wwwn").cps.toList = [119, 119, 119, 110] := by decide +kernel
theorem cps_wn : (Str.ofString "wn").cps.toList = [119, 110] := by decide +kernel
theorem cps_sw : (Str.ofString "sw").cps.toList = [115, 119] := by decide +kernel
theorem cps_none : (Str.ofString "").cps.toList = [] := by decide +kernel
def three : List Str := ["member", "demand", "top"]
def chk (c : Nat) (z : Str) : Bool := (decide (c ≠ 115) || decide (z ∈ three)) && (decide (c ≠ 110) || isNumF z)
def lawFits (w0 : Str) (r : List Str) : Bool := match formsK.find? fun f => decide (f.1 = w0) with
  | none => false
  | some f => decide (r.length = f.2.cps.toList.length) && (f.2.cps.toList.zip r).all fun x => chk x.1 x.2
theorem chk_w (z : Str) : chk 119 z = true := rfl
theorem chk_n (z : Str) : chk 110 z = isNumF z := by unfold chk; simp
theorem chk_s (z : Str) : chk 115 z = (decide (("member" : Str) = z) || (decide (("demand" : Str) = z) || decide (("top" : Str) = z))) := by
  have e : chk 115 z = decide (z ∈ three) := by unfold chk; simp
  rw [e, Bool.eq_iff_iff]
  simp only [three, decide_eq_true_eq, Bool.or_eq_true, List.mem_cons, List.not_mem_nil, or_false]
  exact ⟨fun h => h.imp Eq.symm fun h => h.imp Eq.symm Eq.symm, fun h => h.imp Eq.symm fun h => h.imp Eq.symm Eq.symm⟩
theorem rowW_some (ws : List Str) : (rowW ws).isSome = formsL.any fun ps => fitsAll ps ws := by
  unfold rowW
  rw [Option.isSome_map, Bool.eq_iff_iff, List.find?_isSome, List.any_eq_true]
theorem d2_member_member : (("member" : Str) = "member") = True := by exact eq_true rfl
theorem d2_member_plain : (("member" : Str) = "plain") = False := by exact eq_false (by decide +kernel)
theorem d2_member_link : (("member" : Str) = "link") = False := by exact eq_false (by decide +kernel)
theorem d2_member_top : (("member" : Str) = "top") = False := by exact eq_false (by decide +kernel)
theorem d2_member_strike : (("member" : Str) = "strike") = False := by exact eq_false (by decide +kernel)
theorem d2_member_back : (("member" : Str) = "back") = False := by exact eq_false (by decide +kernel)
theorem d2_member_widths : (("member" : Str) = "widths") = False := by exact eq_false (by decide +kernel)
theorem d2_member_chain : (("member" : Str) = "chain") = False := by exact eq_false (by decide +kernel)
theorem d2_member_why : (("member" : Str) = "why") = False := by exact eq_false (by decide +kernel)
theorem d2_member_slack : (("member" : Str) = "slack") = False := by exact eq_false (by decide +kernel)
theorem d2_member_cost : (("member" : Str) = "cost") = False := by exact eq_false (by decide +kernel)
theorem d2_plain_member : (("plain" : Str) = "member") = False := by exact eq_false (by decide +kernel)
theorem d2_plain_plain : (("plain" : Str) = "plain") = True := by exact eq_true rfl
theorem d2_plain_link : (("plain" : Str) = "link") = False := by exact eq_false (by decide +kernel)
theorem d2_plain_top : (("plain" : Str) = "top") = False := by exact eq_false (by decide +kernel)
theorem d2_plain_strike : (("plain" : Str) = "strike") = False := by exact eq_false (by decide +kernel)
theorem d2_plain_back : (("plain" : Str) = "back") = False := by exact eq_false (by decide +kernel)
theorem d2_plain_widths : (("plain" : Str) = "widths") = False := by exact eq_false (by decide +kernel)
theorem d2_plain_chain : (("plain" : Str) = "chain") = False := by exact eq_false (by decide +kernel)
theorem d2_plain_why : (("plain" : Str) = "why") = False := by exact eq_false (by decide +kernel)
theorem d2_plain_slack : (("plain" : Str) = "slack") = False := by exact eq_false (by decide +kernel)
theorem d2_plain_cost : (("plain" : Str) = "cost") = False := by exact eq_false (by decide +kernel)
theorem d2_link_member : (("link" : Str) = "member") = False := by exact eq_false (by decide +kernel)
theorem d2_link_plain : (("link" : Str) = "plain") = False := by exact eq_false (by decide +kernel)
theorem d2_link_link : (("link" : Str) = "link") = True := by exact eq_true rfl
theorem d2_link_top : (("link" : Str) = "top") = False := by exact eq_false (by decide +kernel)
theorem d2_link_strike : (("link" : Str) = "strike") = False := by exact eq_false (by decide +kernel)
theorem d2_link_back : (("link" : Str) = "back") = False := by exact eq_false (by decide +kernel)
theorem d2_link_widths : (("link" : Str) = "widths") = False := by exact eq_false (by decide +kernel)
theorem d2_link_chain : (("link" : Str) = "chain") = False := by exact eq_false (by decide +kernel)
theorem d2_link_why : (("link" : Str) = "why") = False := by exact eq_false (by decide +kernel)
theorem d2_link_slack : (("link" : Str) = "slack") = False := by exact eq_false (by decide +kernel)
theorem d2_link_cost : (("link" : Str) = "cost") = False := by exact eq_false (by decide +kernel)
theorem d2_top_member : (("top" : Str) = "member") = False := by exact eq_false (by decide +kernel)
theorem d2_top_plain : (("top" : Str) = "plain") = False := by exact eq_false (by decide +kernel)
theorem d2_top_link : (("top" : Str) = "link") = False := by exact eq_false (by decide +kernel)
theorem d2_top_top : (("top" : Str) = "top") = True := by exact eq_true rfl
theorem d2_top_strike : (("top" : Str) = "strike") = False := by exact eq_false (by decide +kernel)
theorem d2_top_back : (("top" : Str) = "back") = False := by exact eq_false (by decide +kernel)
theorem d2_top_widths : (("top" : Str) = "widths") = False := by exact eq_false (by decide +kernel)
theorem d2_top_chain : (("top" : Str) = "chain") = False := by exact eq_false (by decide +kernel)
theorem d2_top_why : (("top" : Str) = "why") = False := by exact eq_false (by decide +kernel)
theorem d2_top_slack : (("top" : Str) = "slack") = False := by exact eq_false (by decide +kernel)
theorem d2_top_cost : (("top" : Str) = "cost") = False := by exact eq_false (by decide +kernel)
theorem d2_strike_member : (("strike" : Str) = "member") = False := by exact eq_false (by decide +kernel)
theorem d2_strike_plain : (("strike" : Str) = "plain") = False := by exact eq_false (by decide +kernel)
theorem d2_strike_link : (("strike" : Str) = "link") = False := by exact eq_false (by decide +kernel)
theorem d2_strike_top : (("strike" : Str) = "top") = False := by exact eq_false (by decide +kernel)
theorem d2_strike_strike : (("strike" : Str) = "strike") = True := by exact eq_true rfl
theorem d2_strike_back : (("strike" : Str) = "back") = False := by exact eq_false (by decide +kernel)
theorem d2_strike_widths : (("strike" : Str) = "widths") = False := by exact eq_false (by decide +kernel)
theorem d2_strike_chain : (("strike" : Str) = "chain") = False := by exact eq_false (by decide +kernel)
theorem d2_strike_why : (("strike" : Str) = "why") = False := by exact eq_false (by decide +kernel)
theorem d2_strike_slack : (("strike" : Str) = "slack") = False := by exact eq_false (by decide +kernel)
theorem d2_strike_cost : (("strike" : Str) = "cost") = False := by exact eq_false (by decide +kernel)
theorem d2_back_member : (("back" : Str) = "member") = False := by exact eq_false (by decide +kernel)
theorem d2_back_plain : (("back" : Str) = "plain") = False := by exact eq_false (by decide +kernel)
theorem d2_back_link : (("back" : Str) = "link") = False := by exact eq_false (by decide +kernel)
theorem d2_back_top : (("back" : Str) = "top") = False := by exact eq_false (by decide +kernel)
theorem d2_back_strike : (("back" : Str) = "strike") = False := by exact eq_false (by decide +kernel)
theorem d2_back_back : (("back" : Str) = "back") = True := by exact eq_true rfl
theorem d2_back_widths : (("back" : Str) = "widths") = False := by exact eq_false (by decide +kernel)
theorem d2_back_chain : (("back" : Str) = "chain") = False := by exact eq_false (by decide +kernel)
theorem d2_back_why : (("back" : Str) = "why") = False := by exact eq_false (by decide +kernel)
theorem d2_back_slack : (("back" : Str) = "slack") = False := by exact eq_false (by decide +kernel)
theorem d2_back_cost : (("back" : Str) = "cost") = False := by exact eq_false (by decide +kernel)
theorem d2_widths_member : (("widths" : Str) = "member") = False := by exact eq_false (by decide +kernel)
theorem d2_widths_plain : (("widths" : Str) = "plain") = False := by exact eq_false (by decide +kernel)
theorem d2_widths_link : (("widths" : Str) = "link") = False := by exact eq_false (by decide +kernel)
theorem d2_widths_top : (("widths" : Str) = "top") = False := by exact eq_false (by decide +kernel)
theorem d2_widths_strike : (("widths" : Str) = "strike") = False := by exact eq_false (by decide +kernel)
theorem d2_widths_back : (("widths" : Str) = "back") = False := by exact eq_false (by decide +kernel)
theorem d2_widths_widths : (("widths" : Str) = "widths") = True := by exact eq_true rfl
theorem d2_widths_chain : (("widths" : Str) = "chain") = False := by exact eq_false (by decide +kernel)
theorem d2_widths_why : (("widths" : Str) = "why") = False := by exact eq_false (by decide +kernel)
theorem d2_widths_slack : (("widths" : Str) = "slack") = False := by exact eq_false (by decide +kernel)
theorem d2_widths_cost : (("widths" : Str) = "cost") = False := by exact eq_false (by decide +kernel)
theorem d2_chain_member : (("chain" : Str) = "member") = False := by exact eq_false (by decide +kernel)
theorem d2_chain_plain : (("chain" : Str) = "plain") = False := by exact eq_false (by decide +kernel)
theorem d2_chain_link : (("chain" : Str) = "link") = False := by exact eq_false (by decide +kernel)
theorem d2_chain_top : (("chain" : Str) = "top") = False := by exact eq_false (by decide +kernel)
theorem d2_chain_strike : (("chain" : Str) = "strike") = False := by exact eq_false (by decide +kernel)
theorem d2_chain_back : (("chain" : Str) = "back") = False := by exact eq_false (by decide +kernel)
theorem d2_chain_widths : (("chain" : Str) = "widths") = False := by exact eq_false (by decide +kernel)
theorem d2_chain_chain : (("chain" : Str) = "chain") = True := by exact eq_true rfl
theorem d2_chain_why : (("chain" : Str) = "why") = False := by exact eq_false (by decide +kernel)
theorem d2_chain_slack : (("chain" : Str) = "slack") = False := by exact eq_false (by decide +kernel)
theorem d2_chain_cost : (("chain" : Str) = "cost") = False := by exact eq_false (by decide +kernel)
theorem d2_why_member : (("why" : Str) = "member") = False := by exact eq_false (by decide +kernel)
theorem d2_why_plain : (("why" : Str) = "plain") = False := by exact eq_false (by decide +kernel)
theorem d2_why_link : (("why" : Str) = "link") = False := by exact eq_false (by decide +kernel)
theorem d2_why_top : (("why" : Str) = "top") = False := by exact eq_false (by decide +kernel)
theorem d2_why_strike : (("why" : Str) = "strike") = False := by exact eq_false (by decide +kernel)
theorem d2_why_back : (("why" : Str) = "back") = False := by exact eq_false (by decide +kernel)
theorem d2_why_widths : (("why" : Str) = "widths") = False := by exact eq_false (by decide +kernel)
theorem d2_why_chain : (("why" : Str) = "chain") = False := by exact eq_false (by decide +kernel)
theorem d2_why_why : (("why" : Str) = "why") = True := by exact eq_true rfl
theorem d2_why_slack : (("why" : Str) = "slack") = False := by exact eq_false (by decide +kernel)
theorem d2_why_cost : (("why" : Str) = "cost") = False := by exact eq_false (by decide +kernel)
theorem d2_slack_member : (("slack" : Str) = "member") = False := by exact eq_false (by decide +kernel)
theorem d2_slack_plain : (("slack" : Str) = "plain") = False := by exact eq_false (by decide +kernel)
theorem d2_slack_link : (("slack" : Str) = "link") = False := by exact eq_false (by decide +kernel)
theorem d2_slack_top : (("slack" : Str) = "top") = False := by exact eq_false (by decide +kernel)
theorem d2_slack_strike : (("slack" : Str) = "strike") = False := by exact eq_false (by decide +kernel)
theorem d2_slack_back : (("slack" : Str) = "back") = False := by exact eq_false (by decide +kernel)
theorem d2_slack_widths : (("slack" : Str) = "widths") = False := by exact eq_false (by decide +kernel)
theorem d2_slack_chain : (("slack" : Str) = "chain") = False := by exact eq_false (by decide +kernel)
theorem d2_slack_why : (("slack" : Str) = "why") = False := by exact eq_false (by decide +kernel)
theorem d2_slack_slack : (("slack" : Str) = "slack") = True := by exact eq_true rfl
theorem d2_slack_cost : (("slack" : Str) = "cost") = False := by exact eq_false (by decide +kernel)
theorem d2_cost_member : (("cost" : Str) = "member") = False := by exact eq_false (by decide +kernel)
theorem d2_cost_plain : (("cost" : Str) = "plain") = False := by exact eq_false (by decide +kernel)
theorem d2_cost_link : (("cost" : Str) = "link") = False := by exact eq_false (by decide +kernel)
theorem d2_cost_top : (("cost" : Str) = "top") = False := by exact eq_false (by decide +kernel)
theorem d2_cost_strike : (("cost" : Str) = "strike") = False := by exact eq_false (by decide +kernel)
theorem d2_cost_back : (("cost" : Str) = "back") = False := by exact eq_false (by decide +kernel)
theorem d2_cost_widths : (("cost" : Str) = "widths") = False := by exact eq_false (by decide +kernel)
theorem d2_cost_chain : (("cost" : Str) = "chain") = False := by exact eq_false (by decide +kernel)
theorem d2_cost_why : (("cost" : Str) = "why") = False := by exact eq_false (by decide +kernel)
theorem d2_cost_slack : (("cost" : Str) = "slack") = False := by exact eq_false (by decide +kernel)
theorem d2_cost_cost : (("cost" : Str) = "cost") = True := by exact eq_true rfl
theorem fits_member (r : List Str) : lawFits "member" r = formsL.any fun ps => fitsAll ps ("member" :: r) := by
  unfold lawFits formsK formsL
  simp only [List.find?_cons, List.any_cons, List.any_nil, fitsAll, List.zip_cons_cons, List.all_cons, List.length_cons, fl_member, fl_plain, fl_link, fl_top, fl_strike, fl_demand, fl_back, fl_widths, fl_chain, fl_why, fl_slack, fl_cost, fl_NAME, fl_MEMBER, fl_BASE, fl_DEMAND, fl_PEOPLE, fl_EACH, fl_OVER, fl_MORE, fl_WIDTH, d2_member_member, d2_plain_member, d2_link_member, d2_top_member, d2_strike_member, d2_back_member, d2_widths_member, d2_chain_member, d2_why_member, d2_slack_member, d2_cost_member, decide_true, decide_false, cps_w, Bool.false_and, Bool.and_false, Bool.true_and]
  rcases r with _ | ⟨a, _ | ⟨b, _ | ⟨c, _ | ⟨d, _ | ⟨e, _ | ⟨f, r⟩⟩⟩⟩⟩⟩ <;> simp [chk_w, chk_n, chk_s, fl_member, fl_plain, fl_link, fl_top, fl_strike, fl_demand, fl_back, fl_widths, fl_chain, fl_why, fl_slack, fl_cost, fl_NAME, fl_MEMBER, fl_BASE, fl_DEMAND, fl_PEOPLE, fl_EACH, fl_OVER, fl_MORE, fl_WIDTH, Bool.and_assoc]
theorem fits_plain (r : List Str) : lawFits "plain" r = formsL.any fun ps => fitsAll ps ("plain" :: r) := by
  unfold lawFits formsK formsL
  simp only [List.find?_cons, List.any_cons, List.any_nil, fitsAll, List.zip_cons_cons, List.all_cons, List.length_cons, fl_member, fl_plain, fl_link, fl_top, fl_strike, fl_demand, fl_back, fl_widths, fl_chain, fl_why, fl_slack, fl_cost, fl_NAME, fl_MEMBER, fl_BASE, fl_DEMAND, fl_PEOPLE, fl_EACH, fl_OVER, fl_MORE, fl_WIDTH, d2_member_plain, d2_plain_plain, d2_link_plain, d2_top_plain, d2_strike_plain, d2_back_plain, d2_widths_plain, d2_chain_plain, d2_why_plain, d2_slack_plain, d2_cost_plain, decide_true, decide_false, cps_wwnnn, Bool.false_and, Bool.and_false, Bool.true_and]
  rcases r with _ | ⟨a, _ | ⟨b, _ | ⟨c, _ | ⟨d, _ | ⟨e, _ | ⟨f, r⟩⟩⟩⟩⟩⟩ <;> simp [chk_w, chk_n, chk_s, fl_member, fl_plain, fl_link, fl_top, fl_strike, fl_demand, fl_back, fl_widths, fl_chain, fl_why, fl_slack, fl_cost, fl_NAME, fl_MEMBER, fl_BASE, fl_DEMAND, fl_PEOPLE, fl_EACH, fl_OVER, fl_MORE, fl_WIDTH, Bool.and_assoc]
theorem fits_link (r : List Str) : lawFits "link" r = formsL.any fun ps => fitsAll ps ("link" :: r) := by
  unfold lawFits formsK formsL
  simp only [List.find?_cons, List.any_cons, List.any_nil, fitsAll, List.zip_cons_cons, List.all_cons, List.length_cons, fl_member, fl_plain, fl_link, fl_top, fl_strike, fl_demand, fl_back, fl_widths, fl_chain, fl_why, fl_slack, fl_cost, fl_NAME, fl_MEMBER, fl_BASE, fl_DEMAND, fl_PEOPLE, fl_EACH, fl_OVER, fl_MORE, fl_WIDTH, d2_member_link, d2_plain_link, d2_link_link, d2_top_link, d2_strike_link, d2_back_link, d2_widths_link, d2_chain_link, d2_why_link, d2_slack_link, d2_cost_link, decide_true, decide_false, cps_wwwn, Bool.false_and, Bool.and_false, Bool.true_and]
  rcases r with _ | ⟨a, _ | ⟨b, _ | ⟨c, _ | ⟨d, _ | ⟨e, _ | ⟨f, r⟩⟩⟩⟩⟩⟩ <;> simp [chk_w, chk_n, chk_s, fl_member, fl_plain, fl_link, fl_top, fl_strike, fl_demand, fl_back, fl_widths, fl_chain, fl_why, fl_slack, fl_cost, fl_NAME, fl_MEMBER, fl_BASE, fl_DEMAND, fl_PEOPLE, fl_EACH, fl_OVER, fl_MORE, fl_WIDTH, Bool.and_assoc]
theorem fits_top (r : List Str) : lawFits "top" r = formsL.any fun ps => fitsAll ps ("top" :: r) := by
  unfold lawFits formsK formsL
  simp only [List.find?_cons, List.any_cons, List.any_nil, fitsAll, List.zip_cons_cons, List.all_cons, List.length_cons, fl_member, fl_plain, fl_link, fl_top, fl_strike, fl_demand, fl_back, fl_widths, fl_chain, fl_why, fl_slack, fl_cost, fl_NAME, fl_MEMBER, fl_BASE, fl_DEMAND, fl_PEOPLE, fl_EACH, fl_OVER, fl_MORE, fl_WIDTH, d2_member_top, d2_plain_top, d2_link_top, d2_top_top, d2_strike_top, d2_back_top, d2_widths_top, d2_chain_top, d2_why_top, d2_slack_top, d2_cost_top, decide_true, decide_false, cps_wn, Bool.false_and, Bool.and_false, Bool.true_and]
  rcases r with _ | ⟨a, _ | ⟨b, _ | ⟨c, _ | ⟨d, _ | ⟨e, _ | ⟨f, r⟩⟩⟩⟩⟩⟩ <;> simp [chk_w, chk_n, chk_s, fl_member, fl_plain, fl_link, fl_top, fl_strike, fl_demand, fl_back, fl_widths, fl_chain, fl_why, fl_slack, fl_cost, fl_NAME, fl_MEMBER, fl_BASE, fl_DEMAND, fl_PEOPLE, fl_EACH, fl_OVER, fl_MORE, fl_WIDTH, Bool.and_assoc]
theorem fits_strike (r : List Str) : lawFits "strike" r = formsL.any fun ps => fitsAll ps ("strike" :: r) := by
  unfold lawFits formsK formsL
  simp only [List.find?_cons, List.any_cons, List.any_nil, fitsAll, List.zip_cons_cons, List.all_cons, List.length_cons, fl_member, fl_plain, fl_link, fl_top, fl_strike, fl_demand, fl_back, fl_widths, fl_chain, fl_why, fl_slack, fl_cost, fl_NAME, fl_MEMBER, fl_BASE, fl_DEMAND, fl_PEOPLE, fl_EACH, fl_OVER, fl_MORE, fl_WIDTH, d2_member_strike, d2_plain_strike, d2_link_strike, d2_top_strike, d2_strike_strike, d2_back_strike, d2_widths_strike, d2_chain_strike, d2_why_strike, d2_slack_strike, d2_cost_strike, decide_true, decide_false, cps_sw, Bool.false_and, Bool.and_false, Bool.true_and]
  rcases r with _ | ⟨a, _ | ⟨b, _ | ⟨c, _ | ⟨d, _ | ⟨e, _ | ⟨f, r⟩⟩⟩⟩⟩⟩ <;> simp [chk_w, chk_n, chk_s, fl_member, fl_plain, fl_link, fl_top, fl_strike, fl_demand, fl_back, fl_widths, fl_chain, fl_why, fl_slack, fl_cost, fl_NAME, fl_MEMBER, fl_BASE, fl_DEMAND, fl_PEOPLE, fl_EACH, fl_OVER, fl_MORE, fl_WIDTH, Bool.and_assoc]
theorem fits_back (r : List Str) : lawFits "back" r = formsL.any fun ps => fitsAll ps ("back" :: r) := by
  unfold lawFits formsK formsL
  simp only [List.find?_cons, List.any_cons, List.any_nil, fitsAll, List.zip_cons_cons, List.all_cons, List.length_cons, fl_member, fl_plain, fl_link, fl_top, fl_strike, fl_demand, fl_back, fl_widths, fl_chain, fl_why, fl_slack, fl_cost, fl_NAME, fl_MEMBER, fl_BASE, fl_DEMAND, fl_PEOPLE, fl_EACH, fl_OVER, fl_MORE, fl_WIDTH, d2_member_back, d2_plain_back, d2_link_back, d2_top_back, d2_strike_back, d2_back_back, d2_widths_back, d2_chain_back, d2_why_back, d2_slack_back, d2_cost_back, decide_true, decide_false, cps_none, Bool.false_and, Bool.and_false, Bool.true_and]
  rcases r with _ | ⟨a, _ | ⟨b, _ | ⟨c, _ | ⟨d, _ | ⟨e, _ | ⟨f, r⟩⟩⟩⟩⟩⟩ <;> simp [chk_w, chk_n, chk_s, fl_member, fl_plain, fl_link, fl_top, fl_strike, fl_demand, fl_back, fl_widths, fl_chain, fl_why, fl_slack, fl_cost, fl_NAME, fl_MEMBER, fl_BASE, fl_DEMAND, fl_PEOPLE, fl_EACH, fl_OVER, fl_MORE, fl_WIDTH, Bool.and_assoc]
theorem fits_widths (r : List Str) : lawFits "widths" r = formsL.any fun ps => fitsAll ps ("widths" :: r) := by
  unfold lawFits formsK formsL
  simp only [List.find?_cons, List.any_cons, List.any_nil, fitsAll, List.zip_cons_cons, List.all_cons, List.length_cons, fl_member, fl_plain, fl_link, fl_top, fl_strike, fl_demand, fl_back, fl_widths, fl_chain, fl_why, fl_slack, fl_cost, fl_NAME, fl_MEMBER, fl_BASE, fl_DEMAND, fl_PEOPLE, fl_EACH, fl_OVER, fl_MORE, fl_WIDTH, d2_member_widths, d2_plain_widths, d2_link_widths, d2_top_widths, d2_strike_widths, d2_back_widths, d2_widths_widths, d2_chain_widths, d2_why_widths, d2_slack_widths, d2_cost_widths, decide_true, decide_false, cps_none, Bool.false_and, Bool.and_false, Bool.true_and]
  rcases r with _ | ⟨a, _ | ⟨b, _ | ⟨c, _ | ⟨d, _ | ⟨e, _ | ⟨f, r⟩⟩⟩⟩⟩⟩ <;> simp [chk_w, chk_n, chk_s, fl_member, fl_plain, fl_link, fl_top, fl_strike, fl_demand, fl_back, fl_widths, fl_chain, fl_why, fl_slack, fl_cost, fl_NAME, fl_MEMBER, fl_BASE, fl_DEMAND, fl_PEOPLE, fl_EACH, fl_OVER, fl_MORE, fl_WIDTH, Bool.and_assoc]
theorem fits_chain (r : List Str) : lawFits "chain" r = formsL.any fun ps => fitsAll ps ("chain" :: r) := by
  unfold lawFits formsK formsL
  simp only [List.find?_cons, List.any_cons, List.any_nil, fitsAll, List.zip_cons_cons, List.all_cons, List.length_cons, fl_member, fl_plain, fl_link, fl_top, fl_strike, fl_demand, fl_back, fl_widths, fl_chain, fl_why, fl_slack, fl_cost, fl_NAME, fl_MEMBER, fl_BASE, fl_DEMAND, fl_PEOPLE, fl_EACH, fl_OVER, fl_MORE, fl_WIDTH, d2_member_chain, d2_plain_chain, d2_link_chain, d2_top_chain, d2_strike_chain, d2_back_chain, d2_widths_chain, d2_chain_chain, d2_why_chain, d2_slack_chain, d2_cost_chain, decide_true, decide_false, cps_w, Bool.false_and, Bool.and_false, Bool.true_and]
  rcases r with _ | ⟨a, _ | ⟨b, _ | ⟨c, _ | ⟨d, _ | ⟨e, _ | ⟨f, r⟩⟩⟩⟩⟩⟩ <;> simp [chk_w, chk_n, chk_s, fl_member, fl_plain, fl_link, fl_top, fl_strike, fl_demand, fl_back, fl_widths, fl_chain, fl_why, fl_slack, fl_cost, fl_NAME, fl_MEMBER, fl_BASE, fl_DEMAND, fl_PEOPLE, fl_EACH, fl_OVER, fl_MORE, fl_WIDTH, Bool.and_assoc]
theorem fits_why (r : List Str) : lawFits "why" r = formsL.any fun ps => fitsAll ps ("why" :: r) := by
  unfold lawFits formsK formsL
  simp only [List.find?_cons, List.any_cons, List.any_nil, fitsAll, List.zip_cons_cons, List.all_cons, List.length_cons, fl_member, fl_plain, fl_link, fl_top, fl_strike, fl_demand, fl_back, fl_widths, fl_chain, fl_why, fl_slack, fl_cost, fl_NAME, fl_MEMBER, fl_BASE, fl_DEMAND, fl_PEOPLE, fl_EACH, fl_OVER, fl_MORE, fl_WIDTH, d2_member_why, d2_plain_why, d2_link_why, d2_top_why, d2_strike_why, d2_back_why, d2_widths_why, d2_chain_why, d2_why_why, d2_slack_why, d2_cost_why, decide_true, decide_false, cps_none, Bool.false_and, Bool.and_false, Bool.true_and]
  rcases r with _ | ⟨a, _ | ⟨b, _ | ⟨c, _ | ⟨d, _ | ⟨e, _ | ⟨f, r⟩⟩⟩⟩⟩⟩ <;> simp [chk_w, chk_n, chk_s, fl_member, fl_plain, fl_link, fl_top, fl_strike, fl_demand, fl_back, fl_widths, fl_chain, fl_why, fl_slack, fl_cost, fl_NAME, fl_MEMBER, fl_BASE, fl_DEMAND, fl_PEOPLE, fl_EACH, fl_OVER, fl_MORE, fl_WIDTH, Bool.and_assoc]
theorem fits_slack (r : List Str) : lawFits "slack" r = formsL.any fun ps => fitsAll ps ("slack" :: r) := by
  unfold lawFits formsK formsL
  simp only [List.find?_cons, List.any_cons, List.any_nil, fitsAll, List.zip_cons_cons, List.all_cons, List.length_cons, fl_member, fl_plain, fl_link, fl_top, fl_strike, fl_demand, fl_back, fl_widths, fl_chain, fl_why, fl_slack, fl_cost, fl_NAME, fl_MEMBER, fl_BASE, fl_DEMAND, fl_PEOPLE, fl_EACH, fl_OVER, fl_MORE, fl_WIDTH, d2_member_slack, d2_plain_slack, d2_link_slack, d2_top_slack, d2_strike_slack, d2_back_slack, d2_widths_slack, d2_chain_slack, d2_why_slack, d2_slack_slack, d2_cost_slack, decide_true, decide_false, cps_w, Bool.false_and, Bool.and_false, Bool.true_and]
  rcases r with _ | ⟨a, _ | ⟨b, _ | ⟨c, _ | ⟨d, _ | ⟨e, _ | ⟨f, r⟩⟩⟩⟩⟩⟩ <;> simp [chk_w, chk_n, chk_s, fl_member, fl_plain, fl_link, fl_top, fl_strike, fl_demand, fl_back, fl_widths, fl_chain, fl_why, fl_slack, fl_cost, fl_NAME, fl_MEMBER, fl_BASE, fl_DEMAND, fl_PEOPLE, fl_EACH, fl_OVER, fl_MORE, fl_WIDTH, Bool.and_assoc]
theorem fits_cost (r : List Str) : lawFits "cost" r = formsL.any fun ps => fitsAll ps ("cost" :: r) := by
  unfold lawFits formsK formsL
  simp only [List.find?_cons, List.any_cons, List.any_nil, fitsAll, List.zip_cons_cons, List.all_cons, List.length_cons, fl_member, fl_plain, fl_link, fl_top, fl_strike, fl_demand, fl_back, fl_widths, fl_chain, fl_why, fl_slack, fl_cost, fl_NAME, fl_MEMBER, fl_BASE, fl_DEMAND, fl_PEOPLE, fl_EACH, fl_OVER, fl_MORE, fl_WIDTH, d2_member_cost, d2_plain_cost, d2_link_cost, d2_top_cost, d2_strike_cost, d2_back_cost, d2_widths_cost, d2_chain_cost, d2_why_cost, d2_slack_cost, d2_cost_cost, decide_true, decide_false, cps_w, Bool.false_and, Bool.and_false, Bool.true_and]
  rcases r with _ | ⟨a, _ | ⟨b, _ | ⟨c, _ | ⟨d, _ | ⟨e, _ | ⟨f, r⟩⟩⟩⟩⟩⟩ <;> simp [chk_w, chk_n, chk_s, fl_member, fl_plain, fl_link, fl_top, fl_strike, fl_demand, fl_back, fl_widths, fl_chain, fl_why, fl_slack, fl_cost, fl_NAME, fl_MEMBER, fl_BASE, fl_DEMAND, fl_PEOPLE, fl_EACH, fl_OVER, fl_MORE, fl_WIDTH, Bool.and_assoc]
theorem fits_none {w0 : Str} (r : List Str) (h : ∀ f ∈ formsK, f.1 ≠ w0) : lawFits w0 r = false ∧ (formsL.any fun ps => fitsAll ps (w0 :: r)) = false := by
  unfold formsK at h
  simp only [List.mem_cons, List.not_mem_nil, or_false, forall_eq_or_imp, forall_eq] at h
  obtain ⟨h0, h1, h2, h3, h4, h5, h6, h7, h8, h9, h10⟩ := h
  unfold lawFits formsK formsL
  constructor
  · simp only [List.find?_cons, eq_false h0, eq_false h1, eq_false h2, eq_false h3, eq_false h4, eq_false h5, eq_false h6, eq_false h7, eq_false h8, eq_false h9, eq_false h10, decide_false]
    rfl
  · simp only [List.any_cons, List.any_nil, fitsAll, List.zip_cons_cons, List.all_cons, fl_member, fl_plain, fl_link, fl_top, fl_strike, fl_demand, fl_back, fl_widths, fl_chain, fl_why, fl_slack, fl_cost, fl_NAME, fl_MEMBER, fl_BASE, fl_DEMAND, fl_PEOPLE, fl_EACH, fl_OVER, fl_MORE, fl_WIDTH, eq_false h0, eq_false h1, eq_false h2, eq_false h3, eq_false h4, eq_false h5, eq_false h6, eq_false h7, eq_false h8, eq_false h9, eq_false h10, decide_false, Bool.false_and, Bool.and_false, Bool.or_false]
theorem fits_eq (w0 : Str) (r : List Str) : lawFits w0 r = (rowW (w0 :: r)).isSome := by
  rw [rowW_some]
  by_cases h : ∀ f ∈ formsK, f.1 ≠ w0
  · obtain ⟨h1, h2⟩ := fits_none r h
    rw [h1, h2]
  · have h : ∃ f ∈ formsK, f.1 = w0 := Classical.byContradiction fun z => h fun f hf e => z ⟨f, hf, e⟩
    obtain ⟨f, hf, rfl⟩ := h
    unfold formsK at hf
    simp only [List.mem_cons, List.not_mem_nil, or_false] at hf
    rcases hf with rfl | rfl | rfl | rfl | rfl | rfl | rfl | rfl | rfl | rfl | rfl
    · exact fits_member r
    · exact fits_plain r
    · exact fits_link r
    · exact fits_top r
    · exact fits_strike r
    · exact fits_back r
    · exact fits_widths r
    · exact fits_chain r
    · exact fits_why r
    · exact fits_slack r
    · exact fits_cost r
end L2
set_option Elab.async false
set_option linter.all false
set_option maxRecDepth 100000
namespace K25
open PySem L2
def top (i : Nat) : Stmt := PySem.Challenge.pw_stairgauge_k25_rows_refused.main.body.getD i (.Pass ⟨0, 0, 0, 0⟩)
abbrev s_inside : Stmt := top 2
theorem sc_inside : FnScope ["number", "span"] ["number", "span"] (defScope s_inside) := ⟨rfl, rfl, rfl, by decide +kernel, rfl, by decide +kernel, by decide +kernel⟩
abbrev s_is_number : Stmt := top 17
theorem sc_is_number : FnScope ["word"] ["word"] (defScope s_is_number) := ⟨rfl, rfl, rfl, by decide +kernel, rfl, by decide +kernel, by decide +kernel⟩
abbrev s_fits : Stmt := top 18
theorem sc_fits : FnScope ["part", "word"] ["part", "word"] (defScope s_fits) := ⟨rfl, rfl, rfl, by decide +kernel, rfl, by decide +kernel, by decide +kernel⟩
abbrev s_read_word : Stmt := top 19
theorem sc_read_word : FnScope ["part", "word"] ["part", "word"] (defScope s_read_word) := ⟨rfl, rfl, rfl, by decide +kernel, rfl, by decide +kernel, by decide +kernel⟩
abbrev s_read_row : Stmt := top 20
theorem sc_read_row : FnScope ["row", "words", "form", "parts"] ["row"] (defScope s_read_row) := ⟨rfl, rfl, rfl, by decide +kernel, rfl, by decide +kernel, by decide +kernel⟩
abbrev s_law_words : Stmt := top 22
theorem sc_law_words : FnScope ["_law_script", "_law_many", "_law_words_here", "_law_word", "_law_k", "_law_cell"] ["_law_script", "_law_many"] (defScope s_law_words) := ⟨rfl, rfl, rfl, by decide +kernel, rfl, by decide +kernel, by decide +kernel⟩
abbrev s_law_sorts : Stmt := top 23
theorem sc_law_sorts : FnScope ["_law_e", "_law_sorts_here"] ["_law_e"] (defScope s_law_sorts) := ⟨rfl, rfl, rfl, by decide +kernel, rfl, by decide +kernel, by decide +kernel⟩
abbrev s_law_forms : Stmt := top 24
theorem sc_law_forms : FnScope [] [] (defScope s_law_forms) := ⟨rfl, rfl, rfl, by decide +kernel, rfl, by decide +kernel, by decide +kernel⟩
abbrev s_law_text : Stmt := top 25
theorem sc_law_text : FnScope ["_law_word", "_law_low", "_law_high", "_law_signs", "_law_left", "_law_text_here", "_law_k"] ["_law_word", "_law_low", "_law_high"] (defScope s_law_text) := ⟨rfl, rfl, rfl, by decide +kernel, rfl, by decide +kernel, by decide +kernel⟩
abbrev s_law_figures : Stmt := top 26
theorem sc_law_figures : FnScope ["_law_word", "_law_text_here", "_law_left", "_law_k"] ["_law_word"] (defScope s_law_figures) := ⟨rfl, rfl, rfl, by decide +kernel, rfl, by decide +kernel, by decide +kernel⟩
abbrev s_law_fits : Stmt := top 27
theorem sc_law_fits : FnScope ["_law_parts", "_law_sorts_here", "_law_known", "_law_first", "_law_behind", "_law_k", "_law_part", "_law_sign"] ["_law_parts"] (defScope s_law_fits) := ⟨rfl, rfl, rfl, by decide +kernel, rfl, by decide +kernel, by decide +kernel⟩
abbrev s_law_spoilt : Stmt := top 28
theorem sc_law_spoilt : FnScope ["_law_parts", "_law_word", "_law_odd", "_law_row", "_law_at", "_law_spot"] ["_law_parts", "_law_word"] (defScope s_law_spoilt) := ⟨rfl, rfl, rfl, by decide +kernel, rfl, by decide +kernel, by decide +kernel⟩
abbrev s_law_right : Stmt := top 29
theorem sc_law_right : FnScope ["_law_words_here", "_law_first", "_law_sorts_here", "_law_parts", "_law_k", "_law_row", "_law_found", "_law_sort", "_law_e"] ["_law_words_here"] (defScope s_law_right) := ⟨rfl, rfl, rfl, by decide +kernel, rfl, by decide +kernel, by decide +kernel⟩
abbrev s_law : Stmt := top 30
theorem sc_law : FnScope ["_law_script", "_law_words_here", "_law_k"] ["_law_script"] (defScope s_law) := ⟨rfl, rfl, rfl, by decide +kernel, rfl, by decide +kernel, by decide +kernel⟩
structure Adr where
  (GaugeError Unknown InUse BadName BadNumber TooMuch Full NothingBack NoWidths BadRow : Addr)
structure Txt (K : PySem.W.Frag) (mg : Str → Option Value) (a : Adr) : Prop where
  f_inside : TF K mg "inside" s_inside
  f_is_number : TF K mg "is_number" s_is_number
  f_fits : TF K mg "fits" s_fits
  f_read_word : TF K mg "read_word" s_read_word
  f_read_row : TF K mg "read_row" s_read_row
  f_law_words : TF K mg "_law_words" s_law_words
  f_law_sorts : TF K mg "_law_sorts" s_law_sorts
  f_law_forms : TF K mg "_law_forms" s_law_forms
  f_law_text : TF K mg "_law_text" s_law_text
  f_law_figures : TF K mg "_law_figures" s_law_figures
  f_law_fits : TF K mg "_law_fits" s_law_fits
  f_law_spoilt : TF K mg "_law_spoilt" s_law_spoilt
  f_law_right : TF K mg "_law_right" s_law_right
  f_law : TF K mg "law" s_law
  c_NUMBER_SIGNS : TopT K mg "NUMBER_SIGNS" [.int 1, .int 6]
  c_FORMS : TopT K mg "FORMS" [.str "member NAME", .str "plain NAME MEMBER PEOPLE EACH OVER", .str "link NAME MEMBER BASE MORE", .str "top MEMBER WIDTH", .str "strike member MEMBER", .str "strike demand DEMAND", .str "strike top MEMBER", .str "back", .str "widths", .str "chain MEMBER", .str "why", .str "slack MEMBER", .str "cost DEMAND"]
  c_NUMBERS : TopT K mg "NUMBERS" [.str "PEOPLE", .str "EACH", .str "OVER", .str "MORE", .str "WIDTH"]
  b_ValueError : mg "ValueError" = none
  b_all : mg "all" = none
  b_int : mg "int" = none
  b_isinstance : mg "isinstance" = none
  b_len : mg "len" = none
  b_range : mg "range" = none
  b_tuple : mg "tuple" = none
  b_zip : mg "zip" = none
  x_GaugeError : XC K mg "GaugeError" a.GaugeError
  x_Unknown : XC K mg "Unknown" a.Unknown
  x_InUse : XC K mg "InUse" a.InUse
  x_BadName : XC K mg "BadName" a.BadName
  x_BadNumber : XC K mg "BadNumber" a.BadNumber
  x_TooMuch : XC K mg "TooMuch" a.TooMuch
  x_Full : XC K mg "Full" a.Full
  x_NothingBack : XC K mg "NothingBack" a.NothingBack
  x_NoWidths : XC K mg "NoWidths" a.NoWidths
  x_BadRow : XC K mg "BadRow" a.BadRow
  u_BadRow_GaugeError : subX K (.ref a.BadRow) a.GaugeError = some true
  e_BadRow : EC K a.BadRow
  l_BadRow : ∃ c0 d0 cd sl, K.lookup a.BadRow = some ⟨c0, d0, .cls cd, sl⟩
  i_BadRow_Unknown : PySem.W.kitOne K (.ref a.BadRow) (.ref a.Unknown) = some false
  i_BadRow_InUse : PySem.W.kitOne K (.ref a.BadRow) (.ref a.InUse) = some false
  i_BadRow_BadName : PySem.W.kitOne K (.ref a.BadRow) (.ref a.BadName) = some false
  i_BadRow_BadNumber : PySem.W.kitOne K (.ref a.BadRow) (.ref a.BadNumber) = some false
  i_BadRow_TooMuch : PySem.W.kitOne K (.ref a.BadRow) (.ref a.TooMuch) = some false
  i_BadRow_Full : PySem.W.kitOne K (.ref a.BadRow) (.ref a.Full) = some false
  i_BadRow_NothingBack : PySem.W.kitOne K (.ref a.BadRow) (.ref a.NothingBack) = some false
  i_BadRow_NoWidths : PySem.W.kitOne K (.ref a.BadRow) (.ref a.NoWidths) = some false
  i_BadRow_BadRow : PySem.W.kitOne K (.ref a.BadRow) (.ref a.BadRow) = some true
  i_BadRow_ValueError : PySem.W.kitOne K (.ref a.BadRow) (.type "ValueError") = some true
theorem mk_txt {K : PySem.W.Frag} {mg : Str → Option Value} {cGaugeError cUnknown cInUse cBadName cBadNumber cTooMuch cFull cNothingBack cNoWidths cBadRow : Addr} (f_inside : TF K mg "inside" s_inside) (f_is_number : TF K mg "is_number" s_is_number) (f_fits : TF K mg "fits" s_fits) (f_read_word : TF K mg "read_word" s_read_word) (f_read_row : TF K mg "read_row" s_read_row) (f_law_words : TF K mg "_law_words" s_law_words) (f_law_sorts : TF K mg "_law_sorts" s_law_sorts) (f_law_forms : TF K mg "_law_forms" s_law_forms) (f_law_text : TF K mg "_law_text" s_law_text) (f_law_figures : TF K mg "_law_figures" s_law_figures) (f_law_fits : TF K mg "_law_fits" s_law_fits) (f_law_spoilt : TF K mg "_law_spoilt" s_law_spoilt) (f_law_right : TF K mg "_law_right" s_law_right) (f_law : TF K mg "law" s_law) (c_NUMBER_SIGNS : TopT K mg "NUMBER_SIGNS" [.int 1, .int 6]) (c_FORMS : TopT K mg "FORMS" [.str "member NAME", .str "plain NAME MEMBER PEOPLE EACH OVER", .str "link NAME MEMBER BASE MORE", .str "top MEMBER WIDTH", .str "strike member MEMBER", .str "strike demand DEMAND", .str "strike top MEMBER", .str "back", .str "widths", .str "chain MEMBER", .str "why", .str "slack MEMBER", .str "cost DEMAND"]) (c_NUMBERS : TopT K mg "NUMBERS" [.str "PEOPLE", .str "EACH", .str "OVER", .str "MORE", .str "WIDTH"]) (b_ValueError : mg "ValueError" = none) (b_all : mg "all" = none) (b_int : mg "int" = none) (b_isinstance : mg "isinstance" = none) (b_len : mg "len" = none) (b_range : mg "range" = none) (b_tuple : mg "tuple" = none) (b_zip : mg "zip" = none) (x_GaugeError : XC K mg "GaugeError" cGaugeError) (x_Unknown : XC K mg "Unknown" cUnknown) (x_InUse : XC K mg "InUse" cInUse) (x_BadName : XC K mg "BadName" cBadName) (x_BadNumber : XC K mg "BadNumber" cBadNumber) (x_TooMuch : XC K mg "TooMuch" cTooMuch) (x_Full : XC K mg "Full" cFull) (x_NothingBack : XC K mg "NothingBack" cNothingBack) (x_NoWidths : XC K mg "NoWidths" cNoWidths) (x_BadRow : XC K mg "BadRow" cBadRow) (u_BadRow_GaugeError : subX K (.ref cBadRow) cGaugeError = some true) (e_BadRow : EC K cBadRow) (l_BadRow : ∃ c0 d0 cd sl, K.lookup cBadRow = some ⟨c0, d0, .cls cd, sl⟩) (i_BadRow_Unknown : PySem.W.kitOne K (.ref cBadRow) (.ref cUnknown) = some false) (i_BadRow_InUse : PySem.W.kitOne K (.ref cBadRow) (.ref cInUse) = some false) (i_BadRow_BadName : PySem.W.kitOne K (.ref cBadRow) (.ref cBadName) = some false) (i_BadRow_BadNumber : PySem.W.kitOne K (.ref cBadRow) (.ref cBadNumber) = some false) (i_BadRow_TooMuch : PySem.W.kitOne K (.ref cBadRow) (.ref cTooMuch) = some false) (i_BadRow_Full : PySem.W.kitOne K (.ref cBadRow) (.ref cFull) = some false) (i_BadRow_NothingBack : PySem.W.kitOne K (.ref cBadRow) (.ref cNothingBack) = some false) (i_BadRow_NoWidths : PySem.W.kitOne K (.ref cBadRow) (.ref cNoWidths) = some false) (i_BadRow_BadRow : PySem.W.kitOne K (.ref cBadRow) (.ref cBadRow) = some true) (i_BadRow_ValueError : PySem.W.kitOne K (.ref cBadRow) (.type "ValueError") = some true) : ∃ a : Adr, Txt K mg a :=
  ⟨⟨cGaugeError, cUnknown, cInUse, cBadName, cBadNumber, cTooMuch, cFull, cNothingBack, cNoWidths, cBadRow⟩, f_inside, f_is_number, f_fits, f_read_word, f_read_row, f_law_words, f_law_sorts, f_law_forms, f_law_text, f_law_figures, f_law_fits, f_law_spoilt, f_law_right, f_law, c_NUMBER_SIGNS, c_FORMS, c_NUMBERS, b_ValueError, b_all, b_int, b_isinstance, b_len, b_range, b_tuple, b_zip, x_GaugeError, x_Unknown, x_InUse, x_BadName, x_BadNumber, x_TooMuch, x_Full, x_NothingBack, x_NoWidths, x_BadRow, u_BadRow_GaugeError, e_BadRow, l_BadRow, i_BadRow_Unknown, i_BadRow_InUse, i_BadRow_BadName, i_BadRow_BadNumber, i_BadRow_TooMuch, i_BadRow_Full, i_BadRow_NothingBack, i_BadRow_NoWidths, i_BadRow_BadRow, i_BadRow_ValueError⟩
def sp_law (K : PySem.W.Frag) : Sp := fun vs H Q _ => ∃ (a : Addr) (ns : List Int), vs = [.ref a] ∧ SqL K H a (ns.map V.int) ∧ ns.length ≤ 63 ∧ ∀ H', Q (.bl true) H'
section
variable {P : Program} {w : World} {K : PySem.W.Frag} {mg : Str → Option Value} {base : Heap} {a : Adr}
def sp_words (K : PySem.W.Frag) : Sp := fun vs H Q _ => ∃ (a : Addr) (ns : List Int) (m : Nat), vs = [.ref a, .int m] ∧ SqL K H a (ns.map V.int) ∧ m ≤ 1000 ∧ ∀ (p : Addr) (ws : List Int) (H' : Hp), H p = none → Same H H' → H' p = some (.lst (ws.map V.int)) → ws.length = m → (∀ x ∈ ws, 0 ≤ x) → Q (.ref p) H'
theorem size1000 {n : Nat} (h : n ≤ 1000) : n < sizeLine := Nat.lt_of_le_of_lt h (by decide)
theorem ok_words (T : Txt K mg a) : GFn P w K mg base 1 "_law_words" ["_law_script", "_law_many"] (sp_words K) := by
  refine gfn_of T.f_law_words sc_law_words (fun _ _ _ _ _ _ us hl => match us, hl with | [_, _], _ => rfl) (fun vs H Q E h => ?_) fun f cdv A outer s H vs Q E hr h => ?_
  · obtain ⟨a, ns, m, rfl, _⟩ := h
    rfl
  · obtain ⟨a, ns, m, rfl, hS, hm, q⟩ := h
    refine ⟨_, (pss_cons (ps_set (i := 2) sc_law_words.nd rfl (Or.inl rfl) (pe_lst pa_nil))
      (pss_cons (ps_set (i := 3) sc_law_words.nd rfl (Or.inl rfl) pe_int)
      (pss_cons (ps_for PassesOwn.never rfl (pi_range1 rfl T.b_range (pa_c (pv 1) pa_nil)) (pg_name (i := 4) sc_law_words.nd rfl (Or.inl rfl))
      (pss_cons (ps_set (i := 5) sc_law_words.nd rfl (Or.inl rfl) pe_int)
      (pss_cut (ps_if (pt_cmpR op_lt (pv 4) (pe_callB (show CallR _ _ (rLen K) from call_lenK) (by rfl) T.b_len boot_len (pa_c (pv 0) pa_nil)) (nomark _)) (pss_one (ps_set (i := 5) sc_law_words.nd rfl (Or.inl rfl) (pe_ix (show IxR _ (rIxL K) from ix_list) (pv 0) (pv 4) (fun _ _ => rfl)))) pss_nil)
      (pss_cons (ps_set (i := 3) sc_law_words.nd rfl (Or.inl rfl) (pe_op op_mod (pe_op op_mul (pe_op op_add (pe_op op_add (pv 3) (pv 5)) (pv 4)) pe_int) (pe_op op_add (pe_op op_pow pe_int pe_int) pe_int)))
      (pss_one (ps_expr (show PE _ _ (tBM K _ _ _ _) from pe_bm PySem.F.plainAttrs_list PySem.F.slot_list_append PySem.F.type_list_append mt_append (pv 2) (pa_c (pv 3) pa_nil))))))))
      (pss_one (ps_ret (pv 2)))))), ?_⟩
    refine ⟨by decide, fun l nl => ?_⟩
    refine ⟨_, rfl, _, rfl, by omega, by omega, ?_⟩
    rw [Int.toNat_natCast]
    refine for_items (xs := rangeV 0 m) (fun i σ' H' => ∃ (ws : List Int) (wd : Int) (v4 v5 : Option V), σ' = [some (.ref a), some (.int m), some (.ref l), some (.int wd), v4, v5] ∧ Same H H' ∧ H' l = some (.lst (ws.map V.int)) ∧ ws.length = i ∧ ∀ x ∈ ws, 0 ≤ x) ⟨[], _, none, none, rfl, Same.upd nl, upd_same, rfl, fun x hx => by cases hx⟩ (fun i σ' H' _ _ => jl_range) ?_ ?_
    · rintro i x σ' H' hi ⟨ws, wd, v4, v5, rfl, sm, hl, hw, h0⟩
      obtain ⟨hi, rfl⟩ := rangeV_at hi
      refine ⟨fun σ2 H2 => ∃ c : Int, σ2 = [some (.ref a), some (.int m), some (.ref l), some (.int wd), some (.int (0 + (i : Nat))), some (.int c)] ∧ H2 = H', ?_, ?_⟩
      · refine ⟨_, rfl, _, rfl, _, _, rfl, .inl ⟨_, sm.seq hS, rfl⟩, _, _, rfl, rfl, _, rfl, ?_⟩
        rw [List.length_map]
        refine ite2 (fun c => ?_) (fun c => ?_)
        · have c := of_decide_eq_true c
          exact ⟨_, rfl, _, rfl, a, _, _, _, rfl, rfl, sm.seq hS, atI_g (by omega) c, _, rfl, rfl⟩
        · exact ⟨0, rfl, rfl⟩
      rintro σ2 H2 ⟨c, rfl, rfl⟩
      refine ⟨_, rfl, _, rfl, _, _, rfl, rfl, _, rfl, _, _, rfl, rfl, _, _, rfl, rfl, .inr ⟨by decide, by decide⟩, _, _, rfl, rfl, ⟨by decide, by decide, by decide⟩, _, _, rfl, rfl, _, _, rfl, rfl, (by show (0 : Int) < 10 ^ 18 + 9; decide), ?_⟩
      refine ⟨_, rfl, .inl ⟨rfl, _, SqL.of hl⟩, _, rfl, l, _, _, rfl, rfl, hl, by rw [List.length_map, hw]; exact size1000 (by omega), ?_⟩
      refine ⟨ws ++ [(wd + c + (0 + (i : Nat))) * 618033988749894849 % (10 ^ 18 + 9)], _, _, _, rfl, sm.updl nl, by rw [upd_same, List.map_append]; rfl, by rw [List.length_append, hw]; rfl, fun x hx => ?_⟩
      rcases List.mem_append.mp hx with hx | hx
      · exact h0 x hx
      · rw [List.mem_singleton.mp hx]
        exact Int.emod_nonneg _ (by decide)
    · rintro σ' H' ⟨ws, wd, v4, v5, rfl, sm, hl, hw, h0⟩
      rw [rangeV_len] at hw
      exact ⟨_, rfl, q l ws H' nl sm hl hw h0⟩
theorem inV_str (x : Str) : ∀ ms : List Str, inV (.str x) (ms.map V.str) = decide (x ∈ ms)
  | [] => by simp [inV]
  | m :: ms => by
    have := inV_str x ms
    unfold inV at this ⊢
    rw [List.map_cons, List.any_cons, this]
    show (m == x || decide (x ∈ ms)) = decide (x ∈ m :: ms)
    by_cases e : m = x
    · subst e; simp
    · have e' : ¬ x = m := fun z => e z.symm
      simp [e, e']
def sp_inside (K : PySem.W.Frag) : Sp := fun vs H Q _ => ∃ (n lo hi : Int) (a : Addr), vs = [.int n, .ref a] ∧ SqT K H a [.int lo, .int hi] ∧ Q (.bl (decide (lo ≤ n) && decide (n ≤ hi))) H
theorem ok_inside (T : Txt K mg a) : GFn P w K mg base 1 "inside" ["number", "span"] (sp_inside K) := by
  refine gfn_of T.f_inside sc_inside (fun _ _ _ _ _ _ us hl => match us, hl with | [_, _], _ => rfl) (fun vs H Q E h => ?_) fun f cdv A outer s H vs Q E hr h => ?_
  · obtain ⟨n, lo, hi, a, rfl, _⟩ := h
    rfl
  · obtain ⟨n, lo, hi, a, rfl, hq, q⟩ := h
    refine ⟨_, (pss_one (ps_ret (pe_chain op_le op_le (pe_ix (show IxR _ (rIxT K) from ix_tup) (pv 1) pe_int (fun _ _ => rfl)) (pv 0) (pe_ix (show IxR _ (rIxT K) from ix_tup) (pv 1) pe_int (fun _ _ => rfl))))), ?_⟩
    refine ⟨_, rfl, a, _, _, _, rfl, rfl, hq, rfl, _, rfl, _, _, rfl, rfl, _, rfl, ?_⟩
    refine ite2 (fun h1 => ?_) (fun h1 => ?_)
    · refine ⟨_, rfl, a, _, _, _, rfl, rfl, hq, rfl, _, _, rfl, rfl, ?_⟩
      rw [h1, Bool.true_and] at q
      exact q
    · rw [Bool.not_eq_true] at h1
      rw [h1, Bool.false_and] at q
      exact q
def s0 : Str := "0"
def s9 : Str := "9"
theorem s0_cps : s0.cps.toList = [48] := by decide +kernel
theorem s9_cps : s9.cps.toList = [57] := by decide +kernel
theorem lt1 (a b : Nat) : decide (([a] : List Nat) < [b]) = decide (a < b) := by
  rw [decide_eq_decide]
  constructor
  · intro h
    cases h with
    | rel h => exact h
    | cons h => cases h
  · exact fun h => .rel h
def sp_isnum : Sp := fun vs H Q _ => ∃ z : Str, vs = [.str z] ∧ z.length ≤ 1000 ∧ ∀ H', Same H H' → Q (.bl (isNumF z)) H'
theorem ok_is_number (T : Txt K mg a) : GFn P w K mg base 2 "is_number" ["word"] sp_isnum := by
  have c_inside : GFn P w K mg base 1 "inside" ["number", "span"] (sp_inside K) := ok_inside T
  refine gfn_of T.f_is_number sc_is_number (fun _ _ _ _ _ _ us hl => match us, hl with | [_], _ => rfl) (fun vs H Q E h => ?_) fun f cdv A outer s H vs Q E hr h => ?_
  · obtain ⟨z, rfl, _⟩ := h
    rfl
  · obtain ⟨z, rfl, hz, q⟩ := h
    refine ⟨_, (pss_one (ps_ret (pe_cut (pe_and (pe_callF c_inside (hr.mono (by decide)) (pa_c (pe_callB (show CallR _ _ (rLen K) from call_lenK) (by rfl) T.b_len boot_len (pa_c (pv 0) pa_nil)) (pa_c (pe_topT T.c_NUMBER_SIGNS) pa_nil))) (pe_one (pe_callB (call_all rfl) (by rfl) T.b_all boot_all (pa_c (pe_comp (psc := defScope s_is_number) (own := ["sign"]) (frn := []) (fr := []) (by exact ⟨rfl, by decide +kernel, by decide +kernel, by decide +kernel, by decide +kernel, by decide +kernel⟩) rfl rfl rfl (go_name (by decide : 0 < 1)) (pi_str (pv 0))
        (fun C s2 H2 fp => ⟨(pg_name (i := 0) (show (["sign"] : List Str).Nodup by decide +kernel) rfl (Or.inl rfl)), pif_nil, (pe_chain op_le_str op_le_str pe_str (pv 0) pe_str)⟩)) pa_nil))))))), ?_⟩
    have hl : z.length ≤ sizeLine := Nat.le_of_lt (size1000 hz)
    have lz : z.cps.toList.length = z.length := by simp [Str.length]
    refine ⟨Q, ?_, fun _ _ z => z⟩
    refine ⟨_, rfl, _, _, rfl, ⟨hl, rfl⟩, fun a ha => ?_⟩
    refine ⟨_, 1, 6, a, rfl, ha _, _, rfl, ?_⟩
    refine ite2 (fun h1 => ?_) (fun h1 => ?_)
    · refine ⟨_, rfl, _, rfl, ?_⟩
      refine comp_pure (xs := signsV z) jl_str (fun v => match v with | .str z => .bl (figC (z.cps.getD 0 0)) | _ => .bl false) (by unfold signsV; rw [List.length_map, lz]; exact size1000 hz) (fun x hx R hR => ?_) (fun p hp => ?_)
      · obtain ⟨c, _, rfl⟩ := List.mem_map.mp (show x ∈ z.cps.toList.map fun c => V.str ⟨#[c]⟩ from hx)
        have e1 : (!decide ((⟨#[c]⟩ : Str).cps.toList < s0.cps.toList)) = decide (48 ≤ c) := by
          rw [s0_cps]
          show (!decide ([c] < [48])) = _
          rw [lt1, ← decide_not, decide_eq_decide]
          omega
        have e2 : (!decide (s9.cps.toList < (⟨#[c]⟩ : Str).cps.toList)) = decide (c ≤ 57) := by
          rw [s9_cps]
          show (!decide ([57] < [c])) = _
          rw [lt1, ← decide_not, decide_eq_decide]
          omega
        have hR : R (.bl (decide (48 ≤ c) && decide (c ≤ 57))) H := hR
        refine ⟨_, rfl, s0, _, rfl, rfl, _, rfl, ?_⟩
        rw [e1]
        refine ite2 (fun h1 => ?_) (fun h1 => ?_)
        · refine ⟨_, s9, rfl, rfl, ?_⟩
          rw [e2]
          rw [h1, Bool.true_and] at hR
          exact hR
        · rw [Bool.not_eq_true] at h1
          rw [h1, Bool.false_and] at hR
          exact hR
      · refine ⟨p, z.cps.toList.map figC, rfl, SqL.of ?_, ?_⟩
        · rw [upd_same]
          unfold signsV
          rw [List.map_map, List.map_map]
          rfl
        · have e : (z.cps.toList.map figC).all id = z.cps.toList.all figC := by rw [List.all_map]; rfl
          rw [e]
          have q' := q _ (Same.upd (o := .lst ((signsV z).map (fun v => match v with | .str z => .bl (figC (z.cps.getD 0 0)) | _ => .bl false))) hp)
          unfold isNumF at q'
          rw [h1, Bool.true_and] at q'
          exact q'
    · have q' := q H (Same.refl H)
      rw [Bool.not_eq_true] at h1
      unfold isNumF at q'
      rw [h1, Bool.false_and] at q'
      exact q'
def sp_fits : Sp := fun vs H Q _ => ∃ p z : Str, vs = [.str p, .str z] ∧ z.length ≤ 1000 ∧ ∀ H', Same H H' → Q (.bl (fitsF p z)) H'
theorem ok_fits (T : Txt K mg a) : GFn P w K mg base 3 "fits" ["part", "word"] sp_fits := by
  have c_is_number : GFn P w K mg base 2 "is_number" ["word"] sp_isnum := ok_is_number T
  refine gfn_of T.f_fits sc_fits (fun _ _ _ _ _ _ us hl => match us, hl with | [_, _], _ => rfl) (fun vs H Q E h => ?_) fun f cdv A outer s H vs Q E hr h => ?_
  · obtain ⟨p, z, rfl, _⟩ := h
    rfl
  · obtain ⟨p, z, rfl, hz, q⟩ := h
    refine ⟨_, (pss_cons (ps_if (pt_cmpR (show OpR _ _ (rIn K false) from op_in_seq) (pv 0) (pe_topT T.c_NUMBERS) (by with_unfolding_all rfl)) (pss_one (ps_ret (pe_callF c_is_number (hr.mono (by decide)) (pa_c (pv 1) pa_nil)))) pss_nil)
      (pss_one (ps_ret (pe_cut (pe_or (show PE _ _ (tBM0 K _ _ _) from pe_bm0 PySem.F.plainAttrs_str PySem.F.slot_str_isupper PySem.F.type_str_isupper mt_isupper (pv 0)) (pe_one (pe_cmpR op_eq (pv 0) (pv 1) (nomark _)))))))), ?_⟩
    refine ⟨_, rfl, fun nu hnu => ⟨nu, numW.map V.str, rfl, .inr (hnu H), rfl, rfl, _, rfl, ?_⟩⟩
    show if inV (.str p) (numW.map V.str) = true then _ else _
    rw [inV_str]
    by_cases hp : p ∈ numW
    · rw [decide_eq_true hp]
      refine iteT ⟨_, rfl, z, rfl, hz, fun H' s => ?_⟩
      have := q H' s
      unfold fitsF at this
      rw [if_pos hp] at this
      exact this
    · rw [decide_eq_false hp]
      have q' := q H (Same.refl H)
      unfold fitsF at q'
      rw [if_neg hp] at q'
      refine iteF ⟨Q, ?_, fun _ _ z => z⟩
      refine ⟨_, rfl, rfl, p, rfl, rfl, _, rfl, ?_⟩
      cases hu : Txt.isupper p with
      | true => rw [hu] at q'; exact iteT q'
      | false =>
        rw [hu, Bool.false_or] at q'
        refine iteF ⟨_, rfl, _, rfl, rfl, ?_⟩
        rw [show decide (V.str p = V.str z) = decide (p = z) from decide_eq_decide.mpr ⟨fun e => V.str.inj e, fun e => by rw [e]⟩]
        exact q'
def sp_read_word : Sp := fun vs H Q _ => ∃ p z : Str, vs = [.str p, .str z] ∧ fitsF p z = true ∧ Q (readF p z) H
theorem ok_read_word (T : Txt K mg a) : GFn P w K mg base 1 "read_word" ["part", "word"] sp_read_word := by
  refine gfn_of T.f_read_word sc_read_word (fun _ _ _ _ _ _ us hl => match us, hl with | [_, _], _ => rfl) (fun vs H Q E h => ?_) fun f cdv A outer s H vs Q E hr h => ?_
  · obtain ⟨p, z, rfl, _⟩ := h
    rfl
  · obtain ⟨p, z, rfl, hf, q⟩ := h
    refine ⟨_, (pss_one (ps_ret (pe_cut (pe_ifExp (pt_cmpR (show OpR _ _ (rIn K false) from op_in_seq) (pv 0) (pe_topT T.c_NUMBERS) (by with_unfolding_all rfl)) (pe_callTy call_intS (by rfl) T.b_int boot_int (pa_c (pv 1) pa_nil)) (pv 1))))), ?_⟩
    refine ⟨Q, ?_, fun _ _ z => z⟩
    refine ⟨_, rfl, fun nu hnu => ⟨nu, numW.map V.str, rfl, .inr (hnu H), rfl, rfl, _, rfl, ?_⟩⟩
    show if inV (.str p) (numW.map V.str) = true then _ else _
    rw [inV_str]
    unfold readF at q
    by_cases hp : p ∈ numW
    · rw [decide_eq_true hp]
      rw [if_pos hp] at q
      unfold fitsF at hf
      rw [if_pos hp] at hf
      obtain ⟨h1, h2⟩ := num_read hf
      exact iteT ⟨_, rfl, z, _, rfl, h1, by omega, q⟩
    · rw [decide_eq_false hp]
      rw [if_neg hp] at q
      exact iteF ⟨_, rfl, q⟩
def sp_read_row (a : Adr) : Sp := fun vs H Q E => ∃ row : Str, vs = [.str row] ∧ row.length ≤ 900 ∧ (∀ xs, rowF row = some xs → ∀ (p : Addr) (H' : Hp), Same H H' → H p = none → H' p = some (.tup xs) → Q (.ref p) H') ∧ (rowF row = none → ∀ H', Same H H' → E (.ref a.BadRow) none H')
theorem split_short {row z : Str} (h : z ∈ Txt.split row " ") : z.length ≤ row.length := PyProof.Rows.part_short h
theorem zip_at {ps ws : List Str} {i : Nat} {x z : V} (h1 : (ps.map V.str)[i]? = some x) (h2 : (ws.map V.str)[i]? = some z) : ∃ p w, x = .str p ∧ z = .str w ∧ ps[i]? = some p ∧ ws[i]? = some w := by
  rw [List.getElem?_map] at h1 h2
  cases e1 : ps[i]? with
  | none => rw [e1] at h1; cases h1
  | some p =>
    cases e2 : ws[i]? with
    | none => rw [e2] at h2; cases h2
    | some w => rw [e1] at h1; rw [e2] at h2; cases h1; cases h2; exact ⟨p, w, rfl, rfl, rfl, rfl⟩
theorem zip_take {ps ws : List Str} {i : Nat} {p w : Str} (h1 : ps[i]? = some p) (h2 : ws[i]? = some w) : (ps.zip ws).take (i + 1) = (ps.zip ws).take i ++ [(p, w)] := by
  have : (ps.zip ws)[i]? = some (p, w) := List.getElem?_zip_eq_some.mpr ⟨h1, h2⟩
  rw [List.take_add_one, this]
  rfl
set_option maxHeartbeats 8000000 in
theorem ok_read_row (T : Txt K mg a) : GFx P w K mg base 4 "read_row" ["row"] (sp_read_row a) := by
  have c_fits : GFn P w K mg base 3 "fits" ["part", "word"] sp_fits := ok_fits T
  have c_read_word : GFn P w K mg base 1 "read_word" ["part", "word"] sp_read_word := ok_read_word T
  refine gfx_of T.f_read_row sc_read_row (fun _ _ _ _ _ _ us hl => match us, hl with | [_], _ => rfl) (fun vs H Q E h => ?_) fun f cdv A outer s H vs Q E hr h => ?_
  · obtain ⟨row, rfl, _⟩ := h
    rfl
  · obtain ⟨row, rfl, hz, qk, qe⟩ := h
    refine ⟨_, (pss_cons (ps_set (i := 1) sc_read_row.nd rfl (Or.inl rfl) (show PE _ _ (tBM K _ _ _ _) from pe_bm PySem.F.plainAttrs_str PySem.F.slot_str_split PySem.F.type_str_split mt_split (pv 0) (pa_c pe_str pa_nil)))
      (pss_cons (ps_for (passes_exc ⟨rfl, rfl⟩) rfl (pi_tup (pe_topT T.c_FORMS)) (pg_name (i := 2) sc_read_row.nd rfl (Or.inl rfl))
      (pss_cons (ps_set (i := 3) sc_read_row.nd rfl (Or.inl rfl) (show PE _ _ (tBM K _ _ _ _) from pe_bm PySem.F.plainAttrs_str PySem.F.slot_str_split PySem.F.type_str_split mt_split (pv 2) (pa_c pe_str pa_nil)))
      (pss_one (ps_if (PW.pt (pw_and (pt_cmpR op_eq (pe_callB (show CallR _ _ (rLen K) from call_lenK) (by rfl) T.b_len boot_len (pa_c (pv 3) pa_nil)) (pe_callB (show CallR _ _ (rLen K) from call_lenK) (by rfl) T.b_len boot_len (pa_c (pv 1) pa_nil)) (nomark _)) (pw_and1 (pt_truth (pe_callB (call_all rfl) (by rfl) T.b_all boot_all (pa_c (pe_comp (psc := defScope s_read_row) (own := ["part", "word"]) (frn := []) (fr := []) (by exact ⟨rfl, by decide +kernel, by decide +kernel, by decide +kernel, by decide +kernel, by decide +kernel⟩) rfl rfl rfl (go_tup (K := K) (k := 2) (gos_cons (go_name (by decide : 0 < 2)) gm_name (gos_cons (go_name (by decide : 1 < 2)) gm_name gos_nil gms_nil) (gms_cons gm_name gms_nil))) (pi_zip rfl T.b_zip (pa_c (pv 3) (pa_c (pv 1) pa_nil)))
        (fun C s2 H2 fp => ⟨(show PG _ _ (gTup K 2 _) from pg_tup (n := 2) rfl (pgs_cons (pg_name (i := 0) (show (["part", "word"] : List Str).Nodup by decide +kernel) rfl (Or.inl rfl)) (pgs_cons (pg_name (i := 1) (show (["part", "word"] : List Str).Nodup by decide +kernel) rfl (Or.inl rfl)) pgs_nil))), pif_nil, (pe_callF c_fits (hr.mono (by decide)) (pa_c (pv 0) (pa_c (pv 1) pa_nil)))⟩)) pa_nil)) (fun _ => rfl))))) (pss_one (ps_ret (pe_callTy call_tuple_of (by rfl) T.b_tuple boot_tuple (pa_c (pe_comp (psc := defScope s_read_row) (own := ["part", "word"]) (frn := []) (fr := []) (by exact ⟨rfl, by decide +kernel, by decide +kernel, by decide +kernel, by decide +kernel, by decide +kernel⟩) rfl rfl rfl (go_tup (K := K) (k := 2) (gos_cons (go_name (by decide : 0 < 2)) gm_name (gos_cons (go_name (by decide : 1 < 2)) gm_name gos_nil gms_nil) (gms_cons gm_name gms_nil))) (pi_zip rfl T.b_zip (pa_c (pv 3) (pa_c (pv 1) pa_nil)))
        (fun C s2 H2 fp => ⟨(show PG _ _ (gTup K 2 _) from pg_tup (n := 2) rfl (pgs_cons (pg_name (i := 0) (show (["part", "word"] : List Str).Nodup by decide +kernel) rfl (Or.inl rfl)) (pgs_cons (pg_name (i := 1) (show (["part", "word"] : List Str).Nodup by decide +kernel) rfl (Or.inl rfl)) pgs_nil))), pif_nil, (pe_callF c_read_word (hr.mono (by decide)) (pa_c (pv 0) (pa_c (pv 1) pa_nil)))⟩)) pa_nil)))) pss_nil))))
      (pss_one (ps_raise T.x_BadRow rfl (pa_c pe_str pa_nil))))), ?_⟩
    refine ⟨_, rfl, rfl, _, _, rfl, rfl, by decide +kernel, by omega, fun pw npw => ?_⟩
    obtain ⟨ws, ews⟩ : ∃ ws, ws = Txt.split row " " := ⟨_, rfl⟩
    have wl : ws.length ≤ 1000 := by rw [ews]; exact Nat.le_trans (PyProof.Rows.split_le row " ") (by omega)
    have wsh : ∀ z ∈ ws, z.length ≤ 1000 := fun z hz => by rw [ews] at hz; exact Nat.le_trans (split_short hz) (by omega)
    have eF : rowF row = rowW ws := by unfold rowF; rw [ews]
    rw [eF] at qk qe
    rw [← ews]
    have sw := Same.upd (o := .lst (ws.map V.str)) npw
    have hpw : (upd H pw (.lst (ws.map V.str))) pw = some (.lst (ws.map V.str)) := upd_same
    dsimp only [gName, L2.start, List.set]
    generalize upd H pw (.lst (ws.map V.str)) = H1 at sw hpw
    refine fun fa hfa => ⟨fa, rfl, ⟨_, hfa _⟩, ?_⟩
    refine for_items (xs := formT.map V.str) (fun i σ' H' => ∃ v2 v3 : Option V, σ' = [some (.str row), some (.ref pw), v2, v3] ∧ Same H1 H' ∧ ∀ ps ∈ formsL.take i, fitsAll ps ws = false) ⟨none, none, rfl, Same.refl _, fun ps hp => by cases hp⟩ (fun i σ' H' _ _ => jl_tup (hfa _)) ?_ ?_
    · rintro i x σ' H' hi ⟨v2, v3, rfl, sm, hno⟩
      obtain ⟨fo, hfo, rfl⟩ : ∃ fo, formT[i]? = some fo ∧ x = V.str fo := by
        rw [List.getElem?_map] at hi
        cases e : formT[i]? with
        | none => rw [e] at hi; cases hi
        | some fo => rw [e] at hi; exact ⟨fo, rfl, (Option.some.inj hi).symm⟩
      obtain ⟨ps, eps⟩ : ∃ ps, ps = Txt.split fo " " := ⟨_, rfl⟩
      have hps : formsL[i]? = some ps := by rw [← forms_split, List.getElem?_map, hfo, eps]; rfl
      have fol : fo.length ≤ 1000 := (show ∀ t ∈ formT, t.length ≤ 1000 by decide +kernel) fo (List.mem_of_getElem? hfo)
      have tk : formsL.take (i + 1) = formsL.take i ++ [ps] := by rw [List.take_add_one, hps]; rfl
      have s1 := sw.trans sm
      refine ⟨_, rfl, rfl, _, _, rfl, rfl, by decide +kernel, fol, fun pp npp => ?_⟩
      rw [← eps]
      have pl : ps.length ≤ 1000 := by rw [eps]; exact Nat.le_trans (PyProof.Rows.split_le fo " ") ((show ∀ t ∈ formT, t.length + 2 ≤ 1000 by decide +kernel) fo (List.mem_of_getElem? hfo))
      have sp := Same.upd (o := .lst (ps.map V.str)) npp
      have hpp : (upd H' pp (.lst (ps.map V.str))) pp = some (.lst (ps.map V.str)) := upd_same
      dsimp only [gName, L2.start, List.set]
      generalize upd H' pp (.lst (ps.map V.str)) = H2 at sp hpp
      have s2 := sm.trans sp
      have hpw2 := s2 _ _ hpw
      refine ⟨_, rfl, _, _, rfl, .inl ⟨_, SqL.of hpp, rfl⟩, _, rfl, _, _, rfl, .inl ⟨_, SqL.of hpw2, rfl⟩, rfl, _, rfl, ?_⟩
      by_cases hl : ps.length = ws.length
      rotate_left
      · rw [show decide (V.int ((ps.map V.str).length : Nat) = V.int ((ws.map V.str).length : Nat)) = false from decide_eq_false fun z => hl (by have z := V.int.inj z; rw [List.length_map, List.length_map] at z; omega)]
        refine iteF (iteF ⟨_, _, rfl, s2, fun q hq => ?_⟩)
        rw [tk] at hq
        rcases List.mem_append.mp hq with hq | hq
        · exact hno q hq
        · rw [List.mem_singleton.mp hq]
          unfold fitsAll
          rw [decide_eq_false hl]
          rfl
      rw [show decide (V.int ((ps.map V.str).length : Nat) = V.int ((ws.map V.str).length : Nat)) = true from decide_eq_true (by rw [List.length_map, List.length_map, hl])]
      refine iteT ⟨_, rfl, _, rfl, pp, pw, rfl, ⟨_, SqL.of hpp⟩, ⟨_, SqL.of hpw2⟩, ?_⟩
      refine comp_zip (xs := ps.map V.str) (zs := ws.map V.str) (fun j ys H3 => Same H2 H3 ∧ ys = (((ps.zip ws).take j).map fun x => fitsF x.1 x.2).map V.bl) (fun j ys H3 z => ⟨SqL.of (z.1 _ _ hpp), SqL.of (z.1 _ _ hpw2)⟩) (by rw [List.length_map, List.length_map, hl]) ⟨Same.refl _, rfl⟩ (by rw [List.length_map]; exact size1000 pl) (fun j ys H3 z => by rw [z.2, List.length_map, List.length_map, List.length_take]; exact Nat.min_le_left _ _) ?_ ?_
      · rintro j ys H3 x z t hx hz2 ⟨sm3, rfl⟩ nt
        obtain ⟨p, wd, rfl, rfl, h1, h2⟩ := zip_at hx hz2
        have st := sm3.trans (Same.upd (o := .tup [.str p, .str wd]) nt)
        refine ⟨t, _, rfl, SqT.of upd_same, rfl, _, _, rfl, _, _, rfl, rfl, _, rfl, _, rfl, p, wd, rfl, wsh wd (List.mem_of_getElem? h2), fun H4 s4 => ⟨st.trans s4, ?_⟩⟩
        rw [zip_take h1 h2, List.map_append, List.map_append]
        rfl
      rintro ys H3 pb ⟨sm3, rfl⟩ npb
      rw [List.length_map, List.take_of_length_le (by rw [List.length_zip]; omega)]
      refine ⟨pb, _, rfl, SqL.of upd_same, _, rfl, ?_⟩
      have s3 := sm3.trans (Same.upd (o := .lst ((((ps.zip ws).map fun x => fitsF x.1 x.2)).map V.bl)) npb)
      generalize upd H3 pb (.lst ((((ps.zip ws).map fun x => fitsF x.1 x.2)).map V.bl)) = H4 at s3
      have ea : ((ps.zip ws).map fun x => fitsF x.1 x.2).all id = (ps.zip ws).all fun x => fitsF x.1 x.2 := by rw [List.all_map]; rfl
      rw [ea]
      cases hb : (ps.zip ws).all fun x => fitsF x.1 x.2 with
      | false =>
        refine iteF ⟨_, _, rfl, s2.trans s3, fun q hq => ?_⟩
        rw [tk] at hq
        rcases List.mem_append.mp hq with hq | hq
        · exact hno q hq
        · rw [List.mem_singleton.mp hq]
          unfold fitsAll
          rw [hb, Bool.and_false]
      | true =>
        have fa : fitsAll ps ws = true := by unfold fitsAll; rw [hb, decide_eq_true hl]; rfl
        have fnd : formsL.find? (fun q => fitsAll q ws) = some ps := by
          rw [List.find?_eq_some_iff_getElem]
          refine ⟨fa, i, (List.getElem?_eq_some_iff.mp hps).1, (List.getElem?_eq_some_iff.mp hps).2, fun j hj => ?_⟩
          have hjl : j < formsL.length := Nat.lt_trans hj (List.getElem?_eq_some_iff.mp hps).1
          rw [hno _ (List.mem_take_iff_getElem.mpr ⟨j, by omega, rfl⟩)]
          rfl
        have er : rowW ws = some ((ps.zip ws).map fun x => readF x.1 x.2) := by unfold rowW; rw [fnd]; rfl
        have hpp4 := s3 _ _ hpp
        have hpw4 := s3 _ _ hpw2
        refine iteT ⟨_, rfl, _, rfl, pp, pw, rfl, ⟨_, SqL.of hpp4⟩, ⟨_, SqL.of hpw4⟩, ?_⟩
        refine comp_zip (xs := ps.map V.str) (zs := ws.map V.str) (fun j ys H5 => Same H4 H5 ∧ ys = ((ps.zip ws).take j).map fun x => readF x.1 x.2) (fun j ys H3 z => ⟨SqL.of (z.1 _ _ hpp4), SqL.of (z.1 _ _ hpw4)⟩) (by rw [List.length_map, List.length_map, hl]) ⟨Same.refl _, rfl⟩ (by rw [List.length_map]; exact size1000 pl) (fun j ys H3 z => by rw [z.2, List.length_map, List.length_take]; exact Nat.min_le_left _ _) ?_ ?_
        · rintro j ys H5 x z t hx hz2 ⟨sm5, rfl⟩ nt
          obtain ⟨p, wd, rfl, rfl, h1, h2⟩ := zip_at hx hz2
          have st := sm5.trans (Same.upd (o := .tup [.str p, .str wd]) nt)
          have hf : fitsF p wd = true := List.all_eq_true.mp hb (p, wd) (List.mem_of_getElem? (List.getElem?_zip_eq_some.mpr ⟨h1, h2⟩))
          refine ⟨t, _, rfl, SqT.of upd_same, rfl, _, _, rfl, _, _, rfl, rfl, _, rfl, _, rfl, p, wd, rfl, hf, st, ?_⟩
          rw [zip_take h1 h2, List.map_append]
          rfl
        rintro ys H5 pl2 ⟨sm5, rfl⟩ npl
        rw [List.length_map, List.take_of_length_le (by rw [List.length_zip]; omega)]
        have s5 := sm5.trans (Same.upd (o := .lst ((ps.zip ws).map fun x => readF x.1 x.2)) npl)
        have s05 := ((s1.trans sp).trans s3).trans s5
        refine ⟨pl2, _, rfl, .inl ⟨SqL.of upd_same, fun tp ntp => qk _ er tp _ (s05.trans (Same.upd ntp)) (s05.free ntp) upd_same⟩⟩
    · rintro σ' H' ⟨v2, v3, rfl, sm, hno⟩
      refine ⟨by decide, qe ?_ H' (sw.trans sm)⟩
      unfold rowW
      rw [List.find?_eq_none.mpr fun q hq => ?_]
      · rfl
      · rw [hno q (by rw [List.length_map, show formT.length = formsL.length from rfl, List.take_length]; exact hq)]
        decide
def wordsB (b : List Bool) : List Str := [if b.getD 0 false then "unknown" else "", if b.getD 1 false then "in use" else "", if b.getD 2 false then "bad name" else "", if b.getD 3 false then "bad number" else "", if b.getD 4 false then "too much" else "", if b.getD 5 false then "full" else "", if b.getD 6 false then "nothing back" else "", if b.getD 7 false then "no widths" else "", if b.getD 8 false then "bad row" else "", if b.getD 9 false then "" else "no value"]
def SortsOf (K : PySem.W.Frag) (a : Adr) (C : Addr) (z : Str) : Prop := EC K C ∧ (∃ c0 d0 cd sl, K.lookup C = some ⟨c0, d0, .cls cd, sl⟩) ∧ ∃ b0 b1 b2 b3 b4 b5 b6 b7 b8 b9 : Bool, PySem.W.kitOne K (.ref C) (.ref a.Unknown) = some b0 ∧ PySem.W.kitOne K (.ref C) (.ref a.InUse) = some b1 ∧ PySem.W.kitOne K (.ref C) (.ref a.BadName) = some b2 ∧ PySem.W.kitOne K (.ref C) (.ref a.BadNumber) = some b3 ∧ PySem.W.kitOne K (.ref C) (.ref a.TooMuch) = some b4 ∧ PySem.W.kitOne K (.ref C) (.ref a.Full) = some b5 ∧ PySem.W.kitOne K (.ref C) (.ref a.NothingBack) = some b6 ∧ PySem.W.kitOne K (.ref C) (.ref a.NoWidths) = some b7 ∧ PySem.W.kitOne K (.ref C) (.ref a.BadRow) = some b8 ∧ PySem.W.kitOne K (.ref C) (.type "ValueError") = some b9 ∧ z = PySem.Txt.join " " ((wordsB [b0, b1, b2, b3, b4, b5, b6, b7, b8, b9]).filter fun x : Str => decide (x ≠ ""))
def sp_sorts (K : PySem.W.Frag) (a : Adr) (base : Heap) : Sp := fun vs H Q _ => ∃ x C t tb z, vs = [.ref x] ∧ base.get? x = some (xObj (.ref C) t tb) ∧ SortsOf K a C z ∧ ∀ H', Same H H' → Q (.str z) H'
theorem at2 {x y : V} {b : Bool} : atI [x, y] (if b = true then 1 else 0) = some (if b = true then y else x) := by cases b <;> rfl
theorem same_upd2 {H H' : Hp} {p q : Addr} {o u : HO} (s : Same H H') (hp : H' p = none) (hq : H q = none) : Same H (upd (upd H' p o) q u) := fun b z hb => by
  rw [upd_ne (ne_of_none hb hq), upd_ne (ne_of_none (s b z hb) hp)]
  exact s b z hb
set_option maxHeartbeats 4000000 in
theorem ok_sorts (T : Txt K mg a) : GFm P w K mg base 1 "_law_sorts" ["_law_e"] (sp_sorts K a base) := by
  refine gfm_of T.f_law_sorts sc_law_sorts (fun _ _ _ _ _ _ us hl => match us, hl with | [_], _ => rfl) (fun vs H Q E h => ?_) fun f cdv A outer s H vs Q hr hd h => ?_
  · obtain ⟨x, C, t, tb, z, rfl, _⟩ := h
    rfl
  · obtain ⟨x, C, t, tb, z, rfl, hx, ⟨ec, lk, b0, b1, b2, b3, b4, b5, b6, b7, b8, b9, k0, k1, k2, k3, k4, k5, k6, k7, k8, k9, hz⟩, q⟩ := h
    refine ⟨_, (pss_cons (ps_set (i := 1) sc_law_sorts.nd rfl (Or.inl rfl) (pe_lst pa_nil))
      (pss_cut (ps_expr (show PE _ _ (tBM K _ _ _ _) from pe_bm PySem.F.plainAttrs_list PySem.F.slot_list_append PySem.F.type_list_append mt_append (pv 1) (pa_c (pe_ix (show IxR _ (rIxL K) from ix_list) (pe_lst (pa_c pe_str (pa_c pe_str pa_nil))) (pe_callTy call_int1 (by rfl) T.b_int boot_int (pa_c (pe_callB call_isiX (by rfl) T.b_isinstance boot_isinstance (pa_c (pv 0) (pa_c (pe_glob (v := .ref a.Unknown) rfl T.x_Unknown.1 rfl) pa_nil))) pa_nil)) (fun _ _ => rfl)) pa_nil)))
      (pss_cut (ps_expr (show PE _ _ (tBM K _ _ _ _) from pe_bm PySem.F.plainAttrs_list PySem.F.slot_list_append PySem.F.type_list_append mt_append (pv 1) (pa_c (pe_ix (show IxR _ (rIxL K) from ix_list) (pe_lst (pa_c pe_str (pa_c pe_str pa_nil))) (pe_callTy call_int1 (by rfl) T.b_int boot_int (pa_c (pe_callB call_isiX (by rfl) T.b_isinstance boot_isinstance (pa_c (pv 0) (pa_c (pe_glob (v := .ref a.InUse) rfl T.x_InUse.1 rfl) pa_nil))) pa_nil)) (fun _ _ => rfl)) pa_nil)))
      (pss_cut (ps_expr (show PE _ _ (tBM K _ _ _ _) from pe_bm PySem.F.plainAttrs_list PySem.F.slot_list_append PySem.F.type_list_append mt_append (pv 1) (pa_c (pe_ix (show IxR _ (rIxL K) from ix_list) (pe_lst (pa_c pe_str (pa_c pe_str pa_nil))) (pe_callTy call_int1 (by rfl) T.b_int boot_int (pa_c (pe_callB call_isiX (by rfl) T.b_isinstance boot_isinstance (pa_c (pv 0) (pa_c (pe_glob (v := .ref a.BadName) rfl T.x_BadName.1 rfl) pa_nil))) pa_nil)) (fun _ _ => rfl)) pa_nil)))
      (pss_cut (ps_expr (show PE _ _ (tBM K _ _ _ _) from pe_bm PySem.F.plainAttrs_list PySem.F.slot_list_append PySem.F.type_list_append mt_append (pv 1) (pa_c (pe_ix (show IxR _ (rIxL K) from ix_list) (pe_lst (pa_c pe_str (pa_c pe_str pa_nil))) (pe_callTy call_int1 (by rfl) T.b_int boot_int (pa_c (pe_callB call_isiX (by rfl) T.b_isinstance boot_isinstance (pa_c (pv 0) (pa_c (pe_glob (v := .ref a.BadNumber) rfl T.x_BadNumber.1 rfl) pa_nil))) pa_nil)) (fun _ _ => rfl)) pa_nil)))
      (pss_cut (ps_expr (show PE _ _ (tBM K _ _ _ _) from pe_bm PySem.F.plainAttrs_list PySem.F.slot_list_append PySem.F.type_list_append mt_append (pv 1) (pa_c (pe_ix (show IxR _ (rIxL K) from ix_list) (pe_lst (pa_c pe_str (pa_c pe_str pa_nil))) (pe_callTy call_int1 (by rfl) T.b_int boot_int (pa_c (pe_callB call_isiX (by rfl) T.b_isinstance boot_isinstance (pa_c (pv 0) (pa_c (pe_glob (v := .ref a.TooMuch) rfl T.x_TooMuch.1 rfl) pa_nil))) pa_nil)) (fun _ _ => rfl)) pa_nil)))
      (pss_cut (ps_expr (show PE _ _ (tBM K _ _ _ _) from pe_bm PySem.F.plainAttrs_list PySem.F.slot_list_append PySem.F.type_list_append mt_append (pv 1) (pa_c (pe_ix (show IxR _ (rIxL K) from ix_list) (pe_lst (pa_c pe_str (pa_c pe_str pa_nil))) (pe_callTy call_int1 (by rfl) T.b_int boot_int (pa_c (pe_callB call_isiX (by rfl) T.b_isinstance boot_isinstance (pa_c (pv 0) (pa_c (pe_glob (v := .ref a.Full) rfl T.x_Full.1 rfl) pa_nil))) pa_nil)) (fun _ _ => rfl)) pa_nil)))
      (pss_cut (ps_expr (show PE _ _ (tBM K _ _ _ _) from pe_bm PySem.F.plainAttrs_list PySem.F.slot_list_append PySem.F.type_list_append mt_append (pv 1) (pa_c (pe_ix (show IxR _ (rIxL K) from ix_list) (pe_lst (pa_c pe_str (pa_c pe_str pa_nil))) (pe_callTy call_int1 (by rfl) T.b_int boot_int (pa_c (pe_callB call_isiX (by rfl) T.b_isinstance boot_isinstance (pa_c (pv 0) (pa_c (pe_glob (v := .ref a.NothingBack) rfl T.x_NothingBack.1 rfl) pa_nil))) pa_nil)) (fun _ _ => rfl)) pa_nil)))
      (pss_cut (ps_expr (show PE _ _ (tBM K _ _ _ _) from pe_bm PySem.F.plainAttrs_list PySem.F.slot_list_append PySem.F.type_list_append mt_append (pv 1) (pa_c (pe_ix (show IxR _ (rIxL K) from ix_list) (pe_lst (pa_c pe_str (pa_c pe_str pa_nil))) (pe_callTy call_int1 (by rfl) T.b_int boot_int (pa_c (pe_callB call_isiX (by rfl) T.b_isinstance boot_isinstance (pa_c (pv 0) (pa_c (pe_glob (v := .ref a.NoWidths) rfl T.x_NoWidths.1 rfl) pa_nil))) pa_nil)) (fun _ _ => rfl)) pa_nil)))
      (pss_cut (ps_expr (show PE _ _ (tBM K _ _ _ _) from pe_bm PySem.F.plainAttrs_list PySem.F.slot_list_append PySem.F.type_list_append mt_append (pv 1) (pa_c (pe_ix (show IxR _ (rIxL K) from ix_list) (pe_lst (pa_c pe_str (pa_c pe_str pa_nil))) (pe_callTy call_int1 (by rfl) T.b_int boot_int (pa_c (pe_callB call_isiX (by rfl) T.b_isinstance boot_isinstance (pa_c (pv 0) (pa_c (pe_glob (v := .ref a.BadRow) rfl T.x_BadRow.1 rfl) pa_nil))) pa_nil)) (fun _ _ => rfl)) pa_nil)))
      (pss_cut (ps_expr (show PE _ _ (tBM K _ _ _ _) from pe_bm PySem.F.plainAttrs_list PySem.F.slot_list_append PySem.F.type_list_append mt_append (pv 1) (pa_c (pe_ix (show IxR _ (rIxL K) from ix_list) (pe_lst (pa_c pe_str (pa_c pe_str pa_nil))) (pe_callTy call_int1 (by rfl) T.b_int boot_int (pa_c (pe_callB call_isiX (by rfl) T.b_isinstance boot_isinstance (pa_c (pv 0) (pa_c (pe_bltn (v := .ty "ValueError") rfl T.b_ValueError boot_ValueError rfl) pa_nil))) pa_nil)) (fun _ _ => rfl)) pa_nil)))
      (pss_one (ps_ret (pe_bm PySem.F.plainAttrs_str PySem.F.slot_str_join PySem.F.type_str_join mt_join pe_str (pa_c (pe_compC (cond := Mild) (psc := defScope s_law_sorts) (own := ["_law_sort"]) (frn := []) (fr := []) (by exact ⟨rfl, by decide +kernel, by decide +kernel, by decide +kernel, by decide +kernel, by decide +kernel⟩) rfl rfl (fun _ _ _ _ => hd) (go_name (by decide : 0 < 1)) (pi_listM (pv 1))
        (fun C s2 H2 fp => ⟨(pg_name (i := 0) (show (["_law_sort"] : List Str).Nodup by decide +kernel) rfl (Or.inl rfl)), (pif_one (pt_cmpR op_ne (pv 0) pe_str (nomark _))), (pv 0)⟩)) pa_nil))))))))))))))), ?_⟩
    refine ⟨by decide, fun l nl => ?_⟩
    have hl : (upd H l (.lst [])) l = some (.lst ((wordsB [b0, b1, b2, b3, b4, b5, b6, b7, b8, b9]).take 0 |>.map V.str)) := upd_same
    have sm : Same H (upd H l (.lst [])) := Same.upd nl
    generalize upd H l (.lst []) = H0 at hl sm
    dsimp only [gName, L2.start, List.set]
    refine ⟨fun σ' H' => σ' = [some (.ref x), some (.ref l)] ∧ H' l = some (.lst ((wordsB [b0, b1, b2, b3, b4, b5, b6, b7, b8, b9]).take 1 |>.map V.str)) ∧ Same H H', ?_, ?_⟩
    · refine ⟨_, rfl, .inl ⟨rfl, _, SqL.of hl⟩, (by show 2 ≤ sizeLine; decide), fun p np => ⟨_, rfl, x, C, t, tb, _, _, b0, rfl, rfl, (fun u z => z), hx, ec, lk, k0, .inr ⟨b0, rfl, p, _, _, _, rfl, rfl, SqL.of upd_same, at2, l, _, _, rfl, rfl, (upd_ne (ne_of_none hl np)).trans hl, (by show 0 < sizeLine; decide), rfl, ?_, same_upd2 sm np nl⟩⟩⟩
      rw [upd_same]
      cases b0 <;> rfl
    rintro σ1 H1 ⟨rfl, hl, sm⟩
    refine ⟨fun σ' H' => σ' = [some (.ref x), some (.ref l)] ∧ H' l = some (.lst ((wordsB [b0, b1, b2, b3, b4, b5, b6, b7, b8, b9]).take 2 |>.map V.str)) ∧ Same H H', ?_, ?_⟩
    · refine ⟨_, rfl, .inl ⟨rfl, _, SqL.of hl⟩, (by show 2 ≤ sizeLine; decide), fun p np => ⟨_, rfl, x, C, t, tb, _, _, b1, rfl, rfl, (fun u z => z), hx, ec, lk, k1, .inr ⟨b1, rfl, p, _, _, _, rfl, rfl, SqL.of upd_same, at2, l, _, _, rfl, rfl, (upd_ne (ne_of_none hl np)).trans hl, (by show 1 < sizeLine; decide), rfl, ?_, same_upd2 sm np nl⟩⟩⟩
      rw [upd_same]
      cases b1 <;> rfl
    rintro σ2 H2 ⟨rfl, hl, sm⟩
    refine ⟨fun σ' H' => σ' = [some (.ref x), some (.ref l)] ∧ H' l = some (.lst ((wordsB [b0, b1, b2, b3, b4, b5, b6, b7, b8, b9]).take 3 |>.map V.str)) ∧ Same H H', ?_, ?_⟩
    · refine ⟨_, rfl, .inl ⟨rfl, _, SqL.of hl⟩, (by show 2 ≤ sizeLine; decide), fun p np => ⟨_, rfl, x, C, t, tb, _, _, b2, rfl, rfl, (fun u z => z), hx, ec, lk, k2, .inr ⟨b2, rfl, p, _, _, _, rfl, rfl, SqL.of upd_same, at2, l, _, _, rfl, rfl, (upd_ne (ne_of_none hl np)).trans hl, (by show 2 < sizeLine; decide), rfl, ?_, same_upd2 sm np nl⟩⟩⟩
      rw [upd_same]
      cases b2 <;> rfl
    rintro σ3 H3 ⟨rfl, hl, sm⟩
    refine ⟨fun σ' H' => σ' = [some (.ref x), some (.ref l)] ∧ H' l = some (.lst ((wordsB [b0, b1, b2, b3, b4, b5, b6, b7, b8, b9]).take 4 |>.map V.str)) ∧ Same H H', ?_, ?_⟩
    · refine ⟨_, rfl, .inl ⟨rfl, _, SqL.of hl⟩, (by show 2 ≤ sizeLine; decide), fun p np => ⟨_, rfl, x, C, t, tb, _, _, b3, rfl, rfl, (fun u z => z), hx, ec, lk, k3, .inr ⟨b3, rfl, p, _, _, _, rfl, rfl, SqL.of upd_same, at2, l, _, _, rfl, rfl, (upd_ne (ne_of_none hl np)).trans hl, (by show 3 < sizeLine; decide), rfl, ?_, same_upd2 sm np nl⟩⟩⟩
      rw [upd_same]
      cases b3 <;> rfl
    rintro σ4 H4 ⟨rfl, hl, sm⟩
    refine ⟨fun σ' H' => σ' = [some (.ref x), some (.ref l)] ∧ H' l = some (.lst ((wordsB [b0, b1, b2, b3, b4, b5, b6, b7, b8, b9]).take 5 |>.map V.str)) ∧ Same H H', ?_, ?_⟩
    · refine ⟨_, rfl, .inl ⟨rfl, _, SqL.of hl⟩, (by show 2 ≤ sizeLine; decide), fun p np => ⟨_, rfl, x, C, t, tb, _, _, b4, rfl, rfl, (fun u z => z), hx, ec, lk, k4, .inr ⟨b4, rfl, p, _, _, _, rfl, rfl, SqL.of upd_same, at2, l, _, _, rfl, rfl, (upd_ne (ne_of_none hl np)).trans hl, (by show 4 < sizeLine; decide), rfl, ?_, same_upd2 sm np nl⟩⟩⟩
      rw [upd_same]
      cases b4 <;> rfl
    rintro σ5 H5 ⟨rfl, hl, sm⟩
    refine ⟨fun σ' H' => σ' = [some (.ref x), some (.ref l)] ∧ H' l = some (.lst ((wordsB [b0, b1, b2, b3, b4, b5, b6, b7, b8, b9]).take 6 |>.map V.str)) ∧ Same H H', ?_, ?_⟩
    · refine ⟨_, rfl, .inl ⟨rfl, _, SqL.of hl⟩, (by show 2 ≤ sizeLine; decide), fun p np => ⟨_, rfl, x, C, t, tb, _, _, b5, rfl, rfl, (fun u z => z), hx, ec, lk, k5, .inr ⟨b5, rfl, p, _, _, _, rfl, rfl, SqL.of upd_same, at2, l, _, _, rfl, rfl, (upd_ne (ne_of_none hl np)).trans hl, (by show 5 < sizeLine; decide), rfl, ?_, same_upd2 sm np nl⟩⟩⟩
      rw [upd_same]
      cases b5 <;> rfl
    rintro σ6 H6 ⟨rfl, hl, sm⟩
    refine ⟨fun σ' H' => σ' = [some (.ref x), some (.ref l)] ∧ H' l = some (.lst ((wordsB [b0, b1, b2, b3, b4, b5, b6, b7, b8, b9]).take 7 |>.map V.str)) ∧ Same H H', ?_, ?_⟩
    · refine ⟨_, rfl, .inl ⟨rfl, _, SqL.of hl⟩, (by show 2 ≤ sizeLine; decide), fun p np => ⟨_, rfl, x, C, t, tb, _, _, b6, rfl, rfl, (fun u z => z), hx, ec, lk, k6, .inr ⟨b6, rfl, p, _, _, _, rfl, rfl, SqL.of upd_same, at2, l, _, _, rfl, rfl, (upd_ne (ne_of_none hl np)).trans hl, (by show 6 < sizeLine; decide), rfl, ?_, same_upd2 sm np nl⟩⟩⟩
      rw [upd_same]
      cases b6 <;> rfl
    rintro σ7 H7 ⟨rfl, hl, sm⟩
    refine ⟨fun σ' H' => σ' = [some (.ref x), some (.ref l)] ∧ H' l = some (.lst ((wordsB [b0, b1, b2, b3, b4, b5, b6, b7, b8, b9]).take 8 |>.map V.str)) ∧ Same H H', ?_, ?_⟩
    · refine ⟨_, rfl, .inl ⟨rfl, _, SqL.of hl⟩, (by show 2 ≤ sizeLine; decide), fun p np => ⟨_, rfl, x, C, t, tb, _, _, b7, rfl, rfl, (fun u z => z), hx, ec, lk, k7, .inr ⟨b7, rfl, p, _, _, _, rfl, rfl, SqL.of upd_same, at2, l, _, _, rfl, rfl, (upd_ne (ne_of_none hl np)).trans hl, (by show 7 < sizeLine; decide), rfl, ?_, same_upd2 sm np nl⟩⟩⟩
      rw [upd_same]
      cases b7 <;> rfl
    rintro σ8 H8 ⟨rfl, hl, sm⟩
    refine ⟨fun σ' H' => σ' = [some (.ref x), some (.ref l)] ∧ H' l = some (.lst ((wordsB [b0, b1, b2, b3, b4, b5, b6, b7, b8, b9]).take 9 |>.map V.str)) ∧ Same H H', ?_, ?_⟩
    · refine ⟨_, rfl, .inl ⟨rfl, _, SqL.of hl⟩, (by show 2 ≤ sizeLine; decide), fun p np => ⟨_, rfl, x, C, t, tb, _, _, b8, rfl, rfl, (fun u z => z), hx, ec, lk, k8, .inr ⟨b8, rfl, p, _, _, _, rfl, rfl, SqL.of upd_same, at2, l, _, _, rfl, rfl, (upd_ne (ne_of_none hl np)).trans hl, (by show 8 < sizeLine; decide), rfl, ?_, same_upd2 sm np nl⟩⟩⟩
      rw [upd_same]
      cases b8 <;> rfl
    rintro σ9 H9 ⟨rfl, hl, sm⟩
    refine ⟨fun σ' H' => σ' = [some (.ref x), some (.ref l)] ∧ H' l = some (.lst ((wordsB [b0, b1, b2, b3, b4, b5, b6, b7, b8, b9]).take 10 |>.map V.str)) ∧ Same H H', ?_, ?_⟩
    · refine ⟨_, rfl, .inl ⟨rfl, _, SqL.of hl⟩, (by show 2 ≤ sizeLine; decide), fun p np => ⟨_, rfl, x, C, t, tb, _, _, b9, rfl, rfl, (fun u z => z), hx, ec, lk, k9, .inr ⟨b9, rfl, p, _, _, _, rfl, rfl, SqL.of upd_same, at2, l, _, _, rfl, rfl, (upd_ne (ne_of_none hl np)).trans hl, (by show 9 < sizeLine; decide), rfl, ?_, same_upd2 sm np nl⟩⟩⟩
      rw [upd_same]
      cases b9 <;> rfl
    rintro σ' H' ⟨rfl, hl, sm⟩
    rw [show (10 : Nat) = (wordsB [b0, b1, b2, b3, b4, b5, b6, b7, b8, b9]).length from rfl, List.take_length] at hl
    generalize hw : wordsB [b0, b1, b2, b3, b4, b5, b6, b7, b8, b9] = ws at hl hz
    have hws : ws.length = 10 := by rw [← hw]; rfl
    have hwl : ∀ y ∈ ws, y.length ≤ 12 := by
      rw [← hw]
      clear hw hws hl hz k0 k1 k2 k3 k4 k5 k6 k7 k8 k9 q sm hr hd
      intro y hy
      simp only [wordsB, List.mem_cons, List.not_mem_nil, or_false, List.getD_cons_zero, List.getD_cons_succ] at hy
      rcases hy with rfl | rfl | rfl | rfl | rfl | rfl | rfl | rfl | rfl | rfl <;> split <;> decide +kernel
    refine ⟨rfl, _, rfl, l, rfl, ⟨_, SqL.of hl⟩, ?_⟩
    refine comp_filter (jl_list (SqL.of hl)) (fun v => match v with | .str y => decide (y ≠ "") | _ => false) id (by rw [List.length_map, hws]; decide) ?_ ?_ ?_
    · intro v hv R r
      obtain ⟨y, hy, rfl⟩ := List.mem_map.mp hv
      refine ⟨_, rfl, rfl, _, rfl, ?_⟩
      rw [show (!decide (V.str y = V.str (Str.ofString ""))) = decide (y ≠ "") from by by_cases c : y = "" <;> simp [c]]
      exact r
    · intro v hv _ R r
      exact ⟨_, rfl, r⟩
    · intro p hp
      have e : (((ws.map V.str).filter fun v => match v with | .str y => decide (y ≠ "") | _ => false).map id) = (ws.filter fun x : Str => decide (x ≠ "")).map V.str := by
        rw [List.map_id, List.filter_map]
        rfl
      rw [e]
      have hn : (ws.filter fun x : Str => decide (x ≠ "")).length ≤ 10 := hws ▸ List.length_filter_le _ _
      have hs : ∀ l : List Str, (∀ y ∈ l, y.length ≤ 12) → (l.map (·.length)).sum ≤ 12 * l.length := by
        intro l
        induction l with
        | nil => intro _; exact Nat.le_refl _
        | cons y r ih =>
          intro h
          have h1 := h y (List.mem_cons_self)
          have h2 := ih fun z hz => h z (List.mem_cons_of_mem _ hz)
          simp only [List.map_cons, List.sum_cons, List.length_cons]
          omega
      have h3 := hs (ws.filter fun x : Str => decide (x ≠ "")) fun y hy => hwl y (List.mem_filter.mp hy).1
      refine ⟨_, p, _, rfl, rfl, SqL.of upd_same, by decide +kernel, by omega, ?_⟩
      rw [hz] at q
      exact q _ (sm.trans (Same.upd hp))
def sSig : Str := "abcdefghijklmnopqrstuvwxyz0123456789=ABCDEFGHIJKLMNOPQRSTUVWXYZ!#&()*+,-./:;<>?\x40[]^_`{|}~"
theorem sig_len : sSig.length = 89 := by decide +kernel
theorem sig_at {k : Int} (h0 : 0 ≤ k) (h1 : k < 89) : ∃ c, atI sSig.cps.toList k = some c ∧ c ≠ 32 := by
  have h : ∀ j : _root_.Fin 89, ∃ c, sSig.cps.toList[j.1]? = some c ∧ c ≠ 32 := by
    have : ∀ j : _root_.Fin 89, (match sSig.cps.toList[j.1]? with | some c => decide (c ≠ 32) | none => false) = true := by decide +kernel
    intro j
    have := this j
    cases e : sSig.cps.toList[j.1]? with
    | none => rw [e] at this; cases this
    | some c => rw [e] at this; exact ⟨c, rfl, of_decide_eq_true this⟩
  obtain ⟨n, rfl⟩ := Int.eq_ofNat_of_zero_le h0
  obtain ⟨c, e, hc⟩ := h ⟨n, by omega⟩
  exact ⟨c, atI_nat e, hc⟩
def sp_text : Sp := fun vs H Q _ => ∃ (x lo hi : Int), vs = [.int x, .int lo, .int hi] ∧ 0 ≤ x ∧ 0 ≤ lo ∧ lo ≤ hi ∧ hi ≤ 100 ∧ ∀ (z : Str) (H' : Hp), Same H H' → (z.length : Int) ≤ hi → 32 ∉ z.cps.toList → Q (.str z) H'
set_option maxHeartbeats 8000000 in
theorem ok_text (T : Txt K mg a) : GFn P w K mg base 1 "_law_text" ["_law_word", "_law_low", "_law_high"] sp_text := by
  refine gfn_of T.f_law_text sc_law_text (fun _ _ _ _ _ _ us hl => match us, hl with | [_, _, _], _ => rfl) (fun vs H Q E h => ?_) fun f cdv A outer s H vs Q E hr h => ?_
  · obtain ⟨x, lo, hi, rfl, _⟩ := h
    rfl
  · obtain ⟨x, lo, hi, rfl, x0, l0, lh, h100, q⟩ := h
    refine ⟨_, (pss_cons (ps_set (i := 3) sc_law_text.nd rfl (Or.inl rfl) pe_str)
      (pss_cons (ps_set (i := 4) sc_law_text.nd rfl (Or.inl rfl) (pe_op op_fdiv (pv 0) pe_int))
      (pss_cons (ps_set (i := 5) sc_law_text.nd rfl (Or.inl rfl) pe_str)
      (pss_cons (ps_for PassesOwn.never rfl (pi_range1 rfl T.b_range (pa_c (pe_op op_add (pv 1) (pe_op op_mod (pv 0) (pe_op op_sub (pe_op op_add (pv 2) pe_int) (pv 1)))) pa_nil)) (pg_name (i := 6) sc_law_text.nd rfl (Or.inl rfl))
      (pss_cons (ps_set (i := 5) sc_law_text.nd rfl (Or.inl rfl) (pe_op op_add_str (pv 5) (pe_ix ix_str (pv 3) (pe_op op_mod (pv 4) (pe_ix (show IxR _ (rIxL K) from ix_list) (pe_lst (pa_c pe_int (pa_c (pe_callB (show CallR _ _ (rLen K) from call_lenK) (by rfl) T.b_len boot_len (pa_c (pv 3) pa_nil)) pa_nil))) (pe_op op_mod (pe_op op_fdiv (pv 0) pe_int) pe_int) (fun _ _ => rfl))) (fun _ _ => rfl))))
      (pss_one (ps_set (i := 4) sc_law_text.nd rfl (Or.inl rfl) (pe_op op_add (pe_op op_fdiv (pv 4) pe_int) (pv 0))))))
      (pss_one (ps_ret (pv 5))))))), ?_⟩
    refine ⟨_, rfl, _, _, rfl, rfl, ⟨by decide, by decide⟩, ?_⟩
    have m0 := Int.emod_nonneg x (show hi + 1 - lo ≠ 0 by omega)
    have m1 := Int.emod_lt_of_pos x (show 0 < hi + 1 - lo by omega)
    refine ⟨_, rfl, _, rfl, _, rfl, _, _, rfl, rfl, _, rfl, _, _, rfl, rfl, _, _, rfl, rfl, (by show (0 : Int) < hi + 1 - lo; omega), _, _, rfl, rfl, _, rfl, by omega, by omega, ?_⟩
    refine for_items (xs := rangeV 0 (lo + x % (hi + 1 - lo)).toNat) (fun i σ' H' => ∃ (z : Str) (lf : Int) (v6 : Option V), σ' = [some (.int x), some (.int lo), some (.int hi), some (.str sSig), some (.int lf), some (.str z), v6] ∧ Same H H' ∧ z.length = i ∧ 32 ∉ z.cps.toList) ⟨"", _, none, rfl, Same.refl _, rfl, by decide +kernel⟩ (fun i σ' H' _ _ => jl_range) ?_ ?_
    · rintro i y σ' H' hi2 ⟨z, lf, v6, rfl, sm, hl, hs⟩
      obtain ⟨hin, rfl⟩ := rangeV_at hi2
      obtain ⟨md, hmd, hat⟩ : ∃ md : Int, (md = 26 ∨ md = 89) ∧ atI ([.int 26, .int (sSig.length : Nat)] : List V) (x / 13 % 2) = some (.int md) := by
        have h2 : x / 13 % 2 = 0 ∨ x / 13 % 2 = 1 := by omega
        rw [sig_len]
        rcases h2 with e | e <;> rw [e]
        · exact ⟨26, .inl rfl, rfl⟩
        · exact ⟨89, .inr rfl, rfl⟩
      have d0 := Int.emod_nonneg lf (show md ≠ 0 by omega)
      have d1 := Int.emod_lt_of_pos lf (show 0 < md by omega)
      obtain ⟨c, hc, nc⟩ := sig_at (k := lf % md) d0 (by omega)
      have sl : sSig.length ≤ sizeLine := by rw [sig_len]; decide
      refine ⟨_, rfl, _, rfl, _, rfl, _, rfl, _, _, rfl, ⟨sl, rfl⟩, (by show 2 ≤ sizeLine; decide), fun l nl => ?_⟩
      refine ⟨_, rfl, _, _, rfl, rfl, ⟨by decide, by decide⟩, _, _, rfl, rfl, (by show (0 : Int) < 2; decide), l, _, _, _, rfl, rfl, SqL.of upd_same, hat, _, _, rfl, rfl, (by show (0 : Int) < md; omega), sSig, _, c, rfl, rfl, sl, hc, _, _, rfl, rfl, ?_, ?_⟩
      · show z.length + 1 ≤ sizeLine
        exact Nat.le_of_lt (size1000 (by omega))
      refine ⟨_, rfl, _, _, rfl, rfl, ⟨by decide, by decide⟩, _, rfl, _, _, rfl, rfl, _, _, _, rfl, sm.trans (Same.upd nl), ?_, ?_⟩
      · rw [show (z ++ (⟨#[c]⟩ : Str)).length = (z ++ (⟨#[c]⟩ : Str)).cps.toList.length by simp [Str.length], str_app, List.length_append, show z.cps.toList.length = z.length by simp [Str.length], hl]
        rfl
      · rw [str_app]
        intro z2
        rcases List.mem_append.mp z2 with z2 | z2
        · exact hs z2
        · exact nc (List.mem_singleton.mp z2).symm
    · rintro σ' H' ⟨z, lf, v6, rfl, sm, hl, hs⟩
      rw [rangeV_len] at hl
      exact ⟨_, rfl, q z H' sm (by omega) hs⟩
def sTen : Str := "0123456789"
theorem ten_at (m : Int) : ∃ c, atI sTen.cps.toList (m % 10) = some c ∧ figC c = true := by
  have h : ∀ j : _root_.Fin 10, (match sTen.cps.toList[j.1]? with | some c => figC c | none => false) = true := by decide +kernel
  have e : m % 10 = (((m % 10).toNat : Nat) : Int) := by omega
  have := h ⟨(m % 10).toNat, by omega⟩
  cases e2 : sTen.cps.toList[(m % 10).toNat]? with
  | none => rw [e2] at this; cases this
  | some c => rw [e2] at this; exact ⟨c, by rw [e]; exact atI_nat e2, this⟩
def sp_figures : Sp := fun vs H Q _ => ∃ (x : Int), vs = [.int x] ∧ 0 ≤ x ∧ ∀ (z : Str), isNumF z = true → Q (.str z) H
set_option maxHeartbeats 8000000 in
theorem ok_figures (T : Txt K mg a) : GFn P w K mg base 1 "_law_figures" ["_law_word"] sp_figures := by
  refine gfn_of T.f_law_figures sc_law_figures (fun _ _ _ _ _ _ us hl => match us, hl with | [_], _ => rfl) (fun vs H Q E h => ?_) fun f cdv A outer s H vs Q E hr h => ?_
  · obtain ⟨x, rfl, _⟩ := h
    rfl
  · obtain ⟨x, rfl, x0, q⟩ := h
    refine ⟨_, (pss_cons (ps_set (i := 1) sc_law_figures.nd rfl (Or.inl rfl) pe_str)
      (pss_cons (ps_set (i := 2) sc_law_figures.nd rfl (Or.inl rfl) (pe_op op_fdiv (pv 0) pe_int))
      (pss_cons (ps_for PassesOwn.never rfl (pi_range1 rfl T.b_range (pa_c (pe_op op_add pe_int (pe_op op_mod (pv 0) pe_int)) pa_nil)) (pg_name (i := 3) sc_law_figures.nd rfl (Or.inl rfl))
      (pss_cons (ps_set (i := 1) sc_law_figures.nd rfl (Or.inl rfl) (pe_op op_add_str (pv 1) (pe_ix ix_str pe_str (pe_op op_mod (pv 2) pe_int) (fun _ _ => rfl))))
      (pss_one (ps_set (i := 2) sc_law_figures.nd rfl (Or.inl rfl) (pe_op op_fdiv (pv 2) pe_int)))))
      (pss_one (ps_ret (pv 1)))))), ?_⟩
    refine ⟨_, rfl, _, _, rfl, rfl, ⟨by decide, by decide⟩, ?_⟩
    refine ⟨_, rfl, _, _, rfl, rfl, (by show (0 : Int) < 6; decide), _, _, rfl, rfl, _, rfl, by omega, by omega, ?_⟩
    refine for_items (xs := rangeV 0 (1 + x % 6).toNat) (fun i σ' H' => ∃ (z : Str) (lf : Int) (v3 : Option V), σ' = [some (.int x), some (.str z), some (.int lf), v3] ∧ H' = H ∧ z.length = i ∧ z.cps.toList.all figC = true) ⟨"", _, none, rfl, rfl, rfl, by decide +kernel⟩ (fun i σ' H' _ _ => jl_range) ?_ ?_
    · rintro i y σ' H' hi2 ⟨z, lf, v3, rfl, rfl, hl, hs⟩
      obtain ⟨hin, rfl⟩ := rangeV_at hi2
      obtain ⟨c, hc, nc⟩ := ten_at lf
      have sl : sTen.length ≤ sizeLine := by decide +kernel
      refine ⟨_, rfl, _, rfl, _, _, rfl, rfl, (by show (0 : Int) < 10; decide), sTen, _, c, rfl, rfl, sl, hc, _, _, rfl, rfl, ?_, ?_⟩
      · show z.length + 1 ≤ sizeLine
        exact Nat.le_of_lt (size1000 (by omega))
      refine ⟨_, rfl, _, _, rfl, rfl, ⟨by decide, by decide⟩, _, _, _, rfl, rfl, ?_, ?_⟩
      · rw [show (z ++ (⟨#[c]⟩ : Str)).length = (z ++ (⟨#[c]⟩ : Str)).cps.toList.length by simp [Str.length], str_app, List.length_append, show z.cps.toList.length = z.length by simp [Str.length], hl]
        rfl
      · rw [str_app, List.all_append, hs]
        show (true && (figC c && true)) = true
        rw [nc]; rfl
    · rintro σ' H' ⟨z, lf, v3, rfl, rfl, hl, hs⟩
      rw [rangeV_len] at hl
      refine ⟨_, rfl, q z ?_⟩
      unfold isNumF
      rw [hs, decide_eq_true (by omega), decide_eq_true (by omega)]
      rfl
def sp_forms : Sp := fun vs H Q _ => vs = [] ∧ ∀ (p : Addr) (ts : List Addr) (H' : Hp), Same H H' → H' p = some (.lst (ts.map V.ref)) → F2 (fun t f => H' t = some (.tup [.str f.1, .str f.2])) ts formsK → Q (.ref p) H'
theorem f2_map {α β γ : Type} {R : α → γ → Prop} {g : β → γ} : ∀ {as : List α} {bs : List β}, F2 R as (bs.map g) → F2 (fun a b => R a (g b)) as bs
  | _, [], h => by cases h; exact .nil
  | _, b :: bs, h => by cases h with | cons h1 h2 => exact .cons h1 (f2_map h2)
def formsV : List (List V) := [[.str "member", .str "w"], [.str "plain", .str "wwnnn"], [.str "link", .str "wwwn"], [.str "top", .str "wn"], [.str "strike", .str "sw"], [.str "back", .str ""], [.str "widths", .str ""], [.str "chain", .str "w"], [.str "why", .str ""], [.str "slack", .str "w"], [.str "cost", .str "w"]]
set_option maxHeartbeats 8000000 in
theorem ok_forms (T : Txt K mg a) : GFn P w K mg base 1 "_law_forms" [] sp_forms := by
  refine gfn_of T.f_law_forms sc_law_forms (fun _ _ _ _ _ _ us hl => match us, hl with | [], _ => rfl) (fun vs H Q E h => ?_) fun f cdv A outer s H vs Q E hr h => ?_
  · obtain ⟨rfl, _⟩ := h
    rfl
  · obtain ⟨rfl, q⟩ := h
    refine ⟨tRet (tLst (tRows formsV)), ?a, ?b⟩
    case a =>
      refine pss_one ?_
      refine ps_ret ?_
      refine pe_lst ?_
      refine pa_rows ?_
      rfl
    dsimp only [tRet, tLst]
    refine rows_of (fun v hv => ?_) fun ts H1 s1 f1 => ?_
    · have hv : v ∈ formsK.map fun f : Str × Str => [V.str f.1, V.str f.2] := hv
      obtain ⟨f, _, rfl⟩ := List.mem_map.mp hv
      show 2 ≤ sizeLine
      decide
    have f1 : F2 (fun t v => H1 t = some (.tup v)) ts (formsK.map fun f : Str × Str => [V.str f.1, V.str f.2]) := f1
    refine ⟨?_, fun p np => ?_⟩
    · rw [List.length_map, f1.length]
      show 11 ≤ sizeLine
      decide
    · have st := Same.upd (o := .lst (ts.map V.ref)) np
      exact q p ts _ (s1.trans st) upd_same ((f2_map f1).imp fun t f e => st _ _ e)
theorem one_n (c : Nat) : decide (V.str ⟨#[c]⟩ = V.str "n") = decide (c = 110) := by
  rw [decide_eq_decide, show ("n" : Str) = ⟨#[110]⟩ by decide +kernel]
  exact ⟨fun e => by cases e; rfl, fun e => by rw [e]⟩
theorem one_s (c : Nat) : decide (V.str ⟨#[c]⟩ = V.str "s") = decide (c = 115) := by
  rw [decide_eq_decide, show ("s" : Str) = ⟨#[115]⟩ by decide +kernel]
  exact ⟨fun e => by cases e; rfl, fun e => by rw [e]⟩
theorem eqS (x y : Str) : decide (V.str x = V.str y) = decide (x = y) := decide_eq_decide.mpr ⟨fun e => V.str.inj e, fun e => by rw [e]⟩
theorem find_one : ∀ f ∈ formsK, formsK.find? (fun g => decide (g.1 = f.1)) = some f := by decide +kernel
theorem ten_in (c : Nat) : (!(Builtin.Str.occurrences sTen ⟨#[c]⟩ 0 sTen.length 1).isEmpty) = figC c := by
  rw [StrLaws.found_one, show sTen.cps.toList = [48, 49, 50, 51, 52, 53, 54, 55, 56, 57] by decide +kernel]
  unfold figC
  rw [Bool.eq_iff_iff]
  simp only [decide_eq_true_eq, Bool.and_eq_true, List.mem_cons, List.not_mem_nil, or_false]
  omega
def sp_fitsL : Sp := fun vs H Q _ => ∃ (p : Addr) (w0 : Str) (r : List Str), vs = [.ref p] ∧ H p = some (.lst ((w0 :: r).map V.str)) ∧ r.length ≤ 1000 ∧ (∀ z ∈ r, z.length ≤ 1000) ∧ ∀ H', Same H H' → Q (.bl (lawFits w0 r)) H'
set_option maxHeartbeats 8000000 in
theorem ok_fitsL (T : Txt K mg a) : GFn P w K mg base 2 "_law_fits" ["_law_parts"] sp_fitsL := by
  have c_law_forms : GFn P w K mg base 1 "_law_forms" [] sp_forms := ok_forms T
  refine gfn_of T.f_law_fits sc_law_fits (fun _ _ _ _ _ _ us hl => match us, hl with | [_], _ => rfl) (fun vs H Q E h => ?_) fun f cdv A outer s H vs Q E hr h => ?_
  · obtain ⟨p, w0, r, rfl, _⟩ := h
    rfl
  · obtain ⟨p, w0, r, rfl, hp, rl, rs, q⟩ := h
    refine ⟨_, (pss_cons (ps_set (i := 1) sc_law_fits.nd rfl (Or.inl rfl) pe_str)
      (pss_cons (ps_set (i := 2) sc_law_fits.nd rfl (Or.inl rfl) pe_bl)
      (pss_cons (ps_for PassesOwn.never rfl (pi_list (pe_callF0 c_law_forms (hr.mono (by decide)))) (pg_tup rfl (pgs_cons (pg_name (i := 3) sc_law_fits.nd rfl (Or.inl rfl)) (pgs_cons (pg_name (i := 4) sc_law_fits.nd rfl (Or.inl rfl)) pgs_nil)))
      (pss_one (ps_if (pt_cmpR op_eq (pv 3) (pe_ix (show IxR _ (rIxL K) from ix_list) (pv 0) pe_int (fun _ _ => rfl)) (nomark _)) (pss_cons (ps_set (i := 1) sc_law_fits.nd rfl (Or.inl rfl) (pv 4))
      (pss_one (ps_set (i := 2) sc_law_fits.nd rfl (Or.inl rfl) pe_bl))) pss_nil)))
      (pss_cons (ps_if (PW.pt (pw_or (pt_not (pt_truth (pv 2) (fun _ => rfl))) (pw_or1 (pt_cmpR op_ne (pe_callB (show CallR _ _ (rLen K) from call_lenK) (by rfl) T.b_len boot_len (pa_c (pv 0) pa_nil)) (pe_op op_add (pe_callB (show CallR _ _ (rLen K) from call_lenK) (by rfl) T.b_len boot_len (pa_c (pv 1) pa_nil)) pe_int) (nomark _))))) (pss_one (ps_ret pe_bl)) pss_nil)
      (pss_cons (ps_for PassesOwn.never rfl (pi_range1 rfl T.b_range (pa_c (pe_callB (show CallR _ _ (rLen K) from call_lenK) (by rfl) T.b_len boot_len (pa_c (pv 1) pa_nil)) pa_nil)) (pg_name (i := 5) sc_law_fits.nd rfl (Or.inl rfl))
      (pss_cons (ps_set (i := 6) sc_law_fits.nd rfl (Or.inl rfl) (pe_ix (show IxR _ (rIxL K) from ix_list) (pv 0) (pe_op op_add (pv 5) pe_int) (fun _ _ => rfl)))
      (pss_cons (ps_if (PW.pt (pw_and (pt_cmpR op_eq (pe_ix ix_str (pv 1) (pv 5) (fun _ _ => rfl)) pe_str (nomark _)) (pw_and1 (pt_cmpR (show OpR _ _ (rIn K true) from op_notIn_seq) (pv 6) (pe_tup (pa_c pe_str (pa_c pe_str (pa_c pe_str pa_nil)))) (by with_unfolding_all rfl))))) (pss_one (ps_ret pe_bl)) pss_nil)
      (pss_cons (ps_if (PW.pt (pw_and (pt_cmpR op_eq (pe_ix ix_str (pv 1) (pv 5) (fun _ _ => rfl)) pe_str (nomark _)) (pw_and1 (PW.pt (pw_or (pt_cmpR op_lt (pe_callB (show CallR _ _ (rLen K) from call_lenK) (by rfl) T.b_len boot_len (pa_c (pv 6) pa_nil)) pe_int (nomark _)) (pw_or1 (pt_cmpR op_gt (pe_callB (show CallR _ _ (rLen K) from call_lenK) (by rfl) T.b_len boot_len (pa_c (pv 6) pa_nil)) pe_int (nomark _)))))))) (pss_one (ps_ret pe_bl)) pss_nil)
      (pss_one (ps_if (pt_cmpR op_eq (pe_ix ix_str (pv 1) (pv 5) (fun _ _ => rfl)) pe_str (nomark _)) (pss_one (ps_for PassesOwn.never rfl (pi_str (pv 6)) (pg_name (i := 7) sc_law_fits.nd rfl (Or.inl rfl))
      (pss_one (ps_if (pt_cmpR op_notIn_str (pv 7) pe_str (by with_unfolding_all rfl)) (pss_one (ps_ret pe_bl)) pss_nil)))) pss_nil))))))
      (pss_one (ps_ret pe_bl))))))), ?_⟩
    refine ⟨rfl, fun pf ts H1 s1 hpf hF => ⟨pf, rfl, ⟨_, SqL.of hpf⟩, ?_⟩⟩
    have hp1 := s1 _ _ hp
    have tl := hF.length
    have a0 : atI ((w0 :: r).map V.str) 0 = some (.str w0) := atI_nat (j := 0) rfl
    refine for_items (xs := ts.map V.ref) (fun i σ' H' => ∃ (so : Str) (kn : Bool) (v3 v4 : Option V), σ' = [some (.ref p), some (.str so), some (.bl kn), v3, v4, none, none, none] ∧ H' = H1 ∧ ((kn = false ∧ ∀ f ∈ formsK.take i, f.1 ≠ w0) ∨ (kn = true ∧ ∃ f ∈ formsK, f.1 = w0 ∧ so = f.2))) ⟨"", false, none, none, rfl, rfl, .inl ⟨rfl, fun f hf => by cases hf⟩⟩ (fun i σ' H' _ ⟨_, _, _, _, _, e, _⟩ => by rw [e]; exact jl_list (SqL.of hpf)) ?_ ?_
    · rintro i x σ' H' hi ⟨so, kn, v3, v4, rfl, rfl, inv⟩
      rw [List.getElem?_map] at hi
      cases et : ts[i]? with
      | none => rw [et] at hi; cases hi
      | some t =>
        rw [et] at hi
        cases hi
        obtain ⟨fs, hfs, ht⟩ := hF.get et
        have hm := List.mem_of_getElem? hfs
        have tk : formsK.take (i + 1) = formsK.take i ++ [fs] := by rw [List.take_add_one, hfs]; rfl
        refine ⟨t, _, rfl, SqT.of ht, rfl, _, _, rfl, _, _, rfl, rfl, ?_⟩
        refine ⟨_, rfl, _, rfl, p, _, _, _, rfl, rfl, SqL.of hp1, a0, rfl, _, rfl, ?_⟩
        rw [eqS]
        by_cases c : fs.1 = w0
        · rw [decide_eq_true c]
          exact iteT ⟨_, rfl, fs.2, true, _, _, rfl, rfl, .inr ⟨rfl, fs, hm, c, rfl⟩⟩
        · rw [decide_eq_false c]
          refine iteF ⟨so, kn, _, _, rfl, rfl, ?_⟩
          rcases inv with ⟨e, hn⟩ | inv
          · refine .inl ⟨e, fun f hf => ?_⟩
            rw [tk] at hf
            rcases List.mem_append.mp hf with hf | hf
            · exact hn f hf
            · rw [List.mem_singleton.mp hf]; exact c
          · exact .inr inv
    rintro σ1 H2 ⟨so, kn, v3, v4, rfl, rfl, inv⟩
    rw [List.length_map, tl, List.take_length] at inv
    have q' := q _ s1
    rcases inv with ⟨rfl, hn⟩ | ⟨rfl, f, hf, ef, rfl⟩
    · rw [(fits_none r hn).1] at q'
      exact ⟨_, rfl, _, rfl, iteT (iteT q')⟩
    have e1 := find_one f hf
    rw [ef] at e1
    have eL : lawFits w0 r = (decide (r.length = f.2.cps.toList.length) && (f.2.cps.toList.zip r).all fun x => chk x.1 x.2) := by unfold lawFits; rw [e1]
    rw [eL] at q'
    obtain ⟨cs, ecs⟩ : ∃ cs, cs = f.2.cps.toList := ⟨_, rfl⟩
    have cl : cs.length = f.2.length := by rw [ecs]; simp [Str.length]
    have cl5 : cs.length ≤ 5 := by rw [ecs]; exact (show ∀ f ∈ formsK, f.2.cps.toList.length ≤ 5 by decide +kernel) _ hf
    have ccs : ∀ c ∈ cs, c = 119 ∨ c = 110 ∨ c = 115 := by rw [ecs]; exact (show ∀ f ∈ formsK, ∀ c ∈ f.2.cps.toList, c = 119 ∨ c = 110 ∨ c = 115 by decide +kernel) _ hf
    have sol : f.2.length ≤ sizeLine := Nat.le_of_lt (size1000 (by omega))
    rw [← ecs] at q'
    refine ⟨_, rfl, _, rfl, iteF ⟨_, rfl, _, _, rfl, .inl ⟨_, SqL.of hp1, rfl⟩, _, rfl, _, _, rfl, ⟨sol, rfl⟩, _, _, rfl, rfl, rfl, _, rfl, ?_⟩⟩
    have el : (!decide (V.int (((w0 :: r).map V.str).length : Nat) = V.int ((f.2.length : Nat) + 1))) = !decide (r.length = cs.length) := by
      congr 1
      rw [decide_eq_decide, List.length_map, List.length_cons, ← cl]
      exact ⟨fun e => by have := V.int.inj e; omega, fun e => by rw [e]; rfl⟩
    rw [el]
    by_cases hl : r.length = cs.length
    rotate_left
    · rw [decide_eq_false hl] at q' ⊢
      exact iteT q'
    rw [decide_eq_true hl, Bool.true_and] at q'
    rw [decide_eq_true hl]
    refine iteF ⟨_, rfl, _, _, rfl, ⟨sol, rfl⟩, _, rfl, by omega, by omega, ?_⟩
    rw [Int.toNat_natCast]
    refine for_items (xs := rangeV 0 f.2.length) (fun i σ' H' => ∃ (v5 v6 v7 : Option V), σ' = [some (.ref p), some (.str f.2), some (.bl true), v3, v4, v5, v6, v7] ∧ Same H2 H' ∧ ((cs.zip r).take i).all (fun x => chk x.1 x.2) = true) ⟨none, none, none, rfl, Same.refl _, rfl⟩ (fun i σ' H' _ _ => jl_range) ?_ ?_
    · rintro i y σ' H' hi2 ⟨v5, v6, v7, rfl, sm, hall⟩
      obtain ⟨hin, rfl⟩ := rangeV_at hi2
      obtain ⟨c, hc⟩ : ∃ c, cs[i]? = some c := ⟨_, List.getElem?_eq_getElem (by omega)⟩
      obtain ⟨z, hz⟩ : ∃ z, r[i]? = some z := ⟨_, List.getElem?_eq_getElem (by omega)⟩
      have hcm := ccs c (List.mem_of_getElem? hc)
      have zl := rs z (List.mem_of_getElem? hz)
      have atc : atI f.2.cps.toList (0 + (i : Nat)) = some c := by rw [Int.zero_add, ← ecs]; exact atI_nat hc
      have hcz : (cs.zip r)[i]? = some (c, z) := List.getElem?_zip_eq_some.mpr ⟨hc, hz⟩
      have tk : (cs.zip r).take (i + 1) = (cs.zip r).take i ++ [(c, z)] := by rw [List.take_add_one, hcz]; rfl
      have bad : chk c z = false → ∀ H'', Same H2 H'' → Q (.bl false) H'' := fun hb H'' s' => by
        have := q H'' (s1.trans s')
        rw [eL, ← ecs, decide_eq_true hl, Bool.true_and] at this
        rw [show (cs.zip r).all (fun x => chk x.1 x.2) = false from by
          rw [List.all_eq_false]
          exact ⟨(c, z), List.mem_of_getElem? hcz, by rw [hb]; decide⟩] at this
        exact this
      have good : chk c z = true → ((cs.zip r).take (i + 1)).all (fun x => chk x.1 x.2) = true := fun hg => by
        rw [tk, List.all_append, hall]
        show (true && (chk c z && true)) = true
        rw [hg]; rfl
      have ap : atI ((w0 :: r).map V.str) (0 + (i : Nat) + 1) = some (.str z) := by
        rw [show (0 + (i : Nat) + 1 : Int) = ((i + 1 : Nat) : Int) by omega]
        exact atI_nat (by rw [List.getElem?_map, List.getElem?_cons_succ, hz]; rfl)
      refine ⟨_, rfl, _, rfl, _, _, rfl, rfl, p, _, _, _, rfl, rfl, SqL.of (sm _ _ hp1), ap, ?_⟩
      dsimp only [gName, L2.start, List.set]
      rcases hcm with rfl | rfl | rfl
      · refine ⟨_, rfl, _, rfl, f.2, _, 119, rfl, rfl, sol, atc, rfl, _, rfl, ?_⟩
        rw [one_s]
        refine iteF (iteF ⟨_, rfl, _, rfl, f.2, _, 119, rfl, rfl, sol, atc, rfl, _, rfl, ?_⟩)
        rw [one_n]
        refine iteF (iteF ⟨_, rfl, _, rfl, f.2, _, 119, rfl, rfl, sol, atc, rfl, _, rfl, ?_⟩)
        rw [one_n]
        exact iteF ⟨_, _, _, rfl, sm, good rfl⟩
      · refine ⟨_, rfl, _, rfl, f.2, _, 110, rfl, rfl, sol, atc, rfl, _, rfl, ?_⟩
        rw [one_s]
        refine iteF (iteF ⟨_, rfl, _, rfl, f.2, _, 110, rfl, rfl, sol, atc, rfl, _, rfl, ?_⟩)
        rw [one_n]
        have zs : z.length ≤ sizeLine := Nat.le_of_lt (size1000 zl)
        refine iteT ⟨_, rfl, _, _, rfl, ⟨zs, rfl⟩, _, _, rfl, rfl, _, rfl, ?_⟩
        rw [chk_n] at bad good
        by_cases l1 : (z.length : Int) < 1
        · rw [decide_eq_true l1]
          exact iteT (iteT (bad (by unfold isNumF; rw [decide_eq_false (by omega)]; rfl) _ sm))
        rw [decide_eq_false l1]
        refine iteF ⟨_, rfl, _, _, rfl, ⟨zs, rfl⟩, _, _, rfl, rfl, _, rfl, ?_⟩
        by_cases l2 : (6 : Int) < z.length
        · rw [decide_eq_true l2]
          exact iteT (bad (by unfold isNumF; rw [decide_eq_false (show ¬ (z.length : Int) ≤ 6 by omega), Bool.and_false]; rfl) _ sm)
        rw [decide_eq_false l2]
        refine iteF ⟨_, rfl, _, rfl, f.2, _, 110, rfl, rfl, sol, atc, rfl, _, rfl, ?_⟩
        rw [one_n]
        have eN : isNumF z = z.cps.toList.all figC := by unfold isNumF; rw [decide_eq_true (show (1 : Int) ≤ z.length by omega), decide_eq_true (show (z.length : Int) ≤ 6 by omega)]; rfl
        refine iteT ⟨_, rfl, _, rfl, ?_⟩
        refine for_items (xs := signsV z) (fun j σ' H3 => ∃ v7 : Option V, σ' = [some (.ref p), some (.str f.2), some (.bl true), v3, v4, some (.int (0 + (i : Nat))), some (.str z), v7] ∧ H3 = H' ∧ (z.cps.toList.take j).all figC = true) ⟨v7, rfl, rfl, rfl⟩ (fun j σ' H' _ _ => jl_str) ?_ ?_
        · rintro j x σ' H3 hj ⟨v8, rfl, rfl, ha⟩
          obtain ⟨c, hc2, rfl⟩ : ∃ c, z.cps.toList[j]? = some c ∧ x = V.str ⟨#[c]⟩ := by
            unfold signsV at hj
            rw [List.getElem?_map] at hj
            cases e : z.cps.toList[j]? with
            | none => rw [e] at hj; cases hj
            | some c => rw [e] at hj; exact ⟨c, rfl, (Option.some.inj hj).symm⟩
          refine ⟨_, rfl, _, sTen, rfl, rfl, _, rfl, ?_⟩
          rw [ten_in]
          cases hg : figC c with
          | false =>
            refine iteT (bad ?_ _ sm)
            rw [eN, List.all_eq_false]
            exact ⟨c, List.mem_of_getElem? hc2, by rw [hg]; decide⟩
          | true =>
            refine iteF ⟨_, rfl, rfl, ?_⟩
            rw [List.take_add_one, hc2, List.all_append, ha]
            show (true && (figC c && true)) = true
            rw [hg]; rfl
        · rintro σ' H3 ⟨v8, rfl, rfl, ha⟩
          refine ⟨_, _, _, rfl, sm, good ?_⟩
          rw [eN]
          unfold signsV at ha
          rw [List.length_map, List.take_length] at ha
          exact ha
      · refine ⟨_, rfl, _, rfl, f.2, _, 115, rfl, rfl, sol, atc, rfl, _, rfl, ?_⟩
        rw [one_s]
        refine iteT ⟨_, rfl, (by show 3 ≤ sizeLine; decide), fun l3 n3 => ?_⟩
        have st := sm.trans (Same.upd (o := .tup [.str "member", .str "demand", .str "top"]) n3)
        refine ⟨l3, three.map V.str, rfl, .inr (SqT.of upd_same), rfl, rfl, _, rfl, ?_⟩
        show if (!inV (.str z) (three.map V.str)) = true then _ else _
        rw [inV_str]
        have ec : chk 115 z = decide (z ∈ three) := by unfold chk; simp
        rw [ec] at bad good
        by_cases hm : z ∈ three
        · rw [decide_eq_true hm] at good ⊢
          refine iteF ⟨_, rfl, _, rfl, f.2, _, 115, rfl, rfl, sol, atc, rfl, _, rfl, ?_⟩
          rw [one_n]
          refine iteF (iteF ⟨_, rfl, _, rfl, f.2, _, 115, rfl, rfl, sol, atc, rfl, _, rfl, ?_⟩)
          rw [one_n]
          exact iteF ⟨_, _, _, rfl, st, good rfl⟩
        · rw [decide_eq_false hm] at bad ⊢
          exact iteT (bad rfl _ st)
    · rintro σ' H' ⟨v5, v6, v7, rfl, sm, hall⟩
      rw [rangeV_len, List.take_of_length_le (by rw [List.length_zip]; omega)] at hall
      have := q _ (s1.trans sm)
      rw [eL, ← ecs, decide_eq_true hl, Bool.true_and, hall] at this
      exact this
theorem cut_str (ps : List Str) (lo hi : Option Int) : ∃ qs : List Str, cutV (ps.map V.str) lo hi = qs.map V.str ∧ (∀ z ∈ qs, z ∈ ps) ∧ qs.length ≤ ps.length := by
  refine ⟨(ps.drop (HT.sIx (ps.map V.str).length 0 lo)).take (HT.sIx (ps.map V.str).length (ps.map V.str).length hi - HT.sIx (ps.map V.str).length 0 lo), ?_, fun z hz => List.mem_of_mem_drop (List.mem_of_mem_take hz), ?_⟩
  · unfold cutV
    rw [List.map_take, List.map_drop]
  · rw [List.length_take, List.length_drop]
    omega
theorem cutS_len {z r : Str} {lo hi : Option Int} (e : r.cps.toList = cutS z lo hi) : r.length ≤ z.length := by
  rw [show r.length = r.cps.toList.length by simp [Str.length], e]
  unfold cutS
  rw [List.length_take, List.length_drop, show z.cps.toList.length = z.length by simp [Str.length]]
  omega
theorem app_len (x y : Str) : (x ++ y).length = x.length + y.length := by
  rw [show (x ++ y).length = (x ++ y).cps.toList.length by simp [Str.length], str_app, List.length_append]
  simp [Str.length]
theorem sum_le {ps : List Str} (h : ∀ z ∈ ps, z.length ≤ 100) : (ps.map (·.length)).sum ≤ 100 * ps.length := by
  induction ps with
  | nil => exact Nat.le_refl _
  | cons a l ih =>
    have h1 := h a (List.mem_cons_self)
    have h2 := ih fun z hz => h z (List.mem_cons_of_mem _ hz)
    simp only [List.map_cons, List.sum_cons, List.length_cons]
    omega
def odds : List Str := ["", "-1", "+1", "1.0", "1234567", "12a", "0x1", "1_0", "Member", "demands", "plain"]
theorem ex_cons {X : Cx} {st : Stmt} {rest : List Stmt} {D : Ends} {σ : St} {H : Hp} (t : TS) (h1 : PS X st t) (h2 : ∃ u, PSs X rest u ∧ tSeq t u D σ H) : ∃ u, PSs X (st :: rest) u ∧ u D σ H := by
  obtain ⟨u, a, b⟩ := h2
  exact ⟨_, pss_cons h1 a, b⟩
def oddsV : List V := [.str "", .str "-1", .str "+1", .str "1.0", .str "1234567", .str "12a", .str "0x1", .str "1_0", .str "Member", .str "demands", .str "plain"]
def sFive : Str := " 0aA-"
def sp_spoilt : Sp := fun vs H Q _ => ∃ (p : Addr) (ps : List Str) (x : Int), vs = [.ref p, .int x] ∧ H p = some (.lst (ps.map V.str)) ∧ 1 ≤ ps.length ∧ ps.length ≤ 6 ∧ (∀ z ∈ ps, z.length ≤ 100) ∧ 0 ≤ x ∧ ∀ (z : Str) (H' : Hp), Same H H' → z.length ≤ 3000 → Q (.str z) H'
set_option maxHeartbeats 8000000 in
theorem ok_spoilt (T : Txt K mg a) : GFn P w K mg base 1 "_law_spoilt" ["_law_parts", "_law_word"] sp_spoilt := by
  refine gfn_of T.f_law_spoilt sc_law_spoilt (fun _ _ _ _ _ _ us hl => match us, hl with | [_, _], _ => rfl) (fun vs H Q E h => ?_) fun f cdv A outer s H vs Q E hr h => ?_
  · obtain ⟨p, ps, x, rfl, _⟩ := h
    rfl
  · obtain ⟨p, ps, x, rfl, hp, p1, p6, ph, x0, q⟩ := h
    refine ex_cons (tAsg (tOp (rIxL K) (tLst (tConsts oddsV)) (tOp (rI (fun _ j => 0 < j) fun i j => .int (i % j)) (tOp (rI CDiv fun i j => .int (i / j)) (tVar 1) (tC (.int 6))) (tC (.int 11)))) (gName 2)) ?_ ?_
    · refine ps_set ?_ ?_ ?_ ?_ ?_ ?_
      · exact sc_law_spoilt.nd
      · rfl
      · exact Or.inl rfl
      · refine pe_ix ?_ ?_ ?_ ?_
        · exact ix_list
        · refine pe_lst ?_
          refine pa_consts ?_
          rfl
        · exact pe_op op_mod (pe_op op_fdiv (pv 1) pe_int) pe_int
        · intro _ _
          rfl
      · rfl
      · exact .inl rfl
    refine ⟨_, (pss_cons (ps_set (i := 3) sc_law_spoilt.nd rfl (Or.inl rfl) (pe_bm PySem.F.plainAttrs_str PySem.F.slot_str_join PySem.F.type_str_join mt_join pe_str (pa_c (pv 0) pa_nil)))
      (pss_cons (ps_set (i := 4) sc_law_spoilt.nd rfl (Or.inl rfl) (pe_op op_mod (pe_op op_fdiv (pv 1) pe_int) (pe_op op_add (pe_callB (show CallR _ _ (rLen K) from call_lenK) (by rfl) T.b_len boot_len (pa_c (pv 3) pa_nil)) pe_int)))
      (pss_cons (ps_set (i := 5) sc_law_spoilt.nd rfl (Or.inl rfl) (pe_op op_mod (pe_op op_fdiv (pv 1) pe_int) (pe_callB (show CallR _ _ (rLen K) from call_lenK) (by rfl) T.b_len boot_len (pa_c (pv 0) pa_nil))))
      (pss_cons (ps_if (pt_cmpR op_eq (pe_op op_mod (pv 1) pe_int) pe_int (nomark _)) (pss_one (ps_ret (pe_op op_add_str (pe_op op_add_str (pe_slice sl_str (pv 3) po_none (po_some (pv 4))) (pe_ix ix_str pe_str (pe_op op_mod (pe_op op_fdiv (pv 1) pe_int) pe_int) (fun _ _ => rfl))) (pe_slice sl_str (pv 3) (po_some (pv 4)) po_none)))) pss_nil)
      (pss_cons (ps_if (pt_cmpR op_eq (pe_op op_mod (pv 1) pe_int) pe_int (nomark _)) (pss_one (ps_ret (pe_op op_add_str (pe_slice sl_str (pv 3) po_none (po_some (pv 4))) (pe_slice sl_str (pv 3) (po_some (pe_op op_add (pv 4) pe_int)) po_none)))) pss_nil)
      (pss_cons (ps_if (pt_cmpR op_eq (pe_op op_mod (pv 1) pe_int) pe_int (nomark _)) (pss_one (ps_ret (pe_bm PySem.F.plainAttrs_str PySem.F.slot_str_join PySem.F.type_str_join mt_join pe_str (pa_c (pe_op op_cat (pe_op op_cat (pe_slice (show SlR _ (rSlL K) from sl_list) (pv 0) po_none (po_some (pv 5))) (pe_lst (pa_c (pv 2) pa_nil))) (pe_slice (show SlR _ (rSlL K) from sl_list) (pv 0) (po_some (pv 5)) po_none)) pa_nil)))) pss_nil)
      (pss_cons (ps_if (pt_cmpR op_eq (pe_op op_mod (pv 1) pe_int) pe_int (nomark _)) (pss_cons (ps_set (i := 5) sc_law_spoilt.nd rfl (Or.inl rfl) (pe_ix (show IxR _ (rIxL K) from ix_list) (pe_lst (pa_c (pv 5) (pa_c (pe_op op_sub (pe_callB (show CallR _ _ (rLen K) from call_lenK) (by rfl) T.b_len boot_len (pa_c (pv 0) pa_nil)) pe_int) pa_nil))) (pe_op op_mod (pe_op op_fdiv (pv 1) pe_int) pe_int) (fun _ _ => rfl)))
      (pss_one (ps_ret (pe_bm PySem.F.plainAttrs_str PySem.F.slot_str_join PySem.F.type_str_join mt_join pe_str (pa_c (pe_op op_cat (pe_op op_cat (pe_slice (show SlR _ (rSlL K) from sl_list) (pv 0) po_none (po_some (pv 5))) (pe_lst (pa_c (pv 2) pa_nil))) (pe_slice (show SlR _ (rSlL K) from sl_list) (pv 0) (po_some (pe_op op_add (pv 5) pe_int)) po_none)) pa_nil))))) pss_nil)
      (pss_cons (ps_if (pt_cmpR op_eq (pe_op op_mod (pv 1) pe_int) pe_int (nomark _)) (pss_one (ps_ret (pe_bm PySem.F.plainAttrs_str PySem.F.slot_str_join PySem.F.type_str_join mt_join pe_str (pa_c (pe_op op_cat (pe_slice (show SlR _ (rSlL K) from sl_list) (pv 0) po_none (po_some (pv 5))) (pe_slice (show SlR _ (rSlL K) from sl_list) (pv 0) (po_some (pe_op op_add (pv 5) pe_int)) po_none)) pa_nil)))) pss_nil)
      (pss_one (ps_ret (pv 3))))))))))), ?_⟩
    obtain ⟨od, hod, odm⟩ : ∃ od, atI (odds.map V.str) (x / 6 % 11) = some (.str od) ∧ od ∈ odds := by
      obtain ⟨k, ek, hk⟩ : ∃ k : Nat, x / 6 % 11 = (k : Int) ∧ k < 11 := ⟨(x / 6 % 11).toNat, by omega, by omega⟩
      rw [ek]
      exact ⟨odds[k]'hk, atI_nat (by rw [List.getElem?_map, List.getElem?_eq_getElem hk]; rfl), List.getElem_mem _⟩
    have odl : od.length ≤ 100 := (show ∀ z ∈ odds, z.length ≤ 100 by decide +kernel) od odm
    dsimp only [tSeq, tAsg, tOp, tLst]
    refine consts_of ?_
    refine ⟨(by show 11 ≤ sizeLine; decide), fun l0 n0 => ⟨_, rfl, _, _, rfl, rfl, ⟨by decide, by decide⟩, _, _, rfl, rfl, (by show (0 : Int) < 11; decide), l0, _, _, _, rfl, rfl, SqL.of upd_same, hod, ?_⟩⟩
    have s1 := Same.upd (o := .lst (odds.map V.str)) n0
    have s1 : Same H (upd H l0 (.lst oddsV)) := s1
    generalize upd H l0 (.lst oddsV) = H1 at s1
    have hp1 := s1 _ _ hp
    have sm := sum_le ph
    have jl := join_len ps
    have joined : ∀ (qs : List Str), (∀ z ∈ qs, z ∈ ps ∨ z = od) → qs.length ≤ 20 → (qs.map (·.length)).sum + qs.length ≤ 1048576 ∧ (Txt.join " " qs).length ≤ 3000 := fun qs hq hl => by
      have h1 := sum_le (ps := qs) fun z hz => by
        rcases hq z hz with h | h
        · exact ph z h
        · rw [h]; exact odl
      have h2 := join_len qs
      omega
    refine ⟨rfl, _, rfl, _, p, ps, rfl, rfl, SqL.of hp1, by decide +kernel, by omega, ?_⟩
    dsimp only [gName, L2.start, List.set]
    generalize Txt.join " " ps = row at jl
    have rl : row.length ≤ 606 := by omega
    have rs : row.length ≤ sizeLine := Nat.le_of_lt (size1000 (by omega))
    refine ⟨_, rfl, _, _, rfl, rfl, ⟨by decide, by decide⟩, _, rfl, _, _, rfl, ⟨rs, rfl⟩, _, _, rfl, rfl, _, _, rfl, rfl, (by show (0 : Int) < (row.length : Nat) + 1; omega), ?_⟩
    refine ⟨_, rfl, _, _, rfl, rfl, ⟨by decide, by decide⟩, _, rfl, _, _, rfl, .inl ⟨_, SqL.of hp1, rfl⟩, _, _, rfl, rfl, (by show (0 : Int) < ((ps.map V.str).length : Nat); rw [List.length_map]; omega), ?_⟩
    dsimp only [gName, L2.start, List.set]
    generalize x / 66 % ((row.length : Nat) + 1 : Int) = at1
    generalize x / 66 % (((ps.map V.str).length : Nat) : Int) = spot
    obtain ⟨fc, hfc⟩ : ∃ fc, atI sFive.cps.toList (x / 6600 % 5) = some fc := by
      obtain ⟨k, ek, hk⟩ : ∃ k : Nat, x / 6600 % 5 = (k : Int) ∧ k < 5 := ⟨(x / 6600 % 5).toNat, by omega, by omega⟩
      have fl : sFive.cps.toList.length = 5 := by decide +kernel
      rw [ek]
      exact ⟨sFive.cps.toList[k]'(by omega), atI_nat (List.getElem?_eq_getElem _)⟩
    have big : ∀ n : Nat, n ≤ 3000 → n ≤ sizeLine := fun n h => Nat.le_trans h (by decide)
    refine ⟨_, rfl, _, _, rfl, rfl, (by show (0 : Int) < 6; decide), rfl, _, rfl, ite2 (fun _ => ?_) (fun _ => ?_)⟩
    · refine ⟨_, rfl, _, rfl, _, rfl, row, rfl, rs, fun r1 e1 => ?_⟩
      have l1 := cutS_len e1
      refine ⟨_, rfl, _, _, rfl, rfl, ⟨by decide, by decide⟩, _, _, rfl, rfl, (by show (0 : Int) < 5; decide), sFive, _, fc, rfl, rfl, by decide +kernel, hfc, _, _, rfl, rfl, big _ (by show r1.length + 1 ≤ 3000; omega), ?_⟩
      refine ⟨_, rfl, _, rfl, _, rfl, row, rfl, rs, fun r2 e2 => ?_⟩
      have l2 := cutS_len e2
      have l3 : (r1 ++ (⟨#[fc]⟩ : Str)).length = r1.length + 1 := app_len _ _
      exact ⟨_, _, rfl, rfl, big _ (by omega), q _ _ s1 (by rw [app_len]; omega)⟩
    refine ⟨_, rfl, _, _, rfl, rfl, (by show (0 : Int) < 6; decide), rfl, _, rfl, ite2 (fun _ => ?_) (fun _ => ?_)⟩
    · refine ⟨_, rfl, _, rfl, _, rfl, row, rfl, rs, fun r1 e1 => ?_⟩
      have l1 := cutS_len e1
      refine ⟨_, rfl, _, rfl, _, _, rfl, rfl, _, rfl, row, rfl, rs, fun r2 e2 => ?_⟩
      have l2 := cutS_len e2
      exact ⟨_, _, rfl, rfl, big _ (by omega), q _ _ s1 (by rw [app_len]; omega)⟩
    have three : ∀ (H2 : Hp) (qs rs2 : List Str) (a b c d e : Addr), Same H H2 → (∀ z ∈ qs, z ∈ ps) → (∀ z ∈ rs2, z ∈ ps) → qs.length ≤ ps.length → rs2.length ≤ ps.length → H2 e = some (.lst ((qs ++ [od] ++ rs2).map V.str)) → rJoin K (.str " ") [.ref e] H2 Q := fun H2 qs rs2 a b c d e sH hq hr2 lq lr he => by
      obtain ⟨j1, j2⟩ := joined (qs ++ [od] ++ rs2) (fun z hz => by
        rcases List.mem_append.mp hz with hz | hz
        · rcases List.mem_append.mp hz with hz | hz
          · exact .inl (hq z hz)
          · exact .inr (List.mem_singleton.mp hz)
        · exact .inl (hr2 z hz)) (by simp only [List.length_append, List.length_singleton]; omega)
      exact ⟨_, e, _, rfl, rfl, SqL.of he, by decide +kernel, j1, q _ _ sH j2⟩
    have two : ∀ (H2 : Hp) (qs rs2 : List Str) (e : Addr), Same H H2 → (∀ z ∈ qs, z ∈ ps) → (∀ z ∈ rs2, z ∈ ps) → qs.length ≤ ps.length → rs2.length ≤ ps.length → H2 e = some (.lst ((qs ++ rs2).map V.str)) → rJoin K (.str " ") [.ref e] H2 Q := fun H2 qs rs2 e sH hq hr2 lq lr he => by
      obtain ⟨j1, j2⟩ := joined (qs ++ rs2) (fun z hz => by
        rcases List.mem_append.mp hz with hz | hz
        · exact .inl (hq z hz)
        · exact .inl (hr2 z hz)) (by simp only [List.length_append]; omega)
      exact ⟨_, e, _, rfl, rfl, SqL.of he, by decide +kernel, j1, q _ _ sH j2⟩
    refine ⟨_, rfl, _, _, rfl, rfl, (by show (0 : Int) < 6; decide), rfl, _, rfl, ite2 (fun _ => ?_) (fun _ => ?_)⟩
    · refine ⟨rfl, _, rfl, _, rfl, _, rfl, p, _, rfl, SqL.of hp1, fun a na => ?_⟩
      obtain ⟨qs, eq, hq, lq⟩ := cut_str ps none (some spot)
      rw [eq]
      have sa := Same.upd (o := .lst (qs.map V.str)) na
      refine ⟨_, rfl, (by show 1 ≤ sizeLine; decide), fun b nb => ?_⟩
      have sb := Same.upd (o := .lst [.str od]) nb
      refine ⟨a, b, _, _, rfl, rfl, sb _ _ upd_same, upd_same, by rw [List.length_map]; exact big _ (by show qs.length + 1 ≤ 3000; omega), fun c nc => ?_⟩
      have sc := Same.upd (o := .lst (qs.map V.str ++ [.str od])) nc
      have s14 := s1.trans (sa.trans (sb.trans sc))
      refine ⟨_, rfl, _, rfl, _, rfl, p, _, rfl, SqL.of ((sa.trans (sb.trans sc)) _ _ hp1), fun d nd => ?_⟩
      obtain ⟨rs2, er, hr2, lr⟩ := cut_str ps (some spot) none
      rw [er]
      have sd := Same.upd (o := .lst (rs2.map V.str)) nd
      refine ⟨c, d, _, _, rfl, rfl, sd _ _ upd_same, upd_same, by simp only [List.length_append, List.length_map, List.length_singleton]; exact big _ (by omega), fun e ne => ?_⟩
      have se := Same.upd (o := .lst (qs.map V.str ++ [.str od] ++ rs2.map V.str)) ne
      exact three _ qs rs2 a b c d e (s14.trans (sd.trans se)) hq hr2 lq lr (by rw [upd_same, List.map_append, List.map_append]; rfl)
    refine ⟨_, rfl, _, _, rfl, rfl, (by show (0 : Int) < 6; decide), rfl, _, rfl, ite2 (fun _ => ?_) (fun _ => ?_)⟩
    · obtain ⟨sp2, hsp2⟩ : ∃ sp2 : Int, atI ([.int spot, .int (((ps.map V.str).length : Nat) - 1)] : List V) (x / 6600 % 2) = some (.int sp2) := by
        have h2 : x / 6600 % 2 = 0 ∨ x / 6600 % 2 = 1 := by omega
        rcases h2 with e | e <;> rw [e]
        · exact ⟨_, rfl⟩
        · exact ⟨_, rfl⟩
      refine ⟨_, rfl, _, rfl, _, _, rfl, .inl ⟨_, SqL.of hp1, rfl⟩, _, _, rfl, rfl, (by show 2 ≤ sizeLine; decide), fun l2 n2 => ⟨_, rfl, _, _, rfl, rfl, ⟨by decide, by decide⟩, _, _, rfl, rfl, (by show (0 : Int) < 2; decide), l2, _, _, _, rfl, rfl, SqL.of upd_same, hsp2, ?_⟩⟩
      have s2 := Same.upd (o := .lst [.int spot, .int (((ps.map V.str).length : Nat) - 1)]) n2
      have hp2 := s2 _ _ hp1
      dsimp only [gName, L2.start, List.set]
      generalize upd H1 l2 (.lst [.int spot, .int (((ps.map V.str).length : Nat) - 1)]) = H2 at s2 hp2
      have s12 := s1.trans s2
      refine ⟨rfl, _, rfl, _, rfl, _, rfl, p, _, rfl, SqL.of hp2, fun a na => ?_⟩
      obtain ⟨qs, eq, hq, lq⟩ := cut_str ps none (some sp2)
      rw [eq]
      have sa := Same.upd (o := .lst (qs.map V.str)) na
      refine ⟨_, rfl, (by show 1 ≤ sizeLine; decide), fun b nb => ?_⟩
      have sb := Same.upd (o := .lst [.str od]) nb
      refine ⟨a, b, _, _, rfl, rfl, sb _ _ upd_same, upd_same, by rw [List.length_map]; exact big _ (by show qs.length + 1 ≤ 3000; omega), fun c nc => ?_⟩
      have sc := Same.upd (o := .lst (qs.map V.str ++ [.str od])) nc
      have s14 := s12.trans (sa.trans (sb.trans sc))
      refine ⟨_, rfl, _, rfl, _, _, rfl, rfl, _, rfl, p, _, rfl, SqL.of ((sa.trans (sb.trans sc)) _ _ hp2), fun d nd => ?_⟩
      obtain ⟨rs2, er, hr2, lr⟩ := cut_str ps (some (sp2 + 1)) none
      rw [er]
      have sd := Same.upd (o := .lst (rs2.map V.str)) nd
      refine ⟨c, d, _, _, rfl, rfl, sd _ _ upd_same, upd_same, by simp only [List.length_append, List.length_map, List.length_singleton]; exact big _ (by omega), fun e ne => ?_⟩
      have se := Same.upd (o := .lst (qs.map V.str ++ [.str od] ++ rs2.map V.str)) ne
      exact three _ qs rs2 a b c d e (s14.trans (sd.trans se)) hq hr2 lq lr (by rw [upd_same, List.map_append, List.map_append]; rfl)
    refine ⟨_, rfl, _, _, rfl, rfl, (by show (0 : Int) < 6; decide), rfl, _, rfl, ite2 (fun _ => ?_) (fun _ => ?_)⟩
    · refine ⟨rfl, _, rfl, _, rfl, _, rfl, p, _, rfl, SqL.of hp1, fun a na => ?_⟩
      obtain ⟨qs, eq, hq, lq⟩ := cut_str ps none (some spot)
      rw [eq]
      have sa := Same.upd (o := .lst (qs.map V.str)) na
      refine ⟨_, rfl, _, rfl, _, _, rfl, rfl, _, rfl, p, _, rfl, SqL.of (sa _ _ hp1), fun d nd => ?_⟩
      obtain ⟨rs2, er, hr2, lr⟩ := cut_str ps (some (spot + 1)) none
      rw [er]
      have sd := Same.upd (o := .lst (rs2.map V.str)) nd
      refine ⟨a, d, _, _, rfl, rfl, sd _ _ upd_same, upd_same, by simp only [List.length_append, List.length_map]; exact big _ (by omega), fun e ne => ?_⟩
      have se := Same.upd (o := .lst (qs.map V.str ++ rs2.map V.str)) ne
      exact two _ qs rs2 e (s1.trans (sa.trans (sd.trans se))) hq hr2 lq lr (by rw [upd_same, List.map_append])
    exact ⟨_, rfl, q _ _ s1 (by omega)⟩
def sp_right (K : PySem.W.Frag) : Sp := fun vs H Q _ => ∃ (p : Addr) (ws : List Int), vs = [.ref p] ∧ H p = some (.lst (ws.map V.int)) ∧ 7 ≤ ws.length ∧ (∀ x ∈ ws, 0 ≤ x) ∧ ∀ H', Same H H' → Q (.bl true) H'
def sixteenV : List V := [.int 0, .int 1, .int 2, .int 3, .int 4, .int 5, .int 6, .int 7, .int 8, .int 9, .int 10, .int 1, .int 2, .int 3, .int 4, .int 1]
def sixteen : List Int := [0, 1, 2, 3, 4, 5, 6, 7, 8, 9, 10, 1, 2, 3, 4, 1]
set_option maxHeartbeats 8000000 in
theorem ok_right (T : Txt K mg a) : GFn P w K mg base 5 "_law_right" ["_law_words_here"] (sp_right K) := by
  have c_law_forms : GFn P w K mg base 1 "_law_forms" [] sp_forms := ok_forms T
  have c_law_text : GFn P w K mg base 1 "_law_text" ["_law_word", "_law_low", "_law_high"] sp_text := ok_text T
  have c_law_figures : GFn P w K mg base 1 "_law_figures" ["_law_word"] sp_figures := ok_figures T
  have c_law_spoilt : GFn P w K mg base 1 "_law_spoilt" ["_law_parts", "_law_word"] sp_spoilt := ok_spoilt T
  have c_law_fits : GFn P w K mg base 2 "_law_fits" ["_law_parts"] sp_fitsL := ok_fitsL T
  have c_law_sorts : ∀ base', GFm P w K mg base' 1 "_law_sorts" ["_law_e"] (sp_sorts K a base') := fun _ => ok_sorts T
  have c_read_row : GFx P w K mg base 4 "read_row" ["row"] (sp_read_row a) := ok_read_row T
  refine gfn_of T.f_law_right sc_law_right (fun _ _ _ _ _ _ us hl => match us, hl with | [_], _ => rfl) (fun vs H Q E h => ?_) fun f cdv A outer s H vs Q E hr h => ?_
  · obtain ⟨p, ws, rfl, _⟩ := h
    rfl
  · obtain ⟨p, ws, rfl, hp, wl, w0, q⟩ := h
    refine ex_cons (tAsg (tOp (rIxL K) (tCall sp_forms [] E0 tNil) (tOp (rIxL K) (tLst (tConsts sixteenV)) (tOp (rI (fun _ j => 0 < j) fun i j => .int (i % j)) (tOp (rIxL K) (tVar 0) (tC (.int 0))) (tC (.int 16))))) (gTup K 2 (gCons (gName 1) (gCons (gName 2) gNil)))) ?_ ?_
    · refine ps_asg ?_ ?_ ?_ ?_ ?_
      · refine pe_ix ?_ ?_ ?_ ?_
        · exact ix_list
        · exact pe_callF0 c_law_forms (hr.mono (by decide))
        · refine pe_ix ?_ ?_ ?_ ?_
          · exact ix_list
          · refine pe_lst ?_
            refine pa_consts ?_
            rfl
          · exact pe_op op_mod (pe_ix (show IxR _ (rIxL K) from ix_list) (pv 0) pe_int (fun _ _ => rfl)) pe_int
          · intro _ _
            rfl
        · intro _ _
          rfl
      · exact pg_tup rfl (pgs_cons (pg_name (i := 1) sc_law_right.nd rfl (Or.inl rfl)) (pgs_cons (pg_name (i := 2) sc_law_right.nd rfl (Or.inl rfl)) pgs_nil))
      · rfl
      · rfl
      · rfl
    refine ⟨_, (pss_cons (ps_set (i := 3) sc_law_right.nd rfl (Or.inl rfl) (pe_lst (pa_c (pv 1) pa_nil)))
      (pss_cons (ps_for PassesOwn.never rfl (pi_range1 rfl T.b_range (pa_c (pe_callB (show CallR _ _ (rLen K) from call_lenK) (by rfl) T.b_len boot_len (pa_c (pv 2) pa_nil)) pa_nil)) (pg_name (i := 4) sc_law_right.nd rfl (Or.inl rfl))
      (pss_cons (ps_expr (show PE _ _ (tBM K _ _ _ _) from pe_bm PySem.F.plainAttrs_list PySem.F.slot_list_append PySem.F.type_list_append mt_append (pv 3) (pa_c (pe_callF c_law_text (hr.mono (by decide)) (pa_c (pe_ix (show IxR _ (rIxL K) from ix_list) (pv 0) (pe_op op_add pe_int (pv 4)) (fun _ _ => rfl)) (pa_c pe_int (pa_c pe_int pa_nil)))) pa_nil)))
      (pss_cut (ps_if (pt_cmpR op_eq (pe_ix ix_str (pv 2) (pv 4) (fun _ _ => rfl)) pe_str (nomark _)) (pss_one (ps_asg (pe_callF c_law_figures (hr.mono (by decide)) (pa_c (pe_ix (show IxR _ (rIxL K) from ix_list) (pv 0) (pe_op op_add pe_int (pv 4)) (fun _ _ => rfl)) pa_nil)) (pg_sub (pv 3) (pe_op op_add (pv 4) pe_int) set_list))) pss_nil)
      (pss_one (ps_if (pt_cmpR op_eq (pe_ix ix_str (pv 2) (pv 4) (fun _ _ => rfl)) pe_str (nomark _)) (pss_one (ps_asg (pe_ix (show IxR _ (rIxL K) from ix_list) (pe_lst (pa_c pe_str (pa_c pe_str (pa_c pe_str pa_nil)))) (pe_op op_mod (pe_ix (show IxR _ (rIxL K) from ix_list) (pv 0) (pe_op op_add pe_int (pv 4)) (fun _ _ => rfl)) pe_int) (fun _ _ => rfl)) (pg_sub (pv 3) (pe_op op_add (pv 4) pe_int) set_list))) pss_nil)))))
      (pss_cons (ps_set (i := 5) sc_law_right.nd rfl (Or.inl rfl) (pe_slice sl_str (pe_callF c_law_spoilt (hr.mono (by decide)) (pa_c (pv 3) (pa_c (pe_ix (show IxR _ (rIxL K) from ix_list) (pv 0) pe_int (fun _ _ => rfl)) pa_nil))) po_none (po_some pe_int)))
      (pss_cons (ps_set (i := 6) sc_law_right.nd rfl (Or.inl rfl) (pe_tup pa_nil))
      (pss_cons (ps_set (i := 7) sc_law_right.nd rfl (Or.inl rfl) pe_str)
      (pss_cut (ps_try ⟨rfl, rfl⟩ (fun pins E' => (pss_one (ps_set (i := 6) sc_law_right.nd rfl (Or.inl rfl) (pe_callX c_read_row (hr.mono (by decide)) (pa_c (pv 5) pa_nil))))) (ph_as (i := 8) T.x_GaugeError sc_law_right.nd rfl rfl (fun pins x cls t tb => (pss_one (ps_set (i := 7) sc_law_right.nd rfl (Or.inl rfl) (pe_callH c_law_sorts (hr.mono (by decide)).m (pa_c (pv 8) pa_nil))))) ph_nil))
      (pss_cons (ps_set (i := 3) sc_law_right.nd rfl (Or.inl rfl) (show PE _ _ (tBM K _ _ _ _) from pe_bm PySem.F.plainAttrs_str PySem.F.slot_str_split PySem.F.type_str_split mt_split (pv 5) (pa_c pe_str pa_nil)))
      (pss_cons (ps_if (pt_not (pt_truth (pe_callF c_law_fits (hr.mono (by decide)) (pa_c (pv 3) pa_nil)) (fun _ => rfl))) (pss_one (ps_ret (pe_cmpR op_eq (pv 7) pe_str (nomark _)))) pss_nil)
      (pss_one (ps_ret (pe_cut (pe_and (pe_callB call_isi (by rfl) T.b_isinstance boot_isinstance (pa_c (pv 6) (pa_c (pe_bltn (v := .ty "tuple") rfl T.b_tuple boot_tuple rfl) pa_nil))) (pe_one (pe_cmpR op_eq (pe_callB (show CallR _ _ (rLen K) from call_lenK) (by rfl) T.b_len boot_len (pa_c (pv 6) pa_nil)) (pe_callB (show CallR _ _ (rLen K) from call_lenK) (by rfl) T.b_len boot_len (pa_c (pv 3) pa_nil)) (nomark _))))))))))))))), ?_⟩
    have g0 := atI_g (ws := ws) (i := 0) (by decide) (by omega)
    have g6 := atI_g (ws := ws) (i := 6) (by decide) (by omega)
    have gn : ∀ i, 0 ≤ MA.g ws i := fun i => by
      unfold MA.g
      rw [List.getD_eq_getElem?_getD]
      cases e : ws[i.toNat]? with
      | none => exact Int.le_refl 0
      | some x => exact w0 x (List.mem_of_getElem? e)
    refine ⟨rfl, fun pf ts H1 s1 hpf hF => ?_⟩
    have hp1 := s1 _ _ hp
    obtain ⟨jj, hjj, jb⟩ : ∃ jj : Nat, atI (sixteen.map V.int) (MA.g ws 0 % 16) = some (.int (jj : Nat)) ∧ jj < 11 := by
      obtain ⟨k, ek, hk⟩ : ∃ k : Nat, MA.g ws 0 % 16 = (k : Int) ∧ k < 16 := ⟨(MA.g ws 0 % 16).toNat, by omega, by omega⟩
      rw [ek]
      have := (show ∀ k : _root_.Fin 16, ∃ j : _root_.Fin 11, sixteen[k.1]? = some (j.1 : Int) by decide) ⟨k, hk⟩
      obtain ⟨j, ej⟩ := this
      exact ⟨j.1, atI_nat (by rw [List.getElem?_map, ej]; rfl), j.2⟩
    obtain ⟨⟨fi, so⟩, hfs⟩ : ∃ fs : Str × Str, formsK[jj]? = some fs := ⟨formsK[jj]'jb, List.getElem?_eq_getElem jb⟩
    obtain ⟨t, ht, htv⟩ := hF.at' hfs
    have hmem := List.mem_of_getElem? hfs
    dsimp only [tSeq, tAsg, tOp, tLst]
    refine consts_of ?_
    refine ⟨(by show 16 ≤ sizeLine; decide), fun l16 n16 => ?_⟩
    have s16 := Same.upd (o := .lst (sixteen.map V.int)) n16
    refine ⟨_, rfl, p, _, _, _, rfl, rfl, SqL.of (s16 _ _ hp1), g0, _, _, rfl, rfl, (by show (0 : Int) < 16; decide), l16, _, _, _, rfl, rfl, SqL.of upd_same, hjj, pf, _, _, _, rfl, rfl, SqL.of (s16 _ _ hpf), atI_nat (by rw [List.getElem?_map, ht]; rfl), ?_⟩
    have s2 := s1.trans s16
    have hp2 := s16 _ _ hp1
    have htv2 := s16 _ _ htv
    have s2 : Same H (upd H1 l16 (.lst sixteenV)) := s2
    have hp2 : (upd H1 l16 (.lst sixteenV)) p = _ := hp2
    have htv2 : (upd H1 l16 (.lst sixteenV)) t = _ := htv2
    generalize upd H1 l16 (.lst sixteenV) = H2 at s2 hp2 htv2
    refine ⟨t, _, rfl, SqT.of htv2, rfl, _, _, rfl, _, _, rfl, rfl, ?_⟩
    dsimp only [gName, L2.start, List.set]
    refine ⟨_, rfl, (by show 1 ≤ sizeLine; decide), fun pp npp => ?_⟩
    have spp := Same.upd (o := .lst [.str fi]) npp
    have hpp : (upd H2 pp (.lst [.str fi])) pp = some (.lst [.str fi]) := upd_same
    dsimp only [gName, L2.start, List.set]
    obtain ⟨cs, ecs⟩ : ∃ cs, cs = so.cps.toList := ⟨_, rfl⟩
    have cl : cs.length = so.length := by rw [ecs]; simp [Str.length]
    have cl5 : cs.length ≤ 5 := by rw [ecs]; exact (show ∀ f ∈ formsK, f.2.cps.toList.length ≤ 5 by decide +kernel) _ hmem
    have fil : fi.length ≤ 100 := (show ∀ f ∈ formsK, f.1.length ≤ 100 by decide +kernel) _ hmem
    have sol : so.length ≤ sizeLine := Nat.le_of_lt (size1000 (by omega))
    refine ⟨_, rfl, _, _, rfl, ⟨sol, rfl⟩, _, rfl, by omega, by omega, ?_⟩
    rw [Int.toNat_natCast]
    refine for_items (xs := rangeV 0 so.length) (fun i σ' H' => ∃ (ps : List Str) (v4 : Option V), σ' = [some (.ref p), some (.str fi), some (.str so), some (.ref pp), v4, none, none, none, none] ∧ Same H2 H' ∧ H' pp = some (.lst (ps.map V.str)) ∧ ps.length = i + 1 ∧ ∀ z ∈ ps, z.length ≤ 100) ⟨[fi], none, rfl, spp, hpp, rfl, fun z hz => by rw [List.mem_singleton.mp hz]; exact fil⟩ (fun i σ' H' _ _ => jl_range) ?_ ?_
    · rintro i y σ' H' hi2 ⟨ps, v4, rfl, sm, hP, pl, pz⟩
      obtain ⟨hin, rfl⟩ := rangeV_at hi2
      obtain ⟨c, hc⟩ : ∃ c, cs[i]? = some c := ⟨_, List.getElem?_eq_getElem (by omega)⟩
      have atc : atI so.cps.toList (0 + (i : Nat)) = some c := by rw [Int.zero_add, ← ecs]; exact atI_nat hc
      have gi : atI (ws.map V.int) (1 + (0 + (i : Nat))) = some (.int (MA.g ws (1 + i))) := by
        have := atI_g (ws := ws) (i := ((1 + i : Nat) : Int)) (by omega) (by omega)
        rw [show (1 + (0 + (i : Nat)) : Int) = ((1 + i : Nat) : Int) by omega, this]
        rfl
      refine ⟨_, rfl, .inl ⟨rfl, _, SqL.of hP⟩, _, rfl, _, rfl, _, _, rfl, rfl, p, _, _, _, rfl, rfl, SqL.of (sm _ _ hp2), gi, _, 1, 7, rfl, gn _, by decide, by decide, by decide, fun z H3 s3 zl1 zf => ?_⟩
      have hP3 := s3 _ _ hP
      refine ⟨pp, _, _, rfl, rfl, hP3, by rw [List.length_map]; exact size1000 (by omega), ?_⟩
      have sm4 : Same H2 (upd H3 pp (.lst (ps.map V.str ++ [.str z]))) := (sm.trans s3).updl npp
      have hP4 : (upd H3 pp (.lst (ps.map V.str ++ [.str z]))) pp = some (.lst ((ps ++ [z]).map V.str)) := by rw [upd_same, List.map_append]; rfl
      generalize upd H3 pp (.lst (ps.map V.str ++ [.str z])) = H4 at sm4 hP4
      have pl4 : (ps ++ [z]).length = i + 2 := by rw [List.length_append, pl]; rfl
      have pz4 : ∀ y ∈ ps ++ [z], y.length ≤ 100 := fun y hy => by
        rcases List.mem_append.mp hy with hy | hy
        · exact pz y hy
        · rw [List.mem_singleton.mp hy]; omega
      generalize ps ++ [z] = ps4 at hP4 pl4 pz4
      have jx : ixN (ps4.map V.str).length (0 + (i : Nat) + 1) = some (i + 1) := by
        rw [List.length_map, pl4, ixN_in (by omega) (by show (0 + (i : Nat) + 1 : Int) < ((i + 2 : Nat) : Int); omega)]
        congr 1
        omega
      have put : ∀ (H5 : Hp) (z5 : Str) (qs : List Str), Same H2 H5 → z5.length ≤ 100 → qs.length = i + 2 → (∀ y ∈ qs, y.length ≤ 100) → Same H2 (upd H5 pp (.lst ((qs.map V.str).set (i + 1) (.str z5)))) ∧ (upd H5 pp (.lst ((qs.map V.str).set (i + 1) (.str z5)))) pp = some (.lst ((qs.set (i + 1) z5).map V.str)) ∧ (qs.set (i + 1) z5).length = i + 2 ∧ ∀ y ∈ qs.set (i + 1) z5, y.length ≤ 100 := fun H5 z5 qs s5 l5 lq hq => by
        refine ⟨s5.updl npp, by rw [upd_same, List.map_set], by rw [List.length_set]; exact lq, fun y hy => ?_⟩
        rcases List.mem_or_eq_of_mem_set hy with h | h
        · exact hq y h
        · rw [h]; exact l5
      dsimp only [gName, L2.start, List.set]
      refine ⟨fun σ' H5 => ∃ qs : List Str, σ' = [some (.ref p), some (.str fi), some (.str so), some (.ref pp), some (.int (0 + (i : Nat))), none, none, none, none] ∧ Same H2 H5 ∧ H5 pp = some (.lst (qs.map V.str)) ∧ qs.length = i + 2 ∧ ∀ y ∈ qs, y.length ≤ 100, ?_, ?_⟩
      · refine ⟨_, rfl, _, rfl, so, _, c, rfl, rfl, sol, atc, rfl, _, rfl, ite2 (fun _ => ?_) (fun _ => ⟨ps4, rfl, sm4, hP4, pl4, pz4⟩)⟩
        refine ⟨_, rfl, _, rfl, _, _, rfl, rfl, p, _, _, _, rfl, rfl, SqL.of (sm4 _ _ hp2), gi, _, rfl, gn _, fun z5 hn => ⟨_, rfl, _, rfl, _, _, rfl, rfl, pp, _, _, _, rfl, rfl, hP4, jx, ?_⟩⟩
        obtain ⟨e1, e2, e3, e4⟩ := put H4 z5 ps4 sm4 (Nat.le_trans (num_read hn).2 (by decide)) pl4 pz4
        exact ⟨_, rfl, e1, e2, e3, e4⟩
      rintro σ5 H5 ⟨qs, rfl, sm5, hP5, pl5, pz5⟩
      have jx5 : ixN (qs.map V.str).length (0 + (i : Nat) + 1) = some (i + 1) := by
        rw [List.length_map, pl5, ixN_in (by omega) (by show (0 + (i : Nat) + 1 : Int) < ((i + 2 : Nat) : Int); omega)]
        congr 1
        omega
      refine ⟨_, rfl, _, rfl, so, _, c, rfl, rfl, sol, atc, rfl, _, rfl, ite2 (fun _ => ?_) (fun _ => ⟨qs, _, rfl, sm5, hP5, pl5, pz5⟩)⟩
      obtain ⟨z3, h3, o3⟩ : ∃ z3 : Str, atI ([.str "member", .str "demand", .str "top"] : List V) (MA.g ws (1 + i) % 3) = some (.str z3) ∧ z3.length ≤ 100 := by
        have h3 : MA.g ws (1 + i) % 3 = 0 ∨ MA.g ws (1 + i) % 3 = 1 ∨ MA.g ws (1 + i) % 3 = 2 := by omega
        rcases h3 with e | e | e <;> rw [e]
        · exact ⟨_, rfl, by decide +kernel⟩
        · exact ⟨_, rfl, by decide +kernel⟩
        · exact ⟨_, rfl, by decide +kernel⟩
      refine ⟨(by show 3 ≤ sizeLine; decide), fun l3 n3 => ?_⟩
      have st3 := Same.upd (o := .lst [.str "member", .str "demand", .str "top"]) n3
      refine ⟨_, rfl, _, rfl, _, _, rfl, rfl, p, _, _, _, rfl, rfl, SqL.of (st3 _ _ (sm5 _ _ hp2)), gi, _, _, rfl, rfl, (by show (0 : Int) < 3; decide), l3, _, _, _, rfl, rfl, SqL.of upd_same, h3, _, rfl, _, rfl, _, _, rfl, rfl, pp, _, _, _, rfl, rfl, st3 _ _ hP5, jx5, ?_⟩
      obtain ⟨e1, e2, e3, e4⟩ := put _ z3 qs (sm5.trans st3) o3 pl5 pz5
      exact ⟨_, _, rfl, e1, e2, e3, e4⟩
    rintro σ6 H3 ⟨ps, v4, rfl, sm, hP, pl, pz⟩
    rw [rangeV_len, ← cl] at pl
    refine ⟨_, rfl, _, rfl, p, _, _, _, rfl, rfl, SqL.of (sm _ _ hp2), g6, pp, ps, _, rfl, hP, by omega, by omega, pz, gn _, fun z H4 s4 zl => ?_⟩
    refine ⟨_, rfl, z, rfl, Nat.le_trans zl (by decide), fun row er => ?_⟩
    have rl : row.length ≤ 60 := by
      rw [show row.length = row.cps.toList.length by simp [Str.length], er]
      unfold cutS
      rw [List.length_take, sIx_pos _ _ _ (by decide)]
      show min (min 60 _ - _) _ ≤ 60
      omega
    dsimp only [gName, L2.start, List.set]
    refine ⟨(by show 0 ≤ sizeLine; decide), fun pt npt => ?_⟩
    have s5 := Same.upd (o := .tup []) npt
    have hpt : (upd H4 pt (.tup [])) pt = some (.tup []) := upd_same
    have s05 := s2.trans (sm.trans (s4.trans s5))
    dsimp only [gName, L2.start, List.set]
    generalize upd H4 pt (.tup []) = H5 at s5 hpt s05
    have hP5 := (s4.trans s5) _ _ hP
    obtain ⟨ws5, ews⟩ : ∃ ws5, ws5 = Txt.split row " " := ⟨_, rfl⟩
    have wne : ws5 ≠ [] := fun z => by
      have := PyProof.Rows.split_pos row " "
      rw [← ews, z] at this
      exact absurd this (by decide)
    obtain ⟨wd0, wr, ewr⟩ : ∃ wd0 wr, ws5 = wd0 :: wr := by
      cases ws5 with
      | nil => exact absurd rfl wne
      | cons a b => exact ⟨a, b, rfl⟩
    have eF : rowF row = rowW (wd0 :: wr) := by unfold rowF; rw [← ews, ewr]
    have eL := fits_eq wd0 wr
    refine ⟨fun σ' H6 => Same H5 H6 ∧ ∃ (so2 : Str) (pt2 : Addr) (v8 : Option V), σ' = [some (.ref p), some (.str fi), some (.str so), some (.ref pp), v4, some (.str row), some (.ref pt2), some (.str so2), v8] ∧ ((∃ xs, rowF row = some xs ∧ H6 pt2 = some (.tup xs)) ∨ (rowF row = none ∧ so2 = "bad row")), ?_, ?_⟩
    · refine ⟨fun σ' cls _ H6 => σ' = [some (.ref p), some (.str fi), some (.str so), some (.ref pp), v4, some (.str row), some (.ref pt), some (.str ""), none] ∧ cls = .ref a.BadRow ∧ Same H5 H6 ∧ rowF row = none, fun pins => ?_, ?_⟩
      · exact ⟨_, rfl, row, rfl, by omega, fun xs ex p2 H6 s6 np2 hp2 => ⟨s6, "", p2, none, rfl, .inl ⟨xs, ex, hp2⟩⟩, fun ex H6 s6 => ⟨rfl, rfl, s6, ex⟩⟩
      · rintro σ' cls H6 ⟨rfl, rfl, s6, ex⟩
        refine ⟨a.BadRow, true, rfl, T.x_BadRow.2, T.u_BadRow_GaugeError, iteT ?_⟩
        intro pins x t tb
        refine ⟨_, rfl, fun base' hb => ⟨x, a.BadRow, t, tb, "bad row", rfl, hb, ⟨T.e_BadRow, T.l_BadRow, _, _, _, _, _, _, _, _, _, _, T.i_BadRow_Unknown, T.i_BadRow_InUse, T.i_BadRow_BadName, T.i_BadRow_BadNumber, T.i_BadRow_TooMuch, T.i_BadRow_Full, T.i_BadRow_NothingBack, T.i_BadRow_NoWidths, T.i_BadRow_BadRow, T.i_BadRow_ValueError, by decide +kernel⟩, fun H7 s7 => ?_⟩⟩
        exact ⟨s6.trans s7, _, _, _, rfl, .inr ⟨ex, rfl⟩⟩
    rintro σ7 H6 ⟨s6, so2, pt2, v8, rfl, res⟩
    refine ⟨_, rfl, rfl, _, _, rfl, rfl, by decide +kernel, by omega, fun pw npw => ?_⟩
    rw [← ews, ewr]
    have sw := Same.upd (o := .lst ((wd0 :: wr).map V.str)) npw
    have hpw : (upd H6 pw (.lst ((wd0 :: wr).map V.str))) pw = some (.lst ((wd0 :: wr).map V.str)) := upd_same
    dsimp only [gName, L2.start, List.set]
    have res7 : (∃ xs, rowF row = some xs ∧ (upd H6 pw (.lst ((wd0 :: wr).map V.str))) pt2 = some (.tup xs)) ∨ (rowF row = none ∧ so2 = "bad row") := res.imp (fun ⟨xs, e, h⟩ => ⟨xs, e, sw _ _ h⟩) id
    generalize upd H6 pw (.lst ((wd0 :: wr).map V.str)) = H7 at sw hpw res7
    have s07 := s05.trans (s6.trans sw)
    have wl5 : wr.length ≤ 1000 := by
      have := PyProof.Rows.split_le row " "
      rw [← ews, ewr, List.length_cons] at this
      omega
    have wz : ∀ z ∈ wr, z.length ≤ 1000 := fun z hz => Nat.le_trans (split_short (row := row) (by rw [← ews, ewr]; exact List.mem_cons_of_mem _ hz)) (by omega)
    refine ⟨_, rfl, pw, wd0, wr, rfl, hpw, wl5, wz, fun H8 s8 => ⟨_, rfl, ?_⟩⟩
    rw [eL, ← eF]
    rcases res7 with ⟨xs, ex, hx⟩ | ⟨ex, rfl⟩
    · rw [ex]
      refine iteF ⟨Q, ?_, fun _ _ z => z⟩
      have hx8 := s8 _ _ hx
      have xl : xs.length = (wd0 :: wr).length := by
        rw [eF] at ex
        unfold rowW at ex
        cases hf : formsL.find? (fun q => fitsAll q (wd0 :: wr)) with
        | none => rw [hf] at ex; cases ex
        | some ps2 =>
          rw [hf] at ex
          cases ex
          have := List.find?_some hf
          unfold fitsAll at this
          rw [Bool.and_eq_true] at this
          have := of_decide_eq_true this.1
          rw [List.length_map, List.length_zip, this, Nat.min_self]
      refine ⟨_, rfl, _, "tuple", true, rfl, .inr ⟨⟨_, SqT.of hx8⟩, .inl ⟨rfl, rfl⟩⟩, _, rfl, iteT ?_⟩
      refine ⟨_, rfl, _, _, rfl, .inr ⟨_, SqT.of hx8, rfl⟩, _, rfl, _, _, rfl, .inl ⟨_, SqL.of (s8 _ _ hpw), rfl⟩, rfl, ?_⟩
      rw [show decide (V.int (xs.length : Nat) = V.int (((wd0 :: wr).map V.str).length : Nat)) = true from decide_eq_true (by rw [xl, List.length_map])]
      exact q _ (s07.trans s8)
    · rw [ex]
      exact iteT ⟨_, rfl, rfl, q _ (s07.trans s8)⟩
theorem cut_from (xs : List V) (k : Nat) : cutV xs (some (k : Nat)) none = xs.drop k := by
  unfold cutV
  rw [HT.sIx_nat]
  show (xs.drop (min k xs.length)).take (xs.length - min k xs.length) = xs.drop k
  by_cases h : k ≤ xs.length
  · rw [Nat.min_eq_left h]
    exact List.take_of_length_le (by rw [List.length_drop]; exact Nat.le_refl _)
  · rw [Nat.min_eq_right (by omega), List.drop_length, List.drop_eq_nil_of_le (by omega)]
    exact List.take_nil
set_option maxHeartbeats 8000000 in
theorem ok_law (T : Txt K mg a) : GFn P w K mg base 8 "law" ["_law_script"] (sp_law K) := by
  have c_law_words : GFn P w K mg base 1 "_law_words" ["_law_script", "_law_many"] (sp_words K) := ok_words T
  have c_law_right : GFn P w K mg base 5 "_law_right" ["_law_words_here"] (sp_right K) := ok_right T
  refine gfn_of T.f_law sc_law (fun _ _ _ _ _ _ us hl => match us, hl with | [_], _ => rfl) (fun vs H Q E h => ?_) fun f cdv A outer s H vs Q E hr h => ?_
  · obtain ⟨sa, ns, rfl, _⟩ := h
    rfl
  · obtain ⟨sa, ns, rfl, hS, hlen, q⟩ := h
    refine ⟨_, (pss_cons (ps_set (i := 1) sc_law.nd rfl (Or.inl rfl) (pe_callF c_law_words (hr.mono (by decide)) (pa_c (pv 0) (pa_c pe_int pa_nil))))
      (pss_cons (ps_for PassesOwn.never rfl (pi_range1 rfl T.b_range (pa_c pe_int pa_nil)) (pg_name (i := 2) sc_law.nd rfl (Or.inl rfl))
      (pss_one (ps_if (pt_not (pt_truth (pe_callF c_law_right (hr.mono (by decide)) (pa_c (pe_slice (show SlR _ (rSlL K) from sl_list) (pv 1) (po_some (pe_op op_mul pe_int (pv 2))) po_none) pa_nil)) (fun _ => rfl))) (pss_one (ps_ret pe_bl)) pss_nil)))
      (pss_one (ps_ret pe_bl)))), ?_⟩
    refine ⟨_, rfl, sa, ns, 63, rfl, hS, by decide, fun p ws H1 np s1 hp hwl h0 => ?_⟩
    refine ⟨9, rfl, by decide, by decide, ?_⟩
    refine for_items (xs := rangeV 0 9) (fun i σ' H' => ∃ v2 : Option V, σ' = [some (.ref sa), some (.ref p), v2] ∧ Same H1 H') ⟨none, rfl, Same.refl _⟩ (fun i σ' H' _ _ => jl_range) ?_ ?_
    · rintro i y σ' H' hi2 ⟨v2, rfl, sm⟩
      obtain ⟨hin, rfl⟩ := rangeV_at hi2
      refine ⟨_, rfl, _, rfl, _, _, rfl, rfl, .inr ⟨by omega, by omega⟩, _, rfl, p, _, rfl, SqL.of (sm _ _ hp), fun pc npc => ?_⟩
      rw [show (7 * (0 + (i : Nat)) : Int) = ((7 * i : Nat) : Int) by omega, cut_from, ← List.map_drop]
      refine ⟨pc, ws.drop (7 * i), rfl, upd_same, by rw [List.length_drop]; omega, fun x hx => h0 x (List.mem_of_mem_drop hx), fun H2 s2 => ⟨_, rfl, iteF ⟨_, rfl, sm.trans ((Same.upd npc).trans s2)⟩⟩⟩
    · rintro σ' H' ⟨v2, rfl, sm⟩
      exact q _
end
end K25
abbrev PySem.W.Fast.tw14576187121411342303 : Nat := 0
abbrev PySem.W.Fast.tw1415478966992685265 : Nat := 0
abbrev PySem.W.Fast.tw1749089653512919291 : Nat := 0
abbrev PySem.W.Fast.tw10190815518576017476 : Nat := 0
abbrev PySem.W.Fast.tw2107866942659829804 : Nat := 0
abbrev PySem.W.Fast.tw17397310057590862261 : Nat := 0
abbrev PySem.W.Fast.tw18348335036863159123 : Nat := 0
abbrev PySem.W.Fast.tw2346807362749688428 : Nat := 0
abbrev PySem.W.Fast.tw4290160554954159918 : Nat := 0
abbrev PySem.W.Fast.tw4999483477450422352 : Nat := 0
abbrev PySem.W.Fast.tw11269776651510702644 : Nat := 0
abbrev PySem.W.Fast.tw510737052060039101 : Nat := 0
abbrev PySem.W.Fast.tw2767027617993709469 : Nat := 0
abbrev PySem.W.Fast.tw10689369070768593448 : Nat := 0
abbrev PySem.W.Fast.tw13268209351600123070 : Nat := 0
abbrev PySem.W.Fast.tw10199405866436812961 : Nat := 0
abbrev PySem.W.Fast.tw17937677524774573237 : Nat := 0
set_option maxHeartbeats 8000000 in
theorem PySem.Challenge.cw_stairgauge_k25_rows_refused_holds : PySem.Challenge.rw_stairgauge_k25_rows_refused.Holds := by
  w_on; o_law; k_head; (case hw => w_witness2)
  k_fill
  refine L2.walk_ofK (l := PySem.Challenge.rw_stairgauge_k25_rows_refused) (n := 63) (k := 8) (x := "_law_script") (CX := L2.CX0) (sp := K25.sp_law) rfl (by decide) rfl ⟨rfl, by decide, by decide⟩ (fun w h Y => PySem.W.kIn_of Y) ?F (fun K H a ns hl _ hS => ⟨a, ns, rfl, hS, hl, fun _ => rfl⟩) (fun _ _ _ _ z => z)
  case F =>
    intro w mg fa h KX G hmg
    obtain ⟨a, T⟩ : ∃ a : K25.Adr, K25.Txt (L2.KOf KX) mg a := by
      dsimp only [L2.KOf]
      refine' K25.mk_txt (L2.tf_mk KX G ?a1 ?l1 ?c1 ?k1)
          (L2.tf_mk KX G ?a2 ?l2 ?c2 ?k2)
          (L2.tf_mk KX G ?a3 ?l3 ?c3 ?k3)
          (L2.tf_mk KX G ?a4 ?l4 ?c4 ?k4)
          (L2.tf_mk KX G ?a5 ?l5 ?c5 ?k5)
          (L2.tf_mk KX G ?a6 ?l6 ?c6 ?k6)
          (L2.tf_mk KX G ?a7 ?l7 ?c7 ?k7)
          (L2.tf_mk KX G ?a8 ?l8 ?c8 ?k8)
          (L2.tf_mk KX G ?a9 ?l9 ?c9 ?k9)
          (L2.tf_mk KX G ?a10 ?l10 ?c10 ?k10)
          (L2.tf_mk KX G ?a11 ?l11 ?c11 ?k11)
          (L2.tf_mk KX G ?a12 ?l12 ?c12 ?k12)
          (L2.tf_mk KX G ?a13 ?l13 ?c13 ?k13)
          (L2.tf_mk KX G ?a14 ?l14 ?c14 ?k14)
          (L2.topT_mk KX G ?a15 ?l15 ?c15 ?d15 ?z15 ?v15)
          (L2.topT_mk KX G ?a16 ?l16 ?c16 ?d16 ?z16 ?v16)
          (L2.topT_mk KX G ?a17 ?l17 ?c17 ?d17 ?z17 ?v17)
          (PySem.W.mg_none_of KX G ?a18)
          (PySem.W.mg_none_of KX G ?a19)
          (PySem.W.mg_none_of KX G ?a20)
          (PySem.W.mg_none_of KX G ?a21)
          (PySem.W.mg_none_of KX G ?a22)
          (PySem.W.mg_none_of KX G ?a23)
          (PySem.W.mg_none_of KX G ?a24)
          (PySem.W.mg_none_of KX G ?a25)
          ⟨PySem.W.mg_of KX G ?a26, ?e26⟩
          ⟨PySem.W.mg_of KX G ?a27, ?e27⟩
          ⟨PySem.W.mg_of KX G ?a28, ?e28⟩
          ⟨PySem.W.mg_of KX G ?a29, ?e29⟩
          ⟨PySem.W.mg_of KX G ?a30, ?e30⟩
          ⟨PySem.W.mg_of KX G ?a31, ?e31⟩
          ⟨PySem.W.mg_of KX G ?a32, ?e32⟩
          ⟨PySem.W.mg_of KX G ?a33, ?e33⟩
          ⟨PySem.W.mg_of KX G ?a34, ?e34⟩
          ⟨PySem.W.mg_of KX G ?a35, ?e35⟩
          (L2.subX_of ?l126 ?e126)
          ⟨?e136, ?f136, ?g136, ?h136, ?i136⟩
          (L2.look_of ?l137)
          (?e139)
          (?e140)
          (?e141)
          (?e142)
          (?e143)
          (?e144)
          (?e145)
          (?e146)
          (?e147)
          (?e148)
      (case a1 => k_is); (case l1 => k_is); (case c1 => k_is); (case k1 => k_is)
      (case a2 => k_is); (case l2 => k_is); (case c2 => k_is); (case k2 => k_is)
      (case a3 => k_is); (case l3 => k_is); (case c3 => k_is); (case k3 => k_is)
      (case a4 => k_is); (case l4 => k_is); (case c4 => k_is); (case k4 => k_is)
      (case a5 => k_is); (case l5 => k_is); (case c5 => k_is); (case k5 => k_is)
      (case a6 => k_is); (case l6 => k_is); (case c6 => k_is); (case k6 => k_is)
      (case a7 => k_is); (case l7 => k_is); (case c7 => k_is); (case k7 => k_is)
      (case a8 => k_is); (case l8 => k_is); (case c8 => k_is); (case k8 => k_is)
      (case a9 => k_is); (case l9 => k_is); (case c9 => k_is); (case k9 => k_is)
      (case a10 => k_is); (case l10 => k_is); (case c10 => k_is); (case k10 => k_is)
      (case a11 => k_is); (case l11 => k_is); (case c11 => k_is); (case k11 => k_is)
      (case a12 => k_is); (case l12 => k_is); (case c12 => k_is); (case k12 => k_is)
      (case a13 => k_is); (case l13 => k_is); (case c13 => k_is); (case k13 => k_is)
      (case a14 => k_is); (case l14 => k_is); (case c14 => k_is); (case k14 => k_is)
      (case a15 => k_is); (case l15 => k_is); (case c15 => rfl); (case d15 => rfl); (case z15 => decide); (case v15 => exact (.cons ⟨_, rfl⟩ (.cons ⟨_, rfl⟩ .nil)))
      (case a16 => k_is); (case l16 => k_is); (case c16 => rfl); (case d16 => rfl); (case z16 => decide); (case v16 => exact (.cons ⟨_, rfl⟩ (.cons ⟨_, rfl⟩ (.cons ⟨_, rfl⟩ (.cons ⟨_, rfl⟩ (.cons ⟨_, rfl⟩ (.cons ⟨_, rfl⟩ (.cons ⟨_, rfl⟩ (.cons ⟨_, rfl⟩ (.cons ⟨_, rfl⟩ (.cons ⟨_, rfl⟩ (.cons ⟨_, rfl⟩ (.cons ⟨_, rfl⟩ (.cons ⟨_, rfl⟩ .nil))))))))))))))
      (case a17 => k_is); (case l17 => k_is); (case c17 => rfl); (case d17 => rfl); (case z17 => decide); (case v17 => exact (.cons ⟨_, rfl⟩ (.cons ⟨_, rfl⟩ (.cons ⟨_, rfl⟩ (.cons ⟨_, rfl⟩ (.cons ⟨_, rfl⟩ .nil))))))
      (case a18 => k_is)
      (case a19 => k_is)
      (case a20 => k_is)
      (case a21 => k_is)
      (case a22 => k_is)
      (case a23 => k_is)
      (case a24 => k_is)
      (case a25 => k_is)
      (case a26 => k_is); (case e26 => k_exc)
      (case a27 => k_is); (case e27 => k_exc)
      (case a28 => k_is); (case e28 => k_exc)
      (case a29 => k_is); (case e29 => k_exc)
      (case a30 => k_is); (case e30 => k_exc)
      (case a31 => k_is); (case e31 => k_exc)
      (case a32 => k_is); (case e32 => k_exc)
      (case a33 => k_is); (case e33 => k_exc)
      (case a34 => k_is); (case e34 => k_exc)
      (case a35 => k_is); (case e35 => k_exc)
      (case l126 => k_is); (case e126 => rfl)
      (case e136 => k_is); (case f136 => k_is); (case g136 => k_is); (case h136 => k_is); (case i136 => k_is)
      (case l137 => k_is)
      (case e139 => kit_is)
      (case e140 => kit_is)
      (case e141 => kit_is)
      (case e142 => kit_is)
      (case e143 => kit_is)
      (case e144 => kit_is)
      (case e145 => kit_is)
      (case e146 => kit_is)
      (case e147 => kit_is)
      (case e148 => kit_is)
    exact (L2.head_of T.f_law (fun base => K25.ok_law T) hmg (fun _ _ _ _ _ _ s u => .of_eq rfl)).imp fun fd hf => ⟨hf.1, fun base _ _ => hf.2 base⟩
